/-
  NARROWER THAN 'FOR EVERY INPUT', by the rows' own cells (each row's printed sentence says how): FnExactAddPolys: ifaces, laid · FnExactSubPolys: ifaces, laid · FnExactMulPolys: ifaces, laid · FnExactComposePolys: ifaces, laid · FnExactDerivativeOf: ifaces, laid · FnExactReversePoly: ifaces, laid · FnExactPolyText: ifaces, laid · FnExactPolyOf: ifaces, laid · FnExactTermsOf: ifaces, laid · FnExactIsRecurrenceOf: ifaces, laid · FnExactCompanionOf: ifaces, laid.
  DERIVED. THE GIVEN ROWS OF THIS SEAT. 11 by the template 'for every input the law returns true; each argument reads behind the call as it read before'; 0 by the template 'total and deterministic' (their statements: YtegdcmcfeaohhaaGreatDoorTotals.lean).
  GIVEN WITH THE SEED: the statements are not yours to turn. If you find one false, say at which input.
  Laid BY PROGRAM, IN A SANDBOX (cutbox-rows.mjs): the forced cells as the released guide's own fill.sh prints them over the translation e562252a54b5262b… (all of the seat's roots in one cut). By AI agents, Wed Nov 11 2026. No macro, syntax, notation, axiom, sorry.
-/
import Derived.Test.YtegdcmcfeaohhaaGreatDoorChecked
import GoSem.Claim
import GoSem.ClaimJoined
import GoSem.ClaimMapViews
import Derived.JoinedTies
import Derived.KernelRfl
namespace Go.Proofs.YtegdcmcfeaohhaaGreatDoor
/- THE CELL 'sum', in the pinned program and in every row, IS THE sha256 OF THE DUMP (.gsa) THAT YtegdcmcfeaohhaaGreatDoorProg.lean LOADS. Nothing in Lean hashes anything: it is a label: what it is worth is what the hold of that sum in a sandbox is worth. -/
noncomputable def Tryz.pinned : Pinned := { name := "ytegdcmcfeaohhaagreatdoor", sum := "e562252a54b5262b12e1a22fac9daca9c22ceb610696bd06e1b30fa8fb2d19ab", checked := Tryz.checked }
namespace Rows
def none {H : Type} : Left H := { results := [], args := [] }

/- WHAT THE LISTED PACKAGE-LEVEL VARIABLES READ AS WHEN THE CALL BEGINS. Each datum BY PROGRAM (the guide's laid-datum.mjs) off the statement by which the dump's own 'gosem.cut.vars' lays the variable. In a bare row this is a premise. The card (YtegdcmcfeaohhaaGreatDoorCards.lean) ties it to the program's text. -/
def laid_math_bits_deBruijn32tab {H : Type} : DataW H := .agg [.lit (.int .u8 0), .lit (.int .u8 1), .lit (.int .u8 28), .lit (.int .u8 2), .lit (.int .u8 29), .lit (.int .u8 14), .lit (.int .u8 24), .lit (.int .u8 3), .lit (.int .u8 30), .lit (.int .u8 22), .lit (.int .u8 20), .lit (.int .u8 15), .lit (.int .u8 25), .lit (.int .u8 17), .lit (.int .u8 4), .lit (.int .u8 8), .lit (.int .u8 31), .lit (.int .u8 27), .lit (.int .u8 13), .lit (.int .u8 23), .lit (.int .u8 21), .lit (.int .u8 19), .lit (.int .u8 16), .lit (.int .u8 7), .lit (.int .u8 26), .lit (.int .u8 12), .lit (.int .u8 18), .lit (.int .u8 6), .lit (.int .u8 11), .lit (.int .u8 5), .lit (.int .u8 10), .lit (.int .u8 9)]
def laid_math_bits_deBruijn64tab {H : Type} : DataW H := .agg [.lit (.int .u8 0), .lit (.int .u8 1), .lit (.int .u8 56), .lit (.int .u8 2), .lit (.int .u8 57), .lit (.int .u8 49), .lit (.int .u8 28), .lit (.int .u8 3), .lit (.int .u8 61), .lit (.int .u8 58), .lit (.int .u8 42), .lit (.int .u8 50), .lit (.int .u8 38), .lit (.int .u8 29), .lit (.int .u8 17), .lit (.int .u8 4), .lit (.int .u8 62), .lit (.int .u8 47), .lit (.int .u8 59), .lit (.int .u8 36), .lit (.int .u8 45), .lit (.int .u8 43), .lit (.int .u8 51), .lit (.int .u8 22), .lit (.int .u8 53), .lit (.int .u8 39), .lit (.int .u8 33), .lit (.int .u8 30), .lit (.int .u8 24), .lit (.int .u8 18), .lit (.int .u8 12), .lit (.int .u8 5), .lit (.int .u8 63), .lit (.int .u8 55), .lit (.int .u8 48), .lit (.int .u8 27), .lit (.int .u8 60), .lit (.int .u8 41), .lit (.int .u8 37), .lit (.int .u8 16), .lit (.int .u8 46), .lit (.int .u8 35), .lit (.int .u8 44), .lit (.int .u8 21), .lit (.int .u8 52), .lit (.int .u8 32), .lit (.int .u8 23), .lit (.int .u8 11), .lit (.int .u8 54), .lit (.int .u8 26), .lit (.int .u8 40), .lit (.int .u8 15), .lit (.int .u8 34), .lit (.int .u8 20), .lit (.int .u8 31), .lit (.int .u8 10), .lit (.int .u8 25), .lit (.int .u8 14), .lit (.int .u8 19), .lit (.int .u8 9), .lit (.int .u8 13), .lit (.int .u8 8), .lit (.int .u8 7), .lit (.int .u8 6)]
def laid_internal_strconv_uint64pow10 {H : Type} : DataW H := .agg [.lit (.int .u64 1), .lit (.int .u64 10), .lit (.int .u64 100), .lit (.int .u64 1000), .lit (.int .u64 10000), .lit (.int .u64 100000), .lit (.int .u64 1000000), .lit (.int .u64 10000000), .lit (.int .u64 100000000), .lit (.int .u64 1000000000), .lit (.int .u64 10000000000), .lit (.int .u64 100000000000), .lit (.int .u64 1000000000000), .lit (.int .u64 10000000000000), .lit (.int .u64 100000000000000), .lit (.int .u64 1000000000000000), .lit (.int .u64 10000000000000000), .lit (.int .u64 100000000000000000), .lit (.int .u64 1000000000000000000), .lit (.int .u64 10000000000000000000)]
def laid_errors_errorType {H : Type} : DataW H := .iface "internal/reflectlite.rtype" (.agg [.ptr (.lit (.string [101, 114, 114, 111, 114]))])
def laid_loop_example_g01120_impl_errForm {H : Type} : DataW H := .iface "*errors.errorString" (.ptr (.agg [.lit (.string [110, 111, 116, 32, 116, 104, 101, 32, 116, 101, 120, 116, 32, 111, 102, 32, 97, 32, 110, 117, 109, 98, 101, 114])]))
def laid_loop_example_g01120_impl_errSize {H : Type} : DataW H := .iface "*errors.errorString" (.ptr (.agg [.lit (.string [116, 111, 111, 32, 109, 97, 110, 121, 32, 100, 105, 103, 105, 116, 115, 32, 111, 114, 32, 105, 116, 101, 109, 115])]))

/-- 'laws.FnExactAddPolys': WHATEVER THE INPUT: true; the input reads as it did. -/
def fnExactAddPolysSpec : ChangeSpec := { name := "fnExactAddPolys", vars := ["loop.example/g01120/impl.errSize", "loop.example/g01120/impl.errForm"], fn := fun _ => fun
  | [d1, d2, g1, g2] => { results := [.lit (.bool true)], args := [d1, d2], vars := [g1, g2] }
  | _ => none }
def fnExactAddPolysRow : OpenClaim := { program := "ytegdcmcfeaohhaagreatdoor", sum := "e562252a54b5262b12e1a22fac9daca9c22ceb610696bd06e1b30fa8fb2d19ab", func := "loop.example/g01120/laws.FnExactAddPolys", spec := "fnExactAddPolys", inPlace := ["math/bits.Add64", "internal/reflectlite.ValueOf", "(internal/reflectlite.Value).Type", "(internal/reflectlite.Value).IsNil", "internal/reflectlite.TypeOf", "(internal/reflectlite.Value).Elem", "(internal/reflectlite.Value).Set", "math/bits.Sub64", "internal/abi.NoEscape", "internal/bytealg.MakeNoZero"], unfollowed := true, recurses := true, named := ["loop.example/g01120/impl.errSize", "loop.example/g01120/impl.errForm", "errors.errorType", "math/bits.divideError", "math/bits.overflowError", "internal/strconv.uint64pow10", "math/bits.deBruijn32tab", "math/bits.deBruijn64tab"], ifaces := true, apart := false, laid := [("math/bits.deBruijn32tab", laid_math_bits_deBruijn32tab), ("math/bits.deBruijn64tab", laid_math_bits_deBruijn64tab), ("internal/strconv.uint64pow10", laid_internal_strconv_uint64pow10), ("errors.errorType", laid_errors_errorType), ("loop.example/g01120/impl.errForm", laid_loop_example_g01120_impl_errForm), ("loop.example/g01120/impl.errSize", laid_loop_example_g01120_impl_errSize)] }
def FnExactAddPolysSaid : Prop := fnExactAddPolysRow.holds Tryz.pinned (OpenSpec.ofChange fnExactAddPolysSpec)

/-- ITS FALSE NEIGHBOUR: 'it returns false'. Refute it at one input. -/
def fnExactAddPolysWrong : ChangeSpec := { name := "fnExactAddPolys", vars := ["loop.example/g01120/impl.errSize", "loop.example/g01120/impl.errForm"], fn := fun _ => fun
  | [d1, d2, g1, g2] => { results := [.lit (.bool false)], args := [d1, d2], vars := [g1, g2] }
  | _ => none }
def FnExactAddPolysWrongFalsely : Prop := fnExactAddPolysRow.holds Tryz.pinned (OpenSpec.ofChange fnExactAddPolysWrong)

/-- 'laws.FnExactSubPolys': WHATEVER THE INPUT: true; the input reads as it did. -/
def fnExactSubPolysSpec : ChangeSpec := { name := "fnExactSubPolys", vars := ["loop.example/g01120/impl.errSize", "loop.example/g01120/impl.errForm"], fn := fun _ => fun
  | [d1, d2, g1, g2] => { results := [.lit (.bool true)], args := [d1, d2], vars := [g1, g2] }
  | _ => none }
def fnExactSubPolysRow : OpenClaim := { program := "ytegdcmcfeaohhaagreatdoor", sum := "e562252a54b5262b12e1a22fac9daca9c22ceb610696bd06e1b30fa8fb2d19ab", func := "loop.example/g01120/laws.FnExactSubPolys", spec := "fnExactSubPolys", inPlace := ["math/bits.Add64", "internal/reflectlite.ValueOf", "(internal/reflectlite.Value).Type", "(internal/reflectlite.Value).IsNil", "internal/reflectlite.TypeOf", "(internal/reflectlite.Value).Elem", "(internal/reflectlite.Value).Set", "math/bits.Sub64", "internal/abi.NoEscape", "internal/bytealg.MakeNoZero"], unfollowed := true, recurses := true, named := ["loop.example/g01120/impl.errSize", "loop.example/g01120/impl.errForm", "errors.errorType", "math/bits.divideError", "math/bits.overflowError", "internal/strconv.uint64pow10", "math/bits.deBruijn32tab", "math/bits.deBruijn64tab"], ifaces := true, apart := false, laid := [("math/bits.deBruijn32tab", laid_math_bits_deBruijn32tab), ("math/bits.deBruijn64tab", laid_math_bits_deBruijn64tab), ("internal/strconv.uint64pow10", laid_internal_strconv_uint64pow10), ("errors.errorType", laid_errors_errorType), ("loop.example/g01120/impl.errForm", laid_loop_example_g01120_impl_errForm), ("loop.example/g01120/impl.errSize", laid_loop_example_g01120_impl_errSize)] }
def FnExactSubPolysSaid : Prop := fnExactSubPolysRow.holds Tryz.pinned (OpenSpec.ofChange fnExactSubPolysSpec)

/-- ITS FALSE NEIGHBOUR: 'it returns false'. Refute it at one input. -/
def fnExactSubPolysWrong : ChangeSpec := { name := "fnExactSubPolys", vars := ["loop.example/g01120/impl.errSize", "loop.example/g01120/impl.errForm"], fn := fun _ => fun
  | [d1, d2, g1, g2] => { results := [.lit (.bool false)], args := [d1, d2], vars := [g1, g2] }
  | _ => none }
def FnExactSubPolysWrongFalsely : Prop := fnExactSubPolysRow.holds Tryz.pinned (OpenSpec.ofChange fnExactSubPolysWrong)

/-- 'laws.FnExactMulPolys': WHATEVER THE INPUT: true; the input reads as it did. -/
def fnExactMulPolysSpec : ChangeSpec := { name := "fnExactMulPolys", vars := ["loop.example/g01120/impl.errSize", "loop.example/g01120/impl.errForm"], fn := fun _ => fun
  | [d1, d2, g1, g2] => { results := [.lit (.bool true)], args := [d1, d2], vars := [g1, g2] }
  | _ => none }
def fnExactMulPolysRow : OpenClaim := { program := "ytegdcmcfeaohhaagreatdoor", sum := "e562252a54b5262b12e1a22fac9daca9c22ceb610696bd06e1b30fa8fb2d19ab", func := "loop.example/g01120/laws.FnExactMulPolys", spec := "fnExactMulPolys", inPlace := ["math/bits.Add64", "internal/reflectlite.ValueOf", "(internal/reflectlite.Value).Type", "(internal/reflectlite.Value).IsNil", "internal/reflectlite.TypeOf", "(internal/reflectlite.Value).Elem", "(internal/reflectlite.Value).Set", "math/bits.Sub64", "internal/abi.NoEscape", "internal/bytealg.MakeNoZero"], unfollowed := true, recurses := true, named := ["loop.example/g01120/impl.errSize", "loop.example/g01120/impl.errForm", "errors.errorType", "math/bits.divideError", "math/bits.overflowError", "internal/strconv.uint64pow10", "math/bits.deBruijn32tab", "math/bits.deBruijn64tab"], ifaces := true, apart := false, laid := [("math/bits.deBruijn32tab", laid_math_bits_deBruijn32tab), ("math/bits.deBruijn64tab", laid_math_bits_deBruijn64tab), ("internal/strconv.uint64pow10", laid_internal_strconv_uint64pow10), ("errors.errorType", laid_errors_errorType), ("loop.example/g01120/impl.errForm", laid_loop_example_g01120_impl_errForm), ("loop.example/g01120/impl.errSize", laid_loop_example_g01120_impl_errSize)] }
def FnExactMulPolysSaid : Prop := fnExactMulPolysRow.holds Tryz.pinned (OpenSpec.ofChange fnExactMulPolysSpec)

/-- ITS FALSE NEIGHBOUR: 'it returns false'. Refute it at one input. -/
def fnExactMulPolysWrong : ChangeSpec := { name := "fnExactMulPolys", vars := ["loop.example/g01120/impl.errSize", "loop.example/g01120/impl.errForm"], fn := fun _ => fun
  | [d1, d2, g1, g2] => { results := [.lit (.bool false)], args := [d1, d2], vars := [g1, g2] }
  | _ => none }
def FnExactMulPolysWrongFalsely : Prop := fnExactMulPolysRow.holds Tryz.pinned (OpenSpec.ofChange fnExactMulPolysWrong)

/-- 'laws.FnExactComposePolys': WHATEVER THE INPUT: true; the input reads as it did. -/
def fnExactComposePolysSpec : ChangeSpec := { name := "fnExactComposePolys", vars := ["loop.example/g01120/impl.errSize", "loop.example/g01120/impl.errForm"], fn := fun _ => fun
  | [d1, d2, g1, g2] => { results := [.lit (.bool true)], args := [d1, d2], vars := [g1, g2] }
  | _ => none }
def fnExactComposePolysRow : OpenClaim := { program := "ytegdcmcfeaohhaagreatdoor", sum := "e562252a54b5262b12e1a22fac9daca9c22ceb610696bd06e1b30fa8fb2d19ab", func := "loop.example/g01120/laws.FnExactComposePolys", spec := "fnExactComposePolys", inPlace := ["math/bits.Add64", "internal/reflectlite.ValueOf", "(internal/reflectlite.Value).Type", "(internal/reflectlite.Value).IsNil", "internal/reflectlite.TypeOf", "(internal/reflectlite.Value).Elem", "(internal/reflectlite.Value).Set", "math/bits.Sub64", "internal/abi.NoEscape", "internal/bytealg.MakeNoZero"], unfollowed := true, recurses := true, named := ["loop.example/g01120/impl.errSize", "loop.example/g01120/impl.errForm", "errors.errorType", "math/bits.divideError", "math/bits.overflowError", "internal/strconv.uint64pow10", "math/bits.deBruijn32tab", "math/bits.deBruijn64tab"], ifaces := true, apart := false, laid := [("math/bits.deBruijn32tab", laid_math_bits_deBruijn32tab), ("math/bits.deBruijn64tab", laid_math_bits_deBruijn64tab), ("internal/strconv.uint64pow10", laid_internal_strconv_uint64pow10), ("errors.errorType", laid_errors_errorType), ("loop.example/g01120/impl.errForm", laid_loop_example_g01120_impl_errForm), ("loop.example/g01120/impl.errSize", laid_loop_example_g01120_impl_errSize)] }
def FnExactComposePolysSaid : Prop := fnExactComposePolysRow.holds Tryz.pinned (OpenSpec.ofChange fnExactComposePolysSpec)

/-- ITS FALSE NEIGHBOUR: 'it returns false'. Refute it at one input. -/
def fnExactComposePolysWrong : ChangeSpec := { name := "fnExactComposePolys", vars := ["loop.example/g01120/impl.errSize", "loop.example/g01120/impl.errForm"], fn := fun _ => fun
  | [d1, d2, g1, g2] => { results := [.lit (.bool false)], args := [d1, d2], vars := [g1, g2] }
  | _ => none }
def FnExactComposePolysWrongFalsely : Prop := fnExactComposePolysRow.holds Tryz.pinned (OpenSpec.ofChange fnExactComposePolysWrong)

/-- 'laws.FnExactDerivativeOf': WHATEVER THE INPUT: true; the input reads as it did. -/
def fnExactDerivativeOfSpec : ChangeSpec := { name := "fnExactDerivativeOf", vars := ["loop.example/g01120/impl.errSize", "loop.example/g01120/impl.errForm"], fn := fun _ => fun
  | [d, g1, g2] => { results := [.lit (.bool true)], args := [d], vars := [g1, g2] }
  | _ => none }
def fnExactDerivativeOfRow : OpenClaim := { program := "ytegdcmcfeaohhaagreatdoor", sum := "e562252a54b5262b12e1a22fac9daca9c22ceb610696bd06e1b30fa8fb2d19ab", func := "loop.example/g01120/laws.FnExactDerivativeOf", spec := "fnExactDerivativeOf", inPlace := ["math/bits.Add64", "internal/reflectlite.ValueOf", "(internal/reflectlite.Value).Type", "(internal/reflectlite.Value).IsNil", "internal/reflectlite.TypeOf", "(internal/reflectlite.Value).Elem", "(internal/reflectlite.Value).Set", "math/bits.Sub64", "internal/abi.NoEscape", "internal/bytealg.MakeNoZero"], unfollowed := true, recurses := true, named := ["loop.example/g01120/impl.errSize", "loop.example/g01120/impl.errForm", "errors.errorType", "math/bits.divideError", "math/bits.overflowError", "internal/strconv.uint64pow10", "math/bits.deBruijn32tab", "math/bits.deBruijn64tab"], ifaces := true, apart := false, laid := [("math/bits.deBruijn32tab", laid_math_bits_deBruijn32tab), ("math/bits.deBruijn64tab", laid_math_bits_deBruijn64tab), ("internal/strconv.uint64pow10", laid_internal_strconv_uint64pow10), ("errors.errorType", laid_errors_errorType), ("loop.example/g01120/impl.errForm", laid_loop_example_g01120_impl_errForm), ("loop.example/g01120/impl.errSize", laid_loop_example_g01120_impl_errSize)] }
def FnExactDerivativeOfSaid : Prop := fnExactDerivativeOfRow.holds Tryz.pinned (OpenSpec.ofChange fnExactDerivativeOfSpec)

/-- ITS FALSE NEIGHBOUR: 'it returns false'. Refute it at one input. -/
def fnExactDerivativeOfWrong : ChangeSpec := { name := "fnExactDerivativeOf", vars := ["loop.example/g01120/impl.errSize", "loop.example/g01120/impl.errForm"], fn := fun _ => fun
  | [d, g1, g2] => { results := [.lit (.bool false)], args := [d], vars := [g1, g2] }
  | _ => none }
def FnExactDerivativeOfWrongFalsely : Prop := fnExactDerivativeOfRow.holds Tryz.pinned (OpenSpec.ofChange fnExactDerivativeOfWrong)

/-- 'laws.FnExactReversePoly': WHATEVER THE INPUT: true; the input reads as it did. -/
def fnExactReversePolySpec : ChangeSpec := { name := "fnExactReversePoly", vars := ["loop.example/g01120/impl.errSize", "loop.example/g01120/impl.errForm"], fn := fun _ => fun
  | [d, g1, g2] => { results := [.lit (.bool true)], args := [d], vars := [g1, g2] }
  | _ => none }
def fnExactReversePolyRow : OpenClaim := { program := "ytegdcmcfeaohhaagreatdoor", sum := "e562252a54b5262b12e1a22fac9daca9c22ceb610696bd06e1b30fa8fb2d19ab", func := "loop.example/g01120/laws.FnExactReversePoly", spec := "fnExactReversePoly", inPlace := ["math/bits.Add64", "internal/reflectlite.ValueOf", "(internal/reflectlite.Value).Type", "(internal/reflectlite.Value).IsNil", "internal/reflectlite.TypeOf", "(internal/reflectlite.Value).Elem", "(internal/reflectlite.Value).Set", "math/bits.Sub64", "internal/abi.NoEscape", "internal/bytealg.MakeNoZero"], unfollowed := true, recurses := true, named := ["loop.example/g01120/impl.errSize", "loop.example/g01120/impl.errForm", "errors.errorType", "math/bits.divideError", "math/bits.overflowError", "internal/strconv.uint64pow10", "math/bits.deBruijn32tab", "math/bits.deBruijn64tab"], ifaces := true, apart := false, laid := [("math/bits.deBruijn32tab", laid_math_bits_deBruijn32tab), ("math/bits.deBruijn64tab", laid_math_bits_deBruijn64tab), ("internal/strconv.uint64pow10", laid_internal_strconv_uint64pow10), ("errors.errorType", laid_errors_errorType), ("loop.example/g01120/impl.errForm", laid_loop_example_g01120_impl_errForm), ("loop.example/g01120/impl.errSize", laid_loop_example_g01120_impl_errSize)] }
def FnExactReversePolySaid : Prop := fnExactReversePolyRow.holds Tryz.pinned (OpenSpec.ofChange fnExactReversePolySpec)

/-- ITS FALSE NEIGHBOUR: 'it returns false'. Refute it at one input. -/
def fnExactReversePolyWrong : ChangeSpec := { name := "fnExactReversePoly", vars := ["loop.example/g01120/impl.errSize", "loop.example/g01120/impl.errForm"], fn := fun _ => fun
  | [d, g1, g2] => { results := [.lit (.bool false)], args := [d], vars := [g1, g2] }
  | _ => none }
def FnExactReversePolyWrongFalsely : Prop := fnExactReversePolyRow.holds Tryz.pinned (OpenSpec.ofChange fnExactReversePolyWrong)

/-- 'laws.FnExactPolyText': WHATEVER THE INPUT: true; the input reads as it did. -/
def fnExactPolyTextSpec : ChangeSpec := { name := "fnExactPolyText", vars := ["loop.example/g01120/impl.errSize", "loop.example/g01120/impl.errForm"], fn := fun _ => fun
  | [d, g1, g2] => { results := [.lit (.bool true)], args := [d], vars := [g1, g2] }
  | _ => none }
def fnExactPolyTextRow : OpenClaim := { program := "ytegdcmcfeaohhaagreatdoor", sum := "e562252a54b5262b12e1a22fac9daca9c22ceb610696bd06e1b30fa8fb2d19ab", func := "loop.example/g01120/laws.FnExactPolyText", spec := "fnExactPolyText", inPlace := ["math/bits.Add64", "internal/reflectlite.ValueOf", "(internal/reflectlite.Value).Type", "(internal/reflectlite.Value).IsNil", "internal/reflectlite.TypeOf", "(internal/reflectlite.Value).Elem", "(internal/reflectlite.Value).Set", "math/bits.Sub64", "internal/abi.NoEscape"], unfollowed := true, recurses := true, named := ["loop.example/g01120/impl.errSize", "loop.example/g01120/impl.errForm", "errors.errorType", "math/bits.divideError", "math/bits.overflowError", "internal/strconv.uint64pow10", "math/bits.deBruijn32tab", "math/bits.deBruijn64tab"], ifaces := true, apart := false, laid := [("math/bits.deBruijn32tab", laid_math_bits_deBruijn32tab), ("math/bits.deBruijn64tab", laid_math_bits_deBruijn64tab), ("internal/strconv.uint64pow10", laid_internal_strconv_uint64pow10), ("errors.errorType", laid_errors_errorType), ("loop.example/g01120/impl.errForm", laid_loop_example_g01120_impl_errForm), ("loop.example/g01120/impl.errSize", laid_loop_example_g01120_impl_errSize)] }
def FnExactPolyTextSaid : Prop := fnExactPolyTextRow.holds Tryz.pinned (OpenSpec.ofChange fnExactPolyTextSpec)

/-- ITS FALSE NEIGHBOUR: 'it returns false'. Refute it at one input. -/
def fnExactPolyTextWrong : ChangeSpec := { name := "fnExactPolyText", vars := ["loop.example/g01120/impl.errSize", "loop.example/g01120/impl.errForm"], fn := fun _ => fun
  | [d, g1, g2] => { results := [.lit (.bool false)], args := [d], vars := [g1, g2] }
  | _ => none }
def FnExactPolyTextWrongFalsely : Prop := fnExactPolyTextRow.holds Tryz.pinned (OpenSpec.ofChange fnExactPolyTextWrong)

/-- 'laws.FnExactPolyOf': WHATEVER THE INPUT: true; the input reads as it did. -/
def fnExactPolyOfSpec : ChangeSpec := { name := "fnExactPolyOf", vars := ["loop.example/g01120/impl.errSize", "loop.example/g01120/impl.errForm"], fn := fun _ => fun
  | [d, g1, g2] => { results := [.lit (.bool true)], args := [d], vars := [g1, g2] }
  | _ => none }
def fnExactPolyOfRow : OpenClaim := { program := "ytegdcmcfeaohhaagreatdoor", sum := "e562252a54b5262b12e1a22fac9daca9c22ceb610696bd06e1b30fa8fb2d19ab", func := "loop.example/g01120/laws.FnExactPolyOf", spec := "fnExactPolyOf", inPlace := ["math/bits.Add64", "internal/reflectlite.ValueOf", "(internal/reflectlite.Value).Type", "(internal/reflectlite.Value).IsNil", "internal/reflectlite.TypeOf", "(internal/reflectlite.Value).Elem", "(internal/reflectlite.Value).Set", "math/bits.Sub64", "internal/abi.NoEscape", "internal/bytealg.MakeNoZero"], unfollowed := true, recurses := true, named := ["loop.example/g01120/impl.errSize", "loop.example/g01120/impl.errForm", "errors.errorType", "math/bits.divideError", "math/bits.overflowError", "internal/strconv.uint64pow10", "math/bits.deBruijn32tab", "math/bits.deBruijn64tab"], ifaces := true, apart := false, laid := [("math/bits.deBruijn32tab", laid_math_bits_deBruijn32tab), ("math/bits.deBruijn64tab", laid_math_bits_deBruijn64tab), ("internal/strconv.uint64pow10", laid_internal_strconv_uint64pow10), ("errors.errorType", laid_errors_errorType), ("loop.example/g01120/impl.errForm", laid_loop_example_g01120_impl_errForm), ("loop.example/g01120/impl.errSize", laid_loop_example_g01120_impl_errSize)] }
def FnExactPolyOfSaid : Prop := fnExactPolyOfRow.holds Tryz.pinned (OpenSpec.ofChange fnExactPolyOfSpec)

/-- ITS FALSE NEIGHBOUR: 'it returns false'. Refute it at one input. -/
def fnExactPolyOfWrong : ChangeSpec := { name := "fnExactPolyOf", vars := ["loop.example/g01120/impl.errSize", "loop.example/g01120/impl.errForm"], fn := fun _ => fun
  | [d, g1, g2] => { results := [.lit (.bool false)], args := [d], vars := [g1, g2] }
  | _ => none }
def FnExactPolyOfWrongFalsely : Prop := fnExactPolyOfRow.holds Tryz.pinned (OpenSpec.ofChange fnExactPolyOfWrong)

/-- 'laws.FnExactTermsOf': WHATEVER THE INPUT: true; the input reads as it did. -/
def fnExactTermsOfSpec : ChangeSpec := { name := "fnExactTermsOf", vars := ["loop.example/g01120/impl.errSize", "loop.example/g01120/impl.errForm"], fn := fun _ => fun
  | [d1, d2, g1, g2] => { results := [.lit (.bool true)], args := [d1, d2], vars := [g1, g2] }
  | _ => none }
def fnExactTermsOfRow : OpenClaim := { program := "ytegdcmcfeaohhaagreatdoor", sum := "e562252a54b5262b12e1a22fac9daca9c22ceb610696bd06e1b30fa8fb2d19ab", func := "loop.example/g01120/laws.FnExactTermsOf", spec := "fnExactTermsOf", inPlace := ["math/bits.Add64", "internal/reflectlite.ValueOf", "(internal/reflectlite.Value).Type", "(internal/reflectlite.Value).IsNil", "internal/reflectlite.TypeOf", "(internal/reflectlite.Value).Elem", "(internal/reflectlite.Value).Set", "math/bits.Sub64", "internal/abi.NoEscape", "internal/bytealg.MakeNoZero"], unfollowed := true, recurses := true, named := ["loop.example/g01120/impl.errSize", "loop.example/g01120/impl.errForm", "errors.errorType", "math/bits.divideError", "math/bits.overflowError", "internal/strconv.uint64pow10", "math/bits.deBruijn32tab", "math/bits.deBruijn64tab"], ifaces := true, apart := false, laid := [("math/bits.deBruijn32tab", laid_math_bits_deBruijn32tab), ("math/bits.deBruijn64tab", laid_math_bits_deBruijn64tab), ("internal/strconv.uint64pow10", laid_internal_strconv_uint64pow10), ("errors.errorType", laid_errors_errorType), ("loop.example/g01120/impl.errForm", laid_loop_example_g01120_impl_errForm), ("loop.example/g01120/impl.errSize", laid_loop_example_g01120_impl_errSize)] }
def FnExactTermsOfSaid : Prop := fnExactTermsOfRow.holds Tryz.pinned (OpenSpec.ofChange fnExactTermsOfSpec)

/-- ITS FALSE NEIGHBOUR: 'it returns false'. Refute it at one input. -/
def fnExactTermsOfWrong : ChangeSpec := { name := "fnExactTermsOf", vars := ["loop.example/g01120/impl.errSize", "loop.example/g01120/impl.errForm"], fn := fun _ => fun
  | [d1, d2, g1, g2] => { results := [.lit (.bool false)], args := [d1, d2], vars := [g1, g2] }
  | _ => none }
def FnExactTermsOfWrongFalsely : Prop := fnExactTermsOfRow.holds Tryz.pinned (OpenSpec.ofChange fnExactTermsOfWrong)

/-- 'laws.FnExactIsRecurrenceOf': WHATEVER THE INPUT: true; the input reads as it did. -/
def fnExactIsRecurrenceOfSpec : ChangeSpec := { name := "fnExactIsRecurrenceOf", vars := ["loop.example/g01120/impl.errSize", "loop.example/g01120/impl.errForm"], fn := fun _ => fun
  | [d1, d2, g1, g2] => { results := [.lit (.bool true)], args := [d1, d2], vars := [g1, g2] }
  | _ => none }
def fnExactIsRecurrenceOfRow : OpenClaim := { program := "ytegdcmcfeaohhaagreatdoor", sum := "e562252a54b5262b12e1a22fac9daca9c22ceb610696bd06e1b30fa8fb2d19ab", func := "loop.example/g01120/laws.FnExactIsRecurrenceOf", spec := "fnExactIsRecurrenceOf", inPlace := ["math/bits.Add64", "internal/reflectlite.ValueOf", "(internal/reflectlite.Value).Type", "(internal/reflectlite.Value).IsNil", "internal/reflectlite.TypeOf", "(internal/reflectlite.Value).Elem", "(internal/reflectlite.Value).Set", "math/bits.Sub64"], unfollowed := true, recurses := true, named := ["loop.example/g01120/impl.errSize", "loop.example/g01120/impl.errForm", "errors.errorType", "math/bits.divideError", "math/bits.overflowError"], ifaces := true, apart := false, laid := [("errors.errorType", laid_errors_errorType), ("loop.example/g01120/impl.errForm", laid_loop_example_g01120_impl_errForm), ("loop.example/g01120/impl.errSize", laid_loop_example_g01120_impl_errSize)] }
def FnExactIsRecurrenceOfSaid : Prop := fnExactIsRecurrenceOfRow.holds Tryz.pinned (OpenSpec.ofChange fnExactIsRecurrenceOfSpec)

/-- ITS FALSE NEIGHBOUR: 'it returns false'. Refute it at one input. -/
def fnExactIsRecurrenceOfWrong : ChangeSpec := { name := "fnExactIsRecurrenceOf", vars := ["loop.example/g01120/impl.errSize", "loop.example/g01120/impl.errForm"], fn := fun _ => fun
  | [d1, d2, g1, g2] => { results := [.lit (.bool false)], args := [d1, d2], vars := [g1, g2] }
  | _ => none }
def FnExactIsRecurrenceOfWrongFalsely : Prop := fnExactIsRecurrenceOfRow.holds Tryz.pinned (OpenSpec.ofChange fnExactIsRecurrenceOfWrong)

/-- 'laws.FnExactCompanionOf': WHATEVER THE INPUT: true; the input reads as it did. -/
def fnExactCompanionOfSpec : ChangeSpec := { name := "fnExactCompanionOf", vars := ["loop.example/g01120/impl.errSize", "loop.example/g01120/impl.errForm"], fn := fun _ => fun
  | [d, g1, g2] => { results := [.lit (.bool true)], args := [d], vars := [g1, g2] }
  | _ => none }
def fnExactCompanionOfRow : OpenClaim := { program := "ytegdcmcfeaohhaagreatdoor", sum := "e562252a54b5262b12e1a22fac9daca9c22ceb610696bd06e1b30fa8fb2d19ab", func := "loop.example/g01120/laws.FnExactCompanionOf", spec := "fnExactCompanionOf", inPlace := ["math/bits.Add64", "internal/reflectlite.ValueOf", "(internal/reflectlite.Value).Type", "(internal/reflectlite.Value).IsNil", "internal/reflectlite.TypeOf", "(internal/reflectlite.Value).Elem", "(internal/reflectlite.Value).Set", "math/bits.Sub64"], unfollowed := true, recurses := true, named := ["loop.example/g01120/impl.errSize", "loop.example/g01120/impl.errForm", "errors.errorType", "math/bits.divideError", "math/bits.overflowError"], ifaces := true, apart := false, laid := [("errors.errorType", laid_errors_errorType), ("loop.example/g01120/impl.errForm", laid_loop_example_g01120_impl_errForm), ("loop.example/g01120/impl.errSize", laid_loop_example_g01120_impl_errSize)] }
def FnExactCompanionOfSaid : Prop := fnExactCompanionOfRow.holds Tryz.pinned (OpenSpec.ofChange fnExactCompanionOfSpec)

/-- ITS FALSE NEIGHBOUR: 'it returns false'. Refute it at one input. -/
def fnExactCompanionOfWrong : ChangeSpec := { name := "fnExactCompanionOf", vars := ["loop.example/g01120/impl.errSize", "loop.example/g01120/impl.errForm"], fn := fun _ => fun
  | [d, g1, g2] => { results := [.lit (.bool false)], args := [d], vars := [g1, g2] }
  | _ => none }
def FnExactCompanionOfWrongFalsely : Prop := fnExactCompanionOfRow.holds Tryz.pinned (OpenSpec.ofChange fnExactCompanionOfWrong)

/- THE SECOND FORM. 'bulk': how many values and letters a reading holds, each counted each time it is reached (what is shared counts as often as it is met; a slice's spare places count too). A statement '..UptoSaid' is the law's where the arguments, and the package variables that the reading takes, are together of bulk at most 1048576: NARROWER than '..Said'. Prove '..Said' where nothing that the law and all that it calls make is longer than what came in: it says more and counts as full. Else prove '..UptoSaid'. A law counts once. -/
mutual
def uptoBulk {H : Type} : DataW H → Nat
  | .lit (.string bytes) => bytes.length + 1
  | .lit _ => 1
  | .nil => 1
  | .ptr d => uptoBulk d + 1
  | .slice elems spare => uptoBulkAll elems + uptoBulkAll spare + 1
  | .agg parts => uptoBulkAll parts + 1
  | .iface _ d => uptoBulk d + 1
  | .map entries => uptoBulkEntries entries + 1
  | .held _ => 1
def uptoBulkAll {H : Type} : List (DataW H) → Nat
  | [] => 0
  | d :: r => uptoBulk d + uptoBulkAll r
def uptoBulkEntries {H : Type} : List (Lit × DataW H) → Nat
  | [] => 0
  | x :: r => uptoBulkEntry x + uptoBulkEntries r
def uptoBulkEntry {H : Type} : Lit × DataW H → Nat
  | (.string bytes, d) => bytes.length + uptoBulk d + 1
  | (_, d) => uptoBulk d + 1
 end
def uptoSmall : (H : Type) → List (DataW H) → Bool := fun _ ds => decide (uptoBulkAll ds ≤ 1048576)
def OpenSpec.upto (s : _root_.Go.ChangeSpec) : _root_.Go.OpenSpec := { _root_.Go.OpenSpec.ofChange s with cond := some uptoSmall }

/-- 'laws.FnExactAddPolys', WHERE WHAT IT READS IS OF BULK AT MOST 1048576: true; the input reads as it did. -/
def fnExactAddPolysUptoRow : OpenClaim := { program := "ytegdcmcfeaohhaagreatdoor", sum := "e562252a54b5262b12e1a22fac9daca9c22ceb610696bd06e1b30fa8fb2d19ab", func := "loop.example/g01120/laws.FnExactAddPolys", spec := "fnExactAddPolys", inPlace := ["math/bits.Add64", "internal/reflectlite.ValueOf", "(internal/reflectlite.Value).Type", "(internal/reflectlite.Value).IsNil", "internal/reflectlite.TypeOf", "(internal/reflectlite.Value).Elem", "(internal/reflectlite.Value).Set", "math/bits.Sub64", "internal/abi.NoEscape", "internal/bytealg.MakeNoZero"], unfollowed := true, recurses := true, named := ["loop.example/g01120/impl.errSize", "loop.example/g01120/impl.errForm", "errors.errorType", "math/bits.divideError", "math/bits.overflowError", "internal/strconv.uint64pow10", "math/bits.deBruijn32tab", "math/bits.deBruijn64tab"], ifaces := true, apart := false, laid := [("math/bits.deBruijn32tab", laid_math_bits_deBruijn32tab), ("math/bits.deBruijn64tab", laid_math_bits_deBruijn64tab), ("internal/strconv.uint64pow10", laid_internal_strconv_uint64pow10), ("errors.errorType", laid_errors_errorType), ("loop.example/g01120/impl.errForm", laid_loop_example_g01120_impl_errForm), ("loop.example/g01120/impl.errSize", laid_loop_example_g01120_impl_errSize)], narrowed := true }
def FnExactAddPolysUptoSaid : Prop := fnExactAddPolysUptoRow.holds Tryz.pinned (OpenSpec.upto fnExactAddPolysSpec)

/-- 'laws.FnExactSubPolys', WHERE WHAT IT READS IS OF BULK AT MOST 1048576: true; the input reads as it did. -/
def fnExactSubPolysUptoRow : OpenClaim := { program := "ytegdcmcfeaohhaagreatdoor", sum := "e562252a54b5262b12e1a22fac9daca9c22ceb610696bd06e1b30fa8fb2d19ab", func := "loop.example/g01120/laws.FnExactSubPolys", spec := "fnExactSubPolys", inPlace := ["math/bits.Add64", "internal/reflectlite.ValueOf", "(internal/reflectlite.Value).Type", "(internal/reflectlite.Value).IsNil", "internal/reflectlite.TypeOf", "(internal/reflectlite.Value).Elem", "(internal/reflectlite.Value).Set", "math/bits.Sub64", "internal/abi.NoEscape", "internal/bytealg.MakeNoZero"], unfollowed := true, recurses := true, named := ["loop.example/g01120/impl.errSize", "loop.example/g01120/impl.errForm", "errors.errorType", "math/bits.divideError", "math/bits.overflowError", "internal/strconv.uint64pow10", "math/bits.deBruijn32tab", "math/bits.deBruijn64tab"], ifaces := true, apart := false, laid := [("math/bits.deBruijn32tab", laid_math_bits_deBruijn32tab), ("math/bits.deBruijn64tab", laid_math_bits_deBruijn64tab), ("internal/strconv.uint64pow10", laid_internal_strconv_uint64pow10), ("errors.errorType", laid_errors_errorType), ("loop.example/g01120/impl.errForm", laid_loop_example_g01120_impl_errForm), ("loop.example/g01120/impl.errSize", laid_loop_example_g01120_impl_errSize)], narrowed := true }
def FnExactSubPolysUptoSaid : Prop := fnExactSubPolysUptoRow.holds Tryz.pinned (OpenSpec.upto fnExactSubPolysSpec)

/-- 'laws.FnExactMulPolys', WHERE WHAT IT READS IS OF BULK AT MOST 1048576: true; the input reads as it did. -/
def fnExactMulPolysUptoRow : OpenClaim := { program := "ytegdcmcfeaohhaagreatdoor", sum := "e562252a54b5262b12e1a22fac9daca9c22ceb610696bd06e1b30fa8fb2d19ab", func := "loop.example/g01120/laws.FnExactMulPolys", spec := "fnExactMulPolys", inPlace := ["math/bits.Add64", "internal/reflectlite.ValueOf", "(internal/reflectlite.Value).Type", "(internal/reflectlite.Value).IsNil", "internal/reflectlite.TypeOf", "(internal/reflectlite.Value).Elem", "(internal/reflectlite.Value).Set", "math/bits.Sub64", "internal/abi.NoEscape", "internal/bytealg.MakeNoZero"], unfollowed := true, recurses := true, named := ["loop.example/g01120/impl.errSize", "loop.example/g01120/impl.errForm", "errors.errorType", "math/bits.divideError", "math/bits.overflowError", "internal/strconv.uint64pow10", "math/bits.deBruijn32tab", "math/bits.deBruijn64tab"], ifaces := true, apart := false, laid := [("math/bits.deBruijn32tab", laid_math_bits_deBruijn32tab), ("math/bits.deBruijn64tab", laid_math_bits_deBruijn64tab), ("internal/strconv.uint64pow10", laid_internal_strconv_uint64pow10), ("errors.errorType", laid_errors_errorType), ("loop.example/g01120/impl.errForm", laid_loop_example_g01120_impl_errForm), ("loop.example/g01120/impl.errSize", laid_loop_example_g01120_impl_errSize)], narrowed := true }
def FnExactMulPolysUptoSaid : Prop := fnExactMulPolysUptoRow.holds Tryz.pinned (OpenSpec.upto fnExactMulPolysSpec)

/-- 'laws.FnExactComposePolys', WHERE WHAT IT READS IS OF BULK AT MOST 1048576: true; the input reads as it did. -/
def fnExactComposePolysUptoRow : OpenClaim := { program := "ytegdcmcfeaohhaagreatdoor", sum := "e562252a54b5262b12e1a22fac9daca9c22ceb610696bd06e1b30fa8fb2d19ab", func := "loop.example/g01120/laws.FnExactComposePolys", spec := "fnExactComposePolys", inPlace := ["math/bits.Add64", "internal/reflectlite.ValueOf", "(internal/reflectlite.Value).Type", "(internal/reflectlite.Value).IsNil", "internal/reflectlite.TypeOf", "(internal/reflectlite.Value).Elem", "(internal/reflectlite.Value).Set", "math/bits.Sub64", "internal/abi.NoEscape", "internal/bytealg.MakeNoZero"], unfollowed := true, recurses := true, named := ["loop.example/g01120/impl.errSize", "loop.example/g01120/impl.errForm", "errors.errorType", "math/bits.divideError", "math/bits.overflowError", "internal/strconv.uint64pow10", "math/bits.deBruijn32tab", "math/bits.deBruijn64tab"], ifaces := true, apart := false, laid := [("math/bits.deBruijn32tab", laid_math_bits_deBruijn32tab), ("math/bits.deBruijn64tab", laid_math_bits_deBruijn64tab), ("internal/strconv.uint64pow10", laid_internal_strconv_uint64pow10), ("errors.errorType", laid_errors_errorType), ("loop.example/g01120/impl.errForm", laid_loop_example_g01120_impl_errForm), ("loop.example/g01120/impl.errSize", laid_loop_example_g01120_impl_errSize)], narrowed := true }
def FnExactComposePolysUptoSaid : Prop := fnExactComposePolysUptoRow.holds Tryz.pinned (OpenSpec.upto fnExactComposePolysSpec)

/-- 'laws.FnExactDerivativeOf', WHERE WHAT IT READS IS OF BULK AT MOST 1048576: true; the input reads as it did. -/
def fnExactDerivativeOfUptoRow : OpenClaim := { program := "ytegdcmcfeaohhaagreatdoor", sum := "e562252a54b5262b12e1a22fac9daca9c22ceb610696bd06e1b30fa8fb2d19ab", func := "loop.example/g01120/laws.FnExactDerivativeOf", spec := "fnExactDerivativeOf", inPlace := ["math/bits.Add64", "internal/reflectlite.ValueOf", "(internal/reflectlite.Value).Type", "(internal/reflectlite.Value).IsNil", "internal/reflectlite.TypeOf", "(internal/reflectlite.Value).Elem", "(internal/reflectlite.Value).Set", "math/bits.Sub64", "internal/abi.NoEscape", "internal/bytealg.MakeNoZero"], unfollowed := true, recurses := true, named := ["loop.example/g01120/impl.errSize", "loop.example/g01120/impl.errForm", "errors.errorType", "math/bits.divideError", "math/bits.overflowError", "internal/strconv.uint64pow10", "math/bits.deBruijn32tab", "math/bits.deBruijn64tab"], ifaces := true, apart := false, laid := [("math/bits.deBruijn32tab", laid_math_bits_deBruijn32tab), ("math/bits.deBruijn64tab", laid_math_bits_deBruijn64tab), ("internal/strconv.uint64pow10", laid_internal_strconv_uint64pow10), ("errors.errorType", laid_errors_errorType), ("loop.example/g01120/impl.errForm", laid_loop_example_g01120_impl_errForm), ("loop.example/g01120/impl.errSize", laid_loop_example_g01120_impl_errSize)], narrowed := true }
def FnExactDerivativeOfUptoSaid : Prop := fnExactDerivativeOfUptoRow.holds Tryz.pinned (OpenSpec.upto fnExactDerivativeOfSpec)

/-- 'laws.FnExactReversePoly', WHERE WHAT IT READS IS OF BULK AT MOST 1048576: true; the input reads as it did. -/
def fnExactReversePolyUptoRow : OpenClaim := { program := "ytegdcmcfeaohhaagreatdoor", sum := "e562252a54b5262b12e1a22fac9daca9c22ceb610696bd06e1b30fa8fb2d19ab", func := "loop.example/g01120/laws.FnExactReversePoly", spec := "fnExactReversePoly", inPlace := ["math/bits.Add64", "internal/reflectlite.ValueOf", "(internal/reflectlite.Value).Type", "(internal/reflectlite.Value).IsNil", "internal/reflectlite.TypeOf", "(internal/reflectlite.Value).Elem", "(internal/reflectlite.Value).Set", "math/bits.Sub64", "internal/abi.NoEscape", "internal/bytealg.MakeNoZero"], unfollowed := true, recurses := true, named := ["loop.example/g01120/impl.errSize", "loop.example/g01120/impl.errForm", "errors.errorType", "math/bits.divideError", "math/bits.overflowError", "internal/strconv.uint64pow10", "math/bits.deBruijn32tab", "math/bits.deBruijn64tab"], ifaces := true, apart := false, laid := [("math/bits.deBruijn32tab", laid_math_bits_deBruijn32tab), ("math/bits.deBruijn64tab", laid_math_bits_deBruijn64tab), ("internal/strconv.uint64pow10", laid_internal_strconv_uint64pow10), ("errors.errorType", laid_errors_errorType), ("loop.example/g01120/impl.errForm", laid_loop_example_g01120_impl_errForm), ("loop.example/g01120/impl.errSize", laid_loop_example_g01120_impl_errSize)], narrowed := true }
def FnExactReversePolyUptoSaid : Prop := fnExactReversePolyUptoRow.holds Tryz.pinned (OpenSpec.upto fnExactReversePolySpec)

/-- 'laws.FnExactPolyText', WHERE WHAT IT READS IS OF BULK AT MOST 1048576: true; the input reads as it did. -/
def fnExactPolyTextUptoRow : OpenClaim := { program := "ytegdcmcfeaohhaagreatdoor", sum := "e562252a54b5262b12e1a22fac9daca9c22ceb610696bd06e1b30fa8fb2d19ab", func := "loop.example/g01120/laws.FnExactPolyText", spec := "fnExactPolyText", inPlace := ["math/bits.Add64", "internal/reflectlite.ValueOf", "(internal/reflectlite.Value).Type", "(internal/reflectlite.Value).IsNil", "internal/reflectlite.TypeOf", "(internal/reflectlite.Value).Elem", "(internal/reflectlite.Value).Set", "math/bits.Sub64", "internal/abi.NoEscape"], unfollowed := true, recurses := true, named := ["loop.example/g01120/impl.errSize", "loop.example/g01120/impl.errForm", "errors.errorType", "math/bits.divideError", "math/bits.overflowError", "internal/strconv.uint64pow10", "math/bits.deBruijn32tab", "math/bits.deBruijn64tab"], ifaces := true, apart := false, laid := [("math/bits.deBruijn32tab", laid_math_bits_deBruijn32tab), ("math/bits.deBruijn64tab", laid_math_bits_deBruijn64tab), ("internal/strconv.uint64pow10", laid_internal_strconv_uint64pow10), ("errors.errorType", laid_errors_errorType), ("loop.example/g01120/impl.errForm", laid_loop_example_g01120_impl_errForm), ("loop.example/g01120/impl.errSize", laid_loop_example_g01120_impl_errSize)], narrowed := true }
def FnExactPolyTextUptoSaid : Prop := fnExactPolyTextUptoRow.holds Tryz.pinned (OpenSpec.upto fnExactPolyTextSpec)

/-- 'laws.FnExactPolyOf', WHERE WHAT IT READS IS OF BULK AT MOST 1048576: true; the input reads as it did. -/
def fnExactPolyOfUptoRow : OpenClaim := { program := "ytegdcmcfeaohhaagreatdoor", sum := "e562252a54b5262b12e1a22fac9daca9c22ceb610696bd06e1b30fa8fb2d19ab", func := "loop.example/g01120/laws.FnExactPolyOf", spec := "fnExactPolyOf", inPlace := ["math/bits.Add64", "internal/reflectlite.ValueOf", "(internal/reflectlite.Value).Type", "(internal/reflectlite.Value).IsNil", "internal/reflectlite.TypeOf", "(internal/reflectlite.Value).Elem", "(internal/reflectlite.Value).Set", "math/bits.Sub64", "internal/abi.NoEscape", "internal/bytealg.MakeNoZero"], unfollowed := true, recurses := true, named := ["loop.example/g01120/impl.errSize", "loop.example/g01120/impl.errForm", "errors.errorType", "math/bits.divideError", "math/bits.overflowError", "internal/strconv.uint64pow10", "math/bits.deBruijn32tab", "math/bits.deBruijn64tab"], ifaces := true, apart := false, laid := [("math/bits.deBruijn32tab", laid_math_bits_deBruijn32tab), ("math/bits.deBruijn64tab", laid_math_bits_deBruijn64tab), ("internal/strconv.uint64pow10", laid_internal_strconv_uint64pow10), ("errors.errorType", laid_errors_errorType), ("loop.example/g01120/impl.errForm", laid_loop_example_g01120_impl_errForm), ("loop.example/g01120/impl.errSize", laid_loop_example_g01120_impl_errSize)], narrowed := true }
def FnExactPolyOfUptoSaid : Prop := fnExactPolyOfUptoRow.holds Tryz.pinned (OpenSpec.upto fnExactPolyOfSpec)

/-- 'laws.FnExactTermsOf', WHERE WHAT IT READS IS OF BULK AT MOST 1048576: true; the input reads as it did. -/
def fnExactTermsOfUptoRow : OpenClaim := { program := "ytegdcmcfeaohhaagreatdoor", sum := "e562252a54b5262b12e1a22fac9daca9c22ceb610696bd06e1b30fa8fb2d19ab", func := "loop.example/g01120/laws.FnExactTermsOf", spec := "fnExactTermsOf", inPlace := ["math/bits.Add64", "internal/reflectlite.ValueOf", "(internal/reflectlite.Value).Type", "(internal/reflectlite.Value).IsNil", "internal/reflectlite.TypeOf", "(internal/reflectlite.Value).Elem", "(internal/reflectlite.Value).Set", "math/bits.Sub64", "internal/abi.NoEscape", "internal/bytealg.MakeNoZero"], unfollowed := true, recurses := true, named := ["loop.example/g01120/impl.errSize", "loop.example/g01120/impl.errForm", "errors.errorType", "math/bits.divideError", "math/bits.overflowError", "internal/strconv.uint64pow10", "math/bits.deBruijn32tab", "math/bits.deBruijn64tab"], ifaces := true, apart := false, laid := [("math/bits.deBruijn32tab", laid_math_bits_deBruijn32tab), ("math/bits.deBruijn64tab", laid_math_bits_deBruijn64tab), ("internal/strconv.uint64pow10", laid_internal_strconv_uint64pow10), ("errors.errorType", laid_errors_errorType), ("loop.example/g01120/impl.errForm", laid_loop_example_g01120_impl_errForm), ("loop.example/g01120/impl.errSize", laid_loop_example_g01120_impl_errSize)], narrowed := true }
def FnExactTermsOfUptoSaid : Prop := fnExactTermsOfUptoRow.holds Tryz.pinned (OpenSpec.upto fnExactTermsOfSpec)

/-- 'laws.FnExactIsRecurrenceOf', WHERE WHAT IT READS IS OF BULK AT MOST 1048576: true; the input reads as it did. -/
def fnExactIsRecurrenceOfUptoRow : OpenClaim := { program := "ytegdcmcfeaohhaagreatdoor", sum := "e562252a54b5262b12e1a22fac9daca9c22ceb610696bd06e1b30fa8fb2d19ab", func := "loop.example/g01120/laws.FnExactIsRecurrenceOf", spec := "fnExactIsRecurrenceOf", inPlace := ["math/bits.Add64", "internal/reflectlite.ValueOf", "(internal/reflectlite.Value).Type", "(internal/reflectlite.Value).IsNil", "internal/reflectlite.TypeOf", "(internal/reflectlite.Value).Elem", "(internal/reflectlite.Value).Set", "math/bits.Sub64"], unfollowed := true, recurses := true, named := ["loop.example/g01120/impl.errSize", "loop.example/g01120/impl.errForm", "errors.errorType", "math/bits.divideError", "math/bits.overflowError"], ifaces := true, apart := false, laid := [("errors.errorType", laid_errors_errorType), ("loop.example/g01120/impl.errForm", laid_loop_example_g01120_impl_errForm), ("loop.example/g01120/impl.errSize", laid_loop_example_g01120_impl_errSize)], narrowed := true }
def FnExactIsRecurrenceOfUptoSaid : Prop := fnExactIsRecurrenceOfUptoRow.holds Tryz.pinned (OpenSpec.upto fnExactIsRecurrenceOfSpec)

/-- 'laws.FnExactCompanionOf', WHERE WHAT IT READS IS OF BULK AT MOST 1048576: true; the input reads as it did. -/
def fnExactCompanionOfUptoRow : OpenClaim := { program := "ytegdcmcfeaohhaagreatdoor", sum := "e562252a54b5262b12e1a22fac9daca9c22ceb610696bd06e1b30fa8fb2d19ab", func := "loop.example/g01120/laws.FnExactCompanionOf", spec := "fnExactCompanionOf", inPlace := ["math/bits.Add64", "internal/reflectlite.ValueOf", "(internal/reflectlite.Value).Type", "(internal/reflectlite.Value).IsNil", "internal/reflectlite.TypeOf", "(internal/reflectlite.Value).Elem", "(internal/reflectlite.Value).Set", "math/bits.Sub64"], unfollowed := true, recurses := true, named := ["loop.example/g01120/impl.errSize", "loop.example/g01120/impl.errForm", "errors.errorType", "math/bits.divideError", "math/bits.overflowError"], ifaces := true, apart := false, laid := [("errors.errorType", laid_errors_errorType), ("loop.example/g01120/impl.errForm", laid_loop_example_g01120_impl_errForm), ("loop.example/g01120/impl.errSize", laid_loop_example_g01120_impl_errSize)], narrowed := true }
def FnExactCompanionOfUptoSaid : Prop := fnExactCompanionOfUptoRow.holds Tryz.pinned (OpenSpec.upto fnExactCompanionOfSpec)

end Rows
end Go.Proofs.YtegdcmcfeaohhaaGreatDoor
