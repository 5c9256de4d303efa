/-
  NARROWER THAN 'FOR EVERY INPUT', by the rows' own cells (each row's printed sentence says how): FnNumbers: ifaces, laid · FnRemainders: ifaces, laid · FnNumberTexts: ifaces, laid · FnExactFromPoly: ifaces, laid · FnExactValidAutomaton: ifaces, laid · FnExactAutomatonText: ifaces, laid · FnExactReadPoly: ifaces, laid.
  DERIVED. THE GIVEN ROWS OF THIS SEAT. 7 by the template 'for every input the law returns true; each argument reads behind the call as it read before'; 0 by the template 'total and deterministic' (their statements: YtdkjcdfkoahfkaaGreatDoorTotals.lean).
  GIVEN WITH THE SEED: the statements are not yours to turn. If you find one false, say at which input.
  Laid BY PROGRAM, IN A SANDBOX (cutbox-rows.mjs): the forced cells as the released guide's own fill.sh prints them over the translation cfcceb3fccb1d7a4… (all of the seat's roots in one cut). By AI agents, Wed Nov 11 2026. No macro, syntax, notation, axiom, sorry.
-/
import Derived.Test.YtdkjcdfkoahfkaaGreatDoorChecked
import GoSem.Claim
import GoSem.ClaimJoined
import GoSem.ClaimMapViews
import Derived.JoinedTies
import Derived.KernelRfl
namespace Go.Proofs.YtdkjcdfkoahfkaaGreatDoor
/- THE CELL 'sum', in the pinned program and in every row, IS THE sha256 OF THE DUMP (.gsa) THAT YtdkjcdfkoahfkaaGreatDoorProg.lean LOADS. Nothing in Lean hashes anything: it is a label: what it is worth is what the hold of that sum in a sandbox is worth. -/
noncomputable def Tryz.pinned : Pinned := { name := "ytdkjcdfkoahfkaagreatdoor", sum := "cfcceb3fccb1d7a49e7608e01680207c6dbdddcef1a539e81ddad067cab58c76", checked := Tryz.checked }
namespace Rows
def none {H : Type} : Left H := { results := [], args := [] }

/- WHAT THE LISTED PACKAGE-LEVEL VARIABLES READ AS WHEN THE CALL BEGINS. Each datum BY PROGRAM (the guide's laid-datum.mjs) off the statement by which the dump's own 'gosem.cut.vars' lays the variable. In a bare row this is a premise. The card (YtdkjcdfkoahfkaaGreatDoorCards.lean) ties it to the program's text. -/
def laid_math_bits_deBruijn32tab {H : Type} : DataW H := .agg [.lit (.int .u8 0), .lit (.int .u8 1), .lit (.int .u8 28), .lit (.int .u8 2), .lit (.int .u8 29), .lit (.int .u8 14), .lit (.int .u8 24), .lit (.int .u8 3), .lit (.int .u8 30), .lit (.int .u8 22), .lit (.int .u8 20), .lit (.int .u8 15), .lit (.int .u8 25), .lit (.int .u8 17), .lit (.int .u8 4), .lit (.int .u8 8), .lit (.int .u8 31), .lit (.int .u8 27), .lit (.int .u8 13), .lit (.int .u8 23), .lit (.int .u8 21), .lit (.int .u8 19), .lit (.int .u8 16), .lit (.int .u8 7), .lit (.int .u8 26), .lit (.int .u8 12), .lit (.int .u8 18), .lit (.int .u8 6), .lit (.int .u8 11), .lit (.int .u8 5), .lit (.int .u8 10), .lit (.int .u8 9)]
def laid_math_bits_deBruijn64tab {H : Type} : DataW H := .agg [.lit (.int .u8 0), .lit (.int .u8 1), .lit (.int .u8 56), .lit (.int .u8 2), .lit (.int .u8 57), .lit (.int .u8 49), .lit (.int .u8 28), .lit (.int .u8 3), .lit (.int .u8 61), .lit (.int .u8 58), .lit (.int .u8 42), .lit (.int .u8 50), .lit (.int .u8 38), .lit (.int .u8 29), .lit (.int .u8 17), .lit (.int .u8 4), .lit (.int .u8 62), .lit (.int .u8 47), .lit (.int .u8 59), .lit (.int .u8 36), .lit (.int .u8 45), .lit (.int .u8 43), .lit (.int .u8 51), .lit (.int .u8 22), .lit (.int .u8 53), .lit (.int .u8 39), .lit (.int .u8 33), .lit (.int .u8 30), .lit (.int .u8 24), .lit (.int .u8 18), .lit (.int .u8 12), .lit (.int .u8 5), .lit (.int .u8 63), .lit (.int .u8 55), .lit (.int .u8 48), .lit (.int .u8 27), .lit (.int .u8 60), .lit (.int .u8 41), .lit (.int .u8 37), .lit (.int .u8 16), .lit (.int .u8 46), .lit (.int .u8 35), .lit (.int .u8 44), .lit (.int .u8 21), .lit (.int .u8 52), .lit (.int .u8 32), .lit (.int .u8 23), .lit (.int .u8 11), .lit (.int .u8 54), .lit (.int .u8 26), .lit (.int .u8 40), .lit (.int .u8 15), .lit (.int .u8 34), .lit (.int .u8 20), .lit (.int .u8 31), .lit (.int .u8 10), .lit (.int .u8 25), .lit (.int .u8 14), .lit (.int .u8 19), .lit (.int .u8 9), .lit (.int .u8 13), .lit (.int .u8 8), .lit (.int .u8 7), .lit (.int .u8 6)]
def laid_internal_strconv_uint64pow10 {H : Type} : DataW H := .agg [.lit (.int .u64 1), .lit (.int .u64 10), .lit (.int .u64 100), .lit (.int .u64 1000), .lit (.int .u64 10000), .lit (.int .u64 100000), .lit (.int .u64 1000000), .lit (.int .u64 10000000), .lit (.int .u64 100000000), .lit (.int .u64 1000000000), .lit (.int .u64 10000000000), .lit (.int .u64 100000000000), .lit (.int .u64 1000000000000), .lit (.int .u64 10000000000000), .lit (.int .u64 100000000000000), .lit (.int .u64 1000000000000000), .lit (.int .u64 10000000000000000), .lit (.int .u64 100000000000000000), .lit (.int .u64 1000000000000000000), .lit (.int .u64 10000000000000000000)]
def laid_errors_errorType {H : Type} : DataW H := .iface "internal/reflectlite.rtype" (.agg [.ptr (.lit (.string [101, 114, 114, 111, 114]))])
def laid_loop_example_g01120_impl_errForm {H : Type} : DataW H := .iface "*errors.errorString" (.ptr (.agg [.lit (.string [110, 111, 116, 32, 116, 104, 101, 32, 116, 101, 120, 116, 32, 111, 102, 32, 97, 32, 110, 117, 109, 98, 101, 114])]))
def laid_loop_example_g01120_impl_errSize {H : Type} : DataW H := .iface "*errors.errorString" (.ptr (.agg [.lit (.string [116, 111, 111, 32, 109, 97, 110, 121, 32, 100, 105, 103, 105, 116, 115, 32, 111, 114, 32, 105, 116, 101, 109, 115])]))
def laid_strconv_ErrRange {H : Type} : DataW H := .iface "*errors.errorString" (.ptr (.agg [.lit (.string [118, 97, 108, 117, 101, 32, 111, 117, 116, 32, 111, 102, 32, 114, 97, 110, 103, 101])]))
def laid_strconv_ErrSyntax {H : Type} : DataW H := .iface "*errors.errorString" (.ptr (.agg [.lit (.string [105, 110, 118, 97, 108, 105, 100, 32, 115, 121, 110, 116, 97, 120])]))

/-- 'laws.FnNumbers': WHATEVER THE INPUT: true; the input reads as it did. -/
def fnNumbersSpec : ChangeSpec := { name := "fnNumbers", vars := ["loop.example/g01120/impl.errSize", "loop.example/g01120/impl.errForm"], fn := fun _ => fun
  | [d1, d2, g1, g2] => { results := [.lit (.bool true)], args := [d1, d2], vars := [g1, g2] }
  | _ => none }
def fnNumbersRow : OpenClaim := { program := "ytdkjcdfkoahfkaagreatdoor", sum := "cfcceb3fccb1d7a49e7608e01680207c6dbdddcef1a539e81ddad067cab58c76", func := "loop.example/g01120/laws.FnNumbers", spec := "fnNumbers", inPlace := ["math/bits.Add64", "internal/reflectlite.ValueOf", "(internal/reflectlite.Value).Type", "(internal/reflectlite.Value).IsNil", "internal/reflectlite.TypeOf", "(internal/reflectlite.Value).Elem", "(internal/reflectlite.Value).Set", "math/bits.Sub64", "internal/abi.NoEscape", "internal/bytealg.MakeNoZero"], unfollowed := true, recurses := true, named := ["loop.example/g01120/impl.errSize", "loop.example/g01120/impl.errForm", "errors.errorType", "math/bits.divideError", "math/bits.overflowError", "internal/strconv.uint64pow10", "math/bits.deBruijn32tab", "math/bits.deBruijn64tab"], ifaces := true, apart := false, laid := [("math/bits.deBruijn32tab", laid_math_bits_deBruijn32tab), ("math/bits.deBruijn64tab", laid_math_bits_deBruijn64tab), ("internal/strconv.uint64pow10", laid_internal_strconv_uint64pow10), ("errors.errorType", laid_errors_errorType), ("loop.example/g01120/impl.errForm", laid_loop_example_g01120_impl_errForm), ("loop.example/g01120/impl.errSize", laid_loop_example_g01120_impl_errSize)] }
def FnNumbersSaid : Prop := fnNumbersRow.holds Tryz.pinned (OpenSpec.ofChange fnNumbersSpec)

/-- ITS FALSE NEIGHBOUR: 'it returns false'. Refute it at one input. -/
def fnNumbersWrong : ChangeSpec := { name := "fnNumbers", vars := ["loop.example/g01120/impl.errSize", "loop.example/g01120/impl.errForm"], fn := fun _ => fun
  | [d1, d2, g1, g2] => { results := [.lit (.bool false)], args := [d1, d2], vars := [g1, g2] }
  | _ => none }
def FnNumbersWrongFalsely : Prop := fnNumbersRow.holds Tryz.pinned (OpenSpec.ofChange fnNumbersWrong)

/-- 'laws.FnRemainders': WHATEVER THE INPUT: true; the input reads as it did. -/
def fnRemaindersSpec : ChangeSpec := { name := "fnRemainders", vars := ["loop.example/g01120/impl.errSize", "loop.example/g01120/impl.errForm"], fn := fun _ => fun
  | [d1, d2, g1, g2] => { results := [.lit (.bool true)], args := [d1, d2], vars := [g1, g2] }
  | _ => none }
def fnRemaindersRow : OpenClaim := { program := "ytdkjcdfkoahfkaagreatdoor", sum := "cfcceb3fccb1d7a49e7608e01680207c6dbdddcef1a539e81ddad067cab58c76", func := "loop.example/g01120/laws.FnRemainders", spec := "fnRemainders", inPlace := ["math/bits.Add64", "internal/reflectlite.ValueOf", "(internal/reflectlite.Value).Type", "(internal/reflectlite.Value).IsNil", "internal/reflectlite.TypeOf", "(internal/reflectlite.Value).Elem", "(internal/reflectlite.Value).Set", "math/bits.Sub64", "internal/abi.NoEscape", "internal/bytealg.MakeNoZero"], unfollowed := true, recurses := true, named := ["loop.example/g01120/impl.errSize", "loop.example/g01120/impl.errForm", "errors.errorType", "math/bits.divideError", "math/bits.overflowError", "internal/strconv.uint64pow10", "math/bits.deBruijn32tab", "math/bits.deBruijn64tab"], ifaces := true, apart := false, laid := [("math/bits.deBruijn32tab", laid_math_bits_deBruijn32tab), ("math/bits.deBruijn64tab", laid_math_bits_deBruijn64tab), ("internal/strconv.uint64pow10", laid_internal_strconv_uint64pow10), ("errors.errorType", laid_errors_errorType), ("loop.example/g01120/impl.errForm", laid_loop_example_g01120_impl_errForm), ("loop.example/g01120/impl.errSize", laid_loop_example_g01120_impl_errSize)] }
def FnRemaindersSaid : Prop := fnRemaindersRow.holds Tryz.pinned (OpenSpec.ofChange fnRemaindersSpec)

/-- ITS FALSE NEIGHBOUR: 'it returns false'. Refute it at one input. -/
def fnRemaindersWrong : ChangeSpec := { name := "fnRemainders", vars := ["loop.example/g01120/impl.errSize", "loop.example/g01120/impl.errForm"], fn := fun _ => fun
  | [d1, d2, g1, g2] => { results := [.lit (.bool false)], args := [d1, d2], vars := [g1, g2] }
  | _ => none }
def FnRemaindersWrongFalsely : Prop := fnRemaindersRow.holds Tryz.pinned (OpenSpec.ofChange fnRemaindersWrong)

/-- 'laws.FnNumberTexts': WHATEVER THE INPUT: true; the input reads as it did. -/
def fnNumberTextsSpec : ChangeSpec := { name := "fnNumberTexts", vars := ["loop.example/g01120/impl.errSize", "loop.example/g01120/impl.errForm"], fn := fun _ => fun
  | [d1, d2, g1, g2] => { results := [.lit (.bool true)], args := [d1, d2], vars := [g1, g2] }
  | _ => none }
def fnNumberTextsRow : OpenClaim := { program := "ytdkjcdfkoahfkaagreatdoor", sum := "cfcceb3fccb1d7a49e7608e01680207c6dbdddcef1a539e81ddad067cab58c76", func := "loop.example/g01120/laws.FnNumberTexts", spec := "fnNumberTexts", inPlace := ["math/bits.Add64", "internal/reflectlite.ValueOf", "(internal/reflectlite.Value).Type", "(internal/reflectlite.Value).IsNil", "internal/reflectlite.TypeOf", "(internal/reflectlite.Value).Elem", "(internal/reflectlite.Value).Set", "math/bits.Sub64", "internal/abi.NoEscape", "internal/bytealg.MakeNoZero", "internal/bytealg.IndexByteString", "internal/bytealg.IndexString"], unfollowed := true, recurses := true, named := ["loop.example/g01120/impl.errSize", "loop.example/g01120/impl.errForm", "errors.errorType", "math/bits.divideError", "math/bits.overflowError", "internal/bytealg.MaxLen", "internal/strconv.uint64pow10", "math/bits.deBruijn32tab", "math/bits.deBruijn64tab"], ifaces := true, apart := false, laid := [("math/bits.deBruijn32tab", laid_math_bits_deBruijn32tab), ("math/bits.deBruijn64tab", laid_math_bits_deBruijn64tab), ("internal/strconv.uint64pow10", laid_internal_strconv_uint64pow10), ("errors.errorType", laid_errors_errorType), ("loop.example/g01120/impl.errForm", laid_loop_example_g01120_impl_errForm), ("loop.example/g01120/impl.errSize", laid_loop_example_g01120_impl_errSize)] }
def FnNumberTextsSaid : Prop := fnNumberTextsRow.holds Tryz.pinned (OpenSpec.ofChange fnNumberTextsSpec)

/-- ITS FALSE NEIGHBOUR: 'it returns false'. Refute it at one input. -/
def fnNumberTextsWrong : ChangeSpec := { name := "fnNumberTexts", vars := ["loop.example/g01120/impl.errSize", "loop.example/g01120/impl.errForm"], fn := fun _ => fun
  | [d1, d2, g1, g2] => { results := [.lit (.bool false)], args := [d1, d2], vars := [g1, g2] }
  | _ => none }
def FnNumberTextsWrongFalsely : Prop := fnNumberTextsRow.holds Tryz.pinned (OpenSpec.ofChange fnNumberTextsWrong)

/-- 'laws.FnExactFromPoly': WHATEVER THE INPUT: true; the input reads as it did. -/
def fnExactFromPolySpec : ChangeSpec := { name := "fnExactFromPoly", vars := ["loop.example/g01120/impl.errSize", "loop.example/g01120/impl.errForm"], fn := fun _ => fun
  | [d1, d2, g1, g2] => { results := [.lit (.bool true)], args := [d1, d2], vars := [g1, g2] }
  | _ => none }
def fnExactFromPolyRow : OpenClaim := { program := "ytdkjcdfkoahfkaagreatdoor", sum := "cfcceb3fccb1d7a49e7608e01680207c6dbdddcef1a539e81ddad067cab58c76", func := "loop.example/g01120/laws.FnExactFromPoly", spec := "fnExactFromPoly", inPlace := ["math/bits.Add64", "internal/reflectlite.ValueOf", "(internal/reflectlite.Value).Type", "(internal/reflectlite.Value).IsNil", "internal/reflectlite.TypeOf", "(internal/reflectlite.Value).Elem", "(internal/reflectlite.Value).Set", "math/bits.Sub64", "internal/abi.NoEscape", "internal/bytealg.MakeNoZero"], unfollowed := true, recurses := true, named := ["loop.example/g01120/impl.errSize", "loop.example/g01120/impl.errForm", "errors.errorType", "math/bits.divideError", "math/bits.overflowError", "internal/strconv.uint64pow10", "math/bits.deBruijn32tab", "math/bits.deBruijn64tab"], ifaces := true, apart := false, laid := [("math/bits.deBruijn32tab", laid_math_bits_deBruijn32tab), ("math/bits.deBruijn64tab", laid_math_bits_deBruijn64tab), ("internal/strconv.uint64pow10", laid_internal_strconv_uint64pow10), ("errors.errorType", laid_errors_errorType), ("loop.example/g01120/impl.errForm", laid_loop_example_g01120_impl_errForm), ("loop.example/g01120/impl.errSize", laid_loop_example_g01120_impl_errSize)] }
def FnExactFromPolySaid : Prop := fnExactFromPolyRow.holds Tryz.pinned (OpenSpec.ofChange fnExactFromPolySpec)

/-- ITS FALSE NEIGHBOUR: 'it returns false'. Refute it at one input. -/
def fnExactFromPolyWrong : ChangeSpec := { name := "fnExactFromPoly", vars := ["loop.example/g01120/impl.errSize", "loop.example/g01120/impl.errForm"], fn := fun _ => fun
  | [d1, d2, g1, g2] => { results := [.lit (.bool false)], args := [d1, d2], vars := [g1, g2] }
  | _ => none }
def FnExactFromPolyWrongFalsely : Prop := fnExactFromPolyRow.holds Tryz.pinned (OpenSpec.ofChange fnExactFromPolyWrong)

/-- 'laws.FnExactValidAutomaton': WHATEVER THE INPUT: true; the input reads as it did. -/
def fnExactValidAutomatonSpec : ChangeSpec := { name := "fnExactValidAutomaton", vars := ["loop.example/g01120/impl.errSize", "loop.example/g01120/impl.errForm"], fn := fun _ => fun
  | [d, g1, g2] => { results := [.lit (.bool true)], args := [d], vars := [g1, g2] }
  | _ => none }
def fnExactValidAutomatonRow : OpenClaim := { program := "ytdkjcdfkoahfkaagreatdoor", sum := "cfcceb3fccb1d7a49e7608e01680207c6dbdddcef1a539e81ddad067cab58c76", func := "loop.example/g01120/laws.FnExactValidAutomaton", spec := "fnExactValidAutomaton", inPlace := ["math/bits.Add64", "internal/reflectlite.ValueOf", "(internal/reflectlite.Value).Type", "(internal/reflectlite.Value).IsNil", "internal/reflectlite.TypeOf", "(internal/reflectlite.Value).Elem", "(internal/reflectlite.Value).Set", "math/bits.Sub64"], unfollowed := true, recurses := true, named := ["loop.example/g01120/impl.errSize", "loop.example/g01120/impl.errForm", "errors.errorType", "math/bits.divideError", "math/bits.overflowError"], ifaces := true, apart := false, laid := [("errors.errorType", laid_errors_errorType), ("loop.example/g01120/impl.errForm", laid_loop_example_g01120_impl_errForm), ("loop.example/g01120/impl.errSize", laid_loop_example_g01120_impl_errSize)] }
def FnExactValidAutomatonSaid : Prop := fnExactValidAutomatonRow.holds Tryz.pinned (OpenSpec.ofChange fnExactValidAutomatonSpec)

/-- ITS FALSE NEIGHBOUR: 'it returns false'. Refute it at one input. -/
def fnExactValidAutomatonWrong : ChangeSpec := { name := "fnExactValidAutomaton", vars := ["loop.example/g01120/impl.errSize", "loop.example/g01120/impl.errForm"], fn := fun _ => fun
  | [d, g1, g2] => { results := [.lit (.bool false)], args := [d], vars := [g1, g2] }
  | _ => none }
def FnExactValidAutomatonWrongFalsely : Prop := fnExactValidAutomatonRow.holds Tryz.pinned (OpenSpec.ofChange fnExactValidAutomatonWrong)

/-- 'laws.FnExactAutomatonText': WHATEVER THE INPUT: true; the input reads as it did. -/
def fnExactAutomatonTextSpec : ChangeSpec := { name := "fnExactAutomatonText", vars := ["loop.example/g01120/impl.errSize", "loop.example/g01120/impl.errForm"], fn := fun _ => fun
  | [d, g1, g2] => { results := [.lit (.bool true)], args := [d], vars := [g1, g2] }
  | _ => none }
def fnExactAutomatonTextRow : OpenClaim := { program := "ytdkjcdfkoahfkaagreatdoor", sum := "cfcceb3fccb1d7a49e7608e01680207c6dbdddcef1a539e81ddad067cab58c76", func := "loop.example/g01120/laws.FnExactAutomatonText", spec := "fnExactAutomatonText", inPlace := ["math/bits.Add64", "internal/reflectlite.ValueOf", "(internal/reflectlite.Value).Type", "(internal/reflectlite.Value).IsNil", "internal/reflectlite.TypeOf", "(internal/reflectlite.Value).Elem", "(internal/reflectlite.Value).Set", "math/bits.Sub64", "internal/abi.NoEscape", "internal/bytealg.MakeNoZero"], unfollowed := true, recurses := true, named := ["loop.example/g01120/impl.errSize", "loop.example/g01120/impl.errForm", "errors.errorType", "math/bits.divideError", "math/bits.overflowError"], ifaces := true, apart := false, laid := [("errors.errorType", laid_errors_errorType), ("loop.example/g01120/impl.errForm", laid_loop_example_g01120_impl_errForm), ("loop.example/g01120/impl.errSize", laid_loop_example_g01120_impl_errSize)] }
def FnExactAutomatonTextSaid : Prop := fnExactAutomatonTextRow.holds Tryz.pinned (OpenSpec.ofChange fnExactAutomatonTextSpec)

/-- ITS FALSE NEIGHBOUR: 'it returns false'. Refute it at one input. -/
def fnExactAutomatonTextWrong : ChangeSpec := { name := "fnExactAutomatonText", vars := ["loop.example/g01120/impl.errSize", "loop.example/g01120/impl.errForm"], fn := fun _ => fun
  | [d, g1, g2] => { results := [.lit (.bool false)], args := [d], vars := [g1, g2] }
  | _ => none }
def FnExactAutomatonTextWrongFalsely : Prop := fnExactAutomatonTextRow.holds Tryz.pinned (OpenSpec.ofChange fnExactAutomatonTextWrong)

/-- 'laws.FnExactReadPoly': WHATEVER THE INPUT: true; the input reads as it did. -/
def fnExactReadPolySpec : ChangeSpec := { name := "fnExactReadPoly", vars := ["loop.example/g01120/impl.errSize", "loop.example/g01120/impl.errForm"], fn := fun _ => fun
  | [d, g1, g2] => { results := [.lit (.bool true)], args := [d], vars := [g1, g2] }
  | _ => none }
def fnExactReadPolyRow : OpenClaim := { program := "ytdkjcdfkoahfkaagreatdoor", sum := "cfcceb3fccb1d7a49e7608e01680207c6dbdddcef1a539e81ddad067cab58c76", func := "loop.example/g01120/laws.FnExactReadPoly", spec := "fnExactReadPoly", inPlace := ["internal/bytealg.IndexByteString", "internal/bytealg.IndexString", "math/bits.Add64", "internal/reflectlite.ValueOf", "(internal/reflectlite.Value).Type", "(internal/reflectlite.Value).IsNil", "internal/reflectlite.TypeOf", "(internal/reflectlite.Value).Elem", "(internal/reflectlite.Value).Set", "math/bits.Sub64", "internal/abi.NoEscape", "internal/bytealg.MakeNoZero"], unfollowed := true, recurses := true, named := ["loop.example/g01120/impl.errSize", "loop.example/g01120/impl.errForm", "internal/bytealg.MaxLen", "errors.errorType", "math/bits.divideError", "math/bits.overflowError", "strconv.ErrSyntax", "strconv.ErrRange", "internal/strconv.uint64pow10", "math/bits.deBruijn32tab", "math/bits.deBruijn64tab"], ifaces := true, apart := false, laid := [("math/bits.deBruijn32tab", laid_math_bits_deBruijn32tab), ("math/bits.deBruijn64tab", laid_math_bits_deBruijn64tab), ("internal/strconv.uint64pow10", laid_internal_strconv_uint64pow10), ("errors.errorType", laid_errors_errorType), ("strconv.ErrRange", laid_strconv_ErrRange), ("strconv.ErrSyntax", laid_strconv_ErrSyntax), ("loop.example/g01120/impl.errForm", laid_loop_example_g01120_impl_errForm), ("loop.example/g01120/impl.errSize", laid_loop_example_g01120_impl_errSize)] }
def FnExactReadPolySaid : Prop := fnExactReadPolyRow.holds Tryz.pinned (OpenSpec.ofChange fnExactReadPolySpec)

/-- ITS FALSE NEIGHBOUR: 'it returns false'. Refute it at one input. -/
def fnExactReadPolyWrong : ChangeSpec := { name := "fnExactReadPoly", vars := ["loop.example/g01120/impl.errSize", "loop.example/g01120/impl.errForm"], fn := fun _ => fun
  | [d, g1, g2] => { results := [.lit (.bool false)], args := [d], vars := [g1, g2] }
  | _ => none }
def FnExactReadPolyWrongFalsely : Prop := fnExactReadPolyRow.holds Tryz.pinned (OpenSpec.ofChange fnExactReadPolyWrong)

/- THE SECOND FORM. 'bulk': how many values and letters a reading holds, each counted each time it is reached (what is shared counts as often as it is met; a slice's spare places count too). A statement '..UptoSaid' is the law's where the arguments, and the package variables that the reading takes, are together of bulk at most 1048576: NARROWER than '..Said'. Prove '..Said' where nothing that the law and all that it calls make is longer than what came in: it says more and counts as full. Else prove '..UptoSaid'. A law counts once. -/
mutual
def uptoBulk {H : Type} : DataW H → Nat
  | .lit (.string bytes) => bytes.length + 1
  | .lit _ => 1
  | .nil => 1
  | .ptr d => uptoBulk d + 1
  | .slice elems spare => uptoBulkAll elems + uptoBulkAll spare + 1
  | .agg parts => uptoBulkAll parts + 1
  | .iface _ d => uptoBulk d + 1
  | .map entries => uptoBulkEntries entries + 1
  | .held _ => 1
def uptoBulkAll {H : Type} : List (DataW H) → Nat
  | [] => 0
  | d :: r => uptoBulk d + uptoBulkAll r
def uptoBulkEntries {H : Type} : List (Lit × DataW H) → Nat
  | [] => 0
  | x :: r => uptoBulkEntry x + uptoBulkEntries r
def uptoBulkEntry {H : Type} : Lit × DataW H → Nat
  | (.string bytes, d) => bytes.length + uptoBulk d + 1
  | (_, d) => uptoBulk d + 1
 end
def uptoSmall : (H : Type) → List (DataW H) → Bool := fun _ ds => decide (uptoBulkAll ds ≤ 1048576)
def OpenSpec.upto (s : _root_.Go.ChangeSpec) : _root_.Go.OpenSpec := { _root_.Go.OpenSpec.ofChange s with cond := some uptoSmall }

/-- 'laws.FnNumbers', WHERE WHAT IT READS IS OF BULK AT MOST 1048576: true; the input reads as it did. -/
def fnNumbersUptoRow : OpenClaim := { program := "ytdkjcdfkoahfkaagreatdoor", sum := "cfcceb3fccb1d7a49e7608e01680207c6dbdddcef1a539e81ddad067cab58c76", func := "loop.example/g01120/laws.FnNumbers", spec := "fnNumbers", inPlace := ["math/bits.Add64", "internal/reflectlite.ValueOf", "(internal/reflectlite.Value).Type", "(internal/reflectlite.Value).IsNil", "internal/reflectlite.TypeOf", "(internal/reflectlite.Value).Elem", "(internal/reflectlite.Value).Set", "math/bits.Sub64", "internal/abi.NoEscape", "internal/bytealg.MakeNoZero"], unfollowed := true, recurses := true, named := ["loop.example/g01120/impl.errSize", "loop.example/g01120/impl.errForm", "errors.errorType", "math/bits.divideError", "math/bits.overflowError", "internal/strconv.uint64pow10", "math/bits.deBruijn32tab", "math/bits.deBruijn64tab"], ifaces := true, apart := false, laid := [("math/bits.deBruijn32tab", laid_math_bits_deBruijn32tab), ("math/bits.deBruijn64tab", laid_math_bits_deBruijn64tab), ("internal/strconv.uint64pow10", laid_internal_strconv_uint64pow10), ("errors.errorType", laid_errors_errorType), ("loop.example/g01120/impl.errForm", laid_loop_example_g01120_impl_errForm), ("loop.example/g01120/impl.errSize", laid_loop_example_g01120_impl_errSize)], narrowed := true }
def FnNumbersUptoSaid : Prop := fnNumbersUptoRow.holds Tryz.pinned (OpenSpec.upto fnNumbersSpec)

/-- 'laws.FnRemainders', WHERE WHAT IT READS IS OF BULK AT MOST 1048576: true; the input reads as it did. -/
def fnRemaindersUptoRow : OpenClaim := { program := "ytdkjcdfkoahfkaagreatdoor", sum := "cfcceb3fccb1d7a49e7608e01680207c6dbdddcef1a539e81ddad067cab58c76", func := "loop.example/g01120/laws.FnRemainders", spec := "fnRemainders", inPlace := ["math/bits.Add64", "internal/reflectlite.ValueOf", "(internal/reflectlite.Value).Type", "(internal/reflectlite.Value).IsNil", "internal/reflectlite.TypeOf", "(internal/reflectlite.Value).Elem", "(internal/reflectlite.Value).Set", "math/bits.Sub64", "internal/abi.NoEscape", "internal/bytealg.MakeNoZero"], unfollowed := true, recurses := true, named := ["loop.example/g01120/impl.errSize", "loop.example/g01120/impl.errForm", "errors.errorType", "math/bits.divideError", "math/bits.overflowError", "internal/strconv.uint64pow10", "math/bits.deBruijn32tab", "math/bits.deBruijn64tab"], ifaces := true, apart := false, laid := [("math/bits.deBruijn32tab", laid_math_bits_deBruijn32tab), ("math/bits.deBruijn64tab", laid_math_bits_deBruijn64tab), ("internal/strconv.uint64pow10", laid_internal_strconv_uint64pow10), ("errors.errorType", laid_errors_errorType), ("loop.example/g01120/impl.errForm", laid_loop_example_g01120_impl_errForm), ("loop.example/g01120/impl.errSize", laid_loop_example_g01120_impl_errSize)], narrowed := true }
def FnRemaindersUptoSaid : Prop := fnRemaindersUptoRow.holds Tryz.pinned (OpenSpec.upto fnRemaindersSpec)

/-- 'laws.FnNumberTexts', WHERE WHAT IT READS IS OF BULK AT MOST 1048576: true; the input reads as it did. -/
def fnNumberTextsUptoRow : OpenClaim := { program := "ytdkjcdfkoahfkaagreatdoor", sum := "cfcceb3fccb1d7a49e7608e01680207c6dbdddcef1a539e81ddad067cab58c76", func := "loop.example/g01120/laws.FnNumberTexts", spec := "fnNumberTexts", inPlace := ["math/bits.Add64", "internal/reflectlite.ValueOf", "(internal/reflectlite.Value).Type", "(internal/reflectlite.Value).IsNil", "internal/reflectlite.TypeOf", "(internal/reflectlite.Value).Elem", "(internal/reflectlite.Value).Set", "math/bits.Sub64", "internal/abi.NoEscape", "internal/bytealg.MakeNoZero", "internal/bytealg.IndexByteString", "internal/bytealg.IndexString"], unfollowed := true, recurses := true, named := ["loop.example/g01120/impl.errSize", "loop.example/g01120/impl.errForm", "errors.errorType", "math/bits.divideError", "math/bits.overflowError", "internal/bytealg.MaxLen", "internal/strconv.uint64pow10", "math/bits.deBruijn32tab", "math/bits.deBruijn64tab"], ifaces := true, apart := false, laid := [("math/bits.deBruijn32tab", laid_math_bits_deBruijn32tab), ("math/bits.deBruijn64tab", laid_math_bits_deBruijn64tab), ("internal/strconv.uint64pow10", laid_internal_strconv_uint64pow10), ("errors.errorType", laid_errors_errorType), ("loop.example/g01120/impl.errForm", laid_loop_example_g01120_impl_errForm), ("loop.example/g01120/impl.errSize", laid_loop_example_g01120_impl_errSize)], narrowed := true }
def FnNumberTextsUptoSaid : Prop := fnNumberTextsUptoRow.holds Tryz.pinned (OpenSpec.upto fnNumberTextsSpec)

/-- 'laws.FnExactFromPoly', WHERE WHAT IT READS IS OF BULK AT MOST 1048576: true; the input reads as it did. -/
def fnExactFromPolyUptoRow : OpenClaim := { program := "ytdkjcdfkoahfkaagreatdoor", sum := "cfcceb3fccb1d7a49e7608e01680207c6dbdddcef1a539e81ddad067cab58c76", func := "loop.example/g01120/laws.FnExactFromPoly", spec := "fnExactFromPoly", inPlace := ["math/bits.Add64", "internal/reflectlite.ValueOf", "(internal/reflectlite.Value).Type", "(internal/reflectlite.Value).IsNil", "internal/reflectlite.TypeOf", "(internal/reflectlite.Value).Elem", "(internal/reflectlite.Value).Set", "math/bits.Sub64", "internal/abi.NoEscape", "internal/bytealg.MakeNoZero"], unfollowed := true, recurses := true, named := ["loop.example/g01120/impl.errSize", "loop.example/g01120/impl.errForm", "errors.errorType", "math/bits.divideError", "math/bits.overflowError", "internal/strconv.uint64pow10", "math/bits.deBruijn32tab", "math/bits.deBruijn64tab"], ifaces := true, apart := false, laid := [("math/bits.deBruijn32tab", laid_math_bits_deBruijn32tab), ("math/bits.deBruijn64tab", laid_math_bits_deBruijn64tab), ("internal/strconv.uint64pow10", laid_internal_strconv_uint64pow10), ("errors.errorType", laid_errors_errorType), ("loop.example/g01120/impl.errForm", laid_loop_example_g01120_impl_errForm), ("loop.example/g01120/impl.errSize", laid_loop_example_g01120_impl_errSize)], narrowed := true }
def FnExactFromPolyUptoSaid : Prop := fnExactFromPolyUptoRow.holds Tryz.pinned (OpenSpec.upto fnExactFromPolySpec)

/-- 'laws.FnExactValidAutomaton', WHERE WHAT IT READS IS OF BULK AT MOST 1048576: true; the input reads as it did. -/
def fnExactValidAutomatonUptoRow : OpenClaim := { program := "ytdkjcdfkoahfkaagreatdoor", sum := "cfcceb3fccb1d7a49e7608e01680207c6dbdddcef1a539e81ddad067cab58c76", func := "loop.example/g01120/laws.FnExactValidAutomaton", spec := "fnExactValidAutomaton", inPlace := ["math/bits.Add64", "internal/reflectlite.ValueOf", "(internal/reflectlite.Value).Type", "(internal/reflectlite.Value).IsNil", "internal/reflectlite.TypeOf", "(internal/reflectlite.Value).Elem", "(internal/reflectlite.Value).Set", "math/bits.Sub64"], unfollowed := true, recurses := true, named := ["loop.example/g01120/impl.errSize", "loop.example/g01120/impl.errForm", "errors.errorType", "math/bits.divideError", "math/bits.overflowError"], ifaces := true, apart := false, laid := [("errors.errorType", laid_errors_errorType), ("loop.example/g01120/impl.errForm", laid_loop_example_g01120_impl_errForm), ("loop.example/g01120/impl.errSize", laid_loop_example_g01120_impl_errSize)], narrowed := true }
def FnExactValidAutomatonUptoSaid : Prop := fnExactValidAutomatonUptoRow.holds Tryz.pinned (OpenSpec.upto fnExactValidAutomatonSpec)

/-- 'laws.FnExactAutomatonText', WHERE WHAT IT READS IS OF BULK AT MOST 1048576: true; the input reads as it did. -/
def fnExactAutomatonTextUptoRow : OpenClaim := { program := "ytdkjcdfkoahfkaagreatdoor", sum := "cfcceb3fccb1d7a49e7608e01680207c6dbdddcef1a539e81ddad067cab58c76", func := "loop.example/g01120/laws.FnExactAutomatonText", spec := "fnExactAutomatonText", inPlace := ["math/bits.Add64", "internal/reflectlite.ValueOf", "(internal/reflectlite.Value).Type", "(internal/reflectlite.Value).IsNil", "internal/reflectlite.TypeOf", "(internal/reflectlite.Value).Elem", "(internal/reflectlite.Value).Set", "math/bits.Sub64", "internal/abi.NoEscape", "internal/bytealg.MakeNoZero"], unfollowed := true, recurses := true, named := ["loop.example/g01120/impl.errSize", "loop.example/g01120/impl.errForm", "errors.errorType", "math/bits.divideError", "math/bits.overflowError"], ifaces := true, apart := false, laid := [("errors.errorType", laid_errors_errorType), ("loop.example/g01120/impl.errForm", laid_loop_example_g01120_impl_errForm), ("loop.example/g01120/impl.errSize", laid_loop_example_g01120_impl_errSize)], narrowed := true }
def FnExactAutomatonTextUptoSaid : Prop := fnExactAutomatonTextUptoRow.holds Tryz.pinned (OpenSpec.upto fnExactAutomatonTextSpec)

/-- 'laws.FnExactReadPoly', WHERE WHAT IT READS IS OF BULK AT MOST 1048576: true; the input reads as it did. -/
def fnExactReadPolyUptoRow : OpenClaim := { program := "ytdkjcdfkoahfkaagreatdoor", sum := "cfcceb3fccb1d7a49e7608e01680207c6dbdddcef1a539e81ddad067cab58c76", func := "loop.example/g01120/laws.FnExactReadPoly", spec := "fnExactReadPoly", inPlace := ["internal/bytealg.IndexByteString", "internal/bytealg.IndexString", "math/bits.Add64", "internal/reflectlite.ValueOf", "(internal/reflectlite.Value).Type", "(internal/reflectlite.Value).IsNil", "internal/reflectlite.TypeOf", "(internal/reflectlite.Value).Elem", "(internal/reflectlite.Value).Set", "math/bits.Sub64", "internal/abi.NoEscape", "internal/bytealg.MakeNoZero"], unfollowed := true, recurses := true, named := ["loop.example/g01120/impl.errSize", "loop.example/g01120/impl.errForm", "internal/bytealg.MaxLen", "errors.errorType", "math/bits.divideError", "math/bits.overflowError", "strconv.ErrSyntax", "strconv.ErrRange", "internal/strconv.uint64pow10", "math/bits.deBruijn32tab", "math/bits.deBruijn64tab"], ifaces := true, apart := false, laid := [("math/bits.deBruijn32tab", laid_math_bits_deBruijn32tab), ("math/bits.deBruijn64tab", laid_math_bits_deBruijn64tab), ("internal/strconv.uint64pow10", laid_internal_strconv_uint64pow10), ("errors.errorType", laid_errors_errorType), ("strconv.ErrRange", laid_strconv_ErrRange), ("strconv.ErrSyntax", laid_strconv_ErrSyntax), ("loop.example/g01120/impl.errForm", laid_loop_example_g01120_impl_errForm), ("loop.example/g01120/impl.errSize", laid_loop_example_g01120_impl_errSize)], narrowed := true }
def FnExactReadPolyUptoSaid : Prop := fnExactReadPolyUptoRow.holds Tryz.pinned (OpenSpec.upto fnExactReadPolySpec)

end Rows
end Go.Proofs.YtdkjcdfkoahfkaaGreatDoor
