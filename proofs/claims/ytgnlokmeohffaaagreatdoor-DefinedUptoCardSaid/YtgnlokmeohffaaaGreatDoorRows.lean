/-
  NARROWER THAN 'FOR EVERY INPUT', by the rows' own cells (each row's printed sentence says how): Plain: laid · Defined: laid · Varied: laid · Failed: laid · Forgotten: laid · All: laid.
  DERIVED. THE GIVEN ROWS OF THIS SEAT. 6 by the template 'for every input the law returns true; each argument reads behind the call as it read before'; 0 by the template 'total and deterministic' (their statements: YtgnlokmeohffaaaGreatDoorTotals.lean).
  GIVEN WITH THE SEED: the statements are not yours to turn. If you find one false, say at which input.
  Laid BY PROGRAM, IN A SANDBOX (cutbox-rows.mjs): the forced cells as the released guide's own fill.sh prints them over the translation e9da8bcdb7f5e9fb… (all of the seat's roots in one cut). By AI agents, Wed Nov 11 2026. No macro, syntax, notation, axiom, sorry.
-/
import Derived.Test.YtgnlokmeohffaaaGreatDoorChecked
import GoSem.Claim
import GoSem.ClaimJoined
import GoSem.ClaimMapViews
import Derived.JoinedTies
import Derived.KernelRfl
namespace Go.Proofs.YtgnlokmeohffaaaGreatDoor
/- THE CELL 'sum', in the pinned program and in every row, IS THE sha256 OF THE DUMP (.gsa) THAT YtgnlokmeohffaaaGreatDoorProg.lean LOADS. Nothing in Lean hashes anything: it is a label: what it is worth is what the hold of that sum in a sandbox is worth. -/
noncomputable def Tryz.pinned : Pinned := { name := "ytgnlokmeohffaaagreatdoor", sum := "e9da8bcdb7f5e9fb450b7ba51e44226074d735e1857e078c79eb4e2a45718e01", checked := Tryz.checked }
namespace Rows
def none {H : Type} : Left H := { results := [], args := [] }

/- WHAT THE LISTED PACKAGE-LEVEL VARIABLES READ AS WHEN THE CALL BEGINS. Each datum BY PROGRAM (the guide's laid-datum.mjs) off the statement by which the dump's own 'gosem.cut.vars' lays the variable. In a bare row this is a premise. The card (YtgnlokmeohffaaaGreatDoorCards.lean) ties it to the program's text. -/
def laid_math_bits_deBruijn32tab {H : Type} : DataW H := .agg [.lit (.int .u8 0), .lit (.int .u8 1), .lit (.int .u8 28), .lit (.int .u8 2), .lit (.int .u8 29), .lit (.int .u8 14), .lit (.int .u8 24), .lit (.int .u8 3), .lit (.int .u8 30), .lit (.int .u8 22), .lit (.int .u8 20), .lit (.int .u8 15), .lit (.int .u8 25), .lit (.int .u8 17), .lit (.int .u8 4), .lit (.int .u8 8), .lit (.int .u8 31), .lit (.int .u8 27), .lit (.int .u8 13), .lit (.int .u8 23), .lit (.int .u8 21), .lit (.int .u8 19), .lit (.int .u8 16), .lit (.int .u8 7), .lit (.int .u8 26), .lit (.int .u8 12), .lit (.int .u8 18), .lit (.int .u8 6), .lit (.int .u8 11), .lit (.int .u8 5), .lit (.int .u8 10), .lit (.int .u8 9)]
def laid_math_bits_deBruijn64tab {H : Type} : DataW H := .agg [.lit (.int .u8 0), .lit (.int .u8 1), .lit (.int .u8 56), .lit (.int .u8 2), .lit (.int .u8 57), .lit (.int .u8 49), .lit (.int .u8 28), .lit (.int .u8 3), .lit (.int .u8 61), .lit (.int .u8 58), .lit (.int .u8 42), .lit (.int .u8 50), .lit (.int .u8 38), .lit (.int .u8 29), .lit (.int .u8 17), .lit (.int .u8 4), .lit (.int .u8 62), .lit (.int .u8 47), .lit (.int .u8 59), .lit (.int .u8 36), .lit (.int .u8 45), .lit (.int .u8 43), .lit (.int .u8 51), .lit (.int .u8 22), .lit (.int .u8 53), .lit (.int .u8 39), .lit (.int .u8 33), .lit (.int .u8 30), .lit (.int .u8 24), .lit (.int .u8 18), .lit (.int .u8 12), .lit (.int .u8 5), .lit (.int .u8 63), .lit (.int .u8 55), .lit (.int .u8 48), .lit (.int .u8 27), .lit (.int .u8 60), .lit (.int .u8 41), .lit (.int .u8 37), .lit (.int .u8 16), .lit (.int .u8 46), .lit (.int .u8 35), .lit (.int .u8 44), .lit (.int .u8 21), .lit (.int .u8 52), .lit (.int .u8 32), .lit (.int .u8 23), .lit (.int .u8 11), .lit (.int .u8 54), .lit (.int .u8 26), .lit (.int .u8 40), .lit (.int .u8 15), .lit (.int .u8 34), .lit (.int .u8 20), .lit (.int .u8 31), .lit (.int .u8 10), .lit (.int .u8 25), .lit (.int .u8 14), .lit (.int .u8 19), .lit (.int .u8 9), .lit (.int .u8 13), .lit (.int .u8 8), .lit (.int .u8 7), .lit (.int .u8 6)]
def laid_internal_strconv_uint64pow10 {H : Type} : DataW H := .agg [.lit (.int .u64 1), .lit (.int .u64 10), .lit (.int .u64 100), .lit (.int .u64 1000), .lit (.int .u64 10000), .lit (.int .u64 100000), .lit (.int .u64 1000000), .lit (.int .u64 10000000), .lit (.int .u64 100000000), .lit (.int .u64 1000000000), .lit (.int .u64 10000000000), .lit (.int .u64 100000000000), .lit (.int .u64 1000000000000), .lit (.int .u64 10000000000000), .lit (.int .u64 100000000000000), .lit (.int .u64 1000000000000000), .lit (.int .u64 10000000000000000), .lit (.int .u64 100000000000000000), .lit (.int .u64 1000000000000000000), .lit (.int .u64 10000000000000000000)]
def laid_anvil_anvillaw_definitions {H : Type} : DataW H := .slice [.lit (.string [58]), .lit (.string [59]), .lit (.string [114, 101, 99, 117, 114, 115, 101]), .lit (.string [105, 102]), .lit (.string [101, 108, 115, 101]), .lit (.string [116, 104, 101, 110]), .lit (.string [98, 101, 103, 105, 110]), .lit (.string [117, 110, 116, 105, 108]), .lit (.string [97, 103, 97, 105, 110]), .lit (.string [119, 104, 105, 108, 101]), .lit (.string [114, 101, 112, 101, 97, 116]), .lit (.string [100, 111]), .lit (.string [108, 111, 111, 112]), .lit (.string [105]), .lit (.string [108, 101, 97, 118, 101]), .lit (.string [101, 120, 105, 116])] []
def laid_anvil_anvillaw_variables {H : Type} : DataW H := .slice [.lit (.string [118, 97, 114, 105, 97, 98, 108, 101]), .lit (.string [99, 111, 110, 115, 116, 97, 110, 116]), .lit (.string [39]), .lit (.string [64]), .lit (.string [33]), .lit (.string [101, 120, 101, 99, 117, 116, 101])] []
def laid_anvil_anvillaw_forgetting {H : Type} : DataW H := .slice [.lit (.string [109, 97, 114, 107, 101, 114]), .lit (.string [102, 111, 114, 103, 101, 116])] []

/-- 'anvillaw.Plain': WHATEVER THE INPUT: true; the input reads as it did. -/
def plainSpec : ChangeSpec := { name := "plain", fn := fun _ => fun
  | [d] => { results := [.lit (.bool true)], args := [d] }
  | _ => none }
def plainRow : OpenClaim := { program := "ytgnlokmeohffaaagreatdoor", sum := "e9da8bcdb7f5e9fb450b7ba51e44226074d735e1857e078c79eb4e2a45718e01", func := "anvil/anvillaw.Plain", spec := "plain", unfollowed := true, recurses := true, named := ["anvil/anvillaw.definitions", "anvil/anvillaw.variables", "anvil/anvillaw.forgetting", "internal/strconv.uint64pow10", "math/bits.deBruijn32tab", "math/bits.deBruijn64tab"], apart := false, laid := [("math/bits.deBruijn32tab", laid_math_bits_deBruijn32tab), ("math/bits.deBruijn64tab", laid_math_bits_deBruijn64tab), ("internal/strconv.uint64pow10", laid_internal_strconv_uint64pow10), ("anvil/anvillaw.definitions", laid_anvil_anvillaw_definitions), ("anvil/anvillaw.variables", laid_anvil_anvillaw_variables), ("anvil/anvillaw.forgetting", laid_anvil_anvillaw_forgetting)] }
def PlainSaid : Prop := plainRow.holds Tryz.pinned (OpenSpec.ofChange plainSpec)

/-- ITS FALSE NEIGHBOUR: 'it returns false'. Refute it at one input. -/
def plainWrong : ChangeSpec := { name := "plain", fn := fun _ => fun
  | [d] => { results := [.lit (.bool false)], args := [d] }
  | _ => none }
def PlainWrongFalsely : Prop := plainRow.holds Tryz.pinned (OpenSpec.ofChange plainWrong)

/-- 'anvillaw.Defined': WHATEVER THE INPUT: true; the input reads as it did. -/
def definedSpec : ChangeSpec := { name := "defined", fn := fun _ => fun
  | [d] => { results := [.lit (.bool true)], args := [d] }
  | _ => none }
def definedRow : OpenClaim := { program := "ytgnlokmeohffaaagreatdoor", sum := "e9da8bcdb7f5e9fb450b7ba51e44226074d735e1857e078c79eb4e2a45718e01", func := "anvil/anvillaw.Defined", spec := "defined", unfollowed := true, recurses := true, named := ["anvil/anvillaw.variables", "anvil/anvillaw.forgetting", "internal/strconv.uint64pow10", "math/bits.deBruijn32tab", "math/bits.deBruijn64tab"], apart := false, laid := [("math/bits.deBruijn32tab", laid_math_bits_deBruijn32tab), ("math/bits.deBruijn64tab", laid_math_bits_deBruijn64tab), ("internal/strconv.uint64pow10", laid_internal_strconv_uint64pow10), ("anvil/anvillaw.variables", laid_anvil_anvillaw_variables), ("anvil/anvillaw.forgetting", laid_anvil_anvillaw_forgetting)] }
def DefinedSaid : Prop := definedRow.holds Tryz.pinned (OpenSpec.ofChange definedSpec)

/-- ITS FALSE NEIGHBOUR: 'it returns false'. Refute it at one input. -/
def definedWrong : ChangeSpec := { name := "defined", fn := fun _ => fun
  | [d] => { results := [.lit (.bool false)], args := [d] }
  | _ => none }
def DefinedWrongFalsely : Prop := definedRow.holds Tryz.pinned (OpenSpec.ofChange definedWrong)

/-- 'anvillaw.Varied': WHATEVER THE INPUT: true; the input reads as it did. -/
def variedSpec : ChangeSpec := { name := "varied", fn := fun _ => fun
  | [d] => { results := [.lit (.bool true)], args := [d] }
  | _ => none }
def variedRow : OpenClaim := { program := "ytgnlokmeohffaaagreatdoor", sum := "e9da8bcdb7f5e9fb450b7ba51e44226074d735e1857e078c79eb4e2a45718e01", func := "anvil/anvillaw.Varied", spec := "varied", unfollowed := true, recurses := true, named := ["anvil/anvillaw.forgetting", "internal/strconv.uint64pow10", "math/bits.deBruijn32tab", "math/bits.deBruijn64tab"], apart := false, laid := [("math/bits.deBruijn32tab", laid_math_bits_deBruijn32tab), ("math/bits.deBruijn64tab", laid_math_bits_deBruijn64tab), ("internal/strconv.uint64pow10", laid_internal_strconv_uint64pow10), ("anvil/anvillaw.forgetting", laid_anvil_anvillaw_forgetting)] }
def VariedSaid : Prop := variedRow.holds Tryz.pinned (OpenSpec.ofChange variedSpec)

/-- ITS FALSE NEIGHBOUR: 'it returns false'. Refute it at one input. -/
def variedWrong : ChangeSpec := { name := "varied", fn := fun _ => fun
  | [d] => { results := [.lit (.bool false)], args := [d] }
  | _ => none }
def VariedWrongFalsely : Prop := variedRow.holds Tryz.pinned (OpenSpec.ofChange variedWrong)

/-- 'anvilkeep.Failed': WHATEVER THE INPUT: true; the input reads as it did. -/
def failedSpec : ChangeSpec := { name := "failed", fn := fun _ => fun
  | [d1, d2] => { results := [.lit (.bool true)], args := [d1, d2] }
  | _ => none }
def failedRow : OpenClaim := { program := "ytgnlokmeohffaaagreatdoor", sum := "e9da8bcdb7f5e9fb450b7ba51e44226074d735e1857e078c79eb4e2a45718e01", func := "anvil/anvilkeep.Failed", spec := "failed", unfollowed := true, recurses := true, named := ["internal/strconv.uint64pow10", "math/bits.deBruijn32tab", "math/bits.deBruijn64tab"], apart := false, laid := [("math/bits.deBruijn32tab", laid_math_bits_deBruijn32tab), ("math/bits.deBruijn64tab", laid_math_bits_deBruijn64tab), ("internal/strconv.uint64pow10", laid_internal_strconv_uint64pow10)] }
def FailedSaid : Prop := failedRow.holds Tryz.pinned (OpenSpec.ofChange failedSpec)

/-- ITS FALSE NEIGHBOUR: 'it returns false'. Refute it at one input. -/
def failedWrong : ChangeSpec := { name := "failed", fn := fun _ => fun
  | [d1, d2] => { results := [.lit (.bool false)], args := [d1, d2] }
  | _ => none }
def FailedWrongFalsely : Prop := failedRow.holds Tryz.pinned (OpenSpec.ofChange failedWrong)

/-- 'anvilkeep.Forgotten': WHATEVER THE INPUT: true; the input reads as it did. -/
def forgottenSpec : ChangeSpec := { name := "forgotten", fn := fun _ => fun
  | [d1, d2] => { results := [.lit (.bool true)], args := [d1, d2] }
  | _ => none }
def forgottenRow : OpenClaim := { program := "ytgnlokmeohffaaagreatdoor", sum := "e9da8bcdb7f5e9fb450b7ba51e44226074d735e1857e078c79eb4e2a45718e01", func := "anvil/anvilkeep.Forgotten", spec := "forgotten", unfollowed := true, recurses := true, named := ["internal/strconv.uint64pow10", "math/bits.deBruijn32tab", "math/bits.deBruijn64tab"], apart := false, laid := [("math/bits.deBruijn32tab", laid_math_bits_deBruijn32tab), ("math/bits.deBruijn64tab", laid_math_bits_deBruijn64tab), ("internal/strconv.uint64pow10", laid_internal_strconv_uint64pow10)] }
def ForgottenSaid : Prop := forgottenRow.holds Tryz.pinned (OpenSpec.ofChange forgottenSpec)

/-- ITS FALSE NEIGHBOUR: 'it returns false'. Refute it at one input. -/
def forgottenWrong : ChangeSpec := { name := "forgotten", fn := fun _ => fun
  | [d1, d2] => { results := [.lit (.bool false)], args := [d1, d2] }
  | _ => none }
def ForgottenWrongFalsely : Prop := forgottenRow.holds Tryz.pinned (OpenSpec.ofChange forgottenWrong)

/-- 'anvillaw.All': WHATEVER THE INPUT: true; the input reads as it did. -/
def allSpec : ChangeSpec := { name := "all", fn := fun _ => fun
  | [d] => { results := [.lit (.bool true)], args := [d] }
  | _ => none }
def allRow : OpenClaim := { program := "ytgnlokmeohffaaagreatdoor", sum := "e9da8bcdb7f5e9fb450b7ba51e44226074d735e1857e078c79eb4e2a45718e01", func := "anvil/anvillaw.All", spec := "all", unfollowed := true, recurses := true, named := ["internal/strconv.uint64pow10", "math/bits.deBruijn32tab", "math/bits.deBruijn64tab"], apart := false, laid := [("math/bits.deBruijn32tab", laid_math_bits_deBruijn32tab), ("math/bits.deBruijn64tab", laid_math_bits_deBruijn64tab), ("internal/strconv.uint64pow10", laid_internal_strconv_uint64pow10)] }
def AllSaid : Prop := allRow.holds Tryz.pinned (OpenSpec.ofChange allSpec)

/-- ITS FALSE NEIGHBOUR: 'it returns false'. Refute it at one input. -/
def allWrong : ChangeSpec := { name := "all", fn := fun _ => fun
  | [d] => { results := [.lit (.bool false)], args := [d] }
  | _ => none }
def AllWrongFalsely : Prop := allRow.holds Tryz.pinned (OpenSpec.ofChange allWrong)

/- THE SECOND FORM. 'bulk': how many values and letters a reading holds, each counted each time it is reached (what is shared counts as often as it is met; a slice's spare places count too). A statement '..UptoSaid' is the law's where the arguments, and the package variables that the reading takes, are together of bulk at most 1048576: NARROWER than '..Said'. Prove '..Said' where nothing that the law and all that it calls make is longer than what came in: it says more and counts as full. Else prove '..UptoSaid'. A law counts once. -/
mutual
def uptoBulk {H : Type} : DataW H → Nat
  | .lit (.string bytes) => bytes.length + 1
  | .lit _ => 1
  | .nil => 1
  | .ptr d => uptoBulk d + 1
  | .slice elems spare => uptoBulkAll elems + uptoBulkAll spare + 1
  | .agg parts => uptoBulkAll parts + 1
  | .iface _ d => uptoBulk d + 1
  | .map entries => uptoBulkEntries entries + 1
  | .held _ => 1
def uptoBulkAll {H : Type} : List (DataW H) → Nat
  | [] => 0
  | d :: r => uptoBulk d + uptoBulkAll r
def uptoBulkEntries {H : Type} : List (Lit × DataW H) → Nat
  | [] => 0
  | x :: r => uptoBulkEntry x + uptoBulkEntries r
def uptoBulkEntry {H : Type} : Lit × DataW H → Nat
  | (.string bytes, d) => bytes.length + uptoBulk d + 1
  | (_, d) => uptoBulk d + 1
 end
def uptoSmall : (H : Type) → List (DataW H) → Bool := fun _ ds => decide (uptoBulkAll ds ≤ 1048576)
def OpenSpec.upto (s : _root_.Go.ChangeSpec) : _root_.Go.OpenSpec := { _root_.Go.OpenSpec.ofChange s with cond := some uptoSmall }

/-- 'anvillaw.Plain', WHERE WHAT IT READS IS OF BULK AT MOST 1048576: true; the input reads as it did. -/
def plainUptoRow : OpenClaim := { program := "ytgnlokmeohffaaagreatdoor", sum := "e9da8bcdb7f5e9fb450b7ba51e44226074d735e1857e078c79eb4e2a45718e01", func := "anvil/anvillaw.Plain", spec := "plain", unfollowed := true, recurses := true, named := ["anvil/anvillaw.definitions", "anvil/anvillaw.variables", "anvil/anvillaw.forgetting", "internal/strconv.uint64pow10", "math/bits.deBruijn32tab", "math/bits.deBruijn64tab"], apart := false, laid := [("math/bits.deBruijn32tab", laid_math_bits_deBruijn32tab), ("math/bits.deBruijn64tab", laid_math_bits_deBruijn64tab), ("internal/strconv.uint64pow10", laid_internal_strconv_uint64pow10), ("anvil/anvillaw.definitions", laid_anvil_anvillaw_definitions), ("anvil/anvillaw.variables", laid_anvil_anvillaw_variables), ("anvil/anvillaw.forgetting", laid_anvil_anvillaw_forgetting)], narrowed := true }
def PlainUptoSaid : Prop := plainUptoRow.holds Tryz.pinned (OpenSpec.upto plainSpec)

/-- 'anvillaw.Defined', WHERE WHAT IT READS IS OF BULK AT MOST 1048576: true; the input reads as it did. -/
def definedUptoRow : OpenClaim := { program := "ytgnlokmeohffaaagreatdoor", sum := "e9da8bcdb7f5e9fb450b7ba51e44226074d735e1857e078c79eb4e2a45718e01", func := "anvil/anvillaw.Defined", spec := "defined", unfollowed := true, recurses := true, named := ["anvil/anvillaw.variables", "anvil/anvillaw.forgetting", "internal/strconv.uint64pow10", "math/bits.deBruijn32tab", "math/bits.deBruijn64tab"], apart := false, laid := [("math/bits.deBruijn32tab", laid_math_bits_deBruijn32tab), ("math/bits.deBruijn64tab", laid_math_bits_deBruijn64tab), ("internal/strconv.uint64pow10", laid_internal_strconv_uint64pow10), ("anvil/anvillaw.variables", laid_anvil_anvillaw_variables), ("anvil/anvillaw.forgetting", laid_anvil_anvillaw_forgetting)], narrowed := true }
def DefinedUptoSaid : Prop := definedUptoRow.holds Tryz.pinned (OpenSpec.upto definedSpec)

/-- 'anvillaw.Varied', WHERE WHAT IT READS IS OF BULK AT MOST 1048576: true; the input reads as it did. -/
def variedUptoRow : OpenClaim := { program := "ytgnlokmeohffaaagreatdoor", sum := "e9da8bcdb7f5e9fb450b7ba51e44226074d735e1857e078c79eb4e2a45718e01", func := "anvil/anvillaw.Varied", spec := "varied", unfollowed := true, recurses := true, named := ["anvil/anvillaw.forgetting", "internal/strconv.uint64pow10", "math/bits.deBruijn32tab", "math/bits.deBruijn64tab"], apart := false, laid := [("math/bits.deBruijn32tab", laid_math_bits_deBruijn32tab), ("math/bits.deBruijn64tab", laid_math_bits_deBruijn64tab), ("internal/strconv.uint64pow10", laid_internal_strconv_uint64pow10), ("anvil/anvillaw.forgetting", laid_anvil_anvillaw_forgetting)], narrowed := true }
def VariedUptoSaid : Prop := variedUptoRow.holds Tryz.pinned (OpenSpec.upto variedSpec)

/-- 'anvilkeep.Failed', WHERE WHAT IT READS IS OF BULK AT MOST 1048576: true; the input reads as it did. -/
def failedUptoRow : OpenClaim := { program := "ytgnlokmeohffaaagreatdoor", sum := "e9da8bcdb7f5e9fb450b7ba51e44226074d735e1857e078c79eb4e2a45718e01", func := "anvil/anvilkeep.Failed", spec := "failed", unfollowed := true, recurses := true, named := ["internal/strconv.uint64pow10", "math/bits.deBruijn32tab", "math/bits.deBruijn64tab"], apart := false, laid := [("math/bits.deBruijn32tab", laid_math_bits_deBruijn32tab), ("math/bits.deBruijn64tab", laid_math_bits_deBruijn64tab), ("internal/strconv.uint64pow10", laid_internal_strconv_uint64pow10)], narrowed := true }
def FailedUptoSaid : Prop := failedUptoRow.holds Tryz.pinned (OpenSpec.upto failedSpec)

/-- 'anvilkeep.Forgotten', WHERE WHAT IT READS IS OF BULK AT MOST 1048576: true; the input reads as it did. -/
def forgottenUptoRow : OpenClaim := { program := "ytgnlokmeohffaaagreatdoor", sum := "e9da8bcdb7f5e9fb450b7ba51e44226074d735e1857e078c79eb4e2a45718e01", func := "anvil/anvilkeep.Forgotten", spec := "forgotten", unfollowed := true, recurses := true, named := ["internal/strconv.uint64pow10", "math/bits.deBruijn32tab", "math/bits.deBruijn64tab"], apart := false, laid := [("math/bits.deBruijn32tab", laid_math_bits_deBruijn32tab), ("math/bits.deBruijn64tab", laid_math_bits_deBruijn64tab), ("internal/strconv.uint64pow10", laid_internal_strconv_uint64pow10)], narrowed := true }
def ForgottenUptoSaid : Prop := forgottenUptoRow.holds Tryz.pinned (OpenSpec.upto forgottenSpec)

/-- 'anvillaw.All', WHERE WHAT IT READS IS OF BULK AT MOST 1048576: true; the input reads as it did. -/
def allUptoRow : OpenClaim := { program := "ytgnlokmeohffaaagreatdoor", sum := "e9da8bcdb7f5e9fb450b7ba51e44226074d735e1857e078c79eb4e2a45718e01", func := "anvil/anvillaw.All", spec := "all", unfollowed := true, recurses := true, named := ["internal/strconv.uint64pow10", "math/bits.deBruijn32tab", "math/bits.deBruijn64tab"], apart := false, laid := [("math/bits.deBruijn32tab", laid_math_bits_deBruijn32tab), ("math/bits.deBruijn64tab", laid_math_bits_deBruijn64tab), ("internal/strconv.uint64pow10", laid_internal_strconv_uint64pow10)], narrowed := true }
def AllUptoSaid : Prop := allUptoRow.holds Tryz.pinned (OpenSpec.upto allSpec)

end Rows
end Go.Proofs.YtgnlokmeohffaaaGreatDoor
