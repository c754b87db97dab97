/-
  No cell of these rows narrows 'for every input' (looked for: loops, veiled, ifaces, maps, wideKeys, modest, calm, conditions, laid).
  DERIVED. THE GIVEN ROWS OF THIS SEAT. 5 by the template 'for every input the law returns true; each argument reads behind the call as it read before'; 0 by the template 'total and deterministic' (their statements: YtianjijbmiebgaaGreatTotals.lean).
  GIVEN WITH THE SEED: the statements are not yours to turn. If you find one false, say at which input.
  Laid BY PROGRAM, IN A SANDBOX (cutbox-rows.mjs): the forced cells as the released guide's own fill.sh prints them over the translation 922a7c4021cde7cb… (all of the seat's roots in one cut). By AI agents, Wed Nov 11 2026. No macro, syntax, notation, axiom, sorry.
-/
import Derived.Test.YtianjijbmiebgaaGreatChecked
import GoSem.Claim
import GoSem.ClaimJoined
import GoSem.ClaimMapViews
import Derived.JoinedTies
import Derived.KernelRfl
namespace Go.Proofs.YtianjijbmiebgaaGreat
/- THE CELL 'sum', in the pinned program and in every row, IS THE sha256 OF THE DUMP (.gsa) THAT YtianjijbmiebgaaGreatProg.lean LOADS. Nothing in Lean hashes anything: it is a label: what it is worth is what the hold of that sum in a sandbox is worth. -/
noncomputable def Tryz.pinned : Pinned := { name := "ytianjijbmiebgaagreat", sum := "922a7c4021cde7cb4de15bbc25044cb29594f740b059fad3c05cbe4470320fb9", checked := Tryz.checked }
namespace Rows
def none {H : Type} : Left H := { results := [], args := [] }

/-- 'laws.FnWritesBent': WHATEVER THE INPUT: true; the input reads as it did. -/
def fnWritesBentSpec : ChangeSpec := { name := "fnWritesBent", fn := fun _ => fun
  | [d] => { results := [.lit (.bool true)], args := [d] }
  | _ => none }
def fnWritesBentRow : OpenClaim := { program := "ytianjijbmiebgaagreat", sum := "922a7c4021cde7cb4de15bbc25044cb29594f740b059fad3c05cbe4470320fb9", func := "loop.example/g00398/laws.FnWritesBent", spec := "fnWritesBent", unfollowed := true, recurses := true, apart := false }
def FnWritesBentSaid : Prop := fnWritesBentRow.holds Tryz.pinned (OpenSpec.ofChange fnWritesBentSpec)

/-- ITS FALSE NEIGHBOUR: 'it returns false'. Refute it at one input. -/
def fnWritesBentWrong : ChangeSpec := { name := "fnWritesBent", fn := fun _ => fun
  | [d] => { results := [.lit (.bool false)], args := [d] }
  | _ => none }
def FnWritesBentWrongFalsely : Prop := fnWritesBentRow.holds Tryz.pinned (OpenSpec.ofChange fnWritesBentWrong)

/-- 'laws.FnBlocksBent': WHATEVER THE INPUT: true; the input reads as it did. -/
def fnBlocksBentSpec : ChangeSpec := { name := "fnBlocksBent", fn := fun _ => fun
  | [d] => { results := [.lit (.bool true)], args := [d] }
  | _ => none }
def fnBlocksBentRow : OpenClaim := { program := "ytianjijbmiebgaagreat", sum := "922a7c4021cde7cb4de15bbc25044cb29594f740b059fad3c05cbe4470320fb9", func := "loop.example/g00398/laws.FnBlocksBent", spec := "fnBlocksBent", unfollowed := true, recurses := true, apart := false }
def FnBlocksBentSaid : Prop := fnBlocksBentRow.holds Tryz.pinned (OpenSpec.ofChange fnBlocksBentSpec)

/-- ITS FALSE NEIGHBOUR: 'it returns false'. Refute it at one input. -/
def fnBlocksBentWrong : ChangeSpec := { name := "fnBlocksBent", fn := fun _ => fun
  | [d] => { results := [.lit (.bool false)], args := [d] }
  | _ => none }
def FnBlocksBentWrongFalsely : Prop := fnBlocksBentRow.holds Tryz.pinned (OpenSpec.ofChange fnBlocksBentWrong)

/-- 'laws.FnExactWriteStripe': WHATEVER THE INPUT: true; the input reads as it did. -/
def fnExactWriteStripeSpec : ChangeSpec := { name := "fnExactWriteStripe", fn := fun _ => fun
  | [d1, d2, d3] => { results := [.lit (.bool true)], args := [d1, d2, d3] }
  | _ => none }
def fnExactWriteStripeRow : OpenClaim := { program := "ytianjijbmiebgaagreat", sum := "922a7c4021cde7cb4de15bbc25044cb29594f740b059fad3c05cbe4470320fb9", func := "loop.example/g00398/laws.FnExactWriteStripe", spec := "fnExactWriteStripe", unfollowed := true, recurses := true, apart := false }
def FnExactWriteStripeSaid : Prop := fnExactWriteStripeRow.holds Tryz.pinned (OpenSpec.ofChange fnExactWriteStripeSpec)

/-- ITS FALSE NEIGHBOUR: 'it returns false'. Refute it at one input. -/
def fnExactWriteStripeWrong : ChangeSpec := { name := "fnExactWriteStripe", fn := fun _ => fun
  | [d1, d2, d3] => { results := [.lit (.bool false)], args := [d1, d2, d3] }
  | _ => none }
def FnExactWriteStripeWrongFalsely : Prop := fnExactWriteStripeRow.holds Tryz.pinned (OpenSpec.ofChange fnExactWriteStripeWrong)

/-- 'laws.FnExactFlushStripe': WHATEVER THE INPUT: true; the input reads as it did. -/
def fnExactFlushStripeSpec : ChangeSpec := { name := "fnExactFlushStripe", fn := fun _ => fun
  | [d1, d2] => { results := [.lit (.bool true)], args := [d1, d2] }
  | _ => none }
def fnExactFlushStripeRow : OpenClaim := { program := "ytianjijbmiebgaagreat", sum := "922a7c4021cde7cb4de15bbc25044cb29594f740b059fad3c05cbe4470320fb9", func := "loop.example/g00398/laws.FnExactFlushStripe", spec := "fnExactFlushStripe", unfollowed := true, recurses := true, apart := false }
def FnExactFlushStripeSaid : Prop := fnExactFlushStripeRow.holds Tryz.pinned (OpenSpec.ofChange fnExactFlushStripeSpec)

/-- ITS FALSE NEIGHBOUR: 'it returns false'. Refute it at one input. -/
def fnExactFlushStripeWrong : ChangeSpec := { name := "fnExactFlushStripe", fn := fun _ => fun
  | [d1, d2] => { results := [.lit (.bool false)], args := [d1, d2] }
  | _ => none }
def FnExactFlushStripeWrongFalsely : Prop := fnExactFlushStripeRow.holds Tryz.pinned (OpenSpec.ofChange fnExactFlushStripeWrong)

/-- 'laws.FnExactFlushAll': WHATEVER THE INPUT: true; the input reads as it did. -/
def fnExactFlushAllSpec : ChangeSpec := { name := "fnExactFlushAll", fn := fun _ => fun
  | [d] => { results := [.lit (.bool true)], args := [d] }
  | _ => none }
def fnExactFlushAllRow : OpenClaim := { program := "ytianjijbmiebgaagreat", sum := "922a7c4021cde7cb4de15bbc25044cb29594f740b059fad3c05cbe4470320fb9", func := "loop.example/g00398/laws.FnExactFlushAll", spec := "fnExactFlushAll", unfollowed := true, recurses := true, apart := false }
def FnExactFlushAllSaid : Prop := fnExactFlushAllRow.holds Tryz.pinned (OpenSpec.ofChange fnExactFlushAllSpec)

/-- ITS FALSE NEIGHBOUR: 'it returns false'. Refute it at one input. -/
def fnExactFlushAllWrong : ChangeSpec := { name := "fnExactFlushAll", fn := fun _ => fun
  | [d] => { results := [.lit (.bool false)], args := [d] }
  | _ => none }
def FnExactFlushAllWrongFalsely : Prop := fnExactFlushAllRow.holds Tryz.pinned (OpenSpec.ofChange fnExactFlushAllWrong)

/- THE SECOND FORM. 'bulk': how many values and letters a reading holds, each counted each time it is reached (what is shared counts as often as it is met; a slice's spare places count too). A statement '..UptoSaid' is the law's where the arguments, and the package variables that the reading takes, are together of bulk at most 1048576: NARROWER than '..Said'. Prove '..Said' where nothing that the law and all that it calls make is longer than what came in: it says more and counts as full. Else prove '..UptoSaid'. A law counts once. -/
mutual
def uptoBulk {H : Type} : DataW H → Nat
  | .lit (.string bytes) => bytes.length + 1
  | .lit _ => 1
  | .nil => 1
  | .ptr d => uptoBulk d + 1
  | .slice elems spare => uptoBulkAll elems + uptoBulkAll spare + 1
  | .agg parts => uptoBulkAll parts + 1
  | .iface _ d => uptoBulk d + 1
  | .map entries => uptoBulkEntries entries + 1
  | .held _ => 1
def uptoBulkAll {H : Type} : List (DataW H) → Nat
  | [] => 0
  | d :: r => uptoBulk d + uptoBulkAll r
def uptoBulkEntries {H : Type} : List (Lit × DataW H) → Nat
  | [] => 0
  | x :: r => uptoBulkEntry x + uptoBulkEntries r
def uptoBulkEntry {H : Type} : Lit × DataW H → Nat
  | (.string bytes, d) => bytes.length + uptoBulk d + 1
  | (_, d) => uptoBulk d + 1
 end
def uptoSmall : (H : Type) → List (DataW H) → Bool := fun _ ds => decide (uptoBulkAll ds ≤ 1048576)
def OpenSpec.upto (s : _root_.Go.ChangeSpec) : _root_.Go.OpenSpec := { _root_.Go.OpenSpec.ofChange s with cond := some uptoSmall }

/-- 'laws.FnWritesBent', WHERE WHAT IT READS IS OF BULK AT MOST 1048576: true; the input reads as it did. -/
def fnWritesBentUptoRow : OpenClaim := { program := "ytianjijbmiebgaagreat", sum := "922a7c4021cde7cb4de15bbc25044cb29594f740b059fad3c05cbe4470320fb9", func := "loop.example/g00398/laws.FnWritesBent", spec := "fnWritesBent", unfollowed := true, recurses := true, apart := false, narrowed := true }
def FnWritesBentUptoSaid : Prop := fnWritesBentUptoRow.holds Tryz.pinned (OpenSpec.upto fnWritesBentSpec)

/-- 'laws.FnBlocksBent', WHERE WHAT IT READS IS OF BULK AT MOST 1048576: true; the input reads as it did. -/
def fnBlocksBentUptoRow : OpenClaim := { program := "ytianjijbmiebgaagreat", sum := "922a7c4021cde7cb4de15bbc25044cb29594f740b059fad3c05cbe4470320fb9", func := "loop.example/g00398/laws.FnBlocksBent", spec := "fnBlocksBent", unfollowed := true, recurses := true, apart := false, narrowed := true }
def FnBlocksBentUptoSaid : Prop := fnBlocksBentUptoRow.holds Tryz.pinned (OpenSpec.upto fnBlocksBentSpec)

/-- 'laws.FnExactWriteStripe', WHERE WHAT IT READS IS OF BULK AT MOST 1048576: true; the input reads as it did. -/
def fnExactWriteStripeUptoRow : OpenClaim := { program := "ytianjijbmiebgaagreat", sum := "922a7c4021cde7cb4de15bbc25044cb29594f740b059fad3c05cbe4470320fb9", func := "loop.example/g00398/laws.FnExactWriteStripe", spec := "fnExactWriteStripe", unfollowed := true, recurses := true, apart := false, narrowed := true }
def FnExactWriteStripeUptoSaid : Prop := fnExactWriteStripeUptoRow.holds Tryz.pinned (OpenSpec.upto fnExactWriteStripeSpec)

/-- 'laws.FnExactFlushStripe', WHERE WHAT IT READS IS OF BULK AT MOST 1048576: true; the input reads as it did. -/
def fnExactFlushStripeUptoRow : OpenClaim := { program := "ytianjijbmiebgaagreat", sum := "922a7c4021cde7cb4de15bbc25044cb29594f740b059fad3c05cbe4470320fb9", func := "loop.example/g00398/laws.FnExactFlushStripe", spec := "fnExactFlushStripe", unfollowed := true, recurses := true, apart := false, narrowed := true }
def FnExactFlushStripeUptoSaid : Prop := fnExactFlushStripeUptoRow.holds Tryz.pinned (OpenSpec.upto fnExactFlushStripeSpec)

/-- 'laws.FnExactFlushAll', WHERE WHAT IT READS IS OF BULK AT MOST 1048576: true; the input reads as it did. -/
def fnExactFlushAllUptoRow : OpenClaim := { program := "ytianjijbmiebgaagreat", sum := "922a7c4021cde7cb4de15bbc25044cb29594f740b059fad3c05cbe4470320fb9", func := "loop.example/g00398/laws.FnExactFlushAll", spec := "fnExactFlushAll", unfollowed := true, recurses := true, apart := false, narrowed := true }
def FnExactFlushAllUptoSaid : Prop := fnExactFlushAllUptoRow.holds Tryz.pinned (OpenSpec.upto fnExactFlushAllSpec)

end Rows
end Go.Proofs.YtianjijbmiebgaaGreat
