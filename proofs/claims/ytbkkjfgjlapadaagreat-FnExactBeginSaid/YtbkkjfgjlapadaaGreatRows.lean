/-
  No cell of these rows narrows 'for every input' (looked for: loops, veiled, ifaces, maps, wideKeys, modest, calm, conditions, laid).
  DERIVED. THE GIVEN ROWS OF THIS SEAT. 4 by the template 'for every input the law returns true; each argument reads behind the call as it read before'; 0 by the template 'total and deterministic' (their statements: YtbkkjfgjlapadaaGreatTotals.lean).
  GIVEN WITH THE SEED: the statements are not yours to turn. If you find one false, say at which input.
  Laid BY PROGRAM, IN A SANDBOX (cutbox-rows.mjs): the forced cells as the released guide's own fill.sh prints them over the translation 379ffdc95bf571c3… (all of the seat's roots in one cut). By AI agents, Wed Nov 11 2026. No macro, syntax, notation, axiom, sorry.
-/
import Derived.Test.YtbkkjfgjlapadaaGreatChecked
import GoSem.Claim
import GoSem.ClaimJoined
import GoSem.ClaimMapViews
import Derived.JoinedTies
import Derived.KernelRfl
namespace Go.Proofs.YtbkkjfgjlapadaaGreat
/- THE CELL 'sum', in the pinned program and in every row, IS THE sha256 OF THE DUMP (.gsa) THAT YtbkkjfgjlapadaaGreatProg.lean LOADS. Nothing in Lean hashes anything: it is a label: what it is worth is what the hold of that sum in a sandbox is worth. -/
noncomputable def Tryz.pinned : Pinned := { name := "ytbkkjfgjlapadaagreat", sum := "379ffdc95bf571c3f6743f0f1c991baef5ff7dc8d3911c1b0db2fc30c5e6fd6a", checked := Tryz.checked }
namespace Rows
def none {H : Type} : Left H := { results := [], args := [] }

/-- 'laws.FnSubmits': WHATEVER THE INPUT: true; the input reads as it did. -/
def fnSubmitsSpec : ChangeSpec := { name := "fnSubmits", fn := fun _ => fun
  | [d] => { results := [.lit (.bool true)], args := [d] }
  | _ => none }
def fnSubmitsRow : OpenClaim := { program := "ytbkkjfgjlapadaagreat", sum := "379ffdc95bf571c3f6743f0f1c991baef5ff7dc8d3911c1b0db2fc30c5e6fd6a", func := "loop.example/g00398/laws.FnSubmits", spec := "fnSubmits", unfollowed := true, recurses := true, apart := false }
def FnSubmitsSaid : Prop := fnSubmitsRow.holds Tryz.pinned (OpenSpec.ofChange fnSubmitsSpec)

/-- ITS FALSE NEIGHBOUR: 'it returns false'. Refute it at one input. -/
def fnSubmitsWrong : ChangeSpec := { name := "fnSubmits", fn := fun _ => fun
  | [d] => { results := [.lit (.bool false)], args := [d] }
  | _ => none }
def FnSubmitsWrongFalsely : Prop := fnSubmitsRow.holds Tryz.pinned (OpenSpec.ofChange fnSubmitsWrong)

/-- 'laws.FnEngsBent': WHATEVER THE INPUT: true; the input reads as it did. -/
def fnEngsBentSpec : ChangeSpec := { name := "fnEngsBent", fn := fun _ => fun
  | [d] => { results := [.lit (.bool true)], args := [d] }
  | _ => none }
def fnEngsBentRow : OpenClaim := { program := "ytbkkjfgjlapadaagreat", sum := "379ffdc95bf571c3f6743f0f1c991baef5ff7dc8d3911c1b0db2fc30c5e6fd6a", func := "loop.example/g00398/laws.FnEngsBent", spec := "fnEngsBent", unfollowed := true, recurses := true, apart := false }
def FnEngsBentSaid : Prop := fnEngsBentRow.holds Tryz.pinned (OpenSpec.ofChange fnEngsBentSpec)

/-- ITS FALSE NEIGHBOUR: 'it returns false'. Refute it at one input. -/
def fnEngsBentWrong : ChangeSpec := { name := "fnEngsBent", fn := fun _ => fun
  | [d] => { results := [.lit (.bool false)], args := [d] }
  | _ => none }
def FnEngsBentWrongFalsely : Prop := fnEngsBentRow.holds Tryz.pinned (OpenSpec.ofChange fnEngsBentWrong)

/-- 'laws.FnExactSubmit': WHATEVER THE INPUT: true; the input reads as it did. -/
def fnExactSubmitSpec : ChangeSpec := { name := "fnExactSubmit", fn := fun _ => fun
  | [d1, d2] => { results := [.lit (.bool true)], args := [d1, d2] }
  | _ => none }
def fnExactSubmitRow : OpenClaim := { program := "ytbkkjfgjlapadaagreat", sum := "379ffdc95bf571c3f6743f0f1c991baef5ff7dc8d3911c1b0db2fc30c5e6fd6a", func := "loop.example/g00398/laws.FnExactSubmit", spec := "fnExactSubmit", unfollowed := true, recurses := true, apart := false }
def FnExactSubmitSaid : Prop := fnExactSubmitRow.holds Tryz.pinned (OpenSpec.ofChange fnExactSubmitSpec)

/-- ITS FALSE NEIGHBOUR: 'it returns false'. Refute it at one input. -/
def fnExactSubmitWrong : ChangeSpec := { name := "fnExactSubmit", fn := fun _ => fun
  | [d1, d2] => { results := [.lit (.bool false)], args := [d1, d2] }
  | _ => none }
def FnExactSubmitWrongFalsely : Prop := fnExactSubmitRow.holds Tryz.pinned (OpenSpec.ofChange fnExactSubmitWrong)

/-- 'laws.FnExactBegin': WHATEVER THE INPUT: true; the input reads as it did. -/
def fnExactBeginSpec : ChangeSpec := { name := "fnExactBegin", fn := fun _ => fun
  | [d1, d2] => { results := [.lit (.bool true)], args := [d1, d2] }
  | _ => none }
def fnExactBeginRow : OpenClaim := { program := "ytbkkjfgjlapadaagreat", sum := "379ffdc95bf571c3f6743f0f1c991baef5ff7dc8d3911c1b0db2fc30c5e6fd6a", func := "loop.example/g00398/laws.FnExactBegin", spec := "fnExactBegin", unfollowed := true, recurses := true, apart := false }
def FnExactBeginSaid : Prop := fnExactBeginRow.holds Tryz.pinned (OpenSpec.ofChange fnExactBeginSpec)

/-- ITS FALSE NEIGHBOUR: 'it returns false'. Refute it at one input. -/
def fnExactBeginWrong : ChangeSpec := { name := "fnExactBegin", fn := fun _ => fun
  | [d1, d2] => { results := [.lit (.bool false)], args := [d1, d2] }
  | _ => none }
def FnExactBeginWrongFalsely : Prop := fnExactBeginRow.holds Tryz.pinned (OpenSpec.ofChange fnExactBeginWrong)

/- THE SECOND FORM. 'bulk': how many values and letters a reading holds, each counted each time it is reached (what is shared counts as often as it is met; a slice's spare places count too). A statement '..UptoSaid' is the law's where the arguments, and the package variables that the reading takes, are together of bulk at most 1048576: NARROWER than '..Said'. Prove '..Said' where nothing that the law and all that it calls make is longer than what came in: it says more and counts as full. Else prove '..UptoSaid'. A law counts once. -/
mutual
def uptoBulk {H : Type} : DataW H → Nat
  | .lit (.string bytes) => bytes.length + 1
  | .lit _ => 1
  | .nil => 1
  | .ptr d => uptoBulk d + 1
  | .slice elems spare => uptoBulkAll elems + uptoBulkAll spare + 1
  | .agg parts => uptoBulkAll parts + 1
  | .iface _ d => uptoBulk d + 1
  | .map entries => uptoBulkEntries entries + 1
  | .held _ => 1
def uptoBulkAll {H : Type} : List (DataW H) → Nat
  | [] => 0
  | d :: r => uptoBulk d + uptoBulkAll r
def uptoBulkEntries {H : Type} : List (Lit × DataW H) → Nat
  | [] => 0
  | x :: r => uptoBulkEntry x + uptoBulkEntries r
def uptoBulkEntry {H : Type} : Lit × DataW H → Nat
  | (.string bytes, d) => bytes.length + uptoBulk d + 1
  | (_, d) => uptoBulk d + 1
 end
def uptoSmall : (H : Type) → List (DataW H) → Bool := fun _ ds => decide (uptoBulkAll ds ≤ 1048576)
def OpenSpec.upto (s : _root_.Go.ChangeSpec) : _root_.Go.OpenSpec := { _root_.Go.OpenSpec.ofChange s with cond := some uptoSmall }

/-- 'laws.FnSubmits', WHERE WHAT IT READS IS OF BULK AT MOST 1048576: true; the input reads as it did. -/
def fnSubmitsUptoRow : OpenClaim := { program := "ytbkkjfgjlapadaagreat", sum := "379ffdc95bf571c3f6743f0f1c991baef5ff7dc8d3911c1b0db2fc30c5e6fd6a", func := "loop.example/g00398/laws.FnSubmits", spec := "fnSubmits", unfollowed := true, recurses := true, apart := false, narrowed := true }
def FnSubmitsUptoSaid : Prop := fnSubmitsUptoRow.holds Tryz.pinned (OpenSpec.upto fnSubmitsSpec)

/-- 'laws.FnEngsBent', WHERE WHAT IT READS IS OF BULK AT MOST 1048576: true; the input reads as it did. -/
def fnEngsBentUptoRow : OpenClaim := { program := "ytbkkjfgjlapadaagreat", sum := "379ffdc95bf571c3f6743f0f1c991baef5ff7dc8d3911c1b0db2fc30c5e6fd6a", func := "loop.example/g00398/laws.FnEngsBent", spec := "fnEngsBent", unfollowed := true, recurses := true, apart := false, narrowed := true }
def FnEngsBentUptoSaid : Prop := fnEngsBentUptoRow.holds Tryz.pinned (OpenSpec.upto fnEngsBentSpec)

/-- 'laws.FnExactSubmit', WHERE WHAT IT READS IS OF BULK AT MOST 1048576: true; the input reads as it did. -/
def fnExactSubmitUptoRow : OpenClaim := { program := "ytbkkjfgjlapadaagreat", sum := "379ffdc95bf571c3f6743f0f1c991baef5ff7dc8d3911c1b0db2fc30c5e6fd6a", func := "loop.example/g00398/laws.FnExactSubmit", spec := "fnExactSubmit", unfollowed := true, recurses := true, apart := false, narrowed := true }
def FnExactSubmitUptoSaid : Prop := fnExactSubmitUptoRow.holds Tryz.pinned (OpenSpec.upto fnExactSubmitSpec)

/-- 'laws.FnExactBegin', WHERE WHAT IT READS IS OF BULK AT MOST 1048576: true; the input reads as it did. -/
def fnExactBeginUptoRow : OpenClaim := { program := "ytbkkjfgjlapadaagreat", sum := "379ffdc95bf571c3f6743f0f1c991baef5ff7dc8d3911c1b0db2fc30c5e6fd6a", func := "loop.example/g00398/laws.FnExactBegin", spec := "fnExactBegin", unfollowed := true, recurses := true, apart := false, narrowed := true }
def FnExactBeginUptoSaid : Prop := fnExactBeginUptoRow.holds Tryz.pinned (OpenSpec.upto fnExactBeginSpec)

end Rows
end Go.Proofs.YtbkkjfgjlapadaaGreat
