/-
  No cell of these rows narrows 'for every input' (looked for: loops, veiled, ifaces, maps, wideKeys, modest, calm, conditions, laid).
  DERIVED. THE GIVEN ROWS OF THIS SEAT. 5 by the template 'for every input the law returns true; each argument reads behind the call as it read before'; 0 by the template 'total and deterministic' (their statements: YtgjldmjlbhkgbaaGreatTotals.lean).
  GIVEN WITH THE SEED: the statements are not yours to turn. If you find one false, say at which input.
  Laid BY PROGRAM, IN A SANDBOX (cutbox-rows.mjs): the forced cells as the released guide's own fill.sh prints them over the translation 62bdfd3a4dd221c4… (all of the seat's roots in one cut). By AI agents, Wed Nov 11 2026. No macro, syntax, notation, axiom, sorry.
-/
import Derived.Test.YtgjldmjlbhkgbaaGreatChecked
import GoSem.Claim
import GoSem.ClaimJoined
import GoSem.ClaimMapViews
import Derived.JoinedTies
import Derived.KernelRfl
namespace Go.Proofs.YtgjldmjlbhkgbaaGreat
/- THE CELL 'sum', in the pinned program and in every row, IS THE sha256 OF THE DUMP (.gsa) THAT YtgjldmjlbhkgbaaGreatProg.lean LOADS. Nothing in Lean hashes anything: it is a label: what it is worth is what the hold of that sum in a sandbox is worth. -/
noncomputable def Tryz.pinned : Pinned := { name := "ytgjldmjlbhkgbaagreat", sum := "62bdfd3a4dd221c401f4df169f1b7c73ab005cdf26ec95910dc880ea23bb9f89", checked := Tryz.checked }
namespace Rows
def none {H : Type} : Left H := { results := [], args := [] }

/-- 'laws.FnSubmits': WHATEVER THE INPUT: true; the input reads as it did. -/
def fnSubmitsSpec : ChangeSpec := { name := "fnSubmits", fn := fun _ => fun
  | [d] => { results := [.lit (.bool true)], args := [d] }
  | _ => none }
def fnSubmitsRow : OpenClaim := { program := "ytgjldmjlbhkgbaagreat", sum := "62bdfd3a4dd221c401f4df169f1b7c73ab005cdf26ec95910dc880ea23bb9f89", func := "loop.example/g00398/laws.FnSubmits", spec := "fnSubmits", unfollowed := true, recurses := true, apart := false }
def FnSubmitsSaid : Prop := fnSubmitsRow.holds Tryz.pinned (OpenSpec.ofChange fnSubmitsSpec)

/-- ITS FALSE NEIGHBOUR: 'it returns false'. Refute it at one input. -/
def fnSubmitsWrong : ChangeSpec := { name := "fnSubmits", fn := fun _ => fun
  | [d] => { results := [.lit (.bool false)], args := [d] }
  | _ => none }
def FnSubmitsWrongFalsely : Prop := fnSubmitsRow.holds Tryz.pinned (OpenSpec.ofChange fnSubmitsWrong)

/-- 'laws.FnExactEngOk': WHATEVER THE INPUT: true; the input reads as it did. -/
def fnExactEngOkSpec : ChangeSpec := { name := "fnExactEngOk", fn := fun _ => fun
  | [d] => { results := [.lit (.bool true)], args := [d] }
  | _ => none }
def fnExactEngOkRow : OpenClaim := { program := "ytgjldmjlbhkgbaagreat", sum := "62bdfd3a4dd221c401f4df169f1b7c73ab005cdf26ec95910dc880ea23bb9f89", func := "loop.example/g00398/laws.FnExactEngOk", spec := "fnExactEngOk", unfollowed := true, recurses := true, apart := false }
def FnExactEngOkSaid : Prop := fnExactEngOkRow.holds Tryz.pinned (OpenSpec.ofChange fnExactEngOkSpec)

/-- ITS FALSE NEIGHBOUR: 'it returns false'. Refute it at one input. -/
def fnExactEngOkWrong : ChangeSpec := { name := "fnExactEngOk", fn := fun _ => fun
  | [d] => { results := [.lit (.bool false)], args := [d] }
  | _ => none }
def FnExactEngOkWrongFalsely : Prop := fnExactEngOkRow.holds Tryz.pinned (OpenSpec.ofChange fnExactEngOkWrong)

/-- 'laws.FnExactSubmit': WHATEVER THE INPUT: true; the input reads as it did. -/
def fnExactSubmitSpec : ChangeSpec := { name := "fnExactSubmit", fn := fun _ => fun
  | [d1, d2] => { results := [.lit (.bool true)], args := [d1, d2] }
  | _ => none }
def fnExactSubmitRow : OpenClaim := { program := "ytgjldmjlbhkgbaagreat", sum := "62bdfd3a4dd221c401f4df169f1b7c73ab005cdf26ec95910dc880ea23bb9f89", func := "loop.example/g00398/laws.FnExactSubmit", spec := "fnExactSubmit", unfollowed := true, recurses := true, apart := false }
def FnExactSubmitSaid : Prop := fnExactSubmitRow.holds Tryz.pinned (OpenSpec.ofChange fnExactSubmitSpec)

/-- ITS FALSE NEIGHBOUR: 'it returns false'. Refute it at one input. -/
def fnExactSubmitWrong : ChangeSpec := { name := "fnExactSubmit", fn := fun _ => fun
  | [d1, d2] => { results := [.lit (.bool false)], args := [d1, d2] }
  | _ => none }
def FnExactSubmitWrongFalsely : Prop := fnExactSubmitRow.holds Tryz.pinned (OpenSpec.ofChange fnExactSubmitWrong)

/-- 'laws.FnExactCanBegin': WHATEVER THE INPUT: true; the input reads as it did. -/
def fnExactCanBeginSpec : ChangeSpec := { name := "fnExactCanBegin", fn := fun _ => fun
  | [d1, d2] => { results := [.lit (.bool true)], args := [d1, d2] }
  | _ => none }
def fnExactCanBeginRow : OpenClaim := { program := "ytgjldmjlbhkgbaagreat", sum := "62bdfd3a4dd221c401f4df169f1b7c73ab005cdf26ec95910dc880ea23bb9f89", func := "loop.example/g00398/laws.FnExactCanBegin", spec := "fnExactCanBegin", unfollowed := true, recurses := true, apart := false }
def FnExactCanBeginSaid : Prop := fnExactCanBeginRow.holds Tryz.pinned (OpenSpec.ofChange fnExactCanBeginSpec)

/-- ITS FALSE NEIGHBOUR: 'it returns false'. Refute it at one input. -/
def fnExactCanBeginWrong : ChangeSpec := { name := "fnExactCanBegin", fn := fun _ => fun
  | [d1, d2] => { results := [.lit (.bool false)], args := [d1, d2] }
  | _ => none }
def FnExactCanBeginWrongFalsely : Prop := fnExactCanBeginRow.holds Tryz.pinned (OpenSpec.ofChange fnExactCanBeginWrong)

/-- 'laws.FnExactBegin': WHATEVER THE INPUT: true; the input reads as it did. -/
def fnExactBeginSpec : ChangeSpec := { name := "fnExactBegin", fn := fun _ => fun
  | [d1, d2] => { results := [.lit (.bool true)], args := [d1, d2] }
  | _ => none }
def fnExactBeginRow : OpenClaim := { program := "ytgjldmjlbhkgbaagreat", sum := "62bdfd3a4dd221c401f4df169f1b7c73ab005cdf26ec95910dc880ea23bb9f89", func := "loop.example/g00398/laws.FnExactBegin", spec := "fnExactBegin", unfollowed := true, recurses := true, apart := false }
def FnExactBeginSaid : Prop := fnExactBeginRow.holds Tryz.pinned (OpenSpec.ofChange fnExactBeginSpec)

/-- ITS FALSE NEIGHBOUR: 'it returns false'. Refute it at one input. -/
def fnExactBeginWrong : ChangeSpec := { name := "fnExactBegin", fn := fun _ => fun
  | [d1, d2] => { results := [.lit (.bool false)], args := [d1, d2] }
  | _ => none }
def FnExactBeginWrongFalsely : Prop := fnExactBeginRow.holds Tryz.pinned (OpenSpec.ofChange fnExactBeginWrong)

/- THE SECOND FORM. 'bulk': how many values and letters a reading holds, each counted each time it is reached (what is shared counts as often as it is met; a slice's spare places count too). A statement '..UptoSaid' is the law's where the arguments, and the package variables that the reading takes, are together of bulk at most 1048576: NARROWER than '..Said'. Prove '..Said' where nothing that the law and all that it calls make is longer than what came in: it says more and counts as full. Else prove '..UptoSaid'. A law counts once. -/
mutual
def uptoBulk {H : Type} : DataW H → Nat
  | .lit (.string bytes) => bytes.length + 1
  | .lit _ => 1
  | .nil => 1
  | .ptr d => uptoBulk d + 1
  | .slice elems spare => uptoBulkAll elems + uptoBulkAll spare + 1
  | .agg parts => uptoBulkAll parts + 1
  | .iface _ d => uptoBulk d + 1
  | .map entries => uptoBulkEntries entries + 1
  | .held _ => 1
def uptoBulkAll {H : Type} : List (DataW H) → Nat
  | [] => 0
  | d :: r => uptoBulk d + uptoBulkAll r
def uptoBulkEntries {H : Type} : List (Lit × DataW H) → Nat
  | [] => 0
  | x :: r => uptoBulkEntry x + uptoBulkEntries r
def uptoBulkEntry {H : Type} : Lit × DataW H → Nat
  | (.string bytes, d) => bytes.length + uptoBulk d + 1
  | (_, d) => uptoBulk d + 1
 end
def uptoSmall : (H : Type) → List (DataW H) → Bool := fun _ ds => decide (uptoBulkAll ds ≤ 1048576)
def OpenSpec.upto (s : _root_.Go.ChangeSpec) : _root_.Go.OpenSpec := { _root_.Go.OpenSpec.ofChange s with cond := some uptoSmall }

/-- 'laws.FnSubmits', WHERE WHAT IT READS IS OF BULK AT MOST 1048576: true; the input reads as it did. -/
def fnSubmitsUptoRow : OpenClaim := { program := "ytgjldmjlbhkgbaagreat", sum := "62bdfd3a4dd221c401f4df169f1b7c73ab005cdf26ec95910dc880ea23bb9f89", func := "loop.example/g00398/laws.FnSubmits", spec := "fnSubmits", unfollowed := true, recurses := true, apart := false, narrowed := true }
def FnSubmitsUptoSaid : Prop := fnSubmitsUptoRow.holds Tryz.pinned (OpenSpec.upto fnSubmitsSpec)

/-- 'laws.FnExactEngOk', WHERE WHAT IT READS IS OF BULK AT MOST 1048576: true; the input reads as it did. -/
def fnExactEngOkUptoRow : OpenClaim := { program := "ytgjldmjlbhkgbaagreat", sum := "62bdfd3a4dd221c401f4df169f1b7c73ab005cdf26ec95910dc880ea23bb9f89", func := "loop.example/g00398/laws.FnExactEngOk", spec := "fnExactEngOk", unfollowed := true, recurses := true, apart := false, narrowed := true }
def FnExactEngOkUptoSaid : Prop := fnExactEngOkUptoRow.holds Tryz.pinned (OpenSpec.upto fnExactEngOkSpec)

/-- 'laws.FnExactSubmit', WHERE WHAT IT READS IS OF BULK AT MOST 1048576: true; the input reads as it did. -/
def fnExactSubmitUptoRow : OpenClaim := { program := "ytgjldmjlbhkgbaagreat", sum := "62bdfd3a4dd221c401f4df169f1b7c73ab005cdf26ec95910dc880ea23bb9f89", func := "loop.example/g00398/laws.FnExactSubmit", spec := "fnExactSubmit", unfollowed := true, recurses := true, apart := false, narrowed := true }
def FnExactSubmitUptoSaid : Prop := fnExactSubmitUptoRow.holds Tryz.pinned (OpenSpec.upto fnExactSubmitSpec)

/-- 'laws.FnExactCanBegin', WHERE WHAT IT READS IS OF BULK AT MOST 1048576: true; the input reads as it did. -/
def fnExactCanBeginUptoRow : OpenClaim := { program := "ytgjldmjlbhkgbaagreat", sum := "62bdfd3a4dd221c401f4df169f1b7c73ab005cdf26ec95910dc880ea23bb9f89", func := "loop.example/g00398/laws.FnExactCanBegin", spec := "fnExactCanBegin", unfollowed := true, recurses := true, apart := false, narrowed := true }
def FnExactCanBeginUptoSaid : Prop := fnExactCanBeginUptoRow.holds Tryz.pinned (OpenSpec.upto fnExactCanBeginSpec)

/-- 'laws.FnExactBegin', WHERE WHAT IT READS IS OF BULK AT MOST 1048576: true; the input reads as it did. -/
def fnExactBeginUptoRow : OpenClaim := { program := "ytgjldmjlbhkgbaagreat", sum := "62bdfd3a4dd221c401f4df169f1b7c73ab005cdf26ec95910dc880ea23bb9f89", func := "loop.example/g00398/laws.FnExactBegin", spec := "fnExactBegin", unfollowed := true, recurses := true, apart := false, narrowed := true }
def FnExactBeginUptoSaid : Prop := fnExactBeginUptoRow.holds Tryz.pinned (OpenSpec.upto fnExactBeginSpec)

end Rows
end Go.Proofs.YtgjldmjlbhkgbaaGreat
