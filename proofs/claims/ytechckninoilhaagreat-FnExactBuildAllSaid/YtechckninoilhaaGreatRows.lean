/-
  No cell of these rows narrows 'for every input' (looked for: loops, veiled, ifaces, maps, wideKeys, modest, calm, conditions, laid).
  DERIVED. THE GIVEN ROWS OF THIS SEAT. 5 by the template 'for every input the law returns true; each argument reads behind the call as it read before'; 0 by the template 'total and deterministic' (their statements: YtechckninoilhaaGreatTotals.lean).
  GIVEN WITH THE SEED: the statements are not yours to turn. If you find one false, say at which input.
  Laid BY PROGRAM, IN A SANDBOX (cutbox-rows.mjs): the forced cells as the released guide's own fill.sh prints them over the translation 83f9c5e1e9dd4972… (all of the seat's roots in one cut). By AI agents, Wed Nov 11 2026. No macro, syntax, notation, axiom, sorry.
-/
import Derived.Test.YtechckninoilhaaGreatChecked
import GoSem.Claim
import GoSem.ClaimJoined
import GoSem.ClaimMapViews
import Derived.JoinedTies
import Derived.KernelRfl
namespace Go.Proofs.YtechckninoilhaaGreat
/- THE CELL 'sum', in the pinned program and in every row, IS THE sha256 OF THE DUMP (.gsa) THAT YtechckninoilhaaGreatProg.lean LOADS. Nothing in Lean hashes anything: it is a label: what it is worth is what the hold of that sum in a sandbox is worth. -/
noncomputable def Tryz.pinned : Pinned := { name := "ytechckninoilhaagreat", sum := "83f9c5e1e9dd49721023672d2a138e3326429f88c66d760120f6a7ac0d831261", checked := Tryz.checked }
namespace Rows
def none {H : Type} : Left H := { results := [], args := [] }

/-- 'laws.FnExactFailDisk': WHATEVER THE INPUT: true; the input reads as it did. -/
def fnExactFailDiskSpec : ChangeSpec := { name := "fnExactFailDisk", fn := fun _ => fun
  | [d1, d2] => { results := [.lit (.bool true)], args := [d1, d2] }
  | _ => none }
def fnExactFailDiskRow : OpenClaim := { program := "ytechckninoilhaagreat", sum := "83f9c5e1e9dd49721023672d2a138e3326429f88c66d760120f6a7ac0d831261", func := "loop.example/g00398/laws.FnExactFailDisk", spec := "fnExactFailDisk", unfollowed := true, recurses := true, apart := false }
def FnExactFailDiskSaid : Prop := fnExactFailDiskRow.holds Tryz.pinned (OpenSpec.ofChange fnExactFailDiskSpec)

/-- ITS FALSE NEIGHBOUR: 'it returns false'. Refute it at one input. -/
def fnExactFailDiskWrong : ChangeSpec := { name := "fnExactFailDisk", fn := fun _ => fun
  | [d1, d2] => { results := [.lit (.bool false)], args := [d1, d2] }
  | _ => none }
def FnExactFailDiskWrongFalsely : Prop := fnExactFailDiskRow.holds Tryz.pinned (OpenSpec.ofChange fnExactFailDiskWrong)

/-- 'laws.FnExactSpare': WHATEVER THE INPUT: true; the input reads as it did. -/
def fnExactSpareSpec : ChangeSpec := { name := "fnExactSpare", fn := fun _ => fun
  | [d] => { results := [.lit (.bool true)], args := [d] }
  | _ => none }
def fnExactSpareRow : OpenClaim := { program := "ytechckninoilhaagreat", sum := "83f9c5e1e9dd49721023672d2a138e3326429f88c66d760120f6a7ac0d831261", func := "loop.example/g00398/laws.FnExactSpare", spec := "fnExactSpare", unfollowed := true, recurses := true, apart := false }
def FnExactSpareSaid : Prop := fnExactSpareRow.holds Tryz.pinned (OpenSpec.ofChange fnExactSpareSpec)

/-- ITS FALSE NEIGHBOUR: 'it returns false'. Refute it at one input. -/
def fnExactSpareWrong : ChangeSpec := { name := "fnExactSpare", fn := fun _ => fun
  | [d] => { results := [.lit (.bool false)], args := [d] }
  | _ => none }
def FnExactSpareWrongFalsely : Prop := fnExactSpareRow.holds Tryz.pinned (OpenSpec.ofChange fnExactSpareWrong)

/-- 'laws.FnExactBuildStep': WHATEVER THE INPUT: true; the input reads as it did. -/
def fnExactBuildStepSpec : ChangeSpec := { name := "fnExactBuildStep", fn := fun _ => fun
  | [d] => { results := [.lit (.bool true)], args := [d] }
  | _ => none }
def fnExactBuildStepRow : OpenClaim := { program := "ytechckninoilhaagreat", sum := "83f9c5e1e9dd49721023672d2a138e3326429f88c66d760120f6a7ac0d831261", func := "loop.example/g00398/laws.FnExactBuildStep", spec := "fnExactBuildStep", unfollowed := true, recurses := true, apart := false }
def FnExactBuildStepSaid : Prop := fnExactBuildStepRow.holds Tryz.pinned (OpenSpec.ofChange fnExactBuildStepSpec)

/-- ITS FALSE NEIGHBOUR: 'it returns false'. Refute it at one input. -/
def fnExactBuildStepWrong : ChangeSpec := { name := "fnExactBuildStep", fn := fun _ => fun
  | [d] => { results := [.lit (.bool false)], args := [d] }
  | _ => none }
def FnExactBuildStepWrongFalsely : Prop := fnExactBuildStepRow.holds Tryz.pinned (OpenSpec.ofChange fnExactBuildStepWrong)

/-- 'laws.FnExactAdopt': WHATEVER THE INPUT: true; the input reads as it did. -/
def fnExactAdoptSpec : ChangeSpec := { name := "fnExactAdopt", fn := fun _ => fun
  | [d] => { results := [.lit (.bool true)], args := [d] }
  | _ => none }
def fnExactAdoptRow : OpenClaim := { program := "ytechckninoilhaagreat", sum := "83f9c5e1e9dd49721023672d2a138e3326429f88c66d760120f6a7ac0d831261", func := "loop.example/g00398/laws.FnExactAdopt", spec := "fnExactAdopt", unfollowed := true, recurses := true, apart := false }
def FnExactAdoptSaid : Prop := fnExactAdoptRow.holds Tryz.pinned (OpenSpec.ofChange fnExactAdoptSpec)

/-- ITS FALSE NEIGHBOUR: 'it returns false'. Refute it at one input. -/
def fnExactAdoptWrong : ChangeSpec := { name := "fnExactAdopt", fn := fun _ => fun
  | [d] => { results := [.lit (.bool false)], args := [d] }
  | _ => none }
def FnExactAdoptWrongFalsely : Prop := fnExactAdoptRow.holds Tryz.pinned (OpenSpec.ofChange fnExactAdoptWrong)

/-- 'laws.FnExactBuildAll': WHATEVER THE INPUT: true; the input reads as it did. -/
def fnExactBuildAllSpec : ChangeSpec := { name := "fnExactBuildAll", fn := fun _ => fun
  | [d] => { results := [.lit (.bool true)], args := [d] }
  | _ => none }
def fnExactBuildAllRow : OpenClaim := { program := "ytechckninoilhaagreat", sum := "83f9c5e1e9dd49721023672d2a138e3326429f88c66d760120f6a7ac0d831261", func := "loop.example/g00398/laws.FnExactBuildAll", spec := "fnExactBuildAll", unfollowed := true, recurses := true, apart := false }
def FnExactBuildAllSaid : Prop := fnExactBuildAllRow.holds Tryz.pinned (OpenSpec.ofChange fnExactBuildAllSpec)

/-- ITS FALSE NEIGHBOUR: 'it returns false'. Refute it at one input. -/
def fnExactBuildAllWrong : ChangeSpec := { name := "fnExactBuildAll", fn := fun _ => fun
  | [d] => { results := [.lit (.bool false)], args := [d] }
  | _ => none }
def FnExactBuildAllWrongFalsely : Prop := fnExactBuildAllRow.holds Tryz.pinned (OpenSpec.ofChange fnExactBuildAllWrong)

/- THE SECOND FORM. 'bulk': how many values and letters a reading holds, each counted each time it is reached (what is shared counts as often as it is met; a slice's spare places count too). A statement '..UptoSaid' is the law's where the arguments, and the package variables that the reading takes, are together of bulk at most 1048576: NARROWER than '..Said'. Prove '..Said' where nothing that the law and all that it calls make is longer than what came in: it says more and counts as full. Else prove '..UptoSaid'. A law counts once. -/
mutual
def uptoBulk {H : Type} : DataW H → Nat
  | .lit (.string bytes) => bytes.length + 1
  | .lit _ => 1
  | .nil => 1
  | .ptr d => uptoBulk d + 1
  | .slice elems spare => uptoBulkAll elems + uptoBulkAll spare + 1
  | .agg parts => uptoBulkAll parts + 1
  | .iface _ d => uptoBulk d + 1
  | .map entries => uptoBulkEntries entries + 1
  | .held _ => 1
def uptoBulkAll {H : Type} : List (DataW H) → Nat
  | [] => 0
  | d :: r => uptoBulk d + uptoBulkAll r
def uptoBulkEntries {H : Type} : List (Lit × DataW H) → Nat
  | [] => 0
  | x :: r => uptoBulkEntry x + uptoBulkEntries r
def uptoBulkEntry {H : Type} : Lit × DataW H → Nat
  | (.string bytes, d) => bytes.length + uptoBulk d + 1
  | (_, d) => uptoBulk d + 1
 end
def uptoSmall : (H : Type) → List (DataW H) → Bool := fun _ ds => decide (uptoBulkAll ds ≤ 1048576)
def OpenSpec.upto (s : _root_.Go.ChangeSpec) : _root_.Go.OpenSpec := { _root_.Go.OpenSpec.ofChange s with cond := some uptoSmall }

/-- 'laws.FnExactFailDisk', WHERE WHAT IT READS IS OF BULK AT MOST 1048576: true; the input reads as it did. -/
def fnExactFailDiskUptoRow : OpenClaim := { program := "ytechckninoilhaagreat", sum := "83f9c5e1e9dd49721023672d2a138e3326429f88c66d760120f6a7ac0d831261", func := "loop.example/g00398/laws.FnExactFailDisk", spec := "fnExactFailDisk", unfollowed := true, recurses := true, apart := false, narrowed := true }
def FnExactFailDiskUptoSaid : Prop := fnExactFailDiskUptoRow.holds Tryz.pinned (OpenSpec.upto fnExactFailDiskSpec)

/-- 'laws.FnExactSpare', WHERE WHAT IT READS IS OF BULK AT MOST 1048576: true; the input reads as it did. -/
def fnExactSpareUptoRow : OpenClaim := { program := "ytechckninoilhaagreat", sum := "83f9c5e1e9dd49721023672d2a138e3326429f88c66d760120f6a7ac0d831261", func := "loop.example/g00398/laws.FnExactSpare", spec := "fnExactSpare", unfollowed := true, recurses := true, apart := false, narrowed := true }
def FnExactSpareUptoSaid : Prop := fnExactSpareUptoRow.holds Tryz.pinned (OpenSpec.upto fnExactSpareSpec)

/-- 'laws.FnExactBuildStep', WHERE WHAT IT READS IS OF BULK AT MOST 1048576: true; the input reads as it did. -/
def fnExactBuildStepUptoRow : OpenClaim := { program := "ytechckninoilhaagreat", sum := "83f9c5e1e9dd49721023672d2a138e3326429f88c66d760120f6a7ac0d831261", func := "loop.example/g00398/laws.FnExactBuildStep", spec := "fnExactBuildStep", unfollowed := true, recurses := true, apart := false, narrowed := true }
def FnExactBuildStepUptoSaid : Prop := fnExactBuildStepUptoRow.holds Tryz.pinned (OpenSpec.upto fnExactBuildStepSpec)

/-- 'laws.FnExactAdopt', WHERE WHAT IT READS IS OF BULK AT MOST 1048576: true; the input reads as it did. -/
def fnExactAdoptUptoRow : OpenClaim := { program := "ytechckninoilhaagreat", sum := "83f9c5e1e9dd49721023672d2a138e3326429f88c66d760120f6a7ac0d831261", func := "loop.example/g00398/laws.FnExactAdopt", spec := "fnExactAdopt", unfollowed := true, recurses := true, apart := false, narrowed := true }
def FnExactAdoptUptoSaid : Prop := fnExactAdoptUptoRow.holds Tryz.pinned (OpenSpec.upto fnExactAdoptSpec)

/-- 'laws.FnExactBuildAll', WHERE WHAT IT READS IS OF BULK AT MOST 1048576: true; the input reads as it did. -/
def fnExactBuildAllUptoRow : OpenClaim := { program := "ytechckninoilhaagreat", sum := "83f9c5e1e9dd49721023672d2a138e3326429f88c66d760120f6a7ac0d831261", func := "loop.example/g00398/laws.FnExactBuildAll", spec := "fnExactBuildAll", unfollowed := true, recurses := true, apart := false, narrowed := true }
def FnExactBuildAllUptoSaid : Prop := fnExactBuildAllUptoRow.holds Tryz.pinned (OpenSpec.upto fnExactBuildAllSpec)

end Rows
end Go.Proofs.YtechckninoilhaaGreat
