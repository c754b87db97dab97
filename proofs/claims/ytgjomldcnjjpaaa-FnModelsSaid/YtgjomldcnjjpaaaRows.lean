/-
  No cell of these rows narrows 'for every input' (looked for: loops, veiled, ifaces, maps, wideKeys, modest, calm, conditions, laid).
  DERIVED. THE GIVEN ROWS OF THIS SEAT. 4 by the template 'for every input the law returns true; each argument reads behind the call as it read before'; 0 by the template 'total and deterministic' (their statements: YtgjomldcnjjpaaaTotals.lean).
  GIVEN WITH THE SEED: the statements are not yours to turn. If you find one false, say at which input.
  Laid BY PROGRAM, IN A SANDBOX (cutbox-rows.mjs): the forced cells as the released guide's own fill.sh prints them over the translation 8c910f828d133868… (all of the seat's roots in one cut). By AI agents, Wed Nov 11 2026. No macro, syntax, notation, axiom, sorry.
-/
import Derived.Test.YtgjomldcnjjpaaaChecked
import GoSem.Claim
import GoSem.ClaimJoined
import GoSem.ClaimMapViews
import Derived.JoinedTies
import Derived.KernelRfl
namespace Go.Proofs.Ytgjomldcnjjpaaa
/- THE CELL 'sum', in the pinned program and in every row, IS THE sha256 OF THE DUMP (.gsa) THAT YtgjomldcnjjpaaaProg.lean LOADS. Nothing in Lean hashes anything: it is a label: what it is worth is what the hold of that sum in a sandbox is worth. -/
noncomputable def Try.pinned : Pinned := { name := "ytgjomldcnjjpaaa", sum := "8c910f828d133868d2070360cf23ff74c2c4fd59f1500e10268358c7cfef2ddf", checked := Try.checked }
namespace Rows
def none {H : Type} : Left H := { results := [], args := [] }

/-- 'laws.FnModels': WHATEVER THE INPUT: true; the input reads as it did. -/
def fnModelsSpec : ChangeSpec := { name := "fnModels", fn := fun _ => fun
  | [d] => { results := [.lit (.bool true)], args := [d] }
  | _ => none }
def fnModelsRow : OpenClaim := { program := "ytgjomldcnjjpaaa", sum := "8c910f828d133868d2070360cf23ff74c2c4fd59f1500e10268358c7cfef2ddf", func := "loop.example/g00398/laws.FnModels", spec := "fnModels", unfollowed := true, recurses := true, apart := false }
def FnModelsSaid : Prop := fnModelsRow.holds Try.pinned (OpenSpec.ofChange fnModelsSpec)

/-- ITS FALSE NEIGHBOUR: 'it returns false'. Refute it at one input. -/
def fnModelsWrong : ChangeSpec := { name := "fnModels", fn := fun _ => fun
  | [d] => { results := [.lit (.bool false)], args := [d] }
  | _ => none }
def FnModelsWrongFalsely : Prop := fnModelsRow.holds Try.pinned (OpenSpec.ofChange fnModelsWrong)

/-- 'laws.FnExactZeros': WHATEVER THE INPUT: true; the input reads as it did. -/
def fnExactZerosSpec : ChangeSpec := { name := "fnExactZeros", fn := fun _ => fun
  | [d] => { results := [.lit (.bool true)], args := [d] }
  | _ => none }
def fnExactZerosRow : OpenClaim := { program := "ytgjomldcnjjpaaa", sum := "8c910f828d133868d2070360cf23ff74c2c4fd59f1500e10268358c7cfef2ddf", func := "loop.example/g00398/laws.FnExactZeros", spec := "fnExactZeros", apart := false }
def FnExactZerosSaid : Prop := fnExactZerosRow.holds Try.pinned (OpenSpec.ofChange fnExactZerosSpec)

/-- ITS FALSE NEIGHBOUR: 'it returns false'. Refute it at one input. -/
def fnExactZerosWrong : ChangeSpec := { name := "fnExactZeros", fn := fun _ => fun
  | [d] => { results := [.lit (.bool false)], args := [d] }
  | _ => none }
def FnExactZerosWrongFalsely : Prop := fnExactZerosRow.holds Try.pinned (OpenSpec.ofChange fnExactZerosWrong)

/-- 'laws.FnExactDoCmd': WHATEVER THE INPUT: true; the input reads as it did. -/
def fnExactDoCmdSpec : ChangeSpec := { name := "fnExactDoCmd", fn := fun _ => fun
  | [d1, d2, d3] => { results := [.lit (.bool true)], args := [d1, d2, d3] }
  | _ => none }
def fnExactDoCmdRow : OpenClaim := { program := "ytgjomldcnjjpaaa", sum := "8c910f828d133868d2070360cf23ff74c2c4fd59f1500e10268358c7cfef2ddf", func := "loop.example/g00398/laws.FnExactDoCmd", spec := "fnExactDoCmd", unfollowed := true, recurses := true, apart := false }
def FnExactDoCmdSaid : Prop := fnExactDoCmdRow.holds Try.pinned (OpenSpec.ofChange fnExactDoCmdSpec)

/-- ITS FALSE NEIGHBOUR: 'it returns false'. Refute it at one input. -/
def fnExactDoCmdWrong : ChangeSpec := { name := "fnExactDoCmd", fn := fun _ => fun
  | [d1, d2, d3] => { results := [.lit (.bool false)], args := [d1, d2, d3] }
  | _ => none }
def FnExactDoCmdWrongFalsely : Prop := fnExactDoCmdRow.holds Try.pinned (OpenSpec.ofChange fnExactDoCmdWrong)

/-- 'laws.FnExactDoCmds': WHATEVER THE INPUT: true; the input reads as it did. -/
def fnExactDoCmdsSpec : ChangeSpec := { name := "fnExactDoCmds", fn := fun _ => fun
  | [d1, d2, d3] => { results := [.lit (.bool true)], args := [d1, d2, d3] }
  | _ => none }
def fnExactDoCmdsRow : OpenClaim := { program := "ytgjomldcnjjpaaa", sum := "8c910f828d133868d2070360cf23ff74c2c4fd59f1500e10268358c7cfef2ddf", func := "loop.example/g00398/laws.FnExactDoCmds", spec := "fnExactDoCmds", unfollowed := true, recurses := true, apart := false }
def FnExactDoCmdsSaid : Prop := fnExactDoCmdsRow.holds Try.pinned (OpenSpec.ofChange fnExactDoCmdsSpec)

/-- ITS FALSE NEIGHBOUR: 'it returns false'. Refute it at one input. -/
def fnExactDoCmdsWrong : ChangeSpec := { name := "fnExactDoCmds", fn := fun _ => fun
  | [d1, d2, d3] => { results := [.lit (.bool false)], args := [d1, d2, d3] }
  | _ => none }
def FnExactDoCmdsWrongFalsely : Prop := fnExactDoCmdsRow.holds Try.pinned (OpenSpec.ofChange fnExactDoCmdsWrong)

/- THE SECOND FORM. 'bulk': how many values and letters a reading holds, each counted each time it is reached (what is shared counts as often as it is met; a slice's spare places count too). A statement '..UptoSaid' is the law's where the arguments, and the package variables that the reading takes, are together of bulk at most 1048576: NARROWER than '..Said'. Prove '..Said' where nothing that the law and all that it calls make is longer than what came in: it says more and counts as full. Else prove '..UptoSaid'. A law counts once. -/
mutual
def uptoBulk {H : Type} : DataW H → Nat
  | .lit (.string bytes) => bytes.length + 1
  | .lit _ => 1
  | .nil => 1
  | .ptr d => uptoBulk d + 1
  | .slice elems spare => uptoBulkAll elems + uptoBulkAll spare + 1
  | .agg parts => uptoBulkAll parts + 1
  | .iface _ d => uptoBulk d + 1
  | .map entries => uptoBulkEntries entries + 1
  | .held _ => 1
def uptoBulkAll {H : Type} : List (DataW H) → Nat
  | [] => 0
  | d :: r => uptoBulk d + uptoBulkAll r
def uptoBulkEntries {H : Type} : List (Lit × DataW H) → Nat
  | [] => 0
  | x :: r => uptoBulkEntry x + uptoBulkEntries r
def uptoBulkEntry {H : Type} : Lit × DataW H → Nat
  | (.string bytes, d) => bytes.length + uptoBulk d + 1
  | (_, d) => uptoBulk d + 1
 end
def uptoSmall : (H : Type) → List (DataW H) → Bool := fun _ ds => decide (uptoBulkAll ds ≤ 1048576)
def OpenSpec.upto (s : _root_.Go.ChangeSpec) : _root_.Go.OpenSpec := { _root_.Go.OpenSpec.ofChange s with cond := some uptoSmall }

/-- 'laws.FnModels', WHERE WHAT IT READS IS OF BULK AT MOST 1048576: true; the input reads as it did. -/
def fnModelsUptoRow : OpenClaim := { program := "ytgjomldcnjjpaaa", sum := "8c910f828d133868d2070360cf23ff74c2c4fd59f1500e10268358c7cfef2ddf", func := "loop.example/g00398/laws.FnModels", spec := "fnModels", unfollowed := true, recurses := true, apart := false, narrowed := true }
def FnModelsUptoSaid : Prop := fnModelsUptoRow.holds Try.pinned (OpenSpec.upto fnModelsSpec)

/-- 'laws.FnExactZeros', WHERE WHAT IT READS IS OF BULK AT MOST 1048576: true; the input reads as it did. -/
def fnExactZerosUptoRow : OpenClaim := { program := "ytgjomldcnjjpaaa", sum := "8c910f828d133868d2070360cf23ff74c2c4fd59f1500e10268358c7cfef2ddf", func := "loop.example/g00398/laws.FnExactZeros", spec := "fnExactZeros", apart := false, narrowed := true }
def FnExactZerosUptoSaid : Prop := fnExactZerosUptoRow.holds Try.pinned (OpenSpec.upto fnExactZerosSpec)

/-- 'laws.FnExactDoCmd', WHERE WHAT IT READS IS OF BULK AT MOST 1048576: true; the input reads as it did. -/
def fnExactDoCmdUptoRow : OpenClaim := { program := "ytgjomldcnjjpaaa", sum := "8c910f828d133868d2070360cf23ff74c2c4fd59f1500e10268358c7cfef2ddf", func := "loop.example/g00398/laws.FnExactDoCmd", spec := "fnExactDoCmd", unfollowed := true, recurses := true, apart := false, narrowed := true }
def FnExactDoCmdUptoSaid : Prop := fnExactDoCmdUptoRow.holds Try.pinned (OpenSpec.upto fnExactDoCmdSpec)

/-- 'laws.FnExactDoCmds', WHERE WHAT IT READS IS OF BULK AT MOST 1048576: true; the input reads as it did. -/
def fnExactDoCmdsUptoRow : OpenClaim := { program := "ytgjomldcnjjpaaa", sum := "8c910f828d133868d2070360cf23ff74c2c4fd59f1500e10268358c7cfef2ddf", func := "loop.example/g00398/laws.FnExactDoCmds", spec := "fnExactDoCmds", unfollowed := true, recurses := true, apart := false, narrowed := true }
def FnExactDoCmdsUptoSaid : Prop := fnExactDoCmdsUptoRow.holds Try.pinned (OpenSpec.upto fnExactDoCmdsSpec)

end Rows
end Go.Proofs.Ytgjomldcnjjpaaa
