/-
  No cell of these rows narrows 'for every input' (looked for: loops, veiled, ifaces, maps, wideKeys, modest, calm, conditions, laid).
  DERIVED. THE GIVEN ROWS OF THIS SEAT. 3 by the template 'for every input the law returns true; each argument reads behind the call as it read before'; 0 by the template 'total and deterministic' (their statements: YtejokiafgbjdaaaGreatTotals.lean).
  GIVEN WITH THE SEED: the statements are not yours to turn. If you find one false, say at which input.
  Laid BY PROGRAM, IN A SANDBOX (cutbox-rows.mjs): the forced cells as the released guide's own fill.sh prints them over the translation cc75f0cfb37fd300… (all of the seat's roots in one cut). By AI agents, Wed Nov 11 2026. No macro, syntax, notation, axiom, sorry.
-/
import Derived.Test.YtejokiafgbjdaaaGreatChecked
import GoSem.Claim
import GoSem.ClaimJoined
import GoSem.ClaimMapViews
import Derived.JoinedTies
import Derived.KernelRfl
namespace Go.Proofs.YtejokiafgbjdaaaGreat
/- THE CELL 'sum', in the pinned program and in every row, IS THE sha256 OF THE DUMP (.gsa) THAT YtejokiafgbjdaaaGreatProg.lean LOADS. Nothing in Lean hashes anything: it is a label: what it is worth is what the hold of that sum in a sandbox is worth. -/
noncomputable def Tryz.pinned : Pinned := { name := "ytejokiafgbjdaaagreat", sum := "cc75f0cfb37fd30024b354fc725eb64b5c5c08dc88121f8826b4aa8b827223fd", checked := Tryz.checked }
namespace Rows
def none {H : Type} : Left H := { results := [], args := [] }

/-- 'laws.FnBlocksBent': WHATEVER THE INPUT: true; the input reads as it did. -/
def fnBlocksBentSpec : ChangeSpec := { name := "fnBlocksBent", fn := fun _ => fun
  | [d] => { results := [.lit (.bool true)], args := [d] }
  | _ => none }
def fnBlocksBentRow : OpenClaim := { program := "ytejokiafgbjdaaagreat", sum := "cc75f0cfb37fd30024b354fc725eb64b5c5c08dc88121f8826b4aa8b827223fd", func := "loop.example/g00398/laws.FnBlocksBent", spec := "fnBlocksBent", unfollowed := true, recurses := true, apart := false }
def FnBlocksBentSaid : Prop := fnBlocksBentRow.holds Tryz.pinned (OpenSpec.ofChange fnBlocksBentSpec)

/-- ITS FALSE NEIGHBOUR: 'it returns false'. Refute it at one input. -/
def fnBlocksBentWrong : ChangeSpec := { name := "fnBlocksBent", fn := fun _ => fun
  | [d] => { results := [.lit (.bool false)], args := [d] }
  | _ => none }
def FnBlocksBentWrongFalsely : Prop := fnBlocksBentRow.holds Tryz.pinned (OpenSpec.ofChange fnBlocksBentWrong)

/-- 'laws.FnFailsBent': WHATEVER THE INPUT: true; the input reads as it did. -/
def fnFailsBentSpec : ChangeSpec := { name := "fnFailsBent", fn := fun _ => fun
  | [d] => { results := [.lit (.bool true)], args := [d] }
  | _ => none }
def fnFailsBentRow : OpenClaim := { program := "ytejokiafgbjdaaagreat", sum := "cc75f0cfb37fd30024b354fc725eb64b5c5c08dc88121f8826b4aa8b827223fd", func := "loop.example/g00398/laws.FnFailsBent", spec := "fnFailsBent", inPlace := ["slices.overlaps[int]"], unfollowed := true, recurses := true, apart := false }
def FnFailsBentSaid : Prop := fnFailsBentRow.holds Tryz.pinned (OpenSpec.ofChange fnFailsBentSpec)

/-- ITS FALSE NEIGHBOUR: 'it returns false'. Refute it at one input. -/
def fnFailsBentWrong : ChangeSpec := { name := "fnFailsBent", fn := fun _ => fun
  | [d] => { results := [.lit (.bool false)], args := [d] }
  | _ => none }
def FnFailsBentWrongFalsely : Prop := fnFailsBentRow.holds Tryz.pinned (OpenSpec.ofChange fnFailsBentWrong)

/-- 'laws.FnBuiltBent': WHATEVER THE INPUT: true; the input reads as it did. -/
def fnBuiltBentSpec : ChangeSpec := { name := "fnBuiltBent", fn := fun _ => fun
  | [d] => { results := [.lit (.bool true)], args := [d] }
  | _ => none }
def fnBuiltBentRow : OpenClaim := { program := "ytejokiafgbjdaaagreat", sum := "cc75f0cfb37fd30024b354fc725eb64b5c5c08dc88121f8826b4aa8b827223fd", func := "loop.example/g00398/laws.FnBuiltBent", spec := "fnBuiltBent", unfollowed := true, recurses := true, apart := false }
def FnBuiltBentSaid : Prop := fnBuiltBentRow.holds Tryz.pinned (OpenSpec.ofChange fnBuiltBentSpec)

/-- ITS FALSE NEIGHBOUR: 'it returns false'. Refute it at one input. -/
def fnBuiltBentWrong : ChangeSpec := { name := "fnBuiltBent", fn := fun _ => fun
  | [d] => { results := [.lit (.bool false)], args := [d] }
  | _ => none }
def FnBuiltBentWrongFalsely : Prop := fnBuiltBentRow.holds Tryz.pinned (OpenSpec.ofChange fnBuiltBentWrong)

/- THE SECOND FORM. 'bulk': how many values and letters a reading holds, each counted each time it is reached (what is shared counts as often as it is met; a slice's spare places count too). A statement '..UptoSaid' is the law's where the arguments, and the package variables that the reading takes, are together of bulk at most 1048576: NARROWER than '..Said'. Prove '..Said' where nothing that the law and all that it calls make is longer than what came in: it says more and counts as full. Else prove '..UptoSaid'. A law counts once. -/
mutual
def uptoBulk {H : Type} : DataW H → Nat
  | .lit (.string bytes) => bytes.length + 1
  | .lit _ => 1
  | .nil => 1
  | .ptr d => uptoBulk d + 1
  | .slice elems spare => uptoBulkAll elems + uptoBulkAll spare + 1
  | .agg parts => uptoBulkAll parts + 1
  | .iface _ d => uptoBulk d + 1
  | .map entries => uptoBulkEntries entries + 1
  | .held _ => 1
def uptoBulkAll {H : Type} : List (DataW H) → Nat
  | [] => 0
  | d :: r => uptoBulk d + uptoBulkAll r
def uptoBulkEntries {H : Type} : List (Lit × DataW H) → Nat
  | [] => 0
  | x :: r => uptoBulkEntry x + uptoBulkEntries r
def uptoBulkEntry {H : Type} : Lit × DataW H → Nat
  | (.string bytes, d) => bytes.length + uptoBulk d + 1
  | (_, d) => uptoBulk d + 1
 end
def uptoSmall : (H : Type) → List (DataW H) → Bool := fun _ ds => decide (uptoBulkAll ds ≤ 1048576)
def OpenSpec.upto (s : _root_.Go.ChangeSpec) : _root_.Go.OpenSpec := { _root_.Go.OpenSpec.ofChange s with cond := some uptoSmall }

/-- 'laws.FnBlocksBent', WHERE WHAT IT READS IS OF BULK AT MOST 1048576: true; the input reads as it did. -/
def fnBlocksBentUptoRow : OpenClaim := { program := "ytejokiafgbjdaaagreat", sum := "cc75f0cfb37fd30024b354fc725eb64b5c5c08dc88121f8826b4aa8b827223fd", func := "loop.example/g00398/laws.FnBlocksBent", spec := "fnBlocksBent", unfollowed := true, recurses := true, apart := false, narrowed := true }
def FnBlocksBentUptoSaid : Prop := fnBlocksBentUptoRow.holds Tryz.pinned (OpenSpec.upto fnBlocksBentSpec)

/-- 'laws.FnFailsBent', WHERE WHAT IT READS IS OF BULK AT MOST 1048576: true; the input reads as it did. -/
def fnFailsBentUptoRow : OpenClaim := { program := "ytejokiafgbjdaaagreat", sum := "cc75f0cfb37fd30024b354fc725eb64b5c5c08dc88121f8826b4aa8b827223fd", func := "loop.example/g00398/laws.FnFailsBent", spec := "fnFailsBent", inPlace := ["slices.overlaps[int]"], unfollowed := true, recurses := true, apart := false, narrowed := true }
def FnFailsBentUptoSaid : Prop := fnFailsBentUptoRow.holds Tryz.pinned (OpenSpec.upto fnFailsBentSpec)

/-- 'laws.FnBuiltBent', WHERE WHAT IT READS IS OF BULK AT MOST 1048576: true; the input reads as it did. -/
def fnBuiltBentUptoRow : OpenClaim := { program := "ytejokiafgbjdaaagreat", sum := "cc75f0cfb37fd30024b354fc725eb64b5c5c08dc88121f8826b4aa8b827223fd", func := "loop.example/g00398/laws.FnBuiltBent", spec := "fnBuiltBent", unfollowed := true, recurses := true, apart := false, narrowed := true }
def FnBuiltBentUptoSaid : Prop := fnBuiltBentUptoRow.holds Tryz.pinned (OpenSpec.upto fnBuiltBentSpec)

end Rows
end Go.Proofs.YtejokiafgbjdaaaGreat
