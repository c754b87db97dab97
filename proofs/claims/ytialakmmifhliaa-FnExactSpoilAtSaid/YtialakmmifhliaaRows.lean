/-
  No cell of these rows narrows 'for every input' (looked for: loops, veiled, ifaces, maps, wideKeys, modest, calm, conditions, laid).
  DERIVED. THE GIVEN ROWS OF THIS SEAT. 5 by the template 'for every input the law returns true; each argument reads behind the call as it read before'; 0 by the template 'total and deterministic' (their statements: YtialakmmifhliaaTotals.lean).
  GIVEN WITH THE SEED: the statements are not yours to turn. If you find one false, say at which input.
  Laid BY PROGRAM, IN A SANDBOX (cutbox-rows.mjs): the forced cells as the released guide's own fill.sh prints them over the translation 244e0a7f750e0c96… (all of the seat's roots in one cut). By AI agents, Wed Nov 11 2026. No macro, syntax, notation, axiom, sorry.
-/
import Derived.Test.YtialakmmifhliaaChecked
import GoSem.Claim
import GoSem.ClaimJoined
import GoSem.ClaimMapViews
import Derived.JoinedTies
import Derived.KernelRfl
namespace Go.Proofs.Ytialakmmifhliaa
/- THE CELL 'sum', in the pinned program and in every row, IS THE sha256 OF THE DUMP (.gsa) THAT YtialakmmifhliaaProg.lean LOADS. Nothing in Lean hashes anything: it is a label: what it is worth is what the hold of that sum in a sandbox is worth. -/
noncomputable def Try.pinned : Pinned := { name := "ytialakmmifhliaa", sum := "244e0a7f750e0c962fa6c3b2218088791e005f2ffa773d2b542eb3d97d47a3d4", checked := Try.checked }
namespace Rows
def none {H : Type} : Left H := { results := [], args := [] }

/-- 'laws.FnExactXorAt': WHATEVER THE INPUT: true; the input reads as it did. -/
def fnExactXorAtSpec : ChangeSpec := { name := "fnExactXorAt", fn := fun _ => fun
  | [d1, d2] => { results := [.lit (.bool true)], args := [d1, d2] }
  | _ => none }
def fnExactXorAtRow : OpenClaim := { program := "ytialakmmifhliaa", sum := "244e0a7f750e0c962fa6c3b2218088791e005f2ffa773d2b542eb3d97d47a3d4", func := "loop.example/g00398/laws.FnExactXorAt", spec := "fnExactXorAt", unfollowed := true, recurses := true, apart := false }
def FnExactXorAtSaid : Prop := fnExactXorAtRow.holds Try.pinned (OpenSpec.ofChange fnExactXorAtSpec)

/-- ITS FALSE NEIGHBOUR: 'it returns false'. Refute it at one input. -/
def fnExactXorAtWrong : ChangeSpec := { name := "fnExactXorAt", fn := fun _ => fun
  | [d1, d2] => { results := [.lit (.bool false)], args := [d1, d2] }
  | _ => none }
def FnExactXorAtWrongFalsely : Prop := fnExactXorAtRow.holds Try.pinned (OpenSpec.ofChange fnExactXorAtWrong)

/-- 'laws.FnExactEven': WHATEVER THE INPUT: true; the input reads as it did. -/
def fnExactEvenSpec : ChangeSpec := { name := "fnExactEven", fn := fun _ => fun
  | [d] => { results := [.lit (.bool true)], args := [d] }
  | _ => none }
def fnExactEvenRow : OpenClaim := { program := "ytialakmmifhliaa", sum := "244e0a7f750e0c962fa6c3b2218088791e005f2ffa773d2b542eb3d97d47a3d4", func := "loop.example/g00398/laws.FnExactEven", spec := "fnExactEven", unfollowed := true, recurses := true, apart := false }
def FnExactEvenSaid : Prop := fnExactEvenRow.holds Try.pinned (OpenSpec.ofChange fnExactEvenSpec)

/-- ITS FALSE NEIGHBOUR: 'it returns false'. Refute it at one input. -/
def fnExactEvenWrong : ChangeSpec := { name := "fnExactEven", fn := fun _ => fun
  | [d] => { results := [.lit (.bool false)], args := [d] }
  | _ => none }
def FnExactEvenWrongFalsely : Prop := fnExactEvenRow.holds Try.pinned (OpenSpec.ofChange fnExactEvenWrong)

/-- 'laws.FnExactBare': WHATEVER THE INPUT: true; the input reads as it did. -/
def fnExactBareSpec : ChangeSpec := { name := "fnExactBare", fn := fun _ => fun
  | [d] => { results := [.lit (.bool true)], args := [d] }
  | _ => none }
def fnExactBareRow : OpenClaim := { program := "ytialakmmifhliaa", sum := "244e0a7f750e0c962fa6c3b2218088791e005f2ffa773d2b542eb3d97d47a3d4", func := "loop.example/g00398/laws.FnExactBare", spec := "fnExactBare", unfollowed := true, recurses := true, apart := false }
def FnExactBareSaid : Prop := fnExactBareRow.holds Try.pinned (OpenSpec.ofChange fnExactBareSpec)

/-- ITS FALSE NEIGHBOUR: 'it returns false'. Refute it at one input. -/
def fnExactBareWrong : ChangeSpec := { name := "fnExactBare", fn := fun _ => fun
  | [d] => { results := [.lit (.bool false)], args := [d] }
  | _ => none }
def FnExactBareWrongFalsely : Prop := fnExactBareRow.holds Try.pinned (OpenSpec.ofChange fnExactBareWrong)

/-- 'laws.FnExactDurable': WHATEVER THE INPUT: true; the input reads as it did. -/
def fnExactDurableSpec : ChangeSpec := { name := "fnExactDurable", fn := fun _ => fun
  | [d] => { results := [.lit (.bool true)], args := [d] }
  | _ => none }
def fnExactDurableRow : OpenClaim := { program := "ytialakmmifhliaa", sum := "244e0a7f750e0c962fa6c3b2218088791e005f2ffa773d2b542eb3d97d47a3d4", func := "loop.example/g00398/laws.FnExactDurable", spec := "fnExactDurable", unfollowed := true, recurses := true, apart := false }
def FnExactDurableSaid : Prop := fnExactDurableRow.holds Try.pinned (OpenSpec.ofChange fnExactDurableSpec)

/-- ITS FALSE NEIGHBOUR: 'it returns false'. Refute it at one input. -/
def fnExactDurableWrong : ChangeSpec := { name := "fnExactDurable", fn := fun _ => fun
  | [d] => { results := [.lit (.bool false)], args := [d] }
  | _ => none }
def FnExactDurableWrongFalsely : Prop := fnExactDurableRow.holds Try.pinned (OpenSpec.ofChange fnExactDurableWrong)

/-- 'laws.FnExactSpoilAt': WHATEVER THE INPUT: true; the input reads as it did. -/
def fnExactSpoilAtSpec : ChangeSpec := { name := "fnExactSpoilAt", fn := fun _ => fun
  | [d1, d2, d3] => { results := [.lit (.bool true)], args := [d1, d2, d3] }
  | _ => none }
def fnExactSpoilAtRow : OpenClaim := { program := "ytialakmmifhliaa", sum := "244e0a7f750e0c962fa6c3b2218088791e005f2ffa773d2b542eb3d97d47a3d4", func := "loop.example/g00398/laws.FnExactSpoilAt", spec := "fnExactSpoilAt", inPlace := ["slices.overlaps[int]"], apart := false }
def FnExactSpoilAtSaid : Prop := fnExactSpoilAtRow.holds Try.pinned (OpenSpec.ofChange fnExactSpoilAtSpec)

/-- ITS FALSE NEIGHBOUR: 'it returns false'. Refute it at one input. -/
def fnExactSpoilAtWrong : ChangeSpec := { name := "fnExactSpoilAt", fn := fun _ => fun
  | [d1, d2, d3] => { results := [.lit (.bool false)], args := [d1, d2, d3] }
  | _ => none }
def FnExactSpoilAtWrongFalsely : Prop := fnExactSpoilAtRow.holds Try.pinned (OpenSpec.ofChange fnExactSpoilAtWrong)

/- THE SECOND FORM. 'bulk': how many values and letters a reading holds, each counted each time it is reached (what is shared counts as often as it is met; a slice's spare places count too). A statement '..UptoSaid' is the law's where the arguments, and the package variables that the reading takes, are together of bulk at most 1048576: NARROWER than '..Said'. Prove '..Said' where nothing that the law and all that it calls make is longer than what came in: it says more and counts as full. Else prove '..UptoSaid'. A law counts once. -/
mutual
def uptoBulk {H : Type} : DataW H → Nat
  | .lit (.string bytes) => bytes.length + 1
  | .lit _ => 1
  | .nil => 1
  | .ptr d => uptoBulk d + 1
  | .slice elems spare => uptoBulkAll elems + uptoBulkAll spare + 1
  | .agg parts => uptoBulkAll parts + 1
  | .iface _ d => uptoBulk d + 1
  | .map entries => uptoBulkEntries entries + 1
  | .held _ => 1
def uptoBulkAll {H : Type} : List (DataW H) → Nat
  | [] => 0
  | d :: r => uptoBulk d + uptoBulkAll r
def uptoBulkEntries {H : Type} : List (Lit × DataW H) → Nat
  | [] => 0
  | x :: r => uptoBulkEntry x + uptoBulkEntries r
def uptoBulkEntry {H : Type} : Lit × DataW H → Nat
  | (.string bytes, d) => bytes.length + uptoBulk d + 1
  | (_, d) => uptoBulk d + 1
 end
def uptoSmall : (H : Type) → List (DataW H) → Bool := fun _ ds => decide (uptoBulkAll ds ≤ 1048576)
def OpenSpec.upto (s : _root_.Go.ChangeSpec) : _root_.Go.OpenSpec := { _root_.Go.OpenSpec.ofChange s with cond := some uptoSmall }

/-- 'laws.FnExactXorAt', WHERE WHAT IT READS IS OF BULK AT MOST 1048576: true; the input reads as it did. -/
def fnExactXorAtUptoRow : OpenClaim := { program := "ytialakmmifhliaa", sum := "244e0a7f750e0c962fa6c3b2218088791e005f2ffa773d2b542eb3d97d47a3d4", func := "loop.example/g00398/laws.FnExactXorAt", spec := "fnExactXorAt", unfollowed := true, recurses := true, apart := false, narrowed := true }
def FnExactXorAtUptoSaid : Prop := fnExactXorAtUptoRow.holds Try.pinned (OpenSpec.upto fnExactXorAtSpec)

/-- 'laws.FnExactEven', WHERE WHAT IT READS IS OF BULK AT MOST 1048576: true; the input reads as it did. -/
def fnExactEvenUptoRow : OpenClaim := { program := "ytialakmmifhliaa", sum := "244e0a7f750e0c962fa6c3b2218088791e005f2ffa773d2b542eb3d97d47a3d4", func := "loop.example/g00398/laws.FnExactEven", spec := "fnExactEven", unfollowed := true, recurses := true, apart := false, narrowed := true }
def FnExactEvenUptoSaid : Prop := fnExactEvenUptoRow.holds Try.pinned (OpenSpec.upto fnExactEvenSpec)

/-- 'laws.FnExactBare', WHERE WHAT IT READS IS OF BULK AT MOST 1048576: true; the input reads as it did. -/
def fnExactBareUptoRow : OpenClaim := { program := "ytialakmmifhliaa", sum := "244e0a7f750e0c962fa6c3b2218088791e005f2ffa773d2b542eb3d97d47a3d4", func := "loop.example/g00398/laws.FnExactBare", spec := "fnExactBare", unfollowed := true, recurses := true, apart := false, narrowed := true }
def FnExactBareUptoSaid : Prop := fnExactBareUptoRow.holds Try.pinned (OpenSpec.upto fnExactBareSpec)

/-- 'laws.FnExactDurable', WHERE WHAT IT READS IS OF BULK AT MOST 1048576: true; the input reads as it did. -/
def fnExactDurableUptoRow : OpenClaim := { program := "ytialakmmifhliaa", sum := "244e0a7f750e0c962fa6c3b2218088791e005f2ffa773d2b542eb3d97d47a3d4", func := "loop.example/g00398/laws.FnExactDurable", spec := "fnExactDurable", unfollowed := true, recurses := true, apart := false, narrowed := true }
def FnExactDurableUptoSaid : Prop := fnExactDurableUptoRow.holds Try.pinned (OpenSpec.upto fnExactDurableSpec)

/-- 'laws.FnExactSpoilAt', WHERE WHAT IT READS IS OF BULK AT MOST 1048576: true; the input reads as it did. -/
def fnExactSpoilAtUptoRow : OpenClaim := { program := "ytialakmmifhliaa", sum := "244e0a7f750e0c962fa6c3b2218088791e005f2ffa773d2b542eb3d97d47a3d4", func := "loop.example/g00398/laws.FnExactSpoilAt", spec := "fnExactSpoilAt", inPlace := ["slices.overlaps[int]"], apart := false, narrowed := true }
def FnExactSpoilAtUptoSaid : Prop := fnExactSpoilAtUptoRow.holds Try.pinned (OpenSpec.upto fnExactSpoilAtSpec)

end Rows
end Go.Proofs.Ytialakmmifhliaa
