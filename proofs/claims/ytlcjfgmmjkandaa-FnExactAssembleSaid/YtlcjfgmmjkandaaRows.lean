/-
  No cell of these rows narrows 'for every input' (looked for: loops, veiled, ifaces, maps, wideKeys, modest, calm, conditions, laid).
  DERIVED. THE GIVEN ROWS OF THIS SEAT. 4 by the template 'for every input the law returns true; each argument reads behind the call as it read before'; 0 by the template 'total and deterministic' (their statements: YtlcjfgmmjkandaaTotals.lean).
  GIVEN WITH THE SEED: the statements are not yours to turn. If you find one false, say at which input.
  Laid BY PROGRAM, IN A SANDBOX (cutbox-rows.mjs): the forced cells as the released guide's own fill.sh prints them over the translation f2475bf5125f7c4f… (all of the seat's roots in one cut). By AI agents, Wed Nov 11 2026. No macro, syntax, notation, axiom, sorry.
-/
import Derived.Test.YtlcjfgmmjkandaaChecked
import GoSem.Claim
import GoSem.ClaimJoined
import GoSem.ClaimMapViews
import Derived.JoinedTies
import Derived.KernelRfl
namespace Go.Proofs.Ytlcjfgmmjkandaa
/- THE CELL 'sum', in the pinned program and in every row, IS THE sha256 OF THE DUMP (.gsa) THAT YtlcjfgmmjkandaaProg.lean LOADS. Nothing in Lean hashes anything: it is a label: what it is worth is what the hold of that sum in a sandbox is worth. -/
noncomputable def Try.pinned : Pinned := { name := "ytlcjfgmmjkandaa", sum := "f2475bf5125f7c4fb57f9a49925223234b81e5dc468f9cecc326707e1459c3c6", checked := Try.checked }
namespace Rows
def none {H : Type} : Left H := { results := [], args := [] }

/-- 'laws.FnExactPowerOff': WHATEVER THE INPUT: true; the input reads as it did. -/
def fnExactPowerOffSpec : ChangeSpec := { name := "fnExactPowerOff", fn := fun _ => fun
  | [d] => { results := [.lit (.bool true)], args := [d] }
  | _ => none }
def fnExactPowerOffRow : OpenClaim := { program := "ytlcjfgmmjkandaa", sum := "f2475bf5125f7c4fb57f9a49925223234b81e5dc468f9cecc326707e1459c3c6", func := "loop.example/g00398/laws.FnExactPowerOff", spec := "fnExactPowerOff", apart := false }
def FnExactPowerOffSaid : Prop := fnExactPowerOffRow.holds Try.pinned (OpenSpec.ofChange fnExactPowerOffSpec)

/-- ITS FALSE NEIGHBOUR: 'it returns false'. Refute it at one input. -/
def fnExactPowerOffWrong : ChangeSpec := { name := "fnExactPowerOff", fn := fun _ => fun
  | [d] => { results := [.lit (.bool false)], args := [d] }
  | _ => none }
def FnExactPowerOffWrongFalsely : Prop := fnExactPowerOffRow.holds Try.pinned (OpenSpec.ofChange fnExactPowerOffWrong)

/-- 'laws.FnExactFall': WHATEVER THE INPUT: true; the input reads as it did. -/
def fnExactFallSpec : ChangeSpec := { name := "fnExactFall", fn := fun _ => fun
  | [d1, d2] => { results := [.lit (.bool true)], args := [d1, d2] }
  | _ => none }
def fnExactFallRow : OpenClaim := { program := "ytlcjfgmmjkandaa", sum := "f2475bf5125f7c4fb57f9a49925223234b81e5dc468f9cecc326707e1459c3c6", func := "loop.example/g00398/laws.FnExactFall", spec := "fnExactFall", apart := false }
def FnExactFallSaid : Prop := fnExactFallRow.holds Try.pinned (OpenSpec.ofChange fnExactFallSpec)

/-- ITS FALSE NEIGHBOUR: 'it returns false'. Refute it at one input. -/
def fnExactFallWrong : ChangeSpec := { name := "fnExactFall", fn := fun _ => fun
  | [d1, d2] => { results := [.lit (.bool false)], args := [d1, d2] }
  | _ => none }
def FnExactFallWrongFalsely : Prop := fnExactFallRow.holds Try.pinned (OpenSpec.ofChange fnExactFallWrong)

/-- 'laws.FnExactAssemble': WHATEVER THE INPUT: true; the input reads as it did. -/
def fnExactAssembleSpec : ChangeSpec := { name := "fnExactAssemble", fn := fun _ => fun
  | [d1, d2] => { results := [.lit (.bool true)], args := [d1, d2] }
  | _ => none }
def fnExactAssembleRow : OpenClaim := { program := "ytlcjfgmmjkandaa", sum := "f2475bf5125f7c4fb57f9a49925223234b81e5dc468f9cecc326707e1459c3c6", func := "loop.example/g00398/laws.FnExactAssemble", spec := "fnExactAssemble", apart := false }
def FnExactAssembleSaid : Prop := fnExactAssembleRow.holds Try.pinned (OpenSpec.ofChange fnExactAssembleSpec)

/-- ITS FALSE NEIGHBOUR: 'it returns false'. Refute it at one input. -/
def fnExactAssembleWrong : ChangeSpec := { name := "fnExactAssemble", fn := fun _ => fun
  | [d1, d2] => { results := [.lit (.bool false)], args := [d1, d2] }
  | _ => none }
def FnExactAssembleWrongFalsely : Prop := fnExactAssembleRow.holds Try.pinned (OpenSpec.ofChange fnExactAssembleWrong)

/-- 'laws.FnExactFindRec': WHATEVER THE INPUT: true; the input reads as it did. -/
def fnExactFindRecSpec : ChangeSpec := { name := "fnExactFindRec", fn := fun _ => fun
  | [d1, d2] => { results := [.lit (.bool true)], args := [d1, d2] }
  | _ => none }
def fnExactFindRecRow : OpenClaim := { program := "ytlcjfgmmjkandaa", sum := "f2475bf5125f7c4fb57f9a49925223234b81e5dc468f9cecc326707e1459c3c6", func := "loop.example/g00398/laws.FnExactFindRec", spec := "fnExactFindRec", apart := false }
def FnExactFindRecSaid : Prop := fnExactFindRecRow.holds Try.pinned (OpenSpec.ofChange fnExactFindRecSpec)

/-- ITS FALSE NEIGHBOUR: 'it returns false'. Refute it at one input. -/
def fnExactFindRecWrong : ChangeSpec := { name := "fnExactFindRec", fn := fun _ => fun
  | [d1, d2] => { results := [.lit (.bool false)], args := [d1, d2] }
  | _ => none }
def FnExactFindRecWrongFalsely : Prop := fnExactFindRecRow.holds Try.pinned (OpenSpec.ofChange fnExactFindRecWrong)

/- THE SECOND FORM. 'bulk': how many values and letters a reading holds, each counted each time it is reached (what is shared counts as often as it is met; a slice's spare places count too). A statement '..UptoSaid' is the law's where the arguments, and the package variables that the reading takes, are together of bulk at most 1048576: NARROWER than '..Said'. Prove '..Said' where nothing that the law and all that it calls make is longer than what came in: it says more and counts as full. Else prove '..UptoSaid'. A law counts once. -/
mutual
def uptoBulk {H : Type} : DataW H → Nat
  | .lit (.string bytes) => bytes.length + 1
  | .lit _ => 1
  | .nil => 1
  | .ptr d => uptoBulk d + 1
  | .slice elems spare => uptoBulkAll elems + uptoBulkAll spare + 1
  | .agg parts => uptoBulkAll parts + 1
  | .iface _ d => uptoBulk d + 1
  | .map entries => uptoBulkEntries entries + 1
  | .held _ => 1
def uptoBulkAll {H : Type} : List (DataW H) → Nat
  | [] => 0
  | d :: r => uptoBulk d + uptoBulkAll r
def uptoBulkEntries {H : Type} : List (Lit × DataW H) → Nat
  | [] => 0
  | x :: r => uptoBulkEntry x + uptoBulkEntries r
def uptoBulkEntry {H : Type} : Lit × DataW H → Nat
  | (.string bytes, d) => bytes.length + uptoBulk d + 1
  | (_, d) => uptoBulk d + 1
 end
def uptoSmall : (H : Type) → List (DataW H) → Bool := fun _ ds => decide (uptoBulkAll ds ≤ 1048576)
def OpenSpec.upto (s : _root_.Go.ChangeSpec) : _root_.Go.OpenSpec := { _root_.Go.OpenSpec.ofChange s with cond := some uptoSmall }

/-- 'laws.FnExactPowerOff', WHERE WHAT IT READS IS OF BULK AT MOST 1048576: true; the input reads as it did. -/
def fnExactPowerOffUptoRow : OpenClaim := { program := "ytlcjfgmmjkandaa", sum := "f2475bf5125f7c4fb57f9a49925223234b81e5dc468f9cecc326707e1459c3c6", func := "loop.example/g00398/laws.FnExactPowerOff", spec := "fnExactPowerOff", apart := false, narrowed := true }
def FnExactPowerOffUptoSaid : Prop := fnExactPowerOffUptoRow.holds Try.pinned (OpenSpec.upto fnExactPowerOffSpec)

/-- 'laws.FnExactFall', WHERE WHAT IT READS IS OF BULK AT MOST 1048576: true; the input reads as it did. -/
def fnExactFallUptoRow : OpenClaim := { program := "ytlcjfgmmjkandaa", sum := "f2475bf5125f7c4fb57f9a49925223234b81e5dc468f9cecc326707e1459c3c6", func := "loop.example/g00398/laws.FnExactFall", spec := "fnExactFall", apart := false, narrowed := true }
def FnExactFallUptoSaid : Prop := fnExactFallUptoRow.holds Try.pinned (OpenSpec.upto fnExactFallSpec)

/-- 'laws.FnExactAssemble', WHERE WHAT IT READS IS OF BULK AT MOST 1048576: true; the input reads as it did. -/
def fnExactAssembleUptoRow : OpenClaim := { program := "ytlcjfgmmjkandaa", sum := "f2475bf5125f7c4fb57f9a49925223234b81e5dc468f9cecc326707e1459c3c6", func := "loop.example/g00398/laws.FnExactAssemble", spec := "fnExactAssemble", apart := false, narrowed := true }
def FnExactAssembleUptoSaid : Prop := fnExactAssembleUptoRow.holds Try.pinned (OpenSpec.upto fnExactAssembleSpec)

/-- 'laws.FnExactFindRec', WHERE WHAT IT READS IS OF BULK AT MOST 1048576: true; the input reads as it did. -/
def fnExactFindRecUptoRow : OpenClaim := { program := "ytlcjfgmmjkandaa", sum := "f2475bf5125f7c4fb57f9a49925223234b81e5dc468f9cecc326707e1459c3c6", func := "loop.example/g00398/laws.FnExactFindRec", spec := "fnExactFindRec", apart := false, narrowed := true }
def FnExactFindRecUptoSaid : Prop := fnExactFindRecUptoRow.holds Try.pinned (OpenSpec.upto fnExactFindRecSpec)

end Rows
end Go.Proofs.Ytlcjfgmmjkandaa
