/-
  No cell of these rows narrows 'for every input' (looked for: loops, veiled, ifaces, maps, wideKeys, modest, calm, conditions, laid).
  DERIVED. THE GIVEN ROWS OF THIS SEAT. 4 by the template 'for every input the law returns true; each argument reads behind the call as it read before'; 0 by the template 'total and deterministic' (their statements: YtmkiljflkndmoamTotals.lean).
  GIVEN WITH THE SEED: the statements are not yours to turn. If you find one false, say at which input.
  Laid BY PROGRAM, IN A SANDBOX (cutbox-rows.mjs): the forced cells as the released guide's own fill.sh prints them over the translation aaf739d9214cba54… (all of the seat's roots in one cut). By AI agents, Wed Nov 11 2026. No macro, syntax, notation, axiom, sorry.
-/
import Derived.Test.YtmkiljflkndmoamChecked
import GoSem.Claim
import GoSem.ClaimJoined
import GoSem.ClaimMapViews
import Derived.JoinedTies
import Derived.KernelRfl
namespace Go.Proofs.Ytmkiljflkndmoam
/- THE CELL 'sum', in the pinned program and in every row, IS THE sha256 OF THE DUMP (.gsa) THAT YtmkiljflkndmoamProg.lean LOADS. Nothing in Lean hashes anything: it is a label: what it is worth is what the hold of that sum in a sandbox is worth. -/
noncomputable def Try.pinned : Pinned := { name := "ytmkiljflkndmoam", sum := "aaf739d9214cba54631657e10340fd2bdf2a1a6c41d55acfcb27fe4e78ecaa9a", checked := Try.checked }
namespace Rows
def none {H : Type} : Left H := { results := [], args := [] }

/-- 'laws.FnExactParityWord': WHATEVER THE INPUT: true; the input reads as it did. -/
def fnExactParityWordSpec : ChangeSpec := { name := "fnExactParityWord", fn := fun _ => fun
  | [d] => { results := [.lit (.bool true)], args := [d] }
  | _ => none }
def fnExactParityWordRow : OpenClaim := { program := "ytmkiljflkndmoam", sum := "aaf739d9214cba54631657e10340fd2bdf2a1a6c41d55acfcb27fe4e78ecaa9a", func := "loop.example/g00398/laws.FnExactParityWord", spec := "fnExactParityWord", apart := false }
def FnExactParityWordSaid : Prop := fnExactParityWordRow.holds Try.pinned (OpenSpec.ofChange fnExactParityWordSpec)

/-- ITS FALSE NEIGHBOUR: 'it returns false'. Refute it at one input. -/
def fnExactParityWordWrong : ChangeSpec := { name := "fnExactParityWord", fn := fun _ => fun
  | [d] => { results := [.lit (.bool false)], args := [d] }
  | _ => none }
def FnExactParityWordWrongFalsely : Prop := fnExactParityWordRow.holds Try.pinned (OpenSpec.ofChange fnExactParityWordWrong)

/-- 'laws.FnExactMissingWord': WHATEVER THE INPUT: true; the input reads as it did. -/
def fnExactMissingWordSpec : ChangeSpec := { name := "fnExactMissingWord", fn := fun _ => fun
  | [d1, d2] => { results := [.lit (.bool true)], args := [d1, d2] }
  | _ => none }
def fnExactMissingWordRow : OpenClaim := { program := "ytmkiljflkndmoam", sum := "aaf739d9214cba54631657e10340fd2bdf2a1a6c41d55acfcb27fe4e78ecaa9a", func := "loop.example/g00398/laws.FnExactMissingWord", spec := "fnExactMissingWord", apart := false }
def FnExactMissingWordSaid : Prop := fnExactMissingWordRow.holds Try.pinned (OpenSpec.ofChange fnExactMissingWordSpec)

/-- ITS FALSE NEIGHBOUR: 'it returns false'. Refute it at one input. -/
def fnExactMissingWordWrong : ChangeSpec := { name := "fnExactMissingWord", fn := fun _ => fun
  | [d1, d2] => { results := [.lit (.bool false)], args := [d1, d2] }
  | _ => none }
def FnExactMissingWordWrongFalsely : Prop := fnExactMissingWordRow.holds Try.pinned (OpenSpec.ofChange fnExactMissingWordWrong)

/-- 'laws.FnExactGetSuper': WHATEVER THE INPUT: true; the input reads as it did. -/
def fnExactGetSuperSpec : ChangeSpec := { name := "fnExactGetSuper", fn := fun _ => fun
  | [d] => { results := [.lit (.bool true)], args := [d] }
  | _ => none }
def fnExactGetSuperRow : OpenClaim := { program := "ytmkiljflkndmoam", sum := "aaf739d9214cba54631657e10340fd2bdf2a1a6c41d55acfcb27fe4e78ecaa9a", func := "loop.example/g00398/laws.FnExactGetSuper", spec := "fnExactGetSuper", apart := false }
def FnExactGetSuperSaid : Prop := fnExactGetSuperRow.holds Try.pinned (OpenSpec.ofChange fnExactGetSuperSpec)

/-- ITS FALSE NEIGHBOUR: 'it returns false'. Refute it at one input. -/
def fnExactGetSuperWrong : ChangeSpec := { name := "fnExactGetSuper", fn := fun _ => fun
  | [d] => { results := [.lit (.bool false)], args := [d] }
  | _ => none }
def FnExactGetSuperWrongFalsely : Prop := fnExactGetSuperRow.holds Try.pinned (OpenSpec.ofChange fnExactGetSuperWrong)

/-- 'laws.FnExactBestSuper': WHATEVER THE INPUT: true; the input reads as it did. -/
def fnExactBestSuperSpec : ChangeSpec := { name := "fnExactBestSuper", fn := fun _ => fun
  | [d1, d2] => { results := [.lit (.bool true)], args := [d1, d2] }
  | _ => none }
def fnExactBestSuperRow : OpenClaim := { program := "ytmkiljflkndmoam", sum := "aaf739d9214cba54631657e10340fd2bdf2a1a6c41d55acfcb27fe4e78ecaa9a", func := "loop.example/g00398/laws.FnExactBestSuper", spec := "fnExactBestSuper", apart := false }
def FnExactBestSuperSaid : Prop := fnExactBestSuperRow.holds Try.pinned (OpenSpec.ofChange fnExactBestSuperSpec)

/-- ITS FALSE NEIGHBOUR: 'it returns false'. Refute it at one input. -/
def fnExactBestSuperWrong : ChangeSpec := { name := "fnExactBestSuper", fn := fun _ => fun
  | [d1, d2] => { results := [.lit (.bool false)], args := [d1, d2] }
  | _ => none }
def FnExactBestSuperWrongFalsely : Prop := fnExactBestSuperRow.holds Try.pinned (OpenSpec.ofChange fnExactBestSuperWrong)

/- THE SECOND FORM. 'bulk': how many values and letters a reading holds, each counted each time it is reached (what is shared counts as often as it is met; a slice's spare places count too). A statement '..UptoSaid' is the law's where the arguments, and the package variables that the reading takes, are together of bulk at most 1048576: NARROWER than '..Said'. Prove '..Said' where nothing that the law and all that it calls make is longer than what came in: it says more and counts as full. Else prove '..UptoSaid'. A law counts once. -/
mutual
def uptoBulk {H : Type} : DataW H → Nat
  | .lit (.string bytes) => bytes.length + 1
  | .lit _ => 1
  | .nil => 1
  | .ptr d => uptoBulk d + 1
  | .slice elems spare => uptoBulkAll elems + uptoBulkAll spare + 1
  | .agg parts => uptoBulkAll parts + 1
  | .iface _ d => uptoBulk d + 1
  | .map entries => uptoBulkEntries entries + 1
  | .held _ => 1
def uptoBulkAll {H : Type} : List (DataW H) → Nat
  | [] => 0
  | d :: r => uptoBulk d + uptoBulkAll r
def uptoBulkEntries {H : Type} : List (Lit × DataW H) → Nat
  | [] => 0
  | x :: r => uptoBulkEntry x + uptoBulkEntries r
def uptoBulkEntry {H : Type} : Lit × DataW H → Nat
  | (.string bytes, d) => bytes.length + uptoBulk d + 1
  | (_, d) => uptoBulk d + 1
 end
def uptoSmall : (H : Type) → List (DataW H) → Bool := fun _ ds => decide (uptoBulkAll ds ≤ 1048576)
def OpenSpec.upto (s : _root_.Go.ChangeSpec) : _root_.Go.OpenSpec := { _root_.Go.OpenSpec.ofChange s with cond := some uptoSmall }

/-- 'laws.FnExactParityWord', WHERE WHAT IT READS IS OF BULK AT MOST 1048576: true; the input reads as it did. -/
def fnExactParityWordUptoRow : OpenClaim := { program := "ytmkiljflkndmoam", sum := "aaf739d9214cba54631657e10340fd2bdf2a1a6c41d55acfcb27fe4e78ecaa9a", func := "loop.example/g00398/laws.FnExactParityWord", spec := "fnExactParityWord", apart := false, narrowed := true }
def FnExactParityWordUptoSaid : Prop := fnExactParityWordUptoRow.holds Try.pinned (OpenSpec.upto fnExactParityWordSpec)

/-- 'laws.FnExactMissingWord', WHERE WHAT IT READS IS OF BULK AT MOST 1048576: true; the input reads as it did. -/
def fnExactMissingWordUptoRow : OpenClaim := { program := "ytmkiljflkndmoam", sum := "aaf739d9214cba54631657e10340fd2bdf2a1a6c41d55acfcb27fe4e78ecaa9a", func := "loop.example/g00398/laws.FnExactMissingWord", spec := "fnExactMissingWord", apart := false, narrowed := true }
def FnExactMissingWordUptoSaid : Prop := fnExactMissingWordUptoRow.holds Try.pinned (OpenSpec.upto fnExactMissingWordSpec)

/-- 'laws.FnExactGetSuper', WHERE WHAT IT READS IS OF BULK AT MOST 1048576: true; the input reads as it did. -/
def fnExactGetSuperUptoRow : OpenClaim := { program := "ytmkiljflkndmoam", sum := "aaf739d9214cba54631657e10340fd2bdf2a1a6c41d55acfcb27fe4e78ecaa9a", func := "loop.example/g00398/laws.FnExactGetSuper", spec := "fnExactGetSuper", apart := false, narrowed := true }
def FnExactGetSuperUptoSaid : Prop := fnExactGetSuperUptoRow.holds Try.pinned (OpenSpec.upto fnExactGetSuperSpec)

/-- 'laws.FnExactBestSuper', WHERE WHAT IT READS IS OF BULK AT MOST 1048576: true; the input reads as it did. -/
def fnExactBestSuperUptoRow : OpenClaim := { program := "ytmkiljflkndmoam", sum := "aaf739d9214cba54631657e10340fd2bdf2a1a6c41d55acfcb27fe4e78ecaa9a", func := "loop.example/g00398/laws.FnExactBestSuper", spec := "fnExactBestSuper", apart := false, narrowed := true }
def FnExactBestSuperUptoSaid : Prop := fnExactBestSuperUptoRow.holds Try.pinned (OpenSpec.upto fnExactBestSuperSpec)

end Rows
end Go.Proofs.Ytmkiljflkndmoam
