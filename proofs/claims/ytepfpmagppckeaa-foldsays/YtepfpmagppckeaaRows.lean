/-
  No cell of these rows narrows 'for every input' (looked for: loops, veiled, ifaces, maps, wideKeys, modest, calm, conditions, laid).
  DERIVED. THE GIVEN ROWS OF THIS SEAT. 7 by the template 'for every input the law returns true; each argument reads behind the call as it read before'; 0 by the template 'total and deterministic' (their statements: YtepfpmagppckeaaTotals.lean).
  GIVEN WITH THE SEED: the statements are not yours to turn. If you find one false, say at which input.
  Laid BY PROGRAM, IN A SANDBOX (cutbox-rows.mjs): the forced cells as the released guide's own fill.sh prints them over the translation 85d9ec17c2122725… (all of the seat's roots in one cut). By AI agents, Wed Nov 11 2026. No macro, syntax, notation, axiom, sorry.
-/
import Derived.Test.YtepfpmagppckeaaChecked
import GoSem.Claim
import GoSem.ClaimJoined
import GoSem.ClaimMapViews
import Derived.JoinedTies
import Derived.KernelRfl
namespace Go.Proofs.Ytepfpmagppckeaa
/- THE CELL 'sum', in the pinned program and in every row, IS THE sha256 OF THE DUMP (.gsa) THAT YtepfpmagppckeaaProg.lean LOADS. Nothing in Lean hashes anything: it is a label: what it is worth is what the hold of that sum in a sandbox is worth. -/
noncomputable def Try.pinned : Pinned := { name := "ytepfpmagppckeaa", sum := "85d9ec17c2122725023eb0472d6526a2212cd92b5291384cb872bc519f9a1447", checked := Try.checked }
namespace Rows
def none {H : Type} : Left H := { results := [], args := [] }

/-- 'penstocklaw.LexerSays': WHATEVER THE INPUT: true; the input reads as it did. -/
def lexerSaysSpec : ChangeSpec := { name := "lexerSays", fn := fun _ => fun
  | [d] => { results := [.lit (.bool true)], args := [d] }
  | _ => none }
def lexerSaysRow : OpenClaim := { program := "ytepfpmagppckeaa", sum := "85d9ec17c2122725023eb0472d6526a2212cd92b5291384cb872bc519f9a1447", func := "penstock/penstocklaw.LexerSays", spec := "lexerSays", inPlace := ["internal/bytealg.IndexByteString"], unfollowed := true, recurses := true, apart := false }
def LexerSaysSaid : Prop := lexerSaysRow.holds Try.pinned (OpenSpec.ofChange lexerSaysSpec)

/-- ITS FALSE NEIGHBOUR: 'it returns false'. Refute it at one input. -/
def lexerSaysWrong : ChangeSpec := { name := "lexerSays", fn := fun _ => fun
  | [d] => { results := [.lit (.bool false)], args := [d] }
  | _ => none }
def LexerSaysWrongFalsely : Prop := lexerSaysRow.holds Try.pinned (OpenSpec.ofChange lexerSaysWrong)

/-- 'penstocklaw.ExprSays': WHATEVER THE INPUT: true; the input reads as it did. -/
def exprSaysSpec : ChangeSpec := { name := "exprSays", fn := fun _ => fun
  | [d1, d2, d3, d4] => { results := [.lit (.bool true)], args := [d1, d2, d3, d4] }
  | _ => none }
def exprSaysRow : OpenClaim := { program := "ytepfpmagppckeaa", sum := "85d9ec17c2122725023eb0472d6526a2212cd92b5291384cb872bc519f9a1447", func := "penstock/penstocklaw.ExprSays", spec := "exprSays", recurses := true, apart := false }
def ExprSaysSaid : Prop := exprSaysRow.holds Try.pinned (OpenSpec.ofChange exprSaysSpec)

/-- ITS FALSE NEIGHBOUR: 'it returns false'. Refute it at one input. -/
def exprSaysWrong : ChangeSpec := { name := "exprSays", fn := fun _ => fun
  | [d1, d2, d3, d4] => { results := [.lit (.bool false)], args := [d1, d2, d3, d4] }
  | _ => none }
def ExprSaysWrongFalsely : Prop := exprSaysRow.holds Try.pinned (OpenSpec.ofChange exprSaysWrong)

/-- 'penstocklaw.FoldSays': WHATEVER THE INPUT: true; the input reads as it did. -/
def foldSaysSpec : ChangeSpec := { name := "foldSays", fn := fun _ => fun
  | [d1, d2] => { results := [.lit (.bool true)], args := [d1, d2] }
  | _ => none }
def foldSaysRow : OpenClaim := { program := "ytepfpmagppckeaa", sum := "85d9ec17c2122725023eb0472d6526a2212cd92b5291384cb872bc519f9a1447", func := "penstock/penstocklaw.FoldSays", spec := "foldSays", recurses := true, apart := false }
def FoldSaysSaid : Prop := foldSaysRow.holds Try.pinned (OpenSpec.ofChange foldSaysSpec)

/-- ITS FALSE NEIGHBOUR: 'it returns false'. Refute it at one input. -/
def foldSaysWrong : ChangeSpec := { name := "foldSays", fn := fun _ => fun
  | [d1, d2] => { results := [.lit (.bool false)], args := [d1, d2] }
  | _ => none }
def FoldSaysWrongFalsely : Prop := foldSaysRow.holds Try.pinned (OpenSpec.ofChange foldSaysWrong)

/-- 'penstocktop.TopLogic': WHATEVER THE INPUT: true; the input reads as it did. -/
def topLogicSpec : ChangeSpec := { name := "topLogic", fn := fun _ => fun
  | [d1, d2, d3] => { results := [.lit (.bool true)], args := [d1, d2, d3] }
  | _ => none }
def topLogicRow : OpenClaim := { program := "ytepfpmagppckeaa", sum := "85d9ec17c2122725023eb0472d6526a2212cd92b5291384cb872bc519f9a1447", func := "penstock/penstocktop.TopLogic", spec := "topLogic", apart := false }
def TopLogicSaid : Prop := topLogicRow.holds Try.pinned (OpenSpec.ofChange topLogicSpec)

/-- ITS FALSE NEIGHBOUR: 'it returns false'. Refute it at one input. -/
def topLogicWrong : ChangeSpec := { name := "topLogic", fn := fun _ => fun
  | [d1, d2, d3] => { results := [.lit (.bool false)], args := [d1, d2, d3] }
  | _ => none }
def TopLogicWrongFalsely : Prop := topLogicRow.holds Try.pinned (OpenSpec.ofChange topLogicWrong)

/-- 'penstocktop.TopOrder': WHATEVER THE INPUT: true; the input reads as it did. -/
def topOrderSpec : ChangeSpec := { name := "topOrder", fn := fun _ => fun
  | [d1, d2, d3] => { results := [.lit (.bool true)], args := [d1, d2, d3] }
  | _ => none }
def topOrderRow : OpenClaim := { program := "ytepfpmagppckeaa", sum := "85d9ec17c2122725023eb0472d6526a2212cd92b5291384cb872bc519f9a1447", func := "penstock/penstocktop.TopOrder", spec := "topOrder", apart := false }
def TopOrderSaid : Prop := topOrderRow.holds Try.pinned (OpenSpec.ofChange topOrderSpec)

/-- ITS FALSE NEIGHBOUR: 'it returns false'. Refute it at one input. -/
def topOrderWrong : ChangeSpec := { name := "topOrder", fn := fun _ => fun
  | [d1, d2, d3] => { results := [.lit (.bool false)], args := [d1, d2, d3] }
  | _ => none }
def TopOrderWrongFalsely : Prop := topOrderRow.holds Try.pinned (OpenSpec.ofChange topOrderWrong)

/-- 'penstocktop.TopWords': WHATEVER THE INPUT: true; the input reads as it did. -/
def topWordsSpec : ChangeSpec := { name := "topWords", fn := fun _ => fun
  | [d1, d2] => { results := [.lit (.bool true)], args := [d1, d2] }
  | _ => none }
def topWordsRow : OpenClaim := { program := "ytepfpmagppckeaa", sum := "85d9ec17c2122725023eb0472d6526a2212cd92b5291384cb872bc519f9a1447", func := "penstock/penstocktop.TopWords", spec := "topWords", inPlace := ["internal/bytealg.IndexByteString"], unfollowed := true, recurses := true, apart := false }
def TopWordsSaid : Prop := topWordsRow.holds Try.pinned (OpenSpec.ofChange topWordsSpec)

/-- ITS FALSE NEIGHBOUR: 'it returns false'. Refute it at one input. -/
def topWordsWrong : ChangeSpec := { name := "topWords", fn := fun _ => fun
  | [d1, d2] => { results := [.lit (.bool false)], args := [d1, d2] }
  | _ => none }
def TopWordsWrongFalsely : Prop := topWordsRow.holds Try.pinned (OpenSpec.ofChange topWordsWrong)

/-- 'penstocktop.TopJoin': WHATEVER THE INPUT: true; the input reads as it did. -/
def topJoinSpec : ChangeSpec := { name := "topJoin", fn := fun _ => fun
  | [d1, d2, d3, d4] => { results := [.lit (.bool true)], args := [d1, d2, d3, d4] }
  | _ => none }
def topJoinRow : OpenClaim := { program := "ytepfpmagppckeaa", sum := "85d9ec17c2122725023eb0472d6526a2212cd92b5291384cb872bc519f9a1447", func := "penstock/penstocktop.TopJoin", spec := "topJoin", apart := false }
def TopJoinSaid : Prop := topJoinRow.holds Try.pinned (OpenSpec.ofChange topJoinSpec)

/-- ITS FALSE NEIGHBOUR: 'it returns false'. Refute it at one input. -/
def topJoinWrong : ChangeSpec := { name := "topJoin", fn := fun _ => fun
  | [d1, d2, d3, d4] => { results := [.lit (.bool false)], args := [d1, d2, d3, d4] }
  | _ => none }
def TopJoinWrongFalsely : Prop := topJoinRow.holds Try.pinned (OpenSpec.ofChange topJoinWrong)

/- THE SECOND FORM. 'bulk': how many values and letters a reading holds, each counted each time it is reached (what is shared counts as often as it is met; a slice's spare places count too). A statement '..UptoSaid' is the law's where the arguments, and the package variables that the reading takes, are together of bulk at most 1048576: NARROWER than '..Said'. Prove '..Said' where nothing that the law and all that it calls make is longer than what came in: it says more and counts as full. Else prove '..UptoSaid'. A law counts once. -/
mutual
def uptoBulk {H : Type} : DataW H → Nat
  | .lit (.string bytes) => bytes.length + 1
  | .lit _ => 1
  | .nil => 1
  | .ptr d => uptoBulk d + 1
  | .slice elems spare => uptoBulkAll elems + uptoBulkAll spare + 1
  | .agg parts => uptoBulkAll parts + 1
  | .iface _ d => uptoBulk d + 1
  | .map entries => uptoBulkEntries entries + 1
  | .held _ => 1
def uptoBulkAll {H : Type} : List (DataW H) → Nat
  | [] => 0
  | d :: r => uptoBulk d + uptoBulkAll r
def uptoBulkEntries {H : Type} : List (Lit × DataW H) → Nat
  | [] => 0
  | x :: r => uptoBulkEntry x + uptoBulkEntries r
def uptoBulkEntry {H : Type} : Lit × DataW H → Nat
  | (.string bytes, d) => bytes.length + uptoBulk d + 1
  | (_, d) => uptoBulk d + 1
 end
def uptoSmall : (H : Type) → List (DataW H) → Bool := fun _ ds => decide (uptoBulkAll ds ≤ 1048576)
def OpenSpec.upto (s : _root_.Go.ChangeSpec) : _root_.Go.OpenSpec := { _root_.Go.OpenSpec.ofChange s with cond := some uptoSmall }

/-- 'penstocklaw.LexerSays', WHERE WHAT IT READS IS OF BULK AT MOST 1048576: true; the input reads as it did. -/
def lexerSaysUptoRow : OpenClaim := { program := "ytepfpmagppckeaa", sum := "85d9ec17c2122725023eb0472d6526a2212cd92b5291384cb872bc519f9a1447", func := "penstock/penstocklaw.LexerSays", spec := "lexerSays", inPlace := ["internal/bytealg.IndexByteString"], unfollowed := true, recurses := true, apart := false, narrowed := true }
def LexerSaysUptoSaid : Prop := lexerSaysUptoRow.holds Try.pinned (OpenSpec.upto lexerSaysSpec)

/-- 'penstocklaw.ExprSays', WHERE WHAT IT READS IS OF BULK AT MOST 1048576: true; the input reads as it did. -/
def exprSaysUptoRow : OpenClaim := { program := "ytepfpmagppckeaa", sum := "85d9ec17c2122725023eb0472d6526a2212cd92b5291384cb872bc519f9a1447", func := "penstock/penstocklaw.ExprSays", spec := "exprSays", recurses := true, apart := false, narrowed := true }
def ExprSaysUptoSaid : Prop := exprSaysUptoRow.holds Try.pinned (OpenSpec.upto exprSaysSpec)

/-- 'penstocklaw.FoldSays', WHERE WHAT IT READS IS OF BULK AT MOST 1048576: true; the input reads as it did. -/
def foldSaysUptoRow : OpenClaim := { program := "ytepfpmagppckeaa", sum := "85d9ec17c2122725023eb0472d6526a2212cd92b5291384cb872bc519f9a1447", func := "penstock/penstocklaw.FoldSays", spec := "foldSays", recurses := true, apart := false, narrowed := true }
def FoldSaysUptoSaid : Prop := foldSaysUptoRow.holds Try.pinned (OpenSpec.upto foldSaysSpec)

/-- 'penstocktop.TopLogic', WHERE WHAT IT READS IS OF BULK AT MOST 1048576: true; the input reads as it did. -/
def topLogicUptoRow : OpenClaim := { program := "ytepfpmagppckeaa", sum := "85d9ec17c2122725023eb0472d6526a2212cd92b5291384cb872bc519f9a1447", func := "penstock/penstocktop.TopLogic", spec := "topLogic", apart := false, narrowed := true }
def TopLogicUptoSaid : Prop := topLogicUptoRow.holds Try.pinned (OpenSpec.upto topLogicSpec)

/-- 'penstocktop.TopOrder', WHERE WHAT IT READS IS OF BULK AT MOST 1048576: true; the input reads as it did. -/
def topOrderUptoRow : OpenClaim := { program := "ytepfpmagppckeaa", sum := "85d9ec17c2122725023eb0472d6526a2212cd92b5291384cb872bc519f9a1447", func := "penstock/penstocktop.TopOrder", spec := "topOrder", apart := false, narrowed := true }
def TopOrderUptoSaid : Prop := topOrderUptoRow.holds Try.pinned (OpenSpec.upto topOrderSpec)

/-- 'penstocktop.TopWords', WHERE WHAT IT READS IS OF BULK AT MOST 1048576: true; the input reads as it did. -/
def topWordsUptoRow : OpenClaim := { program := "ytepfpmagppckeaa", sum := "85d9ec17c2122725023eb0472d6526a2212cd92b5291384cb872bc519f9a1447", func := "penstock/penstocktop.TopWords", spec := "topWords", inPlace := ["internal/bytealg.IndexByteString"], unfollowed := true, recurses := true, apart := false, narrowed := true }
def TopWordsUptoSaid : Prop := topWordsUptoRow.holds Try.pinned (OpenSpec.upto topWordsSpec)

/-- 'penstocktop.TopJoin', WHERE WHAT IT READS IS OF BULK AT MOST 1048576: true; the input reads as it did. -/
def topJoinUptoRow : OpenClaim := { program := "ytepfpmagppckeaa", sum := "85d9ec17c2122725023eb0472d6526a2212cd92b5291384cb872bc519f9a1447", func := "penstock/penstocktop.TopJoin", spec := "topJoin", apart := false, narrowed := true }
def TopJoinUptoSaid : Prop := topJoinUptoRow.holds Try.pinned (OpenSpec.upto topJoinSpec)

end Rows
end Go.Proofs.Ytepfpmagppckeaa
