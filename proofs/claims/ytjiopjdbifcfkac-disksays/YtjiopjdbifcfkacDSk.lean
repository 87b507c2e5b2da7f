/- The law DiskSays's shared words, over this seat's translation. Conditions: as named. -/
import Derived.Test.YtjiopjdbifcfkacDiskT
import Derived.Test.YtjiopjdbifcfkacHeldF
namespace Go.Proofs.Ytjiopjdbifcfkac
open Go.ChangeShapes Go.WideShapes Go.ChangeAt Go.RowKit
set_option linter.unusedVariables false
set_option linter.unusedSimpArgs false

/-- the number of the first region -/
def lead : Code → Option Nat
  | .region id _ _ => some id
  | .seq a _ => lead a
  | .cond _ a _ => lead a
  | .block _ b => lead b
  | .loop b => lead b
  | .scope b => lead b
  | _ => none
/-- the statement (no sequence) that opens with the region of that number -/
def stm (n : Nat) : Code → Option Code
  | .seq a b => (stm n a).or (stm n b)
  | .region id ops d => if id = n then some (.region id ops d) else none
  | .cond c a b => if lead a = some n then some (.cond c a b) else (stm n a).or (stm n b)
  | .block i b => if lead b = some n then some (.block i b) else stm n b
  | .loop b => if lead b = some n then some (.loop b) else stm n b
  | .scope b => if lead b = some n then some (.scope b) else stm n b
  | _ => none
/-- the region of that number -/
def rgn (n : Nat) : Code → Option Code
  | .region id ops d => if id = n then some (.region id ops d) else none
  | .seq a b => (rgn n a).or (rgn n b)
  | .cond _ a b => (rgn n a).or (rgn n b)
  | .block _ b => rgn n b
  | .loop b => rgn n b
  | .scope b => rgn n b
  | _ => none
theorem then_normal {next : Act → World → Prop} {Q : Exit → Act → World → Prop} {a : Act} {w : World} (h : next a w) : Exit.then next Q .normal a w := h

theorem writeR_kept {w w' : World} {B gd gs : Nat} {bit left : Int} {down : Bool} {ss : List Sec} {a : Int} {t : ByteArray} {e : Ending} (h : WriteR w w' B gd gs bit left down ss a t e) : KeptB w w' (dskBad gd gs ss) := by
  rcases h with ⟨-, -, hb⟩ | ⟨-, -, -, hk, -⟩ | ⟨i, hi, ht, wv', -, -, -, -, hk, -⟩
  · exact keptB_of_below hb
  · exact hk
  · exact hk
theorem rwriteR_kept {w w' : World} {B gr : Nat} {kl nl : List ByteArray} {tl : List Tn} {fuse : Int} {down : Bool} {kv nv tv : Value} {a : Int} {t : ByteArray} {e : Ending} (h : RWriteR w w' B gr kl nl tl fuse down kv nv tv a t e) : KeptB w w' (refBad gr kv nv tv) := by
  rcases h with ⟨-, -, hb⟩ | ⟨-, -, -, hk, -⟩ | ⟨i, tv', -, -, -, -, -, -, hk, -⟩
  · exact keptB_of_below hb
  · exact keptB_mono hk (fun k e => .inl e)
  · exact keptB_mono hk (fun k e => by
      rcases e with e | e | e
      · exact .inl e
      · exact .inr (.inr (.inl e))
      · exact .inr (.inr (.inr e)))
end Go.Proofs.Ytjiopjdbifcfkac
