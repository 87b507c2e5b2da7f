/- Several texts in one, each with its own head. What is proved: what the parts say. Conditions: theirs. -/
import Derived.Test.YteaanpdckkmjoaaGreatDoorExprPureJ
import Derived.Test.YteaanpdckkmjoaaGreatDoorLexPureJ
import Derived.Test.YteaanpdckkmjoaaGreatDoorRows
import Derived.WalkKit
import Derived.ProofKit
import Derived.OpenShut
import Derived.ShutString
import Derived.ChangeOld
import Derived.Below
import Derived.Outline
import Derived.Deep.QuietTactic
import Derived.BigQuiet
import Derived.RegionTactic
import Derived.Deep.RegionWith
import Derived.OwnWalk
set_option linter.unusedVariables false
set_option linter.unusedSimpArgs false
set_option maxRecDepth 100000
set_option maxHeartbeats 8000000
namespace Go.Proofs.YteaanpdckkmjoaaGreatDoor
abbrev Ws:=List ByteArray
abbrev PR:=Except Int (List Nd × Ws)
def tk (word : ByteArray) : Ws → Option Ws
 | [] => none
 | w :: r => if w = word then some r else none
structure Sg where
 rank : Int
 op : Int
 turned : Bool
 denied : Bool
 deriving DecidableEq
def wSelect : ByteArray:=⟨#[115,101,108,101,99,116]⟩
def wFrom : ByteArray:=⟨#[102,114,111,109]⟩
def wEvents : ByteArray:=⟨#[101,118,101,110,116,115]⟩
def wWhere : ByteArray:=⟨#[119,104,101,114,101]⟩
def wGroup : ByteArray:=⟨#[103,114,111,117,112]⟩
def wBy : ByteArray:=⟨#[98,121]⟩
def wWindow : ByteArray:=⟨#[119,105,110,100,111,119]⟩
def wSlide : ByteArray:=⟨#[115,108,105,100,101]⟩
def wDelay : ByteArray:=⟨#[100,101,108,97,121]⟩
def wLate : ByteArray:=⟨#[108,97,116,101]⟩
def wNot : ByteArray:=⟨#[110,111,116]⟩
def wIs : ByteArray:=⟨#[105,115]⟩
def wNull : ByteArray:=⟨#[110,117,108,108]⟩
def wTrue : ByteArray:=⟨#[116,114,117,101]⟩
def wFalse : ByteArray:=⟨#[102,97,108,115,101]⟩
def wOr : ByteArray:=⟨#[111,114]⟩
def wAnd : ByteArray:=⟨#[97,110,100]⟩
def wOpen : ByteArray:=⟨#[40]⟩
def wClose : ByteArray:=⟨#[41]⟩
def wComma : ByteArray:=⟨#[44]⟩
def wStar : ByteArray:=⟨#[42]⟩
def wPlus : ByteArray:=⟨#[43]⟩
def wMinus : ByteArray:=⟨#[45]⟩
def wLt : ByteArray:=⟨#[60]⟩
def wGt : ByteArray:=⟨#[62]⟩
def wEq : ByteArray:=⟨#[61]⟩
def wLe : ByteArray:=⟨#[60,61]⟩
def wGe : ByteArray:=⟨#[62,61]⟩
def wNe : ByteArray:=⟨#[60,62]⟩
def wCount : ByteArray:=⟨#[99,111,117,110,116]⟩
def wSum : ByteArray:=⟨#[115,117,109]⟩
def wMin : ByteArray:=⟨#[109,105,110]⟩
def wMax : ByteArray:=⟨#[109,97,120]⟩
def wT : ByteArray:=⟨#[116]⟩
def wK : ByteArray:=⟨#[107]⟩
def wA : ByteArray:=⟨#[97]⟩
def wB : ByteArray:=⟨#[98]⟩
def sgL : List (ByteArray × Sg):=[(wOr,⟨0,10,false,false⟩),(wAnd,⟨1,9,false,false⟩),(wLt,⟨2,11,false,false⟩),(wGt,⟨2,11,true,false⟩),(wLe,⟨2,11,true,true⟩),(wGe,⟨2,11,false,true⟩),(wEq,⟨2,12,false,false⟩),(wNe,⟨2,12,false,true⟩),(wPlus,⟨3,6,false,false⟩),(wMinus,⟨3,7,false,false⟩),(wStar,⟨4,8,false,false⟩)]
def sgIn : List (ByteArray × Sg) → ByteArray → Option Sg
 | [],_ => none
 | p :: l,w => if w = p.1 then some p.2 else sgIn l w
def sgOf (w : ByteArray) : Option Sg:=sgIn sgL w
def tkS (rank : Int) : Ws → Option (Sg × Ws)
 | [] => none
 | w :: r => match sgOf w with
  | none => none
  | some s => if s.rank = rank then some (s,r) else none
def jn1 (op : Int) (x : List Nd) : Except Int (List Nd):=if 40 < x.length + 1 then .error 2 else .ok (join1 op x)
def jn2 (op : Int) (x y : List Nd) : Except Int (List Nd):=if 40 < x.length + y.length + 1 then .error 2 else .ok (joinL op x y)
def jnD (dn : Bool) (r : Except Int (List Nd)) : Except Int (List Nd):=match r with
 | .error c => .error c
 | .ok l => if dn then jn1 4 l else .ok l
def jnS (s : Sg) (x y : List Nd) : Except Int (List Nd):=jnD s.denied (if s.turned then jn2 s.op y x else jn2 s.op x y)
def wth (ws : Ws) (r : Except Int (List Nd)) : PR:=match r with
 | .error c => .error c
 | .ok l => .ok (l,ws)
def natM (most : Nat) : Nat → List UInt8 → Option Nat
 | acc,[] => some acc
 | acc,c :: r => if c.toNat < 48 ∨ 57 < c.toNat then none else if most < 10 * acc + (c.toNat - 48) then none else natM most (10 * acc + (c.toNat - 48)) r
def numQ (most : Nat) (w : ByteArray) : Option Nat:=if w.data.toList = [] then none else natM most 0 w.data.toList
def fldQ (w : ByteArray) : Option Int:=if w = wT then some 0 else if w = wK then some 1 else if w = wA then some 2 else if w = wB then some 3 else none
def leafQ (w : ByteArray) : Option Nd :=
 match fldQ w with
 | some i => some ⟨2,0,0,i,0,0⟩
 | none => if w = wNull then some ⟨1,0,0,0,0,0⟩ else if w = wFalse then some ⟨1,0,0,0,2,0⟩ else if w = wTrue then some ⟨1,0,0,0,2,1⟩ else
  match numQ 1000000000 w with
  | some n => some ⟨1,0,0,0,1,n⟩
  | none => none
def rowL (inner : Ws → PR) (rank : Int) : Nat → List Nd → Ws → PR
 | 0,_,_ => .error 99
 | k + 1,x,ws => match tkS rank ws with
  | none => .ok (x,ws)
  | some (s,ws1) => match inner ws1 with
   | .error c => .error c
   | .ok (y,ws2) => match jnS s x y with
    | .error c => .error c
    | .ok z => rowL inner rank k z ws2
def rowP (inner : Ws → PR) (rank : Int) (k : Nat) (ws : Ws) : PR:=match inner ws with
 | .error c => .error c
 | .ok (x,ws1) => rowL inner rank k x ws1
def deepP (inner : Ws → Nat → PR) (ws : Ws) (d : Nat) : PR:=if d = 12 then .error 2 else inner ws (d + 1)
def aheadP (op : Int) (r : PR) : PR:=match r with
 | .error c => .error c
 | .ok (x,ws) => wth ws (jn1 op x)
def nullP (x : List Nd) (dn : Bool) (ws : Ws) : PR:=match tk wNull ws with
 | none => .error 4
 | some ws1 => wth ws1 (jnD dn (jn1 5 x))
def isP (x : List Nd) (ws : Ws) : PR:=match tk wNot ws with
 | some ws1 => nullP x true ws1
 | none => nullP x false ws
def cmpP (inner : Ws → PR) (x : List Nd) (ws : Ws) : PR:=match tk wIs ws with
 | some ws1 => isP x ws1
 | none => match tkS 2 ws with
  | none => .ok (x,ws)
  | some (s,ws1) => match inner ws1 with
   | .error c => .error c
   | .ok (y,ws2) => wth ws2 (jnS s x y)
def closeP (r : PR) : PR:=match r with
 | .error c => .error c
 | .ok (x,ws) => match tk wClose ws with
  | none => .error 4
  | some ws1 => .ok (x,ws1)
def leafP : Ws → PR
 | [] => .error 4
 | w :: r => match leafQ w with
  | none => .error 4
  | some n => .ok ([n],r)
def lev : Nat → Nat → Ws → Nat → PR
 | 0,_,_,_ => .error 99
 | f + 1,0,ws,d => rowP (fun ws => lev f 1 ws d) 0 f ws
 | f + 1,1,ws,d => rowP (fun ws => lev f 2 ws d) 1 f ws
 | f + 1,2,ws,d => match tk wNot ws with
  | some ws1 => aheadP 4 (deepP (fun ws d => lev f 2 ws d) ws1 d)
  | none => lev f 3 ws d
 | f + 1,3,ws,d => match lev f 4 ws d with
  | .error c => .error c
  | .ok (x,ws1) => cmpP (fun ws => lev f 4 ws d) x ws1
 | f + 1,4,ws,d => rowP (fun ws => lev f 5 ws d) 3 f ws
 | f + 1,5,ws,d => rowP (fun ws => lev f 6 ws d) 4 f ws
 | f + 1,6,ws,d => match tk wMinus ws with
  | some ws1 => aheadP 3 (deepP (fun ws d => lev f 6 ws d) ws1 d)
  | none => lev f 7 ws d
 | f + 1,_ + 7,ws,d => match tk wOpen ws with
  | some ws1 => closeP (deepP (fun ws d => lev f 0 ws d) ws1 d)
  | none => leafP ws
def FU : Nat:=1000
structure AgQ where
 kind : Int
 of : List Nd
structure Qy where
 aggs : List AgQ
 wh : List Nd
 bys : List Nd
 size : Int
 slide : Int
 delay : Int
 late : Int
def aggK (ws : Ws) : Option (Int × Ws):=match tk wCount ws with
 | some r => some (2,r)
 | none => match tk wSum ws with
  | some r => some (3,r)
  | none => match tk wMin ws with
   | some r => some (4,r)
   | none => match tk wMax ws with
    | some r => some (5,r)
    | none => none
def mustP {α : Type} (word : ByteArray) (ws : Ws) (k : Ws → Except Int α) : Except Int α:=match tk word ws with
 | none => .error 4
 | some r => k r
def starP (k : Int) (ws : Ws) : Option Ws:=if k = 2 then tk wStar ws else none
def exprP {α : Type} (ws : Ws) (k : List Nd → Ws → Except Int α) : Except Int α:=match lev FU 0 ws 0 with
 | .error c => .error c
 | .ok (l,r) => k l r
def aggrP (ws : Ws) : Except Int (AgQ × Ws):=match aggK ws with
 | none => .error 4
 | some (k,ws1) => mustP wOpen ws1 fun ws2 => match starP k ws2 with
  | some ws3 => mustP wClose ws3 fun ws4 => .ok (⟨1,[]⟩,ws4)
  | none => exprP ws2 fun l ws3 => mustP wClose ws3 fun ws4 => .ok (⟨k,l⟩,ws4)
def aggsP : Nat → List AgQ → Ws → Except Int (List AgQ × Ws)
 | 0,_,_ => .error 99
 | k + 1,l,ws => match tk wComma ws with
  | none => .ok (l,ws)
  | some ws1 => match aggrP ws1 with
   | .error c => .error c
   | .ok (a,ws2) => aggsP k (l ++ [a]) ws2
def spanP {α : Type} (ws : Ws) (k : Int → Ws → Except Int α) : Except Int α:=match ws with
 | [] => .error 4
 | w :: r => match numQ 1000 w with
  | none => .error 4
  | some n => k n r
def optP {α : Type} (word : ByteArray) (dflt : Int) (ws : Ws) (k : Int → Ws → Except Int α) : Except Int α:=match tk word ws with
 | none => k dflt ws
 | some ws1 => spanP ws1 k
def whereP {α : Type} (ws : Ws) (k : List Nd → Ws → Except Int α) : Except Int α:=match tk wWhere ws with
 | none => k [] ws
 | some ws1 => exprP ws1 k
def groupP {α : Type} (ws : Ws) (k : List Nd → Ws → Except Int α) : Except Int α:=match tk wGroup ws with
 | none => k [] ws
 | some ws1 => mustP wBy ws1 fun ws2 => exprP ws2 k
def endP (q : Qy) (ws : Ws) : Except Int Qy:=if ws = [] then .ok q else .error 4
def tailP (aggs : List AgQ) (ws : Ws) : Except Int Qy :=
 mustP wFrom ws fun ws => mustP wEvents ws fun ws => whereP ws fun wh ws => groupP ws fun bys ws => mustP wWindow ws fun ws => spanP ws fun size ws =>
  optP wSlide size ws fun slide ws => optP wDelay 0 ws fun delay ws => optP wLate 0 ws fun late ws => endP ⟨aggs,wh,bys,size,slide,delay,late⟩ ws
def questP (ws : Ws) : Except Int Qy:=mustP wSelect ws fun ws => match aggrP ws with
 | .error c => .error c
 | .ok (a,ws1) => match aggsP FU [a] ws1 with
  | .error c => .error c
  | .ok (l,ws2) => tailP l ws2
def kindQ (l : List Nd) : V2:=if chkE l ≠ 0 then (0,chkE l) else tyE l
def chkA (a : AgQ) : Int:=if a.kind < 1 ∨ 5 < a.kind then 3 else if a.kind = 1 then (if 0 < a.of.length then 3 else 0) else if (kindQ a.of).2 ≠ 0 then (kindQ a.of).2 else if (kindQ a.of).1 = 2 ∧ a.kind ≠ 2 then 3 else 0
def chkAs : List AgQ → Int
 | [] => 0
 | a :: l => if chkA a ≠ 0 then chkA a else chkAs l
def chkW (l : List Nd) : Int:=if l.length = 0 then 0 else if (kindQ l).2 ≠ 0 then (kindQ l).2 else if (kindQ l).1 = 1 then 3 else 0
def chkB (l : List Nd) : Int:=if l.length = 0 then 0 else (kindQ l).2
def chkS (q : Qy) : Int:=if q.size < 1 ∨ 1000 < q.size ∨ q.slide < 1 ∨ 1000 < q.slide ∨ q.delay < 0 ∨ 1000 < q.delay ∨ q.late < 0 ∨ 1000 < q.late then 1 else if q.size < q.slide ∨ 4 * q.slide < q.size then 3 else 0
def chkQ (q : Qy) : Int:=if q.aggs.length = 0 ∨ 4 < q.aggs.length then 2 else if chkAs q.aggs ≠ 0 then chkAs q.aggs else if chkW q.wh ≠ 0 then chkW q.wh else if chkB q.bys ≠ 0 then chkB q.bys else chkS q
def parseQ (s : ByteArray) : Except Int Qy:=if (lexT s).1 ≠ 0 then .error (lexT s).1 else match questP (lexT s).2 with
 | .error c => .error c
 | .ok q => if chkQ q ≠ 0 then .error (chkQ q) else .ok q
theorem tk_len {word : ByteArray} {ws r : Ws} (h : tk word ws = some r) : r.length + 1 = ws.length:=by
 cases ws with
 | nil => simp [tk] at h
 | cons w ws =>
  simp only [tk] at h
  by_cases e : w = word
  ·rw [if_pos e] at h
   cases h
   rfl
  ·rw [if_neg e] at h
   cases h
theorem tkS_len {rank : Int} {ws r : Ws} {s : Sg} (h : tkS rank ws = some (s,r)) : r.length + 1 = ws.length:=by
 cases ws with
 | nil => simp [tkS] at h
 | cons w ws =>
  simp only [tkS] at h
  cases hs : sgOf w with
  | none => rw [hs] at h;cases h
  | some q =>
   rw [hs] at h
   simp only at h
   by_cases e : q.rank = rank
   ·rw [if_pos e] at h
    cases h
    rfl
   ·rw [if_neg e] at h
    cases h
def Fine (ws : Ws) (r : PR) : Prop:=r ≠ .error 99 ∧ ∀ l ws',r = .ok (l,ws') → ws'.length < ws.length
theorem jn1_99 (op : Int) (x : List Nd) : jn1 op x ≠ .error 99:=by
 unfold jn1
 split
 ·intro h;injection h with h;exact absurd h (by decide)
 ·intro h;cases h
theorem jn2_99 (op : Int) (x y : List Nd) : jn2 op x y ≠ .error 99:=by
 unfold jn2
 split
 ·intro h;injection h with h;exact absurd h (by decide)
 ·intro h;cases h
theorem jnD_99 (dn : Bool) (r : Except Int (List Nd)) (h : r ≠ .error 99) : jnD dn r ≠ .error 99:=by
 unfold jnD
 cases r with
 | error c => exact fun e => h (by injection e with e;rw [e])
 | ok l =>
  simp only
  split
  ·exact jn1_99 _ _
  ·intro h;cases h
theorem jnS_99 (s : Sg) (x y : List Nd) : jnS s x y ≠ .error 99:=by
 unfold jnS
 apply jnD_99
 split <;> exact jn2_99 _ _ _
theorem wth_fine {ws ws0 : Ws} {r : Except Int (List Nd)} (h : r ≠ .error 99) (hl : ws.length < ws0.length) : Fine ws0 (wth ws r):=by
 cases r with
 | error c => exact ⟨fun e => h (by injection e with e;rw [e]),fun l ws' e => by cases e⟩
 | ok l => exact ⟨(fun e => by cases e),fun l' ws' e => by cases e;exact hl⟩
theorem fine_err {ws : Ws} {c : Int} (h : c ≠ 99) : Fine ws (.error c):=⟨fun e => h (by injection e),fun l ws' e => by cases e⟩
theorem fine_le {ws ws0 : Ws} {r : PR} (h : Fine ws r) (hl : ws.length ≤ ws0.length) : Fine ws0 r:=⟨h.1,fun l ws' e => by have:=h.2 l ws' e;omega⟩
theorem rowL_fine (inner : Ws → PR) (rank : Int) (ws0 : Ws) (hin : ∀ ws : Ws,ws.length < ws0.length → Fine ws (inner ws)) : ∀ (k : Nat) (x : List Nd) (ws : Ws),ws.length < k → ws.length < ws0.length → Fine ws0 (rowL inner rank k x ws)
 | 0,x,ws,h,_ => by omega
 | k + 1,x,ws,h,h0 => by
  unfold rowL
  cases hs : tkS rank ws with
  | none => exact ⟨(fun e => by cases e),fun l ws' e => by cases e;exact h0⟩
  | some p =>
   obtain ⟨s,ws1⟩:=p
   have h1:=tkS_len hs
   have hf:=hin ws1 (by omega)
   simp only
   cases hi : inner ws1 with
   | error c => rw [hi] at hf;exact ⟨fun e => hf.1 (by injection e with e;rw [e]),fun l ws' e => by cases e⟩
   | ok q =>
    obtain ⟨y,ws2⟩:=q
    rw [hi] at hf
    have h2:=hf.2 y ws2 rfl
    simp only
    have hj:=jnS_99 s x y
    cases hz : jnS s x y with
    | error c => rw [hz] at hj;exact ⟨fun e => hj (by injection e with e;rw [e]),fun l ws' e => by cases e⟩
    | ok z => exact rowL_fine inner rank ws0 hin k z ws2 (by omega) (by omega)
theorem rowP_fine (inner : Ws → PR) (rank : Int) (k : Nat) (ws : Ws) (hin : ∀ ws' : Ws,ws'.length ≤ ws.length → Fine ws' (inner ws')) (hk : ws.length ≤ k) : Fine ws (rowP inner rank k ws):=by
 have hf:=hin ws (Nat.le_refl _)
 unfold rowP
 cases hi : inner ws with
 | error c => rw [hi] at hf;exact ⟨fun e => hf.1 (by injection e with e;rw [e]),fun l ws' e => by cases e⟩
 | ok p =>
  obtain ⟨x,ws1⟩:=p
  rw [hi] at hf
  have h1:=hf.2 x ws1 rfl
  exact rowL_fine inner rank ws (fun ws' h => hin ws' (by omega)) k x ws1 (by omega) h1
theorem deep_fine (inner : Ws → Nat → PR) (ws : Ws) (d : Nat) (h : ∀ d',Fine ws (inner ws d')) : Fine ws (deepP inner ws d):=by
 unfold deepP
 split
 ·exact fine_err (by decide)
 ·exact h _
theorem ahead_fine (op : Int) (ws : Ws) (r : PR) (h : Fine ws r) : Fine ws (aheadP op r):=by
 unfold aheadP
 cases r with
 | error c => exact ⟨fun e => h.1 (by injection e with e;rw [e]),fun l ws' e => by cases e⟩
 | ok p =>
  obtain ⟨x,ws1⟩:=p
  exact wth_fine (jn1_99 _ _) (h.2 x ws1 rfl)
theorem null_fine (x : List Nd) (dn : Bool) (ws ws0 : Ws) (h : ws.length < ws0.length) : Fine ws0 (nullP x dn ws):=by
 unfold nullP
 cases ht : tk wNull ws with
 | none => exact fine_err (by decide)
 | some ws1 => exact wth_fine (jnD_99 _ _ (jn1_99 _ _)) (by have:=tk_len ht;omega)
theorem cmp_fine (inner : Ws → PR) (x : List Nd) (ws ws0 : Ws) (hl : ws.length < ws0.length) (hin : ∀ ws' : Ws,ws'.length < ws0.length → Fine ws' (inner ws')) : Fine ws0 (cmpP inner x ws):=by
 unfold cmpP
 cases ht : tk wIs ws with
 | some ws1 =>
  have:=tk_len ht
  simp only
  unfold isP
  cases hn : tk wNot ws1 with
  | some ws2 => have:=tk_len hn;exact null_fine _ _ _ _ (by omega)
  | none => exact null_fine _ _ _ _ (by omega)
 | none =>
  simp only
  cases hs : tkS 2 ws with
  | none => exact ⟨(fun e => by cases e),fun l ws' e => by cases e;exact hl⟩
  | some p =>
   obtain ⟨s,ws1⟩:=p
   have h1:=tkS_len hs
   have hf:=hin ws1 (by omega)
   simp only
   cases hi : inner ws1 with
   | error c => rw [hi] at hf;exact ⟨fun e => hf.1 (by injection e with e;rw [e]),fun l ws' e => by cases e⟩
   | ok q =>
    obtain ⟨y,ws2⟩:=q
    rw [hi] at hf
    have h2:=hf.2 y ws2 rfl
    exact wth_fine (jnS_99 _ _ _) (by omega)
theorem close_fine (ws : Ws) (r : PR) (h : Fine ws r) : Fine ws (closeP r):=by
 unfold closeP
 cases r with
 | error c => exact ⟨fun e => h.1 (by injection e with e;rw [e]),fun l ws' e => by cases e⟩
 | ok p =>
  obtain ⟨x,ws1⟩:=p
  have h1:=h.2 x ws1 rfl
  simp only
  cases ht : tk wClose ws1 with
  | none => exact fine_err (by decide)
  | some ws2 => exact ⟨(fun e => by cases e),fun l ws' e => by cases e;have:=tk_len ht;omega⟩
theorem leaf_fine (ws : Ws) : Fine ws (leafP ws):=by
 cases ws with
 | nil => exact fine_err (by decide)
 | cons w r =>
  simp only [leafP]
  cases leafQ w with
  | none => exact fine_err (by decide)
  | some n => exact ⟨(fun e => by cases e),fun l ws' e => by cases e;simp⟩
theorem lev_fine : ∀ (f n : Nat) (ws : Ws) (d : Nat),9 * ws.length + (8 - n) < f → n ≤ 7 → Fine ws (lev f n ws d):=by
 intro f
 induction f with
 | zero => intro n ws d h;omega
 | succ f ih =>
  intro n ws d h hn
  match n,hn with
  | 0,_ => exact rowP_fine _ _ _ _ (fun ws' h' => ih 1 ws' d (by omega) (by omega)) (by omega)
  | 1,_ => exact rowP_fine _ _ _ _ (fun ws' h' => ih 2 ws' d (by omega) (by omega)) (by omega)
  | 2,_ =>
   show Fine ws (match tk wNot ws with
    | some ws1 => aheadP 4 (deepP (fun ws d => lev f 2 ws d) ws1 d)
    | none => lev f 3 ws d)
   cases ht : tk wNot ws with
   | some ws1 =>
    have:=tk_len ht
    exact fine_le (ahead_fine _ _ _ (deep_fine _ _ _ (fun d' => ih 2 ws1 d' (by omega) (by omega)))) (by omega)
   | none => exact ih 3 ws d (by omega) (by omega)
  | 3,_ =>
   have hf:=ih 4 ws d (by omega) (by omega)
   show Fine ws (match lev f 4 ws d with
    | .error c => .error c
    | .ok (x,ws1) => cmpP (fun ws => lev f 4 ws d) x ws1)
   cases hi : lev f 4 ws d with
   | error c => rw [hi] at hf;exact ⟨fun e => hf.1 (by injection e with e;rw [e]),fun l ws' e => by cases e⟩
   | ok p =>
    obtain ⟨x,ws1⟩:=p
    rw [hi] at hf
    exact cmp_fine _ x ws1 ws (hf.2 x ws1 rfl) (fun ws' h' => ih 4 ws' d (by omega) (by omega))
  | 4,_ => exact rowP_fine _ _ _ _ (fun ws' h' => ih 5 ws' d (by omega) (by omega)) (by omega)
  | 5,_ => exact rowP_fine _ _ _ _ (fun ws' h' => ih 6 ws' d (by omega) (by omega)) (by omega)
  | 6,_ =>
   show Fine ws (match tk wMinus ws with
    | some ws1 => aheadP 3 (deepP (fun ws d => lev f 6 ws d) ws1 d)
    | none => lev f 7 ws d)
   cases ht : tk wMinus ws with
   | some ws1 =>
    have:=tk_len ht
    exact fine_le (ahead_fine _ _ _ (deep_fine _ _ _ (fun d' => ih 6 ws1 d' (by omega) (by omega)))) (by omega)
   | none => exact ih 7 ws d (by omega) (by omega)
  | 7,_ =>
   show Fine ws (match tk wOpen ws with
    | some ws1 => closeP (deepP (fun ws d => lev f 0 ws d) ws1 d)
    | none => leafP ws)
   cases ht : tk wOpen ws with
   | some ws1 =>
    have:=tk_len ht
    exact fine_le (close_fine _ _ (deep_fine _ _ _ (fun d' => ih 0 ws1 d' (by omega) (by omega)))) (by omega)
   | none => exact leaf_fine ws
theorem expr_fine (ws : Ws) (d : Nat) (h : ws.length ≤ 100) : Fine ws (lev FU 0 ws d):=lev_fine FU 0 ws d (by unfold FU;omega) (by decide)
end Go.Proofs.YteaanpdckkmjoaaGreatDoor
namespace Go.Proofs.YteaanpdckkmjoaaGreatDoor
open Go.ChangeShapes Go.WideShapes Go.ChangeAt Go.RowKit
theorem null_any (w : World) :
  Calls Tryz.prog 104 #[] w fun e w' => e = .returned (.agg #[.int .i64 0,.int .i64 0]) ∧ w' = w.alloc (.cells #[.int .i64 0,.int .i64 0] 89):=by
 go_enter Tryz.func104,Tryz.ntmps104
 go_wp2
 exact bodyPost_ret (v:=.agg #[.int .i64 0,.int .i64 0]) (by simp [results,Tryz.results104,go_sem]) rfl ⟨rfl,rfl⟩
theorem truth_any (b : Bool) (w : World) :
  Calls Tryz.prog 108 #[.bool b] w fun e w' => e = .returned (.agg #[.int .i64 2,.int .i64 (if b then 1 else 0)]) ∧ w' = w.alloc (.cells #[.int .i64 2,.int .i64 (if b then 1 else 0)] 89):=by
 cases b
 ·go_enter Tryz.func108,Tryz.ntmps108
  go_wp2
  exact bodyPost_ret (v:=.agg #[.int .i64 2,.int .i64 0]) (by simp [results,Tryz.results108,go_sem]) rfl ⟨rfl,rfl⟩
 ·go_enter Tryz.func108,Tryz.ntmps108
  go_wp2
  exact bodyPost_ret (v:=.agg #[.int .i64 2,.int .i64 1]) (by simp [results,Tryz.results108,go_sem]) rfl ⟨rfl,rfl⟩
theorem null_b (w : World) :
  Calls Tryz.prog 104 #[] w fun e w' => e = .returned (.agg #[.int .i64 0,.int .i64 0]) ∧ Below w.heap.size w w' :=
 (null_any w).mono fun e w' ⟨h1,h2⟩ => ⟨h1,by rw [h2];exact (Below.refl _ _).alloc (Nat.le_refl _) _⟩
def numK (n : Int) : Int:=if -1000000000 ≤ n ∧ n ≤ 1000000000 then 1 else 0
def numN (n : Int) : Int:=if -1000000000 ≤ n ∧ n ≤ 1000000000 then n else 0
theorem number_any (n : Int) (w : World) :
  Calls Tryz.prog 109 #[.int .i64 n] w fun e w' => e = .returned (.agg #[.int .i64 (numK n),.int .i64 (numN n)]) ∧ Below w.heap.size w w':=by
 by_cases h1 : n < -1000000000
 ·have e1 : numK n = 0:=by unfold numK;rw [if_neg (by omega)]
  have e2 : numN n = 0:=by unfold numN;rw [if_neg (by omega)]
  rw [e1,e2];clear e1 e2
  go_enter Tryz.func109,Tryz.ntmps109
  go_wp2_with (go_at_call 104;refine (null_any _).mono ?_;rintro e w' ⟨rfl,rfl⟩)
  refine bodyPost_ret (v:=.agg #[.int .i64 0,.int .i64 0]) (by simp [results,Tryz.results109,go_sem]) rfl ⟨rfl,?_⟩
  repeat (first | exact Below.refl _ _ | refine Below.alloc ?_ (by simp) _ | refine Below.setCell ?_ (by simp) _)
 ·by_cases h2 : 1000000000 < n
  ·have e1 : numK n = 0:=by unfold numK;rw [if_neg (by omega)]
   have e2 : numN n = 0:=by unfold numN;rw [if_neg (by omega)]
   rw [e1,e2];clear e1 e2
   go_enter Tryz.func109,Tryz.ntmps109
   go_wp2_with (go_at_call 104;refine (null_any _).mono ?_;rintro e w' ⟨rfl,rfl⟩)
   refine bodyPost_ret (v:=.agg #[.int .i64 0,.int .i64 0]) (by simp [results,Tryz.results109,go_sem]) rfl ⟨rfl,?_⟩
   repeat (first | exact Below.refl _ _ | refine Below.alloc ?_ (by simp) _ | refine Below.setCell ?_ (by simp) _)
  ·have e1 : numK n = 1:=by unfold numK;rw [if_pos (by omega)]
   have e2 : numN n = n:=by unfold numN;rw [if_pos (by omega)]
   rw [e1,e2];clear e1 e2
   go_enter Tryz.func109,Tryz.ntmps109
   go_wp2
   refine bodyPost_ret (v:=.agg #[.int .i64 1,.int .i64 n]) (by simp [results,Tryz.results109,go_sem]) rfl ⟨rfl,?_⟩
   repeat (first | exact Below.refl _ _ | refine Below.alloc ?_ (by simp) _ | refine Below.setCell ?_ (by simp) _)
def vok (k n : Int) : Bool:=decide ((k = 0 ∧ n = 0) ∨ (k = 1 ∧ -1000000000 ≤ n ∧ n ≤ 1000000000) ∨ (k = 2 ∧ (n = 0 ∨ n = 1)))
theorem check_yes (k n : Int) (w : World) (h : vok k n = true) :
  Calls Tryz.prog 105 #[.agg #[.int .i64 k,.int .i64 n]] w fun e w' => e = .returned .nilIface ∧ Below w.heap.size w w':=by
 have h':=of_decide_eq_true h
 clear h
 rcases h' with ⟨rfl,rfl⟩ | ⟨rfl,h1,h2⟩ | ⟨rfl,rfl | rfl⟩
 all_goals
  go_enter Tryz.func105,Tryz.ntmps105
  go_wp2
  go_ret
  exact ⟨rfl,(Below.refl _ _).alloc (Nat.le_refl _) _⟩
theorem check_no (k n : Int) (w : World) (h : vok k n = false) :
  Calls Tryz.prog 105 #[.agg #[.int .i64 k,.int .i64 n]] w fun e w' => e = .returned (.iface 48 (.int .i64 3)) ∧ Below w.heap.size w w':=by
 have h':=of_decide_eq_false h
 clear h
 by_cases k0 : k = 0
 ·subst k0
  have hn : (n == 0) = false:=by simp;omega
  clear h'
  go_enter Tryz.func105,Tryz.ntmps105
  go_wp2
  go_ret
  exact ⟨rfl,(Below.refl _ _).alloc (Nat.le_refl _) _⟩
 ·by_cases k1 : k = 1
  ·subst k1
   by_cases l : -1000000000 ≤ n
   ·have l2 : decide (n ≤ 1000000000) = false:=by simp;omega
    clear h' k0
    go_enter Tryz.func105,Tryz.ntmps105
    go_wp2
    go_ret
    exact ⟨rfl,(Below.refl _ _).alloc (Nat.le_refl _) _⟩
   ·clear h' k0
    go_enter Tryz.func105,Tryz.ntmps105
    go_wp2
    go_ret
    exact ⟨rfl,(Below.refl _ _).alloc (Nat.le_refl _) _⟩
  ·by_cases k2 : k = 2
   ·subst k2
    have a1 : (n == 0) = false:=by simp;omega
    have a2 : (n == 1) = false:=by simp;omega
    clear h' k0 k1
    go_enter Tryz.func105,Tryz.ntmps105
    go_wp2
    go_ret
    exact ⟨rfl,(Below.refl _ _).alloc (Nat.le_refl _) _⟩
   ·have a0 : (k == 0) = false:=by simp;omega
    have a1 : (k == 1) = false:=by simp;omega
    have a2 : (k == 2) = false:=by simp;omega
    clear h' k0 k1 k2
    go_enter Tryz.func105,Tryz.ntmps105
    go_wp2
    go_ret
    exact ⟨rfl,(Below.refl _ _).alloc (Nat.le_refl _) _⟩
theorem eql_value (w : World) (a b c d : Int) : (binOp .eql 89 (.agg #[.int .i64 a,.int .i64 b]) (.agg #[.int .i64 c,.int .i64 d])).run Tryz.prog w = .ok (.bool (a == c && b == d)) w:=by
 by_cases h : a = c
 ·subst h
  by_cases h2 : b = d
  ·subst h2;go_simp
  ·have : (b == d) = false:=by simp [h2]
   go_simp
 ·have : (a == c) = false:=by simp [h]
  go_simp
theorem neq_value (w : World) (a b c d : Int) : (binOp .neq 89 (.agg #[.int .i64 a,.int .i64 b]) (.agg #[.int .i64 c,.int .i64 d])).run Tryz.prog w = .ok (.bool (!(a == c && b == d))) w:=by
 by_cases h : a = c
 ·subst h
  by_cases h2 : b = d
  ·subst h2;go_simp
  ·have : (b == d) = false:=by simp [h2]
   go_simp
 ·have : (a == c) = false:=by simp [h]
  go_simp
end Go.Proofs.YteaanpdckkmjoaaGreatDoor
namespace Go.Proofs.YteaanpdckkmjoaaGreatDoor
open Go.ChangeShapes Go.WideShapes Go.ChangeAt Go.RowKit
attribute [local go_sem ↓] eql_value neq_value
theorem w3_below (w : World) (a b c : Obj) : Below w.heap.size w (((w.alloc a).alloc b).alloc c):=((((Below.refl _ _).alloc (Nat.le_refl _) _).alloc (by simp) _).alloc (by simp;omega) _)
theorem truth_bel (b : Bool) (w : World) :
  Calls Tryz.prog 108 #[.bool b] w fun e w' => e = .returned (.agg #[.int .i64 2,.int .i64 (if b then 1 else 0)]) ∧ Below w.heap.size w w' :=
 (truth_any b w).mono fun e w' ⟨h1,h2⟩ => ⟨h1,by rw [h2];exact (Below.refl _ _).alloc (Nat.le_refl _) _⟩
end Go.Proofs.YteaanpdckkmjoaaGreatDoor
namespace Go.Proofs.YteaanpdckkmjoaaGreatDoor
open Go.ChangeShapes Go.WideShapes Go.ChangeAt Go.RowKit
def numV (n : Int) : Int × Int:=(numK n,numN n)
def negV (k n : Int) : Int × Int:=if k = 1 then numV (-n) else (0,0)
theorem neg_any (k n : Int) (w : World) (h1 : -1000000000 ≤ n) (h2 : n ≤ 1000000000) :
  Calls Tryz.prog 92 #[.agg #[.int .i64 k,.int .i64 n]] w fun e w' => e = .returned (.agg #[.int .i64 (negV k n).1,.int .i64 (negV k n).2]) ∧ Below w.heap.size w w':=by
 by_cases h : k = 1
 ·have e1 : negV k n = numV (-n):=by unfold negV;rw [if_pos h]
  rw [e1];clear e1
  subst h
  unfold numV
  dsimp only
  go_enter Tryz.func92,Tryz.ntmps92
  go_wp2_with fail
  refine (number_any _ _).mono ?_
  rintro e w1 ⟨rfl,hb1⟩
  have HB : Hid _:=hb1
  obtain ⟨hc,hf⟩:=bcell hb1
  have hz:=hb1.size
  clear hb1
  simp only [World.size_alloc] at hc hf hz
  go_wp2
  refine bodyPost_ret (v:=.agg #[.int .i64 (numK (-n)),.int .i64 (numN (-n))]) (by simp [results,Tryz.results92,go_sem,hc,hf]) rfl ⟨rfl,?_⟩
  exact ((((((Below.refl _ _).alloc (Nat.le_refl _) _).alloc (by simp) _).trans (HB.out.mono (by simp;omega)))).setCell (by simp) _).setCell (by simp) _
 ·have e1 : negV k n = (0,0):=by unfold negV;rw [if_neg h]
  rw [e1];clear e1
  have hk : (k != 1) = true:=by simp [h]
  clear h
  go_enter Tryz.func92,Tryz.ntmps92
  go_wp2_with (go_at_call 104;refine (null_any _).mono ?_;rintro e w' ⟨rfl,rfl⟩)
  refine bodyPost_ret (v:=.agg #[.int .i64 0,.int .i64 0]) (by simp [results,Tryz.results92,go_sem]) rfl ⟨rfl,?_⟩
  repeat (first | exact Below.refl _ _ | assumption | refine Below.drew ?_ | refine Below.alloc ?_ (by simp <;> omega) _ | refine Below.setCell ?_ (by simp <;> omega) _)
theorem arity_any (op : Int) (w : World) :
  Calls Tryz.prog 103 #[.int .i64 op] w fun e w' => e = .returned (.int .i64 (ar op)) ∧ w' = w:=by
 by_cases h : 1 ≤ op ∧ op ≤ 12
 ·rcases (by omega : op = 1 ∨ op = 2 ∨ op = 3 ∨ op = 4 ∨ op = 5 ∨ op = 6 ∨ op = 7 ∨ op = 8 ∨ op = 9 ∨ op = 10 ∨ op = 11 ∨ op = 12) with rfl | rfl | rfl | rfl | rfl | rfl | rfl | rfl | rfl | rfl | rfl | rfl
  all_goals
   clear h
   go_enter Tryz.func103,Tryz.ntmps103
   go_wp2
   go_ret
   exact ⟨rfl,rfl⟩
 ·have e : ar op = -1:=by unfold ar;rw [if_neg (by omega),if_neg (by omega),if_neg (by omega)]
  rw [e]
  have h1 : (op == 1) = false:=by simp;omega
  have h2 : (op == 2) = false:=by simp;omega
  have h3 : (op == 3) = false:=by simp;omega
  have h4 : (op == 4) = false:=by simp;omega
  have h5 : (op == 5) = false:=by simp;omega
  have h6 : (op == 6) = false:=by simp;omega
  have h7 : (op == 7) = false:=by simp;omega
  have h8 : (op == 8) = false:=by simp;omega
  have h9 : (op == 9) = false:=by simp;omega
  have h10 : (op == 10) = false:=by simp;omega
  have h11 : (op == 11) = false:=by simp;omega
  have h12 : (op == 12) = false:=by simp;omega
  clear h e
  go_enter Tryz.func103,Tryz.ntmps103
  go_wp2
  go_ret
  exact ⟨rfl,rfl⟩
def aggN (n : Nd) : Value:=.agg #[.int .i64 n.op,.int .i64 n.x,.int .i64 n.y,.int .i64 n.n,.int .i64 n.k,.int .i64 n.v]
def cellsN (n : Nd) : List Value:=[.int .i64 n.op,.int .i64 n.x,.int .i64 n.y,.int .i64 n.n,.int .i64 n.k,.int .i64 n.v]
def partsN (n : Nd) : List Int:=if ar n.op = 1 then [n.x] else if ar n.op = 2 then [n.y,n.x] else []
theorem lastFirst_any (n : Nd) (w : World) :
  Calls Tryz.prog 106 #[aggN n] w fun e w' => ∃ v,e = .returned v ∧ RowG w' v 1 (partsN n).length ((partsN n).map (Value.int .i64)) ∧ Below w.heap.size w w':=by
 obtain ⟨op,x,y,nn,k,v⟩:=n
 unfold aggN partsN
 simp only
 by_cases h1 : ar op = 1
 ·have b1 : (ar op == 1) = true:=by simp [h1]
  rw [if_pos h1]
  clear h1
  go_enter Tryz.func106,Tryz.ntmps106
  go_wp2_with (go_at_call 103;refine (arity_any _ _).mono ?_;rintro e w' ⟨rfl,rfl⟩)
  go_ret
  exact ⟨_,rfl,rowG_lit _ _ [.int .i64 x] _ 1 (by simp) rfl (by decide),((Below.refl _ _).alloc (Nat.le_refl _) _).alloc (by simp) _⟩
 ·have b1 : (ar op == 1) = false:=by simp [h1]
  rw [if_neg h1]
  clear h1
  by_cases h2 : ar op = 2
  ·have b2 : (ar op == 2) = true:=by simp [h2]
   rw [if_pos h2]
   clear h2
   go_enter Tryz.func106,Tryz.ntmps106
   go_wp2_with (go_at_call 103;refine (arity_any _ _).mono ?_;rintro e w' ⟨rfl,rfl⟩)
   go_ret
   exact ⟨_,rfl,rowG_lit _ _ [.int .i64 y,.int .i64 x] _ 2 (by simp) rfl (by decide),((Below.refl _ _).alloc (Nat.le_refl _) _).alloc (by simp) _⟩
  ·have b2 : (ar op == 2) = false:=by simp [h2]
   rw [if_neg h2]
   clear h2
   go_enter Tryz.func106,Tryz.ntmps106
   go_wp2_with (go_at_call 103;refine (arity_any _ _).mono ?_;rintro e w' ⟨rfl,rfl⟩)
   go_ret
   exact ⟨_,rfl,⟨rfl,.inl ⟨⟨_,_,rfl⟩,rfl⟩⟩,(Below.refl _ _).alloc (Nat.le_refl _) _⟩
end Go.Proofs.YteaanpdckkmjoaaGreatDoor
