/- Own texts in one. Conditions: as named in each. -/
import Derived.Test.YtcgjflamgnjhcaaGreatDoorVals4J
import Derived.Test.YtcgjflamgnjhcaaGreatDoorLex2J
import Derived.ProofKit
import Derived.Test.YtcgjflamgnjhcaaGreatDoorPane8
import Derived.Test.YtcgjflamgnjhcaaGreatDoorExpr7J
import Derived.Test.YtcgjflamgnjhcaaGreatDoorSrc1J
set_option linter.unusedVariables false
set_option linter.unusedSimpArgs false
set_option maxRecDepth 100000
set_option maxHeartbeats 8000000
namespace Go.Proofs.YtcgjflamgnjhcaaGreatDoor
abbrev Ws:=List ByteArray
abbrev PR:=Except Int (List Nd×Ws)
def tk (word:ByteArray):Ws→Option Ws
 | []=>none
 | w :: r=>if w=word then some r else none
structure Sg where
 rank:Int
 op:Int
 turned:Bool
 denied:Bool
 deriving DecidableEq
def wSelect:ByteArray:=⟨#[115,101,108,101,99,116]⟩
def wFrom:ByteArray:=⟨#[102,114,111,109]⟩
def wEvents:ByteArray:=⟨#[101,118,101,110,116,115]⟩
def wWhere:ByteArray:=⟨#[119,104,101,114,101]⟩
def wGroup:ByteArray:=⟨#[103,114,111,117,112]⟩
def wBy:ByteArray:=⟨#[98,121]⟩
def wWindow:ByteArray:=⟨#[119,105,110,100,111,119]⟩
def wSlide:ByteArray:=⟨#[115,108,105,100,101]⟩
def wDelay:ByteArray:=⟨#[100,101,108,97,121]⟩
def wLate:ByteArray:=⟨#[108,97,116,101]⟩
def wNot:ByteArray:=⟨#[110,111,116]⟩
def wIs:ByteArray:=⟨#[105,115]⟩
def wNull:ByteArray:=⟨#[110,117,108,108]⟩
def wTrue:ByteArray:=⟨#[116,114,117,101]⟩
def wFalse:ByteArray:=⟨#[102,97,108,115,101]⟩
def wOr:ByteArray:=⟨#[111,114]⟩
def wAnd:ByteArray:=⟨#[97,110,100]⟩
def wOpen:ByteArray:=⟨#[40]⟩
def wClose:ByteArray:=⟨#[41]⟩
def wComma:ByteArray:=⟨#[44]⟩
def wStar:ByteArray:=⟨#[42]⟩
def wPlus:ByteArray:=⟨#[43]⟩
def wMinus:ByteArray:=⟨#[45]⟩
def wLt:ByteArray:=⟨#[60]⟩
def wGt:ByteArray:=⟨#[62]⟩
def wEq:ByteArray:=⟨#[61]⟩
def wLe:ByteArray:=⟨#[60,61]⟩
def wGe:ByteArray:=⟨#[62,61]⟩
def wNe:ByteArray:=⟨#[60,62]⟩
def wCount:ByteArray:=⟨#[99,111,117,110,116]⟩
def wSum:ByteArray:=⟨#[115,117,109]⟩
def wMin:ByteArray:=⟨#[109,105,110]⟩
def wMax:ByteArray:=⟨#[109,97,120]⟩
def wT:ByteArray:=⟨#[116]⟩
def wK:ByteArray:=⟨#[107]⟩
def wA:ByteArray:=⟨#[97]⟩
def wB:ByteArray:=⟨#[98]⟩
def sgL:List (ByteArray×Sg):=[(wOr,⟨0,10,false,false⟩),(wAnd,⟨1,9,false,false⟩),(wLt,⟨2,11,false,false⟩),(wGt,⟨2,11,true,false⟩),(wLe,⟨2,11,true,true⟩),(wGe,⟨2,11,false,true⟩),(wEq,⟨2,12,false,false⟩),(wNe,⟨2,12,false,true⟩),(wPlus,⟨3,6,false,false⟩),(wMinus,⟨3,7,false,false⟩),(wStar,⟨4,8,false,false⟩)]
def sgIn:List (ByteArray×Sg)→ByteArray→Option Sg
 | [],_=>none
 | p :: l,w=>if w=p.1 then some p.2 else sgIn l w
def qy (w:ByteArray):Option Sg:=sgIn sgL w
def tkS (rank:Int):Ws→Option (Sg×Ws)
 | []=>none
 | w :: r=>match qy w with
  | none=>none
  | some s=>if s.rank=rank then some (s,r) else none
def jn1 (op:Int) (x:List Nd):Except Int (List Nd):=if 40 < x.length+1 then .error 2 else .ok (fw op x)
def jn2 (op:Int) (x y:List Nd):Except Int (List Nd):=if 40 < x.length+y.length+1 then .error 2 else .ok (gJ op x y)
def jnD (dn:Bool) (r:Except Int (List Nd)):Except Int (List Nd):=match r with
 | .error c=>.error c
 | .ok l=>if dn then jn1 4 l else .ok l
def jnS (s:Sg) (x y:List Nd):Except Int (List Nd):=jnD s.denied (if s.turned then jn2 s.op y x else jn2 s.op x y)
def wth (ws:Ws) (r:Except Int (List Nd)):PR:=match r with
 | .error c=>.error c
 | .ok l=>.ok (l,ws)
def pC (most:Nat):Nat→List UInt8→Option Nat
 | acc,[]=>some acc
 | acc,c :: r=>if c.toNat < 48∨57 < c.toNat then none else if most < 10 * acc+(c.toNat - 48) then none else pC most (10 * acc+(c.toNat - 48)) r
def nO (most:Nat) (w:ByteArray):Option Nat:=if w.data.toList=[] then none else pC most 0 w.data.toList
def qP (w:ByteArray):Option Int:=if w=wT then some 0 else if w=wK then some 1 else if w=wA then some 2 else if w=wB then some 3 else none
def fS (w:ByteArray):Option Nd :=
 match qP w with
 | some i=>some ⟨2,0,0,i,0,0⟩
 | none=>if w=wNull then some ⟨1,0,0,0,0,0⟩ else if w=wFalse then some ⟨1,0,0,0,2,0⟩ else if w=wTrue then some ⟨1,0,0,0,2,1⟩ else
  match nO 1000000000 w with
  | some n=>some ⟨1,0,0,0,1,n⟩
  | none=>none
def fZ (inner:Ws→PR) (rank:Int):Nat→List Nd→Ws→PR
 | 0,_,_=>.error 99
 | k+1,x,ws=>match tkS rank ws with
  | none=>.ok (x,ws)
  | some (s,ws1)=>match inner ws1 with
   | .error c=>.error c
   | .ok (y,ws2)=>match jnS s x y with
    | .error c=>.error c
    | .ok z=>fZ inner rank k z ws2
def rowP (inner:Ws→PR) (rank:Int) (k:Nat) (ws:Ws):PR:=match inner ws with
 | .error c=>.error c
 | .ok (x,ws1)=>fZ inner rank k x ws1
def deepP (inner:Ws→Nat→PR) (ws:Ws) (d:Nat):PR:=if d=12 then .error 2 else inner ws (d+1)
def aheadP (op:Int) (r:PR):PR:=match r with
 | .error c=>.error c
 | .ok (x,ws)=>wth ws (jn1 op x)
def fP (x:List Nd) (dn:Bool) (ws:Ws):PR:=match tk wNull ws with
 | none=>.error 4
 | some ws1=>wth ws1 (jnD dn (jn1 5 x))
def isP (x:List Nd) (ws:Ws):PR:=match tk wNot ws with
 | some ws1=>fP x true ws1
 | none=>fP x false ws
def mb (inner:Ws→PR) (x:List Nd) (ws:Ws):PR:=match tk wIs ws with
 | some ws1=>isP x ws1
 | none=>match tkS 2 ws with
  | none=>.ok (x,ws)
  | some (s,ws1)=>match inner ws1 with
   | .error c=>.error c
   | .ok (y,ws2)=>wth ws2 (jnS s x y)
def eu (r:PR):PR:=match r with
 | .error c=>.error c
 | .ok (x,ws)=>match tk wClose ws with
  | none=>.error 4
  | some ws1=>.ok (x,ws1)
def leafP:Ws→PR
 | []=>.error 4
 | w :: r=>match fS w with
  | none=>.error 4
  | some n=>.ok ([n],r)
def lev:Nat→Nat→Ws→Nat→PR
 | 0,_,_,_=>.error 99
 | f+1,0,ws,d=>rowP (fun ws=>lev f 1 ws d) 0 f ws
 | f+1,1,ws,d=>rowP (fun ws=>lev f 2 ws d) 1 f ws
 | f+1,2,ws,d=>match tk wNot ws with
  | some ws1=>aheadP 4 (deepP (fun ws d=>lev f 2 ws d) ws1 d)
  | none=>lev f 3 ws d
 | f+1,3,ws,d=>match lev f 4 ws d with
  | .error c=>.error c
  | .ok (x,ws1)=>mb (fun ws=>lev f 4 ws d) x ws1
 | f+1,4,ws,d=>rowP (fun ws=>lev f 5 ws d) 3 f ws
 | f+1,5,ws,d=>rowP (fun ws=>lev f 6 ws d) 4 f ws
 | f+1,6,ws,d=>match tk wMinus ws with
  | some ws1=>aheadP 3 (deepP (fun ws d=>lev f 6 ws d) ws1 d)
  | none=>lev f 7 ws d
 | f+1,_+7,ws,d=>match tk wOpen ws with
  | some ws1=>eu (deepP (fun ws d=>lev f 0 ws d) ws1 d)
  | none=>leafP ws
def FU:Nat:=1000
structure AgQ where
 kind:Int
 of:List Nd
structure Qy where
 aggs:List AgQ
 wh:List Nd
 bys:List Nd
 size:Int
 slide:Int
 delay:Int
 late:Int
def m5 (ws:Ws):Option (Int×Ws):=match tk wCount ws with
 | some r=>some (2,r)
 | none=>match tk wSum ws with
  | some r=>some (3,r)
  | none=>match tk wMin ws with
   | some r=>some (4,r)
   | none=>match tk wMax ws with
    | some r=>some (5,r)
    | none=>none
def iR {α:Type} (word:ByteArray) (ws:Ws) (k:Ws→Except Int α):Except Int α:=match tk word ws with
 | none=>.error 4
 | some r=>k r
def qI (k:Int) (ws:Ws):Option Ws:=if k=2 then tk wStar ws else none
def nK {α:Type} (ws:Ws) (k:List Nd→Ws→Except Int α):Except Int α:=match lev FU 0 ws 0 with
 | .error c=>.error c
 | .ok (l,r)=>k l r
def nP (ws:Ws):Except Int (AgQ×Ws):=match m5 ws with
 | none=>.error 4
 | some (k,ws1)=>iR wOpen ws1 fun ws2=>match qI k ws2 with
  | some ws3=>iR wClose ws3 fun ws4=>.ok (⟨1,[]⟩,ws4)
  | none=>nK ws2 fun l ws3=>iR wClose ws3 fun ws4=>.ok (⟨k,l⟩,ws4)
def aggsP:Nat→List AgQ→Ws→Except Int (List AgQ×Ws)
 | 0,_,_=>.error 99
 | k+1,l,ws=>match tk wComma ws with
  | none=>.ok (l,ws)
  | some ws1=>match nP ws1 with
   | .error c=>.error c
   | .ok (a,ws2)=>aggsP k (l++[a]) ws2
def oB {α:Type} (ws:Ws) (k:Int→Ws→Except Int α):Except Int α:=match ws with
 | []=>.error 4
 | w :: r=>match nO 1000 w with
  | none=>.error 4
  | some n=>k n r
def qz {α:Type} (word:ByteArray) (dflt:Int) (ws:Ws) (k:Int→Ws→Except Int α):Except Int α:=match tk word ws with
 | none=>k dflt ws
 | some ws1=>oB ws1 k
def mI {α:Type} (ws:Ws) (k:List Nd→Ws→Except Int α):Except Int α:=match tk wWhere ws with
 | none=>k [] ws
 | some ws1=>nK ws1 k
def nl {α:Type} (ws:Ws) (k:List Nd→Ws→Except Int α):Except Int α:=match tk wGroup ws with
 | none=>k [] ws
 | some ws1=>iR wBy ws1 fun ws2=>nK ws2 k
def qU (q:Qy) (ws:Ws):Except Int Qy:=if ws=[] then .ok q else .error 4
def oK (aggs:List AgQ) (ws:Ws):Except Int Qy :=
 iR wFrom ws fun ws=>iR wEvents ws fun ws=>mI ws fun wh ws=>nl ws fun bys ws=>iR wWindow ws fun ws=>oB ws fun size ws =>
  qz wSlide size ws fun slide ws=>qz wDelay 0 ws fun delay ws=>qz wLate 0 ws fun late ws=>qU ⟨aggs,wh,bys,size,slide,delay,late⟩ ws
def jN (ws:Ws):Except Int Qy:=iR wSelect ws fun ws=>match nP ws with
 | .error c=>.error c
 | .ok (a,ws1)=>match aggsP FU [a] ws1 with
  | .error c=>.error c
  | .ok (l,ws2)=>oK l ws2
def cP (l:List Nd):V2:=if kt l≠0 then (0,kt l) else tyE l
def chkA (a:AgQ):Int:=if a.kind < 1∨5 < a.kind then 3 else if a.kind=1 then (if 0 < a.of.length then 3 else 0) else if (cP a.of).2≠0 then (cP a.of).2 else if (cP a.of).1=2∧a.kind≠2 then 3 else 0
def chkAs:List AgQ→Int
 | []=>0
 | a :: l=>if chkA a≠0 then chkA a else chkAs l
def chkW (l:List Nd):Int:=if l.length=0 then 0 else if (cP l).2≠0 then (cP l).2 else if (cP l).1=1 then 3 else 0
def chkB (l:List Nd):Int:=if l.length=0 then 0 else (cP l).2
def p7 (q:Qy):Int:=if q.size < 1∨1000 < q.size∨q.slide < 1∨1000 < q.slide∨q.delay < 0∨1000 < q.delay∨q.late < 0∨1000 < q.late then 1 else if q.size < q.slide∨4 * q.slide < q.size then 3 else 0
def chkQ (q:Qy):Int:=if q.aggs.length=0∨4 < q.aggs.length then 2 else if chkAs q.aggs≠0 then chkAs q.aggs else if chkW q.wh≠0 then chkW q.wh else if chkB q.bys≠0 then chkB q.bys else p7 q
def eh (s:ByteArray):Except Int Qy:=if (lexT s).1≠0 then .error (lexT s).1 else match jN (lexT s).2 with
 | .error c=>.error c
 | .ok q=>if chkQ q≠0 then .error (chkQ q) else .ok q
theorem cY {word:ByteArray} {ws r:Ws} (h:tk word ws=some r):r.length+1=ws.length:=by
 cases ws with
 | nil=>simp [tk] at h
 | cons w ws =>
  simp only [tk] at h
  by_cases e:w=word
  ·rw [if_pos e] at h;cases h
   rfl
  ·rw [if_neg e] at h;cases h
theorem fB {rank:Int} {ws r:Ws} {s:Sg} (h:tkS rank ws=some (s,r)):r.length+1=ws.length:=by
 cases ws with
 | nil=>simp [tkS] at h
 | cons w ws =>
  simp only [tkS] at h;cases hs:qy w with
  | none=>rw [hs] at h;cases h
  | some q =>
   rw [hs] at h
   simp only at h
   by_cases e:q.rank=rank
   ·rw [if_pos e] at h;cases h
    rfl
   ·rw [if_neg e] at h;cases h
def iO (ws:Ws) (r:PR):Prop:=r≠.error 99∧∀ l ws',r=.ok (l,ws')→ws'.length < ws.length
theorem oR (op:Int) (x:List Nd):jn1 op x≠.error 99:=by
 unfold jn1
 split
 ·intro h;injection h with h;exact absurd h (by decide)
 ·intro h;cases h
theorem jn2_99 (op:Int) (x y:List Nd):jn2 op x y≠.error 99:=by
 unfold jn2
 split
 ·intro h;injection h with h;exact absurd h (by decide)
 ·intro h;cases h
theorem qg (dn:Bool) (r:Except Int (List Nd)) (h:r≠.error 99):jnD dn r≠.error 99:=by
 unfold jnD;cases r with
 | error c=>exact fun e=>h (by injection e with e;rw [e])
 | ok l =>
  simp only
  split
  ·exact oR _ _
  ·intro h;cases h
theorem pS (s:Sg) (x y:List Nd):jnS s x y≠.error 99:=by
 unfold jnS
 apply qg
 split <;> exact jn2_99 _ _ _
theorem kF {ws ws0:Ws} {r:Except Int (List Nd)} (h:r≠.error 99) (hl:ws.length < ws0.length):iO ws0 (wth ws r):=by
 cases r with
 | error c=>exact ⟨fun e=>h (by injection e with e;rw [e]),fun l ws' e=>by cases e⟩
 | ok l=>exact ⟨(fun e=>by cases e),fun l' ws' e=>by cases e;exact hl⟩
theorem gE {ws:Ws} {c:Int} (h:c≠99):iO ws (.error c):=⟨fun e=>h (by injection e),fun l ws' e=>by cases e⟩
theorem mh {ws ws0:Ws} {r:PR} (h:iO ws r) (hl:ws.length≤ws0.length):iO ws0 r:=⟨h.1,fun l ws' e=>by have:=h.2 l ws' e;omega⟩
theorem lY (inner:Ws→PR) (rank:Int) (ws0:Ws) (hin:∀ ws:Ws,ws.length < ws0.length→iO ws (inner ws)):∀ (k:Nat) (x:List Nd) (ws:Ws),ws.length < k→ws.length < ws0.length→iO ws0 (fZ inner rank k x ws)
 | 0,x,ws,h,_=>by omega
 | k+1,x,ws,h,h0=>by
  unfold fZ;cases hs:tkS rank ws with
  | none=>exact ⟨(fun e=>by cases e),fun l ws' e=>by cases e;exact h0⟩
  | some p =>
   obtain ⟨s,ws1⟩:=p;have h1:=fB hs;have hf:=hin ws1 (by omega)
   simp only
   cases hi:inner ws1 with
   | error c=>rw [hi] at hf;exact ⟨fun e=>hf.1 (by injection e with e;rw [e]),fun l ws' e=>by cases e⟩
   | ok q =>
    obtain ⟨y,ws2⟩:=q;rw [hi] at hf;have h2:=hf.2 y ws2 rfl
    simp only
    have hj:=pS s x y;cases hz:jnS s x y with
    | error c=>rw [hz] at hj;exact ⟨fun e=>hj (by injection e with e;rw [e]),fun l ws' e=>by cases e⟩
    | ok z=>exact lY inner rank ws0 hin k z ws2 (by omega) (by omega)
theorem gB (inner:Ws→PR) (rank:Int) (k:Nat) (ws:Ws) (hin:∀ ws':Ws,ws'.length≤ws.length→iO ws' (inner ws')) (hk:ws.length≤k):iO ws (rowP inner rank k ws):=by
 have hf:=hin ws (Nat.le_refl _);unfold rowP;cases hi:inner ws with
 | error c=>rw [hi] at hf;exact ⟨fun e=>hf.1 (by injection e with e;rw [e]),fun l ws' e=>by cases e⟩
 | ok p =>
  obtain ⟨x,ws1⟩:=p;rw [hi] at hf;have h1:=hf.2 x ws1 rfl;exact lY inner rank ws (fun ws' h=>hin ws' (by omega)) k x ws1 (by omega) h1
theorem jv (inner:Ws→Nat→PR) (ws:Ws) (d:Nat) (h:∀ d',iO ws (inner ws d')):iO ws (deepP inner ws d):=by
 unfold deepP
 split
 ·exact gE (by decide)
 ·exact h _
theorem jU (op:Int) (ws:Ws) (r:PR) (h:iO ws r):iO ws (aheadP op r):=by
 unfold aheadP;cases r with
 | error c=>exact ⟨fun e=>h.1 (by injection e with e;rw [e]),fun l ws' e=>by cases e⟩
 | ok p =>
  obtain ⟨x,ws1⟩:=p;exact kF (oR _ _) (h.2 x ws1 rfl)
theorem lH (x:List Nd) (dn:Bool) (ws ws0:Ws) (h:ws.length < ws0.length):iO ws0 (fP x dn ws):=by
 unfold fP;cases ht:tk wNull ws with
 | none=>exact gE (by decide)
 | some ws1=>exact kF (qg _ _ (oR _ _)) (by have:=cY ht;omega)
theorem cmp_fine (inner:Ws→PR) (x:List Nd) (ws ws0:Ws) (hl:ws.length < ws0.length) (hin:∀ ws':Ws,ws'.length < ws0.length→iO ws' (inner ws')):iO ws0 (mb inner x ws):=by
 unfold mb;cases ht:tk wIs ws with
 | some ws1 =>
  have:=cY ht
  simp only
  unfold isP;cases hn:tk wNot ws1 with
  | some ws2=>have:=cY hn;exact lH _ _ _ _ (by omega)
  | none=>exact lH _ _ _ _ (by omega)
 | none =>
  simp only
  cases hs:tkS 2 ws with
  | none=>exact ⟨(fun e=>by cases e),fun l ws' e=>by cases e;exact hl⟩
  | some p =>
   obtain ⟨s,ws1⟩:=p;have h1:=fB hs;have hf:=hin ws1 (by omega)
   simp only
   cases hi:inner ws1 with
   | error c=>rw [hi] at hf;exact ⟨fun e=>hf.1 (by injection e with e;rw [e]),fun l ws' e=>by cases e⟩
   | ok q =>
    obtain ⟨y,ws2⟩:=q;rw [hi] at hf;have h2:=hf.2 y ws2 rfl;exact kF (pS _ _ _) (by omega)
theorem close_fine (ws:Ws) (r:PR) (h:iO ws r):iO ws (eu r):=by
 unfold eu;cases r with
 | error c=>exact ⟨fun e=>h.1 (by injection e with e;rw [e]),fun l ws' e=>by cases e⟩
 | ok p =>
  obtain ⟨x,ws1⟩:=p;have h1:=h.2 x ws1 rfl
  simp only
  cases ht:tk wClose ws1 with
  | none=>exact gE (by decide)
  | some ws2=>exact ⟨(fun e=>by cases e),fun l ws' e=>by cases e;have:=cY ht;omega⟩
theorem leaf_fine (ws:Ws):iO ws (leafP ws):=by
 cases ws with
 | nil=>exact gE (by decide)
 | cons w r =>
  simp only [leafP];cases fS w with
  | none=>exact gE (by decide)
  | some n=>exact ⟨(fun e=>by cases e),fun l ws' e=>by cases e;simp⟩
theorem lev_fine:∀ (f n:Nat) (ws:Ws) (d:Nat),9 * ws.length+(8 - n) < f→n≤7→iO ws (lev f n ws d):=by
 intro f
 induction f with
 | zero=>intro n ws d h;omega
 | succ f ih =>
  intro n ws d h hn
  match n,hn with
  | 0,_=>exact gB _ _ _ _ (fun ws' h'=>ih 1 ws' d (by omega) (by omega)) (by omega)
  | 1,_=>exact gB _ _ _ _ (fun ws' h'=>ih 2 ws' d (by omega) (by omega)) (by omega)
  | 2,_ =>
   show iO ws (match tk wNot ws with
    | some ws1=>aheadP 4 (deepP (fun ws d=>lev f 2 ws d) ws1 d)
    | none=>lev f 3 ws d)
   cases ht:tk wNot ws with
   | some ws1 =>
    have:=cY ht
    exact mh (jU _ _ _ (jv _ _ _ (fun d'=>ih 2 ws1 d' (by omega) (by omega)))) (by omega)
   | none=>exact ih 3 ws d (by omega) (by omega)
  | 3,_ =>
   have hf:=ih 4 ws d (by omega) (by omega)
   show iO ws (match lev f 4 ws d with
    | .error c=>.error c
    | .ok (x,ws1)=>mb (fun ws=>lev f 4 ws d) x ws1)
   cases hi:lev f 4 ws d with
   | error c=>rw [hi] at hf;exact ⟨fun e=>hf.1 (by injection e with e;rw [e]),fun l ws' e=>by cases e⟩
   | ok p =>
    obtain ⟨x,ws1⟩:=p;rw [hi] at hf;exact cmp_fine _ x ws1 ws (hf.2 x ws1 rfl) (fun ws' h'=>ih 4 ws' d (by omega) (by omega))
  | 4,_=>exact gB _ _ _ _ (fun ws' h'=>ih 5 ws' d (by omega) (by omega)) (by omega)
  | 5,_=>exact gB _ _ _ _ (fun ws' h'=>ih 6 ws' d (by omega) (by omega)) (by omega)
  | 6,_ =>
   show iO ws (match tk wMinus ws with
    | some ws1=>aheadP 3 (deepP (fun ws d=>lev f 6 ws d) ws1 d)
    | none=>lev f 7 ws d)
   cases ht:tk wMinus ws with
   | some ws1 =>
    have:=cY ht
    exact mh (jU _ _ _ (jv _ _ _ (fun d'=>ih 6 ws1 d' (by omega) (by omega)))) (by omega)
   | none=>exact ih 7 ws d (by omega) (by omega)
  | 7,_ =>
   show iO ws (match tk wOpen ws with
    | some ws1=>eu (deepP (fun ws d=>lev f 0 ws d) ws1 d)
    | none=>leafP ws)
   cases ht:tk wOpen ws with
   | some ws1 =>
    have:=cY ht
    exact mh (close_fine _ _ (jv _ _ _ (fun d'=>ih 0 ws1 d' (by omega) (by omega)))) (by omega)
   | none=>exact leaf_fine ws
theorem expr_fine (ws:Ws) (d:Nat) (h:ws.length≤100):iO ws (lev FU 0 ws d):=lev_fine FU 0 ws d (by unfold FU;omega) (by decide)
def mT (at_ size slide:Int):Prop:=0≤at_∧at_≤9999∧1≤slide∧slide≤size∧size≤1000∧size≤4 * slide
def mp (at_ size slide:Int):Int:=(size - 1 - at_.tmod slide).tdiv slide
def winF (at_ size slide:Int):Int:=at_ - at_.tmod slide - mp at_ size slide * slide
def winK (at_ size slide:Int):Nat:=(mp at_ size slide).toNat+1
def fX (f slide:Int) (n:Nat):List Int:=(List.range n).map (fun (i:Nat)=>f+(i:Int) * slide)
def nN (at_ size slide:Int):List Int:=fX (winF at_ size slide) slide (winK at_ size slide)
theorem lD (f slide:Int) (n:Nat):(fX f slide n).length=n:=by simp [fX]
theorem steps_succ (f slide:Int) (n:Nat):fX f slide (n+1)=fX f slide n++[f+(n:Int) * slide]:=by
 simp [fX,List.range_succ]
theorem jp {a s:Int} (ha:0≤a) (hs:1≤s):0≤a.tmod s∧a.tmod s < s∧a.tmod s≤a∧∃ c,0≤c∧a - a.tmod s=c * s:=by
 have h1:=Int.tmod_nonneg s ha;have h2:=Int.tmod_lt_of_pos a (by omega:0 < s);have h3:=Int.mul_tdiv_add_tmod a s;have h4:0≤a.tdiv s:=Int.tdiv_nonneg ha (by omega);have h5:0≤s * a.tdiv s:=Int.mul_nonneg (by omega) h4;refine ⟨h1,h2,by omega,a.tdiv s,h4,?_⟩;rw [Int.mul_comm];omega
theorem gK {a z s:Int} (h:mT a z s):0≤mp a z s∧mp a z s≤3∧0≤mp a z s * s∧mp a z s * s≤z - 1 - a.tmod s∧z - 1 - a.tmod s < mp a z s * s+s:=by
 obtain ⟨a0,a1,s1,sz,z1,z4⟩:=h;obtain ⟨m0,m1,m2,-⟩:=jp a0 s1;have h0:0≤z - 1 - a.tmod s:=by omega
 have h1:=Int.tmod_nonneg s h0;have h2:=Int.tmod_lt_of_pos (z - 1 - a.tmod s) (by omega:0 < s);have h3:=Int.mul_tdiv_add_tmod (z - 1 - a.tmod s) s;have h4:0≤(z - 1 - a.tmod s).tdiv s:=Int.tdiv_nonneg h0 (by omega);have h5:0≤s * (z - 1 - a.tmod s).tdiv s:=Int.mul_nonneg (by omega) h4;unfold mp;rw [Int.mul_comm];refine ⟨h4,?_,by omega,by omega,by omega⟩;have h6:s * (z - 1 - a.tmod s).tdiv s < s * 4:=by omega
 have:=Int.lt_of_mul_lt_mul_left h6 (by omega)
 omega
theorem mi {a z s:Int} (h:mT a z s):(winK a z s:Int)=mp a z s+1∧winK a z s≤4∧0 < winK a z s:=by
 have:=gK h
 unfold winK;omega
theorem winF_mul {a z s:Int} (h:mT a z s):∃ c,winF a z s=c * s:=by
 obtain ⟨a0,a1,s1,-⟩:=h;obtain ⟨-,-,-,c,-,hc⟩:=jp a0 s1;refine ⟨c - mp a z s,?_⟩;unfold winF;rw [hc,Int.sub_mul]
theorem mM {a z s:Int} (h:mT a z s) (i:Nat):winF a z s+(i:Int) * s≤a↔i < winK a z s:=by
 have hf:=gK h;have hk:=mi h;obtain ⟨a0,a1,s1,sz,z1,z4⟩:=h;obtain ⟨m0,m1,m2,-⟩:=jp a0 s1;unfold winF
 constructor
 ·intro hi
  by_cases hh:i < winK a z s
  ·exact hh
  ·exfalso
   have e:((i:Int) - (mp a z s+1)) * s ≥ 0:=Int.mul_nonneg (by omega) (by omega);rw [Int.sub_mul,Int.add_mul] at e;omega
 ·intro hi;have e:((mp a z s) - (i:Int)) * s ≥ 0:=Int.mul_nonneg (by omega) (by omega);rw [Int.sub_mul] at e;omega
theorem win_rest {a z s:Int} (h:mT a z s) (i:Nat) (hi:i < winK a z s):a < winF a z s+(i:Int) * s+z∧(winF a z s+(i:Int) * s).tmod s=0:=by
 have hf:=gK h;obtain ⟨c,hc⟩:=winF_mul h;obtain ⟨a0,a1,s1,sz,z1,z4⟩:=h;obtain ⟨m0,m1,m2,-⟩:=jp a0 s1;have h1:0≤(i:Int) * s:=Int.mul_nonneg (by omega) (by omega);refine ⟨?_,?_⟩
 ·unfold winF;omega
 ·rw [hc,← Int.add_mul];exact Int.mul_tmod_left _ _
end Go.Proofs.YtcgjflamgnjhcaaGreatDoor
namespace Go.Proofs.YtcgjflamgnjhcaaGreatDoor
open Go.ChangeShapes Go.WideShapes Go.ChangeAt Go.RowKit
structure Ct where
 st:Int
 key:V2
 vs:List V2
def ofK (st k n:Int) (cs:List Ct):List Ct:=cs.filter fun c=>decide (c.st=st∧c.key.1=k∧c.key.2=n)
def gg (ks:List Int) (cs:List Ct):List Ac:=cs.foldl (fun a c=>d8 a c.vs) (ks.map gM)
structure OfT (ks:List Int) (cs:List Ct) (ps:List Pn):Prop where
 rise:iw ps
 acc:∀ p∈ps,p.told=false∧p.ac=gg ks (ofK p.st p.k p.n cs)∧ofK p.st p.k p.n cs≠[]
 all:∀ c∈cs,∃ p∈ps,p.st=c.st∧p.k=c.key.1∧p.n=c.key.2
 few:ps.length≤cs.length
theorem ofT_nil (ks:List Int):OfT ks [] []:=⟨by simp [iw],by simp,by simp,by simp⟩
theorem eL (st k n:Int) (a b:List Ct):ofK st k n (a++b)=ofK st k n a++ofK st k n b:=by simp [ofK]
theorem gZ (st k n:Int) (c:Ct) (h:c.st=st∧c.key.1=k∧c.key.2=n):ofK st k n [c]=[c]:=by simp [ofK,h]
theorem iM (st k n:Int) (c:Ct) (h:¬ (c.st=st∧c.key.1=k∧c.key.2=n)):ofK st k n [c]=[]:=by
 unfold ofK;simp only [List.filter_cons,List.filter_nil,decide_eq_false h,Bool.false_eq_true,if_false]
theorem oQ (st k n:Int) (cs:List Ct):(ofK st k n cs).length≤cs.length:=List.length_filter_le _ _
theorem fJ (ks:List Int) (cs:List Ct) (c:Ct):gg ks (cs++[c])=d8 (gg ks cs) c.vs:=by simp [gg]
theorem jz (ks:List Int):∀ (cs:List Ct),(∀ c∈cs,c.vs.length=ks.length)→(gg ks cs).length=ks.length:=by
 intro cs
 induction cs using oC with
 | h0=>intro _;simp [gg]
 | h1 l c ih =>
  intro h;rw [fJ,d8,List.length_zipWith,ih (fun c hc=>h c (by simp [hc])),h c (by simp)]
  simp
theorem nw {ac:List Ac} {vs:List V2} {a:Ac} (h:a∈d8 ac vs):∃ b∈ac,∃ v∈vs,a=jI b v:=by
 unfold d8 at h;obtain ⟨i,hi,rfl⟩:=List.mem_iff_getElem.1 h;simp only [List.length_zipWith] at hi;refine ⟨ac[i]'(by omega),List.getElem_mem _,vs[i]'(by omega),List.getElem_mem _,?_⟩;rw [List.getElem_zipWith]
theorem iH (ks:List Int) (hk:∀ x∈ks,1≤x∧x≤5):∀ (cs:List Ct),∀ a∈gg ks cs,1≤a.k∧a.k≤5∧0≤a.n∧a.n≤cs.length:=by
 intro cs
 induction cs using oC with
 | h0 =>
  intro a ha;simp only [gg,List.foldl_nil,List.mem_map] at ha;obtain ⟨x,hx,rfl⟩:=ha
  have:=hk x hx
  simp [gM,this]
 | h1 l c ih =>
  intro a ha;rw [fJ] at ha;obtain ⟨b,hb,v,-,rfl⟩:=nw ha;obtain ⟨h1,h2,h3,h4⟩:=ih b hb
  have:=gstep_n b.k (b.n,b.s,b.b) v h3
  simp only at this
  simp only [jI,List.length_append,List.length_singleton];refine ⟨h1,h2,this.1,?_⟩;omega
theorem iQ (a b c:Int):¬ lexlt a b c a b c:=by unfold lexlt;omega
theorem iP {ps:List Pn} (h:iw ps) {i j:Nat} {p q:Pn} (hi:ps[i]?=some p) (hj:ps[j]?=some q) (e:p.st=q.st∧p.k=q.k∧p.n=q.n):i=j:=by
 obtain ⟨li,rfl⟩:=List.getElem?_eq_some_iff.1 hi;obtain ⟨lj,rfl⟩:=List.getElem?_eq_some_iff.1 hj
 rcases Nat.lt_trichotomy i j with h1 | h1 | h1
 ·have:=List.pairwise_iff_getElem.1 h i j li lj h1
  rw [e.1,e.2.1,e.2.2] at this;exact absurd this (iQ _ _ _)
 ·exact h1
 ·have:=List.pairwise_iff_getElem.1 h j i lj li h1
  rw [e.1,e.2.1,e.2.2] at this;exact absurd this (iQ _ _ _)
theorem ofT_new {ks:List Int} {cs:List Ct} {ps:List Pn} (h:OfT ks cs ps) (c:Ct) (i:Nat) (hi:i≤ps.length) (av:Value) (hno:∀ p∈ps,¬ (p.st=c.st∧p.k=c.key.1∧p.n=c.key.2))
  (hR:iw (ps.take i++⟨c.st,c.key.1,c.key.2,false,d8 (ks.map gM) c.vs,av⟩ :: ps.drop i)):OfT ks (cs++[c]) (ps.take i++⟨c.st,c.key.1,c.key.2,false,d8 (ks.map gM) c.vs,av⟩ :: ps.drop i):=by
 have hold:∀ p∈ps,p.told=false∧p.ac=gg ks (ofK p.st p.k p.n (cs++[c]))∧ofK p.st p.k p.n (cs++[c])≠[]:=fun p hp=>by
  obtain ⟨h1,h2,h3⟩:=h.acc p hp;rw [eL,iM _ _ _ c (fun e=>hno p hp ⟨e.1.symm,e.2.1.symm,e.2.2.symm⟩),List.append_nil];exact ⟨h1,h2,h3⟩
 refine ⟨hR,fun p hp=>?_,fun d hd=>?_,?_⟩
 ·simp only [List.mem_append,List.mem_cons] at hp
  rcases hp with hp | rfl | hp
  ·exact hold p (List.mem_of_mem_take hp)
  ·have hz:ofK c.st c.key.1 c.key.2 cs=[]:=by
    unfold ofK;rw [List.filter_eq_nil_iff];intro d hd;simp only [decide_eq_true_eq];intro e;obtain ⟨p,hp,e1,e2,e3⟩:=h.all d hd;exact hno p hp ⟨e1.trans e.1,e2.trans e.2.1,e3.trans e.2.2⟩
   refine ⟨rfl,?_,?_⟩
   ·show d8 (ks.map gM) c.vs=gg ks (ofK c.st c.key.1 c.key.2 (cs++[c]))
    rw [eL,hz,gZ _ _ _ c ⟨rfl,rfl,rfl⟩]
    rfl
   ·show ofK c.st c.key.1 c.key.2 (cs++[c])≠[]
    rw [eL,gZ _ _ _ c ⟨rfl,rfl,rfl⟩]
    simp
  ·exact hold p (List.mem_of_mem_drop hp)
 ·simp only [List.mem_append,List.mem_singleton] at hd
  rcases hd with hd | rfl
  ·obtain ⟨p,hp,e⟩:=h.all d hd;refine ⟨p,?_,e⟩;rw [← List.take_append_drop i ps] at hp;simp only [List.mem_append,List.mem_cons] at hp ⊢
   rcases hp with hp | hp
   ·exact .inl hp
   ·exact .inr (.inr hp)
  ·exact ⟨⟨d.st,d.key.1,d.key.2,false,d8 (ks.map gM) d.vs,av⟩,by simp,rfl,rfl,rfl⟩
 ·have:=h.few
  simp
  omega
theorem ofT_old {ks:List Int} {cs:List Ct} {ps:List Pn} (h:OfT ks cs ps) (c:Ct) (j:Nat) (hj:j < ps.length) (av:Value) (he:ps[j].st=c.st∧ps[j].k=c.key.1∧ps[j].n=c.key.2) :
  OfT ks (cs++[c]) (ps.set j ⟨c.st,c.key.1,c.key.2,ps[j].told,d8 ps[j].ac c.vs,av⟩):=by
 refine ⟨?_,fun p hp=>?_,fun d hd=>?_,?_⟩
 ·refine List.pairwise_iff_getElem.2 fun a b ha hb hab=>?_
  simp only [List.length_set] at ha hb
  have:=List.pairwise_iff_getElem.1 h.rise a b ha hb hab
  rw [List.getElem_set,List.getElem_set]
  by_cases h1:j=a
  ·subst h1;rw [if_pos rfl,if_neg (by omega)];rw [he.1,he.2.1,he.2.2] at this;exact this
  ·by_cases h2:j=b
   ·subst h2;rw [if_neg h1,if_pos rfl];rw [he.1,he.2.1,he.2.2] at this;exact this
   ·rw [if_neg h1,if_neg h2];exact this
 ·obtain ⟨a,ha,rfl⟩:=List.mem_iff_getElem.1 hp;simp only [List.length_set] at ha;rw [List.getElem_set]
  by_cases h1:j=a
  ·subst h1;rw [if_pos rfl];obtain ⟨e1,e2,e3⟩:=h.acc ps[j] (List.getElem_mem hj);rw [he.1,he.2.1,he.2.2] at e2;refine ⟨e1,?_,?_⟩
   ·show d8 ps[j].ac c.vs=gg ks (ofK c.st c.key.1 c.key.2 (cs++[c]))
    rw [eL,gZ _ _ _ c ⟨rfl,rfl,rfl⟩,fJ,← e2]
   ·show ofK c.st c.key.1 c.key.2 (cs++[c])≠[]
    rw [eL,gZ _ _ _ c ⟨rfl,rfl,rfl⟩]
    simp
  ·rw [if_neg h1];obtain ⟨e1,e2,e3⟩:=h.acc ps[a] (List.getElem_mem ha);rw [eL,iM _ _ _ c (fun e=>h1 (iP h.rise (List.getElem?_eq_getElem hj) (List.getElem?_eq_getElem ha) ⟨he.1.trans e.1,he.2.1.trans e.2.1,he.2.2.trans e.2.2⟩)),List.append_nil];exact ⟨e1,e2,e3⟩
 ·simp only [List.mem_append,List.mem_singleton] at hd
  rcases hd with hd | rfl
  ·obtain ⟨p,hp,e⟩:=h.all d hd;obtain ⟨a,ha,rfl⟩:=List.mem_iff_getElem.1 hp
   by_cases h1:j=a
   ·subst h1;exact ⟨_,List.mem_set hj _,by rw [← e.1,he.1],by rw [← e.2.1,he.2.1],by rw [← e.2.2,he.2.2]⟩
   ·refine ⟨ps[a],List.mem_iff_getElem.2 ⟨a,by simpa using ha,?_⟩,e⟩;rw [List.getElem_set,if_neg h1]
  ·exact ⟨_,List.mem_set hj _,rfl,rfl,rfl⟩
 ·have:=h.few
  simp
  omega
def evX (x:Ev):List V2:=evE x.t x.k1 x.k2 x.a1 x.a2 x.b1 x.b2
def askQ (q:Qy) (x:Ev):Bool:=q.wh.length == 0 || decide (evL opV (evX x) q.wh=(2,1))
def qo (q:Qy) (x:Ev):V2:=if q.bys.length=0 then (0,0) else evL opV (evX x) q.bys
def qR (x:Ev) (a:AgQ):V2:=if a.kind=1 then (0,0) else evL opV (evX x) a.of
def valsQ (q:Qy) (x:Ev):List V2:=q.aggs.map (qR x)
def eQ (q:Qy) (upto:Int) (known:Bool) (st:Int):Bool:=known && decide (st+q.size+q.late≤upto)
def ig (q:Qy) (x:Ev) (upto:Int) (known:Bool) (l:List Int):List Ct:=(l.filter fun st=>!eQ q upto known st).map fun st=>⟨st,qo q x,valsQ q x⟩
def em (q:Qy) (upto:Int) (known:Bool) (l:List Int):Nat:=(l.filter fun st=>eQ q upto known st).length
def takeC (q:Qy) (x:Ev) (upto:Int) (known:Bool):List Ct:=if askQ q x then ig q x upto known (nN x.t q.size q.slide) else []
def takeN (q:Qy) (x:Ev) (upto:Int) (known:Bool):Nat:=if askQ q x then em q upto known (nN x.t q.size q.slide) else 0
def partC (q:Qy):Int→Bool→List Ev→List Ct
 | _,_,[]=>[]
 | g,k,x :: l=>if evC x≠0 then partC q g k l else takeC q x (g - q.delay) k++partC q (max g x.t) true l
def partN (q:Qy):Int→Bool→List Ev→Nat
 | _,_,[]=>0
 | g,k,x :: l=>if evC x≠0 then partN q g k l else takeN q x (g - q.delay) k+partN q (max g x.t) true l
def kj (q:Qy) (l:List (List Ev)):List Ct:=l.flatMap (partC q 0 false)
def mu (q:Qy) (l:List (List Ev)):Nat:=(l.map (partN q 0 false)).sum
theorem m6 (q:Qy) (x:Ev) (upto:Int) (known:Bool) (st:Int) (l:List Int):ig q x upto known (st :: l)=(if eQ q upto known st then [] else [⟨st,qo q x,valsQ q x⟩])++ig q x upto known l:=by
 unfold ig;cases h:eQ q upto known st <;> simp [h]
theorem jO (q:Qy) (upto:Int) (known:Bool) (st:Int) (l:List Int):em q upto known (st :: l)=(if eQ q upto known st then 1 else 0)+em q upto known l:=by
 unfold em;cases h:eQ q upto known st <;> simp [h]
 omega
theorem putL_len (q:Qy) (x:Ev) (upto:Int) (known:Bool) (l:List Int):(ig q x upto known l).length≤l.length:=by
 unfold ig;rw [List.length_map];exact List.length_filter_le _ _
theorem lateL_len (q:Qy) (upto:Int) (known:Bool) (l:List Int):em q upto known l≤l.length:=List.length_filter_le _ _
theorem putL_vs {q:Qy} {x:Ev} {upto:Int} {known:Bool} {l:List Int}:∀ c∈ig q x upto known l,c.vs.length=q.aggs.length:=by
 intro c hc;unfold ig at hc;simp only [List.mem_map] at hc;obtain ⟨st,-,rfl⟩:=hc
 simp [valsQ]
end Go.Proofs.YtcgjflamgnjhcaaGreatDoor
