/- Own texts in one. Conditions: as named in each. -/
import Derived.Test.YtcgjflamgnjhcaaGreatDoorPrsCJ
import Derived.Test.YtcgjflamgnjhcaaGreatDoorWinPureJ
import Derived.Deep.WholeRow
import Derived.Deep.DeepCutAuto
import Derived.Great.BuildSlice
import Derived.Great.FillDense
set_option linter.unusedVariables false
set_option linter.unusedSimpArgs false
set_option maxRecDepth 100000
set_option maxHeartbeats 8000000
namespace Go.Proofs.YtcgjflamgnjhcaaGreatDoor
open Go.ChangeShapes Go.WideShapes Go.ChangeAt Go.RowKit
abbrev St:=Except Int Ws
def aX (word:ByteArray):St→Bool×St
 | .error c=>(false,.error c)
 | .ok ws=>match tk word ws with
  | some r=>(true,.ok r)
  | none=>(false,.ok ws)
def aY (word:ByteArray):St→St
 | .error c=>.error c
 | .ok ws=>match tk word ws with
  | some r=>.ok r
  | none=>.error 4
def exprS:St→List Nd×St
 | .error c=>([],.error c)
 | .ok ws=>match lev FU 0 ws 0 with
  | .error c=>([],.error c)
  | .ok (l,r)=>(l,.ok r)
def spanS:St→Int×St
 | .error c=>(0,.error c)
 | .ok []=>(0,.error 4)
 | .ok (w :: r)=>match nK 1000 w with
  | none=>(0,.error 4)
  | some n=>((n:Int),.ok r)
def aggKS:St→Int×St
 | .error c=>(0,.error c)
 | .ok ws=>match lS ws with
  | some (k,r)=>(k,.ok r)
  | none=>(0,.error 4)
def endS:St→St
 | .error c=>.error c
 | .ok ws=>if ws=[] then .ok [] else .error 4
def okS:St→Bool
 | .ok _=>true
 | .error _=>false
def PXS (w:World) (gp gm:Nat) (st:St):Prop:=match st with
 | .ok ws=>∃ wv,PX w gp gm wv ws 0 0
 | .error c=>c≠0∧∃ wv,PX w gp gm wv [] 0 c
theorem je {w:World} {gp gm:Nat} {st:St} (h:PXS w gp gm st):gp < w.heap.size:=by
 cases st with
 | ok ws=>obtain ⟨wv,h⟩:=h;exact h.ps.bd.lt
 | error c=>obtain ⟨-,wv,h⟩:=h;exact h.ps.bd.lt
theorem oh {w w':World} {gp gm g:Nat} {wv:Value} {ws:Ws} {d e:Int} (h:PX w gp gm wv ws d e) (hk:KeptB w w' (fun q=>q=g)) (hg:gp < g):PX w' gp gm wv ws d e :=
 ⟨ow h.ps hk (fun k e9=>by omega),lE h.tq hk (by have:=h.lo;omega),h.wq,h.lo⟩
theorem bZ {w w':World} {gp gm:Nat} {st:St} (h:PXS w gp gm st) (hb:Below w.heap.size w w'):PXS w' gp gm st:=by
 cases st with
 | ok ws=>obtain ⟨wv,h⟩:=h;exact ⟨wv,aO h hb⟩
 | error c=>obtain ⟨h0,wv,h⟩:=h;exact ⟨h0,wv,aO h hb⟩
theorem gR {w w':World} {gp gm g:Nat} {st:St} (h:PXS w gp gm st) (hk:KeptB w w' (fun q=>q=g)) (hg:gp < g):PXS w' gp gm st:=by
 cases st with
 | ok ws=>obtain ⟨wv,h⟩:=h;exact ⟨wv,oh h hk hg⟩
 | error c=>obtain ⟨h0,wv,h⟩:=h;exact ⟨h0,wv,oh h hk hg⟩
def NdsS (w:World) (B:Nat) (v:Value) (l:List Nd) (ok:Bool):Prop:=isSl v=true∧(ok=true→NdsR w B v l)
def m6 (w:World) (g t:Nat):Prop:=∃ cur fr,w.heap[g]?=some (.cells cur t fr)
theorem dB (w:World) (cs:Array Value) (t:Nat):m6 (w.alloc (.cells cs t)) w.heap.size t:=⟨_,_,heap_alloc_new w _⟩
theorem aT {w w':World} {g t:Nat} {bad:Nat→Prop} (h:m6 w g t) (hk:KeptB w w' bad) (hb:¬ bad g):m6 w' g t:=by
 obtain ⟨cur,fr,h⟩:=h;exact ⟨cur,fr,(hk.block g (Array.getElem?_eq_some_iff.1 h).1 hb).trans h⟩
theorem iJ {w:World} {g t:Nat} (h:m6 w g t) (g' k:Nat) (v:Value):m6 (w.setCell ⟨g',k,none⟩ v) g t:=by
 obtain ⟨cur,fr,h⟩:=h
 by_cases e:g'=g
 ·subst e;refine ⟨cur.setIfInBounds k v,fr,?_⟩;have hlt:=(Array.getElem?_eq_some_iff.1 h).1;simp only [World.setCell,Array.getElem?_modify,h,Option.map_some]
  simp
 ·refine ⟨cur,fr,?_⟩;rw [Below.heap_setCell w ⟨g',k,none⟩ v g (fun e9=>e e9.symm)];exact h
theorem g7 {w:World} {base size n:Nat} {e:TypeId} {v:Value} {xs:List Value} (h:w.ownsRow base e size v n xs) {g t:Nat} (ht:m6 w g t) (hne:t≠e):v.ownBlock≠some g:=by
 rcases h.2 with ⟨rfl,-⟩ | ⟨g1,cap,cur,rfl,-,hg,-⟩
 ·simp [Value.ownBlock]
 ·simp only [Value.ownBlock,ne_eq,Option.some.injEq];intro e9;subst e9;obtain ⟨cur2,fr,h2⟩:=ht;rw [hg] at h2;simp only [Option.some.injEq,Obj.cells.injEq] at h2;exact hne h2.2.1.symm
theorem pr {w w':World} {B g t:Nat} {v:Value} {l:List Nd} (h:NdsR w B v l) (hk:KeptB w w' (fun q=>q=g)) (ht:m6 w g t) (hne:t≠153):NdsR w' B v l :=
 ⟨bg h.1 hk (fun k e h9=>by subst h9;exact g7 h.1 ht hne e),h.2⟩
theorem cO {w w1 w2:World} {gp g:Nat} (h1:KeptB w w1 (fun q=>q=gp)) (h2:KeptB w1 w2 (fun q=>q=g)) (hg:w.heap.size≤g):KeptB w w2 (fun q=>q=gp) :=
 ⟨h1.b0.trans h2.b0,fun k hk hn=>(h2.block k (Nat.lt_of_lt_of_le hk h1.b0.size) (fun e=>by omega)).trans (h1.block k hk hn)⟩
theorem fp (gp gm:Nat) (word:ByteArray) (hw0:word≠⟨#[]⟩) (st:St) (w:World) (h:PXS w gp gm st) :
  Calls Tryz.prog 109 #[.pointer (some ⟨gp,0,none⟩),.string word] w fun r w'=>r=.returned (.bool (aX word st).1)∧KeptB w w' (fun q=>q=gp)∧PXS w' gp gm (aX word st).2:=by
 cases st with
 | error c =>
  obtain ⟨h0,wv,h⟩:=h;exact (fW gp gm word hw0 wv [] 0 c w h rfl).mono fun r w' ⟨h1,h2,h3⟩=>⟨h1,h2,h0,wv,h3⟩
 | ok ws =>
  obtain ⟨wv,h⟩:=h;cases ht:tk word ws with
  | none =>
   have e:aX word (.ok ws)=(false,.ok ws):=by simp only [aX,ht]
   rw [e];exact (fW gp gm word hw0 wv ws 0 0 w h ht).mono fun r w' ⟨h1,h2,h3⟩=>⟨h1,h2,wv,h3⟩
  | some r =>
   have e:aX word (.ok ws)=(true,.ok r):=by simp only [aX,ht]
   rw [e];exact (fX gp gm word hw0 wv ws r 0 0 w h ht).mono fun r w' ⟨h1,h2,wv',h3⟩=>⟨h1,h2,wv',h3⟩
theorem eg (gp gm:Nat) (word:ByteArray) (hw0:word≠⟨#[]⟩) (st:St) (w:World) (h:PXS w gp gm st) :
  Calls Tryz.prog 107 #[.pointer (some ⟨gp,0,none⟩),.string word] w fun r w'=>r=.returned (.tuple #[])∧KeptB w w' (fun q=>q=gp)∧PXS w' gp gm (aY word st):=by
 cases st with
 | error c =>
  obtain ⟨h0,wv,h⟩:=h;refine (fH gp gm word hw0 wv [] 0 c w h rfl).mono fun r w' ⟨h1,h2,wv',h3⟩=>?_
  rw [gZ h0] at h3;exact ⟨h1,h2,h0,wv',h3⟩
 | ok ws =>
  obtain ⟨wv,h⟩:=h;cases ht:tk word ws with
  | none =>
   have e:aY word (.ok ws)=.error 4:=by simp only [aY,ht]
   rw [e];exact (fH gp gm word hw0 wv ws 0 0 w h ht).mono fun r w' ⟨h1,h2,wv',h3⟩=>⟨h1,h2,by decide,wv',h3⟩
  | some r =>
   have e:aY word (.ok ws)=.ok r:=by simp only [aY,ht]
   rw [e];exact (iE gp gm word hw0 wv ws r 0 0 w h ht).mono fun r w' ⟨h1,h2,wv',h3⟩=>⟨h1,h2,wv',h3⟩
theorem jX (gp gm:Nat) (st:St) (w:World) (h:PXS w gp gm st) :
  Calls Tryz.prog 110 #[.pointer (some ⟨gp,0,none⟩)] w fun r w'=>∃ v,r=.returned v∧NdsS w' (gp+1) v (exprS st).1 (okS (exprS st).2)∧KeptB w w' (fun q=>q=gp)∧PXS w' gp gm (exprS st).2:=by
 cases st with
 | error c =>
  obtain ⟨h0,wv,h⟩:=h;refine (bad_expr gp gm 0 c h0 wv w h).mono ?_;rintro r w' ⟨hk,v,wv',rfl,hs,hp⟩;exact ⟨v,rfl,⟨hs,fun e=>by cases e⟩,hk,h0,wv',hp⟩
 | ok ws =>
  obtain ⟨wv,h⟩:=h;refine (expr_any gp gm wv ws w h h.ps.few).mono ?_;rintro r w' ⟨hk,hr⟩;cases hl:lev FU 0 ws 0 with
  | error c =>
   rw [hl] at hr;obtain ⟨v,wv',rfl,hc,hp⟩:=hr;have e:exprS (.ok ws)=([],.error c):=by simp only [exprS,hl]
   rw [e];exact ⟨v,rfl,⟨hc.2,fun e=>by cases e⟩,hk,hc.1,wv',hp⟩
  | ok p =>
   obtain ⟨l,r9⟩:=p;rw [hl] at hr;obtain ⟨v,wv',rfl,hn,hp⟩:=hr;have e:exprS (.ok ws)=(l,.ok r9):=by simp only [exprS,hl]
   rw [e];exact ⟨v,rfl,⟨hn.sl,fun _=>hn⟩,hk,wv',hp⟩
theorem kX (gp gm:Nat) (st:St) (w:World) (h:PXS w gp gm st) :
  Calls Tryz.prog 111 #[.pointer (some ⟨gp,0,none⟩)] w fun r w'=>r=.returned (.int .i64 (spanS st).1)∧KeptB w w' (fun q=>q=gp)∧PXS w' gp gm (spanS st).2:=by
 cases st with
 | error c =>
  obtain ⟨h0,wv,h⟩:=h;refine (mt gp gm wv [] 0 c w h rfl).mono fun r w' ⟨h1,h2,h3⟩=>?_
  rw [gZ h0] at h3;exact ⟨h1,h2,h0,_,h3⟩
 | ok ws =>
  obtain ⟨wv,h⟩:=h;cases ws with
  | nil=>exact (mt gp gm wv [] 0 0 w h rfl).mono fun r w' ⟨h1,h2,h3⟩=>⟨h1,h2,by decide,_,h3⟩
  | cons x r =>
   cases hq:nK 1000 x with
   | none =>
    have e:spanS (.ok (x :: r))=(0,.error 4):=by simp only [spanS,hq]
    rw [e];exact (mt gp gm wv (x :: r) 0 0 w h (by show lN 1000 x=_;unfold lN;rw [hq])).mono fun r w' ⟨h1,h2,h3⟩=>⟨h1,h2,by decide,_,h3⟩
   | some n =>
    have e:spanS (.ok (x :: r))=((n:Int),.ok r):=by simp only [spanS,hq]
    rw [e];exact (span_yes gp gm wv x r n 0 0 w h (by unfold lN;rw [hq])).mono fun r w' ⟨h1,h2,wv',h3⟩=>⟨h1,h2,wv',h3⟩
theorem mq (gp gm:Nat) (st:St) (w:World) (h:PXS w gp gm st) :
  Calls Tryz.prog 146 #[.pointer (some ⟨gp,0,none⟩)] w fun r w'=>r=.returned (.int .i64 (aggKS st).1)∧KeptB w w' (fun q=>q=gp)∧PXS w' gp gm (aggKS st).2:=by
 cases st with
 | error c =>
  obtain ⟨h0,wv,h⟩:=h;refine (iW gp gm wv [] 0 c w h).mono fun r w' ⟨h1,h2⟩=>?_
  have h3:r=.returned (.int .i64 0)∧PX w' gp gm (.slice none 0 0) [] 0 (oP c 4):=h2;rw [gZ h0] at h3;exact ⟨h3.1,h1,h0,_,h3.2⟩
 | ok ws =>
  obtain ⟨wv,h⟩:=h;refine (iW gp gm wv ws 0 0 w h).mono fun r w' ⟨h1,h2⟩=>?_
  cases ha:lS ws with
  | none =>
   rw [ha] at h2;have e:aggKS (.ok ws)=(0,.error 4):=by simp only [aggKS,ha]
   rw [e];exact ⟨h2.1,h1,by decide,_,h2.2⟩
  | some p =>
   obtain ⟨k,r9⟩:=p;rw [ha] at h2;have e:aggKS (.ok ws)=(k,.ok r9):=by simp only [aggKS,ha]
   rw [e];obtain ⟨h3,wv',h4⟩:=h2;exact ⟨h3,h1,wv',h4⟩
theorem dU {word:ByteArray} {ws r:Ws} (h:tk word ws=some r):aX word (.ok ws)=(true,.ok r):=by simp only [aX,h]
theorem dX {word:ByteArray} {ws:Ws} (h:tk word ws=none):aX word (.ok ws)=(false,.ok ws):=by simp only [aX,h]
theorem mustS_some {word:ByteArray} {ws r:Ws} (h:tk word ws=some r):aY word (.ok ws)=.ok r:=by simp only [aY,h]
theorem mustS_none {word:ByteArray} {ws:Ws} (h:tk word ws=none):aY word (.ok ws)=.error 4:=by simp only [aY,h]
def dC (st:St):AgQ×St :=
 if (aggKS st).1=2∧(aX wStar (aY wOpen (aggKS st).2)).1=true then (⟨1,[]⟩,aY wClose (aX wStar (aY wOpen (aggKS st).2)).2)
 else (⟨(aggKS st).1,(exprS (aY wOpen (aggKS st).2)).1⟩,aY wClose (exprS (aY wOpen (aggKS st).2)).2)
theorem dy {word:ByteArray} {st:St} (h:(aX word st).1=false):(aX word st).2=st:=by
 cases st with
 | error c=>rfl
 | ok ws =>
  cases ht:tk word ws with
  | none=>rw [dX ht]
  | some r=>rw [dU ht] at h;cases h
def aggsS:Nat→List AgQ→St→List AgQ×St
 | 0,l,.error c=>(l,.error c)
 | 0,l,.ok _=>(l,.error 99)
 | k+1,l,st=>if (aX wComma st).1=true then aggsS k (l++[(dC (aX wComma st).2).1]) (dC (aX wComma st).2).2 else (l,st)
theorem jq (k:Nat) (l:List AgQ) (c:Int):aggsS k l (.error c)=(l,.error c):=by
 cases k with
 | zero=>rfl
 | succ k=>rfl
def fS (word:ByteArray) (dflt:Int) (st:St):Int×St:=if (aX word st).1=true then spanS (aX word st).2 else (dflt,(aX word st).2)
def em (st:St):List Nd×St:=if (aX wWhere st).1=true then exprS (aX wWhere st).2 else ([],(aX wWhere st).2)
def eD (st:St):List Nd×St:=if (aX wGroup st).1=true then exprS (aY wBy (aX wGroup st).2) else ([],(aX wGroup st).2)
def fR {α:Type} (st:St) (k:Ws→Except Int α):Except Int α:=match st with
 | .error c=>.error c
 | .ok ws=>k ws
theorem iH {α:Type} (word:ByteArray) (ws:Ws) (k:Ws→Except Int α):jm word ws k=fR (aY word (.ok ws)) k:=by
 cases h:tk word ws with
 | none=>simp only [jm,h,mustS_none h,fR]
 | some r=>simp only [jm,h,mustS_some h,fR]
theorem iK {α:Type} (ws:Ws) (k:List Nd→Ws→Except Int α):nQ ws k=fR (exprS (.ok ws)).2 (k (exprS (.ok ws)).1):=by
 cases h:lev FU 0 ws 0 with
 | error c=>simp only [nQ,exprS,h,fR]
 | ok p=>obtain ⟨l,r⟩:=p;simp only [nQ,exprS,h,fR]
theorem nk {α:Type} (ws:Ws) (k:Int→Ws→Except Int α):pj ws k=fR (spanS (.ok ws)).2 (k (spanS (.ok ws)).1):=by
 cases ws with
 | nil=>rfl
 | cons w r =>
  cases h:nK 1000 w with
  | none=>simp only [pj,spanS,h,fR]
  | some n=>simp only [pj,spanS,h,fR]
theorem opt_run {α:Type} (word:ByteArray) (dflt:Int) (ws:Ws) (k:Int→Ws→Except Int α):qp word dflt ws k=fR (fS word dflt (.ok ws)).2 (k (fS word dflt (.ok ws)).1):=by
 cases h:tk word ws with
 | none=>simp [qp,fS,h,dX h,fR]
 | some r=>simp [qp,fS,h,dU h,nk]
theorem where_run {α:Type} (ws:Ws) (k:List Nd→Ws→Except Int α):nE ws k=fR (em (.ok ws)).2 (k (em (.ok ws)).1):=by
 cases h:tk wWhere ws with
 | none=>simp [nE,em,h,dX h,fR]
 | some r=>simp [nE,em,h,dU h,iK]
theorem run_err {α:Type} (st:St) (f:St→List Nd×St) (hf:∀ c,f (.error c)=([],.error c)) (k:List Nd→Ws→Except Int α):fR st (fun ws=>fR (f (.ok ws)).2 (k (f (.ok ws)).1))=fR (f st).2 (k (f st).1):=by
 cases st with
 | error c=>rw [hf c];rfl
 | ok ws=>rfl
theorem group_run {α:Type} (ws:Ws) (k:List Nd→Ws→Except Int α):mN ws k=fR (eD (.ok ws)).2 (k (eD (.ok ws)).1):=by
 cases h:tk wGroup ws with
 | none=>simp [mN,eD,h,dX h,fR]
 | some r =>
  simp [mN,eD,h,dU h,iH,iK]
  exact run_err _ exprS (fun c=>rfl) k
theorem ob (ws:Ws):nM ws=fR (dC (.ok ws)).2 (fun r=>.ok ((dC (.ok ws)).1,r)):=by
 cases ha:lS ws with
 | none =>
  have e:aggKS (.ok ws)=(0,.error 4):=by simp only [aggKS,ha]
  have e2:dC (.ok ws)=(⟨0,[]⟩,.error 4):=by unfold dC;simp [e,aY,exprS]
  rw [e2];simp only [nM,ha,fR]
 | some p =>
  obtain ⟨k,r⟩:=p;have e:aggKS (.ok ws)=(k,.ok r):=by simp only [aggKS,ha]
  simp only [nM,ha,iH];unfold dC;simp only [e];cases hm:aY wOpen (.ok r) with
  | error c=>simp [fR,aX,exprS,aY]
  | ok r2 =>
   simp only [fR,qF]
   by_cases h2:k=2
   ·subst h2;cases hs:tk wStar r2 with
    | some r3=>simp [hs,dU hs,fR]
    | none =>
     simp [hs,dX hs,iK]
     cases (exprS (.ok r2)).2 <;> rfl
   ·simp [h2,iK]
    cases (exprS (.ok r2)).2 <;> rfl
theorem aggs_run:∀ (k:Nat) (l:List AgQ) (ws:Ws),aggsP k l ws=fR (aggsS k l (.ok ws)).2 (fun r=>.ok ((aggsS k l (.ok ws)).1,r))
 | 0,l,ws=>rfl
 | k+1,l,ws=>by
  cases h:tk wComma ws with
  | none=>simp [aggsP,aggsS,h,dX h,fR]
  | some r =>
   simp [aggsP,aggsS,h,dU h,ob]
   cases h9:(dC (.ok r)).2 with
   | error c=>simp [fR,jq]
   | ok r2 =>
    simp only [fR];exact aggs_run k _ r2
def mi (w:World) (B:Nat) (v:Value) (l:List Nd):Prop:=(l=[]∧v=.slice none 0 0)∨NdsR w B v l
def kZ (w:World) (B:Nat) (v:Value) (l:List Nd) (ok:Bool):Prop:=isSl v=true∧(ok=true→mi w B v l)
theorem ga {w w':World} {B g t:Nat} {v:Value} {l:List Nd} (h:mi w B v l) (hk:KeptB w w' (fun q=>q=g)) (ht:m6 w g t) (hne:t≠153):mi w' B v l:=by
 rcases h with h | h
 ·exact .inl h
 ·exact .inr (pr h hk ht hne)
theorem fD {w w':World} {B:Nat} {v:Value} {l:List Nd} {bad:Nat→Prop} (h:mi w B v l) (hk:KeptB w w' bad) (hb:∀ k,bad k→k < B):mi w' B v l:=by
 rcases h with h | h
 ·exact .inl h
 ·exact .inr (aU h hk hb)
def qd (gp gm:Nat) (st:St) (w:World) (r:Ending) (w':World):Prop:=∃ v,r=.returned (.agg #[.int .i64 (dC st).1.kind,v])∧kZ w' (gp+1) v (dC st).1.of (okS (dC st).2)∧KeptB w w' (fun q=>q=gp)∧PXS w' gp gm (dC st).2
theorem f9 {word:ByteArray} {st:St} (h:okS (aY word st)=true):okS st=true:=by
 cases st with
 | error c=>simp [aY,okS] at h
 | ok ws=>rfl
theorem agg_tyne:(143:Nat)≠153:=by decide
theorem agg_star (gp gm:Nat) (st:St) (w:World) (h:PXS w gp gm st) (h2:(aggKS st).1=2) (h3:(aX wStar (aY wOpen (aggKS st).2)).1=true) :
  Calls Tryz.prog 108 #[.pointer (some ⟨gp,0,none⟩)] w fun r w'=>qd gp gm st w r w':=by
 have ba:=aj w (.cells #[.int .i64 0,.slice none 0 0] 143);have BL:=aa (az w [.int .i64 0,.slice none 0 0] 143);have TY:=aa (dB w #[.int .i64 0,.slice none 0 0] 143);have K0:=aa (ae (bad:=fun q=>q=gp) ba);have hlt:=je h;have AK:=mq gp gm st _ (bZ h ba);have EA:=aa (show dC st=(⟨1,[]⟩,aY wClose (aX wStar (aY wOpen (aggKS st).2)).2) by unfold dC;simp only [h2,h3,and_self,if_true]);rw [h2] at AK;have AKH:=aa AK;have MO:=aa (fun w hp=>eg gp gm wOpen (by decide) (aggKS st).2 w hp);have TK:=fun w hp=>fp gp gm wStar (by decide) (aY wOpen (aggKS st).2) w hp
 rw [h3] at TK;have TKH:=aa TK;have MC:=aa (fun w hp=>eg gp gm wClose (by decide) (aX wStar (aY wOpen (aggKS st).2)).2 w hp);clear h ba AK TK h2 h3
 go_enter Tryz.func108,Tryz.ntmps108
 go_wp2_with fail;refine AKH.out.mono ?_;rintro r w1 ⟨rfl,hk1,hp1⟩;have K1:=aa (af K0.out hk1);have BL1:=aa (aI BL.out hk1 (by omega));have TY1:=aa (aT TY.out hk1 (by omega));have M1:=aa (MO.out w1 hp1);clear hk1 hp1 AKH MO K0;go_wp2_with fail;refine M1.out.mono ?_;rintro r w2 ⟨rfl,hk2,hp2⟩;have K2:=aa (af K1.out hk2);have BL2:=aa (aI BL1.out hk2 (by omega));have TY2:=aa (aT TY1.out hk2 (by omega));have T2:=aa (TKH.out w2 hp2);clear hk2 hp2 M1 TKH K1 BL1 TY1;go_wp2_with fail;refine T2.out.mono ?_;rintro r w3 ⟨rfl,hk3,hp3⟩;have K3:=aa (af K2.out hk3);have BL3:=aa (aI BL2.out hk3 (by omega));have TY3:=aa (aT TY2.out hk3 (by omega));have M3:=aa (MC.out w3 hp3);clear hk3 hp3 T2 MC K2 BL2 TY2;go_wp2_with fail;refine M3.out.mono ?_;rintro r w4 ⟨rfl,hk4,hp4⟩;have K4:=aa (af K3.out hk4);have BL4:=aa (aI BL3.out hk4 (by omega));have TY4:=aa (aT TY3.out hk4 (by omega));have P4:=aa hp4;clear hk4 hp4 M3 K3 BL3 TY3;have f0:=BL4.out.fz 0;have f1:=BL4.out.fz 1;have c0:=BL4.out.c 0 (by simp);have c1:=BL4.out.c 1 (by simp);simp only [List.getElem?_cons_zero,List.getElem?_cons_succ] at c0 c1;have Z:=aa (show BlkAt ((w4.setCell ⟨w.heap.size,0,none⟩ (.int .i64 1)).setCell ⟨w.heap.size,1,none⟩ (.slice none 0 0)) w.heap.size [.int .i64 1,(.slice none 0 0)] by simpa using ay (ay BL4.out 0 (.int .i64 1) (by simp)) 1 (.slice none 0 0) (by simp));have KG:Hid (KeptB w4 ((w4.setCell ⟨w.heap.size,0,none⟩ (.int .i64 1)).setCell ⟨w.heap.size,1,none⟩ (.slice none 0 0)) (fun q=>q=w.heap.size)):=ah (ah (ae (bad:=fun q=>q=w.heap.size) (Below.refl w4.heap.size w4)) rfl 0 _) rfl 1 _;clear BL BL4;go_wp2_with fail;generalize ((w4.setCell ⟨w.heap.size,0,none⟩ (.int .i64 1)).setCell ⟨w.heap.size,1,none⟩ (.slice none 0 0))=wz at *;have z0:=Z.out.c 0 (by simp);have z1:=Z.out.c 1 (by simp);simp only [List.getElem?_cons_zero,List.getElem?_cons_succ] at z0 z1;refine bodyPost_ret (v:=.agg #[.int .i64 1,(.slice none 0 0)]) (by simp [results,Tryz.results108,go_sem,z0,z1]) rfl ?_;unfold qd;rw [EA.out];exact ⟨_,rfl,⟨rfl,fun _=>.inl ⟨rfl,rfl⟩⟩,cO K4.out KG.out (Nat.le_refl _),gR P4.out KG.out hlt⟩
theorem agg_two (gp gm:Nat) (st:St) (w:World) (h:PXS w gp gm st) (h2:(aggKS st).1=2) (h3:(aX wStar (aY wOpen (aggKS st).2)).1=false) :
  Calls Tryz.prog 108 #[.pointer (some ⟨gp,0,none⟩)] w fun r w'=>qd gp gm st w r w':=by
 have ba:=aj w (.cells #[.int .i64 0,.slice none 0 0] 143);have BL:=aa (az w [.int .i64 0,.slice none 0 0] 143);have TY:=aa (dB w #[.int .i64 0,.slice none 0 0] 143);have K0:=aa (ae (bad:=fun q=>q=gp) ba);have hlt:=je h;have AK:=mq gp gm st _ (bZ h ba);have EA:=aa (show dC st=(⟨(aggKS st).1,(exprS (aY wOpen (aggKS st).2)).1⟩,aY wClose (exprS (aY wOpen (aggKS st).2)).2) by unfold dC;simp [h2,h3]);have MO:=aa (fun w hp=>eg gp gm wOpen (by decide) (aggKS st).2 w hp);have TK:=fun w hp=>fp gp gm wStar (by decide) (aY wOpen (aggKS st).2) w hp
 rw [dy h3,h3] at TK;have TKH:=aa TK;rw [h2] at AK EA;have EX:=aa (fun w hp=>jX gp gm (aY wOpen (aggKS st).2) w hp);have MC:=aa (fun w hp=>eg gp gm wClose (by decide) (exprS (aY wOpen (aggKS st).2)).2 w hp);have AKH:=aa AK;clear h ba AK TK h2 h3
 go_enter Tryz.func108,Tryz.ntmps108
 go_wp2_with fail;refine AKH.out.mono ?_;rintro r w1 ⟨rfl,hk1,hp1⟩;have K1:=aa (af K0.out hk1);have BL1:=aa (aI BL.out hk1 (by omega));have TY1:=aa (aT TY.out hk1 (by omega));have M1:=aa (MO.out w1 hp1);clear hk1 hp1 AKH MO K0;go_wp2_with fail;refine M1.out.mono ?_;rintro r w2 ⟨rfl,hk2,hp2⟩;have K2:=aa (af K1.out hk2);have BL2:=aa (aI BL1.out hk2 (by omega));have TY2:=aa (aT TY1.out hk2 (by omega));have T2:=aa (TKH.out w2 hp2);clear hk2 hp2 M1 TKH K1 BL1 TY1;go_wp2_with fail;refine T2.out.mono ?_;rintro r w3 ⟨rfl,hk3,hp3⟩;have K3:=aa (af K2.out hk3);have BL3:=aa (aI BL2.out hk3 (by omega));have TY3:=aa (aT TY2.out hk3 (by omega));have E3:=aa (EX.out w3 hp3);clear hk3 hp3 T2 EX K2 BL2 TY2;go_wp2_with fail;refine E3.out.mono ?_;rintro r w4 ⟨v9,rfl,hn9,hk4,hp4⟩;have K4:=aa (af K3.out hk4);have BL4:=aa (aI BL3.out hk4 (by omega));have TY4:=aa (aT TY3.out hk4 (by omega));have N9:=aa hn9;obtain ⟨a9,n9,c9,rfl⟩:=bR hn9.1;have MM:=aa (MC.out w4 hp4);clear hk4 hp4 hn9 E3 MC K3 BL3 TY3;go_wp2_with fail;refine MM.out.mono ?_;rintro r w5 ⟨rfl,hk5,hp5⟩;have K5:=aa (af K4.out hk5);have BL5:=aa (aI BL4.out hk5 (by omega));have TY5:=aa (aT TY4.out hk5 (by omega));have P9:=aa hp5;have N8:Hid (okS (aY wClose (exprS (aY wOpen (aggKS st).2)).2)=true→NdsR w5 (gp+1) (.slice a9 n9 c9) (exprS (aY wOpen (aggKS st).2)).1):=fun e=>aU (N9.out.2 (f9 e)) hk5 (fun k e9=>by omega)
 clear hk5 hp5 MM N9 K4 BL4 TY4;have f0:=BL5.out.fz 0;have f1:=BL5.out.fz 1;have c0:=BL5.out.c 0 (by simp);have c1:=BL5.out.c 1 (by simp);simp only [List.getElem?_cons_zero,List.getElem?_cons_succ] at c0 c1;have Z:=aa (show BlkAt ((w5.setCell ⟨w.heap.size,0,none⟩ (.int .i64 2)).setCell ⟨w.heap.size,1,none⟩ (.slice a9 n9 c9)) w.heap.size [.int .i64 2,(.slice a9 n9 c9)] by simpa using ay (ay BL5.out 0 (.int .i64 2) (by simp)) 1 (.slice a9 n9 c9) (by simp));have KG:Hid (KeptB w5 ((w5.setCell ⟨w.heap.size,0,none⟩ (.int .i64 2)).setCell ⟨w.heap.size,1,none⟩ (.slice a9 n9 c9)) (fun q=>q=w.heap.size)):=ah (ah (ae (bad:=fun q=>q=w.heap.size) (Below.refl w5.heap.size w5)) rfl 0 _) rfl 1 _;clear BL BL5;go_wp2_with fail;generalize ((w5.setCell ⟨w.heap.size,0,none⟩ (.int .i64 2)).setCell ⟨w.heap.size,1,none⟩ (.slice a9 n9 c9))=wz at *;have z0:=Z.out.c 0 (by simp);have z1:=Z.out.c 1 (by simp);simp only [List.getElem?_cons_zero,List.getElem?_cons_succ] at z0 z1;refine bodyPost_ret (v:=.agg #[.int .i64 2,(.slice a9 n9 c9)]) (by simp [results,Tryz.results108,go_sem,z0,z1]) rfl ?_;unfold qd;rw [EA.out];exact ⟨_,rfl,⟨rfl,fun e=>.inr (pr (N8.out e) KG.out TY5.out agg_tyne)⟩,cO K5.out KG.out (Nat.le_refl _),gR P9.out KG.out hlt⟩
theorem agg_oth (gp gm:Nat) (st:St) (w:World) (h:PXS w gp gm st) (h2:(aggKS st).1≠2) :
  Calls Tryz.prog 108 #[.pointer (some ⟨gp,0,none⟩)] w fun r w'=>qd gp gm st w r w':=by
 have ba:=aj w (.cells #[.int .i64 0,.slice none 0 0] 143);have BL:=aa (az w [.int .i64 0,.slice none 0 0] 143);have TY:=aa (dB w #[.int .i64 0,.slice none 0 0] 143);have K0:=aa (ae (bad:=fun q=>q=gp) ba);have hlt:=je h;have AK:=mq gp gm st _ (bZ h ba);have EA:=aa (show dC st=(⟨(aggKS st).1,(exprS (aY wOpen (aggKS st).2)).1⟩,aY wClose (exprS (aY wOpen (aggKS st).2)).2) by unfold dC;simp [h2]);have MO:=aa (fun w hp=>eg gp gm wOpen (by decide) (aggKS st).2 w hp);have EX:=aa (fun w hp=>jX gp gm (aY wOpen (aggKS st).2) w hp);have MC:=aa (fun w hp=>eg gp gm wClose (by decide) (exprS (aY wOpen (aggKS st).2)).2 w hp);have AKH:=aa AK;have hq:((aggKS st).1 == 2)=false:=by simpa using h2
 generalize (aggKS st).1=k at *;clear h ba AK h2
 go_enter Tryz.func108,Tryz.ntmps108
 go_wp2_with fail;refine AKH.out.mono ?_;rintro r w1 ⟨rfl,hk1,hp1⟩;have K1:=aa (af K0.out hk1);have BL1:=aa (aI BL.out hk1 (by omega));have TY1:=aa (aT TY.out hk1 (by omega));have M1:=aa (MO.out w1 hp1);clear hk1 hp1 AKH MO K0;go_wp2_with fail;refine M1.out.mono ?_;rintro r w2 ⟨rfl,hk2,hp2⟩;have K2:=aa (af K1.out hk2);have BL2:=aa (aI BL1.out hk2 (by omega));have TY2:=aa (aT TY1.out hk2 (by omega));have E3:=aa (EX.out w2 hp2);clear hk2 hp2 M1 EX K1 BL1 TY1;go_wp2_with fail;refine E3.out.mono ?_;rintro r w3 ⟨v9,rfl,hn9,hk3,hp3⟩;have K3:=aa (af K2.out hk3);have BL3:=aa (aI BL2.out hk3 (by omega));have TY3:=aa (aT TY2.out hk3 (by omega));have N9:=aa hn9;obtain ⟨a9,n9,c9,rfl⟩:=bR hn9.1;have MM:=aa (MC.out w3 hp3);clear hk3 hp3 hn9 E3 MC K2 BL2 TY2;go_wp2_with fail;refine MM.out.mono ?_;rintro r w4 ⟨rfl,hk4,hp4⟩;have K4:=aa (af K3.out hk4);have BL4:=aa (aI BL3.out hk4 (by omega));have TY4:=aa (aT TY3.out hk4 (by omega));have P9:=aa hp4;have N8:Hid (okS (aY wClose (exprS (aY wOpen (aggKS st).2)).2)=true→NdsR w4 (gp+1) (.slice a9 n9 c9) (exprS (aY wOpen (aggKS st).2)).1):=fun e=>aU (N9.out.2 (f9 e)) hk4 (fun k e9=>by omega)
 clear hk4 hp4 MM N9 K3 BL3 TY3;have f0:=BL4.out.fz 0;have f1:=BL4.out.fz 1;have c0:=BL4.out.c 0 (by simp);have c1:=BL4.out.c 1 (by simp);simp only [List.getElem?_cons_zero,List.getElem?_cons_succ] at c0 c1;have Z:=aa (show BlkAt ((w4.setCell ⟨w.heap.size,0,none⟩ (.int .i64 k)).setCell ⟨w.heap.size,1,none⟩ (.slice a9 n9 c9)) w.heap.size [.int .i64 k,(.slice a9 n9 c9)] by simpa using ay (ay BL4.out 0 (.int .i64 k) (by simp)) 1 (.slice a9 n9 c9) (by simp));have KG:Hid (KeptB w4 ((w4.setCell ⟨w.heap.size,0,none⟩ (.int .i64 k)).setCell ⟨w.heap.size,1,none⟩ (.slice a9 n9 c9)) (fun q=>q=w.heap.size)):=ah (ah (ae (bad:=fun q=>q=w.heap.size) (Below.refl w4.heap.size w4)) rfl 0 _) rfl 1 _;clear BL BL4;go_wp2_with fail;generalize ((w4.setCell ⟨w.heap.size,0,none⟩ (.int .i64 k)).setCell ⟨w.heap.size,1,none⟩ (.slice a9 n9 c9))=wz at *;have z0:=Z.out.c 0 (by simp);have z1:=Z.out.c 1 (by simp);simp only [List.getElem?_cons_zero,List.getElem?_cons_succ] at z0 z1;refine bodyPost_ret (v:=.agg #[.int .i64 k,(.slice a9 n9 c9)]) (by simp [results,Tryz.results108,go_sem,z0,z1]) rfl ?_;unfold qd;rw [EA.out];exact ⟨_,rfl,⟨rfl,fun e=>.inr (pr (N8.out e) KG.out TY4.out agg_tyne)⟩,cO K4.out KG.out (Nat.le_refl _),gR P9.out KG.out hlt⟩
theorem pT (gp gm:Nat) (st:St) (w:World) (h:PXS w gp gm st) :
  Calls Tryz.prog 108 #[.pointer (some ⟨gp,0,none⟩)] w fun r w'=>qd gp gm st w r w':=by
 by_cases h2:(aggKS st).1=2
 ·cases h3:(aX wStar (aY wOpen (aggKS st).2)).1 with
  | true=>exact agg_star gp gm st w h h2 h3
  | false=>exact agg_two gp gm st w h h2 h3
 ·exact agg_oth gp gm st w h h2
def kb (keep b:Int):Bool:=(bits .and .u64 (keep / 2 ^ b.toNat) 1 == 1)
theorem fA {P:Program} {Q:Exit→Act→World→Prop} {K:Act→World→Prop} {o:Oper} {a:Act} {w:World} (t e:TypeId) (x:Operand) (ho:o.op=.buildSlice t 1 #[(0,x)]) (cw:List Value) (s:Nat) (hx:a.eval x=.agg cw.toArray) (ie:TypeInfo) (z:Value)
  (hu:P.underlying t=some (.slice e)) (hie:P.info? e=some ie) (hz:ie.zero=some z) (hs:ie.size=s) (hl:cw.length=s) (h0:0 < s) (h24:s≤2 ^ 24)
  (h:K (a.put o.dst (.slice (some ⟨w.heap.size,0,none⟩) 1 1)) (w.alloc (.cells cw.toArray e))):o.wp P a w K Q:=by
 refine wp_buildSlice t e 1 _ ho cw.toArray ie z hu hie hz (by rw [hs];omega) (by rw [hs];omega) ?_ h;have e1:((#[(0,x)]:Array (Nat×Operand)).map fun (i,x)=>(i,a.eval x)).toList=[(0,a.eval x)]:=by simp
 rw [e1,hx,hs];have h2:=Great.fill_whole h0 [Value.agg cw.toArray] ((Array.range (1 * s)).map (z.cells[· % z.cells.size]!)) (fun v hv=>by
  rw [List.mem_singleton.1 hv]
  simp [Value.cells,hl]) (by simp)
 simpa [Value.cells] using h2
end Go.Proofs.YtcgjflamgnjhcaaGreatDoor
