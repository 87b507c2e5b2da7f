/- The law question's steps, over this seat's translation. Conditions: as named. -/
import Derived.Test.YtcgjflamgnjhcaaGreatDoorPrsHJ
import Derived.Test.YtcgjflamgnjhcaaGreatDoorWinPureJ
set_option linter.unusedVariables false
set_option linter.unusedSimpArgs false
set_option maxRecDepth 100000
set_option maxHeartbeats 8000000
namespace Go.Proofs.YtcgjflamgnjhcaaGreatDoor
open Go.ChangeShapes Go.WideShapes Go.ChangeAt Go.RowKit
theorem listed (t:List Value) (h:t.length=71):∃ f:Nat→Value,t=f 0 :: f 1 :: f 2 :: f 3 :: f 4 :: f 5 :: f 6 :: f 7 :: f 8 :: f 9 :: f 10 :: f 11 :: f 12 :: f 13 :: f 14 :: f 15 :: f 16 :: f 17 :: f 18 :: f 19 :: f 20 :: f 21 :: f 22 :: f 23 :: f 24 :: f 25 :: f 26 :: f 27 :: f 28 :: f 29 :: f 30 :: f 31 :: f 32 :: f 33 :: f 34 :: f 35 :: f 36 :: f 37 :: f 38 :: f 39 :: f 40 :: f 41 :: f 42 :: f 43 :: f 44 :: f 45 :: f 46 :: f 47 :: f 48 :: f 49 :: f 50 :: f 51 :: f 52 :: f 53 :: f 54 :: f 55 :: f 56 :: f 57 :: f 58 :: f 59 :: f 60 :: f 61 :: f 62 :: f 63 :: f 64 :: f 65 :: f 66 :: f 67 :: f 68 :: f 69 :: f 70 :: []∧∀ i,i < 71→t[i]?=some (f i):=by
 have e1:t=(List.range 71).map (fun i=>t.getD i undef):=by
  apply List.ext_getElem
  ·simp [h]
  ·intro i h1 h2
   simp [List.getD,h1]
 refine ⟨fun i=>t.getD i undef,?_,fun i hi=>?_⟩
 ·have e2:∀ g:Nat→Value,(List.range 71).map g=g 0 :: g 1 :: g 2 :: g 3 :: g 4 :: g 5 :: g 6 :: g 7 :: g 8 :: g 9 :: g 10 :: g 11 :: g 12 :: g 13 :: g 14 :: g 15 :: g 16 :: g 17 :: g 18 :: g 19 :: g 20 :: g 21 :: g 22 :: g 23 :: g 24 :: g 25 :: g 26 :: g 27 :: g 28 :: g 29 :: g 30 :: g 31 :: g 32 :: g 33 :: g 34 :: g 35 :: g 36 :: g 37 :: g 38 :: g 39 :: g 40 :: g 41 :: g 42 :: g 43 :: g 44 :: g 45 :: g 46 :: g 47 :: g 48 :: g 49 :: g 50 :: g 51 :: g 52 :: g 53 :: g 54 :: g 55 :: g 56 :: g 57 :: g 58 :: g 59 :: g 60 :: g 61 :: g 62 :: g 63 :: g 64 :: g 65 :: g 66 :: g 67 :: g 68 :: g 69 :: g 70 :: []:=fun _=>rfl
  exact e1.trans (e2 _)
 ·simp [List.getD,h,hi]
theorem fQ {word:ByteArray} {st:St} (h:okS (aX word st).2=true):okS st=true:=by
 cases st with
 | error c=>simp [aX,okS] at h
 | ok ws=>rfl
theorem nh {st:St} (h:okS (exprS st).2=true):okS st=true:=by
 cases st with
 | error c=>simp [exprS,okS] at h
 | ok ws=>rfl
theorem iA {st:St} (h:okS (spanS st).2=true):okS st=true:=by
 cases st with
 | error c=>simp [spanS,okS] at h
 | ok ws=>rfl
theorem mT (c:Int):dC (.error c)=(⟨0,[]⟩,.error c):=rfl
theorem pq {st:St} (h:okS (dC st).2=true):okS st=true:=by
 cases st with
 | error c=>rw [mT] at h;cases h
 | ok ws=>rfl
def wlS:St→Nat
 | .error _=>0
 | .ok ws=>ws.length
theorem me {word:ByteArray} {st:St} (h:(aX word st).1=true):wlS (aX word st).2+1=wlS st:=by
 cases st with
 | error c=>simp [aX] at h
 | ok ws =>
  simp only [aX] at h ⊢;cases ht:tk word ws with
  | none=>rw [ht] at h;cases h
  | some r=>exact cY ht
theorem iR (word:ByteArray) (st:St):wlS (aY word st)≤wlS st:=by
 cases st with
 | error c=>exact Nat.le_refl _
 | ok ws =>
  simp only [aY];cases ht:tk word ws with
  | none=>exact Nat.zero_le _
  | some r=>have:=cY ht;simp only [wlS];omega
theorem wl_take_le (word:ByteArray) (st:St):wlS (aX word st).2≤wlS st:=by
 cases h:(aX word st).1 with
 | true=>have:=me h;omega
 | false=>rw [dy h];exact Nat.le_refl _
theorem wl_expr (st:St):wlS (exprS st).2≤wlS st:=by
 cases st with
 | error c=>exact Nat.le_refl _
 | ok ws =>
  simp only [exprS];cases hl:lev FU 0 ws 0 with
  | error c=>exact Nat.zero_le _
  | ok p=>exact (lev_sh FU 0 ws 0 (by decide)) p.1 p.2 (by rw [hl])
theorem wl_aggK (st:St):wlS (aggKS st).2≤wlS st:=by
 cases st with
 | error c=>exact Nat.le_refl _
 | ok ws =>
  simp only [aggKS];cases ha:lS ws with
  | none=>exact Nat.zero_le _
  | some p =>
   obtain ⟨k,r⟩:=p
   show r.length≤ws.length
   unfold lS at ha;cases h1:tk wCount ws with
   | some r1=>rw [h1] at ha;cases ha;have:=cY h1;omega
   | none =>
    rw [h1] at ha
    simp only at ha
    cases h2:tk wSum ws with
    | some r1=>rw [h2] at ha;cases ha;have:=cY h2;omega
    | none =>
     rw [h2] at ha
     simp only at ha
     cases h3:tk wMin ws with
     | some r1=>rw [h3] at ha;cases ha;have:=cY h3;omega
     | none =>
      rw [h3] at ha
      simp only at ha
      cases h4:tk wMax ws with
      | some r1=>rw [h4] at ha;cases ha;have:=cY h4;omega
      | none=>rw [h4] at ha;cases ha
theorem mC (st:St):wlS (dC st).2≤wlS st:=by
 have h1:=wl_aggK st;have h2:=iR wOpen (aggKS st).2;unfold dC
 by_cases h:(aggKS st).1=2∧(aX wStar (aY wOpen (aggKS st).2)).1=true
 ·simp only [if_pos h];have h3:=wl_take_le wStar (aY wOpen (aggKS st).2);have h4:=iR wClose (aX wStar (aY wOpen (aggKS st).2)).2;omega
 ·simp only [if_neg h];have h3:=wl_expr (aY wOpen (aggKS st).2);have h4:=iR wClose (exprS (aY wOpen (aggKS st).2)).2;omega
def bw (p:AgQ×Value):List Value:=[.int .i64 p.1.kind,p.2]
def jI (w:World) (B0 B:Nat) (va:Value) (l:List AgQ) (ok:Bool):Prop :=
 ∃ ps:List (AgQ×Value),ps.map Prod.fst=l∧w.ownsRow B0 143 2 va l.length (ps.flatMap bw)∧(∀ p∈ps,isSl p.2=true)∧(ok=true→∀ p∈ps,mi w B p.2 p.1.of)
theorem aggs_kept {w w':World} {B0 B:Nat} {va:Value} {l:List AgQ} {ok ok':Bool} {bad:Nat→Prop} (h:jI w B0 B va l ok) (hk:KeptB w w' bad) (hb:∀ k,bad k→k < B) (hb0:∀ k,bad k→k < B0) (ho:ok'=true→ok=true):jI w' B0 B va l ok':=by
 obtain ⟨ps,h1,h2,h3,h4⟩:=h;exact ⟨ps,h1,bg h2 hk (fun k e h9=>by have:=hb0 k h9;have:=(aJ h2 k e).1;omega),h3,fun e p hp=>fD (h4 (ho e) p hp) hk hb⟩
theorem oF {w w':World} {B0 B g t:Nat} {va:Value} {l:List AgQ} {ok:Bool} (h:jI w B0 B va l ok) (hk:KeptB w w' (fun q=>q=g)) (ht:m6 w g t) (hne:t≠153) (hne2:t≠143):jI w' B0 B va l ok:=by
 obtain ⟨ps,h1,h2,h3,h4⟩:=h;exact ⟨ps,h1,bg h2 hk (fun k e h9=>by subst h9;exact g7 h2 ht hne2 e),h3,fun e p hp=>ga (h4 e p hp) hk ht hne⟩
theorem kz {w:World} {B0 B:Nat} {va:Value} {l:List AgQ} {ok:Bool} (h:jI w B0 B va l ok):isSl va=true:=by
 obtain ⟨ps,h1,h2,-⟩:=h;obtain ⟨ao,cap,rfl⟩:=ax h2
 rfl
theorem gL {w w':World} {B:Nat} {v:Value} {l:List Nd} {ok ok':Bool} {bad:Nat→Prop} (h:kZ w B v l ok) (hk:KeptB w w' bad) (hb:∀ k,bad k→k < B) (ho:ok'=true→ok=true):kZ w' B v l ok':=⟨h.1,fun e=>fD (h.2 (ho e)) hk hb⟩
theorem gW {w w':World} {B g t:Nat} {v:Value} {l:List Nd} {ok:Bool} (h:kZ w B v l ok) (hk:KeptB w w' (fun q=>q=g)) (ht:m6 w g t) (hne:t≠153):kZ w' B v l ok:=⟨h.1,fun e=>ga (h.2 e) hk ht hne⟩
theorem tabQ_keptB {w w':World} {bad:Nat→Prop} (h:TabQ w) (hk:KeptB w w' bad) (hg:∀ k,bad k→7≤k):TabQ w':=by
 have hz:=h.t.sz;have hb:Below 7 w w':=⟨hk.b0.os,hk.b0.tape,hk.b0.output,hk.b0.size,fun k hk9=>hk.block k (by omega) (fun e=>by have:=hg k e;omega)⟩;have hc:∀ j,w'.cell? ⟨3,j,none⟩=w.cell? ⟨3,j,none⟩:=fun j=>hb.cell (p:=⟨3,j,none⟩) (by show 3 < 7;decide)
 refine ⟨⟨var?_below hb powG (by decide) h.t.pow,Nat.le_trans hz hb.size,?_,?_⟩,(hc 0).trans h.f0,(hc 1).trans h.f1,(hc 2).trans h.f2,(hc 3).trans h.f3⟩
 ·obtain ⟨tp,p,hv⟩:=h.t.syn;exact ⟨tp,p,var?_below hb synG (by decide) hv⟩
 ·obtain ⟨tp,p,hv⟩:=h.t.rng;exact ⟨tp,p,var?_below hb rngG (by decide) hv⟩
theorem pxs_farB {w w':World} {gp gm:Nat} {st:St} {bad:Nat→Prop} (h:PXS w gp gm st) (hk:KeptB w w' bad) (hb:∀ k,bad k→gp < k):PXS w' gp gm st:=by
 have one:∀ wv ws d e,PX w gp gm wv ws d e→PX w' gp gm wv ws d e:=fun wv ws d e h=>⟨ow h.ps hk hb,tabQ_keptB h.tq hk (fun k e9=>by have:=hb k e9;have:=h.lo;omega),h.wq,h.lo⟩
 cases st with
 | ok ws=>obtain ⟨wv,h⟩:=h;exact ⟨wv,one _ _ _ _ h⟩
 | error c=>obtain ⟨h0,wv,h⟩:=h;exact ⟨h0,wv,one _ _ _ _ h⟩
theorem own_tyAt {w:World} {base size n:Nat} {e:TypeId} {v:Value} {xs:List Value} (h:w.ownsRow base e size v n xs) {k:Nat} (hk:v.ownBlock=some k):m6 w k e:=by
 rcases h.2 with ⟨rfl,-⟩ | ⟨g1,cap,cur,rfl,-,hg,-⟩
 ·simp [Value.ownBlock] at hk
 ·simp only [Value.ownBlock,Option.some.injEq] at hk;subst hk;exact ⟨cur,_,hg⟩
theorem iz {w w':World} {B t:Nat} {v:Value} {l:List Nd} {bad:Nat→Prop} (h:mi w B v l) (hk:KeptB w w' bad) (ht:∀ k,bad k→m6 w k t) (hne:t≠153):mi w' B v l:=by
 rcases h with h | h
 ·exact .inl h
 ·exact .inr ⟨bg h.1 hk (fun k e h9=>g7 h.1 (ht k h9) hne e),h.2⟩
structure QS (W w:World) (gp gm gr gq:Nat) (st:St) (va vw vb:Value) (q:Qy):Prop where
 kp:KeptB W w (fun q=>q=gp)
 ps:PXS w gp gm st
 bq:BlkAt w gq [va,vw,vb,.int .i64 q.size,.int .i64 q.slide,.int .i64 q.delay,.int .i64 q.late]
 br:BlkAt w gr [.slice none 0 0,.slice none 0 0,.slice none 0 0,.int .i64 0,.int .i64 0,.int .i64 0,.int .i64 0]
 tq:m6 w gq 28
 tr:m6 w gr 28
 lr:W.heap.size≤gr
 lq:gr < gq
 lp:gp < W.heap.size
 ag:jI w W.heap.size (gp+1) va q.aggs (okS st)
 hw:kZ w (gp+1) vw q.wh (okS st)
 hb:kZ w (gp+1) vb q.bys (okS st)
theorem qty_node:(28:Nat)≠153:=by decide
theorem qty_agg:(28:Nat)≠143:=by decide
theorem bu {W w w':World} {gp gm gr gq:Nat} {st st':St} {va vw vb:Value} {q:Qy} (h:QS W w gp gm gr gq st va vw vb q) (hk:KeptB w w' (fun q=>q=gp)) (hp:PXS w' gp gm st') (ho:okS st'=true→okS st=true):QS W w' gp gm gr gq st' va vw vb q:=by
 have l1:=h.lr;have l2:=h.lq;have l3:=h.lp;exact ⟨af h.kp hk,hp,aI h.bq hk (by omega),aI h.br hk (by omega),aT h.tq hk (by omega),aT h.tr hk (by omega),l1,l2,l3,aggs_kept h.ag hk (fun k e=>by omega) (fun k e=>by omega) ho,gL h.hw hk (fun k e=>by omega) ho,gL h.hb hk (fun k e=>by omega) ho⟩
theorem eZ {W w:World} {gp gm gr gq:Nat} {st:St} {va vw vb va' vw' vb':Value} {q q':Qy} (h:QS W w gp gm gr gq st va vw vb q) (k:Nat) (u:Value)
  (hb:BlkAt (w.setCell ⟨gq,k,none⟩ u) gq [va',vw',vb',.int .i64 q'.size,.int .i64 q'.slide,.int .i64 q'.delay,.int .i64 q'.late]) (h1:jI w W.heap.size (gp+1) va' q'.aggs (okS st)) (h2:kZ w (gp+1) vw' q'.wh (okS st)) (h3:kZ w (gp+1) vb' q'.bys (okS st)) :
  QS W (w.setCell ⟨gq,k,none⟩ u) gp gm gr gq st va' vw' vb' q':=by
 have l1:=h.lr;have l2:=h.lq;have l3:=h.lp;have ks:KeptB w (w.setCell ⟨gq,k,none⟩ u) (fun q=>q=gq):=ah (ae (bad:=fun q=>q=gq) (Below.refl w.heap.size w)) rfl k u;exact ⟨cO h.kp ks (by omega),gR h.ps ks (by omega),hb,aI h.br ks (by omega),iJ h.tq _ _ _,iJ h.tr _ _ _,l1,l2,l3,oF h1 ks h.tq qty_node qty_agg,gW h2 ks h.tq qty_node,gW h3 ks h.tq qty_node⟩
theorem pG {W w w5:World} {gp gm gr gq:Nat} {st:St} {va vw vb va' v9:Value} {q:Qy} (h:QS W w gp gm gr gq st va vw vb q) (a:AgQ) (ps:List (AgQ×Value)) (hm:ps.map Prod.fst=q.aggs) (hown:w.ownsRow W.heap.size 143 2 va q.aggs.length (ps.flatMap bw)) (hsl:∀ p∈ps,isSl p.2=true) (hop:okS st=true→∀ p∈ps,mi w (gp+1) p.2 p.1.of)
  (hg:w.grownBy w5 va.ownBlock) (ho:w5.ownsRow W.heap.size 143 2 va' (q.aggs.length+1) (ps.flatMap bw++bw (a,v9))) (h9:kZ w (gp+1) v9 a.of (okS st)) (hob:va'.ownBlock=va.ownBlock∨va'.ownBlock=some w.heap.size) :
  QS W (w5.setCell ⟨gq,0,none⟩ va') gp gm gr gq st va' vw vb { q with aggs:=q.aggs++[a] }:=by
 have l1:=h.lr;have l2:=h.lq;have l3:=h.lp;have l4:=h.bq.lt;have KG:KeptB w w5 (fun k=>va.ownBlock=some k):=cV (ae (Below.refl _ _)) hg (fun k e _=>e);have NT:∀ k,va.ownBlock=some k→m6 w k 143:=fun k e=>own_tyAt hown e
 have NW:∀ k,va.ownBlock=some k→W.heap.size≤k:=fun k e=>(aJ hown k e).1
 have nq:=g7 hown h.tq qty_agg;have nr:=g7 hown h.tr qty_agg;have ks:KeptB w5 (w5.setCell ⟨gq,0,none⟩ va') (fun k=>k=gq):=ah (ae (bad:=fun k=>k=gq) (Below.refl w5.heap.size w5)) rfl 0 va';have tq5:=aT h.tq KG nq;have hw5:w.heap.size≤w5.heap.size:=hg.size;refine ⟨?_,gR (pxs_farB h.ps KG (fun k e=>by have:=NW k e;omega)) ks (by omega),?_,aI (fB h.br hg nr) ks (by omega),iJ tq5 _ _ _,iJ (aT h.tr KG nr) _ _ _,l1,l2,l3,?_,gW ⟨h.hw.1,fun e=>iz (h.hw.2 e) KG NT agg_tyne⟩ ks tq5 qty_node,gW ⟨h.hb.1,fun e=>iz (h.hb.2 e) KG NT agg_tyne⟩ ks tq5 qty_node⟩
 ·refine cO (w1:=w5) ⟨h.kp.b0.trans KG.b0,fun k hk hn=>?_⟩ ks (by omega);rw [KG.block k (Nat.lt_of_lt_of_le hk h.kp.b0.size) (fun e=>by have:=NW k e;omega)];exact h.kp.block k hk hn
 ·simpa using ay (fB h.bq hg nq) 0 va' (by simp)
 ·refine ⟨ps++[(a,v9)],by simp [hm],?_,?_,?_⟩
  ·have e1:(ps++[(a,v9)]).flatMap bw=ps.flatMap bw++bw (a,v9):=by simp
   rw [e1];have e2:({ q with aggs:=q.aggs++[a] }:Qy).aggs.length=q.aggs.length+1:=by simp
   rw [e2];refine bg ho ks (fun k e h8=>?_);subst h8
   rcases hob with h7 | h7
   ·exact nq (h7 ▸ e)
   ·rw [h7] at e
    have:=Option.some.inj e
    omega
  ·intro p hp
   rcases List.mem_append.1 hp with hp | hp
   ·exact hsl p hp
   ·rw [List.mem_singleton.1 hp];exact h9.1
  ·intro e p hp
   rcases List.mem_append.1 hp with hp | hp
   ·exact ga (iz (hop e p hp) KG NT agg_tyne) ks tq5 qty_node
   ·rw [List.mem_singleton.1 hp];exact ga (iz (h9.2 e) KG NT agg_tyne) ks tq5 qty_node
theorem iZ {t:TypeId} {z:Value} {a b c:Nat} (h:(Tryz.prog.info? t).map (fun i=>(i.zero,i.size,i.bytes,(i.zero.map (·.cells.size))))=some (some z,a,b,some c)):∃ i,Tryz.prog.info? t=some i∧i.zero=some z∧i.size=a∧i.bytes=b:=by
 cases hi:Tryz.prog.info? t with
 | none=>rw [hi] at h;cases h
 | some i =>
  rw [hi] at h;simp only [Option.map_some,Option.some.injEq,Prod.mk.injEq] at h;exact ⟨i,rfl,h.1,h.2.1,h.2.2.1⟩
theorem infoAgg:(Tryz.prog.info? 143).map (fun i=>(i.zero,i.size,i.bytes,(i.zero.map (·.cells.size))))=some (some (.agg #[.int .i64 0,.slice none 0 0]),2,32,some 2):=by kernel_rfl
theorem qMust2 (Q:Exit→Act→World→Prop) (C2:Code) (h2:rgn 2 (Tryz.f70.body.getD .skip)=some C2) (t:List Value) (gp gm gr gq:Nat) (st:St) (va vw vb:Value) (q:Qy) (W w:World) (ht:t.length=71) (k0:t[0]?=some (.pointer (some ⟨gp,0,none⟩))) (k2:t[2]?=some (.pointer (some ⟨gr,0,none⟩))) (k3:t[3]?=some (.pointer (some ⟨gq,0,none⟩)))
  (h:QS W w gp gm gr gq st va vw vb q)
  (hQ:∀ (t':List Value)  (w':World),t'.length=71→t'[0]?=some (.pointer (some ⟨gp,0,none⟩))→t'[2]?=some (.pointer (some ⟨gr,0,none⟩))→t'[3]?=some (.pointer (some ⟨gq,0,none⟩))→QS W w' gp gm gr gq (aY wSelect st) va vw vb q→Q .normal { tmps:=t'.toArray,defers:=[] } w') :
  Code.wp Tryz.prog C2 Q { tmps:=t.toArray,defers:=[] } w:=by
 have HQ:=aa hQ;have H:=aa h;clear hQ h;have MU:=aa (eg gp gm wSelect (by decide) st w H.out.ps);obtain ⟨f,hf,hi⟩:=listed t ht;have e0:=am (hi 0 (by decide)) k0;have e2:=am (hi 2 (by decide)) k2;have e3:=am (hi 3 (by decide)) k3;rw [e0,e2,e3] at hf;clear hi ht k0 e0 k2 e2 k3 e3;subst hf;unfold Tryz.f70 at h2
 simp [rgn] at h2
 subst h2;go_wp2_with fail;refine MU.out.mono ?_;rintro r w1 ⟨rfl,hk,hp⟩;have H1:=aa (bu H.out hk hp f9);clear hk hp MU H;go_wp2_with fail;exact HQ.out _  _ rfl rfl rfl rfl H1.out
theorem qAdd3 (Q:Exit→Act→World→Prop) (C3:Code) (h3:rgn 3 (Tryz.f70.body.getD .skip)=some C3) (t:List Value) (gp gm gr gq:Nat) (st:St) (va vw vb:Value) (q:Qy) (W w:World) (ht:t.length=71) (k0:t[0]?=some (.pointer (some ⟨gp,0,none⟩))) (k2:t[2]?=some (.pointer (some ⟨gr,0,none⟩))) (k3:t[3]?=some (.pointer (some ⟨gq,0,none⟩)))
  (h:QS W w gp gm gr gq st va vw vb q) (hn:q.aggs.length≤200)
  (hpan:∀ c (a:Act) o v w,Q (.panic c) (a.put o v) w→Q (.panic c) a w)
  (hQ:∀ (t':List Value) (va':Value) (w':World),t'.length=71→t'[0]?=some (.pointer (some ⟨gp,0,none⟩))→t'[2]?=some (.pointer (some ⟨gr,0,none⟩))→t'[3]?=some (.pointer (some ⟨gq,0,none⟩))→QS W w' gp gm gr gq (dC st).2 va' vw vb { q with aggs:=q.aggs++[(dC st).1] }→Q .normal { tmps:=t'.toArray,defers:=[] } w') :
  Code.wp Tryz.prog C3 Q { tmps:=t.toArray,defers:=[] } w:=by
 have HQ:=aa hQ;have H:=aa h;clear hQ h;have HPN:=aa hpan;have AG:=aa (pT gp gm st ({ w with drawn:=w.drawn+1 }:World) (bZ H.out.ps (Below.refl _ _).drew));have cq:=H.out.bq.c 0 (by simp);simp only [List.getElem?_cons_zero] at cq;have lgq:=H.out.bq.lt;obtain ⟨i0,hi,hz0,hz1',hz2'⟩:=iZ infoAgg;have hsz:=kz H.out.ag;have nq:¬ (gq=gp∨va.ownBlock=some gq):=by
  rintro (e | e)
  ·have:=H.out.lr;have:=H.out.lq;have:=H.out.lp;omega
  ·obtain ⟨ps,h1,h2,-⟩:=H.out.ag;exact g7 h2 H.out.tq qty_agg e
 have l1:=H.out.lr;have l2:=H.out.lq;have l3:=H.out.lp;obtain ⟨a8,n8,c8,rfl⟩:=bR hsz;have hS:KeptB w ({ w with drawn:=w.drawn+1 }:World) (fun k=>k=gp∨(Value.slice a8 n8 c8).ownBlock=some k):=ae (Below.refl _ _).drew;have H0:=H;have H:Hid (QS W ({ w with drawn:=w.drawn+1 }:World) gp gm gr gq st (.slice a8 n8 c8) vw vb q):=bu H0.out (ae (Below.refl _ _).drew) (bZ H0.out.ps (Below.refl _ _).drew) id;clear H0 hsz hpan;obtain ⟨f,hf,hi⟩:=listed t ht;have e0:=am (hi 0 (by decide)) k0;have e2:=am (hi 2 (by decide)) k2;have e3:=am (hi 3 (by decide)) k3;rw [e0,e2,e3] at hf;clear hi ht k0 e0 k2 e2 k3 e3;subst hf;unfold Tryz.f70 at h3
 simp [rgn] at h3
 subst h3;refine aV (fun w'=>KeptB w w' (fun k=>k=gp∨(Value.slice a8 n8 c8).ownBlock=some k)) 7 (by kernel_rfl) ?_;generalize ({ w with drawn:=w.drawn+1 }:World)=wd at *;refine dI (i:=0) (v:=.pointer (some ⟨gq,0,none⟩)) (L:=#[true,false,false,false,false,false,false,false]) [1,5,6,7] rfl (by kernel_rfl) (by kernel_rfl) (by kernel_rfl) (by kernel_rfl) (by kernel_rfl) (fun c a w h=>HPN.out c _ _ _ _ h) (Or.inl ⟨by kernel_rfl,fun wq hq=>by go_simp⟩) hS (by kernel_rfl) ?_;refine dI (i:=1) (v:=.slice a8 n8 c8) (L:=#[true,true,false,false,false,false,false,false]) [5,6,7] rfl (by kernel_rfl) (by kernel_rfl) (by kernel_rfl) (by kernel_rfl) (by kernel_rfl) (fun c a w h=>HPN.out c _ _ _ _ h) (Or.inl ⟨by kernel_rfl,fun wq hq=>by have q9:=aB hq 0 lgq nq;rw [cq] at q9;go_simp⟩) hS (by kernel_rfl) ?_;refine dI (i:=2) (v:=.pointer (some ⟨gp,0,none⟩)) (L:=#[true,true,true,false,false,false,false,false]) [3,4,5,6,7] rfl (by kernel_rfl) (by kernel_rfl) (by kernel_rfl) (by kernel_rfl) (by kernel_rfl) (fun c a w h=>HPN.out c _ _ _ _ h) (Or.inl ⟨by kernel_rfl,fun wq hq=>by go_simp⟩) hS (by kernel_rfl) ?_;refine LG 3 rfl ?_;intro K' hK;go_simp;refine AG.out.mono ?_;rintro e w1 ⟨v1,rfl,ho1,hk1,hp1⟩;have hS1:KeptB w w1 (fun k=>k=gp∨(Value.slice a8 n8 c8).ownBlock=some k):=af hS (cW hk1 (fun k e=>.inl e));have H1:=aa (bu H.out hk1 hp1 pq);have O1:=aa ho1;obtain ⟨a9,n9,c9,rfl⟩:=bR ho1.1;clear AG hk1 hp1 ho1;refine hK _ _ ⟨fun _=>hS1,?_⟩;clear hK;refine LG 4 rfl ?_;intro K' hK;have ba:=aj w1 (.cells [.int .i64 (dC st).1.kind,.slice a9 n9 c9].toArray 143);have hS2:KeptB w (w1.alloc (.cells [.int .i64 (dC st).1.kind,.slice a9 n9 c9].toArray 143)) (fun k=>k=gp∨(Value.slice a8 n8 c8).ownBlock=some k):=af hS1 (ae ba);have BN:=aa (az w1 [.int .i64 (dC st).1.kind,.slice a9 n9 c9] 143);have O2:=aa (gL (ok':=okS (dC st).2) O1.out (ae (bad:=fun _=>False) ba) (fun k e9=>e9.elim) id);have H2:=aa (bu H1.out (ae ba) (bZ H1.out.ps ba) id);obtain ⟨ps,hm,hown,hsl,hop⟩:=H2.out.ag;have HM:=aa hm;have OW:=aa hown;have HSL:=aa hsl;have HOP:=aa hop;have hb1:=(je H1.out.ps);have hz1:=ba.size;have hbw:W.heap.size≤(w1.alloc (.cells [.int .i64 (dC st).1.kind,.slice a9 n9 c9].toArray 143)).heap.size:=by have:=H2.out.kp.b0.size;exact this
 refine fA 25 143 (.tmp 9) rfl [.int .i64 (dC st).1.kind,.slice a9 n9 c9] 2 (by kernel_rfl) i0 _ Tryz.underlying25 hi hz0 hz1' rfl (by decide) (by decide) ?_;refine hK _ _ ⟨fun _=>hS2,?_⟩;clear hK hm hown hsl hop;refine LG 5 rfl ?_;intro K' hK;refine cN (.tmp 7) (.tmp 10) 25 rfl W.heap.size 143 i0 _ 2 32 Tryz.underlying25 hi hz0 hz1' hz2' (by kernel_rfl) (by decide) (.slice a8 n8 c8) q.aggs.length (ps.flatMap bw) (by kernel_rfl) OW.out ⟨w1.heap.size,0,none⟩ 1 1 [.int .i64 (dC st).1.kind,.slice a9 n9 c9] (by kernel_rfl) rfl (fun j u hu=>by rw [jW,Nat.zero_add,BN.out.c j (List.getElem?_eq_some_iff.1 hu).1];exact hu) (by simp [Value.oneCell']) (by show _≤2 ^ 63 - 1;omega) (by omega) (by omega) ?_;intro v' w5 ho hg hob2;obtain ⟨ao',cap',rfl⟩:=ax ho;have hS5:=cV hS2 hg (fun k hk _=>.inr hk);have HOW:=aa ho;have HG:=aa hg;have HOB:=aa hob2;refine hK _ _ ⟨fun _=>hS5,?_⟩;clear hK ho hg hob2;refine LG 6 rfl ?_;intro K' hK;go_simp;refine hK _ _ ⟨fun _=>hS5,?_⟩;clear hK;refine LG 7 rfl ?_;intro K' hK;have NQ:=aa (g7 OW.out H2.out.tq qty_agg);have BQ5:=aa (fB H2.out.bq HG.out NQ.out);have cy:=BQ5.out.c 0 (by simp);have fy:=BQ5.out.fz 0;simp only [List.getElem?_cons_zero] at cy;go_simp;refine hK _ _ ⟨fun h=>absurd rfl h,?_⟩;clear hK cy fy;refine bI (by kernel_rfl) ?_ _;have H5:=aa (pG H2.out (dC st).1 ps HM.out OW.out HSL.out HOP.out HG.out HOW.out O2.out HOB.out);exact HQ.out _ _ _ rfl rfl rfl rfl H5.out
theorem qAdd5 (Q:Exit→Act→World→Prop) (C5:Code) (h5:rgn 5 (Tryz.f70.body.getD .skip)=some C5) (t:List Value) (gp gm gr gq:Nat) (st:St) (va vw vb:Value) (q:Qy) (W w:World) (ht:t.length=71) (k0:t[0]?=some (.pointer (some ⟨gp,0,none⟩))) (k2:t[2]?=some (.pointer (some ⟨gr,0,none⟩))) (k3:t[3]?=some (.pointer (some ⟨gq,0,none⟩)))
  (h:QS W w gp gm gr gq st va vw vb q) (hn:q.aggs.length≤200)
  (hpan:∀ c (a:Act) o v w,Q (.panic c) (a.put o v) w→Q (.panic c) a w)
  (hQ:∀ (t':List Value) (va':Value) (w':World),t'.length=71→t'[0]?=some (.pointer (some ⟨gp,0,none⟩))→t'[2]?=some (.pointer (some ⟨gr,0,none⟩))→t'[3]?=some (.pointer (some ⟨gq,0,none⟩))→QS W w' gp gm gr gq (dC st).2 va' vw vb { q with aggs:=q.aggs++[(dC st).1] }→Q .normal { tmps:=t'.toArray,defers:=[] } w') :
  Code.wp Tryz.prog C5 Q { tmps:=t.toArray,defers:=[] } w:=by
 have HQ:=aa hQ;have H:=aa h;clear hQ h;have HPN:=aa hpan;have AG:=aa (pT gp gm st ({ w with drawn:=w.drawn+1 }:World) (bZ H.out.ps (Below.refl _ _).drew));have cq:=H.out.bq.c 0 (by simp);simp only [List.getElem?_cons_zero] at cq;have lgq:=H.out.bq.lt;obtain ⟨i0,hi,hz0,hz1',hz2'⟩:=iZ infoAgg;have hsz:=kz H.out.ag;have nq:¬ (gq=gp∨va.ownBlock=some gq):=by
  rintro (e | e)
  ·have:=H.out.lr;have:=H.out.lq;have:=H.out.lp;omega
  ·obtain ⟨ps,h1,h2,-⟩:=H.out.ag;exact g7 h2 H.out.tq qty_agg e
 have l1:=H.out.lr;have l2:=H.out.lq;have l3:=H.out.lp;obtain ⟨a8,n8,c8,rfl⟩:=bR hsz;have hS:KeptB w ({ w with drawn:=w.drawn+1 }:World) (fun k=>k=gp∨(Value.slice a8 n8 c8).ownBlock=some k):=ae (Below.refl _ _).drew;have H0:=H;have H:Hid (QS W ({ w with drawn:=w.drawn+1 }:World) gp gm gr gq st (.slice a8 n8 c8) vw vb q):=bu H0.out (ae (Below.refl _ _).drew) (bZ H0.out.ps (Below.refl _ _).drew) id;clear H0 hsz hpan;obtain ⟨f,hf,hi⟩:=listed t ht;have e0:=am (hi 0 (by decide)) k0;have e2:=am (hi 2 (by decide)) k2;have e3:=am (hi 3 (by decide)) k3;rw [e0,e2,e3] at hf;clear hi ht k0 e0 k2 e2 k3 e3;subst hf;unfold Tryz.f70 at h5
 simp [rgn] at h5
 subst h5;refine aV (fun w'=>KeptB w w' (fun k=>k=gp∨(Value.slice a8 n8 c8).ownBlock=some k)) 7 (by kernel_rfl) ?_;generalize ({ w with drawn:=w.drawn+1 }:World)=wd at *;refine dI (i:=0) (v:=.pointer (some ⟨gq,0,none⟩)) (L:=#[true,false,false,false,false,false,false,false]) [1,5,6,7] rfl (by kernel_rfl) (by kernel_rfl) (by kernel_rfl) (by kernel_rfl) (by kernel_rfl) (fun c a w h=>HPN.out c _ _ _ _ h) (Or.inl ⟨by kernel_rfl,fun wq hq=>by go_simp⟩) hS (by kernel_rfl) ?_;refine dI (i:=1) (v:=.slice a8 n8 c8) (L:=#[true,true,false,false,false,false,false,false]) [5,6,7] rfl (by kernel_rfl) (by kernel_rfl) (by kernel_rfl) (by kernel_rfl) (by kernel_rfl) (fun c a w h=>HPN.out c _ _ _ _ h) (Or.inl ⟨by kernel_rfl,fun wq hq=>by have q9:=aB hq 0 lgq nq;rw [cq] at q9;go_simp⟩) hS (by kernel_rfl) ?_;refine dI (i:=2) (v:=.pointer (some ⟨gp,0,none⟩)) (L:=#[true,true,true,false,false,false,false,false]) [3,4,5,6,7] rfl (by kernel_rfl) (by kernel_rfl) (by kernel_rfl) (by kernel_rfl) (by kernel_rfl) (fun c a w h=>HPN.out c _ _ _ _ h) (Or.inl ⟨by kernel_rfl,fun wq hq=>by go_simp⟩) hS (by kernel_rfl) ?_;refine LG 3 rfl ?_;intro K' hK;go_simp;refine AG.out.mono ?_;rintro e w1 ⟨v1,rfl,ho1,hk1,hp1⟩;have hS1:KeptB w w1 (fun k=>k=gp∨(Value.slice a8 n8 c8).ownBlock=some k):=af hS (cW hk1 (fun k e=>.inl e));have H1:=aa (bu H.out hk1 hp1 pq);have O1:=aa ho1;obtain ⟨a9,n9,c9,rfl⟩:=bR ho1.1;clear AG hk1 hp1 ho1;refine hK _ _ ⟨fun _=>hS1,?_⟩;clear hK;refine LG 4 rfl ?_;intro K' hK;have ba:=aj w1 (.cells [.int .i64 (dC st).1.kind,.slice a9 n9 c9].toArray 143);have hS2:KeptB w (w1.alloc (.cells [.int .i64 (dC st).1.kind,.slice a9 n9 c9].toArray 143)) (fun k=>k=gp∨(Value.slice a8 n8 c8).ownBlock=some k):=af hS1 (ae ba);have BN:=aa (az w1 [.int .i64 (dC st).1.kind,.slice a9 n9 c9] 143);have O2:=aa (gL (ok':=okS (dC st).2) O1.out (ae (bad:=fun _=>False) ba) (fun k e9=>e9.elim) id);have H2:=aa (bu H1.out (ae ba) (bZ H1.out.ps ba) id);obtain ⟨ps,hm,hown,hsl,hop⟩:=H2.out.ag;have HM:=aa hm;have OW:=aa hown;have HSL:=aa hsl;have HOP:=aa hop;have hb1:=(je H1.out.ps);have hz1:=ba.size;have hbw:W.heap.size≤(w1.alloc (.cells [.int .i64 (dC st).1.kind,.slice a9 n9 c9].toArray 143)).heap.size:=by have:=H2.out.kp.b0.size;exact this
 refine fA 25 143 (.tmp 18) rfl [.int .i64 (dC st).1.kind,.slice a9 n9 c9] 2 (by kernel_rfl) i0 _ Tryz.underlying25 hi hz0 hz1' rfl (by decide) (by decide) ?_;refine hK _ _ ⟨fun _=>hS2,?_⟩;clear hK hm hown hsl hop;refine LG 5 rfl ?_;intro K' hK;refine cN (.tmp 16) (.tmp 19) 25 rfl W.heap.size 143 i0 _ 2 32 Tryz.underlying25 hi hz0 hz1' hz2' (by kernel_rfl) (by decide) (.slice a8 n8 c8) q.aggs.length (ps.flatMap bw) (by kernel_rfl) OW.out ⟨w1.heap.size,0,none⟩ 1 1 [.int .i64 (dC st).1.kind,.slice a9 n9 c9] (by kernel_rfl) rfl (fun j u hu=>by rw [jW,Nat.zero_add,BN.out.c j (List.getElem?_eq_some_iff.1 hu).1];exact hu) (by simp [Value.oneCell']) (by show _≤2 ^ 63 - 1;omega) (by omega) (by omega) ?_;intro v' w5 ho hg hob2;obtain ⟨ao',cap',rfl⟩:=ax ho;have hS5:=cV hS2 hg (fun k hk _=>.inr hk);have HOW:=aa ho;have HG:=aa hg;have HOB:=aa hob2;refine hK _ _ ⟨fun _=>hS5,?_⟩;clear hK ho hg hob2;refine LG 6 rfl ?_;intro K' hK;go_simp;refine hK _ _ ⟨fun _=>hS5,?_⟩;clear hK;refine LG 7 rfl ?_;intro K' hK;have NQ:=aa (g7 OW.out H2.out.tq qty_agg);have BQ5:=aa (fB H2.out.bq HG.out NQ.out);have cy:=BQ5.out.c 0 (by simp);have fy:=BQ5.out.fz 0;simp only [List.getElem?_cons_zero] at cy;go_simp;refine hK _ _ ⟨fun h=>absurd rfl h,?_⟩;clear hK cy fy;refine bI (by kernel_rfl) ?_ _;have H5:=aa (pG H2.out (dC st).1 ps HM.out OW.out HSL.out HOP.out HG.out HOW.out O2.out HOB.out);exact HQ.out _ _ _ rfl rfl rfl rfl H5.out
theorem qMust6 (Q:Exit→Act→World→Prop) (C6:Code) (h6:rgn 6 (Tryz.f70.body.getD .skip)=some C6) (t:List Value) (gp gm gr gq:Nat) (st:St) (va vw vb:Value) (q:Qy) (W w:World) (ht:t.length=71) (k0:t[0]?=some (.pointer (some ⟨gp,0,none⟩))) (k2:t[2]?=some (.pointer (some ⟨gr,0,none⟩))) (k3:t[3]?=some (.pointer (some ⟨gq,0,none⟩)))
  (h:QS W w gp gm gr gq st va vw vb q)
  (hQ:∀ (t':List Value)  (w':World),t'.length=71→t'[0]?=some (.pointer (some ⟨gp,0,none⟩))→t'[2]?=some (.pointer (some ⟨gr,0,none⟩))→t'[3]?=some (.pointer (some ⟨gq,0,none⟩))→QS W w' gp gm gr gq (aY wFrom st) va vw vb q→Q .normal { tmps:=t'.toArray,defers:=[] } w') :
  Code.wp Tryz.prog C6 Q { tmps:=t.toArray,defers:=[] } w:=by
 have HQ:=aa hQ;have H:=aa h;clear hQ h;have MU:=aa (eg gp gm wFrom (by decide) st w H.out.ps);obtain ⟨f,hf,hi⟩:=listed t ht;have e0:=am (hi 0 (by decide)) k0;have e2:=am (hi 2 (by decide)) k2;have e3:=am (hi 3 (by decide)) k3;rw [e0,e2,e3] at hf;clear hi ht k0 e0 k2 e2 k3 e3;subst hf;unfold Tryz.f70 at h6
 simp [rgn] at h6
 subst h6;go_wp2_with fail;refine MU.out.mono ?_;rintro r w1 ⟨rfl,hk,hp⟩;have H1:=aa (bu H.out hk hp f9);clear hk hp MU H;go_wp2_with fail;exact HQ.out _  _ rfl rfl rfl rfl H1.out
theorem qMust7 (Q:Exit→Act→World→Prop) (C7:Code) (h7:rgn 7 (Tryz.f70.body.getD .skip)=some C7) (t:List Value) (gp gm gr gq:Nat) (st:St) (va vw vb:Value) (q:Qy) (W w:World) (ht:t.length=71) (k0:t[0]?=some (.pointer (some ⟨gp,0,none⟩))) (k2:t[2]?=some (.pointer (some ⟨gr,0,none⟩))) (k3:t[3]?=some (.pointer (some ⟨gq,0,none⟩)))
  (h:QS W w gp gm gr gq st va vw vb q)
  (hQ:∀ (t':List Value)  (w':World),t'.length=71→t'[0]?=some (.pointer (some ⟨gp,0,none⟩))→t'[2]?=some (.pointer (some ⟨gr,0,none⟩))→t'[3]?=some (.pointer (some ⟨gq,0,none⟩))→QS W w' gp gm gr gq (aY wEvents st) va vw vb q→Q .normal { tmps:=t'.toArray,defers:=[] } w') :
  Code.wp Tryz.prog C7 Q { tmps:=t.toArray,defers:=[] } w:=by
 have HQ:=aa hQ;have H:=aa h;clear hQ h;have MU:=aa (eg gp gm wEvents (by decide) st w H.out.ps);obtain ⟨f,hf,hi⟩:=listed t ht;have e0:=am (hi 0 (by decide)) k0;have e2:=am (hi 2 (by decide)) k2;have e3:=am (hi 3 (by decide)) k3;rw [e0,e2,e3] at hf;clear hi ht k0 e0 k2 e2 k3 e3;subst hf;unfold Tryz.f70 at h7
 simp [rgn] at h7
 subst h7;go_wp2_with fail;refine MU.out.mono ?_;rintro r w1 ⟨rfl,hk,hp⟩;have H1:=aa (bu H.out hk hp f9);clear hk hp MU H;go_wp2_with fail;exact HQ.out _  _ rfl rfl rfl rfl H1.out
theorem qMust13 (Q:Exit→Act→World→Prop) (C13:Code) (h13:rgn 13 (Tryz.f70.body.getD .skip)=some C13) (t:List Value) (gp gm gr gq:Nat) (st:St) (va vw vb:Value) (q:Qy) (W w:World) (ht:t.length=71) (k0:t[0]?=some (.pointer (some ⟨gp,0,none⟩))) (k2:t[2]?=some (.pointer (some ⟨gr,0,none⟩))) (k3:t[3]?=some (.pointer (some ⟨gq,0,none⟩)))
  (h:QS W w gp gm gr gq st va vw vb q)
  (hQ:∀ (t':List Value)  (w':World),t'.length=71→t'[0]?=some (.pointer (some ⟨gp,0,none⟩))→t'[2]?=some (.pointer (some ⟨gr,0,none⟩))→t'[3]?=some (.pointer (some ⟨gq,0,none⟩))→QS W w' gp gm gr gq (aY wWindow st) va vw vb q→Q .normal { tmps:=t'.toArray,defers:=[] } w') :
  Code.wp Tryz.prog C13 Q { tmps:=t.toArray,defers:=[] } w:=by
 have HQ:=aa hQ;have H:=aa h;clear hQ h;have MU:=aa (eg gp gm wWindow (by decide) st w H.out.ps);obtain ⟨f,hf,hi⟩:=listed t ht;have e0:=am (hi 0 (by decide)) k0;have e2:=am (hi 2 (by decide)) k2;have e3:=am (hi 3 (by decide)) k3;rw [e0,e2,e3] at hf;clear hi ht k0 e0 k2 e2 k3 e3;subst hf;unfold Tryz.f70 at h13
 simp [rgn] at h13
 subst h13;go_wp2_with fail;refine MU.out.mono ?_;rintro r w1 ⟨rfl,hk,hp⟩;have H1:=aa (bu H.out hk hp f9);clear hk hp MU H;go_wp2_with fail;exact HQ.out _  _ rfl rfl rfl rfl H1.out
theorem qStart (Q:Exit→Act→World→Prop) (X:Code) (C0:Code) (h0:rgn 0 (Tryz.f70.body.getD .skip)=some C0) (C1:Code) (h1:rgn 1 (Tryz.f70.body.getD .skip)=some C1) (t:List Value) (gp gm:Nat) (st:St) (w:World) (ht:t.length=71) (k0:t[0]?=some (.pointer (some ⟨gp,0,none⟩)))
  (hp:PXS w gp gm st)
  (hQ:∀ (t':List Value)  (w':World),t'.length=71→t'[0]?=some (.pointer (some ⟨gp,0,none⟩))→t'[2]?=some (.pointer (some ⟨w.heap.size,0,none⟩))→t'[3]?=some (.pointer (some ⟨w.heap.size+1,0,none⟩))→QS w w' gp gm w.heap.size (w.heap.size+1) st (.slice none 0 0) (.slice none 0 0) (.slice none 0 0) ⟨[],[],[],0,0,0,0⟩→Code.wp Tryz.prog X Q { tmps:=t'.toArray,defers:=[] } w') :
  Code.wp Tryz.prog (.seq C0 (.seq C1 X)) Q { tmps:=t.toArray,defers:=[] } w:=by
 have HQ:=aa hQ;have lgp:=je hp;have b0:=aj w (.cells #[.slice none 0 0,.slice none 0 0,.slice none 0 0,.int .i64 0,.int .i64 0,.int .i64 0,.int .i64 0] 28);have b1:=aj (w.alloc (.cells #[.slice none 0 0,.slice none 0 0,.slice none 0 0,.int .i64 0,.int .i64 0,.int .i64 0,.int .i64 0] 28)) (.cells #[.slice none 0 0,.slice none 0 0,.slice none 0 0,.int .i64 0,.int .i64 0,.int .i64 0,.int .i64 0] 28);have BR:=ai (az w [.slice none 0 0,.slice none 0 0,.slice none 0 0,.int .i64 0,.int .i64 0,.int .i64 0,.int .i64 0] 28) b1 (by simp);have BQ:=az (w.alloc (.cells #[.slice none 0 0,.slice none 0 0,.slice none 0 0,.int .i64 0,.int .i64 0,.int .i64 0,.int .i64 0] 28)) [.slice none 0 0,.slice none 0 0,.slice none 0 0,.int .i64 0,.int .i64 0,.int .i64 0,.int .i64 0] 28;have TR:=aT (dB w #[.slice none 0 0,.slice none 0 0,.slice none 0 0,.int .i64 0,.int .i64 0,.int .i64 0,.int .i64 0] 28) (ae (bad:=fun _=>False) b1) id;have TQ:=dB (w.alloc (.cells #[.slice none 0 0,.slice none 0 0,.slice none 0 0,.int .i64 0,.int .i64 0,.int .i64 0,.int .i64 0] 28)) #[.slice none 0 0,.slice none 0 0,.slice none 0 0,.int .i64 0,.int .i64 0,.int .i64 0,.int .i64 0] 28;have e9:(w.alloc (.cells #[.slice none 0 0,.slice none 0 0,.slice none 0 0,.int .i64 0,.int .i64 0,.int .i64 0,.int .i64 0] 28)).heap.size=w.heap.size+1:=by simp
 have HS:Hid (QS w _ gp gm w.heap.size (w.heap.size+1) st (.slice none 0 0) (.slice none 0 0) (.slice none 0 0) ⟨[],[],[],0,0,0,0⟩):=⟨ae (b0.trans (b1.mono b0.size)),bZ (bZ hp b0) b1,e9 ▸ BQ,BR,e9 ▸ TQ,TR,Nat.le_refl _,by omega,lgp,⟨[],rfl,World.ownsRow_nil _ _ _ _,fun p hp=>by simp at hp,fun _ p hp=>by simp at hp⟩,⟨rfl,fun _=>.inl ⟨rfl,rfl⟩⟩,⟨rfl,fun _=>.inl ⟨rfl,rfl⟩⟩⟩;clear hQ hp b0 b1 BR BQ TR TQ e9;obtain ⟨f,hf,hi⟩:=listed t ht;have e0:=am (hi 0 (by decide)) k0;rw [e0] at hf;clear hi ht k0 e0;subst hf;unfold Tryz.f70 at h0
 simp [rgn] at h0
 subst h0;unfold Tryz.f70 at h1
 simp [rgn] at h1
 subst h1;go_wp2_with fail;exact HQ.out _ _ rfl rfl rfl rfl HS.out
theorem qEnds (Q:Exit→Act→World→Prop) (C22:Code) (h22:rgn 22 (Tryz.f70.body.getD .skip)=some C22) (C23:Code) (h23:rgn 23 (Tryz.f70.body.getD .skip)=some C23) (t:List Value) (gp gm gr gq:Nat) (st:St) (va vw vb:Value) (q:Qy) (W w:World) (ht:t.length=71) (k0:t[0]?=some (.pointer (some ⟨gp,0,none⟩))) (k2:t[2]?=some (.pointer (some ⟨gr,0,none⟩))) (k3:t[3]?=some (.pointer (some ⟨gq,0,none⟩)))
  (h:QS W w gp gm gr gq st va vw vb q)
  (hQ:∀ (t':List Value)  (w':World),t'.length=71→t'[0]?=some (.pointer (some ⟨gp,0,none⟩))→t'[2]?=some (.pointer (some ⟨gr,0,none⟩))→t'[3]?=some (.pointer (some ⟨gq,0,none⟩))→QS W w' gp gm gr gq (endS st) va vw vb q→Q .normal { tmps:=t'.toArray,defers:=[] } w') :
  Code.wp Tryz.prog (.seq C22 (.cond (.tmp 66) C23 .skip)) Q { tmps:=t.toArray,defers:=[] } w:=by
 have HQ:=aa hQ;have H:=aa h;clear hQ h;obtain ⟨f,hf,hi⟩:=listed t ht;have e0:=am (hi 0 (by decide)) k0;have e2:=am (hi 2 (by decide)) k2;have e3:=am (hi 3 (by decide)) k3;rw [e0,e2,e3] at hf;clear hi ht k0 e0 k2 e2 k3 e3;subst hf;unfold Tryz.f70 at h22
 simp [rgn] at h22
 subst h22;unfold Tryz.f70 at h23
 simp [rgn] at h23
 subst h23;cases st with
 | error c =>
  obtain ⟨h0,wv,hp⟩:=H.out.ps;have c0:=hp.ps.bd.c 0 (by simp);obtain ⟨ao,cap,rfl⟩:=aq hp.ps.row;simp only [List.getElem?_cons_zero,List.length_nil] at c0;clear hp;go_wp2_with fail;exact HQ.out _ _ rfl rfl rfl rfl H.out
 | ok ws =>
  obtain ⟨wv,hp⟩:=H.out.ps;have c0:=hp.ps.bd.c 0 (by simp);obtain ⟨ao,cap,rfl⟩:=aq hp.ps.row;simp only [List.getElem?_cons_zero] at c0;have hfew:=hp.ps.few;cases ws with
  | nil =>
   simp only [List.length_nil] at c0;clear hp;go_wp2_with fail;exact HQ.out _ _ rfl rfl rfl rfl H.out
  | cons x r =>
   have FL:=aa (kQ gp gm _ (x :: r) 0 0 w hp);have d9:decide (0 < (((x :: r).length:Nat):Int))=true:=by simp
   generalize hl:(x :: r).length=n9 at *;have hn9:0 < (n9:Int):=by simpa using d9
   have HL:=aa hl;clear hp hl;go_wp2_with fail;refine FL.out.mono ?_;rintro r9 w1 ⟨rfl,hk,hp⟩;have H1:=aa (bu (st':=.error 4) H.out hk ⟨by decide,_,hp⟩ (fun e=>by cases e));clear hk hp FL H;go_wp2_with fail;exact HQ.out _ _ rfl rfl rfl rfl H1.out
end Go.Proofs.YtcgjflamgnjhcaaGreatDoor
