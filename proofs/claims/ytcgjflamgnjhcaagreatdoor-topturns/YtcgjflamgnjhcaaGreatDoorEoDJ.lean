/- Own texts in one. Conditions: as named in each. -/
import Derived.Test.YtcgjflamgnjhcaaGreatDoorAskJ
import Derived.Test.YtcgjflamgnjhcaaGreatDoorEoBJ
import Derived.Test.YtcgjflamgnjhcaaGreatDoorBtJJ
import Derived.Test.YtcgjflamgnjhcaaGreatDoorEnFJ
import Derived.Test.YtcgjflamgnjhcaaGreatDoorEnQJ
import Derived.Laws.AppendOwnNone
set_option linter.unusedVariables false
set_option linter.unusedSimpArgs false
set_option maxRecDepth 100000
set_option maxHeartbeats 8000000
namespace Go.Proofs.YtcgjflamgnjhcaaGreatDoor
open Go.ChangeShapes Go.WideShapes Go.ChangeAt Go.RowKit
def nS (M P:List (List Ev)):Prop:=M.length=P.length∧∀ (i:Nat) (m l:List Ev),M[i]?=some m→P[i]?=some l→∃ r,l=m++r
theorem preM_none (P:List (List Ev)):nS (List.replicate P.length []) P:=⟨by simp,fun i m l h1 h2=>⟨l,by
 rw [List.getElem?_replicate] at h1
 split at h1
 ·cases h1;rfl
 ·cases h1⟩⟩
theorem preM_cons {m l:List Ev} {M P:List (List Ev)} (h:nS (m :: M) (l :: P)):(∃ r,l=m++r)∧nS M P :=
 ⟨h.2 0 m l rfl rfl,by simpa using h.1,fun i a b h1 h2=>h.2 (i+1) a b (by simpa using h1) (by simpa using h2)⟩
theorem preM_evs:∀ (M P:List (List Ev)),nS M P→ix M≤ix P
 | [],P,_=>by simp [ix]
 | m :: M,[],h=>by simp [nS] at h
 | m :: M,l :: P,h=>by
  obtain ⟨⟨r,e⟩,h2⟩:=preM_cons h;rw [dG,dG]
  have:=preM_evs M P h2
  rw [e,List.length_append];omega
theorem evsN_set:∀ (M:List (List Ev)) (p:Nat) (l:List Ev) (x:Ev),M[p]?=some l→ix (M.set p (l++[x]))=ix M+1
 | [],p,l,x,h=>by simp at h
 | m :: M,0,l,x,h=>by
  cases h
  show ix ((m++[x]) :: M)=_
  rw [dG,dG,List.length_append,List.length_singleton];omega
 | m :: M,p+1,l,x,h=>by
  show ix (m :: M.set p (l++[x]))=_
  rw [dG,dG,evsN_set M p l x (by simpa using h)];omega
theorem preM_set {M P:List (List Ev)} (h:nS M P) {p:Nat} {l l':List Ev} {x:Ev} (h1:M[p]?=some l) (h2:P[p]?=some l') (h3:l'[l.length]?=some x):nS (M.set p (l++[x])) P:=by
 refine ⟨by rw [List.length_set];exact h.1,fun i a b ha hb=>?_⟩
 by_cases hi:i=p
 ·subst hi;rw [List.getElem?_set_self (List.getElem?_eq_some_iff.1 h1).1] at ha;cases ha;rw [h2] at hb;cases hb;obtain ⟨r,e⟩:=h.2 i l l' h1 h2;subst e;rw [List.getElem?_append_right (Nat.le_refl _),Nat.sub_self] at h3;cases r with
  | nil=>simp at h3
  | cons y r=>cases h3;exact ⟨r,by simp⟩
 ·rw [List.getElem?_set_ne (fun e=>hi e.symm)] at ha;exact h.2 i a b ha hb
theorem mV {M P:List (List Ev)} (h:nS M P):∀ m∈M,∃ l∈P,∃ r,l=m++r:=fun m hm=>by
 obtain ⟨i,hi,rfl⟩:=List.mem_iff_getElem.1 hm;have hi2:i < P.length:=by rw [← h.1];exact hi
 exact ⟨P[i],List.getElem_mem hi2,h.2 i _ _ (List.getElem?_eq_getElem hi) (List.getElem?_eq_getElem hi2)⟩
theorem eS {M P:List (List Ev)} (h:nS M P) (hl:lightM P=true):(∀ l∈M,l.length≤40)∧(∀ l∈M,∀ x∈l,evC x=0)∧M.length≤3∧ix P≤120:=by
 obtain ⟨a1,a2⟩:=ft hl;refine ⟨fun m hm=>?_,fun m hm x hx=>?_,by rw [h.1];exact a1,?_⟩
 ·obtain ⟨l,hl9,r,e⟩:=mV h m hm
  have:=(a2 l hl9).1
  rw [e,List.length_append] at this;omega
 ·obtain ⟨l,hl9,r,e⟩:=mV h m hm;exact (a2 l hl9).2 x (by rw [e];exact List.mem_append_left _ hx)
 ·have:=evsN_40 P (fun l hl9=>(a2 l hl9).1)
  omega
theorem ja {q:Qy} (hS:QyS q):∀ (M:List (List Ev)),(nN q M).length≤4 * ix M∧pA q M≤4 * ix M
 | []=>by simp [nN,pA]
 | l :: M=>by
  rw [eQ,eK,dG,List.length_append];have h1:=iQ hS l 0 false;have h2:=ja hS M;omega
def nJ (W:World) (q:Qy) (P:List (List Ev)) (eb:Nat) (M:List (List Ev)) (late:Nat) (tb:List Pn) (rs:List (Rw×Value)) (rdv ckv tv rv:Value) (w:World):Prop :=
 ∃ w0 b0 va vw vb ps V cs,EgR w0 eb w0.heap.size b0 q va vw vb (M.map List.length) (bB M) late tb rs rdv ckv tv rv w∧QyG w0 va vw vb q ps∧QyK eb rdv va vw vb ps∧b0≤w0.heap.size∧RunI q M tb (rs.map Prod.fst) late V cs∧nS M P∧rs.length≤600 * ix M∧Below W.heap.size W w∧W.heap.size≤eb∧(∀ k,rdv.ownBlock=some k→W.heap.size≤k)∧W.heap.size≤w0.heap.size
theorem dA {W w w':World} {q:Qy} {P:List (List Ev)} {eb:Nat} {M:List (List Ev)} {late:Nat} {tb:List Pn} {rs:List (Rw×Value)} {rdv ckv tv rv:Value} (h:nJ W q P eb M late tb rs rdv ckv tv rv w) (hb:Below w.heap.size w w'):nJ W q P eb M late tb rs rdv ckv tv rv w':=by
 obtain ⟨w0,b0,va,vw,vb,ps,V,cs,a1,a2,a3,a4,a5,a6,a7,a8,a9,a10,a11⟩:=h;exact ⟨w0,b0,va,vw,vb,ps,V,cs,eP a1 hb,a2,a3,a4,a5,a6,a7,a8.trans (hb.mono a8.size),a9,a10,a11⟩
theorem jx {W w:World} {q:Qy} {P:List (List Ev)} {eb:Nat} {M:List (List Ev)} {late:Nat} {tb:List Pn} {rs:List (Rw×Value)} {rdv ckv tv rv:Value} (h:nJ W q P eb M late tb rs rdv ckv tv rv w) (hc:chkQ q=0) (hl:lightM P=true) {p:Nat} {l l':List Ev} {x:Ev} (h1:M[p]?=some l) (h2:P[p]?=some l') (h3:l'[l.length]?=some x) :
  Calls Tryz.prog 17 #[.pointer (some ⟨eb,0,none⟩),.int .i64 (p:Nat),ei x] w fun e w'=>e=.returned (.tuple #[])∧∃ late' tb' rs' ckv' tv' rv',nJ W q P eb (M.set p (l++[x])) late' tb' rs' rdv ckv' tv' rv' w'∧lY q (bB M) p x tb (rs.map Prod.fst) late tb' (rs'.map Prod.fst) late':=by
 obtain ⟨w0,b0,va,vw,vb,ps,V,cs,a1,a2,a3,a4,a5,a6,a7,a8,a9,a10,a11⟩:=h;obtain ⟨l1,l2,l3,l4⟩:=eS a6 hl;have hS:=oO hc;have hset:=preM_set a6 h1 h2 h3;have hev:=preM_evs _ _ hset;rw [evsN_set M p l x h1] at hev;have hx:evC x=0:=((ft hl).2 l' (List.mem_of_getElem? h2)).2 x (List.mem_of_getElem? h3);have hlen:=ja hS M;have hcs:cs.length≤476:=by rw [a5.perm.length_eq];omega
 have hlt:late≤900000:=by rw [a5.late];omega
 refine (estep_any w0 eb w0.heap.size b0 q ps va vw vb M late tb rs rdv ckv tv rv V cs p l x w a1 a5 a2 a3 (Nat.le_refl _) a4 hc l3 h1 l1 l2 hx hcs (by omega) hlt).mono ?_;rintro e w' ⟨rfl,tb',rs',late',ckv',tv',rv',E,S,hr,hrv,K⟩;obtain ⟨V',cs',R'⟩:=run_step a5 h1 (l2 l (List.mem_of_getElem? h1)) hx hS.l0 S;refine ⟨rfl,late',tb',rs',ckv',tv',rv',⟨w0,b0,va,vw,vb,ps,V',cs',E,a2,a3,a4,R',hset,by rw [evsN_set M p l x h1];omega,a8.trans (aL K a8.size (fun k hk=>?_)),a9,a10,a11⟩,S⟩
 rcases hk with e | e | e
 ·omega
 ·exact a10 k e
 ·have:=(aJ a1.en.ro k e).1;omega
theorem mS {W:World} {va vw vb:Value} {q:Qy} {ps:List (AgQ×Value)} {P:List (List Ev)} (h:QyG W va vw vb q ps) (hc:chkQ q=0) (h1:0 < P.length) (h3:P.length≤3) :
  Calls Tryz.prog 13 #[qyV va vw vb q,.int .i64 (P.length:Nat)] W fun e w'=>∃ eb rdv ckv,e=.returned (.tuple #[.pointer (some ⟨eb,0,none⟩),.nilIface])∧nJ W q P eb (List.replicate P.length []) 0 [] [] rdv ckv (.slice none 0 0) (.slice none 0 0) w':=by
 refine (enew_any va vw vb q ps P.length W h hc h1 h3).mono ?_;rintro e w' ⟨eb,b0,va',vw',vb',ps',rdv,ckv,rfl,E,G,K,hb,hW,hb0,hrd⟩;exact ⟨eb,rdv,ckv,rfl,w',b0,va',vw',vb',ps',[],[],E,G,K,by rw [hb0];exact hb.size,run_start q P.length h1,preM_none P,by simp,hb,hW,hrd,hb.size⟩
def placeE (a:Int) (k:Nat):Nat:=((bits .and .i64 a 1023).tmod (k:Int)).toNat
theorem placeE_is (n:Int) (k:Nat) (hk:0 < k):placeE n k < k∧(bits .and .i64 n 1023).tmod (k:Int)=(placeE n k:Int):=by
 have h0:0≤bits .and .i64 n 1023:=by
  show 0≤IntKind.i64.wrap ((BitVec.ofInt 64 n &&& BitVec.ofInt 64 1023).toNat:Int)
  have h2:(BitVec.ofInt 64 1023).toNat=1023:=by decide
  have h:(BitVec.ofInt 64 n).toNat &&& 1023≤1023:=Nat.and_le_right;rw [BitVec.toNat_and,h2,IntKind.wrap_i64];omega
 have h1:=Int.tmod_nonneg (k:Int) h0;have h2:=Int.tmod_lt_of_pos (bits .and .i64 n 1023) (by omega:(0:Int) < k);unfold placeE;omega
def turnM (P:List (List Ev)) (M:List (List Ev)) (t:Int):List (List Ev) :=
 match M[placeE t P.length]?,P[placeE t P.length]? with
 | some l,some l'=>match l'[l.length]? with
  | some x=>M.set (placeE t P.length) (l++[x])
  | none=>M
 | _,_=>M
def runM (P:List (List Ev)) (T:List Int):List (List Ev):=T.foldl (turnM P) (List.replicate P.length [])
theorem runM_take (P:List (List Ev)) (T:List Int) (m:Nat) (h:m < T.length):runM P (T.take (m+1))=turnM P (runM P (T.take m)) T[m]:=by
 unfold runM;rw [List.take_succ_eq_append_getElem h,List.foldl_append]
 rfl
theorem eo {α:Type} (f:α→Value):∀ l:List α,rowOf (fun a=>[f a]) l=l.map f
 | []=>rfl
 | x :: l=>by
  rw [bQ,eo f l]
  rfl
theorem ints_cellE {T:List Int} {v:Value} {w:World} (h:pz w v T) (m:Nat) (hm:m < T.length):∃ g off cap,v=.slice (some ⟨g,off,none⟩) T.length cap∧w.cell? ⟨g,off+m,none⟩=some (.int .i64 T[m])∧T.length≤cap∧cap≤maxLen∧g < w.heap.size:=by
 obtain ⟨a,cap,rfl⟩:=aq h;have h9:bT w (.slice a T.length cap) 1 T.length (rowOf (fun n:Int=>[Value.int .i64 n]) T):=by
  rw [eo];exact h
 obtain ⟨g,off,rfl,hc,c1,c2,c3⟩:=bA (f:=fun n:Int=>[Value.int .i64 n]) (S:=1) (fun _=>rfl) h9 m hm;refine ⟨g,off,cap,rfl,?_,c1,c2,c3⟩
 have:=hc 0 (by omega)
 rw [Nat.mul_one,Nat.add_zero] at this;exact this
theorem lO {w:World} {pv:Value} {vs:List Value} {P:List (List Ev)} (h:PtsR w pv vs P) (p:Nat) (hp:p < P.length):∃ g off cap v,pv=.slice (some ⟨g,off,none⟩) P.length cap∧w.cell? ⟨g,off+p,none⟩=some v∧bT w v 7 P[p].length (rowOf gF P[p])∧P.length≤cap∧cap≤maxLen∧g < w.heap.size:=by
 obtain ⟨a,cap,rfl⟩:=aq h.row;have hv:p < vs.length:=by rw [h.len];exact hp
 have h9:bT w (.slice a vs.length cap) 1 vs.length (rowOf (fun v:Value=>[v]) vs):=by
  rw [eo (fun v:Value=>v),List.map_id',h.len];exact h.row
 obtain ⟨g,off,rfl,hc,c1,c2,c3⟩:=bA (f:=fun v:Value=>[v]) (S:=1) (fun _=>rfl) h9 p hv;refine ⟨g,off,cap,vs[p],rfl,?_,h.each p _ _ (List.getElem?_eq_getElem hv) (List.getElem?_eq_getElem hp),by rw [← h.len];exact c1,c2,c3⟩
 have:=hc 0 (by omega)
 rw [Nat.mul_one,Nat.add_zero] at this;exact this
theorem mJ (fe:Nat) (va vw vb pv tv:Value) (q:Qy) (ps:List (AgQ×Value)) (vs:List Value) (P:List (List Ev)) (T:List Int) (W:World) (h:QyG W va vw vb q ps) (hc:chkQ q=0) (hP:PtsR W pv vs P) (h0:0 < P.length) (hl:lightM P=true) (hT:pz W tv T) (hTl:T.length≤1000)
  (hcf:∀ (v:Value) (w:World),Sem.run Tryz.prog (callFunc fe #[v]) w=.ok (.enter fe #[v]) w) (EACH:∀ (eb:Nat) (M:List (List Ev)) (late:Nat) (tb:List Pn) (rs:List (Rw×Value)) (rdv ckv tv rv:Value) (w:World),nJ W q P eb M late tb rs rdv ckv tv rv w→Calls Tryz.prog fe #[.pointer (some ⟨eb,0,none⟩)] w fun e w'=>e=.returned (.bool true)∧Below w.heap.size w w') :
  Calls Tryz.prog 27 #[qyV va vw vb q,pv,tv,.func (.func fe) #[] #[]] W fun e w'=>∃ eb late tb rs rdv ckv tv rv,e=.returned (.tuple #[.pointer (some ⟨eb,0,none⟩),.bool true])∧nJ W q P eb (runM P T) late tb rs rdv ckv tv rv w':=by
 have hP3:=(ft hl).1;obtain ⟨ao,cap,rfl⟩:=aq h.ag.row;obtain ⟨a2,c2,rfl⟩:=aq h.wh;obtain ⟨a3,c3,rfl⟩:=aq h.by_;obtain ⟨gp,op,cp,-,rfl,-,-,zp1,zp2,zp3⟩:=lO hP 0 h0;obtain ⟨at_,ct,rfl⟩:=aq hT;have bq:=aj W (.cells #[Value.slice ao ps.length cap,Value.slice a2 q.wh.length c2,Value.slice a3 q.bys.length c3,Value.int .i64 q.size,Value.int .i64 q.slide,Value.int .i64 q.delay,Value.int .i64 q.late] 28);have NW:=mS (P:=P) (bf h bq) hc h0 hP3;unfold qyV at NW ⊢;have NWH:=aa NW;have HBQ:=aa bq;have HP:=aa hP;have HT:=aa hT;have HEA:=aa EACH;have zq:=(az W [Value.slice ao ps.length cap,Value.slice a2 q.wh.length c2,Value.slice a3 q.bys.length c3,Value.int .i64 q.size,Value.int .i64 q.slide,Value.int .i64 q.delay,Value.int .i64 q.late] 28).lt;have hWs:(W.alloc (.cells #[Value.slice ao ps.length cap,Value.slice a2 q.wh.length c2,Value.slice a3 q.bys.length c3,Value.int .i64 q.size,Value.int .i64 q.slide,Value.int .i64 q.delay,Value.int .i64 q.late] 28)).heap.size=W.heap.size+1:=by simp
 unfold maxLen at zp2;clear NW bq h hP hT EACH
 go_enter Tryz.func27,Tryz.ntmps27
 go_wp2_with fail;refine NWH.out.mono ?_;rintro e w1 ⟨eb,rdv,ckv0,rfl,hE⟩;have HE0:Hid (nJ W q P eb (List.replicate P.length []) 0 [] [] rdv ckv0 (.slice none 0 0) (.slice none 0 0) w1):=by
  obtain ⟨w0,b0,va,vw,vb,ps,V,cs,a1,a2,a3,a4,a5,a6,a7,a8,a9,a10,a11⟩:=hE;exact ⟨w0,b0,va,vw,vb,ps,V,cs,a1,a2,a3,a4,a5,a6,a7,HBQ.out.trans (a8.mono HBQ.out.size),by omega,fun k hk=>by have:=a10 k hk;omega,by omega⟩
 have hrdv:∃ rdg rdc,rdv=.slice (some ⟨rdg,0,none⟩) P.length rdc:=by
  obtain ⟨w0,b0,va,vw,vb,ps,V,cs,a1,-⟩:=hE;obtain ⟨g,c,e,-⟩:=dY a1.rd (by simpa using h0);simp only [List.length_map,List.length_replicate] at e;exact ⟨g,c,e⟩
 obtain ⟨rdg,rdc,rfl⟩:=hrdv;clear NWH hE;go_wp2_with fail
 go_loopw [12] (fun i wr=>∃ (m late:Nat) (tb:List Pn) (rs:List (Rw×Value)) (ckv tv rv:Value),m≤T.length∧i=.int .i64 m∧Hid (nJ W q P eb (runM P (T.take m)) late tb rs (.slice (some ⟨rdg,0,none⟩) P.length rdc) ckv tv rv wr)) (fun i _=>T.length - (intOf i).toNat)
 case atStart=>exact ⟨0,0,[],[],ckv0,_,_,Nat.zero_le _,rfl,HE0⟩
 case round =>
  clear HE0;obtain ⟨m,late,tb,rs,ckv,tv,rv,hm,rfl,HE⟩:=hrel
  by_cases hlt:m < T.length
  ·have HBW:Hid (Below W.heap.size W wr):=by
    obtain ⟨w0,b0,va,vw,vb,ps,V,cs,-,-,-,-,-,-,-,a8,-⟩:=HE.out;exact a8
   obtain ⟨gt,ot,ct',et,y0,t1,t2,t3⟩:=ints_cellE (aA HT.out HBW.out) m hlt;cases et;have hpl:=placeE_is T[m] P.length h0;have HRN:Hid (runM P (T.take (m+1))=turnM P (runM P (T.take m)) T[m]):=runM_take P T m hlt;generalize T[m]=t at *;obtain ⟨hp1,hp2⟩:=hpl;have HTU:Hid (turnM P (runM P (T.take m)) t=match (runM P (T.take m))[placeE t P.length]?,P[placeE t P.length]? with
    | some l,some l'=>match l'[l.length]? with
     | some x=>(runM P (T.take m)).set (placeE t P.length) (l++[x])
     | none=>runM P (T.take m)
    | _,_=>runM P (T.take m)):=rfl
   generalize placeE t P.length=p at *;generalize turnM P (runM P (T.take m)) t=Mn at *;generalize runM P (T.take m)=M at *;have hML:M.length=P.length:=by
    obtain ⟨w0,b0,va,vw,vb,ps,V,cs,-,-,-,-,-,a6,-⟩:=HE.out;exact a6.1
   obtain ⟨l,hMp⟩:∃ l,M[p]?=some l:=⟨_,List.getElem?_eq_getElem (by omega)⟩;obtain ⟨gp',op',cp',lv,ep,hpc,hrl,-,-,lgp⟩:=lO (fK HP.out HBW.out) p hp1;cases ep;have hPp:P[p]?=some P[p]:=List.getElem?_eq_getElem hp1;rw [hMp,hPp] at HTU;have hl40:=((ft hl).2 P[p] (List.getElem_mem hp1)).1;have HSTP:=aa (fun x (h3:P[p][l.length]?=some x) w' (hb:Below wr.heap.size wr w')=>jx (dA HE.out hb) hc hl hMp hPp h3);generalize P[p]=l' at *;obtain ⟨al,cl,rfl⟩:=aq hrl;have HRL:=aa hrl;have HPC:=aa hpc;have hl40b:l.length≤40:=by
    obtain ⟨w0,b0,va,vw,vb,ps,V,cs,-,-,-,-,-,a6,-⟩:=HE.out;exact (eS a6 hl).1 l (List.mem_of_getElem? hMp)
   have hbe:∃ va vw vb,BlkAt wr eb [.slice (some ⟨rdg,0,none⟩) P.length rdc,ckv,tv,eI late,rv,va,vw,vb,.int .i64 q.size,.int .i64 q.slide,.int .i64 q.delay,.int .i64 q.late]∧wr.cell? ⟨rdg,p,none⟩=some (.int .i64 (l.length:Int))∧rdg < wr.heap.size:=by
    obtain ⟨w0,b0,va,vw,vb,ps,V,cs,a1,-⟩:=HE.out;have h8:=a1.rd;rw [List.length_map,hML] at h8;have h9:=h8.cellAt p (by omega);rw [List.getElem?_map,List.getElem?_map,hMp] at h9;exact ⟨va,vw,vb,a1.en.be,h9,(aJ h8 rdg rfl).2⟩
   obtain ⟨va9,vw9,vb9,hBE,hRD,lrd⟩:=hbe;have BE:=aa hBE;have HRD:=aa hRD;have lebx:=hBE.lt;clear hpc hrl hBE hRD;go_wp2_with fail;refine wp_region_held (S:=fun w'=>Below wr.heap.size wr w') (by kernel_rfl) ?_;have hS:Below wr.heap.size wr ({ wr with drawn:=wr.drawn+1 }:World):=(Below.refl _ _).drew;generalize ({ wr with drawn:=wr.drawn+1 }:World)=wd at *;refine HU 0 (v:=.pointer (some ⟨eb,0,none⟩)) rfl (fun wq hq=>by go_simp) hS ?_;refine HU 1 (v:=.pointer (some ⟨eb,0,none⟩)) rfl (fun wq hq=>by go_simp) hS ?_;refine HU 2 (v:=.pointer (some ⟨eb,0,none⟩)) rfl (fun wq hq=>by go_simp) hS ?_;refine HU 3 (v:=.slice (some ⟨rdg,0,none⟩) P.length rdc) rfl (fun wq hq=>by have K:=ai BE.out hq BE.out.lt;have q0:wq.cell? ⟨eb,0,none⟩=some (.slice (some ⟨rdg,0,none⟩) P.length rdc):=K.c 0 (by simp);clear K;go_simp) hS ?_;refine HU 4 (v:=.int .i64 (p:Int)) rfl (fun wq hq=>by go_simp) hS ?_;refine HU 5 (v:=.pointer (some ⟨rdg,p,none⟩)) rfl (fun wq hq=>by go_simp) hS ?_;refine HU 6 (v:=.int .i64 (l.length:Int)) rfl (fun wq hq=>by have q:=(hq.cell (p:=⟨rdg,p,none⟩) lrd).trans HRD.out;go_simp) hS ?_;refine HU 7 (v:=.slice (some ⟨gp,op,none⟩) P.length cp) rfl (fun wq hq=>by go_simp) hS ?_;refine HU 8 (v:=.int .i64 (p:Int)) rfl (fun wq hq=>by go_simp) hS ?_;refine HU 9 (v:=.pointer (some ⟨gp,op+p,none⟩)) rfl (fun wq hq=>by go_simp) hS ?_;refine HU 10 (v:=.slice al l'.length cl) rfl (fun wq hq=>by have q:=(hq.cell (p:=⟨gp,op+p,none⟩) lgp).trans HPC.out;go_simp) hS ?_;refine HU 11 (v:=.int .i64 (l'.length:Int)) rfl (fun wq hq=>by go_simp) hS ?_;refine HU 12 (v:=.bool (((l.length:Nat):Int) == ((l'.length:Nat):Int))) rfl (fun wq hq=>by go_simp) hS ?_;refine wpAnyH_done (by kernel_rfl) ?_ _
   by_cases heq:l.length=l'.length
   ·have hbq:((((l.length:Nat):Int)) == ((l'.length:Nat):Int))=true:=by simp [heq]
    rw [hbq];have HMN:Hid (runM P (T.take (m+1))=M):=by
     show _=_
     rw [HRN.out,HTU.out];have e9:l'[l.length]?=none:=List.getElem?_eq_none (by omega);simp only [e9]
    have HE2:=aa (dA HE.out hS);clear HSTP HE HRL HRN HTU;go_simp;go_wp2_with fail;go_roundw
    case rel=>exact ⟨m+1,late,tb,rs,ckv,tv,rv,by omega,by go_num,by rw [HMN.out];exact HE2⟩
    case measure=>simp [intOf];omega
   ·have hlt2:l.length < l'.length:=by
     obtain ⟨w0,b0,va,vw,vb,ps,V,cs,-,-,-,-,-,a6,-⟩:=HE.out;obtain ⟨r9,e9⟩:=a6.2 p l l' hMp hPp;have e8:=congrArg List.length e9;rw [List.length_append] at e8;omega
    have hbq:((((l.length:Nat):Int)) == ((l'.length:Nat):Int))=false:=by simp;omega
    rw [hbq];obtain ⟨ge,oe,hae,hce,p1,p2,lge⟩:=bA gQ HRL.out l.length hlt2;subst hae;obtain ⟨x,hx⟩:∃ x,l'[l.length]=x:=⟨_,rfl⟩;rw [hx] at hce;have hx2:l'[l.length]?=some x:=by rw [← hx];exact List.getElem?_eq_getElem hlt2
    have HEC:=aa hce;have HMN:Hid (runM P (T.take (m+1))=M.set p (l++[x])):=by
     show _=_
     rw [HRN.out,HTU.out];simp only [hx2]
    have BEd:=aa (ai BE.out hS BE.out.lt);have ST:=aa (fun w' (hb:Below wr.heap.size wr w')=>HSTP.out x hx2 w' hb);unfold ei at ST;unfold maxLen at p2;clear hce HSTP HRL HRN HTU HE hx;go_simp;go_wp2_with fail;refine aV (fun w'=>Below wr.heap.size wr w') 15 (by kernel_rfl) ?_;have hS2:Below wr.heap.size wr ({ wd with drawn:=wd.drawn+1 }:World):=hS.drew;clear hS;have hS:=hS2;clear hS2;generalize ({ wd with drawn:=wd.drawn+1 }:World)=wd2 at *;refine LU 0 (v:=.pointer (some ⟨eb,0,none⟩)) [15] rfl (fun wq hq=>by go_simp) hS ?_;refine LU 1 (v:=.int .i64 (p:Int)) [15] rfl (fun wq hq=>by go_simp) hS ?_;refine LU 2 (v:=.slice (some ⟨gp,op,none⟩) P.length cp) [4,5,13,14,15] rfl (fun wq hq=>by go_simp) hS ?_;refine LU 3 (v:=.int .i64 (p:Int)) [4,5,13,14,15] rfl (fun wq hq=>by go_simp) hS ?_;refine LU 4 (v:=.pointer (some ⟨gp,op+p,none⟩)) [5,13,14,15] rfl (fun wq hq=>by go_simp) hS ?_;refine LU 5 (v:=.slice (some ⟨ge,oe,none⟩) l'.length cl) [13,14,15] rfl (fun wq hq=>by have q:=(hq.cell (p:=⟨gp,op+p,none⟩) lgp).trans HPC.out;go_simp) hS ?_;refine LU 6 (v:=.pointer (some ⟨eb,0,none⟩)) [7,8,9,11,12,13,14,15] rfl (fun wq hq=>by go_simp) hS ?_;refine LU 7 (v:=.pointer (some ⟨eb,0,none⟩)) [8,9,11,12,13,14,15] rfl (fun wq hq=>by go_simp) hS ?_;refine LU 8 (v:=.pointer (some ⟨eb,0,none⟩)) [9,11,12,13,14,15] rfl (fun wq hq=>by go_simp) hS ?_;refine LU 9 (v:=.slice (some ⟨rdg,0,none⟩) P.length rdc) [11,12,13,14,15] rfl (fun wq hq=>by have K:=ai BE.out hq BE.out.lt;have q0:wq.cell? ⟨eb,0,none⟩=some (.slice (some ⟨rdg,0,none⟩) P.length rdc):=K.c 0 (by simp);clear K;go_simp) hS ?_;refine LU 10 (v:=.int .i64 (p:Int)) [11,12,13,14,15] rfl (fun wq hq=>by go_simp) hS ?_;refine LU 11 (v:=.pointer (some ⟨rdg,p,none⟩)) [12,13,14,15] rfl (fun wq hq=>by go_simp) hS ?_;refine LU 12 (v:=.int .i64 (l.length:Int)) [13,14,15] rfl (fun wq hq=>by have q:=(hq.cell (p:=⟨rdg,p,none⟩) lrd).trans HRD.out;go_simp) hS ?_;refine LU 13 (v:=.pointer (some ⟨ge,oe+l.length * 7,none⟩)) [14,15] rfl (fun wq hq=>by go_simp) hS ?_;refine LU 14 (v:=.agg #[Value.int .i64 x.t,Value.int .i64 x.k1,Value.int .i64 x.k2,Value.int .i64 x.a1,Value.int .i64 x.a2,Value.int .i64 x.b1,Value.int .i64 x.b2]) [15] rfl (fun wq hq=>by have q0:=(hq.cell (p:=⟨ge,oe+l.length * 7,none⟩) lge).trans (HEC.out 0 (by omega));have q1:=(hq.cell (p:=⟨ge,oe+(l.length * 7+1),none⟩) lge).trans (HEC.out 1 (by omega));have q2:=(hq.cell (p:=⟨ge,oe+(l.length * 7+2),none⟩) lge).trans (HEC.out 2 (by omega));have q3:=(hq.cell (p:=⟨ge,oe+(l.length * 7+3),none⟩) lge).trans (HEC.out 3 (by omega));have q4:=(hq.cell (p:=⟨ge,oe+(l.length * 7+4),none⟩) lge).trans (HEC.out 4 (by omega));have q5:=(hq.cell (p:=⟨ge,oe+(l.length * 7+5),none⟩) lge).trans (HEC.out 5 (by omega));have q6:=(hq.cell (p:=⟨ge,oe+(l.length * 7+6),none⟩) lge).trans (HEC.out 6 (by omega));simp only [gF,← Nat.add_assoc] at q0 q1 q2 q3 q4 q5 q6;go_simp) hS ?_
    refine LG 15 rfl ?_;intro K' hK;go_simp;refine (ST.out _ hS).mono ?_;rintro e w1 ⟨rfl,late',tb',rs',ckv',tv',rv',E1,S1⟩;have HE1:=aa E1;refine hK _ _ ⟨fun h=>absurd rfl h,?_⟩;clear hK E1;refine bI (by kernel_rfl) ?_ _;have EA:=aa (HEA.out _ _ _ _ _ _ _ _ _ _ HE1.out);clear ST HEC HRD BE BEd HPC;go_wp2_with fail;refine EA.out.mono ?_;rintro e w2 ⟨rfl,hb2⟩;have HE2:=aa (dA HE1.out hb2);clear HE1 EA hb2;go_wp2_with fail;go_roundw
    case rel=>exact ⟨m+1,late',tb',rs',ckv',tv',rv',by omega,by go_num,by rw [HMN.out];exact HE2⟩
    case measure=>simp [intOf];omega
  ·have hml:m=T.length:=by omega
   subst hml;rw [List.take_length] at HE;go_wp2_with fail;refine bodyPost_ret (v:=.tuple #[.pointer (some ⟨eb,0,none⟩),.bool true]) (by simp [results,Tryz.results27,go_sem]) rfl ?_;exact ⟨eb,late,tb,rs,_,ckv,tv,rv,rfl,HE.out⟩
def lit10:ByteArray:=⟨#[115,101,108,101,99,116,32,99,111,117,110,116,40,42,41,32,102,114,111,109,32,101,118,101,110,116,115,32,119,105,110,100,111,119,32,49,48]⟩
def q10:Qy:=⟨[⟨1,[]⟩],[],[],10,10,0,0⟩
theorem parse10:dZ lit10=.ok q10:=by kernel_rfl
theorem chk10:chkQ q10=0:=by decide
def e3:Ev:=⟨3,0,0,0,0,0,0⟩
def e12:Ev:=⟨12,0,0,0,0,0,0⟩
theorem adds_nil {ks:List Int} {tb0 tb:List Pn} {rows0 rows:List Rw} {l:List Ct} (h:AddsE ks tb0 rows0 l tb rows) (hl:l=[]):tb=tb0∧rows=rows0:=by
 cases h with
 | nil=>exact ⟨rfl,rfl⟩
 | snoc h a=>simp at hl
theorem nw {ks:List Int} {tb0 tb:List Pn} {rows0 rows:List Rw} {l:List Ct} {c:Ct} (h:AddsE ks tb0 rows0 l tb rows) (hl:l=[c]):qr ks tb0 rows0 c tb rows:=by
 cases h with
 | nil=>simp at hl
 | @snoc cs tb1 tb' rows1 rows' c' h a =>
  have h1:=congrArg List.reverse hl;simp at h1;obtain ⟨rfl,h2⟩:=h1;obtain ⟨rfl,rfl⟩:=adds_nil h h2;exact a
theorem take3:takeC q10 e3 (bF q10 (-1)) (decide ((0:Int)≤-1))=[⟨0,(0,0),[(0,0)]⟩]:=by kernel_rfl
theorem take12:takeC q10 e12 (bF q10 3) (decide ((0:Int)≤3))=[⟨10,(0,0),[(0,0)]⟩]:=by kernel_rfl
theorem works_one (tb:List Pn) (rows:List Rw) (late:Nat) (h:lY q10 [-1] 0 e3 [] [] 0 tb rows late):∃ av,tb=[⟨0,0,0,false,dD ([1].map iw) [(0,0)],av⟩]∧rows=[]:=by
 obtain ⟨tb1,rows1,ha,-,hs⟩:=h;have h1:=nw ha take3
 rcases h1 with ⟨j,hj,-⟩ | ⟨-,⟨i,av,hi,e⟩,-,er⟩
 ·simp at hj
 ·have hi0:i=0:=by simpa using hi
  subst hi0;have e1:tb1=[⟨0,0,0,false,dD ([1].map iw) [(0,0)],av⟩]:=e;subst e1;subst er
  rcases hs with ⟨hm,-,-⟩ | ⟨-,e2,e3⟩
  ·exact absurd hm (by decide)
  ·exact ⟨av,e2,e3⟩
theorem works_two (av:Value) (tb:List Pn) (rows:List Rw) (late late':Nat) (h:lY q10 [3] 0 e12 [⟨0,0,0,false,dD ([1].map iw) [(0,0)],av⟩] [] late tb rows late'):rows=[⟨false,(0,0,0,[(1,1)])⟩]:=by
 obtain ⟨tb1,rows1,ha,-,hs⟩:=h;have h1:=nw ha take12
 rcases h1 with ⟨j,hj,a9,⟨h2,-⟩,-⟩ | ⟨-,⟨i,a9,hi,e⟩,-,er⟩
 ·have hj0:j=0:=by simpa using hj
  subst hj0;have h3:(0:Int)=10:=h2;omega
 ·subst er;have hi1:i=0∨i=1:=by simp at hi;omega
  rcases hi1 with rfl | rfl
  ·rcases hs with ⟨hm,-,-⟩ | ⟨-,-,e3⟩
   ·exact absurd hm (by decide)
   ·rw [e] at e3;exact e3
  ·rcases hs with ⟨hm,-,-⟩ | ⟨-,-,e3⟩
   ·exact absurd hm (by decide)
   ·rw [e] at e3;exact e3
theorem one_row {rs:List (Rw×Value)} {r:Rw} (h:rs.map Prod.fst=[r]):∃ v,rs=[(r,v)]:=by
 cases rs with
 | nil=>simp at h
 | cons x l =>
  simp only [List.map_cons,List.cons.injEq,List.map_eq_nil_iff] at h;obtain ⟨rfl,rfl⟩:=h;exact ⟨x.2,rfl⟩
theorem works_any (w:World) (ht:TabQ w):Calls Tryz.prog 24 #[] w fun e w'=>e=.returned (.bool true)∧Below w.heap.size w w':=by
 have PA:=ji lit10 w ht;unfold jU at PA;rw [parse10] at PA
 simp only at PA
 unfold lit10 at PA;have HC:=aa chk10;have HW1:=aa works_one;have HW2:=aa works_two;have hz:q10.size=10:=rfl;obtain ⟨q,hq⟩:∃ q,q10=q:=⟨_,rfl⟩;rw [hq] at PA HC HW1 HW2;clear hz hq;have PAH:=aa PA;clear PA ht
 go_enter Tryz.func24,Tryz.ntmps24
 go_wp2_with fail;refine PAH.out.mono ?_;rintro r w1 ⟨hb,va,vw,vb,ps,rfl,hqo⟩;have hqg:=qj hqo;obtain ⟨ao,cap,rfl⟩:=aq hqg.ag.row;obtain ⟨a2,c2,rfl⟩:=aq hqg.wh;obtain ⟨a3,c3,rfl⟩:=aq hqg.by_;have B2:=aa (hb.trans ((aj w1 (.cells #[Value.slice ao ps.length cap,Value.slice a2 q.wh.length c2,Value.slice a3 q.bys.length c3,Value.int .i64 q.size,Value.int .i64 q.slide,Value.int .i64 q.delay,Value.int .i64 q.late] 28)).mono hb.size));have NW:=aa (mS (P:=[[e3,e12]]) (bf hqg (aj w1 (.cells #[Value.slice ao ps.length cap,Value.slice a2 q.wh.length c2,Value.slice a3 q.bys.length c3,Value.int .i64 q.size,Value.int .i64 q.slide,Value.int .i64 q.delay,Value.int .i64 q.late] 28))) HC.out (by decide) (by decide));have hlt:w.heap.size≤w1.heap.size:=hb.size;have lq:=(az w1 [Value.slice ao ps.length cap,Value.slice a2 q.wh.length c2,Value.slice a3 q.bys.length c3,Value.int .i64 q.size,Value.int .i64 q.slide,Value.int .i64 q.delay,Value.int .i64 q.late] 28).lt;unfold qyV at NW ⊢;simp only [List.length_cons,List.length_nil] at NW;clear PAH hb hqo hqg;go_wp2_with fail;refine NW.out.mono ?_;rintro e w2 ⟨eb,rdv,ckv0,rfl,hE⟩;have ST1:=aa (jx hE HC.out (by decide) (p:=0) (l:=[]) (l':=[e3,e12]) (x:=e3) rfl rfl rfl);unfold ei e3 at ST1;clear NW hE;go_wp2_with fail;refine ST1.out.mono ?_;rintro e w3 ⟨rfl,late1,tb1,rs1,ckv1,tv1,rv1,E1,S1⟩;obtain ⟨av1,rfl,h1⟩:=HW1.out _ _ _ S1;have hn1:rs1=[]:=by simpa using h1
 subst hn1;have ST2:=aa (jx E1 HC.out (by decide) (p:=0) (l:=[e3]) (l':=[e3,e12]) (x:=e12) rfl rfl rfl);unfold ei at ST2;have he12:e12=⟨12,0,0,0,0,0,0⟩:=rfl;rw [he12] at ST2;clear ST1 E1 S1 h1;go_wp2_with fail;refine ST2.out.mono ?_;rintro e w4 ⟨rfl,late2,tb2,rs2,ckv2,tv2,rv2,E2,S2⟩;have h2:=HW2.out _ _ _ _ _ S2;obtain ⟨v2,rfl⟩:=one_row h2;obtain ⟨w0,b0,va',vw',vb',ps',V,cs,a1,-,-,-,-,-,-,a8,-⟩:=E2;have HBF:=aa (B2.out.trans (a8.mono B2.out.size));have hbe:=a1.en.be;obtain ⟨rva,rvc,rfl⟩:=ax a1.en.ro;have e4:w4.cell? ⟨eb,4,none⟩=some (.slice rva 1 rvc):=hbe.c 4 (by simp);have lebx:=hbe.lt;obtain ⟨gr,cr,hsr,-,lgr⟩:=hZ a1.en.ro (by simp);cases hsr;have hv2:=(a1.en.rn _ (List.mem_singleton.2 rfl)).1
 simp only at hv2
 obtain ⟨av2,cv2,rfl⟩:=aF hv2;have y4:w4.cell? ⟨gr,4,none⟩=some (.slice av2 1 cv2):=a1.en.ro.cellAt 4 (by simp);obtain ⟨gv,ov,hav,hcv,p1,p2,lgv⟩:=fJ (ce hv2) 0 (by simp);cases hav;clear ST2 S2 h2 hbe a1 a8 HW1 HW2 B2;go_wp2_with fail;refine bodyPost_ret (v:=.bool true) (by simp [results,Tryz.results24,go_sem]) rfl ?_;exact ⟨rfl,HBF.out⟩
theorem few_any (pv tv:Value) (vs:List Value) (P:List (List Ev)) (T:List Int) (w:World) (hP:PtsR w pv vs P) (hpl:P.length≤maxLen) (hT:pz w tv T) (htl:T.length≤maxLen) :
  Calls Tryz.prog 26 #[pv,tv] w fun e w'=>e=.returned (.bool (decide (0 < P.length) && (lightM P && decide (T.length≤200))))∧Below w.heap.size w w':=by
 have LI:=aa (light_any pv vs P w hP hpl);obtain ⟨lb,hlb⟩:∃ b,lightM P=b:=⟨_,rfl⟩;rw [hlb] at LI ⊢;obtain ⟨ap,cp,rfl⟩:=aq hP.row;obtain ⟨at_,ct,rfl⟩:=aq hT;clear hP hT;unfold maxLen at hpl htl
 by_cases h0:0 < P.length
 ·have d0:decide ((0:Int) < (P.length:Int))=true:=decide_eq_true (by omega);rw [decide_eq_true h0,Bool.true_and]
  go_enter Tryz.func26,Tryz.ntmps26
  go_wp2_with fail;refine LI.out.mono ?_;rintro e w1 ⟨rfl,hb⟩;have HB:=aa hb;clear hb LI;cases lb with
  | false =>
   go_wp2_with fail;refine bodyPost_ret (v:=.bool false) (by simp [results,Tryz.results26,go_sem]) rfl ?_;exact ⟨rfl,HB.out⟩
  | true =>
   have d2:decide ((T.length:Int)≤200)=decide (T.length≤200):=by
    by_cases h:T.length≤200
    ·rw [decide_eq_true h,decide_eq_true (by omega)]
    ·rw [decide_eq_false h,decide_eq_false (by omega)]
   go_wp2_with fail;refine bodyPost_ret (v:=.bool (decide (T.length≤200))) (by simp [results,Tryz.results26,go_sem]) rfl ?_;exact ⟨rfl,HB.out⟩
 ·have d0:decide ((0:Int) < (P.length:Int))=false:=decide_eq_false (by omega);rw [decide_eq_false h0,Bool.false_and];have h00:P.length=0:=by omega
  go_enter Tryz.func26,Tryz.ntmps26
  go_wp2_with fail;refine bodyPost_ret (v:=.bool false) (by simp [results,Tryz.results26,go_sem]) rfl ?_;exact ⟨rfl,Below.refl _ _⟩
end Go.Proofs.YtcgjflamgnjhcaaGreatDoor
namespace Go.Proofs.YtcgjflamgnjhcaaGreatDoor
open Go.ChangeShapes Go.WideShapes Go.ChangeAt Go.RowKit
attribute [local go_sem ↓] cI cD
theorem sameVals_gen (l m9:List V2) (u v:Value) (w:World) (hl:l.length≤9223372036854775807) (hm9:m9.length≤9223372036854775807) (hu:bT w u 2 l.length (cB l)) (hv:bT w v 2 m9.length (cB m9)) :
  Calls Tryz.prog 56 #[u,v] w fun e w'=>e=.returned (.bool (decide (l=m9)))∧Below w.heap.size w w':=by
 obtain ⟨au,cu,rfl⟩:=aq hu;obtain ⟨av,cv,rfl⟩:=aq hv;have HU:=aa hu;have HV:=aa hv;have kn:=bG w;obtain ⟨kc,kf⟩:=bn w;have HF:Hid (∀ i (h1:i < l.length) (h2:i < m9.length),l[i]≠m9[i]→decide (l=m9)=false):=fun i h1 h2 hn=>decide_eq_false fun e=>hn (by subst e;rfl)
 by_cases hne:l.length=m9.length
 ·have bne:((l.length:Int) != (l.length:Int))=false:=by simp
  have HT:Hid (l=m9→decide (l=m9)=true):=fun e=>decide_eq_true e
  have HLM:Hid (m9.length=l.length):=hne.symm;rw [← hne];generalize decide (l=m9)=b at *;clear hu hv hne hm9
  go_enter Tryz.func56,Tryz.ntmps56
  go_wp2_with fail
  go_loopw [5] (fun i wr=>∃ m:Nat,m≤l.length∧i=.int .i64 m∧Hid (∀ i (h1:i < l.length) (h2:i < m9.length),i < m→l[i]=m9[i])∧Hid (Below w.heap.size w wr)) (fun i _=>l.length - (intOf i).toNat)
  case atStart=>exact ⟨0,Nat.zero_le _,rfl,fun i _ _ h=>absurd h (by omega),Below.refl _ _⟩
  case round =>
   obtain ⟨m,hm,rfl,HM,HW⟩:=hrel
   by_cases hlt:m < l.length
   ·have hlt2:m < m9.length:=by rw [HLM.out];exact hlt
    obtain ⟨g1,o1,rfl,e0,e1,p1,p2,p3⟩:=fJ HU.out m hlt;obtain ⟨g2,o2,rfl,f0,f1,q1,q2,q3⟩:=fJ HV.out m hlt2;have HEQ:Hid (l[m]=m9[m]→∀ i (h1:i < l.length) (h2:i < m9.length),i < m+1→l[i]=m9[i]):=fun he i h1 h2 hi=>by
     by_cases h9:i=m
     ·subst h9;exact he
     ·exact HM.out i h1 h2 (by omega)
    have HNE:=aa (HF.out m hlt hlt2);clear HM;generalize l[m]=x at *;generalize m9[m]=y at *;obtain ⟨x1,x2⟩:=x;obtain ⟨y1,y2⟩:=y
    simp only at e0 e1 f0 f1
    unfold maxLen at p2 q2;rw [HLM.out] at q1
    by_cases hxy:x1=y1∧x2=y2
    ·obtain ⟨rfl,rfl⟩:=hxy;have HE2:=aa (HEQ.out rfl);have z9:(x1 == x1 && x2 == x2)=true:=by simp
     clear HEQ HNE;go_wp2_with fail;refine aD HW (by kernel_rfl) (by kernel_rfl) ?_
     repeat (go_big_quiet_step (fail))
     refine wpQuiet_nil ?_;rintro _ ⟨pk,rfl⟩;have HP:=aa pk.h;generalize pk.w=wp at *;clear HW;go_wp2_with fail;go_roundw
     case rel=>exact ⟨m+1,by omega,by go_num,HE2,HP⟩
     case measure=>simp [intOf];omega
    ·have z9:(x1 == y1 && x2 == y2)=false:=by
      cases h8:(x1 == y1 && x2 == y2) with
      | false=>rfl
      | true =>
       simp only [Bool.and_eq_true,beq_iff_eq] at h8;exact absurd h8 hxy
     have hb:b=false:=HNE.out (fun e=>hxy (by
      simp only [Prod.mk.injEq] at e;exact e))
     subst hb;clear HEQ HNE;go_wp2_with fail;refine aD HW (by kernel_rfl) (by kernel_rfl) ?_
     repeat (go_big_quiet_step (fail))
     refine wpQuiet_nil ?_;rintro _ ⟨pk,rfl⟩;have HP:=aa pk.h;generalize pk.w=wp at *;clear HW;go_wp2_with fail
     go_ret
     exact ⟨rfl,HP.out⟩
   ·have hml:m=l.length:=by omega
    have hb:b=true:=HT.out (List.ext_getElem HLM.out.symm (fun i h1 h2=>HM.out i h1 h2 (by omega)));subst hb;subst hml;go_wp2_with fail
    go_ret
    exact ⟨rfl,HW.out⟩
 ·have hb:decide (l=m9)=false:=decide_eq_false fun e=>hne (by rw [e])
  have bne:((l.length:Int) != (m9.length:Int))=true:=by simp;omega
  have bne2:((l.length:Int) == (m9.length:Int))=false:=by simp;omega
  rw [hb]
  go_enter Tryz.func56,Tryz.ntmps56
  go_wp2_with fail
  go_ret
  exact ⟨rfl,Below.refl _ _⟩
def eqO (a b:Int×Int×Int×List V2):Bool:=decide (a=b)
theorem ir (st k n st2 k2 n2:Int) (l l2:List V2) (u v:Value) (w:World) (hl:l.length≤9223372036854775807) (hl2:l2.length≤9223372036854775807) (hu:bT w u 2 l.length (cB l)) (hv:bT w v 2 l2.length (cB l2)) :
  Calls Tryz.prog 66 #[.agg #[.int .i64 st,.int .i64 k,.int .i64 n,u],.agg #[.int .i64 st2,.int .i64 k2,.int .i64 n2,v]] w fun e w'=>e=.returned (.bool (eqO (st,k,n,l) (st2,k2,n2,l2)))∧Below w.heap.size w w':=by
 obtain ⟨au,cu,rfl⟩:=aq hu;obtain ⟨av,cv,rfl⟩:=aq hv;have b1:=(Below.refl w.heap.size w).alloc (Nat.le_refl _) (.cells #[.int .i64 st,.int .i64 k,.int .i64 n,.slice au l.length cu] 78);have b2:=b1.alloc b1.size (.cells #[.int .i64 st2,.int .i64 k2,.int .i64 n2,.slice av l2.length cv] 78);have SV:=aa (sameVals_gen l l2 _ _ _ hl hl2 (aA hu b2) (aA hv b2));have A0:=ai (aM w [.int .i64 st,.int .i64 k,.int .i64 n,.slice au l.length cu] 78 (by simp)) ((Below.refl _ _).alloc (Nat.le_refl _) (.cells #[.int .i64 st2,.int .i64 k2,.int .i64 n2,.slice av l2.length cv] 78)) (by simp);have A1:=aM (w.alloc (.cells #[.int .i64 st,.int .i64 k,.int .i64 n,.slice au l.length cu] 78)) [.int .i64 st2,.int .i64 k2,.int .i64 n2,.slice av l2.length cv] 78 (by simp);rw [show (w.alloc (.cells #[.int .i64 st,.int .i64 k,.int .i64 n,.slice au l.length cu] 78)).heap.size=w.heap.size+1 from by simp] at A1;have B0:=aa A0;have B1:=aa A1;have HA:=aa b2;obtain ⟨c,hc⟩:∃ c,eqO (st,k,n,l) (st2,k2,n2,l2)=c:=⟨_,rfl⟩;obtain ⟨b,hbb⟩:∃ b,decide (l=l2)=b:=⟨_,rfl⟩;have HC:Hid (c=((st == st2) && ((k == k2 && n == n2) && b))):=by
  show c=_
  rw [← hc,← hbb];unfold eqO;rw [Bool.eq_iff_iff]
  simp [and_assoc]
 rw [hc];rw [hbb] at SV;clear b1 b2 A0 A1 hu hv hc hbb
 go_enter Tryz.func66,Tryz.ntmps66
 go_wp2_with fail;refine SV.out.mono ?_;rintro e w1 ⟨rfl,hb⟩;have C0:=ai B0.out hb B0.out.lt;have C1:=ai B1.out hb B1.out.lt;have d0:w1.cell? ⟨w.heap.size,0,none⟩=some (.int .i64 st):=C0.c 0 (by simp);have d1:w1.cell? ⟨w.heap.size,1,none⟩=some (.int .i64 k):=C0.c 1 (by simp);have d2:w1.cell? ⟨w.heap.size,2,none⟩=some (.int .i64 n):=C0.c 2 (by simp);have f0:w1.cell? ⟨w.heap.size+1,0,none⟩=some (.int .i64 st2):=C1.c 0 (by simp);have f1:w1.cell? ⟨w.heap.size+1,1,none⟩=some (.int .i64 k2):=C1.c 1 (by simp);have f2:w1.cell? ⟨w.heap.size+1,2,none⟩=some (.int .i64 n2):=C1.c 2 (by simp);have HB:=nxt HA hb;clear hb C0 C1 B0 B1 SV HA;cases h1:(st == st2) with
 | false =>
  rw [h1] at HC;have hce:c=false:=HC.out;subst hce;go_wp2_with fail
  go_ret
  exact ⟨rfl,HB.out⟩
 | true =>
  rw [h1] at HC;cases h2:(k == k2 && n == n2) with
  | false =>
   rw [h2] at HC;have hce:c=false:=HC.out;subst hce;go_wp2_with fail
   go_ret
   exact ⟨rfl,HB.out⟩
  | true =>
   rw [h2] at HC;have hce:c=b:=HC.out;subst hce;go_wp2_with fail
   go_ret
   exact ⟨rfl,HB.out⟩
end Go.Proofs.YtcgjflamgnjhcaaGreatDoor
namespace Go.Proofs.YtcgjflamgnjhcaaGreatDoor
open Go.ChangeShapes Go.WideShapes Go.ChangeAt Go.RowKit
theorem infoPo:(Tryz.prog.info? 78).map (fun i=>(i.zero,i.size,i.bytes))=some (some (.agg #[.int .i64 0,.int .i64 0,.int .i64 0,.slice none 0 0]),4,48):=by kernel_rfl
theorem cell_four_newE (w:World) (a b c d:Value) (e:TypeId):∀ j u,([a,b,c,d]:List Value)[j]?=some u→(w.alloc (.cells #[a,b,c,d] e)).cell? ((⟨w.heap.size,0,none⟩:Addr).add j)=some u:=by
 intro j u h;have hj:j < 4:=by simpa using (List.getElem?_eq_some_iff.1 h).1
 have:=World.ownsRow_lit (base:=0) (size:=4) (e:=e) w #[a,b,c,d] 1 (Nat.zero_le _) (by decide) rfl
 have:=this.cellAt j (by omega)
 rw [show (⟨w.heap.size,0,none⟩:Addr).add j=⟨w.heap.size,j,none⟩ from by rcases (by omega:j=0∨j=1∨j=2∨j=3) with rfl | rfl | rfl | rfl <;> rfl,this];exact h
end Go.Proofs.YtcgjflamgnjhcaaGreatDoor
