/- Own texts in one. Conditions: as named in each. -/
import Derived.Test.YtcgjflamgnjhcaaGreatDoorEoE0J
import Derived.Test.YtcgjflamgnjhcaaGreatDoorEnAJ
import Derived.Test.YtcgjflamgnjhcaaGreatDoorEoCJ
import Derived.Test.YtcgjflamgnjhcaaGreatDoorEoGJ
import Derived.Test.YtcgjflamgnjhcaaGreatDoorKinJ
import Derived.Test.YtcgjflamgnjhcaaGreatDoorExpr1J
import Derived.Test.YtcgjflamgnjhcaaGreatDoorSrc1J
import Derived.Deep.Slices
set_option linter.unusedVariables false
set_option linter.unusedSimpArgs false
set_option maxRecDepth 100000
set_option maxHeartbeats 8000000
namespace Go.Proofs.YtcgjflamgnjhcaaGreatDoor
open Go.ChangeShapes Go.WideShapes Go.ChangeAt Go.RowKit
theorem alike_any (L1 L2:List Po) (u1 u2:Value) (w:World) (h1:bT w u1 4 L1.length (rowOf bM L1)) (v1:∀ o∈L1,bT w o.v 2 o.vs.length (cB o.vs)∧o.vs.length≤9223372036854775807) (h2:bT w u2 4 L2.length (rowOf bM L2)) (v2:∀ o∈L2,bT w o.v 2 o.vs.length (cB o.vs)∧o.vs.length≤9223372036854775807)
  (hl:L1.length≤1000000) (hlen:L2.length=L1.length) (he:∀ a∈L1,∃ b∈L2,fC a=fC b) :
  Calls Tryz.prog 33 #[u1,u2] w fun e w'=>e=.returned (.bool true)∧Below w.heap.size w w':=by
 obtain ⟨a1,d1,rfl⟩:=aq h1;obtain ⟨a2,d2,rfl⟩:=aq h2;have H1:=aa h1;have H2:=aa h2;have V1:=aa v1;have V2:=aa v2;have HE:=aa he;have HLEN:=aa hlen;have bne:((L1.length:Int) != (L1.length:Int))=false:=by simp
 rw [hlen];clear h1 h2 v1 v2 he hlen
 go_enter Tryz.func33,Tryz.ntmps33
 go_wp2_with fail
 go_loopw [5] (fun i wr=>∃ m:Nat,m≤L1.length∧i=.int .i64 m∧Hid (Below w.heap.size w wr)) (fun i _=>L1.length - (intOf i).toNat)
 case atStart=>exact ⟨0,Nat.zero_le _,rfl,Below.refl _ _⟩
 case round =>
  obtain ⟨m,hm,rfl,HW⟩:=hrel
  by_cases hlt:m < L1.length
  ·go_wp2_with fail;obtain ⟨g1,o1,ha1,hc1,p1,p2,lg1⟩:=bz cE H1.out m hlt;subst ha1;have r1:=V1.out L1[m] (List.getElem_mem hlt);have hem:=HE.out L1[m] (List.getElem_mem hlt);generalize L1[m]=x1 at *;obtain ⟨b1,e1,hz1⟩:=aq r1.1;have x0:w.cell? ⟨g1,o1+m * 4,none⟩=some (.int .i64 x1.st):=hc1 0 (by omega);have x1_:w.cell? ⟨g1,o1+m * 4+1,none⟩=some (.int .i64 x1.k):=hc1 1 (by omega);have x2_:w.cell? ⟨g1,o1+m * 4+2,none⟩=some (.int .i64 x1.n):=hc1 2 (by omega);have x3_:w.cell? ⟨g1,o1+m * 4+3,none⟩=some (.slice b1 x1.vs.length e1):=by rw [← hz1];exact hc1 3 (by omega)
   have X0:=aa x0;have X1:=aa x1_;have X2:=aa x2_;have X3:=aa x3_;have HR1:=aa r1;have HZ1:=aa hz1;have hfnd:∃ (j:Nat) (o:Po),L2[j]?=some o∧fC x1=fC o:=by
    obtain ⟨b,hb,e⟩:=hem;obtain ⟨j,hj,rfl⟩:=List.mem_iff_getElem.1 hb;exact ⟨j,_,List.getElem?_eq_getElem hj,e⟩
   have HFND:=aa hfnd;unfold maxLen at p2;clear hc1 r1 hem x0 x1_ x2_ x3_ hz1 hfnd
   go_loopw [6,7] (fun fv kv wk=>∃ (k:Nat) (f:Bool),k≤L1.length∧kv=.int .i64 k∧fv=.bool f∧Hid (∀ (j:Nat) o,j < k→L2[j]?=some o→fC x1=fC o→f=true)∧Hid (Below w.heap.size w wk)) (fun _ kv _=>L1.length - (intOf kv).toNat)
   case atStart=>exact ⟨0,false,Nat.zero_le _,rfl,rfl,fun j o hj=>absurd hj (by omega),HW⟩
   case round =>
    clear HW;obtain ⟨k,f,hk,rfl,rfl,HF,HW⟩:=hrel
    by_cases hkl:k < L1.length
    ·have hlt2:k < L2.length:=by rw [HLEN.out];exact hkl
     obtain ⟨g2,o2,ha2,hc2,q1,q2,lg2⟩:=bz cE H2.out k hlt2;subst ha2;have r2:=V2.out L2[k] (List.getElem_mem hlt2);have hok:L2[k]?=some L2[k]:=List.getElem?_eq_getElem hlt2;generalize L2[k]=x2 at *;obtain ⟨b2,e2,hz2⟩:=aq r2.1;have x0:=X0.out;have x1_:=X1.out;have x2_:=X2.out;have x3_:=X3.out;have y0:w.cell? ⟨g2,o2+k * 4,none⟩=some (.int .i64 x2.st):=hc2 0 (by omega);have y1:w.cell? ⟨g2,o2+k * 4+1,none⟩=some (.int .i64 x2.k):=hc2 1 (by omega);have y2:w.cell? ⟨g2,o2+k * 4+2,none⟩=some (.int .i64 x2.n):=hc2 2 (by omega);have y3:w.cell? ⟨g2,o2+k * 4+3,none⟩=some (.slice b2 x2.vs.length e2):=by rw [← hz2];exact hc2 3 (by omega)
     obtain ⟨sm,hsm⟩:∃ b,eqO (x1.st,x1.k,x1.n,x1.vs) (x2.st,x2.k,x2.n,x2.vs)=b:=⟨_,rfl⟩;have SP:=aa (fun w' (hb:Below w.heap.size w w')=>im x1.st x1.k x1.n x2.st x2.k x2.n x1.vs x2.vs (.slice b1 x1.vs.length e1) (.slice b2 x2.vs.length e2) w' HR1.out.2 r2.2 (by rw [← HZ1.out];exact aA HR1.out.1 hb) (by rw [← hz2];exact aA r2.1 hb));rw [hsm] at SP;have HSM:Hid (fC x1=fC x2→sm=true):=fun e=>by
      rw [← hsm];exact decide_eq_true e
     have HOK:=aa hok;unfold maxLen at q2;rw [HLEN.out] at q1;clear hc2 r2 hz2 hsm hok;go_wp2_with fail;refine wp_region_held (S:=fun w'=>Below w.heap.size w w') (by kernel_rfl) ?_;have hS:Below w.heap.size w ({ wr with drawn:=wr.drawn+1 }:World):=HW.out.drew;generalize ({ wr with drawn:=wr.drawn+1 }:World)=wd at *;clear HW;refine HU 0 (v:=.slice (some ⟨g1,o1,none⟩) L1.length d1) rfl (fun wq hq=>by go_simp) hS ?_;refine HU 1 (v:=.int .i64 (m:Int)) rfl (fun wq hq=>by go_simp) hS ?_;refine HU 2 (v:=.pointer (some ⟨g1,o1+m * 4,none⟩)) rfl (fun wq hq=>by go_simp) hS ?_;refine HU 3 (v:=.agg #[.int .i64 x1.st,.int .i64 x1.k,.int .i64 x1.n,.slice b1 x1.vs.length e1]) rfl (fun wq hq=>by have q0:=(hq.cell (p:=⟨g1,o1+m * 4,none⟩) lg1).trans x0;have q1:=(hq.cell (p:=⟨g1,o1+m * 4+1,none⟩) lg1).trans x1_;have q2:=(hq.cell (p:=⟨g1,o1+m * 4+2,none⟩) lg1).trans x2_;have q3:=(hq.cell (p:=⟨g1,o1+m * 4+3,none⟩) lg1).trans x3_;go_simp) hS ?_;refine HU 4 (v:=.slice (some ⟨g2,o2,none⟩) L1.length d2) rfl (fun wq hq=>by go_simp) hS ?_;refine HU 5 (v:=.int .i64 (k:Int)) rfl (fun wq hq=>by go_simp) hS ?_;refine HU 6 (v:=.pointer (some ⟨g2,o2+k * 4,none⟩)) rfl (fun wq hq=>by go_simp) hS ?_;refine HU 7 (v:=.agg #[.int .i64 x2.st,.int .i64 x2.k,.int .i64 x2.n,.slice b2 x2.vs.length e2]) rfl (fun wq hq=>by have q0:=(hq.cell (p:=⟨g2,o2+k * 4,none⟩) lg2).trans y0;have q1:=(hq.cell (p:=⟨g2,o2+k * 4+1,none⟩) lg2).trans y1;have q2:=(hq.cell (p:=⟨g2,o2+k * 4+2,none⟩) lg2).trans y2;have q3:=(hq.cell (p:=⟨g2,o2+k * 4+3,none⟩) lg2).trans y3;go_simp) hS ?_;refine HG 8 rfl ?_;intro K' hK;go_simp;refine (SP.out _ hS).mono ?_;rintro e w1 ⟨rfl,hb⟩;have hS1:=hS.trans (hb.mono hS.size);refine hK _ _ ⟨hS1,?_⟩;clear hK hb;refine HU 9 (v:=.bool sm) rfl (fun wq hq=>by go_simp) hS1 ?_;refine wpAnyH_done (by kernel_rfl) ?_ _;have HP:=aa hS1;clear hS hS1 SP x0 x1_ x2_ x3_ y0 y1 y2 y3;cases f with
     | true =>
      have HF2:Hid (∀ (j:Nat) o,j < k+1→L2[j]?=some o→fC x1=fC o→true=true):=fun _ _ _ _ _=>rfl
      go_wp2_with fail;go_roundw
      case rel=>exact ⟨k+1,true,by omega,by go_num,rfl,HF2,HP⟩
      case measure=>simp [intOf];omega
     | false =>
      have HF2:Hid (∀ (j:Nat) o,j < k+1→L2[j]?=some o→fC x1=fC o→sm=true):=fun j o hj ho e=>by
       by_cases hjk:j=k
       ·subst hjk;rw [HOK.out] at ho;cases ho;exact HSM.out e
       ·have:=HF.out j o (by omega) ho e
        cases this
      go_wp2_with fail;go_roundw
      case rel=>exact ⟨k+1,sm,by omega,by go_num,rfl,HF2,HP⟩
      case measure=>simp [intOf];omega
    ·have hke:k=L1.length:=by omega
     subst hke;have hf:f=true:=by
      obtain ⟨j,o,ho,e⟩:=HFND.out;exact HF.out j o (by rw [← HLEN.out];exact (List.getElem?_eq_some_iff.1 ho).1) ho e
     subst hf;go_wp2_with fail;go_roundw
     case rel=>exact ⟨m+1,by omega,by go_num,HW⟩
     case measure=>simp [intOf];omega
  ·have hml:m=L1.length:=by omega
   subst hml;go_wp2_with fail
   go_ret
   exact ⟨rfl,HW.out⟩
theorem place_small (p n:Nat) (h:p < n) (h3:n≤3):placeE (p:Int) n=p:=by
 rcases (by omega:(p=0∧n=1)∨(p=0∧n=2)∨(p=0∧n=3)∨(p=1∧n=2)∨(p=1∧n=3)∨(p=2∧n=3)) with ⟨rfl,rfl⟩ | ⟨rfl,rfl⟩ | ⟨rfl,rfl⟩ | ⟨rfl,rfl⟩ | ⟨rfl,rfl⟩ | ⟨rfl,rfl⟩ <;> kernel_rfl
def ei (M:List (List Ev)) (p:Nat):List Int:=(List.range p).flatMap fun i=>List.replicate (M.getD i []).length (i:Int)
theorem fP (M:List (List Ev)) (p:Nat):ei M (p+1)=ei M p++List.replicate (M.getD p []).length (p:Int):=by
 unfold ei;rw [List.range_succ,List.flatMap_append]
 simp
theorem nw {P X:List (List Ev)} {p:Nat} (hp:p < P.length) (h3:P.length≤3) (hX:X.length=P.length) {l l':List Ev} (hl':P[p]?=some l') (hl:∃ r,l'=l++r) (hx:X[p]?=some []):∀ k,k≤l.length→(List.replicate k (p:Int)).foldl (turnM P) X=X.set p (l.take k)
 | 0,_=>by
  show X=_
  rw [List.take_zero];exact (List.ext_getElem? fun j=>by
   by_cases hj:j=p
   ·subst hj;rw [List.getElem?_set_self (by omega),hx]
   ·rw [List.getElem?_set_ne (fun e=>hj e.symm)])
 | k+1,hk=>by
  rw [List.replicate_succ',List.foldl_append,nw hp h3 hX hl' hl hx k (by omega)]
  show turnM P (X.set p (l.take k)) (p:Int)=_
  unfold turnM;rw [place_small p P.length hp h3,List.getElem?_set_self (by omega),hl'];obtain ⟨r,rfl⟩:=hl;have hlt:(l.take k).length=k:=by rw [List.length_take];omega
  have e:(l++r)[(l.take k).length]?=some (l[k]'(by omega)):=by
   rw [hlt,List.getElem?_append_left (by omega),List.getElem?_eq_getElem (by omega)]
  simp only [e];rw [List.set_set,← List.take_succ_eq_append_getElem (by omega)]
theorem nj {P M:List (List Ev)} (h3:P.length≤3) (h:nS M P):∀ p,p≤P.length→runM P (ei M p)=M.take p++List.replicate (P.length - p) []
 | 0,_=>by simp [runM,ei]
 | p+1,hp=>by
  have hlen:=h.1;have ih:=nj h3 h p (by omega);rw [fP];unfold runM at ih ⊢;rw [List.foldl_append,ih];have hpm:p < M.length:=by omega
  have hX:(M.take p++List.replicate (P.length - p) ([]:List Ev)).length=P.length:=by rw [List.length_append,List.length_take,List.length_replicate];omega
  have hx:(M.take p++List.replicate (P.length - p) ([]:List Ev))[p]?=some []:=by
   rw [List.getElem?_append_right (by rw [List.length_take];omega),List.getElem?_replicate,if_pos (by rw [List.length_take];omega)]
  have hg:M.getD p []=M[p]:=by rw [List.getD_eq_getElem?_getD,List.getElem?_eq_getElem hpm];rfl
  rw [nw (by omega) h3 hX (List.getElem?_eq_getElem (by omega:p < P.length)) (h.2 p M[p] _ (List.getElem?_eq_getElem hpm) (List.getElem?_eq_getElem (by omega))) hx _ (by rw [hg];exact Nat.le_refl _),hg,List.take_length];refine List.ext_getElem? fun j=>?_
  by_cases hj:j=p
  ·subst hj;rw [List.getElem?_set_self (by rw [hX];omega),List.getElem?_append_left (by rw [List.length_take];omega),List.getElem?_take_of_lt (by omega),List.getElem?_eq_getElem hpm]
  ·rw [List.getElem?_set_ne (fun e=>hj e.symm)]
   by_cases hjp:j < p
   ·rw [List.getElem?_append_left (by rw [List.length_take];omega),List.getElem?_append_left (by rw [List.length_take];omega),List.getElem?_take_of_lt (by omega),List.getElem?_take_of_lt (by omega)]
   ·rw [List.getElem?_append_right (by rw [List.length_take];omega),List.getElem?_append_right (by rw [List.length_take];omega),List.getElem?_replicate,List.getElem?_replicate,List.length_take,List.length_take];have e1:min p M.length=p:=by omega
    have e2:min (p+1) M.length=p+1:=by omega
    rw [e1,e2]
    by_cases hjn:j < P.length
    ·rw [if_pos (by omega),if_pos (by omega)]
    ·rw [if_neg (by omega),if_neg (by omega)]
theorem ones_all {P M:List (List Ev)} (h3:P.length≤3) (h:nS M P):runM P (ei M P.length)=M:=by
 rw [nj h3 h P.length (Nat.le_refl _),Nat.sub_self]
 simp [← h.1]
theorem jw (M:List (List Ev)):∀ p,p≤M.length→(ei M p).length=iw (M.take p)
 | 0,_=>by simp [ei,iw]
 | p+1,hp=>by
  rw [fP,List.length_append,jw M p (by omega),List.length_replicate,List.take_succ_eq_append_getElem (by omega)];unfold iw;rw [List.map_append,List.sum_append,List.getD_eq_getElem?_getD,List.getElem?_eq_getElem (by omega)]
  simp
theorem lG (M:List (List Ev)) (p:Nat):iw (M.take p)≤iw M:=by
 have e:=List.take_append_drop p M;have h:iw M=iw (M.take p)+iw (M.drop p):=by
  conv=>lhs;rw [← e]
  unfold iw;rw [List.map_append,List.sum_append]
 omega
theorem fw (v:Value) (w:World):Sem.run Tryz.prog (callFunc 36 #[v]) w=.ok (.enter 36 #[v]) w:=by kernel_rfl
theorem jU (v:Value) (w:World):Calls Tryz.prog 36 #[v] w fun e w'=>e=.returned (.bool true)∧Below w.heap.size w w':=by
 go_enter Tryz.func36,Tryz.ntmps36
 go_wp2_with fail
 go_ret
 exact ⟨rfl,Below.refl _ _⟩
theorem one_int_cell (w:World) (v:Value) (e:TypeId):∀ j u,([v]:List Value)[j]?=some u→(w.alloc (.cells #[v] e)).cell? ((⟨w.heap.size,0,none⟩:Addr).add j)=some u:=fun j u h=>by
 have hj:j=0:=by have:=(List.getElem?_eq_some_iff.1 h).1;simpa using this
 subst hj;cases h;exact (az w [v] e).c 0 (by simp)
theorem engS_same {W W' w w':World} {q:Qy} {P:List (List Ev)} {eb eb':Nat} {M:List (List Ev)} {late late':Nat} {tb tb':List Pn} {rs rs':List (Rw×Value)} {rdv ckv tv rv rdv' ckv' tv' rv':Value} (h:nQ W q P eb M late tb rs rdv ckv tv rv w) (h':nQ W' q P eb' M late' tb' rs' rdv' ckv' tv' rv' w') :
  late=late'∧∀ out out',netL [] (rs.map Prod.fst)=some out→netL [] (rs'.map Prod.fst)=some out'→out.length=out'.length∧∀ x∈out,x∈out':=by
 obtain ⟨w0,b0,va,vw,vb,ps,V,cs,-,-,-,-,a5,-⟩:=h;obtain ⟨w0',b0',va',vw',vb',ps',V',cs',-,-,-,-,a5',-⟩:=h';obtain ⟨hl,o1,o2,n1,n2,d1,d2,hm⟩:=run_same a5 a5';refine ⟨hl,fun out out' e1 e2=>?_⟩;rw [n1] at e1;rw [n2] at e2;cases e1;cases e2;exact ⟨same_len d1 (gD d2) hm,fun x hx=>(hm x).1 hx⟩
theorem kM {W w:World} {q:Qy} {P:List (List Ev)} {eb:Nat} {M:List (List Ev)} {late:Nat} {tb:List Pn} {rs:List (Rw×Value)} {rdv ckv tv rv:Value} (h:nQ W q P eb M late tb rs rdv ckv tv rv w) (hc:chkQ q=0) (hl:lightM P=true) (h0:0 < P.length) :
  ∃ rva rvc rdg rdc,rv=.slice rva rs.length rvc∧rdv=.slice (some ⟨rdg,0,none⟩) P.length rdc∧w.cell? ⟨eb,0,none⟩=some rdv∧w.cell? ⟨eb,3,none⟩=some (eF late)∧w.cell? ⟨eb,4,none⟩=some rv∧eb < w.heap.size∧(∀ p,p < P.length→w.cell? ⟨rdg,p,none⟩=some (.int .i64 ((M.getD p []).length:Nat)))∧rdg < w.heap.size∧nS M P∧late≤480∧Below W.heap.size W w:=by
 obtain ⟨w0,b0,va,vw,vb,ps,V,cs,a1,-,-,-,a5,a6,-,a8,-⟩:=h;obtain ⟨rva,rvc,e1⟩:=ax a1.en.ro;obtain ⟨g,c,e3,-⟩:=dV a1.rd (by rw [List.length_map,a6.1];exact h0);rw [List.length_map,a6.1] at e3;have h8:=a1.rd;rw [List.length_map,a6.1,e3] at h8;refine ⟨rva,rvc,g,c,e1,e3,a1.en.be.c 0 (by simp),a1.en.be.c 3 (by simp),a1.en.be.c 4 (by simp),a1.en.be.lt,fun p hp=>?_,(aI h8 g rfl).2,a6,?_,a8⟩
 ·have h9:=h8.cellAt p (by omega);rw [List.getElem?_map,List.getElem?_map,List.getElem?_eq_getElem (by rw [a6.1];exact hp)] at h9;rw [List.getD_eq_getElem?_getD,List.getElem?_eq_getElem (by rw [a6.1];exact hp)];exact h9
 ·have h1:=(iT (p7 hc) M).2;have h2:=preM_evs _ _ a6;obtain ⟨-,-,-,h3⟩:=eO a6 hl;rw [a5.late];omega
theorem topTurns_walk (s:ByteArray) (pv tv:Value) (vs:List Value) (P:List (List Ev)) (T:List Int) (w:World) (ht:TabQ w) (hP:PtsR w pv vs P) (hpl:P.length≤maxLen) (hT:py w tv T) (htl:T.length≤maxLen) :
  Calls Tryz.prog 8 #[.string s,pv,tv] w fun e w'=>e=.returned (.bool true)∧Below w.heap.size w w':=by
 have WK:=aa (works_any w ht);obtain ⟨ap,cp,rfl⟩:=aq hP.row;obtain ⟨at_,ct,rfl⟩:=aq hT;have HT:=aa ht;have HP:=aa hP;have HTT:=aa hT;clear ht hP hT
 go_enter Tryz.func8,Tryz.ntmps8
 go_wp2_with fail;refine WK.out.mono ?_;rintro e w1 ⟨rfl,hb1⟩;have B1:=aa hb1;have ASK:=asked_any s w1 (HT.out.below hb1);unfold qE at ASK;have ASKH:=aa ASK;clear WK hb1 ASK HT;go_wp2_with fail;refine ASKH.out.mono ?_;rintro r w2 ⟨hb,hr⟩;have B2:=nxt B1 hb;clear ASKH B1 hb
 rcases hr with rfl | ⟨q,va,vw,vb,ps,hpq,rfl,hqo⟩
 ·unfold qzV;have B3:=aa (B2.out.trans ((aj w2 (.cells #[.slice none 0 0,.slice none 0 0,.slice none 0 0,.int .i64 0,.int .i64 0,.int .i64 0,.int .i64 0] 28)).mono B2.out.size));go_wp2_with fail;refine bodyPost_ret (v:=.bool true) (by simp [results,Tryz.results8,go_sem]) rfl ?_;exact ⟨rfl,B3.out⟩
 ·have hqg:=qo hqo;obtain ⟨ao,cap,rfl⟩:=aq hqg.ag.row;obtain ⟨a2,c2,rfl⟩:=aq hqg.wh;obtain ⟨a3,c3,rfl⟩:=aq hqg.by_;have hba:=aj w2 (.cells #[Value.slice ao ps.length cap,Value.slice a2 q.wh.length c2,Value.slice a3 q.bys.length c3,Value.int .i64 q.size,Value.int .i64 q.slide,Value.int .i64 q.delay,Value.int .i64 q.late] 28);have B3:=aa (B2.out.trans (hba.mono B2.out.size));have G3:=aa (b7 hqg hba);have BQ3:=aa (az w2 [Value.slice ao ps.length cap,Value.slice a2 q.wh.length c2,Value.slice a3 q.bys.length c3,Value.int .i64 q.size,Value.int .i64 q.slide,Value.int .i64 q.delay,Value.int .i64 q.late] 28);have HP3:=aa (fM HP.out B3.out);have HT3:=aa (aA HTT.out B3.out);have FE:=aa (few_any _ _ vs P T _ HP3.out hpl HT3.out htl);have HC:=aa (chk_of_parse hpq);have hlt:=BQ3.out.lt;unfold qyV;clear hqo hqg hba HP HTT hpq;go_wp2_with fail;refine FE.out.mono ?_;rintro e w3 ⟨rfl,hb3⟩;have B4:=aa (B3.out.trans (hb3.mono B3.out.size));obtain ⟨few,hfew⟩:∃ b,(decide (0 < P.length) && (lightM P && decide (T.length≤200)))=b:=⟨_,rfl⟩;rw [hfew];cases few with
  | false =>
   clear FE hb3;go_wp2_with fail;refine bodyPost_ret (v:=.bool true) (by simp [results,Tryz.results8,go_sem]) rfl ?_;exact ⟨rfl,B4.out⟩
  | true =>
   have h09:0 < P.length:=by
    cases h:decide (0 < P.length) with
    | true=>exact of_decide_eq_true h
    | false=>rw [h] at hfew;cases hfew
   have hl9:lightM P=true:=by
    rw [decide_eq_true h09,Bool.true_and] at hfew;exact (Bool.and_eq_true_iff.1 hfew).1
   have ht9:T.length≤200:=by
    rw [decide_eq_true h09,Bool.true_and] at hfew;exact of_decide_eq_true (Bool.and_eq_true_iff.1 hfew).2
   have hP39:=(fA hl9).1;have BQ3:=aa (ai BQ3.out hb3 BQ3.out.lt);have HPX:=aa (fM HP3.out hb3);have HGX:=aa (b7 G3.out hb3);have RUN:=mT 36 _ _ _ _ _ q ps vs P T w3 HGX.out HC.out HPX.out h09 hl9 (aA HT3.out hb3) (by omega) (fun v w=>fw v w) (fun eb M late tb rs rdv ckv tv rv w h=>jU _ w);unfold qyV at RUN;have RUNH:=aa RUN;have q0:w3.cell? ⟨w2.heap.size,0,none⟩=some (Value.slice ao ps.length cap):=BQ3.out.c 0 (by simp);have q1:w3.cell? ⟨w2.heap.size,1,none⟩=some (Value.slice a2 q.wh.length c2):=BQ3.out.c 1 (by simp);have q2:w3.cell? ⟨w2.heap.size,2,none⟩=some (Value.slice a3 q.bys.length c3):=BQ3.out.c 2 (by simp);have q3:w3.cell? ⟨w2.heap.size,3,none⟩=some (Value.int .i64 q.size):=BQ3.out.c 3 (by simp);have q4:w3.cell? ⟨w2.heap.size,4,none⟩=some (Value.int .i64 q.slide):=BQ3.out.c 4 (by simp);have q5:w3.cell? ⟨w2.heap.size,5,none⟩=some (Value.int .i64 q.delay):=BQ3.out.c 5 (by simp);have q6:w3.cell? ⟨w2.heap.size,6,none⟩=some (Value.int .i64 q.late):=BQ3.out.c 6 (by simp);have lq3:=BQ3.out.lt;obtain ⟨i0,hi,hz0,hz1,hz2⟩:=info_parts infoI;clear RUN FE hb3 HP3 HT3 G3 hfew;go_wp2_with fail;refine RUNH.out.mono ?_;rintro e w4 ⟨eb,late,tb,rs,rdv,ckv,tv,rv,rfl,hE⟩;have HE0:=aa hE;obtain ⟨rva,rvc,rdg,rdc,rfl,rfl,e0,e3,e4,leb,hrd,lrd,hpre,hlt48,a8⟩:=kM hE HC.out hl9 h09;have BQ4:=aa (ai BQ3.out a8 BQ3.out.lt);have HB4:=aa (B4.out.trans (a8.mono B4.out.size));have HRD:=aa hrd;have E0:=aa e0;obtain ⟨l1,l2,l3,l4⟩:=eO hpre hl9;have hev:=preM_evs _ _ hpre;have HALL:=aa (ones_all hP39 hpre);have hmlen:=hpre.1;have HA8:=aa a8;generalize runM P T=M at *;clear hE RUNH hrd e3 e4 hpre a8 l1 l2 q0 q1 q2 q3 q4 q5 q6 e0;go_wp2_with fail
   go_loopw [11,12] (fun ov i wr=>∃ p:Nat,p≤P.length∧i=.int .i64 p∧Hid (wr.ownsRow w4.heap.size 3 1 ov (ei M p).length ((ei M p).map (Value.int .i64)))∧Hid (Below w4.heap.size w4 wr)) (fun _ i _=>P.length - (intOf i).toNat)
   case atStart=>exact ⟨0,Nat.zero_le _,rfl,⟨rfl,.inl ⟨rfl,rfl⟩⟩,Below.refl _ _⟩
   case round =>
    obtain ⟨p,hp,rfl,HO,HB⟩:=hrel;obtain ⟨oa,oc,rfl⟩:=ax HO.out
    by_cases hlt:p < P.length
    ·go_wp2_with fail;have hk40:(M.getD p []).length≤120∧(ei M p).length+(M.getD p []).length≤120:=by
      have h1:=jw M (p+1) (by omega);rw [fP,List.length_append,List.length_replicate] at h1;have h2:=lG M (p+1);omega
     obtain ⟨kn_,hkn⟩:∃ k,(M.getD p []).length=k:=⟨_,rfl⟩;have hrp:=HRD.out p hlt;rw [hkn] at hk40 hrp;have HSUC:Hid (ei M (p+1)=ei M p++List.replicate kn_ (p:Int)):=by
      show _=_
      rw [fP,hkn]
     have HRP:=aa hrp;clear hrp
     go_loopw [11,13] (fun ov2 j wx=>∃ k:Nat,k≤kn_∧j=.int .i64 k∧Hid (wx.ownsRow w4.heap.size 3 1 ov2 (ei M p++List.replicate k (p:Int)).length ((ei M p++List.replicate k (p:Int)).map (Value.int .i64)))∧Hid (Below w4.heap.size w4 wx)) (fun _ j _=>kn_ - (intOf j).toNat)
     case atStart=>exact ⟨0,Nat.zero_le _,rfl,by simpa using HO,HB⟩
     case round =>
      clear HO HB;obtain ⟨k,hk,rfl,HO,HB⟩:=hrel;obtain ⟨oa2,oc2,rfl⟩:=ax HO.out;have x0:wr.cell? ⟨eb,0,none⟩=some (.slice (some ⟨rdg,0,none⟩) P.length rdc):=(HB.out.cell (p:=⟨eb,0,none⟩) leb).trans E0.out;have x1:wr.cell? ⟨rdg,p,none⟩=some (.int .i64 (kn_:Nat)):=(HB.out.cell (p:=⟨rdg,p,none⟩) lrd).trans HRP.out;have lebr:=Nat.lt_of_lt_of_le leb HB.out.size;have lrdr:=Nat.lt_of_lt_of_le lrd HB.out.size;have hll:(ei M p++List.replicate k (p:Int)).length≤120:=by rw [List.length_append,List.length_replicate];omega
      by_cases hkl:k < kn_
      ·go_wp2_with (at_builtin;go_must (refine wpList_append_own _ rfl (.tmp 62) (.tmp 64) 56 rfl w4.heap.size 3 i0 (.int .i64 0) 1 8 Tryz.underlying56 hi hz0 hz1 hz2 rfl (by decide) _ _ _ rfl (HO.out.alloc _) ⟨wr.heap.size,0,none⟩ 1 1 [.int .i64 (p:Int)] rfl rfl (one_int_cell _ _ _) (by intro u hu;simp at hu;subst hu;rfl) (by show _≤2 ^ 63 - 1;omega) (by omega) (by have:=HB.out.size;simp;omega) ?_))
       intro v' w5 ho5 hg5 _;have ho6:w5.ownsRow w4.heap.size 3 1 v' (ei M p++List.replicate (k+1) (p:Int)).length ((ei M p++List.replicate (k+1) (p:Int)).map (Value.int .i64)):=by
        have e9:(ei M p++List.replicate (k+1) (p:Int))=(ei M p++List.replicate k (p:Int))++[(p:Int)]:=by rw [List.replicate_succ',List.append_assoc]
        rw [e9]
        simpa [Nat.add_assoc] using ho5
       obtain ⟨oa5,oc5,rfl⟩:=ax ho6;have HO5:=aa ho6;have HB5:Hid (Below w4.heap.size w4 w5):=(HB.out.alloc HB.out.size _).grown hg5 (by have:=HB.out.size;simp;omega) (fun k2 hk2=>(HO.out.lt k2 (by simpa using hk2)).1);clear ho5 ho6 hg5 x0 x1 HO HB;go_wp2_with fail;go_roundw
       case rel=>exact ⟨k+1,by omega,by go_num,HO5,HB5⟩
       case measure=>simp [intOf];omega
      ·have hke:k=kn_:=by omega
       subst hke;go_wp2_with fail;go_roundw
       case rel=>exact ⟨p+1,by omega,by go_num,by rw [HSUC.out];exact HO,HB⟩
       case measure=>simp [intOf];omega
    ·have hpe:p=P.length:=by omega
     subst hpe;have hlo:(ei M P.length).length≤120:=by
      rw [jw M P.length (by omega)]
      have:=lG M P.length
      omega
     have BQ5:=aa (ai BQ4.out HB.out BQ4.out.lt);have HE1:=aa (dB HE0.out HB.out);have HAr:=HA8.out.trans (HB.out.mono HA8.out.size);have RUN:=mT 36 _ _ _ _ _ q ps vs P (ei M P.length) wr (b7 HGX.out HAr) HC.out (fM HPX.out HAr) h09 hl9 (aE HO.out) (by omega) (fun v w=>fw v w) (fun eb M late tb rs rdv ckv tv rv w h=>jU _ w);unfold qyV at RUN;rw [HALL.out] at RUN;have RUNH:=aa RUN;have q0:wr.cell? ⟨w2.heap.size,0,none⟩=some (Value.slice ao ps.length cap):=BQ5.out.c 0 (by simp);have q1:wr.cell? ⟨w2.heap.size,1,none⟩=some (Value.slice a2 q.wh.length c2):=BQ5.out.c 1 (by simp);have q2:wr.cell? ⟨w2.heap.size,2,none⟩=some (Value.slice a3 q.bys.length c3):=BQ5.out.c 2 (by simp);have q3:wr.cell? ⟨w2.heap.size,3,none⟩=some (Value.int .i64 q.size):=BQ5.out.c 3 (by simp);have q4:wr.cell? ⟨w2.heap.size,4,none⟩=some (Value.int .i64 q.slide):=BQ5.out.c 4 (by simp);have q5:wr.cell? ⟨w2.heap.size,5,none⟩=some (Value.int .i64 q.delay):=BQ5.out.c 5 (by simp);have q6:wr.cell? ⟨w2.heap.size,6,none⟩=some (Value.int .i64 q.late):=BQ5.out.c 6 (by simp);have lq5:=BQ5.out.lt;have HBr:=aa (HB4.out.trans (HB.out.mono HB4.out.size));clear RUN HAr;go_wp2_with fail;refine RUNH.out.mono ?_;rintro e w6 ⟨fb,late2,tb2,rs2,rdv2,ckv2,tv2,rv2,rfl,hF⟩;obtain ⟨rva2,rvc2,rdg2,rdc2,rfl,rfl,-,f3,f4,lfb,-,-,-,hlt2,b8⟩:=kM hF HC.out hl9 h09;have HE2:=aa (dB HE1.out b8);obtain ⟨rva9,rvc9,-,-,he9,-,-,g3,g4,lge,-,-,-,-,-⟩:=kM HE2.out HC.out hl9 h09;cases he9;have HSAME:=aa (engS_same HE2.out hF);have hlate:=HSAME.out.1;subst hlate;have HF:=aa hF;have HB6:=aa (HBr.out.trans (b8.mono HBr.out.size));unfold eF at f3 g3;have kn:=bH w6;obtain ⟨kc,kf⟩:=bo w6;have HW:Hid (Below w6.heap.size w6 w6):=Below.refl _ _;have G4:=aa g4;have F4:=aa f4;clear RUNH hF b8 HE1 HE0 HBr HO q0 q1 q2 q3 q4 q5 q6 g4 f4;go_wp2_with fail;refine aD HW (by kernel_rfl) (by kernel_rfl) ?_
     repeat (go_big_quiet_step (fail))
     refine wpQuiet_nil ?_;rintro _ ⟨pk,rfl⟩;have HP7:=aa pk.h;generalize pk.w=w7 at *;have NE1:=aa (mQ (dB HE2.out HP7.out) HC.out hl9);have g4:w7.cell? ⟨eb,4,none⟩=some (.slice rva rs.length rvc):=(HP7.out.cell (p:=⟨eb,4,none⟩) lge).trans G4.out;have lge7:=Nat.lt_of_lt_of_le lge HP7.out.size;clear HW kc kf kn f3 g3;go_simp;go_wp2_with fail;refine NE1.out.mono ?_;rintro e w8 ⟨ua,osa,outa,rfl,oa1,oa2,oa3,oa4,oa5,hb8⟩;obtain ⟨x1_,x2_,rfl⟩:=ax oa1;have NE2:=aa (mQ (dB HF.out (HP7.out.trans (hb8.mono HP7.out.size))) HC.out hl9);have f4:w8.cell? ⟨fb,4,none⟩=some (.slice rva2 rs2.length rvc2):=((HP7.out.trans (hb8.mono HP7.out.size)).cell (p:=⟨fb,4,none⟩) lfb).trans F4.out;have lfb8:=Nat.lt_of_lt_of_le lfb (Nat.le_trans HP7.out.size hb8.size);have OA1:=aa oa1;have OA2:=aa oa2;have OA3:=aa oa3;have OA4:=aa oa4;have HB8:=aa hb8;clear NE1 oa1 oa2 oa3 oa4 hb8 g4;go_wp2_with fail;refine NE2.out.mono ?_;rintro e w9 ⟨ub,osb,outb,rfl,ob1,ob2,ob3,ob4,ob5,hb9⟩;obtain ⟨y1_,y2_,rfl⟩:=ax ob1;have hsm:=HSAME.out.2 outa outb OA3.out ob3;have hlen:osb.length=osa.length:=by
      have e1:=congrArg List.length OA2.out;have e2:=congrArg List.length ob2;rw [List.length_map] at e1 e2;omega
     have AL:=aa (alike_any osa osb _ _ w9 (aA (aE OA1.out) hb9) (fun o ho=>⟨aA (aA (OA4.out o ho).1 HB8.out) hb9,(OA4.out o ho).2⟩) (aE ob1) (fun o ho=>⟨aA (ob4 o ho).1 hb9,(ob4 o ho).2⟩) (by omega) hlen (fun a ha=>by
      have h9:fC a∈outb:=hsm.2 _ (by rw [← OA2.out];exact List.mem_map_of_mem ha);rw [← ob2] at h9;obtain ⟨b,hb,e⟩:=List.mem_map.1 h9;exact ⟨b,hb,e.symm⟩))
     have HB9:=aa (((HB6.out.trans (HP7.out.mono HB6.out.size)).trans (HB8.out.mono (Nat.le_trans HB6.out.size HP7.out.size))).trans (hb9.mono (Nat.le_trans HB6.out.size (Nat.le_trans HP7.out.size HB8.out.size))));rw [hlen] at AL;clear NE2 ob1 ob2 ob3 ob4 hb9 f4 hsm;go_wp2_with fail
     first | (rw [hlen];skip) | skip
     refine AL.out.mono ?_;rintro e w10 ⟨rfl,hb10⟩;have HBX:=aa (HB9.out.trans (hb10.mono HB9.out.size));clear AL hb10;go_wp2_with fail;refine bodyPost_ret (v:=.bool true) (by simp [results,Tryz.results8,go_sem]) rfl ?_;exact ⟨rfl,HBX.out⟩
theorem list4 {α:Type} {cs:List α} (h:cs.length=4):∃ a b c d,cs=[a,b,c,d]:=by
 match cs,h with
 | [a,b,c,d],_=>exact ⟨a,b,c,d,rfl⟩
theorem list7 {α:Type} {cs:List α} (h:cs.length=7):∃ a b c d e f g,cs=[a,b,c,d,e,f,g]:=by
 match cs,h with
 | [a,b,c,d,e,f,g],_=>exact ⟨a,b,c,d,e,f,g,rfl⟩
end Go.Proofs.YtcgjflamgnjhcaaGreatDoor
namespace Go.Proofs.YtcgjflamgnjhcaaGreatDoor
open Go.ChangeShapes Go.WideShapes Go.ChangeAt Go.RowKit
open Go.Joins Go.Deep
theorem cellsEvent:Tryz.prog.cellsOf 43=7:=by kernel_rfl
theorem open_ev {H:Type} {enc:TypeId×Value→H} {W:World} {sp:Nat→Bool} {hd:Bool} {fuel:Nat} {cs:List Value} {x:DataW H×List MemPlace}
  (h:DataW.trod enc Tryz.prog W 0 sp hd fuel 43 cs=some x):∃ e:Ev,cs=gn e:=by
 obtain ⟨xs,k,-,-,hlen,hxl,hf⟩:=DataW.trod_struct Tryz.underlying43 h;rw [cellsEvent] at hlen;obtain ⟨c0,c1,c2,c3,c4,c5,c6,rfl⟩:=list7 hlen;obtain ⟨y0,y1,y2,y3,rfl⟩:=list4 hxl;have g0:DataW.trod enc Tryz.prog W 0 sp hd k 3 (List.take (Tryz.prog.cellsOf 3) (List.drop 0 [c0,c1,c2,c3,c4,c5,c6]))=some y0:=hf 0 _ rfl;have g1:DataW.trod enc Tryz.prog W 0 sp hd k 41 (List.take (Tryz.prog.cellsOf 41) (List.drop 1 [c0,c1,c2,c3,c4,c5,c6]))=some y1:=hf 1 _ rfl;have g2:DataW.trod enc Tryz.prog W 0 sp hd k 41 (List.take (Tryz.prog.cellsOf 41) (List.drop 3 [c0,c1,c2,c3,c4,c5,c6]))=some y2:=hf 2 _ rfl;have g3:DataW.trod enc Tryz.prog W 0 sp hd k 41 (List.take (Tryz.prog.cellsOf 41) (List.drop 5 [c0,c1,c2,c3,c4,c5,c6]))=some y3:=hf 3 _ rfl;rw [cellsInt] at g0;rw [cellsValue] at g1 g2 g3;obtain ⟨n0,e0⟩:=mh g0;obtain ⟨m1,n1,e1,e2⟩:=kW g1;obtain ⟨m2,n2,e3,e4⟩:=kW g2;obtain ⟨m3,n3,e5,e6⟩:=kW g3;exact ⟨⟨n0,m1,n1,m2,n2,m3,n3⟩,by rw [e0,e1,e2,e3,e4,e5,e6];rfl⟩
end Go.Proofs.YtcgjflamgnjhcaaGreatDoor
