/- Own texts in one. Conditions: as named in each. -/
import Derived.Test.YtcgjflamgnjhcaaGreatDoorEoFJ
import Derived.Test.YtcgjflamgnjhcaaGreatDoorBtFJ
import Derived.Test.YtcgjflamgnjhcaaGreatDoorEoCJ
import Derived.Test.YtcgjflamgnjhcaaGreatDoorEoGJ
set_option linter.unusedVariables false
set_option linter.unusedSimpArgs false
set_option maxRecDepth 100000
set_option maxHeartbeats 8000000
namespace Go.Proofs.YtcgjflamgnjhcaaGreatDoor
open Go.ChangeShapes Go.WideShapes Go.ChangeAt Go.RowKit
theorem alike_any (L1 L2:List Po) (u1 u2:Value) (w:World) (h1:bK w u1 4 L1.length (rowOf b8 L1)) (v1:∀ o∈L1,bK w o.v 2 o.vs.length (bW o.vs)∧o.vs.length≤9223372036854775807) (h2:bK w u2 4 L2.length (rowOf b8 L2)) (v2:∀ o∈L2,bK w o.v 2 o.vs.length (bW o.vs)∧o.vs.length≤9223372036854775807)
  (hl:L1.length≤1000000) (hlen:L2.length=L1.length) (he:∀ a∈L1,∃ b∈L2,el a=el b) :
  Calls Tryz.prog 33 #[u1,u2] w fun e w'=>e=.returned (.bool true)∧Below w.heap.size w w':=by
 obtain ⟨a1,d1,rfl⟩:=am h1;obtain ⟨a2,d2,rfl⟩:=am h2;have H1:=aa h1;have H2:=aa h2;have V1:=aa v1;have V2:=aa v2;have HE:=aa he;have HLEN:=aa hlen;have bne:((L1.length:Int) != (L1.length:Int))=false:=by simp
 rw [hlen];clear h1 h2 v1 v2 he hlen
 go_enter Tryz.func33,Tryz.ntmps33
 go_wp2_with fail
 go_loopw [5] (fun i wr=>∃ m:Nat,m≤L1.length∧i=.int .i64 m∧Hid (Below w.heap.size w wr)) (fun i _=>L1.length - (intOf i).toNat)
 case atStart=>exact ⟨0,Nat.zero_le _,rfl,Below.refl _ _⟩
 case round =>
  obtain ⟨m,hm,rfl,HW⟩:=hrel
  by_cases hlt:m < L1.length
  ·go_wp2_with fail;obtain ⟨g1,o1,ha1,hc1,p1,p2,lg1⟩:=bj bF H1.out m hlt;subst ha1;have r1:=V1.out L1[m] (List.getElem_mem hlt);have hem:=HE.out L1[m] (List.getElem_mem hlt);generalize L1[m]=x1 at *;obtain ⟨b1,e1,hz1⟩:=am r1.1;have x0:w.cell? ⟨g1,o1+m * 4,none⟩=some (.int .i64 x1.st):=hc1 0 (by omega);have x1_:w.cell? ⟨g1,o1+m * 4+1,none⟩=some (.int .i64 x1.k):=hc1 1 (by omega);have x2_:w.cell? ⟨g1,o1+m * 4+2,none⟩=some (.int .i64 x1.n):=hc1 2 (by omega);have x3_:w.cell? ⟨g1,o1+m * 4+3,none⟩=some (.slice b1 x1.vs.length e1):=by rw [← hz1];exact hc1 3 (by omega)
   have X0:=aa x0;have X1:=aa x1_;have X2:=aa x2_;have X3:=aa x3_;have HR1:=aa r1;have HZ1:=aa hz1;have hfnd:∃ (j:Nat) (o:Po),L2[j]?=some o∧el x1=el o:=by
    obtain ⟨b,hb,e⟩:=hem;obtain ⟨j,hj,rfl⟩:=List.mem_iff_getElem.1 hb;exact ⟨j,_,List.getElem?_eq_getElem hj,e⟩
   have HFND:=aa hfnd;unfold maxLen at p2;clear hc1 r1 hem x0 x1_ x2_ x3_ hz1 hfnd
   go_loopw [6,7] (fun fv kv wk=>∃ (k:Nat) (f:Bool),k≤L1.length∧kv=.int .i64 k∧fv=.bool f∧Hid (∀ (j:Nat) o,j < k→L2[j]?=some o→el x1=el o→f=true)∧Hid (Below w.heap.size w wk)) (fun _ kv _=>L1.length - (intOf kv).toNat)
   case atStart=>exact ⟨0,false,Nat.zero_le _,rfl,rfl,fun j o hj=>absurd hj (by omega),HW⟩
   case round =>
    clear HW;obtain ⟨k,f,hk,rfl,rfl,HF,HW⟩:=hrel
    by_cases hkl:k < L1.length
    ·have hlt2:k < L2.length:=by rw [HLEN.out];exact hkl
     obtain ⟨g2,o2,ha2,hc2,q1,q2,lg2⟩:=bj bF H2.out k hlt2;subst ha2;have r2:=V2.out L2[k] (List.getElem_mem hlt2);have hok:L2[k]?=some L2[k]:=List.getElem?_eq_getElem hlt2;generalize L2[k]=x2 at *;obtain ⟨b2,e2,hz2⟩:=am r2.1;have x0:=X0.out;have x1_:=X1.out;have x2_:=X2.out;have x3_:=X3.out;have y0:w.cell? ⟨g2,o2+k * 4,none⟩=some (.int .i64 x2.st):=hc2 0 (by omega);have y1:w.cell? ⟨g2,o2+k * 4+1,none⟩=some (.int .i64 x2.k):=hc2 1 (by omega);have y2:w.cell? ⟨g2,o2+k * 4+2,none⟩=some (.int .i64 x2.n):=hc2 2 (by omega);have y3:w.cell? ⟨g2,o2+k * 4+3,none⟩=some (.slice b2 x2.vs.length e2):=by rw [← hz2];exact hc2 3 (by omega)
     obtain ⟨sm,hsm⟩:∃ b,eqO (x1.st,x1.k,x1.n,x1.vs) (x2.st,x2.k,x2.n,x2.vs)=b:=⟨_,rfl⟩;have SP:=aa (fun w' (hb:Below w.heap.size w w')=>iq x1.st x1.k x1.n x2.st x2.k x2.n x1.vs x2.vs (.slice b1 x1.vs.length e1) (.slice b2 x2.vs.length e2) w' HR1.out.2 r2.2 (by rw [← HZ1.out];exact aA HR1.out.1 hb) (by rw [← hz2];exact aA r2.1 hb));rw [hsm] at SP;have HSM:Hid (el x1=el x2→sm=true):=fun e=>by
      rw [← hsm];exact decide_eq_true e
     have HOK:=aa hok;unfold maxLen at q2;rw [HLEN.out] at q1;clear hc2 r2 hz2 hsm hok;go_wp2_with fail;refine wp_region_held (S:=fun w'=>Below w.heap.size w w') (by kernel_rfl) ?_;have hS:Below w.heap.size w ({ wr with drawn:=wr.drawn+1 }:World):=HW.out.drew;generalize ({ wr with drawn:=wr.drawn+1 }:World)=wd at *;clear HW;refine HU 0 (v:=.slice (some ⟨g1,o1,none⟩) L1.length d1) rfl (fun wq hq=>by go_simp) hS ?_;refine HU 1 (v:=.int .i64 (m:Int)) rfl (fun wq hq=>by go_simp) hS ?_;refine HU 2 (v:=.pointer (some ⟨g1,o1+m * 4,none⟩)) rfl (fun wq hq=>by go_simp) hS ?_;refine HU 3 (v:=.agg #[.int .i64 x1.st,.int .i64 x1.k,.int .i64 x1.n,.slice b1 x1.vs.length e1]) rfl (fun wq hq=>by have q0:=(hq.cell (p:=⟨g1,o1+m * 4,none⟩) lg1).trans x0;have q1:=(hq.cell (p:=⟨g1,o1+m * 4+1,none⟩) lg1).trans x1_;have q2:=(hq.cell (p:=⟨g1,o1+m * 4+2,none⟩) lg1).trans x2_;have q3:=(hq.cell (p:=⟨g1,o1+m * 4+3,none⟩) lg1).trans x3_;go_simp) hS ?_;refine HU 4 (v:=.slice (some ⟨g2,o2,none⟩) L1.length d2) rfl (fun wq hq=>by go_simp) hS ?_;refine HU 5 (v:=.int .i64 (k:Int)) rfl (fun wq hq=>by go_simp) hS ?_;refine HU 6 (v:=.pointer (some ⟨g2,o2+k * 4,none⟩)) rfl (fun wq hq=>by go_simp) hS ?_;refine HU 7 (v:=.agg #[.int .i64 x2.st,.int .i64 x2.k,.int .i64 x2.n,.slice b2 x2.vs.length e2]) rfl (fun wq hq=>by have q0:=(hq.cell (p:=⟨g2,o2+k * 4,none⟩) lg2).trans y0;have q1:=(hq.cell (p:=⟨g2,o2+k * 4+1,none⟩) lg2).trans y1;have q2:=(hq.cell (p:=⟨g2,o2+k * 4+2,none⟩) lg2).trans y2;have q3:=(hq.cell (p:=⟨g2,o2+k * 4+3,none⟩) lg2).trans y3;go_simp) hS ?_;refine HG 8 rfl ?_;intro K' hK;go_simp;refine (SP.out _ hS).mono ?_;rintro e w1 ⟨rfl,hb⟩;have hS1:=hS.trans (hb.mono hS.size);refine hK _ _ ⟨hS1,?_⟩;clear hK hb;refine HU 9 (v:=.bool sm) rfl (fun wq hq=>by go_simp) hS1 ?_;refine wpAnyH_done (by kernel_rfl) ?_ _;have HP:=aa hS1;clear hS hS1 SP x0 x1_ x2_ x3_ y0 y1 y2 y3;cases f with
     | true =>
      have HF2:Hid (∀ (j:Nat) o,j < k+1→L2[j]?=some o→el x1=el o→true=true):=fun _ _ _ _ _=>rfl
      go_wp2_with fail;go_roundw
      case rel=>exact ⟨k+1,true,by omega,by go_num,rfl,HF2,HP⟩
      case measure=>simp [intOf];omega
     | false =>
      have HF2:Hid (∀ (j:Nat) o,j < k+1→L2[j]?=some o→el x1=el o→sm=true):=fun j o hj ho e=>by
       by_cases hjk:j=k
       ·subst hjk;rw [HOK.out] at ho;cases ho;exact HSM.out e
       ·have:=HF.out j o (by omega) ho e
        cases this
      go_wp2_with fail;go_roundw
      case rel=>exact ⟨k+1,sm,by omega,by go_num,rfl,HF2,HP⟩
      case measure=>simp [intOf];omega
    ·have hke:k=L1.length:=by omega
     subst hke;have hf:f=true:=by
      obtain ⟨j,o,ho,e⟩:=HFND.out;exact HF.out j o (by rw [← HLEN.out];exact (List.getElem?_eq_some_iff.1 ho).1) ho e
     subst hf;go_wp2_with fail;go_roundw
     case rel=>exact ⟨m+1,by omega,by go_num,HW⟩
     case measure=>simp [intOf];omega
  ·have hml:m=L1.length:=by omega
   subst hml;go_wp2_with fail
   go_ret
   exact ⟨rfl,HW.out⟩
theorem one_int_cell (w:World) (v:Value) (e:TypeId):∀ j u,([v]:List Value)[j]?=some u→(w.alloc (.cells #[v] e)).cell? ((⟨w.heap.size,0,none⟩:Addr).add j)=some u:=fun j u h=>by
 have hj:j=0:=by have:=(List.getElem?_eq_some_iff.1 h).1;simpa using this
 subst hj;cases h;exact (ay w [v] e).c 0 (by simp)
theorem engS_blk {W w:World} {q:Qy} {P:List (List Ev)} {eb:Nat} {M:List (List Ev)} {late:Nat} {tb:List Pn} {rs:List (Rw×Value)} {rdv ckv tv rv:Value} (h:nL W q P eb M late tb rs rdv ckv tv rv w) (hc:chkQ q=0) (hl:lightM P=true) (h0:0 < P.length) :
  ∃ rva rvc rdg rdc,rv=.slice rva rs.length rvc∧rdv=.slice (some ⟨rdg,0,none⟩) P.length rdc∧w.cell? ⟨eb,0,none⟩=some rdv∧w.cell? ⟨eb,3,none⟩=some (eK late)∧w.cell? ⟨eb,4,none⟩=some rv∧eb < w.heap.size∧(∀ p,p < P.length→w.cell? ⟨rdg,p,none⟩=some (.int .i64 ((M.getD p []).length:Nat)))∧rdg < w.heap.size∧nW M P∧late≤480∧Below W.heap.size W w:=by
 obtain ⟨w0,b0,va,vw,vb,ps,V,cs,a1,-,-,-,a5,a6,-,a8,-⟩:=h;obtain ⟨rva,rvc,e1⟩:=ax a1.en.ro;obtain ⟨g,c,e3,-⟩:=ed a1.rd (by rw [List.length_map,a6.1];exact h0);rw [List.length_map,a6.1] at e3;have h8:=a1.rd;rw [List.length_map,a6.1,e3] at h8;refine ⟨rva,rvc,g,c,e1,e3,a1.en.be.c 0 (by simp),a1.en.be.c 3 (by simp),a1.en.be.c 4 (by simp),a1.en.be.lt,fun p hp=>?_,(aJ h8 g rfl).2,a6,?_,a8⟩
 ·have h9:=h8.cellAt p (by omega);rw [List.getElem?_map,List.getElem?_map,List.getElem?_eq_getElem (by rw [a6.1];exact hp)] at h9;rw [List.getD_eq_getElem?_getD,List.getElem?_eq_getElem (by rw [a6.1];exact hp)];exact h9
 ·have h1:=(gI (lI hc) M).2;have h2:=preM_evs _ _ a6;obtain ⟨-,-,-,h3⟩:=eX a6 hl;rw [a5.late];omega
theorem infoEs9:(Tryz.prog.info? 50).map (fun i=>(i.zero,i.size,i.bytes))=some (some (.slice none 0 0),1,24):=by kernel_rfl
theorem rowG_first {w:World} {al:Option Addr} {cl:Nat} {m r:List Ev} (h:bK w (.slice al (m++r).length cl) 7 (m++r).length (rowOf eC (m++r))):bK w (.slice al m.length cl) 7 m.length (rowOf eC m):=by
 obtain ⟨h0,h⟩:=h;refine ⟨bh dX m,?_⟩
 rcases h with ⟨⟨a,c,e⟩,hn⟩ | ⟨g,off,cap,e,h1,h2,h3,h4⟩
 ·rw [List.length_append] at hn;exact .inl ⟨⟨al,cl,by rw [show m.length=0 from by omega]⟩,by omega⟩
 ·cases e;rw [List.length_append] at h1 h4;refine .inr ⟨g,off,cl,rfl,by omega,h2,h3,fun j hj=>?_⟩;have h9:=h4 j (by rw [Nat.add_mul];omega);rw [h9,cB,List.getElem?_append_left (by rw [bh dX];exact hj)]
theorem read_any (eb rdg rdc:Nat) (pv:Value) (vs:List Value) (P M:List (List Ev)) (w:World) (hP:PtsR w pv vs P) (h3:P.length≤3) (h0:0 < P.length) (hl40:∀ l∈P,l.length≤40) (hM:nW M P) (e0:w.cell? ⟨eb,0,none⟩=some (.slice (some ⟨rdg,0,none⟩) P.length rdc)) (leb:eb < w.heap.size) (hrd:∀ p,p < P.length→w.cell? ⟨rdg,p,none⟩=some (.int .i64 ((M.getD p []).length:Nat))) (lrd:rdg < w.heap.size) :
  Calls Tryz.prog 31 #[.pointer (some ⟨eb,0,none⟩),pv] w fun e w'=>∃ u vs',e=.returned u∧PtsR w' u vs' M∧Below w.heap.size w w':=by
 obtain ⟨i0,hi,hz0,hz1,hz2⟩:=info_parts infoEs9;obtain ⟨gp,op,cp,-,rfl,-,-,zp1,zp2,zp3⟩:=gS hP 0 h0;have HP:=aa hP;have HE0:=aa e0;have HRDS:=aa hrd;have HML:=hM.1;have HM:=aa hM;have HL40:=aa hl40;unfold maxLen at zp2;clear hP hrd hM hl40 e0
 go_enter Tryz.func31,Tryz.ntmps31
 go_wp2_with fail
 go_loopw [5,6] (fun ov i wr=>∃ (m:Nat) (xs:List Value),m≤P.length∧i=.int .i64 m∧xs.length=m∧Hid (∀ (j:Nat) v l,xs[j]?=some v→M[j]?=some l→bK w v 7 l.length (rowOf eC l))∧Hid (wr.ownsRow w.heap.size 50 1 ov m xs)∧Hid (Below w.heap.size w wr)) (fun _ i _=>P.length - (intOf i).toNat)
 case atStart=>exact ⟨0,[],Nat.zero_le _,rfl,rfl,fun j v l hj=>by simp at hj,⟨rfl,.inl ⟨rfl,rfl⟩⟩,Below.refl _ _⟩
 case round =>
  obtain ⟨m,xs,hm,rfl,hxl,HX,HO,HB⟩:=hrel;obtain ⟨oa,oc,rfl⟩:=ax HO.out
  by_cases hlt:m < P.length
  ·obtain ⟨gp',op',cp',lv,ep,hpc,hrl,-,-,lgp⟩:=gS HP.out m hlt;cases ep;have hPp:P[m]?=some P[m]:=List.getElem?_eq_getElem hlt;have hMm:M[m]?=some (M.getD m []):=by rw [List.getD_eq_getElem?_getD,List.getElem?_eq_getElem (by omega)];rfl
   obtain ⟨rr,hrr⟩:=HM.out.2 m _ _ hMm hPp;have hl9:=HL40.out P[m] (List.getElem_mem hlt);have hrdm:=HRDS.out m hlt;generalize P[m]=l' at *;obtain ⟨ml,hml⟩:∃ x,M.getD m []=x:=⟨_,rfl⟩;rw [hml] at hMm hrr hrdm;subst hrr;obtain ⟨al,cl,rfl⟩:=am hrl;have hrow:=rowG_first hrl;have hcap:(ml++rr).length≤cl∨(ml++rr).length=0:=by
    rcases hrl.2 with ⟨-,h⟩ | ⟨g,off,cap,e,h1,-⟩
    ·exact .inr h
    ·cases e;exact .inl h1
   have HRD:=aa hrdm;have HPC:=aa hpc;have HMM:=aa hMm;have HROW:=aa hrow;obtain ⟨l',hl'⟩:∃ x,ml++rr=x:=⟨_,rfl⟩;obtain ⟨k,hk⟩:∃ x,ml.length=x:=⟨_,rfl⟩;have hkl:k≤l'.length:=by rw [← hl',← hk,List.length_append];omega
   rw [hl'] at HPC hl9 hcap;rw [hk] at HRD HROW;have HSL:Hid True:=trivial;have HKK:=aa hk;clear hrl hpc hrdm hMm hrow hPp hml hl' hk;go_wp2_with fail;refine wp_region_held (S:=fun w'=>Below w.heap.size w w') (by kernel_rfl) ?_;have hS:Below w.heap.size w ({ wr with drawn:=wr.drawn+1 }:World):=HB.out.drew;have HOd:Hid (({ wr with drawn:=wr.drawn+1 }:World).ownsRow w.heap.size 50 1 (.slice oa m oc) m xs):=aB HO.out (show Below wr.heap.size wr ({ wr with drawn:=wr.drawn+1 }:World) from (Below.refl _ _).drew) (Nat.le_refl _);generalize ({ wr with drawn:=wr.drawn+1 }:World)=wd at *;clear HB HO;refine HU 0 (v:=.slice oa m oc) rfl (fun wq hq=>by go_simp) hS ?_;refine HU 1 (v:=.slice (some ⟨gp,op,none⟩) P.length cp) rfl (fun wq hq=>by go_simp) hS ?_;refine HU 2 (v:=.int .i64 (m:Int)) rfl (fun wq hq=>by go_simp) hS ?_;refine HU 3 (v:=.pointer (some ⟨gp,op+m,none⟩)) rfl (fun wq hq=>by go_simp) hS ?_;refine HU 4 (v:=.slice al l'.length cl) rfl (fun wq hq=>by have q:=(hq.cell (p:=⟨gp,op+m,none⟩) lgp).trans HPC.out;go_simp) hS ?_;refine HU 5 (v:=.pointer (some ⟨eb,0,none⟩)) rfl (fun wq hq=>by go_simp) hS ?_;refine HU 6 (v:=.pointer (some ⟨eb,0,none⟩)) rfl (fun wq hq=>by go_simp) hS ?_;refine HU 7 (v:=.pointer (some ⟨eb,0,none⟩)) rfl (fun wq hq=>by go_simp) hS ?_;refine HU 8 (v:=.slice (some ⟨rdg,0,none⟩) P.length rdc) rfl (fun wq hq=>by have q:=(hq.cell (p:=⟨eb,0,none⟩) leb).trans HE0.out;go_simp) hS ?_;refine HU 9 (v:=.int .i64 (m:Int)) rfl (fun wq hq=>by go_simp) hS ?_;refine HU 10 (v:=.pointer (some ⟨rdg,m,none⟩)) rfl (fun wq hq=>by go_simp) hS ?_;refine HU 11 (v:=.int .i64 (k:Int)) rfl (fun wq hq=>by have q:=(hq.cell (p:=⟨rdg,m,none⟩) lrd).trans HRD.out;go_simp) hS ?_;refine HU 12 (v:=.slice al k cl) rfl (fun wq hq=>by go_simp;first | done | (simp [HSL.out];done) | (intro h9;omega)) hS ?_;refine HG 13 rfl ?_;intro K' hK;have hS2:=hS.alloc (by have:=hS.size;omega) (.cells #[.slice al k cl] 50);have HOA:=aa (HOd.out.alloc (.cells #[.slice al k cl] 50));have CE:=aa (one_int_cell wd (.slice al k cl) 50);have hwd:=hS.size;go_simp;refine hK _ _ ⟨hS2,?_⟩;clear hK;refine HG 14 rfl ?_;intro K' hK;refine ch (.tmp 13) (.tmp 26) 49 rfl w.heap.size 50 i0 (.slice none 0 0) 1 24 Tryz.underlying49 hi hz0 hz1 hz2 (by kernel_rfl) (by decide) (.slice oa m oc) m xs (by kernel_rfl) HOA.out ⟨wd.heap.size,0,none⟩ 1 1 [.slice al k cl] (by kernel_rfl) rfl CE.out (by intro u hu;simp at hu;subst hu;rfl) (by show _≤2 ^ 63 - 1;omega) (by omega) (by simp;omega) ?_;intro v' w5 ho5 hg5 _;obtain ⟨oa5,oc5,rfl⟩:=ax ho5;have hS5:Below w.heap.size w w5:=hS2.grown hg5 (by simp;omega) (fun k2 hk2=>(HOA.out.lt k2 hk2).1);have HO5:=aa ho5;refine hK _ _ ⟨hS5,?_⟩;clear hK ho5 hg5;refine HU 15 (v:=.slice oa5 (m+1) oc5) rfl (fun wq hq=>by go_simp) hS5 ?_;refine wpAnyH_done (by kernel_rfl) ?_ _;have HB5:=aa hS5;have HX5:Hid (∀ (j:Nat) v l,(xs++[.slice al k cl])[j]?=some v→M[j]?=some l→bK w v 7 l.length (rowOf eC l)):=fun j v l hj hl=>by
    by_cases hjm:j < m
    ·rw [List.getElem?_append_left (by omega)] at hj;exact HX.out j v l hj hl
    ·have hj1:j=m:=by have:=(List.getElem?_eq_some_iff.1 hj).1;rw [List.length_append,List.length_singleton] at this;omega
     subst hj1;rw [List.getElem?_append_right (by omega),hxl,Nat.sub_self] at hj;rw [HMM.out] at hl;cases hj;cases hl;rw [HKK.out];exact HROW.out
   have hxl5:(xs++[Value.slice al k cl]).length=m+1:=by rw [List.length_append,List.length_singleton,hxl]
   clear hS hS2 hS5 HOA CE HOd HX HROW HPC HRD;go_wp2_with fail;go_roundw
   case rel=>exact ⟨m+1,xs++[.slice al k cl],by omega,by go_num,hxl5,HX5,HO5,HB5⟩
   case measure=>simp [intOf];omega
  ·have hme:m=P.length:=by omega
   subst hme;go_wp2_with fail
   go_ret
   refine ⟨_,xs,rfl,⟨by rw [HML];exact aD HO.out,by omega,fun i v l h1 h2=>aA (HX.out i v l h1 h2) HB.out⟩,HB.out⟩
end Go.Proofs.YtcgjflamgnjhcaaGreatDoor
