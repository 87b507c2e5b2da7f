/- Own texts in one. Conditions: as named in each. -/
import Derived.Test.YtcgjflamgnjhcaaGreatDoorEnRJ
import Derived.Test.YtcgjflamgnjhcaaGreatDoorEnWJ
import Derived.Test.YtcgjflamgnjhcaaGreatDoorEnQJ
import Derived.Test.YtcgjflamgnjhcaaGreatDoorPrsHJ
import Derived.Carry
set_option linter.unusedVariables false
set_option linter.unusedSimpArgs false
set_option maxRecDepth 100000
set_option maxHeartbeats 8000000
namespace Go.Proofs.YtcgjflamgnjhcaaGreatDoor
open Go.ChangeShapes Go.WideShapes Go.ChangeAt Go.RowKit
theorem eput_any (w0:World) (eb B:Nat) (q:Qy) (ps:List (AgQ×Value)) (rdv ckv ltv va vw vb:Value) (cs0:List Ct) (lim:Option Int) (tb0:List Pn) (rows0:List Rw) (r0:Nat) (hq0:QyG w0 va vw vb q ps) (h4:ps.length≤4) (hkk:∀ a∈q.aggs,1≤a.kind∧a.kind≤5)
  (h0:QyK eb rdv va vw vb ps) (h1:w0.heap.size≤B) (hcs0:cs0.length≤480) (hv0:∀ d∈cs0,d.vs.length=q.aggs.length) (hr0:r0≤900000) :
  PutE (oY w0 eb B q rdv ckv ltv va vw vb cs0 lim tb0 rows0 r0) (fun st=>nZ q lim st=true) eb ps.length (.pointer (some ⟨eb,0,none⟩)):=by
 have hql:q.aggs.length=ps.length:=by rw [← hq0.qa,List.length_map]
 refine ⟨fun cs rb w w' h hb=>?_,fun cs rb w h k hk=>?_,fun cs rb c vv w h hcs hst hg hvl hv=>?_⟩
 ·obtain ⟨tb,rs,tv,rv,V,hM,e,hI,hA,hvs,hrl⟩:=h;exact ⟨tb,rs,tv,rv,V,bZ hM hb,e,hI,hA,hvs,hrl⟩
 ·obtain ⟨tb,rs,tv,rv,V,hM,e,-⟩:=h
  rcases hk with rfl | hk
  ·exact hM.be.lt
  ·exact (aJ hM.ro k (by rw [← e];exact hk)).2
 ·obtain ⟨tb,rs,tv,rv,V,hM,rfl,hI,hA,hvs,hrl⟩:=h;have hvall:∀ d∈cs0++cs,d.vs.length=(q.aggs.map AgQ.kind).length:=fun d hd=>by
   rw [List.length_map]
   rcases List.mem_append.1 hd with hd | hd
   ·exact hv0 d hd
   ·exact hvs d hd
  have hOk:=oL hI (by rw [List.length_append];omega) hvall (fun x hx=>by obtain ⟨a,ha,rfl⟩:=List.mem_map.1 hx;exact hkk a ha);obtain ⟨tva,tvc,rfl⟩:=aF hM.tt.row;obtain ⟨rva,rvc,rfl⟩:=ax hM.ro;obtain ⟨vva,vvc,rfl⟩:=am hv;have hbk:=aj w (.cells #[.int .i64 c.key.1,.int .i64 c.key.2] 41);have MK:=bZ hM hbk;have hqk:=kW (eb:=eb) (rdv:=rdv) hq0 MK.old h0;obtain ⟨ao,cap,rfl⟩:=am hqk.ag.row;obtain ⟨a2,c2,rfl⟩:=am hqk.wh;obtain ⟨a3,c3,rfl⟩:=am hqk.by_;have BK:=ay w [.int .i64 c.key.1,.int .i64 c.key.2] 41;have hvk:=aA hv hbk;have hwk:w.heap.size < (w.alloc (.cells #[.int .i64 c.key.1,.int .i64 c.key.2] 41)).heap.size:=by simp
  -- what is shown at each end
  have DONE:∀ (tb':List Pn) (ns:List (Rw×Value)) (tv' rv':Value) (w':World),EnM w0 eb B q rdv ckv ltv (.slice ao ps.length cap) (.slice a2 q.wh.length c2) (.slice a3 q.bys.length c3) tb' (rs++ns) tv' rv' w'→qA (q.aggs.map AgQ.kind) tb (rs.map Prod.fst) c tb' ((rs++ns).map Prod.fst)→ns.length≤2 →
    (rv'.ownBlock=(Value.slice rva rs.length rvc).ownBlock∨∃ k,rv'.ownBlock=some k∧w.heap.size≤k)→KeptB w w' (fun k=>k=eb∨(Value.slice rva rs.length rvc).ownBlock=some k) →
    ∃ rb',oY w0 eb B q rdv ckv ltv (.slice ao ps.length cap) (.slice a2 q.wh.length c2) (.slice a3 q.bys.length c3) cs0 lim tb0 rows0 r0 (cs++[c]) rb' w'∧(rb'=(Value.slice rva rs.length rvc).ownBlock∨∃ k,rb'=some k∧w.heap.size≤k)∧KeptB w w' (fun k=>k=eb∨(Value.slice rva rs.length rvc).ownBlock=some k):=fun tb' ns tv' rv' w' m a hn hrv hk=>by
   obtain ⟨V',hV⟩:=oH hI c hg a;refine ⟨_,⟨tb',rs++ns,tv',rv',V',m,rfl,by rw [← List.append_assoc];exact hV,.snoc hA a,fun d hd=>?_,by rw [List.length_append,List.length_append,List.length_singleton];omega⟩,hrv,hk⟩
   rcases List.mem_append.1 hd with hd | hd
   ·exact hvs d hd
   ·rw [List.mem_singleton.1 hd,hvl,hql]
  have HD:=aa DONE;have HMK:=aa MK;have HMK2:=aa MK;have HOK:=aa hOk;have HQK:=aa hqk;have HBK:=aa BK;have HVK:=aa hvk;have HBW:=aa hbk;have hnr:rs.length≤1000000:=by omega
  clear DONE hI hA hvs hvall hOk hM MK hqk BK hvk hv hbk hq0 hg
  go_enter Tryz.func47,Tryz.ntmps47
  go_wp2_with fail;have PNH:=aa (@eJ Tryz.prog Tryz.f47 (fun e w'=>e=.returned (.tuple #[])∧∃ rb',oY w0 eb B q rdv ckv ltv (.slice ao ps.length cap) (.slice a2 q.wh.length c2) (.slice a3 q.bys.length c3) cs0 lim tb0 rows0 r0 (cs++[c]) rb' w'∧(rb'=(Value.slice rva rs.length rvc).ownBlock∨∃ k,rb'=some k∧w.heap.size≤k)∧KeptB w w' (fun k=>k=eb∨(Value.slice rva rs.length rvc).ownBlock=some k)));refine eadd_r1 _ _ (by kernel_rfl) _ eb w.heap.size rdv ckv ltv (.slice rva rs.length rvc) tva vva tvc vvc tb c q ps ao a2 a3 cap c2 c3 _ rfl rfl rfl rfl rfl HMK.out.be HBK.out HQK.out h4 hkk HMK.out.tt HOK.out HVK.out hvl (bX PNH.out) ?_;rintro t' tb_ wb_ ws wk9 wn wt wac aw cw au cu b tb' w2 ht j0 j1 j3 j6 j8 j9 j10 ⟨⟨ht_,hw_⟩,BT,BW,TT,AA,FU,FW,AW,hb2⟩;obtain ⟨f,hf,hi⟩:=fM t' ht;have e0:=aq (hi 0 (by decide)) j0;have e1:=aq (hi 1 (by decide)) j1;have e3:=aq (hi 3 (by decide)) j3;have e6:=aq (hi 6 (by decide)) j6;have e8:=aq (hi 8 (by decide)) j8;have e9:=aq (hi 9 (by decide)) j9;have e10:=aq (hi 10 (by decide)) j10;rw [e0,e1,e3,e6,e8,e9,e10] at hf;clear hi ht j0 e0 j1 e1 j3 e3 j6 e6 j8 e8 j9 e9 j10 e10;subst hf;refine aQ ?_;have MT:=aa (enM_tab HMK.out h1 hb2 TT FU (addW_mem AW));have M2:=bZ HMK.out hb2;have HAW:=aa AW;have hszk:w.heap.size < w2.heap.size:=Nat.lt_of_lt_of_le hwk hb2.size;have hebk:=HMK.out.be.lt;have hszk2:=hb2.size;have K3:Hid (KeptB w (w2.setCell ⟨eb,2,none⟩ (.slice au tb'.length cu)) (fun k=>k=eb∨(Value.slice rva rs.length rvc).ownBlock=some k)):=aa (ai (af (ae HBW.out) (ae hb2)) (g:=eb) (.inl rfl) 2 _);have hAT:=addW_at AW;have hAC:=addW_acc AW;have hLN:=addW_len AW;have hRT:=HOK.out.rise;have hfew:=HOK.out.few;have HOK2:=HOK;have hebt:tb_≠eb:=by omega
  have hebw:wb_≠eb:=by omega
  have KE:=ai (ae (bad:=fun k=>k=eb) (Below.refl w2.heap.size w2)) (g:=eb) rfl 2 (.slice au tb'.length cu);have BT3:=aH BT KE hebt;have BW3:=aH BW KE hebw;have AA3:jH (w2.setCell ⟨eb,2,none⟩ (.slice au tb'.length cu)) ⟨ws,wk9,wn,wt,wac,.slice aw wac.length cw⟩:=aX AA KE (fun k hk e=>by have:=FW k hk;omega);have q2:w2.cell? ⟨eb,2,none⟩=some (.slice tva tb.length tvc):=M2.be.c 2 (by simp);have f2:=M2.be.fz 2;have l2:=M2.be.lt;have x0:w2.cell? ⟨tb_,0,none⟩=some (.slice au tb'.length cu):=BT.c 0 (by simp);have x4:(w2.setCell ⟨eb,2,none⟩ (.slice au tb'.length cu)).cell? ⟨wb_,4,none⟩=some (.bool wt):=BW3.c 4 (by simp);have HBT3:=aa BT3;have HBW3:=aa BW3;have HAA3:=aa AA3;rename_i K9 hK9;refine hK9 _ _ ?_;clear hK9 KE BT3 BW3 AA3 M2 TT AA FU AW FW BT BW HMK HBK HQK HVK HOK;cases wt with
  | false =>
   clear hAT hAC hRT;go_wp2_with fail;refine bodyPost_ret (results_none rfl _ _ _) rfl ?_;exact ⟨rfl,HD.out tb' [] _ _ _ (by rw [List.append_nil];exact MT.out) (by rw [List.append_nil];exact lX HAW.out (.inl rfl)) (by simp) (.inl rfl) K3.out⟩
  | true =>
   obtain ⟨hkey,hex,hac⟩:=hAT rfl hRT;obtain ⟨hacl,hack⟩:=hAC rfl HOK2.out
   simp only at hkey hex hac hacl hack
   have HKEY:=aa hkey;have HAC:=aa hac;have HEX:=aa hex;have HACK:=aa hack;have hacl4:wac.length≤4:=by rw [hacl,List.length_map];omega
   have hvw:c.vs.length=wac.length:=by rw [hacl,List.length_map,hql,hvl]
   have IX:=aa (indexAdd_any tb' (fun p=>decide (p.st=ws∧p.k=wk9∧p.n=wn)) (.pointer (some ⟨wb_,0,none⟩)) au cu (w2.setCell ⟨eb,2,none⟩ (.slice au tb'.length cu)) (by omega) (cf MT.out.tt.row) (dD MT.out.tt) (fun p hp w' hb=>by
    have BWx:=ah HBW3.out hb HBW3.out.lt;exact add1_any p wb_ ws wk9 wn w' (dD MT.out.tt p hp) (BWx.c 0 (by simp)) (BWx.c 1 (by simp)) (BWx.c 2 (by simp)) BWx.lt))
   have y0:(w2.setCell ⟨eb,2,none⟩ (.slice au tb'.length cu)).cell? ⟨tb_,0,none⟩=some (.slice au tb'.length cu):=HBT3.out.c 0 (by simp);clear hkey hex hac hack hAT hAC hRT hacl;go_wp2_with fail;refine IX.out.mono ?_;rintro e w4 (⟨i,hi,-,hat,rfl,hb4⟩ | ⟨hnone,-,-⟩)
   ·have hpi:=hat tb'[i] (List.getElem?_eq_getElem hi);have hpk:tb'[i].st=ws∧tb'[i].k=wk9∧tb'[i].n=wn:=of_decide_eq_true hpi;have hpac:=HAC.out i hi hpk;obtain ⟨pa,pc,hpav⟩:=aF (MT.out.tt.acc tb'[i] (List.getElem_mem hi));obtain ⟨p,hpe⟩:∃ p,tb'[i]=p:=⟨_,rfl⟩;rw [hpe] at hpk hpac hpav;obtain ⟨pst,pk,pn,pt,pac,pav⟩:=p
    simp only at hpk hpac hpav
    subst hpav;obtain ⟨hpl,hpkk⟩:=addL_acc hvw HACK.out;rw [← hpac] at hpl hpkk;have hpl4:pac.length≤4:=by omega
    have HPL:=aa hpl;clear hpl hvw;have M4:=aa (bZ MT.out hb4);have K4:Hid (KeptB w w4 (fun k=>k=eb∨(Value.slice rva rs.length rvc).ownBlock=some k)):=aa (af K3.out (ae hb4));have HHP:=aa hpe;have HPA:=aa hpac;have HPK:=aa hpk;have HPKK:=aa hpkk;have BT4:=aa (ah HBT3.out hb4 HBT3.out.lt);have BW4:=aa (ah HBW3.out hb4 HBW3.out.lt);have AA4:=aa (bp HAA3.out hb4);have hsz4:=hb4.size;clear hpe hpac hpk hpkk hb4 IX HBT3 HBW3 HAA3 K3 MT hat hpi y0 HEX;go_wp2_with fail;refine eadd_r5 _ _ (by kernel_rfl) _ eb tb_ wb_ i ws wk9 wn true wac aw au cw cu tb' pst pk pn pt pac pa pc _ rfl rfl rfl rfl rfl BT4.out BW4.out M4.out.tt AA4.out hi (by omega) HHP.out (by omega) HACK.out (by omega) HPKK.out (bX PNH.out) ?_;rintro t5 ob_ nb_ o1 d1 o2 d2 w5 ht5 k0 k8 k9 k11 k12 k13 ⟨⟨ho_,hn_⟩,BO,BN,O1,O2,hb5⟩;obtain ⟨f5,hf5,hi5⟩:=fM t5 ht5;have e0:=aq (hi5 0 (by decide)) k0;have e8:=aq (hi5 8 (by decide)) k8;have e9:=aq (hi5 9 (by decide)) k9;have e11:=aq (hi5 11 (by decide)) k11;have e12:=aq (hi5 12 (by decide)) k12;have e13:=aq (hi5 13 (by decide)) k13;rw [e0,e8,e9,e11,e12,e13] at hf5;clear hi5 ht5 k0 e0 k8 e8 k9 e9 k11 e11 k12 e12 k13 e13;subst hf5;refine aQ ?_;have M5:=aa (bZ M4.out hb5);have K5:Hid (KeptB w w5 (fun k=>k=eb∨(Value.slice rva rs.length rvc).ownBlock=some k)):=aa (af K4.out (ae hb5));have HO1:=aa O1;have HO2:=aa O2;have HBO:=aa BO;have HBN:=aa BN;have u3:w5.cell? ⟨ob_,3,none⟩=some (.slice o1 wac.length d1):=BO.c 3 (by simp);have v3:w5.cell? ⟨nb_,3,none⟩=some (.slice o2 pac.length d2):=BN.c 3 (by simp);have lo:=BO.lt;have ln:=BN.lt;have EQ:=aa (equalVals_any (wac.map acV) (pac.map acV) (.slice o1 wac.length d1) (.slice o2 pac.length d2) w5 (by rw [List.length_map];omega) (by rw [List.length_map,List.length_map,HPL.out]) (by rw [List.length_map];exact aD O1) (by rw [List.length_map];exact aD O2));have hsz5:=hb5.size;rename_i K9 hK9;refine hK9 _ _ ?_;clear hK9 BO BN O1 O2 hb5 M4 K4 BT4 BW4 AA4;go_wp2_with fail;refine EQ.out.mono ?_;rintro e w6 ⟨rfl,hb6⟩;have M6:=aa (bZ M5.out hb6);have K6:Hid (KeptB w w6 (fun k=>k=eb∨(Value.slice rva rs.length rvc).ownBlock=some k)):=aa (af K5.out (ae hb6));have O1:=aB HO1.out hb6 (Nat.le_refl _);have O2:=aB HO2.out hb6 (Nat.le_refl _);have BO:=ah HBO.out hb6 HBO.out.lt;have BN:=ah HBN.out hb6 HBN.out.lt;have hsz6:=hb6.size;have HO1:=aa O1;have HO2:=aa O2;have HBO:=aa BO;have HBN:=aa BN;clear O1 O2 BO BN hb6 M5 K5 EQ u3 v3
    by_cases heq:wac.map acV=pac.map acV
    ·have dq:decide (wac.map acV=pac.map acV)=true:=decide_eq_true heq;have HEQ:=aa heq;clear heq;go_wp2_with fail;refine bodyPost_end (results_none rfl _ _ _) rfl ?_;exact ⟨rfl,HD.out tb' [] _ _ _ (by rw [List.append_nil];exact M6.out) (by rw [List.append_nil];exact lX HAW.out (.inr (by rw [← HPA.out];exact HEQ.out))) (by simp) (.inl rfl) K6.out⟩
    ·have dq:decide (wac.map acV=pac.map acV)=false:=decide_eq_false heq;have HNE:=aa heq;clear heq;have hrvl:=aJ HMK2.out.ro;have hw3:((w2.setCell ⟨eb,2,none⟩ (.slice au tb'.length cu))).heap.size=w2.heap.size:=by simp
     have hebk2:=HMK2.out.be.lt;have hAO:Apt eb (.slice rva rs.length rvc) (.slice o1 wac.length d1):=fun k hk e=>by
      have h9:=(aJ HO1.out k e).1
      rcases hk with hk | hk
      ·omega
      ·have:=(hrvl k hk).2;omega
     have hAN:Apt eb (.slice rva rs.length rvc) (.slice o2 pac.length d2):=fun k hk e=>by
      have h9:=(aJ HO2.out k e).1
      rcases hk with hk | hk
      ·omega
      ·have:=(hrvl k hk).2;omega
     have HAO:=aa hAO;have HAN:=aa hAN;have n2:(Value.slice rva rs.length rvc).ownBlock≠some ob_:=fun e=>by have:=(hrvl _ e).2;omega
     have n3:(Value.slice rva rs.length rvc).ownBlock≠some nb_:=fun e=>by have:=(hrvl _ e).2;omega
     have N2:=aa n2;have N3:=aa n3;clear hAO hAN n2 n3 hrvl;go_wp2_with fail;refine eadd_r7 _ _ (by kernel_rfl) _ eb ob_ nb_ B rs.length rdv ckv (.slice au tb'.length cu) ltv (.slice ao ps.length cap) (.slice a2 q.wh.length c2) (.slice a3 q.bys.length c3) (.int .i64 q.size) (.int .i64 q.slide) (.int .i64 q.delay) (.int .i64 q.late) rva o1 o2 rvc wac.length d1 pac.length d2 ws wk9 wn pst pk pn (rowOf ga rs) _ rfl rfl rfl rfl M6.out.be HBO.out HBN.out M6.out.ro hnr M6.out.bb M6.out.re N2.out N3.out (by first | exact bX PNH.out | exact PNH.out) ?_;rintro t7 va_ vc_ w7 ht7 k0 k12 k13 ⟨BE7,RO7,RV7,K7⟩;obtain ⟨f7,hf7,-⟩:=fM t7 ht7;subst hf7;have key:=HKEY.out;have pkey:=HPK.out;have pace:=HPA.out;have FIN:=HD.out tb' [(⟨true,(ws,wk9,wn,wac.map acV)⟩,.slice o1 wac.length d1),(⟨false,(pst,pk,pn,pac.map acV)⟩,.slice o2 pac.length d2)] _ _ w7 (mH M6.out h1 K7 BE7 (by rw [cB,List.length_append];exact RO7) RV7 (fun r hr=>by
      simp only [List.mem_cons,List.not_mem_nil,or_false] at hr
      rcases hr with rfl | rfl
      ·exact ⟨by simp only [List.length_map];exact bg HO1.out,HAO.out⟩
      ·exact ⟨by simp only [List.length_map];exact bg HO2.out,HAN.out⟩) (fun r hr=>by
      have hbb:=HMK2.out.bb;simp only [List.mem_cons,List.not_mem_nil,or_false] at hr
      rcases hr with rfl | rfl
      ·exact fun k e=>by have h9:=(aJ HO1.out k e).1;omega
      ·exact fun k e=>by have h9:=(aJ HO2.out k e).1;omega)) (by
      have a9:=addE_turn (rows:=rs.map Prod.fst) HAW.out rfl (by rw [← pace];exact HNE.out);rw [← key.1,← key.2.1,← key.2.2,← pace] at a9;rw [List.map_append,pkey.1,pkey.2.1,pkey.2.2];exact a9) (by simp) (by
      rcases RV7 with e | ⟨k,e,hk⟩
      ·exact .inl e
      ·exact .inr ⟨k,e,by omega⟩) (af K6.out K7)
     first | exact bodyPost_end (results_none rfl _ _ _) rfl ⟨rfl,FIN⟩ | (refine aQ ?_;exact bodyPost_end (results_none rfl _ _ _) rfl ⟨rfl,FIN⟩) | (go_wp2_with fail;exact bodyPost_end (results_none rfl _ _ _) rfl ⟨rfl,FIN⟩)
   ·obtain ⟨p,hp,e9⟩:=HEX.out
    have:=hnone p hp
    rw [decide_eq_true e9] at this;cases this
def fl (l:List Ev):Bool:=decide (l.length≤40) && l.all fun x=>decide (evC x=0)
def lightM (M:List (List Ev)):Bool:=decide (M.length≤3) && M.all fl
theorem f8 {M:List (List Ev)} (h:lightM M=true):M.length≤3∧∀ l∈M,l.length≤40∧∀ x∈l,evC x=0:=by
 unfold lightM at h;simp only [Bool.and_eq_true,decide_eq_true_eq,List.all_eq_true] at h;refine ⟨h.1,fun l hl=>?_⟩;have h1:=h.2 l hl;unfold fl at h1
 simpa using h1
theorem light_any (pv:Value) (vs:List Value) (M:List (List Ev)) (w:World) (h:PtsR w pv vs M) (hml:M.length≤maxLen) :
  Calls Tryz.prog 67 #[pv] w fun e w'=>e=.returned (.bool (lightM M))∧Below w.heap.size w w':=by
 obtain ⟨ap,cp,rfl⟩:=am h.row;unfold maxLen at hml
 by_cases h3:M.length≤3
 ·have HT:Hid ((∀ l∈M,fl l=true)→lightM M=true):=fun hl=>by
   unfold lightM;rw [decide_eq_true h3,Bool.true_and,List.all_eq_true];exact hl
  have HF:Hid (∀ l∈M,fl l=false→lightM M=false):=fun l hl e=>by
   cases hb:lightM M with
   | false=>rfl
   | true =>
    unfold lightM at hb;rw [decide_eq_true h3,Bool.true_and,List.all_eq_true] at hb;rw [hb l hl] at e;cases e
  have HM:=aa h;have d3:decide ((3:Int) < (M.length:Int))=false:=by simp;omega
  generalize lightM M=b at *;clear h
  go_enter Tryz.func67,Tryz.ntmps67
  go_wp2_with fail
  go_loopw [3] (fun i wr=>∃ m:Nat,m≤M.length∧i=.int .i64 m∧Hid (∀ l∈M.take m,fl l=true)∧Hid (Below w.heap.size w wr)) (fun i _=>M.length - (intOf i).toNat)
  case atStart=>exact ⟨0,Nat.zero_le _,rfl,fun l hl=>by simp at hl,Below.refl _ _⟩
  case round =>
   obtain ⟨m,hm,rfl,HP,HB⟩:=hrel
   by_cases hlt:m < M.length
   ·obtain ⟨g,off,v,hao,hv,y0,z1,z2,z3⟩:=cL HM.out.row m hlt;subst hao;have hrl:=HM.out.each m v M[m] hv (List.getElem?_eq_getElem hlt);have hmem:=List.getElem_mem hlt;have hnx:M.take (m+1)=M.take m++[M[m]]:=List.take_succ_eq_append_getElem hlt;have HNX:Hid (fl M[m]=true→∀ l∈M.take (m+1),fl l=true):=fun he l hl=>by
     rw [hnx] at hl
     rcases List.mem_append.1 hl with hl | hl
     ·exact HP.out l hl
     ·rw [List.mem_singleton.1 hl];exact he
    have HFM:=aa (HF.out M[m] hmem);clear hnx hv hmem;generalize M[m]=l at *;obtain ⟨al,cl,rfl⟩:=am hrl;have HRL:=aa hrl;unfold maxLen at z2;have Y0:=aa y0;have y0:wr.cell? ⟨g,off+m,none⟩=some (.slice al l.length cl):=(HB.out.cell (p:=⟨g,off+m,none⟩) z3).trans Y0.out;have z4:g < wr.heap.size:=Nat.lt_of_lt_of_le z3 HB.out.size;clear hrl
    by_cases hl:l.length≤40
    ·have d4:decide ((40:Int) < (l.length:Int))=false:=by simp;omega
     have HLT:Hid ((∀ x∈l,evC x=0)→fl l=true):=fun hx=>by
      unfold fl
      simp [hl]
      exact hx
     have HLF:Hid (∀ x∈l,evC x≠0→fl l=false):=fun x hx hc=>by
      unfold fl;rw [Bool.and_eq_false_iff];refine .inr ?_;cases hb:l.all fun x=>decide (evC x=0) with
      | false=>rfl
      | true =>
       rw [List.all_eq_true] at hb
       have:=hb x hx
       simp [hc] at this
     go_wp2_with fail
     go_loopw [4] (fun i wx=>∃ k:Nat,k≤l.length∧i=.int .i64 k∧Hid (∀ x∈l.take k,evC x=0)∧Hid (Below w.heap.size w wx)) (fun i _=>l.length - (intOf i).toNat)
     case atStart=>exact ⟨0,Nat.zero_le _,rfl,fun x hx=>by simp at hx,HB⟩
     case round =>
      clear HB y0;obtain ⟨k,hk,rfl,HX,HB⟩:=hrel;have y0:wr.cell? ⟨g,off+m,none⟩=some (.slice al l.length cl):=(HB.out.cell (p:=⟨g,off+m,none⟩) z3).trans Y0.out;have z5:g < wr.heap.size:=Nat.lt_of_lt_of_le z3 HB.out.size;clear z4
      by_cases hkl:k < l.length
      ·obtain ⟨ge,oe,hae,hce,p1,p2,p3⟩:=bj dX (aA HRL.out HB.out) k hkl;subst hae;have hxm:=List.getElem_mem hkl;have hnx:l.take (k+1)=l.take k++[l[k]]:=List.take_succ_eq_append_getElem hkl;have HLK:=aa (HLF.out l[k] hxm);have HXN:Hid (evC l[k]=0→∀ x∈l.take (k+1),evC x=0):=fun he x hx=>by
        rw [hnx] at hx
        rcases List.mem_append.1 hx with hx | hx
        ·exact HX.out x hx
        ·rw [List.mem_singleton.1 hx];exact he
       clear hnx hxm;generalize l[k]=x at *;obtain ⟨x0,x1,x2,x3,x4,x5,x6⟩:=ev7 hce;unfold maxLen at p2;have SC:=fo x wr;unfold dE at SC;clear hce
       by_cases hc:evC x=0
       ·have e9:gG 0=.nilIface:=rfl;rw [hc,e9] at SC;have SCH:=aa SC;have HX1:=aa (HXN.out hc);clear SC e9 hc;go_wp2_with fail;refine SCH.out.mono ?_;rintro e w1 ⟨rfl,hb⟩;have HB1:=nxt HB hb;clear hb;go_wp2_with fail;go_roundw
        case rel=>exact ⟨k+1,by omega,by go_num,HX1,HB1⟩
        case measure=>simp [intOf];omega
       ·have e9:gG (evC x)=.iface 93 (.int .i64 (evC x)):=by unfold gG;rw [if_neg hc]
        rw [e9] at SC;have SCH:=aa SC;have hbf:b=false:=HFM.out (HLK.out hc);subst hbf;generalize evC x=c at *;clear SC e9 hc;go_wp2_with fail;refine SCH.out.mono ?_;rintro e w1 ⟨rfl,hb⟩;have HB1:=nxt HB hb;clear hb;go_wp2_with fail
        go_ret
        exact ⟨rfl,HB1.out⟩
      ·have hke:k=l.length:=by omega
       subst hke;have HP2:=aa (HNX.out (HLT.out (fun x hx=>HX.out x (by rw [List.take_length];exact hx))));go_wp2_with fail;go_roundw
       case rel=>exact ⟨m+1,by omega,by go_num,HP2,HB⟩
       case measure=>simp [intOf];omega
    ·have d4:decide ((40:Int) < (l.length:Int))=true:=by simp;omega
     have hbf:b=false:=HFM.out (by unfold fl;rw [decide_eq_false hl];rfl);subst hbf;go_wp2_with fail
     go_ret
     exact ⟨rfl,HB.out⟩
   ·have hme:m=M.length:=by omega
    subst hme;have hbt:b=true:=HT.out (fun l hl=>HP.out l (by rw [List.take_length];exact hl));subst hbt;go_wp2_with fail
    go_ret
    exact ⟨rfl,HB.out⟩
 ·have d3:decide ((3:Int) < (M.length:Int))=true:=by simp;omega
  have hbf:lightM M=false:=by unfold lightM;rw [decide_eq_false h3];rfl
  rw [hbf];clear h hbf
  go_enter Tryz.func67,Tryz.ntmps67
  go_wp2_with fail
  go_ret
  exact ⟨rfl,Below.refl _ _⟩
theorem signs_any (w:World):Calls Tryz.prog 69 #[] w fun r w'=>r=.returned (.map (some w.heap.size))∧Below w.heap.size w w'∧oT w' w.heap.size sgL:=by
 have M0:=mapL_new w;have B0:=aj w (.map #[] 0);have mk:(Instr.makeMap 131 none).run Tryz.prog w=.ok (.map (some w.heap.size)) (w.alloc (.map #[] 0)):=rfl;generalize w.heap.size=g at *;generalize w.alloc (.map #[] 0)=w0 at *;obtain ⟨w1,r0,M1,K0⟩:=ph M0 wOr ⟨0,10,false,false⟩ (by decide);have B1:Below g w w1:=B0.trans (aL K0 (Nat.le_of_lt (dc M0)) (fun k e=>by omega));have i0:(Instr.mapUpdate 131 (.map (some g)) (.string ⟨#[111,114]⟩) (.agg #[.int .i64 0,.int .i64 10,.bool false,.bool false])).run Tryz.prog w0=.ok () w1:=r0;obtain ⟨w2,r1,M2,K1⟩:=ph M1 wAnd ⟨1,9,false,false⟩ (by decide);have B2:Below g w w2:=B1.trans (aL K1 (Nat.le_of_lt (dc M1)) (fun k e=>by omega));have i1:(Instr.mapUpdate 131 (.map (some g)) (.string ⟨#[97,110,100]⟩) (.agg #[.int .i64 1,.int .i64 9,.bool false,.bool false])).run Tryz.prog w1=.ok () w2:=r1;obtain ⟨w3,r2,M3,K2⟩:=ph M2 wLt ⟨2,11,false,false⟩ (by decide);have B3:Below g w w3:=B2.trans (aL K2 (Nat.le_of_lt (dc M2)) (fun k e=>by omega));have i2:(Instr.mapUpdate 131 (.map (some g)) (.string ⟨#[60]⟩) (.agg #[.int .i64 2,.int .i64 11,.bool false,.bool false])).run Tryz.prog w2=.ok () w3:=r2;obtain ⟨w4,r3,M4,K3⟩:=ph M3 wGt ⟨2,11,true,false⟩ (by decide);have B4:Below g w w4:=B3.trans (aL K3 (Nat.le_of_lt (dc M3)) (fun k e=>by omega));have i3:(Instr.mapUpdate 131 (.map (some g)) (.string ⟨#[62]⟩) (.agg #[.int .i64 2,.int .i64 11,.bool true,.bool false])).run Tryz.prog w3=.ok () w4:=r3;obtain ⟨w5,r4,M5,K4⟩:=ph M4 wLe ⟨2,11,true,true⟩ (by decide);have B5:Below g w w5:=B4.trans (aL K4 (Nat.le_of_lt (dc M4)) (fun k e=>by omega));have i4:(Instr.mapUpdate 131 (.map (some g)) (.string ⟨#[60,61]⟩) (.agg #[.int .i64 2,.int .i64 11,.bool true,.bool true])).run Tryz.prog w4=.ok () w5:=r4;obtain ⟨w6,r5,M6,K5⟩:=ph M5 wGe ⟨2,11,false,true⟩ (by decide);have B6:Below g w w6:=B5.trans (aL K5 (Nat.le_of_lt (dc M5)) (fun k e=>by omega));have i5:(Instr.mapUpdate 131 (.map (some g)) (.string ⟨#[62,61]⟩) (.agg #[.int .i64 2,.int .i64 11,.bool false,.bool true])).run Tryz.prog w5=.ok () w6:=r5;obtain ⟨w7,r6,M7,K6⟩:=ph M6 wEq ⟨2,12,false,false⟩ (by decide);have B7:Below g w w7:=B6.trans (aL K6 (Nat.le_of_lt (dc M6)) (fun k e=>by omega));have i6:(Instr.mapUpdate 131 (.map (some g)) (.string ⟨#[61]⟩) (.agg #[.int .i64 2,.int .i64 12,.bool false,.bool false])).run Tryz.prog w6=.ok () w7:=r6;obtain ⟨w8,r7,M8,K7⟩:=ph M7 wNe ⟨2,12,false,true⟩ (by decide);have B8:Below g w w8:=B7.trans (aL K7 (Nat.le_of_lt (dc M7)) (fun k e=>by omega));have i7:(Instr.mapUpdate 131 (.map (some g)) (.string ⟨#[60,62]⟩) (.agg #[.int .i64 2,.int .i64 12,.bool false,.bool true])).run Tryz.prog w7=.ok () w8:=r7;obtain ⟨w9,r8,M9,K8⟩:=ph M8 wPlus ⟨3,6,false,false⟩ (by decide);have B9:Below g w w9:=B8.trans (aL K8 (Nat.le_of_lt (dc M8)) (fun k e=>by omega))
 have i8:(Instr.mapUpdate 131 (.map (some g)) (.string ⟨#[43]⟩) (.agg #[.int .i64 3,.int .i64 6,.bool false,.bool false])).run Tryz.prog w8=.ok () w9:=r8;obtain ⟨w10,r9,M10,K9⟩:=ph M9 wMinus ⟨3,7,false,false⟩ (by decide);have B10:Below g w w10:=B9.trans (aL K9 (Nat.le_of_lt (dc M9)) (fun k e=>by omega));have i9:(Instr.mapUpdate 131 (.map (some g)) (.string ⟨#[45]⟩) (.agg #[.int .i64 3,.int .i64 7,.bool false,.bool false])).run Tryz.prog w9=.ok () w10:=r9;obtain ⟨w11,r10,M11,K10⟩:=ph M10 wStar ⟨4,8,false,false⟩ (by decide);have B11:Below g w w11:=B10.trans (aL K10 (Nat.le_of_lt (dc M10)) (fun k e=>by omega));have i10:(Instr.mapUpdate 131 (.map (some g)) (.string ⟨#[42]⟩) (.agg #[.int .i64 4,.int .i64 8,.bool false,.bool false])).run Tryz.prog w10=.ok () w11:=r10;have MZ:oT w11 g sgL:=M11;have MM:=aa MZ;have BB:=aa B11;clear M0 B0 M1 B1 M2 B2 M3 B3 M4 B4 M5 B5 M6 B6 M7 B7 M8 B8 M9 B9 M10 B10 M11 B11 MZ K0 r0 K1 r1 K2 r2 K3 r3 K4 r4 K5 r5 K6 r6 K7 r7 K8 r8 K9 r9 K10 r10
 go_enter Tryz.func69,Tryz.ntmps69
 go_wp2_with fail
 go_ret
 exact ⟨rfl,BB.out,MM.out⟩
end Go.Proofs.YtcgjflamgnjhcaaGreatDoor
