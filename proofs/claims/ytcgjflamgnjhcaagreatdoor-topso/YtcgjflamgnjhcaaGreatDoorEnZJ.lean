/- Own texts in one. Conditions: as named in each. -/
import Derived.Test.YtcgjflamgnjhcaaGreatDoorClock2J
import Derived.Test.YtcgjflamgnjhcaaGreatDoorEnX3J
import Derived.Test.YtcgjflamgnjhcaaGreatDoorEnWJ
import Derived.Test.YtcgjflamgnjhcaaGreatDoorEnJJ
import Derived.Test.YtcgjflamgnjhcaaGreatDoorEnRJ
import Derived.Test.YtcgjflamgnjhcaaGreatDoorAskJ
import Derived.Test.YtcgjflamgnjhcaaGreatDoorEnQJ
set_option linter.unusedVariables false
set_option linter.unusedSimpArgs false
set_option maxRecDepth 100000
set_option maxHeartbeats 8000000
namespace Go.Proofs.YtcgjflamgnjhcaaGreatDoor
open Go.ChangeShapes Go.WideShapes Go.ChangeAt Go.RowKit
theorem late_kpt {q:Qy} {M:List (List Ev)} {p:Nat} (hp:p < M.length):∀ st,eQ q (bE q ((bD M).getD p 0)) (decide (0≤(bD M).getD p 0)) st=false→nZ q (iA q M) st=true:=fun st h=>by
 have hpl:p < (bD M).length:=by unfold bD;rw [List.length_map];exact hp
 have hmin:=min_le (bD M) p hpl;unfold iA
 by_cases hm:minOf (bD M) < 0
 ·rw [if_pos hm];rfl
 ·rw [if_neg hm];have e:bE q ((bD M).getD p 0)=(bD M).getD p 0 - q.delay:=by unfold bE;rw [if_neg (by omega)]
  rw [decide_eq_true (by omega),e] at h;simp only [eQ,Bool.true_and,decide_eq_false_iff_not] at h;unfold nZ;simp only [Bool.not_eq_true',decide_eq_false_iff_not];omega
theorem jt {M:List (List Ev)} (h:∀ l∈M,∀ x∈l,evC x=0):∀ g∈bD M,-1≤g∧g≤9999:=fun g hg=>by
 obtain ⟨l,hl,rfl⟩:=List.mem_map.1 hg
 have:=farL_bound l (-1) (h l hl)
 omega
theorem lQ {G:List Int} {p:Nat} (h:p < G.length):G.getD p 0∈G:=by
 rw [List.getD_eq_getElem?_getD,List.getElem?_eq_getElem h];exact List.getElem_mem h
theorem o6 (G:List Int) (h:0 < G.length):minOf G∈G:=by
 obtain ⟨i,hi,e⟩:=min_at G h;rw [e];exact lQ hi
theorem ofV_in {ks:List Int} {cs:List Ct} {V:List Pn} (h:OfV ks cs V) (hc:∀ c∈cs,-1000≤c.st∧c.st≤9999):∀ p∈V,-1000≤p.st∧p.st≤9999:=fun p hp=>by
 have h9:=(h.acc p hp).2;obtain ⟨c,hc9⟩:=List.exists_mem_of_ne_nil _ h9;have h8:=List.mem_filter.1 hc9;have h7:=of_decide_eq_true h8.2;rw [← h7.1];exact hc c h8.1
theorem estep_any (w0:World) (eb B b0:Nat) (q:Qy) (ps:List (AgQ×Value)) (va vw vb:Value) (M:List (List Ev)) (late:Nat) (tb:List Pn) (rs:List (Rw×Value)) (rdv ckv tv rv:Value) (V:List Pn) (cs:List Ct) (p:Nat) (l:List Ev) (x:Ev) (W:World)
  (hE:EgR w0 eb B b0 q va vw vb (M.map List.length) (bD M) late tb rs rdv ckv tv rv W) (hR:RunI q M tb (rs.map Prod.fst) late V cs) (hq0:QyG w0 va vw vb q ps) (hqk:QyK eb rdv va vw vb ps) (h1:w0.heap.size≤B) (hb0:b0≤w0.heap.size) (hc:chkQ q=0) (hM3:M.length≤3) (hp:M[p]?=some l) (hl40:∀ l∈M,l.length≤40) (hle:∀ l∈M,∀ x∈l,evC x=0) (hx:evC x=0) (hcs:cs.length≤476) (hr:rs.length≤800000) (hlt9:late≤900000) :
  Calls Tryz.prog 17 #[.pointer (some ⟨eb,0,none⟩),.int .i64 (p:Nat),dE x] W (fun e w'=>e=.returned (.tuple #[])∧∃ tb' rs' late' ckv' tv' rv',EgR w0 eb B b0 q va vw vb ((M.set p (l++[x])).map List.length) (bD (M.set p (l++[x]))) late' tb' rs' rdv ckv' tv' rv' w'∧lP q (bD M) p x tb (rs.map Prod.fst) late tb' (rs'.map Prod.fst) late'∧rs'.length≤rs.length+600∧(rv'.ownBlock=rv.ownBlock∨∃ k,rv'.ownBlock=some k∧W.heap.size≤k)∧KeptB W w' (fun k=>k=eb∨rdv.ownBlock=some k∨rv.ownBlock=some k)):=by
 have hS:=lI hc;have hN:=pT hc;have hK:=pR hc;have hpl:p < M.length:=(List.getElem?_eq_some_iff.1 hp).1;have hcl:(bD M).length=M.length:=by unfold bD;rw [List.length_map]
 have hgb:=jt hle _ (lQ (G:=bD M) (p:=p) (by omega));have hll:=hl40 l (List.mem_of_getElem? hp);have h4:ps.length≤4:=by
  have h5:=(gR hc).n4;rw [← hq0.qa,List.length_map] at h5;exact h5
 have hvs:∀ d∈cs,d.vs.length=q.aggs.length:=fun d hd=>oF d (hR.perm.mem_iff.1 hd)
 have PUT:=eput_any w0 eb B q ps rdv ckv (eK late) va vw vb cs (iA q M) tb (rs.map Prod.fst) rs.length hq0 h4 hK hqk h1 (by omega) hvs (by omega);have R0:∀ w',Below W.heap.size W w'→oY w0 eb B q rdv ckv (eK late) va vw vb cs (iA q M) tb (rs.map Prod.fst) rs.length [] rv.ownBlock w':=fun w' hb=>⟨tb,rs,tv,rv,V,bZ hE.en hb,rfl,by rw [List.append_nil];exact hR.en,.nil,fun d hd=>by simp at hd,by simp⟩
 have hW:mT x.t q.size q.slide:=⟨(kJ hx).2.1,(kJ hx).2.2,hS.s1,hS.s2,hS.s3,hS.s4⟩;have hkl:=jh hW (bE q ((bD M).getD p 0)) (decide (0≤(bD M).getD p 0));obtain ⟨c1,c2⟩:=iS hx M p l hp (hle l (List.mem_of_getElem? hp)) (q:=q);have hg9:(bD M).getD p 0=ew (-1) l:=by
  unfold bD;rw [List.getD_eq_getElem?_getD,List.getElem?_map,hp]
  rfl
 rw [← hg9] at c1;have HIN:Hid (∀ c∈cs++takeC q x (bE q ((bD M).getD p 0)) (decide (0≤(bD M).getD p 0)),-1000≤c.st∧c.st≤9999):=fun c hc9=>pd hS c (((hR.perm.append_right _).trans c1.symm).mem_iff.1 hc9)
 have HVS:Hid (∀ c∈cs++takeC q x (bE q ((bD M).getD p 0)) (decide (0≤(bD M).getD p 0)),c.vs.length=q.aggs.length):=fun c hc9=>oF c (((hR.perm.append_right _).trans c1.symm).mem_iff.1 hc9)
 have TAKE:=aa (fun w' (hb:Below W.heap.size W w')=>etakeE_any _ (fun st=>nZ q (iA q M) st=true) eb rv.ownBlock va vw vb q ps x (bE q ((bD M).getD p 0)) (decide (0≤(bD M).getD p 0)) (.pointer (some ⟨eb,0,none⟩)) [] w' (kW (eb:=eb) (rdv:=rdv) hq0 (bZ hE.en hb).old hqk) h4 hN (kJ hx).1 hW hS.l0 hS.l1 PUT (late_kpt hpl) (R0 w' hb) (by decide));have PTA:=aa (fun w' (hb:Below W.heap.size W w')=>nz (bD M) ckv p q.delay w' (by omega) (by omega) (aA (aD hE.ck) hb));rw [mg q _ (by omega) (by omega) ⟨hS.d0,by have:=hS.d1;omega⟩] at PTA;have hseel:(eO (bD M) p x.t).length=M.length:=by rw [jF];exact hcl
 have hclk:bD (M.set p (l++[x]))=eO (bD M) p x.t:=oS hp x;have hgb2:=jt (M:=M.set p (l++[x])) (fun l9 hl9 y hy=>by
  rcases List.mem_or_eq_of_mem_set hl9 with h9 | h9
  ·exact hle l9 h9 y hy
  ·subst h9
   rcases List.mem_append.1 hy with h8 | h8
   ·exact hle l (List.mem_of_getElem? hp) y h8
   ·rw [List.mem_singleton.1 h8];exact hx) _ (o6 _ (by rw [hclk,hseel];omega))
 rw [hclk] at hgb2;obtain ⟨rdg,rdc,hrd,hrd1,hrd2⟩:=ed hE.rd (by rw [List.length_map];omega);subst hrd;rw [List.length_map] at hE hqk TAKE;rw [List.length_map];obtain ⟨tva,tvc,rfl⟩:=aF hE.en.tt.row;obtain ⟨rva,rvc,rfl⟩:=ax hE.en.ro;obtain ⟨cka,ckc,rfl⟩:=ax hE.ck;have hqk9:=kW (eb:=eb) hq0 hE.en.old hqk;obtain ⟨ao,cap,rfl⟩:=am hqk9.ag.row;obtain ⟨a2,c2_,rfl⟩:=am hqk9.wh;obtain ⟨a3,c3_,rfl⟩:=am hqk9.by_;unfold qyV dE at TAKE;unfold dE;have SC:=aa (fun w' (hb:Below W.heap.size W w')=>fo x w');rw [hx] at SC;unfold dE gG at SC;have bx:=aj W (.cells #[.int .i64 x.t,.int .i64 x.k1,.int .i64 x.k2,.int .i64 x.a1,.int .i64 x.a2,.int .i64 x.b1,.int .i64 x.b2] 43);have BX:=aa (ay W [.int .i64 x.t,.int .i64 x.k1,.int .i64 x.k2,.int .i64 x.a1,.int .i64 x.a2,.int .i64 x.b1,.int .i64 x.b2] 43);have EX:=aa (eW hE bx);have HBX:=aa bx;have e0:(W.alloc (.cells #[.int .i64 x.t,.int .i64 x.k1,.int .i64 x.k2,.int .i64 x.a1,.int .i64 x.a2,.int .i64 x.b1,.int .i64 x.b2] 43)).cell? ⟨eb,0,none⟩=some (.slice (some ⟨rdg,0,none⟩) M.length rdc):=EX.out.en.be.c 0 (by simp);have lebw:=hE.en.be.lt;have leb:=EX.out.en.be.lt;have HPT:=aa PTA;have SCX:=aa (SC.out _ bx);have HRL:=aa (aJ hE.en.ro);have HRU:=aa hR;have HHP:=aa hp;have HCLK:=aa hclk;have HSL:=aa hseel;have HQ0:=aa hqk9;have HCL:=aa hcl;have HC1:=aa c1;have HGB:=aa hgb2;have HNK:=aa hK;have hrdb:rdg≠eb∧rdg < B:=hE.rk rdg rfl;have HES:=aa hE.rd;have hkn:(takeN q x (bE q ((bD M).getD p 0)) (decide (0≤(bD M).getD p 0)))≤4:=hkl.2;have hkc:(takeC q x (bE q ((bD M).getD p 0)) (decide (0≤(bD M).getD p 0))).length≤4:=hkl.1;have HBB:=aa hE.en.old.b0.size;clear bx hE hR hp hclk hseel hqk9 hcl c1 c2 PTA PUT R0 hW hkl hvs SC hgb2 hgb hK hN hle hl40 hg9 hrd1
 go_enter Tryz.func17,Tryz.ntmps17
 go_wp2_with fail;refine SCX.out.mono ?_;rintro e w1 ⟨rfl,hb1⟩;have E1:=aa (eW EX.out hb1);have BX1:=aa (ah BX.out hb1 BX.out.lt);have HB1:=aa (HBX.out.trans (hb1.mono HBX.out.size));clear e0 leb SCX hb1 EX BX HBX;go_wp2_with fail;have PNH:=aa (@eJ Tryz.prog Tryz.f17 (fun e w'=>e=.returned (.tuple #[])∧∃ tb' rs' late' ckv' tv' rv',EgR w0 eb B b0 q (.slice ao ps.length cap) (.slice a2 q.wh.length c2_) (.slice a3 q.bys.length c3_) ((M.set p (l++[x])).map List.length) (bD (M.set p (l++[x]))) late' tb' rs' (.slice (some ⟨rdg,0,none⟩) M.length rdc) ckv' tv' rv' w'∧lP q (bD M) p x tb (rs.map Prod.fst) late tb' (rs'.map Prod.fst) late'∧rs'.length≤rs.length+600∧(rv'.ownBlock=(Value.slice rva rs.length rvc).ownBlock∨∃ k,rv'.ownBlock=some k∧W.heap.size≤k)∧KeptB W w' (fun k=>k=eb∨(Value.slice (some ⟨rdg,0,none⟩) M.length rdc).ownBlock=some k∨(Value.slice rva rs.length rvc).ownBlock=some k)));refine estep_r2 _ _ (by kernel_rfl) _ eb W.heap.size p (.slice (some ⟨rdg,0,none⟩) M.length rdc) (.slice tva tb.length tvc) (eK late) (.slice rva rs.length rvc) cka ao a2 a3 (bD M).length ckc cap c2_ c3_ q ps _ (bD M) rfl rfl rfl rfl E1.out.en.be (fun w' hb=>HPT.out w' (HB1.out.trans (hb.mono HB1.out.size))) (by first | exact bX PNH.out | exact PNH.out) ?_;rintro t2 w2 ht2 j0 j1 j5 j6 j7 hb2;obtain ⟨f2,hf,hi⟩:=eE t2 ht2;have e0:=aq (hi 0 (by decide)) j0;have e1:=aq (hi 1 (by decide)) j1;have e5:=aq (hi 5 (by decide)) j5;have e6:=aq (hi 6 (by decide)) j6;have e7:=aq (hi 7 (by decide)) j7;rw [e0,e1,e5,e6,e7] at hf;clear hi ht2 j0 e0 j1 e1 j5 e5 j6 e6 j7 e7;subst hf;refine aQ ?_;rename_i K9 hK9;refine hK9 _ _ ?_;clear hK9;have E2:=aa (eW E1.out hb2);have BX2:=aa (ah BX1.out hb2 BX1.out.lt);have HB2:=aa (HB1.out.trans (hb2.mono HB1.out.size));clear E1 BX1 HB1 hb2 HPT;go_wp2_with fail;refine estep_r3 _ _ (by kernel_rfl) _ eb W.heap.size p (.slice (some ⟨rdg,0,none⟩) M.length rdc) (.slice tva tb.length tvc) (.slice rva rs.length rvc) cka ao a2 a3 (bD M).length ckc cap c2_ c3_ q ps _ late (takeN q x (bE q ((bD M).getD p 0)) (decide (0≤(bD M).getD p 0))) _ _ (Value.slice rva rs.length rvc).ownBlock x (fun w9=>∃ rb',oY w0 eb B q (.slice (some ⟨rdg,0,none⟩) M.length rdc) (.slice cka (bD M).length ckc) (eK late) (.slice ao ps.length cap) (.slice a2 q.wh.length c2_) (.slice a3 q.bys.length c3_) cs (iA q M) tb (rs.map Prod.fst) rs.length (takeC q x (bE q ((bD M).getD p 0)) (decide (0≤(bD M).getD p 0))) rb' w9∧(rb'=(Value.slice rva rs.length rvc).ownBlock∨∃ k,rb'=some k∧w2.heap.size≤k)∧KeptB w2 w9 (fun k=>k=eb∨(Value.slice rva rs.length rvc).ownBlock=some k)) rfl rfl rfl rfl rfl rfl E2.out.en.be BX2.out (fun e=>by
  rcases e with e | e
  ·omega
  ·have:=(HRL.out _ e).2;omega) (by omega) (by omega) (fun w' hb=>(TAKE.out w' (HB2.out.trans (hb.mono HB2.out.size))).mono (by
   rintro e w9 ⟨rfl,rb',hr9,hrb,hk9⟩;refine ⟨rfl,rb',hr9,?_,af (ae hb) hk9⟩
   rcases hrb with e | ⟨k,e,h9⟩
   ·exact .inl e
   ·exact .inr ⟨k,e,Nat.le_trans hb.size h9⟩)) (fun w9 h9=>by
   obtain ⟨rb',⟨tb1,rs1,tv1,rv1,V1,M1,-⟩,-,K1⟩:=h9;exact ⟨K1,tv1,rv1,M1.be⟩) (by first | exact bX PNH.out | exact PNH.out) ?_
 rintro t3 w31 w3 ht3 i0 i1 i5 ⟨⟨rb',⟨tb1,rs1,tv1,rv1,V1,M1,rfl,I1,A1,-,hlen1⟩,hrb,K1⟩,rfl⟩;obtain ⟨f3,hf,hi⟩:=eE t3 ht3;have e0:=aq (hi 0 (by decide)) i0;have e1:=aq (hi 1 (by decide)) i1;have e5:=aq (hi 5 (by decide)) i5;rw [e0,e1,e5] at hf;clear hi ht3 i0 e0 i1 e1 i5 e5;subst hf;refine aQ ?_;rename_i K9 hK9;refine hK9 _ _ ?_;clear hK9;have E3:=aa (egR_late (oX E2.out M1 K1 hrb) (late+(takeN q x (bE q ((bD M).getD p 0)) (decide (0≤(bD M).getD p 0)))));have KB1:=cZ K1 (bad':=fun k=>k=eb∨(Value.slice (some ⟨rdg,0,none⟩) M.length rdc).ownBlock=some k∨(Value.slice rva rs.length rvc).ownBlock=some k) (fun k e=>e.elim Or.inl (fun e=>.inr (.inr e)));have K3:=aa (ai (af (ae HB2.out) KB1) (g:=eb) (.inl rfl) 3 (eK (late+(takeN q x (bE q ((bD M).getD p 0)) (decide (0≤(bD M).getD p 0))))));have BX3:=aa (aH (aH BX2.out K1 (fun e=>by
  rcases e with e | e
  ·omega
  ·have:=(HRL.out _ e).2;omega)) (ai (ae (bad:=fun k=>k=eb) (Below.refl w31.heap.size w31)) (g:=eb) rfl 3 (eK (late+(takeN q x (bE q ((bD M).getD p 0)) (decide (0≤(bD M).getD p 0)))))) (by omega))
 have HI1:=aa I1;have HA1:=aa A1;have hrb2:rv1.ownBlock=(Value.slice rva rs.length rvc).ownBlock∨∃ k,rv1.ownBlock=some k∧W.heap.size≤k:=by
  rcases hrb with e | ⟨k,e,h9⟩
  ·exact .inl e
  ·exact .inr ⟨k,e,Nat.le_trans HB2.out.size h9⟩
 have HRB:=aa hrb2;have HTB:=aa (oL I1 (by rw [List.length_append];omega) (fun d hd=>by rw [List.length_map];exact HVS.out d hd) (fun y hy=>by obtain ⟨a,ha,rfl⟩:=List.mem_map.1 hy;exact HNK.out a ha));have HST:=aa (ofV_in I1.ofv HIN.out);have HTV:Hid (∀ y∈tb1,y∈V1):=fun y hy=>by rw [I1.tb] at hy;exact (List.mem_filter.1 hy).1
 have hlen2:rs1.length≤rs.length+8:=by omega
 clear K1 KB1 I1 A1 hrb hrb2 M1 hlen1 E2 BX2 TAKE HVS HIN HNK;obtain ⟨tva1,tvc1,rfl⟩:=aF E3.out.en.tt.row;obtain ⟨rva1,rvc1,rfl⟩:=ax E3.out.en.ro;have d0:(w31.setCell ⟨eb,3,none⟩ (eK (late+(takeN q x (bE q ((bD M).getD p 0)) (decide (0≤(bD M).getD p 0)))))).cell? ⟨eb,0,none⟩=some (.slice (some ⟨rdg,0,none⟩) M.length rdc):=E3.out.en.be.c 0 (by simp);have dl:=E3.out.en.be.lt;have dr:(w31.setCell ⟨eb,3,none⟩ (eK (late+(takeN q x (bE q ((bD M).getD p 0)) (decide (0≤(bD M).getD p 0)))))).cell? ⟨rdg,p,none⟩=some (.int .i64 (l.length:Int)):=by
  have h8:=E3.out.rd;rw [List.length_map] at h8;have h9:=h8.cellAt p (by omega);rw [List.getElem?_map,List.getElem?_map,HHP.out] at h9;exact h9
 have dg:rdg < (w31.setCell ⟨eb,3,none⟩ (eK (late+(takeN q x (bE q ((bD M).getD p 0)) (decide (0≤(bD M).getD p 0)))))).heap.size:=(aJ E3.out.rd rdg rfl).2;have df:(w31.setCell ⟨eb,3,none⟩ (eK (late+(takeN q x (bE q ((bD M).getD p 0)) (decide (0≤(bD M).getD p 0)))))).frozen? ⟨rdg,p,none⟩=false:=by
  have h9:=E3.out.rd;rw [List.length_map] at h9;exact gT h9 p
 generalize hw3:w31.setCell ⟨eb,3,none⟩ (eK (late+(takeN q x (bE q ((bD M).getD p 0)) (decide (0≤(bD M).getD p 0)))))=w3 at *;clear hw3;go_wp2_with fail;have E4a:=egR_read (Rd:=M.map List.length) (g:=rdg) (c:=rdc) (by rw [List.length_map];exact E3.out) p (l.length+1);rw [List.length_set,List.length_map] at E4a;have hcast:eK (l.length+1)=.int .i64 ((l.length:Int)+1):=by unfold eK;rw [Int.natCast_add];rfl
 rw [hcast] at E4a;have E4:=aa E4a;have K4:=aa (ai K3.out (g:=rdg) (.inr (.inl rfl)) p (.int .i64 ((l.length:Int)+1)));have BX4:=aa (aH BX3.out (ai (ae (bad:=fun k=>k=rdg) (Below.refl w3.heap.size w3)) (g:=rdg) rfl p (.int .i64 ((l.length:Int)+1))) (by have:=hrd2;omega));clear E4a hcast d0 dl dr dg df E3 K3 BX3;generalize w3.setCell ⟨rdg,p,none⟩ (.int .i64 ((l.length:Int)+1))=w4 at *;have PT5:=aa (fun w' (hb:Below w4.heap.size w4 w')=>see_any (bD M) (.slice cka (bD M).length ckc) p x.t w' (by rw [HCL.out];omega) (by rw [HCL.out];exact hpl) (aA (aD E4.out.ck) hb));refine estep_r5 _ _ (by kernel_rfl) _ eb W.heap.size p (.slice (some ⟨rdg,0,none⟩) M.length rdc) (.slice tva1 tb1.length tvc1) (eK (late+(takeN q x (bE q ((bD M).getD p 0)) (decide (0≤(bD M).getD p 0))))) (.slice rva1 rs1.length rvc1) cka ao a2 a3 (bD M).length ckc cap c2_ c3_ q ps _ (bD M) x rfl rfl rfl rfl E4.out.en.be BX4.out (fun w' hb=>(PT5.out w' hb).mono (by
  rintro e w9 ⟨u,rfl,ho,hb9⟩;obtain ⟨ua,uc,rfl⟩:=ax ho;exact ⟨ua,uc,rfl,ho,hb9⟩)) (by first | exact bX PNH.out | exact PNH.out) ?_
 rintro t5 ua uc w51 w5 ht5 h0 h1_ h5 ⟨rfl,hb51,ho5⟩;obtain ⟨f5,hf,hi⟩:=eE t5 ht5;have e0:=aq (hi 0 (by decide)) h0;have e1:=aq (hi 1 (by decide)) h1_;have e5:=aq (hi 5 (by decide)) h5;rw [e0,e1,e5] at hf;clear hi ht5 h0 e0 h1_ e1 h5 e5;subst hf;refine aQ ?_;rename_i K9 hK9;refine hK9 _ _ ?_;clear hK9;have hbb4:b0≤w4.heap.size:=by have:=HBB.out;have:=K4.out.b0.size;omega
 have E5:=aa (egR_clk E4.out hb51 ho5 hbb4);have K5:=aa (ai (af K4.out (ae hb51)) (g:=eb) (.inl rfl) 1 (.slice ua (eO (bD M) p x.t).length uc));clear hb51 ho5 E4 K4 BX4 PT5;generalize w51.setCell ⟨eb,1,none⟩ (.slice ua (eO (bD M) p x.t).length uc)=w5 at *;have PT6:=aa (fun w' (hb:Below w5.heap.size w5 w')=>oz (eO (bD M) p x.t) (.slice ua (eO (bD M) p x.t).length uc) q.delay w' (by rw [HSL.out];omega) (by rw [HSL.out];omega) (aA (aD E5.out.ck) hb));have HGBx:=HGB.out;rw [mg q _ (by omega) (by omega) ⟨hS.d0,by have:=hS.d1;omega⟩] at PT6;go_wp2_with fail;refine estep_r6 _ _ (by kernel_rfl) _ eb W.heap.size p (.slice (some ⟨rdg,0,none⟩) M.length rdc) (.slice tva1 tb1.length tvc1) (eK (late+(takeN q x (bE q ((bD M).getD p 0)) (decide (0≤(bD M).getD p 0))))) (.slice rva1 rs1.length rvc1) ua ao a2 a3 (eO (bD M) p x.t).length uc cap c2_ c3_ q ps _ (eO (bD M) p x.t) rfl rfl E5.out.en.be PT6.out (by first | exact bX PNH.out | exact PNH.out) ?_;rintro t6 w6 ht6 g0 g8 g9 hb6;obtain ⟨f6,hf,hi⟩:=eE t6 ht6;have e0:=aq (hi 0 (by decide)) g0;have e8:=aq (hi 8 (by decide)) g8;have e9:=aq (hi 9 (by decide)) g9;rw [e0,e8,e9] at hf;clear hi ht6 g0 e0 g8 e8 g9 e9;subst hf;refine aQ ?_;rename_i K9 hK9;refine hK9 _ _ ?_;clear hK9;have E6:=aa (eW E5.out hb6);have K6:=aa (af K5.out (ae hb6));have hms:(M.set p (l++[x])).map List.length=(M.map List.length).set p (l.length+1):=by rw [List.map_set,List.length_append];rfl
 have HMS:=aa hms;clear E5 K5 hb6 PT6 hms
 by_cases hm:0≤minOf (eO (bD M) p x.t)
 ·rw [decide_eq_true hm];have hu:bE q (minOf (eO (bD M) p x.t))=minOf (eO (bD M) p x.t) - q.delay:=by unfold bE;rw [if_neg (by omega)]
  rw [hu];have TE:=etell_any w0 eb B q (.slice (some ⟨rdg,0,none⟩) M.length rdc) (.slice ua (eO (bD M) p x.t).length uc) (eK (late+(takeN q x (bE q ((bD M).getD p 0)) (decide (0≤(bD M).getD p 0))))) (.slice ao ps.length cap) (.slice a2 q.wh.length c2_) (.slice a3 q.bys.length c3_) tb1 rs1 (.slice tva1 tb1.length tvc1) (.slice rva1 rs1.length rvc1) (minOf (eO (bD M) p x.t) - q.delay) w6 E6.out.en h1 (by have:=HTB.out.few;omega) (fun y hy=>by have:=HST.out y (HTV.out y hy);omega) (fun y hy=>by
   obtain ⟨a1,a2⟩:=HTB.out.acc y hy;refine ⟨by rw [a1,List.length_map];have:=(gR hc).n4;omega,fun a ha=>⟨(a2 a ha).1,(a2 a ha).2.1⟩⟩) (by omega) ⟨by have:=hS.s1;have:=hS.s2;omega,hS.s3⟩ ⟨hS.l0,hS.l1⟩
  have TEH:=aa TE;clear TE;go_wp2_with fail;refine TEH.out.mono ?_;rintro e w7 ⟨rfl,ns,tv7,rv7,M7,hns,hrv7,K7⟩;have E7:=oX E6.out M7 K7 hrv7;have hnl:ns.length≤500:=by
   have e:=congrArg List.length hns;unfold dI at e;rw [List.length_map,List.length_map] at e;have h8:=List.length_filter_le (dA q.size (minOf (eO (bD M) p x.t) - q.delay)) tb1;have h9:=HTB.out.few;omega
  have KF:KeptB W w7 (fun k=>k=eb∨(Value.slice (some ⟨rdg,0,none⟩) M.length rdc).ownBlock=some k∨(Value.slice rva rs.length rvc).ownBlock=some k):=by
   refine ⟨K6.out.b0.trans K7.b0,fun k hk hn=>(K7.block k (Nat.lt_of_lt_of_le hk K6.out.b0.size) (fun e=>?_)).trans (K6.out.block k hk hn)⟩
   rcases e with e | e
   ·exact hn (.inl e)
   ·rcases HRB.out with e9 | ⟨j,e9,h9⟩
    ·exact hn (.inr (.inr (by rw [← e9];exact e)))
    ·rw [e9] at e;cases e;omega
  have RVF:rv7.ownBlock=(Value.slice rva rs.length rvc).ownBlock∨∃ k,rv7.ownBlock=some k∧W.heap.size≤k:=by
   rcases hrv7 with e | ⟨k,e,h9⟩
   ·rcases HRB.out with e9 | ⟨j,e9,h9⟩
    ·exact .inl (e.trans e9)
    ·exact .inr ⟨j,e.trans e9,h9⟩
   ·exact .inr ⟨k,e,Nat.le_trans K6.out.b0.size h9⟩
  have FIN:∃ tb' rs' late' ckv' tv' rv',EgR w0 eb B b0 q (.slice ao ps.length cap) (.slice a2 q.wh.length c2_) (.slice a3 q.bys.length c3_) ((M.set p (l++[x])).map List.length) (bD (M.set p (l++[x]))) late' tb' rs' (.slice (some ⟨rdg,0,none⟩) M.length rdc) ckv' tv' rv' w7∧lP q (bD M) p x tb (rs.map Prod.fst) late tb' (rs'.map Prod.fst) late'∧rs'.length≤rs.length+600∧(rv'.ownBlock=(Value.slice rva rs.length rvc).ownBlock∨∃ k,rv'.ownBlock=some k∧W.heap.size≤k)∧KeptB W w7 (fun k=>k=eb∨(Value.slice (some ⟨rdg,0,none⟩) M.length rdc).ownBlock=some k∨(Value.slice rva rs.length rvc).ownBlock=some k) :=
   ⟨_,rs1++ns,_,_,_,_,by rw [HMS.out,HCLK.out];simpa using E7,⟨tb1,rs1.map Prod.fst,HA1.out,rfl,.inr ⟨hm,rfl,by rw [List.map_append,hns]⟩⟩,by rw [List.length_append];omega,RVF,KF⟩
  go_wp2_with fail
  first | exact bodyPost_end (results_none rfl _ _ _) rfl ⟨rfl,by first | exact FIN | (rw [HMS.out] at FIN;exact FIN)⟩ | exact bodyPost_ret (results_none rfl _ _ _) rfl ⟨rfl,by first | exact FIN | (rw [HMS.out] at FIN;exact FIN)⟩
 ·rw [decide_eq_false hm];have FIN:∃ tb' rs' late' ckv' tv' rv',EgR w0 eb B b0 q (.slice ao ps.length cap) (.slice a2 q.wh.length c2_) (.slice a3 q.bys.length c3_) ((M.set p (l++[x])).map List.length) (bD (M.set p (l++[x]))) late' tb' rs' (.slice (some ⟨rdg,0,none⟩) M.length rdc) ckv' tv' rv' w6∧lP q (bD M) p x tb (rs.map Prod.fst) late tb' (rs'.map Prod.fst) late'∧rs'.length≤rs.length+600∧(rv'.ownBlock=(Value.slice rva rs.length rvc).ownBlock∨∃ k,rv'.ownBlock=some k∧W.heap.size≤k)∧KeptB W w6 (fun k=>k=eb∨(Value.slice (some ⟨rdg,0,none⟩) M.length rdc).ownBlock=some k∨(Value.slice rva rs.length rvc).ownBlock=some k) :=
   ⟨tb1,rs1,_,_,_,_,by rw [HMS.out,HCLK.out];simpa using E6.out,⟨tb1,rs1.map Prod.fst,HA1.out,rfl,.inl ⟨by omega,rfl,rfl⟩⟩,by omega,HRB.out,K6.out⟩
  go_wp2_with fail
  first | exact bodyPost_end (results_none rfl _ _ _) rfl ⟨rfl,by first | exact FIN | (rw [HMS.out] at FIN;exact FIN)⟩ | exact bodyPost_ret (results_none rfl _ _ _) rfl ⟨rfl,by first | exact FIN | (rw [HMS.out] at FIN;exact FIN)⟩
theorem jd (w:World) (a:Addr) (n c:Nat):(binOp .eql 26 (.slice (some a) n c) (.slice none 0 0)).run Tryz.prog w=.ok (.bool false) w:=by kernel_rfl
theorem eqlNodesNil2 (w:World) (c:Nat):(binOp .eql 26 (.slice none 0 c) (.slice none 0 0)).run Tryz.prog w=.ok (.bool true) w:=by kernel_rfl
theorem eqlAggsNil (w:World) (a:Addr) (n c:Nat):(binOp .eql 25 (.slice (some a) n c) (.slice none 0 0)).run Tryz.prog w=.ok (.bool false) w:=by kernel_rfl
theorem infoNd9:(Tryz.prog.info? 153).map (fun i=>(i.zero,i.size,i.bytes))=some (some (.agg #[.int .i64 0,.int .i64 0,.int .i64 0,.int .i64 0,.int .i64 0,.int .i64 0]),6,48):=by kernel_rfl
theorem infoAg9:(Tryz.prog.info? 143).map (fun i=>(i.zero,i.size,i.bytes))=some (some (.agg #[.int .i64 0,.slice none 0 0]),2,32):=by kernel_rfl
theorem rowN_oneE (l:List Nd):∀ u∈f9 l,u.oneCell'=true:=by
 intro u hu;unfold f9 at hu;rw [List.mem_flatMap] at hu;obtain ⟨e,-,h⟩:=hu;simp only [cT,List.mem_cons,List.not_mem_nil,or_false] at h
 rcases h with rfl | rfl | rfl | rfl | rfl | rfl <;> rfl
theorem jT {w:World}:∀ (l:List (AgQ×Value)),(∀ p∈l,lu w p.2 p.1.of)→∀ u∈rowOf bz l,u.oneCell'=true
 | [],_,u,h=>by simp [rowOf] at h
 | x :: l,hx,u,h=>by
  rw [bS] at h
  rcases List.mem_append.1 h with h | h
  ·simp only [bz,List.mem_cons,List.not_mem_nil,or_false] at h
   rcases h with rfl | rfl
   ·rfl
   ·obtain ⟨a,c,e⟩:=am (hx x (List.mem_cons_self ..));rw [e]
    rfl
  ·exact jT l (fun p hp=>hx p (List.mem_cons_of_mem _ hp)) u h
def ly (B N:Nat) (v:Value):Prop:=∀ g off m c,v=.slice (some ⟨g,off,none⟩) m c→B≤g∧g < N
theorem dK {B B' N N':Nat} {v:Value} (h:ly B N v) (hb:B'≤B) (hn:N≤N'):ly B' N' v:=fun g o m c e=>⟨Nat.le_trans hb (h g o m c e).1,Nat.lt_of_lt_of_le (h g o m c e).2 hn⟩
theorem lF {w:World} {base size n:Nat} {e:TypeId} {v:Value} {xs:List Value} (h:w.ownsRow base e size v n xs):ly base w.heap.size v:=fun g o k c e1=>by
 rcases h.2 with ⟨rfl,-⟩ | ⟨g2,cap,cur,rfl,hb,-⟩
 ·cases e1
 ·cases e1;exact ⟨hb,(aJ h g rfl).2⟩
theorem gf (l:List Nd) (v:Value) (w:World) (hl:l.length≤1000) (hr:lu w v l) :
  Calls Tryz.prog 83 #[v] w fun e w'=>∃ u,e=.returned u∧lu w' u l∧Below w.heap.size w w'∧ly w.heap.size w'.heap.size u:=by
 obtain ⟨i0,hi,hz0,hz1,hz2⟩:=info_parts infoNd9;obtain ⟨hlen,hr⟩:=hr
 rcases hr with ⟨⟨ao,cap,rfl⟩,hn⟩ | ⟨g,off,cap,rfl,hle,hm,hgl,hcell⟩
 ·have hl0:l=[]:=List.eq_nil_of_length_eq_zero hn;subst hl0;clear hn hlen hl;cases ao with
  | none =>
   have en:=fun w=>eqlNodesNil2 w cap
   go_enter Tryz.func83,Tryz.ntmps83
   go_wp2_with fail
   go_ret
   exact ⟨_,rfl,⟨rfl,.inl ⟨⟨_,_,rfl⟩,rfl⟩⟩,Below.refl _ _,fun g o m c e=>by cases e⟩
  | some ad =>
   have en:=fun w=>jd w ad 0 cap
   have HO:Hid ((w.alloc (.cells #[] 153)).ownsRow w.heap.size 153 6 (.slice (some ⟨w.heap.size,0,none⟩) 0 0) 0 []):=by
    have h:=World.ownsRow_lit (base:=w.heap.size) (size:=6) (e:=153) w #[] 0 (Nat.le_refl _) (by decide) rfl;exact aa (by simpa using h)
   go_enter Tryz.func83,Tryz.ntmps83
   go_wp2_with (at_builtin;go_must (refine wpList_append_own _ rfl (.tmp 5) (.tmp 6) 26 rfl w.heap.size 153 i0 (.agg #[.int .i64 0,.int .i64 0,.int .i64 0,.int .i64 0,.int .i64 0,.int .i64 0]) 6 48 Tryz.underlying26 hi hz0 hz1 hz2 rfl (by decide) _ _ _ rfl HO.out ad 0 cap [] rfl rfl (fun j u hu=>by simp at hu) (fun u hu=>by simp at hu) (by decide) (by omega) (by first | (simp;done) | (simp;omega)) ?_))
   intro v' w3 ho3 hg3 _;have ho4:w3.ownsRow w.heap.size 153 6 v' 0 []:=by simpa using ho3
   have HO3:=aa ho4;have HB3:Hid (Below w.heap.size w w3):=((Below.refl _ _).alloc (Nat.le_refl _) _).grown hg3 (by simp) (fun k hk=>by have:=(HO.out.lt k hk).1;omega);clear ho3 hg3 ho4;obtain ⟨ao3,cap3,rfl⟩:=am (aD HO3.out);go_wp2_with fail
   go_ret
   exact ⟨_,rfl,aD HO3.out,HB3.out,lF HO3.out⟩
 ·have HC:=aa hcell;clear hcell;unfold maxLen at hm;have en:=fun w=>jd w ⟨g,off,none⟩ l.length cap
  have HO:Hid ((w.alloc (.cells #[] 153)).ownsRow w.heap.size 153 6 (.slice (some ⟨w.heap.size,0,none⟩) 0 0) 0 []):=by
   have h:=World.ownsRow_lit (base:=w.heap.size) (size:=6) (e:=153) w #[] 0 (Nat.le_refl _) (by decide) rfl;exact aa (by simpa using h)
  have HN:Hid (∀ j u,(f9 l)[j]?=some u→(w.alloc (.cells #[] 153)).cell? ((⟨g,off,none⟩:Addr).add j)=some u):=fun j u hu=>by
   have hj:j < l.length * 6:=by
    have:=(List.getElem?_eq_some_iff.1 hu).1
    rw [hlen] at this;exact this
   have h2:(w.alloc (.cells #[] 153)).cell? ⟨g,off+j,none⟩=w.cell? ⟨g,off+j,none⟩:=World.cell?_alloc_lt _ _ _ (by exact hgl);have h3:(⟨g,off,none⟩:Addr).add j=⟨g,off+j,none⟩:=by simp [Addr.add]
   rw [h3,h2,HC.out j hj,hu]
  have HL:=aa hlen;have HOC:=aa (rowN_oneE l);clear hlen
  go_enter Tryz.func83,Tryz.ntmps83
  go_wp2_with (at_builtin;go_must (refine wpList_append_own _ rfl (.tmp 5) (.tmp 6) 26 rfl w.heap.size 153 i0 (.agg #[.int .i64 0,.int .i64 0,.int .i64 0,.int .i64 0,.int .i64 0,.int .i64 0]) 6 48 Tryz.underlying26 hi hz0 hz1 hz2 rfl (by decide) _ _ _ rfl HO.out ⟨g,off,none⟩ l.length cap (f9 l) rfl HL.out HN.out HOC.out (by show _≤2 ^ 63 - 1;omega) (by omega) (by first | (simp;done) | (simp;omega)) ?_))
  intro v' w3 ho3 hg3 _;have ho4:w3.ownsRow w.heap.size 153 6 v' l.length (f9 l):=by simpa using ho3
  have HO3:=aa ho4;have HB3:Hid (Below w.heap.size w w3):=((Below.refl _ _).alloc (Nat.le_refl _) _).grown hg3 (by simp) (fun k hk=>by have:=(HO.out.lt k hk).1;omega);clear ho3 hg3 ho4;obtain ⟨ao3,cap3,rfl⟩:=am (aD HO3.out);go_wp2_with fail
  go_ret
  exact ⟨_,rfl,aD HO3.out,HB3.out,lF HO3.out⟩
theorem cloneAg_any (l:List (AgQ×Value)) (v:Value) (w:World) (hl:l.length≤1000) (h0:0 < l.length) (hr:bK w v 2 l.length (rowOf bz l)) (hn:∀ p∈l,lu w p.2 p.1.of) :
  Calls Tryz.prog 82 #[v] w fun e w'=>∃ u,e=.returned u∧w'.ownsRow w.heap.size 143 2 u l.length (rowOf bz l)∧Below w.heap.size w w':=by
 obtain ⟨i0,hi,hz0,hz1,hz2⟩:=info_parts infoAg9;have HOC:=aa (jT l hn);clear hn;obtain ⟨hlen,hr⟩:=hr
 rcases hr with ⟨-,hn⟩ | ⟨g,off,cap,rfl,hle,hm,hgl,hcell⟩
 ·omega
 ·have HC:=aa hcell;clear hcell;unfold maxLen at hm;have en:=fun w=>eqlAggsNil w ⟨g,off,none⟩ l.length cap
  have HO:Hid ((w.alloc (.cells #[] 143)).ownsRow w.heap.size 143 2 (.slice (some ⟨w.heap.size,0,none⟩) 0 0) 0 []):=by
   have h:=World.ownsRow_lit (base:=w.heap.size) (size:=2) (e:=143) w #[] 0 (Nat.le_refl _) (by decide) rfl;exact aa (by simpa using h)
  have HN:Hid (∀ j u,(rowOf bz l)[j]?=some u→(w.alloc (.cells #[] 143)).cell? ((⟨g,off,none⟩:Addr).add j)=some u):=fun j u hu=>by
   have hj:j < l.length * 2:=by
    have:=(List.getElem?_eq_some_iff.1 hu).1
    rw [hlen] at this;exact this
   have h2:(w.alloc (.cells #[] 143)).cell? ⟨g,off+j,none⟩=w.cell? ⟨g,off+j,none⟩:=World.cell?_alloc_lt _ _ _ (by exact hgl);have h3:(⟨g,off,none⟩:Addr).add j=⟨g,off+j,none⟩:=by simp [Addr.add]
   rw [h3,h2,HC.out j hj,hu]
  have HL:=aa hlen;clear hlen
  go_enter Tryz.func82,Tryz.ntmps82
  go_wp2_with (at_builtin;go_must (refine wpList_append_own _ rfl (.tmp 5) (.tmp 6) 25 rfl w.heap.size 143 i0 (.agg #[.int .i64 0,.slice none 0 0]) 2 32 Tryz.underlying25 hi hz0 hz1 hz2 rfl (by decide) _ _ _ rfl HO.out ⟨g,off,none⟩ l.length cap (rowOf bz l) rfl HL.out HN.out HOC.out (by show _≤2 ^ 63 - 1;omega) (by omega) (by first | (simp;done) | (simp;omega)) ?_))
  intro v' w3 ho3 hg3 _;have ho4:w3.ownsRow w.heap.size 143 2 v' l.length (rowOf bz l):=by simpa using ho3
  have HO3:=aa ho4;have HB3:Hid (Below w.heap.size w w3):=((Below.refl _ _).alloc (Nat.le_refl _) _).grown hg3 (by simp) (fun k hk=>by have:=(HO.out.lt k hk).1;omega);clear ho3 hg3 ho4;obtain ⟨ao3,cap3,rfl⟩:=am (aD HO3.out);go_wp2_with fail
  go_ret
  exact ⟨_,rfl,HO3.out,HB3.out⟩
end Go.Proofs.YtcgjflamgnjhcaaGreatDoor
