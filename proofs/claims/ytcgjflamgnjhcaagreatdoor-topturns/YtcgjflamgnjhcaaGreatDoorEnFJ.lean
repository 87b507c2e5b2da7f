/- Own texts in one. Conditions: as named in each. -/
import Derived.Test.YtcgjflamgnjhcaaGreatDoorEnEJ
import Derived.Test.YtcgjflamgnjhcaaGreatDoorPane8
import Derived.Test.YtcgjflamgnjhcaaGreatDoorChkQJ
import Derived.Test.YtcgjflamgnjhcaaGreatDoorBtBJ
set_option linter.unusedVariables false
set_option linter.unusedSimpArgs false
set_option maxRecDepth 100000
set_option maxHeartbeats 8000000
namespace Go.Proofs.YtcgjflamgnjhcaaGreatDoor
open Go.ChangeShapes Go.WideShapes Go.ChangeAt Go.RowKit
theorem eadd_r7 (Q:Exit→Act→World→Prop) (C7:Code) (h7:rgn 7 (Tryz.f47.body.getD .skip)=some C7) (t:List Value) (eb ob_ nb_ B n:Nat) (rdv ckv tv ltv e5 e6 e7 e8 e9 e10 e11:Value) (rva a1 a2:Option Addr) (rvc m1 c1 m2 c2:Nat) (x1 y1 z1 x2 y2 z2:Int) (xs:List Value) (w:World) (ht:t.length=69) (k0:t[0]?=some (.pointer (some ⟨eb,0,none⟩))) (k12:t[12]?=some (.pointer (some ⟨ob_,0,none⟩))) (k13:t[13]?=some (.pointer (some ⟨nb_,0,none⟩)))
  (BE:BlkAt w eb [rdv,ckv,tv,ltv,Value.slice rva n rvc,e5,e6,e7,e8,e9,e10,e11]) (BO:BlkAt w ob_ [Value.int .i64 x1,Value.int .i64 y1,Value.int .i64 z1,Value.slice a1 m1 c1]) (BN:BlkAt w nb_ [Value.int .i64 x2,Value.int .i64 y2,Value.int .i64 z2,Value.slice a2 m2 c2]) (OW:w.ownsRow B 80 5 (Value.slice rva n rvc) n xs) (hn:n≤1000000) (hB:B≤w.heap.size) (n1:(Value.slice rva n rvc).ownBlock≠some eb) (n2:(Value.slice rva n rvc).ownBlock≠some ob_) (n3:(Value.slice rva n rvc).ownBlock≠some nb_)
  (hpan:∀ c (a:Act) o v w,Q (.panic c) (a.put o v) w→Q (.panic c) a w)
  (hQ:∀ (t':List Value) (va:Option Addr) (vc:Nat) (w':World),t'.length=69→t'[0]?=some (.pointer (some ⟨eb,0,none⟩))→t'[12]?=some (.pointer (some ⟨ob_,0,none⟩))→t'[13]?=some (.pointer (some ⟨nb_,0,none⟩))→BlkAt w' eb [rdv,ckv,tv,ltv,Value.slice va (n+2) vc,e5,e6,e7,e8,e9,e10,e11]∧w'.ownsRow B 80 5 (.slice va (n+2) vc) (n+2) (xs++[.bool true,Value.int .i64 x1,Value.int .i64 y1,Value.int .i64 z1,Value.slice a1 m1 c1,.bool false,Value.int .i64 x2,Value.int .i64 y2,Value.int .i64 z2,Value.slice a2 m2 c2])∧((Value.slice va (n+2) vc).ownBlock=(Value.slice rva n rvc).ownBlock∨∃ k,(Value.slice va (n+2) vc).ownBlock=some k∧w.heap.size≤k)∧KeptB w w' (fun k=>k=eb∨(Value.slice rva n rvc).ownBlock=some k)→Q .normal { tmps:=t'.toArray,defers:=[] } w') :
  Code.wp Tryz.prog C7 Q { tmps:=t.toArray,defers:=[] } w:=by
 have HQ:=aa hQ;have HPN:=aa hpan;obtain ⟨i0,hi,hz0,hz1,hz2⟩:=info_parts infoRw9;have hd:Below w.heap.size w ({ w with drawn:=w.drawn+1 }:World):=(Below.refl _ _).drew;have hS:KeptB w ({ w with drawn:=w.drawn+1 }:World) (fun k=>(Value.slice rva n rvc).ownBlock=some k):=ae hd;have BEx:Hid (¬ (Value.slice rva n rvc).ownBlock=some eb):=n1;have BOx:Hid (¬ (Value.slice rva n rvc).ownBlock=some ob_):=n2;have BNx:Hid (¬ (Value.slice rva n rvc).ownBlock=some nb_):=n3;have BE:=aa BE;have BO:=aa BO;have BN:=aa BN;have OW:=aa OW;clear hQ hpan n1 n2 n3;obtain ⟨f,hf,hi⟩:=fN t ht;have e0:=am (hi 0 (by decide)) k0;have e12:=am (hi 12 (by decide)) k12;have e13:=am (hi 13 (by decide)) k13;rw [e0,e12,e13] at hf;clear hi ht k0 e0 k12 e12 k13 e13;subst hf;unfold Tryz.f47 at h7
 simp [rgn] at h7
 subst h7;refine aV (fun w'=>KeptB w w' (fun k=>(Value.slice rva n rvc).ownBlock=some k)) 13 (by kernel_rfl) ?_;generalize ({ w with drawn:=w.drawn+1 }:World)=wd at *;refine LT 0 (v:=.pointer (some ⟨eb,0,none⟩)) [11,12,13] rfl HPN.out (fun wq hq=>by go_simp) hS ?_;refine LT 1 (v:=.pointer (some ⟨eb,0,none⟩)) [2,3,4,10,13] rfl HPN.out (fun wq hq=>by go_simp) hS ?_;refine LT 2 (v:=.pointer (some ⟨eb,0,none⟩)) [3,4,10,13] rfl HPN.out (fun wq hq=>by go_simp) hS ?_;refine LT 3 (v:=.pointer (some ⟨eb,4,none⟩)) [4,10,13] rfl HPN.out (fun wq hq=>by go_simp) hS ?_;refine LT 4 (v:=Value.slice rva n rvc) [10,13] rfl HPN.out (fun wq hq=>by have K:=aI BE.out hq BEx.out;have q4:wq.cell? ⟨eb,4,none⟩=some (Value.slice rva n rvc):=K.c 4 (by simp);clear K;go_simp) hS ?_;refine LT 5 (v:=.agg #[Value.int .i64 x1,Value.int .i64 y1,Value.int .i64 z1,Value.slice a1 m1 c1]) [6,9,10,13] rfl HPN.out (fun wq hq=>by have K:=aI BO.out hq BOx.out;have q0:wq.cell? ⟨ob_,0,none⟩=some (Value.int .i64 x1):=K.c 0 (by simp);have q1:wq.cell? ⟨ob_,1,none⟩=some (Value.int .i64 y1):=K.c 1 (by simp);have q2:wq.cell? ⟨ob_,2,none⟩=some (Value.int .i64 z1):=K.c 2 (by simp);have q3:wq.cell? ⟨ob_,3,none⟩=some (Value.slice a1 m1 c1):=K.c 3 (by simp);clear K;go_simp) hS ?_;refine LT 6 (v:=.agg #[.bool true,Value.int .i64 x1,Value.int .i64 y1,Value.int .i64 z1,Value.slice a1 m1 c1]) [9,10,13] rfl HPN.out (fun wq hq=>by go_simp) hS ?_;refine LT 7 (v:=.agg #[Value.int .i64 x2,Value.int .i64 y2,Value.int .i64 z2,Value.slice a2 m2 c2]) [8,9,10,13] rfl HPN.out (fun wq hq=>by have K:=aI BN.out hq BNx.out;have q0:wq.cell? ⟨nb_,0,none⟩=some (Value.int .i64 x2):=K.c 0 (by simp);have q1:wq.cell? ⟨nb_,1,none⟩=some (Value.int .i64 y2):=K.c 1 (by simp);have q2:wq.cell? ⟨nb_,2,none⟩=some (Value.int .i64 z2):=K.c 2 (by simp);have q3:wq.cell? ⟨nb_,3,none⟩=some (Value.slice a2 m2 c2):=K.c 3 (by simp);clear K;go_simp) hS ?_;refine LT 8 (v:=.agg #[.bool false,Value.int .i64 x2,Value.int .i64 y2,Value.int .i64 z2,Value.slice a2 m2 c2]) [9,10,13] rfl HPN.out (fun wq hq=>by go_simp) hS ?_;refine LG 9 rfl ?_;intro K' hK;refine op_build_two 67 80 (.tmp 62) (.tmp 64) rfl [.bool true,Value.int .i64 x1,Value.int .i64 y1,Value.int .i64 z1,Value.slice a1 m1 c1] [.bool false,Value.int .i64 x2,Value.int .i64 y2,Value.int .i64 z2,Value.slice a2 m2 c2] 5 (by kernel_rfl) (by kernel_rfl) i0 _ Tryz.underlying67 hi hz0 hz1 rfl rfl (by decide) (by decide) ?_;have hS1:=af hS (ae (bad:=fun k=>(Value.slice rva n rvc).ownBlock=some k) (aj wd (.cells ([.bool true,Value.int .i64 x1,Value.int .i64 y1,Value.int .i64 z1,Value.slice a1 m1 c1]++[.bool false,Value.int .i64 x2,Value.int .i64 y2,Value.int .i64 z2,Value.slice a2 m2 c2]:List Value).toArray 80)));have BZ:=aa (az wd [.bool true,Value.int .i64 x1,Value.int .i64 y1,Value.int .i64 z1,Value.slice a1 m1 c1,.bool false,Value.int .i64 x2,Value.int .i64 y2,Value.int .i64 z2,Value.slice a2 m2 c2] 80)
 have OW1:=aa ((aC OW.out hd (Nat.le_refl _)).alloc (.cells ([.bool true,Value.int .i64 x1,Value.int .i64 y1,Value.int .i64 z1,Value.slice a1 m1 c1]++[.bool false,Value.int .i64 x2,Value.int .i64 y2,Value.int .i64 z2,Value.slice a2 m2 c2]:List Value).toArray 80));have hzd:=hd.size;refine hK _ _ ⟨fun _=>hS1,?_⟩;clear hK;refine LG 10 rfl ?_;intro K' hK;refine cN (.tmp 60) (.tmp 65) 67 rfl B 80 i0 _ 5 56 Tryz.underlying67 hi hz0 hz1 hz2 (by kernel_rfl) (by decide) (Value.slice rva n rvc) n xs (by kernel_rfl) OW1.out ⟨wd.heap.size,0,none⟩ 2 2 [.bool true,Value.int .i64 x1,Value.int .i64 y1,Value.int .i64 z1,Value.slice a1 m1 c1,.bool false,Value.int .i64 x2,Value.int .i64 y2,Value.int .i64 z2,Value.slice a2 m2 c2] (by kernel_rfl) rfl (fun j u hu=>by rw [jW,Nat.zero_add];exact (BZ.out.c j (List.getElem?_eq_some_iff.1 hu).1).trans hu) (by simp [Value.oneCell']) (by show _≤2 ^ 63 - 1;omega) (by omega) (by simp;omega) ?_;intro v' w5 ho hg hob;obtain ⟨va,vc,rfl⟩:=ax ho;have hS5:=cV hS1 hg (fun k hk _=>hk);have HO:=aa ho;have hob2:=hob;have hsz5:wd.heap.size≤(wd.alloc (.cells ([.bool true,Value.int .i64 x1,Value.int .i64 y1,Value.int .i64 z1,Value.slice a1 m1 c1]++[.bool false,Value.int .i64 x2,Value.int .i64 y2,Value.int .i64 z2,Value.slice a2 m2 c2]:List Value).toArray 80)).heap.size:=by simp
 have HB9:=aa hob;refine hK _ _ ⟨fun _=>hS5,?_⟩;clear hK ho hg hob hob2;refine LT 11 (v:=.pointer (some ⟨eb,0,none⟩)) [12,13] rfl HPN.out (fun wq hq=>by go_simp) hS5 ?_;refine LT 12 (v:=.pointer (some ⟨eb,4,none⟩)) [13] rfl HPN.out (fun wq hq=>by go_simp) hS5 ?_;refine LG 13 rfl ?_;intro K' hK;have BE5:=aa (aI BE.out hS5 BEx.out);have q4:w5.cell? ⟨eb,4,none⟩=some (Value.slice rva n rvc):=BE5.out.c 4 (by simp);have f4:=BE5.out.fz 4;have l4:=BE5.out.lt;go_simp;refine hK _ _ ⟨fun h=>absurd rfl h,?_⟩;clear hK;refine bI (by kernel_rfl) ?_ _;have BE6:=ay BE5.out 4 (.slice va (n+2) vc) (by simp);have hobx:(Value.slice va (n+2) vc).ownBlock=(Value.slice rva n rvc).ownBlock∨∃ k,(Value.slice va (n+2) vc).ownBlock=some k∧w.heap.size≤k:=by
  rcases HB9.out with e | e
  ·exact .inl e
  ·exact .inr ⟨_,e,by have:=hd.size;simp;omega⟩
 have hne9:∀ k,(Value.slice va (n+2) vc).ownBlock=some k→k≠eb:=fun k hk e=>by
  subst e
  rcases hobx with e | ⟨k2,e,hk2⟩
  ·exact BEx.out (by rw [← e];exact hk)
  ·rw [e] at hk;cases hk
   have:=BE.out.lt
   omega
 exact HQ.out _ va vc _ rfl rfl rfl rfl ⟨by simpa using BE6,bg HO.out (ah (ae (bad:=fun k=>k=eb) (Below.refl _ _)) (g:=eb) rfl 4 (.slice va (n+2) vc)) (fun k hk e=>hne9 k hk e),hobx,ah (cW hS5 (fun k e=>.inr e)) (g:=eb) (.inl rfl) 4 (.slice va (n+2) vc)⟩
theorem drop1_any (p:Pn) (b1 b2:Nat) (size upto:Int) (w:World) (h1:-100000≤p.st) (h2:p.st≤100000) (h3:1≤size) (h4:size≤100000) (hs:∃ ao n cap,p.av=.slice ao n cap)
  (c1:w.cell? ⟨b1,0,none⟩=some (.int .i64 size)) (c2:w.cell? ⟨b2,0,none⟩=some (.int .i64 upto)) (l1:b1 < w.heap.size) (l2:b2 < w.heap.size) :
  Calls Tryz.prog 130 #[eJ p,.pointer (some ⟨b1,0,none⟩),.pointer (some ⟨b2,0,none⟩)] w fun e w'=>e=.returned (.bool (decide (p.st+size≤upto)))∧Below w.heap.size w w':=by
 have hA:=(Below.refl w.heap.size w).alloc (Nat.le_refl _) (.cells #[.int .i64 p.st,.int .i64 p.k,.int .i64 p.n,p.av,.bool p.told] 84);have EN:=aa (nc p size upto (w.alloc (.cells #[.int .i64 p.st,.int .i64 p.k,.int .i64 p.n,p.av,.bool p.told] 84)) h1 h2 h3 h4 hs);obtain ⟨st,k,n,told,ac,av⟩:=p;obtain ⟨ao,m,cap,hav⟩:=hs
 simp only at hav
 subst hav;unfold eJ at EN ⊢
 simp only at EN hA ⊢
 have d1:=hA.cell (p:=⟨b1,0,none⟩) l1;have d2:=hA.cell (p:=⟨b2,0,none⟩) l2;rw [c1] at d1;rw [c2] at d2;have HA:=aa hA;clear hA h1 h2 h3 h4
 go_enter Tryz.func130,Tryz.ntmps130
 go_wp2_with fail;refine EN.out.mono ?_;rintro e w1 ⟨rfl,hb⟩;have HB:=nxt HA hb;clear hb HA EN d1 d2;go_wp2_with fail
 go_ret
 exact ⟨rfl,HB.out⟩
theorem index_any (ps:List Pn) (c:Pn→Bool) (p1 p2:Value) (ao:Option Addr) (cap:Nat) (w:World) (hl:ps.length≤1000) (hr:bT w (.slice ao ps.length cap) 5 ps.length (rowOf aG ps)) (hs:∀ p∈ps,∃ ao n cap,p.av=.slice ao n cap)
  (hc:∀ p∈ps,∀ w',Below w.heap.size w w'→Calls Tryz.prog 130 #[eJ p,p1,p2] w' fun e w''=>e=.returned (.bool (c p))∧Below w'.heap.size w' w'') :
  Calls Tryz.prog 90 #[.slice ao ps.length cap,.func (.func 130) #[] #[p1,p2]] w fun e w'=>(∃ i,i < ps.length∧(∀ q p,q < i→ps[q]?=some p→c p=false)∧(∀ p,ps[i]?=some p→c p=true)∧e=.returned (.int .i64 (i:Nat))∧Below w.heap.size w w')∨((∀ p∈ps,c p=false)∧e=.returned (.int .i64 (-1))∧Below w.heap.size w w'):=by
 have HR:=aa hr;have HS:=aa hs;have HC:=aa hc;clear hr hs hc
 go_enter Tryz.func90,Tryz.ntmps90
 go_wp2_with fail
 go_loopw [8] (fun i wr=>∃ m:Nat,m≤ps.length∧i=.int .i64 m∧Hid (∀ q p,q < m→ps[q]?=some p→c p=false)∧Hid (Below w.heap.size w wr)) (fun i _=>ps.length - (intOf i).toNat)
 case atStart=>exact ⟨0,Nat.zero_le _,rfl,fun q p hq=>absurd hq (by omega),Below.refl _ _⟩
 case round =>
  obtain ⟨m,hm,rfl,HM,HB⟩:=hrel
  by_cases hlt:m < ps.length
  ·obtain ⟨g,off,rfl,hcell,q1,q2,lg⟩:=bA aW (aA HR.out HB.out) m hlt;have CP:=aa (HC.out ps[m] (List.getElem_mem hlt));obtain ⟨ap,np,cp,hav⟩:=HS.out ps[m] (List.getElem_mem hlt);have HP:Hid (ps[m]?=some ps[m]):=List.getElem?_eq_getElem hlt;generalize ps[m]=p at *;obtain ⟨x1,x2,x3,x4,x5,x6⟩:=p
   simp only at hav
   subst hav;have y0:wr.cell? ⟨g,off+m * 5,none⟩=some (.int .i64 x1):=hcell 0 (by omega);have y1:wr.cell? ⟨g,off+m * 5+1,none⟩=some (.int .i64 x2):=hcell 1 (by omega);have y2:wr.cell? ⟨g,off+m * 5+2,none⟩=some (.int .i64 x3):=hcell 2 (by omega);have y3:wr.cell? ⟨g,off+m * 5+3,none⟩=some (.slice ap np cp):=hcell 3 (by omega);have y4:wr.cell? ⟨g,off+m * 5+4,none⟩=some (.bool x4):=hcell 4 (by omega);unfold eJ at CP
   simp only at CP
   unfold maxLen at q2;generalize hcx:c ⟨x1,x2,x3,x4,x5,.slice ap np cp⟩=r at *;have HCX:=aa hcx;clear hcell hcx;go_wp2_with fail;refine (CP.out _ HB.out).mono ?_;rintro e w2 ⟨rfl,hb⟩;have HB2:=nxt HB hb;clear hb HB y0 y1 y2 y3 y4;cases r with
   | true =>
    go_wp2_with fail
    go_ret
    refine .inl ⟨m,hlt,HM.out,fun p hp=>?_,rfl,HB2.out⟩;rw [HP.out] at hp;cases hp;exact HCX.out
   | false =>
    go_wp2_with fail;go_roundw
    case rel=>exact ⟨m+1,by omega,by go_num,fun q p hq hp=>by
      by_cases h9:q=m
      ·subst h9;rw [HP.out] at hp;cases hp;exact HCX.out
      ·exact HM.out q p (by omega) hp,HB2⟩
    case measure=>simp [intOf];omega
  ·have hme:m=ps.length:=by omega
   subst hme;go_wp2_with fail
   go_ret
   refine .inr ⟨fun p hp=>?_,rfl,HB.out⟩;obtain ⟨q,hq,rfl⟩:=List.mem_iff_getElem.1 hp;exact HM.out q _ hq (List.getElem?_eq_getElem hq)
end Go.Proofs.YtcgjflamgnjhcaaGreatDoor
namespace Go.Proofs.YtcgjflamgnjhcaaGreatDoor
open Go.ChangeShapes Go.WideShapes Go.ChangeAt Go.RowKit
attribute [local go_sem ↓] cI cD
theorem equalVals_any (l m9:List V2) (u v:Value) (w:World) (hl:l.length≤1000) (hlm:m9.length=l.length) (hu:bT w u 2 l.length (cB l)) (hv:bT w v 2 m9.length (cB m9)) :
  Calls Tryz.prog 93 #[u,v] w fun e w'=>e=.returned (.bool (decide (l=m9)))∧Below w.heap.size w w':=by
 obtain ⟨au,cu,rfl⟩:=aq hu;obtain ⟨av,cv,rfl⟩:=aq hv;have HU:=aa hu;have HV:=aa hv;have kn:=bG w;obtain ⟨kc,kf⟩:=bn w;have bne:((l.length:Int) != (l.length:Int))=false:=by simp
 have HT:Hid (l=m9→decide (l=m9)=true):=fun e=>decide_eq_true e
 have HF:Hid (∀ i (h1:i < l.length) (h2:i < m9.length),l[i]≠m9[i]→decide (l=m9)=false):=fun i h1 h2 hn=>decide_eq_false fun e=>hn (by subst e;rfl)
 have HLM:=aa hlm;rw [hlm];generalize decide (l=m9)=b at *;clear hu hv hlm
 go_enter Tryz.func93,Tryz.ntmps93
 go_wp2_with fail
 go_loopw [13] (fun i wr=>∃ m:Nat,m≤l.length∧i=.int .i64 m∧Hid (∀ i (h1:i < l.length) (h2:i < m9.length),i < m→l[i]=m9[i])∧Hid (Below w.heap.size w wr)) (fun i _=>l.length - (intOf i).toNat)
 case atStart=>exact ⟨0,Nat.zero_le _,rfl,fun i _ _ h=>absurd h (by omega),Below.refl _ _⟩
 case round =>
  obtain ⟨m,hm,rfl,HM,HW⟩:=hrel
  by_cases hlt:m < l.length
  ·have hlt2:m < m9.length:=by rw [HLM.out];exact hlt
   obtain ⟨g1,o1,rfl,e0,e1,p1,p2,p3⟩:=fJ HU.out m hlt;obtain ⟨g2,o2,rfl,f0,f1,q1,q2,q3⟩:=fJ HV.out m hlt2;have HEQ:Hid (l[m]=m9[m]→∀ i (h1:i < l.length) (h2:i < m9.length),i < m+1→l[i]=m9[i]):=fun he i h1 h2 hi=>by
    by_cases h9:i=m
    ·subst h9;exact he
    ·exact HM.out i h1 h2 (by omega)
   have HNE:=aa (HF.out m hlt hlt2);clear HM;generalize l[m]=x at *;generalize m9[m]=y at *;obtain ⟨x1,x2⟩:=x;obtain ⟨y1,y2⟩:=y
   simp only at e0 e1 f0 f1
   unfold maxLen at p2 q2;rw [HLM.out] at q1
   by_cases hxy:x1=y1∧x2=y2
   ·obtain ⟨rfl,rfl⟩:=hxy;have HE2:=aa (HEQ.out rfl);have z9:(x1 == x1 && x2 == x2)=true:=by simp
    clear HEQ HNE;go_wp2_with fail;refine aD HW (by kernel_rfl) (by kernel_rfl) ?_
    repeat (go_big_quiet_step (fail))
    refine wpQuiet_nil ?_;rintro _ ⟨pk,rfl⟩;have HP:=aa pk.h;generalize pk.w=wp at *;clear HW;go_wp2_with fail;go_roundw
    case rel=>exact ⟨m+1,by omega,by go_num,HE2,HP⟩
    case measure=>simp [intOf];omega
   ·have z9:(x1 == y1 && x2 == y2)=false:=by
     cases h8:(x1 == y1 && x2 == y2) with
     | false=>rfl
     | true =>
      simp only [Bool.and_eq_true,beq_iff_eq] at h8;exact absurd h8 hxy
    have hb:b=false:=HNE.out (fun e=>hxy (by
     simp only [Prod.mk.injEq] at e;exact e))
    subst hb;clear HEQ HNE hxy;go_wp2_with fail;refine aD HW (by kernel_rfl) (by kernel_rfl) ?_
    repeat (go_big_quiet_step (fail))
    refine wpQuiet_nil ?_;rintro _ ⟨pk,rfl⟩;have HP:=aa pk.h;generalize pk.w=wp at *;clear HW;go_wp2_with fail
    go_ret
    exact ⟨rfl,HP.out⟩
  ·have hml:m=l.length:=by omega
   subst hml;have hb:b=true:=HT.out (List.ext_getElem HLM.out.symm fun i h1 h2=>HM.out i h1 h2 h1);subst hb;go_wp2_with fail
   go_ret
   exact ⟨rfl,HW.out⟩
theorem add1_any (p:Pn) (wb:Nat) (st k n:Int) (w:World) (hs:∃ ao n cap,p.av=.slice ao n cap)
  (c0:w.cell? ⟨wb,0,none⟩=some (.int .i64 st)) (c1:w.cell? ⟨wb,1,none⟩=some (.int .i64 k)) (c2:w.cell? ⟨wb,2,none⟩=some (.int .i64 n)) (lb:wb < w.heap.size) :
  Calls Tryz.prog 91 #[eJ p,.pointer (some ⟨wb,0,none⟩)] w fun e w'=>e=.returned (.bool (decide (p.st=st∧p.k=k∧p.n=n)))∧Below w.heap.size w w':=by
 obtain ⟨ps,pk,pn,told,ac,av⟩:=p;obtain ⟨ao,m,cap,hav⟩:=hs
 simp only at hav
 subst hav;have hA:=(Below.refl w.heap.size w).alloc (Nat.le_refl _) (.cells #[.int .i64 ps,.int .i64 pk,.int .i64 pn,.slice ao m cap,.bool told] 84);have d0:=hA.cell (p:=⟨wb,0,none⟩) lb;have d1:=hA.cell (p:=⟨wb,1,none⟩) lb;have d2:=hA.cell (p:=⟨wb,2,none⟩) lb;rw [c0] at d0;rw [c1] at d1;rw [c2] at d2;have HA:=aa hA;clear hA c0 c1 c2;unfold eJ
 simp only
 by_cases h1:ps=st
 ·by_cases h2:pk=k∧pn=n
  ·have e:decide (ps=st∧pk=k∧pn=n)=true:=decide_eq_true ⟨h1,h2.1,h2.2⟩;rw [e];obtain ⟨h2,h3⟩:=h2;subst h1 h2 h3;clear e
   go_enter Tryz.func91,Tryz.ntmps91
   go_wp2_with fail
   go_ret
   exact ⟨rfl,HA.out⟩
  ·have e:decide (ps=st∧pk=k∧pn=n)=false:=decide_eq_false fun h=>h2 h.2
   rw [e];subst h1;have e9:((pk == k) && (pn == n))=false:=by
    cases h8:(pk == k) && (pn == n) with
    | false=>rfl
    | true =>
     simp only [Bool.and_eq_true,beq_iff_eq] at h8;exact absurd h8 h2
   clear e h2
   go_enter Tryz.func91,Tryz.ntmps91
   go_wp2_with fail
   go_ret
   exact ⟨rfl,HA.out⟩
 ·have e:decide (ps=st∧pk=k∧pn=n)=false:=decide_eq_false fun h=>h1 h.1
  rw [e];have e9:(ps == st)=false:=by simp [h1]
  clear e h1
  go_enter Tryz.func91,Tryz.ntmps91
  go_wp2_with fail
  go_ret
  exact ⟨rfl,HA.out⟩
theorem indexAdd_any (ps:List Pn) (c:Pn→Bool) (p1:Value) (ao:Option Addr) (cap:Nat) (w:World) (hl:ps.length≤1000) (hr:bT w (.slice ao ps.length cap) 5 ps.length (rowOf aG ps)) (hs:∀ p∈ps,∃ ao n cap,p.av=.slice ao n cap)
  (hc:∀ p∈ps,∀ w',Below w.heap.size w w'→Calls Tryz.prog 91 #[eJ p,p1] w' fun e w''=>e=.returned (.bool (c p))∧Below w'.heap.size w' w'') :
  Calls Tryz.prog 90 #[.slice ao ps.length cap,.func (.func 91) #[] #[p1]] w fun e w'=>(∃ i,i < ps.length∧(∀ q p,q < i→ps[q]?=some p→c p=false)∧(∀ p,ps[i]?=some p→c p=true)∧e=.returned (.int .i64 (i:Nat))∧Below w.heap.size w w')∨((∀ p∈ps,c p=false)∧e=.returned (.int .i64 (-1))∧Below w.heap.size w w'):=by
 have HR:=aa hr;have HS:=aa hs;have HC:=aa hc;clear hr hs hc
 go_enter Tryz.func90,Tryz.ntmps90
 go_wp2_with fail
 go_loopw [8] (fun i wr=>∃ m:Nat,m≤ps.length∧i=.int .i64 m∧Hid (∀ q p,q < m→ps[q]?=some p→c p=false)∧Hid (Below w.heap.size w wr)) (fun i _=>ps.length - (intOf i).toNat)
 case atStart=>exact ⟨0,Nat.zero_le _,rfl,fun q p hq=>absurd hq (by omega),Below.refl _ _⟩
 case round =>
  obtain ⟨m,hm,rfl,HM,HB⟩:=hrel
  by_cases hlt:m < ps.length
  ·obtain ⟨g,off,rfl,hcell,q1,q2,lg⟩:=bA aW (aA HR.out HB.out) m hlt;have CP:=aa (HC.out ps[m] (List.getElem_mem hlt));obtain ⟨ap,np,cp,hav⟩:=HS.out ps[m] (List.getElem_mem hlt);have HP:Hid (ps[m]?=some ps[m]):=List.getElem?_eq_getElem hlt;generalize ps[m]=p at *;obtain ⟨x1,x2,x3,x4,x5,x6⟩:=p
   simp only at hav
   subst hav;have y0:wr.cell? ⟨g,off+m * 5,none⟩=some (.int .i64 x1):=hcell 0 (by omega);have y1:wr.cell? ⟨g,off+m * 5+1,none⟩=some (.int .i64 x2):=hcell 1 (by omega);have y2:wr.cell? ⟨g,off+m * 5+2,none⟩=some (.int .i64 x3):=hcell 2 (by omega);have y3:wr.cell? ⟨g,off+m * 5+3,none⟩=some (.slice ap np cp):=hcell 3 (by omega);have y4:wr.cell? ⟨g,off+m * 5+4,none⟩=some (.bool x4):=hcell 4 (by omega);unfold eJ at CP
   simp only at CP
   unfold maxLen at q2;generalize hcx:c ⟨x1,x2,x3,x4,x5,.slice ap np cp⟩=r at *;have HCX:=aa hcx;clear hcell hcx;go_wp2_with fail;refine (CP.out _ HB.out).mono ?_;rintro e w2 ⟨rfl,hb⟩;have HB2:=nxt HB hb;clear hb HB y0 y1 y2 y3 y4;cases r with
   | true =>
    go_wp2_with fail
    go_ret
    refine .inl ⟨m,hlt,HM.out,fun p hp=>?_,rfl,HB2.out⟩;rw [HP.out] at hp;cases hp;exact HCX.out
   | false =>
    go_wp2_with fail;go_roundw
    case rel=>exact ⟨m+1,by omega,by go_num,fun q p hq hp=>by
      by_cases h9:q=m
      ·subst h9;rw [HP.out] at hp;cases hp;exact HCX.out
      ·exact HM.out q p (by omega) hp,HB2⟩
    case measure=>simp [intOf];omega
  ·have hme:m=ps.length:=by omega
   subst hme;go_wp2_with fail
   go_ret
   refine .inr ⟨fun p hp=>?_,rfl,HB.out⟩;obtain ⟨q,hq,rfl⟩:=List.mem_iff_getElem.1 hp;exact HM.out q _ hq (List.getElem?_eq_getElem hq)
end Go.Proofs.YtcgjflamgnjhcaaGreatDoor
namespace Go.Proofs.YtcgjflamgnjhcaaGreatDoor
open Go.ChangeShapes Go.WideShapes Go.ChangeAt Go.RowKit
structure PutE (R:List Ct→Option Nat→World→Prop) (G:Int→Prop) (eb:Nat) (n:Nat) (p:Value):Prop where
 below:∀ cs rb w w',R cs rb w→Below w.heap.size w w'→R cs rb w'
 at_:∀ cs rb w,R cs rb w→∀ k,(k=eb∨rb=some k)→k < w.heap.size
 put:∀ cs rb (c:Ct) (vv:Value) w,R cs rb w→cs.length < 9→-1000≤c.st∧c.st≤9999→G c.st→c.vs.length=n→bT w vv 2 c.vs.length (cB c.vs)→Calls Tryz.prog 47 #[p,.int .i64 c.st,.agg #[.int .i64 c.key.1,.int .i64 c.key.2],vv] w fun e w'=>e=.returned (.tuple #[])∧∃ rb',R (cs++[c]) rb' w'∧(rb'=rb∨∃ k,rb'=some k∧w.heap.size≤k)∧KeptB w w' (fun k=>k=eb∨rb=some k)
theorem qf {a b c:World} {eb:Nat} {rb rb1:Option Nat} (h:KeptB a b (fun k=>k=eb∨rb=some k)) (k:KeptB b c (fun k=>k=eb∨rb1=some k)) (hr:rb1=rb∨∃ j,rb1=some j∧a.heap.size≤j):KeptB a c (fun k=>k=eb∨rb=some k) :=
 ⟨h.b0.trans k.b0,fun i hi hn=>(k.block i (Nat.lt_of_lt_of_le hi h.b0.size) (fun e=>by
  rcases e with e | e
  ·exact hn (.inl e)
  ·rcases hr with e9 | ⟨j,e9,hj⟩
   ·exact hn (.inr (by rw [← e9];exact e))
   ·rw [e9] at e;cases e;omega)).trans (h.block i hi hn)⟩
theorem rbE {x y z:Nat} {rb rb1 rb2:Option Nat} (h1:rb1=rb∨∃ j,rb1=some j∧x≤j) (h2:rb2=rb1∨∃ j,rb2=some j∧y≤j) (hxy:x≤y):rb2=rb∨∃ j,rb2=some j∧x≤j:=by
 rcases h2 with e | ⟨j,e,hj⟩
 ·rw [e];exact h1
 ·exact .inr ⟨j,e,by omega⟩
theorem etakeE_any (R:List Ct→Option Nat→World→Prop) (G:Int→Prop) (eb:Nat) (rb:Option Nat) (va vw vb:Value) (q:Qy) (ps:List (AgQ×Value)) (x:Ev) (upto:Int) (known:Bool) (p:Value) (cs:List Ct) (W:World) (h:QyG W va vw vb q ps) (h4:ps.length≤4) (hn:QyN q) (hx:∀ p∈evX x,okV p)
  (hW:nY x.t q.size q.slide) (hl0:0≤q.late) (hl1:q.late≤1000) (hP:PutE R G eb ps.length p) (hG:∀ st,fx q upto known st=false→G st) (hR:R cs rb W) (hcs:cs.length≤4) :
  Calls Tryz.prog 46 #[qyV va vw vb q,ei x,.int .i64 upto,.bool known,.func (.func 47) #[p] #[]] W fun e w'=>e=.returned (.int .i64 (takeN q x upto known:Nat))∧∃ rb',R (cs++takeC q x upto known) rb' w'∧(rb'=rb∨∃ k,rb'=some k∧W.heap.size≤k)∧KeptB W w' (fun k=>k=eb∨rb=some k):=by
 have hbad:=hP.at_ cs rb W hR;have HG9:=aa hG;clear hG;unfold qyV;obtain ⟨ao,cap,rfl⟩:=aq h.ag.row;obtain ⟨a2,c2,rfl⟩:=aq h.wh;obtain ⟨a3,c3,rfl⟩:=aq h.by_;have ba:=lF W (.cells #[.slice ao ps.length cap,.slice a2 q.wh.length c2,.slice a3 q.bys.length c3,.int .i64 q.size,.int .i64 q.slide,.int .i64 q.delay,.int .i64 q.late] 28) (.cells #[.int .i64 x.t,.int .i64 x.k1,.int .i64 x.k2,.int .i64 x.a1,.int .i64 x.a2,.int .i64 x.b1,.int .i64 x.b2] 43);have BQ:=aa (ai (az W [.slice ao ps.length cap,.slice a2 q.wh.length c2,.slice a3 q.bys.length c3,.int .i64 q.size,.int .i64 q.slide,.int .i64 q.delay,.int .i64 q.late] 28) (aj (W.alloc (.cells #[.slice ao ps.length cap,.slice a2 q.wh.length c2,.slice a3 q.bys.length c3,.int .i64 q.size,.int .i64 q.slide,.int .i64 q.delay,.int .i64 q.late] 28)) (.cells #[.int .i64 x.t,.int .i64 x.k1,.int .i64 x.k2,.int .i64 x.a1,.int .i64 x.a2,.int .i64 x.b1,.int .i64 x.b2] 43)) (by simp));have BX:=aa (az (W.alloc (.cells #[.slice ao ps.length cap,.slice a2 q.wh.length c2,.slice a3 q.bys.length c3,.int .i64 q.size,.int .i64 q.slide,.int .i64 q.delay,.int .i64 q.late] 28)) [.int .i64 x.t,.int .i64 x.k1,.int .i64 x.k2,.int .i64 x.a1,.int .i64 x.a2,.int .i64 x.b1,.int .i64 x.b2] 43);rw [show (W.alloc (.cells #[.slice ao ps.length cap,.slice a2 q.wh.length c2,.slice a3 q.bys.length c3,.int .i64 q.size,.int .i64 q.slide,.int .i64 q.delay,.int .i64 q.late] 28)).heap.size=W.heap.size+1 from by simp] at BX;have AK:=aa (asked_q (.slice ao ps.length cap) (.slice a2 q.wh.length c2) (.slice a3 q.bys.length c3) q ps x _ (bf h ba) hn hx);have HG:=aa (bf h ba);have HQA:=aa h.qa;have HBA:=aa ba;have HR:=aa (hP.below cs rb _ _ hR ba);have HP:=aa hP;have HN:=aa hn;have HX:=aa hx;have HW:=aa hW;obtain ⟨ws,hws⟩:∃ ws,nU x.t q.size q.slide=ws:=⟨_,rfl⟩;have HST:Hid (∀ w,Calls Tryz.prog 89 #[.int .i64 x.t,.int .i64 q.size,.int .i64 q.slide] w fun e w'=>∃ u,e=.returned u∧w'.ownsRow w.heap.size 3 1 u ws.length (ws.map (Value.int .i64))∧Below w.heap.size w w'):=fun w=>by
  rw [← hws];exact starts_any x.t q.size q.slide w hW
 have HIN:Hid (∀ st∈ws,-1000≤st∧st≤9999):=by
  rw [← hws];exact oN hW
 have HLEN:ws.length≤4:=by
  rw [← hws];exact nx hW
 have HT:Hid (∀ b,askQ q x=b→takeN q x upto known=(if b then gN q upto known ws else 0)∧takeC q x upto known=(if b then kJ q x upto known ws else [])):=fun b hb=>by
  unfold takeN takeC;rw [hb,hws];exact ⟨rfl,rfl⟩
 generalize askQ q x=b at *;generalize takeN q x upto known=N at *;generalize takeC q x upto known=C at *;unfold qyV ei at AK;unfold ei;have HBAD:=aa hbad;obtain ⟨k1,k2,hk⟩:∃ k1 k2,qq q x=(k1,k2):=⟨_,_,rfl⟩;have HK:=aa hk;clear h hn hx hW hP hR ba hbad hk hws;cases b with
 | false =>
  obtain ⟨e1,e2⟩:=HT.out false rfl;rw [if_neg (by decide)] at e1 e2;subst e1 e2
  go_enter Tryz.func46,Tryz.ntmps46
  go_wp2_with fail;refine AK.out.mono ?_;rintro e w1 ⟨rfl,hb⟩;have HR1:=HP.out.below _ _ _ _ HR.out hb;have HB1:=nxt HBA hb;clear hb HR AK HG;go_wp2_with fail
  go_ret
  exact ⟨rfl,rb,by simpa using HR1,.inl rfl,ae HB1.out⟩
 | true =>
  obtain ⟨e1,e2⟩:=HT.out true rfl;rw [if_pos rfl] at e1 e2;subst e1 e2;clear HT;have hqb:W.heap.size < ((W.alloc (.cells #[.slice ao ps.length cap,.slice a2 q.wh.length c2,.slice a3 q.bys.length c3,.int .i64 q.size,.int .i64 q.slide,.int .i64 q.delay,.int .i64 q.late] 28)).alloc (.cells #[.int .i64 x.t,.int .i64 x.k1,.int .i64 x.k2,.int .i64 x.a1,.int .i64 x.a2,.int .i64 x.b1,.int .i64 x.b2] 43)).heap.size:=BQ.out.lt;have hxb:W.heap.size+1 < ((W.alloc (.cells #[.slice ao ps.length cap,.slice a2 q.wh.length c2,.slice a3 q.bys.length c3,.int .i64 q.size,.int .i64 q.slide,.int .i64 q.delay,.int .i64 q.late] 28)).alloc (.cells #[.int .i64 x.t,.int .i64 x.k1,.int .i64 x.k2,.int .i64 x.a1,.int .i64 x.a2,.int .i64 x.b1,.int .i64 x.b2] 43)).heap.size:=BX.out.lt
  go_enter Tryz.func46,Tryz.ntmps46
  go_wp2_with fail;refine AK.out.mono ?_;rintro e w1 ⟨rfl,hb⟩;have HR1:=aa (HP.out.below _ _ _ _ HR.out hb);have HB1:=nxt HBA hb;have BQ1:=aa (ai BQ.out hb BQ.out.lt);have BX1:=aa (ai BX.out hb BX.out.lt);have HG1:=aa (bf HG.out hb);clear hb HR AK HG BQ BX;go_wp2_with fail;have PNH:=aa (@eX Tryz.prog Tryz.f46 (fun e w'=>e=.returned (.int .i64 (gN q upto known ws:Nat))∧∃ rb',R (cs++kJ q x upto known ws) rb' w'∧(rb'=rb∨∃ k,rb'=some k∧W.heap.size≤k)∧KeptB W w' (fun k=>k=eb∨rb=some k)));refine take_r3 _ _ (by kernel_rfl) _ W.heap.size (W.heap.size+1) q ps x ao a2 a3 cap c2 c3 k1 k2 upto known (.func (.func 47) #[p] #[]) _ rfl rfl rfl rfl rfl rfl rfl BQ1.out BX1.out HG1.out h4 HN.out HX.out HK.out (bX PNH.out) ?_;rintro t' kb au cu w2 ht j2 j3 j4 j5 j6 j10 j11 j12 ⟨hbl,hgs,ho,hb⟩;have HR2:=aa (HP.out.below _ _ _ _ HR1.out hb);have HB2:=nxt HB1 hb;have hW1:=HB1.out.size;have BQ2:=aa (ai BQ1.out hb BQ1.out.lt);have BX2:=aa (ai BX1.out hb BX1.out.lt);have HBL:=aa hbl;have HO:=aa ho;have hkb:kb < w2.heap.size:=hbl.lt;have hsz2:W.heap.size+1 < w2.heap.size:=BX2.out.lt;obtain ⟨f,hf,hi⟩:=ew t' ht;have e2:=am (hi 2 (by decide)) j2;have e3:=am (hi 3 (by decide)) j3;have e4:=am (hi 4 (by decide)) j4;have e5:=am (hi 5 (by decide)) j5;have e6:=am (hi 6 (by decide)) j6;have e10:=am (hi 10 (by decide)) j10;have e11:=am (hi 11 (by decide)) j11;have e12:=am (hi 12 (by decide)) j12;rw [e2,e3,e4,e5,e6,e10,e11,e12] at hf;clear hi ht j2 j3 j4 j5 j6 j10 j11 j12 e2 e3 e4 e5 e6 e10 e11 e12 PNH HR1 HB1 BQ1 BX1 HG1 hbl ho;subst hf;refine aP ?_;rename_i K9 hK9;refine hK9 _ _ ?_;clear hK9;have x0:w2.cell? ⟨W.heap.size+1,0,none⟩=some (.int .i64 x.t):=BX2.out.c 0 (by simp);have q3:w2.cell? ⟨W.heap.size,3,none⟩=some (.int .i64 q.size):=BQ2.out.c 3 (by simp);have q4:w2.cell? ⟨W.heap.size,4,none⟩=some (.int .i64 q.slide):=BQ2.out.c 4 (by simp);go_wp2_with fail;refine (HST.out _).mono ?_;rintro e w3 ⟨u,rfl,hos,hb3⟩;obtain ⟨au3,cu3,rfl⟩:=ax hos;have HR3:=aa (HP.out.below _ _ _ _ HR2.out hb3);have HB3:=nxt HB2 hb3;have BQ3:=aa (ai BQ2.out hb3 BQ2.out.lt);have HBL3:=aa (ai HBL.out hb3 HBL.out.lt);have HO3:=aa (aC HO.out hb3 (Nat.le_refl _));have HS3:=aa hos;obtain ⟨-,-,hs1,hs2,hs3,-⟩:=HW.out;have HVL:Hid ((valsQ q x).length=ps.length):=by
   show _=_
   unfold valsQ;rw [List.length_map,← HQA.out,List.length_map]
  have hle1:W.heap.size≤w1.heap.size:=by omega
  have hle2:W.heap.size < w2.heap.size:=by omega
  clear HST hos hb3 HR2 HB2 BQ2 BX2 HBL HO x0 q3 q4 hb HX HN HW HQA HBA hqb hxb hsz2;go_wp2_with fail
  go_loopw [10,33] (fun l i wr=>∃ (m N:Nat) (C:List Ct) (rb1:Option Nat),m≤ws.length∧N≤m∧l=.int .i64 N∧i=.int .i64 m∧Hid (R C rb1 wr)∧Hid (C++kJ q x upto known (ws.drop m)=cs++kJ q x upto known ws)∧Hid (N+gN q upto known (ws.drop m)=gN q upto known ws)∧Hid (KeptB w3 wr (fun k=>k=eb∨rb=some k))∧Hid (rb1=rb∨∃ k,rb1=some k∧w3.heap.size≤k)∧C.length≤cs.length+m) (fun _ i _=>ws.length - (intOf i).toNat)
  case atStart=>exact ⟨0,0,cs,rb,Nat.zero_le _,Nat.le_refl _,rfl,rfl,HR3,by show _=_;simp,by show _=_;simp,ae (Below.refl _ _),.inl rfl,by omega⟩
  case round =>
   clear HR3;obtain ⟨m,N,C,rb1,hm,hN,rfl,rfl,HR,HC,HNN,KB,HRB,hcl⟩:=hrel
   by_cases hlt:m < ws.length
   ·have hso:=bg HS3.out KB.out (fun k e h9=>by have:=(aJ HS3.out k e).1;have:=HBAD.out k h9;omega);obtain ⟨g,off,y,hao,hy,y0,z1,z2,z3⟩:=db (aE hso) m hlt;subst hao;have hst:=HIN.out ws[m] (List.getElem_mem hlt);have hdr:ws.drop m=ws[m] :: ws.drop (m+1):=List.drop_eq_getElem_cons hlt;rw [hdr,putL_cons] at HC;rw [hdr,lateL_cons] at HNN;rw [List.getElem?_map,List.getElem?_eq_getElem hlt] at hy;simp only [Option.map_some,Option.some.injEq] at hy;subst hy;clear hdr hso;generalize ws[m]=st at *;obtain ⟨b1,b2⟩:=hst;unfold maxLen at z2;have BQr:=aa (aI BQ3.out KB.out (fun h9=>by have:=HBAD.out _ h9;omega));have q3:wr.cell? ⟨W.heap.size,3,none⟩=some (.int .i64 q.size):=BQr.out.c 3 (by simp);have q6:wr.cell? ⟨W.heap.size,6,none⟩=some (.int .i64 q.late):=BQr.out.c 6 (by simp);have lq:=BQr.out.lt;have BLr:=aa (aI HBL3.out KB.out (fun h9=>by have:=HBAD.out _ h9;omega));have g0:wr.cell? ⟨kb,0,none⟩=some (.int .i64 k1):=BLr.out.c 0 (by simp);have g1:wr.cell? ⟨kb,1,none⟩=some (.int .i64 k2):=BLr.out.c 1 (by simp);have lk:=BLr.out.lt;have PC:=aa (fun (hg:fx q upto known st=false)=>HP.out.put C rb1 ⟨st,(k1,k2),valsQ q x⟩ (.slice au (valsQ q x).length cu) wr HR.out (by omega) ⟨b1,b2⟩ (HG9.out st hg) HVL.out (aE (bg HO3.out KB.out (fun k e h9=>by have:=(aJ HO3.out k e).1;have:=HBAD.out k h9;omega))));clear BQr BLr;have hn8:N≤4:=by omega
    have HLB:Hid (∀ b,fx q upto known st=b→C++((if b then [] else [⟨st,(k1,k2),valsQ q x⟩])++kJ q x upto known (ws.drop (m+1)))=cs++kJ q x upto known ws∧((if b then 1 else 0)+gN q upto known (ws.drop (m+1))+N=gN q upto known ws)):=fun b hb=>by
     have e1:=HC.out;have e2:=HNN.out;rw [hb,HK.out] at e1;rw [hb] at e2;exact ⟨e1,by omega⟩
    clear HC HNN;obtain ⟨b,hlb⟩:∃ b,fx q upto known st=b:=⟨_,rfl⟩;obtain ⟨e1,e2⟩:=HLB.out b hlb;clear HLB;have LATE:b=true→∀ l,l=Value.int .i64 ((N+1:Nat):Int)→True:=fun _ _ _=>trivial
    clear LATE;cases known with
    | false =>
     have hb0:b=false:=by rw [← hlb];rfl
     subst hb0;rw [if_neg (by decide)] at e1 e2;have E1:=aa e1;have E2:=aa e2;have HL0:=aa hlb;clear e1 e2 hlb;go_wp2_with fail;refine (PC.out HL0.out).mono ?_;rintro e w4 ⟨rfl,rb2,hr4,hrb4,hk4⟩;have HR4:=aa hr4;have KB4:=aa (qf KB.out hk4 HRB.out);have HRB4:=aa (rbE (z:=0) HRB.out hrb4 KB.out.b0.size);clear hr4 hk4 hrb4 PC;go_wp2_with fail;go_roundw
     case rel=>exact ⟨m+1,N,C++[⟨st,(k1,k2),valsQ q x⟩],rb2,by omega,by omega,rfl,by go_num,HR4,by show _=_;simpa using E1.out,by have:=E2.out;show _=_;omega,KB4,HRB4,by simp;omega⟩
     case measure=>simp [intOf];omega
    | true =>
     by_cases hd:st+q.size+q.late≤upto
     ·have hb0:b=true:=by rw [← hlb];simp [fx,hd]
      subst hb0;rw [if_pos rfl] at e1 e2;have E1:=aa e1;have E2:=aa e2;clear e1 e2 hlb PC;have dd:decide (st+q.size+q.late≤upto)=true:=by simp [hd]
      go_wp2_with fail;go_roundw
      case rel=>exact ⟨m+1,N+1,C,rb1,by omega,by omega,by go_num,by go_num,HR,by show _=_;simpa using E1.out,by have:=E2.out;show _=_;omega,KB,HRB,by omega⟩
      case measure=>simp [intOf];omega
     ·have hb0:b=false:=by rw [← hlb];simp [fx,hd]
      subst hb0;have dd:decide (st+q.size+q.late≤upto)=false:=by simp [hd]
      rw [if_neg (by decide)] at e1 e2;have E1:=aa e1;have E2:=aa e2;have HL0:=aa hlb;clear e1 e2 hlb;go_wp2_with fail;refine (PC.out HL0.out).mono ?_;rintro e w4 ⟨rfl,rb2,hr4,hrb4,hk4⟩;have HR4:=aa hr4;have KB4:=aa (qf KB.out hk4 HRB.out);have HRB4:=aa (rbE (z:=0) HRB.out hrb4 KB.out.b0.size);clear hr4 hk4 hrb4 PC;go_wp2_with fail;go_roundw
      case rel=>exact ⟨m+1,N,C++[⟨st,(k1,k2),valsQ q x⟩],rb2,by omega,by omega,rfl,by go_num,HR4,by show _=_;simpa using E1.out,by have:=E2.out;show _=_;omega,KB4,HRB4,by simp;omega⟩
      case measure=>simp [intOf];omega
   ·have hme:m=ws.length:=by omega
    subst hme;have E1:C=cs++kJ q x upto known ws:=by
     have:=HC.out
     rw [List.drop_length] at this
     simpa [kJ] using this
    have E2:N=gN q upto known ws:=by
     have:=HNN.out
     rw [List.drop_length] at this
     simpa [gN] using this
    subst E1 E2;go_wp2_with fail
    go_ret
    exact ⟨rfl,rb1,HR.out,by
     rcases HRB.out with e | ⟨k,e,hk⟩
     ·exact .inl e
     ·exact .inr ⟨k,e,by have:=HB3.out.size;omega⟩,af (ae HB3.out) KB.out⟩
theorem kN {k n:Int} (h:fldC k n=0):vok k n=true:=by
 unfold fldC at h
 by_cases h1:vok k n=false
 ·rw [if_pos h1] at h;omega
 ·simpa using h1
theorem lu {x:Ev} (h:evC x=0):(∀ p∈evX x,okV p)∧0≤x.t∧x.t≤9999:=by
 have h1:0≤x.t:=by
  unfold evC at h
  by_cases h1:x.t < 0
  ·rw [if_pos h1] at h;omega
  ·omega
 have h2:x.t≤9999:=by
  unfold evC at h;rw [if_neg (by omega)] at h
  by_cases h3:9999 < x.t
  ·rw [if_pos h3] at h;omega
  ·omega
 unfold evC at h;rw [if_neg (by omega),if_neg (by omega)] at h;have h3:fldC x.k1 x.k2=0:=by
  by_cases h3:fldC x.k1 x.k2=0
  ·exact h3
  ·rw [if_pos h3] at h;exact absurd h h3
 rw [if_neg (by simp [h3])] at h;have h4:fldC x.a1 x.a2=0:=by
  by_cases h4:fldC x.a1 x.a2=0
  ·exact h4
  ·rw [if_pos h4] at h;exact absurd h h4
 rw [if_neg (by simp [h4])] at h;refine ⟨fun p hp=>?_,h1,h2⟩;simp only [evX,evE,List.mem_cons,List.not_mem_nil,or_false] at hp
 rcases hp with rfl | rfl | rfl | rfl
 ·unfold okV py numK numN vok;rw [if_pos (by omega),if_pos (by omega)]
  simp
  omega
 ·exact kN h3
 ·exact kN h4
 ·exact kN h
theorem lW {q:Qy} {x:Ev} (h:nY x.t q.size q.slide) (u:Int) (k:Bool):(takeC q x u k).length≤4∧takeN q x u k≤4:=by
 unfold takeC takeN
 have:=nx h
 have h1:=putL_len q x u k (nU x.t q.size q.slide);have h2:=lateL_len q u k (nU x.t q.size q.slide)
 split
 ·exact ⟨by omega,by omega⟩
 ·exact ⟨by simp,by simp⟩
structure QyS (q:Qy):Prop where
 s1:1≤q.slide
 s2:q.slide≤q.size
 s3:q.size≤1000
 s4:q.size≤4 * q.slide
 d0:0≤q.delay
 d1:q.delay≤1000
 l0:0≤q.late
 l1:q.late≤1000
structure Po where
 (st k n:Int)
 vs:List V2
 v:Value
def bL (p:Po):List Value:=[.int .i64 p.st,.int .i64 p.k,.int .i64 p.n,p.v]
theorem cG (p:Po):(bL p).length=4:=rfl
def fl (o:Po):Int×Int×Int×List V2:=(o.st,o.k,o.n,o.vs)
def fj (p:Pn):Int×Int×Int×List V2:=(p.st,p.k,p.n,p.ac.map acV)
theorem gX {α:Type} (lt:α→α→Prop) (hirr:∀ a,¬ lt a a) (has:∀ a b,lt a b→¬ lt b a):∀ (l m:List α),l.Pairwise lt→m.Pairwise lt→(∀ x,x∈l↔x∈m)→l=m
 | [],[],_,_,_=>rfl
 | [],b :: m,_,_,h=>absurd ((h b).2 List.mem_cons_self) (by simp)
 | a :: l,[],_,_,h=>absurd ((h a).1 List.mem_cons_self) (by simp)
 | a :: l,b :: m,hl,hm,h=>by
  obtain ⟨hl1,hl2⟩:=List.pairwise_cons.1 hl;obtain ⟨hm1,hm2⟩:=List.pairwise_cons.1 hm;have hab:a=b:=by
   rcases List.mem_cons.1 ((h a).1 List.mem_cons_self) with e | e
   ·exact e
   ·rcases List.mem_cons.1 ((h b).2 List.mem_cons_self) with e2 | e2
    ·exact e2.symm
    ·exact absurd (hm1 a e) (has _ _ (hl1 b e2))
  subst hab;rw [gX lt hirr has l m hl2 hm2 (fun x=>⟨fun hx=>?_,fun hx=>?_⟩)]
  ·rcases List.mem_cons.1 ((h x).1 (List.mem_cons_of_mem _ hx)) with e | e
   ·subst e;exact absurd (hl1 x hx) (hirr x)
   ·exact e
  ·rcases List.mem_cons.1 ((h x).2 (List.mem_cons_of_mem _ hx)) with e | e
   ·subst e;exact absurd (hm1 x hx) (hirr x)
   ·exact e
def pm (ks:List Int) (cs cs':List Ct):Prop:=∀ st k n,iu ks (ofK st k n cs)=iu ks (ofK st k n cs')∧(ofK st k n cs=[]↔ofK st k n cs'=[])
theorem acAdd_comm (a:Ac) (u v:V2):jE (jE a u) v=jE (jE a v) u:=by
 have e:=gstep_comm a.k (a.n,a.s,a.b) u v;unfold jE
 simp only
 rw [e]
theorem addL_comm (ac:List Ac) (u v:List V2):dD (dD ac u) v=dD (dD ac v) u:=by
 unfold dD
 induction ac generalizing u v with
 | nil=>simp
 | cons a ac ih =>
  cases u with
  | nil=>cases v <;> simp
  | cons x u =>
   cases v with
   | nil=>simp
   | cons y v=>simp [acAdd_comm a x y,ih]
theorem gY (ks:List Int) {cs cs':List Ct} (h:cs.Perm cs'):pm ks cs cs':=fun st k n=>by
 have hp:(ofK st k n cs).Perm (ofK st k n cs'):=h.filter _;refine ⟨?_,?_⟩
 ·unfold iu;exact hp.foldl_eq' (fun x _ y _ z=>addL_comm z x.vs y.vs) _
 ·constructor
  ·intro e;rw [e] at hp;exact List.nil_perm.1 hp
  ·intro e;rw [e] at hp;exact List.perm_nil.1 hp
end Go.Proofs.YtcgjflamgnjhcaaGreatDoor
