/- Own texts in one. Conditions: as named in each. -/
import Derived.Test.YtcgjflamgnjhcaaGreatDoorPrsHJ
import Derived.Test.YtcgjflamgnjhcaaGreatDoorEnE
import Derived.Test.YtcgjflamgnjhcaaGreatDoorPane8
import Derived.Test.YtcgjflamgnjhcaaGreatDoorChkRJ
set_option linter.unusedVariables false
set_option linter.unusedSimpArgs false
set_option maxRecDepth 100000
set_option maxHeartbeats 8000000
namespace Go.Proofs.YtcgjflamgnjhcaaGreatDoor
open Go.ChangeShapes Go.WideShapes Go.ChangeAt Go.RowKit
theorem op_build_two {P:Program} {Q:Exit→Act→World→Prop} {K:Act→World→Prop} {o:Oper} {a:Act} {w:World} (t e:TypeId) (x y:Operand) (ho:o.op=.buildSlice t 2 #[(0,x),(1,y)]) (cw dw:List Value) (s:Nat) (hx:a.eval x=.agg cw.toArray) (hy:a.eval y=.agg dw.toArray) (ie:TypeInfo) (z:Value)
  (hu:P.underlying t=some (.slice e)) (hie:P.info? e=some ie) (hz:ie.zero=some z) (hs:ie.size=s) (hl:cw.length=s) (hl2:dw.length=s) (h0:0 < s) (h24:2 * s≤2 ^ 24)
  (h:K (a.put o.dst (.slice (some ⟨w.heap.size,0,none⟩) 2 2)) (w.alloc (.cells (cw++dw).toArray e))):o.wp P a w K Q:=by
 refine wp_buildSlice t e 2 _ ho (cw++dw).toArray ie z hu hie hz (by rw [hs];omega) (by rw [hs];omega) ?_ h;have e1:((#[(0,x),(1,y)]:Array (Nat×Operand)).map fun (i,x)=>(i,a.eval x)).toList=[(0,a.eval x),(1,a.eval y)]:=by simp
 rw [e1,hx,hy,hs];have h2:=Great.fill_whole h0 [Value.agg cw.toArray,Value.agg dw.toArray] ((Array.range (2 * s)).map (z.cells[· % z.cells.size]!)) (fun v hv=>by
  rcases List.mem_cons.1 hv with e | e
  ·rw [e];simp [Value.cells,hl]
  ·rw [List.mem_singleton.1 e];simp [Value.cells,hl2]) (by simp)
 simpa [Value.cells] using h2
theorem infoRw9:(Tryz.prog.info? 80).map (fun i=>(i.zero,i.size,i.bytes))=some (some (.agg #[.bool false,.int .i64 0,.int .i64 0,.int .i64 0,.slice none 0 0]),5,56):=by kernel_rfl
theorem eadd_r7 (Q:Exit→Act→World→Prop) (C7:Code) (h7:rgn 7 (Tryz.f47.body.getD .skip)=some C7) (t:List Value) (eb ob_ nb_ B n:Nat) (rdv ckv tv ltv e5 e6 e7 e8 e9 e10 e11:Value) (rva a1 a2:Option Addr) (rvc m1 c1 m2 c2:Nat) (x1 y1 z1 x2 y2 z2:Int) (xs:List Value) (w:World) (ht:t.length=69) (k0:t[0]?=some (.pointer (some ⟨eb,0,none⟩))) (k12:t[12]?=some (.pointer (some ⟨ob_,0,none⟩))) (k13:t[13]?=some (.pointer (some ⟨nb_,0,none⟩)))
  (BE:BlkAt w eb [rdv,ckv,tv,ltv,Value.slice rva n rvc,e5,e6,e7,e8,e9,e10,e11]) (BO:BlkAt w ob_ [Value.int .i64 x1,Value.int .i64 y1,Value.int .i64 z1,Value.slice a1 m1 c1]) (BN:BlkAt w nb_ [Value.int .i64 x2,Value.int .i64 y2,Value.int .i64 z2,Value.slice a2 m2 c2]) (OW:w.ownsRow B 80 5 (Value.slice rva n rvc) n xs) (hn:n≤1000000) (hB:B≤w.heap.size) (n1:(Value.slice rva n rvc).ownBlock≠some eb) (n2:(Value.slice rva n rvc).ownBlock≠some ob_) (n3:(Value.slice rva n rvc).ownBlock≠some nb_)
  (hpan:∀ c (a:Act) o v w,Q (.panic c) (a.put o v) w→Q (.panic c) a w)
  (hQ:∀ (t':List Value) (va:Option Addr) (vc:Nat) (w':World),t'.length=69→t'[0]?=some (.pointer (some ⟨eb,0,none⟩))→t'[12]?=some (.pointer (some ⟨ob_,0,none⟩))→t'[13]?=some (.pointer (some ⟨nb_,0,none⟩))→BlkAt w' eb [rdv,ckv,tv,ltv,Value.slice va (n+2) vc,e5,e6,e7,e8,e9,e10,e11]∧w'.ownsRow B 80 5 (.slice va (n+2) vc) (n+2) (xs++[.bool true,Value.int .i64 x1,Value.int .i64 y1,Value.int .i64 z1,Value.slice a1 m1 c1,.bool false,Value.int .i64 x2,Value.int .i64 y2,Value.int .i64 z2,Value.slice a2 m2 c2])∧((Value.slice va (n+2) vc).ownBlock=(Value.slice rva n rvc).ownBlock∨∃ k,(Value.slice va (n+2) vc).ownBlock=some k∧w.heap.size≤k)∧KeptB w w' (fun k=>k=eb∨(Value.slice rva n rvc).ownBlock=some k)→Q .normal { tmps:=t'.toArray,defers:=[] } w') :
  Code.wp Tryz.prog C7 Q { tmps:=t.toArray,defers:=[] } w:=by
 have HQ:=aa hQ;have HPN:=aa hpan;obtain ⟨i0,hi,hz0,hz1,hz2⟩:=info_parts infoRw9;have hd:Below w.heap.size w ({ w with drawn:=w.drawn+1 }:World):=(Below.refl _ _).drew;have hS:KeptB w ({ w with drawn:=w.drawn+1 }:World) (fun k=>(Value.slice rva n rvc).ownBlock=some k):=ae hd;have BEx:Hid (¬ (Value.slice rva n rvc).ownBlock=some eb):=n1;have BOx:Hid (¬ (Value.slice rva n rvc).ownBlock=some ob_):=n2;have BNx:Hid (¬ (Value.slice rva n rvc).ownBlock=some nb_):=n3;have BE:=aa BE;have BO:=aa BO;have BN:=aa BN;have OW:=aa OW;clear hQ hpan n1 n2 n3;obtain ⟨f,hf,hi⟩:=fM t ht;have e0:=aq (hi 0 (by decide)) k0;have e12:=aq (hi 12 (by decide)) k12;have e13:=aq (hi 13 (by decide)) k13;rw [e0,e12,e13] at hf;clear hi ht k0 e0 k12 e12 k13 e13;subst hf;unfold Tryz.f47 at h7
 simp [rgn] at h7
 subst h7;refine aZ (fun w'=>KeptB w w' (fun k=>(Value.slice rva n rvc).ownBlock=some k)) 13 (by kernel_rfl) ?_;generalize ({ w with drawn:=w.drawn+1 }:World)=wd at *;refine LT 0 (v:=.pointer (some ⟨eb,0,none⟩)) [11,12,13] rfl HPN.out (fun wq hq=>by go_simp) hS ?_;refine LT 1 (v:=.pointer (some ⟨eb,0,none⟩)) [2,3,4,10,13] rfl HPN.out (fun wq hq=>by go_simp) hS ?_;refine LT 2 (v:=.pointer (some ⟨eb,0,none⟩)) [3,4,10,13] rfl HPN.out (fun wq hq=>by go_simp) hS ?_;refine LT 3 (v:=.pointer (some ⟨eb,4,none⟩)) [4,10,13] rfl HPN.out (fun wq hq=>by go_simp) hS ?_;refine LT 4 (v:=Value.slice rva n rvc) [10,13] rfl HPN.out (fun wq hq=>by have K:=aH BE.out hq BEx.out;have q4:wq.cell? ⟨eb,4,none⟩=some (Value.slice rva n rvc):=K.c 4 (by simp);clear K;go_simp) hS ?_;refine LT 5 (v:=.agg #[Value.int .i64 x1,Value.int .i64 y1,Value.int .i64 z1,Value.slice a1 m1 c1]) [6,9,10,13] rfl HPN.out (fun wq hq=>by have K:=aH BO.out hq BOx.out;have q0:wq.cell? ⟨ob_,0,none⟩=some (Value.int .i64 x1):=K.c 0 (by simp);have q1:wq.cell? ⟨ob_,1,none⟩=some (Value.int .i64 y1):=K.c 1 (by simp);have q2:wq.cell? ⟨ob_,2,none⟩=some (Value.int .i64 z1):=K.c 2 (by simp);have q3:wq.cell? ⟨ob_,3,none⟩=some (Value.slice a1 m1 c1):=K.c 3 (by simp);clear K;go_simp) hS ?_;refine LT 6 (v:=.agg #[.bool true,Value.int .i64 x1,Value.int .i64 y1,Value.int .i64 z1,Value.slice a1 m1 c1]) [9,10,13] rfl HPN.out (fun wq hq=>by go_simp) hS ?_;refine LT 7 (v:=.agg #[Value.int .i64 x2,Value.int .i64 y2,Value.int .i64 z2,Value.slice a2 m2 c2]) [8,9,10,13] rfl HPN.out (fun wq hq=>by have K:=aH BN.out hq BNx.out;have q0:wq.cell? ⟨nb_,0,none⟩=some (Value.int .i64 x2):=K.c 0 (by simp);have q1:wq.cell? ⟨nb_,1,none⟩=some (Value.int .i64 y2):=K.c 1 (by simp);have q2:wq.cell? ⟨nb_,2,none⟩=some (Value.int .i64 z2):=K.c 2 (by simp);have q3:wq.cell? ⟨nb_,3,none⟩=some (Value.slice a2 m2 c2):=K.c 3 (by simp);clear K;go_simp) hS ?_;refine LT 8 (v:=.agg #[.bool false,Value.int .i64 x2,Value.int .i64 y2,Value.int .i64 z2,Value.slice a2 m2 c2]) [9,10,13] rfl HPN.out (fun wq hq=>by go_simp) hS ?_;refine LG 9 rfl ?_;intro K' hK;refine op_build_two 67 80 (.tmp 62) (.tmp 64) rfl [.bool true,Value.int .i64 x1,Value.int .i64 y1,Value.int .i64 z1,Value.slice a1 m1 c1] [.bool false,Value.int .i64 x2,Value.int .i64 y2,Value.int .i64 z2,Value.slice a2 m2 c2] 5 (by kernel_rfl) (by kernel_rfl) i0 _ Tryz.underlying67 hi hz0 hz1 rfl rfl (by decide) (by decide) ?_;have hS1:=af hS (ae (bad:=fun k=>(Value.slice rva n rvc).ownBlock=some k) (aj wd (.cells ([.bool true,Value.int .i64 x1,Value.int .i64 y1,Value.int .i64 z1,Value.slice a1 m1 c1]++[.bool false,Value.int .i64 x2,Value.int .i64 y2,Value.int .i64 z2,Value.slice a2 m2 c2]:List Value).toArray 80)));have BZ:=aa (ay wd [.bool true,Value.int .i64 x1,Value.int .i64 y1,Value.int .i64 z1,Value.slice a1 m1 c1,.bool false,Value.int .i64 x2,Value.int .i64 y2,Value.int .i64 z2,Value.slice a2 m2 c2] 80)
 have OW1:=aa ((aB OW.out hd (Nat.le_refl _)).alloc (.cells ([.bool true,Value.int .i64 x1,Value.int .i64 y1,Value.int .i64 z1,Value.slice a1 m1 c1]++[.bool false,Value.int .i64 x2,Value.int .i64 y2,Value.int .i64 z2,Value.slice a2 m2 c2]:List Value).toArray 80));have hzd:=hd.size;refine hK _ _ ⟨fun _=>hS1,?_⟩;clear hK;refine LG 10 rfl ?_;intro K' hK;refine ch (.tmp 60) (.tmp 65) 67 rfl B 80 i0 _ 5 56 Tryz.underlying67 hi hz0 hz1 hz2 (by kernel_rfl) (by decide) (Value.slice rva n rvc) n xs (by kernel_rfl) OW1.out ⟨wd.heap.size,0,none⟩ 2 2 [.bool true,Value.int .i64 x1,Value.int .i64 y1,Value.int .i64 z1,Value.slice a1 m1 c1,.bool false,Value.int .i64 x2,Value.int .i64 y2,Value.int .i64 z2,Value.slice a2 m2 c2] (by kernel_rfl) rfl (fun j u hu=>by rw [jP,Nat.zero_add];exact (BZ.out.c j (List.getElem?_eq_some_iff.1 hu).1).trans hu) (by simp [Value.oneCell']) (by show _≤2 ^ 63 - 1;omega) (by omega) (by simp;omega) ?_;intro v' w5 ho hg hob;obtain ⟨va,vc,rfl⟩:=ax ho;have hS5:=cW hS1 hg (fun k hk _=>hk);have HO:=aa ho;have hob2:=hob;have hsz5:wd.heap.size≤(wd.alloc (.cells ([.bool true,Value.int .i64 x1,Value.int .i64 y1,Value.int .i64 z1,Value.slice a1 m1 c1]++[.bool false,Value.int .i64 x2,Value.int .i64 y2,Value.int .i64 z2,Value.slice a2 m2 c2]:List Value).toArray 80)).heap.size:=by simp
 have HB9:=aa hob;refine hK _ _ ⟨fun _=>hS5,?_⟩;clear hK ho hg hob hob2;refine LT 11 (v:=.pointer (some ⟨eb,0,none⟩)) [12,13] rfl HPN.out (fun wq hq=>by go_simp) hS5 ?_;refine LT 12 (v:=.pointer (some ⟨eb,4,none⟩)) [13] rfl HPN.out (fun wq hq=>by go_simp) hS5 ?_;refine LG 13 rfl ?_;intro K' hK;have BE5:=aa (aH BE.out hS5 BEx.out);have q4:w5.cell? ⟨eb,4,none⟩=some (Value.slice rva n rvc):=BE5.out.c 4 (by simp);have f4:=BE5.out.fz 4;have l4:=BE5.out.lt;go_simp;refine hK _ _ ⟨fun h=>absurd rfl h,?_⟩;clear hK;refine bI (by kernel_rfl) ?_ _;have BE6:=az BE5.out 4 (.slice va (n+2) vc) (by simp);have hobx:(Value.slice va (n+2) vc).ownBlock=(Value.slice rva n rvc).ownBlock∨∃ k,(Value.slice va (n+2) vc).ownBlock=some k∧w.heap.size≤k:=by
  rcases HB9.out with e | e
  ·exact .inl e
  ·exact .inr ⟨_,e,by have:=hd.size;simp;omega⟩
 have hne9:∀ k,(Value.slice va (n+2) vc).ownBlock=some k→k≠eb:=fun k hk e=>by
  subst e
  rcases hobx with e | ⟨k2,e,hk2⟩
  ·exact BEx.out (by rw [← e];exact hk)
  ·rw [e] at hk;cases hk
   have:=BE.out.lt
   omega
 exact HQ.out _ va vc _ rfl rfl rfl rfl ⟨by simpa using BE6,bf HO.out (ai (ae (bad:=fun k=>k=eb) (Below.refl _ _)) (g:=eb) rfl 4 (.slice va (n+2) vc)) (fun k hk e=>hne9 k hk e),hobx,ai (cZ hS5 (fun k e=>.inr e)) (g:=eb) (.inl rfl) 4 (.slice va (n+2) vc)⟩
theorem drop1_any (p:Pn) (b1 b2:Nat) (size upto:Int) (w:World) (h1:-100000≤p.st) (h2:p.st≤100000) (h3:1≤size) (h4:size≤100000) (hs:∃ ao n cap,p.av=.slice ao n cap)
  (c1:w.cell? ⟨b1,0,none⟩=some (.int .i64 size)) (c2:w.cell? ⟨b2,0,none⟩=some (.int .i64 upto)) (l1:b1 < w.heap.size) (l2:b2 < w.heap.size) :
  Calls Tryz.prog 130 #[eo p,.pointer (some ⟨b1,0,none⟩),.pointer (some ⟨b2,0,none⟩)] w fun e w'=>e=.returned (.bool (decide (p.st+size≤upto)))∧Below w.heap.size w w':=by
 have hA:=(Below.refl w.heap.size w).alloc (Nat.le_refl _) (.cells #[.int .i64 p.st,.int .i64 p.k,.int .i64 p.n,p.av,.bool p.told] 84);have EN:=aa (mW p size upto (w.alloc (.cells #[.int .i64 p.st,.int .i64 p.k,.int .i64 p.n,p.av,.bool p.told] 84)) h1 h2 h3 h4 hs);obtain ⟨st,k,n,told,ac,av⟩:=p;obtain ⟨ao,m,cap,hav⟩:=hs
 simp only at hav
 subst hav;unfold eo at EN ⊢
 simp only at EN hA ⊢
 have d1:=hA.cell (p:=⟨b1,0,none⟩) l1;have d2:=hA.cell (p:=⟨b2,0,none⟩) l2;rw [c1] at d1;rw [c2] at d2;have HA:=aa hA;clear hA h1 h2 h3 h4
 go_enter Tryz.func130,Tryz.ntmps130
 go_wp2_with fail;refine EN.out.mono ?_;rintro e w1 ⟨rfl,hb⟩;have HB:=nxt HA hb;clear hb HA EN d1 d2;go_wp2_with fail
 go_ret
 exact ⟨rfl,HB.out⟩
theorem index_any (ps:List Pn) (c:Pn→Bool) (p1 p2:Value) (ao:Option Addr) (cap:Nat) (w:World) (hl:ps.length≤1000) (hr:bK w (.slice ao ps.length cap) 5 ps.length (rowOf aG ps)) (hs:∀ p∈ps,∃ ao n cap,p.av=.slice ao n cap)
  (hc:∀ p∈ps,∀ w',Below w.heap.size w w'→Calls Tryz.prog 130 #[eo p,p1,p2] w' fun e w''=>e=.returned (.bool (c p))∧Below w'.heap.size w' w'') :
  Calls Tryz.prog 90 #[.slice ao ps.length cap,.func (.func 130) #[] #[p1,p2]] w fun e w'=>(∃ i,i < ps.length∧(∀ q p,q < i→ps[q]?=some p→c p=false)∧(∀ p,ps[i]?=some p→c p=true)∧e=.returned (.int .i64 (i:Nat))∧Below w.heap.size w w')∨((∀ p∈ps,c p=false)∧e=.returned (.int .i64 (-1))∧Below w.heap.size w w'):=by
 have HR:=aa hr;have HS:=aa hs;have HC:=aa hc;clear hr hs hc
 go_enter Tryz.func90,Tryz.ntmps90
 go_wp2_with fail
 go_loopw [8] (fun i wr=>∃ m:Nat,m≤ps.length∧i=.int .i64 m∧Hid (∀ q p,q < m→ps[q]?=some p→c p=false)∧Hid (Below w.heap.size w wr)) (fun i _=>ps.length - (intOf i).toNat)
 case atStart=>exact ⟨0,Nat.zero_le _,rfl,fun q p hq=>absurd hq (by omega),Below.refl _ _⟩
 case round =>
  obtain ⟨m,hm,rfl,HM,HB⟩:=hrel
  by_cases hlt:m < ps.length
  ·obtain ⟨g,off,rfl,hcell,q1,q2,lg⟩:=bj aW (aA HR.out HB.out) m hlt;have CP:=aa (HC.out ps[m] (List.getElem_mem hlt));obtain ⟨ap,np,cp,hav⟩:=HS.out ps[m] (List.getElem_mem hlt);have HP:Hid (ps[m]?=some ps[m]):=List.getElem?_eq_getElem hlt;generalize ps[m]=p at *;obtain ⟨x1,x2,x3,x4,x5,x6⟩:=p
   simp only at hav
   subst hav;have y0:wr.cell? ⟨g,off+m * 5,none⟩=some (.int .i64 x1):=hcell 0 (by omega);have y1:wr.cell? ⟨g,off+m * 5+1,none⟩=some (.int .i64 x2):=hcell 1 (by omega);have y2:wr.cell? ⟨g,off+m * 5+2,none⟩=some (.int .i64 x3):=hcell 2 (by omega);have y3:wr.cell? ⟨g,off+m * 5+3,none⟩=some (.slice ap np cp):=hcell 3 (by omega);have y4:wr.cell? ⟨g,off+m * 5+4,none⟩=some (.bool x4):=hcell 4 (by omega);unfold eo at CP
   simp only at CP
   unfold maxLen at q2;generalize hcx:c ⟨x1,x2,x3,x4,x5,.slice ap np cp⟩=r at *;have HCX:=aa hcx;clear hcell hcx;go_wp2_with fail;refine (CP.out _ HB.out).mono ?_;rintro e w2 ⟨rfl,hb⟩;have HB2:=nxt HB hb;clear hb HB y0 y1 y2 y3 y4;cases r with
   | true =>
    go_wp2_with fail
    go_ret
    refine .inl ⟨m,hlt,HM.out,fun p hp=>?_,rfl,HB2.out⟩;rw [HP.out] at hp;cases hp;exact HCX.out
   | false =>
    go_wp2_with fail;go_roundw
    case rel=>exact ⟨m+1,by omega,by go_num,fun q p hq hp=>by
      by_cases h9:q=m
      ·subst h9;rw [HP.out] at hp;cases hp;exact HCX.out
      ·exact HM.out q p (by omega) hp,HB2⟩
    case measure=>simp [intOf];omega
  ·have hme:m=ps.length:=by omega
   subst hme;go_wp2_with fail
   go_ret
   refine .inr ⟨fun p hp=>?_,rfl,HB.out⟩;obtain ⟨q,hq,rfl⟩:=List.mem_iff_getElem.1 hp;exact HM.out q _ hq (List.getElem?_eq_getElem hq)
end Go.Proofs.YtcgjflamgnjhcaaGreatDoor
namespace Go.Proofs.YtcgjflamgnjhcaaGreatDoor
open Go.ChangeShapes Go.WideShapes Go.ChangeAt Go.RowKit
attribute [local go_sem ↓] cK cM
theorem equalVals_any (l m9:List V2) (u v:Value) (w:World) (hl:l.length≤1000) (hlm:m9.length=l.length) (hu:bK w u 2 l.length (bW l)) (hv:bK w v 2 m9.length (bW m9)) :
  Calls Tryz.prog 93 #[u,v] w fun e w'=>e=.returned (.bool (decide (l=m9)))∧Below w.heap.size w w':=by
 obtain ⟨au,cu,rfl⟩:=am hu;obtain ⟨av,cv,rfl⟩:=am hv;have HU:=aa hu;have HV:=aa hv;have kn:=bJ w;obtain ⟨kc,kf⟩:=bB w;have bne:((l.length:Int) != (l.length:Int))=false:=by simp
 have HT:Hid (l=m9→decide (l=m9)=true):=fun e=>decide_eq_true e
 have HF:Hid (∀ i (h1:i < l.length) (h2:i < m9.length),l[i]≠m9[i]→decide (l=m9)=false):=fun i h1 h2 hn=>decide_eq_false fun e=>hn (by subst e;rfl)
 have HLM:=aa hlm;rw [hlm];generalize decide (l=m9)=b at *;clear hu hv hlm
 go_enter Tryz.func93,Tryz.ntmps93
 go_wp2_with fail
 go_loopw [13] (fun i wr=>∃ m:Nat,m≤l.length∧i=.int .i64 m∧Hid (∀ i (h1:i < l.length) (h2:i < m9.length),i < m→l[i]=m9[i])∧Hid (Below w.heap.size w wr)) (fun i _=>l.length - (intOf i).toNat)
 case atStart=>exact ⟨0,Nat.zero_le _,rfl,fun i _ _ h=>absurd h (by omega),Below.refl _ _⟩
 case round =>
  obtain ⟨m,hm,rfl,HM,HW⟩:=hrel
  by_cases hlt:m < l.length
  ·have hlt2:m < m9.length:=by rw [HLM.out];exact hlt
   obtain ⟨g1,o1,rfl,e0,e1,p1,p2,p3⟩:=fF HU.out m hlt;obtain ⟨g2,o2,rfl,f0,f1,q1,q2,q3⟩:=fF HV.out m hlt2;have HEQ:Hid (l[m]=m9[m]→∀ i (h1:i < l.length) (h2:i < m9.length),i < m+1→l[i]=m9[i]):=fun he i h1 h2 hi=>by
    by_cases h9:i=m
    ·subst h9;exact he
    ·exact HM.out i h1 h2 (by omega)
   have HNE:=aa (HF.out m hlt hlt2);clear HM;generalize l[m]=x at *;generalize m9[m]=y at *;obtain ⟨x1,x2⟩:=x;obtain ⟨y1,y2⟩:=y
   simp only at e0 e1 f0 f1
   unfold maxLen at p2 q2;rw [HLM.out] at q1
   by_cases hxy:x1=y1∧x2=y2
   ·obtain ⟨rfl,rfl⟩:=hxy;have HE2:=aa (HEQ.out rfl);have z9:(x1 == x1 && x2 == x2)=true:=by simp
    clear HEQ HNE;go_wp2_with fail;refine aE HW (by kernel_rfl) (by kernel_rfl) ?_
    repeat (go_big_quiet_step (fail))
    refine wpQuiet_nil ?_;rintro _ ⟨pk,rfl⟩;have HP:=aa pk.h;generalize pk.w=wp at *;clear HW;go_wp2_with fail;go_roundw
    case rel=>exact ⟨m+1,by omega,by go_num,HE2,HP⟩
    case measure=>simp [intOf];omega
   ·have z9:(x1 == y1 && x2 == y2)=false:=by
     cases h8:(x1 == y1 && x2 == y2) with
     | false=>rfl
     | true =>
      simp only [Bool.and_eq_true,beq_iff_eq] at h8;exact absurd h8 hxy
    have hb:b=false:=HNE.out (fun e=>hxy (by
     simp only [Prod.mk.injEq] at e;exact e))
    subst hb;clear HEQ HNE hxy;go_wp2_with fail;refine aE HW (by kernel_rfl) (by kernel_rfl) ?_
    repeat (go_big_quiet_step (fail))
    refine wpQuiet_nil ?_;rintro _ ⟨pk,rfl⟩;have HP:=aa pk.h;generalize pk.w=wp at *;clear HW;go_wp2_with fail
    go_ret
    exact ⟨rfl,HP.out⟩
  ·have hml:m=l.length:=by omega
   subst hml;have hb:b=true:=HT.out (List.ext_getElem HLM.out.symm fun i h1 h2=>HM.out i h1 h2 h1);subst hb;go_wp2_with fail
   go_ret
   exact ⟨rfl,HW.out⟩
theorem add1_any (p:Pn) (wb:Nat) (st k n:Int) (w:World) (hs:∃ ao n cap,p.av=.slice ao n cap)
  (c0:w.cell? ⟨wb,0,none⟩=some (.int .i64 st)) (c1:w.cell? ⟨wb,1,none⟩=some (.int .i64 k)) (c2:w.cell? ⟨wb,2,none⟩=some (.int .i64 n)) (lb:wb < w.heap.size) :
  Calls Tryz.prog 91 #[eo p,.pointer (some ⟨wb,0,none⟩)] w fun e w'=>e=.returned (.bool (decide (p.st=st∧p.k=k∧p.n=n)))∧Below w.heap.size w w':=by
 obtain ⟨ps,pk,pn,told,ac,av⟩:=p;obtain ⟨ao,m,cap,hav⟩:=hs
 simp only at hav
 subst hav;have hA:=(Below.refl w.heap.size w).alloc (Nat.le_refl _) (.cells #[.int .i64 ps,.int .i64 pk,.int .i64 pn,.slice ao m cap,.bool told] 84);have d0:=hA.cell (p:=⟨wb,0,none⟩) lb;have d1:=hA.cell (p:=⟨wb,1,none⟩) lb;have d2:=hA.cell (p:=⟨wb,2,none⟩) lb;rw [c0] at d0;rw [c1] at d1;rw [c2] at d2;have HA:=aa hA;clear hA c0 c1 c2;unfold eo
 simp only
 by_cases h1:ps=st
 ·by_cases h2:pk=k∧pn=n
  ·have e:decide (ps=st∧pk=k∧pn=n)=true:=decide_eq_true ⟨h1,h2.1,h2.2⟩;rw [e];obtain ⟨h2,h3⟩:=h2;subst h1 h2 h3;clear e
   go_enter Tryz.func91,Tryz.ntmps91
   go_wp2_with fail
   go_ret
   exact ⟨rfl,HA.out⟩
  ·have e:decide (ps=st∧pk=k∧pn=n)=false:=decide_eq_false fun h=>h2 h.2
   rw [e];subst h1;have e9:((pk == k) && (pn == n))=false:=by
    cases h8:(pk == k) && (pn == n) with
    | false=>rfl
    | true =>
     simp only [Bool.and_eq_true,beq_iff_eq] at h8;exact absurd h8 h2
   clear e h2
   go_enter Tryz.func91,Tryz.ntmps91
   go_wp2_with fail
   go_ret
   exact ⟨rfl,HA.out⟩
 ·have e:decide (ps=st∧pk=k∧pn=n)=false:=decide_eq_false fun h=>h1 h.1
  rw [e];have e9:(ps == st)=false:=by simp [h1]
  clear e h1
  go_enter Tryz.func91,Tryz.ntmps91
  go_wp2_with fail
  go_ret
  exact ⟨rfl,HA.out⟩
theorem indexAdd_any (ps:List Pn) (c:Pn→Bool) (p1:Value) (ao:Option Addr) (cap:Nat) (w:World) (hl:ps.length≤1000) (hr:bK w (.slice ao ps.length cap) 5 ps.length (rowOf aG ps)) (hs:∀ p∈ps,∃ ao n cap,p.av=.slice ao n cap)
  (hc:∀ p∈ps,∀ w',Below w.heap.size w w'→Calls Tryz.prog 91 #[eo p,p1] w' fun e w''=>e=.returned (.bool (c p))∧Below w'.heap.size w' w'') :
  Calls Tryz.prog 90 #[.slice ao ps.length cap,.func (.func 91) #[] #[p1]] w fun e w'=>(∃ i,i < ps.length∧(∀ q p,q < i→ps[q]?=some p→c p=false)∧(∀ p,ps[i]?=some p→c p=true)∧e=.returned (.int .i64 (i:Nat))∧Below w.heap.size w w')∨((∀ p∈ps,c p=false)∧e=.returned (.int .i64 (-1))∧Below w.heap.size w w'):=by
 have HR:=aa hr;have HS:=aa hs;have HC:=aa hc;clear hr hs hc
 go_enter Tryz.func90,Tryz.ntmps90
 go_wp2_with fail
 go_loopw [8] (fun i wr=>∃ m:Nat,m≤ps.length∧i=.int .i64 m∧Hid (∀ q p,q < m→ps[q]?=some p→c p=false)∧Hid (Below w.heap.size w wr)) (fun i _=>ps.length - (intOf i).toNat)
 case atStart=>exact ⟨0,Nat.zero_le _,rfl,fun q p hq=>absurd hq (by omega),Below.refl _ _⟩
 case round =>
  obtain ⟨m,hm,rfl,HM,HB⟩:=hrel
  by_cases hlt:m < ps.length
  ·obtain ⟨g,off,rfl,hcell,q1,q2,lg⟩:=bj aW (aA HR.out HB.out) m hlt;have CP:=aa (HC.out ps[m] (List.getElem_mem hlt));obtain ⟨ap,np,cp,hav⟩:=HS.out ps[m] (List.getElem_mem hlt);have HP:Hid (ps[m]?=some ps[m]):=List.getElem?_eq_getElem hlt;generalize ps[m]=p at *;obtain ⟨x1,x2,x3,x4,x5,x6⟩:=p
   simp only at hav
   subst hav;have y0:wr.cell? ⟨g,off+m * 5,none⟩=some (.int .i64 x1):=hcell 0 (by omega);have y1:wr.cell? ⟨g,off+m * 5+1,none⟩=some (.int .i64 x2):=hcell 1 (by omega);have y2:wr.cell? ⟨g,off+m * 5+2,none⟩=some (.int .i64 x3):=hcell 2 (by omega);have y3:wr.cell? ⟨g,off+m * 5+3,none⟩=some (.slice ap np cp):=hcell 3 (by omega);have y4:wr.cell? ⟨g,off+m * 5+4,none⟩=some (.bool x4):=hcell 4 (by omega);unfold eo at CP
   simp only at CP
   unfold maxLen at q2;generalize hcx:c ⟨x1,x2,x3,x4,x5,.slice ap np cp⟩=r at *;have HCX:=aa hcx;clear hcell hcx;go_wp2_with fail;refine (CP.out _ HB.out).mono ?_;rintro e w2 ⟨rfl,hb⟩;have HB2:=nxt HB hb;clear hb HB y0 y1 y2 y3 y4;cases r with
   | true =>
    go_wp2_with fail
    go_ret
    refine .inl ⟨m,hlt,HM.out,fun p hp=>?_,rfl,HB2.out⟩;rw [HP.out] at hp;cases hp;exact HCX.out
   | false =>
    go_wp2_with fail;go_roundw
    case rel=>exact ⟨m+1,by omega,by go_num,fun q p hq hp=>by
      by_cases h9:q=m
      ·subst h9;rw [HP.out] at hp;cases hp;exact HCX.out
      ·exact HM.out q p (by omega) hp,HB2⟩
    case measure=>simp [intOf];omega
  ·have hme:m=ps.length:=by omega
   subst hme;go_wp2_with fail
   go_ret
   refine .inr ⟨fun p hp=>?_,rfl,HB.out⟩;obtain ⟨q,hq,rfl⟩:=List.mem_iff_getElem.1 hp;exact HM.out q _ hq (List.getElem?_eq_getElem hq)
end Go.Proofs.YtcgjflamgnjhcaaGreatDoor
