/- A parser's row, over this seat's translation, at each of the functions that it is handed. Conditions: what the contracts of those functions say. -/
import Derived.Test.YtcgjflamgnjhcaaGreatDoorPrs2J
import Derived.Test.YtcgjflamgnjhcaaGreatDoorPrs7
set_option linter.unusedVariables false
set_option linter.unusedSimpArgs false
set_option maxRecDepth 100000
set_option maxHeartbeats 8000000
namespace Go.Proofs.YtcgjflamgnjhcaaGreatDoor
open Go.ChangeShapes Go.WideShapes Go.ChangeAt Go.RowKit
structure PX (w:World) (gp gm:Nat) (wv:Value) (ws:Ws) (d e:Int):Prop where
 ps:PS w gp gm wv ws d e
 tq:TabQ w
 wq:∀ x∈ws,WQ x
 lo:7≤gp
theorem lE {w w':World} {gp:Nat} (h:TabQ w) (hk:KeptB w w' (fun q=>q=gp)) (hg:7≤gp):TabQ w':=by
 have hz:=h.t.sz;have hb:Below 7 w w':=⟨hk.b0.os,hk.b0.tape,hk.b0.output,hk.b0.size,fun k hk9=>hk.block k (by omega) (by omega)⟩;have hc:∀ j,w'.cell? ⟨3,j,none⟩=w.cell? ⟨3,j,none⟩:=fun j=>hb.cell (p:=⟨3,j,none⟩) (by show 3 < 7;decide)
 refine ⟨⟨var?_below hb powG (by decide) h.t.pow,Nat.le_trans hz hb.size,?_,?_⟩,(hc 0).trans h.f0,(hc 1).trans h.f1,(hc 2).trans h.f2,(hc 3).trans h.f3⟩
 ·obtain ⟨tp,p,hv⟩:=h.t.syn;exact ⟨tp,p,var?_below hb synG (by decide) hv⟩
 ·obtain ⟨tp,p,hv⟩:=h.t.rng;exact ⟨tp,p,var?_below hb rngG (by decide) hv⟩
theorem eH {w w':World} {gp gm:Nat} {wv wv':Value} {ws ws':Ws} {d d' e e':Int} (h:PX w gp gm wv ws d e) (hk:KeptB w w' (fun q=>q=gp)) (hp:PS w' gp gm wv' ws' d' e') (hs:∀ x∈ws',x∈ws):PX w' gp gm wv' ws' d' e' :=
 ⟨hp,lE h.tq hk h.lo,fun x hx=>h.wq x (hs x hx),h.lo⟩
theorem aO {w w':World} {gp gm:Nat} {wv:Value} {ws:Ws} {d e:Int} (h:PX w gp gm wv ws d e) (hb:Below w.heap.size w w'):PX w' gp gm wv ws d e:=⟨bz h.ps hb,h.tq.below hb,h.wq,h.lo⟩
theorem cC {w w':World} {gp gm:Nat} {wv wv':Value} {ws:Ws} {d d' e e':Int} (h:PX w gp gm wv ws d e) (hk:KeptB w w' (fun q=>q=gp)) (hp:PS w' gp gm wv' [] d' e'):PX w' gp gm wv' [] d' e':=eH h hk hp (fun x hx=>by simp at hx)
theorem jo {rank:Int} {ws r:Ws} {s:Sg} (h:tkS rank ws=some (s,r)):∀ x∈r,x∈ws:=by
 cases ws with
 | nil=>simp [tkS] at h
 | cons w ws =>
  simp only [tkS] at h;cases hs:qt w with
  | none=>rw [hs] at h;cases h
  | some q =>
   rw [hs] at h
   simp only at h
   by_cases e:q.rank=rank
   ·rw [if_pos e] at h;cases h;exact fun x hx=>List.mem_cons_of_mem _ hx
   ·rw [if_neg e] at h;cases h
theorem pI {word:ByteArray} {ws r:Ws} (h:tk word ws=some r):∀ x∈r,x∈ws:=by
 cases ws with
 | nil=>simp [tk] at h
 | cons w ws =>
  simp only [tk] at h
  by_cases e:w=word
  ·rw [if_pos e] at h;cases h;exact fun x hx=>List.mem_cons_of_mem _ hx
  ·rw [if_neg e] at h;cases h
theorem mE {w:ByteArray} {s:Sg}:∀ {L:List (ByteArray×Sg)},sgIn L w=some s→∃ p∈L,p.2=s
 | [],h=>by simp [sgIn] at h
 | p :: L,h=>by
  simp only [sgIn] at h
  by_cases e:w=p.1
  ·rw [if_pos e] at h;cases h;exact ⟨p,List.mem_cons_self ..,rfl⟩
  ·rw [if_neg e] at h;obtain ⟨q,hq,e9⟩:=mE h;exact ⟨q,List.mem_cons_of_mem _ hq,e9⟩
theorem sgL_two:∀ p∈sgL,ar p.2.op=2:=by decide
theorem iT {rank:Int} {ws r:Ws} {s:Sg} (h:tkS rank ws=some (s,r)):ar s.op=2:=by
 cases ws with
 | nil=>simp [tkS] at h
 | cons w ws =>
  simp only [tkS] at h;cases hs:qt w with
  | none=>rw [hs] at h;cases h
  | some q =>
   obtain ⟨p,hp,e9⟩:=mE hs;rw [hs] at h
   simp only at h
   by_cases e:q.rank=rank
   ·rw [if_pos e] at h;cases h;rw [← e9];exact sgL_two p hp
   ·rw [if_neg e] at h;cases h
def PXR (w w':World) (gp gm:Nat) (d:Int) (r:PR) (e:Ending):Prop:=KeptB w w' (fun q=>q=gp)∧match r with
 | .ok p=>∃ v wv',e=.returned v∧NdsR w' (gp+1) v p.1∧PX w' gp gm wv' p.2 d 0
 | .error c=>∃ v wv',e=.returned v∧ErC c v∧PX w' gp gm wv' [] d c
def ek (w w':World) (gp gm:Nat) (d e:Int) (r:Ending):Prop:=KeptB w w' (fun q=>q=gp)∧∃ v wv',r=.returned v∧isSl v=true∧PX w' gp gm wv' [] d e
theorem pQ {w0 w w':World} {gp gm:Nat} {wv:Value} {ws ws':Ws} {d:Int} {r:Except Int (List Nd)} {e:Ending} (h:PX w gp gm wv ws d 0) (hs:∀ x∈ws',x∈ws) (h9:PRR w w' gp gm d (wth ws' r) e):PXR w w' gp gm d (wth ws' r) e:=by
 obtain ⟨hk,h9⟩:=h9;refine ⟨hk,?_⟩;cases r with
 | error c =>
  obtain ⟨v,wv',e9,hc,hp⟩:=h9;exact ⟨v,wv',e9,hc,cC h hk hp⟩
 | ok l =>
  obtain ⟨v,wv',e9,hn,hp⟩:=h9;exact ⟨v,wv',e9,hn,eH h hk hp hs⟩
theorem kL {inner:Ws→PR} {rank:Int} {k:Nat} {x:List Nd} {ws:Ws} {T:PR} (h:fZ inner rank k x ws=T) (hT:T≠.error 99):∃ k',k=k'+1:=by
 cases k with
 | zero=>exact absurd (by rw [← h];rfl) hT
 | succ k=>exact ⟨k,rfl⟩
def iy (w:World) (gp gm:Nat) (d rank:Int) (inner:Ws→PR) (T:PR) (v:Value):Prop :=
 (∃ x ws k wv,NdsR w (gp+1) v x∧PX w gp gm wv ws d 0∧fZ inner rank k x ws=T)∨(∃ c wv,ErC c v∧T=.error c∧PX w gp gm wv [] d c)
def RowEnd (w:World) (gp gm:Nat) (d:Int) (T:PR) (v:Value):Prop:=match T with
 | .ok p=>∃ wv',NdsR w (gp+1) v p.1∧PX w gp gm wv' p.2 d 0
 | .error c=>∃ wv',ErC c v∧PX w gp gm wv' [] d c
theorem dH {w0 w:World} {gp gm:Nat} {d:Int} {T:PR} {v:Value} (hk:KeptB w0 w (fun q=>q=gp)) (h:RowEnd w gp gm d T v):PXR w0 w gp gm d T (.returned v):=by
 refine ⟨hk,?_⟩;cases T with
 | error c =>
  obtain ⟨wv',h1,h2⟩:=h;exact ⟨v,wv',rfl,h1,h2⟩
 | ok p =>
  obtain ⟨wv',h1,h2⟩:=h;exact ⟨v,wv',rfl,h1,h2⟩
theorem bN {w w':World} {B:Nat} {v:Value} {l:List Nd} (h:NdsR w B v l) (hb:Below w.heap.size w w'):NdsR w' B v l:=aU h (ae (bad:=fun _=>False) hb) (fun k e=>e.elim)
def wlen (w:World) (gp:Nat):Nat:=match w.cell? ⟨gp,0,none⟩ with
 | some (.slice _ n _)=>n
 | _=>0
theorem oz {w:World} {gp gm:Nat} {wv:Value} {ws:Ws} {d e:Int} (h:PS w gp gm wv ws d e):wlen w gp=ws.length:=by
 obtain ⟨ao,cap,e9⟩:=aq h.row;have c0:w.cell? ⟨gp,0,none⟩=some wv:=h.bd.c 0 (by simp);unfold wlen;rw [c0,e9]
def pmeas (w:World) (gp:Nat):Nat:=wlen w gp+(match w.cell? ⟨gp,3,none⟩ with
 | some .nilIface=>1
 | _=>0)
theorem kS {w:World} {gp gm:Nat} {wv:Value} {ws:Ws} {d:Int} (h:PS w gp gm wv ws d 0):pmeas w gp=ws.length+1:=by
 have c3:w.cell? ⟨gp,3,none⟩=some .nilIface:=h.bd.c 3 (by simp);unfold pmeas;rw [oz h,c3]
theorem gB {w:World} {gp gm:Nat} {wv:Value} {d e:Int} (h:PS w gp gm wv [] d e) (he:e≠0):pmeas w gp=0:=by
 have c3:w.cell? ⟨gp,3,none⟩=some (errC e):=h.bd.c 3 (by simp);have ec:errC e=.iface 93 (.int .i64 e):=by unfold errC;rw [if_neg he]
 rw [ec] at c3;unfold pmeas;rw [oz h,c3]
 rfl
theorem row_ps_and (inner:Ws→PR) (gp gm:Nat) (d rank:Int)
  (HI:∀ wv ws w,PX w gp gm wv ws d 0→inner ws≠.error 99→Calls Tryz.prog 150 #[.pointer (some ⟨gp,0,none⟩)] w fun r w'=>PXR w w' gp gm d (inner ws) r)
  (HE:∀ wv e w,e≠0→PX w gp gm wv [] d e→Calls Tryz.prog 150 #[.pointer (some ⟨gp,0,none⟩)] w fun r w'=>ek w w' gp gm d e r)
  (HL:∀ ws y ws2,inner ws=.ok (y,ws2)→ws2.length≤ws.length)
  (k:Nat) (wv:Value) (ws:Ws) (w:World) (h:PX w gp gm wv ws d 0) (hT:rowP inner rank k ws≠.error 99) :
  Calls Tryz.prog 149 #[.pointer (some ⟨gp,0,none⟩),.int .i64 rank,.func (.func 150) #[.pointer (some ⟨gp,0,none⟩)] #[]] w fun r w'=>PXR w w' gp gm d (rowP inner rank k ws) r:=by
 have hin:inner ws≠.error 99:=fun e=>hT (by unfold rowP;rw [e])
 have H1:=aa (HI wv ws w h hin);have HIH:=aa HI;have HLH:=aa HL;clear HE HL;have hTe:∀ c,inner ws=.error c→rowP inner rank k ws=.error c:=fun c e=>by unfold rowP;rw [e]
 have hTo:∀ x ws1,inner ws=.ok (x,ws1)→rowP inner rank k ws=fZ inner rank k x ws1:=fun x ws1 e=>by unfold rowP;rw [e]
 have HTE:=aa hTe;have HTO:=aa hTo;generalize rowP inner rank k ws=T at *;have HT:=aa hT;have hlt:=h.ps.bd.lt;clear h hT hin HI hTe hTo
 go_enter Tryz.func149,Tryz.ntmps149
 go_wp2_with fail;refine H1.out.mono ?_;rintro e w1 ⟨hk1,hr1⟩;have K1:=aa hk1;have hst:∃ v,e=.returned v∧iy w1 gp gm d rank inner T v:=by
  cases hi:inner ws with
  | error c =>
   rw [hi] at hr1;obtain ⟨v,wv',e9,hc,hp⟩:=hr1;exact ⟨v,e9,.inr ⟨c,wv',hc,HTE.out c hi,hp⟩⟩
  | ok p =>
   obtain ⟨x,ws1⟩:=p;rw [hi] at hr1;obtain ⟨v,wv',e9,hn,hp⟩:=hr1;exact ⟨v,e9,.inl ⟨x,ws1,k,wv',hn,hp,(HTO.out x ws1 hi).symm⟩⟩
 obtain ⟨v1,rfl,hs1⟩:=hst;have ST1:=aa hs1;clear hs1 hr1 hk1 H1 HTE HTO;go_wp2_with fail
 go_loopw [7] (fun v wr=>Hid (KeptB w wr (fun q=>q=gp))∧Hid (iy wr gp gm d rank inner T v)) (fun _ wr=>pmeas wr gp)
 case atStart=>exact ⟨K1,ST1⟩
 case round =>
  clear K1 ST1;obtain ⟨HK,HS⟩:=hrel
  rcases HS.out with ⟨x,ws9,k9,wv9,hn,hp,hr⟩ | ⟨c,wv9,hc,hTe,hp⟩
  ·obtain ⟨k8,hk8⟩:=kL hr HT.out;subst hk8;have hlr:=hp.ps.bd.lt;have TS:=bj gp gm rank wv9 ws9 d 0 wr hp.ps;unfold dJ at TS;cases hts:tkS rank ws9 with
   | none =>
    rw [hts] at TS;have e0:sgV sg0=.agg #[.int .i64 0,.int .i64 0,.bool false,.bool false]:=rfl;rw [e0] at TS;have TSH:=aa TS;have hTv:T=.ok (x,ws9):=by
     rw [← hr];unfold fZ;rw [hts]
    have HTV:=aa hTv;have HN:=aa hn;have HP:=aa hp;clear TS e0 hts hr hn hp hTv HS;go_wp2_with fail;refine TSH.out.mono ?_;rintro e w2 ⟨rfl,hk2,hp2⟩;have K2:=aa (af HK.out hk2);have P2:=aa (eH HP.out hk2 hp2 (fun y hy=>hy));have N2:=aa (aU HN.out hk2 (fun q e9=>by omega));have BA:=aa (aj w2 (.cells #[.int .i64 0,.int .i64 0,.bool false,.bool false] 176));clear hk2 hp2 TSH;go_wp2_with fail
    go_ret
    refine dH (af K2.out (ae BA.out)) ?_;rw [HTV.out];exact ⟨wv9,bN N2.out BA.out,aO P2.out BA.out⟩
   | some p9 =>
    obtain ⟨s,ws1⟩:=p9;rw [hts] at TS
    simp only at TS
    have e0:sgV s=.agg #[.int .i64 s.rank,.int .i64 s.op,.bool s.turned,.bool s.denied]:=rfl;rw [e0] at TS;have TSH:=aa TS;have h2:=aa (iT hts);have hsub:=aa (jo hts);have hlen:=aa (fC hts);have hne:inner ws1≠.error 99:=fun e=>by
     apply HT.out
     rw [← hr];unfold fZ;rw [hts];simp only [e]
    have HNE:=aa hne;have hrE:∀ c,inner ws1=.error c→T=.error c:=fun c e=>by
     rw [← hr];unfold fZ;rw [hts];simp only [e]
    have hrO:∀ y ws2,inner ws1=.ok (y,ws2)→T=match jnS s x y with
      | .error c=>.error c
      | .ok z=>fZ inner rank k8 z ws2:=fun y ws2 e=>by
     rw [← hr]
     conv=>lhs;unfold fZ
     rw [hts];simp only [e];cases jnS s x y <;> rfl
    have HRE:=aa hrE;have HRO:=aa hrO;have HN:=aa hn;have HP:=aa hp;have PM:=aa (kS hp.ps);have HFEW:Hid (∀ y ws2,inner ws1=.ok (y,ws2)→ws2.length≤ws1.length):=HLH.out ws1;clear TS e0 hts hr hn hp HS hne hrE hrO;go_wp2_with fail;refine TSH.out.mono ?_;rintro e w2 ⟨rfl,hk2,wv2,hp2⟩;have K2:=aa (af HK.out hk2);have P2:=aa (eH HP.out hk2 hp2 hsub.out);have N2:=aa (aU HN.out hk2 (fun q e9=>by omega));have BA:=aa (aj w2 (.cells #[.int .i64 s.rank,.int .i64 s.op,.bool s.turned,.bool s.denied] 176));have BL:=aa (az w2 [.int .i64 s.rank,.int .i64 s.op,.bool s.turned,.bool s.denied] 176);have hg2:=hp2.bd.lt;clear hk2 hp2 TSH HN HP;go_wp2_with fail;have P3:=aa (aO P2.out BA.out);have N3:=aa (bN N2.out BA.out);have K3:=aa (af K2.out (ae (bad:=fun q=>q=gp) BA.out));generalize hg8:w2.heap.size=g8 at *;generalize w2.alloc (.cells #[.int .i64 s.rank,.int .i64 s.op,.bool s.turned,.bool s.denied] 176)=w3 at *;have l8:=BL.out.lt;have n8:¬ g8=gp:=by omega
    have y0:=BL.out.c 0 (by simp);have y1:=BL.out.c 1 (by simp);have y2:=BL.out.c 2 (by simp);have y3:=BL.out.c 3 (by simp);simp only [List.getElem?_cons_zero,List.getElem?_cons_succ] at y0 y1 y2 y3;have dd:Below w3.heap.size w3 ({ w3 with drawn:=w3.drawn+1 }:World):=(Below.refl _ _).drew;have HIN:=aa (HIH.out wv2 ws1 _ (aO P3.out dd) HNE.out);have hS:KeptB w3 ({ w3 with drawn:=w3.drawn+1 }:World) (fun q=>q=gp):=ae dd;have P4:=aa (aO P3.out dd);have N4:=aa (bN N3.out dd);clear dd P2 N2 BA BL;refine wp_region_held (S:=fun w'=>KeptB w3 w' (fun q=>q=gp)) (by kernel_rfl) ?_;generalize ({ w3 with drawn:=w3.drawn+1 }:World)=wd at *;refine HU 0 (v:=.pointer (some ⟨gp,0,none⟩)) rfl (fun wq hq=>by go_simp) hS ?_;refine HU 1 (v:=.agg #[.int .i64 s.rank,.int .i64 s.op,.bool s.turned,.bool s.denied]) rfl (fun wq hq=>by have q0:=(aB hq 0 l8 n8).trans y0;have q1:=(aB hq 1 l8 n8).trans y1;have q2:=(aB hq 2 l8 n8).trans y2;have q3:=(aB hq 3 l8 n8).trans y3;go_simp) hS ?_;refine HU 2 (v:=u7) rfl (fun wq hq=>by go_simp) hS ?_;refine HU 3 (v:=.func (.func 150) #[.pointer (some ⟨gp,0,none⟩)] #[]) rfl (fun wq hq=>by go_simp) hS ?_;refine HG 4 rfl ?_;intro K' hK;go_simp;refine HIN.out.mono ?_;rintro e w4 ⟨hk4,hr4⟩;have hS4:=af hS hk4;have hst:∃ v4,e=.returned v4∧∀ v5,v5=v4→Calls Tryz.prog 167 #[.pointer (some ⟨gp,0,none⟩),.agg #[.int .i64 s.rank,.int .i64 s.op,.bool s.turned,.bool s.denied],u7,v4] w4 fun e w5=>∃ v6,e=.returned v6∧KeptB w4 w5 (fun q=>q=gp)∧iy w5 gp gm d rank inner T v6∧pmeas w5 gp < ws9.length+1:=by
     cases hi:inner ws1 with
     | error c =>
      rw [hi] at hr4;obtain ⟨v4,wv4,e9,hc,hp4⟩:=hr4;refine ⟨v4,e9,fun v5 _=>?_⟩;refine (eM gp gm s u7 v4 wv4 [] d c hc.1 w4 hp4.ps).mono ?_;rintro e5 w5 ⟨hk5,v6,wv6,e6,hs6,hp6⟩;exact ⟨v6,e6,hk5,.inr ⟨c,wv6,⟨hc.1,hs6⟩,HRE.out c hi,cC hp4 hk5 hp6⟩,by rw [gB hp6 hc.1];omega⟩
     | ok p4 =>
      obtain ⟨y,ws2⟩:=p4;rw [hi] at hr4;obtain ⟨v4,wv4,e9,hn4,hp4⟩:=hr4;refine ⟨v4,e9,fun v5 _=>?_⟩;refine (fu gp gm s h2.out u7 v4 wv4 x y ws2 d w4 hp4.ps (aU N4.out hk4 (fun q e9=>by omega)) hn4).mono ?_;rintro e5 w5 ⟨hk5,hr5⟩;have hro:=HRO.out y ws2 hi;cases hj:jnS s x y with
      | error c =>
       rw [hj] at hr5 hro;obtain ⟨v6,wv6,e6,hc,hp6⟩:=hr5;exact ⟨v6,e6,hk5,.inr ⟨c,wv6,hc,hro,cC hp4 hk5 hp6⟩,by rw [gB hp6 hc.1];omega⟩
      | ok z =>
       rw [hj] at hr5 hro;obtain ⟨v6,wv6,e6,hn6,hp6⟩:=hr5;refine ⟨v6,e6,hk5,.inl ⟨z,ws2,k8,wv6,hn6,eH hp4 hk5 hp6 (fun y hy=>hy),hro.symm⟩,?_⟩;rw [kS hp6]
       show ws2.length+1 < ws9.length+1
       have h7:=HFEW.out y ws2 hi;have h8:=hlen.out;omega
    obtain ⟨v4,rfl,hjb⟩:=hst;have JB:=aa (hjb v4 rfl);clear HIN hr4 hk4 hjb;refine hK _ _ ⟨hS4,?_⟩;clear hK;refine HG 5 rfl ?_;intro K' hK;go_simp;refine JB.out.mono ?_;rintro e w5 ⟨v6,rfl,hk5,hs5,hm5⟩;have hS5:=af hS4 hk5;have HS5:=aa hs5;have HM5:=aa hm5;clear JB hs5 hm5 hk5;refine hK _ _ ⟨hS5,?_⟩;clear hK;refine HG 6 rfl ?_;intro K' hK;go_simp;refine hK _ _ ⟨hS5,?_⟩;clear hK;refine wpAnyH_done (by kernel_rfl) ?_ _;have K5:=aa (af K3.out hS5);clear hS hS4 hS5 y0 y1 y2 y3;go_wp2_with fail;go_roundw
    case rel=>exact ⟨K5,HS5⟩
    case measure=>rw [PM.out];exact HM5.out
  ·have TS:=bj gp gm rank wv9 [] d c wr hp.ps;unfold dJ at TS;have e0:sgV sg0=.agg #[.int .i64 0,.int .i64 0,.bool false,.bool false]:=rfl;have e1:tkS rank []=none:=rfl;rw [e1,e0] at TS;have TSH:=aa TS;have HC:=aa hc;have HTV:=aa hTe;have HP:=aa hp;clear TS e0 e1 hc hTe hp HS;go_wp2_with fail;refine TSH.out.mono ?_;rintro e w2 ⟨rfl,hk2,hp2⟩;have K2:=aa (af HK.out hk2);have P2:=aa (cC HP.out hk2 hp2);have BA:=aa (aj w2 (.cells #[.int .i64 0,.int .i64 0,.bool false,.bool false] 176));clear hk2 hp2 TSH;go_wp2_with fail
   go_ret
   refine dH (af K2.out (ae BA.out)) ?_;rw [HTV.out];exact ⟨wv9,HC.out,aO P2.out BA.out⟩
theorem row_ps_not (inner:Ws→PR) (gp gm:Nat) (d rank:Int)
  (HI:∀ wv ws w,PX w gp gm wv ws d 0→inner ws≠.error 99→Calls Tryz.prog 168 #[.pointer (some ⟨gp,0,none⟩)] w fun r w'=>PXR w w' gp gm d (inner ws) r)
  (HE:∀ wv e w,e≠0→PX w gp gm wv [] d e→Calls Tryz.prog 168 #[.pointer (some ⟨gp,0,none⟩)] w fun r w'=>ek w w' gp gm d e r)
  (HL:∀ ws y ws2,inner ws=.ok (y,ws2)→ws2.length≤ws.length)
  (k:Nat) (wv:Value) (ws:Ws) (w:World) (h:PX w gp gm wv ws d 0) (hT:rowP inner rank k ws≠.error 99) :
  Calls Tryz.prog 149 #[.pointer (some ⟨gp,0,none⟩),.int .i64 rank,.func (.func 168) #[.pointer (some ⟨gp,0,none⟩)] #[]] w fun r w'=>PXR w w' gp gm d (rowP inner rank k ws) r:=by
 have hin:inner ws≠.error 99:=fun e=>hT (by unfold rowP;rw [e])
 have H1:=aa (HI wv ws w h hin);have HIH:=aa HI;have HLH:=aa HL;clear HE HL;have hTe:∀ c,inner ws=.error c→rowP inner rank k ws=.error c:=fun c e=>by unfold rowP;rw [e]
 have hTo:∀ x ws1,inner ws=.ok (x,ws1)→rowP inner rank k ws=fZ inner rank k x ws1:=fun x ws1 e=>by unfold rowP;rw [e]
 have HTE:=aa hTe;have HTO:=aa hTo;generalize rowP inner rank k ws=T at *;have HT:=aa hT;have hlt:=h.ps.bd.lt;clear h hT hin HI hTe hTo
 go_enter Tryz.func149,Tryz.ntmps149
 go_wp2_with fail;refine H1.out.mono ?_;rintro e w1 ⟨hk1,hr1⟩;have K1:=aa hk1;have hst:∃ v,e=.returned v∧iy w1 gp gm d rank inner T v:=by
  cases hi:inner ws with
  | error c =>
   rw [hi] at hr1;obtain ⟨v,wv',e9,hc,hp⟩:=hr1;exact ⟨v,e9,.inr ⟨c,wv',hc,HTE.out c hi,hp⟩⟩
  | ok p =>
   obtain ⟨x,ws1⟩:=p;rw [hi] at hr1;obtain ⟨v,wv',e9,hn,hp⟩:=hr1;exact ⟨v,e9,.inl ⟨x,ws1,k,wv',hn,hp,(HTO.out x ws1 hi).symm⟩⟩
 obtain ⟨v1,rfl,hs1⟩:=hst;have ST1:=aa hs1;clear hs1 hr1 hk1 H1 HTE HTO;go_wp2_with fail
 go_loopw [7] (fun v wr=>Hid (KeptB w wr (fun q=>q=gp))∧Hid (iy wr gp gm d rank inner T v)) (fun _ wr=>pmeas wr gp)
 case atStart=>exact ⟨K1,ST1⟩
 case round =>
  clear K1 ST1;obtain ⟨HK,HS⟩:=hrel
  rcases HS.out with ⟨x,ws9,k9,wv9,hn,hp,hr⟩ | ⟨c,wv9,hc,hTe,hp⟩
  ·obtain ⟨k8,hk8⟩:=kL hr HT.out;subst hk8;have hlr:=hp.ps.bd.lt;have TS:=bj gp gm rank wv9 ws9 d 0 wr hp.ps;unfold dJ at TS;cases hts:tkS rank ws9 with
   | none =>
    rw [hts] at TS;have e0:sgV sg0=.agg #[.int .i64 0,.int .i64 0,.bool false,.bool false]:=rfl;rw [e0] at TS;have TSH:=aa TS;have hTv:T=.ok (x,ws9):=by
     rw [← hr];unfold fZ;rw [hts]
    have HTV:=aa hTv;have HN:=aa hn;have HP:=aa hp;clear TS e0 hts hr hn hp hTv HS;go_wp2_with fail;refine TSH.out.mono ?_;rintro e w2 ⟨rfl,hk2,hp2⟩;have K2:=aa (af HK.out hk2);have P2:=aa (eH HP.out hk2 hp2 (fun y hy=>hy));have N2:=aa (aU HN.out hk2 (fun q e9=>by omega));have BA:=aa (aj w2 (.cells #[.int .i64 0,.int .i64 0,.bool false,.bool false] 176));clear hk2 hp2 TSH;go_wp2_with fail
    go_ret
    refine dH (af K2.out (ae BA.out)) ?_;rw [HTV.out];exact ⟨wv9,bN N2.out BA.out,aO P2.out BA.out⟩
   | some p9 =>
    obtain ⟨s,ws1⟩:=p9;rw [hts] at TS
    simp only at TS
    have e0:sgV s=.agg #[.int .i64 s.rank,.int .i64 s.op,.bool s.turned,.bool s.denied]:=rfl;rw [e0] at TS;have TSH:=aa TS;have h2:=aa (iT hts);have hsub:=aa (jo hts);have hlen:=aa (fC hts);have hne:inner ws1≠.error 99:=fun e=>by
     apply HT.out
     rw [← hr];unfold fZ;rw [hts];simp only [e]
    have HNE:=aa hne;have hrE:∀ c,inner ws1=.error c→T=.error c:=fun c e=>by
     rw [← hr];unfold fZ;rw [hts];simp only [e]
    have hrO:∀ y ws2,inner ws1=.ok (y,ws2)→T=match jnS s x y with
      | .error c=>.error c
      | .ok z=>fZ inner rank k8 z ws2:=fun y ws2 e=>by
     rw [← hr]
     conv=>lhs;unfold fZ
     rw [hts];simp only [e];cases jnS s x y <;> rfl
    have HRE:=aa hrE;have HRO:=aa hrO;have HN:=aa hn;have HP:=aa hp;have PM:=aa (kS hp.ps);have HFEW:Hid (∀ y ws2,inner ws1=.ok (y,ws2)→ws2.length≤ws1.length):=HLH.out ws1;clear TS e0 hts hr hn hp HS hne hrE hrO;go_wp2_with fail;refine TSH.out.mono ?_;rintro e w2 ⟨rfl,hk2,wv2,hp2⟩;have K2:=aa (af HK.out hk2);have P2:=aa (eH HP.out hk2 hp2 hsub.out);have N2:=aa (aU HN.out hk2 (fun q e9=>by omega));have BA:=aa (aj w2 (.cells #[.int .i64 s.rank,.int .i64 s.op,.bool s.turned,.bool s.denied] 176));have BL:=aa (az w2 [.int .i64 s.rank,.int .i64 s.op,.bool s.turned,.bool s.denied] 176);have hg2:=hp2.bd.lt;clear hk2 hp2 TSH HN HP;go_wp2_with fail;have P3:=aa (aO P2.out BA.out);have N3:=aa (bN N2.out BA.out);have K3:=aa (af K2.out (ae (bad:=fun q=>q=gp) BA.out));generalize hg8:w2.heap.size=g8 at *;generalize w2.alloc (.cells #[.int .i64 s.rank,.int .i64 s.op,.bool s.turned,.bool s.denied] 176)=w3 at *;have l8:=BL.out.lt;have n8:¬ g8=gp:=by omega
    have y0:=BL.out.c 0 (by simp);have y1:=BL.out.c 1 (by simp);have y2:=BL.out.c 2 (by simp);have y3:=BL.out.c 3 (by simp);simp only [List.getElem?_cons_zero,List.getElem?_cons_succ] at y0 y1 y2 y3;have dd:Below w3.heap.size w3 ({ w3 with drawn:=w3.drawn+1 }:World):=(Below.refl _ _).drew;have HIN:=aa (HIH.out wv2 ws1 _ (aO P3.out dd) HNE.out);have hS:KeptB w3 ({ w3 with drawn:=w3.drawn+1 }:World) (fun q=>q=gp):=ae dd;have P4:=aa (aO P3.out dd);have N4:=aa (bN N3.out dd);clear dd P2 N2 BA BL;refine wp_region_held (S:=fun w'=>KeptB w3 w' (fun q=>q=gp)) (by kernel_rfl) ?_;generalize ({ w3 with drawn:=w3.drawn+1 }:World)=wd at *;refine HU 0 (v:=.pointer (some ⟨gp,0,none⟩)) rfl (fun wq hq=>by go_simp) hS ?_;refine HU 1 (v:=.agg #[.int .i64 s.rank,.int .i64 s.op,.bool s.turned,.bool s.denied]) rfl (fun wq hq=>by have q0:=(aB hq 0 l8 n8).trans y0;have q1:=(aB hq 1 l8 n8).trans y1;have q2:=(aB hq 2 l8 n8).trans y2;have q3:=(aB hq 3 l8 n8).trans y3;go_simp) hS ?_;refine HU 2 (v:=u7) rfl (fun wq hq=>by go_simp) hS ?_;refine HU 3 (v:=.func (.func 168) #[.pointer (some ⟨gp,0,none⟩)] #[]) rfl (fun wq hq=>by go_simp) hS ?_;refine HG 4 rfl ?_;intro K' hK;go_simp;refine HIN.out.mono ?_;rintro e w4 ⟨hk4,hr4⟩;have hS4:=af hS hk4;have hst:∃ v4,e=.returned v4∧∀ v5,v5=v4→Calls Tryz.prog 167 #[.pointer (some ⟨gp,0,none⟩),.agg #[.int .i64 s.rank,.int .i64 s.op,.bool s.turned,.bool s.denied],u7,v4] w4 fun e w5=>∃ v6,e=.returned v6∧KeptB w4 w5 (fun q=>q=gp)∧iy w5 gp gm d rank inner T v6∧pmeas w5 gp < ws9.length+1:=by
     cases hi:inner ws1 with
     | error c =>
      rw [hi] at hr4;obtain ⟨v4,wv4,e9,hc,hp4⟩:=hr4;refine ⟨v4,e9,fun v5 _=>?_⟩;refine (eM gp gm s u7 v4 wv4 [] d c hc.1 w4 hp4.ps).mono ?_;rintro e5 w5 ⟨hk5,v6,wv6,e6,hs6,hp6⟩;exact ⟨v6,e6,hk5,.inr ⟨c,wv6,⟨hc.1,hs6⟩,HRE.out c hi,cC hp4 hk5 hp6⟩,by rw [gB hp6 hc.1];omega⟩
     | ok p4 =>
      obtain ⟨y,ws2⟩:=p4;rw [hi] at hr4;obtain ⟨v4,wv4,e9,hn4,hp4⟩:=hr4;refine ⟨v4,e9,fun v5 _=>?_⟩;refine (fu gp gm s h2.out u7 v4 wv4 x y ws2 d w4 hp4.ps (aU N4.out hk4 (fun q e9=>by omega)) hn4).mono ?_;rintro e5 w5 ⟨hk5,hr5⟩;have hro:=HRO.out y ws2 hi;cases hj:jnS s x y with
      | error c =>
       rw [hj] at hr5 hro;obtain ⟨v6,wv6,e6,hc,hp6⟩:=hr5;exact ⟨v6,e6,hk5,.inr ⟨c,wv6,hc,hro,cC hp4 hk5 hp6⟩,by rw [gB hp6 hc.1];omega⟩
      | ok z =>
       rw [hj] at hr5 hro;obtain ⟨v6,wv6,e6,hn6,hp6⟩:=hr5;refine ⟨v6,e6,hk5,.inl ⟨z,ws2,k8,wv6,hn6,eH hp4 hk5 hp6 (fun y hy=>hy),hro.symm⟩,?_⟩;rw [kS hp6]
       show ws2.length+1 < ws9.length+1
       have h7:=HFEW.out y ws2 hi;have h8:=hlen.out;omega
    obtain ⟨v4,rfl,hjb⟩:=hst;have JB:=aa (hjb v4 rfl);clear HIN hr4 hk4 hjb;refine hK _ _ ⟨hS4,?_⟩;clear hK;refine HG 5 rfl ?_;intro K' hK;go_simp;refine JB.out.mono ?_;rintro e w5 ⟨v6,rfl,hk5,hs5,hm5⟩;have hS5:=af hS4 hk5;have HS5:=aa hs5;have HM5:=aa hm5;clear JB hs5 hm5 hk5;refine hK _ _ ⟨hS5,?_⟩;clear hK;refine HG 6 rfl ?_;intro K' hK;go_simp;refine hK _ _ ⟨hS5,?_⟩;clear hK;refine wpAnyH_done (by kernel_rfl) ?_ _;have K5:=aa (af K3.out hS5);clear hS hS4 hS5 y0 y1 y2 y3;go_wp2_with fail;go_roundw
    case rel=>exact ⟨K5,HS5⟩
    case measure=>rw [PM.out];exact HM5.out
  ·have TS:=bj gp gm rank wv9 [] d c wr hp.ps;unfold dJ at TS;have e0:sgV sg0=.agg #[.int .i64 0,.int .i64 0,.bool false,.bool false]:=rfl;have e1:tkS rank []=none:=rfl;rw [e1,e0] at TS;have TSH:=aa TS;have HC:=aa hc;have HTV:=aa hTe;have HP:=aa hp;clear TS e0 e1 hc hTe hp HS;go_wp2_with fail;refine TSH.out.mono ?_;rintro e w2 ⟨rfl,hk2,hp2⟩;have K2:=aa (af HK.out hk2);have P2:=aa (cC HP.out hk2 hp2);have BA:=aa (aj w2 (.cells #[.int .i64 0,.int .i64 0,.bool false,.bool false] 176));clear hk2 hp2 TSH;go_wp2_with fail
   go_ret
   refine dH (af K2.out (ae BA.out)) ?_;rw [HTV.out];exact ⟨wv9,HC.out,aO P2.out BA.out⟩
theorem row_ps_product (inner:Ws→PR) (gp gm:Nat) (d rank:Int)
  (HI:∀ wv ws w,PX w gp gm wv ws d 0→inner ws≠.error 99→Calls Tryz.prog 199 #[.pointer (some ⟨gp,0,none⟩)] w fun r w'=>PXR w w' gp gm d (inner ws) r)
  (HE:∀ wv e w,e≠0→PX w gp gm wv [] d e→Calls Tryz.prog 199 #[.pointer (some ⟨gp,0,none⟩)] w fun r w'=>ek w w' gp gm d e r)
  (HL:∀ ws y ws2,inner ws=.ok (y,ws2)→ws2.length≤ws.length)
  (k:Nat) (wv:Value) (ws:Ws) (w:World) (h:PX w gp gm wv ws d 0) (hT:rowP inner rank k ws≠.error 99) :
  Calls Tryz.prog 149 #[.pointer (some ⟨gp,0,none⟩),.int .i64 rank,.func (.func 199) #[.pointer (some ⟨gp,0,none⟩)] #[]] w fun r w'=>PXR w w' gp gm d (rowP inner rank k ws) r:=by
 have hin:inner ws≠.error 99:=fun e=>hT (by unfold rowP;rw [e])
 have H1:=aa (HI wv ws w h hin);have HIH:=aa HI;have HLH:=aa HL;clear HE HL;have hTe:∀ c,inner ws=.error c→rowP inner rank k ws=.error c:=fun c e=>by unfold rowP;rw [e]
 have hTo:∀ x ws1,inner ws=.ok (x,ws1)→rowP inner rank k ws=fZ inner rank k x ws1:=fun x ws1 e=>by unfold rowP;rw [e]
 have HTE:=aa hTe;have HTO:=aa hTo;generalize rowP inner rank k ws=T at *;have HT:=aa hT;have hlt:=h.ps.bd.lt;clear h hT hin HI hTe hTo
 go_enter Tryz.func149,Tryz.ntmps149
 go_wp2_with fail;refine H1.out.mono ?_;rintro e w1 ⟨hk1,hr1⟩;have K1:=aa hk1;have hst:∃ v,e=.returned v∧iy w1 gp gm d rank inner T v:=by
  cases hi:inner ws with
  | error c =>
   rw [hi] at hr1;obtain ⟨v,wv',e9,hc,hp⟩:=hr1;exact ⟨v,e9,.inr ⟨c,wv',hc,HTE.out c hi,hp⟩⟩
  | ok p =>
   obtain ⟨x,ws1⟩:=p;rw [hi] at hr1;obtain ⟨v,wv',e9,hn,hp⟩:=hr1;exact ⟨v,e9,.inl ⟨x,ws1,k,wv',hn,hp,(HTO.out x ws1 hi).symm⟩⟩
 obtain ⟨v1,rfl,hs1⟩:=hst;have ST1:=aa hs1;clear hs1 hr1 hk1 H1 HTE HTO;go_wp2_with fail
 go_loopw [7] (fun v wr=>Hid (KeptB w wr (fun q=>q=gp))∧Hid (iy wr gp gm d rank inner T v)) (fun _ wr=>pmeas wr gp)
 case atStart=>exact ⟨K1,ST1⟩
 case round =>
  clear K1 ST1;obtain ⟨HK,HS⟩:=hrel
  rcases HS.out with ⟨x,ws9,k9,wv9,hn,hp,hr⟩ | ⟨c,wv9,hc,hTe,hp⟩
  ·obtain ⟨k8,hk8⟩:=kL hr HT.out;subst hk8;have hlr:=hp.ps.bd.lt;have TS:=bj gp gm rank wv9 ws9 d 0 wr hp.ps;unfold dJ at TS;cases hts:tkS rank ws9 with
   | none =>
    rw [hts] at TS;have e0:sgV sg0=.agg #[.int .i64 0,.int .i64 0,.bool false,.bool false]:=rfl;rw [e0] at TS;have TSH:=aa TS;have hTv:T=.ok (x,ws9):=by
     rw [← hr];unfold fZ;rw [hts]
    have HTV:=aa hTv;have HN:=aa hn;have HP:=aa hp;clear TS e0 hts hr hn hp hTv HS;go_wp2_with fail;refine TSH.out.mono ?_;rintro e w2 ⟨rfl,hk2,hp2⟩;have K2:=aa (af HK.out hk2);have P2:=aa (eH HP.out hk2 hp2 (fun y hy=>hy));have N2:=aa (aU HN.out hk2 (fun q e9=>by omega));have BA:=aa (aj w2 (.cells #[.int .i64 0,.int .i64 0,.bool false,.bool false] 176));clear hk2 hp2 TSH;go_wp2_with fail
    go_ret
    refine dH (af K2.out (ae BA.out)) ?_;rw [HTV.out];exact ⟨wv9,bN N2.out BA.out,aO P2.out BA.out⟩
   | some p9 =>
    obtain ⟨s,ws1⟩:=p9;rw [hts] at TS
    simp only at TS
    have e0:sgV s=.agg #[.int .i64 s.rank,.int .i64 s.op,.bool s.turned,.bool s.denied]:=rfl;rw [e0] at TS;have TSH:=aa TS;have h2:=aa (iT hts);have hsub:=aa (jo hts);have hlen:=aa (fC hts);have hne:inner ws1≠.error 99:=fun e=>by
     apply HT.out
     rw [← hr];unfold fZ;rw [hts];simp only [e]
    have HNE:=aa hne;have hrE:∀ c,inner ws1=.error c→T=.error c:=fun c e=>by
     rw [← hr];unfold fZ;rw [hts];simp only [e]
    have hrO:∀ y ws2,inner ws1=.ok (y,ws2)→T=match jnS s x y with
      | .error c=>.error c
      | .ok z=>fZ inner rank k8 z ws2:=fun y ws2 e=>by
     rw [← hr]
     conv=>lhs;unfold fZ
     rw [hts];simp only [e];cases jnS s x y <;> rfl
    have HRE:=aa hrE;have HRO:=aa hrO;have HN:=aa hn;have HP:=aa hp;have PM:=aa (kS hp.ps);have HFEW:Hid (∀ y ws2,inner ws1=.ok (y,ws2)→ws2.length≤ws1.length):=HLH.out ws1;clear TS e0 hts hr hn hp HS hne hrE hrO;go_wp2_with fail;refine TSH.out.mono ?_;rintro e w2 ⟨rfl,hk2,wv2,hp2⟩;have K2:=aa (af HK.out hk2);have P2:=aa (eH HP.out hk2 hp2 hsub.out);have N2:=aa (aU HN.out hk2 (fun q e9=>by omega));have BA:=aa (aj w2 (.cells #[.int .i64 s.rank,.int .i64 s.op,.bool s.turned,.bool s.denied] 176));have BL:=aa (az w2 [.int .i64 s.rank,.int .i64 s.op,.bool s.turned,.bool s.denied] 176);have hg2:=hp2.bd.lt;clear hk2 hp2 TSH HN HP;go_wp2_with fail;have P3:=aa (aO P2.out BA.out);have N3:=aa (bN N2.out BA.out);have K3:=aa (af K2.out (ae (bad:=fun q=>q=gp) BA.out));generalize hg8:w2.heap.size=g8 at *;generalize w2.alloc (.cells #[.int .i64 s.rank,.int .i64 s.op,.bool s.turned,.bool s.denied] 176)=w3 at *;have l8:=BL.out.lt;have n8:¬ g8=gp:=by omega
    have y0:=BL.out.c 0 (by simp);have y1:=BL.out.c 1 (by simp);have y2:=BL.out.c 2 (by simp);have y3:=BL.out.c 3 (by simp);simp only [List.getElem?_cons_zero,List.getElem?_cons_succ] at y0 y1 y2 y3;have dd:Below w3.heap.size w3 ({ w3 with drawn:=w3.drawn+1 }:World):=(Below.refl _ _).drew;have HIN:=aa (HIH.out wv2 ws1 _ (aO P3.out dd) HNE.out);have hS:KeptB w3 ({ w3 with drawn:=w3.drawn+1 }:World) (fun q=>q=gp):=ae dd;have P4:=aa (aO P3.out dd);have N4:=aa (bN N3.out dd);clear dd P2 N2 BA BL;refine wp_region_held (S:=fun w'=>KeptB w3 w' (fun q=>q=gp)) (by kernel_rfl) ?_;generalize ({ w3 with drawn:=w3.drawn+1 }:World)=wd at *;refine HU 0 (v:=.pointer (some ⟨gp,0,none⟩)) rfl (fun wq hq=>by go_simp) hS ?_;refine HU 1 (v:=.agg #[.int .i64 s.rank,.int .i64 s.op,.bool s.turned,.bool s.denied]) rfl (fun wq hq=>by have q0:=(aB hq 0 l8 n8).trans y0;have q1:=(aB hq 1 l8 n8).trans y1;have q2:=(aB hq 2 l8 n8).trans y2;have q3:=(aB hq 3 l8 n8).trans y3;go_simp) hS ?_;refine HU 2 (v:=u7) rfl (fun wq hq=>by go_simp) hS ?_;refine HU 3 (v:=.func (.func 199) #[.pointer (some ⟨gp,0,none⟩)] #[]) rfl (fun wq hq=>by go_simp) hS ?_;refine HG 4 rfl ?_;intro K' hK;go_simp;refine HIN.out.mono ?_;rintro e w4 ⟨hk4,hr4⟩;have hS4:=af hS hk4;have hst:∃ v4,e=.returned v4∧∀ v5,v5=v4→Calls Tryz.prog 167 #[.pointer (some ⟨gp,0,none⟩),.agg #[.int .i64 s.rank,.int .i64 s.op,.bool s.turned,.bool s.denied],u7,v4] w4 fun e w5=>∃ v6,e=.returned v6∧KeptB w4 w5 (fun q=>q=gp)∧iy w5 gp gm d rank inner T v6∧pmeas w5 gp < ws9.length+1:=by
     cases hi:inner ws1 with
     | error c =>
      rw [hi] at hr4;obtain ⟨v4,wv4,e9,hc,hp4⟩:=hr4;refine ⟨v4,e9,fun v5 _=>?_⟩;refine (eM gp gm s u7 v4 wv4 [] d c hc.1 w4 hp4.ps).mono ?_;rintro e5 w5 ⟨hk5,v6,wv6,e6,hs6,hp6⟩;exact ⟨v6,e6,hk5,.inr ⟨c,wv6,⟨hc.1,hs6⟩,HRE.out c hi,cC hp4 hk5 hp6⟩,by rw [gB hp6 hc.1];omega⟩
     | ok p4 =>
      obtain ⟨y,ws2⟩:=p4;rw [hi] at hr4;obtain ⟨v4,wv4,e9,hn4,hp4⟩:=hr4;refine ⟨v4,e9,fun v5 _=>?_⟩;refine (fu gp gm s h2.out u7 v4 wv4 x y ws2 d w4 hp4.ps (aU N4.out hk4 (fun q e9=>by omega)) hn4).mono ?_;rintro e5 w5 ⟨hk5,hr5⟩;have hro:=HRO.out y ws2 hi;cases hj:jnS s x y with
      | error c =>
       rw [hj] at hr5 hro;obtain ⟨v6,wv6,e6,hc,hp6⟩:=hr5;exact ⟨v6,e6,hk5,.inr ⟨c,wv6,hc,hro,cC hp4 hk5 hp6⟩,by rw [gB hp6 hc.1];omega⟩
      | ok z =>
       rw [hj] at hr5 hro;obtain ⟨v6,wv6,e6,hn6,hp6⟩:=hr5;refine ⟨v6,e6,hk5,.inl ⟨z,ws2,k8,wv6,hn6,eH hp4 hk5 hp6 (fun y hy=>hy),hro.symm⟩,?_⟩;rw [kS hp6]
       show ws2.length+1 < ws9.length+1
       have h7:=HFEW.out y ws2 hi;have h8:=hlen.out;omega
    obtain ⟨v4,rfl,hjb⟩:=hst;have JB:=aa (hjb v4 rfl);clear HIN hr4 hk4 hjb;refine hK _ _ ⟨hS4,?_⟩;clear hK;refine HG 5 rfl ?_;intro K' hK;go_simp;refine JB.out.mono ?_;rintro e w5 ⟨v6,rfl,hk5,hs5,hm5⟩;have hS5:=af hS4 hk5;have HS5:=aa hs5;have HM5:=aa hm5;clear JB hs5 hm5 hk5;refine hK _ _ ⟨hS5,?_⟩;clear hK;refine HG 6 rfl ?_;intro K' hK;go_simp;refine hK _ _ ⟨hS5,?_⟩;clear hK;refine wpAnyH_done (by kernel_rfl) ?_ _;have K5:=aa (af K3.out hS5);clear hS hS4 hS5 y0 y1 y2 y3;go_wp2_with fail;go_roundw
    case rel=>exact ⟨K5,HS5⟩
    case measure=>rw [PM.out];exact HM5.out
  ·have TS:=bj gp gm rank wv9 [] d c wr hp.ps;unfold dJ at TS;have e0:sgV sg0=.agg #[.int .i64 0,.int .i64 0,.bool false,.bool false]:=rfl;have e1:tkS rank []=none:=rfl;rw [e1,e0] at TS;have TSH:=aa TS;have HC:=aa hc;have HTV:=aa hTe;have HP:=aa hp;clear TS e0 e1 hc hTe hp HS;go_wp2_with fail;refine TSH.out.mono ?_;rintro e w2 ⟨rfl,hk2,hp2⟩;have K2:=aa (af HK.out hk2);have P2:=aa (cC HP.out hk2 hp2);have BA:=aa (aj w2 (.cells #[.int .i64 0,.int .i64 0,.bool false,.bool false] 176));clear hk2 hp2 TSH;go_wp2_with fail
   go_ret
   refine dH (af K2.out (ae BA.out)) ?_;rw [HTV.out];exact ⟨wv9,HC.out,aO P2.out BA.out⟩
theorem row_ps_unary (inner:Ws→PR) (gp gm:Nat) (d rank:Int)
  (HI:∀ wv ws w,PX w gp gm wv ws d 0→inner ws≠.error 99→Calls Tryz.prog 204 #[.pointer (some ⟨gp,0,none⟩)] w fun r w'=>PXR w w' gp gm d (inner ws) r)
  (HE:∀ wv e w,e≠0→PX w gp gm wv [] d e→Calls Tryz.prog 204 #[.pointer (some ⟨gp,0,none⟩)] w fun r w'=>ek w w' gp gm d e r)
  (HL:∀ ws y ws2,inner ws=.ok (y,ws2)→ws2.length≤ws.length)
  (k:Nat) (wv:Value) (ws:Ws) (w:World) (h:PX w gp gm wv ws d 0) (hT:rowP inner rank k ws≠.error 99) :
  Calls Tryz.prog 149 #[.pointer (some ⟨gp,0,none⟩),.int .i64 rank,.func (.func 204) #[.pointer (some ⟨gp,0,none⟩)] #[]] w fun r w'=>PXR w w' gp gm d (rowP inner rank k ws) r:=by
 have hin:inner ws≠.error 99:=fun e=>hT (by unfold rowP;rw [e])
 have H1:=aa (HI wv ws w h hin);have HIH:=aa HI;have HLH:=aa HL;clear HE HL;have hTe:∀ c,inner ws=.error c→rowP inner rank k ws=.error c:=fun c e=>by unfold rowP;rw [e]
 have hTo:∀ x ws1,inner ws=.ok (x,ws1)→rowP inner rank k ws=fZ inner rank k x ws1:=fun x ws1 e=>by unfold rowP;rw [e]
 have HTE:=aa hTe;have HTO:=aa hTo;generalize rowP inner rank k ws=T at *;have HT:=aa hT;have hlt:=h.ps.bd.lt;clear h hT hin HI hTe hTo
 go_enter Tryz.func149,Tryz.ntmps149
 go_wp2_with fail;refine H1.out.mono ?_;rintro e w1 ⟨hk1,hr1⟩;have K1:=aa hk1;have hst:∃ v,e=.returned v∧iy w1 gp gm d rank inner T v:=by
  cases hi:inner ws with
  | error c =>
   rw [hi] at hr1;obtain ⟨v,wv',e9,hc,hp⟩:=hr1;exact ⟨v,e9,.inr ⟨c,wv',hc,HTE.out c hi,hp⟩⟩
  | ok p =>
   obtain ⟨x,ws1⟩:=p;rw [hi] at hr1;obtain ⟨v,wv',e9,hn,hp⟩:=hr1;exact ⟨v,e9,.inl ⟨x,ws1,k,wv',hn,hp,(HTO.out x ws1 hi).symm⟩⟩
 obtain ⟨v1,rfl,hs1⟩:=hst;have ST1:=aa hs1;clear hs1 hr1 hk1 H1 HTE HTO;go_wp2_with fail
 go_loopw [7] (fun v wr=>Hid (KeptB w wr (fun q=>q=gp))∧Hid (iy wr gp gm d rank inner T v)) (fun _ wr=>pmeas wr gp)
 case atStart=>exact ⟨K1,ST1⟩
 case round =>
  clear K1 ST1;obtain ⟨HK,HS⟩:=hrel
  rcases HS.out with ⟨x,ws9,k9,wv9,hn,hp,hr⟩ | ⟨c,wv9,hc,hTe,hp⟩
  ·obtain ⟨k8,hk8⟩:=kL hr HT.out;subst hk8;have hlr:=hp.ps.bd.lt;have TS:=bj gp gm rank wv9 ws9 d 0 wr hp.ps;unfold dJ at TS;cases hts:tkS rank ws9 with
   | none =>
    rw [hts] at TS;have e0:sgV sg0=.agg #[.int .i64 0,.int .i64 0,.bool false,.bool false]:=rfl;rw [e0] at TS;have TSH:=aa TS;have hTv:T=.ok (x,ws9):=by
     rw [← hr];unfold fZ;rw [hts]
    have HTV:=aa hTv;have HN:=aa hn;have HP:=aa hp;clear TS e0 hts hr hn hp hTv HS;go_wp2_with fail;refine TSH.out.mono ?_;rintro e w2 ⟨rfl,hk2,hp2⟩;have K2:=aa (af HK.out hk2);have P2:=aa (eH HP.out hk2 hp2 (fun y hy=>hy));have N2:=aa (aU HN.out hk2 (fun q e9=>by omega));have BA:=aa (aj w2 (.cells #[.int .i64 0,.int .i64 0,.bool false,.bool false] 176));clear hk2 hp2 TSH;go_wp2_with fail
    go_ret
    refine dH (af K2.out (ae BA.out)) ?_;rw [HTV.out];exact ⟨wv9,bN N2.out BA.out,aO P2.out BA.out⟩
   | some p9 =>
    obtain ⟨s,ws1⟩:=p9;rw [hts] at TS
    simp only at TS
    have e0:sgV s=.agg #[.int .i64 s.rank,.int .i64 s.op,.bool s.turned,.bool s.denied]:=rfl;rw [e0] at TS;have TSH:=aa TS;have h2:=aa (iT hts);have hsub:=aa (jo hts);have hlen:=aa (fC hts);have hne:inner ws1≠.error 99:=fun e=>by
     apply HT.out
     rw [← hr];unfold fZ;rw [hts];simp only [e]
    have HNE:=aa hne;have hrE:∀ c,inner ws1=.error c→T=.error c:=fun c e=>by
     rw [← hr];unfold fZ;rw [hts];simp only [e]
    have hrO:∀ y ws2,inner ws1=.ok (y,ws2)→T=match jnS s x y with
      | .error c=>.error c
      | .ok z=>fZ inner rank k8 z ws2:=fun y ws2 e=>by
     rw [← hr]
     conv=>lhs;unfold fZ
     rw [hts];simp only [e];cases jnS s x y <;> rfl
    have HRE:=aa hrE;have HRO:=aa hrO;have HN:=aa hn;have HP:=aa hp;have PM:=aa (kS hp.ps);have HFEW:Hid (∀ y ws2,inner ws1=.ok (y,ws2)→ws2.length≤ws1.length):=HLH.out ws1;clear TS e0 hts hr hn hp HS hne hrE hrO;go_wp2_with fail;refine TSH.out.mono ?_;rintro e w2 ⟨rfl,hk2,wv2,hp2⟩;have K2:=aa (af HK.out hk2);have P2:=aa (eH HP.out hk2 hp2 hsub.out);have N2:=aa (aU HN.out hk2 (fun q e9=>by omega));have BA:=aa (aj w2 (.cells #[.int .i64 s.rank,.int .i64 s.op,.bool s.turned,.bool s.denied] 176));have BL:=aa (az w2 [.int .i64 s.rank,.int .i64 s.op,.bool s.turned,.bool s.denied] 176);have hg2:=hp2.bd.lt;clear hk2 hp2 TSH HN HP;go_wp2_with fail;have P3:=aa (aO P2.out BA.out);have N3:=aa (bN N2.out BA.out);have K3:=aa (af K2.out (ae (bad:=fun q=>q=gp) BA.out));generalize hg8:w2.heap.size=g8 at *;generalize w2.alloc (.cells #[.int .i64 s.rank,.int .i64 s.op,.bool s.turned,.bool s.denied] 176)=w3 at *;have l8:=BL.out.lt;have n8:¬ g8=gp:=by omega
    have y0:=BL.out.c 0 (by simp);have y1:=BL.out.c 1 (by simp);have y2:=BL.out.c 2 (by simp);have y3:=BL.out.c 3 (by simp);simp only [List.getElem?_cons_zero,List.getElem?_cons_succ] at y0 y1 y2 y3;have dd:Below w3.heap.size w3 ({ w3 with drawn:=w3.drawn+1 }:World):=(Below.refl _ _).drew;have HIN:=aa (HIH.out wv2 ws1 _ (aO P3.out dd) HNE.out);have hS:KeptB w3 ({ w3 with drawn:=w3.drawn+1 }:World) (fun q=>q=gp):=ae dd;have P4:=aa (aO P3.out dd);have N4:=aa (bN N3.out dd);clear dd P2 N2 BA BL;refine wp_region_held (S:=fun w'=>KeptB w3 w' (fun q=>q=gp)) (by kernel_rfl) ?_;generalize ({ w3 with drawn:=w3.drawn+1 }:World)=wd at *;refine HU 0 (v:=.pointer (some ⟨gp,0,none⟩)) rfl (fun wq hq=>by go_simp) hS ?_;refine HU 1 (v:=.agg #[.int .i64 s.rank,.int .i64 s.op,.bool s.turned,.bool s.denied]) rfl (fun wq hq=>by have q0:=(aB hq 0 l8 n8).trans y0;have q1:=(aB hq 1 l8 n8).trans y1;have q2:=(aB hq 2 l8 n8).trans y2;have q3:=(aB hq 3 l8 n8).trans y3;go_simp) hS ?_;refine HU 2 (v:=u7) rfl (fun wq hq=>by go_simp) hS ?_;refine HU 3 (v:=.func (.func 204) #[.pointer (some ⟨gp,0,none⟩)] #[]) rfl (fun wq hq=>by go_simp) hS ?_;refine HG 4 rfl ?_;intro K' hK;go_simp;refine HIN.out.mono ?_;rintro e w4 ⟨hk4,hr4⟩;have hS4:=af hS hk4;have hst:∃ v4,e=.returned v4∧∀ v5,v5=v4→Calls Tryz.prog 167 #[.pointer (some ⟨gp,0,none⟩),.agg #[.int .i64 s.rank,.int .i64 s.op,.bool s.turned,.bool s.denied],u7,v4] w4 fun e w5=>∃ v6,e=.returned v6∧KeptB w4 w5 (fun q=>q=gp)∧iy w5 gp gm d rank inner T v6∧pmeas w5 gp < ws9.length+1:=by
     cases hi:inner ws1 with
     | error c =>
      rw [hi] at hr4;obtain ⟨v4,wv4,e9,hc,hp4⟩:=hr4;refine ⟨v4,e9,fun v5 _=>?_⟩;refine (eM gp gm s u7 v4 wv4 [] d c hc.1 w4 hp4.ps).mono ?_;rintro e5 w5 ⟨hk5,v6,wv6,e6,hs6,hp6⟩;exact ⟨v6,e6,hk5,.inr ⟨c,wv6,⟨hc.1,hs6⟩,HRE.out c hi,cC hp4 hk5 hp6⟩,by rw [gB hp6 hc.1];omega⟩
     | ok p4 =>
      obtain ⟨y,ws2⟩:=p4;rw [hi] at hr4;obtain ⟨v4,wv4,e9,hn4,hp4⟩:=hr4;refine ⟨v4,e9,fun v5 _=>?_⟩;refine (fu gp gm s h2.out u7 v4 wv4 x y ws2 d w4 hp4.ps (aU N4.out hk4 (fun q e9=>by omega)) hn4).mono ?_;rintro e5 w5 ⟨hk5,hr5⟩;have hro:=HRO.out y ws2 hi;cases hj:jnS s x y with
      | error c =>
       rw [hj] at hr5 hro;obtain ⟨v6,wv6,e6,hc,hp6⟩:=hr5;exact ⟨v6,e6,hk5,.inr ⟨c,wv6,hc,hro,cC hp4 hk5 hp6⟩,by rw [gB hp6 hc.1];omega⟩
      | ok z =>
       rw [hj] at hr5 hro;obtain ⟨v6,wv6,e6,hn6,hp6⟩:=hr5;refine ⟨v6,e6,hk5,.inl ⟨z,ws2,k8,wv6,hn6,eH hp4 hk5 hp6 (fun y hy=>hy),hro.symm⟩,?_⟩;rw [kS hp6]
       show ws2.length+1 < ws9.length+1
       have h7:=HFEW.out y ws2 hi;have h8:=hlen.out;omega
    obtain ⟨v4,rfl,hjb⟩:=hst;have JB:=aa (hjb v4 rfl);clear HIN hr4 hk4 hjb;refine hK _ _ ⟨hS4,?_⟩;clear hK;refine HG 5 rfl ?_;intro K' hK;go_simp;refine JB.out.mono ?_;rintro e w5 ⟨v6,rfl,hk5,hs5,hm5⟩;have hS5:=af hS4 hk5;have HS5:=aa hs5;have HM5:=aa hm5;clear JB hs5 hm5 hk5;refine hK _ _ ⟨hS5,?_⟩;clear hK;refine HG 6 rfl ?_;intro K' hK;go_simp;refine hK _ _ ⟨hS5,?_⟩;clear hK;refine wpAnyH_done (by kernel_rfl) ?_ _;have K5:=aa (af K3.out hS5);clear hS hS4 hS5 y0 y1 y2 y3;go_wp2_with fail;go_roundw
    case rel=>exact ⟨K5,HS5⟩
    case measure=>rw [PM.out];exact HM5.out
  ·have TS:=bj gp gm rank wv9 [] d c wr hp.ps;unfold dJ at TS;have e0:sgV sg0=.agg #[.int .i64 0,.int .i64 0,.bool false,.bool false]:=rfl;have e1:tkS rank []=none:=rfl;rw [e1,e0] at TS;have TSH:=aa TS;have HC:=aa hc;have HTV:=aa hTe;have HP:=aa hp;clear TS e0 e1 hc hTe hp HS;go_wp2_with fail;refine TSH.out.mono ?_;rintro e w2 ⟨rfl,hk2,hp2⟩;have K2:=aa (af HK.out hk2);have P2:=aa (cC HP.out hk2 hp2);have BA:=aa (aj w2 (.cells #[.int .i64 0,.int .i64 0,.bool false,.bool false] 176));clear hk2 hp2 TSH;go_wp2_with fail
   go_ret
   refine dH (af K2.out (ae BA.out)) ?_;rw [HTV.out];exact ⟨wv9,HC.out,aO P2.out BA.out⟩
end Go.Proofs.YtcgjflamgnjhcaaGreatDoor
