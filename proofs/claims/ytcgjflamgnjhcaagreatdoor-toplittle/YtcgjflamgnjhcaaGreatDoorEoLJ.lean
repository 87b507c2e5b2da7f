/- Several texts in one, each with its own head. What is proved: what the parts say. Conditions: theirs. -/
import Derived.Test.YtcgjflamgnjhcaaGreatDoorEoCJ
set_option linter.unusedVariables false
set_option linter.unusedSimpArgs false
set_option maxRecDepth 100000
set_option maxHeartbeats 8000000
namespace Go.Proofs.YtcgjflamgnjhcaaGreatDoor
open Go.ChangeShapes Go.WideShapes Go.ChangeAt Go.RowKit
theorem little_any {W w : World} {q : Qy} {P : List (List Ev)} {eb : Nat} {M : List (List Ev)} {late : Nat} {tb : List Pn} {rs : List (Rw × Value)} {rdv ckv tv rv : Value} (h : EngS W q P eb M late tb rs rdv ckv tv rv w) (hc : chkQ q = 0) (hl : lightM P = true) (h0 : 0 < P.length) (qb : Nat) (u0 u1 u2 : Value) (hq : BlkAt W qb [u0,u1,u2,.int .i64 q.size,.int .i64 q.slide,.int .i64 q.delay,.int .i64 q.late]) :
  Calls Tryz.prog 37 #[.pointer (some ⟨eb,0,none⟩),.pointer (some ⟨qb,0,none⟩)] w fun e w' => e = .returned (.bool true) ∧ Below w.heap.size w w':=by
 obtain ⟨w0,b0,va,vw,vb,ps,V,cs,a1,-,-,-,a5,a6,-,a8,-⟩:=h;obtain ⟨l1,l2,l3,l4⟩:=Bz3 a6 hl;have hS:=Bz7 hc;have hlit:=run_little a5;have hlen:=uz4 hS M;have hev:=preM_evs _ _ a6;have hcl : (clkM M).length = P.length:=by unfold clkM;rw [List.length_map];exact a6.1
 have hgb:=Cz4 l2 _ (hz7 (clkM M) (by omega));have htb : tb.length ≤ 480:=by
  have h1:=a5.en.ofv.few;have h2 : tb.length ≤ V.length:=by rw [a5.en.tb];exact List.length_filter_le ..
  rw [a5.perm.length_eq] at h1;omega
 have hst : ∀ p ∈ tb,-1000 ≤ p.st ∧ p.st ≤ 9999:=fun p hp => by
  rw [a5.en.tb] at hp;exact bz8 a5.en.ofv (fun c hc9 => yz7 hS c (a5.perm.mem_iff.1 hc9)) p (List.mem_filter.1 hp).1
 have hlit2 : ∀ p ∈ tb,(decide (0 ≤ minOf (clkM M)) = false → p.told = false) ∧ (decide (0 ≤ minOf (clkM M)) = true → ¬ (p.st + (q.size + q.late) ≤ uptoG q (minOf (clkM M))) ∧ p.told = decide (p.st + q.size ≤ uptoG q (minOf (clkM M)))):=fun p hp => by
  obtain ⟨b1,b2⟩:=hlit p hp;refine ⟨fun e => b1 ?_,fun e => b2 _ ?_⟩
  ·have:=of_decide_eq_false e
   unfold limM;rw [if_pos (by omega)]
  ·have:=of_decide_eq_true e
   unfold limM uptoG;rw [if_neg (by omega),if_neg (by omega)]
 have hP3:=(Mz2 hl).1;obtain ⟨tva,tvc,rfl⟩:=pz0 a1.en.tt.row;obtain ⟨cka,ckc,rfl⟩:=jz0 a1.ck;obtain ⟨ckn,hckn⟩ : ∃ n,(clkM M).length = n:=⟨_,rfl⟩;have PTA:=hidE (fun w' (hb : Below w.heap.size w w') => wz7 (clkM M) _ q.delay w' (by omega) (by omega) (lz0 (qz0 a1.ck) hb));rw [Wz5 q _ (by omega) (by omega) ⟨hS.d0,by have:=hS.d1;omega⟩] at PTA;obtain ⟨far,hfar⟩ : ∃ x,uptoG q (minOf (clkM M)) = x:=⟨_,rfl⟩;obtain ⟨is,his⟩ : ∃ b,decide (0 ≤ minOf (clkM M)) = b:=⟨_,rfl⟩;rw [hfar,his] at PTA;simp only [hfar,his] at hlit2;have BE:=hidE a1.en.be;have BQ:=hidE (dz0 hq a8 hq.lt);have HTT:=hidE a1.en.tt;rw [hckn] at PTA BE;have PT:=PTA;have HLIT:=hidE hlit2;have HST:=hidE hst;have hs1:=hS.s1;have hs2:=hS.s2;have hs3:=hS.s3;have hs4:=hS.l0;have hs5:=hS.l1;have hd1:=hS.d1;have hd0:=hS.d0;clear a1 a5 a6 a8 hq hlit hlit2 hst PTA hS hlen hev l1 l2
 go_enter Tryz.func37,Tryz.ntmps37
 go_wp2_with fail;refine wp_region_held (S:=fun w' => Below w.heap.size w w') (by kernel_rfl) ?_;have hS : Below w.heap.size w ({ w with drawn:=w.drawn + 1 } : World):=(Below.refl _ _).drew;generalize ({ w with drawn:=w.drawn + 1 } : World) = wd at *;refine HU 0 (v:=.pointer (some ⟨eb,0,none⟩)) rfl (by kernel_rfl) (fun _ _ _ h => h) (fun wq hq => by go_simp) hS ?_;refine HU 1 (v:=.pointer (some ⟨eb,0,none⟩)) rfl (by kernel_rfl) (fun _ _ _ h => h) (fun wq hq => by go_simp) hS ?_;refine HU 2 (v:=.pointer (some ⟨eb,1,none⟩)) rfl (by kernel_rfl) (fun _ _ _ h => h) (fun wq hq => by go_simp) hS ?_;refine HU 3 (v:=.agg #[.slice cka ckn ckc]) rfl (by kernel_rfl) (fun _ _ _ h => h) (fun wq hq => by have K:=dz0 BE.out hq BE.out.lt;have q1 : wq.cell? ⟨eb,1,none⟩ = some (.slice cka ckn ckc):=K.c 1 (by simp);clear K;go_simp) hS ?_;refine HU 4 (v:=.pointer (some ⟨qb,5,none⟩)) rfl (by kernel_rfl) (fun _ _ _ h => h) (fun wq hq => by go_simp) hS ?_;refine HU 5 (v:=.int .i64 q.delay) rfl (by kernel_rfl) (fun _ _ _ h => h) (fun wq hq => by have K:=dz0 BQ.out hq BQ.out.lt;have q5 : wq.cell? ⟨qb,5,none⟩ = some (.int .i64 q.delay):=K.c 5 (by simp);clear K;go_simp) hS ?_;refine HG 6 rfl (by kernel_rfl) ?_;intro K' hK;go_simp;refine (PT.out _ hS).mono ?_;rintro e w1 ⟨rfl,hb⟩;have hS1:=hS.trans (hb.mono hS.size);refine hK _ _ ⟨hS1,?_⟩;clear hK;refine HU 7 (v:=.tuple #[.int .i64 far,.bool is]) rfl (by kernel_rfl) (fun _ _ _ h => h) (fun wq hq => by go_simp) hS1 ?_;refine HU 8 (v:=.int .i64 far) rfl (by kernel_rfl) (fun _ _ _ h => h) (fun wq hq => by go_simp) hS1 ?_;refine HU 9 (v:=.bool is) rfl (by kernel_rfl) (fun _ _ _ h => h) (fun wq hq => by go_simp) hS1 ?_;refine HU 10 (v:=.int .i64 far) rfl (by kernel_rfl) (fun _ _ _ h => h) (fun wq hq => by go_simp) hS1 ?_;refine HU 11 (v:=.bool is) rfl (by kernel_rfl) (fun _ _ _ h => h) (fun wq hq => by go_simp) hS1 ?_;refine wpAnyH_done (by kernel_rfl) ?_ _;have HB1:=hidE hS1;clear hS hS1 PT hb;go_wp2_with fail
 go_loopw [6] (fun i wr => ∃ m : Nat,m ≤ tb.length ∧ i = .int .i64 m ∧ Hid (Below w.heap.size w wr)) (fun i _ => tb.length - (intOf i).toNat)
 case atStart => exact ⟨0,Nat.zero_le _,rfl,HB1⟩
 case round =>
  clear HB1;obtain ⟨m,hm,rfl,HB⟩:=hrel;have BEr:=dz0 BE.out HB.out BE.out.lt;have BQr:=dz0 BQ.out HB.out BQ.out.lt;have e2 : wr.cell? ⟨eb,2,none⟩ = some (.slice tva tb.length tvc):=BEr.c 2 (by simp);have lebx:=BEr.lt
  by_cases hlt : m < tb.length
  ·have q3 : wr.cell? ⟨qb,3,none⟩ = some (.int .i64 q.size):=BQr.c 3 (by simp);have q6 : wr.cell? ⟨qb,6,none⟩ = some (.int .i64 q.late):=BQr.c 6 (by simp);have lqb:=BQr.lt;obtain ⟨g,off,hao,hcell,z1,z2,lg⟩:=Xz0 Fz0 (lz0 (qz1 HTT.out.row) HB.out) m hlt;subst hao;have hli:=HLIT.out tb[m] (List.getElem_mem hlt);have hsm:=HST.out tb[m] (List.getElem_mem hlt);generalize tb[m] = p at *;obtain ⟨st,kk,nn,told,ac,pv⟩:=p
   simp only at hli hsm
   have y0 : wr.cell? ⟨g,off + m * 5,none⟩ = some (.int .i64 st):=hcell 0 (by omega);have y3 : wr.cell? ⟨g,off + m * 5 + 4,none⟩ = some (.bool told):=hcell 4 (by omega);have kn:=cz1 wr;obtain ⟨kc,kf⟩:=Tz0 wr;have HW : Hid (Below wr.heap.size wr wr):=Below.refl _ _;have hw1:=wrapIn2 (st + q.size) (by omega) (by omega);have hw2:=wrapIn2 (st + q.size + q.late) (by omega) (by omega);unfold maxLen at z2;clear hcell BEr BQr;go_wp2_with fail;cases is with
   | false =>
    have ht : told = false:=hli.1 rfl;subst ht;clear hli;refine oz0 HW (by kernel_rfl) (by kernel_rfl) ?_
    repeat (go_big_quiet_step (fail))
    refine wpQuiet_nil ?_;rintro _ ⟨pk,rfl⟩;have HP:=hidE (HB.out.trans (pk.h.mono HB.out.size));generalize pk.w = wp at *;clear HW HB kc kf kn y0 y3 e2 q3 q6;go_simp;go_wp2_with fail;go_roundw
    case rel => exact ⟨m + 1,by omega,by go_num,HP⟩
    case measure => simp [intOf];omega
   | true =>
    obtain ⟨hn,ht⟩:=hli.2 rfl;have d1 : decide (st + q.size + q.late ≤ far) = false:=decide_eq_false (by omega)
    by_cases hd : st + q.size ≤ far
    ·have d2 : decide (st + q.size ≤ far) = true:=decide_eq_true hd;rw [d2] at ht;subst ht;clear hli hn;refine oz0 HW (by kernel_rfl) (by kernel_rfl) ?_
     repeat (go_big_quiet_step (fail))
     refine wpQuiet_nil ?_;rintro _ ⟨pk,rfl⟩;have HP:=hidE (HB.out.trans (pk.h.mono HB.out.size));generalize pk.w = wp at *;clear HW HB kc kf kn y0 y3 e2 q3 q6;go_simp;go_wp2_with fail;go_roundw
     case rel => exact ⟨m + 1,by omega,by go_num,HP⟩
     case measure => simp [intOf];omega
    ·have d2 : decide (st + q.size ≤ far) = false:=decide_eq_false hd;rw [d2] at ht;subst ht;clear hli hn;refine oz0 HW (by kernel_rfl) (by kernel_rfl) ?_
     repeat (go_big_quiet_step (fail))
     refine wpQuiet_nil ?_;rintro _ ⟨pk,rfl⟩;have HP:=hidE (HB.out.trans (pk.h.mono HB.out.size));generalize pk.w = wp at *;clear HW HB kc kf kn y0 y3 e2 q3 q6;go_simp;go_wp2_with fail;go_roundw
     case rel => exact ⟨m + 1,by omega,by go_num,HP⟩
     case measure => simp [intOf];omega
  ·have hml : m = tb.length:=by omega
   subst hml;clear BQr BEr;go_wp2_with fail
   go_ret
   exact ⟨rfl,HB.out⟩
theorem run1_any (fe : Nat) (c0_ : Value) (va vw vb pv tv : Value) (q : Qy) (ps : List (AgQ × Value)) (vs : List Value) (P : List (List Ev)) (T : List Int) (W : World) (h : QyG W va vw vb q ps) (hc : chkQ q = 0) (hP : PtsR W pv vs P) (h0 : 0 < P.length) (hl : lightM P = true) (hT : RowC W tv T) (hTl : T.length ≤ 1000)
  (hcf : ∀ (v : Value) (w : World),Sem.run Tryz.prog (callFunc fe #[v,c0_]) w = .ok (.enter fe #[v,c0_]) w) (EACH : ∀ (eb : Nat) (M : List (List Ev)) (late : Nat) (tb : List Pn) (rs : List (Rw × Value)) (rdv ckv tv rv : Value) (w : World),EngS W q P eb M late tb rs rdv ckv tv rv w → Calls Tryz.prog fe #[.pointer (some ⟨eb,0,none⟩),c0_] w fun e w' => e = .returned (.bool true) ∧ Below w.heap.size w w') :
  Calls Tryz.prog 27 #[qyV va vw vb q,pv,tv,.func (.func fe) #[] #[c0_]] W fun e w' => ∃ eb late tb rs rdv ckv tv rv,e = .returned (.tuple #[.pointer (some ⟨eb,0,none⟩),.bool true]) ∧ EngS W q P eb (runM P T) late tb rs rdv ckv tv rv w':=by
 have hP3:=(Mz2 hl).1;obtain ⟨ao,cap,rfl⟩:=gz0 h.ag.row;obtain ⟨a2,c2,rfl⟩:=gz0 h.wh;obtain ⟨a3,c3,rfl⟩:=gz0 h.by_;obtain ⟨gp,op,cp,-,rfl,-,-,zp1,zp2,zp3⟩:=Vz5 hP 0 h0;obtain ⟨at_,ct,rfl⟩:=gz0 hT;have bq:=ez0 W (.cells #[Value.slice ao ps.length cap,Value.slice a2 q.wh.length c2,Value.slice a3 q.bys.length c3,Value.int .i64 q.size,Value.int .i64 q.slide,Value.int .i64 q.delay,Value.int .i64 q.late] 28);have NW:=Mz6 (P:=P) (Kz0 h bq) hc h0 hP3;unfold qyV at NW ⊢;have NWH:=hidE NW;have HBQ:=hidE bq;have HP:=hidE hP;have HT:=hidE hT;have HEA:=hidE EACH;have zq:=(kz0 W [Value.slice ao ps.length cap,Value.slice a2 q.wh.length c2,Value.slice a3 q.bys.length c3,Value.int .i64 q.size,Value.int .i64 q.slide,Value.int .i64 q.delay,Value.int .i64 q.late] 28).lt;have hWs : (W.alloc (.cells #[Value.slice ao ps.length cap,Value.slice a2 q.wh.length c2,Value.slice a3 q.bys.length c3,Value.int .i64 q.size,Value.int .i64 q.slide,Value.int .i64 q.delay,Value.int .i64 q.late] 28)).heap.size = W.heap.size + 1:=by simp
 unfold maxLen at zp2;clear NW bq h hP hT EACH
 go_enter Tryz.func27,Tryz.ntmps27
 go_wp2_with fail;refine NWH.out.mono ?_;rintro e w1 ⟨eb,rdv,ckv0,rfl,hE⟩;have HE0 : Hid (EngS W q P eb (List.replicate P.length []) 0 [] [] rdv ckv0 (.slice none 0 0) (.slice none 0 0) w1):=by
  obtain ⟨w0,b0,va,vw,vb,ps,V,cs,a1,a2,a3,a4,a5,a6,a7,a8,a9,a10,a11⟩:=hE;exact ⟨w0,b0,va,vw,vb,ps,V,cs,a1,a2,a3,a4,a5,a6,a7,HBQ.out.trans (a8.mono HBQ.out.size),by omega,fun k hk => by have:=a10 k hk;omega,by omega⟩
 have hrdv : ∃ rdg rdc,rdv = .slice (some ⟨rdg,0,none⟩) P.length rdc:=by
  obtain ⟨w0,b0,va,vw,vb,ps,V,cs,a1,-⟩:=hE;obtain ⟨g,c,e,-⟩:=uz2 a1.rd (by simpa using h0);simp only [List.length_map,List.length_replicate] at e;exact ⟨g,c,e⟩
 obtain ⟨rdg,rdc,rfl⟩:=hrdv;clear NWH hE;go_wp2_with fail
 go_loopw [12] (fun i wr => ∃ (m late : Nat) (tb : List Pn) (rs : List (Rw × Value)) (ckv tv rv : Value),m ≤ T.length ∧ i = .int .i64 m ∧ Hid (EngS W q P eb (runM P (T.take m)) late tb rs (.slice (some ⟨rdg,0,none⟩) P.length rdc) ckv tv rv wr)) (fun i _ => T.length - (intOf i).toNat)
 case atStart => exact ⟨0,0,[],[],ckv0,_,_,Nat.zero_le _,rfl,HE0⟩
 case round =>
  clear HE0;obtain ⟨m,late,tb,rs,ckv,tv,rv,hm,rfl,HE⟩:=hrel
  by_cases hlt : m < T.length
  ·have HBW : Hid (Below W.heap.size W wr):=by
    obtain ⟨w0,b0,va,vw,vb,ps,V,cs,-,-,-,-,-,-,-,a8,-⟩:=HE.out;exact a8
   obtain ⟨gt,ot,ct',et,y0,t1,t2,t3⟩:=ints_cellE (lz0 HT.out HBW.out) m hlt;cases et;have hpl:=placeE_is T[m] P.length h0;have HRN : Hid (runM P (T.take (m + 1)) = turnM P (runM P (T.take m)) T[m]):=runM_take P T m hlt;generalize T[m] = t at *;obtain ⟨hp1,hp2⟩:=hpl;have HTU : Hid (turnM P (runM P (T.take m)) t = match (runM P (T.take m))[placeE t P.length]?,P[placeE t P.length]? with
    | some l,some l' => match l'[l.length]? with
     | some x => (runM P (T.take m)).set (placeE t P.length) (l ++ [x])
     | none => runM P (T.take m)
    | _,_ => runM P (T.take m)):=rfl
   generalize placeE t P.length = p at *;generalize turnM P (runM P (T.take m)) t = Mn at *;generalize runM P (T.take m) = M at *;have hML : M.length = P.length:=by
    obtain ⟨w0,b0,va,vw,vb,ps,V,cs,-,-,-,-,-,a6,-⟩:=HE.out;exact a6.1
   obtain ⟨l,hMp⟩ : ∃ l,M[p]? = some l:=⟨_,List.getElem?_eq_getElem (by omega)⟩;obtain ⟨gp',op',cp',lv,ep,hpc,hrl,-,-,lgp⟩:=Vz5 (Ez3 HP.out HBW.out) p hp1;cases ep;have hPp : P[p]? = some P[p]:=List.getElem?_eq_getElem hp1;rw [hMp,hPp] at HTU;have hl40:=((Mz2 hl).2 P[p] (List.getElem_mem hp1)).1;have HSTP:=hidE (fun x (h3 : P[p][l.length]? = some x) w' (hb : Below wr.heap.size wr w') => vz4 (xz3 HE.out hb) hc hl hMp hPp h3);generalize P[p] = l' at *;obtain ⟨al,cl,rfl⟩:=gz0 hrl;have HRL:=hidE hrl;have HPC:=hidE hpc;have hl40b : l.length ≤ 40:=by
    obtain ⟨w0,b0,va,vw,vb,ps,V,cs,-,-,-,-,-,a6,-⟩:=HE.out;exact (Bz3 a6 hl).1 l (List.mem_of_getElem? hMp)
   have hbe : ∃ va vw vb,BlkAt wr eb [.slice (some ⟨rdg,0,none⟩) P.length rdc,ckv,tv,intN late,rv,va,vw,vb,.int .i64 q.size,.int .i64 q.slide,.int .i64 q.delay,.int .i64 q.late] ∧ wr.cell? ⟨rdg,p,none⟩ = some (.int .i64 (l.length : Int)) ∧ rdg < wr.heap.size:=by
    obtain ⟨w0,b0,va,vw,vb,ps,V,cs,a1,-⟩:=HE.out;have h8:=a1.rd;rw [List.length_map,hML] at h8;have h9:=h8.cellAt p (by omega);rw [List.getElem?_map,List.getElem?_map,hMp] at h9;exact ⟨va,vw,vb,a1.en.be,h9,(tz0 h8 rdg rfl).2⟩
   obtain ⟨va9,vw9,vb9,hBE,hRD,lrd⟩:=hbe;have BE:=hidE hBE;have HRD:=hidE hRD;have lebx:=hBE.lt;clear hpc hrl hBE hRD;go_wp2_with fail;refine wp_region_held (S:=fun w' => Below wr.heap.size wr w') (by kernel_rfl) ?_;have hS : Below wr.heap.size wr ({ wr with drawn:=wr.drawn + 1 } : World):=(Below.refl _ _).drew;generalize ({ wr with drawn:=wr.drawn + 1 } : World) = wd at *;refine HU 0 (v:=.pointer (some ⟨eb,0,none⟩)) rfl (by kernel_rfl) (fun _ _ _ h => h) (fun wq hq => by go_simp) hS ?_;refine HU 1 (v:=.pointer (some ⟨eb,0,none⟩)) rfl (by kernel_rfl) (fun _ _ _ h => h) (fun wq hq => by go_simp) hS ?_;refine HU 2 (v:=.pointer (some ⟨eb,0,none⟩)) rfl (by kernel_rfl) (fun _ _ _ h => h) (fun wq hq => by go_simp) hS ?_;refine HU 3 (v:=.slice (some ⟨rdg,0,none⟩) P.length rdc) rfl (by kernel_rfl) (fun _ _ _ h => h) (fun wq hq => by have K:=dz0 BE.out hq BE.out.lt;have q0 : wq.cell? ⟨eb,0,none⟩ = some (.slice (some ⟨rdg,0,none⟩) P.length rdc):=K.c 0 (by simp);clear K;go_simp) hS ?_;refine HU 4 (v:=.int .i64 (p : Int)) rfl (by kernel_rfl) (fun _ _ _ h => h) (fun wq hq => by go_simp) hS ?_;refine HU 5 (v:=.pointer (some ⟨rdg,p,none⟩)) rfl (by kernel_rfl) (fun _ _ _ h => h) (fun wq hq => by go_simp) hS ?_;refine HU 6 (v:=.int .i64 (l.length : Int)) rfl (by kernel_rfl) (fun _ _ _ h => h) (fun wq hq => by have q:=(hq.cell (p:=⟨rdg,p,none⟩) lrd).trans HRD.out;go_simp) hS ?_;refine HU 7 (v:=.slice (some ⟨gp,op,none⟩) P.length cp) rfl (by kernel_rfl) (fun _ _ _ h => h) (fun wq hq => by go_simp) hS ?_;refine HU 8 (v:=.int .i64 (p : Int)) rfl (by kernel_rfl) (fun _ _ _ h => h) (fun wq hq => by go_simp) hS ?_;refine HU 9 (v:=.pointer (some ⟨gp,op + p,none⟩)) rfl (by kernel_rfl) (fun _ _ _ h => h) (fun wq hq => by go_simp) hS ?_;refine HU 10 (v:=.slice al l'.length cl) rfl (by kernel_rfl) (fun _ _ _ h => h) (fun wq hq => by have q:=(hq.cell (p:=⟨gp,op + p,none⟩) lgp).trans HPC.out;go_simp) hS ?_;refine HU 11 (v:=.int .i64 (l'.length : Int)) rfl (by kernel_rfl) (fun _ _ _ h => h) (fun wq hq => by go_simp) hS ?_;refine HU 12 (v:=.bool (((l.length : Nat) : Int) == ((l'.length : Nat) : Int))) rfl (by kernel_rfl) (fun _ _ _ h => h) (fun wq hq => by go_simp) hS ?_;refine wpAnyH_done (by kernel_rfl) ?_ _
   by_cases heq : l.length = l'.length
   ·have hbq : ((((l.length : Nat) : Int)) == ((l'.length : Nat) : Int)) = true:=by simp [heq]
    rw [hbq];have HMN : Hid (runM P (T.take (m + 1)) = M):=by
     show _ = _
     rw [HRN.out,HTU.out];have e9 : l'[l.length]? = none:=List.getElem?_eq_none (by omega);simp only [e9]
    have HE2:=hidE (xz3 HE.out hS);clear HSTP HE HRL HRN HTU;go_simp;go_wp2_with fail;go_roundw
    case rel => exact ⟨m + 1,late,tb,rs,ckv,tv,rv,by omega,by go_num,by rw [HMN.out];exact HE2⟩
    case measure => simp [intOf];omega
   ·have hlt2 : l.length < l'.length:=by
     obtain ⟨w0,b0,va,vw,vb,ps,V,cs,-,-,-,-,-,a6,-⟩:=HE.out;obtain ⟨r9,e9⟩:=a6.2 p l l' hMp hPp;have e8:=congrArg List.length e9;rw [List.length_append] at e8;omega
    have hbq : ((((l.length : Nat) : Int)) == ((l'.length : Nat) : Int)) = false:=by simp;omega
    rw [hbq];obtain ⟨ge,oe,hae,hce,p1,p2,lge⟩:=Xz0 Az3 HRL.out l.length hlt2;subst hae;obtain ⟨x,hx⟩ : ∃ x,l'[l.length] = x:=⟨_,rfl⟩;rw [hx] at hce;have hx2 : l'[l.length]? = some x:=by rw [← hx];exact List.getElem?_eq_getElem hlt2
    have HEC:=hidE hce;have HMN : Hid (runM P (T.take (m + 1)) = M.set p (l ++ [x])):=by
     show _ = _
     rw [HRN.out,HTU.out];simp only [hx2]
    have BEd:=hidE (dz0 BE.out hS BE.out.lt);have ST:=hidE (fun w' (hb : Below wr.heap.size wr w') => HSTP.out x hx2 w' hb);unfold aggEv at ST;unfold maxLen at p2;clear hce HSTP HRL HRN HTU HE hx;go_simp;go_wp2_with fail;refine Gz0 (fun w' => Below wr.heap.size wr w') 15 (by kernel_rfl) ?_;have hS2 : Below wr.heap.size wr ({ wd with drawn:=wd.drawn + 1 } : World):=hS.drew;clear hS;have hS:=hS2;clear hS2;generalize ({ wd with drawn:=wd.drawn + 1 } : World) = wd2 at *;refine LU 0 (v:=.pointer (some ⟨eb,0,none⟩)) [15] rfl (by kernel_rfl) (fun _ _ _ h => h) (fun wq hq => by go_simp) hS ?_;refine LU 1 (v:=.int .i64 (p : Int)) [15] rfl (by kernel_rfl) (fun _ _ _ h => h) (fun wq hq => by go_simp) hS ?_;refine LU 2 (v:=.slice (some ⟨gp,op,none⟩) P.length cp) [4,5,13,14,15] rfl (by kernel_rfl) (fun _ _ _ h => h) (fun wq hq => by go_simp) hS ?_;refine LU 3 (v:=.int .i64 (p : Int)) [4,5,13,14,15] rfl (by kernel_rfl) (fun _ _ _ h => h) (fun wq hq => by go_simp) hS ?_;refine LU 4 (v:=.pointer (some ⟨gp,op + p,none⟩)) [5,13,14,15] rfl (by kernel_rfl) (fun _ _ _ h => h) (fun wq hq => by go_simp) hS ?_;refine LU 5 (v:=.slice (some ⟨ge,oe,none⟩) l'.length cl) [13,14,15] rfl (by kernel_rfl) (fun _ _ _ h => h) (fun wq hq => by have q:=(hq.cell (p:=⟨gp,op + p,none⟩) lgp).trans HPC.out;go_simp) hS ?_;refine LU 6 (v:=.pointer (some ⟨eb,0,none⟩)) [7,8,9,11,12,13,14,15] rfl (by kernel_rfl) (fun _ _ _ h => h) (fun wq hq => by go_simp) hS ?_;refine LU 7 (v:=.pointer (some ⟨eb,0,none⟩)) [8,9,11,12,13,14,15] rfl (by kernel_rfl) (fun _ _ _ h => h) (fun wq hq => by go_simp) hS ?_;refine LU 8 (v:=.pointer (some ⟨eb,0,none⟩)) [9,11,12,13,14,15] rfl (by kernel_rfl) (fun _ _ _ h => h) (fun wq hq => by go_simp) hS ?_;refine LU 9 (v:=.slice (some ⟨rdg,0,none⟩) P.length rdc) [11,12,13,14,15] rfl (by kernel_rfl) (fun _ _ _ h => h) (fun wq hq => by have K:=dz0 BE.out hq BE.out.lt;have q0 : wq.cell? ⟨eb,0,none⟩ = some (.slice (some ⟨rdg,0,none⟩) P.length rdc):=K.c 0 (by simp);clear K;go_simp) hS ?_;refine LU 10 (v:=.int .i64 (p : Int)) [11,12,13,14,15] rfl (by kernel_rfl) (fun _ _ _ h => h) (fun wq hq => by go_simp) hS ?_;refine LU 11 (v:=.pointer (some ⟨rdg,p,none⟩)) [12,13,14,15] rfl (by kernel_rfl) (fun _ _ _ h => h) (fun wq hq => by go_simp) hS ?_;refine LU 12 (v:=.int .i64 (l.length : Int)) [13,14,15] rfl (by kernel_rfl) (fun _ _ _ h => h) (fun wq hq => by have q:=(hq.cell (p:=⟨rdg,p,none⟩) lrd).trans HRD.out;go_simp) hS ?_;refine LU 13 (v:=.pointer (some ⟨ge,oe + l.length * 7,none⟩)) [14,15] rfl (by kernel_rfl) (fun _ _ _ h => h) (fun wq hq => by go_simp) hS ?_;refine LU 14 (v:=.agg #[Value.int .i64 x.t,Value.int .i64 x.k1,Value.int .i64 x.k2,Value.int .i64 x.a1,Value.int .i64 x.a2,Value.int .i64 x.b1,Value.int .i64 x.b2]) [15] rfl (by kernel_rfl) (fun _ _ _ h => h) (fun wq hq => by have q0:=(hq.cell (p:=⟨ge,oe + l.length * 7,none⟩) lge).trans (HEC.out 0 (by omega));have q1:=(hq.cell (p:=⟨ge,oe + (l.length * 7 + 1),none⟩) lge).trans (HEC.out 1 (by omega));have q2:=(hq.cell (p:=⟨ge,oe + (l.length * 7 + 2),none⟩) lge).trans (HEC.out 2 (by omega));have q3:=(hq.cell (p:=⟨ge,oe + (l.length * 7 + 3),none⟩) lge).trans (HEC.out 3 (by omega));have q4:=(hq.cell (p:=⟨ge,oe + (l.length * 7 + 4),none⟩) lge).trans (HEC.out 4 (by omega));have q5:=(hq.cell (p:=⟨ge,oe + (l.length * 7 + 5),none⟩) lge).trans (HEC.out 5 (by omega));have q6:=(hq.cell (p:=⟨ge,oe + (l.length * 7 + 6),none⟩) lge).trans (HEC.out 6 (by omega));simp only [cellsE,← Nat.add_assoc] at q0 q1 q2 q3 q4 q5 q6;go_simp) hS ?_
    refine LG 15 rfl (by kernel_rfl) ?_;intro K' hK;go_simp;refine (ST.out _ hS).mono ?_;rintro e w1 ⟨rfl,late',tb',rs',ckv',tv',rv',E1,S1⟩;have HE1:=hidE E1;refine hK _ _ ⟨fun h => absurd rfl h,?_⟩;clear hK E1;refine Wz0 (by kernel_rfl) ?_ _;have EA:=hidE (HEA.out _ _ _ _ _ _ _ _ _ _ HE1.out);clear ST HEC HRD BE BEd HPC;go_wp2_with fail;refine EA.out.mono ?_;rintro e w2 ⟨rfl,hb2⟩;have HE2:=hidE (xz3 HE1.out hb2);clear HE1 EA hb2;go_wp2_with fail;go_roundw
    case rel => exact ⟨m + 1,late',tb',rs',ckv',tv',rv',by omega,by go_num,by rw [HMN.out];exact HE2⟩
    case measure => simp [intOf];omega
  ·have hml : m = T.length:=by omega
   subst hml;rw [List.take_length] at HE;go_wp2_with fail;refine bodyPost_ret (v:=.tuple #[.pointer (some ⟨eb,0,none⟩),.bool true]) (by simp [results,Tryz.results27,go_sem]) rfl ?_;exact ⟨eb,late,tb,rs,_,ckv,tv,rv,rfl,HE.out⟩
end Go.Proofs.YtcgjflamgnjhcaaGreatDoor
