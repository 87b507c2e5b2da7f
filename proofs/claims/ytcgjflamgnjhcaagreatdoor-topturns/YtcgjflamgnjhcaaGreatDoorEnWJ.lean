/- Own texts in one. Conditions: as named in each. -/
import Derived.Test.YtcgjflamgnjhcaaGreatDoorEnX5J
import Derived.Test.YtcgjflamgnjhcaaGreatDoorEnQJ
import Derived.Test.YtcgjflamgnjhcaaGreatDoorBtBJ
set_option linter.unusedVariables false
set_option linter.unusedSimpArgs false
set_option maxRecDepth 100000
set_option maxHeartbeats 8000000
namespace Go.Proofs.YtcgjflamgnjhcaaGreatDoor
open Go.ChangeShapes Go.WideShapes Go.ChangeAt Go.RowKit
theorem etell_r4 (Q:Exit→Act→World→Prop) (C4:Code) (h4:rgn 4 (Tryz.f49.body.getD .skip)=some C4) (t:List Value) {x1 x2 x3 x4 x5 x6 x8 x9 x10 x11 x12 x13 x14 x15 x16 x17 x18 x19 x20 x21 x22 x23 x24 x25 x26 x27 x40 x41 x42 x43 x44 x45 x46 x47 x48 x49 x50 x51 x52 x53 x54 x55 x56 x57:Value} (eb pb_ B n:Nat) (rdv ckv tv ltv e5 e6 e7 e8 e9 e10 e11:Value) (rva a9:Option Addr) (rvc c9:Nat) (st kk nn:Int) (told:Bool) (ac:List Ac) (xs:List Value) (w:World) (ht:t.length=58) (k0:t[0]?=some (.pointer (some ⟨eb,0,none⟩))) (k1:t[1]?=some (x1)) (k2:t[2]?=some (x2)) (k3:t[3]?=some (x3)) (k4:t[4]?=some (x4)) (k5:t[5]?=some (x5)) (k6:t[6]?=some (x6)) (k7:t[7]?=some (.pointer (some ⟨pb_,0,none⟩))) (k8:t[8]?=some (x8)) (k9:t[9]?=some (x9)) (k10:t[10]?=some (x10)) (k11:t[11]?=some (x11)) (k12:t[12]?=some (x12)) (k13:t[13]?=some (x13)) (k14:t[14]?=some (x14)) (k15:t[15]?=some (x15)) (k16:t[16]?=some (x16)) (k17:t[17]?=some (x17)) (k18:t[18]?=some (x18)) (k19:t[19]?=some (x19)) (k20:t[20]?=some (x20)) (k21:t[21]?=some (x21)) (k22:t[22]?=some (x22)) (k23:t[23]?=some (x23)) (k24:t[24]?=some (x24)) (k25:t[25]?=some (x25)) (k26:t[26]?=some (x26)) (k27:t[27]?=some (x27)) (k40:t[40]?=some (x40)) (k41:t[41]?=some (x41)) (k42:t[42]?=some (x42)) (k43:t[43]?=some (x43)) (k44:t[44]?=some (x44)) (k45:t[45]?=some (x45)) (k46:t[46]?=some (x46)) (k47:t[47]?=some (x47)) (k48:t[48]?=some (x48)) (k49:t[49]?=some (x49)) (k50:t[50]?=some (x50)) (k51:t[51]?=some (x51)) (k52:t[52]?=some (x52)) (k53:t[53]?=some (x53)) (k54:t[54]?=some (x54)) (k55:t[55]?=some (x55)) (k56:t[56]?=some (x56)) (k57:t[57]?=some (x57))
  (BE:BlkAt w eb [rdv,ckv,tv,ltv,Value.slice rva n rvc,e5,e6,e7,e8,e9,e10,e11]) (BP:BlkAt w pb_ [Value.int .i64 st,Value.int .i64 kk,Value.int .i64 nn,Value.slice a9 ac.length c9,Value.bool told]) (HA:gi w (.slice a9 ac.length c9) 4 ac.length (rowOf bM ac)) (hac:ac.length≤100∧∀ a∈ac,1≤a.k∧a.k≤5) (OW:w.ownsRow B 80 5 (Value.slice rva n rvc) n xs) (hn:n≤1000000) (hB:B≤w.heap.size) (n1:(Value.slice rva n rvc).ownBlock≠some eb) (n2:(Value.slice rva n rvc).ownBlock≠some pb_)
  (hpan:∀ c (a:Act) o v w,Q (.panic c) (a.put o v) w→Q (.panic c) a w)
  (hQ:∀ (t':List Value) (va:Option Addr) (vc:Nat) (ov:Option Addr) (oc:Nat) (w5:World) (w':World),t'.length=58→t'[0]?=some (.pointer (some ⟨eb,0,none⟩))→t'[1]?=some (x1)→t'[2]?=some (x2)→t'[3]?=some (x3)→t'[4]?=some (x4)→t'[5]?=some (x5)→t'[6]?=some (x6)→t'[7]?=some (.pointer (some ⟨pb_,0,none⟩))→t'[8]?=some (x8)→t'[9]?=some (x9)→t'[10]?=some (x10)→t'[11]?=some (x11)→t'[12]?=some (x12)→t'[13]?=some (x13)→t'[14]?=some (x14)→t'[15]?=some (x15)→t'[16]?=some (x16)→t'[17]?=some (x17)→t'[18]?=some (x18)→t'[19]?=some (x19)→t'[20]?=some (x20)→t'[21]?=some (x21)→t'[22]?=some (x22)→t'[23]?=some (x23)→t'[24]?=some (x24)→t'[25]?=some (x25)→t'[26]?=some (x26)→t'[27]?=some (x27)→t'[40]?=some (x40)→t'[41]?=some (x41)→t'[42]?=some (x42)→t'[43]?=some (x43)→t'[44]?=some (x44)→t'[45]?=some (x45)→t'[46]?=some (x46)→t'[47]?=some (x47)→t'[48]?=some (x48)→t'[49]?=some (x49)→t'[50]?=some (x50)→t'[51]?=some (x51)→t'[52]?=some (x52)→t'[53]?=some (x53)→t'[54]?=some (x54)→t'[55]?=some (x55)→t'[56]?=some (x56)→t'[57]?=some (x57)→Below w.heap.size w w5∧w5.ownsRow w.heap.size 41 2 (.slice ov ac.length oc) ac.length (cB (ac.map acV))∧BlkAt w' eb [rdv,ckv,tv,ltv,Value.slice va (n+1) vc,e5,e6,e7,e8,e9,e10,e11]∧w'.ownsRow B 80 5 (.slice va (n+1) vc) (n+1) (xs++[.bool false,Value.int .i64 st,Value.int .i64 kk,Value.int .i64 nn,Value.slice ov ac.length oc])∧((Value.slice va (n+1) vc).ownBlock=(Value.slice rva n rvc).ownBlock∨∃ k,(Value.slice va (n+1) vc).ownBlock=some k∧w5.heap.size≤k)∧KeptB w5 w' (fun k=>k=eb∨(Value.slice rva n rvc).ownBlock=some k)→Q .normal { tmps:=t'.toArray,defers:=[] } w') :
  Code.wp Tryz.prog C4 Q { tmps:=t.toArray,defers:=[] } w:=by
 have HQ:=aa hQ;have HPN:=aa hpan;obtain ⟨i0,hi,hz0,hz1,hz2⟩:=info_parts infoRw9;have hd:Below w.heap.size w ({ w with drawn:=w.drawn+1 }:World):=(Below.refl _ _).drew;have hS:KeptB w ({ w with drawn:=w.drawn+1 }:World) (fun k=>(Value.slice rva n rvc).ownBlock=some k):=ae hd;have BEx:Hid (¬ (Value.slice rva n rvc).ownBlock=some eb):=n1;have BPx:Hid (¬ (Value.slice rva n rvc).ownBlock=some pb_):=n2;have OT:=aa (fun w' (hb:Below w.heap.size w w')=>mr ⟨st,kk,nn,told,ac,.slice a9 ac.length c9⟩ w' hac.1 (bJ HA hb) hac.2);unfold eJ at OT;have BE:=aa BE;have BP:=aa BP;have OW:=aa OW;clear hQ hpan n1 n2 HA hac;obtain ⟨f,hf,hi⟩:=ew t ht;have e0:=am (hi 0 (by decide)) k0;have e1:=am (hi 1 (by decide)) k1;have e2:=am (hi 2 (by decide)) k2;have e3:=am (hi 3 (by decide)) k3;have e4:=am (hi 4 (by decide)) k4;have e5:=am (hi 5 (by decide)) k5;have e6:=am (hi 6 (by decide)) k6;have e7:=am (hi 7 (by decide)) k7;have e8:=am (hi 8 (by decide)) k8;have e9:=am (hi 9 (by decide)) k9;have e10:=am (hi 10 (by decide)) k10;have e11:=am (hi 11 (by decide)) k11;have e12:=am (hi 12 (by decide)) k12;have e13:=am (hi 13 (by decide)) k13;have e14:=am (hi 14 (by decide)) k14;have e15:=am (hi 15 (by decide)) k15;have e16:=am (hi 16 (by decide)) k16;have e17:=am (hi 17 (by decide)) k17;have e18:=am (hi 18 (by decide)) k18;have e19:=am (hi 19 (by decide)) k19;have e20:=am (hi 20 (by decide)) k20;have e21:=am (hi 21 (by decide)) k21;have e22:=am (hi 22 (by decide)) k22;have e23:=am (hi 23 (by decide)) k23;have e24:=am (hi 24 (by decide)) k24;have e25:=am (hi 25 (by decide)) k25;have e26:=am (hi 26 (by decide)) k26;have e27:=am (hi 27 (by decide)) k27;have e40:=am (hi 40 (by decide)) k40;have e41:=am (hi 41 (by decide)) k41;have e42:=am (hi 42 (by decide)) k42;have e43:=am (hi 43 (by decide)) k43;have e44:=am (hi 44 (by decide)) k44;have e45:=am (hi 45 (by decide)) k45;have e46:=am (hi 46 (by decide)) k46;have e47:=am (hi 47 (by decide)) k47;have e48:=am (hi 48 (by decide)) k48;have e49:=am (hi 49 (by decide)) k49;have e50:=am (hi 50 (by decide)) k50;have e51:=am (hi 51 (by decide)) k51;have e52:=am (hi 52 (by decide)) k52;have e53:=am (hi 53 (by decide)) k53;have e54:=am (hi 54 (by decide)) k54;have e55:=am (hi 55 (by decide)) k55;have e56:=am (hi 56 (by decide)) k56;have e57:=am (hi 57 (by decide)) k57;rw [e0,e1,e2,e3,e4,e5,e6,e7,e8,e9,e10,e11,e12,e13,e14,e15,e16,e17,e18,e19,e20,e21,e22,e23,e24,e25,e26,e27,e40,e41,e42,e43,e44,e45,e46,e47,e48,e49,e50,e51,e52,e53,e54,e55,e56,e57] at hf;clear hi ht k0 e0 k1 e1 k2 e2 k3 e3 k4 e4 k5 e5 k6 e6 k7 e7 k8 e8 k9 e9 k10 e10 k11 e11 k12 e12 k13 e13 k14 e14 k15 e15 k16 e16 k17 e17 k18 e18 k19 e19 k20 e20 k21 e21 k22 e22 k23 e23 k24 e24 k25 e25 k26 e26 k27 e27 k40 e40 k41 e41 k42 e42 k43 e43 k44 e44 k45 e45 k46 e46 k47 e47 k48 e48 k49 e49 k50 e50 k51 e51 k52 e52 k53 e53 k54 e54 k55 e55 k56 e56 k57 e57
 subst hf;unfold Tryz.f49 at h4
 simp [rgn] at h4
 subst h4;refine aV (fun w'=>KeptB w w' (fun k=>(Value.slice rva n rvc).ownBlock=some k)) 12 (by kernel_rfl) ?_;generalize ({ w with drawn:=w.drawn+1 }:World)=wd at *;refine LT 0 (v:=.pointer (some ⟨eb,0,none⟩)) [10,11,12] rfl HPN.out (fun wq hq=>by go_simp) hS ?_;refine LT 1 (v:=.pointer (some ⟨eb,0,none⟩)) [2,3,4,9,12] rfl HPN.out (fun wq hq=>by go_simp) hS ?_;refine LT 2 (v:=.pointer (some ⟨eb,0,none⟩)) [3,4,9,12] rfl HPN.out (fun wq hq=>by go_simp) hS ?_;refine LT 3 (v:=.pointer (some ⟨eb,4,none⟩)) [4,9,12] rfl HPN.out (fun wq hq=>by go_simp) hS ?_;refine LT 4 (v:=Value.slice rva n rvc) [9,12] rfl HPN.out (fun wq hq=>by have K:=aI BE.out hq BEx.out;have q4:wq.cell? ⟨eb,4,none⟩=some (Value.slice rva n rvc):=K.c 4 (by simp);clear K;go_simp) hS ?_;refine LT 5 (v:=.agg #[Value.int .i64 st,Value.int .i64 kk,Value.int .i64 nn,Value.slice a9 ac.length c9,Value.bool told]) [6,7,8,9,12] rfl HPN.out (fun wq hq=>by have K:=aI BP.out hq BPx.out;have q0:wq.cell? ⟨pb_,0,none⟩=some (Value.int .i64 st):=K.c 0 (by simp);have q1:wq.cell? ⟨pb_,1,none⟩=some (Value.int .i64 kk):=K.c 1 (by simp);have q2:wq.cell? ⟨pb_,2,none⟩=some (Value.int .i64 nn):=K.c 2 (by simp);have q3:wq.cell? ⟨pb_,3,none⟩=some (Value.slice a9 ac.length c9):=K.c 3 (by simp);have q4:wq.cell? ⟨pb_,4,none⟩=some (Value.bool told):=K.c 4 (by simp);clear K;go_simp) hS ?_;refine LG 6 rfl ?_;intro K' hK;go_simp;refine (OT.out _ hd).mono ?_;rintro e w1 ⟨u,rfl,hou,hb⟩;have hd1:=hd.trans (hb.mono hd.size);have hS1:KeptB w w1 (fun k=>(Value.slice rva n rvc).ownBlock=some k):=ae hd1;obtain ⟨ov,oc,rfl⟩:=ax hou;have HOU:=aa (aN (base':=w.heap.size) hou hd.size);refine hK _ _ ⟨fun _=>hS1,?_⟩;clear hK hou hb;refine LT 7 (v:=.agg #[.bool false,Value.int .i64 st,Value.int .i64 kk,Value.int .i64 nn,Value.slice ov ac.length oc]) [8,9,12] rfl HPN.out (fun wq hq=>by go_simp) hS1 ?_;refine LG 8 rfl ?_;intro K' hK;refine fA 67 80 (.tmp 35) rfl [.bool false,Value.int .i64 st,Value.int .i64 kk,Value.int .i64 nn,Value.slice ov ac.length oc] 5 (by kernel_rfl) i0 _ Tryz.underlying67 hi hz0 hz1 rfl (by decide) (by decide) ?_;have hS2:=af hS1 (ae (bad:=fun k=>(Value.slice rva n rvc).ownBlock=some k) (aj w1 (.cells ([.bool false,Value.int .i64 st,Value.int .i64 kk,Value.int .i64 nn,Value.slice ov ac.length oc]:List Value).toArray 80)));have hT2:=ae (bad:=fun k=>(Value.slice rva n rvc).ownBlock=some k) (aj w1 (.cells ([.bool false,Value.int .i64 st,Value.int .i64 kk,Value.int .i64 nn,Value.slice ov ac.length oc]:List Value).toArray 80));have BZ:=aa (az w1 [.bool false,Value.int .i64 st,Value.int .i64 kk,Value.int .i64 nn,Value.slice ov ac.length oc] 80);have OW1:=aa ((aC OW.out hd1 (Nat.le_refl _)).alloc (.cells ([.bool false,Value.int .i64 st,Value.int .i64 kk,Value.int .i64 nn,Value.slice ov ac.length oc]:List Value).toArray 80))
 have hzd:=hd1.size;refine hK _ _ ⟨fun _=>hS2,?_⟩;clear hK;refine LG 9 rfl ?_;intro K' hK;refine cN (.tmp 32) (.tmp 36) 67 rfl B 80 i0 _ 5 56 Tryz.underlying67 hi hz0 hz1 hz2 (by kernel_rfl) (by decide) (Value.slice rva n rvc) n xs (by kernel_rfl) OW1.out ⟨w1.heap.size,0,none⟩ 1 1 [.bool false,Value.int .i64 st,Value.int .i64 kk,Value.int .i64 nn,Value.slice ov ac.length oc] (by kernel_rfl) rfl (fun j u hu=>by rw [jW,Nat.zero_add];exact (BZ.out.c j (List.getElem?_eq_some_iff.1 hu).1).trans hu) (by simp [Value.oneCell']) (by show _≤2 ^ 63 - 1;omega) (by omega) (by simp;omega) ?_;intro v' w5 ho hg hob;obtain ⟨va,vc,rfl⟩:=ax ho;have hS5:=cV hS2 hg (fun k hk _=>hk);have hT5:=cV hT2 hg (fun k hk _=>hk);have HO:=aa ho;have HB9:=aa hob;refine hK _ _ ⟨fun _=>hS5,?_⟩;clear hK ho hg hob;refine LT 10 (v:=.pointer (some ⟨eb,0,none⟩)) [11,12] rfl HPN.out (fun wq hq=>by go_simp) hS5 ?_;refine LT 11 (v:=.pointer (some ⟨eb,4,none⟩)) [12] rfl HPN.out (fun wq hq=>by go_simp) hS5 ?_;refine LG 12 rfl ?_;intro K' hK;have BE5:=aa (aI BE.out hS5 BEx.out);have q4:w5.cell? ⟨eb,4,none⟩=some (Value.slice rva n rvc):=BE5.out.c 4 (by simp);have f4:=BE5.out.fz 4;have l4:=BE5.out.lt;go_simp;refine hK _ _ ⟨fun h=>absurd rfl h,?_⟩;clear hK;refine bI (by kernel_rfl) ?_ _;have BE6:=ay BE5.out 4 (.slice va (n+1) vc) (by simp);have hobx:(Value.slice va (n+1) vc).ownBlock=(Value.slice rva n rvc).ownBlock∨∃ k,(Value.slice va (n+1) vc).ownBlock=some k∧w1.heap.size≤k:=by
  rcases HB9.out with e | e
  ·exact .inl e
  ·exact .inr ⟨_,e,by simp⟩
 have hne9:∀ k,(Value.slice va (n+1) vc).ownBlock=some k→k≠eb:=fun k hk e=>by
  subst e
  rcases hobx with e | ⟨k2,e,hk2⟩
  ·exact BEx.out (by rw [← e];exact hk)
  ·rw [e] at hk;cases hk
   have:=BE.out.lt
   omega
 exact HQ.out _ va vc ov oc w1 _ rfl rfl rfl rfl rfl rfl rfl rfl rfl rfl rfl rfl rfl rfl rfl rfl rfl rfl rfl rfl rfl rfl rfl rfl rfl rfl rfl rfl rfl rfl rfl rfl rfl rfl rfl rfl rfl rfl rfl rfl rfl rfl rfl rfl rfl rfl rfl ⟨hd1,HOU.out,by simpa using BE6,bg HO.out (ah (ae (bad:=fun k=>k=eb) (Below.refl _ _)) (g:=eb) rfl 4 (.slice va (n+1) vc)) (fun k hk e=>hne9 k hk e),hobx,ah (cW hT5 (fun k e=>.inr e)) (g:=eb) (.inl rfl) 4 (.slice va (n+1) vc)⟩
def qc (p:Pn):Rw:=⟨false,fj p⟩
theorem told_rows {q:Qy} {upto:Int} {tb TT:List Pn} (h:TT.map nZ=(tb.filter (dz q.size upto)).map nZ):TT.map qc=dE q upto tb:=by
 have e:∀ l:List Pn,l.map qc=(l.map nZ).map (fun x=>(⟨false,(x.1,x.2.1,x.2.2.1,x.2.2.2.map acV)⟩:Rw)):=fun l=>by
  rw [List.map_map]
  rfl
 unfold dE;rw [e,h,← e]
 rfl
theorem enM_drop {w0 w w':World} {eb B:Nat} {q:Qy} {rdv ckv ltv va vw vb:Value} {tb tb':List Pn} {rs:List (Rw×Value)} {tv rv tv':Value} (h:EnM w0 eb B q rdv ckv ltv va vw vb tb rs tv rv w) (K:KeptB w w' (fun k=>k=eb))
  (hbe:BlkAt w' eb [rdv,ckv,tv',ltv,rv,va,vw,vb,.int .i64 q.size,.int .i64 q.slide,.int .i64 q.delay,.int .i64 q.late]) (hT:TblR w' tv' tb') (hf:bE w.heap.size tv') (ha:∀ p∈tb',∃ p0∈tb,p0.av=p.av):EnM w0 eb B q rdv ckv ltv va vw vb tb' rs tv' rv w':=by
 have hlt:=h.be.lt;refine ⟨hbe,hT,⟨fun k hk e=>?_,fun p hp=>?_⟩,bg h.ro K (fun k hk e=>h.re (by rw [← e];exact hk)),fun r hr=>⟨aZ (h.rn r hr).1 K (fun k hk e=>(h.rn r hr).2 k (.inl e) hk),(h.rn r hr).2⟩,h.re,Nat.le_trans h.bb K.b0.size,eO h.old K (fun k _ e=>.inl e),⟨aK hf h.bb,fun p hp=>?_⟩,h.fr⟩
 ·have h9:=hf k e
  rcases hk with hk | hk
  ·omega
  ·have:=(aJ h.ro k hk).2;omega
 ·obtain ⟨p0,h0,e⟩:=ha p hp;rw [← e];exact h.ta.2 p0 h0
 ·obtain ⟨p0,h0,e⟩:=ha p hp;rw [← e];exact h.fa.2 p0 h0
theorem kK (size u:Int) (p:Pn):(cP size u p).av=p.av:=by unfold cP;split <;> rfl
theorem etell_any (w0:World) (eb B:Nat) (q:Qy) (rdv ckv ltv va vw vb:Value) (tb:List Pn) (rs:List (Rw×Value)) (tv rv:Value) (upto:Int) (W:World) (hM:EnM w0 eb B q rdv ckv ltv va vw vb tb rs tv rv W) (h1:w0.heap.size≤B)
  (hl:tb.length≤500) (hst:∀ p∈tb,-100000≤p.st∧p.st≤100000) (hac:∀ p∈tb,p.ac.length≤100∧∀ a∈p.ac,1≤a.k∧a.k≤5) (hr:rs.length≤900000) (h3:1≤q.size∧q.size≤1000) (h4:0≤q.late∧q.late≤1000) :
  Calls Tryz.prog 49 #[.pointer (some ⟨eb,0,none⟩),.int .i64 upto] W (fun e w'=>e=.returned (.tuple #[])∧∃ ns tv' rv',EnM w0 eb B q rdv ckv ltv va vw vb (m5 q upto tb) (rs++ns) tv' rv' w'∧ns.map Prod.fst=dE q upto tb∧(rv'.ownBlock=rv.ownBlock∨∃ k,rv'.ownBlock=some k∧W.heap.size≤k)∧KeptB W w' (fun k=>k=eb∨rv.ownBlock=some k)):=by
 obtain ⟨tva,tvc,rfl⟩:=aF hM.tt.row;have HM:=aa hM;have HST:=aa hst;have HAC:=aa hac;have hebw:eb < W.heap.size:=hM.be.lt;have HRL:=aa (aJ hM.ro);have HTA:=aa hM.ta;clear hM hst hac
 go_enter Tryz.func49,Tryz.ntmps49
 go_wp2_with fail;have PNH:=aa (@eX Tryz.prog Tryz.f49 (fun e w'=>e=.returned (.tuple #[])∧∃ ns tv' rv',EnM w0 eb B q rdv ckv ltv va vw vb (m5 q upto tb) (rs++ns) tv' rv' w'∧ns.map Prod.fst=dE q upto tb∧(rv'.ownBlock=rv.ownBlock∨∃ k,rv'.ownBlock=some k∧W.heap.size≤k)∧KeptB W w' (fun k=>k=eb∨rv.ownBlock=some k)));refine etell_r0 _ _ (by kernel_rfl) _ eb rdv ckv ltv rv va vw vb tva tvc tb q upto _ rfl rfl rfl HM.out.be HM.out.tt hl HST.out h3.1 (by omega) (fun p hp=>(HAC.out p hp).1) (by first | exact bX PNH.out | exact PNH.out) ?_;rintro t' tb_ au cu av cv TT w2 ht j0 j1 j4 j5 ⟨hge,BT,TU,TV,hk,hb2,FU,FV,FA⟩;obtain ⟨f,hf,hi⟩:=ew t' ht;have e0:=am (hi 0 (by decide)) j0;have e1:=am (hi 1 (by decide)) j1;have e4:=am (hi 4 (by decide)) j4;have e5:=am (hi 5 (by decide)) j5;rw [e0,e1,e4,e5] at hf;clear hi ht j0 e0 j1 e1 j4 e4 j5 e5;subst hf;refine aP ?_;have hTTl:TT.length≤500:=by
  have e:=congrArg List.length hk;rw [List.length_map,List.length_map] at e
  have:=List.length_filter_le (dz q.size upto) tb
  omega
 have HACT:Hid (∀ p∈TT,p.ac.length≤100∧∀ a∈p.ac,1≤a.k∧a.k≤5):=fun p hp=>by
  have h9:nZ p∈(tb.filter (dz q.size upto)).map nZ:=by rw [← hk];exact List.mem_map_of_mem hp
  obtain ⟨p0,h0,e⟩:=List.mem_map.1 h9;have e2:p0.ac=p.ac:=congrArg (fun x=>x.2.2.2) e;rw [← e2];exact HAC.out p0 (List.mem_filter.1 h0).1
 have HROWS:=aa (told_rows hk);have HB2:=aa hb2;have hsz2:=hb2.size;have M2:=aa (bW HM.out hb2);have HBT:=aa BT;have HTU:=aa TU;have HTV:=aa TV;have HFU:=aa FU;have HFV:=aa FV;have HFA:=aa FA;have NB:Hid (∀ k,W.heap.size≤k→¬ (k=eb∨rv.ownBlock=some k)):=fun k hk9 e=>by
  rcases e with e | e
  ·omega
  ·have:=(HRL.out k e).2;omega
 clear hk hb2 BT TU TV FU FV FA;go_wp2_with fail
 go_loopw [24] (fun i wr=>∃ (m:Nat) (ns:List (Rw×Value)) (rv1:Value),m≤TT.length∧i=.int .i64 m∧Hid (ns.map Prod.fst=(TT.take m).map qc)∧Hid (EnM w0 eb B q rdv ckv ltv va vw vb tb (rs++ns) (.slice tva tb.length tvc) rv1 wr)∧Hid (KeptB w2 wr (fun k=>k=eb∨rv.ownBlock=some k))∧Hid (rv1.ownBlock=rv.ownBlock∨∃ k,rv1.ownBlock=some k∧w2.heap.size≤k)) (fun i _=>TT.length - (intOf i).toNat)
 case atStart=>exact ⟨0,[],rv,Nat.zero_le _,rfl,rfl,by show EnM _ _ _ _ _ _ _ _ _ _ _ _ _ _ _;rw [List.append_nil];exact M2.out,ae (Below.refl _ _),.inl rfl⟩
 case round =>
  clear M2;obtain ⟨m,ns,rv1,hm,rfl,HNS,HMr,HK,HRV⟩:=hrel;have hnl:ns.length=m:=by
   have e:=congrArg List.length HNS.out;simp only [List.length_map,List.length_take] at e;omega
  obtain ⟨rva,rvc,rfl⟩:=ax HMr.out.ro
  by_cases hlt:m < TT.length
  ·have TVr:=cm HTV.out HK.out (fun k hk=>NB.out k (HFV.out k hk)) (fun p hp k hk=>NB.out k (HFA.out p hp k hk));obtain ⟨g,off,hao,hcell,q1,q2,lg⟩:=bA aW (ce TVr.row) m hlt;subst hao;have hpac:=TVr.acc TT[m] (List.getElem_mem hlt);have hkm:=HACT.out TT[m] (List.getElem_mem hlt);have HPM:Hid ((TT.take (m+1)).map qc=(TT.take m).map qc++[qc TT[m]]):=by
    show _=_
    rw [ez TT m hlt,List.map_append]
    rfl
   generalize TT[m]=p at *;obtain ⟨st,kk,nn,told,ac,pv⟩:=p;obtain ⟨a9,c9,hav⟩:=aF hpac
   simp only at hav hkm
   subst hav;have y0:wr.cell? ⟨g,off+m * 5,none⟩=some (.int .i64 st):=hcell 0 (by omega);have y1:wr.cell? ⟨g,off+m * 5+1,none⟩=some (.int .i64 kk):=hcell 1 (by omega);have y2:wr.cell? ⟨g,off+m * 5+2,none⟩=some (.int .i64 nn):=hcell 2 (by omega);have y3:wr.cell? ⟨g,off+m * 5+3,none⟩=some (.slice a9 ac.length c9):=hcell 3 (by omega);have y4:wr.cell? ⟨g,off+m * 5+4,none⟩=some (.bool told):=hcell 4 (by omega);have bx:=aj wr (.cells #[.int .i64 st,.int .i64 kk,.int .i64 nn,.slice a9 ac.length c9,.bool told] 84);have BX:=aa (az wr [.int .i64 st,.int .i64 kk,.int .i64 nn,.slice a9 ac.length c9,.bool told] 84);have MX:=aa (bW HMr.out bx);have HA:=aa (bJ (show gi wr (.slice a9 ac.length c9) 4 ac.length (rowOf bM ac) from hpac) bx);have HBX:=aa bx;have HKM:=aa hkm;have hrl:=HMr.out.be.lt;have HRO:=aa (aJ HMr.out.ro);unfold maxLen at q2;clear TVr hcell hpac bx hkm;go_wp2_with fail;clear y0 y1 y2 y3 y4;refine etell_r4 _ _ (by kernel_rfl) _ eb wr.heap.size B (rs++ns).length rdv ckv (.slice tva tb.length tvc) ltv va vw vb (.int .i64 q.size) (.int .i64 q.slide) (.int .i64 q.delay) (.int .i64 q.late) rva a9 rvc c9 st kk nn told ac (rowOf gg (rs++ns)) _ rfl rfl rfl rfl rfl rfl rfl rfl rfl rfl rfl rfl rfl rfl rfl rfl rfl rfl rfl rfl rfl rfl rfl rfl rfl rfl rfl rfl rfl rfl rfl rfl rfl rfl rfl rfl rfl rfl rfl rfl rfl rfl rfl rfl rfl rfl rfl  MX.out.be BX.out HA.out HKM.out MX.out.ro (by rw [List.length_append];omega) MX.out.bb MX.out.re (fun e=>by have:=(HRO.out _ e).2;omega) (by first | exact bX PNH.out | exact PNH.out | exact fun c a o v w h=>h) ?_;rintro t4 va_ vc_ ov oc w5 w6 ht4 l0 l1 l2 l3 l4 l5 l6 l7 l8 l9 l10 l11 l12 l13 l14 l15 l16 l17 l18 l19 l20 l21 l22 l23 l24 l25 l26 l27 l40 l41 l42 l43 l44 l45 l46 l47 l48 l49 l50 l51 l52 l53 l54 l55 l56 l57 ⟨hd5,OV,BE6,OW6,RV6,K6⟩;obtain ⟨f4,hf,hi⟩:=ew t4 ht4;have e0:=am (hi 0 (by decide)) l0;have e1:=am (hi 1 (by decide)) l1;have e2:=am (hi 2 (by decide)) l2;have e3:=am (hi 3 (by decide)) l3;have e4:=am (hi 4 (by decide)) l4;have e5:=am (hi 5 (by decide)) l5;have e6:=am (hi 6 (by decide)) l6;have e7:=am (hi 7 (by decide)) l7;have e8:=am (hi 8 (by decide)) l8;have e9:=am (hi 9 (by decide)) l9;have e10:=am (hi 10 (by decide)) l10;have e11:=am (hi 11 (by decide)) l11;have e12:=am (hi 12 (by decide)) l12;have e13:=am (hi 13 (by decide)) l13;have e14:=am (hi 14 (by decide)) l14;have e15:=am (hi 15 (by decide)) l15;have e16:=am (hi 16 (by decide)) l16;have e17:=am (hi 17 (by decide)) l17;have e18:=am (hi 18 (by decide)) l18;have e19:=am (hi 19 (by decide)) l19;have e20:=am (hi 20 (by decide)) l20;have e21:=am (hi 21 (by decide)) l21;have e22:=am (hi 22 (by decide)) l22;have e23:=am (hi 23 (by decide)) l23;have e24:=am (hi 24 (by decide)) l24;have e25:=am (hi 25 (by decide)) l25;have e26:=am (hi 26 (by decide)) l26
   have e27:=am (hi 27 (by decide)) l27;have e40:=am (hi 40 (by decide)) l40;have e41:=am (hi 41 (by decide)) l41;have e42:=am (hi 42 (by decide)) l42;have e43:=am (hi 43 (by decide)) l43;have e44:=am (hi 44 (by decide)) l44;have e45:=am (hi 45 (by decide)) l45;have e46:=am (hi 46 (by decide)) l46;have e47:=am (hi 47 (by decide)) l47;have e48:=am (hi 48 (by decide)) l48;have e49:=am (hi 49 (by decide)) l49;have e50:=am (hi 50 (by decide)) l50;have e51:=am (hi 51 (by decide)) l51;have e52:=am (hi 52 (by decide)) l52;have e53:=am (hi 53 (by decide)) l53;have e54:=am (hi 54 (by decide)) l54;have e55:=am (hi 55 (by decide)) l55;have e56:=am (hi 56 (by decide)) l56;have e57:=am (hi 57 (by decide)) l57;rw [e0,e1,e2,e3,e4,e5,e6,e7,e8,e9,e10,e11,e12,e13,e14,e15,e16,e17,e18,e19,e20,e21,e22,e23,e24,e25,e26,e27,e40,e41,e42,e43,e44,e45,e46,e47,e48,e49,e50,e51,e52,e53,e54,e55,e56,e57] at hf;clear hi ht4 l0 e0 l1 e1 l2 e2 l3 e3 l4 e4 l5 e5 l6 e6 l7 e7 l8 e8 l9 e9 l10 e10 l11 e11 l12 e12 l13 e13 l14 e14 l15 e15 l16 e16 l17 e17 l18 e18 l19 e19 l20 e20 l21 e21 l22 e22 l23 e23 l24 e24 l25 e25 l26 e26 l27 e27 l40 e40 l41 e41 l42 e42 l43 e43 l44 e44 l45 e45 l46 e46 l47 e47 l48 e48 l49 e49 l50 e50 l51 e51 l52 e52 l53 e53 l54 e54 l55 e55 l56 e56 l57 e57;subst hf;have M5:=bW MX.out hd5;have hwbs:(wr.alloc (.cells #[.int .i64 st,.int .i64 kk,.int .i64 nn,.slice a9 ac.length c9,.bool told] 84)).heap.size=wr.heap.size+1:=by simp
   have hge2:w2.heap.size≤wr.heap.size:=HK.out.b0.size;have AP:Apt eb (.slice rva (rs++ns).length rvc) (.slice ov ac.length oc):=fun k hk9 e=>by
    have h9:=(aJ OV k e).1
    rcases hk9 with hk9 | hk9
    ·omega
    ·have:=(HRO.out k hk9).2;omega
   have M6:=mQ (ns:=[(⟨false,(st,kk,nn,ac.map acV)⟩,.slice ov ac.length oc)]) M5 h1 K6 BE6 (by rw [cQ,show (rs++ns++[((⟨false,(st,kk,nn,ac.map acV)⟩:Rw),(.slice ov ac.length oc:Value))]).length=(rs++ns).length+1 from List.length_append];exact OW6) RV6 (fun r hr9=>by
     rw [List.mem_singleton.1 hr9];exact ⟨by simp only [List.length_map];exact bc OV,AP⟩) (fun r hr9=>by
     rw [List.mem_singleton.1 hr9];exact fun k e=>by have h9:=(aJ OV k e).1;have:=HMr.out.bb;omega)
   rw [List.append_assoc] at M6;have HM6:=aa M6;have KX:=af (ae (bad:=fun k=>k=eb∨(Value.slice rva (rs++ns).length rvc).ownBlock=some k) (HBX.out.trans (hd5.mono HBX.out.size))) K6;have HK6:=aa (qf HK.out KX HRV.out);have HRV6:=aa (rbE (z:=0) HRV.out RV6 (Nat.le_trans hge2 (Nat.le_trans HBX.out.size hd5.size)));have HNS6:Hid ((ns++[((⟨false,(st,kk,nn,ac.map acV)⟩:Rw),(.slice ov ac.length oc:Value))]).map Prod.fst=(TT.take (m+1)).map qc):=by
    show _=_
    rw [HPM.out,List.map_append,HNS.out]
    rfl
   clear M5 M6 KX hd5 OV BE6 OW6 RV6 K6 AP MX BX HA HMr HK HNS HPM HRV
   first | refine aP ?_ | skip
   go_wp2_with fail;go_roundw
   case rel=>exact ⟨m+1,_,_,by omega,by go_num,HNS6,HM6,HK6,HRV6⟩
   case measure=>simp [intOf];omega
  ·have hml:m=TT.length:=by omega
   subst hml;have hnse:ns.map Prod.fst=dE q upto tb:=by rw [HNS.out,List.take_length,HROWS.out]
   have BTr:=aI HBT.out HK.out (NB.out tb_ hge);have TUr:=cm HTU.out HK.out (fun k hk=>NB.out k (HFU.out k hk)) (fun p hp k hk e=>by
    obtain ⟨p0,h0,rfl⟩:=List.mem_map.1 hp;rw [kK] at hk;exact HTA.out.2 p0 h0 k e hk)
   have hlm:(tb.map (cP q.size upto)).length=tb.length:=List.length_map ..;rw [← hlm] at BTr TUr;have HBTr:=aa BTr;have HTUr:=aa TUr;have HAP:Hid (∀ p∈tb.map (cP q.size upto),p.av.ownBlock≠some eb):=fun p hp=>by
    obtain ⟨p0,h0,rfl⟩:=List.mem_map.1 hp;rw [kK];exact HTA.out.2 p0 h0 eb (.inl rfl)
   have HST2:Hid (∀ p∈tb.map (cP q.size upto),-100000≤p.st∧p.st≤100000):=fun p hp=>by
    obtain ⟨p0,h0,rfl⟩:=List.mem_map.1 hp;rw [(bS q.size upto p0).2.2.1];exact HST.out p0 h0
   have HNSE:=aa hnse;clear BTr TUr hnse HNS HBT HTU HTV;go_wp2_with fail
   first | refine aP ?_ | skip
   refine etell_r6 _ _ (by kernel_rfl) _ eb tb_ rdv ckv (.slice tva tb.length tvc) ltv (.slice rva (rs++ns).length rvc) va vw vb au cu (tb.map (cP q.size upto)) q upto _ rfl rfl rfl rfl HMr.out.be HBTr.out HTUr.out HAP.out (by rw [hlm];exact hl) HST2.out (by omega) (by omega) (by first | exact bX PNH.out | exact PNH.out) ?_;rintro t6 ud cd w7 ht6 i0 i1 i4 ⟨BE7,TT7,FU7,K7⟩;obtain ⟨f6,hf6,-⟩:=ew t6 ht6;subst hf6;have M7:=enM_drop HMr.out K7 BE7 TT7 FU7 (fun p hp=>by
    obtain ⟨p0,h0,e⟩:=List.mem_map.1 (List.mem_filter.1 hp).1;exact ⟨p0,h0,by rw [← e,kK]⟩)
   have FIN:KeptB W w7 (fun k=>k=eb∨rv.ownBlock=some k):=af (ae HB2.out) (af HK.out (cW K7 (fun k e=>.inl e)));have FRV:(Value.slice rva (rs++ns).length rvc).ownBlock=rv.ownBlock∨∃ k,(Value.slice rva (rs++ns).length rvc).ownBlock=some k∧W.heap.size≤k:=by
    rcases HRV.out with e | ⟨k,e,h9⟩
    ·exact .inl e
    ·exact .inr ⟨k,e,by omega⟩
   first | exact bodyPost_end (results_none rfl _ _ _) rfl ⟨rfl,ns,_,_,M7,HNSE.out,FRV,FIN⟩ | (refine aP ?_;exact bodyPost_end (results_none rfl _ _ _) rfl ⟨rfl,ns,_,_,M7,HNSE.out,FRV,FIN⟩) | (go_wp2_with fail;exact bodyPost_end (results_none rfl _ _ _) rfl ⟨rfl,ns,_,_,M7,HNSE.out,FRV,FIN⟩)
theorem addW_at {B:Nat} {ks:List Int} {tb tb':List Pn} {c:Ct} {wp:Pn} (h:nX B ks tb c tb' wp) (ht:wp.told=true) (hR:jD tb):(wp.st=c.st∧wp.k=c.key.1∧wp.n=c.key.2)∧(∃ p∈tb',p.st=wp.st∧p.k=wp.k∧p.n=wp.n)∧∀ (i:Nat) (hi:i < tb'.length),(tb'[i].st=wp.st∧tb'[i].k=wp.k∧tb'[i].n=wp.n)→tb'[i].ac=dD wp.ac c.vs:=by
 rcases h with ⟨j,hj,av,h1,rfl,-,h4,h5,h6⟩ | ⟨-,-,-,h4⟩
 ·refine ⟨h4,⟨_,List.mem_set hj _,h4.1.symm,h4.2.1.symm,h4.2.2.symm⟩,fun i hi hk=>?_⟩;rw [List.length_set] at hi
  by_cases e:j=i
  ·subst e;rw [List.getElem_set_self,h6]
  ·rw [List.getElem_set_ne e] at hk;exact absurd (ky hR (List.getElem?_eq_getElem hj) (List.getElem?_eq_getElem hi) ⟨h1.1.trans (h4.1.symm.trans hk.1.symm),h1.2.1.trans (h4.2.1.symm.trans hk.2.1.symm),h1.2.2.trans (h4.2.2.symm.trans hk.2.2.symm)⟩) e
 ·rw [ht] at h4;cases h4
theorem addW_acc {B:Nat} {ks:List Int} {tb tb':List Pn} {c:Ct} {wp:Pn} (h:nX B ks tb c tb' wp) (ht:wp.told=true) (hO:TbOk ks tb):wp.ac.length=ks.length∧∀ a∈wp.ac,1≤a.k∧a.k≤5:=by
 rcases h with ⟨j,hj,av,-,-,-,-,-,h6⟩ | ⟨-,-,-,h4⟩
 ·obtain ⟨a1,a2⟩:=hO.acc tb[j] (List.getElem_mem hj);rw [h6];exact ⟨a1,fun a ha=>⟨(a2 a ha).1,(a2 a ha).2.1⟩⟩
 ·rw [ht] at h4;cases h4
theorem addL_acc {ac:List Ac} {vs:List V2} (hl:vs.length=ac.length) (h:∀ a∈ac,1≤a.k∧a.k≤5):(dD ac vs).length=ac.length∧∀ a∈dD ac vs,1≤a.k∧a.k≤5:=by
 refine ⟨by simp [dD,hl],fun a ha=>?_⟩;obtain ⟨b,hb,v,-,rfl⟩:=nD ha;exact h b hb
theorem addW_len {B:Nat} {ks:List Int} {tb tb':List Pn} {c:Ct} {wp:Pn} (h:nX B ks tb c tb' wp):tb'.length≤tb.length+1:=by
 rcases h with ⟨j,hj,av,-,rfl,-⟩ | ⟨-,⟨i,av,hi,rfl,-⟩,-⟩
 ·simp
 ·simp
  omega
theorem eput_any (w0:World) (eb B:Nat) (q:Qy) (ps:List (AgQ×Value)) (rdv ckv ltv va vw vb:Value) (cs0:List Ct) (lim:Option Int) (tb0:List Pn) (rows0:List Rw) (r0:Nat) (hq0:QyG w0 va vw vb q ps) (h4:ps.length≤4) (hkk:∀ a∈q.aggs,1≤a.kind∧a.kind≤5)
  (h0:QyK eb rdv va vw vb ps) (h1:w0.heap.size≤B) (hcs0:cs0.length≤480) (hv0:∀ d∈cs0,d.vs.length=q.aggs.length) (hr0:r0≤900000) :
  PutE (o6 w0 eb B q rdv ckv ltv va vw vb cs0 lim tb0 rows0 r0) (fun st=>nV q lim st=true) eb ps.length (.pointer (some ⟨eb,0,none⟩)):=by
 have hql:q.aggs.length=ps.length:=by rw [← hq0.qa,List.length_map]
 refine ⟨fun cs rb w w' h hb=>?_,fun cs rb w h k hk=>?_,fun cs rb c vv w h hcs hst hg hvl hv=>?_⟩
 ·obtain ⟨tb,rs,tv,rv,V,hM,e,hI,hA,hvs,hrl⟩:=h;exact ⟨tb,rs,tv,rv,V,bW hM hb,e,hI,hA,hvs,hrl⟩
 ·obtain ⟨tb,rs,tv,rv,V,hM,e,-⟩:=h
  rcases hk with rfl | hk
  ·exact hM.be.lt
  ·exact (aJ hM.ro k (by rw [← e];exact hk)).2
 ·obtain ⟨tb,rs,tv,rv,V,hM,rfl,hI,hA,hvs,hrl⟩:=h;have hvall:∀ d∈cs0++cs,d.vs.length=(q.aggs.map AgQ.kind).length:=fun d hd=>by
   rw [List.length_map]
   rcases List.mem_append.1 hd with hd | hd
   ·exact hv0 d hd
   ·exact hvs d hd
  have hOk:=oQ hI (by rw [List.length_append];omega) hvall (fun x hx=>by obtain ⟨a,ha,rfl⟩:=List.mem_map.1 hx;exact hkk a ha);obtain ⟨tva,tvc,rfl⟩:=aF hM.tt.row;obtain ⟨rva,rvc,rfl⟩:=ax hM.ro;obtain ⟨vva,vvc,rfl⟩:=aq hv;have hbk:=aj w (.cells #[.int .i64 c.key.1,.int .i64 c.key.2] 41);have MK:=bW hM hbk;have hqk:=ke (eb:=eb) (rdv:=rdv) hq0 MK.old h0;obtain ⟨ao,cap,rfl⟩:=aq hqk.ag.row;obtain ⟨a2,c2,rfl⟩:=aq hqk.wh;obtain ⟨a3,c3,rfl⟩:=aq hqk.by_;have BK:=az w [.int .i64 c.key.1,.int .i64 c.key.2] 41;have hvk:=aA hv hbk;have hwk:w.heap.size < (w.alloc (.cells #[.int .i64 c.key.1,.int .i64 c.key.2] 41)).heap.size:=by simp
  -- what is shown at each end
  have DONE:∀ (tb':List Pn) (ns:List (Rw×Value)) (tv' rv':Value) (w':World),EnM w0 eb B q rdv ckv ltv (.slice ao ps.length cap) (.slice a2 q.wh.length c2) (.slice a3 q.bys.length c3) tb' (rs++ns) tv' rv' w'→qr (q.aggs.map AgQ.kind) tb (rs.map Prod.fst) c tb' ((rs++ns).map Prod.fst)→ns.length≤2 →
    (rv'.ownBlock=(Value.slice rva rs.length rvc).ownBlock∨∃ k,rv'.ownBlock=some k∧w.heap.size≤k)→KeptB w w' (fun k=>k=eb∨(Value.slice rva rs.length rvc).ownBlock=some k) →
    ∃ rb',o6 w0 eb B q rdv ckv ltv (.slice ao ps.length cap) (.slice a2 q.wh.length c2) (.slice a3 q.bys.length c3) cs0 lim tb0 rows0 r0 (cs++[c]) rb' w'∧(rb'=(Value.slice rva rs.length rvc).ownBlock∨∃ k,rb'=some k∧w.heap.size≤k)∧KeptB w w' (fun k=>k=eb∨(Value.slice rva rs.length rvc).ownBlock=some k):=fun tb' ns tv' rv' w' m a hn hrv hk=>by
   obtain ⟨V',hV⟩:=oy hI c hg a;refine ⟨_,⟨tb',rs++ns,tv',rv',V',m,rfl,by rw [← List.append_assoc];exact hV,.snoc hA a,fun d hd=>?_,by rw [List.length_append,List.length_append,List.length_singleton];omega⟩,hrv,hk⟩
   rcases List.mem_append.1 hd with hd | hd
   ·exact hvs d hd
   ·rw [List.mem_singleton.1 hd,hvl,hql]
  have HD:=aa DONE;have HMK:=aa MK;have HMK2:=aa MK;have HOK:=aa hOk;have HQK:=aa hqk;have HBK:=aa BK;have HVK:=aa hvk;have HBW:=aa hbk;have hnr:rs.length≤1000000:=by omega
  clear DONE hI hA hvs hvall hOk hM MK hqk BK hvk hv hbk hq0 hg
  go_enter Tryz.func47,Tryz.ntmps47
  go_wp2_with fail;have PNH:=aa (@eX Tryz.prog Tryz.f47 (fun e w'=>e=.returned (.tuple #[])∧∃ rb',o6 w0 eb B q rdv ckv ltv (.slice ao ps.length cap) (.slice a2 q.wh.length c2) (.slice a3 q.bys.length c3) cs0 lim tb0 rows0 r0 (cs++[c]) rb' w'∧(rb'=(Value.slice rva rs.length rvc).ownBlock∨∃ k,rb'=some k∧w.heap.size≤k)∧KeptB w w' (fun k=>k=eb∨(Value.slice rva rs.length rvc).ownBlock=some k)));refine eadd_r1 _ _ (by kernel_rfl) _ eb w.heap.size rdv ckv ltv (.slice rva rs.length rvc) tva vva tvc vvc tb c q ps ao a2 a3 cap c2 c3 _ rfl rfl rfl rfl rfl HMK.out.be HBK.out HQK.out h4 hkk HMK.out.tt HOK.out HVK.out hvl (bX PNH.out) ?_;rintro t' tb_ wb_ ws wk9 wn wt wac aw cw au cu b tb' w2 ht j0 j1 j3 j6 j8 j9 j10 ⟨⟨ht_,hw_⟩,BT,BW,TT,AA,FU,FW,AW,hb2⟩;obtain ⟨f,hf,hi⟩:=fN t' ht;have e0:=am (hi 0 (by decide)) j0;have e1:=am (hi 1 (by decide)) j1;have e3:=am (hi 3 (by decide)) j3;have e6:=am (hi 6 (by decide)) j6;have e8:=am (hi 8 (by decide)) j8;have e9:=am (hi 9 (by decide)) j9;have e10:=am (hi 10 (by decide)) j10;rw [e0,e1,e3,e6,e8,e9,e10] at hf;clear hi ht j0 e0 j1 e1 j3 e3 j6 e6 j8 e8 j9 e9 j10 e10;subst hf;refine aP ?_;have MT:=aa (enM_tab HMK.out h1 hb2 TT FU (addW_mem AW));have M2:=bW HMK.out hb2;have HAW:=aa AW;have hszk:w.heap.size < w2.heap.size:=Nat.lt_of_lt_of_le hwk hb2.size;have hebk:=HMK.out.be.lt;have hszk2:=hb2.size;have K3:Hid (KeptB w (w2.setCell ⟨eb,2,none⟩ (.slice au tb'.length cu)) (fun k=>k=eb∨(Value.slice rva rs.length rvc).ownBlock=some k)):=aa (ah (af (ae HBW.out) (ae hb2)) (g:=eb) (.inl rfl) 2 _);have hAT:=addW_at AW;have hAC:=addW_acc AW;have hLN:=addW_len AW;have hRT:=HOK.out.rise;have hfew:=HOK.out.few;have HOK2:=HOK;have hebt:tb_≠eb:=by omega
  have hebw:wb_≠eb:=by omega
  have KE:=ah (ae (bad:=fun k=>k=eb) (Below.refl w2.heap.size w2)) (g:=eb) rfl 2 (.slice au tb'.length cu);have BT3:=aI BT KE hebt;have BW3:=aI BW KE hebw;have AA3:jF (w2.setCell ⟨eb,2,none⟩ (.slice au tb'.length cu)) ⟨ws,wk9,wn,wt,wac,.slice aw wac.length cw⟩:=aZ AA KE (fun k hk e=>by have:=FW k hk;omega);have q2:w2.cell? ⟨eb,2,none⟩=some (.slice tva tb.length tvc):=M2.be.c 2 (by simp);have f2:=M2.be.fz 2;have l2:=M2.be.lt;have x0:w2.cell? ⟨tb_,0,none⟩=some (.slice au tb'.length cu):=BT.c 0 (by simp);have x4:(w2.setCell ⟨eb,2,none⟩ (.slice au tb'.length cu)).cell? ⟨wb_,4,none⟩=some (.bool wt):=BW3.c 4 (by simp);have HBT3:=aa BT3;have HBW3:=aa BW3;have HAA3:=aa AA3;rename_i K9 hK9;refine hK9 _ _ ?_;clear hK9 KE BT3 BW3 AA3 M2 TT AA FU AW FW BT BW HMK HBK HQK HVK HOK;cases wt with
  | false =>
   clear hAT hAC hRT;go_wp2_with fail;refine bodyPost_ret (results_none rfl _ _ _) rfl ?_;exact ⟨rfl,HD.out tb' [] _ _ _ (by rw [List.append_nil];exact MT.out) (by rw [List.append_nil];exact lA HAW.out (.inl rfl)) (by simp) (.inl rfl) K3.out⟩
  | true =>
   obtain ⟨hkey,hex,hac⟩:=hAT rfl hRT;obtain ⟨hacl,hack⟩:=hAC rfl HOK2.out
   simp only at hkey hex hac hacl hack
   have HKEY:=aa hkey;have HAC:=aa hac;have HEX:=aa hex;have HACK:=aa hack;have hacl4:wac.length≤4:=by rw [hacl,List.length_map];omega
   have hvw:c.vs.length=wac.length:=by rw [hacl,List.length_map,hql,hvl]
   have IX:=aa (indexAdd_any tb' (fun p=>decide (p.st=ws∧p.k=wk9∧p.n=wn)) (.pointer (some ⟨wb_,0,none⟩)) au cu (w2.setCell ⟨eb,2,none⟩ (.slice au tb'.length cu)) (by omega) (ce MT.out.tt.row) (dv MT.out.tt) (fun p hp w' hb=>by
    have BWx:=ai HBW3.out hb HBW3.out.lt;exact add1_any p wb_ ws wk9 wn w' (dv MT.out.tt p hp) (BWx.c 0 (by simp)) (BWx.c 1 (by simp)) (BWx.c 2 (by simp)) BWx.lt))
   have y0:(w2.setCell ⟨eb,2,none⟩ (.slice au tb'.length cu)).cell? ⟨tb_,0,none⟩=some (.slice au tb'.length cu):=HBT3.out.c 0 (by simp);clear hkey hex hac hack hAT hAC hRT hacl;go_wp2_with fail;refine IX.out.mono ?_;rintro e w4 (⟨i,hi,-,hat,rfl,hb4⟩ | ⟨hnone,-,-⟩)
   ·have hpi:=hat tb'[i] (List.getElem?_eq_getElem hi);have hpk:tb'[i].st=ws∧tb'[i].k=wk9∧tb'[i].n=wn:=of_decide_eq_true hpi;have hpac:=HAC.out i hi hpk;obtain ⟨pa,pc,hpav⟩:=aF (MT.out.tt.acc tb'[i] (List.getElem_mem hi));obtain ⟨p,hpe⟩:∃ p,tb'[i]=p:=⟨_,rfl⟩;rw [hpe] at hpk hpac hpav;obtain ⟨pst,pk,pn,pt,pac,pav⟩:=p
    simp only at hpk hpac hpav
    subst hpav;obtain ⟨hpl,hpkk⟩:=addL_acc hvw HACK.out;rw [← hpac] at hpl hpkk;have hpl4:pac.length≤4:=by omega
    have HPL:=aa hpl;clear hpl hvw;have M4:=aa (bW MT.out hb4);have K4:Hid (KeptB w w4 (fun k=>k=eb∨(Value.slice rva rs.length rvc).ownBlock=some k)):=aa (af K3.out (ae hb4));have HHP:=aa hpe;have HPA:=aa hpac;have HPK:=aa hpk;have HPKK:=aa hpkk;have BT4:=aa (ai HBT3.out hb4 HBT3.out.lt);have BW4:=aa (ai HBW3.out hb4 HBW3.out.lt);have AA4:=aa (bp HAA3.out hb4);have hsz4:=hb4.size;clear hpe hpac hpk hpkk hb4 IX HBT3 HBW3 HAA3 K3 MT hat hpi y0 HEX;go_wp2_with fail;refine eadd_r5 _ _ (by kernel_rfl) _ eb tb_ wb_ i ws wk9 wn true wac aw au cw cu tb' pst pk pn pt pac pa pc _ rfl rfl rfl rfl rfl BT4.out BW4.out M4.out.tt AA4.out hi (by omega) HHP.out (by omega) HACK.out (by omega) HPKK.out (bX PNH.out) ?_;rintro t5 ob_ nb_ o1 d1 o2 d2 w5 ht5 k0 k8 k9 k11 k12 k13 ⟨⟨ho_,hn_⟩,BO,BN,O1,O2,hb5⟩;obtain ⟨f5,hf5,hi5⟩:=fN t5 ht5;have e0:=am (hi5 0 (by decide)) k0;have e8:=am (hi5 8 (by decide)) k8;have e9:=am (hi5 9 (by decide)) k9;have e11:=am (hi5 11 (by decide)) k11;have e12:=am (hi5 12 (by decide)) k12;have e13:=am (hi5 13 (by decide)) k13;rw [e0,e8,e9,e11,e12,e13] at hf5;clear hi5 ht5 k0 e0 k8 e8 k9 e9 k11 e11 k12 e12 k13 e13;subst hf5;refine aP ?_;have M5:=aa (bW M4.out hb5);have K5:Hid (KeptB w w5 (fun k=>k=eb∨(Value.slice rva rs.length rvc).ownBlock=some k)):=aa (af K4.out (ae hb5));have HO1:=aa O1;have HO2:=aa O2;have HBO:=aa BO;have HBN:=aa BN;have u3:w5.cell? ⟨ob_,3,none⟩=some (.slice o1 wac.length d1):=BO.c 3 (by simp);have v3:w5.cell? ⟨nb_,3,none⟩=some (.slice o2 pac.length d2):=BN.c 3 (by simp);have lo:=BO.lt;have ln:=BN.lt;have EQ:=aa (equalVals_any (wac.map acV) (pac.map acV) (.slice o1 wac.length d1) (.slice o2 pac.length d2) w5 (by rw [List.length_map];omega) (by rw [List.length_map,List.length_map,HPL.out]) (by rw [List.length_map];exact aE O1) (by rw [List.length_map];exact aE O2));have hsz5:=hb5.size;rename_i K9 hK9;refine hK9 _ _ ?_;clear hK9 BO BN O1 O2 hb5 M4 K4 BT4 BW4 AA4;go_wp2_with fail;refine EQ.out.mono ?_;rintro e w6 ⟨rfl,hb6⟩;have M6:=aa (bW M5.out hb6);have K6:Hid (KeptB w w6 (fun k=>k=eb∨(Value.slice rva rs.length rvc).ownBlock=some k)):=aa (af K5.out (ae hb6));have O1:=aC HO1.out hb6 (Nat.le_refl _);have O2:=aC HO2.out hb6 (Nat.le_refl _);have BO:=ai HBO.out hb6 HBO.out.lt;have BN:=ai HBN.out hb6 HBN.out.lt;have hsz6:=hb6.size;have HO1:=aa O1;have HO2:=aa O2;have HBO:=aa BO;have HBN:=aa BN;clear O1 O2 BO BN hb6 M5 K5 EQ u3 v3
    by_cases heq:wac.map acV=pac.map acV
    ·have dq:decide (wac.map acV=pac.map acV)=true:=decide_eq_true heq;have HEQ:=aa heq;clear heq;go_wp2_with fail;refine bodyPost_end (results_none rfl _ _ _) rfl ?_;exact ⟨rfl,HD.out tb' [] _ _ _ (by rw [List.append_nil];exact M6.out) (by rw [List.append_nil];exact lA HAW.out (.inr (by rw [← HPA.out];exact HEQ.out))) (by simp) (.inl rfl) K6.out⟩
    ·have dq:decide (wac.map acV=pac.map acV)=false:=decide_eq_false heq;have HNE:=aa heq;clear heq;have hrvl:=aJ HMK2.out.ro;have hw3:((w2.setCell ⟨eb,2,none⟩ (.slice au tb'.length cu))).heap.size=w2.heap.size:=by simp
     have hebk2:=HMK2.out.be.lt;have hAO:Apt eb (.slice rva rs.length rvc) (.slice o1 wac.length d1):=fun k hk e=>by
      have h9:=(aJ HO1.out k e).1
      rcases hk with hk | hk
      ·omega
      ·have:=(hrvl k hk).2;omega
     have hAN:Apt eb (.slice rva rs.length rvc) (.slice o2 pac.length d2):=fun k hk e=>by
      have h9:=(aJ HO2.out k e).1
      rcases hk with hk | hk
      ·omega
      ·have:=(hrvl k hk).2;omega
     have HAO:=aa hAO;have HAN:=aa hAN;have n2:(Value.slice rva rs.length rvc).ownBlock≠some ob_:=fun e=>by have:=(hrvl _ e).2;omega
     have n3:(Value.slice rva rs.length rvc).ownBlock≠some nb_:=fun e=>by have:=(hrvl _ e).2;omega
     have N2:=aa n2;have N3:=aa n3;clear hAO hAN n2 n3 hrvl;go_wp2_with fail;refine eadd_r7 _ _ (by kernel_rfl) _ eb ob_ nb_ B rs.length rdv ckv (.slice au tb'.length cu) ltv (.slice ao ps.length cap) (.slice a2 q.wh.length c2) (.slice a3 q.bys.length c3) (.int .i64 q.size) (.int .i64 q.slide) (.int .i64 q.delay) (.int .i64 q.late) rva o1 o2 rvc wac.length d1 pac.length d2 ws wk9 wn pst pk pn (rowOf gg rs) _ rfl rfl rfl rfl M6.out.be HBO.out HBN.out M6.out.ro hnr M6.out.bb M6.out.re N2.out N3.out (by first | exact bX PNH.out | exact PNH.out) ?_;rintro t7 va_ vc_ w7 ht7 k0 k12 k13 ⟨BE7,RO7,RV7,K7⟩;obtain ⟨f7,hf7,-⟩:=fN t7 ht7;subst hf7;have key:=HKEY.out;have pkey:=HPK.out;have pace:=HPA.out;have FIN:=HD.out tb' [(⟨true,(ws,wk9,wn,wac.map acV)⟩,.slice o1 wac.length d1),(⟨false,(pst,pk,pn,pac.map acV)⟩,.slice o2 pac.length d2)] _ _ w7 (mQ M6.out h1 K7 BE7 (by rw [cQ,List.length_append];exact RO7) RV7 (fun r hr=>by
      simp only [List.mem_cons,List.not_mem_nil,or_false] at hr
      rcases hr with rfl | rfl
      ·exact ⟨by simp only [List.length_map];exact bc HO1.out,HAO.out⟩
      ·exact ⟨by simp only [List.length_map];exact bc HO2.out,HAN.out⟩) (fun r hr=>by
      have hbb:=HMK2.out.bb;simp only [List.mem_cons,List.not_mem_nil,or_false] at hr
      rcases hr with rfl | rfl
      ·exact fun k e=>by have h9:=(aJ HO1.out k e).1;omega
      ·exact fun k e=>by have h9:=(aJ HO2.out k e).1;omega)) (by
      have a9:=addE_turn (rows:=rs.map Prod.fst) HAW.out rfl (by rw [← pace];exact HNE.out);rw [← key.1,← key.2.1,← key.2.2,← pace] at a9;rw [List.map_append,pkey.1,pkey.2.1,pkey.2.2];exact a9) (by simp) (by
      rcases RV7 with e | ⟨k,e,hk⟩
      ·exact .inl e
      ·exact .inr ⟨k,e,by omega⟩) (af K6.out K7)
     first | exact bodyPost_end (results_none rfl _ _ _) rfl ⟨rfl,FIN⟩ | (refine aP ?_;exact bodyPost_end (results_none rfl _ _ _) rfl ⟨rfl,FIN⟩) | (go_wp2_with fail;exact bodyPost_end (results_none rfl _ _ _) rfl ⟨rfl,FIN⟩)
   ·obtain ⟨p,hp,e9⟩:=HEX.out
    have:=hnone p hp
    rw [decide_eq_true e9] at this;cases this
end Go.Proofs.YtcgjflamgnjhcaaGreatDoor
