/- Own texts in one. Conditions: as named in each. -/
import Derived.Test.YtcgjflamgnjhcaaGreatDoorEoB
import Derived.Test.YtcgjflamgnjhcaaGreatDoorClock2J
import Derived.Test.YtcgjflamgnjhcaaGreatDoorEnRJ
import Derived.Test.YtcgjflamgnjhcaaGreatDoorEnZJ
import Derived.Test.YtcgjflamgnjhcaaGreatDoorEnJJ
set_option linter.unusedVariables false
set_option linter.unusedSimpArgs false
set_option maxRecDepth 100000
set_option maxHeartbeats 8000000
namespace Go.Proofs.YtcgjflamgnjhcaaGreatDoor
open Go.ChangeShapes Go.WideShapes Go.ChangeAt Go.RowKit
theorem ir {P:Program} {Q:Exit→Act→World→Prop} {K:Act→World→Prop} {o:Oper} {a:Act} {w:World} (l c:Operand) (t:TypeId) (hop:o.op=Op.makeSlice t l c)
  (base:Nat) (e:TypeId) (i:TypeInfo) (z:Value) (size:Nat) (h1:P.underlying t=some (.slice e)) (h2:P.info? e=some i) (h3:i.zero=some z) (h4:i.size=size)
  (kl kc:IntKind) (L C:Int) (n:Nat) (hl:a.eval l=.int kl L) (hc:a.eval c=.int kc C) (hL:L=(n:Int)) (hC:C=(n:Int)) (b2:i.bytes * n≤281474976710656) (b3:n≤maxLen) (b4:base≤w.heap.size)
  (h:∀ w',w'.ownsRow base e size (.slice (some ⟨w.heap.size,0,none⟩) n n) n (madeCells z.cells (n * size)).toList→w.grownBy w' none→K (a.put o.dst (.slice (some ⟨w.heap.size,0,none⟩) n n)) w'):o.wp P a w K Q:=by
 obtain ⟨w',hrun,r1,r2⟩:=run_make_full (P:=P) w base t e i z size h1 h2 h3 h4 kl kc n b2 b3 b4;subst hL;subst hC;unfold Oper.wp
 simp [execOp,hop,hl,hc,hrun,Result.andThen]
 exact h w' r1 r2
theorem qM (n:Nat):(madeCells (Value.int .i64 0).cells (n * 1)).toList=((List.replicate n ([]:List Ev)).map List.length).map eK:=by
 show (madeCells #[Value.int .i64 0] (n * 1)).toList=_
 apply List.ext_getElem
 ·simp [madeCells]
 ·intro j h1 h2
  simp [madeCells,eK,Nat.mod_one]
theorem clk_none (n:Nat):bD (List.replicate n [])=dy n:=by
 unfold bD dy;rw [List.map_replicate]
 rfl
theorem mG {B N rdg eb n9 c9:Nat} {v:Value} (h:ly B N v) (h1:rdg < B∨N≤rdg) (h2:N≤eb):∀ g off m c,v=.slice (some ⟨g,off,none⟩) m c→¬ (g=eb∨(Value.slice (some ⟨rdg,0,none⟩) n9 c9).ownBlock=some g):=fun g off m c e h9=>by
 have a1:=h g off m c e
 rcases h9 with h9 | h9
 ·omega
 ·have:rdg=g:=Option.some.inj h9;omega
theorem pz {W w:World} {eb rdg n N Bq bO bC ckc cap' c2' c3':Nat} {q:Qy} {ps':List (AgQ×Value)} {cka ao' a2' a3':Option Addr} (BE:BlkAt w eb [Value.slice (some ⟨rdg,0,none⟩) n n,.slice cka (dy n).length ckc,.slice none 0 0,.int .i64 0,.slice none 0 0,Value.slice ao' ps'.length cap',Value.slice a2' q.wh.length c2',Value.slice a3' q.bys.length c3',Value.int .i64 q.size,Value.int .i64 q.slide,Value.int .i64 q.delay,Value.int .i64 q.late]) (GE:QyG w (Value.slice ao' ps'.length cap') (Value.slice a2' q.wh.length c2') (Value.slice a3' q.bys.length c3') q ps')
  (OE:w.ownsRow bO 3 1 (Value.slice (some ⟨rdg,0,none⟩) n n) n (((List.replicate n ([]:List Ev)).map List.length).map eK)) (CE:w.ownsRow bC 3 1 (.slice cka (dy n).length ckc) (dy n).length ((dy n).map (Value.int .i64))) (hb:Below W.heap.size W w)
  (n1:ly Bq N (Value.slice ao' ps'.length cap')) (n2:ly Bq N (Value.slice a2' q.wh.length c2')) (n3:ly Bq N (Value.slice a3' q.bys.length c3')) (n4:∀ p∈ps',ly Bq N p.2) (h1:rdg < Bq∨N≤rdg) (h2:N≤eb) (h3:W.heap.size≤rdg∧rdg < eb) (hO:W.heap.size≤bO) (hC:W.heap.size≤bC)
  (hck:∀ k,(Value.slice cka (dy n).length ckc).ownBlock=some k→k≠eb∧k≠rdg) (hW:W.heap.size≤eb):∃ eb' b0 va' vw' vb' ps' rdv ckv,(Ending.returned (Value.tuple #[.pointer (some ⟨eb,0,none⟩),.nilIface]):Ending)=.returned (.tuple #[.pointer (some ⟨eb',0,none⟩),.nilIface])∧EgR w eb' w.heap.size b0 q va' vw' vb' ((List.replicate n ([]:List Ev)).map List.length) (bD (List.replicate n [])) 0 [] [] rdv ckv (.slice none 0 0) (.slice none 0 0) w∧QyG w va' vw' vb' q ps'∧QyK eb' rdv va' vw' vb' ps'∧Below W.heap.size W w∧W.heap.size≤eb'∧b0=W.heap.size∧(∀ k,rdv.ownBlock=some k→W.heap.size≤k):=by
 have TT:TblR w (.slice none 0 0) []:=⟨bg (base:=0) (e:=84) ⟨by simp [rowOf],.inl ⟨rfl,rfl⟩⟩,fun p hp=>by simp at hp⟩;have EM:EnM w eb w.heap.size q (Value.slice (some ⟨rdg,0,none⟩) n n) (.slice cka (dy n).length ckc) (eK 0) (Value.slice ao' ps'.length cap') (Value.slice a2' q.wh.length c2') (Value.slice a3' q.bys.length c3') [] [] (.slice none 0 0) (.slice none 0 0) w:={ be:=BE,tt:=TT,ta:=⟨fun k hk e=>(by cases e),fun p hp=>(by simp at hp)⟩,ro:=⟨by simp [rowOf],.inl ⟨rfl,rfl⟩⟩,rn:=fun r hr=>(by simp at hr),re:=fun e=>(by cases e),bb:=Nat.le_refl _,old:=ae (Below.refl _ _),fa:=⟨fun k e=>(by cases e),fun p hp=>(by simp at hp)⟩,fr:=fun r hr=>(by simp at hr) };refine ⟨eb,W.heap.size,_,_,_,ps',(Value.slice (some ⟨rdg,0,none⟩) n n),.slice cka (dy n).length ckc,rfl,⟨EM,?_,fun k e=>?_,?_,fun k e=>⟨(hck k e).1,fun e9=>?_,fun e9=>(by cases e9)⟩⟩,GE,⟨mG n1 h1 h2,mG n2 h1 h2,mG n3 h1 h2,fun p hp=>mG (n4 p hp) h1 h2⟩,hb,hW,rfl,fun k e=>?_⟩
 ·have e1:((List.replicate n ([]:List Ev)).map List.length).length=n:=by simp
  rw [e1];exact aK OE hO
 ·have:rdg=k:=Option.some.inj e;subst this;exact ⟨by omega,by have:=BE.lt;omega⟩
 ·rw [clk_none];exact aK CE hC
 ·have:rdg=k:=Option.some.inj e9;exact (hck k e).2 this.symm
 ·have:rdg=k:=Option.some.inj e;omega
theorem enew_any (va vw vb:Value) (q:Qy) (ps:List (AgQ×Value)) (n:Nat) (W:World) (h:QyG W va vw vb q ps) (hc:chkQ q=0) (h1:1≤n) (h3:n≤3) :
  Calls Tryz.prog 13 #[qyV va vw vb q,.int .i64 (n:Nat)] W fun e w'=>∃ eb b0 va' vw' vb' ps' rdv ckv,e=.returned (.tuple #[.pointer (some ⟨eb,0,none⟩),.nilIface])∧EgR w' eb w'.heap.size b0 q va' vw' vb' ((List.replicate n ([]:List Ev)).map List.length) (bD (List.replicate n [])) 0 [] [] rdv ckv (.slice none 0 0) (.slice none 0 0) w'∧QyG w' va' vw' vb' q ps'∧QyK eb rdv va' vw' vb' ps'∧Below W.heap.size W w'∧W.heap.size≤eb∧b0=W.heap.size∧(∀ k,rdv.ownBlock=some k→W.heap.size≤k):=by
 obtain ⟨i0,hi,hz0,hz1,hz2⟩:=info_parts infoI;obtain ⟨ao,cap,rfl⟩:=am h.ag.row;obtain ⟨a2,c2,rfl⟩:=am h.wh;obtain ⟨a3,c3,rfl⟩:=am h.by_;have hlp:0 < ps.length∧ps.length≤1000:=by
  have a1:=(gR hc).n4;have a2:=(gR hc).n0;rw [← h.qa,List.length_map] at a1 a2;omega
 have bq:=aj W (.cells #[Value.slice ao ps.length cap,Value.slice a2 q.wh.length c2,Value.slice a3 q.bys.length c3,Value.int .i64 q.size,Value.int .i64 q.slide,Value.int .i64 q.delay,Value.int .i64 q.late] 28);have QK:=ip _ _ _ q ps (W.alloc (.cells #[Value.slice ao ps.length cap,Value.slice a2 q.wh.length c2,Value.slice a3 q.bys.length c3,Value.int .i64 q.size,Value.int .i64 q.slide,Value.int .i64 q.delay,Value.int .i64 q.late] 28)) (aR h bq);rw [hc] at QK;have OW0:=aa (fun w' (hb:Below (W.alloc (.cells #[Value.slice ao ps.length cap,Value.slice a2 q.wh.length c2,Value.slice a3 q.bys.length c3,Value.int .i64 q.size,Value.int .i64 q.slide,Value.int .i64 q.delay,Value.int .i64 q.late] 28)).heap.size (W.alloc (.cells #[Value.slice ao ps.length cap,Value.slice a2 q.wh.length c2,Value.slice a3 q.bys.length c3,Value.int .i64 q.size,Value.int .i64 q.slide,Value.int .i64 q.delay,Value.int .i64 q.late] 28)) w')=>ownQ_any _ _ _ q ps w' (aR (aR h bq) hb) hlp.1 hlp.2);unfold qyV at QK ⊢ OW0;have QKH:=aa QK;have BQ0:=aa (ay W [Value.slice ao ps.length cap,Value.slice a2 q.wh.length c2,Value.slice a3 q.bys.length c3,Value.int .i64 q.size,Value.int .i64 q.slide,Value.int .i64 q.delay,Value.int .i64 q.late] 28);have HBQ:=aa bq;have HQ:=aa h;have CN:=aa (fun w'=>cnew_any n w' h1 h3);have en0:errC 0=.nilIface:=rfl;rw [en0] at QKH;clear bq QK h
 go_enter Tryz.func13,Tryz.ntmps13
 go_wp2_with fail;refine QKH.out.mono ?_;rintro e w1 ⟨rfl,hb1⟩;have CNx:=aa (CN.out w1);have BQ1:=aa (ah BQ0.out hb1 BQ0.out.lt);have HB1:=aa (HBQ.out.trans (hb1.mono HBQ.out.size));have HB1q:=aa hb1;clear QKH hb1 BQ0;go_wp2_with fail;refine CNx.out.mono ?_;rintro e w2 ⟨u,rfl,hu,hb2⟩;obtain ⟨cka,ckc,rfl⟩:=ax hu;have hb2a:=aj w2 (.cells #[.slice cka (dy n).length ckc] 63);have HBC:=aa (ay w2 [.slice cka (dy n).length ckc] 63);have HCK:=aa (aK (base':=W.heap.size) (aB hu hb2a (Nat.le_refl _)) HB1.out.size);have BQ3:=aa (ah (ah BQ1.out hb2 BQ1.out.lt) hb2a (Nat.lt_of_lt_of_le BQ1.out.lt hb2.size));have HB3q:=aa ((HB1q.out.trans (hb2.mono HB1q.out.size)).trans (hb2a.mono (Nat.le_trans HB1q.out.size hb2.size)));have HBW0:=aa (HBQ.out.trans (HB3q.out.mono HBQ.out.size));clear CNx hu hb2 hb2a CN HB1q HB1 BQ1;go_wp2_with fail;generalize w2.alloc (.cells #[.slice cka (dy n).length ckc] 63)=w3 at *;refine wp_region_held (S:=fun w'=>Below ({ w3 with drawn:=w3.drawn+1 }:World).heap.size ({ w3 with drawn:=w3.drawn+1 }:World) w') (by kernel_rfl) ?_;have hd3:Below w3.heap.size w3 ({ w3 with drawn:=w3.drawn+1 }:World):=(Below.refl _ _).drew;have BQ:=aa (ah BQ3.out hd3 BQ3.out.lt);have BC:=aa (ah HBC.out hd3 HBC.out.lt);have CKD:=aa (aB HCK.out hd3 (Nat.le_refl _));have HBW:=aa (HBW0.out.trans (hd3.mono HBW0.out.size));have OWN:=aa (fun w' (hb:Below ({ w3 with drawn:=w3.drawn+1 }:World).heap.size ({ w3 with drawn:=w3.drawn+1 }:World) w')=>OW0.out w' ((HB3q.out.trans (hd3.mono HB3q.out.size)).trans (hb.mono (Nat.le_trans HB3q.out.size hd3.size))));clear BQ3 HBC HCK HBW0 HB3q OW0 hd3;generalize ({ w3 with drawn:=w3.drawn+1 }:World)=wd at *;have hS:=Below.refl wd.heap.size wd;refine HU 0 (v:=.int .i64 (n:Int)) rfl (fun wq hq=>by go_simp) hS ?_;refine HU 2 (v:=.agg #[.slice cka (dy n).length ckc]) rfl (fun wq hq=>by have K:=ah BC.out hq BC.out.lt;have q0:wq.cell? ⟨w2.heap.size,0,none⟩=some (.slice cka (dy n).length ckc):=K.c 0 (by simp);clear K;go_simp) hS ?_;refine HU 3 (v:=.agg #[Value.slice ao ps.length cap,Value.slice a2 q.wh.length c2,Value.slice a3 q.bys.length c3,Value.int .i64 q.size,Value.int .i64 q.slide,Value.int .i64 q.delay,Value.int .i64 q.late]) rfl (fun wq hq=>by have K:=ah BQ.out hq BQ.out.lt;have q0:wq.cell? ⟨W.heap.size,0,none⟩=some (Value.slice ao ps.length cap):=K.c 0 (by simp);have q1:wq.cell? ⟨W.heap.size,1,none⟩=some (Value.slice a2 q.wh.length c2):=K.c 1 (by simp);have q2:wq.cell? ⟨W.heap.size,2,none⟩=some (Value.slice a3 q.bys.length c3):=K.c 2 (by simp);have q3:wq.cell? ⟨W.heap.size,3,none⟩=some (Value.int .i64 q.size):=K.c 3 (by simp);have q4:wq.cell? ⟨W.heap.size,4,none⟩=some (Value.int .i64 q.slide):=K.c 4 (by simp);have q5:wq.cell? ⟨W.heap.size,5,none⟩=some (Value.int .i64 q.delay):=K.c 5 (by simp);have q6:wq.cell? ⟨W.heap.size,6,none⟩=some (Value.int .i64 q.late):=K.c 6 (by simp);clear K;go_simp) hS ?_
 refine H2 1 4 rfl rfl ?_ ?_
 ·intro K' hK;refine ir (.tmp 22) (.tmp 22) 56 rfl wd.heap.size 3 i0 (.int .i64 0) 1 Tryz.underlying56 hi hz0 hz1 .i64 .i64 _ _ n (by kernel_rfl) (by kernel_rfl) rfl rfl (by rw [hz2];omega) (by show _≤2 ^ 63 - 1;omega) (Nat.le_refl _) ?_;intro wm ho hg;have hbm:Below wd.heap.size wd wm:=(Below.refl _ _).grown hg (Nat.le_refl _) (fun k hk=>by cases hk);have hS1:=hS.trans (hbm.mono hS.size);rw [qM] at ho;have HBm:=aa hbm;have hrl9:=(aJ ho wd.heap.size rfl).2;obtain ⟨rdg,hrdg⟩:∃ g,wd.heap.size=g:=⟨_,rfl⟩;rw [hrdg] at ho hrl9;have hszm:=hbm.size;rw [hrdg];have HOm:=aa ho;refine hK _ _ ⟨hS1,?_⟩;clear hK ho hg hbm;refine HG 4 rfl ?_;intro K' hK;go_simp;refine (OWN.out _ hS1).mono ?_;rintro e wo ⟨va',vw',vb',ps',rfl,G9,n1,n2,n3,n4,hb⟩;have hS2:=hS1.trans (hb.mono hS1.size);obtain ⟨ao',cap',rfl⟩:=am G9.ag.row;obtain ⟨a2',c2',rfl⟩:=am G9.wh;obtain ⟨a3',c3',rfl⟩:=am G9.by_;have HG9:=aa G9;have HN:=aa (⟨n1,n2,n3,n4⟩:_∧_∧_∧_);have HBo:=aa hb;have hsz9:=hb.size;refine hK _ _ ⟨hS2,?_⟩;clear hK G9 n1 n2 n3 n4 hb;refine HU 5 (v:=.agg #[Value.slice (some ⟨rdg,0,none⟩) n n,.slice cka (dy n).length ckc,.slice none 0 0,.int .i64 0,.slice none 0 0,Value.slice ao' ps'.length cap',Value.slice a2' q.wh.length c2',Value.slice a3' q.bys.length c3',Value.int .i64 q.size,Value.int .i64 q.slide,Value.int .i64 q.delay,Value.int .i64 q.late]) rfl (fun wq hq=>by go_simp) hS2 ?_;refine HG 6 rfl ?_;intro K' hK;have BE:=aa (ay wo [Value.slice (some ⟨rdg,0,none⟩) n n,.slice cka (dy n).length ckc,.slice none 0 0,.int .i64 0,.slice none 0 0,Value.slice ao' ps'.length cap',Value.slice a2' q.wh.length c2',Value.slice a3' q.bys.length c3',Value.int .i64 q.size,Value.int .i64 q.slide,Value.int .i64 q.delay,Value.int .i64 q.late] 69);have HBe:=aa (aj wo (.cells #[Value.slice (some ⟨rdg,0,none⟩) n n,.slice cka (dy n).length ckc,.slice none 0 0,.int .i64 0,.slice none 0 0,Value.slice ao' ps'.length cap',Value.slice a2' q.wh.length c2',Value.slice a3' q.bys.length c3',Value.int .i64 q.size,Value.int .i64 q.slide,Value.int .i64 q.delay,Value.int .i64 q.late] 69));have hSe:=hS2.trans (HBe.out.mono hS2.size);go_simp;refine hK _ _ ⟨hSe,?_⟩;clear hK;refine HU 7 (v:=.pointer (some ⟨wo.heap.size,0,none⟩)) rfl (fun wq hq=>by go_simp) hSe ?_;refine HU 8 (v:=.nilIface) rfl (fun wq hq=>by go_simp) hSe ?_;refine wpAnyH_done (by kernel_rfl) ?_ _;have GE:=aR HG9.out HBe.out;have OE:=aB (aB HOm.out HBo.out (Nat.le_refl _)) HBe.out (Nat.le_refl _);have CE:=aB CKD.out hSe (Nat.le_refl _);have hws:(wo.alloc (.cells #[Value.slice (some ⟨rdg,0,none⟩) n n,.slice cka (dy n).length ckc,.slice none 0 0,.int .i64 0,.slice none 0 0,Value.slice ao' ps'.length cap',Value.slice a2' q.wh.length c2',Value.slice a3' q.bys.length c3',Value.int .i64 q.size,Value.int .i64 q.slide,Value.int .i64 q.delay,Value.int .i64 q.late] 69)).heap.size=wo.heap.size+1:=by simp
  have hbw:=HBW.out.size;have hsd:=hS2.size;have hckl:=aJ CKD.out;have FIN:=pz BE.out GE OE CE (HBW.out.trans (hSe.mono HBW.out.size)) HN.out.1 HN.out.2.1 HN.out.2.2.1 HN.out.2.2.2 (by omega) (by omega) (by omega) (by omega) (by omega) (fun k hk=>by have:=(hckl k hk).2;constructor <;> omega) (by omega);have HFIN:=aa FIN;clear FIN GE OE CE BE HBe hSe HN HG9 HOm HBm HBo OWN;go_wp2_with fail;refine bodyPost_ret (v:=.tuple #[.pointer (some ⟨wo.heap.size,0,none⟩),.nilIface]) (by simp [results,Tryz.results13,go_sem]) rfl ?_;exact HFIN.out
 ·intro K' hK;go_simp;refine (OWN.out _ hS).mono ?_;rintro e wo ⟨va',vw',vb',ps',rfl,G9,n1,n2,n3,n4,hb⟩;have hS1:=hS.trans (hb.mono hS.size);obtain ⟨ao',cap',rfl⟩:=am G9.ag.row;obtain ⟨a2',c2',rfl⟩:=am G9.wh;obtain ⟨a3',c3',rfl⟩:=am G9.by_;have HG9:=aa G9;have HN:=aa (⟨n1,n2,n3,n4⟩:_∧_∧_∧_);have HBo:=aa hb;have hsz9:=hb.size;refine hK _ _ ⟨hS1,?_⟩;clear hK G9 n1 n2 n3 n4 hb;refine HG 1 rfl ?_;intro K' hK;refine ir (.tmp 22) (.tmp 22) 56 rfl wo.heap.size 3 i0 (.int .i64 0) 1 Tryz.underlying56 hi hz0 hz1 .i64 .i64 _ _ n (by kernel_rfl) (by kernel_rfl) rfl rfl (by rw [hz2];omega) (by show _≤2 ^ 63 - 1;omega) (Nat.le_refl _) ?_;intro wm ho hg;have hbm:Below wo.heap.size wo wm:=(Below.refl _ _).grown hg (Nat.le_refl _) (fun k hk=>by cases hk);have hS2:=hS1.trans (hbm.mono hS1.size);rw [qM] at ho;have HBm:=aa hbm;have hrl9:=(aJ ho wo.heap.size rfl).2;obtain ⟨rdg,hrdg⟩:∃ g,wo.heap.size=g:=⟨_,rfl⟩;rw [hrdg] at ho hrl9;have hszm:=hbm.size;rw [hrdg];have HOm:=aa ho;refine hK _ _ ⟨hS2,?_⟩;clear hK ho hg hbm;refine HU 5 (v:=.agg #[Value.slice (some ⟨rdg,0,none⟩) n n,.slice cka (dy n).length ckc,.slice none 0 0,.int .i64 0,.slice none 0 0,Value.slice ao' ps'.length cap',Value.slice a2' q.wh.length c2',Value.slice a3' q.bys.length c3',Value.int .i64 q.size,Value.int .i64 q.slide,Value.int .i64 q.delay,Value.int .i64 q.late]) rfl (fun wq hq=>by go_simp) hS2 ?_;refine HG 6 rfl ?_;intro K' hK;have BE:=aa (ay wm [Value.slice (some ⟨rdg,0,none⟩) n n,.slice cka (dy n).length ckc,.slice none 0 0,.int .i64 0,.slice none 0 0,Value.slice ao' ps'.length cap',Value.slice a2' q.wh.length c2',Value.slice a3' q.bys.length c3',Value.int .i64 q.size,Value.int .i64 q.slide,Value.int .i64 q.delay,Value.int .i64 q.late] 69);have HBe:=aa (aj wm (.cells #[Value.slice (some ⟨rdg,0,none⟩) n n,.slice cka (dy n).length ckc,.slice none 0 0,.int .i64 0,.slice none 0 0,Value.slice ao' ps'.length cap',Value.slice a2' q.wh.length c2',Value.slice a3' q.bys.length c3',Value.int .i64 q.size,Value.int .i64 q.slide,Value.int .i64 q.delay,Value.int .i64 q.late] 69));have hSe:=hS2.trans (HBe.out.mono hS2.size);go_simp;refine hK _ _ ⟨hSe,?_⟩;clear hK;refine HU 7 (v:=.pointer (some ⟨wm.heap.size,0,none⟩)) rfl (fun wq hq=>by go_simp) hSe ?_;refine HU 8 (v:=.nilIface) rfl (fun wq hq=>by go_simp) hSe ?_;refine wpAnyH_done (by kernel_rfl) ?_ _;have GE:=aR (aR HG9.out HBm.out) HBe.out;have OE:=aB HOm.out HBe.out (Nat.le_refl _);have CE:=aB CKD.out hSe (Nat.le_refl _);have hws:(wm.alloc (.cells #[Value.slice (some ⟨rdg,0,none⟩) n n,.slice cka (dy n).length ckc,.slice none 0 0,.int .i64 0,.slice none 0 0,Value.slice ao' ps'.length cap',Value.slice a2' q.wh.length c2',Value.slice a3' q.bys.length c3',Value.int .i64 q.size,Value.int .i64 q.slide,Value.int .i64 q.delay,Value.int .i64 q.late] 69)).heap.size=wm.heap.size+1:=by simp
  have hbw:=HBW.out.size;have hsd:=hS2.size;have hckl:=aJ CKD.out;have FIN:=pz BE.out GE OE CE (HBW.out.trans (hSe.mono HBW.out.size)) HN.out.1 HN.out.2.1 HN.out.2.2.1 HN.out.2.2.2 (by omega) (by omega) (by omega) (by omega) (by omega) (fun k hk=>by have:=(hckl k hk).2;constructor <;> omega) (by omega);have HFIN:=aa FIN;clear FIN GE OE CE BE HBe hSe HN HG9 HOm HBm HBo OWN;go_wp2_with fail;refine bodyPost_ret (v:=.tuple #[.pointer (some ⟨wm.heap.size,0,none⟩),.nilIface]) (by simp [results,Tryz.results13,go_sem]) rfl ?_;exact HFIN.out
theorem nodup_of_keys {out:List Ot} (h:(out.map dv).Nodup):out.Nodup:=List.Pairwise.of_map dv (fun a b hab e=>hab (by rw [e])) h
theorem same_len {a b:List Ot} (ha:(a.map dv).Nodup) (hb:b.Nodup) (h:∀ x,x∈a↔x∈b):a.length=b.length:=((List.perm_ext_iff_of_nodup (nodup_of_keys ha) hb).2 h).length_eq
def nW (M P:List (List Ev)):Prop:=M.length=P.length∧∀ (i:Nat) (m l:List Ev),M[i]?=some m→P[i]?=some l→∃ r,l=m++r
theorem preM_none (P:List (List Ev)):nW (List.replicate P.length []) P:=⟨by simp,fun i m l h1 h2=>⟨l,by
 rw [List.getElem?_replicate] at h1
 split at h1
 ·cases h1;rfl
 ·cases h1⟩⟩
theorem preM_cons {m l:List Ev} {M P:List (List Ev)} (h:nW (m :: M) (l :: P)):(∃ r,l=m++r)∧nW M P :=
 ⟨h.2 0 m l rfl rfl,by simpa using h.1,fun i a b h1 h2=>h.2 (i+1) a b (by simpa using h1) (by simpa using h2)⟩
theorem preM_evs:∀ (M P:List (List Ev)),nW M P→jK M≤jK P
 | [],P,_=>by simp [jK]
 | m :: M,[],h=>by simp [nW] at h
 | m :: M,l :: P,h=>by
  obtain ⟨⟨r,e⟩,h2⟩:=preM_cons h;rw [di,di]
  have:=preM_evs M P h2
  rw [e,List.length_append];omega
theorem evsN_set:∀ (M:List (List Ev)) (p:Nat) (l:List Ev) (x:Ev),M[p]?=some l→jK (M.set p (l++[x]))=jK M+1
 | [],p,l,x,h=>by simp at h
 | m :: M,0,l,x,h=>by
  cases h
  show jK ((m++[x]) :: M)=_
  rw [di,di,List.length_append,List.length_singleton];omega
 | m :: M,p+1,l,x,h=>by
  show jK (m :: M.set p (l++[x]))=_
  rw [di,di,evsN_set M p l x (by simpa using h)];omega
theorem preM_set {M P:List (List Ev)} (h:nW M P) {p:Nat} {l l':List Ev} {x:Ev} (h1:M[p]?=some l) (h2:P[p]?=some l') (h3:l'[l.length]?=some x):nW (M.set p (l++[x])) P:=by
 refine ⟨by rw [List.length_set];exact h.1,fun i a b ha hb=>?_⟩
 by_cases hi:i=p
 ·subst hi;rw [List.getElem?_set_self (List.getElem?_eq_some_iff.1 h1).1] at ha;cases ha;rw [h2] at hb;cases hb;obtain ⟨r,e⟩:=h.2 i l l' h1 h2;subst e;rw [List.getElem?_append_right (Nat.le_refl _),Nat.sub_self] at h3;cases r with
  | nil=>simp at h3
  | cons y r=>cases h3;exact ⟨r,by simp⟩
 ·rw [List.getElem?_set_ne (fun e=>hi e.symm)] at ha;exact h.2 i a b ha hb
theorem mZ {M P:List (List Ev)} (h:nW M P):∀ m∈M,∃ l∈P,∃ r,l=m++r:=fun m hm=>by
 obtain ⟨i,hi,rfl⟩:=List.mem_iff_getElem.1 hm;have hi2:i < P.length:=by rw [← h.1];exact hi
 exact ⟨P[i],List.getElem_mem hi2,h.2 i _ _ (List.getElem?_eq_getElem hi) (List.getElem?_eq_getElem hi2)⟩
theorem eX {M P:List (List Ev)} (h:nW M P) (hl:lightM P=true):(∀ l∈M,l.length≤40)∧(∀ l∈M,∀ x∈l,evC x=0)∧M.length≤3∧jK P≤120:=by
 obtain ⟨a1,a2⟩:=f8 hl;refine ⟨fun m hm=>?_,fun m hm x hx=>?_,by rw [h.1];exact a1,?_⟩
 ·obtain ⟨l,hl9,r,e⟩:=mZ h m hm
  have:=(a2 l hl9).1
  rw [e,List.length_append] at this;omega
 ·obtain ⟨l,hl9,r,e⟩:=mZ h m hm;exact (a2 l hl9).2 x (by rw [e];exact List.mem_append_left _ hx)
 ·have:=evsN_40 P (fun l hl9=>(a2 l hl9).1)
  omega
theorem gI {q:Qy} (hS:QyS q):∀ (M:List (List Ev)),(kj q M).length≤4 * jK M∧mu q M≤4 * jK M
 | []=>by simp [kj,mu]
 | l :: M=>by
  rw [ej,ei,di,List.length_append];have h1:=gH hS l 0 false;have h2:=gI hS M;omega
def nL (W:World) (q:Qy) (P:List (List Ev)) (eb:Nat) (M:List (List Ev)) (late:Nat) (tb:List Pn) (rs:List (Rw×Value)) (rdv ckv tv rv:Value) (w:World):Prop :=
 ∃ w0 b0 va vw vb ps V cs,EgR w0 eb w0.heap.size b0 q va vw vb (M.map List.length) (bD M) late tb rs rdv ckv tv rv w∧QyG w0 va vw vb q ps∧QyK eb rdv va vw vb ps∧b0≤w0.heap.size∧RunI q M tb (rs.map Prod.fst) late V cs∧nW M P∧rs.length≤600 * jK M∧Below W.heap.size W w∧W.heap.size≤eb∧(∀ k,rdv.ownBlock=some k→W.heap.size≤k)∧W.heap.size≤w0.heap.size
theorem ib {W w w':World} {q:Qy} {P:List (List Ev)} {eb:Nat} {M:List (List Ev)} {late:Nat} {tb:List Pn} {rs:List (Rw×Value)} {rdv ckv tv rv:Value} (h:nL W q P eb M late tb rs rdv ckv tv rv w) (hb:Below w.heap.size w w'):nL W q P eb M late tb rs rdv ckv tv rv w':=by
 obtain ⟨w0,b0,va,vw,vb,ps,V,cs,a1,a2,a3,a4,a5,a6,a7,a8,a9,a10,a11⟩:=h;exact ⟨w0,b0,va,vw,vb,ps,V,cs,eW a1 hb,a2,a3,a4,a5,a6,a7,a8.trans (hb.mono a8.size),a9,a10,a11⟩
theorem jG {W w:World} {q:Qy} {P:List (List Ev)} {eb:Nat} {M:List (List Ev)} {late:Nat} {tb:List Pn} {rs:List (Rw×Value)} {rdv ckv tv rv:Value} (h:nL W q P eb M late tb rs rdv ckv tv rv w) (hc:chkQ q=0) (hl:lightM P=true) {p:Nat} {l l':List Ev} {x:Ev} (h1:M[p]?=some l) (h2:P[p]?=some l') (h3:l'[l.length]?=some x) :
  Calls Tryz.prog 17 #[.pointer (some ⟨eb,0,none⟩),.int .i64 (p:Nat),dE x] w fun e w'=>e=.returned (.tuple #[])∧∃ late' tb' rs' ckv' tv' rv',nL W q P eb (M.set p (l++[x])) late' tb' rs' rdv ckv' tv' rv' w'∧lP q (bD M) p x tb (rs.map Prod.fst) late tb' (rs'.map Prod.fst) late':=by
 obtain ⟨w0,b0,va,vw,vb,ps,V,cs,a1,a2,a3,a4,a5,a6,a7,a8,a9,a10,a11⟩:=h;obtain ⟨l1,l2,l3,l4⟩:=eX a6 hl;have hS:=lI hc;have hset:=preM_set a6 h1 h2 h3;have hev:=preM_evs _ _ hset;rw [evsN_set M p l x h1] at hev;have hx:evC x=0:=((f8 hl).2 l' (List.mem_of_getElem? h2)).2 x (List.mem_of_getElem? h3);have hlen:=gI hS M;have hcs:cs.length≤476:=by rw [a5.perm.length_eq];omega
 have hlt:late≤900000:=by rw [a5.late];omega
 refine (estep_any w0 eb w0.heap.size b0 q ps va vw vb M late tb rs rdv ckv tv rv V cs p l x w a1 a5 a2 a3 (Nat.le_refl _) a4 hc l3 h1 l1 l2 hx hcs (by omega) hlt).mono ?_;rintro e w' ⟨rfl,tb',rs',late',ckv',tv',rv',E,S,hr,hrv,K⟩;obtain ⟨V',cs',R'⟩:=run_step a5 h1 (l2 l (List.mem_of_getElem? h1)) hx hS.l0 S;refine ⟨rfl,late',tb',rs',ckv',tv',rv',⟨w0,b0,va,vw,vb,ps,V',cs',E,a2,a3,a4,R',hset,by rw [evsN_set M p l x h1];omega,a8.trans (aL K a8.size (fun k hk=>?_)),a9,a10,a11⟩,S⟩
 rcases hk with e | e | e
 ·omega
 ·exact a10 k e
 ·have:=(aJ a1.en.ro k e).1;omega
theorem mQ {W:World} {va vw vb:Value} {q:Qy} {ps:List (AgQ×Value)} {P:List (List Ev)} (h:QyG W va vw vb q ps) (hc:chkQ q=0) (h1:0 < P.length) (h3:P.length≤3) :
  Calls Tryz.prog 13 #[qyV va vw vb q,.int .i64 (P.length:Nat)] W fun e w'=>∃ eb rdv ckv,e=.returned (.tuple #[.pointer (some ⟨eb,0,none⟩),.nilIface])∧nL W q P eb (List.replicate P.length []) 0 [] [] rdv ckv (.slice none 0 0) (.slice none 0 0) w':=by
 refine (enew_any va vw vb q ps P.length W h hc h1 h3).mono ?_;rintro e w' ⟨eb,b0,va',vw',vb',ps',rdv,ckv,rfl,E,G,K,hb,hW,hb0,hrd⟩;exact ⟨eb,rdv,ckv,rfl,w',b0,va',vw',vb',ps',[],[],E,G,K,by rw [hb0];exact hb.size,run_start q P.length h1,preM_none P,by simp,hb,hW,hrd,hb.size⟩
def placeE (a:Int) (k:Nat):Nat:=((bits .and .i64 a 1023).tmod (k:Int)).toNat
theorem placeE_is (n:Int) (k:Nat) (hk:0 < k):placeE n k < k∧(bits .and .i64 n 1023).tmod (k:Int)=(placeE n k:Int):=by
 have h0:0≤bits .and .i64 n 1023:=by
  show 0≤IntKind.i64.wrap ((BitVec.ofInt 64 n &&& BitVec.ofInt 64 1023).toNat:Int)
  have h2:(BitVec.ofInt 64 1023).toNat=1023:=by decide
  have h:(BitVec.ofInt 64 n).toNat &&& 1023≤1023:=Nat.and_le_right;rw [BitVec.toNat_and,h2,IntKind.wrap_i64];omega
 have h1:=Int.tmod_nonneg (k:Int) h0;have h2:=Int.tmod_lt_of_pos (bits .and .i64 n 1023) (by omega:(0:Int) < k);unfold placeE;omega
def turnM (P:List (List Ev)) (M:List (List Ev)) (t:Int):List (List Ev) :=
 match M[placeE t P.length]?,P[placeE t P.length]? with
 | some l,some l'=>match l'[l.length]? with
  | some x=>M.set (placeE t P.length) (l++[x])
  | none=>M
 | _,_=>M
def runM (P:List (List Ev)) (T:List Int):List (List Ev):=T.foldl (turnM P) (List.replicate P.length [])
theorem runM_take (P:List (List Ev)) (T:List Int) (m:Nat) (h:m < T.length):runM P (T.take (m+1))=turnM P (runM P (T.take m)) T[m]:=by
 unfold runM;rw [List.take_succ_eq_append_getElem h,List.foldl_append]
 rfl
theorem ey {α:Type} (f:α→Value):∀ l:List α,rowOf (fun a=>[f a]) l=l.map f
 | []=>rfl
 | x :: l=>by
  rw [bS,ey f l]
  rfl
theorem ints_cellE {T:List Int} {v:Value} {w:World} (h:pD w v T) (m:Nat) (hm:m < T.length):∃ g off cap,v=.slice (some ⟨g,off,none⟩) T.length cap∧w.cell? ⟨g,off+m,none⟩=some (.int .i64 T[m])∧T.length≤cap∧cap≤maxLen∧g < w.heap.size:=by
 obtain ⟨a,cap,rfl⟩:=am h;have h9:bK w (.slice a T.length cap) 1 T.length (rowOf (fun n:Int=>[Value.int .i64 n]) T):=by
  rw [ey];exact h
 obtain ⟨g,off,rfl,hc,c1,c2,c3⟩:=bj (f:=fun n:Int=>[Value.int .i64 n]) (S:=1) (fun _=>rfl) h9 m hm;refine ⟨g,off,cap,rfl,?_,c1,c2,c3⟩
 have:=hc 0 (by omega)
 rw [Nat.mul_one,Nat.add_zero] at this;exact this
theorem gS {w:World} {pv:Value} {vs:List Value} {P:List (List Ev)} (h:PtsR w pv vs P) (p:Nat) (hp:p < P.length):∃ g off cap v,pv=.slice (some ⟨g,off,none⟩) P.length cap∧w.cell? ⟨g,off+p,none⟩=some v∧bK w v 7 P[p].length (rowOf eC P[p])∧P.length≤cap∧cap≤maxLen∧g < w.heap.size:=by
 obtain ⟨a,cap,rfl⟩:=am h.row;have hv:p < vs.length:=by rw [h.len];exact hp
 have h9:bK w (.slice a vs.length cap) 1 vs.length (rowOf (fun v:Value=>[v]) vs):=by
  rw [ey (fun v:Value=>v),List.map_id',h.len];exact h.row
 obtain ⟨g,off,rfl,hc,c1,c2,c3⟩:=bj (f:=fun v:Value=>[v]) (S:=1) (fun _=>rfl) h9 p hv;refine ⟨g,off,cap,vs[p],rfl,?_,h.each p _ _ (List.getElem?_eq_getElem hv) (List.getElem?_eq_getElem hp),by rw [← h.len];exact c1,c2,c3⟩
 have:=hc 0 (by omega)
 rw [Nat.mul_one,Nat.add_zero] at this;exact this
end Go.Proofs.YtcgjflamgnjhcaaGreatDoor
