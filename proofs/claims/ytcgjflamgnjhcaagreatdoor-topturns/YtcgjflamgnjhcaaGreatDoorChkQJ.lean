/- Own texts in one. Conditions: as named in each. -/
import Derived.Test.YtcgjflamgnjhcaaGreatDoorPrsKJ
import Derived.Test.YtcgjflamgnjhcaaGreatDoorWinPureJ
set_option linter.unusedVariables false
set_option linter.unusedSimpArgs false
set_option maxRecDepth 100000
set_option maxHeartbeats 8000000
namespace Go.Proofs.YtcgjflamgnjhcaaGreatDoor
open Go.ChangeShapes Go.WideShapes Go.ChangeAt Go.RowKit
theorem errC_0:errC 0=.nilIface:=rfl
theorem bP {e:Int} (h:e≠0):errC e=.iface 93 (.int .i64 e):=by unfold errC;rw [if_neg h]
def lf (w:World) (v:Value) (l:List Nd):Prop:=bT w v 6 l.length (eT l)
theorem bH {w w':World} {v:Value} {l:List Nd} (h:lf w v l) (hb:Below w.heap.size w w'):lf w' v l:=aA h hb
theorem jr (l:List Nd) (v:Value) (w:World) (hl:l.length≤1000) (hr:lf w v l) :
  Calls Tryz.prog 121 #[v] w fun e w'=>e=.returned (.tuple #[.int .i64 (cM l).1,errC (cM l).2])∧Below w.heap.size w w':=by
 have CK:=check_any l v w hl hr;have TY:=aa (fun w' (hb:Below w.heap.size w w')=>type_any l v w' hl (aA hr hb));obtain ⟨ao,cap,rfl⟩:=aq hr
 by_cases h:kW l=0
 ·have e:cM l=tyE l:=by unfold cM;rw [if_neg (by simp [h])]
  rw [h,errC_0] at CK;rw [e];have CKH:=aa CK;generalize errC (tyE l).2=ev at *;clear hr CK h e
  go_enter Tryz.func121,Tryz.ntmps121
  go_wp2_with fail;refine CKH.out.mono ?_;rintro r w1 ⟨rfl,hb⟩;have T1:=aa (TY.out w1 hb);have B1:=aa hb;clear hb CKH TY;go_wp2_with fail;refine T1.out.mono ?_;rintro r w2 ⟨rfl,hb⟩;have B2:=aa (B1.out.trans (hb.mono B1.out.size));clear hb T1;go_wp2_with fail
  go_ret2
  exact ⟨rfl,B2.out⟩
 ·have e:cM l=(0,kW l):=by unfold cM;rw [if_pos h]
  rw [bP h] at CK;rw [e]
  show Calls _ _ _ _ fun e w'=>e=.returned (.tuple #[.int .i64 0,errC (kW l)])∧_
  rw [bP h];have CKH:=aa CK;clear hr CK h e TY
  go_enter Tryz.func121,Tryz.ntmps121
  go_wp2_with fail;refine CKH.out.mono ?_;rintro r w1 ⟨rfl,hb⟩;have B1:=aa hb;clear hb CKH;go_wp2_with fail
  go_ret2
  exact ⟨rfl,B1.out⟩
theorem checkBy_any (l:List Nd) (v:Value) (w:World) (hl:l.length≤1000) (hr:lf w v l) :
  Calls Tryz.prog 80 #[v] w fun e w'=>e=.returned (errC (chkB l))∧Below w.heap.size w w':=by
 have KO:=aa (jr l v w hl hr);obtain ⟨ao,cap,rfl⟩:=aq hr
 by_cases h:l.length=0
 ·have e:chkB l=0:=by unfold chkB;rw [if_pos h]
  rw [e,errC_0];rw [h] at *;clear hr KO h e
  go_enter Tryz.func80,Tryz.ntmps80
  go_wp2_with fail
  go_ret
  exact ⟨rfl,Below.refl _ _⟩
 ·have e:chkB l=(cM l).2:=by unfold chkB;rw [if_neg h]
  rw [e];have h0:((l.length:Int) == 0)=false:=beq_eq_false_iff_ne.2 (by omega);have h1:¬ (l.length:Int)=0:=by omega
  generalize errC (cM l).2=ev at *;clear hr h e
  go_enter Tryz.func80,Tryz.ntmps80
  go_wp2_with fail;refine KO.out.mono ?_;rintro r w1 ⟨rfl,hb⟩;have B1:=aa hb;clear hb KO;go_wp2_with fail
  go_ret
  exact ⟨rfl,B1.out⟩
theorem checkWhere_any (l:List Nd) (v:Value) (w:World) (hl:l.length≤1000) (hr:lf w v l) :
  Calls Tryz.prog 79 #[v] w fun e w'=>e=.returned (errC (chkW l))∧Below w.heap.size w w':=by
 have KO:=jr l v w hl hr;obtain ⟨ao,cap,rfl⟩:=aq hr
 by_cases h:l.length=0
 ·have e:chkW l=0:=by unfold chkW;rw [if_pos h]
  rw [e,errC_0];rw [h] at *;clear hr KO h e
  go_enter Tryz.func79,Tryz.ntmps79
  go_wp2_with fail
  go_ret
  exact ⟨rfl,Below.refl _ _⟩
 ·have h0:((l.length:Int) == 0)=false:=beq_eq_false_iff_ne.2 (by omega);have h1:¬ (l.length:Int)=0:=by omega
  by_cases hk:(cM l).2=0
  ·rw [hk,errC_0] at KO;have KOH:=aa KO
   by_cases h2:(cM l).1=1
   ·have e:chkW l=3:=by unfold chkW;rw [if_neg h,if_neg (by simp [hk]),if_pos h2]
    rw [e,bP (by decide)];rw [h2] at KOH;clear hr h e KO hk h2
    go_enter Tryz.func79,Tryz.ntmps79
    go_wp2_with fail;refine KOH.out.mono ?_;rintro r w1 ⟨rfl,hb⟩;have B1:=aa hb;clear hb KOH;go_wp2_with fail
    go_ret
    exact ⟨rfl,B1.out⟩
   ·have e:chkW l=0:=by unfold chkW;rw [if_neg h,if_neg (by simp [hk]),if_neg h2]
    rw [e,errC_0];have h3:((cM l).1 == 1)=false:=by simpa using h2
    generalize (cM l).1=k at *;clear hr h e KO hk
    go_enter Tryz.func79,Tryz.ntmps79
    go_wp2_with fail;refine KOH.out.mono ?_;rintro r w1 ⟨rfl,hb⟩;have B1:=aa hb;clear hb KOH;go_wp2_with fail
    go_ret
    exact ⟨rfl,B1.out⟩
  ·have e:chkW l=(cM l).2:=by unfold chkW;rw [if_neg h,if_pos hk]
   rw [e,bP hk];rw [bP hk] at KO;have KOH:=aa KO;clear hr h e KO hk;generalize (cM l).1=k at *;generalize (cM l).2=c at *
   go_enter Tryz.func79,Tryz.ntmps79
   go_wp2_with fail;refine KOH.out.mono ?_;rintro r w1 ⟨rfl,hb⟩;have B1:=aa hb;clear hb KOH;go_wp2_with fail
   go_ret
   exact ⟨rfl,B1.out⟩
theorem checkAgg_any (a:AgQ) (v:Value) (w:World) (hl:a.of.length≤1000) (hr:lf w v a.of) :
  Calls Tryz.prog 78 #[.agg #[.int .i64 a.kind,v]] w fun e w'=>e=.returned (errC (chkA a))∧Below w.heap.size w w':=by
 obtain ⟨k,l⟩:=a
 simp only at hl hr ⊢
 obtain ⟨ao,cap,rfl⟩:=aq hr;have ba:=aj w (.cells #[.int .i64 k,.slice ao l.length cap] 143);have BA:=aa ba;have KO:=jr l _ _ hl (bH hr ba)
 by_cases h0:k < 1∨5 < k
 ·have e:chkA ⟨k,l⟩=3:=by unfold chkA;rw [if_pos h0]
  rw [e,bP (by decide)];clear hr ba KO e
  by_cases h1:k < 1
  ·clear h0
   go_enter Tryz.func78,Tryz.ntmps78
   go_wp2_with fail
   go_ret
   exact ⟨rfl,BA.out⟩
  ·have h2:5 < k:=by omega
   clear h0
   go_enter Tryz.func78,Tryz.ntmps78
   go_wp2_with fail
   go_ret
   exact ⟨rfl,BA.out⟩
 ·have h1:¬ k < 1:=by omega
  have h2:¬ 5 < k:=by omega
  by_cases hk1:k=1
  ·subst hk1
   by_cases hz:0 < l.length
   ·have e:chkA ⟨1,l⟩=3:=by unfold chkA;rw [if_neg h0,if_pos rfl,if_pos hz]
    rw [e,bP (by decide)];have h3:(0:Int) < (l.length:Int):=by omega
    clear hr ba KO e h0 h1 h2 hz
    go_enter Tryz.func78,Tryz.ntmps78
    go_wp2_with fail
    go_ret
    exact ⟨rfl,BA.out⟩
   ·have e:chkA ⟨1,l⟩=0:=by unfold chkA;rw [if_neg h0,if_pos rfl,if_neg hz]
    rw [e,errC_0];have h3:l.length=0:=by omega
    rw [h3] at *;clear hr ba KO e h0 h1 h2 hz
    go_enter Tryz.func78,Tryz.ntmps78
    go_wp2_with fail
    go_ret
    exact ⟨rfl,aj _ _⟩
  ·have hk1':(k == 1)=false:=by simpa using hk1
   by_cases hk:(cM l).2=0
   ·rw [hk,errC_0] at KO
    by_cases h4:(cM l).1=2
    ·rw [h4] at KO;have KOH:=aa KO
     by_cases h5:k=2
     ·have e:chkA ⟨k,l⟩=0:=by unfold chkA;rw [if_neg h0,if_neg hk1,if_neg (by simp [hk]),if_neg (by simp [h5])]
      rw [e,errC_0];subst h5;clear hr ba KO e h0 h4 hk h1 h2 hk1
      go_enter Tryz.func78,Tryz.ntmps78
      go_wp2_with fail;refine KOH.out.mono ?_;rintro r w1 ⟨rfl,hb⟩;have B1:=aa (BA.out.trans (hb.mono BA.out.size));have c0:=hb.cell (p:=⟨w.heap.size,0,none⟩) (by simp);clear hb KOH;go_wp2_with fail
      go_ret
      exact ⟨rfl,B1.out⟩
     ·have e:chkA ⟨k,l⟩=3:=by unfold chkA;rw [if_neg h0,if_neg hk1,if_neg (by simp [hk]),if_pos ⟨h4,h5⟩]
      rw [e,bP (by decide)];have h5':(k != 2)=true:=by simpa using h5
      clear hr ba KO e h0 h4 hk hk1
      go_enter Tryz.func78,Tryz.ntmps78
      go_wp2_with fail;refine KOH.out.mono ?_;rintro r w1 ⟨rfl,hb⟩;have B1:=aa (BA.out.trans (hb.mono BA.out.size));have c0:=hb.cell (p:=⟨w.heap.size,0,none⟩) (by simp);clear hb KOH;go_wp2_with fail
      go_ret
      exact ⟨rfl,B1.out⟩
    ·have e:chkA ⟨k,l⟩=0:=by unfold chkA;rw [if_neg h0,if_neg hk1,if_neg (by simp [hk]),if_neg (by simp [h4])]
     rw [e,errC_0];have h4':((cM l).1 == 2)=false:=by simpa using h4
     have KOH:=aa KO;generalize (cM l).1=c at *;clear hr ba KO e h0 hk hk1
     go_enter Tryz.func78,Tryz.ntmps78
     go_wp2_with fail;refine KOH.out.mono ?_;rintro r w1 ⟨rfl,hb⟩;have B1:=aa (BA.out.trans (hb.mono BA.out.size));clear hb KOH;go_wp2_with fail
     go_ret
     exact ⟨rfl,B1.out⟩
   ·have e:chkA ⟨k,l⟩=(cM l).2:=by unfold chkA;rw [if_neg h0,if_neg hk1,if_pos hk]
    rw [e,bP hk];rw [bP hk] at KO;have KOH:=aa KO;clear hr ba KO e h0 hk hk1;generalize (cM l).1=c at *;generalize (cM l).2=c2 at *
    go_enter Tryz.func78,Tryz.ntmps78
    go_wp2_with fail;refine KOH.out.mono ?_;rintro r w1 ⟨rfl,hb⟩;have B1:=aa (BA.out.trans (hb.mono BA.out.size));clear hb KOH;go_wp2_with fail
    go_ret
    exact ⟨rfl,B1.out⟩
theorem checkWindow_any (va vw vb:Value) (hva:isSl va=true) (hvw:isSl vw=true) (hvb:isSl vb=true) (q:Qy) (w:World) :
  Calls Tryz.prog 81 #[.agg #[va,vw,vb,.int .i64 q.size,.int .i64 q.slide,.int .i64 q.delay,.int .i64 q.late]] w fun e w'=>e=.returned (errC (p7 q))∧Below w.heap.size w w':=by
 obtain ⟨a1,n1,c1,rfl⟩:=bR hva;obtain ⟨a2,n2,c2,rfl⟩:=bR hvw;obtain ⟨a3,n3,c3,rfl⟩:=bR hvb;obtain ⟨aggs,wh,bys,s,l,d,t⟩:=q
 simp only
 have BA:=aa (aj w (.cells #[.slice a1 n1 c1,.slice a2 n2 c2,.slice a3 n3 c3,.int .i64 s,.int .i64 l,.int .i64 d,.int .i64 t] 28));have i0:∀ a b w,(Instr.index 187 (.agg #[.int .i64 a,.int .i64 b]) (.int .i64 0)).run Tryz.prog w=.ok (.int .i64 a) w:=fun _ _ _=>by kernel_rfl
 have i1:∀ a b w,(Instr.index 187 (.agg #[.int .i64 a,.int .i64 b]) (.int .i64 1)).run Tryz.prog w=.ok (.int .i64 b) w:=fun _ _ _=>by kernel_rfl
 generalize hc:p7 ⟨aggs,wh,bys,s,l,d,t⟩=c;have HB:Hid ((s < 1∨1000 < s∨l < 1∨1000 < l∨d < 0∨1000 < d∨t < 0∨1000 < t)→c=1):=fun h=>by rw [← hc];unfold p7;rw [if_pos h]
 have HC:Hid (¬ (s < 1∨1000 < s∨l < 1∨1000 < l∨d < 0∨1000 < d∨t < 0∨1000 < t)→(s < l∨4 * l < s)→c=3):=fun h h2=>by rw [← hc];unfold p7;rw [if_neg h,if_pos h2]
 have HD:Hid (¬ (s < 1∨1000 < s∨l < 1∨1000 < l∨d < 0∨1000 < d∨t < 0∨1000 < t)→¬ (s < l∨4 * l < s)→c=0):=fun h h2=>by rw [← hc];unfold p7;rw [if_neg h,if_neg h2]
 clear hc hva hvw hvb
 go_enter Tryz.func81,Tryz.ntmps81
 go_wp2_with fail
 go_loop [12] (fun i=>∃ j:Nat,j≤2∧i=.int .i64 j∧(1≤j→1≤s∧s≤1000)∧(2≤j→1≤l∧l≤1000)) (fun i=>4 - (intOf i).toNat)
 case atStart=>exact ⟨0,by omega,rfl,by omega,by omega⟩
 case round =>
  obtain ⟨j,hj,rfl,hs,hl⟩:=hrel;have jj:j=0∨j=1∨j=2:=by omega
  rcases jj with rfl | rfl | rfl
  ·clear hs hl hj
   by_cases h1:s < 1
   ·have e:c=1:=HB.out (by omega);subst e;go_wp2_with fail
    go_ret
    exact ⟨rfl,BA.out⟩
   ·by_cases h2:1000 < s
    ·have e:c=1:=HB.out (by omega);subst e;go_wp2_with fail
     go_ret
     exact ⟨rfl,BA.out⟩
    ·go_wp2_with fail
     go_round
     case rel=>exact ⟨1,by omega,rfl,by omega,by omega⟩
     case measure=>simp [intOf]
  ·have hs:=hs (Nat.le_refl _);clear hl hj
   by_cases h1:l < 1
   ·have e:c=1:=HB.out (by omega);subst e;go_wp2_with fail
    go_ret
    exact ⟨rfl,BA.out⟩
   ·by_cases h2:1000 < l
    ·have e:c=1:=HB.out (by omega);subst e;go_wp2_with fail
     go_ret
     exact ⟨rfl,BA.out⟩
    ·go_wp2_with fail
     go_round
     case rel=>exact ⟨2,by omega,rfl,by omega,by omega⟩
     case measure=>simp [intOf]
  ·have hs:=hs (by omega);have hl:=hl (Nat.le_refl _);clear hj;go_wp2_with fail
   go_loop [28] (fun i=>∃ j:Nat,j≤2∧i=.int .i64 j∧(1≤j→0≤d∧d≤1000)∧(2≤j→0≤t∧t≤1000)) (fun i=>4 - (intOf i).toNat)
   case atStart=>exact ⟨0,by omega,rfl,by omega,by omega⟩
   case round =>
    obtain ⟨j,hj,rfl,hd,ht⟩:=hrel;have jj:j=0∨j=1∨j=2:=by omega
    rcases jj with rfl | rfl | rfl
    ·clear hd ht hj
     by_cases h1:d < 0
     ·have e:c=1:=HB.out (by omega);subst e;go_wp2_with fail
      go_ret
      exact ⟨rfl,BA.out⟩
     ·by_cases h2:1000 < d
      ·have e:c=1:=HB.out (by omega);subst e;go_wp2_with fail
       go_ret
       exact ⟨rfl,BA.out⟩
      ·go_wp2_with fail
       go_round
       case rel=>exact ⟨1,by omega,rfl,by omega,by omega⟩
       case measure=>simp [intOf]
    ·have hd:=hd (Nat.le_refl _);clear ht hj
     by_cases h1:t < 0
     ·have e:c=1:=HB.out (by omega);subst e;go_wp2_with fail
      go_ret
      exact ⟨rfl,BA.out⟩
     ·by_cases h2:1000 < t
      ·have e:c=1:=HB.out (by omega);subst e;go_wp2_with fail
       go_ret
       exact ⟨rfl,BA.out⟩
      ·go_wp2_with fail
       go_round
       case rel=>exact ⟨2,by omega,rfl,by omega,by omega⟩
       case measure=>simp [intOf]
    ·have hd:=hd (by omega);have ht:=ht (Nat.le_refl _);have hg:¬ (s < 1∨1000 < s∨l < 1∨1000 < l∨d < 0∨1000 < d∨t < 0∨1000 < t):=by omega
     clear hj;have wr:IntKind.i64.wrap (4 * l)=4 * l:=kM _ (by omega) (by omega)
     by_cases h1:s < l
     ·have e:c=3:=HC.out hg (.inl h1);subst e;clear hg;go_wp2_with fail
      go_ret
      exact ⟨rfl,BA.out⟩
     ·by_cases h2:4 * l < s
      ·have e:c=3:=HC.out hg (.inr h2);subst e;clear hg;go_wp2_with fail
       go_ret
       exact ⟨rfl,BA.out⟩
      ·have e:c=0:=HD.out hg (by omega);subst e;clear hg;go_wp2_with fail
       go_ret
       exact ⟨rfl,BA.out⟩
theorem chkAs_all:∀ (l:List AgQ),(∀ (m:Nat) (a:AgQ),l[m]?=some a→chkA a=0)→chkAs l=0
 | [],_=>rfl
 | a :: l,h=>by
  unfold chkAs;rw [if_neg (by simp [h 0 a rfl])];exact chkAs_all l (fun m b hb=>h (m+1) b (by simpa using hb))
theorem chkAs_at:∀ (l:List AgQ) (j:Nat) (a:AgQ),l[j]?=some a→chkA a≠0→(∀ m b,m < j→l[m]?=some b→chkA b=0)→chkAs l=chkA a
 | [],j,a,h,_,_=>by simp at h
 | b :: l,0,a,h,hc,_=>by
  simp at h;subst h;unfold chkAs;rw [if_pos hc]
 | b :: l,j+1,a,h,hc,hp=>by
  unfold chkAs;rw [if_neg (by simp [hp 0 b (by omega) rfl])];exact chkAs_at l j a (by simpa using h) hc (fun m b hm hb=>hp (m+1) b (by omega) (by simpa using hb))
structure AggG (w:World) (va:Value) (ps:List (AgQ×Value)):Prop where
 row:bT w va 2 ps.length (rowOf bw ps)
 nds:∀ p∈ps,lf w p.2 p.1.of∧p.1.of.length≤1000
theorem cU (p:AgQ×Value):(bw p).length=2:=rfl
theorem aggG_below {w w':World} {va:Value} {ps:List (AgQ×Value)} (h:AggG w va ps) (hb:Below w.heap.size w w'):AggG w' va ps:=⟨aA h.row hb,fun p hp=>⟨bH (h.nds p hp).1 hb,(h.nds p hp).2⟩⟩
structure QyG (w:World) (va vw vb:Value) (q:Qy) (ps:List (AgQ×Value)):Prop where
 ag:AggG w va ps
 qa:ps.map Prod.fst=q.aggs
 wh:lf w vw q.wh
 by_:lf w vb q.bys
 lw:q.wh.length≤1000
 lb:q.bys.length≤1000
theorem bf {w w':World} {va vw vb:Value} {q:Qy} {ps:List (AgQ×Value)} (h:QyG w va vw vb q ps) (hb:Below w.heap.size w w'):QyG w' va vw vb q ps:=⟨aggG_below h.ag hb,h.qa,bH h.wh hb,bH h.by_ hb,h.lw,h.lb⟩
def qyV (va vw vb:Value) (q:Qy):Value:=.agg #[va,vw,vb,.int .i64 q.size,.int .i64 q.slide,.int .i64 q.delay,.int .i64 q.late]
theorem jV (va vw vb:Value) (q:Qy) (ps:List (AgQ×Value)) (W:World) (h:QyG W va vw vb q ps) :
  Calls Tryz.prog 40 #[qyV va vw vb q] W fun e w'=>e=.returned (errC (chkQ q))∧Below W.heap.size W w':=by
 unfold qyV;obtain ⟨ao,cap,rfl⟩:=aq h.ag.row;obtain ⟨a2,c2,rfl⟩:=aq h.wh;obtain ⟨a3,c3,rfl⟩:=aq h.by_;have ba:=aj W (.cells #[.slice ao ps.length cap,.slice a2 q.wh.length c2,.slice a3 q.bys.length c3,.int .i64 q.size,.int .i64 q.slide,.int .i64 q.delay,.int .i64 q.late] 28);have BA:=aa ba;have hlen:q.aggs.length=ps.length:=by rw [← h.qa];simp
 have BQ:=aa (az W [.slice ao ps.length cap,.slice a2 q.wh.length c2,.slice a3 q.bys.length c3,.int .i64 q.size,.int .i64 q.slide,.int .i64 q.delay,.int .i64 q.late] 28)
 by_cases h0:ps.length=0∨4 < ps.length
 ·have e:chkQ q=2:=by unfold chkQ;rw [if_pos (by omega)]
  rw [e,bP (by decide)];clear e hlen h ba BQ
  by_cases h1:ps.length=0
  ·rw [h1] at *;clear h0
   go_enter Tryz.func40,Tryz.ntmps40
   go_wp2_with fail
   go_ret
   exact ⟨rfl,aj _ _⟩
  ·have h2:(4:Int) < (ps.length:Int):=by omega
   have h3:((ps.length:Int) == 0)=false:=beq_eq_false_iff_ne.2 (by omega);clear h0
   go_enter Tryz.func40,Tryz.ntmps40
   go_wp2_with fail
   go_ret
   exact ⟨rfl,BA.out⟩
 ·have h1:¬ (4:Int) < (ps.length:Int):=by omega
  have h3:((ps.length:Int) == 0)=false:=beq_eq_false_iff_ne.2 (by omega);have HE:Hid (∀ j a,q.aggs[j]?=some a→chkA a≠0→(∀ m b,m < j→q.aggs[m]?=some b→chkA b=0)→chkQ q=chkA a):=fun j a ha hc hp=>by
   have e9:=chkAs_at q.aggs j a ha hc hp;unfold chkQ;rw [if_neg (by omega),if_pos (by rw [e9];exact hc),e9]
  have HW:Hid ((∀ m b,q.aggs[m]?=some b→chkA b=0)→chkQ q=if chkW q.wh≠0 then chkW q.wh else if chkB q.bys≠0 then chkB q.bys else p7 q):=fun hp=>by
   have e9:=chkAs_all q.aggs hp;unfold chkQ;rw [if_neg (by omega),if_neg (by simp [e9])]
  have HG:=aa (bf h ba);have HQA:=aa h.qa;have hn4:ps.length≤4:=by omega
  generalize hc:chkQ q=c at *;clear hlen h ba h0 hc
  go_enter Tryz.func40,Tryz.ntmps40
  go_wp2_with fail;generalize hgz:W.heap.size=gz at *;generalize W.alloc (.cells #[.slice ao ps.length cap,.slice a2 q.wh.length c2,.slice a3 q.bys.length c3,.int .i64 q.size,.int .i64 q.slide,.int .i64 q.delay,.int .i64 q.late] 28)=w0 at *;have lq:=BQ.out.lt;have hle:gz≤w0.heap.size:=by rw [← hgz];exact BA.out.size
  go_loopw [22] (fun i wr=>∃ j:Nat,j≤ps.length∧i=.int .i64 j∧Hid (Below w0.heap.size w0 wr)∧Hid (∀ m b,m < j→q.aggs[m]?=some b→chkA b=0)) (fun i _=>ps.length - (intOf i).toNat)
  case atStart=>exact ⟨0,Nat.zero_le _,rfl,Below.refl _ _,fun m b hm=>absurd hm (by omega)⟩
  case round =>
   obtain ⟨j,hj,rfl,HB,HP⟩:=hrel
   by_cases hlt:j < ps.length
   ·have HGr:=aa (bf HG.out HB.out);obtain ⟨g,off,hao,hcell,q1,q2,lg⟩:=bA cU HGr.out.ag.row j hlt;subst hao;have hnd:=HGr.out.ag.nds ps[j] (List.getElem_mem hlt);have hqa:q.aggs[j]?=some ps[j].1:=by rw [← HQA.out];simp [hlt]
    have HQJ:=aa hqa;generalize ps[j]=p at *;obtain ⟨⟨k,l⟩,v⟩:=p;have y0:=hcell 0 (by omega);have y1:=hcell 1 (by omega);have y0:wr.cell? ⟨g,off+j * 2,none⟩=some (.int .i64 k):=y0;have y1:wr.cell? ⟨g,off+j * 2+1,none⟩=some v:=y1;have hsh:∃ a9 n9 c9,v=.slice a9 n9 c9:=by obtain ⟨a9,c9,e9⟩:=aq hnd.1;exact ⟨_,_,_,e9⟩
    obtain ⟨a9,n9,c9,rfl⟩:=hsh;have ba2:=aj wr (.cells #[.int .i64 k,.slice a9 n9 c9] 143);have CA:=checkAgg_any ⟨k,l⟩ (.slice a9 n9 c9) _ hnd.2 (bH hnd.1 ba2);have HB2:=aa (HB.out.trans (ba2.mono HB.out.size));unfold maxLen at q2;clear hcell hnd ba2 hqa
    by_cases hca:chkA ⟨k,l⟩=0
    ·rw [hca,errC_0] at CA;have CAH:=aa CA;have HP2:Hid (∀ m b,m < j+1→q.aggs[m]?=some b→chkA b=0):=fun m b hm hb=>by
      by_cases e9:m < j
      ·exact HP.out m b e9 hb
      ·have:m=j:=by omega
       subst this;rw [HQJ.out] at hb;cases hb;exact hca
     clear CA hca HP;go_wp2_with fail;refine CAH.out.mono ?_;rintro r w1 ⟨rfl,hb⟩;have HB3:=aa (HB2.out.trans (hb.mono HB2.out.size));clear hb CAH;go_wp2_with fail;go_roundw
     case rel=>exact ⟨j+1,by omega,rfl,HB3,HP2⟩
     case measure=>simp [intOf];omega
    ·have e:c=chkA ⟨k,l⟩:=HE.out j ⟨k,l⟩ HQJ.out hca HP.out;rw [bP hca] at CA;have CAH:=aa CA;have e2:Hid (errC c=.iface 93 (.int .i64 (chkA ⟨k,l⟩))):=by show _=_;rw [e,bP hca]
     generalize chkA ⟨k,l⟩=cc at *;clear CA hca HP e;go_wp2_with fail;refine CAH.out.mono ?_;rintro r w1 ⟨rfl,hb⟩;have HB3:=aa (HB2.out.trans (hb.mono HB2.out.size));clear hb CAH;go_wp2_with fail
     go_ret
     rw [e2.out];exact ⟨rfl,by rw [hgz];exact BA.out.trans (HB3.out.mono hle)⟩
   ·have hje:j=ps.length:=by omega
    subst hje;have hall:∀ m b,q.aggs[m]?=some b→chkA b=0:=fun m b hb=>HP.out m b (by
     have:=(List.getElem?_eq_some_iff.1 hb).1
     rw [← HQA.out] at this
     simpa using this) hb
    have e:=HW.out hall;have HGr:=aa (bf HG.out HB.out);have BQr:=aa (ai BQ.out HB.out lq);clear hlt hall HP HE HW;have CW:=checkWhere_any q.wh _ wr HGr.out.lw HGr.out.wh;have CB:=aa (fun w (hb:Below wr.heap.size wr w)=>checkBy_any q.bys _ w HGr.out.lb (bH HGr.out.by_ hb));have b1:=BQr.out.c 1 (by simp);simp only [List.getElem?_cons_zero,List.getElem?_cons_succ] at b1
    by_cases hw:chkW q.wh=0
    ·rw [hw,errC_0] at CW;rw [if_neg (by simp [hw])] at e;have CWH:=aa CW;clear CW hw
     by_cases hbz:chkB q.bys=0
     ·rw [if_neg (by simp [hbz])] at e;subst e;have HBZ:=aa hbz;clear hbz;go_wp2_with fail;refine CWH.out.mono ?_;rintro r w1 ⟨rfl,hb⟩;have HB3:=aa (HB.out.trans (hb.mono HB.out.size));have BQ1:=aa (ai BQr.out hb BQr.out.lt);have CB1:=CB.out w1 hb;rw [HBZ.out,errC_0] at CB1;have CBH:=aa CB1;have d2:=BQ1.out.c 2 (by simp);simp only [List.getElem?_cons_zero,List.getElem?_cons_succ] at d2;clear hb CWH CB CB1 b1;go_wp2_with fail;refine CBH.out.mono ?_;rintro r w2 ⟨rfl,hb⟩;have HB4:=aa (HB3.out.trans (hb.mono HB3.out.size));have BQ2:=aa (ai BQ1.out hb BQ1.out.lt);have CS:=aa (checkWindow_any (.slice ao ps.length cap) (.slice a2 q.wh.length c2) (.slice a3 q.bys.length c3) rfl rfl rfl q w2);have z0:=BQ2.out.c 0 (by simp);have z1:=BQ2.out.c 1 (by simp);have z2:=BQ2.out.c 2 (by simp);have z3:=BQ2.out.c 3 (by simp);have z4:=BQ2.out.c 4 (by simp);have z5:=BQ2.out.c 5 (by simp);have z6:=BQ2.out.c 6 (by simp);simp only [List.getElem?_cons_zero,List.getElem?_cons_succ] at z0 z1 z2 z3 z4 z5 z6;obtain ⟨ev,hev⟩:∃ ev,errC (p7 q)=ev:=⟨_,rfl⟩;rw [hev] at CS;have HEV:=aa hev;clear hb CBH d2 hev;go_wp2_with fail;refine CS.out.mono ?_;rintro r w3 ⟨rfl,hb⟩;have HB5:=aa (HB4.out.trans (hb.mono HB4.out.size));clear hb CS;go_wp2_with fail
      go_ret
      rw [HEV.out];exact ⟨rfl,by rw [hgz];exact BA.out.trans (HB5.out.mono hle)⟩
     ·rw [if_pos hbz] at e;have e2:Hid (errC c=.iface 93 (.int .i64 (chkB q.bys))):=by show _=_;rw [e,bP hbz]
      have HBZ:=aa hbz;clear hbz e;go_wp2_with fail;refine CWH.out.mono ?_;rintro r w1 ⟨rfl,hb⟩;have HB3:=aa (HB.out.trans (hb.mono HB.out.size));have BQ1:=aa (ai BQr.out hb BQr.out.lt);have CB1:=CB.out w1 hb;rw [bP HBZ.out] at CB1;have CBH:=aa CB1;have d2:=BQ1.out.c 2 (by simp);simp only [List.getElem?_cons_zero,List.getElem?_cons_succ] at d2;generalize chkB q.bys=cc at *;clear hb CWH CB CB1 b1 HBZ;go_wp2_with fail;refine CBH.out.mono ?_;rintro r w2 ⟨rfl,hb⟩;have HB4:=aa (HB3.out.trans (hb.mono HB3.out.size));clear hb CBH d2;go_wp2_with fail
      go_ret
      rw [e2.out];exact ⟨rfl,by rw [hgz];exact BA.out.trans (HB4.out.mono hle)⟩
    ·rw [if_pos hw] at e;rw [bP hw] at CW;have CWH:=aa CW;have e2:Hid (errC c=.iface 93 (.int .i64 (chkW q.wh))):=by show _=_;rw [e,bP hw]
     generalize chkW q.wh=cc at *;clear CW hw e CB;go_wp2_with fail;refine CWH.out.mono ?_;rintro r w1 ⟨rfl,hb⟩;have HB3:=aa (HB.out.trans (hb.mono HB.out.size));clear hb CWH;go_wp2_with fail
     go_ret
     rw [e2.out];exact ⟨rfl,by rw [hgz];exact BA.out.trans (HB3.out.mono hle)⟩
theorem made_ints (n:Nat):(madeCells #[Value.int .i64 0] n).toList=(List.replicate n (0:Int)).map (Value.int .i64):=by
 rw [jy _ (.int .i64 0) (fun i hi=>by
  have:i=0:=by simp at hi;omega
  subst this
  rfl) (by simp)]
 simp
theorem pL {α:Type} {L M:List α} (hl:L.length=M.length) (h:∀ j,j < M.length→L[j]?=M[j]?):L=M:=List.ext_getElem? fun i=>by
 by_cases hi:i < M.length
 ·exact h i hi
 ·rw [List.getElem?_eq_none (by omega),List.getElem?_eq_none (by omega)]
structure QyN (q:Qy):Prop where
 wh:∀ n∈q.wh,okN n=0
 bys:∀ n∈q.bys,okN n=0
 ag:∀ a∈q.aggs,∀ n∈a.of,okN n=0
theorem lF (W:World) (o1 o2:Obj):Below W.heap.size W ((W.alloc o1).alloc o2):=((Below.refl _ _).alloc (Nat.le_refl _) o1).alloc (by simp) o2
theorem aggV_eq (a b:V2):((a.1 == b.1) && (a.2 == b.2))=decide (a=b):=by
 obtain ⟨a1,a2⟩:=a;obtain ⟨b1,b2⟩:=b;rw [Bool.eq_iff_iff]
 simp
theorem kinds_any (va vw vb:Value) (q:Qy) (ps:List (AgQ×Value)) (W:World) (h:QyG W va vw vb q ps) (h4:ps.length≤4) :
  Calls Tryz.prog 63 #[qyV va vw vb q] W fun e w'=>∃ u,e=.returned u∧w'.ownsRow W.heap.size 3 1 u (q.aggs.map AgQ.kind).length ((q.aggs.map AgQ.kind).map (Value.int .i64))∧Below W.heap.size W w':=by
 obtain ⟨i0,hi,hz0,hz1,hz2⟩:=info_parts infoI;have hlen:q.aggs.length=ps.length:=by rw [← h.qa];simp
 have hkl:(q.aggs.map AgQ.kind).length=ps.length:=by rw [List.length_map,hlen]
 rw [hkl];unfold qyV;obtain ⟨ao,cap,rfl⟩:=aq h.ag.row;obtain ⟨a2,c2,rfl⟩:=aq h.wh;obtain ⟨a3,c3,rfl⟩:=aq h.by_;have ba:=aj W (.cells #[.slice ao ps.length cap,.slice a2 q.wh.length c2,.slice a3 q.bys.length c3,.int .i64 q.size,.int .i64 q.slide,.int .i64 q.delay,.int .i64 q.late] 28);have BQ:=az W [.slice ao ps.length cap,.slice a2 q.wh.length c2,.slice a3 q.bys.length c3,.int .i64 q.size,.int .i64 q.slide,.int .i64 q.delay,.int .i64 q.late] 28;have HG:=aa (bf h ba);have HQA:=aa h.qa;have HKL:=aa hkl;have HBA:=aa ba;generalize hK:q.aggs.map AgQ.kind=K at *;have HK:=aa hK;clear hlen h hkl hK
 go_enter Tryz.func63,Tryz.ntmps63
 go_wp2_with (at_make;go_must (refine wpList_make_full _ rfl _ _ 56 rfl W.heap.size 3 i0 (.int .i64 0) 1 Tryz.underlying56 hi hz0 hz1 .i64 .i64 _ _ ps.length rfl rfl rfl rfl (by rw [hz2];omega) (by show _≤2 ^ 63 - 1;omega) (by simp) ?_))
 intro w1 ho hg;have hsz:(W.alloc (.cells #[.slice ao ps.length cap,.slice a2 q.wh.length c2,.slice a3 q.bys.length c3,.int .i64 q.size,.int .i64 q.slide,.int .i64 q.delay,.int .i64 q.late] 28)).heap.size=W.heap.size+1:=by simp
 have hb1:Below (W.alloc (.cells #[.slice ao ps.length cap,.slice a2 q.wh.length c2,.slice a3 q.bys.length c3,.int .i64 q.size,.int .i64 q.slide,.int .i64 q.delay,.int .i64 q.late] 28)).heap.size (W.alloc (.cells #[.slice ao ps.length cap,.slice a2 q.wh.length c2,.slice a3 q.bys.length c3,.int .i64 q.size,.int .i64 q.slide,.int .i64 q.delay,.int .i64 q.late] 28)) w1:=(Below.refl _ _).grown hg (Nat.le_refl _) (fun k hk=>by cases hk);have lq:=BQ.lt;have c0:w1.cell? ⟨W.heap.size,0,none⟩=some (.slice ao ps.length cap):=(ai BQ hb1 BQ.lt).c 0 (by simp);have ho':w1.ownsRow W.heap.size 3 1 (.slice (some ⟨W.heap.size+1,0,none⟩) ps.length ps.length) ps.length ((List.replicate ps.length (0:Int)).map (Value.int .i64)):=by
  rw [← made_ints];exact ho
 have HO:=aa ho';have HB:=aa hb1;have HSZ:=aa hsz;clear hb1 ho ho' hg ba BQ;go_wp2_with fail;clear c0;generalize (W.alloc (.cells #[.slice ao ps.length cap,.slice a2 q.wh.length c2,.slice a3 q.bys.length c3,.int .i64 q.size,.int .i64 q.slide,.int .i64 q.delay,.int .i64 q.late] 28))=w0 at *
 go_loopw [13] (fun i wr=>∃ (m:Nat) (L:List Int),m≤ps.length∧L.length=ps.length∧i=.int .i64 m∧Hid (∀ j,j < m→L[j]?=K[j]?)∧Hid (wr.ownsRow W.heap.size 3 1 (.slice (some ⟨W.heap.size+1,0,none⟩) ps.length ps.length) ps.length (L.map (Value.int .i64)))∧Hid (Below w0.heap.size w0 wr)) (fun i _=>ps.length - (intOf i).toNat)
 case atStart=>exact ⟨0,List.replicate ps.length 0,Nat.zero_le _,by simp,rfl,fun j hj=>absurd hj (by omega),HO,HB⟩
 case round =>
  clear HO HB;obtain ⟨m,L,hm,hL,rfl,HM,HO,HB⟩:=hrel
  by_cases hlt:m < ps.length
  ·have HGr:=aa (bf HG.out HB.out);obtain ⟨g,off,hao,hcell,q1,q2,lg⟩:=bA cU HGr.out.ag.row m hlt;subst hao;have hnd:=HGr.out.ag.nds ps[m] (List.getElem_mem hlt);have HKM:Hid (K[m]?=some ps[m].1.kind):=by show _=_;rw [← HK.out,← HQA.out];simp [hlt]
   generalize ps[m]=p at *;obtain ⟨⟨k,l⟩,v⟩:=p;have y0:=hcell 0 (by omega);have y1:=hcell 1 (by omega);have y0:wr.cell? ⟨g,off+m * 2,none⟩=some (.int .i64 k):=y0;have y1:wr.cell? ⟨g,off+m * 2+1,none⟩=some v:=y1;have hsh:∃ a9 n9 c9,v=.slice a9 n9 c9:=by obtain ⟨a9,c9,e9⟩:=aq hnd.1;exact ⟨_,_,_,e9⟩
   obtain ⟨a9,n9,c9,rfl⟩:=hsh;have ba2:=aj wr (.cells #[.int .i64 k,.slice a9 n9 c9] 143);have HO2:=aa (aC HO.out ba2 (Nat.le_refl _));have HB2:=aa (HB.out.trans (ba2.mono HB.out.size));have z0:=HO2.out.cellAt m (by omega);rw [List.getElem?_eq_getElem (by simp;omega)] at z0;generalize (L.map (Value.int .i64))[m]'(by simp;omega)=r0 at z0;have f0:=aQ HO2.out m;have HO3:=aa (b7 HO2.out m (.int .i64 k));rw [← List.map_set] at HO3;have HB3:=aa (HB2.out.setCell (p:=⟨W.heap.size+1,m,none⟩) (by rw [HSZ.out];exact Nat.le_refl _) (.int .i64 k));have HLL:=aa hL;unfold maxLen at q2;clear hcell hnd ba2 HO2 HB2 hL;go_wp2_with fail;go_roundw
   case rel=>exact ⟨m+1,L.set m k,by omega,by simpa using HLL.out,by go_num,fun j hj=>by
     by_cases h9:j=m
     ·subst h9;rw [List.getElem?_set_self (by rw [HLL.out];omega),HKM.out]
     ·rw [List.getElem?_set_ne (fun e=>h9 e.symm)];exact HM.out j (by omega),HO3,HB3⟩
   case measure=>simp [intOf];omega
  ·have hme:m=ps.length:=by omega
   subst hme;have e:L=K:=pL (by rw [HKL.out];exact hL) (fun j hj=>HM.out j (by rw [HKL.out] at hj;exact hj));subst e;go_wp2_with fail
   go_ret
   exact ⟨_,rfl,HO.out,HBA.out.trans (HB.out.mono HBA.out.size)⟩
theorem asked_q (va vw vb:Value) (q:Qy) (ps:List (AgQ×Value)) (x:Ev) (W:World) (h:QyG W va vw vb q ps) (hn:QyN q) (hx:∀ p∈evX x,okV p) :
  Calls Tryz.prog 86 #[qyV va vw vb q,ei x] W fun e w'=>e=.returned (.bool (askQ q x))∧Below W.heap.size W w':=by
 unfold qyV;obtain ⟨ao,cap,rfl⟩:=aq h.ag.row;obtain ⟨a2,c2,rfl⟩:=aq h.wh;obtain ⟨a3,c3,rfl⟩:=aq h.by_;have ba:=lF W (.cells #[.slice ao ps.length cap,.slice a2 q.wh.length c2,.slice a3 q.bys.length c3,.int .i64 q.size,.int .i64 q.slide,.int .i64 q.delay,.int .i64 q.late] 28) (.cells #[.int .i64 x.t,.int .i64 x.k1,.int .i64 x.k2,.int .i64 x.a1,.int .i64 x.a2,.int .i64 x.b1,.int .i64 x.b2] 43);have HE:=aa (kO q.wh (.slice a2 q.wh.length c2) x.t x.k1 x.k2 x.a1 x.a2 x.b1 x.b2 _ h.lw (aA h.wh ba) hn.wh hx);have HBA:=aa ba;have hA:askQ q x=(q.wh.length == 0 || decide (evL opV (evX x) q.wh=(2,1))):=rfl;have HV:=aa (aggV_eq (evL opV (evX x) q.wh) (2,1));unfold evX at *;unfold qx at HE;generalize evL opV (evE x.t x.k1 x.k2 x.a1 x.a2 x.b1 x.b2) q.wh=V at *;obtain ⟨V1,V2⟩:=V;unfold iI at HE
 simp only at HE HV
 unfold ei;rw [hA];clear hA h hn hx ba
 by_cases h0:q.wh.length=0
 ·have d0:((q.wh.length:Int) == 0)=true:=by simp [h0]
  have d1:(q.wh.length == 0)=true:=by simp [h0]
  rw [d1,Bool.true_or];clear h0 d1 HE HV
  go_enter Tryz.func86,Tryz.ntmps86
  go_wp2_with fail
  go_ret
  exact ⟨rfl,HBA.out⟩
 ·have d0:((q.wh.length:Int) == 0)=false:=beq_eq_false_iff_ne.2 (by omega);have d1:(q.wh.length == 0)=false:=beq_eq_false_iff_ne.2 h0;rw [d1,Bool.false_or,← HV.out];clear HV h0 d1;generalize hr:(V1 == 2 && V2 == 1)=r;obtain ⟨d1,d2,rfl⟩ | ⟨d1,d2,rfl⟩ | ⟨d1,rfl⟩:((V1 == 2)=true∧(V2 == 1)=true∧r=true)∨((V1 == 2)=true∧(V2 == 1)=false∧r=false)∨((V1 == 2)=false∧r=false):=by
   rw [← hr];cases h1:(V1 == 2) <;> cases h2:(V2 == 1) <;> simp
  all_goals
   clear hr
   go_enter Tryz.func86,Tryz.ntmps86
   go_wp2_with fail;refine HE.out.mono ?_;rintro e w1 ⟨rfl,hb⟩;have HB:=nxt HBA hb;clear hb HE HBA;go_wp2_with fail;refine (cR true _).mono ?_;rintro e w2 ⟨rfl,rfl⟩;have HB2:=aa (HB.out.alloc HB.out.size (.cells #[.int .i64 2,.int .i64 (if true then 1 else 0)] 41));clear HB;go_wp2_with fail
   go_ret
   exact ⟨rfl,HB2.out⟩
theorem below3 (W:World) (o1 o2 o3:Obj):Below W.heap.size W (((W.alloc o1).alloc o2).alloc o3):=(lF W o1 o2).alloc (by simp;omega) o3
theorem null_bt (w:World):Calls Tryz.prog 125 #[] w fun e w'=>e=.returned (.agg #[.int .i64 0,.int .i64 0])∧Below w.heap.size w w':=(cz w).mono (by
 rintro e w' ⟨rfl,rfl⟩;exact ⟨rfl,(Below.refl _ _).alloc (Nat.le_refl _) _⟩)
theorem keyof_q (va vw vb:Value) (q:Qy) (ps:List (AgQ×Value)) (x:Ev) (W:World) (h:QyG W va vw vb q ps) (hn:QyN q) (hx:∀ p∈evX x,okV p) :
  Calls Tryz.prog 87 #[qyV va vw vb q,ei x] W fun e w'=>e=.returned (iI (qq q x))∧Below W.heap.size W w':=by
 unfold qyV;obtain ⟨ao,cap,rfl⟩:=aq h.ag.row;obtain ⟨a2,c2,rfl⟩:=aq h.wh;obtain ⟨a3,c3,rfl⟩:=aq h.by_;have ba:=below3 W (.cells #[.slice ao ps.length cap,.slice a2 q.wh.length c2,.slice a3 q.bys.length c3,.int .i64 q.size,.int .i64 q.slide,.int .i64 q.delay,.int .i64 q.late] 28) (.cells #[.int .i64 x.t,.int .i64 x.k1,.int .i64 x.k2,.int .i64 x.a1,.int .i64 x.a2,.int .i64 x.b1,.int .i64 x.b2] 43) (.cells #[.int .i64 0,.int .i64 0] 41);have B3:=aa (az ((W.alloc (.cells #[.slice ao ps.length cap,.slice a2 q.wh.length c2,.slice a3 q.bys.length c3,.int .i64 q.size,.int .i64 q.slide,.int .i64 q.delay,.int .i64 q.late] 28)).alloc (.cells #[.int .i64 x.t,.int .i64 x.k1,.int .i64 x.k2,.int .i64 x.a1,.int .i64 x.a2,.int .i64 x.b1,.int .i64 x.b2] 43)) [.int .i64 0,.int .i64 0] 41);rw [show ((W.alloc (.cells #[.slice ao ps.length cap,.slice a2 q.wh.length c2,.slice a3 q.bys.length c3,.int .i64 q.size,.int .i64 q.slide,.int .i64 q.delay,.int .i64 q.late] 28)).alloc (.cells #[.int .i64 x.t,.int .i64 x.k1,.int .i64 x.k2,.int .i64 x.a1,.int .i64 x.a2,.int .i64 x.b1,.int .i64 x.b2] 43)).heap.size=W.heap.size+1+1 from by simp] at B3;have HE:=aa (kO q.bys (.slice a3 q.bys.length c3) x.t x.k1 x.k2 x.a1 x.a2 x.b1 x.b2 _ h.lb (aA h.by_ ba) hn.bys hx);have HBA:=aa ba;have hA:qq q x=if q.bys.length=0 then (0,0) else evL opV (evX x) q.bys:=rfl
 unfold evX at *;unfold qx at HE;generalize evL opV (evE x.t x.k1 x.k2 x.a1 x.a2 x.b1 x.b2) q.bys=V at *;obtain ⟨V1,V2⟩:=V;unfold iI at HE
 simp only at HE
 unfold ei;rw [hA];clear hA h hn hx ba
 by_cases h0:q.bys.length=0
 ·rw [if_pos h0];clear HE;have d0:((q.bys.length:Int) == 0)=true:=by simp [h0]
  clear h0
  show Calls _ _ _ _ fun e w'=>e=.returned (.agg #[.int .i64 0,.int .i64 0])∧_
  go_enter Tryz.func87,Tryz.ntmps87
  go_wp2_with fail;refine (null_bt _).mono ?_;rintro e w1 ⟨rfl,hb⟩;have KB:=ai B3.out hb B3.out.lt;have y0:w1.cell? ⟨W.heap.size+1+1,0,none⟩=some (.int .i64 0):=KB.c 0 (by simp);have y1:w1.cell? ⟨W.heap.size+1+1,1,none⟩=some (.int .i64 0):=KB.c 1 (by simp);have f0:=KB.fz 0;have f1:=KB.fz 1;have SB:=ay (ay KB 0 (.int .i64 0) (by simp)) 1 (.int .i64 0) (by simp);have g0:((w1.setCell ⟨W.heap.size+1+1,0,none⟩ (.int .i64 0)).setCell ⟨W.heap.size+1+1,1,none⟩ (.int .i64 0)).cell? ⟨W.heap.size+1+1,0,none⟩=some (.int .i64 0):=SB.c 0 (by simp);have g1:((w1.setCell ⟨W.heap.size+1+1,0,none⟩ (.int .i64 0)).setCell ⟨W.heap.size+1+1,1,none⟩ (.int .i64 0)).cell? ⟨W.heap.size+1+1,1,none⟩=some (.int .i64 0):=SB.c 1 (by simp);have HB:=aa (HBA.out.trans (hb.mono HBA.out.size));clear hb HBA SB KB B3;go_wp2_with fail;exact bodyPost_ret (v:=.agg #[.int .i64 0,.int .i64 0]) (by simp [results,Tryz.results87,go_sem,g0,g1]) rfl ⟨rfl,(HB.out.setCell (p:=⟨W.heap.size+1+1,0,none⟩) (by simp;omega) _).setCell (p:=⟨W.heap.size+1+1,1,none⟩) (by simp;omega) _⟩
 ·rw [if_neg h0];have d0:((q.bys.length:Int) == 0)=false:=beq_eq_false_iff_ne.2 (by omega)
  show Calls _ _ _ _ fun e w'=>e=.returned (.agg #[.int .i64 V1,.int .i64 V2])∧_
  clear h0
  go_enter Tryz.func87,Tryz.ntmps87
  go_wp2_with fail;refine HE.out.mono ?_;rintro e w1 ⟨rfl,hb⟩;have KB:=ai B3.out hb B3.out.lt;have y0:w1.cell? ⟨W.heap.size+1+1,0,none⟩=some (.int .i64 0):=KB.c 0 (by simp);have y1:w1.cell? ⟨W.heap.size+1+1,1,none⟩=some (.int .i64 0):=KB.c 1 (by simp);have f0:=KB.fz 0;have f1:=KB.fz 1;have SB:=ay (ay KB 0 (.int .i64 V1) (by simp)) 1 (.int .i64 V2) (by simp);have g0:((w1.setCell ⟨W.heap.size+1+1,0,none⟩ (.int .i64 V1)).setCell ⟨W.heap.size+1+1,1,none⟩ (.int .i64 V2)).cell? ⟨W.heap.size+1+1,0,none⟩=some (.int .i64 V1):=SB.c 0 (by simp);have g1:((w1.setCell ⟨W.heap.size+1+1,0,none⟩ (.int .i64 V1)).setCell ⟨W.heap.size+1+1,1,none⟩ (.int .i64 V2)).cell? ⟨W.heap.size+1+1,1,none⟩=some (.int .i64 V2):=SB.c 1 (by simp);have HB:=aa (HBA.out.trans (hb.mono HBA.out.size));clear hb HBA SB KB B3;go_wp2_with fail;exact bodyPost_ret (v:=.agg #[.int .i64 V1,.int .i64 V2]) (by simp [results,Tryz.results87,go_sem,g0,g1]) rfl ⟨rfl,(HB.out.setCell (p:=⟨W.heap.size+1+1,0,none⟩) (by simp;omega) _).setCell (p:=⟨W.heap.size+1+1,1,none⟩) (by simp;omega) _⟩
theorem valsof_q (va vw vb:Value) (q:Qy) (ps:List (AgQ×Value)) (x:Ev) (W:World) (h:QyG W va vw vb q ps) (h4:ps.length≤4) (hn:QyN q) (hx:∀ p∈evX x,okV p) :
  Calls Tryz.prog 88 #[qyV va vw vb q,ei x] W fun e w'=>∃ u,e=.returned u∧w'.ownsRow W.heap.size 41 2 u (valsQ q x).length (cB (valsQ q x))∧Below W.heap.size W w':=by
 obtain ⟨i0,hi,hz0,hz1,hz2⟩:=info_parts infoVv;have hlen:q.aggs.length=ps.length:=by rw [← h.qa];simp
 have hkl:(valsQ q x).length=ps.length:=by unfold valsQ;rw [List.length_map,hlen]
 rw [hkl];unfold qyV;obtain ⟨ao,cap,rfl⟩:=aq h.ag.row;obtain ⟨a2,c2,rfl⟩:=aq h.wh;obtain ⟨a3,c3,rfl⟩:=aq h.by_;have ba:=lF W (.cells #[.slice ao ps.length cap,.slice a2 q.wh.length c2,.slice a3 q.bys.length c3,.int .i64 q.size,.int .i64 q.slide,.int .i64 q.delay,.int .i64 q.late] 28) (.cells #[.int .i64 x.t,.int .i64 x.k1,.int .i64 x.k2,.int .i64 x.a1,.int .i64 x.a2,.int .i64 x.b1,.int .i64 x.b2] 43);have BQ:=ai (az W [.slice ao ps.length cap,.slice a2 q.wh.length c2,.slice a3 q.bys.length c3,.int .i64 q.size,.int .i64 q.slide,.int .i64 q.delay,.int .i64 q.late] 28) (aj (W.alloc (.cells #[.slice ao ps.length cap,.slice a2 q.wh.length c2,.slice a3 q.bys.length c3,.int .i64 q.size,.int .i64 q.slide,.int .i64 q.delay,.int .i64 q.late] 28)) (.cells #[.int .i64 x.t,.int .i64 x.k1,.int .i64 x.k2,.int .i64 x.a1,.int .i64 x.a2,.int .i64 x.b1,.int .i64 x.b2] 43)) (by simp);have BX:=az (W.alloc (.cells #[.slice ao ps.length cap,.slice a2 q.wh.length c2,.slice a3 q.bys.length c3,.int .i64 q.size,.int .i64 q.slide,.int .i64 q.delay,.int .i64 q.late] 28)) [.int .i64 x.t,.int .i64 x.k1,.int .i64 x.k2,.int .i64 x.a1,.int .i64 x.a2,.int .i64 x.b1,.int .i64 x.b2] 43;rw [show (W.alloc (.cells #[.slice ao ps.length cap,.slice a2 q.wh.length c2,.slice a3 q.bys.length c3,.int .i64 q.size,.int .i64 q.slide,.int .i64 q.delay,.int .i64 q.late] 28)).heap.size=W.heap.size+1 from by simp] at BX;have HG:=aa (bf h ba);have HQA:=aa h.qa;have HKL:=aa hkl;have HBA:=aa ba;have HN:=aa hn.ag;have HX:=aa hx;have HK:Hid (∀ m (hm:m < ps.length),(valsQ q x)[m]?=some (qH x ps[m].1)):=fun m hm=>by
  unfold valsQ;rw [← HQA.out]
  simp [hm]
 generalize valsQ q x=K at *;unfold ei;clear hlen h hkl hn hx
 go_enter Tryz.func88,Tryz.ntmps88
 go_wp2_with (at_make;go_must (refine wpList_make_full _ rfl _ _ 76 rfl W.heap.size 41 i0 (.agg #[.int .i64 0,.int .i64 0]) 2 Tryz.underlying76 hi hz0 hz1 .i64 .i64 _ _ ps.length rfl rfl rfl rfl (by rw [hz2];omega) (by show _≤2 ^ 63 - 1;omega) (by simp;omega) ?_))
 intro w1 ho hg;have hsz:((W.alloc (.cells #[.slice ao ps.length cap,.slice a2 q.wh.length c2,.slice a3 q.bys.length c3,.int .i64 q.size,.int .i64 q.slide,.int .i64 q.delay,.int .i64 q.late] 28)).alloc (.cells #[.int .i64 x.t,.int .i64 x.k1,.int .i64 x.k2,.int .i64 x.a1,.int .i64 x.a2,.int .i64 x.b1,.int .i64 x.b2] 43)).heap.size=W.heap.size+1+1:=by simp
 have hb1:Below ((W.alloc (.cells #[.slice ao ps.length cap,.slice a2 q.wh.length c2,.slice a3 q.bys.length c3,.int .i64 q.size,.int .i64 q.slide,.int .i64 q.delay,.int .i64 q.late] 28)).alloc (.cells #[.int .i64 x.t,.int .i64 x.k1,.int .i64 x.k2,.int .i64 x.a1,.int .i64 x.a2,.int .i64 x.b1,.int .i64 x.b2] 43)).heap.size ((W.alloc (.cells #[.slice ao ps.length cap,.slice a2 q.wh.length c2,.slice a3 q.bys.length c3,.int .i64 q.size,.int .i64 q.slide,.int .i64 q.delay,.int .i64 q.late] 28)).alloc (.cells #[.int .i64 x.t,.int .i64 x.k1,.int .i64 x.k2,.int .i64 x.a1,.int .i64 x.a2,.int .i64 x.b1,.int .i64 x.b2] 43)) w1:=(Below.refl _ _).grown hg (Nat.le_refl _) (fun k hk=>by cases hk);have lq:=BQ.lt;have c0:w1.cell? ⟨W.heap.size,0,none⟩=some (.slice ao ps.length cap):=(ai BQ hb1 BQ.lt).c 0 (by simp);have ho':w1.ownsRow W.heap.size 41 2 (.slice (some ⟨W.heap.size+1+1,0,none⟩) ps.length ps.length) ps.length (cB (List.replicate ps.length (0,0))):=by
  rw [← lX];exact ho
 have HO:=aa ho';have HB:=aa hb1;have HSZ:=aa hsz;have HBX:=aa BX;clear hb1 ho ho' hg ba BQ BX;go_wp2_with fail;clear c0;generalize ((W.alloc (.cells #[.slice ao ps.length cap,.slice a2 q.wh.length c2,.slice a3 q.bys.length c3,.int .i64 q.size,.int .i64 q.slide,.int .i64 q.delay,.int .i64 q.late] 28)).alloc (.cells #[.int .i64 x.t,.int .i64 x.k1,.int .i64 x.k2,.int .i64 x.a1,.int .i64 x.a2,.int .i64 x.b1,.int .i64 x.b2] 43))=w0 at *
 go_loopw [15] (fun i wr=>∃ (m:Nat) (L:List V2),m≤ps.length∧L.length=ps.length∧i=.int .i64 m∧Hid (∀ j,j < m→L[j]?=K[j]?)∧Hid (∀ j,m≤j→j < ps.length→L[j]?=some (0,0))∧Hid (wr.ownsRow W.heap.size 41 2 (.slice (some ⟨W.heap.size+1+1,0,none⟩) ps.length ps.length) ps.length (cB L))∧Hid (Below w0.heap.size w0 wr)) (fun i _=>ps.length - (intOf i).toNat)
 case atStart=>exact ⟨0,List.replicate ps.length (0,0),Nat.zero_le _,by simp,rfl,fun j hj=>absurd hj (by omega),fun j _ hj=>by simp [hj],HO,HB⟩
 case round =>
  clear HO HB;obtain ⟨m,L,hm,hL,rfl,HM,HZ,HO,HB⟩:=hrel
  by_cases hlt:m < ps.length
  ·have HGr:=aa (bf HG.out HB.out);obtain ⟨g,off,hao,hcell,q1,q2,lg⟩:=bA cU HGr.out.ag.row m hlt;subst hao;have hnd:=HGr.out.ag.nds ps[m] (List.getElem_mem hlt);have HKM:=aa (HK.out m hlt);have hna:=HN.out ps[m].1 (by rw [← HQA.out];exact List.mem_map_of_mem (List.getElem_mem hlt));generalize ps[m]=p at *;obtain ⟨⟨k,l⟩,v⟩:=p;have y0:=hcell 0 (by omega);have y1:=hcell 1 (by omega);have y0:wr.cell? ⟨g,off+m * 2,none⟩=some (.int .i64 k):=y0;have y1:wr.cell? ⟨g,off+m * 2+1,none⟩=some v:=y1;have hsh:∃ a9 n9 c9,v=.slice a9 n9 c9:=by obtain ⟨a9,c9,e9⟩:=aq hnd.1;exact ⟨_,_,_,e9⟩
   obtain ⟨a9,n9,c9,rfl⟩:=hsh;have ba2:=aj wr (.cells #[.int .i64 k,.slice a9 n9 c9] 143);have HO2:=aa (aC HO.out ba2 (Nat.le_refl _));have HB2:=aa (HB.out.trans (ba2.mono HB.out.size));have HLL:=aa hL;unfold maxLen at q2
   by_cases hk:k=1
   ·subst hk;have HV:Hid (L[m]?=K[m]?):=by
     show _=_
     rw [HKM.out,HZ.out m (Nat.le_refl _) hlt]
     rfl
    clear hcell hnd ba2 hL hna HKM;go_wp2_with fail;go_roundw
    case rel=>exact ⟨m+1,L,by omega,HLL.out,by go_num,fun j hj=>by
      by_cases h9:j=m
      ·rw [h9];exact HV.out
      ·exact HM.out j (by omega),fun j h1 h2=>HZ.out j (by omega) h2,HO2,HB2⟩
    case measure=>simp [intOf];omega
   ·have dk:(k == 1)=false:=beq_eq_false_iff_ne.2 hk;have HE:=aa (kO l (.slice a9 n9 c9) x.t x.k1 x.k2 x.a1 x.a2 x.b1 x.b2 _ hnd.2 (aA hnd.1 ba2) hna HX.out);have eV:qH x ⟨k,l⟩=evL opV (evE x.t x.k1 x.k2 x.a1 x.a2 x.b1 x.b2) l:=by unfold qH evX;rw [if_neg hk]
    rw [eV] at HKM;clear eV;unfold qx at HE;generalize evL opV (evE x.t x.k1 x.k2 x.a1 x.a2 x.b1 x.b2) l=V at *;obtain ⟨V1,V2⟩:=V;unfold iI at HE
    simp only at HE
    have BXr:=ai HBX.out HB.out HBX.out.lt;have x0:wr.cell? ⟨W.heap.size+1,0,none⟩=some (.int .i64 x.t):=BXr.c 0 (by simp);have x1:wr.cell? ⟨W.heap.size+1,1,none⟩=some (.int .i64 x.k1):=BXr.c 1 (by simp);have x2:wr.cell? ⟨W.heap.size+1,2,none⟩=some (.int .i64 x.k2):=BXr.c 2 (by simp);have x3:wr.cell? ⟨W.heap.size+1,3,none⟩=some (.int .i64 x.a1):=BXr.c 3 (by simp);have x4:wr.cell? ⟨W.heap.size+1,4,none⟩=some (.int .i64 x.a2):=BXr.c 4 (by simp);have x5:wr.cell? ⟨W.heap.size+1,5,none⟩=some (.int .i64 x.b1):=BXr.c 5 (by simp);have x6:wr.cell? ⟨W.heap.size+1,6,none⟩=some (.int .i64 x.b2):=BXr.c 6 (by simp);have lx:=BXr.lt;clear hcell hnd ba2 hL hna BXr;go_wp2_with fail;refine HE.out.mono ?_;rintro e w2 ⟨rfl,hb⟩;have HO3:=aa (aC HO2.out hb (Nat.le_refl _));have HB3:=aa (HB2.out.trans (hb.mono HB2.out.size));clear hb HO2 HB2 HO HB HE x0 x1 x2 x3 x4 x5 x6 y0 y1;have y0:=HO3.out.cellAt (m * 2) (by omega);have y1:=HO3.out.cellAt (m * 2+1) (by omega);have hrl:(cB L).length=ps.length * 2:=by rw [kC,HLL.out]
    rw [List.getElem?_eq_getElem (by omega)] at y0 y1;generalize (cB L)[m * 2]=r0 at y0;generalize (cB L)[m * 2+1]=r1 at y1;have z0:=aQ HO3.out (m * 2);have z1:=aQ HO3.out (m * 2+1);have HO4:=aa (b7 (b7 HO3.out (m * 2) (.int .i64 V1)) (m * 2+1) (.int .i64 V2));rw [mM L m (V1,V2) (by rw [HLL.out];omega)] at HO4;have HB4:=aa ((HB3.out.setCell (p:=⟨W.heap.size+1+1,m * 2,none⟩) (by rw [HSZ.out];exact Nat.le_refl _) (.int .i64 V1)).setCell (p:=⟨W.heap.size+1+1,m * 2+1,none⟩) (by rw [HSZ.out];exact Nat.le_refl _) (.int .i64 V2));clear hrl HO3 HB3;go_wp2_with fail;go_roundw
    case rel=>exact ⟨m+1,L.set m (V1,V2),by omega,by simpa using HLL.out,by go_num,fun j hj=>by
      by_cases h9:j=m
      ·subst h9;rw [List.getElem?_set_self (by rw [HLL.out];omega),HKM.out]
      ·rw [List.getElem?_set_ne (fun e=>h9 e.symm)];exact HM.out j (by omega),fun j h1 h2=>by
      rw [List.getElem?_set_ne (by omega)];exact HZ.out j (by omega) h2,HO4,HB4⟩
    case measure=>simp [intOf];omega
  ·have hme:m=ps.length:=by omega
   subst hme;have e:L=K:=pL (by rw [HKL.out];exact hL) (fun j hj=>HM.out j (by rw [HKL.out] at hj;exact hj));subst e;go_wp2_with fail
   go_ret
   exact ⟨_,rfl,HO.out,HBA.out.trans (HB.out.mono HBA.out.size)⟩
end Go.Proofs.YtcgjflamgnjhcaaGreatDoor
