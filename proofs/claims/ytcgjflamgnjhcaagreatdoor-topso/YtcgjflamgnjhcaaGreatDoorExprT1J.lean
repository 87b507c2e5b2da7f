/- Own texts in one. Conditions: as named in each. -/
import Derived.Test.YtcgjflamgnjhcaaGreatDoorExpr1J
import Derived.Test.YtcgjflamgnjhcaaGreatDoorPrsKJ
set_option linter.unusedVariables false
set_option linter.unusedSimpArgs false
set_option maxRecDepth 100000
set_option maxHeartbeats 8000000
namespace Go.Proofs.YtcgjflamgnjhcaaGreatDoor
open Go.ChangeShapes Go.WideShapes Go.ChangeAt Go.RowKit
theorem goes_any (op k:Int) (w:World) :
  Calls Tryz.prog 186 #[.int .i64 op,.int .i64 k] w fun e w'=>e=.returned (.bool (goes op k))∧w'=w:=by
 by_cases h4:op=4∨op=9∨op=10
 ·have e:goes op k=!(k == 1):=by unfold goes;rw [if_pos h4]
  rw [e]
  rcases h4 with rfl | rfl | rfl
  all_goals
   clear e
   go_enter Tryz.func186,Tryz.ntmps186
   go_wp2
   go_ret
   exact ⟨rfl,rfl⟩
 ·by_cases h5:op=5
  ·have e:goes op k=true:=by unfold goes;rw [if_neg h4,if_pos h5]
   rw [e];subst h5;clear e h4
   go_enter Tryz.func186,Tryz.ntmps186
   go_wp2
   go_ret
   exact ⟨rfl,rfl⟩
  ·have e:goes op k=!(k == 2):=by unfold goes;rw [if_neg h4,if_neg h5]
   rw [e];have g4:(op == 4)=false:=by simp;omega
   have g9:(op == 9)=false:=by simp;omega
   have g10:(op == 10)=false:=by simp;omega
   have g5:(op == 5)=false:=by simp;omega
   clear e h4 h5
   go_enter Tryz.func186,Tryz.ntmps186
   go_wp2
   go_ret
   exact ⟨rfl,rfl⟩
theorem kindOf_any (n:Nd) (w:World) :
  Calls Tryz.prog 174 #[fT n] w fun e w'=>e=.returned (.int .i64 (kindN n))∧Below w.heap.size w w':=by
 obtain ⟨op,x,y,nn,k,v⟩:=n;unfold fT
 simp only
 have H0:Hid (Below w.heap.size w (w.alloc (.cells #[.int .i64 op,.int .i64 x,.int .i64 y,.int .i64 nn,.int .i64 k,.int .i64 v] 153))):=(Below.refl _ _).alloc (Nat.le_refl _) _
 by_cases h1:op=1
 ·have e:kindN ⟨op,x,y,nn,k,v⟩=k:=by unfold kindN;rw [if_pos h1]
  rw [e];have g1:(op == 1)=true:=by simp [h1]
  clear h1 e
  go_enter Tryz.func174,Tryz.ntmps174
  go_wp2
  go_ret
  exact ⟨rfl,H0.out⟩
 ·have g1:(op == 1)=false:=by simp [h1]
  by_cases h2:op=4∨op=5∨op=9∨op=10∨op=11∨op=12
  ·have e:kindN ⟨op,x,y,nn,k,v⟩=2:=by unfold kindN;rw [if_neg h1,if_pos h2]
   rw [e];clear h1 g1 e
   rcases h2 with rfl | rfl | rfl | rfl | rfl | rfl
   all_goals
    go_enter Tryz.func174,Tryz.ntmps174
    go_wp2
    go_ret
    exact ⟨rfl,H0.out⟩
  ·have e:kindN ⟨op,x,y,nn,k,v⟩=1:=by unfold kindN;rw [if_neg h1,if_neg h2]
   rw [e];have g4:(op == 4)=false:=by simp;omega
   have g5:(op == 5)=false:=by simp;omega
   have g9:(op == 9)=false:=by simp;omega
   have g10:(op == 10)=false:=by simp;omega
   have g11:(op == 11)=false:=by simp;omega
   have g12:(op == 12)=false:=by simp;omega
   clear h1 h2 e
   go_enter Tryz.func174,Tryz.ntmps174
   go_wp2
   go_ret
   exact ⟨rfl,H0.out⟩
def qq (op:Int) (ks:List Int):List Int→Bool
 | []=>true
 | p :: ps=>if od op ks p then qq op ks ps else false
theorem fitS_is (n:Nd) (ks:List Int):qq n.op ks (partsN n)=qH n ks:=by
 unfold partsN qH
 by_cases h1:ar n.op=1
 ·rw [if_pos h1,if_pos h1];simp only [qq];cases od n.op ks n.x <;> rfl
 ·rw [if_neg h1,if_neg h1]
  by_cases h2:ar n.op=2
  ·rw [if_pos h2,if_pos h2];simp only [qq];cases od n.op ks n.y <;> cases od n.op ks n.x <;> rfl
  ·rw [if_neg h2,if_neg h2]
   rfl
theorem partsFit_any (n:Nd) (ks:List Int) (v:Value) (w:World) (hl:ks.length≤1000) (hr:bK w v 1 ks.length (ks.map (Value.int .i64))) :
  Calls Tryz.prog 173 #[fT n,v] w fun e w'=>e=.returned (.bool (qH n ks))∧Below w.heap.size w w':=by
 obtain ⟨ao,cap,rfl⟩:=am hr;have HR:=aa hr;clear hr;rw [← fitS_is];have H0:Hid (Below w.heap.size w (w.alloc (.cells #[.int .i64 n.op,.int .i64 n.x,.int .i64 n.y,.int .i64 n.n,.int .i64 n.k,.int .i64 n.v] 153))):=(Below.refl _ _).alloc (Nat.le_refl _) _;have HL:=aa (gl n (w.alloc (.cells #[.int .i64 n.op,.int .i64 n.x,.int .i64 n.y,.int .i64 n.n,.int .i64 n.k,.int .i64 n.v] 153)));have h2:(partsN n).length≤2:=by unfold partsN;(repeat' split);all_goals simp
 unfold fT at HL ⊢;generalize hT:qq n.op ks (partsN n)=T;have HT:=aa hT;clear hT;generalize partsN n=ps at *
 go_enter Tryz.func173,Tryz.ntmps173
 go_wp2_with fail;refine HL.out.mono ?_;rintro e w1 ⟨u,rfl,hr,hb⟩;obtain ⟨ao1,cap1,rfl⟩:=am hr;have HB0:=aa hb;have HB:=aa (H0.out.trans (hb.mono H0.out.size));have HR:=aa (aA HR.out HB.out);have HP:=aa hr;have hop:w1.cell? ⟨w.heap.size,0,none⟩=some (.int .i64 n.op):=by rw [hb.cell (p:=⟨w.heap.size,0,none⟩) (by simp)];go_simp
 clear hr hb HL H0;go_wp2_with fail;have kn:=bJ w1;obtain ⟨kc,kf⟩:=bB w1;have hsw:w.heap.size < w1.heap.size:=by
  have:=HB0.out.size
  simp only [World.size_alloc] at this;omega
 go_loopw [10] (fun i wr=>∃ m:Nat,m≤ps.length∧i=.int .i64 m∧Hid (Below w1.heap.size w1 wr)∧Hid (qq n.op ks (ps.drop m)=T)) (fun i _=>ps.length - (intOf i).toNat)
 case atStart=>exact ⟨0,Nat.zero_le _,rfl,Below.refl _ _,HT⟩
 case round =>
  clear HT;obtain ⟨m,hm,rfl,HBr,HS⟩:=hrel;obtain ⟨hc,hf'⟩:=rules HBr
  by_cases hlt:m < ps.length
  ·obtain ⟨g,off,x,rfl,hx,cx,l1,l2,l3⟩:=cL HP.out m hlt;rw [List.getElem?_map,List.getElem?_eq_getElem hlt] at hx;simp only [Option.map_some,Option.some.injEq] at hx;subst hx;have hS:=HS.out;rw [List.drop_eq_getElem_cons hlt] at hS;generalize ps[m]=p at *;simp only [qq] at hS;unfold maxLen at l2
   by_cases h0:p < 0
   ·have e:T=false:=by rw [← hS];unfold od;rw [if_pos (Or.inl h0)];rfl
    subst e;clear hS HS;go_wp2_with fail;refine aE HBr (by kernel_rfl) (by kernel_rfl) ?_
    repeat (go_big_quiet_step (fail))
    refine wpQuiet_nil ?_;rintro _ ⟨pk,rfl⟩;have HBr:Hid _:=pk.h;go_wp2_with fail
    go_ret
    exact ⟨rfl,done HB.out HBr⟩
   ·by_cases h1:(ks.length:Int)≤p
    ·have e:T=false:=by rw [← hS];unfold od;rw [if_pos (Or.inr h1)];rfl
     subst e;have z0:decide (p < 0)=false:=by simpa using h0
     clear hS HS h0;go_wp2_with fail;refine aE HBr (by kernel_rfl) (by kernel_rfl) ?_
     repeat (go_big_quiet_step (fail))
     refine wpQuiet_nil ?_;rintro _ ⟨pk,rfl⟩;have HBr:Hid _:=pk.h;go_wp2_with fail
     go_ret
     exact ⟨rfl,done HB.out HBr⟩
    ·obtain ⟨d,rfl⟩:∃ d:Nat,p=(d:Int):=⟨p.toNat,by omega⟩;have hd:d < ks.length:=by omega
     obtain ⟨g2,off2,x2,rfl,hx2,cx2,l12,l22,l32⟩:=cL HR.out d hd;rw [List.getElem?_map,List.getElem?_eq_getElem hd] at hx2;simp only [Option.map_some,Option.some.injEq] at hx2;subst hx2;have hf:od n.op ks (d:Int)=goes n.op ks[d]:=by
      unfold od;rw [if_neg (by omega),List.getD_eq_getElem?_getD,Int.toNat_natCast,List.getElem?_eq_getElem hd];rfl
     rw [hf] at hS;generalize ks[d]=q at *;unfold maxLen at l22;have HG:=aa (fun w=>goes_any n.op q w);have z0:decide ((d:Int) < 0)=false:=by simp
     have z1:decide (ks.length≤d)=false:=by simp;omega
     have z2:decide ((ks.length:Int)≤(d:Int))=false:=by simp;omega
     clear hf h0 h1;cases hg:goes n.op q
     ·rw [hg] at hS HG;simp only [Bool.false_eq_true,if_false] at hS;subst hS;clear hg HS;go_wp2_with fail;refine aE HBr (by kernel_rfl) (by kernel_rfl) ?_
      repeat (go_big_quiet_step ((go_at_call 186;exact nB (HG.out _))))
      refine wpQuiet_nil ?_;rintro _ ⟨pk,rfl⟩;have HBr:Hid _:=pk.h;go_wp2_with fail
      go_ret
      exact ⟨rfl,done HB.out HBr⟩
     ·rw [hg] at hS HG;simp only [if_true] at hS;have HS:=aa hS;clear hg hS;go_wp2_with fail;refine aE HBr (by kernel_rfl) (by kernel_rfl) ?_
      repeat (go_big_quiet_step ((go_at_call 186;exact nB (HG.out _))))
      refine wpQuiet_nil ?_;rintro _ ⟨pk,rfl⟩;have HBr:Hid _:=pk.h;go_wp2_with fail;go_roundw
      case rel=>exact ⟨m+1,by omega,by go_num,HBr,HS⟩
      case measure=>simp [intOf];omega
  ·have e:T=true:=by
    have:=HS.out
    rw [List.drop_eq_nil_of_le (by omega)] at this;exact this.symm
   subst e;go_wp2_with fail
   go_ret
   exact ⟨rfl,done HB.out HBr⟩
def tyO (n:Nat):Option (List Int)→V2
 | none=>(0,3)
 | some ks=>(ks.getD (n - 1) 0,0)
theorem type_any (l:List Nd) (v:Value) (w:World) (hl:l.length≤1000) (hr:bK w v 6 l.length (f9 l)) :
  Calls Tryz.prog 157 #[v] w fun e w'=>e=.returned (.tuple #[.int .i64 (tyE l).1,errC (tyE l).2])∧Below w.heap.size w w':=by
 obtain ⟨ao,cap,rfl⟩:=am hr;obtain ⟨i0,hi,hz0,hz1,hz2⟩:=info_parts infoI;have HR:=aa hr;clear hr
 by_cases h0:l.length=0
 ·have e:tyE l=(0,3):=by unfold tyE;rw [if_pos h0]
  rw [e];have z:((l.length:Int) == 0)=true:=by simp [h0]
  clear e h0
  go_enter Tryz.func157,Tryz.ntmps157
  go_wp2_with fail
  go_ret2
  exact ⟨rfl,Below.refl _ _⟩
 ·have z:((l.length:Int) == 0)=false:=by rw [beq_eq_false_iff_ne];omega
  have hT:tyE l=tyO l.length (tyF l []):=by
   unfold tyE;rw [if_neg h0];cases tyF l [] <;> rfl
  rw [hT];clear hT;generalize hF:tyF l []=T;have HF:=aa hF;clear hF
  go_enter Tryz.func157,Tryz.ntmps157
  go_wp2_with (at_make;go_must (refine wpList_make_own _ rfl _ _ 56 rfl w.heap.size 3 i0 (.int .i64 0) 1 Tryz.underlying56 hi hz0 hz1 .i64 .i64 _ l.length rfl rfl rfl (by rw [hz2];omega) (by show _≤2 ^ 63 - 1;omega) (Nat.le_refl _) ?_))
  intro w0 ho0 hg0;have HB0:Hid (Below w.heap.size w w0):=(Below.refl _ _).grown hg0 (Nat.le_refl _) (fun k hk=>by cases hk);have HO0:=aa ho0;clear ho0 hg0;go_wp2_with fail
  go_loopw [4,16] (fun v i wr=>∃ (m:Nat) (ks:List Int),m≤l.length∧ks.length=m∧i=.int .i64 m∧Hid (wr.ownsRow w.heap.size 3 1 v ks.length (ks.map (Value.int .i64)))∧Hid (Below w.heap.size w wr)∧Hid (tyF (l.drop m) ks=T)) (fun _ i _=>l.length - (intOf i).toNat)
  case atStart=>exact ⟨0,[],Nat.zero_le _,rfl,rfl,HO0,HB0,HF⟩
  case round =>
   clear HF HB0 HO0;obtain ⟨m,ks,hm,rfl,rfl,HO,HB,HS⟩:=hrel;obtain ⟨ao2,cap2,rfl⟩:=ax HO.out
   by_cases hlt:ks.length < l.length
   ·obtain ⟨g,off,rfl,hnode,l1,l2,l3⟩:=gD HR.out _ hlt;have hS:=HS.out;rw [List.drop_eq_getElem_cons hlt] at hS;generalize l[ks.length]=nd at *;obtain ⟨n0,n1,n2,n3,n4,n5⟩:=ez hnode HB.out l3;clear hnode;unfold maxLen at l2;simp only [tyF] at hS;go_wp2_with fail;refine (partsFit_any nd ks _ _ (by omega) (aD (HO.out.alloc _))).mono ?_;rintro e w1 ⟨rfl,hb1⟩;have HB1:=nxt (nxta HB (.cells #[.int .i64 nd.op,.int .i64 nd.x,.int .i64 nd.y,.int .i64 nd.n,.int .i64 nd.k,.int .i64 nd.v] 153)) hb1;have HO1:=aa (aB (HO.out.alloc _) hb1 (Nat.le_refl _));obtain ⟨hc1,hf1⟩:=bcell hb1;clear hb1;cases hfit:qH nd ks
    ·rw [hfit] at hS;simp only [Bool.false_eq_true,if_false] at hS;subst hS;clear hfit HS;go_wp2_with fail
     go_ret2
     exact ⟨rfl,HB1.out⟩
    ·rw [hfit] at hS;simp only [if_true] at hS;have HS2:Hid (tyF (List.drop (ks.length+1) l) (ks++[kindN nd])=T):=hS;clear hS hfit HS;go_wp2_with fail;refine (kindOf_any nd _).mono ?_;rintro e w2 ⟨rfl,hb2⟩;have HB2:=nxt HB1 hb2;have HO2:=aa (aB HO1.out hb2 (Nat.le_refl _));clear hb2 hc1 hf1;generalize kindN nd=q at *
     go_wp2_with (at_builtin;go_must (refine wpList_append_own _ rfl (.tmp 25) (.tmp 28) 56 rfl w.heap.size 3 i0 (.int .i64 0) 1 8 Tryz.underlying56 hi hz0 hz1 hz2 rfl (by decide) _ _ _ rfl (HO2.out.alloc _) ⟨w2.heap.size,0,none⟩ 1 1 [.int .i64 q] rfl rfl (fg _ _ _) (by intro u hu;simp at hu;subst hu;rfl) (by show _≤2 ^ 63 - 1;omega) (by omega) (by have:=HB2.out.size;simp;omega) ?_))
     intro v' w3 ho3 hg3 _;have ho4:w3.ownsRow w.heap.size 3 1 v' (ks++[q]).length ((ks++[q]).map (Value.int .i64)):=by simpa using ho3
     have HO3:=aa ho4;have HB3:Hid (Below w.heap.size w w3):=(HB2.out.alloc HB2.out.size _).grown hg3 (by have:=HB2.out.size;simp;omega) (fun k hk=>(HO2.out.lt k hk).1);clear ho3 hg3 ho4;go_wp2_with fail;go_roundw
     case rel=>exact ⟨ks.length+1,ks++[q],by omega,by simp,by go_num,HO3,HB3,HS2⟩
     case measure=>simp [intOf];omega
   ·have hS:=HS.out;rw [List.drop_eq_nil_of_le (by omega)] at hS;simp only [tyF] at hS;subst hS;obtain ⟨d,hd⟩:∃ d,l.length=d+1:=⟨l.length - 1,by omega⟩;have hdb:d < ks.length:=by omega
    obtain ⟨g2,off2,x2,rfl,hx2,cx2,l12,l22,l32⟩:=cL (aD HO.out) d hdb;rw [List.getElem?_map,List.getElem?_eq_getElem hdb] at hx2;simp only [Option.map_some,Option.some.injEq] at hx2;subst hx2;have HX:Hid (tyO l.length (some ks)=(ks[d],0)):=by
     show _=_
     show ((ks.getD (l.length - 1) 0:Int),(0:Int))=_
     rw [hd,Nat.add_sub_cancel,List.getD_eq_getElem?_getD,List.getElem?_eq_getElem hdb];rfl
    have hd2:ks.length=d+1:=by omega
    generalize ks[d]=q at *;unfold maxLen at l22;clear HS h0;go_wp2_with fail
    go_ret2
    exact ⟨by rw [HX.out];rfl,HB.out⟩
theorem errC_0:errC 0=.nilIface:=rfl
theorem bR {e:Int} (h:e≠0):errC e=.iface 93 (.int .i64 e):=by unfold errC;rw [if_neg h]
def lu (w:World) (v:Value) (l:List Nd):Prop:=bK w v 6 l.length (f9 l)
theorem bH {w w':World} {v:Value} {l:List Nd} (h:lu w v l) (hb:Below w.heap.size w w'):lu w' v l:=aA h hb
theorem iX (l:List Nd) (v:Value) (w:World) (hl:l.length≤1000) (hr:lu w v l) :
  Calls Tryz.prog 121 #[v] w fun e w'=>e=.returned (.tuple #[.int .i64 (cP l).1,errC (cP l).2])∧Below w.heap.size w w':=by
 have CK:=check_any l v w hl hr;have TY:=aa (fun w' (hb:Below w.heap.size w w')=>type_any l v w' hl (aA hr hb));obtain ⟨ao,cap,rfl⟩:=am hr
 by_cases h:kt l=0
 ·have e:cP l=tyE l:=by unfold cP;rw [if_neg (by simp [h])]
  rw [h,errC_0] at CK;rw [e];have CKH:=aa CK;generalize errC (tyE l).2=ev at *;clear hr CK h e
  go_enter Tryz.func121,Tryz.ntmps121
  go_wp2_with fail;refine CKH.out.mono ?_;rintro r w1 ⟨rfl,hb⟩;have T1:=aa (TY.out w1 hb);have B1:=aa hb;clear hb CKH TY;go_wp2_with fail;refine T1.out.mono ?_;rintro r w2 ⟨rfl,hb⟩;have B2:=aa (B1.out.trans (hb.mono B1.out.size));clear hb T1;go_wp2_with fail
  go_ret2
  exact ⟨rfl,B2.out⟩
 ·have e:cP l=(0,kt l):=by unfold cP;rw [if_pos h]
  rw [bR h] at CK;rw [e]
  show Calls _ _ _ _ fun e w'=>e=.returned (.tuple #[.int .i64 0,errC (kt l)])∧_
  rw [bR h];have CKH:=aa CK;clear hr CK h e TY
  go_enter Tryz.func121,Tryz.ntmps121
  go_wp2_with fail;refine CKH.out.mono ?_;rintro r w1 ⟨rfl,hb⟩;have B1:=aa hb;clear hb CKH;go_wp2_with fail
  go_ret2
  exact ⟨rfl,B1.out⟩
theorem checkBy_any (l:List Nd) (v:Value) (w:World) (hl:l.length≤1000) (hr:lu w v l) :
  Calls Tryz.prog 80 #[v] w fun e w'=>e=.returned (errC (chkB l))∧Below w.heap.size w w':=by
 have KO:=aa (iX l v w hl hr);obtain ⟨ao,cap,rfl⟩:=am hr
 by_cases h:l.length=0
 ·have e:chkB l=0:=by unfold chkB;rw [if_pos h]
  rw [e,errC_0];rw [h] at *;clear hr KO h e
  go_enter Tryz.func80,Tryz.ntmps80
  go_wp2_with fail
  go_ret
  exact ⟨rfl,Below.refl _ _⟩
 ·have e:chkB l=(cP l).2:=by unfold chkB;rw [if_neg h]
  rw [e];have h0:((l.length:Int) == 0)=false:=beq_eq_false_iff_ne.2 (by omega);have h1:¬ (l.length:Int)=0:=by omega
  generalize errC (cP l).2=ev at *;clear hr h e
  go_enter Tryz.func80,Tryz.ntmps80
  go_wp2_with fail;refine KO.out.mono ?_;rintro r w1 ⟨rfl,hb⟩;have B1:=aa hb;clear hb KO;go_wp2_with fail
  go_ret
  exact ⟨rfl,B1.out⟩
theorem checkWhere_any (l:List Nd) (v:Value) (w:World) (hl:l.length≤1000) (hr:lu w v l) :
  Calls Tryz.prog 79 #[v] w fun e w'=>e=.returned (errC (chkW l))∧Below w.heap.size w w':=by
 have KO:=iX l v w hl hr;obtain ⟨ao,cap,rfl⟩:=am hr
 by_cases h:l.length=0
 ·have e:chkW l=0:=by unfold chkW;rw [if_pos h]
  rw [e,errC_0];rw [h] at *;clear hr KO h e
  go_enter Tryz.func79,Tryz.ntmps79
  go_wp2_with fail
  go_ret
  exact ⟨rfl,Below.refl _ _⟩
 ·have h0:((l.length:Int) == 0)=false:=beq_eq_false_iff_ne.2 (by omega);have h1:¬ (l.length:Int)=0:=by omega
  by_cases hk:(cP l).2=0
  ·rw [hk,errC_0] at KO;have KOH:=aa KO
   by_cases h2:(cP l).1=1
   ·have e:chkW l=3:=by unfold chkW;rw [if_neg h,if_neg (by simp [hk]),if_pos h2]
    rw [e,bR (by decide)];rw [h2] at KOH;clear hr h e KO hk h2
    go_enter Tryz.func79,Tryz.ntmps79
    go_wp2_with fail;refine KOH.out.mono ?_;rintro r w1 ⟨rfl,hb⟩;have B1:=aa hb;clear hb KOH;go_wp2_with fail
    go_ret
    exact ⟨rfl,B1.out⟩
   ·have e:chkW l=0:=by unfold chkW;rw [if_neg h,if_neg (by simp [hk]),if_neg h2]
    rw [e,errC_0];have h3:((cP l).1 == 1)=false:=by simpa using h2
    generalize (cP l).1=k at *;clear hr h e KO hk
    go_enter Tryz.func79,Tryz.ntmps79
    go_wp2_with fail;refine KOH.out.mono ?_;rintro r w1 ⟨rfl,hb⟩;have B1:=aa hb;clear hb KOH;go_wp2_with fail
    go_ret
    exact ⟨rfl,B1.out⟩
  ·have e:chkW l=(cP l).2:=by unfold chkW;rw [if_neg h,if_pos hk]
   rw [e,bR hk];rw [bR hk] at KO;have KOH:=aa KO;clear hr h e KO hk;generalize (cP l).1=k at *;generalize (cP l).2=c at *
   go_enter Tryz.func79,Tryz.ntmps79
   go_wp2_with fail;refine KOH.out.mono ?_;rintro r w1 ⟨rfl,hb⟩;have B1:=aa hb;clear hb KOH;go_wp2_with fail
   go_ret
   exact ⟨rfl,B1.out⟩
theorem checkAgg_any (a:AgQ) (v:Value) (w:World) (hl:a.of.length≤1000) (hr:lu w v a.of) :
  Calls Tryz.prog 78 #[.agg #[.int .i64 a.kind,v]] w fun e w'=>e=.returned (errC (chkA a))∧Below w.heap.size w w':=by
 obtain ⟨k,l⟩:=a
 simp only at hl hr ⊢
 obtain ⟨ao,cap,rfl⟩:=am hr;have ba:=aj w (.cells #[.int .i64 k,.slice ao l.length cap] 143);have BA:=aa ba;have KO:=iX l _ _ hl (bH hr ba)
 by_cases h0:k < 1∨5 < k
 ·have e:chkA ⟨k,l⟩=3:=by unfold chkA;rw [if_pos h0]
  rw [e,bR (by decide)];clear hr ba KO e
  by_cases h1:k < 1
  ·clear h0
   go_enter Tryz.func78,Tryz.ntmps78
   go_wp2_with fail
   go_ret
   exact ⟨rfl,BA.out⟩
  ·have h2:5 < k:=by omega
   clear h0
   go_enter Tryz.func78,Tryz.ntmps78
   go_wp2_with fail
   go_ret
   exact ⟨rfl,BA.out⟩
 ·have h1:¬ k < 1:=by omega
  have h2:¬ 5 < k:=by omega
  by_cases hk1:k=1
  ·subst hk1
   by_cases hz:0 < l.length
   ·have e:chkA ⟨1,l⟩=3:=by unfold chkA;rw [if_neg h0,if_pos rfl,if_pos hz]
    rw [e,bR (by decide)];have h3:(0:Int) < (l.length:Int):=by omega
    clear hr ba KO e h0 h1 h2 hz
    go_enter Tryz.func78,Tryz.ntmps78
    go_wp2_with fail
    go_ret
    exact ⟨rfl,BA.out⟩
   ·have e:chkA ⟨1,l⟩=0:=by unfold chkA;rw [if_neg h0,if_pos rfl,if_neg hz]
    rw [e,errC_0];have h3:l.length=0:=by omega
    rw [h3] at *;clear hr ba KO e h0 h1 h2 hz
    go_enter Tryz.func78,Tryz.ntmps78
    go_wp2_with fail
    go_ret
    exact ⟨rfl,aj _ _⟩
  ·have hk1':(k == 1)=false:=by simpa using hk1
   by_cases hk:(cP l).2=0
   ·rw [hk,errC_0] at KO
    by_cases h4:(cP l).1=2
    ·rw [h4] at KO;have KOH:=aa KO
     by_cases h5:k=2
     ·have e:chkA ⟨k,l⟩=0:=by unfold chkA;rw [if_neg h0,if_neg hk1,if_neg (by simp [hk]),if_neg (by simp [h5])]
      rw [e,errC_0];subst h5;clear hr ba KO e h0 h4 hk h1 h2 hk1
      go_enter Tryz.func78,Tryz.ntmps78
      go_wp2_with fail;refine KOH.out.mono ?_;rintro r w1 ⟨rfl,hb⟩;have B1:=aa (BA.out.trans (hb.mono BA.out.size));have c0:=hb.cell (p:=⟨w.heap.size,0,none⟩) (by simp);clear hb KOH;go_wp2_with fail
      go_ret
      exact ⟨rfl,B1.out⟩
     ·have e:chkA ⟨k,l⟩=3:=by unfold chkA;rw [if_neg h0,if_neg hk1,if_neg (by simp [hk]),if_pos ⟨h4,h5⟩]
      rw [e,bR (by decide)];have h5':(k != 2)=true:=by simpa using h5
      clear hr ba KO e h0 h4 hk hk1
      go_enter Tryz.func78,Tryz.ntmps78
      go_wp2_with fail;refine KOH.out.mono ?_;rintro r w1 ⟨rfl,hb⟩;have B1:=aa (BA.out.trans (hb.mono BA.out.size));have c0:=hb.cell (p:=⟨w.heap.size,0,none⟩) (by simp);clear hb KOH;go_wp2_with fail
      go_ret
      exact ⟨rfl,B1.out⟩
    ·have e:chkA ⟨k,l⟩=0:=by unfold chkA;rw [if_neg h0,if_neg hk1,if_neg (by simp [hk]),if_neg (by simp [h4])]
     rw [e,errC_0];have h4':((cP l).1 == 2)=false:=by simpa using h4
     have KOH:=aa KO;generalize (cP l).1=c at *;clear hr ba KO e h0 hk hk1
     go_enter Tryz.func78,Tryz.ntmps78
     go_wp2_with fail;refine KOH.out.mono ?_;rintro r w1 ⟨rfl,hb⟩;have B1:=aa (BA.out.trans (hb.mono BA.out.size));clear hb KOH;go_wp2_with fail
     go_ret
     exact ⟨rfl,B1.out⟩
   ·have e:chkA ⟨k,l⟩=(cP l).2:=by unfold chkA;rw [if_neg h0,if_neg hk1,if_pos hk]
    rw [e,bR hk];rw [bR hk] at KO;have KOH:=aa KO;clear hr ba KO e h0 hk hk1;generalize (cP l).1=c at *;generalize (cP l).2=c2 at *
    go_enter Tryz.func78,Tryz.ntmps78
    go_wp2_with fail;refine KOH.out.mono ?_;rintro r w1 ⟨rfl,hb⟩;have B1:=aa (BA.out.trans (hb.mono BA.out.size));clear hb KOH;go_wp2_with fail
    go_ret
    exact ⟨rfl,B1.out⟩
theorem checkWindow_any (va vw vb:Value) (hva:isSl va=true) (hvw:isSl vw=true) (hvb:isSl vb=true) (q:Qy) (w:World) :
  Calls Tryz.prog 81 #[.agg #[va,vw,vb,.int .i64 q.size,.int .i64 q.slide,.int .i64 q.delay,.int .i64 q.late]] w fun e w'=>e=.returned (errC (p7 q))∧Below w.heap.size w w':=by
 obtain ⟨a1,n1,c1,rfl⟩:=bU hva;obtain ⟨a2,n2,c2,rfl⟩:=bU hvw;obtain ⟨a3,n3,c3,rfl⟩:=bU hvb;obtain ⟨aggs,wh,bys,s,l,d,t⟩:=q
 simp only
 have BA:=aa (aj w (.cells #[.slice a1 n1 c1,.slice a2 n2 c2,.slice a3 n3 c3,.int .i64 s,.int .i64 l,.int .i64 d,.int .i64 t] 28));have i0:∀ a b w,(Instr.index 187 (.agg #[.int .i64 a,.int .i64 b]) (.int .i64 0)).run Tryz.prog w=.ok (.int .i64 a) w:=fun _ _ _=>by kernel_rfl
 have i1:∀ a b w,(Instr.index 187 (.agg #[.int .i64 a,.int .i64 b]) (.int .i64 1)).run Tryz.prog w=.ok (.int .i64 b) w:=fun _ _ _=>by kernel_rfl
 generalize hc:p7 ⟨aggs,wh,bys,s,l,d,t⟩=c;have HB:Hid ((s < 1∨1000 < s∨l < 1∨1000 < l∨d < 0∨1000 < d∨t < 0∨1000 < t)→c=1):=fun h=>by rw [← hc];unfold p7;rw [if_pos h]
 have HC:Hid (¬ (s < 1∨1000 < s∨l < 1∨1000 < l∨d < 0∨1000 < d∨t < 0∨1000 < t)→(s < l∨4 * l < s)→c=3):=fun h h2=>by rw [← hc];unfold p7;rw [if_neg h,if_pos h2]
 have HD:Hid (¬ (s < 1∨1000 < s∨l < 1∨1000 < l∨d < 0∨1000 < d∨t < 0∨1000 < t)→¬ (s < l∨4 * l < s)→c=0):=fun h h2=>by rw [← hc];unfold p7;rw [if_neg h,if_neg h2]
 clear hc hva hvw hvb
 go_enter Tryz.func81,Tryz.ntmps81
 go_wp2_with fail
 go_loop [12] (fun i=>∃ j:Nat,j≤2∧i=.int .i64 j∧(1≤j→1≤s∧s≤1000)∧(2≤j→1≤l∧l≤1000)) (fun i=>4 - (intOf i).toNat)
 case atStart=>exact ⟨0,by omega,rfl,by omega,by omega⟩
 case round =>
  obtain ⟨j,hj,rfl,hs,hl⟩:=hrel;have jj:j=0∨j=1∨j=2:=by omega
  rcases jj with rfl | rfl | rfl
  ·clear hs hl hj
   by_cases h1:s < 1
   ·have e:c=1:=HB.out (by omega);subst e;go_wp2_with fail
    go_ret
    exact ⟨rfl,BA.out⟩
   ·by_cases h2:1000 < s
    ·have e:c=1:=HB.out (by omega);subst e;go_wp2_with fail
     go_ret
     exact ⟨rfl,BA.out⟩
    ·go_wp2_with fail
     go_round
     case rel=>exact ⟨1,by omega,rfl,by omega,by omega⟩
     case measure=>simp [intOf]
  ·have hs:=hs (Nat.le_refl _);clear hl hj
   by_cases h1:l < 1
   ·have e:c=1:=HB.out (by omega);subst e;go_wp2_with fail
    go_ret
    exact ⟨rfl,BA.out⟩
   ·by_cases h2:1000 < l
    ·have e:c=1:=HB.out (by omega);subst e;go_wp2_with fail
     go_ret
     exact ⟨rfl,BA.out⟩
    ·go_wp2_with fail
     go_round
     case rel=>exact ⟨2,by omega,rfl,by omega,by omega⟩
     case measure=>simp [intOf]
  ·have hs:=hs (by omega);have hl:=hl (Nat.le_refl _);clear hj;go_wp2_with fail
   go_loop [28] (fun i=>∃ j:Nat,j≤2∧i=.int .i64 j∧(1≤j→0≤d∧d≤1000)∧(2≤j→0≤t∧t≤1000)) (fun i=>4 - (intOf i).toNat)
   case atStart=>exact ⟨0,by omega,rfl,by omega,by omega⟩
   case round =>
    obtain ⟨j,hj,rfl,hd,ht⟩:=hrel;have jj:j=0∨j=1∨j=2:=by omega
    rcases jj with rfl | rfl | rfl
    ·clear hd ht hj
     by_cases h1:d < 0
     ·have e:c=1:=HB.out (by omega);subst e;go_wp2_with fail
      go_ret
      exact ⟨rfl,BA.out⟩
     ·by_cases h2:1000 < d
      ·have e:c=1:=HB.out (by omega);subst e;go_wp2_with fail
       go_ret
       exact ⟨rfl,BA.out⟩
      ·go_wp2_with fail
       go_round
       case rel=>exact ⟨1,by omega,rfl,by omega,by omega⟩
       case measure=>simp [intOf]
    ·have hd:=hd (Nat.le_refl _);clear ht hj
     by_cases h1:t < 0
     ·have e:c=1:=HB.out (by omega);subst e;go_wp2_with fail
      go_ret
      exact ⟨rfl,BA.out⟩
     ·by_cases h2:1000 < t
      ·have e:c=1:=HB.out (by omega);subst e;go_wp2_with fail
       go_ret
       exact ⟨rfl,BA.out⟩
      ·go_wp2_with fail
       go_round
       case rel=>exact ⟨2,by omega,rfl,by omega,by omega⟩
       case measure=>simp [intOf]
    ·have hd:=hd (by omega);have ht:=ht (Nat.le_refl _);have hg:¬ (s < 1∨1000 < s∨l < 1∨1000 < l∨d < 0∨1000 < d∨t < 0∨1000 < t):=by omega
     clear hj;have wr:IntKind.i64.wrap (4 * l)=4 * l:=ju _ (by omega) (by omega)
     by_cases h1:s < l
     ·have e:c=3:=HC.out hg (.inl h1);subst e;clear hg;go_wp2_with fail
      go_ret
      exact ⟨rfl,BA.out⟩
     ·by_cases h2:4 * l < s
      ·have e:c=3:=HC.out hg (.inr h2);subst e;clear hg;go_wp2_with fail
       go_ret
       exact ⟨rfl,BA.out⟩
      ·have e:c=0:=HD.out hg (by omega);subst e;clear hg;go_wp2_with fail
       go_ret
       exact ⟨rfl,BA.out⟩
end Go.Proofs.YtcgjflamgnjhcaaGreatDoor
