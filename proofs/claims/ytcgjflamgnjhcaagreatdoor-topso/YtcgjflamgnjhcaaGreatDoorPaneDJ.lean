/- Own texts in one. Conditions: as named in each. -/
import Derived.Test.YtcgjflamgnjhcaaGreatDoorBtFJ
import Derived.Laws.IdiomCopy
set_option linter.unusedVariables false
set_option linter.unusedSimpArgs false
set_option maxRecDepth 100000
set_option maxHeartbeats 8000000
namespace Go.Proofs.YtcgjflamgnjhcaaGreatDoor
open Go.ChangeShapes Go.WideShapes Go.ChangeAt Go.RowKit
def zeroP:Array Value:=#[.int .i64 0,.int .i64 0,.int .i64 0,.slice none 0 0,.bool false]
theorem zeroP_run (w:World):(zeroValue 84).run Tryz.prog w=.ok (.agg zeroP) w:=by kernel_rfl
theorem lN (n:Nat):(Builtin.zeroCells zeroP n).toList.length=n * 5:=by simp [Builtin.zeroCells,zeroP]
theorem zeroP_one (n:Nat):∀ u∈(Builtin.zeroCells zeroP n).toList,u.oneCell'=true:=by
 intro u hu;simp only [Builtin.zeroCells,Array.toList_map,Array.toList_range,List.mem_map] at hu;obtain ⟨i,-,rfl⟩:=hu;have hz:zeroP.size=5:=rfl;rw [hz];have h5:i % 5 < 5:=Nat.mod_lt _ (by omega);generalize i % 5=j at h5;have:j=0∨j=1∨j=2∨j=3∨j=4:=by omega
 rcases this with rfl | rfl | rfl | rfl | rfl <;> rfl
theorem clear5 (w:World) (g o n c:Nat) (hn:0 < n) (hc:∀ j,j < n * 5→(w.cell? ⟨g,o+j,none⟩).isSome=true) (hf:∀ j,j < n * 5→w.frozen? ⟨g,o+j,none⟩=false) (ty:TypeId) :
  (Builtin.clear_ #[64] ty #[.slice (some ⟨g,o,none⟩) n c]).run Tryz.prog w=.ok (.tuple #[]) (w.setCells g o (Builtin.zeroCells zeroP n).toList):=by
 have hst:=run_storeCells_cells (P:=Tryz.prog) g o (Builtin.zeroCells zeroP n).toList 0 w (by rw [lN];simpa using hc) (by rw [lN];simpa using hf) (zeroP_one n);have hzc:(Value.agg #[.int .i64 0,.int .i64 0,.int .i64 0,.slice none 0 0,.bool false]).cells=zeroP:=rfl;simp only [Nat.add_zero] at hst;obtain ⟨m,rfl⟩:∃ m,n=m+1:=⟨n - 1,by omega⟩
 simp [Builtin.clear_,run_underlying Tryz.underlying64,zeroP_run,hzc,hst]
theorem ji {a:World} {bad:Nat→Prop} {g:Nat} (hg:bad g):∀ (vs:List Value) (o:Nat) (b:World),KeptB a b bad→KeptB a (b.setCells g o vs) bad
 | [],_,_,h=>h
 | v :: r,o,b,h=>ji hg r (o+1) _ (ai h hg o v)
structure DelR (ps:List Pn) (c:Pn→Bool) (i j:Nat) (L:List Pn):Prop where
 ij:i≤j
 jn:j≤ps.length
 ln:L.length=ps.length
 fs:L.take i=(ps.take j).filter (fun p=>!c p)
 rs:∀ q,j≤q→L[q]?=ps[q]?
theorem del_start {ps:List Pn} {c:Pn→Bool} {i:Nat} (hi:i < ps.length) (h1:∀ q p,q < i→ps[q]?=some p→c p=false) (h2:∀ p,ps[i]?=some p→c p=true):DelR ps c i (i+1) ps:=by
 refine ⟨by omega,by omega,rfl,?_,fun _ _=>rfl⟩;rw [eG ps i hi,List.filter_append];have e1:(ps.take i).filter (fun p=>!c p)=ps.take i:=List.filter_eq_self.2 fun p hp=>by
  obtain ⟨q,hq,rfl⟩:=List.mem_iff_getElem.1 hp;have hq':q < i:=by
   rw [List.length_take] at hq;omega
  have hq2:q < ps.length:=by omega
  have:=h1 q ((ps.take i)[q]) hq' (by rw [List.getElem_take,List.getElem?_eq_getElem hq2])
  rw [this]
  rfl
 have e2:=h2 ps[i] (List.getElem?_eq_getElem hi);simp only [e1,List.filter_cons,e2,Bool.not_true,Bool.false_eq_true,if_false,List.filter_nil,List.append_nil]
theorem del_gone {ps:List Pn} {c:Pn→Bool} {i j:Nat} {L:List Pn} (h:DelR ps c i j L) (hj:j < ps.length) (hc:c ps[j]=true):DelR ps c i (j+1) L:=by
 refine ⟨by have:=h.ij;omega,by omega,h.ln,?_,fun q hq=>h.rs q (by omega)⟩;rw [h.fs,eG ps j hj,List.filter_append];simp only [List.filter_cons,hc,Bool.not_true,Bool.false_eq_true,if_false,List.filter_nil,List.append_nil]
theorem del_stay {ps:List Pn} {c:Pn→Bool} {i j:Nat} {L:List Pn} (h:DelR ps c i j L) (hij:i < j) (hj:j < ps.length) (hc:c ps[j]=false):DelR ps c (i+1) (j+1) (L.set i ps[j]):=by
 have hi:i < L.length:=by rw [h.ln];omega
 refine ⟨by omega,by omega,by rw [List.length_set];exact h.ln,?_,fun q hq=>?_⟩
 ·have e:(L.set i ps[j]).take (i+1)=L.take i++[ps[j]]:=by
   rw [eG _ i (by rw [List.length_set];exact hi),List.getElem_set_self,List.take_set,List.set_eq_of_length_le (by simp;omega)]
  rw [e,h.fs,eG ps j hj,List.filter_append];simp only [List.filter_cons,hc,Bool.not_false,if_true,List.filter_nil]
 ·rw [List.getElem?_set_ne (by omega)];exact h.rs q (by omega)
theorem del_len {ps:List Pn} {c:Pn→Bool} {i j:Nat} {L:List Pn} (h:DelR ps c i j L):i=((ps.take j).filter (fun p=>!c p)).length:=by
 rw [← h.fs,List.length_take,h.ln]
 have:=h.ij
 have:=h.jn
 omega
theorem delete_any (ps:List Pn) (c:Pn→Bool) (p1 p2:Value) (B:Nat) (u:Value) (w:World) (hl:ps.length≤500) (ho:w.ownsRow B 84 5 u ps.length (rowOf aG ps)) (hs:∀ p∈ps,∃ ao n cap,p.av=.slice ao n cap)
  (hc:∀ p∈ps,∀ w',KeptB w w' (fun k=>u.ownBlock=some k)→Calls Tryz.prog 130 #[eo p,p1,p2] w' fun e w''=>e=.returned (.bool (c p))∧Below w'.heap.size w' w'') :
  Calls Tryz.prog 129 #[u,.func (.func 130) #[] #[p1,p2]] w fun e w'=>∃ v,e=.returned v∧gi w' v 5 (ps.filter (fun p=>!c p)).length (rowOf aG (ps.filter (fun p=>!c p)))∧v.ownBlock=u.ownBlock∧KeptB w w' (fun k=>u.ownBlock=some k):=by
 obtain ⟨au,cu,rfl⟩:=ax ho;have IX:=aa (index_any ps c p1 p2 au cu w (by omega) (cf (bg ho)) hs (fun p hp w' hb=>hc p hp w' (ae hb)));have HO:=aa ho;have HS:=aa hs;have HC:=aa hc;clear ho hs hc
 go_enter Tryz.func129,Tryz.ntmps129
 go_wp2_with fail;refine IX.out.mono ?_;rintro e w1 (⟨i,hi,h1,h2,rfl,hb⟩ | ⟨h1,rfl,hb⟩)
 ·obtain ⟨g,cg,he,gb,gs,gc,gm⟩:=fO HO.out (by omega);cases he;have DS:=aa (del_start hi h1 h2);have HO1:=aa (aB HO.out hb (Nat.le_refl _));have HK1:Hid (KeptB w w1 (fun k=>(Value.slice (some ⟨g,0,none⟩) ps.length cu).ownBlock=some k)):=ae hb;unfold maxLen at gm;have e0:((i:Int) == -1)=false:=by simp
  clear h1 h2 hb IX HO;go_wp2_with fail;clear e0
  go_loopw [5,6] (fun ci cj wr=>∃ (i j:Nat) (L:List Pn),i < j∧j≤ps.length∧ci=.int .i64 i∧cj=.int .i64 j∧Hid (DelR ps c i j L)∧Hid (wr.ownsRow B 84 5 (.slice (some ⟨g,0,none⟩) ps.length cu) ps.length (rowOf aG L))∧Hid (KeptB w wr (fun k=>(Value.slice (some ⟨g,0,none⟩) ps.length cu).ownBlock=some k))) (fun _ cj _=>ps.length - (intOf cj).toNat)
  case atStart=>exact ⟨i,i+1,ps,by omega,by omega,rfl,by go_num,DS,HO1,HK1⟩
  case round =>
   clear DS HO1 HK1 hi;obtain ⟨i,j,L,hij,hj,rfl,rfl,HD,HO,HK⟩:=hrel
   by_cases hlt:j < ps.length
   ·have hLj:L[j]?=some ps[j]:=by rw [HD.out.rs j (Nat.le_refl _),List.getElem?_eq_getElem hlt]
    have hcell:∀ q,q < 5→wr.cell? ⟨g,j * 5+q,none⟩=(aG ps[j])[q]?:=fun q hq=>by
     rw [HO.out.cellAt (j * 5+q) (mU hlt hq),bV aW _ j q ps[j] hLj hq]
    have CP:=aa (HC.out ps[j] (List.getElem_mem hlt));obtain ⟨ap,np,cp,hav⟩:=HS.out ps[j] (List.getElem_mem hlt);have DG:=aa (del_gone HD.out hlt);have DT:=aa (del_stay HD.out hij hlt);have RS:=aa (n7 L i ps[j] (by rw [HD.out.ln];omega));generalize ps[j]=p at *;obtain ⟨x1,x2,x3,x4,x5,x6⟩:=p
    simp only at hav
    subst hav;have y0:wr.cell? ⟨g,j * 5,none⟩=some (.int .i64 x1):=hcell 0 (by omega);have y1:wr.cell? ⟨g,j * 5+1,none⟩=some (.int .i64 x2):=hcell 1 (by omega);have y2:wr.cell? ⟨g,j * 5+2,none⟩=some (.int .i64 x3):=hcell 2 (by omega);have y3:wr.cell? ⟨g,j * 5+3,none⟩=some (.slice ap np cp):=hcell 3 (by omega);have y4:wr.cell? ⟨g,j * 5+4,none⟩=some (.bool x4):=hcell 4 (by omega);unfold eo at CP
    simp only at CP
    generalize hcx:c ⟨x1,x2,x3,x4,x5,.slice ap np cp⟩=r at *;have HCX:=aa hcx;have al:=(Below.refl wr.heap.size wr).alloc (Nat.le_refl _) (.cells #[.int .i64 x1,.int .i64 x2,.int .i64 x3,.slice ap np cp,.bool x4] 84);have HKA:=aa (af HK.out (ae al));have HOA:=aa (aB HO.out al (Nat.le_refl _));have BA:=aa (aN wr [.int .i64 x1,.int .i64 x2,.int .i64 x3,.slice ap np cp,.bool x4] 84 (by simp));clear hcell hcx al HK HO hLj;go_wp2_with fail;refine (CP.out _ HKA.out).mono ?_;rintro e w2 ⟨rfl,hb⟩;have HK2:=aa (af HKA.out (ae hb));have HO2:=aa (aB HOA.out hb (Nat.le_refl _));have BA2:=aa (ah BA.out hb BA.out.lt);clear hb HKA HOA BA y0 y1 y2 y3 y4;cases r with
    | true =>
     clear DT RS;go_wp2_with fail;go_roundw
     case rel=>exact ⟨i,j+1,L,by omega,by omega,rfl,by go_num,aa (DG.out (by first | trivial | exact HCX.out)),HO2,HK2⟩
     case measure=>simp [intOf];omega
    | false =>
     have v0:w2.cell? ⟨wr.heap.size,0,none⟩=some (.int .i64 x1):=BA2.out.c 0 (by simp);have v1:w2.cell? ⟨wr.heap.size,1,none⟩=some (.int .i64 x2):=BA2.out.c 1 (by simp);have v2:w2.cell? ⟨wr.heap.size,2,none⟩=some (.int .i64 x3):=BA2.out.c 2 (by simp);have v3:w2.cell? ⟨wr.heap.size,3,none⟩=some (.slice ap np cp):=BA2.out.c 3 (by simp);have v4:w2.cell? ⟨wr.heap.size,4,none⟩=some (.bool x4):=BA2.out.c 4 (by simp);have NO:=aY (aY (aY (aY (aY HO2.out (i * 5) (.int .i64 x1)) (i * 5+1) (.int .i64 x2)) (i * 5+2) (.int .i64 x3)) (i * 5+3) (.slice ap np cp)) (i * 5+4) (.bool x4);rw [RS.out] at NO;have NO:=aa NO;have NK:=aa (ai (ai (ai (ai (ai HK2.out (g:=g) rfl (i * 5) (.int .i64 x1)) rfl (i * 5+1) (.int .i64 x2)) rfl (i * 5+2) (.int .i64 x3)) rfl (i * 5+3) (.slice ap np cp)) rfl (i * 5+4) (.bool x4));have hrl:(rowOf aG L).length=ps.length * 5:=by rw [bh aW,HD.out.ln]
     have s0:=HO2.out.cellAt (i * 5) (by omega);have s1:=HO2.out.cellAt (i * 5+1) (by omega);have s2:=HO2.out.cellAt (i * 5+2) (by omega);have s3:=HO2.out.cellAt (i * 5+3) (by omega);have s4:=HO2.out.cellAt (i * 5+4) (by omega);rw [List.getElem?_eq_getElem (by omega)] at s0 s1 s2 s3 s4;generalize (rowOf aG L)[i * 5]=r0 at s0;generalize (rowOf aG L)[i * 5+1]=r1 at s1;generalize (rowOf aG L)[i * 5+2]=r2 at s2;generalize (rowOf aG L)[i * 5+3]=r3 at s3;generalize (rowOf aG L)[i * 5+4]=r4 at s4;have z0:=aO HO2.out (i * 5);have z1:=aO HO2.out (i * 5+1);have z2:=aO HO2.out (i * 5+2);have z3:=aO HO2.out (i * 5+3);have z4:=aO HO2.out (i * 5+4);clear hrl DG RS BA2 HK2 HO2;go_wp2_with fail;go_roundw
     case rel=>exact ⟨i+1,j+1,L.set i ⟨x1,x2,x3,x4,x5,.slice ap np cp⟩,by omega,by omega,by go_num,by go_num,aa (DT.out (by first | trivial | exact HCX.out)),NO,NK⟩
     case measure=>simp [intOf];omega
   ·have hje:j=ps.length:=by omega
    subst hje;have hrl:(rowOf aG L).length=ps.length * 5:=by rw [bh aW,HD.out.ln]
    have CL:=aa (clear5 wr g (i * 5) (ps.length - i) (cu - i) (by omega) (fun q hq=>by
     rw [HO.out.cellAt (i * 5+q) (by omega),List.getElem?_eq_getElem (by omega)]
     rfl) (fun q hq=>aO HO.out (i * 5+q)))
    have NK:=aa (ji (bad:=fun k=>(Value.slice (some ⟨g,0,none⟩) ps.length cu).ownBlock=some k) (g:=g) rfl (Builtin.zeroCells zeroP (ps.length - i)).toList (i * 5) wr HK.out);have hcl:=CL.out;have FL:Hid (i=(ps.filter (fun p=>!c p)).length):=by
     have h9:=del_len HD.out;rw [List.take_length] at h9;exact h9
    have FT:Hid (L.take i=ps.filter (fun p=>!c p)):=by
     have h9:=HD.out.fs;rw [List.take_length] at h9;exact h9
    clear CL
    go_wp2_with (simp only [hcl])
    clear hcl
    go_ret
    refine ⟨.slice (some ⟨g,0,none⟩) i cu,rfl,⟨bh aW _,.inr ⟨g,0,cu,by rw [← FL.out],by rw [← FL.out];omega,by unfold maxLen;omega,Nat.lt_of_lt_of_le gs NK.out.b0.size,fun q hq=>?_⟩⟩,rfl,NK.out⟩;rw [← FL.out] at hq;rw [World.cell?_setCells_out g _ _ _ _ (fun _ _=>.inl (by simp;omega)),Nat.zero_add,HO.out.cellAt q (by omega),← FT.out];have hs:rowOf aG L=rowOf aG (L.take i)++rowOf aG (L.drop i):=by rw [← cB,List.take_append_drop]
    have hl9:(rowOf aG (L.take i)).length=i * 5:=by rw [bh aW,List.length_take,HD.out.ln,Nat.min_eq_left (by omega)]
    rw [hs,List.getElem?_append_left (by omega)]
 ·have e:ps.filter (fun p=>!c p)=ps:=List.filter_eq_self.2 fun p hp=>by simp [h1 p hp]
  have E:=aa e;have HR:=aa (bM (bg HO.out) hb);have HK1:Hid (KeptB w w1 (fun k=>(Value.slice au ps.length cu).ownBlock=some k)):=ae hb;clear h1 hb IX HO e;go_wp2_with fail
  go_ret
  exact ⟨_,rfl,by rw [E.out];exact HR.out,rfl,HK1.out⟩
def stays (size upto:Int) (p:Pn):Bool:=!decide (p.st+size≤upto)
theorem drop_any (ps:List Pn) (tv:Value) (size upto:Int) (w:World) (hT:TblR w tv ps) (hl:ps.length≤500) (hst:∀ p∈ps,-100000≤p.st∧p.st≤100000) (h3:1≤size) (h4:size≤100000) :
  Calls Tryz.prog 96 #[.agg #[tv],.int .i64 size,.int .i64 upto] w fun e w'=>∃ u,e=.returned (.agg #[u])∧TblR w' u (ps.filter (stays size upto))∧bu w.heap.size u∧Below w.heap.size w w':=by
 obtain ⟨ao,cap,rfl⟩:=aF hT.row;have b1:=(Below.refl w.heap.size w).alloc (Nat.le_refl _) (.cells #[.slice ao ps.length cap] 66);have b2:=b1.alloc b1.size (.cells #[.int .i64 size] 3);have b3:=b2.alloc b2.size (.cells #[.int .i64 upto] 3);have b4:=b3.alloc b3.size (.cells #[.slice none 0 0] 66);have A1:=aN (w.alloc (.cells #[.slice ao ps.length cap] 66)) [.int .i64 size] 3 (by simp);have A2:=aN ((w.alloc (.cells #[.slice ao ps.length cap] 66)).alloc (.cells #[.int .i64 size] 3)) [.int .i64 upto] 3 (by simp);have A3:=aN (((w.alloc (.cells #[.slice ao ps.length cap] 66)).alloc (.cells #[.int .i64 size] 3)).alloc (.cells #[.int .i64 upto] 3)) [.slice none 0 0] 66 (by simp);have s1:(w.alloc (.cells #[.slice ao ps.length cap] 66)).heap.size=w.heap.size+1:=by simp
 have s2:((w.alloc (.cells #[.slice ao ps.length cap] 66)).alloc (.cells #[.int .i64 size] 3)).heap.size=w.heap.size+1+1:=by simp
 have s3:(((w.alloc (.cells #[.slice ao ps.length cap] 66)).alloc (.cells #[.int .i64 size] 3)).alloc (.cells #[.int .i64 upto] 3)).heap.size=w.heap.size+1+1+1:=by simp
 have s4:((((w.alloc (.cells #[.slice ao ps.length cap] 66)).alloc (.cells #[.int .i64 size] 3)).alloc (.cells #[.int .i64 upto] 3)).alloc (.cells #[.slice none 0 0] 66)).heap.size=w.heap.size+1+1+1+1:=by simp
 have al:=fun (w:World) (o:Obj)=>(Below.refl w.heap.size w).alloc (Nat.le_refl _) o
 have C1:=ah (ah A1 (al _ (.cells #[.int .i64 upto] 3)) A1.lt) (al _ (.cells #[.slice none 0 0] 66)) (by simp);have C2:=ah A2 (al _ (.cells #[.slice none 0 0] 66)) A2.lt;rw [s1] at C1;rw [s2] at C2;rw [s3] at A3;have CL:=aa (gV ps _ _ (by omega) (bL hT b4));have HB:=aa b4;have D1:=aa C1;have D2:=aa C2;have D3:=aa A3;have HT:=aa hT;have HST:=aa hst;have S4:=aa s4;clear b1 b2 b3 b4 A1 A2 A3 C1 C2 s1 s2 s3 s4 al hT hst
 go_enter Tryz.func96,Tryz.ntmps96
 go_wp2_with fail;refine CL.out.mono ?_;rintro e w1 ⟨u,rfl,ho,hb⟩;obtain ⟨au,cu,rfl⟩:=ax ho;have E1:=aa (ah D1.out hb D1.out.lt);have E2:=aa (ah D2.out hb D2.out.lt);have E3:=aa (ah D3.out hb D3.out.lt);have HB1:=nxt HB hb;have NU:Hid (∀ k,(Value.slice au ps.length cu).ownBlock=some k→w.heap.size+1+1+1+1≤k):=fun k hk=>by
  have h1:=(aJ ho k hk).1
  have:=S4.out
  omega
 have DE:=aa (delete_any ps (fun p=>decide (p.st+size≤upto)) (.pointer (some ⟨w.heap.size+1,0,none⟩)) (.pointer (some ⟨w.heap.size+1+1,0,none⟩)) _ _ w1 hl ho (dD HT.out) (fun p hp w' hk=>by
  have K1:=aH E1.out hk (fun e=>by have:=NU.out _ e;omega);have K2:=aH E2.out hk (fun e=>by have:=NU.out _ e;omega);obtain ⟨q1,q2⟩:=HST.out p hp;exact drop1_any p (w.heap.size+1) (w.heap.size+1+1) size upto w' q1 q2 h3 h4 (dD HT.out p hp) (K1.c 0 (by simp)) (K2.c 0 (by simp)) K1.lt K2.lt))
 clear ho hb CL D1 D2 D3 HB S4;go_wp2_with fail;refine DE.out.mono ?_;rintro e w2 ⟨v,rfl,hr,hv,hk⟩;have F3:=aH E3.out hk (fun e=>by have:=NU.out _ e;omega);have HB2:=aa (HB1.out.trans (aL hk HB1.out.size (fun k hk=>by have:=NU.out k hk;omega)));have c0:w2.cell? ⟨w.heap.size+1+1+1,0,none⟩=some (.slice none 0 0):=F3.c 0 (by simp);have f0:=F3.fz 0;obtain ⟨av,cv,rfl⟩:=aF hr;have HR:=aa hr;have VF:Hid (∀ k,(Value.slice av (ps.filter (fun p=>!decide (p.st+size≤upto))).length cv).ownBlock=some k→w.heap.size≤k):=fun k hk9=>by
  rw [hv] at hk9
  have:=NU.out k hk9
  omega
 have VB:Hid (∀ k,(Value.slice av (ps.filter (fun p=>!decide (p.st+size≤upto))).length cv).ownBlock=some k→k≠w.heap.size+1+1+1):=fun k hk9 e=>by
  rw [hv] at hk9
  have:=NU.out k hk9
  omega
 generalize hN:(ps.filter (fun p=>!decide (p.st+size≤upto))).length=N at *;have HN:=aa hN;clear hr hk hv DE F3 hN;go_wp2_with fail;have ZB:=aa (HB2.out.setCell (p:=⟨w.heap.size+1+1+1,0,none⟩) (by show _≤w.heap.size+1+1+1;omega) (.slice av N cv));have KZ:=ai (ae (bad:=fun k=>k=w.heap.size+1+1+1) (Below.refl w2.heap.size w2)) rfl 0 (.slice av N cv);refine bodyPost_ret (v:=.agg #[.slice av N cv]) (by simp [results,Tryz.results96,go_sem,c0]) rfl ⟨_,rfl,⟨?_,fun p hp=>?_⟩,fun k hk=>VF.out k hk,ZB.out⟩
 ·have e:ps.filter (stays size upto)=ps.filter (fun p=>!decide (p.st+size≤upto)):=rfl;rw [e,HN.out];exact aX HR.out KZ (fun k hk e=>VB.out k hk e)
 ·exact bp (HT.out.acc p (List.mem_filter.1 hp).1) ZB.out
abbrev Ot:=Int×Int×Int×List V2
def dv (x:Ot):Int×Int×Int:=(x.1,x.2.1,x.2.2.1)
theorem ee (p:Pn):dv (eT p)=dm p:=rfl
structure Rw where
 gone:Bool
 o:Ot
def jM (out:List Ot) (r:Rw):Option (List Ot) :=
 if r.gone then (if r.o∈out then some (out.filter fun x=>decide (dv x≠dv r.o)) else none)
 else (if dv r.o∈out.map dv then none else some (out++[r.o]))
def netL:List Ot→List Rw→Option (List Ot)
 | out,[]=>some out
 | out,r :: l=>(jM out r).bind fun o=>netL o l
theorem netL_app:∀ (l m:List Rw) (out:List Ot),netL out (l++m)=(netL out l).bind fun o=>netL o m
 | [],m,out=>rfl
 | r :: l,m,out=>by
  show (jM out r).bind (fun o=>netL o (l++m))=((jM out r).bind fun o=>netL o l).bind _
  cases jM out r with
  | none=>rfl
  | some o=>exact netL_app l m o
def qw (rows:List Rw) (V:List Pn):Prop:=∃ out,netL [] rows=some out∧(out.map dv).Nodup∧∀ x,x∈out↔∃ p∈V,p.told=true∧eT p=x
theorem netI_nil:qw [] []:=⟨[],rfl,by simp,fun x=>by simp⟩
theorem m7 {rows:List Rw} {V V':List Pn} (h:qw rows V) (hv:∀ x,(∃ p∈V,p.told=true∧eT p=x)↔∃ p∈V',p.told=true∧eT p=x):qw rows V':=by
 obtain ⟨out,h1,h2,h3⟩:=h;exact ⟨out,h1,h2,fun x=>(h3 x).trans (hv x)⟩
theorem netI_turn {rows:List Rw} {V V':List Pn} {o o':Ot} (h:qw rows V) (hk:dv o'=dv o) (ho:∃ p∈V,p.told=true∧eT p=o)
  (hv:∀ x,(∃ p∈V',p.told=true∧eT p=x)↔x=o'∨((∃ p∈V,p.told=true∧eT p=x)∧dv x≠dv o)):qw (rows++[⟨true,o⟩,⟨false,o'⟩]) V':=by
 obtain ⟨out,h1,h2,h3⟩:=h;have hin:o∈out:=(h3 o).2 ho;have e1:jM out ⟨true,o⟩=some (out.filter fun x=>decide (dv x≠dv o)):=by
  unfold jM;rw [if_pos rfl,if_pos hin]
 have hn:dv o' ∉ (out.filter fun x=>decide (dv x≠dv o)).map dv:=by
  intro hm;obtain ⟨x,hx,e⟩:=List.mem_map.1 hm
  have:=(List.mem_filter.1 hx).2
  simp only [ne_eq,decide_not,Bool.not_eq_true',decide_eq_false_iff_not] at this;exact this (e.trans hk)
 have e2:jM (out.filter fun x=>decide (dv x≠dv o)) ⟨false,o'⟩=some ((out.filter fun x=>decide (dv x≠dv o))++[o']):=by
  unfold jM;rw [if_neg (by simp),if_neg hn]
 refine ⟨(out.filter fun x=>decide (dv x≠dv o))++[o'],?_,?_,fun x=>?_⟩
 ·rw [netL_app,h1]
  show (jM out ⟨true,o⟩).bind _=_
  rw [e1]
  show (jM _ ⟨false,o'⟩).bind _=_
  rw [e2]
  rfl
 ·rw [List.map_append];refine List.nodup_append.2 ⟨?_,by simp,fun a ha b hb=>?_⟩
  ·exact h2.sublist (List.filter_sublist.map dv)
  ·simp only [List.map_cons,List.map_nil,List.mem_singleton] at hb;rw [hb];intro e;exact hn (e ▸ ha)
 ·rw [hv x,List.mem_append,List.mem_singleton,List.mem_filter,h3 x];simp only [ne_eq,decide_not,Bool.not_eq_true',decide_eq_false_iff_not]
  constructor
  ·rintro (h | h)
   ·exact .inr h
   ·exact .inl h
  ·rintro (h | h)
   ·exact .inr h
   ·exact .inl h
theorem netL_say:∀ (l:List Ot) (out:List Ot),(out.map dv).Nodup→(l.map dv).Nodup→(∀ x∈l,dv x ∉ out.map dv)→netL out (l.map (Rw.mk false))=some (out++l)
 | [],out,_,_,_=>by simp [netL]
 | o :: l,out,h1,h2,h3=>by
  show (jM out ⟨false,o⟩).bind _=_
  have hno:=h3 o (by simp);have e:jM out ⟨false,o⟩=some (out++[o]):=by
   unfold jM;rw [if_neg (by simp),if_neg hno]
  rw [e]
  show netL (out++[o]) (l.map (Rw.mk false))=_
  simp only [List.map_cons,List.nodup_cons] at h2
  have:=netL_say l (out++[o]) (by
   rw [List.map_append];refine List.nodup_append.2 ⟨h1,by simp,fun a ha b hb=>?_⟩;simp only [List.map_cons,List.map_nil,List.mem_singleton] at hb;rw [hb];intro e;exact hno (e ▸ ha)) h2.2 (fun x hx=>by
   rw [List.map_append,List.mem_append];rintro (h | h)
   ·exact h3 x (by simp [hx]) h
   ·simp only [List.map_cons,List.map_nil,List.mem_singleton] at h;exact h2.1 (h ▸ List.mem_map_of_mem hx))
  rw [this,List.append_assoc]
  rfl
structure OfV (ks:List Int) (cs:List Ct) (V:List Pn):Prop where
 rise:iw V
 acc:∀ p∈V,p.ac=gg ks (ofK p.st p.k p.n cs)∧ofK p.st p.k p.n cs≠[]
 all:∀ c∈cs,∃ p∈V,p.st=c.st∧p.k=c.key.1∧p.n=c.key.2
 few:V.length≤cs.length
theorem ofV_nil (ks:List Int):OfV ks [] []:=⟨by simp [iw],by simp,by simp,by simp⟩
def plt (a b:Pn):Prop:=lexlt a.st a.k a.n b.st b.k b.n
instance (a b:Pn):Decidable (plt a b):=by unfold plt lexlt;infer_instance
theorem oV (a:Pn):¬ plt a a:=iQ _ _ _
theorem mY (a b:Pn):plt a b→¬ plt b a:=by unfold plt lexlt;omega
def nR (x:Pn):List Pn→List Pn
 | []=>[x]
 | p :: l=>if plt p x then p :: nR x l else x :: p :: l
theorem cU (x y:Pn):∀ l,y∈nR x l↔y=x∨y∈l
 | []=>by simp [nR]
 | p :: l=>by
  unfold nR
  split
  ·rw [List.mem_cons,cU x y l,List.mem_cons]
   constructor
   ·rintro (h | h | h)
    ·exact .inr (.inl h)
    ·exact .inl h
    ·exact .inr (.inr h)
   ·rintro (h | h | h)
    ·exact .inr (.inl h)
    ·exact .inl h
    ·exact .inr (.inr h)
  ·rw [List.mem_cons]
theorem nh (x:Pn):∀ l,(nR x l).length=l.length+1
 | []=>rfl
 | p :: l=>by
  unfold nR
  split
  ·rw [List.length_cons,nh x l,List.length_cons]
  ·rfl
theorem fq (x:Pn):∀ l,l.Pairwise plt→(∀ p∈l,dm p≠dm x)→(nR x l).Pairwise plt
 | [],_,_=>by simp [nR]
 | p :: l,h,hn=>by
  obtain ⟨h1,h2⟩:=List.pairwise_cons.1 h;unfold nR
  split
  ·rename_i hp;refine List.pairwise_cons.2 ⟨fun y hy=>?_,fq x l h2 (fun q hq=>hn q (by simp [hq]))⟩
   rcases (cU x y l).1 hy with e | e
   ·rw [e];exact hp
   ·exact h1 y e
  ·rename_i hp;have hk:=hn p (by simp);have hx:plt x p:=by
    unfold plt lexlt at hp ⊢;unfold dm at hk;have hk:¬ (p.st=x.st∧p.k=x.k∧p.n=x.n):=fun e=>hk (by rw [e.1,e.2.1,e.2.2])
    omega
   refine List.pairwise_cons.2 ⟨fun y hy=>?_,h⟩
   rcases List.mem_cons.1 hy with e | e
   ·rw [e];exact hx
   ·have:=h1 y e
    unfold plt lexlt at hx this ⊢;omega
def nT (x:Pn) (l:List Pn):List Pn:=l.map fun p=>if dm p=dm x then x else p
theorem updR_rise {x:Pn} {l:List Pn} (h:l.Pairwise plt):(nT x l).Pairwise plt:=by
 unfold nT;refine List.pairwise_map.2 (h.imp fun {a b} hab=>?_);have e:∀ p:Pn,(if dm p=dm x then x else p).st=p.st∧(if dm p=dm x then x else p).k=p.k∧(if dm p=dm x then x else p).n=p.n:=fun p=>by
  split
  ·rename_i h9;unfold dm at h9;simp only [Prod.mk.injEq] at h9;exact ⟨h9.1.symm,h9.2.1.symm,h9.2.2.symm⟩
  ·exact ⟨rfl,rfl,rfl⟩
 unfold plt;obtain ⟨a1,a2,a3⟩:=e a;obtain ⟨b1,b2,b3⟩:=e b;rw [a1,a2,a3,b1,b2,b3];exact hab
theorem set_updR {l:List Pn} (h:iw l) {j:Nat} (hj:j < l.length) {x:Pn} (hk:dm l[j]=dm x):l.set j x=nT x l:=by
 apply List.ext_getElem?
 intro i;unfold nT;rw [List.getElem?_map,List.getElem?_set]
 by_cases hi:i < l.length
 ·rw [List.getElem?_eq_getElem hi]
  by_cases e:j=i
  ·subst e;rw [if_pos rfl,if_pos hj]
   simp [hk]
  ·rw [if_neg e];simp only [Option.map_some,Option.some.injEq];rw [if_neg];intro e9;have e8:dm l[j]=dm l[i]:=hk.trans e9.symm;unfold dm at e8;simp only [Prod.mk.injEq] at e8;exact e (iP h (List.getElem?_eq_getElem hj) (List.getElem?_eq_getElem hi) e8)
 ·rw [List.getElem?_eq_none (by omega)];have:j≠i:=by omega
  rw [if_neg this]
  rfl
theorem ins_is {l:List Pn} {i:Nat} {x:Pn} (h:iw (l.take i++x :: l.drop i)):l.take i++x :: l.drop i=nR x l:=by
 have hp:(l.take i++x :: l.drop i).Pairwise plt:=h;have hm:∀ y,y∈l.take i++x :: l.drop i↔y=x∨y∈l:=fun y=>by
  rw [List.mem_append,List.mem_cons];have:y∈l↔y∈l.take i∨y∈l.drop i:=by rw [← List.mem_append,List.take_append_drop]
  rw [this]
  constructor
  ·rintro (h | h | h)
   ·exact .inr (.inl h)
   ·exact .inl h
   ·exact .inr (.inr h)
  ·rintro (h | h | h)
   ·exact .inr (.inl h)
   ·exact .inl h
   ·exact .inr (.inr h)
 have hl:l.Pairwise plt:=by
  have h1:=List.pairwise_append.1 hp;rw [← List.take_append_drop i l];refine List.pairwise_append.2 ⟨h1.1,(List.pairwise_cons.1 h1.2.1).2,fun a ha b hb=>h1.2.2 a ha b (by simp [hb])⟩
 have hk:∀ p∈l,dm p≠dm x:=fun p hpl e=>by
  have h1:=List.pairwise_append.1 hp;unfold dm at e;simp only [Prod.mk.injEq] at e;rw [← List.take_append_drop i l,List.mem_append] at hpl
  rcases hpl with hpl | hpl
  ·have:=h1.2.2 p hpl x (by simp)
   unfold plt lexlt at this;omega
  ·have:=(List.pairwise_cons.1 h1.2.1).1 p hpl
   unfold plt lexlt at this;omega
 exact im plt oV mY _ _ hp (fq x l hl hk) (fun y=>(hm y).trans (cU x y l).symm)
theorem filter_insR {l:List Pn} (h:l.Pairwise plt) {x:Pn} (hn:∀ p∈l,dm p≠dm x) (f:Pn→Bool) (hf:f x=true):(nR x l).filter f=nR x (l.filter f):=by
 refine im plt oV mY _ _ ((fq x l h hn).filter _) (fq x _ (h.filter _) (fun p hp=>hn p (List.mem_filter.1 hp).1)) (fun y=>?_);rw [List.mem_filter,cU,cU,List.mem_filter]
 constructor
 ·rintro ⟨h1 | h1,h2⟩
  ·exact .inl h1
  ·exact .inr ⟨h1,h2⟩
 ·rintro (h1 | ⟨h1,h2⟩)
  ·exact ⟨.inl h1,by rw [h1];exact hf⟩
  ·exact ⟨.inr h1,h2⟩
theorem filter_updR {l:List Pn} {x:Pn} (f:Pn→Bool) (hf:∀ p,dm p=dm x→f p=f x):(nT x l).filter f=nT x (l.filter f):=by
 unfold nT
 induction l with
 | nil=>rfl
 | cons p l ih =>
  simp only [List.map_cons,List.filter_cons]
  by_cases hk:dm p=dm x
  ·rw [if_pos hk,hf p hk]
   by_cases h9:f x=true
   ·rw [if_pos h9,if_pos h9,ih]
    simp [hk]
   ·rw [if_neg h9,if_neg h9,ih]
  ·rw [if_neg hk]
   by_cases h9:f p=true
   ·rw [if_pos h9,if_pos h9,ih]
    simp [hk]
   ·rw [if_neg h9,if_neg h9,ih]
end Go.Proofs.YtcgjflamgnjhcaaGreatDoor
