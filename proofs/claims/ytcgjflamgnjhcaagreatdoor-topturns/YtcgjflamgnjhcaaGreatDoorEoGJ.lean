/- Own texts in one. Conditions: as named in each. -/
import Derived.Test.YtcgjflamgnjhcaaGreatDoorEoDJ
import Derived.Test.YtcgjflamgnjhcaaGreatDoorEnQJ
import Derived.Test.YtcgjflamgnjhcaaGreatDoorPaneCJ
import Derived.Test.YtcgjflamgnjhcaaGreatDoorEnFJ
set_option linter.unusedVariables false
set_option linter.unusedSimpArgs false
set_option maxRecDepth 100000
set_option maxHeartbeats 8000000
namespace Go.Proofs.YtcgjflamgnjhcaaGreatDoor
open Go.ChangeShapes Go.WideShapes Go.ChangeAt Go.RowKit
attribute [local go_sem ↓] cI cD
theorem cellsRw_len (r:Rw×Value):(gg r).length=5:=rfl
theorem jM {out out':List Ot} {r:Rw} (h:jH out r=some out') (hn:(out.map dt).Nodup):(out'.map dt).Nodup:=by
 unfold jH at h
 split at h
 ·split at h
  ·cases h;exact (List.filter_sublist.map dt).nodup hn
  ·cases h
 ·split at h
  ·cases h
  ·rename_i hk;cases h;rw [List.map_append];refine List.nodup_append.2 ⟨hn,by simp,fun a ha b hb e=>?_⟩;simp only [List.map_cons,List.map_nil,List.mem_singleton] at hb;subst hb;exact hk (by rw [← e];exact ha)
theorem netL_snoc {out out':List Ot} {l:List Rw} {r:Rw}:netL out (l++[r])=some out'↔∃ o1,netL out l=some o1∧jH o1 r=some out':=by
 rw [netL_app];cases netL out l with
 | none=>simp
 | some o1 =>
  show (jH o1 r).bind (fun o=>netL o [])=some out'↔_
  cases h:jH o1 r with
  | none=>simp [h]
  | some o2=>simp [netL,h]
theorem netL_take {l:List Rw} {out:List Ot} (h:netL [] l=some out) (m:Nat):∃ o1,netL [] (l.take m)=some o1:=by
 have e:=List.take_append_drop m l;rw [← e,netL_app] at h;cases h9:netL [] (l.take m) with
 | none=>rw [h9] at h;cases h
 | some o1=>exact ⟨o1,rfl⟩
theorem filter_out {out:List Ot} (hn:(out.map dt).Nodup) {j:Nat} {x:Ot} (hj:out[j]?=some x):(out.filter fun y=>decide (dt y≠dt x))=out.take j++out.drop (j+1):=by
 have hl:j < out.length:=(List.getElem?_eq_some_iff.1 hj).1;have e:out=out.take j++x :: out.drop (j+1):=by
  have h1:out[j]=x:=by rw [List.getElem?_eq_getElem hl] at hj;exact Option.some.inj hj
  rw [← h1,← List.drop_eq_getElem_cons hl,List.take_append_drop]
 have hn2:=hn;rw [e,List.map_append,List.map_cons] at hn2;obtain ⟨-,n2,n3⟩:=List.nodup_append.1 hn2
 conv=>lhs;rw [e]
 rw [List.filter_append,List.filter_cons,if_neg (by simp),List.filter_eq_self.2,List.filter_eq_self.2]
 ·intro y hy;have h9:=(List.nodup_cons.1 n2).1;exact decide_eq_true fun e9=>h9 (by rw [← e9];exact List.mem_map_of_mem hy)
 ·intro y hy;exact decide_eq_true fun e9=>n3 (dt y) (List.mem_map_of_mem hy) (dt x) (by simp) e9
theorem take_at {α:Type} {l:List α} {n i:Nat} {u:α} (h:(l.take n)[i]?=some u):l[i]?=some u:=by
 have h1:=(List.getElem?_eq_some_iff.1 h).1;rw [List.length_take] at h1;rw [List.getElem?_take_of_lt (by omega)] at h;exact h
theorem po_one:∀ (l:List Po),(∀ o∈l,∃ a n c,o.v=.slice a n c)→∀ u∈rowOf bL l,u.oneCell'=true
 | [],_,u,h=>by simp [rowOf] at h
 | x :: l,hv,u,h=>by
  rw [bQ] at h
  rcases List.mem_append.1 h with h | h
  ·simp only [bL,List.mem_cons,List.not_mem_nil,or_false] at h;obtain ⟨a,n,c,e⟩:=hv x (List.mem_cons_self ..)
   rcases h with rfl | rfl | rfl | rfl
   ·rfl
   ·rfl
   ·rfl
   ·rw [e];rfl
  ·exact po_one l (fun o ho=>hv o (List.mem_cons_of_mem _ ho)) u h
theorem rowPo_take (l:List Po) (j:Nat):(rowOf bL l).take (j * 4)=rowOf bL (l.take j):=by
 induction l generalizing j with
 | nil=>simp [rowOf]
 | cons x l ih =>
  cases j with
  | zero=>simp [rowOf]
  | succ j =>
   rw [List.take_succ_cons,bQ,bQ,List.take_append,← ih j];have hx:(bL x).length=4:=rfl;rw [List.take_of_length_le (by omega)]
   congr 2
   omega
theorem rowPo_drop (l:List Po) (j:Nat):(rowOf bL l).drop (j * 4)=rowOf bL (l.drop j):=by
 induction l generalizing j with
 | nil=>simp [rowOf]
 | cons x l ih =>
  cases j with
  | zero=>simp
  | succ j =>
   rw [List.drop_succ_cons,bQ,List.drop_append,← ih j];have hx:(bL x).length=4:=rfl;rw [List.drop_eq_nil_of_le (by omega),List.nil_append]
   congr 1
   omega
theorem net_any (L:List (Rw×Value)) (rv:Value) (w:World) (out:List Ot) (hr:bT w rv 5 L.length (rowOf gg L)) (hv:∀ r∈L,bT w r.2 2 r.1.o.2.2.2.length (cB r.1.o.2.2.2)) (hvl:∀ r∈L,r.1.o.2.2.2.length≤9223372036854775807) (hl:L.length≤1000000) (hn:netL [] (L.map Prod.fst)=some out) :
  Calls Tryz.prog 29 #[rv] w fun e w'=>∃ u os,e=.returned (.tuple #[u,.bool true])∧w'.ownsRow w.heap.size 78 4 u os.length (rowOf bL os)∧os.map fl=out∧(∀ o∈os,bT w o.v 2 o.vs.length (cB o.vs)∧o.vs.length≤9223372036854775807)∧os.length≤L.length∧Below w.heap.size w w':=by
 obtain ⟨i0,hi,hz0,hz1,hz2⟩:=info_parts infoPo;obtain ⟨ra,rc,rfl⟩:=aq hr;have HR:=aa hr;have HV:=aa hv;have HVL:=aa hvl;have HN:=aa hn;clear hr hv hvl hn
 go_enter Tryz.func29,Tryz.ntmps29
 go_wp2_with fail
 go_loopw [4,5] (fun ov i wr=>∃ (m:Nat) (os:List Po),m≤L.length∧os.length≤m∧i=.int .i64 m∧Hid (netL [] ((L.take m).map Prod.fst)=some (os.map fl))∧Hid (((os.map fl).map dt).Nodup)∧Hid (∀ o∈os,bT w o.v 2 o.vs.length (cB o.vs)∧o.vs.length≤9223372036854775807)∧Hid (wr.ownsRow w.heap.size 78 4 ov os.length (rowOf bL os))∧Hid (Below w.heap.size w wr)) (fun _ i _=>L.length - (intOf i).toNat)
 case atStart=>exact ⟨0,[],Nat.zero_le _,Nat.le_refl _,rfl,rfl,by show List.Nodup _;simp,fun o ho=>by simp at ho,⟨rfl,.inl ⟨rfl,rfl⟩⟩,Below.refl _ _⟩
 case round =>
  obtain ⟨m,os,hm,hol,rfl,HNM,HND,HOS,HOW,HB⟩:=hrel;obtain ⟨oa,oc,rfl⟩:=ax HOW.out
  by_cases hlt:m < L.length
  ·obtain ⟨g,off,hao,hcell,z1,z2,lg⟩:=bA cellsRw_len (aA HR.out HB.out) m hlt;subst hao;have hvm:=HV.out L[m] (List.getElem_mem hlt);have hvlm:=HVL.out L[m] (List.getElem_mem hlt);have hstep:∃ out',jH (os.map fl) L[m].1=some out'∧netL [] ((L.take (m+1)).map Prod.fst)=some out':=by
    obtain ⟨o1,h1⟩:=netL_take HN.out (m+1);rw [← List.map_take,List.take_succ_eq_append_getElem hlt,List.map_append] at h1;obtain ⟨o2,h2,h3⟩:=netL_snoc.1 h1;rw [HNM.out] at h2;cases h2;refine ⟨o1,h3,?_⟩;rw [List.take_succ_eq_append_getElem hlt,List.map_append];exact h1
   generalize L[m]=x at *;obtain ⟨⟨gone,st,kk,nn,vs⟩,xv⟩:=x;obtain ⟨a9,c9,hxv⟩:=aq hvm
   simp only at hxv hvm hvlm hstep
   subst hxv;obtain ⟨out',hs1,hs2⟩:=hstep;have HS1:=aa hs1;have HS2:=aa hs2;have HVM:=aa hvm;have y0:wr.cell? ⟨g,off+m * 5,none⟩=some (.bool gone):=hcell 0 (by omega);have y1:wr.cell? ⟨g,off+m * 5+1,none⟩=some (.int .i64 st):=hcell 1 (by omega);have y2:wr.cell? ⟨g,off+m * 5+2,none⟩=some (.int .i64 kk):=hcell 2 (by omega);have y3:wr.cell? ⟨g,off+m * 5+3,none⟩=some (.int .i64 nn):=hcell 3 (by omega);have y4:wr.cell? ⟨g,off+m * 5+4,none⟩=some (.slice a9 vs.length c9):=hcell 4 (by omega);have Y0:=aa y0;have bx:=aj wr (.cells #[.int .i64 st,.int .i64 kk,.int .i64 nn,.slice a9 vs.length c9] 78);have HB1:=aa (HB.out.trans (bx.mono HB.out.size));have BP1:=aa (az wr [.int .i64 st,.int .i64 kk,.int .i64 nn,.slice a9 vs.length c9] 78);have HOW1:=aa (aC HOW.out bx (Nat.le_refl _));have Y1:=aa ((bx.cell (p:=⟨g,off+m * 5,none⟩) lg).trans y0);have lg1:=Nat.lt_of_lt_of_le lg bx.size;have hos6:os.length≤1000000:=by omega
   unfold maxLen at z2;clear hs1 hs2 hvm hcell bx;go_wp2_with fail;clear y0 y1 y2 y3 y4;generalize hwp:(wr.alloc (.cells #[.int .i64 st,.int .i64 kk,.int .i64 nn,.slice a9 vs.length c9] 78))=wp at *;generalize hpb:wr.heap.size=pb_ at *
   go_loopw [7,8] (fun av kv wr=>∃ (k:Nat) (at_:Int),k≤os.length∧kv=.int .i64 k∧av=.int .i64 at_∧Hid ((at_=-1∧∀ (j:Nat) o,j < k→os[j]?=some o→dt (fl o)≠(st,kk,nn))∨∃ (j:Nat) (o:Po),at_=j∧os[j]?=some o∧dt (fl o)=(st,kk,nn))∧Hid (Below wp.heap.size wp wr)) (fun _ kv _=>os.length - (intOf kv).toNat)
   case atStart=>exact ⟨0,-1,Nat.zero_le _,rfl,rfl,.inl ⟨rfl,fun j o hj=>absurd hj (by omega)⟩,Below.refl _ _⟩
   case round =>
    obtain ⟨k,at_,hk,rfl,rfl,HAT,HBK⟩:=hrel;have BPk:=ai BP1.out HBK.out BP1.out.lt
    by_cases hkl:k < os.length
    ·have HOWk:=aC HOW1.out HBK.out (Nat.le_refl _);obtain ⟨go_,oo,hoo,hoc,u1,u2,lgo⟩:=bA cG (aE HOWk) k hkl;subst hoo;have hok:os[k]?=some os[k]:=List.getElem?_eq_getElem hkl;have hsh:=aq (HOS.out os[k] (List.getElem_mem hkl)).1;generalize os[k]=o at *;obtain ⟨st2,kk2,nn2,vs2,ov2⟩:=o;obtain ⟨b2,d2,hov⟩:=hsh
     simp only at hov
     subst hov;have x0:wr.cell? ⟨go_,oo+k * 4,none⟩=some (.int .i64 st2):=hoc 0 (by omega);have x1:wr.cell? ⟨go_,oo+k * 4+1,none⟩=some (.int .i64 kk2):=hoc 1 (by omega);have x2:wr.cell? ⟨go_,oo+k * 4+2,none⟩=some (.int .i64 nn2):=hoc 2 (by omega);have p0:wr.cell? ⟨pb_,0,none⟩=some (.int .i64 st):=BPk.c 0 (by simp);have p1:wr.cell? ⟨pb_,1,none⟩=some (.int .i64 kk):=BPk.c 1 (by simp);have p2:wr.cell? ⟨pb_,2,none⟩=some (.int .i64 nn):=BPk.c 2 (by simp);have lp:=BPk.lt;have kn:=bG wr;obtain ⟨kc,kf⟩:=bn wr;have HW:Hid (Below wr.heap.size wr wr):=Below.refl _ _;have HNO:Hid (¬ (st2=st∧kk2=kk∧nn2=nn)→dt (fl ⟨st2,kk2,nn2,vs2,.slice b2 vs2.length d2⟩)≠(st,kk,nn)):=fun h e=>h (by
      have e9:(st2,kk2,nn2)=(st,kk,nn):=e
      simpa only [Prod.mk.injEq] using e9)
     have HYES:Hid ((st2=st∧kk2=kk∧nn2=nn)→dt (fl ⟨st2,kk2,nn2,vs2,.slice b2 vs2.length d2⟩)=(st,kk,nn)):=fun ⟨h1,h2,h3⟩=>by
      show (st2,kk2,nn2)=_
      rw [h1,h2,h3]
     have HOK:=aa hok;unfold maxLen at u2;clear hoc HOWk BPk hok;have DONE:Hid (¬ (st2=st∧kk2=kk∧nn2=nn)→(at_=-1∧∀ (j:Nat) o,j < k+1→os[j]?=some o→dt (fl o)≠(st,kk,nn))∨∃ (j:Nat) (o:Po),at_=j∧os[j]?=some o∧dt (fl o)=(st,kk,nn)):=fun h=>by
      rcases HAT.out with ⟨e,h9⟩ | h9
      ·refine .inl ⟨e,fun j o hj ho=>?_⟩
       by_cases hjk:j=k
       ·subst hjk;rw [HOK.out] at ho;cases ho;exact HNO.out h
       ·exact h9 j o (by omega) ho
      ·exact .inr h9
     cases b1:(st2 == st) with
     | false =>
      have hne:¬ (st2=st∧kk2=kk∧nn2=nn):=fun h=>by rw [h.1] at b1;simp at b1
      have HD:=aa (DONE.out hne);go_wp2_with fail;refine aD HW (by kernel_rfl) (by kernel_rfl) ?_
      repeat (go_big_quiet_step (fail))
      refine wpQuiet_nil ?_;rintro _ ⟨pk,rfl⟩;have HP:=aa (HBK.out.trans (pk.h.mono HBK.out.size));generalize pk.w=wq at *;clear HW HBK kc kf kn x0 x1 x2 p0 p1 p2 DONE HAT;go_simp;go_wp2_with fail;go_roundw
      case rel=>exact ⟨k+1,at_,by omega,by go_num,rfl,HD,HP⟩
      case measure=>simp [intOf];omega
     | true =>
      cases b2:(kk2 == kk && nn2 == nn) with
      | false =>
       have hne:¬ (st2=st∧kk2=kk∧nn2=nn):=fun h=>by rw [h.2.1,h.2.2] at b2;simp at b2
       have HD:=aa (DONE.out hne);go_wp2_with fail;refine aD HW (by kernel_rfl) (by kernel_rfl) ?_
       repeat (go_big_quiet_step (fail))
       refine wpQuiet_nil ?_;rintro _ ⟨pk,rfl⟩;have HP:=aa (HBK.out.trans (pk.h.mono HBK.out.size));generalize pk.w=wq at *;clear HW HBK kc kf kn x0 x1 x2 p0 p1 p2 DONE HAT;go_simp;go_wp2_with fail;go_roundw
       case rel=>exact ⟨k+1,at_,by omega,by go_num,rfl,HD,HP⟩
       case measure=>simp [intOf];omega
      | true =>
       have hyes:st2=st∧kk2=kk∧nn2=nn:=by
        simp only [Bool.and_eq_true,beq_iff_eq] at b1 b2;exact ⟨b1,b2.1,b2.2⟩
       have HD:Hid (((k:Int)=-1∧∀ (j:Nat) o,j < k+1→os[j]?=some o→dt (fl o)≠(st,kk,nn))∨∃ (j:Nat) (o:Po),(k:Int)=j∧os[j]?=some o∧dt (fl o)=(st,kk,nn)):=.inr ⟨k,_,rfl,HOK.out,HYES.out hyes⟩;go_wp2_with fail;refine aD HW (by kernel_rfl) (by kernel_rfl) ?_
       repeat (go_big_quiet_step (fail))
       refine wpQuiet_nil ?_;rintro _ ⟨pk,rfl⟩;have HP:=aa (HBK.out.trans (pk.h.mono HBK.out.size));generalize pk.w=wq at *;clear HW HBK kc kf kn x0 x1 x2 p0 p1 p2 DONE HAT;go_simp;go_wp2_with fail;go_roundw
       case rel=>exact ⟨k+1,(k:Int),by omega,by go_num,rfl,HD,HP⟩
       case measure=>simp [intOf];omega
    ·have hke:k=os.length:=by omega
     subst hke;have BP3:=aa (ai BP1.out HBK.out BP1.out.lt);have HB3:=aa (HB1.out.trans (HBK.out.mono HB1.out.size));have HO3:=aa (aC HOW1.out HBK.out (Nat.le_refl _));have y0:wr.cell? ⟨g,off+m * 5,none⟩=some (.bool gone):=(HBK.out.cell (p:=⟨g,off+m * 5,none⟩) lg1).trans Y1.out;have lg3:=Nat.lt_of_lt_of_le lg1 HBK.out.size;have p0:wr.cell? ⟨pb_,0,none⟩=some (.int .i64 st):=BP3.out.c 0 (by simp);have p1:wr.cell? ⟨pb_,1,none⟩=some (.int .i64 kk):=BP3.out.c 1 (by simp);have p2:wr.cell? ⟨pb_,2,none⟩=some (.int .i64 nn):=BP3.out.c 2 (by simp);have p3:wr.cell? ⟨pb_,3,none⟩=some (.slice a9 vs.length c9):=BP3.out.c 3 (by simp);have lp:=BP3.out.lt;cases gone with
     | false =>
      have hs1:=HS1.out;unfold jH at hs1;rw [if_neg (by simp)] at hs1
      split at hs1
      ·cases hs1
      ·rename_i hnk;have hat:at_=-1:=by
        rcases HAT.out with ⟨e,-⟩ | ⟨j,o,-,ho,hk9⟩
        ·exact e
        ·exact absurd (by rw [List.mem_map];exact ⟨fl o,List.mem_map_of_mem (List.mem_of_getElem? ho),hk9⟩) hnk
       subst hat;have hout:out'=(os++[(⟨st,kk,nn,vs,.slice a9 vs.length c9⟩:Po)]).map fl:=by
        rw [← Option.some.inj hs1,List.map_append]
        rfl
       have HS3:Hid (netL [] ((L.take (m+1)).map Prod.fst)=some ((os++[(⟨st,kk,nn,vs,.slice a9 vs.length c9⟩:Po)]).map fl)):=by
        show _=_
        rw [HS2.out,hout]
       have HND3:=aa (jM HS1.out HND.out);have HND4:Hid (((os++[(⟨st,kk,nn,vs,.slice a9 vs.length c9⟩:Po)]).map fl).map dt).Nodup:=by rw [← hout];exact HND3.out
       clear HAT HS1 HS2 hs1 HND3 hout HNM HND BP1 HBK Y0 Y1 HOW HOW1 HB HB1
       go_wp2_with (at_builtin;go_must (refine wpList_append_own _ rfl (.tmp 53) (.tmp 55) 51 rfl w.heap.size 78 i0 (.agg #[.int .i64 0,.int .i64 0,.int .i64 0,.slice none 0 0]) 4 48 Tryz.underlying51 hi hz0 hz1 hz2 rfl (by decide) _ _ _ rfl (HO3.out.alloc _) ⟨wr.heap.size,0,none⟩ 1 1 [.int .i64 st,.int .i64 kk,.int .i64 nn,.slice a9 vs.length c9] rfl rfl (cell_four_newE _ _ _ _ _ _) (by intro u hu;simp at hu;rcases hu with rfl | rfl | rfl | rfl <;> rfl) (by show _≤2 ^ 63 - 1;omega) (by omega) (by have:=HB3.out.size;simp;omega) ?_))
       intro v' w5 ho5 hg5 _;have ho6:w5.ownsRow w.heap.size 78 4 v' (os++[(⟨st,kk,nn,vs,.slice a9 vs.length c9⟩:Po)]).length (rowOf bL (os++[(⟨st,kk,nn,vs,.slice a9 vs.length c9⟩:Po)])):=by
        rw [cQ,ly,List.length_append];exact ho5
       obtain ⟨oa5,oc5,rfl⟩:=ax ho6;have HO5:=aa ho6;have HB5:Hid (Below w.heap.size w w5):=(HB3.out.alloc HB3.out.size _).grown hg5 (by have:=HB3.out.size;simp;omega) (fun k hk=>(HO3.out.lt k hk).1);have HOS5:Hid (∀ o∈os++[(⟨st,kk,nn,vs,.slice a9 vs.length c9⟩:Po)],bT w o.v 2 o.vs.length (cB o.vs)∧o.vs.length≤9223372036854775807):=fun o ho=>by
        rcases List.mem_append.1 ho with h9 | h9
        ·exact HOS.out o h9
        ·rw [List.mem_singleton.1 h9];exact ⟨HVM.out,hvlm⟩
       clear ho5 ho6 hg5 p0 p1 p2 p3 y0;go_wp2_with fail;go_roundw
       case rel=>exact ⟨m+1,_,by omega,by simp;omega,by go_num,HS3,HND4,HOS5,HO5,HB5⟩
       case measure=>simp [intOf];omega
     | true =>
      have hs1:=HS1.out;unfold jH at hs1;rw [if_pos rfl] at hs1
      split at hs1
      rotate_left
      ·cases hs1
      rename_i hin;have hj:∃ (j:Nat) (o:Po),at_=j∧os[j]?=some o∧fl o=(st,kk,nn,vs):=by
       obtain ⟨o2,ho2,e2⟩:=List.mem_map.1 hin;obtain ⟨i2,hi2,hi3⟩:=List.mem_iff_getElem.1 ho2
       rcases HAT.out with ⟨-,h9⟩ | ⟨j,o,e,ho,hk9⟩
       ·exact absurd (by rw [e2];rfl) (h9 i2 o2 hi2 (by rw [← hi3];exact List.getElem?_eq_getElem hi2))
       ·refine ⟨j,o,e,ho,?_⟩;have hjl:=(List.getElem?_eq_some_iff.1 ho).1;have hij:i2=j:=by
         have hnd:=HND.out;refine (List.getElem?_inj (by simpa using hi2) hnd).1 ?_;rw [List.getElem?_map,List.getElem?_map,List.getElem?_map,List.getElem?_map,ho,List.getElem?_eq_getElem hi2,hi3];simp only [Option.map_some];rw [e2,hk9]
         rfl
        subst hij;rw [List.getElem?_eq_getElem hi2,hi3] at ho;cases ho;exact e2
      obtain ⟨j,o,hat,hoj,hoe⟩:=hj;subst hat;have hjl:=(List.getElem?_eq_some_iff.1 hoj).1;have hvo:=HOS.out o (List.mem_of_getElem? hoj);have hoj2:=hoj;obtain ⟨st2,kk2,nn2,vs2,ov2⟩:=o;have hoe2:(st2,kk2,nn2,vs2)=(st,kk,nn,vs):=hoe;simp only [Prod.mk.injEq] at hoe2;obtain ⟨rfl,rfl,rfl,rfl⟩:=hoe2
      simp only at hvo
      obtain ⟨b9,d9,rfl⟩:=aq hvo.1;obtain ⟨go_,oc',hgo,hgb,lgo⟩:=hZ HO3.out (by omega);cases hgo;have hrl:(rowOf bL os).length=os.length * 4:=bo cG os;have HRL:=aa hrl;have hce:∀ i,i < os.length * 4→wr.cell? ⟨go_,i,none⟩=(rowOf bL os)[i]?:=fun i hi9=>HO3.out.cellAt i hi9
      have x0:wr.cell? ⟨go_,j * 4,none⟩=some (.int .i64 st2):=(hce (j * 4+0) (by omega)).trans (bU cG os j 0 _ hoj2 (by omega));have x1:wr.cell? ⟨go_,j * 4+1,none⟩=some (.int .i64 kk2):=(hce (j * 4+1) (by omega)).trans (bU cG os j 1 _ hoj2 (by omega));have x2:wr.cell? ⟨go_,j * 4+2,none⟩=some (.int .i64 nn2):=(hce (j * 4+2) (by omega)).trans (bU cG os j 2 _ hoj2 (by omega));have x3:wr.cell? ⟨go_,j * 4+3,none⟩=some (.slice b9 vs2.length d9):=(hce (j * 4+3) (by omega)).trans (bU cG os j 3 _ hoj2 (by omega));have SP:=aa (fun w' (hb:Below wr.heap.size wr w')=>ir st2 kk2 nn2 st2 kk2 nn2 vs2 vs2 _ _ w' hvlm hvlm (aA hvo.1 (HB3.out.trans (hb.mono HB3.out.size))) (aA HVM.out (HB3.out.trans (hb.mono HB3.out.size))));have heq9:eqO (st2,kk2,nn2,vs2) (st2,kk2,nn2,vs2)=true:=decide_eq_true rfl;rw [heq9] at SP;have hoc9:os.length≤oc∧oc≤2 ^ 63 - 1:=by
       rcases HO3.out.2 with ⟨h9,-⟩ | ⟨g9,cap9,cur9,e9,-,-,h8,h7,-⟩
       ·cases h9
       ·cases e9;exact ⟨h8,h7⟩
      have HON:=aa (po_one os (fun o ho=>by obtain ⟨a,c,e⟩:=aq (HOS.out o ho).1;exact ⟨a,_,c,e⟩));have HS3:Hid (netL [] ((L.take (m+1)).map Prod.fst)=some ((os.take j++os.drop (j+1)).map fl)):=by
       show _=_
       rw [HS2.out,← Option.some.inj hs1,filter_out HND.out (j:=j) (x:=(st2,kk2,nn2,vs2)) (by rw [List.getElem?_map,hoj2];rfl),List.map_append,List.map_take,List.map_drop]
      have HND4:Hid (((os.take j++os.drop (j+1)).map fl).map dt).Nodup:=by
       have e9:(os.take j++os.drop (j+1)).map fl=out':=Option.some.inj (HS3.out.symm.trans HS2.out);rw [e9];exact jM HS1.out HND.out
      have HOS5:Hid (∀ o∈os.take j++os.drop (j+1),bT w o.v 2 o.vs.length (cB o.vs)∧o.vs.length≤9223372036854775807):=fun o ho=>by
       rcases List.mem_append.1 ho with h9 | h9
       ·exact HOS.out o (List.mem_of_mem_take h9)
       ·exact HOS.out o (List.mem_of_mem_drop h9)
      obtain ⟨hoc1,hoc2⟩:=hoc9;clear HAT HS1 HS2 hs1 HNM HND BP1 HBK Y0 Y1 HOW HOW1 HB HB1 hin hoj hoj2 hoe hvo hce hrl;go_wp2_with fail;refine wp_region_held (S:=fun w'=>Below wr.heap.size wr w') (by kernel_rfl) ?_;have hS:Below wr.heap.size wr ({ wr with drawn:=wr.drawn+1 }:World):=(Below.refl _ _).drew;generalize ({ wr with drawn:=wr.drawn+1 }:World)=wd at *;refine HU 0 (v:=.int .i64 (j:Int)) rfl (fun wq hq=>by go_simp) hS ?_;refine HU 1 (v:=.bool false) rfl (fun wq hq=>by go_simp) hS ?_;refine HU 2 (v:=.bool false) rfl (fun wq hq=>by go_simp) hS ?_;refine HU 3 (v:=.slice (some ⟨go_,0,none⟩) os.length oc) rfl (fun wq hq=>by go_simp) hS ?_;refine HU 4 (v:=.int .i64 (j:Int)) rfl (fun wq hq=>by go_simp) hS ?_;refine HU 5 (v:=.pointer (some ⟨go_,j * 4,none⟩)) rfl (fun wq hq=>by go_simp) hS ?_;refine HU 6 (v:=.agg #[.int .i64 st2,.int .i64 kk2,.int .i64 nn2,.slice b9 vs2.length d9]) rfl (fun wq hq=>by have q0:=(hq.cell (p:=⟨go_,j * 4,none⟩) lgo).trans x0;have q1:=(hq.cell (p:=⟨go_,j * 4+1,none⟩) lgo).trans x1;have q2:=(hq.cell (p:=⟨go_,j * 4+2,none⟩) lgo).trans x2;have q3:=(hq.cell (p:=⟨go_,j * 4+3,none⟩) lgo).trans x3;go_simp) hS ?_;refine HU 7 (v:=.agg #[.int .i64 st2,.int .i64 kk2,.int .i64 nn2,.slice a9 vs2.length c9]) rfl (fun wq hq=>by have K:=ai BP3.out hq BP3.out.lt;have q0:wq.cell? ⟨pb_,0,none⟩=some (.int .i64 st2):=K.c 0 (by simp);have q1:wq.cell? ⟨pb_,1,none⟩=some (.int .i64 kk2):=K.c 1 (by simp);have q2:wq.cell? ⟨pb_,2,none⟩=some (.int .i64 nn2):=K.c 2 (by simp);have q3:wq.cell? ⟨pb_,3,none⟩=some (.slice a9 vs2.length c9):=K.c 3 (by simp);clear K;go_simp) hS ?_;refine HG 8 rfl ?_;intro K' hK;go_simp;refine (SP.out _ hS).mono ?_;rintro e w3 ⟨rfl,hb⟩;have hS1:=hS.trans (hb.mono hS.size);refine hK _ _ ⟨hS1,?_⟩;clear hK hb;refine HU 9 (v:=.bool false) rfl (fun wq hq=>by go_simp) hS1 ?_;refine HU 10 (v:=.bool false) rfl (fun wq hq=>by go_simp) hS1 ?_;refine wpAnyH_done (by kernel_rfl) ?_ _;have HB4:=aa (HB3.out.trans (hS1.mono HB3.out.size));have HO4:=aa (aC HO3.out hS1 (Nat.le_refl _));clear hS hS1 x0 x1 x2 x3 p0 p1 p2 p3 y0 SP BP3 HB3 HO3;go_simp;go_wp2_with fail;refine wp_region_held (S:=fun w'=>Below ({ w3 with drawn:=w3.drawn+1 }:World).heap.size ({ w3 with drawn:=w3.drawn+1 }:World) w') (by kernel_rfl) ?_;have hd3:Below w3.heap.size w3 ({ w3 with drawn:=w3.drawn+1 }:World):=(Below.refl _ _).drew;have HB5:=aa (HB4.out.trans (hd3.mono HB4.out.size));have HO5:=aa (aC HO4.out hd3 (Nat.le_refl _));clear hd3 HB4 HO4;generalize ({ w3 with drawn:=w3.drawn+1 }:World)=wd4 at *;have hS:=Below.refl wd4.heap.size wd4;have HCE:Hid (∀ i,i < os.length * 4→wd4.cell? ⟨go_,i,none⟩=(rowOf bL os)[i]?):=fun i hi9=>HO5.out.cellAt i hi9
      have lgo4:go_ < wd4.heap.size:=(aJ HO5.out go_ rfl).2;obtain ⟨ad2,had2⟩:∃ ad2:Addr,(if oc=j+1 then (some ⟨go_,0,none⟩:Option Addr) else some ⟨go_,(j+1) * 4,none⟩)=some ad2:=by split <;> exact ⟨_,rfl⟩
      have HAD:Hid (∀ w',Below wd4.heap.size wd4 w'→∀ (i:Nat) (u:Value),((rowOf bL os).drop ((j+1) * 4))[i]?=some u→w'.cell? (ad2.add i)=some u):=fun w' hb i u hu=>by
       rw [List.getElem?_drop] at hu;have hi9:=(List.getElem?_eq_some_iff.1 hu).1;rw [HRL.out] at hi9;rw [if_neg (by omega)] at had2;cases had2;rw [jW];exact ((hb.cell (p:=⟨go_,(j+1) * 4+i,none⟩) lgo4).trans (HCE.out ((j+1) * 4+i) hi9)).trans hu
      refine HU 0 (v:=.slice (some ⟨go_,0,none⟩) os.length oc) rfl (fun wq hq=>by go_simp) hS ?_;refine HU 1 (v:=.int .i64 (j:Int)) rfl (fun wq hq=>by go_simp) hS ?_;refine HU 2 (v:=.slice (some ⟨go_,0,none⟩) j oc) rfl (fun wq hq=>by go_simp;first | done | (intro h9;omega)) hS ?_;refine HU 4 (v:=.slice (some ⟨go_,0,none⟩) os.length oc) rfl (fun wq hq=>by go_simp) hS ?_;refine HU 5 (v:=.int .i64 (j:Int)) rfl (fun wq hq=>by go_simp) hS ?_;refine HU 6 (v:=.int .i64 ((j:Int)+1)) rfl (fun wq hq=>by have hw:=kM ((j:Int)+1) (by omega) (by omega);go_simp) hS ?_;refine HU 7 (v:=.slice (some ad2) (os.length - (j+1)) (oc - (j+1))) rfl (fun wq hq=>by go_simp;first | done | (intro h9;exact absurd (h9 (by omega)) (by omega))) hS ?_;refine HG 3 rfl ?_;intro K' hK;refine cN (.const (.slice none 0 0)) (.tmp 70) 51 rfl wd4.heap.size 78 i0 (.agg #[.int .i64 0,.int .i64 0,.int .i64 0,.slice none 0 0]) 4 48 Tryz.underlying51 hi hz0 hz1 hz2 (by kernel_rfl) (by decide) (.slice none 0 0) 0 [] (by kernel_rfl) ⟨rfl,.inl ⟨rfl,rfl⟩⟩ ⟨go_,0,none⟩ j oc ((rowOf bL os).take (j * 4)) (by kernel_rfl) (by rw [List.length_take];have:=HRL.out;omega) (fun i u hu=>by rw [jW,Nat.zero_add];exact (HCE.out i (by have:=(List.getElem?_eq_some_iff.1 hu).1;rw [List.length_take] at this;have:=HRL.out;omega)).trans (take_at hu)) (fun u hu=>HON.out u (List.mem_of_mem_take hu)) (by show _≤2 ^ 63 - 1;omega) (by omega) (Nat.le_refl _) ?_;intro v1 wa ho hg hob;obtain ⟨va1,vc1,rfl⟩:=ax ho;have hSa:Below wd4.heap.size wd4 wa:=(Below.refl _ _).grown hg (Nat.le_refl _) (fun k hk=>by cases hk);have HOa:=aa ho;refine hK _ _ ⟨hSa,?_⟩;clear hK ho hg hob;refine HG 8 rfl ?_;intro K' hK;refine cN (.tmp 71) (.tmp 75) 51 rfl wd4.heap.size 78 i0 (.agg #[.int .i64 0,.int .i64 0,.int .i64 0,.slice none 0 0]) 4 48 Tryz.underlying51 hi hz0 hz1 hz2 (by kernel_rfl) (by decide) (.slice va1 (0+j) vc1) (0+j) ([]++(rowOf bL os).take (j * 4)) (by kernel_rfl) HOa.out ad2 (os.length - (j+1)) (oc - (j+1)) ((rowOf bL os).drop ((j+1) * 4)) (by kernel_rfl) (by rw [List.length_drop];have:=HRL.out;omega) (HAD.out wa hSa) (fun u hu=>HON.out u (List.mem_of_mem_drop hu)) (by show _≤2 ^ 63 - 1;omega) (by omega) hSa.size ?_;intro v2 wb ho hg hob;obtain ⟨va2,vc2,rfl⟩:=ax ho;have hSb:=hSa.grown hg hSa.size (fun k hk=>(aJ HOa.out k hk).1);have HOb:=aa ho;refine hK _ _ ⟨hSb,?_⟩;clear hK ho hg hob;refine HU 9 (v:=.slice va2 (0+j+(os.length - (j+1))) vc2) rfl (fun wq hq=>by go_simp) hSb ?_;refine wpAnyH_done (by kernel_rfl) ?_ _;have hlen5:j+(os.length - (j+1))=(os.take j++os.drop (j+1)).length:=by rw [List.length_append,List.length_take,List.length_drop];omega
      have HO6:Hid (wb.ownsRow w.heap.size 78 4 (.slice va2 (j+(os.length - (j+1))) vc2) (os.take j++os.drop (j+1)).length (rowOf bL (os.take j++os.drop (j+1)))):=by
       have h9:=aN (base':=w.heap.size) HOb.out HB5.out.size;rw [List.nil_append,rowPo_take,rowPo_drop,← cQ,Nat.zero_add] at h9;rw [← hlen5];exact h9
      have HB6:=aa (HB5.out.trans (hSb.mono HB5.out.size));have hol5:(os.take j++os.drop (j+1)).length≤m+1:=by omega
      clear hS hSa hSb HOa HOb HCE HO5 HB5 HON hlen5;go_simp;go_wp2_with fail;go_roundw
      case rel=>exact ⟨m+1,_,by omega,hol5,by go_num,HS3,HND4,HOS5,HO6,HB6⟩
      case measure=>simp [intOf];omega
  ·have hml:m=L.length:=by omega
   subst hml;have he:os.map fl=out:=by
    have h9:=HNM.out;rw [List.take_length,HN.out] at h9;exact (Option.some.inj h9).symm
   go_wp2_with fail;refine bodyPost_ret (v:=.tuple #[.slice oa os.length oc,.bool true]) (by simp [results,Tryz.results29,go_sem]) rfl ?_;exact ⟨_,os,rfl,HOW.out,he,HOS.out,hol,HB.out⟩
end Go.Proofs.YtcgjflamgnjhcaaGreatDoor
namespace Go.Proofs.YtcgjflamgnjhcaaGreatDoor
open Go.ChangeShapes Go.WideShapes Go.ChangeAt Go.RowKit
theorem rowG_lenE {w:World} {v:Value} {size n:Nat} {xs:List Value} (h:bT w v size n xs):n≤9223372036854775807:=by
 rcases h.2 with ⟨-,h⟩ | ⟨g,off,cap,-,h1,h2,-⟩
 ·omega
 ·unfold maxLen at h2;omega
theorem mX {W w:World} {q:Qy} {P:List (List Ev)} {eb:Nat} {M:List (List Ev)} {late:Nat} {tb:List Pn} {rs:List (Rw×Value)} {rdv ckv tv rv:Value} (h:nJ W q P eb M late tb rs rdv ckv tv rv w) (hc:chkQ q=0) (hl:lightM P=true) :
  Calls Tryz.prog 29 #[rv] w fun e w'=>∃ u os out,e=.returned (.tuple #[u,.bool true])∧w'.ownsRow w.heap.size 78 4 u os.length (rowOf bL os)∧os.map fl=out∧netL [] (rs.map Prod.fst)=some out∧(∀ o∈os,bT w o.v 2 o.vs.length (cB o.vs)∧o.vs.length≤9223372036854775807)∧os.length≤100000∧Below w.heap.size w w':=by
 obtain ⟨w0,b0,va,vw,vb,ps,V,cs,a1,-,-,-,a5,a6,a7,a8,-⟩:=h;obtain ⟨l1,l2,l3,l4⟩:=eS a6 hl;have hev:=preM_evs _ _ a6;obtain ⟨out,hn,-⟩:=run_so a5;refine (net_any rs rv w out (aE a1.en.ro) (fun r hr=>ce (a1.en.rn r hr).1) (fun r hr=>rowG_lenE (ce (a1.en.rn r hr).1)) (by omega) hn).mono ?_;rintro e w' ⟨u,os,rfl,h1,h2,h3,h4,h5⟩;exact ⟨u,os,out,rfl,h1,h2,hn,h3,by omega,h5⟩
theorem alike_any (L1 L2:List Po) (u1 u2:Value) (w:World) (h1:bT w u1 4 L1.length (rowOf bL L1)) (v1:∀ o∈L1,bT w o.v 2 o.vs.length (cB o.vs)∧o.vs.length≤9223372036854775807) (h2:bT w u2 4 L2.length (rowOf bL L2)) (v2:∀ o∈L2,bT w o.v 2 o.vs.length (cB o.vs)∧o.vs.length≤9223372036854775807)
  (hl:L1.length≤1000000) (hlen:L2.length=L1.length) (he:∀ a∈L1,∃ b∈L2,fl a=fl b) :
  Calls Tryz.prog 33 #[u1,u2] w fun e w'=>e=.returned (.bool true)∧Below w.heap.size w w':=by
 obtain ⟨a1,d1,rfl⟩:=aq h1;obtain ⟨a2,d2,rfl⟩:=aq h2;have H1:=aa h1;have H2:=aa h2;have V1:=aa v1;have V2:=aa v2;have HE:=aa he;have HLEN:=aa hlen;have bne:((L1.length:Int) != (L1.length:Int))=false:=by simp
 rw [hlen];clear h1 h2 v1 v2 he hlen
 go_enter Tryz.func33,Tryz.ntmps33
 go_wp2_with fail
 go_loopw [5] (fun i wr=>∃ m:Nat,m≤L1.length∧i=.int .i64 m∧Hid (Below w.heap.size w wr)) (fun i _=>L1.length - (intOf i).toNat)
 case atStart=>exact ⟨0,Nat.zero_le _,rfl,Below.refl _ _⟩
 case round =>
  obtain ⟨m,hm,rfl,HW⟩:=hrel
  by_cases hlt:m < L1.length
  ·go_wp2_with fail;obtain ⟨g1,o1,ha1,hc1,p1,p2,lg1⟩:=bA cG H1.out m hlt;subst ha1;have r1:=V1.out L1[m] (List.getElem_mem hlt);have hem:=HE.out L1[m] (List.getElem_mem hlt);generalize L1[m]=x1 at *;obtain ⟨b1,e1,hz1⟩:=aq r1.1;have x0:w.cell? ⟨g1,o1+m * 4,none⟩=some (.int .i64 x1.st):=hc1 0 (by omega);have x1_:w.cell? ⟨g1,o1+m * 4+1,none⟩=some (.int .i64 x1.k):=hc1 1 (by omega);have x2_:w.cell? ⟨g1,o1+m * 4+2,none⟩=some (.int .i64 x1.n):=hc1 2 (by omega);have x3_:w.cell? ⟨g1,o1+m * 4+3,none⟩=some (.slice b1 x1.vs.length e1):=by rw [← hz1];exact hc1 3 (by omega)
   have X0:=aa x0;have X1:=aa x1_;have X2:=aa x2_;have X3:=aa x3_;have HR1:=aa r1;have HZ1:=aa hz1;have hfnd:∃ (j:Nat) (o:Po),L2[j]?=some o∧fl x1=fl o:=by
    obtain ⟨b,hb,e⟩:=hem;obtain ⟨j,hj,rfl⟩:=List.mem_iff_getElem.1 hb;exact ⟨j,_,List.getElem?_eq_getElem hj,e⟩
   have HFND:=aa hfnd;unfold maxLen at p2;clear hc1 r1 hem x0 x1_ x2_ x3_ hz1 hfnd
   go_loopw [6,7] (fun fv kv wk=>∃ (k:Nat) (f:Bool),k≤L1.length∧kv=.int .i64 k∧fv=.bool f∧Hid (∀ (j:Nat) o,j < k→L2[j]?=some o→fl x1=fl o→f=true)∧Hid (Below w.heap.size w wk)) (fun _ kv _=>L1.length - (intOf kv).toNat)
   case atStart=>exact ⟨0,false,Nat.zero_le _,rfl,rfl,fun j o hj=>absurd hj (by omega),HW⟩
   case round =>
    clear HW;obtain ⟨k,f,hk,rfl,rfl,HF,HW⟩:=hrel
    by_cases hkl:k < L1.length
    ·have hlt2:k < L2.length:=by rw [HLEN.out];exact hkl
     obtain ⟨g2,o2,ha2,hc2,q1,q2,lg2⟩:=bA cG H2.out k hlt2;subst ha2;have r2:=V2.out L2[k] (List.getElem_mem hlt2);have hok:L2[k]?=some L2[k]:=List.getElem?_eq_getElem hlt2;generalize L2[k]=x2 at *;obtain ⟨b2,e2,hz2⟩:=aq r2.1;have x0:=X0.out;have x1_:=X1.out;have x2_:=X2.out;have x3_:=X3.out;have y0:w.cell? ⟨g2,o2+k * 4,none⟩=some (.int .i64 x2.st):=hc2 0 (by omega);have y1:w.cell? ⟨g2,o2+k * 4+1,none⟩=some (.int .i64 x2.k):=hc2 1 (by omega);have y2:w.cell? ⟨g2,o2+k * 4+2,none⟩=some (.int .i64 x2.n):=hc2 2 (by omega);have y3:w.cell? ⟨g2,o2+k * 4+3,none⟩=some (.slice b2 x2.vs.length e2):=by rw [← hz2];exact hc2 3 (by omega)
     obtain ⟨sm,hsm⟩:∃ b,eqO (x1.st,x1.k,x1.n,x1.vs) (x2.st,x2.k,x2.n,x2.vs)=b:=⟨_,rfl⟩;have SP:=aa (fun w' (hb:Below w.heap.size w w')=>ir x1.st x1.k x1.n x2.st x2.k x2.n x1.vs x2.vs (.slice b1 x1.vs.length e1) (.slice b2 x2.vs.length e2) w' HR1.out.2 r2.2 (by rw [← HZ1.out];exact aA HR1.out.1 hb) (by rw [← hz2];exact aA r2.1 hb));rw [hsm] at SP;have HSM:Hid (fl x1=fl x2→sm=true):=fun e=>by
      rw [← hsm];exact decide_eq_true e
     have HOK:=aa hok;unfold maxLen at q2;rw [HLEN.out] at q1;clear hc2 r2 hz2 hsm hok;go_wp2_with fail;refine wp_region_held (S:=fun w'=>Below w.heap.size w w') (by kernel_rfl) ?_;have hS:Below w.heap.size w ({ wr with drawn:=wr.drawn+1 }:World):=HW.out.drew;generalize ({ wr with drawn:=wr.drawn+1 }:World)=wd at *;clear HW;refine HU 0 (v:=.slice (some ⟨g1,o1,none⟩) L1.length d1) rfl (fun wq hq=>by go_simp) hS ?_;refine HU 1 (v:=.int .i64 (m:Int)) rfl (fun wq hq=>by go_simp) hS ?_;refine HU 2 (v:=.pointer (some ⟨g1,o1+m * 4,none⟩)) rfl (fun wq hq=>by go_simp) hS ?_;refine HU 3 (v:=.agg #[.int .i64 x1.st,.int .i64 x1.k,.int .i64 x1.n,.slice b1 x1.vs.length e1]) rfl (fun wq hq=>by have q0:=(hq.cell (p:=⟨g1,o1+m * 4,none⟩) lg1).trans x0;have q1:=(hq.cell (p:=⟨g1,o1+m * 4+1,none⟩) lg1).trans x1_;have q2:=(hq.cell (p:=⟨g1,o1+m * 4+2,none⟩) lg1).trans x2_;have q3:=(hq.cell (p:=⟨g1,o1+m * 4+3,none⟩) lg1).trans x3_;go_simp) hS ?_;refine HU 4 (v:=.slice (some ⟨g2,o2,none⟩) L1.length d2) rfl (fun wq hq=>by go_simp) hS ?_;refine HU 5 (v:=.int .i64 (k:Int)) rfl (fun wq hq=>by go_simp) hS ?_;refine HU 6 (v:=.pointer (some ⟨g2,o2+k * 4,none⟩)) rfl (fun wq hq=>by go_simp) hS ?_;refine HU 7 (v:=.agg #[.int .i64 x2.st,.int .i64 x2.k,.int .i64 x2.n,.slice b2 x2.vs.length e2]) rfl (fun wq hq=>by have q0:=(hq.cell (p:=⟨g2,o2+k * 4,none⟩) lg2).trans y0;have q1:=(hq.cell (p:=⟨g2,o2+k * 4+1,none⟩) lg2).trans y1;have q2:=(hq.cell (p:=⟨g2,o2+k * 4+2,none⟩) lg2).trans y2;have q3:=(hq.cell (p:=⟨g2,o2+k * 4+3,none⟩) lg2).trans y3;go_simp) hS ?_;refine HG 8 rfl ?_;intro K' hK;go_simp;refine (SP.out _ hS).mono ?_;rintro e w1 ⟨rfl,hb⟩;have hS1:=hS.trans (hb.mono hS.size);refine hK _ _ ⟨hS1,?_⟩;clear hK hb;refine HU 9 (v:=.bool sm) rfl (fun wq hq=>by go_simp) hS1 ?_;refine wpAnyH_done (by kernel_rfl) ?_ _;have HP:=aa hS1;clear hS hS1 SP x0 x1_ x2_ x3_ y0 y1 y2 y3;cases f with
     | true =>
      have HF2:Hid (∀ (j:Nat) o,j < k+1→L2[j]?=some o→fl x1=fl o→true=true):=fun _ _ _ _ _=>rfl
      go_wp2_with fail;go_roundw
      case rel=>exact ⟨k+1,true,by omega,by go_num,rfl,HF2,HP⟩
      case measure=>simp [intOf];omega
     | false =>
      have HF2:Hid (∀ (j:Nat) o,j < k+1→L2[j]?=some o→fl x1=fl o→sm=true):=fun j o hj ho e=>by
       by_cases hjk:j=k
       ·subst hjk;rw [HOK.out] at ho;cases ho;exact HSM.out e
       ·have:=HF.out j o (by omega) ho e
        cases this
      go_wp2_with fail;go_roundw
      case rel=>exact ⟨k+1,sm,by omega,by go_num,rfl,HF2,HP⟩
      case measure=>simp [intOf];omega
    ·have hke:k=L1.length:=by omega
     subst hke;have hf:f=true:=by
      obtain ⟨j,o,ho,e⟩:=HFND.out;exact HF.out j o (by rw [← HLEN.out];exact (List.getElem?_eq_some_iff.1 ho).1) ho e
     subst hf;go_wp2_with fail;go_roundw
     case rel=>exact ⟨m+1,by omega,by go_num,HW⟩
     case measure=>simp [intOf];omega
  ·have hml:m=L1.length:=by omega
   subst hml;go_wp2_with fail
   go_ret
   exact ⟨rfl,HW.out⟩
theorem place_small (p n:Nat) (h:p < n) (h3:n≤3):placeE (p:Int) n=p:=by
 rcases (by omega:(p=0∧n=1)∨(p=0∧n=2)∨(p=0∧n=3)∨(p=1∧n=2)∨(p=1∧n=3)∨(p=2∧n=3)) with ⟨rfl,rfl⟩ | ⟨rfl,rfl⟩ | ⟨rfl,rfl⟩ | ⟨rfl,rfl⟩ | ⟨rfl,rfl⟩ | ⟨rfl,rfl⟩ <;> kernel_rfl
def ej (M:List (List Ev)) (p:Nat):List Int:=(List.range p).flatMap fun i=>List.replicate (M.getD i []).length (i:Int)
theorem fP (M:List (List Ev)) (p:Nat):ej M (p+1)=ej M p++List.replicate (M.getD p []).length (p:Int):=by
 unfold ej;rw [List.range_succ,List.flatMap_append]
 simp
theorem na {P X:List (List Ev)} {p:Nat} (hp:p < P.length) (h3:P.length≤3) (hX:X.length=P.length) {l l':List Ev} (hl':P[p]?=some l') (hl:∃ r,l'=l++r) (hx:X[p]?=some []):∀ k,k≤l.length→(List.replicate k (p:Int)).foldl (turnM P) X=X.set p (l.take k)
 | 0,_=>by
  show X=_
  rw [List.take_zero];exact (List.ext_getElem? fun j=>by
   by_cases hj:j=p
   ·subst hj;rw [List.getElem?_set_self (by omega),hx]
   ·rw [List.getElem?_set_ne (fun e=>hj e.symm)])
 | k+1,hk=>by
  rw [List.replicate_succ',List.foldl_append,na hp h3 hX hl' hl hx k (by omega)]
  show turnM P (X.set p (l.take k)) (p:Int)=_
  unfold turnM;rw [place_small p P.length hp h3,List.getElem?_set_self (by omega),hl'];obtain ⟨r,rfl⟩:=hl;have hlt:(l.take k).length=k:=by rw [List.length_take];omega
  have e:(l++r)[(l.take k).length]?=some (l[k]'(by omega)):=by
   rw [hlt,List.getElem?_append_left (by omega),List.getElem?_eq_getElem (by omega)]
  simp only [e];rw [List.set_set,← List.take_succ_eq_append_getElem (by omega)]
theorem ny {P M:List (List Ev)} (h3:P.length≤3) (h:nS M P):∀ p,p≤P.length→runM P (ej M p)=M.take p++List.replicate (P.length - p) []
 | 0,_=>by simp [runM,ej]
 | p+1,hp=>by
  have hlen:=h.1;have ih:=ny h3 h p (by omega);rw [fP];unfold runM at ih ⊢;rw [List.foldl_append,ih];have hpm:p < M.length:=by omega
  have hX:(M.take p++List.replicate (P.length - p) ([]:List Ev)).length=P.length:=by rw [List.length_append,List.length_take,List.length_replicate];omega
  have hx:(M.take p++List.replicate (P.length - p) ([]:List Ev))[p]?=some []:=by
   rw [List.getElem?_append_right (by rw [List.length_take];omega),List.getElem?_replicate,if_pos (by rw [List.length_take];omega)]
  have hg:M.getD p []=M[p]:=by rw [List.getD_eq_getElem?_getD,List.getElem?_eq_getElem hpm];rfl
  rw [na (by omega) h3 hX (List.getElem?_eq_getElem (by omega:p < P.length)) (h.2 p M[p] _ (List.getElem?_eq_getElem hpm) (List.getElem?_eq_getElem (by omega))) hx _ (by rw [hg];exact Nat.le_refl _),hg,List.take_length];refine List.ext_getElem? fun j=>?_
  by_cases hj:j=p
  ·subst hj;rw [List.getElem?_set_self (by rw [hX];omega),List.getElem?_append_left (by rw [List.length_take];omega),List.getElem?_take_of_lt (by omega),List.getElem?_eq_getElem hpm]
  ·rw [List.getElem?_set_ne (fun e=>hj e.symm)]
   by_cases hjp:j < p
   ·rw [List.getElem?_append_left (by rw [List.length_take];omega),List.getElem?_append_left (by rw [List.length_take];omega),List.getElem?_take_of_lt (by omega),List.getElem?_take_of_lt (by omega)]
   ·rw [List.getElem?_append_right (by rw [List.length_take];omega),List.getElem?_append_right (by rw [List.length_take];omega),List.getElem?_replicate,List.getElem?_replicate,List.length_take,List.length_take];have e1:min p M.length=p:=by omega
    have e2:min (p+1) M.length=p+1:=by omega
    rw [e1,e2]
    by_cases hjn:j < P.length
    ·rw [if_pos (by omega),if_pos (by omega)]
    ·rw [if_neg (by omega),if_neg (by omega)]
theorem ones_all {P M:List (List Ev)} (h3:P.length≤3) (h:nS M P):runM P (ej M P.length)=M:=by
 rw [ny h3 h P.length (Nat.le_refl _),Nat.sub_self]
 simp [← h.1]
theorem iS (M:List (List Ev)):∀ p,p≤M.length→(ej M p).length=ix (M.take p)
 | 0,_=>by simp [ej,ix]
 | p+1,hp=>by
  rw [fP,List.length_append,iS M p (by omega),List.length_replicate,List.take_succ_eq_append_getElem (by omega)];unfold ix;rw [List.map_append,List.sum_append,List.getD_eq_getElem?_getD,List.getElem?_eq_getElem (by omega)]
  simp
theorem lU (M:List (List Ev)) (p:Nat):ix (M.take p)≤ix M:=by
 have e:=List.take_append_drop p M;have h:ix M=ix (M.take p)+ix (M.drop p):=by
  conv=>lhs;rw [← e]
  unfold ix;rw [List.map_append,List.sum_append]
 omega
end Go.Proofs.YtcgjflamgnjhcaaGreatDoor
