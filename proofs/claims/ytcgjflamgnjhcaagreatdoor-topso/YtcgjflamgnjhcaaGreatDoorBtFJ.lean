/- Own texts in one. Conditions: as named in each. -/
import Derived.Test.YtcgjflamgnjhcaaGreatDoorEnAJ
import Derived.Test.YtcgjflamgnjhcaaGreatDoorEnFpJ
set_option linter.unusedVariables false
set_option linter.unusedSimpArgs false
set_option maxRecDepth 100000
set_option maxHeartbeats 8000000
namespace Go.Proofs.YtcgjflamgnjhcaaGreatDoor
open Go.ChangeShapes Go.WideShapes Go.ChangeAt Go.RowKit
structure Po where
 (st k n:Int)
 vs:List V2
 v:Value
def b8 (p:Po):List Value:=[.int .i64 p.st,.int .i64 p.k,.int .i64 p.n,p.v]
theorem bF (p:Po):(b8 p).length=4:=rfl
def po0:Po:=⟨0,0,0,[],.slice none 0 0⟩
def el (o:Po):Int×Int×Int×List V2:=(o.st,o.k,o.n,o.vs)
def eT (p:Pn):Int×Int×Int×List V2:=(p.st,p.k,p.n,p.ac.map acV)
def zeroPo:List Value:=[.int .i64 0,.int .i64 0,.int .i64 0,.slice none 0 0]
theorem madeP (n:Nat):(madeCells #[Value.int .i64 0,Value.int .i64 0,Value.int .i64 0,Value.slice none 0 0] (n * 4)).toList=rowOf b8 (List.replicate n po0):=by
 have hl:zeroPo.length=4:=rfl;have hr:(rowOf b8 (List.replicate n po0)).length=n * 4:=by rw [bh bF,List.length_replicate]
 show (madeCells zeroPo.toArray (n * 4)).toList=_
 apply List.ext_getElem
 ·rw [hr]
  simp [madeCells]
 ·intro j h1 h2;rw [hr] at h2;have hm:j % 4 < zeroPo.length:=by rw [hl];exact Nat.mod_lt _ (by omega)
  have hi:j / 4 < n:=(Nat.div_lt_iff_lt_mul (by omega)).2 h2;have e:(madeCells zeroPo.toArray (n * 4)).toList[j]=zeroPo[j % 4]:=by
   simp [madeCells,hl]
   rw [List.getElem?_eq_getElem hm]
   rfl
  rw [e]
  apply Option.some.inj
  rw [← List.getElem?_eq_getElem,← List.getElem?_eq_getElem];have e2:j / 4 * 4+j % 4=j:=by rw [Nat.mul_comm];exact Nat.div_add_mod j 4
  have h9:=bV bF (List.replicate n po0) (j / 4) (j % 4) po0 (by rw [List.getElem?_replicate,if_pos hi]) (Nat.mod_lt _ (by omega));rw [e2] at h9;rw [h9]
  rfl
theorem rowPo_set (l:List Po) (i:Nat) (a:Po) (hi:i < l.length):((((rowOf b8 l).set (i * 4) (.int .i64 a.st)).set (i * 4+1) (.int .i64 a.k)).set (i * 4+2) (.int .i64 a.n)).set (i * 4+3) a.v=rowOf b8 (l.set i a):=by
 rw [dC l i hi,ce l i a hi];exact nF (gL bF l i hi)
structure PosR (B:Nat) (w:World) (u:Value) (os:List Po):Prop where
 row:w.ownsRow B 78 4 u os.length (rowOf b8 os)
 vs:∀ o∈os,w.ownsRow B 41 2 o.v o.vs.length (bW o.vs)
theorem infoAp:(Tryz.prog.info? 78).map (fun i=>(i.zero,i.size,i.bytes))=some (some (.agg #[.int .i64 0,.int .i64 0,.int .i64 0,.slice none 0 0]),4,48):=by kernel_rfl
theorem outs_any (tbl:List Pn) (tv:Value) (W:World) (hT:TblR W tv tbl) (hn:tbl.length≤500) (hk:∀ p∈tbl,p.ac.length≤100∧∀ a∈p.ac,1≤a.k∧a.k≤5) :
  Calls Tryz.prog 65 #[.agg #[tv]] W fun e w'=>∃ u os,e=.returned u∧PosR W.heap.size w' u os∧os.map el=tbl.map eT∧Below W.heap.size W w':=by
 obtain ⟨i0,hi,hz0,hz1,hz2⟩:=info_parts infoAp;obtain ⟨at_,ct,rfl⟩:=aF hT.row;have ba:=aj W (.cells #[.slice at_ tbl.length ct] 66);have BQ:=ay W [.slice at_ tbl.length ct] 66;have HT:=aa (bL hT ba);have HK:=aa hk;have HBA:=aa ba;clear hT hk
 go_enter Tryz.func65,Tryz.ntmps65
 go_wp2_with (at_make;go_must (refine wpList_make_full _ rfl _ _ 51 rfl W.heap.size 78 i0 (.agg #[.int .i64 0,.int .i64 0,.int .i64 0,.slice none 0 0]) 4 Tryz.underlying51 hi hz0 hz1 .i64 .i64 _ _ tbl.length rfl rfl rfl rfl (by rw [hz2];omega) (by show _≤2 ^ 63 - 1;omega) (by simp) ?_))
 intro w1 ho hg;have hsz:(W.alloc (.cells #[.slice at_ tbl.length ct] 66)).heap.size=W.heap.size+1:=by simp
 have hb1:Below (W.alloc (.cells #[.slice at_ tbl.length ct] 66)).heap.size (W.alloc (.cells #[.slice at_ tbl.length ct] 66)) w1:=(Below.refl _ _).grown hg (Nat.le_refl _) (fun k hk=>by cases hk);have lq:=BQ.lt;have c0:w1.cell? ⟨W.heap.size,0,none⟩=some (.slice at_ tbl.length ct):=(ah BQ hb1 BQ.lt).c 0 (by simp);have ho':w1.ownsRow W.heap.size 78 4 (.slice (some ⟨W.heap.size+1,0,none⟩) tbl.length tbl.length) tbl.length (rowOf b8 (List.replicate tbl.length po0)):=by
  rw [← madeP];exact ho
 have HO:=aa ho';have HB:=aa hb1;have HSZ:=aa hsz;clear hb1 ho ho' hg ba BQ;go_wp2_with fail;clear c0;generalize W.alloc (.cells #[.slice at_ tbl.length ct] 66)=w0 at *
 go_loopw [13] (fun i wr=>∃ (m:Nat) (L:List Po),m≤tbl.length∧L.length=tbl.length∧i=.int .i64 m∧Hid (∀ j,j < m→(L.map el)[j]?=(tbl.map eT)[j]?)∧Hid (∀ j o,j < m→L[j]?=some o→wr.ownsRow (W.heap.size+1+1) 41 2 o.v o.vs.length (bW o.vs))∧Hid (wr.ownsRow W.heap.size 78 4 (.slice (some ⟨W.heap.size+1,0,none⟩) tbl.length tbl.length) tbl.length (rowOf b8 L))∧Hid (Below w0.heap.size w0 wr)) (fun i _=>tbl.length - (intOf i).toNat)
 case atStart=>exact ⟨0,List.replicate tbl.length po0,Nat.zero_le _,by simp,rfl,fun j hj=>absurd hj (by omega),fun j o hj=>absurd hj (by omega),HO,HB⟩
 case round =>
  clear HO HB;obtain ⟨m,L,hm,hL,rfl,HM,HV,HO,HB⟩:=hrel
  by_cases hlt:m < tbl.length
  ·have hTr:=bL HT.out HB.out;obtain ⟨g,off,hao,hcell,q1,q2,lg⟩:=bj aW (cf hTr.row) m hlt;subst hao;have hac:=hTr.acc tbl[m] (List.getElem_mem hlt);have hkm:=HK.out tbl[m] (List.getElem_mem hlt);have HPM:Hid ((tbl.map eT)[m]?=some (eT tbl[m])):=by show _=_;rw [List.getElem?_map,List.getElem?_eq_getElem hlt];rfl
   generalize tbl[m]=p at *;obtain ⟨st,k,n,told,ac,av⟩:=p;obtain ⟨a9,c9,hav⟩:=aF hac
   simp only at hav hkm
   subst hav;have y0:wr.cell? ⟨g,off+m * 5,none⟩=some (.int .i64 st):=hcell 0 (by omega);have y1:wr.cell? ⟨g,off+m * 5+1,none⟩=some (.int .i64 k):=hcell 1 (by omega);have y2:wr.cell? ⟨g,off+m * 5+2,none⟩=some (.int .i64 n):=hcell 2 (by omega);have y3:wr.cell? ⟨g,off+m * 5+3,none⟩=some (.slice a9 ac.length c9):=hcell 3 (by omega);have y4:wr.cell? ⟨g,off+m * 5+4,none⟩=some (.bool told):=hcell 4 (by omega);have ba2:=aj wr (.cells #[.int .i64 st,.int .i64 k,.int .i64 n,.slice a9 ac.length c9,.bool told] 84);have OT:=kV ⟨st,k,n,told,ac,.slice a9 ac.length c9⟩ _ hkm.1 (bp hac ba2) hkm.2;unfold eo at OT
   simp only at OT
   have hvl:(ac.map acV).length=ac.length:=by simp
   rw [← hvl] at OT;have eP:eT ⟨st,k,n,told,ac,.slice a9 ac.length c9⟩=(st,k,n,ac.map acV):=rfl;rw [eP] at HPM;generalize hvs:ac.map acV=vs at *;rw [hvl] at OT;have OTH:=aa OT;have HO2:=aa (aB HO.out ba2 (Nat.le_refl _));have HB2:=aa (HB.out.trans (ba2.mono HB.out.size));have HV2:Hid (∀ j o,j < m→L[j]?=some o→(wr.alloc (.cells #[.int .i64 st,.int .i64 k,.int .i64 n,.slice a9 ac.length c9,.bool told] 84)).ownsRow (W.heap.size+1+1) 41 2 o.v o.vs.length (bW o.vs)):=fun j o hj ho=>aB (HV.out j o hj ho) ba2 (Nat.le_refl _)
   have HLL:=aa hL;have hgp:W.heap.size+1 < wr.heap.size:=(aJ HO.out _ rfl).2;have HVL:=aa hvl;unfold maxLen at q2;clear hTr hcell hac hkm ba2 OT eP hvs HV hL hvl;go_wp2_with fail;refine OTH.out.mono ?_;rintro e w2 ⟨u,rfl,hou,hb⟩;obtain ⟨a8,c8,rfl⟩:=ax hou;have HO3:=aa (aB HO2.out hb (Nat.le_refl _));have HB3:=aa (HB2.out.trans (hb.mono HB2.out.size));have HU:=aa (aK (base':=W.heap.size+1+1) hou (by simp;omega));have HV3:Hid (∀ j o,j < m→L[j]?=some o→w2.ownsRow (W.heap.size+1+1) 41 2 o.v o.vs.length (bW o.vs)):=fun j o hj ho=>aB (HV2.out j o hj ho) hb (Nat.le_refl _)
   clear hb hou HO2 HB2 HV2 HO HB OTH y0 y1 y2 y3 y4;have y0:=HO3.out.cellAt (m * 4) (by omega);have y1:=HO3.out.cellAt (m * 4+1) (by omega);have y2:=HO3.out.cellAt (m * 4+2) (by omega);have y3:=HO3.out.cellAt (m * 4+3) (by omega);have hrl:(rowOf b8 L).length=tbl.length * 4:=by rw [bh bF,HLL.out]
   rw [List.getElem?_eq_getElem (by omega)] at y0 y1 y2 y3;generalize (rowOf b8 L)[m * 4]=r0 at y0;generalize (rowOf b8 L)[m * 4+1]=r1 at y1;generalize (rowOf b8 L)[m * 4+2]=r2 at y2;generalize (rowOf b8 L)[m * 4+3]=r3 at y3;have z0:=aO HO3.out (m * 4);have z1:=aO HO3.out (m * 4+1);have z2:=aO HO3.out (m * 4+2);have z3:=aO HO3.out (m * 4+3);have HO4:=aa (aY (aY (aY (aY HO3.out (m * 4) (.int .i64 st)) (m * 4+1) (.int .i64 k)) (m * 4+2) (.int .i64 n)) (m * 4+3) (.slice a8 ac.length c8));rw [rowPo_set L m ⟨st,k,n,vs,.slice a8 ac.length c8⟩ (by rw [HLL.out];omega)] at HO4;have hset:∀ {v9:Value} {n9:Nat} {xs9:List Value},w2.ownsRow (W.heap.size+1+1) 41 2 v9 n9 xs9→((((w2.setCell ⟨W.heap.size+1,m * 4,none⟩ (.int .i64 st)).setCell ⟨W.heap.size+1,m * 4+1,none⟩ (.int .i64 k)).setCell ⟨W.heap.size+1,m * 4+2,none⟩ (.int .i64 n)).setCell ⟨W.heap.size+1,m * 4+3,none⟩ (.slice a8 ac.length c8)).ownsRow (W.heap.size+1+1) 41 2 v9 n9 xs9:=fun h=>by
    have ne:_≠some (W.heap.size+1):=fun e=>by have:=(aJ h _ e).1;omega
    exact ownsRow_setCell_other (ownsRow_setCell_other (ownsRow_setCell_other (ownsRow_setCell_other h (a:=⟨W.heap.size+1,m * 4,none⟩) ne _) (a:=⟨W.heap.size+1,m * 4+1,none⟩) ne _) (a:=⟨W.heap.size+1,m * 4+2,none⟩) ne _) (a:=⟨W.heap.size+1,m * 4+3,none⟩) ne _
   have HV4:Hid (∀ j o,j < m+1→(L.set m ⟨st,k,n,vs,.slice a8 ac.length c8⟩)[j]?=some o→((((w2.setCell ⟨W.heap.size+1,m * 4,none⟩ (.int .i64 st)).setCell ⟨W.heap.size+1,m * 4+1,none⟩ (.int .i64 k)).setCell ⟨W.heap.size+1,m * 4+2,none⟩ (.int .i64 n)).setCell ⟨W.heap.size+1,m * 4+3,none⟩ (.slice a8 ac.length c8)).ownsRow (W.heap.size+1+1) 41 2 o.v o.vs.length (bW o.vs)):=fun j o hj ho=>by
    by_cases h9:j=m
    ·subst h9;rw [List.getElem?_set_self (by rw [HLL.out];omega)] at ho;cases ho
     show World.ownsRow _ _ _ 2 (.slice a8 ac.length c8) vs.length (bW vs)
     rw [HVL.out];exact hset HU.out
    ·rw [List.getElem?_set_ne (fun e=>h9 e.symm)] at ho;exact hset (HV3.out j o (by omega) ho)
   have HM4:Hid (∀ j,j < m+1→((L.set m ⟨st,k,n,vs,.slice a8 ac.length c8⟩).map el)[j]?=(tbl.map eT)[j]?):=fun j hj=>by
    rw [List.getElem?_map]
    by_cases h9:j=m
    ·subst h9;rw [List.getElem?_set_self (by rw [HLL.out];omega),HPM.out]
     rfl
    ·rw [List.getElem?_set_ne (fun e=>h9 e.symm),← List.getElem?_map];exact HM.out j (by omega)
   have st9:=fun (a:Nat) (v:Value) (wz:World) (h:Below w0.heap.size w0 wz)=>h.setCell (p:=⟨W.heap.size+1,a,none⟩) (by rw [HSZ.out];exact Nat.le_refl _) v
   have HB4:=aa (st9 (m * 4+3) (.slice a8 ac.length c8) _ (st9 (m * 4+2) (.int .i64 n) _ (st9 (m * 4+1) (.int .i64 k) _ (st9 (m * 4) (.int .i64 st) _ HB3.out))));have HL4:Hid ((L.set m ⟨st,k,n,vs,.slice a8 ac.length c8⟩).length=tbl.length):=by show _=_;rw [List.length_set,HLL.out]
   clear hrl HO3 HB3 HV3 HU hset st9 HM;go_wp2_with fail;go_roundw
   case rel=>exact ⟨m+1,L.set m ⟨st,k,n,vs,.slice a8 ac.length c8⟩,by omega,HL4.out,by go_num,HM4,HV4,HO4,HB4⟩
   case measure=>simp [intOf];omega
  ·have hme:m=tbl.length:=by omega
   subst hme;have e:L.map el=tbl.map eT:=ox (by simp [hL]) (fun j hj=>HM.out j (by simpa using hj));go_wp2_with fail
   go_ret
   refine ⟨_,L,rfl,⟨by rw [hL];exact HO.out,fun o ho=>?_⟩,e,HBA.out.trans (HB.out.mono HBA.out.size)⟩;obtain ⟨j,hj,rfl⟩:=List.mem_iff_getElem.1 ho;exact aK (HV.out j _ (by omega) (List.getElem?_eq_getElem hj)) (by omega)
theorem im {α:Type} (lt:α→α→Prop) (hirr:∀ a,¬ lt a a) (has:∀ a b,lt a b→¬ lt b a):∀ (l m:List α),l.Pairwise lt→m.Pairwise lt→(∀ x,x∈l↔x∈m)→l=m
 | [],[],_,_,_=>rfl
 | [],b :: m,_,_,h=>absurd ((h b).2 List.mem_cons_self) (by simp)
 | a :: l,[],_,_,h=>absurd ((h a).1 List.mem_cons_self) (by simp)
 | a :: l,b :: m,hl,hm,h=>by
  obtain ⟨hl1,hl2⟩:=List.pairwise_cons.1 hl;obtain ⟨hm1,hm2⟩:=List.pairwise_cons.1 hm;have hab:a=b:=by
   rcases List.mem_cons.1 ((h a).1 List.mem_cons_self) with e | e
   ·exact e
   ·rcases List.mem_cons.1 ((h b).2 List.mem_cons_self) with e2 | e2
    ·exact e2.symm
    ·exact absurd (hm1 a e) (has _ _ (hl1 b e2))
  subst hab;rw [im lt hirr has l m hl2 hm2 (fun x=>⟨fun hx=>?_,fun hx=>?_⟩)]
  ·rcases List.mem_cons.1 ((h x).1 (List.mem_cons_of_mem _ hx)) with e | e
   ·subst e;exact absurd (hl1 x hx) (hirr x)
   ·exact e
  ·rcases List.mem_cons.1 ((h x).2 (List.mem_cons_of_mem _ hx)) with e | e
   ·subst e;exact absurd (hm1 x hx) (hirr x)
   ·exact e
def qD (ks:List Int) (cs cs':List Ct):Prop:=∀ st k n,gg ks (ofK st k n cs)=gg ks (ofK st k n cs')∧(ofK st k n cs=[]↔ofK st k n cs'=[])
theorem acAdd_comm (a:Ac) (u v:V2):jI (jI a u) v=jI (jI a v) u:=by
 have e:=gstep_comm a.k (a.n,a.s,a.b) u v;unfold jI
 simp only
 rw [e]
theorem addL_comm (ac:List Ac) (u v:List V2):d8 (d8 ac u) v=d8 (d8 ac v) u:=by
 unfold d8
 induction ac generalizing u v with
 | nil=>simp
 | cons a ac ih =>
  cases u with
  | nil=>cases v <;> simp
  | cons x u =>
   cases v with
   | nil=>simp
   | cons y v=>simp [acAdd_comm a x y,ih]
theorem sameK_perm (ks:List Int) {cs cs':List Ct} (h:cs.Perm cs'):qD ks cs cs':=fun st k n=>by
 have hp:(ofK st k n cs).Perm (ofK st k n cs'):=h.filter _;refine ⟨?_,?_⟩
 ·unfold gg;exact hp.foldl_eq' (fun x _ y _ z=>addL_comm z x.vs y.vs) _
 ·constructor
  ·intro e;rw [e] at hp;exact List.nil_perm.1 hp
  ·intro e;rw [e] at hp;exact List.perm_nil.1 hp
def dA (size upto:Int) (p:Pn):Bool:=!p.told && decide (p.st+size≤upto)
def cR (size upto:Int) (p:Pn):Pn:=if dA size upto p then { p with told:=true } else p
def dm (p:Pn):Int×Int×Int:=(p.st,p.k,p.n)
def tells (size upto:Int) (ps:List Pn) (m:Nat):List Pn:=(ps.take m).map (cR size upto)++ps.drop m
theorem eG {α:Type} (ps:List α) (m:Nat) (h:m < ps.length):ps.take (m+1)=ps.take m++[ps[m]]:=by
 rw [List.take_add_one,List.getElem?_eq_getElem h]
 rfl
theorem gF (size upto:Int) (ps:List Pn) (m:Nat):(tells size upto ps m).length=ps.length:=by
 simp [tells];omega
theorem lf (size upto:Int) (ps:List Pn) (m:Nat) (h:m < ps.length):(tells size upto ps m)[m]?=some ps[m]:=by
 have hl:((ps.take m).map (cR size upto)).length=m:=by simp;omega
 unfold tells;rw [List.getElem?_append_right (by omega),hl]
 simp [h]
theorem jS (size upto:Int) (ps:List Pn) (m:Nat) (h:m < ps.length):tells size upto ps (m+1)=(tells size upto ps m).set m (cR size upto ps[m]):=by
 have hl:((ps.take m).map (cR size upto)).length=m:=by simp;omega
 unfold tells;rw [eG ps m h,List.map_append,List.drop_eq_getElem_cons h,List.set_append,if_neg (by omega),hl];simp only [Nat.sub_self,List.set_cons_zero,List.map_cons,List.map_nil,List.append_assoc,List.singleton_append]
theorem tells_same (size upto:Int) (ps:List Pn) (m:Nat) (h:m < ps.length) (hd:dA size upto ps[m]=false):tells size upto ps (m+1)=tells size upto ps m:=by
 rw [jS _ _ _ _ h];have:cR size upto ps[m]=ps[m]:=by simp [cR,hd]
 rw [this];exact List.ext_getElem? fun i=>by
  rw [List.getElem?_set]
  split
  ·rename_i he;subst he;rw [lf _ _ _ _ h,if_pos (by rw [gF];exact h)]
  ·rfl
theorem tells_end (size upto:Int) (ps:List Pn):tells size upto ps ps.length=ps.map (cR size upto):=by simp [tells]
def nV (p:Pn):Int×Int×Int×List Ac:=(p.st,p.k,p.n,p.ac)
def dues (size upto:Int) (ps:List Pn) (m:Nat):List (Int×Int×Int×List Ac):=((ps.take m).filter (dA size upto)).map nV
theorem dues_same (size upto:Int) (ps:List Pn) (m:Nat) (h:m < ps.length) (hd:dA size upto ps[m]=false):dues size upto ps (m+1)=dues size upto ps m:=by
 unfold dues;rw [eG ps m h,List.filter_append];simp only [List.filter_cons,hd,Bool.false_eq_true,if_false,List.filter_nil,List.append_nil]
theorem dues_next (size upto:Int) (ps:List Pn) (m:Nat) (h:m < ps.length) (hd:dA size upto ps[m]=true):dues size upto ps (m+1)=dues size upto ps m++[nV ps[m]]:=by
 unfold dues;rw [eG ps m h,List.filter_append];simp only [List.filter_cons,hd,if_true,List.filter_nil,List.map_append,List.map_cons,List.map_nil]
theorem set_one5 {A B:List Value} {x0 x1 x2 x3 x4 u4:Value} {k:Nat} (h:A.length=k):(A++([x0,x1,x2,x3,x4]++B)).set (k+4) u4=A++([x0,x1,x2,x3,u4]++B):=by
 subst h
 simp [List.set_append]
theorem rowP_told (l:List Pn) (i:Nat) (hi:i < l.length):(rowOf aG l).set (i * 5+4) (.bool true)=rowOf aG (l.set i { l[i] with told:=true }):=by
 rw [dC l i hi,ce l i _ hi];exact set_one5 (gL aW l i hi)
structure TellR (B:Nat) (w:World) (n:Nat) (u v:Value) (L T:List Pn):Prop where
 ln:L.length=n
 ro:w.ownsRow B 84 5 u n (rowOf aG L)
 rv:w.ownsRow B 84 5 v T.length (rowOf aG T)
 ne:∀ k,u.ownBlock=some k→v.ownBlock≠some k
 ac:∀ p∈T,jH w p∧∀ k,p.av.ownBlock=some k→B≤k∧u.ownBlock≠some k∧v.ownBlock≠some k
theorem g7 {B n:Nat} {w w':World} {u v:Value} {L T:List Pn} (h:TellR B w n u v L T) (hb:Below w.heap.size w w'):TellR B w' n u v L T :=
 ⟨h.ln,aB h.ro hb (Nat.le_refl _),aB h.rv hb (Nat.le_refl _),h.ne,fun p hp=>⟨bp (h.ac p hp).1 hb,(h.ac p hp).2⟩⟩
theorem tell_start {B:Nat} {w:World} {u:Value} {ps:List Pn} (size upto:Int) (h:w.ownsRow B 84 5 u ps.length (rowOf aG ps)):TellR B w ps.length u (.slice none 0 0) (tells size upto ps 0) []:=by
 have e:tells size upto ps 0=ps:=by simp [tells]
 rw [e];exact ⟨rfl,h,World.ownsRow_nil _ _ _ _,fun k _ h=>by simp [Value.ownBlock] at h,fun p hp=>by simp at hp⟩
theorem oU {w:World} {p:Pn} (h:jH w p) {k:Nat} (hk:p.av.ownBlock=some k):k < w.heap.size:=by
 obtain ⟨_,h⟩:=h
 rcases h with ⟨h1,_⟩ | ⟨g,off,cap,h1,_,_,h4,_⟩
 ·rw [h1] at hk
  simp [Value.ownBlock] at hk
 ·rw [h1] at hk;have:g=k:=by simpa [Value.ownBlock] using hk
  omega
theorem tell_app {B n:Nat} {w w1 w2:World} {u v v':Value} {L T:List Pn} (p:Pn) (h:TellR B w n u v L T) (hb:Below w.heap.size w w1) (ho:w2.ownsRow B 84 5 v' (T.length+1) (rowOf aG T++aG p)) (hg:w1.grownBy w2 v.ownBlock)
  (hob:v'.ownBlock=v.ownBlock∨v'.ownBlock=some w1.heap.size) (ha:jH w p) (hp:∀ k,p.av.ownBlock=some k→B≤k∧u.ownBlock≠some k∧v.ownBlock≠some k):TellR B w2 n u v' L (T++[p]):=by
 have K:KeptB w w2 (fun k=>v.ownBlock=some k):=cW (ae hb) hg (fun k hk _=>hk);have hsz:=hb.size;have hne:∀ k,k < w.heap.size→v.ownBlock≠some k→v'.ownBlock≠some k:=fun k hk h1 h2=>by
  rcases hob with e | e
  ·rw [e] at h2;exact h1 h2
  ·rw [e] at h2
   have:=Option.some.inj h2
   omega
 refine ⟨h.ln,bf h.ro K (fun k hk e=>h.ne k hk e),?_,fun k hk=>hne k (aJ h.ro k hk).2 (h.ne k hk),fun q hq=>?_⟩
 ·rw [List.length_append,cB,iU];exact ho
 ·rcases List.mem_append.1 hq with hq | hq
  ·obtain ⟨h1,h2⟩:=h.ac q hq;exact ⟨aX h1 K (fun k hk e=>(h2 k hk).2.2 e),fun k hk=>⟨(h2 k hk).1,(h2 k hk).2.1,hne k (oU h1 hk) (h2 k hk).2.2⟩⟩
  ·rw [List.mem_singleton.1 hq];exact ⟨aX ha K (fun k hk e=>(hp k hk).2.2 e),fun k hk=>⟨(hp k hk).1,(hp k hk).2.1,hne k (oU ha hk) (hp k hk).2.2⟩⟩
theorem cells5 (w:World) (p:Pn) (g:Nat) (e:TypeId) (hg:g=w.heap.size):∀ j u,(aG p)[j]?=some u→(w.alloc (.cells #[.int .i64 p.st,.int .i64 p.k,.int .i64 p.n,p.av,.bool p.told] e)).cell? ((⟨g,0,none⟩:Addr).add j)=some u:=by
 intro j u h;subst hg;have hj:j < 5:=by simpa [aG] using (List.getElem?_eq_some_iff.1 h).1
 have:=World.ownsRow_lit (base:=0) (size:=5) (e:=e) w #[.int .i64 p.st,.int .i64 p.k,.int .i64 p.n,p.av,.bool p.told] 1 (Nat.zero_le _) (by decide) rfl
 have:=this.cellAt j (by omega)
 rw [show (⟨w.heap.size,0,none⟩:Addr).add j=⟨w.heap.size,j,none⟩ from by simp [Addr.add];intro h;exact h.symm,this];exact h
theorem tell_gen (ps:List Pn) (tv:Value) (size upto:Int) (w:World) (hT:TblR w tv ps) (hl:ps.length≤500) (hst:∀ p∈ps,-100000≤p.st∧p.st≤100000) (h3:1≤size) (h4:size≤100000) (hal:∀ p∈ps,p.ac.length≤100) :
  Calls Tryz.prog 95 #[.agg #[tv],.int .i64 size,.int .i64 upto] w fun e w'=>∃ u v T,e=.returned (.tuple #[.agg #[u],v])∧TblR w' u (ps.map (cR size upto))∧TblR w' v T ∧
   T.map nV=(ps.filter (dA size upto)).map nV∧(bu w.heap.size u∧bu w.heap.size v∧∀ p∈T,bu w.heap.size p.av)∧Below w.heap.size w w':=by
 obtain ⟨i0,hi,hz0,hz1,hz2⟩:=info_parts infoP;obtain ⟨ao,cap,rfl⟩:=aF hT.row;have b1:=(Below.refl w.heap.size w).alloc (Nat.le_refl _) (.cells #[.slice ao ps.length cap] 66);have b2:=b1.alloc b1.size (.cells #[.slice none 0 0] 66);have A1:=aN (w.alloc (.cells #[.slice ao ps.length cap] 66)) [.slice none 0 0] 66 (by simp);have s1:(w.alloc (.cells #[.slice ao ps.length cap] 66)).heap.size=w.heap.size+1:=by simp
 have s2:((w.alloc (.cells #[.slice ao ps.length cap] 66)).alloc (.cells #[.slice none 0 0] 66)).heap.size=w.heap.size+2:=by simp
 rw [s1] at A1;have CL:=aa (gV ps _ _ (by omega) (bL hT b2));rw [s2] at CL;have HB:=aa b2;have HT:=aa hT;have HST:=aa hst;have HAL:=aa hal;have D1:=aa A1;have S2:=aa s2;clear b1 b2 A1 s1 s2 hT hst hal
 go_enter Tryz.func95,Tryz.ntmps95
 go_wp2_with fail;refine CL.out.mono ?_;rintro e w1 ⟨u,rfl,ho,hb⟩;have E1:=aa (ah D1.out (hb.mono (Nat.le_of_eq S2.out)) (by have:=S2.out;have:=D1.out.lt;omega));have HB:=nxt HB (hb.mono (Nat.le_of_eq S2.out));obtain ⟨au,cu,rfl⟩:=ax ho;have HO:=aa ho;clear hb ho CL D1 S2;go_wp2_with fail
 go_loopw [9,17] (fun v i wr=>∃ (m:Nat) (T:List Pn),m≤ps.length∧T.length≤m∧i=.int .i64 m∧Hid (TellR (w.heap.size+2) wr ps.length (.slice au ps.length cu) v (tells size upto ps m) T)∧Hid (T.map nV=dues size upto ps m)∧Hid (BlkAt wr (w.heap.size+1) [.slice none 0 0])∧Hid (Below w.heap.size w wr)) (fun v i _=>ps.length - (intOf i).toNat)
 case atStart =>
  exact ⟨0,[],Nat.zero_le _,Nat.le_refl _,rfl,aa (tell_start size upto HO.out),rfl,E1,HB⟩
 case round =>
  clear HO E1 HB;obtain ⟨m,T,hm,hTm,rfl,HR,HK,B1,HB⟩:=hrel;obtain ⟨av,cv,rfl⟩:=ax HR.out.rv
  by_cases hlt:m < ps.length
  ·obtain ⟨g,cg,he,gb,gs,gc,gm⟩:=fO HR.out.ro (by omega);cases he;have hcw:∀ (w':World),w'.ownsRow (w.heap.size+2) 84 5 (.slice (some ⟨g,0,none⟩) ps.length cu) ps.length (rowOf aG (tells size upto ps m))→∀ j,j < 5→w'.cell? ⟨g,m * 5+j,none⟩=(aG ps[m])[j]?:=fun w' h j hj=>by
    rw [h.cellAt (m * 5+j) (mU hlt hj),bV aW _ m j ps[m] (lf _ _ _ _ hlt) hj]
   have hc:=hcw wr HR.out.ro;have TT:Hid ((rowOf aG (tells size upto ps m)).set (m * 5+4) (.bool true)=rowOf aG ((tells size upto ps m).set m { ps[m] with told:=true })):=by
    have hl9:m < (tells size upto ps m).length:=by rw [gF];exact hlt
    have h9:=rowP_told (tells size upto ps m) m hl9;have h8:(tells size upto ps m)[m]=ps[m]:=by
     have:=lf size upto ps m hlt
     rw [List.getElem?_eq_getElem hl9] at this;exact Option.some.inj this
    rw [h8] at h9;exact h9
   have hacc:=HT.out.acc ps[m] (List.getElem_mem hlt);have hst:=HST.out ps[m] (List.getElem_mem hlt);have hal:=HAL.out ps[m] (List.getElem_mem hlt);have TN:=aa (jS size upto ps m hlt);have TS:=aa (tells_same size upto ps m hlt);have DN:=aa (dues_next size upto ps m hlt);have DS:=aa (dues_same size upto ps m hlt);generalize ps[m]=p at *;obtain ⟨x1,x2,x3,x4,x5,x6⟩:=p;obtain ⟨ap,cp,hav⟩:=aF hacc
   simp only at hav hst hal
   subst hav;have y0:wr.cell? ⟨g,m * 5,none⟩=some (.int .i64 x1):=hc 0 (by omega);have y1:wr.cell? ⟨g,m * 5+1,none⟩=some (.int .i64 x2):=hc 1 (by omega);have y2:wr.cell? ⟨g,m * 5+2,none⟩=some (.int .i64 x3):=hc 2 (by omega);have y3:wr.cell? ⟨g,m * 5+3,none⟩=some (.slice ap x5.length cp):=hc 3 (by omega);have y4:wr.cell? ⟨g,m * 5+4,none⟩=some (.bool x4):=hc 4 (by omega);unfold maxLen at gm;have HACC:=aa hacc;have HCW:=aa hcw
   simp only at TT
   clear hc hacc hcw;have hA:=(Below.refl wr.heap.size wr).alloc (Nat.le_refl _) (.cells #[.int .i64 x1,.int .i64 x2,.int .i64 x3,.slice ap x5.length cp,.bool x4] 84);have HBA:=nxt HB hA;have HRA:=aa (g7 HR.out hA);have B1A:=aa (ah B1.out hA B1.out.lt);have EN:=aa (mW ⟨x1,x2,x3,x4,x5,.slice ap x5.length cp⟩ size upto (wr.alloc (.cells #[.int .i64 x1,.int .i64 x2,.int .i64 x3,.slice ap x5.length cp,.bool x4] 84)) hst.1 hst.2 h3 h4 ⟨_,_,_,rfl⟩);unfold eo at EN
   simp only at EN
   have CA:Hid (∀ o,o < 5 * 100000→True):=fun _ _=>trivial
   clear hA HR B1 HB CA;cases x4 with
   | true =>
    clear EN TN DN;go_wp2_with fail;go_roundw
    case rel=>exact ⟨m+1,T,by omega,by omega,by go_num,by rw [TS.out rfl];exact HRA,by rw [DS.out rfl];exact HK,B1A,HBA⟩
    case measure=>simp [intOf];omega
   | false =>
    generalize hr:decide (x1+size≤upto)=r at *;have HDU:Hid (dA size upto ⟨x1,x2,x3,false,x5,.slice ap x5.length cp⟩=r):=by
     show _=_
     simp [dA,hr]
    clear hr;go_wp2_with fail;refine EN.out.mono ?_;rintro e w2 ⟨rfl,hb⟩;have HB2:=nxt HBA hb;have HR2:=aa (g7 HRA.out hb);have B2:=aa (ah B1A.out hb B1A.out.lt);clear hb EN HBA HRA B1A;cases r with
    | false =>
     clear TN DN;go_wp2_with fail;go_roundw
     case rel=>exact ⟨m+1,T,by omega,by omega,by go_num,by rw [TS.out HDU.out];exact HR2,by rw [DS.out HDU.out];exact HK,B2,HB2⟩
     case measure=>simp [intOf];omega
    | true =>
     have TE:Hid (tells size upto ps (m+1)=(tells size upto ps m).set m ⟨x1,x2,x3,true,x5,.slice ap x5.length cp⟩):=by
      show _=_
      rw [TN.out]
      simp [cR,HDU.out]
     have z4:w2.cell? ⟨g,m * 5+4,none⟩=some (.bool false):=HCW.out w2 HR2.out.ro 4 (by omega);have f4:=aO HR2.out.ro (m * 5+4);have RO3:=aY HR2.out.ro (m * 5+4) (.bool true);rw [TT.out,← TE.out] at RO3;have TA:(tells size upto ps (m+1))[m]?=some ⟨x1,x2,x3,true,x5,.slice ap x5.length cp⟩:=by
      rw [TE.out,List.getElem?_set_self (by rw [gF];exact hlt)]
     have cA:∀ j,j < 5→(w2.setCell ⟨g,m * 5+4,none⟩ (.bool true)).cell? ⟨g,m * 5+j,none⟩=(aG ⟨x1,x2,x3,true,x5,.slice ap x5.length cp⟩)[j]?:=fun j hj=>by
      rw [RO3.cellAt (m * 5+j) (mU hlt hj),bV aW _ m j _ TA hj]
     have s0:(w2.setCell ⟨g,m * 5+4,none⟩ (.bool true)).cell? ⟨g,m * 5,none⟩=some (.int .i64 x1):=cA 0 (by omega);have s1:(w2.setCell ⟨g,m * 5+4,none⟩ (.bool true)).cell? ⟨g,m * 5+1,none⟩=some (.int .i64 x2):=cA 1 (by omega);have s2:(w2.setCell ⟨g,m * 5+4,none⟩ (.bool true)).cell? ⟨g,m * 5+2,none⟩=some (.int .i64 x3):=cA 2 (by omega);have s3:(w2.setCell ⟨g,m * 5+4,none⟩ (.bool true)).cell? ⟨g,m * 5+3,none⟩=some (.slice ap x5.length cp):=cA 3 (by omega);have s4:(w2.setCell ⟨g,m * 5+4,none⟩ (.bool true)).cell? ⟨g,m * 5+4,none⟩=some (.bool true):=cA 4 (by omega);have gw2:=(aJ HR2.out.ro g rfl).2;have K3:=ai (ae (bad:=fun k=>k=g) (Below.refl w2.heap.size w2)) rfl (m * 5+4) (.bool true);have RV3:=bf HR2.out.rv K3 (fun k hk e=>HR2.out.ne g rfl (by rw [← e];exact hk));have AC3:∀ p∈T,jH (w2.setCell ⟨g,m * 5+4,none⟩ (.bool true)) p∧∀ k,p.av.ownBlock=some k→w.heap.size+2≤k∧(Value.slice (some ⟨g,0,none⟩) ps.length cu).ownBlock≠some k∧(Value.slice av T.length cv).ownBlock≠some k:=fun p hp =>
      ⟨aX (HR2.out.ac p hp).1 K3 (fun k hk e=>((HR2.out.ac p hp).2 k hk).2.1 (by rw [e];rfl)),(HR2.out.ac p hp).2⟩
     have HR3:=aa (TellR.mk (gF size upto ps (m+1)) RO3 RV3 HR2.out.ne AC3);have HB3:=aa (HB2.out.setCell (p:=⟨g,m * 5+4,none⟩) (by show _≤g;omega) (.bool true));have B3:=aa (aS B2.out (g':=g) (by omega) (m * 5+4) (.bool true));have OW:=aa (mt ⟨x1,x2,x3,true,x5,.slice ap x5.length cp⟩ _ (by simp only;omega) (bp (p:=⟨x1,x2,x3,true,x5,.slice ap x5.length cp⟩) HACC.out HB3.out));unfold eo at OW
     simp only at OW
     have VV:Hid (∀ k,(Value.slice av T.length cv).ownBlock=some k→k < (w2.setCell ⟨g,m * 5+4,none⟩ (.bool true)).heap.size):=fun k hk=>(aJ HR3.out.rv k hk).2
     have G3:Hid (g < (w2.setCell ⟨g,m * 5+4,none⟩ (.bool true)).heap.size):=aa (by simpa using gw2);clear TS DS TN TT HCW K3 RV3 AC3 cA TA RO3 HR2 HB2 B2 gw2;go_wp2_with fail;refine OW.out.mono ?_;rintro e w4 ⟨u4,rfl,ho,hb⟩;obtain ⟨a4,c4,rfl⟩:=ax ho;have AR4:=aa (bg ho);have NA4:=aa (fun k hk=>(aJ ho k hk));have HB4:=nxt HB3 hb;have HR4:=aa (g7 HR3.out hb);have B4:=aa (ah B3.out hb B3.out.lt);have S34:=aa hb.size;clear ho hb OW HB3 HR3 B3 s0 s1 s2 s3 s4 z4 f4;have al:=(Below.refl w4.heap.size w4).alloc (Nat.le_refl _) (.cells #[.int .i64 x1,.int .i64 x2,.int .i64 x3,.slice a4 x5.length c4,.bool true] 84);have HRV:=aa (aB HR4.out.rv al (Nat.le_refl _));have HSZ:Hid (w.heap.size+2≤(w4.alloc (.cells #[.int .i64 x1,.int .i64 x2,.int .i64 x3,.slice a4 x5.length c4,.bool true] 84)).heap.size):=aa (by have:=B4.out.lt;have:=al.size;omega);have AL:=aa al;have CN:=aa (cells5 w4 ⟨x1,x2,x3,true,x5,.slice a4 x5.length c4⟩ w4.heap.size 84 rfl);clear al
     go_wp2_with (at_builtin;go_must (refine wpList_append_own_at _ rfl (.tmp 35) (.tmp 41) 64 rfl (w.heap.size+2) 84 i0 (.agg #[.int .i64 0,.int .i64 0,.int .i64 0,.slice none 0 0,.bool false]) 5 56 Tryz.underlying64 hi hz0 hz1 hz2 rfl (by decide) _ _ _ rfl HRV.out _ 1 1 (aG ⟨x1,x2,x3,true,x5,.slice a4 x5.length c4⟩) rfl rfl CN.out (by simp [aG,Value.oneCell']) (by show _≤2 ^ 63 - 1;omega) (by omega) HSZ.out ?_))
     intro v' w6 ho hg _ hob;have HR6:=aa (tell_app ⟨x1,x2,x3,true,x5,.slice a4 x5.length c4⟩ HR4.out AL.out ho hg (by simpa using hob) AR4.out (fun k hk=>⟨by have:=(NA4.out k hk).1;have:=G3.out;omega,fun e=>by
      have h1:=(NA4.out k hk).1;have h2:g=k:=by simpa [Value.ownBlock] using e
      have:=G3.out
      omega,fun e=>by
      have h1:=(NA4.out k hk).1;have h2:=VV.out k e;omega⟩))
     have HB6:=aa ((HB4.out.alloc HB4.out.size (.cells #[.int .i64 x1,.int .i64 x2,.int .i64 x3,.slice a4 x5.length c4,.bool true] 84)).grown hg (by have:=HB4.out.size;have:=AL.out.size;omega) (fun k hk=>by have:=(aJ HR4.out.rv k hk).1;omega));have B6:=aa (fx (ah B4.out AL.out B4.out.lt) hg (fun e=>by have:=(aJ HR4.out.rv _ e).1;omega));obtain ⟨a6,c6,rfl⟩:=ax ho;clear ho hg hob HR4 HB4 B4 AL HRV HSZ CN VV NA4 AR4 G3 S34;go_wp2_with fail;go_roundw
     case rel=>exact ⟨m+1,T++[⟨x1,x2,x3,true,x5,.slice a4 x5.length c4⟩],by omega,by simp;omega,by go_num,by simpa using HR6,by
      have h9:=DN.out HDU.out;have h8:=HK.out
      show _=_
      rw [h9,← h8,List.map_append]
      rfl,B6,HB6⟩
     case measure=>simp [intOf];omega
  ·have hme:m=ps.length:=by omega
   subst hme;have c0:wr.cell? ⟨w.heap.size+1,0,none⟩=some (.slice none 0 0):=B1.out.c 0 (by simp);have f0:=B1.out.fz 0;go_wp2_with fail;have KZ:=ai (ae (bad:=fun k=>k=w.heap.size+1) (Below.refl wr.heap.size wr)) rfl 0 (.slice au ps.length cu);have ZB:=aa (HB.out.setCell (p:=⟨w.heap.size+1,0,none⟩) (by show _≤w.heap.size+1;omega) (.slice au ps.length cu));refine bodyPost_ret (v:=.tuple #[.agg #[.slice au ps.length cu],.slice av T.length cv]) (by simp [results,Tryz.results95,go_sem,c0]) rfl ⟨_,_,T,rfl,⟨?_,fun p hp=>?_⟩,⟨?_,fun p hp=>?_⟩,?_,⟨fun k hk=>by have:=(aJ HR.out.ro k hk).1;omega,fun k hk=>by have:=(aJ HR.out.rv k hk).1;omega,fun p hp k hk=>by have:=((HR.out.ac p hp).2 k hk).1;omega⟩,ZB.out⟩
   ·rw [List.length_map,← tells_end];exact aX (bg HR.out.ro) KZ (fun k hk e=>by have:=(aJ HR.out.ro k hk).1;omega)
   ·obtain ⟨q,hq,rfl⟩:=List.mem_map.1 hp;have h9:=bp (HT.out.acc q hq) ZB.out;unfold cR
    split
    ·exact h9
    ·exact h9
   ·exact aX (bg HR.out.rv) KZ (fun k hk e=>by have:=(aJ HR.out.rv k hk).1;omega)
   ·exact aX (HR.out.ac p hp).1 KZ (fun k hk e=>by have:=((HR.out.ac p hp).2 k hk).1;omega)
   ·rw [HK.out];unfold dues;rw [List.take_length]
end Go.Proofs.YtcgjflamgnjhcaaGreatDoor
