/- Own texts in one. Conditions: as named in each. -/
import Derived.Test.YtcgjflamgnjhcaaGreatDoorEnFJ
import Derived.Laws.IdiomCopy
set_option linter.unusedVariables false
set_option linter.unusedSimpArgs false
set_option maxRecDepth 100000
set_option maxHeartbeats 8000000
namespace Go.Proofs.YtcgjflamgnjhcaaGreatDoor
open Go.ChangeShapes Go.WideShapes Go.ChangeAt Go.RowKit
def dz (size upto:Int) (p:Pn):Bool:=!p.told && decide (p.st+size≤upto)
def cP (size upto:Int) (p:Pn):Pn:=if dz size upto p then { p with told:=true } else p
def du (p:Pn):Int×Int×Int:=(p.st,p.k,p.n)
def tells (size upto:Int) (ps:List Pn) (m:Nat):List Pn:=(ps.take m).map (cP size upto)++ps.drop m
theorem ez {α:Type} (ps:List α) (m:Nat) (h:m < ps.length):ps.take (m+1)=ps.take m++[ps[m]]:=by
 rw [List.take_add_one,List.getElem?_eq_getElem h]
 rfl
theorem gH (size upto:Int) (ps:List Pn) (m:Nat):(tells size upto ps m).length=ps.length:=by
 simp [tells];omega
theorem kR (size upto:Int) (ps:List Pn) (m:Nat) (h:m < ps.length):(tells size upto ps m)[m]?=some ps[m]:=by
 have hl:((ps.take m).map (cP size upto)).length=m:=by simp;omega
 unfold tells;rw [List.getElem?_append_right (by omega),hl]
 simp [h]
theorem jK (size upto:Int) (ps:List Pn) (m:Nat) (h:m < ps.length):tells size upto ps (m+1)=(tells size upto ps m).set m (cP size upto ps[m]):=by
 have hl:((ps.take m).map (cP size upto)).length=m:=by simp;omega
 unfold tells;rw [ez ps m h,List.map_append,List.drop_eq_getElem_cons h,List.set_append,if_neg (by omega),hl];simp only [Nat.sub_self,List.set_cons_zero,List.map_cons,List.map_nil,List.append_assoc,List.singleton_append]
theorem tells_same (size upto:Int) (ps:List Pn) (m:Nat) (h:m < ps.length) (hd:dz size upto ps[m]=false):tells size upto ps (m+1)=tells size upto ps m:=by
 rw [jK _ _ _ _ h];have:cP size upto ps[m]=ps[m]:=by simp [cP,hd]
 rw [this];exact List.ext_getElem? fun i=>by
  rw [List.getElem?_set]
  split
  ·rename_i he;subst he;rw [kR _ _ _ _ h,if_pos (by rw [gH];exact h)]
  ·rfl
theorem tells_end (size upto:Int) (ps:List Pn):tells size upto ps ps.length=ps.map (cP size upto):=by simp [tells]
def nZ (p:Pn):Int×Int×Int×List Ac:=(p.st,p.k,p.n,p.ac)
def dues (size upto:Int) (ps:List Pn) (m:Nat):List (Int×Int×Int×List Ac):=((ps.take m).filter (dz size upto)).map nZ
theorem dues_same (size upto:Int) (ps:List Pn) (m:Nat) (h:m < ps.length) (hd:dz size upto ps[m]=false):dues size upto ps (m+1)=dues size upto ps m:=by
 unfold dues;rw [ez ps m h,List.filter_append];simp only [List.filter_cons,hd,Bool.false_eq_true,if_false,List.filter_nil,List.append_nil]
theorem dues_next (size upto:Int) (ps:List Pn) (m:Nat) (h:m < ps.length) (hd:dz size upto ps[m]=true):dues size upto ps (m+1)=dues size upto ps m++[nZ ps[m]]:=by
 unfold dues;rw [ez ps m h,List.filter_append];simp only [List.filter_cons,hd,if_true,List.filter_nil,List.map_append,List.map_cons,List.map_nil]
theorem set_one5 {A B:List Value} {x0 x1 x2 x3 x4 u4:Value} {k:Nat} (h:A.length=k):(A++([x0,x1,x2,x3,x4]++B)).set (k+4) u4=A++([x0,x1,x2,x3,u4]++B):=by
 subst h
 simp [List.set_append]
theorem rowP_told (l:List Pn) (i:Nat) (hi:i < l.length):(rowOf aG l).set (i * 5+4) (.bool true)=rowOf aG (l.set i { l[i] with told:=true }):=by
 rw [ed l i hi,cE l i _ hi];exact set_one5 (iB aW l i hi)
structure TellR (B:Nat) (w:World) (n:Nat) (u v:Value) (L T:List Pn):Prop where
 ln:L.length=n
 ro:w.ownsRow B 84 5 u n (rowOf aG L)
 rv:w.ownsRow B 84 5 v T.length (rowOf aG T)
 ne:∀ k,u.ownBlock=some k→v.ownBlock≠some k
 ac:∀ p∈T,jF w p∧∀ k,p.av.ownBlock=some k→B≤k∧u.ownBlock≠some k∧v.ownBlock≠some k
theorem gd {B n:Nat} {w w':World} {u v:Value} {L T:List Pn} (h:TellR B w n u v L T) (hb:Below w.heap.size w w'):TellR B w' n u v L T :=
 ⟨h.ln,aC h.ro hb (Nat.le_refl _),aC h.rv hb (Nat.le_refl _),h.ne,fun p hp=>⟨bp (h.ac p hp).1 hb,(h.ac p hp).2⟩⟩
theorem tell_start {B:Nat} {w:World} {u:Value} {ps:List Pn} (size upto:Int) (h:w.ownsRow B 84 5 u ps.length (rowOf aG ps)):TellR B w ps.length u (.slice none 0 0) (tells size upto ps 0) []:=by
 have e:tells size upto ps 0=ps:=by simp [tells]
 rw [e];exact ⟨rfl,h,World.ownsRow_nil _ _ _ _,fun k _ h=>by simp [Value.ownBlock] at h,fun p hp=>by simp at hp⟩
theorem ph {w:World} {p:Pn} (h:jF w p) {k:Nat} (hk:p.av.ownBlock=some k):k < w.heap.size:=by
 obtain ⟨_,h⟩:=h
 rcases h with ⟨h1,_⟩ | ⟨g,off,cap,h1,_,_,h4,_⟩
 ·rw [h1] at hk
  simp [Value.ownBlock] at hk
 ·rw [h1] at hk;have:g=k:=by simpa [Value.ownBlock] using hk
  omega
theorem tell_app {B n:Nat} {w w1 w2:World} {u v v':Value} {L T:List Pn} (p:Pn) (h:TellR B w n u v L T) (hb:Below w.heap.size w w1) (ho:w2.ownsRow B 84 5 v' (T.length+1) (rowOf aG T++aG p)) (hg:w1.grownBy w2 v.ownBlock)
  (hob:v'.ownBlock=v.ownBlock∨v'.ownBlock=some w1.heap.size) (ha:jF w p) (hp:∀ k,p.av.ownBlock=some k→B≤k∧u.ownBlock≠some k∧v.ownBlock≠some k):TellR B w2 n u v' L (T++[p]):=by
 have K:KeptB w w2 (fun k=>v.ownBlock=some k):=cV (ae hb) hg (fun k hk _=>hk);have hsz:=hb.size;have hne:∀ k,k < w.heap.size→v.ownBlock≠some k→v'.ownBlock≠some k:=fun k hk h1 h2=>by
  rcases hob with e | e
  ·rw [e] at h2;exact h1 h2
  ·rw [e] at h2
   have:=Option.some.inj h2
   omega
 refine ⟨h.ln,bg h.ro K (fun k hk e=>h.ne k hk e),?_,fun k hk=>hne k (aJ h.ro k hk).2 (h.ne k hk),fun q hq=>?_⟩
 ·rw [List.length_append,cQ,ly];exact ho
 ·rcases List.mem_append.1 hq with hq | hq
  ·obtain ⟨h1,h2⟩:=h.ac q hq;exact ⟨aZ h1 K (fun k hk e=>(h2 k hk).2.2 e),fun k hk=>⟨(h2 k hk).1,(h2 k hk).2.1,hne k (ph h1 hk) (h2 k hk).2.2⟩⟩
  ·rw [List.mem_singleton.1 hq];exact ⟨aZ ha K (fun k hk e=>(hp k hk).2.2 e),fun k hk=>⟨(hp k hk).1,(hp k hk).2.1,hne k (ph ha hk) (hp k hk).2.2⟩⟩
theorem cells5 (w:World) (p:Pn) (g:Nat) (e:TypeId) (hg:g=w.heap.size):∀ j u,(aG p)[j]?=some u→(w.alloc (.cells #[.int .i64 p.st,.int .i64 p.k,.int .i64 p.n,p.av,.bool p.told] e)).cell? ((⟨g,0,none⟩:Addr).add j)=some u:=by
 intro j u h;subst hg;have hj:j < 5:=by simpa [aG] using (List.getElem?_eq_some_iff.1 h).1
 have:=World.ownsRow_lit (base:=0) (size:=5) (e:=e) w #[.int .i64 p.st,.int .i64 p.k,.int .i64 p.n,p.av,.bool p.told] 1 (Nat.zero_le _) (by decide) rfl
 have:=this.cellAt j (by omega)
 rw [show (⟨w.heap.size,0,none⟩:Addr).add j=⟨w.heap.size,j,none⟩ from by simp [Addr.add];intro h;exact h.symm,this];exact h
theorem tell_gen (ps:List Pn) (tv:Value) (size upto:Int) (w:World) (hT:TblR w tv ps) (hl:ps.length≤500) (hst:∀ p∈ps,-100000≤p.st∧p.st≤100000) (h3:1≤size) (h4:size≤100000) (hal:∀ p∈ps,p.ac.length≤100) :
  Calls Tryz.prog 95 #[.agg #[tv],.int .i64 size,.int .i64 upto] w fun e w'=>∃ u v T,e=.returned (.tuple #[.agg #[u],v])∧TblR w' u (ps.map (cP size upto))∧TblR w' v T ∧
   T.map nZ=(ps.filter (dz size upto)).map nZ∧(bE w.heap.size u∧bE w.heap.size v∧∀ p∈T,bE w.heap.size p.av)∧Below w.heap.size w w':=by
 obtain ⟨i0,hi,hz0,hz1,hz2⟩:=info_parts infoP;obtain ⟨ao,cap,rfl⟩:=aF hT.row;have b1:=(Below.refl w.heap.size w).alloc (Nat.le_refl _) (.cells #[.slice ao ps.length cap] 66);have b2:=b1.alloc b1.size (.cells #[.slice none 0 0] 66);have A1:=aM (w.alloc (.cells #[.slice ao ps.length cap] 66)) [.slice none 0 0] 66 (by simp);have s1:(w.alloc (.cells #[.slice ao ps.length cap] 66)).heap.size=w.heap.size+1:=by simp
 have s2:((w.alloc (.cells #[.slice ao ps.length cap] 66)).alloc (.cells #[.slice none 0 0] 66)).heap.size=w.heap.size+2:=by simp
 rw [s1] at A1;have CL:=aa (gV ps _ _ (by omega) (d7 hT b2));rw [s2] at CL;have HB:=aa b2;have HT:=aa hT;have HST:=aa hst;have HAL:=aa hal;have D1:=aa A1;have S2:=aa s2;clear b1 b2 A1 s1 s2 hT hst hal
 go_enter Tryz.func95,Tryz.ntmps95
 go_wp2_with fail;refine CL.out.mono ?_;rintro e w1 ⟨u,rfl,ho,hb⟩;have E1:=aa (ai D1.out (hb.mono (Nat.le_of_eq S2.out)) (by have:=S2.out;have:=D1.out.lt;omega));have HB:=nxt HB (hb.mono (Nat.le_of_eq S2.out));obtain ⟨au,cu,rfl⟩:=ax ho;have HO:=aa ho;clear hb ho CL D1 S2;go_wp2_with fail
 go_loopw [9,17] (fun v i wr=>∃ (m:Nat) (T:List Pn),m≤ps.length∧T.length≤m∧i=.int .i64 m∧Hid (TellR (w.heap.size+2) wr ps.length (.slice au ps.length cu) v (tells size upto ps m) T)∧Hid (T.map nZ=dues size upto ps m)∧Hid (BlkAt wr (w.heap.size+1) [.slice none 0 0])∧Hid (Below w.heap.size w wr)) (fun v i _=>ps.length - (intOf i).toNat)
 case atStart =>
  exact ⟨0,[],Nat.zero_le _,Nat.le_refl _,rfl,aa (tell_start size upto HO.out),rfl,E1,HB⟩
 case round =>
  clear HO E1 HB;obtain ⟨m,T,hm,hTm,rfl,HR,HK,B1,HB⟩:=hrel;obtain ⟨av,cv,rfl⟩:=ax HR.out.rv
  by_cases hlt:m < ps.length
  ·obtain ⟨g,cg,he,gb,gs,gc,gm⟩:=fM HR.out.ro (by omega);cases he;have hcw:∀ (w':World),w'.ownsRow (w.heap.size+2) 84 5 (.slice (some ⟨g,0,none⟩) ps.length cu) ps.length (rowOf aG (tells size upto ps m))→∀ j,j < 5→w'.cell? ⟨g,m * 5+j,none⟩=(aG ps[m])[j]?:=fun w' h j hj=>by
    rw [h.cellAt (m * 5+j) (nz hlt hj),bU aW _ m j ps[m] (kR _ _ _ _ hlt) hj]
   have hc:=hcw wr HR.out.ro;have TT:Hid ((rowOf aG (tells size upto ps m)).set (m * 5+4) (.bool true)=rowOf aG ((tells size upto ps m).set m { ps[m] with told:=true })):=by
    have hl9:m < (tells size upto ps m).length:=by rw [gH];exact hlt
    have h9:=rowP_told (tells size upto ps m) m hl9;have h8:(tells size upto ps m)[m]=ps[m]:=by
     have:=kR size upto ps m hlt
     rw [List.getElem?_eq_getElem hl9] at this;exact Option.some.inj this
    rw [h8] at h9;exact h9
   have hacc:=HT.out.acc ps[m] (List.getElem_mem hlt);have hst:=HST.out ps[m] (List.getElem_mem hlt);have hal:=HAL.out ps[m] (List.getElem_mem hlt);have TN:=aa (jK size upto ps m hlt);have TS:=aa (tells_same size upto ps m hlt);have DN:=aa (dues_next size upto ps m hlt);have DS:=aa (dues_same size upto ps m hlt);generalize ps[m]=p at *;obtain ⟨x1,x2,x3,x4,x5,x6⟩:=p;obtain ⟨ap,cp,hav⟩:=aF hacc
   simp only at hav hst hal
   subst hav;have y0:wr.cell? ⟨g,m * 5,none⟩=some (.int .i64 x1):=hc 0 (by omega);have y1:wr.cell? ⟨g,m * 5+1,none⟩=some (.int .i64 x2):=hc 1 (by omega);have y2:wr.cell? ⟨g,m * 5+2,none⟩=some (.int .i64 x3):=hc 2 (by omega);have y3:wr.cell? ⟨g,m * 5+3,none⟩=some (.slice ap x5.length cp):=hc 3 (by omega);have y4:wr.cell? ⟨g,m * 5+4,none⟩=some (.bool x4):=hc 4 (by omega);unfold maxLen at gm;have HACC:=aa hacc;have HCW:=aa hcw
   simp only at TT
   clear hc hacc hcw;have hA:=(Below.refl wr.heap.size wr).alloc (Nat.le_refl _) (.cells #[.int .i64 x1,.int .i64 x2,.int .i64 x3,.slice ap x5.length cp,.bool x4] 84);have HBA:=nxt HB hA;have HRA:=aa (gd HR.out hA);have B1A:=aa (ai B1.out hA B1.out.lt);have EN:=aa (nc ⟨x1,x2,x3,x4,x5,.slice ap x5.length cp⟩ size upto (wr.alloc (.cells #[.int .i64 x1,.int .i64 x2,.int .i64 x3,.slice ap x5.length cp,.bool x4] 84)) hst.1 hst.2 h3 h4 ⟨_,_,_,rfl⟩);unfold eJ at EN
   simp only at EN
   have CA:Hid (∀ o,o < 5 * 100000→True):=fun _ _=>trivial
   clear hA HR B1 HB CA;cases x4 with
   | true =>
    clear EN TN DN;go_wp2_with fail;go_roundw
    case rel=>exact ⟨m+1,T,by omega,by omega,by go_num,by rw [TS.out rfl];exact HRA,by rw [DS.out rfl];exact HK,B1A,HBA⟩
    case measure=>simp [intOf];omega
   | false =>
    generalize hr:decide (x1+size≤upto)=r at *;have HDU:Hid (dz size upto ⟨x1,x2,x3,false,x5,.slice ap x5.length cp⟩=r):=by
     show _=_
     simp [dz,hr]
    clear hr;go_wp2_with fail;refine EN.out.mono ?_;rintro e w2 ⟨rfl,hb⟩;have HB2:=nxt HBA hb;have HR2:=aa (gd HRA.out hb);have B2:=aa (ai B1A.out hb B1A.out.lt);clear hb EN HBA HRA B1A;cases r with
    | false =>
     clear TN DN;go_wp2_with fail;go_roundw
     case rel=>exact ⟨m+1,T,by omega,by omega,by go_num,by rw [TS.out HDU.out];exact HR2,by rw [DS.out HDU.out];exact HK,B2,HB2⟩
     case measure=>simp [intOf];omega
    | true =>
     have TE:Hid (tells size upto ps (m+1)=(tells size upto ps m).set m ⟨x1,x2,x3,true,x5,.slice ap x5.length cp⟩):=by
      show _=_
      rw [TN.out]
      simp [cP,HDU.out]
     have z4:w2.cell? ⟨g,m * 5+4,none⟩=some (.bool false):=HCW.out w2 HR2.out.ro 4 (by omega);have f4:=aQ HR2.out.ro (m * 5+4);have RO3:=b7 HR2.out.ro (m * 5+4) (.bool true);rw [TT.out,← TE.out] at RO3;have TA:(tells size upto ps (m+1))[m]?=some ⟨x1,x2,x3,true,x5,.slice ap x5.length cp⟩:=by
      rw [TE.out,List.getElem?_set_self (by rw [gH];exact hlt)]
     have cA:∀ j,j < 5→(w2.setCell ⟨g,m * 5+4,none⟩ (.bool true)).cell? ⟨g,m * 5+j,none⟩=(aG ⟨x1,x2,x3,true,x5,.slice ap x5.length cp⟩)[j]?:=fun j hj=>by
      rw [RO3.cellAt (m * 5+j) (nz hlt hj),bU aW _ m j _ TA hj]
     have s0:(w2.setCell ⟨g,m * 5+4,none⟩ (.bool true)).cell? ⟨g,m * 5,none⟩=some (.int .i64 x1):=cA 0 (by omega);have s1:(w2.setCell ⟨g,m * 5+4,none⟩ (.bool true)).cell? ⟨g,m * 5+1,none⟩=some (.int .i64 x2):=cA 1 (by omega);have s2:(w2.setCell ⟨g,m * 5+4,none⟩ (.bool true)).cell? ⟨g,m * 5+2,none⟩=some (.int .i64 x3):=cA 2 (by omega);have s3:(w2.setCell ⟨g,m * 5+4,none⟩ (.bool true)).cell? ⟨g,m * 5+3,none⟩=some (.slice ap x5.length cp):=cA 3 (by omega);have s4:(w2.setCell ⟨g,m * 5+4,none⟩ (.bool true)).cell? ⟨g,m * 5+4,none⟩=some (.bool true):=cA 4 (by omega);have gw2:=(aJ HR2.out.ro g rfl).2;have K3:=ah (ae (bad:=fun k=>k=g) (Below.refl w2.heap.size w2)) rfl (m * 5+4) (.bool true);have RV3:=bg HR2.out.rv K3 (fun k hk e=>HR2.out.ne g rfl (by rw [← e];exact hk));have AC3:∀ p∈T,jF (w2.setCell ⟨g,m * 5+4,none⟩ (.bool true)) p∧∀ k,p.av.ownBlock=some k→w.heap.size+2≤k∧(Value.slice (some ⟨g,0,none⟩) ps.length cu).ownBlock≠some k∧(Value.slice av T.length cv).ownBlock≠some k:=fun p hp =>
      ⟨aZ (HR2.out.ac p hp).1 K3 (fun k hk e=>((HR2.out.ac p hp).2 k hk).2.1 (by rw [e];rfl)),(HR2.out.ac p hp).2⟩
     have HR3:=aa (TellR.mk (gH size upto ps (m+1)) RO3 RV3 HR2.out.ne AC3);have HB3:=aa (HB2.out.setCell (p:=⟨g,m * 5+4,none⟩) (by show _≤g;omega) (.bool true));have B3:=aa (aR B2.out (g':=g) (by omega) (m * 5+4) (.bool true));have OW:=aa (mo ⟨x1,x2,x3,true,x5,.slice ap x5.length cp⟩ _ (by simp only;omega) (bp (p:=⟨x1,x2,x3,true,x5,.slice ap x5.length cp⟩) HACC.out HB3.out));unfold eJ at OW
     simp only at OW
     have VV:Hid (∀ k,(Value.slice av T.length cv).ownBlock=some k→k < (w2.setCell ⟨g,m * 5+4,none⟩ (.bool true)).heap.size):=fun k hk=>(aJ HR3.out.rv k hk).2
     have G3:Hid (g < (w2.setCell ⟨g,m * 5+4,none⟩ (.bool true)).heap.size):=aa (by simpa using gw2);clear TS DS TN TT HCW K3 RV3 AC3 cA TA RO3 HR2 HB2 B2 gw2;go_wp2_with fail;refine OW.out.mono ?_;rintro e w4 ⟨u4,rfl,ho,hb⟩;obtain ⟨a4,c4,rfl⟩:=ax ho;have AR4:=aa (bc ho);have NA4:=aa (fun k hk=>(aJ ho k hk));have HB4:=nxt HB3 hb;have HR4:=aa (gd HR3.out hb);have B4:=aa (ai B3.out hb B3.out.lt);have S34:=aa hb.size;clear ho hb OW HB3 HR3 B3 s0 s1 s2 s3 s4 z4 f4;have al:=(Below.refl w4.heap.size w4).alloc (Nat.le_refl _) (.cells #[.int .i64 x1,.int .i64 x2,.int .i64 x3,.slice a4 x5.length c4,.bool true] 84);have HRV:=aa (aC HR4.out.rv al (Nat.le_refl _));have HSZ:Hid (w.heap.size+2≤(w4.alloc (.cells #[.int .i64 x1,.int .i64 x2,.int .i64 x3,.slice a4 x5.length c4,.bool true] 84)).heap.size):=aa (by have:=B4.out.lt;have:=al.size;omega);have AL:=aa al;have CN:=aa (cells5 w4 ⟨x1,x2,x3,true,x5,.slice a4 x5.length c4⟩ w4.heap.size 84 rfl);clear al
     go_wp2_with (at_builtin;go_must (refine wpList_append_own_at _ rfl (.tmp 35) (.tmp 41) 64 rfl (w.heap.size+2) 84 i0 (.agg #[.int .i64 0,.int .i64 0,.int .i64 0,.slice none 0 0,.bool false]) 5 56 Tryz.underlying64 hi hz0 hz1 hz2 rfl (by decide) _ _ _ rfl HRV.out _ 1 1 (aG ⟨x1,x2,x3,true,x5,.slice a4 x5.length c4⟩) rfl rfl CN.out (by simp [aG,Value.oneCell']) (by show _≤2 ^ 63 - 1;omega) (by omega) HSZ.out ?_))
     intro v' w6 ho hg _ hob;have HR6:=aa (tell_app ⟨x1,x2,x3,true,x5,.slice a4 x5.length c4⟩ HR4.out AL.out ho hg (by simpa using hob) AR4.out (fun k hk=>⟨by have:=(NA4.out k hk).1;have:=G3.out;omega,fun e=>by
      have h1:=(NA4.out k hk).1;have h2:g=k:=by simpa [Value.ownBlock] using e
      have:=G3.out
      omega,fun e=>by
      have h1:=(NA4.out k hk).1;have h2:=VV.out k e;omega⟩))
     have HB6:=aa ((HB4.out.alloc HB4.out.size (.cells #[.int .i64 x1,.int .i64 x2,.int .i64 x3,.slice a4 x5.length c4,.bool true] 84)).grown hg (by have:=HB4.out.size;have:=AL.out.size;omega) (fun k hk=>by have:=(aJ HR4.out.rv k hk).1;omega));have B6:=aa (fB (ai B4.out AL.out B4.out.lt) hg (fun e=>by have:=(aJ HR4.out.rv _ e).1;omega));obtain ⟨a6,c6,rfl⟩:=ax ho;clear ho hg hob HR4 HB4 B4 AL HRV HSZ CN VV NA4 AR4 G3 S34;go_wp2_with fail;go_roundw
     case rel=>exact ⟨m+1,T++[⟨x1,x2,x3,true,x5,.slice a4 x5.length c4⟩],by omega,by simp;omega,by go_num,by simpa using HR6,by
      have h9:=DN.out HDU.out;have h8:=HK.out
      show _=_
      rw [h9,← h8,List.map_append]
      rfl,B6,HB6⟩
     case measure=>simp [intOf];omega
  ·have hme:m=ps.length:=by omega
   subst hme;have c0:wr.cell? ⟨w.heap.size+1,0,none⟩=some (.slice none 0 0):=B1.out.c 0 (by simp);have f0:=B1.out.fz 0;go_wp2_with fail;have KZ:=ah (ae (bad:=fun k=>k=w.heap.size+1) (Below.refl wr.heap.size wr)) rfl 0 (.slice au ps.length cu);have ZB:=aa (HB.out.setCell (p:=⟨w.heap.size+1,0,none⟩) (by show _≤w.heap.size+1;omega) (.slice au ps.length cu));refine bodyPost_ret (v:=.tuple #[.agg #[.slice au ps.length cu],.slice av T.length cv]) (by simp [results,Tryz.results95,go_sem,c0]) rfl ⟨_,_,T,rfl,⟨?_,fun p hp=>?_⟩,⟨?_,fun p hp=>?_⟩,?_,⟨fun k hk=>by have:=(aJ HR.out.ro k hk).1;omega,fun k hk=>by have:=(aJ HR.out.rv k hk).1;omega,fun p hp k hk=>by have:=((HR.out.ac p hp).2 k hk).1;omega⟩,ZB.out⟩
   ·rw [List.length_map,← tells_end];exact aZ (bc HR.out.ro) KZ (fun k hk e=>by have:=(aJ HR.out.ro k hk).1;omega)
   ·obtain ⟨q,hq,rfl⟩:=List.mem_map.1 hp;have h9:=bp (HT.out.acc q hq) ZB.out;unfold cP
    split
    ·exact h9
    ·exact h9
   ·exact aZ (bc HR.out.rv) KZ (fun k hk e=>by have:=(aJ HR.out.rv k hk).1;omega)
   ·exact aZ (HR.out.ac p hp).1 KZ (fun k hk e=>by have:=((HR.out.ac p hp).2 k hk).1;omega)
   ·rw [HK.out];unfold dues;rw [List.take_length]
def zeroP:Array Value:=#[.int .i64 0,.int .i64 0,.int .i64 0,.slice none 0 0,.bool false]
theorem zeroP_run (w:World):(zeroValue 84).run Tryz.prog w=.ok (.agg zeroP) w:=by kernel_rfl
theorem lJ (n:Nat):(Builtin.zeroCells zeroP n).toList.length=n * 5:=by simp [Builtin.zeroCells,zeroP]
theorem zeroP_one (n:Nat):∀ u∈(Builtin.zeroCells zeroP n).toList,u.oneCell'=true:=by
 intro u hu;simp only [Builtin.zeroCells,Array.toList_map,Array.toList_range,List.mem_map] at hu;obtain ⟨i,-,rfl⟩:=hu;have hz:zeroP.size=5:=rfl;rw [hz];have h5:i % 5 < 5:=Nat.mod_lt _ (by omega);generalize i % 5=j at h5;have:j=0∨j=1∨j=2∨j=3∨j=4:=by omega
 rcases this with rfl | rfl | rfl | rfl | rfl <;> rfl
theorem clear5 (w:World) (g o n c:Nat) (hn:0 < n) (hc:∀ j,j < n * 5→(w.cell? ⟨g,o+j,none⟩).isSome=true) (hf:∀ j,j < n * 5→w.frozen? ⟨g,o+j,none⟩=false) (ty:TypeId) :
  (Builtin.clear_ #[64] ty #[.slice (some ⟨g,o,none⟩) n c]).run Tryz.prog w=.ok (.tuple #[]) (w.setCells g o (Builtin.zeroCells zeroP n).toList):=by
 have hst:=run_storeCells_cells (P:=Tryz.prog) g o (Builtin.zeroCells zeroP n).toList 0 w (by rw [lJ];simpa using hc) (by rw [lJ];simpa using hf) (zeroP_one n);have hzc:(Value.agg #[.int .i64 0,.int .i64 0,.int .i64 0,.slice none 0 0,.bool false]).cells=zeroP:=rfl;simp only [Nat.add_zero] at hst;obtain ⟨m,rfl⟩:∃ m,n=m+1:=⟨n - 1,by omega⟩
 simp [Builtin.clear_,run_underlying Tryz.underlying64,zeroP_run,hzc,hst]
theorem jb {a:World} {bad:Nat→Prop} {g:Nat} (hg:bad g):∀ (vs:List Value) (o:Nat) (b:World),KeptB a b bad→KeptB a (b.setCells g o vs) bad
 | [],_,_,h=>h
 | v :: r,o,b,h=>jb hg r (o+1) _ (ah h hg o v)
structure DelR (ps:List Pn) (c:Pn→Bool) (i j:Nat) (L:List Pn):Prop where
 ij:i≤j
 jn:j≤ps.length
 ln:L.length=ps.length
 fs:L.take i=(ps.take j).filter (fun p=>!c p)
 rs:∀ q,j≤q→L[q]?=ps[q]?
theorem del_start {ps:List Pn} {c:Pn→Bool} {i:Nat} (hi:i < ps.length) (h1:∀ q p,q < i→ps[q]?=some p→c p=false) (h2:∀ p,ps[i]?=some p→c p=true):DelR ps c i (i+1) ps:=by
 refine ⟨by omega,by omega,rfl,?_,fun _ _=>rfl⟩;rw [ez ps i hi,List.filter_append];have e1:(ps.take i).filter (fun p=>!c p)=ps.take i:=List.filter_eq_self.2 fun p hp=>by
  obtain ⟨q,hq,rfl⟩:=List.mem_iff_getElem.1 hp;have hq':q < i:=by
   rw [List.length_take] at hq;omega
  have hq2:q < ps.length:=by omega
  have:=h1 q ((ps.take i)[q]) hq' (by rw [List.getElem_take,List.getElem?_eq_getElem hq2])
  rw [this]
  rfl
 have e2:=h2 ps[i] (List.getElem?_eq_getElem hi);simp only [e1,List.filter_cons,e2,Bool.not_true,Bool.false_eq_true,if_false,List.filter_nil,List.append_nil]
theorem del_gone {ps:List Pn} {c:Pn→Bool} {i j:Nat} {L:List Pn} (h:DelR ps c i j L) (hj:j < ps.length) (hc:c ps[j]=true):DelR ps c i (j+1) L:=by
 refine ⟨by have:=h.ij;omega,by omega,h.ln,?_,fun q hq=>h.rs q (by omega)⟩;rw [h.fs,ez ps j hj,List.filter_append];simp only [List.filter_cons,hc,Bool.not_true,Bool.false_eq_true,if_false,List.filter_nil,List.append_nil]
theorem del_stay {ps:List Pn} {c:Pn→Bool} {i j:Nat} {L:List Pn} (h:DelR ps c i j L) (hij:i < j) (hj:j < ps.length) (hc:c ps[j]=false):DelR ps c (i+1) (j+1) (L.set i ps[j]):=by
 have hi:i < L.length:=by rw [h.ln];omega
 refine ⟨by omega,by omega,by rw [List.length_set];exact h.ln,?_,fun q hq=>?_⟩
 ·have e:(L.set i ps[j]).take (i+1)=L.take i++[ps[j]]:=by
   rw [ez _ i (by rw [List.length_set];exact hi),List.getElem_set_self,List.take_set,List.set_eq_of_length_le (by simp;omega)]
  rw [e,h.fs,ez ps j hj,List.filter_append];simp only [List.filter_cons,hc,Bool.not_false,if_true,List.filter_nil]
 ·rw [List.getElem?_set_ne (by omega)];exact h.rs q (by omega)
theorem del_len {ps:List Pn} {c:Pn→Bool} {i j:Nat} {L:List Pn} (h:DelR ps c i j L):i=((ps.take j).filter (fun p=>!c p)).length:=by
 rw [← h.fs,List.length_take,h.ln]
 have:=h.ij
 have:=h.jn
 omega
theorem delete_any (ps:List Pn) (c:Pn→Bool) (p1 p2:Value) (B:Nat) (u:Value) (w:World) (hl:ps.length≤500) (ho:w.ownsRow B 84 5 u ps.length (rowOf aG ps)) (hs:∀ p∈ps,∃ ao n cap,p.av=.slice ao n cap)
  (hc:∀ p∈ps,∀ w',KeptB w w' (fun k=>u.ownBlock=some k)→Calls Tryz.prog 130 #[eJ p,p1,p2] w' fun e w''=>e=.returned (.bool (c p))∧Below w'.heap.size w' w'') :
  Calls Tryz.prog 129 #[u,.func (.func 130) #[] #[p1,p2]] w fun e w'=>∃ v,e=.returned v∧gi w' v 5 (ps.filter (fun p=>!c p)).length (rowOf aG (ps.filter (fun p=>!c p)))∧v.ownBlock=u.ownBlock∧KeptB w w' (fun k=>u.ownBlock=some k):=by
 obtain ⟨au,cu,rfl⟩:=ax ho;have IX:=aa (index_any ps c p1 p2 au cu w (by omega) (ce (bc ho)) hs (fun p hp w' hb=>hc p hp w' (ae hb)));have HO:=aa ho;have HS:=aa hs;have HC:=aa hc;clear ho hs hc
 go_enter Tryz.func129,Tryz.ntmps129
 go_wp2_with fail;refine IX.out.mono ?_;rintro e w1 (⟨i,hi,h1,h2,rfl,hb⟩ | ⟨h1,rfl,hb⟩)
 ·obtain ⟨g,cg,he,gb,gs,gc,gm⟩:=fM HO.out (by omega);cases he;have DS:=aa (del_start hi h1 h2);have HO1:=aa (aC HO.out hb (Nat.le_refl _));have HK1:Hid (KeptB w w1 (fun k=>(Value.slice (some ⟨g,0,none⟩) ps.length cu).ownBlock=some k)):=ae hb;unfold maxLen at gm;have e0:((i:Int) == -1)=false:=by simp
  clear h1 h2 hb IX HO;go_wp2_with fail;clear e0
  go_loopw [5,6] (fun ci cj wr=>∃ (i j:Nat) (L:List Pn),i < j∧j≤ps.length∧ci=.int .i64 i∧cj=.int .i64 j∧Hid (DelR ps c i j L)∧Hid (wr.ownsRow B 84 5 (.slice (some ⟨g,0,none⟩) ps.length cu) ps.length (rowOf aG L))∧Hid (KeptB w wr (fun k=>(Value.slice (some ⟨g,0,none⟩) ps.length cu).ownBlock=some k))) (fun _ cj _=>ps.length - (intOf cj).toNat)
  case atStart=>exact ⟨i,i+1,ps,by omega,by omega,rfl,by go_num,DS,HO1,HK1⟩
  case round =>
   clear DS HO1 HK1 hi;obtain ⟨i,j,L,hij,hj,rfl,rfl,HD,HO,HK⟩:=hrel
   by_cases hlt:j < ps.length
   ·have hLj:L[j]?=some ps[j]:=by rw [HD.out.rs j (Nat.le_refl _),List.getElem?_eq_getElem hlt]
    have hcell:∀ q,q < 5→wr.cell? ⟨g,j * 5+q,none⟩=(aG ps[j])[q]?:=fun q hq=>by
     rw [HO.out.cellAt (j * 5+q) (nz hlt hq),bU aW _ j q ps[j] hLj hq]
    have CP:=aa (HC.out ps[j] (List.getElem_mem hlt));obtain ⟨ap,np,cp,hav⟩:=HS.out ps[j] (List.getElem_mem hlt);have DG:=aa (del_gone HD.out hlt);have DT:=aa (del_stay HD.out hij hlt);have RS:=aa (nj L i ps[j] (by rw [HD.out.ln];omega));generalize ps[j]=p at *;obtain ⟨x1,x2,x3,x4,x5,x6⟩:=p
    simp only at hav
    subst hav;have y0:wr.cell? ⟨g,j * 5,none⟩=some (.int .i64 x1):=hcell 0 (by omega);have y1:wr.cell? ⟨g,j * 5+1,none⟩=some (.int .i64 x2):=hcell 1 (by omega);have y2:wr.cell? ⟨g,j * 5+2,none⟩=some (.int .i64 x3):=hcell 2 (by omega);have y3:wr.cell? ⟨g,j * 5+3,none⟩=some (.slice ap np cp):=hcell 3 (by omega);have y4:wr.cell? ⟨g,j * 5+4,none⟩=some (.bool x4):=hcell 4 (by omega);unfold eJ at CP
    simp only at CP
    generalize hcx:c ⟨x1,x2,x3,x4,x5,.slice ap np cp⟩=r at *;have HCX:=aa hcx;have al:=(Below.refl wr.heap.size wr).alloc (Nat.le_refl _) (.cells #[.int .i64 x1,.int .i64 x2,.int .i64 x3,.slice ap np cp,.bool x4] 84);have HKA:=aa (af HK.out (ae al));have HOA:=aa (aC HO.out al (Nat.le_refl _));have BA:=aa (aM wr [.int .i64 x1,.int .i64 x2,.int .i64 x3,.slice ap np cp,.bool x4] 84 (by simp));clear hcell hcx al HK HO hLj;go_wp2_with fail;refine (CP.out _ HKA.out).mono ?_;rintro e w2 ⟨rfl,hb⟩;have HK2:=aa (af HKA.out (ae hb));have HO2:=aa (aC HOA.out hb (Nat.le_refl _));have BA2:=aa (ai BA.out hb BA.out.lt);clear hb HKA HOA BA y0 y1 y2 y3 y4;cases r with
    | true =>
     clear DT RS;go_wp2_with fail;go_roundw
     case rel=>exact ⟨i,j+1,L,by omega,by omega,rfl,by go_num,aa (DG.out (by first | trivial | exact HCX.out)),HO2,HK2⟩
     case measure=>simp [intOf];omega
    | false =>
     have v0:w2.cell? ⟨wr.heap.size,0,none⟩=some (.int .i64 x1):=BA2.out.c 0 (by simp);have v1:w2.cell? ⟨wr.heap.size,1,none⟩=some (.int .i64 x2):=BA2.out.c 1 (by simp);have v2:w2.cell? ⟨wr.heap.size,2,none⟩=some (.int .i64 x3):=BA2.out.c 2 (by simp);have v3:w2.cell? ⟨wr.heap.size,3,none⟩=some (.slice ap np cp):=BA2.out.c 3 (by simp);have v4:w2.cell? ⟨wr.heap.size,4,none⟩=some (.bool x4):=BA2.out.c 4 (by simp);have NO:=b7 (b7 (b7 (b7 (b7 HO2.out (i * 5) (.int .i64 x1)) (i * 5+1) (.int .i64 x2)) (i * 5+2) (.int .i64 x3)) (i * 5+3) (.slice ap np cp)) (i * 5+4) (.bool x4);rw [RS.out] at NO;have NO:=aa NO;have NK:=aa (ah (ah (ah (ah (ah HK2.out (g:=g) rfl (i * 5) (.int .i64 x1)) rfl (i * 5+1) (.int .i64 x2)) rfl (i * 5+2) (.int .i64 x3)) rfl (i * 5+3) (.slice ap np cp)) rfl (i * 5+4) (.bool x4));have hrl:(rowOf aG L).length=ps.length * 5:=by rw [bo aW,HD.out.ln]
     have s0:=HO2.out.cellAt (i * 5) (by omega);have s1:=HO2.out.cellAt (i * 5+1) (by omega);have s2:=HO2.out.cellAt (i * 5+2) (by omega);have s3:=HO2.out.cellAt (i * 5+3) (by omega);have s4:=HO2.out.cellAt (i * 5+4) (by omega);rw [List.getElem?_eq_getElem (by omega)] at s0 s1 s2 s3 s4;generalize (rowOf aG L)[i * 5]=r0 at s0;generalize (rowOf aG L)[i * 5+1]=r1 at s1;generalize (rowOf aG L)[i * 5+2]=r2 at s2;generalize (rowOf aG L)[i * 5+3]=r3 at s3;generalize (rowOf aG L)[i * 5+4]=r4 at s4;have z0:=aQ HO2.out (i * 5);have z1:=aQ HO2.out (i * 5+1);have z2:=aQ HO2.out (i * 5+2);have z3:=aQ HO2.out (i * 5+3);have z4:=aQ HO2.out (i * 5+4);clear hrl DG RS BA2 HK2 HO2;go_wp2_with fail;go_roundw
     case rel=>exact ⟨i+1,j+1,L.set i ⟨x1,x2,x3,x4,x5,.slice ap np cp⟩,by omega,by omega,by go_num,by go_num,aa (DT.out (by first | trivial | exact HCX.out)),NO,NK⟩
     case measure=>simp [intOf];omega
   ·have hje:j=ps.length:=by omega
    subst hje;have hrl:(rowOf aG L).length=ps.length * 5:=by rw [bo aW,HD.out.ln]
    have CL:=aa (clear5 wr g (i * 5) (ps.length - i) (cu - i) (by omega) (fun q hq=>by
     rw [HO.out.cellAt (i * 5+q) (by omega),List.getElem?_eq_getElem (by omega)]
     rfl) (fun q hq=>aQ HO.out (i * 5+q)))
    have NK:=aa (jb (bad:=fun k=>(Value.slice (some ⟨g,0,none⟩) ps.length cu).ownBlock=some k) (g:=g) rfl (Builtin.zeroCells zeroP (ps.length - i)).toList (i * 5) wr HK.out);have hcl:=CL.out;have FL:Hid (i=(ps.filter (fun p=>!c p)).length):=by
     have h9:=del_len HD.out;rw [List.take_length] at h9;exact h9
    have FT:Hid (L.take i=ps.filter (fun p=>!c p)):=by
     have h9:=HD.out.fs;rw [List.take_length] at h9;exact h9
    clear CL
    go_wp2_with (simp only [hcl])
    clear hcl
    go_ret
    refine ⟨.slice (some ⟨g,0,none⟩) i cu,rfl,⟨bo aW _,.inr ⟨g,0,cu,by rw [← FL.out],by rw [← FL.out];omega,by unfold maxLen;omega,Nat.lt_of_lt_of_le gs NK.out.b0.size,fun q hq=>?_⟩⟩,rfl,NK.out⟩;rw [← FL.out] at hq;rw [World.cell?_setCells_out g _ _ _ _ (fun _ _=>.inl (by simp;omega)),Nat.zero_add,HO.out.cellAt q (by omega),← FT.out];have hs:rowOf aG L=rowOf aG (L.take i)++rowOf aG (L.drop i):=by rw [← cQ,List.take_append_drop]
    have hl9:(rowOf aG (L.take i)).length=i * 5:=by rw [bo aW,List.length_take,HD.out.ln,Nat.min_eq_left (by omega)]
    rw [hs,List.getElem?_append_left (by omega)]
 ·have e:ps.filter (fun p=>!c p)=ps:=List.filter_eq_self.2 fun p hp=>by simp [h1 p hp]
  have E:=aa e;have HR:=aa (bJ (bc HO.out) hb);have HK1:Hid (KeptB w w1 (fun k=>(Value.slice au ps.length cu).ownBlock=some k)):=ae hb;clear h1 hb IX HO e;go_wp2_with fail
  go_ret
  exact ⟨_,rfl,by rw [E.out];exact HR.out,rfl,HK1.out⟩
def stays (size upto:Int) (p:Pn):Bool:=!decide (p.st+size≤upto)
theorem drop_any (ps:List Pn) (tv:Value) (size upto:Int) (w:World) (hT:TblR w tv ps) (hl:ps.length≤500) (hst:∀ p∈ps,-100000≤p.st∧p.st≤100000) (h3:1≤size) (h4:size≤100000) :
  Calls Tryz.prog 96 #[.agg #[tv],.int .i64 size,.int .i64 upto] w fun e w'=>∃ u,e=.returned (.agg #[u])∧TblR w' u (ps.filter (stays size upto))∧bE w.heap.size u∧Below w.heap.size w w':=by
 obtain ⟨ao,cap,rfl⟩:=aF hT.row;have b1:=(Below.refl w.heap.size w).alloc (Nat.le_refl _) (.cells #[.slice ao ps.length cap] 66);have b2:=b1.alloc b1.size (.cells #[.int .i64 size] 3);have b3:=b2.alloc b2.size (.cells #[.int .i64 upto] 3);have b4:=b3.alloc b3.size (.cells #[.slice none 0 0] 66);have A1:=aM (w.alloc (.cells #[.slice ao ps.length cap] 66)) [.int .i64 size] 3 (by simp);have A2:=aM ((w.alloc (.cells #[.slice ao ps.length cap] 66)).alloc (.cells #[.int .i64 size] 3)) [.int .i64 upto] 3 (by simp);have A3:=aM (((w.alloc (.cells #[.slice ao ps.length cap] 66)).alloc (.cells #[.int .i64 size] 3)).alloc (.cells #[.int .i64 upto] 3)) [.slice none 0 0] 66 (by simp);have s1:(w.alloc (.cells #[.slice ao ps.length cap] 66)).heap.size=w.heap.size+1:=by simp
 have s2:((w.alloc (.cells #[.slice ao ps.length cap] 66)).alloc (.cells #[.int .i64 size] 3)).heap.size=w.heap.size+1+1:=by simp
 have s3:(((w.alloc (.cells #[.slice ao ps.length cap] 66)).alloc (.cells #[.int .i64 size] 3)).alloc (.cells #[.int .i64 upto] 3)).heap.size=w.heap.size+1+1+1:=by simp
 have s4:((((w.alloc (.cells #[.slice ao ps.length cap] 66)).alloc (.cells #[.int .i64 size] 3)).alloc (.cells #[.int .i64 upto] 3)).alloc (.cells #[.slice none 0 0] 66)).heap.size=w.heap.size+1+1+1+1:=by simp
 have al:=fun (w:World) (o:Obj)=>(Below.refl w.heap.size w).alloc (Nat.le_refl _) o
 have C1:=ai (ai A1 (al _ (.cells #[.int .i64 upto] 3)) A1.lt) (al _ (.cells #[.slice none 0 0] 66)) (by simp);have C2:=ai A2 (al _ (.cells #[.slice none 0 0] 66)) A2.lt;rw [s1] at C1;rw [s2] at C2;rw [s3] at A3;have CL:=aa (gV ps _ _ (by omega) (d7 hT b4));have HB:=aa b4;have D1:=aa C1;have D2:=aa C2;have D3:=aa A3;have HT:=aa hT;have HST:=aa hst;have S4:=aa s4;clear b1 b2 b3 b4 A1 A2 A3 C1 C2 s1 s2 s3 s4 al hT hst
 go_enter Tryz.func96,Tryz.ntmps96
 go_wp2_with fail;refine CL.out.mono ?_;rintro e w1 ⟨u,rfl,ho,hb⟩;obtain ⟨au,cu,rfl⟩:=ax ho;have E1:=aa (ai D1.out hb D1.out.lt);have E2:=aa (ai D2.out hb D2.out.lt);have E3:=aa (ai D3.out hb D3.out.lt);have HB1:=nxt HB hb;have NU:Hid (∀ k,(Value.slice au ps.length cu).ownBlock=some k→w.heap.size+1+1+1+1≤k):=fun k hk=>by
  have h1:=(aJ ho k hk).1
  have:=S4.out
  omega
 have DE:=aa (delete_any ps (fun p=>decide (p.st+size≤upto)) (.pointer (some ⟨w.heap.size+1,0,none⟩)) (.pointer (some ⟨w.heap.size+1+1,0,none⟩)) _ _ w1 hl ho (dv HT.out) (fun p hp w' hk=>by
  have K1:=aI E1.out hk (fun e=>by have:=NU.out _ e;omega);have K2:=aI E2.out hk (fun e=>by have:=NU.out _ e;omega);obtain ⟨q1,q2⟩:=HST.out p hp;exact drop1_any p (w.heap.size+1) (w.heap.size+1+1) size upto w' q1 q2 h3 h4 (dv HT.out p hp) (K1.c 0 (by simp)) (K2.c 0 (by simp)) K1.lt K2.lt))
 clear ho hb CL D1 D2 D3 HB S4;go_wp2_with fail;refine DE.out.mono ?_;rintro e w2 ⟨v,rfl,hr,hv,hk⟩;have F3:=aI E3.out hk (fun e=>by have:=NU.out _ e;omega);have HB2:=aa (HB1.out.trans (aL hk HB1.out.size (fun k hk=>by have:=NU.out k hk;omega)));have c0:w2.cell? ⟨w.heap.size+1+1+1,0,none⟩=some (.slice none 0 0):=F3.c 0 (by simp);have f0:=F3.fz 0;obtain ⟨av,cv,rfl⟩:=aF hr;have HR:=aa hr;have VF:Hid (∀ k,(Value.slice av (ps.filter (fun p=>!decide (p.st+size≤upto))).length cv).ownBlock=some k→w.heap.size≤k):=fun k hk9=>by
  rw [hv] at hk9
  have:=NU.out k hk9
  omega
 have VB:Hid (∀ k,(Value.slice av (ps.filter (fun p=>!decide (p.st+size≤upto))).length cv).ownBlock=some k→k≠w.heap.size+1+1+1):=fun k hk9 e=>by
  rw [hv] at hk9
  have:=NU.out k hk9
  omega
 generalize hN:(ps.filter (fun p=>!decide (p.st+size≤upto))).length=N at *;have HN:=aa hN;clear hr hk hv DE F3 hN;go_wp2_with fail;have ZB:=aa (HB2.out.setCell (p:=⟨w.heap.size+1+1+1,0,none⟩) (by show _≤w.heap.size+1+1+1;omega) (.slice av N cv));have KZ:=ah (ae (bad:=fun k=>k=w.heap.size+1+1+1) (Below.refl w2.heap.size w2)) rfl 0 (.slice av N cv);refine bodyPost_ret (v:=.agg #[.slice av N cv]) (by simp [results,Tryz.results96,go_sem,c0]) rfl ⟨_,rfl,⟨?_,fun p hp=>?_⟩,fun k hk=>VF.out k hk,ZB.out⟩
 ·have e:ps.filter (stays size upto)=ps.filter (fun p=>!decide (p.st+size≤upto)):=rfl;rw [e,HN.out];exact aZ HR.out KZ (fun k hk e=>VB.out k hk e)
 ·exact bp (HT.out.acc p (List.mem_filter.1 hp).1) ZB.out
abbrev Ot:=Int×Int×Int×List V2
def dt (x:Ot):Int×Int×Int:=(x.1,x.2.1,x.2.2.1)
theorem eh (p:Pn):dt (fj p)=du p:=rfl
structure Rw where
 gone:Bool
 o:Ot
def jH (out:List Ot) (r:Rw):Option (List Ot) :=
 if r.gone then (if r.o∈out then some (out.filter fun x=>decide (dt x≠dt r.o)) else none)
 else (if dt r.o∈out.map dt then none else some (out++[r.o]))
def netL:List Ot→List Rw→Option (List Ot)
 | out,[]=>some out
 | out,r :: l=>(jH out r).bind fun o=>netL o l
theorem netL_app:∀ (l m:List Rw) (out:List Ot),netL out (l++m)=(netL out l).bind fun o=>netL o m
 | [],m,out=>rfl
 | r :: l,m,out=>by
  show (jH out r).bind (fun o=>netL o (l++m))=((jH out r).bind fun o=>netL o l).bind _
  cases jH out r with
  | none=>rfl
  | some o=>exact netL_app l m o
def qn (rows:List Rw) (V:List Pn):Prop:=∃ out,netL [] rows=some out∧(out.map dt).Nodup∧∀ x,x∈out↔∃ p∈V,p.told=true∧fj p=x
theorem netI_nil:qn [] []:=⟨[],rfl,by simp,fun x=>by simp⟩
theorem lH {rows:List Rw} {V V':List Pn} (h:qn rows V) (hv:∀ x,(∃ p∈V,p.told=true∧fj p=x)↔∃ p∈V',p.told=true∧fj p=x):qn rows V':=by
 obtain ⟨out,h1,h2,h3⟩:=h;exact ⟨out,h1,h2,fun x=>(h3 x).trans (hv x)⟩
theorem netI_turn {rows:List Rw} {V V':List Pn} {o o':Ot} (h:qn rows V) (hk:dt o'=dt o) (ho:∃ p∈V,p.told=true∧fj p=o)
  (hv:∀ x,(∃ p∈V',p.told=true∧fj p=x)↔x=o'∨((∃ p∈V,p.told=true∧fj p=x)∧dt x≠dt o)):qn (rows++[⟨true,o⟩,⟨false,o'⟩]) V':=by
 obtain ⟨out,h1,h2,h3⟩:=h;have hin:o∈out:=(h3 o).2 ho;have e1:jH out ⟨true,o⟩=some (out.filter fun x=>decide (dt x≠dt o)):=by
  unfold jH;rw [if_pos rfl,if_pos hin]
 have hn:dt o' ∉ (out.filter fun x=>decide (dt x≠dt o)).map dt:=by
  intro hm;obtain ⟨x,hx,e⟩:=List.mem_map.1 hm
  have:=(List.mem_filter.1 hx).2
  simp only [ne_eq,decide_not,Bool.not_eq_true',decide_eq_false_iff_not] at this;exact this (e.trans hk)
 have e2:jH (out.filter fun x=>decide (dt x≠dt o)) ⟨false,o'⟩=some ((out.filter fun x=>decide (dt x≠dt o))++[o']):=by
  unfold jH;rw [if_neg (by simp),if_neg hn]
 refine ⟨(out.filter fun x=>decide (dt x≠dt o))++[o'],?_,?_,fun x=>?_⟩
 ·rw [netL_app,h1]
  show (jH out ⟨true,o⟩).bind _=_
  rw [e1]
  show (jH _ ⟨false,o'⟩).bind _=_
  rw [e2]
  rfl
 ·rw [List.map_append];refine List.nodup_append.2 ⟨?_,by simp,fun a ha b hb=>?_⟩
  ·exact h2.sublist (List.filter_sublist.map dt)
  ·simp only [List.map_cons,List.map_nil,List.mem_singleton] at hb;rw [hb];intro e;exact hn (e ▸ ha)
 ·rw [hv x,List.mem_append,List.mem_singleton,List.mem_filter,h3 x];simp only [ne_eq,decide_not,Bool.not_eq_true',decide_eq_false_iff_not]
  constructor
  ·rintro (h | h)
   ·exact .inr h
   ·exact .inl h
  ·rintro (h | h)
   ·exact .inr h
   ·exact .inl h
theorem netL_say:∀ (l:List Ot) (out:List Ot),(out.map dt).Nodup→(l.map dt).Nodup→(∀ x∈l,dt x ∉ out.map dt)→netL out (l.map (Rw.mk false))=some (out++l)
 | [],out,_,_,_=>by simp [netL]
 | o :: l,out,h1,h2,h3=>by
  show (jH out ⟨false,o⟩).bind _=_
  have hno:=h3 o (by simp);have e:jH out ⟨false,o⟩=some (out++[o]):=by
   unfold jH;rw [if_neg (by simp),if_neg hno]
  rw [e]
  show netL (out++[o]) (l.map (Rw.mk false))=_
  simp only [List.map_cons,List.nodup_cons] at h2
  have:=netL_say l (out++[o]) (by
   rw [List.map_append];refine List.nodup_append.2 ⟨h1,by simp,fun a ha b hb=>?_⟩;simp only [List.map_cons,List.map_nil,List.mem_singleton] at hb;rw [hb];intro e;exact hno (e ▸ ha)) h2.2 (fun x hx=>by
   rw [List.map_append,List.mem_append];rintro (h | h)
   ·exact h3 x (by simp [hx]) h
   ·simp only [List.map_cons,List.map_nil,List.mem_singleton] at h;exact h2.1 (h ▸ List.mem_map_of_mem hx))
  rw [this,List.append_assoc]
  rfl
structure OfV (ks:List Int) (cs:List Ct) (V:List Pn):Prop where
 rise:jD V
 acc:∀ p∈V,p.ac=iu ks (ofK p.st p.k p.n cs)∧ofK p.st p.k p.n cs≠[]
 all:∀ c∈cs,∃ p∈V,p.st=c.st∧p.k=c.key.1∧p.n=c.key.2
 few:V.length≤cs.length
theorem ofV_nil (ks:List Int):OfV ks [] []:=⟨by simp [jD],by simp,by simp,by simp⟩
def plt (a b:Pn):Prop:=lexlt a.st a.k a.n b.st b.k b.n
instance (a b:Pn):Decidable (plt a b):=by unfold plt lexlt;infer_instance
theorem o4 (a:Pn):¬ plt a a:=jh _ _ _
theorem ni (a b:Pn):plt a b→¬ plt b a:=by unfold plt lexlt;omega
def nI (x:Pn):List Pn→List Pn
 | []=>[x]
 | p :: l=>if plt p x then p :: nI x l else x :: p :: l
theorem cT (x y:Pn):∀ l,y∈nI x l↔y=x∨y∈l
 | []=>by simp [nI]
 | p :: l=>by
  unfold nI
  split
  ·rw [List.mem_cons,cT x y l,List.mem_cons]
   constructor
   ·rintro (h | h | h)
    ·exact .inr (.inl h)
    ·exact .inl h
    ·exact .inr (.inr h)
   ·rintro (h | h | h)
    ·exact .inr (.inl h)
    ·exact .inl h
    ·exact .inr (.inr h)
  ·rw [List.mem_cons]
theorem mA (x:Pn):∀ l,(nI x l).length=l.length+1
 | []=>rfl
 | p :: l=>by
  unfold nI
  split
  ·rw [List.length_cons,mA x l,List.length_cons]
  ·rfl
theorem fm (x:Pn):∀ l,l.Pairwise plt→(∀ p∈l,du p≠du x)→(nI x l).Pairwise plt
 | [],_,_=>by simp [nI]
 | p :: l,h,hn=>by
  obtain ⟨h1,h2⟩:=List.pairwise_cons.1 h;unfold nI
  split
  ·rename_i hp;refine List.pairwise_cons.2 ⟨fun y hy=>?_,fm x l h2 (fun q hq=>hn q (by simp [hq]))⟩
   rcases (cT x y l).1 hy with e | e
   ·rw [e];exact hp
   ·exact h1 y e
  ·rename_i hp;have hk:=hn p (by simp);have hx:plt x p:=by
    unfold plt lexlt at hp ⊢;unfold du at hk;have hk:¬ (p.st=x.st∧p.k=x.k∧p.n=x.n):=fun e=>hk (by rw [e.1,e.2.1,e.2.2])
    omega
   refine List.pairwise_cons.2 ⟨fun y hy=>?_,h⟩
   rcases List.mem_cons.1 hy with e | e
   ·rw [e];exact hx
   ·have:=h1 y e
    unfold plt lexlt at hx this ⊢;omega
def nR (x:Pn) (l:List Pn):List Pn:=l.map fun p=>if du p=du x then x else p
theorem updR_rise {x:Pn} {l:List Pn} (h:l.Pairwise plt):(nR x l).Pairwise plt:=by
 unfold nR;refine List.pairwise_map.2 (h.imp fun {a b} hab=>?_);have e:∀ p:Pn,(if du p=du x then x else p).st=p.st∧(if du p=du x then x else p).k=p.k∧(if du p=du x then x else p).n=p.n:=fun p=>by
  split
  ·rename_i h9;unfold du at h9;simp only [Prod.mk.injEq] at h9;exact ⟨h9.1.symm,h9.2.1.symm,h9.2.2.symm⟩
  ·exact ⟨rfl,rfl,rfl⟩
 unfold plt;obtain ⟨a1,a2,a3⟩:=e a;obtain ⟨b1,b2,b3⟩:=e b;rw [a1,a2,a3,b1,b2,b3];exact hab
theorem set_updR {l:List Pn} (h:jD l) {j:Nat} (hj:j < l.length) {x:Pn} (hk:du l[j]=du x):l.set j x=nR x l:=by
 apply List.ext_getElem?
 intro i;unfold nR;rw [List.getElem?_map,List.getElem?_set]
 by_cases hi:i < l.length
 ·rw [List.getElem?_eq_getElem hi]
  by_cases e:j=i
  ·subst e;rw [if_pos rfl,if_pos hj]
   simp [hk]
  ·rw [if_neg e];simp only [Option.map_some,Option.some.injEq];rw [if_neg];intro e9;have e8:du l[j]=du l[i]:=hk.trans e9.symm;unfold du at e8;simp only [Prod.mk.injEq] at e8;exact e (ky h (List.getElem?_eq_getElem hj) (List.getElem?_eq_getElem hi) e8)
 ·rw [List.getElem?_eq_none (by omega)];have:j≠i:=by omega
  rw [if_neg this]
  rfl
theorem ins_is {l:List Pn} {i:Nat} {x:Pn} (h:jD (l.take i++x :: l.drop i)):l.take i++x :: l.drop i=nI x l:=by
 have hp:(l.take i++x :: l.drop i).Pairwise plt:=h;have hm:∀ y,y∈l.take i++x :: l.drop i↔y=x∨y∈l:=fun y=>by
  rw [List.mem_append,List.mem_cons];have:y∈l↔y∈l.take i∨y∈l.drop i:=by rw [← List.mem_append,List.take_append_drop]
  rw [this]
  constructor
  ·rintro (h | h | h)
   ·exact .inr (.inl h)
   ·exact .inl h
   ·exact .inr (.inr h)
  ·rintro (h | h | h)
   ·exact .inr (.inl h)
   ·exact .inl h
   ·exact .inr (.inr h)
 have hl:l.Pairwise plt:=by
  have h1:=List.pairwise_append.1 hp;rw [← List.take_append_drop i l];refine List.pairwise_append.2 ⟨h1.1,(List.pairwise_cons.1 h1.2.1).2,fun a ha b hb=>h1.2.2 a ha b (by simp [hb])⟩
 have hk:∀ p∈l,du p≠du x:=fun p hpl e=>by
  have h1:=List.pairwise_append.1 hp;unfold du at e;simp only [Prod.mk.injEq] at e;rw [← List.take_append_drop i l,List.mem_append] at hpl
  rcases hpl with hpl | hpl
  ·have:=h1.2.2 p hpl x (by simp)
   unfold plt lexlt at this;omega
  ·have:=(List.pairwise_cons.1 h1.2.1).1 p hpl
   unfold plt lexlt at this;omega
 exact gX plt o4 ni _ _ hp (fm x l hl hk) (fun y=>(hm y).trans (cT x y l).symm)
theorem filter_insR {l:List Pn} (h:l.Pairwise plt) {x:Pn} (hn:∀ p∈l,du p≠du x) (f:Pn→Bool) (hf:f x=true):(nI x l).filter f=nI x (l.filter f):=by
 refine gX plt o4 ni _ _ ((fm x l h hn).filter _) (fm x _ (h.filter _) (fun p hp=>hn p (List.mem_filter.1 hp).1)) (fun y=>?_);rw [List.mem_filter,cT,cT,List.mem_filter]
 constructor
 ·rintro ⟨h1 | h1,h2⟩
  ·exact .inl h1
  ·exact .inr ⟨h1,h2⟩
 ·rintro (h1 | ⟨h1,h2⟩)
  ·exact ⟨.inl h1,by rw [h1];exact hf⟩
  ·exact ⟨.inr h1,h2⟩
theorem filter_updR {l:List Pn} {x:Pn} (f:Pn→Bool) (hf:∀ p,du p=du x→f p=f x):(nR x l).filter f=nR x (l.filter f):=by
 unfold nR
 induction l with
 | nil=>rfl
 | cons p l ih =>
  simp only [List.map_cons,List.filter_cons]
  by_cases hk:du p=du x
  ·rw [if_pos hk,hf p hk]
   by_cases h9:f x=true
   ·rw [if_pos h9,if_pos h9,ih]
    simp [hk]
   ·rw [if_neg h9,if_neg h9,ih]
  ·rw [if_neg hk]
   by_cases h9:f p=true
   ·rw [if_pos h9,if_pos h9,ih]
    simp [hk]
   ·rw [if_neg h9,if_neg h9,ih]
end Go.Proofs.YtcgjflamgnjhcaaGreatDoor
