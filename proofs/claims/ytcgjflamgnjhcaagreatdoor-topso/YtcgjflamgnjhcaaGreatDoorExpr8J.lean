/- Own texts in one. Conditions: as named in each. -/
import Derived.Test.YtcgjflamgnjhcaaGreatDoorExpr1J
import Derived.Test.YtcgjflamgnjhcaaGreatDoorParsePureJ
import Derived.Test.YtcgjflamgnjhcaaGreatDoorKinJ
import Derived.MapKept
set_option linter.unusedVariables false
set_option linter.unusedSimpArgs false
set_option maxRecDepth 100000
set_option maxHeartbeats 8000000
namespace Go.Proofs.YtcgjflamgnjhcaaGreatDoor
open Go.ChangeShapes Go.WideShapes Go.ChangeAt Go.RowKit
theorem infoN:(Tryz.prog.info? 153).map (fun i=>(i.zero,i.size,i.bytes))=some (some (.agg #[.int .i64 0,.int .i64 0,.int .i64 0,.int .i64 0,.int .i64 0,.int .i64 0]),6,48):=by kernel_rfl
theorem cN (w:World) (a b c d x y:Value) (e:TypeId):∀ j u,([a,b,c,d,x,y]:List Value)[j]?=some u→(w.alloc (.cells #[a,b,c,d,x,y] e)).cell? ((⟨w.heap.size,0,none⟩:Addr).add j)=some u:=by
 intro j u h;have hj:j < 6:=by simpa using (List.getElem?_eq_some_iff.1 h).1
 have:=World.ownsRow_lit (base:=0) (size:=6) (e:=e) w #[a,b,c,d,x,y] 1 (Nat.zero_le _) (by decide) rfl
 have:=this.cellAt j (by omega)
 rw [show (⟨w.heap.size,0,none⟩:Addr).add j=⟨w.heap.size,j,none⟩ from by rcases (by omega:j=0∨j=1∨j=2∨j=3∨j=4∨j=5) with rfl | rfl | rfl | rfl | rfl | rfl <;> rfl,this];exact h
def Mvb (n:Nd):Prop:=-1000≤n.x∧n.x≤1000∧-1000≤n.y∧n.y≤1000
theorem gy (B:Nat) (to l:List Nd) (u v:Value) (by_:Int) (w:World) (hB:B≤w.heap.size) (ho:w.ownsRow B 153 6 u to.length (f9 to)) (hl:l.length≤1000) (ht:to.length≤1000)
  (hr:bK w v 6 l.length (f9 l)) (hlo:∀ g off n c,v=.slice (some ⟨g,off,none⟩) n c→0 < n→g < B) (hm:∀ n∈l,Mvb n) (h1:-1000≤by_) (h2:by_≤1000) :
  Calls Tryz.prog 198 #[u,v,.int .i64 by_] w fun e w'=>∃ u',e=.returned u'∧w'.ownsRow B 153 6 u' (to++l.map (mv by_)).length (f9 (to++l.map (mv by_)))∧Below B w w':=by
 obtain ⟨ao,cap,rfl⟩:=am hr;obtain ⟨ao2,cap2,rfl⟩:=ax ho;obtain ⟨i0,hi0,hz0,hz1,hz2⟩:=info_parts infoN;have HR:=aa hr;have HO:=aa ho;have HLO:=aa hlo;have HM:=aa hm;clear hr ho hlo hm
 go_enter Tryz.func198,Tryz.ntmps198
 go_wp2_with fail
 go_loopw [0,11] (fun v i wr=>∃ (m:Nat) (us:List Nd),m≤l.length∧i=.int .i64 m∧us.length≤to.length+m∧Hid (wr.ownsRow B 153 6 v us.length (f9 us))∧Hid (Below B w wr)∧Hid (us=to++(l.take m).map (mv by_))) (fun _ i _=>l.length - (intOf i).toNat)
 case atStart=>exact ⟨0,to,Nat.zero_le _,rfl,Nat.le_refl _,HO,Below.refl _ _,by show _=_;simp⟩
 case round =>
  clear HO;obtain ⟨m,us,hm,rfl,hus,HO,HB,HU⟩:=hrel;obtain ⟨ao3,cap3,rfl⟩:=ax HO.out
  by_cases hlt:m < l.length
  ·obtain ⟨g,off,rfl,hnode,l1,l2,l3⟩:=gD HR.out _ hlt;have hgB:=HLO.out g off _ _ rfl (by omega);obtain ⟨m1,m2,m3,m4⟩:=HM.out _ (List.getElem_mem hlt);have HTK:Hid (l.take (m+1)=l.take m++[l[m]]):=by show _=_;simp
   generalize l[m]=nd at *;obtain ⟨n0,n1,n2,n3,n4,n5⟩:=ez hnode HB.out hgB;clear hnode;unfold maxLen at l2;obtain ⟨op,x,y,nn,k,nv⟩:=nd
   simp only at n0 n1 n2 n3 n4 n5 m1 m2 m3 m4
   by_cases a1:ar op=1
   ·have b1:(ar op == 1)=true:=by simp [a1]
    have HMV:Hid (mv by_ ⟨op,x,y,nn,k,nv⟩=⟨op,x+by_,y,nn,k,nv⟩):=by show _=_;unfold mv;rw [if_pos a1]
    clear a1
    go_wp2_with (first | (go_at_call 184;refine (co _ _).mono ?_;rintro e w' ⟨rfl,rfl⟩) | (at_builtin;go_must (refine wpList_append_own _ rfl (.tmp 37) (.tmp 39) 26 rfl B 153 i0 (.agg #[.int .i64 0,.int .i64 0,.int .i64 0,.int .i64 0,.int .i64 0,.int .i64 0]) 6 48 Tryz.underlying26 hi0 hz0 hz1 hz2 rfl (by decide) _ _ _ rfl ((HO.out.alloc _).alloc _) ⟨wr.heap.size+1,0,none⟩ 1 1 (cT (⟨op,x+by_,y,nn,k,nv⟩:Nd)) rfl rfl (by have q:=cN (wr.alloc (.cells (cT (⟨op,x+by_,y,nn,k,nv⟩:Nd)).toArray 153)) (.int .i64 ((⟨op,x+by_,y,nn,k,nv⟩:Nd)).op) (.int .i64 ((⟨op,x+by_,y,nn,k,nv⟩:Nd)).x) (.int .i64 ((⟨op,x+by_,y,nn,k,nv⟩:Nd)).y) (.int .i64 ((⟨op,x+by_,y,nn,k,nv⟩:Nd)).n) (.int .i64 ((⟨op,x+by_,y,nn,k,nv⟩:Nd)).k) (.int .i64 ((⟨op,x+by_,y,nn,k,nv⟩:Nd)).v) 153;simpa [cT] using q) (by intro u hu;simp [cT] at hu;rcases hu with rfl | rfl | rfl | rfl | rfl | rfl <;> rfl) (by show _≤2 ^ 63 - 1;omega) (by omega) (by have:=HB.out.size;simp;omega) ?_)))
    intro v' w5 ho5 hg5 _;have ho6:w5.ownsRow B 153 6 v' (us++[(⟨op,x+by_,y,nn,k,nv⟩:Nd)]).length (f9 (us++[(⟨op,x+by_,y,nn,k,nv⟩:Nd)])):=by
     rw [gQ,List.length_append];exact ho5
    have HO5:=aa ho6;have HB5:Hid (Below B w w5):=((HB.out.alloc (Nat.le_trans hB HB.out.size) _).alloc (by have:=HB.out.size;simp;omega) _).grown hg5 (by have:=HB.out.size;simp;omega) (fun k hk=>(HO.out.lt k hk).1);clear ho5 hg5 ho6;go_wp2_with fail;go_roundw
    case rel=>exact ⟨m+1,us++[(⟨op,x+by_,y,nn,k,nv⟩:Nd)],by omega,by go_num,by simp;omega,HO5,HB5,by show _=_;rw [HU.out,HTK.out];simp [HMV.out]⟩
    case measure=>simp [intOf];omega
   ·have b1:(ar op == 1)=false:=by simp [a1]
    by_cases a2:ar op=2
    ·have b2:(ar op == 2)=true:=by simp [a2]
     have HMV:Hid (mv by_ ⟨op,x,y,nn,k,nv⟩=⟨op,x+by_,y+by_,nn,k,nv⟩):=by show _=_;unfold mv;rw [if_neg a1,if_pos a2]
     clear a1 a2
     go_wp2_with (first | (go_at_call 184;refine (co _ _).mono ?_;rintro e w' ⟨rfl,rfl⟩) | (at_builtin;go_must (refine wpList_append_own _ rfl (.tmp 37) (.tmp 39) 26 rfl B 153 i0 (.agg #[.int .i64 0,.int .i64 0,.int .i64 0,.int .i64 0,.int .i64 0,.int .i64 0]) 6 48 Tryz.underlying26 hi0 hz0 hz1 hz2 rfl (by decide) _ _ _ rfl ((HO.out.alloc _).alloc _) ⟨wr.heap.size+1,0,none⟩ 1 1 (cT (⟨op,x+by_,y+by_,nn,k,nv⟩:Nd)) rfl rfl (by have q:=cN (wr.alloc (.cells (cT (⟨op,x+by_,y+by_,nn,k,nv⟩:Nd)).toArray 153)) (.int .i64 ((⟨op,x+by_,y+by_,nn,k,nv⟩:Nd)).op) (.int .i64 ((⟨op,x+by_,y+by_,nn,k,nv⟩:Nd)).x) (.int .i64 ((⟨op,x+by_,y+by_,nn,k,nv⟩:Nd)).y) (.int .i64 ((⟨op,x+by_,y+by_,nn,k,nv⟩:Nd)).n) (.int .i64 ((⟨op,x+by_,y+by_,nn,k,nv⟩:Nd)).k) (.int .i64 ((⟨op,x+by_,y+by_,nn,k,nv⟩:Nd)).v) 153;simpa [cT] using q) (by intro u hu;simp [cT] at hu;rcases hu with rfl | rfl | rfl | rfl | rfl | rfl <;> rfl) (by show _≤2 ^ 63 - 1;omega) (by omega) (by have:=HB.out.size;simp;omega) ?_)))
     intro v' w5 ho5 hg5 _;have ho6:w5.ownsRow B 153 6 v' (us++[(⟨op,x+by_,y+by_,nn,k,nv⟩:Nd)]).length (f9 (us++[(⟨op,x+by_,y+by_,nn,k,nv⟩:Nd)])):=by
      rw [gQ,List.length_append];exact ho5
     have HO5:=aa ho6;have HB5:Hid (Below B w w5):=((HB.out.alloc (Nat.le_trans hB HB.out.size) _).alloc (by have:=HB.out.size;simp;omega) _).grown hg5 (by have:=HB.out.size;simp;omega) (fun k hk=>(HO.out.lt k hk).1);clear ho5 hg5 ho6;go_wp2_with fail;go_roundw
     case rel=>exact ⟨m+1,us++[(⟨op,x+by_,y+by_,nn,k,nv⟩:Nd)],by omega,by go_num,by simp;omega,HO5,HB5,by show _=_;rw [HU.out,HTK.out];simp [HMV.out]⟩
     case measure=>simp [intOf];omega
    ·have b2:(ar op == 2)=false:=by simp [a2]
     have HMV:Hid (mv by_ ⟨op,x,y,nn,k,nv⟩=⟨op,x,y,nn,k,nv⟩):=by show _=_;unfold mv;rw [if_neg a1,if_neg a2]
     clear a1 a2
     go_wp2_with (first | (go_at_call 184;refine (co _ _).mono ?_;rintro e w' ⟨rfl,rfl⟩) | (at_builtin;go_must (refine wpList_append_own _ rfl (.tmp 37) (.tmp 39) 26 rfl B 153 i0 (.agg #[.int .i64 0,.int .i64 0,.int .i64 0,.int .i64 0,.int .i64 0,.int .i64 0]) 6 48 Tryz.underlying26 hi0 hz0 hz1 hz2 rfl (by decide) _ _ _ rfl ((HO.out.alloc _).alloc _) ⟨wr.heap.size+1,0,none⟩ 1 1 (cT (⟨op,x,y,nn,k,nv⟩:Nd)) rfl rfl (by have q:=cN (wr.alloc (.cells (cT (⟨op,x,y,nn,k,nv⟩:Nd)).toArray 153)) (.int .i64 ((⟨op,x,y,nn,k,nv⟩:Nd)).op) (.int .i64 ((⟨op,x,y,nn,k,nv⟩:Nd)).x) (.int .i64 ((⟨op,x,y,nn,k,nv⟩:Nd)).y) (.int .i64 ((⟨op,x,y,nn,k,nv⟩:Nd)).n) (.int .i64 ((⟨op,x,y,nn,k,nv⟩:Nd)).k) (.int .i64 ((⟨op,x,y,nn,k,nv⟩:Nd)).v) 153;simpa [cT] using q) (by intro u hu;simp [cT] at hu;rcases hu with rfl | rfl | rfl | rfl | rfl | rfl <;> rfl) (by show _≤2 ^ 63 - 1;omega) (by omega) (by have:=HB.out.size;simp;omega) ?_)))
     intro v' w5 ho5 hg5 _;have ho6:w5.ownsRow B 153 6 v' (us++[(⟨op,x,y,nn,k,nv⟩:Nd)]).length (f9 (us++[(⟨op,x,y,nn,k,nv⟩:Nd)])):=by
      rw [gQ,List.length_append];exact ho5
     have HO5:=aa ho6;have HB5:Hid (Below B w w5):=((HB.out.alloc (Nat.le_trans hB HB.out.size) _).alloc (by have:=HB.out.size;simp;omega) _).grown hg5 (by have:=HB.out.size;simp;omega) (fun k hk=>(HO.out.lt k hk).1);clear ho5 hg5 ho6;go_wp2_with fail;go_roundw
     case rel=>exact ⟨m+1,us++[(⟨op,x,y,nn,k,nv⟩:Nd)],by omega,by go_num,by simp;omega,HO5,HB5,by show _=_;rw [HU.out,HTK.out];simp [HMV.out]⟩
     case measure=>simp [intOf];omega
  ·have hml:m=l.length:=by omega
   have hU:=HU.out;rw [hml,List.take_length] at hU;have HU:=aa hU;clear hU;have hge:¬ ((m:Int) < (l.length:Int)):=by omega
   clear hml hlt;go_wp2_with fail
   go_ret
   have ho2:wr.ownsRow B 153 6 (.slice ao3 us.length cap3) (to++l.map (mv by_)).length (f9 (to++l.map (mv by_))):=by rw [← HU.out];exact HO.out
   rw [List.length_append,List.length_map] at ho2;exact ⟨.slice ao3 us.length cap3,rfl,ho2,HB.out⟩
theorem good_mvb {l:List Nd} {bs:List Nat} (h:kq l bs) (hl:l.length≤100):∀ n∈l,Mvb n:=by
 intro n hn;obtain ⟨i,hi,rfl⟩:=List.getElem_of_mem hn;have hi':=List.getElem?_eq_getElem hi;obtain ⟨ok,a0,-⟩:=mx h hi';obtain ⟨p1,p2⟩:=good_part h hi';have hle:=qi l[i].op;unfold okN at ok
 by_cases hb:lJ l[i]
 ·simp [hb] at ok
 unfold lJ at hb;unfold Mvb
 rcases (by omega:ar l[i].op=0∨ar l[i].op=1∨ar l[i].op=2) with q | q | q
 ·omega
 ·have:=p1 (by omega);omega
 ·have:=p1 (by omega);have:=p2 q;omega
theorem nf {w:World} {base base':Nat} {e:TypeId} {size n:Nat} {v:Value} {xs:List Value} (h:w.ownsRow base e size v n xs) (hb:base'≤base):w.ownsRow base' e size v n xs :=
 ⟨h.1,h.2.imp id fun ⟨g,cap,cur,a,b,c⟩=>⟨g,cap,cur,a,Nat.le_trans hb b,c⟩⟩
theorem mB {w:World} {size n:Nat} {v:Value} {xs:List Value} (h:bK w v size n xs):∀ g off m c,v=.slice (some ⟨g,off,none⟩) m c→0 < m→g < w.heap.size:=by
 intro g off m c e hm
 rcases h.2 with ⟨⟨ao,cap,h1⟩,-⟩ | ⟨g',off',cap,h1,-,-,h4,-⟩
 ·rw [h1] at e;simp only [Value.slice.injEq] at e;omega
 ·rw [h1] at e;simp only [Value.slice.injEq,Option.some.injEq,Addr.mk.injEq] at e;omega
theorem join_two (op:Int) (l m:List Nd) (u v:Value) (w:World) (hl:l.length≤100) (hm:m.length≤100) (hu:bK w u 6 l.length (f9 l)) (hv:bK w v 6 m.length (f9 m)) (h1:∀ n∈l,Mvb n) (h2:∀ n∈m,Mvb n) (ha:ar op=2) :
  Calls Tryz.prog 190 #[.int .i64 op,u,v] w fun e w'=>∃ u',e=.returned u'∧w'.ownsRow w.heap.size 153 6 u' (gJ op l m).length (f9 (gJ op l m))∧Below w.heap.size w w':=by
 obtain ⟨ao,cap,rfl⟩:=am hu;obtain ⟨ao2,cap2,rfl⟩:=am hv;obtain ⟨i0,hi0,hz0,hz1,hz2⟩:=info_parts infoN;have HU:=aa hu;have HV:=aa hv;have H1:=aa h1;have H2:=aa h2;clear hu hv h1 h2;have b1:(ar op == 1)=false:=by simp [ha]
 have b2:(ar op == 2)=true:=by simp [ha]
 have HA:=aa (fun w=>co op w);clear ha;have HW:Hid (Below w.heap.size w (w.alloc (.cells #[.int .i64 op,.int .i64 ((l.length:Int) - 1),.int .i64 ((l.length:Int)+(m.length:Int) - 1),.int .i64 0,.int .i64 0,.int .i64 0] 153))):=(Below.refl _ _).alloc (Nat.le_refl _) _;have hsz:(w.alloc (.cells #[.int .i64 op,.int .i64 ((l.length:Int) - 1),.int .i64 ((l.length:Int)+(m.length:Int) - 1),.int .i64 0,.int .i64 0,.int .i64 0] 153)).heap.size=w.heap.size+1:=by simp
 go_enter Tryz.func190,Tryz.ntmps190
 go_wp2_with (first | (go_at_call 184;refine (HA.out _).mono ?_;rintro e w' ⟨rfl,rfl⟩) | (at_make;go_must (refine wpList_make_own _ rfl _ _ 26 rfl (w.heap.size+1) 153 i0 (.agg #[.int .i64 0,.int .i64 0,.int .i64 0,.int .i64 0,.int .i64 0,.int .i64 0]) 6 Tryz.underlying26 hi0 hz0 hz1 .i64 .i64 _ (l.length+m.length+1) rfl rfl (by omega) (by rw [hz2];omega) (by show _≤2 ^ 63 - 1;omega) (by simp) ?_)))
 intro w2 ho2 hg2;have HB2:Hid (Below (w.heap.size+1) (w.alloc (.cells #[.int .i64 op,.int .i64 ((l.length:Int) - 1),.int .i64 ((l.length:Int)+(m.length:Int) - 1),.int .i64 0,.int .i64 0,.int .i64 0] 153)) w2):=(Below.refl _ _).grown hg2 (by simp) (fun k hk=>by cases hk);have HBw:Hid (Below w.heap.size w w2):=HW.out.trans (HB2.out.mono (by omega));have HL:=aa (gy (w.heap.size+1) [] l _ (.slice ao l.length cap) 0 w2 (by have:=HB2.out.size;rw [hsz] at this;omega) ho2 (by omega) (by simp) (aA HU.out HBw.out) (fun g off n c e hn=>Nat.lt_succ_of_lt (mB HU.out g off n c e hn)) H1.out (by decide) (by decide));clear ho2 hg2;go_wp2_with fail;refine HL.out.mono ?_;rintro e w3 ⟨u1,rfl,ho3,hb3⟩;simp only [List.nil_append,jo] at ho3;obtain ⟨ao3,cap3,rfl⟩:=ax ho3;have HB3:=aa (HB2.out.trans hb3);have HBw:=aa (HBw.out.trans (hb3.mono (by omega)));have HM:=aa (gy (w.heap.size+1) l m _ (.slice ao2 m.length cap2) (l.length:Int) w3 (by have:=HB3.out.size;rw [hsz] at this;omega) ho3 (by omega) (by omega) (aA HV.out HBw.out) (fun g off n c e hn=>Nat.lt_succ_of_lt (mB HV.out g off n c e hn)) H2.out (by omega) (by omega));clear ho3 hb3 HL HB2;go_wp2_with fail;refine HM.out.mono ?_;rintro e w4 ⟨u2,rfl,ho4,hb4⟩;have HB4:=aa (HB3.out.trans hb4);have HO4:=aa ho4;obtain ⟨ao4,cap4,rfl⟩:=ax ho4;clear ho4 hb4 HM HB3 HBw;have hs4:w.heap.size+1≤w4.heap.size:=by have:=HB4.out.size;rw [hsz] at this;omega
 have hcc:∀ o,w4.cell? ⟨w.heap.size,o,none⟩=(w.alloc (.cells #[.int .i64 op,.int .i64 ((l.length:Int) - 1),.int .i64 ((l.length:Int)+(m.length:Int) - 1),.int .i64 0,.int .i64 0,.int .i64 0] 153)).cell? ⟨w.heap.size,o,none⟩:=fun o=>HB4.out.cell (p:=⟨w.heap.size,o,none⟩) (by simp)
 have c0:w4.cell? ⟨w.heap.size,0,none⟩=some (.int .i64 op):=by rw [hcc];go_simp
 have c1:w4.cell? ⟨w.heap.size,1,none⟩=some (.int .i64 ((l.length:Int) - 1)):=by rw [hcc];go_simp
 have c2:w4.cell? ⟨w.heap.size,2,none⟩=some (.int .i64 ((l.length:Int)+(m.length:Int) - 1)):=by rw [hcc];go_simp
 have c3:w4.cell? ⟨w.heap.size,3,none⟩=some (.int .i64 0):=by rw [hcc];go_simp
 have c4:w4.cell? ⟨w.heap.size,4,none⟩=some (.int .i64 0):=by rw [hcc];go_simp
 have c5:w4.cell? ⟨w.heap.size,5,none⟩=some (.int .i64 0):=by rw [hcc];go_simp
 have hus:(l++m.map (mv (l.length:Int))).length≤200:=by simp;omega
 have HJ:Hid (gJ op l m=(l++m.map (mv (l.length:Int)))++[⟨op,(l.length:Int) - 1,((l.length:Int)+(m.length:Int) - 1),0,0,0⟩]):=rfl;clear hcc;generalize (l++m.map (mv (l.length:Int)))=us at *
 go_wp2_with (at_builtin;go_must (refine wpList_append_own _ rfl (.tmp 47) (.tmp 49) 26 rfl (w.heap.size+1) 153 i0 (.agg #[.int .i64 0,.int .i64 0,.int .i64 0,.int .i64 0,.int .i64 0,.int .i64 0]) 6 48 Tryz.underlying26 hi0 hz0 hz1 hz2 rfl (by decide) _ _ _ rfl (HO4.out.alloc _) ⟨w4.heap.size,0,none⟩ 1 1 [.int .i64 op,.int .i64 ((l.length:Int) - 1),.int .i64 ((l.length:Int)+(m.length:Int) - 1),.int .i64 0,.int .i64 0,.int .i64 0] rfl rfl (cN _ _ _ _ _ _ _ _) (by intro u hu;simp at hu;rcases hu with rfl | rfl | rfl | rfl <;> rfl) (by show _≤2 ^ 63 - 1;omega) (by omega) (by simp;omega) ?_))
 intro v' w5 ho5 hg5 _;have HB5:Hid (Below (w.heap.size+1) (w.alloc (.cells #[.int .i64 op,.int .i64 ((l.length:Int) - 1),.int .i64 ((l.length:Int)+(m.length:Int) - 1),.int .i64 0,.int .i64 0,.int .i64 0] 153)) w5):=(HB4.out.alloc (by omega) _).grown hg5 (by simp;omega) (fun k hk=>(HO4.out.lt k hk).1);have ho6:w5.ownsRow w.heap.size 153 6 v' (gJ op l m).length (f9 (gJ op l m)):=by
  rw [HJ.out,gQ,List.length_append];exact nf ho5 (by omega)
 have HO6:=aa ho6;have HBf:=aa (HW.out.trans (HB5.out.mono (by omega)));clear ho5 hg5 ho6 HB5 HB4 HO4;go_wp2_with fail
 go_ret
 exact ⟨v',rfl,HO6.out,HBf.out⟩
theorem join_one (op:Int) (l m:List Nd) (u v:Value) (w:World) (hl:l.length≤100) (hu:bK w u 6 l.length (f9 l)) (hv:bK w v 6 m.length (f9 m)) (h1:∀ n∈l,Mvb n) (ha:ar op=1) :
  Calls Tryz.prog 190 #[.int .i64 op,u,v] w fun e w'=>∃ u',e=.returned u'∧w'.ownsRow w.heap.size 153 6 u' (fw op l).length (f9 (fw op l))∧Below w.heap.size w w':=by
 obtain ⟨ao,cap,rfl⟩:=am hu;obtain ⟨ao2,cap2,rfl⟩:=am hv;obtain ⟨i0,hi0,hz0,hz1,hz2⟩:=info_parts infoN;have HU:=aa hu;have H1:=aa h1;clear hu hv h1;have b1:(ar op == 1)=true:=by simp [ha]
 have HA:=aa (fun w=>co op w);clear ha;have HW:Hid (Below w.heap.size w (w.alloc (.cells #[.int .i64 op,.int .i64 ((l.length:Int) - 1),.int .i64 0,.int .i64 0,.int .i64 0,.int .i64 0] 153))):=(Below.refl _ _).alloc (Nat.le_refl _) _;have hsz:(w.alloc (.cells #[.int .i64 op,.int .i64 ((l.length:Int) - 1),.int .i64 0,.int .i64 0,.int .i64 0,.int .i64 0] 153)).heap.size=w.heap.size+1:=by simp
 go_enter Tryz.func190,Tryz.ntmps190
 go_wp2_with (first | (go_at_call 184;refine (HA.out _).mono ?_;rintro e w' ⟨rfl,rfl⟩) | (at_make;go_must (refine wpList_make_own _ rfl _ _ 26 rfl (w.heap.size+1) 153 i0 (.agg #[.int .i64 0,.int .i64 0,.int .i64 0,.int .i64 0,.int .i64 0,.int .i64 0]) 6 Tryz.underlying26 hi0 hz0 hz1 .i64 .i64 _ (l.length+1) rfl rfl (by omega) (by rw [hz2];omega) (by show _≤2 ^ 63 - 1;omega) (by simp) ?_)))
 intro w2 ho2 hg2;have HB2:Hid (Below (w.heap.size+1) (w.alloc (.cells #[.int .i64 op,.int .i64 ((l.length:Int) - 1),.int .i64 0,.int .i64 0,.int .i64 0,.int .i64 0] 153)) w2):=(Below.refl _ _).grown hg2 (by simp) (fun k hk=>by cases hk);have HBw:Hid (Below w.heap.size w w2):=HW.out.trans (HB2.out.mono (by omega));have HL:=aa (gy (w.heap.size+1) [] l _ (.slice ao l.length cap) 0 w2 (by have:=HB2.out.size;rw [hsz] at this;omega) ho2 (by omega) (by simp) (aA HU.out HBw.out) (fun g off n c e hn=>Nat.lt_succ_of_lt (mB HU.out g off n c e hn)) H1.out (by decide) (by decide));clear ho2 hg2;go_wp2_with fail;refine HL.out.mono ?_;rintro e w3 ⟨u1,rfl,ho3,hb3⟩;simp only [List.nil_append,jo] at ho3;obtain ⟨ao3,cap3,rfl⟩:=ax ho3;have HB3:=aa (HB2.out.trans hb3);have HBw:=aa (HBw.out.trans (hb3.mono (by omega)));have HM:=aa (gy (w.heap.size+1) l [] _ (.slice none 0 0) (l.length:Int) w3 (by have:=HB3.out.size;rw [hsz] at this;omega) ho3 (by simp) (by omega) ⟨rfl,.inl ⟨⟨_,_,rfl⟩,rfl⟩⟩ (fun g off n c e=>by cases e) (fun n hn=>by cases hn) (by omega) (by omega));clear ho3 hb3 HL HB2;go_wp2_with fail;refine HM.out.mono ?_;rintro e w4 ⟨u2,rfl,ho4,hb4⟩;have HB4:=aa (HB3.out.trans hb4);have HO4:=aa ho4;obtain ⟨ao4,cap4,rfl⟩:=ax ho4;clear ho4 hb4 HM HB3 HBw;have hs4:w.heap.size+1≤w4.heap.size:=by have:=HB4.out.size;rw [hsz] at this;omega
 have hcc:∀ o,w4.cell? ⟨w.heap.size,o,none⟩=(w.alloc (.cells #[.int .i64 op,.int .i64 ((l.length:Int) - 1),.int .i64 0,.int .i64 0,.int .i64 0,.int .i64 0] 153)).cell? ⟨w.heap.size,o,none⟩:=fun o=>HB4.out.cell (p:=⟨w.heap.size,o,none⟩) (by simp)
 have c0:w4.cell? ⟨w.heap.size,0,none⟩=some (.int .i64 op):=by rw [hcc];go_simp
 have c1:w4.cell? ⟨w.heap.size,1,none⟩=some (.int .i64 ((l.length:Int) - 1)):=by rw [hcc];go_simp
 have c2:w4.cell? ⟨w.heap.size,2,none⟩=some (.int .i64 0):=by rw [hcc];go_simp
 have c3:w4.cell? ⟨w.heap.size,3,none⟩=some (.int .i64 0):=by rw [hcc];go_simp
 have c4:w4.cell? ⟨w.heap.size,4,none⟩=some (.int .i64 0):=by rw [hcc];go_simp
 have c5:w4.cell? ⟨w.heap.size,5,none⟩=some (.int .i64 0):=by rw [hcc];go_simp
 have hus:(l++([]:List Nd).map (mv (l.length:Int))).length≤200:=by simp;omega
 have HJ:Hid (fw op l=(l++([]:List Nd).map (mv (l.length:Int)))++[⟨op,(l.length:Int) - 1,0,0,0,0⟩]):=by show _=_;simp [fw]
 clear hcc;generalize (l++([]:List Nd).map (mv (l.length:Int)))=us at *
 go_wp2_with (at_builtin;go_must (refine wpList_append_own _ rfl (.tmp 47) (.tmp 49) 26 rfl (w.heap.size+1) 153 i0 (.agg #[.int .i64 0,.int .i64 0,.int .i64 0,.int .i64 0,.int .i64 0,.int .i64 0]) 6 48 Tryz.underlying26 hi0 hz0 hz1 hz2 rfl (by decide) _ _ _ rfl (HO4.out.alloc _) ⟨w4.heap.size,0,none⟩ 1 1 [.int .i64 op,.int .i64 ((l.length:Int) - 1),.int .i64 0,.int .i64 0,.int .i64 0,.int .i64 0] rfl rfl (cN _ _ _ _ _ _ _ _) (by intro u hu;simp at hu;rcases hu with rfl | rfl | rfl | rfl <;> rfl) (by show _≤2 ^ 63 - 1;omega) (by omega) (by simp;omega) ?_))
 intro v' w5 ho5 hg5 _;have HB5:Hid (Below (w.heap.size+1) (w.alloc (.cells #[.int .i64 op,.int .i64 ((l.length:Int) - 1),.int .i64 0,.int .i64 0,.int .i64 0,.int .i64 0] 153)) w5):=(HB4.out.alloc (by omega) _).grown hg5 (by simp;omega) (fun k hk=>(HO4.out.lt k hk).1);have ho6:w5.ownsRow w.heap.size 153 6 v' (fw op l).length (f9 (fw op l)):=by
  rw [HJ.out,gQ,List.length_append];exact nf ho5 (by omega)
 have HO6:=aa ho6;have HBf:=aa (HW.out.trans (HB5.out.mono (by omega)));clear ho5 hg5 ho6 HB5 HB4 HO4;go_wp2_with fail
 go_ret
 exact ⟨v',rfl,HO6.out,HBf.out⟩
def sgV (s:Sg):Value:=.agg #[.int .i64 s.rank,.int .i64 s.op,.bool s.turned,.bool s.denied]
def sg0:Sg:=⟨0,0,false,false⟩
def oT (w:World) (g:Nat) (L:List (ByteArray×Sg)):Prop:=∃ es clock,w.heap[g]?=some (.map es clock)∧es.toList.map (fun e=>(e.key,e.val))=L.map (fun p=>(Value.string p.1,sgV p.2))
theorem dc {w:World} {g:Nat} {L:List (ByteArray×Sg)} (h:oT w g L):g < w.heap.size:=by
 obtain ⟨es,clock,h,_⟩:=h;exact (Array.getElem?_eq_some_iff.1 h).1
theorem fE {w w':World} {g:Nat} {L:List (ByteArray×Sg)} {bad:Nat→Prop} (h:oT w g L) (hk:KeptB w w' bad) (hb:¬ bad g):oT w' g L:=by
 have hg:=dc h;obtain ⟨es,clock,h,hE⟩:=h;exact ⟨es,clock,(hk.block g hg hb).trans h,hE⟩
theorem underSg:Tryz.prog.underlying 131=some (.map 9 176):=by kernel_rfl
theorem ckS (b:Bool) (k:ByteArray) (w:World):(Instr.checkKey b 10000 9 (.string k)).run Tryz.prog w=.ok () w:=by kernel_rfl
theorem zeroSg (w:World):(zeroValue 176).run Tryz.prog w=.ok (sgV sg0) w:=by kernel_rfl
theorem ba_same (a:ByteArray):(a == a)=true:=by
 show (a.data == a.data)=true
 simp
theorem ba_other {a b:ByteArray} (h:a≠b):(a == b)=false:=by
 have e:(a == b)=(a.data == b.data):=rfl;rw [e,beq_eq_false_iff_ne];intro hd
 apply h
 cases a;cases b;simp at hd;rw [hd]
theorem qk (k:ByteArray):∀ (es:List MapEntry) (L:List (ByteArray×Sg)) (i:Nat),es.map (fun e=>(e.key,e.val))=L.map (fun p=>(Value.string p.1,sgV p.2)) →
  (sgIn L k=none→Instr.findNow .string (.string k) es i=some none)∧(∀ s,sgIn L k=some s→∃ j,Instr.findNow .string (.string k) es i=some (some (j,sgV s)))
 | [],[],i,_=>⟨fun _=>rfl,fun s h=>by simp [sgIn] at h⟩
 | [],_ :: _,i,h=>by simp at h
 | _ :: _,[],i,h=>by simp at h
 | e :: es,p :: L,i,h=>by
  simp only [List.map_cons,List.cons.injEq,Prod.mk.injEq] at h;obtain ⟨⟨h1,h2⟩,h3⟩:=h;have ih:=qk k es L (i+1) h3
  by_cases hq:k=p.1
  ·refine ⟨fun h=>?_,fun s h=>?_⟩
   ·simp only [sgIn,if_pos hq] at h;cases h
   ·simp only [sgIn,if_pos hq] at h;cases h;refine ⟨i,?_⟩
    simp [Instr.findNow,Instr.sameNow,h1,h2,hq,ba_same]
  ·have hne:(k == p.1)=false:=ba_other hq;refine ⟨fun h=>?_,fun s h=>?_⟩
   ·simp only [sgIn,if_neg hq] at h
    simp [Instr.findNow,Instr.sameNow,h1,hne,ih.1 h]
   ·simp only [sgIn,if_neg hq] at h;obtain ⟨j,hj⟩:=ih.2 s h;exact ⟨j,by simp [Instr.findNow,Instr.sameNow,h1,hne,hj]⟩
theorem underStr:Tryz.prog.underlying 9=some .string:=Tryz.underlying9
theorem qO {w:World} {g:Nat} {L:List (ByteArray×Sg)} (h:oT w g L) (k:ByteArray):(Instr.lookup 131 (.map (some g)) (.string k) true).run Tryz.prog w=.ok (.tuple #[sgV ((sgIn L k).getD sg0),.bool (sgIn L k).isSome]) w:=by
 obtain ⟨es,clock,hg,hE⟩:=h;have hf:=qk k es.toList L 0 hE;cases hk:sgIn L k with
 | none =>
  have hrun:=hf.1 hk
  simp [Instr.lookup,Instr.findKey,run_underlying underSg,run_underlying underStr,MapKept.run_getObj_map hg,ckS,hrun,zeroSg]
  rfl
 | some s =>
  obtain ⟨j,hrun⟩:=hf.2 s hk
  simp [Instr.lookup,Instr.findKey,run_underlying underSg,run_underlying underStr,MapKept.run_getObj_map hg,ckS,hrun]
def qm (w:World) (r:Nat) (o:Obj):World:={ w with heap:=w.heap.setIfInBounds r o }
theorem putM_kept (w:World) (r:Nat) (o:Obj):KeptB w (qm w r o) (fun k=>k=r):=by
 refine ⟨⟨rfl,rfl,rfl,by simp [qm],fun k hk=>absurd hk (by omega)⟩,fun k hk hn=>?_⟩;simp only [qm];rw [Array.getElem?_setIfInBounds_ne (by omega)]
theorem putM_at (w:World) (r:Nat) (o:Obj) (h:r < w.heap.size):(qm w r o).heap[r]?=some o:=by
 simp [qm,h]
theorem ph {w:World} {g:Nat} {L:List (ByteArray×Sg)} (h:oT w g L) (k:ByteArray) (s:Sg) (hk:sgIn L k=none):∃ w',(Instr.mapUpdate 131 (.map (some g)) (.string k) (sgV s)).run Tryz.prog w=.ok () w'∧oT w' g (L++[(k,s)])∧KeptB w w' (fun q=>q=g):=by
 have hlt:=dc h;obtain ⟨es,clock,hg,hE⟩:=h;have hrun:=(qk k es.toList L 0 hE).1 hk;refine ⟨qm w g (.map (es.push { key:=.string k,val:=sgV s,born:=clock }) (clock+1)),?_,⟨_,_,putM_at _ _ _ hlt,?_⟩,putM_kept _ _ _⟩
 ·simp [Instr.mapUpdate,Instr.findKey,run_underlying underSg,run_underlying underStr,MapKept.run_getObj_map hg,ckS,hrun,MapKept.run_setObj_map _ hg,qm]
 ·simp [hE]
theorem mapL_new (w:World):oT (w.alloc (.map #[] 0)) w.heap.size []:=⟨#[],0,heap_alloc_new w _,rfl⟩
theorem cC {w w':World} {v:Value} {size n:Nat} {xs:List Value} {bad:Nat→Prop} (h:bK w v size n xs) (hk:KeptB w w' bad) (hb:∀ g off m c,v=.slice (some ⟨g,off,none⟩) m c→¬ bad g):bK w' v size n xs:=by
 obtain ⟨h0,h⟩:=h;refine ⟨h0,?_⟩
 rcases h with h | ⟨g,off,cap,h1,h2,h3,h4,h5⟩
 ·exact .inl h
 ·exact .inr ⟨g,off,cap,h1,h2,h3,Nat.lt_of_lt_of_le h4 hk.b0.size,fun i hi=>by rw [aC hk (off+i) h4 (hb g off n cap h1)];exact h5 i hi⟩
structure PS (w:World) (gp gm:Nat) (wv:Value) (ws:Ws) (d e:Int):Prop where
 bd:BlkAt w gp [wv,.map (some gm),.int .i64 d,errC e]
 row:bK w wv 1 ws.length (ws.map Value.string)
 far:∀ g off m c,wv=.slice (some ⟨g,off,none⟩) m c→g < gp
 sg:oT w gm sgL
 lt:gm < gp
 e0:e≠0→ws=[]
 few:ws.length≤100
theorem PS.ne {w:World} {gp gm:Nat} {wv:Value} {ws:Ws} {d e:Int} (h:PS w gp gm wv ws d e):gm≠gp:=Nat.ne_of_lt h.lt
theorem oy {w w':World} {gp gm:Nat} {wv:Value} {ws:Ws} {d e:Int} {bad:Nat→Prop} (h:PS w gp gm wv ws d e) (hk:KeptB w w' bad) (hb:∀ k,bad k→gp < k):PS w' gp gm wv ws d e :=
 ⟨aH h.bd hk (fun e9=>by have:=hb _ e9;omega),cC h.row hk (fun g off m c e9 e8=>by have:=hb _ e8;have:=h.far g off m c e9;omega),h.far,fE h.sg hk (fun e9=>by have:=hb _ e9;have:=h.lt;omega),h.lt,h.e0,h.few⟩
theorem bA {w w':World} {gp gm:Nat} {wv:Value} {ws:Ws} {d e:Int} (h:PS w gp gm wv ws d e) (hb:Below w.heap.size w w'):PS w' gp gm wv ws d e :=
 ⟨ah h.bd hb h.bd.lt,aA h.row hb,h.far,fE (bad:=fun _=>False) h.sg (ae hb) id,h.lt,h.e0,h.few⟩
theorem mL {w:World} {gp gm:Nat} {wv:Value} {ws:Ws} {d e:Int} (h:PS w gp gm wv ws d e) (k:Nat) (u:Value) {wv':Value} {ws':Ws} {d' e':Int}
  (hb:BlkAt (w.setCell ⟨gp,k,none⟩ u) gp [wv',.map (some gm),.int .i64 d',errC e']) (hr:bK w wv' 1 ws'.length (ws'.map Value.string)) (hf:∀ g off m c,wv'=.slice (some ⟨g,off,none⟩) m c→g < gp) (he:e'≠0→ws'=[]) (hl:ws'.length≤100) :
  PS (w.setCell ⟨gp,k,none⟩ u) gp gm wv' ws' d' e'∧KeptB w (w.setCell ⟨gp,k,none⟩ u) (fun q=>q=gp):=by
 have ks:KeptB w (w.setCell ⟨gp,k,none⟩ u) (fun q=>q=gp):=ai (ae (bad:=fun q=>q=gp) (Below.refl w.heap.size w)) rfl k u;exact ⟨⟨hb,cC hr ks (fun g off m c e9 e8=>by have:=hf g off m c e9;omega),hf,fE h.sg ks h.ne,h.lt,he,hl⟩,ks⟩
theorem nD {w:World} {v:Value} {x:ByteArray} {ws:Ws} (h:bK w v 1 (x :: ws).length ((x :: ws).map Value.string)):∃ g off cap,v=.slice (some ⟨g,off,none⟩) (ws.length+1) cap∧ws.length+1≤cap∧cap≤maxLen∧g < w.heap.size∧w.cell? ⟨g,off,none⟩=some (.string x)∧bK w (.slice (some ⟨g,off+1,none⟩) ws.length (cap - 1)) 1 ws.length (ws.map Value.string):=by
 obtain ⟨h0,h⟩:=h
 rcases h with ⟨-,h⟩ | ⟨g,off,cap,h1,h2,h3,h4,h5⟩
 ·simp at h
 ·simp only [List.length_cons] at h1 h2;refine ⟨g,off,cap,h1,h2,h3,h4,?_,by simp,.inr ⟨g,off+1,cap - 1,rfl,by omega,by omega,h4,fun j hj=>?_⟩⟩
  ·have:=h5 0 (by simp)
   simpa using this
  ·have:=h5 (j+1) (by simp;omega)
   rw [show off+1+j=off+(j+1) from by omega,this]
   simp
end Go.Proofs.YtcgjflamgnjhcaaGreatDoor
