/- Own texts in one. Conditions: as named in each. -/
import Derived.Test.YtcgjflamgnjhcaaGreatDoorEnRJ
set_option linter.unusedVariables false
set_option linter.unusedSimpArgs false
set_option maxRecDepth 100000
set_option maxHeartbeats 8000000
namespace Go.Proofs.YtcgjflamgnjhcaaGreatDoor
open Go.ChangeShapes Go.WideShapes Go.ChangeAt Go.RowKit
theorem iE {w:World} {base g n cap:Nat} {e:TypeId} {xs:List Value} (h:w.ownsRow base e 1 (.slice (some ⟨g,0,none⟩) n cap) n xs) (p:Nat) (u:Value) :
  (w.setCell ⟨g,p,none⟩ u).ownsRow base e 1 (.slice (some ⟨g,0,none⟩) n cap) n (xs.set p u):=by
 obtain ⟨h0,h1⟩:=h;refine ⟨by simpa using h0,?_⟩
 rcases h1 with ⟨e1,-⟩ | ⟨g',cap',cur,e1,hb,hg,hle,hm,hs,ht⟩
 ·cases e1
 ·simp only [Value.slice.injEq,Option.some.injEq,Addr.mk.injEq,and_true,true_and] at e1;obtain ⟨rfl,rfl⟩:=e1;refine .inr ⟨g,cap,cur.setIfInBounds p u,rfl,hb,?_,hle,hm,by simpa using hs,?_⟩
  ·simp [World.setCell,Array.getElem?_modify,hg]
  ·rw [← ht,Array.toList_setIfInBounds,List.take_set]
theorem gT {w:World} {base g n cap:Nat} {e:TypeId} {xs:List Value} (h:w.ownsRow base e 1 (.slice (some ⟨g,0,none⟩) n cap) n xs) (o:Nat):w.frozen? ⟨g,o,none⟩=false:=by
 obtain ⟨h0,h1⟩:=h
 rcases h1 with ⟨e1,-⟩ | ⟨g',cap',cur,e1,hb,hg,hle,hm,hs,ht⟩
 ·cases e1
 ·simp only [Value.slice.injEq,Option.some.injEq,Addr.mk.injEq,and_true,true_and] at e1;obtain ⟨rfl,rfl⟩:=e1
  simp [World.frozen?,hg]
theorem nt {w:World} {base base' n g':Nat} {e:TypeId} {v:Value} {xs:List Value} (h:w.ownsRow base e 1 v n xs) (hb:base'≤base) (hg:g' < base) (o:Nat) (u:Value):(w.setCell ⟨g',o,none⟩ u).ownsRow base' e 1 v n xs:=by
 obtain ⟨h0,h1⟩:=h;refine ⟨h0,?_⟩
 rcases h1 with h1 | ⟨g,cap,cur,e1,hb',hg',hle,hm,hs,ht⟩
 ·exact .inl h1
 ·exact .inr ⟨g,cap,cur,e1,by omega,by rw [Below.heap_setCell w _ u g (by simp;omega)];exact hg',hle,hm,hs,ht⟩
theorem owns_far2 {w:World} {base n g g' cap:Nat} {e:TypeId} {xs:List Value} (h:w.ownsRow base e 1 (.slice (some ⟨g,0,none⟩) n cap) n xs) (hg:g'≠g) (o:Nat) (u:Value):(w.setCell ⟨g',o,none⟩ u).ownsRow base e 1 (.slice (some ⟨g,0,none⟩) n cap) n xs:=by
 obtain ⟨h0,h1⟩:=h;refine ⟨h0,?_⟩
 rcases h1 with ⟨e1,-⟩ | ⟨g2,cap',cur,e1,hb',hg',hle,hm,hs,ht⟩
 ·cases e1
 ·simp only [Value.slice.injEq,Option.some.injEq,Addr.mk.injEq,and_true,true_and] at e1;obtain ⟨rfl,rfl⟩:=e1;exact .inr ⟨g,cap,cur,rfl,hb',by rw [Below.heap_setCell w _ u g (by simpa using hg.symm)];exact hg',hle,hm,hs,ht⟩
theorem ed {w:World} {base n:Nat} {e:TypeId} {v:Value} {xs:List Value} (h:w.ownsRow base e 1 v n xs) (h0:0 < n):∃ g cap,v=.slice (some ⟨g,0,none⟩) n cap∧base≤g∧g < w.heap.size:=by
 rcases h.2 with ⟨-,hn⟩ | ⟨g,cap,cur,rfl,hb,hg,-⟩
 ·omega
 ·exact ⟨g,cap,rfl,hb,(Array.getElem?_eq_some_iff.1 hg).1⟩
theorem eql_ints_nil (w:World) (a:Addr) (n c:Nat):(binOp .eql 56 (.slice (some a) n c) (.slice none 0 0)).run Tryz.prog w=.ok (.bool false) w:=by kernel_rfl
theorem clone_any (G:List Int) (v:Value) (w:World) (hl:G.length≤1000) (h0:0 < G.length) (hr:pD w v G) :
  Calls Tryz.prog 94 #[v] w fun e w'=>∃ u,e=.returned u∧w'.ownsRow w.heap.size 3 1 u G.length (G.map (Value.int .i64))∧Below w.heap.size w w':=by
 obtain ⟨g,off,cap,rfl,l1,l2,l3,hc0⟩:=kZ hr h0;obtain ⟨i0,hi,hz0,hz1,hz2⟩:=info_parts infoI;have HC:=aa hc0;clear hc0 hr;unfold maxLen at l2;have en:=fun w=>eql_ints_nil w ⟨g,off,none⟩ G.length cap
 go_enter Tryz.func94,Tryz.ntmps94
 have HO:Hid ((w.alloc (.cells #[] 3)).ownsRow w.heap.size 3 1 (.slice (some ⟨w.heap.size,0,none⟩) 0 0) 0 []):=by
  have h:=World.ownsRow_lit (base:=w.heap.size) (size:=1) (e:=3) w #[] 0 (Nat.le_refl _) (by decide) rfl;exact aa (by simpa using h)
 have HN:Hid (∀ j u,(G.map (Value.int .i64))[j]?=some u→(w.alloc (.cells #[] 3)).cell? ((⟨g,off,none⟩:Addr).add j)=some u):=fun j u hu=>by
  have hj:j < G.length:=by
   have:=(List.getElem?_eq_some_iff.1 hu).1
   simpa using this
  have h1:=HC.out j hj;have h2:(w.alloc (.cells #[] 3)).cell? ⟨g,off+j,none⟩=w.cell? ⟨g,off+j,none⟩:=World.cell?_alloc_lt _ _ _ (by exact l3);have h3:(⟨g,off,none⟩:Addr).add j=⟨g,off+j,none⟩:=by simp [Addr.add]
  rw [h3,h2,h1]
  simp [List.getD,hj] at hu ⊢
  exact hu
 have ho:∀ u∈G.map (Value.int .i64),u.oneCell'=true:=ints_oneCell .i64 G;have HOC:=aa ho;clear ho
 go_wp2_with (at_builtin;go_must (refine wpList_append_own _ rfl (.tmp 5) (.tmp 6) 56 rfl w.heap.size 3 i0 (.int .i64 0) 1 8 Tryz.underlying56 hi hz0 hz1 hz2 rfl (by decide) _ _ _ rfl HO.out ⟨g,off,none⟩ G.length cap (G.map (Value.int .i64)) rfl (by simp) HN.out HOC.out (by show _≤2 ^ 63 - 1;omega) (by omega) (by simp) ?_))
 intro v' w3 ho3 hg3 _;have ho4:w3.ownsRow w.heap.size 3 1 v' G.length (G.map (Value.int .i64)):=by simpa using ho3
 have HO3:=aa ho4;have HB3:Hid (Below w.heap.size w w3):=((Below.refl _ _).alloc (Nat.le_refl _) _).grown hg3 (by simp) (fun k hk=>by have:=(HO.out.lt k hk).1;omega);clear ho3 hg3 ho4;obtain ⟨g3,cap3,rfl,-,-⟩:=ed HO3.out h0;go_wp2_with fail
 go_ret
 exact ⟨_,rfl,HO3.out,HB3.out⟩
theorem see_any (G:List Int) (v:Value) (p:Nat) (t:Int) (w:World) (hl:G.length≤1000) (hp:p < G.length) (hr:pD w v G) :
  Calls Tryz.prog 48 #[.agg #[v],.int .i64 p,.int .i64 t] w fun e w'=>∃ u,e=.returned (.agg #[u])∧w'.ownsRow w.heap.size 3 1 u (eO G p t).length ((eO G p t).map (Value.int .i64))∧Below w.heap.size w w':=by
 obtain ⟨g,off,cap,rfl,l1,l2,l3,hc0⟩:=kZ hr (by omega);have HR:=aa hr;have HA:=aa (fun w=>ol G.length (some ⟨g,off,none⟩) cap p w hl);have d1:decide (0≤(p:Int))=true:=by simp
 have d2:decide ((p:Int) < (G.length:Int))=true:=by simp;omega
 rw [d1,d2] at HA;simp only [Bool.and_self] at HA;clear hc0 hr d1 d2;unfold maxLen at l2;have H1:Hid (Below w.heap.size w ((w.alloc (.cells #[.slice (some ⟨g,off,none⟩) G.length cap] 63)).alloc (.cells #[.slice none 0 0] 63))):=((Below.refl _ _).alloc (Nat.le_refl _) _).alloc (by simp) _
 go_enter Tryz.func48,Tryz.ntmps48
 go_wp2_with fail;refine (clone_any G _ _ hl (by omega) (aA HR.out H1.out)).mono ?_;rintro e w1 ⟨u,rfl,ho,hb⟩;obtain ⟨g1,cap1,rfl,hb1,hg1⟩:=ed ho (by omega);simp only [World.size_alloc] at hb1;have HB:=aa hb;have HO:=aa ho;clear hb ho;obtain ⟨hc,hf⟩:=rules HB;go_wp2_with fail;refine (HA.out _).mono ?_;rintro e w2 ⟨rfl,hb⟩;have HO:=aa (aB HO.out hb (Nat.le_refl _));have hg1:=Nat.lt_of_lt_of_le hg1 hb.size;have HB:=nxt HB hb;clear hb hc hf;obtain ⟨hc,hf⟩:=rules HB;have cx:w2.cell? ⟨g1,p,none⟩=some (.int .i64 (G.getD p 0)):=by
  have h:=HO.out.cellAt p (by omega);rw [h]
  simp [List.getD,hp]
 have fz:=gT HO.out p;obtain ⟨x,hx⟩:∃ x,G.getD p 0=x:=⟨_,rfl⟩;rw [hx] at cx;have HX:=aa hx;clear hx
 by_cases hxt:x < t
 ·have dxt:decide (x < t)=true:=by simp [hxt]
  have hmx:max x t=t:=by omega
  go_wp2_with fail;have ho2:=nt (base':=w.heap.size) (iE HO.out p (.int .i64 t)) (by simp only [World.size_alloc];omega) (g':=w.heap.size+1) (by simp only [World.size_alloc];omega) 0 (.slice (some ⟨g1,0,none⟩) G.length cap1);have hb2:=((H1.out.trans (HB.out.mono H1.out.size)).setCell (p:=⟨g1,p,none⟩) (show w.heap.size≤g1 by omega) (.int .i64 t)).setCell (p:=⟨w.heap.size+1,0,none⟩) (show w.heap.size≤w.heap.size+1 by omega) (.slice (some ⟨g1,0,none⟩) G.length cap1);have hl2:(eO G p t).map (Value.int .i64)=(G.map (Value.int .i64)).set p (.int .i64 t):=by
   unfold eO;rw [HX.out,show max x t=t from by omega,List.map_set]
  exact bodyPost_ret (v:=.agg #[.slice (some ⟨g1,0,none⟩) G.length cap1]) (by simp [results,Tryz.results48,go_sem,hc,hf]) rfl ⟨_,rfl,by rw [hl2,jF];exact ho2,hb2⟩
 ·have dxt:decide (x < t)=false:=by simp;omega
  have hmx:max x t=x:=by omega
  go_wp2_with fail;have ho2:=nt (base':=w.heap.size) (iE HO.out p (.int .i64 x)) (by simp only [World.size_alloc];omega) (g':=w.heap.size+1) (by simp only [World.size_alloc];omega) 0 (.slice (some ⟨g1,0,none⟩) G.length cap1);have hb2:=((H1.out.trans (HB.out.mono H1.out.size)).setCell (p:=⟨g1,p,none⟩) (show w.heap.size≤g1 by omega) (.int .i64 x)).setCell (p:=⟨w.heap.size+1,0,none⟩) (show w.heap.size≤w.heap.size+1 by omega) (.slice (some ⟨g1,0,none⟩) G.length cap1);have hl2:(eO G p t).map (Value.int .i64)=(G.map (Value.int .i64)).set p (.int .i64 x):=by
   unfold eO;rw [HX.out,show max x t=x from by omega,List.map_set]
  exact bodyPost_ret (v:=.agg #[.slice (some ⟨g1,0,none⟩) G.length cap1]) (by simp [results,Tryz.results48,go_sem,hc,hf]) rfl ⟨_,rfl,by rw [hl2,jF];exact ho2,hb2⟩
theorem cnew_any (n:Nat) (w:World) (h1:1≤n) (h3:n≤3) :
  Calls Tryz.prog 41 #[.int .i64 n] w fun e w'=>∃ u,e=.returned (.tuple #[.agg #[u],.nilIface])∧w'.ownsRow w.heap.size 3 1 u (dy n).length ((dy n).map (Value.int .i64))∧Below w.heap.size w w':=by
 obtain ⟨i0,hi,hz0,hz1,hz2⟩:=info_parts infoI
 go_enter Tryz.func41,Tryz.ntmps41
 go_wp2_with (at_make;go_must (refine wpList_make_full _ rfl _ _ 56 rfl w.heap.size 3 i0 (.int .i64 0) 1 Tryz.underlying56 hi hz0 hz1 .i64 .i64 _ _ n rfl rfl rfl rfl (by rw [hz2];omega) (by show _≤2 ^ 63 - 1;omega) (by simp) ?_))
 intro w1 ho hg;have HB:Hid (Below (w.alloc (.cells #[.slice none 0 0] 63)).heap.size (w.alloc (.cells #[.slice none 0 0] 63)) w1):=(Below.refl _ _).grown hg (Nat.le_refl _) (fun k hk=>by cases hk);have H1:Hid (Below w.heap.size w (w.alloc (.cells #[.slice none 0 0] 63))):=(Below.refl _ _).alloc (Nat.le_refl _) _;obtain ⟨L,hL,hM⟩:∃ L:List Int,L.length=n∧(madeCells #[Value.int .i64 0] n).toList=L.map (Value.int .i64):=by
  rcases (by omega:n=1∨n=2∨n=3) with rfl | rfl | rfl
  ·exact ⟨[0],rfl,by kernel_rfl⟩
  ·exact ⟨[0,0],rfl,by kernel_rfl⟩
  ·exact ⟨[0,0,0],rfl,by kernel_rfl⟩
 rw [hM] at ho;have HO:=aa ho;clear ho hg hM;have lt1:w.heap.size+1 < w1.heap.size:=by
  obtain ⟨g,cap,e,-,h⟩:=ed HO.out (by omega);simp only [Value.slice.injEq,Option.some.injEq,Addr.mk.injEq,and_true,true_and] at e;omega
 go_wp2_with fail
 go_loopw [17] (fun i wr=>∃ (m:Nat) (L:List Int),m≤n∧L.length=n∧i=.int .i64 m∧Hid (∀ j,j < m→L.getD j 0=-1)∧Hid (wr.ownsRow w.heap.size 3 1 (.slice (some ⟨w.heap.size+1,0,none⟩) n n) n (L.map (Value.int .i64)))∧Hid (Below (w.alloc (.cells #[.slice none 0 0] 63)).heap.size (w.alloc (.cells #[.slice none 0 0] 63)) wr)) (fun i _=>n - (intOf i).toNat)
 case atStart=>exact ⟨0,L,Nat.zero_le _,hL,rfl,fun j hj=>absurd hj (by omega),HO,HB⟩
 case round =>
  clear HO HB hL L;obtain ⟨m,L,hm,hL,rfl,HM,HO,HB⟩:=hrel
  by_cases hlt:m < n
  ·have cx:wr.cell? ⟨w.heap.size+1,m,none⟩=some (.int .i64 (L.getD m 0)):=by
    have h:=HO.out.cellAt m (by omega);rw [h]
    simp [List.getD,hL,hlt]
   have fz:=gT HO.out m;generalize hx:L.getD m 0=x at cx;clear hx;have hLH:=aa hL;clear hL;go_wp2_with fail;go_roundw
   case rel=>exact ⟨m+1,L.set m (-1),by omega,by simpa using hLH.out,by go_num,fun j hj=>by
     rw [List.getD_eq_getElem?_getD,List.getElem?_set]
     by_cases h9:m=j
     ·subst h9;simp [hLH.out,hlt]
     ·have:=HM.out j (by omega)
      rw [List.getD_eq_getElem?_getD] at this
      simp [h9,this],by
     have h:=iE HO.out m (.int .i64 (-1));rw [← List.map_set] at h;exact aa h,HB.out.setCell (p:=⟨w.heap.size+1,m,none⟩) (by simp) _⟩
   case measure=>simp [intOf];omega
  ·have hmn:m=n:=by omega
   subst hmn;have HE:Hid (L=dy m):=by
    show _=_
    exact nums_ext (by rw [hL,none_len]) (fun i hi=>by rw [HM.out i (by omega)];simp [dy,List.getD,show i < m from by omega])
   have HLm:=aa hL;clear hL;obtain ⟨hc,hf⟩:=rules HB;have HB2:=aa (H1.out.trans (HB.out.mono H1.out.size));go_wp2_with fail;have ho2:=owns_far2 (g':=w.heap.size) HO.out (by omega) 0 (.slice (some ⟨w.heap.size+1,0,none⟩) m m);have hb2:=HB2.out.setCell (p:=⟨w.heap.size,0,none⟩) (Nat.le_refl _) (.slice (some ⟨w.heap.size+1,0,none⟩) m m);exact bodyPost_ret (v:=.tuple #[.agg #[.slice (some ⟨w.heap.size+1,0,none⟩) m m],.nilIface]) (by simp [results,Tryz.results41,go_sem,hc,hf]) rfl ⟨_,rfl,by rw [← HE.out,HLm.out];exact ho2,hb2⟩
def eK (n:Nat):Value:=.int .i64 ((n:Nat):Int)
structure EgR (w0:World) (eb B b0:Nat) (q:Qy) (va vw vb:Value) (Rd:List Nat) (G:List Int) (late:Nat) (tb:List Pn) (rs:List (Rw×Value)) (rdv ckv tv rv:Value) (w:World):Prop where
 en:EnM w0 eb B q rdv ckv (eK late) va vw vb tb rs tv rv w
 rd:w.ownsRow b0 3 1 rdv Rd.length (Rd.map eK)
 rk:∀ k,rdv.ownBlock=some k→k≠eb∧k < B
 ck:w.ownsRow b0 3 1 ckv G.length (G.map (Value.int .i64))
 ca:∀ k,ckv.ownBlock=some k→k≠eb∧rdv.ownBlock≠some k∧rv.ownBlock≠some k
theorem pX {w0 w w':World} {eb B:Nat} {q:Qy} {rdv ckv ckv' ltv ltv' va vw vb:Value} {tb:List Pn} {rs:List (Rw×Value)} {tv rv:Value} (h:EnM w0 eb B q rdv ckv ltv va vw vb tb rs tv rv w) (K:KeptB w w' (fun k=>k=eb))
  (hbe:BlkAt w' eb [rdv,ckv',tv,ltv',rv,va,vw,vb,.int .i64 q.size,.int .i64 q.slide,.int .i64 q.delay,.int .i64 q.late]):EnM w0 eb B q rdv ckv' ltv' va vw vb tb rs tv rv w' :=
 ⟨hbe,cD h.tt K (fun k hk e=>h.ta.1 k (.inl e) hk) (fun p hp k hk e=>h.ta.2 p hp k (.inl e) hk),h.ta,bf h.ro K (fun k hk e=>h.re (by rw [← e];exact hk)),fun r hr=>⟨aX (h.rn r hr).1 K (fun k hk e=>(h.rn r hr).2 k (.inl e) hk),(h.rn r hr).2⟩,h.re,Nat.le_trans h.bb K.b0.size,eU h.old K (fun k _ e=>.inl e),h.fa,h.fr⟩
theorem enM_rdK {w0 w w':World} {eb B:Nat} {q:Qy} {rdv ckv ltv va vw vb:Value} {tb:List Pn} {rs:List (Rw×Value)} {tv rv:Value} (h:EnM w0 eb B q rdv ckv ltv va vw vb tb rs tv rv w) (K:KeptB w w' (fun k=>rdv.ownBlock=some k))
  (rk:∀ k,rdv.ownBlock=some k→k≠eb∧k < B):EnM w0 eb B q rdv ckv ltv va vw vb tb rs tv rv w' :=
 ⟨aH h.be K (fun e=>(rk _ e).1 rfl),cD h.tt K (fun k hk e=>by have:=h.fa.1 k hk;have:=(rk k e).2;omega) (fun p hp k hk e=>by have:=h.fa.2 p hp k hk;have:=(rk k e).2;omega),h.ta,bf h.ro K (fun k hk e=>by have:=(aJ h.ro k hk).1;have:=(rk k e).2;omega),
  fun r hr=>⟨aX (h.rn r hr).1 K (fun k hk e=>by have:=h.fr r hr k hk;have:=(rk k e).2;omega),(h.rn r hr).2⟩,h.re,Nat.le_trans h.bb K.b0.size,eU h.old K (fun k _ e=>.inr e),h.fa,h.fr⟩
section
variable {w0 w w':World} {eb B b0:Nat} {q:Qy} {va vw vb:Value} {Rd:List Nat} {G:List Int} {late:Nat} {tb tb':List Pn} {rs rs':List (Rw×Value)} {rdv ckv tv rv tv' rv':Value} {g c:Nat}
theorem eW (h:EgR w0 eb B b0 q va vw vb Rd G late tb rs rdv ckv tv rv w) (hb:Below w.heap.size w w'):EgR w0 eb B b0 q va vw vb Rd G late tb rs rdv ckv tv rv w' :=
 ⟨bZ h.en hb,aB h.rd hb (Nat.le_refl _),h.rk,aB h.ck hb (Nat.le_refl _),h.ca⟩
theorem oX (h:EgR w0 eb B b0 q va vw vb Rd G late tb rs rdv ckv tv rv w) (hM:EnM w0 eb B q rdv ckv (eK late) va vw vb tb' rs' tv' rv' w') (K:KeptB w w' (fun k=>k=eb∨rv.ownBlock=some k)) (hrv:rv'.ownBlock=rv.ownBlock∨∃ k,rv'.ownBlock=some k∧w.heap.size≤k):EgR w0 eb B b0 q va vw vb Rd G late tb' rs' rdv ckv tv' rv' w':=by
 refine ⟨hM,bf h.rd K (fun k hk e=>?_),h.rk,bf h.ck K (fun k hk e=>?_),fun k hk=>⟨(h.ca k hk).1,(h.ca k hk).2.1,fun e=>?_⟩⟩
 ·have h1:=h.rk k hk
  rcases e with e | e
  ·exact h1.1 e
  ·have:=(aJ h.en.ro k e).1;omega
 ·have h1:=h.ca k hk
  rcases e with e | e
  ·exact h1.1 e
  ·exact h1.2.2 e
 ·rcases hrv with e9 | ⟨j,e9,hj⟩
  ·exact (h.ca k hk).2.2 (by rw [← e9];exact e)
  ·rw [e9] at e;cases e
   have:=(aJ h.ck k hk).2
   omega
theorem egR_late (h:EgR w0 eb B b0 q va vw vb Rd G late tb rs rdv ckv tv rv w) (n:Nat):EgR w0 eb B b0 q va vw vb Rd G n tb rs rdv ckv tv rv (w.setCell ⟨eb,3,none⟩ (eK n)):=by
 have K:=ai (ae (bad:=fun k=>k=eb) (Below.refl w.heap.size w)) (g:=eb) rfl 3 (eK n);exact ⟨pX h.en K (by simpa using az h.en.be 3 (eK n) (by simp)),bf h.rd K (fun k hk e=>(h.rk k hk).1 e),h.rk,bf h.ck K (fun k hk e=>(h.ca k hk).1 e),h.ca⟩
theorem egR_clk (h:EgR w0 eb B b0 q va vw vb Rd G late tb rs rdv ckv tv rv w) {G':List Int} {ckv':Value} (hb:Below w.heap.size w w') (hc:w'.ownsRow w.heap.size 3 1 ckv' G'.length (G'.map (Value.int .i64))) (h0:b0≤w.heap.size):EgR w0 eb B b0 q va vw vb Rd G' late tb rs rdv ckv' tv rv (w'.setCell ⟨eb,1,none⟩ ckv'):=by
 have h9:=eW h hb;have hlt:=h.en.be.lt;have K:=ai (ae (bad:=fun k=>k=eb) (Below.refl w'.heap.size w')) (g:=eb) rfl 1 ckv';have hk:∀ k,ckv'.ownBlock=some k→w.heap.size≤k:=fun k e=>(aJ hc k e).1
 exact ⟨pX h9.en K (by simpa using az h9.en.be 1 ckv' (by simp)),bf h9.rd K (fun k hk e=>(h.rk k hk).1 e),h.rk,bf (aK hc h0) K (fun k hk9 e=>by have:=hk k hk9;omega),fun k e=>⟨by have:=hk k e;omega,fun e9=>by have:=hk k e;have:=(aJ h.rd k e9).2;omega,fun e9=>by have:=hk k e;have:=(aJ h.en.ro k e9).2;omega⟩⟩
theorem egR_read (h:EgR w0 eb B b0 q va vw vb Rd G late tb rs (.slice (some ⟨g,0,none⟩) Rd.length c) ckv tv rv w) (p n:Nat):EgR w0 eb B b0 q va vw vb (Rd.set p n) G late tb rs (.slice (some ⟨g,0,none⟩) (Rd.set p n).length c) ckv tv rv (w.setCell ⟨g,p,none⟩ (eK n)):=by
 have K:=ai (ae (bad:=fun k=>(Value.slice (some ⟨g,0,none⟩) Rd.length c).ownBlock=some k) (Below.refl w.heap.size w)) (g:=g) rfl p (eK n);have e1:(Rd.set p n).length=Rd.length:=List.length_set;rw [e1];refine ⟨enM_rdK h.en K h.rk,?_,h.rk,bf h.ck K (fun k hk e=>(h.ca k hk).2.1 e),h.ca⟩;rw [e1,List.map_set];exact iE h.rd p (eK n)
end
theorem eE (t:List Value) (h:t.length=94):∃ f:Nat→Value,t=f 0 :: f 1 :: f 2 :: f 3 :: f 4 :: f 5 :: f 6 :: f 7 :: f 8 :: f 9 :: f 10 :: f 11 :: f 12 :: f 13 :: f 14 :: f 15 :: f 16 :: f 17 :: f 18 :: f 19 :: f 20 :: f 21 :: f 22 :: f 23 :: f 24 :: f 25 :: f 26 :: f 27 :: f 28 :: f 29 :: f 30 :: f 31 :: f 32 :: f 33 :: f 34 :: f 35 :: f 36 :: f 37 :: f 38 :: f 39 :: f 40 :: f 41 :: f 42 :: f 43 :: f 44 :: f 45 :: f 46 :: f 47 :: f 48 :: f 49 :: f 50 :: f 51 :: f 52 :: f 53 :: f 54 :: f 55 :: f 56 :: f 57 :: f 58 :: f 59 :: f 60 :: f 61 :: f 62 :: f 63 :: f 64 :: f 65 :: f 66 :: f 67 :: f 68 :: f 69 :: f 70 :: f 71 :: f 72 :: f 73 :: f 74 :: f 75 :: f 76 :: f 77 :: f 78 :: f 79 :: f 80 :: f 81 :: f 82 :: f 83 :: f 84 :: f 85 :: f 86 :: f 87 :: f 88 :: f 89 :: f 90 :: f 91 :: f 92 :: f 93 :: []∧∀ i,i < 94→t[i]?=some (f i):=by
 have e1:t=(List.range 94).map (fun i=>t.getD i undef):=by
  apply List.ext_getElem
  ·simp [h]
  ·intro i h1 h2
   simp [List.getD,h1]
 refine ⟨fun i=>t.getD i undef,?_,fun i hi=>?_⟩
 ·have e2:∀ g:Nat→Value,(List.range 94).map g=g 0 :: g 1 :: g 2 :: g 3 :: g 4 :: g 5 :: g 6 :: g 7 :: g 8 :: g 9 :: g 10 :: g 11 :: g 12 :: g 13 :: g 14 :: g 15 :: g 16 :: g 17 :: g 18 :: g 19 :: g 20 :: g 21 :: g 22 :: g 23 :: g 24 :: g 25 :: g 26 :: g 27 :: g 28 :: g 29 :: g 30 :: g 31 :: g 32 :: g 33 :: g 34 :: g 35 :: g 36 :: g 37 :: g 38 :: g 39 :: g 40 :: g 41 :: g 42 :: g 43 :: g 44 :: g 45 :: g 46 :: g 47 :: g 48 :: g 49 :: g 50 :: g 51 :: g 52 :: g 53 :: g 54 :: g 55 :: g 56 :: g 57 :: g 58 :: g 59 :: g 60 :: g 61 :: g 62 :: g 63 :: g 64 :: g 65 :: g 66 :: g 67 :: g 68 :: g 69 :: g 70 :: g 71 :: g 72 :: g 73 :: g 74 :: g 75 :: g 76 :: g 77 :: g 78 :: g 79 :: g 80 :: g 81 :: g 82 :: g 83 :: g 84 :: g 85 :: g 86 :: g 87 :: g 88 :: g 89 :: g 90 :: g 91 :: g 92 :: g 93 :: []:=fun _=>rfl
  exact e1.trans (e2 _)
 ·simp [List.getD,h,hi]
theorem mg (q:Qy) (g:Int) (h1:-1≤g) (h2:g≤100000) (hd:0≤q.delay∧q.delay≤100000):mC g q.delay=.tuple #[.int .i64 (bE q g),.bool (decide (0≤g))]:=by
 unfold mC bE
 by_cases h:g < 0
 ·rw [if_pos (by omega),if_pos h,decide_eq_false (by omega)]
 ·rw [if_neg (by omega),if_neg h,decide_eq_true (by omega),show RowKit.wrap64 (g - q.delay)=g - q.delay from by unfold RowKit.wrap64;omega]
theorem estep_r2 (Q:Exit→Act→World→Prop) (C2:Code) (h2:rgn 2 (Tryz.f17.body.getD .skip)=some C2) (t:List Value) (eb xb p:Nat) (rdv tv ltv rv:Value) (cka ao a2 a3:Option Addr) (ckn ckc cap c2 c3:Nat) (q:Qy) (ps:List (AgQ×Value)) (w:World) (G:List Int) (ht:t.length=94) (k0:t[0]?=some (.pointer (some ⟨eb,0,none⟩))) (k1:t[1]?=some (.int .i64 (p:Int))) (k5:t[5]?=some (.pointer (some ⟨xb,0,none⟩)))
  (BE:BlkAt w eb [rdv,Value.slice cka ckn ckc,tv,ltv,rv,Value.slice ao ps.length cap,Value.slice a2 q.wh.length c2,Value.slice a3 q.bys.length c3,Value.int .i64 q.size,Value.int .i64 q.slide,Value.int .i64 q.delay,Value.int .i64 q.late]) (PT:∀ w',Below w.heap.size w w'→Calls Tryz.prog 45 #[.agg #[.slice cka ckn ckc],.int .i64 (p:Int),.int .i64 q.delay] w' fun e w''=>e=.returned (.tuple #[.int .i64 (bE q (G.getD p 0)),.bool (decide (0≤G.getD p 0))])∧Below w'.heap.size w' w'')
  (hpan:∀ c (a:Act) o v w,Q (.panic c) (a.put o v) w→Q (.panic c) a w)
  (hQ:∀ (t':List Value)  (w':World),t'.length=94→t'[0]?=some (.pointer (some ⟨eb,0,none⟩))→t'[1]?=some (.int .i64 (p:Int))→t'[5]?=some (.pointer (some ⟨xb,0,none⟩))→t'[6]?=some (.int .i64 (bE q (G.getD p 0)))→t'[7]?=some (.bool (decide (0≤G.getD p 0)))→Below w.heap.size w w'→Q .normal { tmps:=t'.toArray,defers:=[] } w') :
  Code.wp Tryz.prog C2 Q { tmps:=t.toArray,defers:=[] } w:=by
 have HQ:=aa hQ;have HPN:=aa hpan;have hS:Below w.heap.size w ({ w with drawn:=w.drawn+1 }:World):=(Below.refl _ _).drew;have PT:=aa PT;clear hQ hpan;have BE:=aa BE;obtain ⟨f,hf,hi⟩:=eE t ht;have e0:=aq (hi 0 (by decide)) k0;have e1:=aq (hi 1 (by decide)) k1;have e5:=aq (hi 5 (by decide)) k5;rw [e0,e1,e5] at hf;clear hi ht k0 e0 k1 e1 k5 e5;subst hf;unfold Tryz.f17 at h2
 simp [rgn] at h2
 subst h2;refine wp_region_held (S:=fun w'=>Below w.heap.size w w') (by kernel_rfl) ?_;generalize ({ w with drawn:=w.drawn+1 }:World)=wd at *;refine HT 0 (v:=.pointer (some ⟨eb,0,none⟩)) rfl HPN.out (fun wq hq=>by go_simp) hS ?_;refine HT 1 (v:=.pointer (some ⟨eb,0,none⟩)) rfl HPN.out (fun wq hq=>by go_simp) hS ?_;refine HT 2 (v:=.pointer (some ⟨eb,1,none⟩)) rfl HPN.out (fun wq hq=>by go_simp) hS ?_;refine HT 3 (v:=.agg #[.slice cka ckn ckc]) rfl HPN.out (fun wq hq=>by have K:=ah BE.out hq BE.out.lt;have q1:wq.cell? ⟨eb,1,none⟩=some (Value.slice cka ckn ckc):=K.c 1 (by simp);clear K;go_simp) hS ?_;refine HT 4 (v:=.int .i64 (p:Int)) rfl HPN.out (fun wq hq=>by go_simp) hS ?_;refine HT 5 (v:=.pointer (some ⟨eb,0,none⟩)) rfl HPN.out (fun wq hq=>by go_simp) hS ?_;refine HT 6 (v:=.pointer (some ⟨eb,0,none⟩)) rfl HPN.out (fun wq hq=>by go_simp) hS ?_;refine HT 7 (v:=.pointer (some ⟨eb,5,none⟩)) rfl HPN.out (fun wq hq=>by go_simp) hS ?_;refine HT 8 (v:=.pointer (some ⟨eb,10,none⟩)) rfl HPN.out (fun wq hq=>by go_simp) hS ?_;refine HT 9 (v:=.int .i64 q.delay) rfl HPN.out (fun wq hq=>by have K:=ah BE.out hq BE.out.lt;have q10:wq.cell? ⟨eb,10,none⟩=some (Value.int .i64 q.delay):=K.c 10 (by simp);clear K;go_simp) hS ?_;refine HG 10 rfl ?_;intro K' hK;go_simp;refine (PT.out _ hS).mono ?_;rintro e w1 ⟨rfl,hb⟩;have hS1:=hS.trans (hb.mono hS.size);refine hK _ _ ⟨hS1,?_⟩;clear hK;refine HT 11 (v:=.tuple #[.int .i64 (bE q (G.getD p 0)),.bool (decide (0≤G.getD p 0))]) rfl HPN.out (fun wq hq=>by go_simp) hS1 ?_;refine HT 12 (v:=.int .i64 (bE q (G.getD p 0))) rfl HPN.out (fun wq hq=>by go_simp) hS1 ?_;refine HT 13 (v:=.bool (decide (0≤G.getD p 0))) rfl HPN.out (fun wq hq=>by go_simp) hS1 ?_;refine HT 14 (v:=.int .i64 (bE q (G.getD p 0))) rfl HPN.out (fun wq hq=>by go_simp) hS1 ?_;refine HT 15 (v:=.bool (decide (0≤G.getD p 0))) rfl HPN.out (fun wq hq=>by go_simp) hS1 ?_;refine wpAnyH_done (by kernel_rfl) ?_ _;exact HQ.out _  _ rfl rfl rfl rfl rfl rfl hS1
end Go.Proofs.YtcgjflamgnjhcaaGreatDoor
