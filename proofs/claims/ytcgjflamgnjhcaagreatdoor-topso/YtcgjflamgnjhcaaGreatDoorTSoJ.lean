/- Own texts in one. Conditions: as named in each. -/
import Derived.Test.YtcgjflamgnjhcaaGreatDoorEoSJ
import Derived.Test.YtcgjflamgnjhcaaGreatDoorEoFJ
import Derived.Test.YtcgjflamgnjhcaaGreatDoorKinJ
import Derived.Test.YtcgjflamgnjhcaaGreatDoorExpr1J
import Derived.Test.YtcgjflamgnjhcaaGreatDoorSrc1J
import Derived.Deep.Slices
import Derived.Lib.SmallJoins
import Derived.Test.YtcgjflamgnjhcaaGreatDoorEnQJ
set_option linter.unusedVariables false
set_option linter.unusedSimpArgs false
set_option maxRecDepth 100000
set_option maxHeartbeats 8000000
namespace Go.Proofs.YtcgjflamgnjhcaaGreatDoor
open Go.ChangeShapes Go.WideShapes Go.ChangeAt Go.RowKit
theorem topSo_enters (v:Value) (c0:Value) (c1:Value) (w:World):Sem.run Tryz.prog (callFunc 30 #[v,c0,c1]) w=.ok (.enter 30 #[v,c0,c1]) w:=by kernel_rfl
theorem topSo_walk (s:ByteArray) (pv tv:Value) (vs:List Value) (P:List (List Ev)) (T:List Int) (w:World) (ht:TabQ w) (hP:PtsR w pv vs P) (hpl:P.length≤maxLen) (hT:pD w tv T) (htl:T.length≤maxLen) :
  Calls Tryz.prog 6 #[.string s,pv,tv] w fun e w'=>e=.returned (.bool true)∧Below w.heap.size w w':=by
 obtain ⟨ap,cp,rfl⟩:=am hP.row;have hbp:=aj w (.cells #[.slice ap P.length cp] 49);have BP0:=aa (ay w [.slice ap P.length cp] 49);have HBP:=aa hbp;have WK:=aa (works_any (w.alloc (.cells #[.slice ap P.length cp] 49)) (ht.below hbp));obtain ⟨at_,ct,rfl⟩:=am hT;have HT:=aa ht;have HP:=aa hP;have HTT:=aa hT;clear ht hP hT
 go_enter Tryz.func6,Tryz.ntmps6
 go_wp2_with fail;refine WK.out.mono ?_;rintro e w1 ⟨rfl,hb1⟩;have B1:=aa (HBP.out.trans (hb1.mono HBP.out.size));have BP1:=aa (ah BP0.out hb1 BP0.out.lt);have ASK:=asked_any s w1 (HT.out.below B1.out);unfold qJ at ASK;have ASKH:=aa ASK;clear WK hb1 ASK HT;go_wp2_with fail;refine ASKH.out.mono ?_;rintro r w2 ⟨hb,hr⟩;have B2:=nxt B1 hb;have BP2:=aa (ah BP1.out hb BP1.out.lt);clear ASKH B1 hb
 rcases hr with rfl | ⟨q,va,vw,vb,ps,hpq,rfl,hqo⟩
 ·unfold qzV;have B3:=aa (B2.out.trans ((aj w2 (.cells #[.slice none 0 0,.slice none 0 0,.slice none 0 0,.int .i64 0,.int .i64 0,.int .i64 0,.int .i64 0] 28)).mono B2.out.size));go_wp2_with fail;refine bodyPost_ret (v:=.bool true) (by simp [results,Tryz.results6,go_sem]) rfl ?_;exact ⟨rfl,B3.out⟩
 ·have hqg:=ql hqo;obtain ⟨ao,cap,rfl⟩:=am hqg.ag.row;obtain ⟨a2,c2,rfl⟩:=am hqg.wh;obtain ⟨a3,c3,rfl⟩:=am hqg.by_;have hba:=aj w2 (.cells #[Value.slice ao ps.length cap,Value.slice a2 q.wh.length c2,Value.slice a3 q.bys.length c3,Value.int .i64 q.size,Value.int .i64 q.slide,Value.int .i64 q.delay,Value.int .i64 q.late] 28);have B3:=aa (B2.out.trans (hba.mono B2.out.size));have G3:=aa (aR hqg hba);have BQ3:=aa (ay w2 [Value.slice ao ps.length cap,Value.slice a2 q.wh.length c2,Value.slice a3 q.bys.length c3,Value.int .i64 q.size,Value.int .i64 q.slide,Value.int .i64 q.delay,Value.int .i64 q.late] 28);have HP3:=aa (dz HP.out B3.out);have HT3:=aa (aA HTT.out B3.out);have FE:=aa (few_any _ _ vs P T _ HP3.out hpl HT3.out htl);have HC:=aa (chk_of_parse hpq);have BP3:=aa (ah BP2.out hba BP2.out.lt);have hlt:=BQ3.out.lt;have pb3:(w2.alloc (.cells #[Value.slice ao ps.length cap,Value.slice a2 q.wh.length c2,Value.slice a3 q.bys.length c3,Value.int .i64 q.size,Value.int .i64 q.slide,Value.int .i64 q.delay,Value.int .i64 q.late] 28)).cell? ⟨w.heap.size,0,none⟩=some (.slice ap P.length cp):=BP3.out.c 0 (by simp);have pl3:=BP3.out.lt;unfold qyV;clear hqo hqg hba HP HTT hpq;go_wp2_with fail;refine FE.out.mono ?_;rintro e w3 ⟨rfl,hb3⟩;have B4:=aa (B3.out.trans (hb3.mono B3.out.size));obtain ⟨few,hfew⟩:∃ b,(decide (0 < P.length) && (lightM P && decide (T.length≤200)))=b:=⟨_,rfl⟩;rw [hfew];cases few with
  | false =>
   clear FE hb3;go_wp2_with fail;refine bodyPost_ret (v:=.bool true) (by simp [results,Tryz.results6,go_sem]) rfl ?_;exact ⟨rfl,B4.out⟩
  | true =>
   have h09:0 < P.length:=by
    cases h:decide (0 < P.length) with
    | true=>exact of_decide_eq_true h
    | false=>rw [h] at hfew;cases hfew
   have hl9:lightM P=true:=by
    rw [decide_eq_true h09,Bool.true_and] at hfew;exact (Bool.and_eq_true_iff.1 hfew).1
   have ht9:T.length≤200:=by
    rw [decide_eq_true h09,Bool.true_and] at hfew;exact of_decide_eq_true (Bool.and_eq_true_iff.1 hfew).2
   have BQ3:=aa (ah BQ3.out hb3 BQ3.out.lt);have BP4:=aa (ah BP3.out hb3 BP3.out.lt);have pb4:w3.cell? ⟨w.heap.size,0,none⟩=some (.slice ap P.length cp):=BP4.out.c 0 (by simp);have pl4:=BP4.out.lt;have HGX:=aR G3.out hb3;have HPX:=dz HP3.out hb3;have HEACH:∀ (eb:Nat) (M:List (List Ev)) (late:Nat) (tb:List Pn) (rs:List (Rw×Value)) (rdv ckv tv rv:Value) (wx:World),nL w3 q P eb M late tb rs rdv ckv tv rv wx→Calls Tryz.prog 30 #[.pointer (some ⟨eb,0,none⟩),.pointer (some ⟨w2.heap.size,0,none⟩),.pointer (some ⟨w.heap.size,0,none⟩)] wx fun e w'=>e=.returned (.bool true)∧Below wx.heap.size wx w':=fun eb M late tb rs rdv ckv tv rv wx h=>so1_any (W:=w3) (w:=wx) h HC.out hl9 h09 w2.heap.size w.heap.size ao a2 a3 cap c2 c3 ps (.slice ap P.length cp) vs BQ3.out HGX BP4.out HPX
   have RUN:=run2_any 30 (.pointer (some ⟨w2.heap.size,0,none⟩)) (.pointer (some ⟨w.heap.size,0,none⟩)) _ _ _ _ _ q ps vs P T w3 (aR G3.out hb3) HC.out (dz HP3.out hb3) h09 hl9 (aA HT3.out hb3) (by omega) (fun v w=>topSo_enters v _ _ w) HEACH;unfold qyV at RUN;have RUNH:=aa RUN;have q0:w3.cell? ⟨w2.heap.size,0,none⟩=some (Value.slice ao ps.length cap):=BQ3.out.c 0 (by simp);have q1:w3.cell? ⟨w2.heap.size,1,none⟩=some (Value.slice a2 q.wh.length c2):=BQ3.out.c 1 (by simp);have q2:w3.cell? ⟨w2.heap.size,2,none⟩=some (Value.slice a3 q.bys.length c3):=BQ3.out.c 2 (by simp);have q3:w3.cell? ⟨w2.heap.size,3,none⟩=some (Value.int .i64 q.size):=BQ3.out.c 3 (by simp);have q4:w3.cell? ⟨w2.heap.size,4,none⟩=some (Value.int .i64 q.slide):=BQ3.out.c 4 (by simp);have q5:w3.cell? ⟨w2.heap.size,5,none⟩=some (Value.int .i64 q.delay):=BQ3.out.c 5 (by simp);have q6:w3.cell? ⟨w2.heap.size,6,none⟩=some (Value.int .i64 q.late):=BQ3.out.c 6 (by simp);have lq3:=BQ3.out.lt;clear RUN FE hb3 HP3 HT3 G3 hfew;go_wp2_with fail;refine RUNH.out.mono ?_;rintro e w4 ⟨eb,late,tb,rs,rdv,ckv,tv,rv,rfl,hE⟩;have B5:Hid (Below w.heap.size w w4):=by
    obtain ⟨w0,b0,va,vw,vb,ps,V,cs,-,-,-,-,-,-,-,a8,-⟩:=hE;exact B4.out.trans (a8.mono B4.out.size)
   clear hE RUNH;go_wp2_with fail;refine bodyPost_ret (v:=.bool true) (by simp [results,Tryz.results6,go_sem]) rfl ?_;exact ⟨rfl,B5.out⟩
theorem list4 {α:Type} {cs:List α} (h:cs.length=4):∃ a b c d,cs=[a,b,c,d]:=by
 match cs,h with
 | [a,b,c,d],_=>exact ⟨a,b,c,d,rfl⟩
theorem list7 {α:Type} {cs:List α} (h:cs.length=7):∃ a b c d e f g,cs=[a,b,c,d,e,f,g]:=by
 match cs,h with
 | [a,b,c,d,e,f,g],_=>exact ⟨a,b,c,d,e,f,g,rfl⟩
end Go.Proofs.YtcgjflamgnjhcaaGreatDoor
namespace Go.Proofs.YtcgjflamgnjhcaaGreatDoor
open Go.ChangeShapes Go.WideShapes Go.ChangeAt Go.RowKit
open Go.Joins Go.Deep
theorem cellsEvent:Tryz.prog.cellsOf 43=7:=by kernel_rfl
theorem open_ev {H:Type} {enc:TypeId×Value→H} {W:World} {sp:Nat→Bool} {hd:Bool} {fuel:Nat} {cs:List Value} {x:DataW H×List MemPlace}
  (h:DataW.trod enc Tryz.prog W 0 sp hd fuel 43 cs=some x):∃ e:Ev,cs=eC e:=by
 obtain ⟨xs,k,-,-,hlen,hxl,hf⟩:=DataW.trod_struct Tryz.underlying43 h;rw [cellsEvent] at hlen;obtain ⟨c0,c1,c2,c3,c4,c5,c6,rfl⟩:=list7 hlen;obtain ⟨y0,y1,y2,y3,rfl⟩:=list4 hxl;have g0:DataW.trod enc Tryz.prog W 0 sp hd k 3 (List.take (Tryz.prog.cellsOf 3) (List.drop 0 [c0,c1,c2,c3,c4,c5,c6]))=some y0:=hf 0 _ rfl;have g1:DataW.trod enc Tryz.prog W 0 sp hd k 41 (List.take (Tryz.prog.cellsOf 41) (List.drop 1 [c0,c1,c2,c3,c4,c5,c6]))=some y1:=hf 1 _ rfl;have g2:DataW.trod enc Tryz.prog W 0 sp hd k 41 (List.take (Tryz.prog.cellsOf 41) (List.drop 3 [c0,c1,c2,c3,c4,c5,c6]))=some y2:=hf 2 _ rfl;have g3:DataW.trod enc Tryz.prog W 0 sp hd k 41 (List.take (Tryz.prog.cellsOf 41) (List.drop 5 [c0,c1,c2,c3,c4,c5,c6]))=some y3:=hf 3 _ rfl;rw [cellsInt] at g0;rw [cellsValue] at g1 g2 g3;obtain ⟨n0,e0⟩:=mn g0;obtain ⟨m1,n1,e1,e2⟩:=kG g1;obtain ⟨m2,n2,e3,e4⟩:=kG g2;obtain ⟨m3,n3,e5,e6⟩:=kG g3;exact ⟨⟨n0,m1,n1,m2,n2,m3,n3⟩,by rw [e0,e1,e2,e3,e4,e5,e6];rfl⟩
section
variable {α:Type} {S:Nat} {f:α→List Value}
theorem iZ {H:Type} {enc:TypeId×Value→H} {W:World} {v:Value} {x:DataW H×List MemPlace} {ts te:TypeId} {sp:Nat→Bool} {hd:Bool} {fuel:Nat} {Pz:α→Prop} (hf:∀ a,(f a).length=S) (hS:0 < S)
  (hu:Tryz.prog.underlying ts=some (.slice te)) (hc:Tryz.prog.cellsOf te=S) (dflt:α)
  (open1:∀ {fuel:Nat} {cs:List Value} {x:DataW H×List MemPlace},DataW.trod enc Tryz.prog W 0 sp hd fuel te cs=some x→∃ n:α,cs=f n∧Pz n)
  (h:DataW.trod enc Tryz.prog W 0 sp hd fuel ts [v]=some x) :
  ∃ l:List α,bK W v S l.length (rowOf f l)∧l.length≤maxLen∧∀ a∈l,Pz a:=by
 have nilcase:∀ (ao:Option Addr) (cp:Nat),∃ l:List α,bK W (.slice ao 0 cp) S l.length (rowOf f l)∧l.length≤maxLen∧∀ a∈l,Pz a:=fun ao cp =>
  ⟨[],⟨by simp [rowOf],.inl ⟨⟨_,_,rfl⟩,rfl⟩⟩,Nat.zero_le _,fun a ha=>by simp at ha⟩
 rcases open_slice hu h with ⟨hc',-⟩ | ⟨a,ln,cp,m,n,D,Pl,hc',-,hl,hm,hmm,-,hx⟩
 ·simp only [List.cons.injEq,and_true] at hc';subst hc';exact nilcase _ _
 ·simp only [List.cons.injEq,and_true] at hc';subst hc';have hlm:ln≤m:=by rw [hmm];split <;> omega
  rw [hc] at hx;have each:∀ i,i < ln→∃ nd:α,(∀ j,j < S→W.cell? (a.add (i * S+j))=(f nd)[j]?)∧Pz nd:=by
   intro i hi;obtain ⟨cs',h1,h2⟩:=hx i (by omega);obtain ⟨nd,rfl,hp⟩:=open1 h2;obtain ⟨-,hlen,hcell⟩:=World.cells?_some h1;refine ⟨nd,fun j hj=>?_,hp⟩
   have:=hcell j hj
   rw [← this,add_add]
  by_cases h0:ln=0
  ·subst h0;exact nilcase _ _
  ·obtain ⟨g,off,spot⟩:=a;have hspot:spot=none:=by
    obtain ⟨nd,hnd,-⟩:=each 0 (by omega);have h9:=hnd 0 hS;have hlt:0 < (f nd).length:=by rw [hf];exact hS
    rw [List.getElem?_eq_getElem hlt] at h9;exact (by simpa [Addr.add] using World.cell?_spot h9)
   subst hspot;have each2:∀ i,∃ nd:α,i < ln→(∀ j,j < S→W.cell? ⟨g,off+(i * S+j),none⟩=(f nd)[j]?)∧Pz nd:=by
    intro i
    by_cases hi:i < ln
    ·obtain ⟨nd,hnd,hp⟩:=each i hi;exact ⟨nd,fun _=>⟨fun j hj=>by rw [← hnd j hj,add_plain],hp⟩⟩
    ·exact ⟨dflt,fun h=>absurd h hi⟩
   obtain ⟨F,hF⟩:=Classical.axiomOfChoice each2;have hg:g < W.heap.size:=by
    obtain ⟨cs',h1,-⟩:=hx 0 (by omega)
    have:=World.cells?_block h1 (by omega)
    simpa [Addr.add] using this
   have hlen:((List.range ln).map F).length=ln:=by simp
   refine ⟨(List.range ln).map F,⟨bh hf _,.inr ⟨g,off,cp,by rw [hlen],by rw [hlen];omega,by omega,hg,fun j hj=>?_⟩⟩,by rw [hlen];omega,fun a ha=>?_⟩
   ·rw [hlen] at hj;have hi:j / S < ln:=(Nat.div_lt_iff_lt_mul hS).2 hj;have hr:j % S < S:=Nat.mod_lt _ hS;have e:j / S * S+j % S=j:=by rw [Nat.mul_comm];exact Nat.div_add_mod j S
    have h1:=(hF (j / S) hi).1 (j % S) hr;rw [e] at h1;rw [h1,← bV hf ((List.range ln).map F) (j / S) (j % S) (F (j / S)) (by simp [hi]) hr,e]
   ·obtain ⟨i,hi,rfl⟩:=List.mem_map.1 ha;exact (hF i (by simpa using hi)).2
end
end Go.Proofs.YtcgjflamgnjhcaaGreatDoor
namespace Go.Proofs.YtcgjflamgnjhcaaGreatDoor
open Go.ChangeShapes Go.WideShapes Go.ChangeAt Go.RowKit Go.Joins Go.Deep
theorem cellsEvents1:Tryz.prog.cellsOf 50=1:=by kernel_rfl
def o7 (p:List Ev×Value):List Value:=[p.2]
theorem open_eventsT {H:Type} {enc:TypeId×Value→H} {W:World} {sp:Nat→Bool} {hd:Bool} {fuel:Nat} {v:Value} {x:DataW H×List MemPlace}
  (h:DataW.trod enc Tryz.prog W 0 sp hd fuel 50 [v]=some x):∃ l:List Ev,bK W v 7 l.length (rowOf eC l):=by
 obtain ⟨l,hr,-,-⟩:=iZ (f:=eC) (S:=7) (Pz:=fun _=>True) dX (by decide) Tryz.underlying50 cellsEvent ⟨0,0,0,0,0,0,0⟩ (fun h=>by
  obtain ⟨n,e⟩:=open_ev h;exact ⟨n,e,trivial⟩) h
 exact ⟨l,hr⟩
theorem open_parts {H:Type} {enc:TypeId×Value→H} {W:World} {sp:Nat→Bool} {hd:Bool} {fuel:Nat} {v:Value} {x:DataW H×List MemPlace}
  (h:DataW.trod enc Tryz.prog W 0 sp hd fuel 49 [v]=some x):∃ (vs:List Value) (M:List (List Ev)),PtsR W v vs M∧M.length≤maxLen:=by
 obtain ⟨ps,hr,hl,hp⟩:=iZ (f:=o7) (S:=1) (Pz:=fun p=>bK W p.2 7 p.1.length (rowOf eC p.1)) (fun _=>rfl) (by decide) Tryz.underlying49 cellsEvents1 ([],.slice none 0 0) (fun {fuel cs x} h=>by
  cases fuel with
  | zero=>simp [DataW.trod] at h
  | succ k =>
   have hlen:∃ c,cs=[c]:=by
    rcases open_slice Tryz.underlying50 h with ⟨hc,-⟩ | ⟨a,ln,cp,m,n,D,Pl,hc,-⟩
    ·exact ⟨_,hc⟩
    ·exact ⟨_,hc⟩
   obtain ⟨c,rfl⟩:=hlen;obtain ⟨l,hr⟩:=open_eventsT h;exact ⟨(l,c),rfl,hr⟩) h
 refine ⟨ps.map Prod.snd,ps.map Prod.fst,⟨?_,by simp,fun i v l h1 h2=>?_⟩,by simpa using hl⟩
 ·have e:rowOf o7 ps=ps.map Prod.snd:=by
   clear hr hl hp
   induction ps with
   | nil=>rfl
   | cons a l ih=>rw [bS,ih];rfl
  rw [e] at hr
  simpa using hr
 ·rw [List.getElem?_map] at h1 h2;cases hi:ps[i]? with
  | none=>rw [hi] at h1;simp at h1
  | some p =>
   rw [hi] at h1 h2;simp only [Option.map_some,Option.some.injEq] at h1 h2;subst h1 h2;exact hp p (List.mem_of_getElem? hi)
end Go.Proofs.YtcgjflamgnjhcaaGreatDoor
