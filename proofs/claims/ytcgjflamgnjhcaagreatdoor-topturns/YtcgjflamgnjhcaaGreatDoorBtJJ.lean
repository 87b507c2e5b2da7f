/- Own texts in one. Conditions: as named in each. -/
import Derived.Test.YtcgjflamgnjhcaaGreatDoorEnQJ
import Derived.Test.YtcgjflamgnjhcaaGreatDoorPrsHJ
import Derived.Carry
import Derived.Test.YtcgjflamgnjhcaaGreatDoorChkQJ
import Derived.Test.YtcgjflamgnjhcaaGreatDoorLexPureJ
set_option linter.unusedVariables false
set_option linter.unusedSimpArgs false
set_option maxRecDepth 100000
set_option maxHeartbeats 8000000
namespace Go.Proofs.YtcgjflamgnjhcaaGreatDoor
open Go.ChangeShapes Go.WideShapes Go.ChangeAt Go.RowKit
def fi (l:List Ev):Bool:=decide (l.length≤40) && l.all fun x=>decide (evC x=0)
def lightM (M:List (List Ev)):Bool:=decide (M.length≤3) && M.all fi
theorem ft {M:List (List Ev)} (h:lightM M=true):M.length≤3∧∀ l∈M,l.length≤40∧∀ x∈l,evC x=0:=by
 unfold lightM at h;simp only [Bool.and_eq_true,decide_eq_true_eq,List.all_eq_true] at h;refine ⟨h.1,fun l hl=>?_⟩;have h1:=h.2 l hl;unfold fi at h1
 simpa using h1
theorem light_any (pv:Value) (vs:List Value) (M:List (List Ev)) (w:World) (h:PtsR w pv vs M) (hml:M.length≤maxLen) :
  Calls Tryz.prog 67 #[pv] w fun e w'=>e=.returned (.bool (lightM M))∧Below w.heap.size w w':=by
 obtain ⟨ap,cp,rfl⟩:=aq h.row;unfold maxLen at hml
 by_cases h3:M.length≤3
 ·have HT:Hid ((∀ l∈M,fi l=true)→lightM M=true):=fun hl=>by
   unfold lightM;rw [decide_eq_true h3,Bool.true_and,List.all_eq_true];exact hl
  have HF:Hid (∀ l∈M,fi l=false→lightM M=false):=fun l hl e=>by
   cases hb:lightM M with
   | false=>rfl
   | true =>
    unfold lightM at hb;rw [decide_eq_true h3,Bool.true_and,List.all_eq_true] at hb;rw [hb l hl] at e;cases e
  have HM:=aa h;have d3:decide ((3:Int) < (M.length:Int))=false:=by simp;omega
  generalize lightM M=b at *;clear h
  go_enter Tryz.func67,Tryz.ntmps67
  go_wp2_with fail
  go_loopw [3] (fun i wr=>∃ m:Nat,m≤M.length∧i=.int .i64 m∧Hid (∀ l∈M.take m,fi l=true)∧Hid (Below w.heap.size w wr)) (fun i _=>M.length - (intOf i).toNat)
  case atStart=>exact ⟨0,Nat.zero_le _,rfl,fun l hl=>by simp at hl,Below.refl _ _⟩
  case round =>
   obtain ⟨m,hm,rfl,HP,HB⟩:=hrel
   by_cases hlt:m < M.length
   ·obtain ⟨g,off,v,hao,hv,y0,z1,z2,z3⟩:=db HM.out.row m hlt;subst hao;have hrl:=HM.out.each m v M[m] hv (List.getElem?_eq_getElem hlt);have hmem:=List.getElem_mem hlt;have hnx:M.take (m+1)=M.take m++[M[m]]:=List.take_succ_eq_append_getElem hlt;have HNX:Hid (fi M[m]=true→∀ l∈M.take (m+1),fi l=true):=fun he l hl=>by
     rw [hnx] at hl
     rcases List.mem_append.1 hl with hl | hl
     ·exact HP.out l hl
     ·rw [List.mem_singleton.1 hl];exact he
    have HFM:=aa (HF.out M[m] hmem);clear hnx hv hmem;generalize M[m]=l at *;obtain ⟨al,cl,rfl⟩:=aq hrl;have HRL:=aa hrl;unfold maxLen at z2;have Y0:=aa y0;have y0:wr.cell? ⟨g,off+m,none⟩=some (.slice al l.length cl):=(HB.out.cell (p:=⟨g,off+m,none⟩) z3).trans Y0.out;have z4:g < wr.heap.size:=Nat.lt_of_lt_of_le z3 HB.out.size;clear hrl
    by_cases hl:l.length≤40
    ·have d4:decide ((40:Int) < (l.length:Int))=false:=by simp;omega
     have HLT:Hid ((∀ x∈l,evC x=0)→fi l=true):=fun hx=>by
      unfold fi
      simp [hl]
      exact hx
     have HLF:Hid (∀ x∈l,evC x≠0→fi l=false):=fun x hx hc=>by
      unfold fi;rw [Bool.and_eq_false_iff];refine .inr ?_;cases hb:l.all fun x=>decide (evC x=0) with
      | false=>rfl
      | true =>
       rw [List.all_eq_true] at hb
       have:=hb x hx
       simp [hc] at this
     go_wp2_with fail
     go_loopw [4] (fun i wx=>∃ k:Nat,k≤l.length∧i=.int .i64 k∧Hid (∀ x∈l.take k,evC x=0)∧Hid (Below w.heap.size w wx)) (fun i _=>l.length - (intOf i).toNat)
     case atStart=>exact ⟨0,Nat.zero_le _,rfl,fun x hx=>by simp at hx,HB⟩
     case round =>
      clear HB y0;obtain ⟨k,hk,rfl,HX,HB⟩:=hrel;have y0:wr.cell? ⟨g,off+m,none⟩=some (.slice al l.length cl):=(HB.out.cell (p:=⟨g,off+m,none⟩) z3).trans Y0.out;have z5:g < wr.heap.size:=Nat.lt_of_lt_of_le z3 HB.out.size;clear z4
      by_cases hkl:k < l.length
      ·obtain ⟨ge,oe,hae,hce,p1,p2,p3⟩:=bA gQ (aA HRL.out HB.out) k hkl;subst hae;have hxm:=List.getElem_mem hkl;have hnx:l.take (k+1)=l.take k++[l[k]]:=List.take_succ_eq_append_getElem hkl;have HLK:=aa (HLF.out l[k] hxm);have HXN:Hid (evC l[k]=0→∀ x∈l.take (k+1),evC x=0):=fun he x hx=>by
        rw [hnx] at hx
        rcases List.mem_append.1 hx with hx | hx
        ·exact HX.out x hx
        ·rw [List.mem_singleton.1 hx];exact he
       clear hnx hxm;generalize l[k]=x at *;obtain ⟨x0,x1,x2,x3,x4,x5,x6⟩:=ev7 hce;unfold maxLen at p2;have SC:=im x wr;unfold ei at SC;clear hce
       by_cases hc:evC x=0
       ·have e9:ik 0=.nilIface:=rfl;rw [hc,e9] at SC;have SCH:=aa SC;have HX1:=aa (HXN.out hc);clear SC e9 hc;go_wp2_with fail;refine SCH.out.mono ?_;rintro e w1 ⟨rfl,hb⟩;have HB1:=nxt HB hb;clear hb;go_wp2_with fail;go_roundw
        case rel=>exact ⟨k+1,by omega,by go_num,HX1,HB1⟩
        case measure=>simp [intOf];omega
       ·have e9:ik (evC x)=.iface 93 (.int .i64 (evC x)):=by unfold ik;rw [if_neg hc]
        rw [e9] at SC;have SCH:=aa SC;have hbf:b=false:=HFM.out (HLK.out hc);subst hbf;generalize evC x=c at *;clear SC e9 hc;go_wp2_with fail;refine SCH.out.mono ?_;rintro e w1 ⟨rfl,hb⟩;have HB1:=nxt HB hb;clear hb;go_wp2_with fail
        go_ret
        exact ⟨rfl,HB1.out⟩
      ·have hke:k=l.length:=by omega
       subst hke;have HP2:=aa (HNX.out (HLT.out (fun x hx=>HX.out x (by rw [List.take_length];exact hx))));go_wp2_with fail;go_roundw
       case rel=>exact ⟨m+1,by omega,by go_num,HP2,HB⟩
       case measure=>simp [intOf];omega
    ·have d4:decide ((40:Int) < (l.length:Int))=true:=by simp;omega
     have hbf:b=false:=HFM.out (by unfold fi;rw [decide_eq_false hl];rfl);subst hbf;go_wp2_with fail
     go_ret
     exact ⟨rfl,HB.out⟩
   ·have hme:m=M.length:=by omega
    subst hme;have hbt:b=true:=HT.out (fun l hl=>HP.out l (by rw [List.take_length];exact hl));subst hbt;go_wp2_with fail
    go_ret
    exact ⟨rfl,HB.out⟩
 ·have d3:decide ((3:Int) < (M.length:Int))=true:=by simp;omega
  have hbf:lightM M=false:=by unfold lightM;rw [decide_eq_false h3];rfl
  rw [hbf];clear h hbf
  go_enter Tryz.func67,Tryz.ntmps67
  go_wp2_with fail
  go_ret
  exact ⟨rfl,Below.refl _ _⟩
theorem signs_any (w:World):Calls Tryz.prog 69 #[] w fun r w'=>r=.returned (.map (some w.heap.size))∧Below w.heap.size w w'∧oL w' w.heap.size sgL:=by
 have M0:=mapL_new w;have B0:=aj w (.map #[] 0);have mk:(Instr.makeMap 131 none).run Tryz.prog w=.ok (.map (some w.heap.size)) (w.alloc (.map #[] 0)):=rfl;generalize w.heap.size=g at *;generalize w.alloc (.map #[] 0)=w0 at *;obtain ⟨w1,r0,M1,K0⟩:=oA M0 wOr ⟨0,10,false,false⟩ (by decide);have B1:Below g w w1:=B0.trans (aL K0 (Nat.le_of_lt (di M0)) (fun k e=>by omega));have i0:(Instr.mapUpdate 131 (.map (some g)) (.string ⟨#[111,114]⟩) (.agg #[.int .i64 0,.int .i64 10,.bool false,.bool false])).run Tryz.prog w0=.ok () w1:=r0;obtain ⟨w2,r1,M2,K1⟩:=oA M1 wAnd ⟨1,9,false,false⟩ (by decide);have B2:Below g w w2:=B1.trans (aL K1 (Nat.le_of_lt (di M1)) (fun k e=>by omega));have i1:(Instr.mapUpdate 131 (.map (some g)) (.string ⟨#[97,110,100]⟩) (.agg #[.int .i64 1,.int .i64 9,.bool false,.bool false])).run Tryz.prog w1=.ok () w2:=r1;obtain ⟨w3,r2,M3,K2⟩:=oA M2 wLt ⟨2,11,false,false⟩ (by decide);have B3:Below g w w3:=B2.trans (aL K2 (Nat.le_of_lt (di M2)) (fun k e=>by omega));have i2:(Instr.mapUpdate 131 (.map (some g)) (.string ⟨#[60]⟩) (.agg #[.int .i64 2,.int .i64 11,.bool false,.bool false])).run Tryz.prog w2=.ok () w3:=r2;obtain ⟨w4,r3,M4,K3⟩:=oA M3 wGt ⟨2,11,true,false⟩ (by decide);have B4:Below g w w4:=B3.trans (aL K3 (Nat.le_of_lt (di M3)) (fun k e=>by omega));have i3:(Instr.mapUpdate 131 (.map (some g)) (.string ⟨#[62]⟩) (.agg #[.int .i64 2,.int .i64 11,.bool true,.bool false])).run Tryz.prog w3=.ok () w4:=r3;obtain ⟨w5,r4,M5,K4⟩:=oA M4 wLe ⟨2,11,true,true⟩ (by decide);have B5:Below g w w5:=B4.trans (aL K4 (Nat.le_of_lt (di M4)) (fun k e=>by omega));have i4:(Instr.mapUpdate 131 (.map (some g)) (.string ⟨#[60,61]⟩) (.agg #[.int .i64 2,.int .i64 11,.bool true,.bool true])).run Tryz.prog w4=.ok () w5:=r4;obtain ⟨w6,r5,M6,K5⟩:=oA M5 wGe ⟨2,11,false,true⟩ (by decide);have B6:Below g w w6:=B5.trans (aL K5 (Nat.le_of_lt (di M5)) (fun k e=>by omega));have i5:(Instr.mapUpdate 131 (.map (some g)) (.string ⟨#[62,61]⟩) (.agg #[.int .i64 2,.int .i64 11,.bool false,.bool true])).run Tryz.prog w5=.ok () w6:=r5;obtain ⟨w7,r6,M7,K6⟩:=oA M6 wEq ⟨2,12,false,false⟩ (by decide);have B7:Below g w w7:=B6.trans (aL K6 (Nat.le_of_lt (di M6)) (fun k e=>by omega));have i6:(Instr.mapUpdate 131 (.map (some g)) (.string ⟨#[61]⟩) (.agg #[.int .i64 2,.int .i64 12,.bool false,.bool false])).run Tryz.prog w6=.ok () w7:=r6;obtain ⟨w8,r7,M8,K7⟩:=oA M7 wNe ⟨2,12,false,true⟩ (by decide);have B8:Below g w w8:=B7.trans (aL K7 (Nat.le_of_lt (di M7)) (fun k e=>by omega));have i7:(Instr.mapUpdate 131 (.map (some g)) (.string ⟨#[60,62]⟩) (.agg #[.int .i64 2,.int .i64 12,.bool false,.bool true])).run Tryz.prog w7=.ok () w8:=r7;obtain ⟨w9,r8,M9,K8⟩:=oA M8 wPlus ⟨3,6,false,false⟩ (by decide);have B9:Below g w w9:=B8.trans (aL K8 (Nat.le_of_lt (di M8)) (fun k e=>by omega))
 have i8:(Instr.mapUpdate 131 (.map (some g)) (.string ⟨#[43]⟩) (.agg #[.int .i64 3,.int .i64 6,.bool false,.bool false])).run Tryz.prog w8=.ok () w9:=r8;obtain ⟨w10,r9,M10,K9⟩:=oA M9 wMinus ⟨3,7,false,false⟩ (by decide);have B10:Below g w w10:=B9.trans (aL K9 (Nat.le_of_lt (di M9)) (fun k e=>by omega));have i9:(Instr.mapUpdate 131 (.map (some g)) (.string ⟨#[45]⟩) (.agg #[.int .i64 3,.int .i64 7,.bool false,.bool false])).run Tryz.prog w9=.ok () w10:=r9;obtain ⟨w11,r10,M11,K10⟩:=oA M10 wStar ⟨4,8,false,false⟩ (by decide);have B11:Below g w w11:=B10.trans (aL K10 (Nat.le_of_lt (di M10)) (fun k e=>by omega));have i10:(Instr.mapUpdate 131 (.map (some g)) (.string ⟨#[42]⟩) (.agg #[.int .i64 4,.int .i64 8,.bool false,.bool false])).run Tryz.prog w10=.ok () w11:=r10;have MZ:oL w11 g sgL:=M11;have MM:=aa MZ;have BB:=aa B11;clear M0 B0 M1 B1 M2 B2 M3 B3 M4 B4 M5 B5 M6 B6 M7 B7 M8 B8 M9 B9 M10 B10 M11 B11 MZ K0 r0 K1 r1 K2 r2 K3 r3 K4 r4 K5 r5 K6 r6 K7 r7 K8 r8 K9 r9 K10 r10
 go_enter Tryz.func69,Tryz.ntmps69
 go_wp2_with fail
 go_ret
 exact ⟨rfl,BB.out,MM.out⟩
structure QyO (w:World) (B:Nat) (va vw vb:Value) (q:Qy) (ps:List (AgQ×Value)):Prop where
 qa:ps.map Prod.fst=q.aggs
 row:w.ownsRow B 143 2 va ps.length (rowOf bw ps)
 nds:∀ p∈ps,mi w B p.2 p.1.of
 wh:mi w B vw q.wh
 by_:mi w B vb q.bys
theorem eL {w:World} {B B':Nat} {v:Value} {l:List Nd} (h:mi w B v l) (hB:B'≤B):mi w B' v l:=by
 rcases h with h | h
 ·exact .inl h
 ·exact .inr ⟨aN h.1 hB,h.2⟩
theorem fc {w:World} {B:Nat} {v:Value} {l:List Nd} (h:mi w B v l):lf w v l∧l.length≤1000:=by
 rcases h with ⟨rfl,rfl⟩ | h
 ·exact ⟨mI w,by simp⟩
 ·exact ⟨aE h.1,by have:=h.2.2.1;omega⟩
theorem qj {w:World} {B:Nat} {va vw vb:Value} {q:Qy} {ps:List (AgQ×Value)} (h:QyO w B va vw vb q ps):QyG w va vw vb q ps :=
 ⟨⟨aE h.row,fun p hp=>fc (h.nds p hp)⟩,h.qa,(fc h.wh).1,(fc h.by_).1,(fc h.wh).2,(fc h.by_).2⟩
theorem gn {w w':World} {B:Nat} {va vw vb:Value} {q:Qy} {ps:List (AgQ×Value)} (h:QyO w B va vw vb q ps) (hb:Below w.heap.size w w'):QyO w' B va vw vb q ps :=
 have k:=ae (bad:=fun _=>False) hb
 ⟨h.qa,bg h.row k (fun k e h9=>h9),fun p hp=>fD (h.nds p hp) k (fun k e=>e.elim),fD h.wh k (fun k e=>e.elim),fD h.by_ k (fun k e=>e.elim)⟩
theorem pY {w w':World} {B g t:Nat} {va vw vb:Value} {q:Qy} {ps:List (AgQ×Value)} (h:QyO w B va vw vb q ps) (hk:KeptB w w' (fun q=>q=g)) (ht:m6 w g t) (h1:t≠153) (h2:t≠143):QyO w' B va vw vb q ps :=
 ⟨h.qa,bg h.row hk (fun k e h9=>by subst h9;exact g7 h.row ht h2 e),fun p hp=>ga (h.nds p hp) hk ht h1,ga h.wh hk ht h1,ga h.by_ hk ht h1⟩
theorem qyO_base {w:World} {B B':Nat} {va vw vb:Value} {q:Qy} {ps:List (AgQ×Value)} (h:QyO w B va vw vb q ps) (hB:B'≤B):QyO w B' va vw vb q ps :=
 ⟨h.qa,aN h.row hB,fun p hp=>eL (h.nds p hp) hB,eL h.wh hB,eL h.by_ hB⟩
theorem qyO_of {w:World} {B0 B:Nat} {va vw vb:Value} {q:Qy} (h1:jI w B0 B va q.aggs true) (h2:kZ w B vw q.wh true) (h3:kZ w B vb q.bys true) (B':Nat) (hB0:B'≤B0) (hB:B'≤B):∃ ps,QyO w B' va vw vb q ps:=by
 obtain ⟨ps,e1,e2,e3,e4⟩:=h1;have hl:q.aggs.length=ps.length:=by rw [← e1];simp
 rw [hl] at e2;exact ⟨ps,e1,aN e2 hB0,fun p hp=>eL (e4 rfl p hp) hB,eL (h2.2 rfl) hB,eL (h3.2 rfl) hB⟩
theorem lexT_240 (s:ByteArray):∀ x∈(lexT s).2,x.size≤240:=by
 by_cases h:s.size≤240
 ·exact fun x hx=>Nat.le_trans (lexT_small s x hx) h
 ·unfold lexT;rw [if_neg h];exact fun x hx=>by simp at hx
theorem lexT_wq (s:ByteArray):∀ x∈(lexT s).2,WQ x:=fun x hx=>⟨.inl (lexT_wordy s x hx),lexT_240 s x hx⟩
def qzV:Value:=.agg #[.slice none 0 0,.slice none 0 0,.slice none 0 0,.int .i64 0,.int .i64 0,.int .i64 0,.int .i64 0]
def jU (s:ByteArray) (w:World) (r:Ending) (w':World):Prop:=Below w.heap.size w w'∧match dZ s with
 | .error c=>r=.returned (.tuple #[qzV,errC c])∧c≠0
 | .ok q=>∃ va vw vb ps,r=.returned (.tuple #[qyV va vw vb q,.nilIface])∧QyO w' w.heap.size va vw vb q ps
theorem parse_lex (s:ByteArray) (w:World) (ht:TabQ w) (hx:(lexT s).1≠0) :
  Calls Tryz.prog 38 #[.string s] w fun r w'=>jU s w r w':=by
 have ba:=aj w (.cells #[.slice none 0 0,.slice none 0 0,.slice none 0 0,.int .i64 0,.int .i64 0,.int .i64 0,.int .i64 0] 28);have BA:=aa ba;have BR:=aa (az w [.slice none 0 0,.slice none 0 0,.slice none 0 0,.int .i64 0,.int .i64 0,.int .i64 0,.int .i64 0] 28);have TR:=aa (dB w #[.slice none 0 0,.slice none 0 0,.slice none 0 0,.int .i64 0,.int .i64 0,.int .i64 0,.int .i64 0] 28);have WO:=lC s (w.alloc (.cells #[.slice none 0 0,.slice none 0 0,.slice none 0 0,.int .i64 0,.int .i64 0,.int .i64 0,.int .i64 0] 28));have T0:=aa (ht.below ba);have e9:(w.alloc (.cells #[.slice none 0 0,.slice none 0 0,.slice none 0 0,.int .i64 0,.int .i64 0,.int .i64 0,.int .i64 0] 28)).heap.size=w.heap.size+1:=by simp
 have EP:Hid (dZ s=.error (lexT s).1):=by show _=_;unfold dZ;rw [if_pos hx]
 have ev:ik (lexT s).1=.iface 93 (.int .i64 (lexT s).1):=by unfold ik;rw [if_neg hx]
 rw [ev] at WO;have HX:=aa hx;generalize (lexT s).1=c at *;have WOH:=aa WO;clear WO ht ba hx ev e9
 go_enter Tryz.func38,Tryz.ntmps38
 go_wp2_with fail;refine WOH.out.mono ?_;rintro r w1 ⟨v,rfl,ho,hb⟩;obtain ⟨ao,cap,rfl⟩:=ax ho;have B1:=aa (BA.out.trans (hb.mono BA.out.size));have BR1:=aa (ai BR.out hb BR.out.lt);have f0:=BR1.out.fz 0;have f1:=BR1.out.fz 1;have f2:=BR1.out.fz 2;have f3:=BR1.out.fz 3;have f4:=BR1.out.fz 4;have f5:=BR1.out.fz 5;have f6:=BR1.out.fz 6;have c0:=BR1.out.c 0 (by simp);have c1:=BR1.out.c 1 (by simp);have c2:=BR1.out.c 2 (by simp);have c3:=BR1.out.c 3 (by simp);have c4:=BR1.out.c 4 (by simp);have c5:=BR1.out.c 5 (by simp);have c6:=BR1.out.c 6 (by simp);simp only [List.getElem?_cons_zero,List.getElem?_cons_succ] at c0 c1 c2 c3 c4 c5 c6;have Z:=aa (show BlkAt (((((((w1.setCell ⟨w.heap.size,0,none⟩ (.slice none 0 0)).setCell ⟨w.heap.size,1,none⟩ (.slice none 0 0)).setCell ⟨w.heap.size,2,none⟩ (.slice none 0 0)).setCell ⟨w.heap.size,3,none⟩ (.int .i64 0)).setCell ⟨w.heap.size,4,none⟩ (.int .i64 0)).setCell ⟨w.heap.size,5,none⟩ (.int .i64 0)).setCell ⟨w.heap.size,6,none⟩ (.int .i64 0)) w.heap.size [.slice none 0 0,.slice none 0 0,.slice none 0 0,.int .i64 0,.int .i64 0,.int .i64 0,.int .i64 0] by simpa using (ay (ay (ay (ay (ay (ay (ay BR1.out 0 (.slice none 0 0) (by simp)) 1 (.slice none 0 0) (by simp)) 2 (.slice none 0 0) (by simp)) 3 (.int .i64 0) (by simp)) 4 (.int .i64 0) (by simp)) 5 (.int .i64 0) (by simp)) 6 (.int .i64 0) (by simp)));have KG:Hid (KeptB w1 (((((((w1.setCell ⟨w.heap.size,0,none⟩ (.slice none 0 0)).setCell ⟨w.heap.size,1,none⟩ (.slice none 0 0)).setCell ⟨w.heap.size,2,none⟩ (.slice none 0 0)).setCell ⟨w.heap.size,3,none⟩ (.int .i64 0)).setCell ⟨w.heap.size,4,none⟩ (.int .i64 0)).setCell ⟨w.heap.size,5,none⟩ (.int .i64 0)).setCell ⟨w.heap.size,6,none⟩ (.int .i64 0)) (fun q=>q=w.heap.size)):=(ah (ah (ah (ah (ah (ah (ah (ae (bad:=fun q=>q=w.heap.size) (Below.refl w1.heap.size w1)) rfl 0 _) rfl 1 _) rfl 2 _) rfl 3 _) rfl 4 _) rfl 5 _) rfl 6 _);clear hb ho WOH BR;go_wp2_with fail;generalize (((((((w1.setCell ⟨w.heap.size,0,none⟩ (.slice none 0 0)).setCell ⟨w.heap.size,1,none⟩ (.slice none 0 0)).setCell ⟨w.heap.size,2,none⟩ (.slice none 0 0)).setCell ⟨w.heap.size,3,none⟩ (.int .i64 0)).setCell ⟨w.heap.size,4,none⟩ (.int .i64 0)).setCell ⟨w.heap.size,5,none⟩ (.int .i64 0)).setCell ⟨w.heap.size,6,none⟩ (.int .i64 0))=wz at *;have z0:=Z.out.c 0 (by simp);have z1:=Z.out.c 1 (by simp);have z2:=Z.out.c 2 (by simp);have z3:=Z.out.c 3 (by simp);have z4:=Z.out.c 4 (by simp);have z5:=Z.out.c 5 (by simp);have z6:=Z.out.c 6 (by simp);simp only [List.getElem?_cons_zero,List.getElem?_cons_succ] at z0 z1 z2 z3 z4 z5 z6;refine bodyPost_ret (v:=.tuple #[.agg #[.slice none 0 0,.slice none 0 0,.slice none 0 0,.int .i64 0,.int .i64 0,.int .i64 0,.int .i64 0],.iface 93 (.int .i64 c)]) (by simp [results,Tryz.results38,go_sem,z0,z1,z2,z3,z4,z5,z6]) rfl ?_;refine ⟨aL (cO (gp:=w.heap.size) (ae B1.out) KG.out (Nat.le_refl _)) (Nat.le_refl _) (fun k e=>by omega),?_⟩
 rw [EP.out];exact ⟨by rw [bP HX.out];rfl,HX.out⟩
theorem px_made {B:Nat} {w1 w2:World} {v:Value} {ws:Ws} (ht:TabQ w2) (ho:w1.ownsRow B 9 1 v ws.length (ws.map Value.string)) (hb:Below w1.heap.size w1 w2) (gm gp:Nat) (hm:oL w2 gm sgL) (hgm:gm < gp)
  (hbd:BlkAt w2 gp [v,.map (some gm),.int .i64 0,.nilIface]) (hgp:w1.heap.size≤gp) (hlo:7≤gp) (hw:∀ x∈ws,WQ x) (hf:ws.length≤80):PXS w2 gp gm (.ok ws):=by
 refine ⟨v,⟨?_,ht,hw,hlo⟩⟩;refine ⟨hbd,aA (aE ho) hb,fun g off m c e=>?_,hm,hgm,fun h=>absurd rfl h,by omega⟩
 have:=(aJ ho g (by rw [e];rfl)).2
 omega
theorem parse_rest (s:ByteArray) (w:World) (ht:TabQ w) (hx:(lexT s).1=0) :
  Calls Tryz.prog 38 #[.string s] w fun r w'=>jU s w r w':=by
 have ba:=aj w (.cells #[.slice none 0 0,.slice none 0 0,.slice none 0 0,.int .i64 0,.int .i64 0,.int .i64 0,.int .i64 0] 28);have BA:=aa ba;have BR:=aa (az w [.slice none 0 0,.slice none 0 0,.slice none 0 0,.int .i64 0,.int .i64 0,.int .i64 0,.int .i64 0] 28);have TR:=aa (dB w #[.slice none 0 0,.slice none 0 0,.slice none 0 0,.int .i64 0,.int .i64 0,.int .i64 0,.int .i64 0] 28);have WO:=lC s (w.alloc (.cells #[.slice none 0 0,.slice none 0 0,.slice none 0 0,.int .i64 0,.int .i64 0,.int .i64 0,.int .i64 0] 28));have T0:=aa (ht.below ba);have e9:(w.alloc (.cells #[.slice none 0 0,.slice none 0 0,.slice none 0 0,.int .i64 0,.int .i64 0,.int .i64 0,.int .i64 0] 28)).heap.size=w.heap.size+1:=by simp
 have ev:ik (lexT s).1=.nilIface:=by rw [hx];rfl
 rw [ev] at WO;have WQH:=aa (lexT_wq s);have FEW:=aa (lexT_few s);have HX:=aa hx;have EPQ:Hid (dZ s=match jO (lexT s).2 with | .error c=>.error c | .ok q=>if chkQ q≠0 then .error (chkQ q) else .ok q):=by show _=_;unfold dZ;rw [if_neg (by simp [hx])];rfl
 have hsz:=ht.t.sz;generalize (lexT s).2=ws at *;have WOH:=aa WO;have HZ:=aa e9;clear WO ht ba hx ev e9
 go_enter Tryz.func38,Tryz.ntmps38
 go_wp2_with fail;refine WOH.out.mono ?_;rintro r w1 ⟨v,rfl,ho,hb⟩;obtain ⟨ao,cap,rfl⟩:=ax ho;have B1:=aa (BA.out.trans (hb.mono BA.out.size));have BR1:=aa (ai BR.out hb BR.out.lt);have TR1:=aa (aT TR.out (ae (bad:=fun _=>False) hb) id);have T1:=aa (T0.out.below hb);have HO:=aa ho;have SG:=aa (signs_any w1);clear hb ho WOH BR TR T0;go_wp2_with fail;refine SG.out.mono ?_;rintro r w2 ⟨rfl,hb,hm⟩;have BW2:=aa (aj w2 (.cells #[.slice ao ws.length cap,.map (some w1.heap.size),.int .i64 0,.nilIface] 134));have HB2:=aa hb;have HM2:=aa hm;have T2:=aa (T1.out.below hb);have BP:=aa (az w2 [.slice ao ws.length cap,.map (some w1.heap.size),.int .i64 0,.nilIface] 134);have lm:=di hm;have b1s:=B1.out.size;have b2s:=hb.size;have lr1:=BR1.out.lt;clear SG hb hm
 go_upto_region 5 with fail
 generalize w2.alloc (.cells #[.slice ao ws.length cap,.map (some w1.heap.size),.int .i64 0,.nilIface] 134)=w3 at *;have P3:=px_made (T2.out.below BW2.out) HO.out (HB2.out.trans (BW2.out.mono b2s)) w1.heap.size w2.heap.size (fo HM2.out (ae (bad:=fun _=>False) BW2.out) id) lm BP.out b2s (by omega) WQH.out FEW.out;have BR3:=aa (ai (ai BR1.out HB2.out lr1) BW2.out (by omega));have TR3:=aa (aT (aT TR1.out (ae (bad:=fun _=>False) HB2.out) id) (ae (bad:=fun _=>False) BW2.out) id);have B3:=aa (B1.out.trans ((HB2.out.trans (BW2.out.mono b2s)).mono b1s));have QA:=aa (quest_any w2.heap.size w1.heap.size ws w3 P3);have b3s:=BW2.out.size;generalize w2.heap.size=gp at *;generalize w1.heap.size=gm at *;clear P3 HO HB2 BW2 HM2 T1 T2 B1 BR1 TR1 BP WQH FEW BA lm;go_wp2_with fail;refine QA.out.mono ?_;rintro r w4 ⟨va,vw,vb,rfl,hk4,hp4,ha4,hw4,hb4⟩;obtain ⟨a1,n1,c1,rfl⟩:=bR (kz ha4);obtain ⟨a2,n2,c2,rfl⟩:=bR hw4.1;obtain ⟨a3,n3,c3,rfl⟩:=bR hb4.1;have BR4:=aa (aI BR3.out hk4 (by omega));have TR4:=aa (aT TR3.out hk4 (by omega));have EQ:=aa (quest_run ws);generalize questS ws=qs at *;obtain ⟨q,st⟩:=qs
 simp only at hp4 ha4 hw4 hb4
 have B6:=aa (aj w4 (.cells #[.slice a1 n1 c1,.slice a2 n2 c2,.slice a3 n3 c3,.int .i64 q.size,.int .i64 q.slide,.int .i64 q.delay,.int .i64 q.late] 28));have BV:=aa (az w4 [.slice a1 n1 c1,.slice a2 n2 c2,.slice a3 n3 c3,.int .i64 q.size,.int .i64 q.slide,.int .i64 q.delay,.int .i64 q.late] 28);have lr4:=BR4.out.lt;have lp4:=je hp4;have BR6:=aa (ai BR4.out B6.out lr4);have TR6:=aa (aT TR4.out (ae (bad:=fun _=>False) B6.out) id);have B4:=aa (show Below w.heap.size w w4 from B3.out.trans (aL hk4 (by omega) (fun k e=>by omega)));have P6:=aa (bZ hp4 B6.out)
 go_upto_region 6 with fail
 generalize w4.alloc (.cells #[.slice a1 n1 c1,.slice a2 n2 c2,.slice a3 n3 c3,.int .i64 q.size,.int .i64 q.slide,.int .i64 q.delay,.int .i64 q.late] 28)=w6 at *;cases st with
 | error c =>
  obtain ⟨hc0,wv,hp⟩:=P6.out;have hcc:=hp.ps.bd.c 3 (by simp);simp only [List.getElem?_cons_zero,List.getElem?_cons_succ] at hcc;rw [bP hc0] at hcc;have lgp:=hp.ps.bd.lt;have ngp:¬ gp=w.heap.size:=by omega
  have HC0:=aa hc0;have EP:Hid (dZ s=.error c):=by show _=_;rw [EPQ.out,EQ.out];rfl
  clear hp P6 EQ EPQ ha4 hw4 hb4 hc0 hp4 hk4 TR6 TR4 BR4 BV TR3 BR3 B3 QA;go_wp2_with fail;have dd:Below w6.heap.size w6 ({ w6 with drawn:=w6.drawn+1 }:World):=(Below.refl _ _).drew;have hS:KeptB w6 ({ w6 with drawn:=w6.drawn+1 }:World) (fun q=>q=w.heap.size):=ae dd;have BR6d:=aa (ai BR6.out dd BR6.out.lt);have B7:Hid (Below w4.heap.size w4 ({ w6 with drawn:=w6.drawn+1 }:World)):=B6.out.trans (dd.mono B6.out.size);clear dd BR6 B6;refine wp_region_held (S:=fun w'=>KeptB w6 w' (fun q=>q=w.heap.size)) (by kernel_rfl) ?_;generalize ({ w6 with drawn:=w6.drawn+1 }:World)=wd at *;have f0:=BR6d.out.fz 0;have f1:=BR6d.out.fz 1;have f2:=BR6d.out.fz 2;have f3:=BR6d.out.fz 3;have f4:=BR6d.out.fz 4;have f5:=BR6d.out.fz 5;have f6:=BR6d.out.fz 6;have c0:=BR6d.out.c 0 (by simp);have c1:=BR6d.out.c 1 (by simp);have c2:=BR6d.out.c 2 (by simp);have c3:=BR6d.out.c 3 (by simp);have c4:=BR6d.out.c 4 (by simp);have c5:=BR6d.out.c 5 (by simp);have c6:=BR6d.out.c 6 (by simp);simp only [List.getElem?_cons_zero,List.getElem?_cons_succ] at c0 c1 c2 c3 c4 c5 c6;have Z:=aa (show BlkAt (((((((wd.setCell ⟨w.heap.size,0,none⟩ (.slice none 0 0)).setCell ⟨w.heap.size,1,none⟩ (.slice none 0 0)).setCell ⟨w.heap.size,2,none⟩ (.slice none 0 0)).setCell ⟨w.heap.size,3,none⟩ (.int .i64 0)).setCell ⟨w.heap.size,4,none⟩ (.int .i64 0)).setCell ⟨w.heap.size,5,none⟩ (.int .i64 0)).setCell ⟨w.heap.size,6,none⟩ (.int .i64 0)) w.heap.size [.slice none 0 0,.slice none 0 0,.slice none 0 0,.int .i64 0,.int .i64 0,.int .i64 0,.int .i64 0] by simpa using (ay (ay (ay (ay (ay (ay (ay BR6d.out 0 (.slice none 0 0) (by simp)) 1 (.slice none 0 0) (by simp)) 2 (.slice none 0 0) (by simp)) 3 (.int .i64 0) (by simp)) 4 (.int .i64 0) (by simp)) 5 (.int .i64 0) (by simp)) 6 (.int .i64 0) (by simp)));have KG:Hid (KeptB wd (((((((wd.setCell ⟨w.heap.size,0,none⟩ (.slice none 0 0)).setCell ⟨w.heap.size,1,none⟩ (.slice none 0 0)).setCell ⟨w.heap.size,2,none⟩ (.slice none 0 0)).setCell ⟨w.heap.size,3,none⟩ (.int .i64 0)).setCell ⟨w.heap.size,4,none⟩ (.int .i64 0)).setCell ⟨w.heap.size,5,none⟩ (.int .i64 0)).setCell ⟨w.heap.size,6,none⟩ (.int .i64 0)) (fun q=>q=w.heap.size)):=(ah (ah (ah (ah (ah (ah (ah (ae (bad:=fun q=>q=w.heap.size) (Below.refl wd.heap.size wd)) rfl 0 _) rfl 1 _) rfl 2 _) rfl 3 _) rfl 4 _) rfl 5 _) rfl 6 _);clear BR6d;refine HU 0 (v:=.agg #[.slice none 0 0,.slice none 0 0,.slice none 0 0,.int .i64 0,.int .i64 0,.int .i64 0,.int .i64 0]) rfl (fun wq hq=>by go_simp) hS ?_;refine HU 1 (v:=.pointer (some ⟨gp,3,none⟩)) rfl (fun wq hq=>by go_simp) hS ?_;refine HU 2 (v:=.iface 93 (.int .i64 c)) rfl (fun wq hq=>by have q9:=aB hq 3 lgp ngp;rw [hcc] at q9;go_simp) hS ?_;refine HG 3 rfl ?_;intro K' hK;go_simp;refine hK _ _ ⟨af hS KG.out,?_⟩;clear hK;refine HG 4 rfl ?_;intro K' hK;go_simp;refine hK _ _ ⟨af hS KG.out,?_⟩
  clear hK;refine wpAnyH_done (by kernel_rfl) ?_ _;clear hS;generalize (((((((wd.setCell ⟨w.heap.size,0,none⟩ (.slice none 0 0)).setCell ⟨w.heap.size,1,none⟩ (.slice none 0 0)).setCell ⟨w.heap.size,2,none⟩ (.slice none 0 0)).setCell ⟨w.heap.size,3,none⟩ (.int .i64 0)).setCell ⟨w.heap.size,4,none⟩ (.int .i64 0)).setCell ⟨w.heap.size,5,none⟩ (.int .i64 0)).setCell ⟨w.heap.size,6,none⟩ (.int .i64 0))=wz at *;go_wp2_with fail;have z0:=Z.out.c 0 (by simp);have z1:=Z.out.c 1 (by simp);have z2:=Z.out.c 2 (by simp);have z3:=Z.out.c 3 (by simp);have z4:=Z.out.c 4 (by simp);have z5:=Z.out.c 5 (by simp);have z6:=Z.out.c 6 (by simp);simp only [List.getElem?_cons_zero,List.getElem?_cons_succ] at z0 z1 z2 z3 z4 z5 z6;refine bodyPost_ret (v:=.tuple #[.agg #[.slice none 0 0,.slice none 0 0,.slice none 0 0,.int .i64 0,.int .i64 0,.int .i64 0,.int .i64 0],.iface 93 (.int .i64 c)]) (by simp [results,Tryz.results38,go_sem,z0,z1,z2,z3,z4,z5,z6]) rfl ?_;refine ⟨aL (cO (gp:=w.heap.size) (ae (B4.out.trans (B7.out.mono B4.out.size))) KG.out (Nat.le_refl _)) (Nat.le_refl _) (fun k e=>by omega),?_⟩;rw [EP.out];exact ⟨by rw [bP HC0.out];rfl,HC0.out⟩
 | ok ws9 =>
  obtain ⟨wv,hp⟩:=P6.out;have hcc:=hp.ps.bd.c 3 (by simp);simp only [List.getElem?_cons_zero,List.getElem?_cons_succ] at hcc;rw [errC_0] at hcc;obtain ⟨ps,hqo⟩:=qyO_of ha4 hw4 hb4 w.heap.size (by have:=B3.out.size;omega) (by omega);have EP0:Hid (jO ws=.ok q):=EQ.out;have QO6:=aa (gn hqo B6.out);have CK:=jV (.slice a1 n1 c1) (.slice a2 n2 c2) (.slice a3 n3 c3) q ps w6 (qj QO6.out);unfold qyV at CK;have d0:=BV.out.c 0 (by simp);have d1:=BV.out.c 1 (by simp);have d2:=BV.out.c 2 (by simp);have d3:=BV.out.c 3 (by simp);have d4:=BV.out.c 4 (by simp);have d5:=BV.out.c 5 (by simp);have d6:=BV.out.c 6 (by simp);simp only [List.getElem?_cons_zero,List.getElem?_cons_succ] at d0 d1 d2 d3 d4 d5 d6;have B6':=aa (B4.out.trans (B6.out.mono B4.out.size));have lr6:=BR6.out.lt;have lv6:=BV.out.lt;clear hp P6 EQ ha4 hw4 hb4 hp4 hk4 hqo TR4 BR4 TR3 BR3 B3 QA B6 B4
  by_cases hck:chkQ q=0
  ·rw [hck,errC_0] at CK;have EP:Hid (dZ s=.ok q):=by show _=_;rw [EPQ.out,EP0.out];simp only;rw [if_neg (by simp [hck])]
   have CKH:=aa CK;clear CK hck EPQ EP0;go_wp2_with fail;refine CKH.out.mono ?_;rintro r w7 ⟨rfl,hb⟩;have B7:=aa (B6'.out.trans (hb.mono B6'.out.size));have BR7:=aa (ai BR6.out hb lr6);have TR7:=aa (aT TR6.out (ae (bad:=fun _=>False) hb) id);have BV7:=aa (ai BV.out hb lv6);have QO7:=aa (gn QO6.out hb);clear hb CKH B6' BR6 TR6 BV QO6 d0 d1 d2 d3 d4 d5 d6;have f0:=BR7.out.fz 0;have y0:=BR7.out.c 0 (by simp);have f1:=BR7.out.fz 1;have y1:=BR7.out.c 1 (by simp);have f2:=BR7.out.fz 2;have y2:=BR7.out.c 2 (by simp);have f3:=BR7.out.fz 3;have y3:=BR7.out.c 3 (by simp);have f4:=BR7.out.fz 4;have y4:=BR7.out.c 4 (by simp);have f5:=BR7.out.fz 5;have y5:=BR7.out.c 5 (by simp);have f6:=BR7.out.fz 6;have y6:=BR7.out.c 6 (by simp);simp only [List.getElem?_cons_zero,List.getElem?_cons_succ] at y0 y1 y2 y3 y4 y5 y6;have d0:=BV7.out.c 0 (by simp);have d1:=BV7.out.c 1 (by simp);have d2:=BV7.out.c 2 (by simp);have d3:=BV7.out.c 3 (by simp);have d4:=BV7.out.c 4 (by simp);have d5:=BV7.out.c 5 (by simp);have d6:=BV7.out.c 6 (by simp);simp only [List.getElem?_cons_zero,List.getElem?_cons_succ] at d0 d1 d2 d3 d4 d5 d6;have Z:=aa (show BlkAt (((((((w7.setCell ⟨w.heap.size,0,none⟩ (.slice a1 n1 c1)).setCell ⟨w.heap.size,1,none⟩ (.slice a2 n2 c2)).setCell ⟨w.heap.size,2,none⟩ (.slice a3 n3 c3)).setCell ⟨w.heap.size,3,none⟩ (.int .i64 q.size)).setCell ⟨w.heap.size,4,none⟩ (.int .i64 q.slide)).setCell ⟨w.heap.size,5,none⟩ (.int .i64 q.delay)).setCell ⟨w.heap.size,6,none⟩ (.int .i64 q.late)) w.heap.size [.slice a1 n1 c1,.slice a2 n2 c2,.slice a3 n3 c3,.int .i64 q.size,.int .i64 q.slide,.int .i64 q.delay,.int .i64 q.late] by simpa using (ay (ay (ay (ay (ay (ay (ay BR7.out 0 (.slice a1 n1 c1) (by simp)) 1 (.slice a2 n2 c2) (by simp)) 2 (.slice a3 n3 c3) (by simp)) 3 (.int .i64 q.size) (by simp)) 4 (.int .i64 q.slide) (by simp)) 5 (.int .i64 q.delay) (by simp)) 6 (.int .i64 q.late) (by simp)));have KG:Hid (KeptB w7 (((((((w7.setCell ⟨w.heap.size,0,none⟩ (.slice a1 n1 c1)).setCell ⟨w.heap.size,1,none⟩ (.slice a2 n2 c2)).setCell ⟨w.heap.size,2,none⟩ (.slice a3 n3 c3)).setCell ⟨w.heap.size,3,none⟩ (.int .i64 q.size)).setCell ⟨w.heap.size,4,none⟩ (.int .i64 q.slide)).setCell ⟨w.heap.size,5,none⟩ (.int .i64 q.delay)).setCell ⟨w.heap.size,6,none⟩ (.int .i64 q.late)) (fun q=>q=w.heap.size)):=(ah (ah (ah (ah (ah (ah (ah (ae (bad:=fun q=>q=w.heap.size) (Below.refl w7.heap.size w7)) rfl 0 _) rfl 1 _) rfl 2 _) rfl 3 _) rfl 4 _) rfl 5 _) rfl 6 _);clear BR7 BV7;go_wp2_with fail;generalize (((((((w7.setCell ⟨w.heap.size,0,none⟩ (.slice a1 n1 c1)).setCell ⟨w.heap.size,1,none⟩ (.slice a2 n2 c2)).setCell ⟨w.heap.size,2,none⟩ (.slice a3 n3 c3)).setCell ⟨w.heap.size,3,none⟩ (.int .i64 q.size)).setCell ⟨w.heap.size,4,none⟩ (.int .i64 q.slide)).setCell ⟨w.heap.size,5,none⟩ (.int .i64 q.delay)).setCell ⟨w.heap.size,6,none⟩ (.int .i64 q.late))=wz at *
   have z0:=Z.out.c 0 (by simp);have z1:=Z.out.c 1 (by simp);have z2:=Z.out.c 2 (by simp);have z3:=Z.out.c 3 (by simp);have z4:=Z.out.c 4 (by simp);have z5:=Z.out.c 5 (by simp);have z6:=Z.out.c 6 (by simp);simp only [List.getElem?_cons_zero,List.getElem?_cons_succ] at z0 z1 z2 z3 z4 z5 z6;refine bodyPost_ret (v:=.tuple #[.agg #[.slice a1 n1 c1,.slice a2 n2 c2,.slice a3 n3 c3,.int .i64 q.size,.int .i64 q.slide,.int .i64 q.delay,.int .i64 q.late],.nilIface]) (by simp [results,Tryz.results38,go_sem,z0,z1,z2,z3,z4,z5,z6]) rfl ?_;refine ⟨aL (cO (gp:=w.heap.size) (ae B7.out) KG.out (Nat.le_refl _)) (Nat.le_refl _) (fun k e=>by omega),?_⟩;rw [EP.out];exact ⟨_,_,_,ps,rfl,pY QO7.out KG.out TR7.out qty_node qty_agg⟩
  ·rw [bP hck] at CK;have EP:Hid (dZ s=.error (chkQ q)):=by show _=_;rw [EPQ.out,EP0.out];simp only;rw [if_pos hck]
   have HC0:=aa hck;have CKH:=aa CK;generalize chkQ q=c at *;clear CK hck EPQ EP0 QO6;go_wp2_with fail;refine CKH.out.mono ?_;rintro r w7 ⟨rfl,hb⟩;have B7:=aa (B6'.out.trans (hb.mono B6'.out.size));have BR7:=aa (ai BR6.out hb lr6);clear hb CKH B6' BR6 TR6 BV d0 d1 d2 d3 d4 d5 d6;have f0:=BR7.out.fz 0;have y0:=BR7.out.c 0 (by simp);have f1:=BR7.out.fz 1;have y1:=BR7.out.c 1 (by simp);have f2:=BR7.out.fz 2;have y2:=BR7.out.c 2 (by simp);have f3:=BR7.out.fz 3;have y3:=BR7.out.c 3 (by simp);have f4:=BR7.out.fz 4;have y4:=BR7.out.c 4 (by simp);have f5:=BR7.out.fz 5;have y5:=BR7.out.c 5 (by simp);have f6:=BR7.out.fz 6;have y6:=BR7.out.c 6 (by simp);simp only [List.getElem?_cons_zero,List.getElem?_cons_succ] at y0 y1 y2 y3 y4 y5 y6;have Z:=aa (show BlkAt (((((((w7.setCell ⟨w.heap.size,0,none⟩ (.slice none 0 0)).setCell ⟨w.heap.size,1,none⟩ (.slice none 0 0)).setCell ⟨w.heap.size,2,none⟩ (.slice none 0 0)).setCell ⟨w.heap.size,3,none⟩ (.int .i64 0)).setCell ⟨w.heap.size,4,none⟩ (.int .i64 0)).setCell ⟨w.heap.size,5,none⟩ (.int .i64 0)).setCell ⟨w.heap.size,6,none⟩ (.int .i64 0)) w.heap.size [.slice none 0 0,.slice none 0 0,.slice none 0 0,.int .i64 0,.int .i64 0,.int .i64 0,.int .i64 0] by simpa using (ay (ay (ay (ay (ay (ay (ay BR7.out 0 (.slice none 0 0) (by simp)) 1 (.slice none 0 0) (by simp)) 2 (.slice none 0 0) (by simp)) 3 (.int .i64 0) (by simp)) 4 (.int .i64 0) (by simp)) 5 (.int .i64 0) (by simp)) 6 (.int .i64 0) (by simp)));have KG:Hid (KeptB w7 (((((((w7.setCell ⟨w.heap.size,0,none⟩ (.slice none 0 0)).setCell ⟨w.heap.size,1,none⟩ (.slice none 0 0)).setCell ⟨w.heap.size,2,none⟩ (.slice none 0 0)).setCell ⟨w.heap.size,3,none⟩ (.int .i64 0)).setCell ⟨w.heap.size,4,none⟩ (.int .i64 0)).setCell ⟨w.heap.size,5,none⟩ (.int .i64 0)).setCell ⟨w.heap.size,6,none⟩ (.int .i64 0)) (fun q=>q=w.heap.size)):=(ah (ah (ah (ah (ah (ah (ah (ae (bad:=fun q=>q=w.heap.size) (Below.refl w7.heap.size w7)) rfl 0 _) rfl 1 _) rfl 2 _) rfl 3 _) rfl 4 _) rfl 5 _) rfl 6 _);clear BR7;go_wp2_with fail;generalize (((((((w7.setCell ⟨w.heap.size,0,none⟩ (.slice none 0 0)).setCell ⟨w.heap.size,1,none⟩ (.slice none 0 0)).setCell ⟨w.heap.size,2,none⟩ (.slice none 0 0)).setCell ⟨w.heap.size,3,none⟩ (.int .i64 0)).setCell ⟨w.heap.size,4,none⟩ (.int .i64 0)).setCell ⟨w.heap.size,5,none⟩ (.int .i64 0)).setCell ⟨w.heap.size,6,none⟩ (.int .i64 0))=wz at *;have z0:=Z.out.c 0 (by simp);have z1:=Z.out.c 1 (by simp);have z2:=Z.out.c 2 (by simp);have z3:=Z.out.c 3 (by simp);have z4:=Z.out.c 4 (by simp);have z5:=Z.out.c 5 (by simp);have z6:=Z.out.c 6 (by simp);simp only [List.getElem?_cons_zero,List.getElem?_cons_succ] at z0 z1 z2 z3 z4 z5 z6;refine bodyPost_ret (v:=.tuple #[.agg #[.slice none 0 0,.slice none 0 0,.slice none 0 0,.int .i64 0,.int .i64 0,.int .i64 0,.int .i64 0],.iface 93 (.int .i64 c)]) (by simp [results,Tryz.results38,go_sem,z0,z1,z2,z3,z4,z5,z6]) rfl ?_
   refine ⟨aL (cO (gp:=w.heap.size) (ae B7.out) KG.out (Nat.le_refl _)) (Nat.le_refl _) (fun k e=>by omega),?_⟩;rw [EP.out];exact ⟨by rw [bP HC0.out];rfl,HC0.out⟩
theorem ji (s:ByteArray) (w:World) (ht:TabQ w):Calls Tryz.prog 38 #[.string s] w fun r w'=>jU s w r w':=by
 by_cases hx:(lexT s).1=0
 ·exact parse_rest s w ht hx
 ·exact parse_lex s w ht hx
end Go.Proofs.YtcgjflamgnjhcaaGreatDoor
