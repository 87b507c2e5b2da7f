/- Own texts in one. Conditions: as named in each. -/
import Derived.Test.YtcgjflamgnjhcaaGreatDoorVals4J
import Derived.Test.YtcgjflamgnjhcaaGreatDoorKinJ
import Derived.OwnWalk
import Derived.Deep.DeepMust
import Derived.Test.YtcgjflamgnjhcaaGreatDoorVals2J
import Derived.Deep.Slices
set_option linter.unusedVariables false
set_option linter.unusedSimpArgs false
set_option maxRecDepth 100000
set_option maxHeartbeats 8000000
namespace Go.Proofs.YtcgjflamgnjhcaaGreatDoor
open Go.ChangeShapes Go.WideShapes Go.ChangeAt Go.RowKit
theorem co (op:Int) (w:World) :
  Calls Tryz.prog 184 #[.int .i64 op] w fun e w'=>e=.returned (.int .i64 (ar op))∧w'=w:=by
 by_cases h:1≤op∧op≤12
 ·rcases (by omega:op=1∨op=2∨op=3∨op=4∨op=5∨op=6∨op=7∨op=8∨op=9∨op=10∨op=11∨op=12) with rfl | rfl | rfl | rfl | rfl | rfl | rfl | rfl | rfl | rfl | rfl | rfl
  all_goals
   clear h
   go_enter Tryz.func184,Tryz.ntmps184
   go_wp2
   go_ret
   exact ⟨rfl,rfl⟩
 ·have e:ar op=-1:=by unfold ar;rw [if_neg (by omega),if_neg (by omega),if_neg (by omega)]
  rw [e];have h1:(op == 1)=false:=by simp;omega
  have h2:(op == 2)=false:=by simp;omega
  have h3:(op == 3)=false:=by simp;omega
  have h4:(op == 4)=false:=by simp;omega
  have h5:(op == 5)=false:=by simp;omega
  have h6:(op == 6)=false:=by simp;omega
  have h7:(op == 7)=false:=by simp;omega
  have h8:(op == 8)=false:=by simp;omega
  have h9:(op == 9)=false:=by simp;omega
  have h10:(op == 10)=false:=by simp;omega
  have h11:(op == 11)=false:=by simp;omega
  have h12:(op == 12)=false:=by simp;omega
  clear h e
  go_enter Tryz.func184,Tryz.ntmps184
  go_wp2
  go_ret
  exact ⟨rfl,rfl⟩
def fT (n:Nd):Value:=.agg #[.int .i64 n.op,.int .i64 n.x,.int .i64 n.y,.int .i64 n.n,.int .i64 n.k,.int .i64 n.v]
def cT (n:Nd):List Value:=[.int .i64 n.op,.int .i64 n.x,.int .i64 n.y,.int .i64 n.n,.int .i64 n.k,.int .i64 n.v]
def partsN (n:Nd):List Int:=if ar n.op=1 then [n.x] else if ar n.op=2 then [n.y,n.x] else []
theorem gl (n:Nd) (w:World) :
  Calls Tryz.prog 185 #[fT n] w fun e w'=>∃ v,e=.returned v∧bK w' v 1 (partsN n).length ((partsN n).map (Value.int .i64))∧Below w.heap.size w w':=by
 obtain ⟨op,x,y,nn,k,v⟩:=n;unfold fT partsN
 simp only
 by_cases h1:ar op=1
 ·have b1:(ar op == 1)=true:=by simp [h1]
  rw [if_pos h1];clear h1
  go_enter Tryz.func185,Tryz.ntmps185
  go_wp2_with (go_at_call 184;refine (co _ _).mono ?_;rintro e w' ⟨rfl,rfl⟩)
  go_ret
  exact ⟨_,rfl,nE _ _ [.int .i64 x] _ 1 (by simp) rfl (by decide),((Below.refl _ _).alloc (Nat.le_refl _) _).alloc (by simp) _⟩
 ·have b1:(ar op == 1)=false:=by simp [h1]
  rw [if_neg h1];clear h1
  by_cases h2:ar op=2
  ·have b2:(ar op == 2)=true:=by simp [h2]
   rw [if_pos h2];clear h2
   go_enter Tryz.func185,Tryz.ntmps185
   go_wp2_with (go_at_call 184;refine (co _ _).mono ?_;rintro e w' ⟨rfl,rfl⟩)
   go_ret
   exact ⟨_,rfl,nE _ _ [.int .i64 y,.int .i64 x] _ 2 (by simp) rfl (by decide),((Below.refl _ _).alloc (Nat.le_refl _) _).alloc (by simp) _⟩
  ·have b2:(ar op == 2)=false:=by simp [h2]
   rw [if_neg h2];clear h2
   go_enter Tryz.func185,Tryz.ntmps185
   go_wp2_with (go_at_call 184;refine (co _ _).mono ?_;rintro e w' ⟨rfl,rfl⟩)
   go_ret
   exact ⟨_,rfl,⟨rfl,.inl ⟨⟨_,_,rfl⟩,rfl⟩⟩,(Below.refl _ _).alloc (Nat.le_refl _) _⟩
end Go.Proofs.YtcgjflamgnjhcaaGreatDoor
namespace Go.Proofs.YtcgjflamgnjhcaaGreatDoor
open Go.ChangeShapes Go.WideShapes Go.ChangeAt Go.RowKit
attribute [local go_sem ↓] cK cM
def errC (c:Int):Value:=if c=0 then .nilIface else .iface 93 (.int .i64 c)
theorem ke (k n:Int) (w:World) :
  Calls Tryz.prog 122 #[.agg #[.int .i64 k,.int .i64 n]] w fun e w'=>e=.returned (errC (if vok k n then 0 else 3))∧Below w.heap.size w w':=by
 by_cases h:vok k n=true
 ·rw [if_pos h];exact lO k n w h
 ·rw [if_neg h];exact nx k n w (by simpa using h)
theorem vokB_is (k n:Int):qQ k n=vok k n:=rfl
def okR (a op x y nn k v:Int):Int:=if (op≠2∧nn≠0)∨(a < 2∧y≠0)∨(a < 1∧x≠0) then 3 else if nn < 0∨4≤nn then 1 else if vok k v then 0 else 3
theorem qF (op x y nn k v:Int) (h1:¬ (ar op < 0)) (h2:¬ (op≠1∧¬ (k=0∧v=0))):okN ⟨op,x,y,nn,k,v⟩=okR (ar op) op x y nn k v:=by
 unfold okN okR lJ;simp only [vokB_is];have:(ar op < 0∨(op≠1∧¬ (k=0∧v=0))∨(op≠2∧nn≠0)∨(ar op < 2∧y≠0)∨(ar op < 1∧x≠0))=((op≠2∧nn≠0)∨(ar op < 2∧y≠0)∨(ar op < 1∧x≠0)):=propext ⟨fun h=>h.elim (fun q=>absurd q h1) (fun h=>h.elim (fun q=>absurd q h2) id),fun h=>.inr (.inr h)⟩;simp only [this]
 rfl
theorem qK (op x y nn k v:Int) (h:ar op < 0∨(op≠1∧¬ (k=0∧v=0))):okN ⟨op,x,y,nn,k,v⟩=3:=by
 unfold okN lJ
 simp only
 rw [if_pos (h.elim .inl (fun q=>.inr (.inl q)))]
theorem checkNode_any (n:Nd) (w:World) :
  Calls Tryz.prog 171 #[fT n] w fun e w'=>e=.returned (errC (okN n))∧Below w.heap.size w w':=by
 obtain ⟨op,x,y,nn,k,v⟩:=n;unfold fT
 simp only
 have HB:Hid (Below (w.alloc (.cells #[.int .i64 op,.int .i64 x,.int .i64 y,.int .i64 nn,.int .i64 k,.int .i64 v] 153)).heap.size (w.alloc (.cells #[.int .i64 op,.int .i64 x,.int .i64 y,.int .i64 nn,.int .i64 k,.int .i64 v] 153)) (w.alloc (.cells #[.int .i64 op,.int .i64 x,.int .i64 y,.int .i64 nn,.int .i64 k,.int .i64 v] 153))):=Below.refl _ _;have H0:Hid (Below w.heap.size w (w.alloc (.cells #[.int .i64 op,.int .i64 x,.int .i64 y,.int .i64 nn,.int .i64 k,.int .i64 v] 153))):=(Below.refl _ _).alloc (Nat.le_refl _) _;have kn:=bJ (w.alloc (.cells #[.int .i64 op,.int .i64 x,.int .i64 y,.int .i64 nn,.int .i64 k,.int .i64 v] 153));obtain ⟨kc,kf⟩:=bB (w.alloc (.cells #[.int .i64 op,.int .i64 x,.int .i64 y,.int .i64 nn,.int .i64 k,.int .i64 v] 153))
 by_cases ha:ar op < 0
 ·rw [qK op x y nn k v (.inl ha)]
  go_enter Tryz.func171,Tryz.ntmps171
  go_wp2_with (go_at_call 184;refine (co _ _).mono ?_;rintro e w' ⟨rfl,rfl⟩)
  go_ret
  exact ⟨rfl,H0.out⟩
 ·have da:decide (ar op < 0)=false:=by simpa using ha
  by_cases h1:op=1
  ·have e1:=qF op x y nn k v ha (fun q=>q.1 h1);rw [e1];have b1:(op != 1)=false:=by simp [h1]
   have HE:=aa e1;clear e1 ha h1;have HA:=aa (fun w=>co op w);generalize ar op=a at *;generalize hR:okR a op x y nn k v=R;have HR:=aa hR;clear hR
   go_enter Tryz.func171,Tryz.ntmps171
   go_wp2_with (go_at_call 184;refine (HA.out _).mono ?_;rintro e w' ⟨rfl,rfl⟩)
   refine aE HB (by kernel_rfl) (by kernel_rfl) ?_
   repeat (go_big_quiet_step ((go_at_call 125;exact cF (d7 _))))
   refine wpQuiet_nil ?_;rintro _ ⟨p,rfl⟩;have HB:Hid _:=p.h
   go_wp2_with (go_at_call 122;refine (ke _ _ _).mono ?_;rintro e w1 ⟨rfl,hb⟩;have HB:=nxt HB hb;clear hb)
   all_goals
    go_ret
    refine ⟨?_,done H0.out HB⟩;clear HB H0 kc kf kn HE;have hR:=HR.out;clear HR
    first
    |(exfalso
      simp only [bne_iff_ne,ne_eq,bne_eq_false_iff_eq] at *;omega)
    |(have hv:R=3:=by
       rw [← hR];unfold okR;simp only [bne_iff_ne,ne_eq,bne_eq_false_iff_eq] at *;rw [if_pos (by omega)]
      rw [hv];rfl)
    |(have hv:R=1:=by
       rw [← hR];unfold okR;simp only [bne_iff_ne,ne_eq,bne_eq_false_iff_eq] at *;rw [if_neg (by omega),if_pos (by omega)]
      rw [hv];rfl)
    |(have hv:R=(if vok k v then 0 else 3):=by
       rw [← hR];unfold okR;simp only [bne_iff_ne,ne_eq,bne_eq_false_iff_eq] at *;rw [if_neg (by omega),if_neg (by omega)]
      rw [hv]
      first | rfl | (rw [if_pos (by assumption)];rfl) | (rw [if_neg (by assumption)];rfl))
  ·have b1:(op != 1)=true:=by simp [h1]
   by_cases h2:k=0∧v=0
   ·have e1:=qF op x y nn k v ha (fun q=>q.2 h2);rw [e1];have bk:(k == 0 && v == 0)=true:=by simp [h2]
    have HE:=aa e1;clear e1 ha h1 h2;have HA:=aa (fun w=>co op w);generalize ar op=a at *;generalize hR:okR a op x y nn k v=R;have HR:=aa hR;clear hR
    go_enter Tryz.func171,Tryz.ntmps171
    go_wp2_with (go_at_call 184;refine (HA.out _).mono ?_;rintro e w' ⟨rfl,rfl⟩)
    refine aE HB (by kernel_rfl) (by kernel_rfl) ?_
    repeat (go_big_quiet_step ((go_at_call 125;exact cF (d7 _))))
    refine wpQuiet_nil ?_;rintro _ ⟨p,rfl⟩;have HB:Hid _:=p.h
    go_wp2_with (go_at_call 122;refine (ke _ _ _).mono ?_;rintro e w1 ⟨rfl,hb⟩;have HB:=nxt HB hb;clear hb)
    all_goals
     go_ret
     refine ⟨?_,done H0.out HB⟩;clear HB H0 kc kf kn HE;have hR:=HR.out;clear HR
     first
     |(exfalso
       simp only [bne_iff_ne,ne_eq,bne_eq_false_iff_eq] at *;omega)
     |(have hv:R=3:=by
        rw [← hR];unfold okR;simp only [bne_iff_ne,ne_eq,bne_eq_false_iff_eq] at *;rw [if_pos (by omega)]
       rw [hv];rfl)
     |(have hv:R=1:=by
        rw [← hR];unfold okR;simp only [bne_iff_ne,ne_eq,bne_eq_false_iff_eq] at *;rw [if_neg (by omega),if_pos (by omega)]
       rw [hv];rfl)
     |(have hv:R=(if vok k v then 0 else 3):=by
        rw [← hR];unfold okR;simp only [bne_iff_ne,ne_eq,bne_eq_false_iff_eq] at *;rw [if_neg (by omega),if_neg (by omega)]
       rw [hv]
       first | rfl | (rw [if_pos (by assumption)];rfl) | (rw [if_neg (by assumption)];rfl))
   ·rw [qK op x y nn k v (.inr ⟨h1,h2⟩)];have bk:(k == 0 && v == 0)=false:=by simp;omega
    clear ha h1 h2
    go_enter Tryz.func171,Tryz.ntmps171
    go_wp2_with (go_at_call 184;refine (co _ _).mono ?_;rintro e w' ⟨rfl,rfl⟩)
    refine aE HB (by kernel_rfl) (by kernel_rfl) ?_
    repeat (go_big_quiet_step ((go_at_call 125;exact cF (d7 _))))
    refine wpQuiet_nil ?_;rintro _ ⟨p,rfl⟩;have HB:Hid _:=p.h;go_wp2_with fail
    go_ret
    exact ⟨rfl,done H0.out HB⟩
end Go.Proofs.YtcgjflamgnjhcaaGreatDoor
namespace Go.Proofs.YtcgjflamgnjhcaaGreatDoor
open Go.ChangeShapes Go.WideShapes Go.ChangeAt Go.RowKit
def qB (b:Nat):Value:=.int .i64 (b:Int)
def js (bs:List Nat):Nat→List Int→Option Nat
 | b,[]=>some b
 | b,p :: ps=>(eg bs b p).bind fun c=>js bs c ps
theorem stepsB_is (n:Nd) (bs:List Nat):js bs bs.length (partsN n)=lz n bs:=by
 unfold partsN lz
 by_cases h1:ar n.op=1
 ·rw [if_pos h1,if_pos h1];simp only [js];cases eg bs bs.length n.x <;> rfl
 ·rw [if_neg h1,if_neg h1]
  by_cases h2:ar n.op=2
  ·rw [if_pos h2,if_pos h2];simp only [js]
   congr 1
   funext b
   cases eg bs b n.x <;> rfl
  ·rw [if_neg h2,if_neg h2]
   rfl
def begV:Option Nat→Value
 | none=>.tuple #[.int .i64 0,.bool false]
 | some b=>.tuple #[.int .i64 (b:Int),.bool true]
theorem beginOf_any (n:Nd) (bs:List Nat) (v:Value) (w:World) (hl:bs.length≤50) (hr:bK w v 1 bs.length (bs.map qB)) (hle:∀ j,j < bs.length→bs.getD j 0≤j) :
  Calls Tryz.prog 172 #[fT n,v] w fun e w'=>e=.returned (begV (lz n bs))∧Below w.heap.size w w':=by
 obtain ⟨ao,cap,rfl⟩:=am hr;have HR:=aa hr;have HLE:=aa hle;clear hr hle;rw [← stepsB_is];have H0:Hid (Below w.heap.size w (w.alloc (.cells #[.int .i64 n.op,.int .i64 n.x,.int .i64 n.y,.int .i64 n.n,.int .i64 n.k,.int .i64 n.v] 153))):=(Below.refl _ _).alloc (Nat.le_refl _) _;have HL:=aa (gl n (w.alloc (.cells #[.int .i64 n.op,.int .i64 n.x,.int .i64 n.y,.int .i64 n.n,.int .i64 n.k,.int .i64 n.v] 153)));have h2:(partsN n).length≤2:=by unfold partsN;(repeat' split);all_goals simp
 unfold fT at HL ⊢;generalize hT:js bs bs.length (partsN n)=T;have HT:=aa hT;clear hT;generalize partsN n=ps at *
 go_enter Tryz.func172,Tryz.ntmps172
 go_wp2_with fail;refine HL.out.mono ?_;rintro e w1 ⟨u,rfl,hr,hb⟩;obtain ⟨ao1,cap1,rfl⟩:=am hr;have HB:=aa (H0.out.trans (hb.mono H0.out.size));have HR:=aa (aA HR.out HB.out);have HP:=aa hr;clear hr hb HL H0;go_wp2_with fail
 go_loop [6,14] (fun b i=>∃ (m c:Nat),m≤ps.length∧c≤bs.length∧i=.int .i64 m∧b=.int .i64 c∧Hid (js bs c (ps.drop m)=T)) (fun _ i=>ps.length - (intOf i).toNat)
 case atStart=>exact ⟨0,bs.length,Nat.zero_le _,Nat.le_refl _,rfl,rfl,HT⟩
 case round =>
  clear HT;obtain ⟨m,c,hm,hc,rfl,rfl,HS⟩:=hrel
  by_cases hlt:m < ps.length
  ·obtain ⟨g,off,x,rfl,hx,cx,l1,l2,l3⟩:=cL HP.out m hlt;rw [List.getElem?_map,List.getElem?_eq_getElem hlt] at hx;simp only [Option.map_some,Option.some.injEq] at hx;subst hx;have hS:=HS.out;rw [List.drop_eq_getElem_cons hlt] at hS;generalize ps[m]=p at *;simp only [js] at hS;unfold maxLen at l2
   by_cases h0:c=0
   ·have e:T=none:=by rw [← hS];unfold eg;rw [if_pos (Or.inl h0)];rfl
    subst e;have z:((c:Int) == 0)=true:=by simp [h0]
    clear hS h0 HS;go_wp2_with fail
    go_ret2
    exact ⟨rfl,HB.out⟩
   ·have z:((c:Int) == 0)=false:=by simp [h0]
    by_cases hp:p=(c:Int) - 1
    ·obtain ⟨d,rfl⟩:∃ d,c=d+1:=⟨c - 1,by omega⟩;have hp':p=(d:Int):=by omega
     subst hp';clear hp;have z2:((d:Int) != ((d+1:Nat):Int) - 1)=false:=by simp
     have hd:d < bs.length:=by omega
     obtain ⟨g2,off2,x2,rfl,hx2,cx2,l12,l22,l32⟩:=cL HR.out d hd;rw [List.getElem?_map,List.getElem?_eq_getElem hd] at hx2;simp only [Option.map_some,Option.some.injEq,qB] at hx2;subst hx2;have hst:eg bs (d+1) (d:Int)=some bs[d]:=by
      unfold eg;rw [if_neg (by omega)]
      congr 1
      rw [List.getD_eq_getElem?_getD,Nat.add_sub_cancel,List.getElem?_eq_getElem hd];rfl
     rw [hst] at hS;simp only [Option.bind_some] at hS;have hbd:=HLE.out d hd;rw [List.getD_eq_getElem?_getD,List.getElem?_eq_getElem hd] at hbd;simp only [Option.getD_some] at hbd;have HS:=aa hS;clear hS hst h0;generalize bs[d]=q at *;unfold maxLen at l22;go_wp2_with fail
     go_round
     case rel=>exact ⟨m+1,q,by omega,by omega,by go_num,rfl,HS⟩
     case measure=>simp [intOf];omega
    ·have e:T=none:=by rw [← hS];unfold eg;rw [if_pos (Or.inr hp)];rfl
     subst e;have z2:(p != (c:Int) - 1)=true:=by simpa using hp
     clear hS h0 HS hp;go_wp2_with fail
     go_ret2
     exact ⟨rfl,HB.out⟩
  ·have e:T=some c:=by
    have:=HS.out
    rw [List.drop_eq_nil_of_le (by omega)] at this;exact this.symm
   subst e;go_wp2_with fail
   go_ret2
   exact ⟨rfl,HB.out⟩
def f9 (l:List Nd):List Value:=l.flatMap cT
theorem gQ (l m:List Nd):f9 (l++m)=f9 l++f9 m:=by simp [f9]
theorem rowN_at:∀ (l:List Nd) (i j:Nat) (n:Nd),l[i]?=some n→j < 6→(f9 l)[i * 6+j]?=(cT n)[j]?
 | [],i,j,n,h,_=>by simp at h
 | a :: l,0,j,n,h,hj=>by
  simp at h;subst h;have:f9 (a :: l)=cT a++f9 l:=rfl;rw [this,Nat.zero_mul,Nat.zero_add,List.getElem?_append_left (by simpa [cT] using hj)]
 | a :: l,i+1,j,n,h,hj=>by
  simp at h;have:f9 (a :: l)=cT a++f9 l:=rfl;rw [this,List.getElem?_append_right (by simp [cT];omega)];have hc:(cT a).length=6:=rfl;rw [hc,show (i+1) * 6+j - 6=i * 6+j from by omega];exact rowN_at l i j n h hj
def nc (w:World) (g o:Nat) (n:Nd):Prop :=
 w.cell? ⟨g,o,none⟩=some (.int .i64 n.op)∧w.cell? ⟨g,o+1,none⟩=some (.int .i64 n.x)∧w.cell? ⟨g,o+2,none⟩=some (.int .i64 n.y)∧w.cell? ⟨g,o+3,none⟩=some (.int .i64 n.n)∧w.cell? ⟨g,o+4,none⟩=some (.int .i64 n.k)∧w.cell? ⟨g,o+5,none⟩=some (.int .i64 n.v)
theorem gD {w:World} {l:List Nd} {ao:Option Addr} {cap:Nat} (h:bK w (.slice ao l.length cap) 6 l.length (f9 l)) (i:Nat) (hi:i < l.length) :
  ∃ g off,ao=some ⟨g,off,none⟩∧nc w g (off+i * 6) l[i]∧l.length≤cap∧cap≤maxLen∧g < w.heap.size:=by
 obtain ⟨h0,h⟩:=h
 rcases h with ⟨-,h⟩ | ⟨g,off,cap',e,h1,h2,h3,h4⟩
 ·omega
 ·simp only [Value.slice.injEq] at e;obtain ⟨rfl,-,rfl⟩:=e;have hc:∀ j,j < 6→w.cell? ⟨g,off+i * 6+j,none⟩=(cT l[i])[j]?:=fun j hj=>by
   rw [Nat.add_assoc,h4 (i * 6+j) (by omega),rowN_at l i j l[i] (List.getElem?_eq_getElem hi) hj]
  exact ⟨g,off,rfl,⟨hc 0 (by omega),hc 1 (by omega),hc 2 (by omega),hc 3 (by omega),hc 4 (by omega),hc 5 (by omega)⟩,h1,h2,h3⟩
theorem ez {w w':World} {B g o:Nat} {n:Nd} (h:nc w g o n) (hb:Below B w w') (hg:g < B):nc w' g o n:=by
 have hc:=fun o=>hb.cell (p:=⟨g,o,none⟩) hg
 unfold nc;simp only [hc];exact h
theorem begN_le {n:Nd} {bs:List Nat} {b:Nat} (hle:∀ j,j < bs.length→bs.getD j 0≤j) (h:lz n bs=some b):b≤bs.length:=by
 unfold lz at h
 by_cases h1:ar n.op=1
 ·rw [if_pos h1] at h;obtain ⟨c1,c2,c3⟩:=cX h
  have:=hle (bs.length - 1) (by omega)
  omega
 ·rw [if_neg h1] at h
  by_cases h2:ar n.op=2
  ·rw [if_pos h2] at h;cases hs:eg bs bs.length n.y with
   | none=>rw [hs] at h;simp at h
   | some d =>
    rw [hs] at h;simp only [Option.bind_some] at h;obtain ⟨c1,c2,c3⟩:=cX hs;obtain ⟨d1,d2,d3⟩:=cX h
    have:=hle (bs.length - 1) (by omega)
    have:=hle (d - 1) (by omega)
    omega
  ·rw [if_neg h2] at h;simp at h;omega
theorem le_snoc {bs:List Nat} {b:Nat} (hle:∀ j,j < bs.length→bs.getD j 0≤j) (h:b≤bs.length):∀ j,j < (bs++[b]).length→(bs++[b]).getD j 0≤j:=by
 intro j hj
 by_cases hl:j < bs.length
 ·rw [List.getD_eq_getElem?_getD,List.getElem?_append_left hl,← List.getD_eq_getElem?_getD];exact hle j hl
 ·have:j=bs.length:=by simp at hj;omega
  subst this;rw [getD_last];exact h
theorem check_few (l:List Nd) (v:Value) (w:World) (hl:l.length≤40) (hr:bK w v 6 l.length (f9 l)) :
  Calls Tryz.prog 156 #[v] w fun e w'=>e=.returned (errC (kt l))∧Below w.heap.size w w':=by
 obtain ⟨ao,cap,rfl⟩:=am hr;obtain ⟨i0,hi,hz0,hz1,hz2⟩:=info_parts infoI;have HR:=aa hr;clear hr;have hT:kt l=if (chkF l []).1≠0 then (chkF l []).1 else if l.length=0∨(chkF l []).2.getD (l.length - 1) 0≠0 then 3 else 0:=by unfold kt;rw [if_neg (by omega)]
 rw [hT];clear hT;generalize hF:chkF l []=T;have HF:=aa hF;clear hF;generalize hX:(if T.1≠0 then T.1 else if l.length=0∨T.2.getD (l.length - 1) 0≠0 then 3 else 0)=X;have HX:=aa hX;clear hX
 go_enter Tryz.func156,Tryz.ntmps156
 go_wp2_with (at_make;go_must (refine wpList_make_own _ rfl _ _ 56 rfl w.heap.size 3 i0 (.int .i64 0) 1 Tryz.underlying56 hi hz0 hz1 .i64 .i64 _ l.length rfl rfl rfl (by rw [hz2];omega) (by show _≤2 ^ 63 - 1;omega) (Nat.le_refl _) ?_))
 intro w0 ho0 hg0;have HB0:Hid (Below w.heap.size w w0):=(Below.refl _ _).grown hg0 (Nat.le_refl _) (fun k hk=>by cases hk);have HO0:=aa ho0;clear ho0 hg0;go_wp2_with fail
 go_loopw [3,18] (fun v i wr=>∃ (m:Nat) (bs:List Nat),m≤l.length∧bs.length=m∧i=.int .i64 m∧Hid (wr.ownsRow w.heap.size 3 1 v bs.length (bs.map qB))∧Hid (Below w.heap.size w wr)∧Hid (∀ j,j < bs.length→bs.getD j 0≤j)∧Hid (chkF (l.drop m) bs=T)) (fun _ i _=>l.length - (intOf i).toNat)
 case atStart=>exact ⟨0,[],Nat.zero_le _,rfl,rfl,HO0,HB0,fun j hj=>absurd hj (by simp),HF⟩
 case round =>
  clear HF HB0 HO0;obtain ⟨m,bs,hm,rfl,rfl,HO,HB,HLE,HS⟩:=hrel;obtain ⟨ao2,cap2,rfl⟩:=ax HO.out
  by_cases hlt:bs.length < l.length
  ·obtain ⟨g,off,rfl,hnode,l1,l2,l3⟩:=gD HR.out _ hlt;have hS:=HS.out;rw [List.drop_eq_getElem_cons hlt] at hS;generalize l[bs.length]=nd at *;obtain ⟨n0,n1,n2,n3,n4,n5⟩:=ez hnode HB.out l3;clear hnode;unfold maxLen at l2;unfold chkF at hS;go_wp2_with fail;refine (checkNode_any nd _).mono ?_;rintro e w1 ⟨rfl,hb1⟩;have hA:Below w.heap.size w (wr.alloc (.cells #[.int .i64 nd.op,.int .i64 nd.x,.int .i64 nd.y,.int .i64 nd.n,.int .i64 nd.k,.int .i64 nd.v] 153)):=HB.out.alloc HB.out.size _;have HB1:=aa (hA.trans (hb1.mono hA.size));have HO1:=aa (aB (HO.out.alloc _) hb1 (Nat.le_refl _));obtain ⟨hc1,hf1⟩:=bcell hb1;clear hA
   by_cases hok:okN nd=0
   ·have e0:errC (okN nd)=.nilIface:=by rw [hok];rfl
    rw [e0];rw [if_neg (by simpa using hok)] at hS;clear hb1 hok e0;go_wp2_with fail;refine (beginOf_any nd bs _ w1 (by omega) (aD HO1.out) HLE.out).mono ?_;rintro e w2 ⟨rfl,hb2⟩;have HB2:=aa (HB1.out.trans (hb2.mono HB1.out.size));have HO2:=aa (aB HO1.out hb2 (Nat.le_refl _));clear hb2 hc1 hf1 HB1 HO1;cases hbeg:lz nd bs with
    | none =>
     rw [hbeg] at hS;have hS':T=(3,bs):=hS.symm;subst hS';clear hS hbeg;unfold begV;go_wp2_with fail
     go_ret
     exact ⟨by rw [← HX.out];rfl,HB2.out⟩
    | some b =>
     rw [hbeg] at hS;have HS2:Hid (chkF (List.drop (bs.length+1) l) (bs++[b])=T):=hS;have hbl:=begN_le HLE.out hbeg;have HLE2:=aa (le_snoc HLE.out hbl);clear hS hbeg HS;unfold begV
     simp only
     go_wp2_with (at_builtin;go_must (refine wpList_append_own _ rfl (.tmp 36) (.tmp 38) 56 rfl w.heap.size 3 i0 (.int .i64 0) 1 8 Tryz.underlying56 hi hz0 hz1 hz2 rfl (by decide) _ _ _ rfl (HO2.out.alloc _) ⟨w2.heap.size,0,none⟩ 1 1 [.int .i64 (b:Int)] rfl rfl (fg _ _ _) (by intro u hu;simp at hu;subst hu;rfl) (by show _≤2 ^ 63 - 1;omega) (by omega) (by have:=HB2.out.size;simp;omega) ?_))
     intro v' w3 ho3 hg3 _;have ho4:w3.ownsRow w.heap.size 3 1 v' (bs++[b]).length ((bs++[b]).map qB):=by simpa [qB] using ho3
     have HO3:=aa ho4;clear ho4;have HB3:Hid (Below w.heap.size w w3):=(HB2.out.alloc HB2.out.size _).grown hg3 (by have:=HB2.out.size;simp;omega) (fun k hk=>(HO2.out.lt k hk).1);clear ho3 hg3;go_wp2_with fail;go_roundw
     case rel=>exact ⟨bs.length+1,bs++[b],by omega,by simp,by go_num,HO3,HB3,HLE2,HS2⟩
     case measure=>simp [intOf];omega
   ·rw [if_pos (by simpa using hok)] at hS;have hS':T=(okN nd,bs):=hS.symm;subst hS';have e0:errC (okN nd)=.iface 93 (.int .i64 (okN nd)):=by unfold errC;rw [if_neg hok]
    have hX:=HX.out;simp only [ne_eq,hok,not_false_eq_true,if_true] at hX;subst hX;have HE:=aa e0;rw [e0];clear hS hok e0 hc1 hf1 hb1 HX;go_wp2_with fail
    go_ret
    exact ⟨(congrArg Ending.returned HE.out).symm,HB1.out⟩
  ·have hml:bs.length=l.length:=by omega
   have hS:=HS.out;rw [List.drop_eq_nil_of_le (by omega)] at hS;unfold chkF at hS;subst hS;have hX:=HX.out;simp only [ne_eq,not_true_eq_false,if_false] at hX;clear HX
   by_cases hz:l.length=0
   ·have z:((l.length:Int) == 0)=true:=by simp [hz]
    rw [if_pos (Or.inl hz)] at hX;subst hX;clear hz;go_wp2_with fail
    go_ret
    exact ⟨rfl,HB.out⟩
   ·have z:((l.length:Int) == 0)=false:=by rw [beq_eq_false_iff_ne];omega
    obtain ⟨d,hd⟩:∃ d,l.length=d+1:=⟨l.length - 1,by omega⟩;have hdb:d < bs.length:=by omega
    obtain ⟨g2,off2,x2,rfl,hx2,cx2,l12,l22,l32⟩:=cL (aD HO.out) d hdb;rw [List.getElem?_map,List.getElem?_eq_getElem hdb] at hx2;simp only [Option.map_some,Option.some.injEq,qB] at hx2;subst hx2;have hg:bs.getD (l.length - 1) 0=bs[d]:=by
     rw [List.getD_eq_getElem?_getD,hd,Nat.add_sub_cancel,List.getElem?_eq_getElem hdb];rfl
    rw [hg] at hX;have hd2:bs.length=d+1:=by omega
    generalize bs[d]=q at *;unfold maxLen at l22;clear hg hz HS
    by_cases hq:q=0
    ·have z2:((q:Int) != 0)=false:=by simp [hq]
     rw [if_neg (by rw [hq];omega)] at hX;subst hX;clear hq;go_wp2_with fail
     go_ret
     exact ⟨rfl,HB.out⟩
    ·have z2:((q:Int) != 0)=true:=by simp [hq]
     rw [if_pos (Or.inr hq)] at hX;subst hX;clear hq;go_wp2_with fail
     go_ret
     exact ⟨rfl,HB.out⟩
theorem check_any (l:List Nd) (v:Value) (w:World) (hl:l.length≤1000) (hr:bK w v 6 l.length (f9 l)) :
  Calls Tryz.prog 156 #[v] w fun e w'=>e=.returned (errC (kt l))∧Below w.heap.size w w':=by
 by_cases h:l.length≤40
 ·exact check_few l v w h hr
 ·obtain ⟨ao,cap,rfl⟩:=am hr;have e:kt l=2:=by unfold kt;rw [if_pos (by omega)]
  rw [e];have h4:(40:Int) < (l.length:Int):=by omega
  clear hr e h
  go_enter Tryz.func156,Tryz.ntmps156
  go_wp2_with fail
  go_ret
  exact ⟨rfl,Below.refl _ _⟩
end Go.Proofs.YtcgjflamgnjhcaaGreatDoor
namespace Go.Proofs.YtcgjflamgnjhcaaGreatDoor
open Go.ChangeShapes Go.WideShapes Go.ChangeAt Go.RowKit
attribute [local go_sem ↓] cK cM
def eH (p:V2):List Value:=[.int .i64 p.1,.int .i64 p.2]
def bW (l:List V2):List Value:=l.flatMap eH
def iG (p:V2):Value:=.agg #[.int .i64 p.1,.int .i64 p.2]
def okV (p:V2):Prop:=vok p.1 p.2=true
theorem kx (l:List V2):(bW l).length=l.length * 2:=by
 induction l with
 | nil=>rfl
 | cons a l ih =>
  have:bW (a :: l)=eH a++bW l:=rfl;rw [this,List.length_append,ih]
  simp [eH];omega
theorem rowV_app (l m:List V2):bW (l++m)=bW l++bW m:=by simp [bW]
theorem rowV_at:∀ (l:List V2) (i j:Nat) (n:V2),l[i]?=some n→j < 2→(bW l)[i * 2+j]?=(eH n)[j]?
 | [],i,j,n,h,_=>by simp at h
 | a :: l,0,j,n,h,hj=>by
  simp at h;subst h;have:bW (a :: l)=eH a++bW l:=rfl;rw [this,Nat.zero_mul,Nat.zero_add,List.getElem?_append_left (by simpa [eH] using hj)]
 | a :: l,i+1,j,n,h,hj=>by
  simp at h;have:bW (a :: l)=eH a++bW l:=rfl;rw [this,List.getElem?_append_right (by simp [eH];omega)];have hc:(eH a).length=2:=rfl;rw [hc,show (i+1) * 2+j - 2=i * 2+j from by omega];exact rowV_at l i j n h hj
theorem fF {w:World} {l:List V2} {ao:Option Addr} {cap:Nat} (h:bK w (.slice ao l.length cap) 2 l.length (bW l)) (i:Nat) (hi:i < l.length) :
  ∃ g off,ao=some ⟨g,off,none⟩∧w.cell? ⟨g,off+i * 2,none⟩=some (.int .i64 l[i].1)∧w.cell? ⟨g,off+i * 2+1,none⟩=some (.int .i64 l[i].2)∧l.length≤cap∧cap≤maxLen∧g < w.heap.size:=by
 obtain ⟨h0,h⟩:=h
 rcases h with ⟨-,h⟩ | ⟨g,off,cap',e,h1,h2,h3,h4⟩
 ·omega
 ·simp only [Value.slice.injEq] at e;obtain ⟨rfl,-,rfl⟩:=e;have hc:∀ j,j < 2→w.cell? ⟨g,off+i * 2+j,none⟩=(eH l[i])[j]?:=fun j hj=>by
   rw [Nat.add_assoc,h4 (i * 2+j) (by omega),rowV_at l i j l[i] (List.getElem?_eq_getElem hi) hj]
  exact ⟨g,off,rfl,hc 0 (by omega),hc 1 (by omega),h1,h2,h3⟩
theorem nth_in (vs:List V2) (i:Nat) (h:i < vs.length):nth vs (i:Int)=vs[i]:=by
 unfold nth;rw [if_neg (by omega),List.getD_eq_getElem?_getD,Int.toNat_natCast,List.getElem?_eq_getElem h];rfl
theorem nth_out (vs:List V2) (i:Int) (h:i < 0∨(vs.length:Int)≤i):nth vs i=(0,0):=by
 unfold nth;rw [if_pos h]
theorem cm (vs:List V2) (v:Value) (at_:Int) (w:World) (hl:vs.length≤1000) (hr:bK w v 2 vs.length (bW vs)) :
  Calls Tryz.prog 160 #[v,.int .i64 at_] w fun e w'=>e=.returned (iG (nth vs at_))∧Below w.heap.size w w':=by
 obtain ⟨ao,cap,rfl⟩:=am hr
 by_cases h:at_ < 0∨(vs.length:Int)≤at_
 ·rw [nth_out vs at_ h]
  by_cases h1:at_ < 0
  ·clear h hr
   go_enter Tryz.func160,Tryz.ntmps160
   go_wp2_with (go_at_call 125;refine (cE _).mono ?_;rintro e w' ⟨rfl,rfl⟩)
   refine bodyPost_ret (v:=.agg #[.int .i64 0,.int .i64 0]) (by simp [results,Tryz.results160,go_sem]) rfl ⟨rfl,?_⟩
   repeat (first | exact Below.refl _ _ | assumption | refine Below.drew ?_ | refine Below.alloc ?_ (by simp <;> omega) _ | refine Below.setCell ?_ (by simp <;> omega) _)
  ·have h2:(vs.length:Int)≤at_:=by omega
   have h3:0≤at_:=by omega
   clear h hr h1
   go_enter Tryz.func160,Tryz.ntmps160
   go_wp2_with (go_at_call 125;refine (cE _).mono ?_;rintro e w' ⟨rfl,rfl⟩)
   refine bodyPost_ret (v:=.agg #[.int .i64 0,.int .i64 0]) (by simp [results,Tryz.results160,go_sem]) rfl ⟨rfl,?_⟩
   repeat (first | exact Below.refl _ _ | assumption | refine Below.drew ?_ | refine Below.alloc ?_ (by simp <;> omega) _ | refine Below.setCell ?_ (by simp <;> omega) _)
 ·obtain ⟨i,rfl⟩:∃ i:Nat,at_=(i:Int):=⟨at_.toNat,by omega⟩
  have hi:i < vs.length:=by omega
  obtain ⟨g,off,rfl,c1,c2,l1,l2,l3⟩:=fF hr i hi;rw [nth_in vs i hi];unfold iG;generalize vs[i]=p at *;obtain ⟨p1,p2⟩:=p
  simp only at c1 c2 ⊢
  unfold maxLen at l2;clear hr h
  go_enter Tryz.func160,Tryz.ntmps160
  go_wp2_with fail;refine bodyPost_ret (v:=.agg #[.int .i64 p1,.int .i64 p2]) (by simp [results,Tryz.results160,go_sem]) rfl ⟨rfl,?_⟩
  repeat (first | exact Below.refl _ _ | assumption | refine Below.drew ?_ | refine Below.alloc ?_ (by simp <;> omega) _ | refine Below.setCell ?_ (by simp <;> omega) _)
def opV (op:Int) (x y:V2):V2:=if op=3 then nU x.1 x.2 else if op=4 then nX x.1 x.2 else if op=5 then tru (x.1 == 0 && x.2 == 0) else doV op x.1 x.2 y.1 y.2
theorem ja {p:V2} (h:okV p):-1000000000≤p.2∧p.2≤1000000000:=by
 have:=of_decide_eq_true h
 omega
theorem pZ (n:Int):okV (pA n):=by
 unfold okV pA numK numN vok;simp only [decide_eq_true_eq]
 by_cases h:-1000000000≤n∧n≤1000000000
 ·simp only [if_pos h];exact .inr (.inl ⟨trivial,h⟩)
 ·simp only [if_neg h];exact .inl ⟨trivial,trivial⟩
theorem pQ (b:Bool):okV (tru b):=by cases b <;> exact rfl
theorem ok_zero:okV (0,0):=rfl
theorem ok_and (k1 n1 k2 n2:Int):okV (ma k1 n1 k2 n2,m8 k1 n1 k2 n2):=by
 unfold okV ma m8;cases (isF k1 n1 || isF k2 n2) <;> cases (isT k1 n1 && isT k2 n2) <;> exact rfl
theorem ok_or (k1 n1 k2 n2:Int):okV (orK k1 n1 k2 n2,orN k1 n1 k2 n2):=by
 unfold okV orK orN;cases (isT k1 n1 || isT k2 n2) <;> cases (isF k1 n1 && isF k2 n2) <;> exact rfl
theorem ok_do (op:Int) (x y:V2):okV (doV op x.1 x.2 y.1 y.2):=by
 unfold doV
 repeat' split
 all_goals first | exact ok_and _ _ _ _ | exact ok_or _ _ _ _ | exact pZ _ | exact pQ _ | exact ok_zero
theorem ok_op (op:Int) (x y:V2):okV (opV op x y):=by
 unfold opV nU nX
 repeat' split
 all_goals first | exact pZ _ | exact pQ _ | exact ok_zero | exact ok_do _ _ _
theorem ix {vs:List V2} (h:∀ p∈vs,okV p) (i:Int):okV (nth vs i):=by
 unfold nth
 split
 ·exact ok_zero
 ·rw [List.getD_eq_getElem?_getD];cases hh:vs[i.toNat]? with
  | none=>exact ok_zero
  | some p=>exact h p (List.mem_of_getElem? hh)
theorem okN_val {n:Nd} (h:okN n=0):okV (n.k,n.v):=by
 unfold okN at h
 by_cases hh:lJ n
 ·simp [hh] at h
 ·rw [if_neg hh] at h
  by_cases h3:n.n < 0∨4≤n.n
  ·simp [h3] at h
  ·rw [if_neg h3] at h
   by_cases hv:qQ n.k n.v=true
   ·exact hv
   ·rw [if_neg hv] at h;exact absurd h (by decide)
theorem ok_evN {ev:List V2} {n:Nd} {vs:List V2} (hev:∀ p∈ev,okV p) (hn:okN n=0):okV (evN opV ev n vs):=by
 unfold evN
 repeat' split
 all_goals first | exact okN_val hn | exact ix hev _ | exact ok_op _ _ _
end Go.Proofs.YtcgjflamgnjhcaaGreatDoor
namespace Go.Proofs.YtcgjflamgnjhcaaGreatDoor
open Go.ChangeShapes Go.WideShapes Go.ChangeAt Go.RowKit Go.Joins Go.Deep
theorem kG {H:Type} {enc:TypeId×Value→H} {W:World} {sp:Nat→Bool} {hd:Bool} {fuel:Nat} {c d:Value} {x:DataW H×List MemPlace}
  (h:DataW.trod enc Tryz.prog W 0 sp hd fuel 41 [c,d]=some x):∃ m n:Int,c=.int .i64 m∧d=.int .i64 n:=by
 obtain ⟨y0,y1,n,-,-,h0,h1⟩:=trod_struct2 Tryz.underlying41 h;rw [cellsInt] at h0 h1;obtain ⟨a,ea⟩:=mn h0;obtain ⟨b,eb⟩:=mn h1;exact ⟨a,b,ea,eb⟩
end Go.Proofs.YtcgjflamgnjhcaaGreatDoor
