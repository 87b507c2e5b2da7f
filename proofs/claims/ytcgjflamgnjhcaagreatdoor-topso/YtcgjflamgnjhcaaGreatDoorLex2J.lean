/- Own texts in one. Conditions: as named in each. -/
import Derived.Test.YtcgjflamgnjhcaaGreatDoorExpr7J
import Derived.Test.YtcgjflamgnjhcaaGreatDoorKinJ
import Derived.Deep.DeepMust
set_option linter.unusedVariables false
set_option linter.unusedSimpArgs false
set_option maxRecDepth 100000
set_option maxHeartbeats 8000000
namespace Go.Proofs.YtcgjflamgnjhcaaGreatDoor
open Go.RowKit
def sgl (s:ByteArray):Nat:=if 1 < s.size∧hZ (bt s 0) (bt s 1)=true then 2 else if iV (bt s 0) then 1 else 0
theorem pE {p:Prop} (h:p):Hid p:=h
theorem bt_bd (s:ByteArray) (k:Nat):0≤bt s k∧bt s k≤255:=by
 unfold bt
 have:=(s.data.toList.getD k 0).toNat_lt
 omega
theorem po (c:Int) (w:World) (h0:0≤c) (h1:c≤255) (h:iV c=true):Calls Tryz.prog 164 #[.string ⟨#[40,41,44,42,43,45,60,62,61]⟩,.int .u8 c] w fun e w'=>(∃ q,e=.returned (.int .i64 q)∧0≤q)∧w'=w :=
 (oN c w h0 h1).mono fun e w' ⟨he,hw⟩=>⟨⟨_,he,of_decide_eq_true ((pr c h0 h1).trans h)⟩,hw⟩
theorem qc (c:Int) (w:World) (h0:0≤c) (h1:c≤255) (h:iV c=false):Calls Tryz.prog 164 #[.string ⟨#[40,41,44,42,43,45,60,62,61]⟩,.int .u8 c] w fun e w'=>(∃ q,e=.returned (.int .i64 q)∧q < 0)∧w'=w :=
 (oN c w h0 h1).mono fun e w' ⟨he,hw⟩=>⟨⟨_,he,by have:=of_decide_eq_false ((pr c h0 h1).trans h);omega⟩,hw⟩
theorem signs_one (s:ByteArray) (w:World) (h0:0 < s.size) (h2:¬ (1 < s.size∧hZ (bt s 0) (bt s 1)=true)) :
  Calls Tryz.prog 145 #[.string s] w fun e w'=>e=.returned (.int .i64 (sgl s))∧w'=w:=by
 have hb:=bt_bd s 0;have HC0:Hid (0≤(s[0].toNat:Int)):=by show 0≤_;omega
 have HC1:Hid ((s[0].toNat:Int)≤255):=by show _≤_;rw [gw s 0 h0];exact hb.2
 clear hb;have hq:sgl s=if iV (bt s 0) then 1 else 0:=by
  unfold sgl;rw [if_neg h2]
 rw [← gw s 0 h0] at hq;rw [hq];clear hq
 by_cases hs:2≤s.size
 ·have hn:hZ (bt s 0) (bt s 1)=false:=by
   cases h:hZ (bt s 0) (bt s 1)
   ·rfl
   ·exact absurd ⟨by omega,h⟩ h2
  unfold hZ at hn;simp only [Bool.or_eq_false_iff] at hn;have t1:((s.extract 0 2).toList == [60,61])=false:=(iy s 60 61 hs).trans hn.1.1;have t2:((s.extract 0 2).toList == [62,61])=false:=(iy s 62 61 hs).trans hn.1.2;have t3:((s.extract 0 2).toList == [60,62])=false:=(iy s 60 62 hs).trans hn.2;clear hn h2;have hs2:(2:Int)≤(s.size:Int):=by omega
  cases hg:iV (s[0].toNat:Int)
  ·have hg:=pE hg
   go_enter Tryz.func145,Tryz.ntmps145
   go_wp2_with (go_at_call 164;refine (qc _ _ HC0.out HC1.out hg.out).mono ?_;rintro e w' ⟨⟨q,rfl,hq0⟩,rfl⟩)
   go_ret
   exact ⟨rfl,rfl⟩
  ·have hg:=pE hg
   go_enter Tryz.func145,Tryz.ntmps145
   go_wp2_with (go_at_call 164;refine (po _ _ HC0.out HC1.out hg.out).mono ?_;rintro e w' ⟨⟨q,rfl,hq0⟩,rfl⟩)
   go_ret
   exact ⟨rfl,rfl⟩
 ·have hs2:(s.size:Int) < 2:=by omega
  clear h2;cases hg:iV (s[0].toNat:Int)
  ·have hg:=pE hg
   go_enter Tryz.func145,Tryz.ntmps145
   go_wp2_with (go_at_call 164;refine (qc _ _ HC0.out HC1.out hg.out).mono ?_;rintro e w' ⟨⟨q,rfl,hq0⟩,rfl⟩)
   go_ret
   exact ⟨rfl,rfl⟩
  ·have hg:=pE hg
   go_enter Tryz.func145,Tryz.ntmps145
   go_wp2_with (go_at_call 164;refine (po _ _ HC0.out HC1.out hg.out).mono ?_;rintro e w' ⟨⟨q,rfl,hq0⟩,rfl⟩)
   go_ret
   exact ⟨rfl,rfl⟩
theorem signs_two (s:ByteArray) (w:World) (h1:1 < s.size) (h2:hZ (bt s 0) (bt s 1)=true) :
  Calls Tryz.prog 145 #[.string s] w fun e w'=>e=.returned (.int .i64 2)∧w'=w:=by
 have hs2:(2:Int)≤(s.size:Int):=by omega
 unfold hZ at h2;cases q1:(bt s 0 == 60 && bt s 1 == 61)
 ·have t1:((s.extract 0 2).toList == [60,61])=false:=(iy s 60 61 h1).trans q1;cases q2:(bt s 0 == 62 && bt s 1 == 61)
  ·have t2:((s.extract 0 2).toList == [62,61])=false:=(iy s 62 61 h1).trans q2;have q3:(bt s 0 == 60 && bt s 1 == 62)=true:=by rw [q1,q2] at h2;simpa using h2
   have t3:((s.extract 0 2).toList == [60,62])=true:=(iy s 60 62 h1).trans q3;clear q1 q2 q3 h2
   go_enter Tryz.func145,Tryz.ntmps145
   go_wp2_with fail
   go_ret
   exact ⟨rfl,rfl⟩
  ·have t2:((s.extract 0 2).toList == [62,61])=true:=(iy s 62 61 h1).trans q2;clear q1 q2 h2
   go_enter Tryz.func145,Tryz.ntmps145
   go_wp2_with fail
   go_ret
   exact ⟨rfl,rfl⟩
 ·have t1:((s.extract 0 2).toList == [60,61])=true:=(iy s 60 61 h1).trans q1;clear q1 h2
  go_enter Tryz.func145,Tryz.ntmps145
  go_wp2_with fail
  go_ret
  exact ⟨rfl,rfl⟩
theorem signs (s:ByteArray) (w:World) (h0:0 < s.size) :
  Calls Tryz.prog 145 #[.string s] w fun e w'=>e=.returned (.int .i64 (sgl s))∧w'=w:=by
 by_cases h:1 < s.size∧hZ (bt s 0) (bt s 1)=true
 ·have e:sgl s=2:=by unfold sgl;rw [if_pos h]
  rw [e];exact signs_two s w h.1 h.2
 ·exact signs_one s w h0 h
theorem wordLen (s:ByteArray) (w:World) (h0:0 < s.size) (hs:s.size≤maxLen):Calls Tryz.prog 106 #[.string s] w fun e w'=>e=.returned (.int .i64 (wl s 0))∧w'=w:=by
 have eq:wl s 0=if db (bt s 0) then run db s 0 else if dh (bt s 0) then run dh s 0 else sgl s:=by
  unfold wl sgl;simp only [Nat.zero_add]
 have hbt:=gw s 0 h0;rw [eq];rw [← hbt];clear eq hbt;have HS:Hid (s.size≤maxLen):=hs;clear hs;cases h1:db (s[0].toNat:Int)
 ·cases h2:dh (s[0].toNat:Int)
  ·go_enter Tryz.func106,Tryz.ntmps106
   go_wp2_with (first | (go_at_call 142;refine (fH _ _).mono ?_;rintro e w' ⟨rfl,rfl⟩) | (go_at_call 144;refine (jx _ _).mono ?_;rintro e w' ⟨rfl,rfl⟩) | (go_at_call 145;refine (signs _ _ h0).mono ?_;rintro e w' ⟨rfl,rfl⟩))
   go_ret
   exact ⟨rfl,rfl⟩
  ·go_enter Tryz.func106,Tryz.ntmps106
   go_wp2_with (first | (go_at_call 142;refine (fH _ _).mono ?_;rintro e w' ⟨rfl,rfl⟩) | (go_at_call 144;refine (jx _ _).mono ?_;rintro e w' ⟨rfl,rfl⟩) | (go_at_call 143;refine (runDig _ _ HS.out).mono ?_;rintro e w' ⟨rfl,rfl⟩))
   go_ret
   exact ⟨rfl,rfl⟩
 ·go_enter Tryz.func106,Tryz.ntmps106
  go_wp2_with (first | (go_at_call 142;refine (fH _ _).mono ?_;rintro e w' ⟨rfl,rfl⟩) | (go_at_call 143;refine (runLet _ _ HS.out).mono ?_;rintro e w' ⟨rfl,rfl⟩))
  go_ret
  exact ⟨rfl,rfl⟩
theorem iI (s:ByteArray) (a:Nat) (h:a≤s.size):(s.extract a s.size).size=s.size - a:=by
 rw [Lib.size_eq,Lib.extract_to_end,List.length_drop,← Lib.size_eq]
theorem o0 (s:ByteArray) (a j:Nat):bt (s.extract a s.size) j=bt s (a+j):=by
 unfold bt;rw [Lib.extract_to_end]
 simp [List.getD]
theorem kS (p:Int→Bool) (s:ByteArray) (a:Nat) (h:a≤s.size):∀ f j,nQ p (s.extract a s.size) f j=nQ p s f (a+j)
 | 0,_=>rfl
 | f+1,j=>by
  unfold nQ;rw [kS p s a h f (j+1),iI s a h,o0,Nat.add_assoc]
  by_cases h1:j < s.size - a∧p (bt s (a+j))=true
  ·rw [if_pos h1,if_pos ⟨by omega,h1.2⟩]
  ·rw [if_neg h1,if_neg (fun q=>h1 ⟨by omega,q.2⟩)]
theorem wl_ext (s:ByteArray) (a:Nat) (h:a≤s.size):wl (s.extract a s.size) 0=wl s a:=by
 unfold wl run;rw [kS _ _ _ h,kS _ _ _ h,iI s a h,o0,o0];simp only [Nat.sub_zero,Nat.add_zero,Nat.zero_add];have e:(1 < s.size - a)=(a+1 < s.size):=propext ⟨fun _=>by omega,fun _=>by omega⟩;simp only [e]
theorem jq (s:ByteArray) (k:Nat) (w:World) (h:k < s.size) (hs:s.size≤maxLen):Calls Tryz.prog 106 #[.string (s.extract k s.size)] w fun e w'=>e=.returned (.int .i64 (wl s k))∧w'=w:=by
 rw [← wl_ext s k (by omega)];exact wordLen _ w (by rw [iI s k (by omega)];omega) (by rw [iI s k (by omega)];omega)
theorem infoS:(Tryz.prog.info? 9).map (fun i=>(i.zero,i.size,i.bytes))=some (some (.string ⟨#[]⟩),1,16):=by kernel_rfl
theorem owns_shape {w:World} {base:Nat} {e:TypeId} {size:Nat} {v:Value} {n:Nat} {xs:List Value} (h:w.ownsRow base e size v n xs):∃ ao cap,v=.slice ao n cap:=by
 rcases h.2 with ⟨rfl,rfl⟩ | ⟨g,cap,cur,rfl,_⟩
 ·exact ⟨none,0,rfl⟩
 ·exact ⟨_,cap,rfl⟩
theorem own_word {w0 wr w1:World} {v v':Value} {ws:List ByteArray} {x:ByteArray} {o:Obj} (hb:Below w0.heap.size w0 wr) (ho:wr.ownsRow w0.heap.size 9 1 v ws.length (ws.map Value.string))
  (ho':w1.ownsRow w0.heap.size 9 1 v' (ws.length+1) (ws.map Value.string++[.string x])) (hg:(wr.alloc o).grownBy w1 v.ownBlock) :
  w1.ownsRow w0.heap.size 9 1 v' (ws++[x]).length ((ws++[x]).map Value.string)∧Below w0.heap.size w0 w1:=by
 refine ⟨by simpa using ho',?_⟩;exact (hb.alloc hb.size o).grown hg (by have:=hb.size;simp;omega) (fun k hk=>(ho.lt k hk).1)
theorem words_long (s:ByteArray) (w:World) (h:240 < s.size):Calls Tryz.prog 68 #[.string s] w fun e w'=>∃ v,e=.returned (.tuple #[v,gG (lexT s).1])∧w'.ownsRow w.heap.size 9 1 v (lexT s).2.length ((lexT s).2.map Value.string)∧Below w.heap.size w w':=by
 have e:lexT s=(2,[]):=by unfold lexT;rw [if_neg (by omega)]
 rw [e]
 go_enter Tryz.func68,Tryz.ntmps68
 go_wp2
 go_ret2
 exact ⟨_,rfl,World.ownsRow_nil _ _ _ _,Below.refl _ _⟩
theorem words_short (s:ByteArray) (w:World) (h:s.size≤240):Calls Tryz.prog 68 #[.string s] w fun e w'=>∃ v,e=.returned (.tuple #[v,gG (lexT s).1])∧w'.ownsRow w.heap.size 9 1 v (lexT s).2.length ((lexT s).2.map Value.string)∧Below w.heap.size w w':=by
 obtain ⟨i0,hi,hz0,hz1,hz2⟩:=info_parts infoS;have hm:Hid (s.size≤maxLen):=by show s.size≤2 ^ 63 - 1;omega
 have hl:=left_start s h;generalize lexT s=T at hl;have HL:Hid (jL s 0 [] T):=hl;clear hl
 go_enter Tryz.func68,Tryz.ntmps68
 go_wp2_with fail
 go_loopw [4,5] (fun v i wr=>∃ (k:Nat) (ws:List ByteArray),k≤s.size∧i=.int .i64 k∧ws.length≤80∧Hid (wr.ownsRow w.heap.size 9 1 v ws.length (ws.map Value.string))∧Hid (Below w.heap.size w wr)∧Hid (jL s k ws T)) (fun _ i _=>s.size - (intOf i).toNat)
 case atStart=>exact ⟨0,[],Nat.zero_le _,rfl,by simp,World.ownsRow_nil _ _ _ _,Below.refl _ _,HL⟩
 case round =>
  clear HL;obtain ⟨k,ws,hk,rfl,hn,HO,HB,HL⟩:=hrel;obtain ⟨ao,cap,rfl⟩:=owns_shape HO.out
  by_cases hlt:k < s.size
  ·by_cases hb:bt s k=32
   ·have L:=left_blank HL.out hlt hb;have L:=pE L;have hb2:((s[k].toNat:Int) == 32)=true:=by rw [gw s k hlt,hb];rfl
    clear hb;go_wp2_with fail;go_roundw
    case rel=>exact ⟨k+1,ws,by omega,by go_num,hn,HO,HB,L⟩
    case measure=>simp [intOf];omega
   ·have hb2:((s[k].toNat:Int) == 32)=false:=by rw [gw s k hlt];simpa using hb
    have HN:=pE hb;clear hb;have hwl:=qn s k hlt
    by_cases hw:wl s k=0
    ·have e:=left_none HL.out hlt HN.out hw;subst e;have hw2:(((wl s k:Nat):Int) == 0)=true:=by simp [hw]
     clear hw
     go_wp2_with (go_at_call 106;refine (jq s k _ hlt hm.out).mono ?_;rintro e w' ⟨rfl,rfl⟩)
     go_ret2
     exact ⟨_,rfl,World.ownsRow_nil _ _ _ _,HB.out⟩
    ·have hw2:(((wl s k:Nat):Int) == 0)=false:=by simp;omega
     have HW:=pE hw;clear hw
     by_cases hc:ws.length=80
     ·have e:=left_many HL.out hlt HN.out HW.out hc;subst e;have hc2:(((ws.length:Nat):Int) == 80)=true:=by simp [hc]
      clear hc
      go_wp2_with (go_at_call 106;refine (jq s k _ hlt hm.out).mono ?_;rintro e w' ⟨rfl,rfl⟩)
      go_ret2
      exact ⟨_,rfl,World.ownsRow_nil _ _ _ _,HB.out⟩
     ·have L:=pE (left_word HL.out hlt HN.out HW.out hc);have hc2:(((ws.length:Nat):Int) == 80)=false:=by simp;omega
      have hc3:ws.length+1≤80:=by omega
      clear hc
      go_wp2_with (first | (go_at_call 106;refine (jq s k _ hlt hm.out).mono ?_;rintro e w' ⟨rfl,rfl⟩) | (at_builtin;go_must (refine wpList_append_own _ rfl (.tmp 32) (.tmp 39) 128 rfl w.heap.size 9 i0 (.string ⟨#[]⟩) 1 16 Tryz.underlying128 hi hz0 hz1 hz2 rfl (by decide) _ _ _ rfl (HO.out.alloc _) ⟨w'.heap.size,0,none⟩ 1 1 [.string (s.extract k (k+wl s k))] rfl rfl (cell_one_new _ _ _) (by intro u hu;simp at hu;subst hu;rfl) (by show _≤2 ^ 63 - 1;omega) (by omega) (by have:=HB.out.size;simp;omega) ?_)))
      intro v' w1 ho' hg _;have R:=own_word HB.out HO.out ho' hg;have R:=pE R;clear ho' hg;go_wp2_with fail;go_roundw
      case rel=>exact ⟨k+wl s k,_,by omega,by go_num,by simpa using hc3,R.out.1,R.out.2,L⟩
      case measure=>simp [intOf];have:=HW.out;omega
  ·have e:=left_end HL.out (by omega);subst e;have hge:¬ ((k:Int) < (s.size:Int)):=by omega
   go_wp2_with fail
   go_ret2
   exact ⟨_,rfl,HO.out,HB.out⟩
theorem lZ (s:ByteArray) (w:World):Calls Tryz.prog 68 #[.string s] w fun e w'=>∃ v,e=.returned (.tuple #[v,gG (lexT s).1])∧w'.ownsRow w.heap.size 9 1 v (lexT s).2.length ((lexT s).2.map Value.string)∧Below w.heap.size w w':=by
 by_cases h:s.size≤240
 ·exact words_short s w h
 ·exact words_long s w (by omega)
end Go.Proofs.YtcgjflamgnjhcaaGreatDoor
namespace Go.Proofs.YtcgjflamgnjhcaaGreatDoor
theorem wq_let (s:ByteArray) (k:Nat) (h:db (bt s k)=true):wl s k=run db s k:=by unfold wl;rw [if_pos h]
theorem wq_dig (s:ByteArray) (k:Nat) (h0:db (bt s k)=false) (h:dh (bt s k)=true):wl s k=run dh s k:=by unfold wl;rw [h0,if_neg (by simp),if_pos h]
theorem wq_else (s:ByteArray) (k:Nat) (h0:db (bt s k)=false) (h:dh (bt s k)=false):wl s k=if k+1 < s.size∧hZ (bt s k) (bt s (k+1))=true then 2 else if iV (bt s k) then 1 else 0:=by
 unfold wl;rw [h0,h,if_neg (by simp),if_neg (by simp)]
def wordy (l:List UInt8):Prop :=
 l≠[]∧((∀ c∈l,db (c.toNat:Int)=true)∨(∀ c∈l,dh (c.toNat:Int)=true)∨(∃ a b,l=[a,b]∧hZ (a.toNat:Int) (b.toNat:Int)=true)∨(∃ a,l=[a]∧iV (a.toNat:Int)=true))
theorem kT (p:Int→Bool) (s:ByteArray):∀ f a j,j < nQ p s f a→p (bt s (a+j))=true
 | 0,a,j,h=>absurd h (by unfold nQ;omega)
 | f+1,a,j,h=>by
  unfold nQ at h
  split at h
  ·rename_i q;cases j with
   | zero=>exact q.2
   | succ j =>
    have:=kT p s f (a+1) j (by omega)
    rwa [show a+1+j=a+(j+1) by omega] at this
  ·omega
theorem kD (s:ByteArray) (a n j:Nat) (h:a+n≤s.size) (hj:j < ((s.data.toList.drop a).take n).length):((((s.data.toList.drop a).take n)[j]).toNat:Int)=bt s (a+j):=by
 unfold bt;rw [Lib.size_eq] at h;generalize s.data.toList=l at *;have hl:a+j < l.length:=by
  rw [List.length_take,List.length_drop] at hj;omega
 simp [List.getD,hl]
theorem wordy_of (s:ByteArray) (a:Nat) (h:a < s.size) (hw:wl s a≠0):wordy (s.extract a (a+wl s a)).data.toList:=by
 have hle:=qn s a h;rw [Lib.extract_data,show a+wl s a - a=wl s a by omega];have hlen:((s.data.toList.drop a).take (wl s a)).length=wl s a:=by
  have:=Lib.size_eq s
  simp at this ⊢;omega
 refine ⟨fun e=>hw (by rw [← hlen,e];rfl),?_⟩;have all:∀ p:Int→Bool,(∀ j,j < wl s a→p (bt s (a+j))=true)→∀ c∈(s.data.toList.drop a).take (wl s a),p (c.toNat:Int)=true:=by
  intro p hp c hc;obtain ⟨j,hj,rfl⟩:=List.mem_iff_getElem.1 hc;rw [kD s a (wl s a) j hle hj];exact hp j (by omega)
 cases hL:db (bt s a)
 ·cases hD:dh (bt s a)
  ·have e:=wq_else s a hL hD
   by_cases h2:a+1 < s.size∧hZ (bt s a) (bt s (a+1))=true
   ·rw [if_pos h2] at e;rw [e] at hlen hle ⊢
    match hl:(s.data.toList.drop a).take 2,hlen with
    | [x,y],_ =>
     have g0:=kD s a 2 0 hle (by rw [hl];simp);have g1:=kD s a 2 1 hle (by rw [hl];simp);simp only [hl] at g0 g1;simp at g0 g1;exact .inr (.inr (.inl ⟨x,y,rfl,by rw [g0,g1];exact h2.2⟩))
   ·rw [if_neg h2] at e;cases hS:iV (bt s a)
    ·rw [hS] at e;exact absurd e hw
    ·rw [hS,if_pos rfl] at e;rw [e] at hlen hle ⊢
     match hl:(s.data.toList.drop a).take 1,hlen with
     | [x],_ =>
      have g0:=kD s a 1 0 hle (by rw [hl];simp);simp only [hl] at g0;simp at g0;exact .inr (.inr (.inr ⟨x,rfl,by rw [g0];exact hS⟩))
  ·refine .inr (.inl (all dh fun j hj=>?_));rw [wq_dig s a hL hD] at hj;exact kT dh s _ a j hj
 ·refine .inl (all db fun j hj=>?_);rw [wq_let s a hL] at hj;exact kT db s _ a j hj
theorem ia (s:ByteArray):∀ f a ws,(∀ x∈ws,wordy x.data.toList)→ws.length≤80→∀ x∈(mj s f a ws).2,wordy x.data.toList
 | 0,_,ws,h,_=>h
 | f+1,a,ws,h,hn=>by
  unfold mj
  by_cases h1:a < s.size
  ·rw [if_pos h1]
   by_cases h2:bt s a=32
   ·rw [if_pos h2];exact ia s f _ _ h hn
   ·rw [if_neg h2]
    by_cases h3:wl s a=0
    ·rw [if_pos h3];intro x hx;simp at hx
    ·rw [if_neg h3]
     by_cases h4:ws.length=80
     ·rw [if_pos h4];intro x hx;simp at hx
     ·rw [if_neg h4];refine ia s f _ _ ?_ (by simp;omega);intro x hx
      rcases List.mem_append.1 hx with hx | hx
      ·exact h x hx
      ·simp at hx;subst hx;exact wordy_of s a h1 h3
  ·rw [if_neg h1];exact h
theorem kH (s:ByteArray):∀ f a ws,ws.length≤80→(mj s f a ws).2.length≤80
 | 0,_,ws,hn=>hn
 | f+1,a,ws,hn=>by
  unfold mj
  repeat' split
  all_goals first | exact kH s f _ _ hn | (refine kH s f _ _ ?_;simp;omega) | exact hn | simp
theorem lexT_wordy (s:ByteArray):∀ x∈(lexT s).2,wordy x.data.toList:=by
 unfold lexT
 split
 ·exact ia s _ _ _ (fun x hx=>by simp at hx) (by simp)
 ·intro x hx;simp at hx
theorem lexT_few (s:ByteArray):(lexT s).2.length≤80:=by
 unfold lexT
 split
 ·exact kH s _ _ _ (by simp)
 ·simp
theorem gW (s:ByteArray):∀ f a ws,(∀ x∈ws,x.size≤s.size)→∀ x∈(mj s f a ws).2,x.size≤s.size
 | 0,_,ws,h=>h
 | f+1,a,ws,h=>by
  unfold mj
  by_cases h1:a < s.size
  ·rw [if_pos h1]
   by_cases h2:bt s a=32
   ·rw [if_pos h2];exact gW s f _ _ h
   ·rw [if_neg h2]
    by_cases h3:wl s a=0
    ·rw [if_pos h3];intro x hx;simp at hx
    ·rw [if_neg h3]
     by_cases h4:ws.length=80
     ·rw [if_pos h4];intro x hx;simp at hx
     ·rw [if_neg h4];refine gW s f _ _ ?_;intro x hx
      rcases List.mem_append.1 hx with hx | hx
      ·exact h x hx
      ·simp at hx;subst hx
       have:=qn s a h1
       rw [Lib.size_eq,Lib.extract_data,List.length_take,List.length_drop,← Lib.size_eq];omega
  ·rw [if_neg h1];exact h
theorem lexT_small (s:ByteArray):∀ x∈(lexT s).2,x.size≤s.size:=by
 unfold lexT
 split
 ·exact gW s _ _ _ (fun x hx=>by simp at hx)
 ·intro x hx;simp at hx
end Go.Proofs.YtcgjflamgnjhcaaGreatDoor
