/- Own texts in one. Conditions: as named in each. -/
import Derived.WalkKit
import Derived.Lib.Strings
import Derived.Lib.IndexBytes
import Derived.Test.YtcgjflamgnjhcaaGreatDoorRows
import Derived.Test.YtcgjflamgnjhcaaGreatDoorKinJ
import Derived.ProofKit
import Derived.OwnWalk
import Derived.Outline
import Derived.WalkSpells
import Derived.Lib.Bytealg
import Derived.Deep.DeepMust
import Derived.Test.YtcgjflamgnjhcaaGreatDoorExprPureJ
set_option linter.unusedVariables false
set_option linter.unusedSimpArgs false
set_option maxRecDepth 100000
set_option maxHeartbeats 8000000
namespace Go.Proofs.YtcgjflamgnjhcaaGreatDoor
def bt (s:ByteArray) (k:Nat):Int:=((s.data.toList.getD k 0).toNat:Int)
def d8 (c:Int):Bool:=decide (97≤c∧c≤122)
def dc (c:Int):Bool:=decide (48≤c∧c≤57)
def iX (c:Int):Bool:=c == 40 || c == 41 || c == 44 || c == 42 || c == 43 || c == 45 || c == 60 || c == 62 || c == 61
def gS (a b:Int):Bool:=(a == 60 && b == 61) || (a == 62 && b == 61) || (a == 60 && b == 62)
def nL (p:Int→Bool) (s:ByteArray):Nat→Nat→Nat
 | 0,_=>0
 | f+1,at_=>if at_ < s.size∧p (bt s at_)=true then nL p s f (at_+1)+1 else 0
def run (p:Int→Bool) (s:ByteArray) (at_:Nat):Nat:=nL p s (s.size - at_) at_
theorem oq (p:Int→Bool) (s:ByteArray):∀ f a,nL p s f a≤f
 | 0,_=>Nat.le_refl _
 | f+1,a=>by
  unfold nL
  have:=oq p s f (a+1)
  split <;> omega
theorem pJ (p:Int→Bool) (s:ByteArray) (a:Nat):run p s a≤s.size - a:=oq p s _ _
theorem oG (p:Int→Bool) (s:ByteArray):∀ f a n,s.size - a≤f→a≤n→n≤s.size→(∀ j,a≤j→j < n→p (bt s j)=true)→(n=s.size∨p (bt s n)=false)→nL p s f a=n - a
 | 0,a,n,hf,h1,h2,_,_=>by unfold nL;omega
 | f+1,a,n,hf,h1,h2,h3,h4=>by
  unfold nL
  by_cases h:a=n
  ·subst h;rw [if_neg]
   ·omega
   ·rintro ⟨q1,q2⟩
    rcases h4 with h4 | h4
    ·omega
    ·rw [h4] at q2;cases q2
  ·rw [if_pos ⟨by omega,h3 a (Nat.le_refl _) (by omega)⟩,oG p s f (a+1) n (by omega) (by omega) h2 (fun j q1 q2=>h3 j (by omega) q2) h4];omega
theorem nH (p:Int→Bool) (s:ByteArray) (a n:Nat) (h1:a≤n) (h2:n≤s.size) (h3:∀ j,a≤j→j < n→p (bt s j)=true) (h4:n=s.size∨p (bt s n)=false):run p s a=n - a :=
 oG p s _ a n (Nat.le_refl _) h1 h2 h3 h4
def wl (s:ByteArray) (a:Nat):Nat :=
 if d8 (bt s a) then run d8 s a else if dc (bt s a) then run dc s a else
 if a+1 < s.size∧gS (bt s a) (bt s (a+1))=true then 2 else if iX (bt s a) then 1 else 0
theorem qk (s:ByteArray) (a:Nat) (h:a < s.size):a+wl s a≤s.size:=by
 unfold wl
 split
 ·have:=pJ d8 s a;omega
 ·split
  ·have:=pJ dc s a;omega
  ·split
   ·omega
   ·split <;> omega
def mc (s:ByteArray):Nat→Nat→List ByteArray→Int×List ByteArray
 | 0,_,ws=>(0,ws)
 | f+1,a,ws =>
  if a < s.size then
   if bt s a=32 then mc s f (a+1) ws else
   if wl s a=0 then (4,[]) else if ws.length=80 then (2,[]) else mc s f (a+wl s a) (ws++[s.extract a (a+wl s a)])
  else (0,ws)
def jG (s:ByteArray) (a:Nat) (ws:List ByteArray) (T:Int×List ByteArray):Prop:=∃ f,s.size - a≤f∧mc s f a ws=T
def lexT (s:ByteArray):Int×List ByteArray:=if s.size≤240 then mc s s.size 0 [] else (2,[])
theorem left_start (s:ByteArray) (h:s.size≤240):jG s 0 [] (lexT s):=⟨s.size,by omega,by unfold lexT;rw [if_pos h]⟩
theorem left_end {s:ByteArray} {a:Nat} {ws:List ByteArray} {T:Int×List ByteArray} (h:jG s a ws T) (ha:s.size≤a):T=(0,ws):=by
 obtain ⟨f,hf,rfl⟩:=h;cases f with
 | zero=>rfl
 | succ f=>unfold mc;rw [if_neg (by omega)]
theorem left_blank {s:ByteArray} {a:Nat} {ws:List ByteArray} {T:Int×List ByteArray} (h:jG s a ws T) (ha:a < s.size) (hb:bt s a=32):jG s (a+1) ws T:=by
 obtain ⟨f,hf,rfl⟩:=h;cases f with
 | zero=>omega
 | succ f=>exact ⟨f,by omega,by conv=>rhs;unfold mc;rw [if_pos ha,if_pos hb]⟩
theorem left_none {s:ByteArray} {a:Nat} {ws:List ByteArray} {T:Int×List ByteArray} (h:jG s a ws T) (ha:a < s.size) (hb:bt s a≠32) (hw:wl s a=0):T=(4,[]):=by
 obtain ⟨f,hf,rfl⟩:=h;cases f with
 | zero=>omega
 | succ f=>unfold mc;rw [if_pos ha,if_neg hb,if_pos hw]
theorem left_many {s:ByteArray} {a:Nat} {ws:List ByteArray} {T:Int×List ByteArray} (h:jG s a ws T) (ha:a < s.size) (hb:bt s a≠32) (hw:wl s a≠0) (hn:ws.length=80):T=(2,[]):=by
 obtain ⟨f,hf,rfl⟩:=h;cases f with
 | zero=>omega
 | succ f=>unfold mc;rw [if_pos ha,if_neg hb,if_neg hw,if_pos hn]
theorem left_word {s:ByteArray} {a:Nat} {ws:List ByteArray} {T:Int×List ByteArray} (h:jG s a ws T) (ha:a < s.size) (hb:bt s a≠32) (hw:wl s a≠0) (hn:ws.length≠80) :
  jG s (a+wl s a) (ws++[s.extract a (a+wl s a)]) T:=by
 obtain ⟨f,hf,rfl⟩:=h;cases f with
 | zero=>omega
 | succ f=>exact ⟨f,by omega,by conv=>rhs;unfold mc;rw [if_pos ha,if_neg hb,if_neg hw,if_neg hn]⟩
end Go.Proofs.YtcgjflamgnjhcaaGreatDoor
namespace Go.Proofs.YtcgjflamgnjhcaaGreatDoor
open Go.RowKit
theorem pB {k:IntKind} {a b:Int} (h:a=b):Ending.returned (.int k a)=.returned (.int k b):=by rw [h]
theorem fG (c:Int) (w:World):Calls Tryz.prog 142 #[.int .u8 c] w fun e w'=>e=.returned (.bool (d8 c))∧w'=w:=by
 by_cases h1:97≤c
 ·by_cases h2:c≤122
  ·have e:d8 c=true:=decide_eq_true ⟨h1,h2⟩;rw [e];clear e
   go_enter Tryz.func142,Tryz.ntmps142
   go_wp2
   go_ret
   exact ⟨rfl,rfl⟩
  ·have e:d8 c=false:=decide_eq_false (by omega);have hd:decide (c≤122)=false:=decide_eq_false h2;rw [e];clear e
   go_enter Tryz.func142,Tryz.ntmps142
   go_wp2
   go_ret
   exact ⟨rfl,rfl⟩
 ·have e:d8 c=false:=decide_eq_false (by omega);have hd:decide (97≤c)=false:=decide_eq_false h1;rw [e];clear e
  go_enter Tryz.func142,Tryz.ntmps142
  go_wp2
  go_ret
  exact ⟨rfl,rfl⟩
theorem jt (c:Int) (w:World):Calls Tryz.prog 144 #[.int .u8 c] w fun e w'=>e=.returned (.bool (dc c))∧w'=w:=by
 by_cases h1:48≤c
 ·by_cases h2:c≤57
  ·have e:dc c=true:=decide_eq_true ⟨h1,h2⟩;rw [e];clear e
   go_enter Tryz.func144,Tryz.ntmps144
   go_wp2
   go_ret
   exact ⟨rfl,rfl⟩
  ·have e:dc c=false:=decide_eq_false (by omega);have hd:decide (c≤57)=false:=decide_eq_false h2;rw [e];clear e
   go_enter Tryz.func144,Tryz.ntmps144
   go_wp2
   go_ret
   exact ⟨rfl,rfl⟩
 ·have e:dc c=false:=decide_eq_false (by omega);have hd:decide (48≤c)=false:=decide_eq_false h1;rw [e];clear e
  go_enter Tryz.func144,Tryz.ntmps144
  go_wp2
  go_ret
  exact ⟨rfl,rfl⟩
theorem gJ (s:ByteArray) (k:Nat) (h:k < s.size):(s[k].toNat:Int)=bt s k:=by
 unfold bt;have h2:k < s.data.toList.length:=by simpa using h
 simp only [List.getD,List.getElem?_eq_getElem h2,Option.getD_some]
 rfl
theorem runLet (s:ByteArray) (w:World) (hs:s.size≤maxLen) :
  Calls Tryz.prog 143 #[.string s,.func (Fn.func 142) #[] #[]] w fun e w'=>e=.returned (.int .i64 (run d8 s 0))∧w'=w:=by
 unfold maxLen at hs;generalize hr:((run d8 s 0:Nat):Int)=r;have HR:Hid (((run d8 s 0:Nat):Int)=r):=hr;clear hr
 go_enter Tryz.func143,Tryz.ntmps143
 go_wp2_with fail
 go_loop [5] (fun i=>∃ k:Nat,k≤s.size∧i=.int .i64 k∧Hid (∀ j,j < k→d8 (bt s j)=true)) (fun i=>s.size - (intOf i).toNat)
 case atStart=>exact ⟨0,Nat.zero_le _,rfl,fun j hj=>absurd hj (by omega)⟩
 case round =>
  obtain ⟨k,hk,rfl,HA⟩:=hrel
  by_cases hlt:k < s.size
  ·go_wp2_with (go_at_call 142;refine (fG _ _).mono ?_;rintro e w' ⟨rfl,rfl⟩)
   ·have q:d8 (s[k].toNat:Int)=true:=by assumption
    rw [gJ s k hlt] at q
    go_round
    case rel=>exact ⟨k+1,by omega,by go_num,fun j hj=>by
     by_cases hjk:j=k
     ·subst hjk;exact q
     ·exact HA.out j (by omega)⟩
    case measure=>simp [intOf];omega
   ·have q:d8 (s[k].toNat:Int)=false:=by assumption
    rw [gJ s k hlt] at q;have e:run d8 s 0=k:=by rw [nH d8 s 0 k (by omega) (by omega) (fun j _ hj=>HA.out j hj) (.inr q)];omega
    go_ret
    exact ⟨pB (by rw [← HR.out,e]),rfl⟩
  ·have e:run d8 s 0=k:=by rw [nH d8 s 0 k (by omega) (by omega) (fun j _ hj=>HA.out j hj) (.inl (by omega))];omega
   have E:Hid (run d8 s 0=k):=e;clear e;go_wp2_with fail
   go_ret
   exact ⟨pB (by rw [← HR.out,E.out]),rfl⟩
theorem runDig (s:ByteArray) (w:World) (hs:s.size≤maxLen) :
  Calls Tryz.prog 143 #[.string s,.func (Fn.func 144) #[] #[]] w fun e w'=>e=.returned (.int .i64 (run dc s 0))∧w'=w:=by
 unfold maxLen at hs;generalize hr:((run dc s 0:Nat):Int)=r;have HR:Hid (((run dc s 0:Nat):Int)=r):=hr;clear hr
 go_enter Tryz.func143,Tryz.ntmps143
 go_wp2_with fail
 go_loop [5] (fun i=>∃ k:Nat,k≤s.size∧i=.int .i64 k∧Hid (∀ j,j < k→dc (bt s j)=true)) (fun i=>s.size - (intOf i).toNat)
 case atStart=>exact ⟨0,Nat.zero_le _,rfl,fun j hj=>absurd hj (by omega)⟩
 case round =>
  obtain ⟨k,hk,rfl,HA⟩:=hrel
  by_cases hlt:k < s.size
  ·go_wp2_with (go_at_call 144;refine (jt _ _).mono ?_;rintro e w' ⟨rfl,rfl⟩)
   ·have q:dc (s[k].toNat:Int)=true:=by assumption
    rw [gJ s k hlt] at q
    go_round
    case rel=>exact ⟨k+1,by omega,by go_num,fun j hj=>by
     by_cases hjk:j=k
     ·subst hjk;exact q
     ·exact HA.out j (by omega)⟩
    case measure=>simp [intOf];omega
   ·have q:dc (s[k].toNat:Int)=false:=by assumption
    rw [gJ s k hlt] at q;have e:run dc s 0=k:=by rw [nH dc s 0 k (by omega) (by omega) (fun j _ hj=>HA.out j hj) (.inr q)];omega
    go_ret
    exact ⟨pB (by rw [← HR.out,e]),rfl⟩
  ·have e:run dc s 0=k:=by rw [nH dc s 0 k (by omega) (by omega) (fun j _ hj=>HA.out j hj) (.inl (by omega))];omega
   have E:Hid (run dc s 0=k):=e;clear e;go_wp2_with fail
   go_ret
   exact ⟨pB (by rw [← HR.out,E.out]),rfl⟩
theorem idx_call (s:ByteArray) (c:Int) (w:World):(callFunc 189 #[.string s,.int .u8 c]).run Tryz.prog w=.ok (.value (.int .i64 (Lib.indexByte s.data.toList c.toNat.toUInt8))) w:=by
 rw [run_callFunc_extern Tryz.func189 (by kernel_rfl) (by kernel_rfl) (by kernel_rfl) (e:=Extern.BytealgIndexByte.indexByte) (by kernel_rfl),Lib.run_indexByteString]
 rfl
theorem od (c:Int) (h0:0≤c) (h1:c≤255):decide (0≤Lib.indexByte [40,41,44,42,43,45,60,62,61] c.toNat.toUInt8)=iX c:=by
 obtain ⟨n,rfl⟩:=Int.eq_ofNat_of_zero_le h0;have hn:n < 256:=by omega
 clear h0 h1
 revert n
 decide +kernel
theorem oX (c:Int) (w:World) (h0:0≤c) (h1:c≤255):Calls Tryz.prog 164 #[.string ⟨#[40,41,44,42,43,45,60,62,61]⟩,.int .u8 c] w fun e w'=>e=.returned (.int .i64 (Lib.indexByte [40,41,44,42,43,45,60,62,61] c.toNat.toUInt8))∧w'=w:=by
 have hd:=idx_call ⟨#[40,41,44,42,43,45,60,62,61]⟩ c w
 go_enter Tryz.func164,Tryz.ntmps164
 go_wp2
 go_ret
 exact ⟨rfl,rfl⟩
theorem u8_eq (a b:UInt8):(a == b)=((a.toNat:Int) == (b.toNat:Int)):=by
 rw [Bool.eq_iff_iff];simp only [beq_iff_eq]
 constructor
 ·rintro rfl;rfl
 ·intro h;exact UInt8.toNat_inj.1 (by omega)
theorem io (s:ByteArray) (a b:UInt8) (h:2≤s.size):((s.extract 0 2).toList == [a,b])=(bt s 0 == (a.toNat:Int) && bt s 1 == (b.toNat:Int)):=by
 have e:(s.extract 0 2).toList=s.data.toList.take 2:=by
  rw [ByteArray.toList_eq,Lib.extract_data];simp
 rw [e];unfold bt;have hl:2≤s.data.toList.length:=by simpa using h
 generalize s.data.toList=l at hl
 match l,hl with
 | x :: y :: r,_=>simp [u8_eq]
def sgl (s:ByteArray):Nat:=if 1 < s.size∧gS (bt s 0) (bt s 1)=true then 2 else if iX (bt s 0) then 1 else 0
theorem pD {p:Prop} (h:p):Hid p:=h
theorem bt_bd (s:ByteArray) (k:Nat):0≤bt s k∧bt s k≤255:=by
 unfold bt
 have:=(s.data.toList.getD k 0).toNat_lt
 omega
theorem ou (c:Int) (w:World) (h0:0≤c) (h1:c≤255) (h:iX c=true):Calls Tryz.prog 164 #[.string ⟨#[40,41,44,42,43,45,60,62,61]⟩,.int .u8 c] w fun e w'=>(∃ q,e=.returned (.int .i64 q)∧0≤q)∧w'=w :=
 (oX c w h0 h1).mono fun e w' ⟨he,hw⟩=>⟨⟨_,he,of_decide_eq_true ((od c h0 h1).trans h)⟩,hw⟩
theorem pF (c:Int) (w:World) (h0:0≤c) (h1:c≤255) (h:iX c=false):Calls Tryz.prog 164 #[.string ⟨#[40,41,44,42,43,45,60,62,61]⟩,.int .u8 c] w fun e w'=>(∃ q,e=.returned (.int .i64 q)∧q < 0)∧w'=w :=
 (oX c w h0 h1).mono fun e w' ⟨he,hw⟩=>⟨⟨_,he,by have:=of_decide_eq_false ((od c h0 h1).trans h);omega⟩,hw⟩
theorem signs_one (s:ByteArray) (w:World) (h0:0 < s.size) (h2:¬ (1 < s.size∧gS (bt s 0) (bt s 1)=true)) :
  Calls Tryz.prog 145 #[.string s] w fun e w'=>e=.returned (.int .i64 (sgl s))∧w'=w:=by
 have hb:=bt_bd s 0;have HC0:Hid (0≤(s[0].toNat:Int)):=by show 0≤_;omega
 have HC1:Hid ((s[0].toNat:Int)≤255):=by show _≤_;rw [gJ s 0 h0];exact hb.2
 clear hb;have hq:sgl s=if iX (bt s 0) then 1 else 0:=by
  unfold sgl;rw [if_neg h2]
 rw [← gJ s 0 h0] at hq;rw [hq];clear hq
 by_cases hs:2≤s.size
 ·have hn:gS (bt s 0) (bt s 1)=false:=by
   cases h:gS (bt s 0) (bt s 1)
   ·rfl
   ·exact absurd ⟨by omega,h⟩ h2
  unfold gS at hn;simp only [Bool.or_eq_false_iff] at hn;have t1:((s.extract 0 2).toList == [60,61])=false:=(io s 60 61 hs).trans hn.1.1;have t2:((s.extract 0 2).toList == [62,61])=false:=(io s 62 61 hs).trans hn.1.2;have t3:((s.extract 0 2).toList == [60,62])=false:=(io s 60 62 hs).trans hn.2;clear hn h2;have hs2:(2:Int)≤(s.size:Int):=by omega
  cases hg:iX (s[0].toNat:Int)
  ·have hg:=pD hg
   go_enter Tryz.func145,Tryz.ntmps145
   go_wp2_with (go_at_call 164;refine (pF _ _ HC0.out HC1.out hg.out).mono ?_;rintro e w' ⟨⟨q,rfl,hq0⟩,rfl⟩)
   go_ret
   exact ⟨rfl,rfl⟩
  ·have hg:=pD hg
   go_enter Tryz.func145,Tryz.ntmps145
   go_wp2_with (go_at_call 164;refine (ou _ _ HC0.out HC1.out hg.out).mono ?_;rintro e w' ⟨⟨q,rfl,hq0⟩,rfl⟩)
   go_ret
   exact ⟨rfl,rfl⟩
 ·have hs2:(s.size:Int) < 2:=by omega
  clear h2;cases hg:iX (s[0].toNat:Int)
  ·have hg:=pD hg
   go_enter Tryz.func145,Tryz.ntmps145
   go_wp2_with (go_at_call 164;refine (pF _ _ HC0.out HC1.out hg.out).mono ?_;rintro e w' ⟨⟨q,rfl,hq0⟩,rfl⟩)
   go_ret
   exact ⟨rfl,rfl⟩
  ·have hg:=pD hg
   go_enter Tryz.func145,Tryz.ntmps145
   go_wp2_with (go_at_call 164;refine (ou _ _ HC0.out HC1.out hg.out).mono ?_;rintro e w' ⟨⟨q,rfl,hq0⟩,rfl⟩)
   go_ret
   exact ⟨rfl,rfl⟩
theorem signs_two (s:ByteArray) (w:World) (h1:1 < s.size) (h2:gS (bt s 0) (bt s 1)=true) :
  Calls Tryz.prog 145 #[.string s] w fun e w'=>e=.returned (.int .i64 2)∧w'=w:=by
 have hs2:(2:Int)≤(s.size:Int):=by omega
 unfold gS at h2;cases q1:(bt s 0 == 60 && bt s 1 == 61)
 ·have t1:((s.extract 0 2).toList == [60,61])=false:=(io s 60 61 h1).trans q1;cases q2:(bt s 0 == 62 && bt s 1 == 61)
  ·have t2:((s.extract 0 2).toList == [62,61])=false:=(io s 62 61 h1).trans q2;have q3:(bt s 0 == 60 && bt s 1 == 62)=true:=by rw [q1,q2] at h2;simpa using h2
   have t3:((s.extract 0 2).toList == [60,62])=true:=(io s 60 62 h1).trans q3;clear q1 q2 q3 h2
   go_enter Tryz.func145,Tryz.ntmps145
   go_wp2_with fail
   go_ret
   exact ⟨rfl,rfl⟩
  ·have t2:((s.extract 0 2).toList == [62,61])=true:=(io s 62 61 h1).trans q2;clear q1 q2 h2
   go_enter Tryz.func145,Tryz.ntmps145
   go_wp2_with fail
   go_ret
   exact ⟨rfl,rfl⟩
 ·have t1:((s.extract 0 2).toList == [60,61])=true:=(io s 60 61 h1).trans q1;clear q1 h2
  go_enter Tryz.func145,Tryz.ntmps145
  go_wp2_with fail
  go_ret
  exact ⟨rfl,rfl⟩
theorem signs (s:ByteArray) (w:World) (h0:0 < s.size) :
  Calls Tryz.prog 145 #[.string s] w fun e w'=>e=.returned (.int .i64 (sgl s))∧w'=w:=by
 by_cases h:1 < s.size∧gS (bt s 0) (bt s 1)=true
 ·have e:sgl s=2:=by unfold sgl;rw [if_pos h]
  rw [e];exact signs_two s w h.1 h.2
 ·exact signs_one s w h0 h
theorem wordLen (s:ByteArray) (w:World) (h0:0 < s.size) (hs:s.size≤maxLen):Calls Tryz.prog 106 #[.string s] w fun e w'=>e=.returned (.int .i64 (wl s 0))∧w'=w:=by
 have eq:wl s 0=if d8 (bt s 0) then run d8 s 0 else if dc (bt s 0) then run dc s 0 else sgl s:=by
  unfold wl sgl;simp only [Nat.zero_add]
 have hbt:=gJ s 0 h0;rw [eq];rw [← hbt];clear eq hbt;have HS:Hid (s.size≤maxLen):=hs;clear hs;cases h1:d8 (s[0].toNat:Int)
 ·cases h2:dc (s[0].toNat:Int)
  ·go_enter Tryz.func106,Tryz.ntmps106
   go_wp2_with (first | (go_at_call 142;refine (fG _ _).mono ?_;rintro e w' ⟨rfl,rfl⟩) | (go_at_call 144;refine (jt _ _).mono ?_;rintro e w' ⟨rfl,rfl⟩) | (go_at_call 145;refine (signs _ _ h0).mono ?_;rintro e w' ⟨rfl,rfl⟩))
   go_ret
   exact ⟨rfl,rfl⟩
  ·go_enter Tryz.func106,Tryz.ntmps106
   go_wp2_with (first | (go_at_call 142;refine (fG _ _).mono ?_;rintro e w' ⟨rfl,rfl⟩) | (go_at_call 144;refine (jt _ _).mono ?_;rintro e w' ⟨rfl,rfl⟩) | (go_at_call 143;refine (runDig _ _ HS.out).mono ?_;rintro e w' ⟨rfl,rfl⟩))
   go_ret
   exact ⟨rfl,rfl⟩
 ·go_enter Tryz.func106,Tryz.ntmps106
  go_wp2_with (first | (go_at_call 142;refine (fG _ _).mono ?_;rintro e w' ⟨rfl,rfl⟩) | (go_at_call 143;refine (runLet _ _ HS.out).mono ?_;rintro e w' ⟨rfl,rfl⟩))
  go_ret
  exact ⟨rfl,rfl⟩
theorem iL (s:ByteArray) (a:Nat) (h:a≤s.size):(s.extract a s.size).size=s.size - a:=by
 rw [Lib.size_eq,Lib.extract_to_end,List.length_drop,← Lib.size_eq]
theorem pd (s:ByteArray) (a j:Nat):bt (s.extract a s.size) j=bt s (a+j):=by
 unfold bt;rw [Lib.extract_to_end]
 simp [List.getD]
theorem kt (p:Int→Bool) (s:ByteArray) (a:Nat) (h:a≤s.size):∀ f j,nL p (s.extract a s.size) f j=nL p s f (a+j)
 | 0,_=>rfl
 | f+1,j=>by
  unfold nL;rw [kt p s a h f (j+1),iL s a h,pd,Nat.add_assoc]
  by_cases h1:j < s.size - a∧p (bt s (a+j))=true
  ·rw [if_pos h1,if_pos ⟨by omega,h1.2⟩]
  ·rw [if_neg h1,if_neg (fun q=>h1 ⟨by omega,q.2⟩)]
theorem wl_ext (s:ByteArray) (a:Nat) (h:a≤s.size):wl (s.extract a s.size) 0=wl s a:=by
 unfold wl run;rw [kt _ _ _ h,kt _ _ _ h,iL s a h,pd,pd];simp only [Nat.sub_zero,Nat.add_zero,Nat.zero_add];have e:(1 < s.size - a)=(a+1 < s.size):=propext ⟨fun _=>by omega,fun _=>by omega⟩;simp only [e]
theorem jz (s:ByteArray) (k:Nat) (w:World) (h:k < s.size) (hs:s.size≤maxLen):Calls Tryz.prog 106 #[.string (s.extract k s.size)] w fun e w'=>e=.returned (.int .i64 (wl s k))∧w'=w:=by
 rw [← wl_ext s k (by omega)];exact wordLen _ w (by rw [iL s k (by omega)];omega) (by rw [iL s k (by omega)];omega)
theorem infoS:(Tryz.prog.info? 9).map (fun i=>(i.zero,i.size,i.bytes))=some (some (.string ⟨#[]⟩),1,16):=by kernel_rfl
theorem owns_shape {w:World} {base:Nat} {e:TypeId} {size:Nat} {v:Value} {n:Nat} {xs:List Value} (h:w.ownsRow base e size v n xs):∃ ao cap,v=.slice ao n cap:=by
 rcases h.2 with ⟨rfl,rfl⟩ | ⟨g,cap,cur,rfl,_⟩
 ·exact ⟨none,0,rfl⟩
 ·exact ⟨_,cap,rfl⟩
theorem own_word {w0 wr w1:World} {v v':Value} {ws:List ByteArray} {x:ByteArray} {o:Obj} (hb:Below w0.heap.size w0 wr) (ho:wr.ownsRow w0.heap.size 9 1 v ws.length (ws.map Value.string))
  (ho':w1.ownsRow w0.heap.size 9 1 v' (ws.length+1) (ws.map Value.string++[.string x])) (hg:(wr.alloc o).grownBy w1 v.ownBlock) :
  w1.ownsRow w0.heap.size 9 1 v' (ws++[x]).length ((ws++[x]).map Value.string)∧Below w0.heap.size w0 w1:=by
 refine ⟨by simpa using ho',?_⟩;exact (hb.alloc hb.size o).grown hg (by have:=hb.size;simp;omega) (fun k hk=>(ho.lt k hk).1)
theorem words_long (s:ByteArray) (w:World) (h:240 < s.size):Calls Tryz.prog 68 #[.string s] w fun e w'=>∃ v,e=.returned (.tuple #[v,ik (lexT s).1])∧w'.ownsRow w.heap.size 9 1 v (lexT s).2.length ((lexT s).2.map Value.string)∧Below w.heap.size w w':=by
 have e:lexT s=(2,[]):=by unfold lexT;rw [if_neg (by omega)]
 rw [e]
 go_enter Tryz.func68,Tryz.ntmps68
 go_wp2
 go_ret2
 exact ⟨_,rfl,World.ownsRow_nil _ _ _ _,Below.refl _ _⟩
theorem words_short (s:ByteArray) (w:World) (h:s.size≤240):Calls Tryz.prog 68 #[.string s] w fun e w'=>∃ v,e=.returned (.tuple #[v,ik (lexT s).1])∧w'.ownsRow w.heap.size 9 1 v (lexT s).2.length ((lexT s).2.map Value.string)∧Below w.heap.size w w':=by
 obtain ⟨i0,hi,hz0,hz1,hz2⟩:=info_parts infoS;have hm:Hid (s.size≤maxLen):=by show s.size≤2 ^ 63 - 1;omega
 have hl:=left_start s h;generalize lexT s=T at hl;have HL:Hid (jG s 0 [] T):=hl;clear hl
 go_enter Tryz.func68,Tryz.ntmps68
 go_wp2_with fail
 go_loopw [4,5] (fun v i wr=>∃ (k:Nat) (ws:List ByteArray),k≤s.size∧i=.int .i64 k∧ws.length≤80∧Hid (wr.ownsRow w.heap.size 9 1 v ws.length (ws.map Value.string))∧Hid (Below w.heap.size w wr)∧Hid (jG s k ws T)) (fun _ i _=>s.size - (intOf i).toNat)
 case atStart=>exact ⟨0,[],Nat.zero_le _,rfl,by simp,World.ownsRow_nil _ _ _ _,Below.refl _ _,HL⟩
 case round =>
  clear HL;obtain ⟨k,ws,hk,rfl,hn,HO,HB,HL⟩:=hrel;obtain ⟨ao,cap,rfl⟩:=owns_shape HO.out
  by_cases hlt:k < s.size
  ·by_cases hb:bt s k=32
   ·have L:=left_blank HL.out hlt hb;have L:=pD L;have hb2:((s[k].toNat:Int) == 32)=true:=by rw [gJ s k hlt,hb];rfl
    clear hb;go_wp2_with fail;go_roundw
    case rel=>exact ⟨k+1,ws,by omega,by go_num,hn,HO,HB,L⟩
    case measure=>simp [intOf];omega
   ·have hb2:((s[k].toNat:Int) == 32)=false:=by rw [gJ s k hlt];simpa using hb
    have HN:=pD hb;clear hb;have hwl:=qk s k hlt
    by_cases hw:wl s k=0
    ·have e:=left_none HL.out hlt HN.out hw;subst e;have hw2:(((wl s k:Nat):Int) == 0)=true:=by simp [hw]
     clear hw
     go_wp2_with (go_at_call 106;refine (jz s k _ hlt hm.out).mono ?_;rintro e w' ⟨rfl,rfl⟩)
     go_ret2
     exact ⟨_,rfl,World.ownsRow_nil _ _ _ _,HB.out⟩
    ·have hw2:(((wl s k:Nat):Int) == 0)=false:=by simp;omega
     have HW:=pD hw;clear hw
     by_cases hc:ws.length=80
     ·have e:=left_many HL.out hlt HN.out HW.out hc;subst e;have hc2:(((ws.length:Nat):Int) == 80)=true:=by simp [hc]
      clear hc
      go_wp2_with (go_at_call 106;refine (jz s k _ hlt hm.out).mono ?_;rintro e w' ⟨rfl,rfl⟩)
      go_ret2
      exact ⟨_,rfl,World.ownsRow_nil _ _ _ _,HB.out⟩
     ·have L:=pD (left_word HL.out hlt HN.out HW.out hc);have hc2:(((ws.length:Nat):Int) == 80)=false:=by simp;omega
      have hc3:ws.length+1≤80:=by omega
      clear hc
      go_wp2_with (first | (go_at_call 106;refine (jz s k _ hlt hm.out).mono ?_;rintro e w' ⟨rfl,rfl⟩) | (at_builtin;go_must (refine wpList_append_own _ rfl (.tmp 32) (.tmp 39) 128 rfl w.heap.size 9 i0 (.string ⟨#[]⟩) 1 16 Tryz.underlying128 hi hz0 hz1 hz2 rfl (by decide) _ _ _ rfl (HO.out.alloc _) ⟨w'.heap.size,0,none⟩ 1 1 [.string (s.extract k (k+wl s k))] rfl rfl (cell_one_new _ _ _) (by intro u hu;simp at hu;subst hu;rfl) (by show _≤2 ^ 63 - 1;omega) (by omega) (by have:=HB.out.size;simp;omega) ?_)))
      intro v' w1 ho' hg _;have R:=own_word HB.out HO.out ho' hg;have R:=pD R;clear ho' hg;go_wp2_with fail;go_roundw
      case rel=>exact ⟨k+wl s k,_,by omega,by go_num,by simpa using hc3,R.out.1,R.out.2,L⟩
      case measure=>simp [intOf];have:=HW.out;omega
  ·have e:=left_end HL.out (by omega);subst e;have hge:¬ ((k:Int) < (s.size:Int)):=by omega
   go_wp2_with fail
   go_ret2
   exact ⟨_,rfl,HO.out,HB.out⟩
theorem lC (s:ByteArray) (w:World):Calls Tryz.prog 68 #[.string s] w fun e w'=>∃ v,e=.returned (.tuple #[v,ik (lexT s).1])∧w'.ownsRow w.heap.size 9 1 v (lexT s).2.length ((lexT s).2.map Value.string)∧Below w.heap.size w w':=by
 by_cases h:s.size≤240
 ·exact words_short s w h
 ·exact words_long s w (by omega)
end Go.Proofs.YtcgjflamgnjhcaaGreatDoor
namespace Go.Proofs.YtcgjflamgnjhcaaGreatDoor
theorem wq_let (s:ByteArray) (k:Nat) (h:d8 (bt s k)=true):wl s k=run d8 s k:=by unfold wl;rw [if_pos h]
theorem wq_dig (s:ByteArray) (k:Nat) (h0:d8 (bt s k)=false) (h:dc (bt s k)=true):wl s k=run dc s k:=by unfold wl;rw [h0,if_neg (by simp),if_pos h]
theorem wq_else (s:ByteArray) (k:Nat) (h0:d8 (bt s k)=false) (h:dc (bt s k)=false):wl s k=if k+1 < s.size∧gS (bt s k) (bt s (k+1))=true then 2 else if iX (bt s k) then 1 else 0:=by
 unfold wl;rw [h0,h,if_neg (by simp),if_neg (by simp)]
def wordy (l:List UInt8):Prop :=
 l≠[]∧((∀ c∈l,d8 (c.toNat:Int)=true)∨(∀ c∈l,dc (c.toNat:Int)=true)∨(∃ a b,l=[a,b]∧gS (a.toNat:Int) (b.toNat:Int)=true)∨(∃ a,l=[a]∧iX (a.toNat:Int)=true))
theorem kq (p:Int→Bool) (s:ByteArray):∀ f a j,j < nL p s f a→p (bt s (a+j))=true
 | 0,a,j,h=>absurd h (by unfold nL;omega)
 | f+1,a,j,h=>by
  unfold nL at h
  split at h
  ·rename_i q;cases j with
   | zero=>exact q.2
   | succ j =>
    have:=kq p s f (a+1) j (by omega)
    rwa [show a+1+j=a+(j+1) by omega] at this
  ·omega
theorem kE (s:ByteArray) (a n j:Nat) (h:a+n≤s.size) (hj:j < ((s.data.toList.drop a).take n).length):((((s.data.toList.drop a).take n)[j]).toNat:Int)=bt s (a+j):=by
 unfold bt;rw [Lib.size_eq] at h;generalize s.data.toList=l at *;have hl:a+j < l.length:=by
  rw [List.length_take,List.length_drop] at hj;omega
 simp [List.getD,hl]
theorem wordy_of (s:ByteArray) (a:Nat) (h:a < s.size) (hw:wl s a≠0):wordy (s.extract a (a+wl s a)).data.toList:=by
 have hle:=qk s a h;rw [Lib.extract_data,show a+wl s a - a=wl s a by omega];have hlen:((s.data.toList.drop a).take (wl s a)).length=wl s a:=by
  have:=Lib.size_eq s
  simp at this ⊢;omega
 refine ⟨fun e=>hw (by rw [← hlen,e];rfl),?_⟩;have all:∀ p:Int→Bool,(∀ j,j < wl s a→p (bt s (a+j))=true)→∀ c∈(s.data.toList.drop a).take (wl s a),p (c.toNat:Int)=true:=by
  intro p hp c hc;obtain ⟨j,hj,rfl⟩:=List.mem_iff_getElem.1 hc;rw [kE s a (wl s a) j hle hj];exact hp j (by omega)
 cases hL:d8 (bt s a)
 ·cases hD:dc (bt s a)
  ·have e:=wq_else s a hL hD
   by_cases h2:a+1 < s.size∧gS (bt s a) (bt s (a+1))=true
   ·rw [if_pos h2] at e;rw [e] at hlen hle ⊢
    match hl:(s.data.toList.drop a).take 2,hlen with
    | [x,y],_ =>
     have g0:=kE s a 2 0 hle (by rw [hl];simp);have g1:=kE s a 2 1 hle (by rw [hl];simp);simp only [hl] at g0 g1;simp at g0 g1;exact .inr (.inr (.inl ⟨x,y,rfl,by rw [g0,g1];exact h2.2⟩))
   ·rw [if_neg h2] at e;cases hS:iX (bt s a)
    ·rw [hS] at e;exact absurd e hw
    ·rw [hS,if_pos rfl] at e;rw [e] at hlen hle ⊢
     match hl:(s.data.toList.drop a).take 1,hlen with
     | [x],_ =>
      have g0:=kE s a 1 0 hle (by rw [hl];simp);simp only [hl] at g0;simp at g0;exact .inr (.inr (.inr ⟨x,rfl,by rw [g0];exact hS⟩))
  ·refine .inr (.inl (all dc fun j hj=>?_));rw [wq_dig s a hL hD] at hj;exact kq dc s _ a j hj
 ·refine .inl (all d8 fun j hj=>?_);rw [wq_let s a hL] at hj;exact kq d8 s _ a j hj
theorem gP (s:ByteArray):∀ f a ws,(∀ x∈ws,wordy x.data.toList)→ws.length≤80→∀ x∈(mc s f a ws).2,wordy x.data.toList
 | 0,_,ws,h,_=>h
 | f+1,a,ws,h,hn=>by
  unfold mc
  by_cases h1:a < s.size
  ·rw [if_pos h1]
   by_cases h2:bt s a=32
   ·rw [if_pos h2];exact gP s f _ _ h hn
   ·rw [if_neg h2]
    by_cases h3:wl s a=0
    ·rw [if_pos h3];intro x hx;simp at hx
    ·rw [if_neg h3]
     by_cases h4:ws.length=80
     ·rw [if_pos h4];intro x hx;simp at hx
     ·rw [if_neg h4];refine gP s f _ _ ?_ (by simp;omega);intro x hx
      rcases List.mem_append.1 hx with hx | hx
      ·exact h x hx
      ·simp at hx;subst hx;exact wordy_of s a h1 h3
  ·rw [if_neg h1];exact h
theorem kV (s:ByteArray):∀ f a ws,ws.length≤80→(mc s f a ws).2.length≤80
 | 0,_,ws,hn=>hn
 | f+1,a,ws,hn=>by
  unfold mc
  repeat' split
  all_goals first | exact kV s f _ _ hn | (refine kV s f _ _ ?_;simp;omega) | exact hn | simp
theorem lexT_wordy (s:ByteArray):∀ x∈(lexT s).2,wordy x.data.toList:=by
 unfold lexT
 split
 ·exact gP s _ _ _ (fun x hx=>by simp at hx) (by simp)
 ·intro x hx;simp at hx
theorem lexT_few (s:ByteArray):(lexT s).2.length≤80:=by
 unfold lexT
 split
 ·exact kV s _ _ _ (by simp)
 ·simp
theorem ig (s:ByteArray):∀ f a ws,(∀ x∈ws,x.size≤s.size)→∀ x∈(mc s f a ws).2,x.size≤s.size
 | 0,_,ws,h=>h
 | f+1,a,ws,h=>by
  unfold mc
  by_cases h1:a < s.size
  ·rw [if_pos h1]
   by_cases h2:bt s a=32
   ·rw [if_pos h2];exact ig s f _ _ h
   ·rw [if_neg h2]
    by_cases h3:wl s a=0
    ·rw [if_pos h3];intro x hx;simp at hx
    ·rw [if_neg h3]
     by_cases h4:ws.length=80
     ·rw [if_pos h4];intro x hx;simp at hx
     ·rw [if_neg h4];refine ig s f _ _ ?_;intro x hx
      rcases List.mem_append.1 hx with hx | hx
      ·exact h x hx
      ·simp at hx;subst hx
       have:=qk s a h1
       rw [Lib.size_eq,Lib.extract_data,List.length_take,List.length_drop,← Lib.size_eq];omega
  ·rw [if_neg h1];exact h
theorem lexT_small (s:ByteArray):∀ x∈(lexT s).2,x.size≤s.size:=by
 unfold lexT
 split
 ·exact ig s _ _ _ (fun x hx=>by simp at hx)
 ·intro x hx;simp at hx
abbrev Ws:=List ByteArray
abbrev PR:=Except Int (List Nd×Ws)
def tk (word:ByteArray):Ws→Option Ws
 | []=>none
 | w :: r=>if w=word then some r else none
structure Sg where
 rank:Int
 op:Int
 turned:Bool
 denied:Bool
 deriving DecidableEq
def wSelect:ByteArray:=⟨#[115,101,108,101,99,116]⟩
def wFrom:ByteArray:=⟨#[102,114,111,109]⟩
def wEvents:ByteArray:=⟨#[101,118,101,110,116,115]⟩
def wWhere:ByteArray:=⟨#[119,104,101,114,101]⟩
def wGroup:ByteArray:=⟨#[103,114,111,117,112]⟩
def wBy:ByteArray:=⟨#[98,121]⟩
def wWindow:ByteArray:=⟨#[119,105,110,100,111,119]⟩
def wSlide:ByteArray:=⟨#[115,108,105,100,101]⟩
def wDelay:ByteArray:=⟨#[100,101,108,97,121]⟩
def wLate:ByteArray:=⟨#[108,97,116,101]⟩
def wNot:ByteArray:=⟨#[110,111,116]⟩
def wIs:ByteArray:=⟨#[105,115]⟩
def wNull:ByteArray:=⟨#[110,117,108,108]⟩
def wTrue:ByteArray:=⟨#[116,114,117,101]⟩
def wFalse:ByteArray:=⟨#[102,97,108,115,101]⟩
def wOr:ByteArray:=⟨#[111,114]⟩
def wAnd:ByteArray:=⟨#[97,110,100]⟩
def wOpen:ByteArray:=⟨#[40]⟩
def wClose:ByteArray:=⟨#[41]⟩
def wComma:ByteArray:=⟨#[44]⟩
def wStar:ByteArray:=⟨#[42]⟩
def wPlus:ByteArray:=⟨#[43]⟩
def wMinus:ByteArray:=⟨#[45]⟩
def wLt:ByteArray:=⟨#[60]⟩
def wGt:ByteArray:=⟨#[62]⟩
def wEq:ByteArray:=⟨#[61]⟩
def wLe:ByteArray:=⟨#[60,61]⟩
def wGe:ByteArray:=⟨#[62,61]⟩
def wNe:ByteArray:=⟨#[60,62]⟩
def wCount:ByteArray:=⟨#[99,111,117,110,116]⟩
def wSum:ByteArray:=⟨#[115,117,109]⟩
def wMin:ByteArray:=⟨#[109,105,110]⟩
def wMax:ByteArray:=⟨#[109,97,120]⟩
def wT:ByteArray:=⟨#[116]⟩
def wK:ByteArray:=⟨#[107]⟩
def wA:ByteArray:=⟨#[97]⟩
def wB:ByteArray:=⟨#[98]⟩
def sgL:List (ByteArray×Sg):=[(wOr,⟨0,10,false,false⟩),(wAnd,⟨1,9,false,false⟩),(wLt,⟨2,11,false,false⟩),(wGt,⟨2,11,true,false⟩),(wLe,⟨2,11,true,true⟩),(wGe,⟨2,11,false,true⟩),(wEq,⟨2,12,false,false⟩),(wNe,⟨2,12,false,true⟩),(wPlus,⟨3,6,false,false⟩),(wMinus,⟨3,7,false,false⟩),(wStar,⟨4,8,false,false⟩)]
def sgIn:List (ByteArray×Sg)→ByteArray→Option Sg
 | [],_=>none
 | p :: l,w=>if w=p.1 then some p.2 else sgIn l w
def qt (w:ByteArray):Option Sg:=sgIn sgL w
def tkS (rank:Int):Ws→Option (Sg×Ws)
 | []=>none
 | w :: r=>match qt w with
  | none=>none
  | some s=>if s.rank=rank then some (s,r) else none
def jn1 (op:Int) (x:List Nd):Except Int (List Nd):=if 40 < x.length+1 then .error 2 else .ok (fF op x)
def jn2 (op:Int) (x y:List Nd):Except Int (List Nd):=if 40 < x.length+y.length+1 then .error 2 else .ok (gD op x y)
def jnD (dn:Bool) (r:Except Int (List Nd)):Except Int (List Nd):=match r with
 | .error c=>.error c
 | .ok l=>if dn then jn1 4 l else .ok l
def jnS (s:Sg) (x y:List Nd):Except Int (List Nd):=jnD s.denied (if s.turned then jn2 s.op y x else jn2 s.op x y)
def wth (ws:Ws) (r:Except Int (List Nd)):PR:=match r with
 | .error c=>.error c
 | .ok l=>.ok (l,ws)
def pw (most:Nat):Nat→List UInt8→Option Nat
 | acc,[]=>some acc
 | acc,c :: r=>if c.toNat < 48∨57 < c.toNat then none else if most < 10 * acc+(c.toNat - 48) then none else pw most (10 * acc+(c.toNat - 48)) r
def nK (most:Nat) (w:ByteArray):Option Nat:=if w.data.toList=[] then none else pw most 0 w.data.toList
def qD (w:ByteArray):Option Int:=if w=wT then some 0 else if w=wK then some 1 else if w=wA then some 2 else if w=wB then some 3 else none
def fT (w:ByteArray):Option Nd :=
 match qD w with
 | some i=>some ⟨2,0,0,i,0,0⟩
 | none=>if w=wNull then some ⟨1,0,0,0,0,0⟩ else if w=wFalse then some ⟨1,0,0,0,2,0⟩ else if w=wTrue then some ⟨1,0,0,0,2,1⟩ else
  match nK 1000000000 w with
  | some n=>some ⟨1,0,0,0,1,n⟩
  | none=>none
def fZ (inner:Ws→PR) (rank:Int):Nat→List Nd→Ws→PR
 | 0,_,_=>.error 99
 | k+1,x,ws=>match tkS rank ws with
  | none=>.ok (x,ws)
  | some (s,ws1)=>match inner ws1 with
   | .error c=>.error c
   | .ok (y,ws2)=>match jnS s x y with
    | .error c=>.error c
    | .ok z=>fZ inner rank k z ws2
def rowP (inner:Ws→PR) (rank:Int) (k:Nat) (ws:Ws):PR:=match inner ws with
 | .error c=>.error c
 | .ok (x,ws1)=>fZ inner rank k x ws1
def deepP (inner:Ws→Nat→PR) (ws:Ws) (d:Nat):PR:=if d=12 then .error 2 else inner ws (d+1)
def aheadP (op:Int) (r:PR):PR:=match r with
 | .error c=>.error c
 | .ok (x,ws)=>wth ws (jn1 op x)
def fU (x:List Nd) (dn:Bool) (ws:Ws):PR:=match tk wNull ws with
 | none=>.error 4
 | some ws1=>wth ws1 (jnD dn (jn1 5 x))
def isP (x:List Nd) (ws:Ws):PR:=match tk wNot ws with
 | some ws1=>fU x true ws1
 | none=>fU x false ws
def ma (inner:Ws→PR) (x:List Nd) (ws:Ws):PR:=match tk wIs ws with
 | some ws1=>isP x ws1
 | none=>match tkS 2 ws with
  | none=>.ok (x,ws)
  | some (s,ws1)=>match inner ws1 with
   | .error c=>.error c
   | .ok (y,ws2)=>wth ws2 (jnS s x y)
def eB (r:PR):PR:=match r with
 | .error c=>.error c
 | .ok (x,ws)=>match tk wClose ws with
  | none=>.error 4
  | some ws1=>.ok (x,ws1)
def leafP:Ws→PR
 | []=>.error 4
 | w :: r=>match fT w with
  | none=>.error 4
  | some n=>.ok ([n],r)
def lev:Nat→Nat→Ws→Nat→PR
 | 0,_,_,_=>.error 99
 | f+1,0,ws,d=>rowP (fun ws=>lev f 1 ws d) 0 f ws
 | f+1,1,ws,d=>rowP (fun ws=>lev f 2 ws d) 1 f ws
 | f+1,2,ws,d=>match tk wNot ws with
  | some ws1=>aheadP 4 (deepP (fun ws d=>lev f 2 ws d) ws1 d)
  | none=>lev f 3 ws d
 | f+1,3,ws,d=>match lev f 4 ws d with
  | .error c=>.error c
  | .ok (x,ws1)=>ma (fun ws=>lev f 4 ws d) x ws1
 | f+1,4,ws,d=>rowP (fun ws=>lev f 5 ws d) 3 f ws
 | f+1,5,ws,d=>rowP (fun ws=>lev f 6 ws d) 4 f ws
 | f+1,6,ws,d=>match tk wMinus ws with
  | some ws1=>aheadP 3 (deepP (fun ws d=>lev f 6 ws d) ws1 d)
  | none=>lev f 7 ws d
 | f+1,_+7,ws,d=>match tk wOpen ws with
  | some ws1=>eB (deepP (fun ws d=>lev f 0 ws d) ws1 d)
  | none=>leafP ws
def FU:Nat:=1000
structure AgQ where
 kind:Int
 of:List Nd
structure Qy where
 aggs:List AgQ
 wh:List Nd
 bys:List Nd
 size:Int
 slide:Int
 delay:Int
 late:Int
def lS (ws:Ws):Option (Int×Ws):=match tk wCount ws with
 | some r=>some (2,r)
 | none=>match tk wSum ws with
  | some r=>some (3,r)
  | none=>match tk wMin ws with
   | some r=>some (4,r)
   | none=>match tk wMax ws with
    | some r=>some (5,r)
    | none=>none
def jm {α:Type} (word:ByteArray) (ws:Ws) (k:Ws→Except Int α):Except Int α:=match tk word ws with
 | none=>.error 4
 | some r=>k r
def qF (k:Int) (ws:Ws):Option Ws:=if k=2 then tk wStar ws else none
def nQ {α:Type} (ws:Ws) (k:List Nd→Ws→Except Int α):Except Int α:=match lev FU 0 ws 0 with
 | .error c=>.error c
 | .ok (l,r)=>k l r
def nM (ws:Ws):Except Int (AgQ×Ws):=match lS ws with
 | none=>.error 4
 | some (k,ws1)=>jm wOpen ws1 fun ws2=>match qF k ws2 with
  | some ws3=>jm wClose ws3 fun ws4=>.ok (⟨1,[]⟩,ws4)
  | none=>nQ ws2 fun l ws3=>jm wClose ws3 fun ws4=>.ok (⟨k,l⟩,ws4)
def aggsP:Nat→List AgQ→Ws→Except Int (List AgQ×Ws)
 | 0,_,_=>.error 99
 | k+1,l,ws=>match tk wComma ws with
  | none=>.ok (l,ws)
  | some ws1=>match nM ws1 with
   | .error c=>.error c
   | .ok (a,ws2)=>aggsP k (l++[a]) ws2
def pj {α:Type} (ws:Ws) (k:Int→Ws→Except Int α):Except Int α:=match ws with
 | []=>.error 4
 | w :: r=>match nK 1000 w with
  | none=>.error 4
  | some n=>k n r
def qp {α:Type} (word:ByteArray) (dflt:Int) (ws:Ws) (k:Int→Ws→Except Int α):Except Int α:=match tk word ws with
 | none=>k dflt ws
 | some ws1=>pj ws1 k
def nE {α:Type} (ws:Ws) (k:List Nd→Ws→Except Int α):Except Int α:=match tk wWhere ws with
 | none=>k [] ws
 | some ws1=>nQ ws1 k
def mN {α:Type} (ws:Ws) (k:List Nd→Ws→Except Int α):Except Int α:=match tk wGroup ws with
 | none=>k [] ws
 | some ws1=>jm wBy ws1 fun ws2=>nQ ws2 k
def qJ (q:Qy) (ws:Ws):Except Int Qy:=if ws=[] then .ok q else .error 4
def oV (aggs:List AgQ) (ws:Ws):Except Int Qy :=
 jm wFrom ws fun ws=>jm wEvents ws fun ws=>nE ws fun wh ws=>mN ws fun bys ws=>jm wWindow ws fun ws=>pj ws fun size ws =>
  qp wSlide size ws fun slide ws=>qp wDelay 0 ws fun delay ws=>qp wLate 0 ws fun late ws=>qJ ⟨aggs,wh,bys,size,slide,delay,late⟩ ws
def jO (ws:Ws):Except Int Qy:=jm wSelect ws fun ws=>match nM ws with
 | .error c=>.error c
 | .ok (a,ws1)=>match aggsP FU [a] ws1 with
  | .error c=>.error c
  | .ok (l,ws2)=>oV l ws2
def cM (l:List Nd):V2:=if kW l≠0 then (0,kW l) else tyE l
def chkA (a:AgQ):Int:=if a.kind < 1∨5 < a.kind then 3 else if a.kind=1 then (if 0 < a.of.length then 3 else 0) else if (cM a.of).2≠0 then (cM a.of).2 else if (cM a.of).1=2∧a.kind≠2 then 3 else 0
def chkAs:List AgQ→Int
 | []=>0
 | a :: l=>if chkA a≠0 then chkA a else chkAs l
def chkW (l:List Nd):Int:=if l.length=0 then 0 else if (cM l).2≠0 then (cM l).2 else if (cM l).1=1 then 3 else 0
def chkB (l:List Nd):Int:=if l.length=0 then 0 else (cM l).2
def p7 (q:Qy):Int:=if q.size < 1∨1000 < q.size∨q.slide < 1∨1000 < q.slide∨q.delay < 0∨1000 < q.delay∨q.late < 0∨1000 < q.late then 1 else if q.size < q.slide∨4 * q.slide < q.size then 3 else 0
def chkQ (q:Qy):Int:=if q.aggs.length=0∨4 < q.aggs.length then 2 else if chkAs q.aggs≠0 then chkAs q.aggs else if chkW q.wh≠0 then chkW q.wh else if chkB q.bys≠0 then chkB q.bys else p7 q
def dZ (s:ByteArray):Except Int Qy:=if (lexT s).1≠0 then .error (lexT s).1 else match jO (lexT s).2 with
 | .error c=>.error c
 | .ok q=>if chkQ q≠0 then .error (chkQ q) else .ok q
theorem cY {word:ByteArray} {ws r:Ws} (h:tk word ws=some r):r.length+1=ws.length:=by
 cases ws with
 | nil=>simp [tk] at h
 | cons w ws =>
  simp only [tk] at h
  by_cases e:w=word
  ·rw [if_pos e] at h;cases h
   rfl
  ·rw [if_neg e] at h;cases h
theorem fC {rank:Int} {ws r:Ws} {s:Sg} (h:tkS rank ws=some (s,r)):r.length+1=ws.length:=by
 cases ws with
 | nil=>simp [tkS] at h
 | cons w ws =>
  simp only [tkS] at h;cases hs:qt w with
  | none=>rw [hs] at h;cases h
  | some q =>
   rw [hs] at h
   simp only at h
   by_cases e:q.rank=rank
   ·rw [if_pos e] at h;cases h
    rfl
   ·rw [if_neg e] at h;cases h
def iD (ws:Ws) (r:PR):Prop:=r≠.error 99∧∀ l ws',r=.ok (l,ws')→ws'.length < ws.length
theorem pi (op:Int) (x:List Nd):jn1 op x≠.error 99:=by
 unfold jn1
 split
 ·intro h;injection h with h;exact absurd h (by decide)
 ·intro h;cases h
theorem jn2_99 (op:Int) (x y:List Nd):jn2 op x y≠.error 99:=by
 unfold jn2
 split
 ·intro h;injection h with h;exact absurd h (by decide)
 ·intro h;cases h
theorem pW (dn:Bool) (r:Except Int (List Nd)) (h:r≠.error 99):jnD dn r≠.error 99:=by
 unfold jnD;cases r with
 | error c=>exact fun e=>h (by injection e with e;rw [e])
 | ok l =>
  simp only
  split
  ·exact pi _ _
  ·intro h;cases h
theorem pS (s:Sg) (x y:List Nd):jnS s x y≠.error 99:=by
 unfold jnS
 apply pW
 split <;> exact jn2_99 _ _ _
theorem ki {ws ws0:Ws} {r:Except Int (List Nd)} (h:r≠.error 99) (hl:ws.length < ws0.length):iD ws0 (wth ws r):=by
 cases r with
 | error c=>exact ⟨fun e=>h (by injection e with e;rw [e]),fun l ws' e=>by cases e⟩
 | ok l=>exact ⟨(fun e=>by cases e),fun l' ws' e=>by cases e;exact hl⟩
theorem gk {ws:Ws} {c:Int} (h:c≠99):iD ws (.error c):=⟨fun e=>h (by injection e),fun l ws' e=>by cases e⟩
theorem mj {ws ws0:Ws} {r:PR} (h:iD ws r) (hl:ws.length≤ws0.length):iD ws0 r:=⟨h.1,fun l ws' e=>by have:=h.2 l ws' e;omega⟩
theorem lM (inner:Ws→PR) (rank:Int) (ws0:Ws) (hin:∀ ws:Ws,ws.length < ws0.length→iD ws (inner ws)):∀ (k:Nat) (x:List Nd) (ws:Ws),ws.length < k→ws.length < ws0.length→iD ws0 (fZ inner rank k x ws)
 | 0,x,ws,h,_=>by omega
 | k+1,x,ws,h,h0=>by
  unfold fZ;cases hs:tkS rank ws with
  | none=>exact ⟨(fun e=>by cases e),fun l ws' e=>by cases e;exact h0⟩
  | some p =>
   obtain ⟨s,ws1⟩:=p;have h1:=fC hs;have hf:=hin ws1 (by omega)
   simp only
   cases hi:inner ws1 with
   | error c=>rw [hi] at hf;exact ⟨fun e=>hf.1 (by injection e with e;rw [e]),fun l ws' e=>by cases e⟩
   | ok q =>
    obtain ⟨y,ws2⟩:=q;rw [hi] at hf;have h2:=hf.2 y ws2 rfl
    simp only
    have hj:=pS s x y;cases hz:jnS s x y with
    | error c=>rw [hz] at hj;exact ⟨fun e=>hj (by injection e with e;rw [e]),fun l ws' e=>by cases e⟩
    | ok z=>exact lM inner rank ws0 hin k z ws2 (by omega) (by omega)
theorem gM (inner:Ws→PR) (rank:Int) (k:Nat) (ws:Ws) (hin:∀ ws':Ws,ws'.length≤ws.length→iD ws' (inner ws')) (hk:ws.length≤k):iD ws (rowP inner rank k ws):=by
 have hf:=hin ws (Nat.le_refl _);unfold rowP;cases hi:inner ws with
 | error c=>rw [hi] at hf;exact ⟨fun e=>hf.1 (by injection e with e;rw [e]),fun l ws' e=>by cases e⟩
 | ok p =>
  obtain ⟨x,ws1⟩:=p;rw [hi] at hf;have h1:=hf.2 x ws1 rfl;exact lM inner rank ws (fun ws' h=>hin ws' (by omega)) k x ws1 (by omega) h1
theorem iM (inner:Ws→Nat→PR) (ws:Ws) (d:Nat) (h:∀ d',iD ws (inner ws d')):iD ws (deepP inner ws d):=by
 unfold deepP
 split
 ·exact gk (by decide)
 ·exact h _
theorem jL (op:Int) (ws:Ws) (r:PR) (h:iD ws r):iD ws (aheadP op r):=by
 unfold aheadP;cases r with
 | error c=>exact ⟨fun e=>h.1 (by injection e with e;rw [e]),fun l ws' e=>by cases e⟩
 | ok p =>
  obtain ⟨x,ws1⟩:=p;exact ki (pi _ _) (h.2 x ws1 rfl)
theorem ll (x:List Nd) (dn:Bool) (ws ws0:Ws) (h:ws.length < ws0.length):iD ws0 (fU x dn ws):=by
 unfold fU;cases ht:tk wNull ws with
 | none=>exact gk (by decide)
 | some ws1=>exact ki (pW _ _ (pi _ _)) (by have:=cY ht;omega)
theorem cmp_fine (inner:Ws→PR) (x:List Nd) (ws ws0:Ws) (hl:ws.length < ws0.length) (hin:∀ ws':Ws,ws'.length < ws0.length→iD ws' (inner ws')):iD ws0 (ma inner x ws):=by
 unfold ma;cases ht:tk wIs ws with
 | some ws1 =>
  have:=cY ht
  simp only
  unfold isP;cases hn:tk wNot ws1 with
  | some ws2=>have:=cY hn;exact ll _ _ _ _ (by omega)
  | none=>exact ll _ _ _ _ (by omega)
 | none =>
  simp only
  cases hs:tkS 2 ws with
  | none=>exact ⟨(fun e=>by cases e),fun l ws' e=>by cases e;exact hl⟩
  | some p =>
   obtain ⟨s,ws1⟩:=p;have h1:=fC hs;have hf:=hin ws1 (by omega)
   simp only
   cases hi:inner ws1 with
   | error c=>rw [hi] at hf;exact ⟨fun e=>hf.1 (by injection e with e;rw [e]),fun l ws' e=>by cases e⟩
   | ok q =>
    obtain ⟨y,ws2⟩:=q;rw [hi] at hf;have h2:=hf.2 y ws2 rfl;exact ki (pS _ _ _) (by omega)
theorem close_fine (ws:Ws) (r:PR) (h:iD ws r):iD ws (eB r):=by
 unfold eB;cases r with
 | error c=>exact ⟨fun e=>h.1 (by injection e with e;rw [e]),fun l ws' e=>by cases e⟩
 | ok p =>
  obtain ⟨x,ws1⟩:=p;have h1:=h.2 x ws1 rfl
  simp only
  cases ht:tk wClose ws1 with
  | none=>exact gk (by decide)
  | some ws2=>exact ⟨(fun e=>by cases e),fun l ws' e=>by cases e;have:=cY ht;omega⟩
theorem leaf_fine (ws:Ws):iD ws (leafP ws):=by
 cases ws with
 | nil=>exact gk (by decide)
 | cons w r =>
  simp only [leafP];cases fT w with
  | none=>exact gk (by decide)
  | some n=>exact ⟨(fun e=>by cases e),fun l ws' e=>by cases e;simp⟩
theorem lev_fine:∀ (f n:Nat) (ws:Ws) (d:Nat),9 * ws.length+(8 - n) < f→n≤7→iD ws (lev f n ws d):=by
 intro f
 induction f with
 | zero=>intro n ws d h;omega
 | succ f ih =>
  intro n ws d h hn
  match n,hn with
  | 0,_=>exact gM _ _ _ _ (fun ws' h'=>ih 1 ws' d (by omega) (by omega)) (by omega)
  | 1,_=>exact gM _ _ _ _ (fun ws' h'=>ih 2 ws' d (by omega) (by omega)) (by omega)
  | 2,_ =>
   show iD ws (match tk wNot ws with
    | some ws1=>aheadP 4 (deepP (fun ws d=>lev f 2 ws d) ws1 d)
    | none=>lev f 3 ws d)
   cases ht:tk wNot ws with
   | some ws1 =>
    have:=cY ht
    exact mj (jL _ _ _ (iM _ _ _ (fun d'=>ih 2 ws1 d' (by omega) (by omega)))) (by omega)
   | none=>exact ih 3 ws d (by omega) (by omega)
  | 3,_ =>
   have hf:=ih 4 ws d (by omega) (by omega)
   show iD ws (match lev f 4 ws d with
    | .error c=>.error c
    | .ok (x,ws1)=>ma (fun ws=>lev f 4 ws d) x ws1)
   cases hi:lev f 4 ws d with
   | error c=>rw [hi] at hf;exact ⟨fun e=>hf.1 (by injection e with e;rw [e]),fun l ws' e=>by cases e⟩
   | ok p =>
    obtain ⟨x,ws1⟩:=p;rw [hi] at hf;exact cmp_fine _ x ws1 ws (hf.2 x ws1 rfl) (fun ws' h'=>ih 4 ws' d (by omega) (by omega))
  | 4,_=>exact gM _ _ _ _ (fun ws' h'=>ih 5 ws' d (by omega) (by omega)) (by omega)
  | 5,_=>exact gM _ _ _ _ (fun ws' h'=>ih 6 ws' d (by omega) (by omega)) (by omega)
  | 6,_ =>
   show iD ws (match tk wMinus ws with
    | some ws1=>aheadP 3 (deepP (fun ws d=>lev f 6 ws d) ws1 d)
    | none=>lev f 7 ws d)
   cases ht:tk wMinus ws with
   | some ws1 =>
    have:=cY ht
    exact mj (jL _ _ _ (iM _ _ _ (fun d'=>ih 6 ws1 d' (by omega) (by omega)))) (by omega)
   | none=>exact ih 7 ws d (by omega) (by omega)
  | 7,_ =>
   show iD ws (match tk wOpen ws with
    | some ws1=>eB (deepP (fun ws d=>lev f 0 ws d) ws1 d)
    | none=>leafP ws)
   cases ht:tk wOpen ws with
   | some ws1 =>
    have:=cY ht
    exact mj (close_fine _ _ (iM _ _ _ (fun d'=>ih 0 ws1 d' (by omega) (by omega)))) (by omega)
   | none=>exact leaf_fine ws
theorem expr_fine (ws:Ws) (d:Nat) (h:ws.length≤100):iD ws (lev FU 0 ws d):=lev_fine FU 0 ws d (by unfold FU;omega) (by decide)
end Go.Proofs.YtcgjflamgnjhcaaGreatDoor
