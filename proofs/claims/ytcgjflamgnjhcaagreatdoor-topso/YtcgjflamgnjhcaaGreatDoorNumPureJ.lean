/- Own texts in one. Conditions: as named in each. -/
import Derived.Test.YtcgjflamgnjhcaaGreatDoorParsePureJ
import Derived.Lib.ItoaNum
import Derived.Lib.AtoiAll
import Derived.Test.YtcgjflamgnjhcaaGreatDoorTextVJ
import Derived.Test.YtcgjflamgnjhcaaGreatDoorExpr8J
set_option linter.unusedVariables false
set_option linter.unusedSimpArgs false
set_option maxRecDepth 100000
set_option maxHeartbeats 8000000
namespace Go.Proofs.YtcgjflamgnjhcaaGreatDoor
open Go.Lib
theorem jV (most:Nat) (hm:most≤1000000000):∀ (l:List UInt8) (acc v:Nat),acc≤most→pC most acc l=some v→parseUint10 acc l=.ok v∧v≤most
 | [],acc,v,ha,h=>by
  simp only [pC] at h;cases h;exact ⟨rfl,ha⟩
 | c :: r,acc,v,ha,h=>by
  simp only [pC] at h
  by_cases h1:c.toNat < 48∨57 < c.toNat
  ·rw [if_pos h1] at h;cases h
  ·rw [if_neg h1] at h
   by_cases h2:most < 10 * acc+(c.toNat - 48)
   ·rw [if_pos h2] at h;cases h
   ·rw [if_neg h2] at h;have ih:=jV most hm r _ v (by omega) h;simp only [parseUint10];rw [if_pos (by omega),if_neg (by omega),if_neg (by omega),show acc * 10+(c.toNat - 48)=10 * acc+(c.toNat - 48) from by omega];exact ih
theorem parse_ge:∀ (l:List UInt8) (acc v:Nat),parseUint10 acc l=.ok v→acc≤v
 | [],acc,v,h=>by
  simp only [parseUint10] at h;injection h with h
  omega
 | c :: r,acc,v,h=>by
  simp only [parseUint10] at h
  by_cases h1:48≤c.toNat∧c.toNat≤57
  ·rw [if_pos h1] at h
   by_cases h2:1844674407370955162≤acc
   ·rw [if_pos h2] at h;cases h
   ·rw [if_neg h2] at h
    by_cases h3:18446744073709551616≤acc * 10+(c.toNat - 48)
    ·rw [if_pos h3] at h;cases h
    ·rw [if_neg h3] at h
     have:=parse_ge r _ v h
     omega
  ·rw [if_neg h1] at h;cases h
theorem lB (most:Nat):∀ (l:List UInt8) (acc v:Nat),pC most acc l=none→parseUint10 acc l=.ok v→most < v
 | [],acc,v,h,_=>by simp [pC] at h
 | c :: r,acc,v,h,hp=>by
  simp only [pC] at h;simp only [parseUint10] at hp
  by_cases h1:c.toNat < 48∨57 < c.toNat
  ·rw [if_neg (by omega)] at hp;cases hp
  ·rw [if_neg h1] at h;rw [if_pos (by omega)] at hp
   by_cases h2:1844674407370955162≤acc
   ·rw [if_pos h2] at hp;cases hp
   ·rw [if_neg h2] at hp
    by_cases h3:18446744073709551616≤acc * 10+(c.toNat - 48)
    ·rw [if_pos h3] at hp;cases hp
    ·rw [if_neg h3] at hp
     by_cases h4:most < 10 * acc+(c.toNat - 48)
     ·have:=parse_ge r _ v hp
      omega
     ·rw [if_neg h4] at h;exact lB most r _ v h (by rw [show 10 * acc+(c.toNat - 48)=acc * 10+(c.toNat - 48) from by omega];exact hp)
theorem digit_of_natM {most acc v:Nat} {c:UInt8} {r:List UInt8} (h:pC most acc (c :: r)=some v):48≤c.toNat∧c.toNat≤57:=by
 simp only [pC] at h
 by_cases h1:c.toNat < 48∨57 < c.toNat
 ·rw [if_pos h1] at h;cases h
 ·omega
theorem mf {most n:Nat} {s:ByteArray} (hm:most≤1000000000) (h:nO most s=some n):atoiAll s.data.toList=.ok (n:Int)∧n≤most:=by
 unfold nO at h;cases hl:s.data.toList with
 | nil=>rw [hl] at h;simp at h
 | cons c r =>
  rw [hl] at h;rw [if_neg (by simp)] at h;have hd:=digit_of_natM h;obtain ⟨hp,hv⟩:=jV most hm (c :: r) 0 n (by omega) h;refine ⟨?_,hv⟩;unfold atoiAll;have e:(if c.toNat=43∨c.toNat=45 then r else c :: r)=c :: r:=if_neg (by omega);have hmg:parseMag (c :: r)=.ok n:=by unfold parseMag;rw [if_neg (by simp)];exact hp
  simp only [e,hmg];rw [if_neg (by omega),if_neg (by omega),if_neg (by omega)]
theorem pJ {most:Nat} {s:ByteArray} (hw:wordy s.data.toList∨s.data.toList=[]) (h:nO most s=none):∀ v,atoiAll s.data.toList=.ok v→(most:Int) < v:=by
 intro v hv;unfold nO at h;cases hl:s.data.toList with
 | nil=>rw [hl] at hv;simp [atoiAll] at hv
 | cons c r =>
  rw [hl] at h hv hw;rw [if_neg (by simp)] at h;have hw:wordy (c :: r):=hw.elim id (fun e=>by cases e);unfold atoiAll at hv
  by_cases hd:48≤c.toNat∧c.toNat≤57
  ·have e:(if c.toNat=43∨c.toNat=45 then r else c :: r)=c :: r:=if_neg (by omega);simp only [e] at hv;cases hp:parseMag (c :: r) with
   | «syntax»=>rw [hp] at hv;cases hv
   | range=>rw [hp] at hv;cases hv
   | ok u =>
    rw [hp] at hv;have hp2:parseUint10 0 (c :: r)=.ok u:=by unfold parseMag at hp;rw [if_neg (by simp)] at hp;exact hp
    have hg:=lB most (c :: r) 0 u h hp2
    simp only at hv
    by_cases h1:¬ c.toNat=45∧9223372036854775808≤u
    ·rw [if_pos h1] at hv;cases hv
    ·rw [if_neg h1,if_neg (by omega),if_neg (by omega)] at hv;injection hv with hv
     omega
  ·exfalso
   have hbad:∀ l:List UInt8,(l=c :: r∨l=[])→∀ u,parseMag l≠.ok u:=fun l hl u hu=>by
    rcases hl with rfl | rfl
    ·unfold parseMag at hu;rw [if_neg (by simp)] at hu;simp only [parseUint10] at hu;rw [if_neg hd] at hu;cases hu
    ·unfold parseMag at hu;simp at hu
   have hr:(c.toNat=43∨c.toNat=45)→r=[]:=fun hs=>by
    rcases hw.2 with q | q | ⟨a,b,e9,q⟩ | ⟨a,e9,-⟩
    ·have:=q c (List.mem_cons_self ..)
     simp only [db,decide_eq_true_eq] at this;omega
    ·have:=q c (List.mem_cons_self ..)
     simp only [dh,decide_eq_true_eq] at this;omega
    ·cases e9;simp only [hZ,Bool.or_eq_true,Bool.and_eq_true,beq_iff_eq] at q;omega
    ·cases e9;rfl
   have hb2:∀ u,parseMag (if c.toNat=43∨c.toNat=45 then r else c :: r)≠.ok u:=by
    by_cases hs:c.toNat=43∨c.toNat=45
    ·rw [if_pos hs];exact hbad r (.inr (hr hs))
    ·rw [if_neg hs];exact hbad _ (.inl rfl)
   cases hp:parseMag (if c.toNat=43∨c.toNat=45 then r else c :: r) with
   | «syntax»=>simp only [hp] at hv;cases hv
   | range=>simp only [hp] at hv;cases hv
   | ok u=>exact hb2 u hp
end Go.Proofs.YtcgjflamgnjhcaaGreatDoor
namespace Go.Proofs.YtcgjflamgnjhcaaGreatDoor
open Go.ChangeShapes Go.WideShapes Go.ChangeAt Go.RowKit
def WQ (s:ByteArray):Prop:=(wordy s.data.toList∨s.data.toList=[])∧s.size≤240
def lU (most:Nat) (s:ByteArray):Int×Bool:=match nO most s with
 | some n=>(n,true)
 | none=>(0,false)
theorem fc (most:Nat) (hm:most≤1000000000) (s:ByteArray) (hw:WQ s) (w:World) (ht:Tabs w) :
  Calls Tryz.prog 151 #[.string s,.int .i64 (most:Int)] w fun e w'=>e=.returned (.tuple #[.int .i64 (lU most s).1,.bool (lU most s).2])∧Below w.heap.size w w':=by
 have hsz:=hw.2;cases hq:nO most s with
 | some n =>
  obtain ⟨h1,h2⟩:=mf hm hq;have AT:=aa (iF s n w (by omega) h1);have e:lU most s=((n:Int),true):=by unfold lU;rw [hq]
  rw [e];have d1:decide ((most:Int) < (n:Int))=false:=by simp;omega
  clear hq h1 e hw hm
  go_enter Tryz.func151,Tryz.ntmps151
  go_wp2_with fail;refine AT.out.mono ?_;rintro e w1 ⟨rfl,hb⟩;have HB:=aa hb;clear hb AT;go_wp2_with fail
  go_ret2
  exact ⟨rfl,HB.out⟩
 | none =>
  have e:lU most s=(0,false):=by unfold lU;rw [hq]
  rw [e];have hno:=pJ hw.1 hq
  by_cases hv:∃ v,Lib.atoiAll s.data.toList=.ok v
  ·obtain ⟨v,hv⟩:=hv;have hlt:=hno v hv;have AT:=aa (iF s v w (by omega) hv);have d1:decide ((most:Int) < v)=true:=by simp;omega
   clear hq hv e hw hm hno hlt
   go_enter Tryz.func151,Tryz.ntmps151
   go_wp2_with fail;refine AT.out.mono ?_;rintro e w1 ⟨rfl,hb⟩;have HB:=aa hb;clear hb AT;go_wp2_with fail
   go_ret2
   exact ⟨rfl,HB.out⟩
  ·have AT:=aa (o9 s w (by omega) (fun v h=>hv ⟨v,h⟩) ht);clear hq hv e hw hm hno
   go_enter Tryz.func151,Tryz.ntmps151
   go_wp2_with fail;refine AT.out.mono ?_;rintro e w1 ⟨v,t,p,rfl,hb⟩;have HB:=aa hb;clear hb AT;go_wp2_with fail
   go_ret2
   exact ⟨rfl,HB.out⟩
end Go.Proofs.YtcgjflamgnjhcaaGreatDoor
