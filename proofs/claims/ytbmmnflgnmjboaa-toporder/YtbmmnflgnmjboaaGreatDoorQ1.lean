/- Math, Num, VMath, Math2, Math3, Math4 -/
import Derived.Test.YtbmmnflgnmjboaaGreatDoorRows
import Derived.Test.YtbmmnflgnmjboaaGreatDoorTk3
import Derived.WalkKit
import Derived.WalkSpells
import Derived.WalkLawsBesides
import Derived.Laws.Bits64b
import Derived.Lib.Strings
import Derived.Lib.Index
import Derived.Lib.Small
import Derived.Lib.CutLaws
import Derived.Lib.ItoaNum
set_option maxRecDepth 100000
set_option maxHeartbeats 16000000
namespace Go.Proofs.YtbmmnflgnmjboaaGreatDoor
section
namespace Ost

def isDig (b:UInt8):Bool:=decide (48≤b.toNat∧b.toNat≤57)
def step (n:Int) (b:UInt8):Int:=n*10+((b.toNat:Int) - 48)
def val (l:List UInt8):Int:=l.foldl step 0
def allDig (l:List UInt8):Bool:=l.all isDig
def maxI:Int:=9223372036854775807
def isNum (l:List UInt8):Bool:=!l.isEmpty && !(decide (1<l.length) && (l.headD 0 == 48)) && allDig l
def good (m:Int) (l:List UInt8):Bool:=isNum l && decide ((l.length:Int)≤m) && decide (val l≤maxI)

theorem isDig_iff (b:UInt8):isDig b=true↔48≤b.toNat∧b.toNat≤57:=by simp [isDig]
theorem isDig_not (b:UInt8):isDig b=false↔¬ (48≤b.toNat∧b.toNat≤57):=by simp [isDig]
theorem toList_isEmpty (s:ByteArray):s.toList.isEmpty=decide (s.size=0):=by
 rw [ByteArray.toList_eq]
 rcases s with ⟨⟨l⟩⟩
 cases l <;> simp [ByteArray.size]
end Ost
end
section
open Go.RowKit
theorem digit_yes (b:UInt8) (w:World) (h:Ost.isDig b=true) :
  Calls Tryz.prog 84 #[.int .u8 b.toNat] w fun e w'=>e=.returned (.tuple #[.int .i64 (b.toNat - 48),.bool true])∧w'=w:=by
 have h1:=((Ost.isDig_iff b).1 h).1;have h2:=((Ost.isDig_iff b).1 h).2;clear h
 go_enter Tryz.func84,Tryz.ntmps84
 go_wp2
 go_ret2;exact ⟨rfl,rfl⟩
theorem digit_no (b:UInt8) (w:World) (h:Ost.isDig b=false) :
  Calls Tryz.prog 84 #[.int .u8 b.toNat] w fun e w'=>e=.returned (.tuple #[.int .i64 0,.bool false])∧w'=w:=by
 have h1:=(Ost.isDig_not b).1 h;clear h
 by_cases h2:48≤b.toNat
 ·have h3:57<b.toNat:=by omega
  clear h1
  go_enter Tryz.func84,Tryz.ntmps84
  go_wp2
  go_ret2;exact ⟨rfl,rfl⟩
 ·clear h1
  go_enter Tryz.func84,Tryz.ntmps84
  go_wp2
  go_ret2;exact ⟨rfl,rfl⟩
end
section
namespace Sv
def fnvStep (h:Nat) (b:UInt8):Nat:=(h ^^^ b.toNat)*16777619 % 4294967296
def fnv (l:List UInt8):Nat:=l.foldl fnvStep 2166136261
theorem fnv_snoc (l:List UInt8) (b:UInt8):fnv (l++[b])=fnvStep (fnv l) b:=by
 unfold fnv;rw [List.foldl_append,List.foldl_cons,List.foldl_nil]
theorem fnv_lt (l:List UInt8):fnv l<4294967296:=by
 rcases List.eq_nil_or_concat l with rfl|⟨l,b,rfl⟩
 ·unfold fnv;rw [List.foldl_nil];omega
 ·rw [List.concat_eq_append,fnv_snoc];unfold fnvStep;exact Nat.mod_lt _ (by omega)
theorem fnv_take {l:List UInt8} {k:Nat} (h:k<l.length):fnv (l.take (k+1))=fnvStep (fnv (l.take k)) l[k]:=by
 rw [← fnv_snoc,List.take_add_one,List.getElem?_eq_getElem h,Option.toList_some]
theorem xor_lt {a b:Nat} (ha:a<4294967296) (hb:b<4294967296):a ^^^ b<4294967296:=Nat.xor_lt_two_pow (n:=32) ha hb
theorem xor_u32 {a b:Nat} (ha:a<4294967296) (hb:b<4294967296):bits .xor .u32 (a:Int) (b:Int)=((a ^^^ b:Nat):Int):=by
 have h1:(BitVec.ofInt 32 (a:Int)).toNat=a:=by rw [BitVec.toNat_ofInt];omega
 have h2:(BitVec.ofInt 32 (b:Int)).toNat=b:=by rw [BitVec.toNat_ofInt];omega
 show IntKind.u32.wrap ((BitVec.ofInt 32 (a:Int) ^^^ BitVec.ofInt 32 (b:Int)).toNat:Int)=_
 rw [BitVec.toNat_xor,h1,h2]
 have:=xor_lt ha hb
 rw [IntKind.wrap_u32];omega
theorem step_u32 (h:Nat) (b:UInt8):IntKind.u32.wrap (((h ^^^ b.toNat:Nat):Int)*16777619)=(fnvStep h b:Nat):=by
 unfold fnvStep;rw [IntKind.wrap_u32];omega
end Sv
end
section
namespace Ost

def cut1 (c:UInt8):List UInt8→List UInt8 × List UInt8 × Bool
 | []=>([],[],false)
 | b :: l=>if b=c then ([],l,true) else (b :: (cut1 c l).1,(cut1 c l).2.1,(cut1 c l).2.2)
def bound:Option Int→Int × Int
 | none=>(0,4)
 | some v=>if 1000000<v then (0,1) else (v,0)
end Ost
end
section
namespace Ost
end Ost
end
section
namespace Ost
def decN (n:Nat):List UInt8:=Lib.decDigits n
theorem decN_small (n:Nat) (h:n<10):decN n=[UInt8.ofNat (48+n)]:=Lib.decDigits_one h
theorem decN_big (n:Nat) (h:¬ n<10):decN n=decN (n / 10)++[UInt8.ofNat (48+n % 10)]:=by
 unfold decN;rw [Lib.decDigits,dif_neg h]
theorem decN_len (k n:Nat) (h:n<10 ^ (k+1)):(decN n).length≤k+1:=by
 induction k generalizing n with
 | zero=>rw [decN_small n (by simpa using h)];simp
 | succ k ih=>
  by_cases hs:n<10
  ·rw [decN_small n hs];simp
  ·rw [decN_big n hs,List.length_append]
   have:=ih (n / 10) (by rw [Nat.pow_succ] at h;omega)
   simp;omega
end Ost
end
end Go.Proofs.YtbmmnflgnmjboaaGreatDoor
