import Derived.Test.YtbmmnflgnmjboaaGreatDoorRows
import Derived.Test.YtbmmnflgnmjboaaGreatDoorTk3
import Derived.WalkKit
import Derived.WalkSpells
import Derived.WalkLawsBesides
import Derived.Laws.Bits64b
import Derived.Lib.Strings
import Derived.Lib.Index
import Derived.Lib.Small
import Derived.Lib.CutLaws
import Derived.Lib.ItoaNum
set_option maxRecDepth 100000
set_option maxHeartbeats 16000000
namespace Go.Proofs.YtbmmnflgnmjboaaGreatDoor
section
namespace Ost

def jj (b:UInt8):Bool:=decide (48<=b.toNat/\b.toNat<=57)
def step (n:Int) (b:UInt8):Int:=n*10+((b.toNat:Int) - 48)
def val (l:List UInt8):Int:=l.foldl step 0
def Ae (l:List UInt8):Bool:=l.all jj
def Af:Int:=9223372036854775807
def iH (l:List UInt8):Bool:=!l.isEmpty && !(decide (1<l.length) && (l.headD 0 == 48)) && Ae l
def good (m:Int) (l:List UInt8):Bool:=iH l && decide ((l.length:Int)<=m) && decide (val l<=Af)

theorem sN (b:UInt8):jj b=true↔48<=b.toNat/\b.toNat<=57:=by simp [jj]
theorem Ag (b:UInt8):jj b=false↔¬ (48<=b.toNat/\b.toNat<=57):=by simp [jj]
theorem sO (s:ByteArray):s.toList.isEmpty=decide (s.size=0):=by
 rw [Qs]
 rcases s with ⟨⟨l⟩⟩
 cases l <;> simp [ByteArray.size]
end Ost
end
section
open RowKit
theorem Ah (b:UInt8) (w:World) (h:Ost.jj b=true) :
  Calls Tryz.prog 84 #[.int .u8 b.toNat] w λe w'=>e=.returned (.tuple #[.int .i64 (b.toNat - 48),.bool true])/\w'=w:=by
 have h1:=((Ost.sN b).1 h).1;have h2:=((Ost.sN b).1 h).2;clear h
 go_enter Tryz.func84,Tryz.ntmps84
 go_wp2
 go_ret2;exact ⟨rfl,rfl⟩
theorem Ai (b:UInt8) (w:World) (h:Ost.jj b=false) :
  Calls Tryz.prog 84 #[.int .u8 b.toNat] w λe w'=>e=.returned (.tuple #[.int .i64 0,.bool false])/\w'=w:=by
 have h1:=(Ost.Ag b).1 h;clear h
 by_cases h2:48<=b.toNat
 ·have h3:57<b.toNat:=by omega
  clear h1
  go_enter Tryz.func84,Tryz.ntmps84
  go_wp2
  go_ret2;exact ⟨rfl,rfl⟩
 ·clear h1
  go_enter Tryz.func84,Tryz.ntmps84
  go_wp2
  go_ret2;exact ⟨rfl,rfl⟩
end
section
namespace Sv
def kH (h:Nat) (b:UInt8):Nat:=(h ^^^ b.toNat)*16777619 % 4294967296
def fnv (l:List UInt8):Nat:=l.foldl kH 2166136261
theorem sP (l:List UInt8) (b:UInt8):fnv (l++[b])=kH (fnv l) b:=by
 unfold fnv;rw [List.foldl_append,List.foldl_cons,List.foldl_nil]
theorem pq (l:List UInt8):fnv l<4294967296:=by
 rcases List.eq_nil_or_concat l with rfl|⟨l,b,rfl⟩
 ·unfold fnv;rw [List.foldl_nil];omega
 ·rw [List.concat_eq_append,sP];unfold kH;exact Nat.mod_lt _ (by omega)
theorem Aj {l:List UInt8} {k:Nat} (h:k<l.length):fnv (l.take (k+1))=kH (fnv (l.take k)) l[k]:=by
 rw [<- sP,List.take_add_one,Qf h,Option.toList_some]
theorem Ak {a b:Nat} (ha:a<4294967296) (hb:b<4294967296):a ^^^ b<4294967296:=Nat.xor_lt_two_pow (n:=32) ha hb
theorem Al {a b:Nat} (ha:a<4294967296) (hb:b<4294967296):bits .xor .u32 (a:Int) (b:Int)=((a ^^^ b:Nat):Int):=by
 have h1:(BitVec.ofInt 32 (a:Int)).toNat=a:=by rw [BitVec.toNat_ofInt];omega
 have h2:(BitVec.ofInt 32 (b:Int)).toNat=b:=by rw [BitVec.toNat_ofInt];omega
 show IntKind.u32.wrap ((BitVec.ofInt 32 (a:Int) ^^^ BitVec.ofInt 32 (b:Int)).toNat:Int)=_
 rw [BitVec.toNat_xor,h1,h2]
 have:=Ak ha hb
 rw [IntKind.wrap_u32];omega
theorem Am (h:Nat) (b:UInt8):IntKind.u32.wrap (((h ^^^ b.toNat:Nat):Int)*16777619)=(kH h b:Nat):=by
 unfold kH;rw [IntKind.wrap_u32];omega
end Sv
end
section
namespace Ost

def dp (c:UInt8):List UInt8->List UInt8 × List UInt8 × Bool
 | []=>([],[],false)
 | b :: l=>if b=c then ([],l,true) else (b :: (dp c l).1,(dp c l).2.1,(dp c l).2.2)
def bound:Option Int->Int × Int
 | none=>(0,4)
 | some v=>if 1000000<v then (0,1) else (v,0)
end Ost
end
section
namespace Qos
theorem sQ (n:Int):bits .and .i64 n 1073741823=n % 1073741824:=by
 have h1:(BitVec.ofInt 64 n).toNat=(n % 18446744073709551616).toNat:=by rw [BitVec.toNat_ofInt];rfl
 have h2:(BitVec.ofInt 64 (1073741823:Int)).toNat=2 ^ 30 - 1:=by decide
 show IntKind.i64.wrap ((BitVec.ofInt 64 n &&& BitVec.ofInt 64 (1073741823:Int)).toNat:Int)=_
 rw [BitVec.toNat_and,h1,h2,Nat.and_two_pow_sub_one_eq_mod,IntKind.wrap_i64];omega
def Tot (h l v:Int):Prop:=0<=l/\l<1073741824/\h*1073741824+l=v
theorem Tot.zero:Tot 0 0 0:=⟨by omega,by omega,by omega⟩
theorem Tot.le {h l v h' l' v':Int} (t:Tot h l v) (t':Tot h' l' v'):(h<h'\/(h=h'/\l<=l'))↔v<=v':=by
 obtain ⟨h1,h2,h3⟩:=t;obtain ⟨g1,g2,g3⟩:=t';omega
end Qos
end
section
namespace Ost
end Ost
end
section
namespace Ost
def lM (n:Nat):List UInt8:=Lib.decDigits n
theorem sR (n:Nat) (h:n<10):lM n=[UInt8.ofNat (48+n)]:=Lib.decDigits_one h
theorem An (n:Nat) (h:¬ n<10):lM n=lM (n / 10)++[UInt8.ofNat (48+n % 10)]:=by
 unfold lM;rw [Lib.decDigits,dif_neg h]
theorem Ao (k n:Nat) (h:n<10 ^ (k+1)):(lM n).length<=k+1:=by
 induction k generalizing n with
 | zero=>rw [sR n (by simpa using h)];simp
 | succ k ih=>
  by_cases hs:n<10
  ·rw [sR n hs];simp
  ·rw [An n hs,Q2]
   have:=ih (n / 10) (by rw [Nat.pow_succ] at h;omega)
   simp;omega
end Ost
end
