import Derived.Test.YtjlblidnfebmiaaGreatDoorTkE
import Derived.WalkKit
import Derived.Laws.Bits64b
import Derived.Lib.Strings
import Derived.Lib.Index
import Derived.Lib.Small
import Derived.Lib.CutLaws
import Derived.Lib.ItoaNum
set_option maxRecDepth 100000
set_option maxHeartbeats 16000000
open Go
namespace Go.Proofs.YtjlblidnfebmiaaGreatDoor

def fC (b:UInt8):Bool:=decide (48<=b.toNat/\b.toNat<=57)
def i7 (n:Int) (b:UInt8):Int:=n*10+((b.toNat:Int) - 48)
def bG (l:List UInt8):Int:=l.foldl i7 0
def dB (l:List UInt8):Bool:=l.all fC
def kb:Int:=9223372036854775807
def mY (l:List UInt8):Bool:=!l.isEmpty && !(decide (1<l.length) && (l.headD 0 == 48)) && dB l
def cQ (m:Int) (l:List UInt8):Bool:=mY l && decide ((l.length:Int)<=m) && decide (bG l<=kb)

theorem mZ (b:UInt8):fC b=true↔48<=b.toNat/\b.toNat<=57:=by simp [fC]
theorem Fp (b:UInt8):fC b=false↔¬ (48<=b.toNat/\b.toNat<=57):=by simp [fC]
theorem yj (l:List UInt8) (b:UInt8):bG (l++[b])=i7 (bG l) b:=by simp [bG]
theorem yl (l:List UInt8) (b:UInt8):dB (l++[b])=(dB l && fC b):=by simp [dB]
theorem ym (l:List UInt8) (h:dB l=true):∀ n:Int,0<=n->n<=l.foldl i7 n:=by induction l <;> grind [dB,mZ,i7]
theorem rE (l:List UInt8) (h:dB l=true):0<=bG l:=ym l h 0 (Int.le_refl _)
theorem Fq (l r:List UInt8):bG (l++r)=r.foldl i7 (bG l):=by simp [bG]
theorem Fr (l r:List UInt8) (a:dB l=true) (h:dB r=true):bG l<=bG (l++r):=by
 rw [Fq];exact ym r h _ (rE l a)
theorem Fs (s:ByteArray) (k:Nat) (h:k<s.size):s.data.toList.take (k+1)=s.data.toList.take k++[s[k]]:=by
 rw [Qa (by simpa using h)];rfl
theorem Ft (l:List UInt8) (k:Nat) (h:dB l=true):dB (l.take k)=true:=by grind [dB]
theorem Fu (l:List UInt8) (k:Nat) (h:dB l=true):bG (l.take k)<=bG l:=by
 have e:=List.take_append_drop k l;have hd:dB (l.drop k)=true:=by
  simp only [dB,List.all_eq_true] at h ⊢;exact λx a=>h x (List.mem_of_mem_drop a)
 have:=Fr (l.take k) (l.drop k) (Ft l k h) hd
 rw [e] at this;exact this
theorem m5 (m:Int) (l:List UInt8):cQ m l=true↔(l≠[]/\¬ (1<l.length/\l.headD 0=48)/\dB l=true)/\(l.length:Int)<=m/\bG l<=kb:=by grind [cQ,mY]
theorem yo (l:List UInt8):mY l=true↔(l≠[]/\¬ (1<l.length/\l.headD 0=48)/\dB l=true):=by grind [mY]
theorem pL (m:Int) (l:List UInt8):cQ m l=false↔¬ ((l≠[]/\¬ (1<l.length/\l.headD 0=48)/\dB l=true)/\(l.length:Int)<=m/\bG l<=kb):=by
 rw [<- m5,Bool.not_eq_true]
theorem yq (s:ByteArray) (h:0<s.size):s.data.toList.headD 0=s[0]:=by
 rcases s with ⟨⟨l⟩⟩
 cases l with
 | nil=>exact absurd h (by simp [ByteArray.size])
 | cons a r=>rfl
theorem yr (b:UInt8) (n:Nat) (a:n<256):b=UInt8.ofNat n↔b.toNat=n:=by
 constructor
 ·rintro rfl;simp;omega
 ·intro h;rw [<- h];simp
theorem Fv (l:List UInt8) (k:Nat) (h:k<l.length) (hd:fC l[k]=false):dB l=false:=by
 cases hh:dB l with
 | false=>rfl
 | true=>
  have:=List.all_eq_true.1 hh _ (List.getElem_mem h)
  rw [this] at hd;cases hd
theorem Fw (m:Int) (s:ByteArray) (k:Nat) (h:k<s.size) (hd:fC s[k]=false):cQ m s.data.toList=false:=by
 rw [pL];rintro ⟨⟨_,_,a⟩,_⟩;rw [Fv s.data.toList k (by simpa using h) hd] at a;cases a
theorem Fx (m:Int) (s:ByteArray) (k:Nat) (h:kb<bG (s.data.toList.take k)):cQ m s.data.toList=false:=by
 rw [pL];rintro ⟨⟨_,_,a⟩,_,b⟩
 have:=Fu s.data.toList k a
 omega
theorem pM (s:ByteArray):s.toList.isEmpty=decide (s.size=0):=by
 rw [Qs]
 rcases s with ⟨⟨l⟩⟩
 cases l <;> simp [ByteArray.size]
def oy (h:Nat) (b:UInt8):Nat:=(h ^^^ b.toNat)*16777619 % 4294967296
def eL (l:List UInt8):Nat:=l.foldl oy 2166136261
theorem yt (l:List UInt8) (b:UInt8):eL (l++[b])=oy (eL l) b:=by
 unfold eL;rw [List.foldl_append,List.foldl_cons,List.foldl_nil]
theorem uq (l:List UInt8):eL l<4294967296:=by
 rcases List.eq_nil_or_concat l with rfl|⟨l,b,rfl⟩
 ·unfold eL;rw [List.foldl_nil];omega
 ·rw [List.concat_eq_append,yt];unfold oy;exact Nat.mod_lt _ (by omega)
theorem Fy {l:List UInt8} {k:Nat} (h:k<l.length):eL (l.take (k+1))=oy (eL (l.take k)) l[k]:=by grind [yt,List.take_add_one,Option.toList_some]
theorem Fz {a b:Nat} (d:a<4294967296) (c:b<4294967296):a ^^^ b<4294967296:=Nat.xor_lt_two_pow (n:=32) d c
theorem FA {a b:Nat} (c:a<4294967296) (d:b<4294967296):bits .xor .u32 (a:Int) (b:Int)=((a ^^^ b:Nat):Int):=by
 have f:(BitVec.ofInt 32 (a:Int)).toNat=a:=by rw [BitVec.toNat_ofInt];omega
 have e:(BitVec.ofInt 32 (b:Int)).toNat=b:=by rw [BitVec.toNat_ofInt];omega
 show IntKind.u32.wrap ((BitVec.ofInt 32 (a:Int) ^^^ BitVec.ofInt 32 (b:Int)).toNat:Int)=_
 rw [BitVec.toNat_xor,f,e]
 have:=Fz c d
 rw [IntKind.wrap_u32];omega
theorem FB (h:Nat) (b:UInt8):IntKind.u32.wrap (((h ^^^ b.toNat:Nat):Int)*16777619)=(oy h b:Nat):=by
 unfold oy;rw [IntKind.wrap_u32];omega

def aS (c:UInt8):List UInt8->List UInt8 × List UInt8 × Bool
 | []=>([],[],false)
 | b :: l=>if b=c then ([],l,true) else (b :: (aS c l).1,(aS c l).2.1,(aS c l).2.2)
theorem ur (c:UInt8) (l:List UInt8) :
  (Lib.index l [c]=-1/\aS c l=(l,[],false))\/∃ i:Nat,Lib.index l [c]=i/\aS c l=(l.take i,l.drop (i+1),true):=by
 induction l with
 | nil=>exact .inl ⟨rfl,rfl⟩
 | cons b r ih=>
  by_cases h:b=c
  ·subst h;exact .inr ⟨0,by simp [Lib.index],by simp [aS]⟩
  ·have f:([c]:List UInt8).isPrefixOf (b :: r)=false:=by simp [List.isPrefixOf];exact λe=>h e.symm
   rcases ih with ⟨d,a⟩|⟨i,d,a⟩
   ·exact .inl ⟨by rw [Lib.index,f];simp [d],by rw [aS,if_neg h,a]⟩
   ·refine .inr ⟨i+1,?_,by rw [aS,if_neg h,a];simp⟩;rw [Lib.index,f,d]
    have:((i:Int) == -1)=false:=by simp
    simp [this]
theorem FC (c:UInt8) (l:List UInt8):Lib.cut l [c]=aS c l:=by
 unfold Lib.cut
 rcases ur c l with ⟨b,a⟩|⟨i,b,a⟩
 ·rw [b,a];simp
 ·rw [b,a];simp

def Vn:Option Int->Int × Int
 | none=>(0,4)
 | some v=>if 1000000<v then (0,1) else (v,0)
theorem FD (l:List UInt8) (h:dB l=true):bG l<10 ^ l.length:=by
 have key_Ost:∀ n:Int,l.foldl i7 n<(n+1)*10 ^ l.length:=by
  induction l with
  | nil=>intro n;simp;omega
  | cons b r ih=>
   intro n;simp only [dB,List.all_cons,Bool.and_eq_true] at h;have c:=(mZ b).1 h.1
   have:=ih h.2 (i7 n b)
   simp only [List.foldl_cons,Qg];have d:(i7 n b+1)*10 ^ r.length<=((n+1)*10)*10 ^ r.length:=by
    apply Int.mul_le_mul_of_nonneg_right
    ·unfold i7;omega
    ·exact Int.pow_nonneg (by omega)
   have a:((n+1)*10)*10 ^ r.length=(n+1)*10 ^ (r.length+1):=by rw [Int.pow_succ,Int.mul_assoc,Int.mul_comm 10]
   omega
 have:=key_Ost 0
 simpa [bG] using this
def Vo (h l v:Int):Prop:=0<=l/\l<1073741824/\h*1073741824+l=v
theorem FE (m:Int) (l:List UInt8) (b:m<=18):cQ m l=(mY l && decide ((l.length:Int)<=m)):=by
 cases hn:mY l with
 | false=>simp [cQ,hn]
 | true=>
  by_cases a:(l.length:Int)<=m
  ·have hd:=((yo l).1 hn).2.2;have d:=FD l hd;have c:(10:Int) ^ l.length<=10 ^ 18:=by
    have:(10:Nat) ^ l.length<=10 ^ 18:=Nat.pow_le_pow_right (by omega) (by omega)
    exact_mod_cast this
   have:bG l<=kb:=by unfold kb;omega
   simp [cQ,hn,a,this]
  ·simp [cQ,hn,a]
def gF (n:Nat):List UInt8:=Lib.decDigits n
theorem pN (n:Nat) (h:n<10):gF n=[UInt8.ofNat (48+n)]:=Lib.decDigits_one h
theorem rF (n:Nat) (h:¬ n<10):gF n=gF (n / 10)++[UInt8.ofNat (48+n % 10)]:=by
 unfold gF;rw [Lib.decDigits,dif_neg h]
theorem yv (d:Nat) (h:d<10):fC (UInt8.ofNat (48+d))=true/\((UInt8.ofNat (48+d)).toNat:Int) - 48=d:=by
 have e:(UInt8.ofNat (48+d)).toNat=48+d:=by simp;omega
 exact ⟨by rw [mZ,e];omega,by rw [e];omega⟩
theorem ut (n:Nat):gF n≠[]:=by
 by_cases h:n<10
 ·rw [pN n h];simp
 ·rw [rF n h];simp
theorem pO (n:Nat):dB (gF n)=true/\bG (gF n)=n:=by
 induction n using Nat.strongRecOn with
 | ind n ih=>
  by_cases h:n<10
  ·obtain ⟨a,b⟩:=yv n h;rw [pN n h];exact ⟨by show (fC _ && true)=true;rw [a];rfl,by show i7 0 _=_;unfold i7;omega⟩
  ·obtain ⟨a,b⟩:=yv (n % 10) (by omega);obtain ⟨c,i2⟩:=ih (n / 10) (by omega);rw [rF n h];exact ⟨by rw [yl,c,a];rfl,by rw [yj,i2];unfold i7;omega⟩
theorem FF (n:Nat):¬ (1<(gF n).length/\(gF n).headD 0=48):=by
 have key_Ost:0<n->(gF n).headD 0≠48:=by
  induction n using Nat.strongRecOn with
  | ind n ih=>
   intro c
   by_cases h:n<10
   ·rw [pN n h];simp only [List.headD_cons];intro e;have b:=congrArg UInt8.toNat e;have d:(UInt8.ofNat (48+n)).toNat=48+n:=by simp;omega
    rw [d] at b
    simp at b;omega
   ·rw [rF n h]
    have:=ih (n / 10) (by omega) (by omega)
    cases hd:gF (n / 10) with
    | nil=>exact absurd hd (ut _)
    | cons a r=>rw [hd] at this;simpa using this
 by_cases c:0<n
 ·exact λh=>key_Ost c h.2
 ·have:n=0:=by omega
  subst this;rw [pN 0 (by omega)];simp
theorem yw (n:Nat):mY (gF n)=true:=(yo _).2 ⟨ut n,FF n,(pO n).1⟩
theorem uu (k n:Nat) (h:n<10 ^ (k+1)):(gF n).length<=k+1:=by induction k generalizing n <;> grind [pN,rF]
theorem FG (n:Nat) (k:Nat) (a:k+1<=18) (h:n<10 ^ (k+1)):cQ ((k+1:Nat):Int) (gF n)=true:=by
 rw [FE _ _ (by omega),yw n]
 have:=uu k n h
 simp;omega
