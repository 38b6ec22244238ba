import Derived.Test.YtjlblidnfebmiaaGreatDoorTk3
import Derived.WalkKit
import Derived.Lib.Strings
import Derived.Lib.Index
import Derived.Lib.Small
import Derived.Lib.CutLaws
import Derived.Lib.ItoaNum
set_option maxRecDepth 100000
set_option maxHeartbeats 16000000
open Go
namespace Go.Proofs.YtjlblidnfebmiaaGreatDoor

def gw (b:UInt8):Bool:=decide (48<=b.toNat/\b.toNat<=57)
def jH (n:Int) (b:UInt8):Int:=n*10+((b.toNat:Int) - 48)
def bX (l:List UInt8):Int:=l.foldl jH 0
def dX (l:List UInt8):Bool:=l.all gw
def lq:Int:=9223372036854775807
def oL (l:List UInt8):Bool:=!l.isEmpty && !(decide (1<l.length) && (l.headD 0 == 48)) && dX l
def dA (m:Int) (l:List UInt8):Bool:=oL l && decide ((l.length:Int)<=m) && decide (bX l<=lq)

theorem oM(b:UInt8):gw b=true↔48<=b.toNat/\b.toNat<=57:=by simp[gw]
theorem IX(b:UInt8):gw b=false↔¬ (48<=b.toNat/\b.toNat<=57):=by simp[gw]
theorem Ay(l:List UInt8)(b:UInt8):bX (l++[b])=jH (bX l) b:=by simp[bX]
theorem Az(l:List UInt8)(b:UInt8):dX (l++[b])=(dX l && gw b):=by simp[dX]
theorem AA{l:List UInt8}(h:dX l=true):∀n:Int,0<=n->n<=l.foldl jH n:=by induction l <;> grind[dX,oM,jH]
theorem ub{l:List UInt8}(h:dX l=true):0<=bX l:=AA h 0 (Int.le_refl _)
theorem IY(l r:List UInt8):bX (l++r)=r.foldl jH (bX l):=by simp[bX]
theorem IZ{l r:List UInt8}(a:dX l=true)(h:dX r=true):bX l<=bX (l++r):=by
 simp_all[IY,AA,ub]
theorem I0(s:ByteArray)(k:Nat)(h:k<s.size):s.data.toList.take (k+1)=s.data.toList.take k++[s[k]]:=by
 rw[Qa (by simpa using h)];rfl
theorem I1{l:List UInt8}(k:Nat)(h:dX l=true):dX (l.take k)=true:=by
 grind[dX]
theorem I2{l:List UInt8}(k:Nat)(h:dX l=true):bX (l.take k)<=bX l:=by
 have e:=List.take_append_drop k l;have hd:dX (l.drop k)=true:=by
  grind[dX]
 have:=IZ (I1 k h) hd
 rw[e] at this;exact this
theorem oN{m:Int}{l:List UInt8}:dA m l=true↔(l≠[]/\¬ (1<l.length/\l.headD 0=48)/\dX l=true)/\(l.length:Int)<=m/\bX l<=lq:=by grind[dA,oL]
theorem AC(l:List UInt8):oL l=true↔(l≠[]/\¬ (1<l.length/\l.headD 0=48)/\dX l=true):=by grind[oL]
theorem rH(m:Int)(l:List UInt8):dA m l=false↔¬ ((l≠[]/\¬ (1<l.length/\l.headD 0=48)/\dX l=true)/\(l.length:Int)<=m/\bX l<=lq):=by
 rw[<- oN,Bool.not_eq_true]
theorem AD(s:ByteArray)(h:0<s.size):s.data.toList.headD 0=s[0]:=by
 rcases s with⟨⟨l⟩⟩
 cases l with
 | nil=>exact absurd h (by simp[ByteArray.size])
 | cons a r=>rfl
theorem AE{b:UInt8}(n:Nat)(a:n<256):b=UInt8.ofNat n↔b.toNat=n:=by
 constructor
 ·rintro rfl;simp;omega
 ·intro h;rw[<- h];simp
theorem I3{l:List UInt8}(k:Nat)(h:k<l.length)(hd:gw l[k]=false):dX l=false:=by
 cases hh:dX l with
 | false=>rfl
 | true=>
  have:=List.all_eq_true.1 hh _ (List.getElem_mem h)
  rw[this] at hd;cases hd
theorem I4(m:Int){s:ByteArray}(k:Nat)(h:k<s.size)(hd:gw s[k]=false):dA m s.data.toList=false:=by
 rw[rH];rintro⟨⟨_,_,a⟩,_⟩;rw[I3 k (by simpa using h) hd] at a;cases a
theorem I5(m:Int)(s:ByteArray){k:Nat}(h:lq<bX (s.data.toList.take k)):dA m s.data.toList=false:=by
 rw[rH];rintro⟨⟨_,_,a⟩,_,b⟩
 have:=I2 k a
 omega
theorem wv(s:ByteArray):s.toList.isEmpty=decide (s.size=0):=by
 rw[Qs]
 rcases s with⟨⟨l⟩⟩
 cases l <;> simp[ByteArray.size]

def be (c:UInt8):List UInt8->List UInt8 × List UInt8 × Bool
 | []=>([],[],false)
 | b :: l=>if b=c then ([],l,true) else (b :: (be c l).1,(be c l).2.1,(be c l).2.2)
theorem ww(c:UInt8)(l:List UInt8) :
  (Lib.index l [c]=-1/\be c l=(l,[],false))\/∃i:Nat,Lib.index l [c]=i/\be c l=(l.take i,l.drop (i+1),true):=by
 induction l with
 | nil=>exact .inl ⟨rfl,rfl⟩
 | cons b r ih=>
  by_cases h:b=c
  ·grind[Lib.index,be]
  ·have d:([c]:List UInt8).isPrefixOf (b :: r)=false:=by grind
   rcases ih with⟨a,e⟩|⟨i,a,e⟩
   ·grind[Lib.index,be]
   ·refine .inr ⟨i+1,?_,by grind[be]⟩;rw[Lib.index,d,a]
    have:((i:Int) == -1)=false:=by simp
    simp[this]
theorem I6(c:UInt8){l:List UInt8}:Lib.cut l [c]=be c l:=by
 grind[Lib.cut,ww]

theorem I7{l:List UInt8}(h:dX l=true):bX l<10 ^ l.length:=by
 have key_Ost:∀n:Int,l.foldl jH n<(n+1)*10 ^ l.length:=by
  induction l with
  | nil=>intro n;simp;omega
  | cons b r ih=>
   intro n;simp only[dX,List.all_cons,Bool.and_eq_true] at h;have a:=(oM b).1 h.1
   have:=ih h.2 (jH n b)
   simp only[List.foldl_cons,Qg];have d:(jH n b+1)*10 ^ r.length<=((n+1)*10)*10 ^ r.length:=by
    apply Int.mul_le_mul_of_nonneg_right
    ·unfold jH;omega
    ·grind
   have c:((n+1)*10)*10 ^ r.length=(n+1)*10 ^ (r.length+1):=by grind
   omega
 have:=key_Ost 0
 simpa[bX] using this
theorem I8{m:Int}{l:List UInt8}(b:m<=18):dA m l=(oL l && decide ((l.length:Int)<=m)):=by
 cases hn:oL l with
 | false=>simp[dA,hn]
 | true=>
  by_cases a:(l.length:Int)<=m
  ·have hd:=((AC l).1 hn).2.2;have c:=I7 hd;have d:(10:Int) ^ l.length<=10 ^ 18:=by
    have:(10:Nat) ^ l.length<=10 ^ 18:=Nat.pow_le_pow_right (by omega) (by omega)
    exact_mod_cast this
   have:bX l<=lq:=by unfold lq;omega
   simp[dA,hn,a,this]
  ·simp[dA,hn,a]
def iu (n:Nat):List UInt8:=Lib.decDigits n
theorem rI(n:Nat)(h:n<10):iu n=[UInt8.ofNat (48+n)]:=Lib.decDigits_one h
theorem ud(n:Nat)(h:¬ n<10):iu n=iu (n / 10)++[UInt8.ofNat (48+n % 10)]:=by
 grind[iu,Lib.decDigits]
theorem AF(d:Nat)(h:d<10):gw (UInt8.ofNat (48+d))=true/\((UInt8.ofNat (48+d)).toNat:Int) - 48=d:=by
 have e:(UInt8.ofNat (48+d)).toNat=48+d:=by simp;omega
 exact⟨by grind[oM],by rw[e];omega⟩
theorem wy(n:Nat):iu n≠[]:=by
 by_cases h:n<10
 ·grind[rI]
 ·rw[ud n h];simp
theorem rJ(n:Nat):dX (iu n)=true/\bX (iu n)=n:=by
 induction n using Nat.strongRecOn with
 | ind n ih=>
  by_cases h:n<10
  ·obtain⟨a,b⟩:=AF n h;rw[rI n h];exact⟨by show (gw _ && true)=true;rw[a];rfl,by show jH 0 _=_;unfold jH;omega⟩
  ·obtain⟨a,b⟩:=AF (n % 10) (by omega);obtain⟨c,i2⟩:=ih (n / 10) (by omega);rw[ud n h];exact⟨by grind[Az],by grind[Ay,jH]⟩
theorem I9(n:Nat):¬ (1<(iu n).length/\(iu n).headD 0=48):=by
 have key_Ost:0<n->(iu n).headD 0≠48:=by
  induction n using Nat.strongRecOn with
  | ind n ih=>
   intro c
   by_cases h:n<10
   ·rw[rI n h];simp only[List.headD_cons];intro e;have b:=congrArg UInt8.toNat e;have d:(UInt8.ofNat (48+n)).toNat=48+n:=by simp;omega
    rw[d] at b
    simp at b;omega
   ·rw[ud n h]
    have:=ih (n / 10) (by omega) (by omega)
    cases hd:iu (n / 10) with
    | nil=>exact absurd hd (wy _)
    | cons a r=>rw[hd] at this;simpa using this
 by_cases c:0<n
 ·grind
 ·grind[rI]
theorem AG(n:Nat):oL (iu n)=true:=(AC _).2 ⟨wy n,I9 n,(rJ n).1⟩
theorem wA(k n:Nat)(h:n<10 ^ (k+1)):(iu n).length<=k+1:=by induction k generalizing n <;> grind[rI,ud]
theorem Ja(n:Nat)(k:Nat)(a:k+1<=18)(h:n<10 ^ (k+1)):dA ((k+1:Nat):Int) (iu n)=true:=by
 rw[I8 (by omega),AG n]
 have:=wA k n h
 simp;omega
