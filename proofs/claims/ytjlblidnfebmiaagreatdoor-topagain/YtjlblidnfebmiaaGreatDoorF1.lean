import Derived.Test.YtjlblidnfebmiaaGreatDoorTkF
import Derived.WalkKit
import Derived.Laws.Bits64b
import Derived.Lib.Strings
import Derived.Lib.Index
import Derived.Lib.Small
import Derived.Lib.CutLaws
import Derived.Lib.ItoaNum
set_option maxRecDepth 100000
set_option maxHeartbeats 16000000
open Go
namespace Go.Proofs.YtjlblidnfebmiaaGreatDoor

def fL (b:UInt8):Bool:=decide (48<=b.toNat/\b.toNat<=57)
def jj (n:Int) (b:UInt8):Int:=n*10+((b.toNat:Int) - 48)
def bM (l:List UInt8):Int:=l.foldl jj 0
def dL (l:List UInt8):Bool:=l.all fL
def kv:Int:=9223372036854775807
def nk (l:List UInt8):Bool:=!l.isEmpty && !(decide (1<l.length) && (l.headD 0 == 48)) && dL l
def cT (m:Int) (l:List UInt8):Bool:=nk l && decide ((l.length:Int)<=m) && decide (bM l<=kv)

theorem nl(b:UInt8):fL b=true↔48<=b.toNat/\b.toNat<=57:=by simp[fL]
theorem FU(b:UInt8):fL b=false↔¬ (48<=b.toNat/\b.toNat<=57):=by simp[fL]
theorem yJ(l:List UInt8)(b:UInt8):bM (l++[b])=jj (bM l) b:=by simp[bM]
theorem yK(l:List UInt8)(b:UInt8):dL (l++[b])=(dL l && fL b):=by simp[dL]
theorem yL(l:List UInt8)(h:dL l=true):∀n:Int,0<=n->n<=l.foldl jj n:=by induction l <;> grind[dL,nl,jj]
theorem sg(l:List UInt8)(h:dL l=true):0<=bM l:=yL l h 0 (Int.le_refl _)
theorem FV(l r:List UInt8):bM (l++r)=r.foldl jj (bM l):=by simp[bM]
theorem FW(l r:List UInt8)(a:dL l=true)(h:dL r=true):bM l<=bM (l++r):=by
 rw[FV];exact yL r h _ (sg l a)
theorem FX(s:ByteArray)(k:Nat)(h:k<s.size):s.data.toList.take (k+1)=s.data.toList.take k++[s[k]]:=by
 rw[Qa (by simpa using h)];rfl
theorem FY(l:List UInt8)(k:Nat)(h:dL l=true):dL (l.take k)=true:=by grind[dL]
theorem FZ(l:List UInt8)(k:Nat)(h:dL l=true):bM (l.take k)<=bM l:=by
 have e:=List.take_append_drop k l;have hd:dL (l.drop k)=true:=by
  simp only[dL,List.all_eq_true] at h ⊢;exact λx a=>h x (List.mem_of_mem_drop a)
 have:=FW (l.take k) (l.drop k) (FY l k h) hd
 rw[e] at this;exact this
theorem nr(m:Int)(l:List UInt8):cT m l=true↔(l≠[]/\¬ (1<l.length/\l.headD 0=48)/\dL l=true)/\(l.length:Int)<=m/\bM l<=kv:=by grind[cT,nk]
theorem yM(l:List UInt8):nk l=true↔(l≠[]/\¬ (1<l.length/\l.headD 0=48)/\dL l=true):=by grind[nk]
theorem p7(m:Int)(l:List UInt8):cT m l=false↔¬ ((l≠[]/\¬ (1<l.length/\l.headD 0=48)/\dL l=true)/\(l.length:Int)<=m/\bM l<=kv):=by
 rw[<- nr,Bool.not_eq_true]
theorem yN(s:ByteArray)(h:0<s.size):s.data.toList.headD 0=s[0]:=by
 rcases s with⟨⟨l⟩⟩
 cases l with
 | nil=>exact absurd h (by simp[ByteArray.size])
 | cons a r=>rfl
theorem yO(b:UInt8)(n:Nat)(a:n<256):b=UInt8.ofNat n↔b.toNat=n:=by
 constructor
 ·rintro rfl;simp;omega
 ·intro h;rw[<- h];simp
theorem F5(l:List UInt8)(k:Nat)(h:k<l.length)(hd:fL l[k]=false):dL l=false:=by
 cases hh:dL l with
 | false=>rfl
 | true=>
  have:=List.all_eq_true.1 hh _ (List.getElem_mem h)
  rw[this] at hd;cases hd
theorem F7(m:Int)(s:ByteArray)(k:Nat)(h:k<s.size)(hd:fL s[k]=false):cT m s.data.toList=false:=by
 rw[p7];rintro⟨⟨_,_,a⟩,_⟩;rw[F5 s.data.toList k (by simpa using h) hd] at a;cases a
theorem F8(m:Int)(s:ByteArray)(k:Nat)(h:kv<bM (s.data.toList.take k)):cT m s.data.toList=false:=by
 rw[p7];rintro⟨⟨_,_,a⟩,_,b⟩
 have:=FZ s.data.toList k a
 omega
theorem p9(s:ByteArray):s.toList.isEmpty=decide (s.size=0):=by
 rw[Qs]
 rcases s with⟨⟨l⟩⟩
 cases l <;> simp[ByteArray.size]
def oN (h:Nat) (b:UInt8):Nat:=(h ^^^ b.toNat)*16777619 % 4294967296
def eU (l:List UInt8):Nat:=l.foldl oN 2166136261
theorem yP(l:List UInt8)(b:UInt8):eU (l++[b])=oN (eU l) b:=by
 unfold eU;rw[List.foldl_append,List.foldl_cons,List.foldl_nil]
theorem uN(l:List UInt8):eU l<4294967296:=by
 rcases List.eq_nil_or_concat l with rfl|⟨l,b,rfl⟩
 ·unfold eU;rw[List.foldl_nil];omega
 ·rw[List.concat_eq_append,yP];unfold oN;exact Nat.mod_lt _ (by omega)
theorem F9{l:List UInt8}{k:Nat}(h:k<l.length):eU (l.take (k+1))=oN (eU (l.take k)) l[k]:=by grind[yP,List.take_add_one,Option.toList_some]
theorem Ga{a b:Nat}(c:a<4294967296)(d:b<4294967296):a ^^^ b<4294967296:=Nat.xor_lt_two_pow (n:=32) c d
theorem Gb{a b:Nat}(e:a<4294967296)(f:b<4294967296):bits .xor .u32 (a:Int) (b:Int)=((a ^^^ b:Nat):Int):=by
 have c:(BitVec.ofInt 32 (a:Int)).toNat=a:=by rw[BitVec.toNat_ofInt];omega
 have d:(BitVec.ofInt 32 (b:Int)).toNat=b:=by rw[BitVec.toNat_ofInt];omega
 show IntKind.u32.wrap ((BitVec.ofInt 32 (a:Int) ^^^ BitVec.ofInt 32 (b:Int)).toNat:Int)=_
 rw[BitVec.toNat_xor,c,d]
 have:=Ga e f
 rw[IntKind.wrap_u32];omega
theorem Gc(h:Nat)(b:UInt8):IntKind.u32.wrap (((h ^^^ b.toNat:Nat):Int)*16777619)=(oN h b:Nat):=by
 unfold oN;rw[IntKind.wrap_u32];omega

def aT (c:UInt8):List UInt8->List UInt8 × List UInt8 × Bool
 | []=>([],[],false)
 | b :: l=>if b=c then ([],l,true) else (b :: (aT c l).1,(aT c l).2.1,(aT c l).2.2)
theorem uO(c:UInt8)(l:List UInt8) :
  (Lib.index l [c]=-1/\aT c l=(l,[],false))\/∃i:Nat,Lib.index l [c]=i/\aT c l=(l.take i,l.drop (i+1),true):=by
 induction l with
 | nil=>exact .inl ⟨rfl,rfl⟩
 | cons b r ih=>
  by_cases h:b=c
  ·subst h;exact .inr ⟨0,by simp[Lib.index],by simp[aT]⟩
  ·have f:([c]:List UInt8).isPrefixOf (b :: r)=false:=by simp[List.isPrefixOf];exact λe=>h e.symm
   rcases ih with⟨a,d⟩|⟨i,a,d⟩
   ·exact .inl ⟨by rw[Lib.index,f];simp[a],by rw[aT,if_neg h,d]⟩
   ·refine .inr ⟨i+1,?_,by rw[aT,if_neg h,d];simp⟩;rw[Lib.index,f,a]
    have:((i:Int) == -1)=false:=by simp
    simp[this]
theorem Gd(c:UInt8)(l:List UInt8):Lib.cut l [c]=aT c l:=by
 unfold Lib.cut
 rcases uO c l with⟨a,b⟩|⟨i,a,b⟩
 ·rw[a,b];simp
 ·rw[a,b];simp

def WC:Option Int->Int × Int
 | none=>(0,4)
 | some v=>if 1000000<v then (0,1) else (v,0)
theorem Ge(l:List UInt8)(h:dL l=true):bM l<10 ^ l.length:=by
 have key_Ost:∀n:Int,l.foldl jj n<(n+1)*10 ^ l.length:=by
  induction l with
  | nil=>intro n;simp;omega
  | cons b r ih=>
   intro n;simp only[dL,List.all_cons,Bool.and_eq_true] at h;have a:=(nl b).1 h.1
   have:=ih h.2 (jj n b)
   simp only[List.foldl_cons,Qg];have c:(jj n b+1)*10 ^ r.length<=((n+1)*10)*10 ^ r.length:=by
    apply Int.mul_le_mul_of_nonneg_right
    ·unfold jj;omega
    ·exact Int.pow_nonneg (by omega)
   have d:((n+1)*10)*10 ^ r.length=(n+1)*10 ^ (r.length+1):=by rw[Int.pow_succ,Int.mul_assoc,Int.mul_comm 10]
   omega
 have:=key_Ost 0
 simpa[bM] using this
theorem yQ(n:Int):bits .and .i64 n 1073741823=n % 1073741824:=by
 have b:(BitVec.ofInt 64 n).toNat=(n % 18446744073709551616).toNat:=by rw[BitVec.toNat_ofInt];rfl
 have a:(BitVec.ofInt 64 (1073741823:Int)).toNat=2 ^ 30 - 1:=by decide
 show IntKind.i64.wrap ((BitVec.ofInt 64 n &&& BitVec.ofInt 64 (1073741823:Int)).toNat:Int)=_
 rw[BitVec.toNat_and,b,a,Nat.and_two_pow_sub_one_eq_mod,IntKind.wrap_i64];omega
def ip (h l v:Int):Prop:=0<=l/\l<1073741824/\h*1073741824+l=v
theorem ip.zero:ip 0 0 0:=⟨by omega,by omega,by omega⟩
theorem ip.le{h l v a c b:Int}(t:ip h l v)(t':ip a c b):(h<a\/(h=a/\l<=c))↔v<=b:=by
 obtain⟨e,f,g⟩:=t;obtain⟨g1,d,g3⟩:=t';omega
theorem Gf(m:Int)(l:List UInt8)(b:m<=18):cT m l=(nk l && decide ((l.length:Int)<=m)):=by
 cases hn:nk l with
 | false=>simp[cT,hn]
 | true=>
  by_cases a:(l.length:Int)<=m
  ·have hd:=((yM l).1 hn).2.2;have c:=Ge l hd;have d:(10:Int) ^ l.length<=10 ^ 18:=by
    have:(10:Nat) ^ l.length<=10 ^ 18:=Nat.pow_le_pow_right (by omega) (by omega)
    exact_mod_cast this
   have:bM l<=kv:=by unfold kv;omega
   simp[cT,hn,a,this]
  ·simp[cT,hn,a]
def gT (n:Nat):List UInt8:=Lib.decDigits n
theorem qb(n:Nat)(h:n<10):gT n=[UInt8.ofNat (48+n)]:=Lib.decDigits_one h
theorem si(n:Nat)(h:¬ n<10):gT n=gT (n / 10)++[UInt8.ofNat (48+n % 10)]:=by
 unfold gT;rw[Lib.decDigits,dif_neg h]
theorem yR(d:Nat)(h:d<10):fL (UInt8.ofNat (48+d))=true/\((UInt8.ofNat (48+d)).toNat:Int) - 48=d:=by
 have e:(UInt8.ofNat (48+d)).toNat=48+d:=by simp;omega
 exact⟨by rw[nl,e];omega,by rw[e];omega⟩
theorem uP(n:Nat):gT n≠[]:=by
 by_cases h:n<10
 ·rw[qb n h];simp
 ·rw[si n h];simp
theorem qd(n:Nat):dL (gT n)=true/\bM (gT n)=n:=by
 induction n using Nat.strongRecOn with
 | ind n ih=>
  by_cases h:n<10
  ·obtain⟨a,b⟩:=yR n h;rw[qb n h];exact⟨by show (fL _ && true)=true;rw[a];rfl,by show jj 0 _=_;unfold jj;omega⟩
  ·obtain⟨a,b⟩:=yR (n % 10) (by omega);obtain⟨c,i2⟩:=ih (n / 10) (by omega);rw[si n h];exact⟨by rw[yK,c,a];rfl,by rw[yJ,i2];unfold jj;omega⟩
theorem Gg(n:Nat):¬ (1<(gT n).length/\(gT n).headD 0=48):=by
 have key_Ost:0<n->(gT n).headD 0≠48:=by
  induction n using Nat.strongRecOn with
  | ind n ih=>
   intro b
   by_cases h:n<10
   ·rw[qb n h];simp only[List.headD_cons];intro e;have c:=congrArg UInt8.toNat e;have d:(UInt8.ofNat (48+n)).toNat=48+n:=by simp;omega
    rw[d] at c
    simp at c;omega
   ·rw[si n h]
    have:=ih (n / 10) (by omega) (by omega)
    cases hd:gT (n / 10) with
    | nil=>exact absurd hd (uP _)
    | cons a r=>rw[hd] at this;simpa using this
 by_cases b:0<n
 ·exact λh=>key_Ost b h.2
 ·have:n=0:=by omega
  subst this;rw[qb 0 (by omega)];simp
theorem yS(n:Nat):nk (gT n)=true:=(yM _).2 ⟨uP n,Gg n,(qd n).1⟩
theorem uQ(k n:Nat)(h:n<10 ^ (k+1)):(gT n).length<=k+1:=by induction k generalizing n <;> grind[qb,si]
theorem Gh(n:Nat)(k:Nat)(a:k+1<=18)(h:n<10 ^ (k+1)):cT ((k+1:Nat):Int) (gT n)=true:=by
 rw[Gf _ _ (by omega),yS n]
 have:=uQ k n h
 simp;omega
