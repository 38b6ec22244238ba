import Derived.Test.YtjlblidnfebmiaaGreatDoorY6
import Derived.Sort.Statements
import Derived.WideShapes
import Derived.WideAt
set_option maxRecDepth 100000
set_option maxHeartbeats 16000000
open Go
namespace Go.Proofs.YtjlblidnfebmiaaGreatDoor
variable{g i:Nat}{l ps:List aj}{most:Int}{us:List ak}
section
open Go.Sort
def cW (us:List ak) (nm:ByteArray):Int:=((us.find? λu=>decide (u.kind=nm)).map ak.many).getD 0
structure lz where
 ab:Int
 pr:Int
 nm:ByteArray
instance:Inhabited lz:=⟨⟨0,0,ByteArray.empty⟩⟩
def ek (x:Int):Int:=if 0<x then 0 else 1
def bJ (a b:ByteArray):Bool:=Op.bytesLess a.toList b.toList
def bN (a b:ByteArray):Int:=if bJ a b=true then -1 else if bJ b a=true then 1 else 0
def dO (a b:Int):Int:=if a=0 then b else a
def rV (a b:lz):Int:=dO (Lib.compareInt (ek a.ab) (ek b.ab)) (dO (Lib.compareInt a.pr b.pr) (dO (Lib.compareInt b.ab a.ab) (bN a.nm b.nm)))
def jN (a b:lz):Bool:=decide (rV a b<0)
def fT (us:List ak) (p:aj):lz:=⟨cW us p.nm - cV p.cs p.cs.length,p.pr,p.nm⟩
theorem uq:∀a b:List UInt8,Op.bytesLess a b=bytesBefore a b
 | [],[]=>rfl
 | _ :: _,[]=>rfl
 | [],_ :: _=>rfl
 | a :: x,b :: y=>by rw[Op.bytesLess,bytesBefore,uq x y]
def dW (b:Bool):Int:=if b=true then 1 else 0
theorem jO(b:Bool):dW b=0\/dW b=1:=by cases b <;> simp[dW]
theorem ur(a:ByteArray):dW (bJ a a)=0:=by simp[dW,bJ,uq,WideAt.bytes_irrefl]
theorem rW(a b c:ByteArray):dW (bJ a b)=1->dW (bJ b c)=1->dW (bJ a c)=1:=by
 simp only[dW,bJ,uq];intro g f;have e:bytesBefore a.toList b.toList=true:=by
  grind
 have d:bytesBefore b.toList c.toList=true:=by
  grind
 rw[WideShapes.bytes_trans _ _ _ e d];rfl
theorem Kv{a b:ByteArray}(h:a.toList=b.toList):a=b:=by
 rw[Qs,Qs] at h;exact ByteArray.ext (Array.toList_inj.mp h)
theorem ut(a b:ByteArray):dW (bJ a b)=0->dW (bJ b a)=0->a=b:=by
 grind[dW,bJ,uq,Kv,WideAt.bytes_total]
theorem wS(a b:ByteArray):dW (bJ a b)=1->dW (bJ b a)=0:=by
 grind[jO,rW,ur]
theorem rX(a b c:ByteArray):dW (bJ a b)=0->dW (bJ b c)=0->dW (bJ a c)=0:=by
 grind[jO,ut,rW]
theorem BI(a b:lz):jN a b=true↔(ek a.ab<ek b.ab\/(ek a.ab=ek b.ab/\(a.pr<b.pr\/(a.pr=b.pr/\(b.ab<a.ab\/(a.ab=b.ab/\dW (bJ a.nm b.nm)=1)))))):=by
 unfold jN rV dO Lib.compareInt bN;have hs:=wS a.nm b.nm;generalize ek a.ab=c;generalize ek b.ab=d;generalize bJ a.nm b.nm=s1 at *;generalize bJ b.nm a.nm=s2 at *;rw[decide_eq_true_iff];cases s1 <;> cases s2 <;> simp[dW] at*<;> (repeat' split) <;> omega
theorem wT(a b:lz):jN a b=false↔¬ (ek a.ab<ek b.ab\/(ek a.ab=ek b.ab/\(a.pr<b.pr\/(a.pr=b.pr/\(b.ab<a.ab\/(a.ab=b.ab/\dW (bJ a.nm b.nm)=1)))))):=by
 rw[<- BI];simp
theorem wU:SWO jN where
 irrefl a:=by
  grind[wT,ur]
 trans a b c h1 h2:=by
  grind[BI,rW]
 ntrans a b c h1 h2:=by
  grind[wT,rX,jO]
theorem Kw{a b:lz}(h:jN a b=false)(j:jN b a=false):a=b:=by
 rw[wT] at *;have f:=ut a.nm b.nm;have i:=jO (bJ a.nm b.nm);have g:=jO (bJ b.nm a.nm);have e:a.pr=b.pr:=by omega
 have c:a.ab=b.ab:=by omega
 have d:=f (by omega) (by omega);cases a;cases b
 simp at e c d
 simp[e,c,d]
def uu (l:List lz):Prop:=l.Pairwise λa b=>jN b a=false
def jl (us:List ak) (l:List aj) (i:Nat):Int:=((l.drop i).map λp=>cW us p.nm).sum
theorem Kx(us:List ak)(l:List aj):jl us l l.length=0:=by simp[jl]
theorem Ky(us:List ak)(h:i<l.length):jl us l i=cW us (aS l i).nm+jl us l (i+1):=by
 grind[jl,List.drop_eq_getElem_cons,aS]
structure fC (us:List ak) (l:List aj) (most:Int) (i g:Nat):Prop where
 lo:i<=g
 hi:g<=l.length
 no:∀j,i<=j->j<g->most<jl us l j
 yes:g<l.length->jl us l g<=most
theorem fC.start(us:List ak)(l:List aj)(a:Int):fC us l a l.length l.length:=⟨lR,lR,λj b c=>by omega,λh=>by omega⟩
theorem fC.stay(h:fC us l most (i+1) g)(a:most<jl us l i):fC us l most i g:=
 ⟨by have:=h.lo;omega,h.hi,λj c b=>by
  by_cases e:j=i
  ·subst e;exact a
  ·exact h.no j (by omega) b,h.yes⟩
theorem fC.here(hi:i<l.length)(a:jl us l i<=most):fC us l most i i:=
 ⟨lR,by omega,λj b c=>by omega,λ_=>a⟩
theorem fC.unique{b:Nat}(h:fC us l most i g)(a:fC us l most i b):g=b:=by
 rcases Nat.lt_trichotomy g b with e|e|e
 ·have c:=a.no g h.lo e;have d:=h.yes (by have:=a.hi;omega);omega
 ·exact e
 ·have c:=h.no b a.lo e;have d:=a.yes (by have:=h.hi;omega);omega
end
theorem Kz(a:List aj):(List.range a.length).map (λj=>aS a j)=a:=by
 apply List.ext_getElem
 ·simp
 ·grind[aS]
def rY (ps:List aj):Prop:=(ps.map aj.nm).Nodup
theorem KA(h:rY ps){a b:aj}(d:a∈ps)(c:b∈ps)(e:a.nm=b.nm):a=b:=by induction ps <;> grind[rY]
theorem KB{d c:List aj}(k:rY ps)(e:d.Perm ps)(f:c.Perm ps)(h:uu (d.map (fT us)))(j:uu (c.map (fT us))):d=c:=by
 refine List.Perm.eq_of_pairwise (le:=λa b=>jN (fT us b) (fT us a)=false) ?_ (List.pairwise_map.1 h) (List.pairwise_map.1 j) (e.trans f.symm);intro a b i g g1 l;exact KA k (e.mem_iff.1 i) (f.mem_iff.1 g) (congrArg lz.nm (Kw (a:=fT us a) (b:=fT us b) l g1))
def o5 (us:List ak):Prop:=∀k,k<us.length->-1125899906842624<=(ar us k).many/\(ar us k).many<=1125899906842624
theorem wV(h:o5 us)(nm:ByteArray):-1125899906842624<=cW us nm/\cW us nm<=1125899906842624:=by
 unfold cW;cases e:us.find? λu=>decide (u.kind=nm) with
 | none=>simp
 | some x=>
  have b:=List.mem_of_find?_eq_some e;obtain⟨k,a,rfl⟩:=List.getElem_of_mem b
  have:=h k a
  simp[ar,a] at this
  simp
  exact this
theorem KC{l:List Int}{B:Int}(h:∀x∈l,-B<=x/\x<=B):-(l.length*B)<=l.sum/\l.sum<=l.length*B:=by
 induction l with
 | nil=>simp
 | cons x l ih=>
  have b:=h x (by simp);have c:=ih λy a=>h y (by simp[a]);rw[List.sum_cons,Qg];have e:((l.length+1:Nat):Int)*B=l.length*B+B:=by grind
  omega
def qv (us:List ak) (qs:List aj) (most:Int) (st:Int × Nat) (x:Nat):Int × Nat:=
 (st.1+cW us (aS qs x).nm,if st.1+cW us (aS qs x).nm<=most then x else st.2)
def gV (us:List ak) (qs:List aj) (most:Int) (pre:List Nat):Int × Nat:=pre.foldl (qv us qs most) (0,qs.length)
theorem BJ(us:List ak)(b:List aj)(a:Int)(pre:List Nat)(x:Nat):gV us b a (pre++[x])=qv us b a (gV us b a pre) x:=by
 grind[gV]
theorem KD(us:List ak)(b:List aj)(a:Int)(pre:List Nat):(gV us b a pre).1=(pre.map λx=>cW us (aS b x).nm).sum:=by
 have fT:∀(pre:List Nat) (c:Int × Nat),(pre.foldl (qv us b a) c).1=c.1+(pre.map λx=>cW us (aS b x).nm).sum:=by
  intro pre
  induction pre with
  | nil=>intro c;simp
  | cons x l ih=>intro c;rw[List.foldl_cons,ih,Qq,List.sum_cons];unfold qv;simp only;omega
 unfold gV;rw[fT];simp
theorem KE(h:o5 us)(b:List aj)(a:Int){pre:List Nat}(d:pre.length<=16):-18014398509481984<=(gV us b a pre).1/\(gV us b a pre).1<=18014398509481984:=by
 rw[KD]
 have:=KC (l:=pre.map λx=>cW us (aS b x).nm) (B:=1125899906842624) (λx c=>by
  obtain⟨p,_,rfl⟩:=Qk.1 c;exact wV h _)
 rw[Q9] at this;omega
def iV (n k:Nat):List Nat:=(List.range k).map λj=>n - 1 - j
theorem BK(n k:Nat):iV n (k+1)=iV n k++[n - 1 - k]:=by grind[iV,List.range_succ]
theorem KF(n k:Nat):(iV n k).length=k:=by simp[iV]
theorem BL(us:List ak)(a:List aj)(b:Int):∀k,k<=a.length->(gV us a b (iV a.length k)).1=jl us a (a.length - k)/\fC us a b (a.length - k) (gV us a b (iV a.length k)).2
 | 0,_=>by
  show (0:Int)=_/\fC us a b _ a.length
  rw[Nat.sub_zero,Kx];exact⟨rfl,fC.start us a b⟩
 | k+1,hk=>by
  obtain⟨h1,h2⟩:=BL us a b k (by omega);rw[BK,BJ];have g:a.length - 1 - k=a.length - (k+1):=by omega
  have d:a.length - k=a.length - (k+1)+1:=by omega
  have Ha:a.length - (k+1)<a.length:=by omega
  have e:=Ky us (l:=a) (i:=a.length - (k+1)) Ha;rw[d] at h1 h2;rw[g];generalize a.length - (k+1)=i at *;unfold qv
  simp only
  rw[h1];have c:jl us a (i+1)+cW us (aS a i).nm=jl us a i:=by rw[e];omega
  rw[c];refine⟨rfl,?_⟩
  by_cases f:jl us a i<=b
  ·grind[fC.here]
  ·rw[if_neg f];exact h2.stay (by omega)
theorem KH(us:List ak)(b:List aj)(a:Int):fC us b a 0 (gV us b a (iV b.length b.length)).2:=by grind[BL]
theorem iQ.high{h l v:Int}(t:iQ h l v)(b:-18014398509481984<=v)(a:v<=18014398509481984):-17179869184<=h/\h<=17179869184:=by
 obtain⟨d,e,c⟩:=t;omega
