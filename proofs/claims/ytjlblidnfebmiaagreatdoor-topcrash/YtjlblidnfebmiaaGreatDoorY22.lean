import Derived.Test.YtjlblidnfebmiaaGreatDoorY20
set_option maxRecDepth 100000
set_option maxHeartbeats 16000000
open Go Go.RowKit Go.Shelf
namespace Go.Proofs.YtjlblidnfebmiaaGreatDoor
variable{hs:List ae}{s:Dk}{t:ByteArray}
structure Holds (s:Dk) (hs:List ae):Prop where
 up:s.d=false
 ft:s.n.ft=true
 fb:s.n.fb=⟨(bw hs).toArray⟩
 hf:bS hs=0
 len:(bw hs).length<=6000
 ok:nE hs
theorem Holds.load(h:Holds s hs):s.load=(0,hs):=by
 unfold Dk.load;rw[if_neg (by rw[h.up];decide),if_pos h.ft,h.fb]
 show iF (bw hs).toArray.toList=_
 rw[List.toList_toArray];exact QM h.ok h.hf h.len
theorem Holds.size(h:Holds s hs):s.n.fb.data.toList.length<=1000000:=by
 rw[h.fb]
 show (bw hs).toArray.toList.length<=_
 rw[List.toList_toArray];exact Q5 h.len (by decide)
theorem El{k:Nat}(h:(Dk.act t k s).1≠0):(k=0/\(Dk.act t k s).1=2/\(Dk.act t k s).2=s)\/((Dk.act t k s).1=11/\(Dk.act t k s).2=s.fall):=by
 grind[Dk.act,Dk.write,Dk.apply,Dk.sync]
theorem yx(s:Dk)(t:ByteArray):(s.err t 0=0/\s.err t 1=0/\s.err t 2=0/\s.err t 3=0/\s.from t 0=(0,s.run t 4))\/∃k,k<4/\(∀j,j<k->s.err t j=0)/\s.err t k≠0/\s.from t 0=(s.err t k,s.run t (k+1)):=by
 by_cases a:s.err t 0=0
 ·by_cases b:s.err t 1=0
  ·grind[Dk.from_yes,Dk.from_end,Dk.from_no]
  ·grind[Dk.from_yes,Dk.from_no]
 ·grind[Dk.from_no]
theorem Em(h:s.err t 0=0):t.size<=6000:=by
 have a:(s.write t).1=0:=h;unfold Dk.write at a
 by_cases b:6000<t.size
 ·grind
 ·omega
theorem yy(b:∀h∈hs,∀g∈h.gs,g.cp<18446744073709551616)(h:(s.save hs).1=0):Holds (s.save hs).2 hs/\(s.save hs).2.k=(s.save hs).2.n/\(s.save hs).2.wt=none:=by
 unfold Dk.save at h ⊢
 by_cases hf:bS hs=0
 ·rw[if_pos hf] at h ⊢
  rcases yx s ⟨(bw hs).toArray⟩ with⟨a,d,f,c,e⟩|⟨k,_,_,a,e⟩
  ·have i:=Em a;rw[e,D5 a d f c];exact⟨⟨rfl,rfl,rfl,hf,by grind[ByteArray.size],si hf b⟩,rfl,rfl⟩
  ·grind
 ·grind
theorem Ro(c:s.l<0)(ah:s.d=false)(hf:bS hs=0)(j:(bw hs).length<=6000):(s.save hs).1=0:=by
 have g:∀l:Int,l<0->cN l false=0:=λl h=>by grind[cN]
 have i:∀l:Int,l<0->bn l false=l:=λl h=>by grind[bn]
 obtain⟨n,k,wt,l,d⟩:=s;dsimp only at c ah;subst ah;unfold Dk.save;rw[if_pos hf];have Ha:¬ 6000<(ByteArray.mk (bw hs).toArray).size:=by grind[ByteArray.size]
 generalize ByteArray.mk (bw hs).toArray=t at *;have a:Dk.err ⟨n,k,wt,l,false⟩ t 0=0:=by
  show (Dk.write _ t).1=0
  unfold Dk.write;rw[if_neg Ha];unfold Dk.apply;rw[if_pos (show cN (Dk.run ⟨n,k,wt,l,false⟩ t 0).l (Dk.run ⟨n,k,wt,l,false⟩ t 0).d=0 from g l c)]
 have b:Dk.err ⟨n,k,wt,l,false⟩ t 1=0:=by
  show (Dk.sync _).1=0
  rw[yq a];unfold Dk.sync;rw[if_pos (by grind)]
 have e:Dk.err ⟨n,k,wt,l,false⟩ t 2=0:=by
  show (Dk.apply _ _).1=0
  rw[sR a b];unfold Dk.apply;rw[if_pos (by grind)]
 have f:Dk.err ⟨n,k,wt,l,false⟩ t 3=0:=by
  show (Dk.sync _).1=0
  rw[yr a b e];unfold Dk.sync;rw[if_pos (by grind)]
 rw[Dk.from_yes (by decide) a,Dk.from_yes (by decide) b,Dk.from_yes (by decide) e,Dk.from_yes (by decide) f,Dk.from_end]
def Calm (s:Dk):Prop:=s.d=false/\s.l=-1/\s.wt=none
theorem En:Calm Dk.fresh:=⟨rfl,rfl,rfl⟩
def Kept (s:Dk) (hs:List ae):Prop:=s.load=(0,hs)/\s.k=s.n/\s.n.fb.data.toList.length<=1000000
