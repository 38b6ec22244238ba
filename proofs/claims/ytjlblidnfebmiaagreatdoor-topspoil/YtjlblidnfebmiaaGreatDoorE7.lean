import Derived.Test.YtjlblidnfebmiaaGreatDoorE2
import Derived.ProofKit
import Derived.OpenShut
import Derived.ChangeOld
import Derived.Deep.Strs
import Derived.Deep.Slices
import Derived.Carry
import Derived.JoinedOf
import Derived.JoinedAt
set_option maxRecDepth 100000
set_option maxHeartbeats 16000000
open Go Go.RowKit
open Go.Proofs.Tryz
namespace Go.Proofs.YtjlblidnfebmiaaGreatDoor
variable {W W':World} {f:Nat->Nat} {j k m n:Nat} {kind s:ByteArray} {l:List Nat} {p us:Nat->Bool} {v:Value}
structure ah where
 kind:ByteArray
 node:Int
 sick:Bool
def zp:ah:=⟨ByteArray.empty,0,false⟩
instance:Inhabited ah:=⟨zp⟩
def aC (ds:List ah) (k:Nat):ah:=ds.getD k zp
def bf (l:List Int) (k:Nat):Int:=l.getD k 0
theorem zt {l:List Int} (h:k<l.length):l.take (k+1)=l.take k++[bf l k]:=by grind [List.take_add_one,bf]
def bR (p:Nat->Bool) (n:Nat):List Nat:=(List.range n).filter p
theorem oH (h:p n=true):bR p (n+1)=bR p n++[n]:=by simp [bR,List.range_succ,List.filter_append,h]
theorem jF (h:p n=false):bR p (n+1)=bR p n:=by simp [bR,List.range_succ,List.filter_append,h]
theorem rX:j∈bR p n↔j<n/\p j=true:=by simp [bR]
theorem zu (p:Nat->Bool) (n:Nat):(bR p n).Nodup:=List.Pairwise.filter _ (by simpa [List.Nodup] using List.nodup_range (n:=n))
theorem zv (p:Nat->Bool) (n:Nat):(bR p n).Pairwise (· < ·):=List.Pairwise.filter _ List.pairwise_lt_range
theorem pY (p:Nat->Bool) (n:Nat):(bR p n).length<=n:=by simpa [bR] using List.length_filter_le p (List.range n)
theorem zw {q:Nat->Bool} (h:∀ j,j<n->p j=q j):bR p n=bR q n:=by
 unfold bR;exact List.filter_congr λj a=>h j (List.mem_range.1 a)
def bE (l:List Nat):List Nat:=bR (λj=>decide (j∈l)) 16
def eB (us:Nat->Bool) (l:List Nat) (j:Nat):Bool:=us j || decide (j∈l)
theorem zx (us:Nat->Bool):eB us []=us:=by funext j;simp [eB]
theorem It (us:Nat->Bool) (l:List Nat) (i j:Nat):eB us (l++[i]) j=(eB us l j || decide (j=i)):=by
 unfold eB
 by_cases b:j∈l <;> by_cases a:j=i <;> simp [b,a]
def bz (ds:List ah) (us:Nat->Bool) (kind:ByteArray) (k:Nat):Bool:=decide ((aC ds k).kind=kind) && !(aC ds k).sick && !us k
def kS (ds:List ah) (m:Nat) (k:Nat):Bool:=m.testBit (aC ds k).node.toNat
def ef (ds:List ah) (us:Nat->Bool) (kind:ByteArray) (m:Nat) (k:Nat):Bool:=bz ds us kind k && kS ds m k
def kT (ds:List ah) (us:Nat->Bool) (kind:ByteArray) (m:Nat) (k:Nat):Bool:=bz ds us kind k && !kS ds m k
def eC (ds:List ah) (us:Nat->Bool) (kind:ByteArray) (m:Nat):List Nat:=bR (ef ds us kind m) ds.length++bR (kT ds us kind m) ds.length
def cR (ds:List ah) (us:Nat->Bool) (kind:ByteArray) (m many:Nat):List Nat:=(eC ds us kind m).take many
theorem Iu (f g:Nat->Bool) (n:Nat):(bR (λk=>f k && g k) n).length+(bR (λk=>f k && !g k) n).length=(bR f n).length:=by
 induction n with
 | zero=>rfl
 | succ n ih=>
  cases hf:f n <;> cases hg:g n
  ·rw [jF (by simp [hf]),jF (by simp [hf]),jF hf];exact ih
  ·rw [jF (by simp [hf]),jF (by simp [hf]),jF hf];exact ih
  ·rw [jF (by simp [hg]),oH (by simp [hf,hg]),oH hf];simp;omega
  ·rw [oH (by simp [hf,hg]),jF (by simp [hg]),oH hf];simp;omega
theorem zy (ds:List ah) (us:Nat->Bool) (kind:ByteArray) (m:Nat):(eC ds us kind m).length=(bR (bz ds us kind) ds.length).length:=by
 unfold eC;rw [Q2];exact Iu (bz ds us kind) (kS ds m) ds.length
theorem zA {ds:List ah}:j∈eC ds us kind m↔j<ds.length/\bz ds us kind j=true:=by grind [eC,ef,kT,rX,kS]
theorem Iv (ds:List ah) (us:Nat->Bool) (kind:ByteArray) (m:Nat):(eC ds us kind m).Nodup:=by grind [eC,zu,rX,ef,kT,kS]
theorem nj {ds:List ah} {many:Nat} (h:j∈cR ds us kind m many):j<ds.length/\bz ds us kind j=true:=zA.1 (List.mem_of_mem_take h)
theorem rY (ds:List ah) (us:Nat->Bool) (kind:ByteArray) (m many:Nat):(cR ds us kind m many).Nodup:=List.Pairwise.sublist (List.take_sublist _ _) (Iv ds us kind m)
theorem Iw (a:∀ j∈l,j<16):j∈bE l↔j∈l:=by grind [bE,rX]
theorem rZ (a:∀ j∈l,j<16) (b:l.Nodup):(bE l).Perm l:=by
 refine (List.perm_ext_iff_of_nodup (zu _ _) b).2 λj=>?_
 exact Iw a
theorem r7 (a:∀ j∈l,j<16) (b:l.Nodup):(bE l).length=l.length:=(rZ a b).length_eq
theorem Iy {l k:List Int} (d:l.Perm k) (a:l.Pairwise (·<=·)) (b:k.Pairwise (·<=·)):l=k:=
 d.eq_of_pairwise (λ_ _ _ _ e c=>Int.le_antisymm e c) a b
theorem Iz (d:∀ j∈l,j<16) (e:l.Nodup):(l.map (λj:Nat=>(j:Int))).mergeSort (λx y=>decide (x<=y))=(bE l).map (λj:Nat=>(j:Int)):=by
 refine Iy ?_ ?_ ?_
 ·exact (List.mergeSort_perm _ _).trans ((rZ d e).map _).symm
 ·have h:=List.pairwise_mergeSort (le:=λx y:Int=>decide (x<=y)) (λa b c g f=>by simp at *;omega) (λa b=>by simp;omega) (l.map λj:Nat=>(j:Int));exact h.imp (λ{a b} hab=>by simpa using hab)
 ·rw [List.pairwise_map];exact (zv _ _).imp (λ{a b} hab=>by omega)
def bh (f:Nat->Nat):Nat->Nat
 | 0=>0
 | k+1=>if bh f k=0 then f k else bh f k
theorem l8 (h:bh f k=0) (a:f k=0):bh f (k+1)=0:=by rw [bh,if_pos h,a]
theorem IA (h:bh f k≠0) (j:Nat):bh f (k+j)=bh f k:=by
 induction j with
 | zero=>rfl
 | succ j ih=>rw [<- Nat.add_assoc,bh,if_neg (by rw [ih];exact h),ih]
theorem kU (h:bh f k=0) (a:f k≠0) (b:k<n):bh f n=f k:=by
 have e:bh f (k+1)=f k:=by rw [bh,if_pos h]
 have:=IA (f:=f) (k:=k+1) (by rw [e];exact a) (n - (k+1))
 rw [show k+1+(n - (k+1))=n by omega] at this;rw [this,e]
theorem eR (h:bh f n=0):∀ k,k<n->f k=0:=by
 induction n with
 | zero=>intro k b;omega
 | succ n ih=>
  rw [bh] at h
  split at h
  ·rename_i a
   intro k b
   by_cases e:k=n
   ·subst e;exact h
   ·exact ih a k (by omega)
  ·rename_i a;exact absurd h a
theorem r9 (h:∀ k,k<n->f k=0):bh f n=0:=by
 induction n with
 | zero=>rfl
 | succ n ih=>exact l8 (ih λk a=>h k (by omega)) (h n (by omega))
def et (n:Nat) (us:Nat->Bool) (l:List Int) (k:Nat):Nat:=
 if bf l k<0\/(n:Int)<=bf l k then 1 else if (us (bf l k).toNat || decide (bf l k∈l.take k))=true then 5 else 0
def Vr (n:Nat) (us:Nat->Bool) (l:List Int) (k:Nat):Nat:=
 if bf l k<0\/(n:Int)<=bf l k then 1 else if us (bf l k).toNat=true then 0 else 6
def ci (us:Nat->Bool) (l:List Int) (j:Nat):Bool:=us j || decide ((j:Int)∈l)
def Vs (us:Nat->Bool) (l:List Int) (j:Nat):Bool:=us j && !decide ((j:Int)∈l)
theorem zB (us:Nat->Bool):ci us []=us:=by funext j;simp [ci]
theorem zC (us:Nat->Bool) (l:List Int) (x:Int) (h:0<=x) (j:Nat):ci us (l++[x]) j=(ci us l j || decide (j=x.toNat)):=by grind [ci]
def oI (b:UInt8):Bool:=decide (97<=b.toNat) && decide (b.toNat<=122)
def oJ (b:UInt8):Bool:=decide (48<=b.toNat/\b.toNat<=57)
def iF (s:ByteArray) (i:Nat):Bool:=oI (s.data.toList.getD i 0) || (oJ (s.data.toList.getD i 0) && decide (0<i))
theorem IB (s:ByteArray) (k:Nat) (h:k<s.size):s.data.toList.getD k 0=s[k]:=by
 have a:k<s.data.size:=h;rw [List.getD_eq_getElem?_getD,Array.getElem?_toList,Array.getElem?_eq_getElem a];rfl
theorem IC (s:ByteArray) (k:Nat) (h:k<s.size):iF s k=(oI s[k] || (oJ s[k] && decide (0<k))):=by rw [iF,IB s k h]
def eS (f:Nat->Bool):Nat->Bool
 | 0=>true
 | k+1=>eS f k && f k
theorem zD {f:Nat->Bool} (h:eS f k=true) (a:f k=true):eS f (k+1)=true:=by rw [eS,h,a];rfl
theorem zE {f:Nat->Bool} (a:f k=false) (b:k<n):eS f n=false:=by induction n <;> grind [eS]
def bN (s:ByteArray):Bool:=decide (0<s.size) && decide (s.size<=8) && eS (iF s) s.size
theorem ID (h:s.size=0):bN s=false:=by simp [bN,h]
theorem IE (h:8<s.size):bN s=false:=by simp [bN];omega
theorem IF (a:0<s.size) (b:s.size<=8):bN s=eS (iF s) s.size:=by rw [bN,Qc a,Qc b];rfl
def iG (ds:List ah) (k:Nat):Nat:=if bN (aC ds k).kind=false then 3 else if (aC ds k).node<0\/3<(aC ds k).node then 1 else 0
def dQ (ds:List ah):Nat:=if 16<ds.length then 2 else bh (iG ds) ds.length
def eT (ds:List ah):Prop:=ds.length<=16/\∀ k,k<ds.length->0<=(aC ds k).node/\(aC ds k).node<=3
theorem kg {ds:List ah} (h:dQ ds=0):eT ds:=by
 unfold dQ at h
 split at h
 ·cases h
 ·refine ⟨by omega,λk a=>?_⟩
  have:=eR h k a
  unfold iG at this
  split at this
  ·cases this
  ·split at this
   ·cases this
   ·omega
def bd (p:Nat->Bool) (ds:List ah) (x n:Nat):Nat:=(bR (λj=>p j && decide ((aC ds j).node=(x:Int))) n).length
theorem zF (p:Nat->Bool) (ds:List ah) (x n:Nat):bd p ds x n<=n:=pY _ _
theorem uV {ds:List ah} (h:p n=false) (x:Nat):bd p ds x (n+1)=bd p ds x n:=by
 unfold bd;rw [jF (by rw [h];rfl)]
theorem uW {ds:List ah} (h:p n=true) (a:0<=(aC ds n).node) (x:Nat):bd p ds x (n+1)=bd p ds x n+(if x=(aC ds n).node.toNat then 1 else 0):=by grind [bd,aC,oH,jF]
def cJ (ds:List ah) (kind:ByteArray) (k:Nat):Bool:=decide ((aC ds k).kind=kind) && !(aC ds k).sick
theorem uX (ds:List ah) (us:Nat->Bool) (kind:ByteArray) (k:Nat):bz ds us kind k=(cJ ds kind k && !us k):=rfl
def dV (ds:List ah) (us:Nat->Bool) (kind:ByteArray) (many:Int):Nat:=if many<0 then 1 else if ((bR (bz ds us kind) ds.length).length:Int)<many then 9 else 0
section
open Go.ChangeShapes Go.WideShapes Go.ChangeAt Go.RowKit
def gJ (W:World) (v:Value) (N:Nat) (p:List Value->Prop):Prop:=
 ∃ ao len c,v=.slice ao len c/\len<=maxLen/\(0<len->∃ b o,ao=some ⟨b,o,none⟩/\b<W.heap.size/\∀ k,k<len->∃ cs:List Value,cs.length=N/\(∀ j,j<N->W.cell? ⟨b,o+k*N+j,none⟩=cs[j]?)/\p cs)
theorem gJ.below {N:Nat} {p q:List Value->Prop} (h:gJ W v N p) (a:Below W W W') (l:∀ cs,p cs->q cs):gJ W' v N q:=by
 obtain ⟨f,len,c,n,s,t⟩:=h;refine ⟨f,len,c,n,s,λd=>?_⟩;obtain ⟨b,o,i,Ha,e⟩:=t d;refine ⟨b,o,i,Q1 Ha a.size,λk r=>?_⟩;obtain ⟨cs,m,Hb,Hc⟩:=e k r;exact ⟨cs,m,λj g=>(a.cell (p:=⟨b,o+k*N+j,none⟩) Ha).trans (Hb j g),l cs Hc⟩
section
variable {H:Type} {enc:TypeId × Value->H} {P:Program} {W:World}
theorem eD {base:Nat} {a:Nat->Bool} {held:Bool} {b:Nat} {t:TypeId} {cs:List Value} {x:DataW H × List MemPlace} {j:Array Field} (k:P.underlying t=some (.struct j)) (h:DataW.trod enc P W base a held b t cs=some x) (i:Nat) (c:TypeId) (off N:Nat) (l:P.cellsOf c=N) (hf:(j[i]?).map (λf=>(f.type,f.offset))=some (c,off)) :
  ∃ n y,DataW.trod enc P W base a held n c ((cs.drop off).take N)=some y:=by
 obtain ⟨g,n,_,_,_,Ha,m⟩:=DataW.trod_struct k h;obtain ⟨f,d,e⟩:=Option.map_eq_some_iff.1 hf;cases e;subst l;have hi:i<g.length:=by rw [Ha];exact (gS d).1
 exact ⟨n,g[i],by rw [m i f d];exact Qf hi⟩
theorem sd {t e:TypeId} {N c:Nat} {v:Value} {x:DataW H × List MemPlace} {p:List Value->Prop} (l:P.underlying t=some (.slice e)) (A:P.cellsOf e=N) (C:0<N)
  (h:DataW.trod enc P W 0 (λ_=>true) true c t [v]=some x) (q:∀ n cs y,cs.length=N->DataW.trod enc P W 0 (λ_=>true) true n e cs=some y->p cs):gJ W v N p:=by
 rcases Deep.open_slice l h with ⟨Ha,_⟩|⟨a,len,s,m,n,D,E,Ha,_,z,B,Hg,_,g⟩
 ·simp at Ha
  subst Ha;exact ⟨none,0,0,rfl,Nat.zero_le _,λh=>by omega⟩
 ·simp at Ha
  subst Ha;rw [if_pos rfl] at Hg;subst Hg;rw [A] at g;refine ⟨some a,len,_,rfl,Q5 z B,λi=>?_⟩;obtain ⟨b,off,d⟩:=a;obtain ⟨w,Hi,_⟩:=g 0 (by omega);obtain ⟨_,Hf,Hh⟩:=World.cells?_some Hi;have f:=Hh 0 (by omega);rw [Qf (by omega)] at f;have He:d=none:=by simpa [Addr.add] using World.cell?_spot f
  subst He;refine ⟨b,off,rfl,?_,λk F=>?_⟩
  ·rw [Deep.add_add,Addr.add_lit] at f;exact Q3 W _ f
  ·obtain ⟨cs,r,o⟩:=g k (by omega);obtain ⟨_,Hb,Hc⟩:=World.cells?_some r;refine ⟨cs,Hb,λj u=>?_,q n cs _ Hb o⟩
   have:=Hc j u
   rw [Deep.add_add,Addr.add_lit,<- Nat.add_assoc] at this;exact this
end
theorem se:prog.cellsOf 9=1:=by kernel_rfl
theorem nk:prog.cellsOf 3=1:=by kernel_rfl
theorem IG:prog.cellsOf 4=1:=by kernel_rfl
theorem zG:prog.cellsOf 62=2:=by kernel_rfl
theorem IH:prog.cellsOf 127=2:=by kernel_rfl
theorem II:prog.cellsOf 65=6:=by kernel_rfl
theorem IJ:prog.cellsOf 49=3:=by kernel_rfl
theorem IK:prog.cellsOf 63=1:=by kernel_rfl
theorem zH:prog.cellsOf 47=1:=by kernel_rfl
def IL (cs:List Value):Prop:=∃ x:Int,cs=[.int .i64 x]
def pZ (cs:List Value):Prop:=∃ (s:ByteArray) (x:Int),cs=[.string s,.int .i64 x]
def kV (W:World) (cs:List Value):Prop:=∃ (nm:ByteArray) (a b c d:Int) (v:Value),cs=[.string nm,.int .i64 a,.int .i64 b,.int .i64 c,.int .i64 d,v]/\gJ W v 2 pZ
theorem kV.below {cs:List Value} (h:kV W cs) (f:Below W W W'):kV W' cs:=by
 obtain ⟨nm,a,b,c,d,v,rfl,e⟩:=h;exact ⟨nm,a,b,c,d,v,rfl,e.below f λ_ h=>h⟩
section
variable {H:Type} {enc:TypeId × Value->H} {W:World}
theorem np {n:Nat} {cs:List Value} {y:DataW H × List MemPlace} (h:DataW.trod enc prog W 0 (λ_=>true) true n 3 cs=some y):IL cs:=by
 obtain ⟨p,e,_,_⟩:=DataW.trod_int underlying3 h;exact ⟨p,e⟩
theorem sg {n:Nat} {cs:List Value} {y:DataW H × List MemPlace} (h:DataW.trod enc prog W 0 (λ_=>true) true n 9 cs=some y):∃ s:ByteArray,cs=[.string s]:=by
 obtain ⟨p,e,_⟩:=DataW.trod_string underlying9 h;exact ⟨p,e⟩
theorem IM {n:Nat} {cs:List Value} {y:DataW H × List MemPlace} (e:cs.length=2) (h:DataW.trod enc prog W 0 (λ_=>true) true n 127 cs=some y):pZ cs:=by
 obtain ⟨_,_,f⟩:=eD underlying127 h 0 9 0 _ se rfl;obtain ⟨_,_,g⟩:=eD underlying127 h 1 3 1 _ nk rfl
 match cs,e with
 | [a,b],_=>
  obtain ⟨s,c⟩:=sg f;obtain ⟨x,d⟩:=np g
  simp at c d
  exact ⟨s,x,by rw [c,d]⟩
theorem zI {n:Nat} {cs:List Value} {y:DataW H × List MemPlace} (e:cs.length=2) (h:DataW.trod enc prog W 0 (λ_=>true) true n 62 cs=some y):∃ a b:Int,cs=[.int .i64 a,.int .i64 b]:=by
 obtain ⟨_,_,f⟩:=eD underlying62 h 0 3 0 _ nk rfl;obtain ⟨_,_,g⟩:=eD underlying62 h 1 3 1 _ nk rfl
 match cs,e with
 | [a,b],_=>
  obtain ⟨s,c⟩:=np f;obtain ⟨x,d⟩:=np g
  simp at c d
  exact ⟨s,x,by rw [c,d]⟩
theorem IN {n:Nat} {cs:List Value} {y:DataW H × List MemPlace} (g:cs.length=6) (h:DataW.trod enc prog W 0 (λ_=>true) true n 65 cs=some y):kV W cs:=by
 obtain ⟨_,_,o⟩:=eD underlying65 h 0 9 0 _ se rfl;obtain ⟨_,_,u⟩:=eD underlying65 h 1 62 1 _ zG rfl;obtain ⟨_,_,q⟩:=eD underlying65 h 2 62 3 _ zG rfl;obtain ⟨_,_,m⟩:=eD underlying65 h 3 63 5 _ IK rfl
 match cs,g with
 | [a,b,c,d,e,f],_=>
  obtain ⟨s,k⟩:=sg o;obtain ⟨v,p,j⟩:=zI rfl u;obtain ⟨r,t,i⟩:=zI rfl q;have l:=sd underlying63 IH (by decide) m λ_ _ _ g h=>IM g h
  simp at k j i
  exact ⟨s,v,p,r,t,f,by rw [k,j.1,j.2,i.1,i.2],l⟩
theorem IP {n:Nat} {cs:List Value} {y:DataW H × List MemPlace} (d:cs.length=3) (h:DataW.trod enc prog W 0 (λ_=>true) true n 49 cs=some y):∃ (nm:ByteArray) (pr:Int) (cv:Value),cs=[.string nm,.int .i64 pr,cv]/\gJ W cv 6 (kV W):=by
 obtain ⟨_,_,i⟩:=eD underlying49 h 0 9 0 _ se rfl;obtain ⟨_,_,k⟩:=eD underlying49 h 1 3 1 _ nk rfl;obtain ⟨_,_,j⟩:=eD underlying49 h 2 47 2 _ zH rfl
 match cs,d with
 | [a,b,c],_=>
  obtain ⟨s,e⟩:=sg i;obtain ⟨x,f⟩:=np k;have g:=sd underlying47 II (by decide) j λ_ _ _ d h=>IN d h
  simp at e f
  exact ⟨s,x,c,by rw [e,f],g⟩
def zJ (cs:List Value):Prop:=∃ d:ah,cs=[.string d.kind,.int .i64 d.node,.bool d.sick]
theorem IQ {n:Nat} {cs:List Value} {y:DataW H × List MemPlace} (g:cs.length=3) (h:DataW.trod enc prog W 0 (λ_=>true) true n 77 cs=some y):zJ cs:=by
 obtain ⟨_,_,i⟩:=eD underlying77 h 0 9 0 _ se rfl;obtain ⟨_,_,k⟩:=eD underlying77 h 1 3 1 _ nk rfl;obtain ⟨_,_,j⟩:=eD underlying77 h 2 4 2 _ IG rfl
 match cs,g with
 | [a,b,c],_=>
  obtain ⟨s,e⟩:=sg i;obtain ⟨x,f⟩:=np k;obtain ⟨q,d,_⟩:=DataW.trod_bool underlying4 j
  simp at e f d
  exact ⟨⟨s,x,q⟩,by rw [e,f,d]⟩
end
def dW (w:World) (v:Value) (g o:Nat) (ds:List ah):Prop:=
 ∃ ao c,v=.slice ao ds.length c/\(0<ds.length->ao=some ⟨g,o,none⟩/\g<w/\∀ k,k<ds.length->w.cell? ⟨g,o+k*3,none⟩=some (.string (aC ds k).kind)/\w.cell? ⟨g,o+k*3+1,none⟩=some (.int .i64 (aC ds k).node)/\w.cell? ⟨g,o+k*3+2,none⟩=some (.bool (aC ds k).sick))
def jh (w:World) (v:Value) (g o:Nat) (l:List Int):Prop:=
 ∃ ao c,v=.slice ao l.length c/\(0<l.length->ao=some ⟨g,o,none⟩/\g<w/\∀ k,k<l.length->w.cell? ⟨g,o+k,none⟩=some (.int .i64 (bf l k)))
theorem IR (h:gJ W v 3 zJ):∃ ds g o,dW W v g o ds/\(0<ds.length->g<W.heap.size):=by
 obtain ⟨l,len,c,rfl,q,m⟩:=h
 by_cases i:len=0
 ·subst i;exact ⟨[],0,0,⟨l,c,rfl,λh=>by simp at h⟩,λh=>by simp at h⟩
 ·obtain ⟨b,o,rfl,Hb,j⟩:=m (by omega);obtain ⟨f,hf⟩:=Deep.choose_lt (α:=ah) (n:=len) (p:=λk d=>W.cell? ⟨b,o+k*3,none⟩=some (.string d.kind)/\W.cell? ⟨b,o+k*3+1,none⟩=some (.int .i64 d.node)/\W.cell? ⟨b,o+k*3+2,none⟩=some (.bool d.sick)) (λk a=>by
   obtain ⟨cs,_,Ha,d,rfl⟩:=j k a;exact ⟨d,Ha 0 (by decide),Ha 1 (by decide),Ha 2 (by decide)⟩)
  refine ⟨(List.range len).map f,b,o,⟨_,c,by simp,λ_=>⟨rfl,Hb,λk a=>?_⟩⟩,λ_=>Hb⟩;have Hc:k<len:=by simpa using a
  have e:aC ((List.range len).map f) k=f k:=by simp [aC,Hc]
  rw [e];exact hf k Hc
end
def Ans (e:Ending):Prop:=∃ b,e=.returned (.bool b)
theorem Vt (v:Value) (w:World) (h:gJ w v 2 pZ):Calls prog 25 #[v] w λe w'=>Ans e/\w'=w:=by
 obtain ⟨q,len,c,rfl,p,l⟩:=h;have n:=qI l;clear l p
 by_cases f:20<len
 ·go_enter func25,ntmps25
  go_wp2
  go_ret;exact ⟨⟨_,rfl⟩,rfl⟩
 have Hc:len<=20:=by omega
 clear f;have hd:decide (20<(len:Int))=false:=Q7 (by omega)
 go_enter func25,ntmps25
 go_wp2_with fail
 go_loop [3] (λi=>∃ k:Nat,k<=len/\i=.int .i64 k) (λi=>len - (intOf i).toNat)
 case atStart=>exact ⟨0,by omega,rfl⟩
 case round=>
  obtain ⟨k,r,rfl⟩:=hrel
  by_cases a:k<len
  ·obtain ⟨b,o,rfl,He,Ha⟩:=n.o (by omega);obtain ⟨cs,_,d,s,x,rfl⟩:=Ha k a;have c0:cl w b (o+k*2) s:=d 0 (by decide);have c1:cl w b (o+k*2+1) (x:Int):=d 1 (by decide);clear d Ha;have key:30<s.size\/(s.size<=30/\x < -1125899906842624)\/(s.size<=30/\-1125899906842624<=x/\1125899906842624<x)\/(s.size<=30/\-1125899906842624<=x/\x<=1125899906842624):=by omega
   rcases key with g|⟨g,j⟩|⟨g,j,m⟩|⟨g,j,m⟩
   ·go_wp2
    go_ret;exact ⟨⟨_,rfl⟩,rfl⟩
   ·go_wp2
    go_ret;exact ⟨⟨_,rfl⟩,rfl⟩
   ·go_wp2
    go_ret;exact ⟨⟨_,rfl⟩,rfl⟩
   ·go_wp2_with fail
    go_round
    case rel=>exact ⟨k+1,by omega,by go_num⟩
    case measure=>simp [intOf];omega
  ·have Hb:k=len:=by omega
   subst Hb
   go_wp2
   go_ret;exact ⟨⟨_,rfl⟩,rfl⟩
theorem IS (nm:ByteArray) (pr:Int) (cv:Value) (w:World) (h:gJ w cv 6 (kV w)):Calls prog 24 #[.agg #[nm,pr,cv]] w λe w'=>Ans e/\Below w w w':=by
 have Hf:=qI ((Q0 w w).alloc (lR) (.cells #[nm,pr,cv] 49));have D:=qI h;obtain ⟨J,len,c,rfl,G,_⟩:=h;clear G
 by_cases r:30<nm.size
 ·go_enter func24,ntmps24
  go_wp2
  go_ret;exact ⟨⟨_,rfl⟩,Hf.o⟩
 have Hc:nm.size<=30:=by omega
 clear r
 by_cases F:5<len
 ·go_enter func24,ntmps24
  go_wp2
  go_ret;exact ⟨⟨_,rfl⟩,Hf.o⟩
 have Hp:len<=5:=by omega
 have Hr:decide (30<(nm.size:Int))=false:=Q7 (by omega);have Hs:decide (5<(len:Int))=false:=Q7 (by omega);clear F Hc
 go_enter func24,ntmps24
 go_wp2
 go_loopw [3] (λi wr=>∃ k:Nat,k<=len/\i=.int .i64 k/\Below w w wr/\wr.cell? ⟨w,2,none⟩=some (.slice J len c)) (λi _=>len - (intOf i).toNat)
 case atStart=>exact ⟨0,by omega,rfl,Hf.o,by simp⟩
 case round=>
  obtain ⟨k,T,rfl,a,Ho⟩:=hrel
  by_cases p:k<len
  ·obtain ⟨M,x,Q,L,_,z⟩:=D.o.below a λ_ h=>h.below a
   cases L;obtain ⟨b,o,rfl,Ht,Hh⟩:=z (by omega);obtain ⟨cs,_,d,cn,j,l,m,g,aC,rfl,Hi⟩:=Hh k p;have c0:wr.cell? ⟨b,o+k*6,none⟩=some (.string cn):=d 0 (by decide);have c1:wr.cell? ⟨b,o+k*6+1,none⟩=some (.int .i64 j):=d 1 (by decide);have c2:wr.cell? ⟨b,o+k*6+2,none⟩=some (.int .i64 l):=d 2 (by decide);have c3:wr.cell? ⟨b,o+k*6+3,none⟩=some (.int .i64 m):=d 3 (by decide);have O:wr.cell? ⟨b,o+k*6+4,none⟩=some (.int .i64 g):=d 4 (by decide);have R:wr.cell? ⟨b,o+k*6+5,none⟩=some aC:=d 5 (by decide);have Ha:=qI (a.alloc a.size (.cells #[cn,(j:Int),(l:Int),(m:Int),(g:Int),aC] 65));have B:=qI (Hi.below ((Q0 wr wr).alloc (lR) (.cells #[cn,(j:Int),(l:Int),(m:Int),(g:Int),aC] 65)) λ_ h=>h);have He:=Lib.cell?_alloc_some (.cells #[cn,(j:Int),(l:Int),(m:Int),(g:Int),aC] 65) Ho;have Hq:=a.size;obtain ⟨da,dl,dc,rfl,_,_⟩:=Hi;clear d Hh z a
   by_cases t:30<cn.size
   ·go_wp2
    go_ret;exact ⟨⟨_,rfl⟩,Ha.o⟩
   have f:cn.size<=30:=by omega
   clear t
   by_cases A:5<dl
   ·go_wp2
    go_ret;exact ⟨⟨_,rfl⟩,Ha.o⟩
   have H:dl<=5:=by omega
   have V:decide (30<(cn.size:Int))=false:=Q7 (by omega);have U:decide (5<(dl:Int))=false:=Q7 (by omega);clear A f
   go_wp2_with fail
   go_loop [5] (λi=>∃ q:Nat,q<=dl/\i=.int .i64 q) (λi=>dl - (intOf i).toNat)
   case atStart=>exact ⟨0,by omega,rfl⟩
   case round=>
    obtain ⟨q,S,rfl⟩:=hrel
    by_cases s:q<dl
    ·obtain ⟨K,y,C,Hk,_,Hg⟩:=B.o;cases Hk;obtain ⟨b2,N,rfl,Hn,Hb⟩:=Hg (by omega);obtain ⟨E,_,Hj,v,P,rfl⟩:=Hb q s;have I:=Hj 0 (by decide);simp only [Nat.add_zero,List.getElem?_cons_zero] at I;clear Hj Hb Hg
     by_cases n:30<v.size
     ·go_wp2
      go_ret;exact ⟨⟨_,rfl⟩,Ha.o⟩
     have u:v.size<=30:=by omega
     clear n
     go_wp2_with fail
     go_round
     case rel=>exact ⟨q+1,by omega,by go_num⟩
     case measure=>simp [intOf];omega
    ·have Hm:q=dl:=by omega
     subst Hm
     go_wp2
     go_roundw
     case rel=>exact ⟨k+1,by omega,by go_num,Ha.o,He⟩
     case measure=>simp [intOf];omega
  ·have Hl:k=len:=by omega
   subst Hl;have Ha:=qI a;clear a
   go_wp2
   go_ret;exact ⟨⟨_,rfl⟩,Ha.o⟩
