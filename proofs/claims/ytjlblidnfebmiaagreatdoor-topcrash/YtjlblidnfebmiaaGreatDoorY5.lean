import Derived.Test.YtjlblidnfebmiaaGreatDoorY3
import Derived.ProofKit
import Derived.OpenShut
import Derived.ChangeOld
import Derived.Deep.Strs
import Derived.Deep.Slices
import Derived.Carry
import Derived.JoinedOf
import Derived.JoinedAt
set_option maxRecDepth 100000
set_option maxHeartbeats 16000000
open Go Go.RowKit
open Go.Proofs.Tryz
namespace Go.Proofs.YtjlblidnfebmiaaGreatDoor
variable{W W':World}{f:Nat->Nat}{j k m n:Nat}{kind s:ByteArray}{l:List Nat}{p us:Nat->Bool}{v:Value}
structure aq where
 kind:ByteArray
 node:Int
 sick:Bool
def AQ:aq:=⟨ByteArray.empty,0,false⟩
instance:Inhabited aq:=⟨AQ⟩
def aH (ds:List aq) (k:Nat):aq:=ds.getD k AQ
def bx (l:List Int) (k:Nat):Int:=l.getD k 0
theorem AR{l:List Int}(h:k<l.length):l.take (k+1)=l.take k++[bx l k]:=by
 grind[List.take_add_one,bx]
def cu (p:Nat->Bool) (n:Nat):List Nat:=(List.range n).filter p
theorem uh(h:p n=true):cu p (n+1)=cu p n++[n]:=by grind[cu,List.range_succ]
theorem oP(h:p n=false):cu p (n+1)=cu p n:=by grind[cu,List.range_succ]
theorem ui:j∈cu p n↔j<n/\p j=true:=by simp[cu]
theorem AS(p:Nat->Bool)(n:Nat):(cu p n).Nodup:=List.Pairwise.filter _ (by grind[List.nodup_range])
theorem AT(p:Nat->Bool)(n:Nat):(cu p n).Pairwise (· < ·):=List.Pairwise.filter _ List.pairwise_lt_range
theorem rR(p:Nat->Bool)(n:Nat):(cu p n).length<=n:=by grind[cu]
theorem AU{q:Nat->Bool}(h:∀j,j<n->p j=q j):cu p n=cu q n:=by
 grind[cu,List.filter_congr]
def bV (l:List Nat):List Nat:=cu (λj=>decide (j∈l)) 16
def fk (us:Nat->Bool) (l:List Nat) (j:Nat):Bool:=us j || decide (j∈l)
theorem AV(us:Nat->Bool):fk us []=us:=by funext j;simp[fk]
theorem JL(us:Nat->Bool)(l:List Nat)(i j:Nat):fk us (l++[i]) j=(fk us l j || decide (j=i)):=by
 grind[fk]
def bH (ds:List aq) (us:Nat->Bool) (kind:ByteArray) (k:Nat):Bool:=decide ((aH ds k).kind=kind) && !(aH ds k).sick && !us k
def oQ (ds:List aq) (m:Nat) (k:Nat):Bool:=m.testBit (aH ds k).node.toNat
def eH (ds:List aq) (us:Nat->Bool) (kind:ByteArray) (m:Nat) (k:Nat):Bool:=bH ds us kind k && oQ ds m k
def mg (ds:List aq) (us:Nat->Bool) (kind:ByteArray) (m:Nat) (k:Nat):Bool:=bH ds us kind k && !oQ ds m k
def fm (ds:List aq) (us:Nat->Bool) (kind:ByteArray) (m:Nat):List Nat:=cu (eH ds us kind m) ds.length++cu (mg ds us kind m) ds.length
def dB (ds:List aq) (us:Nat->Bool) (kind:ByteArray) (m many:Nat):List Nat:=(fm ds us kind m).take many
theorem JM(f g:Nat->Bool)(n:Nat):(cu (λk=>f k && g k) n).length+(cu (λk=>f k && !g k) n).length=(cu f n).length:=by
 induction n with
 | zero=>rfl
 | succ n ih=>
  cases hf:f n <;> cases hg:g n
  ·grind[oP]
  ·grind[oP]
  ·grind[oP,uh]
  ·grind[uh,oP]
theorem AW(ds:List aq)(us:Nat->Bool)(kind:ByteArray)(m:Nat):(fm ds us kind m).length=(cu (bH ds us kind) ds.length).length:=by
 unfold fm;rw[Q2];exact JM (bH ds us kind) (oQ ds m) ds.length
theorem AX{ds:List aq}:j∈fm ds us kind m↔j<ds.length/\bH ds us kind j=true:=by
 grind[fm,eH,mg,ui]
theorem JN(ds:List aq)(us:Nat->Bool)(kind:ByteArray)(m:Nat):(fm ds us kind m).Nodup:=by
 grind[fm,AS,ui,eH,mg]
theorem oR{ds:List aq}{many:Nat}(h:j∈dB ds us kind m many):j<ds.length/\bH ds us kind j=true:=AX.1 (List.mem_of_mem_take h)
theorem uj(ds:List aq)(us:Nat->Bool)(kind:ByteArray)(m many:Nat):(dB ds us kind m many).Nodup:=List.Pairwise.sublist (List.take_sublist _ _) (JN ds us kind m)
theorem JO(a:∀j∈l,j<16):j∈bV l↔j∈l:=by
 grind[bV,ui]
theorem uk(a:∀j∈l,j<16)(b:l.Nodup):(bV l).Perm l:=by
 refine (List.perm_ext_iff_of_nodup (AS _ _) b).2 λj=>?_
 exact JO a
theorem ul(a:∀j∈l,j<16)(b:l.Nodup):(bV l).length=l.length:=(uk a b).length_eq
theorem JP{l k:List Int}(d:l.Perm k)(a:l.Pairwise (·<=·))(b:k.Pairwise (·<=·)):l=k:=
 d.eq_of_pairwise (λ_ _ _ _ c e=>Int.le_antisymm c e) a b
theorem JQ(c:∀j∈l,j<16)(d:l.Nodup):(l.map (λj:Nat=>(j:Int))).mergeSort (λx y=>decide (x<=y))=(bV l).map (λj:Nat=>(j:Int)):=by
 refine JP ?_ ?_ ?_
 ·grind[List.mergeSort_perm,uk]
 ·grind[List.pairwise_mergeSort]
 ·rw[List.pairwise_map];exact (AT _ _).imp (λ{a b} hab=>by omega)
def bA (f:Nat->Nat):Nat->Nat
 | 0=>0
 | k+1=>if bA f k=0 then f k else bA f k
theorem nk(h:bA f k=0)(a:f k=0):bA f (k+1)=0:=by grind[bA]
theorem JR(h:bA f k≠0)(j:Nat):bA f (k+j)=bA f k:=by
 induction j with
 | zero=>rfl
 | succ j ih=>rw[<- Nat.add_assoc,bA,if_neg (by rw[ih];exact h),ih]
theorem mh(h:bA f k=0)(a:f k≠0)(b:k<n):bA f n=f k:=by
 have e:bA f (k+1)=f k:=by rw[bA,if_pos h]
 have:=JR (f:=f) (k:=k+1) (by rw[e];exact a) (n - (k+1))
 rw[show k+1+(n - (k+1))=n by omega] at this;rw[this,e]
theorem fy(h:bA f n=0):∀k,k<n->f k=0:=by
 induction n with
 | zero=>intro k a;omega
 | succ n ih=>
  rw[bA] at h
  split at h
  ·grind
  ·omega
theorem um(h:∀k,k<n->f k=0):bA f n=0:=by
 induction n with
 | zero=>rfl
 | succ n ih=>exact nk (ih λk a=>h k (by omega)) (h n (by omega))
theorem JS{g:Nat->Nat}(h:∀k,k<n->f k=g k):bA f n=bA g n:=by
 induction n with
 | zero=>rfl
 | succ n ih=>rw[bA,bA,ih λk a=>h k (by omega),h n (by omega)]
def eU (n:Nat) (us:Nat->Bool) (l:List Int) (k:Nat):Nat:=
 if bx l k<0\/(n:Int)<=bx l k then 1 else if (us (bx l k).toNat || decide (bx l k∈l.take k))=true then 5 else 0
def cM (us:Nat->Bool) (l:List Int) (j:Nat):Bool:=us j || decide ((j:Int)∈l)
theorem AY(us:Nat->Bool):cM us []=us:=by grind[cM]
theorem AZ(us:Nat->Bool)(l:List Int)(x:Int)(h:0<=x)(j:Nat):cM us (l++[x]) j=(cM us l j || decide (j=x.toNat)):=by grind[cM]
def qm (b:UInt8):Bool:=decide (97<=b.toNat) && decide (b.toNat<=122)
def qo (b:UInt8):Bool:=decide (48<=b.toNat/\b.toNat<=57)
def jj (s:ByteArray) (i:Nat):Bool:=qm (s.data.toList.getD i 0) || (qo (s.data.toList.getD i 0) && decide (0<i))
theorem JT(s:ByteArray)(k:Nat)(h:k<s.size):s.data.toList.getD k 0=s[k]:=by
 have a:k<s.data.size:=h;rw[List.getD_eq_getElem?_getD,Array.getElem?_toList,Array.getElem?_eq_getElem a];rfl
theorem JU(s:ByteArray)(k:Nat)(h:k<s.size):jj s k=(qm s[k] || (qo s[k] && decide (0<k))):=by rw[jj,JT s k h]
def fA (f:Nat->Bool):Nat->Bool
 | 0=>true
 | k+1=>fA f k && f k
theorem A1{f:Nat->Bool}(h:fA f k=true)(a:f k=true):fA f (k+1)=true:=by rw[fA,h,a];rfl
theorem A3{f:Nat->Bool}(b:f k=false)(a:k<n):fA f n=false:=by induction n <;> grind[fA]
def bY (s:ByteArray):Bool:=decide (0<s.size) && decide (s.size<=8) && fA (jj s) s.size
theorem JV(h:s.size=0):bY s=false:=by simp[bY,h]
theorem JW(h:8<s.size):bY s=false:=by simp[bY];omega
theorem JX(a:0<s.size)(b:s.size<=8):bY s=fA (jj s) s.size:=by grind[bY]
def iS (ds:List aq) (k:Nat):Nat:=if bY (aH ds k).kind=false then 3 else if (aH ds k).node<0\/3<(aH ds k).node then 1 else 0
def dV (ds:List aq):Nat:=if 16<ds.length then 2 else bA (iS ds) ds.length
def fS (ds:List aq):Prop:=ds.length<=16/\∀k,k<ds.length->0<=(aH ds k).node/\(aH ds k).node<=3
theorem lr{ds:List aq}(h:dV ds=0):fS ds:=by
 unfold dV at h
 split at h
 ·cases h
 ·refine⟨by omega,λk a=>?_⟩
  have:=fy h k a
  unfold iS at this
  split at this
  ·cases this
  ·grind
def bo (p:Nat->Bool) (ds:List aq) (x n:Nat):Nat:=(cu (λj=>p j && decide ((aH ds j).node=(x:Int))) n).length
theorem A4(p:Nat->Bool)(ds:List aq)(x n:Nat):bo p ds x n<=n:=rR _ _
theorem wK{ds:List aq}(h:p n=false)(x:Nat):bo p ds x (n+1)=bo p ds x n:=by
 grind[bo,oP]
theorem wL{ds:List aq}(h:p n=true)(a:0<=(aH ds n).node)(x:Nat):bo p ds x (n+1)=bo p ds x n+(if x=(aH ds n).node.toNat then 1 else 0):=by
 grind[bo,uh,oP]
def dr (ds:List aq) (kind:ByteArray) (k:Nat):Bool:=decide ((aH ds k).kind=kind) && !(aH ds k).sick
theorem wM(ds:List aq)(us:Nat->Bool)(kind:ByteArray)(k:Nat):bH ds us kind k=(dr ds kind k && !us k):=rfl
def ez (ds:List aq) (us:Nat->Bool) (kind:ByteArray) (many:Int):Nat:=if many<0 then 1 else if ((cu (bH ds us kind) ds.length).length:Int)<many then 9 else 0
def jK (ds:List aq) (n:Nat) (on:Bool):List aq:=ds.set n ⟨(aH ds n).kind,(aH ds n).node,on⟩
theorem rS(ds:List aq)(n:Nat)(on:Bool):(jK ds n on).length=ds.length:=by simp[jK]
theorem wN{ds:List aq}(h:n<ds.length)(on:Bool)(k:Nat):aH (jK ds n on) k=if k=n then ⟨(aH ds n).kind,(aH ds n).node,on⟩ else aH ds k:=by
 grind[jK,aH]
theorem JY{ds:List aq}(a:fS ds)(h:n<ds.length)(on:Bool):fS (jK ds n on):=by
 refine⟨by rw[rS];exact a.1,λk b=>?_⟩;rw[rS] at b;rw[wN h]
 split
 ·exact a.2 n h
 ·exact a.2 k b
section
open Go.ChangeShapes Go.WideShapes Go.ChangeAt Go.RowKit
def fB (W:World) (v:Value) (N:Nat) (p:List Value->Prop):Prop:=
 ∃ao len c,v=.slice ao len c/\len<=maxLen/\(0<len->∃b o,ao=some ⟨b,o,none⟩/\b<W.heap.size/\∀k,k<len->∃cs:List Value,cs.length=N/\(∀j,j<N->W.cell? ⟨b,o+k*N+j,none⟩=cs[j]?)/\p cs)
theorem fB.below{N:Nat}{p q:List Value->Prop}(h:fB W v N p)(a:Bw W W')(f:∀cs,p cs->q cs):fB W' v N q:=by
 obtain⟨l,len,c,i,r,n⟩:=h;refine⟨l,len,c,i,r,λe=>?_⟩;obtain⟨b,o,m,Ha,d⟩:=n e;refine⟨b,o,m,Q1 Ha a.size,λk s=>?_⟩;obtain⟨cs,g,Hb,Hc⟩:=d k s;exact⟨cs,g,λj t=>(a.cell (p:=⟨b,o+k*N+j,none⟩) Ha).trans (Hb j t),f cs Hc⟩
section
variable{H:Type}{enc:TypeId × Value->H}{P:Program}{W:World}
theorem cZ{base:Nat}{a:Nat->Bool}{held:Bool}{b:Nat}{t:TypeId}{cs:List Value}{x:DataW H × List MemPlace}{g:Array Field}(k:P.underlying t=some (.struct g))(h:DataW.trod enc P W base a held b t cs=some x)(i:Nat){c:TypeId}(off:Nat){N:Nat}(j:P.cellsOf c=N)(hf:(g[i]?).map (λf=>(f.type,f.offset))=some (c,off)) :
  ∃n y,DataW.trod enc P W base a held n c ((cs.drop off).take N)=some y:=by
 obtain⟨d,n,_,_,_,Ha,l⟩:=DataW.trod_struct k h;obtain⟨f,m,e⟩:=Option.map_eq_some_iff.1 hf;cases e;subst j;have hi:i<d.length:=by grind
 exact⟨n,d[i],by grind⟩
theorem oS{t e:TypeId}{N c:Nat}{v:Value}{x:DataW H × List MemPlace}{p:List Value->Prop}(A:P.underlying t=some (.slice e))(l:P.cellsOf e=N)(F:0<N)
  (h:DataW.trod enc P W 0 (λ_=>true) true c t [v]=some x) (r:∀n cs y,cs.length=N->DataW.trod enc P W 0 (λ_=>true) true n e cs=some y->p cs):fB W v N p:=by
 rcases Deep.open_slice A h with⟨Hb,_⟩|⟨a,len,u,m,n,D,C,Hb,_,s,w,Hg,_,g⟩
 ·simp at Hb
  subst Hb;exact⟨none,0,0,rfl,Nat.zero_le _,λh=>by omega⟩
 ·simp at Hb
  subst Hb;rw[if_pos rfl] at Hg;subst Hg;rw[l] at g;refine⟨some a,len,_,rfl,Q5 s w,λi=>?_⟩;obtain⟨b,off,d⟩:=a;obtain⟨o,Hh,_⟩:=g 0 (by omega);obtain⟨_,Hf,Hi⟩:=World.cells?_some Hh;have f:=Hi 0 (by omega);rw[Qf (by omega)] at f;have Ha:d=none:=by simpa[Addr.add] using World.cell?_spot f
  subst Ha;refine⟨b,off,rfl,?_,λk E=>?_⟩
  ·rw[Deep.add_add,Addr.add_lit] at f;exact Q3 W _ f
  ·obtain⟨cs,q,z⟩:=g k (by omega);obtain⟨_,Hc,He⟩:=World.cells?_some q;refine⟨cs,Hc,λj B=>?_,r n cs _ Hc z⟩
   have:=He j B
   rw[Deep.add_add,Addr.add_lit,<- Nat.add_assoc] at this;exact this
end
theorem oT:prog.cellsOf 9=1:=by kernel_rfl
theorem jL:prog.cellsOf 3=1:=by kernel_rfl
theorem JZ:prog.cellsOf 4=1:=by kernel_rfl
theorem J0:prog.cellsOf 45=1:=by kernel_rfl
theorem A5:prog.cellsOf 62=2:=by kernel_rfl
theorem J1:prog.cellsOf 127=2:=by kernel_rfl
theorem A6:prog.cellsOf 148=2:=by kernel_rfl
theorem J2:prog.cellsOf 65=6:=by kernel_rfl
theorem A7:prog.cellsOf 49=3:=by kernel_rfl
theorem J3:prog.cellsOf 52=10:=by kernel_rfl
theorem J4:prog.cellsOf 46=1:=by kernel_rfl
theorem J5:prog.cellsOf 63=1:=by kernel_rfl
theorem A8:prog.cellsOf 47=1:=by kernel_rfl
theorem A9:prog.cellsOf 50=1:=by kernel_rfl
def wO (cs:List Value):Prop:=∃x:Int,cs=[.int .i64 x]
def oU (cs:List Value):Prop:=∃(s:ByteArray) (x:Int),cs=[.string s,.int .i64 x]
def lu (W:World) (cs:List Value):Prop:=∃(nm:ByteArray) (a b c d:Int) (v:Value),cs=[.string nm,.int .i64 a,.int .i64 b,.int .i64 c,.int .i64 d,v]/\fB W v 2 oU
def J6 (W:World) (cs:List Value):Prop:=∃(kind s:ByteArray) (a b:Int) (m:Nat) (lv:Value) (nm:ByteArray) (pr:Int) (cv uv:Value),
 cs=[.string kind,.string s,.int .i64 a,.int .i64 b,.int .u8 m,lv,.string nm,.int .i64 pr,cv,uv]/\m<256/\fB W lv 1 wO/\fB W cv 6 (lu W)/\fB W uv 2 oU
theorem lu.below{cs:List Value}(h:lu W cs)(f:Bw W W'):lu W' cs:=by
 obtain⟨nm,a,b,c,d,v,rfl,e⟩:=h;exact⟨nm,a,b,c,d,v,rfl,e.below f λ_ h=>h⟩
section
variable{H:Type}{enc:TypeId × Value->H}{W:World}
theorem ky{n:Nat}{cs:List Value}{y:DataW H × List MemPlace}(h:DataW.trod enc prog W 0 (λ_=>true) true n 3 cs=some y):wO cs:=by
 obtain⟨p,e,_,_⟩:=DataW.trod_int underlying3 h;exact⟨p,e⟩
theorem oV{n:Nat}{cs:List Value}{y:DataW H × List MemPlace}(h:DataW.trod enc prog W 0 (λ_=>true) true n 9 cs=some y):∃s:ByteArray,cs=[.string s]:=by
 grind[DataW.trod_string,underlying9]
theorem J7{n:Nat}{v:Value}{y:DataW H × List MemPlace}(h:DataW.trod enc prog W 0 (λ_=>true) true n 46 [v]=some y):fB W v 1 wO:=
 oS underlying46 jL (by decide) h λ_ _ _ _ h=>ky h
theorem J8{n:Nat}{cs:List Value}{y:DataW H × List MemPlace}(g:cs.length=2)(h:DataW.trod enc prog W 0 (λ_=>true) true n 127 cs=some y):oU cs:=by
 obtain⟨_,_,e⟩:=cZ underlying127 h 0 0 oT rfl;obtain⟨_,_,f⟩:=cZ underlying127 h 1 1 jL rfl
 match cs,g with
 | [a,b],_=>
  obtain⟨s,c⟩:=oV e;obtain⟨x,d⟩:=ky f
  simp at c d
  exact⟨s,x,by rw[c,d]⟩
theorem Bb{n:Nat}{cs:List Value}{y:DataW H × List MemPlace}(g:cs.length=2)(h:DataW.trod enc prog W 0 (λ_=>true) true n 148 cs=some y):oU cs:=by
 obtain⟨_,_,e⟩:=cZ underlying148 h 0 0 oT rfl;obtain⟨_,_,f⟩:=cZ underlying148 h 1 1 jL rfl
 match cs,g with
 | [a,b],_=>
  obtain⟨s,c⟩:=oV e;obtain⟨x,d⟩:=ky f
  simp at c d
  exact⟨s,x,by rw[c,d]⟩
theorem Bf{n:Nat}{cs:List Value}{y:DataW H × List MemPlace}(g:cs.length=2)(h:DataW.trod enc prog W 0 (λ_=>true) true n 62 cs=some y):∃a b:Int,cs=[.int .i64 a,.int .i64 b]:=by
 obtain⟨_,_,e⟩:=cZ underlying62 h 0 0 jL rfl;obtain⟨_,_,f⟩:=cZ underlying62 h 1 1 jL rfl
 match cs,g with
 | [a,b],_=>
  obtain⟨s,c⟩:=ky e;obtain⟨x,d⟩:=ky f
  simp at c d
  exact⟨s,x,by rw[c,d]⟩
theorem J9{n:Nat}{cs:List Value}{y:DataW H × List MemPlace}(g:cs.length=6)(h:DataW.trod enc prog W 0 (λ_=>true) true n 65 cs=some y):lu W cs:=by
 obtain⟨_,_,k⟩:=cZ underlying65 h 0 0 oT rfl;obtain⟨_,_,l⟩:=cZ underlying65 h 1 1 A5 rfl;obtain⟨_,_,m⟩:=cZ underlying65 h 2 3 A5 rfl;obtain⟨_,_,j⟩:=cZ underlying65 h 3 5 J5 rfl
 match cs,g with
 | [a,b,c,d,e,f],_=>
  obtain⟨s,o⟩:=oV k;obtain⟨q,p,u⟩:=Bf rfl l;obtain⟨v,t,i⟩:=Bf rfl m;have r:=oS underlying63 J1 (by decide) j λ_ _ _ g h=>J8 g h
  simp at o u i
  exact⟨s,q,p,v,t,f,by grind,r⟩
theorem Bj{n:Nat}{cs:List Value}{y:DataW H × List MemPlace}(d:cs.length=3)(h:DataW.trod enc prog W 0 (λ_=>true) true n 49 cs=some y):∃(nm:ByteArray) (pr:Int) (cv:Value),cs=[.string nm,.int .i64 pr,cv]/\fB W cv 6 (lu W):=by
 obtain⟨_,_,g⟩:=cZ underlying49 h 0 0 oT rfl;obtain⟨_,_,i⟩:=cZ underlying49 h 1 1 jL rfl;obtain⟨_,_,k⟩:=cZ underlying49 h 2 2 A8 rfl
 match cs,d with
 | [a,b,c],_=>
  obtain⟨s,e⟩:=oV g;obtain⟨x,f⟩:=ky i;have j:=oS underlying47 J2 (by decide) k λ_ _ _ d h=>J9 d h
  simp at e f
  exact⟨s,x,c,by rw[e,f],j⟩
theorem Ka{n:Nat}{cs:List Value}{y:DataW H × List MemPlace}(b:cs.length=10)(h:DataW.trod enc prog W 0 (λ_=>true) true n 52 cs=some y):J6 W cs:=by
 obtain⟨_,_,o⟩:=cZ underlying52 h 0 0 oT rfl;obtain⟨_,_,q⟩:=cZ underlying52 h 1 1 oT rfl;obtain⟨_,_,d⟩:=cZ underlying52 h 2 2 jL rfl;obtain⟨_,_,c⟩:=cZ underlying52 h 3 3 jL rfl;obtain⟨_,_,i⟩:=cZ underlying52 h 4 4 J0 rfl;obtain⟨_,_,v⟩:=cZ underlying52 h 5 5 J4 rfl;obtain⟨_,_,x⟩:=cZ underlying52 h 6 6 A7 rfl;obtain⟨_,_,g⟩:=cZ underlying52 h 7 9 A9 rfl
 match cs,b with
 | [z0,z1,z2,z3,z4,z5,z6,z7,z8,z9],_=>
  obtain⟨l,f⟩:=oV o;obtain⟨s1,j⟩:=oV q;obtain⟨s,m⟩:=ky d;obtain⟨k,e⟩:=ky c;obtain⟨A,t,_,Ha⟩:=DataW.trod_int underlying45 i;have w:=bounds_u8 Ha;obtain⟨M,rfl⟩:=Int.eq_ofNat_of_zero_le w.1;have r:=J7 v;obtain⟨nm,pr,cv,a,u⟩:=Bj rfl x;have p:=oS underlying50 A6 (by decide) g λ_ _ _ b h=>Bb b h
  simp at f j m e t a
  obtain⟨a,z,B⟩:=a;exact⟨l,s1,s,k,M,z5,nm,pr,cv,z9,by grind,by omega,r,u,p⟩
def Bo (cs:List Value):Prop:=∃d:aq,cs=[.string d.kind,.int .i64 d.node,.bool d.sick]
theorem Kb{n:Nat}{cs:List Value}{y:DataW H × List MemPlace}(j:cs.length=3)(h:DataW.trod enc prog W 0 (λ_=>true) true n 77 cs=some y):Bo cs:=by
 obtain⟨_,_,g⟩:=cZ underlying77 h 0 0 oT rfl;obtain⟨_,_,i⟩:=cZ underlying77 h 1 1 jL rfl;obtain⟨_,_,k⟩:=cZ underlying77 h 2 2 JZ rfl
 match cs,j with
 | [a,b,c],_=>
  obtain⟨s,e⟩:=oV g;obtain⟨x,f⟩:=ky i;obtain⟨q,d,_⟩:=DataW.trod_bool underlying4 k
  simp at e f d
  exact⟨⟨s,x,q⟩,by rw[e,f,d]⟩
end
def et (w:World) (v:Value) (g o:Nat) (ds:List aq):Prop:=
 ∃ao c,v=.slice ao ds.length c/\(0<ds.length->ao=some ⟨g,o,none⟩/\g<w/\∀k,k<ds.length->w.cell? ⟨g,o+k*3,none⟩=some (.string (aH ds k).kind)/\w.cell? ⟨g,o+k*3+1,none⟩=some (.int .i64 (aH ds k).node)/\w.cell? ⟨g,o+k*3+2,none⟩=some (.bool (aH ds k).sick))
def jM (w:World) (v:Value) (g o:Nat) (l:List Int):Prop:=
 ∃ao c,v=.slice ao l.length c/\(0<l.length->ao=some ⟨g,o,none⟩/\g<w/\∀k,k<l.length->w.cell? ⟨g,o+k,none⟩=some (.int .i64 (bx l k)))
theorem Kc(h:fB W v 3 Bo):∃ds g o,et W v g o ds/\(0<ds.length->g<W.heap.size):=by
 obtain⟨l,len,c,rfl,q,m⟩:=h
 by_cases j:len=0
 ·subst j;exact⟨[],0,0,⟨l,c,rfl,λh=>by simp at h⟩,λh=>by simp at h⟩
 ·obtain⟨b,o,rfl,Hb,i⟩:=m (by omega);obtain⟨f,hf⟩:=Deep.choose_lt (α:=aq) (n:=len) (p:=λk d=>W.cell? ⟨b,o+k*3,none⟩=some (.string d.kind)/\W.cell? ⟨b,o+k*3+1,none⟩=some (.int .i64 d.node)/\W.cell? ⟨b,o+k*3+2,none⟩=some (.bool d.sick)) (λk a=>by
   obtain⟨cs,_,Ha,d,rfl⟩:=i k a;exact⟨d,Ha 0 (by decide),Ha 1 (by decide),Ha 2 (by decide)⟩)
  refine⟨(List.range len).map f,b,o,⟨_,c,by simp,λ_=>⟨rfl,Hb,λk a=>?_⟩⟩,λ_=>Hb⟩;have Hc:k<len:=by simpa using a
  have e:aH ((List.range len).map f) k=f k:=by simp[aH,Hc]
  rw[e];exact hf k Hc
end
def Ans (e:Ending):Prop:=∃b,e=.returned (.bool b)
theorem Kd(nm:ByteArray)(pr:Int){cv:Value}{w:World}(h:fB w cv 6 (lu w)):Calls pg 24 #[.agg #[nm,pr,cv]] w λe w'=>Ans e/\Bw w w':=by
 have Hc:=qI ((Q0 w w).alloc (lR) (.cells #[nm,pr,cv] 49));have G:=qI h;obtain⟨J,len,c,rfl,K,_⟩:=h;clear K
 by_cases s:30<nm.size
 ·go_enter func24,ntmps24
  go_wp2
  go_ret;exact⟨⟨_,rfl⟩,Hc⟩
 have Hf:nm.size<=30:=by omega
 clear s
 by_cases E:5<len
 ·go_enter func24,ntmps24
  go_wp2
  go_ret;exact⟨⟨_,rfl⟩,Hc⟩
 have Hs:len<=5:=by omega
 have Hp:decide (30<(nm.size:Int))=false:=Q7 (by omega);have Hq:decide (5<(len:Int))=false:=Q7 (by omega);clear E Hf
 go_enter func24,ntmps24
 go_wp2
 go_loopw [3] (λi wr=>∃k:Nat,k<=len/\i=.int .i64 k/\Bw w wr/\wr.cell? ⟨w,2,none⟩=some (.slice J len c)) (λi _=>len - (intOf i).toNat)
 exact⟨0,by omega,rfl,Hc,by simp⟩
 ·obtain⟨k,M,rfl,a,Hn⟩:=hrel
  by_cases t:k<len
  ·obtain⟨L,y,O,A,_,x⟩:=G.o.below a λ_ h=>h.below a
   cases A;obtain⟨b,o,rfl,Hr,Hh⟩:=x (by omega);obtain⟨cs,_,d,cn,l,j,g,m,aH,rfl,Hi⟩:=Hh k t;have c0:wr.cell? ⟨b,o+k*6,none⟩=some (.string cn):=d 0 (by decide);have c1:wr.cell? ⟨b,o+k*6+1,none⟩=some (.int .i64 l):=d 1 (by decide);have c2:wr.cell? ⟨b,o+k*6+2,none⟩=some (.int .i64 j):=d 2 (by decide);have c3:wr.cell? ⟨b,o+k*6+3,none⟩=some (.int .i64 g):=d 3 (by decide);have c4:wr.cell? ⟨b,o+k*6+4,none⟩=some (.int .i64 m):=d 4 (by decide);have c5:wr.cell? ⟨b,o+k*6+5,none⟩=some aH:=d 5 (by decide);have Ha:=qI (a.alloc a.size (.cells #[cn,(l:Int),(j:Int),(g:Int),(m:Int),aH] 65));have D:=qI (Hi.below ((Q0 wr wr).alloc (lR) (.cells #[cn,(l:Int),(j:Int),(g:Int),(m:Int),aH] 65)) λ_ h=>h);have He:=Lib.cell?_alloc_some (.cells #[cn,(l:Int),(j:Int),(g:Int),(m:Int),aH] 65) Hn;have Ht:=a.size;obtain⟨da,dl,dc,rfl,_,_⟩:=Hi;clear d Hh x a
   by_cases n:30<cn.size
   ·go_wp2
    go_ret;exact⟨⟨_,rfl⟩,Ha⟩
   have f:cn.size<=30:=by omega
   clear n
   by_cases F:5<dl
   ·go_wp2
    go_ret;exact⟨⟨_,rfl⟩,Ha⟩
   have z:dl<=5:=by omega
   have R:decide (30<(cn.size:Int))=false:=Q7 (by omega);have S:decide (5<(dl:Int))=false:=Q7 (by omega);clear F f
   go_wp2
   go_loop [5] (λi=>∃q:Nat,q<=dl/\i=.int .i64 q) (λi=>dl - (intOf i).toNat)
   exact⟨0,by omega,rfl⟩
   ·obtain⟨q,P,rfl⟩:=hrel
    by_cases p:q<dl
    ·obtain⟨B,u,C,Ho,_,Hg⟩:=D.o;cases Ho;obtain⟨b2,Q,rfl,Hl,Hb⟩:=Hg (by omega);obtain⟨H,_,Hj,s2,N,rfl⟩:=Hb q p;have I:=Hj 0 (by decide);simp only[Nat.add_zero,List.getElem?_cons_zero] at I;clear Hj Hb Hg
     by_cases r:30<s2.size
     ·go_wp2
      go_ret;exact⟨⟨_,rfl⟩,Ha⟩
     have v:s2.size<=30:=by omega
     clear r
     go_wp2
     go_round
     exact⟨q+1,by omega,by go_num⟩
     simp[intOf];omega
    ·have Hk:q=dl:=by omega
     subst Hk
     go_wp2
     go_roundw
     exact⟨k+1,by omega,by go_num,Ha,He⟩
     simp[intOf];omega
  ·have Hm:k=len:=by omega
   subst Hm;have Ha:=qI a;clear a
   go_wp2
   go_ret;exact⟨⟨_,rfl⟩,Ha⟩
