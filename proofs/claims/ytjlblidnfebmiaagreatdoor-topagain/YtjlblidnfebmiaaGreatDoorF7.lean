import Derived.Test.YtjlblidnfebmiaaGreatDoorF2
import Derived.ProofKit
import Derived.OpenShut
import Derived.ChangeOld
import Derived.Deep.Strs
import Derived.Deep.Slices
import Derived.Carry
import Derived.JoinedOf
import Derived.JoinedAt
set_option maxRecDepth 100000
set_option maxHeartbeats 16000000
open Go Go.RowKit
open Go.Proofs.Tryz
namespace Go.Proofs.YtjlblidnfebmiaaGreatDoor
variable{W W':World}{f:Nat->Nat}{j k m n:Nat}{kind s:ByteArray}{l:List Nat}{p us:Nat->Bool}{v:Value}
structure ak where
 kind:ByteArray
 node:Int
 sick:Bool
def zN:ak:=⟨ByteArray.empty,0,false⟩
instance:Inhabited ak:=⟨zN⟩
def aC (ds:List ak) (k:Nat):ak:=ds.getD k zN
def bH (l:List Int) (k:Nat):Int:=l.getD k 0
theorem IZ{l:List Int}(h:k<l.length):l.take (k+1)=l.take k++[bH l k]:=by grind[List.take_add_one,bH]
def bU (p:Nat->Bool) (n:Nat):List Nat:=(List.range n).filter p
theorem oW(h:p n=true):bU p (n+1)=bU p n++[n]:=by simp[bU,List.range_succ,List.filter_append,h]
theorem jR(h:p n=false):bU p (n+1)=bU p n:=by simp[bU,List.range_succ,List.filter_append,h]
theorem sK:j∈bU p n↔j<n/\p j=true:=by simp[bU]
theorem zO(p:Nat->Bool)(n:Nat):(bU p n).Nodup:=List.Pairwise.filter _ (by simpa[List.Nodup] using List.nodup_range (n:=n))
theorem zP(p:Nat->Bool)(n:Nat):(bU p n).Pairwise (· < ·):=List.Pairwise.filter _ List.pairwise_lt_range
theorem qr(p:Nat->Bool)(n:Nat):(bU p n).length<=n:=by simpa[bU] using List.length_filter_le p (List.range n)
theorem zQ{q:Nat->Bool}(h:∀j,j<n->p j=q j):bU p n=bU q n:=by
 unfold bU;exact List.filter_congr λj a=>h j (List.mem_range.1 a)
def bI (l:List Nat):List Nat:=bU (λj=>decide (j∈l)) 16
def eK (us:Nat->Bool) (l:List Nat) (j:Nat):Bool:=us j || decide (j∈l)
theorem zR(us:Nat->Bool):eK us []=us:=by funext j;simp[eK]
theorem I0(us:Nat->Bool)(l:List Nat)(i j:Nat):eK us (l++[i]) j=(eK us l j || decide (j=i)):=by
 unfold eK
 by_cases a:j∈l <;> by_cases b:j=i <;> simp[a,b]
def bC (ds:List ak) (us:Nat->Bool) (kind:ByteArray) (k:Nat):Bool:=decide ((aC ds k).kind=kind) && !(aC ds k).sick && !us k
def lm (ds:List ak) (m:Nat) (k:Nat):Bool:=m.testBit (aC ds k).node.toNat
def em (ds:List ak) (us:Nat->Bool) (kind:ByteArray) (m:Nat) (k:Nat):Bool:=bC ds us kind k && lm ds m k
def ln (ds:List ak) (us:Nat->Bool) (kind:ByteArray) (m:Nat) (k:Nat):Bool:=bC ds us kind k && !lm ds m k
def eL (ds:List ak) (us:Nat->Bool) (kind:ByteArray) (m:Nat):List Nat:=bU (em ds us kind m) ds.length++bU (ln ds us kind m) ds.length
def cU (ds:List ak) (us:Nat->Bool) (kind:ByteArray) (m many:Nat):List Nat:=(eL ds us kind m).take many
theorem I1(f g:Nat->Bool)(n:Nat):(bU (λk=>f k && g k) n).length+(bU (λk=>f k && !g k) n).length=(bU f n).length:=by
 induction n with
 | zero=>rfl
 | succ n ih=>
  cases hf:f n <;> cases hg:g n
  ·rw[jR (by simp[hf]),jR (by simp[hf]),jR hf];exact ih
  ·rw[jR (by simp[hf]),jR (by simp[hf]),jR hf];exact ih
  ·rw[jR (by simp[hg]),oW (by simp[hf,hg]),oW hf];simp;omega
  ·rw[oW (by simp[hf,hg]),jR (by simp[hg]),oW hf];simp;omega
theorem zS(ds:List ak)(us:Nat->Bool)(kind:ByteArray)(m:Nat):(eL ds us kind m).length=(bU (bC ds us kind) ds.length).length:=by
 unfold eL;rw[Q2];exact I1 (bC ds us kind) (lm ds m) ds.length
theorem zT{ds:List ak}:j∈eL ds us kind m↔j<ds.length/\bC ds us kind j=true:=by grind[eL,em,ln,sK,lm]
theorem I2(ds:List ak)(us:Nat->Bool)(kind:ByteArray)(m:Nat):(eL ds us kind m).Nodup:=by grind[eL,zO,sK,em,ln,lm]
theorem nD{ds:List ak}{many:Nat}(h:j∈cU ds us kind m many):j<ds.length/\bC ds us kind j=true:=zT.1 (List.mem_of_mem_take h)
theorem sL(ds:List ak)(us:Nat->Bool)(kind:ByteArray)(m many:Nat):(cU ds us kind m many).Nodup:=List.Pairwise.sublist (List.take_sublist _ _) (I2 ds us kind m)
theorem I3(a:∀j∈l,j<16):j∈bI l↔j∈l:=by grind[bI,sK]
theorem sM(a:∀j∈l,j<16)(b:l.Nodup):(bI l).Perm l:=by
 refine (List.perm_ext_iff_of_nodup (zO _ _) b).2 λj=>?_
 exact I3 a
theorem sN(a:∀j∈l,j<16)(b:l.Nodup):(bI l).length=l.length:=(sM a b).length_eq
theorem I4{l k:List Int}(b:l.Perm k)(d:l.Pairwise (·<=·))(c:k.Pairwise (·<=·)):l=k:=
 b.eq_of_pairwise (λ_ _ _ _ a e=>Int.le_antisymm a e) d c
theorem I5(d:∀j∈l,j<16)(e:l.Nodup):(l.map (λj:Nat=>(j:Int))).mergeSort (λx y=>decide (x<=y))=(bI l).map (λj:Nat=>(j:Int)):=by
 refine I4 ?_ ?_ ?_
 ·exact (List.mergeSort_perm _ _).trans ((sM d e).map _).symm
 ·have h:=List.pairwise_mergeSort (le:=λx y:Int=>decide (x<=y)) (λa b c f g=>by simp at *;omega) (λa b=>by simp;omega) (l.map λj:Nat=>(j:Int));exact h.imp (λ{a b} hab=>by simpa using hab)
 ·rw[List.pairwise_map];exact (zP _ _).imp (λ{a b} hab=>by omega)
def bh (f:Nat->Nat):Nat->Nat
 | 0=>0
 | k+1=>if bh f k=0 then f k else bh f k
theorem ml(h:bh f k=0)(a:f k=0):bh f (k+1)=0:=by rw[bh,if_pos h,a]
theorem I6(h:bh f k≠0)(j:Nat):bh f (k+j)=bh f k:=by
 induction j with
 | zero=>rfl
 | succ j ih=>rw[<- Nat.add_assoc,bh,if_neg (by rw[ih];exact h),ih]
theorem lq(h:bh f k=0)(a:f k≠0)(b:k<n):bh f n=f k:=by
 have e:bh f (k+1)=f k:=by rw[bh,if_pos h]
 have:=I6 (f:=f) (k:=k+1) (by rw[e];exact a) (n - (k+1))
 rw[show k+1+(n - (k+1))=n by omega] at this;rw[this,e]
theorem fA(h:bh f n=0):∀k,k<n->f k=0:=by
 induction n with
 | zero=>intro k b;omega
 | succ n ih=>
  rw[bh] at h
  split at h
  ·rename_i a
   intro k b
   by_cases e:k=n
   ·subst e;exact h
   ·exact ih a k (by omega)
  ·rename_i a;exact absurd h a
theorem sO(h:∀k,k<n->f k=0):bh f n=0:=by
 induction n with
 | zero=>rfl
 | succ n ih=>exact ml (ih λk a=>h k (by omega)) (h n (by omega))
theorem I7{g:Nat->Nat}(h:∀k,k<n->f k=g k):bh f n=bh g n:=by
 induction n with
 | zero=>rfl
 | succ n ih=>rw[bh,bh,ih λk a=>h k (by omega),h n (by omega)]
def eD (n:Nat) (us:Nat->Bool) (l:List Int) (k:Nat):Nat:=
 if bH l k<0\/(n:Int)<=bH l k then 1 else if (us (bH l k).toNat || decide (bH l k∈l.take k))=true then 5 else 0
def WF (n:Nat) (us:Nat->Bool) (l:List Int) (k:Nat):Nat:=
 if bH l k<0\/(n:Int)<=bH l k then 1 else if us (bH l k).toNat=true then 0 else 6
def de (us:Nat->Bool) (l:List Int) (j:Nat):Bool:=us j || decide ((j:Int)∈l)
def WG (us:Nat->Bool) (l:List Int) (j:Nat):Bool:=us j && !decide ((j:Int)∈l)
theorem I8(us:Nat->Bool):de us []=us:=by funext j;simp[de]
theorem I9(us:Nat->Bool)(l:List Int)(x:Int)(h:0<=x)(j:Nat):de us (l++[x]) j=(de us l j || decide (j=x.toNat)):=by grind[de]
def oX (b:UInt8):Bool:=decide (97<=b.toNat) && decide (b.toNat<=122)
def oY (b:UInt8):Bool:=decide (48<=b.toNat/\b.toNat<=57)
def iU (s:ByteArray) (i:Nat):Bool:=oX (s.data.toList.getD i 0) || (oY (s.data.toList.getD i 0) && decide (0<i))
theorem Ja(s:ByteArray)(k:Nat)(h:k<s.size):s.data.toList.getD k 0=s[k]:=by
 have a:k<s.data.size:=h;rw[List.getD_eq_getElem?_getD,Array.getElem?_toList,Array.getElem?_eq_getElem a];rfl
theorem Jb(s:ByteArray)(k:Nat)(h:k<s.size):iU s k=(oX s[k] || (oY s[k] && decide (0<k))):=by rw[iU,Ja s k h]
def fg (f:Nat->Bool):Nat->Bool
 | 0=>true
 | k+1=>fg f k && f k
theorem zU{f:Nat->Bool}(h:fg f k=true)(a:f k=true):fg f (k+1)=true:=by rw[fg,h,a];rfl
theorem zV{f:Nat->Bool}(a:f k=false)(b:k<n):fg f n=false:=by induction n <;> grind[fg]
def bR (s:ByteArray):Bool:=decide (0<s.size) && decide (s.size<=8) && fg (iU s) s.size
theorem Jc(h:s.size=0):bR s=false:=by simp[bR,h]
theorem Jd(h:8<s.size):bR s=false:=by simp[bR];omega
theorem Je(a:0<s.size)(b:s.size<=8):bR s=fg (iU s) s.size:=by rw[bR,Qc a,Qc b];rfl
def iy (ds:List ak) (k:Nat):Nat:=if bR (aC ds k).kind=false then 3 else if (aC ds k).node<0\/3<(aC ds k).node then 1 else 0
def dI (ds:List ak):Nat:=if 16<ds.length then 2 else bh (iy ds) ds.length
def eE (ds:List ak):Prop:=ds.length<=16/\∀k,k<ds.length->0<=(aC ds k).node/\(aC ds k).node<=3
theorem mn{ds:List ak}(h:dI ds=0):eE ds:=by
 unfold dI at h
 split at h
 ·cases h
 ·refine⟨by omega,λk a=>?_⟩
  have:=fA h k a
  unfold iy at this
  split at this
  ·cases this
  ·split at this
   ·cases this
   ·omega
def bj (p:Nat->Bool) (ds:List ak) (x n:Nat):Nat:=(bU (λj=>p j && decide ((aC ds j).node=(x:Int))) n).length
theorem zW(p:Nat->Bool)(ds:List ak)(x n:Nat):bj p ds x n<=n:=qr _ _
theorem vz{ds:List ak}(h:p n=false)(x:Nat):bj p ds x (n+1)=bj p ds x n:=by
 unfold bj;rw[jR (by rw[h];rfl)]
theorem vA{ds:List ak}(h:p n=true)(a:0<=(aC ds n).node)(x:Nat):bj p ds x (n+1)=bj p ds x n+(if x=(aC ds n).node.toNat then 1 else 0):=by grind[bj,aC,oW,jR]
def cR (ds:List ak) (kind:ByteArray) (k:Nat):Bool:=decide ((aC ds k).kind=kind) && !(aC ds k).sick
theorem vB(ds:List ak)(us:Nat->Bool)(kind:ByteArray)(k:Nat):bC ds us kind k=(cR ds kind k && !us k):=rfl
def ed (ds:List ak) (us:Nat->Bool) (kind:ByteArray) (many:Int):Nat:=if many<0 then 1 else if ((bU (bC ds us kind) ds.length).length:Int)<many then 9 else 0
def jS (ds:List ak) (n:Nat) (on:Bool):List ak:=ds.set n ⟨(aC ds n).kind,(aC ds n).node,on⟩
theorem qt(ds:List ak)(n:Nat)(on:Bool):(jS ds n on).length=ds.length:=by simp[jS]
theorem vD{ds:List ak}(h:n<ds.length)(on:Bool)(k:Nat):aC (jS ds n on) k=if k=n then ⟨(aC ds n).kind,(aC ds n).node,on⟩ else aC ds k:=by grind[jS,aC]
theorem Jf{ds:List ak}(a:eE ds)(h:n<ds.length)(on:Bool):eE (jS ds n on):=by
 refine⟨by rw[qt];exact a.1,λk b=>?_⟩;rw[qt] at b;rw[vD h]
 split
 ·exact a.2 n h
 ·exact a.2 k b
section
open Go.ChangeShapes Go.WideShapes Go.ChangeAt Go.RowKit
def er (W:World) (v:Value) (N:Nat) (p:List Value->Prop):Prop:=
 ∃ao len c,v=.slice ao len c/\len<=maxLen/\(0<len->∃b o,ao=some ⟨b,o,none⟩/\b<W.heap.size/\∀k,k<len->∃cs:List Value,cs.length=N/\(∀j,j<N->W.cell? ⟨b,o+k*N+j,none⟩=cs[j]?)/\p cs)
theorem er.below{N:Nat}{p q:List Value->Prop}(h:er W v N p)(a:Below W W W')(d:∀cs,p cs->q cs):er W' v N q:=by
 obtain⟨m,len,c,r,s,t⟩:=h;refine⟨m,len,c,r,s,λl=>?_⟩;obtain⟨b,o,n,Ha,i⟩:=t l;refine⟨b,o,n,Q1 Ha a.size,λk f=>?_⟩;obtain⟨cs,e,Hb,Hc⟩:=i k f;exact⟨cs,e,λj g=>(a.cell (p:=⟨b,o+k*N+j,none⟩) Ha).trans (Hb j g),d cs Hc⟩
section
variable{H:Type}{enc:TypeId × Value->H}{P:Program}{W:World}
theorem cO{base:Nat}{a:Nat->Bool}{held:Bool}{b:Nat}{t:TypeId}{cs:List Value}{x:DataW H × List MemPlace}{d:Array Field}(m:P.underlying t=some (.struct d))(h:DataW.trod enc P W base a held b t cs=some x)(i:Nat)(c:TypeId)(off N:Nat)(k:P.cellsOf c=N)(hf:(d[i]?).map (λf=>(f.type,f.offset))=some (c,off)) :
  ∃n y,DataW.trod enc P W base a held n c ((cs.drop off).take N)=some y:=by
 obtain⟨j,n,_,_,_,Ha,l⟩:=DataW.trod_struct m h;obtain⟨f,g,e⟩:=Option.map_eq_some_iff.1 hf;cases e;subst k;have hi:i<j.length:=by rw[Ha];exact (gS g).1
 exact⟨n,j[i],by rw[l i f g];exact Qf hi⟩
theorem mo{t e:TypeId}{N d:Nat}{v:Value}{x:DataW H × List MemPlace}{p:List Value->Prop}(B:P.underlying t=some (.slice e))(o:P.cellsOf e=N)(C:0<N)
  (h:DataW.trod enc P W 0 (λ_=>true) true d t [v]=some x) (l:∀n cs y,cs.length=N->DataW.trod enc P W 0 (λ_=>true) true n e cs=some y->p cs):er W v N p:=by
 rcases Deep.open_slice B h with⟨Ha,_⟩|⟨a,len,z,m,n,D,F,Ha,_,r,A,Hf,_,g⟩
 ·simp at Ha
  subst Ha;exact⟨none,0,0,rfl,Nat.zero_le _,λh=>by omega⟩
 ·simp at Ha
  subst Ha;rw[if_pos rfl] at Hf;subst Hf;rw[o] at g;refine⟨some a,len,_,rfl,Q5 r A,λi=>?_⟩;obtain⟨b,off,c⟩:=a;obtain⟨u,Hh,_⟩:=g 0 (by omega);obtain⟨_,Hg,Hi⟩:=World.cells?_some Hh;have f:=Hi 0 (by omega);rw[Qf (by omega)] at f;have Hb:c=none:=by simpa[Addr.add] using World.cell?_spot f
  subst Hb;refine⟨b,off,rfl,?_,λk E=>?_⟩
  ·rw[Deep.add_add,Addr.add_lit] at f;exact Q3 W _ f
  ·obtain⟨cs,q,s⟩:=g k (by omega);obtain⟨_,Hc,He⟩:=World.cells?_some q;refine⟨cs,Hc,λj w=>?_,l n cs _ Hc s⟩
   have:=He j w
   rw[Deep.add_add,Addr.add_lit,<- Nat.add_assoc] at this;exact this
end
theorem nE:prog.cellsOf 9=1:=by kernel_rfl
theorem jq:prog.cellsOf 3=1:=by kernel_rfl
theorem Jg:prog.cellsOf 4=1:=by kernel_rfl
theorem Jh:prog.cellsOf 45=1:=by kernel_rfl
theorem zX:prog.cellsOf 62=2:=by kernel_rfl
theorem Ji:prog.cellsOf 127=2:=by kernel_rfl
theorem zY:prog.cellsOf 148=2:=by kernel_rfl
theorem Jj:prog.cellsOf 65=6:=by kernel_rfl
theorem vE:prog.cellsOf 49=3:=by kernel_rfl
theorem Jk:prog.cellsOf 52=10:=by kernel_rfl
theorem Jl:prog.cellsOf 46=1:=by kernel_rfl
theorem Jm:prog.cellsOf 63=1:=by kernel_rfl
theorem zZ:prog.cellsOf 47=1:=by kernel_rfl
theorem Aa:prog.cellsOf 50=1:=by kernel_rfl
def vF (cs:List Value):Prop:=∃x:Int,cs=[.int .i64 x]
def mr (cs:List Value):Prop:=∃(s:ByteArray) (x:Int),cs=[.string s,.int .i64 x]
def jT (W:World) (cs:List Value):Prop:=∃(nm:ByteArray) (a b c d:Int) (v:Value),cs=[.string nm,.int .i64 a,.int .i64 b,.int .i64 c,.int .i64 d,v]/\er W v 2 mr
def Jn (W:World) (cs:List Value):Prop:=∃(kind s:ByteArray) (a b:Int) (m:Nat) (lv:Value) (nm:ByteArray) (pr:Int) (cv uv:Value),
 cs=[.string kind,.string s,.int .i64 a,.int .i64 b,.int .u8 m,lv,.string nm,.int .i64 pr,cv,uv]/\m<256/\er W lv 1 vF/\er W cv 6 (jT W)/\er W uv 2 mr
theorem jT.below{cs:List Value}(h:jT W cs)(e:Below W W W'):jT W' cs:=by
 obtain⟨nm,a,b,c,d,v,rfl,f⟩:=h;exact⟨nm,a,b,c,d,v,rfl,f.below e λ_ h=>h⟩
section
variable{H:Type}{enc:TypeId × Value->H}{W:World}
theorem jU{n:Nat}{cs:List Value}{y:DataW H × List MemPlace}(h:DataW.trod enc prog W 0 (λ_=>true) true n 3 cs=some y):vF cs:=by
 obtain⟨p,e,_,_⟩:=DataW.trod_int underlying3 h;exact⟨p,e⟩
theorem nF{n:Nat}{cs:List Value}{y:DataW H × List MemPlace}(h:DataW.trod enc prog W 0 (λ_=>true) true n 9 cs=some y):∃s:ByteArray,cs=[.string s]:=by
 obtain⟨p,e,_⟩:=DataW.trod_string underlying9 h;exact⟨p,e⟩
theorem Jo{n:Nat}{v:Value}{y:DataW H × List MemPlace}(h:DataW.trod enc prog W 0 (λ_=>true) true n 46 [v]=some y):er W v 1 vF:=
 mo underlying46 jq (by decide) h λ_ _ _ _ h=>jU h
theorem Jp{n:Nat}{cs:List Value}{y:DataW H × List MemPlace}(g:cs.length=2)(h:DataW.trod enc prog W 0 (λ_=>true) true n 127 cs=some y):mr cs:=by
 obtain⟨_,_,f⟩:=cO underlying127 h 0 9 0 _ nE rfl;obtain⟨_,_,e⟩:=cO underlying127 h 1 3 1 _ jq rfl
 match cs,g with
 | [a,b],_=>
  obtain⟨s,c⟩:=nF f;obtain⟨x,d⟩:=jU e
  simp at c d
  exact⟨s,x,by rw[c,d]⟩
theorem Ab{n:Nat}{cs:List Value}{y:DataW H × List MemPlace}(g:cs.length=2)(h:DataW.trod enc prog W 0 (λ_=>true) true n 148 cs=some y):mr cs:=by
 obtain⟨_,_,f⟩:=cO underlying148 h 0 9 0 _ nE rfl;obtain⟨_,_,e⟩:=cO underlying148 h 1 3 1 _ jq rfl
 match cs,g with
 | [a,b],_=>
  obtain⟨s,c⟩:=nF f;obtain⟨x,d⟩:=jU e
  simp at c d
  exact⟨s,x,by rw[c,d]⟩
theorem Ad{n:Nat}{cs:List Value}{y:DataW H × List MemPlace}(g:cs.length=2)(h:DataW.trod enc prog W 0 (λ_=>true) true n 62 cs=some y):∃a b:Int,cs=[.int .i64 a,.int .i64 b]:=by
 obtain⟨_,_,f⟩:=cO underlying62 h 0 3 0 _ jq rfl;obtain⟨_,_,e⟩:=cO underlying62 h 1 3 1 _ jq rfl
 match cs,g with
 | [a,b],_=>
  obtain⟨s,c⟩:=jU f;obtain⟨x,d⟩:=jU e
  simp at c d
  exact⟨s,x,by rw[c,d]⟩
theorem Jq{n:Nat}{cs:List Value}{y:DataW H × List MemPlace}(g:cs.length=6)(h:DataW.trod enc prog W 0 (λ_=>true) true n 65 cs=some y):jT W cs:=by
 obtain⟨_,_,q⟩:=cO underlying65 h 0 9 0 _ nE rfl;obtain⟨_,_,p⟩:=cO underlying65 h 1 62 1 _ zX rfl;obtain⟨_,_,l⟩:=cO underlying65 h 2 62 3 _ zX rfl;obtain⟨_,_,m⟩:=cO underlying65 h 3 63 5 _ Jm rfl
 match cs,g with
 | [a,b,c,d,e,f],_=>
  obtain⟨s,k⟩:=nF q;obtain⟨v,o,i⟩:=Ad rfl p;obtain⟨r,u,j⟩:=Ad rfl l;have t:=mo underlying63 Ji (by decide) m λ_ _ _ g h=>Jp g h
  simp at k i j
  exact⟨s,v,o,r,u,f,by rw[k,i.1,i.2,j.1,j.2],t⟩
theorem Ae{n:Nat}{cs:List Value}{y:DataW H × List MemPlace}(d:cs.length=3)(h:DataW.trod enc prog W 0 (λ_=>true) true n 49 cs=some y):∃(nm:ByteArray) (pr:Int) (cv:Value),cs=[.string nm,.int .i64 pr,cv]/\er W cv 6 (jT W):=by
 obtain⟨_,_,i⟩:=cO underlying49 h 0 9 0 _ nE rfl;obtain⟨_,_,g⟩:=cO underlying49 h 1 3 1 _ jq rfl;obtain⟨_,_,j⟩:=cO underlying49 h 2 47 2 _ zZ rfl
 match cs,d with
 | [a,b,c],_=>
  obtain⟨s,e⟩:=nF i;obtain⟨x,f⟩:=jU g;have k:=mo underlying47 Jj (by decide) j λ_ _ _ d h=>Jq d h
  simp at e f
  exact⟨s,x,c,by rw[e,f],k⟩
theorem Jr{n:Nat}{cs:List Value}{y:DataW H × List MemPlace}(b:cs.length=10)(h:DataW.trod enc prog W 0 (λ_=>true) true n 52 cs=some y):Jn W cs:=by
 obtain⟨_,_,p⟩:=cO underlying52 h 0 9 0 _ nE rfl;obtain⟨_,_,o⟩:=cO underlying52 h 1 9 1 _ nE rfl;obtain⟨_,_,u⟩:=cO underlying52 h 2 3 2 _ jq rfl;obtain⟨_,_,m⟩:=cO underlying52 h 3 3 3 _ jq rfl;obtain⟨_,_,s⟩:=cO underlying52 h 4 45 4 _ Jh rfl;obtain⟨_,_,k⟩:=cO underlying52 h 5 46 5 _ Jl rfl;obtain⟨_,_,w⟩:=cO underlying52 h 6 49 6 _ vE rfl;obtain⟨_,_,j⟩:=cO underlying52 h 7 50 9 _ Aa rfl
 match cs,b with
 | [z0,z1,z2,z3,z4,z5,z6,z7,z8,z9],_=>
  obtain⟨r,c⟩:=nF p;obtain⟨v,f⟩:=nF o;obtain⟨x,g⟩:=jU u;obtain⟨q,e⟩:=jU m;obtain⟨d,i,_,Ha⟩:=DataW.trod_int underlying45 s;have A:0<=d/\d<=255:=bounds_u8 Ha;obtain⟨M,rfl⟩:=Int.eq_ofNat_of_zero_le A.1;have z:=Jo k;obtain⟨nm,pr,cv,a,C⟩:=Ae rfl w;have t:=mo underlying50 zY (by decide) j λ_ _ _ b h=>Ab b h
  simp at c f g e i a
  obtain⟨a,l,B⟩:=a;exact⟨r,v,x,q,M,z5,nm,pr,cv,z9,by rw[c,f,g,e,i,a,l,B],by omega,z,C,t⟩
def Af (cs:List Value):Prop:=∃d:ak,cs=[.string d.kind,.int .i64 d.node,.bool d.sick]
theorem Js{n:Nat}{cs:List Value}{y:DataW H × List MemPlace}(k:cs.length=3)(h:DataW.trod enc prog W 0 (λ_=>true) true n 77 cs=some y):Af cs:=by
 obtain⟨_,_,i⟩:=cO underlying77 h 0 9 0 _ nE rfl;obtain⟨_,_,g⟩:=cO underlying77 h 1 3 1 _ jq rfl;obtain⟨_,_,j⟩:=cO underlying77 h 2 4 2 _ Jg rfl
 match cs,k with
 | [a,b,c],_=>
  obtain⟨s,d⟩:=nF i;obtain⟨x,f⟩:=jU g;obtain⟨q,e,_⟩:=DataW.trod_bool underlying4 j
  simp at d f e
  exact⟨⟨s,x,q⟩,by rw[d,f,e]⟩
end
def et (w:World) (v:Value) (g o:Nat) (ds:List ak):Prop:=
 ∃ao c,v=.slice ao ds.length c/\(0<ds.length->ao=some ⟨g,o,none⟩/\g<w/\∀k,k<ds.length->w.cell? ⟨g,o+k*3,none⟩=some (.string (aC ds k).kind)/\w.cell? ⟨g,o+k*3+1,none⟩=some (.int .i64 (aC ds k).node)/\w.cell? ⟨g,o+k*3+2,none⟩=some (.bool (aC ds k).sick))
def jr (w:World) (v:Value) (g o:Nat) (l:List Int):Prop:=
 ∃ao c,v=.slice ao l.length c/\(0<l.length->ao=some ⟨g,o,none⟩/\g<w/\∀k,k<l.length->w.cell? ⟨g,o+k,none⟩=some (.int .i64 (bH l k)))
theorem Jt(h:er W v 3 Af):∃ds g o,et W v g o ds/\(0<ds.length->g<W.heap.size):=by
 obtain⟨l,len,c,rfl,q,m⟩:=h
 by_cases j:len=0
 ·subst j;exact⟨[],0,0,⟨l,c,rfl,λh=>by simp at h⟩,λh=>by simp at h⟩
 ·obtain⟨b,o,rfl,Hb,i⟩:=m (by omega);obtain⟨f,hf⟩:=Deep.choose_lt (α:=ak) (n:=len) (p:=λk d=>W.cell? ⟨b,o+k*3,none⟩=some (.string d.kind)/\W.cell? ⟨b,o+k*3+1,none⟩=some (.int .i64 d.node)/\W.cell? ⟨b,o+k*3+2,none⟩=some (.bool d.sick)) (λk a=>by
   obtain⟨cs,_,Ha,d,rfl⟩:=i k a;exact⟨d,Ha 0 (by decide),Ha 1 (by decide),Ha 2 (by decide)⟩)
  refine⟨(List.range len).map f,b,o,⟨_,c,by simp,λ_=>⟨rfl,Hb,λk a=>?_⟩⟩,λ_=>Hb⟩;have Hc:k<len:=by simpa using a
  have e:aC ((List.range len).map f) k=f k:=by simp[aC,Hc]
  rw[e];exact hf k Hc
end
def Ans (e:Ending):Prop:=∃b,e=.returned (.bool b)
theorem WH(v:Value)(w:World)(h:er w v 2 mr):Calls prog 25 #[v] w λe w'=>Ans e/\w'=w:=by
 obtain⟨r,len,c,rfl,n,l⟩:=h;have p:=qI l;clear l n
 by_cases g:20<len
 ·go_enter func25,ntmps25
  go_wp2
  go_ret;exact⟨⟨_,rfl⟩,rfl⟩
 have Hc:len<=20:=by omega
 clear g;have hd:decide (20<(len:Int))=false:=Q7 (by omega)
 go_enter func25,ntmps25
 go_wp2_with fail
 go_loop [3] (λi=>∃k:Nat,k<=len/\i=.int .i64 k) (λi=>len - (intOf i).toNat)
 case atStart=>exact⟨0,by omega,rfl⟩
 case round=>
  obtain⟨k,q,rfl⟩:=hrel
  by_cases a:k<len
  ·obtain⟨b,o,rfl,He,Ha⟩:=p.o (by omega);obtain⟨cs,_,d,s,x,rfl⟩:=Ha k a;have c0:cl w b (o+k*2) s:=d 0 (by decide);have c1:cl w b (o+k*2+1) (x:Int):=d 1 (by decide);clear d Ha;have key:30<s.size\/(s.size<=30/\x < -1125899906842624)\/(s.size<=30/\-1125899906842624<=x/\1125899906842624<x)\/(s.size<=30/\-1125899906842624<=x/\x<=1125899906842624):=by omega
   rcases key with f|⟨f,j⟩|⟨f,j,m⟩|⟨f,j,m⟩
   ·go_wp2
    go_ret;exact⟨⟨_,rfl⟩,rfl⟩
   ·go_wp2
    go_ret;exact⟨⟨_,rfl⟩,rfl⟩
   ·go_wp2
    go_ret;exact⟨⟨_,rfl⟩,rfl⟩
   ·go_wp2_with fail
    go_round
    case rel=>exact⟨k+1,by omega,by go_num⟩
    case measure=>simp[intOf];omega
  ·have Hb:k=len:=by omega
   subst Hb
   go_wp2
   go_ret;exact⟨⟨_,rfl⟩,rfl⟩
theorem Ag(nm:ByteArray)(pr:Int)(cv:Value)(w:World)(h:er w cv 6 (jT w)):Calls prog 24 #[.agg #[nm,pr,cv]] w λe w'=>Ans e/\Below w w w':=by
 have Hf:=qI ((Q0 w w).alloc (lR) (.cells #[nm,pr,cv] 49));have K:=qI h;obtain⟨D,len,c,rfl,N,_⟩:=h;clear N
 by_cases u:30<nm.size
 ·go_enter func24,ntmps24
  go_wp2
  go_ret;exact⟨⟨_,rfl⟩,Hf.o⟩
 have He:nm.size<=30:=by omega
 clear u
 by_cases F:5<len
 ·go_enter func24,ntmps24
  go_wp2
  go_ret;exact⟨⟨_,rfl⟩,Hf.o⟩
 have Hq:len<=5:=by omega
 have Hr:decide (30<(nm.size:Int))=false:=Q7 (by omega);have Hp:decide (5<(len:Int))=false:=Q7 (by omega);clear F He
 go_enter func24,ntmps24
 go_wp2
 go_loopw [3] (λi wr=>∃k:Nat,k<=len/\i=.int .i64 k/\Below w w wr/\wr.cell? ⟨w,2,none⟩=some (.slice D len c)) (λi _=>len - (intOf i).toNat)
 case atStart=>exact⟨0,by omega,rfl,Hf.o,by simp⟩
 case round=>
  obtain⟨k,Q,rfl,a,Hk⟩:=hrel
  by_cases t:k<len
  ·obtain⟨B,v,P,G,_,z⟩:=K.o.below a λ_ h=>h.below a
   cases G;obtain⟨b,o,rfl,Hs,Hh⟩:=z (by omega);obtain⟨cs,_,d,cn,l,m,j,n,aC,rfl,Hi⟩:=Hh k t;have c0:wr.cell? ⟨b,o+k*6,none⟩=some (.string cn):=d 0 (by decide);have c1:wr.cell? ⟨b,o+k*6+1,none⟩=some (.int .i64 l):=d 1 (by decide);have c2:wr.cell? ⟨b,o+k*6+2,none⟩=some (.int .i64 m):=d 2 (by decide);have c3:wr.cell? ⟨b,o+k*6+3,none⟩=some (.int .i64 j):=d 3 (by decide);have S:wr.cell? ⟨b,o+k*6+4,none⟩=some (.int .i64 n):=d 4 (by decide);have R:wr.cell? ⟨b,o+k*6+5,none⟩=some aC:=d 5 (by decide);have Ha:=qI (a.alloc a.size (.cells #[cn,(l:Int),(m:Int),(j:Int),(n:Int),aC] 65));have C:=qI (Hi.below ((Q0 wr wr).alloc (lR) (.cells #[cn,(l:Int),(m:Int),(j:Int),(n:Int),aC] 65)) λ_ h=>h);have Hc:=Lib.cell?_alloc_some (.cells #[cn,(l:Int),(m:Int),(j:Int),(n:Int),aC] 65) Hk;have Ht:=a.size;obtain⟨da,f,dc,rfl,_,_⟩:=Hi;clear d Hh z a
   by_cases r:30<cn.size
   ·go_wp2
    go_ret;exact⟨⟨_,rfl⟩,Ha.o⟩
   have g:cn.size<=30:=by omega
   clear r
   by_cases E:5<f
   ·go_wp2
    go_ret;exact⟨⟨_,rfl⟩,Ha.o⟩
   have H:f<=5:=by omega
   have V:decide (30<(cn.size:Int))=false:=Q7 (by omega);have W:decide (5<(f:Int))=false:=Q7 (by omega);clear E g
   go_wp2_with fail
   go_loop [5] (λi=>∃q:Nat,q<=f/\i=.int .i64 q) (λi=>f - (intOf i).toNat)
   case atStart=>exact⟨0,by omega,rfl⟩
   case round=>
    obtain⟨q,T,rfl⟩:=hrel
    by_cases s:q<f
    ·obtain⟨M,A,L,Hm,_,Hg⟩:=C.o;cases Hm;obtain⟨b2,O,rfl,Hn,Hb⟩:=Hg (by omega);obtain⟨J,_,Hj,y,U,rfl⟩:=Hb q s;have I:=Hj 0 (by decide);simp only[Nat.add_zero,List.getElem?_cons_zero] at I;clear Hj Hb Hg
     by_cases p:30<y.size
     ·go_wp2
      go_ret;exact⟨⟨_,rfl⟩,Ha.o⟩
     have x:y.size<=30:=by omega
     clear p
     go_wp2_with fail
     go_round
     case rel=>exact⟨q+1,by omega,by go_num⟩
     case measure=>simp[intOf];omega
    ·have Hl:q=f:=by omega
     subst Hl
     go_wp2
     go_roundw
     case rel=>exact⟨k+1,by omega,by go_num,Ha.o,Hc⟩
     case measure=>simp[intOf];omega
  ·have Ho:k=len:=by omega
   subst Ho;have Ha:=qI a;clear a
   go_wp2
   go_ret;exact⟨⟨_,rfl⟩,Ha.o⟩
