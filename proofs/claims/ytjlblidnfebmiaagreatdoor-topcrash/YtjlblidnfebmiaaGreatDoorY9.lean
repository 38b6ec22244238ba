import Derived.Test.YtjlblidnfebmiaaGreatDoorY6
import Derived.Lib.ItoaLen
import Derived.RangeFuncNested
import Derived.RangeFuncBound
import Derived.RangeFuncCalls
import Derived.RangeFuncLeaves
import Derived.RangeFuncBox
import Derived.RangeFuncWrites
import Derived.Shelf.Abstract
import Derived.Shelf.RegionOpen
import Derived.OwnWalkIn
import Derived.TacticsInMore
import Derived.LoopNIn
import Derived.LoopIn
import Derived.Maps.OwnIn
import Derived.OrdersHeld
import Derived.OrdersIn
import Derived.Deep.RegionHeld3
set_option maxRecDepth 100000
set_option maxHeartbeats 16000000
open Go Go.RowKit Go.Shelf
attribute [local go_sem] Oper.semAt_some
open Go.Proofs.Tryz
namespace Go.Proofs.YtjlblidnfebmiaaGreatDoor
variable{A W W' w w':World}{B b h i k o:Nat}{K:Nat->Prop}{a:Act}{bs:ByteArray}{c:UInt8}{cs:List aF}{d:ak}{ds:List ak}{dv:List Int}{p:aj}{r s:List UInt8}{v:Value}{wr:Bool}
theorem Ld(W:World)(b j:Nat)(v:Value):W.grownBy (W.setCell ⟨b,j,none⟩ v) (some b):=
 ⟨rfl,rfl,rfl,by simp,λk c a=>by
  grind[World.setCell]⟩
def cA (B:Nat) (w w':World):Prop:=w.grownBy w' (some B)/\w'=w.heap.size
theorem cA.refl(B:Nat)(w:World):cA B w w:=⟨⟨rfl,rfl,rfl,lR,λ_ _ _=>rfl⟩,rfl⟩
theorem cA.set(h:cA B w w')(j:Nat)(v:Value):cA B w (w'.setCell ⟨B,j,none⟩ v):=by
 obtain⟨c,hs⟩:=h;have a:=Ld w' B j v;refine⟨⟨a.os.trans c.os,a.tape.trans c.tape,a.output.trans c.output,Q5 c.size a.size,λk d b=>(a.block k (by omega) b).trans (c.block k d b)⟩,?_⟩;rw[<- hs]
 simp
theorem kC{a:Array Value}{t:TypeId}(h:w.heap[B]?=some (.cells a t (0,0)))(j:Nat)(v:Value):(w.setCell ⟨B,j,none⟩ v).heap[B]?=some (.cells (a.setIfInBounds j v) t (0,0)):=by
 obtain⟨Ha,b⟩:=gS h
 show (w.heap.modify B _)[B]?=_
 rw[Array.getElem?_eq_getElem (by grind),Array.getElem_modify_self,b];rfl
def aQ (w:World) (B:Nat) (n k:Sd) (v:Value) (l:Int) (d:Bool):Prop:=w.heap[B]?=some (.cells #[n.ft,n.fb,n.dt,n.db,k.ft,k.fb,k.dt,k.db,v,l,d] 96 (0,0))
section
variable{w:World}{B:Nat}{n k:Sd}{v:Value}{l:Int}{d:Bool}
theorem aQ.lt(h:aQ w B n k v l d):B<w:=(gS h).1
theorem aQ.now(h:aQ w B n k v l d):w.cell? B=some (.bool n.ft)/\w.cell? ⟨B,1,none⟩=some (.string n.fb)/\w.cell? ⟨B,2,none⟩=some (.bool n.dt)/\w.cell? ⟨B,3,none⟩=some (.string n.db):=by
 refine⟨?_,?_,?_,?_⟩ <;> simp[World.cell?,show w.heap[B]?=_ from h]
theorem aQ.kept(h:aQ w B n k v l d):w.cell? ⟨B,4,none⟩=some (.bool k.ft)/\w.cell? ⟨B,5,none⟩=some (.string k.fb)/\w.cell? ⟨B,6,none⟩=some (.bool k.dt)/\w.cell? ⟨B,7,none⟩=some (.string k.db):=by
 refine⟨?_,?_,?_,?_⟩ <;> simp[World.cell?,show w.heap[B]?=_ from h]
theorem aQ.rest(h:aQ w B n k v l d):w.cell? ⟨B,8,none⟩=some v/\w.cell? ⟨B,9,none⟩=some (.int .i64 l)/\w.cell? ⟨B,10,none⟩=some (.bool d):=by
 refine⟨?_,?_,?_⟩ <;> simp[World.cell?,show w.heap[B]?=_ from h]
theorem aQ.frozen(h:aQ w B n k v l d)(j:Nat):w.frozen? ⟨B,j,none⟩=false:=by simp[World.frozen?,show w.heap[B]?=_ from h]
theorem aQ.set8(h:aQ w B n k v l d)(a:Value):aQ (w.setCell ⟨B,8,none⟩ a) B n k a l d:=kC h 8 a
theorem aQ.set9(h:aQ w B n k v l d)(a:Int):aQ (w.setCell ⟨B,9,none⟩ a) B n k v a d:=kC h 9 _
theorem aQ.set10(h:aQ w B n k v l d)(a:Bool):aQ (w.setCell ⟨B,10,none⟩ a) B n k v l a:=kC h 10 _
def putS (w:World) (B i:Nat) (s:Sd):World:=(((w.setCell ⟨B,i,none⟩ s.ft).setCell ⟨B,i+1,none⟩ s.fb).setCell ⟨B,i+2,none⟩ s.dt).setCell ⟨B,i+3,none⟩ s.db
theorem aQ.setNow(h:aQ w B n k v l d)(s:Sd):aQ (putS w B 0 s) B s k v l d:=kC (kC (kC (kC h 0 _) 1 _) 2 _) 3 _
theorem aQ.setKept(h:aQ w B n k v l d)(s:Sd):aQ (putS w B 4 s) B n s v l d:=kC (kC (kC (kC h 4 _) 5 _) 6 _) 7 _
theorem cA.putS{w w':World}{B:Nat}(h:cA B w w')(i:Nat)(s:Sd):cA B w (putS w' B i s):=(((h.set i _).set (i+1) _).set (i+2) _).set (i+3) _
theorem aQ.block{w':World}(h:aQ w B n k v l d)(a:w'.heap[B]?=w.heap[B]?):aQ w' B n k v l d:=a.trans h
end
def cN (l:Int) (d:Bool):Nat:=if d=true\/l=0 then 11 else 0
def bn (l:Int) (d:Bool):Int:=if d=true\/l=0 then l else if 0<l then l - 1 else l
def fE (l:Int) (d:Bool):Bool:=decide (d=true\/l=0)
theorem sd{B:Nat}{n k:Sd}{v:Value}{l:Int}{d:Bool}{w:World}(h:aQ w B n k v l d)(p:-9223372036854775808<=l/\l<=9223372036854775807):Calls pg 114 #[.pointer (some ⟨B,0,none⟩)] w λe w'=>e=.returned (aD ((cN l d:Nat):Int))/\aQ w' B n k v (bn l d) (fE l d)/\cA B w w':=by
 obtain⟨_,m,c10⟩:=h.rest;have r:=h.frozen 9;have f10:=h.frozen 10
 by_cases a:l=0
 ·subst a;obtain⟨_,o,i⟩:=(h.set10 true).rest;have b:=qI (h.set10 true);have c:=qI ((cA.refl B w).set 10 true);clear h
  go_enter func114,ntmps114
  go_wp2
  go_ret;exact⟨by simp[cN,aD],by simpa[bn,fE] using b.o,c⟩
 ·cases d with
  | true=>
   have b:=qI h;have j:(l == 0)=false:=by simp[a]
   clear h
   go_enter func114,ntmps114
   go_wp2
   go_ret;exact⟨by simp[cN,aD],by simpa[bn,fE] using b.o,cA.refl _ _⟩
  | false=>
   have j:(l == 0)=false:=by simp[a]
   by_cases f:0<l
   ·have q:wrap64 (l - 1)=l - 1:=by unfold wrap64;omega
    have b:=qI (h.set9 (l - 1));have c:=qI ((cA.refl B w).set 9 (l - 1:Int));clear h
    go_enter func114,ntmps114
    go_wp2
    go_ret;exact⟨by simp[cN,aD,a],by simpa[bn,fE,a,f] using b.o,c⟩
   ·have b:=qI h;have Ha:l<=0:=by omega
    have g:Hu (bn l false=l):=by grind[bn]
    clear h
    go_enter func114,ntmps114
    go_wp2
    go_ret;exact⟨by simp[cN,aD,a],by rw[g.o];simpa[fE,a] using b.o,cA.refl _ _⟩
def xe (n:Sd) (d:Bool):Value:=if d=true then .tuple #[.string ⟨#[]⟩,.iface 108 (11:Int)] else if n.ft=true then .tuple #[n.fb,.nilIface] else .tuple #[.string ⟨#[]⟩,.iface 108 (6:Int)]
theorem Le{B:Nat}{n k:Sd}{v:Value}{l:Int}{d:Bool}{w:World}(h:aQ w B n k v l d):CE 115 #[B] w (xe n d):=by
 obtain⟨_,a,c10⟩:=h.rest;obtain⟨c0,c1,_,_⟩:=h.now;obtain⟨ft,fb,dt,db⟩:=n;dsimp only at c0 c1;unfold xe;clear h;cases d with
 | true=>
  go_enter func115,ntmps115
  go_wp2
  go_ret2;exact⟨rfl,rfl⟩
 | false=>
  cases ft with
  | true=>
   go_enter func115,ntmps115
   go_wp2
   go_ret2;exact⟨rfl,rfl⟩
  | false=>
   go_enter func115,ntmps115
   go_wp2
   go_ret2;exact⟨rfl,rfl⟩
theorem Lf{B:Nat}{n k:Sd}{v:Value}{l:Int}(m:Int){d:Bool}{w:World}(h:aQ w B n k v l d):Calls pg 11 #[.pointer (some ⟨B,0,none⟩),.int .i64 m] w λe w'=>e=.returned (.tuple #[])/\aQ w' B n k v m d/\cA B w w':=by
 obtain⟨_,c,c10⟩:=h.rest;have f:=h.frozen 9;have a:=qI (h.set9 m);have b:=qI ((cA.refl B w).set 9 m);clear h
 go_enter func11,ntmps11
 go_wp2
 go_end0
 exact⟨rfl,a,b⟩
structure aX where
 cp:Nat
 dv:List Int
def BQ:aX:=⟨0,[]⟩
instance:Inhabited aX:=⟨BQ⟩
def aG (l:List aX) (k:Nat):aX:=l.getD k BQ
structure ae where
 pod:aj
 gs:List aX
def BR:ae:=⟨nr,[]⟩
instance:Inhabited ae:=⟨BR⟩
def ah (l:List ae) (k:Nat):ae:=l.getD k BR
def aO (n:Int):List UInt8:=Lib.decDigits n.toNat
def eI (l:List UInt8):List UInt8:=if l=[] then [45] else l
def fF (d:ak):List UInt8:=d.kind.data.toList++[58]++aO d.many
def kD (ds:List ak):List UInt8:=eI (Lib.join (ds.map fF) [44])
def lB (dv:List Int):List UInt8:=eI (Lib.join (dv.map aO) [44])
def qx (A:Nat):List UInt8:=eI (ji A)
def eV (c:aF):List (List UInt8):=[[99,111,110,116],c.nm.data.toList,aO c.am,aO c.ab,aO c.cm,aO c.cb,kD c.ds]
def eJ (g:aX):List (List UInt8):=[qx g.cp,lB g.dv]
def gW (p:aj):List (List UInt8):=[[112,111,100],p.nm.data.toList,aO p.pr]
def kE (ws:List (List UInt8)):List UInt8:=Lib.join ws [32]++[10]
def mu (c:aF) (g:aX):List UInt8:=kE (eV c++eJ g)
def kF (p:aj):List UInt8:=kE (gW p)
def fV (h:ae):Nat->List UInt8
 | 0=>[]
 | k+1=>fV h k++mu (af h.pod.cs k) (aG h.gs k)
def jn (h:ae):List UInt8:=kF h.pod++fV h h.pod.cs.length
def iA (hs:List ae):Nat->List UInt8
 | 0=>[]
 | k+1=>iA hs k++jn (ah hs k)
def dL (hs:List ae):List UInt8:=iA hs hs.length
def dZ (b:List UInt8):List UInt8:=[115,117,109,32]++Lib.decDigits (gT b)++[10]
def bw (hs:List ae):List UInt8:=dL hs++dZ (dL hs)
def iX (dv:List Int) (j:Nat):Nat:=if dv.getD j 0<0\/15<dv.getD j 0\/(0<j/\dv.getD j 0<=dv.getD (j - 1) 0) then 3 else 0
def fo (dv:List Int):Nat:=if 16<dv.length then 2 else bA (iX dv) dv.length
def se (gs:List aX):Nat:=bA (λk=>fo (aG gs k).dv) gs.length
def gB (h:ae) (lowB:Bool):Nat:=
 if br h.pod≠0 then br h.pod else if lowB=true\/h.gs.length≠h.pod.cs.length then 3 else se h.gs
def qy (hs:List ae) (i:Nat):Bool:=decide (0<i) && ei (ah hs i).pod.nm (ah hs (i - 1)).pod.nm
def nC (hs:List ae) (i:Nat):Nat:=gB (ah hs i) (qy hs i)
def bS (hs:List ae):Nat:=if 12<hs.length then 2 else bA (nC hs) hs.length
def pd (g:aX):Prop:=g.cp<18446744073709551616/\g.dv.length<=16/\∀x∈g.dv,0<=x/\x<=15
def pf (d:ak):Prop:=bY d.kind=true/\1<=d.many/\d.many<=16
def nD (c:aF):Prop:=bY c.nm=true/\(0<=c.am/\c.am<=1000000)/\(0<=c.ab/\c.ab<=1125899906842624)/\(0<=c.cm/\c.cm<=1000000)/\(0<=c.cb/\c.cb<=1125899906842624)/\c.ds.length<=3/\∀d∈c.ds,pf d
def sg (p:aj):Prop:=bY p.nm=true/\(0<=p.pr/\p.pr<=1000)/\p.cs.length<=3/\∀c∈p.cs,nD c
def mv (h:ae):Prop:=sg h.pod/\h.gs.length=h.pod.cs.length/\∀g∈h.gs,pd g
def nE (hs:List ae):Prop:=hs.length<=12/\∀h∈hs,mv h
theorem BS(h:d∈ds):∃k,k<ds.length/\ar ds k=d:=by
 obtain⟨k,a,rfl⟩:=List.getElem_of_mem h;exact⟨k,a,by simp[ar,a]⟩
theorem BU{ds:List aF}{d:aF}(h:d∈ds):∃k,k<ds.length/\af ds k=d:=by
 obtain⟨k,a,rfl⟩:=List.getElem_of_mem h;exact⟨k,a,by simp[af,a]⟩
theorem ux{ds:List aX}{d:aX}(h:d∈ds):∃k,k<ds.length/\aG ds k=d:=by
 obtain⟨k,a,rfl⟩:=List.getElem_of_mem h;exact⟨k,a,by simp[aG,a]⟩
theorem uy{ds:List ae}{d:ae}(h:d∈ds):∃k,k<ds.length/\ah ds k=d:=by
 obtain⟨k,a,rfl⟩:=List.getElem_of_mem h;exact⟨k,a,by simp[ah,a]⟩
theorem Lg{ds:List Int}{d:Int}(h:d∈ds):∃k,k<ds.length/\ds.getD k 0=d:=by
 obtain⟨k,a,rfl⟩:=List.getElem_of_mem h;exact⟨k,a,by simp[a]⟩
theorem mw{ds:List aF}(h:k<ds.length):af ds k∈ds:=by simp[af,h]
theorem uz{ds:List aX}(h:k<ds.length):aG ds k∈ds:=by simp[aG,h]
theorem nF{ds:List ae}(h:k<ds.length):ah ds k∈ds:=by simp[ah,h]
theorem Lh(h:bA (iT ds) ds.length=0):∀d∈ds,pf d:=by
 intro d ah;obtain⟨k,b,rfl⟩:=BS ah
 have:=fy h k b
 unfold iT at this
 split at this
 ·cases this
 ·rename_i a
  split at this
  ·cases this
  ·rename_i c
   rw[not_or] at a c;exact⟨by simpa using a.1,by omega,by omega⟩
theorem Li(h:ej cs k=0):nD (af cs k):=by
 have c:=Bu h;unfold ej at h
 split at h
 ·cases h
 rename_i d
 split at h
 ·cases h
 split at h
 ·cases h
 split at h
 ·cases h
 split at h
 ·cases h
 rename_i e
 have a:=uo c.1;have b:=uo c.2.1;exact⟨by simpa using d,a.1,a.2,b.1,b.2,by omega,Lh h⟩
theorem jo(h:br p=0):sg p:=by
 obtain⟨d,g,b,e⟩:=qq h;refine⟨d,g,b.2,λc a=>?_⟩;obtain⟨k,f,rfl⟩:=BU a;exact Li (fy e k f)
theorem BV(h:fo dv=0):dv.length<=16/\∀x∈dv,0<=x/\x<=15:=by
 grind[fo,Lg,fy,iX]
theorem Lj{h:ae}{b:Bool}(e:gB h b=0)(c:∀g∈h.gs,g.cp<18446744073709551616):mv h:=by
 unfold gB at e
 split at e
 ·omega
 rename_i i
 split at e
 ·cases e
 rename_i f
 rw[not_or] at f;refine⟨jo (by omega),by omega,λg a=>?_⟩;obtain⟨k,d,rfl⟩:=ux a;exact⟨c _ a,BV (fy e k d)⟩
theorem si{hs:List ae}(e:bS hs=0)(b:∀h∈hs,∀g∈h.gs,g.cp<18446744073709551616):nE hs:=by
 unfold bS at e
 split at e
 ·cases e
 refine⟨by omega,λh a=>?_⟩;obtain⟨k,c,rfl⟩:=uy a;exact Lj (fy e k c) (b _ a)
theorem mx{s:ByteArray}(h:bY s=true):0<s.data.toList.length/\s.data.toList.length<=8:=by
 simp_all[bY]
theorem xf(n:Nat)(h:n<18446744073709551616):(Lib.decDigits n).length<=20:=by grind[Lib.decDigits_length,Lib.nDigits_le20]
theorem my(n:Int)(h:n<=1125899906842624):(aO n).length<=20:=xf _ (by omega)
theorem ph(c:UInt8)(m:Nat):∀(a:List (List UInt8)),(∀x∈a,x.length<=m)->(Lib.join a [c]).length<=a.length*(m+1):=by
 intro a h;have key:∀r:List (List UInt8),(∀x∈r,x.length<=m)->Lib.lens r<=r.length*m:=by
  intro r
  induction r with
  | nil=>intro _;simp[Lib.lens]
  | cons x r ih=>
   intro h;have b:=ih λy d=>h y (by simp[d])
   have e:=h x (by simp);simp only[Lib.lens,Qq,List.sum_cons,Qg,Nat.add_mul,Nat.one_mul] at b ⊢;omega
 cases a with
 | nil=>simp[Lib.join_nil]
 | cons x r=>
  rw[Lib.join_length];have b:=key _ h;simp only[Qg,List.length_nil,Nat.mul_add,Nat.add_mul,Nat.one_mul,Nat.mul_one,Qd] at b ⊢;omega
theorem xh{l:List UInt8}{m:Nat}(h:l.length<=m):(eI l).length<=m+1:=by
 grind[eI]
theorem BW(h:pf d):(fF d).length<=29:=by
 have a:=mx h.1;have b:=my d.many (by have:=h.2.2;omega);simp only[fF,Q2,Qg,List.length_nil];omega
theorem Lk(h:∀d∈ds,pf d)(a:ds.length<=3):(kD ds).length<=91:=by
 refine xh (Q5 (ph 44 29 _ λx b=>?_) ?_)
 ·grind[BW]
 ·grind
theorem Ll(h:∀x∈dv,0<=x/\x<=15)(a:dv.length<=16):(lB dv).length<=337:=by
 refine xh (Q5 (ph 44 20 _ λx b=>?_) ?_)
 ·grind[my]
 ·grind
theorem Lm(A:Nat):(qx A).length<=301:=xh (wC A)
theorem BX{c:aF}(h:nD c):∀x∈eV c,x.length<=100:=by
 obtain⟨d,l,j,m,k,f,e⟩:=h;have a:=mx d;have b1:=my c.am (by omega);have b2:=my c.ab (by omega);have g:=my c.cm (by omega);have n:=my c.cb (by omega);have i:=Lk e f;intro x b;simp only[eV,List.mem_cons,List.not_mem_nil,or_false] at b
 rcases b with rfl|rfl|rfl|rfl|rfl|rfl|rfl <;> first|omega|simp
theorem BY{g:aX}(h:pd g):∀x∈eJ g,x.length<=400:=by
 have a:=Lm g.cp;have b:=Ll h.2.2 h.2.1;intro x c;simp only[eJ,List.mem_cons,List.not_mem_nil,or_false] at c
 rcases c with rfl|rfl <;> omega
theorem BZ(h:sg p):∀x∈gW p,x.length<=100:=by
 have a:=mx h.1;have b:=my p.pr (by have:=h.2.1;omega);intro x c;simp only[gW,List.mem_cons,List.not_mem_nil,or_false] at c
 rcases c with rfl|rfl|rfl <;> first|omega|simp
theorem B0{c:aF}{g:aX}(a:nD c)(d:pd g):(mu c g).length<=4000:=by
 have:=ph 32 400 (eV c++eJ g) λx b=>by
  grind[BX,BY]
 simp only[mu,kE,Q2,Qg,List.length_nil] at this ⊢;simp only[eV,eJ,Qg,List.length_nil] at this;simp only[eV,eJ];omega
theorem xi(h:sg p):(kF p).length<=400:=by
 have:=ph 32 100 (gW p) (BZ h)
 simp only[kF,kE,Q2,Qg,List.length_nil];simp only[gW,Qg,List.length_nil] at this ⊢;omega
theorem uA{h:ae}(e:mv h)(a:k<h.pod.cs.length):nD (af h.pod.cs k)/\pd (aG h.gs k):=
 ⟨e.1.2.2.2 _ (mw a),e.2.2 _ (uz (by rw[e.2.1];exact a))⟩
theorem xj{h:ae}(e:mv h):∀k,k<=h.pod.cs.length->(fV h k).length<=k*4000:=by
 intro k
 induction k with
 | zero=>intro _;simp[fV]
 | succ k ih=>
  intro c;have d:=ih (by omega);obtain⟨b,a⟩:=uA e (k:=k) (by omega)
  have:=B0 b a
  rw[fV,Q2];omega
theorem B4{h:ae}(e:mv h):(jn h).length<=13000:=by
 have b:=xj e _ (lR);have c:=xi e.1;have a:=e.1.2.2.1;rw[jn,Q2];omega
theorem B5{hs:List ae}(e:nE hs):∀k,k<=hs.length->(iA hs k).length<=k*13000:=by
 intro k
 induction k with
 | zero=>intro _;simp[iA]
 | succ k ih=>
  intro a;have b:=ih (by omega);have c:=B4 (e.2 _ (nF (k:=k) (by omega)));rw[iA,Q2];omega
theorem Ln{hs:List ae}(e:nE hs):(dL hs).length<=156000:=by
 have:=B5 e _ (lR)
 have a:=e.1;unfold dL;omega
theorem sj(b:List UInt8):(dZ b).length<=25:=by
 grind[xf,wu,dZ,Qg]
structure Apart (K:Nat->Prop) (W W':World):Prop where
 os:W'.os=W.os
 tape:W'.tape=W.tape
 output:W'.output=W.output
 size:W<=W'.heap.size
 block:∀j,j<W.heap.size->¬ K j->W'.heap[j]?=W.heap[j]?
theorem Apart.refl(K:Nat->Prop)(W:World):Apart K W W:=⟨rfl,rfl,rfl,lR,λ_ _ _=>rfl⟩
theorem Apart.trans{B C:World}(h:Apart K A B)(k:Apart K B C):Apart K A C:=
 ⟨k.os.trans h.os,k.tape.trans h.tape,k.output.trans h.output,Q5 h.size k.size,λj b a=>(k.block j (Q1 b h.size) a).trans (h.block j b a)⟩
theorem Apart.wide{K':Nat->Prop}{B:World}(h:Apart K A B)(a:∀j,K j->K' j):Apart K' A B:=
 ⟨h.os,h.tape,h.output,h.size,λj c b=>h.block j c λe=>b (a j e)⟩
theorem Apart.of_below(h:Bw W W'):Apart K W W':=⟨h.os,h.tape,h.output,h.size,λj a _=>h.block j a⟩
theorem Apart.alloc(K:Nat->Prop)(W:World)(o:Obj):Apart K W (W.alloc o):=.of_below ((Q0 _ W).alloc (lR) o)
theorem Apart.drewN(K:Nat->Prop)(W:World)(n:Nat):Apart K W (W.drewN n):=⟨rfl,rfl,rfl,lR,λ_ _ _=>rfl⟩
theorem Apart.putObj{l:Nat}(b:K l)(W:World)(o:Obj):Apart K W (W.putObj l o):=
 have a:=grownBy_putObj' W l o
 ⟨a.os,a.tape,a.output,a.size,λj d c=>a.block j d λe=>c (by cases e;exact b)⟩
theorem Apart.setCell(a:K b)(W:World)(j:Nat)(v:Value):Apart K W (W.setCell ⟨b,j,none⟩ v):=
 ⟨rfl,rfl,rfl,(KeepsWalks.setCell W _ v).size,λk _ c=>Below.heap_setCell _ _ _ k λe=>c (by rw[e];exact a)⟩
section
variable{F:Fence}{n:Nat}{P:Program}
def xl (F:Fence) (n:Nat) (P:Program) (gf:Nat) (lb:Array Value) (K:Nat->Prop) (ts:List (Array Value)) (w:World):Prop:=
 ∀(l:Nat) (J:Nat->World->Prop) (Jx:World->Prop) (W:World),(∀j,K j->W.heap[j]?=w.heap[j]?)->(∀k A B,J k A->Apart K A B->J k B)->
  (∀k A,(hk:k<ts.length)->J k A->YieldAt F (n - 1) P l ts[k] A λe B=>(e=.returned true/\J (k+1) B/\∀j,K j->B.heap[j]?=A.heap[j]?)\/(e=.returned false/\Jx B))->
  J 0 W->CallsIn F n P gf (#[.func (.yield l) #[] #[]]++lb) W λe B=>(∃v,e=.returned v)/\(J ts.length B\/Jx B)
def B6 (K:Nat->Prop) (L:Nat) (R:World->Prop) (X:Code->World->Prop) (W:World):Exit->Act->World->Prop
 | .normal,_,W'=>(∀j,(K j\/j=L\/j=L+1)->W'.heap[j]?=W.heap[j]?)/\R W'
 | .ret,_,W'=>(∀j,(K j\/j=L\/j=L+1)->W'.heap[j]?=W.heap[j]?)/\X .ret W'
 | .exit id,_,W'=>(∀j,(K j\/j=L\/j=L+1)->W'.heap[j]?=W.heap[j]?)/\X (.exit id) W'
 | _,_,_=>False
theorem xo{g:Operand}{T:Array Tmp}{assign body:Code}{Q:Exit->Act->World->Prop}{a:Act}{w:World}(V:F.round=none)(h1:1<=n){gf:Nat}{lb:Array Value}
  (hg:a.eval g=.func (.func gf) #[] lb) (HB:F.fn gf) (eg:∀args w,(callFunc gf args).run P w=.ok (.enter gf args) w)
  {K:Nat->Prop} {ts:List (Array Value)} (hK:∀j,K j->j<w.heap.size) (M:xl F (n - 1) P gf lb K ts w) (HA:∀x∈ts,x.size=T.size)
  (I:Nat->World->Prop) (N:Code->World->Prop) (O:∀k A B,I k A->Apart (λj=>K j\/j=w.heap.size+1) A B->I k B) (C:∀c A B,N c A->Apart (λj=>K j\/j=w.heap.size+1) A B->N c B) (h0:I 0 w) (Z:Nat->Act)
  (i:∀(l k:Nat) (Y:k<ts.length) (W:World) (R:Act->World->Prop),R (Z k) W->assign.wpIn (F.inRound l) (n - 1 - 1) P (Exit.then R λ_ _ _=>False) { tmps:=(T.zip ts[k]).foldl (λt (p,v)=>t.setIfInBounds p v) a.tmps,defers:=[] } W)
  (D:∀(l k:Nat) (W:World),k<ts.length->w+1<W.heap.size->I k W->body.wpIn (F.inRound l) (n - 1 - 1) P (B6 K w.heap.size (I (k+1)) N W) (Z k) W)
  (z:∀(W:World),I ts.length W->W.heap[w.heap.size]?=some (.deferred (some []))->Q .normal { a with defers:={ target:=.collected w.heap.size,args:=#[] } :: a.defers } W)
  (E:∀(c:Code) (W:World),N c W->W.heap[w.heap.size]?=some (.deferred (some []))->c.wpIn F n P Q { a with defers:={ target:=.collected w.heap.size,args:=#[] } :: a.defers } W) :
  (Code.rangeFunc g T assign body).wpIn F n P Q a w:=by
 refine wpIn_rangeFunc λfn X=>?_
 rw[V];generalize hrc:(λ(y:LoopState) (u:Option Code)=>({ state:=y,pending:=u,fn:=fn,tmps:=a.tmps,params:=T,assign:=assign,body:=body,defers:=w.heap.size }:Loop))=rc;have Hc:∀y u,(rc y u).state=y:=λ_ _=>by rw[<- hrc]
 have Hk:∀y u f H,({ rc y u with state:=f,pending:=H }:Loop)=rc f H:=λ_ _ _ _=>by rw[<- hrc]
 have Ha:∀y u f,({ rc y u with state:=f }:Loop)=rc f u:=λ_ _ _=>by rw[<- hrc]
 let L:=w.heap.size+1
 let U:=(w.alloc (.deferred (some []))).alloc (.loop (rc .ready none))
 have Hq:U.heap[L]?=some (.loop (rc .ready none)):=by
  have:=World.alloc_heap_new (w.alloc (.deferred (some []))) (.loop (rc .ready none))
  rwa [World.size_alloc] at this
 have Hg:U.heap[w.heap.size]?=some (.deferred (some [])):=(Below.heap_alloc _ _ _ (by simp)).trans (World.alloc_heap_new w _);have Hl:Apart (λj=>K j\/j=L) w U:=(Apart.alloc _ _ _).trans (Apart.alloc _ _ _);have Hr:∀j,K j->U.heap[j]?=w.heap[j]?:=λj r=>by
  grind[Below.heap_alloc]
 have Hb:∀j,K j->j≠L/\j≠w.heap.size:=λj r=>by
  grind
 let J:Nat->World->Prop:=λk W=>I k W/\W.heap[L]?=some (.loop (rc .ready none))/\W.heap[w.heap.size]?=some (.deferred (some []))
 let Jx:World->Prop:=λW=>∃c,N c W/\W.heap[L]?=some (.loop (rc .done (some c)))/\W.heap[w.heap.size]?=some (.deferred (some []))
 have keep:∀ {A B:World} {o:Obj} {j:Nat},Apart K A B->¬ K j->A.heap[j]?=some o->B.heap[j]?=some o:=λh r ho=>(h.block _ (gS ho).1 r).trans ho
 have Hp:¬ K L:=λe=>(Hb L e).1 rfl
 have Hm:¬ K w.heap.size:=λe=>(Hb _ e).2 rfl
 refine⟨L,[{ target:=.collected w.heap.size,args:=#[] }],U,{ target:=.fn (.func gf) lb,args:=#[.func (.yield L) #[] #[]] },U,gf,#[.func (.yield L) #[] #[]]++lb,U,?_,?_,?_,?_,λ_=>h1,?_⟩
 ·show _=Result.ok _ ((w.alloc (.deferred (some []))).alloc (.loop (rc .ready none)))
  rw[<- hrc];exact run_enterLoop_outer _ _ _ _ _
 ·simp only[resolve,hg];simp[go_sem]
 ·grind[Target.leads]
 ·grind[invoke]
 ·refine (M L J Jx U Hr (λk A B ⟨hi,s,hd⟩ hab=>⟨O k A B hi (hab.wide λ_=>.inl),keep hab Hp s,keep hab Hm hd⟩) ?_ ⟨O 0 w U h0 Hl,Hq,Hg⟩).mono ?_
  ·rintro k A Y ⟨hi,s,hd⟩;have Hf:=(gS s).1;have hy:=run_yield (P:=P) (args:=ts[k]) s (by grind);rw[<- hrc] at hy;refine⟨fn,_,assign,body,hy,roundIn_of_wpIn X (i L k Y A _ ⟨_,run_beginRound s (Hc _ _),?_⟩)⟩;rw[Ha]
   let A2:=A.putObj L (.loop (rc .busy none))
   have Ho:A2.heap[L]?=some (.loop (rc .busy none)):=World.putObj_heap_same Hf;have Hn:A2.heap[w.heap.size]?=some (.deferred (some [])):=(World.putObj_heap_other (by omega)).trans hd;have Hh:∀j,K j->A2.heap[j]?=A.heap[j]?:=λj r=>World.putObj_heap_other (Hb j r).1
   have Hi:=O k A A2 hi (Apart.putObj (.inr rfl) _ _);refine wpIn_mono (D L k A2 Y (Q1 Hf (grownBy_putObj' A L _).size) Hi) ?_;have G:∀(b:Option Code) (B:World),(∀j,(K j\/j=w.heap.size\/j=w.heap.size+1)->B.heap[j]?=A2.heap[j]?)->
     (Instr.endRound L b).run P B=.ok b.isNone (B.putObj L (.loop (rc (if b.isNone then .ready else .done) b)))/\
     (B.putObj L (.loop (rc (if b.isNone then .ready else .done) b))).heap[L]?=some (.loop (rc (if b.isNone then .ready else .done) b))/\
     (B.putObj L (.loop (rc (if b.isNone then .ready else .done) b))).heap[w.heap.size]?=some (.deferred (some []))/\
     ∀j,K j->(B.putObj L (.loop (rc (if b.isNone then .ready else .done) b))).heap[j]?=A.heap[j]?:=λb B q=>by
    have He:=(q L (.inr (.inr rfl))).trans Ho;have d:=run_endRound (P:=P) b He;rw[Hk] at d;exact⟨d,World.putObj_heap_same (gS He).1,(World.putObj_heap_other (by omega)).trans ((q _ (.inr (.inl rfl))).trans Hn),
     λj r=>(World.putObj_heap_other (Hb j r).1).trans ((q j (.inl r)).trans (Hh j r))⟩
   rintro e a3 B m;cases e with
   | normal=>
    obtain⟨q,Hj⟩:=m;obtain⟨d,f1,f2,f3⟩:=G none B q;exact⟨_,_,d,.inl ⟨rfl,⟨O _ _ _ Hj (Apart.putObj (.inr rfl) _ _),f1,f2⟩,f3⟩⟩
   | ret=>
    obtain⟨q,S⟩:=m;obtain⟨d,f1,f2,_⟩:=G (some .ret) B q;exact⟨_,_,d,.inr ⟨rfl,.ret,C _ _ _ S (Apart.putObj (.inr rfl) _ _),f1,f2⟩⟩
   | exit id=>
    obtain⟨q,S⟩:=m;obtain⟨d,f1,f2,_⟩:=G (some (.exit id)) B q;exact⟨_,_,d,.inr ⟨rfl,.exit id,C _ _ _ S (Apart.putObj (.inr rfl) _ _),f1,f2⟩⟩
   | goto t=>exact m.elim
   | panic ch=>exact m.elim
   | outgrown=>exact m.elim
  ·rintro e B ⟨⟨v,rfl⟩,(⟨hi,s,hd⟩|⟨c,S,s,hd⟩)⟩
   ·have d:=run_endLoop (P:=P) s (by rw[Hc];simp);rw[Ha] at d;refine⟨_,_,d,?_⟩;have m:(rc .ready none).pending=none:=by rw[<- hrc]
    rw[m];exact z _ (O _ _ _ hi (Apart.putObj (.inr rfl) _ _)) ((World.putObj_heap_other (by omega)).trans hd)
   ·have d:=run_endLoop (P:=P) s (by rw[Hc];simp);rw[Ha] at d;refine⟨_,_,d,?_⟩;have m:(rc .done (some c)).pending=some c:=by rw[<- hrc]
    rw[m];exact E c _ (C _ _ _ S (Apart.putObj (.inr rfl) _ _)) ((World.putObj_heap_other (by omega)).trans hd)
end
abbrev aZ:=List UInt8
def iY {α:Type} (f:aZ->Option α):List aZ->Option (List α)
 | []=>some []
 | x :: r=>match f x with
  | none=>none
  | some y=>(iY f r).map (y :: ·)
def cG {α:Type} (f:aZ->Option α) (l:aZ):Option (List α):=if l=[45] then some [] else iY f (aP 44 l)
def qz (l:aZ):Option Nat:=if l=[45] then some 0 else if (ef l).2=0 then some (ef l).1 else none
def au (ws:List aZ) (k:Nat):aZ:=ws.getD k []
def qA (num:aZ->Option Int) (need:aZ->Option ak) (ws:List aZ):Option (aF × aX):=
 match num (au ws 2),num (au ws 3),num (au ws 4),num (au ws 5),cG need (au ws 6),qz (au ws 7),cG num (au ws 8) with
 | some a,some b,some c,some d,some ds,some A,some dv=>some (⟨⟨(au ws 1).toArray⟩,a,b,c,d,ds⟩,⟨A,dv⟩)
 | _,_,_,_,_,_,_=>none
def jR (ws:List aZ):Bool:=decide (au ws 0=[112,111,100]) && decide (ws.length=3)
def pi (ws:List aZ):Bool:=decide (au ws 0=[99,111,110,116]) && decide (ws.length=9)
def uB (h:ae) (c:aF) (g:aX):ae:=⟨⟨h.pod.nm,h.pod.pr,h.pod.cs++[c]⟩,h.gs++[g]⟩
def lC (hs:List ae) (c:aF) (g:aX):List ae:=hs.dropLast++[uB (ah hs (hs.length - 1)) c g]
def Lo (ws:List aZ) (n:Int):ae:=⟨⟨⟨(au ws 1).toArray⟩,n,[]⟩,[]⟩
def fW (num:aZ->Option Int) (need:aZ->Option ak) (hs:List ae) (ws:List aZ):Option (List ae):=
 if jR ws=true then (num (au ws 2)).map λn=>hs++[Lo ws n]
 else if pi ws=true/\0<hs.length then (qA num need ws).map λx=>lC hs x.1 x.2
 else none
def fp (num:aZ->Option Int) (need:aZ->Option ak) (hs:List ae):List (List aZ)->Option (List ae)
 | []=>some hs
 | ws :: r=>match fW num need hs ws with
  | none=>none
  | some hs'=>fp num need hs' r
def so (t:aZ):List aZ:=if (aP 10 t).getLast?=some [] then (aP 10 t).dropLast else aP 10 t
def cB (l:aZ):Option Int:=if dA 16 l=true then some (bX l) else none
def cP (l:aZ):Option ak:=(cB (be 58 l).2.1).map λn=>⟨⟨(be 58 l).1.toArray⟩,n⟩
def iB (t:aZ):Option (List ae):=fp cB cP [] ((so t).map (aP 32))
structure sr (num:aZ->Option Int) (need:aZ->Option ak):Prop where
 num:∀n:Int,0<=n->n<=1125899906842624->num (aO n)=some n
 need:∀d:ak,pf d->need (fF d)=some d
theorem iC(n:Int){c:UInt8}(a:gw c=false):c ∉ aO n:=qi _ c a
theorem pj{s:ByteArray}(h:bY s=true){c:UInt8}(d:qm c=false)(g:qo c=false):c ∉ s.data.toList:=by
 intro f;simp only[bY,Bool.and_eq_true] at h;obtain⟨k,a,e⟩:=List.getElem_of_mem f;have key:∀n,fA (jj s) n=true->∀k,k<n->jj s k=true:=by
  intro n
  induction n with
  | zero=>intro _ k a;omega
  | succ n ih=>
   intro h k a;simp only[fA,Bool.and_eq_true] at h
   by_cases b:k=n
   ·subst b;exact h.2
   ·grind
 have:=key _ h.2 k (by simpa using a)
 rw[jj,List.getD_eq_getElem?_getD,Qf a,Option.getD_some,e,d,g] at this;cases this
theorem Lp:sr cB cP:=by
 have b:∀n:Int,0<=n->n<=1125899906842624->cB (aO n)=some n:=by
  intro n g j;obtain⟨k,rfl⟩:=Int.eq_ofNat_of_zero_le g;have i:=AG k;have a:=(rJ k).2;have h:=wA 15 k (by omega);unfold iu at i a h;have c:dA 16 (Lib.decDigits k)=true:=by
   grind[dA,lq]
  simp only[cB,aO,Int.toNat_natCast,c,if_true,a]
 refine⟨b,λd ah=>?_⟩;have e:fF d=d.kind.data.toList++58 :: aO d.many:=by simp[fF]
 have f:=AK 58 d.kind.data.toList (aO d.many) (pj ah.1 (by decide) (by decide));rw[cP,e,f,b d.many (by have:=ah.2;omega) (by have:=ah.2;omega)];rfl
theorem Lq{α:Type}{f:aZ->Option α}{g:α->aZ}{a:List α}(h:∀x∈a,f (g x)=some x):iY f (a.map g)=some a:=by induction a <;> grind[iY]
theorem Lr{a:List aZ}{b:UInt8}(h:b∈Lib.join a [c]):b=c\/∃x∈a,b∈x:=by
 induction a with
 | nil=>simp[Lib.join_nil] at h
 | cons x r ih=>
  cases r with
  | nil=>rw[Lib.join_one] at h;exact .inr ⟨x,by simp,h⟩
  | cons y t=>
   have e:Lib.join (x :: y :: t) [c]=x++c :: Lib.join (y :: t) [c]:=by simp[Lib.join]
   rw[e,Qi,List.mem_cons] at h
   rcases h with h|h|h
   ·grind
   ·exact .inl h
   ·grind
theorem Ls{a:List aZ}(h:∀x∈a,x≠[])(e:Lib.join a [c]=[]):a=[]:=by
 cases a with
 | nil=>rfl
 | cons x r=>
  rw[Lib.join_cons] at e;exact absurd (List.append_eq_nil_iff.1 e).1 (h x (by simp))
theorem B7{α:Type}{f:aZ->Option α}{g:α->aZ}{a:List α}(h:∀x∈a,f (g x)=some x)(i:∀x∈a,(44:UInt8) ∉ g x)(c:∀x∈a,g x≠[]/\g x≠[45]):cG f (eI (Lib.join (a.map g) [44]))=some a:=by
 by_cases b:a=[]
 ·subst b;rfl
 ·have Hb:Lib.join (a.map g) [44]≠[]:=λe=>b (by
   have:=Ls (λx j=>by grind) e
   simpa using this)
  have Ha:aP 44 (Lib.join (a.map g) [44])=a.map g:=wD 44 _ (λx j=>by grind) (by simpa using b);have Hc:Lib.join (a.map g) [44]≠[45]:=λe=>by
   rw[e] at Ha;have d:aP 44 [45]=[[45]]:=by decide
   rw[d] at Ha;cases a with
   | nil=>exact b rfl
   | cons x r=>
    rw[Qq] at Ha;injection Ha with h1 h2
    exact (c x (by simp)).2 h1.symm
  rw[eI,if_neg Hb,cG,if_neg Hc,Ha,Lq h]
theorem Lt(n:Int):aO n≠[]/\aO n≠[45]:=⟨wy _,λe=>by
 have:=iC n (c:=45) (by decide)
 rw[e] at this;simp at this⟩
theorem Lu(d:ak):fF d≠[]/\fF d≠[45]:=by
 have h:(58:UInt8)∈fF d:=by simp[fF]
 exact⟨λe=>by rw[e] at h;simp at h,λe=>by rw[e] at h;simp at h⟩
theorem Lv{A:Nat}(h:A<18446744073709551616):qz (qx A)=some A:=by
 have a:=Jo A h;unfold qx eI
 split
 ·rename_i e
  rw[e] at a
  have:A=0:=by
   have b:ef []=(0,0):=by decide
   rw[b] at a;injection a with h3 _
   exact h3.symm
  subst this;rfl
 ·unfold qz
  split
  ·rename_i e
   rw[e] at a;have b:(ef [45]).2=4:=by decide
   rw[a] at b;cases b
  ·rw[a];rfl
theorem Lw{num:aZ->Option Int}{need:aZ->Option ak}(e:sr num need){c:aF}{g:aX}(k:nD c)(o:pd g):qA num need (eV c++eJ g)=some (c,g):=by
 obtain⟨s,r,f,p,h,u,i⟩:=k;obtain⟨g1,t,g3⟩:=o;have j:=e.num c.am r.1 (by omega);have a2:=e.num c.ab f.1 f.2;have a3:=e.num c.cm p.1 (by omega);have a4:=e.num c.cb h.1 h.2;have a5:cG need (kD c.ds)=some c.ds:=B7 (λd ah=>e.need d (i d ah)) (λd ah=>by
  have l:=pj (i d ah).1 (c:=44) (by decide) (by decide);have q:=iC d.many (c:=44) (by decide);simp only[fF,Qi,not_or];exact⟨⟨l,by simp⟩,q⟩) λd _=>Lu d
 have n:=Lv g1;have m:cG num (lB g.dv)=some g.dv:=B7 (λd ah=>e.num d (g3 d ah).1 (by grind)) (λd _=>iC d (c:=44) (by decide)) (λd _=>Lt d)
 show (match num (aO c.am),num (aO c.ab),num (aO c.cm),num (aO c.cb),cG need (kD c.ds),qz (qx g.cp),cG num (lB g.dv) with
  | some a,some b,some c',some d,some ds,some A,some dv=>some (({ nm:=⟨c.nm.data.toList.toArray⟩,am:=a,ab:=b,cm:=c',cb:=d,ds:=ds }:aF),({ cp:=A,dv:=dv }:aX))
  | _,_,_,_,_,_,_=>none)=_
 rw[j,a2,a3,a4,a5,n,m]
def lD (h:ae):Nat->List (List aZ)
 | 0=>[]
 | k+1=>lD h k++[eV (af h.pod.cs k)++eJ (aG h.gs k)]
def qB (h:ae):List (List aZ):=gW h.pod :: lD h h.pod.cs.length
def mz (hs:List ae):Nat->List (List aZ)
 | 0=>[]
 | k+1=>mz hs k++qB (ah hs k)
theorem uC(num:aZ->Option Int)(need:aZ->Option ak)(a b:List (List aZ)):∀hs,fp num need hs (a++b)=(fp num need hs a).bind λx=>fp num need x b:=by induction a <;> grind[fp,fW]
theorem Lx(h:k<cs.length):cs.take (k+1)=cs.take k++[af cs k]:=by
 grind[Qa,af]
theorem Ly{cs:List aX}(h:k<cs.length):cs.take (k+1)=cs.take k++[aG cs k]:=by
 grind[Qa,aG]
theorem Lz{cs:List ae}(h:k<cs.length):cs.take (k+1)=cs.take k++[ah cs k]:=by
 grind[Qa,ah]
theorem B8(hs:List ae)(x:ae)(c:aF)(g:aX):lC (hs++[x]) c g=hs++[uB x c g]:=by
 simp[lC,ah]
theorem LA{num:aZ->Option Int}{need:aZ->Option ak}(c:sr num need){h:ae}(e:mv h)(hs:List ae):∀k,k<=h.pod.cs.length->fp num need (hs++[⟨⟨h.pod.nm,h.pod.pr,[]⟩,[]⟩]) (lD h k)=some (hs++[⟨⟨h.pod.nm,h.pod.pr,h.pod.cs.take k⟩,h.gs.take k⟩]):=by
 intro k
 induction k with
 | zero=>intro _;rfl
 | succ k ih=>
  intro d;obtain⟨b,a⟩:=uA e (k:=k) (by omega);rw[lD,uC,ih (by omega),Option.bind_some,fp,fW,if_neg (by simp[jR,eV]:¬ jR (eV (af h.pod.cs k)++eJ (aG h.gs k))=true),if_pos ⟨by rfl,by simp⟩,Lw c b a]
  show some (lC (hs++[_]) _ _)=_
  rw[B8,Lx (by omega),Ly (by rw[e.2.1];omega)];rfl
theorem LB{num:aZ->Option Int}{need:aZ->Option ak}(a:sr num need){h:ae}(e:mv h)(hs:List ae):fp num need hs (qB h)=some (hs++[h]):=by
 have b:=a.num h.pod.pr e.1.2.1.1 (by have:=e.1.2.1.2;omega);have c:fW num need hs (gW h.pod)=some (hs++[⟨⟨h.pod.nm,h.pod.pr,[]⟩,[]⟩]):=by
  rw[fW,if_pos (by rfl)]
  show (num (aO h.pod.pr)).map _=_
  rw[b];rfl
 rw[qB,fp,c]
 show fp num need _ (lD h _)=_
 rw[LA a e hs _ (lR),Qh,<- e.2.1,Qh]
theorem LC{num:aZ->Option Int}{need:aZ->Option ak}(a:sr num need){hs:List ae}(e:nE hs):∀k,k<=hs.length->fp num need [] (mz hs k)=some (hs.take k):=by
 intro k
 induction k with
 | zero=>intro _;rfl
 | succ k ih=>
  intro b;rw[mz,uC,ih (by omega),Option.bind_some,LB a (e.2 _ (nF (by omega))),Lz (by omega)]
def qC (ws:List aZ):Prop:=ws≠[]/\∀x∈ws,(32:UInt8) ∉ x/\(10:UInt8) ∉ x
theorem xq{l:aZ}(a:c≠45)(h:c ∉ l):c ∉ eI l:=by
 grind[eI]
theorem uD{b:UInt8}{a:List aZ}(d:b≠c)(h:∀x∈a,b ∉ x):b ∉ Lib.join a [c]:=by grind[Lr]
theorem LD(p:Nat × Nat)(c:UInt8)(b:gw c=false)(a:c≠45):c ∉ dG p:=by
 grind[qi,dG]
theorem LE{A:Nat}{c:UInt8}(d:gw c=false)(b:c≠45)(a:c≠44):c ∉ ji A:=by
 grind[ji,kw,uD,LD]
theorem LF(h:sg p):qC (gW p):=by
 refine⟨by simp[gW],λx a=>?_⟩;simp only[gW,List.mem_cons,List.not_mem_nil,or_false] at a
 rcases a with rfl|rfl|rfl
 ·decide
 ·exact⟨pj h.1 (by decide) (by decide),pj h.1 (by decide) (by decide)⟩
 ·exact⟨iC _ (by decide),iC _ (by decide)⟩
theorem LG{c:aF}{g:aX}(h:nD c):qC (eV c++eJ g):=by
 obtain⟨f,t,m,o,q,n,k⟩:=h;have s:∀b:UInt8,b=32\/b=10->b ∉ kD c.ds:=λb e=>by
  refine xq (by grind) (uD (by grind) λx a=>?_);obtain⟨d,ah,rfl⟩:=Qk.1 a;have l:b ∉ d.kind.data.toList:=by rcases e with rfl|rfl <;> exact pj (k d ah).1 (by decide) (by decide)
  have i:b ∉ aO d.many:=by rcases e with rfl|rfl <;> exact iC _ (by decide)
  have j:b≠58:=by grind
  simp[fF,l,i,j]
 have p:∀b:UInt8,b=32\/b=10->b ∉ qx g.cp:=λb e=>by
  refine xq (by grind) (LE ?_ ?_ ?_) <;> rcases e with rfl|rfl <;> decide
 have r:∀b:UInt8,b=32\/b=10->b ∉ lB g.dv:=λb e=>by
  refine xq (by grind) (uD (by grind) λx a=>?_);obtain⟨d,ah,rfl⟩:=Qk.1 a
  rcases e with rfl|rfl <;> exact iC _ (by decide)
 refine⟨by simp[eV],λx a=>?_⟩;simp only[eV,eJ,List.cons_append,List.nil_append,List.mem_cons,List.not_mem_nil,or_false] at a
 rcases a with rfl|rfl|rfl|rfl|rfl|rfl|rfl|rfl|rfl
 ·decide
 ·exact⟨pj f (by decide) (by decide),pj f (by decide) (by decide)⟩
 ·exact⟨iC _ (by decide),iC _ (by decide)⟩
 ·exact⟨iC _ (by decide),iC _ (by decide)⟩
 ·exact⟨iC _ (by decide),iC _ (by decide)⟩
 ·exact⟨iC _ (by decide),iC _ (by decide)⟩
 ·grind
 ·grind
 ·grind
def jp (ls:List (List aZ)):aZ:=(ls.map kE).flatten
theorem B9(a b:List (List aZ)):jp (a++b)=jp a++jp b:=by simp[jp]
theorem LI(h:ae)(k:Nat):jp (lD h k)=fV h k:=by induction k <;> grind[lD,B9,fV,jp,mu]
theorem LJ(h:ae):jp (qB h)=jn h:=by
 grind[qB,jn,LI,jp,kF]
theorem LK(hs:List ae)(k:Nat):jp (mz hs k)=iA hs k:=by
 induction k with
 | zero=>rfl
 | succ k ih=>rw[mz,B9,ih,LJ,iA]
theorem LM{h:ae}(e:mv h):∀k,k<=h.pod.cs.length->∀ws∈lD h k,qC ws:=by
 intro k
 induction k with
 | zero=>intro _ ws a;simp[lD] at a
 | succ k ih=>
  intro b ws a;rw[lD,Qi,Qm] at a
  rcases a with a|rfl
  ·grind
  ·grind[LG,uA]
theorem LN{hs:List ae}(e:nE hs):∀k,k<=hs.length->∀ws∈mz hs k,qC ws:=by
 intro k
 induction k with
 | zero=>intro _ ws a;simp[mz] at a
 | succ k ih=>
  intro c ws a;rw[mz,Qi] at a
  rcases a with a|a
  ·grind
  ·have b:=e.2 _ (nF (ds:=hs) (k:=k) (by omega));rw[qB,List.mem_cons] at a
   rcases a with rfl|a
   ·exact LF b.1
   ·exact LM b _ (lR) ws a
theorem LO{a:List (List aZ)}(h:∀ws∈a,qC ws):aP 10 (jp a)=a.map (λws=>Lib.join ws [32])++[[]]:=by
 induction a with
 | nil=>rfl
 | cons ws r ih=>
  have e:jp (ws :: r)=Lib.join ws [32]++10 :: jp r:=by simp[jp,kE]
  rw[e,rK 10 _ _ (uD (by decide) λx c=>((h ws (by simp)).2 x c).2),ih λy b=>h y (by simp[b])];rfl
theorem LP{a:List (List aZ)}(h:∀ws∈a,qC ws):(a.map λws=>Lib.join ws [32]).map (aP 32)=a:=by
 rw[List.map_map]
 conv=>rhs;rw[<- List.map_id a]
 refine List.map_congr_left λws b=>?_
 exact wD 32 ws (λx c=>((h ws b).2 x c).1) (h ws b).1
theorem LQ{hs:List ae}(e:nE hs):iB (dL hs)=some hs:=by
 have b:=LN e _ (lR);have a:=LO b;rw[LK] at a
 change aP 10 (dL hs)=_ at a
 have c:so (dL hs)=(mz hs hs.length).map λws=>Lib.join ws [32]:=by
  grind[so]
 rw[iB,c,LP b,LC Lp e _ (lR),Qh]
theorem Cb(c:UInt8)(l:List UInt8):(Lib.indexByte l c=-1/\c ∉ l)\/∃i:Nat,Lib.indexByte l c=i/\i<l.length/\l=l.take i++c :: l.drop (i+1)/\c ∉ l.take i:=by
 induction l with
 | nil=>exact .inl ⟨rfl,by simp⟩
 | cons b r ih=>
  by_cases h:b=c
  ·subst h;exact .inr ⟨0,by simp[Lib.indexByte],by simp,by simp,by simp⟩
  ·have d:(b == c)=false:=by simpa using h
   rcases ih with⟨a,f⟩|⟨i,a,f,g,j⟩
   ·exact .inl ⟨by grind[Lib.indexByte],by grind⟩
   ·refine .inr ⟨i+1,?_,by grind,?_,?_⟩
    ·have e:((i:Int) == -1)=false:=by simp
     simp[Lib.indexByte,d,a,e]
    ·grind
    ·grind
theorem Cc(r:List UInt8)(i:Nat):(ByteArray.mk r.toArray).extract 0 i=⟨(r.take i).toArray⟩:=by apply ByteArray.ext;simp
theorem Cd(r:List UInt8)(i:Nat):(ByteArray.mk r.toArray).extract i r.length=⟨(r.drop i).toArray⟩:=by
 apply ByteArray.ext
 simp
 exact List.take_of_length_le (by simp)
def KSp (h j:Nat):Prop:=j=h\/j=h+1\/j=h+2
structure lE (W:World) (h:Nat) (c:UInt8) (s:List UInt8):Prop where
 s:Boxed W h 9 (.string ⟨s.toArray⟩)
 p:Boxed W (h+1) 9 (.string ⟨#[c]⟩)
 z:Boxed W (h+2) 3 (0:Int)
theorem lE.kept(b:lE W h c s)(a:∀j,KSp h j->W'.heap[j]?=W.heap[j]?):lE W' h c s:=
 ⟨(a h (.inl rfl)).trans b.s,(a (h+1) (.inr (.inl rfl))).trans b.p,(a (h+2) (.inr (.inr rfl))).trans b.z⟩
theorem lE.set(b:lE W h c s)(t:List UInt8):lE (W.setCell h (.string ⟨t.toArray⟩)) h c t:=
 ⟨b.s.set _,(Below.heap_setCell W h _ (h+1) (by simp)).trans b.p,(Below.heap_setCell W h _ (h+2) (by simp)).trans b.z⟩
theorem Ce(s:ByteArray)(c:UInt8)(w:World):Calls pg 286 #[.string s,.string ⟨#[c]⟩] w λe w'=>
  e=.returned (.func (.func 322) #[] #[.pointer (some ⟨w.heap.size+1,0,none⟩),.pointer (some ⟨w,0,none⟩),.pointer (some ⟨w.heap.size+2,0,none⟩)])/\lE w' w c s.data.toList/\Bw w w'/\w'=w.heap.size+3:=by
 have hi:Calls pg 304 #[.string s,.string ⟨#[c]⟩,.int .i64 0] w λe w'=>
  e=.returned (.func (.func 322) #[] #[.pointer (some ⟨w.heap.size+1,0,none⟩),.pointer (some ⟨w,0,none⟩),.pointer (some ⟨w.heap.size+2,0,none⟩)])/\w'=((w.alloc (.cells #[s] 9)).alloc (.cells #[.string ⟨#[c]⟩] 9)).alloc (.cells #[(0:Int)] 3):=by
  go_enter func304,ntmps304
  go_wp2
  go_ret;exact⟨rfl,rfl⟩
 go_enter func286,ntmps286
 go_wp2
 refine hi.mono ?_;rintro e b ⟨rfl,rfl⟩
 go_wp2
 go_ret;have b1:=((Boxed.new w 9 s).alloc (.cells #[.string ⟨#[c]⟩] 9)).alloc (.cells #[(0:Int)] 3);have b2:=(Boxed.new (w.alloc (.cells #[s] 9)) 9 (.string ⟨#[c]⟩)).alloc (.cells #[(0:Int)] 3);have a:=Boxed.new ((w.alloc (.cells #[s] 9)).alloc (.cells #[.string ⟨#[c]⟩] 9)) 3 (0:Int);simp only[World.size_alloc] at b2 a;exact⟨rfl,⟨b1,b2,a⟩,(((Q0 _ _).alloc (lR) _).alloc (by simp) _).alloc (by simp;omega) _,by simp⟩
def xr (W:World) (h:Nat):Nat:=match W.cell? h with
 | some (.string b)=>b.size
 | _=>0
theorem Cf(b:lE W h c s):xr W h=s.length:=by
 unfold xr;rw[b.s.cell];rfl
def eA (c:UInt8) (s:List UInt8):List (Array Value):=(aP c s).map λ(x:List UInt8)=>#[Value.string ⟨x.toArray⟩]
theorem LR(h:aP c r=(aP c s).drop k)(d:r=r.take i++c :: r.drop (i+1))(b:c ∉ r.take i):(∃a:k<(eA c s).length,(eA c s)[k]=#[Value.string ⟨(r.take i).toArray⟩])/\k+1<(eA c s).length/\aP c (r.drop (i+1))=(aP c s).drop (k+1):=by
 grind[rK,List.drop_eq_nil_of_le,List.drop_eq_getElem_cons,qh,eA]
theorem LS(h:aP c r=(aP c s).drop k)(b:c ∉ r):(∃a:k<(eA c s).length,(eA c s)[k]=#[Value.string ⟨r.toArray⟩])/\k+1=(eA c s).length:=by
 grind[ue,List.drop_eq_getElem_cons,List.drop_eq_nil_iff,eA]
theorem Cg(n:Nat)(G:1<=n){h:Nat}{c:UInt8}{s:List UInt8}{w:World}(t:lE w h c s)(F:s.length<=1000000) :
  xl Fence.wide n prog 322 #[(h+1:Nat),h,(h+2:Nat)] (KSp h) (eA c s) w:=by
 intro l J D W x q u y;have Hi:=t.kept x;have Hz:=Hi.p.cell;refine callsIn_of_wp func322 rfl trivial ?_ rfl;simp only[ntmps322,List.size_toArray,Qg,List.length_nil,Nat.reduceAdd,Nat.reduceSub,Array.replicate_succ,Array.replicate_zero,List.push_toArray,List.append_toArray,List.nil_append,List.cons_append];have j:=qI u;have z:=qI q;have B:=qI Hi;have A:=qI y;clear u q t x y Hi
 gi_wp2
 gi_loopw [] (λwr=>∃k r,lE wr h c r/\aP c r=(aP c s).drop k/\r.length<=s.length/\J k wr) λwr=>xr wr h
 exact⟨0,s,B,rfl,lR,A⟩
 ·obtain⟨k,r,Ha,Hf,hle,Hh⟩:=hrel;have Hv:=Ha.s.cell;have Ho:=Ha.p.cell;have Hr:=Ha.z.cell;have hf:=Ha.s.frozen;have a:=qI (Tryz.strings_Index_one ⟨r.toArray⟩ c wr);have g:(ByteArray.mk r.toArray).data.toList=r:=by simp
  rw[g] at a;have Hn:=qI Ha;have Hp:=qI (Cf Ha)
  rcases Cb c r with⟨hi,Hl⟩|⟨i,hi,Hx,p,v⟩
  ·obtain⟨⟨m,Hg⟩,Hs⟩:=LS Hf Hl;obtain⟨fn,tmps,assign,body,d,f⟩:=j.o k wr m Hh;rw[Hg] at d;rw[hi] at a;clear Ha Hf Hl j z g
   gi_wp2
   refine⟨trivial,(callsIn_wide.2 a).mono ?_⟩;rintro e C ⟨rfl,rfl⟩
   gi_wp2
   refine f.mono ?_;rintro e o (⟨rfl,Hk,Hj⟩|⟨rfl,Hb⟩)
   ·gi_wp2
    go_end0
    exact⟨⟨_,rfl⟩,.inl (by grind)⟩
   ·gi_wp2
    go_end0
    exact⟨⟨_,rfl⟩,.inr Hb⟩
  ·obtain⟨⟨m,Hg⟩,Ht,Hc⟩:=LR Hf p v;obtain⟨fn,tmps,assign,body,d,f⟩:=j.o k wr m Hh;rw[Hg] at d;rw[hi] at a;have Hy:=Cc r i;have Hw:=Cd r (i+1);have Hq:=qI Hc;clear Ha Hf p v g Hc Hg hi Ht
   gi_wp2
   refine⟨trivial,(callsIn_wide.2 a).mono ?_⟩;rintro e C ⟨rfl,rfl⟩
   gi_wp2
   refine f.mono ?_;rintro e o (⟨rfl,Hk,Hj⟩|⟨rfl,Hb⟩)
   ·have He:=Hn.o.kept Hj;have E:=He.s.cell;have t2:=He.p.cell;have t4:=He.s.frozen;have Hm:=qI (He.set (r.drop (i+1)));have Hu:=qI (z.o (k+1) o _ Hk (Apart.setCell (b:=h) (.inl rfl) o 0 (.string ⟨(r.drop (i+1)).toArray⟩)));clear He Hj Hk Hn f d Hv Ho Hr hf Hh
    gi_wp2
    go_roundw
    exact⟨k+1,r.drop (i+1),Hm,Hq,by grind,Hu⟩
    rw[Cf Hm.o,Hp.o,List.length_drop];omega
   ·gi_wp2
    refine Qx (results_none rfl _ _ _) rfl ?_;exact⟨⟨_,rfl⟩,.inr Hb⟩
def nG (R:Act->World->Prop):Exit->Act->World->Prop
 | .normal,a,w=>R a w
 | _,_,_=>False
theorem nG.mk{R:Act->World->Prop}(h:R a w):nG R .normal a w:=h
theorem Ch(R:Act->World->Prop):¬ LetsOut (nG R):=by
 rintro⟨a,w,h⟩;exact h
section
variable{P:Program}{ops:Array Oper}{Q:Exit->Act->World->Prop}{l n:Nat}
theorem LT(p:∀(i:Nat) (o:Oper) c,ops[i]?=some o->o.op≠Op.defer c)(q:¬ LetsOut Q):∀(g:List Nat) (a:Act) (w:World),wpOps P ops Q g a w->wpOpsIn (Fence.wide.inRound l) n P ops Q g a w:=by
 intro g
 induction g with
 | nil=>intro a w h;exact h
 | cons i r ih=>
  intro a w h;unfold wpOps at h;unfold wpOpsIn;cases ho:ops[i]? with
  | none=>rw[ho] at h;exact ih a w h
  | some o=>
   rw[ho] at h;dsimp only at h ⊢
   split at h
   ·rename_i k
    rw[if_pos k]
    rcases h with h|h
    ·refine⟨λ_ _=>trivial,?_⟩;rw[Oper.semAt_eq _ _ _ λc=>p i o c ho];unfold Oper.wp at h;generalize (execOp a.eval o).run P w=m at h ⊢;cases m with
     | ok nx w'=>
      cases nx with
      | value v=>exact ih _ _ h
      | skip=>exact ih _ _ h
      | defer d=>exact ih _ _ h
      | enter f args=>
       refine⟨(λe=>by cases e),CallsIn.inRound l (callsIn_wide.2 (Calls.mono h ?_))⟩;rintro e b j;cases e with
       | returned v=>exact ih _ _ j
       | panicked ch=>exact j
       | outgrown=>exact j
      | row rn args=>
       exact⟨(λe=>by cases e),λc cs _=>by
        obtain⟨v,b,s,hs⟩:=h c cs;exact⟨v,b,ih _ _ s,stepsIn_wide.2 hs⟩⟩
      | _=>exact h.elim
     | halt ht w'=>
      cases ht with
      | panic v=>exact h
      | _=>exact h.elim
    ·exact absurd h.2 q
   ·rename_i k
    rw[if_neg k];exact⟨λ_ _=>trivial,ih _ _ h⟩
theorem Ci{S:World->Prop}{id:Nat}{a:Act}{w:World}(e:P.follows .mixedOrders=true)(b:∀(i:Nat) (o:Oper) c,ops[i]?=some o->o.op≠Op.defer c)(d:¬ LetsOut Q)
  (h:wpAnyH P .any ops Q S ops.size (Array.replicate ops.size false) a w.drew):(Code.region id ops true).wpIn (Fence.wide.inRound l) n P Q a w:=
 wpIn_region_draw λt=>by
  simp only[Region.schedule,e,Bool.true_or,if_true];exact LT b d _ _ _ (wpAny_sound ops.size t _ a _ (wpAny_of_held _ _ _ _ h))
theorem Cj{F:Fence}{c:Code}{R:Act->World->Prop}{a:Act}{w:World}(h:Code.wpIn F n P c (nG R) a w)(b:∀a w,R a w->Q .normal a w):Code.wpIn F n P c Q a w:=
 wpIn_mono h λe a w h=>by
  cases e with
  | normal=>exact b _ _ h
  | _=>exact h.elim
end
def dM (s:List UInt8):List (List UInt8):=(aP 10 s).dropLast.map (·++[10])++(if (aP 10 s).getLast?=some [] then [] else [(aP 10 s).getLastD []])
theorem Ck:dM []=[]:=rfl
theorem LU{a:List UInt8}(h:(10:UInt8) ∉ a):dM (a++10 :: r)=(a++[10]) :: dM r:=by
 have b:=qh 10 r;unfold dM;rw[rK 10 a r h];cases hs:aP 10 r with
 | nil=>exact absurd hs b
 | cons x t=>simp
theorem LV(h:r=r.take i++10 :: r.drop (i+1))(hi:i<r.length):r.take (i+1)=r.take i++[10]:=by
 grind
theorem LW(h:(10:UInt8) ∉ r)(a:r≠[]):dM r=[r]:=by
 simp_all[dM,ue]
def iD (s:List UInt8):List (Array Value):=(dM s).map λ(x:List UInt8)=>#[Value.string ⟨x.toArray⟩]
theorem Cl{α:Type}{l:List α}{x:α}{t:List α}(h:x :: t=l.drop k):∃a:k<l.length,l[k]=x/\t=l.drop (k+1):=by
 grind[List.drop_eq_nil_of_le,List.drop_eq_getElem_cons]
theorem Cm{x:List UInt8}(a:k<(dM s).length)(h:(dM s)[k]=x):∃a:k<(iD s).length,(iD s)[k]=#[Value.string ⟨x.toArray⟩]:=⟨by simpa[iD] using a,by grind[iD]⟩
theorem xt(s:List UInt8):(iD s).length=(dM s).length:=by simp[iD]
theorem LX{s:ByteArray}(w:World):Calls pg 189 #[.string s] w λe w'=>
  e=.returned (.func (.func 243) #[] #[.pointer (some ⟨w,0,none⟩)])/\w'=w.alloc (.cells #[s] 9):=by
 go_enter func189,ntmps189
 go_wp2
 go_ret;exact⟨rfl,rfl⟩
theorem Apart.drew(K:Nat->Prop)(W:World):Apart K W W.drew:=⟨rfl,rfl,rfl,lR,λ_ _ _=>rfl⟩
def xv (W:World) (h:Nat):Nat:=match W.cell? h with
 | some (.string b)=>b.size
 | _=>0
theorem xw(b:Boxed W h 9 (.string ⟨s.toArray⟩)):xv W h=s.length:=by
 unfold xv;rw[b.cell];rfl
theorem LY(n:Nat)(O:1<=n){h:Nat}(s:List UInt8){w:World}(x:Boxed w h 9 (.string ⟨s.toArray⟩))(N:s.length<=1000000) :
  xl Fence.wide n prog 243 #[h] (λj=>j=h) (iD s) w:=by
 intro l J H W z u y A;have Hr:Boxed W h 9 (.string ⟨s.toArray⟩):=(z h rfl).trans x;refine callsIn_of_wp func243 rfl trivial ?_ rfl;simp only[ntmps243,List.size_toArray,Qg,List.length_nil,Nat.reduceAdd,Nat.reduceSub,Array.replicate_succ,Array.replicate_zero,List.push_toArray,List.append_toArray,List.nil_append,List.cons_append];have f:=qI y;have g:=qI u;have F:=qI Hr;have E:=qI A;clear y u x z A Hr
 gi_wp2
 gi_loopw [] (λwr=>∃k r,k<=(dM s).length/\Boxed wr h 9 (.string ⟨r.toArray⟩)/\dM r=(dM s).drop k/\r.length<=s.length/\J k wr) λwr=>xv wr h
 exact⟨0,s,Nat.zero_le _,F,rfl,lR,E⟩
 ·obtain⟨k,r,Hu,Hc,Ha,hle,Hg⟩:=hrel;have Hs:=Hc.cell;have hf:=Hc.frozen;have Hm:=qI Hc;have Hq:=qI (xw Hc);have I:(ByteArray.mk r.toArray).size=r.length:=rfl
  by_cases a:r=[]
  ·subst a;have Hv:k=(iD s).length:=by
    grind[Ck,List.drop_eq_nil_iff,xt]
   clear Hc Ha f g Hu
   gi_wp2
   go_end0
   exact⟨⟨_,rfl⟩,.inl (by rw[<- Hv];exact Hg)⟩
  ·have Hh:0<r.length:=List.length_pos_iff.2 a;have b:=qI (Tryz.strings_IndexByte ⟨r.toArray⟩ 10 wr);have v:(ByteArray.mk r.toArray).data.toList=r:=by simp
   rw[v,show ((10:Int).toNat.toUInt8)=10 from rfl] at b;clear Hc v
   rcases Cb 10 r with⟨hi,Hp⟩|⟨i,hi,Ho,t,D⟩
   ·rw[LW Hp a] at Ha;obtain⟨o,d,m⟩:=Cl Ha;obtain⟨Hi,He⟩:=Cm o d;have Ht:=qI (g.o k wr _ Hg (Apart.setCell (K:=λj=>j=h) rfl wr 0 (.string ⟨#[]⟩)));have Hl:=f.o k (wr.setCell h (.string ⟨#[]⟩)) Hi Ht;obtain⟨fn,tmps,assign,body,c,q⟩:=Hl;rw[He] at c;rw[hi] at b;have Hj:=qI (Hm.o.set (.string ⟨([]:List UInt8).toArray⟩));clear He Hp d Ha
    gi_wp2
    refine⟨trivial,(callsIn_wide.2 b).mono ?_⟩;rintro e C ⟨rfl,rfl⟩
    gi_wp2
    refine q.mono ?_;rintro e p (⟨rfl,Hn,Hk⟩|⟨rfl,Hb⟩)
    ·have Hf:Boxed p h 9 (.string ⟨([]:List UInt8).toArray⟩):=(Hk h rfl).trans Hj;have B:=qI m
     gi_wp2
     go_roundw
     exact⟨k+1,[],by omega,Hf,by grind[Ck],Nat.zero_le _,Hn⟩
     rw[xw Hf,Hq.o];exact Hh
    ·gi_wp2
     refine Qx (results_none rfl _ _ _) rfl ?_;exact⟨⟨_,rfl⟩,.inr Hb⟩
   ·have M:=qI (LV t Ho);have Hz:i+1<=r.length:=Ho;have hcut:dM r=r.take (i+1) :: dM (r.drop (i+1)):=by
     grind[LU]
    rw[hcut] at Ha;obtain⟨o,d,m⟩:=Cl Ha;obtain⟨Hi,He⟩:=Cm o d;have G:=qI (show Apart (λj=>j=h) wr (wr.setCell h (.string ⟨(r.drop (i+1)).toArray⟩)).drew from (Apart.setCell (K:=λj=>j=h) rfl wr 0 _).trans (Apart.drew _ _));have Hj:=qI (show Boxed (wr.setCell h (.string ⟨(r.drop (i+1)).toArray⟩)).drew h 9 (.string ⟨(r.drop (i+1)).toArray⟩) from Hm.o.set _);have Hl:=f.o k _ Hi (g.o k wr _ Hg G);obtain⟨fn,tmps,assign,body,c,q⟩:=Hl;rw[He] at c;have Hw:=qI c;have B:=qI m;rw[hi] at b;clear c He d Ha hcut m f g;have Hy:=Cc r (i+1);have Hx:=Cd r (i+1);clear t D hi
    gi_wp2
    refine⟨trivial,(callsIn_wide.2 b).mono ?_⟩;rintro e C ⟨rfl,rfl⟩
    gi_wp2
    gi_region
    generalize hW2:(C.setCell h (.string ⟨(r.drop (i+1)).toArray⟩)).drew=L at *;have c:=Hw.o;clear Hs hf b Hm Hg hW2
    gi_wp2
    refine q.mono ?_;rintro e p (⟨rfl,Hn,Hk⟩|⟨rfl,Hb⟩)
    ·have Hf:Boxed p h 9 (.string ⟨(r.drop (i+1)).toArray⟩):=(Hk h rfl).trans Hj
     gi_wp2
     go_roundw
     exact⟨k+1,r.drop (i+1),by omega,Hf,B,by grind,Hn⟩
     rw[xw Hf,Hq.o,List.length_drop];omega
    ·gi_wp2
     refine Qx (results_none rfl _ _ _) rfl ?_;exact⟨⟨_,rfl⟩,.inr Hb⟩
theorem su(l:Int)(d:Bool):(cN l d=11/\fE l d=true)\/(cN l d=0/\fE l d=false):=by grind[cN,fE]
theorem gX:aD ((11:Nat):Int)=.iface 108 (11:Int):=rfl
theorem xx:aD ((0:Nat):Int)=.nilIface:=rfl
theorem LZ{B:Nat}{n k:Sd}{v:Value}{l:Int}{d:Bool}{w:World}(h:aQ w B n k v l d)(i:-9223372036854775808<=l/\l<=9223372036854775807):Calls pg 70 #[.pointer (some ⟨B,0,none⟩)] w λe w'=>e=.returned (aD ((cN l d:Nat):Int))/\aQ w' B n (if cN l d=0 then n else k) (if cN l d=0 then .slice none 0 0 else v) (bn l d) (fE l d)/\cA B w w':=by
 have HS:=qI (sd h i);clear h
 rcases su l d with⟨b,c⟩|⟨b,c⟩
 ·rw[b,c,if_neg (by decide),if_neg (by decide),gX];rw[b,c,gX] at HS
  go_enter func70,ntmps70
  go_wp2
  refine HS.o.m λj ⟨a,Ha⟩=>?_;have g:=qI a;have f:=qI Ha;clear a Ha HS
  go_wp2
  go_ret;exact⟨rfl,g,f⟩
 ·rw[b,c,if_pos rfl,if_pos rfl,xx];rw[b,c,xx] at HS
  go_enter func70,ntmps70
  go_wp2
  refine HS.o.m λj ⟨a,Ha⟩=>?_;have m:=qI ((a.setKept n).set8 ());have f:=qI (((Ha.putS 4 n)).set 8 ());obtain⟨C,A,n2,y⟩:=a.now;obtain⟨p,q,t,x⟩:=a.kept;obtain⟨u,_,_⟩:=a.rest;have s:=a.frozen 4;have o:=a.frozen 5;have r:=a.frozen 6;have D:=a.frozen 7;have z:=a.frozen 8;clear a Ha HS
  go_wp2
  go_ret;exact⟨rfl,m,f⟩
section
open Go.ChangeShapes Go.WideShapes Go.ChangeAt Go.RowKit
def bK (w:World) (v:Value) (xs:List Int):Prop:=
 ∃ao c,v=.slice ao xs.length c/\(xs.length<=c/\c<=maxLen)/\(0<xs.length->∃b o,ao=some ⟨b,o,none⟩/\b<w.heap.size/\∀k,k<xs.length->w.cell? ⟨b,o+k,none⟩=some (.int .i64 (xs.getD k 0)))
def qD (w:World) (b o:Nat) (gs:List aX) (dv:Nat->Value):Prop:=
 b<w/\∀k,k<gs.length->(w.cell? ⟨b,o+k*2,none⟩=some (.int .u64 (aG gs k).cp)/\w.cell? ⟨b,o+k*2+1,none⟩=some (dv k)/\(aG gs k).cp<18446744073709551616)/\bK w (dv k) (aG gs k).dv
def ce (w:World) (v:Value) (gs:List aX):Prop:=
 ∃ao c,v=.slice ao gs.length c/\(gs.length<=c/\c<=maxLen)/\(0<gs.length->∃b o dv,ao=some ⟨b,o,none⟩/\qD w b o gs dv)
def xy (h:ae) (cv gvv:Value):Value:=.agg #[h.pod.nm,(h.pod.pr:Int),cv,gvv]
def nH (w:World) (b o:Nat) (hs:List ae) (cv gvv:Nat->Value):Prop:=
 b<w/\∀k,k<hs.length->(w.cell? ⟨b,o+k*4,none⟩=some (.string (ah hs k).pod.nm)/\w.cell? ⟨b,o+k*4+1,none⟩=some (.int .i64 (ah hs k).pod.pr)/\w.cell? ⟨b,o+k*4+2,none⟩=some (cv k)/\w.cell? ⟨b,o+k*4+3,none⟩=some (gvv k))/\ba w (cv k) (ah hs k).pod.cs/\ce w (gvv k) (ah hs k).gs
def bf (w:World) (v:Value) (hs:List ae):Prop:=
 ∃ao c,v=.slice ao hs.length c/\(hs.length<=c/\c<=maxLen)/\(0<hs.length->∃b o cv gvv,ao=some ⟨b,o,none⟩/\nH w b o hs cv gvv)
theorem bK.below{e:List Int}(h:bK w v e)(d:Bw w w'):bK w' v e:=by
 obtain⟨i,c,f,n,m⟩:=h;refine⟨i,c,f,n,λj=>?_⟩;obtain⟨b,o,l,a,g⟩:=m j;exact⟨b,o,l,Q1 a d.size,λk q=>(d.cell (p:=⟨b,o+k,none⟩) a).trans (g k q)⟩
theorem qD.below{gs:List aX}{dv:Nat->Value}(h:qD w b o gs dv)(a:Bw w w'):qD w' b o gs dv:=
 ⟨Q1 h.1 a.size,λk f=>by
  obtain⟨⟨d,g,c⟩,e⟩:=h.2 k f;exact⟨⟨(a.cell (p:=⟨b,o+k*2,none⟩) h.1).trans d,(a.cell (p:=⟨b,o+k*2+1,none⟩) h.1).trans g,c⟩,e.below a⟩⟩
theorem ce.below{gs:List aX}(h:ce w v gs)(d:Bw w w'):ce w' v gs:=by
 obtain⟨f,c,a,k,j⟩:=h;refine⟨f,c,a,k,λg=>?_⟩;obtain⟨b,o,dv,i,e⟩:=j g;exact⟨b,o,dv,i,e.below d⟩
theorem nH.below{hs:List ae}{cv c:Nat->Value}(h:nH w b o hs cv c)(a:Bw w w'):nH w' b o hs cv c:=
 ⟨Q1 h.1 a.size,λk i=>by
  obtain⟨⟨e,j,d,g⟩,f,l⟩:=h.2 k i;exact⟨⟨(a.cell (p:=⟨b,o+k*4,none⟩) h.1).trans e,(a.cell (p:=⟨b,o+k*4+1,none⟩) h.1).trans j,(a.cell (p:=⟨b,o+k*4+2,none⟩) h.1).trans d,(a.cell (p:=⟨b,o+k*4+3,none⟩) h.1).trans g⟩,f.below a,l.below a⟩⟩
theorem bf.below{hs:List ae}(h:bf w v hs)(e:Bw w w'):bf w' v hs:=by
 obtain⟨g,c,d,l,k⟩:=h;refine⟨g,c,d,l,λi=>?_⟩;obtain⟨b,o,cv,a,j,f⟩:=k i;exact⟨b,o,cv,a,j,f.below e⟩
theorem bf.cps{hs:List ae}(h:bf w v hs):∀x∈hs,∀g∈x.gs,g.cp<18446744073709551616:=by
 intro x i g m;obtain⟨k,l,rfl⟩:=uy i;obtain⟨e,c,_,_,d⟩:=h;obtain⟨b,o,cv,f,_,a⟩:=d (by omega);obtain⟨_,_,n⟩:=a.2 k l;obtain⟨j,p,rfl⟩:=ux m;obtain⟨e,c,_,_,d⟩:=n;obtain⟨b,o,dv,_,a⟩:=d (by omega);exact (a.2 j p).1.2.2
section
variable{H:Type}{enc:TypeId × Value->H}{W:World}
end
end
def jS (w:World) (g:Nat) (wr:Bool) (bs:ByteArray):Prop:=g<w.heap.size/\w.cell? g=some (.bool wr)/\w.cell? ⟨g,1,none⟩=some (.string bs)
theorem jS.block{g:Nat}(h:jS w g wr bs)(c:w'.heap[g]?=w.heap[g]?):jS w' g wr bs:=by
 obtain⟨f,d,e⟩:=h;have b:g<w':=by
  grind
 exact⟨b,(World.cell?_of_block (a:=g) c).trans d,(World.cell?_of_block (a:=⟨g,1,none⟩) c).trans e⟩
theorem dC{a b c:World}(p:a.grownBy b (some B))(q:b.grownBy c (some B)):a.grownBy c (some B):=
 ⟨q.os.trans p.os,q.tape.trans p.tape,q.output.trans p.output,Q5 p.size q.size,λj e d=>(q.block j (Q1 e p.size) d).trans (p.block j e d)⟩
theorem jT{a b c:World}(p:a.grownBy b (some B))(q:Bw b c):a.grownBy c (some B):=
 ⟨q.os.trans p.os,q.tape.trans p.tape,q.output.trans p.output,Q5 p.size q.size,λj e d=>(q.block j (Q1 e p.size)).trans (p.block j e d)⟩
theorem L0:(prog.info? 111).map (λi=>(i.zero,i.size,i.bytes))=some (some (.agg #[false,ByteArray.empty]),2,24):=by kernel_rfl
theorem L1{o:Option TypeInfo}{z:Option Value}{s:Nat}(h:o.map (λi=>(i.zero,i.size,i.bytes))=some (z,s,b)):∃i,o=some i/\i.zero=z/\i.size=s/\i.bytes=b:=by
 simp_all
theorem L4(w:World)(wr:Bool)(bs:ByteArray){t:TypeId}:∀j u,[Value.bool wr,Value.string bs][j]?=some u->(w.alloc (.cells #[wr,bs] t)).drew.cell? ((w.heap.size:Addr).add j)=some u:=by
 simp[Addr.add_lit]
theorem L5{base:Nat}{v:Value}(h:w.ownsRow base 111 2 v (0+1) ([]++[.bool wr,.string bs])):∃g a,v=.slice (some ⟨g,0,none⟩) 1 a/\(base<=g/\1<=a)/\jS w g wr bs:=by
 rcases h.2 with⟨_,f⟩|⟨g,a,b,e,d,i,Hc,Ha,Hb,c⟩
 ·cases f
 ·have c0:b[0]?=some (.bool wr):=by
   have:=congrArg (λl=>l[0]?) c
   simpa using this
  have c1:b[1]?=some (.string bs):=by
   have:=congrArg (λl=>l[1]?) c
   simpa using this
  exact⟨g,a,e,⟨d,by omega⟩,(gS i).1,by grind[World.cell?],by grind[World.cell?]⟩
theorem nI(h:Below w.drew w.drew w'):Bw w w':=⟨h.os,h.tape,h.output,h.size,h.block⟩
theorem L6{p q:Nat}{s:Sd}{z0 z1 z2 z3:Value}{c:TypeId}{pos:String}{after:Array Edge}{guard:Option (Nat × Bool)}{K:Act->World->Prop}{Q:Exit->Act->World->Prop}
  (c0:W.cell? B=some z0) (c1:W.cell? ⟨B,1,none⟩=some z1) (c2:W.cell? ⟨B,2,none⟩=some z2) (c3:W.cell? ⟨B,3,none⟩=some z3) (f0:W.frozen? B=false) (f1:W.frozen? ⟨B,1,none⟩=false) (f2:W.frozen? ⟨B,2,none⟩=false) (f3:W.frozen? ⟨B,3,none⟩=false)
  (f:a.tmps[p]?.getD undef=.pointer (some ⟨B,0,none⟩)) (e:a.tmps[q]?.getD undef=s.agg) (b:K a (putS W B 0 s)) :
  Oper.wp prog { dst:=none,op:=Op.store 93 (Operand.tmp p) (Operand.tmp q),type:=c,pos:=pos,after:=after,guard:=guard } a W K Q:=by
 unfold putS at b;unfold Sd.agg at e;have d:=qI b;clear b;go_simp;exact d.o
def uE (w w':World) (B:Nat) (n k:Sd) (l:Int) (wr:Bool) (bs:ByteArray):Prop:=∃g cap,aQ w' B n k (.slice (some ⟨g,0,none⟩) 1 cap) l false/\(w.heap.size<=g/\1<=cap)/\jS w' g wr bs
theorem Cn{B:Nat}{n k:Sd}{l:Int}{d:Bool}(wr:Bool)(bs:ByteArray){w:World}(h:aQ w B n k () l d)(hl:-9223372036854775808<=l/\l<=9223372036854775807)(h0:cN l d=0) :
  Calls pg 143 #[.pointer (some ⟨B,0,none⟩),.agg #[wr,bs]] w λe w'=>e=.returned .nilIface/\uE w w' B (Chg.on ⟨wr,bs⟩ n) k (bn l d) wr bs/\w.grownBy w' (some B):=by
 have HP:=h.lt;have Hr:=(Q0 w w).alloc (lR) (.cells #[wr,bs] 111);have HB:jS (w.alloc (.cells #[wr,bs] 111)) w wr bs:=⟨by simp,by simp,by simp⟩;have HE:=h.block (w':=w.alloc (.cells #[wr,bs] 111)) (Hr.block B HP);have Hv:=qI (sd HE hl);have hF:fE l d=false:=by
  rcases su l d with⟨e1,_⟩|⟨_,e2⟩
  ·rw[h0] at e1;cases e1
  ·exact e2
 rw[h0,hF,xx] at Hv;have Hg:=qI (wH ⟨wr,bs⟩ n);obtain⟨n',Hw⟩:∃n',n'=Chg.on ⟨wr,bs⟩ n:=⟨_,rfl⟩;rw[<- Hw] at Hg ⊢;unfold Chg.agg at Hg;rw[show n.agg=.agg #[n.ft,n.fb,n.dt,n.db] from rfl] at Hg;dsimp only at Hg;have Hq:w≠B:=by omega
 have Hf:=qI Hr;have HI:=qI HB;clear h HE Hw hF h0 Hr HB
 go_enter func143,ntmps143
 go_wp2
 refine Hv.o.m λw1 ⟨h1,Hp⟩=>?_;have He:=HI.o.block (Hp.1.block w (by simp) λe=>Hq (Ql e));have HA:=qI He;have Ht:=He.1;have HQ:=h1.lt;have HJ:=qI (dC ⟨Hf.o.os,Hf.o.tape,Hf.o.output,Hf.o.size,λj hj _=>Hf.o.block j hj⟩ Hp.1);obtain⟨a0,a1,a2,a3⟩:=h1.now;obtain⟨_,x0,x1⟩:=He;have H1:=qI h1;clear h1 Hp Hv Hf HI
 as_aux_lemma=>
 go_wp2
 refine wp_region_held_drew (S:=λ_=>True) (by kernel_rfl) trivial λhQ=>?_;refine tk 0 ?_;refine tk 2 ?_;refine tk 3 ?_;refine tk 4 ?_;refine rd2 1 5 (λK hK=>?_) λK hK=>?_
 rotate_left
 have HW:=trivial
 rotate_left
 all_goals
  go_simp;refine hK.k trivial λhQ=>?_;(try simp only[Act.put,s1,s2,s3])
  first|(have:=HW;refine rd 1 λK hK=>?_)|refine rd 5 λK hK=>?_
  go_simp;refine hK.k trivial λhQ=>?_;(try simp only[Act.put,s1,s2,s3]);refine rd 6 λK hK=>?_;go_simp
  go_wp2
  refine (Hg.o _).m λw5 Hi=>?_;have Hc:=H1.o.block (w':=w5) (Hi.block B HQ);have Hz:=qI (show jS w5 w wr bs from HA.o.block (Hi.block w Ht));have Ho:=qI Hi.size;have HC:=qI (jT HJ (nI Hi))
  go_wp2
  refine hK.k trivial λhQ=>?_;refine tk 7 ?_;refine tk 8 ?_;obtain⟨s0,s1,s2,s3⟩:=Hc.now;have Hs:=qI (Hc.setNow n');have Hh:=qI (show jS (putS w5 B 0 n') w wr bs from Hz.o.block ((cA.refl B w5).putS 0 n' |>.1.block w (by have:=Ho.o;have:=Ht;simp at *;omega) λe=>Hq (Ql e)));have HR:=qI (show w.grownBy (putS w5 B 0 n') (some B) from dC HC ((cA.refl B w5).putS 0 n').1);have HL:=qI (show w.heap.size+1<=(putS w5 B 0 n').heap.size from by rw[((cA.refl B w5).putS 0 n').2];have:=Ho.o;have:=Ht;simp at *;omega);refine rd 9 λK hK=>?_;rw[if_pos (by rfl)];refine L6 s0 s1 s2 s3 (Hc.frozen 0) (Hc.frozen 1) (Hc.frozen 2) (Hc.frozen 3) rfl rfl ?_;refine hK.k trivial λhQ=>?_;clear hK K Hc Hz HC s0 s1 s2 s3 H1 HA HJ Hi Ho Hg;generalize putS w5 B 0 n'=w6 at *;refine Qn (by kernel_rfl) ?_ _
  as_aux_lemma=>
  obtain⟨i0,hi,HN,HT,HU⟩:=L1 L0;obtain⟨x8,_,_⟩:=Hs.o.rest;have HH:=qI Hs.o.lt;have Hm:=(Q0 w6 w6).alloc (lR) (.cells #[wr,bs] 111);have x8':=(Hm.cell (p:=⟨B,8,none⟩) HH).trans x8;have Hx:=qI (Hh.o.block (Hm.block w Hh.o.1));have HF:=qI (show ∀j,j<w6.heap.size->(w6.alloc (.cells #[wr,bs] 111)).drew.heap[j]?=w6.heap[j]? from λj hj=>Hm.block j hj);have HG:=qI (show ∀j u,[Value.bool wr,Value.string bs][j]?=some u->(w6.alloc (.cells #[wr,bs] 111)).drew.cell? ((w6.heap.size:Addr).add j)=some u from L4 w6 wr bs);have Hy:=qI (show w.heap.size<=(w6.alloc (.cells #[wr,bs] 111)).drew.heap.size from by have:=HL.o;simp[World.drew];omega);clear Hm a0 a1 a2 a3 x0 x1
  go_wp2
  refine wp_region_held_drew (S:=λw'=>cl w' w (0) wr/\cl w' w (1) bs) (by kernel_rfl) Hh.o.2 λhQ=>?_;refine tk 0 ?_;refine tk 1 ?_;refine tk 2 ?_;refine tk 3 ?_;refine tk 5 ?_;refine rd2 4 6 (λK hK=>?_) λK hK=>?_
  rotate_left
  have HK:=trivial
  rotate_left
  all_goals
   go_simp;refine hK.k (by first|exact Hh.o.2|exact Hx.o.2) λhQ=>?_;(try simp only[Act.put,s1,s2,s3])
   first|(have:=HK;refine rd 4 λK hK=>?_)|refine rd 6 λK hK=>?_
   go_simp;refine hK.k Hx.o.2 λhQ=>?_;(try simp only[Act.put,s1,s2,s3]);refine rd 7 λK hK=>?_;rw[if_pos (by rfl)]
   refine wp_append_own (o := { dst := some 27, op := Op.call { callee := Callee.builtin Builtin.append, args := #[Operand.tmp 24, Operand.tmp 26], argTypes := #[94, 94] }, type := 94, pos := "disk.go:122", after := #[{ on := 4, ground := Ground.data }, { on := 6, ground := Ground.data }], guard := none }) _ _ _ 94 rfl w.heap.size 111 i0 (.agg #[.bool false, .string ByteArray.empty]) 2 24 underlying94 hi HN HT HU rfl (by decide) (.slice none 0 0) 0 [] rfl (Qw _ _ _ _) ⟨w6.heap.size, 0, none⟩ 1 1 [.bool wr, .string bs] rfl rfl HG (by intro u hu; simp at hu; rcases hu with rfl | rfl <;> rfl) (by unfold maxLen; omega) (by omega) Hy ?_
   intro v8 w8 Hb Ha _;obtain⟨g8,cap8,rfl,HO,Hu⟩:=L5 Hb;have Hl:∀j,j<w6.heap.size->w8.heap[j]?=w6.heap[j]?:=λj hj=>(Ha.block j (by simp[World.drew];omega) (by simp[Value.ownBlock])).trans (HF.o j hj)
   have Hj:=Hs.o.block (w':=w8) (Hl B HH);have Hn:=Hh.o.block (w':=w8) (Hl w Hh.o.1);have HD:=qI (show w.grownBy w8 (some B) from dC HR ⟨Ha.os,Ha.tape,Ha.output,Q5 (by simp[World.drew]) Ha.size,λj hj _=>Hl j hj⟩);clear Hl Hb Ha HG Hy HF;refine hK.k Hn.2 λhQ=>?_;refine tk 8 ?_;refine tk 9 ?_;obtain⟨q8,_,_⟩:=Hj.rest;have r8:=Hj.frozen 8;have HS:=qI (Hj.set8 (.slice g8 1 cap8));have Hk:=qI ((cA.refl B w8).set 8 (.slice g8 1 cap8));have HM:=qI (Hu.block (Hk.o.1.block g8 Hu.1 (λe=>by have:=Ql e;omega)));have HX:=qI (Hn.block (Hk.o.1.block w Hn.1 λe=>Hq (Ql e)));have HV:=qI (dC HD Hk.o.1);clear Hj Hn Hu HD Hk;refine rd 10 λK hK=>?_;go_simp;refine hK.k HX.o.2 λhQ=>?_;(try simp only[Act.put,s1,s2,s3]);refine Qn (by kernel_rfl) ?_ _
   go_wp2
   go_ret;exact⟨rfl,⟨g8,cap8,HS,HO,HM⟩,HV⟩
def uF (P:Prop) (w:World) (e:Ending) (w':World):Prop:=∃b:Bool,e=.returned b/\(P->b=true)/\Below w w w'
theorem pk{w:World}{n:Nat}:Bw w (w.drewN n):=⟨rfl,rfl,rfl,lR,λ_ _=>rfl⟩
def xz (w:World) (ao:Option Addr) (xs:List Int):Prop:=0<xs.length->∃b o,ao=some ⟨b,o,none⟩/\b<w.heap.size/\∀k,k<xs.length->w.cell? ⟨b,o+k,none⟩=some (.int .i64 (xs.getD k 0))
theorem Co{j a2:Option Addr}(c1 c2:Nat){a d:List Int}{w:World}(m1:a.length<=maxLen)(_m2:d.length<=maxLen)(l:xz w j a)(p:xz w a2 d) :
  Calls pg 48 #[.slice j a.length c1,.slice a2 d.length c2] w λe w'=>∃b:Bool,e=.returned b/\(a=d->b=true)/\∃n,w'=w.drewN n:=by
 unfold maxLen at m1;have r:=qI l;have t:=qI p;clear l p
 by_cases f:a.length=d.length
 ·rw[<- f];have o:=qI f
  go_enter func48,ntmps48
  clear f
  go_wp2
  go_loopw [5] (λi wr=>∃k m:Nat,k<=a.length/\i=.int .i64 k/\wr=w.drewN m) (λi _=>a.length - (intOf i).toNat)
  exact⟨0,0,by omega,rfl,rfl⟩
  ·obtain⟨k,m,B,rfl,rfl⟩:=hrel
   by_cases g:k<a.length
   ·obtain⟨b1,v,rfl,_,Hb⟩:=r.o (by omega);obtain⟨b2,z,rfl,_,Ha⟩:=t.o (by rw[<- o.o];omega);have u:=Hb k g;have A:=Ha k (by rw[<- o.o];omega);clear Hb Ha;have s:Hu (a=d->a.getD k 0=d.getD k 0):=λe=>by rw[e]
    generalize a.getD k 0=x at *;generalize d.getD k 0=y at *
    by_cases c:x=y
    ·subst c
     go_wp2
     go_quiet (fail)
     go_wp2
     go_roundw
     exact⟨k+1,_,by omega,by go_num,rfl⟩
     simp[intOf];omega
    ·have q:(x == y)=false:=by simpa using c
     have h:=qI c;clear c
     go_wp2
     go_quiet (fail)
     go_wp2
     go_ret;exact⟨_,rfl,λe=>absurd (s.o e) h,_,World.drewN_drewN _ _ _⟩
   ·have Hc:k=a.length:=by omega
    subst Hc
    go_wp2
    go_ret;exact⟨_,rfl,λ_=>rfl,m,rfl⟩
 ·have q:((a.length:Int) == (d.length:Int))=false:=by simp;omega
  have h:=qI f;clear f
  go_enter func48,ntmps48
  go_wp2
  go_ret;exact⟨_,rfl,λe=>absurd (congrArg List.length e) h,0,rfl⟩
theorem L7{g v2:Value}{c d:List Int}{w:World}(a:bK w g c)(f:bK w v2 d) :
  Calls pg 48 #[g,v2] w λe w'=>∃b:Bool,e=.returned b/\(c=d->b=true)/\∃n,w'=w.drewN n:=by
 obtain⟨h,c1,rfl,m1,a⟩:=a;obtain⟨a2,c2,rfl,m2,f⟩:=f;exact Co c1 c2 (Q5 m1.1 m1.2) (Q5 m2.1 m2.2) a f
theorem Cp{B:Nat}{n k:Sd}{v:Value}{l:Int}{d:Bool}(wr:Bool)(bs:ByteArray){w:World}(h:aQ w B n k v l d)(f:-9223372036854775808<=l/\l<=9223372036854775807)(a:cN l d=11) :
  Calls pg 143 #[.pointer (some ⟨B,0,none⟩),.agg #[wr,bs]] w λe w'=>e=.returned (.iface 108 (11:Int))/\aQ w' B n k v (bn l d) true/\w.grownBy w' (some B):=by
 have He:=h.lt;have Hb:=(Q0 w w).alloc (lR) (.cells #[wr,bs] 111);have Hf:=h.block (w':=w.alloc (.cells #[wr,bs] 111)) (Hb.block B He);have Hc:=qI (sd Hf f);have c:fE l d=true:=by
  grind[su]
 rw[a,c,gX] at Hc;have Ha:=qI Hb;clear h Hf c a Hb He
 go_enter func143,ntmps143
 go_wp2
 refine Hc.o.m λm ⟨b,Hg⟩=>?_;have Hh:=qI (dC ⟨Ha.o.os,Ha.o.tape,Ha.o.output,Ha.o.size,λj i _=>Ha.o.block j i⟩ Hg.1);have g:=qI b;clear b Hg Hc Ha
 go_wp2
 go_ret;exact⟨rfl,g,Hh⟩
theorem L8(B:Nat)(s:ByteArray)(w:World)(hs:6000<s.size)(a:s.size<=maxLen) :
  CE 97 #[B,s] w (.iface 108 (2:Int)):=by
 unfold maxLen at a
 go_enter func97,ntmps97
 go_wp2
 go_ret;exact⟨rfl,rfl⟩
theorem L9{B:Nat}{n k:Sd}{l:Int}{d:Bool}(s:ByteArray){w:World}(h:aQ w B n k () l d)(g:-9223372036854775808<=l/\l<=9223372036854775807)(a:cN l d=0)(hs:s.size<=6000) :
  Calls pg 97 #[.pointer (some ⟨B,0,none⟩),.string s] w λe w'=>e=.returned .nilIface/\uE w w' B (Chg.on ⟨true,s⟩ n) k (bn l d) true s/\w.grownBy w' (some B):=by
 have c:=qI (Cn true s h g a);clear h a
 go_enter func97,ntmps97
 go_wp2
 refine c.o.m λm ⟨b,f⟩=>?_;have i:=qI b;have j:=qI f;clear b f c
 go_wp2
 go_ret;exact⟨rfl,i,j⟩
theorem Ma{B:Nat}{n k:Sd}{v:Value}{l:Int}{d:Bool}(s:ByteArray){w:World}(h:aQ w B n k v l d)(g:-9223372036854775808<=l/\l<=9223372036854775807)(a:cN l d=11)(hs:s.size<=6000) :
  Calls pg 97 #[.pointer (some ⟨B,0,none⟩),.string s] w λe w'=>e=.returned (.iface 108 (11:Int))/\aQ w' B n k v (bn l d) true/\w.grownBy w' (some B):=by
 have c:=qI (Cp true s h g a);clear h a
 go_enter func97,ntmps97
 go_wp2
 refine c.o.m λm ⟨b,f⟩=>?_;have i:=qI b;have j:=qI f;clear b f c
 go_wp2
 go_ret;exact⟨rfl,i,j⟩
theorem Mb{B:Nat}{n k:Sd}{l:Int}{d:Bool}{w:World}(h:aQ w B n k () l d)(i:-9223372036854775808<=l/\l<=9223372036854775807)(a:cN l d=0)(c:n.dt=true) :
  Calls pg 98 #[.pointer (some ⟨B,0,none⟩)] w λe w'=>e=.returned .nilIface/\uE w w' B (Chg.on ⟨false,⟨#[]⟩⟩ n) k (bn l d) false ⟨#[]⟩/\w.grownBy w' (some B):=by
 have f:=qI (Cn false ⟨#[]⟩ h i a);obtain⟨_,_,c2,_⟩:=h.now;rw[c] at c2;clear h a c
 go_enter func98,ntmps98
 go_wp2
 refine f.o.m λo ⟨b,g⟩=>?_;have j:=qI b;have m:=qI g;clear b g f
 go_wp2
 go_ret;exact⟨rfl,j,m⟩
theorem Mc{B:Nat}{n k:Sd}{v:Value}{l:Int}{d:Bool}{w:World}(h:aQ w B n k v l d)(i:-9223372036854775808<=l/\l<=9223372036854775807)(a:cN l d=11)(c:n.dt=true) :
  Calls pg 98 #[.pointer (some ⟨B,0,none⟩)] w λe w'=>e=.returned (.iface 108 (11:Int))/\aQ w' B n k v (bn l d) true/\w.grownBy w' (some B):=by
 have f:=qI (Cp false ⟨#[]⟩ h i a);obtain⟨_,_,c2,_⟩:=h.now;rw[c] at c2;clear h a c
 go_enter func98,ntmps98
 go_wp2
 refine f.o.m λo ⟨b,g⟩=>?_;have j:=qI b;have m:=qI g;clear b g f
 go_wp2
 go_ret;exact⟨rfl,j,m⟩
theorem Md(a:Bool)(bs:ByteArray)(m:Int)(w:World)(c:0<m):CB 34 #[.agg #[a,bs],m] w (.agg #[a,(bs.extract 0 (min m bs.size).toNat)]):=by
 rcases Int.lt_trichotomy m bs.size with h|h|h
 ·have Ha:min m (bs.size:Int)=m:=by omega
  have Hb:=Qc h;have Hf:decide ((bs.size:Int)<m)=false:=Q7 (by omega);rw[Ha];have b:=qI (((Q0 w w).alloc (lR) (.cells #[a,(bs.extract 0 m.toNat)] 111)).alloc (by simp) (.cells #[a,(bs.extract 0 m.toNat)] 111))
  go_enter func34,ntmps34
  go_wp2
  refine bodyPost_ret (v:=.agg #[a,(bs.extract 0 m.toNat)]) ?_ rfl ⟨rfl,b⟩;rw[rQ rfl];go_simp
 ·subst h;have Ha:min (bs.size:Int) (bs.size:Int)=bs.size:=by omega
  rw[Ha,show bs.extract 0 (bs.size:Int).toNat=bs from by simp];have b:=qI (((Q0 w w).alloc (lR) (.cells #[a,bs] 111)).alloc (by simp) (.cells #[a,bs] 111))
  go_enter func34,ntmps34
  go_wp2
  refine bodyPost_ret (v:=.agg #[a,bs]) ?_ rfl ⟨rfl,b⟩;rw[rQ rfl];go_simp
 ·have Ha:min m (bs.size:Int)=bs.size:=by omega
  have Hb:decide (m<(bs.size:Int))=false:=Q7 (by omega);have Hc:decide (m<=(bs.size:Int))=false:=Q7 (by omega);have He:¬ m<=(bs.size:Int):=by omega
  rw[Ha,show bs.extract 0 (bs.size:Int).toNat=bs from by simp];have b:=qI (((Q0 w w).alloc (lR) (.cells #[a,bs] 111)).alloc (by simp) (.cells #[a,bs] 111))
  go_enter func34,ntmps34
  go_wp2
  refine bodyPost_ret (v:=.agg #[a,bs]) ?_ rfl ⟨rfl,b⟩;rw[rQ rfl];go_simp
theorem Me{B:Nat}{n k:Sd}{l:Int}{d:Bool}(keep a:Int){w:World}(h:aQ w B n k () l d) :
  Calls pg 15 #[.pointer (some ⟨B,0,none⟩),.int .i64 keep,.int .i64 a] w λe w'=>e=.returned (.tuple #[])/\aQ w' B k k () (-1) false/\cA B w w':=by
 obtain⟨a0,r,a2,a3⟩:=h.now;obtain⟨a4,a5,p,m⟩:=h.kept;obtain⟨o,a9,j⟩:=h.rest;have f0:=h.frozen 0;have f1:=h.frozen 1;have f2:=h.frozen 2;have f3:=h.frozen 3;have s:=h.frozen 8;have q:=h.frozen 9;have f10:=h.frozen 10;have b:=qI ((((h.setNow k).set8 ()).set9 (-1)).set10 false);have c:=qI (((((cA.refl B w).putS 0 k).set 8 ()).set 9 (-1:Int)).set 10 false);clear h;unfold putS at b c;simp only[Qd] at b c
 rcases Int.lt_trichotomy keep 0 with g|g|g
 ·have Hb:max keep 0=0:=by omega
  have Hc:=Qc g
  rcases Int.lt_or_le 0 a with f|f
  ·have Ha:decide (0<a)=true:=Qc f
   go_enter func15,ntmps15
   go_wp2
   go_loop [23] (λi=>i=.int .i64 0) (λ_=>0)
   case atStart=>rfl
   case round=>
    subst hrel
    go_wp2
    go_end0
    exact⟨rfl,b,c⟩
  ·have Ha:decide (0<a)=false:=Q7 (by omega)
   go_enter func15,ntmps15
   go_wp2
   go_loop [23] (λi=>i=.int .i64 0) (λ_=>0)
   case atStart=>rfl
   case round=>
    subst hrel
    go_wp2
    go_end0
    exact⟨rfl,b,c⟩
 ·subst g
  rcases Int.lt_or_le 0 a with f|f
  ·have Ha:decide (0<a)=true:=Qc f
   go_enter func15,ntmps15
   go_wp2
   go_loop [23] (λi=>i=.int .i64 0) (λ_=>0)
   case atStart=>rfl
   case round=>
    subst hrel
    go_wp2
    go_end0
    exact⟨rfl,b,c⟩
  ·have Ha:decide (0<a)=false:=Q7 (by omega)
   go_enter func15,ntmps15
   go_wp2
   go_loop [23] (λi=>i=.int .i64 0) (λ_=>0)
   case atStart=>rfl
   case round=>
    subst hrel
    go_wp2
    go_end0
    exact⟨rfl,b,c⟩
 ·have Hb:max keep 0=keep:=by omega
  have Hc:decide (keep<0)=false:=Q7 (by omega);have Hf:min keep 0=0:=by omega
  have He:=Qc g
  rcases Int.lt_or_le 0 a with f|f
  ·have Ha:decide (0<a)=true:=Qc f
   go_enter func15,ntmps15
   go_wp2
   go_loop [23] (λi=>i=.int .i64 0) (λ_=>0)
   case atStart=>rfl
   case round=>
    subst hrel
    go_wp2
    go_end0
    exact⟨rfl,b,c⟩
  ·have Ha:decide (0<a)=false:=Q7 (by omega)
   go_enter func15,ntmps15
   go_wp2
   go_loop [23] (λi=>i=.int .i64 0) (λ_=>0)
   case atStart=>rfl
   case round=>
    subst hrel
    go_wp2
    go_end0
    exact⟨rfl,b,c⟩
