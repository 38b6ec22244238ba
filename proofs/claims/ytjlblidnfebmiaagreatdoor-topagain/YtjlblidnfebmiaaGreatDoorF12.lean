import Derived.Test.YtjlblidnfebmiaaGreatDoorF11
import Derived.Lib.ItoaLen
import Derived.RangeFuncNested
import Derived.RangeFuncBound
import Derived.RangeFuncCalls
import Derived.RangeFuncLeaves
import Derived.RangeFuncBox
import Derived.RangeFuncWrites
import Derived.Shelf.Abstract
import Derived.Shelf.RegionOpen
import Derived.OwnWalkIn
import Derived.TacticsInMore
import Derived.LoopNIn
import Derived.LoopIn
import Derived.Maps.OwnIn
import Derived.OrdersHeld
import Derived.OrdersIn
set_option maxRecDepth 100000
set_option maxHeartbeats 16000000
open Go Go.RowKit Go.Shelf
attribute [local go_sem] Oper.semAt_some
open Go.Proofs.Tryz
namespace Go.Proofs.YtjlblidnfebmiaaGreatDoor
variable{A B W W' w w':World}{K:Nat->Prop}{b:Bool}{c:UInt8}{cs:List aB}{cv gvv:Nat->Value}{d:ap}{ds:List ap}{dv xs:List Int}{h i k o:Nat}{p:aj}{r s:List UInt8}{v:Value}
structure aR where
 cp:Nat
 dv:List Int
def Bf:aR:=⟨0,[]⟩
instance:Inhabited aR:=⟨Bf⟩
def aD (l:List aR) (k:Nat):aR:=l.getD k Bf
structure af where
 pod:aj
 gs:List aR
def Bi:af:=⟨mz,[]⟩
instance:Inhabited af:=⟨Bi⟩
def ag (l:List af) (k:Nat):af:=l.getD k Bi
def aM (n:Int):List UInt8:=Lib.decDigits n.toNat
def eu (l:List UInt8):List UInt8:=if l=[] then [45] else l
def fh (d:ap):List UInt8:=d.kind.data.toList++[58]++aM d.many
def jZ (ds:List ap):List UInt8:=eu (Lib.join (ds.map fh) [44])
def kE (dv:List Int):List UInt8:=eu (Lib.join (dv.map aM) [44])
def o7 (A:Nat):List UInt8:=eu (iO A)
def eF (c:aB):List (List UInt8):=[[99,111,110,116],c.nm.data.toList,aM c.am,aM c.ab,aM c.cm,aM c.cb,jZ c.ds]
def ev (g:aR):List (List UInt8):=[o7 g.cp,kE g.dv]
def gC (p:aj):List (List UInt8):=[[112,111,100],p.nm.data.toList,aM p.pr]
def j7 (ws:List (List UInt8)):List UInt8:=Lib.join ws [32]++[10]
def lz (c:aB) (g:aR):List UInt8:=j7 (eF c++ev g)
def j8 (p:aj):List UInt8:=j7 (gC p)
def fD (h:af):Nat->List UInt8
 | 0=>[]
 | k+1=>fD h k++lz (ae h.pod.cs k) (aD h.gs k)
def iY (h:af):List UInt8:=j8 h.pod++fD h h.pod.cs.length
def ie (hs:List af):Nat->List UInt8
 | 0=>[]
 | k+1=>ie hs k++iY (ag hs k)
def dj (hs:List af):List UInt8:=ie hs hs.length
def dB (b:List UInt8):List UInt8:=[115,117,109,32]++Lib.decDigits (eU b)++[10]
def bn (hs:List af):List UInt8:=dj hs++dB (dj hs)
def iD (dv:List Int) (j:Nat):Nat:=if dv.getD j 0<0\/15<dv.getD j 0\/(0<j/\dv.getD j 0<=dv.getD (j - 1) 0) then 3 else 0
def dP (dv:List Int):Nat:=if 16<dv.length then 2 else bh (iD dv) dv.length
def qH (gs:List aR):Nat:=bh (λk=>dP (aD gs k).dv) gs.length
def fU (h:af) (lowB:Bool):Nat:=
 if bu h.pod≠0 then bu h.pod else if lowB=true\/h.gs.length≠h.pod.cs.length then 3 else qH h.gs
def qJ (hs:List af) (i:Nat):Bool:=decide (0<i) && ef (ag hs i).pod.nm (ag hs (i - 1)).pod.nm
def mF (hs:List af) (i:Nat):Nat:=fU (ag hs i) (qJ hs i)
def bw (hs:List af):Nat:=if 12<hs.length then 2 else bh (mF hs) hs.length
def nO (g:aR):Prop:=g.cp<18446744073709551616/\g.dv.length<=16/\∀x∈g.dv,0<=x/\x<=15
def nP (d:ap):Prop:=bR d.kind=true/\1<=d.many/\d.many<=16
def mG (c:aB):Prop:=bR c.nm=true/\(0<=c.am/\c.am<=1000000)/\(0<=c.ab/\c.ab<=1125899906842624)/\(0<=c.cm/\c.cm<=1000000)/\(0<=c.cb/\c.cb<=1125899906842624)/\c.ds.length<=3/\∀d∈c.ds,nP d
def qK (p:aj):Prop:=bR p.nm=true/\(0<=p.pr/\p.pr<=1000)/\p.cs.length<=3/\∀c∈p.cs,mG c
def kF (h:af):Prop:=qK h.pod/\h.gs.length=h.pod.cs.length/\∀g∈h.gs,nO g
def lA (hs:List af):Prop:=hs.length<=12/\∀h∈hs,kF h
theorem Bj(h:d∈ds):∃k,k<ds.length/\aq ds k=d:=by
 obtain⟨k,a,rfl⟩:=List.getElem_of_mem h;exact⟨k,a,by simp[aq,a]⟩
theorem Bo{ds:List aB}{d:aB}(h:d∈ds):∃k,k<ds.length/\ae ds k=d:=by
 obtain⟨k,a,rfl⟩:=List.getElem_of_mem h;exact⟨k,a,by simp[ae,a]⟩
theorem wk{ds:List aR}{d:aR}(h:d∈ds):∃k,k<ds.length/\aD ds k=d:=by
 obtain⟨k,a,rfl⟩:=List.getElem_of_mem h;exact⟨k,a,by simp[aD,a]⟩
theorem tv{ds:List af}{d:af}(h:d∈ds):∃k,k<ds.length/\ag ds k=d:=by
 obtain⟨k,a,rfl⟩:=List.getElem_of_mem h;exact⟨k,a,by simp[ag,a]⟩
theorem Lw{ds:List Int}{d:Int}(h:d∈ds):∃k,k<ds.length/\ds.getD k 0=d:=by
 obtain⟨k,a,rfl⟩:=List.getElem_of_mem h;exact⟨k,a,by simp[a]⟩
theorem o8{ds:List aB}(h:k<ds.length):ae ds k∈ds:=by simp[ae,h]
theorem wm{ds:List aR}(h:k<ds.length):aD ds k∈ds:=by simp[aD,h]
theorem o9{ds:List af}(h:k<ds.length):ag ds k∈ds:=by simp[ag,h]
theorem Lx(h:bh (iB ds) ds.length=0):∀d∈ds,nP d:=by
 intro d ag;obtain⟨k,c,rfl⟩:=Bj ag
 have:=fA h k c
 unfold iB at this
 split at this
 ·cases this
 ·rename_i a
  split at this
  ·cases this
  ·rename_i b
   rw[not_or] at a b;exact⟨by simpa using a.1,by omega,by omega⟩
theorem Ly(h:dO cs k=0):mG (ae cs k):=by
 have c:=AO h;unfold dO at h
 split at h
 ·cases h
 rename_i d
 split at h
 ·cases h
 split at h
 ·cases h
 split at h
 ·cases h
 split at h
 ·cases h
 rename_i e
 have a:=tj c.1;have b:=tj c.2.1;exact⟨by simpa using d,a.1,a.2,b.1,b.2,by omega,Lx h⟩
theorem jv(h:bu p=0):qK p:=by
 obtain⟨a,d,g,e⟩:=qD h;refine⟨a,d,g.2,λc f=>?_⟩;obtain⟨k,b,rfl⟩:=Bo f;exact Ly (fA e k b)
theorem Lz(h:dP dv=0):dv.length<=16/\∀x∈dv,0<=x/\x<=15:=by grind[dP,Lw,fA,iD]
theorem LA{h:af}(e:fU h b=0)(f:∀g∈h.gs,g.cp<18446744073709551616):kF h:=by
 unfold fU at e
 split at e
 ·exact absurd e (by assumption)
 rename_i i
 split at e
 ·cases e
 rename_i d
 rw[not_or] at d;refine⟨jv (by omega),by omega,λg a=>?_⟩;obtain⟨k,c,rfl⟩:=wk a;exact⟨f _ a,Lz (fA e k c)⟩
theorem tw{hs:List af}(e:bw hs=0)(b:∀h∈hs,∀g∈h.gs,g.cp<18446744073709551616):lA hs:=by
 unfold bw at e
 split at e
 ·cases e
 refine⟨by omega,λh a=>?_⟩;obtain⟨k,c,rfl⟩:=tv a;exact LA (fA e k c) (b _ a)
theorem kG{s:ByteArray}(h:bR s=true):0<s.data.toList.length/\s.data.toList.length<=8:=by simp_all[bR,Bool.and_eq_true]
theorem wn(n:Nat)(h:n<18446744073709551616):(Lib.decDigits n).length<=20:=by rw[Lib.decDigits_length];exact Lib.nDigits_le20 _ h
theorem lB(n:Int)(h:n<=1125899906842624):(aM n).length<=20:=wn _ (by omega)
theorem nQ(c:UInt8)(m:Nat):∀(a:List (List UInt8)),(∀x∈a,x.length<=m)->(Lib.join a [c]).length<=a.length*(m+1):=by
 intro a h;have key:∀r:List (List UInt8),(∀x∈r,x.length<=m)->Lib.lens r<=r.length*m:=by
  intro r
  induction r with
  | nil=>intro _;simp[Lib.lens]
  | cons x r ih=>
   intro h;have b:=ih λy d=>h y (by simp[d])
   have e:=h x (by simp);simp only[Lib.lens,Qq,List.sum_cons,Qg,Nat.add_mul,Nat.one_mul] at b ⊢;omega
 cases a with
 | nil=>simp[Lib.join_nil]
 | cons x r=>
  rw[Lib.join_length];have b:=key _ h;simp only[Qg,List.length_nil,Nat.mul_add,Nat.add_mul,Nat.one_mul,Nat.mul_one,Qd] at b ⊢;omega
theorem wo{l:List UInt8}{m:Nat}(h:l.length<=m):(eu l).length<=m+1:=by
 unfold eu;split
 ·simp
 ·omega
theorem Br(h:nP d):(fh d).length<=29:=by
 have b:=kG h.1;have a:=lB d.many (by have:=h.2.2;omega);simp only[fh,Q2,Qg,List.length_nil];omega
theorem LB(h:∀d∈ds,nP d)(b:ds.length<=3):(jZ ds).length<=91:=by
 refine wo (Q5 (nQ 44 29 _ λx a=>?_) ?_)
 ·obtain⟨d,ag,rfl⟩:=Qk.1 a;exact Br (h d ag)
 ·rw[Q9];omega
theorem LC(h:∀x∈dv,0<=x/\x<=15)(b:dv.length<=16):(kE dv).length<=337:=by
 refine wo (Q5 (nQ 44 20 _ λx a=>?_) ?_)
 ·obtain⟨d,ag,rfl⟩:=Qk.1 a;exact lB d (by have:=h d ag;omega)
 ·rw[Q9];omega
theorem LD(A:Nat):(o7 A).length<=301:=wo (uT A)
theorem Bt{c:aB}(h:mG c):∀x∈eF c,x.length<=100:=by
 obtain⟨d,i,m,l,j,f,e⟩:=h;have a:=kG d;have b1:=lB c.am (by omega);have b2:=lB c.ab (by omega);have n:=lB c.cm (by omega);have g:=lB c.cb (by omega);have k:=LB e f;intro x b;simp only[eF,List.mem_cons,List.not_mem_nil,or_false] at b
 rcases b with rfl|rfl|rfl|rfl|rfl|rfl|rfl <;> first|omega|simp
theorem Bu{g:aR}(h:nO g):∀x∈ev g,x.length<=400:=by
 have a:=LD g.cp;have b:=LC h.2.2 h.2.1;intro x c;simp only[ev,List.mem_cons,List.not_mem_nil,or_false] at c
 rcases c with rfl|rfl <;> omega
theorem Bv(h:qK p):∀x∈gC p,x.length<=100:=by
 have a:=kG h.1;have b:=lB p.pr (by have:=h.2.1;omega);intro x c;simp only[gC,List.mem_cons,List.not_mem_nil,or_false] at c
 rcases c with rfl|rfl|rfl <;> first|omega|simp
theorem By{c:aB}{g:aR}(d:mG c)(a:nO g):(lz c g).length<=4000:=by
 have:=nQ 32 400 (eF c++ev g) λx b=>by
  rcases Qi.1 b with h|h
  ·have:=Bt d x h;omega
  ·exact Bu a x h
 simp only[lz,j7,Q2,Qg,List.length_nil] at this ⊢;simp only[eF,ev,Qg,List.length_nil] at this;simp only[eF,ev];omega
theorem wu(h:qK p):(j8 p).length<=400:=by
 have:=nQ 32 100 (gC p) (Bv h)
 simp only[j8,j7,Q2,Qg,List.length_nil];simp only[gC,Qg,List.length_nil] at this ⊢;omega
theorem tx{h:af}(e:kF h)(a:k<h.pod.cs.length):mG (ae h.pod.cs k)/\nO (aD h.gs k):=
 ⟨e.1.2.2.2 _ (o8 a),e.2.2 _ (wm (by rw[e.2.1];exact a))⟩
theorem wv{h:af}(e:kF h):∀k,k<=h.pod.cs.length->(fD h k).length<=k*4000:=by
 intro k
 induction k with
 | zero=>intro _;simp[fD]
 | succ k ih=>
  intro d;have c:=ih (by omega);obtain⟨a,b⟩:=tx e (k:=k) (by omega)
  have:=By a b
  rw[fD,Q2];omega
theorem Bz{h:af}(e:kF h):(iY h).length<=13000:=by
 have a:=wv e _ (lR);have b:=wu e.1;have c:=e.1.2.2.1;rw[iY,Q2];omega
theorem BA{hs:List af}(e:lA hs):∀k,k<=hs.length->(ie hs k).length<=k*13000:=by
 intro k
 induction k with
 | zero=>intro _;simp[ie]
 | succ k ih=>
  intro a;have b:=ih (by omega);have c:=Bz (e.2 _ (o9 (k:=k) (by omega)));rw[ie,Q2];omega
theorem LE{hs:List af}(e:lA hs):(dj hs).length<=156000:=by
 have:=BA e _ (lR)
 have a:=e.1;unfold dj;omega
theorem qL(b:List UInt8):(dB b).length<=25:=by grind[wn,eU,uN,dB,Q1,Q2,Qg,List.length_nil]
section
open Go.ChangeShapes Go.WideShapes Go.ChangeAt Go.RowKit
def bD (w:World) (v:Value) (xs:List Int):Prop:=
 ∃ao c,v=.slice ao xs.length c/\(xs.length<=c/\c<=maxLen)/\(0<xs.length->∃b o,ao=some ⟨b,o,none⟩/\b<w.heap.size/\∀k,k<xs.length->w.cell? ⟨b,o+k,none⟩=some (.int .i64 (xs.getD k 0)))
def pd (w:World) (b o:Nat) (gs:List aR) (dv:Nat->Value):Prop:=
 b<w/\∀k,k<gs.length->(w.cell? ⟨b,o+k*2,none⟩=some (.int .u64 (aD gs k).cp)/\w.cell? ⟨b,o+k*2+1,none⟩=some (dv k)/\(aD gs k).cp<18446744073709551616)/\bD w (dv k) (aD gs k).dv
def b7 (w:World) (v:Value) (gs:List aR):Prop:=
 ∃ao c,v=.slice ao gs.length c/\(gs.length<=c/\c<=maxLen)/\(0<gs.length->∃b o dv,ao=some ⟨b,o,none⟩/\pd w b o gs dv)
def ww (h:af) (cv gvv:Value):Value:=.agg #[h.pod.nm,(h.pod.pr:Int),cv,gvv]
def mH (w:World) (b o:Nat) (hs:List af) (cv gvv:Nat->Value):Prop:=
 b<w/\∀k,k<hs.length->(w.cell? ⟨b,o+k*4,none⟩=some (.string (ag hs k).pod.nm)/\w.cell? ⟨b,o+k*4+1,none⟩=some (.int .i64 (ag hs k).pod.pr)/\w.cell? ⟨b,o+k*4+2,none⟩=some (cv k)/\w.cell? ⟨b,o+k*4+3,none⟩=some (gvv k))/\aQ w (cv k) (ag hs k).pod.cs/\b7 w (gvv k) (ag hs k).gs
def aY (w:World) (v:Value) (hs:List af):Prop:=
 ∃ao c,v=.slice ao hs.length c/\(hs.length<=c/\c<=maxLen)/\(0<hs.length->∃b o cv gvv,ao=some ⟨b,o,none⟩/\mH w b o hs cv gvv)
theorem bD.below(h:bD w v xs)(d:Below w w w'):bD w' v xs:=by
 obtain⟨f,c,j,l,m⟩:=h;refine⟨f,c,j,l,λe=>?_⟩;obtain⟨b,o,g,a,n⟩:=m e;exact⟨b,o,g,Q1 a d.size,λk i=>(d.cell (p:=⟨b,o+k,none⟩) a).trans (n k i)⟩
theorem pd.below{b:Nat}{gs:List aR}{dv:Nat->Value}(h:pd w b o gs dv)(a:Below w w w'):pd w' b o gs dv:=
 ⟨Q1 h.1 a.size,λk d=>by
  obtain⟨⟨c,e,g⟩,f⟩:=h.2 k d;exact⟨⟨(a.cell (p:=⟨b,o+k*2,none⟩) h.1).trans c,(a.cell (p:=⟨b,o+k*2+1,none⟩) h.1).trans e,g⟩,f.below a⟩⟩
theorem b7.below{gs:List aR}(h:b7 w v gs)(f:Below w w w'):b7 w' v gs:=by
 obtain⟨d,c,g,i,j⟩:=h;refine⟨d,c,g,i,λa=>?_⟩;obtain⟨b,o,dv,e,k⟩:=j a;exact⟨b,o,dv,e,k.below f⟩
theorem mH.below{b:Nat}{hs:List af}(h:mH w b o hs cv gvv)(a:Below w w w'):mH w' b o hs cv gvv:=
 ⟨Q1 h.1 a.size,λk d=>by
  obtain⟨⟨c,e,j,g⟩,f,i⟩:=h.2 k d;exact⟨⟨(a.cell (p:=⟨b,o+k*4,none⟩) h.1).trans c,(a.cell (p:=⟨b,o+k*4+1,none⟩) h.1).trans e,(a.cell (p:=⟨b,o+k*4+2,none⟩) h.1).trans j,(a.cell (p:=⟨b,o+k*4+3,none⟩) h.1).trans g⟩,f.below a,i.below a⟩⟩
theorem aY.below{hs:List af}(h:aY w v hs)(g:Below w w w'):aY w' v hs:=by
 obtain⟨e,c,i,j,k⟩:=h;refine⟨e,c,i,j,λd=>?_⟩;obtain⟨b,o,cv,a,f,l⟩:=k d;exact⟨b,o,cv,a,f,l.below g⟩
theorem aY.cps{hs:List af}(h:aY w v hs):∀x∈hs,∀g∈x.gs,g.cp<18446744073709551616:=by
 intro x m g l;obtain⟨k,e,rfl⟩:=tv m;obtain⟨n,c,_,_,d⟩:=h;obtain⟨b,o,cv,p,_,a⟩:=d (by omega);obtain⟨_,_,i⟩:=a.2 k e;obtain⟨j,f,rfl⟩:=wk l;obtain⟨n,c,_,_,d⟩:=i;obtain⟨b,o,dv,_,a⟩:=d (by omega);exact (a.2 j f).1.2.2
section
variable{H:Type}{enc:TypeId × Value->H}{W:World}
end
end
structure Apart (K:Nat->Prop) (W W':World):Prop where
 os:W'.os=W.os
 tape:W'.tape=W.tape
 output:W'.output=W.output
 size:W<=W'.heap.size
 block:∀j,j<W.heap.size->¬ K j->W'.heap[j]?=W.heap[j]?
theorem Apart.refl(K:Nat->Prop)(W:World):Apart K W W:=⟨rfl,rfl,rfl,lR,λ_ _ _=>rfl⟩
theorem Apart.trans{C:World}(h:Apart K A B)(k:Apart K B C):Apart K A C:=
 ⟨k.os.trans h.os,k.tape.trans h.tape,k.output.trans h.output,Q5 h.size k.size,λj a b=>(k.block j (Q1 a h.size) b).trans (h.block j a b)⟩
theorem Apart.wide{K':Nat->Prop}(h:Apart K A B)(c:∀j,K j->K' j):Apart K' A B:=
 ⟨h.os,h.tape,h.output,h.size,λj b a=>h.block j b λe=>a (c j e)⟩
theorem Apart.of_below(h:Below W W W'):Apart K W W':=⟨h.os,h.tape,h.output,h.size,λj a _=>h.block j a⟩
theorem Apart.alloc(K:Nat->Prop)(W:World)(o:Obj):Apart K W (W.alloc o):=.of_below ((Q0 _ W).alloc (lR) o)
theorem Apart.drewN(K:Nat->Prop)(W:World)(n:Nat):Apart K W (W.drewN n):=⟨rfl,rfl,rfl,lR,λ_ _ _=>rfl⟩
theorem Apart.putObj{l:Nat}(b:K l)(W:World)(o:Obj):Apart K W (W.putObj l o):=
 have a:=grownBy_putObj' W l o
 ⟨a.os,a.tape,a.output,a.size,λj d c=>a.block j d λe=>c (by cases e;exact b)⟩
theorem Apart.setCell{b:Nat}(a:K b)(W:World)(j:Nat)(v:Value):Apart K W (W.setCell ⟨b,j,none⟩ v):=
 ⟨rfl,rfl,rfl,(KeepsWalks.setCell W _ v).size,λk _ c=>Below.heap_setCell _ _ _ k λe=>c (by rw[e];exact a)⟩
section
variable{F:Fence}{n:Nat}{P:Program}
def wy (F:Fence) (n:Nat) (P:Program) (gf:Nat) (lb:Array Value) (K:Nat->Prop) (ts:List (Array Value)) (w:World):Prop:=
 ∀(l:Nat) (J:Nat->World->Prop) (Jx:World->Prop) (W:World),(∀j,K j->W.heap[j]?=w.heap[j]?)->(∀k A B,J k A->Apart K A B->J k B)->
  (∀k A,(hk:k<ts.length)->J k A->YieldAt F (n - 1) P l ts[k] A λe B=>(e=.returned true/\J (k+1) B/\∀j,K j->B.heap[j]?=A.heap[j]?)\/(e=.returned false/\Jx B))->
  J 0 W->CallsIn F n P gf (#[.func (.yield l) #[] #[]]++lb) W λe B=>(∃v,e=.returned v)/\(J ts.length B\/Jx B)
def BB (K:Nat->Prop) (L:Nat) (R:World->Prop) (X:Code->World->Prop) (W:World):Exit->Act->World->Prop
 | .normal,_,W'=>(∀j,(K j\/j=L\/j=L+1)->W'.heap[j]?=W.heap[j]?)/\R W'
 | .ret,_,W'=>(∀j,(K j\/j=L\/j=L+1)->W'.heap[j]?=W.heap[j]?)/\X .ret W'
 | .exit id,_,W'=>(∀j,(K j\/j=L\/j=L+1)->W'.heap[j]?=W.heap[j]?)/\X (.exit id) W'
 | _,_,_=>False
theorem wA{g:Operand}{V:Array Tmp}{assign body:Code}{Q:Exit->Act->World->Prop}{a:Act}{w:World}(Hu:F.round=none)(h1:1<=n){gf:Nat}{lb:Array Value}
  (hg:a.eval g=.func (.func gf) #[] lb) (Y:F.fn gf) (eg:∀args w,(callFunc gf args).run P w=.ok (.enter gf args) w)
  {K:Nat->Prop} {ts:List (Array Value)} (hK:∀j,K j->j<w.heap.size) (N:wy F (n - 1) P gf lb K ts w) (Z:∀x∈ts,x.size=V.size)
  (I:Nat->World->Prop) (H:Code->World->Prop) (M:∀k A B,I k A->Apart (λj=>K j\/j=w.heap.size+1) A B->I k B) (z:∀c A B,H c A->Apart (λj=>K j\/j=w.heap.size+1) A B->H c B) (h0:I 0 w) (a₁:Nat->Act)
  (m:∀(l k:Nat) (T:k<ts.length) (W:World) (R:Act->World->Prop),R (a₁ k) W->assign.wpIn (F.inRound l) (n - 1 - 1) P (Exit.then R λ_ _ _=>False) { tmps:=(V.zip ts[k]).foldl (λt (p,v)=>t.setIfInBounds p v) a.tmps,defers:=[] } W)
  (G:∀(l k:Nat) (W:World),k<ts.length->w+1<W.heap.size->I k W->body.wpIn (F.inRound l) (n - 1 - 1) P (BB K w.heap.size (I (k+1)) H W) (a₁ k) W)
  (D:∀(W:World),I ts.length W->W.heap[w.heap.size]?=some (.deferred (some []))->Q .normal { a with defers:={ target:=.collected w.heap.size,args:=#[] } :: a.defers } W)
  (C:∀(c:Code) (W:World),H c W->W.heap[w.heap.size]?=some (.deferred (some []))->c.wpIn F n P Q { a with defers:={ target:=.collected w.heap.size,args:=#[] } :: a.defers } W) :
  (Code.rangeFunc g V assign body).wpIn F n P Q a w:=by
 refine wpIn_rangeFunc λfn X=>?_
 rw[Hu];generalize hrc:(λ(y:LoopState) (u:Option Code)=>({ state:=y,pending:=u,fn:=fn,tmps:=a.tmps,params:=V,assign:=assign,body:=body,defers:=w.heap.size }:Loop))=rc;have Hc:∀y u,(rc y u).state=y:=λ_ _=>by rw[<- hrc]
 have Hq:∀y u f S,({ rc y u with state:=f,pending:=S }:Loop)=rc f S:=λ_ _ _ _=>by rw[<- hrc]
 have Ha:∀y u f,({ rc y u with state:=f }:Loop)=rc f u:=λ_ _ _=>by rw[<- hrc]
 let L:=w.heap.size+1
 let U:=(w.alloc (.deferred (some []))).alloc (.loop (rc .ready none))
 have Hl:U.heap[L]?=some (.loop (rc .ready none)):=by
  have:=World.alloc_heap_new (w.alloc (.deferred (some []))) (.loop (rc .ready none))
  rwa [World.size_alloc] at this
 have Hs:U.heap[w.heap.size]?=some (.deferred (some [])):=(Below.heap_alloc _ _ _ (by simp)).trans (World.alloc_heap_new w _);have Hm:Apart (λj=>K j\/j=L) w U:=(Apart.alloc _ _ _).trans (Apart.alloc _ _ _);have Hh:∀j,K j->U.heap[j]?=w.heap[j]?:=λj i=>by
  have:=hK j i
  exact (Below.heap_alloc _ _ _ (by simp;omega)).trans (Below.heap_alloc _ _ _ this)
 have Hb:∀j,K j->j≠L/\j≠w.heap.size:=λj i=>by
  have:=hK j i
  exact⟨by show j≠w.heap.size+1;omega,by omega⟩
 let J:Nat->World->Prop:=λk W=>I k W/\W.heap[L]?=some (.loop (rc .ready none))/\W.heap[w.heap.size]?=some (.deferred (some []))
 let Jx:World->Prop:=λW=>∃c,H c W/\W.heap[L]?=some (.loop (rc .done (some c)))/\W.heap[w.heap.size]?=some (.deferred (some []))
 have keep:∀ {A B:World} {o:Obj} {j:Nat},Apart K A B->¬ K j->A.heap[j]?=some o->B.heap[j]?=some o:=λh i ho=>(h.block _ (gS ho).1 i).trans ho
 have Hp:¬ K L:=λe=>(Hb L e).1 rfl
 have Hj:¬ K w.heap.size:=λe=>(Hb _ e).2 rfl
 refine⟨L,[{ target:=.collected w.heap.size,args:=#[] }],U,{ target:=.fn (.func gf) lb,args:=#[.func (.yield L) #[] #[]] },U,gf,#[.func (.yield L) #[] #[]]++lb,U,?_,?_,?_,?_,λ_=>h1,?_⟩
 ·show _=Result.ok _ ((w.alloc (.deferred (some []))).alloc (.loop (rc .ready none)))
  rw[<- hrc];exact run_enterLoop_outer _ _ _ _ _
 ·simp only[resolve,hg];simp[go_sem]
 ·intro f' He;simp[Target.leads] at He;subst He;exact Y
 ·simp[invoke,go_sem,eg]
 ·refine (N L J Jx U Hh (λk A B ⟨hi,s,hd⟩ hab=>⟨M k A B hi (hab.wide λ_=>.inl),keep hab Hp s,keep hab Hj hd⟩) ?_ ⟨M 0 w U h0 Hm,Hl,Hs⟩).mono ?_
  ·rintro k A T ⟨hi,s,hd⟩;have Hg:L<A:=(gS s).1;have hy:=run_yield (P:=P) (args:=ts[k]) s (by rw[<- hrc];exact Z _ (List.getElem_mem T));rw[<- hrc] at hy;refine⟨fn,_,assign,body,hy,roundIn_of_wpIn X (m L k T A _ ⟨_,run_beginRound s (Hc _ _),?_⟩)⟩;rw[Ha]
   let A2:=A.putObj L (.loop (rc .busy none))
   have Hn:A2.heap[L]?=some (.loop (rc .busy none)):=World.putObj_heap_same Hg;have Ho:A2.heap[w.heap.size]?=some (.deferred (some [])):=(World.putObj_heap_other (by show w≠w.heap.size+1;omega)).trans hd;have Hi:∀j,K j->A2.heap[j]?=A.heap[j]?:=λj i=>World.putObj_heap_other (Hb j i).1
   have Hk:I k A2:=M k A A2 hi (Apart.putObj (.inr rfl) _ _);refine wpIn_mono (G L k A2 T (Q1 Hg (grownBy_putObj' A L _).size) Hk) ?_;have E:∀(b:Option Code) (B:World),(∀j,(K j\/j=w.heap.size\/j=w.heap.size+1)->B.heap[j]?=A2.heap[j]?)->
     (Instr.endRound L b).run P B=.ok b.isNone (B.putObj L (.loop (rc (if b.isNone then .ready else .done) b)))/\
     (B.putObj L (.loop (rc (if b.isNone then .ready else .done) b))).heap[L]?=some (.loop (rc (if b.isNone then .ready else .done) b))/\
     (B.putObj L (.loop (rc (if b.isNone then .ready else .done) b))).heap[w.heap.size]?=some (.deferred (some []))/\
     ∀j,K j->(B.putObj L (.loop (rc (if b.isNone then .ready else .done) b))).heap[j]?=A.heap[j]?:=λb B r=>by
    have Hf:B.heap[L]?=some (.loop (rc .busy none)):=(r L (.inr (.inr rfl))).trans Hn;have d:=run_endRound (P:=P) b Hf;rw[Hq] at d;exact⟨d,World.putObj_heap_same (gS Hf).1,(World.putObj_heap_other (by show w≠w.heap.size+1;omega)).trans ((r _ (.inr (.inl rfl))).trans Ho),
     λj i=>(World.putObj_heap_other (Hb j i).1).trans ((r j (.inl i)).trans (Hi j i))⟩
   rintro e a3 B q;cases e with
   | normal=>
    obtain⟨r,Hr⟩:=q;obtain⟨d,f1,f2,f3⟩:=E none B r;exact⟨_,_,d,.inl ⟨rfl,⟨M _ _ _ Hr (Apart.putObj (.inr rfl) _ _),f1,f2⟩,f3⟩⟩
   | ret=>
    obtain⟨r,O⟩:=q;obtain⟨d,f1,f2,_⟩:=E (some .ret) B r;exact⟨_,_,d,.inr ⟨rfl,.ret,z _ _ _ O (Apart.putObj (.inr rfl) _ _),f1,f2⟩⟩
   | exit id=>
    obtain⟨r,O⟩:=q;obtain⟨d,f1,f2,_⟩:=E (some (.exit id)) B r;exact⟨_,_,d,.inr ⟨rfl,.exit id,z _ _ _ O (Apart.putObj (.inr rfl) _ _),f1,f2⟩⟩
   | goto t=>exact q.elim
   | panic ch=>exact q.elim
   | outgrown=>exact q.elim
  ·rintro e B ⟨⟨v,rfl⟩,(⟨hi,s,hd⟩|⟨c,O,s,hd⟩)⟩
   ·have d:=run_endLoop (P:=P) s (by rw[Hc];simp);rw[Ha] at d;refine⟨_,_,d,?_⟩;have q:(rc .ready none).pending=none:=by rw[<- hrc]
    rw[q];exact D _ (M _ _ _ hi (Apart.putObj (.inr rfl) _ _)) ((World.putObj_heap_other (by show w≠w.heap.size+1;omega)).trans hd)
   ·have d:=run_endLoop (P:=P) s (by rw[Hc];simp);rw[Ha] at d;refine⟨_,_,d,?_⟩;have q:(rc .done (some c)).pending=some c:=by rw[<- hrc]
    rw[q];exact C c _ (z _ _ _ O (Apart.putObj (.inr rfl) _ _)) ((World.putObj_heap_other (by show w≠w.heap.size+1;omega)).trans hd)
end
abbrev aS:=List UInt8
def iE {α:Type} (f:aS->Option α):List aS->Option (List α)
 | []=>some []
 | x :: r=>match f x with
  | none=>none
  | some y=>(iE f r).map (y :: ·)
def bV {α:Type} (f:aS->Option α) (l:aS):Option (List α):=if l=[45] then some [] else iE f (aH 44 l)
def pf (l:aS):Option Nat:=if l=[45] then some 0 else if (dM l).2=0 then some (dM l).1 else none
def ar (ws:List aS) (k:Nat):aS:=ws.getD k []
def ph (num:aS->Option Int) (need:aS->Option ap) (ws:List aS):Option (aB × aR):=
 match num (ar ws 2),num (ar ws 3),num (ar ws 4),num (ar ws 5),bV need (ar ws 6),pf (ar ws 7),bV num (ar ws 8) with
 | some a,some b,some c,some d,some ds,some A,some dv=>some (⟨⟨(ar ws 1).toArray⟩,a,b,c,d,ds⟩,⟨A,dv⟩)
 | _,_,_,_,_,_,_=>none
def jw (ws:List aS):Bool:=decide (ar ws 0=[112,111,100]) && decide (ws.length=3)
def nR (ws:List aS):Bool:=decide (ar ws 0=[99,111,110,116]) && decide (ws.length=9)
def tC (h:af) (c:aB) (g:aR):af:=⟨⟨h.pod.nm,h.pod.pr,h.pod.cs++[c]⟩,h.gs++[g]⟩
def kH (hs:List af) (c:aB) (g:aR):List af:=hs.dropLast++[tC (ag hs (hs.length - 1)) c g]
def LF (ws:List aS) (n:Int):af:=⟨⟨⟨(ar ws 1).toArray⟩,n,[]⟩,[]⟩
def fi (num:aS->Option Int) (need:aS->Option ap) (hs:List af) (ws:List aS):Option (List af):=
 if jw ws=true then (num (ar ws 2)).map λn=>hs++[LF ws n]
 else if nR ws=true/\0<hs.length then (ph num need ws).map λx=>kH hs x.1 x.2
 else none
def eQ (num:aS->Option Int) (need:aS->Option ap) (hs:List af):List (List aS)->Option (List af)
 | []=>some hs
 | ws :: r=>match fi num need hs ws with
  | none=>none
  | some hs'=>eQ num need hs' r
def qM (t:aS):List aS:=if (aH 10 t).getLast?=some [] then (aH 10 t).dropLast else aH 10 t
def bW (l:aS):Option Int:=if cT 16 l=true then some (bM l) else none
def ct (l:aS):Option ap:=(bW (aT 58 l).2.1).map λn=>⟨⟨(aT 58 l).1.toArray⟩,n⟩
def gD (t:aS):Option (List af):=eQ bW ct [] ((qM t).map (aH 32))
structure qN (num:aS->Option Int) (need:aS->Option ap):Prop where
 num:∀n:Int,0<=n->n<=1125899906842624->num (aM n)=some n
 need:∀d:ap,nP d->need (fh d)=some d
theorem ig(n:Int)(c:UInt8)(a:fL c=false):c ∉ aM n:=oO _ c a
theorem nS{s:ByteArray}(h:bR s=true)(c:UInt8)(g:oX c=false)(d:oY c=false):c ∉ s.data.toList:=by
 intro f;simp only[bR,Bool.and_eq_true] at h;obtain⟨k,a,e⟩:=List.getElem_of_mem f;have key:∀n,fg (iU s) n=true->∀k,k<n->iU s k=true:=by
  intro n
  induction n with
  | zero=>intro _ k a;omega
  | succ n ih=>
   intro h k a;simp only[fg,Bool.and_eq_true] at h
   by_cases b:k=n
   ·subst b;exact h.2
   ·exact ih h.1 k (by omega)
 have:=key _ h.2 k (by simpa using a)
 rw[iU,List.getD_eq_getElem?_getD,Qf a,Option.getD_some,e,g,d] at this;cases this
theorem LG:qN bW ct:=by
 have b:∀n:Int,0<=n->n<=1125899906842624->bW (aM n)=some n:=by
  intro n f j;obtain⟨k,rfl⟩:=Int.eq_ofNat_of_zero_le f;have c:=yS k;have a:=(qd k).2;have g:=uQ 15 k (by omega);unfold gT at c a g;have i:cT 16 (Lib.decDigits k)=true:=by
   rw[cT,c,a,Qc (by omega),Qc (by unfold kv;omega)];rfl
  simp only[bW,aM,Int.toNat_natCast,i,if_true,a]
 refine⟨b,λd ag=>?_⟩;have e:fh d=d.kind.data.toList++58 :: aM d.many:=by simp[fh]
 have h:=yX 58 d.kind.data.toList (aM d.many) (nS ag.1 58 (by decide) (by decide));rw[ct,e,h,b d.many (by have:=ag.2;omega) (by have:=ag.2;omega)];rfl
theorem LI{α:Type}{f:aS->Option α}{g:α->aS}{a:List α}(h:∀x∈a,f (g x)=some x):iE f (a.map g)=some a:=by induction a <;> grind[iE]
theorem LJ{a:List aS}{b:UInt8}(h:b∈Lib.join a [c]):b=c\/∃x∈a,b∈x:=by
 induction a with
 | nil=>simp[Lib.join_nil] at h
 | cons x r ih=>
  cases r with
  | nil=>rw[Lib.join_one] at h;exact .inr ⟨x,by simp,h⟩
  | cons y t=>
   have e:Lib.join (x :: y :: t) [c]=x++c :: Lib.join (y :: t) [c]:=by simp[Lib.join,List.intercalate,List.intersperse]
   rw[e,Qi,List.mem_cons] at h
   rcases h with h|h|h
   ·exact .inr ⟨x,by simp,h⟩
   ·exact .inl h
   ·rcases ih h with h|⟨z,d,f⟩
    ·exact .inl h
    ·exact .inr ⟨z,by simp at d ⊢;exact .inr d,f⟩
theorem LK{a:List aS}(h:∀x∈a,x≠[])(e:Lib.join a [c]=[]):a=[]:=by
 cases a with
 | nil=>rfl
 | cons x r=>
  rw[Lib.join_cons] at e;exact absurd (List.append_eq_nil_iff.1 e).1 (h x (by simp))
theorem BC{α:Type}{f:aS->Option α}{g:α->aS}{a:List α}(h:∀x∈a,f (g x)=some x)(j:∀x∈a,(44:UInt8) ∉ g x)(b:∀x∈a,g x≠[]/\g x≠[45]):bV f (eu (Lib.join (a.map g) [44]))=some a:=by
 by_cases c:a=[]
 ·subst c;rfl
 ·have Hb:Lib.join (a.map g) [44]≠[]:=λe=>c (by
   have:=LK (λx d=>by obtain⟨y,i,rfl⟩:=Qk.1 d;exact (b y i).1) e
   simpa using this)
  have Ha:aH 44 (Lib.join (a.map g) [44])=a.map g:=uU 44 _ (λx d=>by obtain⟨y,i,rfl⟩:=Qk.1 d;exact j y i) (by simpa using c);have Hc:Lib.join (a.map g) [44]≠[45]:=λe=>by
   rw[e] at Ha;have k:aH 44 [45]=[[45]]:=by decide
   rw[k] at Ha;cases a with
   | nil=>exact c rfl
   | cons x r=>
    rw[Qq] at Ha;injection Ha with h1 h2
    exact (b x (by simp)).2 h1.symm
  rw[eu,if_neg Hb,bV,if_neg Hc,Ha,LI h]
theorem LM(n:Int):aM n≠[]/\aM n≠[45]:=⟨uP _,λe=>by
 have:=ig n 45 (by decide)
 rw[e] at this;simp at this⟩
theorem LN(d:ap):fh d≠[]/\fh d≠[45]:=by
 have h:(58:UInt8)∈fh d:=by simp[fh]
 exact⟨λe=>by rw[e] at h;simp at h,λe=>by rw[e] at h;simp at h⟩
theorem LO{A:Nat}(h:A<18446744073709551616):pf (o7 A)=some A:=by
 have a:=Gw A h;unfold o7 eu
 split
 ·rename_i e
  rw[e] at a
  have:A=0:=by
   have b:dM []=(0,0):=by decide
   rw[b] at a;injection a with h3 _
   exact h3.symm
  subst this;rfl
 ·unfold pf
  split
  ·rename_i e
   rw[e] at a;have b:(dM [45]).2=4:=by decide
   rw[a] at b;cases b
  ·rw[a];rfl
theorem LP{num:aS->Option Int}{need:aS->Option ap}(e:qN num need){c:aB}{g:aR}(l:mG c)(p:nO g):ph num need (eF c++ev g)=some (c,g):=by
 obtain⟨u,k,i,q,h,s,f⟩:=l;obtain⟨g1,t,g3⟩:=p;have m:=e.num c.am k.1 (by omega);have a2:=e.num c.ab i.1 i.2;have a3:=e.num c.cm q.1 (by omega);have a4:=e.num c.cb h.1 h.2;have a5:bV need (jZ c.ds)=some c.ds:=BC (λd ag=>e.need d (f d ag)) (λd ag=>by
  have j:=nS (f d ag).1 44 (by decide) (by decide);have o:=ig d.many 44 (by decide);simp only[fh,Qi,not_or];exact⟨⟨j,by simp⟩,o⟩) λd _=>LN d
 have r:=LO g1;have n:bV num (kE g.dv)=some g.dv:=BC (λd ag=>e.num d (g3 d ag).1 (by have:=(g3 d ag).2;omega)) (λd _=>ig d 44 (by decide)) (λd _=>LM d)
 show (match num (aM c.am),num (aM c.ab),num (aM c.cm),num (aM c.cb),bV need (jZ c.ds),pf (o7 g.cp),bV num (kE g.dv) with
  | some a,some b,some c',some d,some ds,some A,some dv=>some (({ nm:=⟨c.nm.data.toList.toArray⟩,am:=a,ab:=b,cm:=c',cb:=d,ds:=ds }:aB),({ cp:=A,dv:=dv }:aR))
  | _,_,_,_,_,_,_=>none)=_
 rw[m,a2,a3,a4,a5,r,n]
def kI (h:af):Nat->List (List aS)
 | 0=>[]
 | k+1=>kI h k++[eF (ae h.pod.cs k)++ev (aD h.gs k)]
def pi (h:af):List (List aS):=gC h.pod :: kI h h.pod.cs.length
def lC (hs:List af):Nat->List (List aS)
 | 0=>[]
 | k+1=>lC hs k++pi (ag hs k)
theorem tD(num:aS->Option Int)(need:aS->Option ap)(a b:List (List aS)):∀hs,eQ num need hs (a++b)=(eQ num need hs a).bind λx=>eQ num need x b:=by induction a <;> grind[eQ,fi]
theorem LQ(h:k<cs.length):cs.take (k+1)=cs.take k++[ae cs k]:=by
 rw[Qa h];simp[ae,h]
theorem LR{cs:List aR}(h:k<cs.length):cs.take (k+1)=cs.take k++[aD cs k]:=by
 rw[Qa h];simp[aD,h]
theorem LS{cs:List af}(h:k<cs.length):cs.take (k+1)=cs.take k++[ag cs k]:=by
 rw[Qa h];simp[ag,h]
theorem BE(hs:List af)(x:af)(c:aB)(g:aR):kH (hs++[x]) c g=hs++[tC x c g]:=by
 simp[kH,ag]
theorem LT{num:aS->Option Int}{need:aS->Option ap}(a:qN num need){h:af}(e:kF h)(hs:List af):∀k,k<=h.pod.cs.length->eQ num need (hs++[⟨⟨h.pod.nm,h.pod.pr,[]⟩,[]⟩]) (kI h k)=some (hs++[⟨⟨h.pod.nm,h.pod.pr,h.pod.cs.take k⟩,h.gs.take k⟩]):=by
 intro k
 induction k with
 | zero=>intro _;rfl
 | succ k ih=>
  intro d;obtain⟨c,b⟩:=tx e (k:=k) (by omega);rw[kI,tD,ih (by omega),Option.bind_some,eQ,fi,if_neg (by simp[jw,ar,eF]:¬ jw (eF (ae h.pod.cs k)++ev (aD h.gs k))=true),if_pos ⟨by rfl,by simp⟩,LP a c b]
  show some (kH (hs++[_]) _ _)=_
  rw[BE,LQ (by omega),LR (by rw[e.2.1];omega)];rfl
theorem LU{num:aS->Option Int}{need:aS->Option ap}(a:qN num need){h:af}(e:kF h)(hs:List af):eQ num need hs (pi h)=some (hs++[h]):=by
 have b:=a.num h.pod.pr e.1.2.1.1 (by have:=e.1.2.1.2;omega);have c:fi num need hs (gC h.pod)=some (hs++[⟨⟨h.pod.nm,h.pod.pr,[]⟩,[]⟩]):=by
  rw[fi,if_pos (by rfl)]
  show (num (aM h.pod.pr)).map _=_
  rw[b];rfl
 rw[pi,eQ,c]
 show eQ num need _ (kI h _)=_
 rw[LT a e hs _ (lR),Qh,<- e.2.1,Qh]
theorem LV{num:aS->Option Int}{need:aS->Option ap}(a:qN num need){hs:List af}(e:lA hs):∀k,k<=hs.length->eQ num need [] (lC hs k)=some (hs.take k):=by
 intro k
 induction k with
 | zero=>intro _;rfl
 | succ k ih=>
  intro b;rw[lC,tD,ih (by omega),Option.bind_some,LU a (e.2 _ (o9 (by omega))),LS (by omega)]
def pj (ws:List aS):Prop:=ws≠[]/\∀x∈ws,(32:UInt8) ∉ x/\(10:UInt8) ∉ x
theorem wB{l:aS}(a:c≠45)(h:c ∉ l):c ∉ eu l:=by
 unfold eu;split
 ·simpa using a
 ·exact h
theorem tE{b:UInt8}{a:List aS}(d:b≠c)(h:∀x∈a,b ∉ x):b ∉ Lib.join a [c]:=by grind[LJ]
theorem LW(p:Nat × Nat)(c:UInt8)(b:fL c=false)(a:c≠45):c ∉ cY p:=by grind[oO,cY]
theorem LX(A:Nat)(c:UInt8)(d:fL c=false)(a:c≠45)(b:c≠44):c ∉ iO A:=by grind[iO,jM,tE,LW]
theorem LY(h:qK p):pj (gC p):=by
 refine⟨by simp[gC],λx a=>?_⟩;simp only[gC,List.mem_cons,List.not_mem_nil,or_false] at a
 rcases a with rfl|rfl|rfl
 ·decide
 ·exact⟨nS h.1 32 (by decide) (by decide),nS h.1 10 (by decide) (by decide)⟩
 ·exact⟨ig _ _ (by decide),ig _ _ (by decide)⟩
theorem LZ{c:aB}{g:aR}(h:mG c):pj (eF c++ev g):=by
 obtain⟨j,p,s,t,q,r,l⟩:=h;have i:∀b:UInt8,b=32\/b=10->b ∉ jZ c.ds:=λb a=>by
  refine wB (by rcases a with rfl|rfl <;> decide) (tE (by rcases a with rfl|rfl <;> decide) λx e=>?_);obtain⟨d,ag,rfl⟩:=Qk.1 e;have n:b ∉ d.kind.data.toList:=by rcases a with rfl|rfl <;> exact nS (l d ag).1 _ (by decide) (by decide)
  have o:b ∉ aM d.many:=by rcases a with rfl|rfl <;> exact ig _ _ (by decide)
  have m:b≠58:=by rcases a with rfl|rfl <;> decide
  simp[fh,n,o,m]
 have k:∀b:UInt8,b=32\/b=10->b ∉ o7 g.cp:=λb a=>by
  refine wB (by rcases a with rfl|rfl <;> decide) (LX _ _ ?_ ?_ ?_) <;> rcases a with rfl|rfl <;> decide
 have f:∀b:UInt8,b=32\/b=10->b ∉ kE g.dv:=λb a=>by
  refine wB (by rcases a with rfl|rfl <;> decide) (tE (by rcases a with rfl|rfl <;> decide) λx e=>?_);obtain⟨d,ag,rfl⟩:=Qk.1 e
  rcases a with rfl|rfl <;> exact ig _ _ (by decide)
 refine⟨by simp[eF],λx e=>?_⟩;simp only[eF,ev,List.cons_append,List.nil_append,List.mem_cons,List.not_mem_nil,or_false] at e
 rcases e with rfl|rfl|rfl|rfl|rfl|rfl|rfl|rfl|rfl
 ·decide
 ·exact⟨nS j 32 (by decide) (by decide),nS j 10 (by decide) (by decide)⟩
 ·exact⟨ig _ _ (by decide),ig _ _ (by decide)⟩
 ·exact⟨ig _ _ (by decide),ig _ _ (by decide)⟩
 ·exact⟨ig _ _ (by decide),ig _ _ (by decide)⟩
 ·exact⟨ig _ _ (by decide),ig _ _ (by decide)⟩
 ·exact⟨i 32 (.inl rfl),i 10 (.inr rfl)⟩
 ·exact⟨k 32 (.inl rfl),k 10 (.inr rfl)⟩
 ·exact⟨f 32 (.inl rfl),f 10 (.inr rfl)⟩
def iZ (ls:List (List aS)):aS:=(ls.map j7).flatten
theorem BF(a b:List (List aS)):iZ (a++b)=iZ a++iZ b:=by simp[iZ]
theorem L0(h:af)(k:Nat):iZ (kI h k)=fD h k:=by induction k <;> grind[kI,BF,fD,iZ,lz]
theorem L1(h:af):iZ (pi h)=iY h:=by
 rw[pi,iY,<- L0];simp[iZ,j8]
theorem L4(hs:List af)(k:Nat):iZ (lC hs k)=ie hs k:=by
 induction k with
 | zero=>rfl
 | succ k ih=>rw[lC,BF,ih,L1,ie]
theorem L5{h:af}(e:kF h):∀k,k<=h.pod.cs.length->∀ws∈kI h k,pj ws:=by
 intro k
 induction k with
 | zero=>intro _ ws a;simp[kI] at a
 | succ k ih=>
  intro b ws a;rw[kI,Qi,Qm] at a
  rcases a with a|rfl
  ·exact ih (by omega) ws a
  ·exact LZ (tx e (by omega)).1
theorem L6{hs:List af}(e:lA hs):∀k,k<=hs.length->∀ws∈lC hs k,pj ws:=by
 intro k
 induction k with
 | zero=>intro _ ws a;simp[lC] at a
 | succ k ih=>
  intro c ws a;rw[lC,Qi] at a
  rcases a with a|a
  ·exact ih (by omega) ws a
  ·have b:=e.2 _ (o9 (ds:=hs) (k:=k) (by omega));rw[pi,List.mem_cons] at a
   rcases a with rfl|a
   ·exact LY b.1
   ·exact L5 b _ (lR) ws a
theorem L7(a:List (List aS))(h:∀ws∈a,pj ws):aH 10 (iZ a)=a.map (λws=>Lib.join ws [32])++[[]]:=by
 induction a with
 | nil=>rfl
 | cons ws r ih=>
  have e:iZ (ws :: r)=Lib.join ws [32]++10 :: iZ r:=by simp[iZ,j7]
  rw[e,qh 10 _ _ (tE (by decide) λx b=>((h ws (by simp)).2 x b).2),ih λy c=>h y (by simp[c])];rfl
theorem L8(a:List (List aS))(h:∀ws∈a,pj ws):(a.map λws=>Lib.join ws [32]).map (aH 32)=a:=by
 rw[List.map_map]
 conv=>rhs;rw[<- List.map_id a]
 refine List.map_congr_left λws b=>?_
 exact uU 32 ws (λx c=>((h ws b).2 x c).1) (h ws b).1
theorem L9{hs:List af}(e:lA hs):gD (dj hs)=some hs:=by
 have b:=L6 e _ (lR);have a:=L7 _ b;rw[L4] at a
 change aH 10 (dj hs)=_ at a
 have c:qM (dj hs)=(lC hs hs.length).map λws=>Lib.join ws [32]:=by
  rw[qM,a,if_pos (by simp),List.dropLast_concat]
 rw[gD,c,L8 _ b,LV LG e _ (lR),Qh]
theorem BG(c:UInt8)(l:List UInt8):(Lib.indexByte l c=-1/\c ∉ l)\/∃i:Nat,Lib.indexByte l c=i/\i<l.length/\l=l.take i++c :: l.drop (i+1)/\c ∉ l.take i:=by
 induction l with
 | nil=>exact .inl ⟨rfl,by simp⟩
 | cons b r ih=>
  by_cases h:b=c
  ·subst h;exact .inr ⟨0,by simp[Lib.indexByte],by simp,by simp,by simp⟩
  ·have f:(b == c)=false:=by simpa using h
   rcases ih with⟨a,d⟩|⟨i,a,d,g,k⟩
   ·exact .inl ⟨by simp[Lib.indexByte,f,a],by simp only[List.mem_cons,not_or];exact⟨λe=>h e.symm,d⟩⟩
   ·refine .inr ⟨i+1,?_,by simp only[Qg];omega,?_,?_⟩
    ·have j:((i:Int) == -1)=false:=by simp
     simp[Lib.indexByte,f,a,j]
    ·simp only[List.take_succ_cons,List.drop_succ_cons,List.cons_append];exact congrArg (b :: ·) g
    ·simp only[List.take_succ_cons,List.mem_cons,not_or];exact⟨λe=>h e.symm,k⟩
theorem BH(r:List UInt8)(i:Nat):(ByteArray.mk r.toArray).extract 0 i=⟨(r.take i).toArray⟩:=by apply ByteArray.ext;simp
theorem BI(r:List UInt8)(i:Nat):(ByteArray.mk r.toArray).extract i r.length=⟨(r.drop i).toArray⟩:=by
 apply ByteArray.ext
 simp
 exact List.take_of_length_le (by simp)
def KSp (h j:Nat):Prop:=j=h\/j=h+1\/j=h+2
structure kJ (W:World) (h:Nat) (c:UInt8) (s:List UInt8):Prop where
 s:Boxed W h 9 (.string ⟨s.toArray⟩)
 p:Boxed W (h+1) 9 (.string ⟨#[c]⟩)
 z:Boxed W (h+2) 3 (0:Int)
theorem kJ.kept(b:kJ W h c s)(a:∀j,KSp h j->W'.heap[j]?=W.heap[j]?):kJ W' h c s:=
 ⟨(a h (.inl rfl)).trans b.s,(a (h+1) (.inr (.inl rfl))).trans b.p,(a (h+2) (.inr (.inr rfl))).trans b.z⟩
theorem kJ.set(b:kJ W h c s)(t:List UInt8):kJ (W.setCell h (.string ⟨t.toArray⟩)) h c t:=
 ⟨b.s.set _,(Below.heap_setCell W h _ (h+1) (by simp)).trans b.p,(Below.heap_setCell W h _ (h+2) (by simp)).trans b.z⟩
theorem BJ(s:ByteArray)(c:UInt8)(w:World):Calls prog 286 #[s,.string ⟨#[c]⟩] w λe w'=>
  e=.returned (.func (.func 322) #[] #[.pointer (some ⟨w.heap.size+1,0,none⟩),.pointer (some ⟨w,0,none⟩),.pointer (some ⟨w.heap.size+2,0,none⟩)])/\kJ w' w c s.data.toList/\Below w w w'/\w'=w.heap.size+3:=by
 have hi:Calls prog 304 #[s,.string ⟨#[c]⟩,(0:Int)] w λe w'=>
  e=.returned (.func (.func 322) #[] #[.pointer (some ⟨w.heap.size+1,0,none⟩),.pointer (some ⟨w,0,none⟩),.pointer (some ⟨w.heap.size+2,0,none⟩)])/\w'=((w.alloc (.cells #[s] 9)).alloc (.cells #[.string ⟨#[c]⟩] 9)).alloc (.cells #[(0:Int)] 3):=by
  go_enter func304,ntmps304
  go_wp2
  go_ret;exact⟨rfl,rfl⟩
 go_enter func286,ntmps286
 go_wp2_with fail
 refine hi.mono ?_;rintro e b ⟨rfl,rfl⟩
 go_wp2
 go_ret;have b1:=((Boxed.new w 9 s).alloc (.cells #[.string ⟨#[c]⟩] 9)).alloc (.cells #[(0:Int)] 3);have b2:=(Boxed.new (w.alloc (.cells #[s] 9)) 9 (.string ⟨#[c]⟩)).alloc (.cells #[(0:Int)] 3);have a:=Boxed.new ((w.alloc (.cells #[s] 9)).alloc (.cells #[.string ⟨#[c]⟩] 9)) 3 (0:Int);simp only[World.size_alloc] at b2 a;exact⟨rfl,⟨b1,b2,a⟩,(((Q0 _ _).alloc (lR) _).alloc (by simp) _).alloc (by simp;omega) _,by simp⟩
def wC (W:World) (h:Nat):Nat:=match W.cell? h with
 | some (.string b)=>b.size
 | _=>0
theorem BK(b:kJ W h c s):wC W h=s.length:=by
 unfold wC;rw[b.s.cell];rfl
def dQ (c:UInt8) (s:List UInt8):List (Array Value):=(aH c s).map λ(x:List UInt8)=>#[Value.string ⟨x.toArray⟩]
theorem Ma(h:aH c r=(aH c s).drop k)(f:r=r.take i++c :: r.drop (i+1))(d:c ∉ r.take i):(∃b:k<(dQ c s).length,(dQ c s)[k]=#[Value.string ⟨(r.take i).toArray⟩])/\k+1<(dQ c s).length/\aH c (r.drop (i+1))=(aH c s).drop (k+1):=by
 have e:aH c r=r.take i :: aH c (r.drop (i+1)):=by
  conv=>lhs;rw[f]
  exact qh c _ _ d
 rw[e] at h;have b:k<(aH c s).length:=by
  refine Nat.lt_of_not_le λa=>?_
  rw[List.drop_eq_nil_of_le a] at h;cases h
 rw[List.drop_eq_getElem_cons b] at h;injection h with h1 h2
 have Ha:k+1<(aH c s).length:=by
  refine Nat.lt_of_not_le λa=>?_
  rw[List.drop_eq_nil_of_le a] at h2;exact nw _ _ h2
 exact⟨⟨by simpa[dQ] using b,by simp only[dQ,List.getElem_map,<- h1]⟩,by simpa[dQ] using Ha,h2⟩
theorem Mb(h:aH c r=(aH c s).drop k)(b:c ∉ r):(∃a:k<(dQ c s).length,(dQ c s)[k]=#[Value.string ⟨r.toArray⟩])/\k+1=(dQ c s).length:=by grind[sj,aH,dQ,Nat.lt_of_not_le,List.drop_eq_nil_of_le,List.drop_eq_getElem_cons,List.drop_eq_nil_iff,Q9]
theorem BL(n:Nat)(H:1<=n)(h:Nat)(c:UInt8)(s:List UInt8)(w:World)(v:kJ w h c s)(G:s.length<=1000000) :
  wy Fence.wide n prog 322 #[(h+1:Nat),h,(h+2:Nat)] (KSp h) (dQ c s) w:=by
 intro l J E W y q z t;have Hj:=v.kept y;have Hz:=Hj.p.cell;refine callsIn_of_wp func322 rfl trivial ?_ rfl;simp only[ntmps322,List.size_toArray,Qg,List.length_nil,Nat.reduceAdd,Nat.reduceSub,Array.replicate_succ,Array.replicate_zero,List.push_toArray,List.append_toArray,List.nil_append,List.cons_append];have o:=qI z;have u:=qI q;have C:=qI Hj;have D:=qI t;clear z q v y t Hj
 gi_wp2_with fail
 gi_loopw [] (λwr=>∃k r,kJ wr h c r/\aH c r=(aH c s).drop k/\r.length<=s.length/\J k wr) λwr=>wC wr h
 case atStart=>exact⟨0,s,C.o,rfl,lR,D.o⟩
 case round=>
  obtain⟨k,r,Ha,Hf,hle,Hl⟩:=hrel;have Hp:=Ha.s.cell;have Hv:=Ha.p.cell;have Ht:=Ha.z.cell;have hf:=Ha.s.frozen;have a:=qI (Tryz.strings_Index_one ⟨r.toArray⟩ c wr);have g:(ByteArray.mk r.toArray).data.toList=r:=by simp
  rw[g] at a;have Hm:=qI Ha;have Hs:=qI (BK Ha)
  rcases BG c r with⟨hi,Ho⟩|⟨i,hi,Hx,p,x⟩
  ·obtain⟨⟨j,Hg⟩,Hi⟩:=Mb Hf Ho;obtain⟨fn,tmps,assign,body,d,f⟩:=o.o k wr j Hl;rw[Hg] at d;rw[hi] at a;clear Ha Hf Ho o u g
   gi_wp2_with fail
   refine⟨trivial,(callsIn_wide.2 a.o).mono ?_⟩;rintro e A ⟨rfl,rfl⟩
   gi_wp2_with fail
   refine f.mono ?_;rintro e m (⟨rfl,Hh,Hk⟩|⟨rfl,Hb⟩)
   ·gi_wp2_with fail
    go_end0
    exact⟨⟨_,rfl⟩,.inl (by rw[<- Hi];exact Hh)⟩
   ·gi_wp2_with fail
    go_end0
    exact⟨⟨_,rfl⟩,.inr Hb⟩
  ·obtain⟨⟨j,Hg⟩,Hq,Hc⟩:=Ma Hf p x;obtain⟨fn,tmps,assign,body,d,f⟩:=o.o k wr j Hl;rw[Hg] at d;rw[hi] at a;have Hy:=BH r i;have Hw:=BI r (i+1);have Hr:=qI Hc;clear Ha Hf p x g Hc Hg hi Hq
   gi_wp2_with fail
   refine⟨trivial,(callsIn_wide.2 a.o).mono ?_⟩;rintro e A ⟨rfl,rfl⟩
   gi_wp2_with fail
   refine f.mono ?_;rintro e m (⟨rfl,Hh,Hk⟩|⟨rfl,Hb⟩)
   ·have He:=Hm.o.kept Hk;have F:=He.s.cell;have t2:=He.p.cell;have t4:=He.s.frozen;have Hn:=qI (He.set (r.drop (i+1)));have B:=qI (u.o (k+1) m _ Hh (Apart.setCell (b:=h) (.inl rfl) m 0 (.string ⟨(r.drop (i+1)).toArray⟩)));clear He Hk Hh Hm f d Hp Hv Ht hf Hl
    gi_wp2_with fail
    go_roundw
    case rel=>exact⟨k+1,r.drop (i+1),Hn.o,Hr.o,by rw[List.length_drop];omega,B.o⟩
    case measure=>rw[BK Hn.o,Hs.o,List.length_drop];omega
   ·gi_wp2_with fail
    refine Qx (results_none rfl _ _ _) rfl ?_;exact⟨⟨_,rfl⟩,.inr Hb⟩
def mI (R:Act->World->Prop):Exit->Act->World->Prop
 | .normal,a,w=>R a w
 | _,_,_=>False
theorem mI.mk{R:Act->World->Prop}{a:Act}(h:R a w):mI R .normal a w:=h
theorem BM(R:Act->World->Prop):¬ LetsOut (mI R):=by
 rintro⟨a,w,h⟩;exact h
section
variable{P:Program}{ops:Array Oper}{Q:Exit->Act->World->Prop}{l n:Nat}
theorem Mc(q:∀(i:Nat) (o:Oper) c,ops[i]?=some o->o.op≠Op.defer c)(p:¬ LetsOut Q):∀(g:List Nat) (a:Act) (w:World),wpOps P ops Q g a w->wpOpsIn (Fence.wide.inRound l) n P ops Q g a w:=by
 intro g
 induction g with
 | nil=>intro a w h;exact h
 | cons i r ih=>
  intro a w h;unfold wpOps at h;unfold wpOpsIn;cases ho:ops[i]? with
  | none=>rw[ho] at h;exact ih a w h
  | some o=>
   rw[ho] at h;dsimp only at h ⊢
   split at h
   ·rename_i m
    rw[if_pos m]
    rcases h with h|h
    ·refine⟨λ_ _=>trivial,?_⟩;rw[Oper.semAt_eq _ _ _ λc=>q i o c ho];unfold Oper.wp at h;generalize (execOp a.eval o).run P w=k at h ⊢;cases k with
     | ok nx w'=>
      cases nx with
      | value v=>exact ih _ _ h
      | skip=>exact ih _ _ h
      | defer d=>exact ih _ _ h
      | enter f args=>
       refine⟨(λe=>by cases e),CallsIn.inRound l (callsIn_wide.2 (Calls.mono h ?_))⟩;rintro e b j;cases e with
       | returned v=>exact ih _ _ j
       | panicked ch=>exact j
       | outgrown=>exact j
      | row rn args=>
       exact⟨(λe=>by cases e),λc cs _=>by
        obtain⟨v,b,s,hs⟩:=h c cs;exact⟨v,b,ih _ _ s,stepsIn_wide.2 hs⟩⟩
      | _=>exact h.elim
     | halt ht w'=>
      cases ht with
      | panic v=>exact h
      | _=>exact h.elim
    ·exact absurd h.2 p
   ·rename_i m
    rw[if_neg m];exact⟨λ_ _=>trivial,ih _ _ h⟩
theorem BN{S:World->Prop}{id:Nat}{a:Act}{w:World}(e:P.follows .mixedOrders=true)(d:∀(i:Nat) (o:Oper) c,ops[i]?=some o->o.op≠Op.defer c)(b:¬ LetsOut Q)
  (h:wpAnyH P .any ops Q S ops.size (Array.replicate ops.size false) a w.drew):(Code.region id ops true).wpIn (Fence.wide.inRound l) n P Q a w:=
 wpIn_region_draw λt=>by
  simp only[Region.schedule,e,Bool.true_or,if_true];exact Mc d b _ _ _ (wpAny_sound ops.size t _ a _ (wpAny_of_held _ _ _ _ h))
theorem BO{F:Fence}{c:Code}{R:Act->World->Prop}{a:Act}{w:World}(h:Code.wpIn F n P c (mI R) a w)(b:∀a w,R a w->Q .normal a w):Code.wpIn F n P c Q a w:=
 wpIn_mono h λe a w h=>by
  cases e with
  | normal=>exact b _ _ h
  | _=>exact h.elim
end
theorem bD.slice{v:Value}(h:bD w v xs):∃a c,v=.slice a xs.length c:=by
 obtain⟨a,c,rfl,_⟩:=h;exact⟨a,c,rfl⟩
theorem Md(h:16<xs.length):dP xs=2:=by unfold dP;rw[if_pos h]
theorem Me(h:¬ 16<xs.length):dP xs=bh (iD xs) xs.length:=by unfold dP;rw[if_neg h]
def nT (xs:List Int) (k:Nat):Int:=if k=0 then -1 else xs.getD (k - 1) 0
theorem Mf(a:List Int)(k:Nat):nT a (k+1)=a.getD k 0:=rfl
theorem Mg(h:bh (iD xs) k=0)(d:k<xs.length):iD xs k=if xs.getD k 0<=nT xs k\/16<=xs.getD k 0 then 3 else 0:=by
 unfold iD
 by_cases c:k=0
 ·subst c;rw[show nT xs 0=-1 from rfl]
  by_cases b:xs.getD 0 0<0\/15<xs.getD 0 0
  ·rw[if_pos (by omega),if_pos (by omega)]
  ·rw[if_neg (by omega),if_neg (by omega)]
 ·have e:nT xs k=xs.getD (k - 1) 0:=by unfold nT;rw[if_neg c]
  rw[e];have a:=fA h (k - 1) (by omega);unfold iD at a
  split at a
  ·cases a
  rename_i f
  by_cases b:xs.getD k 0<=xs.getD (k - 1) 0\/16<=xs.getD k 0
  ·rw[if_pos b,if_pos (by omega)]
  ·rw[if_neg b,if_neg (by omega)]
theorem Mh(v:Value)(a:List Int)(w:World)(h:bD w v a):Calls prog 225 #[v] w λe w'=>e=.returned (aJ (dP a:Nat))/\w'=w:=by
 obtain⟨F,c,rfl,y,z⟩:=h;have t:=qI z;clear z;have C:=qI y;unfold maxLen at y
 by_cases u:16<a.length
 ·have D:=Md u;have ag:decide ((16:Int)<(a.length:Int))=true:=Qc (by omega)
  go_enter func225,ntmps225
  go_wp2
  go_ret;exact⟨by rw[D];rfl,rfl⟩
 ·rw[Me u];have H:a.length<=16:=by omega
  have ag:decide ((16:Int)<(a.length:Int))=false:=Q7 (by omega)
  go_enter func225,ntmps225
  go_wp2_with fail
  go_loop [3,12] (λla i=>∃k:Nat,k<=a.length/\i=.int .i64 k/\la=.int .i64 (nT a k)/\Hu (bh (iD a) k=0)) (λ_ i=>a.length - (intOf i).toNat)
  case atStart=>exact⟨0,by omega,rfl,rfl,rfl⟩
  case round=>
   obtain⟨k,I,rfl,rfl,g⟩:=hrel
   by_cases d:k<a.length
   ·obtain⟨b,o,rfl,G,r⟩:=t.o (by omega);have E:=r k d;have l:=qI (lq (f:=iD a) (n:=a.length) g.o · d);have s:=qI (ml (f:=iD a) (k:=k) g.o);have j:=qI (Mg g.o d);have B:=qI (Mf a k);clear r g t C;generalize a.getD k 0=x at *;generalize nT a k=L at *
    by_cases m:x<=L
    ·have p:iD a k=3:=by rw[j.o,if_pos (.inl m)]
     have Hf:decide (x<=L)=true:=Qc m;have Ha:=qI (l.o (by omega))
     go_wp2
     go_ret;exact⟨by rw[Ha.o,p];rfl,rfl⟩
    ·have Hf:decide (x<=L)=false:=Q7 m
     by_cases q:16<=x
     ·have p:iD a k=3:=by rw[j.o,if_pos (.inr q)]
      have Hb:decide (16<=x)=true:=Qc q;have Ha:=qI (l.o (by omega))
      go_wp2
      go_ret;exact⟨by rw[Ha.o,p];rfl,rfl⟩
     ·have A:iD a k=0:=by rw[j.o,if_neg (by omega)]
      have Hb:decide (16<=x)=false:=Q7 q;have Hc:=qI (s.o A);clear l s j
      go_wp2_with fail
      go_round
      case rel=>exact⟨k+1,by omega,by go_num,by rw[B.o],Hc⟩
      case measure=>simp[intOf];omega
   ·have He:k=a.length:=by omega
    subst He
    go_wp2
    go_ret;exact⟨by rw[g.o];rfl,rfl⟩
theorem pd.at{b:Nat}{gs:List aR}{dv:Nat->Value}(h:pd w b o gs dv)(a:k<gs.length) :
  w.cell? ⟨b,o+k*2,none⟩=some (.int .u64 (aD gs k).cp)/\w.cell? ⟨b,o+k*2+1,none⟩=some (dv k):=⟨(h.2 k a).1.1,(h.2 k a).1.2.1⟩
theorem Mi{h:af}(e:bu h.pod≠0):fU h b=bu h.pod:=by unfold fU;rw[if_pos e]
theorem BP{h:af}(e:bu h.pod=0)(a:b=true\/h.gs.length≠h.pod.cs.length):fU h b=3:=by unfold fU;rw[if_neg (by omega),if_pos a]
theorem Mj{h:af}{b:Bool}(e:bu h.pod=0)(a:¬ (b=true\/h.gs.length≠h.pod.cs.length)):fU h b=bh (λk=>dP (aD h.gs k).dv) h.gs.length:=by unfold fU;rw[if_neg (by omega),if_neg a];rfl
theorem aQ.sl{v:Value}(h:aQ w v cs):∃a c,v=.slice a cs.length c:=by
 obtain⟨a,c,rfl,_⟩:=h;exact⟨a,c,rfl⟩
theorem b7.sl{v:Value}{cs:List aR}(h:b7 w v cs):∃a c,v=.slice a cs.length c:=by
 obtain⟨a,c,rfl,_⟩:=h;exact⟨a,c,rfl⟩
theorem Mk(h:af)(cv l:Value)(a:ByteArray)(w:World)(x:aQ w cv h.pod.cs)(B:b7 w l h.gs) :
  Calls prog 174 #[ww h cv l,a] w λe w'=>e=.returned (aJ (fU h (ef h.pod.nm a):Nat))/\Below w w w':=by
 unfold ww;have Ha:=qI ((Q0 w w).alloc (lR) (.cells #[h.pod.nm,(h.pod.pr:Int),cv,l] 101));have Hh:=x.below Ha.o;have Hj:=B.below Ha.o;have Hf:=qI (A6 h.pod cv _ Hh);have Hl:=qI Hh;have Hk:=qI Hj;obtain⟨z,cc,rfl⟩:=x.sl;obtain⟨A,gc,rfl⟩:=B.sl;clear x B Hh Hj;unfold cz at Hf
 by_cases m:bu h.pod=0
 ·have H:aJ ((bu h.pod:Nat):Int)=.nilIface:=by rw[m];rfl
  go_enter func174,ntmps174
  go_wp2_with fail
  refine Hf.o.mono ?_;rintro e q ⟨rfl,c⟩;rw[H];have He:=qI (Ha.o.trans (c.mono Ha.o.size));have K:=Hk.o.below c;have c0:cl q w (0) h.pod.nm:=(c.cell (p:=w.heap.size) (by simp)).trans (by simp);have c2:cl q w (2) (.slice z h.pod.cs.length cc):=(c.cell (p:=⟨w,2,none⟩) (by simp)).trans (by simp);have c3:cl q w (3) (.slice A h.gs.length gc):=(c.cell (p:=⟨w,3,none⟩) (by simp)).trans (by simp);clear c Hf Hl Hk
  rcases two (ef h.pod.nm a) with hle|hle
  ·have g:=qI (BP (b:=ef h.pod.nm a) m (.inl hle));unfold ef at hle
   go_wp2
   go_ret;exact⟨by rw[g.o];rfl,He.o⟩
  ·by_cases D:h.gs.length=h.pod.cs.length
   ·have g:=qI (Mj (b:=ef h.pod.nm a) m (by rw[hle];simp[D]));unfold ef at hle;have Hq:(h.gs.length:Int)=(h.pod.cs.length:Int):=by omega
    obtain⟨_,_,Hm,E,G⟩:=K;cases Hm;have I:=qI G;have N:=qI E;clear G;unfold maxLen at E;generalize h.gs=gs at *
    go_wp2
    go_loopw [34] (λi wr=>∃k:Nat,k<=gs.length/\i=.int .i64 k/\Below w w wr/\Below q q wr/\Hu (bh (λk=>dP (aD gs k).dv) k=0)) (λi _=>gs.length - (intOf i).toNat)
    case atStart=>exact⟨0,by omega,rfl,He.o,Q0 _ _,rfl⟩
    case round=>
     obtain⟨k,O,rfl,s,Hb,u⟩:=hrel
     by_cases j:k<gs.length
     ·obtain⟨b,o,dv,rfl,Hc⟩:=I.o (by omega);have Hc:=Hc.below Hb;obtain⟨P,M⟩:=Hc.at j;have C:=(Hc.2 k j).2;have v:Hu (dP (aD gs k).dv≠0->bh (λk=>dP (aD gs k).dv) gs.length=dP (aD gs k).dv):=qI λh=>lq (f:=λk=>dP (aD gs k).dv) (n:=gs.length) u.o h j
      have y:Hu (dP (aD gs k).dv=0->bh (λk=>dP (aD gs k).dv) (k+1)=0):=qI λh=>ml (f:=λk=>dP (aD gs k).dv) (k:=k) u.o h
      have Ho:=qI ((Q0 wr wr).alloc (lR) (.cells #[.int .u64 (aD gs k).cp,dv k] 123));have Hg:=qI (s.alloc s.size (.cells #[.int .u64 (aD gs k).cp,dv k] 123));have Hn:=qI (Hb.alloc Hb.size (.cells #[.int .u64 (aD gs k).cp,dv k] 123));have Hi:=qI (Mh (dv k) _ _ (C.below Ho.o));obtain⟨J,L,Hp⟩:=C.slice;clear Hc C u s Hb;generalize (aD gs k).cp=cp at *;generalize dP (aD gs k).dv=F at *;generalize (aD gs k).dv.length=dn at *;generalize dv k=d at *;subst Hp
      go_wp2_with fail
      refine Hi.o.mono ?_;rintro e Q ⟨rfl,rfl⟩
      by_cases r:F=0
      ·have Hs:=qI (y.o r);rw[show aJ (F:Int)=.nilIface by rw[r];rfl];clear v y r Hi
       go_wp2
       go_roundw
       case rel=>exact⟨k+1,by omega,by go_num,Hg.o,Hn.o,Hs⟩
       case measure=>simp[intOf];omega
      ·have Ht:=qI (v.o r);have t:=qI (eP r);rw[t.o];clear v y r Hi
       go_wp2
       go_ret;exact⟨by rw[g.o,Ht.o,t.o];rfl,Hg.o⟩
     ·have Hr:k=gs.length:=by omega
      subst Hr;have Hg:=qI s;clear s Hb
      go_wp2
      go_ret;exact⟨by rw[g.o,u.o];rfl,Hg.o⟩
   ·have g:=qI (BP (b:=ef h.pod.nm a) m (.inr D));unfold ef at hle;have Hq:((h.gs.length:Int) == (h.pod.cs.length:Int))=false:=by simp;omega
    go_wp2
    go_ret;exact⟨by rw[g.o];rfl,He.o⟩
 ·have g:=qI (Mi (b:=ef h.pod.nm a) m);have t:=qI (eP m)
  go_enter func174,ntmps174
  go_wp2_with fail
  refine Hf.o.mono ?_;rintro e q ⟨rfl,c⟩;have He:=qI (Ha.o.trans (c.mono Ha.o.size));rw[t.o];clear c
  go_wp2
  go_ret;exact⟨by rw[g.o,t.o];rfl,He.o⟩
theorem mH.at{b:Nat}{hs:List af}(h:mH w b o hs cv gvv)(a:k<hs.length) :
  w.cell? ⟨b,o+k*4,none⟩=some (.string (ag hs k).pod.nm)/\w.cell? ⟨b,o+k*4+1,none⟩=some (.int .i64 (ag hs k).pod.pr)/\w.cell? ⟨b,o+k*4+2,none⟩=some (cv k)/\w.cell? ⟨b,o+k*4+3,none⟩=some (gvv k):=(h.2 k a).1
def pk (hs:List af) (k:Nat):ByteArray:=if k=0 then ByteArray.empty else (ag hs (k - 1)).pod.nm
theorem Ml(hs:List af)(k:Nat):pk hs (k+1)=(ag hs k).pod.nm:=rfl
theorem Mm{s:ByteArray}(h:bR s=true):ef s ByteArray.empty=false:=by
 have b:=(kG h).1;rw[ef,Qs,Qs];cases hs:s.data.toList with
 | nil=>rw[hs] at b;simp at b
 | cons a r=>rfl
theorem Mn{h:af}(a:bR h.pod.nm=true->b=false):fU h b=fU h false:=by grind[fU,bu,qD]
theorem Mo(hs:List af)(k:Nat):fU (ag hs k) (ef (ag hs k).pod.nm (pk hs k))=mF hs k:=by grind[mF,qJ,pk,fU,ag,Mn,Mm]
theorem Mp{hs:List af}(h:12<hs.length):bw hs=2:=by unfold bw;rw[if_pos h]
theorem Mq{hs:List af}(h:¬ 12<hs.length):bw hs=bh (mF hs) hs.length:=by unfold bw;rw[if_neg h]
theorem Mr(v:Value)(hs:List af)(w:World)(h:aY w v hs):Calls prog 136 #[v] w λe w'=>e=.returned (aJ (bw hs:Nat))/\Below w w w':=by
 obtain⟨I,c,rfl,x,y⟩:=h;have A:=qI y;clear y;have J:=qI x;unfold maxLen at x
 by_cases t:12<hs.length
 ·have B:=Mp t;have Hk:decide ((12:Int)<(hs.length:Int))=true:=Qc (by omega)
  go_enter func136,ntmps136
  go_wp2
  go_ret;exact⟨by rw[B];rfl,Q0 _ _⟩
 ·rw[Mq t];have K:hs.length<=12:=by omega
  have Hk:decide ((12:Int)<(hs.length:Int))=false:=Q7 (by omega)
  go_enter func136,ntmps136
  go_wp2
  go_loopw [3,13] (λla i wr=>∃k:Nat,k<=hs.length/\i=.int .i64 k/\la=.string (pk hs k)/\Below w w wr/\Hu (bh (mF hs) k=0)) (λ_ i _=>hs.length - (intOf i).toNat)
  case atStart=>exact⟨0,by omega,rfl,rfl,Q0 _ _,rfl⟩
  case round=>
   obtain⟨k,M,rfl,rfl,j,l⟩:=hrel
   by_cases d:k<hs.length
   ·obtain⟨b,o,cv,a,rfl,Hb⟩:=A.o (by omega);have Hb:=Hb.below j;obtain⟨N,H,O,G⟩:=Hb.at d;obtain⟨_,s,m⟩:=Hb.2 k d;have q:=qI (lq (f:=mF hs) (n:=hs.length) l.o · d);have r:=qI (ml (f:=mF hs) (k:=k) l.o);have Hg:=qI ((Q0 wr wr).alloc (lR) (.cells #[(ag hs k).pod.nm,((ag hs k).pod.pr:Int),cv k,a k] 101));have Hc:=qI (j.alloc j.size (.cells #[(ag hs k).pod.nm,((ag hs k).pod.pr:Int),cv k,a k] 101));have Ha:=qI (Mk (ag hs k) (cv k) (a k) (pk hs k) _ (s.below Hg.o) (m.below Hg.o));rw[Mo hs k] at Ha;unfold ww at Ha;have z:=qI (Ml hs k);obtain⟨ca,cc,Hh⟩:=s.sl;obtain⟨ga,gc,Hj⟩:=m.sl;clear Hb s m l j;generalize pk hs k=L at *;generalize mF hs k=F at *;generalize (ag hs k).pod.nm=nm at *;generalize (ag hs k).pod.pr=pr at *;generalize (ag hs k).pod.cs.length=cl at *;generalize (ag hs k).gs.length=gl at *;generalize cv k=C at *;generalize a k=D at *;subst Hh Hj
    go_wp2_with fail
    refine Ha.o.mono ?_;rintro e E ⟨rfl,He⟩;have Hf:=qI (Hc.o.trans (He.mono Hc.o.size));have c0:E.cell? wr=some (.string nm):=(He.cell (p:=wr.heap.size) (by simp)).trans (by simp);clear He
    by_cases g:F=0
    ·have Hi:=qI (r.o g);rw[show aJ (F:Int)=.nilIface by rw[g];rfl];clear q r g Ha
     go_wp2
     go_roundw
     case rel=>exact⟨k+1,by omega,by go_num,by rw[z.o],Hf.o,Hi⟩
     case measure=>simp[intOf];omega
    ·have Hl:=qI (q.o g);have u:=qI (eP g);rw[u.o];clear q r g Ha
     go_wp2
     go_ret;exact⟨by rw[Hl.o,u.o];rfl,Hf.o⟩
   ·have Hm:k=hs.length:=by omega
    subst Hm;have Hc:=qI j;clear j
    go_wp2
    go_ret;exact⟨by rw[l.o];rfl,Hc.o⟩
def dm (s:List UInt8):List (List UInt8):=(aH 10 s).dropLast.map (·++[10])++(if (aH 10 s).getLast?=some [] then [] else [(aH 10 s).getLastD []])
theorem BQ:dm []=[]:=rfl
theorem Ms{a:List UInt8}(h:(10:UInt8) ∉ a):dm (a++10 :: r)=(a++[10]) :: dm r:=by
 have b:=nw 10 r;unfold dm;rw[qh 10 a r h];cases hs:aH 10 r with
 | nil=>exact absurd hs b
 | cons x t=>simp
theorem Mt(h:r=r.take i++10 :: r.drop (i+1))(hi:i<r.length):r.take (i+1)=r.take i++[10]:=by grind
theorem Mu(h:(10:UInt8) ∉ r)(a:r≠[]):dm r=[r]:=by
 unfold dm;rw[sj 10 r h]
 simp[a]
def gE (s:List UInt8):List (Array Value):=(dm s).map λ(x:List UInt8)=>#[Value.string ⟨x.toArray⟩]
theorem BR{α:Type}{l:List α}{x:α}{t:List α}(h:x :: t=l.drop k):∃a:k<l.length,l[k]=x/\t=l.drop (k+1):=by
 have a:k<l.length:=by
  refine Nat.lt_of_not_le λb=>?_
  rw[List.drop_eq_nil_of_le b] at h;cases h
 rw[List.drop_eq_getElem_cons a] at h;injection h with h1 h2
 exact⟨a,h1.symm,h2⟩
theorem BS{x:List UInt8}(a:k<(dm s).length)(h:(dm s)[k]=x):∃a:k<(gE s).length,(gE s)[k]=#[Value.string ⟨x.toArray⟩]:=⟨by simpa[gE] using a,by simp only[gE,List.getElem_map,h]⟩
theorem wD(s:List UInt8):(gE s).length=(dm s).length:=by simp[gE]
theorem Mv(s:ByteArray)(w:World):Calls prog 189 #[s] w λe w'=>
  e=.returned (.func (.func 243) #[] #[.pointer (some ⟨w,0,none⟩)])/\w'=w.alloc (.cells #[s] 9):=by
 go_enter func189,ntmps189
 go_wp2
 go_ret;exact⟨rfl,rfl⟩
theorem Apart.drew(K:Nat->Prop)(W:World):Apart K W W.drew:=⟨rfl,rfl,rfl,lR,λ_ _ _=>rfl⟩
def wE (W:World) (h:Nat):Nat:=match W.cell? h with
 | some (.string b)=>b.size
 | _=>0
theorem wF(b:Boxed W h 9 (.string ⟨s.toArray⟩)):wE W h=s.length:=by
 unfold wE;rw[b.cell];rfl
theorem Mw(n:Nat)(O:1<=n)(h:Nat)(s:List UInt8)(w:World)(A:Boxed w h 9 (.string ⟨s.toArray⟩))(N:s.length<=1000000) :
  wy Fence.wide n prog 243 #[h] (λj=>j=h) (gE s) w:=by
 intro l J L W C y D z;have Hp:Boxed W h 9 (.string ⟨s.toArray⟩):=(C h rfl).trans A;refine callsIn_of_wp func243 rfl trivial ?_ rfl;simp only[ntmps243,List.size_toArray,Qg,List.length_nil,Nat.reduceAdd,Nat.reduceSub,Array.replicate_succ,Array.replicate_zero,List.push_toArray,List.append_toArray,List.nil_append,List.cons_append];have m:=qI D;have f:=qI y;have H:=qI Hp;have I:=qI z;clear D y A C z Hp
 gi_wp2_with fail
 gi_loopw [] (λwr=>∃k r,k<=(dm s).length/\Boxed wr h 9 (.string ⟨r.toArray⟩)/\dm r=(dm s).drop k/\r.length<=s.length/\J k wr) λwr=>wE wr h
 case atStart=>exact⟨0,s,Nat.zero_le _,H.o,rfl,lR,I.o⟩
 case round=>
  obtain⟨k,r,Hw,Hc,Ha,hle,Hg⟩:=hrel;have Hs:=Hc.cell;have hf:=Hc.frozen;have Hi:=qI Hc;have Ho:=qI (wF Hc);have Hy:(ByteArray.mk r.toArray).size=r.length:=rfl
  by_cases a:r=[]
  ·subst a;have Hv:k=(gE s).length:=by
    rw[BQ] at Ha
    have:=List.drop_eq_nil_iff.1 Ha.symm
    rw[wD];omega
   clear Hc Ha m f Hw
   gi_wp2_with fail
   go_end0
   exact⟨⟨_,rfl⟩,.inl (by rw[<- Hv];exact Hg)⟩
  ·have Hm:0<r.length:=List.length_pos_iff.2 a;have c:=qI (Tryz.strings_IndexByte ⟨r.toArray⟩ 10 wr);have v:(ByteArray.mk r.toArray).data.toList=r:=by simp
   rw[v,show ((10:Int).toNat.toUInt8)=10 from rfl] at c;clear Hc v
   rcases BG 10 r with⟨hi,Hr⟩|⟨i,hi,Hq,p,B⟩
   ·rw[Mu Hr a] at Ha;obtain⟨q,d,g⟩:=BR Ha;obtain⟨Hk,Hf⟩:=BS q d;have G:=qI (f.o k wr _ Hg (Apart.setCell (K:=λj=>j=h) rfl wr 0 (.string ⟨#[]⟩)));have Hj:=m.o k (wr.setCell h (.string ⟨#[]⟩)) Hk G.o;obtain⟨fn,tmps,assign,body,b,t⟩:=Hj;rw[Hf] at b;rw[hi] at c;have Hh:=qI (Hi.o.set (.string ⟨([]:List UInt8).toArray⟩));clear Hf Hr d Ha
    gi_wp2_with fail
    refine⟨trivial,(callsIn_wide.2 c.o).mono ?_⟩;rintro e x ⟨rfl,rfl⟩
    gi_wp2_with fail
    refine t.mono ?_;rintro e u (⟨rfl,Hn,Hl⟩|⟨rfl,Hb⟩)
    ·have He:Boxed u h 9 (.string ⟨([]:List UInt8).toArray⟩):=(Hl h rfl).trans Hh.o;have o:=qI g
     gi_wp2_with fail
     go_roundw
     case rel=>exact⟨k+1,[],by omega,He,by rw[BQ];exact o.o,Nat.zero_le _,Hn⟩
     case measure=>rw[wF He,Ho.o];exact Hm
    ·gi_wp2_with fail
     refine Qx (results_none rfl _ _ _) rfl ?_;exact⟨⟨_,rfl⟩,.inr Hb⟩
   ·have F:=qI (Mt p Hq);have P:i+1<=r.length:=Hq;have hcut:dm r=r.take (i+1) :: dm (r.drop (i+1)):=by
     rw[F.o]
     conv=>lhs;rw[p]
     exact Ms B
    rw[hcut] at Ha;obtain⟨q,d,g⟩:=BR Ha;obtain⟨Hk,Hf⟩:=BS q d;have E:=qI (show Apart (λj=>j=h) wr (wr.setCell h (.string ⟨(r.drop (i+1)).toArray⟩)).drew from (Apart.setCell (K:=λj=>j=h) rfl wr 0 _).trans (Apart.drew _ _));have Hh:=qI (show Boxed (wr.setCell h (.string ⟨(r.drop (i+1)).toArray⟩)).drew h 9 (.string ⟨(r.drop (i+1)).toArray⟩) from Hi.o.set _);have Hj:=m.o k _ Hk (f.o k wr _ Hg E.o);obtain⟨fn,tmps,assign,body,b,t⟩:=Hj;rw[Hf] at b;have Ht:=qI b;have o:=qI g;rw[hi] at c;clear b Hf d Ha hcut g m f;have Hz:=BH r (i+1);have Hx:=BI r (i+1);clear p B hi
    gi_wp2_with fail
    refine⟨trivial,(callsIn_wide.2 c.o).mono ?_⟩;rintro e x ⟨rfl,rfl⟩
    gi_wp2_with fail
    gi_region
    generalize hW2:(x.setCell h (.string ⟨(r.drop (i+1)).toArray⟩)).drew=M at *;have b:=Ht.o;clear Hs hf c Hi Hg hW2
    gi_wp2_with fail
    refine t.mono ?_;rintro e u (⟨rfl,Hn,Hl⟩|⟨rfl,Hb⟩)
    ·have He:Boxed u h 9 (.string ⟨(r.drop (i+1)).toArray⟩):=(Hl h rfl).trans Hh.o
     gi_wp2_with fail
     go_roundw
     case rel=>exact⟨k+1,r.drop (i+1),by omega,He,o.o,by rw[List.length_drop];omega,Hn⟩
     case measure=>rw[wF He,Ho.o,List.length_drop];omega
    ·gi_wp2_with fail
     refine Qx (results_none rfl _ _ _) rfl ?_;exact⟨⟨_,rfl⟩,.inr Hb⟩
theorem Mx(W:World)(b j:Nat)(v:Value):W.grownBy (W.setCell ⟨b,j,none⟩ v) (some b):=
 ⟨rfl,rfl,rfl,by simp,λk d a=>by
  have c:b≠k:=λe=>a (by rw[e])
  simp[World.setCell,Array.getElem?_modify,c]⟩
def fE (B:Nat) (w w':World):Prop:=w.grownBy w' (some B)/\w'=w.heap.size
theorem fE.refl(B:Nat)(w:World):fE B w w:=⟨⟨rfl,rfl,rfl,lR,λ_ _ _=>rfl⟩,rfl⟩
theorem fE.set{B:Nat}(h:fE B w w')(j:Nat)(v:Value):fE B w (w'.setCell ⟨B,j,none⟩ v):=by
 obtain⟨a,hs⟩:=h;have b:=Mx w' B j v;refine⟨⟨b.os.trans a.os,b.tape.trans a.tape,b.output.trans a.output,Q5 a.size b.size,λk d c=>(b.block k (by omega) c).trans (a.block k d c)⟩,?_⟩;rw[<- hs]
 simp
theorem j9{B:Nat}{a:Array Value}{t:TypeId}(h:w.heap[B]?=some (.cells a t (0,0)))(j:Nat)(v:Value):(w.setCell ⟨B,j,none⟩ v).heap[B]?=some (.cells (a.setIfInBounds j v) t (0,0)):=by
 obtain⟨Ha,b⟩:=gS h
 show (w.heap.modify B _)[B]?=_
 rw[Array.getElem?_eq_getElem (by rw[Array.size_modify];exact Ha),Array.getElem_modify_self,b];rfl
def aU (w:World) (B:Nat) (n k:Sd) (v:Value) (l:Int) (d:Bool):Prop:=w.heap[B]?=some (.cells #[n.ft,n.fb,n.dt,n.db,k.ft,k.fb,k.dt,k.db,v,l,d] 96 (0,0))
section
variable{w:World}{B:Nat}{n k:Sd}{v:Value}{l:Int}{d:Bool}
theorem aU.lt(h:aU w B n k v l d):B<w:=(gS h).1
theorem aU.now(h:aU w B n k v l d):w.cell? B=some (.bool n.ft)/\w.cell? ⟨B,1,none⟩=some (.string n.fb)/\w.cell? ⟨B,2,none⟩=some (.bool n.dt)/\w.cell? ⟨B,3,none⟩=some (.string n.db):=by
 refine⟨?_,?_,?_,?_⟩ <;> simp[World.cell?,show w.heap[B]?=_ from h]
theorem aU.kept(h:aU w B n k v l d):w.cell? ⟨B,4,none⟩=some (.bool k.ft)/\w.cell? ⟨B,5,none⟩=some (.string k.fb)/\w.cell? ⟨B,6,none⟩=some (.bool k.dt)/\w.cell? ⟨B,7,none⟩=some (.string k.db):=by
 refine⟨?_,?_,?_,?_⟩ <;> simp[World.cell?,show w.heap[B]?=_ from h]
theorem aU.rest(h:aU w B n k v l d):w.cell? ⟨B,8,none⟩=some v/\w.cell? ⟨B,9,none⟩=some (.int .i64 l)/\w.cell? ⟨B,10,none⟩=some (.bool d):=by
 refine⟨?_,?_,?_⟩ <;> simp[World.cell?,show w.heap[B]?=_ from h]
theorem aU.frozen(h:aU w B n k v l d)(j:Nat):w.frozen? ⟨B,j,none⟩=false:=by simp[World.frozen?,show w.heap[B]?=_ from h]
theorem aU.set8(h:aU w B n k v l d)(a:Value):aU (w.setCell ⟨B,8,none⟩ a) B n k a l d:=j9 h 8 a
theorem aU.set9(h:aU w B n k v l d)(a:Int):aU (w.setCell ⟨B,9,none⟩ a) B n k v a d:=j9 h 9 _
theorem aU.set10(h:aU w B n k v l d)(a:Bool):aU (w.setCell ⟨B,10,none⟩ a) B n k v l a:=j9 h 10 _
def putS (w:World) (B i:Nat) (s:Sd):World:=(((w.setCell ⟨B,i,none⟩ s.ft).setCell ⟨B,i+1,none⟩ s.fb).setCell ⟨B,i+2,none⟩ s.dt).setCell ⟨B,i+3,none⟩ s.db
theorem aU.setNow(h:aU w B n k v l d)(s:Sd):aU (putS w B 0 s) B s k v l d:=j9 (j9 (j9 (j9 h 0 _) 1 _) 2 _) 3 _
theorem aU.setKept(h:aU w B n k v l d)(s:Sd):aU (putS w B 4 s) B n s v l d:=j9 (j9 (j9 (j9 h 4 _) 5 _) 6 _) 7 _
theorem fE.putS{w w':World}{B:Nat}(h:fE B w w')(i:Nat)(s:Sd):fE B w (putS w' B i s):=(((h.set i _).set (i+1) _).set (i+2) _).set (i+3) _
theorem aU.block{w':World}(h:aU w B n k v l d)(a:w'.heap[B]?=w.heap[B]?):aU w' B n k v l d:=a.trans h
end
def cu (l:Int) (d:Bool):Nat:=if d=true\/l=0 then 11 else 0
def bx (l:Int) (d:Bool):Int:=if d=true\/l=0 then l else if 0<l then l - 1 else l
def fV (l:Int) (d:Bool):Bool:=decide (d=true\/l=0)
theorem qO(B:Nat)(n k:Sd)(v:Value)(l:Int)(d:Bool)(w:World)(h:aU w B n k v l d)(p:-9223372036854775808<=l/\l<=9223372036854775807):Calls prog 114 #[B] w λe w'=>e=.returned (aJ ((cu l d:Nat):Int))/\aU w' B n k v (bx l d) (fV l d)/\fE B w w':=by
 obtain⟨_,q,c10⟩:=h.rest;have o:=h.frozen 9;have f10:=h.frozen 10
 by_cases a:l=0
 ·subst a;obtain⟨_,m,i⟩:=(h.set10 true).rest;have b:=qI (h.set10 true);have c:=qI ((fE.refl B w).set 10 true);clear h
  go_enter func114,ntmps114
  go_wp2
  go_ret;exact⟨by simp[cu,aJ],by simpa[bx,fV] using b.o,c.o⟩
 ·cases d with
  | true=>
   have b:=qI h;have j:(l == 0)=false:=by simp[a]
   clear h
   go_enter func114,ntmps114
   go_wp2
   go_ret;exact⟨by simp[cu,aJ],by simpa[bx,fV] using b.o,fE.refl _ _⟩
  | false=>
   have j:(l == 0)=false:=by simp[a]
   by_cases f:0<l
   ·have r:wrap64 (l - 1)=l - 1:=by unfold wrap64;omega
    have b:=qI (h.set9 (l - 1));have c:=qI ((fE.refl B w).set 9 (l - 1:Int));clear h
    go_enter func114,ntmps114
    go_wp2
    go_ret;exact⟨by simp[cu,aJ,a],by simpa[bx,fV,a,f] using b.o,c.o⟩
   ·have b:=qI h;have Ha:l<=0:=by omega
    have g:Hu (bx l false=l):=by unfold Hu bx;rw[if_neg (by simp[a]),if_neg f]
    clear h
    go_enter func114,ntmps114
    go_wp2
    go_ret;exact⟨by simp[cu,aJ,a],by rw[g.o];simpa[fV,a] using b.o,fE.refl _ _⟩
def wG (n:Sd) (d:Bool):Value:=if d=true then .tuple #[.string ⟨#[]⟩,.iface 108 (11:Int)] else if n.ft=true then .tuple #[n.fb,.nilIface] else .tuple #[.string ⟨#[]⟩,.iface 108 (6:Int)]
theorem My(B:Nat)(n k:Sd)(v:Value)(l:Int)(d:Bool)(w:World)(h:aU w B n k v l d):Calls prog 115 #[B] w λe w'=>e=.returned (wG n d)/\w'=w:=by
 obtain⟨_,a,c10⟩:=h.rest;obtain⟨c0,c1,_,_⟩:=h.now;obtain⟨ft,fb,dt,db⟩:=n;dsimp only at c0 c1;unfold wG;clear h;cases d with
 | true=>
  go_enter func115,ntmps115
  go_wp2
  go_ret2;exact⟨rfl,rfl⟩
 | false=>
  cases ft with
  | true=>
   go_enter func115,ntmps115
   go_wp2
   go_ret2;exact⟨rfl,rfl⟩
  | false=>
   go_enter func115,ntmps115
   go_wp2
   go_ret2;exact⟨rfl,rfl⟩
theorem qP(l:Int)(d:Bool):(cu l d=11/\fV l d=true)\/(cu l d=0/\fV l d=false):=by grind[cu,fV]
theorem wH:aJ ((11:Nat):Int)=.iface 108 (11:Int):=rfl
theorem wI:aJ ((0:Nat):Int)=.nilIface:=rfl
theorem Mz(B:Nat)(n k:Sd)(v:Value)(l:Int)(d:Bool)(w:World)(h:aU w B n k v l d)(i:-9223372036854775808<=l/\l<=9223372036854775807):Calls prog 70 #[B] w λe w'=>e=.returned (aJ ((cu l d:Nat):Int))/\aU w' B n (if cu l d=0 then n else k) (if cu l d=0 then .slice none 0 0 else v) (bx l d) (fV l d)/\fE B w w':=by
 have HS:=qI (qO B n k v l d w h i);clear h
 rcases qP l d with⟨b,c⟩|⟨b,c⟩
 ·rw[b,c,if_neg (by decide),if_neg (by decide),wH];rw[b,c,wH] at HS
  go_enter func70,ntmps70
  go_wp2_with fail
  refine HS.o.mono ?_;rintro e g ⟨rfl,a,Ha⟩;have j:=qI a;have f:=qI Ha;clear a Ha HS
  go_wp2
  go_ret;exact⟨rfl,j.o,f.o⟩
 ·rw[b,c,if_pos rfl,if_pos rfl,wI];rw[b,c,wI] at HS
  go_enter func70,ntmps70
  go_wp2_with fail
  refine HS.o.mono ?_;rintro e g ⟨rfl,a,Ha⟩;have m:=qI ((a.setKept n).set8 (.slice none 0 0));have f:=qI (((Ha.putS 4 n)).set 8 (.slice none 0 0));obtain⟨x,D,n2,t⟩:=a.now;obtain⟨z,q,u,y⟩:=a.kept;obtain⟨s,_,_⟩:=a.rest;have o:=a.frozen 4;have C:=a.frozen 5;have r:=a.frozen 6;have p:=a.frozen 7;have A:=a.frozen 8;clear a Ha HS
  go_wp2
  go_ret;exact⟨rfl,m.o,f.o⟩
