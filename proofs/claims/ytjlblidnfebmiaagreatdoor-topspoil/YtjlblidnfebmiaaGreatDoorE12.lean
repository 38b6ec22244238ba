import Derived.Test.YtjlblidnfebmiaaGreatDoorE11
import Derived.Lib.ItoaLen
import Derived.RangeFuncNested
import Derived.RangeFuncBound
import Derived.RangeFuncCalls
import Derived.RangeFuncLeaves
import Derived.RangeFuncBox
import Derived.RangeFuncWrites
import Derived.Shelf.Abstract
import Derived.Shelf.RegionOpen
import Derived.OwnWalkIn
import Derived.TacticsInMore
import Derived.LoopNIn
import Derived.LoopIn
import Derived.Maps.OwnIn
import Derived.OrdersHeld
import Derived.OrdersIn
set_option maxRecDepth 100000
set_option maxHeartbeats 16000000
open Go Go.RowKit Go.Shelf
attribute [local go_sem] Oper.semAt_some
open Go.Proofs.Tryz
namespace Go.Proofs.YtjlblidnfebmiaaGreatDoor
variable {A B W W' w w':World} {K:Nat->Prop} {b:Bool} {c:UInt8} {cs:List aA} {cv gvv:Nat->Value} {d:ai} {ds:List ai} {dv xs:List Int} {h i k o:Nat} {p:az} {r s:List UInt8} {v:Value}
structure aP where
 cp:Nat
 dv:List Int
def AG:aP:=⟨0,[]⟩
instance:Inhabited aP:=⟨AG⟩
def aq (l:List aP) (k:Nat):aP:=l.getD k AG
structure ad where
 pod:az
 gs:List aP
def AH:ad:=⟨vF,[]⟩
instance:Inhabited ad:=⟨AH⟩
def af (l:List ad) (k:Nat):ad:=l.getD k AH
def aK (n:Int):List UInt8:=Lib.decDigits n.toNat
def ei (l:List UInt8):List UInt8:=if l=[] then [45] else l
def eW (d:ai):List UInt8:=d.kind.data.toList++[58]++aK d.many
def jL (ds:List ai):List UInt8:=ei (Lib.join (ds.map eW) [44])
def kn (dv:List Int):List UInt8:=ei (Lib.join (dv.map aK) [44])
def oO (A:Nat):List UInt8:=ei (iz A)
def eu (c:aA):List (List UInt8):=[[99,111,110,116],c.nm.data.toList,aK c.am,aK c.ab,aK c.cm,aK c.cb,jL c.ds]
def ej (g:aP):List (List UInt8):=[oO g.cp,kn g.dv]
def gm (p:az):List (List UInt8):=[[112,111,100],p.nm.data.toList,aK p.pr]
def jM (ws:List (List UInt8)):List UInt8:=Lib.join ws [32]++[10]
def lh (c:aA) (g:aP):List UInt8:=jM (eu c++ej g)
def jN (p:az):List UInt8:=jM (gm p)
def fv (h:ad):Nat->List UInt8
 | 0=>[]
 | k+1=>fv h k++lh (ae h.pod.cs k) (aq h.gs k)
def iK (h:ad):List UInt8:=jN h.pod++fv h h.pod.cs.length
def gO (hs:List ad):Nat->List UInt8
 | 0=>[]
 | k+1=>gO hs k++iK (af hs k)
def cX (hs:List ad):List UInt8:=gO hs hs.length
def di (b:List UInt8):List UInt8:=[115,117,109,32]++Lib.decDigits (eL b)++[10]
def bi (hs:List ad):List UInt8:=cX hs++di (cX hs)
def il (dv:List Int) (j:Nat):Nat:=if dv.getD j 0<0\/15<dv.getD j 0\/(0<j/\dv.getD j 0<=dv.getD (j - 1) 0) then 3 else 0
def dK (dv:List Int):Nat:=if 16<dv.length then 2 else bh (il dv) dv.length
def ql (gs:List aP):Nat:=bh (λk=>dK (aq gs k).dv) gs.length
def fL (h:ad) (lowB:Bool):Nat:=
 if br h.pod≠0 then br h.pod else if lowB=true\/h.gs.length≠h.pod.cs.length then 3 else ql h.gs
def oP (hs:List ad) (i:Nat):Bool:=decide (0<i) && dE (af hs i).pod.nm (af hs (i - 1)).pod.nm
def mq (hs:List ad) (i:Nat):Nat:=fL (af hs i) (oP hs i)
def bt (hs:List ad):Nat:=if 12<hs.length then 2 else bh (mq hs) hs.length
def nB (g:aP):Prop:=g.cp<18446744073709551616/\g.dv.length<=16/\∀ x∈g.dv,0<=x/\x<=15
def nC (d:ai):Prop:=bN d.kind=true/\1<=d.many/\d.many<=16
def mr (c:aA):Prop:=bN c.nm=true/\(0<=c.am/\c.am<=1000000)/\(0<=c.ab/\c.ab<=1125899906842624)/\(0<=c.cm/\c.cm<=1000000)/\(0<=c.cb/\c.cb<=1125899906842624)/\c.ds.length<=3/\∀ d∈c.ds,nC d
def qm (p:az):Prop:=bN p.nm=true/\(0<=p.pr/\p.pr<=1000)/\p.cs.length<=3/\∀ c∈p.cs,mr c
def ko (h:ad):Prop:=qm h.pod/\h.gs.length=h.pod.cs.length/\∀ g∈h.gs,nB g
def li (hs:List ad):Prop:=hs.length<=12/\∀ h∈hs,ko h
theorem AI (h:d∈ds):∃ k,k<ds.length/\ak ds k=d:=by
 obtain ⟨k,a,rfl⟩:=List.getElem_of_mem h;exact ⟨k,a,by simp [ak,a]⟩
theorem AJ {ds:List aA} {d:aA} (h:d∈ds):∃ k,k<ds.length/\ae ds k=d:=by
 obtain ⟨k,a,rfl⟩:=List.getElem_of_mem h;exact ⟨k,a,by simp [ae,a]⟩
theorem sI {ds:List aP} {d:aP} (h:d∈ds):∃ k,k<ds.length/\aq ds k=d:=by
 obtain ⟨k,a,rfl⟩:=List.getElem_of_mem h;exact ⟨k,a,by simp [aq,a]⟩
theorem sJ {ds:List ad} {d:ad} (h:d∈ds):∃ k,k<ds.length/\af ds k=d:=by
 obtain ⟨k,a,rfl⟩:=List.getElem_of_mem h;exact ⟨k,a,by simp [af,a]⟩
theorem KN {ds:List Int} {d:Int} (h:d∈ds):∃ k,k<ds.length/\ds.getD k 0=d:=by
 obtain ⟨k,a,rfl⟩:=List.getElem_of_mem h;exact ⟨k,a,by simp [a]⟩
theorem mu {ds:List aA} (h:k<ds.length):ae ds k∈ds:=by simp [ae,h]
theorem sK {ds:List aP} (h:k<ds.length):aq ds k∈ds:=by simp [aq,h]
theorem mv {ds:List ad} (h:k<ds.length):af ds k∈ds:=by simp [af,h]
theorem KO (h:bh (ij ds) ds.length=0):∀ d∈ds,nC d:=by
 intro d af;obtain ⟨k,c,rfl⟩:=AI af
 have:=eR h k c
 unfold ij at this
 split at this
 ·cases this
 ·rename_i a
  split at this
  ·cases this
  ·rename_i b
   rw [not_or] at a b;exact ⟨by simpa using a.1,by omega,by omega⟩
theorem KQ (h:dI cs k=0):mr (ae cs k):=by
 have c:=Ar h;unfold dI at h
 split at h
 ·cases h
 rename_i d
 split at h
 ·cases h
 split at h
 ·cases h
 split at h
 ·cases h
 split at h
 ·cases h
 rename_i e
 have a:=sE c.1;have b:=sE c.2.1;exact ⟨by simpa using d,a.1,a.2,b.1,b.2,by omega,KO h⟩
theorem jk (h:br p=0):qm p:=by
 obtain ⟨f,e,b,a⟩:=qi h;refine ⟨f,e,b.2,λc g=>?_⟩;obtain ⟨k,d,rfl⟩:=AJ g;exact KQ (eR a k d)
theorem AK (h:dK dv=0):dv.length<=16/\∀ x∈dv,0<=x/\x<=15:=by grind [dK,KN,eR,il]
theorem KR {h:ad} (e:fL h b=0) (f:∀ g∈h.gs,g.cp<18446744073709551616):ko h:=by
 unfold fL at e
 split at e
 ·exact absurd e (by assumption)
 rename_i i
 split at e
 ·cases e
 rename_i d
 rw [not_or] at d;refine ⟨jk (by omega),by omega,λg a=>?_⟩;obtain ⟨k,c,rfl⟩:=sI a;exact ⟨f _ a,AK (eR e k c)⟩
theorem sL {hs:List ad} (e:bt hs=0) (b:∀ h∈hs,∀ g∈h.gs,g.cp<18446744073709551616):li hs:=by
 unfold bt at e
 split at e
 ·cases e
 refine ⟨by omega,λh a=>?_⟩;obtain ⟨k,c,rfl⟩:=sJ a;exact KR (eR e k c) (b _ a)
theorem lj {s:ByteArray} (h:bN s=true):0<s.data.toList.length/\s.data.toList.length<=8:=by simp_all [bN,Bool.and_eq_true]
theorem vK (n:Nat) (h:n<18446744073709551616):(Lib.decDigits n).length<=20:=by rw [Lib.decDigits_length];exact Lib.nDigits_le20 _ h
theorem lk (n:Int) (h:n<=1125899906842624):(aK n).length<=20:=vK _ (by omega)
theorem nD (c:UInt8) (m:Nat):∀ (a:List (List UInt8)),(∀ x∈a,x.length<=m)->(Lib.join a [c]).length<=a.length*(m+1):=by
 intro a h;have key:∀ r:List (List UInt8),(∀ x∈r,x.length<=m)->Lib.lens r<=r.length*m:=by
  intro r
  induction r with
  | nil=>intro _;simp [Lib.lens]
  | cons x r ih=>
   intro h;have b:=ih λy d=>h y (by simp [d])
   have e:=h x (by simp);simp only [Lib.lens,Qq,List.sum_cons,Qg,Nat.add_mul,Nat.one_mul] at b ⊢;omega
 cases a with
 | nil=>simp [Lib.join_nil]
 | cons x r=>
  rw [Lib.join_length];have b:=key _ h;simp only [Qg,List.length_nil,Nat.mul_add,Nat.add_mul,Nat.one_mul,Nat.mul_one,Qd] at b ⊢;omega
theorem vL {l:List UInt8} {m:Nat} (h:l.length<=m):(ei l).length<=m+1:=by
 unfold ei;split
 ·simp
 ·omega
theorem AL (h:nC d):(eW d).length<=29:=by
 have b:=lj h.1;have a:=lk d.many (by have:=h.2.2;omega);simp only [eW,Q2,Qg,List.length_nil];omega
theorem KS (h:∀ d∈ds,nC d) (b:ds.length<=3):(jL ds).length<=91:=by
 refine vL (Q5 (nD 44 29 _ λx a=>?_) ?_)
 ·obtain ⟨d,af,rfl⟩:=Qk.1 a;exact AL (h d af)
 ·rw [Q9];omega
theorem KT (h:∀ x∈dv,0<=x/\x<=15) (b:dv.length<=16):(kn dv).length<=337:=by
 refine vL (Q5 (nD 44 20 _ λx a=>?_) ?_)
 ·obtain ⟨d,af,rfl⟩:=Qk.1 a;exact lk d (by have:=h d af;omega)
 ·rw [Q9];omega
theorem KU (A:Nat):(oO A).length<=301:=vL (uy A)
theorem AM {c:aA} (h:mr c):∀ x∈eu c,x.length<=100:=by
 obtain ⟨d,m,l,k,i,e,f⟩:=h;have a:=lj d;have b1:=lk c.am (by omega);have b2:=lk c.ab (by omega);have g:=lk c.cm (by omega);have n:=lk c.cb (by omega);have j:=KS f e;intro x b;simp only [eu,List.mem_cons,List.not_mem_nil,or_false] at b
 rcases b with rfl|rfl|rfl|rfl|rfl|rfl|rfl <;> first|omega|simp
theorem AN {g:aP} (h:nB g):∀ x∈ej g,x.length<=400:=by
 have a:=KU g.cp;have b:=KT h.2.2 h.2.1;intro x c;simp only [ej,List.mem_cons,List.not_mem_nil,or_false] at c
 rcases c with rfl|rfl <;> omega
theorem AO (h:qm p):∀ x∈gm p,x.length<=100:=by
 have a:=lj h.1;have b:=lk p.pr (by have:=h.2.1;omega);intro x c;simp only [gm,List.mem_cons,List.not_mem_nil,or_false] at c
 rcases c with rfl|rfl|rfl <;> first|omega|simp
theorem AP {c:aA} {g:aP} (d:mr c) (a:nB g):(lh c g).length<=4000:=by
 have:=nD 32 400 (eu c++ej g) λx b=>by
  rcases Qi.1 b with h|h
  ·have:=AM d x h;omega
  ·exact AN a x h
 simp only [lh,jM,Q2,Qg,List.length_nil] at this ⊢;simp only [eu,ej,Qg,List.length_nil] at this;simp only [eu,ej];omega
theorem vM (h:qm p):(jN p).length<=400:=by
 have:=nD 32 100 (gm p) (AO h)
 simp only [jN,jM,Q2,Qg,List.length_nil];simp only [gm,Qg,List.length_nil] at this ⊢;omega
theorem sM {h:ad} (e:ko h) (a:k<h.pod.cs.length):mr (ae h.pod.cs k)/\nB (aq h.gs k):=
 ⟨e.1.2.2.2 _ (mu a),e.2.2 _ (sK (by rw [e.2.1];exact a))⟩
theorem vO {h:ad} (e:ko h):∀ k,k<=h.pod.cs.length->(fv h k).length<=k*4000:=by
 intro k
 induction k with
 | zero=>intro _;simp [fv]
 | succ k ih=>
  intro c;have d:=ih (by omega);obtain ⟨b,a⟩:=sM e (k:=k) (by omega)
  have:=AP b a
  rw [fv,Q2];omega
theorem AQ {h:ad} (e:ko h):(iK h).length<=13000:=by
 have c:=vO e _ (lR);have b:=vM e.1;have a:=e.1.2.2.1;rw [iK,Q2];omega
theorem AR {hs:List ad} (e:li hs):∀ k,k<=hs.length->(gO hs k).length<=k*13000:=by
 intro k
 induction k with
 | zero=>intro _;simp [gO]
 | succ k ih=>
  intro a;have c:=ih (by omega);have b:=AQ (e.2 _ (mv (k:=k) (by omega)));rw [gO,Q2];omega
theorem KV {hs:List ad} (e:li hs):(cX hs).length<=156000:=by
 have:=AR e _ (lR)
 have a:=e.1;unfold cX;omega
theorem qo (b:List UInt8):(di b).length<=25:=by grind [vK,eL,uq,di,Q1,Q2,Qg,List.length_nil]
section
open Go.ChangeShapes Go.WideShapes Go.ChangeAt Go.RowKit
def bA (w:World) (v:Value) (xs:List Int):Prop:=
 ∃ ao c,v=.slice ao xs.length c/\(xs.length<=c/\c<=maxLen)/\(0<xs.length->∃ b o,ao=some ⟨b,o,none⟩/\b<w.heap.size/\∀ k,k<xs.length->w.cell? ⟨b,o+k,none⟩=some (.int .i64 (xs.getD k 0)))
def oQ (w:World) (b o:Nat) (gs:List aP) (dv:Nat->Value):Prop:=
 b<w/\∀ k,k<gs.length->(w.cell? ⟨b,o+k*2,none⟩=some (.int .u64 (aq gs k).cp)/\w.cell? ⟨b,o+k*2+1,none⟩=some (dv k)/\(aq gs k).cp<18446744073709551616)/\bA w (dv k) (aq gs k).dv
def cq (w:World) (v:Value) (gs:List aP):Prop:=
 ∃ ao c,v=.slice ao gs.length c/\(gs.length<=c/\c<=maxLen)/\(0<gs.length->∃ b o dv,ao=some ⟨b,o,none⟩/\oQ w b o gs dv)
def vP (h:ad) (cv gvv:Value):Value:=.agg #[h.pod.nm,(h.pod.pr:Int),cv,gvv]
def mw (w:World) (b o:Nat) (hs:List ad) (cv gvv:Nat->Value):Prop:=
 b<w/\∀ k,k<hs.length->(w.cell? ⟨b,o+k*4,none⟩=some (.string (af hs k).pod.nm)/\w.cell? ⟨b,o+k*4+1,none⟩=some (.int .i64 (af hs k).pod.pr)/\w.cell? ⟨b,o+k*4+2,none⟩=some (cv k)/\w.cell? ⟨b,o+k*4+3,none⟩=some (gvv k))/\aZ w (cv k) (af hs k).pod.cs/\cq w (gvv k) (af hs k).gs
def aX (w:World) (v:Value) (hs:List ad):Prop:=
 ∃ ao c,v=.slice ao hs.length c/\(hs.length<=c/\c<=maxLen)/\(0<hs.length->∃ b o cv gvv,ao=some ⟨b,o,none⟩/\mw w b o hs cv gvv)
theorem bA.below (h:bA w v xs) (d:Below w w w'):bA w' v xs:=by
 obtain ⟨j,c,f,m,n⟩:=h;refine ⟨j,c,f,m,λe=>?_⟩;obtain ⟨b,o,l,a,i⟩:=n e;exact ⟨b,o,l,Q1 a d.size,λk g=>(d.cell (p:=⟨b,o+k,none⟩) a).trans (i k g)⟩
theorem oQ.below {b:Nat} {gs:List aP} {dv:Nat->Value} (h:oQ w b o gs dv) (a:Below w w w'):oQ w' b o gs dv:=
 ⟨Q1 h.1 a.size,λk e=>by
  obtain ⟨⟨g,f,d⟩,c⟩:=h.2 k e;exact ⟨⟨(a.cell (p:=⟨b,o+k*2,none⟩) h.1).trans g,(a.cell (p:=⟨b,o+k*2+1,none⟩) h.1).trans f,d⟩,c.below a⟩⟩
theorem cq.below {gs:List aP} (h:cq w v gs) (d:Below w w w'):cq w' v gs:=by
 obtain ⟨g,c,e,j,k⟩:=h;refine ⟨g,c,e,j,λa=>?_⟩;obtain ⟨b,o,dv,i,f⟩:=k a;exact ⟨b,o,dv,i,f.below d⟩
theorem mw.below {b:Nat} {hs:List ad} (h:mw w b o hs cv gvv) (a:Below w w w'):mw w' b o hs cv gvv:=
 ⟨Q1 h.1 a.size,λk f=>by
  obtain ⟨⟨i,g,e,d⟩,c,j⟩:=h.2 k f;exact ⟨⟨(a.cell (p:=⟨b,o+k*4,none⟩) h.1).trans i,(a.cell (p:=⟨b,o+k*4+1,none⟩) h.1).trans g,(a.cell (p:=⟨b,o+k*4+2,none⟩) h.1).trans e,(a.cell (p:=⟨b,o+k*4+3,none⟩) h.1).trans d⟩,c.below a,j.below a⟩⟩
theorem aX.below {hs:List ad} (h:aX w v hs) (f:Below w w w'):aX w' v hs:=by
 obtain ⟨i,c,e,k,l⟩:=h;refine ⟨i,c,e,k,λd=>?_⟩;obtain ⟨b,o,cv,a,j,g⟩:=l d;exact ⟨b,o,cv,a,j,g.below f⟩
theorem aX.cps {hs:List ad} (h:aX w v hs):∀ x∈hs,∀ g∈x.gs,g.cp<18446744073709551616:=by
 intro x n g e;obtain ⟨k,l,rfl⟩:=sJ n;obtain ⟨f,c,_,_,d⟩:=h;obtain ⟨b,o,cv,m,_,a⟩:=d (by omega);obtain ⟨_,_,p⟩:=a.2 k l;obtain ⟨j,i,rfl⟩:=sI e;obtain ⟨f,c,_,_,d⟩:=p;obtain ⟨b,o,dv,_,a⟩:=d (by omega);exact (a.2 j i).1.2.2
section
variable {H:Type} {enc:TypeId × Value->H} {W:World}
end
end
structure Apart (K:Nat->Prop) (W W':World):Prop where
 os:W'.os=W.os
 tape:W'.tape=W.tape
 output:W'.output=W.output
 size:W<=W'.heap.size
 block:∀ j,j<W.heap.size->¬ K j->W'.heap[j]?=W.heap[j]?
theorem Apart.refl (K:Nat->Prop) (W:World):Apart K W W:=⟨rfl,rfl,rfl,lR,λ_ _ _=>rfl⟩
theorem Apart.trans {C:World} (h:Apart K A B) (k:Apart K B C):Apart K A C:=
 ⟨k.os.trans h.os,k.tape.trans h.tape,k.output.trans h.output,Q5 h.size k.size,λj a b=>(k.block j (Q1 a h.size) b).trans (h.block j a b)⟩
theorem Apart.wide {K':Nat->Prop} (h:Apart K A B) (c:∀ j,K j->K' j):Apart K' A B:=
 ⟨h.os,h.tape,h.output,h.size,λj b a=>h.block j b λe=>a (c j e)⟩
theorem Apart.of_below (h:Below W W W'):Apart K W W':=⟨h.os,h.tape,h.output,h.size,λj a _=>h.block j a⟩
theorem Apart.alloc (K:Nat->Prop) (W:World) (o:Obj):Apart K W (W.alloc o):=.of_below ((Q0 _ W).alloc (lR) o)
theorem Apart.drewN (K:Nat->Prop) (W:World) (n:Nat):Apart K W (W.drewN n):=⟨rfl,rfl,rfl,lR,λ_ _ _=>rfl⟩
theorem Apart.putObj {l:Nat} (c:K l) (W:World) (o:Obj):Apart K W (W.putObj l o):=
 have a:=grownBy_putObj' W l o
 ⟨a.os,a.tape,a.output,a.size,λj d b=>a.block j d λe=>b (by cases e;exact c)⟩
theorem Apart.setCell {b:Nat} (c:K b) (W:World) (j:Nat) (v:Value):Apart K W (W.setCell ⟨b,j,none⟩ v):=
 ⟨rfl,rfl,rfl,(KeepsWalks.setCell W _ v).size,λk _ a=>Below.heap_setCell _ _ _ k λe=>a (by rw [e];exact c)⟩
section
variable {F:Fence} {n:Nat} {P:Program}
def vQ (F:Fence) (n:Nat) (P:Program) (gf:Nat) (lb:Array Value) (K:Nat->Prop) (ts:List (Array Value)) (w:World):Prop:=
 ∀ (l:Nat) (J:Nat->World->Prop) (Jx:World->Prop) (W:World),(∀ j,K j->W.heap[j]?=w.heap[j]?)->(∀ k A B,J k A->Apart K A B->J k B)->
  (∀ k A,(hk:k<ts.length)->J k A->YieldAt F (n - 1) P l ts[k] A λe B=>(e=.returned true/\J (k+1) B/\∀ j,K j->B.heap[j]?=A.heap[j]?)\/(e=.returned false/\Jx B))->
  J 0 W->CallsIn F n P gf (#[.func (.yield l) #[] #[]]++lb) W λe B=>(∃ v,e=.returned v)/\(J ts.length B\/Jx B)
def AS (K:Nat->Prop) (L:Nat) (R:World->Prop) (X:Code->World->Prop) (W:World):Exit->Act->World->Prop
 | .normal,_,W'=>(∀ j,(K j\/j=L\/j=L+1)->W'.heap[j]?=W.heap[j]?)/\R W'
 | .ret,_,W'=>(∀ j,(K j\/j=L\/j=L+1)->W'.heap[j]?=W.heap[j]?)/\X .ret W'
 | .exit id,_,W'=>(∀ j,(K j\/j=L\/j=L+1)->W'.heap[j]?=W.heap[j]?)/\X (.exit id) W'
 | _,_,_=>False
theorem vR {g:Operand} {T:Array Tmp} {assign body:Code} {Q:Exit->Act->World->Prop} {a:Act} {w:World} (Z:F.round=none) (h1:1<=n) {gf:Nat} {lb:Array Value}
  (hg:a.eval g=.func (.func gf) #[] lb) (X:F.fn gf) (eg:∀ args w,(callFunc gf args).run P w=.ok (.enter gf args) w)
  {K:Nat->Prop} {ts:List (Array Value)} (hK:∀ j,K j->j<w.heap.size) (N:vQ F (n - 1) P gf lb K ts w) (Y:∀ x∈ts,x.size=T.size)
  (I:Nat->World->Prop) (S:Code->World->Prop) (O:∀ k A B,I k A->Apart (λj=>K j\/j=w.heap.size+1) A B->I k B) (C:∀ c A B,S c A->Apart (λj=>K j\/j=w.heap.size+1) A B->S c B) (h0:I 0 w) (a₁:Nat->Act)
  (f:∀ (l k:Nat) (V:k<ts.length) (W:World) (R:Act->World->Prop),R (a₁ k) W->assign.wpIn (F.inRound l) (n - 1 - 1) P (Exit.then R λ_ _ _=>False) { tmps:=(T.zip ts[k]).foldl (λt (p,v)=>t.setIfInBounds p v) a.tmps,defers:=[] } W)
  (z:∀ (l k:Nat) (W:World),k<ts.length->w+1<W.heap.size->I k W->body.wpIn (F.inRound l) (n - 1 - 1) P (AS K w.heap.size (I (k+1)) S W) (a₁ k) W)
  (E:∀ (W:World),I ts.length W->W.heap[w.heap.size]?=some (.deferred (some []))->Q .normal { a with defers:={ target:=.collected w.heap.size,args:=#[] } :: a.defers } W)
  (G:∀ (c:Code) (W:World),S c W->W.heap[w.heap.size]?=some (.deferred (some []))->c.wpIn F n P Q { a with defers:={ target:=.collected w.heap.size,args:=#[] } :: a.defers } W) :
  (Code.rangeFunc g T assign body).wpIn F n P Q a w:=by
 refine wpIn_rangeFunc λfn Hu=>?_
 rw [Z];generalize hrc:(λ(u:LoopState) (y:Option Code)=>({ state:=u,pending:=y,fn:=fn,tmps:=a.tmps,params:=T,assign:=assign,body:=body,defers:=w.heap.size }:Loop))=rc;have Hc:∀ u y,(rc u y).state=u:=λ_ _=>by rw [<- hrc]
 have Hj:∀ u y m H,({ rc u y with state:=m,pending:=H }:Loop)=rc m H:=λ_ _ _ _=>by rw [<- hrc]
 have Ha:∀ u y m,({ rc u y with state:=m }:Loop)=rc m y:=λ_ _ _=>by rw [<- hrc]
 let L:=w.heap.size+1
 let U:=(w.alloc (.deferred (some []))).alloc (.loop (rc .ready none))
 have Hn:U.heap[L]?=some (.loop (rc .ready none)):=by
  have:=World.alloc_heap_new (w.alloc (.deferred (some []))) (.loop (rc .ready none))
  rwa [World.size_alloc] at this
 have Hi:U.heap[w.heap.size]?=some (.deferred (some [])):=(Below.heap_alloc _ _ _ (by simp)).trans (World.alloc_heap_new w _);have Hp:Apart (λj=>K j\/j=L) w U:=(Apart.alloc _ _ _).trans (Apart.alloc _ _ _);have Hr:∀ j,K j->U.heap[j]?=w.heap[j]?:=λj i=>by
  have:=hK j i
  exact (Below.heap_alloc _ _ _ (by simp;omega)).trans (Below.heap_alloc _ _ _ this)
 have Hb:∀ j,K j->j≠L/\j≠w.heap.size:=λj i=>by
  have:=hK j i
  exact ⟨by show j≠w.heap.size+1;omega,by omega⟩
 let J:Nat->World->Prop:=λk W=>I k W/\W.heap[L]?=some (.loop (rc .ready none))/\W.heap[w.heap.size]?=some (.deferred (some []))
 let Jx:World->Prop:=λW=>∃ c,S c W/\W.heap[L]?=some (.loop (rc .done (some c)))/\W.heap[w.heap.size]?=some (.deferred (some []))
 have keep:∀ {A B:World} {o:Obj} {j:Nat},Apart K A B->¬ K j->A.heap[j]?=some o->B.heap[j]?=some o:=λh i ho=>(h.block _ (gS ho).1 i).trans ho
 have Hl:¬ K L:=λe=>(Hb L e).1 rfl
 have Hh:¬ K w.heap.size:=λe=>(Hb _ e).2 rfl
 refine ⟨L,[{ target:=.collected w.heap.size,args:=#[] }],U,{ target:=.fn (.func gf) lb,args:=#[.func (.yield L) #[] #[]] },U,gf,#[.func (.yield L) #[] #[]]++lb,U,?_,?_,?_,?_,λ_=>h1,?_⟩
 ·show _=Result.ok _ ((w.alloc (.deferred (some []))).alloc (.loop (rc .ready none)))
  rw [<- hrc];exact run_enterLoop_outer _ _ _ _ _
 ·simp only [resolve,hg];simp [go_sem]
 ·intro f' Hg;simp [Target.leads] at Hg;subst Hg;exact X
 ·simp [invoke,go_sem,eg]
 ·refine (N L J Jx U Hr (λk A B ⟨hi,s,hd⟩ hab=>⟨O k A B hi (hab.wide λ_=>.inl),keep hab Hl s,keep hab Hh hd⟩) ?_ ⟨O 0 w U h0 Hp,Hn,Hi⟩).mono ?_
  ·rintro k A V ⟨hi,s,hd⟩;have He:L<A:=(gS s).1;have hy:=run_yield (P:=P) (args:=ts[k]) s (by rw [<- hrc];exact Y _ (List.getElem_mem V));rw [<- hrc] at hy;refine ⟨fn,_,assign,body,hy,roundIn_of_wpIn Hu (f L k V A _ ⟨_,run_beginRound s (Hc _ _),?_⟩)⟩;rw [Ha]
   let A2:=A.putObj L (.loop (rc .busy none))
   have Hs:A2.heap[L]?=some (.loop (rc .busy none)):=World.putObj_heap_same He;have Hm:A2.heap[w.heap.size]?=some (.deferred (some [])):=(World.putObj_heap_other (by show w≠w.heap.size+1;omega)).trans hd;have Hk:∀ j,K j->A2.heap[j]?=A.heap[j]?:=λj i=>World.putObj_heap_other (Hb j i).1
   have Hq:I k A2:=O k A A2 hi (Apart.putObj (.inr rfl) _ _);refine wpIn_mono (z L k A2 V (Q1 He (grownBy_putObj' A L _).size) Hq) ?_;have D:∀ (b:Option Code) (B:World),(∀ j,(K j\/j=w.heap.size\/j=w.heap.size+1)->B.heap[j]?=A2.heap[j]?)->
     (Instr.endRound L b).run P B=.ok b.isNone (B.putObj L (.loop (rc (if b.isNone then .ready else .done) b)))/\
     (B.putObj L (.loop (rc (if b.isNone then .ready else .done) b))).heap[L]?=some (.loop (rc (if b.isNone then .ready else .done) b))/\
     (B.putObj L (.loop (rc (if b.isNone then .ready else .done) b))).heap[w.heap.size]?=some (.deferred (some []))/\
     ∀ j,K j->(B.putObj L (.loop (rc (if b.isNone then .ready else .done) b))).heap[j]?=A.heap[j]?:=λb B r=>by
    have Hf:B.heap[L]?=some (.loop (rc .busy none)):=(r L (.inr (.inr rfl))).trans Hs;have d:=run_endRound (P:=P) b Hf;rw [Hj] at d;exact ⟨d,World.putObj_heap_same (gS Hf).1,(World.putObj_heap_other (by show w≠w.heap.size+1;omega)).trans ((r _ (.inr (.inl rfl))).trans Hm),
     λj i=>(World.putObj_heap_other (Hb j i).1).trans ((r j (.inl i)).trans (Hk j i))⟩
   rintro e a3 B q;cases e with
   | normal=>
    obtain ⟨r,Ho⟩:=q;obtain ⟨d,f1,f2,f3⟩:=D none B r;exact ⟨_,_,d,.inl ⟨rfl,⟨O _ _ _ Ho (Apart.putObj (.inr rfl) _ _),f1,f2⟩,f3⟩⟩
   | ret=>
    obtain ⟨r,M⟩:=q;obtain ⟨d,f1,f2,_⟩:=D (some .ret) B r;exact ⟨_,_,d,.inr ⟨rfl,.ret,C _ _ _ M (Apart.putObj (.inr rfl) _ _),f1,f2⟩⟩
   | exit id=>
    obtain ⟨r,M⟩:=q;obtain ⟨d,f1,f2,_⟩:=D (some (.exit id)) B r;exact ⟨_,_,d,.inr ⟨rfl,.exit id,C _ _ _ M (Apart.putObj (.inr rfl) _ _),f1,f2⟩⟩
   | goto t=>exact q.elim
   | panic ch=>exact q.elim
   | outgrown=>exact q.elim
  ·rintro e B ⟨⟨v,rfl⟩,(⟨hi,s,hd⟩|⟨c,M,s,hd⟩)⟩
   ·have d:=run_endLoop (P:=P) s (by rw [Hc];simp);rw [Ha] at d;refine ⟨_,_,d,?_⟩;have q:(rc .ready none).pending=none:=by rw [<- hrc]
    rw [q];exact E _ (O _ _ _ hi (Apart.putObj (.inr rfl) _ _)) ((World.putObj_heap_other (by show w≠w.heap.size+1;omega)).trans hd)
   ·have d:=run_endLoop (P:=P) s (by rw [Hc];simp);rw [Ha] at d;refine ⟨_,_,d,?_⟩;have q:(rc .done (some c)).pending=some c:=by rw [<- hrc]
    rw [q];exact G c _ (C _ _ _ M (Apart.putObj (.inr rfl) _ _)) ((World.putObj_heap_other (by show w≠w.heap.size+1;omega)).trans hd)
end
abbrev aR:=List UInt8
def im {α:Type} (f:aR->Option α):List aR->Option (List α)
 | []=>some []
 | x :: r=>match f x with
  | none=>none
  | some y=>(im f r).map (y :: ·)
def bS {α:Type} (f:aR->Option α) (l:aR):Option (List α):=if l=[45] then some [] else im f (aG 44 l)
def oR (l:aR):Option Nat:=if l=[45] then some 0 else if (dC l).2=0 then some (dC l).1 else none
def aj (ws:List aR) (k:Nat):aR:=ws.getD k []
def oS (num:aR->Option Int) (need:aR->Option ai) (ws:List aR):Option (aA × aP):=
 match num (aj ws 2),num (aj ws 3),num (aj ws 4),num (aj ws 5),bS need (aj ws 6),oR (aj ws 7),bS num (aj ws 8) with
 | some a,some b,some c,some d,some ds,some A,some dv=>some (⟨⟨(aj ws 1).toArray⟩,a,b,c,d,ds⟩,⟨A,dv⟩)
 | _,_,_,_,_,_,_=>none
def jl (ws:List aR):Bool:=decide (aj ws 0=[112,111,100]) && decide (ws.length=3)
def nE (ws:List aR):Bool:=decide (aj ws 0=[99,111,110,116]) && decide (ws.length=9)
def sN (h:ad) (c:aA) (g:aP):ad:=⟨⟨h.pod.nm,h.pod.pr,h.pod.cs++[c]⟩,h.gs++[g]⟩
def kq (hs:List ad) (c:aA) (g:aP):List ad:=hs.dropLast++[sN (af hs (hs.length - 1)) c g]
def KW (ws:List aR) (n:Int):ad:=⟨⟨⟨(aj ws 1).toArray⟩,n,[]⟩,[]⟩
def eX (num:aR->Option Int) (need:aR->Option ai) (hs:List ad) (ws:List aR):Option (List ad):=
 if jl ws=true then (num (aj ws 2)).map λn=>hs++[KW ws n]
 else if nE ws=true/\0<hs.length then (oS num need ws).map λx=>kq hs x.1 x.2
 else none
def eG (num:aR->Option Int) (need:aR->Option ai) (hs:List ad):List (List aR)->Option (List ad)
 | []=>some hs
 | ws :: r=>match eX num need hs ws with
  | none=>none
  | some hs'=>eG num need hs' r
def qq (t:aR):List aR:=if (aG 10 t).getLast?=some [] then (aG 10 t).dropLast else aG 10 t
def bT (l:aR):Option Int:=if cQ 16 l=true then some (bG l) else none
def ce (l:aR):Option ai:=(bT (aS 58 l).2.1).map λn=>⟨⟨(aS 58 l).1.toArray⟩,n⟩
def gp (t:aR):Option (List ad):=eG bT ce [] ((qq t).map (aG 32))
structure qr (num:aR->Option Int) (need:aR->Option ai):Prop where
 num:∀ n:Int,0<=n->n<=1125899906842624->num (aK n)=some n
 need:∀ d:ai,nC d->need (eW d)=some d
theorem gP (n:Int) (c:UInt8) (a:fC c=false):c ∉ aK n:=oz _ c a
theorem nF {s:ByteArray} (h:bN s=true) (c:UInt8) (g:oI c=false) (d:oJ c=false):c ∉ s.data.toList:=by
 intro f;simp only [bN,Bool.and_eq_true] at h;obtain ⟨k,a,e⟩:=List.getElem_of_mem f;have key:∀ n,eS (iF s) n=true->∀ k,k<n->iF s k=true:=by
  intro n
  induction n with
  | zero=>intro _ k a;omega
  | succ n ih=>
   intro h k a;simp only [eS,Bool.and_eq_true] at h
   by_cases b:k=n
   ·subst b;exact h.2
   ·exact ih h.1 k (by omega)
 have:=key _ h.2 k (by simpa using a)
 rw [iF,List.getD_eq_getElem?_getD,Qf a,Option.getD_some,e,g,d] at this;cases this
theorem KX:qr bT ce:=by
 have b:∀ n:Int,0<=n->n<=1125899906842624->bT (aK n)=some n:=by
  intro n f j;obtain ⟨k,rfl⟩:=Int.eq_ofNat_of_zero_le f;have c:=yw k;have a:=(pO k).2;have h:=uu 15 k (by omega);unfold gF at c a h;have g:cQ 16 (Lib.decDigits k)=true:=by
   rw [cQ,c,a,Qc (by omega),Qc (by unfold kb;omega)];rfl
  simp only [bT,aK,Int.toNat_natCast,g,if_true,a]
 refine ⟨b,λd af=>?_⟩;have e:eW d=d.kind.data.toList++58 :: aK d.many:=by simp [eW]
 have i:=yB 58 d.kind.data.toList (aK d.many) (nF af.1 58 (by decide) (by decide));rw [ce,e,i,b d.many (by have:=af.2;omega) (by have:=af.2;omega)];rfl
theorem KY {α:Type} {f:aR->Option α} {g:α->aR} {a:List α} (h:∀ x∈a,f (g x)=some x):im f (a.map g)=some a:=by induction a <;> grind [im]
theorem KZ {a:List aR} {b:UInt8} (h:b∈Lib.join a [c]):b=c\/∃ x∈a,b∈x:=by
 induction a with
 | nil=>simp [Lib.join_nil] at h
 | cons x r ih=>
  cases r with
  | nil=>rw [Lib.join_one] at h;exact .inr ⟨x,by simp,h⟩
  | cons y t=>
   have e:Lib.join (x :: y :: t) [c]=x++c :: Lib.join (y :: t) [c]:=by simp [Lib.join,List.intercalate,List.intersperse]
   rw [e,Qi,List.mem_cons] at h
   rcases h with h|h|h
   ·exact .inr ⟨x,by simp,h⟩
   ·exact .inl h
   ·rcases ih h with h|⟨z,d,f⟩
    ·exact .inl h
    ·exact .inr ⟨z,by simp at d ⊢;exact .inr d,f⟩
theorem K0 {a:List aR} (h:∀ x∈a,x≠[]) (e:Lib.join a [c]=[]):a=[]:=by
 cases a with
 | nil=>rfl
 | cons x r=>
  rw [Lib.join_cons] at e;exact absurd (List.append_eq_nil_iff.1 e).1 (h x (by simp))
theorem AT {α:Type} {f:aR->Option α} {g:α->aR} {a:List α} (h:∀ x∈a,f (g x)=some x) (d:∀ x∈a,(44:UInt8) ∉ g x) (b:∀ x∈a,g x≠[]/\g x≠[45]):bS f (ei (Lib.join (a.map g) [44]))=some a:=by
 by_cases c:a=[]
 ·subst c;rfl
 ·have Hc:Lib.join (a.map g) [44]≠[]:=λe=>c (by
   have:=K0 (λx i=>by obtain ⟨y,j,rfl⟩:=Qk.1 i;exact (b y j).1) e
   simpa using this)
  have Ha:aG 44 (Lib.join (a.map g) [44])=a.map g:=uz 44 _ (λx i=>by obtain ⟨y,j,rfl⟩:=Qk.1 i;exact d y j) (by simpa using c);have Hb:Lib.join (a.map g) [44]≠[45]:=λe=>by
   rw [e] at Ha;have k:aG 44 [45]=[[45]]:=by decide
   rw [k] at Ha;cases a with
   | nil=>exact c rfl
   | cons x r=>
    rw [Qq] at Ha;injection Ha with h1 h2
    exact (b x (by simp)).2 h1.symm
  rw [ei,if_neg Hc,bS,if_neg Hb,Ha,KY h]
theorem K1 (n:Int):aK n≠[]/\aK n≠[45]:=⟨ut _,λe=>by
 have:=gP n 45 (by decide)
 rw [e] at this;simp at this⟩
theorem K2 (d:ai):eW d≠[]/\eW d≠[45]:=by
 have h:(58:UInt8)∈eW d:=by simp [eW]
 exact ⟨λe=>by rw [e] at h;simp at h,λe=>by rw [e] at h;simp at h⟩
theorem K6 {A:Nat} (h:A<18446744073709551616):oR (oO A)=some A:=by
 have a:=FU A h;unfold oO ei
 split
 ·rename_i e
  rw [e] at a
  have:A=0:=by
   have b:dC []=(0,0):=by decide
   rw [b] at a;injection a with h3 _
   exact h3.symm
  subst this;rfl
 ·unfold oR
  split
  ·rename_i e
   rw [e] at a;have b:(dC [45]).2=4:=by decide
   rw [a] at b;cases b
  ·rw [a];rfl
theorem K7 {num:aR->Option Int} {need:aR->Option ai} (e:qr num need) {c:aA} {g:aP} (o:mr c) (r:nB g):oS num need (eu c++ej g)=some (c,g):=by
 obtain ⟨s,n,f,l,i,u,h⟩:=o;obtain ⟨g1,t,g3⟩:=r;have j:=e.num c.am n.1 (by omega);have a2:=e.num c.ab f.1 f.2;have a3:=e.num c.cm l.1 (by omega);have a4:=e.num c.cb i.1 i.2;have a5:bS need (jL c.ds)=some c.ds:=AT (λd af=>e.need d (h d af)) (λd af=>by
  have q:=nF (h d af).1 44 (by decide) (by decide);have p:=gP d.many 44 (by decide);simp only [eW,Qi,not_or];exact ⟨⟨q,by simp⟩,p⟩) λd _=>K2 d
 have m:=K6 g1;have k:bS num (kn g.dv)=some g.dv:=AT (λd af=>e.num d (g3 d af).1 (by have:=(g3 d af).2;omega)) (λd _=>gP d 44 (by decide)) (λd _=>K1 d)
 show (match num (aK c.am),num (aK c.ab),num (aK c.cm),num (aK c.cb),bS need (jL c.ds),oR (oO g.cp),bS num (kn g.dv) with
  | some a,some b,some c',some d,some ds,some A,some dv=>some (({ nm:=⟨c.nm.data.toList.toArray⟩,am:=a,ab:=b,cm:=c',cb:=d,ds:=ds }:aA),({ cp:=A,dv:=dv }:aP))
  | _,_,_,_,_,_,_=>none)=_
 rw [j,a2,a3,a4,a5,m,k]
def kr (h:ad):Nat->List (List aR)
 | 0=>[]
 | k+1=>kr h k++[eu (ae h.pod.cs k)++ej (aq h.gs k)]
def oT (h:ad):List (List aR):=gm h.pod :: kr h h.pod.cs.length
def lm (hs:List ad):Nat->List (List aR)
 | 0=>[]
 | k+1=>lm hs k++oT (af hs k)
theorem sO (num:aR->Option Int) (need:aR->Option ai) (a b:List (List aR)):∀ hs,eG num need hs (a++b)=(eG num need hs a).bind λx=>eG num need x b:=by induction a <;> grind [eG,eX]
theorem K8 (h:k<cs.length):cs.take (k+1)=cs.take k++[ae cs k]:=by
 rw [Qa h];simp [ae,h]
theorem K9 {cs:List aP} (h:k<cs.length):cs.take (k+1)=cs.take k++[aq cs k]:=by
 rw [Qa h];simp [aq,h]
theorem La {cs:List ad} (h:k<cs.length):cs.take (k+1)=cs.take k++[af cs k]:=by
 rw [Qa h];simp [af,h]
theorem AU (hs:List ad) (x:ad) (c:aA) (g:aP):kq (hs++[x]) c g=hs++[sN x c g]:=by
 simp [kq,af]
theorem Lb {num:aR->Option Int} {need:aR->Option ai} (b:qr num need) {h:ad} (e:ko h) (hs:List ad):∀ k,k<=h.pod.cs.length->eG num need (hs++[⟨⟨h.pod.nm,h.pod.pr,[]⟩,[]⟩]) (kr h k)=some (hs++[⟨⟨h.pod.nm,h.pod.pr,h.pod.cs.take k⟩,h.gs.take k⟩]):=by
 intro k
 induction k with
 | zero=>intro _;rfl
 | succ k ih=>
  intro d;obtain ⟨a,c⟩:=sM e (k:=k) (by omega);rw [kr,sO,ih (by omega),Option.bind_some,eG,eX,if_neg (by simp [jl,aj,eu]:¬ jl (eu (ae h.pod.cs k)++ej (aq h.gs k))=true),if_pos ⟨by rfl,by simp⟩,K7 b a c]
  show some (kq (hs++[_]) _ _)=_
  rw [AU,K8 (by omega),K9 (by rw [e.2.1];omega)];rfl
theorem Lc {num:aR->Option Int} {need:aR->Option ai} (a:qr num need) {h:ad} (e:ko h) (hs:List ad):eG num need hs (oT h)=some (hs++[h]):=by
 have b:=a.num h.pod.pr e.1.2.1.1 (by have:=e.1.2.1.2;omega);have c:eX num need hs (gm h.pod)=some (hs++[⟨⟨h.pod.nm,h.pod.pr,[]⟩,[]⟩]):=by
  rw [eX,if_pos (by rfl)]
  show (num (aK h.pod.pr)).map _=_
  rw [b];rfl
 rw [oT,eG,c]
 show eG num need _ (kr h _)=_
 rw [Lb a e hs _ (lR),Qh,<- e.2.1,Qh]
theorem Ld {num:aR->Option Int} {need:aR->Option ai} (a:qr num need) {hs:List ad} (e:li hs):∀ k,k<=hs.length->eG num need [] (lm hs k)=some (hs.take k):=by
 intro k
 induction k with
 | zero=>intro _;rfl
 | succ k ih=>
  intro b;rw [lm,sO,ih (by omega),Option.bind_some,Lc a (e.2 _ (mv (by omega))),La (by omega)]
def oU (ws:List aR):Prop:=ws≠[]/\∀ x∈ws,(32:UInt8) ∉ x/\(10:UInt8) ∉ x
theorem vS {l:aR} (a:c≠45) (h:c ∉ l):c ∉ ei l:=by
 unfold ei;split
 ·simpa using a
 ·exact h
theorem sP {b:UInt8} {a:List aR} (d:b≠c) (h:∀ x∈a,b ∉ x):b ∉ Lib.join a [c]:=by grind [KZ]
theorem Le (p:Nat × Nat) (c:UInt8) (b:fC c=false) (a:c≠45):c ∉ cU p:=by grind [oz,cU]
theorem Lf (A:Nat) (c:UInt8) (d:fC c=false) (b:c≠45) (a:c≠44):c ∉ iz A:=by grind [iz,jB,sP,Le]
theorem Lg (h:qm p):oU (gm p):=by
 refine ⟨by simp [gm],λx a=>?_⟩;simp only [gm,List.mem_cons,List.not_mem_nil,or_false] at a
 rcases a with rfl|rfl|rfl
 ·decide
 ·exact ⟨nF h.1 32 (by decide) (by decide),nF h.1 10 (by decide) (by decide)⟩
 ·exact ⟨gP _ _ (by decide),gP _ _ (by decide)⟩
theorem Lh {c:aA} {g:aP} (h:mr c):oU (eu c++ej g):=by
 obtain ⟨i,r,q,p,s,t,m⟩:=h;have k:∀ b:UInt8,b=32\/b=10->b ∉ jL c.ds:=λb a=>by
  refine vS (by rcases a with rfl|rfl <;> decide) (sP (by rcases a with rfl|rfl <;> decide) λx e=>?_);obtain ⟨d,af,rfl⟩:=Qk.1 e;have o:b ∉ d.kind.data.toList:=by rcases a with rfl|rfl <;> exact nF (m d af).1 _ (by decide) (by decide)
  have n:b ∉ aK d.many:=by rcases a with rfl|rfl <;> exact gP _ _ (by decide)
  have l:b≠58:=by rcases a with rfl|rfl <;> decide
  simp [eW,o,n,l]
 have f:∀ b:UInt8,b=32\/b=10->b ∉ oO g.cp:=λb a=>by
  refine vS (by rcases a with rfl|rfl <;> decide) (Lf _ _ ?_ ?_ ?_) <;> rcases a with rfl|rfl <;> decide
 have j:∀ b:UInt8,b=32\/b=10->b ∉ kn g.dv:=λb a=>by
  refine vS (by rcases a with rfl|rfl <;> decide) (sP (by rcases a with rfl|rfl <;> decide) λx e=>?_);obtain ⟨d,af,rfl⟩:=Qk.1 e
  rcases a with rfl|rfl <;> exact gP _ _ (by decide)
 refine ⟨by simp [eu],λx e=>?_⟩;simp only [eu,ej,List.cons_append,List.nil_append,List.mem_cons,List.not_mem_nil,or_false] at e
 rcases e with rfl|rfl|rfl|rfl|rfl|rfl|rfl|rfl|rfl
 ·decide
 ·exact ⟨nF i 32 (by decide) (by decide),nF i 10 (by decide) (by decide)⟩
 ·exact ⟨gP _ _ (by decide),gP _ _ (by decide)⟩
 ·exact ⟨gP _ _ (by decide),gP _ _ (by decide)⟩
 ·exact ⟨gP _ _ (by decide),gP _ _ (by decide)⟩
 ·exact ⟨gP _ _ (by decide),gP _ _ (by decide)⟩
 ·exact ⟨k 32 (.inl rfl),k 10 (.inr rfl)⟩
 ·exact ⟨f 32 (.inl rfl),f 10 (.inr rfl)⟩
 ·exact ⟨j 32 (.inl rfl),j 10 (.inr rfl)⟩
def iL (ls:List (List aR)):aR:=(ls.map jM).flatten
theorem AV (a b:List (List aR)):iL (a++b)=iL a++iL b:=by simp [iL]
theorem Li (h:ad) (k:Nat):iL (kr h k)=fv h k:=by induction k <;> grind [kr,AV,fv,iL,lh]
theorem Lj (h:ad):iL (oT h)=iK h:=by
 rw [oT,iK,<- Li];simp [iL,jN]
theorem Lk (hs:List ad) (k:Nat):iL (lm hs k)=gO hs k:=by
 induction k with
 | zero=>rfl
 | succ k ih=>rw [lm,AV,ih,Lj,gO]
theorem Ll {h:ad} (e:ko h):∀ k,k<=h.pod.cs.length->∀ ws∈kr h k,oU ws:=by
 intro k
 induction k with
 | zero=>intro _ ws a;simp [kr] at a
 | succ k ih=>
  intro b ws a;rw [kr,Qi,Qm] at a
  rcases a with a|rfl
  ·exact ih (by omega) ws a
  ·exact Lh (sM e (by omega)).1
theorem Lm {hs:List ad} (e:li hs):∀ k,k<=hs.length->∀ ws∈lm hs k,oU ws:=by
 intro k
 induction k with
 | zero=>intro _ ws a;simp [lm] at a
 | succ k ih=>
  intro c ws a;rw [lm,Qi] at a
  rcases a with a|a
  ·exact ih (by omega) ws a
  ·have b:=e.2 _ (mv (ds:=hs) (k:=k) (by omega));rw [oT,List.mem_cons] at a
   rcases a with rfl|a
   ·exact Lg b.1
   ·exact Ll b _ (lR) ws a
theorem Ln (a:List (List aR)) (h:∀ ws∈a,oU ws):aG 10 (iL a)=a.map (λws=>Lib.join ws [32])++[[]]:=by
 induction a with
 | nil=>rfl
 | cons ws r ih=>
  have e:iL (ws :: r)=Lib.join ws [32]++10 :: iL r:=by simp [iL,jM]
  rw [e,pR 10 _ _ (sP (by decide) λx b=>((h ws (by simp)).2 x b).2),ih λy c=>h y (by simp [c])];rfl
theorem Lo (a:List (List aR)) (h:∀ ws∈a,oU ws):(a.map λws=>Lib.join ws [32]).map (aG 32)=a:=by
 rw [List.map_map]
 conv=>rhs;rw [<- List.map_id a]
 refine List.map_congr_left λws b=>?_
 exact uz 32 ws (λx c=>((h ws b).2 x c).1) (h ws b).1
theorem Lp {hs:List ad} (e:li hs):gp (cX hs)=some hs:=by
 have b:=Lm e _ (lR);have a:=Ln _ b;rw [Lk] at a
 change aG 10 (cX hs)=_ at a
 have c:qq (cX hs)=(lm hs hs.length).map λws=>Lib.join ws [32]:=by
  rw [qq,a,if_pos (by simp),List.dropLast_concat]
 rw [gp,c,Lo _ b,Ld KX e _ (lR),Qh]
theorem AW (c:UInt8) (l:List UInt8):(Lib.indexByte l c=-1/\c ∉ l)\/∃ i:Nat,Lib.indexByte l c=i/\i<l.length/\l=l.take i++c :: l.drop (i+1)/\c ∉ l.take i:=by
 induction l with
 | nil=>exact .inl ⟨rfl,by simp⟩
 | cons b r ih=>
  by_cases h:b=c
  ·subst h;exact .inr ⟨0,by simp [Lib.indexByte],by simp,by simp,by simp⟩
  ·have d:(b == c)=false:=by simpa using h
   rcases ih with ⟨a,f⟩|⟨i,a,f,k,j⟩
   ·exact .inl ⟨by simp [Lib.indexByte,d,a],by simp only [List.mem_cons,not_or];exact ⟨λe=>h e.symm,f⟩⟩
   ·refine .inr ⟨i+1,?_,by simp only [Qg];omega,?_,?_⟩
    ·have g:((i:Int) == -1)=false:=by simp
     simp [Lib.indexByte,d,a,g]
    ·simp only [List.take_succ_cons,List.drop_succ_cons,List.cons_append];exact congrArg (b :: ·) k
    ·simp only [List.take_succ_cons,List.mem_cons,not_or];exact ⟨λe=>h e.symm,j⟩
theorem AX (r:List UInt8) (i:Nat):(ByteArray.mk r.toArray).extract 0 i=⟨(r.take i).toArray⟩:=by apply ByteArray.ext;simp
theorem AY (r:List UInt8) (i:Nat):(ByteArray.mk r.toArray).extract i r.length=⟨(r.drop i).toArray⟩:=by
 apply ByteArray.ext
 simp
 exact List.take_of_length_le (by simp)
def KSp (h j:Nat):Prop:=j=h\/j=h+1\/j=h+2
structure ks (W:World) (h:Nat) (c:UInt8) (s:List UInt8):Prop where
 s:Boxed W h 9 (.string ⟨s.toArray⟩)
 p:Boxed W (h+1) 9 (.string ⟨#[c]⟩)
 z:Boxed W (h+2) 3 (0:Int)
theorem ks.kept (b:ks W h c s) (a:∀ j,KSp h j->W'.heap[j]?=W.heap[j]?):ks W' h c s:=
 ⟨(a h (.inl rfl)).trans b.s,(a (h+1) (.inr (.inl rfl))).trans b.p,(a (h+2) (.inr (.inr rfl))).trans b.z⟩
theorem ks.set (b:ks W h c s) (t:List UInt8):ks (W.setCell h (.string ⟨t.toArray⟩)) h c t:=
 ⟨b.s.set _,(Below.heap_setCell W h _ (h+1) (by simp)).trans b.p,(Below.heap_setCell W h _ (h+2) (by simp)).trans b.z⟩
theorem AZ (s:ByteArray) (c:UInt8) (w:World):Calls prog 286 #[s,.string ⟨#[c]⟩] w λe w'=>
  e=.returned (.func (.func 322) #[] #[.pointer (some ⟨w.heap.size+1,0,none⟩),.pointer (some ⟨w,0,none⟩),.pointer (some ⟨w.heap.size+2,0,none⟩)])/\ks w' w c s.data.toList/\Below w w w'/\w'=w.heap.size+3:=by
 have hi:Calls prog 304 #[s,.string ⟨#[c]⟩,(0:Int)] w λe w'=>
  e=.returned (.func (.func 322) #[] #[.pointer (some ⟨w.heap.size+1,0,none⟩),.pointer (some ⟨w,0,none⟩),.pointer (some ⟨w.heap.size+2,0,none⟩)])/\w'=((w.alloc (.cells #[s] 9)).alloc (.cells #[.string ⟨#[c]⟩] 9)).alloc (.cells #[(0:Int)] 3):=by
  go_enter func304,ntmps304
  go_wp2
  go_ret;exact ⟨rfl,rfl⟩
 go_enter func286,ntmps286
 go_wp2_with fail
 refine hi.mono ?_;rintro e b ⟨rfl,rfl⟩
 go_wp2
 go_ret;have b1:=((Boxed.new w 9 s).alloc (.cells #[.string ⟨#[c]⟩] 9)).alloc (.cells #[(0:Int)] 3);have b2:=(Boxed.new (w.alloc (.cells #[s] 9)) 9 (.string ⟨#[c]⟩)).alloc (.cells #[(0:Int)] 3);have a:=Boxed.new ((w.alloc (.cells #[s] 9)).alloc (.cells #[.string ⟨#[c]⟩] 9)) 3 (0:Int);simp only [World.size_alloc] at b2 a;exact ⟨rfl,⟨b1,b2,a⟩,(((Q0 _ _).alloc (lR) _).alloc (by simp) _).alloc (by simp;omega) _,by simp⟩
def vT (W:World) (h:Nat):Nat:=match W.cell? h with
 | some (.string b)=>b.size
 | _=>0
theorem A1 (b:ks W h c s):vT W h=s.length:=by
 unfold vT;rw [b.s.cell];rfl
def dL (c:UInt8) (s:List UInt8):List (Array Value):=(aG c s).map λ(x:List UInt8)=>#[Value.string ⟨x.toArray⟩]
theorem Lq (h:aG c r=(aG c s).drop k) (f:r=r.take i++c :: r.drop (i+1)) (d:c ∉ r.take i):(∃ b:k<(dL c s).length,(dL c s)[k]=#[Value.string ⟨(r.take i).toArray⟩])/\k+1<(dL c s).length/\aG c (r.drop (i+1))=(aG c s).drop (k+1):=by
 have e:aG c r=r.take i :: aG c (r.drop (i+1)):=by
  conv=>lhs;rw [f]
  exact pR c _ _ d
 rw [e] at h;have b:k<(aG c s).length:=by
  refine Nat.lt_of_not_le λa=>?_
  rw [List.drop_eq_nil_of_le a] at h;cases h
 rw [List.drop_eq_getElem_cons b] at h;injection h with h1 h2
 have Ha:k+1<(aG c s).length:=by
  refine Nat.lt_of_not_le λa=>?_
  rw [List.drop_eq_nil_of_le a] at h2;exact m7 _ _ h2
 exact ⟨⟨by simpa [dL] using b,by simp only [dL,List.getElem_map,<- h1]⟩,by simpa [dL] using Ha,h2⟩
theorem Lr (h:aG c r=(aG c s).drop k) (b:c ∉ r):(∃ a:k<(dL c s).length,(dL c s)[k]=#[Value.string ⟨r.toArray⟩])/\k+1=(dL c s).length:=by grind [rG,aG,dL,Nat.lt_of_not_le,List.drop_eq_nil_of_le,List.drop_eq_getElem_cons,List.drop_eq_nil_iff,Q9]
theorem A3 (n:Nat) (F:1<=n) (h:Nat) (c:UInt8) (s:List UInt8) (w:World) (y:ks w h c s) (H:s.length<=1000000) :
  vQ Fence.wide n prog 322 #[(h+1:Nat),h,(h+2:Nat)] (KSp h) (dL c s) w:=by
 intro l J E W t u x q;have Hk:=y.kept t;have Hz:=Hk.p.cell;refine callsIn_of_wp func322 rfl trivial ?_ rfl;simp only [ntmps322,List.size_toArray,Qg,List.length_nil,Nat.reduceAdd,Nat.reduceSub,Array.replicate_succ,Array.replicate_zero,List.push_toArray,List.append_toArray,List.nil_append,List.cons_append];have g:=qI x;have z:=qI u;have C:=qI Hk;have A:=qI q;clear x u y t q Hk
 gi_wp2_with fail
 gi_loopw [] (λwr=>∃ k r,ks wr h c r/\aG c r=(aG c s).drop k/\r.length<=s.length/\J k wr) λwr=>vT wr h
 case atStart=>exact ⟨0,s,C.o,rfl,lR,A.o⟩
 case round=>
  obtain ⟨k,r,Ha,Hf,hle,Hi⟩:=hrel;have Hs:=Ha.s.cell;have Hr:=Ha.p.cell;have Hq:=Ha.z.cell;have hf:=Ha.s.frozen;have a:=qI (Tryz.strings_Index_one ⟨r.toArray⟩ c wr);have o:(ByteArray.mk r.toArray).data.toList=r:=by simp
  rw [o] at a;have Hm:=qI Ha;have Hp:=qI (A1 Ha)
  rcases AW c r with ⟨hi,Ho⟩|⟨i,hi,Hw,v,p⟩
  ·obtain ⟨⟨m,Hh⟩,Hj⟩:=Lr Hf Ho;obtain ⟨fn,tmps,assign,body,d,f⟩:=g.o k wr m Hi;rw [Hh] at d;rw [hi] at a;clear Ha Hf Ho g z o
   gi_wp2_with fail
   refine ⟨trivial,(callsIn_wide.2 a.o).mono ?_⟩;rintro e D ⟨rfl,rfl⟩
   gi_wp2_with fail
   refine f.mono ?_;rintro e j (⟨rfl,Hg,Hl⟩|⟨rfl,Hb⟩)
   ·gi_wp2_with fail
    go_end0
    exact ⟨⟨_,rfl⟩,.inl (by rw [<- Hj];exact Hg)⟩
   ·gi_wp2_with fail
    go_end0
    exact ⟨⟨_,rfl⟩,.inr Hb⟩
  ·obtain ⟨⟨m,Hh⟩,Ht,Hc⟩:=Lq Hf v p;obtain ⟨fn,tmps,assign,body,d,f⟩:=g.o k wr m Hi;rw [Hh] at d;rw [hi] at a;have Hx:=AX r i;have Hy:=AY r (i+1);have Hv:=qI Hc;clear Ha Hf v p o Hc Hh hi Ht
   gi_wp2_with fail
   refine ⟨trivial,(callsIn_wide.2 a.o).mono ?_⟩;rintro e D ⟨rfl,rfl⟩
   gi_wp2_with fail
   refine f.mono ?_;rintro e j (⟨rfl,Hg,Hl⟩|⟨rfl,Hb⟩)
   ·have He:=Hm.o.kept Hl;have G:=He.s.cell;have t2:=He.p.cell;have t4:=He.s.frozen;have Hn:=qI (He.set (r.drop (i+1)));have B:=qI (z.o (k+1) j _ Hg (Apart.setCell (b:=h) (.inl rfl) j 0 (.string ⟨(r.drop (i+1)).toArray⟩)));clear He Hl Hg Hm f d Hs Hr Hq hf Hi
    gi_wp2_with fail
    go_roundw
    case rel=>exact ⟨k+1,r.drop (i+1),Hn.o,Hv.o,by rw [List.length_drop];omega,B.o⟩
    case measure=>rw [A1 Hn.o,Hp.o,List.length_drop];omega
   ·gi_wp2_with fail
    refine Qx (results_none rfl _ _ _) rfl ?_;exact ⟨⟨_,rfl⟩,.inr Hb⟩
def mx (R:Act->World->Prop):Exit->Act->World->Prop
 | .normal,a,w=>R a w
 | _,_,_=>False
theorem mx.mk {R:Act->World->Prop} {a:Act} (h:R a w):mx R .normal a w:=h
theorem A4 (R:Act->World->Prop):¬ LetsOut (mx R):=by
 rintro ⟨a,w,h⟩;exact h
section
variable {P:Program} {ops:Array Oper} {Q:Exit->Act->World->Prop} {l n:Nat}
theorem Ls (p:∀ (i:Nat) (o:Oper) c,ops[i]?=some o->o.op≠Op.defer c) (j:¬ LetsOut Q):∀ (g:List Nat) (a:Act) (w:World),wpOps P ops Q g a w->wpOpsIn (Fence.wide.inRound l) n P ops Q g a w:=by
 intro g
 induction g with
 | nil=>intro a w h;exact h
 | cons i r ih=>
  intro a w h;unfold wpOps at h;unfold wpOpsIn;cases ho:ops[i]? with
  | none=>rw [ho] at h;exact ih a w h
  | some o=>
   rw [ho] at h;dsimp only at h ⊢
   split at h
   ·rename_i k
    rw [if_pos k]
    rcases h with h|h
    ·refine ⟨λ_ _=>trivial,?_⟩;rw [Oper.semAt_eq _ _ _ λc=>p i o c ho];unfold Oper.wp at h;generalize (execOp a.eval o).run P w=q at h ⊢;cases q with
     | ok nx w'=>
      cases nx with
      | value v=>exact ih _ _ h
      | skip=>exact ih _ _ h
      | defer d=>exact ih _ _ h
      | enter f args=>
       refine ⟨(λe=>by cases e),CallsIn.inRound l (callsIn_wide.2 (Calls.mono h ?_))⟩;rintro e b m;cases e with
       | returned v=>exact ih _ _ m
       | panicked ch=>exact m
       | outgrown=>exact m
      | row rn args=>
       exact ⟨(λe=>by cases e),λc cs _=>by
        obtain ⟨v,b,s,hs⟩:=h c cs;exact ⟨v,b,ih _ _ s,stepsIn_wide.2 hs⟩⟩
      | _=>exact h.elim
     | halt ht w'=>
      cases ht with
      | panic v=>exact h
      | _=>exact h.elim
    ·exact absurd h.2 j
   ·rename_i k
    rw [if_neg k];exact ⟨λ_ _=>trivial,ih _ _ h⟩
theorem A5 {S:World->Prop} {id:Nat} {a:Act} {w:World} (e:P.follows .mixedOrders=true) (d:∀ (i:Nat) (o:Oper) c,ops[i]?=some o->o.op≠Op.defer c) (b:¬ LetsOut Q)
  (h:wpAnyH P .any ops Q S ops.size (Array.replicate ops.size false) a w.drew):(Code.region id ops true).wpIn (Fence.wide.inRound l) n P Q a w:=
 wpIn_region_draw λt=>by
  simp only [Region.schedule,e,Bool.true_or,if_true];exact Ls d b _ _ _ (wpAny_sound ops.size t _ a _ (wpAny_of_held _ _ _ _ h))
theorem A6 {F:Fence} {c:Code} {R:Act->World->Prop} {a:Act} {w:World} (h:Code.wpIn F n P c (mx R) a w) (b:∀ a w,R a w->Q .normal a w):Code.wpIn F n P c Q a w:=
 wpIn_mono h λe a w h=>by
  cases e with
  | normal=>exact b _ _ h
  | _=>exact h.elim
end
theorem bA.slice {v:Value} (h:bA w v xs):∃ a c,v=.slice a xs.length c:=by
 obtain ⟨a,c,rfl,_⟩:=h;exact ⟨a,c,rfl⟩
theorem Lt (h:16<xs.length):dK xs=2:=by unfold dK;rw [if_pos h]
theorem Lu (h:¬ 16<xs.length):dK xs=bh (il xs) xs.length:=by unfold dK;rw [if_neg h]
def nG (xs:List Int) (k:Nat):Int:=if k=0 then -1 else xs.getD (k - 1) 0
theorem Lv (a:List Int) (k:Nat):nG a (k+1)=a.getD k 0:=rfl
theorem Lw (h:bh (il xs) k=0) (d:k<xs.length):il xs k=if xs.getD k 0<=nG xs k\/16<=xs.getD k 0 then 3 else 0:=by
 unfold il
 by_cases c:k=0
 ·subst c;rw [show nG xs 0=-1 from rfl]
  by_cases b:xs.getD 0 0<0\/15<xs.getD 0 0
  ·rw [if_pos (by omega),if_pos (by omega)]
  ·rw [if_neg (by omega),if_neg (by omega)]
 ·have e:nG xs k=xs.getD (k - 1) 0:=by unfold nG;rw [if_neg c]
  rw [e];have a:=eR h (k - 1) (by omega);unfold il at a
  split at a
  ·cases a
  rename_i f
  by_cases b:xs.getD k 0<=xs.getD (k - 1) 0\/16<=xs.getD k 0
  ·rw [if_pos b,if_pos (by omega)]
  ·rw [if_neg b,if_neg (by omega)]
theorem Lx (v:Value) (a:List Int) (w:World) (h:bA w v a):Calls prog 225 #[v] w λe w'=>e=.returned (aL (dK a:Nat))/\w'=w:=by
 obtain ⟨G,c,rfl,y,z⟩:=h;have s:=qI z;clear z;have B:=qI y;unfold maxLen at y
 by_cases t:16<a.length
 ·have D:=Lt t;have af:decide ((16:Int)<(a.length:Int))=true:=Qc (by omega)
  go_enter func225,ntmps225
  go_wp2
  go_ret;exact ⟨by rw [D];rfl,rfl⟩
 ·rw [Lu t];have H:a.length<=16:=by omega
  have af:decide ((16:Int)<(a.length:Int))=false:=Q7 (by omega)
  go_enter func225,ntmps225
  go_wp2_with fail
  go_loop [3,12] (λla i=>∃ k:Nat,k<=a.length/\i=.int .i64 k/\la=.int .i64 (nG a k)/\Hu (bh (il a) k=0)) (λ_ i=>a.length - (intOf i).toNat)
  case atStart=>exact ⟨0,by omega,rfl,rfl,rfl⟩
  case round=>
   obtain ⟨k,I,rfl,rfl,g⟩:=hrel
   by_cases d:k<a.length
   ·obtain ⟨b,o,rfl,F,u⟩:=s.o (by omega);have E:=u k d;have q:=qI (kU (f:=il a) (n:=a.length) g.o · d);have r:=qI (l8 (f:=il a) (k:=k) g.o);have j:=qI (Lw g.o d);have A:=qI (Lv a k);clear u g s B;generalize a.getD k 0=x at *;generalize nG a k=L at *
    by_cases m:x<=L
    ·have p:il a k=3:=by rw [j.o,if_pos (.inl m)]
     have Hc:decide (x<=L)=true:=Qc m;have Ha:=qI (q.o (by omega))
     go_wp2
     go_ret;exact ⟨by rw [Ha.o,p];rfl,rfl⟩
    ·have Hc:decide (x<=L)=false:=Q7 m
     by_cases l:16<=x
     ·have p:il a k=3:=by rw [j.o,if_pos (.inr l)]
      have He:decide (16<=x)=true:=Qc l;have Ha:=qI (q.o (by omega))
      go_wp2
      go_ret;exact ⟨by rw [Ha.o,p];rfl,rfl⟩
     ·have C:il a k=0:=by rw [j.o,if_neg (by omega)]
      have He:decide (16<=x)=false:=Q7 l;have Hf:=qI (r.o C);clear q r j
      go_wp2_with fail
      go_round
      case rel=>exact ⟨k+1,by omega,by go_num,by rw [A.o],Hf⟩
      case measure=>simp [intOf];omega
   ·have Hb:k=a.length:=by omega
    subst Hb
    go_wp2
    go_ret;exact ⟨by rw [g.o];rfl,rfl⟩
theorem oQ.at {b:Nat} {gs:List aP} {dv:Nat->Value} (h:oQ w b o gs dv) (a:k<gs.length) :
  w.cell? ⟨b,o+k*2,none⟩=some (.int .u64 (aq gs k).cp)/\w.cell? ⟨b,o+k*2+1,none⟩=some (dv k):=⟨(h.2 k a).1.1,(h.2 k a).1.2.1⟩
theorem Ly {h:ad} (e:br h.pod≠0):fL h b=br h.pod:=by unfold fL;rw [if_pos e]
theorem A7 {h:ad} (e:br h.pod=0) (a:b=true\/h.gs.length≠h.pod.cs.length):fL h b=3:=by unfold fL;rw [if_neg (by omega),if_pos a]
theorem Lz {h:ad} {b:Bool} (e:br h.pod=0) (a:¬ (b=true\/h.gs.length≠h.pod.cs.length)):fL h b=bh (λk=>dK (aq h.gs k).dv) h.gs.length:=by unfold fL;rw [if_neg (by omega),if_neg a];rfl
theorem aZ.sl {v:Value} (h:aZ w v cs):∃ a c,v=.slice a cs.length c:=by
 obtain ⟨a,c,rfl,_⟩:=h;exact ⟨a,c,rfl⟩
theorem cq.sl {v:Value} {cs:List aP} (h:cq w v cs):∃ a c,v=.slice a cs.length c:=by
 obtain ⟨a,c,rfl,_⟩:=h;exact ⟨a,c,rfl⟩
theorem LA (h:ad) (cv l:Value) (a:ByteArray) (w:World) (A:aZ w cv h.pod.cs) (v:cq w l h.gs) :
  Calls prog 174 #[vP h cv l,a] w λe w'=>e=.returned (aL (fL h (dE h.pod.nm a):Nat))/\Below w w w':=by
 unfold vP;have Ha:=qI ((Q0 w w).alloc (lR) (.cells #[h.pod.nm,(h.pod.pr:Int),cv,l] 101));have Hh:=A.below Ha.o;have Hk:=v.below Ha.o;have Hg:=qI (vJ h.pod cv _ Hh);have Hl:=qI Hh;have Hj:=qI Hk;obtain ⟨B,cc,rfl⟩:=A.sl;obtain ⟨x,gc,rfl⟩:=v.sl;clear A v Hh Hk;unfold du at Hg
 by_cases q:br h.pod=0
 ·have K:aL ((br h.pod:Nat):Int)=.nilIface:=by rw [q];rfl
  go_enter func174,ntmps174
  go_wp2_with fail
  refine Hg.o.mono ?_;rintro e r ⟨rfl,c⟩;rw [K];have He:=qI (Ha.o.trans (c.mono Ha.o.size));have J:=Hj.o.below c;have c0:cl r w (0) h.pod.nm:=(c.cell (p:=w.heap.size) (by simp)).trans (by simp);have c2:cl r w (2) (.slice B h.pod.cs.length cc):=(c.cell (p:=⟨w,2,none⟩) (by simp)).trans (by simp);have c3:cl r w (3) (.slice x h.gs.length gc):=(c.cell (p:=⟨w,3,none⟩) (by simp)).trans (by simp);clear c Hg Hl Hj
  rcases two (dE h.pod.nm a) with hle|hle
  ·have g:=qI (A7 (b:=dE h.pod.nm a) q (.inl hle));unfold dE at hle
   go_wp2
   go_ret;exact ⟨by rw [g.o];rfl,He.o⟩
  ·by_cases E:h.gs.length=h.pod.cs.length
   ·have g:=qI (Lz (b:=dE h.pod.nm a) q (by rw [hle];simp [E]));unfold dE at hle;have Ht:(h.gs.length:Int)=(h.pod.cs.length:Int):=by omega
    obtain ⟨_,_,Hq,D,G⟩:=J;cases Hq;have I:=qI G;have M:=qI D;clear G;unfold maxLen at D;generalize h.gs=gs at *
    go_wp2
    go_loopw [34] (λi wr=>∃ k:Nat,k<=gs.length/\i=.int .i64 k/\Below w w wr/\Below r r wr/\Hu (bh (λk=>dK (aq gs k).dv) k=0)) (λi _=>gs.length - (intOf i).toNat)
    case atStart=>exact ⟨0,by omega,rfl,He.o,Q0 _ _,rfl⟩
    case round=>
     obtain ⟨k,P,rfl,s,Hb,u⟩:=hrel
     by_cases j:k<gs.length
     ·obtain ⟨b,o,dv,rfl,Hc⟩:=I.o (by omega);have Hc:=Hc.below Hb;obtain ⟨L,N⟩:=Hc.at j;have z:=(Hc.2 k j).2;have C:Hu (dK (aq gs k).dv≠0->bh (λk=>dK (aq gs k).dv) gs.length=dK (aq gs k).dv):=qI λh=>kU (f:=λk=>dK (aq gs k).dv) (n:=gs.length) u.o h j
      have y:Hu (dK (aq gs k).dv=0->bh (λk=>dK (aq gs k).dv) (k+1)=0):=qI λh=>l8 (f:=λk=>dK (aq gs k).dv) (k:=k) u.o h
      have Hn:=qI ((Q0 wr wr).alloc (lR) (.cells #[.int .u64 (aq gs k).cp,dv k] 123));have Hf:=qI (s.alloc s.size (.cells #[.int .u64 (aq gs k).cp,dv k] 123));have Hr:=qI (Hb.alloc Hb.size (.cells #[.int .u64 (aq gs k).cp,dv k] 123));have Hi:=qI (Lx (dv k) _ _ (z.below Hn.o));obtain ⟨H,O,Ho⟩:=z.slice;clear Hc z u s Hb;generalize (aq gs k).cp=cp at *;generalize dK (aq gs k).dv=F at *;generalize (aq gs k).dv.length=dn at *;generalize dv k=d at *;subst Ho
      go_wp2_with fail
      refine Hi.o.mono ?_;rintro e Q ⟨rfl,rfl⟩
      by_cases m:F=0
      ·have Hm:=qI (y.o m);rw [show aL (F:Int)=.nilIface by rw [m];rfl];clear C y m Hi
       go_wp2
       go_roundw
       case rel=>exact ⟨k+1,by omega,by go_num,Hf.o,Hr.o,Hm⟩
       case measure=>simp [intOf];omega
      ·have Hs:=qI (C.o m);have t:=qI (eV m);rw [t.o];clear C y m Hi
       go_wp2
       go_ret;exact ⟨by rw [g.o,Hs.o,t.o];rfl,Hf.o⟩
     ·have Hp:k=gs.length:=by omega
      subst Hp;have Hf:=qI s;clear s Hb
      go_wp2
      go_ret;exact ⟨by rw [g.o,u.o];rfl,Hf.o⟩
   ·have g:=qI (A7 (b:=dE h.pod.nm a) q (.inr E));unfold dE at hle;have Ht:((h.gs.length:Int) == (h.pod.cs.length:Int))=false:=by simp;omega
    go_wp2
    go_ret;exact ⟨by rw [g.o];rfl,He.o⟩
 ·have g:=qI (Ly (b:=dE h.pod.nm a) q);have t:=qI (eV q)
  go_enter func174,ntmps174
  go_wp2_with fail
  refine Hg.o.mono ?_;rintro e r ⟨rfl,c⟩;have He:=qI (Ha.o.trans (c.mono Ha.o.size));rw [t.o];clear c
  go_wp2
  go_ret;exact ⟨by rw [g.o,t.o];rfl,He.o⟩
theorem mw.at {b:Nat} {hs:List ad} (h:mw w b o hs cv gvv) (a:k<hs.length) :
  w.cell? ⟨b,o+k*4,none⟩=some (.string (af hs k).pod.nm)/\w.cell? ⟨b,o+k*4+1,none⟩=some (.int .i64 (af hs k).pod.pr)/\w.cell? ⟨b,o+k*4+2,none⟩=some (cv k)/\w.cell? ⟨b,o+k*4+3,none⟩=some (gvv k):=(h.2 k a).1
def oV (hs:List ad) (k:Nat):ByteArray:=if k=0 then ByteArray.empty else (af hs (k - 1)).pod.nm
theorem LB (hs:List ad) (k:Nat):oV hs (k+1)=(af hs k).pod.nm:=rfl
theorem LC {s:ByteArray} (h:bN s=true):dE s ByteArray.empty=false:=by
 have b:=(lj h).1;rw [dE,Qs,Qs];cases hs:s.data.toList with
 | nil=>rw [hs] at b;simp at b
 | cons a r=>rfl
theorem LD {h:ad} (a:bN h.pod.nm=true->b=false):fL h b=fL h false:=by grind [fL,br,qi]
theorem LE (hs:List ad) (k:Nat):fL (af hs k) (dE (af hs k).pod.nm (oV hs k))=mq hs k:=by grind [mq,oP,oV,fL,af,LD,LC]
theorem LF {hs:List ad} (h:12<hs.length):bt hs=2:=by unfold bt;rw [if_pos h]
theorem LG {hs:List ad} (h:¬ 12<hs.length):bt hs=bh (mq hs) hs.length:=by unfold bt;rw [if_neg h]
theorem LH (v:Value) (hs:List ad) (w:World) (h:aX w v hs):Calls prog 136 #[v] w λe w'=>e=.returned (aL (bt hs:Nat))/\Below w w w':=by
 obtain ⟨M,c,rfl,x,y⟩:=h;have B:=qI y;clear y;have J:=qI x;unfold maxLen at x
 by_cases u:12<hs.length
 ·have E:=LF u;have Hk:decide ((12:Int)<(hs.length:Int))=true:=Qc (by omega)
  go_enter func136,ntmps136
  go_wp2
  go_ret;exact ⟨by rw [E];rfl,Q0 _ _⟩
 ·rw [LG u];have N:hs.length<=12:=by omega
  have Hk:decide ((12:Int)<(hs.length:Int))=false:=Q7 (by omega)
  go_enter func136,ntmps136
  go_wp2
  go_loopw [3,13] (λla i wr=>∃ k:Nat,k<=hs.length/\i=.int .i64 k/\la=.string (oV hs k)/\Below w w wr/\Hu (bh (mq hs) k=0)) (λ_ i _=>hs.length - (intOf i).toNat)
  case atStart=>exact ⟨0,by omega,rfl,rfl,Q0 _ _,rfl⟩
  case round=>
   obtain ⟨k,O,rfl,rfl,g,l⟩:=hrel
   by_cases d:k<hs.length
   ·obtain ⟨b,o,cv,a,rfl,Hb⟩:=B.o (by omega);have Hb:=Hb.below g;obtain ⟨H,K,G,I⟩:=Hb.at d;obtain ⟨_,q,r⟩:=Hb.2 k d;have s:=qI (kU (f:=mq hs) (n:=hs.length) l.o · d);have m:=qI (l8 (f:=mq hs) (k:=k) l.o);have Hf:=qI ((Q0 wr wr).alloc (lR) (.cells #[(af hs k).pod.nm,((af hs k).pod.pr:Int),cv k,a k] 101));have Hc:=qI (g.alloc g.size (.cells #[(af hs k).pod.nm,((af hs k).pod.pr:Int),cv k,a k] 101));have Ha:=qI (LA (af hs k) (cv k) (a k) (oV hs k) _ (q.below Hf.o) (r.below Hf.o));rw [LE hs k] at Ha;unfold vP at Ha;have C:=qI (LB hs k);obtain ⟨ca,cc,Hl⟩:=q.sl;obtain ⟨ga,gc,Hi⟩:=r.sl;clear Hb q r l g;generalize oV hs k=L at *;generalize mq hs k=F at *;generalize (af hs k).pod.nm=nm at *;generalize (af hs k).pod.pr=pr at *;generalize (af hs k).pod.cs.length=cl at *;generalize (af hs k).gs.length=gl at *;generalize cv k=A at *;generalize a k=z at *;subst Hl Hi
    go_wp2_with fail
    refine Ha.o.mono ?_;rintro e D ⟨rfl,He⟩;have Hg:=qI (Hc.o.trans (He.mono Hc.o.size));have c0:D.cell? wr=some (.string nm):=(He.cell (p:=wr.heap.size) (by simp)).trans (by simp);clear He
    by_cases j:F=0
    ·have Hj:=qI (m.o j);rw [show aL (F:Int)=.nilIface by rw [j];rfl];clear s m j Ha
     go_wp2
     go_roundw
     case rel=>exact ⟨k+1,by omega,by go_num,by rw [C.o],Hg.o,Hj⟩
     case measure=>simp [intOf];omega
    ·have Hm:=qI (s.o j);have t:=qI (eV j);rw [t.o];clear s m j Ha
     go_wp2
     go_ret;exact ⟨by rw [Hm.o,t.o];rfl,Hg.o⟩
   ·have Hh:k=hs.length:=by omega
    subst Hh;have Hc:=qI g;clear g
    go_wp2
    go_ret;exact ⟨by rw [l.o];rfl,Hc.o⟩
def cY (s:List UInt8):List (List UInt8):=(aG 10 s).dropLast.map (·++[10])++(if (aG 10 s).getLast?=some [] then [] else [(aG 10 s).getLastD []])
theorem A8:cY []=[]:=rfl
theorem LI {a:List UInt8} (h:(10:UInt8) ∉ a):cY (a++10 :: r)=(a++[10]) :: cY r:=by
 have b:=m7 10 r;unfold cY;rw [pR 10 a r h];cases hs:aG 10 r with
 | nil=>exact absurd hs b
 | cons x t=>simp
theorem LJ (h:r=r.take i++10 :: r.drop (i+1)) (hi:i<r.length):r.take (i+1)=r.take i++[10]:=by grind
theorem LK (h:(10:UInt8) ∉ r) (a:r≠[]):cY r=[r]:=by
 unfold cY;rw [rG 10 r h]
 simp [a]
def gq (s:List UInt8):List (Array Value):=(cY s).map λ(x:List UInt8)=>#[Value.string ⟨x.toArray⟩]
theorem A9 {α:Type} {l:List α} {x:α} {t:List α} (h:x :: t=l.drop k):∃ a:k<l.length,l[k]=x/\t=l.drop (k+1):=by
 have a:k<l.length:=by
  refine Nat.lt_of_not_le λb=>?_
  rw [List.drop_eq_nil_of_le b] at h;cases h
 rw [List.drop_eq_getElem_cons a] at h;injection h with h1 h2
 exact ⟨a,h1.symm,h2⟩
theorem Bb {x:List UInt8} (a:k<(cY s).length) (h:(cY s)[k]=x):∃ a:k<(gq s).length,(gq s)[k]=#[Value.string ⟨x.toArray⟩]:=⟨by simpa [gq] using a,by simp only [gq,List.getElem_map,h]⟩
theorem vU (s:List UInt8):(gq s).length=(cY s).length:=by simp [gq]
theorem LL (s:ByteArray) (w:World):Calls prog 189 #[s] w λe w'=>
  e=.returned (.func (.func 243) #[] #[.pointer (some ⟨w,0,none⟩)])/\w'=w.alloc (.cells #[s] 9):=by
 go_enter func189,ntmps189
 go_wp2
 go_ret;exact ⟨rfl,rfl⟩
theorem Apart.drew (K:Nat->Prop) (W:World):Apart K W W.drew:=⟨rfl,rfl,rfl,lR,λ_ _ _=>rfl⟩
def vV (W:World) (h:Nat):Nat:=match W.cell? h with
 | some (.string b)=>b.size
 | _=>0
theorem vX (b:Boxed W h 9 (.string ⟨s.toArray⟩)):vV W h=s.length:=by
 unfold vV;rw [b.cell];rfl
theorem LM (n:Nat) (N:1<=n) (h:Nat) (s:List UInt8) (w:World) (A:Boxed w h 9 (.string ⟨s.toArray⟩)) (P:s.length<=1000000) :
  vQ Fence.wide n prog 243 #[h] (λj=>j=h) (gq s) w:=by
 intro l J L W y z B x;have Hq:Boxed W h 9 (.string ⟨s.toArray⟩):=(y h rfl).trans A;refine callsIn_of_wp func243 rfl trivial ?_ rfl;simp only [ntmps243,List.size_toArray,Qg,List.length_nil,Nat.reduceAdd,Nat.reduceSub,Array.replicate_succ,Array.replicate_zero,List.push_toArray,List.append_toArray,List.nil_append,List.cons_append];have g:=qI B;have m:=qI z;have H:=qI Hq;have F:=qI x;clear B z A y x Hq
 gi_wp2_with fail
 gi_loopw [] (λwr=>∃ k r,k<=(cY s).length/\Boxed wr h 9 (.string ⟨r.toArray⟩)/\cY r=(cY s).drop k/\r.length<=s.length/\J k wr) λwr=>vV wr h
 case atStart=>exact ⟨0,s,Nat.zero_le _,H.o,rfl,lR,F.o⟩
 case round=>
  obtain ⟨k,r,Hw,Hc,Ha,hle,Hg⟩:=hrel;have Ht:=Hc.cell;have hf:=Hc.frozen;have Hh:=qI Hc;have Hp:=qI (vX Hc);have M:(ByteArray.mk r.toArray).size=r.length:=rfl
  by_cases a:r=[]
  ·subst a;have Hv:k=(gq s).length:=by
    rw [A8] at Ha
    have:=List.drop_eq_nil_iff.1 Ha.symm
    rw [vU];omega
   clear Hc Ha g m Hw
   gi_wp2_with fail
   go_end0
   exact ⟨⟨_,rfl⟩,.inl (by rw [<- Hv];exact Hg)⟩
  ·have Hi:0<r.length:=List.length_pos_iff.2 a;have b:=qI (Tryz.strings_IndexByte ⟨r.toArray⟩ 10 wr);have C:(ByteArray.mk r.toArray).data.toList=r:=by simp
   rw [C,show ((10:Int).toNat.toUInt8)=10 from rfl] at b;clear Hc C
   rcases AW 10 r with ⟨hi,Hr⟩|⟨i,hi,Ho,o,v⟩
   ·rw [LK Hr a] at Ha;obtain ⟨u,d,f⟩:=A9 Ha;obtain ⟨Hn,He⟩:=Bb u d;have Hs:=qI (m.o k wr _ Hg (Apart.setCell (K:=λj=>j=h) rfl wr 0 (.string ⟨#[]⟩)));have Hm:=g.o k (wr.setCell h (.string ⟨#[]⟩)) Hn Hs.o;obtain ⟨fn,tmps,assign,body,c,q⟩:=Hm;rw [He] at c;rw [hi] at b;have Hl:=qI (Hh.o.set (.string ⟨([]:List UInt8).toArray⟩));clear He Hr d Ha
    gi_wp2_with fail
    refine ⟨trivial,(callsIn_wide.2 b.o).mono ?_⟩;rintro e D ⟨rfl,rfl⟩
    gi_wp2_with fail
    refine q.mono ?_;rintro e p (⟨rfl,Hj,Hk⟩|⟨rfl,Hb⟩)
    ·have Hf:Boxed p h 9 (.string ⟨([]:List UInt8).toArray⟩):=(Hk h rfl).trans Hl.o;have t:=qI f
     gi_wp2_with fail
     go_roundw
     case rel=>exact ⟨k+1,[],by omega,Hf,by rw [A8];exact t.o,Nat.zero_le _,Hj⟩
     case measure=>rw [vX Hf,Hp.o];exact Hi
    ·gi_wp2_with fail
     refine Qx (results_none rfl _ _ _) rfl ?_;exact ⟨⟨_,rfl⟩,.inr Hb⟩
   ·have I:=qI (LJ o Ho);have Hx:i+1<=r.length:=Ho;have hcut:cY r=r.take (i+1) :: cY (r.drop (i+1)):=by
     rw [I.o]
     conv=>lhs;rw [o]
     exact LI v
    rw [hcut] at Ha;obtain ⟨u,d,f⟩:=A9 Ha;obtain ⟨Hn,He⟩:=Bb u d;have E:=qI (show Apart (λj=>j=h) wr (wr.setCell h (.string ⟨(r.drop (i+1)).toArray⟩)).drew from (Apart.setCell (K:=λj=>j=h) rfl wr 0 _).trans (Apart.drew _ _));have Hl:=qI (show Boxed (wr.setCell h (.string ⟨(r.drop (i+1)).toArray⟩)).drew h 9 (.string ⟨(r.drop (i+1)).toArray⟩) from Hh.o.set _);have Hm:=g.o k _ Hn (m.o k wr _ Hg E.o);obtain ⟨fn,tmps,assign,body,c,q⟩:=Hm;rw [He] at c;have G:=qI c;have t:=qI f;rw [hi] at b;clear c He d Ha hcut f g m;have Hy:=AX r (i+1);have Hz:=AY r (i+1);clear o v hi
    gi_wp2_with fail
    refine ⟨trivial,(callsIn_wide.2 b.o).mono ?_⟩;rintro e D ⟨rfl,rfl⟩
    gi_wp2_with fail
    gi_region
    generalize hW2:(D.setCell h (.string ⟨(r.drop (i+1)).toArray⟩)).drew=O at *;have c:=G.o;clear Ht hf b Hh Hg hW2
    gi_wp2_with fail
    refine q.mono ?_;rintro e p (⟨rfl,Hj,Hk⟩|⟨rfl,Hb⟩)
    ·have Hf:Boxed p h 9 (.string ⟨(r.drop (i+1)).toArray⟩):=(Hk h rfl).trans Hl.o
     gi_wp2_with fail
     go_roundw
     case rel=>exact ⟨k+1,r.drop (i+1),by omega,Hf,t.o,by rw [List.length_drop];omega,Hj⟩
     case measure=>rw [vX Hf,Hp.o,List.length_drop];omega
    ·gi_wp2_with fail
     refine Qx (results_none rfl _ _ _) rfl ?_;exact ⟨⟨_,rfl⟩,.inr Hb⟩
theorem LN (W:World) (b j:Nat) (v:Value):W.grownBy (W.setCell ⟨b,j,none⟩ v) (some b):=
 ⟨rfl,rfl,rfl,by simp,λk d a=>by
  have c:b≠k:=λe=>a (by rw [e])
  simp [World.setCell,Array.getElem?_modify,c]⟩
def eH (B:Nat) (w w':World):Prop:=w.grownBy w' (some B)/\w'=w.heap.size
theorem eH.refl (B:Nat) (w:World):eH B w w:=⟨⟨rfl,rfl,rfl,lR,λ_ _ _=>rfl⟩,rfl⟩
theorem eH.set {B:Nat} (h:eH B w w') (j:Nat) (v:Value):eH B w (w'.setCell ⟨B,j,none⟩ v):=by
 obtain ⟨a,hs⟩:=h;have b:=LN w' B j v;refine ⟨⟨b.os.trans a.os,b.tape.trans a.tape,b.output.trans a.output,Q5 a.size b.size,λk d c=>(b.block k (by omega) c).trans (a.block k d c)⟩,?_⟩;rw [<- hs]
 simp
theorem gQ {B:Nat} {a:Array Value} {t:TypeId} (h:w.heap[B]?=some (.cells a t (0,0))) (j:Nat) (v:Value):(w.setCell ⟨B,j,none⟩ v).heap[B]?=some (.cells (a.setIfInBounds j v) t (0,0)):=by
 obtain ⟨Ha,b⟩:=gS h
 show (w.heap.modify B _)[B]?=_
 rw [Array.getElem?_eq_getElem (by rw [Array.size_modify];exact Ha),Array.getElem_modify_self,b];rfl
def aQ (w:World) (B:Nat) (n k:Sd) (v:Value) (l:Int) (d:Bool):Prop:=w.heap[B]?=some (.cells #[n.ft,n.fb,n.dt,n.db,k.ft,k.fb,k.dt,k.db,v,l,d] 96 (0,0))
section
variable {w:World} {B:Nat} {n k:Sd} {v:Value} {l:Int} {d:Bool}
theorem aQ.lt (h:aQ w B n k v l d):B<w:=(gS h).1
theorem aQ.now (h:aQ w B n k v l d):w.cell? B=some (.bool n.ft)/\w.cell? ⟨B,1,none⟩=some (.string n.fb)/\w.cell? ⟨B,2,none⟩=some (.bool n.dt)/\w.cell? ⟨B,3,none⟩=some (.string n.db):=by
 refine ⟨?_,?_,?_,?_⟩ <;> simp [World.cell?,show w.heap[B]?=_ from h]
theorem aQ.kept (h:aQ w B n k v l d):w.cell? ⟨B,4,none⟩=some (.bool k.ft)/\w.cell? ⟨B,5,none⟩=some (.string k.fb)/\w.cell? ⟨B,6,none⟩=some (.bool k.dt)/\w.cell? ⟨B,7,none⟩=some (.string k.db):=by
 refine ⟨?_,?_,?_,?_⟩ <;> simp [World.cell?,show w.heap[B]?=_ from h]
theorem aQ.rest (h:aQ w B n k v l d):w.cell? ⟨B,8,none⟩=some v/\w.cell? ⟨B,9,none⟩=some (.int .i64 l)/\w.cell? ⟨B,10,none⟩=some (.bool d):=by
 refine ⟨?_,?_,?_⟩ <;> simp [World.cell?,show w.heap[B]?=_ from h]
theorem aQ.frozen (h:aQ w B n k v l d) (j:Nat):w.frozen? ⟨B,j,none⟩=false:=by simp [World.frozen?,show w.heap[B]?=_ from h]
theorem aQ.set8 (h:aQ w B n k v l d) (a:Value):aQ (w.setCell ⟨B,8,none⟩ a) B n k a l d:=gQ h 8 a
theorem aQ.set9 (h:aQ w B n k v l d) (a:Int):aQ (w.setCell ⟨B,9,none⟩ a) B n k v a d:=gQ h 9 _
theorem aQ.set10 (h:aQ w B n k v l d) (a:Bool):aQ (w.setCell ⟨B,10,none⟩ a) B n k v l a:=gQ h 10 _
def putS (w:World) (B i:Nat) (s:Sd):World:=(((w.setCell ⟨B,i,none⟩ s.ft).setCell ⟨B,i+1,none⟩ s.fb).setCell ⟨B,i+2,none⟩ s.dt).setCell ⟨B,i+3,none⟩ s.db
theorem aQ.setNow (h:aQ w B n k v l d) (s:Sd):aQ (putS w B 0 s) B s k v l d:=gQ (gQ (gQ (gQ h 0 _) 1 _) 2 _) 3 _
theorem aQ.setKept (h:aQ w B n k v l d) (s:Sd):aQ (putS w B 4 s) B n s v l d:=gQ (gQ (gQ (gQ h 4 _) 5 _) 6 _) 7 _
theorem eH.putS {w w':World} {B:Nat} (h:eH B w w') (i:Nat) (s:Sd):eH B w (putS w' B i s):=(((h.set i _).set (i+1) _).set (i+2) _).set (i+3) _
theorem aQ.block {w':World} (h:aQ w B n k v l d) (a:w'.heap[B]?=w.heap[B]?):aQ w' B n k v l d:=a.trans h
end
def cf (l:Int) (d:Bool):Nat:=if d=true\/l=0 then 11 else 0
def bu (l:Int) (d:Bool):Int:=if d=true\/l=0 then l else if 0<l then l - 1 else l
def fM (l:Int) (d:Bool):Bool:=decide (d=true\/l=0)
theorem qt (B:Nat) (n k:Sd) (v:Value) (l:Int) (d:Bool) (w:World) (h:aQ w B n k v l d) (q:-9223372036854775808<=l/\l<=9223372036854775807):Calls prog 114 #[B] w λe w'=>e=.returned (aL ((cf l d:Nat):Int))/\aQ w' B n k v (bu l d) (fM l d)/\eH B w w':=by
 obtain ⟨_,o,c10⟩:=h.rest;have r:=h.frozen 9;have f10:=h.frozen 10
 by_cases a:l=0
 ·subst a;obtain ⟨_,m,j⟩:=(h.set10 true).rest;have b:=qI (h.set10 true);have c:=qI ((eH.refl B w).set 10 true);clear h
  go_enter func114,ntmps114
  go_wp2
  go_ret;exact ⟨by simp [cf,aL],by simpa [bu,fM] using b.o,c.o⟩
 ·cases d with
  | true=>
   have b:=qI h;have i:(l == 0)=false:=by simp [a]
   clear h
   go_enter func114,ntmps114
   go_wp2
   go_ret;exact ⟨by simp [cf,aL],by simpa [bu,fM] using b.o,eH.refl _ _⟩
  | false=>
   have i:(l == 0)=false:=by simp [a]
   by_cases f:0<l
   ·have p:wrap64 (l - 1)=l - 1:=by unfold wrap64;omega
    have b:=qI (h.set9 (l - 1));have c:=qI ((eH.refl B w).set 9 (l - 1:Int));clear h
    go_enter func114,ntmps114
    go_wp2
    go_ret;exact ⟨by simp [cf,aL,a],by simpa [bu,fM,a,f] using b.o,c.o⟩
   ·have b:=qI h;have Ha:l<=0:=by omega
    have g:Hu (bu l false=l):=by unfold Hu bu;rw [if_neg (by simp [a]),if_neg f]
    clear h
    go_enter func114,ntmps114
    go_wp2
    go_ret;exact ⟨by simp [cf,aL,a],by rw [g.o];simpa [fM,a] using b.o,eH.refl _ _⟩
def vY (n:Sd) (d:Bool):Value:=if d=true then .tuple #[.string ⟨#[]⟩,.iface 108 (11:Int)] else if n.ft=true then .tuple #[n.fb,.nilIface] else .tuple #[.string ⟨#[]⟩,.iface 108 (6:Int)]
theorem LO (B:Nat) (n k:Sd) (v:Value) (l:Int) (d:Bool) (w:World) (h:aQ w B n k v l d):Calls prog 115 #[B] w λe w'=>e=.returned (vY n d)/\w'=w:=by
 obtain ⟨_,a,c10⟩:=h.rest;obtain ⟨c0,c1,_,_⟩:=h.now;obtain ⟨ft,fb,dt,db⟩:=n;dsimp only at c0 c1;unfold vY;clear h;cases d with
 | true=>
  go_enter func115,ntmps115
  go_wp2
  go_ret2;exact ⟨rfl,rfl⟩
 | false=>
  cases ft with
  | true=>
   go_enter func115,ntmps115
   go_wp2
   go_ret2;exact ⟨rfl,rfl⟩
  | false=>
   go_enter func115,ntmps115
   go_wp2
   go_ret2;exact ⟨rfl,rfl⟩
theorem qv (l:Int) (d:Bool):(cf l d=11/\fM l d=true)\/(cf l d=0/\fM l d=false):=by grind [cf,fM]
theorem vZ:aL ((11:Nat):Int)=.iface 108 (11:Int):=rfl
theorem v6:aL ((0:Nat):Int)=.nilIface:=rfl
theorem LP (B:Nat) (n k:Sd) (v:Value) (l:Int) (d:Bool) (w:World) (h:aQ w B n k v l d) (j:-9223372036854775808<=l/\l<=9223372036854775807):Calls prog 70 #[B] w λe w'=>e=.returned (aL ((cf l d:Nat):Int))/\aQ w' B n (if cf l d=0 then n else k) (if cf l d=0 then .slice none 0 0 else v) (bu l d) (fM l d)/\eH B w w':=by
 have HS:=qI (qt B n k v l d w h j);clear h
 rcases qv l d with ⟨c,b⟩|⟨c,b⟩
 ·rw [c,b,if_neg (by decide),if_neg (by decide),vZ];rw [c,b,vZ] at HS
  go_enter func70,ntmps70
  go_wp2_with fail
  refine HS.o.mono ?_;rintro e g ⟨rfl,a,Ha⟩;have m:=qI a;have f:=qI Ha;clear a Ha HS
  go_wp2
  go_ret;exact ⟨rfl,m.o,f.o⟩
 ·rw [c,b,if_pos rfl,if_pos rfl,v6];rw [c,b,v6] at HS
  go_enter func70,ntmps70
  go_wp2_with fail
  refine HS.o.mono ?_;rintro e g ⟨rfl,a,Ha⟩;have i:=qI ((a.setKept n).set8 (.slice none 0 0));have f:=qI (((Ha.putS 4 n)).set 8 (.slice none 0 0));obtain ⟨C,u,n2,A⟩:=a.now;obtain ⟨t,y,p,r⟩:=a.kept;obtain ⟨z,_,_⟩:=a.rest;have D:=a.frozen 4;have x:=a.frozen 5;have s:=a.frozen 6;have o:=a.frozen 7;have q:=a.frozen 8;clear a Ha HS
  go_wp2
  go_ret;exact ⟨rfl,i.o,f.o⟩
