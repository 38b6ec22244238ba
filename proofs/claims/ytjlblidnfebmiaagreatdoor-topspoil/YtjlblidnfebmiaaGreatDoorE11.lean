import Derived.Test.YtjlblidnfebmiaaGreatDoorE9
import Derived.Shelf.SlicesQ.IndexFunc
import Derived.Ground.SlgfProg
import Derived.Deep.RegionHeld3
import Derived.Laws.AppendOwn
set_option maxRecDepth 100000
set_option maxHeartbeats 16000000
open Go Go.RowKit Go.Shelf
open Go.Proofs.Tryz
namespace Go.Proofs.YtjlblidnfebmiaaGreatDoor
variable {W w w':World} {b k n o:Nat} {dv:Nat->Value} {f:Nat->Int} {v:Value}
structure ai where
 kind:ByteArray
 many:Int
def Aq:ai:=⟨ByteArray.empty,0⟩
structure aA where
 nm:ByteArray
 am:Int
 ab:Int
 cm:Int
 cb:Int
 ds:List ai
def vE:aA:=⟨ByteArray.empty,0,0,0,0,[]⟩
structure az where
 nm:ByteArray
 pr:Int
 cs:List aA
def vF:az:=⟨ByteArray.empty,0,[]⟩
instance:Inhabited ai:=⟨Aq⟩
instance:Inhabited aA:=⟨vE⟩
instance:Inhabited az:=⟨vF⟩
def ak (l:List ai) (k:Nat):ai:=l.getD k Aq
def ae (l:List aA) (k:Nat):aA:=l.getD k vE
def bI (l:List az) (k:Nat):az:=l.getD k vF
def dE (a b:ByteArray):Bool:=Op.bytesLess a.toList b.toList || a.toList == b.toList
def ij (ds:List ai) (j:Nat):Nat:=
 if bN (ak ds j).kind=false\/(0<j/\dE (ak ds j).kind (ak ds (j - 1)).kind=true) then 3
 else if (ak ds j).many<1\/16<(ak ds j).many then 1 else 0
def gk (m b:Int):Bool:=decide (0<=m) && decide (m<=1000000) && decide (0<=b) && decide (b<=1125899906842624)
def ik (a c:Int):Bool:=decide (c≠0) && decide (c<a)
def mg (cs:List aA) (k:Nat):Bool:=(cs.take k).any λo=>decide (o.nm=(ae cs k).nm)
def dI (cs:List aA) (k:Nat):Nat:=
 if bN (ae cs k).nm=false then 3
 else if mg cs k=true then 5
 else if gk (ae cs k).am (ae cs k).ab=false\/gk (ae cs k).cm (ae cs k).cb=false then 1
 else if ik (ae cs k).am (ae cs k).cm=true\/ik (ae cs k).ab (ae cs k).cb=true then 3
 else if 3<(ae cs k).ds.length then 2
 else bh (ij (ae cs k).ds) (ae cs k).ds.length
def br (p:az):Nat:=
 if bN p.nm=false then 3
 else if p.pr<0\/1000<p.pr then 1
 else if p.cs.length<1\/3<p.cs.length then 2
 else bh (dI p.cs) p.cs.length
def qg (c:aA):Bool:=decide (c.am=0) && decide (c.ab=0) && decide (c.cm=0) && decide (c.cb=0)
def qh (c:aA):Bool:=decide (c.am=c.cm) && decide (c.ab=c.cb) && decide (c.am≠0) && decide (c.ab≠0)
def ny (cs:List aA) (n:Nat):Bool:=eS (λk=>qg (ae cs k)) n
def nz (cs:List aA) (n:Nat):Bool:=eS (λk=>qh (ae cs k)) n
def mh (cs:List aA):Int:=if ny cs cs.length=true then 1 else if nz cs cs.length=true then 3 else 2
def iJ (f:Nat->Int):Nat->Int
 | 0=>0
 | k+1=>iJ f k+f k
def dY (cs:List aA) (n:Nat):Int:=iJ (λk=>(ae cs k).am) n
def fK (cs:List aA) (n:Nat):Int:=iJ (λk=>(ae cs k).ab) n
def bL (cs:List aA) (m:Int):Int:=if mh cs=3/\m % 1000=0 then m / 1000 else 0
def km (cs:List aA):Prop:=cs.length<=3/\∀ k,k<cs.length->(0<=(ae cs k).am/\(ae cs k).am<=1000000)/\(0<=(ae cs k).ab/\(ae cs k).ab<=1125899906842624)/\(0<=(ae cs k).cm/\(ae cs k).cm<=1000000)/\(0<=(ae cs k).cb/\(ae cs k).cb<=1125899906842624)/\((ae cs k).cm≠0->(ae cs k).am<=(ae cs k).cm)/\((ae cs k).cb≠0->(ae cs k).ab<=(ae cs k).cb)
theorem sE {m b:Int} (h:gk m b=true):(0<=m/\m<=1000000)/\(0<=b/\b<=1125899906842624):=by
 simp [gk] at h;omega
theorem Ar {cs:List aA} (h:dI cs k=0):gk (ae cs k).am (ae cs k).ab=true/\gk (ae cs k).cm (ae cs k).cb=true/\ik (ae cs k).am (ae cs k).cm=false/\ik (ae cs k).ab (ae cs k).cb=false:=by grind [dI]
theorem qi {p:az} (h:br p=0):bN p.nm=true/\(0<=p.pr/\p.pr<=1000)/\(1<=p.cs.length/\p.cs.length<=3)/\bh (dI p.cs) p.cs.length=0:=by grind [br]
theorem oM {p:az} (h:br p=0):km p.cs:=by
 obtain ⟨_,_,⟨_,e⟩,hf⟩:=qi h;refine ⟨e,λk g=>?_⟩;obtain ⟨i,f,c,b⟩:=Ar (eR hf k g);obtain ⟨d,a2⟩:=sE i;obtain ⟨a3,a4⟩:=sE f;refine ⟨d,a2,a3,a4,?_,?_⟩
 ·intro a
  simp [ik,a] at c
  exact c
 ·intro a
  simp [ik,a] at b
  exact b
theorem Vv {g:Nat->Int} (h:∀ k,k<n->f k<=g k):iJ f n<=iJ g n:=by
 induction n with
 | zero=>exact Int.le_refl _
 | succ n ih=>
  have c:=ih λk a=>h k (by omega);have b:=h n (by omega);simp only [iJ];omega
theorem As (h:∀ k,k<n->0<=f k):0<=iJ f n:=by induction n <;> grind [iJ]
theorem At {B:Int} (h:∀ k,k<n->f k<=B):iJ f n<=n*B:=by induction n <;> grind [iJ]
theorem sF {cs:List aA} (a:km cs) (c:n<=cs.length):0<=dY cs n/\dY cs n<=3000000:=by
 have e:=As (f:=λk=>(ae cs k).am) (n:=n) λk b=>(a.2 k (by omega)).1.1;have d:=At (f:=λk=>(ae cs k).am) (n:=n) (B:=1000000) λk b=>(a.2 k (by omega)).1.2
 have:=a.1
 unfold dY;omega
theorem sG {cs:List aA} (a:km cs) (c:n<=cs.length):0<=fK cs n/\fK cs n<=3377699720527872:=by
 have e:=As (f:=λk=>(ae cs k).ab) (n:=n) λk b=>(a.2 k (by omega)).2.1.1;have d:=At (f:=λk=>(ae cs k).ab) (n:=n) (B:=1125899906842624) λk b=>(a.2 k (by omega)).2.1.2
 have:=a.1
 unfold fK;omega
def k9 (ds:List ai) (k:Nat):ByteArray:=if k=0 then ByteArray.empty else (ak ds (k - 1)).kind
theorem Kf (ds:List ai) (k:Nat):k9 ds (k+1)=(ak ds k).kind:=by simp [k9]
theorem Kg {s:ByteArray} (h:bN s=true):dE s ByteArray.empty=false:=by
 unfold bN at h;have c:0<s.size:=by
  simp at h;omega
 have b:s.toList≠[]:=by
  intro e;rw [Qs] at e
  have:s.data.toList.length=0:=by rw [e];rfl
  rw [Array.length_toList] at this;have d:s.data.size=s.size:=rfl;omega
 unfold dE;rw [show ByteArray.empty.toList=[] by rw [Qs];rfl];cases hs:s.toList with
 | nil=>exact absurd hs b
 | cons a l=>simp [Op.bytesLess]
theorem Kh {ds:List ai} {k:Nat} (h:bN (ak ds k).kind=false):ij ds k=3:=by unfold ij;rw [if_pos (.inl h)]
theorem Ki {ds:List ai} {k:Nat} (h:bN (ak ds k).kind=true) (a:dE (ak ds k).kind (k9 ds k)=true):ij ds k=3:=by grind [ij,k9,Kg]
theorem Kj {ds:List ai} {k:Nat} (h:bN (ak ds k).kind=true) (a:dE (ak ds k).kind (k9 ds k)=false):ij ds k=if (ak ds k).many<1\/16<(ak ds k).many then 1 else 0:=by grind [ij,k9]
section
open Go.ChangeShapes Go.WideShapes Go.ChangeAt Go.RowKit
def bO (w:World) (v:Value) (ds:List ai):Prop:=
 ∃ ao c,v=.slice ao ds.length c/\ds.length<=maxLen/\(0<ds.length->∃ b o,ao=some ⟨b,o,none⟩/\b<w.heap.size/\∀ k,k<ds.length->w.cell? ⟨b,o+k*2,none⟩=some (.string (ak ds k).kind)/\w.cell? ⟨b,o+k*2+1,none⟩=some (.int .i64 (ak ds k).many))
def dF (c:aA) (dv:Value):List Value:=[.string c.nm,.int .i64 c.am,.int .i64 c.ab,.int .i64 c.cm,.int .i64 c.cb,dv]
def ml (w:World) (b o:Nat) (cs:List aA) (dv:Nat->Value):Prop:=
 b<w/\∀ k,k<cs.length->(∀ j,j<6->w.cell? ⟨b,o+k*6+j,none⟩=(dF (ae cs k) (dv k))[j]?)/\bO w (dv k) (ae cs k).ds
def aZ (w:World) (v:Value) (cs:List aA):Prop:=
 ∃ ao c,v=.slice ao cs.length c/\(cs.length<=c/\c<=maxLen)/\(0<cs.length->∃ b o dv,ao=some ⟨b,o,none⟩/\ml w b o cs dv)
def du (p:az) (cv:Value):Value:=.agg #[p.nm,(p.pr:Int),cv]
def oN (w:World) (b o:Nat) (ps:List az) (cv:Nat->Value):Prop:=
 b<w/\∀ k,k<ps.length->(w.cell? ⟨b,o+k*3,none⟩=some (.string (bI ps k).nm)/\w.cell? ⟨b,o+k*3+1,none⟩=some (.int .i64 (bI ps k).pr)/\w.cell? ⟨b,o+k*3+2,none⟩=some (cv k))/\aZ w (cv k) (bI ps k).cs
def jJ (w:World) (v:Value) (ps:List az):Prop:=
 ∃ ao c,v=.slice ao ps.length c/\ps.length<=maxLen/\(0<ps.length->∃ b o cv,ao=some ⟨b,o,none⟩/\oN w b o ps cv)
theorem bO.below {ds:List ai} (h:bO w v ds) (a:Below w w w'):bO w' v ds:=by
 obtain ⟨l,c,e,n,q⟩:=h;refine ⟨l,c,e,n,λd=>?_⟩;obtain ⟨b,o,m,Ha,j⟩:=q d;refine ⟨b,o,m,Q1 Ha a.size,λk g=>?_⟩;obtain ⟨i,f⟩:=j k g;exact ⟨(a.cell (p:=⟨b,o+k*2,none⟩) Ha).trans i,(a.cell (p:=⟨b,o+k*2+1,none⟩) Ha).trans f⟩
theorem ml.below {cs:List aA} (h:ml w b o cs dv) (a:Below w w w'):ml w' b o cs dv:=
 ⟨Q1 h.1 a.size,λk c=>⟨λj d=>(a.cell (p:=⟨b,o+k*6+j,none⟩) h.1).trans ((h.2 k c).1 j d),(h.2 k c).2.below a⟩⟩
theorem aZ.below {cs:List aA} (h:aZ w v cs) (d:Below w w w'):aZ w' v cs:=by
 obtain ⟨g,c,e,j,k⟩:=h;refine ⟨g,c,e,j,λa=>?_⟩;obtain ⟨b,o,dv,i,f⟩:=k a;exact ⟨b,o,dv,i,f.below d⟩
theorem oN.below {c:List az} {cv:Nat->Value} (h:oN w b o c cv) (a:Below w w w'):oN w' b o c cv:=
 ⟨Q1 h.1 a.size,λk f=>by
  obtain ⟨⟨i,g,e⟩,d⟩:=h.2 k f;exact ⟨⟨(a.cell (p:=⟨b,o+k*3,none⟩) h.1).trans i,(a.cell (p:=⟨b,o+k*3+1,none⟩) h.1).trans g,(a.cell (p:=⟨b,o+k*3+2,none⟩) h.1).trans e⟩,d.below a⟩⟩
theorem jJ.below {a:List az} (h:jJ w v a) (e:Below w w w'):jJ w' v a:=by
 obtain ⟨i,c,f,k,l⟩:=h;refine ⟨i,c,f,k,λd=>?_⟩;obtain ⟨b,o,dv,j,g⟩:=l d;exact ⟨b,o,dv,j,g.below e⟩
theorem Kk (h:gJ W v 2 pZ):∃ ds,bO W v ds:=by
 obtain ⟨j,len,c,rfl,l,m⟩:=h
 by_cases g:len=0
 ·subst g;exact ⟨[],j,c,rfl,by simp,λh=>by simp at h⟩
 ·obtain ⟨b,o,rfl,Hc,i⟩:=m (by omega);obtain ⟨f,hf⟩:=Deep.choose_lt (α:=ai) (n:=len) (p:=λk d=>W.cell? ⟨b,o+k*2,none⟩=some (.string d.kind)/\W.cell? ⟨b,o+k*2+1,none⟩=some (.int .i64 d.many)) (λk a=>by
   obtain ⟨cs,_,Ha,s,x,rfl⟩:=i k a;exact ⟨⟨s,x⟩,Ha 0 (by decide),Ha 1 (by decide)⟩)
  refine ⟨(List.range len).map f,_,c,by simp,by simpa using l,λ_=>⟨b,o,rfl,Hc,λk a=>?_⟩⟩;have Hb:k<len:=by simpa using a
  have e:ak ((List.range len).map f) k=f k:=by simp [ak,Hb]
  rw [e];exact hf k Hb
def vG (v:Value):Prop:=∃ ao len c,v=.slice ao len c/\len<=c/\c<=maxLen
theorem Kl {H:Type} {enc:TypeId × Value->H} {P:Program} {t e:TypeId} {b:Nat} {x:DataW H × List MemPlace} (d:P.underlying t=some (.slice e)) (h:DataW.trod enc P W 0 (λ_=>true) true b t [v]=some x):vG v:=by
 rcases Deep.open_slice d h with ⟨Ha,_⟩|⟨a,len,c,m,n,D,i,Ha,_,f,g,Hb,_,j⟩
 ·simp at Ha
  subst Ha;exact ⟨none,0,0,rfl,by omega,by omega⟩
 ·simp at Ha
  subst Ha;exact ⟨_,len,c,rfl,f,g⟩
theorem Km (h:gJ W v 6 (kV W)) (a:vG v):∃ cs,aZ W v cs:=by
 obtain ⟨s,len,c,rfl,x,w⟩:=h;obtain ⟨_,_,_,u,Hc,Hb⟩:=a;cases u
 by_cases q:len=0
 ·subst q;exact ⟨[],s,c,rfl,⟨by simp,Hb⟩,λh=>by simp at h⟩
 ·obtain ⟨b,o,rfl,Hh,r⟩:=w (by omega);obtain ⟨f,hf⟩:=Deep.choose_lt (α:=aA × Value) (n:=len) (p:=λk d=>(∀ j,j<6->W.cell? ⟨b,o+k*6+j,none⟩=(dF d.1 d.2)[j]?)/\bO W d.2 d.1.ds) (λk g=>by
   obtain ⟨cs,_,Hf,nm,i,l,m,t,dv,rfl,He⟩:=r k g;obtain ⟨ds,Hg⟩:=Kk He;exact ⟨⟨⟨nm,i,l,m,t,ds⟩,dv⟩,Hf,Hg⟩)
  refine ⟨(List.range len).map λk=>(f k).1,_,c,by simp,⟨by simpa using Hc,Hb⟩,λ_=>⟨b,o,λk=>(f k).2,rfl,Hh,λk g=>?_⟩⟩;have Ha:k<len:=by simpa using g
  have e:ae ((List.range len).map λk=>(f k).1) k=(f k).1:=by simp [ae,Ha]
  rw [e];exact hf k Ha
def Au (W:World) (cs:List Value):Prop:=∃ (nm:ByteArray) (pr:Int) (cv:Value),cs=[.string nm,.int .i64 pr,cv]/\gJ W cv 6 (kV W)/\vG cv
theorem Kn (h:gJ W v 3 (Au W)):∃ l,jJ W v l:=by
 obtain ⟨j,len,c,rfl,m,q⟩:=h
 by_cases g:len=0
 ·subst g;exact ⟨[],j,c,rfl,by simp,λh=>by simp at h⟩
 ·obtain ⟨b,o,rfl,Hf,i⟩:=q (by omega);obtain ⟨f,hf⟩:=Deep.choose_lt (α:=az × Value) (n:=len) (p:=λk d=>(W.cell? ⟨b,o+k*3,none⟩=some (.string d.1.nm)/\W.cell? ⟨b,o+k*3+1,none⟩=some (.int .i64 d.1.pr)/\W.cell? ⟨b,o+k*3+2,none⟩=some d.2)/\aZ W d.2 d.1.cs) (λk a=>by
   obtain ⟨cs,_,Hb,nm,pr,cv,rfl,He,Ha⟩:=i k a;obtain ⟨ds,Hg⟩:=Km He Ha;exact ⟨⟨⟨nm,pr,ds⟩,cv⟩,⟨Hb 0 (by decide),Hb 1 (by decide),Hb 2 (by decide)⟩,Hg⟩)
  refine ⟨(List.range len).map λk=>(f k).1,_,c,by simp,by simpa using m,λ_=>⟨b,o,λk=>(f k).2,rfl,Hf,λk a=>?_⟩⟩;have Hc:k<len:=by simpa using a
  have e:bI ((List.range len).map λk=>(f k).1) k=(f k).1:=by simp [bI,Hc]
  rw [e];exact hf k Hc
section
variable {H:Type} {enc:TypeId × Value->H} {W:World}
theorem Ko {n:Nat} {cs:List Value} {y:DataW H × List MemPlace} (a:cs.length=3) (h:DataW.trod enc prog W 0 (λ_=>true) true n 49 cs=some y):Au W cs:=by
 obtain ⟨nm,pr,cv,rfl,c⟩:=IP a h;obtain ⟨_,_,b⟩:=eD underlying49 h 2 47 2 _ zH rfl;exact ⟨nm,pr,cv,rfl,c,Kl underlying47 b⟩
theorem Kp {n:Nat} {v:Value} {y:DataW H × List MemPlace} (h:DataW.trod enc prog W 0 (λ_=>true) true n 67 [v]=some y):∃ b,jJ W v b:=
 Kn (sd underlying67 IJ (by decide) h λ_ _ _ a h=>Ko a h)
end
theorem ml.at {cs:List aA} (h:ml w b o cs dv) (c:k<cs.length) :
  w.cell? ⟨b,o+k*6,none⟩=some (.string (ae cs k).nm)/\w.cell? ⟨b,o+k*6+1,none⟩=some (.int .i64 (ae cs k).am)/\w.cell? ⟨b,o+k*6+2,none⟩=some (.int .i64 (ae cs k).ab)/\w.cell? ⟨b,o+k*6+3,none⟩=some (.int .i64 (ae cs k).cm)/\w.cell? ⟨b,o+k*6+4,none⟩=some (.int .i64 (ae cs k).cb)/\w.cell? ⟨b,o+k*6+5,none⟩=some (dv k):=by
 have a:=(h.2 k c).1;exact ⟨a 0 (by decide),a 1 (by decide),a 2 (by decide),a 3 (by decide),a 4 (by decide),a 5 (by decide)⟩
end
theorem mn (n a b:Int) (w:World):Calls prog 80 #[n,a,b] w λe w'=>e=.returned (.bool (decide (a<=n) && decide (n<=b)))/\w'=w:=by
 by_cases c:a<=n
 ·go_enter func80,ntmps80
  go_wp2
  go_ret;exact ⟨by simp [c],rfl⟩
 ·have f:n<a:=by omega
  have d:decide (a<=n)=false:=Q7 c;rw [d];clear c
  go_enter func80,ntmps80
  go_wp2
  go_ret;exact ⟨by simp,rfl⟩
theorem Av (a c:Int) (w:World):Calls prog 123 #[a,c] w λe w'=>e=.returned (.bool (ik a c))/\w'=w:=by
 unfold ik
 by_cases b:c=0
 ·subst b
  go_enter func123,ntmps123
  go_wp2
  go_ret;exact ⟨by simp,rfl⟩
 ·go_enter func123,ntmps123
  go_wp2
  go_ret;exact ⟨by simp [b],rfl⟩
theorem Aw (m b:Int) (w:World):Calls prog 122 #[.agg #[m,b]] w λe w'=>e=.returned (.bool (gk m b))/\Below w w w':=by
 unfold gk
 go_enter func122,ntmps122
 go_wp2_with fail
 refine (mn _ _ _ _).mono ?_;rintro e c ⟨rfl,rfl⟩
 rcases two (decide (0<=m) && decide (m<=1000000)) with a|a
 ·rw [a]
  go_wp2_with fail
  refine (mn _ _ _ _).mono ?_;rintro e c ⟨rfl,rfl⟩
  go_wp2
  go_ret;refine ⟨?_,(Q0 w w).alloc (lR) _⟩;rw [a]
  simp
 ·rw [a]
  go_wp2
  go_ret;refine ⟨?_,(Q0 w w).alloc (lR) _⟩;rw [a];rfl
theorem Kq (v:Value) (ds:List ai) (w:World) (h:bO w v ds):Calls prog 124 #[v] w λe w'=>e=.returned (aL (if 3<ds.length then (2:Nat) else bh (ij ds) ds.length:Nat))/\Below w w w':=by
 obtain ⟨B,c,rfl,n,t⟩:=h;clear n;have u:=qI t;clear t
 by_cases q:3<ds.length
 ·rw [if_pos q]
  go_enter func124,ntmps124
  go_wp2
  go_ret;exact ⟨rfl,Q0 _ _⟩
 rw [if_neg q];have Hg:ds.length<=3:=by omega
 clear q;have hd:decide (3<(ds.length:Int))=false:=Q7 (by omega)
 go_enter func124,ntmps124
 go_wp2
 go_loopw [3,12] (λla i wr=>∃ k:Nat,k<=ds.length/\i=.int .i64 k/\la=.string (k9 ds k)/\Below w w wr/\Hu (bh (ij ds) k=0)) (λ_ i _=>ds.length - (intOf i).toNat)
 case atStart=>exact ⟨0,by omega,rfl,rfl,Q0 _ _,rfl⟩
 case round=>
  obtain ⟨k,D,rfl,rfl,f,l⟩:=hrel
  by_cases d:k<ds.length
  ·obtain ⟨b,o,rfl,Hc,Hb⟩:=u.o (by omega);obtain ⟨s,g1⟩:=Hb k d;have c0:=(f.cell (p:=⟨b,o+k*2,none⟩) Hc).trans s;have c1:=(f.cell (p:=⟨b,o+k*2+1,none⟩) Hc).trans g1;have y:=qI (@Kh ds k);have A:=qI (@Ki ds k);have z:=qI (@Kj ds k);have HS:=qI (Kf ds k);have Ha:=qI (f.alloc f.size (.cells #[(ak ds k).kind,((ak ds k).many:Int)] 127));clear s g1 Hb f;have C:Hu (∃ la,la=k9 ds k):=⟨_,rfl⟩;generalize k9 ds k=la at *;generalize ak ds k=x at *
   rcases two (bN x.kind) with g|g
   ·rcases two (dE x.kind la) with m|m
    ·have a:=A.o g m;have j:=qI (kU l.o (by rw [a];decide) d);have He:(Op.bytesLess x.kind.toList la.toList || x.kind.toList == la.toList)=true:=m
     go_wp2_with fail
     refine (iI _ _).mono ?_;rintro e r ⟨rfl,rfl⟩;rw [g]
     go_wp2
     go_ret;exact ⟨by rw [j.o,a];rfl,Ha.o⟩
    ·have a:=z.o g m;have He:(Op.bytesLess x.kind.toList la.toList || x.kind.toList == la.toList)=false:=m
     go_wp2_with fail
     refine (iI _ _).mono ?_;rintro e r ⟨rfl,rfl⟩;rw [g]
     go_wp2_with fail
     refine (mn _ _ _ _).mono ?_;rintro e r ⟨rfl,rfl⟩
     by_cases n:x.many<1\/16<x.many
     ·rw [if_pos n] at a;have j:=qI (kU l.o (by rw [a];decide) d);rw [show (decide (1<=x.many) && decide (x.many<=16))=false by simp;omega]
      go_wp2
      go_ret;exact ⟨by rw [j.o,a];rfl,Ha.o⟩
     ·rw [if_neg n] at a;rw [show (decide (1<=x.many) && decide (x.many<=16))=true by simp;omega]
      go_wp2
      go_roundw
      case rel=>exact ⟨k+1,by omega,by go_num,by rw [HS.o],Ha.o,l8 l.o a⟩
      case measure=>simp [intOf];omega
   ·have a:=y.o g;have j:=qI (kU l.o (by rw [a];decide) d)
    go_wp2_with fail
    refine (iI _ _).mono ?_;rintro e r ⟨rfl,rfl⟩;rw [g]
    go_wp2
    go_ret;exact ⟨by rw [j.o,a];rfl,Ha.o⟩
  ·have Hf:k=ds.length:=by omega
   subst Hf;have Ha:=qI f;clear f
   go_wp2
   go_ret;exact ⟨by rw [l.o];rfl,Ha.o⟩
def vI (m:Int):Int:=min (max (m*1024 / 1000) 2) 262144
def Ax (m:Int):Int:=if m=0 then -1 else max (m*100) 1000
structure jK where
 path:ByteArray
 sh:Int
 qu:Int
 by':Int
def Ay:jK:=⟨ByteArray.empty,0,0,0⟩
instance:Inhabited jK:=⟨Ay⟩
def Vw (l:List jK) (k:Nat):jK:=l.getD k Ay
def Az (f:aA->Int) (cs:List aA):Int:=if eS (λk=>decide (f (ae cs k)≠0)) cs.length=true then iJ (λk=>f (ae cs k)) cs.length else 0
structure ld where
 low:ByteArray
 mid:ByteArray
 sep:ByteArray
 lowAll:ByteArray
 midAll:ByteArray
def AA (W:ld) (p:az):ByteArray:=if mh p.cs=1 then W.low++p.nm else if mh p.cs=2 then W.mid++p.nm else W.sep++p.nm
def AB (W:ld) (p:az):jK:=⟨AA W p,vI (dY p.cs p.cs.length),Ax (Az aA.cm p.cs),Az aA.cb p.cs⟩
def AC (W:ld) (p:az) (c:aA):jK:=⟨AA W p++W.sep++c.nm,vI c.am,Ax c.cm,c.cb⟩
def Kr (W:ld) (p:az):List jK:=AB W p :: p.cs.map (AC W p)
def Ks (p:az):Int:=if mh p.cs=2 then dY p.cs p.cs.length else 0
def Kt (ps:List az) (n:Nat):Int:=iJ (λk=>Ks (bI ps k)) n
def Ku (W:ld) (ps:List az):List jK:=[⟨W.midAll,vI (Kt ps ps.length),-1,0⟩,⟨W.lowAll,2,-1,0⟩]
def AD (W:ld) (ps:List az) (k:Nat):List jK:=Ku W ps++(ps.take k).flatMap (Kr W)
def Vx (W:ld) (ps:List az):List jK:=AD W ps ps.length
def Vy (W:ld) (ps:List az) (k j:Nat):List jK:=AD W ps k++AB W (bI ps k) :: ((bI ps k).cs.take j).map (AC W (bI ps k))
end Go.Proofs.YtjlblidnfebmiaaGreatDoor
namespace Go.Proofs
open Go.Shelf
def Tryz.contL_ren:Go.Shelf.Ren:=⟨fun|8=>120|6=>158|n=>n,fun|22=>47|23=>65|25=>223|4=>4|3=>3|0=>0|n=>n,fun|n=>n⟩
theorem Tryz.contL:Go.Proofs.SlLaysH0.n8 Tryz.prog Tryz.contL_ren:=by
 constructor
 case f6=>exact ⟨Tryz.f158.name,by decide,Tryz.func158.trans (congrArg some (by kernel_rfl))⟩
 case f8=>exact ⟨Tryz.f120.name,by decide,Tryz.func120.trans (congrArg some (by kernel_rfl))⟩
 all_goals intros;kernel_rfl
end Go.Proofs
namespace Go.Proofs.YtjlblidnfebmiaaGreatDoor
variable {B:Nat} {a w w':World} {b m:Int} {v:Value}
instance:Inhabited (aA × Value):=⟨⟨vE,.nilIface⟩⟩
theorem sH (a b:ByteArray):(a.toList == b.toList)=decide (a=b):=by
 rw [Bool.eq_iff_iff,beq_iff_eq,decide_eq_true_iff,Qs,Qs];exact ⟨λh=>ByteArray.ext (Array.toList_inj.mp h),λh=>by rw [h]⟩
theorem Kv (nm:ByteArray) (B:Nat) (w:World) (c:B<w) (a:w.cell? B=some (.string nm)) :
  PredBelow prog 121 #[B] (λx:aA × Value=>.agg (dF x.1 x.2).toArray) (λx=>decide (x.1.nm=nm)) w:=λW x b=>by
 have g:cl W B (0) nm:=(b.cell (p:=B) c).trans a;have Ha:B<W:=Q1 c b.size;have Hb:B≠W:=by omega
 obtain ⟨x,dv⟩:=x;have d:=qI (sH x.nm nm)
 show Calls prog 121 #[.agg #[x.nm,(x.am:Int),(x.ab:Int),(x.cm:Int),(x.cb:Int),dv],B] W _
 show Calls prog 121 _ W λe w'=>e=.returned (.bool (decide (x.nm=nm)))/\Below w w w'
 rw [<- d.o];have f:=qI (b.alloc b.size (.cells #[x.nm,(x.am:Int),(x.ab:Int),(x.cm:Int),(x.cb:Int),dv] 65));clear b
 go_enter func121,ntmps121
 go_wp2
 go_ret;exact ⟨rfl,f.o⟩
theorem Kw (cs:List aA) (dv:Nat->Value) (k:Nat) (q:aA->Bool):((((List.range cs.length).map λj=>(ae cs j,dv j)).take k).any λx=>q x.1)=(cs.take k).any q:=by
 have e:((List.range cs.length).map λj=>(ae cs j,dv j)).map Prod.fst=cs:=by
  rw [List.map_map];apply List.ext_getElem
  ·simp
  ·intro i b a
   simp [ae,a]
 have h:(cs.take k)=(((List.range cs.length).map λj=>(ae cs j,dv j)).take k).map Prod.fst:=by rw [List.map_take,e]
 rw [h,List.any_map];rfl
theorem Kx (b o c B k:Nat) (cs:List aA) (dv:Nat->Value) (w:World) (h:ml w b o cs dv) (n:k<cs.length) (g:cs.length<=maxLen) (d:B<w) (a:w.cell? B=some (.string (ae cs k).nm)) :
  Calls prog 120 #[.slice (some ⟨b,o,none⟩) k c,.func (.func 121) #[] #[.pointer (some ⟨B,0,none⟩)]] w λe w'=>e=.returned (.bool (mg cs k))/\Below w.heap.size w w':=by
 have l:∀ args w,(callFunc 121 args).run prog w=.ok (.enter 121 args) w:=enters_of func121 (by kernel_rfl) rfl;have Ha:=AnyQ.slices_ContainsFunc Tryz.contL 6 isAgg65 sizeOf65 (λx:aA × Value=>dF x.1 x.2) (λ_=>rfl) (λx=>decide (x.1.nm=(ae cs k).nm)) 121 #[.pointer (some ⟨B,0,none⟩)] l b o k c ((List.range cs.length).map λj=>(ae cs j,dv j)) w
  (Kv (ae cs k).nm B w d a) (by simp;omega) (by unfold maxLen at g;omega) h.1 (λj f i v hi=>by
   have Hb:j<cs.length:=by simpa using f
   have e:((List.range cs.length).map λj=>(ae cs j,dv j))[j]! = (ae cs j,dv j):=by simp [Hb]
   rw [e] at hi;have m:i<6:=by
    have:=(List.getElem?_eq_some_iff.1 hi).1
    simpa [dF] using this
   rw [(h.2 j Hb).1 i m];exact hi)
 change Calls prog 120 _ _ _ at Ha
 rw [Kw cs dv k λx=>decide (x.nm=(ae cs k).nm)] at Ha;exact Ha
theorem Ky {cs:List aA} {k:Nat} (h:bN (ae cs k).nm=false):dI cs k=3:=by unfold dI;rw [if_pos h]
theorem Kz {cs:List aA} {k:Nat} (h:bN (ae cs k).nm=true) (a:mg cs k=true):dI cs k=5:=by unfold dI;rw [if_neg (by rw [h];decide),if_pos a]
theorem KA {cs:List aA} {k:Nat} (h:bN (ae cs k).nm=true) (b:mg cs k=false) (a:gk (ae cs k).am (ae cs k).ab=false\/gk (ae cs k).cm (ae cs k).cb=false):dI cs k=1:=by grind [dI]
theorem KB {cs:List aA} {k:Nat} (h:bN (ae cs k).nm=true) (d:mg cs k=false) (c:gk (ae cs k).am (ae cs k).ab=true) (a:gk (ae cs k).cm (ae cs k).cb=true) (b:ik (ae cs k).am (ae cs k).cm=true\/ik (ae cs k).ab (ae cs k).cb=true):dI cs k=3:=by grind [dI]
theorem KC {cs:List aA} {k:Nat} (h:bN (ae cs k).nm=true) (e:mg cs k=false) (d:gk (ae cs k).am (ae cs k).ab=true) (a:gk (ae cs k).cm (ae cs k).cb=true) (c:ik (ae cs k).am (ae cs k).cm=false) (b:ik (ae cs k).ab (ae cs k).cb=false):dI cs k=(if 3<(ae cs k).ds.length then (2:Nat) else bh (ij (ae cs k).ds) (ae cs k).ds.length:Nat):=by grind [dI]
theorem boxed (w:World) (x:aA) (d:Value):(w.alloc (.cells #[x.nm,(x.am:Int),(x.ab:Int),(x.cm:Int),(x.cb:Int),d] 65)).cell? w=some (.string x.nm):=by simp
def lg (W:World) (B:Nat) (x:aA) (d:Value):Prop:=B<W.heap.size/\W.cell? B=some (.string x.nm)/\W.cell? ⟨B,1,none⟩=some (.int .i64 x.am)/\W.cell? ⟨B,2,none⟩=some (.int .i64 x.ab)/\W.cell? ⟨B,3,none⟩=some (.int .i64 x.cm)/\W.cell? ⟨B,4,none⟩=some (.int .i64 x.cb)/\W.cell? ⟨B,5,none⟩=some d
theorem lg.made (w:World) (x:aA) (d:Value):lg (w.alloc (.cells #[x.nm,(x.am:Int),(x.ab:Int),(x.cm:Int),(x.cb:Int),d] 65)) w x d:=by
 refine ⟨by simp,by simp,by simp,by simp,by simp,by simp,by simp⟩
theorem lg.below {W W':World} {x:aA} {d:Value} (h:lg W B x d) (b:Below W W W'):lg W' B x d:=by
 obtain ⟨a,i,g,f,e,c,j⟩:=h;exact ⟨Q1 a b.size,(b.cell (p:=B) a).trans i,(b.cell (p:=⟨B,1,none⟩) a).trans g,(b.cell (p:=⟨B,2,none⟩) a).trans f,(b.cell (p:=⟨B,3,none⟩) a).trans e,(b.cell (p:=⟨B,4,none⟩) a).trans c,(b.cell (p:=⟨B,5,none⟩) a).trans j⟩
theorem KD (b o c k:Nat) (cs:List aA) (dv:Nat->Value) (w:World) (h:ml w b o cs dv) (y:k<cs.length) (G:cs.length<=maxLen) :
  Calls prog 81 #[.agg #[(ae cs k).nm,((ae cs k).am:Int),((ae cs k).ab:Int),((ae cs k).cm:Int),((ae cs k).cb:Int),dv k],.slice (some ⟨b,o,none⟩) k c] w λe w'=>e=.returned (aL (dI cs k:Nat))/\Below w w w':=by
 have Hk:=(Q0 w w).alloc (lR) (.cells #[(ae cs k).nm,((ae cs k).am:Int),((ae cs k).ab:Int),((ae cs k).cm:Int),((ae cs k).cb:Int),dv k] 65);have v:=qI (Kx b o c w k cs dv _ (h.below Hk) y G (by simp) (boxed w (ae cs k) (dv k)));have J:=qI (h.2 k y).2;have Hb:=qI Hk;have H:=qI (@Ky cs k);have D:=qI (@Kz cs k);have C:=qI (@KA cs k);have E:=qI (@KB cs k);have A:=qI (@KC cs k);clear h y G Hk;generalize dI cs k=F at *;generalize mg cs k=T at *;generalize ae cs k=x at *;generalize dv k=d at *
 rcases two (bN x.nm) with f|f
 ·rcases two T with p|p
  ·have a:=D.o f p;subst p
   go_enter func81,ntmps81
   go_wp2_with fail
   refine (iI _ _).mono ?_;rintro e u ⟨rfl,rfl⟩;rw [f]
   go_wp2_with fail
   refine v.o.mono ?_;rintro e u ⟨rfl,Hc⟩
   go_wp2
   go_ret;exact ⟨by rw [a];rfl,Hb.o.trans (Hc.mono Hb.o.size)⟩
  ·subst p;have z:=qI (C.o f rfl);have j:=qI (E.o f rfl);have g:=qI (A.o f rfl);clear H D C E A
   go_enter func81,ntmps81
   go_wp2_with fail
   refine (iI _ _).mono ?_;rintro e u ⟨rfl,rfl⟩;rw [f]
   go_wp2_with fail
   refine v.o.mono ?_;rintro e u ⟨rfl,Hc⟩;have Hf:=qI ((lg.made w x d).below Hc);have Hi:=qI (Hb.o.trans (Hc.mono Hb.o.size));clear Hc v Hb;generalize w=B at Hf;obtain ⟨s,b0,b1,b2,t,r,q⟩:=Hf.o
   go_wp2_with fail
   refine (Aw _ _ _).mono ?_;rintro e M ⟨rfl,Hj⟩;have Hh:=qI (Hf.o.below Hj);have Ha:=qI (Hi.o.trans (Hj.mono Hi.o.size));clear Hj Hf Hi s b0 b1 b2 t r q
   rcases two (gk x.am x.ab) with i|i
   ·have j:=qI (j.o i);have g:=qI (g.o i);rw [i];obtain ⟨s,b0,b1,b2,t,r,q⟩:=Hh.o
    go_wp2_with fail
    refine (Aw _ _ _).mono ?_;rintro e L ⟨rfl,Hg⟩;have Hn:=qI (Hh.o.below Hg);have Hm:=qI (J.o.below (Ha.o.trans (Hg.mono Ha.o.size)));have He:=qI (Ha.o.trans (Hg.mono Ha.o.size));clear Hg Hh Ha s b0 b1 b2 t r q
    rcases two (gk x.cm x.cb) with l|l
    ·have j:=qI (j.o l);have g:=qI (g.o l);rw [l];obtain ⟨s,b0,b1,b2,t,r,q⟩:=Hn.o
     go_wp2_with fail
     refine (Av _ _ _).mono ?_;rintro e K ⟨rfl,rfl⟩
     rcases two (ik x.am x.cm) with n|n
     ·have a:=j.o (.inl n);rw [n]
      go_wp2
      go_ret;exact ⟨by rw [a];rfl,He.o⟩
     ·have g:=qI (g.o n);rw [n]
      go_wp2_with fail
      refine (Av _ _ _).mono ?_;rintro e K ⟨rfl,rfl⟩
      rcases two (ik x.ab x.cb) with m|m
      ·have a:=j.o (.inr m);rw [m]
       go_wp2
       go_ret;exact ⟨by rw [a];rfl,He.o⟩
      ·have I:=qI (g.o m);rw [m]
       go_wp2_with fail
       refine (Kq d x.ds _ Hm.o).mono ?_;rintro e N ⟨rfl,Hl⟩;rw [<- I.o];have Ho:=qI (He.o.trans (Hl.mono He.o.size));clear Hl
       go_wp2
       go_ret;exact ⟨rfl,Ho.o⟩
    ·have a:=z.o (.inr l);rw [l]
     go_wp2
     go_ret;exact ⟨by rw [a];rfl,He.o⟩
   ·have a:=z.o (.inl i);rw [i]
    go_wp2
    go_ret;exact ⟨by rw [a];rfl,Ha.o⟩
 ·have a:=H.o f
  go_enter func81,ntmps81
  go_wp2_with fail
  refine (iI _ _).mono ?_;rintro e u ⟨rfl,rfl⟩;rw [f]
  go_wp2
  go_ret;exact ⟨by rw [a];rfl,Hb.o⟩
theorem KE {p:az} (h:bN p.nm=false):br p=3:=by unfold br;rw [if_pos h]
theorem KF {p:az} (h:bN p.nm=true) (a:p.pr<0\/1000<p.pr):br p=1:=by unfold br;rw [if_neg (by rw [h];decide),if_pos a]
theorem KH {p:az} (h:bN p.nm=true) (a:¬ (p.pr<0\/1000<p.pr)) (b:p.cs.length<1\/3<p.cs.length):br p=2:=by unfold br;rw [if_neg (by rw [h];decide),if_neg a,if_pos b]
theorem KI {p:az} (h:bN p.nm=true) (a:¬ (p.pr<0\/1000<p.pr)) (b:¬ (p.cs.length<1\/3<p.cs.length)):br p=bh (dI p.cs) p.cs.length:=by unfold br;rw [if_neg (by rw [h];decide),if_neg a,if_neg b]
theorem eV {f:Nat} (h:f≠0):aL (f:Int)=.iface 108 (f:Int):=by unfold aL;rw [if_neg (by omega)]
theorem qj (h:Below B a w):Below B a w.drew:=⟨h.os,h.tape,h.output,h.size,h.block⟩
abbrev nA:=λ(x0:ByteArray) (x1:Int) (x2:Nat) (x3:Option Addr) (x4:Nat)=>(.cells #[x0,x1,.slice x3 x2 x4] 49:Obj)
theorem vJ (p:az) (cv:Value) (w:World) (h:aZ w cv p.cs):Calls prog 42 #[du p cv] w λe w'=>e=.returned (aL (br p:Nat))/\Below w w w':=by
 obtain ⟨O,c,rfl,M,P⟩:=h;have Q:=qI P;have E:=qI M;clear P M;have G:=qI (@KE p);have u:=qI (@KF p);have m:=qI (@KH p);have q:=qI (@KI p);unfold du;have Hf:=qI ((Q0 w w).alloc (lR) (nA p.nm p.pr p.cs.length O c))
 rcases two (bN p.nm) with l|l
 ·have u:=qI (u.o l);have m:=qI (m.o l);have q:=qI (q.o l)
  by_cases z:p.pr<0\/1000<p.pr
  ·have s:=u.o z
   go_enter func42,ntmps42
   go_wp2_with fail
   refine (iI _ _).mono ?_;rintro e r ⟨rfl,rfl⟩;rw [l]
   go_wp2_with fail
   refine (mn _ _ _ _).mono ?_;rintro e r ⟨rfl,rfl⟩;rw [show (decide (0<=p.pr) && decide (p.pr<=1000))=false by simp;omega]
   go_wp2
   go_ret;exact ⟨by rw [s];rfl,Hf.o⟩
  have m:=qI (m.o z);have q:=qI (q.o z);have Hk:(decide (0<=p.pr) && decide (p.pr<=1000))=true:=by simp;omega
  clear z
  by_cases A:p.cs.length<1\/3<p.cs.length
  ·have s:=m.o A;have Hg:(decide ((1:Int)<=p.cs.length) && decide ((p.cs.length:Int)<=3))=false:=by simp;omega
   clear A G u m q
   go_enter func42,ntmps42
   go_wp2_with fail
   refine (iI _ _).mono ?_;rintro e r ⟨rfl,rfl⟩;rw [l]
   go_wp2_with fail
   refine (mn _ _ _ _).mono ?_;rintro e r ⟨rfl,rfl⟩;rw [Hk]
   go_wp2_with fail
   refine (mn _ _ _ _).mono ?_;rintro e r ⟨rfl,rfl⟩;rw [Hg]
   go_wp2
   go_ret;exact ⟨by rw [s];rfl,Hf.o⟩
  have y:=qI (q.o A);have Hg:(decide ((1:Int)<=p.cs.length) && decide ((p.cs.length:Int)<=3))=true:=by simp;omega
  have Hr:p.cs.length<=3:=by omega
  rw [y.o];clear A G u m q y;clear u m q;generalize p.cs=cs at *
  go_enter func42,ntmps42
  go_wp2_with fail
  refine (iI _ _).mono ?_;rintro e r ⟨rfl,rfl⟩;rw [l]
  go_wp2_with fail
  refine (mn _ _ _ _).mono ?_;rintro e r ⟨rfl,rfl⟩;rw [Hk]
  go_wp2_with fail
  refine (mn _ _ _ _).mono ?_;rintro e r ⟨rfl,rfl⟩;rw [Hg]
  go_wp2
  go_loopw [25] (λi wr=>∃ k:Nat,k<=cs.length/\i=.int .i64 k/\Below w w wr/\Hu (w<wr.heap.size)/\wr.cell? ⟨w,2,none⟩=some (.slice O cs.length c)/\Hu (bh (dI cs) k=0)) (λi _=>cs.length - (intOf i).toNat)
  case atStart=>exact ⟨0,by omega,rfl,Hf.o,by simp [Hu],by simp,rfl⟩
  case round=>
   obtain ⟨k,U,rfl,t,He,Hp,B⟩:=hrel
   by_cases j:k<cs.length
   ·obtain ⟨b,o,dv,rfl,Hb⟩:=Q.o (by omega);have Hb:=Hb.below t;obtain ⟨c0,c1,c2,c3,R,T⟩:=Hb.at j;have Hz:k<=c:=Q5 U E.o.1;have L:=qI (kU (f:=dI cs) (n:=cs.length) B.o · j);have C:=qI (l8 (f:=dI cs) (k:=k) B.o);have V:=qI Hb;have Hc:=qI (t.alloc t.size (.cells #[(ae cs k).nm,((ae cs k).am:Int),((ae cs k).ab:Int),((ae cs k).cm:Int),((ae cs k).cb:Int),dv k] 65));have Hn:=qI ((lg.made wr (ae cs k) (dv k)).below (qj (Q0 _ _)));have Hq:=qI λW (hb:Below wr wr W)=>KD b o c k cs dv W (Hb.below hb) j (Q5 E.o.1 E.o.2);have Hj:=qI ((Q0 wr wr).alloc (lR) (.cells #[(ae cs k).nm,((ae cs k).am:Int),((ae cs k).ab:Int),((ae cs k).cm:Int),((ae cs k).cb:Int),dv k] 65));have Hl:=qI Hp;have Hw:∃ a n e,dv k=.slice a n e:=by
     obtain ⟨a,e,s,_⟩:=(Hb.2 k j).2;exact ⟨a,_,e,s⟩
    clear Hb B t;generalize ae cs k=x at *;generalize dv k=d at *;obtain ⟨da,dn,dc,rfl⟩:=Hw;generalize dI cs k=F at *
    go_wp2_with fail
    obtain ⟨g,b0,b1,b2,J,I,H⟩:=Hn.o;have Hh:=(qj Hj.o).cell (p:=⟨w,2,none⟩) He.o |>.trans Hl.o;clear Hn;refine wp_region_held_drew (S:=(λw'=>(w'.cell? wr=some (.string x.nm)/\w'.cell? ⟨wr,1,none⟩=some (.int .i64 x.am)/\w'.cell? ⟨wr,2,none⟩=some (.int .i64 x.ab)/\w'.cell? ⟨wr,3,none⟩=some (.int .i64 x.cm)/\w'.cell? ⟨wr,4,none⟩=some (.int .i64 x.cb)/\w'.cell? ⟨wr,5,none⟩=some (.slice da dn dc))/\w'.cell? ⟨w,2,none⟩=some (.slice (some ⟨b,o,none⟩) cs.length c))) (by kernel_rfl) ⟨⟨b0,b1,b2,J,I,H⟩,Hh⟩ λD=>?_;refine tk 0 ?_;refine tk 1 ?_;refine tk 2 ?_;refine tk 3 ?_;refine tk 4 ?_;refine rd 5 λK N=>?_;go_simp
    go_wp2_with fail
    refine (Hq.o _ (qj Hj.o)).mono ?_;rintro e X ⟨rfl,Ha⟩;have Hi:=qI Ha;have Ho:=qI (And.intro (And.intro ((Ha.cell (p:=wr.heap.size) g).trans b0) (And.intro ((Ha.cell (p:=⟨wr,1,none⟩) g).trans b1) (And.intro ((Ha.cell (p:=⟨wr,2,none⟩) g).trans b2) (And.intro ((Ha.cell (p:=⟨wr,3,none⟩) g).trans J) (And.intro ((Ha.cell (p:=⟨wr,4,none⟩) g).trans I) ((Ha.cell (p:=⟨wr,5,none⟩) g).trans H)))))) ((Ha.cell (p:=⟨w,2,none⟩) (Nat.lt_trans He.o g)).trans Hh));clear Ha
    go_wp2_with fail
    refine N.o _ _ Ho.o λD=>?_;clear N K;refine tk 6 ?_;refine Qn (by kernel_rfl) ?_ _;have Hm:=qI ((qj Hc.o).trans (Hi.o.mono (qj Hc.o).size));have Hs:=qI D.2;have Hv:=qI (Q1 (Nat.lt_trans He.o g) Hi.o.size);clear Hi Ho D Hc Hq Hj Hl V Hh b0 b1 b2 J I H g He Hp c0 c1 c2 c3 R T
    by_cases v:F=0
    ·have Ht:=qI (C.o v);rw [show aL (F:Int)=.nilIface by rw [v];rfl];clear L C v
     go_wp2
     go_roundw
     case rel=>exact ⟨k+1,by omega,by go_num,Hm.o,Hv,Hs.o,Ht⟩
     case measure=>simp [intOf];omega
    ·have Hy:=qI (L.o v);have y:=qI (eV v);rw [y.o];clear L C v
     go_wp2
     go_ret;exact ⟨by rw [Hy.o,y.o];rfl,Hm.o⟩
   ·have Hx:k=cs.length:=by omega
    subst Hx;have Hc:=qI t;clear t
    go_wp2
    go_ret;exact ⟨by rw [B.o];rfl,Hc.o⟩
 ·have s:=G.o l
  go_enter func42,ntmps42
  go_wp2_with fail
  refine (iI _ _).mono ?_;rintro e r ⟨rfl,rfl⟩;rw [l]
  go_wp2
  go_ret;exact ⟨by rw [s];rfl,Hf.o⟩
theorem AE {fn:Func} {p:Tmp} {b:TypeId} (h:fn.results=#[.cell p b]) (tmps:Array Value) (P:Program) (w:World) :
  (results fn tmps).run P w=((asAddr (tmps.getD p undef)).run P w).andThen λa c=>(loadVar b a).run P c:=by
 simp only [results,h]
 simp [Sem.run_bind,Result.andThen]
def dJ (w:World) (B:Nat) (m b:Int):Prop:=(w.cell? B=some (.int .i64 m)/\w.frozen? B=false)/\(w.cell? ⟨B,1,none⟩=some (.int .i64 b)/\w.frozen? ⟨B,1,none⟩=false)
theorem dJ.lt (h:dJ w B m b):B<w:=Q3 w _ h.1.1
theorem dJ.kept {g:Option Nat} (h:dJ w B m b) (c:w.grownBy w' g) (a:some B≠g):dJ w' B m b:=
 ⟨⟨(c.cell_far _ h.lt a).trans h.1.1,(c.frozen_far _ h.lt a).trans h.1.2⟩,⟨(c.cell_far _ h.lt a).trans h.2.1,(c.frozen_far _ h.lt a).trans h.2.2⟩⟩
theorem dJ.below (h:dJ w B m b) (a:Below w w w'):dJ w' B m b:=h.kept (eU a none) (by simp)
theorem dJ.alloc (h:dJ w B m b) (o:Obj):dJ (w.alloc o) B m b:=h.below ((Q0 _ w).alloc (lR) o)
theorem dJ.made (w:World) (t:TypeId) (m b:Int):dJ (w.alloc (.cells #[m,b] t)) w m b:=⟨⟨by simp,by simp⟩,⟨by simp,by simp⟩⟩
theorem dJ.set0 (h:dJ w B m b) (n:Int):dJ (w.setCell B n) B n b:=by
 obtain ⟨⟨c0,z0⟩,⟨c1,z1⟩⟩:=h;refine ⟨⟨?_,(World.frozen?_setCell ..).trans z0⟩,⟨?_,(World.frozen?_setCell ..).trans z1⟩⟩
 ·clear c1;go_simp
 ·have Ha:(B:Addr)≠⟨B,1,none⟩:=by intro h;cases h
  rw [World.cell?_setCell_other (h:=Ha)];exact c1
theorem dJ.set1 (h:dJ w B m b) (n:Int):dJ (w.setCell ⟨B,1,none⟩ n) B m n:=by
 obtain ⟨⟨c0,z0⟩,⟨c1,z1⟩⟩:=h;refine ⟨⟨?_,(World.frozen?_setCell ..).trans z0⟩,⟨?_,(World.frozen?_setCell ..).trans z1⟩⟩
 ·have Ha:(⟨B,1,none⟩:Addr)≠⟨B,0,none⟩:=by intro h;cases h
  rw [World.cell?_setCell_other (h:=Ha)];exact c0
 ·clear c0;go_simp
theorem mo {K:Nat} (h:Below K a w) (B j:Nat) (v:Value) (c:K<=B) (b:K<=w):Below K a (w.setCell ⟨B,j,none⟩ v):=by grind [h.trans,below_grown,cK]
theorem AF (p:az) (cv:Value) (w:World) (h:aZ w cv p.cs) (j:km p.cs):Calls prog 41 #[du p cv] w λe w'=>e=.returned (.agg #[(dY p.cs p.cs.length:Int),(fK p.cs p.cs.length:Int)])/\Below w w w':=by
 obtain ⟨m,c,rfl,y,r⟩:=h;have u:=qI r;clear r y;unfold du;have Hl:=qI ((((Q0 w w).alloc (lR) (nA p.nm p.pr p.cs.length m c)).alloc (by simp) (.cells #[(0:Int),(0:Int)] 62)).alloc (by simp;omega) (.cells #[(0:Int),(0:Int)] 62));have Hc:Hu (dJ (((w.alloc (nA p.nm p.pr p.cs.length m c)).alloc (.cells #[(0:Int),(0:Int)] 62)).alloc (.cells #[(0:Int),(0:Int)] 62)) (w.heap.size+1) 0 0/\dJ (((w.alloc (nA p.nm p.pr p.cs.length m c)).alloc (.cells #[(0:Int),(0:Int)] 62)).alloc (.cells #[(0:Int),(0:Int)] 62)) (w.heap.size+1+1) 0 0):=by
  constructor
  ·have:=(dJ.made (w.alloc (nA p.nm p.pr p.cs.length m c)) 62 0 0).alloc (.cells #[(0:Int),(0:Int)] 62)
   simpa using this
  ·have:=dJ.made ((w.alloc (nA p.nm p.pr p.cs.length m c)).alloc (.cells #[(0:Int),(0:Int)] 62)) 62 0 0
   simpa using this
 generalize p.cs=cs at *;have He:=qI j;have Ho:=j.1;clear j
 go_enter func41,ntmps41
 go_wp2
 go_loopw [9] (λi wr=>∃ k:Nat,k<=cs.length/\i=.int .i64 k/\Below w w wr/\dJ wr (w.heap.size+1) 0 0/\dJ wr (w.heap.size+1+1) (dY cs k) (fK cs k)) (λi _=>cs.length - (intOf i).toNat)
 case atStart=>exact ⟨0,by omega,rfl,Hl.o,Hc.o.1,Hc.o.2⟩
 case round=>
  obtain ⟨k,t,rfl,g,Hh,Hg⟩:=hrel
  by_cases f:k<cs.length
  ·obtain ⟨b,o,dv,rfl,Ha⟩:=u.o (by omega);have Ha:=Ha.below g;obtain ⟨c0,c1,c2,c3,B,H⟩:=Ha.at f;have Hs:∃ a n e,dv k=.slice a n e:=by
    obtain ⟨a,e,A,_⟩:=(Ha.2 k f).2;exact ⟨a,_,e,A⟩
   have Hf:=qI (g.alloc g.size (.cells #[(ae cs k).nm,((ae cs k).am:Int),((ae cs k).ab:Int),((ae cs k).cm:Int),((ae cs k).cb:Int),dv k] 65));have Hk:=Hh.alloc (.cells #[(ae cs k).nm,((ae cs k).am:Int),((ae cs k).ab:Int),((ae cs k).cm:Int),((ae cs k).cb:Int),dv k] 65);have Hi:=Hg.alloc (.cells #[(ae cs k).nm,((ae cs k).am:Int),((ae cs k).ab:Int),((ae cs k).cm:Int),((ae cs k).cb:Int),dv k] 65);have Hb:=lg.made wr (ae cs k) (dv k);have Hp:Hu (dY cs (k+1)=dY cs k+(ae cs k).am):=rfl;have Hx:Hu (fK cs (k+1)=fK cs k+(ae cs k).ab):=rfl;obtain ⟨m1,m2,_⟩:=He.o.2 k f;obtain ⟨C,G⟩:=sF He.o t;obtain ⟨E,D⟩:=sG He.o t;have Ht:=Hg.lt;clear Ha g Hl Hc;generalize dY cs k=M at *;generalize fK cs k=N at *;generalize ae cs k=x at *;generalize dv k=d at *;obtain ⟨da,dn,dc,rfl⟩:=Hs;generalize hW1:wr.alloc (.cells #[x.nm,(x.am:Int),(x.ab:Int),(x.cm:Int),(x.cb:Int),.slice da dn dc] 65)=z at Hk Hi Hf Hb;have J:wrap64 (M+x.am)=M+x.am:=by unfold wrap64;omega
   have I:wrap64 (N+x.ab)=N+x.ab:=by unfold wrap64;omega
   have Hm:=qI (cK z ⟨w.heap.size+1+1,0,none⟩ (M+x.am:Int));have Hw:=qI (Hk.kept Hm.o (by simp));have Hj:=qI (Hi.set0 (M+x.am));have F:=(Hm.o.cell_far ⟨wr,2,none⟩ Hb.1 (by simp;omega)).trans Hb.2.2.2.1;obtain ⟨⟨f1,f2⟩,⟨f3,q⟩⟩:=Hi;obtain ⟨⟨g1,s⟩,⟨g3,g4⟩⟩:=Hj.o;obtain ⟨_,_,b1,_⟩:=Hb
   go_wp2_with fail
   have l:=Hf.o.size;have Hq:=mo Hf.o (w.heap.size+1+1) 0 (M+x.am:Int) (by omega) l;refine ⟨⟨k+1,by omega,by go_num,mo Hq (w.heap.size+1+1) 1 (N+x.ab:Int) (by omega) (by simpa using l),Hw.o.kept (cK _ ⟨w.heap.size+1+1,1,none⟩ (N+x.ab:Int)) (by simp),?_⟩,by simp [intOf];omega⟩;rw [Hp.o,Hx.o];exact Hj.o.set1 _
  ·have Hv:k=cs.length:=by omega
   subst Hv;have l:=g.size;have Hr:=qI (mo (mo g (w.heap.size+1) 0 (dY cs cs.length:Int) (by omega) l) (w.heap.size+1) 1 (fK cs cs.length:Int) (by omega) (by simpa using l));have Hn:=qI ((Hh.set0 (dY cs cs.length)).set1 (fK cs cs.length));obtain ⟨⟨f1,f2⟩,⟨f3,q⟩⟩:=Hh;obtain ⟨⟨g1,s⟩,⟨g3,g4⟩⟩:=Hg;clear g
   go_wp2_with fail
   (try simp only [Exit.inBlock,Exit.then]);refine bodyPost_ret (v:=.agg #[(dY cs cs.length:Int),(fK cs cs.length:Int)]) ?_ rfl ⟨rfl,Hr.o⟩;obtain ⟨⟨g1,s⟩,⟨g3,g4⟩⟩:=Hn.o;rw [AE rfl];clear f1 f2 f3 q;go_simp
theorem KJ (p:az) (cv:Value) (w:World) (h:aZ w cv p.cs):Calls prog 82 #[du p cv] w λe w'=>e=.returned (mh p.cs:Int)/\Below w w w':=by
 obtain ⟨F,c,rfl,A,B⟩:=h;have C:=qI B;have D:=qI A;clear B A;unfold du;have Hc:=qI ((Q0 w w).alloc (lR) (nA p.nm p.pr p.cs.length F c));generalize p.cs=cs at *
 go_enter func82,ntmps82
 go_wp2
 go_loopw [3,4,10] (λs r i wr=>∃ k:Nat,k<=cs.length/\i=.int .i64 k/\s=.bool (ny cs k)/\r=.bool (nz cs k)/\Below w w wr) (λ_ _ i _=>cs.length - (intOf i).toNat)
 case atStart=>exact ⟨0,by omega,rfl,rfl,rfl,Hc.o⟩
 case round=>
  obtain ⟨k,L,rfl,rfl,rfl,m⟩:=hrel
  by_cases q:k<cs.length
  ·obtain ⟨b,o,dv,rfl,Hb⟩:=C.o (by omega);have Hb:=Hb.below m;obtain ⟨c0,c1,c2,c3,K,J⟩:=Hb.at q;have He:∃ a n e,dv k=.slice a n e:=by
    obtain ⟨a,e,H,_⟩:=(Hb.2 k q).2;exact ⟨a,_,e,H⟩
   have Ha:=qI (m.alloc m.size (.cells #[(ae cs k).nm,((ae cs k).am:Int),((ae cs k).ab:Int),((ae cs k).cm:Int),((ae cs k).cb:Int),dv k] 65));have z:Hu (wrap64 ((k:Int)+1)=((k+1:Nat):Int)):=by
    have:=D.o
    unfold maxLen at this
    show wrap64 ((k:Int)+1)=((k+1:Nat):Int)
    unfold wrap64;omega
   have HS:Hu (ny cs (k+1)=(ny cs k && qg (ae cs k))):=rfl;have l:Hu (nz cs (k+1)=(nz cs k && qh (ae cs k))):=rfl;clear Hb m;generalize ae cs k=x at *;generalize dv k=d at *;obtain ⟨da,dn,dc,rfl⟩:=He;generalize ny cs k=s at *;generalize nz cs k=r at *;obtain ⟨nm,am,ab,cm,cb,ds⟩:=x;have key:(s=true/\r=true)\/(s=false\/r=false):=by cases s <;> cases r <;> simp
   rcases key with ⟨f,g⟩|y
   ·subst f g;have j:∀ a c:Int,(a=0/\c=0)\/(a=0/\c≠0)\/(a≠0/\c=0)\/(a≠0/\c=a)\/(a≠0/\c≠0/\a≠c):=by omega
    rcases j am cm with ⟨g1,u⟩|⟨g1,u⟩|⟨g1,u⟩|⟨g1,u⟩|⟨g1,u,g3⟩
    all_goals rcases j ab cb with ⟨v,t⟩|⟨v,t⟩|⟨v,t⟩|⟨v,t⟩|⟨v,t,I⟩
    all_goals clear j
    all_goals subst_vars
    all_goals (try have E:=Ne.symm u)
    all_goals (try have G:=Ne.symm t)
    all_goals go_wp2_with fail
    all_goals
     rw [z.o];refine ⟨⟨k+1,by omega,rfl,?_,?_,Ha.o⟩,by simp [intOf];omega⟩
     ·rw [HS.o];simp [qg, *]
     ·rw [l.o];simp [qh, *] <;> (rw [Bool.eq_iff_iff];simp;omega)
   ·rcases y with f|g
    ·subst f
     rcases two r with g|g
     all_goals subst g
     all_goals go_wp2_with fail
     all_goals
      subst_vars
      rw [z.o];refine ⟨⟨k+1,by omega,rfl,?_,?_,Ha.o⟩,by simp [intOf];omega⟩
      ·rw [HS.o];simp [qg, *]
      ·rw [l.o];simp [qh, *] <;> (rw [Bool.eq_iff_iff];simp;omega)
    ·subst g
     rcases two s with f|f
     all_goals subst f
     all_goals go_wp2_with fail
     all_goals
      subst_vars
      rw [z.o];refine ⟨⟨k+1,by omega,rfl,?_,?_,Ha.o⟩,by simp [intOf];omega⟩
      ·rw [HS.o];simp [qg, *]
      ·rw [l.o];simp [qh, *] <;> (rw [Bool.eq_iff_iff];simp;omega)
  ·have Hf:k=cs.length:=by omega
   subst Hf;have Ha:=qI m;have l:Hu (mh cs=if ny cs cs.length=true then 1 else if nz cs cs.length=true then 3 else 2):=rfl;clear m
   rcases two (ny cs cs.length) with f|f
   ·rw [f];rw [f] at l
    go_wp2
    go_ret;exact ⟨by rw [l.o];rfl,Ha.o⟩
   ·rcases two (nz cs cs.length) with g|g
    ·rw [f,g];rw [f,g] at l
     go_wp2
     go_ret;exact ⟨by rw [l.o];rfl,Ha.o⟩
    ·rw [f,g];rw [f,g] at l
     go_wp2
     go_ret;exact ⟨by rw [l.o];rfl,Ha.o⟩
def Vz (W:World) (B:Nat) (p:az) (cv:Value):Prop:=B<W.heap.size/\W.cell? B=some (.string p.nm)/\W.cell? ⟨B,1,none⟩=some (.int .i64 p.pr)/\W.cell? ⟨B,2,none⟩=some cv
theorem aZ.slice {v:Value} {cs:List aA} (h:aZ w v cs):∃ a n c,v=.slice a n c:=by
 obtain ⟨a,c,h,_⟩:=h;exact ⟨a,_,c,h⟩
theorem qk (p:az) (cv:Value) (x:aA) (da:Option Addr) (dn dc:Nat) (w:World) (h:aZ w cv p.cs) (f:0<=x.am) (o:x.am<=1000000) :
  Calls prog 44 #[du p cv,.agg #[x.nm,(x.am:Int),(x.ab:Int),(x.cm:Int),(x.cb:Int),.slice da dn dc]] w λe w'=>e=.returned (bL p.cs x.am:Int)/\Below w w w':=by
 have hs:=h.slice;unfold du;have Hb:=qI (((Q0 w w).alloc (lR) (.cells #[p.nm,(p.pr:Int),cv] 49)).alloc (by simp) (.cells #[x.nm,(x.am:Int),(x.ab:Int),(x.cm:Int),(x.cb:Int),.slice da dn dc] 65));have a:=lg.made (w.alloc (.cells #[p.nm,(p.pr:Int),cv] 49)) x (.slice da dn dc);rw [show (w.alloc (.cells #[p.nm,(p.pr:Int),cv] 49)).heap.size=w.heap.size+1 by simp] at a;have a:=qI a;have c:=qI (KJ p cv _ (h.below Hb.o));have k:x.am.tmod 1000=x.am % 1000:=Int.tmod_eq_emod_of_nonneg f;have q:x.am.tdiv 1000=x.am / 1000:=Int.tdiv_eq_ediv_of_nonneg f;have b:Hu (bL p.cs x.am=if mh p.cs=3/\x.am % 1000=0 then x.am / 1000 else 0):=rfl;unfold du at c;obtain ⟨l,m,n,rfl⟩:=hs;generalize mh p.cs=K at *;generalize bL p.cs x.am=R at *;clear h
 by_cases i:K=3
 ·subst i
  by_cases d:x.am % 1000=0
  ·have Hf:x.am.tmod 1000=0:=by rw [k];exact d
   have He:=qI (b.o.trans (if_pos ⟨rfl,d⟩));clear b
   go_enter func44,ntmps44
   go_wp2_with fail
   refine c.o.mono ?_;rintro e j ⟨rfl,Ha⟩;obtain ⟨g,b0,b1,_⟩:=a.o.below Ha;have Hc:=qI (Hb.o.trans (Ha.mono Hb.o.size));clear Ha a Hb
   go_wp2
   go_ret;exact ⟨by rw [He.o];rfl,Hc.o⟩
  ·have Hf:(x.am % 1000 != 0)=true:=by simp [d]
   have He:=qI (b.o.trans (if_neg λh=>d h.2));clear b
   go_enter func44,ntmps44
   go_wp2_with fail
   refine c.o.mono ?_;rintro e j ⟨rfl,Ha⟩;obtain ⟨g,b0,b1,_⟩:=a.o.below Ha;have Hc:=qI (Hb.o.trans (Ha.mono Hb.o.size));clear Ha a Hb
   go_wp2
   go_ret;exact ⟨by rw [He.o];rfl,Hc.o⟩
 ·have He:=qI (b.o.trans (if_neg λh=>i h.1));clear b
  go_enter func44,ntmps44
  go_wp2_with fail
  refine c.o.mono ?_;rintro e j ⟨rfl,Ha⟩;obtain ⟨g,b0,b1,_⟩:=a.o.below Ha;have Hc:=qI (Hb.o.trans (Ha.mono Hb.o.size));clear Ha a Hb
  go_wp2
  go_ret;exact ⟨by rw [He.o];rfl,Hc.o⟩
theorem bO.rows {ds:List ai} (h:bO w v ds):gJ w v 2 pZ:=by
 obtain ⟨g,c,f,m,n⟩:=h;refine ⟨g,_,c,f,m,λe=>?_⟩;obtain ⟨b,o,i,Ha,d⟩:=n e;refine ⟨b,o,i,Ha,λk a=>⟨[.string (ak ds k).kind,.int .i64 (ak ds k).many],rfl,λj l=>?_,⟨_,_,rfl⟩⟩⟩
 match j,l with
 | 0,_=>exact (d k a).1
 | 1,_=>exact (d k a).2
theorem aZ.rows {cs:List aA} (h:aZ w v cs):gJ w v 6 (kV w):=by
 obtain ⟨i,c,g,e,l⟩:=h;refine ⟨i,_,c,g,Q5 e.1 e.2,λf=>?_⟩;obtain ⟨b,o,dv,j,a⟩:=l f;exact ⟨b,o,j,a.1,λk d=>⟨dF (ae cs k) (dv k),rfl,(a.2 k d).1,⟨_,_,_,_,_,_,rfl,(a.2 k d).2.rows⟩⟩⟩
theorem KK {p:az} {cv:Value} (h:aZ w cv p.cs):Calls prog 24 #[du p cv] w λe w'=>Ans e/\Below w w w':=IS p.nm p.pr cv w h.rows
def words:ld:=⟨⟨#[47,108,111,119,47]⟩,⟨#[47,109,105,100,47]⟩,⟨#[47]⟩,⟨#[47,108,111,119]⟩,⟨#[47,109,105,100]⟩⟩
theorem oN.at {b o:Nat} {a:List az} {cv:Nat->Value} (h:oN w b o a cv) {k:Nat} (c:k<a.length) :
  w.cell? ⟨b,o+k*3,none⟩=some (.string (bI a k).nm)/\w.cell? ⟨b,o+k*3+1,none⟩=some (.int .i64 (bI a k).pr)/\w.cell? ⟨b,o+k*3+2,none⟩=some (cv k)/\aZ w (cv k) (bI a k).cs:=⟨(h.2 k c).1.1,(h.2 k c).1.2.1,(h.2 k c).1.2.2,(h.2 k c).2⟩
def KL (n:Nat) (e:Ending):Prop:=∃ b,e=.returned (.bool b)/\(b=true->n<=16)
theorem KM (v:Value) (a:List az) (w:World) (h:jJ w v a):Calls prog 20 #[v] w λe w'=>KL a.length e/\Below w w w':=by
 obtain ⟨t,c,rfl,r,p⟩:=h;have q:=qI p;clear p r
 by_cases j:16<a.length
 ·go_enter func20,ntmps20
  go_wp2
  go_ret;exact ⟨⟨_,rfl,λh=>by cases h⟩,Q0 _ _⟩
 have s:a.length<=16:=by omega
 have hd:decide (16<(a.length:Int))=false:=Q7 (by omega);clear j
 go_enter func20,ntmps20
 go_wp2
 go_loopw [3] (λi wr=>∃ k:Nat,k<=a.length/\i=.int .i64 k/\Below w w wr) (λi _=>a.length - (intOf i).toNat)
 case atStart=>exact ⟨0,by omega,rfl,Q0 _ _⟩
 case round=>
  obtain ⟨k,u,rfl,f⟩:=hrel
  by_cases g:k<a.length
  ·obtain ⟨b,o,cv,rfl,Hb⟩:=q.o (by omega);have Hb:=Hb.below f;obtain ⟨c0,c1,c2,Hc⟩:=Hb.at g;have n:=qI (KK Hc);have l:=qI f;have Hf:=Hc.slice;unfold du at n;clear Hb Hc f;generalize bI a k=x at *;generalize cv k=d at *;obtain ⟨da,dn,dc,rfl⟩:=Hf
   go_wp2_with fail
   refine n.o.mono ?_;rintro e y ⟨⟨b1,rfl⟩,He⟩;have Ha:=qI (l.o.trans (He.mono l.o.size));clear He l
   rcases two b1 with m|m
   ·subst m
    go_wp2
    go_roundw
    case rel=>exact ⟨k+1,by omega,by go_num,Ha.o⟩
    case measure=>simp [intOf];omega
   ·subst m
    go_wp2
    go_ret;exact ⟨⟨_,rfl,λh=>by cases h⟩,Ha.o⟩
  ·have Hg:k=a.length:=by omega
   subst Hg;have Ha:=qI f;clear f
   go_wp2
   go_ret;exact ⟨⟨_,rfl,λ_=>s⟩,Ha.o⟩
def prV (l:List (az × Value)):List Value:=l.flatMap λx=>[.string x.1.nm,.int .i64 x.1.pr,x.2]
def VB (W w:World) (v:Value) (l:List (az × Value)):Prop:=
 w.ownsRow W 49 3 v l.length (prV l)/\∀ x∈l,br x.1=0/\aZ W x.2 x.1.cs
