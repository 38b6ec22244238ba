import Derived.Test.YtjlblidnfebmiaaGreatDoorF9
import Derived.Shelf.SlicesQ.IndexFunc
import Derived.Ground.SlgfProg
import Derived.Deep.RegionHeld3
import Derived.Laws.AppendOwn
set_option maxRecDepth 100000
set_option maxHeartbeats 16000000
open Go Go.RowKit Go.Shelf
open Go.Proofs.Tryz
namespace Go.Proofs.YtjlblidnfebmiaaGreatDoor
variable{W w w':World}{b k n o:Nat}{dv:Nat->Value}{f:Nat->Int}{v:Value}
structure ap where
 kind:ByteArray
 many:Int
def AN:ap:=⟨ByteArray.empty,0⟩
structure aB where
 nm:ByteArray
 am:Int
 ab:Int
 cm:Int
 cb:Int
 ds:List ap
def wh:aB:=⟨ByteArray.empty,0,0,0,0,[]⟩
structure aj where
 nm:ByteArray
 pr:Int
 cs:List aB
def mz:aj:=⟨ByteArray.empty,0,[]⟩
instance:Inhabited ap:=⟨AN⟩
instance:Inhabited aB:=⟨wh⟩
instance:Inhabited aj:=⟨mz⟩
def aq (l:List ap) (k:Nat):ap:=l.getD k AN
def ae (l:List aB) (k:Nat):aB:=l.getD k wh
def aO (l:List aj) (k:Nat):aj:=l.getD k mz
def ef (a b:ByteArray):Bool:=Op.bytesLess a.toList b.toList || a.toList == b.toList
def iB (ds:List ap) (j:Nat):Nat:=
 if bR (aq ds j).kind=false\/(0<j/\ef (aq ds j).kind (aq ds (j - 1)).kind=true) then 3
 else if (aq ds j).many<1\/16<(aq ds j).many then 1 else 0
def gA (m b:Int):Bool:=decide (0<=m) && decide (m<=1000000) && decide (0<=b) && decide (b<=1125899906842624)
def iC (a c:Int):Bool:=decide (c≠0) && decide (c<a)
def mA (cs:List aB) (k:Nat):Bool:=(cs.take k).any λo=>decide (o.nm=(ae cs k).nm)
def dO (cs:List aB) (k:Nat):Nat:=
 if bR (ae cs k).nm=false then 3
 else if mA cs k=true then 5
 else if gA (ae cs k).am (ae cs k).ab=false\/gA (ae cs k).cm (ae cs k).cb=false then 1
 else if iC (ae cs k).am (ae cs k).cm=true\/iC (ae cs k).ab (ae cs k).cb=true then 3
 else if 3<(ae cs k).ds.length then 2
 else bh (iB (ae cs k).ds) (ae cs k).ds.length
def bu (p:aj):Nat:=
 if bR p.nm=false then 3
 else if p.pr<0\/1000<p.pr then 1
 else if p.cs.length<1\/3<p.cs.length then 2
 else bh (dO p.cs) p.cs.length
def qB (c:aB):Bool:=decide (c.am=0) && decide (c.ab=0) && decide (c.cm=0) && decide (c.cb=0)
def qC (c:aB):Bool:=decide (c.am=c.cm) && decide (c.ab=c.cb) && decide (c.am≠0) && decide (c.ab≠0)
def nK (cs:List aB) (n:Nat):Bool:=fg (λk=>qB (ae cs k)) n
def nL (cs:List aB) (n:Nat):Bool:=fg (λk=>qC (ae cs k)) n
def mB (cs:List aB):Int:=if nK cs cs.length=true then 1 else if nL cs cs.length=true then 3 else 2
def iX (f:Nat->Int):Nat->Int
 | 0=>0
 | k+1=>iX f k+f k
def dh (cs:List aB) (n:Nat):Int:=iX (λk=>(ae cs k).am) n
def cV (cs:List aB) (n:Nat):Int:=iX (λk=>(ae cs k).ab) n
def cI (cs:List aB) (m:Int):Int:=if mB cs=3/\m % 1000=0 then m / 1000 else 0
def ib (cs:List aB):Prop:=cs.length<=3/\∀k,k<cs.length->(0<=(ae cs k).am/\(ae cs k).am<=1000000)/\(0<=(ae cs k).ab/\(ae cs k).ab<=1125899906842624)/\(0<=(ae cs k).cm/\(ae cs k).cm<=1000000)/\(0<=(ae cs k).cb/\(ae cs k).cb<=1125899906842624)/\((ae cs k).cm≠0->(ae cs k).am<=(ae cs k).cm)/\((ae cs k).cb≠0->(ae cs k).ab<=(ae cs k).cb)
theorem tj{m b:Int}(h:gA m b=true):(0<=m/\m<=1000000)/\(0<=b/\b<=1125899906842624):=by
 simp[gA] at h;omega
theorem AO{cs:List aB}(h:dO cs k=0):gA (ae cs k).am (ae cs k).ab=true/\gA (ae cs k).cm (ae cs k).cb=true/\iC (ae cs k).am (ae cs k).cm=false/\iC (ae cs k).ab (ae cs k).cb=false:=by grind[dO]
theorem qD{p:aj}(h:bu p=0):bR p.nm=true/\(0<=p.pr/\p.pr<=1000)/\(1<=p.cs.length/\p.cs.length<=3)/\bh (dO p.cs) p.cs.length=0:=by grind[bu]
theorem qE{p:aj}(h:bu p=0):ib p.cs:=by
 obtain⟨_,_,⟨_,d⟩,hf⟩:=qD h;refine⟨d,λk g=>?_⟩;obtain⟨e,f,c,b⟩:=AO (fA hf k g);obtain⟨i,a2⟩:=tj e;obtain⟨a3,a4⟩:=tj f;refine⟨i,a2,a3,a4,?_,?_⟩
 ·intro a
  simp[iC,a] at c
  exact c
 ·intro a
  simp[iC,a] at b
  exact b
theorem KT:ib []:=⟨by simp,λk a=>by simp at a⟩
theorem WJ{g:Nat->Int}(h:∀k,k<n->f k<=g k):iX f n<=iX g n:=by
 induction n with
 | zero=>exact Int.le_refl _
 | succ n ih=>
  have b:=ih λk a=>h k (by omega);have c:=h n (by omega);simp only[iX];omega
theorem AP(h:∀k,k<n->0<=f k):0<=iX f n:=by induction n <;> grind[iX]
theorem AQ{B:Int}(h:∀k,k<n->f k<=B):iX f n<=n*B:=by induction n <;> grind[iX]
theorem tl{cs:List aB}(a:ib cs)(c:n<=cs.length):0<=dh cs n/\dh cs n<=3000000:=by
 have d:=AP (f:=λk=>(ae cs k).am) (n:=n) λk b=>(a.2 k (by omega)).1.1;have e:=AQ (f:=λk=>(ae cs k).am) (n:=n) (B:=1000000) λk b=>(a.2 k (by omega)).1.2
 have:=a.1
 unfold dh;omega
theorem qF{cs:List aB}(a:ib cs)(c:n<=cs.length):0<=cV cs n/\cV cs n<=3377699720527872:=by
 have d:=AP (f:=λk=>(ae cs k).ab) (n:=n) λk b=>(a.2 k (by omega)).2.1.1;have e:=AQ (f:=λk=>(ae cs k).ab) (n:=n) (B:=1125899906842624) λk b=>(a.2 k (by omega)).2.1.2
 have:=a.1
 unfold cV;omega
def lx (ds:List ap) (k:Nat):ByteArray:=if k=0 then ByteArray.empty else (aq ds (k - 1)).kind
theorem KU(ds:List ap)(k:Nat):lx ds (k+1)=(aq ds k).kind:=by simp[lx]
theorem KV{s:ByteArray}(h:bR s=true):ef s ByteArray.empty=false:=by
 unfold bR at h;have c:0<s.size:=by
  simp at h;omega
 have b:s.toList≠[]:=by
  intro e;rw[Qs] at e
  have:s.data.toList.length=0:=by rw[e];rfl
  rw[Array.length_toList] at this;have d:s.data.size=s.size:=rfl;omega
 unfold ef;rw[show ByteArray.empty.toList=[] by rw[Qs];rfl];cases hs:s.toList with
 | nil=>exact absurd hs b
 | cons a l=>simp[Op.bytesLess]
theorem KW{ds:List ap}{k:Nat}(h:bR (aq ds k).kind=false):iB ds k=3:=by unfold iB;rw[if_pos (.inl h)]
theorem KX{ds:List ap}{k:Nat}(h:bR (aq ds k).kind=true)(a:ef (aq ds k).kind (lx ds k)=true):iB ds k=3:=by grind[iB,lx,KV]
theorem KY{ds:List ap}{k:Nat}(h:bR (aq ds k).kind=true)(a:ef (aq ds k).kind (lx ds k)=false):iB ds k=if (aq ds k).many<1\/16<(aq ds k).many then 1 else 0:=by grind[iB,lx]
section
open Go.ChangeShapes Go.WideShapes Go.ChangeAt Go.RowKit
def bv (w:World) (v:Value) (ds:List ap):Prop:=
 ∃ao c,v=.slice ao ds.length c/\ds.length<=maxLen/\(0<ds.length->∃b o,ao=some ⟨b,o,none⟩/\b<w.heap.size/\∀k,k<ds.length->w.cell? ⟨b,o+k*2,none⟩=some (.string (aq ds k).kind)/\w.cell? ⟨b,o+k*2+1,none⟩=some (.int .i64 (aq ds k).many))
def di (c:aB) (dv:Value):List Value:=[.string c.nm,.int .i64 c.am,.int .i64 c.ab,.int .i64 c.cm,.int .i64 c.cb,dv]
def mC (w:World) (b o:Nat) (cs:List aB) (dv:Nat->Value):Prop:=
 b<w/\∀k,k<cs.length->(∀j,j<6->w.cell? ⟨b,o+k*6+j,none⟩=(di (ae cs k) (dv k))[j]?)/\bv w (dv k) (ae cs k).ds
def aQ (w:World) (v:Value) (cs:List aB):Prop:=
 ∃ao c,v=.slice ao cs.length c/\(cs.length<=c/\c<=maxLen)/\(0<cs.length->∃b o dv,ao=some ⟨b,o,none⟩/\mC w b o cs dv)
def cz (p:aj) (cv:Value):Value:=.agg #[p.nm,(p.pr:Int),cv]
def nM (w:World) (b o:Nat) (ps:List aj) (cv:Nat->Value):Prop:=
 b<w/\∀k,k<ps.length->(w.cell? ⟨b,o+k*3,none⟩=some (.string (aO ps k).nm)/\w.cell? ⟨b,o+k*3+1,none⟩=some (.int .i64 (aO ps k).pr)/\w.cell? ⟨b,o+k*3+2,none⟩=some (cv k))/\aQ w (cv k) (aO ps k).cs
def eO (w:World) (v:Value) (ps:List aj):Prop:=
 ∃ao c,v=.slice ao ps.length c/\ps.length<=maxLen/\(0<ps.length->∃b o cv,ao=some ⟨b,o,none⟩/\nM w b o ps cv)
theorem bv.below{ds:List ap}(h:bv w v ds)(a:Below w w w'):bv w' v ds:=by
 obtain⟨f,c,l,m,n⟩:=h;refine⟨f,c,l,m,λe=>?_⟩;obtain⟨b,o,i,Ha,q⟩:=n e;refine⟨b,o,i,Q1 Ha a.size,λk j=>?_⟩;obtain⟨d,g⟩:=q k j;exact⟨(a.cell (p:=⟨b,o+k*2,none⟩) Ha).trans d,(a.cell (p:=⟨b,o+k*2+1,none⟩) Ha).trans g⟩
theorem mC.below{cs:List aB}(h:mC w b o cs dv)(a:Below w w w'):mC w' b o cs dv:=
 ⟨Q1 h.1 a.size,λk c=>⟨λj d=>(a.cell (p:=⟨b,o+k*6+j,none⟩) h.1).trans ((h.2 k c).1 j d),(h.2 k c).2.below a⟩⟩
theorem aQ.below{cs:List aB}(h:aQ w v cs)(f:Below w w w'):aQ w' v cs:=by
 obtain⟨d,c,g,i,j⟩:=h;refine⟨d,c,g,i,λa=>?_⟩;obtain⟨b,o,dv,e,k⟩:=j a;exact⟨b,o,dv,e,k.below f⟩
theorem nM.below{c:List aj}{cv:Nat->Value}(h:nM w b o c cv)(a:Below w w w'):nM w' b o c cv:=
 ⟨Q1 h.1 a.size,λk e=>by
  obtain⟨⟨d,f,i⟩,g⟩:=h.2 k e;exact⟨⟨(a.cell (p:=⟨b,o+k*3,none⟩) h.1).trans d,(a.cell (p:=⟨b,o+k*3+1,none⟩) h.1).trans f,(a.cell (p:=⟨b,o+k*3+2,none⟩) h.1).trans i⟩,g.below a⟩⟩
theorem eO.below{a:List aj}(h:eO w v a)(g:Below w w w'):eO w' v a:=by
 obtain⟨e,c,i,j,k⟩:=h;refine⟨e,c,i,j,λd=>?_⟩;obtain⟨b,o,dv,f,l⟩:=k d;exact⟨b,o,dv,f,l.below g⟩
theorem AR(h:er W v 2 mr):∃ds,bv W v ds:=by
 obtain⟨j,len,c,rfl,l,m⟩:=h
 by_cases i:len=0
 ·subst i;exact⟨[],j,c,rfl,by simp,λh=>by simp at h⟩
 ·obtain⟨b,o,rfl,Hc,g⟩:=m (by omega);obtain⟨f,hf⟩:=Deep.choose_lt (α:=ap) (n:=len) (p:=λk d=>W.cell? ⟨b,o+k*2,none⟩=some (.string d.kind)/\W.cell? ⟨b,o+k*2+1,none⟩=some (.int .i64 d.many)) (λk a=>by
   obtain⟨cs,_,Ha,s,x,rfl⟩:=g k a;exact⟨⟨s,x⟩,Ha 0 (by decide),Ha 1 (by decide)⟩)
  refine⟨(List.range len).map f,_,c,by simp,by simpa using l,λ_=>⟨b,o,rfl,Hc,λk a=>?_⟩⟩;have Hb:k<len:=by simpa using a
  have e:aq ((List.range len).map f) k=f k:=by simp[aq,Hb]
  rw[e];exact hf k Hb
def wi (v:Value):Prop:=∃ao len c,v=.slice ao len c/\len<=c/\c<=maxLen
theorem KZ{H:Type}{enc:TypeId × Value->H}{P:Program}{t e:TypeId}{b:Nat}{x:DataW H × List MemPlace}(g:P.underlying t=some (.slice e))(h:DataW.trod enc P W 0 (λ_=>true) true b t [v]=some x):wi v:=by
 rcases Deep.open_slice g h with⟨Ha,_⟩|⟨a,len,c,m,n,D,j,Ha,_,d,f,Hb,_,i⟩
 ·simp at Ha
  subst Ha;exact⟨none,0,0,rfl,by omega,by omega⟩
 ·simp at Ha
  subst Ha;exact⟨_,len,c,rfl,d,f⟩
theorem AS(h:er W v 6 (jT W))(a:wi v):∃cs,aQ W v cs:=by
 obtain⟨r,len,c,rfl,x,t⟩:=h;obtain⟨_,_,_,u,Hf,Hb⟩:=a;cases u
 by_cases q:len=0
 ·subst q;exact⟨[],r,c,rfl,⟨by simp,Hb⟩,λh=>by simp at h⟩
 ·obtain⟨b,o,rfl,Hc,i⟩:=t (by omega);obtain⟨f,hf⟩:=Deep.choose_lt (α:=aB × Value) (n:=len) (p:=λk d=>(∀j,j<6->W.cell? ⟨b,o+k*6+j,none⟩=(di d.1 d.2)[j]?)/\bv W d.2 d.1.ds) (λk g=>by
   obtain⟨cs,_,Hh,nm,w,l,s,m,dv,rfl,He⟩:=i k g;obtain⟨ds,Hg⟩:=AR He;exact⟨⟨⟨nm,w,l,s,m,ds⟩,dv⟩,Hh,Hg⟩)
  refine⟨(List.range len).map λk=>(f k).1,_,c,by simp,⟨by simpa using Hf,Hb⟩,λ_=>⟨b,o,λk=>(f k).2,rfl,Hc,λk g=>?_⟩⟩;have Ha:k<len:=by simpa using g
  have e:ae ((List.range len).map λk=>(f k).1) k=(f k).1:=by simp[ae,Ha]
  rw[e];exact hf k Ha
def AT (W:World) (cs:List Value):Prop:=∃(nm:ByteArray) (pr:Int) (cv:Value),cs=[.string nm,.int .i64 pr,cv]/\er W cv 6 (jT W)/\wi cv
theorem K0(h:er W v 3 (AT W)):∃q,eO W v q:=by
 obtain⟨j,len,c,rfl,l,m⟩:=h
 by_cases i:len=0
 ·subst i;exact⟨[],j,c,rfl,by simp,λh=>by simp at h⟩
 ·obtain⟨b,o,rfl,He,g⟩:=m (by omega);obtain⟨f,hf⟩:=Deep.choose_lt (α:=aj × Value) (n:=len) (p:=λk d=>(W.cell? ⟨b,o+k*3,none⟩=some (.string d.1.nm)/\W.cell? ⟨b,o+k*3+1,none⟩=some (.int .i64 d.1.pr)/\W.cell? ⟨b,o+k*3+2,none⟩=some d.2)/\aQ W d.2 d.1.cs) (λk a=>by
   obtain⟨cs,_,Hb,nm,pr,cv,rfl,Hf,Ha⟩:=g k a;obtain⟨ds,Hg⟩:=AS Hf Ha;exact⟨⟨⟨nm,pr,ds⟩,cv⟩,⟨Hb 0 (by decide),Hb 1 (by decide),Hb 2 (by decide)⟩,Hg⟩)
  refine⟨(List.range len).map λk=>(f k).1,_,c,by simp,by simpa using l,λ_=>⟨b,o,λk=>(f k).2,rfl,He,λk a=>?_⟩⟩;have Hc:k<len:=by simpa using a
  have e:aO ((List.range len).map λk=>(f k).1) k=(f k).1:=by simp[aO,Hc]
  rw[e];exact hf k Hc
section
variable{H:Type}{enc:TypeId × Value->H}{W:World}
theorem AU{n:Nat}{cs:List Value}{y:DataW H × List MemPlace}(c:cs.length=3)(h:DataW.trod enc prog W 0 (λ_=>true) true n 49 cs=some y):AT W cs:=by
 obtain⟨nm,pr,cv,rfl,a⟩:=Ae c h;obtain⟨_,_,b⟩:=cO underlying49 h 2 47 2 _ zZ rfl;exact⟨nm,pr,cv,rfl,a,KZ underlying47 b⟩
theorem K1{n:Nat}{cs:List Value}{y:DataW H × List MemPlace}(c:cs.length=3)(h:DataW.trod enc prog W 0 (λ_=>true) true n 49 cs=some y):∃(p:aj) (cv:Value),cs=[.string p.nm,.int .i64 p.pr,cv]/\aQ W cv p.cs:=by
 obtain⟨nm,pr,cv,rfl,a,b⟩:=AU c h;obtain⟨ds,Ha⟩:=AS a b;exact⟨⟨nm,pr,ds⟩,cv,rfl,Ha⟩
theorem K2{n:Nat}{v:Value}{y:DataW H × List MemPlace}(h:DataW.trod enc prog W 0 (λ_=>true) true n 67 [v]=some y):∃a,eO W v a:=
 K0 (mo underlying67 vE (by decide) h λ_ _ _ b h=>AU b h)
theorem K6{n:Nat}{v:Value}{y:DataW H × List MemPlace}(h:DataW.trod enc prog W 0 (λ_=>true) true n 50 [v]=some y):∃us,bv W v us:=
 AR (mo underlying50 zY (by decide) h λ_ _ _ a h=>Ab a h)
end
theorem mC.at{cs:List aB}(h:mC w b o cs dv)(c:k<cs.length) :
  w.cell? ⟨b,o+k*6,none⟩=some (.string (ae cs k).nm)/\w.cell? ⟨b,o+k*6+1,none⟩=some (.int .i64 (ae cs k).am)/\w.cell? ⟨b,o+k*6+2,none⟩=some (.int .i64 (ae cs k).ab)/\w.cell? ⟨b,o+k*6+3,none⟩=some (.int .i64 (ae cs k).cm)/\w.cell? ⟨b,o+k*6+4,none⟩=some (.int .i64 (ae cs k).cb)/\w.cell? ⟨b,o+k*6+5,none⟩=some (dv k):=by
 have a:=(h.2 k c).1;exact⟨a 0 (by decide),a 1 (by decide),a 2 (by decide),a 3 (by decide),a 4 (by decide),a 5 (by decide)⟩
end
theorem mD(n a b:Int)(w:World):Calls prog 80 #[n,a,b] w λe w'=>e=.returned (.bool (decide (a<=n) && decide (n<=b)))/\w'=w:=by
 by_cases c:a<=n
 ·go_enter func80,ntmps80
  go_wp2
  go_ret;exact⟨by simp[c],rfl⟩
 ·have f:n<a:=by omega
  have d:decide (a<=n)=false:=Q7 c;rw[d];clear c
  go_enter func80,ntmps80
  go_wp2
  go_ret;exact⟨by simp,rfl⟩
theorem AV(a c:Int)(w:World):Calls prog 123 #[a,c] w λe w'=>e=.returned (.bool (iC a c))/\w'=w:=by
 unfold iC
 by_cases b:c=0
 ·subst b
  go_enter func123,ntmps123
  go_wp2
  go_ret;exact⟨by simp,rfl⟩
 ·go_enter func123,ntmps123
  go_wp2
  go_ret;exact⟨by simp[b],rfl⟩
theorem AW(m b:Int)(w:World):Calls prog 122 #[.agg #[m,b]] w λe w'=>e=.returned (.bool (gA m b))/\Below w w w':=by
 unfold gA
 go_enter func122,ntmps122
 go_wp2_with fail
 refine (mD _ _ _ _).mono ?_;rintro e c ⟨rfl,rfl⟩
 rcases two (decide (0<=m) && decide (m<=1000000)) with a|a
 ·rw[a]
  go_wp2_with fail
  refine (mD _ _ _ _).mono ?_;rintro e c ⟨rfl,rfl⟩
  go_wp2
  go_ret;refine⟨?_,(Q0 w w).alloc (lR) _⟩;rw[a]
  simp
 ·rw[a]
  go_wp2
  go_ret;refine⟨?_,(Q0 w w).alloc (lR) _⟩;rw[a];rfl
theorem K7(v:Value)(ds:List ap)(w:World)(h:bv w v ds):Calls prog 124 #[v] w λe w'=>e=.returned (aJ (if 3<ds.length then (2:Nat) else bh (iB ds) ds.length:Nat))/\Below w w w':=by
 obtain⟨B,c,rfl,n,t⟩:=h;clear n;have A:=qI t;clear t
 by_cases r:3<ds.length
 ·rw[if_pos r]
  go_enter func124,ntmps124
  go_wp2
  go_ret;exact⟨rfl,Q0 _ _⟩
 rw[if_neg r];have Hg:ds.length<=3:=by omega
 clear r;have hd:decide (3<(ds.length:Int))=false:=Q7 (by omega)
 go_enter func124,ntmps124
 go_wp2
 go_loopw [3,12] (λla i wr=>∃k:Nat,k<=ds.length/\i=.int .i64 k/\la=.string (lx ds k)/\Below w w wr/\Hu (bh (iB ds) k=0)) (λ_ i _=>ds.length - (intOf i).toNat)
 case atStart=>exact⟨0,by omega,rfl,rfl,Q0 _ _,rfl⟩
 case round=>
  obtain⟨k,C,rfl,rfl,f,m⟩:=hrel
  by_cases d:k<ds.length
  ·obtain⟨b,o,rfl,Hc,Hb⟩:=A.o (by omega);obtain⟨s,g1⟩:=Hb k d;have c0:=(f.cell (p:=⟨b,o+k*2,none⟩) Hc).trans s;have c1:=(f.cell (p:=⟨b,o+k*2+1,none⟩) Hc).trans g1;have u:=qI (@KW ds k);have z:=qI (@KX ds k);have y:=qI (@KY ds k);have HS:=qI (KU ds k);have Ha:=qI (f.alloc f.size (.cells #[(aq ds k).kind,((aq ds k).many:Int)] 127));clear s g1 Hb f;have D:Hu (∃la,la=lx ds k):=⟨_,rfl⟩;generalize lx ds k=la at *;generalize aq ds k=x at *
   rcases two (bR x.kind) with g|g
   ·rcases two (ef x.kind la) with l|l
    ·have a:=z.o g l;have j:=qI (lq m.o (by rw[a];decide) d);have He:(Op.bytesLess x.kind.toList la.toList || x.kind.toList == la.toList)=true:=l
     go_wp2_with fail
     refine (iW _ _).mono ?_;rintro e q ⟨rfl,rfl⟩;rw[g]
     go_wp2
     go_ret;exact⟨by rw[j.o,a];rfl,Ha.o⟩
    ·have a:=y.o g l;have He:(Op.bytesLess x.kind.toList la.toList || x.kind.toList == la.toList)=false:=l
     go_wp2_with fail
     refine (iW _ _).mono ?_;rintro e q ⟨rfl,rfl⟩;rw[g]
     go_wp2_with fail
     refine (mD _ _ _ _).mono ?_;rintro e q ⟨rfl,rfl⟩
     by_cases n:x.many<1\/16<x.many
     ·rw[if_pos n] at a;have j:=qI (lq m.o (by rw[a];decide) d);rw[show (decide (1<=x.many) && decide (x.many<=16))=false by simp;omega]
      go_wp2
      go_ret;exact⟨by rw[j.o,a];rfl,Ha.o⟩
     ·rw[if_neg n] at a;rw[show (decide (1<=x.many) && decide (x.many<=16))=true by simp;omega]
      go_wp2
      go_roundw
      case rel=>exact⟨k+1,by omega,by go_num,by rw[HS.o],Ha.o,ml m.o a⟩
      case measure=>simp[intOf];omega
   ·have a:=u.o g;have j:=qI (lq m.o (by rw[a];decide) d)
    go_wp2_with fail
    refine (iW _ _).mono ?_;rintro e q ⟨rfl,rfl⟩;rw[g]
    go_wp2
    go_ret;exact⟨by rw[j.o,a];rfl,Ha.o⟩
  ·have Hf:k=ds.length:=by omega
   subst Hf;have Ha:=qI f;clear f
   go_wp2
   go_ret;exact⟨by rw[m.o];rfl,Ha.o⟩
def wj (m:Int):Int:=min (max (m*1024 / 1000) 2) 262144
def AX (m:Int):Int:=if m=0 then -1 else max (m*100) 1000
structure jY where
 path:ByteArray
 sh:Int
 qu:Int
 by':Int
def AY:jY:=⟨ByteArray.empty,0,0,0⟩
instance:Inhabited jY:=⟨AY⟩
def WK (l:List jY) (k:Nat):jY:=l.getD k AY
def AZ (f:aB->Int) (cs:List aB):Int:=if fg (λk=>decide (f (ae cs k)≠0)) cs.length=true then iX (λk=>f (ae cs k)) cs.length else 0
structure ly where
 low:ByteArray
 mid:ByteArray
 sep:ByteArray
 lowAll:ByteArray
 midAll:ByteArray
def A1 (W:ly) (p:aj):ByteArray:=if mB p.cs=1 then W.low++p.nm else if mB p.cs=2 then W.mid++p.nm else W.sep++p.nm
def A3 (W:ly) (p:aj):jY:=⟨A1 W p,wj (dh p.cs p.cs.length),AX (AZ aB.cm p.cs),AZ aB.cb p.cs⟩
def A4 (W:ly) (p:aj) (c:aB):jY:=⟨A1 W p++W.sep++c.nm,wj c.am,AX c.cm,c.cb⟩
def K8 (W:ly) (p:aj):List jY:=A3 W p :: p.cs.map (A4 W p)
def K9 (p:aj):Int:=if mB p.cs=2 then dh p.cs p.cs.length else 0
def La (ps:List aj) (n:Nat):Int:=iX (λk=>K9 (aO ps k)) n
def Lb (W:ly) (ps:List aj):List jY:=[⟨W.midAll,wj (La ps ps.length),-1,0⟩,⟨W.lowAll,2,-1,0⟩]
def A5 (W:ly) (ps:List aj) (k:Nat):List jY:=Lb W ps++(ps.take k).flatMap (K8 W)
def WL (W:ly) (ps:List aj):List jY:=A5 W ps ps.length
def WN (W:ly) (ps:List aj) (k j:Nat):List jY:=A5 W ps k++A3 W (aO ps k) :: ((aO ps k).cs.take j).map (A4 W (aO ps k))
theorem Lc{a:List aj}(h:k<a.length):a.take (k+1)=a.take k++[aO a k]:=by grind[List.take_add_one,aO]
end Go.Proofs.YtjlblidnfebmiaaGreatDoor
namespace Go.Proofs
open Go.Shelf
def Tryz.contL_ren:Go.Shelf.Ren:=⟨fun|8=>120|6=>158|n=>n,fun|22=>47|23=>65|25=>223|4=>4|3=>3|0=>0|n=>n,fun|n=>n⟩
theorem Tryz.contL:Go.Proofs.SlLaysH0.n8 Tryz.prog Tryz.contL_ren:=by
 constructor
 case f6=>exact ⟨Tryz.f158.name,by decide,Tryz.func158.trans (congrArg some (by kernel_rfl))⟩
 case f8=>exact ⟨Tryz.f120.name,by decide,Tryz.func120.trans (congrArg some (by kernel_rfl))⟩
 all_goals intros;kernel_rfl
end Go.Proofs
namespace Go.Proofs.YtjlblidnfebmiaaGreatDoor
variable{B:Nat}{W W' a w w':World}{b m:Int}{cv v:Value}
instance:Inhabited (aB × Value):=⟨⟨wh,.nilIface⟩⟩
theorem qG(a b:ByteArray):(a.toList == b.toList)=decide (a=b):=by
 rw[Bool.eq_iff_iff,beq_iff_eq,decide_eq_true_iff,Qs,Qs];exact⟨λh=>ByteArray.ext (Array.toList_inj.mp h),λh=>by rw[h]⟩
theorem Ld(nm:ByteArray)(B:Nat)(w:World)(c:B<w)(a:w.cell? B=some (.string nm)) :
  PredBelow prog 121 #[B] (λx:aB × Value=>.agg (di x.1 x.2).toArray) (λx=>decide (x.1.nm=nm)) w:=λW x b=>by
 have g:cl W B (0) nm:=(b.cell (p:=B) c).trans a;have Hb:B<W:=Q1 c b.size;have Ha:B≠W:=by omega
 obtain⟨x,dv⟩:=x;have d:=qI (qG x.nm nm)
 show Calls prog 121 #[.agg #[x.nm,(x.am:Int),(x.ab:Int),(x.cm:Int),(x.cb:Int),dv],B] W _
 show Calls prog 121 _ W λe w'=>e=.returned (.bool (decide (x.nm=nm)))/\Below w w w'
 rw[<- d.o];have f:=qI (b.alloc b.size (.cells #[x.nm,(x.am:Int),(x.ab:Int),(x.cm:Int),(x.cb:Int),dv] 65));clear b
 go_enter func121,ntmps121
 go_wp2
 go_ret;exact⟨rfl,f.o⟩
theorem Le(cs:List aB)(dv:Nat->Value)(k:Nat)(q:aB->Bool):((((List.range cs.length).map λj=>(ae cs j,dv j)).take k).any λx=>q x.1)=(cs.take k).any q:=by
 have e:((List.range cs.length).map λj=>(ae cs j,dv j)).map Prod.fst=cs:=by
  rw[List.map_map];apply List.ext_getElem
  ·simp
  ·intro i b a
   simp[ae,a]
 have h:(cs.take k)=(((List.range cs.length).map λj=>(ae cs j,dv j)).take k).map Prod.fst:=by rw[List.map_take,e]
 rw[h,List.any_map];rfl
theorem Lf(b o c B k:Nat)(cs:List aB)(dv:Nat->Value)(w:World)(h:mC w b o cs dv)(n:k<cs.length)(f:cs.length<=maxLen)(d:B<w)(a:w.cell? B=some (.string (ae cs k).nm)) :
  Calls prog 120 #[.slice (some ⟨b,o,none⟩) k c,.func (.func 121) #[] #[.pointer (some ⟨B,0,none⟩)]] w λe w'=>e=.returned (.bool (mA cs k))/\Below w.heap.size w w':=by
 have m:∀args w,(callFunc 121 args).run prog w=.ok (.enter 121 args) w:=enters_of func121 (by kernel_rfl) rfl;have Ha:=AnyQ.slices_ContainsFunc Tryz.contL 6 isAgg65 sizeOf65 (λx:aB × Value=>di x.1 x.2) (λ_=>rfl) (λx=>decide (x.1.nm=(ae cs k).nm)) 121 #[.pointer (some ⟨B,0,none⟩)] m b o k c ((List.range cs.length).map λj=>(ae cs j,dv j)) w
  (Ld (ae cs k).nm B w d a) (by simp;omega) (by unfold maxLen at f;omega) h.1 (λj g i v hi=>by
   have Hb:j<cs.length:=by simpa using g
   have e:((List.range cs.length).map λj=>(ae cs j,dv j))[j]! = (ae cs j,dv j):=by simp[Hb]
   rw[e] at hi;have l:i<6:=by
    have:=(List.getElem?_eq_some_iff.1 hi).1
    simpa[di] using this
   rw[(h.2 j Hb).1 i l];exact hi)
 change Calls prog 120 _ _ _ at Ha
 rw[Le cs dv k λx=>decide (x.nm=(ae cs k).nm)] at Ha;exact Ha
theorem Lg{cs:List aB}{k:Nat}(h:bR (ae cs k).nm=false):dO cs k=3:=by unfold dO;rw[if_pos h]
theorem Lh{cs:List aB}{k:Nat}(h:bR (ae cs k).nm=true)(a:mA cs k=true):dO cs k=5:=by unfold dO;rw[if_neg (by rw[h];decide),if_pos a]
theorem Li{cs:List aB}{k:Nat}(h:bR (ae cs k).nm=true)(a:mA cs k=false)(b:gA (ae cs k).am (ae cs k).ab=false\/gA (ae cs k).cm (ae cs k).cb=false):dO cs k=1:=by grind[dO]
theorem Lj{cs:List aB}{k:Nat}(h:bR (ae cs k).nm=true)(c:mA cs k=false)(d:gA (ae cs k).am (ae cs k).ab=true)(a:gA (ae cs k).cm (ae cs k).cb=true)(b:iC (ae cs k).am (ae cs k).cm=true\/iC (ae cs k).ab (ae cs k).cb=true):dO cs k=3:=by grind[dO]
theorem Lk{cs:List aB}{k:Nat}(h:bR (ae cs k).nm=true)(d:mA cs k=false)(e:gA (ae cs k).am (ae cs k).ab=true)(a:gA (ae cs k).cm (ae cs k).cb=true)(c:iC (ae cs k).am (ae cs k).cm=false)(b:iC (ae cs k).ab (ae cs k).cb=false):dO cs k=(if 3<(ae cs k).ds.length then (2:Nat) else bh (iB (ae cs k).ds) (ae cs k).ds.length:Nat):=by grind[dO]
theorem boxed(w:World)(x:aB)(d:Value):(w.alloc (.cells #[x.nm,(x.am:Int),(x.ab:Int),(x.cm:Int),(x.cb:Int),d] 65)).cell? w=some (.string x.nm):=by simp
def kD (W:World) (B:Nat) (x:aB) (d:Value):Prop:=B<W.heap.size/\W.cell? B=some (.string x.nm)/\W.cell? ⟨B,1,none⟩=some (.int .i64 x.am)/\W.cell? ⟨B,2,none⟩=some (.int .i64 x.ab)/\W.cell? ⟨B,3,none⟩=some (.int .i64 x.cm)/\W.cell? ⟨B,4,none⟩=some (.int .i64 x.cb)/\W.cell? ⟨B,5,none⟩=some d
theorem kD.made(w:World)(x:aB)(d:Value):kD (w.alloc (.cells #[x.nm,(x.am:Int),(x.ab:Int),(x.cm:Int),(x.cb:Int),d] 65)) w x d:=by
 refine⟨by simp,by simp,by simp,by simp,by simp,by simp,by simp⟩
theorem kD.below{x:aB}{d:Value}(h:kD W B x d)(b:Below W W W'):kD W' B x d:=by
 obtain⟨a,c,e,j,g,f,i⟩:=h;exact⟨Q1 a b.size,(b.cell (p:=B) a).trans c,(b.cell (p:=⟨B,1,none⟩) a).trans e,(b.cell (p:=⟨B,2,none⟩) a).trans j,(b.cell (p:=⟨B,3,none⟩) a).trans g,(b.cell (p:=⟨B,4,none⟩) a).trans f,(b.cell (p:=⟨B,5,none⟩) a).trans i⟩
theorem Ll(b o c k:Nat)(cs:List aB)(dv:Nat->Value)(w:World)(h:mC w b o cs dv)(y:k<cs.length)(D:cs.length<=maxLen) :
  Calls prog 81 #[.agg #[(ae cs k).nm,((ae cs k).am:Int),((ae cs k).ab:Int),((ae cs k).cm:Int),((ae cs k).cb:Int),dv k],.slice (some ⟨b,o,none⟩) k c] w λe w'=>e=.returned (aJ (dO cs k:Nat))/\Below w w w':=by
 have Hi:=(Q0 w w).alloc (lR) (.cells #[(ae cs k).nm,((ae cs k).am:Int),((ae cs k).ab:Int),((ae cs k).cm:Int),((ae cs k).cb:Int),dv k] 65);have v:=qI (Lf b o c w k cs dv _ (h.below Hi) y D (by simp) (boxed w (ae cs k) (dv k)));have I:=qI (h.2 k y).2;have Hb:=qI Hi;have E:=qI (@Lg cs k);have H:=qI (@Lh cs k);have G:=qI (@Li cs k);have A:=qI (@Lj cs k);have z:=qI (@Lk cs k);clear h y D Hi;generalize dO cs k=F at *;generalize mA cs k=T at *;generalize ae cs k=x at *;generalize dv k=d at *
 rcases two (bR x.nm) with f|f
 ·rcases two T with u|u
  ·have a:=H.o f u;subst u
   go_enter func81,ntmps81
   go_wp2_with fail
   refine (iW _ _).mono ?_;rintro e p ⟨rfl,rfl⟩;rw[f]
   go_wp2_with fail
   refine v.o.mono ?_;rintro e p ⟨rfl,Hc⟩
   go_wp2
   go_ret;exact⟨by rw[a];rfl,Hb.o.trans (Hc.mono Hb.o.size)⟩
  ·subst u;have C:=qI (G.o f rfl);have l:=qI (A.o f rfl);have g:=qI (z.o f rfl);clear E H G A z
   go_enter func81,ntmps81
   go_wp2_with fail
   refine (iW _ _).mono ?_;rintro e p ⟨rfl,rfl⟩;rw[f]
   go_wp2_with fail
   refine v.o.mono ?_;rintro e p ⟨rfl,Hc⟩;have Hf:=qI ((kD.made w x d).below Hc);have Hk:=qI (Hb.o.trans (Hc.mono Hb.o.size));clear Hc v Hb;generalize w=B at Hf;obtain⟨t,b0,b1,b2,r,s,q⟩:=Hf.o
   go_wp2_with fail
   refine (AW _ _ _).mono ?_;rintro e M ⟨rfl,Hj⟩;have Hh:=qI (Hf.o.below Hj);have Ha:=qI (Hk.o.trans (Hj.mono Hk.o.size));clear Hj Hf Hk t b0 b1 b2 r s q
   rcases two (gA x.am x.ab) with j|j
   ·have l:=qI (l.o j);have g:=qI (g.o j);rw[j];obtain⟨t,b0,b1,b2,r,s,q⟩:=Hh.o
    go_wp2_with fail
    refine (AW _ _ _).mono ?_;rintro e L ⟨rfl,Hg⟩;have Hm:=qI (Hh.o.below Hg);have Ho:=qI (I.o.below (Ha.o.trans (Hg.mono Ha.o.size)));have He:=qI (Ha.o.trans (Hg.mono Ha.o.size));clear Hg Hh Ha t b0 b1 b2 r s q
    rcases two (gA x.cm x.cb) with i|i
    ·have l:=qI (l.o i);have g:=qI (g.o i);rw[i];obtain⟨t,b0,b1,b2,r,s,q⟩:=Hm.o
     go_wp2_with fail
     refine (AV _ _ _).mono ?_;rintro e K ⟨rfl,rfl⟩
     rcases two (iC x.am x.cm) with m|m
     ·have a:=l.o (.inl m);rw[m]
      go_wp2
      go_ret;exact⟨by rw[a];rfl,He.o⟩
     ·have g:=qI (g.o m);rw[m]
      go_wp2_with fail
      refine (AV _ _ _).mono ?_;rintro e K ⟨rfl,rfl⟩
      rcases two (iC x.ab x.cb) with n|n
      ·have a:=l.o (.inr n);rw[n]
       go_wp2
       go_ret;exact⟨by rw[a];rfl,He.o⟩
      ·have J:=qI (g.o n);rw[n]
       go_wp2_with fail
       refine (K7 d x.ds _ Ho.o).mono ?_;rintro e N ⟨rfl,Hl⟩;rw[<- J.o];have Hn:=qI (He.o.trans (Hl.mono He.o.size));clear Hl
       go_wp2
       go_ret;exact⟨rfl,Hn.o⟩
    ·have a:=C.o (.inr i);rw[i]
     go_wp2
     go_ret;exact⟨by rw[a];rfl,He.o⟩
   ·have a:=C.o (.inl j);rw[j]
    go_wp2
    go_ret;exact⟨by rw[a];rfl,Ha.o⟩
 ·have a:=E.o f
  go_enter func81,ntmps81
  go_wp2_with fail
  refine (iW _ _).mono ?_;rintro e p ⟨rfl,rfl⟩;rw[f]
  go_wp2
  go_ret;exact⟨by rw[a];rfl,Hb.o⟩
theorem Lm{p:aj}(h:bR p.nm=false):bu p=3:=by unfold bu;rw[if_pos h]
theorem Ln{p:aj}(h:bR p.nm=true)(a:p.pr<0\/1000<p.pr):bu p=1:=by unfold bu;rw[if_neg (by rw[h];decide),if_pos a]
theorem Lo{p:aj}(h:bR p.nm=true)(a:¬ (p.pr<0\/1000<p.pr))(b:p.cs.length<1\/3<p.cs.length):bu p=2:=by unfold bu;rw[if_neg (by rw[h];decide),if_neg a,if_pos b]
theorem Lp{p:aj}(h:bR p.nm=true)(a:¬ (p.pr<0\/1000<p.pr))(b:¬ (p.cs.length<1\/3<p.cs.length)):bu p=bh (dO p.cs) p.cs.length:=by unfold bu;rw[if_neg (by rw[h];decide),if_neg a,if_neg b]
theorem eP{f:Nat}(h:f≠0):aJ (f:Int)=.iface 108 (f:Int):=by unfold aJ;rw[if_neg (by omega)]
theorem fC(h:Below B a w):Below B a w.drew:=⟨h.os,h.tape,h.output,h.size,h.block⟩
abbrev nN:=λ(x0:ByteArray) (x1:Int) (x2:Nat) (x3:Option Addr) (x4:Nat)=>(.cells #[x0,x1,.slice x3 x2 x4] 49:Obj)
theorem A6(p:aj)(cv:Value)(w:World)(h:aQ w cv p.cs):Calls prog 42 #[cz p cv] w λe w'=>e=.returned (aJ (bu p:Nat))/\Below w w w':=by
 obtain⟨M,c,rfl,P,O⟩:=h;have Q:=qI O;have E:=qI P;clear O P;have I:=qI (@Lm p);have v:=qI (@Ln p);have q:=qI (@Lo p);have r:=qI (@Lp p);unfold cz;have He:=qI ((Q0 w w).alloc (lR) (nN p.nm p.pr p.cs.length M c))
 rcases two (bR p.nm) with g|g
 ·have v:=qI (v.o g);have q:=qI (q.o g);have r:=qI (r.o g)
  by_cases A:p.pr<0\/1000<p.pr
  ·have s:=v.o A
   go_enter func42,ntmps42
   go_wp2_with fail
   refine (iW _ _).mono ?_;rintro e m ⟨rfl,rfl⟩;rw[g]
   go_wp2_with fail
   refine (mD _ _ _ _).mono ?_;rintro e m ⟨rfl,rfl⟩;rw[show (decide (0<=p.pr) && decide (p.pr<=1000))=false by simp;omega]
   go_wp2
   go_ret;exact⟨by rw[s];rfl,He.o⟩
  have q:=qI (q.o A);have r:=qI (r.o A);have Hq:(decide (0<=p.pr) && decide (p.pr<=1000))=true:=by simp;omega
  clear A
  by_cases B:p.cs.length<1\/3<p.cs.length
  ·have s:=q.o B;have Hj:(decide ((1:Int)<=p.cs.length) && decide ((p.cs.length:Int)<=3))=false:=by simp;omega
   clear B I v q r
   go_enter func42,ntmps42
   go_wp2_with fail
   refine (iW _ _).mono ?_;rintro e m ⟨rfl,rfl⟩;rw[g]
   go_wp2_with fail
   refine (mD _ _ _ _).mono ?_;rintro e m ⟨rfl,rfl⟩;rw[Hq]
   go_wp2_with fail
   refine (mD _ _ _ _).mono ?_;rintro e m ⟨rfl,rfl⟩;rw[Hj]
   go_wp2
   go_ret;exact⟨by rw[s];rfl,He.o⟩
  have y:=qI (r.o B);have Hj:(decide ((1:Int)<=p.cs.length) && decide ((p.cs.length:Int)<=3))=true:=by simp;omega
  have Hy:p.cs.length<=3:=by omega
  rw[y.o];clear B I v q r y;clear v q r;generalize p.cs=cs at *
  go_enter func42,ntmps42
  go_wp2_with fail
  refine (iW _ _).mono ?_;rintro e m ⟨rfl,rfl⟩;rw[g]
  go_wp2_with fail
  refine (mD _ _ _ _).mono ?_;rintro e m ⟨rfl,rfl⟩;rw[Hq]
  go_wp2_with fail
  refine (mD _ _ _ _).mono ?_;rintro e m ⟨rfl,rfl⟩;rw[Hj]
  go_wp2
  go_loopw [25] (λi wr=>∃k:Nat,k<=cs.length/\i=.int .i64 k/\Below w w wr/\Hu (w<wr.heap.size)/\wr.cell? ⟨w,2,none⟩=some (.slice M cs.length c)/\Hu (bh (dO cs) k=0)) (λi _=>cs.length - (intOf i).toNat)
  case atStart=>exact⟨0,by omega,rfl,He.o,by simp[Hu],by simp,rfl⟩
  case round=>
   obtain⟨k,R,rfl,u,Hf,Hk,z⟩:=hrel
   by_cases j:k<cs.length
   ·obtain⟨b,o,dv,rfl,Hb⟩:=Q.o (by omega);have Hb:=Hb.below u;obtain⟨c0,c1,c2,c3,U,T⟩:=Hb.at j;have Hz:k<=c:=Q5 R E.o.1;have C:=qI (lq (f:=dO cs) (n:=cs.length) z.o · j);have G:=qI (ml (f:=dO cs) (k:=k) z.o);have V:=qI Hb;have Hc:=qI (u.alloc u.size (.cells #[(ae cs k).nm,((ae cs k).am:Int),((ae cs k).ab:Int),((ae cs k).cm:Int),((ae cs k).cb:Int),dv k] 65));have Hm:=qI ((kD.made wr (ae cs k) (dv k)).below (fC (Q0 _ _)));have Hn:=qI λW (hb:Below wr wr W)=>Ll b o c k cs dv W (Hb.below hb) j (Q5 E.o.1 E.o.2);have Hh:=qI ((Q0 wr wr).alloc (lR) (.cells #[(ae cs k).nm,((ae cs k).am:Int),((ae cs k).ab:Int),((ae cs k).cm:Int),((ae cs k).cb:Int),dv k] 65));have Ho:=qI Hk;have Hr:∃a n e,dv k=.slice a n e:=by
     obtain⟨a,e,s,_⟩:=(Hb.2 k j).2;exact⟨a,_,e,s⟩
    clear Hb z u;generalize ae cs k=x at *;generalize dv k=d at *;obtain⟨da,dn,dc,rfl⟩:=Hr;generalize dO cs k=F at *
    go_wp2_with fail
    obtain⟨l,b0,b1,b2,L,H,J⟩:=Hm.o;have Hi:=(fC Hh.o).cell (p:=⟨w,2,none⟩) Hf.o |>.trans Ho.o;clear Hm;refine wp_region_held_drew (S:=(λw'=>(w'.cell? wr=some (.string x.nm)/\w'.cell? ⟨wr,1,none⟩=some (.int .i64 x.am)/\w'.cell? ⟨wr,2,none⟩=some (.int .i64 x.ab)/\w'.cell? ⟨wr,3,none⟩=some (.int .i64 x.cm)/\w'.cell? ⟨wr,4,none⟩=some (.int .i64 x.cb)/\w'.cell? ⟨wr,5,none⟩=some (.slice da dn dc))/\w'.cell? ⟨w,2,none⟩=some (.slice (some ⟨b,o,none⟩) cs.length c))) (by kernel_rfl) ⟨⟨b0,b1,b2,L,H,J⟩,Hi⟩ λD=>?_;refine tk 0 ?_;refine tk 1 ?_;refine tk 2 ?_;refine tk 3 ?_;refine tk 4 ?_;refine rd 5 λK N=>?_;go_simp
    go_wp2_with fail
    refine (Hn.o _ (fC Hh.o)).mono ?_;rintro e X ⟨rfl,Ha⟩;have Hg:=qI Ha;have Hl:=qI (And.intro (And.intro ((Ha.cell (p:=wr.heap.size) l).trans b0) (And.intro ((Ha.cell (p:=⟨wr,1,none⟩) l).trans b1) (And.intro ((Ha.cell (p:=⟨wr,2,none⟩) l).trans b2) (And.intro ((Ha.cell (p:=⟨wr,3,none⟩) l).trans L) (And.intro ((Ha.cell (p:=⟨wr,4,none⟩) l).trans H) ((Ha.cell (p:=⟨wr,5,none⟩) l).trans J)))))) ((Ha.cell (p:=⟨w,2,none⟩) (Nat.lt_trans Hf.o l)).trans Hi));clear Ha
    go_wp2_with fail
    refine N.o _ _ Hl.o λD=>?_;clear N K;refine tk 6 ?_;refine Qn (by kernel_rfl) ?_ _;have Hp:=qI ((fC Hc.o).trans (Hg.o.mono (fC Hc.o).size));have Hv:=qI D.2;have Hx:=qI (Q1 (Nat.lt_trans Hf.o l) Hg.o.size);clear Hg Hl D Hc Hn Hh Ho V Hi b0 b1 b2 L H J l Hf Hk c0 c1 c2 c3 U T
    by_cases t:F=0
    ·have Ht:=qI (G.o t);rw[show aJ (F:Int)=.nilIface by rw[t];rfl];clear C G t
     go_wp2
     go_roundw
     case rel=>exact⟨k+1,by omega,by go_num,Hp.o,Hx,Hv.o,Ht⟩
     case measure=>simp[intOf];omega
    ·have Hw:=qI (C.o t);have y:=qI (eP t);rw[y.o];clear C G t
     go_wp2
     go_ret;exact⟨by rw[Hw.o,y.o];rfl,Hp.o⟩
   ·have Hs:k=cs.length:=by omega
    subst Hs;have Hc:=qI u;clear u
    go_wp2
    go_ret;exact⟨by rw[z.o];rfl,Hc.o⟩
 ·have s:=I.o g
  go_enter func42,ntmps42
  go_wp2_with fail
  refine (iW _ _).mono ?_;rintro e m ⟨rfl,rfl⟩;rw[g]
  go_wp2
  go_ret;exact⟨by rw[s];rfl,He.o⟩
theorem tn{fn:Func}{p:Tmp}{b:TypeId}(h:fn.results=#[.cell p b])(tmps:Array Value)(P:Program)(w:World) :
  (results fn tmps).run P w=((asAddr (tmps.getD p undef)).run P w).andThen λa c=>(loadVar b a).run P c:=by
 simp only[results,h]
 simp[Sem.run_bind,Result.andThen]
def cr (w:World) (B:Nat) (m b:Int):Prop:=(w.cell? B=some (.int .i64 m)/\w.frozen? B=false)/\(w.cell? ⟨B,1,none⟩=some (.int .i64 b)/\w.frozen? ⟨B,1,none⟩=false)
theorem cr.lt(h:cr w B m b):B<w:=Q3 w _ h.1.1
theorem cr.kept{g:Option Nat}(h:cr w B m b)(c:w.grownBy w' g)(a:some B≠g):cr w' B m b:=
 ⟨⟨(c.cell_far _ h.lt a).trans h.1.1,(c.frozen_far _ h.lt a).trans h.1.2⟩,⟨(c.cell_far _ h.lt a).trans h.2.1,(c.frozen_far _ h.lt a).trans h.2.2⟩⟩
theorem cr.below(h:cr w B m b)(a:Below w w w'):cr w' B m b:=h.kept (fB a none) (by simp)
theorem cr.alloc(h:cr w B m b)(o:Obj):cr (w.alloc o) B m b:=h.below ((Q0 _ w).alloc (lR) o)
theorem cr.made(w:World)(t:TypeId)(m b:Int):cr (w.alloc (.cells #[m,b] t)) w m b:=⟨⟨by simp,by simp⟩,⟨by simp,by simp⟩⟩
theorem cr.set0(h:cr w B m b)(n:Int):cr (w.setCell B n) B n b:=by
 obtain⟨⟨c0,z0⟩,⟨c1,z1⟩⟩:=h;refine⟨⟨?_,(World.frozen?_setCell ..).trans z0⟩,⟨?_,(World.frozen?_setCell ..).trans z1⟩⟩
 ·clear c1;go_simp
 ·have Ha:(B:Addr)≠⟨B,1,none⟩:=by intro h;cases h
  rw[World.cell?_setCell_other (h:=Ha)];exact c1
theorem cr.set1(h:cr w B m b)(n:Int):cr (w.setCell ⟨B,1,none⟩ n) B m n:=by
 obtain⟨⟨c0,z0⟩,⟨c1,z1⟩⟩:=h;refine⟨⟨?_,(World.frozen?_setCell ..).trans z0⟩,⟨?_,(World.frozen?_setCell ..).trans z1⟩⟩
 ·have Ha:(⟨B,1,none⟩:Addr)≠⟨B,0,none⟩:=by intro h;cases h
  rw[World.cell?_setCell_other (h:=Ha)];exact c0
 ·clear c0;go_simp
theorem mE{K:Nat}(h:Below K a w)(B j:Nat)(v:Value)(c:K<=B)(b:K<=w):Below K a (w.setCell ⟨B,j,none⟩ v):=by grind[h.trans,below_grown,cM]
theorem Lq(p:aj)(cv:Value)(w:World)(h:aQ w cv p.cs)(j:ib p.cs):Calls prog 41 #[cz p cv] w λe w'=>e=.returned (.agg #[(dh p.cs p.cs.length:Int),(cV p.cs p.cs.length:Int)])/\Below w w w':=by
 obtain⟨l,c,rfl,u,t⟩:=h;have y:=qI t;clear t u;unfold cz;have Hk:=qI ((((Q0 w w).alloc (lR) (nN p.nm p.pr p.cs.length l c)).alloc (by simp) (.cells #[(0:Int),(0:Int)] 62)).alloc (by simp;omega) (.cells #[(0:Int),(0:Int)] 62));have Hi:Hu (cr (((w.alloc (nN p.nm p.pr p.cs.length l c)).alloc (.cells #[(0:Int),(0:Int)] 62)).alloc (.cells #[(0:Int),(0:Int)] 62)) (w.heap.size+1) 0 0/\cr (((w.alloc (nN p.nm p.pr p.cs.length l c)).alloc (.cells #[(0:Int),(0:Int)] 62)).alloc (.cells #[(0:Int),(0:Int)] 62)) (w.heap.size+1+1) 0 0):=by
  constructor
  ·have:=(cr.made (w.alloc (nN p.nm p.pr p.cs.length l c)) 62 0 0).alloc (.cells #[(0:Int),(0:Int)] 62)
   simpa using this
  ·have:=cr.made ((w.alloc (nN p.nm p.pr p.cs.length l c)).alloc (.cells #[(0:Int),(0:Int)] 62)) 62 0 0
   simpa using this
 generalize p.cs=cs at *;have Hh:=qI j;have Hw:=j.1;clear j
 go_enter func41,ntmps41
 go_wp2
 go_loopw [9] (λi wr=>∃k:Nat,k<=cs.length/\i=.int .i64 k/\Below w w wr/\cr wr (w.heap.size+1) 0 0/\cr wr (w.heap.size+1+1) (dh cs k) (cV cs k)) (λi _=>cs.length - (intOf i).toNat)
 case atStart=>exact⟨0,by omega,rfl,Hk.o,Hi.o.1,Hi.o.2⟩
 case round=>
  obtain⟨k,q,rfl,f,Hf,He⟩:=hrel
  by_cases g:k<cs.length
  ·obtain⟨b,o,dv,rfl,Ha⟩:=y.o (by omega);have Ha:=Ha.below f;obtain⟨c0,c1,c2,c3,C,B⟩:=Ha.at g;have Hq:∃a n e,dv k=.slice a n e:=by
    obtain⟨a,e,z,_⟩:=(Ha.2 k g).2;exact⟨a,_,e,z⟩
   have Hc:=qI (f.alloc f.size (.cells #[(ae cs k).nm,((ae cs k).am:Int),((ae cs k).ab:Int),((ae cs k).cm:Int),((ae cs k).cb:Int),dv k] 65));have Hl:=Hf.alloc (.cells #[(ae cs k).nm,((ae cs k).am:Int),((ae cs k).ab:Int),((ae cs k).cm:Int),((ae cs k).cb:Int),dv k] 65);have Hg:=He.alloc (.cells #[(ae cs k).nm,((ae cs k).am:Int),((ae cs k).ab:Int),((ae cs k).cm:Int),((ae cs k).cb:Int),dv k] 65);have Hb:=kD.made wr (ae cs k) (dv k);have Hn:Hu (dh cs (k+1)=dh cs k+(ae cs k).am):=rfl;have Hs:Hu (cV cs (k+1)=cV cs k+(ae cs k).ab):=rfl;obtain⟨m1,m2,_⟩:=Hh.o.2 k g;obtain⟨I,G⟩:=tl Hh.o q;obtain⟨J,F⟩:=qF Hh.o q;have Hp:=He.lt;clear Ha f Hk Hi;generalize dh cs k=M at *;generalize cV cs k=N at *;generalize ae cs k=x at *;generalize dv k=d at *;obtain⟨da,dn,dc,rfl⟩:=Hq;generalize hW1:wr.alloc (.cells #[x.nm,(x.am:Int),(x.ab:Int),(x.cm:Int),(x.cb:Int),.slice da dn dc] 65)=A at Hl Hg Hc Hb;have D:wrap64 (M+x.am)=M+x.am:=by unfold wrap64;omega
   have E:wrap64 (N+x.ab)=N+x.ab:=by unfold wrap64;omega
   have Hm:=qI (cM A ⟨w.heap.size+1+1,0,none⟩ (M+x.am:Int));have Ht:=qI (Hl.kept Hm.o (by simp));have Hj:=qI (Hg.set0 (M+x.am));have H:=(Hm.o.cell_far ⟨wr,2,none⟩ Hb.1 (by simp;omega)).trans Hb.2.2.2.1;obtain⟨⟨f1,f2⟩,⟨f3,r⟩⟩:=Hg;obtain⟨⟨g1,s⟩,⟨g3,g4⟩⟩:=Hj.o;obtain⟨_,_,b1,_⟩:=Hb
   go_wp2_with fail
   have m:=Hc.o.size;have Ho:=mE Hc.o (w.heap.size+1+1) 0 (M+x.am:Int) (by omega) m;refine⟨⟨k+1,by omega,by go_num,mE Ho (w.heap.size+1+1) 1 (N+x.ab:Int) (by omega) (by simpa using m),Ht.o.kept (cM _ ⟨w.heap.size+1+1,1,none⟩ (N+x.ab:Int)) (by simp),?_⟩,by simp[intOf];omega⟩;rw[Hn.o,Hs.o];exact Hj.o.set1 _
  ·have Hr:k=cs.length:=by omega
   subst Hr;have m:=f.size;have Hx:=qI (mE (mE f (w.heap.size+1) 0 (dh cs cs.length:Int) (by omega) m) (w.heap.size+1) 1 (cV cs cs.length:Int) (by omega) (by simpa using m));have Hv:=qI ((Hf.set0 (dh cs cs.length)).set1 (cV cs cs.length));obtain⟨⟨f1,f2⟩,⟨f3,r⟩⟩:=Hf;obtain⟨⟨g1,s⟩,⟨g3,g4⟩⟩:=He;clear f
   go_wp2_with fail
   (try simp only[Exit.inBlock,Exit.then]);refine bodyPost_ret (v:=.agg #[(dh cs cs.length:Int),(cV cs cs.length:Int)]) ?_ rfl ⟨rfl,Hx.o⟩;obtain⟨⟨g1,s⟩,⟨g3,g4⟩⟩:=Hv.o;rw[tn rfl];clear f1 f2 f3 r;go_simp
theorem Lr(p:aj)(cv:Value)(w:World)(h:aQ w cv p.cs):Calls prog 82 #[cz p cv] w λe w'=>e=.returned (mB p.cs:Int)/\Below w w w':=by
 obtain⟨D,c,rfl,A,B⟩:=h;have G:=qI B;have E:=qI A;clear B A;unfold cz;have Hf:=qI ((Q0 w w).alloc (lR) (nN p.nm p.pr p.cs.length D c));generalize p.cs=cs at *
 go_enter func82,ntmps82
 go_wp2
 go_loopw [3,4,10] (λs r i wr=>∃k:Nat,k<=cs.length/\i=.int .i64 k/\s=.bool (nK cs k)/\r=.bool (nL cs k)/\Below w w wr) (λ_ _ i _=>cs.length - (intOf i).toNat)
 case atStart=>exact⟨0,by omega,rfl,rfl,rfl,Hf.o⟩
 case round=>
  obtain⟨k,I,rfl,rfl,rfl,m⟩:=hrel
  by_cases q:k<cs.length
  ·obtain⟨b,o,dv,rfl,Hb⟩:=G.o (by omega);have Hb:=Hb.below m;obtain⟨c0,c1,c2,c3,L,K⟩:=Hb.at q;have He:∃a n e,dv k=.slice a n e:=by
    obtain⟨a,e,H,_⟩:=(Hb.2 k q).2;exact⟨a,_,e,H⟩
   have Ha:=qI (m.alloc m.size (.cells #[(ae cs k).nm,((ae cs k).am:Int),((ae cs k).ab:Int),((ae cs k).cm:Int),((ae cs k).cb:Int),dv k] 65));have y:Hu (wrap64 ((k:Int)+1)=((k+1:Nat):Int)):=by
    have:=E.o
    unfold maxLen at this
    show wrap64 ((k:Int)+1)=((k+1:Nat):Int)
    unfold wrap64;omega
   have HS:Hu (nK cs (k+1)=(nK cs k && qB (ae cs k))):=rfl;have l:Hu (nL cs (k+1)=(nL cs k && qC (ae cs k))):=rfl;clear Hb m;generalize ae cs k=x at *;generalize dv k=d at *;obtain⟨da,dn,dc,rfl⟩:=He;generalize nK cs k=s at *;generalize nL cs k=r at *;obtain⟨nm,am,ab,cm,cb,ds⟩:=x;have key:(s=true/\r=true)\/(s=false\/r=false):=by cases s <;> cases r <;> simp
   rcases key with⟨f,g⟩|z
   ·subst f g;have j:∀a c:Int,(a=0/\c=0)\/(a=0/\c≠0)\/(a≠0/\c=0)\/(a≠0/\c=a)\/(a≠0/\c≠0/\a≠c):=by omega
    rcases j am cm with⟨g1,t⟩|⟨g1,t⟩|⟨g1,t⟩|⟨g1,t⟩|⟨g1,t,g3⟩
    all_goals rcases j ab cb with⟨v,u⟩|⟨v,u⟩|⟨v,u⟩|⟨v,u⟩|⟨v,u,J⟩
    all_goals clear j
    all_goals subst_vars
    all_goals (try have C:=Ne.symm t)
    all_goals (try have F:=Ne.symm u)
    all_goals go_wp2_with fail
    all_goals
     rw[y.o];refine⟨⟨k+1,by omega,rfl,?_,?_,Ha.o⟩,by simp[intOf];omega⟩
     ·rw[HS.o];simp[qB, *]
     ·rw[l.o];simp[qC, *] <;> (rw[Bool.eq_iff_iff];simp;omega)
   ·rcases z with f|g
    ·subst f
     rcases two r with g|g
     all_goals subst g
     all_goals go_wp2_with fail
     all_goals
      subst_vars
      rw[y.o];refine⟨⟨k+1,by omega,rfl,?_,?_,Ha.o⟩,by simp[intOf];omega⟩
      ·rw[HS.o];simp[qB, *]
      ·rw[l.o];simp[qC, *] <;> (rw[Bool.eq_iff_iff];simp;omega)
    ·subst g
     rcases two s with f|f
     all_goals subst f
     all_goals go_wp2_with fail
     all_goals
      subst_vars
      rw[y.o];refine⟨⟨k+1,by omega,rfl,?_,?_,Ha.o⟩,by simp[intOf];omega⟩
      ·rw[HS.o];simp[qB, *]
      ·rw[l.o];simp[qC, *] <;> (rw[Bool.eq_iff_iff];simp;omega)
  ·have Hc:k=cs.length:=by omega
   subst Hc;have Ha:=qI m;have l:Hu (mB cs=if nK cs cs.length=true then 1 else if nL cs cs.length=true then 3 else 2):=rfl;clear m
   rcases two (nK cs cs.length) with f|f
   ·rw[f];rw[f] at l
    go_wp2
    go_ret;exact⟨by rw[l.o];rfl,Ha.o⟩
   ·rcases two (nL cs cs.length) with g|g
    ·rw[f,g];rw[f,g] at l
     go_wp2
     go_ret;exact⟨by rw[l.o];rfl,Ha.o⟩
    ·rw[f,g];rw[f,g] at l
     go_wp2
     go_ret;exact⟨by rw[l.o];rfl,Ha.o⟩
def gB (W:World) (B:Nat) (p:aj) (cv:Value):Prop:=B<W.heap.size/\W.cell? B=some (.string p.nm)/\W.cell? ⟨B,1,none⟩=some (.int .i64 p.pr)/\W.cell? ⟨B,2,none⟩=some cv
abbrev tt:=λ(x0:aj) (x1:Value)=>(.cells #[x0.nm,(x0.pr:Int),x1] 49:Obj)
theorem gB.made(w:World)(p:aj)(cv:Value):gB (w.alloc (tt p cv)) w p cv:=⟨by simp,by simp,by simp,by simp⟩
theorem gB.below{p:aj}(h:gB W B p cv)(a:Below W W W'):gB W' B p cv:=by
 obtain⟨b,c,d,e⟩:=h;exact⟨Q1 b a.size,(a.cell (p:=B) b).trans c,(a.cell (p:=⟨B,1,none⟩) b).trans d,(a.cell (p:=⟨B,2,none⟩) b).trans e⟩
theorem gB.alloc{p:aj}(h:gB W B p cv)(o:Obj):gB (W.alloc o) B p cv:=h.below ((Q0 _ W).alloc (lR) o)
theorem aQ.slice{v:Value}{cs:List aB}(h:aQ w v cs):∃a n c,v=.slice a n c:=by
 obtain⟨a,c,h,_⟩:=h;exact⟨a,_,c,h⟩
theorem tu(p:aj)(cv:Value)(x:aB)(da:Option Addr)(dn dc:Nat)(w:World)(h:aQ w cv p.cs)(j:0<=x.am)(m:x.am<=1000000) :
  Calls prog 44 #[cz p cv,.agg #[x.nm,(x.am:Int),(x.ab:Int),(x.cm:Int),(x.cb:Int),.slice da dn dc]] w λe w'=>e=.returned (cI p.cs x.am:Int)/\Below w w w':=by
 have hs:=h.slice;unfold cz;have Hb:=qI (((Q0 w w).alloc (lR) (tt p cv)).alloc (by simp) (.cells #[x.nm,(x.am:Int),(x.ab:Int),(x.cm:Int),(x.cb:Int),.slice da dn dc] 65));have a:=kD.made (w.alloc (tt p cv)) x (.slice da dn dc);rw[show (w.alloc (tt p cv)).heap.size=w.heap.size+1 by simp] at a;have a:=qI a;have c:=qI (Lr p cv _ (h.below Hb.o));have k:x.am.tmod 1000=x.am % 1000:=Int.tmod_eq_emod_of_nonneg j;have n:x.am.tdiv 1000=x.am / 1000:=Int.tdiv_eq_ediv_of_nonneg j;have b:Hu (cI p.cs x.am=if mB p.cs=3/\x.am % 1000=0 then x.am / 1000 else 0):=rfl;unfold cz at c;obtain⟨l,o,q,rfl⟩:=hs;generalize mB p.cs=K at *;generalize cI p.cs x.am=R at *;clear h
 by_cases f:K=3
 ·subst f
  by_cases d:x.am % 1000=0
  ·have Hf:x.am.tmod 1000=0:=by rw[k];exact d
   have Hc:=qI (b.o.trans (if_pos ⟨rfl,d⟩));clear b
   go_enter func44,ntmps44
   go_wp2_with fail
   refine c.o.mono ?_;rintro e g ⟨rfl,Ha⟩;obtain⟨i,b0,b1,_⟩:=a.o.below Ha;have He:=qI (Hb.o.trans (Ha.mono Hb.o.size));clear Ha a Hb
   go_wp2
   go_ret;exact⟨by rw[Hc.o];rfl,He.o⟩
  ·have Hf:(x.am % 1000 != 0)=true:=by simp[d]
   have Hc:=qI (b.o.trans (if_neg λh=>d h.2));clear b
   go_enter func44,ntmps44
   go_wp2_with fail
   refine c.o.mono ?_;rintro e g ⟨rfl,Ha⟩;obtain⟨i,b0,b1,_⟩:=a.o.below Ha;have He:=qI (Hb.o.trans (Ha.mono Hb.o.size));clear Ha a Hb
   go_wp2
   go_ret;exact⟨by rw[Hc.o];rfl,He.o⟩
 ·have Hc:=qI (b.o.trans (if_neg λh=>f h.1));clear b
  go_enter func44,ntmps44
  go_wp2_with fail
  refine c.o.mono ?_;rintro e g ⟨rfl,Ha⟩;obtain⟨i,b0,b1,_⟩:=a.o.below Ha;have He:=qI (Hb.o.trans (Ha.mono Hb.o.size));clear Ha a Hb
  go_wp2
  go_ret;exact⟨by rw[Hc.o];rfl,He.o⟩
theorem bv.rows{ds:List ap}(h:bv w v ds):er w v 2 mr:=by
 obtain⟨f,c,i,l,m⟩:=h;refine⟨f,_,c,i,l,λe=>?_⟩;obtain⟨b,o,g,Ha,d⟩:=m e;refine⟨b,o,g,Ha,λk a=>⟨[.string (aq ds k).kind,.int .i64 (aq ds k).many],rfl,λj n=>?_,⟨_,_,rfl⟩⟩⟩
 match j,n with
 | 0,_=>exact (d k a).1
 | 1,_=>exact (d k a).2
theorem aQ.rows{cs:List aB}(h:aQ w v cs):er w v 6 (jT w):=by
 obtain⟨g,c,j,e,l⟩:=h;refine⟨g,_,c,j,Q5 e.1 e.2,λf=>?_⟩;obtain⟨b,o,dv,i,a⟩:=l f;exact⟨b,o,i,a.1,λk d=>⟨di (ae cs k) (dv k),rfl,(a.2 k d).1,⟨_,_,_,_,_,_,rfl,(a.2 k d).2.rows⟩⟩⟩
theorem Ls{p:aj}(h:aQ w cv p.cs):Calls prog 24 #[cz p cv] w λe w'=>Ans e/\Below w w w':=Ag p.nm p.pr cv w h.rows
def words:ly:=⟨⟨#[47,108,111,119,47]⟩,⟨#[47,109,105,100,47]⟩,⟨#[47]⟩,⟨#[47,108,111,119]⟩,⟨#[47,109,105,100]⟩⟩
theorem A7{p:Program}{t:TypeId}{z:Option Value}{a b:Nat}(h:(p.info? t).map (λi=>(i.zero,i.size,i.bytes))=some (z,a,b)):∃i,p.info? t=some i/\i.zero=z/\i.size=a/\i.bytes=b:=by simp_all
theorem nM.at{b o:Nat}{a:List aj}{cv:Nat->Value}(h:nM w b o a cv){k:Nat}(c:k<a.length) :
  w.cell? ⟨b,o+k*3,none⟩=some (.string (aO a k).nm)/\w.cell? ⟨b,o+k*3+1,none⟩=some (.int .i64 (aO a k).pr)/\w.cell? ⟨b,o+k*3+2,none⟩=some (cv k)/\aQ w (cv k) (aO a k).cs:=⟨(h.2 k c).1.1,(h.2 k c).1.2.1,(h.2 k c).1.2.2,(h.2 k c).2⟩
def Lt (n:Nat) (e:Ending):Prop:=∃b,e=.returned (.bool b)/\(b=true->n<=16)
theorem Lu(v:Value)(a:List aj)(w:World)(h:eO w v a):Calls prog 20 #[v] w λe w'=>Lt a.length e/\Below w w w':=by
 obtain⟨u,c,rfl,s,p⟩:=h;have q:=qI p;clear p s
 by_cases l:16<a.length
 ·go_enter func20,ntmps20
  go_wp2
  go_ret;exact⟨⟨_,rfl,λh=>by cases h⟩,Q0 _ _⟩
 have r:a.length<=16:=by omega
 have hd:decide (16<(a.length:Int))=false:=Q7 (by omega);clear l
 go_enter func20,ntmps20
 go_wp2
 go_loopw [3] (λi wr=>∃k:Nat,k<=a.length/\i=.int .i64 k/\Below w w wr) (λi _=>a.length - (intOf i).toNat)
 case atStart=>exact⟨0,by omega,rfl,Q0 _ _⟩
 case round=>
  obtain⟨k,y,rfl,f⟩:=hrel
  by_cases g:k<a.length
  ·obtain⟨b,o,cv,rfl,Ha⟩:=q.o (by omega);have Ha:=Ha.below f;obtain⟨c0,c1,c2,Hc⟩:=Ha.at g;have n:=qI (Ls Hc);have j:=qI f;have Hf:=Hc.slice;unfold cz at n;clear Ha Hc f;generalize aO a k=x at *;generalize cv k=d at *;obtain⟨da,dn,dc,rfl⟩:=Hf
   go_wp2_with fail
   refine n.o.mono ?_;rintro e t ⟨⟨b1,rfl⟩,He⟩;have Hb:=qI (j.o.trans (He.mono j.o.size));clear He j
   rcases two b1 with m|m
   ·subst m
    go_wp2
    go_roundw
    case rel=>exact⟨k+1,by omega,by go_num,Hb.o⟩
    case measure=>simp[intOf];omega
   ·subst m
    go_wp2
    go_ret;exact⟨⟨_,rfl,λh=>by cases h⟩,Hb.o⟩
  ·have Hg:k=a.length:=by omega
   subst Hg;have Hb:=qI f;clear f
   go_wp2
   go_ret;exact⟨⟨_,rfl,λ_=>r⟩,Hb.o⟩
theorem A8{base:Nat}{e:TypeId}{size:Nat}{v:Value}{n:Nat}{f:List Value}(h:w.ownsRow base e size v n f)(o:0<n) :
  ∃g a,v=.slice (some ⟨g,0,none⟩) n a/\n<=a/\a<=maxLen/\base<=g/\g<w.heap.size/\∀i u,f[i]?=some u->w.cell? ⟨g,i,none⟩=some u:=by
 rcases h.2 with⟨_,p⟩|⟨g,a,c,l,k,d,Hc,He,_,m⟩
 ·omega
 ·refine⟨g,a,l,Hc,He,k,?_,λi u b=>?_⟩
  ·rcases Nat.lt_or_ge g w with Ha|Hb
   ·exact Ha
   ·rw[Array.getElem?_eq_none Hb] at d;cases d
  ·rw[<- m,List.getElem?_take] at b
   split at b
   ·rename_i hi
    have j:c[i]?=some u:=by simpa using b
    unfold World.cell?
    rw[d]
    simp[j]
   ·cases b
def prV (l:List (aj × Value)):List Value:=l.flatMap λx=>[.string x.1.nm,.int .i64 x.1.pr,x.2]
theorem A9(l:List (aj × Value)):(prV l).length=l.length*3:=by induction l <;> grind[prV]
theorem Bb(l:List (aj × Value)):∀k,(h:k<l.length)->(prV l)[k*3]?=some (.string l[k].1.nm)/\(prV l)[k*3+1]?=some (.int .i64 l[k].1.pr)/\(prV l)[k*3+2]?=some l[k].2:=by
 induction l with
 | nil=>intro k h;simp at h
 | cons x l ih=>
  intro k h;rw[prV,List.flatMap_cons,<- prV]
  match k,h with
  | 0,_=>exact⟨rfl,rfl,rfl⟩
  | k+1,h=>
   have:=ih k (by simpa using h)
   rw[show (k+1)*3=k*3+3 by omega]
   simpa using this
def WO (W w:World) (v:Value) (l:List (aj × Value)):Prop:=
 w.ownsRow W 49 3 v l.length (prV l)/\∀x∈l,bu x.1=0/\aQ W x.2 x.1.cs
theorem Lv:(prog.info? 49).map (λi=>(i.zero,i.size,i.bytes))=some (some (.agg #[ByteArray.empty,(0:Int),.slice none 0 0]),3,48):=by kernel_rfl
