import Derived.Test.YtjlblidnfebmiaaGreatDoorY5
set_option maxRecDepth 100000
set_option maxHeartbeats 16000000
open Go Go.RowKit
open Go.Proofs.Tryz
namespace Go.Proofs.YtjlblidnfebmiaaGreatDoor
variable{W w w':World}{b k n o:Nat}{dv:Nat->Value}{f:Nat->Int}{v:Value}
structure ak where
 kind:ByteArray
 many:Int
def Bt:ak:=⟨ByteArray.empty,0⟩
structure aF where
 nm:ByteArray
 am:Int
 ab:Int
 cm:Int
 cb:Int
 ds:List ak
def wP:aF:=⟨ByteArray.empty,0,0,0,0,[]⟩
structure aj where
 nm:ByteArray
 pr:Int
 cs:List aF
def nr:aj:=⟨ByteArray.empty,0,[]⟩
instance:Inhabited ak:=⟨Bt⟩
instance:Inhabited aF:=⟨wP⟩
instance:Inhabited aj:=⟨nr⟩
def ar (l:List ak) (k:Nat):ak:=l.getD k Bt
def af (l:List aF) (k:Nat):aF:=l.getD k wP
def aS (l:List aj) (k:Nat):aj:=l.getD k nr
def ei (a b:ByteArray):Bool:=Op.bytesLess a.toList b.toList || a.toList == b.toList
def iT (ds:List ak) (j:Nat):Nat:=
 if bY (ar ds j).kind=false\/(0<j/\ei (ar ds j).kind (ar ds (j - 1)).kind=true) then 3
 else if (ar ds j).many<1\/16<(ar ds j).many then 1 else 0
def gU (m b:Int):Bool:=decide (0<=m) && decide (m<=1000000) && decide (0<=b) && decide (b<=1125899906842624)
def iU (a c:Int):Bool:=decide (c≠0) && decide (c<a)
def nu (cs:List aF) (k:Nat):Bool:=(cs.take k).any λo=>decide (o.nm=(af cs k).nm)
def ej (cs:List aF) (k:Nat):Nat:=
 if bY (af cs k).nm=false then 3
 else if nu cs k=true then 5
 else if gU (af cs k).am (af cs k).ab=false\/gU (af cs k).cm (af cs k).cb=false then 1
 else if iU (af cs k).am (af cs k).cm=true\/iU (af cs k).ab (af cs k).cb=true then 3
 else if 3<(af cs k).ds.length then 2
 else bA (iT (af cs k).ds) (af cs k).ds.length
def br (p:aj):Nat:=
 if bY p.nm=false then 3
 else if p.pr<0\/1000<p.pr then 1
 else if p.cs.length<1\/3<p.cs.length then 2
 else bA (ej p.cs) p.cs.length
def rT (c:aF):Bool:=decide (c.am=0) && decide (c.ab=0) && decide (c.cm=0) && decide (c.cb=0)
def rU (c:aF):Bool:=decide (c.am=c.cm) && decide (c.ab=c.cb) && decide (c.am≠0) && decide (c.ab≠0)
def oW (cs:List aF) (n:Nat):Bool:=fA (λk=>rT (af cs k)) n
def oX (cs:List aF) (n:Nat):Bool:=fA (λk=>rU (af cs k)) n
def nw (cs:List aF):Int:=if oW cs cs.length=true then 1 else if oX cs cs.length=true then 3 else 2
def jk (f:Nat->Int):Nat->Int
 | 0=>0
 | k+1=>jk f k+f k
def de (cs:List aF) (n:Nat):Int:=jk (λk=>(af cs k).am) n
def cV (cs:List aF) (n:Nat):Int:=jk (λk=>(af cs k).ab) n
def bR (cs:List aF) (m:Int):Int:=if nw cs=3/\m % 1000=0 then m / 1000 else 0
def iy (cs:List aF):Prop:=cs.length<=3/\∀k,k<cs.length->(0<=(af cs k).am/\(af cs k).am<=1000000)/\(0<=(af cs k).ab/\(af cs k).ab<=1125899906842624)/\(0<=(af cs k).cm/\(af cs k).cm<=1000000)/\(0<=(af cs k).cb/\(af cs k).cb<=1125899906842624)/\((af cs k).cm≠0->(af cs k).am<=(af cs k).cm)/\((af cs k).cb≠0->(af cs k).ab<=(af cs k).cb)
theorem uo{m b:Int}(h:gU m b=true):(0<=m/\m<=1000000)/\(0<=b/\b<=1125899906842624):=by
 grind[gU]
theorem Bu{cs:List aF}(h:ej cs k=0):gU (af cs k).am (af cs k).ab=true/\gU (af cs k).cm (af cs k).cb=true/\iU (af cs k).am (af cs k).cm=false/\iU (af cs k).ab (af cs k).cb=false:=by grind[ej]
theorem qq{p:aj}(h:br p=0):bY p.nm=true/\(0<=p.pr/\p.pr<=1000)/\(1<=p.cs.length/\p.cs.length<=3)/\bA (ej p.cs) p.cs.length=0:=by
 grind[br]
theorem ny{p:aj}(h:br p=0):iy p.cs:=by
 obtain⟨_,_,⟨_,b⟩,hf⟩:=qq h;refine⟨b,λk d=>?_⟩;obtain⟨c,e,g,f⟩:=Bu (fy hf k d);obtain⟨a,a2⟩:=uo c;obtain⟨a3,a4⟩:=uo e;refine⟨a,a2,a3,a4,?_,?_⟩
 ·grind[iU]
 ·grind[iU]
theorem Ke:iy []:=⟨by simp,λk a=>by simp at a⟩
theorem Bv(h:∀k,k<n->0<=f k):0<=jk f n:=by induction n <;> grind[jk]
theorem By{B:Int}(h:∀k,k<n->f k<=B):jk f n<=n*B:=by induction n <;> grind[jk]
theorem qr{cs:List aF}(a:iy cs)(c:n<=cs.length):0<=de cs n/\de cs n<=3000000:=by
 have d:=Bv (f:=λk=>(af cs k).am) (n:=n) λk b=>(a.2 k (by omega)).1.1;have e:=By (f:=λk=>(af cs k).am) (n:=n) (B:=1000000) λk b=>(a.2 k (by omega)).1.2
 have:=a.1
 unfold de;omega
theorem oY{cs:List aF}(a:iy cs)(c:n<=cs.length):0<=cV cs n/\cV cs n<=3377699720527872:=by
 have d:=Bv (f:=λk=>(af cs k).ab) (n:=n) λk b=>(a.2 k (by omega)).2.1.1;have e:=By (f:=λk=>(af cs k).ab) (n:=n) (B:=1125899906842624) λk b=>(a.2 k (by omega)).2.1.2
 have:=a.1
 unfold cV;omega
def ml (ds:List ak) (k:Nat):ByteArray:=if k=0 then ByteArray.empty else (ar ds (k - 1)).kind
theorem Kf(ds:List ak)(k:Nat):ml ds (k+1)=(ar ds k).kind:=by simp[ml]
theorem Kg{s:ByteArray}(h:bY s=true):ei s ByteArray.empty=false:=by
 unfold bY at h;have c:0<s.size:=by
  simp at h;omega
 have b:s.toList≠[]:=by
  intro e;rw[Qs] at e
  have:s.data.toList.length=0:=by rw[e];rfl
  rw[Array.length_toList] at this;have d:s.data.size=s.size:=rfl;omega
 unfold ei;rw[show ByteArray.empty.toList=[] by simp];cases hs:s.toList with
 | nil=>exact absurd hs b
 | cons a l=>simp[Op.bytesLess]
theorem Kh{ds:List ak}{k:Nat}(h:bY (ar ds k).kind=false):iT ds k=3:=by grind[iT]
theorem Ki{ds:List ak}{k:Nat}(h:bY (ar ds k).kind=true)(a:ei (ar ds k).kind (ml ds k)=true):iT ds k=3:=by
 grind[iT,ml,Kg]
theorem Kj{ds:List ak}{k:Nat}(h:bY (ar ds k).kind=true)(a:ei (ar ds k).kind (ml ds k)=false):iT ds k=if (ar ds k).many<1\/16<(ar ds k).many then 1 else 0:=by
 grind[iT,ml]
section
open Go.ChangeShapes Go.WideShapes Go.ChangeAt Go.RowKit
def bC (w:World) (v:Value) (ds:List ak):Prop:=
 ∃ao c,v=.slice ao ds.length c/\ds.length<=maxLen/\(0<ds.length->∃b o,ao=some ⟨b,o,none⟩/\b<w.heap.size/\∀k,k<ds.length->w.cell? ⟨b,o+k*2,none⟩=some (.string (ar ds k).kind)/\w.cell? ⟨b,o+k*2+1,none⟩=some (.int .i64 (ar ds k).many))
def eu (c:aF) (dv:Value):List Value:=[.string c.nm,.int .i64 c.am,.int .i64 c.ab,.int .i64 c.cm,.int .i64 c.cb,dv]
def nz (w:World) (b o:Nat) (cs:List aF) (dv:Nat->Value):Prop:=
 b<w/\∀k,k<cs.length->(∀j,j<6->w.cell? ⟨b,o+k*6+j,none⟩=(eu (af cs k) (dv k))[j]?)/\bC w (dv k) (af cs k).ds
def ba (w:World) (v:Value) (cs:List aF):Prop:=
 ∃ao c,v=.slice ao cs.length c/\(cs.length<=c/\c<=maxLen)/\(0<cs.length->∃b o dv,ao=some ⟨b,o,none⟩/\nz w b o cs dv)
def cQ (p:aj) (cv:Value):Value:=.agg #[p.nm,(p.pr:Int),cv]
def oZ (w:World) (b o:Nat) (ps:List aj) (cv:Nat->Value):Prop:=
 b<w/\∀k,k<ps.length->(w.cell? ⟨b,o+k*3,none⟩=some (.string (aS ps k).nm)/\w.cell? ⟨b,o+k*3+1,none⟩=some (.int .i64 (aS ps k).pr)/\w.cell? ⟨b,o+k*3+2,none⟩=some (cv k))/\ba w (cv k) (aS ps k).cs
def iz (w:World) (v:Value) (ps:List aj):Prop:=
 ∃ao c,v=.slice ao ps.length c/\ps.length<=maxLen/\(0<ps.length->∃b o cv,ao=some ⟨b,o,none⟩/\oZ w b o ps cv)
theorem bC.below{ds:List ak}(h:bC w v ds)(a:Bw w w'):bC w' v ds:=by
 obtain⟨f,c,d,m,l⟩:=h;refine⟨f,c,d,m,λg=>?_⟩;obtain⟨b,o,j,Ha,e⟩:=l g;refine⟨b,o,j,Q1 Ha a.size,λk n=>?_⟩;obtain⟨i,q⟩:=e k n;exact⟨(a.cell (p:=⟨b,o+k*2,none⟩) Ha).trans i,(a.cell (p:=⟨b,o+k*2+1,none⟩) Ha).trans q⟩
theorem nz.below{cs:List aF}(h:nz w b o cs dv)(a:Bw w w'):nz w' b o cs dv:=
 ⟨Q1 h.1 a.size,λk c=>⟨λj d=>(a.cell (p:=⟨b,o+k*6+j,none⟩) h.1).trans ((h.2 k c).1 j d),(h.2 k c).2.below a⟩⟩
theorem ba.below{cs:List aF}(h:ba w v cs)(d:Bw w w'):ba w' v cs:=by
 obtain⟨f,c,a,k,j⟩:=h;refine⟨f,c,a,k,λg=>?_⟩;obtain⟨b,o,dv,i,e⟩:=j g;exact⟨b,o,dv,i,e.below d⟩
theorem oZ.below{c:List aj}{cv:Nat->Value}(h:oZ w b o c cv)(a:Bw w w'):oZ w' b o c cv:=
 ⟨Q1 h.1 a.size,λk g=>by
  obtain⟨⟨e,i,d⟩,f⟩:=h.2 k g;exact⟨⟨(a.cell (p:=⟨b,o+k*3,none⟩) h.1).trans e,(a.cell (p:=⟨b,o+k*3+1,none⟩) h.1).trans i,(a.cell (p:=⟨b,o+k*3+2,none⟩) h.1).trans d⟩,f.below a⟩⟩
theorem iz.below{a:List aj}(h:iz w v a)(e:Bw w w'):iz w' v a:=by
 obtain⟨g,c,d,l,k⟩:=h;refine⟨g,c,d,l,λi=>?_⟩;obtain⟨b,o,dv,j,f⟩:=k i;exact⟨b,o,dv,j,f.below e⟩
theorem Bz(h:fB W v 2 oU):∃ds,bC W v ds:=by
 obtain⟨j,len,c,rfl,m,l⟩:=h
 by_cases i:len=0
 ·subst i;exact⟨[],j,c,rfl,by simp,λh=>by simp at h⟩
 ·obtain⟨b,o,rfl,Hc,g⟩:=l (by omega);obtain⟨f,hf⟩:=Deep.choose_lt (α:=ak) (n:=len) (p:=λk d=>W.cell? ⟨b,o+k*2,none⟩=some (.string d.kind)/\W.cell? ⟨b,o+k*2+1,none⟩=some (.int .i64 d.many)) (λk a=>by
   obtain⟨cs,_,Hb,s,x,rfl⟩:=g k a;exact⟨⟨s,x⟩,Hb 0 (by decide),Hb 1 (by decide)⟩)
  refine⟨(List.range len).map f,_,c,by simp,by simpa using m,λ_=>⟨b,o,rfl,Hc,λk a=>?_⟩⟩;have Ha:k<len:=by simpa using a
  have e:ar ((List.range len).map f) k=f k:=by simp[ar,Ha]
  rw[e];exact hf k Ha
def wQ (v:Value):Prop:=∃ao len c,v=.slice ao len c/\len<=c/\c<=maxLen
theorem Kk{H:Type}{enc:TypeId × Value->H}{P:Program}{t e:TypeId}{b:Nat}{x:DataW H × List MemPlace}(g:P.underlying t=some (.slice e))(h:DataW.trod enc P W 0 (λ_=>true) true b t [v]=some x):wQ v:=by
 rcases Deep.open_slice g h with⟨Ha,_⟩|⟨a,len,c,m,n,D,i,Ha,_,d,f,Hb,_,j⟩
 ·simp at Ha
  subst Ha;exact⟨none,0,0,rfl,by omega,by omega⟩
 ·simp at Ha
  subst Ha;exact⟨_,len,c,rfl,d,f⟩
theorem Kl(h:fB W v 6 (lu W))(a:wQ v):∃cs,ba W v cs:=by
 obtain⟨r,len,c,rfl,x,s⟩:=h;obtain⟨_,_,_,q,He,Ha⟩:=a;cases q
 by_cases l:len=0
 ·subst l;exact⟨[],r,c,rfl,⟨by simp,Ha⟩,λh=>by simp at h⟩
 ·obtain⟨b,o,rfl,Hc,i⟩:=s (by omega);obtain⟨f,hf⟩:=Deep.choose_lt (α:=aF × Value) (n:=len) (p:=λk d=>(∀j,j<6->W.cell? ⟨b,o+k*6+j,none⟩=(eu d.1 d.2)[j]?)/\bC W d.2 d.1.ds) (λk g=>by
   obtain⟨cs,_,Hg,nm,t,m,w,u,dv,rfl,Hf⟩:=i k g;obtain⟨ds,Hh⟩:=Bz Hf;exact⟨⟨⟨nm,t,m,w,u,ds⟩,dv⟩,Hg,Hh⟩)
  refine⟨(List.range len).map λk=>(f k).1,_,c,by simp,⟨by simpa using He,Ha⟩,λ_=>⟨b,o,λk=>(f k).2,rfl,Hc,λk g=>?_⟩⟩;have Hb:k<len:=by simpa using g
  have e:af ((List.range len).map λk=>(f k).1) k=(f k).1:=by simp[af,Hb]
  rw[e];exact hf k Hb
def Km (W:World) (cs:List Value):Prop:=∃(nm:ByteArray) (pr:Int) (cv:Value),cs=[.string nm,.int .i64 pr,cv]/\fB W cv 6 (lu W)/\wQ cv
section
variable{H:Type}{enc:TypeId × Value->H}{W:World}
theorem Kn{n:Nat}{cs:List Value}{y:DataW H × List MemPlace}(b:cs.length=3)(h:DataW.trod enc prog W 0 (λ_=>true) true n 49 cs=some y):Km W cs:=by
 obtain⟨nm,pr,cv,rfl,a⟩:=Bj b h;obtain⟨_,_,c⟩:=cZ underlying49 h 2 2 A8 rfl;exact⟨nm,pr,cv,rfl,a,Kk underlying47 c⟩
theorem Ko{n:Nat}{cs:List Value}{y:DataW H × List MemPlace}(b:cs.length=3)(h:DataW.trod enc prog W 0 (λ_=>true) true n 49 cs=some y):∃(p:aj) (cv:Value),cs=[.string p.nm,.int .i64 p.pr,cv]/\ba W cv p.cs:=by
 obtain⟨nm,pr,cv,rfl,a,c⟩:=Kn b h;obtain⟨ds,Ha⟩:=Kl a c;exact⟨⟨nm,pr,ds⟩,cv,rfl,Ha⟩
theorem Kp{n:Nat}{v:Value}{y:DataW H × List MemPlace}(h:DataW.trod enc prog W 0 (λ_=>true) true n 50 [v]=some y):∃us,bC W v us:=
 Bz (oS underlying50 A6 (by decide) h λ_ _ _ a h=>Bb a h)
end
theorem nz.at{cs:List aF}(h:nz w b o cs dv)(c:k<cs.length) :
  w.cell? ⟨b,o+k*6,none⟩=some (.string (af cs k).nm)/\w.cell? ⟨b,o+k*6+1,none⟩=some (.int .i64 (af cs k).am)/\w.cell? ⟨b,o+k*6+2,none⟩=some (.int .i64 (af cs k).ab)/\w.cell? ⟨b,o+k*6+3,none⟩=some (.int .i64 (af cs k).cm)/\w.cell? ⟨b,o+k*6+4,none⟩=some (.int .i64 (af cs k).cb)/\w.cell? ⟨b,o+k*6+5,none⟩=some (dv k):=by
 have a:=(h.2 k c).1;exact⟨a 0 (by decide),a 1 (by decide),a 2 (by decide),a 3 (by decide),a 4 (by decide),a 5 (by decide)⟩
end
structure kz where
 path:ByteArray
 sh:Int
 qu:Int
 by':Int
def BB:kz:=⟨ByteArray.empty,0,0,0⟩
instance:Inhabited kz:=⟨BB⟩
theorem Ku{a:List aj}(h:k<a.length):a.take (k+1)=a.take k++[aS a k]:=by
 grind[List.take_add_one,aS]
