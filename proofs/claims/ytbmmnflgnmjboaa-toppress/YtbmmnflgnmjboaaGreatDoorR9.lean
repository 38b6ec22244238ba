import Derived.Test.YtbmmnflgnmjboaaGreatDoorR7
import Derived.Shelf.SlicesQ.IndexFunc
import Derived.Ground.SlgfProg
import Derived.Deep.RegionHeld3
import Derived.Laws.AppendOwn
set_option maxRecDepth 100000
set_option maxHeartbeats 16000000
open Go.Proofs.Tryz
namespace Go.Proofs.YtbmmnflgnmjboaaGreatDoor
section
namespace Qos
open Dvs (first aX cS)
structure Nd where
 kind:ByteArray
 many:Int
def nd0:Nd:=⟨ByteArray.empty,0⟩
structure Ct where
 nm:ByteArray
 am:Int
 ab:Int
 cm:Int
 cb:Int
 ds:List Nd
def ct0:Ct:=⟨ByteArray.empty,0,0,0,0,[]⟩
structure Pd where
 nm:ByteArray
 pr:Int
 cs:List Ct
def pd0:Pd:=⟨ByteArray.empty,0,[]⟩
instance:Inhabited Nd:=⟨nd0⟩
instance:Inhabited Ct:=⟨ct0⟩
instance:Inhabited Pd:=⟨pd0⟩
def nd (l:List Nd) (k:Nat):Nd:=l.getD k nd0
def ct (l:List Ct) (k:Nat):Ct:=l.getD k ct0
def pd (l:List Pd) (k:Nat):Pd:=l.getD k pd0
def leS (a b:ByteArray):Bool:=Op.bytesLess a.toList b.toList || a.toList == b.toList
def ee (ds:List Nd) (j:Nat):Nat:=
 if aX (nd ds j).kind=false\/(0<j/\leS (nd ds j).kind (nd ds (j - 1)).kind=true) then 3
 else if (nd ds j).many<1\/16<(nd ds j).many then 1 else 0
def dO (m b:Int):Bool:=decide (0<=m) && decide (m<=1000000) && decide (0<=b) && decide (b<=1125899906842624)
def over (a c:Int):Bool:=decide (c≠0) && decide (c<a)
def gF (cs:List Ct) (k:Nat):Bool:=(cs.take k).any λo=>decide (o.nm=(ct cs k).nm)
def bX (cs:List Ct) (k:Nat):Nat:=
 if aX (ct cs k).nm=false then 3
 else if gF cs k=true then 5
 else if dO (ct cs k).am (ct cs k).ab=false\/dO (ct cs k).cm (ct cs k).cb=false then 1
 else if over (ct cs k).am (ct cs k).cm=true\/over (ct cs k).ab (ct cs k).cb=true then 3
 else if 3<(ct cs k).ds.length then 2
 else first (ee (ct cs k).ds) (ct cs k).ds.length
def af (p:Pd):Nat:=
 if aX p.nm=false then 3
 else if p.pr<0\/1000<p.pr then 1
 else if p.cs.length<1\/3<p.cs.length then 2
 else first (bX p.cs) p.cs.length
def quiet (c:Ct):Bool:=decide (c.am=0) && decide (c.ab=0) && decide (c.cm=0) && decide (c.cb=0)
def sure (c:Ct):Bool:=decide (c.am=c.cm) && decide (c.ab=c.cb) && decide (c.am≠0) && decide (c.ab≠0)
def gG (cs:List Ct) (n:Nat):Bool:=cS (λk=>quiet (ct cs k)) n
def gH (cs:List Ct) (n:Nat):Bool:=cS (λk=>sure (ct cs k)) n
def ef (cs:List Ct):Int:=if gG cs cs.length=true then 1 else if gH cs cs.length=true then 3 else 2
def sumTo (f:Nat->Int):Nat->Int
 | 0=>0
 | k+1=>sumTo f k+f k
def aO (cs:List Ct) (n:Nat):Int:=sumTo (λk=>(ct cs k).am) n
def aP (cs:List Ct) (n:Nat):Int:=sumTo (λk=>(ct cs k).ab) n
def aA (cs:List Ct) (m:Int):Int:=if ef cs=3/\m % 1000=0 then m / 1000 else 0
def bU (cs:List Ct):Prop:=cs.length<=3/\∀ k,k<cs.length->(0<=(ct cs k).am/\(ct cs k).am<=1000000)/\(0<=(ct cs k).ab/\(ct cs k).ab<=1125899906842624)/\(0<=(ct cs k).cm/\(ct cs k).cm<=1000000)/\(0<=(ct cs k).cb/\(ct cs k).cb<=1125899906842624)/\((ct cs k).cm≠0->(ct cs k).am<=(ct cs k).cm)/\((ct cs k).cb≠0->(ct cs k).ab<=(ct cs k).cb)
theorem oq {m b:Int} (h:dO m b=true):(0<=m/\m<=1000000)/\(0<=b/\b<=1125899906842624):=by
 simp [dO] at h;omega
theorem vj {cs:List Ct} {k:Nat} (h:bX cs k=0):dO (ct cs k).am (ct cs k).ab=true/\dO (ct cs k).cm (ct cs k).cb=true/\over (ct cs k).am (ct cs k).cm=false/\over (ct cs k).ab (ct cs k).cb=false:=by
 unfold bX at h
 split at h
 ·cases h
 split at h
 ·cases h
 split at h
 ·cases h
 split at h
 ·cases h
 ·rename_i h1 h2
  rw [not_or] at h1 h2;exact ⟨by simpa using h1.1,by simpa using h1.2,by simpa using h2.1,by simpa using h2.2⟩
theorem mh {p:Pd} (h:af p=0):aX p.nm=true/\(0<=p.pr/\p.pr<=1000)/\(1<=p.cs.length/\p.cs.length<=3)/\first (bX p.cs) p.cs.length=0:=by
 unfold af at h
 split at h
 ·cases h
 split at h
 ·cases h
 split at h
 ·cases h
 ·rename_i h1 h2 h3
  exact ⟨by simpa using h1,by omega,by omega,h⟩
theorem ju {p:Pd} (h:af p=0):bU p.cs:=by
 obtain ⟨_,_,⟨_,h3⟩,hf⟩:=mh h;refine ⟨h3,λk hk=>?_⟩;obtain ⟨h1,h2,h4,h5⟩:=vj (Dvs.cR hf k hk);obtain ⟨a1,a2⟩:=oq h1;obtain ⟨a3,a4⟩:=oq h2;refine ⟨a1,a2,a3,a4,?_,?_⟩
 ·intro h0
  simp [over,h0] at h4
  exact h4
 ·intro h0
  simp [over,h0] at h5
  exact h5
theorem Ed:bU []:=⟨by simp,λk hk=>by simp at hk⟩
theorem sumTo_le {f g:Nat->Int} {n:Nat} (h:∀ k,k<n->f k<=g k):sumTo f n<=sumTo g n:=by
 induction n with
 | zero=>exact Int.le_refl _
 | succ n ih=>
  have h1:=ih λk hk=>h k (by omega);have h2:=h n (by omega);simp only [sumTo];omega
theorem vk {f:Nat->Int} {n:Nat} (h:∀ k,k<n->0<=f k):0<=sumTo f n:=by
 induction n with
 | zero=>exact Int.le_refl _
 | succ n ih=>
  have h1:=ih λk hk=>h k (by omega);have h2:=h n (by omega);simp only [sumTo];omega
theorem vl {f:Nat->Int} {n:Nat} {B:Int} (h:∀ k,k<n->f k<=B):sumTo f n<=n*B:=by
 induction n with
 | zero=>simp [sumTo]
 | succ n ih=>
  have h1:=ih λk hk=>h k (by omega);have h2:=h n (by omega);simp only [sumTo];have e:((n+1:Nat):Int)*B=n*B+B:=by rw [Int.natCast_add,Int.add_mul];simp
  omega
theorem kV {cs:List Ct} (hm:bU cs) {n:Nat} (hn:n<=cs.length):0<=aO cs n/\aO cs n<=3000000:=by
 have h1:=vk (f:=λk=>(ct cs k).am) (n:=n) λk hk=>(hm.2 k (by omega)).1.1;have h2:=vl (f:=λk=>(ct cs k).am) (n:=n) (B:=1000000) λk hk=>(hm.2 k (by omega)).1.2
 have:=hm.1
 unfold aO;omega
theorem j8 {cs:List Ct} (hm:bU cs) {n:Nat} (hn:n<=cs.length):0<=aP cs n/\aP cs n<=3377699720527872:=by
 have h1:=vk (f:=λk=>(ct cs k).ab) (n:=n) λk hk=>(hm.2 k (by omega)).2.1.1;have h2:=vl (f:=λk=>(ct cs k).ab) (n:=n) (B:=1125899906842624) λk hk=>(hm.2 k (by omega)).2.1.2
 have:=hm.1
 unfold aP;omega
def lastOf (ds:List Nd) (k:Nat):ByteArray:=if k=0 then ByteArray.empty else (nd ds (k - 1)).kind
theorem Ee (ds:List Nd) (k:Nat):lastOf ds (k+1)=(nd ds k).kind:=by simp [lastOf]
theorem Ef {s:ByteArray} (h:aX s=true):leS s ByteArray.empty=false:=by
 unfold aX at h;have h0:0<s.size:=by
  simp at h;omega
 have h1:s.toList≠[]:=by
  intro e;rw [Qs] at e
  have:s.data.toList.length=0:=by rw [e];rfl
  rw [Array.length_toList] at this;have h2:s.data.size=s.size:=rfl;omega
 unfold leS;rw [show ByteArray.empty.toList=[] by rw [Qs];rfl];cases hs:s.toList with
 | nil=>exact absurd hs h1
 | cons a l=>simp [Op.bytesLess]
theorem Eg {ds:List Nd} {k:Nat} (h:aX (nd ds k).kind=false):ee ds k=3:=by unfold ee;rw [if_pos (.inl h)]
theorem Eh {ds:List Nd} {k:Nat} (h:aX (nd ds k).kind=true) (h2:leS (nd ds k).kind (lastOf ds k)=true):ee ds k=3:=by
 unfold ee
 by_cases h0:k=0
 ·subst h0;rw [show lastOf ds 0=ByteArray.empty from rfl,Ef h] at h2;cases h2
 ·rw [lastOf,if_neg h0] at h2;rw [if_pos (.inr ⟨by omega,h2⟩)]
theorem Ei {ds:List Nd} {k:Nat} (h:aX (nd ds k).kind=true) (h2:leS (nd ds k).kind (lastOf ds k)=false):ee ds k=if (nd ds k).many<1\/16<(nd ds k).many then 1 else 0:=by
 unfold ee;rw [if_neg];rintro (h3|⟨h3,h4⟩)
 ·rw [h] at h3;cases h3
 ·rw [lastOf,if_neg (by omega)] at h2;rw [h2] at h4;cases h4
end Qos
end
section
open Go.ChangeShapes Go.WideShapes Go.ChangeAt Go.RowKit
open Qos (Nd Ct Pd nd0 ct0 pd0 nd ct pd)
def be (w:World) (v:Value) (ds:List Nd):Prop:=
 ∃ ao c,v=.slice ao ds.length c/\ds.length<=maxLen/\(0<ds.length->∃ b o,ao=some ⟨b,o,none⟩/\b<w.heap.size/\∀ k,k<ds.length->w.cell? ⟨b,o+k*2,none⟩=some (.string (nd ds k).kind)/\w.cell? ⟨b,o+k*2+1,none⟩=some (.int .i64 (nd ds k).many))
def cH (c:Ct) (dv:Value):List Value:=[.string c.nm,.int .i64 c.am,.int .i64 c.ab,.int .i64 c.cm,.int .i64 c.cb,dv]
def jv (w:World) (b o:Nat) (cs:List Ct) (dv:Nat->Value):Prop:=
 b<w.heap.size/\∀ k,k<cs.length->(∀ j,j<6->w.cell? ⟨b,o+k*6+j,none⟩=(cH (ct cs k) (dv k))[j]?)/\be w (dv k) (ct cs k).ds
def aE (w:World) (v:Value) (cs:List Ct):Prop:=
 ∃ ao c,v=.slice ao cs.length c/\(cs.length<=c/\c<=maxLen)/\(0<cs.length->∃ b o dv,ao=some ⟨b,o,none⟩/\jv w b o cs dv)
def bG (p:Pd) (cv:Value):Value:=.agg #[.string p.nm,.int .i64 p.pr,cv]
def j9 (w:World) (b o:Nat) (ps:List Pd) (cv:Nat->Value):Prop:=
 b<w.heap.size/\∀ k,k<ps.length->(w.cell? ⟨b,o+k*3,none⟩=some (.string (pd ps k).nm)/\w.cell? ⟨b,o+k*3+1,none⟩=some (.int .i64 (pd ps k).pr)/\w.cell? ⟨b,o+k*3+2,none⟩=some (cv k))/\aE w (cv k) (pd ps k).cs
def du (w:World) (v:Value) (ps:List Pd):Prop:=
 ∃ ao c,v=.slice ao ps.length c/\ps.length<=maxLen/\(0<ps.length->∃ b o cv,ao=some ⟨b,o,none⟩/\j9 w b o ps cv)
theorem be.below {w w':World} {v:Value} {ds:List Nd} (h:be w v ds) (hb:Below w.heap.size w w'):be w' v ds:=by
 obtain ⟨ao,c,hv,hm,hr⟩:=h;refine ⟨ao,c,hv,hm,λh0=>?_⟩;obtain ⟨b,o,ha,Ha,hc⟩:=hr h0;refine ⟨b,o,ha,Q1 Ha hb.size,λk hk=>?_⟩;obtain ⟨h1,h2⟩:=hc k hk;exact ⟨(hb.cell (p:=⟨b,o+k*2,none⟩) Ha).trans h1,(hb.cell (p:=⟨b,o+k*2+1,none⟩) Ha).trans h2⟩
theorem jv.below {w w':World} {b o:Nat} {cs:List Ct} {dv:Nat->Value} (h:jv w b o cs dv) (hb:Below w.heap.size w w'):jv w' b o cs dv:=
 ⟨Q1 h.1 hb.size,λk hk=>⟨λj hj=>(hb.cell (p:=⟨b,o+k*6+j,none⟩) h.1).trans ((h.2 k hk).1 j hj),(h.2 k hk).2.below hb⟩⟩
theorem aE.below {w w':World} {v:Value} {cs:List Ct} (h:aE w v cs) (hb:Below w.heap.size w w'):aE w' v cs:=by
 obtain ⟨ao,c,hv,hm,hr⟩:=h;refine ⟨ao,c,hv,hm,λh0=>?_⟩;obtain ⟨b,o,dv,ha,hc⟩:=hr h0;exact ⟨b,o,dv,ha,hc.below hb⟩
theorem j9.below {w w':World} {b o:Nat} {ps:List Pd} {cv:Nat->Value} (h:j9 w b o ps cv) (hb:Below w.heap.size w w'):j9 w' b o ps cv:=
 ⟨Q1 h.1 hb.size,λk hk=>by
  obtain ⟨⟨h1,h2,h3⟩,h4⟩:=h.2 k hk;exact ⟨⟨(hb.cell (p:=⟨b,o+k*3,none⟩) h.1).trans h1,(hb.cell (p:=⟨b,o+k*3+1,none⟩) h.1).trans h2,(hb.cell (p:=⟨b,o+k*3+2,none⟩) h.1).trans h3⟩,h4.below hb⟩⟩
theorem du.below {w w':World} {v:Value} {ps:List Pd} (h:du w v ps) (hb:Below w.heap.size w w'):du w' v ps:=by
 obtain ⟨ao,c,hv,hm,hr⟩:=h;refine ⟨ao,c,hv,hm,λh0=>?_⟩;obtain ⟨b,o,dv,ha,hc⟩:=hr h0;exact ⟨b,o,dv,ha,hc.below hb⟩
theorem vm {W:World} {v:Value} (h:eM W v 2 kT):∃ ds,be W v ds:=by
 obtain ⟨ao,len,c,rfl,hm,hr⟩:=h
 by_cases h0:len=0
 ·subst h0;exact ⟨[],ao,c,rfl,by simp,λh=>by simp at h⟩
 ·obtain ⟨b,o,rfl,Hc,hc⟩:=hr (by omega);obtain ⟨f,hf⟩:=Deep.choose_lt (α:=Nd) (n:=len) (p:=λk d=>W.cell? ⟨b,o+k*2,none⟩=some (.string d.kind)/\W.cell? ⟨b,o+k*2+1,none⟩=some (.int .i64 d.many)) (λk hk=>by
   obtain ⟨cs,_,Ha,s,x,rfl⟩:=hc k hk;exact ⟨⟨s,x⟩,Ha 0 (by decide),Ha 1 (by decide)⟩)
  refine ⟨(List.range len).map f,_,c,by simp,by simpa using hm,λ_=>⟨b,o,rfl,Hc,λk hk=>?_⟩⟩;have Hb:k<len:=by simpa using hk
  have e:nd ((List.range len).map f) k=f k:=by simp [nd,Hb]
  rw [e];exact hf k Hb
def qF (v:Value):Prop:=∃ ao len c,v=.slice ao len c/\len<=c/\c<=maxLen
theorem Ej {H:Type} {enc:TypeId × Value->H} {P:Program} {W:World} {t e:TypeId} {fuel:Nat} {v:Value} {x:DataW H × List MemPlace} (ht:P.underlying t=some (.slice e)) (h:DataW.trod enc P W 0 (λ_=>true) true fuel t [v]=some x):qF v:=by
 rcases Deep.open_slice ht h with ⟨Ha,_⟩|⟨a,len,cap,m,n,D,Pl,Ha,_,hl,hm,Hb,_,hx⟩
 ·simp at Ha
  subst Ha;exact ⟨none,0,0,rfl,by omega,by omega⟩
 ·simp at Ha
  subst Ha;exact ⟨_,len,cap,rfl,hl,hm⟩
theorem Ek {W:World} {v:Value} (h:eM W v 6 (iG W)) (hcap:qF v):∃ cs,aE W v cs:=by
 obtain ⟨ao,len,c,rfl,hm,hr⟩:=h;obtain ⟨_,_,_,hv,Hh,Hb⟩:=hcap;cases hv
 by_cases h0:len=0
 ·subst h0;exact ⟨[],ao,c,rfl,⟨by simp,Hb⟩,λh=>by simp at h⟩
 ·obtain ⟨b,o,rfl,Hf,hc⟩:=hr (by omega);obtain ⟨f,hf⟩:=Deep.choose_lt (α:=Ct × Value) (n:=len) (p:=λk d=>(∀ j,j<6->W.cell? ⟨b,o+k*6+j,none⟩=(cH d.1 d.2)[j]?)/\be W d.2 d.1.ds) (λk hk=>by
   obtain ⟨cs,_,Hc,nm,x1,x2,x3,x4,dv,rfl,Hg⟩:=hc k hk;obtain ⟨ds,He⟩:=vm Hg;exact ⟨⟨⟨nm,x1,x2,x3,x4,ds⟩,dv⟩,Hc,He⟩)
  refine ⟨(List.range len).map λk=>(f k).1,_,c,by simp,⟨by simpa using Hh,Hb⟩,λ_=>⟨b,o,λk=>(f k).2,rfl,Hf,λk hk=>?_⟩⟩;have Ha:k<len:=by simpa using hk
  have e:ct ((List.range len).map λk=>(f k).1) k=(f k).1:=by simp [ct,Ha]
  rw [e];exact hf k Ha
def vo (W:World) (cs:List Value):Prop:=∃ (nm:ByteArray) (pr:Int) (cv:Value),cs=[.string nm,.int .i64 pr,cv]/\eM W cv 6 (iG W)/\qF cv
theorem El {W:World} {v:Value} (h:eM W v 3 (vo W)):∃ ps,du W v ps:=by
 obtain ⟨ao,len,c,rfl,hm,hr⟩:=h
 by_cases h0:len=0
 ·subst h0;exact ⟨[],ao,c,rfl,by simp,λh=>by simp at h⟩
 ·obtain ⟨b,o,rfl,Hg,hc⟩:=hr (by omega);obtain ⟨f,hf⟩:=Deep.choose_lt (α:=Pd × Value) (n:=len) (p:=λk d=>(W.cell? ⟨b,o+k*3,none⟩=some (.string d.1.nm)/\W.cell? ⟨b,o+k*3+1,none⟩=some (.int .i64 d.1.pr)/\W.cell? ⟨b,o+k*3+2,none⟩=some d.2)/\aE W d.2 d.1.cs) (λk hk=>by
   obtain ⟨cs,_,Hb,nm,pr,cv,rfl,Hf,Ha⟩:=hc k hk;obtain ⟨ds,He⟩:=Ek Hf Ha;exact ⟨⟨⟨nm,pr,ds⟩,cv⟩,⟨Hb 0 (by decide),Hb 1 (by decide),Hb 2 (by decide)⟩,He⟩)
  refine ⟨(List.range len).map λk=>(f k).1,_,c,by simp,by simpa using hm,λ_=>⟨b,o,λk=>(f k).2,rfl,Hg,λk hk=>?_⟩⟩;have Hc:k<len:=by simpa using hk
  have e:pd ((List.range len).map λk=>(f k).1) k=(f k).1:=by simp [pd,Hc]
  rw [e];exact hf k Hc
section
variable {H:Type} {enc:TypeId × Value->H} {W:World}
theorem Em {n:Nat} {cs:List Value} {y:DataW H × List MemPlace} (hl:cs.length=3) (h:DataW.trod enc prog W 0 (λ_=>true) true n 47 cs=some y):vo W cs:=by
 obtain ⟨nm,pr,cv,rfl,h1⟩:=CR hl h;obtain ⟨_,_,h2⟩:=cT underlying47 h 2 45 2 _ uA rfl;exact ⟨nm,pr,cv,rfl,h1,Ej underlying45 h2⟩
theorem En {n:Nat} {v:Value} {y:DataW H × List MemPlace} (h:DataW.trod enc prog W 0 (λ_=>true) true n 70 [v]=some y):∃ ps,du W v ps:=
 El (l6 underlying70 CK (by decide) h λ_ _ _ hl h=>Em hl h)
theorem Eo {n:Nat} {v:Value} {y:DataW H × List MemPlace} (h:DataW.trod enc prog W 0 (λ_=>true) true n 48 [v]=some y):∃ us,be W v us:=
 vm (l6 underlying48 CI (by decide) h λ_ _ _ hl h=>CP hl h)
end
theorem jv.at {w:World} {b o:Nat} {cs:List Ct} {dv:Nat->Value} (h:jv w b o cs dv) {k:Nat} (hk:k<cs.length) :
  w.cell? ⟨b,o+k*6,none⟩=some (.string (ct cs k).nm)/\w.cell? ⟨b,o+k*6+1,none⟩=some (.int .i64 (ct cs k).am)/\w.cell? ⟨b,o+k*6+2,none⟩=some (.int .i64 (ct cs k).ab)/\w.cell? ⟨b,o+k*6+3,none⟩=some (.int .i64 (ct cs k).cm)/\w.cell? ⟨b,o+k*6+4,none⟩=some (.int .i64 (ct cs k).cb)/\w.cell? ⟨b,o+k*6+5,none⟩=some (dv k):=by
 have hc:=(h.2 k hk).1;exact ⟨hc 0 (by decide),hc 1 (by decide),hc 2 (by decide),hc 3 (by decide),hc 4 (by decide),hc 5 (by decide)⟩
end
section
open RowKit
open Qos (Nd Ct Pd nd0 ct0 pd0 nd ct pd ee bX af dO over gF leS)
open Dvs (aX first)
theorem jw (n a b:Int) (w:World):Calls prog 47 #[.int .i64 n,.int .i64 a,.int .i64 b] w λe w'=>e=.returned (.bool (decide (a<=n) && decide (n<=b)))/\w'=w:=by
 by_cases h1:a<=n
 ·go_enter func47,ntmps47
  go_wp2
  go_ret;exact ⟨by simp [h1],rfl⟩
 ·have h2:n<a:=by omega
  have h3:decide (a<=n)=false:=Q7 h1;rw [h3];clear h1
  go_enter func47,ntmps47
  go_wp2
  go_ret;exact ⟨by simp,rfl⟩
theorem vp (a c:Int) (w:World):Calls prog 89 #[.int .i64 a,.int .i64 c] w λe w'=>e=.returned (.bool (over a c))/\w'=w:=by
 unfold over
 by_cases h1:c=0
 ·subst h1
  go_enter func89,ntmps89
  go_wp2
  go_ret;exact ⟨by simp,rfl⟩
 ·go_enter func89,ntmps89
  go_wp2
  go_ret;exact ⟨by simp [h1],rfl⟩
theorem vq (m b:Int) (w:World):Calls prog 88 #[.agg #[.int .i64 m,.int .i64 b]] w λe w'=>e=.returned (.bool (dO m b))/\Below w.heap.size w w':=by
 unfold dO
 go_enter func88,ntmps88
 go_wp2_with fail
 refine (jw _ _ _ _).mono ?_;rintro e w1 ⟨rfl,rfl⟩
 rcases two (decide (0<=m) && decide (m<=1000000)) with e1|e1
 ·rw [e1]
  go_wp2_with fail
  refine (jw _ _ _ _).mono ?_;rintro e w1 ⟨rfl,rfl⟩
  go_wp2
  go_ret;refine ⟨?_,(Q0 w.heap.size w).alloc (lR) _⟩;rw [e1]
  simp
 ·rw [e1]
  go_wp2
  go_ret;refine ⟨?_,(Q0 w.heap.size w).alloc (lR) _⟩;rw [e1];rfl
theorem Ep (v:Value) (ds:List Nd) (w:World) (h:be w v ds):Calls prog 90 #[v] w λe w'=>e=.returned (au (if 3<ds.length then (2:Nat) else first (ee ds) ds.length:Nat))/\Below w.heap.size w w':=by
 obtain ⟨ao,c,rfl,hm,hr⟩:=h;clear hm;have HR:=qI hr;clear hr
 by_cases h3:3<ds.length
 ·rw [if_pos h3]
  go_enter func90,ntmps90
  go_wp2
  go_ret;exact ⟨rfl,Q0 _ _⟩
 rw [if_neg h3];have Hg:ds.length<=3:=by omega
 clear h3;have hd:decide (3<(ds.length:Int))=false:=Q7 (by omega)
 go_enter func90,ntmps90
 go_wp2
 go_loopw [3,12] (λla i wr=>∃ k:Nat,k<=ds.length/\i=.int .i64 k/\la=.string (Qos.lastOf ds k)/\Below w.heap.size w wr/\Hid (first (ee ds) k=0)) (λ_ i _=>ds.length - (intOf i).toNat)
 case atStart=>exact ⟨0,by omega,rfl,rfl,Q0 _ _,rfl⟩
 case round=>
  obtain ⟨k,hk,rfl,rfl,hB,HF⟩:=hrel
  by_cases hlt:k<ds.length
  ·obtain ⟨b,o,rfl,Hc,Hb⟩:=HR.out (by omega);obtain ⟨g0,g1⟩:=Hb k hlt;have c0:=(hB.cell (p:=⟨b,o+k*2,none⟩) Hc).trans g0;have c1:=(hB.cell (p:=⟨b,o+k*2+1,none⟩) Hc).trans g1;have HN:=qI (@Qos.Eg ds k);have HL:=qI (@Qos.Eh ds k);have HM:=qI (@Qos.Ei ds k);have HS:=qI (Qos.Ee ds k);have Ha:=qI (hB.alloc hB.size (.cells #[.string (nd ds k).kind,.int .i64 (nd ds k).many] 109));clear g0 g1 Hb hB;have HX:Hid (∃ la,la=Qos.lastOf ds k):=⟨_,rfl⟩;generalize Qos.lastOf ds k=la at *;generalize nd ds k=x at *
   rcases two (aX x.kind) with hn|hn
   ·rcases two (leS x.kind la) with hl|hl
    ·have he:=HL.out hn hl;have HA:=qI (Dvs.iF HF.out (by rw [he];decide) hlt);have He:(Op.bytesLess x.kind.toList la.toList || x.kind.toList == la.toList)=true:=hl
     go_wp2_with fail
     refine (fA _ _).mono ?_;rintro e w1 ⟨rfl,rfl⟩;rw [hn]
     go_wp2
     go_ret;exact ⟨by rw [HA.out,he];rfl,Ha.out⟩
    ·have he:=HM.out hn hl;have He:(Op.bytesLess x.kind.toList la.toList || x.kind.toList == la.toList)=false:=hl
     go_wp2_with fail
     refine (fA _ _).mono ?_;rintro e w1 ⟨rfl,rfl⟩;rw [hn]
     go_wp2_with fail
     refine (jw _ _ _ _).mono ?_;rintro e w1 ⟨rfl,rfl⟩
     by_cases hm:x.many<1\/16<x.many
     ·rw [if_pos hm] at he;have HA:=qI (Dvs.iF HF.out (by rw [he];decide) hlt);rw [show (decide (1<=x.many) && decide (x.many<=16))=false by simp;omega]
      go_wp2
      go_ret;exact ⟨by rw [HA.out,he];rfl,Ha.out⟩
     ·rw [if_neg hm] at he;rw [show (decide (1<=x.many) && decide (x.many<=16))=true by simp;omega]
      go_wp2
      go_roundw
      case rel=>exact ⟨k+1,by omega,by go_num,by rw [HS.out],Ha.out,Dvs.jo HF.out he⟩
      case measure=>simp [intOf];omega
   ·have he:=HN.out hn;have HA:=qI (Dvs.iF HF.out (by rw [he];decide) hlt)
    go_wp2_with fail
    refine (fA _ _).mono ?_;rintro e w1 ⟨rfl,rfl⟩;rw [hn]
    go_wp2
    go_ret;exact ⟨by rw [HA.out,he];rfl,Ha.out⟩
  ·have Hf:k=ds.length:=by omega
   subst Hf;have Ha:=qI hB;clear hB
   go_wp2
   go_ret;exact ⟨by rw [HF.out];rfl,Ha.out⟩
end
section
namespace Qos
open Dvs (first aX cS)
def shares (m:Int):Int:=min (max (m*1024 / 1000) 2) 262144
def ml (m:Int):Int:=if m=0 then -1 else max (m*100) 1000
structure Gp where
 path:ByteArray
 sh:Int
 qu:Int
 by':Int
def gp0:Gp:=⟨ByteArray.empty,0,0,0⟩
instance:Inhabited Gp:=⟨gp0⟩
def gp (l:List Gp) (k:Nat):Gp:=l.getD k gp0
def lim (f:Ct->Int) (cs:List Ct):Int:=if cS (λk=>decide (f (ct cs k)≠0)) cs.length=true then sumTo (λk=>f (ct cs k)) cs.length else 0
structure Words where
 low:ByteArray
 mid:ByteArray
 sep:ByteArray
 lowAll:ByteArray
 midAll:ByteArray
def pathOf (W:Words) (p:Pd):ByteArray:=if ef p.cs=1 then W.low++p.nm else if ef p.cs=2 then W.mid++p.nm else W.sep++p.nm
def qG (W:Words) (p:Pd):Gp:=⟨pathOf W p,shares (aO p.cs p.cs.length),ml (lim Ct.cm p.cs),lim Ct.cb p.cs⟩
def qH (W:Words) (p:Pd) (c:Ct):Gp:=⟨pathOf W p++W.sep++c.nm,shares c.am,ml c.cm,c.cb⟩
def vr (W:Words) (p:Pd):List Gp:=qG W p :: p.cs.map (qH W p)
def vt (p:Pd):Int:=if ef p.cs=2 then aO p.cs p.cs.length else 0
def vu (ps:List Pd) (n:Nat):Int:=sumTo (λk=>vt (pd ps k)) n
def vw (W:Words) (ps:List Pd):List Gp:=[⟨W.midAll,shares (vu ps ps.length),-1,0⟩,⟨W.lowAll,2,-1,0⟩]
def ot (W:Words) (ps:List Pd) (k:Nat):List Gp:=vw W ps++(ps.take k).flatMap (vr W)
def groups (W:Words) (ps:List Pd):List Gp:=ot W ps ps.length
def within (W:Words) (ps:List Pd) (k j:Nat):List Gp:=ot W ps k++qG W (pd ps k) :: ((pd ps k).cs.take j).map (qH W (pd ps k))
theorem Er {ps:List Pd} {k:Nat} (h:k<ps.length):ps.take (k+1)=ps.take k++[pd ps k]:=by
 rw [List.take_add_one,pd,List.getD_eq_getElem?_getD,Qf h];rfl
end Qos
end
end Go.Proofs.YtbmmnflgnmjboaaGreatDoor
namespace Go.Proofs
open Go.Shelf
shelf_lay_g SlLaysH0.n8 Slgf 8 at Tryz 86 as Tryz.contL
end Go.Proofs
namespace Go.Proofs.YtbmmnflgnmjboaaGreatDoor
section
open RowKit
open Qos (Nd Ct Pd nd0 ct0 pd0 nd ct pd ee bX af dO over gF leS)
open Dvs (aX first)
instance:Inhabited (Ct × Value):=⟨⟨ct0,.nilIface⟩⟩
theorem kW (a b:ByteArray):(a.toList == b.toList)=decide (a=b):=by
 rw [Bool.eq_iff_iff,beq_iff_eq,decide_eq_true_iff,Qs,Qs];exact ⟨λh=>ByteArray.ext (Array.toList_inj.mp h),λh=>by rw [h]⟩
theorem Es (nm:ByteArray) (B:Nat) (w:World) (hB:B<w.heap.size) (hcell:w.cell? ⟨B,0,none⟩=some (.string nm)) :
  PredBelow prog 87 #[.pointer (some ⟨B,0,none⟩)] (λx:Ct × Value=>.agg (cH x.1 x.2).toArray) (λx=>decide (x.1.nm=nm)) w:=λW x hb=>by
 have hc:W.cell? ⟨B,0,none⟩=some (.string nm):=(hb.cell (p:=⟨B,0,none⟩) hB).trans hcell;have Ha:B<W.heap.size:=Q1 hB hb.size;have Hb:B≠W.heap.size:=by omega
 obtain ⟨x,dv⟩:=x;have HX:=qI (kW x.nm nm)
 show Calls prog 87 #[.agg #[.string x.nm,.int .i64 x.am,.int .i64 x.ab,.int .i64 x.cm,.int .i64 x.cb,dv],.pointer (some ⟨B,0,none⟩)] W _
 show Calls prog 87 _ W λe w'=>e=.returned (.bool (decide (x.nm=nm)))/\Below w.heap.size w w'
 rw [<- HX.out];have HB:=qI (hb.alloc hb.size (.cells #[.string x.nm,.int .i64 x.am,.int .i64 x.ab,.int .i64 x.cm,.int .i64 x.cb,dv] 63));clear hb
 go_enter func87,ntmps87
 go_wp2
 go_ret;exact ⟨rfl,HB.out⟩
theorem Et (cs:List Ct) (dv:Nat->Value) (k:Nat) (q:Ct->Bool):((((List.range cs.length).map λj=>(ct cs j,dv j)).take k).any λx=>q x.1)=(cs.take k).any q:=by
 have e:((List.range cs.length).map λj=>(ct cs j,dv j)).map Prod.fst=cs:=by
  rw [List.map_map];apply List.ext_getElem
  ·simp
  ·intro i h1 h2
   simp [ct,h2]
 have h:(cs.take k)=(((List.range cs.length).map λj=>(ct cs j,dv j)).take k).map Prod.fst:=by rw [List.map_take,e]
 rw [h,List.any_map];rfl
theorem Eu (b o c B k:Nat) (cs:List Ct) (dv:Nat->Value) (w:World) (h:jv w b o cs dv) (hk:k<cs.length) (hl:cs.length<=maxLen) (hB:B<w.heap.size) (hcell:w.cell? ⟨B,0,none⟩=some (.string (ct cs k).nm)) :
  Calls prog 86 #[.slice (some ⟨b,o,none⟩) k c,.func (.func 87) #[] #[.pointer (some ⟨B,0,none⟩)]] w λe w'=>e=.returned (.bool (gF cs k))/\Below w.heap.size w w':=by
 have eg:∀ args w,(callFunc 87 args).run prog w=.ok (.enter 87 args) w:=enters_of func87 (by kernel_rfl) rfl;have Ha:=AnyQ.slices_ContainsFunc Tryz.contL 6 isAgg63 sizeOf63 (λx:Ct × Value=>cH x.1 x.2) (λ_=>rfl) (λx=>decide (x.1.nm=(ct cs k).nm)) 87 #[.pointer (some ⟨B,0,none⟩)] eg b o k c ((List.range cs.length).map λj=>(ct cs j,dv j)) w
  (Es (ct cs k).nm B w hB hcell) (by simp;omega) (by unfold maxLen at hl;omega) h.1 (λj hj i v hi=>by
   have Hb:j<cs.length:=by simpa using hj
   have e:((List.range cs.length).map λj=>(ct cs j,dv j))[j]! = (ct cs j,dv j):=by simp [Hb]
   rw [e] at hi;have h6:i<6:=by
    have:=(List.getElem?_eq_some_iff.1 hi).1
    simpa [cH] using this
   rw [(h.2 j Hb).1 i h6];exact hi)
 change Calls prog 86 _ _ _ at Ha
 rw [Et cs dv k λx=>decide (x.nm=(ct cs k).nm)] at Ha;exact Ha
theorem Ev {cs:List Ct} {k:Nat} (h:aX (ct cs k).nm=false):bX cs k=3:=by unfold bX;rw [if_pos h]
theorem Ew {cs:List Ct} {k:Nat} (h:aX (ct cs k).nm=true) (h2:gF cs k=true):bX cs k=5:=by unfold bX;rw [if_neg (by rw [h];decide),if_pos h2]
theorem Ex {cs:List Ct} {k:Nat} (h:aX (ct cs k).nm=true) (h2:gF cs k=false) (h3:dO (ct cs k).am (ct cs k).ab=false\/dO (ct cs k).cm (ct cs k).cb=false):bX cs k=1:=by
 unfold bX;rw [if_neg (by rw [h];decide),if_neg (by rw [h2];decide),if_pos h3]
theorem Ey {cs:List Ct} {k:Nat} (h:aX (ct cs k).nm=true) (h2:gF cs k=false) (h3:dO (ct cs k).am (ct cs k).ab=true) (h3':dO (ct cs k).cm (ct cs k).cb=true) (h4:over (ct cs k).am (ct cs k).cm=true\/over (ct cs k).ab (ct cs k).cb=true):bX cs k=3:=by
 unfold bX;rw [if_neg (by rw [h];decide),if_neg (by rw [h2];decide),if_neg (by rw [h3,h3'];decide),if_pos h4]
theorem Ez {cs:List Ct} {k:Nat} (h:aX (ct cs k).nm=true) (h2:gF cs k=false) (h3:dO (ct cs k).am (ct cs k).ab=true) (h3':dO (ct cs k).cm (ct cs k).cb=true) (h4:over (ct cs k).am (ct cs k).cm=false) (h4':over (ct cs k).ab (ct cs k).cb=false):bX cs k=(if 3<(ct cs k).ds.length then (2:Nat) else first (ee (ct cs k).ds) (ct cs k).ds.length:Nat):=by
 unfold bX;rw [if_neg (by rw [h];decide),if_neg (by rw [h2];decide),if_neg (by rw [h3,h3'];decide),if_neg (by rw [h4,h4'];decide)]
theorem boxed (w:World) (x:Ct) (d:Value):(w.alloc (.cells #[.string x.nm,.int .i64 x.am,.int .i64 x.ab,.int .i64 x.cm,.int .i64 x.cb,d] 63)).cell? ⟨w.heap.size,0,none⟩=some (.string x.nm):=by simp
def gY (W:World) (B:Nat) (x:Ct) (d:Value):Prop:=B<W.heap.size/\W.cell? ⟨B,0,none⟩=some (.string x.nm)/\W.cell? ⟨B,1,none⟩=some (.int .i64 x.am)/\W.cell? ⟨B,2,none⟩=some (.int .i64 x.ab)/\W.cell? ⟨B,3,none⟩=some (.int .i64 x.cm)/\W.cell? ⟨B,4,none⟩=some (.int .i64 x.cb)/\W.cell? ⟨B,5,none⟩=some d
theorem gY.made (w:World) (x:Ct) (d:Value):gY (w.alloc (.cells #[.string x.nm,.int .i64 x.am,.int .i64 x.ab,.int .i64 x.cm,.int .i64 x.cb,d] 63)) w.heap.size x d:=by
 refine ⟨by simp,by simp,by simp,by simp,by simp,by simp,by simp⟩
theorem gY.below {W W':World} {B:Nat} {x:Ct} {d:Value} (h:gY W B x d) (hb:Below W.heap.size W W'):gY W' B x d:=by
 obtain ⟨h0,h1,h2,h3,h4,h5,h6⟩:=h;exact ⟨Q1 h0 hb.size,(hb.cell (p:=⟨B,0,none⟩) h0).trans h1,(hb.cell (p:=⟨B,1,none⟩) h0).trans h2,(hb.cell (p:=⟨B,2,none⟩) h0).trans h3,(hb.cell (p:=⟨B,3,none⟩) h0).trans h4,(hb.cell (p:=⟨B,4,none⟩) h0).trans h5,(hb.cell (p:=⟨B,5,none⟩) h0).trans h6⟩
theorem EA (b o c k:Nat) (cs:List Ct) (dv:Nat->Value) (w:World) (h:jv w b o cs dv) (hk:k<cs.length) (hl:cs.length<=maxLen) :
  Calls prog 48 #[.agg #[.string (ct cs k).nm,.int .i64 (ct cs k).am,.int .i64 (ct cs k).ab,.int .i64 (ct cs k).cm,.int .i64 (ct cs k).cb,dv k],.slice (some ⟨b,o,none⟩) k c] w λe w'=>e=.returned (au (bX cs k:Nat))/\Below w.heap.size w w':=by
 have Hi:=(Q0 w.heap.size w).alloc (lR) (.cells #[.string (ct cs k).nm,.int .i64 (ct cs k).am,.int .i64 (ct cs k).ab,.int .i64 (ct cs k).cm,.int .i64 (ct cs k).cb,dv k] 63);have HT:=qI (Eu b o c w.heap.size k cs dv _ (h.below Hi) hk hl (by simp) (boxed w (ct cs k) (dv k)));have HN:=qI (h.2 k hk).2;have Ha:=qI Hi;have H1:=qI (@Ev cs k);have H2:=qI (@Ew cs k);have H3:=qI (@Ex cs k);have H4:=qI (@Ey cs k);have H5:=qI (@Ez cs k);clear h hk hl Hi;generalize bX cs k=F at *;generalize gF cs k=T at *;generalize ct cs k=x at *;generalize dv k=d at *
 rcases two (aX x.nm) with hn|hn
 ·rcases two T with ht|ht
  ·have he:=H2.out hn ht;subst ht
   go_enter func48,ntmps48
   go_wp2_with fail
   refine (fA _ _).mono ?_;rintro e w1 ⟨rfl,rfl⟩;rw [hn]
   go_wp2_with fail
   refine HT.out.mono ?_;rintro e w1 ⟨rfl,Hc⟩
   go_wp2
   go_ret;exact ⟨by rw [he];rfl,Ha.out.trans (Hc.mono Ha.out.size)⟩
  ·subst ht;have K3:=qI (H3.out hn rfl);have K4:=qI (H4.out hn rfl);have K5:=qI (H5.out hn rfl);clear H1 H2 H3 H4 H5
   go_enter func48,ntmps48
   go_wp2_with fail
   refine (fA _ _).mono ?_;rintro e w1 ⟨rfl,rfl⟩;rw [hn]
   go_wp2_with fail
   refine HT.out.mono ?_;rintro e w1 ⟨rfl,Hc⟩;have Hf:=qI ((gY.made w x d).below Hc);have Hh:=qI (Ha.out.trans (Hc.mono Ha.out.size));clear Hc HT Ha;generalize w.heap.size=B at Hf;obtain ⟨l0,b0,b1,b2,b3,b4,b5⟩:=Hf.out
   go_wp2_with fail
   refine (vq _ _ _).mono ?_;rintro e w2 ⟨rfl,Hk⟩;have Hj:=qI (Hf.out.below Hk);have Hb:=qI (Hh.out.trans (Hk.mono Hh.out.size));clear Hk Hf Hh l0 b0 b1 b2 b3 b4 b5
   rcases two (dO x.am x.ab) with ha|ha
   ·have K4:=qI (K4.out ha);have K5:=qI (K5.out ha);rw [ha];obtain ⟨l0,b0,b1,b2,b3,b4,b5⟩:=Hj.out
    go_wp2_with fail
    refine (vq _ _ _).mono ?_;rintro e w3 ⟨rfl,Hg⟩;have Ho:=qI (Hj.out.below Hg);have Hn:=qI (HN.out.below (Hb.out.trans (Hg.mono Hb.out.size)));have He:=qI (Hb.out.trans (Hg.mono Hb.out.size));clear Hg Hj Hb l0 b0 b1 b2 b3 b4 b5
    rcases two (dO x.cm x.cb) with hc|hc
    ·have K4:=qI (K4.out hc);have K5:=qI (K5.out hc);rw [hc];obtain ⟨l0,b0,b1,b2,b3,b4,b5⟩:=Ho.out
     go_wp2_with fail
     refine (vp _ _ _).mono ?_;rintro e w4 ⟨rfl,rfl⟩
     rcases two (over x.am x.cm) with h1|h1
     ·have he:=K4.out (.inl h1);rw [h1]
      go_wp2
      go_ret;exact ⟨by rw [he];rfl,He.out⟩
     ·have K5:=qI (K5.out h1);rw [h1]
      go_wp2_with fail
      refine (vp _ _ _).mono ?_;rintro e w4 ⟨rfl,rfl⟩
      rcases two (over x.ab x.cb) with h2|h2
      ·have he:=K4.out (.inr h2);rw [h2]
       go_wp2
       go_ret;exact ⟨by rw [he];rfl,He.out⟩
      ·have HE:=qI (K5.out h2);rw [h2]
       go_wp2_with fail
       refine (Ep d x.ds _ Hn.out).mono ?_;rintro e w5 ⟨rfl,Hl⟩;rw [<- HE.out];have Hm:=qI (He.out.trans (Hl.mono He.out.size));clear Hl
       go_wp2
       go_ret;exact ⟨rfl,Hm.out⟩
    ·have he:=K3.out (.inr hc);rw [hc]
     go_wp2
     go_ret;exact ⟨by rw [he];rfl,He.out⟩
   ·have he:=K3.out (.inl ha);rw [ha]
    go_wp2
    go_ret;exact ⟨by rw [he];rfl,Hb.out⟩
 ·have he:=H1.out hn
  go_enter func48,ntmps48
  go_wp2_with fail
  refine (fA _ _).mono ?_;rintro e w1 ⟨rfl,rfl⟩;rw [hn]
  go_wp2
  go_ret;exact ⟨by rw [he];rfl,Ha.out⟩
theorem EB {p:Pd} (h:aX p.nm=false):af p=3:=by unfold af;rw [if_pos h]
theorem EC {p:Pd} (h:aX p.nm=true) (h2:p.pr<0\/1000<p.pr):af p=1:=by unfold af;rw [if_neg (by rw [h];decide),if_pos h2]
theorem ED {p:Pd} (h:aX p.nm=true) (h2:¬ (p.pr<0\/1000<p.pr)) (h3:p.cs.length<1\/3<p.cs.length):af p=2:=by unfold af;rw [if_neg (by rw [h];decide),if_neg h2,if_pos h3]
theorem EE {p:Pd} (h:aX p.nm=true) (h2:¬ (p.pr<0\/1000<p.pr)) (h3:¬ (p.cs.length<1\/3<p.cs.length)):af p=first (bX p.cs) p.cs.length:=by unfold af;rw [if_neg (by rw [h];decide),if_neg h2,if_neg h3]
theorem eh {f:Nat} (h:f≠0):au (f:Int)=.iface 121 (.int .i64 f):=by unfold au;rw [if_neg (by omega)]
theorem dP {B:Nat} {a w:World} (h:Below B a w):Below B a w.drew:=⟨h.os,h.tape,h.output,h.size,h.block⟩
abbrev ka:=λ(x0:ByteArray) (x1:Int) (x2:Nat) (x3:Option Addr) (x4:Nat)=>(.cells #[.string x0,.int .i64 x1,.slice x3 x2 x4] 47:Obj)
theorem qJ (p:Pd) (cv:Value) (w:World) (h:aE w cv p.cs):Calls prog 22 #[bG p cv] w λe w'=>e=.returned (au (af p:Nat))/\Below w.heap.size w w':=by
 obtain ⟨ao,c,rfl,hm,hr⟩:=h;have HR:=qI hr;have HM:=qI hm;clear hr hm;have H1:=qI (@EB p);have H2:=qI (@EC p);have H3:=qI (@ED p);have H4:=qI (@EE p);unfold bG;have He:=qI ((Q0 w.heap.size w).alloc (lR) (ka p.nm p.pr p.cs.length ao c))
 rcases two (aX p.nm) with hn|hn
 ·have H2:=qI (H2.out hn);have H3:=qI (H3.out hn);have H4:=qI (H4.out hn)
  by_cases hp:p.pr<0\/1000<p.pr
  ·have he:=H2.out hp
   go_enter func22,ntmps22
   go_wp2_with fail
   refine (fA _ _).mono ?_;rintro e w1 ⟨rfl,rfl⟩;rw [hn]
   go_wp2_with fail
   refine (jw _ _ _ _).mono ?_;rintro e w1 ⟨rfl,rfl⟩;rw [show (decide (0<=p.pr) && decide (p.pr<=1000))=false by simp;omega]
   go_wp2
   go_ret;exact ⟨by rw [he];rfl,He.out⟩
  have H3:=qI (H3.out hp);have H4:=qI (H4.out hp);have Hq:(decide (0<=p.pr) && decide (p.pr<=1000))=true:=by simp;omega
  clear hp
  by_cases hl:p.cs.length<1\/3<p.cs.length
  ·have he:=H3.out hl;have Hj:(decide ((1:Int)<=p.cs.length) && decide ((p.cs.length:Int)<=3))=false:=by simp;omega
   clear hl H1 H2 H3 H4
   go_enter func22,ntmps22
   go_wp2_with fail
   refine (fA _ _).mono ?_;rintro e w1 ⟨rfl,rfl⟩;rw [hn]
   go_wp2_with fail
   refine (jw _ _ _ _).mono ?_;rintro e w1 ⟨rfl,rfl⟩;rw [Hq]
   go_wp2_with fail
   refine (jw _ _ _ _).mono ?_;rintro e w1 ⟨rfl,rfl⟩;rw [Hj]
   go_wp2
   go_ret;exact ⟨by rw [he];rfl,He.out⟩
  have HE:=qI (H4.out hl);have Hj:(decide ((1:Int)<=p.cs.length) && decide ((p.cs.length:Int)<=3))=true:=by simp;omega
  have Hu:p.cs.length<=3:=by omega
  rw [HE.out];clear hl H1 H2 H3 H4 HE;clear H2 H3 H4;generalize p.cs=cs at *
  go_enter func22,ntmps22
  go_wp2_with fail
  refine (fA _ _).mono ?_;rintro e w1 ⟨rfl,rfl⟩;rw [hn]
  go_wp2_with fail
  refine (jw _ _ _ _).mono ?_;rintro e w1 ⟨rfl,rfl⟩;rw [Hq]
  go_wp2_with fail
  refine (jw _ _ _ _).mono ?_;rintro e w1 ⟨rfl,rfl⟩;rw [Hj]
  go_wp2
  go_loopw [25] (λi wr=>∃ k:Nat,k<=cs.length/\i=.int .i64 k/\Below w.heap.size w wr/\Hid (w.heap.size<wr.heap.size)/\wr.cell? ⟨w.heap.size,2,none⟩=some (.slice ao cs.length c)/\Hid (first (bX cs) k=0)) (λi _=>cs.length - (intOf i).toNat)
  case atStart=>exact ⟨0,by omega,rfl,He.out,by simp [Hid],by simp,rfl⟩
  case round=>
   obtain ⟨k,hk,rfl,hB,Hf,Hl,HF⟩:=hrel
   by_cases hlt:k<cs.length
   ·obtain ⟨b,o,dv,rfl,Hb⟩:=HR.out (by omega);have Hb:=Hb.below hB;obtain ⟨c0,c1,c2,c3,c4,c5⟩:=Hb.at hlt;have Hy:k<=c:=Q5 hk HM.out.1;have HO:=qI (Dvs.iF (f:=bX cs) (n:=cs.length) HF.out · hlt);have HZ:=qI (Dvs.jo (f:=bX cs) (k:=k) HF.out);have HI:=qI Hb;have Hc:=qI (hB.alloc hB.size (.cells #[.string (ct cs k).nm,.int .i64 (ct cs k).am,.int .i64 (ct cs k).ab,.int .i64 (ct cs k).cm,.int .i64 (ct cs k).cb,dv k] 63));have Ho:=qI ((gY.made wr (ct cs k) (dv k)).below (dP (Q0 _ _)));have Hp:=qI λW (hb:Below wr.heap.size wr W)=>EA b o c k cs dv W (Hb.below hb) hlt (Q5 HM.out.1 HM.out.2);have Hi:=qI ((Q0 wr.heap.size wr).alloc (lR) (.cells #[.string (ct cs k).nm,.int .i64 (ct cs k).am,.int .i64 (ct cs k).ab,.int .i64 (ct cs k).cm,.int .i64 (ct cs k).cb,dv k] 63));have Hm:=qI Hl;have Hs:∃ a n e,dv k=.slice a n e:=by
     obtain ⟨a,e,he,_⟩:=(Hb.2 k hlt).2;exact ⟨a,_,e,he⟩
    clear Hb HF hB;generalize ct cs k=x at *;generalize dv k=d at *;obtain ⟨da,dn,dc,rfl⟩:=Hs;generalize bX cs k=F at *
    go_wp2_with fail
    obtain ⟨l0,b0,b1,b2,b3,b4,b5⟩:=Ho.out;have Hh:=(dP Hi.out).cell (p:=⟨w.heap.size,2,none⟩) Hf.out |>.trans Hm.out;clear Ho;refine wp_region_held_drew (S:=(λw'=>(w'.cell? ⟨wr.heap.size,0,none⟩=some (.string x.nm)/\w'.cell? ⟨wr.heap.size,1,none⟩=some (.int .i64 x.am)/\w'.cell? ⟨wr.heap.size,2,none⟩=some (.int .i64 x.ab)/\w'.cell? ⟨wr.heap.size,3,none⟩=some (.int .i64 x.cm)/\w'.cell? ⟨wr.heap.size,4,none⟩=some (.int .i64 x.cb)/\w'.cell? ⟨wr.heap.size,5,none⟩=some (.slice da dn dc))/\w'.cell? ⟨w.heap.size,2,none⟩=some (.slice (some ⟨b,o,none⟩) cs.length c))) (by kernel_rfl) ⟨⟨b0,b1,b2,b3,b4,b5⟩,Hh⟩ λhQ=>?_;refine tk 0 ?_;refine tk 1 ?_;refine tk 2 ?_;refine tk 3 ?_;refine tk 4 ?_;refine rd 5 λK hK=>?_;go_simp
    go_wp2_with fail
    refine (Hp.out _ (dP Hi.out)).mono ?_;rintro e w5 ⟨rfl,Ha⟩;have Hg:=qI Ha;have Hk:=qI (And.intro (And.intro ((Ha.cell (p:=⟨wr.heap.size,0,none⟩) l0).trans b0) (And.intro ((Ha.cell (p:=⟨wr.heap.size,1,none⟩) l0).trans b1) (And.intro ((Ha.cell (p:=⟨wr.heap.size,2,none⟩) l0).trans b2) (And.intro ((Ha.cell (p:=⟨wr.heap.size,3,none⟩) l0).trans b3) (And.intro ((Ha.cell (p:=⟨wr.heap.size,4,none⟩) l0).trans b4) ((Ha.cell (p:=⟨wr.heap.size,5,none⟩) l0).trans b5)))))) ((Ha.cell (p:=⟨w.heap.size,2,none⟩) (Nat.lt_trans Hf.out l0)).trans Hh));clear Ha
    go_wp2
    refine hK.out _ _ Hk.out λhQ=>?_;clear hK K;refine tk 6 ?_;refine Qn (by kernel_rfl) ?_ _;have Hn:=qI ((dP Hc.out).trans (Hg.out.mono (dP Hc.out).size));have Hx:=qI hQ.2;have Hr:=qI (Q1 (Nat.lt_trans Hf.out l0) Hg.out.size);clear Hg Hk hQ Hc Hp Hi Hm HI Hh b0 b1 b2 b3 b4 b5 l0 Hf Hl c0 c1 c2 c3 c4 c5
    by_cases hF:F=0
    ·have Ht:=qI (HZ.out hF);rw [show au (F:Int)=.nilIface by rw [hF];rfl];clear HO HZ hF
     go_wp2
     go_roundw
     case rel=>exact ⟨k+1,by omega,by go_num,Hn.out,Hr,Hx.out,Ht⟩
     case measure=>simp [intOf];omega
    ·have Hv:=qI (HO.out hF);have HE:=qI (eh hF);rw [HE.out];clear HO HZ hF
     go_wp2
     go_ret;exact ⟨by rw [Hv.out,HE.out];rfl,Hn.out⟩
   ·have Hw:k=cs.length:=by omega
    subst Hw;have Hc:=qI hB;clear hB
    go_wp2
    go_ret;exact ⟨by rw [HF.out];rfl,Hc.out⟩
 ·have he:=H1.out hn
  go_enter func22,ntmps22
  go_wp2_with fail
  refine (fA _ _).mono ?_;rintro e w1 ⟨rfl,rfl⟩;rw [hn]
  go_wp2
  go_ret;exact ⟨by rw [he];rfl,He.out⟩
end
section
open RowKit
open Qos (Nd Ct Pd nd0 ct0 pd0 nd ct pd gG gH ef quiet sure aO aP bU)
theorem ou {fn:Func} {p:Tmp} {ty:TypeId} (h:fn.results=#[.cell p ty]) (tmps:Array Value) (P:Program) (w:World) :
  (results fn tmps).run P w=((asAddr (tmps.getD p undef)).run P w).andThen λa w₁=>(loadVar ty a).run P w₁:=by
 simp only [results,h]
 simp [Sem.run_bind,Result.andThen]
def bn (w:World) (B:Nat) (m b:Int):Prop:=(w.cell? ⟨B,0,none⟩=some (.int .i64 m)/\w.frozen? ⟨B,0,none⟩=false)/\(w.cell? ⟨B,1,none⟩=some (.int .i64 b)/\w.frozen? ⟨B,1,none⟩=false)
theorem bn.lt {w:World} {B:Nat} {m b:Int} (h:bn w B m b):B<w.heap.size:=Q3 w _ h.1.1
theorem bn.kept {w w':World} {B:Nat} {m b:Int} {g:Option Nat} (h:bn w B m b) (hg:w.grownBy w' g) (hne:some B≠g):bn w' B m b:=
 ⟨⟨(hg.cell_far _ h.lt hne).trans h.1.1,(hg.frozen_far _ h.lt hne).trans h.1.2⟩,⟨(hg.cell_far _ h.lt hne).trans h.2.1,(hg.frozen_far _ h.lt hne).trans h.2.2⟩⟩
theorem bn.below {w w':World} {B:Nat} {m b:Int} (h:bn w B m b) (hb:Below w.heap.size w w'):bn w' B m b:=h.kept (dD hb none) (by simp)
theorem bn.alloc {w:World} {B:Nat} {m b:Int} (h:bn w B m b) (o:Obj):bn (w.alloc o) B m b:=h.below ((Q0 _ w).alloc (lR) o)
theorem bn.made (w:World) (t:TypeId) (m b:Int):bn (w.alloc (.cells #[.int .i64 m,.int .i64 b] t)) w.heap.size m b:=⟨⟨by simp,by simp⟩,⟨by simp,by simp⟩⟩
theorem bn.set0 {w:World} {B:Nat} {m b:Int} (h:bn w B m b) (n:Int):bn (w.setCell ⟨B,0,none⟩ (.int .i64 n)) B n b:=by
 obtain ⟨⟨c0,z0⟩,⟨c1,z1⟩⟩:=h;refine ⟨⟨?_,(World.frozen?_setCell ..).trans z0⟩,⟨?_,(World.frozen?_setCell ..).trans z1⟩⟩
 ·clear c1;go_simp
 ·have Ha:(⟨B,0,none⟩:Addr)≠⟨B,1,none⟩:=by intro h;cases h
  rw [World.cell?_setCell_other (h:=Ha)];exact c1
theorem bn.set1 {w:World} {B:Nat} {m b:Int} (h:bn w B m b) (n:Int):bn (w.setCell ⟨B,1,none⟩ (.int .i64 n)) B m n:=by
 obtain ⟨⟨c0,z0⟩,⟨c1,z1⟩⟩:=h;refine ⟨⟨?_,(World.frozen?_setCell ..).trans z0⟩,⟨?_,(World.frozen?_setCell ..).trans z1⟩⟩
 ·have Ha:(⟨B,1,none⟩:Addr)≠⟨B,0,none⟩:=by intro h;cases h
  rw [World.cell?_setCell_other (h:=Ha)];exact c0
 ·clear c0;go_simp
theorem fU {K:Nat} {a w:World} (h:Below K a w) (B j:Nat) (v:Value) (hB:K<=B) (hw:K<=w.heap.size):Below K a (w.setCell ⟨B,j,none⟩ v):=
 h.trans (below_grown (bL w ⟨B,j,none⟩ v) (K:=K) hw (λi hi=>by cases hi;exact hB))
theorem vx (p:Pd) (cv:Value) (w:World) (h:aE w cv p.cs) (hmi:bU p.cs):Calls prog 37 #[bG p cv] w λe w'=>e=.returned (.agg #[.int .i64 (aO p.cs p.cs.length),.int .i64 (aP p.cs p.cs.length)])/\Below w.heap.size w w':=by
 obtain ⟨ao,c,rfl,hm,hr⟩:=h;have HR:=qI hr;clear hr hm;unfold bG;have Hj:=qI ((((Q0 w.heap.size w).alloc (lR) (ka p.nm p.pr p.cs.length ao c)).alloc (by simp) (.cells #[.int .i64 0,.int .i64 0] 60)).alloc (by simp;omega) (.cells #[.int .i64 0,.int .i64 0] 60));have Hf:Hid (bn (((w.alloc (ka p.nm p.pr p.cs.length ao c)).alloc (.cells #[.int .i64 0,.int .i64 0] 60)).alloc (.cells #[.int .i64 0,.int .i64 0] 60)) (w.heap.size+1) 0 0/\bn (((w.alloc (ka p.nm p.pr p.cs.length ao c)).alloc (.cells #[.int .i64 0,.int .i64 0] 60)).alloc (.cells #[.int .i64 0,.int .i64 0] 60)) (w.heap.size+1+1) 0 0):=by
  constructor
  ·have:=(bn.made (w.alloc (ka p.nm p.pr p.cs.length ao c)) 60 0 0).alloc (.cells #[.int .i64 0,.int .i64 0] 60)
   simpa using this
  ·have:=bn.made ((w.alloc (ka p.nm p.pr p.cs.length ao c)).alloc (.cells #[.int .i64 0,.int .i64 0] 60)) 60 0 0
   simpa using this
 generalize p.cs=cs at *;have Hg:=qI hmi;have Ht:=hmi.1;clear hmi
 go_enter func37,ntmps37
 go_wp2
 go_loopw [9] (λi wr=>∃ k:Nat,k<=cs.length/\i=.int .i64 k/\Below w.heap.size w wr/\bn wr (w.heap.size+1) 0 0/\bn wr (w.heap.size+1+1) (aO cs k) (aP cs k)) (λi _=>cs.length - (intOf i).toNat)
 case atStart=>exact ⟨0,by omega,rfl,Hj.out,Hf.out.1,Hf.out.2⟩
 case round=>
  obtain ⟨k,hk,rfl,hB,He,Hh⟩:=hrel
  by_cases hlt:k<cs.length
  ·obtain ⟨b,o,dv,rfl,Ha⟩:=HR.out (by omega);have Ha:=Ha.below hB;obtain ⟨c0,c1,c2,c3,c4,c5⟩:=Ha.at hlt;have Hr:∃ a n e,dv k=.slice a n e:=by
    obtain ⟨a,e,he,_⟩:=(Ha.2 k hlt).2;exact ⟨a,_,e,he⟩
   have Hc:=qI (hB.alloc hB.size (.cells #[.string (ct cs k).nm,.int .i64 (ct cs k).am,.int .i64 (ct cs k).ab,.int .i64 (ct cs k).cm,.int .i64 (ct cs k).cb,dv k] 63));have Hk:=He.alloc (.cells #[.string (ct cs k).nm,.int .i64 (ct cs k).am,.int .i64 (ct cs k).ab,.int .i64 (ct cs k).cm,.int .i64 (ct cs k).cb,dv k] 63);have Hi:=Hh.alloc (.cells #[.string (ct cs k).nm,.int .i64 (ct cs k).am,.int .i64 (ct cs k).ab,.int .i64 (ct cs k).cm,.int .i64 (ct cs k).cb,dv k] 63);have Hb:=gY.made wr (ct cs k) (dv k);have Hu:Hid (aO cs (k+1)=aO cs k+(ct cs k).am):=rfl;have Hp:Hid (aP cs (k+1)=aP cs k+(ct cs k).ab):=rfl;obtain ⟨m1,m2,_⟩:=Hg.out.2 k hlt;obtain ⟨s1,s2⟩:=Qos.kV Hg.out hk;obtain ⟨s3,s4⟩:=Qos.j8 Hg.out hk;have Hs:=Hh.lt;clear Ha hB Hj Hf;generalize aO cs k=M at *;generalize aP cs k=N at *;generalize ct cs k=x at *;generalize dv k=d at *;obtain ⟨da,dn,dc,rfl⟩:=Hr;generalize hW1:wr.alloc (.cells #[.string x.nm,.int .i64 x.am,.int .i64 x.ab,.int .i64 x.cm,.int .i64 x.cb,.slice da dn dc] 63)=W1 at Hk Hi Hc Hb;have e1:wrap64 (M+x.am)=M+x.am:=by unfold wrap64;omega
   have e2:wrap64 (N+x.ab)=N+x.ab:=by unfold wrap64;omega
   have Hm:=qI (bL W1 ⟨w.heap.size+1+1,0,none⟩ (.int .i64 (M+x.am)));have Ho:=qI (Hk.kept Hm.out (by simp));have Hl:=qI (Hi.set0 (M+x.am));have d2:=(Hm.out.cell_far ⟨wr.heap.size,2,none⟩ Hb.1 (by simp;omega)).trans Hb.2.2.2.1;obtain ⟨⟨f1,f2⟩,⟨f3,f4⟩⟩:=Hi;obtain ⟨⟨g1,g2⟩,⟨g3,g4⟩⟩:=Hl.out;obtain ⟨_,_,b1,_⟩:=Hb
   go_wp2_with fail
   have hz:=Hc.out.size;have Hq:=fU Hc.out (w.heap.size+1+1) 0 (.int .i64 (M+x.am)) (by omega) hz;refine ⟨⟨k+1,by omega,by go_num,fU Hq (w.heap.size+1+1) 1 (.int .i64 (N+x.ab)) (by omega) (by simpa using hz),Ho.out.kept (bL _ ⟨w.heap.size+1+1,1,none⟩ (.int .i64 (N+x.ab))) (by simp),?_⟩,by simp [intOf];omega⟩;rw [Hu.out,Hp.out];exact Hl.out.set1 _
  ·have Hv:k=cs.length:=by omega
   subst Hv;have hz:=hB.size;have Hn:=qI (fU (fU hB (w.heap.size+1) 0 (.int .i64 (aO cs cs.length)) (by omega) hz) (w.heap.size+1) 1 (.int .i64 (aP cs cs.length)) (by omega) (by simpa using hz));have Hw:=qI ((He.set0 (aO cs cs.length)).set1 (aP cs cs.length));obtain ⟨⟨f1,f2⟩,⟨f3,f4⟩⟩:=He;obtain ⟨⟨g1,g2⟩,⟨g3,g4⟩⟩:=Hh;clear hB
   go_wp2_with fail
   (try simp only [Exit.inBlock,Exit.then]);refine bodyPost_ret (v:=.agg #[.int .i64 (aO cs cs.length),.int .i64 (aP cs cs.length)]) ?_ rfl ⟨rfl,Hn.out⟩;obtain ⟨⟨g1,g2⟩,⟨g3,g4⟩⟩:=Hw.out;rw [ou rfl];clear f1 f2 f3 f4;go_simp
theorem EF (p:Pd) (cv:Value) (w:World) (h:aE w cv p.cs):Calls prog 43 #[bG p cv] w λe w'=>e=.returned (.int .i64 (ef p.cs))/\Below w.heap.size w w':=by
 obtain ⟨ao,c,rfl,hm,hr⟩:=h;have HR:=qI hr;have HM:=qI hm;clear hr hm;unfold bG;have Hc:=qI ((Q0 w.heap.size w).alloc (lR) (ka p.nm p.pr p.cs.length ao c));generalize p.cs=cs at *
 go_enter func43,ntmps43
 go_wp2
 go_loopw [3,4,10] (λs r i wr=>∃ k:Nat,k<=cs.length/\i=.int .i64 k/\s=.bool (gG cs k)/\r=.bool (gH cs k)/\Below w.heap.size w wr) (λ_ _ i _=>cs.length - (intOf i).toNat)
 case atStart=>exact ⟨0,by omega,rfl,rfl,rfl,Hc.out⟩
 case round=>
  obtain ⟨k,hk,rfl,rfl,rfl,hB⟩:=hrel
  by_cases hlt:k<cs.length
  ·obtain ⟨b,o,dv,rfl,Hb⟩:=HR.out (by omega);have Hb:=Hb.below hB;obtain ⟨c0,c1,c2,c3,c4,c5⟩:=Hb.at hlt;have Hf:∃ a n e,dv k=.slice a n e:=by
    obtain ⟨a,e,he,_⟩:=(Hb.2 k hlt).2;exact ⟨a,_,e,he⟩
   have Ha:=qI (hB.alloc hB.size (.cells #[.string (ct cs k).nm,.int .i64 (ct cs k).am,.int .i64 (ct cs k).ab,.int .i64 (ct cs k).cm,.int .i64 (ct cs k).cb,dv k] 63));have HW:Hid (wrap64 ((k:Int)+1)=((k+1:Nat):Int)):=by
    have:=HM.out
    unfold maxLen at this
    show wrap64 ((k:Int)+1)=((k+1:Nat):Int)
    unfold wrap64;omega
   have HS:Hid (gG cs (k+1)=(gG cs k && quiet (ct cs k))):=rfl;have HC:Hid (gH cs (k+1)=(gH cs k && sure (ct cs k))):=rfl;clear Hb hB;generalize ct cs k=x at *;generalize dv k=d at *;obtain ⟨da,dn,dc,rfl⟩:=Hf;generalize gG cs k=s at *;generalize gH cs k=r at *;obtain ⟨nm,am,ab,cm,cb,ds⟩:=x;have key:(s=true/\r=true)\/(s=false\/r=false):=by cases s <;> cases r <;> simp
   rcases key with ⟨e1,e2⟩|e12
   ·subst e1 e2;have five:∀ a c:Int,(a=0/\c=0)\/(a=0/\c≠0)\/(a≠0/\c=0)\/(a≠0/\c=a)\/(a≠0/\c≠0/\a≠c):=by omega
    rcases five am cm with ⟨g1,g2⟩|⟨g1,g2⟩|⟨g1,g2⟩|⟨g1,g2⟩|⟨g1,g2,g3⟩
    all_goals rcases five ab cb with ⟨k1,k2⟩|⟨k1,k2⟩|⟨k1,k2⟩|⟨k1,k2⟩|⟨k1,k2,k3⟩
    all_goals clear five
    all_goals subst_vars
    all_goals (try have g2':=Ne.symm g2)
    all_goals (try have k2':=Ne.symm k2)
    all_goals go_wp2_with fail
    all_goals
     rw [HW.out];refine ⟨⟨k+1,by omega,rfl,?_,?_,Ha.out⟩,by simp [intOf];omega⟩
     ·rw [HS.out];simp [quiet, *]
     ·rw [HC.out];simp [sure, *] <;> (rw [Bool.eq_iff_iff];simp;omega)
   ·rcases e12 with e1|e2
    ·subst e1
     rcases two r with e2|e2
     all_goals subst e2
     all_goals go_wp2_with fail
     all_goals
      subst_vars
      rw [HW.out];refine ⟨⟨k+1,by omega,rfl,?_,?_,Ha.out⟩,by simp [intOf];omega⟩
      ·rw [HS.out];simp [quiet, *]
      ·rw [HC.out];simp [sure, *] <;> (rw [Bool.eq_iff_iff];simp;omega)
    ·subst e2
     rcases two s with e1|e1
     all_goals subst e1
     all_goals go_wp2_with fail
     all_goals
      subst_vars
      rw [HW.out];refine ⟨⟨k+1,by omega,rfl,?_,?_,Ha.out⟩,by simp [intOf];omega⟩
      ·rw [HS.out];simp [quiet, *]
      ·rw [HC.out];simp [sure, *] <;> (rw [Bool.eq_iff_iff];simp;omega)
  ·have He:k=cs.length:=by omega
   subst He;have Ha:=qI hB;have HC:Hid (ef cs=if gG cs cs.length=true then 1 else if gH cs cs.length=true then 3 else 2):=rfl;clear hB
   rcases two (gG cs cs.length) with e1|e1
   ·rw [e1];rw [e1] at HC
    go_wp2
    go_ret;exact ⟨by rw [HC.out];rfl,Ha.out⟩
   ·rcases two (gH cs cs.length) with e2|e2
    ·rw [e1,e2];rw [e1,e2] at HC
     go_wp2
     go_ret;exact ⟨by rw [HC.out];rfl,Ha.out⟩
    ·rw [e1,e2];rw [e1,e2] at HC
     go_wp2
     go_ret;exact ⟨by rw [HC.out];rfl,Ha.out⟩
end
section
open RowKit
open Qos (Nd Ct Pd nd0 ct0 pd0 nd ct pd gG gH ef quiet sure aO aP bU aA)
def eC (W:World) (B:Nat) (p:Pd) (cv:Value):Prop:=B<W.heap.size/\W.cell? ⟨B,0,none⟩=some (.string p.nm)/\W.cell? ⟨B,1,none⟩=some (.int .i64 p.pr)/\W.cell? ⟨B,2,none⟩=some cv
abbrev ov:=λ(x0:Pd) (x1:Value)=>(.cells #[.string x0.nm,.int .i64 x0.pr,x1] 47:Obj)
theorem eC.made (w:World) (p:Pd) (cv:Value):eC (w.alloc (ov p cv)) w.heap.size p cv:=⟨by simp,by simp,by simp,by simp⟩
theorem eC.below {W W':World} {B:Nat} {p:Pd} {cv:Value} (h:eC W B p cv) (hb:Below W.heap.size W W'):eC W' B p cv:=by
 obtain ⟨h0,h1,h2,h3⟩:=h;exact ⟨Q1 h0 hb.size,(hb.cell (p:=⟨B,0,none⟩) h0).trans h1,(hb.cell (p:=⟨B,1,none⟩) h0).trans h2,(hb.cell (p:=⟨B,2,none⟩) h0).trans h3⟩
theorem eC.alloc {W:World} {B:Nat} {p:Pd} {cv:Value} (h:eC W B p cv) (o:Obj):eC (W.alloc o) B p cv:=h.below ((Q0 _ W).alloc (lR) o)
theorem aE.slice {w:World} {v:Value} {cs:List Ct} (h:aE w v cs):∃ a n c,v=.slice a n c:=by
 obtain ⟨a,c,h,_⟩:=h;exact ⟨a,_,c,h⟩
theorem mn (p:Pd) (cv:Value) (x:Ct) (da:Option Addr) (dn dc:Nat) (w:World) (h:aE w cv p.cs) (h0:0<=x.am) (h1:x.am<=1000000) :
  Calls prog 16 #[bG p cv,.agg #[.string x.nm,.int .i64 x.am,.int .i64 x.ab,.int .i64 x.cm,.int .i64 x.cb,.slice da dn dc]] w λe w'=>e=.returned (.int .i64 (aA p.cs x.am))/\Below w.heap.size w w':=by
 have hs:=h.slice;unfold bG;have Hb:=qI (((Q0 w.heap.size w).alloc (lR) (ov p cv)).alloc (by simp) (.cells #[.string x.nm,.int .i64 x.am,.int .i64 x.ab,.int .i64 x.cm,.int .i64 x.cb,.slice da dn dc] 63));have HX:=gY.made (w.alloc (ov p cv)) x (.slice da dn dc);rw [show (w.alloc (ov p cv)).heap.size=w.heap.size+1 by simp] at HX;have HX:=qI HX;have HC:=qI (EF p cv _ (h.below Hb.out));have e1:x.am.tmod 1000=x.am % 1000:=Int.tmod_eq_emod_of_nonneg h0;have e2:x.am.tdiv 1000=x.am / 1000:=Int.tdiv_eq_ediv_of_nonneg h0;have HO:Hid (aA p.cs x.am=if ef p.cs=3/\x.am % 1000=0 then x.am / 1000 else 0):=rfl;unfold bG at HC;obtain ⟨pa,pn,pc,rfl⟩:=hs;generalize ef p.cs=K at *;generalize aA p.cs x.am=R at *;clear h
 by_cases hk:K=3
 ·subst hk
  by_cases hm:x.am % 1000=0
  ·have Hf:x.am.tmod 1000=0:=by rw [e1];exact hm
   have He:=qI (HO.out.trans (if_pos ⟨rfl,hm⟩));clear HO
   go_enter func16,ntmps16
   go_wp2_with fail
   refine HC.out.mono ?_;rintro e w1 ⟨rfl,Ha⟩;obtain ⟨l0,b0,b1,_⟩:=HX.out.below Ha;have Hc:=qI (Hb.out.trans (Ha.mono Hb.out.size));clear Ha HX Hb
   go_wp2
   go_ret;exact ⟨by rw [He.out];rfl,Hc.out⟩
  ·have Hf:(x.am % 1000 != 0)=true:=by simp [hm]
   have He:=qI (HO.out.trans (if_neg λh=>hm h.2));clear HO
   go_enter func16,ntmps16
   go_wp2_with fail
   refine HC.out.mono ?_;rintro e w1 ⟨rfl,Ha⟩;obtain ⟨l0,b0,b1,_⟩:=HX.out.below Ha;have Hc:=qI (Hb.out.trans (Ha.mono Hb.out.size));clear Ha HX Hb
   go_wp2
   go_ret;exact ⟨by rw [He.out];rfl,Hc.out⟩
 ·have He:=qI (HO.out.trans (if_neg λh=>hk h.1));clear HO
  go_enter func16,ntmps16
  go_wp2_with fail
  refine HC.out.mono ?_;rintro e w1 ⟨rfl,Ha⟩;obtain ⟨l0,b0,b1,_⟩:=HX.out.below Ha;have Hc:=qI (Hb.out.trans (Ha.mono Hb.out.size));clear Ha HX Hb
  go_wp2
  go_ret;exact ⟨by rw [He.out];rfl,Hc.out⟩
end
section
open RowKit
open Qos (Nd Ct Pd nd0 ct0 pd0 nd ct pd ef aO aP bU shares ml lim Words pathOf sumTo)
end
section
open RowKit
open Qos (Nd Ct Pd nd0 ct0 pd0 nd ct pd gG gH ef quiet sure aO aP bU aA af sumTo)
theorem be.rows {w:World} {v:Value} {ds:List Nd} (h:be w v ds):eM w v 2 kT:=by
 obtain ⟨ao,c,hv,hm,hr⟩:=h;refine ⟨ao,_,c,hv,hm,λh0=>?_⟩;obtain ⟨b,o,ha,Ha,hc⟩:=hr h0;refine ⟨b,o,ha,Ha,λk hk=>⟨[.string (nd ds k).kind,.int .i64 (nd ds k).many],rfl,λj hj=>?_,⟨_,_,rfl⟩⟩⟩
 match j,hj with
 | 0,_=>exact (hc k hk).1
 | 1,_=>exact (hc k hk).2
theorem aE.rows {w:World} {v:Value} {cs:List Ct} (h:aE w v cs):eM w v 6 (iG w):=by
 obtain ⟨ao,c,hv,hm,hr⟩:=h;refine ⟨ao,_,c,hv,Q5 hm.1 hm.2,λh0=>?_⟩;obtain ⟨b,o,dv,ha,hc⟩:=hr h0;exact ⟨b,o,ha,hc.1,λk hk=>⟨cH (ct cs k) (dv k),rfl,(hc.2 k hk).1,⟨_,_,_,_,_,_,rfl,(hc.2 k hk).2.rows⟩⟩⟩
theorem EG {p:Pd} {cv:Value} {w:World} (h:aE w cv p.cs):Calls prog 29 #[bG p cv] w λe w'=>Ans e/\Below w.heap.size w w':=CV p.nm p.pr cv w h.rows
end
section
open RowKit
open Qos (Nd Ct Pd nd0 ct0 pd0 nd ct pd ef aO aP bU shares ml lim Words pathOf sumTo)
def words:Words:=⟨⟨#[47,108,111,119,47]⟩,⟨#[47,109,105,100,47]⟩,⟨#[47]⟩,⟨#[47,108,111,119]⟩,⟨#[47,109,105,100]⟩⟩
end
section
open RowKit
open Qos (Nd Ct Pd nd0 ct0 pd0 nd ct pd ef aO aP bU shares ml lim Words pathOf sumTo Gp gp0 gp qG qH vr vt vu vw ot groups within)
theorem vy {p:Program} {t:TypeId} {z:Option Value} {a b:Nat} (h:(p.info? t).map (λi=>(i.zero,i.size,i.bytes))=some (z,a,b)):∃ i,p.info? t=some i/\i.zero=z/\i.size=a/\i.bytes=b:=by
 obtain ⟨i,h1,h2⟩:=Option.map_eq_some_iff.1 h;cases h2;exact ⟨i,h1,rfl,rfl,rfl⟩
theorem j9.at {w:World} {b o:Nat} {ps:List Pd} {cv:Nat->Value} (h:j9 w b o ps cv) {k:Nat} (hk:k<ps.length) :
  w.cell? ⟨b,o+k*3,none⟩=some (.string (pd ps k).nm)/\w.cell? ⟨b,o+k*3+1,none⟩=some (.int .i64 (pd ps k).pr)/\w.cell? ⟨b,o+k*3+2,none⟩=some (cv k)/\aE w (cv k) (pd ps k).cs:=⟨(h.2 k hk).1.1,(h.2 k hk).1.2.1,(h.2 k hk).1.2.2,(h.2 k hk).2⟩
end
section
open RowKit
open Qos (Nd Ct Pd nd0 ct0 pd0 nd ct pd ef aO aP bU Gp gp0 gp af ot groups)
def EH (n:Nat) (e:Ending):Prop:=∃ b,e=.returned (.bool b)/\(b=true->n<=16)
theorem EI (v:Value) (ps:List Pd) (w:World) (h:du w v ps):Calls prog 21 #[v] w λe w'=>EH ps.length e/\Below w.heap.size w w':=by
 obtain ⟨ao,c,rfl,hm,hr⟩:=h;have HR:=qI hr;clear hr hm
 by_cases h16:16<ps.length
 ·go_enter func21,ntmps21
  go_wp2
  go_ret;exact ⟨⟨_,rfl,λh=>by cases h⟩,Q0 _ _⟩
 have hl:ps.length<=16:=by omega
 have hd:decide (16<(ps.length:Int))=false:=Q7 (by omega);clear h16
 go_enter func21,ntmps21
 go_wp2
 go_loopw [3] (λi wr=>∃ k:Nat,k<=ps.length/\i=.int .i64 k/\Below w.heap.size w wr) (λi _=>ps.length - (intOf i).toNat)
 case atStart=>exact ⟨0,by omega,rfl,Q0 _ _⟩
 case round=>
  obtain ⟨k,hk,rfl,hB⟩:=hrel
  by_cases hlt:k<ps.length
  ·obtain ⟨b,o,cv,rfl,Hb⟩:=HR.out (by omega);have Hb:=Hb.below hB;obtain ⟨c0,c1,c2,Hc⟩:=Hb.at hlt;have HL:=qI (EG Hc);have HB:=qI hB;have Hg:=Hc.slice;unfold bG at HL;clear Hb Hc hB;generalize pd ps k=x at *;generalize cv k=d at *;obtain ⟨da,dn,dc,rfl⟩:=Hg
   go_wp2_with fail
   refine HL.out.mono ?_;rintro e w1 ⟨⟨b1,rfl⟩,He⟩;have Ha:=qI (HB.out.trans (He.mono HB.out.size));clear He HB
   rcases two b1 with e1|e1
   ·subst e1
    go_wp2
    go_roundw
    case rel=>exact ⟨k+1,by omega,by go_num,Ha.out⟩
    case measure=>simp [intOf];omega
   ·subst e1
    go_wp2
    go_ret;exact ⟨⟨_,rfl,λh=>by cases h⟩,Ha.out⟩
  ·have Hf:k=ps.length:=by omega
   subst Hf;have Ha:=qI hB;clear hB
   go_wp2
   go_ret;exact ⟨⟨_,rfl,λ_=>hl⟩,Ha.out⟩
theorem vz {w:World} {base:Nat} {e:TypeId} {size:Nat} {v:Value} {n:Nat} {xs:List Value} (h:w.ownsRow base e size v n xs) (h0:0<n) :
  ∃ g cap,v=.slice (some ⟨g,0,none⟩) n cap/\n<=cap/\cap<=maxLen/\base<=g/\g<w.heap.size/\∀ i u,xs[i]?=some u->w.cell? ⟨g,i,none⟩=some u:=by
 rcases h.2 with ⟨_,hn⟩|⟨g,cap,cur,hv,hb,hg,Hb,He,_,ht⟩
 ·omega
 ·refine ⟨g,cap,hv,Hb,He,hb,?_,λi u hu=>?_⟩
  ·rcases Nat.lt_or_ge g w.heap.size with Ha|Hc
   ·exact Ha
   ·rw [Array.getElem?_eq_none Hc] at hg;cases hg
  ·rw [<- ht,List.getElem?_take] at hu
   split at hu
   ·rename_i hi
    have hc:cur[i]?=some u:=by simpa using hu
    unfold World.cell?
    rw [hg]
    simp [hc]
   ·cases hu
def prV (l:List (Pd × Value)):List Value:=l.flatMap λx=>[.string x.1.nm,.int .i64 x.1.pr,x.2]
theorem vA (l:List (Pd × Value)):(prV l).length=l.length*3:=by
 induction l with
 | nil=>rfl
 | cons g l ih=>rw [prV,List.flatMap_cons,Q2,<- prV,ih];simp;omega
theorem vB (l:List (Pd × Value)):∀ k,(h:k<l.length)->(prV l)[k*3]?=some (.string l[k].1.nm)/\(prV l)[k*3+1]?=some (.int .i64 l[k].1.pr)/\(prV l)[k*3+2]?=some l[k].2:=by
 induction l with
 | nil=>intro k h;simp at h
 | cons x l ih=>
  intro k h;rw [prV,List.flatMap_cons,<- prV]
  match k,h with
  | 0,_=>exact ⟨rfl,rfl,rfl⟩
  | k+1,h=>
   have:=ih k (by simpa using h)
   rw [show (k+1)*3=k*3+3 by omega]
   simpa using this
def NK (W w:World) (v:Value) (l:List (Pd × Value)):Prop:=
 w.ownsRow W.heap.size 47 3 v l.length (prV l)/\∀ x∈l,af x.1=0/\aE W x.2 x.1.cs
theorem EK:(prog.info? 47).map (λi=>(i.zero,i.size,i.bytes))=some (some (.agg #[.string ByteArray.empty,.int .i64 0,.slice none 0 0]),3,48):=by kernel_rfl
end
