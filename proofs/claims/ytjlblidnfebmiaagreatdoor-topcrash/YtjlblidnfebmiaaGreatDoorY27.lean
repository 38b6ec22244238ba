import Derived.Test.YtjlblidnfebmiaaGreatDoorY24
import Derived.Test.YtjlblidnfebmiaaGreatDoorY26
import Derived.Test.YtjlblidnfebmiaaGreatDoorY21
import Derived.Sort.Walk0
set_option maxRecDepth 100000
set_option maxHeartbeats 16000000
open Go Go.RowKit Go.Shelf
attribute [local go_sem] Oper.semAt_some
open Go.Proofs.Tryz
namespace Go.Proofs.YtjlblidnfebmiaaGreatDoor
variable{F i k n on:Nat}{L many own:Int}{W:World}{a b kind nm:ByteArray}{cs:List aF}{ds:List aq}{h x:ae}{hs hs':List ae}{l:List Int}{m:ByteArray->Option Int}{ns:List ak}{p:aj}{ps:List aj}{us:Nat->Bool}
structure aJ where
 l:List ap
 op:Nat
 nd:Nat
 nb:Int
 pol:Int
structure aC where
 cp:Nat
 ds:List aq
 us:Nat->Bool
def pO (A:Nat) (l:List ap) (x:Nat):Nat:=((List.range l.length).filter λk=>A.testBit k && decide ((l.getD k aA).node=(x:Int))).length
def cO (A:Nat) (l:List ap):cD:=⟨pO A l 0,pO A l 1,pO A l 2,pO A l 3⟩
def mM (p:Nat->Bool) (ds:List aq):cD:=⟨bo p ds 0 ds.length,bo p ds 1 ds.length,bo p ds 2 ds.length,bo p ds 3 ds.length⟩
def dR (free all:cD) (nd:Nat) (many:Int):cY:=if many<=0 then ⟨true,[]⟩ else ⟨false,oj free all nd many⟩
def ed (m:aJ) (s:aC) (own:Int) (ns:List ak):List cY:=
 dR (cO s.cp m.l) (cO m.op m.l) m.nd own :: ns.map λn=>dR (mM (bH s.ds s.us n.kind) s.ds) (mM (dr s.ds n.kind) s.ds) m.nd n.many
def gi (m:aJ) (ws:List cY):aK × Bool:=if m.pol=0 then ((m.nd,true),true) else (ot m.pol m.nd ws,(ot m.pol m.nd ws).2 || decide (m.pol=1))
def dS (ds:List aq) (on:Nat):List ak->(Nat->Bool)->List Nat->Nat × (Nat->Bool) × List Nat
 | [],us,out=>(0,us,out)
 | n :: r,us,out=>if ez ds us n.kind n.many=0 then dS ds on r (fk us (dB ds us n.kind on n.many.toNat)) (out++bV (dB ds us n.kind on n.many.toNat)) else (ez ds us n.kind n.many,us,out)
def bM (m:aJ) (s:aC) (own:Int) (ns:List ak):Nat × aX × (Nat->Bool):=
 let p:=gi m (ed m s own ns)
 if p.2=false then (10,⟨0,[]⟩,s.us) else
 let t:=bT m.l s.cp own (aB (λc=>p.1.1.testBit c.node.toNat) m.l)
 if t.2≠0 then (t.2.toNat,⟨0,[]⟩,s.us) else
 let d:=dS s.ds p.1.1 ns s.us []
 if d.1≠0 then (d.1,⟨0,[]⟩,d.2.1) else (0,⟨t.1,(bV d.2.2).map λ(k:Nat)=>(k:Int)⟩,d.2.1)
def lN (m:aJ) (cs:List aF) (k:Nat) (gs:List aX) (s:aC):Nat × List aX × aC:=
 if (bM m s (bR cs (af cs k).am) (af cs k).ds).1=0 then (0,gs++[(bM m s (bR cs (af cs k).am) (af cs k).ds).2.1],⟨aI s.cp (bM m s (bR cs (af cs k).am) (af cs k).ds).2.1.cp,s.ds,(bM m s (bR cs (af cs k).am) (af cs k).ds).2.2⟩)
 else ((bM m s (bR cs (af cs k).am) (af cs k).ds).1,[],⟨s.cp,s.ds,(bM m s (bR cs (af cs k).am) (af cs k).ds).2.2⟩)
def bU (m:aJ) (s:aC) (cs:List aF):Nat->Nat × List aX × aC
 | 0=>(0,[],s)
 | k+1=>
  if (bU m s cs k).1=0 then lN m cs k (bU m s cs k).2.1 (bU m s cs k).2.2 else bU m s cs k
def aW (m:aJ) (s:aC) (p:aj):Nat × List aX:=((bU m s p.cs p.cs.length).1,(bU m s p.cs p.cs.length).2.1)
def ex (m:ByteArray->Option Int) (k:ByteArray) (v:Option Int):ByteArray->Option Int:=λx=>if x=k then v else m x
def fO (ns:List ak):ByteArray->Option Int:=ns.foldl (λm n=>ex m n.kind (some n.many)) λ_=>none
def eL (ds:List aq) (m:ByteArray->Option Int) (j:Int):ByteArray->Option Int:=
 let k:=(aH ds j.toNat).kind
 let v:=(m k).getD 0 - 1
 ex m k (if v=0 then none else some v)
def kY (ds:List aq) (l:List Int) (ns:List ak):Prop:=∀k,l.foldl (eL ds) (fO ns) k=none
open Classical in
noncomputable def eM (s:aC) (g:aX) (own:Int) (ns:List ak):Option aC:=
 if g.cp &&& s.cp=g.cp/\(az g.cp:Int)=own/\bA (eU s.ds.length s.us g.dv) g.dv.length=0 then
  if kY s.ds g.dv ns then some ⟨aI s.cp g.cp,s.ds,cM s.us g.dv⟩ else none
 else none
noncomputable def gj (s:aC) (h:ae):Nat->Option aC
 | 0=>some s
 | k+1=>(gj s h k).bind λs'=>eM s' (aG h.gs k) (bR h.pod.cs (af h.pod.cs k).am) (af h.pod.cs k).ds
noncomputable def fP (s:aC) (hs:List ae):Nat->Option aC
 | 0=>some s
 | k+1=>(fP s hs k).bind λs'=>gj s' (ah hs k) (ah hs k).gs.length
noncomputable def bi (m:aJ) (ds:List aq) (hs:List ae):Option aC:=if dV ds=0 then fP ⟨m.op,ds,λ_=>false⟩ hs hs.length else none
def bE (ps:List aj):Int:=(ps.map λp=>de p.cs p.cs.length).sum
def ci (ps:List aj):Int:=(ps.map λp=>cV p.cs p.cs.length).sum
def cr (m:aJ) (ps:List aj):Bool:=decide (bE ps<=1000*(az m.op:Int)) && decide (ci ps<=m.nb)
structure eE where
 g:aX
 own:Int
 ns:List ak
def re (ds:List aq) (x:eE):Prop:=(az x.g.cp:Int)=x.own/\kY ds x.g.dv x.ns/\(∀k,k<x.g.dv.length->0<=bx x.g.dv k/\bx x.g.dv k<ds.length/\bx x.g.dv k ∉ x.g.dv.take k)
def th (s:aC) (x:eE):Prop:=x.g.cp &&& s.cp=x.g.cp/\∀k,k<x.g.dv.length->s.us (bx x.g.dv k).toNat=false
def gM (s:aC) (x:eE):aC:=⟨aI s.cp x.g.cp,s.ds,cM s.us x.g.dv⟩
theorem zg:eU n us l k=0↔(0<=bx l k/\bx l k<n/\bx l k ∉ l.take k)/\us (bx l k).toNat=false:=by
 unfold eU
 by_cases a:bx l k<0\/(n:Int)<=bx l k
 ·grind
 ·grind
theorem kg{s i:aC}{x:eE}:eM s x.g x.own x.ns=some i↔re s.ds x/\th s x/\i=gM s x:=by
 unfold eM
 by_cases h:x.g.cp &&& s.cp=x.g.cp/\(az x.g.cp:Int)=x.own/\bA (eU s.ds.length s.us x.g.dv) x.g.dv.length=0
 ·rw[if_pos h];obtain⟨m,n,l⟩:=h;have j:=fy l
  by_cases g:kY s.ds x.g.dv x.ns
  ·rw[if_pos g];constructor
   ·intro e;injection e with e
    exact⟨⟨n,g,λk f=>(zg.1 (j k f)).1⟩,⟨m,λk f=>(zg.1 (j k f)).2⟩,e.symm⟩
   ·rintro⟨_,_,rfl⟩;rfl
  ·rw[if_neg g];exact⟨λe=>(by cases e),λe=>absurd e.1.2.1 g⟩
 ·rw[if_neg h];constructor
  ·intro e;cases e
  ·rintro⟨⟨a,b,c⟩,⟨d,e⟩,_⟩;exact absurd ⟨d,a,um λk f=>zg.2 ⟨c k f,e k f⟩⟩ h
theorem TS(h:k<l.length):bx l k∈l:=by simp[bx,h]
theorem TT{x:Int}(h:x∈l):∃k,k<l.length/\bx l k=x:=by
 obtain⟨k,a,e⟩:=List.getElem_of_mem h;exact⟨k,a,by simp[bx,a,e]⟩
theorem zh{j:Nat}:cM us l j=false↔us j=false/\(j:Int) ∉ l:=by
 unfold cM;simp
theorem TU{s:aC}{x y:eE}(h:re s.ds x)(m:re s.ds y)(d:th s x)(l:th (gM s x) y):th s y/\th (gM s y) x:=by
 have f:∀i,y.g.cp.testBit i=true->s.cp.testBit i=true/\x.g.cp.testBit i=false:=λi hi=>by
  have e:=congrArg (λn=>Nat.testBit n i) l.1;simp only[gM,Nat.testBit_and,iJ,hi,Bool.true_and] at e;cases hs:s.cp.testBit i <;> cases h:x.g.cp.testBit i <;> simp_all
 have Ha:∀i,x.g.cp.testBit i=true->s.cp.testBit i=true:=λi hi=>by
  have e:=congrArg (λn=>Nat.testBit n i) d.1
  simpa[Nat.testBit_and,hi] using e
 have ah:∀k,k<y.g.dv.length->s.us (bx y.g.dv k).toNat=false/\bx y.g.dv k ∉ x.g.dv:=λk a=>by
  have e:=zh.1 (l.2 k a);have b:=(m.2.2 k a).1;rw[Int.toNat_of_nonneg b] at e;exact e
 refine⟨⟨?_,λk a=>(ah k a).1⟩,?_,λk a=>?_⟩
 ·apply Nat.eq_of_testBit_eq;intro i;rw[Nat.testBit_and];cases hi:y.g.cp.testBit i with
  | false=>rfl
  | true=>rw[(f i hi).1];rfl
 ·apply Nat.eq_of_testBit_eq;intro i;simp only[gM,Nat.testBit_and,iJ];cases hi:x.g.cp.testBit i with
  | false=>rfl
  | true=>
   rw[Ha i hi];cases c:y.g.cp.testBit i with
   | false=>rfl
   | true=>rw[(f i c).2] at hi;cases hi
 ·refine zh.2 ⟨d.2 k a,λg=>?_⟩;have b:=(h.2.2 k a).1;rw[Int.toNat_of_nonneg b] at g;obtain⟨j,c,e⟩:=TT g;exact (ah j c).2 (by grind[TS])
theorem TV(s:aC)(x y:eE):gM (gM s x) y=gM (gM s y) x:=by
 unfold gM
 congr 1
 ·apply Nat.eq_of_testBit_eq;intro i;simp only[iJ];cases s.cp.testBit i <;> cases x.g.cp.testBit i <;> cases y.g.cp.testBit i <;> rfl
 ·grind[cM]
noncomputable def cU (s:aC):List eE->Option aC
 | []=>some s
 | x :: r=>(eM s x.g x.own x.ns).bind λs'=>cU s' r
theorem ti(a b:List eE):∀s,cU s (a++b)=(cU s a).bind λc=>cU c b:=by
 induction a with
 | nil=>intro s;rfl
 | cons x r ih=>
  intro s;rw[List.cons_append,cU,cU,Option.bind_assoc]
  congr 1
  funext c
  exact ih c
theorem Fj{s a:aC}{x:eE}(h:eM s x.g x.own x.ns=some a):a.ds=s.ds:=by
 rw[(kg.1 h).2.2];rfl
theorem TW{a b:List eE}(h:a.Perm b):∀ {s c:aC},cU s a=some c->cU s b=some c:=by
 induction h with
 | nil=>intro s c e;exact e
 | cons x _ ih=>
  intro s c e;rw[cU] at e ⊢;obtain⟨s1,f,d⟩:=Option.bind_eq_some_iff.1 e;rw[f,Option.bind_some];exact ih d
 | swap x y l=>
  intro s c e;rw[cU] at e;obtain⟨s1,f,d⟩:=Option.bind_eq_some_iff.1 e;rw[cU] at d;obtain⟨s2,j,m⟩:=Option.bind_eq_some_iff.1 d;obtain⟨g,a2,rfl⟩:=kg.1 f;obtain⟨b1,b2,rfl⟩:=kg.1 j;obtain⟨c1,c2⟩:=TU g b1 a2 b2;have i:eM s x.g x.own x.ns=some (gM s x):=kg.2 ⟨b1,c1,rfl⟩;have k:eM (gM s x) y.g y.own y.ns=some (gM (gM s x) y):=kg.2 ⟨g,c2,rfl⟩;rw[cU,i,Option.bind_some,cU,k,Option.bind_some,TV];exact m
 | trans _ _ ih1 ih2=>intro s c e;exact ih2 (ih1 e)
def lO (h:ae):List eE:=(List.range h.gs.length).map λk=>⟨aG h.gs k,bR h.pod.cs (af h.pod.cs k).am,(af h.pod.cs k).ds⟩
def kZ (hs:List ae):List eE:=hs.flatMap lO
theorem Fk(h:ae)(s:aC):∀k,gj s h k=cU s ((List.range k).map λk=>⟨aG h.gs k,bR h.pod.cs (af h.pod.cs k).am,(af h.pod.cs k).ds⟩):=by
 intro k
 induction k with
 | zero=>rfl
 | succ k ih=>
  rw[gj,ih,List.range_succ,Qj,ti]
  congr 1
  funext s'
  rw[List.map_singleton,cU];cases eM s' (aG h.gs k) (bR h.pod.cs (af h.pod.cs k).am) (af h.pod.cs k).ds <;> rfl
theorem ou(hs:List ae){s:aC}:∀k,k<=hs.length->fP s hs k=cU s (kZ (hs.take k)):=by
 intro k
 induction k with
 | zero=>intro _;rfl
 | succ k ih=>
  intro a;have Ha:k<hs.length:=a;rw[fP,ih (by omega),Qa Ha]
  show _=cU s ((hs.take k++[hs[k]]).flatMap lO)
  rw[List.flatMap_append,ti]
  show (cU s (kZ (hs.take k))).bind _=(cU s (kZ (hs.take k))).bind _
  congr 1
  funext s'
  rw[Fk];have e:ah hs k=hs[k]:=by simp[ah,Ha]
  rw[e]
  simp[lO]
theorem Fl{m:aJ}{s:aC}(b:hs.Perm hs')(h:bi m ds hs=some s):bi m ds hs'=some s:=by
 unfold bi at h ⊢
 split at h
 ·rename_i a
  rw[if_pos a];rw[ou _ _ (lR),Qh] at h ⊢;exact TW (b.flatMap_right lO) h
 ·cases h
theorem TX{m:aJ}{s a:aC}(h:bi m ds hs=some s)(c:cU s (lO x)=some a):bi m ds (hs++[x])=some a:=by
 unfold bi at h ⊢
 split at h
 ·rename_i b
  rw[if_pos b];rw[ou _ _ (lR),Qh] at h ⊢;rw[kZ,List.flatMap_append,ti];have d:cU ⟨m.op,ds,λ_=>false⟩ (hs.flatMap lO)=some s:=h;rw[d,Option.bind_some]
  simpa using c
 ·cases h
def eN (ds:List aq) (k:ByteArray) (l:List Int):Nat:=l.countP λj=>decide ((aH ds j.toNat).kind=k)
def lP (m:ByteArray->Option Int):Prop:=∀k,m k≠some 0
theorem TY(h:lP m)(k:ByteArray):m k=none↔(m k).getD 0=0:=by
 cases e:m k with
 | none=>simp
 | some v=>
  have:=h k
  rw[e] at this;constructor
  ·intro h;cases h
  ·grind
theorem Fm(h:lP m)(k:ByteArray){v:Option Int}(a:v≠some 0):lP (ex m k v):=by
 intro x;unfold ex
 split
 ·exact a
 ·exact h x
theorem TZ(ds:List aq)(h:lP m)(j:Int):lP (eL ds m j):=by
 grind[eL,Fm]
theorem T0(ds:List aq)(m:ByteArray->Option Int)(j:Int)(k:ByteArray):(eL ds m j k).getD 0=(m k).getD 0 - (if (aH ds j.toNat).kind=k then 1 else 0):=by unfold eL ex;grind
theorem T1(ds:List aq)(k:ByteArray):∀(l:List Int) (m:ByteArray->Option Int),lP m->lP (l.foldl (eL ds) m)/\(l.foldl (eL ds) m k).getD 0=(m k).getD 0 - (eN ds k l:Nat):=by
 intro l
 induction l with
 | nil=>intro m h;exact⟨h,by simp[eN]⟩
 | cons j r ih=>
  intro m h;obtain⟨b,c⟩:=ih (eL ds m j) (TZ ds h j);refine⟨b,?_⟩;rw[List.foldl_cons,c,T0];unfold eN;rw[List.countP_cons]
  by_cases a:(aH ds j.toNat).kind=k
  ·simp[a];omega
  ·simp[a]
theorem T2(ns:List ak)(h:∀n∈ns,n.many≠0):∀m,lP m->lP (ns.foldl (λm n=>ex m n.kind (some n.many)) m):=by induction ns <;> grind[Fm]
theorem Fo{ds:List aq}{l:List Int}(h:∀n∈ns,n.many≠0):kY ds l ns↔∀k,(fO ns k).getD 0=(eN ds k l:Nat):=by
 have b:lP (fO ns):=T2 ns h _ (λ_ e=>by cases e);unfold kY;refine forall_congr' λk=>?_
 obtain⟨a,c⟩:=T1 ds k l (fO ns) b;rw[TY a,c];omega
theorem zi:∀(ns:List ak) (m:ByteArray->Option Int) (k:ByteArray),(∀n∈ns,n.kind≠k)->ns.foldl (λm n=>ex m n.kind (some n.many)) m k=m k:=by
 intro ns
 induction ns with
 | nil=>intro m k _;rfl
 | cons n r ih=>
  intro m k h;rw[List.foldl_cons,ih _ k λx a=>h x (Qv _ a)];unfold ex;rw[if_neg λe=>h n (List.mem_cons_self ..) e.symm]
theorem Fp:∀(ns:List ak) (m:ByteArray->Option Int) (n:ak),n∈ns->ns.Pairwise (λa b=>a.kind≠b.kind)->ns.foldl (λm n=>ex m n.kind (some n.many)) m n.kind=some n.many:=by
 intro ns
 induction ns with
 | nil=>intro m n h;cases h
 | cons x r ih=>
  intro m n h c;rw[List.foldl_cons];obtain⟨e,d⟩:=List.pairwise_cons.1 c
  rcases List.mem_cons.1 h with rfl|h
  ·grind[zi,ex]
  ·exact ih _ n h d
theorem Fq{l:List ap}(h:(bT l F L on).2=0):(az (bT l F L on).1:Int)=L/\(bT l F L on).1 &&& F=(bT l F L on).1:=by
 unfold bT at h ⊢
 split
 ·grind
 ·rename_i a
  rw[if_neg a] at h
  split
  ·grind
  ·rename_i b
   have:=Sz (l:=l) (F:=F) (L:=L) on (by omega) (by omega) rfl
   exact⟨this.1,this.2.1⟩
def k9 (ds:List aq) (k:ByteArray) (l:List Nat):Nat:=l.countP λj=>decide ((aH ds j).kind=k)
def mN (k:ByteArray) (ns:List ak):Int:=(ns.map λn=>if n.kind=k then n.many else 0).sum
theorem Fr{m:Nat}(h:ez ds us kind many=0):((dB ds us kind m many.toNat).length:Int)=many:=by
 grind[ez,dB,AW]
theorem T3{m:Nat}(k:ByteArray):k9 ds k (dB ds us kind m n)=if kind=k then (dB ds us kind m n).length else 0:=by
 unfold k9
 by_cases a:kind=k
 ·rw[if_pos a,List.countP_eq_length];intro j b;have h:=(oR b).2;simp only[bH,Bool.and_eq_true,Qp] at h
  simp[h.1.1,a]
 ·rw[if_neg a,List.countP_eq_zero];intro j b;have h:=(oR b).2;simp only[bH,Bool.and_eq_true,Qp] at h
  simp[h.1.1,a]
structure T4 (ds:List aq) (ns:List ak) (us us':Nat->Bool) (new:List Nat):Prop where
 nodup:new.Nodup
 free:∀j∈new,j<ds.length/\us j=false
 used:∀j,us' j=(us j || decide (j∈new))
 kinds:∀k,(k9 ds k new:Int)=mN k ns
theorem Fs(s:ds.length<=16)(on:Nat):∀(ns:List ak) (us:Nat->Bool) (c:List Nat),(dS ds on ns us c).1=0->∃f,(dS ds on ns us c).2.2=c++f/\T4 ds ns us (dS ds on ns us c).2.1 f:=by
 intro ns
 induction ns with
 | nil=>intro us c _;exact⟨[],by simp[dS],⟨List.nodup_nil,λ_ h=>(List.not_mem_nil h).elim,λj=>by simp[dS],λk=>by simp[k9,mN]⟩⟩
 | cons n r ih=>
  intro us c h;rw[dS] at h ⊢
  by_cases hf:ez ds us n.kind n.many=0
  ·rw[if_pos hf] at h ⊢;obtain⟨f,e,t⟩:=ih _ _ h;have Ha:∀j∈dB ds us n.kind on n.many.toNat,j<16:=λj i=>by have:=(oR i).1;omega
   have l:=uk Ha (uj ds us n.kind on n.many.toNat);refine⟨bV (dB ds us n.kind on n.many.toNat)++f,by grind,⟨?_,?_,?_,?_⟩⟩
   ·rw[List.nodup_append];refine⟨l.nodup_iff.2 (uj ds us n.kind on n.many.toNat),t.nodup,λa q b p o=>?_⟩;subst o;have d:=(t.free a p).2;unfold fk at d;rw[Bool.or_eq_false_iff,decide_eq_false_iff_not] at d;exact d.2 (l.mem_iff.1 q)
   ·intro j i
    rcases Qi.1 i with i|i
    ·have d:=oR (l.mem_iff.1 i);refine⟨d.1,?_⟩;have g:=d.2;simp only[bH,Bool.and_eq_true,Bool.not_eq_true'] at g;exact g.2
    ·have d:=t.free j i;refine⟨d.1,?_⟩;have g:=d.2;unfold fk at g;rw[Bool.or_eq_false_iff] at g;exact g.1
   ·intro j;rw[t.used j];unfold fk;rw[Bool.or_assoc]
    congr 1
    rw[<- Bool.decide_or];apply decide_eq_decide.2;rw[Qi,l.mem_iff]
   ·intro k;unfold k9;rw[List.countP_append,l.countP_eq];have d:=T3 (ds:=ds) (us:=us) (kind:=n.kind) (m:=on) (n:=n.many.toNat) k;unfold k9 at d;rw[d];have g:=t.kinds k;unfold k9 at g;have u:=Fr (m:=on) hf;unfold mN;rw[Qq,List.sum_cons];unfold mN at g
    by_cases v:n.kind=k
    ·grind
    ·grind
  ·grind
theorem Ft{α:Type}(l:List α):(l.map λ_=>(0:Int)).sum=0:=by induction l <;> grind
theorem T5(d:ns.Pairwise λa b=>a.kind≠b.kind)(k:ByteArray):mN k ns=(fO ns k).getD 0:=by
 by_cases h:∃n∈ns,n.kind=k
 ·obtain⟨n,c,rfl⟩:=h;unfold fO;rw[Fp ns _ n c d]
  show mN n.kind ns=n.many
  induction ns with
  | nil=>cases c
  | cons x r ih=>
   obtain⟨e,f⟩:=List.pairwise_cons.1 d;unfold mN;rw[Qq,List.sum_cons]
   rcases List.mem_cons.1 c with rfl|c
   ·grind[List.map_congr_left,Ft]
   ·grind[mN]
 ·simp_all[fO,zi,mN,List.map_congr_left,Ft]
def eF (l:List Nat):List Int:=l.map λ(k:Nat)=>(k:Int)
theorem T6(ds:List aq)(k:ByteArray)(l:List Nat):eN ds k (eF l)=k9 ds k l:=by
 unfold eN k9 eF;rw[List.countP_map];rfl
theorem T7{l:List Nat}{j:Nat}:(j:Int)∈eF l↔j∈l:=by
 grind[eF]
theorem zj{l:List Nat}(h:k<l.length):bx (eF l) k=(l[k]:Int):=by simp[bx,eF,h]
theorem T8(h:l.Nodup)(a:k<l.length):bx l k ∉ l.take k:=by
 grind[bx,List.take_append_drop]
theorem T9{l:List Nat}(h:l.Nodup):(eF l).Nodup:=by
 grind[eF]
theorem Fu(l:List ap)(F:Nat)(L:Int)(on:Nat):(bT l F L on).2=0\/(bT l F L on).2=1\/(bT l F L on).2=8:=by
 grind[bT]
theorem Ua{m:aJ}{s:aC}(l:s.ds.length<=16)(r:∀n∈ns,n.many≠0)(q:ns.Pairwise λa b=>a.kind≠b.kind)(h:(bM m s own ns).1=0) :
  eM s (bM m s own ns).2.1 own ns=some ⟨aI s.cp (bM m s own ns).2.1.cp,s.ds,(bM m s own ns).2.2⟩:=by
 unfold bM at h ⊢;dsimp only at h ⊢
 split
 ·grind
 ·rename_i p
  rw[if_neg p] at h
  split
  ·grind[Fu]
  ·rename_i u
   rw[if_neg u] at h
   split
   ·grind
   ·rename_i w
    have ah:(dS s.ds (gi m (ed m s own ns)).1.1 ns s.us []).1=0:=by omega
    obtain⟨d,e,t⟩:=Fs l _ ns s.us [] ah;have o:=Fq (show (bT m.l s.cp own (aB (λc=>(gi m (ed m s own ns)).1.1.testBit c.node.toNat) m.l)).2=0 by omega);generalize (bT m.l s.cp own (aB (λc=>(gi m (ed m s own ns)).1.1.testBit c.node.toNat) m.l)).1=cp at *;generalize (dS s.ds (gi m (ed m s own ns)).1.1 ns s.us []).2.1=f at *;rw[e,List.nil_append];have Hc:∀j∈d,j<16:=λj v=>by have:=(t.free j v).1;omega
    have Hb:=uk Hc t.nodup;have key:eM s (⟨⟨cp,eF (bV d)⟩,own,ns⟩:eE).g own ns=some (gM s ⟨⟨cp,eF (bV d)⟩,own,ns⟩):=by
     refine (kg (x:=⟨⟨cp,eF (bV d)⟩,own,ns⟩)).2 ⟨⟨o.1,?_,λk g=>?_⟩,⟨o.2,λk g=>?_⟩,rfl⟩
     ·refine (Fo r).2 λk=>?_
      rw[<- T5 q,<- t.kinds k]
      show ((k9 s.ds k d:Nat):Int)=((eN s.ds k (eF (bV d)):Nat):Int)
      rw[T6];unfold k9;rw[Hb.countP_eq]
     ·have Ha:k<(bV d).length:=by simpa[eF] using g
      show 0<=bx (eF (bV d)) k/\bx (eF (bV d)) k<(s.ds.length:Int)/\bx (eF (bV d)) k ∉ (eF (bV d)).take k
      refine⟨?_,?_,T8 (T9 (Hb.nodup_iff.2 t.nodup)) g⟩
      ·grind[zj]
      ·rw[zj Ha]
       have:=(t.free _ (Hb.mem_iff.1 (List.getElem_mem Ha))).1
       omega
     ·have Ha:k<(bV d).length:=by simpa[eF] using g
      show s.us (bx (eF (bV d)) k).toNat=false
      rw[zj Ha,Int.toNat_natCast];exact (t.free _ (Hb.mem_iff.1 (List.getElem_mem Ha))).2
    have i:cM s.us (eF (bV d))=f:=by
     funext j
     rw[t.used j];unfold cM
     congr 1
     apply decide_eq_decide.2;rw[T7,Hb.mem_iff]
    show eM s ⟨cp,eF (bV d)⟩ own ns=some ⟨aI s.cp cp,s.ds,f⟩
    rw[<- i];exact key
def zk (cs:List aF):Prop:=∀c∈cs,(∀n∈c.ds,n.many≠0)/\c.ds.Pairwise λa b=>a.kind≠b.kind
def ld (cs:List aF) (gs:List aX) (i:Nat):eE:=⟨aG gs i,bR cs (af cs i).am,(af cs i).ds⟩
theorem tj(m:aJ)(s:aC)(cs:List aF):∀k,(bU m s cs k).1=0->(bU m s cs k).2.1.length=k:=by
 intro k
 induction k with
 | zero=>intro _;rfl
 | succ k ih=>
  intro h;rw[bU] at h ⊢
  by_cases a:(bU m s cs k).1=0
  ·grind[lN]
  ·grind
theorem zl{m:aJ}{s:aC}(c:s.ds.length<=16)(d:zk cs):∀k,k<=cs.length->(bU m s cs k).1=0->cU s ((List.range k).map (ld cs (bU m s cs k).2.1))=some (bU m s cs k).2.2/\(bU m s cs k).2.2.ds=s.ds:=by
 intro k
 induction k with
 | zero=>intro _ _;exact⟨rfl,rfl⟩
 | succ k ih=>
  intro o h;have j:=tj m s cs k;rw[bU] at h ⊢
  by_cases b:(bU m s cs k).1=0
  ·rw[if_pos b] at h ⊢;obtain⟨l,i2⟩:=ih (by omega) b;have Hb:=j b;generalize (bU m s cs k).2.1=gs at *;generalize (bU m s cs k).2.2=a at *;unfold lN at h ⊢
   by_cases f:(bM m a (bR cs (af cs k).am) (af cs k).ds).1=0
   ·rw[if_pos f];have e:af cs k∈cs:=mw (by omega);have Ha:=Ua (m:=m) (s:=a) (own:=bR cs (af cs k).am) (ns:=(af cs k).ds) (by rw[i2];exact c) (d _ e).1 (d _ e).2 f;refine⟨?_,i2⟩;generalize bM m a (bR cs (af cs k).am) (af cs k).ds=g at *;dsimp only;rw[List.range_succ,Qj,ti];have n:(List.range k).map (ld cs (gs++[g.2.1]))=(List.range k).map (ld cs gs):=by
     grind[List.map_congr_left,ld,aG]
    rw[n,l,Option.bind_some,List.map_singleton,cU];have i:ld cs (gs++[g.2.1]) k=⟨g.2.1,bR cs (af cs k).am,(af cs k).ds⟩:=by
     grind[ld,aG]
    rw[i,Ha];rfl
   ·grind
  ·grind
theorem Fv{m:aJ}{s:aC}(f:bi m ds hs=some s)(a:s.ds.length<=16)(c:zk p.cs)(b:(aW m s p).1=0)(d:(hs++[(⟨p,(aW m s p).2⟩:ae)]).Perm hs') :
  bi m ds hs'=some (bU m s p.cs p.cs.length).2.2:=by
 refine Fl d (TX f ?_);have h:=(zl a c p.cs.length (lR) b).1;have Ha:=tj m s p.cs p.cs.length b;unfold lO
 show cU s ((List.range (aW m s p).2.length).map (ld p.cs (aW m s p).2))=_
 have e:(aW m s p).2.length=p.cs.length:=Ha;rw[e];exact h
theorem Ub{m:aJ}{ds:List aq}{c:List ae}{s:aC}(h:bi m ds hs=some s)(b:c.Sublist hs):∃d,bi m ds c=some d:=by
 obtain⟨rest,f⟩:=b.exists_perm_append;have a:=Fl f h;unfold bi at a ⊢
 split at a
 ·rename_i e
  rw[if_pos e];rw[ou _ _ (lR),Qh] at a ⊢;rw[kZ,List.flatMap_append,ti] at a;obtain⟨s1,g,_⟩:=Option.bind_eq_some_iff.1 a;exact⟨s1,g⟩
 ·cases a
theorem Fw{m:aJ}{ds:List aq}(h:dV ds=0):bi m ds []=some ⟨m.op,ds,λ_=>false⟩:=by
 unfold bi;rw[if_pos h];rfl
theorem zm{s a:aC}:∀ {l:List eE},cU s l=some a->a.ds=s.ds:=by
 intro l
 induction l generalizing s with
 | nil=>intro h;injection h with h;rw[h]
 | cons x r ih=>
  intro h;rw[cU] at h;obtain⟨s1,c,b⟩:=Option.bind_eq_some_iff.1 h;rw[ih b,Fj c]
theorem lg{m:aJ}{s:aC}(h:bi m ds hs=some s):s.ds=ds:=by
 unfold bi at h
 split at h
 ·rw[ou _ _ (lR),Qh] at h;exact zm h
 ·cases h
theorem Uc{a:Nat->Bool}(h:∀j,(aH ds j).kind=kind->us j=a j):ez ds us kind many=ez ds a kind many:=by
 grind[bH,AU,ez]
theorem Ud(on g:Nat):∀(ns:List ak) (us d:Nat->Bool) (f c:List Nat),ns.Pairwise (λa b=>a.kind≠b.kind)->(∀n∈ns,∀j,(aH ds j).kind=n.kind->us j=d j)->(dS ds on ns us f).1=(dS ds g ns d c).1:=by
 intro ns
 induction ns with
 | nil=>intro us d f c _ _;rfl
 | cons n r ih=>
  intro us d f c p h;obtain⟨m,s⟩:=List.pairwise_cons.1 p;have e:=Uc (many:=n.many) (h n (List.mem_cons_self ..));rw[dS,dS,<- e]
  by_cases hf:ez ds us n.kind n.many=0
  ·rw[if_pos hf,if_pos hf];refine ih _ _ _ _ s λx l j k=>?_
   have Ha:∀(u:Nat->Bool) (o:Nat),j ∉ dB ds u n.kind o n.many.toNat:=λu o q=>by
    have i:=(oR q).2;simp only[bH,Bool.and_eq_true,Qp] at i;exact m x l (i.1.1.symm.trans k)
   unfold fk;rw[h x (Qv _ l) j k,Q7 (Ha us on),Q7 (Ha d g)]
  ·grind
theorem Ue(l:List ap)(F:Nat)(L:Int)(on a:Nat):(bT l F L on).2=(bT l F L a).2:=by
 grind[bT]
theorem Uf{m:aJ}{s:aC}(e:ns.Pairwise λa b=>a.kind≠b.kind):(bM m s own ns).1=0↔(gi m (ed m s own ns)).2=true/\(bT m.l s.cp own 0).2=0/\(dS s.ds 0 ns s.us []).1=0:=by
 unfold bM;dsimp only;generalize hpl:gi m (ed m s own ns)=d;rw[Ue m.l s.cp own 0 (aB (λc=>d.1.1.testBit c.node.toNat) m.l),Ud 0 d.1.1 ns s.us s.us [] [] e λ_ _ _ _=>rfl];have g:=Fu m.l s.cp own (aB (λc=>d.1.1.testBit c.node.toNat) m.l)
 by_cases f:d.2=false
 ·grind
 ·grind
def eO (a b:ByteArray):Prop:=a.toList<b.toList
theorem vI(a:ByteArray):¬ eO a a:=List.lt_irrefl _
theorem vJ{c:ByteArray}(h:eO a b)(k:eO b c):eO a c:=List.lt_trans h k
theorem Fx(h:a≠b):eO a b\/eO b a:=by
 grind[eO,Qs,ByteArray.ext]
theorem zn:ei a b=false↔eO b a:=by
 grind[ei,eO,Go.Proofs.bytesLess_eq]
def lQ (hs:List ae):Prop:=hs.Pairwise λa b=>eO a.pod.nm b.pod.nm
theorem zo(h:i+1<hs.length):qy hs (i+1)=false↔eO (hs[i]'(by omega)).pod.nm hs[i+1].pod.nm:=by grind[qy,zn,ah]
theorem zp:lQ hs↔∀i,i<hs.length->qy hs i=false:=by
 constructor
 ·intro h i hi;cases i with
  | zero=>rfl
  | succ i=>exact (zo hi).2 (List.pairwise_iff_getElem.1 h i (i+1) (by omega) hi (by omega))
 ·intro h;have key:∀d i (hi:i+d+1<hs.length),eO (hs[i]'(by omega)).pod.nm hs[i+d+1].pod.nm:=by
   intro d
   induction d with
   | zero=>intro i hi;exact (zo hi).1 (h _ hi)
   | succ d ih=>
    intro i hi;exact vJ (ih i (by omega)) ((zo hi).1 (h _ hi))
  refine List.pairwise_iff_getElem.2 λi j hi b a=>?_
  obtain⟨d,rfl⟩:∃d,j=i+d+1:=⟨j - i - 1,by omega⟩;exact key d i b
theorem dm:bS hs=0↔hs.length<=12/\(∀h∈hs,br h.pod=0/\h.gs.length=h.pod.cs.length/\se h.gs=0)/\lQ hs:=by
 unfold bS
 by_cases c:12<hs.length
 ·grind
 ·rw[if_neg c];have one:∀(h:ae) (b:Bool),gB h b=0↔br h.pod=0/\b=false/\h.gs.length=h.pod.cs.length/\se h.gs=0:=by
   intro h b;unfold gB
   by_cases d:br h.pod≠0
   ·grind
   ·grind
  constructor
  ·intro h;have Ha:=fy h;refine⟨by omega,λx e=>?_,zp.2 λi hi=>((one _ _).1 (Ha i hi)).2.1⟩;obtain⟨k,a,rfl⟩:=uy e
   have:=(one _ _).1 (Ha k a)
   exact⟨this.1,this.2.2.1,this.2.2.2⟩
  ·rintro⟨_,d,f⟩;refine um λk a=>?_
   have:=d _ (nF a)
   exact (one _ _).2 ⟨this.1,zp.1 f k a,this.2.1,this.2.2⟩
def dT (hs:List ae) (nm:ByteArray):Nat:=hs.countP λh=>decide (h.pod.nm.toList<nm.toList)
def ct (hs:List ae) (x:ae):List ae:=hs.take (dT hs x.pod.nm)++x :: hs.drop (dT hs x.pod.nm)
theorem zt(hs:List ae)(x:ae):(hs++[x]).Perm (ct hs x):=by
 unfold ct;have a:=List.perm_append_singleton x hs;have b:(x :: hs).Perm (x :: (hs.take (dT hs x.pod.nm)++hs.drop (dT hs x.pod.nm))):=by simp
 exact a.trans (b.trans List.perm_middle.symm)
theorem Ug(h:lQ hs)(nm:ByteArray):(∀y∈hs.take (dT hs nm),eO y.pod.nm nm)/\∀y∈hs.drop (dT hs nm),¬ eO y.pod.nm nm:=by
 induction hs with
 | nil=>exact⟨λy a=>by simp[dT] at a,λy a=>by simp[dT] at a⟩
 | cons x r ih=>
  obtain⟨f,d⟩:=List.pairwise_cons.1 h;obtain⟨c,i2⟩:=ih d
  by_cases b:x.pod.nm.toList<nm.toList
  ·have e:dT (x :: r) nm=dT r nm+1:=by grind[dT]
   rw[e,List.take_succ_cons,List.drop_succ_cons];refine⟨λy a=>?_,i2⟩
   rcases List.mem_cons.1 a with rfl|a
   ·exact b
   ·exact c y a
  ·grind[eO,dT,List.countP_eq_zero]
theorem Fy(h:lQ hs)(k:∀y∈hs,y.pod.nm≠x.pod.nm):lQ (ct hs x):=by
 obtain⟨e,l⟩:=Ug h x.pod.nm;have Ha:=h;unfold lQ ct at *;rw[<- List.take_append_drop (dT hs x.pod.nm) hs,List.pairwise_append] at Ha;obtain⟨g,i,f⟩:=Ha;have Hb:∀y∈hs.drop (dT hs x.pod.nm),eO x.pod.nm y.pod.nm:=λy j=>by
  grind[Fx]
 rw[List.pairwise_append,List.pairwise_cons];refine⟨g,⟨Hb,i⟩,λa d b c=>?_⟩
 rcases List.mem_cons.1 c with rfl|c
 ·exact e a d
 ·exact f a d b c
theorem zu(b:ByteArray)(c:Int)(cv a:Value)(nm:ByteArray)(w:World):CB 90 #[.agg #[b,c,cv,a],nm] w (bN b nm:Int):=by
 have d:=qI ((Q0 w w).alloc (lR) (.cells #[b,c,cv,a] 101))
 go_enter func90,ntmps90
 go_wp2
 refine (wW b nm).e ?_
 go_wp2
 go_ret;exact⟨rfl,d⟩
theorem mO:bN a b<0↔eO a b:=by
 unfold bN eO;have e:bJ a b=decide (a.toList<b.toList):=Go.Proofs.bytesLess_eq _ _;rw[e]
 by_cases h:a.toList<b.toList
 ·simp[h]
 ·grind
theorem Uh{a:Nat}(l:a<=hs.length)(g:∀t,t<a->eO (ah hs t).pod.nm nm)(i:∀t,a<=t->t<hs.length->¬ eO (ah hs t).pod.nm nm):dT hs nm=a:=by
 unfold dT;rw[<- List.take_append_drop a hs,List.countP_append];have j:(hs.take a).countP (λh=>decide (h.pod.nm.toList<nm.toList))=(hs.take a).length:=by
  rw[List.countP_eq_length];intro x b;obtain⟨k,c,rfl⟩:=List.getElem_of_mem b;rw[Qu] at c
  have:=g k (by omega)
  have e:ah hs k=(hs.take a)[k]'(by omega):=by grind[ah]
  rw[e] at this;exact Qc this
 have d:(hs.drop a).countP (λh=>decide (h.pod.nm.toList<nm.toList))=0:=by
  rw[List.countP_eq_zero];intro x b;obtain⟨k,c,rfl⟩:=List.getElem_of_mem b;rw[List.length_drop] at c
  have:=i (a+k) (by omega) (by omega)
  have e:ah hs (a+k)=(hs.drop a)[k]'(by omega):=by grind[ah]
  rw[e] at this;have f:¬ ((hs.drop a)[k]'(by omega)).pod.nm.toList<nm.toList:=this;rw[Q7 f];decide
 rw[j,d,Qu];omega
def dN (hs:List ae) (nm:ByteArray):Bool:=hs.any λh=>decide (h.pod.nm=nm)
theorem zv(c:lQ hs){j:Nat}(a:i<j)(b:j<hs.length):eO (ah hs i).pod.nm (ah hs j).pod.nm:=by
 have:=List.pairwise_iff_getElem.1 c i j (by omega) b a
 have e:ah hs i=hs[i]'(by omega):=by grind[ah]
 have d:ah hs j=hs[j]:=by simp[ah,b]
 rw[e,d];exact this
theorem Fz(f:lQ hs){a:Nat}(i:∀t,t<a->bN (ah hs t).pod.nm nm<0)(h:∀t,a<=t->t<hs.length->¬ bN (ah hs t).pod.nm nm<0)(d:a<hs.length->(ah hs a).pod.nm≠nm):dN hs nm=false:=by
 unfold dN;rw[List.any_eq_false];intro x g;obtain⟨t,c,rfl⟩:=uy g;intro e;have e:=of_decide_eq_true e
 by_cases c1:t<a
 ·grind[mO,vI]
 ·by_cases c2:t=a
  ·subst c2;exact d c e
  ·have b:=zv f (show a<t by omega) c;rw[e] at b;exact h a (lR) (by omega) (mO.2 b)
theorem FA:bN a b=0↔a=b:=by
 constructor
 ·intro h;apply Qt;intro Ha
  rcases Fx Ha with k|k
  ·have:=mO.2 k;omega
  ·have d:bJ b a=true:=by
    have e:bJ b a=decide (b.toList<a.toList):=Go.Proofs.bytesLess_eq _ _;rw[e];exact Qc k
   unfold bN at h
   split at h
   ·cases h
   ·omega
 ·rintro rfl;have c:bJ a a=false:=by
   grind[bJ,Go.Proofs.bytesLess_eq]
  unfold bN;rw[c];rfl
theorem Ui{v:Value}{hs:List ae}(nm:ByteArray){w:World}(h:bf w v hs)(K:hs.length<=100)(p:lQ hs):CB 89 #[v,nm,.func (.func 90) #[] #[]] w (.tuple #[.int .i64 (dT hs nm:Nat),.bool (dN hs nm)]):=by
 have Hf:=qI p;obtain⟨L,c,rfl,J,B⟩:=h;unfold maxLen at J;have A:=qI B;clear B p
 go_enter func89,ntmps89
 go_wp2
 go_loopw [9,10] (λi j wr=>∃a b:Nat,a<=b/\b<=hs.length/\i=.int .i64 a/\j=.int .i64 b/\Hu (∀t,t<a->bN (ah hs t).pod.nm nm<0)/\Hu (∀t,b<=t->t<hs.length->0<=bN (ah hs t).pod.nm nm)/\Bw w wr) (λi j _=>(intOf j).toNat - (intOf i).toNat)
 exact⟨0,hs.length,by omega,by omega,rfl,rfl,λt y=>by omega,λt k g=>by omega,Q0 _ _⟩
 ·obtain⟨a,b,Ho,E,rfl,rfl,Hg,Hh,Ha⟩:=hrel;have d:=qI Ha
  by_cases I:a<b
  ·obtain⟨m,Hp⟩:∃m:Nat,((a:Int)+(b:Int)) / 2=(m:Int):=⟨(a+b) / 2,by omega⟩;have Hm:a<=m:=by omega
   have Hn:m<b:=by omega
   obtain⟨D,o,cv,f,rfl,He⟩:=A.o (by omega);obtain⟨C,F,H,G⟩:=((He.below Ha).2 m (by omega)).1;clear He Ha
   by_cases r:bN (ah hs m).pod.nm nm<0
   ·have Hl:Hu (∀t,t<m+1->bN (ah hs t).pod.nm nm<0):=λt y=>by
     by_cases e:t=m
     ·rw[e];exact r
     ·exact mO.2 (vJ (zv Hf (show t<m by omega) (by omega)) (mO.1 r))
    have l:=qI (zu (ah hs m).pod.nm (ah hs m).pod.pr (cv m) (f m) nm wr);generalize bN (ah hs m).pod.nm nm=z at *
    go_wp2
    refine l.o.m λu Hb=>?_;have Hc:=d.t Hb;clear Hb
    go_wp2
    go_roundw
    exact⟨m+1,b,by omega,by omega,by go_num,rfl,Hl,Hh,Hc⟩
    simp[intOf];omega
   ·have Hk:Hu (∀t,m<=t->t<hs.length->0<=bN (ah hs t).pod.nm nm):=λt k g=>by
     refine Int.not_lt.1 λs=>?_
     by_cases e:t=m
     ·grind
     ·exact r (mO.2 (vJ (zv Hf (show m<t by omega) g) (mO.1 s)))
    have l:=qI (zu (ah hs m).pod.nm (ah hs m).pod.pr (cv m) (f m) nm wr);generalize bN (ah hs m).pod.nm nm=z at *
    go_wp2
    refine l.o.m λu Hb=>?_;have Hc:=d.t Hb;clear Hb
    go_wp2
    go_roundw
    exact⟨a,m,by omega,by omega,rfl,rfl,Hg,Hk,Hc⟩
    simp[intOf];omega
  ·have Hj:b=a:=by omega
   subst Hj;have Hi:=qI (Uh E (λt y=>mO.1 (Hg.o t y)) λt k g s=>Int.not_lt.2 (Hh.o t k g) (mO.2 s))
   by_cases x:b<hs.length
   ·obtain⟨D,o,cv,f,rfl,He⟩:=A.o (by omega);obtain⟨C,F,H,G⟩:=((He.below Ha).2 b x).1;clear He Ha;have l:=qI (zu (ah hs b).pod.nm (ah hs b).pod.pr (cv b) (f b) nm wr)
    by_cases q:bN (ah hs b).pod.nm nm=0
    ·have n:Hu (dN hs nm=true):=List.any_eq_true.2 ⟨ah hs b,nF x,Qc (FA.1 q)⟩;rw[q] at l
     go_wp2
     refine l.o.m λu Hb=>?_;have Hc:=d.t Hb;clear Hb
     go_wp2
     go_ret2;exact⟨by rw[Hi.o,n.o];rfl,Hc⟩
    ·have n:Hu (dN hs nm=false):=Fz Hf Hg (λt k g=>Int.not_lt.2 (Hh.o t k g)) λ_ e=>q (FA.2 e);have Hq:(bN (ah hs b).pod.nm nm == 0)=false:=by simpa using q
     generalize bN (ah hs b).pod.nm nm=z at *
     go_wp2
     refine l.o.m λu Hb=>?_;have Hc:=d.t Hb;clear Hb
     go_wp2
     go_ret2;exact⟨by rw[Hi.o,n.o];rfl,Hc⟩
   ·have n:Hu (dN hs nm=false):=Fz Hf Hg (λt k g=>Int.not_lt.2 (Hh.o t k g)) λh=>absurd h x
    go_wp2
    go_ret2;exact⟨by rw[Hi.o,n.o];rfl,d⟩
theorem FB{v:Value}{hs:List ae}(nm:ByteArray){w:World}(h:bf w v hs)(f:hs.length<=100)(d:lQ hs):CB 49 #[v,nm] w (.tuple #[.int .i64 (dT hs nm:Nat),.bool (dN hs nm)]):=by
 have HS:=qI (Ui nm h f d);obtain⟨g,c,rfl,j,_⟩:=h;generalize dT hs nm=a at *;generalize dN hs nm=b at *
 go_enter func49,ntmps49
 go_wp2
 refine HS.o.m λi Ha=>?_;have Hb:=qI Ha;clear Ha
 go_wp2
 go_ret2;exact⟨rfl,Hb⟩
theorem Uj{a:List Nat}:fo (eF (bV a))=0:=by grind[eF,bV,rR,fo,um,iX,ui,AT,List.getElem_mem,List.pairwise_iff_getElem]
theorem Uk{m:aJ}{s:aC}:fo (bM m s own ns).2.1.dv=0:=by
 unfold bM;dsimp only
 split
 ·rfl
 ·split
  ·rfl
  ·split
   ·rfl
   ·exact Uj
theorem zw{m:aJ}{s:aC}:∀k,∀g∈(bU m s cs k).2.1,fo g.dv=0:=by
 intro k
 induction k with
 | zero=>intro g a;cases a
 | succ k ih=>
  rw[bU]
  split
  ·grind[lN,Uk]
  ·exact ih
theorem zx{gs:List aX}(h:∀g∈gs,fo g.dv=0):se gs=0:=um λ_ a=>h _ (uz a)
theorem Ul{ds:List ak}(h:bA (iT ds) ds.length=0):(∀n∈ds,n.many≠0)/\ds.Pairwise λa b=>a.kind≠b.kind:=by
 have g:=fy h;have c:∀k,k<ds.length->1<=(ar ds k).many/\(0<k->ei (ar ds k).kind (ar ds (k - 1)).kind=false):=λk m=>by
  have:=g k m
  unfold iT at this
  split at this
  ·cases this
  ·grind
 constructor
 ·grind[BS]
 ·have e:∀i (hi:i<ds.length),ar ds i=ds[i]:=λi hi=>by simp[ar,hi]
  have key:∀d i (hi:i+d+1<ds.length),eO (ds[i]'(by omega)).kind ds[i+d+1].kind:=by
   intro d
   induction d with
   | zero=>
    intro i hi
    have:=zn.1 ((c (i+1) hi).2 (by omega))
    rw[e (i+1) hi,show i+1 - 1=i by omega,e i (by omega)] at this;exact this
   | succ d ih=>
    intro i hi
    have:=zn.1 ((c (i+(d+1)+1) hi).2 (by omega))
    rw[e _ hi,show i+(d+1)+1 - 1=i+d+1 by omega,e (i+d+1) (by omega)] at this;exact vJ (ih i (by omega)) this
  refine List.pairwise_iff_getElem.2 λi j hi o l f=>?_
  obtain⟨d,rfl⟩:∃d,j=i+d+1:=⟨j - i - 1,by omega⟩
  have:=key d i o
  rw[f] at this;exact vI _ this
theorem rf(h:br p=0):zk p.cs:=by
 intro c a;obtain⟨k,b,rfl⟩:=BU a;unfold br at h
 split at h
 ·cases h
 ·grind[fy,ej,Ul]
structure aT where
 m:aJ
 ds:List aq
 hs:List ae
structure eG (t:aT):Prop where
 devs:dV t.ds=0
 held:bS t.hs=0
 left:∃s,bi t.m t.ds t.hs=some s
open Classical in
noncomputable def aV (t:aT) (p:aj):Nat × List ae:=
 if br p≠0 then (br p,t.hs) else
 if ∃h∈t.hs,h.pod.nm=p.nm then (5,t.hs) else
 if 12<=t.hs.length then (2,t.hs) else
 if cr t.m (t.hs.map ae.pod++[p])=false then (7,t.hs) else
 if (aW t.m ((bi t.m t.ds t.hs).getD ⟨0,[],λ_=>false⟩) p).1≠0 then ((aW t.m ((bi t.m t.ds t.hs).getD ⟨0,[],λ_=>false⟩) p).1,t.hs) else
 if 6000<(bw (ct t.hs ⟨p,(aW t.m ((bi t.m t.ds t.hs).getD ⟨0,[],λ_=>false⟩) p).2⟩)).length then (2,t.hs) else
 (0,ct t.hs ⟨p,(aW t.m ((bi t.m t.ds t.hs).getD ⟨0,[],λ_=>false⟩) p).2⟩)
theorem Um{t:aT}(h:eG t)(p:aj):eG { t with hs:=(aV t p).2 }:=by
 unfold aV;obtain⟨s,hs⟩:=h.left;rw[hs,Option.getD_some]
 split
 ·exact h
 rename_i j
 split
 ·exact h
 rename_i f
 split
 ·exact h
 rename_i i
 split
 ·exact h
 split
 ·exact h
 rename_i k
 split
 ·exact h
 have b:br p=0:=by omega
 have c:(aW t.m s p).1=0:=by omega
 have Hc:s.ds.length<=16:=by rw[lg hs];exact (lr h.devs).1
 obtain⟨g,a2,a3⟩:=dm.1 h.held;have Hb:(aW t.m s p).2.length=p.cs.length:=tj t.m s p.cs p.cs.length c;have Ha:=zt t.hs ⟨p,(aW t.m s p).2⟩;refine⟨h.devs,dm.2 ⟨?_,λx a=>?_,Fy a3 λy d e=>f ⟨y,d,e⟩⟩,⟨_,Fv hs Hc (rf b) c Ha⟩⟩
 ·grind[ct]
 ·rcases Qi.1 (Ha.mem_iff.2 a) with a|a
  ·exact a2 x a
  ·rw[Qm.1 a];exact⟨b,Hb,zx (zw p.cs.length)⟩
theorem Un(hf:bS [h]=0)(k:∀g∈h.gs,g.cp<18446744073709551616)(i:h.pod.cs.length=1):(bw [h]).length<=6000:=by
 have ok:=si hf (λx l g m=>by grind);have f:=ok.2 h (Qm.2 rfl);have a:=xi f.1;have b:=xj f 1 (by omega);have c:=sj (dL [h]);have e:dL [h]=[]++(kF h.pod++fV h h.pod.cs.length):=rfl;have j:(dL [h]).length=(kF h.pod).length+(fV h 1).length:=by rw[e,i];simp
 have d:bw [h]=dL [h]++dZ (dL [h]):=rfl;rw[d,Q2];omega
theorem FC{a b:Nat}(h:a &&& b=a)(c:b<18446744073709551616):a<18446744073709551616:=by
 grind[Nat.and_le_right]
def jD (l:List eE):Int:=(l.map eE.own).sum
theorem FD:∀ {l:List eE} {s a:aC},cU s l=some a->(az a.cp:Int)+jD l=az s.cp/\(a.cp &&& s.cp=a.cp):=by
 intro l
 induction l with
 | nil=>intro s a h;injection h with h;subst h;exact⟨by simp[jD],Nat.and_self _⟩
 | cons x r ih=>
  intro s a h;rw[cU] at h;obtain⟨s1,f,b⟩:=Option.bind_eq_some_iff.1 h;obtain⟨c,a2⟩:=ih b;obtain⟨b1,b2,rfl⟩:=kg.1 f;have ah:=yG b2.1;have g:=b1.1;have d:(gM s x).cp=aI s.cp x.g.cp:=rfl;rw[d] at c a2;refine⟨?_,?_⟩
  ·grind[jD]
  ·apply Nat.eq_of_testBit_eq;intro i;have e:=congrArg (λn=>Nat.testBit n i) a2;simp only[Nat.testBit_and,iJ] at e ⊢;cases h1:a.cp.testBit i <;> cases h2:s.cp.testBit i <;> simp_all
theorem FE(a b:List eE):jD (a++b)=jD a+jD b:=by grind[jD]
theorem vK{am:Int}(h:0<=am):0<=bR cs am/\1000*bR cs am<=am:=by
 grind[bR]
def kh (cs:List aF):Nat->Int
 | 0=>0
 | k+1=>kh cs k+bR cs (af cs k).am
theorem FF(h:∀c∈cs,0<=c.am):∀k,k<=cs.length->0<=kh cs k/\1000*kh cs k<=de cs k:=by
 intro k
 induction k with
 | zero=>intro _;exact⟨Int.le_refl _,Int.le_refl _⟩
 | succ k ih=>
  intro a;have b:=ih (by omega);have d:=vK (cs:=cs) (h _ (mw (show k<cs.length by omega)));have e:de cs (k+1)=de cs k+(af cs k).am:=rfl;rw[kh,e];omega
theorem Uo(h:∀c∈cs,0<=c.am)(b:k<=n)(a:n<=cs.length):kh cs k<=kh cs n:=by
 induction n with
 | zero=>
  obtain rfl:k=0:=by omega
  exact Int.le_refl _
 | succ n ih=>
  by_cases e:k=n+1
  ·grind
  ·have d:=ih (by omega) (by omega);have f:=vK (cs:=cs) (h _ (mw (show n<cs.length by omega)));rw[kh];omega
theorem FG(cs:List aF)(gs:List aX):∀k,jD ((List.range k).map (ld cs gs))=kh cs k:=by
 intro k
 induction k with
 | zero=>rfl
 | succ k ih=>
  rw[List.range_succ,Qj,FE,ih,kh]
  simp[jD,ld]
theorem Up(a:h.gs.length=h.pod.cs.length):jD (lO h)=kh h.pod.cs h.pod.cs.length:=by
 unfold lO;rw[a];exact FG h.pod.cs h.gs h.pod.cs.length
theorem tl(h:br p=0):∀c∈p.cs,0<=c.am:=λc a=>(((jo h).2.2.2) c a).2.1.1
theorem Uq(h:∀x∈hs,br x.pod=0/\x.gs.length=x.pod.cs.length):0<=jD (kZ hs)/\1000*jD (kZ hs)<=bE (hs.map ae.pod):=by
 induction hs with
 | nil=>exact⟨Int.le_refl _,Int.le_refl _⟩
 | cons x r ih=>
  have f:=ih λy c=>h y (Qv _ c)
  have a:=h x (List.mem_cons_self ..);have e:=FF (tl a.1) x.pod.cs.length (lR);have d:kZ (x :: r)=lO x++kZ r:=rfl;rw[d,FE,Up a.2];have b:bE ((x :: r).map ae.pod)=de x.pod.cs x.pod.cs.length+bE (r.map ae.pod):=by unfold bE;simp
  rw[b];omega
theorem FH(a b:List aj):bE (a++b)=bE a+bE b:=by grind[bE]
theorem FI{m:aJ}{s:aC}(h:bi m ds hs=some s):(az s.cp:Int)+jD (kZ hs)=az m.op/\s.cp &&& m.op=s.cp:=by
 unfold bi at h
 split at h
 ·rw[ou _ _ (lR),Qh] at h;exact FD h
 ·cases h
theorem Ur{l:List ap}(d:0<=L)(b:az F<=64)(c:L<=az F)(a:F &&& aB (λ_=>true) l=F):(bT l F L on).2=0:=by
 grind[yS]
theorem Us{m:aJ}{s:aC}(a:m.pol=0)(j:m.op &&& aB (λ_=>true) m.l=m.op)(e:∀A:Nat,az A<=64)(r:bi m ds hs=some s)(q:ds.length<=16)(t:∀x∈hs,br x.pod=0/\x.gs.length=x.pod.cs.length)(b:br p=0)
  (d:∀c∈p.cs,c.ds=[]) (z:cr m (hs.map ae.pod++[p])=true):(aW m s p).1=0:=by
 obtain⟨c1,c2⟩:=FI r;obtain⟨u,v⟩:=Uq t;have Hb:bE (hs.map ae.pod++[p])<=1000*(az m.op:Int):=by
  simp_all[cr]
 rw[FH] at Hb;have o:bE [p]=de p.cs p.cs.length:=by unfold bE;simp
 rw[o] at Hb;have Hk:=FF (tl b) p.cs.length (lR);have Hh:kh p.cs p.cs.length<=az s.cp:=by omega
 have He:s.ds.length<=16:=by grind[lg]
 have Hi:s.cp &&& aB (λ_=>true) m.l=s.cp:=by
  grind
 have key:∀k,k<=p.cs.length->(bU m s p.cs k).1=0:=by
  intro k
  induction k with
  | zero=>intro _;rfl
  | succ k ih=>
   intro l;have g:=ih (by omega);obtain⟨g1,y⟩:=zl (m:=m) He (rf b) k (by omega) g;obtain⟨i,w⟩:=FD g1;rw[FG] at i;rw[bU,if_pos g];generalize (bU m s p.cs k).2.1=gs at *;generalize (bU m s p.cs k).2.2=f at *;have h:af p.cs k∈p.cs:=mw (by omega);have Hj:=d _ h;have Hc:=Uo (tl b) (k:=k+1) (n:=p.cs.length) l (lR);have Hf:=vK (cs:=p.cs) (tl b _ h);rw[kh] at Hc;have Ha:f.cp &&& aB (λ_=>true) m.l=f.cp:=by grind
   have Hg:(bM m f (bR p.cs (af p.cs k).am) (af p.cs k).ds).1=0:=by
    rw[Hj,Uf List.Pairwise.nil];refine⟨?_,Ur Hf.1 (e _) (by omega) Ha,rfl⟩;unfold gi;rw[if_pos a]
   unfold lN;rw[if_pos Hg]
 exact key p.cs.length (lR)
def gk (hs:List ae) (nm:ByteArray):List ae:=hs.filter λh=>decide (h.pod.nm≠nm)
theorem Ut(d:∀y∈hs,y.pod.nm≠x.pod.nm):gk (ct hs x) x.pod.nm=hs:=by
 unfold gk ct;rw[List.filter_append,List.filter_cons_of_neg (by simp)];have b:(hs.take (dT hs x.pod.nm)).filter (λh=>decide (h.pod.nm≠x.pod.nm))=hs.take (dT hs x.pod.nm):=List.filter_eq_self.2 λy a=>by grind
 have c:(hs.drop (dT hs x.pod.nm)).filter (λh=>decide (h.pod.nm≠x.pod.nm))=hs.drop (dT hs x.pod.nm):=List.filter_eq_self.2 λy a=>by grind
 rw[b,c,List.take_append_drop]
theorem zy(hs:List ae)(nm:ByteArray):(gk hs nm).Sublist hs:=List.filter_sublist
theorem zA(h:bS hs=0)(d:hs'.Sublist hs):bS hs'=0:=by
 obtain⟨a,b,c⟩:=dm.1 h;exact dm.2 ⟨Q5 d.length_le a,λx e=>b x (d.subset e),List.Pairwise.sublist d c⟩
theorem FJ{t:aT}(h:(aV t p).1=0):gk (aV t p).2 p.nm=t.hs:=by
 unfold aV at h ⊢
 split
 ·grind
 ·rename_i a
  rw[if_neg a] at h
  split
  ·grind
  ·grind[Ut]
theorem bZ{B:Nat}{cs:Array Value}{t:TypeId}(h:W.heap[B]?=some (.cells cs t (0,0)))(j:Nat):W.frozen? ⟨B,j,none⟩=false:=by simp[World.frozen?,h]
theorem aY(W:World)(o:Obj)(a:n=W):(W.alloc o).heap[n]?=some o:=by grind[heap_alloc_new]
theorem bQ{x:Obj}(h:W.heap[n]?=some x)(o:Obj):(W.alloc o).heap[n]?=some x:=(Below.heap_alloc _ _ _ (gS h).1).trans h
theorem FK(h:k<ps.length):bE (ps.take (k+1))=bE (ps.take k)+de (aS ps k).cs (aS ps k).cs.length:=by
 grind[bE,Qa,aS]
theorem FL(h:k<ps.length):ci (ps.take (k+1))=ci (ps.take k)+cV (aS ps k).cs (aS ps k).cs.length:=by
 grind[ci,Qa,aS]
abbrev tm:=λ(x0:Value) (x1 x2:Nat) (x3 x4:Int)=>(.cells #[x0,.int .u64 x1,.int .u8 x2,x3,x4] 84:Obj)
theorem FM(m:Value)(op ar:Nat)(nb pol:Int){v:Value}{a:List aj}{w:World}(h:iz w v a)(hl:a.length<=100)(r:∀p∈a,iy p.cs)(q:op<18446744073709551616)
  (u:∀k,k<=a.length->(0<=bE (a.take k)/\bE (a.take k)<=1000000000000000000)/\0<=ci (a.take k)/\ci (a.take k)<=1000000000000000000) :
  CB 50 #[.agg #[m,.int .u64 op,.int .u8 ar,nb,pol],v] w (.bool (decide (bE a<=1000*(az op:Int)) && decide (ci a<=nb))):=by
 have T:=qI r;have z:=qI u;obtain⟨ao,c,rfl,Y,F⟩:=h;unfold maxLen at Y;have G:=qI F;have sz:((w.alloc (tm m op ar nb pol)).alloc (.cells #[(0:Int),(0:Int)] 62)).heap.size=w.heap.size+2:=by simp
 have P:=qI (aY (w.alloc (tm m op ar nb pol)) (.cells #[(0:Int),(0:Int)] 62) (n:=w.heap.size+1) (by simp));have M:=qI (bQ (aY w (tm m op ar nb pol) rfl) (.cells #[(0:Int),(0:Int)] 62));have J:=qI (((Q0 w w).alloc (lR) (tm m op ar nb pol)).alloc (by simp) (.cells #[(0:Int),(0:Int)] 62));clear r u F
 go_enter func50,ntmps50
 go_wp2
 generalize ((w.alloc (tm m op ar nb pol)).alloc (.cells #[(0:Int),(0:Int)] 62))=U at *;generalize HB:w.heap.size=B at *
 go_loopw [11] (λi wr=>∃k:Nat,k<=a.length/\i=.int .i64 k/\wr.heap[B+1]?=some (.cells #[(bE (a.take k):Int),(ci (a.take k):Int)] 62 (0,0))/\Apart (λj=>j=B+1) U wr) (λi _=>a.length - (intOf i).toNat)
 exact⟨0,by omega,rfl,P,Apart.refl _ _⟩
 ·obtain⟨k,I,rfl,Hg,Hk⟩:=hrel;have HS:=Hk.size;have Hw:=qI Hk;have Hq:=z.o k I;have He:=Hk.below J (Nat.le_of_eq HB.symm) (λj hj=>by omega);have HM:=qI He
  by_cases b:k<a.length
  ·obtain⟨Z,o,cv,rfl,Hp⟩:=G.o (by omega);have Ha:Bw w wr:=by show Below _ _ _;rw[HB];exact He
   obtain⟨H,S,C⟩:=((Hp.below Ha).2 k b).1;have Hb:=((Hp.below Ha).2 k b).2;have Hx:=T.o (aS a k) (by simp[aS,b]);have Hj:=qI (FK b);have Hi:=qI (FL b);have X:=z.o (k+1) b;rw[Hj.o,Hi.o] at X;obtain⟨ca,cc,t,_,_⟩:=id Hb;rw[t] at C Hb;have Hm:=qI ((Q0 wr wr).alloc (lR) (.cells #[(aS a k).nm,((aS a k).pr:Int),.slice ca (aS a k).cs.length cc] 49));have Hv:=qI (Dp (aS a k) (Hb.below Hm) Hx);unfold cQ at Hv;have N:=qI Hg;clear Hp Hb Hx He Ha Hg Hk t;generalize de (aS a k).cs (aS a k).cs.length=l at *;generalize cV (aS a k).cs (aS a k).cs.length=g at *;generalize bE (a.take k)=s at *;generalize ci (a.take k)=D at *;generalize aS a k=p at *;obtain⟨pn,pp,pc⟩:=p;dsimp only at H S C Hv Hm
   go_wp2
   refine Hv.o.m λd Hz=>?_;have Hl:=Hm.o.trans (Hz.mono Hm.o.size);have A:=(Q0 d d).alloc (lR) (.cells #[(l:Int),(g:Int)] 62);have Hf:=bQ ((Hl.block (B+1) (by omega)).trans N) (.cells #[(l:Int),(g:Int)] 62);obtain⟨y0,y1⟩:=c2 Hf;have f0:=bZ Hf 0;have f1:=bZ Hf 1;have z0:(d.alloc (.cells #[(l:Int),(g:Int)] 62)).cell? d.heap.size=some (.int .i64 l):=by simp
   have z1:(d.alloc (.cells #[(l:Int),(g:Int)] 62)).cell? ⟨d,1,none⟩=some (.int .i64 g):=by simp
   have HQ:d.heap.size≠B+1:=by have:=Hl.size;omega
   have V:=qI (Hw.o.trans (Apart.of_below (Hl.trans (A.mono Hl.size))));have R:=qI Hf;clear Hf Hz A Hl
   go_wp2
   go_roundw
   exact⟨k+1,by omega,by go_num,by rw[Hj.o,Hi.o];exact bd (bd R 0 _) 1 _,(V.o.trans (Apart.setCell (K:=λj=>j=B+1) rfl _ _ _)).trans (Apart.setCell (K:=λj=>j=B+1) rfl _ _ _)⟩
   simp[intOf];omega
  ·have W:k=a.length:=by omega
   subst W;rw[Qh] at Hg Hq;have Ho:=(Hw.o.block B (by omega) (by omega)).trans M;obtain⟨L,Q⟩:=c2 Hg;have q2:=cb Ho 1;have q3:=cb Ho 3;have O:az op<=64:=Js op 64;clear Hg Ho Hk;obtain⟨s,Hs⟩:∃x,x=bE a:=⟨_,rfl⟩;obtain⟨D,Hr⟩:∃x,x=ci a:=⟨_,rfl⟩;rw[<- Hs] at L Hq;rw[<- Hr] at Q Hq;have Hj:=qI Hs;have Hi:=qI Hr;clear Hs Hr;have Hn:=qI (CQ op);have Hh:(bm op 64).length=az op:=rfl;rw[Hh] at Hn;clear Hh;obtain⟨f,Hc⟩:∃x,x=az op:=⟨_,rfl⟩;rw[<- Hc] at Hn O;have Hy:=qI Hc;clear Hc;have y:Hu (Bw w wr):=by grind
   by_cases E:s<=1000*(f:Int)
   ·have Ht:decide (s<=1000*(f:Int))=true:=Qc E
    go_wp2
    go_quiet (exact Calls.quiet_of_same (Hn.o _ q))
    go_wp2
    go_ret;exact⟨by rw[<- Hj.o,<- Hi.o,<- Hy.o,Ht];rfl,below_drewN y nq⟩
   ·have Ht:decide (s<=1000*(f:Int))=false:=Q7 E
    go_wp2
    go_quiet (exact Calls.quiet_of_same (Hn.o _ q))
    go_wp2
    go_ret;exact⟨by rw[<- Hj.o,<- Hi.o,<- Hy.o,Ht];rfl,below_drewN y nq⟩
abbrev lS:=λ(x0:ByteArray) (x1 x2 x3 x4:Int) (x5:Option Addr) (x6 x7:Nat)=>(.cells #[x0,x1,x2,x3,x4,.slice x5 x6 x7] 65:Obj)
abbrev tt:=(.cells #[.string ⟨#[]⟩,(0:Int),.slice none 0 0] 49:Obj)
theorem FN(nm:ByteArray)(pr:Int){cs:List aF}{v:Value}{w:World}(h:ba w v cs)(hl:cs.length<=1000)(y:∀k,k<cs.length->(af cs k).ds.length<=1000):Calls pg 29 #[.agg #[nm,pr,v]] w λe w'=>∃d c,e=.returned (.agg #[nm,pr,.slice d cs.length c])/\ba (fresh w w') (.slice d cs.length c) cs/\Bw w w':=by
 have H6:=qI y;have I:=qI (((Q0 w w).alloc (lR) (.cells #[nm,pr,v] 49)).alloc (by simp) (tt));have J:=qI (Rk h (aR.of_below I) hl);obtain⟨ca,cc,rfl,HZ,_⟩:=h;clear HZ y;have sz:((w.alloc (.cells #[nm,pr,.slice ca cs.length cc] 49)).alloc (tt)).heap.size=w.heap.size+2:=by simp
 have V:=qI (bQ (aY w (.cells #[nm,pr,.slice ca cs.length cc] 49) rfl) (tt));have HT:=qI (aY (w.alloc (.cells #[nm,pr,.slice ca cs.length cc] 49)) (tt) (n:=w.heap.size+1) (by simp))
 go_enter func29,ntmps29
 go_wp2
 generalize ((w.alloc (.cells #[nm,pr,.slice ca cs.length cc] 49)).alloc (tt))=U at *;refine J.o.mono ?_;rintro e r ⟨d,c,rfl,Hn,hg,He⟩;have Hm:=qI Hn;obtain⟨g,dv,Q⟩:∃(g:Nat) (dv:Nat->Value),0<cs.length->d=some ⟨g,0,none⟩/\eX r U g 6 cs.length (λk=>eu (af cs k) (dv k))/\∀k,k<cs.length->bC w (dv k) (af cs k).ds:=by
  by_cases x:0<cs.length
  ·simp_all
  ·simp_all
 have Hr:=(He.block w (by omega)).trans V;have O:=(He.block (w.heap.size+1) (by omega)).trans HT;have z2:=cb Hr 2;have E:=bZ Hr 2;have N:Hu ((r.setCell ⟨w,2,none⟩ (.slice d cs.length c)).heap[w.heap.size]?=some (.cells #[nm,pr,.slice d cs.length c] 49 (0,0))):=bd Hr 2 _;have H9:Hu ((r.setCell ⟨w,2,none⟩ (.slice d cs.length c)).heap[w.heap.size+1]?=some (.cells #[.string ⟨#[]⟩,(0:Int),()] 49 (0,0))):=(set_other (by omega)).trans O;have F:=qI ((I.o.trans (He.mono (by omega))).setCell (p:=⟨w,2,none⟩) (lR) (.slice d cs.length c));have C:Hu (0<cs.length->d=some ⟨g,0,none⟩/\eX (r.setCell ⟨w,2,none⟩ (.slice d cs.length c)) U g 6 cs.length (λk=>eu (af cs k) (dv k))/\∀k,k<cs.length->bC w (dv k) (af cs k).ds):=λx=>by
  obtain⟨q1,H,q3⟩:=Q x;exact⟨q1,H.keep (set_other (by have:=H.base;omega)) (by simp),q3⟩
 have H7:w.heap.size+2<=(r.setCell ⟨w,2,none⟩ (.slice d cs.length c)).heap.size:=by have:=He.size;simp;omega
 have zz:=cb N 2;have HQ:=qI He;have ho:Hu (∀j,j≠w.heap.size->(r.setCell ⟨w,2,none⟩ (.slice d cs.length c)).heap[j]?=r.heap[j]?):=λj t=>set_other t
 clear Hn hg Q He J Hr O
 go_wp2
 generalize hW2:r.setCell ⟨w,2,none⟩ (.slice d cs.length c)=W2 at *;clear hW2 z2 E
 go_loopw [12,3] (λi i3 wr=>∃(k:Nat) (u:Nat->Value),k<=cs.length/\i=.int .i64 k/\Apart (λj=>U.heap.size<=j) W2 wr/\Hu (0<cs.length->eX wr U g 6 cs.length (λj=>eu (af cs j) (u j)))/\Hu (∀j,j<k->bC (av (λb=>b<U.heap.size\/b=g) wr) (u j) (af cs j).ds)/\Hu (∀j,k<=j->u j=dv j)) (λi _ _=>cs.length - (intOf i).toNat)
 exact⟨0,dv,by omega,rfl,Apart.refl _ _,λh=>(C.o h).2.1,λj t=>by omega,λj _=>rfl⟩
 ·obtain⟨k,u,hk,rfl,Hp,Hj,Hi,Hg⟩:=hrel;have Hx:=qI Hp;have hm:=Hp.size;have Hl:=(Hp.block w (by omega) (by omega)).trans N;have Hc:=(Hp.block (w.heap.size+1) (by omega) (by omega)).trans H9;have H5:=qI Hl;have X:=qI Hc;have hf:Hu (Bw U wr->True):=λ_=>trivial
  by_cases q:k<cs.length
  ·obtain⟨rfl,_,Hv⟩:=C.o (by omega);have Hf:=Hj.o (by omega);have Hh:=λj t=>Hf.cell k q j t
   rw[Hg.o k (lR)] at Hh;have x0:cl wr g (k*6) (af cs k).nm:=Hh 0 (by decide);have x1:cl wr g (k*6+1) ((af cs k).am:Int):=Hh 1 (by decide);have x2:cl wr g (k*6+2) ((af cs k).ab:Int):=Hh 2 (by decide);have x3:cl wr g (k*6+3) ((af cs k).cm:Int):=Hh 3 (by decide);have x4:cl wr g (k*6+4) ((af cs k).cb:Int):=Hh 4 (by decide);have x5:cl wr g (k*6+5) (dv k):=Hh 5 (by decide);have Hb:=Hv k q;obtain⟨l,f,R,_⟩:=id Hb;rw[R] at x5 Hb;have H8:=H6.o k q;have hh:=Hf.lt;have hc:=Hf.base;have HH:(k:Int)<(cs.length:Int):=by omega
   clear Hf Hv R Hl Hc Hh;generalize (af cs k).nm=cn at *;generalize (af cs k).am=c1 at *;generalize (af cs k).ab=c2 at *;generalize (af cs k).cm=c3 at *;generalize (af cs k).cb=c4 at *;generalize hxs:(af cs k).ds=ds at *;have H3:=qI hxs;clear hxs;have hn:(wr.alloc (lS cn c1 c2 c3 c4 l ds.length f)).heap.size=wr.heap.size+1:=by simp
   have HS:=qI (show cl (wr.alloc (lS cn c1 c2 c3 c4 l ds.length f)).drew w (2) (.slice g cs.length c)/\cl (wr.alloc (lS cn c1 c2 c3 c4 l ds.length f)).drew wr (5) (.slice l ds.length f) from⟨ad (W:=(wr.alloc (lS cn c1 c2 c3 c4 l ds.length f)).drew) (bQ H5 (lS cn c1 c2 c3 c4 l ds.length f)) 2,ad (W:=(wr.alloc (lS cn c1 c2 c3 c4 l ds.length f)).drew) (aY wr (lS cn c1 c2 c3 c4 l ds.length f) rfl) 5⟩);have Hz:=bO ((Q0 wr wr).alloc (lR) (lS cn c1 c2 c3 c4 l ds.length f));have T:bC (wr.alloc (lS cn c1 c2 c3 c4 l ds.length f)).drew (.slice l ds.length f) ds:=by
    refine Hb.le ⟨by grind[World.drew],λb o v e=>?_⟩;have HY:b<w.heap.size:=Q3 w ⟨b,o,none⟩ e;have e1:=Hz.block b (by omega);have e2:=Hx.o.block b (by omega) (by omega);exact (World.cell?_of_block (a:=⟨b,o,none⟩) (e1.trans (e2.trans (F.o.block b HY)))).trans e
   have P:=qI (Ri T H8);have L:=qI Hz;clear T Hz Hb
   go_wp2
   refine wp_region_held_drew (S:=(λw'=>cl w' w (2) (.slice g cs.length c)/\cl w' wr (5) (.slice l ds.length f))) (by kernel_rfl) HS λB=>?_;refine tk 0 ?_;refine tk 1 ?_;refine tk 2 ?_;refine tk 3 ?_;refine tk 4 ?_;refine rd 5 λK z=>?_;go_simp
   go_wp2
   refine P.o.mono ?_;rintro e m ⟨s,nc,rfl,G,Ho⟩;have Hy:=L.o.trans (Ho.mono L.o.size);have he:wr+1<=m.heap.size:=by have:=Ho.size;simp[World.drew] at this;omega
   have Hw:=qI (show cl m w (2) (.slice g cs.length c)/\cl m wr (5) (.slice l ds.length f) from⟨(Ho.cell (p:=⟨w,2,none⟩) (by grind[World.drew])).trans HS.o.1,(Ho.cell (p:=⟨wr,5,none⟩) (by simp[World.drew])).trans HS.o.2⟩);have Ha:=(Hj.o (by omega)).below Hy;have y5:cl m g (k*6+5) (u k):=Ha.cell k q 5 (by decide);have f5:=Ha.free (k*6+5);have HU:=qI Ha;have M:=qI Hy;have HW:=qI G;clear G Ho Hy Ha P
   go_wp2
   refine z.k Hw λB=>?_;refine tk 6 ?_;refine tk 7 ?_;have Hq:Hu (∀b,b≠g->(m.setCell ⟨g,k*6+5,none⟩ (.slice s ds.length nc)).heap[b]?=m.heap[b]?):=λb Z=>set_other Z
   have Ht:(m.setCell ⟨g,k*6+5,none⟩ (.slice s ds.length nc)).heap.size=m.heap.size:=by simp
   have HP:=qI ((Apart.of_below (K:=λj=>U.heap.size<=j) M).trans (Apart.setCell (K:=λj=>U.heap.size<=j) hc m (k*6+5) (.slice s ds.length nc)));have H1:=qI (HU.o.set k 5 q (by decide) (.slice s ds.length nc) (λj=>eu (af cs j) (if j=k then .slice s ds.length nc else u j)) (λi _ hi=>by simp[hi]) (λi hi=>by
    grind[eu]) rfl)
   have HV:=qI (show cl (m.setCell ⟨g,k*6+5,none⟩ (.slice s ds.length nc)) w (2) (.slice g cs.length c)/\cl (m.setCell ⟨g,k*6+5,none⟩ (.slice s ds.length nc)) wr (5) (.slice l ds.length f) from⟨(World.cell?_of_block (a:=⟨w,2,none⟩) (Hq.o w (by omega))).trans Hw.o.1,(World.cell?_of_block (a:=⟨wr,5,none⟩) (Hq.o wr (by omega))).trans Hw.o.2⟩);refine rd 8 λK z=>?_;go_simp;refine z.k HV λB=>?_;generalize m.setCell ⟨g,k*6+5,none⟩ (.slice s ds.length nc)=W5 at *;refine Qn (by kernel_rfl) ?_ _;clear B
   go_wp2
   go_roundw
   case rel=>
    refine⟨k+1,λj=>if j=k then .slice s ds.length nc else u j,by omega,by go_num,Hx.o.trans HP,λ_=>H1.o,λj t=>?_,λj t=>?_⟩
    ·by_cases A:j=k
     ·subst A;dsimp only;rw[if_pos rfl,H3.o];refine HW.o.le (bF (λb He Hs=>?_) (by omega));have Hs:¬ b<wr.heap.size+1:=by simp_all
      exact⟨by omega,Hq.o b (by omega)⟩
     ·dsimp only;rw[if_neg A];refine (Hi.o j (by omega)).le (bF (λb He Hs=>⟨Hs,?_⟩) (by rw[Ht];omega));rw[Hq.o b (by omega)];exact M.o.block b He
    ·dsimp only;rw[if_neg (by omega)];exact Hg.o j (by omega)
   case measure=>simp[intOf];omega
  ·have H4:k=cs.length:=by omega
   subst H4;have HA:Hu (ba (fresh U wr) (.slice d cs.length c) cs):=by
    unfold Hu
    by_cases x:0<cs.length
    ·obtain⟨ha,_,Hv⟩:=C.o x;rw[ha];exact (Rf (Hj.o x) rfl Hm λj t=>(Hi.o j t).le (bF (λb _ Hs=>⟨by omega,rfl⟩) (lR)))
    ·exact⟨d,c,rfl,Hm,λh=>absurd h x⟩
   obtain⟨u0,u1,u2⟩:cl wr w (0) nm/\cl wr w (1) pr/\cl wr w (2) (.slice d cs.length c):=⟨ad Hl 0,ad Hl 1,ad Hl 2⟩;obtain⟨v0,Y,v2⟩:cl wr (w.heap.size+1) (0) (.string ⟨#[]⟩)/\cl wr (w.heap.size+1) (1) (0:Int)/\cl wr (w.heap.size+1) (2) ():=⟨ad Hc 0,ad Hc 1,ad Hc 2⟩;have f0:=bZ Hc 0;have f1:=bZ Hc 1;have f2:=bZ Hc 2;have Hk:=qI (bd (bd (bd X 0 nm) 1 pr) 2 (.slice d cs.length c));have H2:=qI ((((Hx.o.below F (lR) (λj t=>by omega)).setCell (p:=⟨w.heap.size+1,0,none⟩) (Nat.le_succ _) nm).setCell (p:=⟨w.heap.size+1,1,none⟩) (Nat.le_succ _) pr).setCell (p:=⟨w.heap.size+1,2,none⟩) (Nat.le_succ _) (.slice d cs.length c));have H0:Hu (ba (fresh w (((wr.setCell (w.heap.size+1:Nat) nm).setCell ⟨w.heap.size+1,1,none⟩ pr).setCell ⟨w.heap.size+1,2,none⟩ (.slice d cs.length c))) (.slice d cs.length c) cs):=HA.o.le (qU (λj h1 _=>(set_other (by omega)).trans ((set_other (by omega)).trans (set_other (by omega)))) (by simp) (by omega));clear Hl Hc
   go_wp2
   generalize ((wr.setCell (w.heap.size+1:Nat) nm).setCell ⟨w.heap.size+1,1,none⟩ pr).setCell ⟨w.heap.size+1,2,none⟩ (.slice d cs.length c)=D at *;(try simp only[Exit.inBlock,Exit.then]);refine bodyPost_ret (v:=.agg #[nm,pr,.slice d cs.length c]) ?_ rfl ⟨d,c,rfl,H0,H2⟩;obtain⟨r0,r1,r2⟩:=c3 Hk;rw[uS rfl];clear u0 u1 u2 v0 Y v2 f0 f1 f2;go_simp
def fQ (l:List ap):Nat->Nat
 | 0=>0
 | k+1=>fQ l k ||| 2 ^ (l.getD k aA).node.toNat
def gm (a:Nat) (ds:List aq):Nat->Nat
 | 0=>a
 | k+1=>gm a ds k ||| 2 ^ (aH ds k).node.toNat
structure dp where
 l:List ap
 keep:Nat
 nb:Int
 pol:Int
 ds:List aq
def cR (c:dp):Int:=
 if eC c.l≠0 then eC c.l
 else if ¬ (c.keep &&& aB (λ_=>true) c.l=c.keep)\/¬ (0<=c.nb/\c.nb<=1125899906842624)\/¬ (0<=c.pol/\c.pol<=3) then 1
 else (dV c.ds:Nat)
def cT (c:dp):aJ:=⟨c.l,aI (aB (λ_=>true) c.l) c.keep,gm (fQ c.l c.l.length) c.ds c.ds.length,c.nb,c.pol⟩
theorem FO{x:Int}(a:0<=x)(b:x<=3):2 ^ x.toNat<16/\1<=2 ^ x.toNat:=by
 have:x.toNat=0\/x.toNat=1\/x.toNat=2\/x.toNat=3:=by omega
 rcases this with h|h|h|h <;> rw[h] <;> decide
theorem FP{a b:Nat}(d:a<16)(c:b<16):a ||| b<16:=Nat.or_lt_two_pow (n:=4) d c
theorem FQ{l:List ap}(h:∀k,k<l.length->0<=(l.getD k aA).node/\(l.getD k aA).node<=3):∀k,k<=l.length->fQ l k<16/\(0<k->1<=fQ l k):=by
 intro k
 induction k with
 | zero=>intro _;exact⟨Nat.zero_lt_succ 15,λh=>by omega⟩
 | succ k ih=>
  intro c;have b:=ih (by omega);have a:=FO (h k (by omega)).1 (h k (by omega)).2;rw[fQ];exact⟨FP b.1 a.1,λ_=>Q5 a.2 Nat.right_le_or⟩
theorem Uu{a:Nat}(c:a<16)(b:1<=a)(h:∀k,k<ds.length->0<=(aH ds k).node/\(aH ds k).node<=3):∀k,k<=ds.length->gm a ds k<16/\1<=gm a ds k:=by
 intro k
 induction k with
 | zero=>intro _;exact⟨c,b⟩
 | succ k ih=>
  intro e;have b:=ih (by omega);have d:=FO (h k (by omega)).1 (h k (by omega)).2;rw[gm];exact⟨FP b.1 d.1,Q5 b.2 Nat.left_le_or⟩
theorem Uv(hs:List ae):∀k,k<=hs.length->iA hs k=((hs.take k).map jn).flatten:=by
 intro k
 induction k with
 | zero=>intro _;simp[iA]
 | succ k ih=>
  intro a;rw[iA,ih (by omega),Qa (by omega),Qj,List.flatten_append]
  simp[ah,show k<hs.length by omega]
theorem Uw(hs:List ae):dL hs=(hs.map jn).flatten:=by
 simp[dL,Uv]
theorem FR(c:UInt8)(x:List UInt8):∀(a:List (List UInt8)),x.length+a.length<=(Lib.join (x :: a) [c]).length:=by
 have key:∀(r:List (List UInt8)),x.length+r.length<=(Lib.join (x :: r.reverse) [c]).length:=by
  intro r
  induction r with
  | nil=>have:=wB [] x [c];simp at this;simp[this]
  | cons y r ih=>
   rw[List.reverse_cons,<- List.cons_append,wB,if_neg (by simp)];simp only[Q2,Qg,List.length_nil];omega
 intro a
 have:=key a.reverse
 rw[List.reverse_reverse,List.length_reverse] at this;exact this
theorem Ux(c:aF)(g:aX):13<=(mu c g).length:=by
 unfold mu kE
 have:=FR 32 [99,111,110,116] ([c.nm.data.toList,aO c.am,aO c.ab,aO c.cm,aO c.cb,kD c.ds]++eJ g)
 rw[<- List.cons_append] at this;simp only[Q2,Qg,List.length_nil,eJ] at this ⊢;unfold eV;simp only[List.cons_append,List.nil_append] at this ⊢;omega
theorem Uy(p:aj):6<=(kF p).length:=by
 grind[kF,kE,FR,Qg,gW]
theorem Uz(e:1<=h.pod.cs.length):19<=(jn h).length:=by
 have c:=Uy h.pod;unfold jn;have d:13<=(fV h h.pod.cs.length).length:=by
  have a:∀k,1<=k->13<=(fV h k).length:=by
   intro k b
   match k,b with
   | k+1,_=>
    rw[fV,Q2]
    have:=Ux (af h.pod.cs k) (aG h.gs k)
    omega
  exact a _ e
 rw[Q2];omega
theorem UA(h:hs'.Sublist hs)(a:∀x∈hs,1<=x.pod.cs.length):(dL hs').length+19*(hs.length - hs'.length)<=(dL hs).length:=by induction h <;> grind[Uw,Uz]
theorem UB(b:List UInt8):6<=(dZ b).length:=by
 grind[Lib.decDigits_length,Lib.nDigits_pos,dZ,Qg]
theorem UC(h:hs'.Sublist hs)(b:∀x∈hs,1<=x.pod.cs.length)(a:(bw hs).length<=6000):(bw hs').length<=6000:=by
 by_cases e:hs'.length=hs.length
 ·grind
 ·have f:=UA h b;have g:=h.length_le;have c:=UB (dL hs);have d:=sj (dL hs');unfold bw at a ⊢;rw[Q2] at a ⊢;omega
theorem UD(h:bS hs=0):∀x∈hs,1<=x.pod.cs.length:=by
 simp_all[dm,qq]
section
open Go.ChangeShapes Go.WideShapes Go.ChangeAt Go.RowKit
def pP (c:dp) (v1 v2:Value):Value:=.agg #[v1,.int .u64 (c.keep:Nat),(c.nb:Int),v2,(c.pol:Int)]
theorem UE:prog.cellsOf 27=5:=by kernel_rfl
theorem UF:prog.cellsOf 22=1:=by kernel_rfl
theorem UG:prog.cellsOf 25=1:=by kernel_rfl
theorem UH:prog.cellsOf 24=1:=by kernel_rfl
theorem UI:prog.cellsOf 77=3:=by kernel_rfl
theorem UJ{H:Type}{enc:TypeId × Value->H}{base:Nat}{v:Value}{d:DataW H}{p:List MemPlace}
  (Q:Value.okWide prog W .any base 27 v) (h:DataW.Trod enc prog W 0 (λ_=>true) true 27 v d p):∃(c:dp) (t v2:Value) (g o:Nat),v=pP c t v2/\fZ W t c.l/\et W v2 g o c.ds/\c.keep<18446744073709551616:=by
 obtain⟨cs,rfl,Ha,_⟩:∃cs,v=.agg cs/\cs.size=prog.cellsOf 27/\Row.okWide prog W .any base 27 cs:=by
  grind[Value.okWide,underlying27]
 rw[UE] at Ha;obtain⟨l⟩:=cs;obtain⟨i,hf⟩:=h;have hf:DataW.trod enc prog W 0 (λ_=>true) true i 27 l=some (d,p):=hf;obtain⟨y,r,I⟩:=cZ underlying27 hf 0 0 UF rfl;obtain⟨T,N,J⟩:=cZ underlying27 hf 1 1 UH rfl;obtain⟨n2,U,M⟩:=cZ underlying27 hf 2 2 jL rfl;obtain⟨S,R,C⟩:=cZ underlying27 hf 3 3 UG rfl;obtain⟨V,P,F⟩:=cZ underlying27 hf 4 4 jL rfl;clear hf;have s:l.length=5:=by simpa using Ha
 match l,s with
 | [a,b,c,e,f],_=>
  obtain⟨k,w,_,He⟩:=DataW.trod_int underlying24 J;obtain⟨K,x⟩:=ky M;obtain⟨G,z⟩:=ky F;have L:=oS underlying25 UI (by decide) C λ_ _ _ s h=>Kb s h
  simp at w x z
  obtain⟨ds,g,o,Hi,_⟩:=Kc L;have Hb:DataW.trod enc prog W 0 (λ_=>true) true y 22 [a]=some r:=I;obtain⟨A,len,j,E⟩:∃A len j,a=.slice A len j:=by
   rcases Deep.open_slice underlying22 Hb with⟨Hg,_⟩|⟨q,B,u,m,n,D,O,Hg,_⟩
   ·grind
   ·grind
  subst E;obtain⟨cl,Hc,Hh⟩:=Rz (d:=r.1) (p:=r.2) ⟨y,Hb⟩;subst Hc;have X:=bounds_u64 He;refine⟨⟨cl,k.toNat,K,G,ds⟩,_,_,g,o,?_,Hh,Hi,by show k.toNat<_;omega⟩;have Hf:((k.toNat:Nat):Int)=k:=by omega
  unfold pP;rw[w,x,z]
  show _=Value.agg #[_,.int .u64 ((k.toNat:Nat):Int),_,_,_]
  rw[Hf]
end
theorem UK{m:aJ}{ds:List aq}(a:m.op<18446744073709551616)(ah:dV ds=0)(c:p.cs.length=1)(f:br p=0)(i:cr m [p]=true)(d:(aW m ⟨m.op,ds,λ_=>false⟩ p).1=0):(aV ⟨m,ds,[]⟩ p).1=0:=by
 have h:bi m ds []=some ⟨m.op,ds,λ_=>false⟩:=Fw ah;unfold aV;dsimp only;rw[h,Option.getD_some];have Hf:¬ ∃x∈([]:List ae),x.pod.nm=p.nm:=λ⟨x,b,_⟩=>by cases b
 have Hb:¬ cr m (([]:List ae).map ae.pod++[p])=false:=λe=>by
  grind
 rw[if_neg (by omega),if_neg Hf,if_neg (by simp),if_neg Hb,if_neg (by omega)];have j:=rf (by omega);have Hi:(⟨m.op,ds,λ_=>false⟩:aC).ds.length<=16:=(lr ah).1;have Hc:(aW m ⟨m.op,ds,λ_=>false⟩ p).2.length=p.cs.length:=tj _ _ p.cs p.cs.length d;have Ha:=(zl (m:=m) Hi j p.cs.length (lR) d).1;have He:ct [] (⟨p,(aW m ⟨m.op,ds,λ_=>false⟩ p).2⟩:ae)=[⟨p,(aW m ⟨m.op,ds,λ_=>false⟩ p).2⟩]:=rfl;have Hj:bS [(⟨p,(aW m ⟨m.op,ds,λ_=>false⟩ p).2⟩:ae)]=0:=by
  refine dm.2 ⟨by simp,λx b=>?_,List.pairwise_singleton _ _⟩;rw[Qm.1 b];exact⟨f,Hc,zx (zw p.cs.length)⟩
 have Hk:∀g∈(aW m ⟨m.op,ds,λ_=>false⟩ p).2,g.cp<18446744073709551616:=by
  intro g Hg;rw[c] at Ha;obtain⟨k,n,rfl⟩:=ux Hg;have Hh:k=0:=by omega
  subst Hh;have e:(List.range 1).map (ld p.cs (bU m ⟨m.op,ds,λ_=>false⟩ p.cs 1).2.1)=[ld p.cs (bU m ⟨m.op,ds,λ_=>false⟩ p.cs 1).2.1 0]:=rfl;rw[e,cU] at Ha;obtain⟨s1,l,_⟩:=Option.bind_eq_some_iff.1 Ha
  have:=(kg.1 l).2.1.1
  unfold aW;rw[c];exact FC this a
 rw[He,if_neg (by grind[Un])]
theorem BT{t:aT}(a:(aV t p).1=0):(aV t p).2.length=t.hs.length+1:=by
 unfold aV at a ⊢
 split
 ·grind
 ·rename_i b
  rw[if_neg b] at a
  split
  ·grind
  ·grind[ct]
theorem zB(A:Nat):az A<=64:=by
 grind[az,bm]
def gO:dp:=⟨[⟨0,0,0⟩],0,9,0,[]⟩
def kk:aj:=⟨⟨#[97]⟩,0,[⟨⟨#[120]⟩,0,0,0,0,[]⟩]⟩
theorem UL:cR gO=0:=by decide
theorem FT:br kk=0:=by decide
theorem FU:cr (cT gO) [kk]=true:=by decide
theorem UM:(aV ⟨cT gO,[],[]⟩ kk).1=0:=by
 refine UK (by decide) (by decide) rfl FT FU ?_;exact Us (hs:=[]) rfl (by decide) zB (Fw (by decide)) (by decide) (λx b=>by cases b) FT (λc a=>by rw[Qm.1 a]) FU
theorem UN:∀ {l:List eE} {s b:aC},cU s l=some b->∀x∈l,re s.ds x:=by
 intro l
 induction l with
 | nil=>intro s b _ x a;cases a
 | cons y r ih=>
  intro s b h x a;rw[cU] at h;obtain⟨s1,d,c⟩:=Option.bind_eq_some_iff.1 h;obtain⟨b1,b2,rfl⟩:=kg.1 d
  rcases List.mem_cons.1 a with rfl|a
  ·exact b1
  ·exact ih c x a
