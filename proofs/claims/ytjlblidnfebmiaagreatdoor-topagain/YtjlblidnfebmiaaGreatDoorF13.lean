import Derived.Test.YtjlblidnfebmiaaGreatDoorF10
import Derived.Test.YtjlblidnfebmiaaGreatDoorF6
import Derived.Test.YtjlblidnfebmiaaGreatDoorF12
import Derived.Shelf.Spec.SlicesInsertGrow
import Derived.Sort.Walk0
set_option maxRecDepth 100000
set_option maxHeartbeats 16000000
open Go Go.RowKit Go.Shelf
attribute [local go_sem] Oper.semAt_some
open Go.Proofs.Tryz
namespace Go.Proofs.YtjlblidnfebmiaaGreatDoor
variable{F b i j k n on:Nat}{L many own:Int}{M:Nat->Prop}{W W':World}{a kind:ByteArray}{cs:List aB}{ds:List ak}{gs:List aR}{h x:af}{hs hs':List af}{l xs:List Int}{m:ByteArray->Option Int}{ns:List ap}{p:aj}{us:Nat->Bool}{v:Value}
structure aL where
 l:List ah
 op:Nat
 nd:Nat
 nb:Int
 pol:Int
structure aE where
 cp:Nat
 ds:List ak
 us:Nat->Bool
def nU (A:Nat) (l:List ah) (x:Nat):Nat:=((List.range l.length).filter λk=>A.testBit k && decide ((l.getD k av).node=(x:Int))).length
def cA (A:Nat) (l:List ah):bZ:=⟨nU A l 0,nU A l 1,nU A l 2,nU A l 3⟩
def lD (p:Nat->Bool) (ds:List ak):bZ:=⟨bj p ds 0 ds.length,bj p ds 1 ds.length,bj p ds 2 ds.length,bj p ds 3 ds.length⟩
def dC (free all:bZ) (nd:Nat) (many:Int):cL:=if many<=0 then ⟨true,[]⟩ else ⟨false,l9 free all nd many⟩
def dJ (m:aL) (s:aE) (own:Int) (ns:List ap):List cL:=
 dC (cA s.cp m.l) (cA m.op m.l) m.nd own :: ns.map λn=>dC (lD (bC s.ds s.us n.kind) s.ds) (lD (cR s.ds n.kind) s.ds) m.nd n.many
def fj (m:aL) (ws:List cL):aK × Bool:=if m.pol=0 then ((m.nd,true),true) else (mh m.pol m.nd ws,(mh m.pol m.nd ws).2 || decide (m.pol=1))
def du (ds:List ak) (on:Nat):List ap->(Nat->Bool)->List Nat->Nat × (Nat->Bool) × List Nat
 | [],us,out=>(0,us,out)
 | n :: r,us,out=>if ed ds us n.kind n.many=0 then du ds on r (eK us (cU ds us n.kind on n.many.toNat)) (out++bI (cU ds us n.kind on n.many.toNat)) else (ed ds us n.kind n.many,us,out)
def bO (m:aL) (s:aE) (own:Int) (ns:List ap):Nat × aR × (Nat->Bool):=
 let p:=fj m (dJ m s own ns)
 if p.2=false then (10,⟨0,[]⟩,s.us) else
 let t:=bN m.l s.cp own (az (λc=>p.1.1.testBit c.node.toNat) m.l)
 if t.2≠0 then (t.2.toNat,⟨0,[]⟩,s.us) else
 let d:=du s.ds p.1.1 ns s.us []
 if d.1≠0 then (d.1,⟨0,[]⟩,d.2.1) else (0,⟨t.1,(bI d.2.2).map λ(k:Nat)=>(k:Int)⟩,d.2.1)
def mJ (m:aL) (cs:List aB) (k:Nat) (gs:List aR) (s:aE):Nat × List aR × aE:=
 if (bO m s (cI cs (ae cs k).am) (ae cs k).ds).1=0 then (0,gs++[(bO m s (cI cs (ae cs k).am) (ae cs k).ds).2.1],⟨aG s.cp (bO m s (cI cs (ae cs k).am) (ae cs k).ds).2.1.cp,s.ds,(bO m s (cI cs (ae cs k).am) (ae cs k).ds).2.2⟩)
 else ((bO m s (cI cs (ae cs k).am) (ae cs k).ds).1,[],⟨s.cp,s.ds,(bO m s (cI cs (ae cs k).am) (ae cs k).ds).2.2⟩)
def b8 (m:aL) (s:aE) (cs:List aB):Nat->Nat × List aR × aE
 | 0=>(0,[],s)
 | k+1=>
  if (b8 m s cs k).1=0 then mJ m cs k (b8 m s cs k).2.1 (b8 m s cs k).2.2 else b8 m s cs k
def aX (m:aL) (s:aE) (p:aj):Nat × List aR:=((b8 m s p.cs p.cs.length).1,(b8 m s p.cs p.cs.length).2.1)
def dW (m:ByteArray->Option Int) (k:ByteArray) (v:Option Int):ByteArray->Option Int:=λx=>if x=k then v else m x
def fW (ns:List ap):ByteArray->Option Int:=ns.foldl (λm n=>dW m n.kind (some n.many)) λ_=>none
def ew (ds:List ak) (m:ByteArray->Option Int) (j:Int):ByteArray->Option Int:=
 let k:=(aC ds j.toNat).kind
 let v:=(m k).getD 0 - 1
 dW m k (if v=0 then none else some v)
def kK (ds:List ak) (l:List Int) (ns:List ap):Prop:=∀k,l.foldl (ew ds) (fW ns) k=none
open Classical in
noncomputable def ex (s:aE) (g:aR) (own:Int) (ns:List ap):Option aE:=
 if g.cp &&& s.cp=g.cp/\(aA g.cp:Int)=own/\bh (eD s.ds.length s.us g.dv) g.dv.length=0 then
  if kK s.ds g.dv ns then some ⟨aG s.cp g.cp,s.ds,de s.us g.dv⟩ else none
 else none
noncomputable def ka (s:aE) (h:af):Nat->Option aE
 | 0=>some s
 | k+1=>(ka s h k).bind λs'=>ex s' (aD h.gs k) (cI h.pod.cs (ae h.pod.cs k).am) (ae h.pod.cs k).ds
noncomputable def kb (s:aE) (hs:List af):Nat->Option aE
 | 0=>some s
 | k+1=>(kb s hs k).bind λs'=>ka s' (ag hs k) (ag hs k).gs.length
noncomputable def be (m:aL) (ds:List ak) (hs:List af):Option aE:=if dI ds=0 then kb ⟨m.op,ds,λ_=>false⟩ hs hs.length else none
def cP (ps:List aj):Int:=(ps.map λp=>dh p.cs p.cs.length).sum
def ey (ps:List aj):Int:=(ps.map λp=>cV p.cs p.cs.length).sum
def bS (m:aL) (ps:List aj):Bool:=decide (cP ps<=1000*(aA m.op:Int)) && decide (ey ps<=m.nb)
structure aZ (W W':World):Prop where
 size:W<=W'.heap.size
 cell:∀(b o:Nat) (v:Value),W.cell? ⟨b,o,none⟩=some v->W'.cell? ⟨b,o,none⟩=some v
theorem aZ.refl(W:World):aZ W W:=⟨lR,λ_ _ _ h=>h⟩
theorem aZ.trans{A B C:World}(h:aZ A B)(k:aZ B C):aZ A C:=⟨Q5 h.size k.size,λb o v e=>k.cell b o v (h.cell b o v e)⟩
theorem aZ.of_below(h:Below W W W'):aZ W W':=
 ⟨h.size,λb o _ e=>(h.cell (p:=⟨b,o,none⟩) (Q3 W ⟨b,o,none⟩ e)).trans e⟩
theorem bD.le(h:bD W v xs)(l:aZ W W'):bD W' v xs:=by
 obtain⟨f,c,j,n,m⟩:=h;refine⟨f,c,j,n,λe=>?_⟩;obtain⟨b,o,g,a,d⟩:=m e;exact⟨b,o,g,Q1 a l.size,λk i=>l.cell _ _ _ (d k i)⟩
theorem bv.le{ds:List ap}(h:bv W v ds)(l:aZ W W'):bv W' v ds:=by
 obtain⟨g,c,j,n,m⟩:=h;refine⟨g,c,j,n,λf=>?_⟩;obtain⟨b,o,i,d,a⟩:=m f;exact⟨b,o,i,Q1 d l.size,λk e=>⟨l.cell _ _ _ (a k e).1,l.cell _ _ _ (a k e).2⟩⟩
theorem aQ.le(h:aQ W v cs)(l:aZ W W'):aQ W' v cs:=by
 obtain⟨i,c,n,f,p⟩:=h;refine⟨i,c,n,f,λg=>?_⟩;obtain⟨b,o,dv,m,Hb,Ha⟩:=p g;refine⟨b,o,dv,m,Q1 Hb l.size,λk a=>⟨λj d=>?_,(Ha k a).2.le l⟩⟩;have e:j<(di (ae cs k) (dv k)).length:=d;rw[Qf e];exact l.cell _ _ _ (((Ha k a).1 j d).trans (Qf e))
theorem b7.le(h:b7 W v gs)(l:aZ W W'):b7 W' v gs:=by
 obtain⟨e,c,g,j,i⟩:=h;refine⟨e,c,g,j,λd=>?_⟩;obtain⟨b,o,dv,f,Hb,Ha⟩:=i d;exact⟨b,o,dv,f,Q1 Hb l.size,λk a=>⟨⟨l.cell _ _ _ (Ha k a).1.1,l.cell _ _ _ (Ha k a).1.2.1,(Ha k a).1.2.2⟩,(Ha k a).2.le l⟩⟩
theorem aY.le(h:aY W v hs)(l:aZ W W'):aY W' v hs:=by
 obtain⟨f,c,i,m,j⟩:=h;refine⟨f,c,i,m,λe=>?_⟩;obtain⟨b,o,cv,d,g,Hb,Ha⟩:=j e;exact⟨b,o,cv,d,g,Q1 Hb l.size,λk a=>⟨⟨l.cell _ _ _ (Ha k a).1.1,l.cell _ _ _ (Ha k a).1.2.1,l.cell _ _ _ (Ha k a).1.2.2.1,l.cell _ _ _ (Ha k a).1.2.2.2⟩,(Ha k a).2.1.le l,(Ha k a).2.2.le l⟩⟩
open Classical in
noncomputable def au (M:Nat->Prop) (W:World):World:={ W with heap:=W.heap.mapIdx λj o=>if M j then .cells #[] 0 (0,0) else o }
theorem bX(M:Nat->Prop)(W:World):(au M W).heap.size=W.heap.size:=by simp[au]
theorem MA(h:M j)(a:j<W):(au M W).heap[j]?=some (.cells #[] 0 (0,0)):=by
 simp[au,Array.getElem?_mapIdx,Array.getElem?_eq_getElem a,h]
theorem b9(h:¬ M j):(au M W).heap[j]?=W.heap[j]?:=by grind[au]
theorem fk{o:Nat}(h:(au M W).cell? ⟨b,o,none⟩=some v):¬ M b:=λd=>by
 have c:=Q3 _ ⟨b,o,none⟩ h;have a:b<W:=by rw[bX] at c;exact c
 simp[World.cell?,MA d a] at h
theorem nV{M':Nat->Prop}(h:Apart M W W')(f:∀j,j<W.heap.size->M' j->M j):aZ (au M W) (au M' W'):=by
 refine⟨by rw[bX,bX];exact h.size,λb o v e=>?_⟩;have c:=fk e;have d:b<W.heap.size:=by have:=Q3 _ ⟨b,o,none⟩ e;rw[bX] at this;exact this
 have g:(au M' W').heap[b]?=(au M W).heap[b]?:=by
  rw[b9 λk=>c (f b d k),b9 c];exact h.block b d c
 exact (World.cell?_of_block (a:=⟨b,o,none⟩) g).trans e
theorem cJ(M:Nat->Prop)(W:World):aZ (au M W) W:=by
 refine⟨by rw[bX];exact lR,λb o v e=>?_⟩;exact (World.cell?_of_block (a:=⟨b,o,none⟩) (b9 (fk e)).symm).trans e
theorem mK{N:Nat}{w:World}(h:Below N w W)(f:w=N)(c:∀j,M j->N<=j):aZ w (au M W):=by
 refine⟨by rw[bX];exact h.size,λb o v e=>?_⟩;have d:b<N:=by rw[<- f];exact Q3 w ⟨b,o,none⟩ e
 have g:(au M W).heap[b]?=w.heap[b]?:=by
  rw[b9 (λk=>by have:=c b k;omega)];exact h.block b d
 exact (World.cell?_of_block (a:=⟨b,o,none⟩) g).trans e
section
open RowKit Shelf Go.Lib
theorem MC:(prog.info? 101).map (λi=>(i.zero,i.size,i.bytes))=some (some (.agg #[ByteArray.empty,(0:Int),.slice none 0 0,.slice none 0 0]),4,72):=by kernel_rfl
theorem MD:(prog.info? 101).map (·.size)=some 4:=by kernel_rfl
theorem tF(w:World)(m:TypeId)(b o c f:Nat)(a:Addr)(d g:Nat)(cs:List Value)(n:cs.length=Nat.min d c*4)
  (e:∀j v,cs[j]?=some v->w.cell? (a.add j)=some v) (k:∀j,j<cs.length->(w.cell? ⟨b,o+j,none⟩).isSome=true) (hf:∀j,j<cs.length->w.frozen? ⟨b,o+j,none⟩=false) (l:∀v∈cs,v.oneCell'=true) :
  (Builtin.copy_ #[43,43] m #[.slice (some ⟨b,o,none⟩) c f,.slice (some a) d g]).run prog w=.ok (goInt (Nat.min d c)) (w.setCells b o cs):=by
 have h:=run_loadCells_list (P:=prog) w a cs e;have Ha:=run_storeCells_cells (P:=prog) b o cs 0 w (by simpa using k) (by simpa using hf) l;have hs:=MD;cases hq:prog.info? 101 with
 | none=>rw[hq] at hs;cases hs
 | some i=>
  have hi:i.size=4:=by rw[hq] at hs;simpa using hs
  rw[n] at h
  simp[Builtin.copy_,run_underlying underlying43,Builtin.lenOf,Builtin.firstCells,sizeOf,typeInfo,hq,hi,h,Ha]
theorem ME(b n c i d a vc:Nat)(cs vs:List Value)(w:World)(hi:i<n)(A:n+1<=c)(L:c<=9223372036854775807)(r:d≠b)
  (m:cs.length=n*4) (y:vs.length=4)
  (s:∀j v,cs[j]?=some v->w.cell? ⟨b,j,none⟩=some v) (g:∀j,j<(n+1)*4->(w.cell? ⟨b,j,none⟩).isSome=true) (p:∀j,w.frozen? ⟨b,j,none⟩=false)
  (o:∀j v,vs[j]?=some v->w.cell? ⟨d,a+j,none⟩=some v) (H:∀v∈cs,v.oneCell'=true) (z:∀v∈vs,v.oneCell'=true)
  (M K:TypeId) (C J:Nat) (G:w.shape? d=some (M,C)) (u:w.shape? b=some (K,J)) (D:J≠0) (B:w.frozen? ⟨d,a,none⟩=false) (E:w.frozen? ⟨d,C,none⟩=false) :
  Calls prog 54 #[.slice b n c,(i:Int),.slice (some ⟨d,a,none⟩) 1 vc] w λe w'=>
   e=.returned (.slice b (n+1) c)/\w'=(w.drew.setCells b ((i+1)*4) (cs.drop (i*4))).setCells b (i*4) vs:=by
 have Hh:¬ ((i:Int)=(n:Int)):=by omega
 have Hg:∀lb cb,(callFunc 93 #[.slice (some ⟨d,a,none⟩) 1 vc,.slice (some ⟨b,(i+1)*4,none⟩) lb cb]).run prog w=.ok (.value false) w:=λlb cb=>by
  rw[run_callFunc_extern func93 (by kernel_rfl) (by kernel_rfl) (by kernel_rfl) (e:=Extern.SlicesOverlaps.overlaps #[43,43] #[4]) (by kernel_rfl),
   Lib.run_overlaps_apart w 43 4 101 underlying43 4 sizeOf101 ⟨d,a,none⟩ ⟨b,(i+1)*4,none⟩ 1 vc lb cb r M K C J G u D B E]
  rfl
 have Hf:(cs.drop (i*4)).length=(n - i)*4:=by rw[List.length_drop,m];omega
 have Ha:∀l dc F,(Builtin.copy_ #[43,43] l #[.slice (some ⟨b,(i+1)*4,none⟩) (n - i) dc,.slice (some ⟨b,i*4,none⟩) (n+1 - i) F]).run prog w.drew=.ok (goInt (Nat.min (n+1 - i) (n - i))) (w.drew.setCells b ((i+1)*4) (cs.drop (i*4))):=λl dc F=>
  tF w.drew l b ((i+1)*4) (n - i) dc ⟨b,i*4,none⟩ (n+1 - i) F (cs.drop (i*4)) (by rw[Hf];simp only[Nat.min_def];split <;> omega)
   (λj v f=>by rw[Addr.add_lit];exact s (i*4+j) v (by rwa [List.getElem?_drop] at f))
   (λj f=>g _ (by omega)) (λj f=>p _) λv N=>H v (List.mem_of_mem_drop N)
 obtain⟨t,Hc⟩:∃t,t=w.drew.setCells b ((i+1)*4) (cs.drop (i*4)):=⟨_,rfl⟩;have Hb:∀k,k<(n+1)*4->(t.cell? ⟨b,k,none⟩).isSome=true:=λk O=>by
  rw[Hc];exact isSome_setCells b (cs.drop (i*4)) ((i+1)*4) w.drew (λj f=>g _ (by rw[Hf] at f;omega)) k (g k O)
 have He:∀(W:World),(∀x,W.cell? x=t.cell? x)->(∀x,W.frozen? x=t.frozen? x)->∀l dc,(Builtin.copy_ #[43,43] l #[.slice (some ⟨b,i*4,none⟩) (n+1 - i) dc,.slice (some ⟨d,a,none⟩) 1 vc]).run prog W=.ok (goInt (Nat.min 1 (n+1 - i))) (W.setCells b (i*4) vs):=λW q I l dc=>
  tF W l b (i*4) (n+1 - i) dc ⟨d,a,none⟩ 1 vc vs (by rw[y];simp only[Nat.min_def];split <;> omega)
   (λj v f=>by
    rw[Addr.add_lit,q,Hc,World.cell?_setCells_out b _ _ _ _ λh _=>absurd h r];exact o j v f)
   (λj f=>by rw[q];exact Hb _ (by omega)) (λj f=>by rw[I,Hc,World.frozen?_setCells];exact p _) z
 rw[<- Hc] at Ha;have Hi:i<=n:=by omega
 have Hj:((i:Int)+1).toNat=i+1:=by omega
 have Hm:¬ (c=i+1):=by omega
 have Hk:(i:Int)<=(n:Int)+1:=by omega
 have Ho:¬ (c=i):=by omega
 have mixed:prog.follows .mixedOrders=true:=by kernel_rfl
 have Hp:IntKind.i64.wrap ((i:Int)+1)=(i:Int)+1:=by rw[IntKind.wrap_i64];omega
 have Hn:(0:Int)<=(i:Int)+1:=by omega
 have Hl:(i:Int)+1<=(n:Int)+1:=by omega
 clear s g o Hb Hf m
 go_enter func54,ntmps54
 go_wp2_with (simp only[Hg])
 go_region_law_o (refine step_copy_runI rfl _ _ 43 43 rfl _ _ (by simp[Act.eval,Act.put]) (by simp[Act.eval,Act.put]) (Ha _ _ _) ?_)
 go_wp2_with (at_builtin;refine wpList_copy_runI _ rfl _ _ 43 43 rfl _ _ rfl rfl (He _ (λ_=>rfl) (λ_=>rfl) _ _) ?_)
 go_ret
 first|exact⟨rfl,rfl⟩|exact⟨rfl,by rw[Hc]⟩
end
structure eG where
 g:aR
 own:Int
 ns:List ap
def qQ (ds:List ak) (x:eG):Prop:=(aA x.g.cp:Int)=x.own/\kK ds x.g.dv x.ns/\(∀k,k<x.g.dv.length->0<=bH x.g.dv k/\bH x.g.dv k<ds.length/\bH x.g.dv k ∉ x.g.dv.take k)
def qR (s:aE) (x:eG):Prop:=x.g.cp &&& s.cp=x.g.cp/\∀k,k<x.g.dv.length->s.us (bH x.g.dv k).toNat=false
def gF (s:aE) (x:eG):aE:=⟨aG s.cp x.g.cp,s.ds,de s.us x.g.dv⟩
theorem wJ:eD n us l k=0↔(0<=bH l k/\bH l k<n/\bH l k ∉ l.take k)/\us (bH l k).toNat=false:=by
 unfold eD
 by_cases f:bH l k<0\/(n:Int)<=bH l k
 ·rw[if_pos f];constructor
  ·intro h;cases h
  ·rintro⟨⟨a,b,_⟩,_⟩;omega
 ·rw[if_neg f]
  by_cases e:(us (bH l k).toNat || decide (bH l k∈l.take k))=true
  ·rw[if_pos e];constructor
   ·intro h;cases h
   ·rintro⟨⟨_,_,c⟩,d⟩;rw[d,Bool.false_or,Qp] at e;exact absurd e c
  ·rw[if_neg e];rw[Bool.not_eq_true,Bool.or_eq_false_iff,decide_eq_false_iff_not] at e;exact⟨λ_=>⟨⟨by omega,by omega,e.2⟩,e.1⟩,λ_=>rfl⟩
theorem kL{s j:aE}{x:eG}:ex s x.g x.own x.ns=some j↔qQ s.ds x/\qR s x/\j=gF s x:=by
 unfold ex
 by_cases h:x.g.cp &&& s.cp=x.g.cp/\(aA x.g.cp:Int)=x.own/\bh (eD s.ds.length s.us x.g.dv) x.g.dv.length=0
 ·rw[if_pos h];obtain⟨l,m,n⟩:=h;have i:=fA n
  by_cases g:kK s.ds x.g.dv x.ns
  ·rw[if_pos g];constructor
   ·intro e;injection e with e
    exact⟨⟨m,g,λk f=>(wJ.1 (i k f)).1⟩,⟨l,λk f=>(wJ.1 (i k f)).2⟩,e.symm⟩
   ·rintro⟨_,_,rfl⟩;rfl
  ·rw[if_neg g];exact⟨λe=>(by cases e),λe=>absurd e.1.2.1 g⟩
 ·rw[if_neg h];constructor
  ·intro e;cases e
  ·rintro⟨⟨a,b,c⟩,⟨d,e⟩,_⟩;exact absurd ⟨d,a,sO λk f=>wJ.2 ⟨c k f,e k f⟩⟩ h
theorem MF(h:k<l.length):bH l k∈l:=by simp[bH,h]
theorem MG{x:Int}(h:x∈l):∃k,k<l.length/\bH l k=x:=by
 obtain⟨k,a,e⟩:=List.getElem_of_mem h;exact⟨k,a,by simp[bH,a,e]⟩
theorem BU{j:Nat}:de us l j=false↔us j=false/\(j:Int) ∉ l:=by
 unfold de;simp
theorem MH{s:aE}{x y:eG}(f:qQ s.ds x)(m:qQ s.ds y)(g:qR s x)(d:qR (gF s x) y):qR s y/\qR (gF s y) x:=by
 have h:∀i,y.g.cp.testBit i=true->s.cp.testBit i=true/\x.g.cp.testBit i=false:=λi hi=>by
  have e:=congrArg (λn=>Nat.testBit n i) d.1;simp only[gF,Nat.testBit_and,iz,hi,Bool.true_and] at e;cases hs:s.cp.testBit i <;> cases f:x.g.cp.testBit i <;> simp_all
 have Ha:∀i,x.g.cp.testBit i=true->s.cp.testBit i=true:=λi hi=>by
  have e:=congrArg (λn=>Nat.testBit n i) g.1
  simpa[Nat.testBit_and,hi] using e
 have ag:∀k,k<y.g.dv.length->s.us (bH y.g.dv k).toNat=false/\bH y.g.dv k ∉ x.g.dv:=λk a=>by
  have e:=BU.1 (d.2 k a);have c:=(m.2.2 k a).1;rw[Int.toNat_of_nonneg c] at e;exact e
 refine⟨⟨?_,λk a=>(ag k a).1⟩,?_,λk a=>?_⟩
 ·apply Nat.eq_of_testBit_eq;intro i;rw[Nat.testBit_and];cases hi:y.g.cp.testBit i with
  | false=>rfl
  | true=>rw[(h i hi).1];rfl
 ·apply Nat.eq_of_testBit_eq;intro i;simp only[gF,Nat.testBit_and,iz];cases hi:x.g.cp.testBit i with
  | false=>rfl
  | true=>
   rw[Ha i hi];cases b:y.g.cp.testBit i with
   | false=>rfl
   | true=>rw[(h i b).2] at hi;cases hi
 ·refine BU.2 ⟨g.2 k a,λl=>?_⟩;have c:=(f.2.2 k a).1;rw[Int.toNat_of_nonneg c] at l;obtain⟨j,b,e⟩:=MG l;exact (ag j b).2 (by rw[e];exact MF a)
theorem MI(s:aE)(x y:eG):gF (gF s x) y=gF (gF s y) x:=by
 unfold gF
 congr 1
 ·apply Nat.eq_of_testBit_eq;intro i;simp only[iz];cases s.cp.testBit i <;> cases x.g.cp.testBit i <;> cases y.g.cp.testBit i <;> rfl
 ·funext j
  unfold de;rw[Bool.or_assoc,Bool.or_assoc,Bool.or_comm (decide _) (decide _)]
noncomputable def cQ (s:aE):List eG->Option aE
 | []=>some s
 | x :: r=>(ex s x.g x.own x.ns).bind λs'=>cQ s' r
theorem qS(a b:List eG):∀s,cQ s (a++b)=(cQ s a).bind λc=>cQ c b:=by
 induction a with
 | nil=>intro s;rfl
 | cons x r ih=>
  intro s;rw[List.cons_append,cQ,cQ,Option.bind_assoc]
  congr 1
  funext c
  exact ih c
theorem BV{s a:aE}{x:eG}(h:ex s x.g x.own x.ns=some a):a.ds=s.ds:=by
 rw[(kL.1 h).2.2];rfl
theorem MJ{a b:List eG}(h:a.Perm b):∀ {s c:aE},cQ s a=some c->cQ s b=some c:=by
 induction h with
 | nil=>intro s c e;exact e
 | cons x _ ih=>
  intro s c e;rw[cQ] at e ⊢;obtain⟨n,f,d⟩:=Option.bind_eq_some_iff.1 e;rw[f,Option.bind_some];exact ih d
 | swap x y l=>
  intro s c e;rw[cQ] at e;obtain⟨n,f,d⟩:=Option.bind_eq_some_iff.1 e;rw[cQ] at d;obtain⟨o,i,m⟩:=Option.bind_eq_some_iff.1 d;obtain⟨g,a2,rfl⟩:=kL.1 f;obtain⟨b1,b2,rfl⟩:=kL.1 i;obtain⟨c1,c2⟩:=MH g b1 a2 b2;have j:ex s x.g x.own x.ns=some (gF s x):=kL.2 ⟨b1,c1,rfl⟩;have k:ex (gF s x) y.g y.own y.ns=some (gF (gF s x) y):=kL.2 ⟨g,c2,rfl⟩;rw[cQ,j,Option.bind_some,cQ,k,Option.bind_some,MI];exact m
 | trans _ _ ih1 ih2=>intro s c e;exact ih2 (ih1 e)
def kM (h:af):List eG:=(List.range h.gs.length).map λk=>⟨aD h.gs k,cI h.pod.cs (ae h.pod.cs k).am,(ae h.pod.cs k).ds⟩
def kN (hs:List af):List eG:=hs.flatMap kM
theorem MK(h:af)(s:aE):∀k,ka s h k=cQ s ((List.range k).map λk=>⟨aD h.gs k,cI h.pod.cs (ae h.pod.cs k).am,(ae h.pod.cs k).ds⟩):=by
 intro k
 induction k with
 | zero=>rfl
 | succ k ih=>
  rw[ka,ih,List.range_succ,Qj,qS]
  congr 1
  funext s'
  rw[List.map_singleton,cQ];cases ex s' (aD h.gs k) (cI h.pod.cs (ae h.pod.cs k).am) (ae h.pod.cs k).ds <;> rfl
theorem po(hs:List af)(s:aE):∀k,k<=hs.length->kb s hs k=cQ s (kN (hs.take k)):=by
 intro k
 induction k with
 | zero=>intro _;rfl
 | succ k ih=>
  intro a;have Ha:k<hs.length:=a;rw[kb,ih (by omega),Qa Ha]
  show _=cQ s ((hs.take k++[hs[k]]).flatMap kM)
  rw[List.flatMap_append,qS]
  show (cQ s (kN (hs.take k))).bind _=(cQ s (kN (hs.take k))).bind _
  congr 1
  funext s'
  rw[MK];have e:ag hs k=hs[k]:=by simp[ag,Ha]
  rw[e]
  simp[kM]
theorem BW{m:aL}{s:aE}(a:hs.Perm hs')(h:be m ds hs=some s):be m ds hs'=some s:=by
 unfold be at h ⊢
 split at h
 ·rename_i b
  rw[if_pos b];rw[po _ _ _ (lR),Qh] at h ⊢;exact MJ (a.flatMap_right kM) h
 ·cases h
theorem ML{m:aL}{s a:aE}(h:be m ds hs=some s)(d:cQ s (kM x)=some a):be m ds (hs++[x])=some a:=by
 unfold be at h ⊢
 split at h
 ·rename_i c
  rw[if_pos c];rw[po _ _ _ (lR),Qh] at h ⊢;rw[kN,List.flatMap_append,qS];have b:cQ ⟨m.op,ds,λ_=>false⟩ (hs.flatMap kM)=some s:=h;rw[b,Option.bind_some]
  simpa using d
 ·cases h
section
open RowKit Shelf Go.Lib
abbrev fX:Value:=.agg #[ByteArray.empty,(0:Int),.slice none 0 0,.slice none 0 0]
theorem MM(b n c i o f vc:Nat)(cs vs:List Value)(w:World)(hi:i<n)(I:n<=c)(p:c<n+1)(D:n<=100)
  (s:cs.length=n*4) (u:vs.length=4)
  (m:∀j v,cs[j]?=some v->w.cell? ⟨b,j,none⟩=some v)
  (q:∀j v,vs[j]?=some v->w.cell? ⟨o,f+j,none⟩=some v) (z:∀v∈cs,v.oneCell'=true) (B:∀v∈vs,v.oneCell'=true) :
  Calls prog 54 #[.slice b n c,(i:Int),.slice (some ⟨o,f,none⟩) 1 vc] w λe w'=>
   ∃G,n+1<=G/\G<=maxLen/\e=.returned (.slice w (n+1) G)/\
   w'=(((w.alloc (.cells ((cs.take (i*4)).toArray++Builtin.zeroCells fX.cells (n+1 - i)++Builtin.zeroCells fX.cells (G - (n+1))) 101)).drew.setCells w (i*4) vs).drew).setCells w ((i+1)*4) (cs.drop (i*4)):=by
 obtain⟨i0,Hp,Hq,Hr,Hl⟩:=info_parts MC;have T:¬ ((i:Int)=(n:Int)):=by omega
 have N:(c:Int)<(n:Int)+1:=by omega
 have F:b<w:=block_lt_of_cell (m 0 _ (Qf (by omega)));have Hz:o<w:=block_lt_of_cell (q 0 _ (Qf (by omega)));have Hs:(n:Int)+1 - (i:Int)=((n+1 - i:Nat):Int):=by omega
 have Hj:i+(n+1 - i)=n+1:=by omega
 have Hh:(Builtin.firstCells i0.size i (.slice b i c)).run prog w.drew=.ok (cs.take (i*4)).toArray w.drew:=by
  rw[Hr];exact run_firstCells_some w.drew 4 i b i c (cs.take (i*4)) (by rw[Qu];omega) (λj v d=>by
   rw[Addr.add_lit];rw[List.getElem?_take] at d
   split at d
   ·rw[Qd];exact m j v d
   ·cases d)
 have Ha:Builtin.nextslicecap (n+1) c*i0.bytes<=281474976710656:=by rw[Hl];exact growslice_fits p (by omega)
 have Hi:∀g,(Builtin.append_ #[43,3] g #[.slice b i c,.int .i64 ((n:Int)+1 - (i:Int))]).run prog w =
   .ok (.slice w (n+1) (grownCap w (n+1) c 101)) (w.drew.alloc (.cells ((cs.take (i*4)).toArray++Builtin.zeroCells fX.cells (n+1 - i)++Builtin.zeroCells fX.cells (grownCap w (n+1) c 101 - (n+1))) 101)):=λg=>by
  have h:=Lib.run_append_grow_zeros w 43 3 g 101 i0 _ .i64 .i64 underlying43 underlying3 Hp Hq (some ⟨b,0,none⟩) i c (cs.take (i*4)) Hh (n+1 - i) (by omega) (by omega) (by omega) (by omega) (by rw[Hl];omega) (by rw[Hj];exact Ha);rw[Hj] at h;rw[Hs];exact h
 have Hg:n+1<=grownCap w (n+1) c 101:=grownCap_ge w _ _ _;have Hb:grownCap w (n+1) c 101<=maxLen:=grownCap_le_maxLen w (n+1) c 101 (by unfold maxLen;omega);obtain⟨G,C⟩:∃G,G=grownCap w (n+1) c 101:=⟨_,rfl⟩;rw[<- C] at Hi Hg Hb;refine Calls.mono (R:=λe w'=>e=.returned (.slice w (n+1) G)/\w'=(((w.alloc (.cells ((cs.take (i*4)).toArray++Builtin.zeroCells fX.cells (n+1 - i)++Builtin.zeroCells fX.cells (G - (n+1))) 101)).drew.setCells w (i*4) vs).drew).setCells w ((i+1)*4) (cs.drop (i*4))) ?_ λe w' h=>⟨G,Hg,Hb,h.1,h.2⟩;obtain⟨a,Hc⟩:∃a:Array Value,a=(cs.take (i*4)).toArray++Builtin.zeroCells fX.cells (n+1 - i)++Builtin.zeroCells fX.cells (G - (n+1)):=⟨_,rfl⟩;rw[<- Hc] at Hi ⊢;have Ht:(n+1)*4<=a.size:=by
  rw[Hc];have J:fX.cells.size=4:=rfl;simp only[Array.size_append,List.size_toArray,Qu,Builtin.zeroCells,Array.size_map,Array.size_range,J,s];omega
 have Hn:G<=9223372036854775807:=by unfold maxLen at Hb;omega
 obtain⟨l,He⟩:∃l,l=w.drew.alloc (.cells a 101):=⟨_,rfl⟩;rw[<- He] at Hi;have A:∀j,j<(n+1)*4->(l.cell? ⟨w,j,none⟩).isSome=true:=λj d=>by
  rw[He,World.cell?_alloc_at (w:=w.drew) a _ w j rfl,Array.getElem?_eq_getElem (by omega)];rfl
 have Hm:∀j,l.frozen? ⟨w,j,none⟩=false:=λj=>by rw[He];exact World.frozen?_alloc_at (w:=w.drew) a _ w j rfl
 have E:∀j v,w.cell? ⟨b,j,none⟩=some v->l.cell? ⟨b,j,none⟩=some v:=λj v h=>by rw[He,World.cell?_alloc_past (w:=w.drew) _ b j F];exact h
 have Hw:∀j v,w.cell? ⟨o,j,none⟩=some v->l.cell? ⟨o,j,none⟩=some v:=λj v h=>by rw[He,World.cell?_alloc_past (w:=w.drew) _ o j Hz];exact h
 have Hk:∀(W:World),(∀x,W.cell? x=l.cell? x)->(∀x,W.frozen? x=l.frozen? x)->∀g dc,(Builtin.copy_ #[43,43] g #[.slice (some ⟨w,i*4,none⟩) (n+1 - i) dc,.slice (some ⟨o,f,none⟩) 1 vc]).run prog W=.ok (goInt (Nat.min 1 (n+1 - i))) (W.setCells w (i*4) vs):=λW k r g dc=>
  tF W g w (i*4) (n+1 - i) dc ⟨o,f,none⟩ 1 vc vs (by rw[u];simp only[Nat.min_def];split <;> omega)
   (λj v d=>by rw[Addr.add_lit,k];exact Hw _ v (q j v d))
   (λj d=>by rw[k];exact A _ (by omega)) (λj d=>by rw[r];exact Hm _) B
 have S:¬ (G=i):=by omega
 have Hv:¬ (G=i+1):=by omega
 have P:¬ (c=i):=by omega
 have Hy:b≠w:=by omega
 have Ho:(cs.drop (i*4)).length=(n - i)*4:=by rw[List.length_drop,s];omega
 have Hf:∀(W:World),(∀x,W.cell? x=(l.setCells w (i*4) vs).cell? x)->(∀x,W.frozen? x=(l.setCells w (i*4) vs).frozen? x)->∀g dc y,(Builtin.copy_ #[43,43] g #[.slice (some ⟨w,(i+1)*4,none⟩) (n - i) dc,.slice (some ⟨b,i*4,none⟩) (n - i) y]).run prog W=.ok (goInt (Nat.min (n - i) (n - i))) (W.setCells w ((i+1)*4) (cs.drop (i*4))):=λW k r g dc y=>
  tF W g w ((i+1)*4) (n - i) dc ⟨b,i*4,none⟩ (n - i) y (cs.drop (i*4)) (by rw[Ho];simp only[Nat.min_def];split <;> omega)
   (λj v d=>by
    rw[Addr.add_lit,k,World.cell?_setCells_out _ _ _ _ _ λh _=>absurd h Hy];exact E _ v (m (i*4+j) v (by rwa [List.getElem?_drop] at d)))
   (λj d=>by rw[k];exact isSome_setCells w vs (i*4) l (λt V=>A _ (by omega)) _ (A _ (by rw[Ho] at d;omega)))
   (λj d=>by rw[r,World.frozen?_setCells];exact Hm _) λv L=>z v (List.mem_of_mem_drop L)
 subst He;have M:∀x,((w.alloc (.cells a 101)).drew).cell? x=(w.drew.alloc (.cells a 101)).cell? x:=λx=>rfl
 have H:∀x,((w.alloc (.cells a 101)).drew).frozen? x=(w.drew.alloc (.cells a 101)).frozen? x:=λx=>rfl
 have Hx:∀x,(((w.alloc (.cells a 101)).drew.setCells w (i*4) vs).drew).cell? x=((w.drew.alloc (.cells a 101)).setCells w (i*4) vs).cell? x:=λx=>rfl
 have K:∀x,(((w.alloc (.cells a 101)).drew.setCells w (i*4) vs).drew).frozen? x=((w.drew.alloc (.cells a 101)).setCells w (i*4) vs).frozen? x:=λx=>rfl
 have Y:IntKind.i64.wrap ((i:Int)+1)=(i:Int)+1:=by rw[IntKind.wrap_i64];omega
 have O:(0:Int)<=(i:Int)+1:=by omega
 have Q:i<=n:=by omega
 have X:((i:Int)+1).toNat=i+1:=by omega
 have Z:(i:Int)<=(n:Int):=by omega
 have U:(i:Int)+1<=(n:Int)+1:=by omega
 have mixed:prog.follows .mixedOrders=true:=by kernel_rfl
 clear Hs Hj Hh Hc C Ht m q Ha Hp Hq Hr Hl
 go_enter func54,ntmps54
 go_wp2_with (first
  | (at_builtin;refine Lib.wpList_append_run _ rfl _ _ _ _ rfl _ _ rfl rfl _ _ (Hi _) ?_)
  | (at_builtin;refine wpList_copy_runI _ rfl _ _ 43 43 rfl _ _ rfl rfl (Hk _ M H _ _) ?_)
  | (at_builtin;refine wpList_copy_runI _ rfl _ _ 43 43 rfl _ _ rfl rfl (Hf _ (λ_=>rfl) (λ_=>rfl) _ _ _) ?_))
 go_region_law_o (refine step_copy_runI rfl _ _ 43 43 rfl (.slice (some ⟨w,(i+1)*4,none⟩) (n - i) (G - (i+1))) (.slice (some ⟨b,i*4,none⟩) (n - i) (c - i)) (by simp[Act.eval,Act.put]) (by simp[Act.eval,Act.put]) (Hf _ Hx K 3 (G - (i+1)) (c - i)) ?_)
 go_wp2
 go_ret;exact⟨rfl,rfl⟩
end
def nW (ds:List ak) (k:ByteArray) (l:List Int):Nat:=l.countP λj=>decide ((aC ds j.toNat).kind=k)
def kO (m:ByteArray->Option Int):Prop:=∀k,m k≠some 0
theorem MN(h:kO m)(k:ByteArray):m k=none↔(m k).getD 0=0:=by
 cases e:m k with
 | none=>simp
 | some v=>
  have:=h k
  rw[e] at this;constructor
  ·intro h;cases h
  ·intro h;exact absurd (congrArg some h) this
theorem BX(h:kO m)(k:ByteArray){v:Option Int}(a:v≠some 0):kO (dW m k v):=by
 intro x;unfold dW
 split
 ·exact a
 ·exact h x
theorem MO(ds:List ak)(h:kO m)(j:Int):kO (ew ds m j):=by grind[ew,BX]
theorem MP(ds:List ak)(m:ByteArray->Option Int)(j:Int)(k:ByteArray):(ew ds m j k).getD 0=(m k).getD 0 - (if (aC ds j.toNat).kind=k then 1 else 0):=by unfold ew dW;grind
theorem MQ(ds:List ak)(k:ByteArray):∀(l:List Int) (m:ByteArray->Option Int),kO m->kO (l.foldl (ew ds) m)/\(l.foldl (ew ds) m k).getD 0=(m k).getD 0 - (nW ds k l:Nat):=by
 intro l
 induction l with
 | nil=>intro m h;exact⟨h,by simp[nW]⟩
 | cons j r ih=>
  intro m h;obtain⟨b,c⟩:=ih (ew ds m j) (MO ds h j);refine⟨b,?_⟩;rw[List.foldl_cons,c,MP];unfold nW;rw[List.countP_cons]
  by_cases a:(aC ds j.toNat).kind=k
  ·simp[a];omega
  ·simp[a]
theorem MR(ns:List ap)(h:∀n∈ns,n.many≠0):∀m,kO m->kO (ns.foldl (λm n=>dW m n.kind (some n.many)) m):=by induction ns <;> grind[BX]
theorem MS{ds:List ak}{l:List Int}(h:∀n∈ns,n.many≠0):kK ds l ns↔∀k,(fW ns k).getD 0=(nW ds k l:Nat):=by
 have c:kO (fW ns):=MR ns h _ (λ_ e=>by cases e);unfold kK;refine forall_congr' λk=>?_
 obtain⟨a,b⟩:=MQ ds k l (fW ns) c;rw[MN a,b];omega
theorem BY:∀(ns:List ap) (m:ByteArray->Option Int) (k:ByteArray),(∀n∈ns,n.kind≠k)->ns.foldl (λm n=>dW m n.kind (some n.many)) m k=m k:=by
 intro ns
 induction ns with
 | nil=>intro m k _;rfl
 | cons n r ih=>
  intro m k h;rw[List.foldl_cons,ih _ k λx a=>h x (Qv _ a)];unfold dW;rw[if_neg λe=>h n (List.mem_cons_self ..) e.symm]
theorem MT:∀(ns:List ap) (m:ByteArray->Option Int) (n:ap),n∈ns->ns.Pairwise (λa b=>a.kind≠b.kind)->ns.foldl (λm n=>dW m n.kind (some n.many)) m n.kind=some n.many:=by
 intro ns
 induction ns with
 | nil=>intro m n h;cases h
 | cons x r ih=>
  intro m n h c;rw[List.foldl_cons];obtain⟨d,g⟩:=List.pairwise_cons.1 c
  rcases List.mem_cons.1 h with rfl|h
  ·rw[BY r _ n.kind λy f e=>d y f e.symm];unfold dW;rw[if_pos rfl]
  ·exact ih _ n h g
theorem BZ{l:List ah}(h:(bN l F L on).2=0):(aA (bN l F L on).1:Int)=L/\(bN l F L on).1 &&& F=(bN l F L on).1:=by
 unfold bN at h ⊢
 split
 ·rename_i a;rw[if_pos a] at h;cases h
 ·rename_i a
  rw[if_neg a] at h
  split
  ·rename_i b;rw[if_pos b] at h;cases h
  ·rename_i b
   have:=Kl (l:=l) (F:=F) (L:=L) on (by omega) (by omega) _ rfl
   exact⟨this.1,this.2.1⟩
def kc (ds:List ak) (k:ByteArray) (l:List Nat):Nat:=l.countP λj=>decide ((aC ds j).kind=k)
def lE (k:ByteArray) (ns:List ap):Int:=(ns.map λn=>if n.kind=k then n.many else 0).sum
theorem B0{m:Nat}(h:ed ds us kind many=0):((cU ds us kind m many.toNat).length:Int)=many:=by grind[ed,cU,zS]
theorem MU{m:Nat}(k:ByteArray):kc ds k (cU ds us kind m n)=if kind=k then (cU ds us kind m n).length else 0:=by
 unfold kc
 by_cases a:kind=k
 ·rw[if_pos a,List.countP_eq_length];intro j b;have h:=(nD b).2;simp only[bC,Bool.and_eq_true,Qp] at h
  simp[h.1.1,a]
 ·rw[if_neg a,List.countP_eq_zero];intro j b;have h:=(nD b).2;simp only[bC,Bool.and_eq_true,Qp] at h
  simp[h.1.1,a]
structure MV (ds:List ak) (ns:List ap) (us us':Nat->Bool) (new:List Nat):Prop where
 nodup:new.Nodup
 free:∀j∈new,j<ds.length/\us j=false
 used:∀j,us' j=(us j || decide (j∈new))
 kinds:∀k,(kc ds k new:Int)=lE k ns
theorem B4(p:ds.length<=16)(on:Nat):∀(ns:List ap) (us:Nat->Bool) (c:List Nat),(du ds on ns us c).1=0->∃g,(du ds on ns us c).2.2=c++g/\MV ds ns us (du ds on ns us c).2.1 g:=by
 intro ns
 induction ns with
 | nil=>intro us c _;exact⟨[],by simp[du],⟨List.nodup_nil,λ_ h=>(List.not_mem_nil h).elim,λj=>by simp[du],λk=>by simp[kc,lE]⟩⟩
 | cons n r ih=>
  intro us c h;rw[du] at h ⊢
  by_cases hf:ed ds us n.kind n.many=0
  ·rw[if_pos hf] at h ⊢;obtain⟨g,e,t⟩:=ih _ _ h;have Ha:∀j∈cU ds us n.kind on n.many.toNat,j<16:=λj i=>by have:=(nD i).1;omega
   have l:=sM Ha (sL ds us n.kind on n.many.toNat);refine⟨bI (cU ds us n.kind on n.many.toNat)++g,by rw[e,List.append_assoc],⟨?_,?_,?_,?_⟩⟩
   ·rw[List.nodup_append];refine⟨l.nodup_iff.2 (sL ds us n.kind on n.many.toNat),t.nodup,λa q b s u=>?_⟩;subst u;have d:=(t.free a s).2;unfold eK at d;rw[Bool.or_eq_false_iff,decide_eq_false_iff_not] at d;exact d.2 (l.mem_iff.1 q)
   ·intro j i
    rcases Qi.1 i with i|i
    ·have d:=nD (l.mem_iff.1 i);refine⟨d.1,?_⟩;have f:=d.2;simp only[bC,Bool.and_eq_true,Bool.not_eq_true'] at f;exact f.2
    ·have d:=t.free j i;refine⟨d.1,?_⟩;have f:=d.2;unfold eK at f;rw[Bool.or_eq_false_iff] at f;exact f.1
   ·intro j;rw[t.used j];unfold eK;rw[Bool.or_assoc]
    congr 1
    rw[<- Bool.decide_or];apply decide_eq_decide.2;rw[Qi,l.mem_iff]
   ·intro k;unfold kc;rw[List.countP_append,l.countP_eq];have d:=MU (ds:=ds) (us:=us) (kind:=n.kind) (m:=on) (n:=n.many.toNat) k;unfold kc at d;rw[d];have f:=t.kinds k;unfold kc at f;have v:=B0 (m:=on) hf;unfold lE;rw[Qq,List.sum_cons];unfold lE at f
    by_cases o:n.kind=k
    ·rw[if_pos o,if_pos o];omega
    ·rw[if_neg o,if_neg o];omega
  ·rw[if_neg hf] at h;exact absurd h hf
theorem B5{α:Type}(l:List α):(l.map λ_=>(0:Int)).sum=0:=by induction l <;> grind
theorem MW(f:ns.Pairwise λa b=>a.kind≠b.kind)(k:ByteArray):lE k ns=(fW ns k).getD 0:=by
 by_cases h:∃n∈ns,n.kind=k
 ·obtain⟨n,c,rfl⟩:=h;unfold fW;rw[MT ns _ n c f]
  show lE n.kind ns=n.many
  induction ns with
  | nil=>cases c
  | cons x r ih=>
   obtain⟨g,j⟩:=List.pairwise_cons.1 f;unfold lE;rw[Qq,List.sum_cons]
   rcases List.mem_cons.1 c with rfl|c
   ·rw[if_pos rfl]
    have:(r.map λy=>if y.kind=n.kind then y.many else 0).sum=0:=by
     have:(r.map λy=>if y.kind=n.kind then y.many else 0)=r.map λ_=>(0:Int):=List.map_congr_left λy d=>by rw[if_neg λe=>g y d e.symm]
     rw[this];exact B5 r
    rw[this];omega
   ·rw[if_neg (g n c)]
    have:=ih j c
    unfold lE at this;rw[this];omega
 ·have i:∀n∈ns,n.kind≠k:=λn c e=>h ⟨n,c,e⟩
  unfold fW;rw[BY ns _ k i];unfold lE
  have:(ns.map λn=>if n.kind=k then n.many else 0)=ns.map λ_=>(0:Int):=List.map_congr_left λy d=>by rw[if_neg (i y d)]
  rw[this];exact B5 ns
def ei (l:List Nat):List Int:=l.map λ(k:Nat)=>(k:Int)
theorem MX(ds:List ak)(k:ByteArray)(l:List Nat):nW ds k (ei l)=kc ds k l:=by
 unfold nW kc ei;rw[List.countP_map];rfl
theorem MY{l:List Nat}{j:Nat}:(j:Int)∈ei l↔j∈l:=by grind[ei]
theorem wK{l:List Nat}(h:k<l.length):bH (ei l) k=(l[k]:Int):=by simp[bH,ei,h]
theorem MZ(h:l.Nodup)(a:k<l.length):bH l k ∉ l.take k:=by grind[bH,List.take_append_drop,List.nodup_append,List.drop_eq_getElem_cons,List.mem_cons_self]
theorem M0{l:List Nat}(h:l.Nodup):(ei l).Nodup:=by grind[ei]
theorem B6(l:List ah)(F:Nat)(L:Int)(on:Nat):(bN l F L on).2=0\/(bN l F L on).2=1\/(bN l F L on).2=8:=by grind[bN]
theorem M1{m:aL}{s:aE}(i:s.ds.length<=16)(w:∀n∈ns,n.many≠0)(u:ns.Pairwise λa b=>a.kind≠b.kind)(h:(bO m s own ns).1=0) :
  ex s (bO m s own ns).2.1 own ns=some ⟨aG s.cp (bO m s own ns).2.1.cp,s.ds,(bO m s own ns).2.2⟩:=by
 unfold bO at h ⊢;dsimp only at h ⊢
 split
 ·rename_i p;rw[if_pos p] at h;cases h
 ·rename_i p
  rw[if_neg p] at h
  split
  ·rename_i l;rw[if_pos l] at h;exfalso;have y:=B6 m.l s.cp own (az (λc=>(fj m (dJ m s own ns)).1.1.testBit c.node.toNat) m.l);dsimp only at h;omega
  ·rename_i l
   rw[if_neg l] at h
   split
   ·rename_i o;rw[if_pos o] at h;exact absurd h o
   ·rename_i o
    have ag:(du s.ds (fj m (dJ m s own ns)).1.1 ns s.us []).1=0:=by omega
    obtain⟨d,e,t⟩:=B4 i _ ns s.us [] ag;have r:=BZ (show (bN m.l s.cp own (az (λc=>(fj m (dJ m s own ns)).1.1.testBit c.node.toNat) m.l)).2=0 by omega);generalize (bN m.l s.cp own (az (λc=>(fj m (dJ m s own ns)).1.1.testBit c.node.toNat) m.l)).1=cp at *;generalize (du s.ds (fj m (dJ m s own ns)).1.1 ns s.us []).2.1=f at *;rw[e,List.nil_append];have Hc:∀j∈d,j<16:=λj v=>by have:=(t.free j v).1;omega
    have Hb:=sM Hc t.nodup;have key:ex s (⟨⟨cp,ei (bI d)⟩,own,ns⟩:eG).g own ns=some (gF s ⟨⟨cp,ei (bI d)⟩,own,ns⟩):=by
     refine (kL (x:=⟨⟨cp,ei (bI d)⟩,own,ns⟩)).2 ⟨⟨r.1,?_,λk g=>?_⟩,⟨r.2,λk g=>?_⟩,rfl⟩
     ·refine (MS w).2 λk=>?_
      rw[<- MW u,<- t.kinds k]
      show ((kc s.ds k d:Nat):Int)=((nW s.ds k (ei (bI d)):Nat):Int)
      rw[MX];unfold kc;rw[Hb.countP_eq]
     ·have Ha:k<(bI d).length:=by simpa[ei] using g
      show 0<=bH (ei (bI d)) k/\bH (ei (bI d)) k<(s.ds.length:Int)/\bH (ei (bI d)) k ∉ (ei (bI d)).take k
      refine⟨?_,?_,MZ (M0 (Hb.nodup_iff.2 t.nodup)) g⟩
      ·rw[wK Ha];omega
      ·rw[wK Ha]
       have:=(t.free _ (Hb.mem_iff.1 (List.getElem_mem Ha))).1
       omega
     ·have Ha:k<(bI d).length:=by simpa[ei] using g
      show s.us (bH (ei (bI d)) k).toNat=false
      rw[wK Ha,Int.toNat_natCast];exact (t.free _ (Hb.mem_iff.1 (List.getElem_mem Ha))).2
    have q:de s.us (ei (bI d))=f:=by
     funext j
     rw[t.used j];unfold de
     congr 1
     apply decide_eq_decide.2;rw[MY,Hb.mem_iff]
    show ex s ⟨cp,ei (bI d)⟩ own ns=some ⟨aG s.cp cp,s.ds,f⟩
    rw[<- q];exact key
def tG (cs:List aB):Prop:=∀c∈cs,(∀n∈c.ds,n.many≠0)/\c.ds.Pairwise λa b=>a.kind≠b.kind
def ke (cs:List aB) (gs:List aR) (i:Nat):eG:=⟨aD gs i,cI cs (ae cs i).am,(ae cs i).ds⟩
theorem qT(m:aL)(s:aE)(cs:List aB):∀k,(b8 m s cs k).1=0->(b8 m s cs k).2.1.length=k:=by
 intro k
 induction k with
 | zero=>intro _;rfl
 | succ k ih=>
  intro h;rw[b8] at h ⊢
  by_cases a:(b8 m s cs k).1=0
  ·rw[if_pos a] at h ⊢;unfold mJ at h ⊢
   by_cases b:(bO m (b8 m s cs k).2.2 (cI cs (ae cs k).am) (ae cs k).ds).1=0
   ·rw[if_pos b];rw[Q2,ih a];rfl
   ·rw[if_neg b] at h;exact absurd h b
  ·rw[if_neg a] at h;exact absurd h a
theorem wL{m:aL}{s:aE}(d:s.ds.length<=16)(e:tG cs):∀k,k<=cs.length->(b8 m s cs k).1=0->cQ s ((List.range k).map (ke cs (b8 m s cs k).2.1))=some (b8 m s cs k).2.2/\(b8 m s cs k).2.2.ds=s.ds:=by
 intro k
 induction k with
 | zero=>intro _ _;exact⟨rfl,rfl⟩
 | succ k ih=>
  intro p h;have j:=qT m s cs k;rw[b8] at h ⊢
  by_cases a:(b8 m s cs k).1=0
  ·rw[if_pos a] at h ⊢;obtain⟨o,i2⟩:=ih (by omega) a;have Ha:=j a;generalize (b8 m s cs k).2.1=gs at *;generalize (b8 m s cs k).2.2=c at *;unfold mJ at h ⊢
   by_cases b:(bO m c (cI cs (ae cs k).am) (ae cs k).ds).1=0
   ·rw[if_pos b];have f:ae cs k∈cs:=o8 (by omega);have Hb:=M1 (m:=m) (s:=c) (own:=cI cs (ae cs k).am) (ns:=(ae cs k).ds) (by rw[i2];exact d) (e _ f).1 (e _ f).2 b;refine⟨?_,i2⟩;generalize bO m c (cI cs (ae cs k).am) (ae cs k).ds=g at *;dsimp only;rw[List.range_succ,Qj,qS];have l:(List.range k).map (ke cs (gs++[g.2.1]))=(List.range k).map (ke cs gs):=by
     refine List.map_congr_left λi hi=>?_
     have Hc:i<gs.length:=by rw[Ha];exact List.mem_range.1 hi
     unfold ke
     congr 1
     simp[aD,List.getElem?_append_left Hc]
    rw[l,o,Option.bind_some,List.map_singleton,cQ];have n:ke cs (gs++[g.2.1]) k=⟨g.2.1,cI cs (ae cs k).am,(ae cs k).ds⟩:=by
     unfold ke
     congr 1
     simp[aD,<- Ha]
    rw[n,Hb];rfl
   ·rw[if_neg b] at h;exact absurd h b
  ·rw[if_neg a] at h;exact absurd h a
theorem B7{m:aL}{s:aE}(d:be m ds hs=some s)(a:s.ds.length<=16)(f:tG p.cs)(b:(aX m s p).1=0)(c:(hs++[(⟨p,(aX m s p).2⟩:af)]).Perm hs') :
  be m ds hs'=some (b8 m s p.cs p.cs.length).2.2:=by
 refine BW c (ML d ?_);have h:=(wL a f p.cs.length (lR) b).1;have Ha:=qT m s p.cs p.cs.length b;unfold kM
 show cQ s ((List.range (aX m s p).2.length).map (ke p.cs (aX m s p).2))=_
 have e:(aX m s p).2.length=p.cs.length:=Ha;rw[e];exact h
theorem M2{m:aL}{ds:List ak}{c:List af}{s:aE}(h:be m ds hs=some s)(b:c.Sublist hs):∃f,be m ds c=some f:=by
 obtain⟨rest,d⟩:=b.exists_perm_append;have a:=BW d h;unfold be at a ⊢
 split at a
 ·rename_i e
  rw[if_pos e];rw[po _ _ _ (lR),Qh] at a ⊢;rw[kN,List.flatMap_append,qS] at a;obtain⟨i,g,_⟩:=Option.bind_eq_some_iff.1 a;exact⟨i,g⟩
 ·cases a
theorem B8{m:aL}{ds:List ak}(h:dI ds=0):be m ds []=some ⟨m.op,ds,λ_=>false⟩:=by
 unfold be;rw[if_pos h];rfl
theorem M3{s a:aE}:∀ {l:List eG},cQ s l=some a->a.ds=s.ds:=by
 intro l
 induction l generalizing s with
 | nil=>intro h;injection h with h;rw[h]
 | cons x r ih=>
  intro h;rw[cQ] at h;obtain⟨d,b,c⟩:=Option.bind_eq_some_iff.1 h;rw[ih c,BV b]
theorem kP{m:aL}{s:aE}(h:be m ds hs=some s):s.ds=ds:=by
 unfold be at h
 split at h
 ·rw[po _ _ _ (lR),Qh] at h;exact M3 h
 ·cases h
theorem M4{a:Nat->Bool}(h:∀j,(aC ds j).kind=kind->us j=a j):ed ds us kind many=ed ds a kind many:=by grind[bU,bC,zQ,aC,ed]
theorem M5(on g:Nat):∀(ns:List ap) (us c:Nat->Bool) (f d:List Nat),ns.Pairwise (λa b=>a.kind≠b.kind)->(∀n∈ns,∀j,(aC ds j).kind=n.kind->us j=c j)->(du ds on ns us f).1=(du ds g ns c d).1:=by
 intro ns
 induction ns with
 | nil=>intro us c f d _ _;rfl
 | cons n r ih=>
  intro us c f d m h;obtain⟨q,p⟩:=List.pairwise_cons.1 m;have e:=M4 (many:=n.many) (h n (List.mem_cons_self ..));rw[du,du,<- e]
  by_cases hf:ed ds us n.kind n.many=0
  ·rw[if_pos hf,if_pos hf];refine ih _ _ _ _ p λx l j i=>?_
   have Ha:∀(u:Nat->Bool) (o:Nat),j ∉ cU ds u n.kind o n.many.toNat:=λu o s=>by
    have k:=(nD s).2;simp only[bC,Bool.and_eq_true,Qp] at k;exact q x l (k.1.1.symm.trans i)
   unfold eK;rw[h x (Qv _ l) j i,Q7 (Ha us on),Q7 (Ha c g)]
  ·rw[if_neg hf,if_neg hf]
theorem M6(l:List ah)(F:Nat)(L:Int)(on a:Nat):(bN l F L on).2=(bN l F L a).2:=by
 unfold bN
 split
 ·rfl
 ·split <;> rfl
theorem M7{m:aL}{s:aE}(i:ns.Pairwise λa b=>a.kind≠b.kind):(bO m s own ns).1=0↔(fj m (dJ m s own ns)).2=true/\(bN m.l s.cp own 0).2=0/\(du s.ds 0 ns s.us []).1=0:=by
 unfold bO;dsimp only;generalize hpl:fj m (dJ m s own ns)=d;rw[M6 m.l s.cp own 0 (az (λc=>d.1.1.testBit c.node.toNat) m.l),M5 0 d.1.1 ns s.us s.us [] [] i λ_ _ _ _=>rfl];have j:=B6 m.l s.cp own (az (λc=>d.1.1.testBit c.node.toNat) m.l)
 by_cases e:d.2=false
 ·rw[if_pos e];constructor
  ·intro h;cases h
  ·intro h;rw[e] at h;cases h.1
 ·rw[if_neg e];rw[Bool.not_eq_false] at e
  by_cases g:(bN m.l s.cp own (az (λc=>d.1.1.testBit c.node.toNat) m.l)).2≠0
  ·rw[if_pos g];constructor
   ·intro h;dsimp only at h;omega
   ·intro h;exact absurd h.2.1 g
  ·rw[if_neg g]
   by_cases f:(du s.ds d.1.1 ns s.us []).1≠0
   ·rw[if_pos f];constructor
    ·intro h;exact absurd h f
    ·intro h;exact absurd h.2.2 f
   ·rw[if_neg f];exact⟨λ_=>⟨e,by omega,by omega⟩,λ_=>rfl⟩
def ej (a b:ByteArray):Prop:=a.toList<b.toList
theorem qU(a:ByteArray):¬ ej a a:=List.lt_irrefl _
theorem qV{b c:ByteArray}(h:ej a b)(k:ej b c):ej a c:=List.lt_trans h k
theorem wM{b:ByteArray}(h:a≠b):ej a b\/ej b a:=by grind[ej,List.le_antisymm,Qs,ByteArray.ext,Array.toList_inj]
theorem wN{b:ByteArray}:ef a b=false↔ej b a:=by
 unfold ef ej;rw[Go.Proofs.bytesLess_eq,Bool.or_eq_false_iff,decide_eq_false_iff_not,Qr];constructor
 ·rintro⟨c,d⟩
  have:a≠b:=λe=>d (by rw[e])
  rcases wM this with h|h
  ·exact absurd h c
  ·exact h
 ·intro h;exact⟨λk=>List.lt_irrefl _ (List.lt_trans h k),λe=>by rw[e] at h;exact List.lt_irrefl _ h⟩
def kQ (hs:List af):Prop:=hs.Pairwise λa b=>ej a.pod.nm b.pod.nm
theorem wO(h:i+1<hs.length):qJ hs (i+1)=false↔ej (hs[i]'(by omega)).pod.nm hs[i+1].pod.nm:=by grind[qJ,wN,ag]
theorem B9:kQ hs↔∀i,i<hs.length->qJ hs i=false:=by
 constructor
 ·intro h i hi;cases i with
  | zero=>rfl
  | succ i=>exact (wO hi).2 (List.pairwise_iff_getElem.1 h i (i+1) (by omega) hi (by omega))
 ·intro h;have key:∀d i (hi:i+d+1<hs.length),ej (hs[i]'(by omega)).pod.nm hs[i+d+1].pod.nm:=by
   intro d
   induction d with
   | zero=>intro i hi;exact (wO hi).1 (h _ hi)
   | succ d ih=>
    intro i hi;exact qV (ih i (by omega)) ((wO hi).1 (h _ hi))
  refine List.pairwise_iff_getElem.2 λi j hi b a=>?_
  obtain⟨d,rfl⟩:∃d,j=i+d+1:=⟨j - i - 1,by omega⟩;exact key d i b
theorem cW:bw hs=0↔hs.length<=12/\(∀h∈hs,bu h.pod=0/\h.gs.length=h.pod.cs.length/\qH h.gs=0)/\kQ hs:=by
 unfold bw
 by_cases d:12<hs.length
 ·rw[if_pos d];exact⟨λh=>(by cases h),λh=>(by omega)⟩
 ·rw[if_neg d];have one:∀(h:af) (b:Bool),fU h b=0↔bu h.pod=0/\b=false/\h.gs.length=h.pod.cs.length/\qH h.gs=0:=by
   intro h b;unfold fU
   by_cases c:bu h.pod≠0
   ·rw[if_pos c];exact⟨λe=>absurd e c,λe=>e.1⟩
   ·rw[if_neg c]
    by_cases a:b=true\/h.gs.length≠h.pod.cs.length
    ·rw[if_pos a];refine⟨λe=>(by cases e),λe=>?_⟩
     rcases a with a|a
     ·rw[e.2.1] at a;cases a
     ·exact absurd e.2.2.1 a
    ·rw[if_neg a];have g:b=false/\h.gs.length=h.pod.cs.length:=⟨Bool.not_eq_true _ ▸ λe=>a (.inl e),Qt λe=>a (.inr e)⟩;exact⟨λe=>⟨by omega,g.1,g.2,e⟩,λe=>e.2.2.2⟩
  constructor
  ·intro h;have Ha:=fA h;refine⟨by omega,λx j=>?_,B9.2 λi hi=>((one _ _).1 (Ha i hi)).2.1⟩;obtain⟨k,f,rfl⟩:=tv j
   have:=(one _ _).1 (Ha k f)
   exact⟨this.1,this.2.2.1,this.2.2.2⟩
  ·rintro⟨_,c,a⟩;refine sO λk f=>?_
   have:=c _ (o9 f)
   exact (one _ _).2 ⟨this.1,B9.1 a k f,this.2.1,this.2.2⟩
def dD (hs:List af) (nm:ByteArray):Nat:=hs.countP λh=>decide (h.pod.nm.toList<nm.toList)
def cD (hs:List af) (x:af):List af:=hs.take (dD hs x.pod.nm)++x :: hs.drop (dD hs x.pod.nm)
theorem wP(hs:List af)(x:af):(hs++[x]).Perm (cD hs x):=by
 unfold cD;have b:(hs++[x]).Perm (x :: hs):=List.perm_append_singleton x hs;have a:(x :: hs).Perm (x :: (hs.take (dD hs x.pod.nm)++hs.drop (dD hs x.pod.nm))):=by rw[List.take_append_drop]
 exact b.trans (a.trans List.perm_middle.symm)
theorem M8(h:kQ hs)(nm:ByteArray):(∀y∈hs.take (dD hs nm),ej y.pod.nm nm)/\∀y∈hs.drop (dD hs nm),¬ ej y.pod.nm nm:=by
 induction hs with
 | nil=>exact⟨λy a=>by simp[dD] at a,λy a=>by simp[dD] at a⟩
 | cons x r ih=>
  obtain⟨d,f⟩:=List.pairwise_cons.1 h;obtain⟨g,i2⟩:=ih f
  by_cases b:x.pod.nm.toList<nm.toList
  ·have e:dD (x :: r) nm=dD r nm+1:=by unfold dD;rw[List.countP_cons_of_pos (by simpa using b)]
   rw[e,List.take_succ_cons,List.drop_succ_cons];refine⟨λy a=>?_,i2⟩
   rcases List.mem_cons.1 a with rfl|a
   ·exact b
   ·exact g y a
  ·have c:∀y∈r,¬ ej y.pod.nm nm:=λy a i=>b (qV (d y a) i)
   have e:dD (x :: r) nm=0:=by
    unfold dD;rw[List.countP_eq_zero];intro y a
    rcases List.mem_cons.1 a with rfl|a
    ·simpa using b
    ·have:=c y a;unfold ej at this;simpa using this
   rw[e];refine⟨λy a=>by simp at a,λy a=>?_⟩;rw[List.drop_zero] at a
   rcases List.mem_cons.1 a with rfl|a
   ·exact b
   ·exact c y a
theorem Cb(h:kQ hs)(m:∀y∈hs,y.pod.nm≠x.pod.nm):kQ (cD hs x):=by
 obtain⟨f,g⟩:=M8 h x.pod.nm;have Ha:=h;unfold kQ cD at *;rw[<- List.take_append_drop (dD hs x.pod.nm) hs,List.pairwise_append] at Ha;obtain⟨i,j,l⟩:=Ha;have Hb:∀y∈hs.drop (dD hs x.pod.nm),ej x.pod.nm y.pod.nm:=λy d=>by
  rcases wM (m y (List.mem_of_mem_drop d)) with k|k
  ·exact absurd k (g y d)
  ·exact k
 rw[List.pairwise_append,List.pairwise_cons];refine⟨i,⟨Hb,j⟩,λa e b c=>?_⟩
 rcases List.mem_cons.1 c with rfl|c
 ·exact f a e
 ·exact l a e b c
theorem M9{a:List Nat}:dP (ei (bI a))=0:=by grind[ei,bI,qr,dP,sO,iD,sK,zP,List.getElem_mem,List.pairwise_iff_getElem]
theorem Na{m:aL}{s:aE}:dP (bO m s own ns).2.1.dv=0:=by
 unfold bO;dsimp only
 split
 ·rfl
 ·split
  ·rfl
  ·split
   ·rfl
   ·exact M9
theorem wQ{m:aL}{s:aE}:∀k,∀g∈(b8 m s cs k).2.1,dP g.dv=0:=by
 intro k
 induction k with
 | zero=>intro g a;cases a
 | succ k ih=>
  rw[b8]
  split
  ·unfold mJ
   split
   ·intro g a
    rcases Qi.1 a with a|a
    ·exact ih g a
    ·rw[Qm.1 a];exact Na
   ·intro g a;cases a
  ·exact ih
theorem wR(h:∀g∈gs,dP g.dv=0):qH gs=0:=sO λ_ a=>h _ (wm a)
theorem Nb{ds:List ap}(h:bh (iB ds) ds.length=0):(∀n∈ds,n.many≠0)/\ds.Pairwise λa b=>a.kind≠b.kind:=by
 have q:=fA h;have c:∀k,k<ds.length->1<=(aq ds k).many/\(0<k->ef (aq ds k).kind (aq ds (k - 1)).kind=false):=λk g=>by
  have:=q k g
  unfold iB at this
  split at this
  ·cases this
  ·rename_i o
   split at this
   ·cases this
   ·rename_i s
    refine⟨by omega,λp=>?_⟩;cases e:ef (aq ds k).kind (aq ds (k - 1)).kind with
    | false=>rfl
    | true=>exact absurd (.inr ⟨p,e⟩) o
 constructor
 ·intro n r;obtain⟨k,g,rfl⟩:=Bj r
  have:=(c k g).1
  omega
 ·have e:∀i (hi:i<ds.length),aq ds i=ds[i]:=λi hi=>by simp[aq,hi]
  have key:∀d i (hi:i+d+1<ds.length),ej (ds[i]'(by omega)).kind ds[i+d+1].kind:=by
   intro d
   induction d with
   | zero=>
    intro i hi
    have:=wN.1 ((c (i+1) hi).2 (by omega))
    rw[e (i+1) hi,show i+1 - 1=i by omega,e i (by omega)] at this;exact this
   | succ d ih=>
    intro i hi
    have:=wN.1 ((c (i+(d+1)+1) hi).2 (by omega))
    rw[e _ hi,show i+(d+1)+1 - 1=i+d+1 by omega,e (i+d+1) (by omega)] at this;exact qV (ih i (by omega)) this
  refine List.pairwise_iff_getElem.2 λi j hi m l f=>?_
  obtain⟨d,rfl⟩:∃d,j=i+d+1:=⟨j - i - 1,by omega⟩
  have:=key d i m
  rw[f] at this;exact qU _ this
theorem tH(h:bu p=0):tG p.cs:=by
 intro c a;obtain⟨k,b,rfl⟩:=Bo a;unfold bu at h
 split at h
 ·cases h
 ·split at h
  ·cases h
  ·split at h
   ·cases h
   ·have:=fA h k b
    unfold dO at this
    repeat' (split at this;· cases this)
    exact Nb this
structure bl where
 m:aL
 ds:List ak
 hs:List af
structure fY (t:bl):Prop where
 devs:dI t.ds=0
 held:bw t.hs=0
 left:∃s,be t.m t.ds t.hs=some s
open Classical in
noncomputable def bi (t:bl) (p:aj):Nat × List af:=
 if bu p≠0 then (bu p,t.hs) else
 if ∃h∈t.hs,h.pod.nm=p.nm then (5,t.hs) else
 if 12<=t.hs.length then (2,t.hs) else
 if bS t.m (t.hs.map af.pod++[p])=false then (7,t.hs) else
 if (aX t.m ((be t.m t.ds t.hs).getD ⟨0,[],λ_=>false⟩) p).1≠0 then ((aX t.m ((be t.m t.ds t.hs).getD ⟨0,[],λ_=>false⟩) p).1,t.hs) else
 if 6000<(bn (cD t.hs ⟨p,(aX t.m ((be t.m t.ds t.hs).getD ⟨0,[],λ_=>false⟩) p).2⟩)).length then (2,t.hs) else
 (0,cD t.hs ⟨p,(aX t.m ((be t.m t.ds t.hs).getD ⟨0,[],λ_=>false⟩) p).2⟩)
theorem Nc{t:bl}(h:fY t)(p:aj):fY { t with hs:=(bi t p).2 }:=by
 unfold bi;obtain⟨s,hs⟩:=h.left;rw[hs,Option.getD_some]
 split
 ·exact h
 rename_i k
 split
 ·exact h
 rename_i d
 split
 ·exact h
 rename_i j
 split
 ·exact h
 split
 ·exact h
 rename_i g
 split
 ·exact h
 have b:bu p=0:=by omega
 have c:(aX t.m s p).1=0:=by omega
 have Hc:s.ds.length<=16:=by rw[kP hs];exact (mn h.devs).1
 obtain⟨i,a2,a3⟩:=cW.1 h.held;have Hb:(aX t.m s p).2.length=p.cs.length:=qT t.m s p.cs p.cs.length c;have Ha:=wP t.hs ⟨p,(aX t.m s p).2⟩;refine⟨h.devs,cW.2 ⟨?_,λx a=>?_,Cb a3 λy f e=>d ⟨y,f,e⟩⟩,⟨_,B7 hs Hc (tH b) c Ha⟩⟩
 ·show (cD t.hs ⟨p,(aX t.m s p).2⟩).length<=12
  rw[<- Ha.length_eq,Q2,List.length_singleton];omega
 ·rcases Qi.1 (Ha.mem_iff.2 a) with a|a
  ·exact a2 x a
  ·rw[Qm.1 a];exact⟨b,Hb,wR (wQ p.cs.length)⟩
theorem Nd(hf:bw [h]=0)(l:∀g∈h.gs,g.cp<18446744073709551616)(k:h.pod.cs.length=1):(bn [h]).length<=6000:=by
 have ok:lA [h]:=tw hf (λx j g f=>by rw[Qm.1 j] at f;exact l g f);have i:kF h:=ok.2 h (Qm.2 rfl);have a:=wu i.1;have b:=wv i 1 (by omega);have c:=qL (dj [h]);have e:dj [h]=[]++(j8 h.pod++fD h h.pod.cs.length):=rfl;have m:(dj [h]).length=(j8 h.pod).length+(fD h 1).length:=by rw[e,k];simp
 have d:bn [h]=dj [h]++dB (dj [h]):=rfl;rw[d,Q2];omega
theorem Cc{a:Nat}(h:a &&& b=a)(c:b<18446744073709551616):a<18446744073709551616:=by
 rw[<- h];exact Nat.lt_of_le_of_lt Nat.and_le_right c
def i6 (l:List eG):Int:=(l.map eG.own).sum
theorem Cd:∀ {l:List eG} {s a:aE},cQ s l=some a->(aA a.cp:Int)+i6 l=aA s.cp/\(a.cp &&& s.cp=a.cp):=by
 intro l
 induction l with
 | nil=>intro s a h;injection h with h;subst h;exact⟨by simp[i6],Nat.and_self _⟩
 | cons x r ih=>
  intro s a h;rw[cQ] at h;obtain⟨j,d,f⟩:=Option.bind_eq_some_iff.1 h;obtain⟨b,a2⟩:=ih f;obtain⟨b1,b2,rfl⟩:=kL.1 d;have ag:=vR b2.1;have g:=b1.1;have c:(gF s x).cp=aG s.cp x.g.cp:=rfl;rw[c] at b a2;refine⟨?_,?_⟩
  ·unfold i6 at b ⊢;rw[Qq,List.sum_cons];omega
  ·apply Nat.eq_of_testBit_eq;intro i;have e:=congrArg (λn=>Nat.testBit n i) a2;simp only[Nat.testBit_and,iz] at e ⊢;cases h1:a.cp.testBit i <;> cases h2:s.cp.testBit i <;> simp_all
theorem Ce(a b:List eG):i6 (a++b)=i6 a+i6 b:=by unfold i6;rw[Qj,List.sum_append]
theorem wS{am:Int}(h:0<=am):0<=cI cs am/\1000*cI cs am<=am:=by
 unfold cI
 split <;> omega
def jx (cs:List aB):Nat->Int
 | 0=>0
 | k+1=>jx cs k+cI cs (ae cs k).am
theorem Cf(h:∀c∈cs,0<=c.am):∀k,k<=cs.length->0<=jx cs k/\1000*jx cs k<=dh cs k:=by
 intro k
 induction k with
 | zero=>intro _;exact⟨Int.le_refl _,Int.le_refl _⟩
 | succ k ih=>
  intro b;have a:=ih (by omega);have d:=wS (cs:=cs) (h _ (o8 (show k<cs.length by omega)));have e:dh cs (k+1)=dh cs k+(ae cs k).am:=rfl;rw[jx,e];omega
theorem Nf(h:∀c∈cs,0<=c.am)(d:k<=n)(a:n<=cs.length):jx cs k<=jx cs n:=by
 induction n with
 | zero=>
  obtain rfl:k=0:=by omega
  exact Int.le_refl _
 | succ n ih=>
  by_cases e:k=n+1
  ·rw[e];exact Int.le_refl _
  ·have b:=ih (by omega) (by omega);have f:=wS (cs:=cs) (h _ (o8 (show n<cs.length by omega)));rw[jx];omega
theorem Cg(cs:List aB)(gs:List aR):∀k,i6 ((List.range k).map (ke cs gs))=jx cs k:=by
 intro k
 induction k with
 | zero=>rfl
 | succ k ih=>
  rw[List.range_succ,Qj,Ce,ih,jx]
  simp[i6,ke]
theorem Ng(a:h.gs.length=h.pod.cs.length):i6 (kM h)=jx h.pod.cs h.pod.cs.length:=by
 unfold kM;rw[a];exact Cg h.pod.cs h.gs h.pod.cs.length
theorem tI(h:bu p=0):∀c∈p.cs,0<=c.am:=λc a=>(((jv h).2.2.2) c a).2.1.1
theorem Nh(h:∀x∈hs,bu x.pod=0/\x.gs.length=x.pod.cs.length):0<=i6 (kN hs)/\1000*i6 (kN hs)<=cP (hs.map af.pod):=by
 induction hs with
 | nil=>exact⟨Int.le_refl _,Int.le_refl _⟩
 | cons x r ih=>
  have e:=ih λy b=>h y (Qv _ b)
  have a:=h x (List.mem_cons_self ..);have f:=Cf (tI a.1) x.pod.cs.length (lR);have d:kN (x :: r)=kM x++kN r:=rfl;rw[d,Ce,Ng a.2];have c:cP ((x :: r).map af.pod)=dh x.pod.cs x.pod.cs.length+cP (r.map af.pod):=by unfold cP;simp
  rw[c];omega
theorem Ni(a b:List aj):cP (a++b)=cP a+cP b:=by unfold cP;rw[Qj,List.sum_append]
theorem Nj{m:aL}{s:aE}(h:be m ds hs=some s):(aA s.cp:Int)+i6 (kN hs)=aA m.op/\s.cp &&& m.op=s.cp:=by
 unfold be at h
 split at h
 ·rw[po _ _ _ (lR),Qh] at h;exact Cd h
 ·cases h
theorem Nk{l:List ah}(b:0<=L)(d:aA F<=64)(c:L<=aA F)(a:F &&& az (λ_=>true) l=F):(bN l F L on).2=0:=by
 rw[AG on b (by omega) a c]
theorem Nl{m:aL}{s:aE}(a:m.pol=0)(e:m.op &&& az (λ_=>true) m.l=m.op)(h:∀A:Nat,aA A<=64)(l:be m ds hs=some s)(g:ds.length<=16)(v:∀x∈hs,bu x.pod=0/\x.gs.length=x.pod.cs.length)(b:bu p=0)
  (f:∀c∈p.cs,c.ds=[]) (i:bS m (hs.map af.pod++[p])=true):(aX m s p).1=0:=by
 obtain⟨c1,c2⟩:=Nj l;obtain⟨z,w⟩:=Nh v;have Hc:cP (hs.map af.pod++[p])<=1000*(aA m.op:Int):=by
  unfold bS at i;rw[Bool.and_eq_true,Qp] at i;exact i.1
 rw[Ni] at Hc;have t:cP [p]=dh p.cs p.cs.length:=by unfold cP;simp
 rw[t] at Hc;have Hk:=Cf (tI b) p.cs.length (lR);have Hh:jx p.cs p.cs.length<=aA s.cp:=by omega
 have Hg:s.ds.length<=16:=by rw[kP l];exact g
 have Hf:s.cp &&& az (λ_=>true) m.l=s.cp:=by
  rw[<- c2,Nat.and_assoc,e]
 have key:∀k,k<=p.cs.length->(b8 m s p.cs k).1=0:=by
  intro k
  induction k with
  | zero=>intro _;rfl
  | succ k ih=>
   intro r;have j:=ih (by omega);obtain⟨g1,y⟩:=wL (m:=m) Hg (tH b) k (by omega) j;obtain⟨q,u⟩:=Cd g1;rw[Cg] at q;rw[b8,if_pos j];generalize (b8 m s p.cs k).2.1=gs at *;generalize (b8 m s p.cs k).2.2=d at *;have o:ae p.cs k∈p.cs:=o8 (by omega);have Hj:=f _ o;have Hb:=Nf (tI b) (k:=k+1) (n:=p.cs.length) r (lR);have He:=wS (cs:=p.cs) (tI b _ o);rw[jx] at Hb;have Ha:d.cp &&& az (λ_=>true) m.l=d.cp:=by rw[<- u,Nat.and_assoc,Hf]
   have Hi:(bO m d (cI p.cs (ae p.cs k).am) (ae p.cs k).ds).1=0:=by
    rw[Hj,M7 List.Pairwise.nil];refine⟨?_,Nk He.1 (h _) (by omega) Ha,rfl⟩;unfold fj;rw[if_pos a]
   unfold mJ;rw[if_pos Hi]
 exact key p.cs.length (lR)
def ii (hs:List af) (nm:ByteArray):List af:=hs.filter λh=>decide (h.pod.nm≠nm)
theorem Nn(b:∀y∈hs,y.pod.nm≠x.pod.nm):ii (cD hs x) x.pod.nm=hs:=by
 unfold ii cD;rw[List.filter_append,List.filter_cons_of_neg (by simp)];have c:(hs.take (dD hs x.pod.nm)).filter (λh=>decide (h.pod.nm≠x.pod.nm))=hs.take (dD hs x.pod.nm):=List.filter_eq_self.2 λy a=>by simpa using b y (List.mem_of_mem_take a)
 have d:(hs.drop (dD hs x.pod.nm)).filter (λh=>decide (h.pod.nm≠x.pod.nm))=hs.drop (dD hs x.pod.nm):=List.filter_eq_self.2 λy a=>by simpa using b y (List.mem_of_mem_drop a)
 rw[c,d,List.take_append_drop]
theorem wT(hs:List af)(nm:ByteArray):(ii hs nm).Sublist hs:=List.filter_sublist
theorem wU(h:bw hs=0)(d:hs'.Sublist hs):bw hs'=0:=by
 obtain⟨a,b,c⟩:=cW.1 h;exact cW.2 ⟨Q5 d.length_le a,λx e=>b x (d.subset e),List.Pairwise.sublist d c⟩
theorem Ch{t:bl}(h:(bi t p).1=0):ii (bi t p).2 p.nm=t.hs:=by
 unfold bi at h ⊢
 split
 ·rename_i a;rw[if_pos a] at h;exact absurd h a
 ·rename_i a
  rw[if_neg a] at h
  split
  ·rename_i b;rw[if_pos b] at h;cases h
  ·rename_i b
   rw[if_neg b] at h
   split
   ·rename_i f;rw[if_pos f] at h;cases h
   ·rename_i f
    rw[if_neg f] at h
    split
    ·rename_i d;rw[if_pos d] at h;cases h
    ·rename_i d
     rw[if_neg d] at h
     split
     ·rename_i c;rw[if_pos c] at h;exact absurd h c
     ·rename_i c
      rw[if_neg c] at h
      split
      ·rename_i i;rw[if_pos i] at h;cases h
      ·exact Nn (x:=⟨p,_⟩) λy g e=>b ⟨y,g,e⟩
section
variable{α β:Type}(nm:α->β)
theorem Ci{l:List α}(h:(l.map nm).Nodup){a b:α}(f:a∈l)(g:b∈l)(e:nm a=nm b):a=b:=by
 obtain⟨i,hi,rfl⟩:=List.getElem_of_mem f;obtain⟨j,d,rfl⟩:=List.getElem_of_mem g;have c:=h;unfold List.Nodup at c;rw[List.pairwise_map,List.pairwise_iff_getElem] at c
 have:i=j:=by
  rcases Nat.lt_trichotomy i j with k|k|k
  ·exact absurd e (c i j hi d k)
  ·exact k
  ·exact absurd e.symm (c j i d hi k)
 subst this;rfl
theorem Cj{l:List α}(h:(l.map nm).Nodup):l.Nodup:=by
 unfold List.Nodup at *;rw[List.pairwise_map] at h;exact h.imp λa e=>a (by rw[e])
theorem No{runs wanted:List α}{k:Nat}(d:k<runs.length)(ag:(runs.map nm).Nodup)(f:runs[k] ∉ wanted)(a:α):(a∈runs/\(a∈wanted\/a∈runs.drop (k+1)))↔(a∈runs/\(a∈wanted\/a∈runs.drop k))/\nm a≠nm runs[k]:=by
 have e:runs.drop k=runs[k] :: runs.drop (k+1):=List.drop_eq_getElem_cons d;have Ha:runs.Nodup:=Cj nm ag;constructor
 ·rintro⟨c,b⟩;refine⟨⟨c,b.imp id λh=>by rw[e];exact Qv _ h⟩,λi=>?_⟩;have g:=Ci nm ag c (List.getElem_mem d) i;subst g
  rcases b with b|b
  ·exact f b
  ·have:=(Ha.sublist (List.drop_sublist k runs))
   rw[e] at this;exact (List.nodup_cons.1 this).1 b
 ·rintro⟨⟨c,b⟩,j⟩;refine⟨c,b.imp id λh=>?_⟩;rw[e] at h
  rcases List.mem_cons.1 h with rfl|h
  ·exact absurd rfl j
  ·exact h
theorem Np{runs wanted:List α}{k:Nat}(f:k<runs.length)(d:runs[k]∈wanted)(a:α):(a∈runs/\(a∈wanted\/a∈runs.drop (k+1)))↔(a∈runs/\(a∈wanted\/a∈runs.drop k)):=by
 have e:runs.drop k=runs[k] :: runs.drop (k+1):=List.drop_eq_getElem_cons f;rw[e];constructor
 ·rintro⟨c,b⟩;exact⟨c,b.imp id λh=>Qv _ h⟩
 ·rintro⟨c,b⟩;refine⟨c,?_⟩
  rcases b with b|b
  ·exact .inl b
  ·rcases List.mem_cons.1 b with rfl|b
   ·exact .inl d
   ·exact .inr b
theorem Nq{runs wanted:List α}(a:α):(a∈runs/\(a∈wanted\/a∈runs.drop runs.length))↔(a∈wanted/\(a∈runs\/a∈wanted.take 0)):=by
 simp[and_comm]
theorem Ck{runs wanted:List α}{k:Nat}(d:k<wanted.length)(a:α):(a∈wanted/\(a∈runs\/a∈wanted.take (k+1)))↔(a∈wanted/\(a∈runs\/a∈wanted.take k))\/a=wanted[k]:=by
 rw[Qa d,Qi,Qm];constructor
 ·rintro⟨c,b|b|b⟩
  ·exact .inl ⟨c,.inl b⟩
  ·exact .inl ⟨c,.inr b⟩
  ·exact .inr b
 ·rintro (⟨c,b⟩|rfl)
  ·exact⟨c,b.imp id .inl⟩
  ·exact⟨List.getElem_mem d,.inr (.inr rfl)⟩
theorem Nr{runs wanted:List α}{k:Nat}(c:k<wanted.length)(b:wanted[k]∈runs)(a:α):(a∈wanted/\(a∈runs\/a∈wanted.take (k+1)))↔(a∈wanted/\(a∈runs\/a∈wanted.take k)):=by grind[Ck]
theorem Ns{runs wanted:List α}{k:Nat}(c:k<wanted.length)(ag:(wanted.map nm).Nodup)(d:wanted[k] ∉ runs)(a:α)(h:a∈wanted/\(a∈runs\/a∈wanted.take k)):nm a≠nm wanted[k]:=by
 intro f;have e:=Ci nm ag h.1 (List.getElem_mem c) f;subst e
 rcases h.2 with b|b
 ·exact d b
 ·have Ha:wanted.Nodup:=Cj nm ag
  have:=(Ha.sublist (List.take_sublist (k+1) wanted))
  rw[Qa c,List.nodup_append] at this;exact this.2.2 _ b _ (Qm.2 rfl) rfl
theorem Nt{runs wanted:List α}(a:α):(a∈wanted/\(a∈runs\/a∈wanted.take wanted.length))↔a∈wanted:=by
 rw[Qh];exact⟨λh=>h.1,λh=>⟨h,.inr h⟩⟩
end
theorem wV(h:dP xs=0):xs.length<=16:=by
 unfold dP at h
 split at h
 ·cases h
 ·omega
theorem Nu(h:bu p=0)(a:j<p.cs.length)(d:i<j):(ae p.cs i).nm≠(ae p.cs j).nm:=by
 obtain⟨_,_,_,b⟩:=qD h
 have:=fA b j a
 unfold dO at this
 split at this
 ·cases this
 ·split at this
  ·cases this
  ·rename_i c
   intro e;refine c ?_;unfold mA;rw[List.any_eq_true];refine⟨ae p.cs i,?_,Qc e⟩;have hi:i<p.cs.length:=by omega
   rw[List.mem_take_iff_getElem];exact⟨i,by omega,by simp[ae,hi]⟩
def fm (l:List ah):Nat->Nat
 | 0=>0
 | k+1=>fm l k ||| 2 ^ (l.getD k av).node.toNat
def fF (a:Nat) (ds:List ak):Nat->Nat
 | 0=>a
 | k+1=>fF a ds k ||| 2 ^ (aC ds k).node.toNat
structure dE where
 l:List ah
 keep:Nat
 nb:Int
 pol:Int
 ds:List ak
def cX (c:dE):Int:=
 if dU c.l≠0 then dU c.l
 else if ¬ (c.keep &&& az (λ_=>true) c.l=c.keep)\/¬ (0<=c.nb/\c.nb<=1125899906842624)\/¬ (0<=c.pol/\c.pol<=3) then 1
 else (dI c.ds:Nat)
def cB (c:dE):aL:=⟨c.l,aG (az (λ_=>true) c.l) c.keep,fF (fm c.l c.l.length) c.ds c.ds.length,c.nb,c.pol⟩
theorem Cl{x:Int}(a:0<=x)(b:x<=3):2 ^ x.toNat<16/\1<=2 ^ x.toNat:=by
 have:x.toNat=0\/x.toNat=1\/x.toNat=2\/x.toNat=3:=by omega
 rcases this with h|h|h|h <;> rw[h] <;> decide
theorem Cm{a:Nat}(c:a<16)(d:b<16):a ||| b<16:=Nat.or_lt_two_pow (n:=4) c d
theorem Cn{l:List ah}(h:∀k,k<l.length->0<=(l.getD k av).node/\(l.getD k av).node<=3):∀k,k<=l.length->fm l k<16/\(0<k->1<=fm l k):=by
 intro k
 induction k with
 | zero=>intro _;exact⟨Nat.zero_lt_succ 15,λh=>by omega⟩
 | succ k ih=>
  intro c;have b:=ih (by omega);have a:=Cl (h k (by omega)).1 (h k (by omega)).2;rw[fm];exact⟨Cm b.1 a.1,λ_=>Q5 a.2 Nat.right_le_or⟩
theorem Nv{a:Nat}(d:a<16)(b:1<=a)(h:∀k,k<ds.length->0<=(aC ds k).node/\(aC ds k).node<=3):∀k,k<=ds.length->fF a ds k<16/\1<=fF a ds k:=by
 intro k
 induction k with
 | zero=>intro _;exact⟨d,b⟩
 | succ k ih=>
  intro e;have b:=ih (by omega);have c:=Cl (h k (by omega)).1 (h k (by omega)).2;rw[fF];exact⟨Cm b.1 c.1,Q5 b.2 Nat.left_le_or⟩
theorem Nw(hs:List af):∀k,k<=hs.length->ie hs k=((hs.take k).map iY).flatten:=by
 intro k
 induction k with
 | zero=>intro _;simp[ie]
 | succ k ih=>
  intro a;rw[ie,ih (by omega),Qa (by omega),Qj,List.flatten_append]
  simp[ag,show k<hs.length by omega]
theorem Nx(hs:List af):dj hs=(hs.map iY).flatten:=by
 unfold dj;rw[Nw _ _ (lR),Qh]
theorem Co(c:UInt8)(x:List UInt8):∀(a:List (List UInt8)),x.length+a.length<=(Lib.join (x :: a) [c]).length:=by
 have key:∀(r:List (List UInt8)),x.length+r.length<=(Lib.join (x :: r.reverse) [c]).length:=by
  intro r
  induction r with
  | nil=>have:=uR [] x [c];simp at this;simp[this]
  | cons y r ih=>
   rw[List.reverse_cons,<- List.cons_append,uR,if_neg (by simp)];simp only[Q2,Qg,List.length_nil];omega
 intro a
 have:=key a.reverse
 rw[List.reverse_reverse,List.length_reverse] at this;exact this
theorem Ny(c:aB)(g:aR):13<=(lz c g).length:=by
 unfold lz j7
 have:=Co 32 [99,111,110,116] ([c.nm.data.toList,aM c.am,aM c.ab,aM c.cm,aM c.cb,jZ c.ds]++ev g)
 rw[<- List.cons_append] at this;simp only[Q2,Qg,List.length_nil,ev] at this ⊢;unfold eF;simp only[List.cons_append,List.nil_append] at this ⊢;omega
theorem Nz(p:aj):6<=(j8 p).length:=by grind[j8,j7,Co,aM,gC,Q2,Qg,List.length_nil]
theorem NA(e:1<=h.pod.cs.length):19<=(iY h).length:=by
 have c:=Nz h.pod;unfold iY;have d:13<=(fD h h.pod.cs.length).length:=by
  have b:∀k,1<=k->13<=(fD h k).length:=by
   intro k a
   match k,a with
   | k+1,_=>
    rw[fD,Q2]
    have:=Ny (ae h.pod.cs k) (aD h.gs k)
    omega
  exact b _ e
 rw[Q2];omega
theorem NB(h:hs'.Sublist hs)(a:∀x∈hs,1<=x.pod.cs.length):(dj hs').length+19*(hs.length - hs'.length)<=(dj hs).length:=by induction h <;> grind[Nx,NA]
theorem NC(b:List UInt8):6<=(dB b).length:=by
 have:1<=(Lib.decDigits (eU b)).length:=by rw[Lib.decDigits_length];exact Lib.nDigits_pos _
 simp only[dB,Q2,Qg,List.length_nil];omega
theorem ND(h:hs'.Sublist hs)(b:∀x∈hs,1<=x.pod.cs.length)(a:(bn hs).length<=6000):(bn hs').length<=6000:=by
 by_cases e:hs'.length=hs.length
 ·rw[h.eq_of_length e];exact a
 ·have d:=NB h b;have f:=h.length_le;have g:=NC (dj hs);have c:=qL (dj hs');unfold bn at a ⊢;rw[Q2] at a ⊢;omega
theorem NE(h:bw hs=0):∀x∈hs,1<=x.pod.cs.length:=by
 obtain⟨a,b,c⟩:=cW.1 h;intro x d;exact (qD (b x d).1).2.2.1.1
section
open Go.ChangeShapes Go.WideShapes Go.ChangeAt Go.RowKit
def nX (c:dE) (v1 v2:Value):Value:=.agg #[v1,.int .u64 (c.keep:Nat),(c.nb:Int),v2,(c.pol:Int)]
theorem NF:prog.cellsOf 27=5:=by kernel_rfl
theorem NG:prog.cellsOf 22=1:=by kernel_rfl
theorem NH:prog.cellsOf 25=1:=by kernel_rfl
theorem NI:prog.cellsOf 24=1:=by kernel_rfl
theorem NJ:prog.cellsOf 77=3:=by kernel_rfl
theorem NK{H:Type}{enc:TypeId × Value->H}{base:Nat}{v:Value}{d:DataW H}{p:List MemPlace}
  (J:Value.okWide prog W .any base 27 v) (h:DataW.Trod enc prog W 0 (λ_=>true) true 27 v d p):∃(c:dE) (y v2:Value) (g o:Nat),v=nX c y v2/\gU W y c.l/\et W v2 g o c.ds/\c.keep<18446744073709551616:=by
 obtain⟨cs,rfl,Hc,_⟩:∃cs,v=.agg cs/\cs.size=prog.cellsOf 27/\Row.okWide prog W .any base 27 cs:=by
  simpa[Value.okWide,underlying27] using J
 rw[NF] at Hc;obtain⟨l⟩:=cs;obtain⟨j,hf⟩:=h;have hf:DataW.trod enc prog W 0 (λ_=>true) true j 27 l=some (d,p):=hf;obtain⟨w,s,G⟩:=cO underlying27 hf 0 22 0 _ NG rfl;obtain⟨V,X,F⟩:=cO underlying27 hf 1 24 1 _ NI rfl;obtain⟨n2,Q,M⟩:=cO underlying27 hf 2 3 2 _ jq rfl;obtain⟨P,R,E⟩:=cO underlying27 hf 3 25 3 _ NH rfl;obtain⟨S,O,K⟩:=cO underlying27 hf 4 3 4 _ jq rfl;clear hf;have r:l.length=5:=by simpa using Hc
 match l,r with
 | [a,b,c,e,f],_=>
  obtain⟨k,x,_,Hg⟩:=DataW.trod_int underlying24 F;obtain⟨N,A⟩:=jU M;obtain⟨L,B⟩:=jU K;have C:=mo underlying25 NJ (by decide) E λ_ _ _ r h=>Js r h
  simp at x A B
  obtain⟨ds,g,o,Hi,_⟩:=Jt C;have Hb:DataW.trod enc prog W 0 (λ_=>true) true w 22 [a]=some s:=G;obtain⟨t,len,i,I⟩:∃t len i,a=.slice t len i:=by
   rcases Deep.open_slice underlying22 Hb with⟨Ha,_⟩|⟨q,u,z,m,n,D,T,Ha,_⟩
   ·simp at Ha;exact⟨_,_,_,Ha⟩
   ·simp at Ha;exact⟨_,_,_,Ha⟩
  subst I;obtain⟨cl,Hf,Hh⟩:=G0 (d:=s.1) (p:=s.2) ⟨w,Hb⟩;subst Hf;have U:0<=k/\k<=18446744073709551615:=bounds_u64 Hg;refine⟨⟨cl,k.toNat,N,L,ds⟩,_,_,g,o,?_,Hh,Hi,by show k.toNat<_;omega⟩;have He:((k.toNat:Nat):Int)=k:=by omega
  unfold nX;rw[x,A,B]
  show _=Value.agg #[_,.int .u64 ((k.toNat:Nat):Int),_,_,_]
  rw[He]
end
