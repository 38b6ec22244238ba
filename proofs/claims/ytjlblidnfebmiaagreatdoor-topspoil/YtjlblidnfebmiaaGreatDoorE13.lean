import Derived.Test.YtjlblidnfebmiaaGreatDoorE10
import Derived.Test.YtjlblidnfebmiaaGreatDoorE6
import Derived.Test.YtjlblidnfebmiaaGreatDoorE12
import Derived.Shelf.Spec.SlicesInsertGrow
import Derived.Sort.Walk0
set_option maxRecDepth 100000
set_option maxHeartbeats 16000000
open Go Go.RowKit Go.Shelf
attribute [local go_sem] Oper.semAt_some
open Go.Proofs.Tryz
namespace Go.Proofs.YtjlblidnfebmiaaGreatDoor
variable {F b i j k n on:Nat} {L many own:Int} {M:Nat->Prop} {W W':World} {a kind:ByteArray} {cs:List aA} {ds:List ah} {gs:List aP} {h x:ad} {hs hs':List ad} {l xs:List Int} {m:ByteArray->Option Int} {ns:List ai} {p:az} {us:Nat->Bool} {v:Value}
structure aF where
 l:List ag
 op:Nat
 nd:Nat
 nb:Int
 pol:Int
structure aB where
 cp:Nat
 ds:List ah
 us:Nat->Bool
def nH (A:Nat) (l:List ag) (x:Nat):Nat:=((List.range l.length).filter λk=>A.testBit k && decide ((l.getD k ar).node=(x:Int))).length
def cr (A:Nat) (l:List ag):bX:=⟨nH A l 0,nH A l 1,nH A l 2,nH A l 3⟩
def ln (p:Nat->Bool) (ds:List ah):bX:=⟨bd p ds 0 ds.length,bd p ds 1 ds.length,bd p ds 2 ds.length,bd p ds 3 ds.length⟩
def dj (free all:bX) (nd:Nat) (many:Int):cG:=if many<=0 then ⟨true,[]⟩ else ⟨false,lV free all nd many⟩
def dz (m:aF) (s:aB) (own:Int) (ns:List ai):List cG:=
 dj (cr s.cp m.l) (cr m.op m.l) m.nd own :: ns.map λn=>dj (ln (bz s.ds s.us n.kind) s.ds) (ln (cJ s.ds n.kind) s.ds) m.nd n.many
def eY (m:aF) (ws:List cG):aH × Bool:=if m.pol=0 then ((m.nd,true),true) else (l7 m.pol m.nd ws,(l7 m.pol m.nd ws).2 || decide (m.pol=1))
def dh (ds:List ah) (on:Nat):List ai->(Nat->Bool)->List Nat->Nat × (Nat->Bool) × List Nat
 | [],us,out=>(0,us,out)
 | n :: r,us,out=>if dV ds us n.kind n.many=0 then dh ds on r (eB us (cR ds us n.kind on n.many.toNat)) (out++bE (cR ds us n.kind on n.many.toNat)) else (dV ds us n.kind n.many,us,out)
def bJ (m:aF) (s:aB) (own:Int) (ns:List ai):Nat × aP × (Nat->Bool):=
 let p:=eY m (dz m s own ns)
 if p.2=false then (10,⟨0,[]⟩,s.us) else
 let t:=bH m.l s.cp own (au (λc=>p.1.1.testBit c.node.toNat) m.l)
 if t.2≠0 then (t.2.toNat,⟨0,[]⟩,s.us) else
 let d:=dh s.ds p.1.1 ns s.us []
 if d.1≠0 then (d.1,⟨0,[]⟩,d.2.1) else (0,⟨t.1,(bE d.2.2).map λ(k:Nat)=>(k:Int)⟩,d.2.1)
def my (m:aF) (cs:List aA) (k:Nat) (gs:List aP) (s:aB):Nat × List aP × aB:=
 if (bJ m s (bL cs (ae cs k).am) (ae cs k).ds).1=0 then (0,gs++[(bJ m s (bL cs (ae cs k).am) (ae cs k).ds).2.1],⟨aD s.cp (bJ m s (bL cs (ae cs k).am) (ae cs k).ds).2.1.cp,s.ds,(bJ m s (bL cs (ae cs k).am) (ae cs k).ds).2.2⟩)
 else ((bJ m s (bL cs (ae cs k).am) (ae cs k).ds).1,[],⟨s.cp,s.ds,(bJ m s (bL cs (ae cs k).am) (ae cs k).ds).2.2⟩)
def bZ (m:aF) (s:aB) (cs:List aA):Nat->Nat × List aP × aB
 | 0=>(0,[],s)
 | k+1=>
  if (bZ m s cs k).1=0 then my m cs k (bZ m s cs k).2.1 (bZ m s cs k).2.2 else bZ m s cs k
def aV (m:aF) (s:aB) (p:az):Nat × List aP:=((bZ m s p.cs p.cs.length).1,(bZ m s p.cs p.cs.length).2.1)
def dR (m:ByteArray->Option Int) (k:ByteArray) (v:Option Int):ByteArray->Option Int:=λx=>if x=k then v else m x
def eZ (ns:List ai):ByteArray->Option Int:=ns.foldl (λm n=>dR m n.kind (some n.many)) λ_=>none
def e8 (ds:List ah) (m:ByteArray->Option Int) (j:Int):ByteArray->Option Int:=
 let k:=(aC ds j.toNat).kind
 let v:=(m k).getD 0 - 1
 dR m k (if v=0 then none else some v)
def kt (ds:List ah) (l:List Int) (ns:List ai):Prop:=∀ k,l.foldl (e8 ds) (eZ ns) k=none
open Classical in
noncomputable def ev (s:aB) (g:aP) (own:Int) (ns:List ai):Option aB:=
 if g.cp &&& s.cp=g.cp/\(ap g.cp:Int)=own/\bh (et s.ds.length s.us g.dv) g.dv.length=0 then
  if kt s.ds g.dv ns then some ⟨aD s.cp g.cp,s.ds,ci s.us g.dv⟩ else none
 else none
noncomputable def fw (s:aB) (h:ad):Nat->Option aB
 | 0=>some s
 | k+1=>(fw s h k).bind λs'=>ev s' (aq h.gs k) (bL h.pod.cs (ae h.pod.cs k).am) (ae h.pod.cs k).ds
noncomputable def eI (s:aB) (hs:List ad):Nat->Option aB
 | 0=>some s
 | k+1=>(eI s hs k).bind λs'=>fw s' (af hs k) (af hs k).gs.length
noncomputable def aW (m:aF) (ds:List ah) (hs:List ad):Option aB:=if dQ ds=0 then eI ⟨m.op,ds,λ_=>false⟩ hs hs.length else none
def bM (ps:List az):Int:=(ps.map λp=>dY p.cs p.cs.length).sum
def cI (ps:List az):Int:=(ps.map λp=>fK p.cs p.cs.length).sum
def cH (m:aF) (ps:List az):Bool:=decide (bM ps<=1000*(ap m.op:Int)) && decide (cI ps<=m.nb)
structure aM (W W':World):Prop where
 size:W<=W'.heap.size
 cell:∀ (b o:Nat) (v:Value),W.cell? ⟨b,o,none⟩=some v->W'.cell? ⟨b,o,none⟩=some v
theorem aM.refl (W:World):aM W W:=⟨lR,λ_ _ _ h=>h⟩
theorem aM.trans {A B C:World} (h:aM A B) (k:aM B C):aM A C:=⟨Q5 h.size k.size,λb o v e=>k.cell b o v (h.cell b o v e)⟩
theorem aM.of_below (h:Below W W W'):aM W W':=
 ⟨h.size,λb o _ e=>(h.cell (p:=⟨b,o,none⟩) (Q3 W ⟨b,o,none⟩ e)).trans e⟩
theorem bA.le (h:bA W v xs) (l:aM W W'):bA W' v xs:=by
 obtain ⟨j,c,f,i,n⟩:=h;refine ⟨j,c,f,i,λe=>?_⟩;obtain ⟨b,o,m,a,d⟩:=n e;exact ⟨b,o,m,Q1 a l.size,λk g=>l.cell _ _ _ (d k g)⟩
theorem bO.le {ds:List ai} (h:bO W v ds) (l:aM W W'):bO W' v ds:=by
 obtain ⟨j,c,g,i,n⟩:=h;refine ⟨j,c,g,i,λf=>?_⟩;obtain ⟨b,o,m,d,a⟩:=n f;exact ⟨b,o,m,Q1 d l.size,λk e=>⟨l.cell _ _ _ (a k e).1,l.cell _ _ _ (a k e).2⟩⟩
theorem aZ.le (h:aZ W v cs) (l:aM W W'):aZ W' v cs:=by
 obtain ⟨i,c,n,g,p⟩:=h;refine ⟨i,c,n,g,λf=>?_⟩;obtain ⟨b,o,dv,m,Hb,Ha⟩:=p f;refine ⟨b,o,dv,m,Q1 Hb l.size,λk d=>⟨λj a=>?_,(Ha k d).2.le l⟩⟩;have e:j<(dF (ae cs k) (dv k)).length:=a;rw [Qf e];exact l.cell _ _ _ (((Ha k d).1 j a).trans (Qf e))
theorem cq.le (h:cq W v gs) (l:aM W W'):cq W' v gs:=by
 obtain ⟨g,c,e,f,j⟩:=h;refine ⟨g,c,e,f,λd=>?_⟩;obtain ⟨b,o,dv,i,Hb,Ha⟩:=j d;exact ⟨b,o,dv,i,Q1 Hb l.size,λk a=>⟨⟨l.cell _ _ _ (Ha k a).1.1,l.cell _ _ _ (Ha k a).1.2.1,(Ha k a).1.2.2⟩,(Ha k a).2.le l⟩⟩
theorem aX.le (h:aX W v hs) (l:aM W W'):aX W' v hs:=by
 obtain ⟨i,c,f,g,m⟩:=h;refine ⟨i,c,f,g,λe=>?_⟩;obtain ⟨b,o,cv,d,j,Hb,Ha⟩:=m e;exact ⟨b,o,cv,d,j,Q1 Hb l.size,λk a=>⟨⟨l.cell _ _ _ (Ha k a).1.1,l.cell _ _ _ (Ha k a).1.2.1,l.cell _ _ _ (Ha k a).1.2.2.1,l.cell _ _ _ (Ha k a).1.2.2.2⟩,(Ha k a).2.1.le l,(Ha k a).2.2.le l⟩⟩
open Classical in
noncomputable def av (M:Nat->Prop) (W:World):World:={ W with heap:=W.heap.mapIdx λj o=>if M j then .cells #[] 0 (0,0) else o }
theorem cC (M:Nat->Prop) (W:World):(av M W).heap.size=W.heap.size:=by simp [av]
theorem LQ (h:M j) (a:j<W):(av M W).heap[j]?=some (.cells #[] 0 (0,0)):=by
 simp [av,Array.getElem?_mapIdx,Array.getElem?_eq_getElem a,h]
theorem cZ (h:¬ M j):(av M W).heap[j]?=W.heap[j]?:=by grind [av]
theorem gR {o:Nat} (h:(av M W).cell? ⟨b,o,none⟩=some v):¬ M b:=λd=>by
 have c:=Q3 _ ⟨b,o,none⟩ h;have a:b<W:=by rw [cC] at c;exact c
 simp [World.cell?,LQ d a] at h
theorem nI {M':Nat->Prop} (h:Apart M W W') (g:∀ j,j<W.heap.size->M' j->M j):aM (av M W) (av M' W'):=by
 refine ⟨by rw [cC,cC];exact h.size,λb o v e=>?_⟩;have c:=gR e;have d:b<W.heap.size:=by have:=Q3 _ ⟨b,o,none⟩ e;rw [cC] at this;exact this
 have f:(av M' W').heap[b]?=(av M W).heap[b]?:=by
  rw [cZ λk=>c (g b d k),cZ c];exact h.block b d c
 exact (World.cell?_of_block (a:=⟨b,o,none⟩) f).trans e
theorem dm (M:Nat->Prop) (W:World):aM (av M W) W:=by
 refine ⟨by rw [cC];exact lR,λb o v e=>?_⟩;exact (World.cell?_of_block (a:=⟨b,o,none⟩) (cZ (gR e)).symm).trans e
theorem qw {N:Nat} {w:World} (h:Below N w W) (f:w=N) (g:∀ j,M j->N<=j):aM w (av M W):=by
 refine ⟨by rw [cC];exact h.size,λb o v e=>?_⟩;have c:b<N:=by rw [<- f];exact Q3 w ⟨b,o,none⟩ e
 have d:(av M W).heap[b]?=w.heap[b]?:=by
  rw [cZ (λk=>by have:=g b k;omega)];exact h.block b c
 exact (World.cell?_of_block (a:=⟨b,o,none⟩) d).trans e
section
open RowKit Shelf Go.Lib
theorem LR:(prog.info? 101).map (λi=>(i.zero,i.size,i.bytes))=some (some (.agg #[ByteArray.empty,(0:Int),.slice none 0 0,.slice none 0 0]),4,72):=by kernel_rfl
theorem LS:(prog.info? 101).map (·.size)=some 4:=by kernel_rfl
theorem sQ (w:World) (l:TypeId) (b o d f:Nat) (a:Addr) (c e:Nat) (cs:List Value) (m:cs.length=Nat.min c d*4)
  (g:∀ j v,cs[j]?=some v->w.cell? (a.add j)=some v) (k:∀ j,j<cs.length->(w.cell? ⟨b,o+j,none⟩).isSome=true) (hf:∀ j,j<cs.length->w.frozen? ⟨b,o+j,none⟩=false) (n:∀ v∈cs,v.oneCell'=true) :
  (Builtin.copy_ #[43,43] l #[.slice (some ⟨b,o,none⟩) d f,.slice (some a) c e]).run prog w=.ok (goInt (Nat.min c d)) (w.setCells b o cs):=by
 have h:=run_loadCells_list (P:=prog) w a cs g;have Ha:=run_storeCells_cells (P:=prog) b o cs 0 w (by simpa using k) (by simpa using hf) n;have hs:=LS;cases hq:prog.info? 101 with
 | none=>rw [hq] at hs;cases hs
 | some i=>
  have hi:i.size=4:=by rw [hq] at hs;simpa using hs
  rw [m] at h
  simp [Builtin.copy_,run_underlying underlying43,Builtin.lenOf,Builtin.firstCells,sizeOf,typeInfo,hq,hi,h,Ha]
theorem LT (b n c i d a vc:Nat) (cs vs:List Value) (w:World) (hi:i<n) (J:n+1<=c) (K:c<=9223372036854775807) (t:d≠b)
  (s:cs.length=n*4) (A:vs.length=4)
  (m:∀ j v,cs[j]?=some v->w.cell? ⟨b,j,none⟩=some v) (f:∀ j,j<(n+1)*4->(w.cell? ⟨b,j,none⟩).isSome=true) (p:∀ j,w.frozen? ⟨b,j,none⟩=false)
  (r:∀ j v,vs[j]?=some v->w.cell? ⟨d,a+j,none⟩=some v) (y:∀ v∈cs,v.oneCell'=true) (E:∀ v∈vs,v.oneCell'=true)
  (M L:TypeId) (F D:Nat) (B:w.shape? d=some (M,F)) (I:w.shape? b=some (L,D)) (z:D≠0) (G:w.frozen? ⟨d,a,none⟩=false) (H:w.frozen? ⟨d,F,none⟩=false) :
  Calls prog 54 #[.slice b n c,(i:Int),.slice (some ⟨d,a,none⟩) 1 vc] w λe w'=>
   e=.returned (.slice b (n+1) c)/\w'=(w.drew.setCells b ((i+1)*4) (cs.drop (i*4))).setCells b (i*4) vs:=by
 have Hm:¬ ((i:Int)=(n:Int)):=by omega
 have Hg:∀ lb cb,(callFunc 93 #[.slice (some ⟨d,a,none⟩) 1 vc,.slice (some ⟨b,(i+1)*4,none⟩) lb cb]).run prog w=.ok (.value false) w:=λlb cb=>by
  rw [run_callFunc_extern func93 (by kernel_rfl) (by kernel_rfl) (by kernel_rfl) (e:=Extern.SlicesOverlaps.overlaps #[43,43] #[4]) (by kernel_rfl),
   Lib.run_overlaps_apart w 43 4 101 underlying43 4 sizeOf101 ⟨d,a,none⟩ ⟨b,(i+1)*4,none⟩ 1 vc lb cb t M L F D B I z G H]
  rfl
 have Hf:(cs.drop (i*4)).length=(n - i)*4:=by rw [List.length_drop,s];omega
 have Hc:∀ l dc u,(Builtin.copy_ #[43,43] l #[.slice (some ⟨b,(i+1)*4,none⟩) (n - i) dc,.slice (some ⟨b,i*4,none⟩) (n+1 - i) u]).run prog w.drew=.ok (goInt (Nat.min (n+1 - i) (n - i))) (w.drew.setCells b ((i+1)*4) (cs.drop (i*4))):=λl dc u=>
  sQ w.drew l b ((i+1)*4) (n - i) dc ⟨b,i*4,none⟩ (n+1 - i) u (cs.drop (i*4)) (by rw [Hf];simp only [Nat.min_def];split <;> omega)
   (λj v g=>by rw [Addr.add_lit];exact m (i*4+j) v (by rwa [List.getElem?_drop] at g))
   (λj g=>f _ (by omega)) (λj g=>p _) λv N=>y v (List.mem_of_mem_drop N)
 obtain ⟨q,Ha⟩:∃ q,q=w.drew.setCells b ((i+1)*4) (cs.drop (i*4)):=⟨_,rfl⟩;have Hb:∀ k,k<(n+1)*4->(q.cell? ⟨b,k,none⟩).isSome=true:=λk O=>by
  rw [Ha];exact isSome_setCells b (cs.drop (i*4)) ((i+1)*4) w.drew (λj g=>f _ (by rw [Hf] at g;omega)) k (f k O)
 have He:∀ (W:World),(∀ x,W.cell? x=q.cell? x)->(∀ x,W.frozen? x=q.frozen? x)->∀ l dc,(Builtin.copy_ #[43,43] l #[.slice (some ⟨b,i*4,none⟩) (n+1 - i) dc,.slice (some ⟨d,a,none⟩) 1 vc]).run prog W=.ok (goInt (Nat.min 1 (n+1 - i))) (W.setCells b (i*4) vs):=λW o C l dc=>
  sQ W l b (i*4) (n+1 - i) dc ⟨d,a,none⟩ 1 vc vs (by rw [A];simp only [Nat.min_def];split <;> omega)
   (λj v g=>by
    rw [Addr.add_lit,o,Ha,World.cell?_setCells_out b _ _ _ _ λh _=>absurd h t];exact r j v g)
   (λj g=>by rw [o];exact Hb _ (by omega)) (λj g=>by rw [C,Ha,World.frozen?_setCells];exact p _) E
 rw [<- Ha] at Hc;have Ho:i<=n:=by omega
 have Hp:((i:Int)+1).toNat=i+1:=by omega
 have Hn:¬ (c=i+1):=by omega
 have Hk:(i:Int)<=(n:Int)+1:=by omega
 have Hh:¬ (c=i):=by omega
 have mixed:prog.follows .mixedOrders=true:=by kernel_rfl
 have Hj:IntKind.i64.wrap ((i:Int)+1)=(i:Int)+1:=by rw [IntKind.wrap_i64];omega
 have Hl:(0:Int)<=(i:Int)+1:=by omega
 have Hi:(i:Int)+1<=(n:Int)+1:=by omega
 clear m f r Hb Hf s
 go_enter func54,ntmps54
 go_wp2_with (simp only [Hg])
 go_region_law_o (refine step_copy_runI rfl _ _ 43 43 rfl _ _ (by simp [Act.eval,Act.put]) (by simp [Act.eval,Act.put]) (Hc _ _ _) ?_)
 go_wp2_with (at_builtin;refine wpList_copy_runI _ rfl _ _ 43 43 rfl _ _ rfl rfl (He _ (λ_=>rfl) (λ_=>rfl) _ _) ?_)
 go_ret
 first|exact ⟨rfl,rfl⟩|exact ⟨rfl,by rw [Ha]⟩
end
structure ew where
 g:aP
 own:Int
 ns:List ai
def sR (ds:List ah) (x:ew):Prop:=(ap x.g.cp:Int)=x.own/\kt ds x.g.dv x.ns/\(∀ k,k<x.g.dv.length->0<=bf x.g.dv k/\bf x.g.dv k<ds.length/\bf x.g.dv k ∉ x.g.dv.take k)
def qx (s:aB) (x:ew):Prop:=x.g.cp &&& s.cp=x.g.cp/\∀ k,k<x.g.dv.length->s.us (bf x.g.dv k).toNat=false
def fO (s:aB) (x:ew):aB:=⟨aD s.cp x.g.cp,s.ds,ci s.us x.g.dv⟩
theorem v7:et n us l k=0↔(0<=bf l k/\bf l k<n/\bf l k ∉ l.take k)/\us (bf l k).toNat=false:=by
 unfold et
 by_cases f:bf l k<0\/(n:Int)<=bf l k
 ·rw [if_pos f];constructor
  ·intro h;cases h
  ·rintro ⟨⟨a,b,_⟩,_⟩;omega
 ·rw [if_neg f]
  by_cases e:(us (bf l k).toNat || decide (bf l k∈l.take k))=true
  ·rw [if_pos e];constructor
   ·intro h;cases h
   ·rintro ⟨⟨_,_,c⟩,d⟩;rw [d,Bool.false_or,Qp] at e;exact absurd e c
  ·rw [if_neg e];rw [Bool.not_eq_true,Bool.or_eq_false_iff,decide_eq_false_iff_not] at e;exact ⟨λ_=>⟨⟨by omega,by omega,e.2⟩,e.1⟩,λ_=>rfl⟩
theorem ku {s j:aB} {x:ew}:ev s x.g x.own x.ns=some j↔sR s.ds x/\qx s x/\j=fO s x:=by
 unfold ev
 by_cases h:x.g.cp &&& s.cp=x.g.cp/\(ap x.g.cp:Int)=x.own/\bh (et s.ds.length s.us x.g.dv) x.g.dv.length=0
 ·rw [if_pos h];obtain ⟨n,m,l⟩:=h;have i:=eR l
  by_cases g:kt s.ds x.g.dv x.ns
  ·rw [if_pos g];constructor
   ·intro e;injection e with e
    exact ⟨⟨m,g,λk f=>(v7.1 (i k f)).1⟩,⟨n,λk f=>(v7.1 (i k f)).2⟩,e.symm⟩
   ·rintro ⟨_,_,rfl⟩;rfl
  ·rw [if_neg g];exact ⟨λe=>(by cases e),λe=>absurd e.1.2.1 g⟩
 ·rw [if_neg h];constructor
  ·intro e;cases e
  ·rintro ⟨⟨a,b,c⟩,⟨d,e⟩,_⟩;exact absurd ⟨d,a,r9 λk f=>v7.2 ⟨c k f,e k f⟩⟩ h
theorem LU (h:k<l.length):bf l k∈l:=by simp [bf,h]
theorem LV {x:Int} (h:x∈l):∃ k,k<l.length/\bf l k=x:=by
 obtain ⟨k,a,e⟩:=List.getElem_of_mem h;exact ⟨k,a,by simp [bf,a,e]⟩
theorem wb {j:Nat}:ci us l j=false↔us j=false/\(j:Int) ∉ l:=by
 unfold ci;simp
theorem LW {s:aB} {x y:ew} (h:sR s.ds x) (m:sR s.ds y) (g:qx s x) (f:qx (fO s x) y):qx s y/\qx (fO s y) x:=by
 have d:∀ i,y.g.cp.testBit i=true->s.cp.testBit i=true/\x.g.cp.testBit i=false:=λi hi=>by
  have e:=congrArg (λn=>Nat.testBit n i) f.1;simp only [fO,Nat.testBit_and,ig,hi,Bool.true_and] at e;cases hs:s.cp.testBit i <;> cases h:x.g.cp.testBit i <;> simp_all
 have Ha:∀ i,x.g.cp.testBit i=true->s.cp.testBit i=true:=λi hi=>by
  have e:=congrArg (λn=>Nat.testBit n i) g.1
  simpa [Nat.testBit_and,hi] using e
 have af:∀ k,k<y.g.dv.length->s.us (bf y.g.dv k).toNat=false/\bf y.g.dv k ∉ x.g.dv:=λk a=>by
  have e:=wb.1 (f.2 k a);have b:=(m.2.2 k a).1;rw [Int.toNat_of_nonneg b] at e;exact e
 refine ⟨⟨?_,λk a=>(af k a).1⟩,?_,λk a=>?_⟩
 ·apply Nat.eq_of_testBit_eq;intro i;rw [Nat.testBit_and];cases hi:y.g.cp.testBit i with
  | false=>rfl
  | true=>rw [(d i hi).1];rfl
 ·apply Nat.eq_of_testBit_eq;intro i;simp only [fO,Nat.testBit_and,ig];cases hi:x.g.cp.testBit i with
  | false=>rfl
  | true=>
   rw [Ha i hi];cases c:y.g.cp.testBit i with
   | false=>rfl
   | true=>rw [(d i c).2] at hi;cases hi
 ·refine wb.2 ⟨g.2 k a,λl=>?_⟩;have b:=(h.2.2 k a).1;rw [Int.toNat_of_nonneg b] at l;obtain ⟨j,c,e⟩:=LV l;exact (af j c).2 (by rw [e];exact LU a)
theorem LX (s:aB) (x y:ew):fO (fO s x) y=fO (fO s y) x:=by
 unfold fO
 congr 1
 ·apply Nat.eq_of_testBit_eq;intro i;simp only [ig];cases s.cp.testBit i <;> cases x.g.cp.testBit i <;> cases y.g.cp.testBit i <;> rfl
 ·funext j
  unfold ci;rw [Bool.or_assoc,Bool.or_assoc,Bool.or_comm (decide _) (decide _)]
noncomputable def cT (s:aB):List ew->Option aB
 | []=>some s
 | x :: r=>(ev s x.g x.own x.ns).bind λs'=>cT s' r
theorem qy (a b:List ew):∀ s,cT s (a++b)=(cT s a).bind λc=>cT c b:=by
 induction a with
 | nil=>intro s;rfl
 | cons x r ih=>
  intro s;rw [List.cons_append,cT,cT,Option.bind_assoc]
  congr 1
  funext c
  exact ih c
theorem LY {s a:aB} {x:ew} (h:ev s x.g x.own x.ns=some a):a.ds=s.ds:=by
 rw [(ku.1 h).2.2];rfl
theorem LZ {a b:List ew} (h:a.Perm b):∀ {s c:aB},cT s a=some c->cT s b=some c:=by
 induction h with
 | nil=>intro s c e;exact e
 | cons x _ ih=>
  intro s c e;rw [cT] at e ⊢;obtain ⟨n,f,d⟩:=Option.bind_eq_some_iff.1 e;rw [f,Option.bind_some];exact ih d
 | swap x y l=>
  intro s c e;rw [cT] at e;obtain ⟨n,f,d⟩:=Option.bind_eq_some_iff.1 e;rw [cT] at d;obtain ⟨o,j,i⟩:=Option.bind_eq_some_iff.1 d;obtain ⟨g,a2,rfl⟩:=ku.1 f;obtain ⟨b1,b2,rfl⟩:=ku.1 j;obtain ⟨c1,c2⟩:=LW g b1 a2 b2;have k:ev s x.g x.own x.ns=some (fO s x):=ku.2 ⟨b1,c1,rfl⟩;have m:ev (fO s x) y.g y.own y.ns=some (fO (fO s x) y):=ku.2 ⟨g,c2,rfl⟩;rw [cT,k,Option.bind_some,cT,m,Option.bind_some,LX];exact i
 | trans _ _ ih1 ih2=>intro s c e;exact ih2 (ih1 e)
def kw (h:ad):List ew:=(List.range h.gs.length).map λk=>⟨aq h.gs k,bL h.pod.cs (ae h.pod.cs k).am,(ae h.pod.cs k).ds⟩
def jO (hs:List ad):List ew:=hs.flatMap kw
theorem Bf (h:ad) (s:aB):∀ k,fw s h k=cT s ((List.range k).map λk=>⟨aq h.gs k,bL h.pod.cs (ae h.pod.cs k).am,(ae h.pod.cs k).ds⟩):=by
 intro k
 induction k with
 | zero=>rfl
 | succ k ih=>
  rw [fw,ih,List.range_succ,Qj,qy]
  congr 1
  funext s'
  rw [List.map_singleton,cT];cases ev s' (aq h.gs k) (bL h.pod.cs (ae h.pod.cs k).am) (ae h.pod.cs k).ds <;> rfl
theorem nJ (hs:List ad) (s:aB):∀ k,k<=hs.length->eI s hs k=cT s (jO (hs.take k)):=by
 intro k
 induction k with
 | zero=>intro _;rfl
 | succ k ih=>
  intro a;have Ha:k<hs.length:=a;rw [eI,ih (by omega),Qa Ha]
  show _=cT s ((hs.take k++[hs[k]]).flatMap kw)
  rw [List.flatMap_append,qy]
  show (cT s (jO (hs.take k))).bind _=(cT s (jO (hs.take k))).bind _
  congr 1
  funext s'
  rw [Bf];have e:af hs k=hs[k]:=by simp [af,Ha]
  rw [e]
  simp [kw]
theorem Bj {m:aF} {s:aB} (b:hs.Perm hs') (h:aW m ds hs=some s):aW m ds hs'=some s:=by
 unfold aW at h ⊢
 split at h
 ·rename_i a
  rw [if_pos a];rw [nJ _ _ _ (lR),Qh] at h ⊢;exact LZ (b.flatMap_right kw) h
 ·cases h
theorem L0 {m:aF} {s a:aB} (h:aW m ds hs=some s) (d:cT s (kw x)=some a):aW m ds (hs++[x])=some a:=by
 unfold aW at h ⊢
 split at h
 ·rename_i b
  rw [if_pos b];rw [nJ _ _ _ (lR),Qh] at h ⊢;rw [jO,List.flatMap_append,qy];have c:cT ⟨m.op,ds,λ_=>false⟩ (hs.flatMap kw)=some s:=h;rw [c,Option.bind_some]
  simpa using d
 ·cases h
section
open RowKit Shelf Go.Lib
abbrev fP:Value:=.agg #[ByteArray.empty,(0:Int),.slice none 0 0,.slice none 0 0]
theorem L1 (b n c i o d vc:Nat) (cs vs:List Value) (w:World) (hi:i<n) (J:n<=c) (q:c<n+1) (C:n<=100)
  (s:cs.length=n*4) (z:vs.length=4)
  (m:∀ j v,cs[j]?=some v->w.cell? ⟨b,j,none⟩=some v)
  (r:∀ j v,vs[j]?=some v->w.cell? ⟨o,d+j,none⟩=some v) (y:∀ v∈cs,v.oneCell'=true) (A:∀ v∈vs,v.oneCell'=true) :
  Calls prog 54 #[.slice b n c,(i:Int),.slice (some ⟨o,d,none⟩) 1 vc] w λe w'=>
   ∃ G,n+1<=G/\G<=maxLen/\e=.returned (.slice w (n+1) G)/\
   w'=(((w.alloc (.cells ((cs.take (i*4)).toArray++Builtin.zeroCells fP.cells (n+1 - i)++Builtin.zeroCells fP.cells (G - (n+1))) 101)).drew.setCells w (i*4) vs).drew).setCells w ((i+1)*4) (cs.drop (i*4)):=by
 obtain ⟨i0,Hn,Hr,Hq,Hl⟩:=info_parts LR;have Y:¬ ((i:Int)=(n:Int)):=by omega
 have S:(c:Int)<(n:Int)+1:=by omega
 have Hy:b<w:=block_lt_of_cell (m 0 _ (Qf (by omega)));have F:o<w:=block_lt_of_cell (r 0 _ (Qf (by omega)));have Ho:(n:Int)+1 - (i:Int)=((n+1 - i:Nat):Int):=by omega
 have Hj:i+(n+1 - i)=n+1:=by omega
 have Hh:(Builtin.firstCells i0.size i (.slice b i c)).run prog w.drew=.ok (cs.take (i*4)).toArray w.drew:=by
  rw [Hq];exact run_firstCells_some w.drew 4 i b i c (cs.take (i*4)) (by rw [Qu];omega) (λj v f=>by
   rw [Addr.add_lit];rw [List.getElem?_take] at f
   split at f
   ·rw [Qd];exact m j v f
   ·cases f)
 have Ha:Builtin.nextslicecap (n+1) c*i0.bytes<=281474976710656:=by rw [Hl];exact growslice_fits q (by omega)
 have Hi:∀ l,(Builtin.append_ #[43,3] l #[.slice b i c,.int .i64 ((n:Int)+1 - (i:Int))]).run prog w =
   .ok (.slice w (n+1) (grownCap w (n+1) c 101)) (w.drew.alloc (.cells ((cs.take (i*4)).toArray++Builtin.zeroCells fP.cells (n+1 - i)++Builtin.zeroCells fP.cells (grownCap w (n+1) c 101 - (n+1))) 101)):=λl=>by
  have h:=Lib.run_append_grow_zeros w 43 3 l 101 i0 _ .i64 .i64 underlying43 underlying3 Hn Hr (some ⟨b,0,none⟩) i c (cs.take (i*4)) Hh (n+1 - i) (by omega) (by omega) (by omega) (by omega) (by rw [Hl];omega) (by rw [Hj];exact Ha);rw [Hj] at h;rw [Ho];exact h
 have Hf:n+1<=grownCap w (n+1) c 101:=grownCap_ge w _ _ _;have Hc:grownCap w (n+1) c 101<=maxLen:=grownCap_le_maxLen w (n+1) c 101 (by unfold maxLen;omega);obtain ⟨G,D⟩:∃ G,G=grownCap w (n+1) c 101:=⟨_,rfl⟩;rw [<- D] at Hi Hf Hc;refine Calls.mono (R:=λe w'=>e=.returned (.slice w (n+1) G)/\w'=(((w.alloc (.cells ((cs.take (i*4)).toArray++Builtin.zeroCells fP.cells (n+1 - i)++Builtin.zeroCells fP.cells (G - (n+1))) 101)).drew.setCells w (i*4) vs).drew).setCells w ((i+1)*4) (cs.drop (i*4))) ?_ λe w' h=>⟨G,Hf,Hc,h.1,h.2⟩;obtain ⟨a,Hb⟩:∃ a:Array Value,a=(cs.take (i*4)).toArray++Builtin.zeroCells fP.cells (n+1 - i)++Builtin.zeroCells fP.cells (G - (n+1)):=⟨_,rfl⟩;rw [<- Hb] at Hi ⊢;have Hw:(n+1)*4<=a.size:=by
  rw [Hb];have Hz:fP.cells.size=4:=rfl;simp only [Array.size_append,List.size_toArray,Qu,Builtin.zeroCells,Array.size_map,Array.size_range,Hz,s];omega
 have Hp:G<=9223372036854775807:=by unfold maxLen at Hc;omega
 obtain ⟨g,He⟩:∃ g,g=w.drew.alloc (.cells a 101):=⟨_,rfl⟩;rw [<- He] at Hi;have B:∀ j,j<(n+1)*4->(g.cell? ⟨w,j,none⟩).isSome=true:=λj f=>by
  rw [He,World.cell?_alloc_at (w:=w.drew) a _ w j rfl,Array.getElem?_eq_getElem (by omega)];rfl
 have Hm:∀ j,g.frozen? ⟨w,j,none⟩=false:=λj=>by rw [He];exact World.frozen?_alloc_at (w:=w.drew) a _ w j rfl
 have L:∀ j v,w.cell? ⟨b,j,none⟩=some v->g.cell? ⟨b,j,none⟩=some v:=λj v h=>by rw [He,World.cell?_alloc_past (w:=w.drew) _ b j Hy];exact h
 have I:∀ j v,w.cell? ⟨o,j,none⟩=some v->g.cell? ⟨o,j,none⟩=some v:=λj v h=>by rw [He,World.cell?_alloc_past (w:=w.drew) _ o j F];exact h
 have Hk:∀ (W:World),(∀ x,W.cell? x=g.cell? x)->(∀ x,W.frozen? x=g.frozen? x)->∀ l dc,(Builtin.copy_ #[43,43] l #[.slice (some ⟨w,i*4,none⟩) (n+1 - i) dc,.slice (some ⟨o,d,none⟩) 1 vc]).run prog W=.ok (goInt (Nat.min 1 (n+1 - i))) (W.setCells w (i*4) vs):=λW k p l dc=>
  sQ W l w (i*4) (n+1 - i) dc ⟨o,d,none⟩ 1 vc vs (by rw [z];simp only [Nat.min_def];split <;> omega)
   (λj v f=>by rw [Addr.add_lit,k];exact I _ v (r j v f))
   (λj f=>by rw [k];exact B _ (by omega)) (λj f=>by rw [p];exact Hm _) A
 have N:¬ (G=i):=by omega
 have P:¬ (G=i+1):=by omega
 have X:¬ (c=i):=by omega
 have E:b≠w:=by omega
 have Hs:(cs.drop (i*4)).length=(n - i)*4:=by rw [List.length_drop,s];omega
 have Hg:∀ (W:World),(∀ x,W.cell? x=(g.setCells w (i*4) vs).cell? x)->(∀ x,W.frozen? x=(g.setCells w (i*4) vs).frozen? x)->∀ l dc u,(Builtin.copy_ #[43,43] l #[.slice (some ⟨w,(i+1)*4,none⟩) (n - i) dc,.slice (some ⟨b,i*4,none⟩) (n - i) u]).run prog W=.ok (goInt (Nat.min (n - i) (n - i))) (W.setCells w ((i+1)*4) (cs.drop (i*4))):=λW k p l dc u=>
  sQ W l w ((i+1)*4) (n - i) dc ⟨b,i*4,none⟩ (n - i) u (cs.drop (i*4)) (by rw [Hs];simp only [Nat.min_def];split <;> omega)
   (λj v f=>by
    rw [Addr.add_lit,k,World.cell?_setCells_out _ _ _ _ _ λh _=>absurd h E];exact L _ v (m (i*4+j) v (by rwa [List.getElem?_drop] at f)))
   (λj f=>by rw [k];exact isSome_setCells w vs (i*4) g (λt M=>B _ (by omega)) _ (B _ (by rw [Hs] at f;omega)))
   (λj f=>by rw [p,World.frozen?_setCells];exact Hm _) λv K=>y v (List.mem_of_mem_drop K)
 subst He;have Hv:∀ x,((w.alloc (.cells a 101)).drew).cell? x=(w.drew.alloc (.cells a 101)).cell? x:=λx=>rfl
 have Ht:∀ x,((w.alloc (.cells a 101)).drew).frozen? x=(w.drew.alloc (.cells a 101)).frozen? x:=λx=>rfl
 have H:∀ x,(((w.alloc (.cells a 101)).drew.setCells w (i*4) vs).drew).cell? x=((w.drew.alloc (.cells a 101)).setCells w (i*4) vs).cell? x:=λx=>rfl
 have Hx:∀ x,(((w.alloc (.cells a 101)).drew.setCells w (i*4) vs).drew).frozen? x=((w.drew.alloc (.cells a 101)).setCells w (i*4) vs).frozen? x:=λx=>rfl
 have T:IntKind.i64.wrap ((i:Int)+1)=(i:Int)+1:=by rw [IntKind.wrap_i64];omega
 have U:(0:Int)<=(i:Int)+1:=by omega
 have Z:i<=n:=by omega
 have Q:((i:Int)+1).toNat=i+1:=by omega
 have O:(i:Int)<=(n:Int):=by omega
 have V:(i:Int)+1<=(n:Int)+1:=by omega
 have mixed:prog.follows .mixedOrders=true:=by kernel_rfl
 clear Ho Hj Hh Hb D Hw m r Ha Hn Hr Hq Hl
 go_enter func54,ntmps54
 go_wp2_with (first
  | (at_builtin;refine Lib.wpList_append_run _ rfl _ _ _ _ rfl _ _ rfl rfl _ _ (Hi _) ?_)
  | (at_builtin;refine wpList_copy_runI _ rfl _ _ 43 43 rfl _ _ rfl rfl (Hk _ Hv Ht _ _) ?_)
  | (at_builtin;refine wpList_copy_runI _ rfl _ _ 43 43 rfl _ _ rfl rfl (Hg _ (λ_=>rfl) (λ_=>rfl) _ _ _) ?_))
 go_region_law_o (refine step_copy_runI rfl _ _ 43 43 rfl (.slice (some ⟨w,(i+1)*4,none⟩) (n - i) (G - (i+1))) (.slice (some ⟨b,i*4,none⟩) (n - i) (c - i)) (by simp [Act.eval,Act.put]) (by simp [Act.eval,Act.put]) (Hg _ H Hx 3 (G - (i+1)) (c - i)) ?_)
 go_wp2
 go_ret;exact ⟨rfl,rfl⟩
end
def ek (ds:List ah) (k:ByteArray) (l:List Int):Nat:=l.countP λj=>decide ((aC ds j.toNat).kind=k)
def kx (m:ByteArray->Option Int):Prop:=∀ k,m k≠some 0
theorem L2 (h:kx m) (k:ByteArray):m k=none↔(m k).getD 0=0:=by
 cases e:m k with
 | none=>simp
 | some v=>
  have:=h k
  rw [e] at this;constructor
  ·intro h;cases h
  ·intro h;exact absurd (congrArg some h) this
theorem Bl (h:kx m) (k:ByteArray) {v:Option Int} (a:v≠some 0):kx (dR m k v):=by
 intro x;unfold dR
 split
 ·exact a
 ·exact h x
theorem L4 (ds:List ah) (h:kx m) (j:Int):kx (e8 ds m j):=by grind [e8,Bl]
theorem L5 (ds:List ah) (m:ByteArray->Option Int) (j:Int) (k:ByteArray):(e8 ds m j k).getD 0=(m k).getD 0 - (if (aC ds j.toNat).kind=k then 1 else 0):=by unfold e8 dR;grind
theorem L6 (ds:List ah) (k:ByteArray):∀ (l:List Int) (m:ByteArray->Option Int),kx m->kx (l.foldl (e8 ds) m)/\(l.foldl (e8 ds) m k).getD 0=(m k).getD 0 - (ek ds k l:Nat):=by
 intro l
 induction l with
 | nil=>intro m h;exact ⟨h,by simp [ek]⟩
 | cons j r ih=>
  intro m h;obtain ⟨c,b⟩:=ih (e8 ds m j) (L4 ds h j);refine ⟨c,?_⟩;rw [List.foldl_cons,b,L5];unfold ek;rw [List.countP_cons]
  by_cases a:(aC ds j.toNat).kind=k
  ·simp [a];omega
  ·simp [a]
theorem L7 (ns:List ai) (h:∀ n∈ns,n.many≠0):∀ m,kx m->kx (ns.foldl (λm n=>dR m n.kind (some n.many)) m):=by induction ns <;> grind [Bl]
theorem Bo {ds:List ah} {l:List Int} (h:∀ n∈ns,n.many≠0):kt ds l ns↔∀ k,(eZ ns k).getD 0=(ek ds k l:Nat):=by
 have a:kx (eZ ns):=L7 ns h _ (λ_ e=>by cases e);unfold kt;refine forall_congr' λk=>?_
 obtain ⟨c,b⟩:=L6 ds k l (eZ ns) a;rw [L2 c,b];omega
theorem we:∀ (ns:List ai) (m:ByteArray->Option Int) (k:ByteArray),(∀ n∈ns,n.kind≠k)->ns.foldl (λm n=>dR m n.kind (some n.many)) m k=m k:=by
 intro ns
 induction ns with
 | nil=>intro m k _;rfl
 | cons n r ih=>
  intro m k h;rw [List.foldl_cons,ih _ k λx a=>h x (Qv _ a)];unfold dR;rw [if_neg λe=>h n (List.mem_cons_self ..) e.symm]
theorem Bt:∀ (ns:List ai) (m:ByteArray->Option Int) (n:ai),n∈ns->ns.Pairwise (λa b=>a.kind≠b.kind)->ns.foldl (λm n=>dR m n.kind (some n.many)) m n.kind=some n.many:=by
 intro ns
 induction ns with
 | nil=>intro m n h;cases h
 | cons x r ih=>
  intro m n h g;rw [List.foldl_cons];obtain ⟨d,c⟩:=List.pairwise_cons.1 g
  rcases List.mem_cons.1 h with rfl|h
  ·rw [we r _ n.kind λy f e=>d y f e.symm];unfold dR;rw [if_pos rfl]
  ·exact ih _ n h c
theorem Bu {l:List ag} (h:(bH l F L on).2=0):(ap (bH l F L on).1:Int)=L/\(bH l F L on).1 &&& F=(bH l F L on).1:=by
 unfold bH at h ⊢
 split
 ·rename_i a;rw [if_pos a] at h;cases h
 ·rename_i a
  rw [if_neg a] at h
  split
  ·rename_i b;rw [if_pos b] at h;cases h
  ·rename_i b
   have:=JJ (l:=l) (F:=F) (L:=L) on (by omega) (by omega) _ rfl
   exact ⟨this.1,this.2.1⟩
def jP (ds:List ah) (k:ByteArray) (l:List Nat):Nat:=l.countP λj=>decide ((aC ds j).kind=k)
def lq (k:ByteArray) (ns:List ai):Int:=(ns.map λn=>if n.kind=k then n.many else 0).sum
theorem Bv {m:Nat} (h:dV ds us kind many=0):((cR ds us kind m many.toNat).length:Int)=many:=by grind [dV,cR,zy]
theorem L8 {m:Nat} (k:ByteArray):jP ds k (cR ds us kind m n)=if kind=k then (cR ds us kind m n).length else 0:=by
 unfold jP
 by_cases a:kind=k
 ·rw [if_pos a,List.countP_eq_length];intro j b;have h:=(nj b).2;simp only [bz,Bool.and_eq_true,Qp] at h
  simp [h.1.1,a]
 ·rw [if_neg a,List.countP_eq_zero];intro j b;have h:=(nj b).2;simp only [bz,Bool.and_eq_true,Qp] at h
  simp [h.1.1,a]
structure L9 (ds:List ah) (ns:List ai) (us us':Nat->Bool) (new:List Nat):Prop where
 nodup:new.Nodup
 free:∀ j∈new,j<ds.length/\us j=false
 used:∀ j,us' j=(us j || decide (j∈new))
 kinds:∀ k,(jP ds k new:Int)=lq k ns
theorem By (s:ds.length<=16) (on:Nat):∀ (ns:List ai) (us:Nat->Bool) (c:List Nat),(dh ds on ns us c).1=0->∃ g,(dh ds on ns us c).2.2=c++g/\L9 ds ns us (dh ds on ns us c).2.1 g:=by
 intro ns
 induction ns with
 | nil=>intro us c _;exact ⟨[],by simp [dh],⟨List.nodup_nil,λ_ h=>(List.not_mem_nil h).elim,λj=>by simp [dh],λk=>by simp [jP,lq]⟩⟩
 | cons n r ih=>
  intro us c h;rw [dh] at h ⊢
  by_cases hf:dV ds us n.kind n.many=0
  ·rw [if_pos hf] at h ⊢;obtain ⟨g,e,t⟩:=ih _ _ h;have Ha:∀ j∈cR ds us n.kind on n.many.toNat,j<16:=λj i=>by have:=(nj i).1;omega
   have l:=rZ Ha (rY ds us n.kind on n.many.toNat);refine ⟨bE (cR ds us n.kind on n.many.toNat)++g,by rw [e,List.append_assoc],⟨?_,?_,?_,?_⟩⟩
   ·rw [List.nodup_append];refine ⟨l.nodup_iff.2 (rY ds us n.kind on n.many.toNat),t.nodup,λa q b p u=>?_⟩;subst u;have d:=(t.free a p).2;unfold eB at d;rw [Bool.or_eq_false_iff,decide_eq_false_iff_not] at d;exact d.2 (l.mem_iff.1 q)
   ·intro j i
    rcases Qi.1 i with i|i
    ·have d:=nj (l.mem_iff.1 i);refine ⟨d.1,?_⟩;have f:=d.2;simp only [bz,Bool.and_eq_true,Bool.not_eq_true'] at f;exact f.2
    ·have d:=t.free j i;refine ⟨d.1,?_⟩;have f:=d.2;unfold eB at f;rw [Bool.or_eq_false_iff] at f;exact f.1
   ·intro j;rw [t.used j];unfold eB;rw [Bool.or_assoc]
    congr 1
    rw [<- Bool.decide_or];apply decide_eq_decide.2;rw [Qi,l.mem_iff]
   ·intro k;unfold jP;rw [List.countP_append,l.countP_eq];have d:=L8 (ds:=ds) (us:=us) (kind:=n.kind) (m:=on) (n:=n.many.toNat) k;unfold jP at d;rw [d];have f:=t.kinds k;unfold jP at f;have v:=Bv (m:=on) hf;unfold lq;rw [Qq,List.sum_cons];unfold lq at f
    by_cases o:n.kind=k
    ·rw [if_pos o,if_pos o];omega
    ·rw [if_neg o,if_neg o];omega
  ·rw [if_neg hf] at h;exact absurd h hf
theorem Bz {α:Type} (l:List α):(l.map λ_=>(0:Int)).sum=0:=by induction l <;> grind
theorem Ma (i:ns.Pairwise λa b=>a.kind≠b.kind) (k:ByteArray):lq k ns=(eZ ns k).getD 0:=by
 by_cases h:∃ n∈ns,n.kind=k
 ·obtain ⟨n,c,rfl⟩:=h;unfold eZ;rw [Bt ns _ n c i]
  show lq n.kind ns=n.many
  induction ns with
  | nil=>cases c
  | cons x r ih=>
   obtain ⟨g,j⟩:=List.pairwise_cons.1 i;unfold lq;rw [Qq,List.sum_cons]
   rcases List.mem_cons.1 c with rfl|c
   ·rw [if_pos rfl]
    have:(r.map λy=>if y.kind=n.kind then y.many else 0).sum=0:=by
     have:(r.map λy=>if y.kind=n.kind then y.many else 0)=r.map λ_=>(0:Int):=List.map_congr_left λy d=>by rw [if_neg λe=>g y d e.symm]
     rw [this];exact Bz r
    rw [this];omega
   ·rw [if_neg (g n c)]
    have:=ih j c
    unfold lq at this;rw [this];omega
 ·have f:∀ n∈ns,n.kind≠k:=λn c e=>h ⟨n,c,e⟩
  unfold eZ;rw [we ns _ k f];unfold lq
  have:(ns.map λn=>if n.kind=k then n.many else 0)=ns.map λ_=>(0:Int):=List.map_congr_left λy d=>by rw [if_neg (f y d)]
  rw [this];exact Bz ns
def dZ (l:List Nat):List Int:=l.map λ(k:Nat)=>(k:Int)
theorem Mb (ds:List ah) (k:ByteArray) (l:List Nat):ek ds k (dZ l)=jP ds k l:=by
 unfold ek jP dZ;rw [List.countP_map];rfl
theorem Mc {l:List Nat} {j:Nat}:(j:Int)∈dZ l↔j∈l:=by grind [dZ]
theorem wh {l:List Nat} (h:k<l.length):bf (dZ l) k=(l[k]:Int):=by simp [bf,dZ,h]
theorem Md (h:l.Nodup) (a:k<l.length):bf l k ∉ l.take k:=by grind [bf,List.take_append_drop,List.nodup_append,List.drop_eq_getElem_cons,List.mem_cons_self]
theorem Me {l:List Nat} (h:l.Nodup):(dZ l).Nodup:=by grind [dZ]
theorem BA (l:List ag) (F:Nat) (L:Int) (on:Nat):(bH l F L on).2=0\/(bH l F L on).2=1\/(bH l F L on).2=8:=by grind [bH]
theorem Mf {m:aF} {s:aB} (p:s.ds.length<=16) (w:∀ n∈ns,n.many≠0) (v:ns.Pairwise λa b=>a.kind≠b.kind) (h:(bJ m s own ns).1=0) :
  ev s (bJ m s own ns).2.1 own ns=some ⟨aD s.cp (bJ m s own ns).2.1.cp,s.ds,(bJ m s own ns).2.2⟩:=by
 unfold bJ at h ⊢;dsimp only at h ⊢
 split
 ·rename_i q;rw [if_pos q] at h;cases h
 ·rename_i q
  rw [if_neg q] at h
  split
  ·rename_i o;rw [if_pos o] at h;exfalso;have y:=BA m.l s.cp own (au (λc=>(eY m (dz m s own ns)).1.1.testBit c.node.toNat) m.l);dsimp only at h;omega
  ·rename_i o
   rw [if_neg o] at h
   split
   ·rename_i l;rw [if_pos l] at h;exact absurd h l
   ·rename_i l
    have af:(dh s.ds (eY m (dz m s own ns)).1.1 ns s.us []).1=0:=by omega
    obtain ⟨d,e,t⟩:=By p _ ns s.us [] af;have r:=Bu (show (bH m.l s.cp own (au (λc=>(eY m (dz m s own ns)).1.1.testBit c.node.toNat) m.l)).2=0 by omega);generalize (bH m.l s.cp own (au (λc=>(eY m (dz m s own ns)).1.1.testBit c.node.toNat) m.l)).1=cp at *;generalize (dh s.ds (eY m (dz m s own ns)).1.1 ns s.us []).2.1=f at *;rw [e,List.nil_append];have Hc:∀ j∈d,j<16:=λj u=>by have:=(t.free j u).1;omega
    have Hb:=rZ Hc t.nodup;have key:ev s (⟨⟨cp,dZ (bE d)⟩,own,ns⟩:ew).g own ns=some (fO s ⟨⟨cp,dZ (bE d)⟩,own,ns⟩):=by
     refine (ku (x:=⟨⟨cp,dZ (bE d)⟩,own,ns⟩)).2 ⟨⟨r.1,?_,λk g=>?_⟩,⟨r.2,λk g=>?_⟩,rfl⟩
     ·refine (Bo w).2 λk=>?_
      rw [<- Ma v,<- t.kinds k]
      show ((jP s.ds k d:Nat):Int)=((ek s.ds k (dZ (bE d)):Nat):Int)
      rw [Mb];unfold jP;rw [Hb.countP_eq]
     ·have Ha:k<(bE d).length:=by simpa [dZ] using g
      show 0<=bf (dZ (bE d)) k/\bf (dZ (bE d)) k<(s.ds.length:Int)/\bf (dZ (bE d)) k ∉ (dZ (bE d)).take k
      refine ⟨?_,?_,Md (Me (Hb.nodup_iff.2 t.nodup)) g⟩
      ·rw [wh Ha];omega
      ·rw [wh Ha]
       have:=(t.free _ (Hb.mem_iff.1 (List.getElem_mem Ha))).1
       omega
     ·have Ha:k<(bE d).length:=by simpa [dZ] using g
      show s.us (bf (dZ (bE d)) k).toNat=false
      rw [wh Ha,Int.toNat_natCast];exact (t.free _ (Hb.mem_iff.1 (List.getElem_mem Ha))).2
    have i:ci s.us (dZ (bE d))=f:=by
     funext j
     rw [t.used j];unfold ci
     congr 1
     apply decide_eq_decide.2;rw [Mc,Hb.mem_iff]
    show ev s ⟨cp,dZ (bE d)⟩ own ns=some ⟨aD s.cp cp,s.ds,f⟩
    rw [<- i];exact key
def sS (cs:List aA):Prop:=∀ c∈cs,(∀ n∈c.ds,n.many≠0)/\c.ds.Pairwise λa b=>a.kind≠b.kind
def jQ (cs:List aA) (gs:List aP) (i:Nat):ew:=⟨aq gs i,bL cs (ae cs i).am,(ae cs i).ds⟩
theorem qz (m:aF) (s:aB) (cs:List aA):∀ k,(bZ m s cs k).1=0->(bZ m s cs k).2.1.length=k:=by
 intro k
 induction k with
 | zero=>intro _;rfl
 | succ k ih=>
  intro h;rw [bZ] at h ⊢
  by_cases a:(bZ m s cs k).1=0
  ·rw [if_pos a] at h ⊢;unfold my at h ⊢
   by_cases b:(bJ m (bZ m s cs k).2.2 (bL cs (ae cs k).am) (ae cs k).ds).1=0
   ·rw [if_pos b];rw [Q2,ih a];rfl
   ·rw [if_neg b] at h;exact absurd h b
  ·rw [if_neg a] at h;exact absurd h a
theorem wi {m:aF} {s:aB} (d:s.ds.length<=16) (e:sS cs):∀ k,k<=cs.length->(bZ m s cs k).1=0->cT s ((List.range k).map (jQ cs (bZ m s cs k).2.1))=some (bZ m s cs k).2.2/\(bZ m s cs k).2.2.ds=s.ds:=by
 intro k
 induction k with
 | zero=>intro _ _;exact ⟨rfl,rfl⟩
 | succ k ih=>
  intro p h;have j:=qz m s cs k;rw [bZ] at h ⊢
  by_cases a:(bZ m s cs k).1=0
  ·rw [if_pos a] at h ⊢;obtain ⟨o,i2⟩:=ih (by omega) a;have Ha:=j a;generalize (bZ m s cs k).2.1=gs at *;generalize (bZ m s cs k).2.2=c at *;unfold my at h ⊢
   by_cases b:(bJ m c (bL cs (ae cs k).am) (ae cs k).ds).1=0
   ·rw [if_pos b];have f:ae cs k∈cs:=mu (by omega);have Hb:=Mf (m:=m) (s:=c) (own:=bL cs (ae cs k).am) (ns:=(ae cs k).ds) (by rw [i2];exact d) (e _ f).1 (e _ f).2 b;refine ⟨?_,i2⟩;generalize bJ m c (bL cs (ae cs k).am) (ae cs k).ds=g at *;dsimp only;rw [List.range_succ,Qj,qy];have n:(List.range k).map (jQ cs (gs++[g.2.1]))=(List.range k).map (jQ cs gs):=by
     refine List.map_congr_left λi hi=>?_
     have Hc:i<gs.length:=by rw [Ha];exact List.mem_range.1 hi
     unfold jQ
     congr 1
     simp [aq,List.getElem?_append_left Hc]
    rw [n,o,Option.bind_some,List.map_singleton,cT];have l:jQ cs (gs++[g.2.1]) k=⟨g.2.1,bL cs (ae cs k).am,(ae cs k).ds⟩:=by
     unfold jQ
     congr 1
     simp [aq,<- Ha]
    rw [l,Hb];rfl
   ·rw [if_neg b] at h;exact absurd h b
  ·rw [if_neg a] at h;exact absurd h a
theorem BB {m:aF} {s:aB} (c:aW m ds hs=some s) (a:s.ds.length<=16) (d:sS p.cs) (b:(aV m s p).1=0) (f:(hs++[(⟨p,(aV m s p).2⟩:ad)]).Perm hs') :
  aW m ds hs'=some (bZ m s p.cs p.cs.length).2.2:=by
 refine Bj f (L0 c ?_);have h:=(wi a d p.cs.length (lR) b).1;have Ha:=qz m s p.cs p.cs.length b;unfold kw
 show cT s ((List.range (aV m s p).2.length).map (jQ p.cs (aV m s p).2))=_
 have e:(aV m s p).2.length=p.cs.length:=Ha;rw [e];exact h
theorem Mg {m:aF} {ds:List ah} {c:List ad} {s:aB} (h:aW m ds hs=some s) (b:c.Sublist hs):∃ i,aW m ds c=some i:=by
 obtain ⟨rest,g⟩:=b.exists_perm_append;have a:=Bj g h;unfold aW at a ⊢
 split at a
 ·rename_i d
  rw [if_pos d];rw [nJ _ _ _ (lR),Qh] at a ⊢;rw [jO,List.flatMap_append,qy] at a;obtain ⟨e,f,_⟩:=Option.bind_eq_some_iff.1 a;exact ⟨e,f⟩
 ·cases a
theorem BC {m:aF} {ds:List ah} (h:dQ ds=0):aW m ds []=some ⟨m.op,ds,λ_=>false⟩:=by
 unfold aW;rw [if_pos h];rfl
theorem wj {s a:aB}:∀ {l:List ew},cT s l=some a->a.ds=s.ds:=by
 intro l
 induction l generalizing s with
 | nil=>intro h;injection h with h;rw [h]
 | cons x r ih=>
  intro h;rw [cT] at h;obtain ⟨d,c,b⟩:=Option.bind_eq_some_iff.1 h;rw [ih b,LY c]
theorem lr {m:aF} {s:aB} (h:aW m ds hs=some s):s.ds=ds:=by
 unfold aW at h
 split at h
 ·rw [nJ _ _ _ (lR),Qh] at h;exact wj h
 ·cases h
theorem Mh {a:Nat->Bool} (h:∀ j,(aC ds j).kind=kind->us j=a j):dV ds us kind many=dV ds a kind many:=by grind [bR,bz,zw,aC,dV]
theorem Mi (on g:Nat):∀ (ns:List ai) (us c:Nat->Bool) (f d:List Nat),ns.Pairwise (λa b=>a.kind≠b.kind)->(∀ n∈ns,∀ j,(aC ds j).kind=n.kind->us j=c j)->(dh ds on ns us f).1=(dh ds g ns c d).1:=by
 intro ns
 induction ns with
 | nil=>intro us c f d _ _;rfl
 | cons n r ih=>
  intro us c f d p h;obtain ⟨q,m⟩:=List.pairwise_cons.1 p;have e:=Mh (many:=n.many) (h n (List.mem_cons_self ..));rw [dh,dh,<- e]
  by_cases hf:dV ds us n.kind n.many=0
  ·rw [if_pos hf,if_pos hf];refine ih _ _ _ _ m λx l j k=>?_
   have Ha:∀ (u:Nat->Bool) (o:Nat),j ∉ cR ds u n.kind o n.many.toNat:=λu o s=>by
    have i:=(nj s).2;simp only [bz,Bool.and_eq_true,Qp] at i;exact q x l (i.1.1.symm.trans k)
   unfold eB;rw [h x (Qv _ l) j k,Q7 (Ha us on),Q7 (Ha c g)]
  ·rw [if_neg hf,if_neg hf]
theorem Mj (l:List ag) (F:Nat) (L:Int) (on a:Nat):(bH l F L on).2=(bH l F L a).2:=by
 unfold bH
 split
 ·rfl
 ·split <;> rfl
theorem Mk {m:aF} {s:aB} (i:ns.Pairwise λa b=>a.kind≠b.kind):(bJ m s own ns).1=0↔(eY m (dz m s own ns)).2=true/\(bH m.l s.cp own 0).2=0/\(dh s.ds 0 ns s.us []).1=0:=by
 unfold bJ;dsimp only;generalize hpl:eY m (dz m s own ns)=d;rw [Mj m.l s.cp own 0 (au (λc=>d.1.1.testBit c.node.toNat) m.l),Mi 0 d.1.1 ns s.us s.us [] [] i λ_ _ _ _=>rfl];have j:=BA m.l s.cp own (au (λc=>d.1.1.testBit c.node.toNat) m.l)
 by_cases e:d.2=false
 ·rw [if_pos e];constructor
  ·intro h;cases h
  ·intro h;rw [e] at h;cases h.1
 ·rw [if_neg e];rw [Bool.not_eq_false] at e
  by_cases g:(bH m.l s.cp own (au (λc=>d.1.1.testBit c.node.toNat) m.l)).2≠0
  ·rw [if_pos g];constructor
   ·intro h;dsimp only at h;omega
   ·intro h;exact absurd h.2.1 g
  ·rw [if_neg g]
   by_cases f:(dh s.ds d.1.1 ns s.us []).1≠0
   ·rw [if_pos f];constructor
    ·intro h;exact absurd h f
    ·intro h;exact absurd h.2.2 f
   ·rw [if_neg f];exact ⟨λ_=>⟨e,by omega,by omega⟩,λ_=>rfl⟩
def ed (a b:ByteArray):Prop:=a.toList<b.toList
theorem sT (a:ByteArray):¬ ed a a:=List.lt_irrefl _
theorem qA {b c:ByteArray} (h:ed a b) (k:ed b c):ed a c:=List.lt_trans h k
theorem wk {b:ByteArray} (h:a≠b):ed a b\/ed b a:=by grind [ed,List.le_antisymm,Qs,ByteArray.ext,Array.toList_inj]
theorem wm {b:ByteArray}:dE a b=false↔ed b a:=by
 unfold dE ed;rw [Go.Proofs.bytesLess_eq,Bool.or_eq_false_iff,decide_eq_false_iff_not,Qr];constructor
 ·rintro ⟨d,c⟩
  have:a≠b:=λe=>c (by rw [e])
  rcases wk this with h|h
  ·exact absurd h d
  ·exact h
 ·intro h;exact ⟨λk=>List.lt_irrefl _ (List.lt_trans h k),λe=>by rw [e] at h;exact List.lt_irrefl _ h⟩
def ky (hs:List ad):Prop:=hs.Pairwise λa b=>ed a.pod.nm b.pod.nm
theorem wn (h:i+1<hs.length):oP hs (i+1)=false↔ed (hs[i]'(by omega)).pod.nm hs[i+1].pod.nm:=by grind [oP,wm,af]
theorem wo:ky hs↔∀ i,i<hs.length->oP hs i=false:=by
 constructor
 ·intro h i hi;cases i with
  | zero=>rfl
  | succ i=>exact (wn hi).2 (List.pairwise_iff_getElem.1 h i (i+1) (by omega) hi (by omega))
 ·intro h;have key:∀ d i (hi:i+d+1<hs.length),ed (hs[i]'(by omega)).pod.nm hs[i+d+1].pod.nm:=by
   intro d
   induction d with
   | zero=>intro i hi;exact (wn hi).1 (h _ hi)
   | succ d ih=>
    intro i hi;exact qA (ih i (by omega)) ((wn hi).1 (h _ hi))
  refine List.pairwise_iff_getElem.2 λi j hi b a=>?_
  obtain ⟨d,rfl⟩:∃ d,j=i+d+1:=⟨j - i - 1,by omega⟩;exact key d i b
theorem cL:bt hs=0↔hs.length<=12/\(∀ h∈hs,br h.pod=0/\h.gs.length=h.pod.cs.length/\ql h.gs=0)/\ky hs:=by
 unfold bt
 by_cases c:12<hs.length
 ·rw [if_pos c];exact ⟨λh=>(by cases h),λh=>(by omega)⟩
 ·rw [if_neg c];have one:∀ (h:ad) (b:Bool),fL h b=0↔br h.pod=0/\b=false/\h.gs.length=h.pod.cs.length/\ql h.gs=0:=by
   intro h b;unfold fL
   by_cases d:br h.pod≠0
   ·rw [if_pos d];exact ⟨λe=>absurd e d,λe=>e.1⟩
   ·rw [if_neg d]
    by_cases a:b=true\/h.gs.length≠h.pod.cs.length
    ·rw [if_pos a];refine ⟨λe=>(by cases e),λe=>?_⟩
     rcases a with a|a
     ·rw [e.2.1] at a;cases a
     ·exact absurd e.2.2.1 a
    ·rw [if_neg a];have g:b=false/\h.gs.length=h.pod.cs.length:=⟨Bool.not_eq_true _ ▸ λe=>a (.inl e),Qt λe=>a (.inr e)⟩;exact ⟨λe=>⟨by omega,g.1,g.2,e⟩,λe=>e.2.2.2⟩
  constructor
  ·intro h;have Ha:=eR h;refine ⟨by omega,λx j=>?_,wo.2 λi hi=>((one _ _).1 (Ha i hi)).2.1⟩;obtain ⟨k,f,rfl⟩:=sJ j
   have:=(one _ _).1 (Ha k f)
   exact ⟨this.1,this.2.2.1,this.2.2.2⟩
  ·rintro ⟨_,d,a⟩;refine r9 λk f=>?_
   have:=d _ (mv f)
   exact (one _ _).2 ⟨this.1,wo.1 a k f,this.2.1,this.2.2⟩
def dp (hs:List ad) (nm:ByteArray):Nat:=hs.countP λh=>decide (h.pod.nm.toList<nm.toList)
def ct (hs:List ad) (x:ad):List ad:=hs.take (dp hs x.pod.nm)++x :: hs.drop (dp hs x.pod.nm)
theorem BE (hs:List ad) (x:ad):(hs++[x]).Perm (ct hs x):=by
 unfold ct;have b:(hs++[x]).Perm (x :: hs):=List.perm_append_singleton x hs;have a:(x :: hs).Perm (x :: (hs.take (dp hs x.pod.nm)++hs.drop (dp hs x.pod.nm))):=by rw [List.take_append_drop]
 exact b.trans (a.trans List.perm_middle.symm)
theorem Ml (h:ky hs) (nm:ByteArray):(∀ y∈hs.take (dp hs nm),ed y.pod.nm nm)/\∀ y∈hs.drop (dp hs nm),¬ ed y.pod.nm nm:=by
 induction hs with
 | nil=>exact ⟨λy a=>by simp [dp] at a,λy a=>by simp [dp] at a⟩
 | cons x r ih=>
  obtain ⟨g,f⟩:=List.pairwise_cons.1 h;obtain ⟨i,i2⟩:=ih f
  by_cases b:x.pod.nm.toList<nm.toList
  ·have e:dp (x :: r) nm=dp r nm+1:=by unfold dp;rw [List.countP_cons_of_pos (by simpa using b)]
   rw [e,List.take_succ_cons,List.drop_succ_cons];refine ⟨λy a=>?_,i2⟩
   rcases List.mem_cons.1 a with rfl|a
   ·exact b
   ·exact i y a
  ·have c:∀ y∈r,¬ ed y.pod.nm nm:=λy a d=>b (qA (g y a) d)
   have e:dp (x :: r) nm=0:=by
    unfold dp;rw [List.countP_eq_zero];intro y a
    rcases List.mem_cons.1 a with rfl|a
    ·simpa using b
    ·have:=c y a;unfold ed at this;simpa using this
   rw [e];refine ⟨λy a=>by simp at a,λy a=>?_⟩;rw [List.drop_zero] at a
   rcases List.mem_cons.1 a with rfl|a
   ·exact b
   ·exact c y a
theorem BF (h:ky hs) (f:∀ y∈hs,y.pod.nm≠x.pod.nm):ky (ct hs x):=by
 obtain ⟨j,i⟩:=Ml h x.pod.nm;have Ha:=h;unfold ky ct at *;rw [<- List.take_append_drop (dp hs x.pod.nm) hs,List.pairwise_append] at Ha;obtain ⟨l,m,g⟩:=Ha;have Hb:∀ y∈hs.drop (dp hs x.pod.nm),ed x.pod.nm y.pod.nm:=λy e=>by
  rcases wk (f y (List.mem_of_mem_drop e)) with k|k
  ·exact absurd k (i y e)
  ·exact k
 rw [List.pairwise_append,List.pairwise_cons];refine ⟨l,⟨Hb,m⟩,λa d b c=>?_⟩
 rcases List.mem_cons.1 c with rfl|c
 ·exact j a d
 ·exact g a d b c
theorem Mm {a:List Nat}:dK (dZ (bE a))=0:=by grind [dZ,bE,pY,dK,r9,il,rX,zv,List.getElem_mem,List.pairwise_iff_getElem]
theorem Mn {m:aF} {s:aB}:dK (bJ m s own ns).2.1.dv=0:=by
 unfold bJ;dsimp only
 split
 ·rfl
 ·split
  ·rfl
  ·split
   ·rfl
   ·exact Mm
theorem wu {m:aF} {s:aB}:∀ k,∀ g∈(bZ m s cs k).2.1,dK g.dv=0:=by
 intro k
 induction k with
 | zero=>intro g a;cases a
 | succ k ih=>
  rw [bZ]
  split
  ·unfold my
   split
   ·intro g a
    rcases Qi.1 a with a|a
    ·exact ih g a
    ·rw [Qm.1 a];exact Mn
   ·intro g a;cases a
  ·exact ih
theorem wv (h:∀ g∈gs,dK g.dv=0):ql gs=0:=r9 λ_ a=>h _ (sK a)
theorem Mo {ds:List ai} (h:bh (ij ds) ds.length=0):(∀ n∈ds,n.many≠0)/\ds.Pairwise λa b=>a.kind≠b.kind:=by
 have o:=eR h;have c:∀ k,k<ds.length->1<=(ak ds k).many/\(0<k->dE (ak ds k).kind (ak ds (k - 1)).kind=false):=λk g=>by
  have:=o k g
  unfold ij at this
  split at this
  ·cases this
  ·rename_i r
   split at this
   ·cases this
   ·rename_i s
    refine ⟨by omega,λl=>?_⟩;cases e:dE (ak ds k).kind (ak ds (k - 1)).kind with
    | false=>rfl
    | true=>exact absurd (.inr ⟨l,e⟩) r
 constructor
 ·intro n p;obtain ⟨k,g,rfl⟩:=AI p
  have:=(c k g).1
  omega
 ·have e:∀ i (hi:i<ds.length),ak ds i=ds[i]:=λi hi=>by simp [ak,hi]
  have key:∀ d i (hi:i+d+1<ds.length),ed (ds[i]'(by omega)).kind ds[i+d+1].kind:=by
   intro d
   induction d with
   | zero=>
    intro i hi
    have:=wm.1 ((c (i+1) hi).2 (by omega))
    rw [e (i+1) hi,show i+1 - 1=i by omega,e i (by omega)] at this;exact this
   | succ d ih=>
    intro i hi
    have:=wm.1 ((c (i+(d+1)+1) hi).2 (by omega))
    rw [e _ hi,show i+(d+1)+1 - 1=i+d+1 by omega,e (i+d+1) (by omega)] at this;exact qA (ih i (by omega)) this
  refine List.pairwise_iff_getElem.2 λi j hi m q f=>?_
  obtain ⟨d,rfl⟩:∃ d,j=i+d+1:=⟨j - i - 1,by omega⟩
  have:=key d i m
  rw [f] at this;exact sT _ this
theorem oW (h:br p=0):sS p.cs:=by
 intro c a;obtain ⟨k,b,rfl⟩:=AJ a;unfold br at h
 split at h
 ·cases h
 ·split at h
  ·cases h
  ·split at h
   ·cases h
   ·have:=eR h k b
    unfold dI at this
    repeat' (split at this;· cases this)
    exact Mo this
structure bU where
 m:aF
 ds:List ah
 hs:List ad
structure ip (t:bU):Prop where
 devs:dQ t.ds=0
 held:bt t.hs=0
 left:∃ s,aW t.m t.ds t.hs=some s
open Classical in
noncomputable def bl (t:bU) (p:az):Nat × List ad:=
 if br p≠0 then (br p,t.hs) else
 if ∃ h∈t.hs,h.pod.nm=p.nm then (5,t.hs) else
 if 12<=t.hs.length then (2,t.hs) else
 if cH t.m (t.hs.map ad.pod++[p])=false then (7,t.hs) else
 if (aV t.m ((aW t.m t.ds t.hs).getD ⟨0,[],λ_=>false⟩) p).1≠0 then ((aV t.m ((aW t.m t.ds t.hs).getD ⟨0,[],λ_=>false⟩) p).1,t.hs) else
 if 6000<(bi (ct t.hs ⟨p,(aV t.m ((aW t.m t.ds t.hs).getD ⟨0,[],λ_=>false⟩) p).2⟩)).length then (2,t.hs) else
 (0,ct t.hs ⟨p,(aV t.m ((aW t.m t.ds t.hs).getD ⟨0,[],λ_=>false⟩) p).2⟩)
theorem Mp {t:bU} (h:ip t) (p:az):ip { t with hs:=(bl t p).2 }:=by
 unfold bl;obtain ⟨s,hs⟩:=h.left;rw [hs,Option.getD_some]
 split
 ·exact h
 rename_i k
 split
 ·exact h
 rename_i d
 split
 ·exact h
 rename_i i
 split
 ·exact h
 split
 ·exact h
 rename_i j
 split
 ·exact h
 have c:br p=0:=by omega
 have b:(aV t.m s p).1=0:=by omega
 have Hc:s.ds.length<=16:=by rw [lr hs];exact (kg h.devs).1
 obtain ⟨g,a2,a3⟩:=cL.1 h.held;have Hb:(aV t.m s p).2.length=p.cs.length:=qz t.m s p.cs p.cs.length b;have Ha:=BE t.hs ⟨p,(aV t.m s p).2⟩;refine ⟨h.devs,cL.2 ⟨?_,λx a=>?_,BF a3 λy f e=>d ⟨y,f,e⟩⟩,⟨_,BB hs Hc (oW c) b Ha⟩⟩
 ·show (ct t.hs ⟨p,(aV t.m s p).2⟩).length<=12
  rw [<- Ha.length_eq,Q2,List.length_singleton];omega
 ·rcases Qi.1 (Ha.mem_iff.2 a) with a|a
  ·exact a2 x a
  ·rw [Qm.1 a];exact ⟨c,Hb,wv (wu p.cs.length)⟩
theorem Mq (hf:bt [h]=0) (l:∀ g∈h.gs,g.cp<18446744073709551616) (j:h.pod.cs.length=1):(bi [h]).length<=6000:=by
 have ok:li [h]:=sL hf (λx k g f=>by rw [Qm.1 k] at f;exact l g f);have i:ko h:=ok.2 h (Qm.2 rfl);have a:=vM i.1;have b:=vO i 1 (by omega);have c:=qo (cX [h]);have e:cX [h]=[]++(jN h.pod++fv h h.pod.cs.length):=rfl;have m:(cX [h]).length=(jN h.pod).length+(fv h 1).length:=by rw [e,j];simp
 have d:bi [h]=cX [h]++di (cX [h]):=rfl;rw [d,Q2];omega
theorem BG {a:Nat} (h:a &&& b=a) (c:b<18446744073709551616):a<18446744073709551616:=by
 rw [<- h];exact Nat.lt_of_le_of_lt Nat.and_le_right c
def iM (l:List ew):Int:=(l.map ew.own).sum
theorem BH:∀ {l:List ew} {s a:aB},cT s l=some a->(ap a.cp:Int)+iM l=ap s.cp/\(a.cp &&& s.cp=a.cp):=by
 intro l
 induction l with
 | nil=>intro s a h;injection h with h;subst h;exact ⟨by simp [iM],Nat.and_self _⟩
 | cons x r ih=>
  intro s a h;rw [cT] at h;obtain ⟨j,f,d⟩:=Option.bind_eq_some_iff.1 h;obtain ⟨b,a2⟩:=ih d;obtain ⟨b1,b2,rfl⟩:=ku.1 f;have af:=vm b2.1;have g:=b1.1;have c:(fO s x).cp=aD s.cp x.g.cp:=rfl;rw [c] at b a2;refine ⟨?_,?_⟩
  ·unfold iM at b ⊢;rw [Qq,List.sum_cons];omega
  ·apply Nat.eq_of_testBit_eq;intro i;have e:=congrArg (λn=>Nat.testBit n i) a2;simp only [Nat.testBit_and,ig] at e ⊢;cases h1:a.cp.testBit i <;> cases h2:s.cp.testBit i <;> simp_all
theorem BI (a b:List ew):iM (a++b)=iM a+iM b:=by unfold iM;rw [Qj,List.sum_append]
theorem ww {am:Int} (h:0<=am):0<=bL cs am/\1000*bL cs am<=am:=by
 unfold bL
 split <;> omega
def jm (cs:List aA):Nat->Int
 | 0=>0
 | k+1=>jm cs k+bL cs (ae cs k).am
theorem BJ (h:∀ c∈cs,0<=c.am):∀ k,k<=cs.length->0<=jm cs k/\1000*jm cs k<=dY cs k:=by
 intro k
 induction k with
 | zero=>intro _;exact ⟨Int.le_refl _,Int.le_refl _⟩
 | succ k ih=>
  intro a;have d:=ih (by omega);have b:=ww (cs:=cs) (h _ (mu (show k<cs.length by omega)));have e:dY cs (k+1)=dY cs k+(ae cs k).am:=rfl;rw [jm,e];omega
theorem Mr (h:∀ c∈cs,0<=c.am) (b:k<=n) (a:n<=cs.length):jm cs k<=jm cs n:=by
 induction n with
 | zero=>
  obtain rfl:k=0:=by omega
  exact Int.le_refl _
 | succ n ih=>
  by_cases e:k=n+1
  ·rw [e];exact Int.le_refl _
  ·have f:=ih (by omega) (by omega);have d:=ww (cs:=cs) (h _ (mu (show n<cs.length by omega)));rw [jm];omega
theorem BK (cs:List aA) (gs:List aP):∀ k,iM ((List.range k).map (jQ cs gs))=jm cs k:=by
 intro k
 induction k with
 | zero=>rfl
 | succ k ih=>
  rw [List.range_succ,Qj,BI,ih,jm]
  simp [iM,jQ]
theorem Ms (a:h.gs.length=h.pod.cs.length):iM (kw h)=jm h.pod.cs h.pod.cs.length:=by
 unfold kw;rw [a];exact BK h.pod.cs h.gs h.pod.cs.length
theorem sU (h:br p=0):∀ c∈p.cs,0<=c.am:=λc a=>(((jk h).2.2.2) c a).2.1.1
theorem Mt (h:∀ x∈hs,br x.pod=0/\x.gs.length=x.pod.cs.length):0<=iM (jO hs)/\1000*iM (jO hs)<=bM (hs.map ad.pod):=by
 induction hs with
 | nil=>exact ⟨Int.le_refl _,Int.le_refl _⟩
 | cons x r ih=>
  have f:=ih λy d=>h y (Qv _ d)
  have a:=h x (List.mem_cons_self ..);have e:=BJ (sU a.1) x.pod.cs.length (lR);have c:jO (x :: r)=kw x++jO r:=rfl;rw [c,BI,Ms a.2];have b:bM ((x :: r).map ad.pod)=dY x.pod.cs x.pod.cs.length+bM (r.map ad.pod):=by unfold bM;simp
  rw [b];omega
theorem Mu (a b:List az):bM (a++b)=bM a+bM b:=by unfold bM;rw [Qj,List.sum_append]
theorem Mv {m:aF} {s:aB} (h:aW m ds hs=some s):(ap s.cp:Int)+iM (jO hs)=ap m.op/\s.cp &&& m.op=s.cp:=by
 unfold aW at h
 split at h
 ·rw [nJ _ _ _ (lR),Qh] at h;exact BH h
 ·cases h
theorem Mw {l:List ag} (d:0<=L) (c:ap F<=64) (b:L<=ap F) (a:F &&& au (λ_=>true) l=F):(bH l F L on).2=0:=by
 rw [Aj on d (by omega) a b]
theorem Mx {m:aF} {s:aB} (a:m.pol=0) (e:m.op &&& au (λ_=>true) m.l=m.op) (f:∀ A:Nat,ap A<=64) (l:aW m ds hs=some s) (g:ds.length<=16) (t:∀ x∈hs,br x.pod=0/\x.gs.length=x.pod.cs.length) (b:br p=0)
  (h:∀ c∈p.cs,c.ds=[]) (i:cH m (hs.map ad.pod++[p])=true):(aV m s p).1=0:=by
 obtain ⟨c1,c2⟩:=Mv l;obtain ⟨y,w⟩:=Mt t;have Hb:bM (hs.map ad.pod++[p])<=1000*(ap m.op:Int):=by
  unfold cH at i;rw [Bool.and_eq_true,Qp] at i;exact i.1
 rw [Mu] at Hb;have v:bM [p]=dY p.cs p.cs.length:=by unfold bM;simp
 rw [v] at Hb;have Hk:=BJ (sU b) p.cs.length (lR);have Hh:jm p.cs p.cs.length<=ap s.cp:=by omega
 have Hg:s.ds.length<=16:=by rw [lr l];exact g
 have He:s.cp &&& au (λ_=>true) m.l=s.cp:=by
  rw [<- c2,Nat.and_assoc,e]
 have key:∀ k,k<=p.cs.length->(bZ m s p.cs k).1=0:=by
  intro k
  induction k with
  | zero=>intro _;rfl
  | succ k ih=>
   intro u;have j:=ih (by omega);obtain ⟨g1,z⟩:=wi (m:=m) Hg (oW b) k (by omega) j;obtain ⟨r,q⟩:=BH g1;rw [BK] at r;rw [bZ,if_pos j];generalize (bZ m s p.cs k).2.1=gs at *;generalize (bZ m s p.cs k).2.2=d at *;have o:ae p.cs k∈p.cs:=mu (by omega);have Hi:=h _ o;have Ha:=Mr (sU b) (k:=k+1) (n:=p.cs.length) u (lR);have Hf:=ww (cs:=p.cs) (sU b _ o);rw [jm] at Ha;have Hc:d.cp &&& au (λ_=>true) m.l=d.cp:=by rw [<- q,Nat.and_assoc,He]
   have Hj:(bJ m d (bL p.cs (ae p.cs k).am) (ae p.cs k).ds).1=0:=by
    rw [Hi,Mk List.Pairwise.nil];refine ⟨?_,Mw Hf.1 (f _) (by omega) Hc,rfl⟩;unfold eY;rw [if_pos a]
   unfold my;rw [if_pos Hj]
 exact key p.cs.length (lR)
def iN (hs:List ad) (nm:ByteArray):List ad:=hs.filter λh=>decide (h.pod.nm≠nm)
theorem My (b:∀ y∈hs,y.pod.nm≠x.pod.nm):iN (ct hs x) x.pod.nm=hs:=by
 unfold iN ct;rw [List.filter_append,List.filter_cons_of_neg (by simp)];have d:(hs.take (dp hs x.pod.nm)).filter (λh=>decide (h.pod.nm≠x.pod.nm))=hs.take (dp hs x.pod.nm):=List.filter_eq_self.2 λy a=>by simpa using b y (List.mem_of_mem_take a)
 have c:(hs.drop (dp hs x.pod.nm)).filter (λh=>decide (h.pod.nm≠x.pod.nm))=hs.drop (dp hs x.pod.nm):=List.filter_eq_self.2 λy a=>by simpa using b y (List.mem_of_mem_drop a)
 rw [d,c,List.take_append_drop]
theorem BL (hs:List ad) (nm:ByteArray):(iN hs nm).Sublist hs:=List.filter_sublist
theorem wy (h:bt hs=0) (d:hs'.Sublist hs):bt hs'=0:=by
 obtain ⟨a,b,c⟩:=cL.1 h;exact cL.2 ⟨Q5 d.length_le a,λx e=>b x (d.subset e),List.Pairwise.sublist d c⟩
theorem BM {t:bU} (h:(bl t p).1=0):iN (bl t p).2 p.nm=t.hs:=by
 unfold bl at h ⊢
 split
 ·rename_i c;rw [if_pos c] at h;exact absurd h c
 ·rename_i c
  rw [if_neg c] at h
  split
  ·rename_i b;rw [if_pos b] at h;cases h
  ·rename_i b
   rw [if_neg b] at h
   split
   ·rename_i f;rw [if_pos f] at h;cases h
   ·rename_i f
    rw [if_neg f] at h
    split
    ·rename_i d;rw [if_pos d] at h;cases h
    ·rename_i d
     rw [if_neg d] at h
     split
     ·rename_i a;rw [if_pos a] at h;exact absurd h a
     ·rename_i a
      rw [if_neg a] at h
      split
      ·rename_i g;rw [if_pos g] at h;cases h
      ·exact My (x:=⟨p,_⟩) λy i e=>b ⟨y,i,e⟩
section
variable {α β:Type} (nm:α->β)
theorem BN {l:List α} (h:(l.map nm).Nodup) {a b:α} (g:a∈l) (f:b∈l) (e:nm a=nm b):a=b:=by
 obtain ⟨i,hi,rfl⟩:=List.getElem_of_mem g;obtain ⟨j,d,rfl⟩:=List.getElem_of_mem f;have c:=h;unfold List.Nodup at c;rw [List.pairwise_map,List.pairwise_iff_getElem] at c
 have:i=j:=by
  rcases Nat.lt_trichotomy i j with k|k|k
  ·exact absurd e (c i j hi d k)
  ·exact k
  ·exact absurd e.symm (c j i d hi k)
 subst this;rfl
theorem BO {l:List α} (h:(l.map nm).Nodup):l.Nodup:=by
 unfold List.Nodup at *;rw [List.pairwise_map] at h;exact h.imp λa e=>a (by rw [e])
theorem Mz {runs wanted:List α} {k:Nat} (d:k<runs.length) (af:(runs.map nm).Nodup) (f:runs[k] ∉ wanted) (a:α):(a∈runs/\(a∈wanted\/a∈runs.drop (k+1)))↔(a∈runs/\(a∈wanted\/a∈runs.drop k))/\nm a≠nm runs[k]:=by
 have e:runs.drop k=runs[k] :: runs.drop (k+1):=List.drop_eq_getElem_cons d;have Ha:runs.Nodup:=BO nm af;constructor
 ·rintro ⟨c,b⟩;refine ⟨⟨c,b.imp id λh=>by rw [e];exact Qv _ h⟩,λj=>?_⟩;have g:=BN nm af c (List.getElem_mem d) j;subst g
  rcases b with b|b
  ·exact f b
  ·have:=(Ha.sublist (List.drop_sublist k runs))
   rw [e] at this;exact (List.nodup_cons.1 this).1 b
 ·rintro ⟨⟨c,b⟩,i⟩;refine ⟨c,b.imp id λh=>?_⟩;rw [e] at h
  rcases List.mem_cons.1 h with rfl|h
  ·exact absurd rfl i
  ·exact h
theorem MA {runs wanted:List α} {k:Nat} (f:k<runs.length) (d:runs[k]∈wanted) (a:α):(a∈runs/\(a∈wanted\/a∈runs.drop (k+1)))↔(a∈runs/\(a∈wanted\/a∈runs.drop k)):=by
 have e:runs.drop k=runs[k] :: runs.drop (k+1):=List.drop_eq_getElem_cons f;rw [e];constructor
 ·rintro ⟨c,b⟩;exact ⟨c,b.imp id λh=>Qv _ h⟩
 ·rintro ⟨c,b⟩;refine ⟨c,?_⟩
  rcases b with b|b
  ·exact .inl b
  ·rcases List.mem_cons.1 b with rfl|b
   ·exact .inl d
   ·exact .inr b
theorem MB {runs wanted:List α} (a:α):(a∈runs/\(a∈wanted\/a∈runs.drop runs.length))↔(a∈wanted/\(a∈runs\/a∈wanted.take 0)):=by
 simp [and_comm]
theorem BP {runs wanted:List α} {k:Nat} (d:k<wanted.length) (a:α):(a∈wanted/\(a∈runs\/a∈wanted.take (k+1)))↔(a∈wanted/\(a∈runs\/a∈wanted.take k))\/a=wanted[k]:=by
 rw [Qa d,Qi,Qm];constructor
 ·rintro ⟨c,b|b|b⟩
  ·exact .inl ⟨c,.inl b⟩
  ·exact .inl ⟨c,.inr b⟩
  ·exact .inr b
 ·rintro (⟨c,b⟩|rfl)
  ·exact ⟨c,b.imp id .inl⟩
  ·exact ⟨List.getElem_mem d,.inr (.inr rfl)⟩
theorem MC {runs wanted:List α} {k:Nat} (c:k<wanted.length) (b:wanted[k]∈runs) (a:α):(a∈wanted/\(a∈runs\/a∈wanted.take (k+1)))↔(a∈wanted/\(a∈runs\/a∈wanted.take k)):=by grind [BP]
theorem MD {runs wanted:List α} {k:Nat} (c:k<wanted.length) (af:(wanted.map nm).Nodup) (d:wanted[k] ∉ runs) (a:α) (h:a∈wanted/\(a∈runs\/a∈wanted.take k)):nm a≠nm wanted[k]:=by
 intro f;have e:=BN nm af h.1 (List.getElem_mem c) f;subst e
 rcases h.2 with b|b
 ·exact d b
 ·have Ha:wanted.Nodup:=BO nm af
  have:=(Ha.sublist (List.take_sublist (k+1) wanted))
  rw [Qa c,List.nodup_append] at this;exact this.2.2 _ b _ (Qm.2 rfl) rfl
theorem ME {runs wanted:List α} (a:α):(a∈wanted/\(a∈runs\/a∈wanted.take wanted.length))↔a∈wanted:=by
 rw [Qh];exact ⟨λh=>h.1,λh=>⟨h,.inr h⟩⟩
end
theorem wA (h:dK xs=0):xs.length<=16:=by
 unfold dK at h
 split at h
 ·cases h
 ·omega
theorem MF (h:br p=0) (b:j<p.cs.length) (c:i<j):(ae p.cs i).nm≠(ae p.cs j).nm:=by
 obtain ⟨_,_,_,a⟩:=qi h
 have:=eR a j b
 unfold dI at this
 split at this
 ·cases this
 ·split at this
  ·cases this
  ·rename_i d
   intro e;refine d ?_;unfold mg;rw [List.any_eq_true];refine ⟨ae p.cs i,?_,Qc e⟩;have hi:i<p.cs.length:=by omega
   rw [List.mem_take_iff_getElem];exact ⟨i,by omega,by simp [ae,hi]⟩
def fg (l:List ag):Nat->Nat
 | 0=>0
 | k+1=>fg l k ||| 2 ^ (l.getD k ar).node.toNat
def fx (a:Nat) (ds:List ah):Nat->Nat
 | 0=>a
 | k+1=>fx a ds k ||| 2 ^ (aC ds k).node.toNat
structure dM where
 l:List ag
 keep:Nat
 nb:Int
 pol:Int
 ds:List ah
def cM (c:dM):Int:=
 if dO c.l≠0 then dO c.l
 else if ¬ (c.keep &&& au (λ_=>true) c.l=c.keep)\/¬ (0<=c.nb/\c.nb<=1125899906842624)\/¬ (0<=c.pol/\c.pol<=3) then 1
 else (dQ c.ds:Nat)
def cN (c:dM):aF:=⟨c.l,aD (au (λ_=>true) c.l) c.keep,fx (fg c.l c.l.length) c.ds c.ds.length,c.nb,c.pol⟩
theorem BQ {x:Int} (a:0<=x) (b:x<=3):2 ^ x.toNat<16/\1<=2 ^ x.toNat:=by
 have:x.toNat=0\/x.toNat=1\/x.toNat=2\/x.toNat=3:=by omega
 rcases this with h|h|h|h <;> rw [h] <;> decide
theorem BR {a:Nat} (d:a<16) (c:b<16):a ||| b<16:=Nat.or_lt_two_pow (n:=4) d c
theorem BS {l:List ag} (h:∀ k,k<l.length->0<=(l.getD k ar).node/\(l.getD k ar).node<=3):∀ k,k<=l.length->fg l k<16/\(0<k->1<=fg l k):=by
 intro k
 induction k with
 | zero=>intro _;exact ⟨Nat.zero_lt_succ 15,λh=>by omega⟩
 | succ k ih=>
  intro c;have b:=ih (by omega);have a:=BQ (h k (by omega)).1 (h k (by omega)).2;rw [fg];exact ⟨BR b.1 a.1,λ_=>Q5 a.2 Nat.right_le_or⟩
theorem MG {a:Nat} (d:a<16) (b:1<=a) (h:∀ k,k<ds.length->0<=(aC ds k).node/\(aC ds k).node<=3):∀ k,k<=ds.length->fx a ds k<16/\1<=fx a ds k:=by
 intro k
 induction k with
 | zero=>intro _;exact ⟨d,b⟩
 | succ k ih=>
  intro e;have b:=ih (by omega);have c:=BQ (h k (by omega)).1 (h k (by omega)).2;rw [fx];exact ⟨BR b.1 c.1,Q5 b.2 Nat.left_le_or⟩
theorem MH (hs:List ad):∀ k,k<=hs.length->gO hs k=((hs.take k).map iK).flatten:=by
 intro k
 induction k with
 | zero=>intro _;simp [gO]
 | succ k ih=>
  intro a;rw [gO,ih (by omega),Qa (by omega),Qj,List.flatten_append]
  simp [af,show k<hs.length by omega]
theorem MI (hs:List ad):cX hs=(hs.map iK).flatten:=by
 unfold cX;rw [MH _ _ (lR),Qh]
theorem BU (c:UInt8) (x:List UInt8):∀ (a:List (List UInt8)),x.length+a.length<=(Lib.join (x :: a) [c]).length:=by
 have key:∀ (r:List (List UInt8)),x.length+r.length<=(Lib.join (x :: r.reverse) [c]).length:=by
  intro r
  induction r with
  | nil=>have:=uw [] x [c];simp at this;simp [this]
  | cons y r ih=>
   rw [List.reverse_cons,<- List.cons_append,uw,if_neg (by simp)];simp only [Q2,Qg,List.length_nil];omega
 intro a
 have:=key a.reverse
 rw [List.reverse_reverse,List.length_reverse] at this;exact this
theorem MJ (c:aA) (g:aP):13<=(lh c g).length:=by
 unfold lh jM
 have:=BU 32 [99,111,110,116] ([c.nm.data.toList,aK c.am,aK c.ab,aK c.cm,aK c.cb,jL c.ds]++ej g)
 rw [<- List.cons_append] at this;simp only [Q2,Qg,List.length_nil,ej] at this ⊢;unfold eu;simp only [List.cons_append,List.nil_append] at this ⊢;omega
theorem MK (p:az):6<=(jN p).length:=by grind [jN,jM,BU,aK,gm,Q2,Qg,List.length_nil]
theorem ML (e:1<=h.pod.cs.length):19<=(iK h).length:=by
 have d:=MK h.pod;unfold iK;have c:13<=(fv h h.pod.cs.length).length:=by
  have a:∀ k,1<=k->13<=(fv h k).length:=by
   intro k b
   match k,b with
   | k+1,_=>
    rw [fv,Q2]
    have:=MJ (ae h.pod.cs k) (aq h.gs k)
    omega
  exact a _ e
 rw [Q2];omega
theorem MM (h:hs'.Sublist hs) (a:∀ x∈hs,1<=x.pod.cs.length):(cX hs').length+19*(hs.length - hs'.length)<=(cX hs).length:=by induction h <;> grind [MI,ML]
theorem MN (b:List UInt8):6<=(di b).length:=by
 have:1<=(Lib.decDigits (eL b)).length:=by rw [Lib.decDigits_length];exact Lib.nDigits_pos _
 simp only [di,Q2,Qg,List.length_nil];omega
theorem MO (h:hs'.Sublist hs) (b:∀ x∈hs,1<=x.pod.cs.length) (a:(bi hs).length<=6000):(bi hs').length<=6000:=by
 by_cases e:hs'.length=hs.length
 ·rw [h.eq_of_length e];exact a
 ·have g:=MM h b;have f:=h.length_le;have d:=MN (cX hs);have c:=qo (cX hs');unfold bi at a ⊢;rw [Q2] at a ⊢;omega
theorem MP (h:bt hs=0):∀ x∈hs,1<=x.pod.cs.length:=by
 obtain ⟨a,b,c⟩:=cL.1 h;intro x d;exact (qi (b x d).1).2.2.1.1
section
open Go.ChangeShapes Go.WideShapes Go.ChangeAt Go.RowKit
def nK (c:dM) (v1 v2:Value):Value:=.agg #[v1,.int .u64 (c.keep:Nat),(c.nb:Int),v2,(c.pol:Int)]
theorem MQ:prog.cellsOf 27=5:=by kernel_rfl
theorem MR:prog.cellsOf 22=1:=by kernel_rfl
theorem MS:prog.cellsOf 25=1:=by kernel_rfl
theorem MT:prog.cellsOf 24=1:=by kernel_rfl
theorem MU:prog.cellsOf 77=3:=by kernel_rfl
theorem MV {H:Type} {enc:TypeId × Value->H} {base:Nat} {v:Value} {d:DataW H} {p:List MemPlace}
  (N:Value.okWide prog W .any base 27 v) (h:DataW.Trod enc prog W 0 (λ_=>true) true 27 v d p):∃ (c:dM) (t v2:Value) (g o:Nat),v=nK c t v2/\fX W t c.l/\dW W v2 g o c.ds/\c.keep<18446744073709551616:=by
 obtain ⟨cs,rfl,Hb,_⟩:∃ cs,v=.agg cs/\cs.size=prog.cellsOf 27/\Row.okWide prog W .any base 27 cs:=by
  simpa [Value.okWide,underlying27] using N
 rw [MQ] at Hb;obtain ⟨l⟩:=cs;obtain ⟨i,hf⟩:=h;have hf:DataW.trod enc prog W 0 (λ_=>true) true i 27 l=some (d,p):=hf;obtain ⟨B,r,E⟩:=eD underlying27 hf 0 22 0 _ MR rfl;obtain ⟨P,T,J⟩:=eD underlying27 hf 1 24 1 _ MT rfl;obtain ⟨n2,Q,G⟩:=eD underlying27 hf 2 3 2 _ nk rfl;obtain ⟨S,X,L⟩:=eD underlying27 hf 3 25 3 _ MS rfl;obtain ⟨U,O,C⟩:=eD underlying27 hf 4 3 4 _ nk rfl;clear hf;have s:l.length=5:=by simpa using Hb
 match l,s with
 | [a,b,c,e,f],_=>
  obtain ⟨k,A,_,Hg⟩:=DataW.trod_int underlying24 J;obtain ⟨F,z⟩:=np G;obtain ⟨M,u⟩:=np C;have K:=sd underlying25 MU (by decide) L λ_ _ _ s h=>IQ s h
  simp at A z u
  obtain ⟨ds,g,o,Hf,_⟩:=IR K;have Hc:DataW.trod enc prog W 0 (λ_=>true) true B 22 [a]=some r:=E;obtain ⟨x,len,j,I⟩:∃ x len j,a=.slice x len j:=by
   rcases Deep.open_slice underlying22 Hc with ⟨Ha,_⟩|⟨q,w,y,m,n,D,R,Ha,_⟩
   ·simp at Ha;exact ⟨_,_,_,Ha⟩
   ·simp at Ha;exact ⟨_,_,_,Ha⟩
  subst I;obtain ⟨cl,He,Hi⟩:=Gw (d:=r.1) (p:=r.2) ⟨B,Hc⟩;subst He;have V:0<=k/\k<=18446744073709551615:=bounds_u64 Hg;refine ⟨⟨cl,k.toNat,F,M,ds⟩,_,_,g,o,?_,Hi,Hf,by show k.toNat<_;omega⟩;have Hh:((k.toNat:Nat):Int)=k:=by omega
  unfold nK;rw [A,z,u]
  show _=Value.agg #[_,.int .u64 ((k.toNat:Nat):Int),_,_,_]
  rw [Hh]
end
