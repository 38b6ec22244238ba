import Derived.Test.YtjlblidnfebmiaaGreatDoorE43
set_option maxRecDepth 100000
set_option maxHeartbeats 16000000
open Go Go.RowKit Go.Shelf
namespace Go.Proofs.YtjlblidnfebmiaaGreatDoor
abbrev uo (Bd Be Ba:Nat):Obj:=.cells #[.pointer (some ⟨Bd,0,none⟩),.pointer (some ⟨Be,0,none⟩),.pointer (some ⟨Ba,0,none⟩)] 36
structure SpA (w U:World) (oc:Obj) (Ba Bd Be Bm Bk Bc:Nat) (dk:Dk) (n:Nat) (rs:List Rn):Prop where
 below:Below w.heap.size w U
 box:U.heap[Bk]?=some (uo Bd Be Ba)
 conf:U.heap[Bc]?=some oc
 disk:bj U Bd dk
 calm:Calm dk
 same:dk.k=dk.n
 size:dk.n.fb.data.toList.length<=1000000
 eng:bC U Be Bd Bm n dk.n dk.k (λa=>a∈rs)
 lt:∀ j,j=Bk->j<U.heap.size/\∃ p,U.cell? ⟨j,0,none⟩=some (.pointer p)
 free:¬ Bd=Bk/\¬ Bm=Bk/\¬ Be=Bk
structure SpB (w U:World) (oc:Obj) (N:Nat->Prop) (Ba Ca Bd Be Bm Bk Bc:Nat) (c:dM) (hs:List ad) (dk:Dk) (n:Nat):Prop where
 below:Below w.heap.size w U
 box:U.heap[Bk]?=some (uo Bd Be Ba)
 conf:U.heap[Bc]?=some oc
 mach:be U N Ca Bd Be Bm ⟨cN c,c.ds,hs⟩ dk n
 room:cH (cN c) (hs.map ad.pod)=true
section
variable {w W U V:World} {oc:Obj} {N:Nat->Prop} {Ba Ca Bd Be Bm Bk Bc n n':Nat} {c:dM} {hs:List ad} {dk dk':Dk} {rs:List Rn} {t:bU} {s:ByteArray}
theorem Fm (d:(w.heap.size<=Ba/\w.heap.size<=Bd/\w.heap.size<=Bm)/\Bk≠Ba/\Bk≠Bd/\Bk≠Bm) (a:Below w.heap.size w W) (c:Apart (gD Bd Bm) W U):Below w.heap.size w U:=pI a a.size c (λj b=>by rcases b with e|e <;> omega)
theorem U9 {c:Obj} (g:(w.heap.size<=Ba/\w.heap.size<=Bd/\w.heap.size<=Bm)/\Bk≠Ba/\Bk≠Bd/\Bk≠Bm) (d:Bc≠Ba/\Bc≠Bd/\Bc≠Bm) (a:Below w.heap.size w W/\W.heap[Bk]?=some c/\W.heap[Bc]?=some oc) (b:Apart (three Ba Bd Bm) W U):Below w.heap.size w U/\U.heap[Bk]?=some c/\U.heap[Bc]?=some oc:=by
 refine ⟨pI a.1 a.1.size b (λj f=>by rcases f with e|e|e <;> omega),(b.block Bk (gS a.2.1).1 ?_).trans a.2.1,(b.block Bc (gS a.2.2).1 ?_).trans a.2.2⟩
 ·rintro (e|e|e) <;> omega
 ·rintro (e|e|e) <;> omega
theorem Va (c:be W i6 Ba Bd Be Bm t dk n) (f:(w.heap.size<=Ba/\w.heap.size<=Bd/\w.heap.size<=Bm)/\Bk≠Ba/\Bk≠Bd/\Bk≠Bm) (g:Bc≠Ba/\Bc≠Bd/\Bc≠Bm) (h:Bk≠Be/\w.heap.size<=Bk/\Bk≠Bc) (i:Below w.heap.size w W) (b:W.heap[Bk]?=some (uo Bd Be Ba)) (a:W.heap[Bc]?=some oc) (af:bj U Bd (dk.spoil s)) (d:W.grownBy U (some Bd)):SpA w U oc Ba Bd Be Bm Bk Bc (dk.spoil s) n (aE t.hs):=by
 have k:=Uk c.calm s;have l:=(gS b).1;have Ha:U.heap[Bk]?=some (uo Bd Be Ba):=(d.block Bk l λe=>f.2.2.1 (by injection e)).trans b;exact ⟨C9 i d f.1.2.1 i.size,Ha,(d.block Bc (gS a).1 λe=>g.2.1 (by injection e)).trans a,af,k,Ul c.txt.2.2.1 s,Um c.txt.2.2.2,rm c.eng d af k,λj e=>by subst e;exact ⟨(gS Ha).1,_,aa Ha 0⟩,λe=>f.2.2.1 e.symm,λe=>f.2.2.2 e.symm,λe=>h.1 e.symm⟩
theorem Vb {m:aF} {ds:List ah} (h:ka m ds dk hs dk') (a:0<=m.nb):cH m (hs.map ad.pod)=true:=by cases h <;> grind [ud]
theorem Vc {m:aF} {ds:List ah} (h:ka m ds dk hs dk') (a:n'<=n+dN rs (aE hs)):n'<=n+36:=by cases h <;> grind [bt,E9,tL,aE,tK]
theorem Vd (h:SpA w W oc Ba Bd Be Bm Bk Bc dk n rs) (g:(w.heap.size<=Ba/\w.heap.size<=Bd/\w.heap.size<=Bm)/\Bk≠Ba/\Bk≠Bd/\Bk≠Bm) (f:Bc≠Ba/\Bc≠Bd/\Bc≠Bm) (a:ka (cN c) c.ds dk hs dk') (d:be U (λj=>j=Bk) Ca Bd Be Bm ⟨cN c,c.ds,hs⟩ dk' n') (b:Apart (gD Bd Bm) W U) (i:0<=(cN c).nb):SpB w U oc (λj=>j=Bk) Ba Ca Bd Be Bm Bk Bc c hs dk' n':=by
 refine ⟨Fm g h.below b,(b.block Bk (gS h.box).1 ?_).trans h.box,(b.block Bc (gS h.conf).1 ?_).trans h.conf,d,Vb a i⟩
 ·rintro (e|e) <;> omega
 ·rintro (e|e) <;> omega
theorem Ve (h:SpB w W oc (λj=>j=Bk) Ba Ca Bd Be Bm Bk Bc c hs dk n) (b:Bk≠Be/\w.heap.size<=Bk/\Bk≠Bc):SpB w (W.setCell ⟨Bk,2,none⟩ (.pointer (some ⟨Ca,0,none⟩))) oc i6 Ca Ca Bd Be Bm Bk Bc c hs dk n:=by
 have d:=cK W ⟨Bk,2,none⟩ (.pointer (some ⟨Ca,0,none⟩));have f:Apart (λj=>j=Bk) W (W.setCell ⟨Bk,2,none⟩ (.pointer (some ⟨Ca,0,none⟩))):=fp d (λj e _=>by injection e with e;exact e.symm);refine ⟨C9 h.below d b.2.1 h.below.size,aO h.box 2 _,(d.block Bc (gS h.conf).1 λe=>b.2.2 (by injection e with e;exact e.symm)).trans h.conf,(h.mach.other f λj e g z a=>?_).grow (Q0 _ _) (λj e=>e.elim) λj e=>e.elim,h.room⟩;rw [e,h.box] at a;injection a with a
 injection a with _ a
 exact absurd a (by decide)
theorem SpB.keep (h:SpB w W oc i6 Ba Ca Bd Be Bm Bk Bc c hs dk n) (a:Below W.heap.size W U):SpB w U oc i6 Ba Ca Bd Be Bm Bk Bc c hs dk n:=
 ⟨h.below.trans (a.mono h.below.size),(a.block Bk (gS h.box).1).trans h.box,(a.block Bc (gS h.conf).1).trans h.conf,h.mach.keep a,h.room⟩
theorem Vf (h:be W N Ca Bd Be Bm t dk n) (d:Apart (gD Bd Bm) W U):Calls Tryz.prog 12 #[.pointer (some ⟨Ca,0,none⟩)] U λe w'=>∃ a c,e=.returned (.slice a t.hs.length c)/\aX (fresh U.heap.size w') (.slice a t.hs.length c) t.hs/\Below U.heap.size U w':=by
 obtain ⟨l,Hb,Hc,q,Ha,Hg,Hf,He,p,b,B,k,i,db,u,x,s,g,m,v,z,A,y,r⟩:=h;obtain ⟨w,a2,a3⟩:=cL.1 l.held;refine ED Ca p t.m Bd Be k s.cp i t.hs U ((d.block Ca g.lt ?_).trans g) ((m.le (bP (M':=four N Ca Bd Bm) (λj o f=>⟨f,d.block j o ?_⟩) d.size)).le (dm _ _)) a2 (by omega)
 ·rintro (e|e)
  ·exact Ha.1 e
  ·exact Ha.2.1 e
 ·rintro (e|e)
  ·exact f (.inr (.inr (.inl e)))
  ·exact f (.inr (.inr (.inr e)))
end
