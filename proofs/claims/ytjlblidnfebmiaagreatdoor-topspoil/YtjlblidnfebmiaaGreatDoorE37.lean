import Derived.Test.YtjlblidnfebmiaaGreatDoorE35
import Derived.Test.YtjlblidnfebmiaaGreatDoorE36
set_option maxRecDepth 100000
set_option maxHeartbeats 16000000
open Go Go.RowKit Go.Shelf
attribute [local go_sem] Oper.semAt_some
open Go.Proofs.Tryz
namespace Go.Proofs.YtjlblidnfebmiaaGreatDoor
variable {Ba Bd Be Bm b c n pb tb tc tg:Nat} {C:Rn->Prop} {M N:Nat->Prop} {W W':World} {dk:Dk} {hs:List ad} {l:List (ad × Value × Value)} {m:aF} {sk sn:Sd} {t:bU} {v:Value}
abbrev three (Ba Bd Bm:Nat):Nat->Prop:=λj=>j=Ba\/j=Bd\/j=Bm
theorem tZ (h:bQ Bd Bm W W'):Apart (three Ba Bd Bm) W W':=⟨h.os,h.tape,h.output,h.size,λj b a=>h.block j b (λe=>a (.inr (.inl e))) (λe=>a (.inr (.inr e)))⟩
theorem rj (h:bC W Be Bd Bm n sn sk C) (c:Apart (λj=>j=Ba) W W') (f:Ba≠Bd/\Ba≠Bm/\Ba≠Be) (hi:∀ (b:Array Value) (z:Nat × Nat),W.heap[Ba]?≠some (Obj.cells b 3 z)):bC W' Be Bd Bm n sn sk C:=by
 obtain ⟨l,g,m,i,o,p⟩:=h;have d:dT W W':=⟨c.size,λk b z d=>c.block k (gS d).1 λe=>hi b z (by rw [<- e];exact d)⟩;obtain ⟨q,r⟩:=pz o d;exact ⟨l.block (c.block Be l.lt λe=>f.2.2 e.symm),(c.block Bd g.lt λe=>f.1 e.symm).trans g,m,i.block (c.block Bm i.lt λe=>f.2.1 e.symm),q,λa=>by rw [r];exact p a⟩
theorem bx.notInt {b:Value} {cp:Nat} (h:bx W Ba tb m Bd Be b cp pb):∀ (a:Array Value) (z:Nat × Nat),W.heap[Ba]?≠some (Obj.cells a 3 z):=λa z e=>by
 rw [show W.heap[Ba]?=_ from h] at e;cases e
abbrev four (N:Nat->Prop) (Ba Bd Bm:Nat):Nat->Prop:=λj=>N j\/three Ba Bd Bm j
structure be (W:World) (N:Nat->Prop) (Ba Bd Be Bm:Nat) (t:bU) (dk:Dk) (n:Nat):Prop where
 inv:ip t
 calm:Calm dk
 cpus:0<t.m.l.length
 eng:bC W Be Bd Bm n dk.n dk.k (λa=>a∈aE t.hs)
 apart:Ba≠Bd/\Ba≠Bm/\Ba≠Be
 free:¬ N Ba/\¬ N Bd/\¬ N Bm/\¬ N Be
 nlt:∀ j,N j->j<W.heap.size
 txt:(bi t.hs).length<=6000/\Kept dk t.hs
 body:∃ tb b c hv pb db ao pc s,bx W Ba tb t.m Bd Be hv (s:aB).cp pb/\aX (av (four N Ba Bd Bm) W) hv t.hs/\dU (av (four N Ba Bd Bm) W) tb b 0 c t.m/\aW t.m t.ds t.hs=some s/\ee W pb db ao pc s/\¬ four N Ba Bd Bm pb/\(0<s.ds.length->¬ four N Ba Bd Bm db)
theorem be.grow {g:Nat->Prop} (h:be W N Ba Bd Be Bm t dk n) (d:Below W.heap.size W W') (H:∀ j,g j->N j\/W.heap.size<=j) (z:∀ j,g j->j<W'.heap.size):be W' g Ba Bd Be Bm t dk n:=by
 obtain ⟨L,E,He,p,D,l,P,I,o,b,c,y,v,db,F,J,s,u,A,a,B,m,K,x⟩:=h;obtain ⟨C,M,G⟩:=p.lt;have O:=u.lt;have w:=m.pool.lt;have hf:∀ j,j<W.heap.size->¬ N j->¬ g j:=λj k i f=>(H j f).elim i (by omega)
 have Ha:∀ j,j<W.heap.size->¬ four N Ba Bd Bm j->¬ four g Ba Bd Bm j:=λj k i f=>f.elim (λe=>hf j k (λe=>i (.inl e)) e) λe=>i (.inr e)
 have hle:aM (av (four N Ba Bd Bm) W) (av (four g Ba Bd Bm) W'):=bP (λj k i=>⟨Ha j k i,d.block j k⟩) d.size;refine ⟨L,E,He,p.below d,D,⟨hf _ O l.1,hf _ M l.2.1,hf _ G l.2.2.1,hf _ C l.2.2.2⟩,z,I,o,b,c,y,v,db,F,J,s,u.below d,A.le hle,?_,B,m.below d,Ha _ w K,λr=>Ha _ ((m.pool.at0 r).2.2) (x r)⟩;have q:¬ four N Ba Bd Bm o:=gR a.topo.cell;have Hc:=a.topo.tlt;have Hb:=a.topo.lt;rw [cC] at Hc Hb;refine ⟨mR a.topo ?_ ?_ ?_,a.good,a.op,a.nd,a.pol⟩
 ·rw [cZ q,cZ (Ha _ Hc q),d.block o Hc]
 ·by_cases nb:four N Ba Bd Bm b
  ·exact absurd nb (gR (a.topo.cells 0 He).1)
  ·rw [cZ nb,cZ (Ha _ Hb nb),d.block b Hb]
 ·rw [cC,cC];exact d.size
theorem be.other (h:be W N Ba Bd Be Bm t dk n) (d:Apart N W W') (hi:∀ j,N j->∀ (g:Array Value) (z:Nat × Nat),W.heap[j]?≠some (Obj.cells g 3 z)):be W' N Ba Bd Be Bm t dk n:=by
 obtain ⟨T,M,Hc,v,L,l,C,R,r,b,c,D,o,db,O,S,s,x,F,f,G,i,y,u⟩:=h;obtain ⟨H,U,P⟩:=v.lt;have hle:aM (av (four N Ba Bd Bm) W) (av (four N Ba Bd Bm) W'):=bP (λj q A=>⟨A,d.block j q λe=>A (.inl e)⟩) d.size;have E:¬ N o:=λe=>y (.inl e)
 refine ⟨T,M,Hc,?_,L,l,λj q=>Q1 (C j q) d.size,R,r,b,c,D,o,db,O,S,s,(d.block Ba x.lt l.1).trans x,F.le hle,?_,G,?_,y,u⟩
 ·obtain ⟨g1,I,K,g3,g4,B⟩:=v;have m:dT W W':=⟨d.size,λk g z m=>d.block k (gS m).1 λe=>hi k e g z m⟩;obtain ⟨J,Q⟩:=pz g4 m;exact ⟨g1.block (d.block Be H l.2.2.2),(d.block Bd U l.2.1).trans I,K,g3.block (d.block Bm P l.2.2.1),J,λa=>by rw [Q];exact B a⟩
 ·have p:¬ four N Ba Bd Bm r:=gR f.topo.cell;have Hb:=f.topo.tlt;have Ha:=f.topo.lt;rw [cC] at Hb Ha;refine ⟨mR f.topo ?_ ?_ ?_,f.good,f.op,f.nd,f.pol⟩
  ·rw [cZ p,cZ p,d.block r Hb λe=>p (.inl e)]
  ·by_cases nb:four N Ba Bd Bm b
   ·exact absurd nb (gR (f.topo.cells 0 Hc).1)
   ·rw [cZ nb,cZ nb,d.block b Ha λe=>nb (.inl e)]
  ·rw [cC,cC];exact d.size
 ·exact ⟨mS i.pool (d.block o i.pool.lt E) (λw=>d.block db (i.pool.at0 w).2.2 λe=>u w (.inl e)) d.size,i.nodes,i.cp⟩
theorem be.poolAt (h:be W N Ba Bd Be Bm t dk n):Ba<W.heap.size/\∀ a,W.cell? ⟨Ba,9,none⟩=some (.pointer (some ⟨a,0,none⟩))->a<W.heap.size/\¬ three Ba Bd Bm a:=by
 obtain ⟨y,m,Ha,q,k,o,r,w,B,b,c,u,a,db,p,x,s,f,z,v,A,j,i,l⟩:=h;refine ⟨f.lt,λd e=>?_⟩;have g:W.cell? ⟨Ba,9,none⟩=some (.pointer (some ⟨a,0,none⟩)):=aa f 9;rw [g] at e;obtain rfl:a=d:=by cases e;rfl
 exact ⟨j.pool.lt,λe=>i (.inr e)⟩
theorem be.poolNew {K:Nat->Prop} {base:Nat} (h:be W N Ba Bd Be Bm t dk n) (i:j9 base W Ba) (b:Apart K W W') (o:¬ K Ba) (k:∀ a,W.cell? ⟨Ba,9,none⟩=some (.pointer (some ⟨a,0,none⟩))->base<=a->¬ K a):j9 base W' Ba:=by
 obtain ⟨m,l⟩:=h.poolAt;intro a e;rw [ot (b.block Ba m o)] at e;obtain ⟨d,f⟩:=i a e;refine ⟨d,λdb n c j g=>f db n c j ?_⟩;rw [<- g];exact (ot (b.block a (l a e).1 (k a e d)) 0).symm
theorem ub:(bi []).length<=6000:=by
 have:=qo (cX [])
 have h:bi []=di (cX []):=rfl;rw [h];omega
theorem xW {ds:List ah} (h:dQ ds=0):aW m ds []=some ⟨m.op,ds,λ_=>false⟩:=by unfold aW;rw [if_pos h];rfl
theorem ud (h:0<=m.nb):cH m []=true:=by grind [cH,bM,cI]
theorem ue {c:dM} (h:cM c=0):dO c.l=0/\(0<=c.nb/\c.nb<=1125899906842624)/\(0<=c.pol/\c.pol<=3)/\dQ c.ds=0:=by grind [cM]
theorem Tz {l:List ag} {i:Int} {d:Bool} {b:List RV} (h:bD W tb tg 0 tc l) (c:0<l.length) (af:aQ W Bd sn sk v i d) (f:bB W Bm n b):(tb≠Bd/\tb≠Bm)/\(tg≠Bd/\tg≠Bm):=by
 have a:W.cell? ⟨Bd,0,none⟩=some (.bool sn.ft):=aa af 0;obtain ⟨g,cl,Ha⟩:=f.isMap;have a2:∀ j,W.cell? ⟨Bm,j,none⟩=none:=λj=>by simp [World.cell?,Ha]
 have c1:=h.cell;have c2:=(h.cells 0 c).1;refine ⟨⟨λe=>?_,λe=>?_⟩,λe=>?_,λe=>?_⟩
 ·rw [e,a] at c1;cases c1
 ·rw [e,a2] at c1;cases c1
 ·rw [e] at c2;have c2:W.cell? ⟨Bd,0,none⟩=_:=c2;rw [a] at c2;cases c2
 ·rw [e,a2] at c2;cases c2
theorem TA {j:Nat} {l:List ag} {p:Option Addr} (h:bD W tb tg 0 tc l) (b:0<l.length) (a:W.cell? ⟨j,0,none⟩=some (.pointer p)):tb≠j/\tg≠j:=by
 have c1:=h.cell;have c2:=(h.cells 0 b).1;refine ⟨λe=>?_,λe=>?_⟩
 ·rw [e,a] at c1;cases c1
 ·rw [e] at c2;have c2:W.cell? ⟨j,0,none⟩=_:=c2;rw [a] at c2;cases c2
structure TB (w w':World) (N:Nat->Prop) (c:dM) (Bd Be Bm:Nat) (dk:Dk) (e:Ending):Prop where
 bad:cM c≠0->e=.returned (.tuple #[.pointer none,aL (cM c)])
 good:cM c=0->∃ Ba,e=.returned (.tuple #[.pointer (some ⟨Ba,0,none⟩),.nilIface])/\be w' N Ba Bd Be Bm ⟨cN c,c.ds,[]⟩ dk 0/\(w.heap.size<=Ba/\j9 w.heap.size w' Ba)
 o:Apart (gD Bd Bm) w w'
section
abbrev ix:=λ(x0:ByteArray) (x1:Int) (x2:Option Addr) (x3 x4:Nat) (x5:Option Addr) (x6 x7:Nat)=>(.cells #[.string x0,.int .i64 x1,.slice x2 x3 x4,.slice x5 x6 x7] 101:Obj)
theorem EK (v:Value) (hs:List ad) (w:World) (h:aX w v hs) (M:hs.length<=100):Calls prog 51 #[v] w λe w'=>∃ (l:List (az × Value)) (n:Option Addr) (vc:Nat),e=.returned (.slice n l.length vc)/\l.map Prod.fst=hs.map ad.pod/\w'.ownsRow w.heap.size 49 3 (.slice n l.length vc) l.length (rowP l)/\(∀ x∈l,aZ w x.2 x.1.cs)/\Below w.heap.size w w':=by
 obtain ⟨i0,hi,Hy,Hs,E⟩:=info_parts xh;obtain ⟨P,c,rfl,F,s⟩:=h;unfold maxLen at F;have C:=qI s;clear s
 go_enter func51,ntmps51
 go_wp2
 go_loopw [3,8] (λH i wr=>∃ (k:Nat) (l:List (az × Value)),k<=hs.length/\i=.int .i64 k/\l.length=k/\l.map Prod.fst=(hs.take k).map ad.pod/\wr.ownsRow w.heap.size 49 3 H l.length (rowP l)/\(∀ x∈l,aZ w x.2 x.1.cs)/\Below w.heap.size w wr) (λ_ i _=>hs.length - (intOf i).toNat)
 case atStart=>exact ⟨0,[],by omega,rfl,rfl,rfl,Qw _ _ _ _,λx K=>(List.not_mem_nil K).elim,Q0 _ _⟩
 case round=>
  obtain ⟨k,l,Q,rfl,Hm,Hh,Ha,Hl,q⟩:=hrel;have Hz:=qI Hm;have Hi:=qI Hh;have Hp:=qI Hl;have r:=qI q;have R:l.length<=100:=by omega
  have N:=q.size;clear Hm Hh Hl
  by_cases f:k<hs.length
  ·obtain ⟨b,o,cv,A,rfl,Hk⟩:=C.o (by omega);obtain ⟨D,I,t,u⟩:=((Hk.below q).2 k f).1;have Hg:=(Hk.2 k f).2.1;have Hn:Hu ((hs.take (k+1)).map ad.pod=(hs.take k).map ad.pod++[(af hs k).pod]):=by
    unfold Hu;rw [Qa f,Qj];simp [af,f]
   have Hc:=qI Hg;obtain ⟨ca,cc,Hr,_,_⟩:=id Hg;rw [Hr] at t Hc;obtain ⟨ga,gc,Hq,_,_⟩:=id (Hk.2 k f).2.2;rw [Hq] at u;clear Hk Hg q Hr Hq;generalize af hs k=x at *;obtain ⟨⟨g,d,a⟩,m⟩:=x;dsimp only at D I t u Hc Hn;obtain ⟨n,vc,B⟩:=fj Ha;subst B;have z:=(Q0 wr.heap.size wr).alloc (lR) (.cells #[.string g,.int .i64 d,.slice ca a.length cc,.slice ga m.length gc] 101);have Hb:=Ha.alloc (.cells #[.string g,.int .i64 d,.slice ca a.length cc,.slice ga m.length gc] 101);have Ht:=qI (r.o.trans (z.mono r.o.size));have G:w.heap.size<=(wr.alloc (.cells #[.string g,.int .i64 d,.slice ca a.length cc,.slice ga m.length gc] 101)).heap.size:=by simp;omega
   have Hf:=tx (wr.alloc (.cells #[.string g,.int .i64 d,.slice ca a.length cc,.slice ga m.length gc] 101)) g d (.slice ca a.length cc) 49;rw [show (wr.alloc (.cells #[.string g,.int .i64 d,.slice ca a.length cc,.slice ga m.length gc] 101)).heap.size=wr.heap.size+1 by simp] at Hf;have Hv:=qI Hf;have Hx:w.heap.size<=((wr.alloc (.cells #[.string g,.int .i64 d,.slice ca a.length cc,.slice ga m.length gc] 101)).alloc (.cells #[.string g,.int .i64 d,.slice ca a.length cc] 49)).heap.size:=by simp;omega
   clear z Hf Ha
   go_wp2_with (at_builtin;refine wpList_append_own _ rfl _ _ 67 rfl w.heap.size 49 i0 _ 3 48 underlying67 hi Hy Hs E rfl (by decide) _ _ _ rfl (Hb.alloc _) ⟨_,0,none⟩ 1 1 (gC (⟨g,d,[]⟩,.slice ca a.length cc)) rfl rfl Hv.o (tC g d ca a.length cc) (by unfold maxLen;omega) (by omega) Hx ?_;intro O S Hj He _)
   go_roundw
   case rel=>
    refine ⟨k+1,l++[(⟨g,d,a⟩,.slice ca a.length cc)],by omega,by go_num,by rw [Q2,Hz.o];rfl,by rw [Qj,Hi.o,Hn.o];rfl,?_,λy p=>?_,?_⟩
    ·rw [tw,Q2];exact Hj
    ·rcases Qi.1 p with p|p
     ·exact Hp.o y p
     ·rw [Qm.1 p];exact Hc.o
    ·exact (Ht.o.alloc G _).grown He (by simp;omega) λj J=>(Hb.lt j J).1
   case measure=>simp [intOf];omega
  ·have Ho:k=hs.length:=by omega
   have L:Hu (l.map Prod.fst=hs.map ad.pod):=by unfold Hu;rw [Hi.o,Ho,Qh]
   clear Ho;obtain ⟨n,vc,Hw⟩:=fj Ha;subst Hw
   go_wp2
   go_ret;exact ⟨l,n,vc,rfl,L.o,Ha,Hp.o,r.o⟩
theorem rk {nm:ByteArray}:dH hs nm=true↔∃ h∈hs,h.pod.nm=nm:=by
 unfold dH
 simp
theorem TC (h:ip t) {p:az} {s:aB} (hs:aW t.m t.ds t.hs=some s) (c:br p=0) (d:dH t.hs p.nm=false) (j:t.hs.length<12) (b:(aV t.m s p).1=0):bt (ct t.hs ⟨p,(aV t.m s p).2⟩)=0/\(∃ i,aW t.m t.ds (ct t.hs ⟨p,(aV t.m s p).2⟩)=some i)/\(ct t.hs ⟨p,(aV t.m s p).2⟩).length=t.hs.length+1:=by
 have Hc:s.ds.length<=16:=by rw [lr hs];exact (kg h.devs).1
 obtain ⟨k,a2,a3⟩:=cL.1 h.held;have Hb:(aV t.m s p).2.length=p.cs.length:=qz t.m s p.cs p.cs.length b;have Ha:=BE t.hs ⟨p,(aV t.m s p).2⟩;have g:(ct t.hs ⟨p,(aV t.m s p).2⟩).length=t.hs.length+1:=by rw [<- Ha.length_eq,Q2,List.length_singleton]
 refine ⟨cL.2 ⟨by omega,λx a=>?_,BF a3 λy f e=>?_⟩,⟨_,BB hs Hc (oW c) b Ha⟩,g⟩
 ·rcases Qi.1 (Ha.mem_iff.2 a) with a|a
  ·exact a2 x a
  ·rw [Qm.1 a];exact ⟨c,Hb,wv (wu p.cs.length)⟩
 ·have:=rk.2 ⟨y,f,e⟩
  rw [d] at this;cases this
section exits
variable {t:bU} {p:az}
theorem EL (h:br p≠0):bl t p=(br p,t.hs):=by unfold bl;rw [if_pos h]
theorem EM (h:br p=0) (a:dH t.hs p.nm=true):bl t p=(5,t.hs):=by unfold bl;rw [if_neg λk=>k h,if_pos (rk.1 a)]
theorem rl (a:dH t.hs p.nm=false):¬ ∃ h∈t.hs,h.pod.nm=p.nm:=λh=>by rw [rk.2 h] at a;cases a
theorem EN (h:br p=0) (b:dH t.hs p.nm=false) (a:12<=t.hs.length):bl t p=(2,t.hs):=by unfold bl;rw [if_neg λk=>k h,if_neg (rl b),if_pos a]
theorem EO (h:br p=0) (c:dH t.hs p.nm=false) (b:t.hs.length<12) (a:cH t.m (t.hs.map ad.pod++[p])=false):bl t p=(7,t.hs):=by grind [bl,rl]
variable {s:aB}
theorem EP (h:br p=0) (d:dH t.hs p.nm=false) (a:t.hs.length<12) (c:cH t.m (t.hs.map ad.pod++[p])=true) (hs:aW t.m t.ds t.hs=some s) (b:(aV t.m s p).1≠0):bl t p=((aV t.m s p).1,t.hs):=by grind [bl,rl]
theorem EQ (h:br p=0) (e:dH t.hs p.nm=false) (a:t.hs.length<12) (d:cH t.m (t.hs.map ad.pod++[p])=true) (hs:aW t.m t.ds t.hs=some s) (b:(aV t.m s p).1=0) (c:6000<(bi (ct t.hs ⟨p,(aV t.m s p).2⟩)).length):bl t p=(2,t.hs):=by grind [bl,rl]
theorem TD (h:br p=0) (e:dH t.hs p.nm=false) (a:t.hs.length<12) (d:cH t.m (t.hs.map ad.pod++[p])=true) (hs:aW t.m t.ds t.hs=some s) (b:(aV t.m s p).1=0) (c:¬ 6000<(bi (ct t.hs ⟨p,(aV t.m s p).2⟩)).length):bl t p=(0,ct t.hs ⟨p,(aV t.m s p).2⟩):=by grind [bl,rl]
end exits
theorem rm {b:Dk} (h:bC W Be Bd Bm n dk.n dk.k C) (c:W.grownBy W' (some Bd)) (af:bj W' Bd b) (q:Calm b):bC W' Be Bd Bm n b.n b.k C:=by
 obtain ⟨r,a2,a3⟩:=h.apart;obtain ⟨u,v,p⟩:=h.lt;obtain ⟨s,d,g,m,i,j⟩:=h;have f:dT W W':=⟨c.size,λk o z f=>c.block k (gS f).1 (λe=>by
  injection e with e
  have d:W.heap[Bd]?=_:=d;rw [<- e,f] at d;cases d)⟩
 obtain ⟨l,t⟩:=pz i f;exact ⟨s.block (c.block Be u λe=>r (by injection e)),oe af q,g,m.block (c.block Bm p λe=>a3 (by injection e with e;exact e.symm)),l,λa=>by rw [t];exact j a⟩
def xX (l:List (ad × Value × Value)) (i:Nat):Prop:=∀ (base:Nat) (v:Value) (y:ad × Value × Value) (a:Addr) (w:World),w.ownsRow base 101 4 v l.length (l.flatMap aN)->(∀ j u,(aN y)[j]?=some u->w.cell? (a.add j)=some u)->(∀ u∈aN y,u.oneCell'=true)->base<=w.heap.size->v.ownBlock≠some a.block->(∃ arr ty,w.heap[a.block]?=some (Obj.cells arr ty (0,0)))->(∀ x∈l,∀ u∈aN x,u.oneCell'=true)->
 Calls prog 54 #[v,.int .i64 i,.slice (some a) 1 1] w λe w'=>∃ v',e=.returned v'/\w'.ownsRow base 101 4 v' (l.length+1) ((l.take i++y :: l.drop i).flatMap aN)/\w.grownBy w' v.ownBlock
theorem ER (h:l.length<=100):xX l l.length:=by
 intro base v y a w d c i b _ _ _;refine (Tq base v l.length _ (aN y) a 1 w d c rfl i h b).mono ?_;rintro e w' ⟨j,rfl,g,f⟩;refine ⟨j,rfl,?_,f⟩;rw [Qh,List.drop_length,List.flatMap_append]
 simpa using g
theorem TE (l:List (ad × Value × Value)) (i:Nat) (y:ad × Value × Value):(l.take i++y :: l.drop i).map Prod.fst=(l.map Prod.fst).take i++y.1 :: (l.map Prod.fst).drop i:=by simp [List.map_take,List.map_drop]
theorem ES {N:Nat} (h:W.ownsRow N 101 4 v l.length (l.flatMap aN)) (o:∀ j,M j->j<N) (d:∀ x∈l,aZ (av M W) x.2.1 x.1.pod.cs/\cq (av M W) x.2.2 x.1.gs):aX (av M W) v (l.map Prod.fst):=by
 have r:=h
 rcases h.2 with ⟨c,m⟩|⟨g,f,s,c,u,Ha,Hc,Hb,_⟩
 ·have:l=[]:=Qe m
  subst this;rw [c];exact ⟨none,0,rfl,⟨lR,Nat.zero_le _⟩,λh=>absurd h (Nat.lt_irrefl 0)⟩
 ·subst c;have key:∀ (l:List (ad × Value × Value)) (k:Nat) (b:k<l.length) (j:Nat),j<4->(l.flatMap aN)[k*4+j]?=(aN l[k])[j]?:=by
   intro l
   induction l with
   | nil=>intro k b;simp at b
   | cons a l ih=>
    intro k b j i;rw [List.flatMap_cons];cases k with
    | zero=>rw [List.getElem?_append_left (by simp [aN];omega)];simp
    | succ k=>
     rw [List.getElem?_append_right (by simp [aN];omega)]
     have:=ih k (by simpa using b) j i
     simp only [List.getElem_cons_succ];rw [<- this]
     congr 1
     simp [aN]
     omega
  refine ⟨_,f,by rw [Q9],by rw [Q9];exact ⟨Hc,Hb⟩,λ_=>⟨g,0,λk=>(l.getD k (af [] 0,.nilIface,.nilIface)).2.1,λk=>(l.getD k (af [] 0,.nilIface,.nilIface)).2.2,rfl,by rw [cC];exact (gS Ha).1,λk b=>?_⟩⟩;rw [Q9] at b;have e:af (l.map Prod.fst) k=l[k].1:=by simp [af,b]
  have p:l.getD k (af [] 0,.nilIface,.nilIface)=l[k]:=by simp [b]
  obtain ⟨t,q⟩:=d _ (List.getElem_mem b);dsimp only;rw [e,p];have cc:∀ j,j<4->(av M W).cell? ⟨g,0+k*4+j,none⟩=(aN l[k])[j]?:=λj i=>by
   rw [World.cell?_of_block (a:=⟨g,0+k*4+j,none⟩) (cZ (λn=>by have:=o g n;omega)),Qd,r.cellAt (k*4+j) (by omega)];exact key l k b j i
  exact ⟨⟨cc 0 (by decide),cc 1 (by decide),cc 2 (by decide),cc 3 (by decide)⟩,t,q⟩
theorem ET {w':World} {N:Nat} {u:Value} {cv a:Nat->Value} (h:w'.ownsRow N 101 4 u hs.length ((List.range hs.length).flatMap λk=>tD (af hs k) (cv k) (a k))) {b:World} (c:∀ k,k<hs.length->aZ b (cv k) (af hs k).pod.cs/\cq b (a k) (af hs k).gs):∃ l:List (ad × Value × Value),l.map Prod.fst=hs/\w'.ownsRow N 101 4 u l.length (l.flatMap aN)/\∀ x∈l,aZ b x.2.1 x.1.pod.cs/\cq b x.2.2 x.1.gs:=by
 refine ⟨(List.range hs.length).map λk=>(af hs k,cv k,a k),?_,?_,?_⟩
 ·rw [List.map_map];refine List.ext_getElem (by simp) λi g d=>?_
  simp [af,d]
 ·rw [Q9,List.length_range,List.flatMap_map];exact h
 ·intro x e;obtain ⟨k,f,rfl⟩:=Qk.1 e;exact c k (List.mem_range.1 f)
end
theorem TF {X V:World} {o:Nat} (h:dU X tb b o c m) (a:Below X.heap.size X V) (f:X.heap.size<=pb):dU (av (λj=>j=pb) V) tb b o c m:=by
 have e:=h.topo.tlt;have d:=h.topo.lt;refine ⟨mR h.topo ?_ ?_ ?_,h.good,h.op,h.nd,h.pol⟩
 ·rw [cZ (by omega),a.block tb e]
 ·rw [cZ (by omega),a.block b d]
 ·rw [cC];exact a.size
theorem TG (h:dU (av M W) tb b 0 c m) (d:0<m.l.length):dU W tb b 0 c m:=by
 have a:¬ M tb:=gR h.topo.cell;have nb:¬ M b:=gR (h.topo.cells 0 d).1;exact ⟨mR h.topo (cZ a).symm (cZ nb).symm (by rw [cC];exact lR),h.good,h.op,h.nd,h.pol⟩
theorem ro (h:dU (av M W) tb b 0 c m) (g:0<m.l.length) (d:∀ j,j<W.heap.size->¬ M j->W'.heap[j]?=W.heap[j]?) (hs:W.heap.size<=W'.heap.size):dU (av M W') tb b 0 c m:=by
 have a:¬ M tb:=gR h.topo.cell;have nb:¬ M b:=gR (h.topo.cells 0 g).1;have e:=h.topo.tlt;have f:=h.topo.lt;rw [cC] at e f;refine ⟨mR h.topo ?_ ?_ ?_,h.good,h.op,h.nd,h.pol⟩
 ·rw [cZ a,cZ a,d tb e a]
 ·rw [cZ nb,cZ nb,d b f nb]
 ·rw [cC,cC];exact hs
theorem TH {x:ad × Value × Value} (h:aZ W x.2.1 x.1.pod.cs/\cq W x.2.2 x.1.gs):∀ u∈aN x,u.oneCell'=true:=by
 obtain ⟨a,cv,aq⟩:=x;obtain ⟨⟨d,c1,c,_⟩,⟨a2,c2,b,_⟩⟩:=h;dsimp only at c b;subst c b;exact xP _ _ _ _ _ _ _
theorem TI {w C:World} {K:Nat} {i:Nat} {y:ad × Value × Value} (b:C.ownsRow K 101 4 v (l.length+1) ((l.take i++y :: l.drop i).flatMap aN)) (g:∀ j,M j->j<w.heap.size) (e:w.heap.size<=K) (old:∀ x∈l,aZ (av M w) x.2.1 x.1.pod.cs/\cq (av M w) x.2.2 x.1.gs) (d:Below w.heap.size w C) (k:aZ (av M C) y.2.1 y.1.pod.cs) (f:cq (av M C) y.2.2 y.1.gs):aX (av M C) v ((l.map Prod.fst).take i++y.1 :: (l.map Prod.fst).drop i):=by
 rw [<- TE];have Ha:(l.take i++y :: l.drop i).length=l.length+1:=by simp;omega
 have hle:aM (av M w) (av M C):=bP (λj c h=>⟨h,d.block j c⟩) d.size;refine ES (N:=K) (by rw [Ha];exact b) (λj c=>Q1 (g j c) e) λx a=>?_
 rcases Qi.1 a with a|a
 ·exact ⟨(old x (List.mem_of_mem_take a)).1.le hle,(old x (List.mem_of_mem_take a)).2.le hle⟩
 ·rcases List.mem_cons.1 a with a|a
  ·rw [a];exact ⟨k,f⟩
  ·exact ⟨(old x (List.mem_of_mem_drop a)).1.le hle,(old x (List.mem_of_mem_drop a)).2.le hle⟩
section
variable {N:Nat->Prop} {Ba Bd Be Bm:Nat} {t:bU} {dk:Dk} {n:Nat} {p:az}
theorem be.keep {w W:World} (h:be w N Ba Bd Be Bm t dk n) (a:Below w.heap.size w W):be W N Ba Bd Be Bm t dk n:=h.grow a (λ_ k=>.inl k) (λj k=>Q1 (h.nlt j k) a.size)
theorem be.disk {W W':World} {a:Dk} (h:be W N Ba Bd Be Bm t dk n) (d:W.grownBy W' (some Bd)) (af:bj W' Bd a) (o:Calm a) (k:Kept a t.hs):be W' N Ba Bd Be Bm t a n:=by
 have z:=rm h.eng d af o;obtain ⟨G,I,Ha,H,p,B,v,E,A,b,c,w,l,db,C,F,s,r,x,D,y,g,u,m⟩:=h;have hf:∀ j,j<W.heap.size->¬ four N Ba Bd Bm j->W'.heap[j]?=W.heap[j]?:=λj f i=>d.block j f λe=>i (.inr (.inr (.inl (by injection e))))
 refine ⟨G,o,Ha,z,p,B,λj f=>Q1 (v j f) d.size,⟨E.1,k⟩,A,b,c,w,l,db,C,F,s,(d.block Ba r.lt λe=>p.1 (by injection e)).trans r,x.le (bP (λj f i=>⟨i,hf j f i⟩) d.size),ro D Ha hf d.size,y,⟨mS g.pool (hf l g.pool.lt u) (λq=>hf db (g.pool.at0 q).2.2 (m q)) d.size,g.nodes,g.cp⟩,u,m⟩
theorem rq {w W:World} {e:Nat} (h:be w N Ba Bd Be Bm t dk n) (a:Below w.heap.size w W) (d:bl t p=(e,t.hs)):(∃ b c,(c<=n+dN (aE t.hs) (aE (bl t p).2)/\jz w W Ba)/\be W N Ba Bd Be Bm ⟨t.m,t.ds,(bl t p).2⟩ b c)/\Apart (three Ba Bd Bm) w W:=by
 rw [d];exact ⟨⟨dk,n,⟨Nat.le_add_right _ _,.inl (a.block Ba h.poolAt.1)⟩,h.keep a⟩,Apart.of_below a⟩
theorem TJ {w W W':World} {e:Nat} {a:Dk} (h:be w N Ba Bd Be Bm t dk n) (b:Below w.heap.size w W) (c:W.grownBy W' (some Bd)) (af:bj W' Bd a) (g:Calm a) (d:a=dk) (i:bl t p=(e,t.hs)):(∃ a f,(f<=n+dN (aE t.hs) (aE (bl t p).2)/\jz w W' Ba)/\be W' N Ba Bd Be Bm ⟨t.m,t.ds,(bl t p).2⟩ a f)/\Apart (three Ba Bd Bm) w W':=by
 rw [i];exact ⟨⟨a,n,⟨Nat.le_add_right _ _,.inl ((c.block Ba (Q1 h.poolAt.1 b.size) λe=>h.apart.1 (by injection e)).trans (b.block Ba h.poolAt.1))⟩,(h.keep b).disk c af g (d ▸ h.txt.2)⟩,(Apart.of_below b).trans (fp c λj e _=>.inr (.inl (by injection e with e;exact e.symm)))⟩
theorem be.next {w i E f o:World} {m:aF} {ds:List ah} {hs:List ad} {d:Dk} {G p b c l db:Nat} {v v0:Value} {H:Option Addr} {J A r:Nat} {s:aB} (h:be w N Ba Bd Be Bm t dk n) (R:Below w.heap.size w i) (O:dU (av (four N Ba Bd Bm) i) p b 0 c m) (F:0<m.l.length) (U:aX (av (four N Ba Bd Bm) i) v hs) (D:i.grownBy E (some Bd)) (I:bQ Bd Bm E f) (z:Apart (λj=>j=Ba) f o) (V:bx o Ba p m Bd Be v s.cp l) (S:ee o l db H J s) (q:f.heap.size<=l) (u:0<s.ds.length->f.heap.size<=db) (T:bC f Be Bd Bm G d.n d.k (λa=>a∈aE hs)) (x:bx f Ba p m Bd Be v0 A r) (hi:ip ⟨m,ds,hs⟩) (Q:aW m ds hs=some s) (M:Calm d) (y:(bi hs).length<=6000/\Kept d hs):be o N Ba Bd Be Bm ⟨m,ds,hs⟩ d G:=by
 have z1:=R.size;have z2:=D.size;have z3:=I.size;have z4:=z.size;have hf:∀ j,j<i.heap.size->¬ four N Ba Bd Bm j->o.heap[j]?=i.heap[j]?:=λj k g=>
  (z.block j (by omega) λe=>g (.inr (.inl e))).trans ((I.block j (by omega) (λe=>g (.inr (.inr (.inl e)))) λe=>g (.inr (.inr (.inr e)))).trans (D.block j k λe=>g (.inr (.inr (.inl (by injection e))))))
 obtain ⟨Z,l2,l3⟩:=h.eng.lt;obtain ⟨q1,q2,X,Y,C,P,B,q9,L⟩:=h;have l4:Ba<w.heap.size:=by
  obtain ⟨_,_,_,_,_,_,_,_,_,W,_⟩:=L;exact W.lt
 have K:∀ j,f.heap.size<=j->¬ four N Ba Bd Bm j:=λj k e=>by
  rcases e with e|e|e|e
  ·have:=B j e;omega
  all_goals omega
 exact ⟨hi,M,F,rj T z C x.notInt,C,P,λj k=>by have:=B j k;omega,y,p,b,c,v,l,db,H,J,s,V,U.le (bP (λj k g=>⟨g,hf j k g⟩) (by omega)),ro O F hf (by omega),Q,S,K l q,λh=>K db (u h)⟩
end
end Go.Proofs.YtjlblidnfebmiaaGreatDoor
namespace Go.Proofs
open Go.Shelf
def Tryz.idxH_ren:Go.Shelf.Ren:=⟨fun|6=>147|n=>n,fun|22=>43|23=>101|25=>198|3=>3|0=>0|4=>4|n=>n,fun|n=>n⟩
theorem Tryz.idxH:Go.Proofs.SlLaysH0.n6 Tryz.prog Tryz.idxH_ren:=by
 constructor
 case f6=>exact ⟨Tryz.f147.name,by decide,Tryz.func147.trans (congrArg some (by kernel_rfl))⟩
 all_goals intros;kernel_rfl
end Go.Proofs
namespace Go.Proofs.YtjlblidnfebmiaaGreatDoor
variable {W W':World} {b base cap g i k n:Nat} {hs:List ad} {l:List (ad × Value × Value)} {nm:ByteArray} {nms:List ByteArray}
structure HS where
 h:ad
 ca:Option Addr
 cn:Nat
 cc:Nat
 ga:Option Addr
 gn:Nat
 gc:Nat
instance:Inhabited HS:=⟨⟨af [] 0,none,0,0,none,0,0⟩⟩
def HS.tri (x:HS):ad × Value × Value:=(x.h,.slice x.ca x.cn x.cc,.slice x.ga x.gn x.gc)
def HS.cells (x:HS):List Value:=[.string x.h.pod.nm,.int .i64 x.h.pod.pr,.slice x.ca x.cn x.cc,.slice x.ga x.gn x.gc]
def dr (L:List HS) (k:Nat):HS:=L.getD k default
theorem uf {L:List HS} (h:k<L.length):dr L k=L[k]:=by simp [dr,h]
theorem TK (h:∀ x∈l,aZ W x.2.1 x.1.pod.cs/\cq W x.2.2 x.1.gs):∃ L:List HS,L.map HS.tri=l:=by
 induction l with
 | nil=>exact ⟨[],rfl⟩
 | cons x l ih=>
  obtain ⟨L,d⟩:=ih λy e=>h y (Qv _ e)
  obtain ⟨⟨c,c1,b,_⟩,a2,c2,a,_⟩:=h x List.mem_cons_self;refine ⟨⟨x.1,c,x.1.pod.cs.length,c1,a2,x.1.gs.length,c2⟩ :: L,?_⟩;rw [Qq,d]
  congr 1
  obtain ⟨g,i,f⟩:=x;dsimp only at b a;rw [b,a];rfl
def Has (cur:Array Value) (k:Nat) (x:HS):Prop:=cur[k*4]?=some (.string x.h.pod.nm)/\cur[k*4+1]?=some (.int .i64 x.h.pod.pr)/\cur[k*4+2]?=some (.slice x.ca x.cn x.cc)/\cur[k*4+3]?=some (.slice x.ga x.gn x.gc)
def df (W:World) (g cap:Nat) (R:Nat->HS->Prop):Prop:=∃ cur,W.heap[g]?=some (.cells cur 101 (0,0))/\cur.size=cap*4/\∀ k x,R k x->Has cur k x
theorem df.mono {R b:Nat->HS->Prop} (h:df W g cap R) (i:∀ k x,b k x->R k x):df W g cap b:=by
 obtain ⟨a,d,c,f⟩:=h;exact ⟨a,d,c,λk x e=>f k x (i k x e)⟩
theorem df.lt {R:Nat->HS->Prop} (h:df W g cap R):g<W.heap.size:=by
 obtain ⟨b,a,_⟩:=h;exact (gS a).1
theorem df.block {R:Nat->HS->Prop} (h:df W g cap R) (c:W'.heap[g]?=W.heap[g]?):df W' g cap R:=by
 obtain ⟨a,b,e,d⟩:=h;exact ⟨a,c.trans b,e,d⟩
theorem df.cells {R:Nat->HS->Prop} (h:df W g cap R) {x:HS} (l:R k x):W.cell? ⟨g,k*4,none⟩=some (.string x.h.pod.nm)/\W.cell? ⟨g,k*4+1,none⟩=some (.int .i64 x.h.pod.pr)/\W.cell? ⟨g,k*4+2,none⟩=some (.slice x.ca x.cn x.cc)/\W.cell? ⟨g,k*4+3,none⟩=some (.slice x.ga x.gn x.gc):=by
 obtain ⟨e,f,m,i⟩:=h;obtain ⟨a,b,c,d⟩:=i k x l;have cc:∀ j,W.cell? ⟨g,j,none⟩=e[j]?:=λj=>by simp [World.cell?,f]
 rw [cc,cc,cc,cc];exact ⟨a,b,c,d⟩
theorem df.frozen {R:Nat->HS->Prop} (h:df W g cap R) (j:Nat):W.frozen? ⟨g,j,none⟩=false:=by
 obtain ⟨b,a,_⟩:=h;exact bw a j
theorem df.there {R:Nat->HS->Prop} (h:df W g cap R) {j:Nat} (c:j<cap*4):(W.cell? ⟨g,j,none⟩).isSome=true:=by
 obtain ⟨a,b,d,_⟩:=h;have cc:W.cell? ⟨g,j,none⟩=a[j]?:=by simp [World.cell?,b]
 rw [cc,Array.getElem?_eq_getElem (by omega)];rfl
theorem df.set {R:Nat->HS->Prop} (h:df W g cap R) (hi:i<cap) (y:HS):df ((((W.setCell ⟨g,i*4,none⟩ (.string y.h.pod.nm)).setCell ⟨g,i*4+1,none⟩ (.int .i64 y.h.pod.pr)).setCell ⟨g,i*4+2,none⟩ (.slice y.ca y.cn y.cc)).setCell ⟨g,i*4+3,none⟩ (.slice y.ga y.gn y.gc)) g cap (λk x=>(k=i/\x=y)\/(k≠i/\R k x)):=by
 obtain ⟨l,f,e,j⟩:=h;refine ⟨_,aO (aO (aO (aO f (i*4) _) (i*4+1) _) (i*4+2) _) (i*4+3) _,by simp [e],?_⟩;rintro k x (⟨rfl,rfl⟩|⟨n,m⟩)
 ·unfold Has;simp only [Array.getElem?_setIfInBounds,Array.size_setIfInBounds];refine ⟨?_,?_,?_,?_⟩
  ·rw [if_neg (by omega),if_neg (by omega),if_neg (by omega),if_pos trivial,if_pos (by omega)]
  ·rw [if_neg (by omega),if_neg (by omega),if_pos trivial,if_pos (by omega)]
  ·rw [if_neg (by omega),if_pos trivial,if_pos (by omega)]
  ·rw [if_pos trivial,if_pos (by omega)]
 ·obtain ⟨a,b,c,d⟩:=j k x m;unfold Has;simp only [Array.getElem?_setIfInBounds];refine ⟨?_,?_,?_,?_⟩
  ·rw [if_neg (by omega),if_neg (by omega),if_neg (by omega),if_neg (by omega)];exact a
  ·rw [if_neg (by omega),if_neg (by omega),if_neg (by omega),if_neg (by omega)];exact b
  ·rw [if_neg (by omega),if_neg (by omega),if_neg (by omega),if_neg (by omega)];exact c
  ·rw [if_neg (by omega),if_neg (by omega),if_neg (by omega),if_neg (by omega)];exact d
theorem df.tail {R:Nat->HS->Prop} (m:∀ k x,R k x->k<i):∀ (vs:List Value) (o:Nat) (W:World),i*4<=o->df W g cap R->df (W.setCells g o vs) g cap R:=by
 intro vs
 induction vs with
 | nil=>intro o W _ h;exact h
 | cons v vs ih=>
  intro o W p h;rw [World.setCells];refine ih (o+1) _ (by omega) ?_;obtain ⟨n,l,f,j⟩:=h;refine ⟨_,aO l o v,by simp [f],λk x e=>?_⟩;obtain ⟨a,b,c,d⟩:=j k x e
  have:=m k x e
  unfold Has;simp only [Array.getElem?_setIfInBounds];refine ⟨?_,?_,?_,?_⟩
  ·rw [if_neg (by omega)];exact a
  ·rw [if_neg (by omega)];exact b
  ·rw [if_neg (by omega)];exact c
  ·rw [if_neg (by omega)];exact d
theorem EU (L:List HS) (k j:Nat) (b:k<L.length) (c:j<4):((L.map HS.tri).flatMap aN)[k*4+j]?=(HS.cells L[k])[j]?:=by
 induction L generalizing k with
 | nil=>simp at b
 | cons a l ih=>
  rw [Qq,List.flatMap_cons];cases k with
  | zero=>rw [List.getElem?_append_left (by simp [aN];omega)];simp [aN,HS.tri,HS.cells]
  | succ k=>
   rw [List.getElem?_append_right (by simp [aN];omega)]
   have:=ih k (by simpa using b)
   simp only [List.getElem_cons_succ];rw [<- this]
   congr 1
   simp [aN]
   omega
theorem EV (L:List HS):((L.map HS.tri).flatMap aN).length=L.length*4:=by
 induction L with
 | nil=>rfl
 | cons a l ih=>rw [Qq,List.flatMap_cons,Q2,ih,Qg];simp [aN];omega
theorem TL {L:List HS} (h:W.ownsRow base 101 4 (.slice (some ⟨g,0,none⟩) n cap) L.length ((L.map HS.tri).flatMap aN)):df W g cap (λk x=>k<L.length/\x=dr L k)/\base<=g/\L.length<=cap/\cap<=maxLen:=by
 rcases h.2 with ⟨b,_⟩|⟨r,d,a,b,i,m,f,l,o,p⟩
 ·cases b
 ·cases b;refine ⟨⟨a,m,o,?_⟩,i,f,l⟩;rintro k x ⟨c,rfl⟩;rw [uf c];have e:∀ j,j<4->a[k*4+j]?=(HS.cells L[k])[j]?:=λj q=>by
   rw [<- EU L k j c q,<- p,List.getElem?_take,if_pos (by omega),Array.getElem?_toList]
  exact ⟨e 0 (by decide),e 1 (by decide),e 2 (by decide),e 3 (by decide)⟩
theorem TM {L:List HS} (h:df W g cap (λk x=>k<L.length/\x=dr L k)) (m:base<=g) (s:L.length<=cap) (r:cap<=maxLen):W.ownsRow base 101 4 (.slice (some ⟨g,0,none⟩) L.length cap) L.length ((L.map HS.tri).flatMap aN):=by
 obtain ⟨f,t,j,p⟩:=h;refine ⟨EV L,.inr ⟨g,cap,f,rfl,m,t,s,r,j,?_⟩⟩;have Ha:f.toList.length=cap*4:=by simpa using j
 refine List.ext_getElem? λq=>?_
 rw [List.getElem?_take]
 by_cases l:q<L.length*4
 ·rw [if_pos l];have n:q=q / 4*4+q % 4:=by omega
  have i:q / 4<L.length:=by omega
  obtain ⟨a,b,c,d⟩:=p (q / 4) _ ⟨i,rfl⟩;rw [uf i] at a b c d;have o:q % 4<4:=Nat.mod_lt _ (by decide);rw [n,EU L (q / 4) (q % 4) i o,Array.getElem?_toList]
  have:q % 4=0\/q % 4=1\/q % 4=2\/q % 4=3:=by omega
  rcases this with e|e|e|e <;> rw [e]
  ·exact a
  ·exact b
  ·exact c
  ·exact d
 ·rw [if_neg l,List.getElem?_eq_none (by rw [EV];omega)]
def xY (nm:ByteArray):Obj:=.cells #[.string nm] 9
abbrev EW:=λ(x0:HS)=>(.cells #[.string x0.h.pod.nm,.int .i64 x0.h.pod.pr,.slice x0.ca x0.cn x0.cc,.slice x0.ga x0.gn x0.gc] 101:Obj)
theorem EX (x:HS) (nm:ByteArray) (a:Nat) (W:World) (b:W.heap[a]?=some (xY nm)):Calls prog 104 #[.agg #[.string x.h.pod.nm,.int .i64 x.h.pod.pr,.slice x.ca x.cn x.cc,.slice x.ga x.gn x.gc],.pointer (some ⟨a,0,none⟩)] W λe w'=>e=.returned (.bool (decide (x.h.pod.nm=nm)))/\Below W.heap.size W w':=by
 have b0:(W.alloc (.cells #[.string x.h.pod.nm,.int .i64 x.h.pod.pr,.slice x.ca x.cn x.cc,.slice x.ga x.gn x.gc] 101)).cell? ⟨a,0,none⟩=some (.string nm):=aa (b6 b _) 0;have Ha:a≠W.heap.size:=by have:=(gS b).1;omega
 have c:=qI ((Q0 W.heap.size W).alloc (lR) (.cells #[.string x.h.pod.nm,.int .i64 x.h.pod.pr,.slice x.ca x.cn x.cc,.slice x.ga x.gn x.gc] 101));have f:=sH x.h.pod.nm nm;clear b;generalize decide (x.h.pod.nm=nm)=d at *
 go_enter func104,ntmps104
 go_wp2
 go_ret;exact ⟨rfl,c.o⟩
theorem TN (p:HS->Bool):∀ (l:List HS) (i:Nat),(Lib.idxByFrom (λ_ y=>p y) default l i=-1/\∀ x∈l,p x=false)\/∃ k,k<l.length/\Lib.idxByFrom (λ_ y=>p y) default l i=((i+k:Nat):Int)/\p (dr l k)=true/\∀ x∈l.take k,p x=false:=by
 intro l
 induction l with
 | nil=>intro i;exact .inl ⟨rfl,λx a=>by cases a⟩
 | cons y r ih=>
  intro i;cases h:p y with
  | true=>exact .inr ⟨0,by simp,by simp [Lib.idxByFrom,h],by simpa [dr] using h,λx a=>by cases a⟩
  | false=>
   rcases ih (i+1) with ⟨e,b⟩|⟨k,d,e,c,b⟩
   ·exact .inl ⟨by simp [Lib.idxByFrom,h,e],λx a=>by rcases List.mem_cons.1 a with rfl|a;exact h;exact b x a⟩
   ·refine .inr ⟨k+1,by simpa using d,?_,by simpa [dr] using c,λx a=>?_⟩
    ·simp only [Lib.idxByFrom,h];rw [show (if false=true then (i:Int) else Lib.idxByFrom (λ_ y=>p y) default r (i+1))=Lib.idxByFrom (λ_ y=>p y) default r (i+1) from rfl,e]
     congr 1
     omega
    ·rw [List.take_succ_cons] at a
     rcases List.mem_cons.1 a with rfl|a
     ·exact h
     ·exact b x a
theorem TO (nm:ByteArray) (f g h:Nat) (L:List HS) (w:World) (n:w.heap[f]?=some (xY nm)) (o:df w g h (λk x=>k<L.length/\x=dr L k)) (s:L.length<=100) :
  Calls prog 147 #[.slice (some ⟨g,0,none⟩) L.length h,.func (.func 104) #[] #[.pointer (some ⟨f,0,none⟩)]] w λe w'=>e=.returned (.int .i64 (Lib.idxByFrom (λ_ y=>decide (y.h.pod.nm=nm)) default L 0))/\Below w.heap.size w w':=by
 have r:∀ args w,(callFunc 104 args).run prog w=.ok (.enter 104 args) w:=enters_of func104 (by kernel_rfl) rfl;have Hb:f<w.heap.size:=(gS n).1;have p:PredBelow prog 104 #[.pointer (some ⟨f,0,none⟩)] (λx:HS=>.agg (HS.cells x).toArray) (λy=>decide (y.h.pod.nm=nm)) w:=λW x l=>by
  refine (EX x nm f W ((l.block f Hb).trans n)).mono ?_;rintro e w' ⟨rfl,Hc⟩;exact ⟨rfl,l.trans (Hc.mono l.size)⟩
 have Ha:=AnyQ.slices_IndexFunc Tryz.idxH 4 isAgg101 sizeOf101 HS.cells (λ_=>rfl) (λy=>decide (y.h.pod.nm=nm)) 104 #[.pointer (some ⟨f,0,none⟩)] r g 0 L.length h L w p (lR) (by omega) o.lt (λj m i v hi=>by
  have e:L[j]! = dr L j:=by rw [getElem!_pos L j m,uf m]
  rw [e] at hi;obtain ⟨a,b,c,d⟩:=o.cells (k:=j) ⟨m,rfl⟩;rw [Qd]
  match i,hi with
  | 0,hi=>simp [HS.cells] at hi;subst hi;exact a
  | 1,hi=>simp [HS.cells] at hi;subst hi;exact b
  | 2,hi=>simp [HS.cells] at hi;subst hi;exact c
  | 3,hi=>simp [HS.cells] at hi;subst hi;exact d
  | q+4,hi=>simp [HS.cells] at hi)
 rw [Qh] at Ha;exact Ha
theorem TP (w:World):(zeroValue 101).run prog w=.ok (.agg #[.string ByteArray.empty,.int .i64 0,.slice none 0 0,.slice none 0 0]) w:=by kernel_rfl
theorem TQ (w:World) (b:TypeId) (g o n c:Nat) (i:0<n) (f:∀ j,j<n*4->(w.cell? ⟨g,o+j,none⟩).isSome=true) (hf:∀ j,w.frozen? ⟨g,j,none⟩=false) :
  ∃ vs:List Value,(Builtin.clear_ #[43] b #[.slice (some ⟨g,o,none⟩) n c]).run prog w=.ok (.tuple #[]) (w.setCells g o vs):=by
 have d:=TP w;have Hc:(Value.agg #[.string ByteArray.empty,.int .i64 0,.slice none 0 0,.slice none 0 0]).cells=#[.string ByteArray.empty,.int .i64 0,.slice none 0 0,.slice none 0 0]:=by rfl
 obtain ⟨vs,Ha⟩:∃ vs,vs=(Builtin.zeroCells (Value.agg #[.string ByteArray.empty,.int .i64 0,.slice none 0 0,.slice none 0 0]).cells n).toList:=⟨_,rfl⟩;have Hf:vs.length=n*4:=by rw [Ha,Hc];simp [Builtin.zeroCells]
 have Hb:∀ u∈vs,u.oneCell'=true:=λu a=>by
  rw [Ha,Hc] at a;simp only [Builtin.zeroCells,Array.toList_map,Qk] at a;obtain ⟨q,_,rfl⟩:=a;have h:q % 4<4:=Nat.mod_lt _ (by decide)
  have:q % 4=0\/q % 4=1\/q % 4=2\/q % 4=3:=by omega
  show (#[Value.string ByteArray.empty,.int .i64 0,.slice none 0 0,.slice none 0 0][q % 4]!).oneCell'=true
  rcases this with e|e|e|e <;> rw [e] <;> rfl
 have He:=run_storeCells_cells (P:=prog) g o vs 0 w (λj k=>by rw [Nat.add_zero];exact f j (by omega)) (λj _=>hf _) Hb;obtain ⟨m,rfl⟩:∃ m,n=m+1:=⟨n - 1,by omega⟩;simp only [Nat.add_zero] at He;refine ⟨vs,?_⟩
 simp [Builtin.clear_,run_underlying underlying43,d,<- Ha,He]
def kept (L:List HS) (nm:ByteArray):List HS:=L.filter λx=>!decide (x.h.pod.nm=nm)
theorem EY {L:List HS} (h:∀ x∈L,decide (x.h.pod.nm=nm)=false):kept L nm=L:=List.filter_eq_self.2 λx a=>by rw [h x a];rfl
theorem EZ {L:List HS} (a:b<L.length):kept (L.take (b+1)) nm=kept (L.take b) nm++(if decide ((dr L b).h.pod.nm=nm) then [] else [dr L b]):=by grind [uf,kept,dr,Qa]
theorem TR {A B:List HS} (h:k<A.length):dr (A++B) k=dr A k:=by simp [dr,List.getD,List.getElem?_append_left h]
theorem TS {A:List HS} {x:HS}:dr (A++[x]) A.length=x:=by simp [dr,List.getD]
theorem TT {L:List HS} (h:k<b):dr (L.take b) k=dr L k:=by simp [dr,List.getD,h]
theorem rr (g:Nat):∀ (vs:List Value) (o:Nat) (W:World),W.grownBy (W.setCells g o vs) (some g):=by
 intro vs
 induction vs with
 | nil=>intro o W;exact eU (Q0 _ _) _
 | cons v vs ih=>intro o W;exact (cK W ⟨g,o,none⟩ v).trans (ih (o+1) _)
theorem TU (nm:ByteArray) (h g c:Nat) (L:List HS) (w:World) (t:w.heap[h]?=some (xY nm)) (z:h≠g) (u:df w g c (λk x=>k<L.length/\x=dr L k)) (I:L.length<=c) (o:c<=maxLen) (K:L.length<=100) :
  Calls prog 103 #[.slice (some ⟨g,0,none⟩) L.length c,.func (.func 104) #[] #[.pointer (some ⟨h,0,none⟩)]] w λe w'=>e=.returned (.slice (some ⟨g,0,none⟩) (kept L nm).length c)/\df w' g c (λk x=>k<(kept L nm).length/\x=dr (kept L nm) k)/\w.grownBy w' (some g):=by
 have D:=qI (TO nm h g c L w t u K);have O:=qI t;have A:=qI u;have Ht:=u.lt;have F:h<w.heap.size:=(gS t).1;have eg:∀ args w,(callFunc 104 args).run prog w=.ok (.enter 104 args) w:=enters_of func104 (by kernel_rfl) rfl;have HG:c<=9223372036854775807:=by unfold maxLen at o;omega
 clear t u o
 go_enter func103,ntmps103
 go_wp2_with fail
 refine D.o.mono ?_;rintro e Y ⟨rfl,B⟩;have Ho:=qI B;clear B D
 rcases TN (λy=>decide (y.h.pod.nm=nm)) L 0 with ⟨e,C⟩|⟨r,J,e,He,Hi⟩
 ·rw [e];have v:=qI (EY C);clear e C
  go_wp2
  go_ret;rw [v.o];exact ⟨rfl,A.o.block (Ho.o.block g Ht),eU Ho.o _⟩
 ·rw [e,Qd];have v:Hu (kept (L.take (r+1)) nm=L.take r):=by
   unfold Hu;rw [EZ J,if_pos He,List.append_nil,EY Hi]
  have H:(((r:Nat):Int) == -1)=false:=by rw [Qr];omega
  clear e He Hi
  go_wp2_with fail
  clear H
  go_loopw [5,6] (λi j wr=>∃ a b:Nat,i=.int .i64 a/\j=.int .i64 b/\a<b/\b<=L.length/\a=(kept (L.take b) nm).length/\df wr g c (λk x=>(k<a/\x=dr (kept (L.take b) nm) k)\/(b<=k/\k<L.length/\x=dr L k))/\w.grownBy wr (some g)) (λ_ j _=>L.length - (intOf j).toNat)
  case atStart=>
   refine ⟨r,r+1,rfl,by go_num,by omega,by omega,by rw [v.o,Qu];omega,(A.o.block (Ho.o.block g Ht)).mono ?_,eU Ho.o _⟩;rintro k x (⟨f,d⟩|⟨f,d,n⟩)
   ·rw [v.o,TT f] at d;exact ⟨by omega,d⟩
   ·exact ⟨d,n⟩
  case round=>
   obtain ⟨a,b,rfl,rfl,U,W,Hw,Hf,Hm⟩:=hrel;have Hj:=qI Hw;have Hb:=qI Hf;have E:=qI Hm;have HT:=Hm.size;have Q:=qI ((Hm.block h F λe=>z (by injection e)).trans O.o);clear Hw Hf Hm
   by_cases p:b<L.length
   ·obtain ⟨c0,c1,c2,c3⟩:=Hb.o.cells (k:=b) (x:=dr L b) (.inr ⟨lR,p,rfl⟩);have Hl:=qI (EZ (nm:=nm) p);obtain ⟨x,s⟩:∃ x,x=dr L b:=⟨_,rfl⟩;rw [<- s] at c0 c1 c2 c3 Hl;have HN:=qI s;clear s;have Hq:=qI ((Q0 wr.heap.size wr).alloc (lR) (.cells #[.string x.h.pod.nm,.int .i64 x.h.pod.pr,.slice x.ca x.cn x.cc,.slice x.ga x.gn x.gc] 101));have Hg:=qI (aU wr (.cells #[.string x.h.pod.nm,.int .i64 x.h.pod.pr,.slice x.ca x.cn x.cc,.slice x.ga x.gn x.gc] 101) rfl);have Hx:Hu ((wr.alloc (.cells #[.string x.h.pod.nm,.int .i64 x.h.pod.pr,.slice x.ca x.cn x.cc,.slice x.ga x.gn x.gc] 101)).heap.size=wr.heap.size+1):=by unfold Hu;simp
    have N:(wr.alloc (.cells #[.string x.h.pod.nm,.int .i64 x.h.pod.pr,.slice x.ca x.cn x.cc,.slice x.ga x.gn x.gc] 101)).cell? ⟨wr.heap.size,0,none⟩=some (.string x.h.pod.nm):=aa Hg.o 0;have M:(wr.alloc (.cells #[.string x.h.pod.nm,.int .i64 x.h.pod.pr,.slice x.ca x.cn x.cc,.slice x.ga x.gn x.gc] 101)).cell? ⟨wr.heap.size,1,none⟩=some (.int .i64 x.h.pod.pr):=aa Hg.o 1;have G:(wr.alloc (.cells #[.string x.h.pod.nm,.int .i64 x.h.pod.pr,.slice x.ca x.cn x.cc,.slice x.ga x.gn x.gc] 101)).cell? ⟨wr.heap.size,2,none⟩=some (.slice x.ca x.cn x.cc):=aa Hg.o 2;have R:(wr.alloc (.cells #[.string x.h.pod.nm,.int .i64 x.h.pod.pr,.slice x.ca x.cn x.cc,.slice x.ga x.gn x.gc] 101)).cell? ⟨wr.heap.size,3,none⟩=some (.slice x.ga x.gn x.gc):=aa Hg.o 3
    go_wp2_with fail
    clear c0 c1 c2 c3 N M G R;generalize wr.alloc (.cells #[.string x.h.pod.nm,.int .i64 x.h.pod.pr,.slice x.ca x.cn x.cc,.slice x.ga x.gn x.gc] 101)=X at *;refine (EX x nm h X ((Hq.o.block h (by omega)).trans Q.o)).mono ?_;rintro e m ⟨rfl,Hp⟩;have Hy:=qI (Hq.o.trans (Hp.mono Hq.o.size));have Hn:=qI ((Hp.block wr.heap.size (by have:=Hx.o;omega)).trans Hg.o);have HO:wr.heap.size<m.heap.size:=by have:=Hp.size;have:=Hx.o;omega
    have Ha:=qI (Hb.o.block (Hy.o.block g (by omega)));have Hh:=qI (E.o.trans (eU Hy.o (some g)));clear Hp
    rcases two (decide (x.h.pod.nm=nm)) with q|q
    ·rw [q] at Hl ⊢;have Hc:Hu (kept (L.take (b+1)) nm=kept (L.take b) nm):=by unfold Hu;rw [Hl.o,if_pos rfl,List.append_nil]
     clear q
     go_wp2
     go_roundw
     case rel=>
      refine ⟨a,b+1,rfl,by go_num,by omega,by omega,by rw [Hc.o];exact Hj.o,Ha.o.mono ?_,Hh.o⟩;rintro k y (⟨f,d⟩|⟨f,d,n⟩)
      ·rw [Hc.o] at d;exact .inl ⟨f,d⟩
      ·exact .inr ⟨by omega,d,n⟩
     case measure=>simp [intOf];omega
    ·rw [q] at Hl ⊢;have Hc:Hu (kept (L.take (b+1)) nm=kept (L.take b) nm++[x]):=by unfold Hu;rw [Hl.o];rfl
     have z0:m.cell? ⟨wr.heap.size,0,none⟩=some (.string x.h.pod.nm):=aa Hn.o 0;have z1:m.cell? ⟨wr.heap.size,1,none⟩=some (.int .i64 x.h.pod.pr):=aa Hn.o 1;have z2:m.cell? ⟨wr.heap.size,2,none⟩=some (.slice x.ca x.cn x.cc):=aa Hn.o 2;have z3:m.cell? ⟨wr.heap.size,3,none⟩=some (.slice x.ga x.gn x.gc):=aa Hn.o 3;have f0:=Ha.o.frozen (a*4);have f1:=Ha.o.frozen (a*4+1);have f2:=Ha.o.frozen (a*4+2);have f3:=Ha.o.frozen (a*4+3);obtain ⟨o0,Z⟩:=Option.isSome_iff_exists.1 (Ha.o.there (j:=a*4) (by omega));obtain ⟨T,p1⟩:=Option.isSome_iff_exists.1 (Ha.o.there (j:=a*4+1) (by omega));obtain ⟨o2,S⟩:=Option.isSome_iff_exists.1 (Ha.o.there (j:=a*4+2) (by omega));obtain ⟨o3,V⟩:=Option.isSome_iff_exists.1 (Ha.o.there (j:=a*4+3) (by omega));have P:a<L.length:=by omega
     have Hk:=qI (Ha.o.set (i:=a) (by omega) x);have Hr:Hu (w.grownBy ((((m.setCell ⟨g,a*4,none⟩ (.string x.h.pod.nm)).setCell ⟨g,a*4+1,none⟩ (.int .i64 x.h.pod.pr)).setCell ⟨g,a*4+2,none⟩ (.slice x.ca x.cn x.cc)).setCell ⟨g,a*4+3,none⟩ (.slice x.ga x.gn x.gc)) (some g)):=(((Hh.o.trans (cK _ ⟨g,a*4,none⟩ _)).trans (cK _ ⟨g,a*4+1,none⟩ _)).trans (cK _ ⟨g,a*4+2,none⟩ _)).trans (cK _ ⟨g,a*4+3,none⟩ _);clear q
     go_wp2
     go_roundw
     case rel=>
      refine ⟨a+1,b+1,by go_num,by go_num,by omega,by omega,by rw [Hc.o,Q2,<- Hj.o];rfl,Hk.o.mono ?_,Hr.o⟩;rintro k y (⟨f,d⟩|⟨f,d,n⟩)
      ·rw [Hc.o] at d
       by_cases l:k=a
       ·refine .inl ⟨l,?_⟩;rw [d,l,Hj.o,TS]
       ·refine .inr ⟨l,.inl ⟨by omega,?_⟩⟩;rw [d,TR (by rw [<- Hj.o];omega)]
      ·exact .inr ⟨by omega,.inr ⟨by omega,d,n⟩⟩
     case measure=>simp [intOf];omega
   ·have Hz:b=L.length:=by omega
    have Hv:Hu (kept (L.take b) nm=kept L nm):=by unfold Hu;rw [Hz,Qh]
    obtain ⟨vs,HQ⟩:=TQ wr 0 g (a*4) (L.length - a) (c - a) (by omega) (λj hj=>Hb.o.there (by omega)) λj=>Hb.o.frozen j;have HU:¬ c=a:=by omega
    have P:a<L.length:=by omega
    clear Hz
    go_wp2
    go_ret;have Hs:a=(kept L nm).length:=by rw [<- Hv.o];exact Hj.o
    refine ⟨by rw [<- Hs];rfl,df.tail (i:=a) (λk x s=>by rw [Hs];exact s.1) vs (a*4) wr (lR) (Hb.o.mono ?_),E.o.trans (rr g vs (a*4) wr)⟩;rintro k x ⟨f,d⟩;rw [Hv.o,Hs];exact .inl ⟨f,d⟩
theorem TV (l:List Value) (o:Nat) (v:Value) (vs:List Value) (h:o<l.length):(l.set o v).take (o+1)++vs++(l.set o v).drop (o+1+vs.length)=l.take o++(v :: vs)++l.drop (o+(v :: vs).length):=by
 have b:(l.set o v).take (o+1)=l.take o++[v]:=by
  rw [Qa (by simpa using h),List.take_set_of_le (lR)]
  simp
 have a:(l.set o v).drop (o+1+vs.length)=l.drop (o+(v :: vs).length):=by
  rw [List.drop_set_of_lt (by omega)]
  congr 1
  simp only [Qg];omega
 rw [b,a]
 simp
theorem ug {t:TypeId}:∀ (vs:List Value) (o:Nat) (W:World) (a:Array Value),W.heap[g]?=some (.cells a t (0,0))->o+vs.length<=a.size->(W.setCells g o vs).heap[g]?=some (.cells (a.toList.take o++vs++a.toList.drop (o+vs.length)).toArray t (0,0)):=by
 intro vs
 induction vs with
 | nil=>intro o W a h _;rw [World.setCells,h];simp
 | cons v vs ih=>
  intro o W a h b;rw [Qg] at b;rw [World.setCells,ih (o+1) _ (a.setIfInBounds o v) (aO h o v) (by simp;omega)];rw [Array.toList_setIfInBounds,TV _ _ _ _ (by simp;omega)]
theorem TW (l:List (ad × Value × Value)) (i:Nat):(l.take i).flatMap aN=(l.flatMap aN).take (i*4):=by
 induction l generalizing i with
 | nil=>simp
 | cons x l ih=>
  cases i with
  | zero=>simp
  | succ i=>
   rw [List.take_succ_cons,List.flatMap_cons,List.flatMap_cons,ih i,List.take_append];have a:(aN x).length=4:=rfl;rw [List.take_of_length_le (l:=aN x) (by omega),a,show (i+1)*4 - 4=i*4 by omega]
theorem TX (l:List (ad × Value × Value)) (i:Nat):(l.drop i).flatMap aN=(l.flatMap aN).drop (i*4):=by
 induction l generalizing i with
 | nil=>simp
 | cons x l ih=>
  cases i with
  | zero=>simp
  | succ i=>
   rw [List.drop_succ_cons,List.flatMap_cons,ih i,List.drop_append];have a:(aN x).length=4:=rfl;rw [List.drop_eq_nil_of_le (show (aN x).length<=_ by omega),a,show (i+1)*4 - 4=i*4 by omega,List.nil_append]
theorem xZ (l:List (ad × Value × Value)):(l.flatMap aN).length=l.length*4:=by induction l <;> grind [aN]
theorem E4 (l:List (ad × Value × Value)) (i:Nat) (y:ad × Value × Value):(l.take i++y :: l.drop i).flatMap aN=(l.flatMap aN).take (i*4)++aN y++(l.flatMap aN).drop (i*4):=by grind [TW,TX]
theorem TY (A Z ys B : List Value) (k m : Nat) (hA : A.length = k * 4) (hy : ys.length = 4) (hB : B.length = m * 4) : let c1 := (A ++ Z).take (k * 4) ++ ys ++ (A ++ Z).drop (k * 4 + ys.length); (c1.take ((k + 1) * 4) ++ B ++ c1.drop ((k + 1) * 4 + B.length)) = A ++ ys ++ B ++ Z.drop ((m + 1) * 4) := by
  intro c1
  have e1 : c1 = A ++ ys ++ Z.drop 4 := by
    show (A ++ Z).take (k * 4) ++ ys ++ (A ++ Z).drop (k * 4 + ys.length) = _
    rw [hy, List.take_append_of_le_length (by omega), List.take_of_length_le (by omega), List.drop_append, List.drop_eq_nil_of_le (by omega), List.nil_append]
    congr 2
    omega
  have hl : (A ++ ys).length = (k + 1) * 4 := by rw [List.length_append]; omega
  rw [e1, List.take_append_of_le_length (by omega), List.take_of_length_le (by omega), List.drop_append, List.drop_eq_nil_of_le (by omega), List.nil_append, List.drop_drop]
  congr 2
  omega
theorem TZ (a R b:List Value) (i n:Nat) (g:a.length=n*4) (hi:i<n) (f:b.length=4):let c1:=(a++R).take ((i+1)*4)++a.drop (i*4)++(a++R).drop ((i+1)*4+(a.drop (i*4)).length);(c1.take (i*4)++b++c1.drop (i*4+b.length))=a.take (i*4)++b++a.drop (i*4)++R.drop 4:=by
 intro c1;have e:c1=a.take ((i+1)*4)++a.drop (i*4)++R.drop 4:=by
  show (a++R).take ((i+1)*4)++a.drop (i*4)++(a++R).drop ((i+1)*4+(a.drop (i*4)).length)=_
  have d:(a++R).drop ((i+1)*4+(a.length - i*4))=R.drop 4:=by
   rw [show (i+1)*4+(a.length - i*4)=a.length+4 by omega,List.drop_append,List.drop_eq_nil_of_le (show a.length<=_ by omega),List.nil_append]
   congr 1
   omega
  rw [List.length_drop,List.take_append_of_le_length (by omega),d]
 have c:(a.take ((i+1)*4)).length=(i+1)*4:=by rw [Qu];omega
 rw [e,List.append_assoc (a.take ((i+1)*4)),List.take_append_of_le_length (by omega),List.take_take,Nat.min_eq_left (by omega),List.drop_append,List.drop_eq_nil_of_le (by omega),List.nil_append,c,f,show i*4+4 - (i+1)*4=0 by omega,List.drop_zero,<- List.append_assoc]
theorem T0 (W:World) (o:Option Nat):W.grownBy W.drew o:=eU (show Below W.heap.size W W.drew from ⟨rfl,rfl,rfl,lR,λ_ _=>rfl⟩) o
theorem T1 (hi:i<=l.length) (C:l.length<=100):xX l i:=by
 by_cases H:i=l.length
 ·rw [H];exact ER C
 ·have Hm:i<l.length:=by omega
  intro base v y a w Hn D Hr L N ⟨t,B,Hc⟩ Ho;have Hb:=xZ l;have f:(aN y).length=4:=rfl
  rcases Hn.2 with ⟨_,T⟩|⟨g,n,d,F,M,Hf,R,Hs,Hx,Hv⟩
  ·omega
  ·subst F;obtain ⟨s,c,o⟩:=a;have Hy:w.cell? ((⟨s,c,o⟩:Addr).add 0)=some (.string y.1.pod.nm):=D 0 _ rfl;have Hh:o=none:=by simpa [Addr.add] using World.cell?_spot Hy
   subst Hh;have I:s≠g:=λe=>N (by rw [<- e];rfl)
   have Hq:∀ j u,(l.flatMap aN)[j]?=some u->w.cell? ⟨g,j,none⟩=some u:=λj u h=>by
    have E:j<l.length*4:=by
     have:=(List.getElem?_eq_some_iff.1 h).1
     omega
    rw [<- Hv,List.getElem?_take,if_pos E,Array.getElem?_toList] at h
    simp [World.cell?,Hf,h]
   have Hp:∀ j u,(aN y)[j]?=some u->w.cell? ⟨s,c+j,none⟩=some u:=λj u h=>by
    have:=D j u h
    rwa [Addr.add_lit] at this
   have Hu:∀ u∈l.flatMap aN,u.oneCell'=true:=λu A=>by
    obtain ⟨x,O,A⟩:=List.mem_flatMap.1 A;exact Ho x O u A
   have J:d.toList=l.flatMap aN++d.toList.drop (l.length*4):=by rw [<- Hv,List.take_append_drop]
   have U:d.toList.length=n*4:=by simpa using Hx
   by_cases m:l.length+1<=n
   ·refine (LT g l.length n i s c 1 (l.flatMap aN) (aN y) w Hm m (by unfold maxLen at Hs;omega) I Hb f Hq (λj h=>by
     have:j<d.size:=by omega
     simp [World.cell?,Hf,this]) (λj=>bw Hf j) Hp Hu Hr B 101 t.size d.size (by simp [World.shape?,Hc]) (by simp [World.shape?,Hf]) (by omega) (bw Hc c) (bw Hc t.size)).mono ?_
    rintro e w' ⟨rfl,rfl⟩;refine ⟨_,rfl,?_,((T0 w (some g)).trans (rr g _ _ _)).trans (rr g _ _ _)⟩;have z:=ug (l.flatMap aN |>.drop (i*4)) ((i+1)*4) w.drew d Hf (by rw [List.length_drop,Hb];omega);have S:(i+1)*4+((l.flatMap aN).drop (i*4)).length<=d.toList.length:=by rw [List.length_drop,Hb];omega
    have p:=ug (aN y) (i*4) _ _ z (by
     simp only [List.size_toArray,Q2,Qu,List.length_drop,Hb,f];omega)
    simp only at p;have Ha:=TZ (l.flatMap aN) (d.toList.drop (l.length*4)) (aN y) i l.length Hb Hm f;dsimp only at Ha;rw [<- J] at Ha;rw [Ha] at p;refine ⟨by rw [xZ];simp;omega,.inr ⟨g,n,_,rfl,M,p,m,Hs,?_,?_⟩⟩
    ·simp only [List.size_toArray,Q2,Qu,List.length_drop,Hb,f];omega
    ·rw [E4,List.toList_toArray,List.take_append_of_le_length (by simp only [Q2,Qu,List.length_drop,Hb,f];omega),List.take_of_length_le (by simp only [Q2,Qu,List.length_drop,Hb,f];omega)]
   ·refine (L1 g l.length n i s c 1 (l.flatMap aN) (aN y) w Hm R (by omega) C Hb f Hq Hp Hu Hr).mono ?_;rintro e w' ⟨G,K,P,rfl,rfl⟩;have Hj:∀ k,(Builtin.zeroCells fP.cells k).size=k*4:=λk=>by
     have Hj:fP.cells.size=4:=rfl;simp only [Builtin.zeroCells,Array.size_map,Array.size_range,Hj]
    obtain ⟨b,He⟩:∃ b,b=((l.flatMap aN).take (i*4)).toArray++Builtin.zeroCells fP.cells (l.length+1 - i)++Builtin.zeroCells fP.cells (G - (l.length+1)):=⟨_,rfl⟩;have Hi:((l.flatMap aN).take (i*4)).length=i*4:=by rw [Qu,Hb];omega
    have Hl:((l.flatMap aN).drop (i*4)).length=(l.length - i)*4:=by rw [List.length_drop,Hb];omega
    have Hz:b.size=G*4:=by
     rw [He];simp only [Array.size_append,List.size_toArray,Hi,Hj];omega
    have Hw:b.toList=(l.flatMap aN).take (i*4)++((Builtin.zeroCells fP.cells (l.length+1 - i)).toList++(Builtin.zeroCells fP.cells (G - (l.length+1))).toList):=by
     rw [He];simp
    rw [<- He];clear He;have Hg:(w.alloc (.cells b 101)).drew.heap[w.heap.size]?=some (.cells b 101 (0,0)):=aU w _ rfl;have z:=ug (aN y) (i*4) _ b Hg (by rw [f];omega);obtain ⟨q,Hk⟩:∃ q,q=((w.alloc (.cells b 101)).drew.setCells w.heap.size (i*4) (aN y)).drew:=⟨_,rfl⟩;have r:q.heap[w.heap.size]?=some (.cells (b.toList.take (i*4)++aN y++b.toList.drop (i*4+(aN y).length)).toArray 101 (0,0)):=by rw [Hk];exact z
    have p:=ug ((l.flatMap aN).drop (i*4)) ((i+1)*4) q _ r (by
     have:b.toList.length=G*4:=by simpa using Hz
     simp only [List.size_toArray,Q2,Qu,List.length_drop,Hb,f,this];omega)
    have Ht:Below w.heap.size w q:=by
     rw [Hk];have b1:Below w.heap.size w (w.alloc (.cells b 101)).drew:=bF ((Q0 w.heap.size w).alloc (lR) _);exact bF (b1.grown (rr w.heap.size _ _ _) b1.size (λj h=>by injection h with h;omega))
    have Q:Below w.heap.size w (q.setCells w.heap.size ((i+1)*4) ((l.flatMap aN).drop (i*4))):=Ht.grown (rr w.heap.size _ _ _) Ht.size (λj h=>by injection h with h;omega);rw [<- Hk];clear Hk z r;simp only at p;have Ha:=TY ((l.flatMap aN).take (i*4)) ((Builtin.zeroCells fP.cells (l.length+1 - i)).toList++(Builtin.zeroCells fP.cells (G - (l.length+1))).toList) (aN y) ((l.flatMap aN).drop (i*4)) i (l.length - i) Hi f Hl;dsimp only at Ha;rw [<- Hw] at Ha;rw [Ha] at p;refine ⟨_,rfl,⟨by rw [xZ];simp;omega,.inr ⟨w.heap.size,G,_,rfl,L,p,K,P,?_,?_⟩⟩,eU Q _⟩
    ·simp only [List.size_toArray,Q2,Hi,Hl,f,List.length_drop,Array.length_toList,Hj];omega
    ·rw [E4,List.toList_toArray,List.take_append_of_le_length (by simp only [Q2,Hi,Hl,f];omega),List.take_of_length_le (by simp only [Q2,Hi,Hl,f];omega)]
theorem T2 {K:Nat->Prop} (h:cD W) (b:Apart K W W') (c:¬ K 1):cD W':=by
 refine ⟨?_,Q1 h.2 b.size⟩;have a:=h.1;unfold jR Lib.TabIs World.var? at a ⊢;simp only [sX,Option.bind_some] at a ⊢;rw [b.block _ h.2 c];exact a
theorem T3 (L:List HS) (nm:ByteArray):(kept L nm).map HS.h=iN (L.map HS.h) nm:=by induction L <;> grind [kept,iN]
theorem uh {rs ws:List Rn} (h:∀ a∈ws,a∈rs):dN rs ws=0:=by simp_all [dN]
theorem x9 {b:List ad} (h:b.Sublist hs):∀ a∈aE b,a∈aE hs:=by
 intro a d;obtain ⟨x,c,e⟩:=List.mem_flatMap.1 d;exact List.mem_flatMap.2 ⟨x,h.subset c,e⟩
def dA (hs:List ad) (nms:List ByteArray):List ad:=nms.foldl iN hs
def eK (L:List HS) (nms:List ByteArray):List HS:=nms.foldl kept L
theorem T4 (a:k<nms.length):dA hs (nms.take (k+1))=iN (dA hs (nms.take k)) nms[k]:=by
 unfold dA;rw [Qa a,List.foldl_append];rfl
theorem T5 {L:List HS} (a:k<nms.length):eK L (nms.take (k+1))=kept (eK L (nms.take k)) nms[k]:=by
 unfold eK;rw [Qa a,List.foldl_append];rfl
theorem rt (hs:List ad) (b:List ByteArray):(dA hs b).Sublist hs:=by
 unfold dA
 induction b generalizing hs with
 | nil=>exact List.Sublist.refl _
 | cons a l ih=>exact (ih _).trans (BL hs a)
theorem ui (L:List HS) (b:List ByteArray):(eK L b).Sublist L:=by
 unfold eK
 induction b generalizing L with
 | nil=>exact List.Sublist.refl _
 | cons a l ih=>exact (ih _).trans List.filter_sublist
theorem E5 (L:List HS) (a:List ByteArray):(eK L a).map HS.h=dA (L.map HS.h) a:=by induction a generalizing L <;> grind [eK,dA,T3]
theorem T6 {t:bU} (h:ip t) (a:List ByteArray):ip ⟨t.m,t.ds,dA t.hs a⟩:=by
 obtain ⟨s,hs⟩:=h.left;exact ⟨h.devs,wy h.held (rt t.hs a),Mg hs (rt t.hs a)⟩
theorem E6 {M:Nat->Prop} {w:World} {L:List HS} (h:df W g cap (λk x=>k<L.length/\x=dr L k)) (i:∀ j,M j->j<w.heap.size) (d:w.heap.size<=g) (m:L.length<=cap) (f:cap<=maxLen) (old:∀ x∈L,aZ (av M w) (.slice x.ca x.cn x.cc) x.h.pod.cs/\cq (av M w) (.slice x.ga x.gn x.gc) x.h.gs) (b:Apart M w W):aX (av M W) (.slice (some ⟨g,0,none⟩) L.length cap) (L.map HS.h):=by
 have hle:aM (av M w) (av M W):=bP (λj n c=>⟨c,b.block j n c⟩) b.size;have Ha:=TM h d m f
 have:=ES (N:=w.heap.size) (l:=L.map HS.tri) (M:=M) (by rw [Q9];exact Ha) i λx e=>by
  obtain ⟨y,a,rfl⟩:=Qk.1 e;exact ⟨(old y a).1.le hle,(old y a).2.le hle⟩
 rw [List.map_map] at this;exact this
theorem T7 {c b a:Nat} {f d:Sd} {C:Rn->Prop} (h:bC W c b a n f d C) {R:Nat->HS->Prop} (p:df W g cap R) (i:W.grownBy W' (some g)) (k:g≠b/\g≠a/\g≠c):bC W' c b a n f d C:=
 rj h (fp i (λj e _=>by injection e with e;exact e.symm)) k λm z e=>by
  obtain ⟨o,l,_⟩:=p;rw [l] at e;cases e
section
variable {N:Nat->Prop} {Ba Bd Be Bm:Nat} {t:bU} {dk:Dk} {n:Nat} {p:az}
theorem be.then {w f k:World} {m:aF} {ds:List ah} {hs:List ad} {d:Dk} {D l b c g db:Nat} {v v0:Value} {E:Option Addr} {F z q:Nat} {s:aB} (h:be w N Ba Bd Be Bm t dk n) (W:w.heap.size<=f.heap.size) (J:dU (av (four N Ba Bd Bm) f) l b 0 c m) (C:0<m.l.length) (P:aX (av (four N Ba Bd Bm) f) v hs) (y:Apart (λj=>j=Ba) f k) (Q:bx k Ba l m Bd Be v s.cp g) (O:ee k g db E F s) (p:f.heap.size<=g) (r:0<s.ds.length->f.heap.size<=db) (M:bC f Be Bd Bm D d.n d.k (λa=>a∈aE hs)) (u:bx f Ba l m Bd Be v0 z q) (hi:ip ⟨m,ds,hs⟩) (L:aW m ds hs=some s) (I:Calm d) (x:(bi hs).length<=6000/\Kept d hs):be k N Ba Bd Be Bm ⟨m,ds,hs⟩ d D:=by
 have z4:=y.size;have hf:∀ j,j<f.heap.size->¬ four N Ba Bd Bm j->k.heap[j]?=f.heap[j]?:=λj i o=>y.block j (by omega) λe=>o (.inr (.inl e))
 obtain ⟨U,l2,X⟩:=h.eng.lt;obtain ⟨V,Y,S,T,B,K,A,Z,H⟩:=h;have l4:Ba<w.heap.size:=by
  obtain ⟨_,_,_,_,_,_,_,_,_,R,_⟩:=H;exact R.lt
 have G:∀ j,f.heap.size<=j->¬ four N Ba Bd Bm j:=λj i e=>by
  rcases e with e|e|e|e
  ·have:=A j e;omega
  all_goals omega
 exact ⟨hi,I,C,rj M y B u.notInt,B,K,λj i=>by have:=A j i;omega,x,l,b,c,v,g,db,E,F,s,Q,P.le (bP (λj i o=>⟨o,hf j i o⟩) (by omega)),ro J C hf (by omega),L,O,G g p,λh=>G db (r h)⟩
end
theorem T8 (N:Nat->Prop) (f d r h:Nat) (t:bU) (q:Dk) (n:Nat) (c:List ByteArray) (nb no nc:Nat) (w:World) (hM:be w N f d r h t q n) (v:∀ k (hk:k<c.length),w.cell? ⟨nb,no+k,none⟩=some (.string c[k])) (G:nb≠d/\nb≠h) (H:nb<w.heap.size) (j1:c.length<=100) (z:0<t.hs.length) (o:n+36<=1000) (ht:∀ W,Apart (three f d h) w W->cD W) :
  Calls prog 59 #[.pointer (some ⟨f,0,none⟩),.slice (some ⟨nb,no,none⟩) c.length nc] w λe w'=>e=.returned .nilIface/\(∃ j0 y,(y<=n/\jz w w' f)/\be w' N f d r h ⟨t.m,t.ds,dA t.hs c⟩ j0 y)/\Apart (three f d h) w w':=by
 have Jd:=qI hM;obtain ⟨O,Ho,Hx,C,hZ,Jc,hq,he,Y,b,tc,hv,I,db,ao,pc,s,T,k2,k3,k4,k5,k6,k7⟩:=hM;obtain ⟨a1,a2,a3⟩:=cL.1 O.held;have HW:=qI O;have HR:=qI O.held;have Hf:=qI Ho;have HA:=qI Hx;have HE:=qI C;have h8:=qI he;obtain ⟨j5,j6,j2⟩:=C.lt;obtain ⟨In,Za,Ix⟩:=C.apart;obtain ⟨D,Q,j3⟩:=hZ;have hh:=T.lt;obtain ⟨K,J,h9,hS,hR⟩:=id k2;subst h9;have hB:=qI T;have h5:=qI k2;have hU:=qI k3;have H5:=qI k4;have HK:=qI k5;have H9:=qI k6;have hm:=qI k7;have HT:=qI ht;have hY:=qI v;have hl:=qI G;have hC:Hu (∀ j,four N f d h j->j<w.heap.size):=λj p=>by
  rcases p with e|e|e|e
  ·exact hq j e
  all_goals omega
 have x7:w.cell? ⟨f,7,none⟩=some (.slice K t.hs.length J):=aa T 7;have hX:=k3.op;have HX:Hu (eT t.ds):=kg O.devs;clear O Ho Hx C Jc hq he T k2 k3 k4 k5 k6 k7 a2 a3 hS hR ht v G
 go_enter func59,ntmps59
 go_wp2_with fail
 clear x7;refine (Dy (.slice K t.hs.length J) t.hs w (av (four N f d h) w) h5.o (dm _ _) (by omega)).mono ?_;rintro e C1 ⟨u,Jx,Z,rfl,Hw,hG,hb⟩;obtain ⟨l,H6,V,HG⟩:=ET Hw hG;obtain ⟨L,F⟩:=TK HG;have Hr:Hu (L.map HS.h=t.hs):=by
  unfold Hu;rw [<- H6,<- F,List.map_map];rfl
 have Hz:Hu (∀ x∈L,aZ (av (four N f d h) w) (.slice x.ca x.cn x.cc) x.h.pod.cs/\cq (av (four N f d h) w) (.slice x.ga x.gn x.gc) x.h.gs):=λx P=>HG x.tri (by rw [<- F];exact Qk.2 ⟨x,P,rfl⟩)
 have Jh:0<L.length/\L.length<=12:=by rw [<- Hr.o,Q9] at z a1;exact ⟨z,a1⟩
 obtain ⟨g,m,hu⟩:∃ g m,u=.slice (some ⟨g,0,none⟩) L.length m:=by
  rcases V.2 with ⟨_,hz⟩|⟨g,m,j4,Jb,_⟩
  ·exfalso;rw [<- F,Q9] at hz;omega
  ·exact ⟨g,m,by rw [Jb,<- F,Q9]⟩
 subst hu;rw [<- F,Q9] at V;obtain ⟨Hi,hF,Jl,hi⟩:=TL V;have Hl:=qI Hi;have HZ:=qI hi;have Hy:Hu (Apart (gD d h) w C1):=Apart.of_below hb;have hp:Hu (bC C1 r d h n q.n q.k λa=>a∈aE t.hs):=HE.o.below hb;clear Hw hG hb H6 V HG F Hi hi Jx Z l
 go_wp2
 go_loopw [5,17] (λnx i wr=>∃ k:Nat,k<=c.length/\i=.int .i64 k/\nx=.slice (some ⟨g,0,none⟩) (eK L (c.take k)).length m/\df wr g m (λj x=>j<(eK L (c.take k)).length/\x=dr (eK L (c.take k)) j)/\(∃ y,y<=n/\bC wr r d h y q.n q.k (λa=>a∈aE (dA t.hs (c.take k))))/\Apart (gD d h) w wr) (λ_ i _=>c.length - (intOf i).toNat)
 case atStart=>exact ⟨0,Nat.zero_le _,rfl,rfl,Hl.o,⟨n,lR,hp.o⟩,Hy.o⟩
 case round=>
  obtain ⟨k,hk,rfl,rfl,Hi,⟨y,hK,C⟩,H0⟩:=hrel;have Hh:=qI Hi;have U:=qI C;have Hb:=qI H0;have Jf:=H0.size;have Hm:=qI (ui L (c.take k));have hT:(eK L (c.take k)).length<=L.length:=(ui L (c.take k)).length_le;have hy:Hu ((eK L (c.take k)).map HS.h=dA t.hs (c.take k)):=by unfold Hu;rw [E5,Hr.o]
  clear Hi C H0 hp Hy Hl
  by_cases B:k<c.length
  ·have c0:wr.cell? ⟨nb,no+k,none⟩=some (.string c[k]):=by
    rw [<- hY.o k B];unfold World.cell?
    rw [Hb.o.block nb H λe=>e.elim hl.o.1 hl.o.2]
   have hg:=qI (T5 (L:=L) B);have hJ:=qI (T4 (hs:=t.hs) B);obtain ⟨nm,v⟩:∃ nm,nm=c[k]:=⟨_,rfl⟩;rw [<- v] at c0 hg hJ;clear v;have Hn:=qI ((Q0 wr.heap.size wr).alloc (lR) (.cells #[.string nm] 9));have h7:=qI (aU wr (.cells #[.string nm] 9) rfl);have H3:g<wr.heap.size:=Hh.o.lt;have hP:Hu ((eK L (c.take (k+1))).length<=L.length):=(ui L (c.take (k+1))).length_le
   go_wp2_with fail
   clear c0;generalize wr.alloc (.cells #[.string nm] 9)=X at *;refine (TU nm wr.heap.size g m (eK L (c.take k)) X h7.o (by omega) (Hh.o.block (Hn.o.block g H3)) (by omega) HZ.o (by omega)).mono ?_;rintro e R ⟨rfl,Hg,Hc⟩;rw [<- hg.o] at Hg ⊢;have Ht:=qI Hg;have Jk:=Hc.size;have Ji:=Hn.o.size;have Ha:Hu (Apart (gD d h) w R):=⟨Hc.os.trans (Hn.o.os.trans Hb.o.os),Hc.tape.trans (Hn.o.tape.trans Hb.o.tape),Hc.output.trans (Hn.o.output.trans Hb.o.output),by omega,λj p o=>(Hc.block j (by omega) (λe=>by injection e with e;omega)).trans ((Hn.o.block j (by omega)).trans (Hb.o.block j p o))⟩;have hO:Hu (bC R r d h y q.n q.k λa=>a∈aE (dA t.hs (c.take k))):=T7 (U.o.below Hn.o) (Hh.o.block (Hn.o.block g H3)) Hc ⟨by omega,by omega,by omega⟩;have x6:R.cell? ⟨f,6,none⟩=some (.pointer (some ⟨r,0,none⟩)):=aa ((Ha.o.block f hh λe=>e.elim D Q).trans hB.o) 6;have HJ:Hu ((eK L (c.take (k+1))).map HS.h=dA t.hs (c.take (k+1))):=by unfold Hu;rw [E5,Hr.o]
   have hV:Hu (aX (av (gD d h) R) (.slice (some ⟨g,0,none⟩) (eK L (c.take (k+1))).length m) (dA t.hs (c.take (k+1)))):=by
    have:=E6 (M:=four N f d h) (w:=w) Hg hC.o hF (by have:=hP.o;omega) HZ.o (λx P=>Hz.o x ((ui L (c.take (k+1))).subset P)) ⟨Ha.o.os,Ha.o.tape,Ha.o.output,Ha.o.size,λj p o=>Ha.o.block j p λe=>o (.inr (.inr e))⟩
    rw [HJ.o] at this;exact this.le (bP (λj p o=>⟨λe=>o (.inr (.inr e)),rfl⟩) (lR))
   have H8:=qI (tM r d h y q.n q.k (aE (dA t.hs (c.take k))) _ _ R hO.o hV.o (wy HR.o (rt _ _)) (by omega));clear Hg Hc
   go_wp2_with fail
   refine H8.o.mono ?_;rintro e W3 ⟨rfl,⟨n2,H7,hf⟩,hD⟩;have hW:=qI hf;have Hs:=qI hD;have Ja:Hu (n2<=n):=by
    unfold Hu;rw [uh (x9 (by rw [hJ.o];exact BL _ _))] at H7;omega
   clear hf hD H7 x6 H8
   go_wp2
   go_roundw
   case rel=>exact ⟨k+1,by omega,by go_num,rfl,Ht.o.block (Hs.o.block g (by omega) (by omega) (by omega)),⟨n2,Ja.o,hW.o⟩,⟨Hs.o.os.trans Ha.o.os,Hs.o.tape.trans Ha.o.tape,Hs.o.output.trans Ha.o.output,by have:=Hs.o.size;have:=Ha.o.size;omega,λj p o=>(Hs.o.block j (by omega) (λe=>o (.inl e)) λe=>o (.inr e)).trans (Ha.o.block j p o)⟩⟩
   case measure=>simp [intOf];omega
  ·have hI:c.take k=c:=List.take_of_length_le (by omega);rw [hI] at Hh U Hm hT hy ⊢;clear hI;have HD:Hu (aX (av (four N f d h) wr) (.slice (some ⟨g,0,none⟩) (eK L c).length m) (dA t.hs c)):=by
    have:=E6 (M:=four N f d h) (w:=w) Hh.o hC.o hF (by omega) HZ.o (λx P=>Hz.o x (Hm.o.subset P)) ⟨Hb.o.os,Hb.o.tape,Hb.o.output,Hb.o.size,λj p o=>Hb.o.block j p λe=>o (.inr (.inr e))⟩
    rw [hy.o] at this;exact this
   have S:=qI (wy HR.o (rt t.hs c));have H1:=qI (MO (rt t.hs c) (MP HR.o) h8.o.1);have HN:=qI (py Hf.o S.o);have hr:Hu (bx wr f Y t.m d r (.slice K t.hs.length J) s.cp I):=(Hb.o.block f hh λe=>e.elim D Q).trans hB.o;have x5:wr.cell? ⟨f,5,none⟩=some (.pointer (some ⟨d,0,none⟩)):=aa hr.o 5;have Hj:Hu (Apart (three f d h) w wr):=⟨Hb.o.os,Hb.o.tape,Hb.o.output,Hb.o.size,λj p o=>Hb.o.block j p λe=>o (.inr e)⟩;have h2:Hu (bj wr d q):=mK U.o.disk Hf.o;have ho:=qI (xD d q _ (dA t.hs c) wr h2.o (.inl Hf.o.2.2) (HD.o.le (dm _ _)) (HT.o _ Hj.o));rw [HN.o.1 H1.o,show aL (((0:Nat)):Int)=.nilIface from rfl] at ho
   go_wp2_with fail
   refine ho.o.mono ?_;rintro e A ⟨rfl,HY,Hq⟩;have Jj:=qI HY;have HL:=qI Hq;have Jg:=Hq.size;have h6:Hu (bC A r d h y (q.save (dA t.hs c)).2.n (q.save (dA t.hs c)).2.k λa=>a∈aE (dA t.hs c)):=rm U.o Hq HY HN.o.2.2;have hH:Hu (bx A f Y t.m d r (.slice K t.hs.length J) s.cp I):=(Hq.block f (by omega) λe=>D (by injection e)).trans hr.o;have Hp:Hu (∀ j,j<w.heap.size->¬ four N f d h j->A.heap[j]?=w.heap[j]?):=λj p o=>(Hq.block j (by omega) λe=>o (.inr (.inr (.inl (by injection e))))).trans (Hb.o.block j p λe=>o (.inr (.inr e)))
   have HM:=HK.o.pool.lt;have HU:Hu (aJ A I db ao pc t.ds s.us):=by
    have:=mS HK.o.pool (Hp.o I HM H9.o) (λz=>Hp.o db (HK.o.pool.at0 z).2.2 (hm.o z)) (by omega)
    rw [lr H5.o] at this;exact this
   have hw:Hu (aX (av (four N f d h) A) (.slice (some ⟨g,0,none⟩) (eK L c).length m) (dA t.hs c)):=HD.o.le (bP (λj p o=>⟨o,Hq.block j p λe=>o (.inr (.inr (.inl (by injection e))))⟩) (by omega));have HO:Hu (aX (av (λj=>j=f) A) (.slice (some ⟨g,0,none⟩) (eK L c).length m) (dA t.hs c)):=hw.o.le (bP (λj p o=>⟨λe=>o (.inr (.inl e)),rfl⟩) (lR));have hN:Hu (dU (av (four N f d h) A) Y b 0 tc t.m):=ro hU.o HA.o Hp.o (by omega);have H4:=qI (T6 HW.o c);obtain ⟨s',HQ⟩:=H4.o.left;have Je:=qI HQ;have Hv:kM (dA t.hs c):=(cL.1 S.o).2.1;have Hk:(dA t.hs c).length<=100:=by have:=(cL.1 S.o).1;omega
   have h3:=qI (tR f Y t.m d r (.slice K t.hs.length J) s.cp I db ao pc t.ds s.us (.slice (some ⟨g,0,none⟩) (eK L c).length m) (dA t.hs c) s' A hH.o ⟨_,_,_,rfl⟩ HU.o (λe=>H9.o (.inr (.inl e))) (λz e=>hm.o (by rw [lr H5.o];exact z) (.inr (.inl e))) HX.o HO.o hX Hv Hk HQ);clear HY Hq HQ Hv Hk x5
   go_wp2_with fail
   refine h3.o.mono ?_;rintro e E ⟨rfl,⟨Zd,Zc,Zb,c2,HP,H2,hA,HH⟩,He⟩;have HI:Hu (be E N f d r h ⟨t.m,t.ds,dA t.hs c⟩ (q.save (dA t.hs c)).2 y):=Jd.o.then (by omega) hN.o HA.o hw.o He HP H2 hA HH h6.o hH.o H4.o Je.o HN.o.2.2 ⟨H1.o,xF Hf.o HD.o.cps S.o H1.o⟩
   have HV:Hu (Apart (three f d h) w E):=(Hj.o.trans (fp HL.o λj e _=>.inr (.inl (by injection e with e;exact e.symm)))).trans ⟨He.os,He.tape,He.output,He.size,λj p o=>He.block j p λe=>o (.inl e)⟩;have h4:Hu (jz w E f):=.inr (xO HP H2 (by have:=(Hj.o.trans (fp HL.o λj e _=>.inr (.inl (by injection e with e;exact e.symm)))).size;omega) (λz=>by have:=(Hj.o.trans (fp HL.o λj e _=>.inr (.inl (by injection e with e;exact e.symm)))).size;have:=HH z;omega));clear HP H2 hA HH He
   go_wp2
   go_ret;exact ⟨rfl,⟨_,y,⟨hK,h4.o⟩,HI.o⟩,HV.o⟩
theorem E7 (h:dH hs nm=false):iN hs nm=hs:=by grind [iN,rk,List.filter_eq_self]
theorem T9 (N:Nat->Prop) (a g l f:Nat) (t:bU) (o:Dk) (n:Nat) (nm:ByteArray) (w:World) (u:be w N a g l f t o n) (S:n+36<=1000) (z:∀ W,Apart (three a g f) w W->cD W) :
  Calls prog 23 #[.pointer (some ⟨a,0,none⟩),.string nm] w λe w'=>e=.returned (aL ((if dH t.hs nm then 0 else 6:Nat):Int))/\(∃ d i,(i<=n/\jz w w' a)/\be w' N a g l f ⟨t.m,t.ds,iN t.hs nm⟩ d i)/\Apart (three a g f) w w':=by
 obtain ⟨j,Hi⟩:∃ j:Nat,j=if dH t.hs nm then 0 else 6:=⟨_,rfl⟩
 rw [<- Hi];have Hk:=qI Hi;clear Hi;have He:=qI u;have U:=qI z;obtain ⟨v,Hb,Hh,q,Ho,Hq,Hp,Hs,tb,b,tc,V,pb,db,Z,pc,s,r,p,F,K,M,Q,E⟩:=u;obtain ⟨a1,a2,a3⟩:=cL.1 v.held;obtain ⟨I,T,D⟩:=q.lt;obtain ⟨B,y,Hw,Hx,Hr⟩:=id p;subst Hw;have R:w.cell? ⟨a,7,none⟩=some (.slice B t.hs.length y):=aa r 7;have Hm:=qI (D1 (.slice B t.hs.length y) t.hs nm w (p.le (dm _ _)) (by omega) a3);clear v Hb Hh q Ho Hq Hp Hs r p F K M Q E a2 a3 Hx Hr z
 go_enter func23,ntmps23
 go_wp2_with fail
 refine Hm.o.mono ?_;rintro e h ⟨rfl,Hf⟩;have Ha:=qI Hf;have Hz:=Hf.size;clear Hf R
 rcases two (dH t.hs nm) with c|c
 ·have m:=qI c;rw [c];have Hg:0<t.hs.length:=by
   obtain ⟨x,O,_⟩:=rk.1 c;exact List.length_pos_of_mem O
  clear c;have Hc:=qI (Ha.o.alloc Ha.o.size (.cells #[.string nm] 9));have Hv:=qI (aU h (.cells #[.string nm] 9) rfl);have Y:(h.alloc (.cells #[.string nm] 9)).heap.size=h.heap.size+1:=by simp
  go_wp2_with fail
  generalize h.alloc (.cells #[.string nm] 9)=X at *;refine (T8 N a g l f t o n [nm] h.heap.size 0 1 X (He.o.keep Hc.o) (λk A=>by
   have Ht:k=0:=by simp at A;exact A
   subst Ht;exact aa Hv.o 0) ⟨by omega,by omega⟩ (by omega) (by simp) Hg S λW H=>U.o W ((Apart.of_below Hc.o).trans H)).mono ?_
  rintro e C ⟨rfl,Hj,Hl⟩;have Hy:Hu (∃ d i,(i<=n/\jz w C a)/\be C N a g l f ⟨t.m,t.ds,iN t.hs nm⟩ d i):=by
   obtain ⟨P,n2,⟨L,G⟩,J⟩:=Hj;exact ⟨P,n2,⟨L,G.old Hc.o He.o.poolAt.1⟩,J⟩
  have Hn:=qI Hl;clear Hj Hl
  go_wp2
  go_ret;exact ⟨by rw [show j=0 by rw [Hk.o,m.o];rfl];rfl,Hy.o,(Apart.of_below Hc.o).trans Hn.o⟩
 ·have m:=qI c;rw [c];clear c
  go_wp2
  go_ret;exact ⟨by rw [show j=6 by rw [Hk.o,m.o];rfl];rfl,by rw [E7 m.o];exact ⟨o,n,⟨lR,.inl (Ha.o.block a He.o.poolAt.1)⟩,He.o.keep Ha.o⟩,Apart.of_below Ha.o⟩
