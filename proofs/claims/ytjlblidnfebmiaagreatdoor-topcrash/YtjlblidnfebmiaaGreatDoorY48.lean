import Derived.Test.YtjlblidnfebmiaaGreatDoorY46
import Derived.Test.YtjlblidnfebmiaaGreatDoorY32
import Derived.Test.YtjlblidnfebmiaaGreatDoorY44
set_option maxRecDepth 100000
set_option maxHeartbeats 16000000
open Go Go.RowKit Go.Shelf
attribute [local go_sem] Oper.semAt_some
open Go.Proofs.Tryz
namespace Go.Proofs.YtjlblidnfebmiaaGreatDoor
variable{W W' w:World}{b:Nat}{hs:List ae}{ns:List ak}{t:aT}{v:Value}
theorem oH{B:Nat}{K:Nat->Prop}(a:Below B w W)(f:B<=W)(b:Apart K W W')(c:∀j,K j->B<=j):Below B w W':=
 ⟨b.os.trans a.os,b.tape.trans a.tape,b.output.trans a.output,Q5 a.size b.size,λj d=>(b.block j (by omega) (λe=>by have:=c j e;omega)).trans (a.block j d)⟩
theorem Ip(w:World):CE 14 #[.nilIface] w (0:Int):=by
 go_enter func14,ntmps14
 go_wp2
 go_ret;exact⟨rfl,rfl⟩
theorem wm(k:Nat)(w:World):CE 14 #[aD (k:Int)] w (k:Int):=by
 by_cases h:k=0
 ·subst h;exact Ip w
 ·grind[eW,uM]
theorem YI(c:dp){a v2:Value}{g o:Nat}{w:World}(m:fZ w a c.l)(s:et w v2 g o c.ds):Calls pg 7 #[pP c a v2] w λe w'=>Ans e/\Bw w w':=by
 obtain⟨ca,cc,Hf⟩:∃ca cc,a=.slice ca c.l.length cc:=by
  rcases id m with⟨x,y,q,rfl⟩|⟨b,o,q,rfl,_⟩
  ·grind
  ·exact⟨_,q,rfl⟩
 obtain⟨da,dc,Hg,n⟩:=s;subst Hf Hg;have r:=qI n;clear m n;unfold pP;generalize c.l.length=cl at *;have Ha:=qI ((Q0 w w).alloc (lR) (.cells #[.slice ca cl cc,.int .u64 (c.keep:Nat),(c.nb:Int),.slice da c.ds.length dc,(c.pol:Int)] 27));have Hb:=qI (aY w (.cells #[.slice ca cl cc,.int .u64 (c.keep:Nat),(c.nb:Int),.slice da c.ds.length dc,(c.pol:Int)] 27) rfl)
 by_cases f:70<cl
 ·go_enter func7,ntmps7
  go_wp2
  go_ret;exact⟨⟨_,rfl⟩,Ha⟩
 have Hh:decide (70<(cl:Int))=false:=Q7 (by omega)
 by_cases d:20<c.ds.length
 ·go_enter func7,ntmps7
  go_wp2
  go_ret;exact⟨⟨_,rfl⟩,Ha⟩
 have Hi:decide (20<(c.ds.length:Int))=false:=Q7 (by omega);have He:c.ds.length<=20:=by omega
 clear f d
 go_enter func7,ntmps7
 go_wp2
 generalize w.alloc (.cells #[.slice ca cl cc,.int .u64 (c.keep:Nat),(c.nb:Int),.slice da c.ds.length dc,(c.pol:Int)] 27)=X at *
 go_loopw [3] (λi wr=>∃k:Nat,k<=c.ds.length/\i=.int .i64 k/\wr=X) (λi _=>c.ds.length - (intOf i).toNat)
 exact⟨0,Nat.zero_le _,rfl,rfl⟩
 ·obtain⟨k,u,rfl,rfl⟩:=hrel;have v:=cb Hb 3
  by_cases j:k<c.ds.length
  ·obtain⟨rfl,Hc,l⟩:=r.o (by omega);have t:=(Ha.o.cell (p:=⟨g,o+k*3,none⟩) Hc).trans (l k j).1;clear l;generalize (aH c.ds k).kind=kd at *
   by_cases h:30<kd.size
   ·go_wp2
    go_ret;exact⟨⟨_,rfl⟩,Ha⟩
   ·have Hj:decide (30<(kd.size:Int))=false:=Q7 (by omega);clear h
    go_wp2
    go_roundw
    exact⟨k+1,by omega,by go_num,trivial⟩
    simp[intOf];omega
  ·go_wp2
   go_ret;exact⟨⟨_,rfl⟩,Ha⟩
theorem YJ{p:aj}(h:(aV t p).1=0):dN (aV t p).2 p.nm=true:=by
 rcases two (dN (aV t p).2 p.nm) with e|e
 ·exact e
 ·grind[FJ,BT,H9]
theorem Iq{nm:ByteArray}(h:W.heap[b]?=some (.cells #[nm,(0:Int),(0:Int),(0:Int),(0:Int),()] 65 (0,0))):ba W (.slice b 1 1) [⟨nm,0,0,0,0,[]⟩]:=by
 have c:=(gS h).1;refine⟨_,_,rfl,⟨lR,by decide⟩,λ_=>⟨b,0,λ_=>.slice none 0 0,rfl,c,λk a=>?_⟩⟩;have Ha:k=0:=by simp at a;exact a
 subst Ha;refine⟨λj d=>?_,⟨none,0,rfl,by simp[af],λh=>by simp[af] at h⟩⟩
 have:=ad h j
 simp only[Nat.zero_mul,Qd];rw[this]
 have:j=0\/j=1\/j=2\/j=3\/j=4\/j=5:=by omega
 rcases this with rfl|rfl|rfl|rfl|rfl|rfl <;> rfl
theorem YK(h:W.heap[b]?=some (.cells #[(0:Int),(0:Int),(0:Int)] 74 (0,0))):fZ W (.slice b 1 1) [⟨0,0,0⟩]:=by
 refine .inr ⟨b,0,1,rfl,λk c=>?_⟩;have a:k=0:=by simp at c;exact c
 subst a;exact⟨ad h 0,ad h 1,ad h 2⟩
abbrev oI:Nat->Prop:=λ_=>False
theorem YL(t:aT)(p:aj):((aV t p).1≠0/\(aV t p).2=t.hs)\/((aV t p).1=0/\∃gs,(aV t p).2=ct t.hs ⟨p,gs⟩):=by
 unfold aV
 split
 ·grind
 split
 ·simp
 split
 ·simp
 split
 ·simp
 split
 ·grind
 split
 ·simp
 ·grind
open Classical in
theorem YM(hs:List ae)(i:Nat)(x:ae):eQ (aL hs) (aL (hs.take i++x :: hs.drop i))<=x.gs.length:=by
 have e:aL (hs.take i++x :: hs.drop i)=aL (hs.take i)++((List.range x.gs.length).map (lU x)++aL (hs.drop i)):=by
  grind[aL]
 have a:=we (Aj (List.take_sublist i hs));have b:=we (Aj (List.drop_sublist i hs));unfold eQ at a b ⊢;rw[e,List.filter_append,List.filter_append,Q2,Q2,a,b]
 have:=List.length_filter_le (λr=>decide (r ∉ aL hs)) ((List.range x.gs.length).map (lU x))
 rw[Q9,List.length_range] at this;omega
theorem YN(h:eG t)(p:aj):eQ (aL t.hs) (aL (aV t p).2)<=3:=by
 rcases YL t p with a|⟨_,gs,a⟩
 ·grind[we]
 ·have hi:=(Um h p).held;have hi:bS (aV t p).2=0:=hi;rw[a] at hi ⊢;have c:(⟨p,gs⟩:ae)∈ct t.hs ⟨p,gs⟩:=by unfold ct;simp
  obtain⟨_,a2,_⟩:=dm.1 hi;obtain⟨b1,b2,_⟩:=a2 _ c;have b:=(jo b1).2.2.1
  have:=YM t.hs (dT t.hs p.nm) ⟨p,gs⟩
  unfold ct;dsimp only at this b2 b ⊢;omega
section
variable{N:Nat->Prop}{Ba Bd Be Bm:Nat}{t:aT}{dk:Dk}{n:Nat}{w:World}
end
theorem YO(h:eG t):∀x∈t.hs,x.gs.length<=3:=λx a=>by
 obtain⟨_,a2,_⟩:=dm.1 h.held;obtain⟨b1,b2,_⟩:=a2 x a
 have:=(jo b1).2.2.1
 omega
theorem YP(h:eG t):∀x∈t.hs,∀g∈x.gs,g.dv.length<=16:=λx b g d=>by
 obtain⟨_,a2,_⟩:=dm.1 h.held;obtain⟨_,_,a⟩:=a2 x b;obtain⟨k,c,rfl⟩:=ux d;exact (BV (fy a k c)).1
section
variable{N:Nat->Prop}{Ba Bd Be Bm:Nat}{t:aT}{dk:Dk}{n:Nat}{w:World}
end
section
variable{N:Nat->Prop}{Ba Bd Be Bm:Nat}{t:aT}{dk:Dk}{n:Nat}{w:World}
end
theorem YQ(h:eG t):pT (t.hs.map ae.pod):=by
 obtain⟨d,a2,_⟩:=dm.1 h.held;refine⟨by grind,λx c=>?_⟩;obtain⟨y,b,rfl⟩:=Qk.1 c;have a:=(a2 y b).1;have s1:=(mx (jo a).1).2;have e:y.pod.nm.data.toList.length=y.pod.nm.size:=by simp
 exact⟨ny a,by omega⟩
section
variable{N:Nat->Prop}{Ba Bd Be Bm:Nat}{t:aT}{dk:Dk}{n:Nat}{w:World}
end
def eT (w:World) (Ba j:Nat):Prop:=∃pb n c,w.cell? ⟨Ba,9,none⟩=some (.pointer (some ⟨pb,0,none⟩))/\0<n/\w.cell? ⟨pb,0,none⟩=some (.slice j n c)
theorem eT.base{a j base:Nat}(h:eT w a j)(e:fR base w a):base<=j:=by
 obtain⟨b,n,c,g,f,d⟩:=h;exact (e b g).2 j n c f d
structure rB (W W':World):Prop where
 size:W<=W'.heap.size
 cell:∀(b o:Nat) (v:Value),(∀x,v≠.bool x)->W.cell? ⟨b,o,none⟩=some v->W'.cell? ⟨b,o,none⟩=some v
theorem bK.nb{f:List Int}(h:bK W v f)(l:rB W W'):bK W' v f:=by
 obtain⟨j,c,g,i,p⟩:=h;refine⟨j,c,g,i,λm=>?_⟩;obtain⟨b,o,n,d,a⟩:=p m;exact⟨b,o,n,Q1 d l.size,λk q=>l.cell _ _ _ (λ_ e=>by cases e) (a k q)⟩
theorem bC.nb{ds:List ak}(h:bC W v ds)(l:rB W W'):bC W' v ds:=by
 obtain⟨g,c,d,f,m⟩:=h;refine⟨g,c,d,f,λi=>?_⟩;obtain⟨b,o,j,Hb,Ha⟩:=m i;exact⟨b,o,j,Q1 Hb l.size,λk a=>⟨l.cell _ _ _ (λ_ e=>by cases e) (Ha k a).1,l.cell _ _ _ (λ_ e=>by cases e) (Ha k a).2⟩⟩
theorem YR{x:aF}{d:Value}(h:v∈eu x d)(ah:∀b,d≠.bool b):∀b,v≠.bool b:=by
 intro b e;subst e
 simp[eu] at h
 exact ah b h.symm
theorem ba.nb{cs:List aF}(h:ba W v cs)(l:rB W W'):ba W' v cs:=by
 obtain⟨p,c,n,g,r⟩:=h;refine⟨p,c,n,g,λm=>?_⟩;obtain⟨b,o,aH,q,Hb,Ha⟩:=r m;refine⟨b,o,aH,q,Q1 Hb l.size,λk a=>⟨λj f=>?_,(Ha k a).2.nb l⟩⟩;have d:j<(eu (af cs k) (aH k)).length:=f;rw[Qf d];refine l.cell _ _ _ (YR (List.getElem_mem d) λ_ e=>?_) (((Ha k a).1 j f).trans (Qf d));obtain⟨_,_,i,_⟩:=(Ha k a).2;rw[i] at e;cases e
theorem ce.nb{gs:List aX}(h:ce W v gs)(l:rB W W'):ce W' v gs:=by
 obtain⟨j,c,i,d,n⟩:=h;refine⟨j,c,i,d,λg=>?_⟩;obtain⟨b,o,aH,m,Hb,Ha⟩:=n g;refine⟨b,o,aH,m,Q1 Hb l.size,λk a=>⟨⟨l.cell _ _ _ (λ_ e=>by cases e) (Ha k a).1.1,l.cell _ _ _ (λ_ e=>?_) (Ha k a).1.2.1,(Ha k a).1.2.2⟩,(Ha k a).2.nb l⟩⟩;obtain⟨_,_,f,_⟩:=(Ha k a).2;rw[f] at e;cases e
theorem bf.nb(h:bf W v hs)(l:rB W W'):bf W' v hs:=by
 obtain⟨m,c,j,g,p⟩:=h;refine⟨m,c,j,g,λi=>?_⟩;obtain⟨b,o,cv,f,n,Hb,Ha⟩:=p i;refine⟨b,o,cv,f,n,Q1 Hb l.size,λk a=>⟨⟨l.cell _ _ _ (λ_ e=>by cases e) (Ha k a).1.1,l.cell _ _ _ (λ_ e=>by cases e) (Ha k a).1.2.1,l.cell _ _ _ (λ_ e=>?_) (Ha k a).1.2.2.1,l.cell _ _ _ (λ_ e=>?_) (Ha k a).1.2.2.2⟩,(Ha k a).2.1.nb l,(Ha k a).2.2.nb l⟩⟩
 ·obtain⟨_,_,d,_⟩:=(Ha k a).2.1;rw[d] at e;cases e
 ·obtain⟨_,_,d,_⟩:=(Ha k a).2.2;rw[d] at e;cases e
section
variable{N:Nat->Prop}{Ba Bd Be Bm:Nat}{t:aT}{dk:Dk}{n:Nat}{w:World}
theorem Ir{W W':World}{b:List RV}(h:∀x∈b,gA W x/\x.dn<=1000)(hs:W<=W'.heap.size)(n:∀g,(∃v,W.cell? ⟨g,0,none⟩=some (.int .i64 v))->W'.heap[g]?=W.heap[g]?):(∀x∈b,gA W' x/\x.dn<=1000)/\b.map (aN W')=b.map (aN W):=by
 have key:∀x∈b,gA W' x/\bj W' x=bj W x:=λx c=>by
  obtain⟨ah,_⟩:=h x c
  by_cases a:0<x.dn
  ·obtain⟨g,d,z,m,o⟩:=ah.2 a;obtain⟨i,f,Ha,p,j⟩:=ah.1 a;have e:i=g/\f=0:=by grind
   have c0:=j 0 a;rw[e.1,e.2] at c0;have l:=n g ⟨_,c0⟩;obtain⟨r1,k⟩:=rZ (w':=W') ah.1 (λi f e _=>by grind) hs;exact⟨⟨r1,λ_=>⟨g,d,z,m,l.trans o⟩⟩,k⟩
  ·refine⟨⟨λe=>absurd e a,λe=>absurd e a⟩,?_⟩;unfold bj
   have:x.dn=0:=by omega
   rw[this];rfl
 exact⟨λx c=>⟨(key x c).1,(h x c).2⟩,List.map_congr_left λx c=>by grind[aN]⟩
end
def ks (x:Ac):Bool:=x.kd.toList == [97,100,109,105,116]
def m6 (x:Ac):Bool:=x.kd.toList == [114,101,109,111,118,101]
def l7 (x:Ac):Bool:=x.kd.toList == [115,105,99,107] || x.kd.toList == [119,101,108,108]
theorem YS{x:Ac}(h:ks x=true):m6 x=false:=by
 unfold ks at h;unfold m6;rw[eq_of_beq h]
 decide
structure Stepped (t:aT) (x:Ac) (f:Nat) (t':aT):Prop where
 m:t'.m=t.m
 ds:gp t.ds t'.ds
 inn:ks x=true->f=(aV t x.p).1/\t'.hs=(aV t x.p).2/\t'.ds=t.ds
 o:ks x=false->t'.hs.Sublist t.hs
 rem:m6 x=true->t'.hs=gk t.hs x.s
 oth:ks x=false->m6 x=false->l7 x=false->∃qs g,rm x.us (t.hs.map ae.pod) qs/\fC x.us qs x.a 0 g/\t'.hs=ee t.hs ((qs.take g).map aj.nm)
 still:l7 x=false->t'.ds=t.ds
section
variable{N:Nat->Prop}{Ba Bd Be Bm:Nat}{t:aT}{dk:Dk}{n:Nat}{w:World}
end
section
variable{Ba Bd Be Bm:Nat}{t:aT}{dk:Dk}{n:Nat}{w:World}
theorem YT{c:dp}(h:cR c=0):0<=(cT c).nb:=by
 unfold cR at h
 repeat' (split at h;· omega)
 all_goals (show 0<=c.nb;omega)
theorem YU{x:Ac}{f:Nat}{t':aT}(h:eG t)(a:cr t.m (t.hs.map ae.pod)=true)(hs:Stepped t x f t'):cr t'.m (t'.hs.map ae.pod)=true:=by
 rw[hs.m];cases e:ks x with
 | true=>rw[(hs.inn e).2.1];exact Gf a
 | false=>exact Vn h (hs.o e) a
end
def jh (ns:List ak) (k:Nat):Int:=((ns.take k).map ak.many).sum
theorem YV{k:Nat}(h:k<ns.length):jh ns (k+1)=jh ns k+(ar ns k).many:=by
 grind[jh,Qa,ar]
theorem YW{c:dp}{ca da:Option Addr}{cc dc g o:Nat}{w:World}(d:fZ w (.slice ca c.l.length cc) c.l)(f:et w (.slice da c.ds.length dc) g o c.ds)(i:c.keep<18446744073709551616)(a:cR c≠0) :
  CB 10 #[.agg #[.slice ca c.l.length cc,.int .u64 (c.keep:Nat),(c.nb:Int),.slice da c.ds.length dc,(c.pol:Int)]] w (.iface 108 (cR c:Int)):=by
 obtain⟨h,Hi⟩:∃o:Obj,o=.cells #[.slice ca c.l.length cc,.int .u64 (c.keep:Nat),(c.nb:Int),.slice da c.ds.length dc,(c.pol:Int)] 27:=⟨_,rfl⟩;have Ha:=(Q0 w w).alloc (lR) h;have He:=qI Ha;have Hg:=qI (Ae c (d.below Ha) (f.le (aR.of_below Ha)) i);have Hf:Hu (aD (cR c)=.iface 108 (cR c:Int)):=if_neg a;have b:=qI a;subst Hi;clear d f Ha a
 go_enter func10,ntmps10
 go_wp2
 refine Hg.o.mono ?_;rintro e W Hc;obtain rfl:=Hc.bad b;have Hb:=He.t Hc.below;rw[Hf.o];clear Hc Hg Hf b;have Hh:=qI ((Hb.o.alloc Hb.o.size (.cells #[.pointer none,.int .u64 0,.int .u8 0,(0:Int),(0:Int)] 84)).alloc (by simp;have:=Hb.o.size;omega) (.cells #[.int .u64 0,.pointer none] 87))
 go_wp2
 go_ret;exact⟨rfl,Hh⟩
section
variable{Ba Bd Be Bm:Nat}{t:aT}{dk:Dk}{n:Nat}
end
abbrev qd (Bd Be Ba:Nat):Obj:=.cells #[Bd,Be,Ba] 36
section
variable{w W U V:World}{oc:Obj}{N:Nat->Prop}{Ba Ca Bd Be Bm Bk Bc n n':Nat}{c:dp}{hs:List ae}{dk dk':Dk}{rs:List Rn}{t:aT}{s:ByteArray}
end
section
variable{N:Nat->Prop}{Ba Bd Be Bm:Nat}{t:aT}{dk:Dk}{n:Nat}{w:World}
end
theorem YX{ds:List aq}{l:List Int}(h:Gi ds ns l)(f:∀n∈ns,n.many≠0):ns.length<=l.length:=by
 have key:∀ns:List ak,(∀n∈ns,1<=n.many)->(ns.length:Int)<=(ns.map ak.many).sum:=by
  intro ns
  induction ns with
  | nil=>intro _;exact Int.le_refl _
  | cons n r ih=>
   intro h;have d:=ih λx e=>h x (Qv _ e)
   have g:=h n List.mem_cons_self;rw[Qq,List.sum_cons,Qg];omega
 have d:=key ns λn c=>by
  have a:=h.1 n c;have b:=f n c;omega
 have g:=h.2;omega
theorem YY(h:bS hs=0):rY (hs.map ae.pod):=by
 have c:=(dm.1 h).2.2;unfold rY;rw[List.map_map];refine List.pairwise_map.2 (c.imp λ{a b} hab e=>?_);have d:a.pod.nm=b.pod.nm:=e;rw[d] at hab;exact vI _ hab
section
variable{N:Nat->Prop}{Ba Bd Be Bm:Nat}{t:aT}{dk:Dk}{n:Nat}{b0 V V2 W U:World}
end
theorem YZ{c2 o r m c10 c11 d c b l:Value}(F:Nat->Value){W:World}{g cb:Nat}(p:Nat){cc:Nat}(k:Nat){n:Nat}{h:Option Addr}{nc:Nat}{ns:List ak}(B:W.cell? ⟨g,2,none⟩=some (.slice (some ⟨cb,p,none⟩) n cc))(z:k<n)(_hn:n<=1000)(ah:W.cell? ⟨cb,p+k*6+5,none⟩=some (.slice h ns.length nc))(f:bC W (.slice h ns.length nc) ns)(hs:∀j,j<=ns.length->0<=jh ns j/\jh ns j<=1000)(C:ns.length<=1000) :
  Code.wp prog (Code.loop (kr 2)) (p7 4 (FrS (λF=>frS c2 o r m c10 c11 d c g (.int .i64 (k:Nat)) b (jh ns ns.length:Int) (F 19) (F 20) F) λW'=>W'=W)) (frS c2 o r m c10 c11 d c g (.int .i64 (k:Nat)) b (0:Int) (0:Int) l F) W:=by
 obtain⟨e,u,Hg,_,Hc⟩:=f;have Hi:e=h:=by grind
 subst Hi;have He:=qI Hc;have HS:=qI hs;clear Hc hs Hg;simp only[frS,tlS,Nat.reduceAdd]
 conv=>enter [2,1];unfold kr;whnf
 go_loopw [18,19] (λs i wq=>∃q:Nat,q<=ns.length/\s=.int .i64 (jh ns q)/\i=.int .i64 q/\wq=W) (λ_ i _=>ns.length - (intOf i).toNat)
 exact⟨0,Nat.zero_le _,rfl,rfl,rfl⟩
 ·obtain⟨q,t,rfl,rfl,rfl⟩:=hrel
  by_cases a:q<ns.length
  ·obtain⟨nb,no,Hf,Hj,Hb⟩:=He.o (by omega);subst Hf;obtain⟨_,y⟩:=Hb q a;have Ha:=qI (YV a);have A:=HS.o q t;have v:=HS.o (q+1) a;rw[Ha.o] at v;clear Hb;generalize ar ns q=x at *;generalize jh ns q=w at *
   go_wp2
   go_roundw
   exact⟨q+1,by omega,by rw[Ha.o],by go_num,by first|rfl|trivial⟩
   simp[intOf];omega
  ·have Hh:q=ns.length:=by omega
   subst Hh
   go_wp2
   exact⟨rfl,FrS.mk (by kernel_rfl) (by first|rfl|trivial)⟩
