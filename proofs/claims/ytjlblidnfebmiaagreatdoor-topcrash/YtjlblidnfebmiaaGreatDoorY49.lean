import Derived.Test.YtjlblidnfebmiaaGreatDoorY47
import Derived.Test.YtjlblidnfebmiaaGreatDoorY48
set_option maxRecDepth 100000
set_option maxHeartbeats 16000000
open Go Go.RowKit Go.Shelf
attribute [local go_sem] Oper.semAt_some
open Go.Proofs.Tryz
namespace Go.Proofs.YtjlblidnfebmiaaGreatDoor
def l8 (ds:List aq) (k:Int) (on:Bool):Nat × List aq:=if i7 k ds.length=true then (0,jK ds k.toNat on) else (1,ds)
def Y0 (w:World) (N:Nat->Prop) (Ba Bd Be Bm:Nat) (t:aT) (dk:Dk) (n:Nat) (k:Int) (on:Bool) (e:Ending) (w':World):Prop:=e=.returned (aD (((l8 t.ds k on).1:Nat):Int))/\aE w' N Ba Bd Be Bm ⟨t.m,(l8 t.ds k on).2,t.hs⟩ dk n/\Apart (eT w Ba) w w'/\∀base,fR base w Ba->fR base w' Ba
section
variable{N:Nat->Prop}{Ba Bd Be Bm:Nat}{t:aT}{dk:Dk}{n:Nat}{w:World}
theorem aE.blk(h:aE w N Ba Bd Be Bm t dk n){j:Nat}(x:eT w Ba j):j<w/\(∃s,w.cell? j=some (.string s))/\¬ four N Ba Bd Bm j:=by
 obtain⟨H,z,Ha,y,F,L,M,E,I,b,c,C,g,db,v,J,s,m,B,G,A,d,K,r⟩:=h;obtain⟨a,u,c1,i,Hb,q⟩:=x;have o:=cb m 9;rw[o] at i;obtain rfl:g=a:=by cases i;rfl
 rw[d.pool.row] at q;have l:v=some ⟨j,0,none⟩/\s.ds.length=u:=by grind
 have e:0<s.ds.length:=by omega
 obtain⟨f,D,p⟩:=d.pool.at0 e;rw[l.1] at f;obtain rfl:j=db:=by cases f;rfl
 have k:=(d.pool.cells 0 e).1;rw[Nat.zero_mul] at k;exact⟨p,⟨_,k⟩,r e⟩
theorem aE.sicken{B db:Nat}{T:Option Addr}{E:Nat}{us:Nat->Bool}(h:aE w N Ba Bd Be Bm t dk n)(H:w.cell? ⟨Ba,9,none⟩=some (.pointer (some ⟨B,0,none⟩)))(u:aM w B db T E t.ds us){k:Nat}(C:k<t.ds.length)(on:Bool):aE (w.setCell ⟨db,k*3+2,none⟩ on) N Ba Bd Be Bm ⟨t.m,jK t.ds k on,t.hs⟩ dk n/\Apart (eT w Ba) w (w.setCell ⟨db,k*3+2,none⟩ on)/\∀base,fR base w Ba->fR base (w.setCell ⟨db,k*3+2,none⟩ on) Ba:=by
 have z:0<t.ds.length:=by omega
 have Hg:eT w Ba db:=⟨B,t.ds.length,E,H,z,by rw[u.row,(u.at0 z).1]⟩;obtain⟨b1,⟨bs,b2⟩,A⟩:=h.blk Hg;have f:Apart (λj=>j=db) w (w.setCell ⟨db,k*3+2,none⟩ on):=Apart.setCell (K:=λj=>j=db) rfl _ _ _;have Hm:Apart (eT w Ba) w (w.setCell ⟨db,k*3+2,none⟩ on):=f.wide (λj e=>by rw[e];exact Hg);have hH:=h;obtain⟨h1,h2,Hf,D,h4,h5,h6,h7,I,b,c,O,l,d,r,m,s,F,k2,i,X,x,k6,k7⟩:=h;have M:=cb F 9;rw[M] at H;obtain rfl:l=B:=by cases H;rfl
 have Hc:=lg X;have Hl:=u.row;rw[x.pool.row] at Hl;have V:r=T/\m=E:=by
  grind
 have Hj:0<s.ds.length:=by rw[Hc];exact z
 have e4:d=db:=by
  have Q:=(x.pool.at0 Hj).1;have a2:=(u.at0 z).1;rw[V.1,a2] at Q;cases Q;rfl
 subst e4;obtain⟨l1,l2,l3⟩:=D.lt;have R:Ba≠d:=λe=>A (.inr (.inl e.symm))
 have n2:Bd≠d:=λe=>A (.inr (.inr (.inl e.symm)))
 have n3:Bm≠d:=λe=>A (.inr (.inr (.inr e.symm)))
 have n4:Be≠d:=λe=>by
  have:=D.eng.cells.1
  rw[e,b2] at this;cases this
 have Ho:=Nat.le_antisymm (by simp) f.size;generalize hW:w.setCell ⟨d,k*3+2,none⟩ on=W at *;have Ha:aM W l d r m (jK s.ds k on) s.us:=by rw[<- hW];exact x.pool.sicken (by rw[Hc];exact C) on
 have Hk:=Gg C on;have Hn:=(u.cells k C).2.2.1;have Hi:rB (av (four N Ba Bd Bm) w) (av (four N Ba Bd Bm) W):=⟨by grind[cC],λj o v O q=>by
  have L:=eB q;have He:=(df).cell _ _ _ q;have S:j<w.heap.size:=Q3 w _ He
  by_cases y:j=d
  ·have ho:o≠k*3+2:=λe=>by
    grind
   have e1:(av (four N Ba Bd Bm) W).cell? ⟨j,o,none⟩=W.cell? ⟨j,o,none⟩:=gR (cH L) o;rw[e1,<- hW,y];rw[y] at He;rw[Qb]
   ·exact He
   ·simp
  ·rw[<- q];exact gR (by rw[cH L,cH L,f.block j S y]) o⟩
 have P:=eB i.topo.cell;have nb:=eB (i.topo.cells 0 Hf).1;have Hh:=i.topo.tlt;have Hb:=i.topo.lt;rw[cC] at Hh Hb;have c1:=(df).cell _ _ _ i.topo.cell;have c2:=(df).cell _ _ _ (i.topo.cells 0 Hf).1;rw[Qd,Nat.zero_mul] at c2;have t3:I≠d:=λe=>by grind
 have G:b≠d:=λe=>by grind
 refine⟨⟨Vr h1 Hk,h2,Hf,?_,h4,h5,λj y=>Q1 (h6 j y) f.size,h7,I,b,c,O,l,d,r,m,ri s (jK s.ds k on),(f.block Ba F.lt R).trans F,k2.nb Hi,⟨lh i.topo ?_ ?_ ?_,i.good,i.op,i.nd,i.pol⟩,?_,⟨Ha,?_,x.cp⟩,k6,?_⟩,Hm,λbase Z=>?_⟩
 ·obtain⟨g1,g2,Y,g3,g4,g5⟩:=D;obtain⟨q1,q2⟩:=Ir g4 f.size λg ⟨v,hg⟩=>f.block g (Q3 w _ hg) (λe=>by grind);exact⟨g1.block (f.block Be l1 n4),(f.block Bd l2 n2).trans g2,Y,g3.block (f.block Bm l3 n3),q1,λa=>by rw[q2];exact g5 a⟩
 ·rw[cH P,cH P,f.block I Hh t3]
 ·rw[cH nb,cH nb,f.block b Hb G]
 ·grind[cC]
 ·grind[zG]
 ·rw[Hc];have U:=x.nodes;rw[Hc] at U;exact JY U C on
 ·intro _;exact A
 ·exact hH.poolNew Z f R (λp e S J=>by
   have J:=J;rw[M] at e
   have:p=l:=by cases e;rfl
   exact (u.at0 z).2.1 (by rw[<- J,this]))
theorem Is(h:aE w N Ba Bd Be Bm t dk n)(k:Int)(on:Bool):Calls pg 31 #[.pointer (some ⟨Ba,0,none⟩),.int .i64 k,.bool on] w (Y0 w N Ba Bd Be Bm t dk n k on):=by
 have q:=h;obtain⟨D,H,Hc,x,A,G,I,z,K,b,c,J,f,db,j,i,s,l,y,B,m,o,F,C⟩:=h;have E:=cb l 9;have r:aM w f db j i t.ds s.us:=by rw[<- lg m];exact o.pool
 have p:=qI q;have g:=qI r;have v:=qI E;clear q r D H Hc x A G I z l y B m o F C
 rcases two (i7 k t.ds.length) with d|d
 ·have He:0<=k/\k<(t.ds.length:Int):=by
   simp_all[i7]
  obtain⟨a,rfl⟩:∃a:Nat,k=(a:Int):=⟨k.toNat,by omega⟩;have Ha:a<t.ds.length:=by omega
  have HS:=qI (p.o.sicken v g Ha on);have Hb:=qI d;clear d He
  go_enter func31,ntmps31
  go_wp2
  refine (NF a on g Ha).mono ?_;rintro e w' ⟨rfl,rfl⟩
  go_wp2
  go_ret;have e:l8 t.ds (a:Int) on=(0,jK t.ds a on):=if_pos Hb;exact⟨by rw[e];rfl,by rw[e];exact HS.o.1,HS.o.2.1,HS.o.2.2⟩
 ·have u:=qI d;clear d
  go_enter func31,ntmps31
  go_wp2
  refine (NE on g u).mono ?_;rintro e w' ⟨rfl,rfl⟩
  go_wp2
  go_ret;have e:l8 t.ds k on=(1,t.ds):=if_neg (by rw[u.o];decide);exact⟨by rw[e];rfl,by rw[e];exact p.o,Apart.refl _ _,λ_ h=>h⟩
end
def Y3 (w:World) (N:Nat->Prop) (Ba Bd Be Bm:Nat) (t:aT) (dk:Dk) (n:Nat) (us:List ak) (most:Int) (e:Ending) (w':World):Prop:=
 ∃(qs:List aj) (g:Nat),rm us (t.hs.map ae.pod) qs/\fC us qs most 0 g/\((∃nv:Value,e=.returned (.tuple #[nv,.nilIface])/\∃dk' n',((n'<=n/\gQ w w' Ba)/\(dk.l=-1->dk'.l=-1))/\aE w' N Ba Bd Be Bm ⟨t.m,t.ds,ee t.hs ((qs.take g).map aj.nm)⟩ dk' n')\/(e=.returned (.tuple #[.slice none 0 0,aD ((11:Nat):Int)])/\mY w' Be Bd Bm n dk t.hs (ee t.hs ((qs.take g).map aj.nm)) (.returned (aD ((11:Nat):Int)))))/\Apart (three Ba Bd Bm) w w'
section
variable{N:Nat->Prop}{Ba Bd Be Bm:Nat}{t:aT}{dk:Dk}{n:Nat}{w:World}
theorem aE.ost(h:aE w N Ba Bd Be Bm t dk n):∃a,w.heap[Ba]?=some (Obj.cells a 98 (0,0))/\∃p,w.cell? Ba=some (.pointer p):=by
 obtain⟨_,_,_,_,_,_,_,_,_,_,_,_,_,_,_,_,_,b,_⟩:=h;exact⟨_,b,_,ad b 0⟩
theorem aE.not3(h:aE w N Ba Bd Be Bm t dk n){j:Nat}{v:Value}(d:w.cell? j=some v)(i:∀p,v≠.pointer p)(o:∀b,v≠.bool b):¬ three Ba Bd Bm j:=by
 obtain⟨_,_,p,k⟩:=h.ost;have ah:=h.eng.disk;unfold aQ at ah;have Hb:=ad ah 0;obtain⟨m,f,_⟩:=h.eng.map;have Ha:∀v,w.cell? Bm≠some v:=λv e=>by
  obtain⟨_,l,⟨g,a,c,_⟩,_⟩:=f
  simp[World.cell?,c] at e
 rintro (e|e|e) <;> subst e
 ·grind
 ·grind
 ·exact Ha v d
theorem Y4{uv:Value}{us:List ak}{a:Int}(h:aE w N Ba Bd Be Bm t dk n)(m:bC w uv us)(i:pS us)(u:-9223372036854775808<=a)(v:a<=9223372036854775807)(hn:n+36<=1000)(E:∀W,Apart (three Ba Bd Bm) w W->cJ W) :
  Calls pg 32 #[.pointer (some ⟨Ba,0,none⟩),uv,.int .i64 a] w (Y3 w N Ba Bd Be Bm t dk n us a):=by
 have M:=h;have HV:=(dm.1 h.inv.held).1;obtain⟨K,h2,V,R,h4,h5,h6,h7,tb,b,c,hv,pb,db,ao,pc,s,G,J,k3,T,U,k6,k7⟩:=h;have r:=J.le (df);obtain⟨ha,hc,HY,_⟩:=id r;subst HY;have x7:=cb G 7;obtain⟨ua,uc,HZ,_⟩:=id m;subst HZ;have o:=qI M;have HL:=qI r;have HU:=qI m;have HT:=qI E;have HJ:=qI i;have Hg:=qI (YQ K);clear M r m E i K h2 V R h4 h5 h6 h7 G J k3 T U k6 k7
 go_enter func32,ntmps32
 go_wp2
 refine (Eg HL (by omega)).mono ?_;rintro e W1 ⟨pv,rfl,Hc,Ht⟩;have Hi:=qI (Aa Hc);have Hh:=qI Ht;clear Hc Ht x7;obtain⟨l,Hp⟩:∃l,l=t.hs.map ae.pod:=⟨_,rfl⟩;rw[<- Hp] at Hi Hg;have Hl:=qI Hp;have Hw:l.length=t.hs.length:=by grind
 have X:=qI Hw;clear Hp Hw;obtain⟨pa,S,HO,_⟩:=id Hi.o;subst HO
 go_wp2
 refine (WC a Hi (HU.o.below Hh) Hg HJ u v).mono ?_;rintro e W2 ⟨⟨nv,f,g,rfl,O,Hs,hle⟩,F⟩;have Ha:=Hh.t F;have Hf:=qI Hs;have Hm:=qI hle;have HS:=qI O;have Ho:=qI (o.o.keep Ha);obtain⟨na,nc,Y,HN,z⟩:=O;subst Y;have Hx:=qI z;clear F Hs hle z HN Hh Hi;have Hn:((f.take g).map aj.nm).length<=t.hs.length:=by
  have:=Hf.o.1.length_eq
  have:=X.o
  rw[Q9,Qu];omega
 obtain⟨L,j⟩:∃L,L=(f.take g).map aj.nm:=⟨_,rfl⟩;rw[<- j] at Hn Hx HS;rw[<- j];have Hr:=qI j;clear j
 by_cases d:L.length=0
 ·have B:L=[]:=Qe d;have HM:=qI B;rw[d];clear d B Hn
  go_wp2
  go_ret2;refine⟨f,g,by rw[<- Hl.o];exact Hf.o,Hm,.inl ⟨_,rfl,dk,n,⟨⟨lR,.inl (Ha.o.block Ba o.o.poolAt.1)⟩,id⟩,?_⟩,Apart.of_below Ha⟩;rw[<- Hr.o,HM.o];exact Ho.o
 ·have H3:((L.length:Int) == 0)=false:=by grind
  obtain⟨nb,HP,Hk,Hq⟩:=Hx.o (by omega);subst HP;have y:=Hq 0 (by omega);have He:=Ho.o.not3 y (λ_ e=>by cases e) (λ_ e=>by cases e);have H5:=qI He;have Hb:0<t.hs.length:=by omega
  have D:=qI (Im 0 nc Ho (λk hk=>by rw[Nat.zero_add];exact Eq.trans (Hq k hk) (by simp[hk])) ⟨λe=>He (.inr (.inl e)),λe=>He (.inr (.inr e))⟩ Hk (by omega) Hb hn λW Z=>HT.o W ((Apart.of_below Ha).trans Z));have H1:=qI Hq;have H2:=qI Hk;have H4:=qI d;clear y He Hq Hk d Hb Hn
  go_wp2
  refine D.o.mono ?_;rintro e W3 ⟨hG,Hz⟩;have Hy:=qI Hz;clear Hz D
  rcases hG with⟨rfl,q,n3,⟨⟨Hj,C⟩,Hv⟩,A⟩|⟨f1,rfl,d2,n2,p,f3,I,x,H⟩
  ·have HQ:=qI A;have P:=qI (C.old Ha o.o.poolAt.1);have Q:=qI Hv;clear A C Hv
   go_wp2
   go_ret2;exact⟨f,g,by rw[<- Hl.o];exact Hf.o,Hm,.inl ⟨_,rfl,q,n3,⟨⟨Hj,P⟩,Q⟩,by rw[<- Hr.o];exact HQ.o⟩,(Apart.of_below Ha).trans Hy⟩
  ·have Hg:Hu (mY W3 Be Bd Bm n dk t.hs (ee t.hs L) (.returned (aD ((11:Nat):Int)))):=⟨f1,rfl,d2,n2,p,f3,I,x,H⟩;clear f1 f3 I x H;rw[gX]
   go_wp2
   go_ret2;exact⟨f,g,by rw[<- Hl.o];exact Hf.o,Hm,.inr ⟨rfl,by rw[<- Hr.o];exact Hg.o⟩,(Apart.of_below Ha).trans Hy⟩
end
def kt (t:aT) (x:Ac) (f:Nat) (t':aT):Prop:=
 ((x.kd.toList == [97,100,109,105,116])=true/\f=(aV t x.p).1/\t'=⟨t.m,t.ds,(aV t x.p).2⟩) \/
 ((x.kd.toList == [97,100,109,105,116])=false/\(x.kd.toList == [114,101,109,111,118,101])=true/\f=(if dN t.hs x.s then 0 else 6)/\t'=⟨t.m,t.ds,gk t.hs x.s⟩) \/
 ((x.kd.toList == [97,100,109,105,116])=false/\(x.kd.toList == [114,101,109,111,118,101])=false/\(((x.kd.toList == [115,105,99,107])=true/\f=(l8 t.ds x.a true).1/\t'=⟨t.m,(l8 t.ds x.a true).2,t.hs⟩)\/((x.kd.toList == [115,105,99,107])=false/\(x.kd.toList == [119,101,108,108])=true/\f=(l8 t.ds x.a false).1/\t'=⟨t.m,(l8 t.ds x.a false).2,t.hs⟩))) \/
 ((x.kd.toList == [97,100,109,105,116])=false/\(x.kd.toList == [114,101,109,111,118,101])=false/\(x.kd.toList == [115,105,99,107])=false/\(x.kd.toList == [119,101,108,108])=false/\f=0/\∃qs g,rm x.us (t.hs.map ae.pod) qs/\fC x.us qs x.a 0 g/\t'=⟨t.m,t.ds,ee t.hs ((qs.take g).map aj.nm)⟩)
def dz (w:World) (N:Nat->Prop) (Ba Bd Be Bm:Nat) (t:aT) (dk:Dk) (n:Nat) (x:Ac) (e:Ending) (w':World):Prop:=∃(f:Nat) (t':aT),kt t x f t'/\((e=.returned (aD f)/\(∃dk' n',n'<=n+3/\(dk.l=-1->dk'.l=-1)/\aE w' N Ba Bd Be Bm t' dk' n')/\∀j,eT w' Ba j->eT w Ba j\/w.heap.size<=j)\/mY w' Be Bd Bm n dk t.hs t'.hs e)/\Apart (λj=>three Ba Bd Bm j\/eT w Ba j) w w'
section
variable{N:Nat->Prop}{Ba Bd Be Bm:Nat}{t:aT}{dk:Dk}{n:Nat}{w:World}
theorem It{p:aj}{cv:Value}(c:aE w N Ba Bd Be Bm t dk n)(d:ba (av (four N Ba Bd Bm) w) cv p.cs)(i:cJ w)(g:n+36<=1000):Calls pg 19 #[.pointer (some ⟨Ba,0,none⟩),cQ p cv] w λe w'=>((e=.returned (aD ((aV t p).1:Nat))/\∃a b,((b<=n+3/\gQ w w' Ba)/\(dk.l=-1->a.l=-1))/\aE w' N Ba Bd Be Bm ⟨t.m,t.ds,(aV t p).2⟩ a b)\/mY w' Be Bd Bm n dk t.hs (aV t p).2 e)/\Apart (three Ba Bd Bm) w w':=by
 have Ha:=(dm.1 c.inv.held).1;refine (Ik p c d i g λl j=>?_).mono ?_
 ·grind[Yr,dT]
 ·rintro e w' ⟨h,f⟩;refine⟨h.imp (λ⟨h1,a,b,⟨⟨hn',hu'⟩,hl'⟩,hM'⟩=>⟨h1,a,b,⟨⟨by have:=YN c.inv p;omega,hu'⟩,hl'⟩,hM'⟩) id,f⟩
theorem aE.blkUp{W:World}(h:aE w N Ba Bd Be Bm t dk n)(k:gQ w W Ba)(i:Apart (three Ba Bd Bm) w W):∀j,eT W Ba j->eT w Ba j\/w.heap.size<=j:=by
 intro j g
 rcases k with e|e
 ·obtain⟨m,d⟩:=h.poolAt;obtain⟨a,q,c,b,l,f⟩:=g;rw[gR e] at b;rw[gR (i.block a (d a b).1 (d a b).2)] at f;exact .inl ⟨a,q,c,b,l,f⟩
 ·exact .inr (g.base e)
theorem aE.poolRow(h:aE w N Ba Bd Be Bm t dk n){f:Nat}(e:w.cell? ⟨Ba,9,none⟩=some (.pointer (some ⟨f,0,none⟩))):∃a n c,w.cell? f=some (.slice a n c):=by
 obtain⟨o,C,Ha,k,B,z,D,A,p,b,c,v,d,db,y,q,s,g,u,l,r,j,x,m⟩:=h;have i:=cb g 9;rw[i] at e;cases e;exact⟨_,_,_,j.pool.row⟩
theorem aE.blkStay{W:World}(h:aE w N Ba Bd Be Bm t dk n)(i:Apart (eT w Ba) w W):∀j,eT W Ba j->eT w Ba j:=by
 rintro j ⟨f,q,c,b,k,g⟩;obtain⟨o,l⟩:=h.poolAt;rw[gR (i.block Ba o λe=>(h.blk e).2.2 (.inr (.inl rfl)))] at b;obtain⟨a,m,d,p⟩:=h.poolRow b;rw[gR (i.block f (l f b).1 (λe=>by obtain⟨_,⟨s,hs⟩,_⟩:=h.blk e;rw[p] at hs;cases hs))] at g;exact⟨f,q,c,b,k,g⟩
theorem aE.blkOld{X:World}{j:Nat}(h:aE w N Ba Bd Be Bm t dk n)(e:Bw w X)(k:eT X Ba j):eT w Ba j:=by
 obtain⟨g,f⟩:=h.poolAt;obtain⟨a,q,c,b,i,d⟩:=k;rw[gR (e.block Ba g)] at b;rw[gR (e.block a (f a b).1)] at d;exact⟨a,q,c,b,i,d⟩
theorem dz.old{X:World}{x:Ac}{e:Ending}{w':World}(b:aE w N Ba Bd Be Bm t dk n)(a:Bw w X)(h:dz X N Ba Bd Be Bm t dk n x e w'):dz w N Ba Bd Be Bm t dk n x e w':=by
 obtain⟨f,t',c,g,d⟩:=h;exact⟨f,t',c,g.imp (λk=>⟨k.1,k.2.1,λj i=>(k.2.2 j i).imp (b.blkOld a) (Q5 a.size)⟩) id,(Apart.of_below a).trans (d.wide λj e=>e.imp id (b.blkOld a))⟩
theorem dz.ok{x:Ac}{e:Ending}{w':World}{f:Nat}{t':aT}{a:Dk}{c:Nat}(k:aE w N Ba Bd Be Bm t dk n)(h:e=.returned (aD f))(l:kt t x f t')(g:c<=n+3)(j:dk.l=-1->a.l=-1)(b:aE w' N Ba Bd Be Bm t' a c)(i:gQ w w' Ba)(d:Apart (three Ba Bd Bm) w w'):dz w N Ba Bd Be Bm t dk n x e w':=
 ⟨f,t',l,.inl ⟨h,⟨a,c,g,j,b⟩,k.blkUp i d⟩,d.wide λ_ e=>.inl e⟩
theorem dz.fell{x:Ac}{e:Ending}{w':World}{f:Nat}{t':aT}(b:kt t x f t')(hf:mY w' Be Bd Bm n dk t.hs t'.hs e)(a:Apart (three Ba Bd Bm) w w'):dz w N Ba Bd Be Bm t dk n x e w':=
 ⟨f,t',b,.inr hf,a.wide λ_ e=>.inl e⟩
abbrev tU:=λ(x0:Ac) (x1:Option Addr) (x2 x3:Nat) (x4:Option Addr) (x5:Nat) (x6:Option Addr) (x7:Nat)=>(.cells #[x0.kd,x0.s,(x0.a:Int),(x0.b:Int),.int .u8 x0.m,.slice x1 x2 x3,x0.p.nm,(x0.p.pr:Int),.slice x4 x0.p.cs.length x5,.slice x6 x0.us.length x7] 52:Obj)
abbrev tV:=λ(x0 x1 x2:Nat)=>(.cells #[x0,x1,x2] 36:Obj)
theorem Iu{x:Ac}{la ca q:Option Addr}{s u cc r:Nat}(O:aE w N Ba Bd Be Bm t dk n)(P:ba (av (four N Ba Bd Bm) w) (.slice ca x.p.cs.length cc) x.p.cs)(I:bC w (.slice q x.us.length r) x.us)(C:pS x.us)(G:-9223372036854775808<=x.a)(H:x.a<=9223372036854775807)(h:n+36<=1000)(M:∀W,Apart (three Ba Bd Bm) w W->cJ W) :
  Calls pg 13 #[.agg #[Bd,Be,Ba],.agg #[x.kd,x.s,(x.a:Int),(x.b:Int),.int .u8 x.m,.slice la s u,x.p.nm,(x.p.pr:Int),.slice ca x.p.cs.length cc,.slice q x.us.length r]] w (dz w N Ba Bd Be Bm t dk n x):=by
 obtain⟨B,R⟩:∃o:Obj,o=.cells #[Bd,Be,Ba] 36:=⟨_,rfl⟩;obtain⟨z,Y⟩:∃o:Obj,o=.cells #[x.kd,x.s,(x.a:Int),(x.b:Int),.int .u8 x.m,.slice la s u,x.p.nm,(x.p.pr:Int),.slice ca x.p.cs.length cc,.slice q x.us.length r] 52:=⟨_,rfl⟩;have Ha:=qI (((Q0 w w).alloc (lR) B).alloc (by simp) z);obtain⟨E,Hf⟩:∃E,E=w.heap.size:=⟨_,rfl⟩;obtain⟨F,He⟩:∃F,F=w.heap.size+1:=⟨_,rfl⟩;have Hz:((w.alloc B).alloc z).heap[E]?=some B:=by grind[bQ,aY]
 have L:((w.alloc B).alloc z).heap[F]?=some z:=by rw[He];exact aY (w.alloc B) z (by simp)
 have Ho:=qI Hz;have Hm:=qI L;clear Hz L;subst R Y;have d:=qI O;have l:=qI P;have i:=qI I;have T:=qI C;have k:=qI M;clear O P I C M
 rcases two (x.kd.toList == [97,100,109,105,116]) with m|m
 ·have S:Hu (ks x=true):=m
  go_enter func13,ntmps13
  go_wp2
  (try rw[<- He]);(try rw[<- Hf]);generalize ((w.alloc (tV Bd Be Ba)).alloc (tU x la s u ca cc q r))=X at *;clear Hf He;have Hb:=qI (d.o.keep Ha);have Hn:=qI (l.o.le (bF (λj c h=>⟨h,Ha.o.block j c⟩) Ha.o.size));have Hk:=qI (i.o.below Ha);have Hi:Hu (∀W,Apart (three Ba Bd Bm) X W->cJ W):=λW a=>k.o W ((Apart.of_below Ha).trans a)
  clear l i k Ho Hm;have Hr:=qI (It (p:=x.p) Hb Hn (Hi.o X (Apart.refl _ _)) h);unfold cQ at Hr;refine Hr.o.mono ?_;rintro e W ⟨y,a⟩
  rcases y with⟨rfl,A,J,⟨⟨Hy,Hh⟩,Hl⟩,Hc⟩|hf
  ·have b:Hu (dz w N Ba Bd Be Bm t dk n x (.returned (aD ((aV t x.p).1:Nat))) W):=dz.old d Ha (dz.ok (t':=⟨t.m,t.ds,(aV t x.p).2⟩) Hb rfl (.inl ⟨m,rfl,rfl⟩) (by omega) Hl Hc Hh a);clear Hc Hh a Hr;generalize (aV t x.p).1=v at *
   go_wp2
   go_ret;exact b.o
  ·have b:Hu (dz w N Ba Bd Be Bm t dk n x (.returned (aD ((11:Nat):Int))) W):=dz.old d Ha (dz.fell (t':=⟨t.m,t.ds,(aV t x.p).2⟩) (f:=(aV t x.p).1) (.inl ⟨m,rfl,rfl⟩) (by obtain⟨f1,f2,f3⟩:=hf;exact⟨f1,rfl,f3⟩) a);obtain⟨_,rfl,_⟩:=hf;clear a Hr;rw[gX] at b ⊢
   go_wp2
   go_ret;exact b.o
 have S:Hu (ks x=false):=m
 rcases two (x.kd.toList == [114,101,109,111,118,101]) with Hj|Hj
 ·have Q:Hu (m6 x=true):=Hj
  go_enter func13,ntmps13
  go_wp2
  (try rw[<- He]);(try rw[<- Hf]);generalize ((w.alloc (tV Bd Be Ba)).alloc (tU x la s u ca cc q r))=X at *;clear Hf He;have Hb:=qI (d.o.keep Ha);have Hn:=qI (l.o.le (bF (λj c h=>⟨h,Ha.o.block j c⟩) Ha.o.size));have Hk:=qI (i.o.below Ha);have Hi:Hu (∀W,Apart (three Ba Bd Bm) X W->cJ W):=λW a=>k.o W ((Apart.of_below Ha).trans a)
  clear l i k Ho Hm;obtain⟨v,Hx⟩:∃v:Nat,v=if dN t.hs x.s then 0 else 6:=⟨_,rfl⟩
  have Hp:=qI (Io x.s Hb h Hi);rw[<- Hx] at Hp;have V:=qI Hx;clear Hx;refine Hp.o.mono ?_;rintro e W ⟨y,a⟩;have Hg:kt t x v ⟨t.m,t.ds,gk t.hs x.s⟩:=.inr (.inl ⟨m,Hj,V,rfl⟩)
  rcases y with⟨rfl,A,J,⟨⟨Hy,Hh⟩,Hl⟩,Hc⟩|hf
  ·have b:Hu (dz w N Ba Bd Be Bm t dk n x (.returned (aD (v:Nat))) W):=dz.old d Ha (dz.ok Hb rfl Hg (by omega) Hl Hc Hh a);clear Hc Hh a Hp Hg
   go_wp2
   go_ret;exact b.o
  ·have b:Hu (dz w N Ba Bd Be Bm t dk n x (.returned (aD ((11:Nat):Int))) W):=dz.old d Ha (dz.fell Hg (by obtain⟨f1,f2,f3⟩:=hf;exact⟨f1,rfl,f3⟩) a);obtain⟨_,rfl,_⟩:=hf;clear a Hp Hg;rw[gX] at b ⊢
   go_wp2
   go_ret;exact b.o
 have Q:Hu (m6 x=false):=Hj
 rcases two (x.kd.toList == [115,105,99,107]) with Hq|Hq
 ·have U:Hu (l7 x=true):=by grind[Hu,l7]
  go_enter func13,ntmps13
  go_wp2
  (try rw[<- He]);(try rw[<- Hf]);generalize ((w.alloc (tV Bd Be Ba)).alloc (tU x la s u ca cc q r))=X at *;clear Hf He;have Hb:=qI (d.o.keep Ha);have Hn:=qI (l.o.le (bF (λj c h=>⟨h,Ha.o.block j c⟩) Ha.o.size));have Hk:=qI (i.o.below Ha);have Hi:Hu (∀W,Apart (three Ba Bd Bm) X W->cJ W):=λW a=>k.o W ((Apart.of_below Ha).trans a)
  clear l i k Ho Hm;have Hw:Hu (Calls pg 31 #[.pointer (some ⟨Ba,0,none⟩),.int .i64 x.a,.bool true] X λe w'=>∃f:Nat,e=.returned (aD f)/\dz w N Ba Bd Be Bm t dk n x e w'):=by
   refine (Is Hb x.a true).m λW ⟨Hc,a,Z⟩=>?_;exact⟨_,rfl,dz.old d Ha ⟨_,_,.inr (.inr (.inl ⟨m,Hj,.inl ⟨Hq,rfl,rfl⟩⟩)),.inl ⟨rfl,⟨dk,n,by omega,id,Hc⟩,λj c=>.inl (Hb.o.blkStay a j c)⟩,a.wide λ_ e=>.inr e⟩⟩
  refine Hw.o.mono ?_;rintro e W ⟨f,rfl,D⟩;have b:=qI D;clear D
  go_wp2
  go_ret;exact b.o
 rcases two (x.kd.toList == [119,101,108,108]) with Ht|Ht
 ·have U:Hu (l7 x=true):=by simp_all[Hu,l7]
  go_enter func13,ntmps13
  go_wp2
  (try rw[<- He]);(try rw[<- Hf]);generalize ((w.alloc (tV Bd Be Ba)).alloc (tU x la s u ca cc q r))=X at *;clear Hf He;have Hb:=qI (d.o.keep Ha);have Hn:=qI (l.o.le (bF (λj c h=>⟨h,Ha.o.block j c⟩) Ha.o.size));have Hk:=qI (i.o.below Ha);have Hi:Hu (∀W,Apart (three Ba Bd Bm) X W->cJ W):=λW a=>k.o W ((Apart.of_below Ha).trans a)
  clear l i k Ho Hm;have Hw:Hu (Calls pg 31 #[.pointer (some ⟨Ba,0,none⟩),.int .i64 x.a,.bool false] X λe w'=>∃f:Nat,e=.returned (aD f)/\dz w N Ba Bd Be Bm t dk n x e w'):=by
   refine (Is Hb x.a false).m λW ⟨Hc,a,Z⟩=>?_;exact⟨_,rfl,dz.old d Ha ⟨_,_,.inr (.inr (.inl ⟨m,Hj,.inr ⟨Hq,Ht,rfl,rfl⟩⟩)),.inl ⟨rfl,⟨dk,n,by omega,id,Hc⟩,λj c=>.inl (Hb.o.blkStay a j c)⟩,a.wide λ_ e=>.inr e⟩⟩
  refine Hw.o.mono ?_;rintro e W ⟨f,rfl,D⟩;have b:=qI D;clear D
  go_wp2
  go_ret;exact b.o
 go_enter func13,ntmps13
 go_wp2
 (try rw[<- He]);(try rw[<- Hf]);generalize ((w.alloc (tV Bd Be Ba)).alloc (tU x la s u ca cc q r))=X at *;clear Hf He;have Hb:=qI (d.o.keep Ha);have Hn:=qI (l.o.le (bF (λj c h=>⟨h,Ha.o.block j c⟩) Ha.o.size));have Hk:=qI (i.o.below Ha);have Hi:Hu (∀W,Apart (three Ba Bd Bm) X W->cJ W):=λW a=>k.o W ((Apart.of_below Ha).trans a)
 clear l i k Ho Hm;have Hs:=qI (Y4 Hb Hk T G H h Hi);refine Hs.o.mono ?_;rintro e W ⟨K,g,Hv,hle,y,a⟩;have Hg:kt t x 0 ⟨t.m,t.ds,ee t.hs ((K.take g).map aj.nm)⟩:=.inr (.inr (.inr ⟨m,Hj,Hq,Ht,rfl,K,g,Hv,hle,rfl⟩))
 rcases y with⟨nv,rfl,A,J,⟨⟨Hy,Hh⟩,Hl⟩,Hc⟩|⟨rfl,hf⟩
 ·have b:Hu (dz w N Ba Bd Be Bm t dk n x (.returned .nilIface) W):=dz.old d Ha (dz.ok (f:=0) Hb rfl Hg (by omega) Hl Hc Hh a);clear Hc Hh a Hs Hv hle Hg
  go_wp2
  go_ret;exact b.o
 ·have b:Hu (dz w N Ba Bd Be Bm t dk n x (.returned (aD ((11:Nat):Int))) W):=dz.old d Ha (dz.fell Hg hf a);clear a Hs Hv hle Hg hf;rw[gX] at b ⊢
  go_wp2
  go_ret;exact b.o
end
def Iv (w w':World) (Ba tb:Nat) (m:aJ) (Bd Be Bm n:Nat) (dk:Dk) (rs:List Rn) (hs:List ae) (s:aC) (e:Ending):Prop:=
 (e=.returned .nilIface/\∃l',(-1<=l'/\l'<=1000/\(dk.l=-1->l'=-1))/\∃(hv:Value) (n' pb' db':Nat) (ao':Option Addr) (c':Nat),n'<=n+eQ rs (aL hs)/\bf (av (λj=>j<w.heap.size) w') hv hs/\b6 w' Ba tb m Bd Be hv s.cp pb'/\eS w' pb' db' ao' c' s/\w<=pb'/\(0<s.ds.length->w<=db')/\bz w' Be Bd Bm n' dk.n dk.k l' false λa=>a∈aL hs)\/(dk.l≠-1/\e=.returned (aD ((11:Nat):Int))/\∃(n':Nat) (C:Rn->Prop),n'<=n+36/\bz w' Be Bd Bm n' dk.n dk.k 0 true C)
theorem Y6{b B:Nat}{m:aJ}{d l k n:Nat}{cp y db:Nat}{L:Option Addr}{c:Nat}{ds:List aq}{us:Nat->Bool}{f:Dk}{s:aC}(rs:List Rn){hs:List ae}{w:World}(h:b6 w b B m d l () cp y)(hp:aM w y db L c ds us)(x:¬ three b d k y)(q:0<ds.length->¬ three b d k db)(hN:fS ds)(z:m.op<18446744073709551616)(p:bu w d f)(Z:fh f)(I:f.n.fb.data.toList.length<=1000000)(J:f.load=(0,hs))(F:bz w l d k n f.n f.k f.l false (λa=>a∈rs))(i:n<=900)(ht:cJ w)(hm:dH w)(hF:bS hs=0)(g:bi m ds hs=some s)(t:cr m (hs.map ae.pod)=true)(o:b≠d/\b≠k/\b≠l) :
  Calls pg 36 #[.pointer (some ⟨b,0,none⟩)] w λe w'=>Iv w w' b B m d l k n f rs hs s e/\Apart (three b d k) w w':=by
 obtain⟨H4,H6,H2⟩:=F.lt;have H3:=h.lt;have HO:=qI h;have HP:=qI hp;have HE:=qI F;have Hy:=qI (XJ (p6 p Z));have Hh:=qI (QT p I ht hm);unfold D3 at Hh;rw[J] at Hh;have V:mW hs:=(dm.1 hF).2.1;have O:hs.length<=100:=by grind[dm]
 have E:=h;unfold b6 at E;have c5:=cb E 5;have c6:=cb E 6;clear h hp F p E
 go_enter func36,ntmps36
 go_wp2
 refine Hy.o.m λwz Hk=>?_;have Hk:=Hk.symm;subst Hk
 go_wp2
 refine Hh.o.mono ?_;rintro e W1 ⟨v,rfl,N,Hc⟩;have X:=qI N;obtain⟨H,vc,Hn,_⟩:=N;have Hn:=Hn;subst Hn;have HQ:=qI Hc;have H1:=Hc.size;have Hx:=qI (HO.o.below Hc);have P:=qI (HP.o.below Hc);have H0:=qI (HE.o.below Hc);have Hi:=qI (XK Hx P hN (X.o.le (df)) z V O);rw[g] at Hi;have Hq:((some s:Option aC).isSome && cr m (hs.map ae.pod))=true:=by rw[t];rfl
 rw[Hq] at Hi;dsimp only;rw[show aD (((0:Nat)):Int)=.nilIface from rfl];clear Hc Hq Hy Hh c5 c6
 go_wp2
 refine Hi.o.m λW2 Hb=>?_;have S:=qI (X.o.le (po (M':=λj=>j<w.heap.size) (Apart.of_below Hb) λ_ _ h=>h));have R:=qI (HQ.o.trans (Hb.mono H1));have H5:=Hb.size;have Hz:=qI (Hx.o.below Hb);have Hj:=qI (P.o.below Hb);have HU:=qI (H0.o.below Hb);have Hl:=qI (zJ rs Z.2.1 HU (S.o.le (bF (λj r i=>⟨λe=>i (by omega),rfl⟩) (lR))) hF (by omega));have Hp:=Hz.o;unfold b6 at Hp;have W:=cb Hp 6;clear Hb Hp Hi
 go_wp2
 refine Hl.o.mono ?_;rintro e Q ⟨Ho,Ha⟩
 rcases Ho with⟨l',Hs,rfl,G,He,Hg⟩|⟨Hv,rfl,G,C,He,Hg⟩
 rotate_left
 ·have Hw:Hu (Iv w Q b B m d l k n f rs hs s (.returned (aD ((11:Nat):Int)))):=.inr ⟨Hv,rfl,G,C,He,Hg⟩;have Hm:=qI ((Apart.of_below (K:=three b d k) R).trans (tL Ha));clear Ha Hg He W Hl Hv;rw[gX] at Hw ⊢
  go_wp2
  go_ret;exact⟨Hw,Hm⟩
 have HZ:=qI Hs;clear Hs;have H7:=Ha.size;have HF:=qI (Hz.o.block (Ha.block b (by omega) o.1 o.2.1));have HY:=qI (pZ Hj (Ha.block y (by have:=Hj.o.lt;omega) (λe=>x (.inr (.inl e))) λe=>x (.inr (.inr e))) (λu=>Ha.block db (by have:=(Hj.o.at0 u).2.2;omega) (λe=>q u (.inr (.inl e))) λe=>q u (.inr (.inr e))) Ha.size);have HR:=qI Hg;have HM:=qI (He);have Y:=qI (S.o.le (bF (λj r i=>⟨i,Ha.block j r (λe=>i (by omega)) λe=>i (by omega)⟩) Ha.size));have Hm:=qI ((Apart.of_below (K:=three b d k) R).trans (tL Ha));have HH:=qI (zV HF ⟨_,_,_,rfl⟩ HY (λe=>x (.inl e)) (λu e=>q u (.inl e)) hN (Y.o.le (bF (λj r i=>⟨λe=>i (by omega),rfl⟩) (lR))) z V O g);clear Ha Hg He W Hl
 go_wp2
 refine HH.o.mono ?_;rintro e W4 ⟨rfl,⟨D,A,M,c',Hr,U,HX,T⟩,Hf⟩;have HS:=qI Hr;have HV:=qI U;have HT:=qI Hf;have HW:=qI (wi HR Hf o HF.o.notInt);have HN:=qI (Y.o.le (bF (λj r i=>⟨i,Hf.block j r λe=>i (by omega)⟩) Hf.size));have Ht:Hu (w<=D/\(0<s.ds.length->w<=A)):=⟨by omega,λu=>by have:=T u;omega⟩;clear Hr U Hf HX T HH
 go_wp2
 go_ret;exact⟨.inl ⟨rfl,l',HZ,_,G,D,A,M,c',HM,HN,HS,HV,Ht.o.1,Ht.o.2,HW⟩,Hm.o.trans (HT.o.wide λj r=>.inl r)⟩
def Iw (w w':World) (N:Nat->Prop) (c:dp) (Bd Be Bm:Nat) (dk:Dk) (n:Nat) (rs:List Rn) (hs:List ae) (e:Ending):Prop:=
 (∃Ba dk' n',e=.returned (.tuple #[.pointer (some ⟨Ba,0,none⟩),.nilIface])/\(dk.l=-1->dk'.l=-1)/\n'<=n+eQ rs (aL hs)/\aE w' N Ba Bd Be Bm ⟨cT c,c.ds,hs⟩ dk' n'/\w.heap.size<=Ba/\fR w w' Ba)\/(dk.l≠-1/\e=.returned (.tuple #[.pointer none,aD ((11:Nat):Int)])/\∃(n':Nat) (C:Rn->Prop),n'<=n+36/\bz w' Be Bd Bm n' dk.n dk.k 0 true C)
abbrev tW:=λ(x0:Nat) (x1:aJ) (x2 x3 x4:Nat)=>(.cells #[x0,.int .u64 x1.op,.int .u8 x1.nd,(x1.nb:Int),(x1.pol:Int),x2,x3,.slice none 0 0,.int .u64 x1.op,x4] 98:Obj)
abbrev rC:=λ(x0:Nat) (x1:aJ)=>(.cells #[x0,.int .u64 x1.op,.int .u8 x1.nd,(x1.nb:Int),(x1.pol:Int)] 84:Obj)
abbrev rD:=λ(x0:aJ) (x1:Nat)=>(.cells #[.int .u64 x0.op,x1] 87:Obj)
theorem Iy(N:Nat->Prop){c:dp}{S v2:Value}{g o d u s:Nat}{k:Dk}{n:Nat}(rs:List Rn){w:World}(Z:fZ w S c.l)(h2:et w v2 g o c.ds)(hk:c.keep<18446744073709551616)(A:bu w d k)(D:fh k)(I:k.k=k.n)(G:k.n.fb.data.toList.length<=1000000)(O:bz w u d s n k.n k.k k.l false (λa=>a∈rs))(E:n<=900)(ht:cJ w)(hm:dH w)(hN:∀j,N j->j<w.heap.size/\∃p,w.cell? ⟨j,0,none⟩=some (.pointer p))(B:¬ N d/\¬ N s/\¬ N u){hs:List ae}{U:aC}(L:k.load=(0,hs))(J:bS hs=0)(m:bi (cT c) c.ds hs=some U)(y:cr (cT c) (hs.map ae.pod)=true)(hC:(bw hs).length<=6000)(hf:cR c=0) :
  Calls pg 16 #[.agg #[S,.int .u64 (c.keep:Nat),(c.nb:Int),v2,(c.pol:Int)],.pointer (some ⟨d,0,none⟩),.pointer (some ⟨u,0,none⟩)] w λe w'=>Iw w w' N c d u s k n rs hs e/\Apart (gq d s) w w':=by
 obtain⟨ca,cc,HX⟩:∃ca cc,S=.slice ca c.l.length cc:=by
  rcases id Z with⟨hl,ao,q,rfl⟩|⟨b,o,q,rfl,_⟩
  ·grind
  ·exact⟨_,q,rfl⟩
 have ha:=qI I;clear I;subst HX;obtain⟨da,dc,H6,H3⟩:=id h2;clear H3;subst H6;obtain⟨hy,hA,H5⟩:=O.lt;obtain⟨hu,hB,hz⟩:=O.apart;have Hn:=qI ((Q0 w w).alloc (lR) (.cells #[.slice ca c.l.length cc,.int .u64 (c.keep:Nat),(c.nb:Int),.slice da c.ds.length dc,(c.pol:Int)] 27));have HO:=qI (Ae c (Z.below Hn) (h2.le (aR.of_below Hn)) hk);have Hx:=qI A;have HE:=qI O;have HT:=qI ht;have HM:=qI hm;have Hy:=qI hN;have HR:=qI B;clear Z h2 A O ht hm hN B
 go_enter func16,ntmps16
 go_wp2
 generalize w.alloc (.cells #[.slice ca c.l.length cc,.int .u64 (c.keep:Nat),(c.nb:Int),.slice da c.ds.length dc,(c.pol:Int)] 27)=X at *;refine HO.o.mono ?_;rintro e h ⟨HH,Hf,HJ⟩;have Ho:=Hn.t HJ;have hg:=Ho.o.size;have hx:=Hn.o.size;clear HJ HO;obtain⟨f,b,Y,i,db,ao,pc,rfl,Hz,Hg,Ht,Hj⟩:=Hf hf;obtain⟨K,H,T,z⟩:=v6 hf;have Hc:=qI Hz;have HQ:=qI Hg;have hw:=Hg.pool.lt;have HC:Hu (0<c.ds.length->w<=db/\db<h):=λx=>⟨by have:=Hj x;omega,(Hg.pool.at0 x).2.2⟩
 have he:w<=i:=by omega
 have HI:=Hz.op;have hb:Hu (0<=(cT c).nb):=H.1;have HK:=qI z;have HP:=qI (Ad K);clear HH Hf Hz Hg Ht Hj K H T z;unfold mV sV;dsimp only;obtain⟨M,Q⟩:∃M,M=cT c:=⟨_,rfl⟩;rw[<- Q] at Hc HQ HI hb ⊢;have Hr:=qI Q;have H0:Hu (M.l=c.l):=by unfold Hu;rw[Q];rfl
 clear Q;have HG:=qI ((Ho.o.alloc hg (rC f M)).alloc (by simp;omega) (rD M i));have Hl:=qI (((Q0 h h).alloc (lR) (rC f M)).alloc (by simp) (rD M i));have Hk:=qI (bQ (aY h (rC f M) rfl) (rD M i));have HL:=qI (aY (h.alloc (rC f M)) (rD M i) (n:=h.heap.size+1) (by simp));have Hs:((h.alloc (rC f M)).alloc (rD M i)).heap.size=h.heap.size+2:=by simp
 go_wp2
 generalize ((h.alloc (rC f M)).alloc (rD M i))=r at *;have H8:=qI (XI (p6 (Hx.o.below HG) D));refine H8.o.m λwz Hp=>?_;have Hp:=Hp.symm;subst Hp;clear Hp;obtain⟨m0,m1,m2,m3,m4⟩:=c5 Hk;obtain⟨t0,t1⟩:=c2 HL;have Hb:=qI (HG.o.alloc HG.o.size (tW f M d u i));have He:=qI (Hl.o.alloc Hl.o.size (tW f M d u i));have HU:Hu (r.heap.size<(r.alloc (tW f M d u i)).heap.size):=by unfold Hu;simp
 have W:Hu (b6 (r.alloc (tW f M d u i)) r f M d u () M.op i):=aY r _ rfl
 go_wp2
 generalize r.alloc (tW f M d u i)=R at *;clear m0 m1 m2 m3 m4 t0 t1;rw[Hs] at W;obtain⟨t,Hv⟩:∃t,t=h.heap.size+2:=⟨_,rfl⟩;rw[<- Hv] at W Hs ⊢;have HZ:h.heap.size<t:=by omega
 have HW:t<R.heap.size:=by rw[<- Hs];exact HU.o
 have H7:w.heap.size<=t:=by omega
 have hp:=qI Hv;clear Hv Hs;have HD:Hu (aM R i db ao pc c.ds λ_=>false):=HQ.o.pool.below He;have HV:=qI (Y6 rs W HD (by omega) (λx=>by have:=HC.o x;rintro (e|e|e) <;> omega) (lr HK) HI (Hx.o.below Hb) D G L (HE.o.below Hb) E (HT.o.below Hb) (HM.o.below Hb) J (by rw[Hr.o];exact m) (by rw[Hr.o];exact y) ⟨by omega,by omega,by omega⟩);refine HV.o.mono ?_;rintro e F ⟨HY,Ha⟩
 rcases HY with⟨rfl,l',Hq,hv,P,hD,hG,hF,c',Hh,hh,Hw,Hg,Ht,Hj,Hm⟩|⟨HF,rfl,P,C,Hh,Hm⟩
 rotate_left
 ·have HN:Hu (Iw w F N c d u s k n rs hs (.returned (.tuple #[.pointer none,aD ((11:Nat):Int)]))):=.inr ⟨HF,rfl,P,C,Hh,Hm⟩;have V:Hu (Apart (gq d s) w F):=⟨Ha.os.trans Hb.o.os,Ha.tape.trans Hb.o.tape,Ha.output.trans Hb.o.output,Q5 Hb.o.size Ha.size,λj v E=>(Ha.block j (by omega) (by omega)).trans (Hb.o.block j v)⟩;clear Ha HF Hh Hm;rw[gX] at HN ⊢
  go_wp2
  go_ret2;exact⟨HN,V⟩
 have H2:Hu (fR w F t):=zW Hw Hg (by omega) (λx=>by omega);have H1:=qI (Hh);have Hi:Hu (aE F N t d u s ⟨cT c,c.ds,hs⟩ { k with l:=l' } P):=by
  have hq:=He.o.size;have HS:∀j,w.heap.size<=j->¬ N j:=λj v e=>by have:=(Hy.o j e).1;omega
  have f4:∀j,R.heap.size<=j->¬ four N t d s j:=λj v e=>by
   grind
  refine⟨⟨HK,J,⟨_,m⟩⟩,⟨D.1,⟨Hq.1,Hq.2.1⟩,D.2.2⟩,HP,Hm,⟨by omega,by omega,by omega⟩,⟨HS t (by omega),HR⟩,λj v=>by have:=(Hy.o j v).1;have:=Ha.size;omega,⟨hC,L,ha,G⟩,f,b,Y,hv,hD,hG,hF,c',U,?_,hh.le (bF (λj v E=>⟨λe=>E (by
   grind),rfl⟩) (lR)),?_,?_,Hg,f4 _ Ht,λx=>f4 _ (Hj x)⟩
  ·rw[<- Hr.o];exact Hw
  ·rw[<- Hr.o];obtain⟨xs,H4,_⟩:=HE.o.map;have x:0<M.l.length:=by rw[H0.o];exact HP.o
   have HF:=XV Hc.o.topo x (p6 (Hx.o.below Ho) D) (H4.block (Ho.o.block s H5));have ho:=Hc.o.topo.tlt;have hi:=Hc.o.topo.lt;have hr:∀j,N j->f≠j/\b≠j:=λj v=>by
    obtain⟨q1,p,q2⟩:=Hy.o j v;exact XW Hc.o.topo x ((Ho.o.cell (p:=j) q1).trans q2)
   have nt:¬ four N t d s f:=by
    grind
   have nb:¬ four N t d s b:=by
    grind
   refine⟨lh Hc.o.topo ?_ ?_ ?_,Hc.o.good,Hc.o.op,Hc.o.nd,Hc.o.pol⟩
   ·rw[cH nt,Ha.block f (by omega) λe=>nt (.inr e),He.o.block f (by omega)]
   ·rw[cH nb,Ha.block b (by omega) λe=>nb (.inr e),He.o.block b (by omega)]
   ·rw[cC];have:=Ha.size;omega
  ·exact m
 have V:Hu (Apart (gq d s) w F):=⟨Ha.os.trans Hb.o.os,Ha.tape.trans Hb.o.tape,Ha.output.trans Hb.o.output,Q5 Hb.o.size Ha.size,λj v E=>(Ha.block j (by omega) (by omega)).trans (Hb.o.block j v)⟩;have H9:=qI Hq;clear hh Hw Hg Ht Hj Hm Ha Hh Hq
 go_wp2
 go_ret2;exact⟨.inl ⟨t,_,P,rfl,H9.o.2.2,H1,Hi,by omega,H2⟩,V⟩
