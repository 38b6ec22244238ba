import Derived.Test.YtjlblidnfebmiaaGreatDoorY28
set_option maxRecDepth 100000
set_option maxHeartbeats 16000000
open Go Go.RowKit Go.Shelf
attribute [local go_sem] Oper.semAt_some
open Go.Proofs.Tryz
namespace Go.Proofs.YtjlblidnfebmiaaGreatDoor
variable{Bd Be Bm n:Nat}{C:Rn->Prop}{W:World}{d:Bool}{l:Int}{sk sn:Sd}
structure bz (W:World) (Be Bd Bm n:Nat) (sn sk:Sd) (l:Int) (d:Bool) (C:Rn->Prop):Prop where
 eng:fU W Be Bd Bm
 disk:aQ W Bd sn sk (.slice none 0 0) l d
 map:∃xs,bI W Bm n xs/\(∀x∈xs,gA W x/\x.dn<=1000)/\∀a,a∈xs.map (aN W)↔C a
theorem bz.congr{b:Rn->Prop}(h:bz W Be Bd Bm n sn sk l d C)(c:∀a,C a↔b a):bz W Be Bd Bm n sn sk l d b:=by
 obtain⟨f,k,j,e,i,g⟩:=h;exact⟨f,k,j,e,i,λa=>(g a).trans (c a)⟩
theorem bz.lt(h:bz W Be Bd Bm n sn sk l d C):Be<W/\Bd<W/\Bm<W:=by
 obtain⟨b,c,e,a,_⟩:=h;exact⟨b.lt,c.lt,a.lt⟩
theorem bz.apart(h:bz W Be Bd Bm n sn sk l d C):Be≠Bd/\Be≠Bm/\Bd≠Bm:=by
 obtain⟨b,c,e,a,_⟩:=h;exact nJ b a c
theorem bz.below{W':World}(h:bz W Be Bd Bm n sn sk l d C)(b:Bw W W'):bz W' Be Bd Bm n sn sk l d C:=by
 obtain⟨e,f,k,c,j,g⟩:=h;obtain⟨i,m⟩:=lV j (dY.below b);exact⟨e.block (b.block Be e.lt),(b.block Bd f.lt).trans f,k,c.block (b.block Bm c.lt),i,λa=>by rw[m];exact g a⟩
theorem bz.of{rs:List Rn}(h:pQ W Be Bd Bm n rs)(ah:aQ W Bd sn sk () l d):bz W Be Bd Bm n sn sk l d (λa=>a∈rs):=⟨h.1,ah,h.2⟩
theorem Gx(h:l≠0):cN l false=0/\fE l false=false:=by
 grind[cN,fE]
theorem oy(h:-1<=l/\l<=1000):-1<=bn l false/\bn l false<=1000:=by
 grind[bn]
theorem VJ{d k g n:Nat}{r o:Sd}{l:Int}(C:Rn->Prop)(p c:ByteArray){W:World}(s:l≠0)(J:-1<=l/\l<=1000)(h:bz W d k g n r o l false C)(H:p.size<=7000)(A:c.size<=7000)(j:∃a,C a/\mP a=(p,c)) :
  Calls pg 101 #[.pointer (some ⟨d,0,none⟩),.string p,.string c] W λe W'=>e=.returned .nilIface/\bz W' d k g n r o (bn l false) false (λa=>C a/\mP a≠(p,c))/\bL k g W W':=by
 obtain⟨i,v,q,m,D,t⟩:=h;obtain⟨Hc,Hf,_⟩:=nJ i m v;have Ha:(q.any λy=>decide (y.pod=p/\y.cont=c))=true:=by
  obtain⟨a,b,u⟩:=j;exact Gt.2 ⟨a,(t a).2 b,u⟩
 refine (Ct (g:=d) (f:=k) (b:=g) (n:=n) (s:=r) (q:=o) (r:=.slice none 0 0) (h:=q) p c (l:=l) (d:=false) (w:=W) i m v (by omega) H A).mono ?_;obtain⟨K,I⟩:=Gx s;rw[Ha,show mB l false true=0 by grind[mB]];rintro e W' ⟨rfl,hs⟩;refine⟨rfl,⟨i.block (hs.o.block d i.lt Hc Hf),by have:=hs.disk;rw[I] at this;exact this,_,hs.yes rfl,?_⟩,hs.o⟩;have E:=hs.o.kint v.notInt m.notInt;obtain⟨B,z⟩:=lV D E;refine⟨λx f=>B x (List.mem_filter.1 f).1,λa=>?_⟩;constructor
 ·intro b;obtain⟨x,f,rfl⟩:=Qk.1 b;obtain⟨He,Hb⟩:=List.mem_filter.1 f
  have:aN W' x∈q.map (aN W):=by rw[<- z];exact Qk.2 ⟨x,He,rfl⟩
  refine⟨(t _).1 this,λw=>?_⟩;have F:x.pod=p:=congrArg Prod.fst w;have G:x.cont=c:=congrArg Prod.snd w;rw[Qc ⟨F,G⟩] at Hb;cases Hb
 ·rintro⟨b,u⟩
  have:=(t a).2 b
  rw[<- z] at this;obtain⟨x,f,rfl⟩:=Qk.1 this;refine Qk.2 ⟨x,List.mem_filter.2 ⟨f,?_⟩,rfl⟩;rw[Q7 λj=>u (by show (x.pod,x.cont)=(p,c);rw[j.1,j.2])];rfl
theorem VK{b c d n:Nat}{o i:Sd}{l:Int}(C:Rn->Prop){x:RV}{W:World}(p:l≠0)(z:-1<=l/\l<=1000)(h:bz W b c d n o i l false C)(D:x.Short)(r:bB W x)(q:nB c x)(m:x.dn<=1000)(E:n<1000)(k:∀a,C a->mP a≠(x.pod,x.cont)) :
  Calls pg 102 #[.pointer (some ⟨b,0,none⟩),.agg #[x.pod,x.cont,.int .u64 x.cpus,.slice x.da x.dn x.dc]] W λe W'=>e=.returned .nilIface/\bz W' b c d (n+1) o i (bn l false) false (λa=>C a\/a=aN W x)/\bL c d W W':=by
 obtain⟨f,s,j,g,u,A⟩:=h;obtain⟨Hb,Hc,_⟩:=nJ f g s;have Ha:(j.any λy=>decide (y.pod=x.pod/\y.cont=x.cont))=false:=by
  cases hb:(j.any λy=>decide (y.pod=x.pod/\y.cont=x.cont)) with
  | false=>rfl
  | true=>
   obtain⟨a,t,e⟩:=(Gt (W:=W)).1 hb;exact absurd e (k a ((A a).1 t))
 refine (Cr (g:=b) (j:=c) (i:=d) (n:=n) (A:=o) (t:=i) (u:=.slice none 0 0) (m:=j) (x:=x) (l:=l) (d:=false) (w:=W) f g s (by omega) D r q m E).mono ?_;obtain⟨F,w⟩:=Gx p;rw[Ha,show mA l false false=0 by grind[mA]];rintro e W' ⟨rfl,hs⟩;obtain⟨J,L,B,K,ah⟩:=hs.yes rfl;refine⟨rfl,⟨f.block (hs.o.block b f.lt Hb Hc),by have:=hs.disk;rw[w] at this;exact this,_,B,?_⟩,hs.o⟩;have v:=hs.o.kint s.notInt g.notInt;obtain⟨G,H⟩:=lV u v;refine⟨λy I=>?_,λa=>?_⟩
 ·grind
 ·grind[aN]
theorem VL{d i f n:Nat}{o k:Sd}(C:Rn->Prop)(p c:ByteArray){W:World}(h:bz W d i f n o k 0 false C)(r:p.size<=7000)(q:c.size<=7000) :
  Calls pg 101 #[.pointer (some ⟨d,0,none⟩),.string p,.string c] W λe W'=>e=.returned (aD ((11:Nat):Int))/\bz W' d i f n o k 0 true C/\bL i f W W':=by
 obtain⟨g,m,l,j,v,u⟩:=h;obtain⟨Ha,Hb,_⟩:=nJ g j m;refine (Ct (g:=d) (f:=i) (b:=f) (n:=n) (s:=o) (q:=k) (r:=.slice none 0 0) (h:=l) p c (l:=0) (d:=false) (w:=W) g j m (by omega) r q).mono ?_;generalize (l.any λy=>decide (y.pod=p/\y.cont=c))=b;rw[show mB 0 false b=11 from rfl];rintro e W' ⟨rfl,hs⟩;obtain⟨s,t⟩:=lV v (hs.o.kint m.notInt j.notInt);exact⟨rfl,⟨g.block (hs.o.block d g.lt Ha Hb),hs.disk,l,hs.no (by decide),s,λa=>by rw[t];exact u a⟩,hs.o⟩
theorem VM{c d f n:Nat}{q j:Sd}(C:Rn->Prop){x:RV}{W:World}(h:bz W c d f n q j 0 false C)(s:x.Short)(m:bB W x)(l:nB d x)(o:x.dn<=1000)(w:n<1000) :
  Calls pg 102 #[.pointer (some ⟨c,0,none⟩),.agg #[x.pod,x.cont,.int .u64 x.cpus,.slice x.da x.dn x.dc]] W λe W'=>e=.returned (aD ((11:Nat):Int))/\bz W' c d f n q j 0 true C/\bL d f W W':=by
 obtain⟨g,p,k,i,v,u⟩:=h;obtain⟨Ha,Hb,_⟩:=nJ g i p;refine (Cr (g:=c) (j:=d) (i:=f) (n:=n) (A:=q) (t:=j) (u:=.slice none 0 0) (m:=k) (x:=x) (l:=0) (d:=false) (w:=W) g i p (by omega) s m l o w).mono ?_;generalize (k.any λy=>decide (y.pod=x.pod/\y.cont=x.cont))=b;rw[show mA 0 false b=11 from rfl];rintro e W' ⟨rfl,hs⟩;obtain⟨r,t⟩:=lV v (hs.o.kint p.notInt i.notInt);exact⟨rfl,⟨g.block (hs.o.block c g.lt Ha Hb),hs.disk,k,hs.no (by decide),r,λa=>by rw[t];exact u a⟩,hs.o⟩
def zI (w':World) (Be Bd Bm n:Nat) (sn sk:Sd) (l:Int) (rs:List Rn) (hs:List ae) (e:Ending):Prop:=
 (∃l',(-1<=l'/\l'<=1000/\(l=-1->l'=-1))/\e=.returned .nilIface/\∃n',n'<=n+eQ rs (aL hs)/\bz w' Be Bd Bm n' sn sk l' false λa=>a∈aL hs)\/(l≠-1/\e=.returned (aD ((11:Nat):Int))/\∃(n':Nat) (C:Rn->Prop),n'<=n+36/\bz w' Be Bd Bm n' sn sk 0 true C)
theorem zJ{u p q n:Nat}{F D:Sd}{l:Int}(rs:List Rn){v:Value}{hs:List ae}{w:World}(j1:-1<=l/\l<=1000)(hE:bz w u p q n F D l false (λa=>a∈rs))(hH:bf (av (gq p q) w) v hs)(hF:bS hs=0)(hn:n+36<=1000) :
  Calls pg 57 #[.pointer (some ⟨u,0,none⟩),v] w λe w'=>zI w' u p q n F D l rs hs e/\bL p q w w':=by
 obtain⟨Ja,Jd,h9⟩:=hE.lt;obtain⟨h7,Je,Jc⟩:=hE.apart;have HE:=qI hE;have h3:=qI (FZ hF);have hN:=qI (vL hF);have ht:=qI (F8 hF);obtain⟨f1,f2,_⟩:=dm.1 hF;have HV:=qI λ(W:World) (l:aR (av (gq p q) w) W)=>Vf hH l (by omega) λx H=>⟨(f2 x H).2.1,by have:=(jo (f2 x H).1).2.2.1;have:=(f2 x H).2.1;omega⟩;obtain⟨he,ah,xs,hm,H7,hg⟩:=hE;have hK:xs.length<=1000:=by
  obtain⟨_,es,ho,hp⟩:=hm;have h1:=ho.size_le;have h2:=hp.length_eq;unfold md at h2;rw[Q9] at h2;rw[Go.Maps.size_eq] at h1;omega
 have Hy:=qI (Cs he hm hK λx H=>⟨(H7 x H).1.1,(H7 x H).2⟩);have hv:=qI hg;have hU:=qI hm.1;have hc:=qI (F9 (W:=w) hm.keys);obtain⟨ao,c,rfl,_,_⟩:=hH;clear hF f1 f2 he ah hm H7 hg
 go_enter func57,ntmps57
 go_wp2
 refine Hy.o.mono ?_;rintro e W1 ⟨⟨v1,b,rfl,hD,hf,Hh,_⟩,Hw⟩;have h8:=qI Hw;clear Hy
 go_wp2
 refine (HV.o W1 ((df).trans (aR.of_below Hw))).mono ?_;rintro e o ⟨v2,d,rfl,K,hC,hq,S⟩;clear HV;have Jh:=Hw.size;have h5:=S.size;have hT:=qI (Hw.trans (S.mono Hw.size));have X:=qI (bL.of_below (B1:=p) (B2:=q) (Hw.trans (S.mono Hw.size)));have H3:=qI (pR hD (λj _ hj=>S.block j hj) S.size);have H6:=qI (Gu hC);have hb:Hu (∀y∈b,((bB o y/\y.dn<=1000)/\lA w y)/\aN o y=aN W1 y):=λy E=>by
  obtain⟨⟨J,V⟩,U⟩:=hf y E;obtain⟨P,Z⟩:=J.below S λ_ _ _ h=>h;exact⟨⟨⟨P,V⟩,U⟩,by unfold aN;rw[Z]⟩
 have Hx:=List.map_congr_left λy E=>(hb.o y E).2
 have HX:Hu (∀a,a∈b.map (aN o)↔a∈rs):=λa=>by rw[Hx,Hh.mem_iff];exact hv.o a
 have hI:Hu (((b.map (aN o)).map mP).Nodup):=by grind
 have Jb:b.length<=1000:=by
  have:=Hh.length_eq
  rw[Q9,Q9] at this;omega
 have hJ:Hu (∀y∈b,y.Short):=λy E=>by
  have h1:=Hh.mem_iff.1 (Qk.2 ⟨y,E,rfl⟩);obtain⟨x,H,e⟩:=Qk.1 h1
  have:=hU.o x H
  have P:x.pod=y.pod:=congrArg Rn.pod e;have Z:x.cont=y.cont:=congrArg Rn.cont e;unfold RV.Short at *;rw[<- P,<- Z];exact this
 have HZ:=qI K;have HU:=qI hq;have h6:d.length<=36:=by
  have:=hN.o
  rw[<- K,Q9] at this;exact this
 have hX:=qI (HE.o.below hT);clear hD hf Hh Hw S K hC hq Hx hc hv;obtain⟨a1,c1,hR,_,_⟩:=id H3.o;subst hR;obtain⟨a2,c2,hA,_,_⟩:=id H6.o;rw[Q9] at hA;subst hA
 go_wp2
 go_loopw [19] (λi wr=>∃(k:Nat) (C:Int),(-1<=C/\C<=1000/\(l=-1->C=-1))/\k<=b.length/\i=.int .i64 k/\bz wr u p q n F D C false (λa=>a∈b.map (aN o)/\(a∈aL hs\/a∈(b.map (aN o)).drop k))/\bL p q o wr) (λi _=>b.length - (intOf i).toNat)
 exact⟨0,l,⟨j1.1,j1.2,id⟩,by omega,rfl,hX.o.congr (λa=>by rw[List.drop_zero,HX.o a];exact⟨λh=>⟨h,.inr h⟩,λh=>h.1⟩),bL.refl _ _ _⟩
 ·obtain⟨k,C,hi,hk,rfl,HQ,Hb⟩:=hrel;have Hq:=qI hi;clear hi;have Hz:=qI HQ;have Hv:=qI Hb;have hZ:=Hb.size;clear HQ
  by_cases t:k<b.length
  ·have H1:=pR H3 (W':=wr) (λj hj f=>Hb.block j f (by omega) (by omega)) Hb.size;obtain⟨j6,j5,H5,_,Ho⟩:=H1;injection H5 with P Z e3
   subst P e3;obtain⟨g,rfl,hY,hP,HS⟩:=Ho (by omega);obtain⟨⟨x0,x1,x2,x3⟩,_⟩:=HS k t;have HB:=o8 t;obtain⟨⟨⟨J,V⟩,U⟩,_⟩:=hb.o _ HB;obtain⟨hu,hG⟩:=hJ.o _ HB;have Y:(b.map (aN o))[k]'(by grind)=aN o (rv b k):=by simp[rv,t]
   obtain⟨d4,d5⟩:=Gv (W':=wr) J (λgg oo h0 O=>by
    obtain⟨g2,Hj,hO⟩:=U h0;rw[O] at Hj;injection Hj with Hj
    injection Hj with Hj
    subst Hj;obtain⟨g4,o4,Hk,H2,_⟩:=J h0;rw[O] at Hk;injection Hk with Hk
    injection Hk with Hk
    subst Hk;exact Hb.block _ H2 (by omega) (by omega)) Hb.size
   have Hg:=qI ((Q0 wr wr).alloc (lR) (dF (rv b k)));obtain⟨d6,d7⟩:=d4.below Hg λ_ _ _ h=>h;have HK:Hu (aN (wr.alloc (dF (rv b k))) (rv b k)=aN o (rv b k)):=by grind[aN]
   have R:=qI ((X.o.trans Hb).trans (bL.of_below Hg));have Hc:=qI (Ge (pR (pR H6 (λj hj f=>Hb.block j f (by omega) (by omega)) Hb.size) (λj _ f=>Hg.o.block j f) Hg.o.size) (λy E=>by
    obtain⟨z,K,rfl⟩:=Qk.1 E;obtain⟨G,_,_,q4⟩:=zed (HU.o z K) R
    have:=(ht.o z.2 (by rw[<- HZ.o];exact Qk.2 ⟨z,K,rfl⟩)).2.2
    exact⟨G,by omega⟩) ⟨d6,V⟩ (by grind))
   have He:Hu ((((d.map Prod.fst).any λy=>eP (wr.alloc (dF (rv b k))) y (rv b k))=true)↔(b.map (aN o))[k]'(by grind)∈aL hs):=by
    unfold Hu;rw[Gw,HK.o,Y,List.map_map];have e:d.map (aN (wr.alloc (dF (rv b k))) ∘ Prod.fst)=aL hs:=by
     rw[<- HZ.o];exact List.map_congr_left λz K=>(zed (HU.o z K) R).2.1
    rw[e]
   have Hl:=qI (aY wr (dF (rv b k)) rfl);have Hi:k<(b.map (aN o)).length:=by grind
   have HR:=qI Y;have hV:(k:Int)<(b.length:Int):=by omega
   have HY:(wr.alloc (dF (rv b k))).heap.size=wr.heap.size+1:=by simp
   clear HS Ho J V U d4 d5 d6 d7 Y HB;generalize rv b k=y at *;unfold dF at Hc Hl Hg HY He R;generalize ((d.map Prod.fst).any λz=>eP _ z y)=bb at *
   go_wp2
   generalize wr.alloc (.cells #[y.pod,y.cont,.int .u64 y.cpus,.slice y.da y.dn y.dc] 129)=W3 at *;refine Hc.o.m λB M=>?_;have Hm:=qI (Hg.o.trans (M.mono (by omega)));have Hs:=(M.block wr (by omega)).trans Hl;have b0:cl B wr (0) y.pod:=ad Hs 0;have b1:cl B wr (1) y.cont:=ad Hs 1;clear M Hs Hc x0 x1 x2 x3
   rcases two bb with L|L
   ·subst L;have I:=qI (He.o.1 rfl)
    go_wp2
    go_roundw
    exact⟨k+1,C,Hq,by omega,by go_num,(Hz.o.below Hm).congr λa=>(UQ Hi I a).symm,Hv.o.trans (bL.of_below Hm)⟩
    simp[intOf];omega
   ·subst L;have I:Hu ((b.map (aN o))[k]'Hi ∉ aL hs):=λh=>by have:=He.o.2 h;cases this
    have HT:=qI (Hz.o.below Hm)
    by_cases s:C=0
    ·subst s;have Hf:=qI (VL _ y.pod y.cont HT hu hG)
     go_wp2
     refine Hf.o.m λW5 ⟨Hp,Hn⟩=>?_;have HP:Hu (zI W5 u p q n F D l rs hs (.returned (aD ((11:Nat):Int)))):=.inr ⟨λe=>by have:=Hq.o.2.2 e;omega,rfl,n,_,by omega,Hp⟩;have Q:=qI ((Hv.o.trans (bL.of_below Hm)).trans Hn);clear Hp Hn Hf;rw[gX] at HP ⊢
     go_wp2
     go_ret;exact⟨HP,X.o.trans Q⟩
    have Hf:=qI (VJ _ y.pod y.cont s ⟨Hq.o.1,Hq.o.2.1⟩ HT hu hG ⟨(b.map (aN o))[k]'Hi,⟨List.getElem_mem Hi,.inr (by simp_all[List.drop_eq_getElem_cons])⟩,by rw[HR.o];rfl⟩);have HH:Hu (-1<=bn C false/\bn C false<=1000/\(l=-1->bn C false=-1)):=⟨(oy ⟨Hq.o.1,Hq.o.2.1⟩).1,(oy ⟨Hq.o.1,Hq.o.2.1⟩).2,λe=>by rw[Hq.o.2.2 e];rfl⟩;clear s
    go_wp2
    refine Hf.o.m λW5 ⟨Hp,Hn⟩=>?_;have H8:=qI Hp;have Q:=qI ((Hv.o.trans (bL.of_below Hm)).trans Hn);clear Hp Hn Hf
    go_wp2
    go_roundw
    exact⟨k+1,_,HH,by omega,by go_num,H8.o.congr (λa=>by rw[UP mP Hi hI.o I.o a,HR.o];rfl),Q⟩
    simp[intOf];omega
  ·have H9:k=b.length:=by omega
   subst H9;have hL:Hu (bz wr u p q n F D C false λa=>a∈aL hs/\(a∈b.map (aN o)\/a∈(aL hs).take 0)):=Hz.o.congr (λa=>by
    grind[Q9])
   generalize hwm:wr=WM at *;clear hwm Hz
   go_wp2
   go_loopw [38] (λi wr=>∃(k m:Nat) (A:Int),(-1<=A/\A<=1000/\(l=-1->A=-1))/\k<=d.length/\i=.int .i64 k/\m<=n+eQ rs ((aL hs).take k)/\bz wr u p q m F D A false (λa=>a∈aL hs/\(a∈b.map (aN o)\/a∈(aL hs).take k))/\bL p q o wr) (λi _=>d.length - (intOf i).toNat)
   exact⟨0,n,C,Hq,by omega,rfl,by omega,hL,Hv⟩
   ·obtain⟨k,m,A,hw,hk,rfl,Jf,HQ,Hb⟩:=hrel;have Hr:=qI hw;clear hw;have Hz:=qI HQ;have Hv:=qI Hb;have hZ:=Hb.size;clear HQ
    by_cases t:k<d.length
    ·have H1:=pR H6 (W':=wr) (λj hj f=>Hb.block j f (by omega) (by omega)) Hb.size;obtain⟨j4,j3,H5,_,Ho⟩:=H1;injection H5 with P Z e3
     subst P e3;clear Z;obtain⟨g,rfl,hY,hP,HS⟩:=Ho (by grind);have Ht:=List.getElem_mem t;have HO:rv (d.map Prod.fst) k=d[k].1:=by simp[rv,t]
     have hh:=HS k (by grind);rw[HO] at hh;obtain⟨⟨x0,x1,x2,x3⟩,_⟩:=hh;have Hi:k<(aL hs).length:=by rw[<- HZ.o,Q9];exact t
     have Y:(aL hs)[k]'Hi=d[k].2:=by simp[<- HZ.o]
     have Hg:=qI ((Q0 wr wr).alloc (lR) (dF d[k].1));have R:=qI ((X.o.trans Hb).trans (bL.of_below Hg));obtain⟨G,T,N,q4⟩:=zed (HU.o _ Ht) R;obtain⟨Jx,j0,j2⟩:=ht.o d[k].2 (by grind);obtain⟨p1,p2,p3,p4⟩:=HU.o _ Ht;clear p3 p4;have H0:Hu (∀y∈b,bB (wr.alloc (dF d[k].1)) y/\y.dn<=1000/\aN (wr.alloc (dF d[k].1)) y=aN o y):=λy E=>by
      obtain⟨⟨⟨J,V⟩,U⟩,_⟩:=hb.o y E;obtain⟨d4,d5⟩:=Gv (W':=wr.alloc (dF d[k].1)) J (λgg oo h0 O=>by
       obtain⟨g2,Hj,hO⟩:=U h0;rw[O] at Hj;injection Hj with Hj
       injection Hj with Hj
       subst Hj;obtain⟨g4,o4,Hk,H2,_⟩:=J h0;rw[O] at Hk;injection Hk with Hk
       injection Hk with Hk
       subst Hk;exact (Hg.o.block _ (by omega)).trans (Hb.block _ H2 (by omega) (by omega))) (Q5 Hb.size Hg.o.size)
      exact⟨d4,V,by unfold aN;rw[d5]⟩
     have Hc:=qI (Ge (pR (pR H3 (λj hj f=>Hb.block j f (by omega) (by omega)) Hb.size) (λj _ f=>Hg.o.block j f) Hg.o.size) (λy E=>⟨(H0.o y E).1,(H0.o y E).2.1⟩) ⟨G,by omega⟩ (by omega));have He:Hu (((b.any λy=>eP (wr.alloc (dF d[k].1)) y d[k].1)=true)↔(aL hs)[k]'Hi∈b.map (aN o)):=by
      grind[Hu,Gw]
     have Hl:=qI (aY wr (dF d[k].1) rfl);have HR:=qI Y;have HA:=qI (HU.o _ Ht);have hl:=qI (VI (rs:=rs) Hi);have HD:=vM rs ((aL hs).take k);rw[Qu] at HD;have hV:(k:Int)<(d.length:Int):=by omega
     have HY:(wr.alloc (dF d[k].1)).heap.size=wr.heap.size+1:=by simp
     clear HS Ho G T N Y Ht H0 HO;generalize d[k]=z at *;obtain⟨y,r⟩:=z;dsimp only at x0 x1 x2 x3 Hc Hl Hg HY He R HR HA Jx j0 j2 p1 p2 q4;have hr:y.pod.size<=7000:=by rw[p1];exact Jx
     have hB:y.cont.size<=7000:=by rw[p2];exact j0
     have h4:y.dn<=16:=by omega
     clear p1 p2 q4;have HG:=qI HD;clear HD;unfold dF at Hc Hl Hg HY He R;generalize (b.any λz=>eP _ z y)=bb at *
     go_wp2
     generalize wr.alloc (.cells #[y.pod,y.cont,.int .u64 y.cpus,.slice y.da y.dn y.dc] 129)=W3 at *;refine Hc.o.m λB M=>?_;have Hm:=qI (Hg.o.trans (M.mono (by omega)));have Hs:=(M.block wr (by omega)).trans Hl;have b0:cl B wr (0) y.pod:=ad Hs 0;have b1:cl B wr (1) y.cont:=ad Hs 1;have b2:cl B wr (2) (.int .u64 y.cpus):=ad Hs 2;have b3:cl B wr (3) (.slice y.da y.dn y.dc):=ad Hs 3;clear M Hs Hc x0 x1 x2 x3
     rcases two bb with L|L
     ·subst L;have I:=qI (He.o.1 rfl)
      go_wp2
      go_roundw
      exact⟨k+1,m,A,Hr,by omega,by go_num,by have:=hl.o.1;omega,(Hz.o.below Hm).congr λa=>(UR Hi I a).symm,Hv.o.trans (bL.of_below Hm)⟩
      simp[intOf];omega
     ·subst L;have I:Hu ((aL hs)[k]'Hi ∉ b.map (aN o)):=λh=>by have:=He.o.2 h;cases this
      obtain⟨G,T,N,q5⟩:=zed HA ((X.o.trans Hb).trans (bL.of_below Hm));clear q5;dsimp only at G T N;have HT:=qI (Hz.o.below Hm)
      by_cases s:A=0
      ·subst s;have Ha:=qI (VM _ HT ⟨hr,hB⟩ G N (by omega) (by have:=HG.o;omega));have hS:Hu (m<=n+36):=by have:=HG.o;unfold Hu;omega
       clear G T N
       go_wp2
       refine Ha.o.m λW5 ⟨Hp,Hn⟩=>?_;have HP:Hu (zI W5 u p q n F D l rs hs (.returned (aD ((11:Nat):Int)))):=.inr ⟨λe=>by have:=Hr.o.2.2 e;omega,rfl,m,_,hS,Hp⟩;have Q:=qI ((Hv.o.trans (bL.of_below Hm)).trans Hn);clear Hp Hn Ha;rw[gX] at HP ⊢
       go_wp2
       go_ret;exact⟨HP,X.o.trans Q⟩
      have Ha:=qI (VK _ s ⟨Hr.o.1,Hr.o.2.1⟩ HT ⟨hr,hB⟩ G N (by omega) (by have:=HG.o;omega) (λa O=>by
       have:=UT mP Hi h3 I a O
       rw[HR.o,<- T] at this;exact this))
      have HH:Hu (-1<=bn A false/\bn A false<=1000/\(l=-1->bn A false=-1)):=⟨(oy ⟨Hr.o.1,Hr.o.2.1⟩).1,(oy ⟨Hr.o.1,Hr.o.2.1⟩).2,λe=>by rw[Hr.o.2.2 e];rfl⟩;clear s;have HK:Hu (aN B y=(aL hs)[k]'Hi):=by simp_all[Hu]
      have hM:Hu (∀a,((a∈aL hs/\(a∈b.map (aN o)\/a∈(aL hs).take k))\/a=aN B y)↔(a∈aL hs/\(a∈b.map (aN o)\/a∈(aL hs).take (k+1)))):=λa=>by
       rw[HK.o];exact (FW Hi a).symm
      have hW:Hu (m+1<=n+eQ rs ((aL hs).take (k+1))):=by
       unfold Hu
       have:=hl.o.2 λh=>I.o ((HX.o _).2 h)
       omega
      clear G T N
      go_wp2
      refine Ha.o.m λW5 ⟨Hp,Hn⟩=>?_;have H8:=qI Hp;have Q:=qI ((Hv.o.trans (bL.of_below Hm)).trans Hn);clear Hp Hn Ha
      go_wp2
      go_roundw
      exact⟨k+1,m+1,_,HH,by omega,by go_num,hW,H8.o.congr hM,Q⟩
      simp[intOf];omega
    ·have H9:k=d.length:=by omega
     subst H9;have Jg:(aL hs).length=d.length:=by rw[<- HZ.o,Q9]
     have H4:Hu (∃n',n'<=n+eQ rs (aL hs)/\bz wr u p q n' F D A false λa=>a∈aL hs):=by
      refine⟨m,?_,Hz.o.congr λa=>?_⟩
      ·grind
      ·grind
     go_wp2
     go_ret;exact⟨.inl ⟨A,Hr,rfl,H4⟩,X.o.trans Hv⟩
