import Derived.Test.YtjlblidnfebmiaaGreatDoorY39
set_option maxRecDepth 100000
set_option maxHeartbeats 16000000
open Go Go.RowKit Go.Shelf
attribute [local go_sem] Oper.semAt_some
open Go.Proofs.Tryz
namespace Go.Proofs.YtjlblidnfebmiaaGreatDoor
variable{Ba Bd Be b base c cp db pb tb:Nat}{W W' w:World}{ao:Option Addr}{hv v:Value}{m:aJ}{ps:List aj}{s:aC}
def b6 (W:World) (Ba tb:Nat) (m:aJ) (Bd Be:Nat) (hv:Value) (cp pb:Nat):Prop:=W.heap[Ba]?=some (.cells #[tb,.int .u64 m.op,.int .u8 m.nd,(m.nb:Int),(m.pol:Int),Bd,Be,hv,.int .u64 cp,pb] 98 (0,0))
theorem b6.lt(h:b6 W Ba tb m Bd Be hv cp pb):Ba<W:=(gS h).1
theorem b6.block(h:b6 W Ba tb m Bd Be hv cp pb)(a:W'.heap[Ba]?=W.heap[Ba]?):b6 W' Ba tb m Bd Be hv cp pb:=a.trans h
theorem b6.below(h:b6 W Ba tb m Bd Be hv cp pb)(a:Bw W W'):b6 W' Ba tb m Bd Be hv cp pb:=h.block (a.block Ba h.lt)
theorem G8{d k:Nat}{m:aJ}{p j:Nat}{o:Value}{cp a db:Nat}{g:Option Addr}{c:Nat}{ds:List aq}{us:Nat->Bool}{w:World}(h:b6 w d k m p j o cp a)(f:aM w a db g c ds us)(q:fS ds) :
  Calls pg 40 #[.pointer (some ⟨d,0,none⟩)] w λe w'=>∃v,e=.returned v/\lF w w' v ds/\Bw w w':=by
 have l:=qI (Dm f q);unfold b6 at h;have r:=cb h 9;clear h f
 go_enter func40,ntmps40
 go_wp2
 refine l.o.mono ?_;rintro e w' ⟨v,rfl,b,n⟩;have i:=qI b;obtain⟨s,c1,g1,Ha,_⟩:=id b;subst Ha;clear b
 go_wp2
 go_ret;exact⟨_,rfl,i,n⟩
theorem tI.form{w':World}{e:Ending}{o:Option aC}(h:tI w w' e o):∃(cp:Int) (p:Option Addr) (b:Bool),e=.returned (.tuple #[.agg #[.int .u64 cp,.pointer p],b])/\b=o.isSome/\(∀s,o=some s->∃a db d c,cp=(s.cp:Int)/\p=some ⟨a,0,none⟩/\eS w' a db d c s/\w.heap.size<=a/\(0<s.ds.length->w.heap.size<=db)):=by
 cases o with
 | none=>
  obtain⟨cp,p,rfl⟩:=h;exact⟨cp,p,false,rfl,rfl,λs hs=>nomatch hs⟩
 | some s=>
  obtain⟨a,db,d,c,rfl,j,g,i⟩:=h;exact⟨_,_,true,rfl,rfl,λf hs=>by grind⟩
theorem vT(h:eS W pb db ao c s)(d:pb≠b)(f:0<s.ds.length->db≠b){j:Nat}{v:Value}:eS (W.setCell ⟨b,j,none⟩ v) pb db ao c s:=
 ⟨h.pool.kept (dD _ ⟨b,j,none⟩ _) (λe=>d (by injection e)) λa e=>f a (by injection e),h.nodes,h.cp⟩
abbrev zT:=λ(Ba tb:Nat) (m:aJ) (w':World)=>cl w' Ba (0) tb/\cl w' Ba (1) (.int .u64 m.op)/\cl w' Ba (2) (.int .u8 m.nd)/\cl w' Ba (3) (m.nb:Int)/\cl w' Ba (4) (m.pol:Int)
theorem zU{b j:Nat}{m:aJ}{x z:Nat}{t:Value}{cp f db:Nat}{l:Option Addr}{c:Nat}{ds:List aq}{us:Nat->Bool}{F:Value}{hs:List ae}{w:World}(h:b6 w b j m x z t cp f)(H:aM w f db l c ds us)(Q:fS ds)(G:bf w F hs)(y:m.op<18446744073709551616)(r:mW hs)(O:hs.length<=100) :
  Calls pg 52 #[.pointer (some ⟨b,0,none⟩),F] w λe w'=>tI w w' e (bi m ds hs)/\Bw w w':=by
 have Hh:=qI ((Q0 w w).alloc (lR) (.cells #[.int .u64 0,.pointer none] 87));have M:=qI (aY w (.cells #[.int .u64 0,.pointer none] 87) rfl);have d:=qI (h.below Hh);have N:=qI (H.below Hh);have J:=qI (G.below Hh);have Hz:(w.alloc (.cells #[.int .u64 0,.pointer none] 87)).heap.size=w.heap.size+1:=by simp
 have Hy:=h.lt;obtain⟨U,T,rfl,_,_⟩:=G;clear h H
 go_enter func52,ntmps52
 go_wp2
 generalize w.alloc (.cells #[.int .u64 0,.pointer none] 87)=X at *;unfold b6 at d;have Hi:Hu (∀W,Bw X W->(zT b j m) W):=λW n=>⟨ad ((n.block (b) (by omega)).trans d) 0,ad ((n.block (b) (by omega)).trans d) 1,ad ((n.block (b) (by omega)).trans d) 2,ad ((n.block (b) (by omega)).trans d) 3,ad ((n.block (b) (by omega)).trans d) 4⟩
 have Hg:Hu (Bw X X.drew):=bO (Q0 _ _);refine wp_region_held_drew (S:=zT b j m) (by kernel_rfl) (Hi.o _ Hg) λq=>?_;generalize X.drew=V at *;refine tk 0 ?_;refine tk 1 ?_;refine tk 2 ?_;refine tk 3 ?_;refine tk 4 ?_;refine tk 6 ?_;refine rd 5 λK i=>?_;go_simp
 go_wp2
 refine (G8 (b6.below (show b6 X b j m x z t cp f from d.o) Hg) (N.o.below Hg) Q).mono ?_;rintro e P ⟨R,rfl,Hk,Hl⟩;have He:=Hg.t Hl;have Hs:=qI Hk;obtain⟨Z,c1,g1,Hv,_⟩:=id Hk;subst Hv;clear Hl Hk
 go_wp2
 refine i.k (Hi.o _ He) λq=>?_;refine rd 7 λK i=>?_;go_simp
 go_wp2
 obtain⟨u,Hb⟩:=G5 Hs;refine (XE m j Hb (J.o.below He) y r O).mono ?_;rintro e k ⟨Hf,Hp⟩;have Ha:=He.t Hp;have Hq:=He.o.size;obtain⟨a,g,lb,rfl,Hm,Hw⟩:=Hf.form;have Hn:=qI Hm;have Hx:Hu (∀s,bi m ds hs=some s->∃f db l c,a=(s.cp:Int)/\g=some ⟨f,0,none⟩/\eS k f db l c s/\w.heap.size<f/\(0<s.ds.length->w.heap.size<db)):=λs hs=>by
  grind
 clear Hp Hf Hb Hm Hw
 go_wp2
 refine i.k (Hi.o _ Ha) λq=>?_;refine tk 8 ?_;refine tk 9 ?_;have Hc:=(Ha.o.block w (by omega)).trans M;obtain⟨D,B⟩:=c2 Hc;have E:=bZ Hc 0;have I:=bZ Hc 1;have Ho:=qI (bd (bd Hc 0 (.int .u64 a)) 1 (.pointer g));have Ht:=qI (((Hh.o.trans (Ha.o.mono (by omega))).setCell (p:=w.heap.size) (lR) (.int .u64 a)).setCell (p:=⟨w,1,none⟩) (lR) (.pointer g));have Hr:Hu ((zT b j m) ((k.setCell w (.int .u64 a)).setCell ⟨w,1,none⟩ (.pointer g))):=⟨ad ((set_other (by omega)).trans ((set_other (by omega)).trans ((Ha.o.block (b) (by omega)).trans d))) 0,ad ((set_other (by omega)).trans ((set_other (by omega)).trans ((Ha.o.block (b) (by omega)).trans d))) 1,ad ((set_other (by omega)).trans ((set_other (by omega)).trans ((Ha.o.block (b) (by omega)).trans d))) 2,ad ((set_other (by omega)).trans ((set_other (by omega)).trans ((Ha.o.block (b) (by omega)).trans d))) 3,ad ((set_other (by omega)).trans ((set_other (by omega)).trans ((Ha.o.block (b) (by omega)).trans d))) 4⟩;clear Hc;refine rd 10 λK i=>?_;go_simp
 go_wp2
 refine i.k Hr λq=>?_;refine tk 11 ?_;refine Qn (by kernel_rfl) ?_ _;clear q;have Hj:Hu (tI w ((k.setCell w (.int .u64 a)).setCell ⟨w,1,none⟩ (.pointer g)) (.returned (.tuple #[.agg #[.int .u64 a,.pointer g],lb])) (bi m ds hs)):=by
  unfold Hu;cases hl0:bi m ds hs with
  | none=>rw[Hn.o,hl0];exact⟨a,g,rfl⟩
  | some s=>
   obtain⟨f,db,l,c,rfl,rfl,L,Y,A⟩:=Hx.o s hl0;rw[Hn.o,hl0];exact⟨f,db,l,c,rfl,vT (vT L (by omega) (λo=>by have:=A o;omega)) (by omega) (λo=>by have:=A o;omega),by omega,λo=>by have:=A o;omega⟩
 go_wp2
 generalize ((k.setCell w (.int .u64 a)).setCell ⟨w,1,none⟩ (.pointer g))=C at *;(try simp only[Exit.inBlock,Exit.then]);refine bodyPost_ret (v:=.tuple #[.agg #[.int .u64 a,.pointer g],lb]) ?_ rfl ⟨Hj,Ht⟩;obtain⟨r0,r1⟩:=c2 Ho;rw[lY rfl];go_simp
theorem zV{b t:Nat}{m:aJ}{u r:Nat}{p:Value}{cp k db:Nat}{C:Option Addr}{c:Nat}{ds:List aq}{us:Nat->Bool}{g:Value}{hs:List ae}{s:aC}{w:World}(h:b6 w b t m u r p cp k)(z:∃a n c,p=.slice a n c)(G:aM w k db C c ds us)(B:k≠b)(D:0<ds.length->db≠b)(L:fS ds)(A:bf (av (λj=>j=b) w) g hs)(y:m.op<18446744073709551616)(x:mW hs)(J:hs.length<=100)(l:bi m ds hs=some s) :
  Calls pg 58 #[.pointer (some ⟨b,0,none⟩),g] w λe w'=>e=.returned (.tuple #[])/\(∃d f i v,b6 w' b t m u r g s.cp d/\eS w' d f i v s/\w.heap.size<=d/\(0<s.ds.length->w.heap.size<=f))/\Apart (λj=>j=b) w w':=by
 obtain⟨H,on,I,rfl⟩:=z;have Hq:=h.lt;unfold b6 at h;have M:=cb h 7;have S:=bZ h 7;have He:Hu (b6 (w.setCell ⟨b,7,none⟩ g) b t m u r g cp k):=bd h 7 g;have Hg:Hu (Apart (λj=>j=b) w (w.setCell ⟨b,7,none⟩ g)):=Apart.setCell (K:=λj=>j=b) rfl _ _ _;have Ho:Hu (aM (w.setCell ⟨b,7,none⟩ g) k db C c ds us):=G.kept (dD _ ⟨b,7,none⟩ _) (λe=>B (by injection e)) λo e=>D o (by injection e);have Hl:=qI (A.le ((po Hg λ_ _ h=>h).trans (df)));have Hr:(w.setCell ⟨b,7,none⟩ g).heap.size=w.heap.size:=by simp
 have Hi:=qI (zU He Ho L Hl y x J);rw[l] at Hi;obtain⟨F,E,rfl,_,_⟩:=id A;clear h G A
 go_enter func58,ntmps58
 go_wp2
 generalize w.setCell ⟨b,7,none⟩ (.slice F hs.length E)=R at *;refine Hi.o.mono ?_;rintro e q ⟨⟨d,f,i,v,rfl,Hf,Hp,Hb⟩,Hc⟩;have Hj:=qI (He.o.below Hc);have Ha:=Hj.o;unfold b6 at Ha;have P:=cb Ha 8;have Q:=cb Ha 9;have O:=bZ Ha 8;have N:=bZ Ha 9;have Hm:Hu (b6 ((q.setCell ⟨b,8,none⟩ (.int .u64 (s.cp:Nat))).setCell ⟨b,9,none⟩ (.pointer (some ⟨d,0,none⟩))) b t m u r (.slice F hs.length E) s.cp d):=bd (bd Ha 8 _) 9 _;have Hn:Hu (eS ((q.setCell ⟨b,8,none⟩ (.int .u64 (s.cp:Nat))).setCell ⟨b,9,none⟩ (.pointer (some ⟨d,0,none⟩))) d f i v s):=vT (vT Hf (by omega) (λo=>by have:=Hb o;omega)) (by omega) (λo=>by have:=Hb o;omega);have Hk:Hu (Apart (λj=>j=b) w ((q.setCell ⟨b,8,none⟩ (.int .u64 (s.cp:Nat))).setCell ⟨b,9,none⟩ (.pointer (some ⟨d,0,none⟩)))):=((Hg.o.trans (Apart.of_below Hc)).trans (Apart.setCell (K:=λj=>j=b) rfl _ _ _)).trans (Apart.setCell (K:=λj=>j=b) rfl _ _ _);have Hh:Hu (w.heap.size<=d/\(0<s.ds.length->w.heap.size<=f)):=⟨by omega,λo=>by have:=Hb o;omega⟩;clear Hf Hp Hb Hc Ha;unfold sV
 go_wp2
 go_end0
 exact⟨rfl,⟨d,f,i,v,Hm,Hn,Hh.o.1,Hh.o.2⟩,Hk⟩
def fR (base:Nat) (W:World) (Ba:Nat):Prop:=∀pb,W.cell? ⟨Ba,9,none⟩=some (.pointer (some ⟨pb,0,none⟩))->base<=pb/\∀db n c,0<n->W.cell? ⟨pb,0,none⟩=some (.slice (some ⟨db,0,none⟩) n c)->base<=db
def gQ (w w':World) (Ba:Nat):Prop:=w'.heap[Ba]?=w.heap[Ba]?\/fR w w' Ba
theorem fR.less{a:Nat}(h:fR a W Ba)(f:b<=a):fR b W Ba:=λd e=>⟨Q5 f (h d e).1,λdb n c i g=>Q5 f ((h d e).2 db n c i g)⟩
theorem gQ.old{X:World}(h:gQ X W Ba)(a:Bw w X)(b:Ba<w):gQ w W Ba:=h.elim (λe=>.inl (e.trans (a.block Ba b))) (λe=>.inr (e.less a.size))
theorem zW(h:b6 W Ba tb m Bd Be hv cp pb)(hs:eS W pb db ao c s)(i:base<=pb)(n:0<s.ds.length->base<=db):fR base W Ba:=by
 intro b e;have l:=cb h 9;rw[l] at e;obtain rfl:pb=b:=by cases e;rfl
 refine⟨i,λa k c1 o g=>?_⟩;rw[hs.pool.row] at g;have j:ao=some ⟨a,0,none⟩/\s.ds.length=k:=by grind
 have f:0<s.ds.length:=by omega
 have d:=(hs.pool.at0 f).1;rw[j.1] at d;obtain rfl:a=db:=by cases d;rfl
 exact n f
theorem gR{A B:World}(h:A.heap[b]?=B.heap[b]?)(o:Nat):A.cell? ⟨b,o,none⟩=B.cell? ⟨b,o,none⟩:=by simp[World.cell?,h]
def aU (x:ae × Value × Value):List Value:=[.string x.1.pod.nm,.int .i64 x.1.pod.pr,x.2.1,x.2.2]
theorem zX{x:ae}{a:Option Addr}{n c:Nat}{a2:Option Addr}{n2 c2:Nat}:∀u∈aU (x,.slice a n c,.slice a2 n2 c2),u.oneCell'=true:=by
 intro u b
 simp[aU] at b
 rcases b with rfl|rfl|rfl|rfl <;> rfl
theorem G9(w:World)(x:ae × Value × Value)(t:TypeId):∀j u,(aU x)[j]?=some u->(w.alloc (.cells #[x.1.pod.nm,(x.1.pod.pr:Int),x.2.1,x.2.2] t)).cell? ((w.heap.size:Addr).add j)=some u:=by
 simp[Addr.add_lit,aU]
theorem Ha:(prog.info? 101).map (λi=>(i.zero,i.size,i.bytes))=some (some (.agg #[ByteArray.empty,(0:Int),(),()]),4,72):=by kernel_rfl
structure zY (W:World) (v:Value) (l:List (ae × Value × Value)) (N:Nat) (M:Nat->Prop):Prop where
 row:W.ownsRow N 101 4 v l.length (l.flatMap aU)
 in_:∀x∈l,ba (av (λj=>M j\/v.ownBlock=some j) W) x.2.1 x.1.pod.cs/\ce (av (λj=>M j\/v.ownBlock=some j) W) x.2.2 x.1.gs
theorem XF{l:List (ae × Value × Value)}{N:Nat}{M:Nat->Prop}(h:zY W v l N M)(u:∀j,M j->j<N):bf (av M W) v (l.map Prod.fst):=by
 have s:=h.row
 rcases h.row.2 with⟨f,n⟩|⟨g,c,q,f,w,Hb,Hc,Ha,_⟩
 ·have:l=[]:=Qe n
  subst this;rw[f];exact⟨none,0,rfl,⟨lR,Nat.zero_le _⟩,λh=>absurd h (Nat.lt_irrefl 0)⟩
 ·subst f;have key:∀(l:List (ae × Value × Value)) (k:Nat) (b:k<l.length) (j:Nat),j<4->(l.flatMap aU)[k*4+j]?=(aU l[k])[j]?:=by
   intro l
   induction l with
   | nil=>intro k b;simp at b
   | cons a l ih=>
    intro k b j d;rw[List.flatMap_cons];cases k with
    | zero=>rw[List.getElem?_append_left (by simp[aU];omega)];simp
    | succ k=>
     rw[List.getElem?_append_right (by simp[aU];omega)]
     have:=ih k (by simpa using b) j d
     simp only[List.getElem_cons_succ];rw[<- this]
     congr 1
     simp[aU]
     omega
  refine⟨_,c,by rw[Q9],by grind,λ_=>⟨g,0,λk=>(l.getD k (ah [] 0,.nilIface,.nilIface)).2.1,λk=>(l.getD k (ah [] 0,.nilIface,.nilIface)).2.2,rfl,by grind[cC],λk b=>?_⟩⟩;rw[Q9] at b;have e:ah (l.map Prod.fst) k=l[k].1:=by simp[ah,b]
  have m:l.getD k (ah [] 0,.nilIface,.nilIface)=l[k]:=by simp[b]
  obtain⟨p,r⟩:=h.in_ _ (List.getElem_mem b);dsimp only;rw[e,m];have i:aR (av (λj=>M j\/(Value.slice g l.length c).ownBlock=some j) W) (av M W):=bF (λj _ o=>⟨λd=>o (.inl d),rfl⟩) (lR);have cc:∀j,j<4->(av M W).cell? ⟨g,0+k*4+j,none⟩=(aU l[k])[j]?:=λj d=>by
   rw[World.cell?_of_block (a:=⟨g,0+k*4+j,none⟩) (cH (λt=>by have:=u g t;omega)),Qd,s.cellAt (k*4+j) (by omega)];exact key l k b j d
  exact⟨⟨cc 0 (by decide),cc 1 (by decide),cc 2 (by decide),cc 3 (by decide)⟩,p.le i,r.le i⟩
abbrev pY:=λ(x0:ae) (x1:Option Addr) (x2:Nat) (x3:Option Addr) (x4:Nat)=>(.cells #[x0.pod.nm,(x0.pod.pr:Int),.slice x1 x0.pod.cs.length x2,.slice x3 x0.gs.length x4] 101:Obj)
abbrev zZ:=λ(Bh:Nat) (x:ae) (ca:Option Addr) (cc:Nat) (ga:Option Addr) (gc:Nat) (w':World)=>cl w' Bh (0) x.pod.nm/\cl w' Bh (1) (x.pod.pr:Int)/\cl w' Bh (2) (.slice ca x.pod.cs.length cc)/\cl w' Bh (3) (.slice ga x.gs.length gc)
theorem XG{Ba tb:Nat}{m:aJ}{Bd Be:Nat}{hv:Value}{cp pb:Nat}{hs:List ae}{w:World}(h:b6 w Ba tb m Bd Be hv cp pb)(hH:bf w hv hs)(hok:mW hs)(hl:hs.length<=100) :
  Calls prog 12 #[Ba] w λe w'=>∃a c,e=.returned (.slice a hs.length c)/\bf (fresh w w') (.slice a hs.length c) hs/\Below w w w':=by
 obtain⟨i0,hi,HW,H7,hp⟩:=info_parts Ha;have hh:=qI hok;obtain⟨ha,hc,rfl,hm,hr⟩:=hH;have HR:=qI hr;unfold b6 at h;have c7:w.cell? ⟨Ba,7,none⟩=some (.slice ha hs.length hc):=ad h 7;clear hok hr hm h
 go_enter func12,ntmps12
 go_wp2_with fail
 clear c7
 go_loopw [3,11] (λpv i wr=>∃(k:Nat) (l:List (ae × Value × Value)),k<=hs.length/\i=.int .i64 k/\l.length=k/\l.map Prod.fst=hs.take k/\zY wr pv l w (λj=>j<w.heap.size)/\Below w w wr) (λ_ i _=>hs.length - (intOf i).toNat)
 case atStart=>exact⟨0,[],by omega,rfl,rfl,rfl,⟨Qw _ _ _ _,λx hx=>(List.not_mem_nil hx).elim⟩,Q0 _ _⟩
 case round=>
  obtain⟨k,l,hk,rfl,HI,HL,Hf,hb⟩:=hrel;have HK:=qI HI;have HX:=qI HL;have Hg:=qI Hf;have HB:=qI hb;have hw:=hb.size;have hC:l.length<=100:=by omega
  obtain⟨va,vc,H3⟩:=fI Hf.row;subst H3;clear HI HL Hf
  by_cases hlt:k<hs.length
  ·obtain⟨hB,ho,cv,gvv,rfl,Hr⟩:=HR.o (by omega);have hle:=aR.of_below hb;obtain⟨x0,x1,x2,x3⟩:=(Hr.2 k hlt).1;have x0:=hle.cell _ _ _ x0;have x1:=hle.cell _ _ _ x1;have x2:=hle.cell _ _ _ x2;have x3:=hle.cell _ _ _ x3;have He:=((Hr.2 k hlt).2.1).le hle;have Hc:=((Hr.2 k hlt).2.2).le hle;obtain⟨HC,H1,HH⟩:=hh.o (ah hs k) (by simp[ah,hlt]);have HS:Hu (hs.take (k+1)=hs.take k++[ah hs k]):=by grind[Qa,ah]
   obtain⟨ca,cc,HO,he,H5⟩:=id He;obtain⟨ga,gc,HD,HU,hf⟩:=id Hc;rw[HO] at x2 He;rw[HD] at x3 Hc;have Hw:=qI He;have Ht:=qI Hc;have HP:=qI (jo HC);have HZ:=qI HH;have hy:=HP.o.2.2.1;have HY:(ah hs k).gs.length<=3:=by omega
   clear Hr He Hc HO HD H5 hf hle he HU HC HH H1;generalize ah hs k=x at *;have Hh:=qI ((Q0 wr wr).alloc (lR) (pY x ca cc ga gc));have Hp:=qI (aY wr (pY x ca cc ga gc) rfl);have hE:(wr.alloc (pY x ca cc ga gc)).heap.size=wr.heap.size+1:=by simp
   clear hb
   go_wp2_with fail
   generalize wr.alloc (pY x ca cc ga gc)=X at *;generalize hBh:wr.heap.size=Bh at *;clear x0 x1 x2 x3;have Hk:Hu (∀W,Below X X W->(zZ Bh x ca cc ga gc) W):=λW hb=>⟨ad ((hb.block (Bh) (by omega)).trans Hp.o) 0,ad ((hb.block (Bh) (by omega)).trans Hp.o) 1,ad ((hb.block (Bh) (by omega)).trans Hp.o) 2,ad ((hb.block (Bh) (by omega)).trans Hp.o) 3⟩
   have Hl:Hu (Below X X X.drew):=bO (Q0 _ _);refine wp_region_held_drew (S:=zZ Bh x ca cc ga gc) (by kernel_rfl) (Hk.o _ Hl.o) λhQ=>?_;generalize X.drew=V at *;refine tk 0 ?_;refine tk 1 ?_;refine tk 2 ?_;refine tk 4 ?_;refine tk 5 ?_;refine rd 3 λK hK=>?_;go_simp
   go_wp2_with fail
   refine (FN x.pod.nm x.pod.pr (cs:=x.pod.cs) (w:=V) (Hw.o.below ((show Below wr wr X by rw[hBh];exact Hh.o).trans (Hl.o.mono (by omega)))) (by omega) (λq hq=>by have:=(HP.o.2.2.2 (af x.pod.cs q) (iM _ _ _ hq)).2.2.2.2.2.1;omega)).mono ?_;rintro e W1 ⟨pa,pcc,rfl,HJ,HF⟩;have Hj:=qI (Hl.o.trans (HF.mono Hl.o.size));have H6:=qI (HJ.le (qU (λ_ _ _=>rfl) (lR) Hl.o.size));clear HF HJ
   go_wp2_with fail
   refine hK.o _ _ (Hk.o _ Hj.o) λhQ=>?_;clear hK K;refine rd 6 λK hK=>?_;go_simp
   go_wp2_with fail
   refine (Rm (v:=.slice ga x.gs.length gc) (gs:=x.gs) (w:=W1) (Ht.o.below ((show Below wr wr X by rw[hBh];exact Hh.o).trans (Hj.o.mono (by omega)))) (by omega) (λq hq=>by have:=zC (fy HZ.o q hq);omega)).mono ?_;rintro e W2 ⟨qa,qc,rfl,HG,Hx⟩;have Hn:=qI (Hj.o.trans (Hx.mono Hj.o.size));have H2:=qI (H6.o.le (Eh Hx (lR)));have ht:=qI (HG.le (qU (λ_ _ _=>rfl) (lR) Hj.o.size));have hA:=Hn.o.size;clear Hx HG
   go_wp2_with fail
   refine hK.o _ _ (Hk.o _ Hn.o) λhQ=>?_;clear hK K;refine tk 7 ?_;have Hq:=qI (Hn.o.alloc Hn.o.size (pY x pa pcc qa qc));have HQ:=qI (G9 W2 (x,.slice pa x.pod.cs.length pcc,.slice qa x.gs.length qc) 101);dsimp only at HQ;have hD:(W2.alloc (pY x pa pcc qa qc)).heap.size=W2.heap.size+1:=by simp
   have hD1:=hD;dsimp only[pY] at hD1
   have HA:∀b,(Value.slice va l.length vc).ownBlock=some b->w.heap.size<=b/\b<Bh:=λb hb=>by rw[<- hBh];exact Hg.o.row.lt b hb
   have HV:Hu ((W2.alloc (pY x pa pcc qa qc)).ownsRow w 101 4 (.slice va l.length vc) l.length (l.flatMap aU)):=tG Hg.o.row λg hg=>(Hq.o.block g (by grind)).trans (Hh.o.block g (HA g hg).2);refine rd 8 λK hK=>?_;go_simp
   go_wp2_with fail
   refine hK.o _ _ (Hk.o _ Hq.o) λhQ=>?_;clear hK K;refine rd 9 λK hK=>?_;rw[if_pos (by rfl)]
   refine wp_append_lies (o := { dst := some 24, op := Op.call { callee := Callee.builtin Builtin.append, args := #[Operand.tmp 15, Operand.tmp 23], argTypes := #[43, 43] }, type := 43, pos := "ostler.go:50", after := #[{ on := 0, ground := Ground.data }, { on := 8, ground := Ground.data }, { on := 6, ground := Ground.chain }], guard := none }) _ _ _ 43 rfl w.heap.size 101 i0 (.agg #[.string ByteArray.empty, .int .i64 0, .slice none 0 0, .slice none 0 0]) 4 72 underlying43 hi HW H7 hp rfl (by decide) (.slice va l.length vc) _ _ rfl HV.o ⟨_, 0, none⟩ 1 1 (aU (x, .slice pa x.pod.cs.length pcc, .slice qa x.gs.length qc)) rfl rfl HQ.o (zX) (by decide) (by unfold maxLen; omega) (by omega) (by omega) (W2.heap.size + 1) (by simp) ?_
   intro g' cap' W4 Hi Hb Hy H0;have hu:=Hb.size;have Hz:(zZ Bh x ca cc ga gc) W4:=by
    obtain⟨q0,q1,q2,q3⟩:=Hk.o _ Hq.o;have Ho:some Bh≠(Value.slice va l.length vc).ownBlock:=λe=>by grind
    exact⟨(Hb.cell_far Bh (by show Bh<_;omega) Ho).trans q0,(Hb.cell_far ⟨Bh,1,none⟩ (by show Bh<_;omega) Ho).trans q1,(Hb.cell_far ⟨Bh,2,none⟩ (by show Bh<_;omega) Ho).trans q2,(Hb.cell_far ⟨Bh,3,none⟩ (by show Bh<_;omega) Ho).trans q3⟩
   have HM:Hu (∀j,j<W2.heap.size->(Value.slice va l.length vc).ownBlock≠some j->W4.heap[j]?=W2.heap[j]?):=λj hj hno=>(Hb.block j (by omega) λe=>hno e.symm).trans (Below.heap_alloc _ _ _ hj)
   have H9:=qI (((HB.o.trans ((show Below wr wr X by rw[hBh];exact Hh.o).mono (by omega))).trans (Hq.o.mono (by omega))).grown Hb (by omega) λj hj=>(HA j hj).1);have Hm:Hu (zY W4 (.slice g' (l.length+1) cap') (l++[(x,Value.slice pa x.pod.cs.length pcc,Value.slice qa x.gs.length qc)]) w λj=>j<w.heap.size):=by
    refine⟨?_,λz hz=>?_⟩
    ·grind
    ·rcases Qi.1 hz with hz|hz
     ·obtain⟨z1,z2⟩:=Hg.o.in_ z hz;have hle:aR (av (λj=>j<w.heap.size\/(Value.slice va l.length vc).ownBlock=some j) wr) (av (λj=>j<w.heap.size\/(Value.slice g' (l.length+1) cap').ownBlock=some j) W4):=bF (λj hj hn=>by
       have H4:¬ j<w.heap.size:=λh=>hn (.inl h)
       have H8:(Value.slice va l.length vc).ownBlock≠some j:=λh=>hn (.inr h)
       refine⟨λh=>?_,(HM.o j (by omega) H8).trans ((Hn.o.block j (by omega)).trans (Hh.o.block j (by rw[<- hBh];exact hj)))⟩
       rcases h with h|h
       ·exact H4 h
       ·have h:some g'=some j:=h;injection h with h
        rcases Hy with Hs|Hs
        ·grind
        ·omega) (by omega)
      exact⟨z1.le hle,z2.le hle⟩
     ·rw[Qm.1 hz];have hle:aR (fresh X W2) (av (λj=>j<w.heap.size\/(Value.slice g' (l.length+1) cap').ownBlock=some j) W4):=bF (λj hj hn=>by
       have hn:¬ j<X.heap.size:=hn;refine⟨λh=>?_,HM.o j hj (λh=>by grind)⟩
       rcases h with h|h
       ·omega
       ·have h:some g'=some j:=h;injection h with h
        rcases Hy with Hs|Hs
        ·grind
        ·omega) (by omega)
      exact⟨H2.o.le hle,ht.o.le hle⟩
   refine hK.o _ _ Hz λhQ=>?_;clear hK K;(try simp only[Act.put,s1,s2,s3]);refine tk 10 ?_;refine Qn (by kernel_rfl) ?_ _;clear hQ Hi Hb Hy Hz
   go_wp2
   go_roundw
   case rel=>exact⟨k+1,l++[(x,Value.slice pa x.pod.cs.length pcc,Value.slice qa x.gs.length qc)],by omega,by go_num,by rw[Q2,HK.o];rfl,by rw[Qj,HX.o,HS.o];rfl,Hm.o,H9.o⟩
   case measure=>simp[intOf];omega
  ·have HN:k=hs.length:=by omega
   have HE:l.length=hs.length:=by rw[HK.o,HN]
   have Hv:Hu (bf (fresh w wr) (.slice va hs.length vc) hs):=by
    grind[Hu,XF]
   have HT:=qI HE;clear HN HE
   go_wp2
   go_ret;exact⟨va,vc,by rw[<- HT.o];rfl,Hv.o,HB.o⟩
theorem XH{base:Nat}{v:Value}{n:Nat}{o:List Value}(d:List Value)(a:Addr)(c:Nat)(w:World)(m:w.ownsRow base 101 4 v n o)(p:∀j u,d[j]?=some u->w.cell? (a.add j)=some u)(k:d.length=4)(i:∀u∈d,u.oneCell'=true)(D:n<=100)(A:base<=w) :
  Calls pg 54 #[v,.int .i64 n,.slice (some a) 1 c] w λe w'=>∃f,e=.returned f/\w'.ownsRow base 101 4 f (n+1) (o++d)/\w.grownBy w' v.ownBlock:=by
 obtain⟨i0,hi,Hh,Hi,Hj⟩:=info_parts Ha;have r:=qI m;have s:=qI p;have Hl:=qI i;have Hk:Hu (d.length=1*4):=k;have Hg:∃g b,v=.slice g n b/\(n<=b/\b<=maxLen)/\(g=none->n=0):=by
  rcases m.2 with⟨t,y⟩|⟨g,b,x,t,y,z,B,C,E⟩
  ·grind
  ·grind
 obtain⟨g,b,rfl,He,Hf⟩:=Hg;clear m p i k;have Hm:b<=9223372036854775807:=by grind[maxLen]
 have Hn:=He.1;have Ho:=qI Hf;clear He Hf
 go_enter func54,ntmps54
 go_wp2_with (at_builtin;(refine wpList_append_own _ rfl _ _ 43 rfl base 101 i0 (.agg #[ByteArray.empty,(0:Int),(),()]) 4 72 underlying43 hi Hh Hi Hj rfl (by decide) _ _ _ rfl r a 1 c d rfl Hk s Hl (by unfold maxLen;omega) (by omega) (by omega) ?_;intro f q Hc Hb _))
 ·rename_i h
  have l:w.grownBy q (Value.slice g n b).ownBlock:=Hb;rw[h] at l;clear Hb;go_ret;exact⟨f,rfl,Hc,l⟩
 ·have l:w.grownBy q (Value.slice g n b).ownBlock:=Hb;clear Hb;go_ret;exact⟨f,rfl,Hc,l⟩
theorem XI{B:Nat}{n k:Sd}{v:Value}{l:Int}{d:Bool}{w:World}(h:aQ w B n k v l d):CE 35 #[B] w d:=by
 unfold aQ at h;have c10:=cb h 10;clear h
 go_enter func35,ntmps35
 go_wp2
 go_ret;exact⟨rfl,rfl⟩
theorem XJ{B:Nat}{n k:Sd}{l:Int}{d:Bool}{w:World}(h:aQ w B n k () l d):CE 69 #[B] w false:=by
 unfold aQ at h;have a:=cb h 8;clear h
 go_enter func69,ntmps69
 go_wp2
 go_ret;exact⟨rfl,rfl⟩
theorem Aa(h:Ef W base v ps):iz W v ps:=by
 obtain⟨l,rfl,Ha,Hc⟩:=h;have o:=Ha
 rcases Ha.2 with⟨d,m⟩|⟨g,c,n,d,p,Hb,Hf,He,_⟩
 ·have:l=[]:=Qe m
  subst this;rw[d];exact⟨none,0,rfl,by unfold maxLen;simp,λh=>absurd h (Nat.lt_irrefl 0)⟩
 ·subst d;have key:∀(l:List (aj × Value)) (k:Nat) (b:k<l.length) (j:Nat),j<3->(rowP l)[k*3+j]?=(iG l[k])[j]?:=by
   intro l
   induction l with
   | nil=>intro k b;simp at b
   | cons a l ih=>
    intro k b j f;unfold rowP;rw[List.flatMap_cons];cases k with
    | zero=>rw[List.getElem?_append_left (by simp[iG];omega)];simp
    | succ k=>
     rw[List.getElem?_append_right (by simp[iG];omega)]
     have:=ih k (by simpa using b) j f
     simp only[List.getElem_cons_succ];rw[<- this];unfold rowP
     congr 1
     simp[iG]
     omega
  refine⟨_,c,by rw[Q9],by grind,λ_=>⟨g,0,λk=>(l.getD k (aS [] 0,.nilIface)).2,rfl,(gS Hb).1,λk b=>?_⟩⟩;rw[Q9] at b;have e:aS (l.map Prod.fst) k=l[k].1:=by simp[aS,b]
  have i:l.getD k (aS [] 0,.nilIface)=l[k]:=by simp[b]
  dsimp only;rw[e,i];have cc:∀j,j<3->W.cell? ⟨g,0+k*3+j,none⟩=(iG l[k])[j]?:=λj f=>by
   rw[Qd,o.cellAt (k*3+j) (by omega)];exact key l k b j f
  exact⟨⟨cc 0 (by decide),cc 1 (by decide),cc 2 (by decide)⟩,Hc _ (List.getElem_mem b)⟩
theorem Hb(h:∀p∈ps,iy p.cs)(e:ps.length<=100):∀k,k<=ps.length->(0<=bE (ps.take k)/\bE (ps.take k)<=1000000000000000000)/\0<=ci (ps.take k)/\ci (ps.take k)<=1000000000000000000:=by
 have key:∀k,k<=ps.length->(0<=bE (ps.take k)/\bE (ps.take k)<=3000000*(k:Int))/\0<=ci (ps.take k)/\ci (ps.take k)<=3377699720527872*(k:Int):=by
  intro k
  induction k with
  | zero=>intro _;simp[bE,ci]
  | succ k ih=>
   intro b;have d:=ih (by omega);have a:=h (aS ps k) (by grind[aS]);have f:=qr a (lR);have c:=oY a (lR);rw[FK (by omega),FL (by omega)]
   push_cast
   omega
 intro k b
 have:=key k b
 have Ha:(k:Int)<=100:=by omega
 omega
abbrev Ab:=λ(Ba tb:Nat) (m:aJ) (w':World)=>cl w' Ba (0) tb/\cl w' Ba (1) (.int .u64 m.op)/\cl w' Ba (2) (.int .u8 m.nd)/\cl w' Ba (3) (m.nb:Int)/\cl w' Ba (4) (m.pol:Int)
theorem XK{a d:Nat}{m:aJ}{y t:Nat}{s:Value}{cp n db:Nat}{v:Option Addr}{c:Nat}{ds:List aq}{us:Nat->Bool}{o:Value}{hs:List ae}{w:World}(h:b6 w a d m y t s cp n)(l:aM w n db v c ds us)(z:fS ds)(q:bf w o hs)(j:m.op<18446744073709551616)(f:mW hs)(u:hs.length<=100) :
  CB 72 #[a,o] w (.bool ((bi m ds hs).isSome && cr m (hs.map ae.pod))):=by
 have Hl:=qI (zU h l z q j f u);have F:=qI h;have B:=qI q;have Hw:=h.lt;have Hs:Hu (∀p∈hs.map ae.pod,iy p.cs):=λp l=>by
  obtain⟨x,G,rfl⟩:=Qk.1 l;exact ny (f x G).1
 have Hg:=qI (Hb Hs (by grind));obtain⟨C,A,rfl,_,_⟩:=q;clear h l
 go_enter func72,ntmps72
 go_wp2
 refine Hl.o.mono ?_;rintro e E ⟨Hj,Hi⟩;obtain⟨k,r,lb,rfl,Hk,_⟩:=Hj.form;have Hp:=qI Hk;have He:=qI (Hi.alloc Hi.size (.cells #[.int .u64 k,.pointer r] 87));have Ht:=He.o.size;clear Hj Hk Hi Hl
 go_upto_region 2 with fail
 generalize E.alloc (.cells #[.int .u64 k,.pointer r] 87)=X at *;have Hc:=qI (F.o.below He);have Ho:=Hc.o;unfold b6 at Ho;have Hf:Hu (∀W,Bw X W->(Ab a d m) W):=λW b=>⟨ad ((b.block (a) (by omega)).trans Hc) 0,ad ((b.block (a) (by omega)).trans Hc) 1,ad ((b.block (a) (by omega)).trans Hc) 2,ad ((b.block (a) (by omega)).trans Hc) 3,ad ((b.block (a) (by omega)).trans Hc) 4⟩
 clear Ho;have Ha:Hu (Bw X X.drew):=bO (Q0 _ _)
 rcases two lb with b|b
 ·subst b;refine wp_region_held_drew (S:=Ab a d m) (by kernel_rfl) (Hf.o _ Ha) λi=>?_;generalize X.drew=V at *;refine tk 0 ?_;refine tk 1 ?_;refine tk 2 ?_;refine tk 3 ?_;refine tk 4 ?_;refine tk 5 ?_;refine tk 6 ?_;refine rd 7 λK g=>?_;go_simp
  go_wp2
  refine (Eg (B.o.le ((aR.of_below He).trans (aR.of_below Ha))) u).mono ?_;rintro e D ⟨v2,rfl,Hm,Hr⟩;have Hh:=Ha.t Hr;have Hv:=qI Hm;clear Hr Hm
  go_wp2
  refine g.k (Hf.o _ Hh) λi=>?_;refine rd 8 λK g=>?_;go_simp
  go_wp2
  refine (FM d m.op m.nd m.nb m.pol (Aa Hv) (by grind) Hs j Hg).m λH Hq=>?_;have Hn:=Hh.t Hq;clear Hq
  go_wp2
  refine g.k (Hf.o _ Hn) λi=>?_;refine tk 9 ?_;refine tk 10 ?_;refine Qn (by kernel_rfl) ?_ _;clear i
  go_wp2
  go_ret;exact⟨by rw[<- Hp.o];rfl,He.o.trans (Hn.o.mono Ht)⟩
 ·subst b;refine wp_region_held_drew (S:=Ab a d m) (by kernel_rfl) (Hf.o _ Ha) λi=>?_;generalize X.drew=V at *;refine tk 0 ?_;refine tk 1 ?_;refine ts 2 ?_;refine ts 3 ?_;refine ts 4 ?_;refine ts 5 ?_;refine ts 6 ?_;refine ts 7 ?_;refine ts 8 ?_;refine tk 9 ?_;refine tk 10 ?_;refine Qn (by kernel_rfl) ?_ _;clear i
  go_wp2
  go_ret;exact⟨by rw[<- Hp.o];rfl,He.o.trans (Ha.o.mono Ht)⟩
