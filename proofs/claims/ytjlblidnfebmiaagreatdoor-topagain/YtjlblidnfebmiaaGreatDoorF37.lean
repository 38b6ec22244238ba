import Derived.Test.YtjlblidnfebmiaaGreatDoorF36
set_option maxRecDepth 100000
set_option maxHeartbeats 16000000
open Go Go.RowKit Go.Shelf
attribute [local go_sem] Oper.semAt_some
open Go.Proofs.Tryz
namespace Go.Proofs.YtjlblidnfebmiaaGreatDoor
variable{Ba Bd Be b base c cp db pb tb:Nat}{W W' w:World}{ao:Option Addr}{hv v:Value}{m:aL}{ps:List aj}{s:aE}
def bA (W:World) (Ba tb:Nat) (m:aL) (Bd Be:Nat) (hv:Value) (cp pb:Nat):Prop:=W.heap[Ba]?=some (.cells #[tb,.int .u64 m.op,.int .u8 m.nd,(m.nb:Int),(m.pol:Int),Bd,Be,hv,.int .u64 cp,pb] 98 (0,0))
theorem bA.lt(h:bA W Ba tb m Bd Be hv cp pb):Ba<W:=(gS h).1
theorem bA.block(h:bA W Ba tb m Bd Be hv cp pb)(a:W'.heap[Ba]?=W.heap[Ba]?):bA W' Ba tb m Bd Be hv cp pb:=a.trans h
theorem bA.below(h:bA W Ba tb m Bd Be hv cp pb)(a:Below W W W'):bA W' Ba tb m Bd Be hv cp pb:=h.block (a.block Ba h.lt)
theorem U2(b j:Nat)(m:aL)(p q:Nat)(o:Value)(cp a db:Nat)(f:Option Addr)(c:Nat)(ds:List ak)(us:Nat->Bool)(w:World)(h:bA w b j m p q o cp a)(g:aF w a db f c ds us)(n:eE ds) :
  Calls prog 40 #[b] w λe w'=>∃v,e=.returned v/\jV w w' v ds/\Below w w w':=by
 have k:=qI (Aw w a db f c ds us g n);unfold bA at h;have s:cl w b (9) a:=ad h 9;clear h g
 go_enter func40,ntmps40
 go_wp2_with fail
 refine k.o.mono ?_;rintro e w' ⟨v,rfl,d,i⟩;have l:=qI d;obtain⟨r,c1,g1,Ha,_⟩:=id d;subst Ha;clear d
 go_wp2
 go_ret;exact⟨_,rfl,l.o,i⟩
theorem rO.form{w':World}{e:Ending}{o:Option aE}(h:rO w w' e o):∃(cp:Int) (p:Option Addr) (b:Bool),e=.returned (.tuple #[.agg #[.int .u64 cp,.pointer p],b])/\b=o.isSome/\(∀s,o=some s->∃a db d c,cp=(s.cp:Int)/\p=some ⟨a,0,none⟩/\ek w' a db d c s/\w.heap.size<=a/\(0<s.ds.length->w.heap.size<=db)):=by
 cases o with
 | none=>
  obtain⟨cp,p,rfl⟩:=h;exact⟨cp,p,false,rfl,rfl,λs hs=>nomatch hs⟩
 | some s=>
  obtain⟨a,db,d,c,rfl,i,f,g⟩:=h;exact⟨_,_,true,rfl,rfl,λj hs=>by injection hs with hs;subst hs;exact⟨a,db,d,c,rfl,rfl,i,f,g⟩⟩
theorem uw(h:ek W pb db ao c s)(d:pb≠b)(f:0<s.ds.length->db≠b)(j:Nat)(v:Value):ek (W.setCell ⟨b,j,none⟩ v) pb db ao c s:=
 ⟨h.pool.kept (cM _ ⟨b,j,none⟩ _) (λe=>d (by injection e)) λa e=>f a (by injection e),h.nodes,h.cp⟩
abbrev yl:=λ(Ba tb:Nat) (m:aL) (w':World)=>cl w' Ba (0) tb/\cl w' Ba (1) (.int .u64 m.op)/\cl w' Ba (2) (.int .u8 m.nd)/\cl w' Ba (3) (m.nb:Int)/\cl w' Ba (4) (m.pol:Int)
theorem ym(b k:Nat)(m:aL)(y B:Nat)(u:Value)(cp d db:Nat)(i:Option Addr)(c:Nat)(ds:List ak)(us:Nat->Bool)(J:Value)(hs:List af)(w:World)(h:bA w b k m y B u cp d)(H:aF w d db i c ds us)(N:eE ds)(G:aY w J hs)(z:m.op<18446744073709551616)(A:lf hs)(U:hs.length<=100) :
  Calls prog 52 #[b,J] w λe w'=>rO w w' e (be m ds hs)/\Below w w w':=by
 have Hh:=qI ((Q0 w w).alloc (lR) (.cells #[.int .u64 0,.pointer none] 87));have M:=qI (bd w (.cells #[.int .u64 0,.pointer none] 87) rfl);have f:=qI (h.below Hh.o);have L:=qI (H.below Hh.o);have T:=qI (G.below Hh.o);have Hy:(w.alloc (.cells #[.int .u64 0,.pointer none] 87)).heap.size=w.heap.size+1:=by simp
 have Hz:=h.lt;obtain⟨Z,Y,rfl,_,_⟩:=G;clear h H
 go_enter func52,ntmps52
 go_wp2_with fail
 generalize w.alloc (.cells #[.int .u64 0,.pointer none] 87)=X at *;unfold bA at f;have Hj:Hu (∀W,Below X X W->(yl b k m) W):=λW o=>⟨ad ((o.block (b) (by omega)).trans f.o) 0,ad ((o.block (b) (by omega)).trans f.o) 1,ad ((o.block (b) (by omega)).trans f.o) 2,ad ((o.block (b) (by omega)).trans f.o) 3,ad ((o.block (b) (by omega)).trans f.o) 4⟩
 have He:Hu (Below X X X.drew):=bB (Q0 _ _);refine wp_region_held_drew (S:=yl b k m) (by kernel_rfl) (Hj.o _ He.o) λr=>?_;generalize X.drew=V at *;refine tk 0 ?_;refine tk 1 ?_;refine tk 2 ?_;refine tk 3 ?_;refine tk 4 ?_;refine tk 6 ?_;refine rd 5 λK j=>?_;go_simp
 go_wp2_with fail
 refine (U2 b k m y B u cp d db i c ds us V (bA.below (show bA X b k m y B u cp d from f.o) He.o) (L.o.below He.o) N).mono ?_;rintro e R ⟨v1,rfl,Hi,Hm⟩;have Hg:=qI (He.o.trans (Hm.mono He.o.size));have Hs:=qI Hi;obtain⟨a1,c1,g1,Hx,_⟩:=id Hi;subst Hx;clear Hm Hi
 go_wp2_with fail
 refine j.o _ _ (Hj.o _ Hg.o) λr=>?_;clear j K;refine rd 7 λK j=>?_;go_simp
 go_wp2_with fail
 obtain⟨x,Hb⟩:=EX Hs.o;refine (UZ m k x 0 _ _ ds hs R Hb (T.o.below Hg.o) z A U).mono ?_;rintro e n ⟨Hf,Hp⟩;have Ha:=qI (Hg.o.trans (Hp.mono Hg.o.size));have Hv:=Hg.o.size;obtain⟨a,g,lb,rfl,Hn,Hq⟩:=Hf.form;have Hl:=qI Hn;have Ht:Hu (∀s,be m ds hs=some s->∃d db i c,a=(s.cp:Int)/\g=some ⟨d,0,none⟩/\ek n d db i c s/\w.heap.size<d/\(0<s.ds.length->w.heap.size<db)):=λs hs=>by
  obtain⟨d,db,i,c,Q,P,t,O,q⟩:=Hq s hs;exact⟨d,db,i,c,Q,P,t,by omega,λl=>by have:=q l;omega⟩
 clear Hp Hf Hb Hn Hq
 go_wp2_with fail
 refine j.o _ _ (Hj.o _ Ha.o) λr=>?_;clear j K;refine tk 8 ?_;refine tk 9 ?_;have Hc:=(Ha.o.block w (by omega)).trans M.o;have I:cl n w (0) (.int .u64 0):=ad Hc 0;have D:cl n w (1) (.pointer none):=ad Hc 1;have F:=bQ Hc 0;have E:=bQ Hc 1;have Ho:=qI (aV (aV Hc 0 (.int .u64 a)) 1 (.pointer g));have Hr:=qI (((Hh.o.trans (Ha.o.mono (by omega))).setCell (p:=w.heap.size) (lR) (.int .u64 a)).setCell (p:=⟨w,1,none⟩) (lR) (.pointer g));have Hw:Hu ((yl b k m) ((n.setCell w (.int .u64 a)).setCell ⟨w,1,none⟩ (.pointer g))):=⟨ad ((set_other (by omega)).trans ((set_other (by omega)).trans ((Ha.o.block (b) (by omega)).trans f.o))) 0,ad ((set_other (by omega)).trans ((set_other (by omega)).trans ((Ha.o.block (b) (by omega)).trans f.o))) 1,ad ((set_other (by omega)).trans ((set_other (by omega)).trans ((Ha.o.block (b) (by omega)).trans f.o))) 2,ad ((set_other (by omega)).trans ((set_other (by omega)).trans ((Ha.o.block (b) (by omega)).trans f.o))) 3,ad ((set_other (by omega)).trans ((set_other (by omega)).trans ((Ha.o.block (b) (by omega)).trans f.o))) 4⟩;clear Hc;refine rd 10 λK j=>?_;go_simp
 go_wp2_with fail
 refine j.o _ _ Hw.o λr=>?_;clear j K;refine tk 11 ?_;refine Qn (by kernel_rfl) ?_ _;clear r;have Hk:Hu (rO w ((n.setCell w (.int .u64 a)).setCell ⟨w,1,none⟩ (.pointer g)) (.returned (.tuple #[.agg #[.int .u64 a,.pointer g],lb])) (be m ds hs)):=by
  unfold Hu;cases hl0:be m ds hs with
  | none=>rw[Hl.o,hl0];exact⟨a,g,rfl⟩
  | some s=>
   obtain⟨d,db,i,c,rfl,rfl,t,O,q⟩:=Ht.o s hl0;rw[Hl.o,hl0];exact⟨d,db,i,c,rfl,uw (uw t (by omega) (λl=>by have:=q l;omega) _ _) (by omega) (λl=>by have:=q l;omega) _ _,by omega,λl=>by have:=q l;omega⟩
 go_wp2_with fail
 generalize ((n.setCell w (.int .u64 a)).setCell ⟨w,1,none⟩ (.pointer g))=C at *;(try simp only[Exit.inBlock,Exit.then]);refine bodyPost_ret (v:=.tuple #[.agg #[.int .u64 a,.pointer g],lb]) ?_ rfl ⟨Hk.o,Hr.o⟩;have r0:cl C w (0) (.int .u64 a):=ad Ho.o 0;have r1:cl C w (1) (.pointer g):=ad Ho.o 1;rw[k9 rfl];go_simp
theorem ux(b q:Nat)(m:aL)(t u:Nat)(r:Value)(cp k db:Nat)(y:Option Addr)(c:Nat)(ds:List ak)(us:Nat->Bool)(g:Value)(hs:List af)(s:aE)(w:World)(h:bA w b q m t u r cp k)(z:∃a n c,r=.slice a n c)(E:aF w k db y c ds us)(C:k≠b)(B:0<ds.length->db≠b)(I:eE ds)(A:aY (au (λj=>j=b) w) g hs)(x:m.op<18446744073709551616)(D:lf hs)(L:hs.length<=100)(l:be m ds hs=some s) :
  Calls prog 58 #[b,g] w λe w'=>e=.returned (.tuple #[])/\(∃d f i v,bA w' b q m t u g s.cp d/\ek w' d f i v s/\w.heap.size<=d/\(0<s.ds.length->w.heap.size<=f))/\Apart (λj=>j=b) w w':=by
 obtain⟨H,on,J,rfl⟩:=z;have Hr:=h.lt;unfold bA at h;have Q:cl w b (7) (.slice H on J):=ad h 7;have N:=bQ h 7;have Hf:Hu (bA (w.setCell ⟨b,7,none⟩ g) b q m t u g cp k):=aV h 7 g;have Hh:Hu (Apart (λj=>j=b) w (w.setCell ⟨b,7,none⟩ g)):=Apart.setCell (K:=λj=>j=b) rfl _ _ _;have Hm:Hu (aF (w.setCell ⟨b,7,none⟩ g) k db y c ds us):=E.kept (cM _ ⟨b,7,none⟩ _) (λe=>C (by injection e)) λo e=>B o (by injection e);have Hn:Hu (aY (w.setCell ⟨b,7,none⟩ g) g hs):=A.le ((nV Hh.o λ_ _ h=>h).trans (cJ _ _));have Hq:(w.setCell ⟨b,7,none⟩ g).heap.size=w.heap.size:=by simp
 have Hg:=qI (ym b q m t u g cp k db y c ds us g hs _ Hf.o Hm.o I Hn.o x D L);rw[l] at Hg;obtain⟨G,F,rfl,_,_⟩:=id A;clear h E A
 go_enter func58,ntmps58
 go_wp2_with fail
 generalize w.setCell ⟨b,7,none⟩ (.slice G hs.length F)=O at *;refine Hg.o.mono ?_;rintro e p ⟨⟨d,f,i,v,rfl,He,Hk,Hb⟩,Hc⟩;have Hp:=qI (Hf.o.below Hc);have Ha:=Hp.o;unfold bA at Ha;have S:cl p b (8) (.int .u64 (cp:Nat)):=ad Ha 8;have P:cl p b (9) k:=ad Ha 9;have M:=bQ Ha 8;have R:=bQ Ha 9;have Hj:Hu (bA ((p.setCell ⟨b,8,none⟩ (.int .u64 (s.cp:Nat))).setCell ⟨b,9,none⟩ (.pointer (some ⟨d,0,none⟩))) b q m t u (.slice G hs.length F) s.cp d):=aV (aV Ha 8 _) 9 _;have Hl:Hu (ek ((p.setCell ⟨b,8,none⟩ (.int .u64 (s.cp:Nat))).setCell ⟨b,9,none⟩ (.pointer (some ⟨d,0,none⟩))) d f i v s):=uw (uw He (by omega) (λo=>by have:=Hb o;omega) _ _) (by omega) (λo=>by have:=Hb o;omega) _ _;have Ho:Hu (Apart (λj=>j=b) w ((p.setCell ⟨b,8,none⟩ (.int .u64 (s.cp:Nat))).setCell ⟨b,9,none⟩ (.pointer (some ⟨d,0,none⟩)))):=((Hh.o.trans (Apart.of_below Hc)).trans (Apart.setCell (K:=λj=>j=b) rfl _ _ _)).trans (Apart.setCell (K:=λj=>j=b) rfl _ _ _);have Hi:Hu (w.heap.size<=d/\(0<s.ds.length->w.heap.size<=f)):=⟨by omega,λo=>by have:=Hb o;omega⟩;clear He Hk Hb Hc Ha;unfold sV
 go_wp2_with fail
 go_end0
 exact⟨rfl,⟨d,f,i,v,Hj.o,Hl.o,Hi.o.1,Hi.o.2⟩,Ho.o⟩
def dA (base:Nat) (W:World) (Ba:Nat):Prop:=∀pb,W.cell? ⟨Ba,9,none⟩=some (.pointer (some ⟨pb,0,none⟩))->base<=pb/\∀db n c,0<n->W.cell? ⟨pb,0,none⟩=some (.slice (some ⟨db,0,none⟩) n c)->base<=db
def io (w w':World) (Ba:Nat):Prop:=w'.heap[Ba]?=w.heap[Ba]?\/dA w w' Ba
theorem dA.less{a:Nat}(h:dA a W Ba)(f:b<=a):dA b W Ba:=λd e=>⟨Q5 f (h d e).1,λdb n c i g=>Q5 f ((h d e).2 db n c i g)⟩
theorem io.old{X:World}(h:io X W Ba)(a:Below w w X)(b:Ba<w):io w W Ba:=h.elim (λe=>.inl (e.trans (a.block Ba b))) (λe=>.inr (e.less a.size))
theorem yo(h:bA W Ba tb m Bd Be hv cp pb)(hs:ek W pb db ao c s)(l:base<=pb)(n:0<s.ds.length->base<=db):dA base W Ba:=by
 intro b e;have j:W.cell? ⟨Ba,9,none⟩=some (.pointer (some ⟨pb,0,none⟩)):=ad h 9;rw[j] at e;obtain rfl:pb=b:=by cases e;rfl
 refine⟨l,λa k c1 o g=>?_⟩;rw[hs.pool.row] at g;have i:ao=some ⟨a,0,none⟩/\s.ds.length=k:=by cases g;exact⟨rfl,rfl⟩
 have d:0<s.ds.length:=by omega
 have f:=(hs.pool.at0 d).1;rw[i.1] at f;obtain rfl:a=db:=by cases f;rfl
 exact n d
theorem lW{A B:World}(h:A.heap[b]?=B.heap[b]?)(o:Nat):A.cell? ⟨b,o,none⟩=B.cell? ⟨b,o,none⟩:=by simp[World.cell?,h]
def aP (x:af × Value × Value):List Value:=[.string x.1.pod.nm,.int .i64 x.1.pod.pr,x.2.1,x.2.2]
theorem yq(x:af)(a:Option Addr)(n c:Nat)(a2:Option Addr)(n2 c2:Nat):∀u∈aP (x,.slice a n c,.slice a2 n2 c2),u.oneCell'=true:=by
 intro u b
 simp[aP] at b
 rcases b with rfl|rfl|rfl|rfl <;> rfl
theorem E4(w:World)(x:af × Value × Value)(t:TypeId):∀j u,(aP x)[j]?=some u->(w.alloc (.cells #[x.1.pod.nm,(x.1.pod.pr:Int),x.2.1,x.2.2] t)).cell? ((w.heap.size:Addr).add j)=some u:=by simp_all[Addr.add_lit,aP]
theorem E5:(prog.info? 101).map (λi=>(i.zero,i.size,i.bytes))=some (some (.agg #[ByteArray.empty,(0:Int),.slice none 0 0,.slice none 0 0]),4,72):=by kernel_rfl
structure yr (W:World) (v:Value) (l:List (af × Value × Value)) (N:Nat) (M:Nat->Prop):Prop where
 row:W.ownsRow N 101 4 v l.length (l.flatMap aP)
 in_:∀x∈l,aQ (au (λj=>M j\/v.ownBlock=some j) W) x.2.1 x.1.pod.cs/\b7 (au (λj=>M j\/v.ownBlock=some j) W) x.2.2 x.1.gs
theorem U3{l:List (af × Value × Value)}{N:Nat}{M:Nat->Prop}(h:yr W v l N M)(q:∀j,M j->j<N):aY (au M W) v (l.map Prod.fst):=by
 have s:=h.row
 rcases h.row.2 with⟨f,r⟩|⟨g,c,u,f,w,Hb,Ha,Hc,_⟩
 ·have:l=[]:=Qe r
  subst this;rw[f];exact⟨none,0,rfl,⟨lR,Nat.zero_le _⟩,λh=>absurd h (Nat.lt_irrefl 0)⟩
 ·subst f;have key:∀(l:List (af × Value × Value)) (k:Nat) (b:k<l.length) (j:Nat),j<4->(l.flatMap aP)[k*4+j]?=(aP l[k])[j]?:=by
   intro l
   induction l with
   | nil=>intro k b;simp at b
   | cons a l ih=>
    intro k b j d;rw[List.flatMap_cons];cases k with
    | zero=>rw[List.getElem?_append_left (by simp[aP];omega)];simp
    | succ k=>
     rw[List.getElem?_append_right (by simp[aP];omega)]
     have:=ih k (by simpa using b) j d
     simp only[List.getElem_cons_succ];rw[<- this]
     congr 1
     simp[aP]
     omega
  refine⟨_,c,by rw[Q9],by rw[Q9];exact⟨Ha,Hc⟩,λ_=>⟨g,0,λk=>(l.getD k (ag [] 0,.nilIface,.nilIface)).2.1,λk=>(l.getD k (ag [] 0,.nilIface,.nilIface)).2.2,rfl,by rw[bX];exact (gS Hb).1,λk b=>?_⟩⟩;rw[Q9] at b;have e:ag (l.map Prod.fst) k=l[k].1:=by simp[ag,b]
  have p:l.getD k (ag [] 0,.nilIface,.nilIface)=l[k]:=by simp[b]
  obtain⟨n,m⟩:=h.in_ _ (List.getElem_mem b);dsimp only;rw[e,p];have i:aZ (au (λj=>M j\/(Value.slice g l.length c).ownBlock=some j) W) (au M W):=bE (λj _ t=>⟨λd=>t (.inl d),rfl⟩) (lR);have cc:∀j,j<4->(au M W).cell? ⟨g,0+k*4+j,none⟩=(aP l[k])[j]?:=λj d=>by
   rw[World.cell?_of_block (a:=⟨g,0+k*4+j,none⟩) (b9 (λo=>by have:=q g o;omega)),Qd,s.cellAt (k*4+j) (by omega)];exact key l k b j d
  exact⟨⟨cc 0 (by decide),cc 1 (by decide),cc 2 (by decide),cc 3 (by decide)⟩,n.le i,m.le i⟩
abbrev oJ:=λ(x0:af) (x1:Option Addr) (x2:Nat) (x3:Option Addr) (x4:Nat)=>(.cells #[x0.pod.nm,(x0.pod.pr:Int),.slice x1 x0.pod.cs.length x2,.slice x3 x0.gs.length x4] 101:Obj)
abbrev yt:=λ(Bh:Nat) (x:af) (ca:Option Addr) (cc:Nat) (ga:Option Addr) (gc:Nat) (w':World)=>cl w' Bh (0) x.pod.nm/\cl w' Bh (1) (x.pod.pr:Int)/\cl w' Bh (2) (.slice ca x.pod.cs.length cc)/\cl w' Bh (3) (.slice ga x.gs.length gc)
theorem E6(Ba tb:Nat)(m:aL)(Bd Be:Nat)(hv:Value)(cp pb:Nat)(hs:List af)(w:World)(h:bA w Ba tb m Bd Be hv cp pb)(hH:aY w hv hs)(hok:lf hs)(hl:hs.length<=100) :
  Calls prog 12 #[Ba] w λe w'=>∃a c,e=.returned (.slice a hs.length c)/\aY (fresh w w') (.slice a hs.length c) hs/\Below w w w':=by
 obtain⟨i0,hi,H7,hh,hf⟩:=info_parts E5;have H3:=qI hok;obtain⟨ha,hc,rfl,hm,hr⟩:=hH;have HR:=qI hr;unfold bA at h;have c7:w.cell? ⟨Ba,7,none⟩=some (.slice ha hs.length hc):=ad h 7;clear hok hr hm h
 go_enter func12,ntmps12
 go_wp2_with fail
 clear c7
 go_loopw [3,11] (λpv i wr=>∃(k:Nat) (l:List (af × Value × Value)),k<=hs.length/\i=.int .i64 k/\l.length=k/\l.map Prod.fst=hs.take k/\yr wr pv l w (λj=>j<w.heap.size)/\Below w w wr) (λ_ i _=>hs.length - (intOf i).toNat)
 case atStart=>exact⟨0,[],by omega,rfl,rfl,rfl,⟨Qw _ _ _ _,λx hx=>(List.not_mem_nil hx).elim⟩,Q0 _ _⟩
 case round=>
  obtain⟨k,l,hk,rfl,HS,HM,Hg,hb⟩:=hrel;have HN:=qI HS;have HJ:=qI HM;have Hb:=qI Hg;have HB:=qI hb;have hD:=hb.size;have hu:l.length<=100:=by omega
  obtain⟨va,vc,HW⟩:=gI Hg.row;subst HW;clear HS HM Hg
  by_cases hlt:k<hs.length
  ·obtain⟨hy,ho,cv,gvv,rfl,Hs⟩:=HR.o (by omega);have hle:=aZ.of_below hb;obtain⟨x0,x1,x2,x3⟩:=(Hs.2 k hlt).1;have x0:=hle.cell _ _ _ x0;have x1:=hle.cell _ _ _ x1;have x2:=hle.cell _ _ _ x2;have x3:=hle.cell _ _ _ x3;have He:=((Hs.2 k hlt).2.1).le hle;have Hc:=((Hs.2 k hlt).2.2).le hle;obtain⟨HG,H8,HK⟩:=H3.o (ag hs k) (by simp[ag,hlt]);have HV:Hu (hs.take (k+1)=hs.take k++[ag hs k]):=by unfold Hu;rw[Qa hlt];simp[ag,hlt]
   obtain⟨ca,cc,HD,HY,H5⟩:=id He;obtain⟨ga,gc,HF,HT,H2⟩:=id Hc;rw[HD] at x2 He;rw[HF] at x3 Hc;have Hz:=qI He;have Ht:=qI Hc;have HP:=qI (jv HG);have H9:=qI HK;have hw:=HP.o.2.2.1;have hp:(ag hs k).gs.length<=3:=by omega
   clear Hs He Hc HD HF H5 H2 hle HY HT HG HK H8;generalize ag hs k=x at *;have Hl:=qI ((Q0 wr wr).alloc (lR) (.cells #[x.pod.nm,(x.pod.pr:Int),.slice ca x.pod.cs.length cc,.slice ga x.gs.length gc] 101));have Hq:=qI (bd wr (.cells #[x.pod.nm,(x.pod.pr:Int),.slice ca x.pod.cs.length cc,.slice ga x.gs.length gc] 101) rfl);have ht:(wr.alloc (.cells #[x.pod.nm,(x.pod.pr:Int),.slice ca x.pod.cs.length cc,.slice ga x.gs.length gc] 101)).heap.size=wr.heap.size+1:=by simp
   clear hb
   go_wp2_with fail
   generalize wr.alloc (.cells #[x.pod.nm,(x.pod.pr:Int),.slice ca x.pod.cs.length cc,.slice ga x.gs.length gc] 101)=X at *;generalize hBh:wr.heap.size=Bh at *;clear x0 x1 x2 x3;have Hj:Hu (∀W,Below X X W->(yt Bh x ca cc ga gc) W):=λW hb=>⟨ad ((hb.block (Bh) (by omega)).trans Hq.o) 0,ad ((hb.block (Bh) (by omega)).trans Hq.o) 1,ad ((hb.block (Bh) (by omega)).trans Hq.o) 2,ad ((hb.block (Bh) (by omega)).trans Hq.o) 3⟩
   have Hn:Hu (Below X X X.drew):=bB (Q0 _ _);refine wp_region_held_drew (S:=yt Bh x ca cc ga gc) (by kernel_rfl) (Hj.o _ Hn.o) λhQ=>?_;generalize X.drew=V at *;refine tk 0 ?_;refine tk 1 ?_;refine tk 2 ?_;refine tk 4 ?_;refine tk 5 ?_;refine rd 3 λK hK=>?_;go_simp
   go_wp2_with fail
   refine (Es x.pod.nm x.pod.pr x.pod.cs _ V (Hz.o.below ((show Below wr wr X by rw[hBh];exact Hl.o).trans (Hn.o.mono (by omega)))) (by omega) (λq hq=>by have:=(HP.o.2.2.2 (ae x.pod.cs q) (fP _ _ _ hq)).2.2.2.2.2.1;omega)).mono ?_;rintro e W1 ⟨pa,pcc,rfl,HC,HE⟩;have Ho:=qI (Hn.o.trans (HE.mono Hn.o.size));have H0:=qI (HC.le (pE (λ_ _ _=>rfl) (lR) Hn.o.size));clear HE HC
   go_wp2_with fail
   refine hK.o _ _ (Hj.o _ Ho.o) λhQ=>?_;clear hK K;refine rd 6 λK hK=>?_;go_simp
   go_wp2_with fail
   refine (RR (.slice ga x.gs.length gc) x.gs W1 (Ht.o.below ((show Below wr wr X by rw[hBh];exact Hl.o).trans (Ho.o.mono (by omega)))) (by omega) (λq hq=>by have:=wV (fA H9.o q hq);omega)).mono ?_;rintro e W2 ⟨qa,qc,rfl,HL,HA⟩;have Hi:=qI (Ho.o.trans (HA.mono Ho.o.size));have H4:=qI (H0.o.le (DW HA (lR)));have H6:=qI (HL.le (pE (λ_ _ _=>rfl) (lR) Ho.o.size));have hC:=Hi.o.size;clear HA HL
   go_wp2_with fail
   refine hK.o _ _ (Hj.o _ Hi.o) λhQ=>?_;clear hK K;refine tk 7 ?_;have Hr:=qI (Hi.o.alloc Hi.o.size (.cells #[x.pod.nm,(x.pod.pr:Int),.slice pa x.pod.cs.length pcc,.slice qa x.gs.length qc] 101));have HH:=qI (E4 W2 (x,.slice pa x.pod.cs.length pcc,.slice qa x.gs.length qc) 101);dsimp only at HH;have hB:(W2.alloc (.cells #[x.pod.nm,(x.pod.pr:Int),.slice pa x.pod.cs.length pcc,.slice qa x.gs.length qc] 101)).heap.size=W2.heap.size+1:=by simp
   have Hh:∀b,(Value.slice va l.length vc).ownBlock=some b->w.heap.size<=b/\b<Bh:=λb hb=>by rw[<- hBh];exact Hb.o.row.lt b hb
   have H1:Hu ((W2.alloc (.cells #[x.pod.nm,(x.pod.pr:Int),.slice pa x.pod.cs.length pcc,.slice qa x.gs.length qc] 101)).ownsRow w 101 4 (.slice va l.length vc) l.length (l.flatMap aP)):=rM Hb.o.row λg hg=>(Hr.o.block g (by have:=(Hh g hg).2;omega)).trans (Hl.o.block g (Hh g hg).2);refine rd 8 λK hK=>?_;go_simp
   go_wp2_with fail
   refine hK.o _ _ (Hj.o _ Hr.o) λhQ=>?_;clear hK K;refine rd 9 λK hK=>?_;rw[if_pos (by rfl)]
   refine wp_append_lies (o := { dst := some 24, op := Op.call { callee := Callee.builtin Builtin.append, args := #[Operand.tmp 15, Operand.tmp 23], argTypes := #[43, 43] }, type := 43, pos := "ostler.go:50", after := #[{ on := 0, ground := Ground.data }, { on := 8, ground := Ground.data }, { on := 6, ground := Ground.chain }], guard := none }) _ _ _ 43 rfl w.heap.size 101 i0 (.agg #[.string ByteArray.empty, .int .i64 0, .slice none 0 0, .slice none 0 0]) 4 72 underlying43 hi H7 hh hf rfl (by decide) (.slice va l.length vc) _ _ rfl H1.o ⟨_, 0, none⟩ 1 1 (aP (x, .slice pa x.pod.cs.length pcc, .slice qa x.gs.length qc)) rfl rfl HH.o (yq _ _ _ _ _ _ _) (by decide) (by unfold maxLen; omega) (by omega) (by omega) (W2.heap.size + 1) (by simp) ?_
   intro g' cap' W4 Hf Ha Hx HZ;have hA:=Ha.size;have HQ:(yt Bh x ca cc ga gc) W4:=by
    obtain⟨q0,q1,q2,q3⟩:=Hj.o _ Hr.o;have Hp:some Bh≠(Value.slice va l.length vc).ownBlock:=λe=>by have:=(Hh Bh e.symm).2;omega
    exact⟨(Ha.cell_far Bh (by show Bh<_;omega) Hp).trans q0,(Ha.cell_far ⟨Bh,1,none⟩ (by show Bh<_;omega) Hp).trans q1,(Ha.cell_far ⟨Bh,2,none⟩ (by show Bh<_;omega) Hp).trans q2,(Ha.cell_far ⟨Bh,3,none⟩ (by show Bh<_;omega) Hp).trans q3⟩
   have HI:Hu (∀j,j<W2.heap.size->(Value.slice va l.length vc).ownBlock≠some j->W4.heap[j]?=W2.heap[j]?):=λj hj hno=>(Ha.block j (by omega) λe=>hno e.symm).trans (Below.heap_alloc _ _ _ hj)
   have he:Hu (Below w w W4):=((HB.o.trans ((show Below wr wr X by rw[hBh];exact Hl.o).mono (by omega))).trans (Hr.o.mono (by omega))).grown Ha (by omega) λj hj=>(Hh j hj).1;have Hk:Hu (yr W4 (.slice g' (l.length+1) cap') (l++[(x,Value.slice pa x.pod.cs.length pcc,Value.slice qa x.gs.length qc)]) w λj=>j<w.heap.size):=by
    refine⟨?_,λz hz=>?_⟩
    ·rw[Q2,List.flatMap_append]
     simpa using Hf
    ·rcases Qi.1 hz with hz|hz
     ·obtain⟨z1,z2⟩:=Hb.o.in_ z hz;have hle:aZ (au (λj=>j<w.heap.size\/(Value.slice va l.length vc).ownBlock=some j) wr) (au (λj=>j<w.heap.size\/(Value.slice g' (l.length+1) cap').ownBlock=some j) W4):=bE (λj hj hn=>by
       have HU:¬ j<w.heap.size:=λh=>hn (.inl h)
       have HO:(Value.slice va l.length vc).ownBlock≠some j:=λh=>hn (.inr h)
       refine⟨λh=>?_,(HI.o j (by omega) HO).trans ((Hi.o.block j (by omega)).trans (Hl.o.block j (by rw[<- hBh];exact hj)))⟩
       rcases h with h|h
       ·exact HU h
       ·have h:some g'=some j:=h;injection h with h
        rcases Hx with Hm|Hm
        ·exact HO (by rw[Hm,h])
        ·omega) (by omega)
      exact⟨z1.le hle,z2.le hle⟩
     ·rw[Qm.1 hz];have hle:aZ (fresh X W2) (au (λj=>j<w.heap.size\/(Value.slice g' (l.length+1) cap').ownBlock=some j) W4):=bE (λj hj hn=>by
       have hn:¬ j<X.heap.size:=hn;refine⟨λh=>?_,HI.o j hj (λh=>by have:=(Hh j h).2;omega)⟩
       rcases h with h|h
       ·omega
       ·have h:some g'=some j:=h;injection h with h
        rcases Hx with Hm|Hm
        ·have:=(Hh g' Hm).2;omega
        ·omega) (by omega)
      exact⟨H4.o.le hle,H6.o.le hle⟩
   refine hK.o _ _ HQ λhQ=>?_;clear hK K;(try simp only[Act.put,s1,s2,s3]);refine tk 10 ?_;refine Qn (by kernel_rfl) ?_ _;clear hQ Hf Ha Hx HQ
   go_wp2
   go_roundw
   case rel=>exact⟨k+1,l++[(x,Value.slice pa x.pod.cs.length pcc,Value.slice qa x.gs.length qc)],by omega,by go_num,by rw[Q2,HN.o];rfl,by rw[Qj,HJ.o,HV.o];rfl,Hk.o,he.o⟩
   case measure=>simp[intOf];omega
  ·have Hw:k=hs.length:=by omega
   have Hy:l.length=hs.length:=by rw[HN.o,Hw]
   have Hv:Hu (aY (fresh w wr) (.slice va hs.length vc) hs):=by
    unfold Hu;have h1:=U3 Hb.o λj h=>h;rw[HJ.o,Hw,Qh,Hy] at h1;exact h1
   have HX:=qI Hy;clear Hw Hy
   go_wp2
   go_ret;exact⟨va,vc,by rw[<- HX.o];rfl,Hv.o,HB.o⟩
theorem U4(base:Nat)(v:Value)(n:Nat)(r d:List Value)(a:Addr)(c:Nat)(w:World)(p:w.ownsRow base 101 4 v n r)(s:∀j u,d[j]?=some u->w.cell? (a.add j)=some u)(i:d.length=4)(f:∀u∈d,u.oneCell'=true)(D:n<=100)(B:base<=w) :
  Calls prog 54 #[v,(n:Int),.slice (some a) 1 c] w λe w'=>∃k,e=.returned k/\w'.ownsRow base 101 4 k (n+1) (r++d)/\w.grownBy w' v.ownBlock:=by
 obtain⟨i0,hi,Hh,Hi,Hf⟩:=info_parts E5;have z:=qI p;have x:=qI s;have Hk:=qI f;have Hg:Hu (d.length=1*4):=i;have Hj:∃g b,v=.slice g n b/\(n<=b/\b<=maxLen)/\(g=none->n=0):=by
  rcases p.2 with⟨o,m⟩|⟨g,b,y,o,m,E,A,t,C⟩
  ·exact⟨none,0,by rw[o,m],by rw[m];exact⟨lR,Nat.zero_le _⟩,λ_=>m⟩
  ·exact⟨_,b,o,⟨A,t⟩,λh=>by cases h⟩
 obtain⟨g,b,rfl,Hc,He⟩:=Hj;clear p s f i;have Hn:b<=9223372036854775807:=by have:=Hc.2;unfold maxLen at this;omega
 have Hm:=Hc.1;have Hl:=qI He;clear Hc He
 go_enter func54,ntmps54
 go_wp2_with (at_builtin;(refine wpList_append_own _ rfl _ _ 43 rfl base 101 i0 (.agg #[ByteArray.empty,(0:Int),.slice none 0 0,.slice none 0 0]) 4 72 underlying43 hi Hh Hi Hf rfl (by decide) _ _ _ rfl z.o a 1 c d rfl Hg.o x.o Hk.o (by unfold maxLen;omega) (by omega) (by omega) ?_;intro k q Hb Ha _))
 ·rename_i h
  have l:w.grownBy q (Value.slice g n b).ownBlock:=Ha;rw[h] at l;clear Ha;go_ret;exact⟨k,rfl,Hb,l⟩
 ·have l:w.grownBy q (Value.slice g n b).ownBlock:=Ha;clear Ha;go_ret;exact⟨k,rfl,Hb,l⟩
theorem U5(B:Nat)(n k:Sd)(v:Value)(l:Int)(d:Bool)(w:World)(h:aU w B n k v l d):Calls prog 35 #[B] w λe w'=>e=.returned d/\w'=w:=by
 unfold aU at h;have c10:cl w B (10) d:=ad h 10;clear h
 go_enter func35,ntmps35
 go_wp2
 go_ret;exact⟨rfl,rfl⟩
theorem E7(B:Nat)(n k:Sd)(l:Int)(d:Bool)(w:World)(h:aU w B n k (.slice none 0 0) l d):Calls prog 69 #[B] w λe w'=>e=.returned false/\w'=w:=by
 unfold aU at h;have a:cl w B (8) (.slice none 0 0):=ad h 8;clear h
 go_enter func69,ntmps69
 go_wp2
 go_ret;exact⟨rfl,rfl⟩
theorem uy(h:DQ W base v ps):eO W v ps:=by
 obtain⟨l,rfl,Ha,Hf⟩:=h;have o:=Ha
 rcases Ha.2 with⟨d,m⟩|⟨g,c,n,d,p,He,Hc,Hb,_⟩
 ·have:l=[]:=Qe m
  subst this;rw[d];exact⟨none,0,rfl,by unfold maxLen;simp,λh=>absurd h (Nat.lt_irrefl 0)⟩
 ·subst d;have key:∀(l:List (aj × Value)) (k:Nat) (b:k<l.length) (j:Nat),j<3->(rowP l)[k*3+j]?=(gM l[k])[j]?:=by
   intro l
   induction l with
   | nil=>intro k b;simp at b
   | cons a l ih=>
    intro k b j f;unfold rowP;rw[List.flatMap_cons];cases k with
    | zero=>rw[List.getElem?_append_left (by simp[gM];omega)];simp
    | succ k=>
     rw[List.getElem?_append_right (by simp[gM];omega)]
     have:=ih k (by simpa using b) j f
     simp only[List.getElem_cons_succ];rw[<- this];unfold rowP
     congr 1
     simp[gM]
     omega
  refine⟨_,c,by rw[Q9],by rw[Q9];exact Q5 Hc Hb,λ_=>⟨g,0,λk=>(l.getD k (aO [] 0,.nilIface)).2,rfl,(gS He).1,λk b=>?_⟩⟩;rw[Q9] at b;have e:aO (l.map Prod.fst) k=l[k].1:=by simp[aO,b]
  have i:l.getD k (aO [] 0,.nilIface)=l[k]:=by simp[b]
  dsimp only;rw[e,i];have cc:∀j,j<3->W.cell? ⟨g,0+k*3+j,none⟩=(gM l[k])[j]?:=λj f=>by
   rw[Qd,o.cellAt (k*3+j) (by omega)];exact key l k b j f
  exact⟨⟨cc 0 (by decide),cc 1 (by decide),cc 2 (by decide)⟩,Hf _ (List.getElem_mem b)⟩
theorem E8(h:∀p∈ps,ib p.cs)(d:ps.length<=100):∀k,k<=ps.length->(0<=cP (ps.take k)/\cP (ps.take k)<=1000000000000000000)/\0<=ey (ps.take k)/\ey (ps.take k)<=1000000000000000000:=by
 have key:∀k,k<=ps.length->(0<=cP (ps.take k)/\cP (ps.take k)<=3000000*(k:Int))/\0<=ey (ps.take k)/\ey (ps.take k)<=3377699720527872*(k:Int):=by
  intro k
  induction k with
  | zero=>intro _;simp[cP,ey]
  | succ k ih=>
   intro b;have e:=ih (by omega);have a:=h (aO ps k) (by simp[aO,show k<ps.length by omega]);have f:=tl a (lR);have c:=qF a (lR);rw[DO (by omega),DP (by omega)]
   push_cast
   omega
 intro k b
 have:=key k b
 have Ha:(k:Int)<=100:=by omega
 omega
abbrev yu:=λ(Ba tb:Nat) (m:aL) (w':World)=>cl w' Ba (0) tb/\cl w' Ba (1) (.int .u64 m.op)/\cl w' Ba (2) (.int .u8 m.nd)/\cl w' Ba (3) (m.nb:Int)/\cl w' Ba (4) (m.pol:Int)
theorem E9(a d:Nat)(m:aL)(v y:Nat)(t:Value)(cp o db:Nat)(s:Option Addr)(c:Nat)(ds:List ak)(us:Nat->Bool)(r:Value)(hs:List af)(w:World)(h:bA w a d m v y t cp o)(l:aF w o db s c ds us)(C:eE ds)(q:aY w r hs)(f:m.op<18446744073709551616)(k:lf hs)(n:hs.length<=100) :
  Calls prog 72 #[a,r] w λe w'=>e=.returned (.bool ((be m ds hs).isSome && bS m (hs.map af.pod)))/\Below w w w':=by
 have Hm:=qI (ym a d m v y t cp o db s c ds us r hs w h l C q f k n);have G:=qI h;have F:=qI q;have Hv:=h.lt;have Hs:Hu (∀p∈hs.map af.pod,ib p.cs):=λp l=>by
  obtain⟨x,B,rfl⟩:=Qk.1 l;exact qE (k x B).1
 have Hh:=qI (E8 Hs.o (by rw[Q9];exact n));obtain⟨E,D,rfl,_,_⟩:=q;clear h l
 go_enter func72,ntmps72
 go_wp2_with fail
 refine Hm.o.mono ?_;rintro e A ⟨Hn,Hg⟩;obtain⟨i,u,lb,rfl,Ho,_⟩:=Hn.form;have Hl:=qI Ho;have Hc:=qI (Hg.alloc Hg.size (.cells #[.int .u64 i,.pointer u] 87));have Hi:=Hc.o.size;clear Hn Ho Hg Hm
 go_upto_region 2 with fail
 generalize A.alloc (.cells #[.int .u64 i,.pointer u] 87)=X at *;have Hb:=qI (G.o.below Hc.o);have Hj:=Hb.o;unfold bA at Hj;have He:Hu (∀W,Below X X W->(yu a d m) W):=λW b=>⟨ad ((b.block (a) (by omega)).trans Hb.o) 0,ad ((b.block (a) (by omega)).trans Hb.o) 1,ad ((b.block (a) (by omega)).trans Hb.o) 2,ad ((b.block (a) (by omega)).trans Hb.o) 3,ad ((b.block (a) (by omega)).trans Hb.o) 4⟩
 clear Hj;have Ha:Hu (Below X X X.drew):=bB (Q0 _ _)
 rcases two lb with b|b
 ·subst b;refine wp_region_held_drew (S:=yu a d m) (by kernel_rfl) (He.o _ Ha.o) λj=>?_;generalize X.drew=V at *;refine tk 0 ?_;refine tk 1 ?_;refine tk 2 ?_;refine tk 3 ?_;refine tk 4 ?_;refine tk 5 ?_;refine tk 6 ?_;refine rd 7 λK g=>?_;go_simp
  go_wp2_with fail
  refine (DR (.slice E hs.length D) hs V (F.o.le ((aZ.of_below Hc.o).trans (aZ.of_below Ha.o))) n).mono ?_;rintro e z ⟨v2,rfl,Hk,Hr⟩;have Hf:=qI (Ha.o.trans (Hr.mono Ha.o.size));have Ht:=qI Hk;clear Hr Hk
  go_wp2_with fail
  refine g.o _ _ (He.o _ Hf.o) λj=>?_;clear g K;refine rd 8 λK g=>?_;go_simp
  go_wp2_with fail
  refine (xG d m.op m.nd m.nb m.pol v2 (hs.map af.pod) z (uy Ht.o) (by rw[Q9];exact n) Hs.o f Hh.o).mono ?_;rintro e H ⟨rfl,Hq⟩;have Hp:=qI (Hf.o.trans (Hq.mono Hf.o.size));clear Hq
  go_wp2_with fail
  refine g.o _ _ (He.o _ Hp.o) λj=>?_;clear g K;refine tk 9 ?_;refine tk 10 ?_;refine Qn (by kernel_rfl) ?_ _;clear j
  go_wp2
  go_ret;exact⟨by rw[<- Hl.o];rfl,Hc.o.trans (Hp.o.mono Hi)⟩
 ·subst b;refine wp_region_held_drew (S:=yu a d m) (by kernel_rfl) (He.o _ Ha.o) λj=>?_;generalize X.drew=V at *;refine tk 0 ?_;refine tk 1 ?_;refine ts 2 ?_;refine ts 3 ?_;refine ts 4 ?_;refine ts 5 ?_;refine ts 6 ?_;refine ts 7 ?_;refine ts 8 ?_;refine tk 9 ?_;refine tk 10 ?_;refine Qn (by kernel_rfl) ?_ _;clear j
  go_wp2
  go_ret;exact⟨by rw[<- Hl.o];rfl,Hc.o.trans (Ha.o.mono Hi)⟩
