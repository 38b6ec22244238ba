import Derived.Test.YtjlblidnfebmiaaGreatDoorE34
set_option maxRecDepth 100000
set_option maxHeartbeats 16000000
open Go Go.RowKit Go.Shelf
attribute [local go_sem] Oper.semAt_some
open Go.Proofs.Tryz
namespace Go.Proofs.YtjlblidnfebmiaaGreatDoor
variable {Ba Bd Be b base c cp db pb tb:Nat} {W W' w:World} {ao:Option Addr} {hv v:Value} {m:aF} {ps:List az} {s:aB}
def bx (W:World) (Ba tb:Nat) (m:aF) (Bd Be:Nat) (hv:Value) (cp pb:Nat):Prop:=W.heap[Ba]?=some (.cells #[tb,.int .u64 m.op,.int .u8 m.nd,(m.nb:Int),(m.pol:Int),Bd,Be,hv,.int .u64 cp,pb] 98 (0,0))
theorem bx.lt (h:bx W Ba tb m Bd Be hv cp pb):Ba<W:=(gS h).1
theorem bx.block (h:bx W Ba tb m Bd Be hv cp pb) (a:W'.heap[Ba]?=W.heap[Ba]?):bx W' Ba tb m Bd Be hv cp pb:=a.trans h
theorem bx.below (h:bx W Ba tb m Bd Be hv cp pb) (a:Below W W W'):bx W' Ba tb m Bd Be hv cp pb:=h.block (a.block Ba h.lt)
theorem EA (d q:Nat) (m:aF) (p j:Nat) (k:Value) (cp a db:Nat) (f:Option Addr) (c:Nat) (ds:List ah) (us:Nat->Bool) (w:World) (h:bx w d q m p j k cp a) (g:aJ w a db f c ds us) (l:eT ds) :
  Calls prog 40 #[d] w λe w'=>∃ v,e=.returned v/\jG w w' v ds/\Below w w w':=by
 have o:=qI (zZ w a db f c ds us g l);unfold bx at h;have s:cl w d (9) a:=aa h 9;clear h g
 go_enter func40,ntmps40
 go_wp2_with fail
 refine o.o.mono ?_;rintro e w' ⟨v,rfl,b,i⟩;have n:=qI b;obtain ⟨r,c1,g1,Ha,_⟩:=id b;subst Ha;clear b
 go_wp2
 go_ret;exact ⟨_,rfl,n.o,i⟩
theorem rf.form {w':World} {e:Ending} {o:Option aB} (h:rf w w' e o):∃ (cp:Int) (p:Option Addr) (b:Bool),e=.returned (.tuple #[.agg #[.int .u64 cp,.pointer p],b])/\b=o.isSome/\(∀ s,o=some s->∃ a db d c,cp=(s.cp:Int)/\p=some ⟨a,0,none⟩/\ee w' a db d c s/\w.heap.size<=a/\(0<s.ds.length->w.heap.size<=db)):=by
 cases o with
 | none=>
  obtain ⟨cp,p,rfl⟩:=h;exact ⟨cp,p,false,rfl,rfl,λs hs=>nomatch hs⟩
 | some s=>
  obtain ⟨a,db,d,c,rfl,g,i,f⟩:=h;exact ⟨_,_,true,rfl,rfl,λj hs=>by injection hs with hs;subst hs;exact ⟨a,db,d,c,rfl,rfl,g,i,f⟩⟩
theorem tQ (h:ee W pb db ao c s) (a:pb≠b) (d:0<s.ds.length->db≠b) (j:Nat) (v:Value):ee (W.setCell ⟨b,j,none⟩ v) pb db ao c s:=
 ⟨h.pool.kept (cK _ ⟨b,j,none⟩ _) (λe=>a (by injection e)) λf e=>d f (by injection e),h.nodes,h.cp⟩
abbrev xM:=λ(Ba tb:Nat) (m:aF) (w':World)=>cl w' Ba (0) tb/\cl w' Ba (1) (.int .u64 m.op)/\cl w' Ba (2) (.int .u8 m.nd)/\cl w' Ba (3) (m.nb:Int)/\cl w' Ba (4) (m.pol:Int)
theorem xN (b k:Nat) (m:aF) (x z:Nat) (t:Value) (cp f db:Nat) (i:Option Addr) (c:Nat) (ds:List ah) (us:Nat->Bool) (H:Value) (hs:List ad) (w:World) (h:bx w b k m x z t cp f) (J:aJ w f db i c ds us) (P:eT ds) (I:aX w H hs) (u:m.op<18446744073709551616) (A:kM hs) (M:hs.length<=100) :
  Calls prog 52 #[b,H] w λe w'=>rf w w' e (aW m ds hs)/\Below w w w':=by
 have Hh:=qI ((Q0 w w).alloc (lR) (.cells #[.int .u64 0,.pointer none] 87));have R:=qI (aU w (.cells #[.int .u64 0,.pointer none] 87) rfl);have d:=qI (h.below Hh.o);have L:=qI (J.below Hh.o);have U:=qI (I.below Hh.o);have Hz:(w.alloc (.cells #[.int .u64 0,.pointer none] 87)).heap.size=w.heap.size+1:=by simp
 have Hy:=h.lt;obtain ⟨ha,Z,rfl,_,_⟩:=I;clear h J
 go_enter func52,ntmps52
 go_wp2_with fail
 generalize w.alloc (.cells #[.int .u64 0,.pointer none] 87)=X at *;unfold bx at d;have Hi:Hu (∀ W,Below X X W->(xM b k m) W):=λW q=>⟨aa ((q.block (b) (by omega)).trans d.o) 0,aa ((q.block (b) (by omega)).trans d.o) 1,aa ((q.block (b) (by omega)).trans d.o) 2,aa ((q.block (b) (by omega)).trans d.o) 3,aa ((q.block (b) (by omega)).trans d.o) 4⟩
 have He:Hu (Below X X X.drew):=bF (Q0 _ _);refine wp_region_held_drew (S:=xM b k m) (by kernel_rfl) (Hi.o _ He.o) λr=>?_;generalize X.drew=V at *;refine tk 0 ?_;refine tk 1 ?_;refine tk 2 ?_;refine tk 3 ?_;refine tk 4 ?_;refine tk 6 ?_;refine rd 5 λK j=>?_;go_simp
 go_wp2_with fail
 refine (EA b k m x z t cp f db i c ds us V (bx.below (show bx X b k m x z t cp f from d.o) He.o) (L.o.below He.o) P).mono ?_;rintro e O ⟨v1,rfl,Hk,Hn⟩;have Hf:=qI (He.o.trans (Hn.mono He.o.size));have Hr:=qI Hk;obtain ⟨Y,c1,g1,Hs,_⟩:=id Hk;subst Hs;clear Hn Hk
 go_wp2_with fail
 refine j.o _ _ (Hi.o _ Hf.o) λr=>?_;clear j K;refine rd 7 λK j=>?_;go_simp
 go_wp2_with fail
 obtain ⟨B,Hb⟩:=Ex Hr.o;refine (To m k B 0 _ _ ds hs O Hb (U.o.below Hf.o) u A M).mono ?_;rintro e n ⟨Hg,Ho⟩;have Ha:=qI (Hf.o.trans (Ho.mono Hf.o.size));have Ht:=Hf.o.size;obtain ⟨a,g,lb,rfl,Hm,Hp⟩:=Hg.form;have Hq:=qI Hm;have Hx:Hu (∀ s,aW m ds hs=some s->∃ f db i c,a=(s.cp:Int)/\g=some ⟨f,0,none⟩/\ee n f db i c s/\w.heap.size<f/\(0<s.ds.length->w.heap.size<db)):=λs hs=>by
  obtain ⟨f,db,i,c,T,Q,y,N,o⟩:=Hp s hs;exact ⟨f,db,i,c,T,Q,y,by omega,λl=>by have:=o l;omega⟩
 clear Ho Hg Hb Hm Hp
 go_wp2_with fail
 refine j.o _ _ (Hi.o _ Ha.o) λr=>?_;clear j K;refine tk 8 ?_;refine tk 9 ?_;have Hc:=(Ha.o.block w (by omega)).trans R.o;have F:cl n w (0) (.int .u64 0):=aa Hc 0;have D:cl n w (1) (.pointer none):=aa Hc 1;have C:=bw Hc 0;have G:=bw Hc 1;have Hl:=qI (aO (aO Hc 0 (.int .u64 a)) 1 (.pointer g));have Hv:=qI (((Hh.o.trans (Ha.o.mono (by omega))).setCell (p:=w.heap.size) (lR) (.int .u64 a)).setCell (p:=⟨w,1,none⟩) (lR) (.pointer g));have Hw:Hu ((xM b k m) ((n.setCell w (.int .u64 a)).setCell ⟨w,1,none⟩ (.pointer g))):=⟨aa ((set_other (by omega)).trans ((set_other (by omega)).trans ((Ha.o.block (b) (by omega)).trans d.o))) 0,aa ((set_other (by omega)).trans ((set_other (by omega)).trans ((Ha.o.block (b) (by omega)).trans d.o))) 1,aa ((set_other (by omega)).trans ((set_other (by omega)).trans ((Ha.o.block (b) (by omega)).trans d.o))) 2,aa ((set_other (by omega)).trans ((set_other (by omega)).trans ((Ha.o.block (b) (by omega)).trans d.o))) 3,aa ((set_other (by omega)).trans ((set_other (by omega)).trans ((Ha.o.block (b) (by omega)).trans d.o))) 4⟩;clear Hc;refine rd 10 λK j=>?_;go_simp
 go_wp2_with fail
 refine j.o _ _ Hw.o λr=>?_;clear j K;refine tk 11 ?_;refine Qn (by kernel_rfl) ?_ _;clear r;have Hj:Hu (rf w ((n.setCell w (.int .u64 a)).setCell ⟨w,1,none⟩ (.pointer g)) (.returned (.tuple #[.agg #[.int .u64 a,.pointer g],lb])) (aW m ds hs)):=by
  unfold Hu;cases hl0:aW m ds hs with
  | none=>rw [Hq.o,hl0];exact ⟨a,g,rfl⟩
  | some s=>
   obtain ⟨f,db,i,c,rfl,rfl,y,N,o⟩:=Hx.o s hl0;rw [Hq.o,hl0];exact ⟨f,db,i,c,rfl,tQ (tQ y (by omega) (λl=>by have:=o l;omega) _ _) (by omega) (λl=>by have:=o l;omega) _ _,by omega,λl=>by have:=o l;omega⟩
 go_wp2_with fail
 generalize ((n.setCell w (.int .u64 a)).setCell ⟨w,1,none⟩ (.pointer g))=E at *;(try simp only [Exit.inBlock,Exit.then]);refine bodyPost_ret (v:=.tuple #[.agg #[.int .u64 a,.pointer g],lb]) ?_ rfl ⟨Hj.o,Hv.o⟩;have r0:cl E w (0) (.int .u64 a):=aa Hl.o 0;have r1:cl E w (1) (.pointer g):=aa Hl.o 1;rw [kK rfl];go_simp
theorem tR (b q:Nat) (m:aF) (u p:Nat) (r:Value) (cp k db:Nat) (z:Option Addr) (c:Nat) (ds:List ah) (us:Nat->Bool) (g:Value) (hs:List ad) (s:aB) (w:World) (h:bx w b q m u p r cp k) (D:∃ a n c,r=.slice a n c) (F:aJ w k db z c ds us) (C:k≠b) (x:0<ds.length->db≠b) (J:eT ds) (y:aX (av (λj=>j=b) w) g hs) (B:m.op<18446744073709551616) (A:kM hs) (I:hs.length<=100) (l:aW m ds hs=some s) :
  Calls prog 58 #[b,g] w λe w'=>e=.returned (.tuple #[])/\(∃ d f i v,bx w' b q m u p g s.cp d/\ee w' d f i v s/\w.heap.size<=d/\(0<s.ds.length->w.heap.size<=f))/\Apart (λj=>j=b) w w':=by
 obtain ⟨H,on,L,rfl⟩:=D;have Hq:=h.lt;unfold bx at h;have R:cl w b (7) (.slice H on L):=aa h 7;have M:=bw h 7;have Hi:Hu (bx (w.setCell ⟨b,7,none⟩ g) b q m u p g cp k):=aO h 7 g;have Hg:Hu (Apart (λj=>j=b) w (w.setCell ⟨b,7,none⟩ g)):=Apart.setCell (K:=λj=>j=b) rfl _ _ _;have Hn:Hu (aJ (w.setCell ⟨b,7,none⟩ g) k db z c ds us):=F.kept (cK _ ⟨b,7,none⟩ _) (λe=>C (by injection e)) λo e=>x o (by injection e);have Hl:Hu (aX (w.setCell ⟨b,7,none⟩ g) g hs):=y.le ((nI Hg.o λ_ _ h=>h).trans (dm _ _));have Hr:(w.setCell ⟨b,7,none⟩ g).heap.size=w.heap.size:=by simp
 have Hf:=qI (xN b q m u p g cp k db z c ds us g hs _ Hi.o Hn.o J Hl.o B A I);rw [l] at Hf;obtain ⟨G,E,rfl,_,_⟩:=id y;clear h F y
 go_enter func58,ntmps58
 go_wp2_with fail
 generalize w.setCell ⟨b,7,none⟩ (.slice G hs.length E)=P at *;refine Hf.o.mono ?_;rintro e t ⟨⟨d,f,i,v,rfl,Hh,Hk,Hb⟩,Hc⟩;have Hj:=qI (Hi.o.below Hc);have Ha:=Hj.o;unfold bx at Ha;have Q:cl t b (8) (.int .u64 (cp:Nat)):=aa Ha 8;have N:cl t b (9) k:=aa Ha 9;have S:=bw Ha 8;have O:=bw Ha 9;have Ho:Hu (bx ((t.setCell ⟨b,8,none⟩ (.int .u64 (s.cp:Nat))).setCell ⟨b,9,none⟩ (.pointer (some ⟨d,0,none⟩))) b q m u p (.slice G hs.length E) s.cp d):=aO (aO Ha 8 _) 9 _;have Hm:Hu (ee ((t.setCell ⟨b,8,none⟩ (.int .u64 (s.cp:Nat))).setCell ⟨b,9,none⟩ (.pointer (some ⟨d,0,none⟩))) d f i v s):=tQ (tQ Hh (by omega) (λo=>by have:=Hb o;omega) _ _) (by omega) (λo=>by have:=Hb o;omega) _ _;have Hp:Hu (Apart (λj=>j=b) w ((t.setCell ⟨b,8,none⟩ (.int .u64 (s.cp:Nat))).setCell ⟨b,9,none⟩ (.pointer (some ⟨d,0,none⟩)))):=((Hg.o.trans (Apart.of_below Hc)).trans (Apart.setCell (K:=λj=>j=b) rfl _ _ _)).trans (Apart.setCell (K:=λj=>j=b) rfl _ _ _);have He:Hu (w.heap.size<=d/\(0<s.ds.length->w.heap.size<=f)):=⟨by omega,λo=>by have:=Hb o;omega⟩;clear Hh Hk Hb Hc Ha;unfold sV
 go_wp2_with fail
 go_end0
 exact ⟨rfl,⟨d,f,i,v,Ho.o,Hm.o,He.o.1,He.o.2⟩,Hp.o⟩
def j9 (base:Nat) (W:World) (Ba:Nat):Prop:=∀ pb,W.cell? ⟨Ba,9,none⟩=some (.pointer (some ⟨pb,0,none⟩))->base<=pb/\∀ db n c,0<n->W.cell? ⟨pb,0,none⟩=some (.slice (some ⟨db,0,none⟩) n c)->base<=db
def jz (w w':World) (Ba:Nat):Prop:=w'.heap[Ba]?=w.heap[Ba]?\/j9 w w' Ba
theorem j9.less {a:Nat} (h:j9 a W Ba) (f:b<=a):j9 b W Ba:=λd e=>⟨Q5 f (h d e).1,λdb n c i g=>Q5 f ((h d e).2 db n c i g)⟩
theorem jz.old {X:World} (h:jz X W Ba) (a:Below w w X) (b:Ba<w):jz w W Ba:=h.elim (λe=>.inl (e.trans (a.block Ba b))) (λe=>.inr (e.less a.size))
theorem xO (h:bx W Ba tb m Bd Be hv cp pb) (hs:ee W pb db ao c s) (j:base<=pb) (k:0<s.ds.length->base<=db):j9 base W Ba:=by
 intro b e;have l:W.cell? ⟨Ba,9,none⟩=some (.pointer (some ⟨pb,0,none⟩)):=aa h 9;rw [l] at e;obtain rfl:pb=b:=by cases e;rfl
 refine ⟨j,λa n c1 o d=>?_⟩;rw [hs.pool.row] at d;have i:ao=some ⟨a,0,none⟩/\s.ds.length=n:=by cases d;exact ⟨rfl,rfl⟩
 have g:0<s.ds.length:=by omega
 have f:=(hs.pool.at0 g).1;rw [i.1] at f;obtain rfl:a=db:=by cases f;rfl
 exact k g
theorem ot {A B:World} (h:A.heap[b]?=B.heap[b]?) (o:Nat):A.cell? ⟨b,o,none⟩=B.cell? ⟨b,o,none⟩:=by simp [World.cell?,h]
def aN (x:ad × Value × Value):List Value:=[.string x.1.pod.nm,.int .i64 x.1.pod.pr,x.2.1,x.2.2]
theorem xP (x:ad) (a:Option Addr) (n c:Nat) (a2:Option Addr) (n2 c2:Nat):∀ u∈aN (x,.slice a n c,.slice a2 n2 c2),u.oneCell'=true:=by
 intro u b
 simp [aN] at b
 rcases b with rfl|rfl|rfl|rfl <;> rfl
theorem EB (w:World) (x:ad × Value × Value) (t:TypeId):∀ j u,(aN x)[j]?=some u->(w.alloc (.cells #[x.1.pod.nm,(x.1.pod.pr:Int),x.2.1,x.2.2] t)).cell? ((w.heap.size:Addr).add j)=some u:=by simp_all [Addr.add_lit,aN]
theorem EC:(prog.info? 101).map (λi=>(i.zero,i.size,i.bytes))=some (some (.agg #[ByteArray.empty,(0:Int),.slice none 0 0,.slice none 0 0]),4,72):=by kernel_rfl
structure xQ (W:World) (v:Value) (l:List (ad × Value × Value)) (N:Nat) (M:Nat->Prop):Prop where
 row:W.ownsRow N 101 4 v l.length (l.flatMap aN)
 in_:∀ x∈l,aZ (av (λj=>M j\/v.ownBlock=some j) W) x.2.1 x.1.pod.cs/\cq (av (λj=>M j\/v.ownBlock=some j) W) x.2.2 x.1.gs
theorem Tp {l:List (ad × Value × Value)} {N:Nat} {M:Nat->Prop} (h:xQ W v l N M) (o:∀ j,M j->j<N):aX (av M W) v (l.map Prod.fst):=by
 have s:=h.row
 rcases h.row.2 with ⟨f,m⟩|⟨g,c,t,f,w,Ha,Hc,Hb,_⟩
 ·have:l=[]:=Qe m
  subst this;rw [f];exact ⟨none,0,rfl,⟨lR,Nat.zero_le _⟩,λh=>absurd h (Nat.lt_irrefl 0)⟩
 ·subst f;have key:∀ (l:List (ad × Value × Value)) (k:Nat) (b:k<l.length) (j:Nat),j<4->(l.flatMap aN)[k*4+j]?=(aN l[k])[j]?:=by
   intro l
   induction l with
   | nil=>intro k b;simp at b
   | cons a l ih=>
    intro k b j d;rw [List.flatMap_cons];cases k with
    | zero=>rw [List.getElem?_append_left (by simp [aN];omega)];simp
    | succ k=>
     rw [List.getElem?_append_right (by simp [aN];omega)]
     have:=ih k (by simpa using b) j d
     simp only [List.getElem_cons_succ];rw [<- this]
     congr 1
     simp [aN]
     omega
  refine ⟨_,c,by rw [Q9],by rw [Q9];exact ⟨Hc,Hb⟩,λ_=>⟨g,0,λk=>(l.getD k (af [] 0,.nilIface,.nilIface)).2.1,λk=>(l.getD k (af [] 0,.nilIface,.nilIface)).2.2,rfl,by rw [cC];exact (gS Ha).1,λk b=>?_⟩⟩;rw [Q9] at b;have e:af (l.map Prod.fst) k=l[k].1:=by simp [af,b]
  have p:l.getD k (af [] 0,.nilIface,.nilIface)=l[k]:=by simp [b]
  obtain ⟨u,q⟩:=h.in_ _ (List.getElem_mem b);dsimp only;rw [e,p];have i:aM (av (λj=>M j\/(Value.slice g l.length c).ownBlock=some j) W) (av M W):=bP (λj _ r=>⟨λd=>r (.inl d),rfl⟩) (lR);have cc:∀ j,j<4->(av M W).cell? ⟨g,0+k*4+j,none⟩=(aN l[k])[j]?:=λj d=>by
   rw [World.cell?_of_block (a:=⟨g,0+k*4+j,none⟩) (cZ (λn=>by have:=o g n;omega)),Qd,s.cellAt (k*4+j) (by omega)];exact key l k b j d
  exact ⟨⟨cc 0 (by decide),cc 1 (by decide),cc 2 (by decide),cc 3 (by decide)⟩,u.le i,q.le i⟩
abbrev ou:=λ(x0:ad) (x1:Option Addr) (x2:Nat) (x3:Option Addr) (x4:Nat)=>(.cells #[x0.pod.nm,(x0.pod.pr:Int),.slice x1 x0.pod.cs.length x2,.slice x3 x0.gs.length x4] 101:Obj)
abbrev xR:=λ(Bh:Nat) (x:ad) (ca:Option Addr) (cc:Nat) (ga:Option Addr) (gc:Nat) (w':World)=>cl w' Bh (0) x.pod.nm/\cl w' Bh (1) (x.pod.pr:Int)/\cl w' Bh (2) (.slice ca x.pod.cs.length cc)/\cl w' Bh (3) (.slice ga x.gs.length gc)
theorem ED (Ba tb:Nat) (m:aF) (Bd Be:Nat) (hv:Value) (cp pb:Nat) (hs:List ad) (w:World) (h:bx w Ba tb m Bd Be hv cp pb) (hH:aX w hv hs) (hok:kM hs) (hl:hs.length<=100) :
  Calls prog 12 #[Ba] w λe w'=>∃ a c,e=.returned (.slice a hs.length c)/\aX (fresh w w') (.slice a hs.length c) hs/\Below w w w':=by
 obtain ⟨i0,hi,H7,HV,hp⟩:=info_parts EC;have H1:=qI hok;obtain ⟨ha,hc,rfl,hm,hr⟩:=hH;have HR:=qI hr;unfold bx at h;have c7:w.cell? ⟨Ba,7,none⟩=some (.slice ha hs.length hc):=aa h 7;clear hok hr hm h
 go_enter func12,ntmps12
 go_wp2_with fail
 clear c7
 go_loopw [3,11] (λpv i wr=>∃ (k:Nat) (l:List (ad × Value × Value)),k<=hs.length/\i=.int .i64 k/\l.length=k/\l.map Prod.fst=hs.take k/\xQ wr pv l w (λj=>j<w.heap.size)/\Below w w wr) (λ_ i _=>hs.length - (intOf i).toNat)
 case atStart=>exact ⟨0,[],by omega,rfl,rfl,rfl,⟨Qw _ _ _ _,λx hx=>(List.not_mem_nil hx).elim⟩,Q0 _ _⟩
 case round=>
  obtain ⟨k,l,hk,rfl,HE,HH,Hg,hb⟩:=hrel;have HN:=qI HE;have HL:=qI HH;have Hb:=qI Hg;have HB:=qI hb;have hB:=hb.size;have hw:l.length<=100:=by omega
  obtain ⟨va,vc,H0⟩:=fj Hg.row;subst H0;clear HE HH Hg
  by_cases hlt:k<hs.length
  ·obtain ⟨hD,ho,cv,gvv,rfl,Hr⟩:=HR.o (by omega);have hle:=aM.of_below hb;obtain ⟨x0,x1,x2,x3⟩:=(Hr.2 k hlt).1;have x0:=hle.cell _ _ _ x0;have x1:=hle.cell _ _ _ x1;have x2:=hle.cell _ _ _ x2;have x3:=hle.cell _ _ _ x3;have He:=((Hr.2 k hlt).2.1).le hle;have Hc:=((Hr.2 k hlt).2.2).le hle;obtain ⟨HJ,HU,HF⟩:=H1.o (af hs k) (by simp [af,hlt]);have H8:Hu (hs.take (k+1)=hs.take k++[af hs k]):=by unfold Hu;rw [Qa hlt];simp [af,hlt]
   obtain ⟨ca,cc,HS,hf,HX⟩:=id He;obtain ⟨ga,gc,HO,HY,H4⟩:=id Hc;rw [HS] at x2 He;rw [HO] at x3 Hc;have Hv:=qI He;have Hz:=qI Hc;have HP:=qI (jk HJ);have HW:=qI HF;have hA:=HP.o.2.2.1;have H2:(af hs k).gs.length<=3:=by omega
   clear Hr He Hc HS HO HX H4 hle hf HY HJ HF HU;generalize af hs k=x at *;have Hj:=qI ((Q0 wr wr).alloc (lR) (.cells #[x.pod.nm,(x.pod.pr:Int),.slice ca x.pod.cs.length cc,.slice ga x.gs.length gc] 101));have Hp:=qI (aU wr (.cells #[x.pod.nm,(x.pod.pr:Int),.slice ca x.pod.cs.length cc,.slice ga x.gs.length gc] 101) rfl);have hC:(wr.alloc (.cells #[x.pod.nm,(x.pod.pr:Int),.slice ca x.pod.cs.length cc,.slice ga x.gs.length gc] 101)).heap.size=wr.heap.size+1:=by simp
   clear hb
   go_wp2_with fail
   generalize wr.alloc (.cells #[x.pod.nm,(x.pod.pr:Int),.slice ca x.pod.cs.length cc,.slice ga x.gs.length gc] 101)=X at *;generalize hBh:wr.heap.size=Bh at *;clear x0 x1 x2 x3;have Hk:Hu (∀ W,Below X X W->(xR Bh x ca cc ga gc) W):=λW hb=>⟨aa ((hb.block (Bh) (by omega)).trans Hp.o) 0,aa ((hb.block (Bh) (by omega)).trans Hp.o) 1,aa ((hb.block (Bh) (by omega)).trans Hp.o) 2,aa ((hb.block (Bh) (by omega)).trans Hp.o) 3⟩
   have Hi:Hu (Below X X X.drew):=bF (Q0 _ _);refine wp_region_held_drew (S:=xR Bh x ca cc ga gc) (by kernel_rfl) (Hk.o _ Hi.o) λhQ=>?_;generalize X.drew=V at *;refine tk 0 ?_;refine tk 1 ?_;refine tk 2 ?_;refine tk 4 ?_;refine tk 5 ?_;refine rd 3 λK hK=>?_;go_simp
   go_wp2_with fail
   refine (DX x.pod.nm x.pod.pr x.pod.cs _ V (Hv.o.below ((show Below wr wr X by rw [hBh];exact Hj.o).trans (Hi.o.mono (by omega)))) (by omega) (λq hq=>by have:=(HP.o.2.2.2 (ae x.pod.cs q) (fF _ _ _ hq)).2.2.2.2.2.1;omega)).mono ?_;rintro e W1 ⟨pa,pcc,rfl,HK,HM⟩;have Hn:=qI (Hi.o.trans (HM.mono Hi.o.size));have H6:=qI (HK.le (pj (λ_ _ _=>rfl) (lR) Hi.o.size));clear HM HK
   go_wp2_with fail
   refine hK.o _ _ (Hk.o _ Hn.o) λhQ=>?_;clear hK K;refine rd 6 λK hK=>?_;go_simp
   go_wp2_with fail
   refine (QT (.slice ga x.gs.length gc) x.gs W1 (Hz.o.below ((show Below wr wr X by rw [hBh];exact Hj.o).trans (Hn.o.mono (by omega)))) (by omega) (λq hq=>by have:=wA (eR HW.o q hq);omega)).mono ?_;rintro e W2 ⟨qa,qc,rfl,HI,Hy⟩;have Hm:=qI (Hn.o.trans (Hy.mono Hn.o.size));have H5:=qI (H6.o.le (Dv Hy (lR)));have hh:=qI (HI.le (pj (λ_ _ _=>rfl) (lR) Hn.o.size));have hy:=Hm.o.size;clear Hy HI
   go_wp2_with fail
   refine hK.o _ _ (Hk.o _ Hm.o) λhQ=>?_;clear hK K;refine tk 7 ?_;have Hs:=qI (Hm.o.alloc Hm.o.size (.cells #[x.pod.nm,(x.pod.pr:Int),.slice pa x.pod.cs.length pcc,.slice qa x.gs.length qc] 101));have HC:=qI (EB W2 (x,.slice pa x.pod.cs.length pcc,.slice qa x.gs.length qc) 101);dsimp only at HC;have hu:(W2.alloc (.cells #[x.pod.nm,(x.pod.pr:Int),.slice pa x.pod.cs.length pcc,.slice qa x.gs.length qc] 101)).heap.size=W2.heap.size+1:=by simp
   have Hh:∀ b,(Value.slice va l.length vc).ownBlock=some b->w.heap.size<=b/\b<Bh:=λb hb=>by rw [<- hBh];exact Hb.o.row.lt b hb
   have H9:Hu ((W2.alloc (.cells #[x.pod.nm,(x.pod.pr:Int),.slice pa x.pod.cs.length pcc,.slice qa x.gs.length qc] 101)).ownsRow w 101 4 (.slice va l.length vc) l.length (l.flatMap aN)):=rb Hb.o.row λg hg=>(Hs.o.block g (by have:=(Hh g hg).2;omega)).trans (Hj.o.block g (Hh g hg).2);refine rd 8 λK hK=>?_;go_simp
   go_wp2_with fail
   refine hK.o _ _ (Hk.o _ Hs.o) λhQ=>?_;clear hK K;refine rd 9 λK hK=>?_;rw [if_pos (by rfl)]
   refine wp_append_lies (o := { dst := some 24, op := Op.call { callee := Callee.builtin Builtin.append, args := #[Operand.tmp 15, Operand.tmp 23], argTypes := #[43, 43] }, type := 43, pos := "ostler.go:50", after := #[{ on := 0, ground := Ground.data }, { on := 8, ground := Ground.data }, { on := 6, ground := Ground.chain }], guard := none }) _ _ _ 43 rfl w.heap.size 101 i0 (.agg #[.string ByteArray.empty, .int .i64 0, .slice none 0 0, .slice none 0 0]) 4 72 underlying43 hi H7 HV hp rfl (by decide) (.slice va l.length vc) _ _ rfl H9.o ⟨_, 0, none⟩ 1 1 (aN (x, .slice pa x.pod.cs.length pcc, .slice qa x.gs.length qc)) rfl rfl HC.o (xP _ _ _ _ _ _ _) (by decide) (by unfold maxLen; omega) (by omega) (by omega) (W2.heap.size + 1) (by simp) ?_
   intro g' cap' W4 Hf Ha Ht HT;have ht:=Ha.size;have HG:(xR Bh x ca cc ga gc) W4:=by
    obtain ⟨q0,q1,q2,q3⟩:=Hk.o _ Hs.o;have Hq:some Bh≠(Value.slice va l.length vc).ownBlock:=λe=>by have:=(Hh Bh e.symm).2;omega
    exact ⟨(Ha.cell_far Bh (by show Bh<_;omega) Hq).trans q0,(Ha.cell_far ⟨Bh,1,none⟩ (by show Bh<_;omega) Hq).trans q1,(Ha.cell_far ⟨Bh,2,none⟩ (by show Bh<_;omega) Hq).trans q2,(Ha.cell_far ⟨Bh,3,none⟩ (by show Bh<_;omega) Hq).trans q3⟩
   have HD:Hu (∀ j,j<W2.heap.size->(Value.slice va l.length vc).ownBlock≠some j->W4.heap[j]?=W2.heap[j]?):=λj hj hno=>(Ha.block j (by omega) λe=>hno e.symm).trans (Below.heap_alloc _ _ _ hj)
   have H3:Hu (Below w w W4):=((HB.o.trans ((show Below wr wr X by rw [hBh];exact Hj.o).mono (by omega))).trans (Hs.o.mono (by omega))).grown Ha (by omega) λj hj=>(Hh j hj).1;have Ho:Hu (xQ W4 (.slice g' (l.length+1) cap') (l++[(x,Value.slice pa x.pod.cs.length pcc,Value.slice qa x.gs.length qc)]) w λj=>j<w.heap.size):=by
    refine ⟨?_,λz hz=>?_⟩
    ·rw [Q2,List.flatMap_append]
     simpa using Hf
    ·rcases Qi.1 hz with hz|hz
     ·obtain ⟨z1,z2⟩:=Hb.o.in_ z hz;have hle:aM (av (λj=>j<w.heap.size\/(Value.slice va l.length vc).ownBlock=some j) wr) (av (λj=>j<w.heap.size\/(Value.slice g' (l.length+1) cap').ownBlock=some j) W4):=bP (λj hj hn=>by
       have he:¬ j<w.heap.size:=λh=>hn (.inl h)
       have HQ:(Value.slice va l.length vc).ownBlock≠some j:=λh=>hn (.inr h)
       refine ⟨λh=>?_,(HD.o j (by omega) HQ).trans ((Hm.o.block j (by omega)).trans (Hj.o.block j (by rw [<- hBh];exact hj)))⟩
       rcases h with h|h
       ·exact he h
       ·have h:some g'=some j:=h;injection h with h
        rcases Ht with Hl|Hl
        ·exact HQ (by rw [Hl,h])
        ·omega) (by omega)
      exact ⟨z1.le hle,z2.le hle⟩
     ·rw [Qm.1 hz];have hle:aM (fresh X W2) (av (λj=>j<w.heap.size\/(Value.slice g' (l.length+1) cap').ownBlock=some j) W4):=bP (λj hj hn=>by
       have hn:¬ j<X.heap.size:=hn;refine ⟨λh=>?_,HD.o j hj (λh=>by have:=(Hh j h).2;omega)⟩
       rcases h with h|h
       ·omega
       ·have h:some g'=some j:=h;injection h with h
        rcases Ht with Hl|Hl
        ·have:=(Hh g' Hl).2;omega
        ·omega) (by omega)
      exact ⟨H5.o.le hle,hh.o.le hle⟩
   refine hK.o _ _ HG λhQ=>?_;clear hK K;(try simp only [Act.put,s1,s2,s3]);refine tk 10 ?_;refine Qn (by kernel_rfl) ?_ _;clear hQ Hf Ha Ht HG
   go_wp2
   go_roundw
   case rel=>exact ⟨k+1,l++[(x,Value.slice pa x.pod.cs.length pcc,Value.slice qa x.gs.length qc)],by omega,by go_num,by rw [Q2,HN.o];rfl,by rw [Qj,HL.o,H8.o];rfl,Ho.o,H3.o⟩
   case measure=>simp [intOf];omega
  ·have Hx:k=hs.length:=by omega
   have HA:l.length=hs.length:=by rw [HN.o,Hx]
   have Hw:Hu (aX (fresh w wr) (.slice va hs.length vc) hs):=by
    unfold Hu;have h1:=Tp Hb.o λj h=>h;rw [HL.o,Hx,Qh,HA] at h1;exact h1
   have HZ:=qI HA;clear Hx HA
   go_wp2
   go_ret;exact ⟨va,vc,by rw [<- HZ.o];rfl,Hw.o,HB.o⟩
theorem Tq (base:Nat) (v:Value) (n:Nat) (r d:List Value) (a:Addr) (c:Nat) (w:World) (o:w.ownsRow base 101 4 v n r) (s:∀ j u,d[j]?=some u->w.cell? (a.add j)=some u) (f:d.length=4) (k:∀ u∈d,u.oneCell'=true) (E:n<=100) (D:base<=w) :
  Calls prog 54 #[v,(n:Int),.slice (some a) 1 c] w λe w'=>∃ i,e=.returned i/\w'.ownsRow base 101 4 i (n+1) (r++d)/\w.grownBy w' v.ownBlock:=by
 obtain ⟨i0,hi,Hg,Hi,Hj⟩:=info_parts EC;have t:=qI o;have y:=qI s;have Hh:=qI k;have Hk:Hu (d.length=1*4):=f;have Hf:∃ g b,v=.slice g n b/\(n<=b/\b<=maxLen)/\(g=none->n=0):=by
  rcases o.2 with ⟨p,m⟩|⟨g,b,A,p,m,B,x,z,C⟩
  ·exact ⟨none,0,by rw [p,m],by rw [m];exact ⟨lR,Nat.zero_le _⟩,λ_=>m⟩
  ·exact ⟨_,b,p,⟨x,z⟩,λh=>by cases h⟩
 obtain ⟨g,b,rfl,Hc,He⟩:=Hf;clear o s k f;have Hn:b<=9223372036854775807:=by have:=Hc.2;unfold maxLen at this;omega
 have Hm:=Hc.1;have Hl:=qI He;clear Hc He
 go_enter func54,ntmps54
 go_wp2_with (at_builtin;(refine wpList_append_own _ rfl _ _ 43 rfl base 101 i0 (.agg #[ByteArray.empty,(0:Int),.slice none 0 0,.slice none 0 0]) 4 72 underlying43 hi Hg Hi Hj rfl (by decide) _ _ _ rfl t.o a 1 c d rfl Hk.o y.o Hh.o (by unfold maxLen;omega) (by omega) (by omega) ?_;intro i q Hb Ha _))
 ·rename_i h
  have l:w.grownBy q (Value.slice g n b).ownBlock:=Ha;rw [h] at l;clear Ha;go_ret;exact ⟨i,rfl,Hb,l⟩
 ·have l:w.grownBy q (Value.slice g n b).ownBlock:=Ha;clear Ha;go_ret;exact ⟨i,rfl,Hb,l⟩
theorem Tr (B:Nat) (n k:Sd) (v:Value) (l:Int) (d:Bool) (w:World) (h:aQ w B n k v l d):Calls prog 35 #[B] w λe w'=>e=.returned d/\w'=w:=by
 unfold aQ at h;have c10:cl w B (10) d:=aa h 10;clear h
 go_enter func35,ntmps35
 go_wp2
 go_ret;exact ⟨rfl,rfl⟩
theorem EE (B:Nat) (n k:Sd) (l:Int) (d:Bool) (w:World) (h:aQ w B n k (.slice none 0 0) l d):Calls prog 69 #[B] w λe w'=>e=.returned false/\w'=w:=by
 unfold aQ at h;have a:cl w B (8) (.slice none 0 0):=aa h 8;clear h
 go_enter func69,ntmps69
 go_wp2
 go_ret;exact ⟨rfl,rfl⟩
theorem xS (h:Dr W base v ps):jJ W v ps:=by
 obtain ⟨l,rfl,Ha,Hc⟩:=h;have n:=Ha
 rcases Ha.2 with ⟨c,i⟩|⟨g,d,o,c,p,Hb,Hf,He,_⟩
 ·have:l=[]:=Qe i
  subst this;rw [c];exact ⟨none,0,rfl,by unfold maxLen;simp,λh=>absurd h (Nat.lt_irrefl 0)⟩
 ·subst c;have key:∀ (l:List (az × Value)) (k:Nat) (b:k<l.length) (j:Nat),j<3->(rowP l)[k*3+j]?=(gC l[k])[j]?:=by
   intro l
   induction l with
   | nil=>intro k b;simp at b
   | cons a l ih=>
    intro k b j f;unfold rowP;rw [List.flatMap_cons];cases k with
    | zero=>rw [List.getElem?_append_left (by simp [gC];omega)];simp
    | succ k=>
     rw [List.getElem?_append_right (by simp [gC];omega)]
     have:=ih k (by simpa using b) j f
     simp only [List.getElem_cons_succ];rw [<- this];unfold rowP
     congr 1
     simp [gC]
     omega
  refine ⟨_,d,by rw [Q9],by rw [Q9];exact Q5 Hf He,λ_=>⟨g,0,λk=>(l.getD k (bI [] 0,.nilIface)).2,rfl,(gS Hb).1,λk b=>?_⟩⟩;rw [Q9] at b;have e:bI (l.map Prod.fst) k=l[k].1:=by simp [bI,b]
  have m:l.getD k (bI [] 0,.nilIface)=l[k]:=by simp [b]
  dsimp only;rw [e,m];have cc:∀ j,j<3->W.cell? ⟨g,0+k*3+j,none⟩=(gC l[k])[j]?:=λj f=>by
   rw [Qd,n.cellAt (k*3+j) (by omega)];exact key l k b j f
  exact ⟨⟨cc 0 (by decide),cc 1 (by decide),cc 2 (by decide)⟩,Hc _ (List.getElem_mem b)⟩
theorem EF (h:∀ p∈ps,km p.cs) (c:ps.length<=100):∀ k,k<=ps.length->(0<=bM (ps.take k)/\bM (ps.take k)<=1000000000000000000)/\0<=cI (ps.take k)/\cI (ps.take k)<=1000000000000000000:=by
 have key:∀ k,k<=ps.length->(0<=bM (ps.take k)/\bM (ps.take k)<=3000000*(k:Int))/\0<=cI (ps.take k)/\cI (ps.take k)<=3377699720527872*(k:Int):=by
  intro k
  induction k with
  | zero=>intro _;simp [bM,cI]
  | succ k ih=>
   intro b;have e:=ih (by omega);have a:=h (bI ps k) (by simp [bI,show k<ps.length by omega]);have d:=sF a (lR);have f:=sG a (lR);rw [Dp (by omega),Dq (by omega)]
   push_cast
   omega
 intro k b
 have:=key k b
 have Ha:(k:Int)<=100:=by omega
 omega
abbrev xT:=λ(Ba tb:Nat) (m:aF) (w':World)=>cl w' Ba (0) tb/\cl w' Ba (1) (.int .u64 m.op)/\cl w' Ba (2) (.int .u8 m.nd)/\cl w' Ba (3) (m.nb:Int)/\cl w' Ba (4) (m.pol:Int)
theorem EG (a d:Nat) (m:aF) (y t:Nat) (u:Value) (cp o db:Nat) (v:Option Addr) (c:Nat) (ds:List ah) (us:Nat->Bool) (q:Value) (hs:List ad) (w:World) (h:bx w a d m y t u cp o) (n:aJ w o db v c ds us) (D:eT ds) (r:aX w q hs) (k:m.op<18446744073709551616) (j:kM hs) (l:hs.length<=100) :
  Calls prog 72 #[a,q] w λe w'=>e=.returned (.bool ((aW m ds hs).isSome && cH m (hs.map ad.pod)))/\Below w w w':=by
 have Hj:=qI (xN a d m y t u cp o db v c ds us q hs w h n D r k j l);have F:=qI h;have A:=qI r;have Hv:=h.lt;have Hi:Hu (∀ p∈hs.map ad.pod,km p.cs):=λp n=>by
  obtain ⟨x,C,rfl⟩:=Qk.1 n;exact oM (j x C).1
 have Hh:=qI (EF Hi.o (by rw [Q9];exact l));obtain ⟨E,z,rfl,_,_⟩:=r;clear h n
 go_enter func72,ntmps72
 go_wp2_with fail
 refine Hj.o.mono ?_;rintro e B ⟨Hm,Hf⟩;obtain ⟨i,s,lb,rfl,Hr,_⟩:=Hm.form;have Ho:=qI Hr;have Hc:=qI (Hf.alloc Hf.size (.cells #[.int .u64 i,.pointer s] 87));have Hq:=Hc.o.size;clear Hm Hr Hf Hj
 go_upto_region 2 with fail
 generalize B.alloc (.cells #[.int .u64 i,.pointer s] 87)=X at *;have Hb:=qI (F.o.below Hc.o);have Hn:=Hb.o;unfold bx at Hn;have He:Hu (∀ W,Below X X W->(xT a d m) W):=λW b=>⟨aa ((b.block (a) (by omega)).trans Hb.o) 0,aa ((b.block (a) (by omega)).trans Hb.o) 1,aa ((b.block (a) (by omega)).trans Hb.o) 2,aa ((b.block (a) (by omega)).trans Hb.o) 3,aa ((b.block (a) (by omega)).trans Hb.o) 4⟩
 clear Hn;have Ha:Hu (Below X X X.drew):=bF (Q0 _ _)
 rcases two lb with b|b
 ·subst b;refine wp_region_held_drew (S:=xT a d m) (by kernel_rfl) (He.o _ Ha.o) λf=>?_;generalize X.drew=V at *;refine tk 0 ?_;refine tk 1 ?_;refine tk 2 ?_;refine tk 3 ?_;refine tk 4 ?_;refine tk 5 ?_;refine tk 6 ?_;refine rd 7 λK g=>?_;go_simp
  go_wp2_with fail
  refine (P0 (.slice E hs.length z) hs V (A.o.le ((aM.of_below Hc.o).trans (aM.of_below Ha.o))) l).mono ?_;rintro e G ⟨v2,rfl,Hs,Hk⟩;have Hg:=qI (Ha.o.trans (Hk.mono Ha.o.size));have Ht:=qI Hs;clear Hk Hs
  go_wp2_with fail
  refine g.o _ _ (He.o _ Hg.o) λf=>?_;clear g K;refine rd 8 λK g=>?_;go_simp
  go_wp2_with fail
  refine (xf d m.op m.nd m.nb m.pol v2 (hs.map ad.pod) G (xS Ht.o) (by rw [Q9];exact l) Hi.o k Hh.o).mono ?_;rintro e H ⟨rfl,Hp⟩;have Hl:=qI (Hg.o.trans (Hp.mono Hg.o.size));clear Hp
  go_wp2_with fail
  refine g.o _ _ (He.o _ Hl.o) λf=>?_;clear g K;refine tk 9 ?_;refine tk 10 ?_;refine Qn (by kernel_rfl) ?_ _;clear f
  go_wp2
  go_ret;exact ⟨by rw [<- Ho.o];rfl,Hc.o.trans (Hl.o.mono Hq)⟩
 ·subst b;refine wp_region_held_drew (S:=xT a d m) (by kernel_rfl) (He.o _ Ha.o) λf=>?_;generalize X.drew=V at *;refine tk 0 ?_;refine tk 1 ?_;refine ts 2 ?_;refine ts 3 ?_;refine ts 4 ?_;refine ts 5 ?_;refine ts 6 ?_;refine ts 7 ?_;refine ts 8 ?_;refine tk 9 ?_;refine tk 10 ?_;refine Qn (by kernel_rfl) ?_ _;clear f
  go_wp2
  go_ret;exact ⟨by rw [<- Ho.o];rfl,Hc.o.trans (Ha.o.mono Hq)⟩
