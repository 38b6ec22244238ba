import Derived.Test.YtjlblidnfebmiaaGreatDoorY40
import Derived.Test.YtjlblidnfebmiaaGreatDoorY41
set_option maxRecDepth 100000
set_option maxHeartbeats 16000000
open Go Go.RowKit Go.Shelf
attribute [local go_sem] Oper.semAt_some
open Go.Proofs.Tryz
namespace Go.Proofs.YtjlblidnfebmiaaGreatDoor
variable{Ba Bd Bm N b c pb tb tc tg:Nat}{M:Nat->Prop}{W W':World}{hs:List ae}{l:List (ae × Value × Value)}{m:aJ}{v:Value}
theorem XS{W:World}(a:Option Addr)(c:Nat)(b:c<=maxLen):bf W (.slice a 0 c) []:=⟨a,c,rfl,⟨Nat.zero_le _,b⟩,λh=>absurd h (Nat.lt_irrefl 0)⟩
abbrev three (Ba Bd Bm:Nat):Nat->Prop:=λj=>j=Ba\/j=Bd\/j=Bm
theorem tL(h:bL Bd Bm W W'):Apart (three Ba Bd Bm) W W':=⟨h.os,h.tape,h.output,h.size,λj b a=>h.block j b (λe=>a (.inr (.inl e))) (λe=>a (.inr (.inr e)))⟩
theorem b6.notInt{c:Nat}{b:Value}{cp:Nat}(h:b6 W Ba tb m Bd c b cp pb):∀(a:Array Value) (z:Nat × Nat),W.heap[Ba]?≠some (Obj.cells a 3 z):=λa z e=>by
 rw[show W.heap[Ba]?=_ from h] at e;cases e
abbrev four (N:Nat->Prop) (Ba Bd Bm:Nat):Nat->Prop:=λj=>N j\/three Ba Bd Bm j
theorem XT:(bw []).length<=6000:=by
 have:=sj (dL [])
 have h:bw []=dZ (dL []):=rfl;rw[h];omega
theorem XU{ds:List aq}(h:dV ds=0):bi m ds []=some ⟨m.op,ds,λ_=>false⟩:=by unfold bi;rw[if_pos h];rfl
theorem Hg(h:0<=m.nb):cr m []=true:=by
 grind[cr,bE,ci]
theorem v6{c:dp}(h:cR c=0):eC c.l=0/\(0<=c.nb/\c.nb<=1125899906842624)/\(0<=c.pol/\c.pol<=3)/\dV c.ds=0:=by grind[cR]
theorem XV{n:Nat}{l:List ap}{a b:Sd}{i:Int}{d:Bool}{f:List RV}(h:bP W tb tg 0 tc l)(c:0<l.length)(ah:aQ W Bd a b v i d)(g:bI W Bm n f):(tb≠Bd/\tb≠Bm)/\(tg≠Bd/\tg≠Bm):=by
 have k:=cb ah 0;obtain⟨m,cl,Ha⟩:=g.isMap;have a2:∀j,W.cell? ⟨Bm,j,none⟩=none:=λj=>by simp[World.cell?,Ha]
 have c1:=h.cell;have c2:=(h.cells 0 c).1;refine⟨⟨λe=>?_,λe=>?_⟩,λe=>?_,λe=>?_⟩
 ·grind
 ·grind
 ·grind
 ·grind
theorem XW{j:Nat}{l:List ap}{p:Option Addr}(h:bP W tb tg 0 tc l)(a:0<l.length)(b:W.cell? j=some (.pointer p)):tb≠j/\tg≠j:=by
 have c1:=h.cell;have c2:=(h.cells 0 a).1;refine⟨λe=>?_,λe=>?_⟩
 ·grind
 ·grind
section
abbrev jg:=λ(x0:ByteArray) (x1:Int) (x2:Option Addr) (x3 x4:Nat) (x5:Option Addr) (x6 x7:Nat)=>(.cells #[x0,x1,.slice x2 x3 x4,.slice x5 x6 x7] 101:Obj)
theorem Hh(v:Value)(hs:List ae)(w:World)(h:bf w v hs)(R:hs.length<=100):Calls pg 51 #[v] w λe w'=>∃(l:List (aj × Value)) (n:Option Addr) (vc:Nat),e=.returned (.slice n l.length vc)/\l.map Prod.fst=hs.map ae.pod/\w'.ownsRow w 49 3 (.slice n l.length vc) l.length (rowP l)/\(∀x∈l,ba w x.2 x.1.cs)/\Bw w w':=by
 obtain⟨i0,hi,Hv,Hy,G⟩:=info_parts yv;obtain⟨T,c,rfl,L,z⟩:=h;unfold maxLen at L;have A:=qI z;clear z
 go_enter func51,ntmps51
 go_wp2
 go_loopw [3,8] (λI i wr=>∃(k:Nat) (l:List (aj × Value)),k<=hs.length/\i=.int .i64 k/\l.length=k/\l.map Prod.fst=(hs.take k).map ae.pod/\wr.ownsRow w 49 3 I l.length (rowP l)/\(∀x∈l,ba w x.2 x.1.cs)/\Bw w wr) (λ_ i _=>hs.length - (intOf i).toNat)
 exact⟨0,[],by omega,rfl,rfl,rfl,Qw _ _ _ _,λx M=>(List.not_mem_nil M).elim,Q0 _ _⟩
 ·obtain⟨k,l,N,rfl,Hp,Hj,Ha,Hq,q⟩:=hrel;have Hw:=qI Hp;have Hl:=qI Hj;have Ho:=qI Hq;have r:=qI q;have S:l.length<=100:=by omega
  have O:=q.size;clear Hp Hj Hq
  by_cases g:k<hs.length
  ·obtain⟨b,o,cv,K,rfl,Hk⟩:=A.o (by omega);obtain⟨B,J,u,t⟩:=((Hk.below q).2 k g).1;have He:=(Hk.2 k g).2.1;have Hm:Hu ((hs.take (k+1)).map ae.pod=(hs.take k).map ae.pod++[(ah hs k).pod]):=by
    grind[Qa,ah]
   have Hf:=qI He;obtain⟨ca,cc,Hr,_,_⟩:=id He;rw[Hr] at u Hf;obtain⟨ga,gc,Hn,_,_⟩:=id (Hk.2 k g).2.2;rw[Hn] at t;clear Hk He q Hr Hn;generalize ah hs k=x at *;obtain⟨⟨f,d,a⟩,m⟩:=x;dsimp only at B J u t Hf Hm;obtain⟨n,vc,D⟩:=fI Ha;subst D;have s:=(Q0 wr wr).alloc (lR) (jg f d ca a.length cc ga m.length gc);have Hb:=Ha.alloc (jg f d ca a.length cc ga m.length gc);have Ht:=r.t s;have E:w.heap.size<=(wr.alloc (jg f d ca a.length cc ga m.length gc)).heap.size:=by simp;omega
   have Hg:=vd (wr.alloc (jg f d ca a.length cc ga m.length gc)) f d (.slice ca a.length cc) 49;rw[show (wr.alloc (jg f d ca a.length cc ga m.length gc)).heap.size=wr.heap.size+1 by simp] at Hg;have Hs:=qI Hg;have F:w.heap.size<=((wr.alloc (jg f d ca a.length cc ga m.length gc)).alloc (.cells #[f,(d:Int),.slice ca a.length cc] 49)).heap.size:=by simp;omega
   clear s Hg Ha
   go_wp2_with (at_builtin;refine wpList_append_own _ rfl _ _ 67 rfl w 49 i0 _ 3 48 underlying67 hi Hv Hy G rfl (by decide) _ _ _ rfl (Hb.alloc _) ⟨_,0,none⟩ 1 1 (iG (⟨f,d,[]⟩,.slice ca a.length cc)) rfl rfl Hs (yw f d ca a.length cc) (by unfold maxLen;omega) (by omega) F ?_;intro P Q Hi Hc _)
   go_roundw
   case rel=>
    refine⟨k+1,l++[(⟨f,d,a⟩,.slice ca a.length cc)],by omega,by go_num,by rw[Q2,Hw.o];rfl,by rw[Qj,Hl.o,Hm.o];rfl,?_,λy p=>?_,?_⟩
    ·rw[yt,Q2];exact Hi
    ·rcases Qi.1 p with p|p
     ·exact Ho.o y p
     ·rw[Qm.1 p];exact Hf.o
    ·exact (Ht.o.alloc E _).grown Hc (by simp;omega) λj H=>(Hb.lt j H).1
   case measure=>simp[intOf];omega
  ·have Hz:k=hs.length:=by omega
   have C:Hu (l.map Prod.fst=hs.map ae.pod):=by grind
   clear Hz;obtain⟨n,vc,Hx⟩:=fI Ha;subst Hx
   go_wp2
   go_ret;exact⟨l,n,vc,rfl,C,Ha,Ho,r⟩
theorem tM{nm:ByteArray}:dN hs nm=true↔∃h∈hs,h.pod.nm=nm:=by
 unfold dN
 simp
theorem XX{t:aT}(h:eG t){p:aj}{s:aC}(hs:bi t.m t.ds t.hs=some s)(b:br p=0)(k:dN t.hs p.nm=false)(i:t.hs.length<12)(c:(aW t.m s p).1=0):bS (ct t.hs ⟨p,(aW t.m s p).2⟩)=0/\(∃d,bi t.m t.ds (ct t.hs ⟨p,(aW t.m s p).2⟩)=some d)/\(ct t.hs ⟨p,(aW t.m s p).2⟩).length=t.hs.length+1:=by
 have Hc:s.ds.length<=16:=by rw[lg hs];exact (lr h.devs).1
 obtain⟨g,a2,a3⟩:=dm.1 h.held;have Hb:(aW t.m s p).2.length=p.cs.length:=tj t.m s p.cs p.cs.length c;have Ha:=zt t.hs ⟨p,(aW t.m s p).2⟩;have f:(ct t.hs ⟨p,(aW t.m s p).2⟩).length=t.hs.length+1:=by rw[<- Ha.length_eq,Q2,List.length_singleton]
 refine⟨dm.2 ⟨by omega,λx a=>?_,Fy a3 λy j e=>?_⟩,⟨_,Fv hs Hc (rf b) c Ha⟩,f⟩
 ·rcases Qi.1 (Ha.mem_iff.2 a) with a|a
  ·exact a2 x a
  ·rw[Qm.1 a];exact⟨b,Hb,zx (zw p.cs.length)⟩
 ·grind[tM]
section exits
variable{t:aT}{p:aj}
theorem Hi(h:br p≠0):aV t p=(br p,t.hs):=by grind[aV]
theorem Hj(h:br p=0)(a:dN t.hs p.nm=true):aV t p=(5,t.hs):=by grind[aV,tM]
theorem tN(a:dN t.hs p.nm=false):¬ ∃h∈t.hs,h.pod.nm=p.nm:=λh=>by grind[tM]
theorem Hk(h:br p=0)(a:dN t.hs p.nm=false)(b:12<=t.hs.length):aV t p=(2,t.hs):=by grind[aV,tN]
theorem Hl(h:br p=0)(b:dN t.hs p.nm=false)(c:t.hs.length<12)(a:cr t.m (t.hs.map ae.pod++[p])=false):aV t p=(7,t.hs):=by grind[aV,tN]
variable{s:aC}
theorem Hm(h:br p=0)(c:dN t.hs p.nm=false)(a:t.hs.length<12)(b:cr t.m (t.hs.map ae.pod++[p])=true)(hs:bi t.m t.ds t.hs=some s)(d:(aW t.m s p).1≠0):aV t p=((aW t.m s p).1,t.hs):=by
 grind[aV,tN]
theorem Hn(h:br p=0)(d:dN t.hs p.nm=false)(a:t.hs.length<12)(b:cr t.m (t.hs.map ae.pod++[p])=true)(hs:bi t.m t.ds t.hs=some s)(e:(aW t.m s p).1=0)(c:6000<(bw (ct t.hs ⟨p,(aW t.m s p).2⟩)).length):aV t p=(2,t.hs):=by
 grind[aV,tN]
theorem Af(h:br p=0)(d:dN t.hs p.nm=false)(a:t.hs.length<12)(b:cr t.m (t.hs.map ae.pod++[p])=true)(hs:bi t.m t.ds t.hs=some s)(e:(aW t.m s p).1=0)(c:¬ 6000<(bw (ct t.hs ⟨p,(aW t.m s p).2⟩)).length):aV t p=(0,ct t.hs ⟨p,(aW t.m s p).2⟩):=by
 grind[aV,tN]
end exits
def v7 (l:List (ae × Value × Value)) (i:Nat):Prop:=∀(base:Nat) (v:Value) (y:ae × Value × Value) (a:Addr) (w:World),w.ownsRow base 101 4 v l.length (l.flatMap aU)->(∀j u,(aU y)[j]?=some u->w.cell? (a.add j)=some u)->(∀u∈aU y,u.oneCell'=true)->base<=w->v.ownBlock≠some a.block->(∃arr ty,w.heap[a.block]?=some (Obj.cells arr ty (0,0)))->(∀x∈l,∀u∈aU x,u.oneCell'=true)->
 Calls prog 54 #[v,(i:Int),.slice (some a) 1 1] w λe w'=>∃v',e=.returned v'/\w'.ownsRow base 101 4 v' (l.length+1) ((l.take i++y :: l.drop i).flatMap aU)/\w.grownBy w' v.ownBlock
theorem Ho(h:l.length<=100):v7 l l.length:=by
 intro base v y a w d j b i _ _ _;refine (XH (aU y) a 1 w d j rfl b h i).mono ?_;rintro e w' ⟨g,rfl,f,c⟩;refine⟨g,rfl,?_,c⟩;rw[Qh,List.drop_length,List.flatMap_append]
 simpa using f
theorem XY(l:List (ae × Value × Value))(i:Nat)(y:ae × Value × Value):(l.take i++y :: l.drop i).map Prod.fst=(l.map Prod.fst).take i++y.1 :: (l.map Prod.fst).drop i:=by simp
theorem Hq(h:W.ownsRow N 101 4 v l.length (l.flatMap aU))(t:∀j,M j->j<N)(c:∀x∈l,ba (av M W) x.2.1 x.1.pod.cs/\ce (av M W) x.2.2 x.1.gs):bf (av M W) v (l.map Prod.fst):=by
 have r:=h
 rcases h.2 with⟨f,n⟩|⟨g,d,p,f,u,Ha,Hb,Hc,_⟩
 ·have:l=[]:=Qe n
  subst this;rw[f];exact⟨none,0,rfl,⟨lR,Nat.zero_le _⟩,λh=>absurd h (Nat.lt_irrefl 0)⟩
 ·subst f;have key:∀(l:List (ae × Value × Value)) (k:Nat) (b:k<l.length) (j:Nat),j<4->(l.flatMap aU)[k*4+j]?=(aU l[k])[j]?:=by
   intro l
   induction l with
   | nil=>intro k b;simp at b
   | cons a l ih=>
    intro k b j i;rw[List.flatMap_cons];cases k with
    | zero=>rw[List.getElem?_append_left (by simp[aU];omega)];simp
    | succ k=>
     rw[List.getElem?_append_right (by simp[aU];omega)]
     have:=ih k (by simpa using b) j i
     simp only[List.getElem_cons_succ];rw[<- this]
     congr 1
     simp[aU]
     omega
  refine⟨_,d,by rw[Q9],by grind,λ_=>⟨g,0,λk=>(l.getD k (ah [] 0,.nilIface,.nilIface)).2.1,λk=>(l.getD k (ah [] 0,.nilIface,.nilIface)).2.2,rfl,by grind[cC],λk b=>?_⟩⟩;rw[Q9] at b;have e:ah (l.map Prod.fst) k=l[k].1:=by simp[ah,b]
  have m:l.getD k (ah [] 0,.nilIface,.nilIface)=l[k]:=by simp[b]
  obtain⟨o,q⟩:=c _ (List.getElem_mem b);dsimp only;rw[e,m];have cc:∀j,j<4->(av M W).cell? ⟨g,0+k*4+j,none⟩=(aU l[k])[j]?:=λj i=>by
   rw[World.cell?_of_block (a:=⟨g,0+k*4+j,none⟩) (cH (λs=>by have:=t g s;omega)),Qd,r.cellAt (k*4+j) (by omega)];exact key l k b j i
  exact⟨⟨cc 0 (by decide),cc 1 (by decide),cc 2 (by decide),cc 3 (by decide)⟩,o,q⟩
theorem Hr{w':World}{u:Value}{cv a:Nat->Value}(h:w'.ownsRow N 101 4 u hs.length ((List.range hs.length).flatMap λk=>ve (ah hs k) (cv k) (a k))){W0:World}(b:∀k,k<hs.length->ba W0 (cv k) (ah hs k).pod.cs/\ce W0 (a k) (ah hs k).gs):∃l:List (ae × Value × Value),l.map Prod.fst=hs/\w'.ownsRow N 101 4 u l.length (l.flatMap aU)/\∀x∈l,ba W0 x.2.1 x.1.pod.cs/\ce W0 x.2.2 x.1.gs:=by
 refine⟨(List.range hs.length).map λk=>(ah hs k,cv k,a k),?_,?_,?_⟩
 ·rw[List.map_map];refine List.ext_getElem (by simp) λi d c=>?_
  simp[ah,c]
 ·rw[Q9,List.length_range,List.flatMap_map];exact h
 ·grind
end
theorem XZ{X V:World}{o:Nat}(h:ey X tb b o c m)(a:Bw X V)(f:X<=pb):ey (av (λj=>j=pb) V) tb b o c m:=by
 have d:=h.topo.tlt;have e:=h.topo.lt;refine⟨lh h.topo ?_ ?_ ?_,h.good,h.op,h.nd,h.pol⟩
 ·rw[cH (by omega),a.block tb d]
 ·rw[cH (by omega),a.block b e]
 ·rw[cC];exact a.size
theorem X7(h:ey (av M W) tb b 0 c m)(a:0<m.l.length):ey W tb b 0 c m:=by
 have d:=eB h.topo.cell;have nb:=eB (h.topo.cells 0 a).1;exact⟨lh h.topo (cH d).symm (cH nb).symm (by simp[cC]),h.good,h.op,h.nd,h.pol⟩
theorem tO(h:ey (av M W) tb b 0 c m)(a:0<m.l.length)(g:∀j,j<W.heap.size->¬ M j->W'.heap[j]?=W.heap[j]?)(hs:W<=W'.heap.size):ey (av M W') tb b 0 c m:=by
 have f:=eB h.topo.cell;have nb:=eB (h.topo.cells 0 a).1;have d:=h.topo.tlt;have e:=h.topo.lt;rw[cC] at d e;refine⟨lh h.topo ?_ ?_ ?_,h.good,h.op,h.nd,h.pol⟩
 ·grind[cH]
 ·grind[cH]
 ·grind[cC]
theorem X8{x:ae × Value × Value}(h:ba W x.2.1 x.1.pod.cs/\ce W x.2.2 x.1.gs):∀u∈aU x,u.oneCell'=true:=by
 obtain⟨a,cv,aG⟩:=x;obtain⟨⟨d,c1,c,_⟩,⟨a2,c2,b,_⟩⟩:=h;dsimp only at c b;subst c b;exact zX
theorem X9{w C:World}{K:Nat}{i:Nat}{y:ae × Value × Value}(b:C.ownsRow K 101 4 v (l.length+1) ((l.take i++y :: l.drop i).flatMap aU))(e:∀j,M j->j<w.heap.size)(f:w<=K)(old:∀x∈l,ba (av M w) x.2.1 x.1.pod.cs/\ce (av M w) x.2.2 x.1.gs)(d:Bw w C)(h:ba (av M C) y.2.1 y.1.pod.cs)(k:ce (av M C) y.2.2 y.1.gs):bf (av M C) v ((l.map Prod.fst).take i++y.1 :: (l.map Prod.fst).drop i):=by
 rw[<- XY];have Ha:(l.take i++y :: l.drop i).length=l.length+1:=by simp;omega
 have hle:aR (av M w) (av M C):=bF (λj c g=>⟨g,d.block j c⟩) d.size;refine Hq (N:=K) (by rw[Ha];exact b) (λj c=>Q1 (e j c) f) λx a=>?_
 rcases Qi.1 a with a|a
 ·exact⟨(old x (List.mem_of_mem_take a)).1.le hle,(old x (List.mem_of_mem_take a)).2.le hle⟩
 ·rcases List.mem_cons.1 a with a|a
  ·grind
  ·exact⟨(old x (List.mem_of_mem_drop a)).1.le hle,(old x (List.mem_of_mem_drop a)).2.le hle⟩
section
variable{N:Nat->Prop}{Ba Bd Be Bm:Nat}{t:aT}{dk:Dk}{n:Nat}{p:aj}
end
end Go.Proofs.YtjlblidnfebmiaaGreatDoor
namespace Go.Proofs
open Go.Shelf
def Tryz.idxH_ren:Go.Shelf.Ren:=⟨fun|6=>147|n=>n,fun|22=>43|23=>101|25=>198|3=>3|0=>0|4=>4|n=>n,fun|n=>n⟩
theorem Tryz.idxH:Go.Proofs.SlLaysH0.n6 Tryz.prog Tryz.idxH_ren:=by
 constructor
 case f6=>exact⟨Tryz.f147.name,by decide,Tryz.func147.trans (congrArg some (by kernel_rfl))⟩
 all_goals intros;kernel_rfl
end Go.Proofs
namespace Go.Proofs.YtjlblidnfebmiaaGreatDoor
variable{W W':World}{b base cap g i k:Nat}{hs:List ae}{l:List (ae × Value × Value)}{nm:ByteArray}{nms:List ByteArray}
structure HS where
 h:ae
 ca:Option Addr
 cn:Nat
 cc:Nat
 ga:Option Addr
 gn:Nat
 gc:Nat
instance:Inhabited HS:=⟨⟨ah [] 0,none,0,0,none,0,0⟩⟩
def HS.tri (x:HS):ae × Value × Value:=(x.h,.slice x.ca x.cn x.cc,.slice x.ga x.gn x.gc)
def HS.cells (x:HS):List Value:=[.string x.h.pod.nm,.int .i64 x.h.pod.pr,.slice x.ca x.cn x.cc,.slice x.ga x.gn x.gc]
def dU (L:List HS) (k:Nat):HS:=L.getD k default
theorem Ag{L:List HS}(h:k<L.length):dU L k=L[k]:=by simp[dU,h]
theorem Ya(h:∀x∈l,ba W x.2.1 x.1.pod.cs/\ce W x.2.2 x.1.gs):∃L:List HS,L.map HS.tri=l:=by
 induction l with
 | nil=>exact⟨[],rfl⟩
 | cons x l ih=>
  obtain⟨L,d⟩:=ih λy e=>h y (Qv _ e)
  obtain⟨⟨c,c1,b,_⟩,a2,c2,a,_⟩:=h x List.mem_cons_self;refine⟨⟨x.1,c,x.1.pod.cs.length,c1,a2,x.1.gs.length,c2⟩ :: L,?_⟩;rw[Qq,d]
  congr 1
  obtain⟨g,i,f⟩:=x;dsimp only at b a;rw[b,a];rfl
def Has (cur:Array Value) (k:Nat) (x:HS):Prop:=cur[k*4]?=some (.string x.h.pod.nm)/\cur[k*4+1]?=some (.int .i64 x.h.pod.pr)/\cur[k*4+2]?=some (.slice x.ca x.cn x.cc)/\cur[k*4+3]?=some (.slice x.ga x.gn x.gc)
def dJ (W:World) (g cap:Nat) (R:Nat->HS->Prop):Prop:=∃cur,W.heap[g]?=some (.cells cur 101 (0,0))/\cur.size=cap*4/\∀k x,R k x->Has cur k x
theorem dJ.mono{R b:Nat->HS->Prop}(h:dJ W g cap R)(e:∀k x,b k x->R k x):dJ W g cap b:=by
 obtain⟨a,d,i,c⟩:=h;exact⟨a,d,i,λk x f=>c k x (e k x f)⟩
theorem dJ.lt{R:Nat->HS->Prop}(h:dJ W g cap R):g<W:=by
 obtain⟨a,b,_⟩:=h;exact (gS b).1
theorem dJ.block{R:Nat->HS->Prop}(h:dJ W g cap R)(b:W'.heap[g]?=W.heap[g]?):dJ W' g cap R:=by
 obtain⟨a,d,e,c⟩:=h;exact⟨a,b.trans d,e,c⟩
theorem dJ.cells{R:Nat->HS->Prop}(h:dJ W g cap R){x:HS}(l:R k x):W.cell? ⟨g,k*4,none⟩=some (.string x.h.pod.nm)/\W.cell? ⟨g,k*4+1,none⟩=some (.int .i64 x.h.pod.pr)/\W.cell? ⟨g,k*4+2,none⟩=some (.slice x.ca x.cn x.cc)/\W.cell? ⟨g,k*4+3,none⟩=some (.slice x.ga x.gn x.gc):=by
 obtain⟨e,i,m,f⟩:=h;obtain⟨a,b,c,d⟩:=f k x l;have cc:∀j,W.cell? ⟨g,j,none⟩=e[j]?:=λj=>by simp[World.cell?,i]
 rw[cc,cc,cc,cc];exact⟨a,b,c,d⟩
theorem dJ.frozen{R:Nat->HS->Prop}(h:dJ W g cap R)(j:Nat):W.frozen? ⟨g,j,none⟩=false:=by
 obtain⟨a,b,_⟩:=h;exact bZ b j
theorem dJ.there{R:Nat->HS->Prop}(h:dJ W g cap R){j:Nat}(c:j<cap*4):(W.cell? ⟨g,j,none⟩).isSome=true:=by
 obtain⟨a,b,d,_⟩:=h;have cc:W.cell? ⟨g,j,none⟩=a[j]?:=by simp[World.cell?,b]
 rw[cc,Array.getElem?_eq_getElem (by omega)];rfl
theorem dJ.set{R:Nat->HS->Prop}(h:dJ W g cap R)(hi:i<cap)(y:HS):dJ ((((W.setCell ⟨g,i*4,none⟩ y.h.pod.nm).setCell ⟨g,i*4+1,none⟩ (y.h.pod.pr:Int)).setCell ⟨g,i*4+2,none⟩ (.slice y.ca y.cn y.cc)).setCell ⟨g,i*4+3,none⟩ (.slice y.ga y.gn y.gc)) g cap (λk x=>(k=i/\x=y)\/(k≠i/\R k x)):=by
 obtain⟨e,j,m,f⟩:=h;refine⟨_,bd (bd (bd (bd j (i*4) _) (i*4+1) _) (i*4+2) _) (i*4+3) _,by simp[m],?_⟩;rintro k x (⟨rfl,rfl⟩|⟨n,l⟩)
 ·unfold Has;simp only[Array.getElem?_setIfInBounds,Array.size_setIfInBounds];refine⟨?_,?_,?_,?_⟩
  ·grind
  ·grind
  ·grind
  ·grind
 ·obtain⟨a,b,c,d⟩:=f k x l;unfold Has;simp only[Array.getElem?_setIfInBounds];refine⟨?_,?_,?_,?_⟩
  ·grind
  ·grind
  ·grind
  ·grind
theorem dJ.tail{R:Nat->HS->Prop}(l:∀k x,R k x->k<i):∀(vs:List Value) (o:Nat) (W:World),i*4<=o->dJ W g cap R->dJ (W.setCells g o vs) g cap R:=by
 intro vs
 induction vs with
 | nil=>intro o W _ h;exact h
 | cons v vs ih=>
  intro o W p h;rw[World.setCells];refine ih (o+1) _ (by omega) ?_;obtain⟨m,j,n,f⟩:=h;refine⟨_,bd j o v,by simp[n],λk x e=>?_⟩;obtain⟨a,b,c,d⟩:=f k x e
  have:=l k x e
  unfold Has;simp only[Array.getElem?_setIfInBounds];refine⟨?_,?_,?_,?_⟩
  ·grind
  ·grind
  ·grind
  ·grind
theorem Hs(L:List HS)(k j:Nat)(b:k<L.length)(c:j<4):((L.map HS.tri).flatMap aU)[k*4+j]?=(HS.cells L[k])[j]?:=by
 induction L generalizing k with
 | nil=>simp at b
 | cons a l ih=>
  rw[Qq,List.flatMap_cons];cases k with
  | zero=>rw[List.getElem?_append_left (by simp[aU];omega)];simp[aU,HS.tri,HS.cells]
  | succ k=>
   rw[List.getElem?_append_right (by simp[aU];omega)]
   have:=ih k (by simpa using b)
   simp only[List.getElem_cons_succ];rw[<- this]
   congr 1
   simp[aU]
   omega
theorem Ht(L:List HS):((L.map HS.tri).flatMap aU).length=L.length*4:=by
 induction L with
 | nil=>rfl
 | cons a l ih=>rw[Qq,List.flatMap_cons,Q2,ih,Qg];simp[aU];omega
theorem Yb{n:Nat}{L:List HS}(h:W.ownsRow base 101 4 (.slice g n cap) L.length ((L.map HS.tri).flatMap aU)):dJ W g cap (λk x=>k<L.length/\x=dU L k)/\base<=g/\L.length<=cap/\cap<=maxLen:=by
 rcases h.2 with⟨b,_⟩|⟨r,c,a,b,p,f,o,l,i,m⟩
 ·cases b
 ·cases b;refine⟨⟨a,f,i,?_⟩,p,o,l⟩;rintro k x ⟨d,rfl⟩;rw[Ag d];have e:∀j,j<4->a[k*4+j]?=(HS.cells L[k])[j]?:=λj q=>by
   rw[<- Hs L k j d q,<- m,List.getElem?_take,if_pos (by omega),Array.getElem?_toList]
  exact⟨e 0 (by decide),e 1 (by decide),e 2 (by decide),e 3 (by decide)⟩
theorem Yc{L:List HS}(h:dJ W g cap (λk x=>k<L.length/\x=dU L k))(r:base<=g)(o:L.length<=cap)(l:cap<=maxLen):W.ownsRow base 101 4 (.slice g L.length cap) L.length ((L.map HS.tri).flatMap aU):=by
 obtain⟨f,n,j,m⟩:=h;refine⟨Ht L,.inr ⟨g,cap,f,rfl,r,n,o,l,j,?_⟩⟩;have Ha:f.toList.length=cap*4:=by simpa using j
 refine List.ext_getElem? λq=>?_
 rw[List.getElem?_take]
 by_cases p:q<L.length*4
 ·rw[if_pos p];have t:q=q / 4*4+q % 4:=by omega
  have i:q / 4<L.length:=by omega
  obtain⟨a,b,c,d⟩:=m (q / 4) _ ⟨i,rfl⟩;rw[Ag i] at a b c d;have s:q % 4<4:=Nat.mod_lt _ (by decide);rw[t,Hs L (q / 4) (q % 4) i s,Array.getElem?_toList]
  have:q % 4=0\/q % 4=1\/q % 4=2\/q % 4=3:=by omega
  rcases this with e|e|e|e <;> rw[e]
  ·exact a
  ·exact b
  ·exact c
  ·exact d
 ·grind[Ht]
def Ah (nm:ByteArray):Obj:=.cells #[nm] 9
abbrev Hv:=λ(x0:HS)=>(.cells #[x0.h.pod.nm,(x0.h.pod.pr:Int),.slice x0.ca x0.cn x0.cc,.slice x0.ga x0.gn x0.gc] 101:Obj)
theorem Hw(x:HS)(nm:ByteArray)(a:Nat)(W:World)(b:W.heap[a]?=some (Ah nm)):CB 104 #[.agg #[x.h.pod.nm,(x.h.pod.pr:Int),.slice x.ca x.cn x.cc,.slice x.ga x.gn x.gc],a] W (.bool (decide (x.h.pod.nm=nm))):=by
 have b0:cl (W.alloc (Hv x)) a (0) nm:=ad (bQ b _) 0;have Ha:a≠W:=by grind
 have c:=qI ((Q0 W W).alloc (lR) (Hv x));have f:=sK x.h.pod.nm nm;clear b;generalize decide (x.h.pod.nm=nm)=d at *
 go_enter func104,ntmps104
 go_wp2
 go_ret;exact⟨rfl,c.o⟩
theorem Yd(p:HS->Bool):∀(l:List HS) (i:Nat),(Lib.idxByFrom (λ_ y=>p y) default l i=-1/\∀x∈l,p x=false)\/∃k,k<l.length/\Lib.idxByFrom (λ_ y=>p y) default l i=((i+k:Nat):Int)/\p (dU l k)=true/\∀x∈l.take k,p x=false:=by
 intro l
 induction l with
 | nil=>intro i;exact .inl ⟨rfl,λx a=>by cases a⟩
 | cons y r ih=>
  intro i;cases h:p y with
  | true=>exact .inr ⟨0,by simp,by simp[Lib.idxByFrom,h],by simpa[dU] using h,λx a=>by cases a⟩
  | false=>
   rcases ih (i+1) with⟨e,b⟩|⟨k,c,e,d,b⟩
   ·grind[Lib.idxByFrom]
   ·refine .inr ⟨k+1,by simpa using c,?_,by simpa[dU] using d,λx a=>?_⟩
    ·simp only[Lib.idxByFrom,h];rw[show (if false=true then (i:Int) else Lib.idxByFrom (λ_ y=>p y) default r (i+1))=Lib.idxByFrom (λ_ y=>p y) default r (i+1) from rfl,e]
     congr 1
     omega
    ·grind
theorem Ye{nm:ByteArray}(h:Nat){g f:Nat}{L:List HS}{w:World}(m:w.heap[h]?=some (Ah nm))(n:dJ w g f (λk x=>k<L.length/\x=dU L k))(s:L.length<=100) :
  CB 147 #[.slice g L.length f,.func (.func 104) #[] #[.pointer (some ⟨h,0,none⟩)]] w (Lib.idxByFrom (λ_ y=>decide (y.h.pod.nm=nm)) default L 0:Int):=by
 have r:∀args w,(callFunc 104 args).run prog w=.ok (.enter 104 args) w:=enters_of func104 (by kernel_rfl) rfl;have Hb:=(gS m).1;have o:PredBelow prog 104 #[h] (λx:HS=>.agg (HS.cells x).toArray) (λy=>decide (y.h.pod.nm=nm)) w:=λW x l=>by
  refine (Hw x nm h W ((l.block h Hb).trans m)).m λw' Hc=>?_;exact⟨rfl,l.trans (Hc.mono l.size)⟩
 have Ha:=AnyQ.slices_IndexFunc Tryz.idxH 4 isAgg101 sizeOf101 HS.cells (λ_=>rfl) (λy=>decide (y.h.pod.nm=nm)) 104 #[.pointer (some ⟨h,0,none⟩)] r g 0 L.length f L w o (lR) (by omega) n.lt (λj p i v hi=>by
  have e:L[j]! = dU L j:=by grind[Ag]
  rw[e] at hi;obtain⟨a,b,c,d⟩:=n.cells (k:=j) ⟨p,rfl⟩;rw[Qd]
  match i,hi with
  | 0,hi=>simp[HS.cells] at hi;subst hi;exact a
  | 1,hi=>simp[HS.cells] at hi;subst hi;exact b
  | 2,hi=>simp[HS.cells] at hi;subst hi;exact c
  | 3,hi=>simp[HS.cells] at hi;subst hi;exact d
  | q+4,hi=>simp[HS.cells] at hi)
 rw[Qh] at Ha;exact Ha
theorem Yf(w:World):(zeroValue 101).run prog w=.ok (.agg #[ByteArray.empty,(0:Int),(),()]) w:=by kernel_rfl
theorem Yg(w:World)(b:TypeId){g:Nat}(o n c:Nat)(i:0<n)(f:∀j,j<n*4->(w.cell? ⟨g,o+j,none⟩).isSome=true)(hf:∀j,w.frozen? ⟨g,j,none⟩=false) :
  ∃vs:List Value,(Builtin.clear_ #[43] b #[.slice (some ⟨g,o,none⟩) n c]).run prog w=.ok (.tuple #[]) (w.setCells g o vs):=by
 have d:=Yf w;have He:(Value.agg #[ByteArray.empty,(0:Int),.slice none 0 0,.slice none 0 0]).cells=#[.string ByteArray.empty,.int .i64 0,.slice none 0 0,.slice none 0 0]:=by rfl
 obtain⟨vs,Hb⟩:∃vs,vs=(Builtin.zeroCells (Value.agg #[ByteArray.empty,(0:Int),.slice none 0 0,.slice none 0 0]).cells n).toList:=⟨_,rfl⟩;have Hf:vs.length=n*4:=by simp_all[Builtin.zeroCells]
 have Ha:∀u∈vs,u.oneCell'=true:=λu a=>by
  rw[Hb,He] at a;simp only[Builtin.zeroCells,Array.toList_map,Qk] at a;obtain⟨q,_,rfl⟩:=a;have h:q % 4<4:=Nat.mod_lt _ (by decide)
  have:q % 4=0\/q % 4=1\/q % 4=2\/q % 4=3:=by omega
  show (#[Value.string ByteArray.empty,.int .i64 0,.slice none 0 0,.slice none 0 0][q % 4]!).oneCell'=true
  rcases this with e|e|e|e <;> rw[e] <;> rfl
 have Hc:=run_storeCells_cells (P:=prog) g o vs 0 w (λj k=>by grind) (λj _=>hf _) Ha;obtain⟨m,rfl⟩:∃m,n=m+1:=⟨n - 1,by omega⟩;simp only[Nat.add_zero] at Hc;refine⟨vs,?_⟩
 simp[Builtin.clear_,run_underlying underlying43,d,<- Hb,Hc]
def kept (L:List HS) (nm:ByteArray):List HS:=L.filter λx=>!decide (x.h.pod.nm=nm)
theorem Hx{L:List HS}(h:∀x∈L,decide (x.h.pod.nm=nm)=false):kept L nm=L:=List.filter_eq_self.2 λx a=>by rw[h x a];rfl
theorem Hy{L:List HS}(a:b<L.length):kept (L.take (b+1)) nm=kept (L.take b) nm++(if decide ((dU L b).h.pod.nm=nm) then [] else [dU L b]):=by
 grind[Qa,kept,dU]
theorem Yh{A B:List HS}(h:k<A.length):dU (A++B) k=dU A k:=by grind[dU]
theorem Yi{A:List HS}{x:HS}:dU (A++[x]) A.length=x:=by simp[dU,List.getD]
theorem Yj{L:List HS}(h:k<b):dU (L.take b) k=dU L k:=by grind[dU]
theorem tP(g:Nat):∀(vs:List Value) (o:Nat) (W:World),W.grownBy (W.setCells g o vs) (some g):=by
 intro vs
 induction vs with
 | nil=>intro o W;exact fK (Q0 _ _) _
 | cons v vs ih=>intro o W;exact (dD W ⟨g,o,none⟩ v).trans (ih (o+1) _)
theorem Yk{nm:ByteArray}(l:Nat){g c:Nat}{L:List HS}{w:World}(s:w.heap[l]?=some (Ah nm))(z:l≠g)(t:dJ w g c (λk x=>k<L.length/\x=dU L k))(R:L.length<=c)(v:c<=maxLen)(T:L.length<=100) :
  Calls pg 103 #[.slice g L.length c,.func (.func 104) #[] #[.pointer (some ⟨l,0,none⟩)]] w λe w'=>e=.returned (.slice g (kept L nm).length c)/\dJ w' g c (λk x=>k<(kept L nm).length/\x=dU (kept L nm) k)/\w.grownBy w' (some g):=by
 have F:=qI (Ye l s t T);have J:=qI s;have A:=qI t;have D:=t.lt;have O:=(gS s).1;have eg:∀args w,(callFunc 104 args).run prog w=.ok (.enter 104 args) w:=enters_of func104 (by kernel_rfl) rfl;have HN:c<=9223372036854775807:=by grind[maxLen]
 clear s t v
 go_enter func103,ntmps103
 go_wp2
 refine F.o.m λW1 Hv=>?_;have Hj:=qI Hv;clear Hv F
 rcases Yd (λy=>decide (y.h.pod.nm=nm)) L 0 with⟨e,Ht⟩|⟨n,U,e,Hs,Hr⟩
 ·rw[e];have r:=qI (Hx Ht);clear e Ht
  go_wp2
  go_ret;rw[r.o];exact⟨rfl,A.o.block (Hj.o.block g D),fK Hj _⟩
 ·rw[e,Qd];have r:Hu (kept (L.take (n+1)) nm=L.take n):=by
   grind[Hu,Hy,Hx]
  have Q:(((n:Nat):Int) == -1)=false:=by simp
  clear e Hs Hr
  go_wp2
  clear Q
  go_loopw [5,6] (λi j wr=>∃a b:Nat,i=.int .i64 a/\j=.int .i64 b/\a<b/\b<=L.length/\a=(kept (L.take b) nm).length/\dJ wr g c (λk x=>(k<a/\x=dU (kept (L.take b) nm) k)\/(b<=k/\k<L.length/\x=dU L k))/\w.grownBy wr (some g)) (λ_ j _=>L.length - (intOf j).toNat)
  case atStart=>
   refine⟨n,n+1,rfl,by go_num,by omega,by omega,by rw[r.o,Qu];omega,(A.o.block (Hj.o.block g D)).mono ?_,fK Hj _⟩;rintro k x (⟨f,d⟩|⟨f,d,u⟩)
   ·rw[r.o,Yj f] at d;exact⟨by omega,d⟩
   ·exact⟨d,u⟩
  case round=>
   obtain⟨a,b,rfl,rfl,HV,HO,Hz,Hh,Hl⟩:=hrel;have Hf:=qI Hz;have Hc:=qI Hh;have E:=qI Hl;have HP:=Hl.size;have M:=qI ((Hl.block l O λe=>z (by injection e)).trans J);clear Hz Hh Hl
   by_cases o:b<L.length
   ·obtain⟨c0,c1,c2,c3⟩:=Hc.o.cells (k:=b) (x:=dU L b) (.inr ⟨lR,o,rfl⟩);have Hq:=qI (Hy (nm:=nm) o);obtain⟨x,q⟩:∃x,x=dU L b:=⟨_,rfl⟩;rw[<- q] at c0 c1 c2 c3 Hq;have HU:=qI q;clear q;have Ho:=qI ((Q0 wr wr).alloc (lR) (jg x.h.pod.nm x.h.pod.pr x.ca x.cn x.cc x.ga x.gn x.gc));have He:=qI (aY wr (jg x.h.pod.nm x.h.pod.pr x.ca x.cn x.cc x.ga x.gn x.gc) rfl);have G:Hu ((wr.alloc (jg x.h.pod.nm x.h.pod.pr x.ca x.cn x.cc x.ga x.gn x.gc)).heap.size=wr.heap.size+1):=by unfold Hu;simp
    obtain⟨H,P,K,I⟩:=c4 He
    go_wp2
    clear c0 c1 c2 c3 H P K I;generalize wr.alloc (jg x.h.pod.nm x.h.pod.pr x.ca x.cn x.cc x.ga x.gn x.gc)=X at *;refine (Hw x nm l X ((Ho.o.block l (by omega)).trans M)).m λm Hm=>?_;have C:=Ho.t Hm;have Hk:=qI ((Hm.block wr (by have:=G.o;omega)).trans He);have HT:wr<m.heap.size:=by have:=Hm.size;have:=G.o;omega
    have Ha:=qI (Hc.o.block (C.o.block g (by omega)));have Hi:=qI (E.o.trans (fK C (some g)));clear Hm
    rcases two (decide (x.h.pod.nm=nm)) with p|p
    ·rw[p] at Hq ⊢;have Hb:Hu (kept (L.take (b+1)) nm=kept (L.take b) nm):=by grind
     clear p
     go_wp2
     go_roundw
     case rel=>
      refine⟨a,b+1,rfl,by go_num,by omega,by omega,by rw[Hb.o];exact Hf.o,Ha.o.mono ?_,Hi⟩;rintro k y (⟨f,d⟩|⟨f,d,u⟩)
      ·rw[Hb.o] at d;exact .inl ⟨f,d⟩
      ·grind
     case measure=>simp[intOf];omega
    ·rw[p] at Hq ⊢;have Hb:Hu (kept (L.take (b+1)) nm=kept (L.take b) nm++[x]):=by grind
     obtain⟨z0,z1,z2,z3⟩:=c4 Hk;have f0:=Ha.o.frozen (a*4);have f1:=Ha.o.frozen (a*4+1);have f2:=Ha.o.frozen (a*4+2);have f3:=Ha.o.frozen (a*4+3);obtain⟨o0,p0⟩:=Option.isSome_iff_exists.1 (Ha.o.there (j:=a*4) (by omega));obtain⟨V,p1⟩:=Option.isSome_iff_exists.1 (Ha.o.there (j:=a*4+1) (by omega));obtain⟨o2,p2⟩:=Option.isSome_iff_exists.1 (Ha.o.there (j:=a*4+2) (by omega));obtain⟨Z,Y⟩:=Option.isSome_iff_exists.1 (Ha.o.there (j:=a*4+3) (by omega));have N:a<L.length:=by omega
     have Hg:=qI (Ha.o.set (i:=a) (by omega) x);have Hn:Hu (w.grownBy ((((m.setCell ⟨g,a*4,none⟩ x.h.pod.nm).setCell ⟨g,a*4+1,none⟩ (x.h.pod.pr:Int)).setCell ⟨g,a*4+2,none⟩ (.slice x.ca x.cn x.cc)).setCell ⟨g,a*4+3,none⟩ (.slice x.ga x.gn x.gc)) (some g)):=(((Hi.o.trans (dD _ ⟨g,a*4,none⟩ _)).trans (dD _ ⟨g,a*4+1,none⟩ _)).trans (dD _ ⟨g,a*4+2,none⟩ _)).trans (dD _ ⟨g,a*4+3,none⟩ _);clear p
     go_wp2
     go_roundw
     case rel=>
      refine⟨a+1,b+1,by go_num,by go_num,by omega,by omega,by rw[Hb.o,Q2,<- Hf.o];rfl,Hg.o.mono ?_,Hn⟩;rintro k y (⟨f,d⟩|⟨f,d,u⟩)
      ·rw[Hb.o] at d
       by_cases h:k=a
       ·refine .inl ⟨h,?_⟩;rw[d,h,Hf.o,Yi]
       ·refine .inr ⟨h,.inl ⟨by omega,?_⟩⟩;rw[d,Yh (by rw[<- Hf.o];omega)]
      ·grind
     case measure=>simp[intOf];omega
   ·have S:b=L.length:=by omega
    have B:Hu (kept (L.take b) nm=kept L nm):=by grind[Hu]
    obtain⟨vs,W⟩:=Yg wr 0 (a*4) (L.length - a) (c - a) (by omega) (λj hj=>Hc.o.there (by omega)) λj=>Hc.o.frozen j;have HQ:¬ c=a:=by omega
    have N:a<L.length:=by omega
    clear S
    go_wp2
    go_ret;have Hp:a=(kept L nm).length:=by rw[<- B.o];exact Hf.o
    refine⟨by rw[<- Hp];rfl,dJ.tail (i:=a) (λk x q=>by rw[Hp];exact q.1) vs (a*4) wr (lR) (Hc.o.mono ?_),E.o.trans (tP g vs (a*4) wr)⟩;rintro k x ⟨f,d⟩;rw[B.o,Hp];exact .inl ⟨f,d⟩
theorem Yl{l:List Value}{o:Nat}{v:Value}{vs:List Value}(h:o<l.length):(l.set o v).take (o+1)++vs++(l.set o v).drop (o+1+vs.length)=l.take o++(v :: vs)++l.drop (o+(v :: vs).length):=by
 have b:(l.set o v).take (o+1)=l.take o++[v]:=by
  simp_all[Qa,List.take_set_of_le]
 have a:(l.set o v).drop (o+1+vs.length)=l.drop (o+(v :: vs).length):=by
  grind[List.drop_set_of_lt]
 rw[b,a]
 simp
theorem wb{t:TypeId}:∀(vs:List Value) (o:Nat) (W:World) (a:Array Value),W.heap[g]?=some (.cells a t (0,0))->o+vs.length<=a.size->(W.setCells g o vs).heap[g]?=some (.cells (a.toList.take o++vs++a.toList.drop (o+vs.length)).toArray t (0,0)):=by
 intro vs
 induction vs with
 | nil=>intro o W a h _;rw[World.setCells,h];simp
 | cons v vs ih=>
  intro o W a h b;rw[Qg] at b;rw[World.setCells,ih (o+1) _ (a.setIfInBounds o v) (bd h o v) (by simp;omega)];rw[Array.toList_setIfInBounds,Yl (by simp;omega)]
theorem Ym(l:List (ae × Value × Value))(i:Nat):(l.take i).flatMap aU=(l.flatMap aU).take (i*4):=by
 induction l generalizing i with
 | nil=>simp
 | cons x l ih=>
  cases i with
  | zero=>simp
  | succ i=>
   rw[List.take_succ_cons,List.flatMap_cons,List.flatMap_cons,ih i,List.take_append];have a:(aU x).length=4:=rfl;rw[List.take_of_length_le (l:=aU x) (by omega),a,show (i+1)*4 - 4=i*4 by omega]
theorem Yn(l:List (ae × Value × Value))(i:Nat):(l.drop i).flatMap aU=(l.flatMap aU).drop (i*4):=by
 induction l generalizing i with
 | nil=>simp
 | cons x l ih=>
  cases i with
  | zero=>simp
  | succ i=>
   rw[List.drop_succ_cons,List.flatMap_cons,ih i,List.drop_append];have a:(aU x).length=4:=rfl;rw[List.drop_eq_nil_of_le (show (aU x).length<=_ by omega),a,show (i+1)*4 - 4=i*4 by omega,List.nil_append]
theorem Ai(l:List (ae × Value × Value)):(l.flatMap aU).length=l.length*4:=by induction l <;> grind[aU]
theorem Hz(l:List (ae × Value × Value))(i:Nat)(y:ae × Value × Value):(l.take i++y :: l.drop i).flatMap aU=(l.flatMap aU).take (i*4)++aU y++(l.flatMap aU).drop (i*4):=by
 grind[Ym,Yn]
theorem Yo(A Z a B:List Value)(k m:Nat)(e:A.length=k*4)(b:a.length=4)(d:B.length=m*4):let c1:=(A++Z).take (k*4)++a++(A++Z).drop (k*4+a.length);(c1.take ((k+1)*4)++B++c1.drop ((k+1)*4+B.length))=A++a++B++Z.drop ((m+1)*4):=by
 intro c1;have c:c1=A++a++Z.drop 4:=by
  show (A++Z).take (k*4)++a++(A++Z).drop (k*4+a.length)=_
  rw[b,List.take_append_of_le_length (by omega),List.take_of_length_le (by omega),List.drop_append,List.drop_eq_nil_of_le (by omega),List.nil_append]
  congr 2
  omega
 have f:(A++a).length=(k+1)*4:=by grind
 rw[c,List.take_append_of_le_length (by omega),List.take_of_length_le (by omega),List.drop_append,List.drop_eq_nil_of_le (by omega),List.nil_append,List.drop_drop]
 congr 2
 omega
theorem Yp(a R b:List Value)(i n:Nat)(g:a.length=n*4)(hi:i<n)(e:b.length=4):let c1:=(a++R).take ((i+1)*4)++a.drop (i*4)++(a++R).drop ((i+1)*4+(a.drop (i*4)).length);(c1.take (i*4)++b++c1.drop (i*4+b.length))=a.take (i*4)++b++a.drop (i*4)++R.drop 4:=by
 intro c1;have f:c1=a.take ((i+1)*4)++a.drop (i*4)++R.drop 4:=by
  show (a++R).take ((i+1)*4)++a.drop (i*4)++(a++R).drop ((i+1)*4+(a.drop (i*4)).length)=_
  have c:(a++R).drop ((i+1)*4+(a.length - i*4))=R.drop 4:=by
   rw[show (i+1)*4+(a.length - i*4)=a.length+4 by omega,List.drop_append,List.drop_eq_nil_of_le (show a.length<=_ by omega),List.nil_append]
   congr 1
   omega
  rw[List.length_drop,List.take_append_of_le_length (by omega),c]
 have d:(a.take ((i+1)*4)).length=(i+1)*4:=by grind
 rw[f,List.append_assoc (a.take ((i+1)*4)),List.take_append_of_le_length (by omega),List.take_take,Nat.min_eq_left (by omega),List.drop_append,List.drop_eq_nil_of_le (by omega),List.nil_append,d,e,show i*4+4 - (i+1)*4=0 by omega,List.drop_zero,<- List.append_assoc]
theorem Yq(W:World)(o:Option Nat):W.grownBy W.drew o:=fK (show Bw W W.drew from⟨rfl,rfl,rfl,lR,λ_ _=>rfl⟩) o
theorem Yr(hi:i<=l.length)(K:l.length<=100):v7 l i:=by
 by_cases S:i=l.length
 ·grind[Ho]
 ·have Hm:i<l.length:=by omega
  intro base v y a w Hn H Hp D Hv ⟨s,z,He⟩ R;have Hb:=Ai l;have f:(aU y).length=4:=rfl
  rcases Hn.2 with⟨_,Q⟩|⟨g,m,c,E,I,Hl,F,J,C,P⟩
  ·omega
  ·subst E;obtain⟨x,d,q⟩:=a;have L:=H 0 _ rfl;have Hf:q=none:=by simpa[Addr.add] using World.cell?_spot L
   subst Hf;have N:x≠g:=λe=>Hv (by rw[<- e];rfl)
   have Ht:∀j u,(l.flatMap aU)[j]?=some u->w.cell? ⟨g,j,none⟩=some u:=λj u n=>by
    grind[World.cell?]
   have Hs:∀j u,(aU y)[j]?=some u->w.cell? ⟨x,d+j,none⟩=some u:=λj u n=>by
    grind[Addr.add_lit]
   have Hr:∀u∈l.flatMap aU,u.oneCell'=true:=λu O=>by
    grind
   have B:c.toList=l.flatMap aU++c.toList.drop (l.length*4):=by grind[List.take_append_drop]
   have Hw:c.toList.length=m*4:=by simpa using C
   by_cases h:l.length+1<=m
   ·refine (Mk (b:=g) l.length m i (d:=x) d 1 (l.flatMap aU) (aU y) w Hm h (by grind[maxLen]) N Hb f Ht (λj n=>by
     grind[World.cell?]) (λj=>bZ Hl j) Hs Hr Hp z 101 s.size c.size (by grind[World.shape?]) (by simp[World.shape?,Hl]) (by omega) (bZ He d) (bZ He s.size)).mono ?_
    rintro e w' ⟨rfl,rfl⟩;refine⟨_,rfl,?_,((Yq w (some g)).trans (tP g _ _ _)).trans (tP g _ _ _)⟩;have t:=wb (l.flatMap aU |>.drop (i*4)) ((i+1)*4) w.drew c Hl (by grind);have T:(i+1)*4+((l.flatMap aU).drop (i*4)).length<=c.toList.length:=by rw[List.length_drop,Hb];omega
    have o:=wb (aU y) (i*4) _ _ t (by
     simp only[List.size_toArray,Q2,Qu,List.length_drop,Hb,f];omega)
    simp only at o;have Ha:=Yp (l.flatMap aU) (c.toList.drop (l.length*4)) (aU y) i l.length Hb Hm f;dsimp only at Ha;rw[<- B] at Ha;rw[Ha] at o;refine⟨by rw[Ai];simp;omega,.inr ⟨g,m,_,rfl,I,o,h,J,?_,?_⟩⟩
    ·simp only[List.size_toArray,Q2,Qu,List.length_drop,Hb,f];omega
    ·rw[Hz,List.toList_toArray,List.take_append_of_le_length (by simp only[Q2,Qu,List.length_drop,Hb,f];omega),List.take_of_length_le (by simp only[Q2,Qu,List.length_drop,Hb,f];omega)]
   ·refine (Mm (b:=g) l.length m i (k:=x) d 1 (l.flatMap aU) (aU y) w Hm F (by omega) K Hb f Ht Hs Hr Hp).mono ?_;rintro e w' ⟨G,A,Hu,rfl,rfl⟩;have Hj:∀k,(Builtin.zeroCells gC.cells k).size=k*4:=λk=>by
     have Hj:gC.cells.size=4:=rfl;simp only[Builtin.zeroCells,Array.size_map,Array.size_range,Hj]
    obtain⟨b,Hc⟩:∃b,b=((l.flatMap aU).take (i*4)).toArray++Builtin.zeroCells gC.cells (l.length+1 - i)++Builtin.zeroCells gC.cells (G - (l.length+1)):=⟨_,rfl⟩;have Hg:((l.flatMap aU).take (i*4)).length=i*4:=by rw[Qu,Hb];omega
    have Hk:((l.flatMap aU).drop (i*4)).length=(l.length - i)*4:=by rw[List.length_drop,Hb];omega
    have Hx:b.size=G*4:=by
     rw[Hc];simp only[Array.size_append,List.size_toArray,Hg,Hj];omega
    have M:b.toList=(l.flatMap aU).take (i*4)++((Builtin.zeroCells gC.cells (l.length+1 - i)).toList++(Builtin.zeroCells gC.cells (G - (l.length+1))).toList):=by
     rw[Hc];simp
    rw[<- Hc];clear Hc;have Hh:(w.alloc (.cells b 101)).drew.heap[w.heap.size]?=some (.cells b 101 (0,0)):=aY w _ rfl;have t:=wb (aU y) (i*4) _ b Hh (by rw[f];omega);obtain⟨p,Hi⟩:∃p,p=((w.alloc (.cells b 101)).drew.setCells w.heap.size (i*4) (aU y)).drew:=⟨_,rfl⟩;have r:p.heap[w.heap.size]?=some (.cells (b.toList.take (i*4)++aU y++b.toList.drop (i*4+(aU y).length)).toArray 101 (0,0)):=by rw[Hi];exact t
    have o:=wb ((l.flatMap aU).drop (i*4)) ((i+1)*4) p _ r (by
     have:b.toList.length=G*4:=by simpa using Hx
     simp only[List.size_toArray,Q2,Qu,List.length_drop,Hb,f,this];omega)
    have Hq:Below w.heap.size w p:=by
     rw[Hi];have b1:Below w.heap.size w (w.alloc (.cells b 101)).drew:=bO ((Q0 w.heap.size w).alloc (lR) _);exact bO (b1.grown (tP w.heap.size _ _ _) b1.size (λj n=>by injection n with n;omega))
    have Hy:Below w.heap.size w (p.setCells w.heap.size ((i+1)*4) ((l.flatMap aU).drop (i*4))):=Hq.grown (tP w.heap.size _ _ _) Hq.size (λj n=>by injection n with n;omega);rw[<- Hi];clear Hi t r;simp only at o;have Ha:=Yo ((l.flatMap aU).take (i*4)) ((Builtin.zeroCells gC.cells (l.length+1 - i)).toList++(Builtin.zeroCells gC.cells (G - (l.length+1))).toList) (aU y) ((l.flatMap aU).drop (i*4)) i (l.length - i) Hg f Hk;dsimp only at Ha;rw[<- M] at Ha;rw[Ha] at o;refine⟨_,rfl,⟨by rw[Ai];simp;omega,.inr ⟨w.heap.size,G,_,rfl,D,o,A,Hu,?_,?_⟩⟩,fK Hy _⟩
    ·simp only[List.size_toArray,Q2,Hg,Hk,f,List.length_drop,Array.length_toList,Hj];omega
    ·rw[Hz,List.toList_toArray,List.take_append_of_le_length (by simp only[Q2,Hg,Hk,f];omega),List.take_of_length_le (by simp only[Q2,Hg,Hk,f];omega)]
theorem Ys{K:Nat->Prop}(h:cJ W)(b:Apart K W W')(c:¬ K 1):cJ W':=by
 refine⟨?_,Q1 h.2 b.size⟩;have a:=h.1;unfold kG Lib.TabIs World.var? at a ⊢;simp only[uI,Option.bind_some] at a ⊢;rw[b.block _ h.2 c];exact a
theorem Yt(L:List HS)(nm:ByteArray):(kept L nm).map HS.h=gk (L.map HS.h) nm:=by induction L <;> grind[kept,gk]
theorem we{rs ws:List Rn}(h:∀a∈ws,a∈rs):eQ rs ws=0:=by simp_all[eQ]
theorem Aj{b:List ae}(h:b.Sublist hs):∀a∈aL b,a∈aL hs:=by
 intro a e;obtain⟨x,d,c⟩:=List.mem_flatMap.1 e;exact List.mem_flatMap.2 ⟨x,h.subset d,c⟩
def ee (hs:List ae) (nms:List ByteArray):List ae:=nms.foldl gk hs
def ir (L:List HS) (nms:List ByteArray):List HS:=nms.foldl kept L
theorem Yu(a:k<nms.length):ee hs (nms.take (k+1))=gk (ee hs (nms.take k)) nms[k]:=by
 grind[ee,Qa]
theorem Yv{L:List HS}(a:k<nms.length):ir L (nms.take (k+1))=kept (ir L (nms.take k)) nms[k]:=by
 grind[ir,Qa]
theorem ry(hs:List ae)(b:List ByteArray):(ee hs b).Sublist hs:=by
 unfold ee
 induction b generalizing hs with
 | nil=>exact List.Sublist.refl _
 | cons a l ih=>exact (ih _).trans (zy hs a)
theorem wh(L:List HS)(b:List ByteArray):(ir L b).Sublist L:=by
 unfold ir
 induction b generalizing L with
 | nil=>exact List.Sublist.refl _
 | cons a l ih=>exact (ih _).trans List.filter_sublist
theorem H7(L:List HS)(a:List ByteArray):(ir L a).map HS.h=ee (L.map HS.h) a:=by induction a generalizing L <;> grind[ir,ee,Yt]
theorem Yw{t:aT}(h:eG t)(a:List ByteArray):eG ⟨t.m,t.ds,ee t.hs a⟩:=by
 obtain⟨s,hs⟩:=h.left;exact⟨h.devs,zA h.held (ry t.hs a),Ub hs (ry t.hs a)⟩
theorem H8{M:Nat->Prop}{w:World}{L:List HS}(h:dJ W g cap (λk x=>k<L.length/\x=dU L k))(f:∀j,M j->j<w.heap.size)(m:w<=g)(e:L.length<=cap)(d:cap<=maxLen)(old:∀x∈L,ba (av M w) (.slice x.ca x.cn x.cc) x.h.pod.cs/\ce (av M w) (.slice x.ga x.gn x.gc) x.h.gs)(a:Apart M w W):bf (av M W) (.slice g L.length cap) (L.map HS.h):=by
 have hle:=bF (λj n c=>⟨c,a.block j n c⟩) a.size;have Ha:=Yc h m e d
 have:=Hq (N:=w.heap.size) (l:=L.map HS.tri) (M:=M) (by rw[Q9];exact Ha) f λx i=>by
  obtain⟨y,b,rfl⟩:=Qk.1 i;exact⟨(old y b).1.le hle,(old y b).2.le hle⟩
 rw[List.map_map] at this;exact this
section
variable{N:Nat->Prop}{Ba Bd Be Bm:Nat}{t:aT}{dk:Dk}{n:Nat}{p:aj}
end
theorem H9(h:dN hs nm=false):gk hs nm=hs:=by
 grind[gk,List.filter_eq_self,tM]