import Derived.Test.YtjlblidnfebmiaaGreatDoorY27
import Derived.Test.YtjlblidnfebmiaaGreatDoorY22
set_option maxRecDepth 100000
set_option maxHeartbeats 16000000
open Go Go.RowKit Go.Shelf
attribute [local go_sem] Oper.semAt_some
open Go.Proofs.Tryz
namespace Go.Proofs.YtjlblidnfebmiaaGreatDoor
variable{W:World}{a b:List aj}{hs:List ae}{k:Nat}{m:aJ}{p:aj}{s:aC}{xs:List Int}
section
variable{α β:Type}(nm:α->β)
theorem FV{l:List α}(h:(l.map nm).Nodup){a b:α}(d:a∈l)(c:b∈l)(e:nm a=nm b):a=b:=by
 grind[List.getElem_of_mem,List.pairwise_iff_getElem]
theorem UO{l:List α}(h:(l.map nm).Nodup):l.Nodup:=by
 unfold List.Nodup at *;rw[List.pairwise_map] at h;exact h.imp λa e=>a (by rw[e])
theorem UP{b c:List α}{k:Nat}(e:k<b.length)(ah:(b.map nm).Nodup)(d:b[k] ∉ c)(a:α):(a∈b/\(a∈c\/a∈b.drop (k+1)))↔(a∈b/\(a∈c\/a∈b.drop k))/\nm a≠nm b[k]:=by
 grind[List.drop_eq_getElem_cons,FV,List.drop_sublist]
theorem UQ{b c:List α}{k:Nat}(e:k<b.length)(d:b[k]∈c)(a:α):(a∈b/\(a∈c\/a∈b.drop (k+1)))↔(a∈b/\(a∈c\/a∈b.drop k)):=by
 grind[List.drop_eq_getElem_cons]
theorem FW{c b:List α}{k:Nat}(d:k<b.length)(a:α):(a∈b/\(a∈c\/a∈b.take (k+1)))↔(a∈b/\(a∈c\/a∈b.take k))\/a=b[k]:=by
 grind[Qa]
theorem UR{c b:List α}{k:Nat}(e:k<b.length)(d:b[k]∈c)(a:α):(a∈b/\(a∈c\/a∈b.take (k+1)))↔(a∈b/\(a∈c\/a∈b.take k)):=by
 grind[FW]
theorem UT{c b:List α}{k:Nat}(e:k<b.length)(ah:(b.map nm).Nodup)(f:b[k] ∉ c)(a:α)(h:a∈b/\(a∈c\/a∈b.take k)):nm a≠nm b[k]:=by
 intro g;have i:=FV nm ah h.1 (List.getElem_mem e) g;subst i
 rcases h.2 with d|d
 ·exact f d
 ·have Ha:b.Nodup:=UO nm ah
  have:=(Ha.sublist (List.take_sublist (k+1) b))
  rw[Qa e,List.nodup_append] at this;exact this.2.2 _ d _ (Qm.2 rfl) rfl
end
theorem zC(h:fo xs=0):xs.length<=16:=by
 grind[fo]
theorem UU(h:br p=0){i j:Nat}(b:j<p.cs.length)(c:i<j):(af p.cs i).nm≠(af p.cs j).nm:=by
 obtain⟨_,_,_,a⟩:=qq h
 have:=fy a j b
 unfold ej at this
 split at this
 ·cases this
 ·grind[nu,af,List.mem_take_iff_getElem]
def tu (p:aj):Prop:=∀c∈p.cs,bR p.cs c.am<=0/\c.ds=[]
def lT (m:aJ):Bool:=(gi m [⟨true,[]⟩]).2
theorem UW{l:List ap}{F:Nat}(b:l.length<=64){on:Nat}(a:F &&& aB (λ_=>true) l=F):bT l F 0 on=(0,0):=by
 grind[yS,Sy,vr]
theorem FX(b:m.l.length<=64)(a:s.cp &&& aB (λ_=>true) m.l=s.cp):bM m s 0 []=if lT m=false then (10,⟨0,[]⟩,s.us) else (0,⟨0,[]⟩,s.us):=by
 unfold bM;have e:ed m s 0 []=[⟨true,[]⟩]:=rfl;rw[e];dsimp only;unfold lT
 split
 ·rfl
 ·rw[UW b a,if_neg (by decide)];rfl
theorem UX(A:Nat):aI A 0=A:=by
 apply Nat.eq_of_testBit_eq;intro i;rw[iJ]
 simp
theorem FY(d:br p=0)(c:tu p)(b:k<p.cs.length):bR p.cs (af p.cs k).am=0/\(af p.cs k).ds=[]:=by
 have a:=mw b;obtain⟨f,e⟩:=c _ a
 have:=(vK (cs:=p.cs) (tl d _ a)).1
 exact⟨by omega,e⟩
theorem UY(h:m.l.length<=64)(c:s.cp &&& aB (λ_=>true) m.l=s.cp)(d:br p=0)(e:tu p)(hi:lT m=true):∀k,k<=p.cs.length->bU m s p.cs k=(0,List.replicate k ⟨0,[]⟩,s):=by
 intro k
 induction k with
 | zero=>intro _;rfl
 | succ k ih=>
  intro i;have b:=ih (by omega);obtain⟨g,a⟩:=FY d e (k:=k) (by omega);rw[bU,b,if_pos rfl];unfold lN;rw[g,a];dsimp only;have f:bM m s 0 []=(0,⟨0,[]⟩,s.us):=by grind[FX]
  rw[f,if_pos rfl];dsimp only;rw[UX,List.replicate_succ']
theorem UZ(d:m.l.length<=64)(a:s.cp &&& aB (λ_=>true) m.l=s.cp)(c:br p=0)(e:tu p)(hi:lT m=false):∀k,0<k->k<=p.cs.length->(bU m s p.cs k).1=10:=by
 intro k
 induction k with
 | zero=>intro h;omega
 | succ k ih=>
  intro _ f;rw[bU]
  by_cases b:k=0
  ·grind[FY,bU,FX,lN]
  ·grind
theorem Va{ds:List aq}(e:m.l.length<=64)(a:m.op &&& aB (λ_=>true) m.l=m.op)(b:bi m ds hs=some s)(c:br p=0)(f:tu p):aW m s p=if lT m=true then (0,List.replicate p.cs.length ⟨0,[]⟩) else (10,(aW m s p).2):=by
 have Ha:s.cp &&& aB (λ_=>true) m.l=s.cp:=by rw[<- (FI b).2,Nat.and_assoc,a]
 have d:=(qq c).2.2.1.1
 split
 ·simp_all[aW,UY]
 ·rename_i hi
  have hi:lT m=false:=by simpa using hi
  have:=UZ e Ha c f hi p.cs.length d (lR)
  unfold aW;rw[this]
theorem Vb(h:a.Sublist b)(d:∀p∈b,br p=0):bE a<=bE b/\ci a<=ci b:=by
 induction h with
 | slnil=>exact⟨Int.le_refl _,Int.le_refl _⟩
 | @cons l1 l2 x hs ih=>
  have e:=ih λp c=>d p (Qv _ c)
  have m:=ny (d x List.mem_cons_self);have f:=qr m (lR);have a2:=oY m (lR);unfold bE ci at *;rw[Qq,Qq,List.sum_cons,List.sum_cons];omega
 | @cons_cons l1 l2 x hs ih=>
  have e:=ih λp c=>d p (Qv _ c)
  unfold bE ci at *;rw[Qq,Qq,Qq,Qq,List.sum_cons,List.sum_cons,List.sum_cons,List.sum_cons];omega
theorem Vc{a b:List Int}(h:a.Perm b):a.sum=b.sum:=by induction h <;> grind
theorem Vd(h:a.Perm b):cr m a=cr m b:=by
 grind[cr,bE,ci,Vc]
theorem Ve(h:a.Sublist b)(c:∀p∈b,br p=0)(d:cr m b=true):cr m a=true:=by
 have:=Vb h c
 unfold cr at *;rw[Bool.and_eq_true,Qp,Qp] at *;omega
def mP (r:Rn):ByteArray × ByteArray:=(r.pod,r.cont)
def lU (h:ae) (i:Nat):Rn:=⟨h.pod.nm,(af h.pod.cs i).nm,((aG h.gs i).cp:Int),(aG h.gs i).dv⟩
def aL (hs:List ae):List Rn:=hs.flatMap λh=>(List.range h.gs.length).map (lU h)
theorem FZ(h:bS hs=0):((aL hs).map mP).Nodup:=by
 obtain⟨_,m,f⟩:=dm.1 h;unfold List.Nodup;rw[List.pairwise_map];unfold aL;rw[List.pairwise_flatMap];constructor
 ·intro x c;obtain⟨g,o,_⟩:=m x c;rw[List.pairwise_map,List.pairwise_iff_getElem];intro i j hi n Hb e;simp only[List.getElem_range] at e;rw[List.length_range] at n;have d:(af x.pod.cs i).nm=(af x.pod.cs j).nm:=congrArg Prod.snd e;exact UU g (by omega) Hb d
 ·refine f.imp ?_;intro a b Ha x c y l e;obtain⟨i,_,rfl⟩:=Qk.1 c;obtain⟨j,_,rfl⟩:=Qk.1 l;have k:a.pod.nm=b.pod.nm:=congrArg Prod.fst e;rw[k] at Ha;exact vI _ Ha
theorem vL(h:bS hs=0):(aL hs).length<=36:=by
 obtain⟨e,d,_⟩:=dm.1 h;have key:∀l:List ae,(∀x∈l,x.gs.length<=3)->(aL l).length<=3*l.length:=by
  intro l
  induction l with
  | nil=>intro _;simp[aL]
  | cons a l ih=>
   intro b;have e:=ih λx c=>b x (Qv _ c)
   have d:=b a (by simp);unfold aL at *;rw[List.flatMap_cons,Q2,Q9,List.length_range,Qg];omega
 have:=key hs λx c=>by
  obtain⟨f,b,_⟩:=d x c
  have:=(jo f).2.2.1
  omega
 omega
theorem F8(h:bS hs=0):∀r∈aL hs,r.pod.size<=7000/\r.cont.size<=7000/\r.devs.length<=16:=by
 obtain⟨_,e,_⟩:=dm.1 h;intro r a;obtain⟨x,d,a⟩:=List.mem_flatMap.1 a;obtain⟨i,hi,rfl⟩:=Qk.1 a;rw[List.mem_range] at hi;obtain⟨c,j,f⟩:=e x d;have b:=jo c;have s1:=(mx b.1).2;have s2:=(mx (b.2.2.2 (af x.pod.cs i) (iM _ _ _ (by omega))).1).2;have s3:=zC (fy f i hi);have k:x.pod.nm.data.toList.length=x.pod.nm.size:=by simp
 have g:(af x.pod.cs i).nm.data.toList.length=(af x.pod.cs i).nm.size:=by simp
 refine⟨?_,?_,s3⟩
 ·show x.pod.nm.size<=7000
  omega
 ·show (af x.pod.cs i).nm.size<=7000
  omega
def pQ (W:World) (Be Bd Bm n:Nat) (rs:List Rn):Prop:=fU W Be Bd Bm/\∃xs,bI W Bm n xs/\(∀x∈xs,gA W x/\x.dn<=1000)/\∀r,r∈xs.map (aN W)↔r∈rs
theorem lV{W':World}{b:List RV}(h:∀x∈b,gA W x/\x.dn<=1000)(c:dY W W'):(∀x∈b,gA W' x/\x.dn<=1000)/\b.map (aN W')=b.map (aN W):=
 ⟨λx a=>⟨((h x a).1.kept c).1,(h x a).2⟩,List.map_congr_left λx a=>by unfold aN;rw[((h x a).1.kept c).2]⟩
theorem F9{c:List RV}(h:(c.map RV.key).Nodup):((c.map (aN W)).map mP).Nodup:=by
 rw[List.map_map];unfold List.Nodup at *;rw[List.pairwise_map] at *;refine h.imp λ{a b} hab e=>hab ?_
 have f:a.pod=b.pod:=congrArg Prod.fst e;have d:a.cont=b.cont:=congrArg Prod.snd e;unfold RV.key;rw[f,d]
theorem zD{y:RV}(h:bK W (.slice y.da y.dn y.dc) xs):bB W y/\bj W y=xs/\y.dn=xs.length:=by
 obtain⟨b,c,a,f,e⟩:=h;injection a with e1 e2 e3
 have key:∀k,k<xs.length->mr W y k=xs.getD k 0:=λk g=>by
  grind[mr,Addr.add_lit]
 refine⟨λd=>?_,?_,e2⟩
 ·grind
 ·unfold bj;rw[e2];apply List.ext_getElem
  ·simp
  ·grind
def lW (W0:World) (z:RV × Rn):Prop:=z.1.pod=z.2.pod/\z.1.cont=z.2.cont/\z.1.cpus=z.2.cpus/\bK W0 (.slice z.1.da z.1.dn z.1.dc) z.2.devs
theorem Ga(h:k<hs.length):aL (hs.take (k+1))=aL (hs.take k)++(List.range (ah hs k).gs.length).map (lU (ah hs k)):=by
 grind[aL,Qa,ah]
theorem Gb(h:∀x∈hs,x.gs.length<=3)(k:Nat):(aL (hs.take k)).length<=3*hs.length:=by
 have key:∀l:List ae,(∀x∈l,x.gs.length<=3)->(aL l).length<=3*l.length:=by
  intro l
  induction l with
  | nil=>intro _;simp[aL]
  | cons a l ih=>
   intro c;have d:=ih λx b=>c x (Qv _ b)
   have e:=c a (by simp);unfold aL at *;rw[List.flatMap_cons,Q2,Q9,List.length_range,Qg];omega
 have:=key (hs.take k) λx b=>h x (List.mem_of_mem_take b)
 rw[Qu] at this;omega
theorem zE{w:World}{base:Nat}{e:TypeId}{sz:Nat}{v:Value}{n:Nat}{c:List Value}(h:w.ownsRow base e sz v n c){B:Nat}{cs:Array Value}{t:TypeId}{z:Nat × Nat}(b:w.heap[B]?=some (.cells cs t z))(i:t≠e):v.ownBlock≠some B:=by
 rcases h.2 with⟨rfl,_⟩|⟨g,d,f,rfl,j,Ha,_⟩
 ·intro a;cases a
 ·intro a;have a:some g=some B:=a;injection a with a
  subst a;rw[b] at Ha;injection Ha with Ha
  injection Ha with _ h2
  exact i h2
theorem fv{K:Nat->Prop}{A B:World}{g:Option Nat}(h:A.grownBy B g)(b:∀j,g=some j->j<A.heap.size->K j):Apart K A B:=
 ⟨h.os,h.tape,h.output,h.size,λj a c=>h.block j a λe=>c (b j e.symm a)⟩
theorem Gc{x:RV}:∀u∈RV.cells x,u.oneCell'=true:=by
 intro u a
 simp[RV.cells] at a
 rcases a with rfl|rfl|rfl|rfl <;> rfl
abbrev ov:=λ(x0:ByteArray) (x1:Int) (x2:Option Addr) (x3 x4:Nat) (x5:Option Addr) (x6 x7:Nat)=>(.cells #[x0,x1,.slice x2 x3 x4,.slice x5 x6 x7] 101:Obj)
abbrev jE:=λ(x0:Int) (x1:Option Addr) (x2 x3:Nat)=>(.cells #[.int .u64 x0,.slice x1 x2 x3] 123:Obj)
abbrev ox:=λ(x0 x1:ByteArray) (x2:Int) (x3:Option Addr) (x4 x5:Nat)=>(.cells #[x0,x1,.int .u64 x2,.slice x3 x4 x5] 129:Obj)
abbrev zF:=λ(Bh:Nat) (xn:ByteArray) (cb co y4 cc j:Nat) (cn:ByteArray) (Bg:Nat) (cp:Int) (ia:Option Addr) (y11 ic:Nat) (w':World)=>cl w' Bh (0) xn/\cl w' Bh (2) (.slice (some ⟨cb,co,none⟩) y4 cc)/\cl w' cb (co+j*6) cn/\cl w' Bg (0) (.int .u64 cp)/\cl w' Bg (1) (.slice ia y11 ic)
theorem Vf{v:Value}{hs:List ae}{w W0:World}(h:bf W0 v hs)(l:aR W0 w)(hl:hs.length<=100)(hgl:∀x∈hs,x.gs.length=x.pod.cs.length/\x.gs.length<=3) :
  Calls prog 99 #[v] w λe w'=>∃(v':Value) (zs:List (RV × Rn)),e=.returned v'/\zs.map Prod.snd=aL hs/\dq w w' v' (zs.map Prod.fst)/\(∀z∈zs,lW W0 z)/\Below w w w':=by
 obtain⟨i0,hi,hu,hB,hf⟩:=info_parts wI;obtain⟨ao,c,rfl,hm,hr⟩:=h;unfold maxLen at hm;have HR:=qI hr;have HL:=qI l;have HO:=qI hgl;clear hr l hgl
 go_enter func99,ntmps99
 go_wp2
 go_loopw [3,10] (λpv i wr=>∃(k:Nat) (zs:List (RV × Rn)),k<=hs.length/\i=.int .i64 k/\zs.map Prod.snd=aL (hs.take k)/\dq w wr pv (zs.map Prod.fst)/\(∀z∈zs,lW W0 z)/\Below w w wr) (λ_ i _=>hs.length - (intOf i).toNat)
 case atStart=>exact⟨0,[],by omega,rfl,rfl,Qw _ _ _ _,λx hx=>(List.not_mem_nil hx).elim,Q0 _ _⟩
 case round=>
  obtain⟨k,zs,hk,rfl,HW,He,Hi,hb⟩:=hrel;have HP:=qI HW;have H0:=qI Hi;have HB:=qI hb;obtain⟨pa,pc,HX⟩:=fI He;rw[Q9] at HX;subst HX;have Hm:=qI He;have hc:=hb.size;clear HW Hi He
  by_cases hlt:k<hs.length
  ·obtain⟨b,ob,cv,gvv,rfl,Hw⟩:=HR.o (by omega);have hle:=HL.o.trans (aR.of_below hb);obtain⟨x0,x1,x2,x3⟩:=(Hw.2 k hlt).1;have x0:=hle.cell _ _ _ x0;have x1:=hle.cell _ _ _ x1;have x2:=hle.cell _ _ _ x2;have x3:=hle.cell _ _ _ x3;have Hr:=(Hw.2 k hlt).2.1;have Hq:=(Hw.2 k hlt).2.2;obtain⟨HD,H9⟩:=HO.o (ah hs k) (by simp[ah,hlt]);have hg:=qI (Ga hlt);have hH:zs.length<=300:=by
    have h1:zs.length=(aL (hs.take k)).length:=by rw[<- HP.o,Q9]
    have h2:=Gb (λx hx=>(HO.o x hx).2) k;omega
   obtain⟨ca,cc,HZ,he,Hz⟩:=id Hr;obtain⟨ga,gc,HM,H6,HI⟩:=id Hq;rw[HZ] at x2;rw[HM] at x3;clear Hw Hr Hq hb HZ HM hle;generalize ah hs k=x at *;obtain⟨⟨xn,xp,xc⟩,xg⟩:=x;dsimp only at x0 x1 x2 x3 Hz HI hg HD H9 he H6;have hq:=qI Hz;have hA:=qI HI;have HU:=qI ((Q0 wr wr).alloc (lR) (ov xn xp ca xc.length cc ga xg.length gc));have Hj:=qI (show dq w (wr.alloc (ov xn xp ca xc.length cc ga xg.length gc)) (.slice pa zs.length pc) (zs.map Prod.fst) from Hm.o.alloc _);have hI:(wr.alloc (ov xn xp ca xc.length cc ga xg.length gc)).heap.size=wr.heap.size+1:=by simp
   have HH:=qI (aY wr (ov xn xp ca xc.length cc ga xg.length gc) rfl);have y0:(wr.alloc (ov xn xp ca xc.length cc ga xg.length gc)).cell? wr.heap.size=some (.string xn):=by simp
   have y2:(wr.alloc (ov xn xp ca xc.length cc ga xg.length gc)).cell? ⟨wr,2,none⟩=some (.slice ca xc.length cc):=by simp
   have y3:(wr.alloc (ov xn xp ca xc.length cc ga xg.length gc)).cell? ⟨wr,3,none⟩=some (.slice ga xg.length gc):=by simp
   have HJ:=qI HD;clear Hz HI HD
   go_wp2_with fail
   generalize wr.alloc (ov xn xp ca xc.length cc ga xg.length gc)=U at *;clear x0 x1 x2 x3;generalize hBh:wr.heap.size=Bh at *;have ha:=qI (HB.o.trans (HU.o.mono hc));clear y0 y2 y3
   go_loopw [3,17] (λpv i wr=>∃(j:Nat) (zq:List (RV × Rn)),j<=xg.length/\i=.int .i64 j/\zq.map Prod.snd=aL (hs.take k)++(List.range j).map (lU ⟨⟨xn,xp,xc⟩,xg⟩)/\dq w wr pv (zq.map Prod.fst)/\(∀z∈zq,lW W0 z)/\Apart (λb=>w.heap.size<=b/\b≠Bh) U wr/\zq.length=zs.length+j) (λ_ i _=>xg.length - (intOf i).toNat)
   case atStart=>exact⟨0,zs,by omega,rfl,by rw[HP.o];simp,Hj.o,H0.o,Apart.refl _ _,rfl⟩
   case round=>
    obtain⟨j,zq,hj,rfl,HY,Hy,Hi,Hv,HT⟩:=hrel;have hD:=qI HT;have H7:zq.length<=303:=by omega
    clear HT;have H5:=qI HY;have Hn:=qI Hi;have HV:=qI Hv;have hn:=Hv.size;have HG:=Hv.below ha.o (lR) λb hb=>hb.1;have ht:=qI HG;obtain⟨va,vc,hv⟩:=fI Hy;rw[Q9] at hv;subst hv;have Hk:=qI Hy;clear HY Hi Hy
    by_cases hjt:j<xg.length
    ·obtain⟨gb,go,dv,rfl,Hl⟩:=hA.o (by omega);obtain⟨cb,co,cdv,rfl,Hf⟩:=hq.o (by have:=HJ.o;omega);have hle:=HL.o.trans (aR.of_below HG);obtain⟨⟨g0,g1,g2⟩,Hc⟩:=Hl.2 j hjt;have g0:=hle.cell _ _ _ g0;have g1:=hle.cell _ _ _ g1;have c0:wr.cell? ⟨cb,co+j*6,none⟩=some (.string (af xc j).nm):=by
      have:=(Hf.2 j (by have:=HJ.o;omega)).1 0 (by decide)
      exact hle.cell _ _ _ this
     have Ho:=qI Hc;obtain⟨ia,ic,H2,_⟩:=id Hc;rw[H2] at g1 Ho;have Hs:lU ⟨⟨xn,xp,xc⟩,xg⟩ j=⟨xn,(af xc j).nm,((aG xg j).cp:Int),(aG xg j).dv⟩:=rfl;have HC:=qI Hs;have hL:cb<wr.heap.size:=Q3 _ ⟨cb,co+j*6,none⟩ c0;have H3:=Q1 Hf.1 HL.o.size;clear Hl Hf Hc H2 Hs Hv HG hle;generalize (aG xg j).cp=cp at *;generalize (aG xg j).dv=xs at *;generalize (af xc j).nm=cn at *;have hh:=(HV.o.block Bh (by omega) (by omega)).trans HH.o;have H8:=qI hh;have z0:wr.cell? Bh=some (.string xn):=ad hh 0;have z2:wr.cell? ⟨Bh,2,none⟩=some (.slice (some ⟨cb,co,none⟩) xc.length cc):=ad hh 2;clear hh;have HK:(j:Int)<(xg.length:Int):=by omega
     have hE:(j:Int)<(xc.length:Int):=by have:=HJ.o;omega
     have HQ:=qI ((Q0 wr wr).alloc (lR) (jE cp ia xs.length ic));have HF:=qI (show dq w (wr.alloc (jE cp ia xs.length ic)).drew (.slice va zq.length vc) (zq.map Prod.fst) from Hk.o.alloc _);have ho:(wr.alloc (jE cp ia xs.length ic)).heap.size=wr.heap.size+1:=by simp
     have HS:Hu ((wr.alloc (jE cp ia xs.length ic)).drew.cell? Bh=some (.string xn)/\(wr.alloc (jE cp ia xs.length ic)).drew.cell? ⟨Bh,2,none⟩=some (.slice (some ⟨cb,co,none⟩) xc.length cc)/\(wr.alloc (jE cp ia xs.length ic)).drew.cell? ⟨cb,co+j*6,none⟩=some (.string cn)/\(wr.alloc (jE cp ia xs.length ic)).drew.cell? wr.heap.size=some (.int .u64 cp)/\(wr.alloc (jE cp ia xs.length ic)).drew.cell? ⟨wr,1,none⟩=some (.slice ia xs.length ic)):=
      ⟨(HQ.o.cell (p:=Bh) (by grind)).trans z0,(HQ.o.cell (p:=⟨Bh,2,none⟩) (by grind)).trans z2,(HQ.o.cell (p:=⟨cb,co+j*6,none⟩) (by omega)).trans c0,ad (W:=(wr.alloc (jE cp ia xs.length ic)).drew) (aY wr (jE cp ia xs.length ic) rfl) 0,ad (W:=(wr.alloc (jE cp ia xs.length ic)).drew) (aY wr (jE cp ia xs.length ic) rfl) 1⟩
     go_wp2_with fail
     generalize wr.alloc (jE cp ia xs.length ic)=Q at *;clear g0 g1 z0 z2 c0;generalize hBg:wr.heap.size=Bg at *;have hN:=wJ Q.drew ⟨xn,cn,cp,ia,xs.length,ic⟩ 129;rw[show Q.drew.heap.size=Bg+1 from ho] at hN;have HN:=qI hN;clear hN;refine wp_region_held_drew (S:=zF Bh xn cb co xc.length cc j cn Bg cp ia xs.length ic) (by kernel_rfl) HS.o λhQ=>?_;refine tk 0 ?_;refine tk 1 ?_;refine tk 2 ?_;refine tk 3 ?_;refine tk 4 ?_;refine tk 5 ?_;refine tk 6 ?_;refine tk 7 ?_;refine tk 8 ?_;refine tk 9 ?_;refine tk 10 ?_;refine tk 11 ?_;refine tk 12 ?_;refine tk 13 ?_;refine tk 14 ?_;refine tk 15 ?_;have Hg:=(Q0 Q.drew Q.drew).alloc (lR) (ox xn cn cp ia xs.length ic);have Hh:Hu ((zF Bh xn cb co xc.length cc j cn Bg cp ia xs.length ic) (Q.drew.alloc (ox xn cn cp ia xs.length ic))):=⟨(Hg.cell (p:=Bh) (by show Bh<Q.heap.size;omega)).trans HS.o.1,(Hg.cell (p:=⟨Bh,2,none⟩) (by show Bh<Q.heap.size;omega)).trans HS.o.2.1,(Hg.cell (p:=⟨cb,co+j*6,none⟩) (by show cb<Q.heap.size;omega)).trans HS.o.2.2.1,(Hg.cell (p:=Bg) (by simp_all)).trans HS.o.2.2.2.1,(Hg.cell (p:=⟨Bg,1,none⟩) (by simp_all)).trans HS.o.2.2.2.2⟩;have hJ:=qI Hg;clear Hg;refine rd 16 λK hK=>?_;go_simp
     go_wp2_with fail
     refine hK.o _ _ Hh.o λhQ=>?_;clear hK K;refine rd 17 λK hK=>?_;rw[if_pos (by rfl)];have hG:(zq.map Prod.fst).length<=400:=by rw[Q9];omega
     refine wp_append_own (o := { dst := some 39, op := Op.call { callee := Callee.builtin Builtin.append, args := #[Operand.tmp 22, Operand.tmp 38], argTypes := #[120, 120] }, type := 120, pos := "run.go:37", after := #[{ on := 0, ground := Ground.data }, { on := 16, ground := Ground.data }], guard := none }) _ _ _ 120 rfl w.heap.size 129 i0 (.agg #[.string ByteArray.empty, .string ByteArray.empty, .int .u64 0, .slice none 0 0]) 4 64 underlying120 hi hu hB hf rfl (by decide) (.slice va zq.length vc) _ _ rfl (HF.o.alloc _) ⟨_, 0, none⟩ 1 1 (RV.cells ⟨xn, cn, cp, ia, xs.length, ic⟩) rfl rfl HN.o (Gc) (by unfold maxLen; omega) (by omega) (by show w.heap.size ≤ (Q.drew.alloc _).heap.size; rw[World.size_alloc]; show w.heap.size ≤ Q.heap.size + 1; omega) ?_
     intro v' W3 Hb Ha _;have Hx:∀b,(Value.slice va zq.length vc).ownBlock=some b->w.heap.size<=b/\b≠Bh:=λb hb=>⟨(Hk.o.lt b hb).1,λe=>zE Hk.o H8.o (by decide) (by rw[hb,e])⟩
     have hw:=qI (dq.push Hb);have hp:=qI ((HV.o.trans (Apart.of_below ((show Below wr wr Q from hBg ▸ HQ.o).trans (bO ((Q0 wr Q).alloc (by omega) _))))).trans (fv Ha λb hb _=>Hx b hb));have Ht:some Bh≠(Value.slice va zq.length vc).ownBlock:=λe=>(Hx Bh e.symm).2 rfl
     have Hp:some Bg≠(Value.slice va zq.length vc).ownBlock:=λe=>by have:=(Hk.o.lt Bg e.symm).2;omega
     have HA:some cb≠(Value.slice va zq.length vc).ownBlock:=λe=>by have:=(Hx cb e.symm).1;omega
     have hM:(Q.alloc (ox xn cn cp ia xs.length ic)).drew.heap.size=Bg+2:=by simp_all
     dsimp only[ox] at hM
     have hF:=Ha.size;have H1:(zF Bh xn cb co xc.length cc j cn Bg cp ia xs.length ic) W3:=⟨(Ha.cell_far Bh (by show Bh<_;omega) Ht).trans Hh.o.1,(Ha.cell_far ⟨Bh,2,none⟩ (by show Bh<_;omega) Ht).trans Hh.o.2.1,(Ha.cell_far ⟨cb,co+j*6,none⟩ (by show cb<_;omega) HA).trans Hh.o.2.2.1,(Ha.cell_far Bg (by show Bg<_;omega) Hp).trans Hh.o.2.2.2.1,(Ha.cell_far ⟨Bg,1,none⟩ (by show Bg<_;omega) Hp).trans Hh.o.2.2.2.2⟩;refine hK.o _ _ H1 λhQ=>?_;clear hK K;(try simp only[Act.put,s1,s2,s3]);refine tk 18 ?_;refine Qn (by kernel_rfl) ?_ _;clear hQ Hb Ha H1
     go_wp2
     go_roundw
     case rel=>
      refine⟨j+1,zq++[(⟨xn,cn,cp,ia,xs.length,ic⟩,⟨xn,cn,cp,xs⟩)],by omega,by go_num,?_,by rw[Qj];exact hw.o,λz hz=>?_,hp.o,by rw[Q2,hD.o];rfl⟩
      ·rw[Qj,H5.o,List.range_succ,Qj,List.append_assoc,List.map_singleton,List.map_singleton,HC.o]
      ·rcases Qi.1 hz with hz|hz
       ·exact Hn.o z hz
       ·rw[Qm.1 hz];exact⟨rfl,rfl,rfl,Ho.o⟩
     case measure=>simp[intOf];omega
    ·have hy:j=xg.length:=by omega
     subst hy;have H4:Hu (zq.map Prod.snd=aL (hs.take (k+1))):=by grind[Hu]
     go_wp2
     go_roundw
     case rel=>exact⟨k+1,zq,by omega,by go_num,H4.o,Hk.o,Hn.o,ht.o⟩
     case measure=>simp[intOf];omega
  ·have hC:k=hs.length:=by omega
   have HE:Hu (zs.map Prod.snd=aL hs):=by grind
   clear hC
   go_wp2
   go_ret;exact⟨_,zs,rfl,HE.o,Hm.o,H0.o,HB.o⟩
end Go.Proofs.YtjlblidnfebmiaaGreatDoor
namespace Go.Proofs
open Go.Shelf
def Tryz.contR_ren:Go.Shelf.Ren:=⟨fun|8=>144|6=>184|n=>n,fun|22=>120|23=>129|25=>228|4=>4|3=>3|0=>0|n=>n,fun|n=>n⟩
theorem Tryz.contR:Go.Proofs.SlLaysH0.n8 Tryz.prog Tryz.contR_ren:=by
 constructor
 case f6=>exact⟨Tryz.f184.name,by decide,Tryz.func184.trans (congrArg some (by kernel_rfl))⟩
 case f8=>exact⟨Tryz.f144.name,by decide,Tryz.func144.trans (congrArg some (by kernel_rfl))⟩
 all_goals intros;kernel_rfl
end Go.Proofs
namespace Go.Proofs.YtjlblidnfebmiaaGreatDoor
variable{Bd Bm base g k:Nat}{W W' w:World}{ds ds':List aq}{hs:List ae}{ns:List ak}{r x y:RV}{t:aT}{v:Value}{ys:List RV}
abbrev RVd (w:World):Type:={ y:RV // bB w y/\y.dn<=1000 }
instance (w:World):Inhabited (RVd w):=⟨⟨⟨ByteArray.empty,ByteArray.empty,0,none,0,0⟩,λh=>absurd h (Nat.lt_irrefl 0),Nat.zero_le _⟩⟩
theorem Gd(W:World)(y:RV):(bj W y).length=y.dn:=by simp[bj]
theorem Vg(h:bB W y):0<(bj W y).length->∃b o,y.da=some ⟨b,o,none⟩/\b<W.heap.size/\∀k,k<(bj W y).length->W.cell? ⟨b,o+k,none⟩=some (.int .i64 ((bj W y).getD k 0)):=by
 rw[Gd];intro d;obtain⟨g,o,e,f,c⟩:=h d;refine⟨g,o,e,f,λk a=>?_⟩;rw[c k a]
 simp[bj,a]
theorem Vh{x y:RV}{w:World}(a:bB w x/\x.dn<=1000)(b:bB w y/\y.dn<=1000):Calls pg 146 #[.slice x.da x.dn x.dc,.slice y.da y.dn y.dc] w λe w'=>e=.returned (.bool (decide (bj w x=bj w y)))/\∃n,w'=w.drewN n:=by
 grind[Mh,Gd,Vg]
def eP (w:World) (x r:RV):Bool:=decide (x.pod=r.pod) && (decide (x.cont=r.cont) && (decide (x.cpus=r.cpus) && decide (bj w x=bj w r)))
theorem Vi:eP w x r=true↔aN w x=aN w r:=by
 grind[eP,aN]
def dF (r:RV):Obj:=.cells #[r.pod,r.cont,.int .u64 r.cpus,.slice r.da r.dn r.dc] 129
theorem Vj{r:RV}(B:Nat){w:World}(f:w.heap[B]?=some (dF r))(g:bB w r/\r.dn<=1000) :
  PredBelow prog 145 #[B] (λx:RVd w=>.agg (RV.cells x.1).toArray) (λx=>eP w x.1 r) w:=λW x c=>by
 obtain⟨x,i⟩:=x;have He:=(gS f).1;have Ha:=(c.block B He).trans f;unfold dF at Ha;have b0:cl (W.alloc (ox x.pod x.cont x.cpus x.da x.dn x.dc)) B (0) r.pod:=ad (bQ Ha _) 0;have b1:cl (W.alloc (ox x.pod x.cont x.cpus x.da x.dn x.dc)) B (1) r.cont:=ad (bQ Ha _) 1;have b2:cl (W.alloc (ox x.pod x.cont x.cpus x.da x.dn x.dc)) B (2) (.int .u64 r.cpus):=ad (bQ Ha _) 2;have o:cl (W.alloc (ox x.pod x.cont x.cpus x.da x.dn x.dc)) B (3) (.slice r.da r.dn r.dc):=ad (bQ Ha _) 3;have Hf:B≠W:=by have:=c.size;omega
 have a:=qI (c.alloc c.size (ox x.pod x.cont x.cpus x.da x.dn x.dc));have Hc:=i.1.below a.o λ_ _ _ h=>h;have Hb:=g.1.below a.o λ_ _ _ h=>h;have l:=qI (Vh (x:=x) (y:=r) ⟨Hc.1,i.2⟩ ⟨Hb.1,g.2⟩);rw[Hc.2,Hb.2] at l;have k:=sK x.pod r.pod;have j:=sK x.cont r.cont;have d:(x.cpus == r.cpus)=decide (x.cpus=r.cpus):=by grind
 show Calls prog 145 #[.agg #[x.pod,x.cont,.int .u64 x.cpus,.slice x.da x.dn x.dc],B] W λe w'=>e=.returned (.bool (eP w x r))/\Below w w w'
 unfold eP;clear c Ha Hc Hb i g f
 rcases two (decide (x.pod=r.pod)) with g1|g1
 ·rw[g1] at k ⊢
  rcases two (decide (x.cont=r.cont)) with b|b
  ·rw[b] at j ⊢
   rcases two (decide (x.cpus=r.cpus)) with g3|g3
   ·rw[g3] at d ⊢;clear g1 b g3;generalize decide (bj w x=bj w r)=n at *
    go_enter func145,ntmps145
    go_wp2_with fail
    refine l.o.mono ?_;rintro e w' ⟨rfl,m,rfl⟩
    go_wp2
    go_ret;exact⟨rfl,below_drewN a.o m⟩
   ·rw[g3] at d ⊢;clear g1 b g3
    go_enter func145,ntmps145
    go_wp2
    go_ret;exact⟨rfl,a.o⟩
  ·rw[b] at j ⊢;clear g1 b d
   go_enter func145,ntmps145
   go_wp2
   go_ret;exact⟨rfl,a.o⟩
 ·rw[g1] at k ⊢;clear g1 j d
  go_enter func145,ntmps145
  go_wp2
  go_ret;exact⟨rfl,a.o⟩
theorem Vk{a:List RV}{r:RV}(B:Nat){g:Nat}(c:Nat){w:World}(f:w.heap[B]?=some (dF r))(l:bB w r/\r.dn<=1000)(m:g<w)(b:∀y∈a,bB w y/\y.dn<=1000)(h:∀k,k<a.length->∀i v,(RV.cells (rv a k))[i]?=some v->w.cell? ⟨g,0+k*4+i,none⟩=some v)(p:a.length<=1000) :
  CB 144 #[.slice g a.length c,.func (.func 145) #[] #[.pointer (some ⟨B,0,none⟩)]] w (.bool (a.any λy=>eP w y r)):=by
 have o:∀args w,(callFunc 145 args).run prog w=.ok (.enter 145 args) w:=enters_of func145 (by kernel_rfl) rfl;have Hb:(a.attachWith (λy=>bB w y/\y.dn<=1000) b).length=a.length:=by simp
 have Ha:=AnyQ.slices_ContainsFunc Tryz.contR 4 isAgg129 sizeOf129 (λx:RVd w=>RV.cells x.1) (λ_=>rfl) (λx=>eP w x.1 r) 145 #[.pointer (some ⟨B,0,none⟩)] o g 0 a.length c (a.attachWith (λy=>bB w y/\y.dn<=1000) b) w
  (Vj B f l) (by omega) (by omega) m (λj n i v hi=>by
   have Hc:j<a.length:=by rw[<- Hb];exact n
   refine h j Hc i v ?_;have e:(a.attachWith (λy=>bB w y/\y.dn<=1000) b)[j]! = (⟨rv a j,b _ (o8 Hc)⟩:RVd w):=by
    grind[rv]
   rw[e] at hi;exact hi)
 have d:(((a.attachWith (λy=>bB w y/\y.dn<=1000) b).take a.length).any λx=>eP w x.1 r)=a.any λy=>eP w y r:=by
  rw[List.take_of_length_le (by omega)]
  have:a=(a.attachWith (λy=>bB w y/\y.dn<=1000) b).map Subtype.val:=by simp
  conv=>rhs;rw[this,List.any_map]
  rfl
 change Calls pg 144 _ _ _ at Ha
 rw[<- d];exact Ha
theorem index_none(a:Option Addr)(c g:Nat)(f:Array Value)(w:World):CE 184 #[.slice a 0 c,.func (.func g) #[] f] w (-1:Int):=by
 go_enter func184,ntmps184
 go_wp2
 go_loopw [8] (λi wr=>i=.int .i64 0/\wr=w) (λ_ _=>0)
 exact⟨rfl,rfl⟩
 ·obtain⟨rfl,rfl⟩:=hrel
  go_wp2
  go_ret;exact⟨rfl,rfl⟩
theorem Vl(a:Option Addr)(c:Nat){g:Nat}{f:Array Value}(w:World):CE 144 #[.slice a 0 c,.func (.func g) #[] f] w false:=by
 have b:=qI (index_none a c g f w)
 go_enter func144,ntmps144
 go_wp2
 refine b.o.e ?_
 go_wp2
 go_ret;exact⟨rfl,rfl⟩
theorem Vm(h:jP w g k x):∀i v,(RV.cells x)[i]?=some v->w.cell? ⟨g,0+k*4+i,none⟩=some v:=by
 intro i v a;rw[Qd]
 match i,a with
 | 0,a=>simp[RV.cells] at a;subst a;exact h.1.1
 | 1,a=>simp[RV.cells] at a;subst a;exact h.1.2.1
 | 2,a=>simp[RV.cells] at a;subst a;exact h.1.2.2.1
 | 3,a=>simp[RV.cells] at a;subst a;exact h.1.2.2.2
 | n+4,a=>simp[RV.cells] at a
theorem jP.alloc(h:jP w g k x)(p:g<w)(o:Obj):jP (w.alloc o) g k x:=by
 have m:(w.alloc o).heap[g]?=w.heap[g]?:=Below.heap_alloc _ _ _ p;obtain⟨⟨a,b,c,d⟩,e,f,n,i⟩:=h;have cc:∀j,(w.alloc o).cell? ⟨g,j,none⟩=w.cell? ⟨g,j,none⟩:=λj=>World.cell?_of_block (a:=⟨g,j,none⟩) m
 have l:∀j,(w.alloc o).frozen? ⟨g,j,none⟩=w.frozen? ⟨g,j,none⟩:=λj=>by simp[World.frozen?,m]
 exact⟨⟨by rw[cc];exact a,by rw[cc];exact b,by rw[cc];exact c,by rw[cc];exact d⟩,by rw[l];exact e,by rw[l];exact f,by rw[l];exact n,by rw[l];exact i⟩
theorem Ge{v:Value}{b:List RV}{r:RV}{base:Nat}{w:World}(o:mo base w v b)(d:∀y∈b,bB w y/\y.dn<=1000)(l:bB w r/\r.dn<=1000)(t:b.length<=1000) :
  CB 100 #[v,.agg #[r.pod,r.cont,.int .u64 r.cpus,.slice r.da r.dn r.dc]] w (.bool (b.any λy=>eP w y r)):=by
 have i:=qI ((Q0 w w).alloc (lR) (dF r));have Ha:∀y,bB w y->bB (w.alloc (dF r)) y/\bj (w.alloc (dF r)) y=bj w y:=λy f=>f.below i λ_ _ _ h=>h
 have Hc:=Ha r l.1;have He:=qI (aY w (dF r) rfl);obtain⟨a,c,rfl,Hj,Hb⟩:=o;have m:Hu (Calls pg 144 #[.slice a b.length c,.func (.func 145) #[] #[.pointer (some ⟨w,0,none⟩)]] (w.alloc (dF r)) λe w'=>e=.returned (.bool (b.any λy=>eP w y r))/\Bw w w'):=by
  unfold Hu
  by_cases s:0<b.length
  ·obtain⟨g,rfl,Hi,Hg,Hh⟩:=Hb s;have Hf:g<(w.alloc (dF r)).heap.size:=by simp;omega
   refine (Vk w c He ⟨Hc.1,l.2⟩ Hf (λy f=>⟨(Ha y (d y f).1).1,(d y f).2⟩) (λk p=>Vm ((Hh k p).alloc Hg _)) t).m λw' j=>?_;refine⟨?_,i.o.trans (j.mono i.o.size)⟩;have q:(b.any λy=>eP (w.alloc (dF r)) y r)=b.any λy=>eP w y r:=by
    have x:∀y∈b,eP (w.alloc (dF r)) y r=eP w y r:=λy f=>by grind[eP]
    rw[Bool.eq_iff_iff,List.any_eq_true,List.any_eq_true];constructor
    ·grind
    ·grind
   rw[q]
  ·have n:b=[]:=List.length_eq_zero_iff.1 (by omega);subst n;refine (Vl a c (w.alloc (dF r))).e ?_;exact⟨rfl,i⟩
 unfold dF at m;clear Hc Ha Hb He i d l;generalize (b.any λy=>eP w y r)=u at *
 go_enter func100,ntmps100
 go_wp2
 refine m.o.m λw' j=>?_
 go_wp2
 go_ret;exact⟨rfl,j⟩
theorem Gf{p:aj}(a:cr t.m (t.hs.map ae.pod)=true):cr t.m ((aV t p).2.map ae.pod)=true:=by
 unfold aV
 split
 ·exact a
 split
 ·exact a
 split
 ·exact a
 split
 ·exact a
 rename_i c
 split
 ·exact a
 split
 ·exact a
 have Ha:cr t.m (t.hs.map ae.pod++[p])=true:=by simpa using c
 have b:=(zt t.hs ⟨p,(aW t.m ((bi t.m t.ds t.hs).getD ⟨0,[],λ_=>false⟩) p).2⟩).map ae.pod;rw[Qj] at b;rw[<- Vd b];exact Ha
theorem Vn(h:eG t)(a:hs.Sublist t.hs)(c:cr t.m (t.hs.map ae.pod)=true):cr t.m (hs.map ae.pod)=true:=by
 obtain⟨_,a2,_⟩:=dm.1 h.held;refine Ve (a.map ae.pod) (λp b=>?_) c;obtain⟨x,d,rfl⟩:=Qk.1 b;exact (a2 x d).1
def gp (ds ds':List aq):Prop:=ds'.length=ds.length/\∀j,(aH ds' j).kind=(aH ds j).kind/\(aH ds' j).node=(aH ds j).node
theorem rh(ds:List aq):gp ds ds:=⟨rfl,λ_=>⟨rfl,rfl⟩⟩
theorem Gg{n:Nat}(h:n<ds.length)(b:Bool):gp ds (jK ds n b):=⟨rS ds n b,λj=>by
 grind[wN]⟩
theorem Gh(h:gp ds ds'):dV ds'=dV ds:=by
 unfold dV;rw[h.1]
 split
 ·rfl
 ·refine JS λk _=>?_
  unfold iS;rw[(h.2 k).1,(h.2 k).2]
theorem Vo(h:gp ds ds'):eL ds'=eL ds:=by
 funext m j
 unfold eL;rw[(h.2 _).1]
def ri (s:aC) (ds':List aq):aC:=⟨s.cp,ds',s.us⟩
theorem Vp(h:gp ds ds'){x:eE}(a:re ds x):re ds' x:=by
 obtain⟨d,e,b⟩:=a;refine⟨d,?_,λk c=>?_⟩
 ·grind[kY,Vo]
 ·rw[h.1];exact b k c
theorem Vq:∀ {l:List eE} {s a:aC},gp s.ds ds'->cU s l=some a->cU (ri s ds') l=some (ri a ds'):=by
 intro l
 induction l with
 | nil=>intro s a _ h;rw[cU] at h;injection h with h;rw[h];rfl
 | cons x r ih=>
  intro s a d h;rw[cU] at h ⊢;obtain⟨s1,c,f⟩:=Option.bind_eq_some_iff.1 h;obtain⟨b,a2,a3⟩:=kg.1 c;have e:eM (ri s ds') x.g x.own x.ns=some (ri s1 ds'):=kg.2 ⟨Vp d b,a2,by rw[a3];rfl⟩;rw[e,Option.bind_some];exact ih (by grind[Fj]) f
theorem zG{m:aJ}{s:aC}(a:gp ds ds')(h:bi m ds hs=some s):bi m ds' hs=some (ri s ds'):=by
 unfold bi at *;rw[Gh a]
 split at h
 ·rename_i hf
  rw[if_pos hf];rw[ou _ _ (lR),Qh] at *;exact Vq (s:=⟨m.op,ds,λ_=>false⟩) a h
 ·cases h
theorem Vr{t:aT}(h:eG t)(a:gp t.ds ds'):eG { t with ds:=ds' }:=by
 obtain⟨s,hs⟩:=h.left;exact⟨(Gh a).trans h.devs,h.held,_,zG a hs⟩
def tv (b:Bool):Int:=if b then 1 else 0
theorem Vs{k:ByteArray}:∀ {ns:List ak},(∀n∈ns,n.kind≠k)->(ns.map λn=>tv (decide (k=n.kind))).sum=0:=by
 intro ns
 induction ns with
 | nil=>intro _;rfl
 | cons n r ih=>
  intro h;have e:decide (k=n.kind)=false:=Q7 λe=>h n List.mem_cons_self e.symm
  rw[Qq,List.sum_cons,ih λx a=>h x (Qv _ a),e];rfl
theorem Vt{k:ByteArray}:∀ {ns:List ak},ns.Pairwise (λa b=>a.kind≠b.kind)->(∃n∈ns,n.kind=k)->(ns.map λn=>tv (decide (k=n.kind))).sum=1:=by
 intro ns
 induction ns with
 | nil=>intro _ h;obtain⟨n,j,_⟩:=h;cases j
 | cons n r ih=>
  intro g h;obtain⟨f,l⟩:=List.pairwise_cons.1 g;rw[Qq,List.sum_cons]
  by_cases e:n.kind=k
  ·rw[Vs λx i d=>f x i (e.trans d.symm),Qc e.symm];rfl
  ·have c:decide (k=n.kind)=false:=Q7 λx=>e x.symm
   rw[ih l (by
    grind),c]
   rfl
theorem Vu(ds:List aq)(k:ByteArray)(j:Int)(r:List Int):(eN ds k (j :: r):Int)=(eN ds k r:Nat)+tv (decide ((aH ds j.toNat).kind=k)):=by
 grind[eN,tv]
theorem Vv(ns:List ak)(f g:ak->Int):(ns.map λn=>f n+g n).sum=(ns.map f).sum+(ns.map g).sum:=by induction ns <;> grind
theorem Vw(c:ns.Pairwise λa b=>a.kind≠b.kind):∀ {l:List Int},(∀j∈l,∃n∈ns,n.kind=(aH ds j.toNat).kind)->(ns.map λn=>(eN ds n.kind l:Int)).sum=l.length:=by
 intro l
 induction l with
 | nil=>
  intro _
  have:∀ns:List ak,(ns.map λn=>(eN ds n.kind []:Int)).sum=0:=λns=>by
   induction ns with
   | nil=>rfl
   | cons n r ih=>rw[Qq,List.sum_cons,ih];rfl
  rw[this];rfl
 | cons j r ih=>
  intro h;have e:(ns.map λn=>(eN ds n.kind (j :: r):Int))=ns.map λn=>(eN ds n.kind r:Int)+tv (decide ((aH ds j.toNat).kind=n.kind)):=List.map_congr_left λn _=>Vu ds n.kind j r
  rw[e,Vv,ih λx d=>h x (Qv _ d),Vt c (h j List.mem_cons_self),Qg];omega
theorem Vx{l:List Int}(m:∀n∈ns,n.many≠0)(f:ns.Pairwise λa b=>a.kind≠b.kind)(h:kY ds l ns):(∀n∈ns,(eN ds n.kind l:Int)=n.many)/\(ns.map ak.many).sum=l.length:=by
 have g:=(Fo m).1 h;have k:∀n∈ns,(eN ds n.kind l:Int)=n.many:=λn d=>by
  have e:=g n.kind;have c:fO ns n.kind=some n.many:=Fp ns _ n d f;rw[c,Option.getD_some] at e;exact e.symm
 refine⟨k,?_⟩;rw[<- Vw (ds:=ds) f (l:=l) λj o=>Qt λi=>?_]
 ·simp_all[List.map_congr_left]
 ·have e:=g (aH ds j.toNat).kind;have c:fO ns (aH ds j.toNat).kind=none:=zi ns _ _ λn d e=>i ⟨n,d,e⟩
  rw[c] at e;have Ha:0<eN ds (aH ds j.toNat).kind l:=List.countP_pos_iff.2 ⟨j,o,by simp⟩;have p:(0:Int)=(eN ds (aH ds j.toNat).kind l:Nat):=e;omega
def Gi (ds:List aq) (ns:List ak) (l:List Int):Prop:=(∀n∈ns,(eN ds n.kind l:Int)=n.many)/\(ns.map ak.many).sum=l.length
theorem Vy(h:gp ds ds')(k:ByteArray){l:List Int}:eN ds' k l=eN ds k l:=by
 unfold eN
 congr 1
 funext j
 rw[(h.2 _).1]
theorem Vz(h:eG t)(c:gp ds t.ds):∀x∈t.hs,∀j,j<x.gs.length->Gi ds (af x.pod.cs j).ds (aG x.gs j).dv:=by
 obtain⟨s,hs⟩:=h.left;obtain⟨_,a2,_⟩:=dm.1 h.held;unfold bi at hs
 split at hs
 ·rw[ou _ _ (lR),Qh] at hs;intro x a j e;obtain⟨b1,b2,_⟩:=a2 x a;have Ha:(⟨aG x.gs j,bR x.pod.cs (af x.pod.cs j).am,(af x.pod.cs j).ds⟩:eE)∈kZ t.hs:=List.mem_flatMap.2 ⟨x,a,Qk.2 ⟨j,List.mem_range.2 e,rfl⟩⟩;obtain⟨_,Hb,_⟩:=UN hs _ Ha;have b:=rf b1 _ (mw (show j<x.pod.cs.length by omega))
  have:=Vx b.1 b.2 Hb
  refine⟨λn d=>?_,this.2⟩;rw[<- this.1 n d];exact congrArg (λz:Nat=>(z:Int)) (Vy c n.kind).symm
 ·cases hs
noncomputable def fa (m:aJ) (ds:List aq) (hs:List ae) (i k:Nat):aC:=((fP ⟨m.op,ds,λ_=>false⟩ hs i).bind λs=>gj s (ah hs i) k).getD ⟨0,[],λ_=>false⟩
structure Gj (ds:List aq) (s:aC) (g:aX) (own:Int) (s':aC):Prop where
 cp:g.cp &&& s.cp=g.cp
 cnt:(az g.cp:Int)=own
 dv:∀j,j<g.dv.length->(0<=bx g.dv j/\bx g.dv j<ds.length/\bx g.dv j ∉ g.dv.take j)/\s.us (bx g.dv j).toNat=false
 next:s'=⟨aI s.cp g.cp,ds,cM s.us g.dv⟩
theorem Gk{s:aC}{hs:List ae}:∀ {n:Nat} {a:aC},fP s hs n=some a->∀i,i<=n->∃x,fP s hs i=some x:=by
 intro n
 induction n with
 | zero=>intro a h i hi;exact⟨a,by grind⟩
 | succ n ih=>
  intro a h i hi
  by_cases e:i=n+1
  ·grind
  ·rw[fP] at h;obtain⟨x,b,_⟩:=Option.bind_eq_some_iff.1 h;exact ih b i (by omega)
theorem VB{s:aC}{x:ae}:∀ {n:Nat} {a:aC},gj s x n=some a->∀i,i<=n->∃y,gj s x i=some y:=by
 intro n
 induction n with
 | zero=>intro a h i hi;exact⟨a,by grind⟩
 | succ n ih=>
  intro a h i hi
  by_cases e:i=n+1
  ·grind
  ·rw[gj] at h;obtain⟨x,b,_⟩:=Option.bind_eq_some_iff.1 h;exact ih b i (by omega)
theorem Gl(m:aJ)(ds:List aq)(hs:List ae)(i:Nat):fa m ds hs (i+1) 0=fa m ds hs i (ah hs i).gs.length:=by
 simp[fa,fP,gj]
section
variable{m:aJ}{ds:List aq}{hs:List ae}{s:aC}
theorem zH(h:bi m ds hs=some s):fP ⟨m.op,ds,λ_=>false⟩ hs hs.length=some s:=by
 grind[bi]
theorem VC(h:bi m ds hs=some s):fa m ds hs hs.length 0=s:=by
 unfold fa;rw[zH h];rfl
theorem Gm(h:bi m ds hs=some s){i:Nat}(hi:i<hs.length){k:Nat}(l:k<=(ah hs i).gs.length):∃a,fP ⟨m.op,ds,λ_=>false⟩ hs i=some a/\a.ds=ds/\gj a (ah hs i) k=some (fa m ds hs i k)/\(fa m ds hs i k).ds=ds:=by
 obtain⟨a,d⟩:=Gk (zH h) i (by omega);have Ha:=d;obtain⟨b,g⟩:=Gk (zH h) (i+1) (by omega);rw[fP,d,Option.bind_some] at g;obtain⟨c,f⟩:=VB g k l;have e:fa m ds hs i k=c:=by grind[fa]
 have j:a.ds=ds:=by
  rw[ou hs i (by omega)] at d;exact zm d
 refine⟨a,by first|exact Ha|rfl,j,by rw[e];exact f,?_⟩;rw[e];rw[Fk] at f;rw[zm f,j]
theorem Gn(h:bi m ds hs=some s){i:Nat}(hi:i<hs.length){k:Nat}(d:k<(ah hs i).gs.length):Gj ds (fa m ds hs i k) (aG (ah hs i).gs k) (bR (ah hs i).pod.cs (af (ah hs i).pod.cs k).am) (fa m ds hs i (k+1)):=by
 obtain⟨a,n,_,g,c⟩:=Gm h hi (Nat.le_of_lt d);obtain⟨p,Ha,_,b,_⟩:=Gm h hi d;rw[n] at Ha;injection Ha with Ha
 subst Ha;rw[gj,g,Option.bind_some] at b;obtain⟨b1,b2,l⟩:=(kg (x:=⟨aG (ah hs i).gs k,bR (ah hs i).pod.cs (af (ah hs i).pod.cs k).am,(af (ah hs i).pod.cs k).ds⟩)).1 b;obtain⟨c1,_,c3⟩:=b1;obtain⟨f,o⟩:=b2;rw[c] at c3;refine⟨f,c1,λj e=>⟨c3 j e,o j e⟩,?_⟩;rw[l];unfold gM;rw[c]
end
theorem Gp(h:k<hs.length):bE ((hs.take (k+1)).map ae.pod)=bE ((hs.take k).map ae.pod)+de (ah hs k).pod.cs (ah hs k).pod.cs.length:=by
 grind[bE,Qa,ah]
theorem Gq(h:k<hs.length):ci ((hs.take (k+1)).map ae.pod)=ci ((hs.take k).map ae.pod)+cV (ah hs k).pod.cs (ah hs k).pod.cs.length:=by
 grind[ci,Qa,ah]
theorem VD(h:∀x∈hs,br x.pod=0):∀k,k<=hs.length->(0<=bE ((hs.take k).map ae.pod)/\bE ((hs.take k).map ae.pod)<=3000000*k)/\0<=ci ((hs.take k).map ae.pod)/\ci ((hs.take k).map ae.pod)<=3377699720527872*k:=by
 intro k
 induction k with
 | zero=>intro _;exact⟨⟨by simp[bE],by simp[bE]⟩,by simp[ci],by simp[ci]⟩
 | succ k ih=>
  intro a;have d:=ih (by omega);have b:=ny (h (ah hs k) (nF a));have e:=qr b (lR);have c:=oY b (lR);rw[Gp a,Gq a];omega
theorem VE(h:∀n∈ns,0<=n.many):∀k,k<=ns.length->0<=((ns.take k).map ak.many).sum/\((ns.take k).map ak.many).sum<=(ns.map ak.many).sum:=by
 intro k g;have key:∀l:List ak,(∀n∈l,0<=n.many)->0<=(l.map ak.many).sum:=by
  intro l
  induction l with
  | nil=>intro _;exact Int.le_refl _
  | cons a l ih=>
   intro h;have c:=ih λx d=>h x (Qv _ d)
   have f:=h a List.mem_cons_self;rw[Qq,List.sum_cons];omega
 have e:(ns.map ak.many).sum=((ns.take k).map ak.many).sum+((ns.drop k).map ak.many).sum:=by
  grind[List.take_append_drop]
 have c:=key (ns.take k) λn b=>h n (List.mem_of_mem_take b)
 have f:=key (ns.drop k) λn b=>h n (List.mem_of_mem_drop b)
 omega
theorem Gr{a b:ByteArray}(h:a≠b):(a.toList == b.toList)=false:=by
 grind[Qs,ByteArray.ext,Array.toList_inj]
theorem Gs(h:bB w x):xz w x.da (bj w x)/\(bj w x).length=x.dn:=by
 have d:(bj w x).length=x.dn:=by simp[bj]
 refine⟨λf=>?_,d⟩;obtain⟨g,o,c,e,b⟩:=h (by omega);refine⟨g,o,c,e,λk i=>?_⟩;have a:k<x.dn:=by omega
 rw[b k a]
 simp[bj,a]
theorem VF{x y:RV}{w:World}(p:bB w x)(u:bB w y)(N:x.dn<=1000)(K:y.dn<=1000) :
  Calls pg 46 #[.agg #[x.pod,x.cont,.int .u64 x.cpus,.slice x.da x.dn x.dc],.agg #[y.pod,y.cont,.int .u64 y.cpus,.slice y.da y.dn y.dc]] w (uF (aN w x=aN w y) w):=by
 obtain⟨J,Hl⟩:∃o:Obj,o=.cells #[x.pod,x.cont,.int .u64 x.cpus,.slice x.da x.dn x.dc] 129:=⟨_,rfl⟩;obtain⟨M,Hj⟩:∃o:Obj,o=.cells #[y.pod,y.cont,.int .u64 y.cpus,.slice y.da y.dn y.dc] 129:=⟨_,rfl⟩;have Hh:=(Q0 w w).alloc (lR) J;have Hc:=Hh.alloc Hh.size M;obtain⟨D,B⟩:=p.below Hc λ_ _ _ h=>h;obtain⟨q,s⟩:=u.below Hc λ_ _ _ h=>h;obtain⟨t,A⟩:=Gs D;obtain⟨r,v⟩:=Gs q;have Hi:=Co x.dc y.dc (by grind[maxLen]) (by grind[maxLen]) t r;rw[A,v,B,s] at Hi;have Hf:=qI Hc;have He:=qI Hi;have Hg:Hu (aN w x=aN w y->x.pod=y.pod/\x.cont=y.cont/\x.cpus=y.cpus/\bj w x=bj w y):=λe=>by
  grind[aN]
 subst Hl Hj;clear Hh Hc D B q s t A r v Hi p u N K;generalize aN w x=z at *;generalize aN w y=C at *;generalize bj w x=T at *;generalize bj w y=S at *;obtain⟨F,I,n,Q,U,P⟩:=x;obtain⟨L,H,E,O,V,R⟩:=y;dsimp only at *;have g:∀(c:Bool) (d:World),Bw w d->(¬ z=C\/c=true)->uF (z=C) w (.returned (.bool c)) d:=λc d G h=>⟨c,rfl,λe=>h.elim (λk=>absurd e k) id,G⟩
 have a:=qI g;clear g
 by_cases l:F=L
 ·subst l
  by_cases m:I=H
  ·subst m
   by_cases j:n=E
   ·subst j
    go_enter func46,ntmps46
    go_wp2
    refine He.o.mono ?_;rintro e d ⟨b,rfl,Hb,f,rfl⟩;have Ha:=qI (below_drewN Hf f);have Hk:=qI Hb;clear Hb
    rcases two b with rfl|rfl
    ·go_wp2
     go_ret;exact a.o _ _ Ha (.inr rfl)
    ·go_wp2
     go_ret;exact a.o _ _ Ha (.inl λe=>by cases Hk.o (Hg.o e).2.2.2)
   ·have i:=qI j;have Hm:(n == E)=false:=by simpa using j
    clear j
    go_enter func46,ntmps46
    go_wp2
    refine He.o.mono ?_;rintro e d ⟨b,rfl,Hb,f,rfl⟩;have Ha:=qI (below_drewN Hf f);clear Hb
    go_wp2
    go_ret;exact a.o _ _ Ha (.inl λe=>i.o ((Hg.o e).2.2.1))
  ·have i:=qI m;have Hc:=Gr m;clear m
   go_enter func46,ntmps46
   go_wp2
   refine He.o.mono ?_;rintro e d ⟨b,rfl,Hb,f,rfl⟩;have Ha:=qI (below_drewN Hf f);clear Hb
   go_wp2
   go_ret;exact a.o _ _ Ha (.inl λe=>i.o ((Hg.o e).2.1))
 ·have i:=qI l;have Hh:=Gr l;clear l
  go_enter func46,ntmps46
  go_wp2
  refine He.o.mono ?_;rintro e d ⟨b,rfl,Hb,f,rfl⟩;have Ha:=qI (below_drewN Hf f);clear Hb
  go_wp2
  go_ret;exact a.o _ _ Ha (.inl λe=>i.o ((Hg.o e).1))
theorem Gt{d:List RV}{p c:ByteArray}:(d.any λy=>decide (y.pod=p/\y.cont=c))=true↔∃a∈d.map (aN W),mP a=(p,c):=by
 rw[List.any_eq_true];constructor
 ·rintro⟨y,b,h⟩;obtain⟨f,i⟩:=of_decide_eq_true h;exact⟨aN W y,Qk.2 ⟨y,b,rfl⟩,by show (y.pod,y.cont)=(p,c);rw[f,i]⟩
 ·rintro⟨a,g,h⟩;obtain⟨y,b,rfl⟩:=Qk.1 g;have j:y.pod=p:=congrArg Prod.fst h;have e:y.cont=c:=congrArg Prod.snd h;exact⟨y,b,Qc ⟨j,e⟩⟩
theorem jP.blockO{w':World}(h:jP w g k x)(m:w'.heap[g]?=w.heap[g]?):jP w' g k x:=by
 obtain⟨⟨a,b,c,d⟩,e,f,n,i⟩:=h;have cc:∀j,w'.cell? ⟨g,j,none⟩=w.cell? ⟨g,j,none⟩:=λj=>World.cell?_of_block (a:=⟨g,j,none⟩) m
 have l:∀j,w'.frozen? ⟨g,j,none⟩=w.frozen? ⟨g,j,none⟩:=λj=>by simp[World.frozen?,m]
 exact⟨⟨by rw[cc];exact a,by rw[cc];exact b,by rw[cc];exact c,by rw[cc];exact d⟩,by rw[l];exact e,by rw[l];exact f,by rw[l];exact n,by rw[l];exact i⟩
theorem pR(h:mo base W v ys)(o:∀j,base<=j->j<W.heap.size->W'.heap[j]?=W.heap[j]?)(hs:W<=W'.heap.size):mo base W' v ys:=by
 obtain⟨a,c,f,Ha,n⟩:=h;refine⟨a,c,f,Ha,λl=>?_⟩;obtain⟨g,m,e,d,i⟩:=n l;exact⟨g,m,e,Q1 d hs,λk b=>(i k b).blockO (o g e d)⟩
theorem Gu(h:dq base w v ys):mo base w v ys:=by
 have f:=h
 rcases h.2 with⟨c,d⟩|⟨g,b,e,c,l,Ha,Hb,Hc,_⟩
 ·exact⟨none,0,by rw[c,d],by omega,λn=>by omega⟩
 ·subst c;refine⟨_,b,rfl,Hb,λ_=>⟨g,rfl,l,(gS Ha).1,λk i=>?_⟩⟩;have a:∀j,w.frozen? ⟨g,j,none⟩=false:=λj=>by simp[World.frozen?,Ha]
  have cc:∀j,j<4->w.cell? ⟨g,k*4+j,none⟩=(RV.cells (rv ys k))[j]?:=λj m=>by
   rw[World.ownsRow.cellAt f (k*4+j) (by omega)];exact BN ys k i j m
  exact⟨⟨cc 0 (by decide),cc 1 (by decide),cc 2 (by decide),cc 3 (by decide)⟩,a _,a _,a _,a _⟩
theorem Gv(h:bB W y)(hf:∀g o,0<y.dn->y.da=some ⟨g,o,none⟩->W'.heap[g]?=W.heap[g]?)(hs:W<=W'.heap.size):bB W' y/\bj W' y=bj W y:=by
 by_cases a:0<y.dn
 ·grind[rZ]
 ·refine⟨λb=>absurd b a,?_⟩
  have:y.dn=0:=by omega
  simp[bj,this]
abbrev gq (Bd Bm:Nat):Nat->Prop:=λb=>b=Bd\/b=Bm
theorem VH(h:bL Bd Bm W W'):aR (av (gq Bd Bm) W) (av (gq Bd Bm) W'):=by grind[bF,h.block,h.size]
theorem zed{z:RV × Rn}(h:lW (av (gq Bd Bm) w) z)(f:bL Bd Bm w W):bB W z.1/\aN W z.1=z.2/\nB Bd z.1/\z.1.dn=z.2.devs.length:=by
 obtain⟨m,r,l,k⟩:=h;have c:=k.le (VH f);obtain⟨a,q,j⟩:=zD (c.le (df));refine⟨a,?_,?_,j⟩
 ·simp_all[aN]
 ·intro b g o i e;obtain⟨a,_,_⟩:=zD c;obtain⟨n,p,Ha,_,d⟩:=a b;rw[i] at Ha;injection Ha with Ha
  injection Ha with e1 e2
  subst e1;exact eB (d 0 b) (.inl e)
theorem Gw:(ys.any λy=>eP W y r)=true↔aN W r∈ys.map (aN W):=by
 grind[Vi]
open Classical in
noncomputable def eQ (rs ws:List Rn):Nat:=(ws.filter λr=>decide (r ∉ rs)).length
theorem vM(rs ws:List Rn):eQ rs ws<=ws.length:=List.length_filter_le _ _
theorem VI{rs ws:List Rn}(h:k<ws.length):eQ rs (ws.take k)<=eQ rs (ws.take (k+1))/\(ws[k] ∉ rs->eQ rs (ws.take (k+1))=eQ rs (ws.take k)+1):=by
 unfold eQ;rw[Qa h,List.filter_append,Q2];refine⟨Nat.le_add_right _ _,λa=>?_⟩
 simp[a]
