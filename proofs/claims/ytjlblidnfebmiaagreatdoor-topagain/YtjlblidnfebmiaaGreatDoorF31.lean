import Derived.Test.YtjlblidnfebmiaaGreatDoorF30
import Derived.Test.YtjlblidnfebmiaaGreatDoorF21
import Derived.Test.YtjlblidnfebmiaaGreatDoorF24
set_option maxRecDepth 100000
set_option maxHeartbeats 16000000
open Go Go.RowKit Go.Shelf
attribute [local go_sem] Oper.semAt_some
open Go.Proofs.Tryz
namespace Go.Proofs.YtjlblidnfebmiaaGreatDoor
variable{W W' w w':World}{base c cap g n:Nat}{l:List aK}
theorem Ug(A:Nat)(l:List ah)(x:Nat):∀k,cf A l (x:Int) k=((List.range k).filter λi=>A.testBit i && decide ((l.getD i av).node=(x:Int))).length:=by
 intro k
 induction k with
 | zero=>rfl
 | succ k ih=>
  rw[List.range_succ,List.filter_append,Q2,<- ih,cf]
  by_cases h:(A.testBit k && decide ((l.getD k av).node=(x:Int)))=true
  ·rw[if_pos h,List.filter_cons_of_pos (p:=λi=>A.testBit i && decide ((l.getD i av).node=(x:Int))) h];rfl
  ·rw[if_neg h,List.filter_cons_of_neg (p:=λi=>A.testBit i && decide ((l.getD i av).node=(x:Int))) h];rfl
theorem EL(A:Nat)(l:List ah):oS A l l.length=v4 (cA A l):=by grind[cf,nU,Ug,oS,cA]
theorem ur(A:Nat)(l:List ah)(x:Nat):nU A l x<=l.length:=by
 unfold nU;exact Q5 (List.length_filter_le _ _) (by simp)
theorem EM{a b c d:Nat}(e:a<=64)(f:b<=64)(g:c<=64)(hd:d<=64):kw ⟨a,b,c,d⟩:=by
 intro k
 match k with
 | 0=>show -1000000<=(a:Int)/\(a:Int)<=1000000;omega
 | 1=>show -1000000<=(b:Int)/\(b:Int)<=1000000;omega
 | 2=>show -1000000<=(c:Int)/\(c:Int)<=1000000;omega
 | k+3=>show -1000000<=(d:Int)/\(d:Int)<=1000000;omega
theorem EN(A:Nat){l:List ah}(h:l.length<=64):kw (cA A l):=
 EM (Q5 (ur A l 0) h) (Q5 (ur A l 1) h) (Q5 (ur A l 2) h) (Q5 (ur A l 3) h)
theorem ut(p:Nat->Bool)(ds:List ak)(x:Nat):∀k,bj p ds x k<=k:=by grind[bj,bU]
theorem EO(p:Nat->Bool){ds:List ak}(h:ds.length<=16):kw (lD p ds):=
 EM (Q5 (ut _ _ _ _) (by omega)) (Q5 (ut _ _ _ _) (by omega)) (Q5 (ut _ _ _ _) (by omega)) (Q5 (ut _ _ _ _) (by omega))
theorem Uh{v:Value}(h:ci w v l):∃a c,v=.slice a l.length c:=by cases h <;> grind
theorem EP(free all:bZ)(aq:Nat)(many:Int)(w:World)(i:aq<256)(hf:kw free)(g:kw all) :
  Calls prog 166 #[v4 free,v4 all,.int .u8 aq,many] w λe w'=>∃a c,e=.returned (.agg #[.bool (dC free all aq many).any,.slice a (dC free all aq many).hs.length c])/\ci w' (.slice a (dC free all aq many).hs.length c) (dC free all aq many).hs/\(∀b o,a=some ⟨b,o,none⟩->w.heap.size<=b)/\Below w w w':=by
 unfold dC
 by_cases h:many<=0
 ·rw[if_pos h];refine (IB free all aq many w h).mono ?_;rintro e w' ⟨rfl,d⟩;exact⟨none,0,rfl,.inl ⟨rfl,none,0,rfl⟩,(λ_ _ h=>nomatch h),d⟩
 ·rw[if_neg h];refine (Uf free all aq many w (by omega) i hf g).mono ?_;rintro e w' ⟨v,rfl,f,Ha,d⟩;obtain⟨a,c,rfl⟩:=Uh f;exact⟨a,c,rfl,f,λb o h=>Ha b o _ _ (by rw[h]),d⟩
theorem EQ(free all:bZ)(aq:Nat)(many:Int):mf (dC free all aq many).hs/\(dC free all aq many).hs.length<=16:=by
 unfold dC
 by_cases h:many<=0
 ·rw[if_pos h];exact⟨λx a=>(List.not_mem_nil a).elim,Nat.zero_le _⟩
 ·rw[if_neg h];refine⟨λx a=>?_,GX _ _ _ _⟩;obtain⟨m,g⟩:=x
  have:=GV a
  exact Nat.lt_trans this.2.1 (by decide)
theorem Ui(m:aL)(s:aE)(own:Int)(ns:List ap):vx (dJ m s own ns):=by
 intro y a;unfold dJ at a
 rcases List.mem_cons.1 a with rfl|a
 ·exact EQ _ _ _ _
 ·obtain⟨n,_,rfl⟩:=Qk.1 a;exact EQ _ _ _ _
theorem Uj(m:aL)(s:aE)(own:Int)(ns:List ap):(dJ m s own ns).length=ns.length+1:=by
 unfold dJ;simp
theorem Uk(m:aL)(s:aE)(own:Int)(ns:List ap)(v:Value)(w:World)(b:jp w v (dJ m s own ns))(h:ns.length<=3)(d:1<=m.nd/\m.nd<=15)(g:0<=m.pol/\m.pol<=3) :
  Calls prog 130 #[(m.pol:Int),.int .u8 m.nd,v] w λe w'=>e=.returned (.tuple #[vH (fj m (dJ m s own ns)).1,.bool (fj m (dJ m s own ns)).2,.nilIface])/\Below w w w':=by
 unfold fj;have Ha:=Uj m s own ns
 by_cases a:m.pol=0
 ·rw[if_pos a,a];obtain⟨f,c,rfl,_⟩:=b.form;exact IX m.nd f _ c w d (by omega)
 ·rw[if_neg a];exact IY m.pol m.nd v (dJ m s own ns) w b (Ui m s own ns) (by omega) d (by omega)
theorem ci.le{v:Value}(h:ci W v l)(k:aZ W W'):ci W' v l:=by
 rcases h with h|⟨b,o,c,f,a,e⟩
 ·exact .inl h
 ·exact .inr ⟨b,o,c,f,Q1 a k.size,λj d=>⟨k.cell _ _ _ (e j d).1,k.cell _ _ _ (e j d).2⟩⟩
theorem Ul{f:Option Addr}(h:ci W (.slice f n c) l)(i:∀b o,f=some ⟨b,o,none⟩->b≠g):ci (au (λb=>b=g) W) (.slice f n c) l:=by
 rcases h with h|⟨b,o,m,d,Ha,r⟩
 ·exact .inl h
 ·refine .inr ⟨b,o,m,d,by rw[bX];exact Ha,λj q=>?_⟩;injection d with d
  have p:=i b o d;have e:∀k,(au (λb=>b=g) W).cell? ⟨b,k,none⟩=W.cell? ⟨b,k,none⟩:=λk=>World.cell?_of_block (a:=⟨b,k,none⟩) (b9 p)
  rw[e,e];exact r j q
def im (x:cL × Value):List Value:=[.bool x.1.any,x.2]
def wl (m:aL) (s:aE) (own:Int) (ns:List ap) (k:Nat):List cL:=dJ m s own (ns.take k)
theorem Um(m:aL)(s:aE)(own:Int){ns:List ap}{k:Nat}(h:k<ns.length):wl m s own ns (k+1)=wl m s own ns k++[dC (lD (bC s.ds s.us (aq ns k).kind) s.ds) (lD (cR s.ds (aq ns k).kind) s.ds) m.nd (aq ns k).many]:=by grind[wl,dJ,aq,Qa,Qj]
theorem Un:(prog.info? 279).map (λi=>(i.zero,i.size,i.bytes))=some (some (.agg #[false,.slice none 0 0]),2,32):=by kernel_rfl
theorem Uo(w:World)(x:cL × Value)(t:TypeId):∀j u,(im x)[j]?=some u->(w.alloc (.cells #[x.1.any,x.2] t)).cell? ((w.heap.size:Addr).add j)=some u:=by simp_all[Addr.add_lit,im]
theorem Up(y:cL)(a:Option Addr)(n c:Nat):∀u∈im (y,.slice a n c),u.oneCell'=true:=by
 intro u b
 simp[im] at b
 rcases b with rfl|rfl <;> rfl
theorem Uq{e:TypeId}{sz:Nat}{b:List Value}(h:W.ownsRow base e sz (.slice g n cap) n b)(j:W'.heap[g]?=W.heap[g]?):W'.ownsRow base e sz (.slice g n cap) n b:=by
 obtain⟨c,f|⟨l,c2,a,k,r1,d,i⟩⟩:=h
 ·exact⟨c,.inl f⟩
 ·injection k with e1 e2 e3
  injection e1 with e1
  injection e1 with e1
  subst e1;exact⟨c,.inr ⟨g,c2,a,by rw[e3],r1,j.trans d,i⟩⟩
theorem Ur{l:List (cL × Value)}(h:W.ownsRow base 279 2 (.slice g l.length cap) l.length (l.flatMap im))(i:∀x∈l,ci W x.2 x.1.hs):jp W (.slice g l.length cap) (l.map Prod.fst):=by
 refine .inr ⟨g,0,cap,by rw[Q9],(h.lt g rfl).2,λk b=>?_⟩;rw[Q9] at b;have e:(l.map Prod.fst).getD k gu=l[k].1:=by simp[b]
 have key:∀(l:List (cL × Value)) (k:Nat) (b:k<l.length) (j:Nat),j<2->(l.flatMap im)[k*2+j]?=(im l[k])[j]?:=by
  intro l
  induction l with
  | nil=>intro k b;simp at b
  | cons a l ih=>
   intro k b j f;rw[List.flatMap_cons];cases k with
   | zero=>rw[List.getElem?_append_left (by simp[im];omega)];simp
   | succ k=>
    rw[List.getElem?_append_right (by simp[im];omega)]
    have:=ih k (by simpa using b) j f
    simp only[List.getElem_cons_succ];rw[<- this]
    congr 1
    simp[im]
    omega
 have c:=key l k b 0 (by decide);have d:=key l k b 1 (by decide);rw[e,Qd];refine⟨?_,l[k].2,?_,i _ (List.getElem_mem b)⟩
 ·rw[h.cellAt (k*2) (by omega)];exact c
 ·rw[h.cellAt (k*2+1) (by omega)];exact d
structure dZ (w:World) (tb b o c:Nat) (m:aL):Prop where
 topo:bG w tb b o c m.l
 good:Good m.l
 op:m.op<18446744073709551616
 nd:1<=m.nd/\m.nd<=15
 pol:0<=m.pol/\m.pol<=3
theorem dZ.below{a b o:Nat}{m:aL}(h:dZ w a b o c m)(d:Below w w w'):dZ w' a b o c m:=⟨h.topo.below d,h.good,h.op,h.nd,h.pol⟩
structure ek (w:World) (pb db:Nat) (ao:Option Addr) (c:Nat) (s:aE):Prop where
 pool:aF w pb db ao c s.ds s.us
 nodes:eE s.ds
 cp:s.cp<18446744073709551616
theorem ek.below{a db:Nat}{b:Option Addr}{s:aE}(h:ek w a db b c s)(d:Below w w w'):ek w' a db b c s:=⟨h.pool.below d,h.nodes,h.cp⟩
def mV (m:aL) (tb:Nat):Value:=.agg #[tb,.int .u64 m.op,.int .u8 m.nd,(m.nb:Int),(m.pol:Int)]
def sV (s:aE) (pb:Nat):Value:=.agg #[.int .u64 s.cp,pb]
abbrev lT:=λ(x0:Nat) (x1:aL)=>(.cells #[x0,.int .u64 x1.op,.int .u8 x1.nd,(x1.nb:Int),(x1.pol:Int)] 84:Obj)
abbrev kZ:=λ(x0 x1 x2 x3:Int)=>(.cells #[x0,x1,x2,x3] 202:Obj)
abbrev lU:=λ(x0:aE) (x1:Nat)=>(.cells #[.int .u64 x0.cp,x1] 87:Obj)
abbrev m6:=λ(x0:ap)=>(.cells #[x0.kind,(x0.many:Int)] 127:Obj)
abbrev ER:=λ(B tb:Nat) (m:aL) (s:aE) (w':World)=>cl w' B (0) tb/\cl w' B (1) (.int .u64 m.op)/\cl w' B (2) (.int .u8 m.nd)/\cl w' (B+1) (0) (.int .u64 s.cp)
theorem ES(m:aL)(s:aE)(a b o c f db:Nat)(ao:Option Addr)(pc:Nat)(own:Int)(v:Value)(ns:List ap)(w:World)(hm:dZ w a b o c m)(hs:ek w f db ao pc s)(hv:bv w v ns)(hl:ns.length<=100) :
  Calls prog 131 #[mV m a,sV s f,own,v] w λe w'=>∃v',e=.returned v'/\jp w' v' (dJ m s own ns)/\Below w w w':=by
 obtain⟨i0,hi,hA,hq,hp⟩:=info_parts Un;unfold mV sV;have H:=qI hm;have Hq:=qI hs;obtain⟨na,nc,rfl,hr,HX⟩:=hv;unfold maxLen at hr;have H9:=qI HX;have hI:=hm.nd;have sz:((w.alloc (lT a m)).alloc (lU s f)).heap.size=w.heap.size+2:=by simp
 have HW:=qI (bd (w.alloc (lT a m)) (lU s f) (n:=w.heap.size+1) (by simp));have Z:=qI (cC (bd w (lT a m) rfl) (lU s f));have hh:=qI (((Q0 w w).alloc (lR) (lT a m)).alloc (by simp) (lU s f));have q0:((w.alloc (lT a m)).alloc (lU s f)).cell? w.heap.size=some (.pointer (some ⟨a,0,none⟩)):=ad Z.o 0;have q1:((w.alloc (lT a m)).alloc (lU s f)).cell? ⟨w,1,none⟩=some (.int .u64 m.op):=ad Z.o 1;have q2:((w.alloc (lT a m)).alloc (lU s f)).cell? ⟨w,2,none⟩=some (.int .u8 m.nd):=ad Z.o 2;have q3:((w.alloc (lT a m)).alloc (lU s f)).cell? (w.heap.size+1:Nat)=some (.int .u64 s.cp):=ad HW.o 0;clear hm hs HX
 go_enter func131,ntmps131
 go_wp2_with fail
 generalize ((w.alloc (lT a m)).alloc (lU s f))=U at *;generalize hB:w.heap.size=B at *;have V:=qI (And.intro q0 (And.intro q1 (And.intro q2 q3)));have R:Hu (Below U U U.drew):=bB (Q0 _ _);clear q0 q1 q2 q3;have Hl:Hu (∀W,Below U U W->(ER B a m s) W):=λW d=>⟨(d.cell (p:=B) (by show B<_;omega)).trans V.o.1,(d.cell (p:=⟨B,1,none⟩) (by show B<_;omega)).trans V.o.2.1,(d.cell (p:=⟨B,2,none⟩) (by show B<_;omega)).trans V.o.2.2.1,(d.cell (p:=⟨B+1,0,none⟩) (by show B+1<_;omega)).trans V.o.2.2.2⟩
 have Hn:Hu (∀W,Below U U W->Below w w W):=λW d=>(show Below w w U from hB ▸ hh.o).trans (d.mono (by omega))
 refine wp_region_held_drew (S:=ER B a m s) (by kernel_rfl) (Hl.o _ R.o) λP=>?_;refine tk 0 ?_;refine tk 1 ?_;refine tk 2 ?_;refine tk 3 ?_;refine tk 5 ?_;refine tk 6 ?_;refine tk 7 ?_;refine tk 8 ?_;refine tk 10 ?_;refine tk 11 ?_;refine tk 12 ?_;refine rd 4 λK q=>?_;go_simp
 go_wp2_with fail
 have Y:=vi s.cp a b o c m.l _ (H.o.below (Hn.o _ R.o)).topo Hq.o.cp H.o.good;rw[EL] at Y;refine Y.mono ?_;rintro e W1 ⟨rfl,HV⟩;have Hv:=qI (R.o.trans (HV.mono (lR)));clear Y HV
 go_wp2_with fail
 refine q.o _ _ (Hl.o _ Hv.o) λP=>?_;clear q K;refine rd 9 λK q=>?_;go_simp
 go_wp2_with fail
 have HK:=vi m.op a b o c m.l _ (H.o.below (Hn.o _ Hv.o)).topo H.o.op H.o.good;rw[EL] at HK;refine HK.mono ?_;rintro e A ⟨rfl,Hi⟩;have Hc:=qI (Hv.o.trans (Hi.mono Hv.o.size));clear HK Hi
 go_wp2_with fail
 refine q.o _ _ (Hl.o _ Hc.o) λP=>?_;clear q K;refine rd 13 λK q=>?_;go_simp
 go_wp2_with fail
 refine (EP (cA s.cp m.l) (cA m.op m.l) m.nd own _ (by omega) (EN _ H.o.topo.len) (EN _ H.o.topo.len)).mono ?_;rintro e u ⟨G,D,rfl,H8,hw,HP⟩;have Hb:=qI (Hc.o.trans (HP.mono Hc.o.size));have HY:=qI H8;clear HP H8 hw
 go_wp2_with fail
 refine q.o _ _ (Hl.o _ Hb.o) λP=>?_;clear q K;have Hm:=qI (Hb.o.alloc Hb.o.size (.cells #[.bool (dC (cA s.cp m.l) (cA m.op m.l) m.nd own).any,.slice G (dC (cA s.cp m.l) (cA m.op m.l) m.nd own).hs.length D] 279));refine rd 14 λK q=>?_;go_simp
 go_wp2_with fail
 refine q.o _ _ (Hl.o _ Hm.o) λP=>?_;clear q K;refine tk 15 ?_;refine Qn (by kernel_rfl) ?_ _;clear P;have hg:=Hb.o.size;have Hj:=qI (show (u.alloc (.cells #[.bool (dC (cA s.cp m.l) (cA m.op m.l) m.nd own).any,.slice G (dC (cA s.cp m.l) (cA m.op m.l) m.nd own).hs.length D] 279)).ownsRow U 279 2 (.slice u 1 1) 1 (im ((dC (cA s.cp m.l) (cA m.op m.l) m.nd own),.slice G (dC (cA s.cp m.l) (cA m.op m.l) m.nd own).hs.length D)) from World.ownsRow_lit u #[.bool (dC (cA s.cp m.l) (cA m.op m.l) m.nd own).any,.slice G (dC (cA s.cp m.l) (cA m.op m.l) m.nd own).hs.length D] 1 Hb.o.size (by unfold maxLen;omega) rfl);have Hy:Hu (ci (au (λb=>b=u.heap.size) (u.alloc (.cells #[.bool (dC (cA s.cp m.l) (cA m.op m.l) m.nd own).any,.slice G (dC (cA s.cp m.l) (cA m.op m.l) m.nd own).hs.length D] 279))) (.slice G (dC (cA s.cp m.l) (cA m.op m.l) m.nd own).hs.length D) (dC (cA s.cp m.l) (cA m.op m.l) m.nd own).hs):=HY.o.le (mK (N:=u.heap.size) ((Q0 _ _).alloc (lR) _) rfl (λj F=>by omega));have hf:Hu (wl m s own ns 0=[(dC (cA s.cp m.l) (cA m.op m.l) m.nd own)]):=by unfold Hu wl dJ;simp
 generalize hWA:u.alloc (.cells #[.bool (dC (cA s.cp m.l) (cA m.op m.l) m.nd own).any,.slice G (dC (cA s.cp m.l) (cA m.op m.l) m.nd own).hs.length D] 279)=WA at *;generalize hx0:(dC (cA s.cp m.l) (cA m.op m.l) m.nd own)=x0 at *;generalize hg0:u.heap.size=g0 at *;clear hWA hx0
 go_wp2
 go_loopw [9,31] (λpv i wr=>∃(k g r:Nat) (l:List (cL × Value)),k<=ns.length/\i=.int .i64 k/\pv=.slice g l.length r/\l.length=k+1/\l.map Prod.fst=wl m s own ns k/\wr.ownsRow U 279 2 (.slice g l.length r) l.length (l.flatMap im)/\(∀x∈l,ci (au (λb=>b=g) wr) x.2 x.1.hs)/\Below U U wr) (λ_ i _=>ns.length - (intOf i).toNat)
 case atStart=>exact⟨0,g0,1,[(x0,.slice G x0.hs.length D)],by omega,rfl,rfl,rfl,by rw[hf.o];rfl,Hj.o,λx hx=>by rw[Qm.1 hx];exact Hy.o,Hm.o⟩
 case round=>
  obtain⟨k,g,r,l,hk,rfl,rfl,HT,H3,Hk,H7,d⟩:=hrel;clear Hv Hc Hb Hm Hj Hy HY R;have hn:=qI HT;have H2:=qI H3;have Ho:=qI Hk;have HU:=qI H7;have HB:=qI d;have hD:l.length<=101:=by omega
  have HR:=(Hk.lt g rfl);clear HT H3 Hk H7
  by_cases I:k<ns.length
  ·obtain⟨nb,no,rfl,Hr,HF⟩:=H9.o (by omega);have HH:=Hn.o _ d;have c0:=(HH.cell (p:=⟨nb,no+k*2,none⟩) (by rw[hB];exact Hr)).trans (HF k I).1;have c1:=(HH.cell (p:=⟨nb,no+k*2+1,none⟩) (by rw[hB];exact Hr)).trans (HF k I).2;have H6:=qI (Um m s own I);have hH:(k:Int)<(ns.length:Int):=by omega
   clear HF HH;generalize aq ns k=x at *;have ho:=d.size;have Hx:=qI (d.alloc d.size (m6 x));have hM:(wr.alloc (m6 x)).heap.size=wr.heap.size+1:=by simp
   have HI:=qI (bd wr (m6 x) rfl);have HZ:=qI ((Q0 wr wr).alloc (lR) (m6 x));have a0:(wr.alloc (m6 x)).cell? wr.heap.size=some (.string x.kind):=ad HI.o 0;have s1:(wr.alloc (m6 x)).cell? ⟨B+1,1,none⟩=some (.pointer (some ⟨f,0,none⟩)):=ad ((Hx.o.block (B+1) (by omega)).trans HW.o) 1;have Hz:=qI (JI x.kind (wr.alloc (m6 x)) f db ao pc s.ds s.us (Hq.o.below (Hn.o _ Hx.o)).pool Hq.o.nodes);have He:=qI λ(W:World)=>EP (lD (bC s.ds s.us x.kind) s.ds) (lD (cR s.ds x.kind) s.ds) m.nd x.many W (by omega) (EO _ Hq.o.nodes.1) (EO _ Hq.o.nodes.1);unfold v4 lD at He;dsimp only at He;unfold lD at H6;unfold vL at Hz;dsimp only at Hz;generalize bj (bC s.ds s.us x.kind) s.ds 0 s.ds.length=f0 at *;generalize bj (bC s.ds s.us x.kind) s.ds 1 s.ds.length=f1 at *;generalize bj (bC s.ds s.us x.kind) s.ds 2 s.ds.length=f2 at *;generalize bj (bC s.ds s.us x.kind) s.ds 3 s.ds.length=f3 at *;generalize bj (cR s.ds x.kind) s.ds 0 s.ds.length=M at *;generalize bj (cR s.ds x.kind) s.ds 1 s.ds.length=L at *;generalize bj (cR s.ds x.kind) s.ds 2 s.ds.length=O at *;generalize bj (cR s.ds x.kind) s.ds 3 s.ds.length=J at *;generalize hy:dC ⟨f0,f1,f2,f3⟩ ⟨M,L,O,J⟩ m.nd x.many=y at *;clear d
   go_wp2_with fail
   generalize wr.alloc (m6 x)=WB at *;refine Hz.o.mono ?_;rintro e A ⟨rfl,Hi⟩;have Hc:=qI (Hx.o.trans (Hi.mono (by omega)));have HJ:=qI ((Hi.block wr (by omega)).trans HI.o);have HL:=qI (HZ.o.trans (Hi.mono (by omega)));have hG:=Hi.size;clear Hz a0 s1 c0 c1 Hi Hx HI HZ;have Hw:=((Q0 A A).alloc (lR) (kZ f0 f1 f2 f3)).alloc (by simp) (kZ M L O J);have hF:((A.alloc (kZ f0 f1 f2 f3)).alloc (kZ M L O J)).heap.size=A.heap.size+2:=by simp
   have Hb:=qI (Hc.o.trans (Hw.mono Hc.o.size));have HO:=qI (HL.o.trans (Hw.mono HL.o.size));have b1:A.cell? ⟨wr,1,none⟩=some (.int .i64 x.many):=ad HJ.o 1;have b2:A.cell? ⟨B,2,none⟩=some (.int .u8 m.nd):=(Hl.o _ Hc.o).2.2.1;have b3:((A.alloc (kZ f0 f1 f2 f3)).alloc (kZ M L O J)).cell? ⟨wr,1,none⟩=some (.int .i64 x.many):=ad ((Hw.block wr (by omega)).trans HJ.o) 1;have b4:((A.alloc (kZ f0 f1 f2 f3)).alloc (kZ M L O J)).cell? ⟨B,2,none⟩=some (.int .u8 m.nd):=(Hl.o _ Hb.o).2.2.1;clear Hw HJ Hc HL
   go_wp2_with fail
   generalize ((A.alloc (kZ f0 f1 f2 f3)).alloc (kZ M L O J))=u at *;refine (He.o u).mono ?_;rintro e C ⟨Hf,Hg,rfl,HN,HS,T⟩;have Hm:=qI (Hb.o.trans (T.mono Hb.o.size));have Hp:=qI (HO.o.trans (T.mono HO.o.size));have Hy:Hu (ci (au (λb=>b=g) C) (.slice Hf y.hs.length Hg) y.hs):=Ul HN (λb o hN=>by have:=HS b o hN;omega);have Hs:=qI (show C.ownsRow U 279 2 (.slice g l.length r) l.length (l.flatMap im) from Uq Ho.o (Hp.o.block g HR.2));have hE:=T.size;have H5:=qI (Uo C (y,.slice Hf y.hs.length Hg) 279);dsimp only at H5;have ht:U.heap.size<=(C.alloc (.cells #[y.any,.slice Hf y.hs.length Hg] 279)).heap.size:=by simp;omega
   clear b1 b2 b3 b4 HN T HS He
   go_wp2_with (at_builtin;refine wpList_append_lies _ rfl _ _ 234 rfl U 279 i0 (.agg #[false,.slice none 0 0]) 2 32 underlying234 hi hA hq hp rfl (by decide) _ _ _ rfl (Hs.o.alloc _) ⟨_,0,none⟩ 1 1 (im (y,.slice Hf y.hs.length Hg)) rfl rfl H5.o (Up _ _ _ _) (by decide) (by unfold maxLen;omega) (by omega) ht (C.heap.size+1) (by simp) ?_;intro X E W6 Hh Ha H4 he)
   have hu:(C.alloc (.cells #[y.any,.slice Hf y.hs.length Hg] 279)).heap.size=C.heap.size+1:=by simp
   have H1:Hu (∀j,j<C.heap.size->j≠g->W6.heap[j]?=C.heap[j]?):=λj F t=>(Ha.block j (by omega) λe=>t (by injection e)).trans (Below.heap_alloc _ _ _ F)
   have hJ:X=g\/X=C.heap.size+1:=by rcases H4 with h|h;exact .inl (by injection h with h;exact h.symm);exact .inr h
   have hL:=Ha.size;have Ht:Hu (W6.ownsRow U 279 2 (.slice X (l++[(y,Value.slice Hf y.hs.length Hg)]).length E) (l++[(y,Value.slice Hf y.hs.length Hg)]).length ((l++[(y,Value.slice Hf y.hs.length Hg)]).flatMap im)):=by
    unfold Hu;rw[Q2,List.flatMap_append]
    simpa using Hh
   have hC:=qI ((Hm.o.alloc Hm.o.size _).grown Ha (by omega) (λj F=>by cases F;exact HR.1));clear Hh Ha H4
   go_roundw
   case rel=>
    refine⟨k+1,X,E,l++[(y,Value.slice Hf y.hs.length Hg)],by omega,by go_num,by rw[Q2];rfl,by rw[Q2,hn.o];rfl,by rw[Qj,H2.o,H6.o];rfl,Ht.o,λz Q=>?_,hC.o⟩
    rcases Qi.1 Q with Q|Q
    ·refine (HU.o z Q).le (bE (λj F t=>⟨by have:=Hp.o.size;omega,?_⟩) (by have:=Hp.o.size;omega));rw[H1.o j (by have:=Hp.o.size;omega) t];exact Hp.o.block j F
    ·rw[Qm.1 Q];exact Hy.o.le (bE (λj F t=>⟨by omega,H1.o j F t⟩) (by omega))
   case measure=>simp[intOf];omega
  ·have H0:k=ns.length:=by omega
   have HE:Hu (jp wr (.slice g l.length r) (dJ m s own ns)):=by
    unfold Hu;have e:dJ m s own ns=l.map Prod.fst:=by rw[H2.o,H0,wl,Qh]
    rw[e];exact Ur Ho.o λx hx=>(HU.o x hx).le (cJ _ _)
   clear H0
   go_wp2
   go_ret;exact⟨_,rfl,HE.o,Hn.o _ HB.o⟩
