import Derived.Test.YtjlblidnfebmiaaGreatDoorY33
import Derived.Test.YtjlblidnfebmiaaGreatDoorY27
set_option maxRecDepth 100000
set_option maxHeartbeats 16000000
open Go Go.RowKit Go.Shelf
attribute [local go_sem] Oper.semAt_some
open Go.Proofs.Tryz
namespace Go.Proofs.YtjlblidnfebmiaaGreatDoor
variable{W W' w w':World}{base c cap g n:Nat}{l:List aK}
theorem WI(A:Nat)(l:List ap)(x:Nat):∀k,cK A l (x:Int) k=((List.range k).filter λi=>A.testBit i && decide ((l.getD i aA).node=(x:Int))).length:=by
 intro k
 induction k with
 | zero=>rfl
 | succ k ih=>
  rw[List.range_succ,List.filter_append,Q2,<- ih,cK]
  by_cases h:(A.testBit k && decide ((l.getD k aA).node=(x:Int)))=true
  ·grind
  ·grind
theorem GQ(A:Nat)(l:List ap):qW A l l.length=v4 (cO A l):=by grind[cK,pO,WI,qW,cO]
theorem vQ(A:Nat)(l:List ap)(x:Nat):pO A l x<=l.length:=by
 grind[pO]
theorem GR{a b c d:Nat}(g:a<=64)(e:b<=64)(f:c<=64)(hd:d<=64):lL ⟨a,b,c,d⟩:=by
 intro k
 match k with
 | 0=>show -1000000<=(a:Int)/\(a:Int)<=1000000;omega
 | 1=>show -1000000<=(b:Int)/\(b:Int)<=1000000;omega
 | 2=>show -1000000<=(c:Int)/\(c:Int)<=1000000;omega
 | k+3=>show -1000000<=(d:Int)/\(d:Int)<=1000000;omega
theorem GS{A:Nat}{l:List ap}(h:l.length<=64):lL (cO A l):=
 GR (Q5 (vQ A l 0) h) (Q5 (vQ A l 1) h) (Q5 (vQ A l 2) h) (Q5 (vQ A l 3) h)
theorem vR{p:Nat->Bool}{ds:List aq}{x:Nat}:∀k,bo p ds x k<=k:=by
 grind[bo,cu]
theorem GT{p:Nat->Bool}{ds:List aq}(h:ds.length<=16):lL (mM p ds):=
 GR (Q5 (vR _) (by omega)) (Q5 (vR _) (by omega)) (Q5 (vR _) (by omega)) (Q5 (vR _) (by omega))
theorem WJ{v:Value}(h:cL w v l):∃a c,v=.slice a l.length c:=by cases h <;> grind
theorem GU{free all:cD}(ar:Nat)(many:Int)(w:World)(i:ar<256)(hf:lL free)(g:lL all) :
  Calls pg 166 #[v4 free,v4 all,.int .u8 ar,.int .i64 many] w λe w'=>∃a c,e=.returned (.agg #[.bool (dR free all ar many).any,.slice a (dR free all ar many).hs.length c])/\cL w' (.slice a (dR free all ar many).hs.length c) (dR free all ar many).hs/\(∀b o,a=some ⟨b,o,none⟩->w.heap.size<=b)/\Bw w w':=by
 unfold dR
 by_cases h:many<=0
 ·rw[if_pos h];refine (Tv free all ar many w h).m λw' d=>?_;exact⟨none,0,rfl,.inl ⟨rfl,none,0,rfl⟩,(λ_ _ h=>nomatch h),d⟩
 ·rw[if_neg h];refine (WH ar many w (by omega) i hf g).mono ?_;rintro e w' ⟨v,rfl,f,Ha,d⟩;obtain⟨a,c,rfl⟩:=WJ f;exact⟨a,c,rfl,f,λb o h=>Ha b o _ _ (by rw[h]),d⟩
theorem GV(free all:cD)(ar:Nat)(many:Int):om (dR free all ar many).hs/\(dR free all ar many).hs.length<=16:=by
 unfold dR
 by_cases h:many<=0
 ·rw[if_pos h];exact⟨λx a=>(List.not_mem_nil a).elim,Nat.zero_le _⟩
 ·rw[if_neg h];refine⟨λx a=>?_,Tn⟩;obtain⟨m,g⟩:=x
  have:=Tm a
  exact Nat.lt_trans this.2.1 (by decide)
theorem WK(m:aJ)(s:aC)(own:Int)(ns:List ak):ze (ed m s own ns):=by
 intro y a;unfold ed at a
 rcases List.mem_cons.1 a with rfl|a
 ·grind[GV]
 ·grind[GV]
theorem WL(m:aJ)(s:aC)(own:Int)(ns:List ak):(ed m s own ns).length=ns.length+1:=by
 unfold ed;simp
theorem WN{m:aJ}{s:aC}{own:Int}{ns:List ak}{v:Value}{w:World}(b:kf w v (ed m s own ns))(h:ns.length<=3)(f:1<=m.nd/\m.nd<=15)(g:0<=m.pol/\m.pol<=3) :
  CB 130 #[(m.pol:Int),.int .u8 m.nd,v] w (.tuple #[vH (gi m (ed m s own ns)).1,.bool (gi m (ed m s own ns)).2,.nilIface]):=by
 unfold gi;have Ha:=WL m s own ns
 by_cases a:m.pol=0
 ·rw[if_pos a,a];obtain⟨d,c,rfl,_⟩:=b.form;exact TQ m.nd d c w f (by omega)
 ·grind[TR,WK]
theorem cL.le{v:Value}(h:cL W v l)(k:aR W W'):cL W' v l:=by
 rcases h with h|⟨b,o,c,f,a,d⟩
 ·exact .inl h
 ·exact .inr ⟨b,o,c,f,Q1 a k.size,λj e=>⟨k.cell _ _ _ (d j e).1,k.cell _ _ _ (d j e).2⟩⟩
theorem WO{f:Option Addr}(h:cL W (.slice f n c) l)(q:∀b o,f=some ⟨b,o,none⟩->b≠g):cL (av (λb=>b=g) W) (.slice f n c) l:=by
 rcases h with h|⟨b,o,p,d,Ha,m⟩
 ·exact .inl h
 ·refine .inr ⟨b,o,p,d,by grind[cC],λj r=>?_⟩;injection d with d
  have i:=q b o d;have e:∀k,(av (λb=>b=g) W).cell? ⟨b,k,none⟩=W.cell? ⟨b,k,none⟩:=λk=>World.cell?_of_block (a:=⟨b,k,none⟩) (cH i)
  rw[e,e];exact m j r
def iP (x:cY × Value):List Value:=[.bool x.1.any,x.2]
def wl (m:aJ) (s:aC) (own:Int) (ns:List ak) (k:Nat):List cY:=ed m s own (ns.take k)
theorem WP(m:aJ)(s:aC)(own:Int){ns:List ak}{k:Nat}(h:k<ns.length):wl m s own ns (k+1)=wl m s own ns k++[dR (mM (bH s.ds s.us (ar ns k).kind) s.ds) (mM (dr s.ds (ar ns k).kind) s.ds) m.nd (ar ns k).many]:=by
 grind[wl,ed,Qa,ar]
theorem WR:(prog.info? 279).map (λi=>(i.zero,i.size,i.bytes))=some (some (.agg #[false,()]),2,32):=by kernel_rfl
theorem WS(w:World)(x:cY × Value)(t:TypeId):∀j u,(iP x)[j]?=some u->(w.alloc (.cells #[x.1.any,x.2] t)).cell? ((w.heap.size:Addr).add j)=some u:=by
 simp[Addr.add_lit,iP]
theorem WT{y:cY}{a:Option Addr}{n c:Nat}:∀u∈iP (y,.slice a n c),u.oneCell'=true:=by
 intro u b
 simp[iP] at b
 rcases b with rfl|rfl <;> rfl
theorem WU{e:TypeId}{sz:Nat}{c:List Value}(h:W.ownsRow base e sz (.slice g n cap) n c)(f:W'.heap[g]?=W.heap[g]?):W'.ownsRow base e sz (.slice g n cap) n c:=by
 obtain⟨b,j|⟨l,c2,a,d,r1,k,i⟩⟩:=h
 ·exact⟨b,.inl j⟩
 ·injection d with e1 e2 e3
  injection e1 with e1
  injection e1 with e1
  subst e1;exact⟨b,.inr ⟨g,c2,a,by rw[e3],r1,f.trans k,i⟩⟩
theorem WV{l:List (cY × Value)}(h:W.ownsRow base 279 2 (.slice g l.length cap) l.length (l.flatMap iP))(i:∀x∈l,cL W x.2 x.1.hs):kf W (.slice g l.length cap) (l.map Prod.fst):=by
 refine .inr ⟨g,0,cap,by rw[Q9],(h.lt g rfl).2,λk b=>?_⟩;rw[Q9] at b;have e:(l.map Prod.fst).getD k im=l[k].1:=by simp[b]
 have key:∀(l:List (cY × Value)) (k:Nat) (b:k<l.length) (j:Nat),j<2->(l.flatMap iP)[k*2+j]?=(iP l[k])[j]?:=by
  intro l
  induction l with
  | nil=>intro k b;simp at b
  | cons a l ih=>
   intro k b j f;rw[List.flatMap_cons];cases k with
   | zero=>rw[List.getElem?_append_left (by simp[iP];omega)];simp
   | succ k=>
    rw[List.getElem?_append_right (by simp[iP];omega)]
    have:=ih k (by simpa using b) j f
    simp only[List.getElem_cons_succ];rw[<- this]
    congr 1
    simp[iP]
    omega
 have c:=key l k b 0 (by decide);have d:=key l k b 1 (by decide);rw[e,Qd];refine⟨?_,l[k].2,?_,i _ (List.getElem_mem b)⟩
 ·rw[h.cellAt (k*2) (by omega)];exact c
 ·rw[h.cellAt (k*2+1) (by omega)];exact d
structure ey (w:World) (tb b o c:Nat) (m:aJ):Prop where
 topo:bP w tb b o c m.l
 good:Good m.l
 op:m.op<18446744073709551616
 nd:1<=m.nd/\m.nd<=15
 pol:0<=m.pol/\m.pol<=3
theorem ey.below{a b o:Nat}{m:aJ}(h:ey w a b o c m)(d:Bw w w'):ey w' a b o c m:=⟨h.topo.below d,h.good,h.op,h.nd,h.pol⟩
structure eS (w:World) (pb db:Nat) (ao:Option Addr) (c:Nat) (s:aC):Prop where
 pool:aM w pb db ao c s.ds s.us
 nodes:fS s.ds
 cp:s.cp<18446744073709551616
theorem eS.below{a db:Nat}{b:Option Addr}{s:aC}(h:eS w a db b c s)(d:Bw w w'):eS w' a db b c s:=⟨h.pool.below d,h.nodes,h.cp⟩
def mV (m:aJ) (tb:Nat):Value:=.agg #[tb,.int .u64 m.op,.int .u8 m.nd,(m.nb:Int),(m.pol:Int)]
def sV (s:aC) (pb:Nat):Value:=.agg #[.int .u64 s.cp,pb]
abbrev mS:=λ(x0:Nat) (x1:aJ)=>(.cells #[x0,.int .u64 x1.op,.int .u8 x1.nd,(x1.nb:Int),(x1.pol:Int)] 84:Obj)
abbrev oz:=λ(x0 x1 x2 x3:Int)=>(.cells #[x0,x1,x2,x3] 202:Obj)
abbrev mT:=λ(x0:aC) (x1:Nat)=>(.cells #[.int .u64 x0.cp,x1] 87:Obj)
abbrev oA:=λ(x0:ak)=>(.cells #[x0.kind,(x0.many:Int)] 127:Obj)
abbrev GX:=λ(B tb:Nat) (m:aJ) (s:aC) (w':World)=>cl w' B (0) tb/\cl w' B (1) (.int .u64 m.op)/\cl w' B (2) (.int .u8 m.nd)/\cl w' (B+1) (0) (.int .u64 s.cp)
theorem GY{m:aJ}{s:aC}{a b o c d db:Nat}{ao:Option Addr}{pc:Nat}(own:Int){v:Value}{ns:List ak}{w:World}(hm:ey w a b o c m)(hs:eS w d db ao pc s)(hv:bC w v ns)(hl:ns.length<=100) :
  Calls prog 131 #[mV m a,sV s d,own,v] w λe w'=>∃v',e=.returned v'/\kf w' v' (ed m s own ns)/\Below w w w':=by
 obtain⟨i0,hi,hu,hC,ht⟩:=info_parts WR;unfold mV sV;have I:=qI hm;have Ht:=qI hs;obtain⟨na,nc,rfl,he,H4⟩:=hv;unfold maxLen at he;have hg:=qI H4;have hE:=hm.nd;have sz:((w.alloc (mS a m)).alloc (mT s d)).heap.size=w.heap.size+2:=by simp
 have HY:=qI (aY (w.alloc (mS a m)) (mT s d) (n:=w.heap.size+1) (by simp));have HD:=qI (bQ (aY w (mS a m) rfl) (mT s d));have hn:=qI (((Q0 w w).alloc (lR) (mS a m)).alloc (by simp) (mT s d));have q0:((w.alloc (mS a m)).alloc (mT s d)).cell? w.heap.size=some (.pointer (some ⟨a,0,none⟩)):=ad HD.o 0;have q1:((w.alloc (mS a m)).alloc (mT s d)).cell? ⟨w,1,none⟩=some (.int .u64 m.op):=ad HD.o 1;have q2:((w.alloc (mS a m)).alloc (mT s d)).cell? ⟨w,2,none⟩=some (.int .u8 m.nd):=ad HD.o 2;have q3:((w.alloc (mS a m)).alloc (mT s d)).cell? (w.heap.size+1:Nat)=some (.int .u64 s.cp):=ad HY.o 0;clear hm hs H4
 go_enter func131,ntmps131
 go_wp2_with fail
 generalize ((w.alloc (mS a m)).alloc (mT s d))=U at *;generalize hB:w.heap.size=B at *;have V:=qI (And.intro q0 (And.intro q1 (And.intro q2 q3)));have R:Hu (Below U U U.drew):=bO (Q0 _ _);clear q0 q1 q2 q3;have Hk:Hu (∀W,Below U U W->(GX B a m s) W):=λW f=>⟨(f.cell (p:=B) (by show B<_;omega)).trans V.o.1,(f.cell (p:=⟨B,1,none⟩) (by show B<_;omega)).trans V.o.2.1,(f.cell (p:=⟨B,2,none⟩) (by show B<_;omega)).trans V.o.2.2.1,(f.cell (p:=⟨B+1,0,none⟩) (by show B+1<_;omega)).trans V.o.2.2.2⟩
 have Hs:Hu (∀W,Below U U W->Below w w W):=λW f=>(show Below w w U from hB ▸ hn.o).trans (f.mono (by omega))
 refine wp_region_held_drew (S:=GX B a m s) (by kernel_rfl) (Hk.o _ R.o) λQ=>?_;refine tk 0 ?_;refine tk 1 ?_;refine tk 2 ?_;refine tk 3 ?_;refine tk 5 ?_;refine tk 6 ?_;refine tk 7 ?_;refine tk 8 ?_;refine tk 10 ?_;refine tk 11 ?_;refine tk 12 ?_;refine rd 4 λK t=>?_;go_simp
 go_wp2_with fail
 have HI:=yD s.cp (E:=a) (b:=b) (o:=o) (c:=c) (l:=m.l) (I.o.below (Hs.o _ R.o)).topo Ht.o.cp I.o.good;rw[GQ] at HI;refine HI.mono ?_;rintro e W1 ⟨rfl,HL⟩;have Hr:=qI (R.o.trans (HL.mono (lR)));clear HI HL
 go_wp2_with fail
 refine t.o _ _ (Hk.o _ Hr.o) λQ=>?_;clear t K;refine rd 9 λK t=>?_;go_simp
 go_wp2_with fail
 have Z:=yD m.op (E:=a) (b:=b) (o:=o) (c:=c) (l:=m.l) (I.o.below (Hs.o _ Hr.o)).topo I.o.op I.o.good;rw[GQ] at Z;refine Z.mono ?_;rintro e G ⟨rfl,Hi⟩;have Hg:=qI (Hr.o.trans (Hi.mono Hr.o.size));clear Z Hi
 go_wp2_with fail
 refine t.o _ _ (Hk.o _ Hg.o) λQ=>?_;clear t K;refine rd 13 λK t=>?_;go_simp
 go_wp2_with fail
 refine (GU (free:=cO s.cp m.l) (all:=cO m.op m.l) m.nd own _ (by omega) (GS I.o.topo.len) (GS I.o.topo.len)).mono ?_;rintro e u ⟨E,D,rfl,H0,hh,HW⟩;have Hb:=qI (Hg.o.trans (HW.mono Hg.o.size));have HZ:=qI H0;clear HW H0 hh
 go_wp2_with fail
 refine t.o _ _ (Hk.o _ Hb.o) λQ=>?_;clear t K;have Hl:=qI (Hb.o.alloc Hb.o.size (.cells #[.bool (dR (cO s.cp m.l) (cO m.op m.l) m.nd own).any,.slice E (dR (cO s.cp m.l) (cO m.op m.l) m.nd own).hs.length D] 279));refine rd 14 λK t=>?_;go_simp
 go_wp2_with fail
 refine t.o _ _ (Hk.o _ Hl.o) λQ=>?_;clear t K;refine tk 15 ?_;refine Qn (by kernel_rfl) ?_ _;clear Q;have hq:=Hb.o.size;have Hh:=qI (show (u.alloc (.cells #[.bool (dR (cO s.cp m.l) (cO m.op m.l) m.nd own).any,.slice E (dR (cO s.cp m.l) (cO m.op m.l) m.nd own).hs.length D] 279)).ownsRow U 279 2 (.slice u 1 1) 1 (iP ((dR (cO s.cp m.l) (cO m.op m.l) m.nd own),.slice E (dR (cO s.cp m.l) (cO m.op m.l) m.nd own).hs.length D)) from World.ownsRow_lit u #[.bool (dR (cO s.cp m.l) (cO m.op m.l) m.nd own).any,.slice E (dR (cO s.cp m.l) (cO m.op m.l) m.nd own).hs.length D] 1 Hb.o.size (by unfold maxLen;omega) rfl);have Hz:Hu (cL (av (λb=>b=u.heap.size) (u.alloc (.cells #[.bool (dR (cO s.cp m.l) (cO m.op m.l) m.nd own).any,.slice E (dR (cO s.cp m.l) (cO m.op m.l) m.nd own).hs.length D] 279))) (.slice E (dR (cO s.cp m.l) (cO m.op m.l) m.nd own).hs.length D) (dR (cO s.cp m.l) (cO m.op m.l) m.nd own).hs):=HZ.o.le (sw (N:=u.heap.size) ((Q0 _ _).alloc (lR) _) rfl (λj C=>by omega));have H8:Hu (wl m s own ns 0=[(dR (cO s.cp m.l) (cO m.op m.l) m.nd own)]):=by grind[Hu,wl,ed]
 generalize hWA:u.alloc (.cells #[.bool (dR (cO s.cp m.l) (cO m.op m.l) m.nd own).any,.slice E (dR (cO s.cp m.l) (cO m.op m.l) m.nd own).hs.length D] 279)=WA at *;generalize hx0:(dR (cO s.cp m.l) (cO m.op m.l) m.nd own)=x0 at *;generalize hg0:u.heap.size=g0 at *;clear hWA hx0
 go_wp2
 go_loopw [9,31] (λpv i wr=>∃(k g r:Nat) (l:List (cY × Value)),k<=ns.length/\i=.int .i64 k/\pv=.slice g l.length r/\l.length=k+1/\l.map Prod.fst=wl m s own ns k/\wr.ownsRow U 279 2 (.slice g l.length r) l.length (l.flatMap iP)/\(∀x∈l,cL (av (λb=>b=g) wr) x.2 x.1.hs)/\Below U U wr) (λ_ i _=>ns.length - (intOf i).toNat)
 case atStart=>exact⟨0,g0,1,[(x0,.slice E x0.hs.length D)],by omega,rfl,rfl,rfl,by rw[H8.o];rfl,Hh.o,λx hx=>by rw[Qm.1 hx];exact Hz.o,Hl.o⟩
 case round=>
  obtain⟨k,g,r,l,hk,rfl,rfl,H1,HS,Hj,HR,f⟩:=hrel;clear Hr Hg Hb Hl Hh Hz HZ R;have ho:=qI H1;have H2:=qI HS;have Hq:=qI Hj;have H3:=qI HR;have HB:=qI f;have hL:l.length<=101:=by omega
  have HP:=(Hj.lt g rfl);clear H1 HS Hj HR
  by_cases H:k<ns.length
  ·obtain⟨nb,no,rfl,Ho,HG⟩:=hg.o (by omega);have HK:=Hs.o _ f;have c0:=(HK.cell (p:=⟨nb,no+k*2,none⟩) (by rw[hB];exact Ho)).trans (HG k H).1;have c1:=(HK.cell (p:=⟨nb,no+k*2+1,none⟩) (by rw[hB];exact Ho)).trans (HG k H).2;have HN:=qI (WP m s own H);have hI:(k:Int)<(ns.length:Int):=by omega
   clear HG HK;generalize ar ns k=x at *;have hA:=f.size;have Hv:=qI (f.alloc f.size (oA x));have hM:(wr.alloc (oA x)).heap.size=wr.heap.size+1:=by simp
   have X:=qI (aY wr (oA x) rfl);have HO:=qI ((Q0 wr wr).alloc (lR) (oA x));have a0:(wr.alloc (oA x)).cell? wr.heap.size=some (.string x.kind):=ad X.o 0;have s1:(wr.alloc (oA x)).cell? ⟨B+1,1,none⟩=some (.pointer (some ⟨d,0,none⟩)):=ad ((Hv.o.block (B+1) (by omega)).trans HY.o) 1;have Hy:=qI (NR x.kind (w:=wr.alloc (oA x)) (F:=d) (db:=db) (I:=ao) (c:=pc) (ds:=s.ds) (us:=s.us) (Ht.o.below (Hs.o _ Hv.o)).pool Ht.o.nodes);have He:=qI λ(W:World)=>GU (free:=mM (bH s.ds s.us x.kind) s.ds) (all:=mM (dr s.ds x.kind) s.ds) m.nd x.many W (by omega) (GT Ht.o.nodes.1) (GT Ht.o.nodes.1);unfold v4 mM at He;dsimp only at He;unfold mM at HN;unfold xR at Hy;dsimp only at Hy;generalize bo (bH s.ds s.us x.kind) s.ds 0 s.ds.length=f0 at *;generalize bo (bH s.ds s.us x.kind) s.ds 1 s.ds.length=f1 at *;generalize bo (bH s.ds s.us x.kind) s.ds 2 s.ds.length=f2 at *;generalize bo (bH s.ds s.us x.kind) s.ds 3 s.ds.length=f3 at *;generalize bo (dr s.ds x.kind) s.ds 0 s.ds.length=O at *;generalize bo (dr s.ds x.kind) s.ds 1 s.ds.length=P at *;generalize bo (dr s.ds x.kind) s.ds 2 s.ds.length=L at *;generalize bo (dr s.ds x.kind) s.ds 3 s.ds.length=J at *;generalize hy:dR ⟨f0,f1,f2,f3⟩ ⟨O,P,L,J⟩ m.nd x.many=y at *;clear f
   go_wp2_with fail
   generalize wr.alloc (oA x)=WB at *;refine Hy.o.mono ?_;rintro e G ⟨rfl,Hi⟩;have Hg:=qI (Hv.o.trans (Hi.mono (by omega)));have HJ:=qI ((Hi.block wr (by omega)).trans X.o);have Y:=qI (HO.o.trans (Hi.mono (by omega)));have hF:=Hi.size;clear Hy a0 s1 c0 c1 Hi Hv X HO;have Hw:=((Q0 G G).alloc (lR) (oz f0 f1 f2 f3)).alloc (by simp) (oz O P L J);have hG:((G.alloc (oz f0 f1 f2 f3)).alloc (oz O P L J)).heap.size=G.heap.size+2:=by simp
   have Hb:=qI (Hg.o.trans (Hw.mono Hg.o.size));have H6:=qI (Y.o.trans (Hw.mono Y.o.size));have b1:G.cell? ⟨wr,1,none⟩=some (.int .i64 x.many):=ad HJ.o 1;have b2:=(Hk.o _ Hg.o).2.2.1;have b3:((G.alloc (oz f0 f1 f2 f3)).alloc (oz O P L J)).cell? ⟨wr,1,none⟩=some (.int .i64 x.many):=ad ((Hw.block wr (by omega)).trans HJ.o) 1;have b4:=(Hk.o _ Hb.o).2.2.1;clear Hw HJ Hg Y
   go_wp2_with fail
   generalize ((G.alloc (oz f0 f1 f2 f3)).alloc (oz O P L J))=u at *;refine (He.o u).mono ?_;rintro e A ⟨Hc,Hf,rfl,HT,hr,Hx⟩;have Hl:=qI (Hb.o.trans (Hx.mono Hb.o.size));have HV:=qI (H6.o.trans (Hx.mono H6.o.size));have Hz:Hu (cL (av (λb=>b=g) A) (.slice Hc y.hs.length Hf) y.hs):=WO HT (λb o hN=>by grind);have Hn:=qI (show A.ownsRow U 279 2 (.slice g l.length r) l.length (l.flatMap iP) from WU Hq.o (HV.o.block g HP.2));have hD:=Hx.size;have HX:=qI (WS A (y,.slice Hc y.hs.length Hf) 279);dsimp only at HX;have H9:U.heap.size<=(A.alloc (.cells #[y.any,.slice Hc y.hs.length Hf] 279)).heap.size:=by simp;omega
   clear b1 b2 b3 b4 HT Hx hr He
   go_wp2_with (at_builtin;refine wpList_append_lies _ rfl _ _ 234 rfl U 279 i0 (.agg #[false,.slice none 0 0]) 2 32 underlying234 hi hu hC ht rfl (by decide) _ _ _ rfl (Hn.o.alloc _) ⟨_,0,none⟩ 1 1 (iP (y,.slice Hc y.hs.length Hf)) rfl rfl HX.o (WT) (by decide) (by unfold maxLen;omega) (by omega) H9 (A.heap.size+1) (by simp) ?_;intro T F W6 Hm Ha H7 hw)
   have hf:(A.alloc (.cells #[y.any,.slice Hc y.hs.length Hf] 279)).heap.size=A.heap.size+1:=by simp
   have HU:Hu (∀j,j<A.heap.size->j≠g->W6.heap[j]?=A.heap[j]?):=λj C q=>(Ha.block j (by omega) λe=>q (by injection e)).trans (Below.heap_alloc _ _ _ C)
   have hH:T=g\/T=A.heap.size+1:=by rcases H7 with h|h;exact .inl (by injection h with h;exact h.symm);exact .inr h
   have hJ:=Ha.size;have Hp:Hu (W6.ownsRow U 279 2 (.slice T (l++[(y,Value.slice Hc y.hs.length Hf)]).length F) (l++[(y,Value.slice Hc y.hs.length Hf)]).length ((l++[(y,Value.slice Hc y.hs.length Hf)]).flatMap iP)):=by
    simp_all;exact trivial
   have hp:=qI ((Hl.o.alloc Hl.o.size _).grown Ha (by omega) (λj C=>by cases C;exact HP.1));clear Hm Ha H7
   go_roundw
   case rel=>
    refine⟨k+1,T,F,l++[(y,Value.slice Hc y.hs.length Hf)],by omega,by go_num,by simp,by rw[Q2,ho.o];rfl,by rw[Qj,H2.o,HN.o];rfl,Hp.o,λz M=>?_,hp.o⟩
    rcases Qi.1 M with M|M
    ·refine (H3.o z M).le (bF (λj C q=>⟨by omega,?_⟩) (by omega));rw[HU.o j (by omega) q];exact HV.o.block j C
    ·rw[Qm.1 M];exact Hz.o.le (bF (λj C q=>⟨by omega,HU.o j C q⟩) (by omega))
   case measure=>simp[intOf];omega
  ·have H5:k=ns.length:=by omega
   have HE:Hu (kf wr (.slice g l.length r) (ed m s own ns)):=by
    unfold Hu;have e:ed m s own ns=l.map Prod.fst:=by rw[H2.o,H5,wl,Qh]
    rw[e];exact WV Hq.o λx hx=>(H3.o x hx).le (df)
   clear H5
   go_wp2
   go_ret;exact⟨_,rfl,HE.o,Hs.o _ HB.o⟩
