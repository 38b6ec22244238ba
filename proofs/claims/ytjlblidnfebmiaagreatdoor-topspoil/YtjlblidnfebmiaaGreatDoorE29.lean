import Derived.Test.YtjlblidnfebmiaaGreatDoorE28
import Derived.Test.YtjlblidnfebmiaaGreatDoorE21
import Derived.Test.YtjlblidnfebmiaaGreatDoorE24
set_option maxRecDepth 100000
set_option maxHeartbeats 16000000
open Go Go.RowKit Go.Shelf
attribute [local go_sem] Oper.semAt_some
open Go.Proofs.Tryz
namespace Go.Proofs.YtjlblidnfebmiaaGreatDoor
variable {W W' w w':World} {base c cap g n:Nat} {l:List aH}
theorem SC (A:Nat) (l:List ag) (x:Nat):∀ k,b9 A l (x:Int) k=((List.range k).filter λi=>A.testBit i && decide ((l.getD i ar).node=(x:Int))).length:=by
 intro k
 induction k with
 | zero=>rfl
 | succ k ih=>
  rw [List.range_succ,List.filter_append,Q2,<- ih,b9]
  by_cases h:(A.testBit k && decide ((l.getD k ar).node=(x:Int)))=true
  ·rw [if_pos h,List.filter_cons_of_pos (p:=λi=>A.testBit i && decide ((l.getD i ar).node=(x:Int))) h];rfl
  ·rw [if_neg h,List.filter_cons_of_neg (p:=λi=>A.testBit i && decide ((l.getD i ar).node=(x:Int))) h];rfl
theorem Ek (A:Nat) (l:List ag):oD A l l.length=v4 (cr A l):=by grind [b9,nH,SC,oD,cr]
theorem tN (A:Nat) (l:List ag) (x:Nat):nH A l x<=l.length:=by
 unfold nH;exact Q5 (List.length_filter_le _ _) (by simp)
theorem El {a b c d:Nat} (g:a<=64) (e:b<=64) (f:c<=64) (hd:d<=64):kc ⟨a,b,c,d⟩:=by
 intro k
 match k with
 | 0=>show -1000000<=(a:Int)/\(a:Int)<=1000000;omega
 | 1=>show -1000000<=(b:Int)/\(b:Int)<=1000000;omega
 | 2=>show -1000000<=(c:Int)/\(c:Int)<=1000000;omega
 | k+3=>show -1000000<=(d:Int)/\(d:Int)<=1000000;omega
theorem Em (A:Nat) {l:List ag} (h:l.length<=64):kc (cr A l):=
 El (Q5 (tN A l 0) h) (Q5 (tN A l 1) h) (Q5 (tN A l 2) h) (Q5 (tN A l 3) h)
theorem tO (p:Nat->Bool) (ds:List ah) (x:Nat):∀ k,bd p ds x k<=k:=by grind [bd,bR]
theorem En (p:Nat->Bool) {ds:List ah} (h:ds.length<=16):kc (ln p ds):=
 El (Q5 (tO _ _ _ _) (by omega)) (Q5 (tO _ _ _ _) (by omega)) (Q5 (tO _ _ _ _) (by omega)) (Q5 (tO _ _ _ _) (by omega))
theorem SD {v:Value} (h:cd w v l):∃ a c,v=.slice a l.length c:=by cases h <;> grind
theorem Eo (free all:bX) (ak:Nat) (many:Int) (w:World) (i:ak<256) (hf:kc free) (g:kc all) :
  Calls prog 166 #[v4 free,v4 all,.int .u8 ak,many] w λe w'=>∃ a c,e=.returned (.agg #[.bool (dj free all ak many).any,.slice a (dj free all ak many).hs.length c])/\cd w' (.slice a (dj free all ak many).hs.length c) (dj free all ak many).hs/\(∀ b o,a=some ⟨b,o,none⟩->w.heap.size<=b)/\Below w w w':=by
 unfold dj
 by_cases h:many<=0
 ·rw [if_pos h];refine (Hx free all ak many w h).mono ?_;rintro e w' ⟨rfl,d⟩;exact ⟨none,0,rfl,.inl ⟨rfl,none,0,rfl⟩,(λ_ _ h=>nomatch h),d⟩
 ·rw [if_neg h];refine (SA free all ak many w (by omega) i hf g).mono ?_;rintro e w' ⟨v,rfl,f,Ha,d⟩;obtain ⟨a,c,rfl⟩:=SD f;exact ⟨a,c,rfl,f,λb o h=>Ha b o _ _ (by rw [h]),d⟩
theorem Ep (free all:bX) (ak:Nat) (many:Int):lZ (dj free all ak many).hs/\(dj free all ak many).hs.length<=16:=by
 unfold dj
 by_cases h:many<=0
 ·rw [if_pos h];exact ⟨λx a=>(List.not_mem_nil a).elim,Nat.zero_le _⟩
 ·rw [if_neg h];refine ⟨λx a=>?_,Gt _ _ _ _⟩;obtain ⟨m,g⟩:=x
  have:=Gs a
  exact Nat.lt_trans this.2.1 (by decide)
theorem SE (m:aF) (s:aB) (own:Int) (ns:List ai):uT (dz m s own ns):=by
 intro y a;unfold dz at a
 rcases List.mem_cons.1 a with rfl|a
 ·exact Ep _ _ _ _
 ·obtain ⟨n,_,rfl⟩:=Qk.1 a;exact Ep _ _ _ _
theorem SF (m:aF) (s:aB) (own:Int) (ns:List ai):(dz m s own ns).length=ns.length+1:=by
 unfold dz;simp
theorem SG (m:aF) (s:aB) (own:Int) (ns:List ai) (v:Value) (w:World) (d:jg w v (dz m s own ns)) (g:ns.length<=3) (b:1<=m.nd/\m.nd<=15) (h:0<=m.pol/\m.pol<=3) :
  Calls prog 130 #[(m.pol:Int),.int .u8 m.nd,v] w λe w'=>e=.returned (.tuple #[vH (eY m (dz m s own ns)).1,.bool (eY m (dz m s own ns)).2,.nilIface])/\Below w w w':=by
 unfold eY;have Ha:=SF m s own ns
 by_cases a:m.pol=0
 ·rw [if_pos a,a];obtain ⟨f,c,rfl,_⟩:=d.form;exact Ir m.nd f _ c w b (by omega)
 ·rw [if_neg a];exact Is m.pol m.nd v (dz m s own ns) w d (SE m s own ns) (by omega) b (by omega)
theorem cd.le {v:Value} (h:cd W v l) (k:aM W W'):cd W' v l:=by
 rcases h with h|⟨b,o,c,f,a,d⟩
 ·exact .inl h
 ·exact .inr ⟨b,o,c,f,Q1 a k.size,λj e=>⟨k.cell _ _ _ (d j e).1,k.cell _ _ _ (d j e).2⟩⟩
theorem SH {f:Option Addr} (h:cd W (.slice f n c) l) (i:∀ b o,f=some ⟨b,o,none⟩->b≠g):cd (av (λb=>b=g) W) (.slice f n c) l:=by
 rcases h with h|⟨b,o,p,d,Ha,q⟩
 ·exact .inl h
 ·refine .inr ⟨b,o,p,d,by rw [cC];exact Ha,λj r=>?_⟩;injection d with d
  have m:=i b o d;have e:∀ k,(av (λb=>b=g) W).cell? ⟨b,k,none⟩=W.cell? ⟨b,k,none⟩:=λk=>World.cell?_of_block (a:=⟨b,k,none⟩) (cZ m)
  rw [e,e];exact q j r
def gV (x:cG × Value):List Value:=[.bool x.1.any,x.2]
def wl (m:aF) (s:aB) (own:Int) (ns:List ai) (k:Nat):List cG:=dz m s own (ns.take k)
theorem SI (m:aF) (s:aB) (own:Int) {ns:List ai} {k:Nat} (h:k<ns.length):wl m s own ns (k+1)=wl m s own ns k++[dj (ln (bz s.ds s.us (ak ns k).kind) s.ds) (ln (cJ s.ds (ak ns k).kind) s.ds) m.nd (ak ns k).many]:=by grind [wl,dz,ak,Qa,Qj]
theorem SJ:(prog.info? 279).map (λi=>(i.zero,i.size,i.bytes))=some (some (.agg #[false,.slice none 0 0]),2,32):=by kernel_rfl
theorem SK (w:World) (x:cG × Value) (t:TypeId):∀ j u,(gV x)[j]?=some u->(w.alloc (.cells #[x.1.any,x.2] t)).cell? ((w.heap.size:Addr).add j)=some u:=by simp_all [Addr.add_lit,gV]
theorem SL (y:cG) (a:Option Addr) (n c:Nat):∀ u∈gV (y,.slice a n c),u.oneCell'=true:=by
 intro u b
 simp [gV] at b
 rcases b with rfl|rfl <;> rfl
theorem SN {e:TypeId} {sz:Nat} {c:List Value} (h:W.ownsRow base e sz (.slice g n cap) n c) (f:W'.heap[g]?=W.heap[g]?):W'.ownsRow base e sz (.slice g n cap) n c:=by
 obtain ⟨b,i|⟨l,c2,a,j,r1,k,d⟩⟩:=h
 ·exact ⟨b,.inl i⟩
 ·injection j with e1 e2 e3
  injection e1 with e1
  injection e1 with e1
  subst e1;exact ⟨b,.inr ⟨g,c2,a,by rw [e3],r1,f.trans k,d⟩⟩
theorem SO {l:List (cG × Value)} (h:W.ownsRow base 279 2 (.slice g l.length cap) l.length (l.flatMap gV)) (i:∀ x∈l,cd W x.2 x.1.hs):jg W (.slice g l.length cap) (l.map Prod.fst):=by
 refine .inr ⟨g,0,cap,by rw [Q9],(h.lt g rfl).2,λk b=>?_⟩;rw [Q9] at b;have e:(l.map Prod.fst).getD k fY=l[k].1:=by simp [b]
 have key:∀ (l:List (cG × Value)) (k:Nat) (b:k<l.length) (j:Nat),j<2->(l.flatMap gV)[k*2+j]?=(gV l[k])[j]?:=by
  intro l
  induction l with
  | nil=>intro k b;simp at b
  | cons a l ih=>
   intro k b j c;rw [List.flatMap_cons];cases k with
   | zero=>rw [List.getElem?_append_left (by simp [gV];omega)];simp
   | succ k=>
    rw [List.getElem?_append_right (by simp [gV];omega)]
    have:=ih k (by simpa using b) j c
    simp only [List.getElem_cons_succ];rw [<- this]
    congr 1
    simp [gV]
    omega
 have f:=key l k b 0 (by decide);have d:=key l k b 1 (by decide);rw [e,Qd];refine ⟨?_,l[k].2,?_,i _ (List.getElem_mem b)⟩
 ·rw [h.cellAt (k*2) (by omega)];exact f
 ·rw [h.cellAt (k*2+1) (by omega)];exact d
structure dU (w:World) (tb b o c:Nat) (m:aF):Prop where
 topo:bD w tb b o c m.l
 good:Good m.l
 op:m.op<18446744073709551616
 nd:1<=m.nd/\m.nd<=15
 pol:0<=m.pol/\m.pol<=3
theorem dU.below {a b o:Nat} {m:aF} (h:dU w a b o c m) (d:Below w w w'):dU w' a b o c m:=⟨h.topo.below d,h.good,h.op,h.nd,h.pol⟩
structure ee (w:World) (pb db:Nat) (ao:Option Addr) (c:Nat) (s:aB):Prop where
 pool:aJ w pb db ao c s.ds s.us
 nodes:eT s.ds
 cp:s.cp<18446744073709551616
theorem ee.below {b db:Nat} {a:Option Addr} {s:aB} (h:ee w b db a c s) (d:Below w w w'):ee w' b db a c s:=⟨h.pool.below d,h.nodes,h.cp⟩
def mV (m:aF) (tb:Nat):Value:=.agg #[tb,.int .u64 m.op,.int .u8 m.nd,(m.nb:Int),(m.pol:Int)]
def sV (s:aB) (pb:Nat):Value:=.agg #[.int .u64 s.cp,pb]
abbrev lJ:=λ(x0:Nat) (x1:aF)=>(.cells #[x0,.int .u64 x1.op,.int .u8 x1.nd,(x1.nb:Int),(x1.pol:Int)] 84:Obj)
abbrev kJ:=λ(x0 x1 x2 x3:Int)=>(.cells #[x0,x1,x2,x3] 202:Obj)
abbrev lK:=λ(x0:aB) (x1:Nat)=>(.cells #[.int .u64 x0.cp,x1] 87:Obj)
abbrev mN:=λ(x0:ai)=>(.cells #[x0.kind,(x0.many:Int)] 127:Obj)
abbrev Er:=λ(B tb:Nat) (m:aF) (s:aB) (w':World)=>cl w' B (0) tb/\cl w' B (1) (.int .u64 m.op)/\cl w' B (2) (.int .u8 m.nd)/\cl w' (B+1) (0) (.int .u64 s.cp)
theorem Es (m:aF) (s:aB) (a b o c f db:Nat) (ao:Option Addr) (pc:Nat) (own:Int) (v:Value) (ns:List ai) (w:World) (hm:dU w a b o c m) (hs:ee w f db ao pc s) (hv:bO w v ns) (hl:ns.length<=100) :
  Calls prog 131 #[mV m a,sV s f,own,v] w λe w'=>∃ v',e=.returned v'/\jg w' v' (dz m s own ns)/\Below w w w':=by
 obtain ⟨i0,hi,hp,hg,hA⟩:=info_parts SJ;unfold mV sV;have I:=qI hm;have Ht:=qI hs;obtain ⟨na,nc,rfl,hn,HV⟩:=hv;unfold maxLen at hn;have hr:=qI HV;have hD:=hm.nd;have sz:((w.alloc (lJ a m)).alloc (lK s f)).heap.size=w.heap.size+2:=by simp
 have H4:=qI (aU (w.alloc (lJ a m)) (lK s f) (n:=w.heap.size+1) (by simp));have HG:=qI (b6 (aU w (lJ a m) rfl) (lK s f));have hC:=qI (((Q0 w w).alloc (lR) (lJ a m)).alloc (by simp) (lK s f));have q0:((w.alloc (lJ a m)).alloc (lK s f)).cell? w.heap.size=some (.pointer (some ⟨a,0,none⟩)):=aa HG.o 0;have q1:((w.alloc (lJ a m)).alloc (lK s f)).cell? ⟨w,1,none⟩=some (.int .u64 m.op):=aa HG.o 1;have q2:((w.alloc (lJ a m)).alloc (lK s f)).cell? ⟨w,2,none⟩=some (.int .u8 m.nd):=aa HG.o 2;have q3:((w.alloc (lJ a m)).alloc (lK s f)).cell? (w.heap.size+1:Nat)=some (.int .u64 s.cp):=aa H4.o 0;clear hm hs HV
 go_enter func131,ntmps131
 go_wp2_with fail
 generalize ((w.alloc (lJ a m)).alloc (lK s f))=U at *;generalize hB:w.heap.size=B at *;have V:=qI (And.intro q0 (And.intro q1 (And.intro q2 q3)));have Hw:Hu (Below U U U.drew):=bF (Q0 _ _);clear q0 q1 q2 q3;have Hk:Hu (∀ W,Below U U W->(Er B a m s) W):=λW d=>⟨(d.cell (p:=B) (by show B<_;omega)).trans V.o.1,(d.cell (p:=⟨B,1,none⟩) (by show B<_;omega)).trans V.o.2.1,(d.cell (p:=⟨B,2,none⟩) (by show B<_;omega)).trans V.o.2.2.1,(d.cell (p:=⟨B+1,0,none⟩) (by show B+1<_;omega)).trans V.o.2.2.2⟩
 have Hs:Hu (∀ W,Below U U W->Below w w W):=λW d=>(show Below w w U from hB ▸ hC.o).trans (d.mono (by omega))
 refine wp_region_held_drew (S:=Er B a m s) (by kernel_rfl) (Hk.o _ Hw.o) λP=>?_;refine tk 0 ?_;refine tk 1 ?_;refine tk 2 ?_;refine tk 3 ?_;refine tk 5 ?_;refine tk 6 ?_;refine tk 7 ?_;refine tk 8 ?_;refine tk 10 ?_;refine tk 11 ?_;refine tk 12 ?_;refine rd 4 λK q=>?_;go_simp
 go_wp2_with fail
 have Y:=uH s.cp a b o c m.l _ (I.o.below (Hs.o _ Hw.o)).topo Ht.o.cp I.o.good;rw [Ek] at Y;refine Y.mono ?_;rintro e W1 ⟨rfl,HY⟩;have Hp:=qI (Hw.o.trans (HY.mono (lR)));clear Y HY
 go_wp2_with fail
 refine q.o _ _ (Hk.o _ Hp.o) λP=>?_;clear q K;refine rd 9 λK q=>?_;go_simp
 go_wp2_with fail
 have HI:=uH m.op a b o c m.l _ (I.o.below (Hs.o _ Hp.o)).topo I.o.op I.o.good;rw [Ek] at HI;refine HI.mono ?_;rintro e A ⟨rfl,Hi⟩;have He:=qI (Hp.o.trans (Hi.mono Hp.o.size));clear HI Hi
 go_wp2_with fail
 refine q.o _ _ (Hk.o _ He.o) λP=>?_;clear q K;refine rd 13 λK q=>?_;go_simp
 go_wp2_with fail
 refine (Eo (cr s.cp m.l) (cr m.op m.l) m.nd own _ (by omega) (Em _ I.o.topo.len) (Em _ I.o.topo.len)).mono ?_;rintro e u ⟨E,G,rfl,H2,ht,H1⟩;have Hb:=qI (He.o.trans (H1.mono He.o.size));have HX:=qI H2;clear H1 H2 ht
 go_wp2_with fail
 refine q.o _ _ (Hk.o _ Hb.o) λP=>?_;clear q K;have Hm:=qI (Hb.o.alloc Hb.o.size (.cells #[.bool (dj (cr s.cp m.l) (cr m.op m.l) m.nd own).any,.slice E (dj (cr s.cp m.l) (cr m.op m.l) m.nd own).hs.length G] 279));refine rd 14 λK q=>?_;go_simp
 go_wp2_with fail
 refine q.o _ _ (Hk.o _ Hm.o) λP=>?_;clear q K;refine tk 15 ?_;refine Qn (by kernel_rfl) ?_ _;clear P;have he:=Hb.o.size;have Hh:=qI (show (u.alloc (.cells #[.bool (dj (cr s.cp m.l) (cr m.op m.l) m.nd own).any,.slice E (dj (cr s.cp m.l) (cr m.op m.l) m.nd own).hs.length G] 279)).ownsRow U 279 2 (.slice u 1 1) 1 (gV ((dj (cr s.cp m.l) (cr m.op m.l) m.nd own),.slice E (dj (cr s.cp m.l) (cr m.op m.l) m.nd own).hs.length G)) from World.ownsRow_lit u #[.bool (dj (cr s.cp m.l) (cr m.op m.l) m.nd own).any,.slice E (dj (cr s.cp m.l) (cr m.op m.l) m.nd own).hs.length G] 1 Hb.o.size (by unfold maxLen;omega) rfl);have Hy:Hu (cd (av (λb=>b=u.heap.size) (u.alloc (.cells #[.bool (dj (cr s.cp m.l) (cr m.op m.l) m.nd own).any,.slice E (dj (cr s.cp m.l) (cr m.op m.l) m.nd own).hs.length G] 279))) (.slice E (dj (cr s.cp m.l) (cr m.op m.l) m.nd own).hs.length G) (dj (cr s.cp m.l) (cr m.op m.l) m.nd own).hs):=HX.o.le (qw (N:=u.heap.size) ((Q0 _ _).alloc (lR) _) rfl (λj D=>by omega));have ho:Hu (wl m s own ns 0=[(dj (cr s.cp m.l) (cr m.op m.l) m.nd own)]):=by unfold Hu wl dz;simp
 generalize hWA:u.alloc (.cells #[.bool (dj (cr s.cp m.l) (cr m.op m.l) m.nd own).any,.slice E (dj (cr s.cp m.l) (cr m.op m.l) m.nd own).hs.length G] 279)=WA at *;generalize hx0:(dj (cr s.cp m.l) (cr m.op m.l) m.nd own)=x0 at *;generalize hg0:u.heap.size=g0 at *;clear hWA hx0
 go_wp2
 go_loopw [9,31] (λpv i wr=>∃ (k g t:Nat) (l:List (cG × Value)),k<=ns.length/\i=.int .i64 k/\pv=.slice g l.length t/\l.length=k+1/\l.map Prod.fst=wl m s own ns k/\wr.ownsRow U 279 2 (.slice g l.length t) l.length (l.flatMap gV)/\(∀ x∈l,cd (av (λb=>b=g) wr) x.2 x.1.hs)/\Below U U wr) (λ_ i _=>ns.length - (intOf i).toNat)
 case atStart=>exact ⟨0,g0,1,[(x0,.slice E x0.hs.length G)],by omega,rfl,rfl,rfl,by rw [ho.o];rfl,Hh.o,λx hx=>by rw [Qm.1 hx];exact Hy.o,Hm.o⟩
 case round=>
  obtain ⟨k,g,t,l,hk,rfl,rfl,H3,HT,Hl,HS,d⟩:=hrel;clear Hp He Hb Hm Hh Hy HX Hw;have hw:=qI H3;have H6:=qI HT;have Hn:=qI Hl;have HR:=qI HS;have HB:=qI d;have hJ:l.length<=101:=by omega
  have HN:=(Hl.lt g rfl);clear H3 HT Hl HS
  by_cases H:k<ns.length
  ·obtain ⟨nb,no,rfl,Hr,HL⟩:=hr.o (by omega);have Z:=Hs.o _ d;have c0:=(Z.cell (p:=⟨nb,no+k*2,none⟩) (by rw [hB];exact Hr)).trans (HL k H).1;have c1:=(Z.cell (p:=⟨nb,no+k*2+1,none⟩) (by rw [hB];exact Hr)).trans (HL k H).2;have H8:=qI (SI m s own H);have hM:(k:Int)<(ns.length:Int):=by omega
   clear HL Z;generalize ak ns k=x at *;have hq:=d.size;have X:=qI (d.alloc d.size (mN x));have hG:(wr.alloc (mN x)).heap.size=wr.heap.size+1:=by simp
   have HH:=qI (aU wr (mN x) rfl);have HZ:=qI ((Q0 wr wr).alloc (lR) (mN x));have a0:(wr.alloc (mN x)).cell? wr.heap.size=some (.string x.kind):=aa HH.o 0;have s1:(wr.alloc (mN x)).cell? ⟨B+1,1,none⟩=some (.pointer (some ⟨f,0,none⟩)):=aa ((X.o.block (B+1) (by omega)).trans H4.o) 1;have Hx:=qI (I5 x.kind (wr.alloc (mN x)) f db ao pc s.ds s.us (Ht.o.below (Hs.o _ X.o)).pool Ht.o.nodes);have Hc:=qI λ(W:World)=>Eo (ln (bz s.ds s.us x.kind) s.ds) (ln (cJ s.ds x.kind) s.ds) m.nd x.many W (by omega) (En _ Ht.o.nodes.1) (En _ Ht.o.nodes.1);unfold v4 ln at Hc;dsimp only at Hc;unfold ln at H8;unfold ve at Hx;dsimp only at Hx;generalize bd (bz s.ds s.us x.kind) s.ds 0 s.ds.length=f0 at *;generalize bd (bz s.ds s.us x.kind) s.ds 1 s.ds.length=f1 at *;generalize bd (bz s.ds s.us x.kind) s.ds 2 s.ds.length=f2 at *;generalize bd (bz s.ds s.us x.kind) s.ds 3 s.ds.length=f3 at *;generalize bd (cJ s.ds x.kind) s.ds 0 s.ds.length=L at *;generalize bd (cJ s.ds x.kind) s.ds 1 s.ds.length=M at *;generalize bd (cJ s.ds x.kind) s.ds 2 s.ds.length=O at *;generalize bd (cJ s.ds x.kind) s.ds 3 s.ds.length=J at *;generalize hy:dj ⟨f0,f1,f2,f3⟩ ⟨L,M,O,J⟩ m.nd x.many=y at *;clear d
   go_wp2_with fail
   generalize wr.alloc (mN x)=WB at *;refine Hx.o.mono ?_;rintro e A ⟨rfl,Hi⟩;have He:=qI (X.o.trans (Hi.mono (by omega)));have HJ:=qI ((Hi.block wr (by omega)).trans HH.o);have HD:=qI (HZ.o.trans (Hi.mono (by omega)));have hL:=Hi.size;clear Hx a0 s1 c0 c1 Hi X HH HZ;have R:=((Q0 A A).alloc (lR) (kJ f0 f1 f2 f3)).alloc (by simp) (kJ L M O J);have hI:((A.alloc (kJ f0 f1 f2 f3)).alloc (kJ L M O J)).heap.size=A.heap.size+2:=by simp
   have Hb:=qI (He.o.trans (R.mono He.o.size));have HP:=qI (HD.o.trans (R.mono HD.o.size));have b1:A.cell? ⟨wr,1,none⟩=some (.int .i64 x.many):=aa HJ.o 1;have b2:A.cell? ⟨B,2,none⟩=some (.int .u8 m.nd):=(Hk.o _ He.o).2.2.1;have b3:((A.alloc (kJ f0 f1 f2 f3)).alloc (kJ L M O J)).cell? ⟨wr,1,none⟩=some (.int .i64 x.many):=aa ((R.block wr (by omega)).trans HJ.o) 1;have b4:((A.alloc (kJ f0 f1 f2 f3)).alloc (kJ L M O J)).cell? ⟨B,2,none⟩=some (.int .u8 m.nd):=(Hk.o _ Hb.o).2.2.1;clear R HJ He HD
   go_wp2_with fail
   generalize ((A.alloc (kJ f0 f1 f2 f3)).alloc (kJ L M O J))=u at *;refine (Hc.o u).mono ?_;rintro e C ⟨Hf,Hg,rfl,HW,H0,Hz⟩;have Hm:=qI (Hb.o.trans (Hz.mono Hb.o.size));have Ho:=qI (HP.o.trans (Hz.mono HP.o.size));have Hy:Hu (cd (av (λb=>b=g) C) (.slice Hf y.hs.length Hg) y.hs):=SH HW (λb o hN=>by have:=H0 b o hN;omega);have Hq:=qI (show C.ownsRow U 279 2 (.slice g l.length t) l.length (l.flatMap gV) from SN Hn.o (Ho.o.block g HN.2));have hH:=Hz.size;have H5:=qI (SK C (y,.slice Hf y.hs.length Hg) 279);dsimp only at H5;have hf:U.heap.size<=(C.alloc (.cells #[y.any,.slice Hf y.hs.length Hg] 279)).heap.size:=by simp;omega
   clear b1 b2 b3 b4 HW Hz H0 Hc
   go_wp2_with (at_builtin;refine wpList_append_lies _ rfl _ _ 234 rfl U 279 i0 (.agg #[false,.slice none 0 0]) 2 32 underlying234 hi hp hg hA rfl (by decide) _ _ _ rfl (Hq.o.alloc _) ⟨_,0,none⟩ 1 1 (gV (y,.slice Hf y.hs.length Hg)) rfl rfl H5.o (SL _ _ _ _) (by decide) (by unfold maxLen;omega) (by omega) hf (C.heap.size+1) (by simp) ?_;intro T F W6 Hj Ha HU H9)
   have hh:(C.alloc (.cells #[y.any,.slice Hf y.hs.length Hg] 279)).heap.size=C.heap.size+1:=by simp
   have HO:Hu (∀ j,j<C.heap.size->j≠g->W6.heap[j]?=C.heap[j]?):=λj D r=>(Ha.block j (by omega) λe=>r (by injection e)).trans (Below.heap_alloc _ _ _ D)
   have hE:T=g\/T=C.heap.size+1:=by rcases HU with h|h;exact .inl (by injection h with h;exact h.symm);exact .inr h
   have hF:=Ha.size;have Hv:Hu (W6.ownsRow U 279 2 (.slice T (l++[(y,Value.slice Hf y.hs.length Hg)]).length F) (l++[(y,Value.slice Hf y.hs.length Hg)]).length ((l++[(y,Value.slice Hf y.hs.length Hg)]).flatMap gV)):=by
    unfold Hu;rw [Q2,List.flatMap_append]
    simpa using Hj
   have hu:=qI ((Hm.o.alloc Hm.o.size _).grown Ha (by omega) (λj D=>by cases D;exact HN.1));clear Hj Ha HU
   go_roundw
   case rel=>
    refine ⟨k+1,T,F,l++[(y,Value.slice Hf y.hs.length Hg)],by omega,by go_num,by rw [Q2];rfl,by rw [Q2,hw.o];rfl,by rw [Qj,H6.o,H8.o];rfl,Hv.o,λz Q=>?_,hu.o⟩
    rcases Qi.1 Q with Q|Q
    ·refine (HR.o z Q).le (bP (λj D r=>⟨by have:=Ho.o.size;omega,?_⟩) (by have:=Ho.o.size;omega));rw [HO.o j (by have:=Ho.o.size;omega) r];exact Ho.o.block j D
    ·rw [Qm.1 Q];exact Hy.o.le (bP (λj D r=>⟨by omega,HO.o j D r⟩) (by omega))
   case measure=>simp [intOf];omega
  ·have H7:k=ns.length:=by omega
   have HE:Hu (jg wr (.slice g l.length t) (dz m s own ns)):=by
    unfold Hu;have e:dz m s own ns=l.map Prod.fst:=by rw [H6.o,H7,wl,Qh]
    rw [e];exact SO Hn.o λx hx=>(HR.o x hx).le (dm _ _)
   clear H7
   go_wp2
   go_ret;exact ⟨_,rfl,HE.o,Hs.o _ HB.o⟩
