import Derived.Test.YtjlblidnfebmiaaGreatDoorY34
import Derived.Test.YtjlblidnfebmiaaGreatDoorY28
import Derived.Deep.DeepCutAuto
set_option maxRecDepth 100000
set_option maxHeartbeats 16000000
open Go Go.RowKit Go.Shelf
attribute [local go_sem] Oper.semAt_some
open Go.Proofs.Tryz
namespace Go.Proofs.YtjlblidnfebmiaaGreatDoor
variable{L l:List Nat}{U W w:World}{base:Nat}{g:Option Nat}{m:aJ}{ns:List ak}{own:Int}{s:aC}{v:Value}
theorem lY{fn:Func}{p u:Tmp}{b:TypeId}(h:fn.results=#[.cell p b,.tmp u])(tmps:Array Value)(P:Program)(w:World) :
  (results fn tmps).run P w=((asAddr (tmps.getD p undef)).run P w).andThen λa d=>((loadVar b a).run P d).andThen λv c=>.ok (.tuple #[v,tmps.getD u undef]) c:=by
 simp_all[results]
theorem oB(h:w.grownBy W g){b:Nat}(d:w<=b)(j:Nat)(v:Value):w.grownBy (W.setCell ⟨b,j,none⟩ v) g:=
 ⟨h.os,h.tape,h.output,by simpa using h.size,λk c a=>(Below.heap_setCell _ _ _ _ (by show k≠b;omega)).trans (h.block k c a)⟩
theorem grown_of(a:Bw w U)(h:U.grownBy W g):w.grownBy W g:=
 ⟨h.os.trans a.os,h.tape.trans a.tape,h.output.trans a.output,Q5 a.size h.size,λk b c=>(h.block k (Q1 b a.size) c).trans (a.block k b)⟩
theorem WW(h:w.grownBy U g)(a:Bw U W):w.grownBy W g:=
 ⟨a.os.trans h.os,a.tape.trans h.tape,a.output.trans h.output,Q5 h.size a.size,λk b c=>(a.block k (Q1 b h.size)).trans (h.block k b c)⟩
theorem WY(h:w.grownBy U g)(k:U.grownBy W g):w.grownBy W g:=
 ⟨k.os.trans h.os,k.tape.trans h.tape,k.output.trans h.output,Q5 h.size k.size,λj b a=>(k.block j (Q1 b h.size) a).trans (h.block j b a)⟩
theorem GZ{ds:List aq}{us:Nat->Bool}{kind:ByteArray}{m n:Nat}:(dB ds us kind m n).Nodup:=uj ds us kind m n
theorem Xa(h:∀j∈L,j<16)(a:L.Nodup):L.length<=16:=by
 have:=List.Nodup.length_le_of_subset (l₂:=List.range 16) a (λj b=>List.mem_range.2 (h j b))
 simpa using this
theorem tG{W':World}{e:TypeId}{sz:Nat}{n:Nat}{d:List Value}(h:W.ownsRow base e sz v n d)(f:∀g,v.ownBlock=some g->W'.heap[g]?=W.heap[g]?):W'.ownsRow base e sz v n d:=by
 obtain⟨b,k|⟨g,c,a,rfl,r1,j,i⟩⟩:=h
 ·exact⟨b,.inl k⟩
 ·exact⟨b,.inr ⟨g,c,a,rfl,r1,(f g rfl).trans j,i⟩⟩
theorem Xb{g:Nat}(h:∀k,k<l.length->W.cell? ⟨g,0+k,none⟩=some (.int .i64 (bx (ints l) k))):∀j u,(dh l)[j]?=some u->W.cell? ((g:Addr).add j)=some u:=by
 grind[Addr.add_lit,dh,ints,bx]
theorem Xc{N:Nat}(h:Row W base v l)(f:N<=base):bK (fresh N W) v (l.map λ(k:Nat)=>(k:Int)):=by
 unfold Row at h;have e:=h
 rcases h.2 with⟨rfl,d⟩|⟨g,a,c,rfl,i,Ha,Hb,Hc,_⟩
 ·have:=Qe d
  subst this;exact⟨none,0,rfl,⟨lR,Nat.zero_le _⟩,λh=>absurd h (Nat.lt_irrefl 0)⟩
 ·refine⟨_,a,by rw[Q9],by grind,λ_=>⟨g,0,rfl,by grind[cC],λk b=>?_⟩⟩;rw[Q9] at b;rw[kR (by omega),Qd,e.cellAt k (by omega)]
  simp[dh,b]
theorem Xd(b:∀j∈L,j<16)(f:L.Nodup){wr:World}{B:Nat}{a:Option Addr}{c:Nat}(h:Row wr B (.slice a L.length c) L)(p:L.length<=1000) :
  Calls pg 134 #[.slice a L.length c] wr λe w'=>e=.returned (.tuple #[])/\Row w' B (.slice a L.length c) (bV L)/\wr.grownBy w' (Value.slice a L.length c).ownBlock:=by
 have Hb:=ul b f
 by_cases d:L.length=0
 ·have k:L=[]:=Qe d;subst k;refine (Any.slices_Sort_int_none Tryz.sortL9 _ _ _).e ?_;exact⟨rfl,h,xP⟩
 ·rcases h.2 with⟨i,n⟩|⟨g,l,m,i,o,Ha,Hf,He,Hc,Hg⟩
  ·exact absurd n d
  ·injection i with e1 e2 e3
   subst e1 e3
   have:=Dl b f o Ha Hf He Hc (by grind) (by omega)
   rw[Hb] at this;exact this
theorem G0{ws:List cY}{b:Nat}{d a:Bool}(h:((b,d),a)=gi m ws)(e:1<=m.nd/\m.nd<=15):b<256:=by
 unfold gi at h
 by_cases c:m.pol=0
 ·grind
 ·rw[if_neg c] at h
  have:b=(ot m.pol m.nd ws).1:=congrArg (λx=>x.1.1) h
  rw[this];exact TE (by omega)
theorem Xe{ds:List aq}{on:Nat}{k:Nat}(h:k<ns.length)(us:Nat->Bool)(a:List Nat):dS ds on (ns.drop k) us a=if ez ds us (ar ns k).kind (ar ns k).many=0 then dS ds on (ns.drop (k+1)) (fk us (dB ds us (ar ns k).kind on (ar ns k).many.toNat)) (a++bV (dB ds us (ar ns k).kind on (ar ns k).many.toNat)) else (ez ds us (ar ns k).kind (ar ns k).many,us,a):=by
 grind[ar,List.drop_eq_getElem_cons,dS]
theorem Xf{a:aK}(h:(a,false)=gi m (ed m s own ns)):bM m s own ns=(10,⟨0,[]⟩,s.us):=by
 grind[bM]
theorem Xg{a:aK}(h:(a,true)=gi m (ed m s own ns))(b:(bT m.l s.cp own (aB (bD a.1) m.l)).2≠0):bM m s own ns=((bT m.l s.cp own (aB (bD a.1) m.l)).2.toNat,⟨0,[]⟩,s.us):=by grind[bM,bT,aB]
theorem Xh{a:aK}(h:(a,true)=gi m (ed m s own ns))(b:(bT m.l s.cp own (aB (bD a.1) m.l)).2=0):bM m s own ns=if (dS s.ds a.1 ns s.us []).1≠0 then ((dS s.ds a.1 ns s.us []).1,⟨0,[]⟩,(dS s.ds a.1 ns s.us []).2.1) else (0,⟨(bT m.l s.cp own (aB (bD a.1) m.l)).1,(bV (dS s.ds a.1 ns s.us []).2.2).map λ(k:Nat)=>(k:Int)⟩,(dS s.ds a.1 ns s.us []).2.1):=by
 unfold bM;rw[<- h];have Ha:¬ (bT m.l s.cp own (aB (λc=>a.1.testBit c.node.toNat) m.l)).2≠0:=λk=>k b
 simp only[Bool.true_eq_false,if_false,if_neg Ha];rfl
theorem Xi(l:List ap)(F:Nat)(L:Int)(on:Nat):(bT l F L on).2=0\/((bT l F L on).2≠0/\(bT l F L on).1=0/\(((bT l F L on).2.toNat:Nat):Int)=(bT l F L on).2/\(bT l F L on).2.toNat≠0):=by
 grind[bT]
abbrev rq:=λ(x0:Nat) (x1:aJ)=>(.cells #[x0,.int .u64 x1.op,.int .u8 x1.nd,(x1.nb:Int),(x1.pol:Int)] 84:Obj)
abbrev mU:=λ(x0:ak)=>(.cells #[x0.kind,(x0.many:Int)] 127:Obj)
abbrev rr:=λ(x0:aC) (x1:Nat)=>(.cells #[.int .u64 x0.cp,x1] 87:Obj)
abbrev G3:=λ(B tb:Nat) (m:aJ) (s:aC) (pb:Nat) (w':World)=>cl w' B (0) tb/\cl w' B (1) (.int .u64 m.op)/\cl w' B (2) (.int .u8 m.nd)/\cl w' B (3) (m.nb:Int)/\cl w' B (4) (m.pol:Int)/\cl w' (B+1) (0) (.int .u64 s.cp)/\cl w' (B+1) (1) pb
theorem Xj{m:aJ}{s:aC}{A b o c d db:Nat}{N:Option Addr}{M:Nat}(own:Int){v:Value}{ns:List ak}{w:World}(hm:ey w A b o c m)(hs:eS w d db N M s)(hv:bC (av (λj=>j=d) w) v ns)(hl:ns.length<=3)(E:∀n∈ns,1<=n.many) :
  Calls prog 92 #[mV m A,sV s d,(own:Int),v] w λe w'=>(∃ua un uc,e=.returned (.tuple #[.agg #[.int .u64 (bM m s own ns).2.1.cp,.slice ua un uc],aD ((bM m s own ns).1:Nat)])/\((bM m s own ns).1=0->bK (fresh w w') (.slice ua un uc) (bM m s own ns).2.1.dv/\aM w' d db N M s.ds (bM m s own ns).2.2))/\w.grownBy w' (some d):=by
 obtain⟨i0,hi,JO,Jv,Jt⟩:=info_parts xN;unfold mV sV;have HM:=qI hm;have Hj:=qI hs;have h4:=qI (hv.le (df));have JW:=qI hv;have HV:=qI E;have JN:=hs.pool.lt;have hZ:=hm.nd;obtain⟨pl,hW⟩:∃x,x=gi m (ed m s own ns):=⟨_,rfl⟩;have HY:=qI hW;have HL:=qI λ(W:World) (u:Value) (hu:kf W u (ed m s own ns))=>WN (m:=m) (s:=s) (own:=own) (ns:=ns) (v:=u) (w:=W) hu hl hm.nd hm.pol;rw[<- hW] at HL;clear hW;obtain⟨⟨r,pg⟩,Z5⟩:=pl;dsimp only at HL;obtain⟨na,nc,rfl,JD,Jh⟩:=hv;unfold maxLen at JD;have JE:=qI Jh;have sz:(((w.alloc (rq A m)).alloc (rr s d)).alloc (.cells #[.int .u64 0,.slice none 0 0] 123)).heap.size=w.heap.size+3:=by simp
 have h9:=qI (aY ((w.alloc (rq A m)).alloc (rr s d)) (.cells #[.int .u64 0,.slice none 0 0] 123) (n:=w.heap.size+2) (by simp));have hE:=qI (bQ (aY (w.alloc (rq A m)) (rr s d) (n:=w.heap.size+1) (by simp)) (.cells #[.int .u64 0,.slice none 0 0] 123));have HS:=qI (bQ (bQ (aY w (rq A m) rfl) (rr s d)) (.cells #[.int .u64 0,.slice none 0 0] 123));have Jc:=qI ((((Q0 w w).alloc (lR) (rq A m)).alloc (by simp) (rr s d)).alloc (by simp;omega) (.cells #[.int .u64 0,.slice none 0 0] 123));clear hm hs Jh E
 go_enter func92,ntmps92
 go_upto_region 1 with fail
 generalize (((w.alloc (rq A m)).alloc (rr s d)).alloc (.cells #[.int .u64 0,.slice none 0 0] 123))=U at *;generalize hB:w.heap.size=B at *;have Hn:Hu (∀W,Below U U W->Below w w W):=λW t=>(show Below w w U from hB ▸ Jc.o).trans (t.mono (by omega))
 have Hh:Hu (∀W,Below U U W->(G3 B A m s d) W):=λW t=>⟨ad ((t.block (B) (by omega)).trans HS.o) 0,ad ((t.block (B) (by omega)).trans HS.o) 1,ad ((t.block (B) (by omega)).trans HS.o) 2,ad ((t.block (B) (by omega)).trans HS.o) 3,ad ((t.block (B) (by omega)).trans HS.o) 4,ad ((t.block (B+1) (by omega)).trans hE.o) 0,ad ((t.block (B+1) (by omega)).trans hE.o) 1⟩
 go_cut [10,11,12] (λzr zq zd wc=>∃H,zr=.pointer (some ⟨H,0,none⟩)/\zq=.bool Z5/\zd=.nilIface/\wc.heap[H]?=some (.cells #[.int .u8 (r:Nat),pg] 231 (0,0))/\U.heap.size<=H/\Below U U wc)
 case first=>
  have Hm:Hu (Below U U U.drew):=bO (Q0 _ _);refine wp_region_held_drew (S:=G3 B A m s d) (by kernel_rfl) (Hh.o _ Hm.o) λI=>?_;generalize U.drew=V at *;refine tk 0 ?_;refine tk 1 ?_;refine tk 2 ?_;refine tk 3 ?_;refine tk 4 ?_;refine tk 5 ?_;refine tk 6 ?_;refine tk 7 ?_;refine rd2 8 14 (λK f=>?_) λK f=>?_
  focus
   go_simp
   go_wp2_with fail
   refine (GY (m:=m) (s:=s) (a:=A) (b:=b) (o:=o) (c:=c) (d:=d) (db:=db) (ao:=N) (pc:=M) own (ns:=ns) (w:=V) (HM.o.below (Hn.o _ Hm.o)) (Hj.o.below (Hn.o _ Hm.o)) (h4.o.below (Hn.o _ Hm.o)) (by omega)).mono ?_;rintro e q ⟨v1,rfl,h6,O⟩;have Hc:=qI (Hm.o.trans (O.mono Hm.o.size));have hY:=qI h6;clear h6 O
   go_wp2_with fail
   refine f.o _ _ (Hh.o _ Hc.o) λI=>?_;clear f K;refine rd2 9 14 (λK f=>?_) λK f=>?_
   focus
    go_simp
    go_wp2_with fail
    refine (HL.o q _ hY.o).mono ?_;rintro e X ⟨rfl,Ji⟩;have hr:=qI (Hc.o.trans (Ji.mono Hc.o.size));clear Ji
    go_wp2_with fail
    refine f.o _ _ (Hh.o _ hr.o) λI=>?_;clear f K;refine tk 10 ?_;refine tk 11 ?_;refine tk 12 ?_;refine tk 13 ?_;refine rd 14 λK f=>?_;have Z:=qI (hr.o.alloc hr.o.size (.cells #[.int .u8 0,false] 231));have Q:=qI (aY X (.cells #[.int .u8 0,false] 231) rfl);have JG:X.heap.size<(X.alloc (.cells #[.int .u8 0,false] 231)).heap.size:=by simp
    have Hg:=hr.o.size;go_simp
    go_wp2_with fail
    refine f.o _ _ (Hh.o _ Z.o) λI=>?_;clear f K;generalize X.alloc (.cells #[.int .u8 0,false] 231)=WQ at *;generalize X.heap.size=T at *
   rotate_left
   focus
    have hN:=qI (Hc.o.alloc Hc.o.size (.cells #[.int .u8 0,false] 231));have Jy:=qI (aY q (.cells #[.int .u8 0,false] 231) rfl);have HX:q.heap.size<(q.alloc (.cells #[.int .u8 0,false] 231)).heap.size:=by simp
    have Hg:=Hc.o.size;have JK:=qI (hY.o.below ((Q0 _ _).alloc (lR) (.cells #[.int .u8 0,false] 231)));go_simp
    go_wp2_with fail
    refine f.o _ _ (Hh.o _ hN.o) λI=>?_;clear f K;generalize q.alloc (.cells #[.int .u8 0,false] 231)=D at *;refine rd 9 λK f=>?_;go_simp
    go_wp2_with fail
    refine (HL.o D _ JK.o).mono ?_;rintro e WQ ⟨rfl,hp⟩;have Z:=qI (hN.o.trans (hp.mono hN.o.size));have Q:=qI ((hp.block _ HX).trans Jy.o);have Ju:=Q1 HX hp.size;clear hp
    go_wp2_with fail
    refine f.o _ _ (Hh.o _ Z.o) λI=>?_;clear f K;refine tk 10 ?_;refine tk 11 ?_;refine tk 12 ?_;refine tk 13 ?_;generalize q.heap.size=T at *
  rotate_right
  focus
   have HP:=qI (Hm.o.alloc Hm.o.size (.cells #[.int .u8 0,false] 231));have JR:=qI (aY V (.cells #[.int .u8 0,false] 231) rfl);have hf:V.heap.size<(V.alloc (.cells #[.int .u8 0,false] 231)).heap.size:=by simp
   have Hg:=Hm.o.size;go_simp
   go_wp2_with fail
   refine f.o _ _ (Hh.o _ HP.o) λI=>?_;clear f K;generalize V.alloc (.cells #[.int .u8 0,false] 231)=W8 at *;refine rd 8 λK f=>?_;go_simp
   go_wp2_with fail
   refine (GY (m:=m) (s:=s) (a:=A) (b:=b) (o:=o) (c:=c) (d:=d) (db:=db) (ao:=N) (pc:=M) own (ns:=ns) (w:=W8) (HM.o.below (Hn.o _ HP.o)) (Hj.o.below (Hn.o _ HP.o)) (h4.o.below (Hn.o _ HP.o)) (by omega)).mono ?_;rintro e W9 ⟨v9,rfl,h3,hh⟩;have hx:=qI (HP.o.trans (hh.mono HP.o.size));have Jl:=qI h3;have JM:=qI ((hh.block _ hf).trans JR.o);have H7:=Q1 hf hh.size;clear h3 hh
   go_wp2_with fail
   refine f.o _ _ (Hh.o _ hx.o) λI=>?_;clear f K;refine rd 9 λK f=>?_;go_simp
   go_wp2_with fail
   refine (HL.o W9 _ Jl.o).mono ?_;rintro e WQ ⟨rfl,Hk⟩;have Z:=qI (hx.o.trans (Hk.mono hx.o.size));have Q:=qI ((Hk.block _ H7).trans JM.o);have Jg:=Q1 H7 Hk.size;clear Hk
   go_wp2_with fail
   refine f.o _ _ (Hh.o _ Z.o) λI=>?_;clear f K;refine tk 10 ?_;refine tk 11 ?_;refine tk 12 ?_;refine tk 13 ?_;generalize V.heap.size=T at *
  all_goals
   refine rd 15 λK f=>?_;have z7:WQ.cell? T=some (.int .u8 0):=ad Q.o 0;have z8:WQ.cell? ⟨T,1,none⟩=some (.bool false):=ad Q.o 1;have z6:=bZ Q.o 0;have zz:=bZ Q.o 1;have Jd:=qI ((Z.o.setCell (p:=T) Hg (.int .u8 (r:Nat))).setCell (p:=⟨T,1,none⟩) Hg pg);have JI:=qI (bd (bd Q.o 0 (.int .u8 (r:Nat))) 1 pg);go_simp
   go_wp2_with fail
   refine f.o _ _ (Hh.o _ Jd.o) λI=>?_;clear f K;refine tk 16 ?_;refine tk 17 ?_;refine Qn (by kernel_rfl) ?_ _
   go_wp2
   go_meet
   exact⟨_,rfl,rfl,rfl,JI.o,Hg,Jd.o⟩
 case rest=>
  obtain⟨H,rfl,rfl,rfl,hH,JH,hI⟩:=hcut;have h1:=qI hH;have H4:=qI hI;have Jj:Hu (∀W,U.grownBy W (some d)->w.grownBy W (some d)):=λW h=>grown_of (show Below w w U from hB ▸ Jc.o) h
  have Jx:=hI.size;have Jm:H<wc.heap.size:=(gS hH).1;have JT:d<B:=by omega
  clear HL hH hI
  rcases two Z5 with HH|HH
  ·subst HH;obtain⟨q0,q1,q2,q3,q4,q5,q6⟩:=Hh.o _ H4.o;have p0:wc.cell? ⟨H,0,none⟩=some (.int .u8 (r:Nat)):=ad h1.o 0;have HK:=qI (S8 (a:=A) (b:=b) (o:=o) (c:=c) s.cp r own (l:=m.l) (w:=wc) (HM.o.below (Hn.o _ H4.o)).topo HM.o.good Hj.o.cp (G0 HY.o hZ));obtain⟨tk,hR⟩:∃x,x=bT m.l s.cp own (aB (bD r) m.l):=⟨_,rfl⟩;have HT:=qI hR;have Hr:=Xi m.l s.cp own (aB (bD r) m.l);rw[<- hR] at HK Hr;clear hR
   go_wp2_with fail
   refine HK.o.mono ?_;rintro e q ⟨rfl,O⟩;have Hc:=qI (H4.o.trans (O.mono Jx));have J2:=O.size;have JL:=qI ((O.block H Jm).trans h1.o);have Y:=qI ((Hc.o.block (B+2) (by omega)).trans h9.o);clear O q0 q1 q2 q3 q4 q5 q6 p0 HK;obtain⟨G,te⟩:=tk;unfold mK;dsimp only at Hr ⊢
   rcases Hr with Hr|⟨Hr,hU,H5,hV⟩
   ·subst Hr;rw[show aD (0:Int)=.nilIface from rfl];have Jf:=qI (Xh HY.o (by rw[<- HT.o]));rw[<- HT.o] at Jf;dsimp only at Jf;have hF:Hu (aM q d db N M s.ds s.us):=Hj.o.pool.below (Hn.o _ Hc.o);have Jq:=G0 HY.o hZ
    go_wp2
    go_loopw [14,58] (λpv i wr=>∃(k:Nat) (us:Nat->Bool) (a:List Nat),k<=ns.length/\i=.int .i64 k/\Row wr q pv a/\aM wr d db N M s.ds us/\dS s.ds r ns s.us []=dS s.ds r (ns.drop k) us a/\a.length<=16*k/\Apart (λj=>j=d\/q.heap.size<=j) q wr) (λ_ i _=>ns.length - (intOf i).toNat)
    case atStart=>exact⟨0,s.us,[],by omega,rfl,Qw _ _ _ _,hF.o,by rw[List.drop_zero],by simp,Apart.refl _ _⟩
    case round=>
     obtain⟨k,us,a,hk,rfl,HB,Ht,H8,JU,Hb⟩:=hrel;have Hl:=qI HB;have Hq:=qI Ht;have hG:=qI H8;have Jn:=qI Hb;have JV:=Hb.size;obtain⟨y,vc,Jp⟩:=fI HB;subst Jp;clear HB Ht H8;have Hs:Hu (w.grownBy wr (some d)):=grown_of (Hn.o _ Hc.o) ⟨Hb.os,Hb.tape,Hb.output,Hb.size,λj z hn=>Hb.block j z (λh=>by grind)⟩;have Jk:=qI ((Hb.block H (by omega) (by omega)).trans JL.o);have h5:=qI ((Hb.block (B+2) (by omega) (by omega)).trans Y.o);have JA:=qI ((Hb.block (B+1) (by omega) (by omega)).trans ((Hc.o.block (B+1) (by omega)).trans hE.o))
     by_cases J:k<ns.length
     ·obtain⟨nb,no,rfl,hz,hy⟩:=JE.o (by omega);rw[cC] at hz;have m0:=(hy k J).1;have m1:=(hy k J).2;have hD:some nb≠some d:=λe=>eB m0 (by injection e)
      have c0:wr.cell? ⟨nb,no+k*2,none⟩=some (.string (ar ns k).kind):=(Hs.o.cell_far ⟨nb,no+k*2,none⟩ (by omega) hD).trans ((df).cell _ _ _ m0);have c1:wr.cell? ⟨nb,no+k*2+1,none⟩=some (.int .i64 (ar ns k).many):=(Hs.o.cell_far ⟨nb,no+k*2+1,none⟩ (by omega) hD).trans ((df).cell _ _ _ m1);have JS:=HV.o (ar ns k) (by simp[ar,J]);have JC:=qI (Xe (ds:=s.ds) (on:=r) J us a);have J0:(k:Int)<(ns.length:Int):=by omega
      clear hy m0 m1 hD;generalize ar ns k=x at *;have ho:=qI ((Q0 wr wr).alloc (lR) (mU x));have hX:=qI (aY wr (mU x) rfl);have a0:(wr.alloc (mU x)).cell? wr.heap.size=some (.string x.kind):=ad hX.o 0;have a1:(wr.alloc (mU x)).cell? ⟨wr,1,none⟩=some (.int .i64 x.many):=ad hX.o 1;have s1:(wr.alloc (mU x)).cell? ⟨B+1,1,none⟩=some (.pointer (some ⟨d,0,none⟩)):=ad (bQ JA.o _) 1;have p0:(wr.alloc (mU x)).cell? ⟨H,0,none⟩=some (.int .u8 (r:Nat)):=ad (bQ Jk.o _) 0;have HK:=qI (Oj x.kind x.many r (w:=wr.alloc (mU x)) (a:=d) (db:=db) (b:=N) (c:=M) (ds:=s.ds) (us:=us) (Hq.o.alloc _) Hj.o.nodes Jq);have J1:(wr.alloc (mU x)).heap.size=wr.heap.size+1:=by simp
      clear Hb
      go_wp2_with fail
      generalize wr.alloc (mU x)=X at *;refine HK.o.mono ?_;rintro e W3 ⟨hL,HI,HW⟩;have JZ:=HW.size;have H2:=qI ((HW.block (B+2) (by omega) (λe=>by injection e with e;omega)).trans ((ho.o.block (B+2) (by omega)).trans h5.o));have hT:=qI (WY (WW Hs.o ho.o) HW);clear a0 a1 s1 p0 c0 c1 HK
      by_cases C:ez s.ds us x.kind x.many=0
      ·obtain⟨v3,g3,rfl,H9,H6,Hf⟩:=HI C;clear hL HI H6;have Hz:=qI Hf;have JQ:=Fr (m:=r) C;have HF:∀j∈dB s.ds us x.kind r x.many.toNat,j<16:=λj z=>by have:=(oR z).1;have:=Hj.o.nodes.1;omega
       have Jo:=ul HF (GZ);have hle:=Xa HF (GZ);have JJ:Hu (dS s.ds r ns s.us []=dS s.ds r (ns.drop (k+1)) (fk us (dB s.ds us x.kind r x.many.toNat)) (a++bV (dB s.ds us x.kind r x.many.toNat))):=by
        simp_all[Hu]
       clear C;generalize dB s.ds us x.kind r x.many.toNat=L3 at *;generalize fk us L3=zs at *;have hq:1<=(bV L3).length/\(bV L3).length<=16:=by omega
       clear JQ HF Jo hle JC;obtain⟨a3,c3,rfl,ht⟩:=H9;generalize bV L3=R at *;have Ja:(ints R).length=R.length:=sG _;rw[Ja] at ht ⊢;clear Ja;obtain⟨JP,JX,Je⟩:=ht (by omega);subst JP;have Ho:∀b,(Value.slice y a.length vc).ownBlock=some b->q.heap.size<=b/\b<wr.heap.size:=λb t=>Hl.o.lt b t
       have ha:=qI (show Row W3 q (.slice y a.length vc) a from tG Hl.o λg hg=>(HW.block g (by have:=(Ho g hg).2;omega) (λe=>by injection e with e;have:=(Ho g hg).1;omega)).trans (ho.o.block g (Ho g hg).2));have Jz:=qI (Xb (l:=R) (g:=g3) Je);have He:=qI Hj.o.pool.at0;clear Je ht Hf;dsimp only;rw[show (aD (((0:Nat)):Int))=.nilIface from rfl]
       go_wp2_with (at_builtin;refine wpList_append_own _ rfl _ _ 46 rfl q 3 i0 (0:Int) 1 8 underlying46 hi JO Jv Jt rfl (by decide) _ _ _ rfl ha.o g3 (R).length c3 (dh (R)) rfl (by simp[xU]) Jz.o (xW _) (by unfold maxLen;omega) (by omega) (by omega) ?_;intro v4 W4 hc HG _)
       have H3:Hu (Row W4 q v4 (a++R)):=by
        grind[Hu,Row,dh]
       have Hx:=qI (Hz.o.kept HG (λe=>by have:=(Ho d e.symm).1;omega) (λP e=>by have:=(Ho db e.symm).1;have:=(He.o P).2.2;omega));have hJ:Hu (Apart (λj=>j=d\/q.heap.size<=j) q W4):=(Jn.o.trans (Apart.of_below ho.o)).trans ((fv HW λj z _=>.inl (by grind)).trans (fv HG λj z _=>.inr (Ho j z).1));clear hc HG
       go_roundw
       case rel=>exact⟨k+1,zs,a++R,by omega,by go_num,H3.o,Hx.o,JJ.o,by grind,hJ.o⟩
       case measure=>simp[intOf];omega
      ·obtain⟨rfl,Js⟩:=hL C;have Hv:Hu (bM m s own ns=(ez s.ds us x.kind x.many,⟨0,[]⟩,us)):=by
        simp_all[Hu]
       have he:Hu ((bM m s own ns).1≠0):=by simp_all[Hu]
       have Hy:=eW C;have hP:=qI Hy;dsimp only;rw[Hy];clear hL HI C Js Hy;generalize ez s.ds us x.kind x.many=tf at *;have j0:W3.cell? (B+2:Nat)=some (.int .u64 0):=ad H2.o 0;have j3:W3.cell? ⟨B+2,1,none⟩=some (.slice none 0 0):=ad H2.o 1;have Z1:=bZ H2.o 0;have Z2:=bZ H2.o 1;have h7:=qI (bd (bd H2.o 0 (.int .u64 0)) 1 (.slice none 0 0));have hM:=qI (oB (oB hT.o (b:=B+2) (by omega) 0 (.int .u64 0)) (b:=B+2) (by omega) 1 (.slice none 0 0))
       go_wp2_with fail
       generalize ((W3.setCell (B+2:Nat) (.int .u64 0)).setCell ⟨B+2,1,none⟩ (.slice none 0 0))=F at *;(try simp only[Exit.inBlock,Exit.then]);refine bodyPost_ret (v:=.tuple #[.agg #[.int .u64 0,.slice none 0 0],.iface 108 (.int .i64 (tf:Nat))]) ?_ rfl ⟨⟨none,0,0,by rw[Hv.o];dsimp only;rw[hP.o];rfl,λh=>absurd h he.o⟩,hM.o⟩;have r0:F.cell? (B+2:Nat)=some (.int .u64 0):=ad h7.o 0;have r1:F.cell? ⟨B+2,1,none⟩=some (.slice none 0 0):=ad h7.o 1;rw[lY rfl];clear j0 j3 Z1 Z2;go_simp
     ·have Jw:k=ns.length:=by omega
      subst Jw;have Jb:Hu (dS s.ds r ns s.us []=(0,us,a)):=by unfold Hu;rw[hG.o,List.drop_length];rfl
      have Hv:Hu (bM m s own ns=(0,⟨G,(bV a).map λ(k:Nat)=>(k:Int)⟩,us)):=by
       grind[Hu]
      obtain⟨KG,HJ,Hi⟩:=Fs Hj.o.nodes.1 r ns s.us [] (by rw[Jb.o]);rw[Jb.o,List.nil_append] at HJ;dsimp only at HJ;subst HJ;have Jr:∀j∈a,j<16:=λj z=>by have:=(Hi.free j z).1;have:=Hj.o.nodes.1;omega
      have HU:=Hi.nodup;have HQ:=qI (Xd (L:=a) Jr HU Hl.o (by omega));have Ho:∀b,(Value.slice y a.length vc).ownBlock=some b->q.heap.size<=b/\b<wr.heap.size:=λb t=>Hl.o.lt b t
      have He:=qI Hj.o.pool.at0;clear Hi HU Hb
      go_wp2_with fail
      refine HQ.o.mono ?_;rintro e D ⟨rfl,Hp,Ha⟩;have JY:=Ha.size;have HR:=qI ((Ha.block (B+2) (by omega) (λe=>by grind)).trans h5.o);have HC:=qI (Hq.o.kept Ha (λe=>by grind) (λP e=>by have:=(Ho db e.symm).1;have:=(He.o P).2.2;omega));have hC:Hu (w.grownBy D (some d)):=⟨Ha.os.trans Hs.o.os,Ha.tape.trans Hs.o.tape,Ha.output.trans Hs.o.output,Q5 Hs.o.size Ha.size,λj z hn=>(Ha.block j (by omega) (λe=>by grind)).trans (Hs.o.block j z hn)⟩;have Hw:=qI Hp;have JB:∀b,(Value.slice y a.length vc).ownBlock=some b->q.heap.size<=b/\b<D.heap.size:=λb t=>Hw.o.lt b t
      have g0:D.cell? (B+2:Nat)=some (.int .u64 0):=ad HR.o 0;have g1:D.cell? ⟨B+2,1,none⟩=some (.slice none 0 0):=ad HR.o 1;have f0:=bZ HR.o 0;have f1:=bZ HR.o 1;have HZ:=qI (bd (bd HR.o 0 (.int .u64 G)) 1 (.slice y a.length vc));have hS:=qI (oB (oB hC.o (b:=B+2) (by omega) 0 (.int .u64 G)) (b:=B+2) (by omega) 1 (.slice y a.length vc));have hw:Hu (∀j,j≠B+2->((D.setCell (B+2:Nat) (.int .u64 G)).setCell ⟨B+2,1,none⟩ (.slice y a.length vc)).heap[j]?=D.heap[j]?):=λj z=>(set_other z).trans (set_other z)
      have H1:Hu (Row ((D.setCell (B+2:Nat) (.int .u64 G)).setCell ⟨B+2,1,none⟩ (.slice y a.length vc)) q (.slice y a.length vc) (bV a)):=tG Hw.o λg hg=>hw.o g (by grind);have HD:Hu (aM ((D.setCell (B+2:Nat) (.int .u64 G)).setCell ⟨B+2,1,none⟩ (.slice y a.length vc)) d db N M s.ds us):=(HC.o.kept (dD _ (B+2:Nat) _) (λe=>by grind) (λP e=>by injection e with e;have e:db=B+2:=e;have:=(He.o P).2.2;omega)).kept (dD _ ⟨B+2,1,none⟩ _) (λe=>by grind) (λP e=>by injection e with e;have e:db=B+2:=e;have:=(He.o P).2.2;omega);clear Hp Ha
      go_wp2_with fail
      generalize ((D.setCell (B+2:Nat) (.int .u64 G)).setCell ⟨B+2,1,none⟩ (.slice y a.length vc))=F at *;(try simp only[Exit.inBlock,Exit.then]);refine bodyPost_ret (v:=.tuple #[.agg #[.int .u64 G,.slice y a.length vc],.nilIface]) ?_ rfl ⟨⟨y,a.length,vc,by rw[Hv.o];rfl,λ_=>?_⟩,hS.o⟩
      ·have r0:F.cell? (B+2:Nat)=some (.int .u64 G):=ad HZ.o 0;have r1:F.cell? ⟨B+2,1,none⟩=some (.slice y a.length vc):=ad HZ.o 1;rw[lY rfl];clear g0 g1 f0 f1;go_simp
      ·rw[Hv.o];exact⟨Xc H1.o (by omega),HD.o⟩
   ·subst hU;have Hv:Hu (bM m s own ns=(te.toNat,⟨0,[]⟩,s.us)):=by
     have:=Xg HY.o (by rw[<- HT.o];exact Hr)
     rw[<- HT.o] at this;exact this
    have he:Hu ((bM m s own ns).1≠0):=by grind[Hu]
    have JF:=qI H5;have Hy:aD te=.iface 108 (te:Int):=by grind[aD]
    rw[Hy];have hP:=qI Hy;clear Hr H5 hV Hy;have j6:q.cell? (B+2:Nat)=some (.int .u64 0):=ad Y.o 0;have j1:q.cell? ⟨B+2,1,none⟩=some (.slice none 0 0):=ad Y.o 1;have ZQ:=bZ Y.o 0;have In:=bZ Y.o 1;have h8:=qI (bd (bd Y.o 0 (.int .u64 0)) 1 (.slice none 0 0));have hO:=qI (oB (oB (Jj.o _ (fK Hc.o _)) (b:=B+2) (by omega) 0 (.int .u64 0)) (b:=B+2) (by omega) 1 (.slice none 0 0))
    go_wp2_with fail
    generalize ((q.setCell (B+2:Nat) (.int .u64 0)).setCell ⟨B+2,1,none⟩ (.slice none 0 0))=F at *;(try simp only[Exit.inBlock,Exit.then]);refine bodyPost_ret (v:=.tuple #[.agg #[.int .u64 0,.slice none 0 0],.iface 108 (te:Int)]) ?_ rfl ⟨⟨none,0,0,by rw[Hv.o];dsimp only;rw[JF.o,hP.o];rfl,λh=>absurd h he.o⟩,hO.o⟩;have r0:F.cell? (B+2:Nat)=some (.int .u64 0):=ad h8.o 0;have r1:F.cell? ⟨B+2,1,none⟩=some (.slice none 0 0):=ad h8.o 1;rw[lY rfl];clear j6 j1 ZQ In;go_simp
  ·subst HH;have Hv:=qI (Xf HY.o);have he:Hu ((bM m s own ns).1≠0):=by grind[Hu]
   have H0:=qI ((H4.o.block (B+2) (by omega)).trans h9.o);have Ix:wc.cell? (B+2:Nat)=some (.int .u64 0):=ad H0.o 0;have j2:wc.cell? ⟨B+2,1,none⟩=some (.slice none 0 0):=ad H0.o 1;have j4:=bZ H0.o 0;have j5:=bZ H0.o 1;have h2:=qI (bd (bd H0.o 0 (.int .u64 0)) 1 (.slice none 0 0));have hA:=qI (oB (oB (Jj.o _ (fK H4.o _)) (b:=B+2) (by omega) 0 (.int .u64 0)) (b:=B+2) (by omega) 1 (.slice none 0 0))
   go_wp2_with fail
   generalize ((wc.setCell (B+2:Nat) (.int .u64 0)).setCell ⟨B+2,1,none⟩ (.slice none 0 0))=F at *;(try simp only[Exit.inBlock,Exit.then]);refine bodyPost_ret (v:=.tuple #[.agg #[.int .u64 0,.slice none 0 0],.iface 108 (10:Int)]) ?_ rfl ⟨⟨none,0,0,by rw[Hv.o];rfl,λh=>absurd h he.o⟩,hA.o⟩;have r0:F.cell? (B+2:Nat)=some (.int .u64 0):=ad h2.o 0;have r1:F.cell? ⟨B+2,1,none⟩=some (.slice none 0 0):=ad h2.o 1;rw[lY rfl];clear Ix j2 j4 j5;go_simp
