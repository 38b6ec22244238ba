import Derived.Test.YtjlblidnfebmiaaGreatDoorY39
set_option maxRecDepth 100000
set_option maxHeartbeats 16000000
open Go Go.RowKit Go.Shelf
attribute [local go_sem] Oper.semAt_some
open Go.Proofs.Tryz
namespace Go.Proofs.YtjlblidnfebmiaaGreatDoor
variable{W W':World}{c tb:Nat}{l:List ap}
theorem XL{fn:Func}{p q u:Tmp}{c d:TypeId}(h:fn.results=#[.cell p c,.cell q d,.tmp u])(tmps:Array Value)(P:Program)(w:World) :
  (results fn tmps).run P w=((asAddr (tmps.getD p undef)).run P w).andThen λa f=>((loadVar c a).run P f).andThen λv g=>((asAddr (tmps.getD q undef)).run P g).andThen λb i=>((loadVar d b).run P i).andThen λx e=>.ok (.tuple #[v,x,tmps.getD u undef]) e:=by
 simp_all[results]
theorem Hc(n a b:Int)(w:World):CE 60 #[n,a,b] w (.bool (decide (a<=n/\n<=b))):=by
 by_cases c:a<=n
 ·have Ha:decide (a<=n)=true:=Qc c;have d:Hu (decide (a<=n/\n<=b)=decide (n<=b)):=by grind[Hu]
  rw[d.o];clear c
  go_enter func60,ntmps60
  go_wp2
  go_ret;exact⟨rfl,rfl⟩
 ·have Ha:decide (a<=n)=false:=Q7 c;have d:Hu (decide (a<=n/\n<=b)=false):=Q7 λh=>c h.1
  rw[d.o];clear c
  go_enter func60,ntmps60
  go_wp2
  go_ret;exact⟨rfl,rfl⟩
theorem XM(l:List ap):∀k,lJ l k=fQ l k:=by
 intro k
 induction k with
 | zero=>rfl
 | succ k ih=>rw[lJ,fQ,ih]
theorem Ad(h:eC l=0):0<l.length:=by
 apply Qt;intro a
 have:l=[]:=List.length_eq_zero_iff.1 (by omega)
 subst this;exact absurd h (by decide)
abbrev fg:=(.cells #[.pointer none,.int .u64 0,.int .u8 0,(0:Int),(0:Int)] 84:Obj)
theorem XN{a d B:Nat}(h:bP W tb a 0 d l)(b:0<l.length)(c:W.heap[B+1]?=some (fg))(f:W.heap[B+1+1]?=some (.cells #[.int .u64 0,.pointer none] 87)):(tb≠B+1/\tb≠B+1+1)/\(a≠B+1/\a≠B+1+1):=by
 have g:=cb c 0;have a2:=cb f 0;have c1:=h.cell;have c2:=(h.cells 0 b).1;refine⟨⟨λe=>?_,λe=>?_⟩,λe=>?_,λe=>?_⟩
 ·grind
 ·grind
 ·grind
 ·grind
theorem lh{b o:Nat}(h:bP W tb b o c l)(f:W'.heap[tb]?=W.heap[tb]?)(e:W'.heap[b]?=W.heap[b]?)(hs:W<=W'.heap.size):bP W' tb b o c l:=
 ⟨(World.cell?_of_block (a:=tb) f).trans h.cell,λk d=>⟨(World.cell?_of_block (a:=⟨b,o+k*3,none⟩) e).trans (h.cells k d).1,(World.cell?_of_block (a:=⟨b,o+k*3+1,none⟩) e).trans (h.cells k d).2.1,(World.cell?_of_block (a:=⟨b,o+k*3+2,none⟩) e).trans (h.cells k d).2.2⟩,Q1 h.lt hs,h.len⟩
theorem pZ{b db:Nat}{i:Option Addr}{ds:List aq}{us:Nat->Bool}(h:aM W b db i c ds us)(g:W'.heap[b]?=W.heap[b]?)(p:0<ds.length->W'.heap[db]?=W.heap[db]?)(hs:W<=W'.heap.size):aM W' b db i c ds us:=by
 have cc:∀j,W'.cell? ⟨b,j,none⟩=W.cell? ⟨b,j,none⟩:=λj=>World.cell?_of_block (a:=⟨b,j,none⟩) g
 have n:∀j,W'.frozen? ⟨b,j,none⟩=W.frozen? ⟨b,j,none⟩:=λj=>by simp[World.frozen?,g]
 refine⟨by rw[cc];exact h.row,λd=>⟨(h.at0 d).1,(h.at0 d).2.1,Q1 (h.at0 d).2.2 hs⟩,λk o=>?_,λj l=>⟨by rw[cc];exact (h.used j l).1,by rw[n];exact (h.used j l).2⟩⟩;have f:=p (by omega);have e:∀j,W'.cell? ⟨db,j,none⟩=W.cell? ⟨db,j,none⟩:=λj=>World.cell?_of_block (a:=⟨db,j,none⟩) f
 have m:∀j,W'.frozen? ⟨db,j,none⟩=W.frozen? ⟨db,j,none⟩:=λj=>by simp[World.frozen?,f]
 rw[e,e,e,m];exact h.cells k o
def mX (W:World) (B:Nat) (v0 v1 v2 v3 v4:Value):World:=((((W.setCell B v0).setCell ⟨B,1,none⟩ v1).setCell ⟨B,2,none⟩ v2).setCell ⟨B,3,none⟩ v3).setCell ⟨B,4,none⟩ v4
def iq (W:World) (B:Nat) (v0 v1 v2 v3 v4 s0 s1:Value):World:=((mX W (B+1) v0 v1 v2 v3 v4).setCell ⟨B+1+1,0,none⟩ s0).setCell ⟨B+1+1,1,none⟩ s1
section
variable{W w:World}{B N j:Nat}{v0 v1 v2 v3 v4 s0 s1 z0 z1 z2 z3 z4 y0 y1:Value}{t:TypeId}
theorem Hd(h:W.heap[B]?=some (.cells #[z0,z1,z2,z3,z4] t (0,0))):(mX W B v0 v1 v2 v3 v4).heap[B]?=some (.cells #[v0,v1,v2,v3,v4] t (0,0)):=bd (bd (bd (bd (bd h 0 v0) 1 v1) 2 v2) 3 v3) 4 v4
theorem He(h:j≠B):(mX W B v0 v1 v2 v3 v4).heap[j]?=W.heap[j]?:=(set_other h).trans ((set_other h).trans ((set_other h).trans ((set_other h).trans (set_other h))))
theorem Hf(h:Below N w W)(a:N<=B):Below N w (mX W B v0 v1 v2 v3 v4):=((((h.setCell (p:=B) a _).setCell (p:=⟨B,1,none⟩) a _).setCell (p:=⟨B,2,none⟩) a _).setCell (p:=⟨B,3,none⟩) a _).setCell (p:=⟨B,4,none⟩) a _
theorem vU(h:W.heap[B+1]?=some (.cells #[z0,z1,z2,z3,z4] t (0,0))):(iq W B v0 v1 v2 v3 v4 s0 s1).heap[B+1]?=some (.cells #[v0,v1,v2,v3,v4] t (0,0)):=(set_other (by omega)).trans ((set_other (by omega)).trans (Hd h))
theorem vV(h:W.heap[B+1+1]?=some (.cells #[y0,y1] t (0,0))):(iq W B v0 v1 v2 v3 v4 s0 s1).heap[B+1+1]?=some (.cells #[s0,s1] t (0,0)):=bd (bd ((He (by omega)).trans h) 0 s0) 1 s1
theorem XO(b:j≠B+1)(a:j≠B+1+1):(iq W B v0 v1 v2 v3 v4 s0 s1).heap[j]?=W.heap[j]?:=(set_other a).trans ((set_other a).trans (He b))
theorem vX(h:Below N w W)(a:N<=B):Below N w (iq W B v0 v1 v2 v3 v4 s0 s1):=((Hf h (by omega)).setCell (p:=⟨B+1+1,0,none⟩) (show N<=B+1+1 by omega) _).setCell (p:=⟨B+1+1,1,none⟩) (show N<=B+1+1 by omega) _
theorem XP:(iq W B v0 v1 v2 v3 v4 s0 s1).heap.size=W.heap.size:=by simp[iq,mX]
theorem cells5(h:W.heap[B]?=some (.cells #[z0,z1,z2,z3,z4] t (0,0))):(W.cell? B=some z0/\W.frozen? B=false)/\(W.cell? ⟨B,1,none⟩=some z1/\W.frozen? ⟨B,1,none⟩=false)/\(W.cell? ⟨B,2,none⟩=some z2/\W.frozen? ⟨B,2,none⟩=false)/\(W.cell? ⟨B,3,none⟩=some z3/\W.frozen? ⟨B,3,none⟩=false)/\(W.cell? ⟨B,4,none⟩=some z4/\W.frozen? ⟨B,4,none⟩=false):=by simp[World.cell?,World.frozen?,h]
theorem tK(h:W.heap[B]?=some (.cells #[z0,z1] t (0,0))):(W.cell? B=some z0/\W.frozen? B=false)/\(W.cell? ⟨B,1,none⟩=some z1/\W.frozen? ⟨B,1,none⟩=false):=by simp[World.cell?,World.frozen?,h]
theorem XQ{c:Option Addr}{f d h g:Int}{p q:Nat}{a:Act}{i:TypeId}{pos:String}{after:Array Edge}{guard:Option (Nat × Bool)}{K:Act->World->Prop}{Q:Exit->Act->World->Prop}
  (e:W.heap[B]?=some (.cells #[z0,z1,z2,z3,z4] t (0,0))) (k:a.tmps[p]?.getD undef=.pointer (some ⟨B,0,none⟩)) (m:a.tmps[q]?.getD undef=.agg #[.pointer c,.int .u64 f,.int .u8 d,h,g])
  (b:K a (mX W B (.pointer c) (.int .u64 f) (.int .u8 d) h g)) :
  Oper.wp prog { dst:=none,op:=Op.store 84 (Operand.tmp p) (Operand.tmp q),type:=i,pos:=pos,after:=after,guard:=guard } a W K Q:=by
 unfold mX at b;have j:=qI b;clear b;obtain⟨⟨c0,f0⟩,⟨c1,f1⟩,⟨c2,f2⟩,⟨c3,f3⟩,c4,l⟩:=cells5 e;clear e;go_simp;exact j.o
theorem vY{X:World}{a:Act}{e:Value}{R:Ending->World->Prop}(d:X.heap[B+1]?=some (.cells #[v0,v1,v2,v3,v4] 84 (0,0)))(hs:X.heap[B+1+1]?=some (.cells #[s0,s1] 87 (0,0)))(g:a.tmps.getD 2 undef=.pointer (some ⟨B+1,0,none⟩))(b:a.tmps.getD 3 undef=.pointer (some ⟨B+1+1,0,none⟩))(f:a.tmps.getD 4 undef=e)(hd:a.defers=[])(c:R (.returned (.tuple #[.agg #[v0,v1,v2,v3,v4],.agg #[s0,s1],e])) X):bodyPost prog Tryz.f28 R .ret a X:=by
 refine bodyPost_ret (v:=.tuple #[.agg #[v0,v1,v2,v3,v4],.agg #[s0,s1],e]) ?_ hd c;obtain⟨⟨c0,_⟩,⟨c1,_⟩,⟨c2,_⟩,⟨c3,_⟩,c4,_⟩:=cells5 d;obtain⟨⟨i,_⟩,h,_⟩:=tK hs;rw[XL rfl,g,b,f];clear d hs g b f c;go_simp
end
structure XR (w w':World) (c:dp) (e:Ending):Prop where
 bad:cR c≠0->e=.returned (.tuple #[.agg #[.pointer none,.int .u64 0,.int .u8 0,(0:Int),(0:Int)],.agg #[.int .u64 0,.pointer none],aD (cR c)])
 good:cR c=0->∃tb b cc pb db ao pc,e=.returned (.tuple #[mV (cT c) tb,sV ⟨(cT c).op,c.ds,λ_=>false⟩ pb,.nilIface])/\ey w' tb b 0 cc (cT c)/\eS w' pb db ao pc ⟨(cT c).op,c.ds,λ_=>false⟩/\w.heap.size<=pb/\(0<c.ds.length->w.heap.size<=db)
 below:Below w w w'
abbrev oE:=λ(x0:Option Addr) (x1:dp) (x2:Nat) (x3:Option Addr) (x4:Nat)=>(.cells #[.slice x0 x1.l.length x2,.int .u64 (x1.keep:Nat),(x1.nb:Int),.slice x3 x1.ds.length x4,(x1.pol:Int)] 27:Obj)
abbrev rx:=λ(x0:aq) (x1:Nat)=>(.cells #[x0.kind,.int .i64 (x1:Nat),x0.sick] 77:Obj)
abbrev vZ:=λ(B:Nat) (c:dp) (w':World)=>cl w' B (1) (.int .u64 (c.keep:Nat))/\cl w' B (2) (c.nb:Int)/\cl w' B (4) (c.pol:Int)
theorem Ae(c:dp){v1 v2:Value}{g o:Nat}{w:World}(N:fZ w v1 c.l)(Q:et w v2 g o c.ds)(H:c.keep<18446744073709551616) :
  Calls prog 28 #[.agg #[v1,.int .u64 (c.keep:Nat),.int .i64 c.nb,v2,.int .i64 c.pol]] w λe w'=>XR w w' c e:=by
 obtain⟨ca,cc,hw⟩:∃ca cc,v1=.slice ca c.l.length cc:=by
  rcases id N with⟨hl,ao,q,rfl⟩|⟨b,o,q,rfl,_⟩
  ·grind
  ·exact⟨_,q,rfl⟩
 subst hw;obtain⟨da,dc,ho,_⟩:=id Q;subst ho;have hS:=qI ((((Q0 w.heap.size w).alloc (lR) (oE ca c cc da dc)).alloc (by simp) (fg)).alloc (by simp;omega) (.cells #[.int .u64 0,.pointer none] 87));have sz:(((w.alloc (oE ca c cc da dc)).alloc (fg)).alloc (.cells #[.int .u64 0,.pointer none] 87)).heap.size=w.heap.size+3:=by simp
 have hJ:=qI (bQ (bQ (aY w (oE ca c cc da dc) rfl) (fg)) (.cells #[.int .u64 0,.pointer none] 87));have h9:=qI (bQ (aY (w.alloc (oE ca c cc da dc)) (fg) (n:=w.heap.size+1) (by simp)) (.cells #[.int .u64 0,.pointer none] 87));have Je:=qI (aY ((w.alloc (oE ca c cc da dc)).alloc (fg)) (.cells #[.int .u64 0,.pointer none] 87) (n:=w.heap.size+2) (by simp));have HM:=qI (EC (a:=ca) (c:=cc) (l:=c.l) (w:=((w.alloc (oE ca c cc da dc)).alloc (fg)).alloc (.cells #[.int .u64 0,.pointer none] 87)) (N.below hS.o));have HD:=qI Q;have u0:(((w.alloc (oE ca c cc da dc)).alloc (fg)).alloc (.cells #[.int .u64 0,.pointer none] 87)).cell? ⟨w.heap.size,0,none⟩=some (.slice ca c.l.length cc):=ad hJ.o 0;clear N Q
 go_enter func28,ntmps28
 go_wp2_with fail
 generalize (((w.alloc (oE ca c cc da dc)).alloc (fg)).alloc (.cells #[.int .u64 0,.pointer none] 87))=U at *;generalize hB:w.heap.size=B at *;refine HM.o.mono ?_;rintro e y ⟨He,C,Hh⟩;have Hn:=qI (show Below w.heap.size w y by rw[hB];exact hS.o.trans (Hh.mono (by omega)));have JD:=Hh.size;have HY:=qI ((Hh.block B (by omega)).trans hJ.o);have hi:=qI ((Hh.block (B+1) (by omega)).trans h9.o);have hg:=qI ((Hh.block (B+1+1) (by omega)).trans Je.o);clear Hh u0 HM
 by_cases hf:eC c.l=0
 ·obtain⟨f,u,z,rfl,HF⟩:=He hf;have Hz:=qI HF;have Ha:=qI (Si hf);have hs:=qI HF.len;clear He C HF;obtain⟨bad,HT⟩:∃x:Bool,x=(!decide (c.keep &&& aB bh c.l=c.keep) || (!decide (0<=c.nb/\c.nb<=1125899906842624) || !decide (0<=c.pol/\c.pol<=3))):=⟨_,rfl⟩;have Hv:=qI HT;clear HT;have Ht:aB bh c.l<18446744073709551616:=jJ bh c.l c.l.length hs.o;have hr:=qI λ(W:World)=>od c.keep (aB bh c.l) W H Ht;have hh:=qI λ(W:World)=>Hc c.nb 0 1125899906842624 W;have hv:=qI λ(W:World)=>Hc c.pol 0 3 W
  go_upto_region 4 with fail
  have J:Hu (∀W,Below y.heap.size y W->(vZ B c) W):=λW A=>⟨ad ((A.block B (by omega)).trans HY.o) 1,ad ((A.block B (by omega)).trans HY.o) 2,ad ((A.block B (by omega)).trans HY.o) 4⟩
  go_cut [39] (λj0 wc=>j0=.bool bad/\Below y.heap.size y wc)
  case first=>
   have Hi:Hu (Below y.heap.size y y.drew):=bO (Q0 _ _);obtain⟨b1,Hh⟩:∃b,b=decide (c.keep &&& aB bh c.l=c.keep):=⟨_,rfl⟩;obtain⟨b2,Hx⟩:∃b,b=decide (0<=c.nb/\c.nb<=1125899906842624):=⟨_,rfl⟩;obtain⟨T,Hk⟩:∃b,b=decide (0<=c.pol/\c.pol<=3):=⟨_,rfl⟩;rw[<- Hh,<- Hx,<- Hk] at Hv;simp only[<- Hh] at hr;simp only[<- Hx] at hh;simp only[<- Hk] at hv;clear Hh Hx Hk;have hq:b1=false\/(b1=true/\b2=false)\/(b1=true/\b2=true):=by cases b1 <;> cases b2 <;> simp
   rcases hq with rfl|⟨rfl,rfl⟩|⟨rfl,rfl⟩
   all_goals
    refine wp_region_held_drew (S:=vZ B c) (by kernel_rfl) (J.o _ Hi.o) λhHeld=>?_;generalize y.drew=V at *;refine tk 0 ?_;refine tk 1 ?_;refine tk 2 ?_
    (refine rd 3 λK d=>?_;go_simp;go_wp2_with fail;refine (nW (a:=f) (b:=u) (o:=0) (c:=z) (l:=c.l) (w:=V) (Hz.o.below Hi.o)).mono ?_;rintro e W2 ⟨rfl,Hx⟩;have Ho:=qI (Hi.o.trans (Hx.mono Hi.o.size));clear Hx;go_wp2_with fail;refine d.o _ _ (J.o _ Ho.o) λhHeld=>?_;clear d K)
    (refine rd 4 λK d=>?_;go_simp;go_wp2_with fail;refine (hr.o _).mono ?_;rintro e wz ⟨rfl,rfl⟩;go_wp2_with fail;refine d.o _ _ (J.o _ Ho.o) λhHeld=>?_;clear d K)
    refine tk 5 ?_;refine tk 6 ?_
    first|refine tk 7 ?_|refine ts 7 ?_
    first|refine tk 8 ?_|refine ts 8 ?_
    first|refine ts 9 ?_|(refine rd 9 λK d=>?_;go_simp;go_wp2_with fail;refine (hh.o _).mono ?_;rintro e wz ⟨rfl,rfl⟩;go_wp2_with fail;refine d.o _ _ (J.o _ Ho.o) λhHeld=>?_;clear d K)
    first|refine tk 10 ?_|refine ts 10 ?_
    refine tk 11 ?_;refine tk 12 ?_
    first|refine tk 13 ?_|refine ts 13 ?_
    first|refine tk 14 ?_|refine ts 14 ?_
    first|refine ts 15 ?_|(refine rd 15 λK d=>?_;go_simp;go_wp2_with fail;refine (hv.o _).mono ?_;rintro e wz ⟨rfl,rfl⟩;go_wp2_with fail;refine d.o _ _ (J.o _ Ho.o) λhHeld=>?_;clear d K)
    first|refine tk 16 ?_|refine ts 16 ?_
    refine tk 17 ?_;refine Qn (by kernel_rfl) ?_ _;clear hHeld
    go_wp2
    go_meet
    exact⟨by rw[Hv.o];rfl,Ho.o⟩
  case rest=>
   obtain⟨rfl,D⟩:=hcut;have hx:=qI (Hn.o.trans (D.mono (by omega)));have Jv:=D.size;have hT:=qI ((D.block B (by omega)).trans HY.o);have hD:=qI ((D.block (B+1) (by omega)).trans hi.o);have ht:=qI ((D.block (B+1+1) (by omega)).trans hg.o);have h7:=qI (Hz.o.below D);have Y:=qI hf;clear D hf hr hh hv J Hz
   rcases two bad with H5|H5
   ·have Hp:Hu (cR c=1):=by
     unfold Hu cR;rw[if_neg λh=>h Y.o,if_pos];rw[H5] at Hv;have A:=Hv.o
     by_cases q1:c.keep &&& aB bh c.l=c.keep
     ·grind
     ·exact .inl q1
    subst H5;obtain⟨⟨a0,b0⟩,⟨a1,b1⟩,⟨a2,b2⟩,⟨a3,T⟩,a4,b4⟩:=cells5 hD.o;obtain⟨⟨c0,d0⟩,c1,d1⟩:=tK ht.o
    go_wp2_with fail
    (try simp only[Exit.inBlock,Exit.then]);exact vY (X:=(iq wc B (.pointer none) (.int .u64 0) (.int .u8 0) (.int .i64 0) (.int .i64 0) (.int .u64 0) (.pointer none))) (e:=.iface 108 (.int .i64 1)) (vU hD.o) (vV ht.o) rfl rfl rfl rfl ⟨(λ_=>by rw[Hp.o];rfl),(λh=>by rw[Hp.o] at h;cases h),vX hx.o (by omega)⟩
   ·have Hr:Hu ((c.keep &&& aB bh c.l=c.keep)/\(0<=c.nb/\c.nb<=1125899906842624)/\(0<=c.pol/\c.pol<=3)):=by
     simp_all
    have Hp:Hu (cR c=((dV c.ds:Nat):Int)):=by
     unfold Hu cR;rw[if_neg λh=>h Y.o,if_neg (λh=>by rcases h with h|h|h;exact h Hr.o.1;exact h Hr.o.2.1;exact h Hr.o.2.2)]
    subst H5;have e3:wc.cell? ⟨B,3,none⟩=some (.slice da c.ds.length dc):=ad hT.o 3;have hE:=qI (Dd (v:=.slice da c.ds.length dc) (b:=g) (o:=o) (ds:=c.ds) (w:=wc) (HD.o.le (aR.of_below hx.o)))
    go_wp2_with fail
    refine hE.o.mono ?_;rintro e t ⟨He,C,Hk⟩;have hG:=qI (hx.o.trans (Hk.mono (by omega)));have Jy:=Hk.size;have H9:=qI ((Hk.block B (by omega)).trans hT.o);have HX:=qI ((Hk.block (B+1) (by omega)).trans hD.o);have H3:=qI ((Hk.block (B+1+1) (by omega)).trans ht.o);have Hw:=qI (h7.o.below Hk);clear Hk e3 hE
    by_cases m:dV c.ds=0
    ·obtain⟨pp,rfl,r,db,E,pc,rfl,Hg,hA,HG⟩:=He m;rw[m] at Hp;have HN:=qI Hg;have HU:=qI (lr m);have hN:Hu (w.heap.size<=r/\(0<c.ds.length->w.heap.size<=db)):=⟨by omega,λv=>by have:=HG v;omega⟩;have Jz:=Hg.lt;have Jh:B+3<=r:=by omega
     have HP:Hu (0<c.ds.length->B+3<=db):=λv=>by have:=HG v;omega
     have hy:Hu (0<c.ds.length->db<t.heap.size):=λv=>(Hg.at0 v).2.2
     clear He C Hg hA HG m;dsimp only;rw[show aD (((0:Nat)):Int)=.nilIface from rfl]
     go_upto_region 9 with fail
     have Jg:=mJ (aB bh c.l) c.keep Ht H;have Hl:Hu (∀W,Below t.heap.size t W->(vZ B c) W):=λW A=>⟨ad ((A.block B (by omega)).trans H9.o) 1,ad ((A.block B (by omega)).trans H9.o) 2,ad ((A.block B (by omega)).trans H9.o) 4⟩
     go_cut [8] (λp8 wc=>∃l,p8=.pointer (some ⟨l,0,none⟩)/\wc.heap[l]?=some (.cells #[.pointer (some ⟨f,0,none⟩),.int .u64 (aI (aB bh c.l) c.keep:Nat),.int .u8 (lJ c.l c.l.length:Nat),.int .i64 c.nb,.int .i64 c.pol] 84 (0,0))/\t.heap.size<=l/\Below t.heap.size t wc)
     case first=>
      have Hi:Hu (Below t.heap.size t t.drew):=bO (Q0 _ _);refine wp_region_held_drew (S:=vZ B c) (by kernel_rfl) (Hl.o _ Hi.o) λhHeld=>?_;generalize t.drew=V at *;refine tk 0 ?_;refine tk 1 ?_;refine tk 3 ?_;refine tk 4 ?_;refine tk 6 ?_;refine tk 8 ?_;refine tk 9 ?_;refine tk 10 ?_;refine tk 11 ?_;refine rd2 2 13 (λK d=>?_) λK d=>?_
      focus
       go_simp
       go_wp2_with fail
       refine (nW (a:=f) (b:=u) (o:=0) (c:=z) (l:=c.l) (w:=V) (Hw.o.below Hi.o)).mono ?_;rintro e L ⟨rfl,Hh⟩;have Hn:=qI (Hi.o.trans (Hh.mono Hi.o.size));clear Hh
       go_wp2_with fail
       refine d.o _ _ (Hl.o _ Hn.o) λhHeld=>?_;clear d K;refine tk 5 ?_;refine rd2 7 13 (λK d=>?_) λK d=>?_
       focus
        go_simp
        go_wp2_with fail
        refine (yE (d:=f) (b:=u) (o:=0) (c:=z) (l:=c.l) (w:=L) (Hw.o.below Hn.o) Ha.o).mono ?_;rintro e P ⟨rfl,Hx⟩;have Ho:=qI (Hn.o.trans (Hx.mono Hn.o.size));clear Hx
        go_wp2_with fail
        refine d.o _ _ (Hl.o _ Ho.o) λhHeld=>?_;clear d K;refine tk 12 ?_;refine rd 13 λK d=>?_;have I:=qI (Ho.o.alloc Ho.o.size (fg));have H7:=qI (aY P (fg) rfl);have Ji:P.heap.size<(P.alloc (fg)).heap.size:=by simp
        have Hs:=Ho.o.size;go_simp
        go_wp2_with fail
        refine d.o _ _ (Hl.o _ I.o) λhHeld=>?_;clear d K;generalize P.alloc (fg)=WQ at *;generalize P.heap.size=M at *
       rotate_left
       focus
        have G:=qI (Hn.o.alloc Hn.o.size (fg));have hp:=qI (aY L (fg) rfl);have HO:L.heap.size<(L.alloc (fg)).heap.size:=by simp
        have Hs:=Hn.o.size;go_simp
        go_wp2_with fail
        refine d.o _ _ (Hl.o _ G.o) λhHeld=>?_;clear d K;generalize L.alloc (fg)=Y5 at *;refine rd 7 λK d=>?_;go_simp
        go_wp2_with fail
        refine (yE (d:=f) (b:=u) (o:=0) (c:=z) (l:=c.l) (w:=Y5) (Hw.o.below G.o) Ha.o).mono ?_;rintro e WQ ⟨rfl,H0⟩;have I:=qI (G.o.trans (H0.mono G.o.size));have H7:=qI ((H0.block _ HO).trans hp.o);have Jb:=Q1 HO H0.size;clear H0
        go_wp2_with fail
        refine d.o _ _ (Hl.o _ I.o) λhHeld=>?_;clear d K;refine tk 12 ?_;generalize L.heap.size=M at *
      rotate_right
      focus
       have H8:=qI (Hi.o.alloc Hi.o.size (fg));have Js:=qI (aY V (fg) rfl);have HS:V.heap.size<(V.alloc (fg)).heap.size:=by simp
       have Hs:=Hi.o.size;go_simp
       go_wp2_with fail
       refine d.o _ _ (Hl.o _ H8.o) λhHeld=>?_;clear d K;generalize V.alloc (fg)=Y8 at *;refine rd 2 λK d=>?_;go_simp
       go_wp2_with fail
       refine (nW (a:=f) (b:=u) (o:=0) (c:=z) (l:=c.l) (w:=Y8) (Hw.o.below H8.o)).mono ?_;rintro e Y9 ⟨rfl,HW⟩;have HV:=qI (H8.o.trans (HW.mono H8.o.size));have Jl:=qI ((HW.block _ HS).trans Js.o);have HQ:=Q1 HS HW.size;clear HW
       go_wp2_with fail
       refine d.o _ _ (Hl.o _ HV.o) λhHeld=>?_;clear d K;refine tk 5 ?_;refine rd 7 λK d=>?_;go_simp
       go_wp2_with fail
       refine (yE (d:=f) (b:=u) (o:=0) (c:=z) (l:=c.l) (w:=Y9) (Hw.o.below HV.o) Ha.o).mono ?_;rintro e WQ ⟨rfl,Hq⟩;have I:=qI (HV.o.trans (Hq.mono HV.o.size));have H7:=qI ((Hq.block _ HQ).trans Jl.o);have hV:=Q1 HQ Hq.size;clear Hq
       go_wp2_with fail
       refine d.o _ _ (Hl.o _ I.o) λhHeld=>?_;clear d K;refine tk 12 ?_;generalize V.heap.size=M at *
      all_goals
       refine rd 14 λK d=>?_;rw[if_pos (by rfl)];refine XQ H7.o rfl rfl ?_;have H4:Hu (Below t.heap.size t (mX WQ M (.pointer (some ⟨f,0,none⟩)) (.int .u64 (aI (aB bh c.l) c.keep:Nat)) (.int .u8 (lJ c.l c.l.length:Nat)) (.int .i64 c.nb) (.int .i64 c.pol))):=Hf I.o Hs;have hz:Hu ((mX WQ M (.pointer (some ⟨f,0,none⟩)) (.int .u64 (aI (aB bh c.l) c.keep:Nat)) (.int .u8 (lJ c.l c.l.length:Nat)) (.int .i64 c.nb) (.int .i64 c.pol)).heap[M]?=_):=Hd H7.o;refine d.o _ _ (Hl.o _ H4.o) λhHeld=>?_;clear d K;(try simp only[Act.put,s1,s2,s3]);refine Qn (by kernel_rfl) ?_ _
       go_wp2
       go_meet
       exact⟨_,rfl,hz.o,Hs,H4.o⟩
     case rest=>
      obtain⟨l,rfl,F,Jj,Hy⟩:=hcut;have H4:=qI (hG.o.trans (Hy.mono (by omega)));have Jw:=Hy.size;have h6:=qI ((Hy.block B (by omega)).trans H9.o);have h8:=qI ((Hy.block (B+1) (by omega)).trans HX.o);have Jq:=qI ((Hy.block (B+1+1) (by omega)).trans H3.o);have Jr:=qI (Hw.o.below Hy);have hz:=qI (HN.o.below Hy);have Jn:l<wc.heap.size:=(gS F).1;have hW:=qI F;have hC:=qI (XM c.l c.l.length);have HL:=qI (Uu (a:=fQ c.l c.l.length) (ds:=c.ds) (FQ (λk H=>Ha.o.at H) c.l.length (lR)).1 ((FQ (λk H=>Ha.o.at H) c.l.length (lR)).2 (Ad Y.o)) HU.o.2);rw[hC.o] at hW;have d3:wc.cell? ⟨B,3,none⟩=some (.slice da c.ds.length dc):=ad h6.o 3;clear F Hy Jg Hl
      go_wp2_with fail
      clear d3
      go_loopw [70] (λi wr=>∃k:Nat,k<=c.ds.length/\i=.int .i64 k/\wr.heap[l]?=some (.cells #[.pointer (some ⟨f,0,none⟩),.int .u64 (aI (aB bh c.l) c.keep:Nat),.int .u8 (gm (fQ c.l c.l.length) c.ds k:Nat),.int .i64 c.nb,.int .i64 c.pol] 84 (0,0))/\Apart (λj=>j=l) wc wr) (λi _=>c.ds.length - (intOf i).toNat)
      case atStart=>exact⟨0,by omega,rfl,hW.o,Apart.refl _ _⟩
      case round=>
       obtain⟨k,JC,rfl,F,HZ⟩:=hrel;have Hb:=qI F;have Hm:=qI HZ;have Ja:=HZ.size;have Jo:=HU.o.1;have H2:Hu (Below w.heap.size w wr):=HZ.below H4.o (by omega) (λj hj=>by omega);clear F HZ
       by_cases R:k<c.ds.length
       ·obtain⟨_,_,Jp,hP⟩:=id HD.o;injection Jp with hw ho hv3
        subst hw hv3;obtain⟨rfl,Ju,hI⟩:=hP (by omega);obtain⟨x0,x1,x2⟩:=hI k R;have x0:=(aR.of_below H2.o).cell _ _ _ x0;have x1:=(aR.of_below H2.o).cell _ _ _ x1;have x2:=(aR.of_below H2.o).cell _ _ _ x2;obtain⟨hH,h3⟩:=HU.o.2 k R;have JA:(k:Int)<(c.ds.length:Int):=by omega
        have hL:Hu (gm (fQ c.l c.l.length) c.ds (k+1)=gm (fQ c.l c.l.length) c.ds k ||| 2 ^ (aH c.ds k).node.toNat):=rfl;have Jt:=(HL.o k (by omega)).1;clear hI hP ho;generalize aH c.ds k=x at *;obtain⟨s,hu⟩:=Int.eq_ofNat_of_zero_le hH;rw[hu] at x1 h3;rw[hu] at hL;have h4:=qI (aY wr (rx x s) rfl);have HE:=qI (bQ Hb.o (rx x s));have a1:(wr.alloc (rx x s)).cell? ⟨wr.heap.size,1,none⟩=some (.int .i64 (s:Nat)):=ad h4.o 1;have b2:(wr.alloc (rx x s)).cell? ⟨l,2,none⟩=some (.int .u8 (gm (fQ c.l c.l.length) c.ds k:Nat)):=ad HE.o 2;have f2:=bZ HE.o 2;have hU:=or8 (gm (fQ c.l c.l.length) c.ds k) s (by omega) (by omega);have ha:=qI (Hm.o.trans (Apart.alloc _ wr (rx x s)));clear hu hH
        go_wp2_with fail
        generalize wr.alloc (rx x s)=WX at *;have Jk:bits BinOp.or IntKind.u8 ((gm (fQ c.l c.l.length) c.ds k:Nat):Int) (2 ^ s % 256)=((gm (fQ c.l c.l.length) c.ds k ||| 2 ^ s:Nat):Int):=hU;clear hU
        go_region
        go_wp2_with fail
        have G:Hu ((WX.setCell ⟨l,2,none⟩ (.int .u8 (gm (fQ c.l c.l.length) c.ds k ||| 2 ^ s:Nat))).drew.heap[l]?=some (.cells #[.pointer (some ⟨f,0,none⟩),.int .u64 (aI (aB bh c.l) c.keep:Nat),.int .u8 (gm (fQ c.l c.l.length) c.ds k ||| 2 ^ s:Nat),.int .i64 c.nb,.int .i64 c.pol] 84 (0,0))):=bd HE.o 2 _;have h5:Hu (Apart (λj=>j=l) wc (WX.setCell ⟨l,2,none⟩ (.int .u8 (gm (fQ c.l c.l.length) c.ds k ||| 2 ^ s:Nat))).drew):=(ha.o.trans (Apart.setCell (K:=λj=>j=l) rfl _ _ _)).trans (Apart.drew _ _)
        go_roundw
        case rel=>exact⟨k+1,by omega,by go_num,by rw[hL.o];exact G.o,h5.o⟩
        case measure=>simp[intOf];omega
       ·have Jc:k=c.ds.length:=by omega
        subst Jc;obtain⟨p,HA⟩:∃x,x=gm (fQ c.l c.l.length) c.ds c.ds.length:=⟨_,rfl⟩;have Jm:=qI HA;rw[<- HA] at Hb;clear HA;have hX:=qI ((Hm.o.block (B+1) (by omega) (by omega)).trans h8.o);have hF:=qI ((Hm.o.block (B+1+1) (by omega) (by omega)).trans Jq.o);have Jx:=Hw.o.tlt;have JB:=Hw.o.lt;have H1:Hu ((f≠B+1/\f≠B+1+1)/\(u≠B+1/\u≠B+1+1)):=XN Hw.o (Ad Y.o) HX.o H3.o;have Jd:Hu (bP wr f u 0 z c.l):=lh Jr.o (Hm.o.block f (by omega) (by omega)) (Hm.o.block u (by omega) (by omega)) Ja;have hp:Hu (aM wr r db E pc c.ds λ_=>false):=hz.o.kept (g:=some l) ⟨Hm.o.os,Hm.o.tape,Hm.o.output,Hm.o.size,λj hj hn=>Hm.o.block j hj λe=>hn (by rw[e])⟩ (λe=>by grind) (λv e=>by injection e with e;have:=hy.o v;omega);have m0:wr.cell? ⟨l,0,none⟩=some (.pointer (some ⟨f,0,none⟩)):=ad Hb.o 0;have m1:wr.cell? ⟨l,1,none⟩=some (.int .u64 (aI (aB bh c.l) c.keep:Nat)):=ad Hb.o 1;have m2:wr.cell? ⟨l,2,none⟩=some (.int .u8 (p:Nat)):=ad Hb.o 2;have m3:wr.cell? ⟨l,3,none⟩=some (.int .i64 c.nb):=ad Hb.o 3;have m4:wr.cell? ⟨l,4,none⟩=some (.int .i64 c.pol):=ad Hb.o 4;obtain⟨⟨a0,b0⟩,⟨a1,b1⟩,⟨a2,b2⟩,⟨a3,T⟩,a4,b4⟩:=cells5 hX.o;obtain⟨⟨c0,d0⟩,c1,d1⟩:=tK hF.o;have hM:Hu ((iq wr B (.pointer (some ⟨f,0,none⟩)) (.int .u64 (aI (aB bh c.l) c.keep:Nat)) (.int .u8 (p:Nat)) (.int .i64 c.nb) (.int .i64 c.pol) (.int .u64 (aI (aB bh c.l) c.keep:Nat)) (.pointer (some ⟨r,0,none⟩))).heap[B+1]?=_):=vU hX.o;have hR:Hu ((iq wr B (.pointer (some ⟨f,0,none⟩)) (.int .u64 (aI (aB bh c.l) c.keep:Nat)) (.int .u8 (p:Nat)) (.int .i64 c.nb) (.int .i64 c.pol) (.int .u64 (aI (aB bh c.l) c.keep:Nat)) (.pointer (some ⟨r,0,none⟩))).heap[B+1+1]?=_):=vV hF.o;have Hj:Hu (∀j,j≠B+1->j≠B+1+1->(iq wr B (.pointer (some ⟨f,0,none⟩)) (.int .u64 (aI (aB bh c.l) c.keep:Nat)) (.int .u8 (p:Nat)) (.int .i64 c.nb) (.int .i64 c.pol) (.int .u64 (aI (aB bh c.l) c.keep:Nat)) (.pointer (some ⟨r,0,none⟩))).heap[j]?=wr.heap[j]?):=λj N Q=>XO N Q
        have hc:(iq wr B (.pointer (some ⟨f,0,none⟩)) (.int .u64 (aI (aB bh c.l) c.keep:Nat)) (.int .u8 (p:Nat)) (.int .i64 c.nb) (.int .i64 c.pol) (.int .u64 (aI (aB bh c.l) c.keep:Nat)) (.pointer (some ⟨r,0,none⟩))).heap.size=wr.heap.size:=XP;have hO:Hu (Below w.heap.size w (iq wr B (.pointer (some ⟨f,0,none⟩)) (.int .u64 (aI (aB bh c.l) c.keep:Nat)) (.int .u8 (p:Nat)) (.int .i64 c.nb) (.int .i64 c.pol) (.int .u64 (aI (aB bh c.l) c.keep:Nat)) (.pointer (some ⟨r,0,none⟩)))):=vX H2 (by omega)
        go_wp2_with fail
        go_region
        obtain⟨Z,hZ⟩:∃Z,Z=iq wr B (.pointer (some ⟨f,0,none⟩)) (.int .u64 (aI (aB bh c.l) c.keep:Nat)) (.int .u8 (p:Nat)) (.int .i64 c.nb) (.int .i64 c.pol) (.int .u64 (aI (aB bh c.l) c.keep:Nat)) (.pointer (some ⟨r,0,none⟩)):=⟨_,rfl⟩;rw[<- hZ] at hM hR Hj hc hO;have hY:=qI hZ;clear hZ;have Jf:Hu (ey Z.drew f u 0 z (cT c)):=⟨lh Jd.o (Hj.o f H1.o.1.1 H1.o.1.2) (Hj.o u H1.o.2.1 H1.o.2.2) (Nat.le_of_eq hc.symm),Ha.o,lK _ Ht,by show 1<=gm _ _ _/\gm _ _ _<=15;have:=HL.o c.ds.length (lR);omega,Hr.o.2.2⟩;have hm:Hu (eS Z.drew r db E pc ⟨(cT c).op,c.ds,λ_=>false⟩):=⟨pZ hp.o (Hj.o r (by omega) (by omega)) (λv=>Hj.o db (by have:=HP.o v;omega) (by have:=HP.o v;omega)) (Nat.le_of_eq hc.symm),HU.o,lK _ Ht⟩
        go_wp2_with fail
        (try simp only[Exit.inBlock,Exit.then])
        show bodyPost _ _ _ _ _ (iq wr B (.pointer (some ⟨f,0,none⟩)) (.int .u64 (aI (aB bh c.l) c.keep:Nat)) (.int .u8 (p:Nat)) (.int .i64 c.nb) (.int .i64 c.pol) (.int .u64 (aI (aB bh c.l) c.keep:Nat)) (.pointer (some ⟨r,0,none⟩))).drew
        rw[<- hY.o];exact vY (X:=Z.drew) hM.o hR.o rfl rfl rfl rfl ⟨(λh=>absurd Hp.o h),(λ_=>⟨f,u,z,r,db,E,pc,by rw[Jm.o];rfl,Jf.o,hm.o,hN.o.1,hN.o.2⟩),bO hO.o⟩
    ·have he:=C m;subst he;have O:=qI m;dsimp only;rw[eW m];clear He C;obtain⟨⟨a0,b0⟩,⟨a1,b1⟩,⟨a2,b2⟩,⟨a3,T⟩,a4,b4⟩:=cells5 HX.o;obtain⟨⟨c0,d0⟩,c1,d1⟩:=tK H3.o;clear m;generalize dV c.ds=ff at *
     go_wp2_with fail
     (try simp only[Exit.inBlock,Exit.then]);exact vY (X:=(iq t B (.pointer none) (.int .u64 0) (.int .u8 0) (.int .i64 0) (.int .i64 0) (.int .u64 0) (.pointer none))) (e:=.iface 108 (.int .i64 (ff:Nat))) (vU HX.o) (vV H3.o) rfl rfl rfl rfl ⟨(λ_=>by rw[Hp.o,eW O.o]),(λh=>by rw[Hp.o] at h;exact absurd (by omega) O.o),vX hG.o (by omega)⟩
 ·have he:=C hf;subst he;have Hp:Hu (cR c=eC c.l):=by grind[Hu,cR]
  have O:=qI hf;clear He C;obtain⟨⟨a0,b0⟩,⟨a1,b1⟩,⟨a2,b2⟩,⟨a3,T⟩,a4,b4⟩:=cells5 hi.o;obtain⟨⟨c0,d0⟩,c1,d1⟩:=tK hg.o;generalize eC c.l=ff at *;clear hf
  go_wp2_with fail
  (try simp only[Exit.inBlock,Exit.then]);exact vY (X:=(iq y B (.pointer none) (.int .u64 0) (.int .u8 0) (.int .i64 0) (.int .i64 0) (.int .u64 0) (.pointer none))) (e:=.iface 108 (.int .i64 ff)) (vU hi.o) (vV hg.o) rfl rfl rfl rfl ⟨(λ_=>by rw[Hp.o];unfold aD;rw[if_neg O.o]),(λh=>absurd (Hp.o.symm.trans h) O.o),vX Hn.o (by omega)⟩
