import Derived.Test.YtjlblidnfebmiaaGreatDoorF36
set_option maxRecDepth 100000
set_option maxHeartbeats 16000000
open Go Go.RowKit Go.Shelf
attribute [local go_sem] Oper.semAt_some
open Go.Proofs.Tryz
namespace Go.Proofs.YtjlblidnfebmiaaGreatDoor
variable{W W':World}{c tb:Nat}{l:List ah}
theorem U6{fn:Func}{p q u:Tmp}{c d:TypeId}(h:fn.results=#[.cell p c,.cell q d,.tmp u])(tmps:Array Value)(P:Program)(w:World) :
  (results fn tmps).run P w=((asAddr (tmps.getD p undef)).run P w).andThen λa i=>((loadVar c a).run P i).andThen λv f=>((asAddr (tmps.getD q undef)).run P f).andThen λb e=>((loadVar d b).run P e).andThen λx g=>.ok (.tuple #[v,x,tmps.getD u undef]) g:=by
 simp only[results,h]
 simp[Sem.run_bind,Result.andThen]
theorem Fa(n a b:Int)(w:World):Calls prog 60 #[n,a,b] w λe w'=>e=.returned (.bool (decide (a<=n/\n<=b)))/\w'=w:=by
 by_cases c:a<=n
 ·have Ha:decide (a<=n)=true:=Qc c;have d:Hu (decide (a<=n/\n<=b)=decide (n<=b)):=by unfold Hu;by_cases f:n<=b <;> simp[c,f]
  rw[d.o];clear c
  go_enter func60,ntmps60
  go_wp2
  go_ret;exact⟨rfl,rfl⟩
 ·have Ha:decide (a<=n)=false:=Q7 c;have d:Hu (decide (a<=n/\n<=b)=false):=Q7 λh=>c h.1
  rw[d.o];clear c
  go_enter func60,ntmps60
  go_wp2
  go_ret;exact⟨rfl,rfl⟩
theorem U8(l:List ah):∀k,iu l k=fm l k:=by
 intro k
 induction k with
 | zero=>rfl
 | succ k ih=>rw[iu,fm,ih]
theorem yv(h:dU l=0):0<l.length:=by
 apply Qt;intro a
 have:l=[]:=List.length_eq_zero_iff.1 (by omega)
 subst this;exact absurd h (by decide)
abbrev eI:=(.cells #[.pointer none,.int .u64 0,.int .u8 0,(0:Int),(0:Int)] 84:Obj)
theorem U9{a c B:Nat}(h:bG W tb a 0 c l)(d:0<l.length)(f:W.heap[B+1]?=some (eI))(g:W.heap[B+1+1]?=some (.cells #[.int .u64 0,.pointer none] 87)):(tb≠B+1/\tb≠B+1+1)/\(a≠B+1/\a≠B+1+1):=by
 have b:W.cell? (B+1:Nat)=some (.pointer none):=ad f 0;have a2:W.cell? ⟨B+1+1,0,none⟩=some (.int .u64 0):=ad g 0;have c1:=h.cell;have c2:=(h.cells 0 d).1;refine⟨⟨λe=>?_,λe=>?_⟩,λe=>?_,λe=>?_⟩
 ·rw[e,b] at c1;cases c1
 ·rw[e,a2] at c1;cases c1
 ·rw[e] at c2;have c2:W.cell? (B+1:Nat)=_:=c2;rw[b] at c2;cases c2
 ·rw[e] at c2;have c2:W.cell? ⟨B+1+1,0,none⟩=_:=c2;rw[a2] at c2;cases c2
theorem lh{b o:Nat}(h:bG W tb b o c l)(f:W'.heap[tb]?=W.heap[tb]?)(d:W'.heap[b]?=W.heap[b]?)(hs:W<=W'.heap.size):bG W' tb b o c l:=
 ⟨(World.cell?_of_block (a:=tb) f).trans h.cell,λk e=>⟨(World.cell?_of_block (a:=⟨b,o+k*3,none⟩) d).trans (h.cells k e).1,(World.cell?_of_block (a:=⟨b,o+k*3+1,none⟩) d).trans (h.cells k e).2.1,(World.cell?_of_block (a:=⟨b,o+k*3+2,none⟩) d).trans (h.cells k e).2.2⟩,Q1 h.lt hs,h.len⟩
theorem nh{b db:Nat}{g:Option Addr}{ds:List ak}{us:Nat->Bool}(h:aF W b db g c ds us)(l:W'.heap[b]?=W.heap[b]?)(p:0<ds.length->W'.heap[db]?=W.heap[db]?)(hs:W<=W'.heap.size):aF W' b db g c ds us:=by
 have cc:∀j,W'.cell? ⟨b,j,none⟩=W.cell? ⟨b,j,none⟩:=λj=>World.cell?_of_block (a:=⟨b,j,none⟩) l
 have o:∀j,W'.frozen? ⟨b,j,none⟩=W.frozen? ⟨b,j,none⟩:=λj=>by simp[World.frozen?,l]
 refine⟨by rw[cc];exact h.row,λe=>⟨(h.at0 e).1,(h.at0 e).2.1,Q1 (h.at0 e).2.2 hs⟩,λk n=>?_,λj i=>⟨by rw[cc];exact (h.used j i).1,by rw[o];exact (h.used j i).2⟩⟩;have f:=p (by omega);have d:∀j,W'.cell? ⟨db,j,none⟩=W.cell? ⟨db,j,none⟩:=λj=>World.cell?_of_block (a:=⟨db,j,none⟩) f
 have m:∀j,W'.frozen? ⟨db,j,none⟩=W.frozen? ⟨db,j,none⟩:=λj=>by simp[World.frozen?,f]
 rw[d,d,d,m];exact h.cells k n
def ji (W:World) (B:Nat) (v0 v1 v2 v3 v4:Value):World:=((((W.setCell B v0).setCell ⟨B,1,none⟩ v1).setCell ⟨B,2,none⟩ v2).setCell ⟨B,3,none⟩ v3).setCell ⟨B,4,none⟩ v4
def gR (W:World) (B:Nat) (v0 v1 v2 v3 v4 s0 s1:Value):World:=((ji W (B+1) v0 v1 v2 v3 v4).setCell ⟨B+1+1,0,none⟩ s0).setCell ⟨B+1+1,1,none⟩ s1
section
variable{W w:World}{B N j:Nat}{v0 v1 v2 v3 v4 s0 s1 z0 z1 z2 z3 z4 y0 y1:Value}{t:TypeId}
theorem uz(h:W.heap[B]?=some (.cells #[z0,z1,z2,z3,z4] t (0,0))):(ji W B v0 v1 v2 v3 v4).heap[B]?=some (.cells #[v0,v1,v2,v3,v4] t (0,0)):=aV (aV (aV (aV (aV h 0 v0) 1 v1) 2 v2) 3 v3) 4 v4
theorem Fb(h:j≠B):(ji W B v0 v1 v2 v3 v4).heap[j]?=W.heap[j]?:=(set_other h).trans ((set_other h).trans ((set_other h).trans ((set_other h).trans (set_other h))))
theorem uA(h:Below N w W)(a:N<=B):Below N w (ji W B v0 v1 v2 v3 v4):=((((h.setCell (p:=B) a _).setCell (p:=⟨B,1,none⟩) a _).setCell (p:=⟨B,2,none⟩) a _).setCell (p:=⟨B,3,none⟩) a _).setCell (p:=⟨B,4,none⟩) a _
theorem uB(h:W.heap[B+1]?=some (.cells #[z0,z1,z2,z3,z4] t (0,0))):(gR W B v0 v1 v2 v3 v4 s0 s1).heap[B+1]?=some (.cells #[v0,v1,v2,v3,v4] t (0,0)):=(set_other (by omega)).trans ((set_other (by omega)).trans (uz h))
theorem uC(h:W.heap[B+1+1]?=some (.cells #[y0,y1] t (0,0))):(gR W B v0 v1 v2 v3 v4 s0 s1).heap[B+1+1]?=some (.cells #[s0,s1] t (0,0)):=aV (aV ((Fb (by omega)).trans h) 0 s0) 1 s1
theorem Va(b:j≠B+1)(a:j≠B+1+1):(gR W B v0 v1 v2 v3 v4 s0 s1).heap[j]?=W.heap[j]?:=(set_other a).trans ((set_other a).trans (Fb b))
theorem uD(h:Below N w W)(a:N<=B):Below N w (gR W B v0 v1 v2 v3 v4 s0 s1):=((uA h (by omega)).setCell (p:=⟨B+1+1,0,none⟩) (show N<=B+1+1 by omega) _).setCell (p:=⟨B+1+1,1,none⟩) (show N<=B+1+1 by omega) _
theorem Vb:(gR W B v0 v1 v2 v3 v4 s0 s1).heap.size=W.heap.size:=by simp[gR,ji]
theorem cells5(h:W.heap[B]?=some (.cells #[z0,z1,z2,z3,z4] t (0,0))):(W.cell? B=some z0/\W.frozen? B=false)/\(W.cell? ⟨B,1,none⟩=some z1/\W.frozen? ⟨B,1,none⟩=false)/\(W.cell? ⟨B,2,none⟩=some z2/\W.frozen? ⟨B,2,none⟩=false)/\(W.cell? ⟨B,3,none⟩=some z3/\W.frozen? ⟨B,3,none⟩=false)/\(W.cell? ⟨B,4,none⟩=some z4/\W.frozen? ⟨B,4,none⟩=false):=by simp[World.cell?,World.frozen?,h]
theorem rQ(h:W.heap[B]?=some (.cells #[z0,z1] t (0,0))):(W.cell? B=some z0/\W.frozen? B=false)/\(W.cell? ⟨B,1,none⟩=some z1/\W.frozen? ⟨B,1,none⟩=false):=by simp[World.cell?,World.frozen?,h]
theorem yw{h:Option Addr}{e f c d:Int}{p q:Nat}{a:Act}{i:TypeId}{pos:String}{after:Array Edge}{guard:Option (Nat × Bool)}{K:Act->World->Prop}{Q:Exit->Act->World->Prop}
  (g:W.heap[B]?=some (.cells #[z0,z1,z2,z3,z4] t (0,0))) (n:a.tmps[p]?.getD undef=.pointer (some ⟨B,0,none⟩)) (l:a.tmps[q]?.getD undef=.agg #[.pointer h,.int .u64 e,.int .u8 f,c,d])
  (b:K a (ji W B (.pointer h) (.int .u64 e) (.int .u8 f) c d)) :
  Oper.wp prog { dst:=none,op:=Op.store 84 (Operand.tmp p) (Operand.tmp q),type:=i,pos:=pos,after:=after,guard:=guard } a W K Q:=by
 unfold ji at b;have j:=qI b;clear b;obtain⟨⟨c0,f0⟩,⟨c1,f1⟩,⟨c2,f2⟩,⟨c3,f3⟩,k,m⟩:=cells5 g;clear g;go_simp;exact j.o
theorem uE{X:World}{a:Act}{e:Value}{R:Ending->World->Prop}(b:X.heap[B+1]?=some (.cells #[v0,v1,v2,v3,v4] 84 (0,0)))(hs:X.heap[B+1+1]?=some (.cells #[s0,s1] 87 (0,0)))(g:a.tmps.getD 2 undef=.pointer (some ⟨B+1,0,none⟩))(c:a.tmps.getD 3 undef=.pointer (some ⟨B+1+1,0,none⟩))(d:a.tmps.getD 4 undef=e)(hd:a.defers=[])(f:R (.returned (.tuple #[.agg #[v0,v1,v2,v3,v4],.agg #[s0,s1],e])) X):bodyPost prog Tryz.f28 R .ret a X:=by
 refine bodyPost_ret (v:=.tuple #[.agg #[v0,v1,v2,v3,v4],.agg #[s0,s1],e]) ?_ hd f;obtain⟨⟨c0,_⟩,⟨c1,_⟩,⟨c2,_⟩,⟨c3,_⟩,h,_⟩:=cells5 b;obtain⟨⟨j,_⟩,i,_⟩:=rQ hs;rw[U6 rfl,g,c,d];clear b hs g c d f;go_simp
end
structure Vc (w w':World) (c:dE) (e:Ending):Prop where
 bad:cX c≠0->e=.returned (.tuple #[.agg #[.pointer none,.int .u64 0,.int .u8 0,(0:Int),(0:Int)],.agg #[.int .u64 0,.pointer none],aJ (cX c)])
 good:cX c=0->∃tb b cc pb db ao pc,e=.returned (.tuple #[mV (cB c) tb,sV ⟨(cB c).op,c.ds,λ_=>false⟩ pb,.nilIface])/\dZ w' tb b 0 cc (cB c)/\ek w' pb db ao pc ⟨(cB c).op,c.ds,λ_=>false⟩/\w.heap.size<=pb/\(0<c.ds.length->w.heap.size<=db)
 below:Below w w w'
abbrev ni:=λ(x0:Option Addr) (x1:dE) (x2:Nat) (x3:Option Addr) (x4:Nat)=>(.cells #[.slice x0 x1.l.length x2,.int .u64 (x1.keep:Nat),(x1.nb:Int),.slice x3 x1.ds.length x4,(x1.pol:Int)] 27:Obj)
abbrev pW:=λ(x0:ak) (x1:Nat)=>(.cells #[x0.kind,.int .i64 (x1:Nat),x0.sick] 77:Obj)
abbrev uF:=λ(B:Nat) (c:dE) (w':World)=>cl w' B (1) (.int .u64 (c.keep:Nat))/\cl w' B (2) (c.nb:Int)/\cl w' B (4) (c.pol:Int)
theorem Vd(c:dE)(v1 v2:Value)(g o:Nat)(w:World)(T:gU w v1 c.l)(h2:et w v2 g o c.ds)(I:c.keep<18446744073709551616) :
  Calls prog 28 #[.agg #[v1,.int .u64 (c.keep:Nat),.int .i64 c.nb,v2,.int .i64 c.pol]] w λe w'=>Vc w w' c e:=by
 obtain⟨ca,cc,hs⟩:∃ca cc,v1=.slice ca c.l.length cc:=by
  rcases id T with⟨hl,ao,q,rfl⟩|⟨b,o,q,rfl,_⟩
  ·exact⟨ao,q,by rw[hl];rfl⟩
  ·exact⟨_,q,rfl⟩
 subst hs;obtain⟨da,dc,ho,_⟩:=id h2;subst ho;have hJ:=qI ((((Q0 w.heap.size w).alloc (lR) (ni ca c cc da dc)).alloc (by simp) (eI)).alloc (by simp;omega) (.cells #[.int .u64 0,.pointer none] 87));have sz:(((w.alloc (ni ca c cc da dc)).alloc (eI)).alloc (.cells #[.int .u64 0,.pointer none] 87)).heap.size=w.heap.size+3:=by simp
 have hY:=qI (cC (cC (bd w (ni ca c cc da dc) rfl) (eI)) (.cells #[.int .u64 0,.pointer none] 87));have Jg:=qI (cC (bd (w.alloc (ni ca c cc da dc)) (eI) (n:=w.heap.size+1) (by simp)) (.cells #[.int .u64 0,.pointer none] 87));have h9:=qI (bd ((w.alloc (ni ca c cc da dc)).alloc (eI)) (.cells #[.int .u64 0,.pointer none] 87) (n:=w.heap.size+2) (by simp));have HS:=qI (Il ca cc c.l (((w.alloc (ni ca c cc da dc)).alloc (eI)).alloc (.cells #[.int .u64 0,.pointer none] 87)) (T.below hJ.o));have HD:=qI h2;have u0:(((w.alloc (ni ca c cc da dc)).alloc (eI)).alloc (.cells #[.int .u64 0,.pointer none] 87)).cell? ⟨w.heap.size,0,none⟩=some (.slice ca c.l.length cc):=ad hY.o 0;clear T h2
 go_enter func28,ntmps28
 go_wp2_with fail
 generalize (((w.alloc (ni ca c cc da dc)).alloc (eI)).alloc (.cells #[.int .u64 0,.pointer none] 87))=U at *;generalize hB:w.heap.size=B at *;refine HS.o.mono ?_;rintro e y ⟨Hc,Hz,Hf⟩;have Ho:=qI (show Below w.heap.size w y by rw[hB];exact hJ.o.trans (Hf.mono (by omega)));have JK:=Hf.size;have HY:=qI ((Hf.block B (by omega)).trans hY.o);have hr:=qI ((Hf.block (B+1) (by omega)).trans Jg.o);have hg:=qI ((Hf.block (B+1+1) (by omega)).trans h9.o);clear Hf u0 HS
 by_cases hf:dU c.l=0
 ·obtain⟨f,t,A,rfl,Hx⟩:=Hc hf;have HC:=qI Hx;have Ha:=qI (Im hf);have hx:=qI Hx.len;clear Hc Hz Hx;obtain⟨bad,HQ⟩:∃x:Bool,x=(!decide (c.keep &&& az ba c.l=c.keep) || (!decide (0<=c.nb/\c.nb<=1125899906842624) || !decide (0<=c.pol/\c.pol<=3))):=⟨_,rfl⟩;have Hg:=qI HQ;clear HQ;have Hq:az ba c.l<18446744073709551616:=jN ba c.l c.l.length hx.o;have hu:=qI λ(W:World)=>nJ c.keep (az ba c.l) W I Hq;have hE:=qI λ(W:World)=>Fa c.nb 0 1125899906842624 W;have hv:=qI λ(W:World)=>Fa c.pol 0 3 W
  go_upto_region 4 with fail
  have M:Hu (∀W,Below y.heap.size y W->(uF B c) W):=λW m=>⟨ad ((m.block B (by omega)).trans HY.o) 1,ad ((m.block B (by omega)).trans HY.o) 2,ad ((m.block B (by omega)).trans HY.o) 4⟩
  go_cut [39] (λj0 wc=>j0=.bool bad/\Below y.heap.size y wc)
  case first=>
   have Hi:Hu (Below y.heap.size y y.drew):=bB (Q0 _ _);obtain⟨b1,Hf⟩:∃b,b=decide (c.keep &&& az ba c.l=c.keep):=⟨_,rfl⟩;obtain⟨b2,Ht⟩:∃b,b=decide (0<=c.nb/\c.nb<=1125899906842624):=⟨_,rfl⟩;obtain⟨b3,Hk⟩:∃b,b=decide (0<=c.pol/\c.pol<=3):=⟨_,rfl⟩;rw[<- Hf,<- Ht,<- Hk] at Hg;simp only[<- Hf] at hu;simp only[<- Ht] at hE;simp only[<- Hk] at hv;clear Hf Ht Hk;have hq:b1=false\/(b1=true/\b2=false)\/(b1=true/\b2=true):=by cases b1 <;> cases b2 <;> simp
   rcases hq with rfl|⟨rfl,rfl⟩|⟨rfl,rfl⟩
   all_goals
    refine wp_region_held_drew (S:=uF B c) (by kernel_rfl) (M.o _ Hi.o) λhHeld=>?_;generalize y.drew=V at *;refine tk 0 ?_;refine tk 1 ?_;refine tk 2 ?_
    (refine rd 3 λK d=>?_;go_simp;go_wp2_with fail;refine (nB f t 0 A c.l V (HC.o.below Hi.o)).mono ?_;rintro e W2 ⟨rfl,Ht⟩;have Hl:=qI (Hi.o.trans (Ht.mono Hi.o.size));clear Ht;go_wp2_with fail;refine d.o _ _ (M.o _ Hl.o) λhHeld=>?_;clear d K)
    (refine rd 4 λK d=>?_;go_simp;go_wp2_with fail;refine (hu.o _).mono ?_;rintro e wz ⟨rfl,rfl⟩;go_wp2_with fail;refine d.o _ _ (M.o _ Hl.o) λhHeld=>?_;clear d K)
    refine tk 5 ?_;refine tk 6 ?_
    first|refine tk 7 ?_|refine ts 7 ?_
    first|refine tk 8 ?_|refine ts 8 ?_
    first|refine ts 9 ?_|(refine rd 9 λK d=>?_;go_simp;go_wp2_with fail;refine (hE.o _).mono ?_;rintro e wz ⟨rfl,rfl⟩;go_wp2_with fail;refine d.o _ _ (M.o _ Hl.o) λhHeld=>?_;clear d K)
    first|refine tk 10 ?_|refine ts 10 ?_
    refine tk 11 ?_;refine tk 12 ?_
    first|refine tk 13 ?_|refine ts 13 ?_
    first|refine tk 14 ?_|refine ts 14 ?_
    first|refine ts 15 ?_|(refine rd 15 λK d=>?_;go_simp;go_wp2_with fail;refine (hv.o _).mono ?_;rintro e wz ⟨rfl,rfl⟩;go_wp2_with fail;refine d.o _ _ (M.o _ Hl.o) λhHeld=>?_;clear d K)
    first|refine tk 16 ?_|refine ts 16 ?_
    refine tk 17 ?_;refine Qn (by kernel_rfl) ?_ _;clear hHeld
    go_wp2
    go_meet
    exact⟨by rw[Hg.o];rfl,Hl.o⟩
  case rest=>
   obtain⟨rfl,F⟩:=hcut;have hC:=qI (Ho.o.trans (F.mono (by omega)));have JC:=F.size;have hU:=qI ((F.block B (by omega)).trans HY.o);have hm:=qI ((F.block (B+1) (by omega)).trans hr.o);have hD:=qI ((F.block (B+1+1) (by omega)).trans hg.o);have Jy:=qI (HC.o.below F);have H3:=qI hf;clear F hf hu hE hv M HC
   rcases two bad with P|P
   ·have Hm:Hu (cX c=1):=by
     unfold Hu cX;rw[if_neg λh=>h H3.o,if_pos];rw[P] at Hg;have m:=Hg.o
     by_cases D:c.keep &&& az ba c.l=c.keep
     ·by_cases H:0<=c.nb/\c.nb<=1125899906842624
      ·by_cases N:0<=c.pol/\c.pol<=3
       ·rw[Qc D,Qc H,Qc N] at m;cases m
       ·exact .inr (.inr N)
      ·exact .inr (.inl H)
     ·exact .inl D
    subst P;obtain⟨⟨a0,b0⟩,⟨a1,b1⟩,⟨a2,b2⟩,⟨a3,b3⟩,a4,b4⟩:=cells5 hm.o;obtain⟨⟨c0,d0⟩,c1,d1⟩:=rQ hD.o
    go_wp2_with fail
    (try simp only[Exit.inBlock,Exit.then]);exact uE (X:=(gR wc B (.pointer none) (.int .u64 0) (.int .u8 0) (.int .i64 0) (.int .i64 0) (.int .u64 0) (.pointer none))) (e:=.iface 108 (.int .i64 1)) (uB hm.o) (uC hD.o) rfl rfl rfl rfl ⟨(λ_=>by rw[Hm.o];rfl),(λh=>by rw[Hm.o] at h;cases h),uD hC.o (by omega)⟩
   ·have Hr:Hu ((c.keep &&& az ba c.l=c.keep)/\(0<=c.nb/\c.nb<=1125899906842624)/\(0<=c.pol/\c.pol<=3)):=by
     unfold Hu;rw[P] at Hg;have m:=Hg.o
     by_cases D:c.keep &&& az ba c.l=c.keep
     ·by_cases H:0<=c.nb/\c.nb<=1125899906842624
      ·by_cases N:0<=c.pol/\c.pol<=3
       ·exact⟨D,H,N⟩
       ·rw[Qc D,Qc H,Q7 N] at m;cases m
      ·rw[Qc D,Q7 H] at m;cases m
     ·rw[Q7 D] at m;cases m
    have Hm:Hu (cX c=((dI c.ds:Nat):Int)):=by
     unfold Hu cX;rw[if_neg λh=>h H3.o,if_neg (λh=>by rcases h with h|h|h;exact h Hr.o.1;exact h Hr.o.2.1;exact h Hr.o.2.2)]
    subst P;have e3:wc.cell? ⟨B,3,none⟩=some (.slice da c.ds.length dc):=ad hU.o 3;have h4:=qI (Ao (.slice da c.ds.length dc) g o c.ds wc (HD.o.le (aZ.of_below hC.o)))
    go_wp2_with fail
    refine h4.o.mono ?_;rintro e p ⟨Hc,Hz,Hk⟩;have O:=qI (hC.o.trans (Hk.mono (by omega)));have JH:=Hk.size;have H7:=qI ((Hk.block B (by omega)).trans hU.o);have H1:=qI ((Hk.block (B+1) (by omega)).trans hm.o);have H0:=qI ((Hk.block (B+1+1) (by omega)).trans hD.o);have Hs:=qI (Jy.o.below Hk);clear Hk e3 h4
    by_cases r:dI c.ds=0
    ·obtain⟨pp,rfl,u,db,G,pc,rfl,He,hy,Hy⟩:=Hc r;rw[r] at Hm;have HP:=qI He;have H4:=qI (mn r);have h6:Hu (w.heap.size<=u/\(0<c.ds.length->w.heap.size<=db)):=⟨by omega,λz=>by have:=Hy z;omega⟩;have JD:=He.lt;have Jw:B+3<=u:=by omega
     have HI:Hu (0<c.ds.length->B+3<=db):=λz=>by have:=Hy z;omega
     have hh:Hu (0<c.ds.length->db<p.heap.size):=λz=>(He.at0 z).2.2
     clear Hc Hz He hy Hy r;dsimp only;rw[show aJ (((0:Nat)):Int)=.nilIface from rfl]
     go_upto_region 9 with fail
     have Jn:=nI (az ba c.l) c.keep Hq I;have Hh:Hu (∀W,Below p.heap.size p W->(uF B c) W):=λW m=>⟨ad ((m.block B (by omega)).trans H7.o) 1,ad ((m.block B (by omega)).trans H7.o) 2,ad ((m.block B (by omega)).trans H7.o) 4⟩
     go_cut [8] (λp8 wc=>∃l,p8=.pointer (some ⟨l,0,none⟩)/\wc.heap[l]?=some (.cells #[.pointer (some ⟨f,0,none⟩),.int .u64 (aG (az ba c.l) c.keep:Nat),.int .u8 (iu c.l c.l.length:Nat),.int .i64 c.nb,.int .i64 c.pol] 84 (0,0))/\p.heap.size<=l/\Below p.heap.size p wc)
     case first=>
      have Hi:Hu (Below p.heap.size p p.drew):=bB (Q0 _ _);refine wp_region_held_drew (S:=uF B c) (by kernel_rfl) (Hh.o _ Hi.o) λhHeld=>?_;generalize p.drew=V at *;refine tk 0 ?_;refine tk 1 ?_;refine tk 3 ?_;refine tk 4 ?_;refine tk 6 ?_;refine tk 8 ?_;refine tk 9 ?_;refine tk 10 ?_;refine tk 11 ?_;refine rd2 2 13 (λK d=>?_) λK d=>?_
      ·go_simp
       go_wp2_with fail
       refine (nB f t 0 A c.l V (Hs.o.below Hi.o)).mono ?_;rintro e C ⟨rfl,Hf⟩;have Ho:=qI (Hi.o.trans (Hf.mono Hi.o.size));clear Hf
       go_wp2_with fail
       refine d.o _ _ (Hh.o _ Ho.o) λhHeld=>?_;clear d K;refine tk 5 ?_;refine rd2 7 13 (λK d=>?_) λK d=>?_
       ·go_simp
        go_wp2_with fail
        refine (vj f t 0 A c.l C (Hs.o.below Ho.o) Ha.o).mono ?_;rintro e E ⟨rfl,Ht⟩;have Hl:=qI (Ho.o.trans (Ht.mono Ho.o.size));clear Ht
        go_wp2_with fail
        refine d.o _ _ (Hh.o _ Hl.o) λhHeld=>?_;clear d K;refine tk 12 ?_;refine rd 13 λK d=>?_;have O:=qI (Hl.o.alloc Hl.o.size (eI));have hS:=qI (bd E (eI) rfl);have Jp:E.heap.size<(E.alloc (eI)).heap.size:=by simp
        have HU:=Hl.o.size;go_simp
        go_wp2_with fail
        refine d.o _ _ (Hh.o _ O.o) λhHeld=>?_;clear d K;generalize E.alloc (eI)=Y3 at *;refine rd 14 λK d=>?_;rw[if_pos (by rfl)];refine yw hS.o rfl rfl ?_;have H5:Hu (Below p.heap.size p (ji Y3 (E.heap.size) (.pointer (some ⟨f,0,none⟩)) (.int .u64 (aG (az ba c.l) c.keep:Nat)) (.int .u8 (iu c.l c.l.length:Nat)) (.int .i64 c.nb) (.int .i64 c.pol))):=uA O.o HU;have hw:Hu ((ji Y3 (E.heap.size) (.pointer (some ⟨f,0,none⟩)) (.int .u64 (aG (az ba c.l) c.keep:Nat)) (.int .u8 (iu c.l c.l.length:Nat)) (.int .i64 c.nb) (.int .i64 c.pol)).heap[E.heap.size]?=_):=uz hS.o;refine d.o _ _ (Hh.o _ H5.o) λhHeld=>?_;clear d K;(try simp only[Act.put,s1,s2,s3]);refine Qn (by kernel_rfl) ?_ _
        go_wp2
        go_meet
        exact⟨_,rfl,hw.o,HU,H5.o⟩
       ·have J:=qI (Ho.o.alloc Ho.o.size (eI));have hF:=qI (bd C (eI) rfl);have HR:C.heap.size<(C.alloc (eI)).heap.size:=by simp
        have HK:=Ho.o.size;go_simp
        go_wp2_with fail
        refine d.o _ _ (Hh.o _ J.o) λhHeld=>?_;clear d K;generalize C.alloc (eI)=Y5 at *;refine rd 7 λK d=>?_;go_simp
        go_wp2_with fail
        refine (vj f t 0 A c.l Y5 (Hs.o.below J.o) Ha.o).mono ?_;rintro e Y6 ⟨rfl,HZ⟩;have h7:=qI (J.o.trans (HZ.mono J.o.size));have hM:=qI ((HZ.block _ HR).trans hF.o);have Jl:=Q1 HR HZ.size;clear HZ
        go_wp2_with fail
        refine d.o _ _ (Hh.o _ h7.o) λhHeld=>?_;clear d K;refine tk 12 ?_;refine rd 14 λK d=>?_;rw[if_pos (by rfl)];refine yw hM.o rfl rfl ?_;have hW:Hu (Below p.heap.size p (ji Y6 (C.heap.size) (.pointer (some ⟨f,0,none⟩)) (.int .u64 (aG (az ba c.l) c.keep:Nat)) (.int .u8 (iu c.l c.l.length:Nat)) (.int .i64 c.nb) (.int .i64 c.pol))):=uA h7.o HK;have Jf:Hu ((ji Y6 (C.heap.size) (.pointer (some ⟨f,0,none⟩)) (.int .u64 (aG (az ba c.l) c.keep:Nat)) (.int .u8 (iu c.l c.l.length:Nat)) (.int .i64 c.nb) (.int .i64 c.pol)).heap[C.heap.size]?=_):=uz hM.o;refine d.o _ _ (Hh.o _ hW.o) λhHeld=>?_;clear d K;(try simp only[Act.put,s1,s2,s3]);refine Qn (by kernel_rfl) ?_ _
        go_wp2
        go_meet
        exact⟨_,rfl,Jf.o,HK,hW.o⟩
      ·have H2:=qI (Hi.o.alloc Hi.o.size (eI));have Jc:=qI (bd V (eI) rfl);have HO:V.heap.size<(V.alloc (eI)).heap.size:=by simp
       have HM:=Hi.o.size;go_simp
       go_wp2_with fail
       refine d.o _ _ (Hh.o _ H2.o) λhHeld=>?_;clear d K;generalize V.alloc (eI)=Y8 at *;refine rd 2 λK d=>?_;go_simp
       go_wp2_with fail
       refine (nB f t 0 A c.l Y8 (Hs.o.below H2.o)).mono ?_;rintro e Y9 ⟨rfl,H9⟩;have ha:=qI (H2.o.trans (H9.mono H2.o.size));have Jq:=qI ((H9.block _ HO).trans Jc.o);have HJ:=Q1 HO H9.size;clear H9
       go_wp2_with fail
       refine d.o _ _ (Hh.o _ ha.o) λhHeld=>?_;clear d K;refine tk 5 ?_;refine rd 7 λK d=>?_;go_simp
       go_wp2_with fail
       refine (vj f t 0 A c.l Y9 (Hs.o.below ha.o) Ha.o).mono ?_;rintro e Y ⟨rfl,Hp⟩;have HT:=qI (ha.o.trans (Hp.mono ha.o.size));have HN:=qI ((Hp.block _ HJ).trans Jq.o);have h5:=Q1 HJ Hp.size;clear Hp
       go_wp2_with fail
       refine d.o _ _ (Hh.o _ HT.o) λhHeld=>?_;clear d K;refine tk 12 ?_;refine rd 14 λK d=>?_;rw[if_pos (by rfl)];refine yw HN.o rfl rfl ?_;have HH:Hu (Below p.heap.size p (ji Y (V.heap.size) (.pointer (some ⟨f,0,none⟩)) (.int .u64 (aG (az ba c.l) c.keep:Nat)) (.int .u8 (iu c.l c.l.length:Nat)) (.int .i64 c.nb) (.int .i64 c.pol))):=uA HT.o HM;have hG:Hu ((ji Y (V.heap.size) (.pointer (some ⟨f,0,none⟩)) (.int .u64 (aG (az ba c.l) c.keep:Nat)) (.int .u8 (iu c.l c.l.length:Nat)) (.int .i64 c.nb) (.int .i64 c.pol)).heap[V.heap.size]?=_):=uz HN.o;refine d.o _ _ (Hh.o _ HH.o) λhHeld=>?_;clear d K;(try simp only[Act.put,s1,s2,s3]);refine Qn (by kernel_rfl) ?_ _
       go_wp2
       go_meet
       exact⟨_,rfl,hG.o,HM,HH.o⟩
     case rest=>
      obtain⟨l,rfl,L,Jz,Hv⟩:=hcut;have H5:=qI (O.o.trans (Hv.mono (by omega)));have JG:=Hv.size;have Jx:=qI ((Hv.block B (by omega)).trans H7.o);have Jv:=qI ((Hv.block (B+1) (by omega)).trans H1.o);have h8:=qI ((Hv.block (B+1+1) (by omega)).trans H0.o);have Js:=qI (Hs.o.below Hv);have hw:=qI (HP.o.below Hv);have Jk:l<wc.heap.size:=(gS L).1;have hP:=qI L;have hA:=qI (U8 c.l c.l.length);have HW:=qI (Nv (a:=fm c.l c.l.length) (ds:=c.ds) (Cn (λk I=>Ha.o.at I) c.l.length (lR)).1 ((Cn (λk I=>Ha.o.at I) c.l.length (lR)).2 (yv H3.o)) H4.o.2);rw[hA.o] at hP;have d3:wc.cell? ⟨B,3,none⟩=some (.slice da c.ds.length dc):=ad Jx.o 3;clear L Hv Jn Hh
      go_wp2_with fail
      clear d3
      go_loopw [70] (λi wr=>∃k:Nat,k<=c.ds.length/\i=.int .i64 k/\wr.heap[l]?=some (.cells #[.pointer (some ⟨f,0,none⟩),.int .u64 (aG (az ba c.l) c.keep:Nat),.int .u8 (fF (fm c.l c.l.length) c.ds k:Nat),.int .i64 c.nb,.int .i64 c.pol] 84 (0,0))/\Apart (λj=>j=l) wc wr) (λi _=>c.ds.length - (intOf i).toNat)
      case atStart=>exact⟨0,by omega,rfl,hP.o,Apart.refl _ _⟩
      case round=>
       obtain⟨k,JJ,rfl,L,H8⟩:=hrel;have Hb:=qI L;have Hn:=qI H8;have Jj:=H8.size;have Jo:=H4.o.1;have H6:Hu (Below w.heap.size w wr):=H8.below H5.o (by omega) (λj hj=>by omega);clear L H8
       by_cases Q:k<c.ds.length
       ·obtain⟨_,_,Jt,hL⟩:=id HD.o;injection Jt with hs ho hv3
        subst hs hv3;obtain⟨rfl,JI,hI⟩:=hL (by omega);obtain⟨x0,x1,x2⟩:=hI k Q;have x0:=(aZ.of_below H6.o).cell _ _ _ x0;have x1:=(aZ.of_below H6.o).cell _ _ _ x1;have x2:=(aZ.of_below H6.o).cell _ _ _ x2;obtain⟨hX,Jd⟩:=H4.o.2 k Q;have JE:(k:Int)<(c.ds.length:Int):=by omega
        have hO:Hu (fF (fm c.l c.l.length) c.ds (k+1)=fF (fm c.l c.l.length) c.ds k ||| 2 ^ (aC c.ds k).node.toNat):=rfl;have JB:=(HW.o k (by omega)).1;clear hI hL ho;generalize aC c.ds k=x at *;obtain⟨v,hi⟩:=Int.eq_ofNat_of_zero_le hX;rw[hi] at x1 Jd;rw[hi] at hO;have Ju:=qI (bd wr (pW x v) rfl);have HA:=qI (cC Hb.o (pW x v));have a1:(wr.alloc (pW x v)).cell? ⟨wr.heap.size,1,none⟩=some (.int .i64 (v:Nat)):=ad Ju.o 1;have b2:(wr.alloc (pW x v)).cell? ⟨l,2,none⟩=some (.int .u8 (fF (fm c.l c.l.length) c.ds k:Nat)):=ad HA.o 2;have f2:=bQ HA.o 2;have hN:=or8 (fF (fm c.l c.l.length) c.ds k) v (by omega) (by omega);have hz:=qI (Hn.o.trans (Apart.alloc _ wr (pW x v)));clear hi hX
        go_wp2_with fail
        generalize wr.alloc (pW x v)=WX at *;have Ja:bits BinOp.or IntKind.u8 ((fF (fm c.l c.l.length) c.ds k:Nat):Int) (2 ^ v % 256)=((fF (fm c.l c.l.length) c.ds k ||| 2 ^ v:Nat):Int):=hN;clear hN
        go_region
        go_wp2_with fail
        have J:Hu ((WX.setCell ⟨l,2,none⟩ (.int .u8 (fF (fm c.l c.l.length) c.ds k ||| 2 ^ v:Nat))).drew.heap[l]?=some (.cells #[.pointer (some ⟨f,0,none⟩),.int .u64 (aG (az ba c.l) c.keep:Nat),.int .u8 (fF (fm c.l c.l.length) c.ds k ||| 2 ^ v:Nat),.int .i64 c.nb,.int .i64 c.pol] 84 (0,0))):=aV HA.o 2 _;have Jh:Hu (Apart (λj=>j=l) wc (WX.setCell ⟨l,2,none⟩ (.int .u8 (fF (fm c.l c.l.length) c.ds k ||| 2 ^ v:Nat))).drew):=(hz.o.trans (Apart.setCell (K:=λj=>j=l) rfl _ _ _)).trans (Apart.drew _ _)
        go_roundw
        case rel=>exact⟨k+1,by omega,by go_num,by rw[hO.o];exact J.o,Jh.o⟩
        case measure=>simp[intOf];omega
       ·have Ji:k=c.ds.length:=by omega
        subst Ji;obtain⟨s,Hw⟩:∃x,x=fF (fm c.l c.l.length) c.ds c.ds.length:=⟨_,rfl⟩;have Jb:=qI Hw;rw[<- Hw] at Hb;clear Hw;have hR:=qI ((Hn.o.block (B+1) (by omega) (by omega)).trans Jv.o);have hH:=qI ((Hn.o.block (B+1+1) (by omega) (by omega)).trans h8.o);have JF:=Hs.o.tlt;have JA:=Hs.o.lt;have hc:Hu ((f≠B+1/\f≠B+1+1)/\(t≠B+1/\t≠B+1+1)):=U9 Hs.o (yv H3.o) H1.o H0.o;have Jr:Hu (bG wr f t 0 A c.l):=lh Js.o (Hn.o.block f (by omega) (by omega)) (Hn.o.block t (by omega) (by omega)) Jj;have hF:Hu (aF wr u db G pc c.ds λ_=>false):=hw.o.kept (g:=some l) ⟨Hn.o.os,Hn.o.tape,Hn.o.output,Hn.o.size,λj hj hn=>Hn.o.block j hj λe=>hn (by rw[e])⟩ (λe=>by injection e with e;omega) (λz e=>by injection e with e;have:=hh.o z;omega);have m0:wr.cell? ⟨l,0,none⟩=some (.pointer (some ⟨f,0,none⟩)):=ad Hb.o 0;have m1:wr.cell? ⟨l,1,none⟩=some (.int .u64 (aG (az ba c.l) c.keep:Nat)):=ad Hb.o 1;have m2:wr.cell? ⟨l,2,none⟩=some (.int .u8 (s:Nat)):=ad Hb.o 2;have m3:wr.cell? ⟨l,3,none⟩=some (.int .i64 c.nb):=ad Hb.o 3;have m4:wr.cell? ⟨l,4,none⟩=some (.int .i64 c.pol):=ad Hb.o 4;obtain⟨⟨a0,b0⟩,⟨a1,b1⟩,⟨a2,b2⟩,⟨a3,b3⟩,a4,b4⟩:=cells5 hR.o;obtain⟨⟨c0,d0⟩,c1,d1⟩:=rQ hH.o;have hV:Hu ((gR wr B (.pointer (some ⟨f,0,none⟩)) (.int .u64 (aG (az ba c.l) c.keep:Nat)) (.int .u8 (s:Nat)) (.int .i64 c.nb) (.int .i64 c.pol) (.int .u64 (aG (az ba c.l) c.keep:Nat)) (.pointer (some ⟨u,0,none⟩))).heap[B+1]?=_):=uB hR.o;have hT:Hu ((gR wr B (.pointer (some ⟨f,0,none⟩)) (.int .u64 (aG (az ba c.l) c.keep:Nat)) (.int .u8 (s:Nat)) (.int .i64 c.nb) (.int .i64 c.pol) (.int .u64 (aG (az ba c.l) c.keep:Nat)) (.pointer (some ⟨u,0,none⟩))).heap[B+1+1]?=_):=uC hH.o;have Hj:Hu (∀j,j≠B+1->j≠B+1+1->(gR wr B (.pointer (some ⟨f,0,none⟩)) (.int .u64 (aG (az ba c.l) c.keep:Nat)) (.int .u8 (s:Nat)) (.int .i64 c.nb) (.int .i64 c.pol) (.int .u64 (aG (az ba c.l) c.keep:Nat)) (.pointer (some ⟨u,0,none⟩))).heap[j]?=wr.heap[j]?):=λj T h2=>Va T h2
        have hp:(gR wr B (.pointer (some ⟨f,0,none⟩)) (.int .u64 (aG (az ba c.l) c.keep:Nat)) (.int .u8 (s:Nat)) (.int .i64 c.nb) (.int .i64 c.pol) (.int .u64 (aG (az ba c.l) c.keep:Nat)) (.pointer (some ⟨u,0,none⟩))).heap.size=wr.heap.size:=Vb;have h3:Hu (Below w.heap.size w (gR wr B (.pointer (some ⟨f,0,none⟩)) (.int .u64 (aG (az ba c.l) c.keep:Nat)) (.int .u8 (s:Nat)) (.int .i64 c.nb) (.int .i64 c.pol) (.int .u64 (aG (az ba c.l) c.keep:Nat)) (.pointer (some ⟨u,0,none⟩)))):=uD H6 (by omega)
        go_wp2_with fail
        go_region
        obtain⟨Z,hZ⟩:∃Z,Z=gR wr B (.pointer (some ⟨f,0,none⟩)) (.int .u64 (aG (az ba c.l) c.keep:Nat)) (.int .u8 (s:Nat)) (.int .i64 c.nb) (.int .i64 c.pol) (.int .u64 (aG (az ba c.l) c.keep:Nat)) (.pointer (some ⟨u,0,none⟩)):=⟨_,rfl⟩;rw[<- hZ] at hV hT Hj hp h3;have Je:=qI hZ;clear hZ;have Jm:Hu (dZ Z.drew f t 0 A (cB c)):=⟨lh Jr.o (Hj.o f hc.o.1.1 hc.o.1.2) (Hj.o t hc.o.2.1 hc.o.2.2) (Nat.le_of_eq hp.symm),Ha.o,mw _ Hq,by show 1<=fF _ _ _/\fF _ _ _<=15;have:=HW.o c.ds.length (lR);omega,Hr.o.2.2⟩;have ht:Hu (ek Z.drew u db G pc ⟨(cB c).op,c.ds,λ_=>false⟩):=⟨nh hF.o (Hj.o u (by omega) (by omega)) (λz=>Hj.o db (by have:=HI.o z;omega) (by have:=HI.o z;omega)) (Nat.le_of_eq hp.symm),H4.o,mw _ Hq⟩
        go_wp2_with fail
        (try simp only[Exit.inBlock,Exit.then])
        show bodyPost _ _ _ _ _ (gR wr B (.pointer (some ⟨f,0,none⟩)) (.int .u64 (aG (az ba c.l) c.keep:Nat)) (.int .u8 (s:Nat)) (.int .i64 c.nb) (.int .i64 c.pol) (.int .u64 (aG (az ba c.l) c.keep:Nat)) (.pointer (some ⟨u,0,none⟩))).drew
        rw[<- Je.o];exact uE (X:=Z.drew) hV.o hT.o rfl rfl rfl rfl ⟨(λh=>absurd Hm.o h),(λ_=>⟨f,t,A,u,db,G,pc,by rw[Jb.o];rfl,Jm.o,ht.o,h6.o.1,h6.o.2⟩),bB h3.o⟩
    ·have he:=Hz r;subst he;have R:=qI r;dsimp only;rw[eP r];clear Hc Hz;obtain⟨⟨a0,b0⟩,⟨a1,b1⟩,⟨a2,b2⟩,⟨a3,b3⟩,a4,b4⟩:=cells5 H1.o;obtain⟨⟨c0,d0⟩,c1,d1⟩:=rQ H0.o;clear r;generalize dI c.ds=ff at *
     go_wp2_with fail
     (try simp only[Exit.inBlock,Exit.then]);exact uE (X:=(gR p B (.pointer none) (.int .u64 0) (.int .u8 0) (.int .i64 0) (.int .i64 0) (.int .u64 0) (.pointer none))) (e:=.iface 108 (.int .i64 (ff:Nat))) (uB H1.o) (uC H0.o) rfl rfl rfl rfl ⟨(λ_=>by rw[Hm.o,eP R.o]),(λh=>by rw[Hm.o] at h;exact absurd (by omega) R.o),uD O.o (by omega)⟩
 ·have he:=Hz hf;subst he;have Hm:Hu (cX c=dU c.l):=by unfold Hu cX;rw[if_pos hf]
  have R:=qI hf;clear Hc Hz;obtain⟨⟨a0,b0⟩,⟨a1,b1⟩,⟨a2,b2⟩,⟨a3,b3⟩,a4,b4⟩:=cells5 hr.o;obtain⟨⟨c0,d0⟩,c1,d1⟩:=rQ hg.o;generalize dU c.l=ff at *;clear hf
  go_wp2_with fail
  (try simp only[Exit.inBlock,Exit.then]);exact uE (X:=(gR y B (.pointer none) (.int .u64 0) (.int .u8 0) (.int .i64 0) (.int .i64 0) (.int .u64 0) (.pointer none))) (e:=.iface 108 (.int .i64 ff)) (uB hr.o) (uC hg.o) rfl rfl rfl rfl ⟨(λ_=>by rw[Hm.o];unfold aJ;rw[if_neg R.o]),(λh=>absurd (Hm.o.symm.trans h) R.o),uD Ho.o (by omega)⟩
