import Derived.Test.YtjlblidnfebmiaaGreatDoorY25
set_option maxRecDepth 100000
set_option maxHeartbeats 16000000
open Go Go.RowKit
open Go.Proofs.Tryz
namespace Go.Proofs.YtjlblidnfebmiaaGreatDoor
variable{L l:List Nat}{all free q:cD}{few k:Nat}{many:Int}
theorem WD(h:decide (many<=gI q (l.getD k 0))=true):jb q many l (k+1)=min (jb q many l k) (cE (l.getD k 0)):=by rw[jb,if_pos h]
theorem WE(h:decide (many<=gI q (l.getD k 0))=false):jb q many l (k+1)=jb q many l k:=by grind[jb]
theorem WF(h:decide (many<=gI free (l.getD k 0))=true):il free all many few l (k+1)=il free all many few l k++[(l.getD k 0,pN all many few (l.getD k 0))]:=by rw[il,if_pos h]
theorem WG(h:decide (many<=gI free (l.getD k 0))=false):il free all many few l (k+1)=il free all many few l k:=by grind[il]
theorem GP{nodes:Nat}(b:L=dQ nodes 16)(a:k<L.length):L.getD k 0<256:=by
 have:L.getD k 0∈dQ nodes 16:=by rw[<- b];simp[a]
 have:=(EU this).1
 omega
theorem zQ{j f t c:World}{N Bw g d a n m:Nat}{w:List Value}{b:Bool}{o:Obj}{v0:Value}(q:jB f N free all many)(r:ol f g L)(s:Below j j f)(u:j<=Bw)(x:N+4<=j)(z:g<j)(e:Bw+1<=f)
  (k:Below f.drew f.drew t) (v:Below (Bw+1) (t.alloc o) c) (t0:c.cell? Bw=some (.bool false)) (y:c.cell? ⟨Bw,1,none⟩=some v0) (t2:c.frozen? ⟨Bw,1,none⟩=false)
  (h:c.ownsRow (Bw+1) 231 2 (.slice d (n+1) a) (n+1) (w++[.int .u8 m,.bool b])) :
  jB (c.setCell ⟨Bw,1,none⟩ (.slice d (n+1) a)) N free all many/\ol (c.setCell ⟨Bw,1,none⟩ (.slice d (n+1) a)) g L/\Below j j (c.setCell ⟨Bw,1,none⟩ (.slice d (n+1) a))/\(c.setCell ⟨Bw,1,none⟩ (.slice d (n+1) a)).cell? Bw=some (.bool false)/\(c.setCell ⟨Bw,1,none⟩ (.slice d (n+1) a)).cell? ⟨Bw,1,none⟩=some (.slice d (n+1) a)/\(c.setCell ⟨Bw,1,none⟩ (.slice d (n+1) a)).frozen? ⟨Bw,1,none⟩=false/\(c.setCell ⟨Bw,1,none⟩ (.slice d (n+1) a)).ownsRow (Bw+1) 231 2 (.slice d (n+1) a) (n+1) (w++[.int .u8 m,.bool b])/\Bw+1<=(c.setCell ⟨Bw,1,none⟩ (.slice d (n+1) a)).heap.size:=by
 have l:Below (Bw+1) f t:=Below.mono ⟨k.os,k.tape,k.output,k.size,k.block⟩ e;have Ha:=Q5 e k.size;have p:=(l.alloc Ha o).trans v;have i:Below Bw f (c.setCell ⟨Bw,1,none⟩ (.slice d (n+1) a)):=(p.mono (Nat.le_succ _)).setCell (lR) _;refine⟨q.below i (by omega),r.below i (by omega),s.trans (i.mono u),?_,?_,?_,ownsRow_setCell_below h (Nat.lt_succ_self _) _,Q5 e i.size⟩
 ·clear i p l;go_simp
 ·clear i p l;go_simp
 ·clear i p l;go_simp
theorem WH{free all:cD}(nodes:Nat)(many:Int)(w:World)(ht:0<many)(hn:nodes<256)(hf:lL free)(ha:lL all) :
  Calls pg 166 #[v4 free,v4 all,.int .u8 nodes,.int .i64 many] w λe w'=>Tu w (oj free all nodes many) e w':=by
 have X:=qI (jB.made w free all many);have HB:=qI (E4 w free all many);have hc:=X.o.m;have hl:=qI hf;have HH:=qI ha;have hr:∀(fn:Fn) (first cap:Array Value) (w:World),(Instr.makeFunc fn first cap).run prog w=.ok (.func fn first cap) w:=λ_ _ _ _=>rfl
 unfold oj few_Ost;obtain⟨L,hL⟩:∃L,L=dQ nodes 16:=⟨_,rfl⟩;rw[<- hL];obtain⟨F,hF⟩:∃F,F=jb all many L L.length:=⟨_,rfl⟩;rw[<- hF];have H8:=qI hF;have hm:F<=4:=by rw[hF];exact EV all many L L.length
 clear hF;have HL:=qI hL;have hs:L.length<=16:=by rw[hL];exact yV nodes 16
 clear hf ha hL;unfold vD v4 at *
 go_enter func166,ntmps166
 go_wp2
 refine (Ts nodes hn).mono ?_;rintro e x ⟨v,rfl,hM,HF⟩;have H3:=HB.t HF;have HK:=qI (X.o.below HF X.o.lt);have HM:=qI hM;have Hv:w.heap.size+4<=x.heap.size:=Q5 X.o.lt HF.size;clear hM HF X HB hc;rw[<- HL.o] at HM
 rcases HM.o with⟨rfl,ao,c,rfl⟩|⟨g,c,rfl,hg,H5⟩
 ·-- no masks at all
  clear HM;have HV:=H3.o.alloc (by omega) (.cells #[false,()] 279);have Z:=HK.o.below ((Q0 x x).alloc (lR) (.cells #[false,()] 279)) HK.o.lt;have r0:(x.alloc (.cells #[false,()] 279)).cell? ⟨w.heap.size+1+1+1,0,none⟩=some (.bool false):=Z.r0;have r1:(x.alloc (.cells #[false,()] 279)).cell? ⟨w.heap.size+1+1+1,1,none⟩=some ():=Z.r1;have z0:(x.alloc (.cells #[false,()] 279)).frozen? ⟨w.heap.size+1+1+1,0,none⟩=false:=Z.z0;have z1:(x.alloc (.cells #[false,()] 279)).frozen? ⟨w.heap.size+1+1+1,1,none⟩=false:=Z.z1;have HV:=qI HV;clear Z
  go_wp2
  go_loopw [11,25] (λt i wr=>i=.int .i64 0/\wr=x) (λ_ _ _=>0)
  exact⟨rfl,rfl⟩
  ·obtain⟨rfl,rfl⟩:=hrel
   go_wp2
   go_loopw [40] (λi wq=>i=.int .i64 0/\wq=wr.alloc (.cells #[false,()] 279)) (λ_ _=>0)
   exact⟨rfl,rfl⟩
   ·obtain⟨rfl,rfl⟩:=hrel
    go_wp2
    (try simp only[Exit.inBlock,Exit.then]);refine bodyPost_ret (v:=.agg #[false,()]) ?_ rfl ⟨_,rfl,.inl ⟨rfl,none,0,rfl⟩,(λ_ _ _ _ h=>by cases h),?_⟩
    ·rw[vm rfl];go_simp
    ·exact ((HV.o.setCell (by show w.heap.size<=w.heap.size+1+1+1;omega) _).setCell (by show w.heap.size<=w.heap.size+1+1+1;omega) _)
 ·have H6:Hu (ol x g L):=H5;have O:=qI hg;clear H5 hg HM
  go_wp2
  go_loopw [11,25] (λt i wr=>∃k:Nat,k<=L.length/\i=.int .i64 k/\t=.int .i64 (jb all many L k:Nat)/\Hu (jB wr w free all many)/\Hu (ol wr g L)/\Hu (Below x x wr)) (λ_ i _=>L.length - (intOf i).toNat)
  exact⟨0,by omega,rfl,rfl,HK,H6,Q0 _ _⟩
  ·obtain⟨k,B,rfl,rfl,Hf,Hn,Hm⟩:=hrel
   by_cases s:k<L.length
   ·have Hk:=Hn.o k s;have Hc:=GP HL s;have I:=qI λh=>WD (q:=all) (many:=many) (l:=L) (k:=k) h;have J:=qI λh=>WE (q:=all) (many:=many) (l:=L) (k:=k) h;have hle:=EV all many L k;generalize L.getD k 0=m at *;have c0:=Hf.o.a.c0;have c1:=Hf.o.a.c1;have c2:=Hf.o.a.c2;have c3:=Hf.o.a.c3;have Hh:=qI (yW (q:=all) m (many:=many) (B:=w.heap.size+2) wr Hc HH Hf.o.m);unfold v4 at Hh;have HJ:=qI (sZ m);have H9:=pL m
    go_wp2
    refine Hh.o.m λw2 b=>?_;have Hy:=Hm.o.size;have Hi:=qI (Hf.o.below b (by have:=Hf.o.lt;omega));have Hp:=qI (Hn.o.below b (by have:=O.o;omega));have Hq:=qI (Hm.o.trans (b.mono Hy));clear b Hf Hn Hm Hh c0 c1 c2 c3 Hk
    rcases two (decide (many<=gI all m)) with b|b
    ·have A:=qI (I.o b);rw[b];clear b I J
     go_wp2
     refine (HJ.o _ Hc).e ?_;generalize cE m=p at *;generalize jb all many L k=f0 at *
     by_cases Hr:f0<=p
     ·have Hs:Hu (min f0 p=f0):=by unfold Hu;omega
      go_wp2
      go_roundw
      exact⟨k+1,by omega,by go_num,by (rw[A.o,Hs.o];first|done|exact congrArg (Value.int .i64) (by omega)),Hi,Hp,Hq⟩
      simp[intOf];omega
     ·have Hs:Hu (min f0 p=p):=by unfold Hu;omega
      go_wp2
      go_roundw
      exact⟨k+1,by omega,by go_num,by (rw[A.o,Hs.o];first|done|exact congrArg (Value.int .i64) (by omega)),Hi,Hp,Hq⟩
      simp[intOf];omega
    ·have A:=qI (J.o b);rw[b];clear b I J
     go_wp2
     go_roundw
     exact⟨k+1,by omega,by go_num,by rw[A.o],Hi,Hp,Hq⟩
     simp[intOf];omega
   ·have HP:k=L.length:=by omega
    subst HP;clear B s;have H7:=Hf.o.below ((Q0 wr wr).alloc (lR) (.cells #[false,()] 279)) Hf.o.lt;have Hy:=Hm.o.size;have HW:=Hn.o.below ((Q0 wr wr).alloc (lR) (.cells #[false,()] 279)) (by have:=O.o;omega);have HZ:=Hm.o.alloc Hy (.cells #[false,()] 279);have HI:=qI (show (wr.alloc (.cells #[false,()] 279)).cell? wr.heap.size=some (.bool false)/\(wr.alloc (.cells #[false,()] 279)).cell? ⟨wr,1,none⟩=some ()/\(wr.alloc (.cells #[false,()] 279)).frozen? ⟨wr,1,none⟩=false by simp);have H2:=qI H7;have H1:=qI HW;have H4:=qI HZ;have Hw:=qI Hy;clear H7 HW HZ Hf Hn Hm Hy HK H6;rw[<- H8.o]
    go_wp2
    generalize hBw:wr.heap.size=Bw at *
    go_loopw [40] (λi wq=>∃(k:Nat) (v:Value),k<=L.length/\i=.int .i64 k/\Hu (jB wq w free all many)/\Hu (ol wq g L)/\Hu (Below x x wq)/\wq.cell? Bw=some (.bool false)/\wq.cell? ⟨Bw,1,none⟩=some v/\wq.frozen? ⟨Bw,1,none⟩=false/\Hu (wq.ownsRow (Bw+1) 231 2 v (il free all many F L k).length (gJ (il free all many F L k)))/\Bw+1<=wq.heap.size) (λi _=>L.length - (intOf i).toNat)
    exact⟨0,(),by omega,rfl,H2,H1,H4,HI.o.1,HI.o.2.1,HI.o.2.2,Qw _ _ _ _,by simp;omega⟩
    ·obtain⟨k,v,B,rfl,Hf,Hn,Hm,x0,x1,x2,W,Hz⟩:=hrel;clear H2 H1 H4 HI
     by_cases s:k<L.length
     ·have Hk:=Hn.o k s;have Hc:=GP HL s;have I:=qI λh=>WF (free:=free) (all:=all) (many:=many) (few:=F) (l:=L) (k:=k) h;have J:=qI λh=>WG (free:=free) (all:=all) (many:=many) (few:=F) (l:=L) (k:=k) h;have hle:=EW free all many F L k;generalize L.getD k 0=m at *;have c0:=Hf.o.f.c0;have c1:=Hf.o.f.c1;have c2:=Hf.o.f.c2;have c3:=Hf.o.f.c3;have Hh:=qI (yW (q:=free) m (many:=many) (B:=w.heap.size+2) wr Hc hl Hf.o.m);unfold v4 at Hh
      go_wp2
      refine Hh.o.m λw2 b=>?_;have Hi:=qI (Hf.o.below b (by have:=Hf.o.lt;omega));have Hp:=qI (Hn.o.below b (by have:=O.o;have:=Hw.o;omega));have Hq:=qI (Hm.o.trans (b.mono (by have:=Hw.o;omega)));have G:=(b.cell (p:=Bw) Hz).trans x0;have K:=(b.cell (p:=⟨Bw,1,none⟩) Hz).trans x1;have H:=(b.frozen (p:=⟨Bw,1,none⟩) Hz).trans x2;have P:=qI (W.o.kept (row:=none) ⟨b.os,b.tape,b.output,b.size,λj d _=>b.block j d⟩ (by cases hv:v.ownBlock <;> simp));have Hb:=Q5 Hz b.size;clear b Hf Hn Hm Hh c0 c1 c2 c3 Hk x0 x1 x2 W Hz
      rcases two (decide (many<=gI free m)) with b|b
      ·have A:=qI (I.o b);rw[b];clear b I J;obtain⟨ao,cc,rfl⟩:=kW P;have Hh:=qI (yW (q:=all) m (many:=many) (B:=w.heap.size+2));have HJ:=qI (sZ m);have c0:=Hi.o.a.c0;have c1:=Hi.o.a.c1;have c2:=Hi.o.a.c2;have c3:=Hi.o.a.c3;have HS:=qI Hi.o.m;unfold v4 at Hh;obtain⟨i0,hi,HQ,HT,HU⟩:=info_parts EZ;have H9:=pL m;have Ht:Hu (pN all many F m=(decide (many<=gI all m) && decide (cE m=F))):=rfl;generalize pN all many F m=gd at *
       rcases two (decide (many<=gI all m)) with M|M
       ·rw[M] at Hh Ht
        rcases two (decide (cE m=F)) with Hr|Hr
        ·have S:Hu (gd=true):=by unfold Hu;rw[Ht.o,Hr];rfl
         have hq:((cE m:Int) == (F:Int))=true:=by rw[beq_iff_eq];have:=of_decide_eq_true Hr;omega
         clear Ht M Hr;generalize cE m=p8 at *
         go_wp2
         first
          | (go_region_law (first
           | (refine step_append_lies _ rfl _ _ 275 rfl (Bw+1) 231 i0 (.agg #[.int .u8 0,.bool false]) 2 2 underlying275 hi HQ HT HU rfl (by decide) _ _ _ rfl (Ho.o.alloc _) ⟨N.heap.size,0,none⟩ 1 1 [.int .u8 m,.bool true] rfl rfl (by intro j u d;match j,d with|0,d=>(simp at d;subst d;simp[Addr.add])|1,d=>(simp at d;subst d;simp[Addr.add])) (by intro u C;simp at C;rcases C with rfl|rfl <;> rfl) (by decide) (by unfold maxLen;omega) (by omega) (by simp;omega) _ rfl ?_;intro g' D w4 He Ha Hl Hj;have Hg:=Below.grown (Q0 (Bw+1) _) Ha (by simp;omega) λk B=>(Ho.o.lt k B).1;have t0:=(Hg.cell (p:=⟨Bw,0,none⟩) (Nat.lt_succ_self _)).trans r;have E:=(Hg.cell (p:=⟨Bw,1,none⟩) (Nat.lt_succ_self _)).trans n;have t2:=(Hg.frozen (p:=⟨Bw,1,none⟩) (Nat.lt_succ_self _)).trans o)
           | (go_simp;go_at_call 207;refine (Hh.o _ Hc HH ?_).mono ?_;exact HS.o;rintro e N ⟨rfl,b⟩;have y:=(b.cell (p:=⟨Bw,0,none⟩) Hb).trans G;have f:=(b.cell (p:=⟨Bw,1,none⟩) Hb).trans K;have z:=(b.frozen (p:=⟨Bw,1,none⟩) Hb).trans H;have r:=jc y (.cells #[.int .u8 m,.bool true] 231);have n:=jc f (.cells #[.int .u8 m,.bool true] 231);have o:=yX f z (.cells #[.int .u8 m,.bool true] 231);have Ho:=qI (mL P.o.drew b);have Hx:=Q5 Hb b.size)
           | (go_simp;go_at_call 206;refine (HJ.o _ Hc).m λw5 ho=>?_;subst w5)))
          | fail
         all_goals
          have V:=qI (zQ Hi Hp Hq Hw Hv O Hb b Hg t0 E t2 He);clear b Hg t0 E t2 He Ha G K H Hl Hj
          go_wp2
          go_roundw
          case rel=>
           obtain⟨T,Q,U,q4,q5,R,q7,Y⟩:=V.o;exact⟨k+1,_,by omega,by go_num,T,Q,U,q4,q5,R,by rw[A.o,S.o,Q2,vB];exact q7,Y⟩
          case measure=>simp[intOf];omega
        ·have S:Hu (gd=false):=by unfold Hu;rw[Ht.o,Hr];rfl
         have hq:((cE m:Int) == (F:Int))=false:=by rw[Qr];have:=of_decide_eq_false Hr;omega
         clear Ht M Hr;generalize cE m=p8 at *
         go_wp2
         first
          | (go_region_law (first
           | (refine step_append_lies _ rfl _ _ 275 rfl (Bw+1) 231 i0 (.agg #[.int .u8 0,.bool false]) 2 2 underlying275 hi HQ HT HU rfl (by decide) _ _ _ rfl (Ho.o.alloc _) ⟨N.heap.size,0,none⟩ 1 1 [.int .u8 m,.bool false] rfl rfl (by intro j u d;match j,d with|0,d=>(simp at d;subst d;simp[Addr.add])|1,d=>(simp at d;subst d;simp[Addr.add])) (by intro u C;simp at C;rcases C with rfl|rfl <;> rfl) (by decide) (by unfold maxLen;omega) (by omega) (by simp;omega) _ rfl ?_;intro g' D w4 He Ha Hl Hj;have Hg:=Below.grown (Q0 (Bw+1) _) Ha (by simp;omega) λk B=>(Ho.o.lt k B).1;have t0:=(Hg.cell (p:=⟨Bw,0,none⟩) (Nat.lt_succ_self _)).trans r;have E:=(Hg.cell (p:=⟨Bw,1,none⟩) (Nat.lt_succ_self _)).trans n;have t2:=(Hg.frozen (p:=⟨Bw,1,none⟩) (Nat.lt_succ_self _)).trans o)
           | (go_simp;go_at_call 207;refine (Hh.o _ Hc HH ?_).mono ?_;exact HS.o;rintro e N ⟨rfl,b⟩;have y:=(b.cell (p:=⟨Bw,0,none⟩) Hb).trans G;have f:=(b.cell (p:=⟨Bw,1,none⟩) Hb).trans K;have z:=(b.frozen (p:=⟨Bw,1,none⟩) Hb).trans H;have r:=jc y (.cells #[.int .u8 m,.bool false] 231);have n:=jc f (.cells #[.int .u8 m,.bool false] 231);have o:=yX f z (.cells #[.int .u8 m,.bool false] 231);have Ho:=qI (mL P.o.drew b);have Hx:=Q5 Hb b.size)
           | (go_simp;go_at_call 206;refine (HJ.o _ Hc).m λw5 ho=>?_;subst w5)))
          | fail
         all_goals
          have V:=qI (zQ Hi Hp Hq Hw Hv O Hb b Hg t0 E t2 He);clear b Hg t0 E t2 He Ha G K H Hl Hj
          go_wp2
          go_roundw
          case rel=>
           obtain⟨T,Q,U,q4,q5,R,q7,Y⟩:=V.o;exact⟨k+1,_,by omega,by go_num,T,Q,U,q4,q5,R,by rw[A.o,S.o,Q2,vB];exact q7,Y⟩
          case measure=>simp[intOf];omega
       ·have S:Hu (gd=false):=by unfold Hu;rw[Ht.o,M];rfl
        rw[M] at Hh;clear Ht M
        go_wp2
        first
         | (go_region_law (first
          | (refine step_append_lies _ rfl _ _ 275 rfl (Bw+1) 231 i0 (.agg #[.int .u8 0,.bool false]) 2 2 underlying275 hi HQ HT HU rfl (by decide) _ _ _ rfl (Ho.o.alloc _) ⟨N.heap.size,0,none⟩ 1 1 [.int .u8 m,.bool false] rfl rfl (by intro j u d;match j,d with|0,d=>(simp at d;subst d;simp[Addr.add])|1,d=>(simp at d;subst d;simp[Addr.add])) (by intro u C;simp at C;rcases C with rfl|rfl <;> rfl) (by decide) (by unfold maxLen;omega) (by omega) (by simp;omega) _ rfl ?_;intro g' D w4 He Ha Hl Hj;have Hg:=Below.grown (Q0 (Bw+1) _) Ha (by simp;omega) λk B=>(Ho.o.lt k B).1;have t0:=(Hg.cell (p:=⟨Bw,0,none⟩) (Nat.lt_succ_self _)).trans r;have E:=(Hg.cell (p:=⟨Bw,1,none⟩) (Nat.lt_succ_self _)).trans n;have t2:=(Hg.frozen (p:=⟨Bw,1,none⟩) (Nat.lt_succ_self _)).trans o)
          | (go_simp;go_at_call 207;refine (Hh.o _ Hc HH ?_).mono ?_;exact HS.o;rintro e N ⟨rfl,b⟩;have y:=(b.cell (p:=⟨Bw,0,none⟩) Hb).trans G;have f:=(b.cell (p:=⟨Bw,1,none⟩) Hb).trans K;have z:=(b.frozen (p:=⟨Bw,1,none⟩) Hb).trans H;have r:=jc y (.cells #[.int .u8 m,.bool false] 231);have n:=jc f (.cells #[.int .u8 m,.bool false] 231);have o:=yX f z (.cells #[.int .u8 m,.bool false] 231);have Ho:=qI (mL P.o.drew b);have Hx:=Q5 Hb b.size)))
         | fail
        all_goals
         have V:=qI (zQ Hi Hp Hq Hw Hv O Hb b Hg t0 E t2 He);clear b Hg t0 E t2 He Ha G K H Hl Hj
         go_wp2
         go_roundw
         case rel=>
          obtain⟨T,Q,U,q4,q5,R,q7,Y⟩:=V.o;exact⟨k+1,_,by omega,by go_num,T,Q,U,q4,q5,R,by rw[A.o,S.o,Q2,vB];exact q7,Y⟩
         case measure=>simp[intOf];omega
      ·have A:=qI (J.o b);rw[b];clear b I J
       go_wp2
       go_roundw
       exact⟨k+1,v,by omega,by go_num,Hi,Hp,Hq,G,K,H,by rw[A.o];exact P,Hb⟩
       simp[intOf];omega
     ·have HP:k=L.length:=by omega
      subst HP;clear B s;have r0:wr.cell? ⟨w.heap.size+1+1+1,0,none⟩=some (.bool false):=Hf.o.r0;have r1:wr.cell? ⟨w.heap.size+1+1+1,1,none⟩=some ():=Hf.o.r1;have z0:wr.frozen? ⟨w.heap.size+1+1+1,0,none⟩=false:=Hf.o.z0;have z1:wr.frozen? ⟨w.heap.size+1+1+1,1,none⟩=false:=Hf.o.z1;have hp:=Hf.o.lt;have H0:w.heap.size+1+1+1<Bw+1:=by have:=Hw.o;omega
      have hh:=qI (H3.o.trans (Hm.o.mono (by omega)));obtain⟨ao,cc,rfl⟩:=kW W
      go_wp2
      (try simp only[Exit.inBlock,Exit.then]);refine bodyPost_ret (v:=.agg #[false,.slice ao (il free all many F L L.length).length cc]) ?_ rfl ⟨_,rfl,cL.of_row (ownsRow_setCell_below (a:=⟨w.heap.size+1+1+1,1,none⟩) (ownsRow_setCell_below (a:=⟨w.heap.size+1+1+1,0,none⟩) W H0 _) H0 _),E5 W (by omega),?_⟩
      ·rw[vm rfl];go_simp
      ·exact ((hh.o.setCell (by show w.heap.size<=w.heap.size+1+1+1;omega) _).setCell (by show w.heap.size<=w.heap.size+1+1+1;omega) _)
