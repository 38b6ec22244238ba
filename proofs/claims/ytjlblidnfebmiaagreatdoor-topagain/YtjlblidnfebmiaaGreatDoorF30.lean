import Derived.Test.YtjlblidnfebmiaaGreatDoorF5
set_option maxRecDepth 100000
set_option maxHeartbeats 16000000
open Go Go.RowKit
open Go.Proofs.Tryz
namespace Go.Proofs.YtjlblidnfebmiaaGreatDoor
variable{L l:List Nat}{all free q:bZ}{few k:Nat}{many:Int}
theorem Ub(h:decide (many<=fM q (l.getD k 0))=true):it q many l (k+1)=min (it q many l k) (b6 (l.getD k 0)):=by rw[it,if_pos h]
theorem Uc(h:decide (many<=fM q (l.getD k 0))=false):it q many l (k+1)=it q many l k:=by rw[it,if_neg (by rw[h];simp)]
theorem Ud(h:decide (many<=fM free (l.getD k 0))=true):fx free all many few l (k+1)=fx free all many few l k++[(l.getD k 0,nA all many few (l.getD k 0))]:=by rw[fx,if_pos h]
theorem Ue(h:decide (many<=fM free (l.getD k 0))=false):fx free all many few l (k+1)=fx free all many few l k:=by rw[fx,if_neg (by rw[h];simp)]
theorem EK{nodes:Nat}(b:L=cZ nodes 16)(a:k<L.length):L.getD k 0<256:=by
 have:L.getD k 0∈cZ nodes 16:=by rw[<- b];simp[a]
 have:=(zc this).1
 omega
theorem yi{j h q d:World}{N c g e a n m:Nat}{x:List Value}{b:Bool}{o:Obj}{v0:Value}(t:iS h N free all many)(s:me h g L)(u:Below j j h)(v:j<=c)(y:N+4<=j)(A:g<j)(f:c+1<=h)
  (l:Below h.drew h.drew q) (w:Below (c+1) (q.alloc o) d) (t0:d.cell? c=some (.bool false)) (z:d.cell? ⟨c,1,none⟩=some v0) (t2:d.frozen? ⟨c,1,none⟩=false)
  (k:d.ownsRow (c+1) 231 2 (.slice e (n+1) a) (n+1) (x++[.int .u8 m,.bool b])) :
  iS (d.setCell ⟨c,1,none⟩ (.slice e (n+1) a)) N free all many/\me (d.setCell ⟨c,1,none⟩ (.slice e (n+1) a)) g L/\Below j j (d.setCell ⟨c,1,none⟩ (.slice e (n+1) a))/\(d.setCell ⟨c,1,none⟩ (.slice e (n+1) a)).cell? c=some (.bool false)/\(d.setCell ⟨c,1,none⟩ (.slice e (n+1) a)).cell? ⟨c,1,none⟩=some (.slice e (n+1) a)/\(d.setCell ⟨c,1,none⟩ (.slice e (n+1) a)).frozen? ⟨c,1,none⟩=false/\(d.setCell ⟨c,1,none⟩ (.slice e (n+1) a)).ownsRow (c+1) 231 2 (.slice e (n+1) a) (n+1) (x++[.int .u8 m,.bool b])/\c+1<=(d.setCell ⟨c,1,none⟩ (.slice e (n+1) a)).heap.size:=by
 have p:Below (c+1) h q:=Below.mono ⟨l.os,l.tape,l.output,l.size,l.block⟩ f;have Ha:c+1<=q:=Q5 f l.size;have r:Below (c+1) h d:=(p.alloc Ha o).trans w;have i:Below c h (d.setCell ⟨c,1,none⟩ (.slice e (n+1) a)):=(r.mono (Nat.le_succ _)).setCell (lR) _;refine⟨t.below i (by omega),s.below i (by omega),u.trans (i.mono v),?_,?_,?_,ownsRow_setCell_below k (Nat.lt_succ_self _) _,Q5 f i.size⟩
 ·clear i r p;go_simp
 ·clear i r p;go_simp
 ·clear i r p;go_simp
theorem Uf(free all:bZ)(nodes:Nat)(many:Int)(w:World)(ht:0<many)(hn:nodes<256)(hf:kw free)(ha:kw all) :
  Calls prog 166 #[v4 free,v4 all,.int .u8 nodes,(many:Int)] w λe w'=>IA w (l9 free all nodes many) e w':=by
 have V:=qI (iS.made w free all many);have HB:=qI (zx w free all many);have hc:=V.o.m;have H9:=qI hf;have HJ:=qI ha;have hs:∀(fn:Fn) (first cap:Array Value) (w:World),(Instr.makeFunc fn first cap).run prog w=.ok (.func fn first cap) w:=λ_ _ _ _=>rfl
 unfold l9 few_Ost;obtain⟨L,hL⟩:∃L,L=cZ nodes 16:=⟨_,rfl⟩;rw[<- hL];obtain⟨F,hF⟩:∃F,F=it all many L L.length:=⟨_,rfl⟩;rw[<- hF];have hp:=qI hF;have hq:F<=4:=by rw[hF];exact ze all many L L.length
 clear hF;have HL:=qI hL;have hr:L.length<=16:=by rw[hL];exact uX nodes 16
 clear hf ha hL;unfold sG v4 at *
 go_enter func166,ntmps166
 go_wp2_with fail
 refine (Iy nodes _ hn).mono ?_;rintro e x ⟨v,rfl,hM,HI⟩;have H7:=qI (HB.o.trans (HI.mono HB.o.size));have HH:=qI (V.o.below HI V.o.lt);have HM:=qI hM;have Ht:w.heap.size+4<=x.heap.size:=Q5 V.o.lt HI.size;clear hM HI V HB hc;rw[<- HL.o] at HM
 rcases HM.o with⟨rfl,ao,c,rfl⟩|⟨g,c,rfl,hg,H0⟩
 ·-- no masks at all
  clear HM;have HP:=H7.o.alloc (by omega) (.cells #[false,.slice none 0 0] 279);have Hz:=HH.o.below ((Q0 x x).alloc (lR) (.cells #[false,.slice none 0 0] 279)) HH.o.lt;have r0:(x.alloc (.cells #[false,.slice none 0 0] 279)).cell? ⟨w.heap.size+1+1+1,0,none⟩=some (.bool false):=Hz.r0;have r1:(x.alloc (.cells #[false,.slice none 0 0] 279)).cell? ⟨w.heap.size+1+1+1,1,none⟩=some (.slice none 0 0):=Hz.r1;have z0:(x.alloc (.cells #[false,.slice none 0 0] 279)).frozen? ⟨w.heap.size+1+1+1,0,none⟩=false:=Hz.z0;have z1:(x.alloc (.cells #[false,.slice none 0 0] 279)).frozen? ⟨w.heap.size+1+1+1,1,none⟩=false:=Hz.z1;have HP:=qI HP;clear Hz
  go_wp2
  go_loopw [11,25] (λt i wr=>i=.int .i64 0/\wr=x) (λ_ _ _=>0)
  case atStart=>exact⟨rfl,rfl⟩
  case round=>
   obtain⟨rfl,rfl⟩:=hrel
   go_wp2
   go_loopw [40] (λi C=>i=.int .i64 0/\C=wr.alloc (.cells #[false,.slice none 0 0] 279)) (λ_ _=>0)
   case atStart=>exact⟨rfl,rfl⟩
   case round=>
    obtain⟨rfl,rfl⟩:=hrel
    go_wp2_with fail
    (try simp only[Exit.inBlock,Exit.then]);refine bodyPost_ret (v:=.agg #[false,.slice none 0 0]) ?_ rfl ⟨_,rfl,.inl ⟨rfl,none,0,rfl⟩,(λ_ _ _ _ h=>by cases h),?_⟩
    ·rw[sB rfl];go_simp
    ·exact ((HP.o.setCell (by show w.heap.size<=w.heap.size+1+1+1;omega) _).setCell (by show w.heap.size<=w.heap.size+1+1+1;omega) _)
 ·have H5:Hu (me x g L):=H0;have P:=qI hg;clear H0 hg HM
  go_wp2
  go_loopw [11,25] (λt i wr=>∃k:Nat,k<=L.length/\i=.int .i64 k/\t=.int .i64 (it all many L k:Nat)/\Hu (iS wr w free all many)/\Hu (me wr g L)/\Hu (Below x x wr)) (λ_ i _=>L.length - (intOf i).toNat)
  case atStart=>exact⟨0,by omega,rfl,rfl,HH.o,H5.o,Q0 _ _⟩
  case round=>
   obtain⟨k,D,rfl,rfl,Hf,Hn,Hm⟩:=hrel
   by_cases y:k<L.length
   ·have Hj:=Hn.o k y;have Hc:=EK HL.o y;have I:=qI λh=>Ub (q:=all) (many:=many) (l:=L) (k:=k) h;have J:=qI λh=>Uc (q:=all) (many:=many) (l:=L) (k:=k) h;have hle:=ze all many L k;generalize L.getD k 0=m at *;have c0:=Hf.o.a.c0;have c1:=Hf.o.a.c1;have c2:=Hf.o.a.c2;have c3:=Hf.o.a.c3;have Hh:=qI (vl all m many (w.heap.size+2) wr Hc HJ.o Hf.o.m);unfold v4 at Hh;have HF:=qI (qm m);have hl:=ny m
    go_wp2_with fail
    refine Hh.o.mono ?_;rintro e w2 ⟨rfl,b⟩;have R:x.heap.size<=wr.heap.size:=Hm.o.size;have Hi:=qI (Hf.o.below b (by have:=Hf.o.lt;omega));have Hp:=qI (Hn.o.below b (by have:=P.o;omega));have Ho:=qI (Hm.o.trans (b.mono R));clear b Hf Hn Hm Hh c0 c1 c2 c3 Hj
    rcases two (decide (many<=fM all m)) with b|b
    ·have B:=qI (I.o b);rw[b];clear b I J
     go_wp2_with fail
     refine (HF.o _ Hc).mono ?_;rintro e Q ⟨rfl,rfl⟩;generalize b6 m=p at *;generalize it all many L k=f0 at *
     by_cases Hr:f0<=p
     ·have Hs:Hu (min f0 p=f0):=by unfold Hu;omega
      go_wp2
      go_roundw
      case rel=>exact⟨k+1,by omega,by go_num,by (rw[B.o,Hs.o];first|done|exact congrArg (Value.int .i64) (by omega)),Hi,Hp,Ho⟩
      case measure=>simp[intOf];omega
     ·have Hs:Hu (min f0 p=p):=by unfold Hu;omega
      go_wp2
      go_roundw
      case rel=>exact⟨k+1,by omega,by go_num,by (rw[B.o,Hs.o];first|done|exact congrArg (Value.int .i64) (by omega)),Hi,Hp,Ho⟩
      case measure=>simp[intOf];omega
    ·have B:=qI (J.o b);rw[b];clear b I J
     go_wp2
     go_roundw
     case rel=>exact⟨k+1,by omega,by go_num,by rw[B.o],Hi,Hp,Ho⟩
     case measure=>simp[intOf];omega
   ·have HQ:k=L.length:=by omega
    subst HQ;clear D y;have H1:=Hf.o.below ((Q0 wr wr).alloc (lR) (.cells #[false,.slice none 0 0] 279)) Hf.o.lt;have R:x.heap.size<=wr.heap.size:=Hm.o.size;have H2:=Hn.o.below ((Q0 wr wr).alloc (lR) (.cells #[false,.slice none 0 0] 279)) (by have:=P.o;omega);have H3:=Hm.o.alloc R (.cells #[false,.slice none 0 0] 279);have HK:=qI (show (wr.alloc (.cells #[false,.slice none 0 0] 279)).cell? wr.heap.size=some (.bool false)/\(wr.alloc (.cells #[false,.slice none 0 0] 279)).cell? ⟨wr,1,none⟩=some (.slice none 0 0)/\(wr.alloc (.cells #[false,.slice none 0 0] 279)).frozen? ⟨wr,1,none⟩=false by simp);have HW:=qI H1;have HZ:=qI H2;have H6:=qI H3;have Hw:=qI R;clear H1 H2 H3 Hf Hn Hm R HH H5;rw[<- hp.o]
    go_wp2_with fail
    generalize hBw:wr.heap.size=d at *
    go_loopw [40] (λi C=>∃(k:Nat) (v:Value),k<=L.length/\i=.int .i64 k/\Hu (iS C w free all many)/\Hu (me C g L)/\Hu (Below x x C)/\C.cell? d=some (.bool false)/\C.cell? ⟨d,1,none⟩=some v/\C.frozen? ⟨d,1,none⟩=false/\Hu (C.ownsRow (d+1) 231 2 v (fx free all many F L k).length (fy (fx free all many F L k)))/\d+1<=C.heap.size) (λi _=>L.length - (intOf i).toNat)
    case atStart=>exact⟨0,.slice none 0 0,by omega,rfl,HW.o,HZ.o,H6.o,HK.o.1,HK.o.2.1,HK.o.2.2,Qw _ _ _ _,by simp;omega⟩
    case round=>
     obtain⟨k,v,D,rfl,Hf,Hn,Hm,x0,x1,x2,Z,Hy⟩:=hrel;clear HW HZ H6 HK
     by_cases y:k<L.length
     ·have Hj:=Hn.o k y;have Hc:=EK HL.o y;have I:=qI λh=>Ud (free:=free) (all:=all) (many:=many) (few:=F) (l:=L) (k:=k) h;have J:=qI λh=>Ue (free:=free) (all:=all) (many:=many) (few:=F) (l:=L) (k:=k) h;have hle:=zf free all many F L k;generalize L.getD k 0=m at *;have c0:=Hf.o.f.c0;have c1:=Hf.o.f.c1;have c2:=Hf.o.f.c2;have c3:=Hf.o.f.c3;have Hh:=qI (vl free m many (w.heap.size+2) wr Hc H9.o Hf.o.m);unfold v4 at Hh
      go_wp2_with fail
      refine Hh.o.mono ?_;rintro e w2 ⟨rfl,b⟩;have Hi:=qI (Hf.o.below b (by have:=Hf.o.lt;omega));have Hp:=qI (Hn.o.below b (by have:=P.o;have:=Hw.o;omega));have Ho:=qI (Hm.o.trans (b.mono (by have:=Hw.o;omega)));have M:=(b.cell (p:=d) Hy).trans x0;have K:=(b.cell (p:=⟨d,1,none⟩) Hy).trans x1;have N:=(b.frozen (p:=⟨d,1,none⟩) Hy).trans x2;have Hx:Hu (w2.ownsRow (d+1) 231 2 v (fx free all many F L k).length (fy (fx free all many F L k))):=Z.o.kept (row:=none) ⟨b.os,b.tape,b.output,b.size,λj f _=>b.block j f⟩ (by cases hv:v.ownBlock <;> simp);have Hb:=Q5 Hy b.size;clear b Hf Hn Hm Hh c0 c1 c2 c3 Hj x0 x1 x2 Z Hy
      rcases two (decide (many<=fM free m)) with b|b
      ·have B:=qI (I.o b);rw[b];clear b I J;obtain⟨ao,cc,rfl⟩:=jQ Hx.o;have Hh:=qI (vl all m many (w.heap.size+2));have HF:=qI (qm m);have c0:=Hi.o.a.c0;have c1:=Hi.o.a.c1;have c2:=Hi.o.a.c2;have c3:=Hi.o.a.c3;have HS:=qI Hi.o.m;unfold v4 at Hh;obtain⟨i0,hi,HT,HV,HU⟩:=info_parts zw;have hl:=ny m;have Hv:Hu (nA all many F m=(decide (many<=fM all m) && decide (b6 m=F))):=rfl;generalize nA all many F m=gd at *
       rcases two (decide (many<=fM all m)) with O|O
       ·rw[O] at Hh Hv
        rcases two (decide (b6 m=F)) with Hr|Hr
        ·have Y:Hu (gd=true):=by unfold Hu;rw[Hv.o,Hr];rfl
         have hh:((b6 m:Int) == (F:Int))=true:=by rw[beq_iff_eq];have:=of_decide_eq_true Hr;omega
         clear Hv O Hr;generalize b6 m=p8 at *
         go_wp2_with fail
         first
          | (go_region_law (first
           | (refine step_append_lies _ rfl _ _ 275 rfl (d+1) 231 i0 (.agg #[.int .u8 0,.bool false]) 2 2 underlying275 hi HT HV HU rfl (by decide) _ _ _ rfl (Hq.o.alloc _) ⟨Q.heap.size,0,none⟩ 1 1 [.int .u8 m,.bool true] rfl rfl (by intro j u f;match j,f with|0,f=>(simp at f;subst f;simp[Addr.add])|1,f=>(simp at f;subst f;simp[Addr.add])) (by intro u E;simp at E;rcases E with rfl|rfl <;> rfl) (by decide) (by unfold maxLen;omega) (by omega) (by simp;omega) _ rfl ?_;intro g' G w4 He Ha Hk Hl;have Hg:=Below.grown (Q0 (d+1) _) Ha (by simp;omega) λk D=>(Hq.o.lt k D).1;have t0:=(Hg.cell (p:=⟨d,0,none⟩) (Nat.lt_succ_self _)).trans n;have H:=(Hg.cell (p:=⟨d,1,none⟩) (Nat.lt_succ_self _)).trans o;have t2:=(Hg.frozen (p:=⟨d,1,none⟩) (Nat.lt_succ_self _)).trans r)
           | (go_simp;go_at_call 207;refine (Hh.o _ Hc HJ.o ?_).mono ?_;exact HS.o;rintro e Q ⟨rfl,b⟩;have z:=(b.cell (p:=⟨d,0,none⟩) Hb).trans M;have s:=(b.cell (p:=⟨d,1,none⟩) Hb).trans K;have A:=(b.frozen (p:=⟨d,1,none⟩) Hb).trans N;have n:=iv z (.cells #[.int .u8 m,.bool true] 231);have o:=iv s (.cells #[.int .u8 m,.bool true] 231);have r:=vm s A (.cells #[.int .u8 m,.bool true] 231);have Hq:=qI (qo Hx.o.drew b);have HC:=Q5 Hb b.size)
           | (go_simp;go_at_call 206;refine (HF.o _ Hc).mono ?_;rintro e w5 ⟨rfl,H8⟩;subst w5)))
          | fail
         all_goals
          have W:=qI (yi Hi.o Hp.o Ho.o Hw.o Ht P.o Hb b Hg t0 H t2 He);clear b Hg t0 H t2 He Ha M K N Hk Hl
          go_wp2
          go_roundw
          case rel=>
           obtain⟨U,q2,q3,q4,X,S,q7,T⟩:=W.o;exact⟨k+1,_,by omega,by go_num,U,q2,q3,q4,X,S,by rw[B.o,Y.o,Q2,sF];exact q7,T⟩
          case measure=>simp[intOf];omega
        ·have Y:Hu (gd=false):=by unfold Hu;rw[Hv.o,Hr];rfl
         have hh:((b6 m:Int) == (F:Int))=false:=by rw[Qr];have:=of_decide_eq_false Hr;omega
         clear Hv O Hr;generalize b6 m=p8 at *
         go_wp2_with fail
         first
          | (go_region_law (first
           | (refine step_append_lies _ rfl _ _ 275 rfl (d+1) 231 i0 (.agg #[.int .u8 0,.bool false]) 2 2 underlying275 hi HT HV HU rfl (by decide) _ _ _ rfl (Hq.o.alloc _) ⟨Q.heap.size,0,none⟩ 1 1 [.int .u8 m,.bool false] rfl rfl (by intro j u f;match j,f with|0,f=>(simp at f;subst f;simp[Addr.add])|1,f=>(simp at f;subst f;simp[Addr.add])) (by intro u E;simp at E;rcases E with rfl|rfl <;> rfl) (by decide) (by unfold maxLen;omega) (by omega) (by simp;omega) _ rfl ?_;intro g' G w4 He Ha Hk Hl;have Hg:=Below.grown (Q0 (d+1) _) Ha (by simp;omega) λk D=>(Hq.o.lt k D).1;have t0:=(Hg.cell (p:=⟨d,0,none⟩) (Nat.lt_succ_self _)).trans n;have H:=(Hg.cell (p:=⟨d,1,none⟩) (Nat.lt_succ_self _)).trans o;have t2:=(Hg.frozen (p:=⟨d,1,none⟩) (Nat.lt_succ_self _)).trans r)
           | (go_simp;go_at_call 207;refine (Hh.o _ Hc HJ.o ?_).mono ?_;exact HS.o;rintro e Q ⟨rfl,b⟩;have z:=(b.cell (p:=⟨d,0,none⟩) Hb).trans M;have s:=(b.cell (p:=⟨d,1,none⟩) Hb).trans K;have A:=(b.frozen (p:=⟨d,1,none⟩) Hb).trans N;have n:=iv z (.cells #[.int .u8 m,.bool false] 231);have o:=iv s (.cells #[.int .u8 m,.bool false] 231);have r:=vm s A (.cells #[.int .u8 m,.bool false] 231);have Hq:=qI (qo Hx.o.drew b);have HC:=Q5 Hb b.size)
           | (go_simp;go_at_call 206;refine (HF.o _ Hc).mono ?_;rintro e w5 ⟨rfl,H8⟩;subst w5)))
          | fail
         all_goals
          have W:=qI (yi Hi.o Hp.o Ho.o Hw.o Ht P.o Hb b Hg t0 H t2 He);clear b Hg t0 H t2 He Ha M K N Hk Hl
          go_wp2
          go_roundw
          case rel=>
           obtain⟨U,q2,q3,q4,X,S,q7,T⟩:=W.o;exact⟨k+1,_,by omega,by go_num,U,q2,q3,q4,X,S,by rw[B.o,Y.o,Q2,sF];exact q7,T⟩
          case measure=>simp[intOf];omega
       ·have Y:Hu (gd=false):=by unfold Hu;rw[Hv.o,O];rfl
        rw[O] at Hh;clear Hv O
        go_wp2_with fail
        first
         | (go_region_law (first
          | (refine step_append_lies _ rfl _ _ 275 rfl (d+1) 231 i0 (.agg #[.int .u8 0,.bool false]) 2 2 underlying275 hi HT HV HU rfl (by decide) _ _ _ rfl (Hq.o.alloc _) ⟨Q.heap.size,0,none⟩ 1 1 [.int .u8 m,.bool false] rfl rfl (by intro j u f;match j,f with|0,f=>(simp at f;subst f;simp[Addr.add])|1,f=>(simp at f;subst f;simp[Addr.add])) (by intro u E;simp at E;rcases E with rfl|rfl <;> rfl) (by decide) (by unfold maxLen;omega) (by omega) (by simp;omega) _ rfl ?_;intro g' G w4 He Ha Hk Hl;have Hg:=Below.grown (Q0 (d+1) _) Ha (by simp;omega) λk D=>(Hq.o.lt k D).1;have t0:=(Hg.cell (p:=⟨d,0,none⟩) (Nat.lt_succ_self _)).trans n;have H:=(Hg.cell (p:=⟨d,1,none⟩) (Nat.lt_succ_self _)).trans o;have t2:=(Hg.frozen (p:=⟨d,1,none⟩) (Nat.lt_succ_self _)).trans r)
          | (go_simp;go_at_call 207;refine (Hh.o _ Hc HJ.o ?_).mono ?_;exact HS.o;rintro e Q ⟨rfl,b⟩;have z:=(b.cell (p:=⟨d,0,none⟩) Hb).trans M;have s:=(b.cell (p:=⟨d,1,none⟩) Hb).trans K;have A:=(b.frozen (p:=⟨d,1,none⟩) Hb).trans N;have n:=iv z (.cells #[.int .u8 m,.bool false] 231);have o:=iv s (.cells #[.int .u8 m,.bool false] 231);have r:=vm s A (.cells #[.int .u8 m,.bool false] 231);have Hq:=qI (qo Hx.o.drew b);have HC:=Q5 Hb b.size)))
         | fail
        all_goals
         have W:=qI (yi Hi.o Hp.o Ho.o Hw.o Ht P.o Hb b Hg t0 H t2 He);clear b Hg t0 H t2 He Ha M K N Hk Hl
         go_wp2
         go_roundw
         case rel=>
          obtain⟨U,q2,q3,q4,X,S,q7,T⟩:=W.o;exact⟨k+1,_,by omega,by go_num,U,q2,q3,q4,X,S,by rw[B.o,Y.o,Q2,sF];exact q7,T⟩
         case measure=>simp[intOf];omega
      ·have B:=qI (J.o b);rw[b];clear b I J
       go_wp2
       go_roundw
       case rel=>exact⟨k+1,v,by omega,by go_num,Hi,Hp,Ho,M,K,N,by rw[B.o];exact Hx,Hb⟩
       case measure=>simp[intOf];omega
     ·have HQ:k=L.length:=by omega
      subst HQ;clear D y;have r0:wr.cell? ⟨w.heap.size+1+1+1,0,none⟩=some (.bool false):=Hf.o.r0;have r1:wr.cell? ⟨w.heap.size+1+1+1,1,none⟩=some (.slice none 0 0):=Hf.o.r1;have z0:wr.frozen? ⟨w.heap.size+1+1+1,0,none⟩=false:=Hf.o.z0;have z1:wr.frozen? ⟨w.heap.size+1+1+1,1,none⟩=false:=Hf.o.z1;have ho:=Hf.o.lt;have H4:w.heap.size+1+1+1<d+1:=by have:=Hw.o;omega
      have hm:=qI (H7.o.trans (Hm.o.mono (by omega)));obtain⟨ao,cc,rfl⟩:=jQ Z.o
      go_wp2_with fail
      (try simp only[Exit.inBlock,Exit.then]);refine bodyPost_ret (v:=.agg #[false,.slice ao (fx free all many F L L.length).length cc]) ?_ rfl ⟨_,rfl,ci.of_row (ownsRow_setCell_below (a:=⟨w.heap.size+1+1+1,1,none⟩) (ownsRow_setCell_below (a:=⟨w.heap.size+1+1+1,0,none⟩) Z.o H4 _) H4 _),zy Z.o (by omega),?_⟩
      ·rw[sB rfl];go_simp
      ·exact ((hm.o.setCell (by show w.heap.size<=w.heap.size+1+1+1;omega) _).setCell (by show w.heap.size<=w.heap.size+1+1+1;omega) _)
