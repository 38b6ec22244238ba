import Derived.Test.YtjlblidnfebmiaaGreatDoorE5
set_option maxRecDepth 100000
set_option maxHeartbeats 16000000
open Go Go.RowKit
open Go.Proofs.Tryz
namespace Go.Proofs.YtjlblidnfebmiaaGreatDoor
variable {L l:List Nat} {all free q:bX} {few k:Nat} {many:Int}
theorem Sw (h:decide (many<=fD q (l.getD k 0))=true):gY q many l (k+1)=min (gY q many l k) (bY (l.getD k 0)):=by rw [gY,if_pos h]
theorem Sx (h:decide (many<=fD q (l.getD k 0))=false):gY q many l (k+1)=gY q many l k:=by rw [gY,if_neg (by rw [h];simp)]
theorem Sy (h:decide (many<=fD free (l.getD k 0))=true):fq free all many few l (k+1)=fq free all many few l k++[(l.getD k 0,nh all many few (l.getD k 0))]:=by rw [fq,if_pos h]
theorem Sz (h:decide (many<=fD free (l.getD k 0))=false):fq free all many few l (k+1)=fq free all many few l k:=by rw [fq,if_neg (by rw [h];simp)]
theorem Ej {nodes:Nat} (b:L=cV nodes 16) (a:k<L.length):L.getD k 0<256:=by
 have:L.getD k 0∈cV nodes 16:=by rw [<- b];simp [a]
 have:=(yI this).1
 omega
theorem xJ {k h r d:World} {N c g e a n m:Nat} {x:List Value} {b:Bool} {o:Obj} {v0:Value} (s:iD h N free all many) (w:lY h g L) (t:Below k k h) (v:k<=c) (A:N+4<=k) (y:g<k) (f:c+1<=h)
  (l:Below h.drew h.drew r) (u:Below (c+1) (r.alloc o) d) (t0:d.cell? c=some (.bool false)) (z:d.cell? ⟨c,1,none⟩=some v0) (t2:d.frozen? ⟨c,1,none⟩=false)
  (i:d.ownsRow (c+1) 231 2 (.slice e (n+1) a) (n+1) (x++[.int .u8 m,.bool b])) :
  iD (d.setCell ⟨c,1,none⟩ (.slice e (n+1) a)) N free all many/\lY (d.setCell ⟨c,1,none⟩ (.slice e (n+1) a)) g L/\Below k k (d.setCell ⟨c,1,none⟩ (.slice e (n+1) a))/\(d.setCell ⟨c,1,none⟩ (.slice e (n+1) a)).cell? c=some (.bool false)/\(d.setCell ⟨c,1,none⟩ (.slice e (n+1) a)).cell? ⟨c,1,none⟩=some (.slice e (n+1) a)/\(d.setCell ⟨c,1,none⟩ (.slice e (n+1) a)).frozen? ⟨c,1,none⟩=false/\(d.setCell ⟨c,1,none⟩ (.slice e (n+1) a)).ownsRow (c+1) 231 2 (.slice e (n+1) a) (n+1) (x++[.int .u8 m,.bool b])/\c+1<=(d.setCell ⟨c,1,none⟩ (.slice e (n+1) a)).heap.size:=by
 have q:Below (c+1) h r:=Below.mono ⟨l.os,l.tape,l.output,l.size,l.block⟩ f;have Ha:c+1<=r:=Q5 f l.size;have p:Below (c+1) h d:=(q.alloc Ha o).trans u;have j:Below c h (d.setCell ⟨c,1,none⟩ (.slice e (n+1) a)):=(p.mono (Nat.le_succ _)).setCell (lR) _;refine ⟨s.below j (by omega),w.below j (by omega),t.trans (j.mono v),?_,?_,?_,ownsRow_setCell_below i (Nat.lt_succ_self _) _,Q5 f j.size⟩
 ·clear j p q;go_simp
 ·clear j p q;go_simp
 ·clear j p q;go_simp
theorem SA (free all:bX) (nodes:Nat) (many:Int) (w:World) (hx:0<many) (hn:nodes<256) (hf:kc free) (ha:kc all) :
  Calls prog 166 #[v4 free,v4 all,.int .u8 nodes,(many:Int)] w λe w'=>Hw w (lV free all nodes many) e w':=by
 have R:=qI (iD.made w free all many);have HB:=qI (y9 w free all many);have hc:=R.o.m;have hp:=qI hf;have HI:=qI ha;have hw:∀ (fn:Fn) (first cap:Array Value) (w:World),(Instr.makeFunc fn first cap).run prog w=.ok (.func fn first cap) w:=λ_ _ _ _=>rfl
 unfold lV few_Ost;obtain ⟨L,hL⟩:∃ L,L=cV nodes 16:=⟨_,rfl⟩;rw [<- hL];obtain ⟨F,hF⟩:∃ F,F=gY all many L L.length:=⟨_,rfl⟩;rw [<- hF];have hh:=qI hF;have hm:F<=4:=by rw [hF];exact yJ all many L L.length
 clear hF;have HL:=qI hL;have ht:L.length<=16:=by rw [hL];exact uC nodes 16
 clear hf ha hL;unfold rT v4 at *
 go_enter func166,ntmps166
 go_wp2_with fail
 refine (Ht nodes _ hn).mono ?_;rintro e x ⟨v,rfl,hM,HK⟩;have H2:=qI (HB.o.trans (HK.mono HB.o.size));have HQ:=qI (R.o.below HK R.o.lt);have HM:=qI hM;have Hs:w.heap.size+4<=x.heap.size:=Q5 R.o.lt HK.size;clear hM HK R HB hc;rw [<- HL.o] at HM
 rcases HM.o with ⟨rfl,ao,c,rfl⟩|⟨g,c,rfl,hg,H0⟩
 ·-- no masks at all
  clear HM;have HT:=H2.o.alloc (by omega) (.cells #[false,.slice none 0 0] 279);have S:=HQ.o.below ((Q0 x x).alloc (lR) (.cells #[false,.slice none 0 0] 279)) HQ.o.lt;have r0:(x.alloc (.cells #[false,.slice none 0 0] 279)).cell? ⟨w.heap.size+1+1+1,0,none⟩=some (.bool false):=S.r0;have r1:(x.alloc (.cells #[false,.slice none 0 0] 279)).cell? ⟨w.heap.size+1+1+1,1,none⟩=some (.slice none 0 0):=S.r1;have z0:(x.alloc (.cells #[false,.slice none 0 0] 279)).frozen? ⟨w.heap.size+1+1+1,0,none⟩=false:=S.z0;have z1:(x.alloc (.cells #[false,.slice none 0 0] 279)).frozen? ⟨w.heap.size+1+1+1,1,none⟩=false:=S.z1;have HT:=qI HT;clear S
  go_wp2
  go_loopw [11,25] (λt i wr=>i=.int .i64 0/\wr=x) (λ_ _ _=>0)
  case atStart=>exact ⟨rfl,rfl⟩
  case round=>
   obtain ⟨rfl,rfl⟩:=hrel
   go_wp2
   go_loopw [40] (λi C=>i=.int .i64 0/\C=wr.alloc (.cells #[false,.slice none 0 0] 279)) (λ_ _=>0)
   case atStart=>exact ⟨rfl,rfl⟩
   case round=>
    obtain ⟨rfl,rfl⟩:=hrel
    go_wp2_with fail
    (try simp only [Exit.inBlock,Exit.then]);refine bodyPost_ret (v:=.agg #[false,.slice none 0 0]) ?_ rfl ⟨_,rfl,.inl ⟨rfl,none,0,rfl⟩,(λ_ _ _ _ h=>by cases h),?_⟩
    ·rw [rO rfl];go_simp
    ·exact ((HT.o.setCell (by show w.heap.size<=w.heap.size+1+1+1;omega) _).setCell (by show w.heap.size<=w.heap.size+1+1+1;omega) _)
 ·have H4:Hu (lY x g L):=H0;have Q:=qI hg;clear H0 hg HM
  go_wp2
  go_loopw [11,25] (λt i wr=>∃ k:Nat,k<=L.length/\i=.int .i64 k/\t=.int .i64 (gY all many L k:Nat)/\Hu (iD wr w free all many)/\Hu (lY wr g L)/\Hu (Below x x wr)) (λ_ i _=>L.length - (intOf i).toNat)
  case atStart=>exact ⟨0,by omega,rfl,rfl,HQ.o,H4.o,Q0 _ _⟩
  case round=>
   obtain ⟨k,D,rfl,rfl,Hf,Hn,Hm⟩:=hrel
   by_cases y:k<L.length
   ·have Hl:=Hn.o k y;have Hc:=Ej HL.o y;have K:=qI λh=>Sw (q:=all) (many:=many) (l:=L) (k:=k) h;have M:=qI λh=>Sx (q:=all) (many:=many) (l:=L) (k:=k) h;have hle:=yJ all many L k;generalize L.getD k 0=m at *;have c0:=Hf.o.a.c0;have c1:=Hf.o.a.c1;have c2:=Hf.o.a.c2;have c3:=Hf.o.a.c3;have Hh:=qI (uK all m many (w.heap.size+2) wr Hc HI.o Hf.o.m);unfold v4 at Hh;have HJ:=qI (pW m);have hq:=m8 m
    go_wp2_with fail
    refine Hh.o.mono ?_;rintro e w2 ⟨rfl,b⟩;have Y:x.heap.size<=wr.heap.size:=Hm.o.size;have Hi:=qI (Hf.o.below b (by have:=Hf.o.lt;omega));have Hp:=qI (Hn.o.below b (by have:=Q.o;omega));have Ho:=qI (Hm.o.trans (b.mono Y));clear b Hf Hn Hm Hh c0 c1 c2 c3 Hl
    rcases two (decide (many<=fD all m)) with b|b
    ·have B:=qI (K.o b);rw [b];clear b K M
     go_wp2_with fail
     refine (HJ.o _ Hc).mono ?_;rintro e P ⟨rfl,rfl⟩;generalize bY m=p at *;generalize gY all many L k=f0 at *
     by_cases Hr:f0<=p
     ·have Hx:Hu (min f0 p=f0):=by unfold Hu;omega
      go_wp2
      go_roundw
      case rel=>exact ⟨k+1,by omega,by go_num,by (rw [B.o,Hx.o];first|done|exact congrArg (Value.int .i64) (by omega)),Hi,Hp,Ho⟩
      case measure=>simp [intOf];omega
     ·have Hx:Hu (min f0 p=p):=by unfold Hu;omega
      go_wp2
      go_roundw
      case rel=>exact ⟨k+1,by omega,by go_num,by (rw [B.o,Hx.o];first|done|exact congrArg (Value.int .i64) (by omega)),Hi,Hp,Ho⟩
      case measure=>simp [intOf];omega
    ·have B:=qI (M.o b);rw [b];clear b K M
     go_wp2
     go_roundw
     case rel=>exact ⟨k+1,by omega,by go_num,by rw [B.o],Hi,Hp,Ho⟩
     case measure=>simp [intOf];omega
   ·have HW:k=L.length:=by omega
    subst HW;clear D y;have H5:=Hf.o.below ((Q0 wr wr).alloc (lR) (.cells #[false,.slice none 0 0] 279)) Hf.o.lt;have Y:x.heap.size<=wr.heap.size:=Hm.o.size;have H7:=Hn.o.below ((Q0 wr wr).alloc (lR) (.cells #[false,.slice none 0 0] 279)) (by have:=Q.o;omega);have H8:=Hm.o.alloc Y (.cells #[false,.slice none 0 0] 279);have HP:=qI (show (wr.alloc (.cells #[false,.slice none 0 0] 279)).cell? wr.heap.size=some (.bool false)/\(wr.alloc (.cells #[false,.slice none 0 0] 279)).cell? ⟨wr,1,none⟩=some (.slice none 0 0)/\(wr.alloc (.cells #[false,.slice none 0 0] 279)).frozen? ⟨wr,1,none⟩=false by simp);have H6:=qI H5;have H3:=qI H7;have H1:=qI H8;have Hy:=qI Y;clear H5 H7 H8 Hf Hn Hm Y HQ H4;rw [<- hh.o]
    go_wp2_with fail
    generalize hBw:wr.heap.size=d at *
    go_loopw [40] (λi C=>∃ (k:Nat) (v:Value),k<=L.length/\i=.int .i64 k/\Hu (iD C w free all many)/\Hu (lY C g L)/\Hu (Below x x C)/\C.cell? d=some (.bool false)/\C.cell? ⟨d,1,none⟩=some v/\C.frozen? ⟨d,1,none⟩=false/\Hu (C.ownsRow (d+1) 231 2 v (fq free all many F L k).length (fu (fq free all many F L k)))/\d+1<=C.heap.size) (λi _=>L.length - (intOf i).toNat)
    case atStart=>exact ⟨0,.slice none 0 0,by omega,rfl,H6.o,H3.o,H1.o,HP.o.1,HP.o.2.1,HP.o.2.2,Qw _ _ _ _,by simp;omega⟩
    case round=>
     obtain ⟨k,v,D,rfl,Hf,Hn,Hm,x0,x1,x2,T,Z⟩:=hrel;clear H6 H3 H1 HP
     by_cases y:k<L.length
     ·have Hl:=Hn.o k y;have Hc:=Ej HL.o y;have K:=qI λh=>Sy (free:=free) (all:=all) (many:=many) (few:=F) (l:=L) (k:=k) h;have M:=qI λh=>Sz (free:=free) (all:=all) (many:=many) (few:=F) (l:=L) (k:=k) h;have hle:=yK free all many F L k;generalize L.getD k 0=m at *;have c0:=Hf.o.f.c0;have c1:=Hf.o.f.c1;have c2:=Hf.o.f.c2;have c3:=Hf.o.f.c3;have Hh:=qI (uK free m many (w.heap.size+2) wr Hc hp.o Hf.o.m);unfold v4 at Hh
      go_wp2_with fail
      refine Hh.o.mono ?_;rintro e w2 ⟨rfl,b⟩;have Hi:=qI (Hf.o.below b (by have:=Hf.o.lt;omega));have Hp:=qI (Hn.o.below b (by have:=Q.o;have:=Hy.o;omega));have Ho:=qI (Hm.o.trans (b.mono (by have:=Hy.o;omega)));have I:=(b.cell (p:=d) Z).trans x0;have O:=(b.cell (p:=⟨d,1,none⟩) Z).trans x1;have N:=(b.frozen (p:=⟨d,1,none⟩) Z).trans x2;have X:Hu (w2.ownsRow (d+1) 231 2 v (fq free all many F L k).length (fu (fq free all many F L k))):=T.o.kept (row:=none) ⟨b.os,b.tape,b.output,b.size,λj f _=>b.block j f⟩ (by cases hv:v.ownBlock <;> simp);have Hb:=Q5 Z b.size;clear b Hf Hn Hm Hh c0 c1 c2 c3 Hl x0 x1 x2 T Z
      rcases two (decide (many<=fD free m)) with b|b
      ·have B:=qI (K.o b);rw [b];clear b K M;obtain ⟨ao,cc,rfl⟩:=jE X.o;have Hh:=qI (uK all m many (w.heap.size+2));have HJ:=qI (pW m);have c0:=Hi.o.a.c0;have c1:=Hi.o.a.c1;have c2:=Hi.o.a.c2;have c3:=Hi.o.a.c3;have HU:=qI Hi.o.m;unfold v4 at Hh;obtain ⟨i0,hi,HV,HS,HZ⟩:=info_parts y8;have hq:=m8 m;have Hv:Hu (nh all many F m=(decide (many<=fD all m) && decide (bY m=F))):=rfl;generalize nh all many F m=gd at *
       rcases two (decide (many<=fD all m)) with J|J
       ·rw [J] at Hh Hv
        rcases two (decide (bY m=F)) with Hr|Hr
        ·have Hz:Hu (gd=true):=by unfold Hu;rw [Hv.o,Hr];rfl
         have ho:((bY m:Int) == (F:Int))=true:=by rw [beq_iff_eq];have:=of_decide_eq_true Hr;omega
         clear Hv J Hr;generalize bY m=p8 at *
         go_wp2_with fail
         first
          | (go_region_law (first
           | (refine step_append_lies _ rfl _ _ 275 rfl (d+1) 231 i0 (.agg #[.int .u8 0,.bool false]) 2 2 underlying275 hi HV HS HZ rfl (by decide) _ _ _ rfl (Hq.o.alloc _) ⟨P.heap.size,0,none⟩ 1 1 [.int .u8 m,.bool true] rfl rfl (by intro j u f;match j,f with|0,f=>(simp at f;subst f;simp [Addr.add])|1,f=>(simp at f;subst f;simp [Addr.add])) (by intro u G;simp at G;rcases G with rfl|rfl <;> rfl) (by decide) (by unfold maxLen;omega) (by omega) (by simp;omega) _ rfl ?_;intro g' H w4 He Ha Hj Hk;have Hg:=Below.grown (Q0 (d+1) _) Ha (by simp;omega) λk D=>(Hq.o.lt k D).1;have t0:=(Hg.cell (p:=⟨d,0,none⟩) (Nat.lt_succ_self _)).trans n;have E:=(Hg.cell (p:=⟨d,1,none⟩) (Nat.lt_succ_self _)).trans s;have t2:=(Hg.frozen (p:=⟨d,1,none⟩) (Nat.lt_succ_self _)).trans r)
           | (go_simp;go_at_call 207;refine (Hh.o _ Hc HI.o ?_).mono ?_;exact HU.o;rintro e P ⟨rfl,b⟩;have A:=(b.cell (p:=⟨d,0,none⟩) Hb).trans I;have o:=(b.cell (p:=⟨d,1,none⟩) Hb).trans O;have z:=(b.frozen (p:=⟨d,1,none⟩) Hb).trans N;have n:=g9 A (.cells #[.int .u8 m,.bool true] 231);have s:=g9 o (.cells #[.int .u8 m,.bool true] 231);have r:=uL o z (.cells #[.int .u8 m,.bool true] 231);have Hq:=qI (kR X.o.drew b);have HF:=Q5 Hb b.size)
           | (go_simp;go_at_call 206;refine (HJ.o _ Hc).mono ?_;rintro e w5 ⟨rfl,hs⟩;subst w5)))
          | fail
         all_goals
          have HX:=qI (xJ Hi.o Hp.o Ho.o Hy.o Hs Q.o Hb b Hg t0 E t2 He);clear b Hg t0 E t2 He Ha I O N Hj Hk
          go_wp2
          go_roundw
          case rel=>
           obtain ⟨V,q2,q3,W,U,q6,q7,q8⟩:=HX.o;exact ⟨k+1,_,by omega,by go_num,V,q2,q3,W,U,q6,by rw [B.o,Hz.o,Q2,rS];exact q7,q8⟩
          case measure=>simp [intOf];omega
        ·have Hz:Hu (gd=false):=by unfold Hu;rw [Hv.o,Hr];rfl
         have ho:((bY m:Int) == (F:Int))=false:=by rw [Qr];have:=of_decide_eq_false Hr;omega
         clear Hv J Hr;generalize bY m=p8 at *
         go_wp2_with fail
         first
          | (go_region_law (first
           | (refine step_append_lies _ rfl _ _ 275 rfl (d+1) 231 i0 (.agg #[.int .u8 0,.bool false]) 2 2 underlying275 hi HV HS HZ rfl (by decide) _ _ _ rfl (Hq.o.alloc _) ⟨P.heap.size,0,none⟩ 1 1 [.int .u8 m,.bool false] rfl rfl (by intro j u f;match j,f with|0,f=>(simp at f;subst f;simp [Addr.add])|1,f=>(simp at f;subst f;simp [Addr.add])) (by intro u G;simp at G;rcases G with rfl|rfl <;> rfl) (by decide) (by unfold maxLen;omega) (by omega) (by simp;omega) _ rfl ?_;intro g' H w4 He Ha Hj Hk;have Hg:=Below.grown (Q0 (d+1) _) Ha (by simp;omega) λk D=>(Hq.o.lt k D).1;have t0:=(Hg.cell (p:=⟨d,0,none⟩) (Nat.lt_succ_self _)).trans n;have E:=(Hg.cell (p:=⟨d,1,none⟩) (Nat.lt_succ_self _)).trans s;have t2:=(Hg.frozen (p:=⟨d,1,none⟩) (Nat.lt_succ_self _)).trans r)
           | (go_simp;go_at_call 207;refine (Hh.o _ Hc HI.o ?_).mono ?_;exact HU.o;rintro e P ⟨rfl,b⟩;have A:=(b.cell (p:=⟨d,0,none⟩) Hb).trans I;have o:=(b.cell (p:=⟨d,1,none⟩) Hb).trans O;have z:=(b.frozen (p:=⟨d,1,none⟩) Hb).trans N;have n:=g9 A (.cells #[.int .u8 m,.bool false] 231);have s:=g9 o (.cells #[.int .u8 m,.bool false] 231);have r:=uL o z (.cells #[.int .u8 m,.bool false] 231);have Hq:=qI (kR X.o.drew b);have HF:=Q5 Hb b.size)
           | (go_simp;go_at_call 206;refine (HJ.o _ Hc).mono ?_;rintro e w5 ⟨rfl,hs⟩;subst w5)))
          | fail
         all_goals
          have HX:=qI (xJ Hi.o Hp.o Ho.o Hy.o Hs Q.o Hb b Hg t0 E t2 He);clear b Hg t0 E t2 He Ha I O N Hj Hk
          go_wp2
          go_roundw
          case rel=>
           obtain ⟨V,q2,q3,W,U,q6,q7,q8⟩:=HX.o;exact ⟨k+1,_,by omega,by go_num,V,q2,q3,W,U,q6,by rw [B.o,Hz.o,Q2,rS];exact q7,q8⟩
          case measure=>simp [intOf];omega
       ·have Hz:Hu (gd=false):=by unfold Hu;rw [Hv.o,J];rfl
        rw [J] at Hh;clear Hv J
        go_wp2_with fail
        first
         | (go_region_law (first
          | (refine step_append_lies _ rfl _ _ 275 rfl (d+1) 231 i0 (.agg #[.int .u8 0,.bool false]) 2 2 underlying275 hi HV HS HZ rfl (by decide) _ _ _ rfl (Hq.o.alloc _) ⟨P.heap.size,0,none⟩ 1 1 [.int .u8 m,.bool false] rfl rfl (by intro j u f;match j,f with|0,f=>(simp at f;subst f;simp [Addr.add])|1,f=>(simp at f;subst f;simp [Addr.add])) (by intro u G;simp at G;rcases G with rfl|rfl <;> rfl) (by decide) (by unfold maxLen;omega) (by omega) (by simp;omega) _ rfl ?_;intro g' H w4 He Ha Hj Hk;have Hg:=Below.grown (Q0 (d+1) _) Ha (by simp;omega) λk D=>(Hq.o.lt k D).1;have t0:=(Hg.cell (p:=⟨d,0,none⟩) (Nat.lt_succ_self _)).trans n;have E:=(Hg.cell (p:=⟨d,1,none⟩) (Nat.lt_succ_self _)).trans s;have t2:=(Hg.frozen (p:=⟨d,1,none⟩) (Nat.lt_succ_self _)).trans r)
          | (go_simp;go_at_call 207;refine (Hh.o _ Hc HI.o ?_).mono ?_;exact HU.o;rintro e P ⟨rfl,b⟩;have A:=(b.cell (p:=⟨d,0,none⟩) Hb).trans I;have o:=(b.cell (p:=⟨d,1,none⟩) Hb).trans O;have z:=(b.frozen (p:=⟨d,1,none⟩) Hb).trans N;have n:=g9 A (.cells #[.int .u8 m,.bool false] 231);have s:=g9 o (.cells #[.int .u8 m,.bool false] 231);have r:=uL o z (.cells #[.int .u8 m,.bool false] 231);have Hq:=qI (kR X.o.drew b);have HF:=Q5 Hb b.size)))
         | fail
        all_goals
         have HX:=qI (xJ Hi.o Hp.o Ho.o Hy.o Hs Q.o Hb b Hg t0 E t2 He);clear b Hg t0 E t2 He Ha I O N Hj Hk
         go_wp2
         go_roundw
         case rel=>
          obtain ⟨V,q2,q3,W,U,q6,q7,q8⟩:=HX.o;exact ⟨k+1,_,by omega,by go_num,V,q2,q3,W,U,q6,by rw [B.o,Hz.o,Q2,rS];exact q7,q8⟩
         case measure=>simp [intOf];omega
      ·have B:=qI (M.o b);rw [b];clear b K M
       go_wp2
       go_roundw
       case rel=>exact ⟨k+1,v,by omega,by go_num,Hi,Hp,Ho,I,O,N,by rw [B.o];exact X,Hb⟩
       case measure=>simp [intOf];omega
     ·have HW:k=L.length:=by omega
      subst HW;clear D y;have r0:wr.cell? ⟨w.heap.size+1+1+1,0,none⟩=some (.bool false):=Hf.o.r0;have r1:wr.cell? ⟨w.heap.size+1+1+1,1,none⟩=some (.slice none 0 0):=Hf.o.r1;have z0:wr.frozen? ⟨w.heap.size+1+1+1,0,none⟩=false:=Hf.o.z0;have z1:wr.frozen? ⟨w.heap.size+1+1+1,1,none⟩=false:=Hf.o.z1;have hl:=Hf.o.lt;have H9:w.heap.size+1+1+1<d+1:=by have:=Hy.o;omega
      have hr:=qI (H2.o.trans (Hm.o.mono (by omega)));obtain ⟨ao,cc,rfl⟩:=jE T.o
      go_wp2_with fail
      (try simp only [Exit.inBlock,Exit.then]);refine bodyPost_ret (v:=.agg #[false,.slice ao (fq free all many F L L.length).length cc]) ?_ rfl ⟨_,rfl,cd.of_row (ownsRow_setCell_below (a:=⟨w.heap.size+1+1+1,1,none⟩) (ownsRow_setCell_below (a:=⟨w.heap.size+1+1+1,0,none⟩) T.o H9 _) H9 _),za T.o (by omega),?_⟩
      ·rw [rO rfl];go_simp
      ·exact ((hr.o.setCell (by show w.heap.size<=w.heap.size+1+1+1;omega) _).setCell (by show w.heap.size<=w.heap.size+1+1+1;omega) _)
