import Derived.Test.YtbmmnflgnmjboaaGreatDoorR14
import Derived.Test.YtbmmnflgnmjboaaGreatDoorR16
import Derived.Test.YtbmmnflgnmjboaaGreatDoorR18
import Derived.Test.YtbmmnflgnmjboaaGreatDoorR6
set_option maxRecDepth 100000
set_option maxHeartbeats 16000000
open Go.Proofs.Tryz
namespace Go.Proofs.YtbmmnflgnmjboaaGreatDoor
section
open RowKit
open Ost (N4 sumTo de Sm pop8 gR bI ey cQ iD)
theorem KI {q:N4} {many:Int} {l:List Nat} {k:Nat} (h:decide (many<=de q (l.getD k 0))=true):ey q many l (k+1)=min (ey q many l k) (pop8 (l.getD k 0)):=by rw [ey,if_pos h]
theorem KJ {q:N4} {many:Int} {l:List Nat} {k:Nat} (h:decide (many<=de q (l.getD k 0))=false):ey q many l (k+1)=ey q many l k:=by rw [ey,if_neg (by rw [h];simp)]
theorem KK {free all:N4} {many:Int} {few:Nat} {l:List Nat} {k:Nat} (h:decide (many<=de free (l.getD k 0))=true):cQ free all many few l (k+1)=cQ free all many few l k++[(l.getD k 0,iD all many few (l.getD k 0))]:=by rw [cQ,if_pos h]
theorem KL {free all:N4} {many:Int} {few:Nat} {l:List Nat} {k:Nat} (h:decide (many<=de free (l.getD k 0))=false):cQ free all many few l (k+1)=cQ free all many few l k:=by rw [cQ,if_neg (by rw [h];simp)]
theorem yX {nodes k:Nat} {L:List Nat} (hL:L=bI nodes 16) (hk:k<L.length):L.getD k 0<256:=by
 have:L.getD k 0∈bI nodes 16:=by rw [<- hL];simp [hk]
 have:=(Ost.tu this).1
 omega
theorem sw {w1 w2 w3 w4:World} {N Bw g g' cap' n m:Nat} {free all:N4} {many:Int} {L:List Nat} {xs:List Value} {b:Bool} {o:Obj} {v0:Value} (HE2:fx w2 N free all many) (HM2:jl w2 g L) (HB2:Below w1.heap.size w1 w2) (hBw:w1.heap.size<=Bw) (hN:N+4<=w1.heap.size) (hg:g<w1.heap.size) (hsz2:Bw+1<=w2.heap.size)
  (hb:Below w2.drew.heap.size w2.drew w3) (hb4:Below (Bw+1) (w3.alloc o) w4) (t0:w4.cell? ⟨Bw,0,none⟩=some (.bool false)) (t1:w4.cell? ⟨Bw,1,none⟩=some v0) (t2:w4.frozen? ⟨Bw,1,none⟩=false)
  (hown4:w4.ownsRow (Bw+1) 223 2 (.slice (some ⟨g',0,none⟩) (n+1) cap') (n+1) (xs++[.int .u8 m,.bool b])) :
  fx (w4.setCell ⟨Bw,1,none⟩ (.slice (some ⟨g',0,none⟩) (n+1) cap')) N free all many/\jl (w4.setCell ⟨Bw,1,none⟩ (.slice (some ⟨g',0,none⟩) (n+1) cap')) g L/\Below w1.heap.size w1 (w4.setCell ⟨Bw,1,none⟩ (.slice (some ⟨g',0,none⟩) (n+1) cap'))/\(w4.setCell ⟨Bw,1,none⟩ (.slice (some ⟨g',0,none⟩) (n+1) cap')).cell? ⟨Bw,0,none⟩=some (.bool false)/\(w4.setCell ⟨Bw,1,none⟩ (.slice (some ⟨g',0,none⟩) (n+1) cap')).cell? ⟨Bw,1,none⟩=some (.slice (some ⟨g',0,none⟩) (n+1) cap')/\(w4.setCell ⟨Bw,1,none⟩ (.slice (some ⟨g',0,none⟩) (n+1) cap')).frozen? ⟨Bw,1,none⟩=false/\(w4.setCell ⟨Bw,1,none⟩ (.slice (some ⟨g',0,none⟩) (n+1) cap')).ownsRow (Bw+1) 223 2 (.slice (some ⟨g',0,none⟩) (n+1) cap') (n+1) (xs++[.int .u8 m,.bool b])/\Bw+1<=(w4.setCell ⟨Bw,1,none⟩ (.slice (some ⟨g',0,none⟩) (n+1) cap')).heap.size:=by
 have h3:Below (Bw+1) w2 w3:=Below.mono ⟨hb.os,hb.tape,hb.output,hb.size,hb.block⟩ hsz2;have Ha:Bw+1<=w3.heap.size:=Q5 hsz2 hb.size;have h4:Below (Bw+1) w2 w4:=(h3.alloc Ha o).trans hb4;have h5:Below Bw w2 (w4.setCell ⟨Bw,1,none⟩ (.slice (some ⟨g',0,none⟩) (n+1) cap')):=(h4.mono (Nat.le_succ _)).setCell (lR) _;refine ⟨HE2.below h5 (by omega),HM2.below h5 (by omega),HB2.trans (h5.mono hBw),?_,?_,?_,ownsRow_setCell_below hown4 (Nat.lt_succ_self _) _,Q5 hsz2 h5.size⟩
 ·clear h5 h4 h3;go_simp
 ·clear h5 h4 h3;go_simp
 ·clear h5 h4 h3;go_simp
theorem KM (free all:N4) (nodes:Nat) (many:Int) (w:World) (hmany:0<many) (hn:nodes<256) (hf:Sm free) (ha:Sm all) :
  Calls prog 162 #[v4 free,v4 all,.int .u8 nodes,.int .i64 many] w λe w'=>B6 w (Ost.eG free all nodes many) e w':=by
 have HE:=qI (fx.made w free all many);have HB:=qI (tR w free all many);have hc:=HE.out.m;have ho:=qI hf;have HF:=qI ha;have hr:∀ (fn:Fn) (first cap:Array Value) (w:World),(Instr.makeFunc fn first cap).run prog w=.ok (.func fn first cap) w:=λ_ _ _ _=>rfl
 unfold Ost.eG Ost.few;obtain ⟨L,hL⟩:∃ L,L=bI nodes 16:=⟨_,rfl⟩;rw [<- hL];obtain ⟨F,hF⟩:∃ F,F=ey all many L L.length:=⟨_,rfl⟩;rw [<- hF];have H8:=qI hF;have hh:F<=4:=by rw [hF];exact Ost.tw all many L L.length
 clear hF;have HL:=qI hL;have hq:L.length<=16:=by rw [hL];exact Ost.pO nodes 16
 clear hf ha hL;unfold nP v4 at *
 go_enter func162,ntmps162
 go_wp2_with fail
 refine (B4 nodes _ hn).mono ?_;rintro e w1 ⟨v,rfl,hM,HJ⟩;have HV:=qI (HB.out.trans (HJ.mono HB.out.size));have HD:=qI (HE.out.below HJ HE.out.lt);have HM:=qI hM;have Hs:w.heap.size+4<=w1.heap.size:=Q5 HE.out.lt HJ.size;clear hM HJ HE HB hc;rw [<- HL.out] at HM
 rcases HM.out with ⟨rfl,ao,c,rfl⟩|⟨g,c,rfl,hg,H4⟩
 ·-- no masks at all
  clear HM;have HK:=HV.out.alloc (by omega) (.cells #[.bool false,.slice none 0 0] 270);have Hy:=HD.out.below ((Q0 w1.heap.size w1).alloc (lR) (.cells #[.bool false,.slice none 0 0] 270)) HD.out.lt;have r0:(w1.alloc (.cells #[.bool false,.slice none 0 0] 270)).cell? ⟨w.heap.size+1+1+1,0,none⟩=some (.bool false):=Hy.r0;have r1:(w1.alloc (.cells #[.bool false,.slice none 0 0] 270)).cell? ⟨w.heap.size+1+1+1,1,none⟩=some (.slice none 0 0):=Hy.r1;have z0:(w1.alloc (.cells #[.bool false,.slice none 0 0] 270)).frozen? ⟨w.heap.size+1+1+1,0,none⟩=false:=Hy.z0;have z1:(w1.alloc (.cells #[.bool false,.slice none 0 0] 270)).frozen? ⟨w.heap.size+1+1+1,1,none⟩=false:=Hy.z1;have HK:=qI HK;clear Hy
  go_wp2
  go_loopw [11,25] (λt i wr=>i=.int .i64 0/\wr=w1) (λ_ _ _=>0)
  case atStart=>exact ⟨rfl,rfl⟩
  case round=>
   obtain ⟨rfl,rfl⟩:=hrel
   go_wp2
   go_loopw [40] (λi wq=>i=.int .i64 0/\wq=wr.alloc (.cells #[.bool false,.slice none 0 0] 270)) (λ_ _=>0)
   case atStart=>exact ⟨rfl,rfl⟩
   case round=>
    obtain ⟨rfl,rfl⟩:=hrel
    go_wp2_with fail
    (try simp only [Exit.inBlock,Exit.then]);refine bodyPost_ret (v:=.agg #[.bool false,.slice none 0 0]) ?_ rfl ⟨_,rfl,.inl ⟨rfl,none,0,rfl⟩,(λ_ _ _ _ h=>by cases h),?_⟩
    ·rw [nK rfl];go_simp
    ·exact ((HK.out.setCell (by show w.heap.size<=w.heap.size+1+1+1;omega) _).setCell (by show w.heap.size<=w.heap.size+1+1+1;omega) _)
 ·have H3:Hid (jl w1 g L):=H4;have HG:=qI hg;clear H4 hg HM
  go_wp2
  go_loopw [11,25] (λt i wr=>∃ k:Nat,k<=L.length/\i=.int .i64 k/\t=.int .i64 (ey all many L k:Nat)/\Hid (fx wr w.heap.size free all many)/\Hid (jl wr g L)/\Hid (Below w1.heap.size w1 wr)) (λ_ i _=>L.length - (intOf i).toNat)
  case atStart=>exact ⟨0,by omega,rfl,rfl,HD.out,H3.out,Q0 _ _⟩
  case round=>
   obtain ⟨k,hk,rfl,rfl,Hf,Hn,Hm⟩:=hrel
   by_cases hlt:k<L.length
   ·have Hj:=Hn.out k hlt;have Hc:=yX HL.out hlt;have HY:=qI λh=>KI (q:=all) (many:=many) (l:=L) (k:=k) h;have HN:=qI λh=>KJ (q:=all) (many:=many) (l:=L) (k:=k) h;have hle:=Ost.tw all many L k;generalize L.getD k 0=m at *;have c0:=Hf.out.a.c0;have c1:=Hf.out.a.c1;have c2:=Hf.out.a.c2;have c3:=Hf.out.a.c3;have Hh:=qI (pT all m many (w.heap.size+2) wr Hc HF.out Hf.out.m);unfold v4 at Hh;have HI:=qI (lW m);have hl:=Ost.jk m
    go_wp2_with fail
    refine Hh.out.mono ?_;rintro e w2 ⟨rfl,hb⟩;have HC:w1.heap.size<=wr.heap.size:=Hm.out.size;have Hi:=qI (Hf.out.below hb (by have:=Hf.out.lt;omega));have Hp:=qI (Hn.out.below hb (by have:=HG.out;omega));have Ho:=qI (Hm.out.trans (hb.mono HC));clear hb Hf Hn Hm Hh c0 c1 c2 c3 Hj
    rcases two (decide (many<=de all m)) with hb|hb
    ·have HO:=qI (HY.out hb);rw [hb];clear hb HY HN
     go_wp2_with fail
     refine (HI.out _ Hc).mono ?_;rintro e w3 ⟨rfl,rfl⟩;generalize pop8 m=p at *;generalize ey all many L k=f0 at *
     by_cases Hr:f0<=p
     ·have Hu:Hid (min f0 p=f0):=by unfold Hid;omega
      go_wp2
      go_roundw
      case rel=>exact ⟨k+1,by omega,by go_num,by (rw [HO.out,Hu.out];first|done|exact congrArg (Value.int .i64) (by omega)),Hi,Hp,Ho⟩
      case measure=>simp [intOf];omega
     ·have Hu:Hid (min f0 p=p):=by unfold Hid;omega
      go_wp2
      go_roundw
      case rel=>exact ⟨k+1,by omega,by go_num,by (rw [HO.out,Hu.out];first|done|exact congrArg (Value.int .i64) (by omega)),Hi,Hp,Ho⟩
      case measure=>simp [intOf];omega
    ·have HO:=qI (HN.out hb);rw [hb];clear hb HY HN
     go_wp2
     go_roundw
     case rel=>exact ⟨k+1,by omega,by go_num,by rw [HO.out],Hi,Hp,Ho⟩
     case measure=>simp [intOf];omega
   ·have HT:k=L.length:=by omega
    subst HT;clear hk hlt;have H5:=Hf.out.below ((Q0 wr.heap.size wr).alloc (lR) (.cells #[.bool false,.slice none 0 0] 270)) Hf.out.lt;have HC:w1.heap.size<=wr.heap.size:=Hm.out.size;have HZ:=Hn.out.below ((Q0 wr.heap.size wr).alloc (lR) (.cells #[.bool false,.slice none 0 0] 270)) (by have:=HG.out;omega);have H1:=Hm.out.alloc HC (.cells #[.bool false,.slice none 0 0] 270);have HH:=qI (show (wr.alloc (.cells #[.bool false,.slice none 0 0] 270)).cell? ⟨wr.heap.size,0,none⟩=some (.bool false)/\(wr.alloc (.cells #[.bool false,.slice none 0 0] 270)).cell? ⟨wr.heap.size,1,none⟩=some (.slice none 0 0)/\(wr.alloc (.cells #[.bool false,.slice none 0 0] 270)).frozen? ⟨wr.heap.size,1,none⟩=false by simp);have H2:=qI H5;have HW:=qI HZ;have H6:=qI H1;have Hv:=qI HC;clear H5 HZ H1 Hf Hn Hm HC HD H3;rw [<- H8.out]
    go_wp2_with fail
    generalize hBw:wr.heap.size=Bw at *
    go_loopw [40] (λi wq=>∃ (k:Nat) (v:Value),k<=L.length/\i=.int .i64 k/\Hid (fx wq w.heap.size free all many)/\Hid (jl wq g L)/\Hid (Below w1.heap.size w1 wq)/\wq.cell? ⟨Bw,0,none⟩=some (.bool false)/\wq.cell? ⟨Bw,1,none⟩=some v/\wq.frozen? ⟨Bw,1,none⟩=false/\Hid (wq.ownsRow (Bw+1) 223 2 v (cQ free all many F L k).length (dM (cQ free all many F L k)))/\Bw+1<=wq.heap.size) (λi _=>L.length - (intOf i).toNat)
    case atStart=>exact ⟨0,.slice none 0 0,by omega,rfl,H2.out,HW.out,H6.out,HH.out.1,HH.out.2.1,HH.out.2.2,Qw _ _ _ _,by simp;omega⟩
    case round=>
     obtain ⟨k,v,hk,rfl,Hf,Hn,Hm,x0,x1,x2,HR,HA⟩:=hrel;clear H2 HW H6 HH
     by_cases hlt:k<L.length
     ·have Hj:=Hn.out k hlt;have Hc:=yX HL.out hlt;have HY:=qI λh=>KK (free:=free) (all:=all) (many:=many) (few:=F) (l:=L) (k:=k) h;have HN:=qI λh=>KL (free:=free) (all:=all) (many:=many) (few:=F) (l:=L) (k:=k) h;have hle:=Ost.tx free all many F L k;generalize L.getD k 0=m at *;have c0:=Hf.out.f.c0;have c1:=Hf.out.f.c1;have c2:=Hf.out.f.c2;have c3:=Hf.out.f.c3;have Hh:=qI (pT free m many (w.heap.size+2) wr Hc ho.out Hf.out.m);unfold v4 at Hh
      go_wp2_with fail
      refine Hh.out.mono ?_;rintro e w2 ⟨rfl,hb⟩;have Hi:=qI (Hf.out.below hb (by have:=Hf.out.lt;omega));have Hp:=qI (Hn.out.below hb (by have:=HG.out;have:=Hv.out;omega));have Ho:=qI (Hm.out.trans (hb.mono (by have:=Hv.out;omega)));have y0:=(hb.cell (p:=⟨Bw,0,none⟩) HA).trans x0;have y1:=(hb.cell (p:=⟨Bw,1,none⟩) HA).trans x1;have y2:=(hb.frozen (p:=⟨Bw,1,none⟩) HA).trans x2;have Hw:Hid (w2.ownsRow (Bw+1) 223 2 v (cQ free all many F L k).length (dM (cQ free all many F L k))):=HR.out.kept (row:=none) ⟨hb.os,hb.tape,hb.output,hb.size,λj hj _=>hb.block j hj⟩ (by cases hv:v.ownBlock <;> simp);have Hb:=Q5 HA hb.size;clear hb Hf Hn Hm Hh c0 c1 c2 c3 Hj x0 x1 x2 HR HA
      rcases two (decide (many<=de free m)) with hb|hb
      ·have HO:=qI (HY.out hb);rw [hb];clear hb HY HN;obtain ⟨ao,cc,rfl⟩:=gw Hw.out;have Hh:=qI (pT all m many (w.heap.size+2));have HI:=qI (lW m);have c0:=Hi.out.a.c0;have c1:=Hi.out.a.c1;have c2:=Hi.out.a.c2;have c3:=Hi.out.a.c3;have HQ:=qI Hi.out.m;unfold v4 at Hh;obtain ⟨i0,hi,HS,HU,HP⟩:=info_parts tQ;have hl:=Ost.jk m;have Ht:Hid (iD all many F m=(decide (many<=de all m) && decide (pop8 m=F))):=rfl;generalize iD all many F m=gd at *
       rcases two (decide (many<=de all m)) with he|he
       ·rw [he] at Hh Ht
        rcases two (decide (pop8 m=F)) with Hr|Hr
        ·have Hz:Hid (gd=true):=by unfold Hid;rw [Ht.out,Hr];rfl
         have hm:((pop8 m:Int) == (F:Int))=true:=by rw [beq_iff_eq];have:=of_decide_eq_true Hr;omega
         clear Ht he Hr;generalize pop8 m=p8 at *
         go_wp2_with fail
         first
          | (go_region_law (first
           | (refine step_append_lies _ rfl _ _ 266 rfl (Bw+1) 223 i0 (.agg #[.int .u8 0,.bool false]) 2 2 underlying266 hi HS HU HP rfl (by decide) _ _ _ rfl (Hq.out.alloc _) ⟨w3.heap.size,0,none⟩ 1 1 [.int .u8 m,.bool true] rfl rfl (by intro j u hj;match j,hj with|0,hj=>(simp at hj;subst hj;simp [Addr.add])|1,hj=>(simp at hj;subst hj;simp [Addr.add])) (by intro u hu;simp at hu;rcases hu with rfl|rfl <;> rfl) (by decide) (by unfold maxLen;omega) (by omega) (by simp;omega) _ rfl ?_;intro g' cap' w4 He Ha Hk Hl;have Hg:=Below.grown (Q0 (Bw+1) _) Ha (by simp;omega) λk hk=>(Hq.out.lt k hk).1;have t0:=(Hg.cell (p:=⟨Bw,0,none⟩) (Nat.lt_succ_self _)).trans y0'';have t1:=(Hg.cell (p:=⟨Bw,1,none⟩) (Nat.lt_succ_self _)).trans y1'';have t2:=(Hg.frozen (p:=⟨Bw,1,none⟩) (Nat.lt_succ_self _)).trans y2'')
           | (go_simp;go_at_call 200;refine (Hh.out _ Hc HF.out ?_).mono ?_;exact HQ.out;rintro e w3 ⟨rfl,hb⟩;have y0':=(hb.cell (p:=⟨Bw,0,none⟩) Hb).trans y0;have y1':=(hb.cell (p:=⟨Bw,1,none⟩) Hb).trans y1;have y2':=(hb.frozen (p:=⟨Bw,1,none⟩) Hb).trans y2;have y0'':=eY y0' (.cells #[.int .u8 m,.bool true] 223);have y1'':=eY y1' (.cells #[.int .u8 m,.bool true] 223);have y2'':=pU y1' y2' (.cells #[.int .u8 m,.bool true] 223);have Hq:=qI (iE Hw.out.drew hb);have Hx:=Q5 Hb hb.size)
           | (go_simp;go_at_call 199;refine (HI.out _ Hc).mono ?_;rintro e w5 ⟨rfl,hp⟩;subst w5)))
          | fail
         all_goals
          have HX:=qI (sw Hi.out Hp.out Ho.out Hv.out Hs HG.out Hb hb Hg t0 t1 t2 He);clear hb Hg t0 t1 t2 He Ha y0 y1 y2 Hk Hl
          go_wp2
          go_roundw
          case rel=>
           obtain ⟨q1,q2,q3,q4,q5,q6,q7,q8⟩:=HX.out;exact ⟨k+1,_,by omega,by go_num,q1,q2,q3,q4,q5,q6,by rw [HO.out,Hz.out,Q2,nO];exact q7,q8⟩
          case measure=>simp [intOf];omega
        ·have Hz:Hid (gd=false):=by unfold Hid;rw [Ht.out,Hr];rfl
         have hm:((pop8 m:Int) == (F:Int))=false:=by rw [Qr];have:=of_decide_eq_false Hr;omega
         clear Ht he Hr;generalize pop8 m=p8 at *
         go_wp2_with fail
         first
          | (go_region_law (first
           | (refine step_append_lies _ rfl _ _ 266 rfl (Bw+1) 223 i0 (.agg #[.int .u8 0,.bool false]) 2 2 underlying266 hi HS HU HP rfl (by decide) _ _ _ rfl (Hq.out.alloc _) ⟨w3.heap.size,0,none⟩ 1 1 [.int .u8 m,.bool false] rfl rfl (by intro j u hj;match j,hj with|0,hj=>(simp at hj;subst hj;simp [Addr.add])|1,hj=>(simp at hj;subst hj;simp [Addr.add])) (by intro u hu;simp at hu;rcases hu with rfl|rfl <;> rfl) (by decide) (by unfold maxLen;omega) (by omega) (by simp;omega) _ rfl ?_;intro g' cap' w4 He Ha Hk Hl;have Hg:=Below.grown (Q0 (Bw+1) _) Ha (by simp;omega) λk hk=>(Hq.out.lt k hk).1;have t0:=(Hg.cell (p:=⟨Bw,0,none⟩) (Nat.lt_succ_self _)).trans y0'';have t1:=(Hg.cell (p:=⟨Bw,1,none⟩) (Nat.lt_succ_self _)).trans y1'';have t2:=(Hg.frozen (p:=⟨Bw,1,none⟩) (Nat.lt_succ_self _)).trans y2'')
           | (go_simp;go_at_call 200;refine (Hh.out _ Hc HF.out ?_).mono ?_;exact HQ.out;rintro e w3 ⟨rfl,hb⟩;have y0':=(hb.cell (p:=⟨Bw,0,none⟩) Hb).trans y0;have y1':=(hb.cell (p:=⟨Bw,1,none⟩) Hb).trans y1;have y2':=(hb.frozen (p:=⟨Bw,1,none⟩) Hb).trans y2;have y0'':=eY y0' (.cells #[.int .u8 m,.bool false] 223);have y1'':=eY y1' (.cells #[.int .u8 m,.bool false] 223);have y2'':=pU y1' y2' (.cells #[.int .u8 m,.bool false] 223);have Hq:=qI (iE Hw.out.drew hb);have Hx:=Q5 Hb hb.size)
           | (go_simp;go_at_call 199;refine (HI.out _ Hc).mono ?_;rintro e w5 ⟨rfl,hp⟩;subst w5)))
          | fail
         all_goals
          have HX:=qI (sw Hi.out Hp.out Ho.out Hv.out Hs HG.out Hb hb Hg t0 t1 t2 He);clear hb Hg t0 t1 t2 He Ha y0 y1 y2 Hk Hl
          go_wp2
          go_roundw
          case rel=>
           obtain ⟨q1,q2,q3,q4,q5,q6,q7,q8⟩:=HX.out;exact ⟨k+1,_,by omega,by go_num,q1,q2,q3,q4,q5,q6,by rw [HO.out,Hz.out,Q2,nO];exact q7,q8⟩
          case measure=>simp [intOf];omega
       ·have Hz:Hid (gd=false):=by unfold Hid;rw [Ht.out,he];rfl
        rw [he] at Hh;clear Ht he
        go_wp2_with fail
        first
         | (go_region_law (first
          | (refine step_append_lies _ rfl _ _ 266 rfl (Bw+1) 223 i0 (.agg #[.int .u8 0,.bool false]) 2 2 underlying266 hi HS HU HP rfl (by decide) _ _ _ rfl (Hq.out.alloc _) ⟨w3.heap.size,0,none⟩ 1 1 [.int .u8 m,.bool false] rfl rfl (by intro j u hj;match j,hj with|0,hj=>(simp at hj;subst hj;simp [Addr.add])|1,hj=>(simp at hj;subst hj;simp [Addr.add])) (by intro u hu;simp at hu;rcases hu with rfl|rfl <;> rfl) (by decide) (by unfold maxLen;omega) (by omega) (by simp;omega) _ rfl ?_;intro g' cap' w4 He Ha Hk Hl;have Hg:=Below.grown (Q0 (Bw+1) _) Ha (by simp;omega) λk hk=>(Hq.out.lt k hk).1;have t0:=(Hg.cell (p:=⟨Bw,0,none⟩) (Nat.lt_succ_self _)).trans y0'';have t1:=(Hg.cell (p:=⟨Bw,1,none⟩) (Nat.lt_succ_self _)).trans y1'';have t2:=(Hg.frozen (p:=⟨Bw,1,none⟩) (Nat.lt_succ_self _)).trans y2'')
          | (go_simp;go_at_call 200;refine (Hh.out _ Hc HF.out ?_).mono ?_;exact HQ.out;rintro e w3 ⟨rfl,hb⟩;have y0':=(hb.cell (p:=⟨Bw,0,none⟩) Hb).trans y0;have y1':=(hb.cell (p:=⟨Bw,1,none⟩) Hb).trans y1;have y2':=(hb.frozen (p:=⟨Bw,1,none⟩) Hb).trans y2;have y0'':=eY y0' (.cells #[.int .u8 m,.bool false] 223);have y1'':=eY y1' (.cells #[.int .u8 m,.bool false] 223);have y2'':=pU y1' y2' (.cells #[.int .u8 m,.bool false] 223);have Hq:=qI (iE Hw.out.drew hb);have Hx:=Q5 Hb hb.size)))
         | fail
        all_goals
         have HX:=qI (sw Hi.out Hp.out Ho.out Hv.out Hs HG.out Hb hb Hg t0 t1 t2 He);clear hb Hg t0 t1 t2 He Ha y0 y1 y2 Hk Hl
         go_wp2
         go_roundw
         case rel=>
          obtain ⟨q1,q2,q3,q4,q5,q6,q7,q8⟩:=HX.out;exact ⟨k+1,_,by omega,by go_num,q1,q2,q3,q4,q5,q6,by rw [HO.out,Hz.out,Q2,nO];exact q7,q8⟩
         case measure=>simp [intOf];omega
      ·have HO:=qI (HN.out hb);rw [hb];clear hb HY HN
       go_wp2
       go_roundw
       case rel=>exact ⟨k+1,v,by omega,by go_num,Hi,Hp,Ho,y0,y1,y2,by rw [HO.out];exact Hw,Hb⟩
       case measure=>simp [intOf];omega
     ·have HT:k=L.length:=by omega
      subst HT;clear hk hlt;have r0:wr.cell? ⟨w.heap.size+1+1+1,0,none⟩=some (.bool false):=Hf.out.r0;have r1:wr.cell? ⟨w.heap.size+1+1+1,1,none⟩=some (.slice none 0 0):=Hf.out.r1;have z0:wr.frozen? ⟨w.heap.size+1+1+1,0,none⟩=false:=Hf.out.z0;have z1:wr.frozen? ⟨w.heap.size+1+1+1,1,none⟩=false:=Hf.out.z1;have H7:=Hf.out.lt;have H0:w.heap.size+1+1+1<Bw+1:=by have:=Hv.out;omega
      have H9:=qI (HV.out.trans (Hm.out.mono (by omega)));obtain ⟨ao,cc,rfl⟩:=gw HR.out
      go_wp2_with fail
      (try simp only [Exit.inBlock,Exit.then]);refine bodyPost_ret (v:=.agg #[.bool false,.slice ao (cQ free all many F L L.length).length cc]) ?_ rfl ⟨_,rfl,bm.of_row (ownsRow_setCell_below (a:=⟨w.heap.size+1+1+1,1,none⟩) (ownsRow_setCell_below (a:=⟨w.heap.size+1+1+1,0,none⟩) HR.out H0 _) H0 _),tS HR.out (by omega),?_⟩
      ·rw [nK rfl];go_simp
      ·exact ((H9.out.setCell (by show w.heap.size<=w.heap.size+1+1+1;omega) _).setCell (by show w.heap.size<=w.heap.size+1+1+1;omega) _)
end
section
open RowKit Shelf
open Ost (Cpu N4 Wi Hi wi0 told Sm Low ad)
open Qos (Nd nd)
open Dvs (Dv dv fits bD cn)
theorem KN (A:Nat) (l:List Cpu) (x:Nat):∀ k,bh A l (x:Int) k=((List.range k).filter λi=>A.testBit i && decide ((l.getD i ad).node=(x:Int))).length:=by
 intro k
 induction k with
 | zero=>rfl
 | succ k ih=>
  rw [List.range_succ,List.filter_append,Q2,<- ih,bh]
  by_cases h:(A.testBit k && decide ((l.getD k ad).node=(x:Int)))=true
  ·rw [if_pos h,List.filter_cons_of_pos (p:=λi=>A.testBit i && decide ((l.getD i ad).node=(x:Int))) h];rfl
  ·rw [if_neg h,List.filter_cons_of_neg (p:=λi=>A.testBit i && decide ((l.getD i ad).node=(x:Int))) h];rfl
theorem yY (A:Nat) (l:List Cpu):kN A l l.length=v4 (Ol.bu A l):=by
 have e:∀ x:Nat,bh A l (x:Int) l.length=Ol.onNode A l x:=λx=>KN A l x l.length
 have e0:=e 0;have e1:=e 1;have e2:=e 2;have e3:=e 3;unfold kN Ol.bu;rw [<- e0,<- e1,<- e2,<- e3];rfl
theorem o7 (A:Nat) (l:List Cpu) (x:Nat):Ol.onNode A l x<=l.length:=by
 unfold Ol.onNode;exact Q5 (List.length_filter_le _ _) (by simp)
theorem yZ {a b c d:Nat} (ha:a<=64) (hb:b<=64) (hc:c<=64) (hd:d<=64):Sm ⟨a,b,c,d⟩:=by
 intro k
 match k with
 | 0=>show -1000000<=(a:Int)/\(a:Int)<=1000000;omega
 | 1=>show -1000000<=(b:Int)/\(b:Int)<=1000000;omega
 | 2=>show -1000000<=(c:Int)/\(c:Int)<=1000000;omega
 | k+3=>show -1000000<=(d:Int)/\(d:Int)<=1000000;omega
theorem y8 (A:Nat) {l:List Cpu} (h:l.length<=64):Sm (Ol.bu A l):=
 yZ (Q5 (o7 A l 0) h) (Q5 (o7 A l 1) h) (Q5 (o7 A l 2) h) (Q5 (o7 A l 3) h)
theorem o8 (p:Nat->Bool) (ds:List Dv) (x:Nat):∀ k,cn p ds x k<=k:=by
 intro k;unfold cn Dvs.sel;exact Q5 (List.length_filter_le _ _) (by simp)
theorem y9 (p:Nat->Bool) {ds:List Dv} (h:ds.length<=16):Sm (Ol.iM p ds):=
 yZ (Q5 (o8 _ _ _ _) (by omega)) (Q5 (o8 _ _ _ _) (by omega)) (Q5 (o8 _ _ _ _) (by omega)) (Q5 (o8 _ _ _ _) (by omega))
theorem KO {w:World} {v:Value} {l:List Hi} (h:bm w v l):∃ ao c,v=.slice ao l.length c:=by
 rcases h with ⟨rfl,ao,c,rfl⟩|⟨b,o,c,rfl,_⟩
 ·exact ⟨ao,c,rfl⟩
 ·exact ⟨_,c,rfl⟩
theorem za (free all:N4) (nd:Nat) (many:Int) (w:World) (hn:nd<256) (hf:Sm free) (ha:Sm all) :
  Calls prog 162 #[v4 free,v4 all,.int .u8 nd,.int .i64 many] w λe w'=>∃ ao c,e=.returned (.agg #[.bool (Ol.b7 free all nd many).any,.slice ao (Ol.b7 free all nd many).hs.length c])/\bm w' (.slice ao (Ol.b7 free all nd many).hs.length c) (Ol.b7 free all nd many).hs/\(∀ b o,ao=some ⟨b,o,none⟩->w.heap.size<=b)/\Below w.heap.size w w':=by
 unfold Ol.b7
 by_cases h:many<=0
 ·rw [if_pos h];refine (B7 free all nd many w h).mono ?_;rintro e w' ⟨rfl,hb⟩;exact ⟨none,0,rfl,.inl ⟨rfl,none,0,rfl⟩,(λ_ _ h=>nomatch h),hb⟩
 ·rw [if_neg h];refine (KM free all nd many w (by omega) hn hf ha).mono ?_;rintro e w' ⟨v,rfl,hh,Ha,hb⟩;obtain ⟨ao,c,rfl⟩:=KO hh;exact ⟨ao,c,rfl,hh,λb o h=>Ha b o _ _ (by rw [h]),hb⟩
theorem zb (free all:N4) (nd:Nat) (many:Int):Low (Ol.b7 free all nd many).hs/\(Ol.b7 free all nd many).hs.length<=16:=by
 unfold Ol.b7
 by_cases h:many<=0
 ·rw [if_pos h];exact ⟨λx hx=>(List.not_mem_nil hx).elim,Nat.zero_le _⟩
 ·rw [if_neg h];refine ⟨λx hx=>?_,Ost.AV _ _ _ _⟩;obtain ⟨m,g⟩:=x
  have:=Ost.AU hx
  exact Nat.lt_trans this.2.1 (by decide)
theorem KQ (m:Ol.Mc) (s:Ol.Sk) (own:Int) (ns:List Nd):p6 (Ol.cf m s own ns):=by
 intro y hy;unfold Ol.cf at hy
 rcases List.mem_cons.1 hy with rfl|hy
 ·exact zb _ _ _ _
 ·obtain ⟨n,_,rfl⟩:=Qk.1 hy;exact zb _ _ _ _
theorem KR (m:Ol.Mc) (s:Ol.Sk) (own:Int) (ns:List Nd):(Ol.cf m s own ns).length=ns.length+1:=by
 unfold Ol.cf;simp
theorem KS (m:Ol.Mc) (s:Ol.Sk) (own:Int) (ns:List Nd) (v:Value) (w:World) (hv:fQ w v (Ol.cf m s own ns)) (hl:ns.length<=3) (hn:1<=m.nd/\m.nd<=15) (hp:0<=m.pol/\m.pol<=3) :
  Calls prog 126 #[.int .i64 m.pol,.int .u8 m.nd,v] w λe w'=>e=.returned (.tuple #[vH (Ol.place m (Ol.cf m s own ns)).1,.bool (Ol.place m (Ol.cf m s own ns)).2,.nilIface])/\Below w.heap.size w w':=by
 unfold Ol.place;have Ha:=KR m s own ns
 by_cases h0:m.pol=0
 ·rw [if_pos h0,h0];obtain ⟨ao,c,rfl,_⟩:=hv.form;exact Cu m.nd ao _ c w hn (by omega)
 ·rw [if_neg h0];exact Cv m.pol m.nd v (Ol.cf m s own ns) w hv (KQ m s own ns) (by omega) hn (by omega)
end
section
open RowKit Shelf
open Ost (Cpu N4 Wi Hi wi0 told Sm Low ad)
open Qos (Nd nd)
open Dvs (Dv dv fits bD cn aW)
attribute [local go_sem] Oper.semAt_some
theorem bm.le {W W':World} {v:Value} {l:List Hi} (h:bm W v l) (k:aq W W'):bm W' v l:=by
 rcases h with h|⟨b,o,c,hv,hlt,hc⟩
 ·exact .inl h
 ·exact .inr ⟨b,o,c,hv,Q1 hlt k.size,λj hj=>⟨k.cell _ _ _ (hc j hj).1,k.cell _ _ _ (hc j hj).2⟩⟩
theorem KT {W:World} {ao:Option Addr} {n c g:Nat} {l:List Hi} (h:bm W (.slice ao n c) l) (hg:∀ b o,ao=some ⟨b,o,none⟩->b≠g):bm (ag (λb=>b=g) W) (.slice ao n c) l:=by
 rcases h with h|⟨b,o,c',hv,Ha,hc⟩
 ·exact .inl h
 ·refine .inr ⟨b,o,c',hv,by rw [bH];exact Ha,λj hj=>?_⟩;injection hv with hv
  have hb:=hg b o hv;have e:∀ k,(ag (λb=>b=g) W).cell? ⟨b,k,none⟩=W.cell? ⟨b,k,none⟩:=λk=>World.cell?_of_block (a:=⟨b,k,none⟩) (bZ hb)
  rw [e,e];exact hc j hj
def ev (x:Wi × Value):List Value:=[.bool x.1.any,x.2]
def wl (m:Ol.Mc) (s:Ol.Sk) (own:Int) (ns:List Nd) (k:Nat):List Wi:=Ol.cf m s own (ns.take k)
theorem KU (m:Ol.Mc) (s:Ol.Sk) (own:Int) {ns:List Nd} {k:Nat} (h:k<ns.length):wl m s own ns (k+1)=wl m s own ns k++[Ol.b7 (Ol.iM (fits s.ds s.us (nd ns k).kind) s.ds) (Ol.iM (bD s.ds (nd ns k).kind) s.ds) m.nd (nd ns k).many]:=by
 unfold wl Ol.cf;rw [Qa h,Qj,List.cons_append]
 simp [nd,h]
theorem KV:(prog.info? 270).map (λi=>(i.zero,i.size,i.bytes))=some (some (.agg #[.bool false,.slice none 0 0]),2,32):=by kernel_rfl
theorem KW (w:World) (x:Wi × Value) (t:TypeId):∀ j u,(ev x)[j]?=some u->(w.alloc (.cells #[.bool x.1.any,x.2] t)).cell? ((⟨w.heap.size,0,none⟩:Addr).add j)=some u:=by
 intro j u hu;rw [Addr.add_lit,Qd]
 match j,hu with
 | 0,hu=>simp [ev] at hu;subst hu;simp
 | 1,hu=>simp [ev] at hu;subst hu;simp
 | n+2,hu=>simp [ev] at hu
theorem KX (y:Wi) (a:Option Addr) (n c:Nat):∀ u∈ev (y,.slice a n c),u.oneCell'=true:=by
 intro u hu
 simp [ev] at hu
 rcases hu with rfl|rfl <;> rfl
theorem KY {W W':World} {base:Nat} {e:TypeId} {sz g n cap:Nat} {xs:List Value} (h:W.ownsRow base e sz (.slice (some ⟨g,0,none⟩) n cap) n xs) (hb:W'.heap[g]?=W.heap[g]?):W'.ownsRow base e sz (.slice (some ⟨g,0,none⟩) n cap) n xs:=by
 obtain ⟨h1,h2|⟨g2,c2,cur,hv,r1,r2,r3⟩⟩:=h
 ·exact ⟨h1,.inl h2⟩
 ·injection hv with e1 e2 e3
  injection e1 with e1
  injection e1 with e1
  subst e1;exact ⟨h1,.inr ⟨g,c2,cur,by rw [e3],r1,hb.trans r2,r3⟩⟩
theorem KZ {W:World} {base g cap:Nat} {l:List (Wi × Value)} (h:W.ownsRow base 270 2 (.slice (some ⟨g,0,none⟩) l.length cap) l.length (l.flatMap ev)) (hh:∀ x∈l,bm W x.2 x.1.hs):fQ W (.slice (some ⟨g,0,none⟩) l.length cap) (l.map Prod.fst):=by
 refine .inr ⟨g,0,cap,by rw [Q9],(h.lt g rfl).2,λk hk=>?_⟩;rw [Q9] at hk;have e:(l.map Prod.fst).getD k wi0=l[k].1:=by simp [hk]
 have key:∀ (l:List (Wi × Value)) (k:Nat) (hk:k<l.length) (j:Nat),j<2->(l.flatMap ev)[k*2+j]?=(ev l[k])[j]?:=by
  intro l
  induction l with
  | nil=>intro k hk;simp at hk
  | cons a l ih=>
   intro k hk j hj;rw [List.flatMap_cons];cases k with
   | zero=>rw [List.getElem?_append_left (by simp [ev];omega)];simp
   | succ k=>
    rw [List.getElem?_append_right (by simp [ev];omega)]
    have:=ih k (by simpa using hk) j hj
    simp only [List.getElem_cons_succ];rw [<- this]
    congr 1
    simp [ev]
    omega
 have k0:=key l k hk 0 (by decide);have k1:=key l k hk 1 (by decide);rw [e,Qd];refine ⟨?_,l[k].2,?_,hh _ (List.getElem_mem hk)⟩
 ·rw [h.cellAt (k*2) (by omega)];exact k0
 ·rw [h.cellAt (k*2+1) (by omega)];exact k1
structure cK (w:World) (tb b o c:Nat) (m:Ol.Mc):Prop where
 topo:ba w tb b o c m.l
 good:Good m.l
 op:m.op<18446744073709551616
 nd:1<=m.nd/\m.nd<=15
 pol:0<=m.pol/\m.pol<=3
theorem cK.below {w w':World} {tb b o c:Nat} {m:Ol.Mc} (h:cK w tb b o c m) (hb:Below w.heap.size w w'):cK w' tb b o c m:=⟨h.topo.below hb,h.good,h.op,h.nd,h.pol⟩
structure dj (w:World) (pb db:Nat) (ao:Option Addr) (c:Nat) (s:Ol.Sk):Prop where
 pool:ak w pb db ao c s.ds s.us
 nodes:aW s.ds
 cp:s.cp<18446744073709551616
theorem dj.below {w w':World} {pb db:Nat} {ao:Option Addr} {c:Nat} {s:Ol.Sk} (h:dj w pb db ao c s) (hb:Below w.heap.size w w'):dj w' pb db ao c s:=⟨h.pool.below hb,h.nodes,h.cp⟩
def mV (m:Ol.Mc) (tb:Nat):Value:=.agg #[.pointer (some ⟨tb,0,none⟩),.int .u64 m.op,.int .u8 m.nd,.int .i64 m.nb,.int .i64 m.pol]
def sV (s:Ol.Sk) (pb:Nat):Value:=.agg #[.int .u64 s.cp,.pointer (some ⟨pb,0,none⟩)]
abbrev iZ:=λ(x0:Nat) (x1:Ol.Mc)=>(.cells #[.pointer (some ⟨x0,0,none⟩),.int .u64 x1.op,.int .u8 x1.nd,.int .i64 x1.nb,.int .i64 x1.pol] 95:Obj)
abbrev iu:=λ(x0 x1 x2 x3:Int)=>(.cells #[.int .i64 x0,.int .i64 x1,.int .i64 x2,.int .i64 x3] 214:Obj)
abbrev i6:=λ(x0:Ol.Sk) (x1:Nat)=>(.cells #[.int .u64 x0.cp,.pointer (some ⟨x1,0,none⟩)] 98:Obj)
abbrev jI:=λ(x0:Qos.Nd)=>(.cells #[.string x0.kind,.int .i64 x0.many] 109:Obj)
abbrev K0:=λ(B tb:Nat) (m:Ol.Mc) (s:Ol.Sk) (w':World)=>w'.cell? ⟨B,0,none⟩=some (.pointer (some ⟨tb,0,none⟩))/\w'.cell? ⟨B,1,none⟩=some (.int .u64 m.op)/\w'.cell? ⟨B,2,none⟩=some (.int .u8 m.nd)/\w'.cell? ⟨B+1,0,none⟩=some (.int .u64 s.cp)
theorem zc (m:Ol.Mc) (s:Ol.Sk) (tb b o c pb db:Nat) (ao:Option Addr) (pc:Nat) (own:Int) (v:Value) (ns:List Nd) (w:World) (hm:cK w tb b o c m) (hs:dj w pb db ao pc s) (hv:be w v ns) (hl:ns.length<=100) :
  Calls prog 127 #[mV m tb,sV s pb,.int .i64 own,v] w λe w'=>∃ v',e=.returned v'/\fQ w' v' (Ol.cf m s own ns)/\Below w.heap.size w w':=by
 obtain ⟨i0,hi,he,ho,ht⟩:=info_parts KV;unfold mV sV;have HM:=qI hm;have Ht:=qI hs;obtain ⟨na,nc,rfl,hn,HL⟩:=hv;unfold maxLen at hn;have hh:=qI HL;have hD:=hm.nd;have sz:((w.alloc (iZ tb m)).alloc (i6 s pb)).heap.size=w.heap.size+2:=by simp
 have HX:=qI (aD (w.alloc (iZ tb m)) (i6 s pb) (n:=w.heap.size+1) (by simp));have HH:=qI (bj (aD w (iZ tb m) rfl) (i6 s pb));have hg:=qI (((Q0 w.heap.size w).alloc (lR) (iZ tb m)).alloc (by simp) (i6 s pb));have q0:((w.alloc (iZ tb m)).alloc (i6 s pb)).cell? ⟨w.heap.size,0,none⟩=some (.pointer (some ⟨tb,0,none⟩)):=aa HH.out 0;have q1:((w.alloc (iZ tb m)).alloc (i6 s pb)).cell? ⟨w.heap.size,1,none⟩=some (.int .u64 m.op):=aa HH.out 1;have q2:((w.alloc (iZ tb m)).alloc (i6 s pb)).cell? ⟨w.heap.size,2,none⟩=some (.int .u8 m.nd):=aa HH.out 2;have q3:((w.alloc (iZ tb m)).alloc (i6 s pb)).cell? ⟨w.heap.size+1,0,none⟩=some (.int .u64 s.cp):=aa HX.out 0;clear hm hs HL
 go_enter func127,ntmps127
 go_wp2_with fail
 generalize ((w.alloc (iZ tb m)).alloc (i6 s pb))=U at *;generalize hB:w.heap.size=B at *;have HQ:=qI (And.intro q0 (And.intro q1 (And.intro q2 q3)));have Hy:Hid (Below U.heap.size U U.drew):=a6 (Q0 _ _);clear q0 q1 q2 q3;have Hk:Hid (∀ W,Below U.heap.size U W->(K0 B tb m s) W):=λW hb=>⟨(hb.cell (p:=⟨B,0,none⟩) (by show B<_;omega)).trans HQ.out.1,(hb.cell (p:=⟨B,1,none⟩) (by show B<_;omega)).trans HQ.out.2.1,(hb.cell (p:=⟨B,2,none⟩) (by show B<_;omega)).trans HQ.out.2.2.1,(hb.cell (p:=⟨B+1,0,none⟩) (by show B+1<_;omega)).trans HQ.out.2.2.2⟩
 have Hu:Hid (∀ W,Below U.heap.size U W->Below w.heap.size w W):=λW hb=>(show Below w.heap.size w U from hB ▸ hg.out).trans (hb.mono (by omega))
 refine Qo (by kernel_rfl) (Hk.out _ Hy.out) λhQ=>?_;refine tk 0 ?_;refine tk 1 ?_;refine tk 2 ?_;refine tk 3 ?_;refine tk 5 ?_;refine tk 6 ?_;refine tk 7 ?_;refine tk 8 ?_;refine tk 10 ?_;refine tk 11 ?_;refine tk 12 ?_;refine rd 4 λK hK=>?_;go_simp
 go_wp2_with fail
 have HF:=kK s.cp tb b o c m.l _ (HM.out.below (Hu.out _ Hy.out)).topo Ht.out.cp HM.out.good;rw [yY] at HF;refine HF.mono ?_;rintro e W1 ⟨rfl,HV⟩;have Hn:=qI (Hy.out.trans (HV.mono (lR)));clear HF HV
 go_wp2
 refine hK.out _ _ (Hk.out _ Hn.out) λhQ=>?_;clear hK K;refine rd 9 λK hK=>?_;go_simp
 go_wp2_with fail
 have HJ:=kK m.op tb b o c m.l _ (HM.out.below (Hu.out _ Hn.out)).topo HM.out.op HM.out.good;rw [yY] at HJ;refine HJ.mono ?_;rintro e W2 ⟨rfl,Hi⟩;have Hf:=qI (Hn.out.trans (Hi.mono Hn.out.size));clear HJ Hi
 go_wp2
 refine hK.out _ _ (Hk.out _ Hf.out) λhQ=>?_;clear hK K;refine rd 13 λK hK=>?_;go_simp
 go_wp2_with fail
 refine (za (Ol.bu s.cp m.l) (Ol.bu m.op m.l) m.nd own _ (by omega) (y8 _ HM.out.topo.len) (y8 _ HM.out.topo.len)).mono ?_;rintro e W3 ⟨ha,hc,rfl,H0,H9,HW⟩;have Hb:=qI (Hf.out.trans (HW.mono Hf.out.size));have H2:=qI H0;clear HW H0 H9
 go_wp2
 refine hK.out _ _ (Hk.out _ Hb.out) λhQ=>?_;clear hK K;have Hm:=qI (Hb.out.alloc Hb.out.size (.cells #[.bool (Ol.b7 (Ol.bu s.cp m.l) (Ol.bu m.op m.l) m.nd own).any,.slice ha (Ol.b7 (Ol.bu s.cp m.l) (Ol.bu m.op m.l) m.nd own).hs.length hc] 270));refine rd 14 λK hK=>?_;go_simp
 go_wp2
 refine hK.out _ _ (Hk.out _ Hm.out) λhQ=>?_;clear hK K;refine tk 15 ?_;refine Qn (by kernel_rfl) ?_ _;clear hQ;have H8:=Hb.out.size;have Hh:=qI (show (W3.alloc (.cells #[.bool (Ol.b7 (Ol.bu s.cp m.l) (Ol.bu m.op m.l) m.nd own).any,.slice ha (Ol.b7 (Ol.bu s.cp m.l) (Ol.bu m.op m.l) m.nd own).hs.length hc] 270)).ownsRow U.heap.size 270 2 (.slice (some ⟨W3.heap.size,0,none⟩) 1 1) 1 (ev ((Ol.b7 (Ol.bu s.cp m.l) (Ol.bu m.op m.l) m.nd own),.slice ha (Ol.b7 (Ol.bu s.cp m.l) (Ol.bu m.op m.l) m.nd own).hs.length hc)) from World.ownsRow_lit W3 #[.bool (Ol.b7 (Ol.bu s.cp m.l) (Ol.bu m.op m.l) m.nd own).any,.slice ha (Ol.b7 (Ol.bu s.cp m.l) (Ol.bu m.op m.l) m.nd own).hs.length hc] 1 Hb.out.size (by unfold maxLen;omega) rfl);have Hz:Hid (bm (ag (λb=>b=W3.heap.size) (W3.alloc (.cells #[.bool (Ol.b7 (Ol.bu s.cp m.l) (Ol.bu m.op m.l) m.nd own).any,.slice ha (Ol.b7 (Ol.bu s.cp m.l) (Ol.bu m.op m.l) m.nd own).hs.length hc] 270))) (.slice ha (Ol.b7 (Ol.bu s.cp m.l) (Ol.bu m.op m.l) m.nd own).hs.length hc) (Ol.b7 (Ol.bu s.cp m.l) (Ol.bu m.op m.l) m.nd own).hs):=H2.out.le (mx (N:=W3.heap.size) ((Q0 _ _).alloc (lR) _) rfl (λj hj=>by omega));have hr:Hid (wl m s own ns 0=[(Ol.b7 (Ol.bu s.cp m.l) (Ol.bu m.op m.l) m.nd own)]):=by unfold Hid wl Ol.cf;simp
 generalize hWA:W3.alloc (.cells #[.bool (Ol.b7 (Ol.bu s.cp m.l) (Ol.bu m.op m.l) m.nd own).any,.slice ha (Ol.b7 (Ol.bu s.cp m.l) (Ol.bu m.op m.l) m.nd own).hs.length hc] 270)=WA at *;generalize hx0:(Ol.b7 (Ol.bu s.cp m.l) (Ol.bu m.op m.l) m.nd own)=x0 at *;generalize hg0:W3.heap.size=g0 at *;clear hWA hx0
 go_wp2
 go_loopw [9,31] (λpv i wr=>∃ (k g cap:Nat) (l:List (Wi × Value)),k<=ns.length/\i=.int .i64 k/\pv=.slice (some ⟨g,0,none⟩) l.length cap/\l.length=k+1/\l.map Prod.fst=wl m s own ns k/\wr.ownsRow U.heap.size 270 2 (.slice (some ⟨g,0,none⟩) l.length cap) l.length (l.flatMap ev)/\(∀ x∈l,bm (ag (λb=>b=g) wr) x.2 x.1.hs)/\Below U.heap.size U wr) (λ_ i _=>ns.length - (intOf i).toNat)
 case atStart=>exact ⟨0,g0,1,[(x0,.slice ha x0.hs.length hc)],by omega,rfl,rfl,rfl,by rw [hr.out];rfl,Hh.out,λx hx=>by rw [Qm.1 hx];exact Hz.out,Hm.out⟩
 case round=>
  obtain ⟨k,g,cap,l,hk,rfl,rfl,HP,HY,Hl,HS,hb⟩:=hrel;clear Hn Hf Hb Hm Hh Hz H2 Hy;have hq:=qI HP;have HZ:=qI HY;have Hr:=qI Hl;have H6:=qI HS;have HB:=qI hb;have hC:l.length<=101:=by omega
  have HT:=(Hl.lt g rfl);clear HP HY Hl HS
  by_cases hlt:k<ns.length
  ·obtain ⟨nb,no,rfl,Hq,HC⟩:=hh.out (by omega);have HI:=Hu.out _ hb;have c0:=(HI.cell (p:=⟨nb,no+k*2,none⟩) (by rw [hB];exact Hq)).trans (HC k hlt).1;have c1:=(HI.cell (p:=⟨nb,no+k*2+1,none⟩) (by rw [hB];exact Hq)).trans (HC k hlt).2;have H1:=qI (KU m s own hlt);have hH:(k:Int)<(ns.length:Int):=by omega
   clear HC HI;generalize nd ns k=x at *;have hp:=hb.size;have HA:=qI (hb.alloc hb.size (jI x));have hF:(wr.alloc (jI x)).heap.size=wr.heap.size+1:=by simp
   have HG:=qI (aD wr (jI x) rfl);have H4:=qI ((Q0 wr.heap.size wr).alloc (lR) (jI x));have a0:(wr.alloc (jI x)).cell? ⟨wr.heap.size,0,none⟩=some (.string x.kind):=aa HG.out 0;have s1:(wr.alloc (jI x)).cell? ⟨B+1,1,none⟩=some (.pointer (some ⟨pb,0,none⟩)):=aa ((HA.out.block (B+1) (by omega)).trans HX.out) 1;have Hx:=qI (Dd x.kind (wr.alloc (jI x)) pb db ao pc s.ds s.us (Ht.out.below (Hu.out _ HA.out)).pool Ht.out.nodes);have He:=qI λ(W:World)=>za (Ol.iM (fits s.ds s.us x.kind) s.ds) (Ol.iM (bD s.ds x.kind) s.ds) m.nd x.many W (by omega) (y9 _ Ht.out.nodes.1) (y9 _ Ht.out.nodes.1);unfold v4 Ol.iM at He;dsimp only at He;unfold Ol.iM at H1;unfold qj at Hx;dsimp only at Hx;generalize cn (fits s.ds s.us x.kind) s.ds 0 s.ds.length=f0 at *;generalize cn (fits s.ds s.us x.kind) s.ds 1 s.ds.length=f1 at *;generalize cn (fits s.ds s.us x.kind) s.ds 2 s.ds.length=f2 at *;generalize cn (fits s.ds s.us x.kind) s.ds 3 s.ds.length=f3 at *;generalize cn (bD s.ds x.kind) s.ds 0 s.ds.length=e0 at *;generalize cn (bD s.ds x.kind) s.ds 1 s.ds.length=e1 at *;generalize cn (bD s.ds x.kind) s.ds 2 s.ds.length=e2 at *;generalize cn (bD s.ds x.kind) s.ds 3 s.ds.length=e3 at *;generalize hy:Ol.b7 ⟨f0,f1,f2,f3⟩ ⟨e0,e1,e2,e3⟩ m.nd x.many=y at *;clear hb
   go_wp2_with fail
   generalize wr.alloc (jI x)=WB at *;refine Hx.out.mono ?_;rintro e W2 ⟨rfl,Hi⟩;have Hf:=qI (HA.out.trans (Hi.mono (by omega)));have HD:=qI ((Hi.block wr.heap.size (by omega)).trans HG.out);have HK:=qI (H4.out.trans (Hi.mono (by omega)));have hI:=Hi.size;clear Hx a0 s1 c0 c1 Hi HA HG H4;have Hw:=((Q0 W2.heap.size W2).alloc (lR) (iu f0 f1 f2 f3)).alloc (by simp) (iu e0 e1 e2 e3);have hL:((W2.alloc (iu f0 f1 f2 f3)).alloc (iu e0 e1 e2 e3)).heap.size=W2.heap.size+2:=by simp
   have Hb:=qI (Hf.out.trans (Hw.mono Hf.out.size));have HN:=qI (HK.out.trans (Hw.mono HK.out.size));have b1:W2.cell? ⟨wr.heap.size,1,none⟩=some (.int .i64 x.many):=aa HD.out 1;have b2:W2.cell? ⟨B,2,none⟩=some (.int .u8 m.nd):=(Hk.out _ Hf.out).2.2.1;have b3:((W2.alloc (iu f0 f1 f2 f3)).alloc (iu e0 e1 e2 e3)).cell? ⟨wr.heap.size,1,none⟩=some (.int .i64 x.many):=aa ((Hw.block wr.heap.size (by omega)).trans HD.out) 1;have b4:((W2.alloc (iu f0 f1 f2 f3)).alloc (iu e0 e1 e2 e3)).cell? ⟨B,2,none⟩=some (.int .u8 m.nd):=(Hk.out _ Hb.out).2.2.1;clear Hw HD Hf HK
   go_wp2_with fail
   generalize ((W2.alloc (iu f0 f1 f2 f3)).alloc (iu e0 e1 e2 e3))=W3 at *;refine (He.out W3).mono ?_;rintro e W4 ⟨Hc,Hg,rfl,H7,HR,Hv⟩;have Hm:=qI (Hb.out.trans (Hv.mono Hb.out.size));have Hp:=qI (HN.out.trans (Hv.mono HN.out.size));have Hz:Hid (bm (ag (λb=>b=g) W4) (.slice Hc y.hs.length Hg) y.hs):=KT H7 (λb o hbo=>by have:=HR b o hbo;omega);have Ho:=qI (show W4.ownsRow U.heap.size 270 2 (.slice (some ⟨g,0,none⟩) l.length cap) l.length (l.flatMap ev) from KY Hr.out (Hp.out.block g HT.2));have hE:=Hv.size;have HU:=qI (KW W4 (y,.slice Hc y.hs.length Hg) 270);dsimp only at HU;have hf:U.heap.size<=(W4.alloc (.cells #[.bool y.any,.slice Hc y.hs.length Hg] 270)).heap.size:=by simp;omega
   clear b1 b2 b3 b4 H7 Hv HR He
   go_wp2_with (at_builtin;refine wpList_append_lies _ rfl _ _ 226 rfl U.heap.size 270 i0 (.agg #[.bool false,.slice none 0 0]) 2 32 underlying226 hi he ho ht rfl (by decide) _ _ _ rfl (Ho.out.alloc _) ⟨_,0,none⟩ 1 1 (ev (y,.slice Hc y.hs.length Hg)) rfl rfl HU.out (KX _ _ _ _) (by decide) (by unfold maxLen;omega) (by omega) hf (W4.heap.size+1) (by simp) ?_;intro g' cap' W6 Hj Ha HO hA)
   have hw:(W4.alloc (.cells #[.bool y.any,.slice Hc y.hs.length Hg] 270)).heap.size=W4.heap.size+1:=by simp
   have H3:Hid (∀ j,j<W4.heap.size->j≠g->W6.heap[j]?=W4.heap[j]?):=λj hj hne=>(Ha.block j (by omega) λe=>hne (by injection e)).trans (Below.heap_alloc _ _ _ hj)
   have hJ:g'=g\/g'=W4.heap.size+1:=by rcases HO with h|h;exact .inl (by injection h with h;exact h.symm);exact .inr h
   have hG:=Ha.size;have Hs:Hid (W6.ownsRow U.heap.size 270 2 (.slice (some ⟨g',0,none⟩) (l++[(y,Value.slice Hc y.hs.length Hg)]).length cap') (l++[(y,Value.slice Hc y.hs.length Hg)]).length ((l++[(y,Value.slice Hc y.hs.length Hg)]).flatMap ev)):=by
    unfold Hid;rw [Q2,List.flatMap_append]
    simpa using Hj
   have hu:=qI ((Hm.out.alloc Hm.out.size _).grown Ha (by omega) (λj hj=>by cases hj;exact HT.1));clear Hj Ha HO
   go_roundw
   case rel=>
    refine ⟨k+1,g',cap',l++[(y,Value.slice Hc y.hs.length Hg)],by omega,by go_num,by rw [Q2];rfl,by rw [Q2,hq.out];rfl,by rw [Qj,HZ.out,H1.out];rfl,Hs.out,λz hz=>?_,hu.out⟩
    rcases Qi.1 hz with hz|hz
    ·refine (H6.out z hz).le (bE (λj hj hne=>⟨by have:=Hp.out.size;omega,?_⟩) (by have:=Hp.out.size;omega));rw [H3.out j (by have:=Hp.out.size;omega) hne];exact Hp.out.block j hj
    ·rw [Qm.1 hz];exact Hz.out.le (bE (λj hj hne=>⟨by omega,H3.out j hj hne⟩) (by omega))
   case measure=>simp [intOf];omega
  ·have H5:k=ns.length:=by omega
   have HE:Hid (fQ wr (.slice (some ⟨g,0,none⟩) l.length cap) (Ol.cf m s own ns)):=by
    unfold Hid;have e:Ol.cf m s own ns=l.map Prod.fst:=by rw [HZ.out,H5,wl,Qh]
    rw [e];exact KZ Hr.out λx hx=>(H6.out x hx).le (cC _ _)
   clear H5
   go_wp2
   go_ret;exact ⟨_,rfl,HE.out,Hu.out _ HB.out⟩
end
