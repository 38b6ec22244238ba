import Derived.Test.YtbmmnflgnmjboaaGreatDoorA5
set_option maxRecDepth 100000
set_option maxHeartbeats 16000000
namespace Go.Proofs.YtbmmnflgnmjboaaGreatDoor
section
open RowKit
open Ost (N4 sumTo df Sm pop8 gZ bL eC cR iK)
theorem KK {q:N4} {many:Int} {l:List Nat} {k:Nat} (h:decide (many<=df q (l.getD k 0))=true):eC q many l (k+1)=min (eC q many l k) (pop8 (l.getD k 0)):=by rw [eC,if_pos h]
theorem KL {q:N4} {many:Int} {l:List Nat} {k:Nat} (h:decide (many<=df q (l.getD k 0))=false):eC q many l (k+1)=eC q many l k:=by rw [eC,if_neg (by rw [h];simp)]
theorem KM {free all:N4} {many:Int} {few:Nat} {l:List Nat} {k:Nat} (h:decide (many<=df free (l.getD k 0))=true):cR free all many few l (k+1)=cR free all many few l k++[(l.getD k 0,iK all many few (l.getD k 0))]:=by rw [cR,if_pos h]
theorem KN {free all:N4} {many:Int} {few:Nat} {l:List Nat} {k:Nat} (h:decide (many<=df free (l.getD k 0))=false):cR free all many few l (k+1)=cR free all many few l k:=by rw [cR,if_neg (by rw [h];simp)]
theorem yZ {nodes k:Nat} {L:List Nat} (hL:L=bL nodes 16) (hk:k<L.length):L.getD k 0<256:=by
 have:L.getD k 0∈bL nodes 16:=by rw [<- hL];simp [hk]
 have:=(Ost.tn this).1
 omega
theorem sj {w1 w2 w3 w4:World} {N Bw g g' cap' n m:Nat} {free all:N4} {many:Int} {L:List Nat} {xs:List Value} {b:Bool} {o:Obj} {v0:Value} (HE2:fy w2 N free all many) (HM2:jq w2 g L) (HB2:Below w1.heap.size w1 w2) (hBw:w1.heap.size<=Bw) (hN:N+4<=w1.heap.size) (hg:g<w1.heap.size) (hsz2:Bw+1<=w2.heap.size)
  (hb:Below w2.drew.heap.size w2.drew w3) (hb4:Below (Bw+1) (w3.alloc o) w4) (t0:w4.cell? ⟨Bw,0,none⟩=some (.bool false)) (t1:w4.cell? ⟨Bw,1,none⟩=some v0) (t2:w4.frozen? ⟨Bw,1,none⟩=false)
  (hown4:w4.ownsRow (Bw+1) 223 2 (.slice (some ⟨g',0,none⟩) (n+1) cap') (n+1) (xs++[.int .u8 m,.bool b])) :
  fy (w4.setCell ⟨Bw,1,none⟩ (.slice (some ⟨g',0,none⟩) (n+1) cap')) N free all many/\jq (w4.setCell ⟨Bw,1,none⟩ (.slice (some ⟨g',0,none⟩) (n+1) cap')) g L/\Below w1.heap.size w1 (w4.setCell ⟨Bw,1,none⟩ (.slice (some ⟨g',0,none⟩) (n+1) cap'))/\(w4.setCell ⟨Bw,1,none⟩ (.slice (some ⟨g',0,none⟩) (n+1) cap')).cell? ⟨Bw,0,none⟩=some (.bool false)/\(w4.setCell ⟨Bw,1,none⟩ (.slice (some ⟨g',0,none⟩) (n+1) cap')).cell? ⟨Bw,1,none⟩=some (.slice (some ⟨g',0,none⟩) (n+1) cap')/\(w4.setCell ⟨Bw,1,none⟩ (.slice (some ⟨g',0,none⟩) (n+1) cap')).frozen? ⟨Bw,1,none⟩=false/\(w4.setCell ⟨Bw,1,none⟩ (.slice (some ⟨g',0,none⟩) (n+1) cap')).ownsRow (Bw+1) 223 2 (.slice (some ⟨g',0,none⟩) (n+1) cap') (n+1) (xs++[.int .u8 m,.bool b])/\Bw+1<=(w4.setCell ⟨Bw,1,none⟩ (.slice (some ⟨g',0,none⟩) (n+1) cap')).heap.size:=by
 have h3:Below (Bw+1) w2 w3:=Below.mono ⟨hb.os,hb.tape,hb.output,hb.size,hb.block⟩ hsz2;have Ha:Bw+1<=w3.heap.size:=Q5 hsz2 hb.size;have h4:Below (Bw+1) w2 w4:=(h3.alloc Ha o).trans hb4;have h5:Below Bw w2 (w4.setCell ⟨Bw,1,none⟩ (.slice (some ⟨g',0,none⟩) (n+1) cap')):=(h4.mono (Nat.le_succ _)).setCell (lR) _;refine ⟨HE2.below h5 (by omega),HM2.below h5 (by omega),HB2.trans (h5.mono hBw),?_,?_,?_,ownsRow_setCell_below hown4 (Nat.lt_succ_self _) _,Q5 hsz2 h5.size⟩
 ·clear h5 h4 h3;go_simp
 ·clear h5 h4 h3;go_simp
 ·clear h5 h4 h3;go_simp
theorem KO (free all:N4) (nodes:Nat) (many:Int) (w:World) (hmany:0<many) (hn:nodes<256) (hf:Sm free) (ha:Sm all) :
  Calls Tryz.prog 162 #[v4 free,v4 all,.int .u8 nodes,.int .i64 many] w λe w'=>B6 w (Ost.eM free all nodes many) e w':=by
 have HE:=qI (fy.made w free all many);have HB:=qI (tN w free all many);have hc:=HE.out.m;have H9:=qI hf;have HH:=qI ha;have hr:∀ (fn:Fn) (first cap:Array Value) (w:World),(Instr.makeFunc fn first cap).run Tryz.prog w=.ok (.func fn first cap) w:=λ_ _ _ _=>rfl
 unfold Ost.eM Ost.few;obtain ⟨L,hL⟩:∃ L,L=bL nodes 16:=⟨_,rfl⟩;rw [<- hL];obtain ⟨F,hF⟩:∃ F,F=eC all many L L.length:=⟨_,rfl⟩;rw [<- hF];have hm:=qI hF;have ho:F<=4:=by rw [hF];exact Ost.tr all many L L.length
 clear hF;have HL:=qI hL;have hq:L.length<=16:=by rw [hL];exact Ost.pI nodes 16
 clear hf ha hL;unfold nP v4 at *
 go_enter Tryz.func162,Tryz.ntmps162
 go_wp2_with fail
 refine (B4 nodes _ hn).mono ?_;rintro e w1 ⟨v,rfl,hM,HJ⟩;have H0:=qI (HB.out.trans (HJ.mono HB.out.size));have HD:=qI (HE.out.below HJ HE.out.lt);have HM:=qI hM;have Hu:w.heap.size+4<=w1.heap.size:=Q5 HE.out.lt HJ.size;clear hM HJ HE HB hc;rw [<- HL.out] at HM
 rcases HM.out with ⟨rfl,ao,c,rfl⟩|⟨g,c,rfl,hg,H2⟩
 ·-- no masks at all
  clear HM;have HT:=H0.out.alloc (by omega) (.cells #[.bool false,.slice none 0 0] 270);have Hy:=HD.out.below ((Q0 w1.heap.size w1).alloc (lR) (.cells #[.bool false,.slice none 0 0] 270)) HD.out.lt;have r0:(w1.alloc (.cells #[.bool false,.slice none 0 0] 270)).cell? ⟨w.heap.size+1+1+1,0,none⟩=some (.bool false):=Hy.r0;have r1:(w1.alloc (.cells #[.bool false,.slice none 0 0] 270)).cell? ⟨w.heap.size+1+1+1,1,none⟩=some (.slice none 0 0):=Hy.r1;have z0:(w1.alloc (.cells #[.bool false,.slice none 0 0] 270)).frozen? ⟨w.heap.size+1+1+1,0,none⟩=false:=Hy.z0;have z1:(w1.alloc (.cells #[.bool false,.slice none 0 0] 270)).frozen? ⟨w.heap.size+1+1+1,1,none⟩=false:=Hy.z1;have HT:=qI HT;clear Hy
  go_wp2
  go_loopw [11,25] (λt i wr=>i=.int .i64 0/\wr=w1) (λ_ _ _=>0)
  case atStart=>exact ⟨rfl,rfl⟩
  case round=>
   obtain ⟨rfl,rfl⟩:=hrel
   go_wp2
   go_loopw [40] (λi wq=>i=.int .i64 0/\wq=wr.alloc (.cells #[.bool false,.slice none 0 0] 270)) (λ_ _=>0)
   case atStart=>exact ⟨rfl,rfl⟩
   case round=>
    obtain ⟨rfl,rfl⟩:=hrel
    go_wp2_with fail
    (try simp only [Exit.inBlock,Exit.then]);refine bodyPost_ret (v:=.agg #[.bool false,.slice none 0 0]) ?_ rfl ⟨_,rfl,.inl ⟨rfl,none,0,rfl⟩,(λ_ _ _ _ h=>by cases h),?_⟩
    ·rw [nK rfl];go_simp
    ·exact ((HT.out.setCell (by show w.heap.size<=w.heap.size+1+1+1;omega) _).setCell (by show w.heap.size<=w.heap.size+1+1+1;omega) _)
 ·have H3:Hid (jq w1 g L):=H2;have HG:=qI hg;clear H2 hg HM
  go_wp2
  go_loopw [11,25] (λt i wr=>∃ k:Nat,k<=L.length/\i=.int .i64 k/\t=.int .i64 (eC all many L k:Nat)/\Hid (fy wr w.heap.size free all many)/\Hid (jq wr g L)/\Hid (Below w1.heap.size w1 wr)) (λ_ i _=>L.length - (intOf i).toNat)
  case atStart=>exact ⟨0,by omega,rfl,rfl,HD.out,H3.out,Q0 _ _⟩
  case round=>
   obtain ⟨k,hk,rfl,rfl,Hf,Hn,Hm⟩:=hrel
   by_cases hlt:k<L.length
   ·have Hk:=Hn.out k hlt;have Hc:=yZ HL.out hlt;have HY:=qI (λh=>KK (q:=all) (many:=many) (l:=L) (k:=k) h);have HN:=qI (λh=>KL (q:=all) (many:=many) (l:=L) (k:=k) h);have hle:=Ost.tr all many L k;generalize L.getD k 0=m at *;have c0:=Hf.out.a.c0;have c1:=Hf.out.a.c1;have c2:=Hf.out.a.c2;have c3:=Hf.out.a.c3;have Hh:=qI (pN all m many (w.heap.size+2) wr Hc HH.out Hf.out.m);unfold v4 at Hh;have HF:=qI (lV m);have H8:=Ost.jp m
    go_wp2_with fail
    refine Hh.out.mono ?_;rintro e w2 ⟨rfl,hb⟩;have Hw:w1.heap.size<=wr.heap.size:=Hm.out.size;have Hi:=qI (Hf.out.below hb (by have:=Hf.out.lt;omega));have Hq:=qI (Hn.out.below hb (by have:=HG.out;omega));have Hr:=qI (Hm.out.trans (hb.mono Hw));clear hb Hf Hn Hm Hh c0 c1 c2 c3 Hk
    rcases two (decide (many<=df all m)) with hb|hb
    ·have HO:=qI (HY.out hb);rw [hb];clear hb HY HN
     go_wp2_with fail
     refine (HF.out _ Hc).mono ?_;rintro e w3 ⟨rfl,rfl⟩;generalize pop8 m=p at *;generalize eC all many L k=f0 at *
     by_cases Ho:f0<=p
     ·have Hs:Hid (min f0 p=f0):=by unfold Hid;omega
      go_wp2
      go_roundw
      case rel=>exact ⟨k+1,by omega,by go_num,by (rw [HO.out,Hs.out];first|done|exact congrArg (Value.int .i64) (by omega)),Hi,Hq,Hr⟩
      case measure=>simp [intOf];omega
     ·have Hs:Hid (min f0 p=p):=by unfold Hid;omega
      go_wp2
      go_roundw
      case rel=>exact ⟨k+1,by omega,by go_num,by (rw [HO.out,Hs.out];first|done|exact congrArg (Value.int .i64) (by omega)),Hi,Hq,Hr⟩
      case measure=>simp [intOf];omega
    ·have HO:=qI (HN.out hb);rw [hb];clear hb HY HN
     go_wp2
     go_roundw
     case rel=>exact ⟨k+1,by omega,by go_num,by rw [HO.out],Hi,Hq,Hr⟩
     case measure=>simp [intOf];omega
   ·have HP:k=L.length:=by omega
    subst HP;clear hk hlt;have H4:=Hf.out.below ((Q0 wr.heap.size wr).alloc (lR) (.cells #[.bool false,.slice none 0 0] 270)) Hf.out.lt;have Hw:w1.heap.size<=wr.heap.size:=Hm.out.size;have H5:=Hn.out.below ((Q0 wr.heap.size wr).alloc (lR) (.cells #[.bool false,.slice none 0 0] 270)) (by have:=HG.out;omega);have H6:=Hm.out.alloc Hw (.cells #[.bool false,.slice none 0 0] 270);have HI:=qI (show (wr.alloc (.cells #[.bool false,.slice none 0 0] 270)).cell? ⟨wr.heap.size,0,none⟩=some (.bool false)/\(wr.alloc (.cells #[.bool false,.slice none 0 0] 270)).cell? ⟨wr.heap.size,1,none⟩=some (.slice none 0 0)/\(wr.alloc (.cells #[.bool false,.slice none 0 0] 270)).frozen? ⟨wr.heap.size,1,none⟩=false by simp);have HW:=qI H4;have HV:=qI H5;have HZ:=qI H6;have Hv:=qI Hw;clear H4 H5 H6 Hf Hn Hm Hw HD H3;rw [<- hm.out]
    go_wp2_with fail
    generalize hBw:wr.heap.size=Bw at *
    go_loopw [40] (λi wq=>∃ (k:Nat) (v:Value),k<=L.length/\i=.int .i64 k/\Hid (fy wq w.heap.size free all many)/\Hid (jq wq g L)/\Hid (Below w1.heap.size w1 wq)/\wq.cell? ⟨Bw,0,none⟩=some (.bool false)/\wq.cell? ⟨Bw,1,none⟩=some v/\wq.frozen? ⟨Bw,1,none⟩=false/\Hid (wq.ownsRow (Bw+1) 223 2 v (cR free all many F L k).length (dM (cR free all many F L k)))/\Bw+1<=wq.heap.size) (λi _=>L.length - (intOf i).toNat)
    case atStart=>exact ⟨0,.slice none 0 0,by omega,rfl,HW.out,HV.out,HZ.out,HI.out.1,HI.out.2.1,HI.out.2.2,Qw _ _ _ _,by simp;omega⟩
    case round=>
     obtain ⟨k,v,hk,rfl,Hf,Hn,Hm,x0,x1,x2,HR,Hx⟩:=hrel;clear HW HV HZ HI
     by_cases hlt:k<L.length
     ·have Hk:=Hn.out k hlt;have Hc:=yZ HL.out hlt;have HY:=qI (λh=>KM (free:=free) (all:=all) (many:=many) (few:=F) (l:=L) (k:=k) h);have HN:=qI (λh=>KN (free:=free) (all:=all) (many:=many) (few:=F) (l:=L) (k:=k) h);have hle:=Ost.tt free all many F L k;generalize L.getD k 0=m at *;have c0:=Hf.out.f.c0;have c1:=Hf.out.f.c1;have c2:=Hf.out.f.c2;have c3:=Hf.out.f.c3;have Hh:=qI (pN free m many (w.heap.size+2) wr Hc H9.out Hf.out.m);unfold v4 at Hh
      go_wp2_with fail
      refine Hh.out.mono ?_;rintro e w2 ⟨rfl,hb⟩;have Hi:=qI (Hf.out.below hb (by have:=Hf.out.lt;omega));have Hq:=qI (Hn.out.below hb (by have:=HG.out;have:=Hv.out;omega));have Hr:=qI (Hm.out.trans (hb.mono (by have:=Hv.out;omega)));have y0:=(hb.cell (p:=⟨Bw,0,none⟩) Hx).trans x0;have y1:=(hb.cell (p:=⟨Bw,1,none⟩) Hx).trans x1;have y2:=(hb.frozen (p:=⟨Bw,1,none⟩) Hx).trans x2;have HC:Hid (w2.ownsRow (Bw+1) 223 2 v (cR free all many F L k).length (dM (cR free all many F L k))):=HR.out.kept (row:=none) ⟨hb.os,hb.tape,hb.output,hb.size,λj hj _=>hb.block j hj⟩ (by cases hv:v.ownBlock <;> simp);have Hb:=Q5 Hx hb.size;clear hb Hf Hn Hm Hh c0 c1 c2 c3 Hk x0 x1 x2 HR Hx
      rcases two (decide (many<=df free m)) with hb|hb
      ·have HO:=qI (HY.out hb);rw [hb];clear hb HY HN;obtain ⟨ao,cc,rfl⟩:=gD HC.out;have Hh:=qI (pN all m many (w.heap.size+2));have HF:=qI (lV m);have c0:=Hi.out.a.c0;have c1:=Hi.out.a.c1;have c2:=Hi.out.a.c2;have c3:=Hi.out.a.c3;have HS:=qI Hi.out.m;unfold v4 at Hh;obtain ⟨i0,hi,HQ,HU,HK⟩:=info_parts tM;have H8:=Ost.jp m;have Ht:Hid (iK all many F m=(decide (many<=df all m) && decide (pop8 m=F))):=rfl;generalize iK all many F m=gd at *
       rcases two (decide (many<=df all m)) with he|he
       ·rw [he] at Hh Ht
        rcases two (decide (pop8 m=F)) with Ho|Ho
        ·have Hz:Hid (gd=true):=by unfold Hid;rw [Ht.out,Ho];rfl
         have H7:((pop8 m:Int) == (F:Int))=true:=by rw [beq_iff_eq];have:=of_decide_eq_true Ho;omega
         clear Ht he Ho;generalize pop8 m=p8 at *
         go_wp2_with fail
         first
          | (go_region_law (first
           | (refine step_append_lies _ rfl _ _ 266 rfl (Bw+1) 223 i0 (.agg #[.int .u8 0,.bool false]) 2 2 Tryz.underlying266 hi HQ HU HK rfl (by decide) _ _ _ rfl (Hp.out.alloc _) ⟨w3.heap.size,0,none⟩ 1 1 [.int .u8 m,.bool true] rfl rfl (by intro j u hj;match j,hj with|0,hj=>(simp at hj;subst hj;simp [Addr.add])|1,hj=>(simp at hj;subst hj;simp [Addr.add])) (by intro u hu;simp at hu;rcases hu with rfl|rfl <;> rfl) (by decide) (by unfold maxLen;omega) (by omega) (by simp;omega) _ rfl ?_;intro g' cap' w4 He Ha Hl Hj;have Hg:=Below.grown (Q0 (Bw+1) _) Ha (by simp;omega) (λk hk=>(Hp.out.lt k hk).1);have t0:=(Hg.cell (p:=⟨Bw,0,none⟩) (Nat.lt_succ_self _)).trans y0'';have t1:=(Hg.cell (p:=⟨Bw,1,none⟩) (Nat.lt_succ_self _)).trans y1'';have t2:=(Hg.frozen (p:=⟨Bw,1,none⟩) (Nat.lt_succ_self _)).trans y2'')
           | (go_simp;go_at_call 200;refine (Hh.out _ Hc HH.out ?_).mono ?_;exact HS.out;rintro e w3 ⟨rfl,hb⟩;have y0':=(hb.cell (p:=⟨Bw,0,none⟩) Hb).trans y0;have y1':=(hb.cell (p:=⟨Bw,1,none⟩) Hb).trans y1;have y2':=(hb.frozen (p:=⟨Bw,1,none⟩) Hb).trans y2;have y0'':=fa y0' (.cells #[.int .u8 m,.bool true] 223);have y1'':=fa y1' (.cells #[.int .u8 m,.bool true] 223);have y2'':=pO y1' y2' (.cells #[.int .u8 m,.bool true] 223);have Hp:=qI (iL HC.out.drew hb);have HA:=Q5 Hb hb.size)
           | (go_simp;go_at_call 199;refine (HF.out _ Hc).mono ?_;rintro e w5 ⟨rfl,hh⟩;subst w5)))
          | fail
         all_goals
          have HX:=qI (sj Hi.out Hq.out Hr.out Hv.out Hu HG.out Hb hb Hg t0 t1 t2 He);clear hb Hg t0 t1 t2 He Ha y0 y1 y2 Hl Hj
          go_wp2
          go_roundw
          case rel=>
           obtain ⟨q1,q2,q3,q4,q5,q6,q7,q8⟩:=HX.out;exact ⟨k+1,_,by omega,by go_num,q1,q2,q3,q4,q5,q6,by rw [HO.out,Hz.out,Q2,nO];exact q7,q8⟩
          case measure=>simp [intOf];omega
        ·have Hz:Hid (gd=false):=by unfold Hid;rw [Ht.out,Ho];rfl
         have H7:((pop8 m:Int) == (F:Int))=false:=by rw [Qr];have:=of_decide_eq_false Ho;omega
         clear Ht he Ho;generalize pop8 m=p8 at *
         go_wp2_with fail
         first
          | (go_region_law (first
           | (refine step_append_lies _ rfl _ _ 266 rfl (Bw+1) 223 i0 (.agg #[.int .u8 0,.bool false]) 2 2 Tryz.underlying266 hi HQ HU HK rfl (by decide) _ _ _ rfl (Hp.out.alloc _) ⟨w3.heap.size,0,none⟩ 1 1 [.int .u8 m,.bool false] rfl rfl (by intro j u hj;match j,hj with|0,hj=>(simp at hj;subst hj;simp [Addr.add])|1,hj=>(simp at hj;subst hj;simp [Addr.add])) (by intro u hu;simp at hu;rcases hu with rfl|rfl <;> rfl) (by decide) (by unfold maxLen;omega) (by omega) (by simp;omega) _ rfl ?_;intro g' cap' w4 He Ha Hl Hj;have Hg:=Below.grown (Q0 (Bw+1) _) Ha (by simp;omega) (λk hk=>(Hp.out.lt k hk).1);have t0:=(Hg.cell (p:=⟨Bw,0,none⟩) (Nat.lt_succ_self _)).trans y0'';have t1:=(Hg.cell (p:=⟨Bw,1,none⟩) (Nat.lt_succ_self _)).trans y1'';have t2:=(Hg.frozen (p:=⟨Bw,1,none⟩) (Nat.lt_succ_self _)).trans y2'')
           | (go_simp;go_at_call 200;refine (Hh.out _ Hc HH.out ?_).mono ?_;exact HS.out;rintro e w3 ⟨rfl,hb⟩;have y0':=(hb.cell (p:=⟨Bw,0,none⟩) Hb).trans y0;have y1':=(hb.cell (p:=⟨Bw,1,none⟩) Hb).trans y1;have y2':=(hb.frozen (p:=⟨Bw,1,none⟩) Hb).trans y2;have y0'':=fa y0' (.cells #[.int .u8 m,.bool false] 223);have y1'':=fa y1' (.cells #[.int .u8 m,.bool false] 223);have y2'':=pO y1' y2' (.cells #[.int .u8 m,.bool false] 223);have Hp:=qI (iL HC.out.drew hb);have HA:=Q5 Hb hb.size)
           | (go_simp;go_at_call 199;refine (HF.out _ Hc).mono ?_;rintro e w5 ⟨rfl,hh⟩;subst w5)))
          | fail
         all_goals
          have HX:=qI (sj Hi.out Hq.out Hr.out Hv.out Hu HG.out Hb hb Hg t0 t1 t2 He);clear hb Hg t0 t1 t2 He Ha y0 y1 y2 Hl Hj
          go_wp2
          go_roundw
          case rel=>
           obtain ⟨q1,q2,q3,q4,q5,q6,q7,q8⟩:=HX.out;exact ⟨k+1,_,by omega,by go_num,q1,q2,q3,q4,q5,q6,by rw [HO.out,Hz.out,Q2,nO];exact q7,q8⟩
          case measure=>simp [intOf];omega
       ·have Hz:Hid (gd=false):=by unfold Hid;rw [Ht.out,he];rfl
        rw [he] at Hh;clear Ht he
        go_wp2_with fail
        first
         | (go_region_law (first
          | (refine step_append_lies _ rfl _ _ 266 rfl (Bw+1) 223 i0 (.agg #[.int .u8 0,.bool false]) 2 2 Tryz.underlying266 hi HQ HU HK rfl (by decide) _ _ _ rfl (Hp.out.alloc _) ⟨w3.heap.size,0,none⟩ 1 1 [.int .u8 m,.bool false] rfl rfl (by intro j u hj;match j,hj with|0,hj=>(simp at hj;subst hj;simp [Addr.add])|1,hj=>(simp at hj;subst hj;simp [Addr.add])) (by intro u hu;simp at hu;rcases hu with rfl|rfl <;> rfl) (by decide) (by unfold maxLen;omega) (by omega) (by simp;omega) _ rfl ?_;intro g' cap' w4 He Ha Hl Hj;have Hg:=Below.grown (Q0 (Bw+1) _) Ha (by simp;omega) (λk hk=>(Hp.out.lt k hk).1);have t0:=(Hg.cell (p:=⟨Bw,0,none⟩) (Nat.lt_succ_self _)).trans y0'';have t1:=(Hg.cell (p:=⟨Bw,1,none⟩) (Nat.lt_succ_self _)).trans y1'';have t2:=(Hg.frozen (p:=⟨Bw,1,none⟩) (Nat.lt_succ_self _)).trans y2'')
          | (go_simp;go_at_call 200;refine (Hh.out _ Hc HH.out ?_).mono ?_;exact HS.out;rintro e w3 ⟨rfl,hb⟩;have y0':=(hb.cell (p:=⟨Bw,0,none⟩) Hb).trans y0;have y1':=(hb.cell (p:=⟨Bw,1,none⟩) Hb).trans y1;have y2':=(hb.frozen (p:=⟨Bw,1,none⟩) Hb).trans y2;have y0'':=fa y0' (.cells #[.int .u8 m,.bool false] 223);have y1'':=fa y1' (.cells #[.int .u8 m,.bool false] 223);have y2'':=pO y1' y2' (.cells #[.int .u8 m,.bool false] 223);have Hp:=qI (iL HC.out.drew hb);have HA:=Q5 Hb hb.size)))
         | fail
        all_goals
         have HX:=qI (sj Hi.out Hq.out Hr.out Hv.out Hu HG.out Hb hb Hg t0 t1 t2 He);clear hb Hg t0 t1 t2 He Ha y0 y1 y2 Hl Hj
         go_wp2
         go_roundw
         case rel=>
          obtain ⟨q1,q2,q3,q4,q5,q6,q7,q8⟩:=HX.out;exact ⟨k+1,_,by omega,by go_num,q1,q2,q3,q4,q5,q6,by rw [HO.out,Hz.out,Q2,nO];exact q7,q8⟩
         case measure=>simp [intOf];omega
      ·have HO:=qI (HN.out hb);rw [hb];clear hb HY HN
       go_wp2
       go_roundw
       case rel=>exact ⟨k+1,v,by omega,by go_num,Hi,Hq,Hr,y0,y1,y2,by rw [HO.out];exact HC,Hb⟩
       case measure=>simp [intOf];omega
     ·have HP:k=L.length:=by omega
      subst HP;clear hk hlt;have r0:wr.cell? ⟨w.heap.size+1+1+1,0,none⟩=some (.bool false):=Hf.out.r0;have r1:wr.cell? ⟨w.heap.size+1+1+1,1,none⟩=some (.slice none 0 0):=Hf.out.r1;have z0:wr.frozen? ⟨w.heap.size+1+1+1,0,none⟩=false:=Hf.out.z0;have z1:wr.frozen? ⟨w.heap.size+1+1+1,1,none⟩=false:=Hf.out.z1;have hp:=Hf.out.lt;have H1:w.heap.size+1+1+1<Bw+1:=by have:=Hv.out;omega
      have hl:=qI (H0.out.trans (Hm.out.mono (by omega)));obtain ⟨ao,cc,rfl⟩:=gD HR.out
      go_wp2_with fail
      (try simp only [Exit.inBlock,Exit.then]);refine bodyPost_ret (v:=.agg #[.bool false,.slice ao (cR free all many F L L.length).length cc]) ?_ rfl ⟨_,rfl,br.of_row (ownsRow_setCell_below (a:=⟨w.heap.size+1+1+1,1,none⟩) (ownsRow_setCell_below (a:=⟨w.heap.size+1+1+1,0,none⟩) HR.out H1 _) H1 _),tO HR.out (by omega),?_⟩
      ·rw [nK rfl];go_simp
      ·exact ((hl.out.setCell (by show w.heap.size<=w.heap.size+1+1+1;omega) _).setCell (by show w.heap.size<=w.heap.size+1+1+1;omega) _)
end
