import Derived.Test.YtbmmnflgnmjboaaGreatDoorK5
set_option maxRecDepth 100000
set_option maxHeartbeats 16000000
namespace Go.Proofs.YtbmmnflgnmjboaaGreatDoor
section
open RowKit
open Ost (N4 sumTo cX Sm pop8 gB bJ ek cN ii)
theorem I0 {q:N4} {many:Int} {l:List Nat} {k:Nat} (h:decide (many<=cX q (l.getD k 0))=true):ek q many l (k+1)=min (ek q many l k) (pop8 (l.getD k 0)):=by rw [ek,if_pos h]
theorem I1 {q:N4} {many:Int} {l:List Nat} {k:Nat} (h:decide (many<=cX q (l.getD k 0))=false):ek q many l (k+1)=ek q many l k:=by rw [ek,if_neg (by rw [h];simp)]
theorem I2 {free all:N4} {many:Int} {few:Nat} {l:List Nat} {k:Nat} (h:decide (many<=cX free (l.getD k 0))=true):cN free all many few l (k+1)=cN free all many few l k++[(l.getD k 0,ii all many few (l.getD k 0))]:=by rw [cN,if_pos h]
theorem I3 {free all:N4} {many:Int} {few:Nat} {l:List Nat} {k:Nat} (h:decide (many<=cX free (l.getD k 0))=false):cN free all many few l (k+1)=cN free all many few l k:=by rw [cN,if_neg (by rw [h];simp)]
theorem ww {nodes k:Nat} {L:List Nat} (hL:L=bJ nodes 16) (hk:k<L.length):L.getD k 0<256:=by
 have:L.getD k 0∈bJ nodes 16:=by rw [<- hL];simp [hk]
 have:=(Ost.qQ this).1
 omega
theorem p7 {w1 w2 w3 w4:World} {N Bw g g' cap' n m:Nat} {free all:N4} {many:Int} {L:List Nat} {xs:List Value} {b:Bool} {o:Obj} {v0:Value} (HE2:fh w2 N free all many) (HM2:iK w2 g L) (HB2:Below w1.heap.size w1 w2) (hBw:w1.heap.size<=Bw) (hN:N+4<=w1.heap.size) (hg:g<w1.heap.size) (hsz2:Bw+1<=w2.heap.size)
  (hb:Below w2.drew.heap.size w2.drew w3) (hb4:Below (Bw+1) (w3.alloc o) w4) (t0:w4.cell? ⟨Bw,0,none⟩=some (.bool false)) (t1:w4.cell? ⟨Bw,1,none⟩=some v0) (t2:w4.frozen? ⟨Bw,1,none⟩=false)
  (hown4:w4.ownsRow (Bw+1) 223 2 (.slice (some ⟨g',0,none⟩) (n+1) cap') (n+1) (xs++[.int .u8 m,.bool b])) :
  fh (w4.setCell ⟨Bw,1,none⟩ (.slice (some ⟨g',0,none⟩) (n+1) cap')) N free all many/\iK (w4.setCell ⟨Bw,1,none⟩ (.slice (some ⟨g',0,none⟩) (n+1) cap')) g L/\Below w1.heap.size w1 (w4.setCell ⟨Bw,1,none⟩ (.slice (some ⟨g',0,none⟩) (n+1) cap'))/\(w4.setCell ⟨Bw,1,none⟩ (.slice (some ⟨g',0,none⟩) (n+1) cap')).cell? ⟨Bw,0,none⟩=some (.bool false)/\(w4.setCell ⟨Bw,1,none⟩ (.slice (some ⟨g',0,none⟩) (n+1) cap')).cell? ⟨Bw,1,none⟩=some (.slice (some ⟨g',0,none⟩) (n+1) cap')/\(w4.setCell ⟨Bw,1,none⟩ (.slice (some ⟨g',0,none⟩) (n+1) cap')).frozen? ⟨Bw,1,none⟩=false/\(w4.setCell ⟨Bw,1,none⟩ (.slice (some ⟨g',0,none⟩) (n+1) cap')).ownsRow (Bw+1) 223 2 (.slice (some ⟨g',0,none⟩) (n+1) cap') (n+1) (xs++[.int .u8 m,.bool b])/\Bw+1<=(w4.setCell ⟨Bw,1,none⟩ (.slice (some ⟨g',0,none⟩) (n+1) cap')).heap.size:=by
 have h3:Below (Bw+1) w2 w3:=Below.mono ⟨hb.os,hb.tape,hb.output,hb.size,hb.block⟩ hsz2;have h3s:Bw+1<=w3.heap.size:=Q5 hsz2 hb.size;have h4:Below (Bw+1) w2 w4:=(h3.alloc h3s o).trans hb4;have h5:Below Bw w2 (w4.setCell ⟨Bw,1,none⟩ (.slice (some ⟨g',0,none⟩) (n+1) cap')):=(h4.mono (Nat.le_succ _)).setCell (lR) _;refine ⟨HE2.below h5 (by omega),HM2.below h5 (by omega),HB2.trans (h5.mono hBw),?_,?_,?_,ownsRow_setCell_below hown4 (Nat.lt_succ_self _) _,Q5 hsz2 h5.size⟩
 ·clear h5 h4 h3;go_simp
 ·clear h5 h4 h3;go_simp
 ·clear h5 h4 h3;go_simp
theorem I4 (free all:N4) (nodes:Nat) (many:Int) (w:World) (hmany:0<many) (hn:nodes<256) (hf:Sm free) (ha:Sm all) :
  Calls Tryz.prog 162 #[v4 free,v4 all,.int .u8 nodes,.int .i64 many] w λe w'=>zF w (Ost.eB free all nodes many) e w':=by
 have HE:=qI (fh.made w free all many);have HB:=qI (rl w free all many);have hc:=HE.out.m;have HHf:=qI hf;have HHa:=qI ha;have hmf:∀ (fn:Fn) (first cap:Array Value) (w:World),(Instr.makeFunc fn first cap).run Tryz.prog w=.ok (.func fn first cap) w:=λ_ _ _ _=>rfl
 unfold Ost.eB Ost.few;obtain ⟨L,hL⟩:∃ L,L=bJ nodes 16:=⟨_,rfl⟩;rw [<- hL];obtain ⟨F,hF⟩:∃ F,F=ek all many L L.length:=⟨_,rfl⟩;rw [<- hF];have HFw:=qI hF;have hfew:F<=4:=by rw [hF];exact Ost.qR all many L L.length
 clear hF;have HL:=qI hL;have hll:L.length<=16:=by rw [hL];exact Ost.nP nodes 16
 clear hf ha hL;unfold lZ v4 at *
 go_enter Tryz.func162,Tryz.ntmps162
 go_wp2_with fail
 refine (zD nodes _ hn).mono ?_;rintro e w1 ⟨v,rfl,hM,hb1⟩;have HB1:=qI (HB.out.trans (hb1.mono HB.out.size));have HE1:=qI (HE.out.below hb1 HE.out.lt);have HM:=qI hM;have hsz1:w.heap.size+4<=w1.heap.size:=Q5 HE.out.lt hb1.size;clear hM hb1 HE HB hc;rw [<- HL.out] at HM
 rcases HM.out with ⟨rfl,ao,c,rfl⟩|⟨g,c,rfl,hg,hmc⟩
 ·-- no masks at all
  clear HM;have hBx:=HB1.out.alloc (by omega) (.cells #[.bool false,.slice none 0 0] 270);have hEx:=HE1.out.below ((Q0 w1.heap.size w1).alloc (lR) (.cells #[.bool false,.slice none 0 0] 270)) HE1.out.lt;have r0:(w1.alloc (.cells #[.bool false,.slice none 0 0] 270)).cell? ⟨w.heap.size+1+1+1,0,none⟩=some (.bool false):=hEx.r0;have r1:(w1.alloc (.cells #[.bool false,.slice none 0 0] 270)).cell? ⟨w.heap.size+1+1+1,1,none⟩=some (.slice none 0 0):=hEx.r1;have z0:(w1.alloc (.cells #[.bool false,.slice none 0 0] 270)).frozen? ⟨w.heap.size+1+1+1,0,none⟩=false:=hEx.z0;have z1:(w1.alloc (.cells #[.bool false,.slice none 0 0] 270)).frozen? ⟨w.heap.size+1+1+1,1,none⟩=false:=hEx.z1;have hBx:=qI hBx;clear hEx
  go_wp2
  go_loopw [11,25] (λt i wr=>i=.int .i64 0/\wr=w1) (λ_ _ _=>0)
  case atStart=>exact ⟨rfl,rfl⟩
  case round=>
   obtain ⟨rfl,rfl⟩:=hrel
   go_wp2
   go_loopw [40] (λi wq=>i=.int .i64 0/\wq=wr.alloc (.cells #[.bool false,.slice none 0 0] 270)) (λ_ _=>0)
   case atStart=>exact ⟨rfl,rfl⟩
   case round=>
    obtain ⟨rfl,rfl⟩:=hrel
    go_wp2_with fail
    (try simp only [Exit.inBlock,Exit.then]);refine bodyPost_ret (v:=.agg #[.bool false,.slice none 0 0]) ?_ rfl ⟨_,rfl,.inl ⟨rfl,none,0,rfl⟩,(λ_ _ _ _ h=>by cases h),?_⟩
    ·rw [lU rfl];go_simp
    ·exact ((hBx.out.setCell (by show w.heap.size<=w.heap.size+1+1+1;omega) _).setCell (by show w.heap.size<=w.heap.size+1+1+1;omega) _)
 ·have HMC:Hid (iK w1 g L):=hmc;have HG:=qI hg;clear hmc hg HM
  go_wp2
  go_loopw [11,25] (λt i wr=>∃ k:Nat,k<=L.length/\i=.int .i64 k/\t=.int .i64 (ek all many L k:Nat)/\Hid (fh wr w.heap.size free all many)/\Hid (iK wr g L)/\Hid (Below w1.heap.size w1 wr)) (λ_ i _=>L.length - (intOf i).toNat)
  case atStart=>exact ⟨0,by omega,rfl,rfl,HE1.out,HMC.out,Q0 _ _⟩
  case round=>
   obtain ⟨k,hk,rfl,rfl,HEr,HMr,HBr⟩:=hrel
   by_cases hlt:k<L.length
   ·have hcell:=HMr.out k hlt;have hm256:=ww HL.out hlt;have HY:=qI (λh=>I0 (q:=all) (many:=many) (l:=L) (k:=k) h);have HN:=qI (λh=>I1 (q:=all) (many:=many) (l:=L) (k:=k) h);have hle:=Ost.qR all many L k;generalize L.getD k 0=m at *;have c0:=HEr.out.a.c0;have c1:=HEr.out.a.c1;have c2:=HEr.out.a.c2;have c3:=HEr.out.a.c3;have HEn:=qI (nT all m many (w.heap.size+2) wr hm256 HHa.out HEr.out.m);unfold v4 at HEn;have HPo:=qI (kx m);have hp8:=Ost.iJ m
    go_wp2_with fail
    refine HEn.out.mono ?_;rintro e w2 ⟨rfl,hb⟩;have hwz:w1.heap.size<=wr.heap.size:=HBr.out.size;have HE2:=qI (HEr.out.below hb (by have:=HEr.out.lt;omega));have HM2:=qI (HMr.out.below hb (by have:=HG.out;omega));have HB2:=qI (HBr.out.trans (hb.mono hwz));clear hb HEr HMr HBr HEn c0 c1 c2 c3 hcell
    rcases two (decide (many<=cX all m)) with hb|hb
    ·have HO:=qI (HY.out hb);rw [hb];clear hb HY HN
     go_wp2_with fail
     refine (HPo.out _ hm256).mono ?_;rintro e w3 ⟨rfl,rfl⟩;generalize pop8 m=p at *;generalize ek all many L k=f0 at *
     by_cases hpf:f0<=p
     ·have hmin:Hid (min f0 p=f0):=by unfold Hid;omega
      go_wp2
      go_roundw
      case rel=>exact ⟨k+1,by omega,by go_num,by (rw [HO.out,hmin.out];first|done|exact congrArg (Value.int .i64) (by omega)),HE2,HM2,HB2⟩
      case measure=>simp [intOf];omega
     ·have hmin:Hid (min f0 p=p):=by unfold Hid;omega
      go_wp2
      go_roundw
      case rel=>exact ⟨k+1,by omega,by go_num,by (rw [HO.out,hmin.out];first|done|exact congrArg (Value.int .i64) (by omega)),HE2,HM2,HB2⟩
      case measure=>simp [intOf];omega
    ·have HO:=qI (HN.out hb);rw [hb];clear hb HY HN
     go_wp2
     go_roundw
     case rel=>exact ⟨k+1,by omega,by go_num,by rw [HO.out],HE2,HM2,HB2⟩
     case measure=>simp [intOf];omega
   ·have hkl:k=L.length:=by omega
    subst hkl;clear hk hlt;have hEa:=HEr.out.below ((Q0 wr.heap.size wr).alloc (lR) (.cells #[.bool false,.slice none 0 0] 270)) HEr.out.lt;have hwz:w1.heap.size<=wr.heap.size:=HBr.out.size;have hMa:=HMr.out.below ((Q0 wr.heap.size wr).alloc (lR) (.cells #[.bool false,.slice none 0 0] 270)) (by have:=HG.out;omega);have hBa:=HBr.out.alloc hwz (.cells #[.bool false,.slice none 0 0] 270);have hx0:=qI (show (wr.alloc (.cells #[.bool false,.slice none 0 0] 270)).cell? ⟨wr.heap.size,0,none⟩=some (.bool false)/\(wr.alloc (.cells #[.bool false,.slice none 0 0] 270)).cell? ⟨wr.heap.size,1,none⟩=some (.slice none 0 0)/\(wr.alloc (.cells #[.bool false,.slice none 0 0] 270)).frozen? ⟨wr.heap.size,1,none⟩=false by simp);have HEa:=qI hEa;have HMa:=qI hMa;have HBa:=qI hBa;have HBw:=qI hwz;clear hEa hMa hBa HEr HMr HBr hwz HE1 HMC;rw [<- HFw.out]
    go_wp2_with fail
    generalize hBw:wr.heap.size=Bw at *
    go_loopw [40] (λi wq=>∃ (k:Nat) (v:Value),k<=L.length/\i=.int .i64 k/\Hid (fh wq w.heap.size free all many)/\Hid (iK wq g L)/\Hid (Below w1.heap.size w1 wq)/\wq.cell? ⟨Bw,0,none⟩=some (.bool false)/\wq.cell? ⟨Bw,1,none⟩=some v/\wq.frozen? ⟨Bw,1,none⟩=false/\Hid (wq.ownsRow (Bw+1) 223 2 v (cN free all many F L k).length (dE (cN free all many F L k)))/\Bw+1<=wq.heap.size) (λi _=>L.length - (intOf i).toNat)
    case atStart=>exact ⟨0,.slice none 0 0,by omega,rfl,HEa.out,HMa.out,HBa.out,hx0.out.1,hx0.out.2.1,hx0.out.2.2,Qw _ _ _ _,by simp;omega⟩
    case round=>
     obtain ⟨k,v,hk,rfl,HEr,HMr,HBr,x0,x1,x2,HR,hsz⟩:=hrel;clear HEa HMa HBa hx0
     by_cases hlt:k<L.length
     ·have hcell:=HMr.out k hlt;have hm256:=ww HL.out hlt;have HY:=qI (λh=>I2 (free:=free) (all:=all) (many:=many) (few:=F) (l:=L) (k:=k) h);have HN:=qI (λh=>I3 (free:=free) (all:=all) (many:=many) (few:=F) (l:=L) (k:=k) h);have hle:=Ost.qS free all many F L k;generalize L.getD k 0=m at *;have c0:=HEr.out.f.c0;have c1:=HEr.out.f.c1;have c2:=HEr.out.f.c2;have c3:=HEr.out.f.c3;have HEn:=qI (nT free m many (w.heap.size+2) wr hm256 HHf.out HEr.out.m);unfold v4 at HEn
      go_wp2_with fail
      refine HEn.out.mono ?_;rintro e w2 ⟨rfl,hb⟩;have HE2:=qI (HEr.out.below hb (by have:=HEr.out.lt;omega));have HM2:=qI (HMr.out.below hb (by have:=HG.out;have:=HBw.out;omega));have HB2:=qI (HBr.out.trans (hb.mono (by have:=HBw.out;omega)));have y0:=(hb.cell (p:=⟨Bw,0,none⟩) hsz).trans x0;have y1:=(hb.cell (p:=⟨Bw,1,none⟩) hsz).trans x1;have y2:=(hb.frozen (p:=⟨Bw,1,none⟩) hsz).trans x2;have HR2:Hid (w2.ownsRow (Bw+1) 223 2 v (cN free all many F L k).length (dE (cN free all many F L k))):=HR.out.kept (row:=none) ⟨hb.os,hb.tape,hb.output,hb.size,λj hj _=>hb.block j hj⟩ (by cases hv:v.ownBlock <;> simp);have hsz2:=Q5 hsz hb.size;clear hb HEr HMr HBr HEn c0 c1 c2 c3 hcell x0 x1 x2 HR hsz
      rcases two (decide (many<=cX free m)) with hb|hb
      ·have HO:=qI (HY.out hb);rw [hb];clear hb HY HN;obtain ⟨ao,cc,rfl⟩:=fS HR2.out;have HEn:=qI (nT all m many (w.heap.size+2));have HPo:=qI (kx m);have c0:=HE2.out.a.c0;have c1:=HE2.out.a.c1;have c2:=HE2.out.a.c2;have c3:=HE2.out.a.c3;have HC2:=qI HE2.out.m;unfold v4 at HEn;obtain ⟨i0,hi,hz0,hz1,hz2⟩:=info_parts rk;have hp8:=Ost.iJ m;have HGd:Hid (ii all many F m=(decide (many<=cX all m) && decide (pop8 m=F))):=rfl;generalize ii all many F m=gd at *
       rcases two (decide (many<=cX all m)) with he|he
       ·rw [he] at HEn HGd
        rcases two (decide (pop8 m=F)) with hpf|hpf
        ·have hgd:Hid (gd=true):=by unfold Hid;rw [HGd.out,hpf];rfl
         have hpe:((pop8 m:Int) == (F:Int))=true:=by rw [beq_iff_eq];have:=of_decide_eq_true hpf;omega
         clear HGd he hpf;generalize pop8 m=p8 at *
         go_wp2_with fail
         first
          | (go_region_law (first
           | (refine step_append_lies _ rfl _ _ 266 rfl (Bw+1) 223 i0 (.agg #[.int .u8 0,.bool false]) 2 2 Tryz.underlying266 hi hz0 hz1 hz2 rfl (by decide) _ _ _ rfl (HR3.out.alloc _) ⟨w3.heap.size,0,none⟩ 1 1 [.int .u8 m,.bool true] rfl rfl (by intro j u hj;match j,hj with|0,hj=>(simp at hj;subst hj;simp [Addr.add])|1,hj=>(simp at hj;subst hj;simp [Addr.add])) (by intro u hu;simp at hu;rcases hu with rfl|rfl <;> rfl) (by decide) (by unfold maxLen;omega) (by omega) (by simp;omega) _ rfl ?_;intro g' cap' w4 hown4 hgrow4 hat4 hlt4;have hb4:=Below.grown (Q0 (Bw+1) _) hgrow4 (by simp;omega) (λk hk=>(HR3.out.lt k hk).1);have t0:=(hb4.cell (p:=⟨Bw,0,none⟩) (Nat.lt_succ_self _)).trans y0'';have t1:=(hb4.cell (p:=⟨Bw,1,none⟩) (Nat.lt_succ_self _)).trans y1'';have t2:=(hb4.frozen (p:=⟨Bw,1,none⟩) (Nat.lt_succ_self _)).trans y2'')
           | (go_simp;go_at_call 200;refine (HEn.out _ hm256 HHa.out ?_).mono ?_;exact HC2.out;rintro e w3 ⟨rfl,hb⟩;have y0':=(hb.cell (p:=⟨Bw,0,none⟩) hsz2).trans y0;have y1':=(hb.cell (p:=⟨Bw,1,none⟩) hsz2).trans y1;have y2':=(hb.frozen (p:=⟨Bw,1,none⟩) hsz2).trans y2;have y0'':=eP y0' (.cells #[.int .u8 m,.bool true] 223);have y1'':=eP y1' (.cells #[.int .u8 m,.bool true] 223);have y2'':=nU y1' y2' (.cells #[.int .u8 m,.bool true] 223);have HR3:=qI (ky HR2.out.drew hb);have hsz3:=Q5 hsz2 hb.size)
           | (go_simp;go_at_call 199;refine (HPo.out _ hm256).mono ?_;rintro e w5 ⟨rfl,hw5⟩;subst w5)))
          | fail
         all_goals
          have HX:=qI (p7 HE2.out HM2.out HB2.out HBw.out hsz1 HG.out hsz2 hb hb4 t0 t1 t2 hown4);clear hb hb4 t0 t1 t2 hown4 hgrow4 y0 y1 y2 hat4 hlt4
          go_wp2
          go_roundw
          case rel=>
           obtain ⟨q1,q2,q3,q4,q5,q6,q7,q8⟩:=HX.out;exact ⟨k+1,_,by omega,by go_num,q1,q2,q3,q4,q5,q6,by rw [HO.out,hgd.out,Q2,lY];exact q7,q8⟩
          case measure=>simp [intOf];omega
        ·have hgd:Hid (gd=false):=by unfold Hid;rw [HGd.out,hpf];rfl
         have hpe:((pop8 m:Int) == (F:Int))=false:=by rw [Qr];have:=of_decide_eq_false hpf;omega
         clear HGd he hpf;generalize pop8 m=p8 at *
         go_wp2_with fail
         first
          | (go_region_law (first
           | (refine step_append_lies _ rfl _ _ 266 rfl (Bw+1) 223 i0 (.agg #[.int .u8 0,.bool false]) 2 2 Tryz.underlying266 hi hz0 hz1 hz2 rfl (by decide) _ _ _ rfl (HR3.out.alloc _) ⟨w3.heap.size,0,none⟩ 1 1 [.int .u8 m,.bool false] rfl rfl (by intro j u hj;match j,hj with|0,hj=>(simp at hj;subst hj;simp [Addr.add])|1,hj=>(simp at hj;subst hj;simp [Addr.add])) (by intro u hu;simp at hu;rcases hu with rfl|rfl <;> rfl) (by decide) (by unfold maxLen;omega) (by omega) (by simp;omega) _ rfl ?_;intro g' cap' w4 hown4 hgrow4 hat4 hlt4;have hb4:=Below.grown (Q0 (Bw+1) _) hgrow4 (by simp;omega) (λk hk=>(HR3.out.lt k hk).1);have t0:=(hb4.cell (p:=⟨Bw,0,none⟩) (Nat.lt_succ_self _)).trans y0'';have t1:=(hb4.cell (p:=⟨Bw,1,none⟩) (Nat.lt_succ_self _)).trans y1'';have t2:=(hb4.frozen (p:=⟨Bw,1,none⟩) (Nat.lt_succ_self _)).trans y2'')
           | (go_simp;go_at_call 200;refine (HEn.out _ hm256 HHa.out ?_).mono ?_;exact HC2.out;rintro e w3 ⟨rfl,hb⟩;have y0':=(hb.cell (p:=⟨Bw,0,none⟩) hsz2).trans y0;have y1':=(hb.cell (p:=⟨Bw,1,none⟩) hsz2).trans y1;have y2':=(hb.frozen (p:=⟨Bw,1,none⟩) hsz2).trans y2;have y0'':=eP y0' (.cells #[.int .u8 m,.bool false] 223);have y1'':=eP y1' (.cells #[.int .u8 m,.bool false] 223);have y2'':=nU y1' y2' (.cells #[.int .u8 m,.bool false] 223);have HR3:=qI (ky HR2.out.drew hb);have hsz3:=Q5 hsz2 hb.size)
           | (go_simp;go_at_call 199;refine (HPo.out _ hm256).mono ?_;rintro e w5 ⟨rfl,hw5⟩;subst w5)))
          | fail
         all_goals
          have HX:=qI (p7 HE2.out HM2.out HB2.out HBw.out hsz1 HG.out hsz2 hb hb4 t0 t1 t2 hown4);clear hb hb4 t0 t1 t2 hown4 hgrow4 y0 y1 y2 hat4 hlt4
          go_wp2
          go_roundw
          case rel=>
           obtain ⟨q1,q2,q3,q4,q5,q6,q7,q8⟩:=HX.out;exact ⟨k+1,_,by omega,by go_num,q1,q2,q3,q4,q5,q6,by rw [HO.out,hgd.out,Q2,lY];exact q7,q8⟩
          case measure=>simp [intOf];omega
       ·have hgd:Hid (gd=false):=by unfold Hid;rw [HGd.out,he];rfl
        rw [he] at HEn;clear HGd he
        go_wp2_with fail
        first
         | (go_region_law (first
          | (refine step_append_lies _ rfl _ _ 266 rfl (Bw+1) 223 i0 (.agg #[.int .u8 0,.bool false]) 2 2 Tryz.underlying266 hi hz0 hz1 hz2 rfl (by decide) _ _ _ rfl (HR3.out.alloc _) ⟨w3.heap.size,0,none⟩ 1 1 [.int .u8 m,.bool false] rfl rfl (by intro j u hj;match j,hj with|0,hj=>(simp at hj;subst hj;simp [Addr.add])|1,hj=>(simp at hj;subst hj;simp [Addr.add])) (by intro u hu;simp at hu;rcases hu with rfl|rfl <;> rfl) (by decide) (by unfold maxLen;omega) (by omega) (by simp;omega) _ rfl ?_;intro g' cap' w4 hown4 hgrow4 hat4 hlt4;have hb4:=Below.grown (Q0 (Bw+1) _) hgrow4 (by simp;omega) (λk hk=>(HR3.out.lt k hk).1);have t0:=(hb4.cell (p:=⟨Bw,0,none⟩) (Nat.lt_succ_self _)).trans y0'';have t1:=(hb4.cell (p:=⟨Bw,1,none⟩) (Nat.lt_succ_self _)).trans y1'';have t2:=(hb4.frozen (p:=⟨Bw,1,none⟩) (Nat.lt_succ_self _)).trans y2'')
          | (go_simp;go_at_call 200;refine (HEn.out _ hm256 HHa.out ?_).mono ?_;exact HC2.out;rintro e w3 ⟨rfl,hb⟩;have y0':=(hb.cell (p:=⟨Bw,0,none⟩) hsz2).trans y0;have y1':=(hb.cell (p:=⟨Bw,1,none⟩) hsz2).trans y1;have y2':=(hb.frozen (p:=⟨Bw,1,none⟩) hsz2).trans y2;have y0'':=eP y0' (.cells #[.int .u8 m,.bool false] 223);have y1'':=eP y1' (.cells #[.int .u8 m,.bool false] 223);have y2'':=nU y1' y2' (.cells #[.int .u8 m,.bool false] 223);have HR3:=qI (ky HR2.out.drew hb);have hsz3:=Q5 hsz2 hb.size)))
         | fail
        all_goals
         have HX:=qI (p7 HE2.out HM2.out HB2.out HBw.out hsz1 HG.out hsz2 hb hb4 t0 t1 t2 hown4);clear hb hb4 t0 t1 t2 hown4 hgrow4 y0 y1 y2 hat4 hlt4
         go_wp2
         go_roundw
         case rel=>
          obtain ⟨q1,q2,q3,q4,q5,q6,q7,q8⟩:=HX.out;exact ⟨k+1,_,by omega,by go_num,q1,q2,q3,q4,q5,q6,by rw [HO.out,hgd.out,Q2,lY];exact q7,q8⟩
         case measure=>simp [intOf];omega
      ·have HO:=qI (HN.out hb);rw [hb];clear hb HY HN
       go_wp2
       go_roundw
       case rel=>exact ⟨k+1,v,by omega,by go_num,HE2,HM2,HB2,y0,y1,y2,by rw [HO.out];exact HR2,hsz2⟩
       case measure=>simp [intOf];omega
     ·have hkl:k=L.length:=by omega
      subst hkl;clear hk hlt;have r0:wr.cell? ⟨w.heap.size+1+1+1,0,none⟩=some (.bool false):=HEr.out.r0;have r1:wr.cell? ⟨w.heap.size+1+1+1,1,none⟩=some (.slice none 0 0):=HEr.out.r1;have z0:wr.frozen? ⟨w.heap.size+1+1+1,0,none⟩=false:=HEr.out.z0;have z1:wr.frozen? ⟨w.heap.size+1+1+1,1,none⟩=false:=HEr.out.z1;have hlt3:=HEr.out.lt;have hnb:w.heap.size+1+1+1<Bw+1:=by have:=HBw.out;omega
      have HBf:=qI (HB1.out.trans (HBr.out.mono (by omega)));obtain ⟨ao,cc,rfl⟩:=fS HR.out
      go_wp2_with fail
      (try simp only [Exit.inBlock,Exit.then]);refine bodyPost_ret (v:=.agg #[.bool false,.slice ao (cN free all many F L L.length).length cc]) ?_ rfl ⟨_,rfl,bo.of_row (ownsRow_setCell_below (a:=⟨w.heap.size+1+1+1,1,none⟩) (ownsRow_setCell_below (a:=⟨w.heap.size+1+1+1,0,none⟩) HR.out hnb _) hnb _),rm HR.out (by omega),?_⟩
      ·rw [lU rfl];go_simp
      ·exact ((HBf.out.setCell (by show w.heap.size<=w.heap.size+1+1+1;omega) _).setCell (by show w.heap.size<=w.heap.size+1+1+1;omega) _)
end
