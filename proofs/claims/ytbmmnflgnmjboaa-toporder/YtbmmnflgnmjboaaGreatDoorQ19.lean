/- VP3, VD5, VD9, VE2, VD6, VD7, VD8, VD10, VE3, VK1, VL1, VK2, VK3, VTM, OM0 -/
import Derived.Test.YtbmmnflgnmjboaaGreatDoorQ11
import Derived.Test.YtbmmnflgnmjboaaGreatDoorQ18
set_option maxRecDepth 100000
set_option maxHeartbeats 16000000
namespace Go.Proofs.YtbmmnflgnmjboaaGreatDoor
section
open Go.RowKit Go.Shelf
open Qos (Nd Ct Pd nd ct pd)
open Sv (Gv Hd gv hd wd Tx sumTxt heldTxt heldF body readS)
open S1 (Mx Tab)
namespace Sv
def parseS (t:Tx):Nat × List Hd:=
 if 6000<t.length then (2,[]) else
 match cutS t with
 | none=>(12,[])
 | some b=>match readS b with
  | none=>(4,[])
  | some hs=>if heldF hs=0∧heldTxt hs=t then (0,hs) else (4,[])
end Sv
theorem hlds_nil (w:World):HldsAt w (.slice none 0 0) []:=⟨none,0,rfl,⟨Nat.le_refl _,by unfold maxLen;omega⟩,fun h=>by simp at h⟩
end
section
open Go.RowKit
theorem apply_no (B:Nat) (n k:Sd) (v:Value) (l:Int) (d:Bool) (wr:Bool) (bs:ByteArray) (w:World) (h:DiskW w B n k v l d) (hl:-9223372036854775808≤l∧l≤9223372036854775807) (h0:stepE l d=11) :
  Calls Tryz.prog 139 #[.pointer (some ⟨B,0,none⟩),.agg #[.bool wr,.string bs]] w fun e w'=>e=.returned (.iface 121 (.int .i64 11))∧DiskW w' B n k v (stepN l d) true∧w.grownBy w' (some B):=by
 have hlt:=h.lt;have hba:=(Below.refl w.heap.size w).alloc (Nat.le_refl _) (.cells #[.bool wr,.string bs] 247);have hD0:=h.block (w':=w.alloc (.cells #[.bool wr,.string bs] 247)) (hba.block B hlt);have HST:=qI (stepW_any B n k _ l d _ hD0 hl);have hF:stepF l d=true:=by
  rcases step_two l d with ⟨_,e2⟩|⟨e1,_⟩
  ·exact e2
  ·rw [h0] at e1;cases e1
 rw [h0,hF,errV_11] at HST;have HBA:=qI hba;clear h hD0 hF h0 hba hlt
 go_enter Tryz.func139,Tryz.ntmps139
 go_wp2_with fail
 refine HST.out.mono ?_;rintro e w1 ⟨rfl,h1,ho1⟩;have HG1:=qI (grown_trans ⟨HBA.out.os,HBA.out.tape,HBA.out.output,HBA.out.size,fun j hj _=>HBA.out.block j hj⟩ ho1.1);have H1:=qI h1;clear h1 ho1 HST HBA
 go_wp2_with fail
 go_ret;exact ⟨rfl,H1.out,HG1.out⟩
theorem write_many (B:Nat) (s:ByteArray) (w:World) (hs:6000<s.size) (hs2:s.size≤maxLen) :
  Calls Tryz.prog 99 #[.pointer (some ⟨B,0,none⟩),.string s] w fun e w'=>e=.returned (.iface 121 (.int .i64 2))∧w'=w:=by
 unfold maxLen at hs2
 go_enter Tryz.func99,Tryz.ntmps99
 go_wp2_with fail
 go_ret;exact ⟨rfl,rfl⟩
theorem write_yes (B:Nat) (n k:Sd) (l:Int) (d:Bool) (s:ByteArray) (w:World) (h:DiskW w B n k (.slice none 0 0) l d) (hl:-9223372036854775808≤l∧l≤9223372036854775807) (h0:stepE l d=0) (hs:s.size≤6000) :
  Calls Tryz.prog 99 #[.pointer (some ⟨B,0,none⟩),.string s] w fun e w'=>e=.returned .nilIface∧Waits w w' B (Chg.on ⟨true,s⟩ n) k (stepN l d) true s∧w.grownBy w' (some B):=by
 have HA:=qI (apply_yes B n k l d true s w h hl h0);clear h h0
 go_enter Tryz.func99,Tryz.ntmps99
 go_wp2_with fail
 refine HA.out.mono ?_;rintro e w1 ⟨rfl,h1,h2⟩;have H1:=qI h1;have H2:=qI h2;clear h1 h2 HA
 go_wp2_with fail
 go_ret;exact ⟨rfl,H1.out,H2.out⟩
theorem write_no (B:Nat) (n k:Sd) (v:Value) (l:Int) (d:Bool) (s:ByteArray) (w:World) (h:DiskW w B n k v l d) (hl:-9223372036854775808≤l∧l≤9223372036854775807) (h0:stepE l d=11) (hs:s.size≤6000) :
  Calls Tryz.prog 99 #[.pointer (some ⟨B,0,none⟩),.string s] w fun e w'=>e=.returned (.iface 121 (.int .i64 11))∧DiskW w' B n k v (stepN l d) true∧w.grownBy w' (some B):=by
 have HA:=qI (apply_no B n k v l d true s w h hl h0);clear h h0
 go_enter Tryz.func99,Tryz.ntmps99
 go_wp2_with fail
 refine HA.out.mono ?_;rintro e w1 ⟨rfl,h1,h2⟩;have H1:=qI h1;have H2:=qI h2;clear h1 h2 HA
 go_wp2_with fail
 go_ret;exact ⟨rfl,H1.out,H2.out⟩
theorem move_yes (B:Nat) (n k:Sd) (l:Int) (d:Bool) (w:World) (h:DiskW w B n k (.slice none 0 0) l d) (hl:-9223372036854775808≤l∧l≤9223372036854775807) (h0:stepE l d=0) (hn:n.dt=true) :
  Calls Tryz.prog 101 #[.pointer (some ⟨B,0,none⟩)] w fun e w'=>e=.returned .nilIface∧Waits w w' B (Chg.on ⟨false,⟨#[]⟩⟩ n) k (stepN l d) false ⟨#[]⟩∧w.grownBy w' (some B):=by
 have HA:=qI (apply_yes B n k l d false ⟨#[]⟩ w h hl h0);obtain ⟨_,_,c2,_⟩:=h.now;rw [hn] at c2;clear h h0 hn
 go_enter Tryz.func101,Tryz.ntmps101
 go_wp2_with fail
 refine HA.out.mono ?_;rintro e w1 ⟨rfl,h1,h2⟩;have H1:=qI h1;have H2:=qI h2;clear h1 h2 HA
 go_wp2_with fail
 go_ret;exact ⟨rfl,H1.out,H2.out⟩
theorem move_no (B:Nat) (n k:Sd) (v:Value) (l:Int) (d:Bool) (w:World) (h:DiskW w B n k v l d) (hl:-9223372036854775808≤l∧l≤9223372036854775807) (h0:stepE l d=11) (hn:n.dt=true) :
  Calls Tryz.prog 101 #[.pointer (some ⟨B,0,none⟩)] w fun e w'=>e=.returned (.iface 121 (.int .i64 11))∧DiskW w' B n k v (stepN l d) true∧w.grownBy w' (some B):=by
 have HA:=qI (apply_no B n k v l d false ⟨#[]⟩ w h hl h0);obtain ⟨_,_,c2,_⟩:=h.now;rw [hn] at c2;clear h h0 hn
 go_enter Tryz.func101,Tryz.ntmps101
 go_wp2_with fail
 refine HA.out.mono ?_;rintro e w1 ⟨rfl,h1,h2⟩;have H1:=qI h1;have H2:=qI h2;clear h1 h2 HA
 go_wp2_with fail
 go_ret;exact ⟨rfl,H1.out,H2.out⟩
end
section
open Go.RowKit
end
section
open Go.RowKit Go.Shelf
open Qos (Nd Ct Pd nd ct pd)
theorem below_drewNE2 (w:World) (m n:Nat):Below w.heap.size w ((w.drewN m).drewN n):=⟨rfl,rfl,rfl,Nat.le_refl _,fun _ _=>rfl⟩
theorem NeedsAt.parts {w:World} {v:Value} {ds:List Nd} (h:NeedsAt w v ds):∃ ao c,v=.slice ao ds.length c∧ds.length≤maxLen∧∀ k,k<ds.length→∃ b o,ao=some ⟨b,o,none⟩∧b<w.heap.size∧w.cell? ⟨b,o+k*2,none⟩=some (.string (nd ds k).kind)∧w.cell? ⟨b,o+k*2+1,none⟩=some (.int .i64 (nd ds k).many):=by
 obtain ⟨ao,c,rfl,hm,hr⟩:=h;refine ⟨ao,c,rfl,hm,fun k hk=>?_⟩;obtain ⟨b,o,ha,hlt,hc⟩:=hr (by omega);exact ⟨b,o,ha,hlt,(hc k hk).1,(hc k hk).2⟩
theorem samePod_any (p q:Pd) (cv dv:Value) (w:World) (h1:ConsAt w cv p.cs) (h2:ConsAt w dv q.cs) :
  Calls Tryz.prog 59 #[podV p cv,podV q dv] w (AnsIf (p=q) w):=by
 unfold podV;obtain ⟨a1,c1,rfl,m1,h1⟩:=h1;obtain ⟨a2,c2,rfl,m2,h2⟩:=h2;unfold maxLen at m1 m2;have H1:=qI h1;have H2:=qI h2;clear h1 h2;have k1:Hid (p=q→p.nm=q.nm):=fun e=>by rw [e]
 have k2:Hid (p=q→p.pr=q.pr):=fun e=>by rw [e]
 have k3:Hid (p=q→p.cs=q.cs):=fun e=>by rw [e]
 generalize (p=q)=PQ at *;obtain ⟨pn,pp,pcs⟩:=p;obtain ⟨qn,qp,qcs⟩:=q;dsimp only at m1 m2 H1 H2 k1 k2 k3 ⊢
 by_cases e1:pn=qn
 ·subst e1
  by_cases e2:pp=qp
  ·subst e2;have HB0:=qI (((Below.refl w.heap.size w).alloc (Nat.le_refl _) (.cells #[.string pn,.int .i64 pp,.slice a1 pcs.length c1] 47)).alloc (by simp) (.cells #[.string pn,.int .i64 pp,.slice a2 qcs.length c2] 47))
   by_cases e3:pcs.length=qcs.length
   ·rw [← e3] at HB0 ⊢;have E3:=qI e3;clear e3
    go_enter Tryz.func59,Tryz.ntmps59
    have p2:((w.alloc (.cells #[.string pn,.int .i64 pp,.slice a1 pcs.length c1] 47)).alloc (.cells #[.string pn,.int .i64 pp,.slice a2 pcs.length c2] 47)).cell? ⟨w.heap.size,2,none⟩=some (.slice a1 pcs.length c1):=by simp
    have q2:((w.alloc (.cells #[.string pn,.int .i64 pp,.slice a1 pcs.length c1] 47)).alloc (.cells #[.string pn,.int .i64 pp,.slice a2 pcs.length c2] 47)).cell? ⟨w.heap.size+1,2,none⟩=some (.slice a2 pcs.length c2):=by simp
    have hs0:((w.alloc (.cells #[.string pn,.int .i64 pp,.slice a1 pcs.length c1] 47)).alloc (.cells #[.string pn,.int .i64 pp,.slice a2 pcs.length c2] 47)).heap.size=w.heap.size+1+1:=by simp
    go_wp2_with fail
    generalize ((w.alloc (.cells #[.string pn,.int .i64 pp,.slice a1 pcs.length c1] 47)).alloc (.cells #[.string pn,.int .i64 pp,.slice a2 pcs.length c2] 47))=W0 at *
    go_loopw [5] (fun i wr=>∃ k:Nat,k≤pcs.length∧i=.int .i64 k∧Below W0.heap.size W0 wr) (fun i _=>pcs.length - (intOf i).toNat)
    case atStart=>exact ⟨0,by omega,rfl,Below.refl _ _⟩
    case round=>
     obtain ⟨k,hk,rfl,hb⟩:=hrel;have r2:=(hb.cell (p:=⟨w.heap.size,2,none⟩) (by show w.heap.size<W0.heap.size;omega)).trans p2;have s2:=(hb.cell (p:=⟨w.heap.size+1,2,none⟩) (by show w.heap.size+1<W0.heap.size;omega)).trans q2;have HB1:=qI (HB0.out.trans (hb.mono HB0.out.size));have HBk:=qI hb;clear hb
     by_cases hlt:k<pcs.length
     ·obtain ⟨b1,o1,dv1,rfl,hc1⟩:=H1.out (by omega);obtain ⟨b2,o2,dv2,rfl,hc2⟩:=H2.out (by rw [← E3.out];omega);have hk2:k<qcs.length:=by rw [← E3.out];exact hlt
      obtain ⟨x0,x1,x2,x3,x4,x5⟩:=(hc1.below HB1.out).at hlt;obtain ⟨y0,y1,y2,y3,y4,y5⟩:=(hc2.below HB1.out).at hk2;obtain ⟨na,nc,hn1,nm1,hN1⟩:=((hc1.below HB1.out).2 k hlt).2.parts;obtain ⟨ma,mc,hn2,nm2,hN2⟩:=((hc2.below HB1.out).2 k hk2).2.parts;rw [hn1] at x5;rw [hn2] at y5;have HBL2:=qI (hc2.below HB1.out).1;have HN1:=qI hN1;have HN2:=qI hN2;have HK:Hid (PQ→ct pcs k=ct qcs k):=fun e=>by rw [k3.out e]
      clear hc1 hc2 hN1 hN2 hn1 hn2 p2 q2;unfold maxLen at nm1 nm2;generalize ct pcs k=c at *;generalize ct qcs k=d at *;obtain ⟨cn,cam,cab,ccm,ccb,cds⟩:=c;obtain ⟨dn,dam,dab,dcm,dcb,dds⟩:=d;dsimp only at x0 x1 x2 x3 x4 x5 y0 y1 y2 y3 y4 y5 nm1 nm2 HN1 HN2;have j1:Hid (PQ→cn=dn):=fun e=>by have h:=HK.out e;injection h with h _
      have j2:Hid (PQ→cam=dam):=fun e=>by have h:=HK.out e;injection h with _ h
      have j3:Hid (PQ→cab=dab):=fun e=>by have h:=HK.out e;injection h with _ _ h
      have j4:Hid (PQ→ccm=dcm):=fun e=>by have h:=HK.out e;injection h with _ _ _ h
      have j5:Hid (PQ→ccb=dcb):=fun e=>by have h:=HK.out e;injection h with _ _ _ _ h
      have j6:Hid (PQ→cds=dds):=fun e=>by have h:=HK.out e;injection h
      have HBx:=qI (((Below.refl wr.heap.size wr).alloc (Nat.le_refl _) (.cells #[.string cn,.int .i64 cam,.int .i64 cab,.int .i64 ccm,.int .i64 ccb,.slice na cds.length nc] 63)).alloc (by simp) (.cells #[.string dn,.int .i64 dam,.int .i64 dab,.int .i64 dcm,.int .i64 dcb,.slice ma dds.length mc] 63));clear HK;have hwz:w.heap.size+1<wr.heap.size:=Nat.lt_of_lt_of_le (by omega) HBk.out.size;have hb2l:=HBL2.out;have hX:=(Below.refl wr.heap.size wr).alloc (Nat.le_refl _) (.cells #[.string cn,.int .i64 cam,.int .i64 cab,.int .i64 ccm,.int .i64 ccb,.slice na cds.length nc] 63);have s2:=(hX.cell (p:=⟨w.heap.size+1,2,none⟩) hwz).trans s2;have y0:=(hX.cell (p:=⟨b2,o2+k*6,none⟩) hb2l).trans y0;have y1:=(hX.cell (p:=⟨b2,o2+k*6+1,none⟩) hb2l).trans y1;have y2:=(hX.cell (p:=⟨b2,o2+k*6+2,none⟩) hb2l).trans y2;have y3:=(hX.cell (p:=⟨b2,o2+k*6+3,none⟩) hb2l).trans y3;have y4:=(hX.cell (p:=⟨b2,o2+k*6+4,none⟩) hb2l).trans y4;have y5:=(hX.cell (p:=⟨b2,o2+k*6+5,none⟩) hb2l).trans y5;clear hX hb2l
      by_cases f0:cn=dn
      ·subst f0
       by_cases f1:cam=dam
       ·subst f1
        by_cases f2:cab=dab
        ·subst f2
         by_cases f3:ccm=dcm
         ·subst f3
          by_cases f4:ccb=dcb
          ·subst f4
           by_cases f6:cds.length=dds.length
           ·rw [← f6] at y5 HBx HN2;have F6:=qI f6;clear f6;have z5:((wr.alloc (.cells #[.string cn,.int .i64 cam,.int .i64 cab,.int .i64 ccm,.int .i64 ccb,.slice na cds.length nc] 63)).alloc (.cells #[.string cn,.int .i64 cam,.int .i64 cab,.int .i64 ccm,.int .i64 ccb,.slice ma cds.length mc] 63)).cell? ⟨wr.heap.size,5,none⟩=some (.slice na cds.length nc):=by simp
            have z6:((wr.alloc (.cells #[.string cn,.int .i64 cam,.int .i64 cab,.int .i64 ccm,.int .i64 ccb,.slice na cds.length nc] 63)).alloc (.cells #[.string cn,.int .i64 cam,.int .i64 cab,.int .i64 ccm,.int .i64 ccb,.slice ma cds.length mc] 63)).cell? ⟨wr.heap.size+1,5,none⟩=some (.slice ma cds.length mc):=by simp
            go_wp2_with fail
            generalize ((wr.alloc (.cells #[.string cn,.int .i64 cam,.int .i64 cab,.int .i64 ccm,.int .i64 ccb,.slice na cds.length nc] 63)).alloc (.cells #[.string cn,.int .i64 cam,.int .i64 cab,.int .i64 ccm,.int .i64 ccb,.slice ma cds.length mc] 63))=W5 at *;clear x0 x1 x2 x3 x4 x5 y0 y1 y2 y3 y4 y5;have HB5:=qI (HBk.out.trans (HBx.out.mono HBk.out.size))
            go_loopw [8] (fun i wr2=>∃ j m:Nat,j≤cds.length∧i=.int .i64 j∧wr2=W5.drewN m) (fun i _=>cds.length - (intOf i).toNat)
            case atStart=>exact ⟨0,0,by omega,rfl,rfl⟩
            case round=>
             obtain ⟨j,m,hj,rfl,rfl⟩:=hrel
             by_cases hjl:j<cds.length
             ·obtain ⟨u1,v1,rfl,ul1,t1,t2⟩:=HN1.out j hjl;obtain ⟨u2,v2,rfl,ul2,t3,t4⟩:=HN2.out j hjl;have t1:=(HBx.out.cell (p:=⟨u1,v1+j*2,none⟩) ul1).trans t1;have t2:=(HBx.out.cell (p:=⟨u1,v1+j*2+1,none⟩) ul1).trans t2;have t3:=(HBx.out.cell (p:=⟨u2,v2+j*2,none⟩) ul2).trans t3;have t4:=(HBx.out.cell (p:=⟨u2,v2+j*2+1,none⟩) ul2).trans t4;have l1:Hid (PQ→(nd cds j).kind=(nd dds j).kind):=fun e=>by rw [j6.out e]
              have l2:Hid (PQ→(nd cds j).many=(nd dds j).many):=fun e=>by rw [j6.out e]
              generalize (nd cds j).kind=ki at *;generalize (nd dds j).kind=kj at *;generalize (nd cds j).many=mi at *;generalize (nd dds j).many=mj at *
              by_cases g1:ki=kj
              ·subst g1
               by_cases g2:mi=mj
               ·subst g2
                go_wp2_with fail
                go_quiet (fail)
                go_wp2_with fail
                go_roundw
                case rel=>exact ⟨j+1,_,by omega,by go_num,rfl⟩
                case measure=>simp [intOf];omega
               ·have G2:=qI g2;have g2':(mi == mj)=false:=by simpa using g2
                clear g2
                go_wp2_with fail
                go_quiet (fail)
                go_wp2_with fail
                go_ret;exact ⟨_,rfl,fun e=>absurd (l2.out e) G2.out,(HB0.out.trans (HB5.out.mono HB0.out.size)).trans ((below_drewNE2 _ _ _).mono (Nat.le_trans HB0.out.size HB5.out.size))⟩
              ·have G1:=qI g1;have g1':(ki.toList == kj.toList)=false:=by rw [beq_eq_false_iff_ne];intro h;exact g1 (ByteArray.ext (by rw [ByteArray.toList_eq,ByteArray.toList_eq] at h;exact Array.toList_inj.1 h))
               clear g1
               go_wp2_with fail
               go_quiet (fail)
               go_wp2_with fail
               go_ret;exact ⟨_,rfl,fun e=>absurd (l1.out e) G1.out,(HB0.out.trans (HB5.out.mono HB0.out.size)).trans ((below_drewNE2 _ _ _).mono (Nat.le_trans HB0.out.size HB5.out.size))⟩
             ·have hje:j=cds.length:=by omega
              subst hje
              go_wp2_with fail
              go_roundw
              case rel=>exact ⟨k+1,by omega,by go_num,HB5.out.trans ((below_drewNE _ _).mono HB5.out.size)⟩
              case measure=>simp [intOf];omega
           ·have f6':((cds.length:Int) == (dds.length:Int))=false:=by simp;omega
            have F6:=qI f6;clear f6
            go_wp2_with fail
            go_ret;exact ⟨_,rfl,fun e=>absurd (congrArg List.length (j6.out e)) F6.out,HB1.out.trans (HBx.out.mono HB1.out.size)⟩
          ·have F4:=qI f4;have f4':(ccb == dcb)=false:=by simpa using F4.out
           clear f4
           go_wp2_with fail
           go_ret;exact ⟨_,rfl,fun e=>absurd (j5.out e) F4.out,HB1.out.trans (HBx.out.mono HB1.out.size)⟩
         ·have F3:=qI f3;have f3':(ccm == dcm)=false:=by simpa using F3.out
          clear f3
          go_wp2_with fail
          go_ret;exact ⟨_,rfl,fun e=>absurd (j4.out e) F3.out,HB1.out.trans (HBx.out.mono HB1.out.size)⟩
        ·have F2:=qI f2;have f2':(cab == dab)=false:=by simpa using F2.out
         clear f2
         go_wp2_with fail
         go_ret;exact ⟨_,rfl,fun e=>absurd (j3.out e) F2.out,HB1.out.trans (HBx.out.mono HB1.out.size)⟩
       ·have F1:=qI f1;have f1':(cam == dam)=false:=by simpa using F1.out
        clear f1
        go_wp2_with fail
        go_ret;exact ⟨_,rfl,fun e=>absurd (j2.out e) F1.out,HB1.out.trans (HBx.out.mono HB1.out.size)⟩
      ·have F0:=qI f0;have f0':(cn.toList == dn.toList)=false:=by rw [beq_eq_false_iff_ne];intro h;exact F0.out (ByteArray.ext (by rw [ByteArray.toList_eq,ByteArray.toList_eq] at h;exact Array.toList_inj.1 h))
       clear f0
       go_wp2_with fail
       go_ret;exact ⟨_,rfl,fun e=>absurd (j1.out e) F0.out,HB1.out.trans (HBx.out.mono HB1.out.size)⟩
     ·have hke:k=pcs.length:=by omega
      subst hke
      go_wp2_with fail
      go_ret;exact ⟨_,rfl,fun _=>rfl,HB1.out⟩
   ·have hb:((pcs.length:Int) == (qcs.length:Int))=false:=by simp;omega
    go_enter Tryz.func59,Tryz.ntmps59
    have E3:=qI e3;clear e3
    go_wp2_with fail
    go_ret;exact ⟨_,rfl,fun e=>absurd (congrArg List.length (k3.out e)) E3.out,HB0.out⟩
  ·have E2:=qI e2;have e2':(pp == qp)=false:=by simpa using e2
   clear e2;have HB0:=qI (((Below.refl w.heap.size w).alloc (Nat.le_refl _) (.cells #[.string pn,.int .i64 pp,.slice a1 pcs.length c1] 47)).alloc (by simp) (.cells #[.string pn,.int .i64 qp,.slice a2 qcs.length c2] 47))
   go_enter Tryz.func59,Tryz.ntmps59
   go_wp2_with fail
   go_ret;exact ⟨_,rfl,fun e=>absurd (k2.out e) E2.out,HB0.out⟩
 ·have E1:=qI e1;have e1':(pn.toList == qn.toList)=false:=by rw [beq_eq_false_iff_ne];intro h;exact e1 (ByteArray.ext (by rw [ByteArray.toList_eq,ByteArray.toList_eq] at h;exact Array.toList_inj.1 h))
  clear e1;have HB0:=qI (((Below.refl w.heap.size w).alloc (Nat.le_refl _) (.cells #[.string pn,.int .i64 pp,.slice a1 pcs.length c1] 47)).alloc (by simp) (.cells #[.string qn,.int .i64 qp,.slice a2 qcs.length c2] 47))
  go_enter Tryz.func59,Tryz.ntmps59
  go_wp2_with fail
  go_ret;exact ⟨_,rfl,fun e=>absurd (k1.out e) E1.out,HB0.out⟩
end
section
open Go.RowKit
end
section
open Go.RowKit
end
section
open Go.RowKit
end
section
open Go.RowKit
end
section
open Go.RowKit Go.Shelf
open Qos (Nd Ct Pd nd ct pd)
open Sv (Gv Hd gv hd)
attribute [local go_sem] Oper.semAt_some
theorem HldsIn.atE {w:World} {b o:Nat} {hs:List Hd} {cv gvv:Nat→Value} (h:HldsIn w b o hs cv gvv) {k:Nat} (hk:k<hs.length):w.cell? ⟨b,o+k*4,none⟩=some (.string (hd hs k).pod.nm)∧w.cell? ⟨b,o+k*4+1,none⟩=some (.int .i64 (hd hs k).pod.pr)∧w.cell? ⟨b,o+k*4+2,none⟩=some (cv k)∧w.cell? ⟨b,o+k*4+3,none⟩=some (gvv k):=(h.2 k hk).1
theorem GivsAt.parts {w:World} {v:Value} {gs:List Gv} (h:GivsAt w v gs):∃ ao c,v=.slice ao gs.length c∧(gs.length≤c∧c≤maxLen)∧∀ k,k<gs.length→∃ b o dv,ao=some ⟨b,o,none⟩∧b<w.heap.size∧w.cell? ⟨b,o+k*2,none⟩=some (.int .u64 (gv gs k).cp)∧w.cell? ⟨b,o+k*2+1,none⟩=some dv∧IntsOf w dv (gv gs k).dv:=by
 obtain ⟨ao,c,rfl,hm,hr⟩:=h;refine ⟨ao,c,rfl,hm,fun k hk=>?_⟩;obtain ⟨b,o,dv,ha,hlt,hc⟩:=hr (by omega);exact ⟨b,o,dv k,ha,hlt,(hc k hk).1.1,(hc k hk).1.2.1,(hc k hk).2⟩
theorem sameHeld_any (v1 v2:Value) (hs gs:List Hd) (w:World) (h1:HldsAt w v1 hs) (h2:HldsAt w v2 gs) :
  Calls Tryz.prog 24 #[v1,v2] w (AnsIf (hs=gs) w):=by
 obtain ⟨a1,c1,rfl,m1,h1⟩:=h1;obtain ⟨a2,c2,rfl,m2,h2⟩:=h2;unfold maxLen at m1 m2;have H1:=qI h1;have H2:=qI h2;clear h1 h2;have k1:Hid (hs=gs→hs.length=gs.length):=fun e=>by rw [e]
 have k2:Hid (∀ k,hs=gs→hd hs k=hd gs k):=fun k e=>by rw [e]
 generalize (hs=gs)=PQ at *
 by_cases e1:hs.length=gs.length
 ·rw [← e1];have E1:=qI e1;clear e1
  go_enter Tryz.func24,Tryz.ntmps24
  go_wp2_with fail
  go_loopw [5] (fun i wr=>∃ k:Nat,k≤hs.length∧i=.int .i64 k∧Below w.heap.size w wr) (fun i _=>hs.length - (intOf i).toNat)
  case atStart=>exact ⟨0,by omega,rfl,Below.refl _ _⟩
  case round=>
   obtain ⟨k,hk,rfl,hb⟩:=hrel;have HB1:=qI hb;clear hb
   by_cases hlt:k<hs.length
   ·obtain ⟨b1,o1,cv1,gv1,rfl,hc1⟩:=H1.out (by omega);obtain ⟨b2,o2,cv2,gv2,rfl,hc2⟩:=H2.out (by rw [← E1.out];omega);have hk2:k<gs.length:=by rw [← E1.out];exact hlt
    have hC1:=((hc1.below HB1.out).2 k hlt).2;have hC2:=((hc2.below HB1.out).2 k hk2).2;have HL1:=qI (hc1.below HB1.out).1;have HL2:=qI (hc2.below HB1.out).1;have HS0:=qI (show (wr.drew.cell? ⟨b1,o1+k*4,none⟩=some (.string (hd hs k).pod.nm)∧wr.drew.cell? ⟨b1,o1+k*4+1,none⟩=some (.int .i64 (hd hs k).pod.pr)∧wr.drew.cell? ⟨b1,o1+k*4+2,none⟩=some (cv1 k)∧wr.drew.cell? ⟨b1,o1+k*4+3,none⟩=some (gv1 k))∧(wr.drew.cell? ⟨b2,o2+k*4,none⟩=some (.string (hd gs k).pod.nm)∧wr.drew.cell? ⟨b2,o2+k*4+1,none⟩=some (.int .i64 (hd gs k).pod.pr)∧wr.drew.cell? ⟨b2,o2+k*4+2,none⟩=some (cv2 k)∧wr.drew.cell? ⟨b2,o2+k*4+3,none⟩=some (gv2 k)) from ⟨(hc1.below HB1.out).atE hlt,(hc2.below HB1.out).atE hk2⟩);have HK:=qI (k2.out k);have hBd:Below wr.heap.size wr wr.drew:=⟨rfl,rfl,rfl,Nat.le_refl _,fun _ _=>rfl⟩;have HSP:=qI (samePod_any (hd hs k).pod (hd gs k).pod (cv1 k) (cv2 k) wr.drew (hC1.1.below hBd) (hC2.1.below hBd));unfold podV at HSP;obtain ⟨na1,nc1,hn1,_,_⟩:=hC1.1;obtain ⟨na2,nc2,hn2,_,_⟩:=hC2.1;obtain ⟨ga1,gc1,hg1,gm1,hG1⟩:=hC1.2.parts;obtain ⟨ga2,gc2,hg2,gm2,hG2⟩:=hC2.2.parts;have HG1:=qI hG1;have HG2:=qI hG2;unfold maxLen at gm1 gm2;clear hC1 hC2 hc1 hc2 hG1 hG2 H1 H2;rw [hn1,hg1,hn2,hg2] at HS0;rw [hn1,hn2] at HSP;clear hn1 hn2 hg1 hg2;generalize hd hs k=x at *;generalize hd gs k=y at *;obtain ⟨⟨xn,xp,xc⟩,xg⟩:=x;obtain ⟨⟨yn,yp,yc⟩,yg⟩:=y;dsimp only at HS0 HSP HG1 HG2 gm1 gm2
    go_wp2_with fail
    refine wp_region_held_drew (S:=(fun w'=>(w'.cell? ⟨b1,o1+k*4,none⟩=some (.string xn)∧w'.cell? ⟨b1,o1+k*4+1,none⟩=some (.int .i64 xp)∧w'.cell? ⟨b1,o1+k*4+2,none⟩=some (.slice na1 xc.length nc1)∧w'.cell? ⟨b1,o1+k*4+3,none⟩=some (.slice ga1 xg.length gc1))∧(w'.cell? ⟨b2,o2+k*4,none⟩=some (.string yn)∧w'.cell? ⟨b2,o2+k*4+1,none⟩=some (.int .i64 yp)∧w'.cell? ⟨b2,o2+k*4+2,none⟩=some (.slice na2 yc.length nc2)∧w'.cell? ⟨b2,o2+k*4+3,none⟩=some (.slice ga2 yg.length gc2)))) (by kernel_rfl) HS0.out (fun hHeld=>?_);refine tk 0 ?_;refine tk 1 ?_;refine tk 2 ?_;refine tk 3 ?_;refine tk 4 ?_;refine tk 5 ?_;refine tk 6 ?_;refine tk 7 ?_;refine tk 8 ?_;refine tk 9 ?_;refine rd 10 (fun K hK=>?_);go_simp
    go_wp2_with fail
    refine HSP.out.mono ?_;rintro e W1 ⟨sb,rfl,hsb,hb1⟩;have HB2:=qI (HB1.out.trans ((show Below wr.heap.size wr W1 from ⟨hb1.os,hb1.tape,hb1.output,hb1.size,hb1.block⟩).mono HB1.out.size));have HBW:=qI (show Below wr.heap.size wr W1 from ⟨hb1.os,hb1.tape,hb1.output,hb1.size,hb1.block⟩);have HSB:=qI hsb;have HS1:=qI (show (W1.cell? ⟨b1,o1+k*4,none⟩=some (.string xn)∧W1.cell? ⟨b1,o1+k*4+1,none⟩=some (.int .i64 xp)∧W1.cell? ⟨b1,o1+k*4+2,none⟩=some (.slice na1 xc.length nc1)∧W1.cell? ⟨b1,o1+k*4+3,none⟩=some (.slice ga1 xg.length gc1))∧(W1.cell? ⟨b2,o2+k*4,none⟩=some (.string yn)∧W1.cell? ⟨b2,o2+k*4+1,none⟩=some (.int .i64 yp)∧W1.cell? ⟨b2,o2+k*4+2,none⟩=some (.slice na2 yc.length nc2)∧W1.cell? ⟨b2,o2+k*4+3,none⟩=some (.slice ga2 yg.length gc2)) from ⟨⟨(hb1.cell (p:=⟨b1,o1+k*4,none⟩) HL1.out).trans HS0.out.1.1,(hb1.cell (p:=⟨b1,o1+k*4+1,none⟩) HL1.out).trans HS0.out.1.2.1,(hb1.cell (p:=⟨b1,o1+k*4+2,none⟩) HL1.out).trans HS0.out.1.2.2.1,(hb1.cell (p:=⟨b1,o1+k*4+3,none⟩) HL1.out).trans HS0.out.1.2.2.2⟩,⟨(hb1.cell (p:=⟨b2,o2+k*4,none⟩) HL2.out).trans HS0.out.2.1,(hb1.cell (p:=⟨b2,o2+k*4+1,none⟩) HL2.out).trans HS0.out.2.2.1,(hb1.cell (p:=⟨b2,o2+k*4+2,none⟩) HL2.out).trans HS0.out.2.2.2.1,(hb1.cell (p:=⟨b2,o2+k*4+3,none⟩) HL2.out).trans HS0.out.2.2.2.2⟩⟩);clear hb1 hsb
    go_wp2_with fail
    refine hK.out _ _ HS1.out (fun hHeld=>?_);clear hK K;refine tk 11 ?_;refine wpAnyH_done (by kernel_rfl) ?_ _;clear hHeld HSP HS0;have r3:=HS1.out.1.2.2.2;have s3:=HS1.out.2.2.2.2;have KP:Hid (PQ→(⟨xn,xp,xc⟩:Pd)=⟨yn,yp,yc⟩):=fun e=>by have h:=HK.out e;injection h
    have KG:Hid (PQ→xg=yg):=fun e=>by have h:=HK.out e;injection h
    clear HK;cases sb with
    | false=>
     go_wp2_with fail
     go_quiet (fail)
     go_wp2_with fail
     go_ret;exact ⟨_,rfl,fun e=>absurd (HSB.out (KP.out e)) (by decide),HB2.out.trans ((below_drewNE _ _).mono HB2.out.size)⟩
    | true=>
     clear HSB KP
     by_cases e2:xg.length=yg.length
     ·rw [← e2] at s3;have E2:=qI e2;clear e2 gm2
      go_wp2_with fail
      go_quiet (fail)
      go_wp2_with fail
      go_loopw [7] (fun i wq=>∃ j:Nat,j≤xg.length∧i=.int .i64 j∧Below W1.heap.size W1 wq) (fun i _=>xg.length - (intOf i).toNat)
      case atStart=>exact ⟨0,by omega,rfl,below_drewNE _ _⟩
      case round=>
       obtain ⟨j,hj,rfl,hb⟩:=hrel;have hl1:=Nat.lt_of_lt_of_le HL1.out HBW.out.size;have hl2:=Nat.lt_of_lt_of_le HL2.out HBW.out.size;have r4:=(hb.cell (p:=⟨b1,o1+k*4+3,none⟩) hl1).trans r3;have s4:=(hb.cell (p:=⟨b2,o2+k*4+3,none⟩) hl2).trans s3;have HB3:=qI (HB2.out.trans (hb.mono HB2.out.size));have HBv:=qI (HBW.out.trans (hb.mono HBW.out.size));have HBj:=qI hb;clear hb
       by_cases hjl:j<xg.length
       ·obtain ⟨u1,v1,dv1,rfl,hu1,x0,x1,hi1⟩:=HG1.out j hjl;obtain ⟨u2,v2,dv2,rfl,hu2,y0,y1,hi2⟩:=HG2.out j (by rw [← E2.out];exact hjl);have x0:=(HBv.out.cell (p:=⟨u1,v1+j*2,none⟩) hu1).trans x0;have x1:=(HBv.out.cell (p:=⟨u1,v1+j*2+1,none⟩) hu1).trans x1;have y0:=(HBv.out.cell (p:=⟨u2,v2+j*2,none⟩) hu2).trans y0;have y1:=(HBv.out.cell (p:=⟨u2,v2+j*2+1,none⟩) hu2).trans y1;have j1:Hid (PQ→(gv xg j).cp=(gv yg j).cp):=fun e=>by rw [KG.out e]
        have j2:Hid (PQ→(gv xg j).dv=(gv yg j).dv):=fun e=>by rw [KG.out e]
        have HI1:=qI (hi1.below HBv.out);have HI2:=qI (hi2.below HBv.out);obtain ⟨da1,dc1,rfl,_,_⟩:=hi1;obtain ⟨da2,dc2,rfl,_,_⟩:=hi2;generalize (gv xg j).cp=cp1 at *;generalize (gv yg j).cp=cp2 at *;generalize (gv xg j).dv=dx at *;generalize (gv yg j).dv=dy at *;have hX:=(Below.refl wr.heap.size wr).alloc (Nat.le_refl _) (.cells #[.int .u64 cp1,.slice da1 dx.length dc1] 69);have s4:=(hX.cell (p:=⟨b2,o2+k*4+3,none⟩) (Nat.lt_of_lt_of_le hl2 HBj.out.size)).trans s4;have y0:=(hX.cell (p:=⟨u2,v2+j*2,none⟩) (Nat.lt_of_lt_of_le hu2 HBv.out.size)).trans y0;have y1:=(hX.cell (p:=⟨u2,v2+j*2+1,none⟩) (Nat.lt_of_lt_of_le hu2 HBv.out.size)).trans y1;have HXY:=qI (hX.alloc hX.size (.cells #[.int .u64 cp2,.slice da2 dy.length dc2] 69));have HSN:=qI (sameInts_any _ _ dx dy _ (HI1.out.below HXY.out) (HI2.out.below HXY.out));have HB6:=qI (HB3.out.trans (HXY.out.mono HB3.out.size));have HBj6:=qI (HBj.out.trans (HXY.out.mono HBj.out.size));have z0:((wr.alloc (.cells #[.int .u64 cp1,.slice da1 dx.length dc1] 69)).alloc (.cells #[.int .u64 cp2,.slice da2 dy.length dc2] 69)).cell? ⟨wr.heap.size,0,none⟩=some (.int .u64 cp1):=by simp
        have z1:((wr.alloc (.cells #[.int .u64 cp1,.slice da1 dx.length dc1] 69)).alloc (.cells #[.int .u64 cp2,.slice da2 dy.length dc2] 69)).cell? ⟨wr.heap.size,1,none⟩=some (.slice da1 dx.length dc1):=by simp
        have z2:((wr.alloc (.cells #[.int .u64 cp1,.slice da1 dx.length dc1] 69)).alloc (.cells #[.int .u64 cp2,.slice da2 dy.length dc2] 69)).cell? ⟨wr.heap.size+1,0,none⟩=some (.int .u64 cp2):=by simp
        have z3:((wr.alloc (.cells #[.int .u64 cp1,.slice da1 dx.length dc1] 69)).alloc (.cells #[.int .u64 cp2,.slice da2 dy.length dc2] 69)).cell? ⟨wr.heap.size+1,1,none⟩=some (.slice da2 dy.length dc2):=by simp
        clear hX HI1 HI2 HG1 HG2
        go_wp2_with fail
        generalize ((wr.alloc (.cells #[.int .u64 cp1,.slice da1 dx.length dc1] 69)).alloc (.cells #[.int .u64 cp2,.slice da2 dy.length dc2] 69))=W6 at *;refine HSN.out.mono ?_;rintro e w7 ⟨db,rfl,hdb,n7,rfl⟩;have HDB:=qI hdb;clear hdb HSN
        by_cases e3:cp1=cp2
        ·subst e3;cases db with
         | true=>
          go_wp2_with fail
          go_roundw
          case rel=>exact ⟨j+1,by omega,by go_num,HBj6.out.trans ((below_drewNE _ _).mono HBj6.out.size)⟩
          case measure=>simp [intOf];omega
         | false=>
          go_wp2_with fail
          go_ret;exact ⟨_,rfl,fun e=>absurd (HDB.out (j2.out e)) (by decide),HB6.out.trans ((below_drewNE _ _).mono HB6.out.size)⟩
        ·have e3':((cp1:Int) == (cp2:Int))=false:=by simp;omega
         have e3'':(cp1 == cp2)=false:=by simpa using e3
         have e3d:¬ ((cp1:Int)=(cp2:Int)):=by omega
         have E3:=qI e3;clear e3
         go_wp2_with fail
         go_ret;exact ⟨_,rfl,fun e=>absurd (j1.out e) E3.out,HB6.out.trans ((below_drewNE _ _).mono HB6.out.size)⟩
       ·have hje:j=xg.length:=by omega
        subst hje
        go_wp2_with fail
        go_roundw
        case rel=>exact ⟨k+1,by omega,by go_num,HB3.out⟩
        case measure=>simp [intOf];omega
     ·have e2':((xg.length:Int) == (yg.length:Int))=false:=by simp;omega
      have E2:=qI e2;clear e2
      go_wp2_with fail
      go_quiet (fail)
      go_wp2_with fail
      go_ret;exact ⟨_,rfl,fun e=>absurd (congrArg List.length (KG.out e)) E2.out,HB2.out.trans ((below_drewNE _ _).mono HB2.out.size)⟩
   ·have hke:k=hs.length:=by omega
    subst hke
    go_wp2_with fail
    go_ret;exact ⟨_,rfl,fun _=>rfl,HB1.out⟩
 ·have hb:((hs.length:Int) == (gs.length:Int))=false:=by simp;omega
  have E1:=qI e1;clear e1
  go_enter Tryz.func24,Tryz.ntmps24
  go_wp2_with fail
  go_ret;exact ⟨_,rfl,fun e=>absurd (k1.out e) E1.out,Below.refl _ _⟩
end
section
open Go.RowKit Go.Shelf
open Sv (Gv Hd gv hd wd Tx sumTxt heldTxt heldF body readS)
open S1 (Mx Tab)
structure Dk where
 n:Sd
 k:Sd
 wt:Option Chg
 l:Int
 d:Bool
def DkAt (W:World) (B:Nat) (s:Dk):Prop:=(-9223372036854775808≤s.l∧s.l≤9223372036854775807)∧∃ v,DiskW W B s.n s.k v s.l s.d∧
 match s.wt with
 | none=>v=.slice none 0 0
 | some c=>∃ g cap,v=.slice (some ⟨g,0,none⟩) 1 cap∧1≤cap∧g≠B∧ChgAt W g c.wr c.bs
theorem DkAt.lt {W:World} {B:Nat} {s:Dk} (h:DkAt W B s):B<W.heap.size:=by
 obtain ⟨_,v,h,_⟩:=h;exact h.lt
theorem DkAt.below {W W':World} {B:Nat} {s:Dk} (h:DkAt W B s) (hb:Below W.heap.size W W'):DkAt W' B s:=by
 obtain ⟨h0,v,h1,h2⟩:=h;refine ⟨h0,v,h1.block (hb.block B h1.lt),?_⟩;cases hw:s.wt with
 | none=>rw [hw] at h2;exact h2
 | some c=>
  rw [hw] at h2;obtain ⟨g,cap,e,hc,hg,hch⟩:=h2;exact ⟨g,cap,e,hc,hg,hch.block (hb.block g hch.1)⟩
def Dk.fresh:Dk:=⟨⟨false,⟨#[]⟩,false,⟨#[]⟩⟩,⟨false,⟨#[]⟩,false,⟨#[]⟩⟩,none,-1,false⟩
theorem diskNew_any (w:World):Calls Tryz.prog 30 #[] w fun e w'=>e=.returned (.pointer (some ⟨w.heap.size,0,none⟩))∧DkAt w' w.heap.size Dk.fresh∧Below w.heap.size w w':=by
 go_enter Tryz.func30,Tryz.ntmps30
 go_wp2_with fail
 go_ret;exact ⟨rfl,⟨⟨by decide,by decide⟩,_,World.alloc_heap_new w _,rfl⟩,(Below.refl _ _).alloc (Nat.le_refl _) _⟩
theorem DkAt.only {W W':World} {B:Nat} {s s':Dk} (h:DkAt W B s) (ho:W.grownBy W' (some B)) (he:s'.wt=s.wt) (hl:-9223372036854775808≤s'.l∧s'.l≤9223372036854775807) (hd:∀ v,DiskW W B s.n s.k v s.l s.d→DiskW W' B s'.n s'.k v s'.l s'.d):DkAt W' B s':=by
 obtain ⟨_,v,h1,h2⟩:=h;refine ⟨hl,v,hd v h1,?_⟩;rw [he];cases hw:s.wt with
 | none=>rw [hw] at h2;exact h2
 | some c=>
  rw [hw] at h2;obtain ⟨g,cap,e,hc,hg,hch⟩:=h2;exact ⟨g,cap,e,hc,hg,hch.block (ho.block g hch.1 (fun e=>hg (by injection e with e)))⟩
theorem eql_err (w:World) (i j:Int):Sem.run Tryz.prog (binOp .eql 40 (.iface 121 (.int .i64 i)) (.iface 121 (.int .i64 j))) w=.ok (.bool (i == j)) w:=by
 rfl
def Dk.load (s:Dk):Nat × List Hd:=if s.d=true then (11,[]) else if s.n.ft=true then Sv.parseS s.n.fb.data.toList else (0,[])
end
section
open Go.RowKit Go.Shelf
open Qos (Nd Ct Pd nd ct pd)
open Sv (Gv Hd gv hd)
end
section
open Go.RowKit Go.Shelf
open Sv (Gv Hd gv hd wd Tx sumTxt heldTxt heldF body readS)
open S1 (Mx Tab)
def Dk.fall (s:Dk):Dk:={ s with l:=stepN s.l s.d,d:=true }
def Dk.apply (s:Dk) (c:Chg):Nat × Dk:=if stepE s.l s.d=0 then (0,⟨c.on s.n,s.k,some c,stepN s.l s.d,false⟩) else (11,s.fall)
def Dk.sync (s:Dk):Nat × Dk:=if stepE s.l s.d=0 then (0,⟨s.n,s.n,none,stepN s.l s.d,false⟩) else (11,s.fall)
def Dk.write (s:Dk) (t:ByteArray):Nat × Dk:=if 6000<t.size then (2,s) else s.apply ⟨true,t⟩
theorem stepN_in {l:Int} {d:Bool} (h:-9223372036854775808≤l∧l≤9223372036854775807):-9223372036854775808≤stepN l d∧stepN l d≤9223372036854775807:=by
 unfold stepN
 split
 ·exact h
 ·split <;> omega
theorem stepE_no {l:Int} {d:Bool} (h:stepE l d≠0):stepE l d=11∧stepF l d=true:=by
 rcases step_two l d with h1|h1
 ·exact h1
 ·exact absurd h1.1 h
theorem DkAt.fall {W W':World} {B:Nat} {s:Dk} (h:DkAt W B s) (ho:W.grownBy W' (some B)) (hd:∀ v,DiskW W B s.n s.k v s.l s.d→DiskW W' B s.n s.k v (stepN s.l s.d) true):DkAt W' B s.fall:=
 h.only ho rfl (stepN_in h.1) hd
theorem DkAt.waits {W W':World} {B:Nat} {n k:Sd} {l:Int} {c:Chg} (hB:B<W.heap.size) (hl:-9223372036854775808≤l∧l≤9223372036854775807) (h:Waits W W' B n k l c.wr c.bs):DkAt W' B ⟨n,k,some c,l,false⟩:=by
 obtain ⟨g,cap,h1,⟨h2,h3⟩,h4⟩:=h;exact ⟨hl,_,h1,g,cap,rfl,h3,by omega,h4⟩
theorem DkAt.val {W:World} {B:Nat} {s:Dk} (h:DkAt W B s):∃ v,DiskW W B s.n s.k v s.l s.d∧(∀ v2,DiskW W B s.n s.k v2 s.l s.d→v2=v)∧(s.wt=none→v=.slice none 0 0):=by
 obtain ⟨_,v,h1,h2⟩:=h;refine ⟨v,h1,fun v2 hv2=>?_,fun hw=>?_⟩
 ·have e1:=h1.rest.1;have e2:=hv2.rest.1;rw [e1] at e2;injection e2 with e2;exact e2.symm
 ·rw [hw] at h2;exact h2
theorem sync_any (B:Nat) (s:Dk) (w:World) (h:DkAt w B s):Calls Tryz.prog 100 #[.pointer (some ⟨B,0,none⟩)] w fun e w'=>e=.returned (errV (s.sync.1:Nat))∧DkAt w' B s.sync.2∧w.grownBy w' (some B):=by
 obtain ⟨v,h1,h2,h3⟩:=h.val;refine (syncW_any B s.n s.k v s.l s.d w h1 h.1).mono ?_
 by_cases h0:stepE s.l s.d=0
 ·have hsy:s.sync=(0,⟨s.n,s.n,none,stepN s.l s.d,false⟩):=by unfold Dk.sync;rw [if_pos h0]
  have hF:stepF s.l s.d=false:=by
   rcases step_two s.l s.d with h4|h4
   ·rw [h0] at h4;exact absurd h4.1 (by decide)
   ·exact h4.2
  rw [hsy,h0,if_pos rfl,if_pos rfl,hF];rintro e w' ⟨rfl,hd,ho⟩;exact ⟨rfl,⟨stepN_in h.1,_,hd,rfl⟩,ho.1⟩
 ·have hsy:s.sync=(11,s.fall):=by unfold Dk.sync;rw [if_neg h0]
  obtain ⟨hE,hF⟩:=stepE_no h0;rw [hsy,hE,if_neg (by decide),if_neg (by decide),hF];rintro e w' ⟨rfl,hd,ho⟩;exact ⟨rfl,h.fall ho.1 (fun v2 hv2=>by rw [h2 v2 hv2];exact hd),ho.1⟩
theorem move_any (B:Nat) (s:Dk) (w:World) (h:DkAt w B s) (hn:s.n.dt=true) (hw:s.wt=none):Calls Tryz.prog 101 #[.pointer (some ⟨B,0,none⟩)] w fun e w'=>e=.returned (errV ((s.apply ⟨false,⟨#[]⟩⟩).1:Nat))∧DkAt w' B (s.apply ⟨false,⟨#[]⟩⟩).2∧w.grownBy w' (some B):=by
 obtain ⟨v,h1,h2,h3⟩:=h.val
 by_cases h0:stepE s.l s.d=0
 ·have hsy:s.apply ⟨false,⟨#[]⟩⟩=(0,⟨Chg.on ⟨false,⟨#[]⟩⟩ s.n,s.k,some ⟨false,⟨#[]⟩⟩,stepN s.l s.d,false⟩):=by unfold Dk.apply;rw [if_pos h0]
  rw [hsy];have h1':=h1;rw [h3 hw] at h1';refine (move_yes B s.n s.k s.l s.d w h1' h.1 h0 hn).mono ?_;rintro e w' ⟨rfl,hd,ho⟩;exact ⟨rfl,DkAt.waits (c:=⟨false,⟨#[]⟩⟩) h1.lt (stepN_in h.1) hd,ho⟩
 ·have hsy:s.apply ⟨false,⟨#[]⟩⟩=(11,s.fall):=by unfold Dk.apply;rw [if_neg h0]
  rw [hsy];refine (move_no B s.n s.k v s.l s.d w h1 h.1 (stepE_no h0).1 hn).mono ?_;rintro e w' ⟨rfl,hd,ho⟩;exact ⟨rfl,h.fall ho (fun v2 hv2=>by rw [h2 v2 hv2];exact hd),ho⟩
theorem writeD_any (B:Nat) (s:Dk) (t:ByteArray) (w:World) (h:DkAt w B s) (hw:s.wt=none∨s.d=true) (ht:t.size≤maxLen):Calls Tryz.prog 99 #[.pointer (some ⟨B,0,none⟩),.string t] w fun e w'=>e=.returned (errV ((s.write t).1:Nat))∧DkAt w' B (s.write t).2∧w.grownBy w' (some B):=by
 obtain ⟨v,h1,h2,h3⟩:=h.val
 by_cases hl:6000<t.size
 ·have hsy:s.write t=(2,s):=if_pos hl;rw [hsy];refine (write_many B t w hl ht).mono ?_;rintro e w' ⟨rfl,rfl⟩;exact ⟨rfl,h,⟨rfl,rfl,rfl,Nat.le_refl _,fun _ _ _=>rfl⟩⟩
 ·have hsw:s.write t=s.apply ⟨true,t⟩:=if_neg hl
  by_cases h0:stepE s.l s.d=0
  ·have hsy:s.write t=(0,⟨Chg.on ⟨true,t⟩ s.n,s.k,some ⟨true,t⟩,stepN s.l s.d,false⟩):=by rw [hsw];unfold Dk.apply;rw [if_pos h0]
   rw [hsy];have hwn:s.wt=none:=by
    rcases hw with hw|hw
    ·exact hw
    ·unfold stepE at h0;rw [if_pos (.inl hw)] at h0;cases h0
   have h1':=h1;rw [h3 hwn] at h1';refine (write_yes B s.n s.k s.l s.d t w h1' h.1 h0 (by omega)).mono ?_;rintro e w' ⟨rfl,hd,ho⟩;exact ⟨rfl,DkAt.waits (c:=⟨true,t⟩) h1.lt (stepN_in h.1) hd,ho⟩
  ·have hsy:s.write t=(11,s.fall):=by rw [hsw];unfold Dk.apply;rw [if_neg h0]
   rw [hsy];refine (write_no B s.n s.k v s.l s.d t w h1 h.1 (stepE_no h0).1 (by omega)).mono ?_;rintro e w' ⟨rfl,hd,ho⟩;exact ⟨rfl,h.fall ho (fun v2 hv2=>by rw [h2 v2 hv2];exact hd),ho⟩
def Dk.act (t:ByteArray) (k:Nat) (s:Dk):Nat × Dk:=if k=0 then s.write t else if k=2 then s.apply ⟨false,⟨#[]⟩⟩ else s.sync
def Dk.run (s:Dk) (t:ByteArray):Nat→Dk
 | 0=>s
 | k+1=>(Dk.act t k (Dk.run s t k)).2
def Dk.err (s:Dk) (t:ByteArray) (k:Nat):Nat:=(Dk.act t k (s.run t k)).1
def Dk.from (s:Dk) (t:ByteArray) (k:Nat):Nat × Dk:=
 if k<4 then if s.err t k≠0 then (s.err t k,s.run t (k+1)) else Dk.from s t (k+1) else (0,s.run t k)
termination_by 4 - k
theorem Dk.from_no {s:Dk} {t:ByteArray} {k:Nat} (hk:k<4) (h:s.err t k≠0):s.from t k=(s.err t k,s.run t (k+1)):=by rw [Dk.from,if_pos hk,if_pos h]
theorem Dk.from_yes {s:Dk} {t:ByteArray} {k:Nat} (hk:k<4) (h:s.err t k=0):s.from t k=s.from t (k+1):=by rw [Dk.from,if_pos hk,if_neg (by simp [h])]
theorem Dk.from_end {s:Dk} {t:ByteArray}:s.from t 4=(0,s.run t 4):=by rw [Dk.from,if_neg (by decide)]
def Dk.save (s:Dk) (hs:List Hd):Nat × Dk:=if heldF hs=0 then s.from ⟨(heldTxt hs).toArray⟩ 0 else (heldF hs,s)
theorem act_ok {s:Dk} {t:ByteArray} {k:Nat} (h:(Dk.act t k s).1=0):(Dk.act t k s).2=(if k=0 then ⟨Chg.on ⟨true,t⟩ s.n,s.k,some ⟨true,t⟩,stepN s.l s.d,false⟩ else if k=2 then ⟨Chg.on ⟨false,⟨#[]⟩⟩ s.n,s.k,some ⟨false,⟨#[]⟩⟩,stepN s.l s.d,false⟩ else ⟨s.n,s.n,none,stepN s.l s.d,false⟩):=by
 unfold Dk.act at h ⊢
 by_cases h0:k=0
 ·rw [if_pos h0] at h ⊢;rw [if_pos h0];unfold Dk.write at h ⊢
  split at h
  ·cases h
  ·rename_i hl
   rw [if_neg hl];unfold Dk.apply at h ⊢
   split at h
   ·rename_i he;rw [if_pos he]
   ·cases h
 ·rw [if_neg h0] at h ⊢;rw [if_neg h0]
  by_cases h2:k=2
  ·rw [if_pos h2] at h ⊢;rw [if_pos h2];unfold Dk.apply at h ⊢
   split at h
   ·rename_i he;rw [if_pos he]
   ·cases h
  ·rw [if_neg h2] at h ⊢;rw [if_neg h2];unfold Dk.sync at h ⊢
   split at h
   ·rename_i he;rw [if_pos he]
   ·cases h
theorem run_1 {s:Dk} {t:ByteArray} (h0:s.err t 0=0):s.run t 1=⟨Chg.on ⟨true,t⟩ s.n,s.k,some ⟨true,t⟩,stepN s.l s.d,false⟩:=act_ok (k:=0) h0
theorem run_2 {s:Dk} {t:ByteArray} (h0:s.err t 0=0) (h1:s.err t 1=0):s.run t 2=⟨Chg.on ⟨true,t⟩ s.n,Chg.on ⟨true,t⟩ s.n,none,stepN (stepN s.l s.d) false,false⟩:=by
 refine (act_ok (k:=1) h1).trans ?_;rw [if_neg (by decide),if_neg (by decide),run_1 h0]
theorem run_3 {s:Dk} {t:ByteArray} (h0:s.err t 0=0) (h1:s.err t 1=0) (h2:s.err t 2=0):s.run t 3=⟨⟨true,t,false,⟨#[]⟩⟩,Chg.on ⟨true,t⟩ s.n,some ⟨false,⟨#[]⟩⟩,stepN (stepN (stepN s.l s.d) false) false,false⟩:=by
 refine (act_ok (k:=2) h2).trans ?_;rw [if_neg (by decide),if_pos rfl,run_2 h0 h1];rfl
theorem run_4 {s:Dk} {t:ByteArray} (h0:s.err t 0=0) (h1:s.err t 1=0) (h2:s.err t 2=0) (h3:s.err t 3=0):s.run t 4=⟨⟨true,t,false,⟨#[]⟩⟩,⟨true,t,false,⟨#[]⟩⟩,none,stepN (stepN (stepN (stepN s.l s.d) false) false) false,false⟩:=by
 refine (act_ok (k:=3) h3).trans ?_;rw [if_neg (by decide),if_neg (by decide),run_3 h0 h1 h2]
end
section
open Go.RowKit Go.Shelf
open Sv (Gv Hd gv hd wd Tx sumTxt heldTxt heldF body readS)
open S1 (Mx Tab)
theorem grown_of_below {a b:World} {r:Option Nat} (h:Below a.heap.size a b):a.grownBy b r:=⟨h.os,h.tape,h.output,h.size,fun k hk _=>h.block k hk⟩
theorem saveWrite_any (B b1 b2:Nat) (s:Dk) (t:ByteArray) (w:World) (h:DkAt w B s) (hw:s.wt=none∨s.d=true) (ht:t.size≤maxLen) (c1:w.cell? ⟨b1,0,none⟩=some (.pointer (some ⟨B,0,none⟩))) (c2:w.cell? ⟨b2,0,none⟩=some (.string t)) :
  Calls Tryz.prog 98 #[.pointer (some ⟨b1,0,none⟩),.pointer (some ⟨b2,0,none⟩)] w fun e w'=>e=.returned (errV ((s.write t).1:Nat))∧DkAt w' B (s.write t).2∧w.grownBy w' (some B):=by
 have HW:=qI (writeD_any B s t w h hw ht);clear h hw
 go_enter Tryz.func98,Tryz.ntmps98
 go_wp2_with fail
 refine HW.out.mono ?_;rintro e w1 ⟨rfl,h1,h2⟩;have H1:=qI h1;have H2:=qI h2;clear h1 h2 HW
 go_wp2_with fail
 go_ret;exact ⟨rfl,H1.out,H2.out⟩
theorem Dk.from_upto {s:Dk} {t:ByteArray}:∀ {k:Nat},k≤4→(∀ j,j<k→s.err t j=0)→s.from t 0=s.from t k
 | 0,_,_=>rfl
 | k+1,hk,h=>(Dk.from_upto (by omega) (fun j hj=>h j (by omega))).trans (Dk.from_yes (by omega) (h k (by omega)))
theorem errV_two (k:Nat):(k=0∧errV ((k:Nat):Int)=.nilIface)∨(k≠0∧errV ((k:Nat):Int)=.iface 121 (.int .i64 k)):=by
 by_cases h:k=0
 ·subst h;exact .inl ⟨rfl,rfl⟩
 ·exact .inr ⟨h,errQ_pos h⟩
theorem save_any (B:Nat) (s:Dk) (v:Value) (hs:List Hd) (w:World) (h:DkAt w B s) (hw:s.wt=none∨s.d=true) (hv:HldsAt w v hs) (ht:TabUp w):Calls Tryz.prog 56 #[.pointer (some ⟨B,0,none⟩),v] w fun e w'=>e=.returned (errV ((s.save hs).1:Nat))∧DkAt w' B (s.save hs).2∧w.grownBy w' (some B):=by
 have HB0:=qI ((Below.refl w.heap.size w).alloc (Nat.le_refl _) (.cells #[.pointer (some ⟨B,0,none⟩)] 32));have HTX:=qI (text_any v hs _ (hv.below HB0.out) (ht.below HB0.out));have HD:=qI h;have HBL:=qI h.lt;have cb:(w.alloc (.cells #[.pointer (some ⟨B,0,none⟩)] 32)).cell? ⟨w.heap.size,0,none⟩=some (.pointer (some ⟨B,0,none⟩)):=by simp
 have hszb:(w.alloc (.cells #[.pointer (some ⟨B,0,none⟩)] 32)).heap.size=w.heap.size+1:=by simp
 have hvcps:=hv.cps;obtain ⟨va,vc,rfl,hvm,_⟩:=hv;clear h ht
 by_cases hf:heldF hs=0
 ·have HTV:Hid (textV hs=.tuple #[.string ⟨(heldTxt hs).toArray⟩,.nilIface]):=by unfold Hid textV;rw [if_pos hf]
  have HSV:Hid (s.save hs=s.from ⟨(heldTxt hs).toArray⟩ 0):=by unfold Hid Dk.save;rw [if_pos hf]
  have HTL:Hid ((ByteArray.mk (heldTxt hs).toArray).size≤maxLen):=by
   have h1:=Sv.body_le (Sv.okL_of hf hvcps);have h2:=Sv.sumTxt_le (body hs);unfold Hid maxLen;simp only [ByteArray.size,heldTxt,List.size_toArray,List.length_append];omega
  rw [HTV.out] at HTX;clear HTV hf hvcps;generalize ByteArray.mk (heldTxt hs).toArray=t at *
  go_enter Tryz.func56,Tryz.ntmps56
  go_wp2_with fail
  generalize w.alloc (.cells #[.pointer (some ⟨B,0,none⟩)] 32)=A at *;refine HTX.out.mono ?_;rintro e w1 ⟨rfl,hb1⟩;have HB1:=qI (HB0.out.trans (hb1.mono HB0.out.size));have cb1:=(hb1.cell (p:=⟨w.heap.size,0,none⟩) (by show w.heap.size<A.heap.size;omega)).trans cb;have hsz1:w.heap.size<w1.heap.size:=Nat.lt_of_lt_of_le (by omega) hb1.size;clear hb1 cb HTX hszb HB0;have HB2:=qI (HB1.out.alloc HB1.out.size (.cells #[.string t] 9));have cb2:(w1.alloc (.cells #[.string t] 9)).cell? ⟨w.heap.size,0,none⟩=some (.pointer (some ⟨B,0,none⟩)):=(((Below.refl w1.heap.size w1).alloc (Nat.le_refl _) _).cell (p:=⟨w.heap.size,0,none⟩) hsz1).trans cb1;have ct2:(w1.alloc (.cells #[.string t] 9)).cell? ⟨w1.heap.size,0,none⟩=some (.string t):=by simp
  have hsz2:(w1.alloc (.cells #[.string t] 9)).heap.size=w1.heap.size+1:=by simp
  clear cb1
  go_wp2_with fail
  have HB3:=qI (HB2.out.alloc HB2.out.size (.cells #[.func (.func 98) #[] #[.pointer (some ⟨w.heap.size,0,none⟩),.pointer (some ⟨w1.heap.size,0,none⟩)],.func (.func 100) #[.pointer (some ⟨B,0,none⟩)] #[],.func (.func 101) #[.pointer (some ⟨B,0,none⟩)] #[],.func (.func 100) #[.pointer (some ⟨B,0,none⟩)] #[]] 150));have hb23:=(Below.refl _ (w1.alloc (.cells #[.string t] 9))).alloc (Nat.le_refl _) (.cells #[.func (.func 98) #[] #[.pointer (some ⟨w.heap.size,0,none⟩),.pointer (some ⟨w1.heap.size,0,none⟩)],.func (.func 100) #[.pointer (some ⟨B,0,none⟩)] #[],.func (.func 101) #[.pointer (some ⟨B,0,none⟩)] #[],.func (.func 100) #[.pointer (some ⟨B,0,none⟩)] #[]] 150);have cb3:=(hb23.cell (p:=⟨w.heap.size,0,none⟩) (by show w.heap.size<(w1.alloc (.cells #[.string t] 9)).heap.size;omega)).trans cb2;have ct3:=(hb23.cell (p:=⟨w1.heap.size,0,none⟩) (by show w1.heap.size<(w1.alloc (.cells #[.string t] 9)).heap.size;omega)).trans ct2;have f0:((w1.alloc (.cells #[.string t] 9)).alloc (.cells #[.func (.func 98) #[] #[.pointer (some ⟨w.heap.size,0,none⟩),.pointer (some ⟨w1.heap.size,0,none⟩)],.func (.func 100) #[.pointer (some ⟨B,0,none⟩)] #[],.func (.func 101) #[.pointer (some ⟨B,0,none⟩)] #[],.func (.func 100) #[.pointer (some ⟨B,0,none⟩)] #[]] 150)).cell? ⟨w1.heap.size+1,0,none⟩=some (.func (.func 98) #[] #[.pointer (some ⟨w.heap.size,0,none⟩),.pointer (some ⟨w1.heap.size,0,none⟩)]):=by simp
  have f1:((w1.alloc (.cells #[.string t] 9)).alloc (.cells #[.func (.func 98) #[] #[.pointer (some ⟨w.heap.size,0,none⟩),.pointer (some ⟨w1.heap.size,0,none⟩)],.func (.func 100) #[.pointer (some ⟨B,0,none⟩)] #[],.func (.func 101) #[.pointer (some ⟨B,0,none⟩)] #[],.func (.func 100) #[.pointer (some ⟨B,0,none⟩)] #[]] 150)).cell? ⟨w1.heap.size+1,1,none⟩=some (.func (.func 100) #[.pointer (some ⟨B,0,none⟩)] #[]):=by simp
  have f2:((w1.alloc (.cells #[.string t] 9)).alloc (.cells #[.func (.func 98) #[] #[.pointer (some ⟨w.heap.size,0,none⟩),.pointer (some ⟨w1.heap.size,0,none⟩)],.func (.func 100) #[.pointer (some ⟨B,0,none⟩)] #[],.func (.func 101) #[.pointer (some ⟨B,0,none⟩)] #[],.func (.func 100) #[.pointer (some ⟨B,0,none⟩)] #[]] 150)).cell? ⟨w1.heap.size+1,2,none⟩=some (.func (.func 101) #[.pointer (some ⟨B,0,none⟩)] #[]):=by simp
  have f3:((w1.alloc (.cells #[.string t] 9)).alloc (.cells #[.func (.func 98) #[] #[.pointer (some ⟨w.heap.size,0,none⟩),.pointer (some ⟨w1.heap.size,0,none⟩)],.func (.func 100) #[.pointer (some ⟨B,0,none⟩)] #[],.func (.func 101) #[.pointer (some ⟨B,0,none⟩)] #[],.func (.func 100) #[.pointer (some ⟨B,0,none⟩)] #[]] 150)).cell? ⟨w1.heap.size+1,3,none⟩=some (.func (.func 100) #[.pointer (some ⟨B,0,none⟩)] #[]):=by simp
  have hsz3:((w1.alloc (.cells #[.string t] 9)).alloc (.cells #[.func (.func 98) #[] #[.pointer (some ⟨w.heap.size,0,none⟩),.pointer (some ⟨w1.heap.size,0,none⟩)],.func (.func 100) #[.pointer (some ⟨B,0,none⟩)] #[],.func (.func 101) #[.pointer (some ⟨B,0,none⟩)] #[],.func (.func 100) #[.pointer (some ⟨B,0,none⟩)] #[]] 150)).heap.size=w1.heap.size+1+1:=by simp
  have HD3:=qI (HD.out.below HB3.out);clear hb23 cb2 ct2 HB2 hsz2 HB1;generalize ((w1.alloc (.cells #[.string t] 9)).alloc (.cells #[.func (.func 98) #[] #[.pointer (some ⟨w.heap.size,0,none⟩),.pointer (some ⟨w1.heap.size,0,none⟩)],.func (.func 100) #[.pointer (some ⟨B,0,none⟩)] #[],.func (.func 101) #[.pointer (some ⟨B,0,none⟩)] #[],.func (.func 100) #[.pointer (some ⟨B,0,none⟩)] #[]] 150))=W3 at *;have hBw:=HBL.out;have HF:Hid (∀ wr:World,W3.grownBy wr (some B)→wr.cell? ⟨w.heap.size,0,none⟩=some (.pointer (some ⟨B,0,none⟩))∧wr.cell? ⟨w1.heap.size,0,none⟩=some (.string t)∧wr.cell? ⟨w1.heap.size+1,0,none⟩=some (.func (.func 98) #[] #[.pointer (some ⟨w.heap.size,0,none⟩),.pointer (some ⟨w1.heap.size,0,none⟩)])∧wr.cell? ⟨w1.heap.size+1,1,none⟩=some (.func (.func 100) #[.pointer (some ⟨B,0,none⟩)] #[])∧wr.cell? ⟨w1.heap.size+1,2,none⟩=some (.func (.func 101) #[.pointer (some ⟨B,0,none⟩)] #[])∧wr.cell? ⟨w1.heap.size+1,3,none⟩=some (.func (.func 100) #[.pointer (some ⟨B,0,none⟩)] #[])):=fun wr hg=>
   have k1:=fun j=>World.cell?_of_block (a:=⟨w.heap.size,j,none⟩) (hg.block w.heap.size (by omega) (fun e=>by injection e;omega))
   have k2:=fun j=>World.cell?_of_block (a:=⟨w1.heap.size,j,none⟩) (hg.block w1.heap.size (by omega) (fun e=>by injection e;omega))
   have k3:=fun j=>World.cell?_of_block (a:=⟨w1.heap.size+1,j,none⟩) (hg.block (w1.heap.size+1) (by omega) (fun e=>by injection e;omega))
   ⟨(k1 0).trans cb3,(k2 0).trans ct3,(k3 0).trans f0,(k3 1).trans f1,(k3 2).trans f2,(k3 3).trans f3⟩
  clear cb3 ct3 f0 f1 f2 f3;have HW:=qI hw;clear hw
  go_loopw [29] (fun i wr=>∃ k:Nat,k≤4∧i=.int .i64 k∧(∀ j,j<k→s.err t j=0)∧DkAt wr B (s.run t k)∧W3.grownBy wr (some B)) (fun i _=>4 - (intOf i).toNat)
  case atStart=>exact ⟨0,by omega,rfl,fun j hj=>by omega,HD3.out,⟨rfl,rfl,rfl,Nat.le_refl _,fun _ _ _=>rfl⟩⟩
  case round=>
   obtain ⟨k,hk,rfl,hgood,hdk,hg⟩:=hrel;have HGD:=qI hgood;have HDK:=qI hdk;have HGR:=qI hg;obtain ⟨cb4,ct4,g0,g1,g2,g3⟩:=HF.out wr hg;clear hgood hdk hg;have hcases:k=0∨k=1∨k=2∨k=3∨k=4:=by omega
   rcases hcases with rfl|rfl|rfl|rfl|rfl
   ·have HC:Hid (Calls Tryz.prog 98 #[.pointer (some ⟨w.heap.size,0,none⟩),.pointer (some ⟨w1.heap.size,0,none⟩)] wr fun e w'=>e=.returned (errV ((s.err t 0:Nat):Int))∧DkAt w' B (s.run t (0+1))∧wr.grownBy w' (some B)):=saveWrite_any B w.heap.size w1.heap.size (s.run t 0) t wr HDK.out HW.out HTL.out cb4 ct4;clear HF cb4 ct4
    rcases errV_two (s.err t 0) with ⟨h0,he⟩|⟨h0,he⟩
    ·rw [he] at HC;clear he
     go_wp2_with fail
     refine HC.out.mono ?_;rintro e w5 ⟨rfl,h5,h6⟩;have H5:=qI h5;have H6:=qI (grown_trans HGR.out h6);clear h5 h6 HC
     go_wp2_with fail
     go_roundw
     case rel=>exact ⟨0+1,by omega,by go_num,fun j hj=>by rcases Nat.lt_succ_iff_lt_or_eq.1 hj with h|h;exact HGD.out j h;rw [h];exact h0,H5.out,H6.out⟩
     case measure=>simp [intOf]
    ·rw [he] at HC
     go_wp2_with fail
     refine HC.out.mono ?_;rintro e w5 ⟨rfl,h5,h6⟩;have H5:=qI h5;have H6:=qI (grown_trans HGR.out h6);clear h5 h6 HC
     go_wp2_with fail
     go_ret;have hfr:=(Dk.from_upto (by omega) HGD.out).trans (Dk.from_no (by omega) h0);exact ⟨by rw [HSV.out,hfr,he];rfl,by rw [HSV.out,hfr];exact H5.out,grown_trans (grown_of_below HB3.out) H6.out⟩
   ·have HC:Hid (Calls Tryz.prog 100 #[.pointer (some ⟨B,0,none⟩)] wr fun e w'=>e=.returned (errV ((s.err t 1:Nat):Int))∧DkAt w' B (s.run t (1+1))∧wr.grownBy w' (some B)):=sync_any B (s.run t 1) wr HDK.out;clear HF cb4 ct4
    rcases errV_two (s.err t 1) with ⟨h0,he⟩|⟨h0,he⟩
    ·rw [he] at HC;clear he
     go_wp2_with fail
     refine HC.out.mono ?_;rintro e w5 ⟨rfl,h5,h6⟩;have H5:=qI h5;have H6:=qI (grown_trans HGR.out h6);clear h5 h6 HC
     go_wp2_with fail
     go_roundw
     case rel=>exact ⟨1+1,by omega,by go_num,fun j hj=>by rcases Nat.lt_succ_iff_lt_or_eq.1 hj with h|h;exact HGD.out j h;rw [h];exact h0,H5.out,H6.out⟩
     case measure=>simp [intOf]
    ·rw [he] at HC
     go_wp2_with fail
     refine HC.out.mono ?_;rintro e w5 ⟨rfl,h5,h6⟩;have H5:=qI h5;have H6:=qI (grown_trans HGR.out h6);clear h5 h6 HC
     go_wp2_with fail
     go_ret;have hfr:=(Dk.from_upto (by omega) HGD.out).trans (Dk.from_no (by omega) h0);exact ⟨by rw [HSV.out,hfr,he];rfl,by rw [HSV.out,hfr];exact H5.out,grown_trans (grown_of_below HB3.out) H6.out⟩
   ·have HC:Hid (Calls Tryz.prog 101 #[.pointer (some ⟨B,0,none⟩)] wr fun e w'=>e=.returned (errV ((s.err t 2:Nat):Int))∧DkAt w' B (s.run t (2+1))∧wr.grownBy w' (some B)):=move_any B (s.run t 2) wr HDK.out (by rw [run_2 (HGD.out 0 (by omega)) (HGD.out 1 (by omega))];rfl) (by rw [run_2 (HGD.out 0 (by omega)) (HGD.out 1 (by omega))]);clear HF cb4 ct4
    rcases errV_two (s.err t 2) with ⟨h0,he⟩|⟨h0,he⟩
    ·rw [he] at HC;clear he
     go_wp2_with fail
     refine HC.out.mono ?_;rintro e w5 ⟨rfl,h5,h6⟩;have H5:=qI h5;have H6:=qI (grown_trans HGR.out h6);clear h5 h6 HC
     go_wp2_with fail
     go_roundw
     case rel=>exact ⟨2+1,by omega,by go_num,fun j hj=>by rcases Nat.lt_succ_iff_lt_or_eq.1 hj with h|h;exact HGD.out j h;rw [h];exact h0,H5.out,H6.out⟩
     case measure=>simp [intOf]
    ·rw [he] at HC
     go_wp2_with fail
     refine HC.out.mono ?_;rintro e w5 ⟨rfl,h5,h6⟩;have H5:=qI h5;have H6:=qI (grown_trans HGR.out h6);clear h5 h6 HC
     go_wp2_with fail
     go_ret;have hfr:=(Dk.from_upto (by omega) HGD.out).trans (Dk.from_no (by omega) h0);exact ⟨by rw [HSV.out,hfr,he];rfl,by rw [HSV.out,hfr];exact H5.out,grown_trans (grown_of_below HB3.out) H6.out⟩
   ·have HC:Hid (Calls Tryz.prog 100 #[.pointer (some ⟨B,0,none⟩)] wr fun e w'=>e=.returned (errV ((s.err t 3:Nat):Int))∧DkAt w' B (s.run t (3+1))∧wr.grownBy w' (some B)):=sync_any B (s.run t 3) wr HDK.out;clear HF cb4 ct4
    rcases errV_two (s.err t 3) with ⟨h0,he⟩|⟨h0,he⟩
    ·rw [he] at HC;clear he
     go_wp2_with fail
     refine HC.out.mono ?_;rintro e w5 ⟨rfl,h5,h6⟩;have H5:=qI h5;have H6:=qI (grown_trans HGR.out h6);clear h5 h6 HC
     go_wp2_with fail
     go_roundw
     case rel=>exact ⟨3+1,by omega,by go_num,fun j hj=>by rcases Nat.lt_succ_iff_lt_or_eq.1 hj with h|h;exact HGD.out j h;rw [h];exact h0,H5.out,H6.out⟩
     case measure=>simp [intOf]
    ·rw [he] at HC
     go_wp2_with fail
     refine HC.out.mono ?_;rintro e w5 ⟨rfl,h5,h6⟩;have H5:=qI h5;have H6:=qI (grown_trans HGR.out h6);clear h5 h6 HC
     go_wp2_with fail
     go_ret;have hfr:=(Dk.from_upto (by omega) HGD.out).trans (Dk.from_no (by omega) h0);exact ⟨by rw [HSV.out,hfr,he];rfl,by rw [HSV.out,hfr];exact H5.out,grown_trans (grown_of_below HB3.out) H6.out⟩
   ·go_wp2_with fail
    go_ret;have hfr:=(Dk.from_upto (by omega) HGD.out).trans Dk.from_end;exact ⟨by rw [HSV.out,hfr];rfl,by rw [HSV.out,hfr];exact HDK.out,grown_trans (grown_of_below HB3.out) HGR.out⟩
 ·have HTV:Hid (textV hs=.tuple #[.string ⟨#[]⟩,errV (heldF hs:Nat)]):=by unfold Hid textV;rw [if_neg hf]
  have HEP:=qI (errQ_pos hf);have HSV:Hid (s.save hs=(heldF hs,s)):=by unfold Hid Dk.save;rw [if_neg hf]
  rw [HTV.out,HEP.out] at HTX;clear HTV hf hvcps
  go_enter Tryz.func56,Tryz.ntmps56
  go_wp2_with fail
  generalize w.alloc (.cells #[.pointer (some ⟨B,0,none⟩)] 32)=A at *;refine HTX.out.mono ?_;rintro e w1 ⟨rfl,hb1⟩;have HB1:=qI (HB0.out.trans (hb1.mono HB0.out.size));have HB2:=qI (HB1.out.alloc HB1.out.size (.cells #[.string ⟨#[]⟩] 9));clear hb1 cb HTX hszb HB0
  go_wp2_with fail
  go_ret;exact ⟨by rw [HSV.out,HEP.out];rfl,by rw [HSV.out];exact HD.out.below HB2.out,grown_of_below HB2.out⟩
end
section
open Go.RowKit Go.Shelf
open Sv (Gv Hd gv hd wd Tx sumTxt heldTxt heldF body readS OkL)
structure Holds (s:Dk) (hs:List Hd):Prop where
 up:s.d=false
 ft:s.n.ft=true
 fb:s.n.fb=⟨(heldTxt hs).toArray⟩
 hf:heldF hs=0
 len:(heldTxt hs).length≤6000
 ok:OkL hs
theorem from_cases (s:Dk) (t:ByteArray):(s.err t 0=0∧s.err t 1=0∧s.err t 2=0∧s.err t 3=0∧s.from t 0=(0,s.run t 4))∨∃ k,k<4∧(∀ j,j<k→s.err t j=0)∧s.err t k≠0∧s.from t 0=(s.err t k,s.run t (k+1)):=by
 by_cases h0:s.err t 0=0
 ·by_cases h1:s.err t 1=0
  ·by_cases h2:s.err t 2=0
   ·by_cases h3:s.err t 3=0
    ·exact .inl ⟨h0,h1,h2,h3,by rw [Dk.from_yes (by decide) h0,Dk.from_yes (by decide) h1,Dk.from_yes (by decide) h2,Dk.from_yes (by decide) h3,Dk.from_end]⟩
    ·exact .inr ⟨3,by decide,fun j hj=>by have:j=0∨j=1∨j=2:=(by omega);rcases this with rfl|rfl|rfl <;> assumption,h3,by rw [Dk.from_yes (by decide) h0,Dk.from_yes (by decide) h1,Dk.from_yes (by decide) h2,Dk.from_no (by decide) h3]⟩
   ·exact .inr ⟨2,by decide,fun j hj=>by have:j=0∨j=1:=(by omega);rcases this with rfl|rfl <;> assumption,h2,by rw [Dk.from_yes (by decide) h0,Dk.from_yes (by decide) h1,Dk.from_no (by decide) h2]⟩
  ·exact .inr ⟨1,by decide,fun j hj=>by have:j=0:=(by omega);rw [this];exact h0,h1,by rw [Dk.from_yes (by decide) h0,Dk.from_no (by decide) h1]⟩
 ·exact .inr ⟨0,by decide,fun j hj=>by omega,h0,Dk.from_no (by decide) h0⟩
theorem save_calm {s:Dk} {hs:List Hd} (hl:s.l<0) (hd:s.d=false) (hf:heldF hs=0) (ht:(heldTxt hs).length≤6000):(s.save hs).1=0:=by
 have hE:∀ l:Int,l<0→stepE l false=0:=fun l h=>by unfold stepE;rw [if_neg (by simp;omega)]
 have hN:∀ l:Int,l<0→stepN l false=l:=fun l h=>by unfold stepN;rw [if_neg (by simp;omega),if_neg (by omega)]
 obtain ⟨n,k,wt,l,d⟩:=s;dsimp only at hl hd;subst hd;unfold Dk.save;rw [if_pos hf];have hsz:¬ 6000<(ByteArray.mk (heldTxt hs).toArray).size:=by simp [ByteArray.size];omega
 generalize ByteArray.mk (heldTxt hs).toArray=t at *;have h0:Dk.err ⟨n,k,wt,l,false⟩ t 0=0:=by
  show (Dk.write _ t).1=0
  unfold Dk.write;rw [if_neg hsz];unfold Dk.apply;rw [if_pos (show stepE (Dk.run ⟨n,k,wt,l,false⟩ t 0).l (Dk.run ⟨n,k,wt,l,false⟩ t 0).d=0 from hE l hl)]
 have h1:Dk.err ⟨n,k,wt,l,false⟩ t 1=0:=by
  show (Dk.sync _).1=0
  rw [run_1 h0];unfold Dk.sync;rw [if_pos (by show stepE (stepN l false) false=0;rw [hN l hl];exact hE l hl)]
 have h2:Dk.err ⟨n,k,wt,l,false⟩ t 2=0:=by
  show (Dk.apply _ _).1=0
  rw [run_2 h0 h1];unfold Dk.apply;rw [if_pos (by show stepE (stepN (stepN l false) false) false=0;rw [hN l hl,hN l hl];exact hE l hl)]
 have h3:Dk.err ⟨n,k,wt,l,false⟩ t 3=0:=by
  show (Dk.sync _).1=0
  rw [run_3 h0 h1 h2];unfold Dk.sync;rw [if_pos (by show stepE (stepN (stepN (stepN l false) false) false) false=0;rw [hN l hl,hN l hl,hN l hl];exact hE l hl)]
 rw [Dk.from_yes (by decide) h0,Dk.from_yes (by decide) h1,Dk.from_yes (by decide) h2,Dk.from_yes (by decide) h3,Dk.from_end]
end
section
open Sv (Hd heldTxt heldF)
def Calm (s:Dk):Prop:=s.d=false∧s.l=-1∧s.wt=none
theorem calm_fresh:Calm Dk.fresh:=⟨rfl,rfl,rfl⟩
theorem calm_save {s:Dk} (h:Calm s) {hs:List Hd} (hf:heldF hs=0):((heldTxt hs).length≤6000→(s.save hs).1=0)∧(6000<(heldTxt hs).length→(s.save hs).1=2)∧Calm (s.save hs).2:=by
 by_cases hl:6000<(heldTxt hs).length
 ·have hw:s.write ⟨(heldTxt hs).toArray⟩=(2,s):=if_pos (by simpa [ByteArray.size] using hl);have h0:s.err ⟨(heldTxt hs).toArray⟩ 0=2:=by
   show (s.write _).1=2
   rw [hw]
  unfold Dk.save;rw [if_pos hf,Dk.from_no (by decide) (by rw [h0];decide)];refine ⟨fun h=>absurd h (by omega),fun _=>h0,?_⟩
  show Calm (s.write _).2
  rw [hw];exact h
 ·have h0:=save_calm (s:=s) (by rw [h.2.1];decide) h.1 hf (by omega);refine ⟨fun _=>h0,fun h=>absurd h hl,?_⟩;unfold Dk.save at h0 ⊢;rw [if_pos hf] at h0 ⊢
  rcases from_cases s ⟨(heldTxt hs).toArray⟩ with ⟨e0,e1,e2,e3,e⟩|⟨k,_,_,hk,e⟩
  ·rw [e,run_4 e0 e1 e2 e3];refine ⟨rfl,?_,rfl⟩
   show stepN (stepN (stepN (stepN s.l s.d) false) false) false=-1
   rw [h.1,h.2.1];rfl
  ·rw [e] at h0;exact absurd h0 hk
end
end Go.Proofs.YtbmmnflgnmjboaaGreatDoor
