/- OTO -/
import Derived.Test.YtbmmnflgnmjboaaGreatDoorQ33
set_option maxRecDepth 100000
set_option maxHeartbeats 16000000
namespace Go.Proofs.YtbmmnflgnmjboaaGreatDoor
section
open Go.RowKit Go.Shelf
open Ost (Cpu cpu0 chosen)
open Qos (Nd Ct Pd nd ct pd podF ownOf)
open Sv (Gv Hd gv hd gsF heldF heldTxt)
open Dvs (Dv dv Nodes)
open S1 (Mx)
attribute [local go_sem] Oper.semAt_some
theorem topOrder_true (c:Ol.Cf) (v1 v2:Value) (g o:Nat) (ps:List Pd) (vf:Value) (w:World) (h1:CpusAt w v1 c.l) (h2:DevsAt w v2 g o c.ds) (hk:c.keep<18446744073709551616) (hf:PodsAt w vf ps) (ht:TabUp w) (hm:Mx w) :
  Calls Tryz.prog 6 #[confV c v1 v2,vf] w fun e w'=>e=.returned (.bool true)∧Below w.heap.size w w':=by
 obtain ⟨ca,cc,hv1⟩:∃ ca cc,v1=.slice ca c.l.length cc:=by
  rcases id h1 with ⟨hl,ao,q,rfl⟩|⟨b,o,q,rfl,_⟩
  ·exact ⟨ao,q,by rw [hl];rfl⟩
  ·exact ⟨_,q,rfl⟩
 obtain ⟨da,dc,hv2⟩:∃ da dc,v2=.slice da c.ds.length dc:=by
  obtain ⟨da,dc,e,_⟩:=id h2;exact ⟨da,dc,e⟩
 have HF:=qI hf;obtain ⟨fa,fc,hvf,hfm,hfr⟩:=hf;subst hv1 hv2 hvf;have HFR:=qI hfr;have H1:=qI h1;have H2:=qI h2;have HT:=qI ht;have HM:=qI hm;have hgl:0<w.heap.size:=ht.2;clear h1 h2 ht hm hfm hfr;unfold confV;have HB0:=qI ((Below.refl w.heap.size w).alloc (Nat.le_refl _) (.cells #[.slice ca c.l.length cc,.int .u64 (c.keep:Nat),.int .i64 c.nb,.slice da c.ds.length dc,.int .i64 c.pol] 27));obtain ⟨Bc,hBc⟩:∃ Bc,Bc=w.heap.size:=⟨_,rfl⟩;have HXC:Hid ((w.alloc (.cells #[.slice ca c.l.length cc,.int .u64 (c.keep:Nat),.int .i64 c.nb,.slice da c.ds.length dc,.int .i64 c.pol] 27)).heap[Bc]?=some (.cells #[.slice ca c.l.length cc,.int .u64 (c.keep:Nat),.int .i64 c.nb,.slice da c.ds.length dc,.int .i64 c.pol] 27)):=by
  unfold Hid;rw [hBc];exact heap_madeO w (.cells #[.slice ca c.l.length cc,.int .u64 (c.keep:Nat),.int .i64 c.nb,.slice da c.ds.length dc,.int .i64 c.pol] 27) rfl
 have HBC:=qI hBc
 go_enter Tryz.func6,Tryz.ntmps6
 go_wp2_with fail
 rw [← hBc];generalize (w.alloc (.cells #[.slice ca c.l.length cc,.int .u64 (c.keep:Nat),.int .i64 c.nb,.slice da c.ds.length dc,.int .i64 c.pol] 27))=X at *;clear hBc;refine (works_true X (HT.out.below HB0.out) (HM.out.below HB0.out)).mono ?_;rintro e W1 ⟨rfl,hb1⟩;have hXc:Bc<X.heap.size:=(Array.getElem?_eq_some_iff.1 HXC.out).1;have hwX:w.heap.size≤X.heap.size:=HB0.out.size;have HENX:Hid (∀ W,Below X.heap.size X W→W.heap[Bc]?=some (.cells #[.slice ca c.l.length cc,.int .u64 (c.keep:Nat),.int .i64 c.nb,.slice da c.ds.length dc,.int .i64 c.pol] 27)∧Below w.heap.size w W):=fun W hb=>⟨(hb.block Bc hXc).trans HXC.out,HB0.out.trans (hb.mono HB0.out.size)⟩
 have HB1:=qI hb1;clear hb1 HXC;have x0:W1.cell? ⟨Bc,0,none⟩=some (.slice ca c.l.length cc):=cell_of_heapV (HENX.out _ HB1.out).1 0;have x1:W1.cell? ⟨Bc,1,none⟩=some (.int .u64 (c.keep:Nat)):=cell_of_heapV (HENX.out _ HB1.out).1 1;have x2:W1.cell? ⟨Bc,2,none⟩=some (.int .i64 c.nb):=cell_of_heapV (HENX.out _ HB1.out).1 2;have x3:W1.cell? ⟨Bc,3,none⟩=some (.slice da c.ds.length dc):=cell_of_heapV (HENX.out _ HB1.out).1 3;have x4:W1.cell? ⟨Bc,4,none⟩=some (.int .i64 c.pol):=cell_of_heapV (HENX.out _ HB1.out).1 4;have HLC:=qI (lightConf_any c (.slice ca c.l.length cc) (.slice da c.ds.length dc) g o W1 (H1.out.below (HENX.out _ HB1.out).2) (H2.out.below (HENX.out _ HB1.out).2));unfold confV at HLC
 go_wp2_with fail
 refine HLC.out.mono ?_;rintro e W2 ⟨⟨b,rfl⟩,hb2⟩;have HB2:=qI (HB1.out.trans (hb2.mono HB1.out.size));clear hb2 x0 x1 x2 x3 x4 HLC HB1
 rcases two b with rfl|rfl
 rotate_left
 ·go_wp2_with fail
  go_ret;exact ⟨rfl,(HENX.out _ HB2.out).2⟩
 have HLF:=qI (lightPods_any (.slice fa ps.length fc) ps W2 (HF.out.below (HENX.out _ HB2.out).2))
 go_wp2_with fail
 refine HLF.out.mono ?_;rintro e W3 ⟨⟨b,rfl,hfew⟩,hb3⟩;have HB3:=qI (HB2.out.trans (hb3.mono HB2.out.size));have HFEW:=qI hfew;clear hb3 HLF hfew HB2
 rcases two b with rfl|rfl
 rotate_left
 ·go_wp2_with fail
  go_ret;exact ⟨rfl,(HENX.out _ HB3.out).2⟩
 have hps:ps.length≤16:=HFEW.out rfl;clear HFEW
 go_wp2_with fail
 go_loopw [6] (fun i wr=>∃ k:Nat,k≤ps.length∧i=.int .i64 k∧Below X.heap.size X wr∧MildTo ps k) (fun i _=>ps.length - (intOf i).toNat)
 case atStart=>exact ⟨0,Nat.zero_le _,rfl,HB3.out,MildTo.zero⟩
 case round=>
  obtain ⟨k,hkl,rfl,hbx,hmi⟩:=hrel;have HBX:=qI hbx;have HMI:=qI hmi;clear hbx hmi
  by_cases hlt:k<ps.length
  ·obtain ⟨fb,fo,cvf,rfl,hin⟩:=HFR.out (by omega);obtain ⟨⟨r0,r1,r2⟩,hqc⟩:=hin.2 k hlt;obtain ⟨qa,qc,hcq,hqm,hqr⟩:=id hqc;rw [hcq] at hqc r2;have HQC:=qI hqc;have HQR:=qI hqr;have HR0:=qI r0;have HR1:=qI r1;have HR2:=qI r2;have hfbl:fb<w.heap.size:=hin.1;have HMN:=qI (HMI.out.next);clear hin hqc hcq r0 r1 r2 hqr hqm HMI;generalize pd ps k=q at *;have HSQ:Hid (∀ W,Below X.heap.size X W→W.cell? ⟨fb,fo+k*3,none⟩=some (.string q.nm)∧W.cell? ⟨fb,fo+k*3+1,none⟩=some (.int .i64 q.pr)∧W.cell? ⟨fb,fo+k*3+2,none⟩=some (.slice qa q.cs.length qc)):=fun W hb=>
    ⟨((HENX.out W hb).2.cell (p:=⟨fb,_,none⟩) hfbl).trans HR0.out,((HENX.out W hb).2.cell (p:=⟨fb,_,none⟩) hfbl).trans HR1.out,((HENX.out W hb).2.cell (p:=⟨fb,_,none⟩) hfbl).trans HR2.out⟩
   clear HR0 HR1 HR2;obtain ⟨x0,x1,x2⟩:=HSQ.out wr HBX.out;have HCK:=qI (check_any q (.slice qa q.cs.length qc) wr (HQC.out.below (HENX.out wr HBX.out).2));unfold podV at HCK
   go_wp2_with fail
   refine HCK.out.mono ?_;rintro e U1 ⟨rfl,hb1⟩;have HU1:=qI (HBX.out.trans (hb1.mono HBX.out.size));clear hb1 x0 x1 x2 HCK HBX
   by_cases hpF:podF q=0
   rotate_left
   ·rw [errQ_pos hpF];clear hpF
    go_wp2_with fail
    go_ret;exact ⟨rfl,(HENX.out _ HU1.out).2⟩
   rw [hpF,show errV (((0:Nat)):Int)=.nilIface from rfl];have HPF:=qI hpF;have hq3:q.cs.length≤3:=(Qos.pod_mild hpF).1;clear hpF
   go_wp2_with fail
   go_loopw [7] (fun i wr=>∃ j:Nat,j≤q.cs.length∧i=.int .i64 j∧Below X.heap.size X wr∧NoneTo q j) (fun i _=>q.cs.length - (intOf i).toNat)
   case atStart=>exact ⟨0,Nat.zero_le _,rfl,HU1.out,NoneTo.zero⟩
   case round=>
    obtain ⟨j,hjl,rfl,hby,hno⟩:=hrel;have HBY:=qI hby;have HNO:=qI hno;clear hby hno
    by_cases hlj:j<q.cs.length
    rotate_left
    ·have hje:j=q.cs.length:=by omega
     subst hje;have HMK:=qI (HMN.out HPF.out HNO.out.all);obtain ⟨_,_,x2⟩:=HSQ.out wr HBY.out
     go_wp2_with fail
     go_roundw
     case rel=>exact ⟨k+1,by omega,by go_num,HBY.out,HMK.out⟩
     case measure=>simp [intOf];omega
    obtain ⟨gb,go',dvv,hqa,hin⟩:=HQR.out (by omega);subst hqa;have hin0:=hin;have hin:=hin.below (HENX.out wr HBY.out).2;obtain ⟨na,nc,hnv,_⟩:=(hin.2 j hlj).2;have hab:0≤(ct q.cs j).am∧(ct q.cs j).am≤1000000:=((Qos.pod_mild HPF.out).2 j hlj).1;obtain ⟨x,hx⟩:∃ x,x=ct q.cs j:=⟨_,rfl⟩;have HNN:=qI (HNO.out.next);rw [← hx] at hab HNN;have HSX:Hid (∀ W,Below X.heap.size X W→(fun w':World=>(w'.cell? ⟨fb,fo+k*3,none⟩=some (.string q.nm)∧w'.cell? ⟨fb,fo+k*3+1,none⟩=some (.int .i64 q.pr)∧w'.cell? ⟨fb,fo+k*3+2,none⟩=some (.slice (some ⟨gb,go',none⟩) q.cs.length qc))∧w'.cell? ⟨gb,go'+j*6,none⟩=some (.string x.nm)∧w'.cell? ⟨gb,go'+j*6+1,none⟩=some (.int .i64 x.am)∧w'.cell? ⟨gb,go'+j*6+2,none⟩=some (.int .i64 x.ab)∧w'.cell? ⟨gb,go'+j*6+3,none⟩=some (.int .i64 x.cm)∧w'.cell? ⟨gb,go'+j*6+4,none⟩=some (.int .i64 x.cb)∧w'.cell? ⟨gb,go'+j*6+5,none⟩=some (.slice na x.ds.length nc)) W):=fun W hb=>by
     have hin':=hin0.below (HENX.out W hb).2;obtain ⟨c0,c1,c2,c3,c4,c5⟩:=hin'.at hlj;rw [hnv] at c5;rw [hx];exact ⟨HSQ.out W hb,c0,c1,c2,c3,c4,c5⟩
    have HOW:Hid (∀ W,Below X.heap.size X W→Calls Tryz.prog 16 #[.agg #[.string q.nm,.int .i64 q.pr,.slice (some ⟨gb,go',none⟩) q.cs.length qc],.agg #[.string x.nm,.int .i64 x.am,.int .i64 x.ab,.int .i64 x.cm,.int .i64 x.cb,.slice na x.ds.length nc]] W fun e w'=>e=.returned (.int .i64 (ownOf q.cs x.am))∧Below W.heap.size W w'):=fun W hb=>own_any q _ x na x.ds.length nc W (HQC.out.below (HENX.out W hb).2) hab.1 hab.2
    clear hin hin0 hnv hx HNO;obtain ⟨_,_,x2⟩:=HSQ.out wr HBY.out;generalize ownOf q.cs x.am=ow at *
    go_upto_region 14 with fail
    clear x2
    by_cases how:0<ow
    ·have how':decide (0<ow)=true:=decide_eq_true how;have HBd:Hid (Below X.heap.size X wr.drew):=below_drewR HBY.out;refine wp_region_held_drew (S:=(fun w':World=>(w'.cell? ⟨fb,fo+k*3,none⟩=some (.string q.nm)∧w'.cell? ⟨fb,fo+k*3+1,none⟩=some (.int .i64 q.pr)∧w'.cell? ⟨fb,fo+k*3+2,none⟩=some (.slice (some ⟨gb,go',none⟩) q.cs.length qc))∧w'.cell? ⟨gb,go'+j*6,none⟩=some (.string x.nm)∧w'.cell? ⟨gb,go'+j*6+1,none⟩=some (.int .i64 x.am)∧w'.cell? ⟨gb,go'+j*6+2,none⟩=some (.int .i64 x.ab)∧w'.cell? ⟨gb,go'+j*6+3,none⟩=some (.int .i64 x.cm)∧w'.cell? ⟨gb,go'+j*6+4,none⟩=some (.int .i64 x.cb)∧w'.cell? ⟨gb,go'+j*6+5,none⟩=some (.slice na x.ds.length nc))) (by kernel_rfl) (HSX.out _ HBd.out) (fun hHeld=>?_);generalize wr.drew=V at *;refine tk 0 ?_;refine tk 1 ?_;refine tk 2 ?_;refine tk 3 ?_;refine tk 4 ?_;refine tk 5 ?_;refine tk 6 ?_;refine tk 7 ?_;refine tk 8 ?_;refine tk 9 ?_;refine tk 10 ?_;refine tk 11 ?_;refine rd 12 (fun K hK=>?_);go_simp
     go_wp2_with fail
     refine (HOW.out V HBd.out).mono ?_;rintro e V2 ⟨rfl,hb2⟩;have HB2:=qI (HBd.out.trans (hb2.mono HBd.out.size));clear hb2
     go_wp2_with fail
     refine hK.out _ _ (HSX.out _ HB2.out) (fun hHeld=>?_);clear hK K;refine tk 13 ?_;refine tk 14 ?_
     refine wpAnyH_take (i := 15) (oi := { dst := some 62, op := Op.move (Operand.tmp 1), type := 70, pos := "top.go:525", after := #[{ on := 14, ground := Ground.guard }], guard := some (14, false) }) (v := undef) rfl (by kernel_rfl) (by kernel_rfl) (by kernel_rfl) (fun _ _ _ h => h) (Or.inr ⟨by rfl, rfl⟩) (by assumption) ?_
     (try simp only [Act.put,s1,s2,s3])
     refine wpAnyH_take (i := 16) (oi := { dst := some 63, op := Op.move (Operand.tmp 6), type := 3, pos := "top.go:525", after := #[{ on := 14, ground := Ground.guard }], guard := some (14, false) }) (v := undef) rfl (by kernel_rfl) (by kernel_rfl) (by kernel_rfl) (fun _ _ _ h => h) (Or.inr ⟨by rfl, rfl⟩) (by assumption) ?_
     (try simp only [Act.put,s1,s2,s3])
     refine wpAnyH_take (i := 17) (oi := { dst := some 64, op := Op.indexAddr 70 (Operand.tmp 62) (Operand.tmp 63), type := 0, pos := "top.go:525", after := #[{ on := 15, ground := Ground.data }, { on := 16, ground := Ground.data }, { on := 14, ground := Ground.guard }], guard := some (14, false) }) (v := undef) rfl (by kernel_rfl) (by kernel_rfl) (by kernel_rfl) (fun _ _ _ h => h) (Or.inr ⟨by rfl, rfl⟩) (by assumption) ?_
     (try simp only [Act.put,s1,s2,s3])
     refine wpAnyH_take (i := 18) (oi := { dst := some 65, op := Op.fieldAddr 47 (Operand.tmp 64) 2, type := 0, pos := "top.go:525", after := #[{ on := 17, ground := Ground.data }, { on := 14, ground := Ground.guard }], guard := some (14, false) }) (v := undef) rfl (by kernel_rfl) (by kernel_rfl) (by kernel_rfl) (fun _ _ _ h => h) (Or.inr ⟨by rfl, rfl⟩) (by assumption) ?_
     (try simp only [Act.put,s1,s2,s3])
     refine wpAnyH_take (i := 19) (oi := { dst := some 66, op := Op.load 45 (Operand.tmp 65), type := 45, pos := "top.go:525", after := #[{ on := 18, ground := Ground.data }, { on := 14, ground := Ground.guard }], guard := some (14, false) }) (v := undef) rfl (by kernel_rfl) (by kernel_rfl) (by kernel_rfl) (fun _ _ _ h => h) (Or.inr ⟨by rfl, rfl⟩) (by assumption) ?_
     (try simp only [Act.put,s1,s2,s3])
     refine wpAnyH_take (i := 20) (oi := { dst := some 67, op := Op.move (Operand.tmp 7), type := 3, pos := "top.go:525", after := #[{ on := 14, ground := Ground.guard }], guard := some (14, false) }) (v := undef) rfl (by kernel_rfl) (by kernel_rfl) (by kernel_rfl) (fun _ _ _ h => h) (Or.inr ⟨by rfl, rfl⟩) (by assumption) ?_
     (try simp only [Act.put,s1,s2,s3])
     refine wpAnyH_take (i := 21) (oi := { dst := some 68, op := Op.indexAddr 45 (Operand.tmp 66) (Operand.tmp 67), type := 0, pos := "top.go:525", after := #[{ on := 19, ground := Ground.data }, { on := 20, ground := Ground.data }, { on := 14, ground := Ground.guard }], guard := some (14, false) }) (v := undef) rfl (by kernel_rfl) (by kernel_rfl) (by kernel_rfl) (fun _ _ _ h => h) (Or.inr ⟨by rfl, rfl⟩) (by assumption) ?_
     (try simp only [Act.put,s1,s2,s3])
     refine wpAnyH_take (i := 22) (oi := { dst := some 69, op := Op.fieldAddr 63 (Operand.tmp 68) 3, type := 0, pos := "top.go:525", after := #[{ on := 21, ground := Ground.data }, { on := 14, ground := Ground.guard }], guard := some (14, false) }) (v := undef) rfl (by kernel_rfl) (by kernel_rfl) (by kernel_rfl) (fun _ _ _ h => h) (Or.inr ⟨by rfl, rfl⟩) (by assumption) ?_
     (try simp only [Act.put,s1,s2,s3])
     refine wpAnyH_take (i := 23) (oi := { dst := some 70, op := Op.load 61 (Operand.tmp 69), type := 61, pos := "top.go:525", after := #[{ on := 22, ground := Ground.data }, { on := 14, ground := Ground.guard }], guard := some (14, false) }) (v := undef) rfl (by kernel_rfl) (by kernel_rfl) (by kernel_rfl) (fun _ _ _ h => h) (Or.inr ⟨by rfl, rfl⟩) (by assumption) ?_
     (try simp only [Act.put,s1,s2,s3])
     refine wpAnyH_take (i := 24) (oi := { dst := some 71, op := Op.call { callee := Callee.builtin Builtin.len, args := #[Operand.tmp 70], argTypes := #[61] }, type := 3, pos := "top.go:525", after := #[{ on := 23, ground := Ground.data }, { on := 14, ground := Ground.guard }], guard := some (14, false) }) (v := undef) rfl (by kernel_rfl) (by kernel_rfl) (by kernel_rfl) (fun _ _ _ h => h) (Or.inr ⟨by rfl, rfl⟩) (by assumption) ?_
     (try simp only [Act.put,s1,s2,s3])
     refine wpAnyH_take (i := 25) (oi := { dst := some 72, op := Op.binOp BinOp.gtr 3 (Operand.tmp 71) (Operand.const (Value.int IntKind.i64 0)) 3, type := 4, pos := "top.go:525", after := #[{ on := 24, ground := Ground.data }, { on := 14, ground := Ground.guard }], guard := some (14, false) }) (v := undef) rfl (by kernel_rfl) (by kernel_rfl) (by kernel_rfl) (fun _ _ _ h => h) (Or.inr ⟨by rfl, rfl⟩) (by assumption) ?_
     (try simp only [Act.put,s1,s2,s3]);refine tk 26 ?_;refine wpAnyH_done (by kernel_rfl) ?_ _;clear hHeld
     go_wp2_with fail
     go_ret;exact ⟨rfl,(HENX.out _ HB2.out).2⟩
    have how':decide (0<ow)=false:=decide_eq_false how
    by_cases hdl:x.ds.length=0
    ·have HNK:=qI (HNN.out how hdl);rw [hdl] at HSX HOW;clear hdl;have HBd:Hid (Below X.heap.size X wr.drew):=below_drewR HBY.out;refine wp_region_held_drew (S:=(fun w':World=>(w'.cell? ⟨fb,fo+k*3,none⟩=some (.string q.nm)∧w'.cell? ⟨fb,fo+k*3+1,none⟩=some (.int .i64 q.pr)∧w'.cell? ⟨fb,fo+k*3+2,none⟩=some (.slice (some ⟨gb,go',none⟩) q.cs.length qc))∧w'.cell? ⟨gb,go'+j*6,none⟩=some (.string x.nm)∧w'.cell? ⟨gb,go'+j*6+1,none⟩=some (.int .i64 x.am)∧w'.cell? ⟨gb,go'+j*6+2,none⟩=some (.int .i64 x.ab)∧w'.cell? ⟨gb,go'+j*6+3,none⟩=some (.int .i64 x.cm)∧w'.cell? ⟨gb,go'+j*6+4,none⟩=some (.int .i64 x.cb)∧w'.cell? ⟨gb,go'+j*6+5,none⟩=some (.slice na 0 nc))) (by kernel_rfl) (HSX.out _ HBd.out) (fun hHeld=>?_);generalize wr.drew=V at *;refine tk 0 ?_;refine tk 1 ?_;refine tk 2 ?_;refine tk 3 ?_;refine tk 4 ?_;refine tk 5 ?_;refine tk 6 ?_;refine tk 7 ?_;refine tk 8 ?_;refine tk 9 ?_;refine tk 10 ?_;refine tk 11 ?_;refine rd 12 (fun K hK=>?_);go_simp
     go_wp2_with fail
     refine (HOW.out V HBd.out).mono ?_;rintro e V2 ⟨rfl,hb2⟩;have HB2:=qI (HBd.out.trans (hb2.mono HBd.out.size));clear hb2
     go_wp2_with fail
     refine hK.out _ _ (HSX.out _ HB2.out) (fun hHeld=>?_);clear hK K;refine tk 13 ?_;refine tk 14 ?_;refine tk 15 ?_;refine tk 16 ?_;refine tk 17 ?_;refine tk 18 ?_;refine tk 19 ?_;refine tk 20 ?_;refine tk 21 ?_;refine tk 22 ?_;refine tk 23 ?_;refine tk 24 ?_;refine tk 25 ?_;refine tk 26 ?_;refine wpAnyH_done (by kernel_rfl) ?_ _;clear hHeld
     go_wp2_with fail
     go_roundw
     case rel=>exact ⟨j+1,by omega,by go_num,HB2.out,HNK.out⟩
     case measure=>simp [intOf];omega
    ·have hdl':decide ((0:Int)<(x.ds.length:Int))=true:=decide_eq_true (by omega);have hdl2:decide (0<x.ds.length)=true:=decide_eq_true (by omega);have HBd:Hid (Below X.heap.size X wr.drew):=below_drewR HBY.out;refine wp_region_held_drew (S:=(fun w':World=>(w'.cell? ⟨fb,fo+k*3,none⟩=some (.string q.nm)∧w'.cell? ⟨fb,fo+k*3+1,none⟩=some (.int .i64 q.pr)∧w'.cell? ⟨fb,fo+k*3+2,none⟩=some (.slice (some ⟨gb,go',none⟩) q.cs.length qc))∧w'.cell? ⟨gb,go'+j*6,none⟩=some (.string x.nm)∧w'.cell? ⟨gb,go'+j*6+1,none⟩=some (.int .i64 x.am)∧w'.cell? ⟨gb,go'+j*6+2,none⟩=some (.int .i64 x.ab)∧w'.cell? ⟨gb,go'+j*6+3,none⟩=some (.int .i64 x.cm)∧w'.cell? ⟨gb,go'+j*6+4,none⟩=some (.int .i64 x.cb)∧w'.cell? ⟨gb,go'+j*6+5,none⟩=some (.slice na x.ds.length nc))) (by kernel_rfl) (HSX.out _ HBd.out) (fun hHeld=>?_);generalize wr.drew=V at *;refine tk 0 ?_;refine tk 1 ?_;refine tk 2 ?_;refine tk 3 ?_;refine tk 4 ?_;refine tk 5 ?_;refine tk 6 ?_;refine tk 7 ?_;refine tk 8 ?_;refine tk 9 ?_;refine tk 10 ?_;refine tk 11 ?_;refine rd 12 (fun K hK=>?_);go_simp
     go_wp2_with fail
     refine (HOW.out V HBd.out).mono ?_;rintro e V2 ⟨rfl,hb2⟩;have HB2:=qI (HBd.out.trans (hb2.mono HBd.out.size));clear hb2
     go_wp2_with fail
     refine hK.out _ _ (HSX.out _ HB2.out) (fun hHeld=>?_);clear hK K;refine tk 13 ?_;refine tk 14 ?_;refine tk 15 ?_;refine tk 16 ?_;refine tk 17 ?_;refine tk 18 ?_;refine tk 19 ?_;refine tk 20 ?_;refine tk 21 ?_;refine tk 22 ?_;refine tk 23 ?_;refine tk 24 ?_;refine tk 25 ?_;refine tk 26 ?_;refine wpAnyH_done (by kernel_rfl) ?_ _;clear hHeld
     go_wp2_with fail
     go_ret;exact ⟨rfl,(HENX.out _ HB2.out).2⟩
  ·have hke:k=ps.length:=by omega
   subst hke;have HALL:=qI HMI.out.all;have HBO:Hid (∀ W,Below X.heap.size X W→Calls Tryz.prog 11 #[.agg #[.slice ca c.l.length cc,.int .u64 (c.keep:Nat),.int .i64 c.nb,.slice da c.ds.length dc,.int .i64 c.pol]] W fun e w'=>BootOut W w' c e):=fun W hb=>boot_any c (.slice ca c.l.length cc) (.slice da c.ds.length dc) g o W (H1.out.below (HENX.out W hb).2) (H2.out.below (HENX.out W hb).2) hk (HT.out.below (HENX.out W hb).2) (HM.out.below (HENX.out W hb).2)
   clear HMI hlt hkl;have x0:wr.cell? ⟨Bc,0,none⟩=some (.slice ca c.l.length cc):=cell_of_heapV (HENX.out _ HBX.out).1 0;have x1:wr.cell? ⟨Bc,1,none⟩=some (.int .u64 (c.keep:Nat)):=cell_of_heapV (HENX.out _ HBX.out).1 1;have x2:wr.cell? ⟨Bc,2,none⟩=some (.int .i64 c.nb):=cell_of_heapV (HENX.out _ HBX.out).1 2;have x3:wr.cell? ⟨Bc,3,none⟩=some (.slice da c.ds.length dc):=cell_of_heapV (HENX.out _ HBX.out).1 3;have x4:wr.cell? ⟨Bc,4,none⟩=some (.int .i64 c.pol):=cell_of_heapV (HENX.out _ HBX.out).1 4
   go_wp2_with fail
   refine (HBO.out wr HBX.out).mono ?_;rintro e W5 ⟨hbad,hgood,hout⟩;have HB5:=qI (HBX.out.trans (hout.mono HBX.out.size));have hwr5:=hout.size;have hXr:=HBX.out.size;clear x0 x1 x2 x3 x4 hout
   by_cases hcf:Ol.confF c=0
   rotate_left
   ·obtain ⟨bp,bq,rfl⟩:=hbad hcf;clear hbad hgood;have HB6:=qI (HB5.out.alloc HB5.out.size (.cells #[.pointer bp,.pointer bq,.pointer none] 36));have x0:(W5.alloc (.cells #[.pointer bp,.pointer bq,.pointer none] 36)).cell? ⟨Bc,0,none⟩=some (.slice ca c.l.length cc):=cell_of_heapV (HENX.out _ HB6.out).1 0;have x1:(W5.alloc (.cells #[.pointer bp,.pointer bq,.pointer none] 36)).cell? ⟨Bc,1,none⟩=some (.int .u64 (c.keep:Nat)):=cell_of_heapV (HENX.out _ HB6.out).1 1;have x2:(W5.alloc (.cells #[.pointer bp,.pointer bq,.pointer none] 36)).cell? ⟨Bc,2,none⟩=some (.int .i64 c.nb):=cell_of_heapV (HENX.out _ HB6.out).1 2;have x3:(W5.alloc (.cells #[.pointer bp,.pointer bq,.pointer none] 36)).cell? ⟨Bc,3,none⟩=some (.slice da c.ds.length dc):=cell_of_heapV (HENX.out _ HB6.out).1 3;have x4:(W5.alloc (.cells #[.pointer bp,.pointer bq,.pointer none] 36)).cell? ⟨Bc,4,none⟩=some (.int .i64 c.pol):=cell_of_heapV (HENX.out _ HB6.out).1 4
    go_wp2_with fail
    clear x0 x1 x2 x3 x4;generalize W5.alloc (.cells #[.pointer bp,.pointer bq,.pointer none] 36)=Z at *;refine (HBO.out Z HB6.out).mono ?_;rintro e W7 ⟨hbad,hgood,hout⟩;obtain ⟨bp',bq',rfl⟩:=hbad hcf;have HB7:=qI (HB6.out.trans (hout.mono HB6.out.size));have HB8:=qI (HB7.out.alloc HB7.out.size (.cells #[.pointer bp',.pointer bq',.pointer none] 36));clear hbad hgood hout hcf HBO
    go_wp2_with fail
    go_ret;exact ⟨rfl,(HENX.out _ HB8.out).2⟩
   obtain ⟨Ba,Bd,Be,Bm,rfl,hM1,l1,l2,l3,l4⟩:=hgood hcf;have HM1:=qI hM1;clear hbad hgood hM1;have HB6:=qI (HB5.out.alloc HB5.out.size (.cells #[.pointer (some ⟨Bd,0,none⟩),.pointer (some ⟨Be,0,none⟩),.pointer (some ⟨Ba,0,none⟩)] 36));have HG6:=qI ((Below.refl W5.heap.size W5).alloc (Nat.le_refl _) (.cells #[.pointer (some ⟨Bd,0,none⟩),.pointer (some ⟨Be,0,none⟩),.pointer (some ⟨Ba,0,none⟩)] 36));have HX6:=qI (heap_madeO W5 (.cells #[.pointer (some ⟨Bd,0,none⟩),.pointer (some ⟨Be,0,none⟩),.pointer (some ⟨Ba,0,none⟩)] 36) rfl);have x0:(W5.alloc (.cells #[.pointer (some ⟨Bd,0,none⟩),.pointer (some ⟨Be,0,none⟩),.pointer (some ⟨Ba,0,none⟩)] 36)).cell? ⟨Bc,0,none⟩=some (.slice ca c.l.length cc):=cell_of_heapV (HENX.out _ HB6.out).1 0;have x1:(W5.alloc (.cells #[.pointer (some ⟨Bd,0,none⟩),.pointer (some ⟨Be,0,none⟩),.pointer (some ⟨Ba,0,none⟩)] 36)).cell? ⟨Bc,1,none⟩=some (.int .u64 (c.keep:Nat)):=cell_of_heapV (HENX.out _ HB6.out).1 1;have x2:(W5.alloc (.cells #[.pointer (some ⟨Bd,0,none⟩),.pointer (some ⟨Be,0,none⟩),.pointer (some ⟨Ba,0,none⟩)] 36)).cell? ⟨Bc,2,none⟩=some (.int .i64 c.nb):=cell_of_heapV (HENX.out _ HB6.out).1 2;have x3:(W5.alloc (.cells #[.pointer (some ⟨Bd,0,none⟩),.pointer (some ⟨Be,0,none⟩),.pointer (some ⟨Ba,0,none⟩)] 36)).cell? ⟨Bc,3,none⟩=some (.slice da c.ds.length dc):=cell_of_heapV (HENX.out _ HB6.out).1 3;have x4:(W5.alloc (.cells #[.pointer (some ⟨Bd,0,none⟩),.pointer (some ⟨Be,0,none⟩),.pointer (some ⟨Ba,0,none⟩)] 36)).cell? ⟨Bc,4,none⟩=some (.int .i64 c.pol):=cell_of_heapV (HENX.out _ HB6.out).1 4
   go_wp2_with fail
   clear x0 x1 x2 x3 x4;generalize W5.alloc (.cells #[.pointer (some ⟨Bd,0,none⟩),.pointer (some ⟨Be,0,none⟩),.pointer (some ⟨Ba,0,none⟩)] 36)=Z at *;refine (HBO.out Z HB6.out).mono ?_;rintro e W7 ⟨hbad,hgood,hout⟩;obtain ⟨Ca,Cd,Ce,Cm,rfl,hM2,m1,m2,m3,m4⟩:=hgood hcf;have HM2:=qI hM2;have hz5:W5.heap.size<Z.heap.size:=(Array.getElem?_eq_some_iff.1 HX6.out).1;have hz7:=hout.size;have HB7:=qI (HB6.out.trans (hout.mono HB6.out.size));have HG7:=qI (HG6.out.trans (hout.mono HG6.out.size));have HX7:=qI ((hout.block _ hz5).trans HX6.out);clear hbad hgood hout hM2 hcf HBO HX6 HG6 HB6 HB5;have HB8:=qI (HB7.out.alloc HB7.out.size (.cells #[.pointer (some ⟨Cd,0,none⟩),.pointer (some ⟨Ce,0,none⟩),.pointer (some ⟨Ca,0,none⟩)] 36));have HH8:=qI ((Below.refl W7.heap.size W7).alloc (Nat.le_refl _) (.cells #[.pointer (some ⟨Cd,0,none⟩),.pointer (some ⟨Ce,0,none⟩),.pointer (some ⟨Ca,0,none⟩)] 36));have HG8:=qI (HG7.out.trans (HH8.out.mono HG7.out.size));have HX8:=qI (heap_oldO HX7.out (.cells #[.pointer (some ⟨Cd,0,none⟩),.pointer (some ⟨Ce,0,none⟩),.pointer (some ⟨Ca,0,none⟩)] 36));have HY8:=qI (heap_madeO W7 (.cells #[.pointer (some ⟨Cd,0,none⟩),.pointer (some ⟨Ce,0,none⟩),.pointer (some ⟨Ca,0,none⟩)] 36) rfl);have hs8:W7.heap.size<(W7.alloc (.cells #[.pointer (some ⟨Cd,0,none⟩),.pointer (some ⟨Ce,0,none⟩),.pointer (some ⟨Ca,0,none⟩)] 36)).heap.size:=(Array.getElem?_eq_some_iff.1 HY8.out).1;obtain ⟨Bk,hBk⟩:∃ Bk,Bk=W5.heap.size:=⟨_,rfl⟩;obtain ⟨Bl,hBl⟩:∃ Bl,Bl=W7.heap.size:=⟨_,rfl⟩;rw [← hBk] at HX8;rw [← hBl] at HY8
   go_wp2_with fail
   rw [← hBk];rw [← hBl];generalize W7.alloc (.cells #[.pointer (some ⟨Cd,0,none⟩),.pointer (some ⟨Ce,0,none⟩),.pointer (some ⟨Ca,0,none⟩)] 36)=Y at *;obtain ⟨⟨a1,a2,a3⟩,a4⟩:=HM1.out.lts;obtain ⟨⟨b1,b2,b3⟩,b4⟩:=HM2.out.lts;have HMA:Hid (Mach Y (three Ca Cd Cm) Ba Bd Be Bm ⟨Ol.mcOf c,c.ds,[]⟩ Dk.fresh 0):=HM1.out.grow HG8.out (fun j hj=>.inr (by rcases hj with e|e|e <;> omega)) (fun j hj=>by rcases hj with e|e|e <;> omega);have HMB:Hid (Mach Y (three Ba Bd Bm) Ca Cd Ce Cm ⟨Ol.mcOf c,c.ds,[]⟩ Dk.fresh 0):=(HM2.out.keep HH8.out).wide rfl HMA.out ⟨by rintro (e|e|e) <;> omega,by rintro (e|e|e) <;> omega,by rintro (e|e|e) <;> omega,by rintro (e|e|e) <;> omega⟩;have hkY:Bk<Y.heap.size:=(Array.getElem?_eq_some_iff.1 HX8.out).1;have hlY:Bl<Y.heap.size:=(Array.getElem?_eq_some_iff.1 HY8.out).1;have HENV:Hid (∀ W,Apart (fun j=>three Ba Bd Bm j∨three Ca Cd Cm j) Y W→(W.heap[Bk]?=some (.cells #[.pointer (some ⟨Bd,0,none⟩),.pointer (some ⟨Be,0,none⟩),.pointer (some ⟨Ba,0,none⟩)] 36)∧W.heap[Bl]?=some (.cells #[.pointer (some ⟨Cd,0,none⟩),.pointer (some ⟨Ce,0,none⟩),.pointer (some ⟨Ca,0,none⟩)] 36))∧TabUp W∧Below w.heap.size w W∧CellLe w (mask (four (three Ca Cd Cm) Ba Bd Bm) W)∧CellLe w (mask (four (three Ba Bd Bm) Ca Cd Cm) W)):=fun W ha=>by
    have hb:=below_apart (HENX.out Y HB8.out).2 (HENX.out Y HB8.out).2.size ha (fun j hj=>by rcases hj with (e|e|e)|(e|e|e) <;> omega);refine ⟨⟨(ha.block Bk hkY ?_).trans HX8.out,(ha.block Bl hlY ?_).trans HY8.out⟩,tab_apart (HT.out.below (HENX.out Y HB8.out).2) ha ?_,hb,mask_below hb rfl ?_,mask_below hb rfl ?_⟩
    ·rintro ((e|e|e)|(e|e|e)) <;> omega
    ·rintro ((e|e|e)|(e|e|e)) <;> omega
    ·rintro ((e|e|e)|(e|e|e)) <;> omega
    ·rintro j ((e|e|e)|(e|e|e)) <;> omega
    ·rintro j ((e|e|e)|(e|e|e)) <;> omega
   have HML:Hid (c.l.length≤64):=by
    obtain ⟨_,_,_,_,_,_,_,_,_,_,_,_,_,_,_,_,_,_,_,k3,_⟩:=HMA.out;exact k3.topo.len
   have HOP:Hid ((Ol.mcOf c).op &&& chosen (fun _=>true) (Ol.mcOf c).l=(Ol.mcOf c).op):=Ost.dif_sub _ _;clear HM1 HM2 HX7 HG7 HB7 HX8 HY8 HG8 HH8 HB8 HENX HB0 HBX;clear hBk hBl a1 a2 a3 a4 b1 b2 b3 b4 l1 l2 l3 l4 m1 m2 m3 m4 hz5 hz7 hs8 hkY hlY hwr5 hXr hXc hwX
   go_wp2_with fail
   go_loopw [12] (fun i wr=>∃ k:Nat,k≤ps.length∧i=.int .i64 k∧Apart (fun j=>three Ba Bd Bm j∨three Ca Cd Cm j) Y wr∧∃ hs dk n,n≤3*k∧Mach wr (three Ca Cd Cm) Ba Bd Be Bm ⟨Ol.mcOf c,c.ds,hs⟩ dk n∧Mach wr (three Ba Bd Bm) Ca Cd Ce Cm ⟨Ol.mcOf c,c.ds,[]⟩ Dk.fresh 0∧Ol.Came ⟨Ol.mcOf c,c.ds,hs⟩ (ps.take k)) (fun i _=>ps.length - (intOf i).toNat)
   case atStart=>exact ⟨0,Nat.zero_le _,rfl,Apart.refl _ _,[],Dk.fresh,0,Nat.le_refl _,HMA.out,HMB.out,Ol.came_nil _ _⟩
   case round=>
    obtain ⟨k,hkl,rfl,hap,hs,dk,n,hn,hMr,hMs,hcm⟩:=hrel;have HAP:=qI hap;have HMR:=qI hMr;have HMS:=qI hMs;have HCM:=qI hcm;clear hap hMr hMs hcm
    by_cases hlt:k<ps.length
    ·obtain ⟨fb,fo,cvf,rfl,hin⟩:=HFR.out (by omega);obtain ⟨⟨r0,r1,r2⟩,hqc⟩:=hin.2 k hlt;obtain ⟨qa,qc,hcq,_⟩:=id hqc;rw [hcq] at hqc r2;have HQC:=qI hqc;have HR0:=qI r0;have HR1:=qI r1;have HR2:=qI r2;have hfbl:fb<w.heap.size:=hin.1;clear hin hqc hcq r0 r1 r2;have HCN:=qI (came hlt HMR.out.inv HML.out HOP.out HALL.out HCM.out);generalize pd ps k=q at *;have HSB:Hid (∀ W,Apart (fun j=>three Ba Bd Bm j∨three Ca Cd Cm j) Y W→(fun w':World=>w'.cell? ⟨Bk,2,none⟩=some (.pointer (some ⟨Ba,0,none⟩))∧w'.cell? ⟨fb,fo+k*3,none⟩=some (.string q.nm)∧w'.cell? ⟨fb,fo+k*3+1,none⟩=some (.int .i64 q.pr)∧w'.cell? ⟨fb,fo+k*3+2,none⟩=some (.slice qa q.cs.length qc)) W):=fun W ha=>by
      obtain ⟨e1,e2,e4,e5⟩:=HENV.out W ha;exact ⟨cell_of_heapV e1.1 2,(e4.cell (p:=⟨fb,_,none⟩) hfbl).trans HR0.out,(e4.cell (p:=⟨fb,_,none⟩) hfbl).trans HR1.out,(e4.cell (p:=⟨fb,_,none⟩) hfbl).trans HR2.out⟩
     go_upto_region 24 with fail
     have HAd:Hid (Apart (fun j=>three Ba Bd Bm j∨three Ca Cd Cm j) Y wr.drew):=HAP.out.trans (Apart.of_below (below_drewR (Below.refl _ _)));have HMd:Hid (Mach wr.drew (three Ca Cd Cm) Ba Bd Be Bm ⟨Ol.mcOf c,c.ds,hs⟩ dk n):=HMR.out.keep (below_drewR (Below.refl _ _));have HMe:Hid (Mach wr.drew (three Ba Bd Bm) Ca Cd Ce Cm ⟨Ol.mcOf c,c.ds,[]⟩ Dk.fresh 0):=HMS.out.keep (below_drewR (Below.refl _ _));clear HCM;obtain ⟨A,hA⟩:∃ A,A=Ol.admit ⟨Ol.mcOf c,c.ds,hs⟩ q:=⟨_,rfl⟩;have HAA:=qI hA;rw [← hA] at HCN;clear hA
     by_cases hz:A.1=0
     ·have HZZ:=qI hz;refine wp_region_held_drew (S:=(fun w':World=>w'.cell? ⟨Bk,2,none⟩=some (.pointer (some ⟨Ba,0,none⟩))∧w'.cell? ⟨fb,fo+k*3,none⟩=some (.string q.nm)∧w'.cell? ⟨fb,fo+k*3+1,none⟩=some (.int .i64 q.pr)∧w'.cell? ⟨fb,fo+k*3+2,none⟩=some (.slice qa q.cs.length qc))) (by kernel_rfl) (HSB.out _ HAd.out) (fun hHeld=>?_);generalize wr.drew=V at *;refine tk 0 ?_;refine tk 1 ?_;refine tk 2 ?_;refine tk 3 ?_;refine tk 4 ?_;refine tk 5 ?_;refine rd 6 (fun K hK=>?_);go_simp
      go_wp2_with fail
      have HAD:=qI (admitF (p:=q) (cv:=.slice qa q.cs.length qc) HMd.out (HQC.out.le (HENV.out V HAd.out).2.2.2.1) (HENV.out V HAd.out).2.1 (by omega));unfold podV at HAD;rw [← HAA.out] at HAD;refine HAD.out.mono ?_;rintro e V2 ⟨rfl,⟨dk2,n2,hn2,hM2⟩,ha2⟩;have HA2:=qI (HAd.out.trans (ha2.wide (fun j e=>.inl e)));have HMX:=qI hM2;have HMZ:=qI (HMe.out.other ha2 HMd.out.noInt);clear hM2 ha2 HAD;rw [hz,show errV (((0:Nat)):Int)=.nilIface from rfl];clear hz
      go_wp2_with fail
      refine hK.out _ _ (HSB.out _ HA2.out) (fun hHeld=>?_);clear hK K;refine tk 7 ?_;refine wpAnyH_done (by kernel_rfl) ?_ _;clear hHeld
      go_wp2_with fail
      have HCK:=qI (HCN.out HZZ.out);have hn3:n2≤3*(k+1):=by omega
      go_roundw
      case rel=>exact ⟨k+1,by omega,by go_num,HA2.out,_,_,_,hn3,HMX.out,HMZ.out,HCK.out⟩
      case measure=>simp [intOf];omega
     ·have HZZ:=qI hz;refine wp_region_held_drew (S:=(fun w':World=>w'.cell? ⟨Bk,2,none⟩=some (.pointer (some ⟨Ba,0,none⟩))∧w'.cell? ⟨fb,fo+k*3,none⟩=some (.string q.nm)∧w'.cell? ⟨fb,fo+k*3+1,none⟩=some (.int .i64 q.pr)∧w'.cell? ⟨fb,fo+k*3+2,none⟩=some (.slice qa q.cs.length qc))) (by kernel_rfl) (HSB.out _ HAd.out) (fun hHeld=>?_);generalize wr.drew=V at *;refine tk 0 ?_;refine tk 1 ?_;refine tk 2 ?_;refine tk 3 ?_;refine tk 4 ?_;refine tk 5 ?_;refine rd 6 (fun K hK=>?_);go_simp
      go_wp2_with fail
      have HAD:=qI (admitF (p:=q) (cv:=.slice qa q.cs.length qc) HMd.out (HQC.out.le (HENV.out V HAd.out).2.2.2.1) (HENV.out V HAd.out).2.1 (by omega));unfold podV at HAD;rw [← HAA.out] at HAD;refine HAD.out.mono ?_;rintro e V2 ⟨rfl,⟨dk2,n2,hn2,hM2⟩,ha2⟩;have HA2:=qI (HAd.out.trans (ha2.wide (fun j e=>.inl e)));have HMX:=qI hM2;have HMZ:=qI (HMe.out.other ha2 HMd.out.noInt);clear hM2 ha2 HAD;rw [errQ_pos hz];clear hz
      go_wp2_with fail
      refine hK.out _ _ (HSB.out _ HA2.out) (fun hHeld=>?_);clear hK K;refine tk 7 ?_;refine wpAnyH_done (by kernel_rfl) ?_ _;clear hHeld
      go_wp2_with fail
      go_ret;exact ⟨rfl,(HENV.out _ HA2.out).2.2.1⟩
    ·have hke:k=ps.length:=by omega
     subst hke;have HCW:Hid (Ol.Came ⟨Ol.mcOf c,c.ds,hs⟩ ps):=by have:=HCM.out;rwa [List.take_length] at this
     have hsub:IntKind.i64.wrap ((ps.length:Int) - 1)=(ps.length:Int) - 1:=by rw [IntKind.wrap_i64];omega
     clear hlt hkl HCM
     go_wp2_with fail
     go_loopw [13] (fun i wr=>∃ (k:Nat) (x:Int),x=(k:Int) - 1∧k≤ps.length∧i=.int .i64 x∧Apart (fun j=>three Ba Bd Bm j∨three Ca Cd Cm j) Y wr∧∃ hs2 dk2 n2,n2+3*k≤3*ps.length∧Mach wr (three Ca Cd Cm) Ba Bd Be Bm ⟨Ol.mcOf c,c.ds,hs⟩ dk n∧Mach wr (three Ba Bd Bm) Ca Cd Ce Cm ⟨Ol.mcOf c,c.ds,hs2⟩ dk2 n2∧hs2.Perm ((ps.drop k).map Ol.zh)) (fun i _=>(intOf i+1).toNat)
     case atStart=>exact ⟨ps.length,(ps.length:Int) - 1,rfl,Nat.le_refl _,by go_num,HAP.out,[],Dk.fresh,0,by omega,HMR.out,HMS.out,by rw [List.drop_length];exact List.Perm.nil⟩
     case round=>
      clear HAP HMR HMS hsub;obtain ⟨k,x,hx,hkl,rfl,hap,hs2,dk2,n2,hn2,hMr,hMs,hpm⟩:=hrel;have HAP:=qI hap;have HMR:=qI hMr;have HMS:=qI hMs;have HPM:=qI hpm;clear hap hMr hMs hpm
      by_cases hk0:k=0
      rotate_left
      ·obtain ⟨k',rfl⟩:∃ k',k=k'+1:=⟨k - 1,by omega⟩;have hx':x=(k':Int):=by omega
       clear hx hk0;subst hx';have hlt:k'<ps.length:=by omega
       have hge:decide ((0:Int)≤(k':Int))=true:=decide_eq_true (by omega);obtain ⟨fb,fo,cvf,rfl,hin⟩:=HFR.out (by omega);obtain ⟨⟨r0,r1,r2⟩,hqc⟩:=hin.2 k' hlt;obtain ⟨qa,qc,hcq,_⟩:=id hqc;rw [hcq] at hqc r2;have HQC:=qI hqc;have HR0:=qI r0;have HR1:=qI r1;have HR2:=qI r2;have hfbl:fb<w.heap.size:=hin.1;clear hin hqc hcq r0 r1 r2;have HWT:=qI (went (t:=⟨Ol.mcOf c,c.ds,hs⟩) (o:=⟨Ol.mcOf c,c.ds,hs2⟩) hlt HMR.out.inv HMS.out.inv rfl HML.out HOP.out HALL.out HCW.out HPM.out);generalize pd ps k'=q at *;have HSB:Hid (∀ W,Apart (fun j=>three Ba Bd Bm j∨three Ca Cd Cm j) Y W→(fun w':World=>w'.cell? ⟨Bl,2,none⟩=some (.pointer (some ⟨Ca,0,none⟩))∧w'.cell? ⟨fb,fo+k'*3,none⟩=some (.string q.nm)∧w'.cell? ⟨fb,fo+k'*3+1,none⟩=some (.int .i64 q.pr)∧w'.cell? ⟨fb,fo+k'*3+2,none⟩=some (.slice qa q.cs.length qc)) W):=fun W ha=>by
        obtain ⟨e1,e2,e4,e5⟩:=HENV.out W ha;exact ⟨cell_of_heapV e1.2 2,(e4.cell (p:=⟨fb,_,none⟩) hfbl).trans HR0.out,(e4.cell (p:=⟨fb,_,none⟩) hfbl).trans HR1.out,(e4.cell (p:=⟨fb,_,none⟩) hfbl).trans HR2.out⟩
       go_upto_region 29 with fail
       have HAd:Hid (Apart (fun j=>three Ba Bd Bm j∨three Ca Cd Cm j) Y wr.drew):=HAP.out.trans (Apart.of_below (below_drewR (Below.refl _ _)));have HMd:Hid (Mach wr.drew (three Ba Bd Bm) Ca Cd Ce Cm ⟨Ol.mcOf c,c.ds,hs2⟩ dk2 n2):=HMS.out.keep (below_drewR (Below.refl _ _));have HMe:Hid (Mach wr.drew (three Ca Cd Cm) Ba Bd Be Bm ⟨Ol.mcOf c,c.ds,hs⟩ dk n):=HMR.out.keep (below_drewR (Below.refl _ _));clear HPM;obtain ⟨A,hA⟩:∃ A,A=Ol.admit ⟨Ol.mcOf c,c.ds,hs2⟩ q:=⟨_,rfl⟩;have HAA:=qI hA;rw [← hA] at HWT;clear hA;have hz:A.1=0:=HWT.out.1;refine wp_region_held_drew (S:=(fun w':World=>w'.cell? ⟨Bl,2,none⟩=some (.pointer (some ⟨Ca,0,none⟩))∧w'.cell? ⟨fb,fo+k'*3,none⟩=some (.string q.nm)∧w'.cell? ⟨fb,fo+k'*3+1,none⟩=some (.int .i64 q.pr)∧w'.cell? ⟨fb,fo+k'*3+2,none⟩=some (.slice qa q.cs.length qc))) (by kernel_rfl) (HSB.out _ HAd.out) (fun hHeld=>?_);generalize wr.drew=V at *;refine tk 0 ?_;refine tk 1 ?_;refine tk 2 ?_;refine tk 3 ?_;refine tk 4 ?_;refine tk 5 ?_;refine rd 6 (fun K hK=>?_);go_simp
       go_wp2_with fail
       have HAD:=qI (admitF (p:=q) (cv:=.slice qa q.cs.length qc) HMd.out (HQC.out.le (HENV.out V HAd.out).2.2.2.2) (HENV.out V HAd.out).2.1 (by omega));unfold podV at HAD;rw [← HAA.out] at HAD;refine HAD.out.mono ?_;rintro e V2 ⟨rfl,⟨dk3,n3,hn3,hM2⟩,ha2⟩;have HA2:=qI (HAd.out.trans (ha2.wide (fun j e=>.inr e)));have HMX:=qI hM2;have HMZ:=qI (HMe.out.other ha2 HMd.out.noInt);clear hM2 ha2 HAD;rw [hz,show errV (((0:Nat)):Int)=.nilIface from rfl];clear hz
       go_wp2_with fail
       refine hK.out _ _ (HSB.out _ HA2.out) (fun hHeld=>?_);clear hK K;refine tk 7 ?_;refine wpAnyH_done (by kernel_rfl) ?_ _;clear hHeld
       go_wp2_with fail
       have hn4:n3+3*k'≤3*ps.length:=by omega
       go_roundw
       case rel=>exact ⟨k',(k':Int) - 1,rfl,by omega,by go_num,HA2.out,_,_,_,hn4,HMZ.out,HMX.out,HWT.out.2⟩
       case measure=>simp [intOf] <;> omega
      ·subst hk0;have hx':x=-1:=by omega
       clear hx;subst hx';have heq:hs=hs2:=Ol.came_same (t:=⟨Ol.mcOf c,c.ds,hs⟩) (o:=⟨Ol.mcOf c,c.ds,hs2⟩) HMR.out.inv HMS.out.inv HCW.out HPM.out;subst heq;clear HPM HCW hn2 hkl;have HSB:Hid (∀ W,Apart (fun j=>three Ba Bd Bm j∨three Ca Cd Cm j) Y W→(fun w':World=>w'.cell? ⟨Bk,2,none⟩=some (.pointer (some ⟨Ba,0,none⟩))∧w'.cell? ⟨Bl,2,none⟩=some (.pointer (some ⟨Ca,0,none⟩))) W):=fun W ha=>by
        obtain ⟨e1,_⟩:=HENV.out W ha;exact ⟨cell_of_heapV e1.1 2,cell_of_heapV e1.2 2⟩
       go_upto_region 31 with fail
       have HAd:Hid (Apart (fun j=>three Ba Bd Bm j∨three Ca Cd Cm j) Y wr.drew):=HAP.out.trans (Apart.of_below (below_drewR (Below.refl _ _)));have HMd:Hid (Mach wr.drew (three Ca Cd Cm) Ba Bd Be Bm ⟨Ol.mcOf c,c.ds,hs⟩ dk n):=HMR.out.keep (below_drewR (Below.refl _ _));have HMe:Hid (Mach wr.drew (three Ba Bd Bm) Ca Cd Ce Cm ⟨Ol.mcOf c,c.ds,hs⟩ dk2 n2):=HMS.out.keep (below_drewR (Below.refl _ _));refine wp_region_held_drew (S:=(fun w':World=>w'.cell? ⟨Bk,2,none⟩=some (.pointer (some ⟨Ba,0,none⟩))∧w'.cell? ⟨Bl,2,none⟩=some (.pointer (some ⟨Ca,0,none⟩)))) (by kernel_rfl) (HSB.out _ HAd.out) (fun hHeld=>?_);generalize wr.drew=V at *;refine tk 0 ?_;refine tk 1 ?_;refine tk 3 ?_;refine tk 4 ?_;refine rd 2 (fun K hK=>?_);go_simp
       go_wp2_with fail
       refine (heldM HMd.out).mono ?_;rintro e V2 ⟨ha,hc,rfl,hh2,hb2⟩;have HA2:=qI (HAd.out.trans (Apart.of_below hb2));have HM2:=qI (HMd.out.keep hb2);have HN2:=qI (HMe.out.keep hb2);have HH2:Hid (HldsAt V2 (.slice ha hs.length hc) hs):=hh2.le (mask_off _ _);clear hh2 hb2;(try dsimp only)
       go_wp2_with fail
       refine hK.out _ _ (HSB.out _ HA2.out) (fun hHeld=>?_);clear hK K;refine rd 5 (fun K hK=>?_);go_simp
       go_wp2_with fail
       refine (heldM HN2.out).mono ?_;rintro e V3 ⟨ia,ic,rfl,hh3,hb3⟩;have HA3:=qI (HA2.out.trans (Apart.of_below hb3));have HM3:=qI (HM2.out.keep hb3);have HN3:=qI (HN2.out.keep hb3);have HH3:Hid (HldsAt V3 (.slice ia hs.length ic) hs):=hh3.le (mask_off _ _);have HG3:=qI (HH2.out.below hb3);clear hh3 hb3;(try dsimp only)
       go_wp2_with fail
       refine hK.out _ _ (HSB.out _ HA3.out) (fun hHeld=>?_);clear hK K;refine rd 6 (fun K hK=>?_);go_simp
       go_wp2_with fail
       refine (sameHeld_any _ _ hs hs V3 HG3.out HH3.out).mono ?_;rintro e V4 ⟨b4,rfl,hyes,hb4⟩;have hb4t:=hyes rfl;subst hb4t;have HA4:=qI (HA3.out.trans (Apart.of_below hb4));have HM4:=qI (HM3.out.keep hb4);have HN4:=qI (HN3.out.keep hb4);clear hyes hb4
       go_wp2_with fail
       refine hK.out _ _ (HSB.out _ HA4.out) (fun hHeld=>?_);clear hK K;refine tk 7 ?_;refine tk 8 ?_;refine tk 9 ?_;refine tk 11 ?_;refine tk 12 ?_;refine rd 10 (fun K hK=>?_);go_simp
       go_wp2_with fail
       refine (sharedM HM4.out).mono ?_;rintro e V5 ⟨⟨s,hsl,rfl⟩,rfl⟩;have HSL:=qI hsl;clear hsl
       go_wp2_with fail
       refine hK.out _ _ (HSB.out _ HA4.out) (fun hHeld=>?_);clear hK K;refine rd 13 (fun K hK=>?_);go_simp
       go_wp2_with fail
       refine (sharedM HN4.out).mono ?_;rintro e V6 ⟨⟨s',hsl',rfl⟩,rfl⟩;have hss:s'=s:=by
        have h1:=HSL.out;rw [hsl'] at h1;injection h1
       subst hss;clear hsl'
       go_wp2_with fail
       refine hK.out _ _ (HSB.out _ HA4.out) (fun hHeld=>?_);clear hK K;refine tk 14 ?_;refine tk 15 ?_;refine tk 16 ?_;refine wpAnyH_done (by kernel_rfl) ?_ _;clear hHeld
       go_wp2_with fail
       go_ret;exact ⟨rfl,(HENV.out _ HA4.out).2.2.1⟩
end
end Go.Proofs.YtbmmnflgnmjboaaGreatDoor
