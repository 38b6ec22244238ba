/- OTR -/
import Derived.Test.YtbfdcmodflnkfaaGreatDoorRR1
import Derived.Deep.DeepCutAuto
set_option maxRecDepth 100000
set_option maxHeartbeats 16000000
namespace Go.Proofs.YtbfdcmodflnkfaaGreatDoor
section
open Go.RowKit Go.Shelf
open Ost (Cpu cpu0 chosen)
open Qos (Nd Ct Pd nd ct pd podF)
open Sv (Gv Hd gv hd gsF heldF heldTxt)
open Dvs (Dv dv Nodes)
open S1 (Mx)
attribute [local go_sem] Oper.semAt_some
theorem topRoom_true (c:Ol.Cf) (v1 v2:Value) (g o:Nat) (ps:List Pd) (vf:Value) (p:Pd) (cv:Value) (w:World) (h1:CpusAt w v1 c.l) (h2:DevsAt w v2 g o c.ds) (hk:c.keep<18446744073709551616) (hf:PodsAt w vf ps) (hp:ConsAt w cv p.cs) (ht:TabUp w) (hm:Mx w) :
  Calls Tryz.prog 4 #[confV c v1 v2,vf,podV p cv] w fun e w'=>e=.returned (.bool true)∧Below w.heap.size w w':=by
 obtain ⟨ca,cc,hv1⟩:∃ ca cc,v1=.slice ca c.l.length cc:=by
  rcases id h1 with ⟨hl,ao,q,rfl⟩|⟨b,o,q,rfl,_⟩
  ·exact ⟨ao,q,by rw [hl];rfl⟩
  ·exact ⟨_,q,rfl⟩
 obtain ⟨da,dc,hv2⟩:∃ da dc,v2=.slice da c.ds.length dc:=by
  obtain ⟨da,dc,e,_⟩:=id h2;exact ⟨da,dc,e⟩
 obtain ⟨pa,pcc,hcv⟩:∃ pa pcc,cv=.slice pa p.cs.length pcc:=by
  obtain ⟨pa,pcc,e,_⟩:=id hp;exact ⟨pa,pcc,e⟩
 have HF:=qI hf;obtain ⟨fa,fc,hvf,hfm,hfr⟩:=hf;subst hv1 hv2 hcv hvf;have HFR:=qI hfr;have H1:=qI h1;have H2:=qI h2;have HP:=qI hp;have HT:=qI ht;have HM:=qI hm;have hgl:0<w.heap.size:=ht.2;clear h1 h2 hp ht hm hfm hfr;unfold confV podV;have HB0:=qI (((Below.refl w.heap.size w).alloc (Nat.le_refl _) (.cells #[.slice ca c.l.length cc,.int .u64 (c.keep:Nat),.int .i64 c.nb,.slice da c.ds.length dc,.int .i64 c.pol] 27)).alloc (by simp) (.cells #[.string p.nm,.int .i64 p.pr,.slice pa p.cs.length pcc] 31));obtain ⟨Bc,hBc⟩:∃ Bc,Bc=w.heap.size:=⟨_,rfl⟩;obtain ⟨Bp,hBp⟩:∃ Bp,Bp=w.heap.size+1:=⟨_,rfl⟩;have HXC:Hid (((w.alloc (.cells #[.slice ca c.l.length cc,.int .u64 (c.keep:Nat),.int .i64 c.nb,.slice da c.ds.length dc,.int .i64 c.pol] 27)).alloc (.cells #[.string p.nm,.int .i64 p.pr,.slice pa p.cs.length pcc] 31)).heap[Bc]?=some (.cells #[.slice ca c.l.length cc,.int .u64 (c.keep:Nat),.int .i64 c.nb,.slice da c.ds.length dc,.int .i64 c.pol] 27)):=by
  unfold Hid;rw [hBc];exact heap_oldO (heap_madeO w (.cells #[.slice ca c.l.length cc,.int .u64 (c.keep:Nat),.int .i64 c.nb,.slice da c.ds.length dc,.int .i64 c.pol] 27) rfl) _
 have HXP:Hid (((w.alloc (.cells #[.slice ca c.l.length cc,.int .u64 (c.keep:Nat),.int .i64 c.nb,.slice da c.ds.length dc,.int .i64 c.pol] 27)).alloc (.cells #[.string p.nm,.int .i64 p.pr,.slice pa p.cs.length pcc] 31)).heap[Bp]?=some (.cells #[.string p.nm,.int .i64 p.pr,.slice pa p.cs.length pcc] 31)):=by
  unfold Hid;rw [hBp];exact heap_madeO (w.alloc (.cells #[.slice ca c.l.length cc,.int .u64 (c.keep:Nat),.int .i64 c.nb,.slice da c.ds.length dc,.int .i64 c.pol] 27)) (.cells #[.string p.nm,.int .i64 p.pr,.slice pa p.cs.length pcc] 31) (by simp)
 have HLP0:Hid (Bp=Bc+1):=by unfold Hid;rw [hBp,hBc]
 have HBC:=qI hBc
 go_enter Tryz.func4,Tryz.ntmps4
 go_wp2_with fail
 rw [← hBp];rw [← hBc];generalize ((w.alloc (.cells #[.slice ca c.l.length cc,.int .u64 (c.keep:Nat),.int .i64 c.nb,.slice da c.ds.length dc,.int .i64 c.pol] 27)).alloc (.cells #[.string p.nm,.int .i64 p.pr,.slice pa p.cs.length pcc] 31))=X at *;clear hBp hBc;refine (works_true X (HT.out.below HB0.out) (HM.out.below HB0.out)).mono ?_;rintro e W1 ⟨rfl,hb1⟩;have hlp:=HLP0.out;have hXp:Bp<X.heap.size:=(Array.getElem?_eq_some_iff.1 HXP.out).1;have HB1:=qI (HB0.out.trans (hb1.mono HB0.out.size));have HC1:=qI ((hb1.block Bc (by omega)).trans HXC.out);have HP1:=qI ((hb1.block Bp hXp).trans HXP.out);have hs1:=hb1.size;have hXc:Bc<X.heap.size:=by omega
 clear hb1 hlp;have x0:W1.cell? ⟨Bc,0,none⟩=some (.slice ca c.l.length cc):=cell_of_heapV HC1.out 0;have x1:W1.cell? ⟨Bc,1,none⟩=some (.int .u64 (c.keep:Nat)):=cell_of_heapV HC1.out 1;have x2:W1.cell? ⟨Bc,2,none⟩=some (.int .i64 c.nb):=cell_of_heapV HC1.out 2;have x3:W1.cell? ⟨Bc,3,none⟩=some (.slice da c.ds.length dc):=cell_of_heapV HC1.out 3;have x4:W1.cell? ⟨Bc,4,none⟩=some (.int .i64 c.pol):=cell_of_heapV HC1.out 4;have HLC:=qI (lightConf_any c (.slice ca c.l.length cc) (.slice da c.ds.length dc) g o W1 (H1.out.below HB1.out) (H2.out.below HB1.out));unfold confV at HLC
 go_wp2_with fail
 refine HLC.out.mono ?_;rintro e W2 ⟨⟨b,rfl⟩,hb2⟩;have HB2:=qI (HB1.out.trans (hb2.mono HB1.out.size));have HC2:=qI ((hb2.block Bc (by omega)).trans HC1.out);have HP2:=qI ((hb2.block Bp (by omega)).trans HP1.out);have hs2:=hb2.size;clear hb2 x0 x1 x2 x3 x4 HLC
 rcases two b with rfl|rfl
 rotate_left
 ·go_wp2_with fail
  go_ret;exact ⟨rfl,HB2.out⟩
 have HLF:=qI (lightPods_any (.slice fa ps.length fc) ps W2 (HF.out.below HB2.out))
 go_wp2_with fail
 refine HLF.out.mono ?_;rintro e W3 ⟨⟨b,rfl,hfew⟩,hb3⟩;have HB3:=qI (HB2.out.trans (hb3.mono HB2.out.size));have HC3:=qI ((hb3.block Bc (by omega)).trans HC2.out);have HP3:=qI ((hb3.block Bp (by omega)).trans HP2.out);have hs3:=hb3.size;have HFEW:=qI hfew;clear hb3 HLF hfew
 rcases two b with rfl|rfl
 rotate_left
 ·go_wp2_with fail
  go_ret;exact ⟨rfl,HB3.out⟩
 have hps:ps.length≤16:=HFEW.out rfl;have x0:W3.cell? ⟨Bp,0,none⟩=some (.string p.nm):=cell_of_heapV HP3.out 0;have x1:W3.cell? ⟨Bp,1,none⟩=some (.int .i64 p.pr):=cell_of_heapV HP3.out 1;have x2:W3.cell? ⟨Bp,2,none⟩=some (.slice pa p.cs.length pcc):=cell_of_heapV HP3.out 2;have HLP:=qI (lightPodL (p:=p) (HP.out.below HB3.out));unfold podV at HLP
 go_wp2_with fail
 refine HLP.out.mono ?_;rintro e W4 ⟨⟨b,rfl⟩,hb4⟩;have HB4:=qI (HB3.out.trans (hb4.mono HB3.out.size));have HC4:=qI ((hb4.block Bc (by omega)).trans HC3.out);have HP4:=qI ((hb4.block Bp (by omega)).trans HP3.out);have hs4:=hb4.size;have hc4:Bc<W4.heap.size:=by omega
 have hp4:Bp<W4.heap.size:=by omega
 clear hb4 x0 x1 x2 HLP HB3 HC3 HP3 HB2 HC2 HP2 HC1 HP1 HB1 HXC HXP HB0 HFEW;clear hXp hXc hs1 hs2 hs3 hs4
 rcases two b with rfl|rfl
 rotate_left
 ·go_wp2_with fail
  go_ret;exact ⟨rfl,HB4.out⟩
 have z4:W4.cell? ⟨Bc,4,none⟩=some (.int .i64 c.pol):=cell_of_heapV HC4.out 4;have f4:W4.frozen? ⟨Bc,4,none⟩=false:=frozen_of_heapO HC4.out 4;have HCS:Hid ((W4.setCell ⟨Bc,4,none⟩ (.int .i64 0)).heap[Bc]?=some (.cells #[.slice ca c.l.length cc,.int .u64 (c.keep:Nat),.int .i64 c.nb,.slice da c.ds.length dc,.int .i64 0] 27)):=set_heap HC4.out 4 (.int .i64 0);have HPS:Hid ((W4.setCell ⟨Bc,4,none⟩ (.int .i64 0)).heap[Bp]?=some (.cells #[.string p.nm,.int .i64 p.pr,.slice pa p.cs.length pcc] 31)):=((grown_setCell W4 ⟨Bc,4,none⟩ (.int .i64 0)).block Bp hp4 (fun e=>by injection e with e;have e2:Bp=Bc:=e;have:=HLP0.out;omega)).trans HP4.out;have HBS:Hid (Below w.heap.size w (W4.setCell ⟨Bc,4,none⟩ (.int .i64 0))):=HB4.out.grown (grown_setCell W4 ⟨Bc,4,none⟩ (.int .i64 0)) HB4.out.size (fun j e=>by injection e with e;have e2:Bc=j:=e;have:=HBC.out;omega);have y0:(W4.setCell ⟨Bc,4,none⟩ (.int .i64 0)).cell? ⟨Bc,0,none⟩=some (.slice ca c.l.length cc):=cell_of_heapV HCS.out 0;have y1:(W4.setCell ⟨Bc,4,none⟩ (.int .i64 0)).cell? ⟨Bc,1,none⟩=some (.int .u64 (c.keep:Nat)):=cell_of_heapV HCS.out 1;have y2:(W4.setCell ⟨Bc,4,none⟩ (.int .i64 0)).cell? ⟨Bc,2,none⟩=some (.int .i64 c.nb):=cell_of_heapV HCS.out 2;have y3:(W4.setCell ⟨Bc,4,none⟩ (.int .i64 0)).cell? ⟨Bc,3,none⟩=some (.slice da c.ds.length dc):=cell_of_heapV HCS.out 3;have y4:(W4.setCell ⟨Bc,4,none⟩ (.int .i64 0)).cell? ⟨Bc,4,none⟩=some (.int .i64 0):=cell_of_heapV HCS.out 4;have HBO:=qI (boot_any ({ c with pol:=0 }:Ol.Cf) (.slice ca c.l.length cc) (.slice da c.ds.length dc) g o (W4.setCell ⟨Bc,4,none⟩ (.int .i64 0)) (H1.out.below HBS.out) (H2.out.below HBS.out) hk (HT.out.below HBS.out) (HM.out.below HBS.out));dsimp only at HBO
 go_wp2_with fail
 clear z4 f4 y0 y1 y2 y3 y4;generalize (W4.setCell ⟨Bc,4,none⟩ (.int .i64 0))=S at *;refine HBO.out.mono ?_;rintro e W5 ⟨hbad,hgood,hout⟩;have hs5:=hout.size;have hwS:w.heap.size≤S.heap.size:=HBS.out.size;have HB5:=qI (HBS.out.trans (hout.mono HBS.out.size));have hbcs:Bc<S.heap.size:=(Array.getElem?_eq_some_iff.1 HCS.out).1;have hbps:Bp<S.heap.size:=(Array.getElem?_eq_some_iff.1 HPS.out).1;have HP5:=qI ((hout.block Bp hbps).trans HPS.out);have HC5:=qI ((hout.block Bc hbcs).trans HCS.out)
 by_cases hcf:Ol.confF ({ c with pol:=0 }:Ol.Cf)=0
 rotate_left
 ·obtain ⟨bp,bq,rfl⟩:=hbad hcf;clear hbad hgood hout hcf HBO;have HB6:=qI (HB5.out.alloc HB5.out.size (.cells #[.pointer bp,.pointer bq,.pointer none] 40));have HC6:=qI (heap_oldO HC5.out (.cells #[.pointer bp,.pointer bq,.pointer none] 40));have x0:(W5.alloc (.cells #[.pointer bp,.pointer bq,.pointer none] 40)).cell? ⟨Bc,0,none⟩=some (.slice ca c.l.length cc):=cell_of_heapV HC6.out 0
  go_wp2_with fail
  clear x0;generalize W5.alloc (.cells #[.pointer bp,.pointer bq,.pointer none] 40)=Z at *;refine (new_any ca cc c.l Z (H1.out.below HB6.out)).mono ?_;rintro e W7 ⟨hy,hn,hb7⟩;have HB7:=qI (HB6.out.trans (hb7.mono HB6.out.size));clear hb7
  by_cases hf0:Ost.fault c.l=0
  ·obtain ⟨tb,tg,tc,rfl,_⟩:=hy hf0;clear hy hn hf0
   go_wp2_with fail
   go_ret;exact ⟨rfl,HB7.out⟩
  ·rw [hn hf0];clear hy hn hf0
   go_wp2_with fail
   go_ret;exact ⟨rfl,HB7.out⟩
 obtain ⟨Ba,Bd,Be,Bm,rfl,hM1,l1,l2,l3,l4⟩:=hgood hcf;have HF0:=qI (conf_fault hcf);have HM1:=qI hM1;clear hbad hgood hout hM1 hcf HBO;have HB6:=qI (HB5.out.alloc HB5.out.size (.cells #[.pointer (some ⟨Bd,0,none⟩),.pointer (some ⟨Be,0,none⟩),.pointer (some ⟨Ba,0,none⟩)] 40));have HG6:=qI ((Below.refl W5.heap.size W5).alloc (Nat.le_refl _) (.cells #[.pointer (some ⟨Bd,0,none⟩),.pointer (some ⟨Be,0,none⟩),.pointer (some ⟨Ba,0,none⟩)] 40));have HX6:=qI (heap_madeO W5 (.cells #[.pointer (some ⟨Bd,0,none⟩),.pointer (some ⟨Be,0,none⟩),.pointer (some ⟨Ba,0,none⟩)] 40) rfl);have HP6:=qI (heap_oldO HP5.out (.cells #[.pointer (some ⟨Bd,0,none⟩),.pointer (some ⟨Be,0,none⟩),.pointer (some ⟨Ba,0,none⟩)] 40));have HC6:=qI (heap_oldO HC5.out (.cells #[.pointer (some ⟨Bd,0,none⟩),.pointer (some ⟨Be,0,none⟩),.pointer (some ⟨Ba,0,none⟩)] 40));have x0:(W5.alloc (.cells #[.pointer (some ⟨Bd,0,none⟩),.pointer (some ⟨Be,0,none⟩),.pointer (some ⟨Ba,0,none⟩)] 40)).cell? ⟨Bc,0,none⟩=some (.slice ca c.l.length cc):=cell_of_heapV HC6.out 0
 go_wp2_with fail
 clear x0;generalize W5.alloc (.cells #[.pointer (some ⟨Bd,0,none⟩),.pointer (some ⟨Be,0,none⟩),.pointer (some ⟨Ba,0,none⟩)] 40)=Z at *;refine (new_any ca cc c.l Z (H1.out.below HB6.out)).mono ?_;rintro e Y ⟨hy,hn,hb7⟩;obtain ⟨tb,tg,tc,rfl,htp⟩:=hy HF0.out;have HTP:=qI htp;have HB7:=qI (HB6.out.trans (hb7.mono HB6.out.size));have HG7:=qI (HG6.out.trans (hb7.mono HG6.out.size));have hZk:W5.heap.size<Z.heap.size:=(Array.getElem?_eq_some_iff.1 HX6.out).1;have hZp:Bp<Z.heap.size:=(Array.getElem?_eq_some_iff.1 HP6.out).1;have HX7:=qI ((hb7.block _ hZk).trans HX6.out);have HP7:=qI ((hb7.block _ hZp).trans HP6.out);have hZc:Bc<Z.heap.size:=(Array.getElem?_eq_some_iff.1 HC6.out).1;have HC7:=qI ((hb7.block _ hZc).trans HC6.out);clear hZc;clear hy hn hb7 htp hZk hZp HX6 HP6 HC6 HG6 HB6 hbcs
 go_wp2_with fail
 obtain ⟨Bk,hBk⟩:∃ Bk,Bk=W5.heap.size:=⟨_,rfl⟩;rw [← hBk] at HX7;rw [← hBk];have lba:Ba<Bk:=by
  rw [hBk];obtain ⟨_,_,_,_,_,_,_,_,_,_,_,_,_,_,_,_,_,k1,_⟩:=HM1.out;exact k1.lt
 have lbd:Bd<Bk∧Bm<Bk:=by
  rw [hBk];exact ⟨HM1.out.eng.lt.2.1,HM1.out.eng.lt.2.2⟩
 clear hBk;have HMY:Hid (Mach Y none1 Ba Bd Be Bm ⟨Ol.mcOf ({ c with pol:=0 }:Ol.Cf),c.ds,[]⟩ Dk.fresh 0):=HM1.out.keep HG7.out;have hkY:Bk<Y.heap.size:=(Array.getElem?_eq_some_iff.1 HX7.out).1;have hpY:Bp<Y.heap.size:=(Array.getElem?_eq_some_iff.1 HP7.out).1;have HENV:Hid (∀ W,Apart (three Ba Bd Bm) Y W→W.heap[Bk]?=some (.cells #[.pointer (some ⟨Bd,0,none⟩),.pointer (some ⟨Be,0,none⟩),.pointer (some ⟨Ba,0,none⟩)] 40)∧W.heap[Bp]?=some (.cells #[.string p.nm,.int .i64 p.pr,.slice pa p.cs.length pcc] 31)∧TabUp W∧Below w.heap.size w W∧CellLe w (mask (four none1 Ba Bd Bm) W)):=fun W ha=>by
  have hb:=below_apart HB7.out HB7.out.size ha (fun j hj=>by rcases hj with e|e|e <;> omega);exact ⟨(ha.block Bk hkY (by rintro (e|e|e) <;> omega)).trans HX7.out,(ha.block Bp hpY (by rintro (e|e|e) <;> omega)).trans HP7.out,tab_apart (HT.out.below HB7.out) ha (by rintro (e|e|e) <;> omega),hb,mask_below hb rfl (fun j hj=>by
   rcases hj with e|e|e|e
   ·exact e.elim
   all_goals omega)⟩
 have HML:Hid (c.l.length≤64∧0<c.l.length∧(Ol.mcOf ({ c with pol:=0 }:Ol.Cf)).nd<256∧Good c.l):=by
  have hcp:=HMY.out.cpus;obtain ⟨_,_,_,_,_,_,_,_,_,_,_,_,_,_,_,_,_,_,_,k3,_⟩:=HMY.out;have h1:(Ol.mcOf ({ c with pol:=0 }:Ol.Cf)).nd≤15:=k3.nd.2;exact ⟨k3.topo.len,hcp,by omega,k3.good⟩
 have HFREE:=qI (topo_free HMY.out HTP.out HML.out.2.1);have HTPE:Hid (∀ W,Apart (three Ba Bd Bm) Y W→TopoAt W tb tg 0 tc c.l):=fun W ha=>topo_blocks HTP.out (ha.block tb HTP.out.tlt HFREE.out.1) (ha.block tg HTP.out.lt HFREE.out.2) ha.size
 have hcY:Bc<Y.heap.size:=(Array.getElem?_eq_some_iff.1 HC7.out).1;have HENC:Hid (∀ W,Apart (three Ba Bd Bm) Y W→W.heap[Bc]?=some (.cells #[.slice ca c.l.length cc,.int .u64 (c.keep:Nat),.int .i64 c.nb,.slice da c.ds.length dc,.int .i64 0] 27)):=fun W ha=>(ha.block Bc hcY (by have:=HLP0.out;rintro (e|e|e) <;> omega)).trans HC7.out
 clear hcY HC7;clear HM1 HX7 HP7 HB7 HG7 HP5 HB5 HP4 HC4 HB4 HC5 HCS HPS HBS;clear hs5 hc4 hp4 l1 l2 l3 l4 hkY hpY lba lbd hbps hwS;have HKL:Hid (chosen anyCpu c.l<18446744073709551616):=Ost.chosenTo_lt anyCpu c.l c.l.length HML.out.1;have HDL:Hid (Ost.dif (chosen anyCpu c.l) c.keep<18446744073709551616):=Ost.dif_lt _ HKL.out;have HOP:Hid ((Ol.mcOf ({ c with pol:=0 }:Ol.Cf)).op &&& chosen (fun _=>true) (Ol.mcOf ({ c with pol:=0 }:Ol.Cf)).l=(Ol.mcOf ({ c with pol:=0 }:Ol.Cf)).op):=Ost.dif_sub _ _
 go_loopw [11] (fun i wr=>∃ k:Nat,k≤ps.length∧i=.int .i64 k∧Apart (three Ba Bd Bm) Y wr∧∃ hs dk n,n≤3*k∧Mach wr none1 Ba Bd Be Bm ⟨Ol.mcOf ({ c with pol:=0 }:Ol.Cf),c.ds,hs⟩ dk n) (fun i _=>ps.length - (intOf i).toNat)
 case atStart=>exact ⟨0,Nat.zero_le _,rfl,Apart.refl _ _,[],Dk.fresh,0,Nat.le_refl _,HMY.out⟩
 case round=>
  obtain ⟨k,hkl,rfl,hap,hs,dk,n,hn,hMr⟩:=hrel;have HAP:=qI hap;have HMR:=qI hMr;clear hap hMr
  by_cases hlt:k<ps.length
  ·obtain ⟨fb,fo,cvf,rfl,hin⟩:=HFR.out (by omega);obtain ⟨⟨r0,r1,r2⟩,hqc⟩:=hin.2 k hlt;obtain ⟨qa,qc,hcq,_⟩:=id hqc;rw [hcq] at hqc r2;have HQC:=qI hqc;have HR0:=qI r0;have HR1:=qI r1;have HR2:=qI r2;have hfbl:fb<w.heap.size:=hin.1;clear hin hqc hcq r0 r1 r2;generalize pd ps k=q at *;have HSB:Hid (∀ W,Apart (three Ba Bd Bm) Y W→(fun w':World=>w'.cell? ⟨Bk,2,none⟩=some (.pointer (some ⟨Ba,0,none⟩))∧w'.cell? ⟨fb,fo+k*3,none⟩=some (.string q.nm)∧w'.cell? ⟨fb,fo+k*3+1,none⟩=some (.int .i64 q.pr)∧w'.cell? ⟨fb,fo+k*3+2,none⟩=some (.slice qa q.cs.length qc)) W):=fun W ha=>by
    obtain ⟨e1,e2,e3,e4,e5⟩:=HENV.out W ha;exact ⟨cell_of_heapV e1 2,(e4.cell (p:=⟨fb,_,none⟩) hfbl).trans HR0.out,(e4.cell (p:=⟨fb,_,none⟩) hfbl).trans HR1.out,(e4.cell (p:=⟨fb,_,none⟩) hfbl).trans HR2.out⟩
   go_upto_region 14 with fail
   have HAd:Hid (Apart (three Ba Bd Bm) Y wr.drew):=HAP.out.trans (Apart.of_below (below_drewR (Below.refl _ _)));have HMd:Hid (Mach wr.drew none1 Ba Bd Be Bm ⟨Ol.mcOf ({ c with pol:=0 }:Ol.Cf),c.ds,hs⟩ dk n):=HMR.out.keep (below_drewR (Below.refl _ _));refine wp_region_held_drew (S:=(fun w':World=>w'.cell? ⟨Bk,2,none⟩=some (.pointer (some ⟨Ba,0,none⟩))∧w'.cell? ⟨fb,fo+k*3,none⟩=some (.string q.nm)∧w'.cell? ⟨fb,fo+k*3+1,none⟩=some (.int .i64 q.pr)∧w'.cell? ⟨fb,fo+k*3+2,none⟩=some (.slice qa q.cs.length qc))) (by kernel_rfl) (HSB.out _ HAd.out) (fun hHeld=>?_);generalize wr.drew=V at *;refine tk 0 ?_;refine tk 1 ?_;refine tk 2 ?_;refine tk 3 ?_;refine tk 4 ?_;refine tk 5 ?_;refine rd 6 (fun K hK=>?_);go_simp
   go_wp2_with fail
   have HAD:=qI (admitF (p:=q) (cv:=.slice qa q.cs.length qc) HMd.out (HQC.out.le (HENV.out V HAd.out).2.2.2.2) (HENV.out V HAd.out).2.2.1 (by omega));unfold podV at HAD;refine HAD.out.mono ?_;rintro e V2 ⟨rfl,⟨dk2,n2,hn2,hM2⟩,ha2⟩;have HA2:=qI (HAd.out.trans ha2);have HM2:=qI hM2;have hn3:n2≤3*(k+1):=by omega
   clear hM2 ha2 hn2 HAD
   go_wp2_with fail
   refine hK.out _ _ (HSB.out _ HA2.out) (fun hHeld=>?_);clear hK K;refine wpAnyH_done (by kernel_rfl) ?_ _;clear hHeld
   go_wp2_with fail
   go_roundw
   case rel=>exact ⟨k+1,by omega,by go_num,HA2.out,_,_,_,hn3,HM2.out⟩
   case measure=>simp [intOf];omega
  ·have hn0:n≤48:=by omega
   have z0:wr.cell? ⟨Bk,2,none⟩=some (.pointer (some ⟨Ba,0,none⟩)):=cell_of_heapV (HENV.out wr HAP.out).1 2
   go_wp2_with fail
   refine (heldM HMR.out).mono ?_;rintro e W8 ⟨a8,c8,rfl,hh8,hb8⟩;have HA8:=qI (HAP.out.trans (Apart.of_below hb8));have HM8:=qI (HMR.out.keep hb8);have HH8:Hid (HldsAt W8 (.slice a8 hs.length c8) hs):=hh8.le (mask_off _ _);clear hh8 hb8 z0 hlt hkl hn HMR;(try dsimp only);have y0:W8.cell? ⟨Bp,0,none⟩=some (.string p.nm):=cell_of_heapV (HENV.out W8 HA8.out).2.1 0;have y1:W8.cell? ⟨Bp,1,none⟩=some (.int .i64 p.pr):=cell_of_heapV (HENV.out W8 HA8.out).2.1 1;have y2:W8.cell? ⟨Bp,2,none⟩=some (.slice pa p.cs.length pcc):=cell_of_heapV (HENV.out W8 HA8.out).2.1 2;have hl12:hs.length≤12:=(Ol.heldF_iff.1 HM8.out.inv.held).1;have HSU:Hid (Calls Tryz.prog 18 #[.agg #[.string p.nm,.int .i64 p.pr,.slice pa p.cs.length pcc]] W8 fun e w'=>(∃ a b:Int,e=.returned (.agg #[.int .i64 a,.int .i64 b])∧(podF p=0→a=Qos.sumM p.cs p.cs.length∧b=Qos.sumB p.cs p.cs.length))∧Below W8.heap.size W8 w'):=by
    by_cases hp0:podF p=0
    ·refine (sum_any p (.slice pa p.cs.length pcc) W8 (HP.out.below (HENV.out W8 HA8.out).2.2.2.1) (Qos.pod_mild hp0)).mono ?_;rintro e w' ⟨rfl,hb⟩;exact ⟨⟨_,_,rfl,fun _=>⟨rfl,rfl⟩⟩,hb⟩
    ·refine (sum_some p (.slice pa p.cs.length pcc) W8 (HP.out.below (HENV.out W8 HA8.out).2.2.2.1)).mono ?_;rintro e w' ⟨⟨a,b,rfl⟩,hb⟩;exact ⟨⟨a,b,rfl,fun h=>absurd h hp0⟩,hb⟩
   go_wp2_with fail
   refine HSU.out.mono ?_;rintro e W9 ⟨⟨sa,sb,rfl,hsum⟩,hb9⟩;have HSM:=qI hsum;have HA9:=qI (HA8.out.trans (Apart.of_below hb9));have HM9:=qI (HM8.out.keep hb9);have HH9:=qI (HH8.out.below hb9);clear hsum hb9 HSU y0 y1 y2 HA8 HM8 HH8;have HG9:=qI ((Below.refl W9.heap.size W9).alloc (Nat.le_refl _) (.cells #[.int .i64 sa,.int .i64 sb] 56));have HAS:Hid (Apart (three Ba Bd Bm) Y (W9.alloc (.cells #[.int .i64 sa,.int .i64 sb] 56))):=HA9.out.trans (Apart.of_below HG9.out);have HXS:=qI (heap_madeO W9 (.cells #[.int .i64 sa,.int .i64 sb] 56) rfl);have hYB:Y.heap.size≤W9.heap.size:=HA9.out.size;have HMN:Hid (Mach (W9.alloc (.cells #[.int .i64 sa,.int .i64 sb] 56)) (fun j=>j=W9.heap.size) Ba Bd Be Bm ⟨Ol.mcOf ({ c with pol:=0 }:Ol.Cf),c.ds,hs⟩ dk n):=HM9.out.grow HG9.out (fun j e=>.inr (by have e:j=W9.heap.size:=e;omega)) (fun j e=>by have e:j=W9.heap.size:=e;rw [e];simp);have HHN:Hid (HldsAt (mask (fun j=>j=W9.heap.size) (W9.alloc (.cells #[.int .i64 sa,.int .i64 sb] 56))) (.slice a8 hs.length c8) hs):=HH9.out.le (mask_below HG9.out rfl (fun j e=>by have e:j=W9.heap.size:=e;omega));obtain ⟨Bs,hBs⟩:∃ Bs,Bs=W9.heap.size:=⟨_,rfl⟩;rw [← hBs] at HXS HMN HHN hYB
   go_wp2_with fail
   rw [← hBs];clear hBs HG9;generalize W9.alloc (.cells #[.int .i64 sa,.int .i64 sb] 56)=U at *;have HEN2:Hid (∀ W,Apart (fun j=>j=Bs) U W→Apart (three Ba Bd Bm) Y W):=fun W ha=>HAS.out.next ha (fun j hj e=>by have e:j=Bs:=e;omega)
   have HPF:Hid (∀ x∈hs,podF x.pod=0):=held_pods HMN.out.inv;have hsU:Bs<U.heap.size:=(Array.getElem?_eq_some_iff.1 HXS.out).1;clear HAS HA9 HM9 HH9
   go_loopw [14,15] (fun sm i wr=>∃ k:Nat,k≤hs.length∧sm=.bool (hasN (hs.take k) p.nm)∧i=.int .i64 k∧Apart (fun j=>j=Bs) U wr∧∃ M N:Int,wr.heap[Bs]?=some (.cells #[.int .i64 M,.int .i64 N] 56)∧RelS p hs k M N) (fun _ i _=>hs.length - (intOf i).toNat)
   case atStart=>exact ⟨0,Nat.zero_le _,rfl,rfl,Apart.refl _ _,sa,sb,HXS.out,RelS.zero HSM.out⟩
   case round=>
    obtain ⟨i,hil,rfl,rfl,hap,M,N,hMN,hrs⟩:=hrel;have HAU:=qI hap;have HS1:=qI hMN;have HRS:=qI hrs;have hsw:U.heap.size≤wr.heap.size:=hap.size;clear hap hMN hrs
    by_cases hli:i<hs.length
    ·obtain ⟨ao,hc',hv',hm',hr'⟩:=(HHN.out.part HAU.out).le (mask_off _ _);obtain ⟨hb,ho,cvv,gvv,hao,hin⟩:=hr' (by omega);have hao':a8=some ⟨hb,ho,none⟩:=by injection hv' with e1 e2 e3;rw [e1];exact hao
     obtain ⟨hbl,hin2⟩:=hin;obtain ⟨⟨q0,q1,q2,q3⟩,hcon,hgiv⟩:=hin2 i hli;have hnb:hb≠Bs:=by
      obtain ⟨ao2,hc2,hv2,hm2,hr2⟩:=HHN.out.part HAU.out;obtain ⟨hb2,ho2,cvv2,gvv2,hao2,hin3⟩:=hr2 (by omega);have e1:some (⟨hb2,ho2,none⟩:Addr)=some ⟨hb,ho,none⟩:=by
       rw [← hao2,← hao'];injection hv2 with e1 e2 e3
       exact e1.symm
      injection e1 with e1
      injection e1 with e1 _ _
      rw [← e1];have hfr:=mask_free (hin3.2 i hli).1.1;exact hfr
     obtain ⟨ca,cc,hcv,_,_⟩:=id hcon;rw [hcv] at q2 hcon;have hxm:hd hs i∈hs:=Sv.mem_hd hli;have HSU2:=qI (sum_any (hd hs i).pod (.slice ca (hd hs i).pod.cs.length cc) wr hcon (Qos.pod_mild (HPF.out _ hxm)));unfold podV at HSU2;have HRN:=qI (HRS.out.next hli HPF.out hl12);have HNN:=qI (hasN_next (nm:=p.nm) hli);clear hv' hm' hr' hin2 hgiv q3 hao hxm gvv ao hc' hcon hcv HRS;subst hao';generalize Qos.sumM (hd hs i).pod.cs (hd hs i).pod.cs.length=xm at *;generalize Qos.sumB (hd hs i).pod.cs (hd hs i).pod.cs.length=xb at *;obtain ⟨M',hM'⟩:∃ M',wrap64 (M+xm)=M':=⟨_,rfl⟩;obtain ⟨N',hN'⟩:∃ N',wrap64 (N+xb)=N':=⟨_,rfl⟩;rw [hM',hN'] at HRN;generalize (hd hs i).pod=x at *;obtain ⟨xn,xp,xc⟩:=x;dsimp only at q0 q1 q2 HSU2 HNN;have HQ0:=qI q0
     go_wp2_with fail
     refine HSU2.out.mono ?_;rintro e W1 ⟨rfl,hb1⟩;have hA2:=(Below.refl W1.heap.size W1).alloc (Nat.le_refl _) (.cells #[.int .i64 xm,.int .i64 xb] 56);have hsz1:=hb1.size;have hs2:=heap_oldO ((hb1.block Bs (by omega)).trans HS1.out) (.cells #[.int .i64 xm,.int .i64 xb] 56);have y0:(W1.alloc (.cells #[.int .i64 xm,.int .i64 xb] 56)).cell? ⟨Bs,0,none⟩=some (.int .i64 M):=cell_of_heapV hs2 0;have y1:(W1.alloc (.cells #[.int .i64 xm,.int .i64 xb] 56)).cell? ⟨Bs,1,none⟩=some (.int .i64 N):=cell_of_heapV hs2 1;have f0:=frozen_of_heapO hs2 0;have f1:=frozen_of_heapO hs2 1;have z0:(W1.alloc (.cells #[.int .i64 xm,.int .i64 xb] 56)).cell? ⟨W1.heap.size,0,none⟩=some (.int .i64 xm):=by simp
     have z1:(W1.alloc (.cells #[.int .i64 xm,.int .i64 xb] 56)).cell? ⟨W1.heap.size,1,none⟩=some (.int .i64 xb):=by simp
     have hne:W1.heap.size≠Bs:=by omega
     have HAV:Hid (Apart (fun j=>j=Bs) U (((W1.alloc (.cells #[.int .i64 xm,.int .i64 xb] 56)).setCell ⟨Bs,0,none⟩ (.int .i64 M')).setCell ⟨Bs,1,none⟩ (.int .i64 N'))):=((HAU.out.trans (Apart.of_below (hb1.trans (hA2.mono hb1.size)))).trans (Apart.setCell (K:=(fun j=>j=Bs)) rfl _ _ _)).trans (Apart.setCell (K:=(fun j=>j=Bs)) rfl _ _ _);have HSV:Hid ((((W1.alloc (.cells #[.int .i64 xm,.int .i64 xb] 56)).setCell ⟨Bs,0,none⟩ (.int .i64 M')).setCell ⟨Bs,1,none⟩ (.int .i64 N')).heap[Bs]?=some (.cells #[.int .i64 M',.int .i64 N'] 56)):=set_heap (set_heap hs2 0 _) 1 _;have HQV:Hid ((((W1.alloc (.cells #[.int .i64 xm,.int .i64 xb] 56)).setCell ⟨Bs,0,none⟩ (.int .i64 M')).setCell ⟨Bs,1,none⟩ (.int .i64 N')).cell? ⟨hb,ho+i*4,none⟩=some (.string xn)):=by
      have ha:Apart (fun j=>j=Bs) wr (((W1.alloc (.cells #[.int .i64 xm,.int .i64 xb] 56)).setCell ⟨Bs,0,none⟩ (.int .i64 M')).setCell ⟨Bs,1,none⟩ (.int .i64 N')):=((Apart.of_below (hb1.trans (hA2.mono hb1.size))).trans (Apart.setCell (K:=(fun j=>j=Bs)) rfl _ _ _)).trans (Apart.setCell (K:=(fun j=>j=Bs)) rfl _ _ _);have hk:=ha.block hb hbl hnb;unfold Hid;have e:∀ (A B:World),A.heap[hb]?=B.heap[hb]?→A.cell? ⟨hb,ho+i*4,none⟩=B.cell? ⟨hb,ho+i*4,none⟩:=fun A B h=>by simp [World.cell?,h]
      exact (e _ _ hk).trans HQ0.out
     clear hs2 hb1 hA2 q0 q1 q2 HSU2 HQ0 HS1 HAU
     go_wp2_with fail
     clear y0 y1 f0 f1 z0 z1 hM' hN' hne hsz1;generalize (((W1.alloc (.cells #[.int .i64 xm,.int .i64 xb] 56)).setCell ⟨Bs,0,none⟩ (.int .i64 M')).setCell ⟨Bs,1,none⟩ (.int .i64 N'))=V at *;have v0:=HQV.out;have v1:V.cell? ⟨Bp,0,none⟩=some (.string p.nm):=cell_of_heapV (HENV.out V (HEN2.out V HAV.out)).2.1 0;generalize hasN (hs.take i) p.nm=s0 at *
     rcases two s0 with rfl|rfl
     ·go_quiet (fail)
      go_wp2_with fail
      go_roundw
      case rel=>exact ⟨i+1,by omega,by rw [HNN.out];rfl,by go_num,HAV.out.trans (Apart.drewN _ _ nq),M',N',HSV.out,HRN.out⟩
      case measure=>simp [intOf];omega
     ·by_cases heq:xn=p.nm
      ·have HNT:Hid (hasN (hs.take (i+1)) p.nm=true):=by unfold Hid;rw [HNN.out,decide_eq_true heq];rfl
       rw [heq] at v0;clear heq HNN HQV
       go_quiet (fail)
       go_wp2_with fail
       go_roundw
       case rel=>exact ⟨i+1,by omega,by rw [HNT.out],by go_num,HAV.out.trans (Apart.drewN _ _ nq),M',N',HSV.out,HRN.out⟩
       case measure=>simp [intOf];omega
      ·have HNT:Hid (hasN (hs.take (i+1)) p.nm=false):=by unfold Hid;rw [HNN.out,decide_eq_false heq];rfl
       have hbq:=nm_ne heq;clear HNN HQV
       go_quiet (fail)
       go_wp2_with fail
       go_roundw
       case rel=>exact ⟨i+1,by omega,by rw [HNT.out],by go_num,HAV.out.trans (Apart.drewN _ _ nq),M',N',HSV.out,HRN.out⟩
       case measure=>simp [intOf];omega
    ·have hie:i=hs.length:=by omega
     subst hie;rw [List.take_length];have HMZ:Hid (Mach wr none1 Ba Bd Be Bm ⟨Ol.mcOf ({ c with pol:=0 }:Ol.Cf),c.ds,hs⟩ dk n):=(HMN.out.other HAU.out (fun j e arr z hh=>by
      have e:j=Bs:=e;rw [e,HXS.out] at hh;injection hh with hh
      injection hh with _ h2 _
      exact absurd h2 (by decide))).grow (Below.refl _ _) (fun j e=>e.elim) (fun j e=>e.elim)
     have HAZ:Hid (Apart (three Ba Bd Bm) Y wr):=HEN2.out wr HAU.out;have y0:wr.cell? ⟨Bp,0,none⟩=some (.string p.nm):=cell_of_heapV (HENV.out wr HAZ.out).2.1 0;have y1:wr.cell? ⟨Bp,1,none⟩=some (.int .i64 p.pr):=cell_of_heapV (HENV.out wr HAZ.out).2.1 1;have y2:wr.cell? ⟨Bp,2,none⟩=some (.slice pa p.cs.length pcc):=cell_of_heapV (HENV.out wr HAZ.out).2.1 2;have HCK:=qI (check_any p (.slice pa p.cs.length pcc) wr (HP.out.below (HENV.out wr HAZ.out).2.2.2.1));unfold podV at HCK;obtain ⟨sm,hsm⟩:∃ sm,hasN hs p.nm=sm:=⟨_,rfl⟩;rw [hsm];have HSN:=qI hsm;clear hsm hil hli HMN HEN2 HHN
     go_wp2_with fail
     refine HCK.out.mono ?_;rintro e X1 ⟨rfl,hb1⟩;have hzx:=hb1.size;have HA1:=qI (HAZ.out.trans (Apart.of_below hb1));have HM1:=qI (HMZ.out.keep hb1);have HS2:=qI ((hb1.block Bs (by omega)).trans HS1.out);have HC2:=qI (HENC.out X1 HA1.out);have hbsx:Bs<X1.heap.size:=by omega
     have hbcx:Bc<X1.heap.size:=(Array.getElem?_eq_some_iff.1 HC2.out).1;clear hb1 HCK y0 y1 y2 HMZ HAZ HAU HS1 HXS hsU hsw hzx hYB
     by_cases hpF:podF p=0
     rotate_left
     ·rw [errQ_pos hpF];clear hpF
      go_wp2_with fail
      go_ret;exact ⟨rfl,(HENV.out _ HA1.out).2.2.2.1⟩
     have HPF0:=qI hpF;rw [hpF,show errV (((0:Nat)):Int)=.nilIface from rfl];clear hpF
     rcases two sm with rfl|rfl
     ·go_wp2_with fail
      go_ret;exact ⟨rfl,(HENV.out _ HA1.out).2.2.2.1⟩
     by_cases h12:hs.length=12
     ·have h12':((hs.length:Int) == 12)=true:=by rw [h12];rfl
      clear h12
      go_wp2_with fail
      go_ret;exact ⟨rfl,(HENV.out _ HA1.out).2.2.2.1⟩
     have h12':((hs.length:Int) == 12)=false:=by rw [beq_eq_false_iff_ne];omega
     have HV:=qI (verdict (t:=⟨Ol.mcOf ({ c with pol:=0 }:Ol.Cf),c.ds,hs⟩) (p:=p) HM1.out.inv rfl HOP.out HPF0.out HSN.out h12);have HRO:=qI (room_is (c:=({ c with pol:=0 }:Ol.Cf)) HRS.out HPF0.out);dsimp only at HV HRO;have hAN:=andNot64 (chosen anyCpu c.l) c.keep HKL.out hk;have hdl:Ost.dif (chosen anyCpu c.l) c.keep<18446744073709551616:=HDL.out;have HCT:Hid (∀ W,Calls Tryz.prog 20 #[.int .u64 (Ost.dif (chosen anyCpu c.l) c.keep:Nat)] W fun e w'=>e=.returned (.int .i64 (Ost.cnt (Ost.dif (chosen anyCpu c.l) c.keep):Nat))∧w'=W):=fun W=>bitsCount_any _ W hdl
     have h64:=Ol.cnt_le (Ost.dif (chosen anyCpu c.l) c.keep);obtain ⟨q,hq⟩:∃ q,q=Ost.cnt (Ost.dif (chosen anyCpu c.l) c.keep):=⟨_,rfl⟩;rw [← hq] at HRO HCT h64;clear hq hdl h12;have hmul:IntKind.i64.wrap (1000*(q:Int))=1000*(q:Int):=by rw [IntKind.wrap_i64];omega
     have hmul2:wrap64 (1000*(q:Int))=1000*(q:Int):=by unfold wrap64;omega
     generalize Ol.room (Ol.mcOf ({ c with pol:=0 }:Ol.Cf)) (hs.map Hd.pod++[p])=ro at *
     go_upto_region 27 with fail
     go_cut [17] (fun x17 wc=>x17=.bool ro∧Below X1.heap.size X1 wc)
     case first=>
      by_cases hM:M≤1000*(q:Int)
      ·have hMd:decide (M≤1000*(q:Int))=true:=decide_eq_true hM;obtain ⟨nb1,hNd⟩:∃ b,decide (N≤c.nb)=b:=⟨_,rfl⟩;have HR1:Hid (ro=nb1):=by unfold Hid;rw [HRO.out,hMd,hNd];cases nb1 <;> rfl
       clear HV HRO;have HSB:Hid (∀ W,Below X1.heap.size X1 W→(fun w':World=>w'.cell? ⟨Bs,0,none⟩=some (.int .i64 M)∧w'.cell? ⟨Bs,1,none⟩=some (.int .i64 N)∧w'.cell? ⟨Bc,1,none⟩=some (.int .u64 (c.keep:Nat))∧w'.cell? ⟨Bc,2,none⟩=some (.int .i64 c.nb)) W):=fun W hb=>⟨cell_of_heapV ((hb.block Bs hbsx).trans HS2.out) 0,cell_of_heapV ((hb.block Bs hbsx).trans HS2.out) 1,cell_of_heapV ((hb.block Bc hbcx).trans HC2.out) 1,cell_of_heapV ((hb.block Bc hbcx).trans HC2.out) 2⟩
       have HBd:Hid (Below X1.heap.size X1 X1.drew):=below_drewR (Below.refl _ _);have HTd:Hid (TopoAt X1.drew tb tg 0 tc c.l):=HTPE.out _ (HA1.out.trans (Apart.of_below HBd.out));refine wp_region_held_drew (S:=(fun w':World=>w'.cell? ⟨Bs,0,none⟩=some (.int .i64 M)∧w'.cell? ⟨Bs,1,none⟩=some (.int .i64 N)∧w'.cell? ⟨Bc,1,none⟩=some (.int .u64 (c.keep:Nat))∧w'.cell? ⟨Bc,2,none⟩=some (.int .i64 c.nb))) (by kernel_rfl) (HSB.out _ HBd.out) (fun hHeld=>?_);generalize X1.drew=V at *;refine tk 0 ?_;refine tk 1 ?_;refine tk 2 ?_;refine tk 4 ?_;refine tk 5 ?_;refine rd 3 (fun K hK=>?_);go_simp
       go_wp2_with fail
       refine (all_any tb tg 0 tc c.l V HTd.out).mono ?_;rintro e V2 ⟨rfl,hb2⟩;have HB2:=qI (HBd.out.trans (hb2.mono HBd.out.size));clear hb2
       go_wp2_with fail
       refine hK.out _ _ (HSB.out _ HB2.out) (fun hHeld=>?_);clear hK K;refine tk 6 ?_;refine rd 7 (fun K hK=>?_);go_simp
       go_wp2_with fail
       (try rw [hAN]);refine (HCT.out V2).mono ?_;rintro e V3 ⟨rfl,rfl⟩
       go_wp2_with fail
       refine hK.out _ _ (HSB.out _ HB2.out) (fun hHeld=>?_);clear hK K;refine tk 8 ?_;refine tk 9 ?_;refine tk 10 ?_;refine tk 11 ?_;refine tk 12 ?_;refine tk 13 ?_;refine tk 14 ?_;refine tk 15 ?_;refine tk 16 ?_;refine tk 17 ?_;refine wpAnyH_done (by kernel_rfl) ?_ _;clear hHeld
       go_wp2_with fail
       go_meet
       exact ⟨by rw [HR1.out],HB2.out⟩
      ·have hMd:decide (M≤1000*(q:Int))=false:=decide_eq_false hM;have HR1:Hid (ro=false):=by unfold Hid;rw [HRO.out,hMd];rfl
       clear HV HRO;have HSB:Hid (∀ W,Below X1.heap.size X1 W→(fun w':World=>w'.cell? ⟨Bs,0,none⟩=some (.int .i64 M)∧w'.cell? ⟨Bs,1,none⟩=some (.int .i64 N)∧w'.cell? ⟨Bc,1,none⟩=some (.int .u64 (c.keep:Nat))∧w'.cell? ⟨Bc,2,none⟩=some (.int .i64 c.nb)) W):=fun W hb=>⟨cell_of_heapV ((hb.block Bs hbsx).trans HS2.out) 0,cell_of_heapV ((hb.block Bs hbsx).trans HS2.out) 1,cell_of_heapV ((hb.block Bc hbcx).trans HC2.out) 1,cell_of_heapV ((hb.block Bc hbcx).trans HC2.out) 2⟩
       have HBd:Hid (Below X1.heap.size X1 X1.drew):=below_drewR (Below.refl _ _);have HTd:Hid (TopoAt X1.drew tb tg 0 tc c.l):=HTPE.out _ (HA1.out.trans (Apart.of_below HBd.out));refine wp_region_held_drew (S:=(fun w':World=>w'.cell? ⟨Bs,0,none⟩=some (.int .i64 M)∧w'.cell? ⟨Bs,1,none⟩=some (.int .i64 N)∧w'.cell? ⟨Bc,1,none⟩=some (.int .u64 (c.keep:Nat))∧w'.cell? ⟨Bc,2,none⟩=some (.int .i64 c.nb))) (by kernel_rfl) (HSB.out _ HBd.out) (fun hHeld=>?_);generalize X1.drew=V at *;refine tk 0 ?_;refine tk 1 ?_;refine tk 2 ?_;refine tk 4 ?_;refine tk 5 ?_;refine rd 3 (fun K hK=>?_);go_simp
       go_wp2_with fail
       refine (all_any tb tg 0 tc c.l V HTd.out).mono ?_;rintro e V2 ⟨rfl,hb2⟩;have HB2:=qI (HBd.out.trans (hb2.mono HBd.out.size));clear hb2
       go_wp2_with fail
       refine hK.out _ _ (HSB.out _ HB2.out) (fun hHeld=>?_);clear hK K;refine tk 6 ?_;refine rd 7 (fun K hK=>?_);go_simp
       go_wp2_with fail
       (try rw [hAN]);refine (HCT.out V2).mono ?_;rintro e V3 ⟨rfl,rfl⟩
       go_wp2_with fail
       refine hK.out _ _ (HSB.out _ HB2.out) (fun hHeld=>?_);clear hK K;refine tk 8 ?_;refine tk 9 ?_;refine tk 10 ?_
       refine wpAnyH_take (i := 11) (oi := { dst := some 131, op := Op.fieldAddr 56 (Operand.tmp 13) 1, type := 0, pos := "top.go:279", after := #[{ on := 10, ground := Ground.guard }], guard := some (10, true) }) (v := undef) rfl (by kernel_rfl) (by kernel_rfl) (by kernel_rfl) (fun _ _ _ h => h) (Or.inr ⟨by rfl, rfl⟩) (by assumption) ?_
       (try simp only [Act.put,s1,s2,s3])
       refine wpAnyH_take (i := 12) (oi := { dst := some 132, op := Op.load 3 (Operand.tmp 131), type := 3, pos := "top.go:279", after := #[{ on := 11, ground := Ground.data }, { on := 10, ground := Ground.guard }], guard := some (10, true) }) (v := undef) rfl (by kernel_rfl) (by kernel_rfl) (by kernel_rfl) (fun _ _ _ h => h) (Or.inr ⟨by rfl, rfl⟩) (by assumption) ?_
       (try simp only [Act.put,s1,s2,s3])
       refine wpAnyH_take (i := 13) (oi := { dst := some 133, op := Op.fieldAddr 27 (Operand.tmp 3) 2, type := 0, pos := "top.go:279", after := #[{ on := 10, ground := Ground.guard }], guard := some (10, true) }) (v := undef) rfl (by kernel_rfl) (by kernel_rfl) (by kernel_rfl) (fun _ _ _ h => h) (Or.inr ⟨by rfl, rfl⟩) (by assumption) ?_
       (try simp only [Act.put,s1,s2,s3])
       refine wpAnyH_take (i := 14) (oi := { dst := some 134, op := Op.load 3 (Operand.tmp 133), type := 3, pos := "top.go:279", after := #[{ on := 13, ground := Ground.data }, { on := 10, ground := Ground.guard }], guard := some (10, true) }) (v := undef) rfl (by kernel_rfl) (by kernel_rfl) (by kernel_rfl) (fun _ _ _ h => h) (Or.inr ⟨by rfl, rfl⟩) (by assumption) ?_
       (try simp only [Act.put,s1,s2,s3])
       refine wpAnyH_take (i := 15) (oi := { dst := some 135, op := Op.binOp BinOp.leq 3 (Operand.tmp 132) (Operand.tmp 134) 3, type := 4, pos := "top.go:279", after := #[{ on := 12, ground := Ground.data }, { on := 14, ground := Ground.data }, { on := 10, ground := Ground.guard }], guard := some (10, true) }) (v := undef) rfl (by kernel_rfl) (by kernel_rfl) (by kernel_rfl) (fun _ _ _ h => h) (Or.inr ⟨by rfl, rfl⟩) (by assumption) ?_
       (try simp only [Act.put,s1,s2,s3]);refine tk 16 ?_;refine tk 17 ?_;refine wpAnyH_done (by kernel_rfl) ?_ _;clear hHeld
       go_wp2_with fail
       go_meet
       exact ⟨by rw [HR1.out],HB2.out⟩
     case rest=>
      obtain ⟨rfl,hbc⟩:=hcut;have HA3:=qI (HA1.out.trans (Apart.of_below hbc));have HM3:=qI (HM1.out.keep hbc);clear hbc HCT hAN h64 h12' hmul hmul2 HS2 HC2 hbsx hbcx HA1 HM1 HRO HRS HPF;have HE3:=qI (HENV.out wc HA3.out);obtain ⟨pao,pc',hpv,hpm,hpr⟩:=id HP.out;have hpv':pao=pa:=by injection hpv with e1 e2 e3;exact e1.symm
      have HPR:=qI hpr;have hcl:p.cs.length≤9223372036854775807:=by have h1:=hpm.1;have h2:=hpm.2;unfold maxLen at h2;omega
      clear hpv hpm hpr
      go_wp2_with fail
      go_loopw [18,19] (fun no i wr=>∃ k:Nat,k≤p.cs.length∧no=.bool (noDev p.cs k)∧i=.int .i64 k∧wr=wc) (fun _ i _=>p.cs.length - (intOf i).toNat)
      case atStart=>exact ⟨0,Nat.zero_le _,rfl,rfl,rfl⟩
      case round=>
       obtain ⟨k,hkl,rfl,rfl,rfl⟩:=hrel
       by_cases hlt:k<p.cs.length
       ·obtain ⟨pb,po,dvv,hpa,hin⟩:=HPR.out (by omega);have hin:=hin.below HE3.out.2.2.2.1;obtain ⟨c0,c1,c2,c3,c4,c5⟩:=hin.at hlt;obtain ⟨na,nc,hnv,_⟩:=(hin.2 k hlt).2;rw [hnv] at c5;have y2:wr.cell? ⟨Bp,2,none⟩=some (.slice (some ⟨pb,po,none⟩) p.cs.length pcc):=by
         have:=cell_of_heapV HE3.out.2.1 2
         rw [← hpv',hpa] at this;exact this
        have HNX:=qI (noDev_next hlt);clear c0 c1 c2 c3 c4 hin hnv hpa;generalize noDev p.cs k=n0 at *;generalize (ct p.cs k).ds.length=dn at *
        rcases two n0 with rfl|rfl
        ·by_cases hd0:dn=0
         ·subst hd0
          go_wp2_with fail
          go_roundw
          case rel=>exact ⟨k+1,by omega,by rw [HNX.out];rfl,by go_num,trivial⟩
          case measure=>simp [intOf];omega
         ·have hd1:((dn:Int) == 0)=false:=by rw [beq_eq_false_iff_ne];omega
          have HD1:=qI hd0;clear hd0
          go_wp2_with fail
          go_roundw
          case rel=>exact ⟨k+1,by omega,by rw [HNX.out,decide_eq_false HD1.out];rfl,by go_num,trivial⟩
          case measure=>simp [intOf];omega
        ·go_wp2_with fail
         go_roundw
         case rel=>exact ⟨k+1,by omega,by rw [HNX.out];rfl,by go_num,trivial⟩
         case measure=>simp [intOf];omega
       ·have hke:k=p.cs.length:=by omega
        subst hke;have y0:wr.cell? ⟨Bp,0,none⟩=some (.string p.nm):=cell_of_heapV HE3.out.2.1 0;have y1:wr.cell? ⟨Bp,1,none⟩=some (.int .i64 p.pr):=cell_of_heapV HE3.out.2.1 1;have y2:wr.cell? ⟨Bp,2,none⟩=some (.slice pa p.cs.length pcc):=cell_of_heapV HE3.out.2.1 2;have z0:wr.cell? ⟨Bk,2,none⟩=some (.pointer (some ⟨Ba,0,none⟩)):=cell_of_heapV HE3.out.1 2;have HAD:=qI (admitF (p:=p) (cv:=.slice pa p.cs.length pcc) HM3.out (HP.out.le HE3.out.2.2.2.2) HE3.out.2.2.1 (by omega));unfold podV at HAD;generalize noDev p.cs p.cs.length=nv at *;clear hlt hkl
        go_wp2_with fail
        refine HAD.out.mono ?_;rintro e W7 ⟨rfl,hx7,ha7⟩;have HB7:=qI (HENV.out W7 (HA3.out.trans ha7)).2.2.2.1;clear hx7 ha7 HAD y0 y1 y2 z0;dsimp only;generalize (Ol.admit ⟨Ol.mcOf ({ c with pol:=0 }:Ol.Cf),c.ds,hs⟩ p).1=en at *
        go_wp2_with fail
        refine (numberE en W7).mono ?_;rintro e W8 ⟨rfl,rfl⟩;obtain ⟨hv1,hv2⟩:=HV.out;clear HV
        rcases two ro with rfl|rfl
        ·obtain ⟨h7,h02⟩:=hv2 rfl;have h7':((en:Int) == 7)=false:=by rw [beq_eq_false_iff_ne];omega
         have h7'':¬ ((en:Int)=7):=by omega
         clear hv1 hv2
         rcases two nv with rfl|rfl
         ·rcases h02 rfl with rfl|rfl
          ·clear h02
           go_wp2_with fail
           go_ret;exact ⟨rfl,HB7.out⟩
          ·clear h02
           go_wp2_with fail
           go_ret;exact ⟨rfl,HB7.out⟩
         ·clear h02
          go_wp2_with fail
          go_ret;exact ⟨rfl,HB7.out⟩
        ·obtain rfl:=hv1 rfl;clear hv1 hv2
         go_wp2_with fail
         go_ret;exact ⟨rfl,HB7.out⟩
end
end Go.Proofs.YtbfdcmodflnkfaaGreatDoor
