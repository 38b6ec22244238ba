/- OTP -/
import Derived.Test.YtbfdcmodflnkfaaGreatDoorP33
set_option maxRecDepth 100000
set_option maxHeartbeats 16000000
namespace Go.Proofs.YtbfdcmodflnkfaaGreatDoor
section
open Go.RowKit Go.Shelf
open Ost (Cpu cpu0)
open Qos (Nd Ct Pd nd ct pd podF)
open Sv (Gv Hd gv hd gsF heldF heldTxt)
open Dvs (Dv dv Nodes)
open S1 (Mx)
attribute [local go_sem] Oper.semAt_some
theorem topPlace_true (c:Ol.Cf) (v1 v2:Value) (g o:Nat) (ps:List Pd) (vf:Value) (p:Pd) (cv:Value) (w:World) (h1:CpusAt w v1 c.l) (h2:DevsAt w v2 g o c.ds) (hk:c.keep<18446744073709551616) (hf:PodsAt w vf ps) (hp:ConsAt w cv p.cs) (ht:TabUp w) (hm:Mx w) :
  Calls Tryz.prog 5 #[confV c v1 v2,vf,podV p cv] w fun e w'=>e=.returned (.bool true)∧Below w.heap.size w w':=by
 obtain ⟨ca,cc,hv1⟩:∃ ca cc,v1=.slice ca c.l.length cc:=by
  rcases id h1 with ⟨hl,ao,q,rfl⟩|⟨b,o,q,rfl,_⟩
  ·exact ⟨ao,q,by rw [hl];rfl⟩
  ·exact ⟨_,q,rfl⟩
 obtain ⟨da,dc,hv2⟩:∃ da dc,v2=.slice da c.ds.length dc:=by
  obtain ⟨da,dc,e,_⟩:=id h2;exact ⟨da,dc,e⟩
 obtain ⟨pa,pcc,hcv⟩:∃ pa pcc,cv=.slice pa p.cs.length pcc:=by
  obtain ⟨pa,pcc,e,_⟩:=id hp;exact ⟨pa,pcc,e⟩
 have HF:=qI hf;obtain ⟨fa,fc,hvf,hfm,hfr⟩:=hf;subst hv1 hv2 hcv hvf;have HFR:=qI hfr;have H1:=qI h1;have H2:=qI h2;have HP:=qI hp;have HT:=qI ht;have HM:=qI hm;have hgl:0<w.heap.size:=ht.2;clear h1 h2 hp ht hm hfm hfr;unfold confV podV;have HB0:=qI (((Below.refl w.heap.size w).alloc (Nat.le_refl _) (.cells #[.slice ca c.l.length cc,.int .u64 (c.keep:Nat),.int .i64 c.nb,.slice da c.ds.length dc,.int .i64 c.pol] 27)).alloc (by simp) (.cells #[.string p.nm,.int .i64 p.pr,.slice pa p.cs.length pcc] 31));obtain ⟨Bc,hBc⟩:∃ Bc,Bc=w.heap.size:=⟨_,rfl⟩;obtain ⟨Bp,hBp⟩:∃ Bp,Bp=w.heap.size+1:=⟨_,rfl⟩;have HXC:Hid (((w.alloc (.cells #[.slice ca c.l.length cc,.int .u64 (c.keep:Nat),.int .i64 c.nb,.slice da c.ds.length dc,.int .i64 c.pol] 27)).alloc (.cells #[.string p.nm,.int .i64 p.pr,.slice pa p.cs.length pcc] 31)).heap[Bc]?=some (.cells #[.slice ca c.l.length cc,.int .u64 (c.keep:Nat),.int .i64 c.nb,.slice da c.ds.length dc,.int .i64 c.pol] 27)):=by
  unfold Hid;rw [hBc];exact heap_oldO (heap_madeO w (.cells #[.slice ca c.l.length cc,.int .u64 (c.keep:Nat),.int .i64 c.nb,.slice da c.ds.length dc,.int .i64 c.pol] 27) rfl) _
 have HXP:Hid (((w.alloc (.cells #[.slice ca c.l.length cc,.int .u64 (c.keep:Nat),.int .i64 c.nb,.slice da c.ds.length dc,.int .i64 c.pol] 27)).alloc (.cells #[.string p.nm,.int .i64 p.pr,.slice pa p.cs.length pcc] 31)).heap[Bp]?=some (.cells #[.string p.nm,.int .i64 p.pr,.slice pa p.cs.length pcc] 31)):=by
  unfold Hid;rw [hBp];exact heap_madeO (w.alloc (.cells #[.slice ca c.l.length cc,.int .u64 (c.keep:Nat),.int .i64 c.nb,.slice da c.ds.length dc,.int .i64 c.pol] 27)) (.cells #[.string p.nm,.int .i64 p.pr,.slice pa p.cs.length pcc] 31) (by simp)
 have HLP0:Hid (Bp=Bc+1):=by unfold Hid;rw [hBp,hBc]
 have HBC:=qI hBc
 go_enter Tryz.func5,Tryz.ntmps5
 go_wp2_with fail
 rw [← hBp];rw [← hBc];generalize ((w.alloc (.cells #[.slice ca c.l.length cc,.int .u64 (c.keep:Nat),.int .i64 c.nb,.slice da c.ds.length dc,.int .i64 c.pol] 27)).alloc (.cells #[.string p.nm,.int .i64 p.pr,.slice pa p.cs.length pcc] 31))=X at *;clear hBp hBc;refine (works_true X (HT.out.below HB0.out) (HM.out.below HB0.out)).mono ?_;rintro e W1 ⟨rfl,hb1⟩;have hlp:=HLP0.out;have hXp:Bp<X.heap.size:=(Array.getElem?_eq_some_iff.1 HXP.out).1;have HB1:=qI (HB0.out.trans (hb1.mono HB0.out.size));have HC1:=qI ((hb1.block Bc (by omega)).trans HXC.out);have HP1:=qI ((hb1.block Bp hXp).trans HXP.out);have hs1:=hb1.size;have hXc:Bc<X.heap.size:=by omega
 clear hb1 hlp;have x0:W1.cell? ⟨Bc,0,none⟩=some (.slice ca c.l.length cc):=cell_of_heapV HC1.out 0;have x1:W1.cell? ⟨Bc,1,none⟩=some (.int .u64 (c.keep:Nat)):=cell_of_heapV HC1.out 1;have x2:W1.cell? ⟨Bc,2,none⟩=some (.int .i64 c.nb):=cell_of_heapV HC1.out 2;have x3:W1.cell? ⟨Bc,3,none⟩=some (.slice da c.ds.length dc):=cell_of_heapV HC1.out 3;have x4:W1.cell? ⟨Bc,4,none⟩=some (.int .i64 c.pol):=cell_of_heapV HC1.out 4;have HLC:=qI (lightConf_any c (.slice ca c.l.length cc) (.slice da c.ds.length dc) g o W1 (H1.out.below HB1.out) (H2.out.below HB1.out));unfold confV at HLC
 go_wp2_with fail
 refine HLC.out.mono ?_;rintro e W2 ⟨⟨b,rfl⟩,hb2⟩;have HB2:=qI (HB1.out.trans (hb2.mono HB1.out.size));have HC2:=qI ((hb2.block Bc (by omega)).trans HC1.out);have HP2:=qI ((hb2.block Bp (by omega)).trans HP1.out);have hs2:=hb2.size;clear hb2 x0 x1 x2 x3 x4 HLC
 rcases two b with rfl|rfl
 rotate_left
 ·go_wp2_with fail
  go_ret;exact ⟨rfl,HB2.out⟩
 have HLF:=qI (lightPods_any (.slice fa ps.length fc) ps W2 (HF.out.below HB2.out))
 go_wp2_with fail
 refine HLF.out.mono ?_;rintro e W3 ⟨⟨b,rfl,hfew⟩,hb3⟩;have HB3:=qI (HB2.out.trans (hb3.mono HB2.out.size));have HC3:=qI ((hb3.block Bc (by omega)).trans HC2.out);have HP3:=qI ((hb3.block Bp (by omega)).trans HP2.out);have hs3:=hb3.size;have HFEW:=qI hfew;clear hb3 HLF hfew
 rcases two b with rfl|rfl
 rotate_left
 ·go_wp2_with fail
  go_ret;exact ⟨rfl,HB3.out⟩
 have hps:ps.length≤16:=HFEW.out rfl;have x0:W3.cell? ⟨Bp,0,none⟩=some (.string p.nm):=cell_of_heapV HP3.out 0;have x1:W3.cell? ⟨Bp,1,none⟩=some (.int .i64 p.pr):=cell_of_heapV HP3.out 1;have x2:W3.cell? ⟨Bp,2,none⟩=some (.slice pa p.cs.length pcc):=cell_of_heapV HP3.out 2;have HLP:=qI (lightPodL (p:=p) (HP.out.below HB3.out));unfold podV at HLP
 go_wp2_with fail
 refine HLP.out.mono ?_;rintro e W4 ⟨⟨b,rfl⟩,hb4⟩;have HB4:=qI (HB3.out.trans (hb4.mono HB3.out.size));have HC4:=qI ((hb4.block Bc (by omega)).trans HC3.out);have HP4:=qI ((hb4.block Bp (by omega)).trans HP3.out);have hs4:=hb4.size;have hc4:Bc<W4.heap.size:=by omega
 have hp4:Bp<W4.heap.size:=by omega
 clear hb4 x0 x1 x2 HLP HB3 HC3 HP3 HB2 HC2 HP2 HC1 HP1 HB1 HXC HXP HB0 HFEW;clear hXp hXc hs1 hs2 hs3 hs4
 rcases two b with rfl|rfl
 rotate_left
 ·go_wp2_with fail
  go_ret;exact ⟨rfl,HB4.out⟩
 have z4:W4.cell? ⟨Bc,4,none⟩=some (.int .i64 c.pol):=cell_of_heapV HC4.out 4;have f4:W4.frozen? ⟨Bc,4,none⟩=false:=frozen_of_heapO HC4.out 4;have HCS:Hid ((W4.setCell ⟨Bc,4,none⟩ (.int .i64 3)).heap[Bc]?=some (.cells #[.slice ca c.l.length cc,.int .u64 (c.keep:Nat),.int .i64 c.nb,.slice da c.ds.length dc,.int .i64 3] 27)):=set_heap HC4.out 4 (.int .i64 3);have HPS:Hid ((W4.setCell ⟨Bc,4,none⟩ (.int .i64 3)).heap[Bp]?=some (.cells #[.string p.nm,.int .i64 p.pr,.slice pa p.cs.length pcc] 31)):=((grown_setCell W4 ⟨Bc,4,none⟩ (.int .i64 3)).block Bp hp4 (fun e=>by injection e with e;have e2:Bp=Bc:=e;have:=HLP0.out;omega)).trans HP4.out;have HBS:Hid (Below w.heap.size w (W4.setCell ⟨Bc,4,none⟩ (.int .i64 3))):=HB4.out.grown (grown_setCell W4 ⟨Bc,4,none⟩ (.int .i64 3)) HB4.out.size (fun j e=>by injection e with e;have e2:Bc=j:=e;have:=HBC.out;omega);have y0:(W4.setCell ⟨Bc,4,none⟩ (.int .i64 3)).cell? ⟨Bc,0,none⟩=some (.slice ca c.l.length cc):=cell_of_heapV HCS.out 0;have y1:(W4.setCell ⟨Bc,4,none⟩ (.int .i64 3)).cell? ⟨Bc,1,none⟩=some (.int .u64 (c.keep:Nat)):=cell_of_heapV HCS.out 1;have y2:(W4.setCell ⟨Bc,4,none⟩ (.int .i64 3)).cell? ⟨Bc,2,none⟩=some (.int .i64 c.nb):=cell_of_heapV HCS.out 2;have y3:(W4.setCell ⟨Bc,4,none⟩ (.int .i64 3)).cell? ⟨Bc,3,none⟩=some (.slice da c.ds.length dc):=cell_of_heapV HCS.out 3;have y4:(W4.setCell ⟨Bc,4,none⟩ (.int .i64 3)).cell? ⟨Bc,4,none⟩=some (.int .i64 3):=cell_of_heapV HCS.out 4;have HBO:=qI (boot_any ({ c with pol:=3 }:Ol.Cf) (.slice ca c.l.length cc) (.slice da c.ds.length dc) g o (W4.setCell ⟨Bc,4,none⟩ (.int .i64 3)) (H1.out.below HBS.out) (H2.out.below HBS.out) hk (HT.out.below HBS.out) (HM.out.below HBS.out));dsimp only at HBO
 go_wp2_with fail
 clear z4 f4 y0 y1 y2 y3 y4;generalize (W4.setCell ⟨Bc,4,none⟩ (.int .i64 3))=S at *;refine HBO.out.mono ?_;rintro e W5 ⟨hbad,hgood,hout⟩;have hs5:=hout.size;have hwS:w.heap.size≤S.heap.size:=HBS.out.size;have HB5:=qI (HBS.out.trans (hout.mono HBS.out.size));have hbcs:Bc<S.heap.size:=(Array.getElem?_eq_some_iff.1 HCS.out).1;have hbps:Bp<S.heap.size:=(Array.getElem?_eq_some_iff.1 HPS.out).1;have HP5:=qI ((hout.block Bp hbps).trans HPS.out);have HC5:=qI ((hout.block Bc hbcs).trans HCS.out)
 by_cases hcf:Ol.confF ({ c with pol:=3 }:Ol.Cf)=0
 rotate_left
 ·obtain ⟨bp,bq,rfl⟩:=hbad hcf;clear hbad hgood hout hcf HBO;have HB6:=qI (HB5.out.alloc HB5.out.size (.cells #[.pointer bp,.pointer bq,.pointer none] 40));have HC6:=qI (heap_oldO HC5.out (.cells #[.pointer bp,.pointer bq,.pointer none] 40));have x0:(W5.alloc (.cells #[.pointer bp,.pointer bq,.pointer none] 40)).cell? ⟨Bc,0,none⟩=some (.slice ca c.l.length cc):=cell_of_heapV HC6.out 0
  go_wp2_with fail
  clear x0;generalize W5.alloc (.cells #[.pointer bp,.pointer bq,.pointer none] 40)=Z at *;refine (new_any ca cc c.l Z (H1.out.below HB6.out)).mono ?_;rintro e W7 ⟨hy,hn,hb7⟩;have HB7:=qI (HB6.out.trans (hb7.mono HB6.out.size));clear hb7
  by_cases hf0:Ost.fault c.l=0
  ·obtain ⟨tb,tg,tc,rfl,_⟩:=hy hf0;clear hy hn hf0
   go_wp2_with fail
   go_ret;exact ⟨rfl,HB7.out⟩
  ·rw [hn hf0];clear hy hn hf0
   go_wp2_with fail
   go_ret;exact ⟨rfl,HB7.out⟩
 obtain ⟨Ba,Bd,Be,Bm,rfl,hM1,l1,l2,l3,l4⟩:=hgood hcf;have HF0:=qI (conf_fault hcf);have HM1:=qI hM1;clear hbad hgood hout hM1 hcf HBO;have HB6:=qI (HB5.out.alloc HB5.out.size (.cells #[.pointer (some ⟨Bd,0,none⟩),.pointer (some ⟨Be,0,none⟩),.pointer (some ⟨Ba,0,none⟩)] 40));have HG6:=qI ((Below.refl W5.heap.size W5).alloc (Nat.le_refl _) (.cells #[.pointer (some ⟨Bd,0,none⟩),.pointer (some ⟨Be,0,none⟩),.pointer (some ⟨Ba,0,none⟩)] 40));have HX6:=qI (heap_madeO W5 (.cells #[.pointer (some ⟨Bd,0,none⟩),.pointer (some ⟨Be,0,none⟩),.pointer (some ⟨Ba,0,none⟩)] 40) rfl);have HP6:=qI (heap_oldO HP5.out (.cells #[.pointer (some ⟨Bd,0,none⟩),.pointer (some ⟨Be,0,none⟩),.pointer (some ⟨Ba,0,none⟩)] 40));have HC6:=qI (heap_oldO HC5.out (.cells #[.pointer (some ⟨Bd,0,none⟩),.pointer (some ⟨Be,0,none⟩),.pointer (some ⟨Ba,0,none⟩)] 40));have x0:(W5.alloc (.cells #[.pointer (some ⟨Bd,0,none⟩),.pointer (some ⟨Be,0,none⟩),.pointer (some ⟨Ba,0,none⟩)] 40)).cell? ⟨Bc,0,none⟩=some (.slice ca c.l.length cc):=cell_of_heapV HC6.out 0
 go_wp2_with fail
 clear x0;generalize W5.alloc (.cells #[.pointer (some ⟨Bd,0,none⟩),.pointer (some ⟨Be,0,none⟩),.pointer (some ⟨Ba,0,none⟩)] 40)=Z at *;refine (new_any ca cc c.l Z (H1.out.below HB6.out)).mono ?_;rintro e Y ⟨hy,hn,hb7⟩;obtain ⟨tb,tg,tc,rfl,htp⟩:=hy HF0.out;have HTP:=qI htp;have HB7:=qI (HB6.out.trans (hb7.mono HB6.out.size));have HG7:=qI (HG6.out.trans (hb7.mono HG6.out.size));have hZk:W5.heap.size<Z.heap.size:=(Array.getElem?_eq_some_iff.1 HX6.out).1;have hZp:Bp<Z.heap.size:=(Array.getElem?_eq_some_iff.1 HP6.out).1;have HX7:=qI ((hb7.block _ hZk).trans HX6.out);have HP7:=qI ((hb7.block _ hZp).trans HP6.out);clear hy hn hb7 htp hZk hZp HX6 HP6 HC6 HG6 HB6 hbcs
 go_wp2_with fail
 obtain ⟨Bk,hBk⟩:∃ Bk,Bk=W5.heap.size:=⟨_,rfl⟩;rw [← hBk] at HX7;rw [← hBk];have lba:Ba<Bk:=by
  rw [hBk];obtain ⟨_,_,_,_,_,_,_,_,_,_,_,_,_,_,_,_,_,k1,_⟩:=HM1.out;exact k1.lt
 have lbd:Bd<Bk∧Bm<Bk:=by
  rw [hBk];exact ⟨HM1.out.eng.lt.2.1,HM1.out.eng.lt.2.2⟩
 clear hBk;have HMY:Hid (Mach Y none1 Ba Bd Be Bm ⟨Ol.mcOf ({ c with pol:=3 }:Ol.Cf),c.ds,[]⟩ Dk.fresh 0):=HM1.out.keep HG7.out;have hkY:Bk<Y.heap.size:=(Array.getElem?_eq_some_iff.1 HX7.out).1;have hpY:Bp<Y.heap.size:=(Array.getElem?_eq_some_iff.1 HP7.out).1;have HENV:Hid (∀ W,Apart (three Ba Bd Bm) Y W→W.heap[Bk]?=some (.cells #[.pointer (some ⟨Bd,0,none⟩),.pointer (some ⟨Be,0,none⟩),.pointer (some ⟨Ba,0,none⟩)] 40)∧W.heap[Bp]?=some (.cells #[.string p.nm,.int .i64 p.pr,.slice pa p.cs.length pcc] 31)∧TabUp W∧Below w.heap.size w W∧CellLe w (mask (four none1 Ba Bd Bm) W)):=fun W ha=>by
  have hb:=below_apart HB7.out HB7.out.size ha (fun j hj=>by rcases hj with e|e|e <;> omega);exact ⟨(ha.block Bk hkY (by rintro (e|e|e) <;> omega)).trans HX7.out,(ha.block Bp hpY (by rintro (e|e|e) <;> omega)).trans HP7.out,tab_apart (HT.out.below HB7.out) ha (by rintro (e|e|e) <;> omega),hb,mask_below hb rfl (fun j hj=>by
   rcases hj with e|e|e|e
   ·exact e.elim
   all_goals omega)⟩
 have HML:Hid (c.l.length≤64∧0<c.l.length∧(Ol.mcOf ({ c with pol:=3 }:Ol.Cf)).nd<256∧Good c.l):=by
  have hcp:=HMY.out.cpus;obtain ⟨_,_,_,_,_,_,_,_,_,_,_,_,_,_,_,_,_,_,_,k3,_⟩:=HMY.out;have h1:(Ol.mcOf ({ c with pol:=3 }:Ol.Cf)).nd≤15:=k3.nd.2;exact ⟨k3.topo.len,hcp,by omega,k3.good⟩
 have HFREE:=qI (topo_free HMY.out HTP.out HML.out.2.1);have HTPE:Hid (∀ W,Apart (three Ba Bd Bm) Y W→TopoAt W tb tg 0 tc c.l):=fun W ha=>topo_blocks HTP.out (ha.block tb HTP.out.tlt HFREE.out.1) (ha.block tg HTP.out.lt HFREE.out.2) ha.size
 clear HM1 HX7 HP7 HB7 HG7 HP5 HB5 HP4 HC4 HB4 HC5 HCS HPS HBS;clear hs5 hc4 hp4 l1 l2 l3 l4 hkY hpY lba lbd hbps hwS
 go_loopw [11] (fun i wr=>∃ k:Nat,k≤ps.length∧i=.int .i64 k∧Apart (three Ba Bd Bm) Y wr∧∃ hs dk n,n≤3*k∧(∀ x∈hs,∀ y∈x.gs,Ol.OneNode c.l c.ds y)∧Mach wr none1 Ba Bd Be Bm ⟨Ol.mcOf ({ c with pol:=3 }:Ol.Cf),c.ds,hs⟩ dk n) (fun i _=>ps.length - (intOf i).toNat)
 case atStart=>exact ⟨0,Nat.zero_le _,rfl,Apart.refl _ _,[],Dk.fresh,0,Nat.le_refl _,(fun x hx=>by cases hx),HMY.out⟩
 case round=>
  obtain ⟨k,hkl,rfl,hap,hs,dk,n,hn,hon,hMr⟩:=hrel;have HON:=qI hon;clear hon;have HAP:=qI hap;have HMR:=qI hMr;clear hap hMr
  by_cases hlt:k<ps.length
  ·obtain ⟨fb,fo,cvf,rfl,hin⟩:=HFR.out (by omega);obtain ⟨⟨r0,r1,r2⟩,hqc⟩:=hin.2 k hlt;obtain ⟨qa,qc,hcq,_⟩:=id hqc;rw [hcq] at hqc r2;have HQC:=qI hqc;have HR0:=qI r0;have HR1:=qI r1;have HR2:=qI r2;have hfbl:fb<w.heap.size:=hin.1;clear hin hqc hcq r0 r1 r2;generalize pd ps k=q at *;have HSB:Hid (∀ W,Apart (three Ba Bd Bm) Y W→(fun w':World=>w'.cell? ⟨Bk,2,none⟩=some (.pointer (some ⟨Ba,0,none⟩))∧w'.cell? ⟨fb,fo+k*3,none⟩=some (.string q.nm)∧w'.cell? ⟨fb,fo+k*3+1,none⟩=some (.int .i64 q.pr)∧w'.cell? ⟨fb,fo+k*3+2,none⟩=some (.slice qa q.cs.length qc)) W):=fun W ha=>by
    obtain ⟨e1,e2,e3,e4,e5⟩:=HENV.out W ha;exact ⟨cell_of_heapV e1 2,(e4.cell (p:=⟨fb,_,none⟩) hfbl).trans HR0.out,(e4.cell (p:=⟨fb,_,none⟩) hfbl).trans HR1.out,(e4.cell (p:=⟨fb,_,none⟩) hfbl).trans HR2.out⟩
   go_upto_region 14 with fail
   have HAd:Hid (Apart (three Ba Bd Bm) Y wr.drew):=HAP.out.trans (Apart.of_below (below_drewR (Below.refl _ _)));have HMd:Hid (Mach wr.drew none1 Ba Bd Be Bm ⟨Ol.mcOf ({ c with pol:=3 }:Ol.Cf),c.ds,hs⟩ dk n):=HMR.out.keep (below_drewR (Below.refl _ _));refine wp_region_held_drew (S:=(fun w':World=>w'.cell? ⟨Bk,2,none⟩=some (.pointer (some ⟨Ba,0,none⟩))∧w'.cell? ⟨fb,fo+k*3,none⟩=some (.string q.nm)∧w'.cell? ⟨fb,fo+k*3+1,none⟩=some (.int .i64 q.pr)∧w'.cell? ⟨fb,fo+k*3+2,none⟩=some (.slice qa q.cs.length qc))) (by kernel_rfl) (HSB.out _ HAd.out) (fun hHeld=>?_);generalize wr.drew=V at *;refine tk 0 ?_;refine tk 1 ?_;refine tk 2 ?_;refine tk 3 ?_;refine tk 4 ?_;refine tk 5 ?_;refine rd 6 (fun K hK=>?_);go_simp
   go_wp2_with fail
   have HAD:=qI (admitF (p:=q) (cv:=.slice qa q.cs.length qc) HMd.out (HQC.out.le (HENV.out V HAd.out).2.2.2.2) (HENV.out V HAd.out).2.2.1 (by omega));unfold podV at HAD;refine HAD.out.mono ?_;rintro e V2 ⟨rfl,⟨dk2,n2,hn2,hM2⟩,ha2⟩;have HA2:=qI (HAd.out.trans ha2);have HO2:=qI (Ol.admit_one (p:=q) HMd.out.inv HML.out.1 HML.out.2.2.1 rfl HON.out);have HM2:=qI hM2;have hn3:n2≤3*(k+1):=by omega
   clear hM2 ha2 hn2 HAD
   go_wp2_with fail
   refine hK.out _ _ (HSB.out _ HA2.out) (fun hHeld=>?_);clear hK K;refine wpAnyH_done (by kernel_rfl) ?_ _;clear hHeld
   go_wp2_with fail
   go_roundw
   case rel=>exact ⟨k+1,by omega,by go_num,HA2.out,_,_,_,hn3,HO2.out,HM2.out⟩
   case measure=>simp [intOf];omega
  ·have hn0:n≤48:=by omega
   have z0:wr.cell? ⟨Bk,2,none⟩=some (.pointer (some ⟨Ba,0,none⟩)):=cell_of_heapV (HENV.out wr HAP.out).1 2;have y0:wr.cell? ⟨Bp,0,none⟩=some (.string p.nm):=cell_of_heapV (HENV.out wr HAP.out).2.1 0;have y1:wr.cell? ⟨Bp,1,none⟩=some (.int .i64 p.pr):=cell_of_heapV (HENV.out wr HAP.out).2.1 1;have y2:wr.cell? ⟨Bp,2,none⟩=some (.slice pa p.cs.length pcc):=cell_of_heapV (HENV.out wr HAP.out).2.1 2;have HAD:=qI (admitF (p:=p) (cv:=.slice pa p.cs.length pcc) HMR.out (HP.out.le (HENV.out _ HAP.out).2.2.2.2) (HENV.out _ HAP.out).2.2.1 (by omega));unfold podV at HAD
   go_wp2_with fail
   refine HAD.out.mono ?_;rintro e W7 ⟨rfl,⟨dk7,n7,hn7,hM7⟩,ha7⟩;have HO7:=qI (Ol.admit_one (p:=p) HMR.out.inv HML.out.1 HML.out.2.2.1 rfl HON.out);have HA7:=qI (HAP.out.trans ha7);have HM7:=qI hM7;clear hM7 ha7 HAD z0 y0 y1 y2 hlt hkl hn HMR HON hn0 hn7;dsimp only at HO7 HM7;generalize (Ol.admit ⟨Ol.mcOf ({ c with pol:=3 }:Ol.Cf),c.ds,hs⟩ p).2=hs7 at *;have z0:W7.cell? ⟨Bk,2,none⟩=some (.pointer (some ⟨Ba,0,none⟩)):=cell_of_heapV (HENV.out W7 HA7.out).1 2
   go_wp2_with fail
   refine (heldM HM7.out).mono ?_;rintro e W8 ⟨a8,c8,rfl,hh8,hb8⟩;have HA8:=qI (HA7.out.trans (Apart.of_below hb8));have HM8:=qI (HM7.out.keep hb8);have HH8:Hid (HldsAt W8 (.slice a8 hs7.length c8) hs7):=hh8.le (mask_off _ _);clear hh8 hb8 z0;(try dsimp only);have z0:W8.cell? ⟨Bk,2,none⟩=some (.pointer (some ⟨Ba,0,none⟩)):=cell_of_heapV (HENV.out W8 HA8.out).1 2
   go_wp2_with fail
   refine (devicesM HM8.out).mono ?_;rintro e U ⟨a9,dg,c9,rfl,hd9,hb9⟩;have HA9:=qI (HA8.out.trans (Apart.of_below hb9));have HH9:=qI (HH8.out.below hb9);have HD9:=qI hd9;have HRG:=qI (inv_range HM8.out.inv);have HND:=qI (Dvs.fault_nodes HM8.out.inv.devs);have HUB:=qI (HENV.out U HA9.out).2.2.2.1;have HUT:=qI (HTPE.out U HA9.out);have hl12:hs7.length≤12:=(Ol.heldF_iff.1 HM8.out.inv.held).1;have HGL:Hid (∀ x∈hs7,x.gs.length≤3):=held_few HM8.out.inv;have HDV:Hid (∀ x∈hs7,∀ y∈x.gs,y.dv.length≤16):=held_devs HM8.out.inv;clear hd9 hb9 z0 HA7 HA8 HM7 HM8 HH8;(try dsimp only at HRG HND HGL)
   go_wp2_with fail
   go_loopw [14] (fun i wr=>∃ k:Nat,k≤hs7.length∧i=.int .i64 k∧Below U.heap.size U wr) (fun i _=>hs7.length - (intOf i).toNat)
   case atStart=>exact ⟨0,Nat.zero_le _,rfl,Below.refl _ _⟩
   case round=>
    obtain ⟨i,hil,rfl,hbv⟩:=hrel;have HBV:=qI hbv;clear hbv
    by_cases hli:i<hs7.length
    rotate_left
    ·go_wp2_with fail
     go_ret;exact ⟨rfl,HUB.out.trans (HBV.out.mono HUB.out.size)⟩
    obtain ⟨ao,hc',hv',hm',hr'⟩:=id HH9.out;obtain ⟨hb,ho,cvv,gvv,hao,hin⟩:=hr' (by omega);have hao':a8=some ⟨hb,ho,none⟩:=by injection hv' with e1 e2 e3;rw [e1];exact hao
    obtain ⟨hbl,hin2⟩:=hin;obtain ⟨⟨q0,q1,q2,q3⟩,hcon,hgiv⟩:=hin2 i hli;clear q0 q1 q2 hcon;have hxm:hd hs7 i∈hs7:=Sv.mem_hd hli;have HON:=qI (HO7.out _ hxm);have HRX:=qI (HRG.out _ hxm);have hgl3:=HGL.out _ hxm;have HDX:=qI (HDV.out _ hxm);obtain ⟨ga,gc,hgv,hgm,hgp⟩:=hgiv.parts;rw [hgv] at q3;have HQ3:=qI q3;have HGP:=qI hgp;clear hv' hm' hr' hin2 hgiv hgv hgm hgp q3 hao hxm cvv gvv ao hc';subst hao';generalize hd hs7 i=x at *;have x3:wr.cell? ⟨hb,ho+i*4+3,none⟩=some (.slice ga x.gs.length gc):=(HBV.out.cell (p:=⟨hb,_,none⟩) hbl).trans HQ3.out
    go_wp2_with fail
    clear x3
    go_loopw [15] (fun kk wr=>∃ j:Nat,j≤x.gs.length∧kk=.int .i64 j∧Below U.heap.size U wr) (fun kk _=>x.gs.length - (intOf kk).toNat)
    case atStart=>exact ⟨0,Nat.zero_le _,rfl,HBV.out⟩
    case round=>
     obtain ⟨j,hjl,rfl,hby⟩:=hrel;have HBY:=qI hby;clear hby;have x3:wr.cell? ⟨hb,ho+i*4+3,none⟩=some (.slice ga x.gs.length gc):=(HBY.out.cell (p:=⟨hb,_,none⟩) hbl).trans HQ3.out
     by_cases hlj:j<x.gs.length
     rotate_left
     ·go_wp2_with fail
      go_roundw
      case rel=>exact ⟨i+1,by omega,by go_num,HBY.out⟩
      case measure=>simp [intOf];omega
     obtain ⟨gb,go',dvv,hga,hgbl,g0,g1,hints⟩:=HGP.out j hlj;subst hga;have hym:gv x.gs j∈x.gs:=Sv.mem_gv hlj;obtain ⟨nd,hnd,hcpu,hdev⟩:=HON.out _ hym;have HCPU:=qI hcpu;have HDEV:=qI hdev;have HRY:=qI (HRX.out _ hym);have hdv16:=HDX.out _ hym;obtain ⟨ia,ic,hdv,him,hir⟩:=hints;subst hdv;have HIR:=qI hir;generalize gv x.gs j=y at *;have w0:wr.cell? ⟨gb,go'+j*2,none⟩=some (.int .u64 y.cp):=(HBY.out.cell (p:=⟨gb,_,none⟩) hgbl).trans g0;have w1:wr.cell? ⟨gb,go'+j*2+1,none⟩=some (.slice ia y.dv.length ic):=(HBY.out.cell (p:=⟨gb,_,none⟩) hgbl).trans g1;have HBG:=qI (HBY.out.alloc HBY.out.size (.cells #[.int .u64 y.cp,.slice ia y.dv.length ic] 69));have HXG:=qI (heap_madeO wr (.cells #[.int .u64 y.cp,.slice ia y.dv.length ic] 69) rfl);clear hcpu hdev hir g0 g1 hym him;obtain ⟨Bg,hBg⟩:∃ Bg,Bg=wr.heap.size:=⟨_,rfl⟩;rw [← hBg] at HXG
     go_wp2_with fail
     rw [← hBg];clear w0 w1 x3 hBg;generalize wr.alloc (.cells #[.int .u64 y.cp,.slice ia y.dv.length ic] 69)=Q at *
     go_loopw [17,18] (fun on nn wr=>∃ m k:Nat,k≤4∧on=.int .u8 m∧nn=.int .i64 k∧Ol.Most1 nd m∧Below U.heap.size U wr∧wr.heap[Bg]?=some (.cells #[.int .u64 y.cp,.slice ia y.dv.length ic] 69)) (fun _ nn _=>4 - (intOf nn).toNat)
     case atStart=>exact ⟨0,0,by omega,rfl,rfl,.inl rfl,HBG.out,HXG.out⟩
     case round=>
      obtain ⟨m,k,hk4,rfl,rfl,hm1,hbz,hgz⟩:=hrel;have HM1:=qI hm1;have HBZ:=qI hbz;have HGZ:=qI hgz;clear hm1 hbz hgz
      by_cases hlk:k<4
      ·have hk5:k=0∨k=1∨k=2∨k=3:=by omega
       have hcps:=cp_small HML.out.1 HCPU.out
       rcases hk5 with rfl|rfl|rfl|rfl
       ·by_cases hz:(Ost.chosen (onMask 1) c.l) &&& y.cp=0
        ·have e0:bits BinOp.and IntKind.u64 (((Ost.chosen (onMask 1) c.l):Nat):Int) (y.cp:Int)=0:=(and64O (Ost.chosen (onMask 1) c.l) y.cp (Ost.chosenTo_lt _ _ _ HML.out.1) hcps).trans (by rw [hz];rfl);clear hz
         go_upto_region 29 with fail
         have hgl:Bg<wr.heap.size:=(Array.getElem?_eq_some_iff.1 HGZ.out).1;have HSB:Hid (∀ W,Below wr.heap.size wr W→(fun w':World=>w'.cell? ⟨Bg,0,none⟩=some (.int .u64 y.cp)) W):=fun W hb=>cell_of_heapV ((hb.block Bg hgl).trans HGZ.out) 0
         have HBd:Hid (Below wr.heap.size wr wr.drew):=below_drewR (Below.refl _ _);have HTd:Hid (TopoAt wr.drew tb tg 0 tc c.l):=HUT.out.below (HBZ.out.trans (HBd.out.mono HBZ.out.size));refine wp_region_held_drew (S:=(fun w':World=>w'.cell? ⟨Bg,0,none⟩=some (.int .u64 y.cp))) (by kernel_rfl) (HSB.out _ HBd.out) (fun hHeld=>?_);generalize wr.drew=V at *;refine tk 0 ?_;refine tk 1 ?_;refine tk 2 ?_;refine tk 3 ?_;refine tk 5 ?_;refine tk 6 ?_;refine rd 4 (fun K hK=>?_);go_simp
         go_wp2_with fail
         refine (on_any tb tg 0 tc c.l 1 V HTd.out HML.out.2.2.2 (by decide)).mono ?_;rintro e V2 ⟨rfl,hb2⟩;have HB2:=qI (HBd.out.trans (hb2.mono HBd.out.size));clear hb2
         go_wp2_with fail
         refine hK.out _ _ (HSB.out _ HB2.out) (fun hHeld=>?_);clear hK K;refine tk 7 ?_;refine tk 8 ?_;refine wpAnyH_done (by kernel_rfl) ?_ _;clear hHeld
         go_wp2_with fail
         go_roundw
         case rel=>exact ⟨m,1,by omega,rfl,by go_num,HM1.out,HBZ.out.trans (HB2.out.mono HBZ.out.size),(HB2.out.block Bg hgl).trans HGZ.out⟩
         case measure=>simp [intOf]
        ·have hnd:nd=0:=(Ol.on_meets (n:=0) HCPU.out hz).symm;have e0:=and64O (Ost.chosen (onMask 1) c.l) y.cp (Ost.chosenTo_lt _ _ _ HML.out.1) hcps;have hzi:((((Ost.chosen (onMask 1) c.l) &&& y.cp:Nat):Int) == 0)=false:=by rw [beq_eq_false_iff_ne];omega
         subst hnd;have hor:∃ m':Nat,bits BinOp.or IntKind.u8 (m:Int) 1=(m':Int)∧m'=1:=by
          rcases HM1.out with h|h
          ·subst h;exact ⟨1,rfl,rfl⟩
          ·subst h;exact ⟨1,rfl,rfl⟩
         obtain ⟨m',hor,hm'⟩:=hor;have HMX:Hid (Ol.Most1 0 m'):=.inr (hm'.trans rfl);clear hm'
         go_upto_region 29 with fail
         have hgl:Bg<wr.heap.size:=(Array.getElem?_eq_some_iff.1 HGZ.out).1;have HSB:Hid (∀ W,Below wr.heap.size wr W→(fun w':World=>w'.cell? ⟨Bg,0,none⟩=some (.int .u64 y.cp)) W):=fun W hb=>cell_of_heapV ((hb.block Bg hgl).trans HGZ.out) 0
         have HBd:Hid (Below wr.heap.size wr wr.drew):=below_drewR (Below.refl _ _);have HTd:Hid (TopoAt wr.drew tb tg 0 tc c.l):=HUT.out.below (HBZ.out.trans (HBd.out.mono HBZ.out.size));refine wp_region_held_drew (S:=(fun w':World=>w'.cell? ⟨Bg,0,none⟩=some (.int .u64 y.cp))) (by kernel_rfl) (HSB.out _ HBd.out) (fun hHeld=>?_);generalize wr.drew=V at *;refine tk 0 ?_;refine tk 1 ?_;refine tk 2 ?_;refine tk 3 ?_;refine tk 5 ?_;refine tk 6 ?_;refine rd 4 (fun K hK=>?_);go_simp
         go_wp2_with fail
         refine (on_any tb tg 0 tc c.l 1 V HTd.out HML.out.2.2.2 (by decide)).mono ?_;rintro e V2 ⟨rfl,hb2⟩;have HB2:=qI (HBd.out.trans (hb2.mono HBd.out.size));clear hb2
         go_wp2_with fail
         refine hK.out _ _ (HSB.out _ HB2.out) (fun hHeld=>?_);clear hK K;refine tk 7 ?_;refine tk 8 ?_;refine wpAnyH_done (by kernel_rfl) ?_ _;clear hHeld
         go_wp2_with fail
         go_roundw
         case rel=>exact ⟨m',1,by omega,rfl,by go_num,HMX.out,HBZ.out.trans (HB2.out.mono HBZ.out.size),(HB2.out.block Bg hgl).trans HGZ.out⟩
         case measure=>simp [intOf]
       ·by_cases hz:(Ost.chosen (onMask 2) c.l) &&& y.cp=0
        ·have e0:bits BinOp.and IntKind.u64 (((Ost.chosen (onMask 2) c.l):Nat):Int) (y.cp:Int)=0:=(and64O (Ost.chosen (onMask 2) c.l) y.cp (Ost.chosenTo_lt _ _ _ HML.out.1) hcps).trans (by rw [hz];rfl);clear hz
         go_upto_region 29 with fail
         have hgl:Bg<wr.heap.size:=(Array.getElem?_eq_some_iff.1 HGZ.out).1;have HSB:Hid (∀ W,Below wr.heap.size wr W→(fun w':World=>w'.cell? ⟨Bg,0,none⟩=some (.int .u64 y.cp)) W):=fun W hb=>cell_of_heapV ((hb.block Bg hgl).trans HGZ.out) 0
         have HBd:Hid (Below wr.heap.size wr wr.drew):=below_drewR (Below.refl _ _);have HTd:Hid (TopoAt wr.drew tb tg 0 tc c.l):=HUT.out.below (HBZ.out.trans (HBd.out.mono HBZ.out.size));refine wp_region_held_drew (S:=(fun w':World=>w'.cell? ⟨Bg,0,none⟩=some (.int .u64 y.cp))) (by kernel_rfl) (HSB.out _ HBd.out) (fun hHeld=>?_);generalize wr.drew=V at *;refine tk 0 ?_;refine tk 1 ?_;refine tk 2 ?_;refine tk 3 ?_;refine tk 5 ?_;refine tk 6 ?_;refine rd 4 (fun K hK=>?_);go_simp
         go_wp2_with fail
         refine (on_any tb tg 0 tc c.l 2 V HTd.out HML.out.2.2.2 (by decide)).mono ?_;rintro e V2 ⟨rfl,hb2⟩;have HB2:=qI (HBd.out.trans (hb2.mono HBd.out.size));clear hb2
         go_wp2_with fail
         refine hK.out _ _ (HSB.out _ HB2.out) (fun hHeld=>?_);clear hK K;refine tk 7 ?_;refine tk 8 ?_;refine wpAnyH_done (by kernel_rfl) ?_ _;clear hHeld
         go_wp2_with fail
         go_roundw
         case rel=>exact ⟨m,2,by omega,rfl,by go_num,HM1.out,HBZ.out.trans (HB2.out.mono HBZ.out.size),(HB2.out.block Bg hgl).trans HGZ.out⟩
         case measure=>simp [intOf]
        ·have hnd:nd=1:=(Ol.on_meets (n:=1) HCPU.out hz).symm;have e0:=and64O (Ost.chosen (onMask 2) c.l) y.cp (Ost.chosenTo_lt _ _ _ HML.out.1) hcps;have hzi:((((Ost.chosen (onMask 2) c.l) &&& y.cp:Nat):Int) == 0)=false:=by rw [beq_eq_false_iff_ne];omega
         subst hnd;have hor:∃ m':Nat,bits BinOp.or IntKind.u8 (m:Int) 2=(m':Int)∧m'=2:=by
          rcases HM1.out with h|h
          ·subst h;exact ⟨2,rfl,rfl⟩
          ·subst h;exact ⟨2,rfl,rfl⟩
         obtain ⟨m',hor,hm'⟩:=hor;have HMX:Hid (Ol.Most1 1 m'):=.inr (hm'.trans rfl);clear hm'
         go_upto_region 29 with fail
         have hgl:Bg<wr.heap.size:=(Array.getElem?_eq_some_iff.1 HGZ.out).1;have HSB:Hid (∀ W,Below wr.heap.size wr W→(fun w':World=>w'.cell? ⟨Bg,0,none⟩=some (.int .u64 y.cp)) W):=fun W hb=>cell_of_heapV ((hb.block Bg hgl).trans HGZ.out) 0
         have HBd:Hid (Below wr.heap.size wr wr.drew):=below_drewR (Below.refl _ _);have HTd:Hid (TopoAt wr.drew tb tg 0 tc c.l):=HUT.out.below (HBZ.out.trans (HBd.out.mono HBZ.out.size));refine wp_region_held_drew (S:=(fun w':World=>w'.cell? ⟨Bg,0,none⟩=some (.int .u64 y.cp))) (by kernel_rfl) (HSB.out _ HBd.out) (fun hHeld=>?_);generalize wr.drew=V at *;refine tk 0 ?_;refine tk 1 ?_;refine tk 2 ?_;refine tk 3 ?_;refine tk 5 ?_;refine tk 6 ?_;refine rd 4 (fun K hK=>?_);go_simp
         go_wp2_with fail
         refine (on_any tb tg 0 tc c.l 2 V HTd.out HML.out.2.2.2 (by decide)).mono ?_;rintro e V2 ⟨rfl,hb2⟩;have HB2:=qI (HBd.out.trans (hb2.mono HBd.out.size));clear hb2
         go_wp2_with fail
         refine hK.out _ _ (HSB.out _ HB2.out) (fun hHeld=>?_);clear hK K;refine tk 7 ?_;refine tk 8 ?_;refine wpAnyH_done (by kernel_rfl) ?_ _;clear hHeld
         go_wp2_with fail
         go_roundw
         case rel=>exact ⟨m',2,by omega,rfl,by go_num,HMX.out,HBZ.out.trans (HB2.out.mono HBZ.out.size),(HB2.out.block Bg hgl).trans HGZ.out⟩
         case measure=>simp [intOf]
       ·by_cases hz:(Ost.chosen (onMask 4) c.l) &&& y.cp=0
        ·have e0:bits BinOp.and IntKind.u64 (((Ost.chosen (onMask 4) c.l):Nat):Int) (y.cp:Int)=0:=(and64O (Ost.chosen (onMask 4) c.l) y.cp (Ost.chosenTo_lt _ _ _ HML.out.1) hcps).trans (by rw [hz];rfl);clear hz
         go_upto_region 29 with fail
         have hgl:Bg<wr.heap.size:=(Array.getElem?_eq_some_iff.1 HGZ.out).1;have HSB:Hid (∀ W,Below wr.heap.size wr W→(fun w':World=>w'.cell? ⟨Bg,0,none⟩=some (.int .u64 y.cp)) W):=fun W hb=>cell_of_heapV ((hb.block Bg hgl).trans HGZ.out) 0
         have HBd:Hid (Below wr.heap.size wr wr.drew):=below_drewR (Below.refl _ _);have HTd:Hid (TopoAt wr.drew tb tg 0 tc c.l):=HUT.out.below (HBZ.out.trans (HBd.out.mono HBZ.out.size));refine wp_region_held_drew (S:=(fun w':World=>w'.cell? ⟨Bg,0,none⟩=some (.int .u64 y.cp))) (by kernel_rfl) (HSB.out _ HBd.out) (fun hHeld=>?_);generalize wr.drew=V at *;refine tk 0 ?_;refine tk 1 ?_;refine tk 2 ?_;refine tk 3 ?_;refine tk 5 ?_;refine tk 6 ?_;refine rd 4 (fun K hK=>?_);go_simp
         go_wp2_with fail
         refine (on_any tb tg 0 tc c.l 4 V HTd.out HML.out.2.2.2 (by decide)).mono ?_;rintro e V2 ⟨rfl,hb2⟩;have HB2:=qI (HBd.out.trans (hb2.mono HBd.out.size));clear hb2
         go_wp2_with fail
         refine hK.out _ _ (HSB.out _ HB2.out) (fun hHeld=>?_);clear hK K;refine tk 7 ?_;refine tk 8 ?_;refine wpAnyH_done (by kernel_rfl) ?_ _;clear hHeld
         go_wp2_with fail
         go_roundw
         case rel=>exact ⟨m,3,by omega,rfl,by go_num,HM1.out,HBZ.out.trans (HB2.out.mono HBZ.out.size),(HB2.out.block Bg hgl).trans HGZ.out⟩
         case measure=>simp [intOf]
        ·have hnd:nd=2:=(Ol.on_meets (n:=2) HCPU.out hz).symm;have e0:=and64O (Ost.chosen (onMask 4) c.l) y.cp (Ost.chosenTo_lt _ _ _ HML.out.1) hcps;have hzi:((((Ost.chosen (onMask 4) c.l) &&& y.cp:Nat):Int) == 0)=false:=by rw [beq_eq_false_iff_ne];omega
         subst hnd;have hor:∃ m':Nat,bits BinOp.or IntKind.u8 (m:Int) 4=(m':Int)∧m'=4:=by
          rcases HM1.out with h|h
          ·subst h;exact ⟨4,rfl,rfl⟩
          ·subst h;exact ⟨4,rfl,rfl⟩
         obtain ⟨m',hor,hm'⟩:=hor;have HMX:Hid (Ol.Most1 2 m'):=.inr (hm'.trans rfl);clear hm'
         go_upto_region 29 with fail
         have hgl:Bg<wr.heap.size:=(Array.getElem?_eq_some_iff.1 HGZ.out).1;have HSB:Hid (∀ W,Below wr.heap.size wr W→(fun w':World=>w'.cell? ⟨Bg,0,none⟩=some (.int .u64 y.cp)) W):=fun W hb=>cell_of_heapV ((hb.block Bg hgl).trans HGZ.out) 0
         have HBd:Hid (Below wr.heap.size wr wr.drew):=below_drewR (Below.refl _ _);have HTd:Hid (TopoAt wr.drew tb tg 0 tc c.l):=HUT.out.below (HBZ.out.trans (HBd.out.mono HBZ.out.size));refine wp_region_held_drew (S:=(fun w':World=>w'.cell? ⟨Bg,0,none⟩=some (.int .u64 y.cp))) (by kernel_rfl) (HSB.out _ HBd.out) (fun hHeld=>?_);generalize wr.drew=V at *;refine tk 0 ?_;refine tk 1 ?_;refine tk 2 ?_;refine tk 3 ?_;refine tk 5 ?_;refine tk 6 ?_;refine rd 4 (fun K hK=>?_);go_simp
         go_wp2_with fail
         refine (on_any tb tg 0 tc c.l 4 V HTd.out HML.out.2.2.2 (by decide)).mono ?_;rintro e V2 ⟨rfl,hb2⟩;have HB2:=qI (HBd.out.trans (hb2.mono HBd.out.size));clear hb2
         go_wp2_with fail
         refine hK.out _ _ (HSB.out _ HB2.out) (fun hHeld=>?_);clear hK K;refine tk 7 ?_;refine tk 8 ?_;refine wpAnyH_done (by kernel_rfl) ?_ _;clear hHeld
         go_wp2_with fail
         go_roundw
         case rel=>exact ⟨m',3,by omega,rfl,by go_num,HMX.out,HBZ.out.trans (HB2.out.mono HBZ.out.size),(HB2.out.block Bg hgl).trans HGZ.out⟩
         case measure=>simp [intOf]
       ·by_cases hz:(Ost.chosen (onMask 8) c.l) &&& y.cp=0
        ·have e0:bits BinOp.and IntKind.u64 (((Ost.chosen (onMask 8) c.l):Nat):Int) (y.cp:Int)=0:=(and64O (Ost.chosen (onMask 8) c.l) y.cp (Ost.chosenTo_lt _ _ _ HML.out.1) hcps).trans (by rw [hz];rfl);clear hz
         go_upto_region 29 with fail
         have hgl:Bg<wr.heap.size:=(Array.getElem?_eq_some_iff.1 HGZ.out).1;have HSB:Hid (∀ W,Below wr.heap.size wr W→(fun w':World=>w'.cell? ⟨Bg,0,none⟩=some (.int .u64 y.cp)) W):=fun W hb=>cell_of_heapV ((hb.block Bg hgl).trans HGZ.out) 0
         have HBd:Hid (Below wr.heap.size wr wr.drew):=below_drewR (Below.refl _ _);have HTd:Hid (TopoAt wr.drew tb tg 0 tc c.l):=HUT.out.below (HBZ.out.trans (HBd.out.mono HBZ.out.size));refine wp_region_held_drew (S:=(fun w':World=>w'.cell? ⟨Bg,0,none⟩=some (.int .u64 y.cp))) (by kernel_rfl) (HSB.out _ HBd.out) (fun hHeld=>?_);generalize wr.drew=V at *;refine tk 0 ?_;refine tk 1 ?_;refine tk 2 ?_;refine tk 3 ?_;refine tk 5 ?_;refine tk 6 ?_;refine rd 4 (fun K hK=>?_);go_simp
         go_wp2_with fail
         refine (on_any tb tg 0 tc c.l 8 V HTd.out HML.out.2.2.2 (by decide)).mono ?_;rintro e V2 ⟨rfl,hb2⟩;have HB2:=qI (HBd.out.trans (hb2.mono HBd.out.size));clear hb2
         go_wp2_with fail
         refine hK.out _ _ (HSB.out _ HB2.out) (fun hHeld=>?_);clear hK K;refine tk 7 ?_;refine tk 8 ?_;refine wpAnyH_done (by kernel_rfl) ?_ _;clear hHeld
         go_wp2_with fail
         go_roundw
         case rel=>exact ⟨m,4,by omega,rfl,by go_num,HM1.out,HBZ.out.trans (HB2.out.mono HBZ.out.size),(HB2.out.block Bg hgl).trans HGZ.out⟩
         case measure=>simp [intOf]
        ·have hnd:nd=3:=(Ol.on_meets (n:=3) HCPU.out hz).symm;have e0:=and64O (Ost.chosen (onMask 8) c.l) y.cp (Ost.chosenTo_lt _ _ _ HML.out.1) hcps;have hzi:((((Ost.chosen (onMask 8) c.l) &&& y.cp:Nat):Int) == 0)=false:=by rw [beq_eq_false_iff_ne];omega
         subst hnd;have hor:∃ m':Nat,bits BinOp.or IntKind.u8 (m:Int) 8=(m':Int)∧m'=8:=by
          rcases HM1.out with h|h
          ·subst h;exact ⟨8,rfl,rfl⟩
          ·subst h;exact ⟨8,rfl,rfl⟩
         obtain ⟨m',hor,hm'⟩:=hor;have HMX:Hid (Ol.Most1 3 m'):=.inr (hm'.trans rfl);clear hm'
         go_upto_region 29 with fail
         have hgl:Bg<wr.heap.size:=(Array.getElem?_eq_some_iff.1 HGZ.out).1;have HSB:Hid (∀ W,Below wr.heap.size wr W→(fun w':World=>w'.cell? ⟨Bg,0,none⟩=some (.int .u64 y.cp)) W):=fun W hb=>cell_of_heapV ((hb.block Bg hgl).trans HGZ.out) 0
         have HBd:Hid (Below wr.heap.size wr wr.drew):=below_drewR (Below.refl _ _);have HTd:Hid (TopoAt wr.drew tb tg 0 tc c.l):=HUT.out.below (HBZ.out.trans (HBd.out.mono HBZ.out.size));refine wp_region_held_drew (S:=(fun w':World=>w'.cell? ⟨Bg,0,none⟩=some (.int .u64 y.cp))) (by kernel_rfl) (HSB.out _ HBd.out) (fun hHeld=>?_);generalize wr.drew=V at *;refine tk 0 ?_;refine tk 1 ?_;refine tk 2 ?_;refine tk 3 ?_;refine tk 5 ?_;refine tk 6 ?_;refine rd 4 (fun K hK=>?_);go_simp
         go_wp2_with fail
         refine (on_any tb tg 0 tc c.l 8 V HTd.out HML.out.2.2.2 (by decide)).mono ?_;rintro e V2 ⟨rfl,hb2⟩;have HB2:=qI (HBd.out.trans (hb2.mono HBd.out.size));clear hb2
         go_wp2_with fail
         refine hK.out _ _ (HSB.out _ HB2.out) (fun hHeld=>?_);clear hK K;refine tk 7 ?_;refine tk 8 ?_;refine wpAnyH_done (by kernel_rfl) ?_ _;clear hHeld
         go_wp2_with fail
         go_roundw
         case rel=>exact ⟨m',4,by omega,rfl,by go_num,HMX.out,HBZ.out.trans (HB2.out.mono HBZ.out.size),(HB2.out.block Bg hgl).trans HGZ.out⟩
         case measure=>simp [intOf]
      ·have hk4':k=4:=by omega
       clear hk4
       go_wp2_with fail
       clear hk4' hlk
       go_loopw [17,19] (fun on nn wr=>∃ m k:Nat,k≤y.dv.length∧on=.int .u8 m∧nn=.int .i64 k∧Ol.Most1 nd m∧Below U.heap.size U wr∧wr.heap[Bg]?=some (.cells #[.int .u64 y.cp,.slice ia y.dv.length ic] 69)) (fun _ nn _=>y.dv.length - (intOf nn).toNat)
       case atStart=>exact ⟨m,0,Nat.zero_le _,rfl,rfl,HM1.out,HBZ.out,HGZ.out⟩
       case round=>
        obtain ⟨m2,k2,hk2,rfl,rfl,hm2,hb2,hg2⟩:=hrel;have HM2:=qI hm2;have HB2:=qI hb2;have HG2:=qI hg2;clear hm2 hb2 hg2;have x1:wr.cell? ⟨Bg,1,none⟩=some (.slice ia y.dv.length ic):=cell_of_heapV HG2.out 1
        by_cases hlk2:k2<y.dv.length
        ·obtain ⟨ib,io,rfl,hibl,hic⟩:=HIR.out (by omega);obtain ⟨d0,d1⟩:=HRY.out k2 hlk2;have hdm:Dvs.nth y.dv k2∈y.dv:=by unfold Dvs.nth;exact Ost.getD_mem _ _ _ hlk2
         have hnode:=HDEV.out _ hdm;obtain ⟨dn,hdn⟩:∃ dn:Nat,Dvs.nth y.dv k2=(dn:Int):=⟨(Dvs.nth y.dv k2).toNat,by omega⟩;have xi:wr.cell? ⟨ib,io+k2,none⟩=some (.int .i64 dn):=by
          rw [← hdn];exact (HB2.out.cell (p:=⟨ib,_,none⟩) hibl).trans (hic k2 hlk2)
         have hdl:dn<c.ds.length:=by omega
         obtain ⟨_,_,hv9,hr9⟩:=id HD9.out;obtain ⟨ha9,hdgl,hdc⟩:=hr9 (by omega);have ha9':a9=some ⟨dg,0,none⟩:=by injection hv9 with e1 e2 e3;rw [e1];exact ha9
         have hnn:=HND.out.2 dn hdl;have hnd2:(dv c.ds dn).node=(nd:Int):=by
          rw [hdn] at hnode;have e:((dn:Int)).toNat=dn:=by omega
          rw [e] at hnode;omega
         have xd:wr.cell? ⟨dg,dn*3+1,none⟩=some (.int .i64 nd):=by
          have:=(hdc dn hdl).2.1
          rw [hnd2,Nat.zero_add] at this;exact (HB2.out.cell (p:=⟨dg,_,none⟩) hdgl).trans this
         clear hic d0 d1 hdm hnode hdn hv9 hr9 ha9 hdc hnn hnd2;subst ha9';have hn5:nd=0∨nd=1∨nd=2∨nd=3:=by omega
         rcases hn5 with hn6|hn6|hn6|hn6
         ·subst hn6;have hor:∃ m':Nat,bits BinOp.or IntKind.u8 (m2:Int) 1=(m':Int)∧m'=1:=by
           rcases HM2.out with h|h
           ·subst h;exact ⟨1,rfl,rfl⟩
           ·subst h;exact ⟨1,rfl,rfl⟩
          obtain ⟨m',hor,hm'⟩:=hor;have HMX:Hid (Ol.Most1 0 m'):=.inr (hm'.trans rfl);clear hm'
          go_wp2_with fail
          go_roundw
          case rel=>exact ⟨m',k2+1,by omega,rfl,by go_num,HMX.out,HB2.out,HG2.out⟩
          case measure=>simp [intOf];omega
         ·subst hn6;have hor:∃ m':Nat,bits BinOp.or IntKind.u8 (m2:Int) 2=(m':Int)∧m'=2:=by
           rcases HM2.out with h|h
           ·subst h;exact ⟨2,rfl,rfl⟩
           ·subst h;exact ⟨2,rfl,rfl⟩
          obtain ⟨m',hor,hm'⟩:=hor;have HMX:Hid (Ol.Most1 1 m'):=.inr (hm'.trans rfl);clear hm'
          go_wp2_with fail
          go_roundw
          case rel=>exact ⟨m',k2+1,by omega,rfl,by go_num,HMX.out,HB2.out,HG2.out⟩
          case measure=>simp [intOf];omega
         ·subst hn6;have hor:∃ m':Nat,bits BinOp.or IntKind.u8 (m2:Int) 4=(m':Int)∧m'=4:=by
           rcases HM2.out with h|h
           ·subst h;exact ⟨4,rfl,rfl⟩
           ·subst h;exact ⟨4,rfl,rfl⟩
          obtain ⟨m',hor,hm'⟩:=hor;have HMX:Hid (Ol.Most1 2 m'):=.inr (hm'.trans rfl);clear hm'
          go_wp2_with fail
          go_roundw
          case rel=>exact ⟨m',k2+1,by omega,rfl,by go_num,HMX.out,HB2.out,HG2.out⟩
          case measure=>simp [intOf];omega
         ·subst hn6;have hor:∃ m':Nat,bits BinOp.or IntKind.u8 (m2:Int) 8=(m':Int)∧m'=8:=by
           rcases HM2.out with h|h
           ·subst h;exact ⟨8,rfl,rfl⟩
           ·subst h;exact ⟨8,rfl,rfl⟩
          obtain ⟨m',hor,hm'⟩:=hor;have HMX:Hid (Ol.Most1 3 m'):=.inr (hm'.trans rfl);clear hm'
          go_wp2_with fail
          go_roundw
          case rel=>exact ⟨m',k2+1,by omega,rfl,by go_num,HMX.out,HB2.out,HG2.out⟩
          case measure=>simp [intOf];omega
        ·obtain ⟨hp1,hp16⟩:=Ol.most_pop hnd HM2.out;have hp2:decide ((1:Int)<((Ost.pop8 m2:Nat):Int))=false:=decide_eq_false (by omega);have HNO:=qI (nodesH_any m2 wr (by omega));clear hp1
         go_wp2_with fail
         refine HNO.out.mono ?_;rintro e W9 ⟨rfl,rfl⟩
         go_wp2_with fail
         go_roundw
         case rel=>exact ⟨j+1,by omega,by go_num,HB2.out⟩
         case measure=>simp [intOf];omega
end
end Go.Proofs.YtbfdcmodflnkfaaGreatDoor
