import Derived.Test.YtbmmnflgnmjboaaGreatDoorL35
set_option maxRecDepth 100000
set_option maxHeartbeats 16000000
namespace Go.Proofs.YtbmmnflgnmjboaaGreatDoor
section
open Go.RowKit Go.Shelf
open Ost (Cpu ae af)
open Qos (Nd Ct Pd nd ct pd ah aF)
open Sv (Gv Hd gv hd gsF az aE)
open Dvs (Dv dv aU)
open S1 (Mx)
attribute [local go_sem] Oper.semAt_some
theorem Kg (c:Ol.Cf) (v1 v2:Value) (g o:Nat) (xs:List Ac) (va:Value) (w:World) (h1:eM w v1 c.l) (h2:cW w v2 g o c.ds) (hk:c.keep<18446744073709551616) (hx:jz w va xs) (ht:bE w) (hm:Mx w) :
  Calls Tryz.prog 4 #[jp c v1 v2,va] w λe w'=>e=.returned (.bool true)/\Below w.heap.size w w':=by
 obtain ⟨ca,cc,hv1⟩:∃ ca cc,v1=.slice ca c.l.length cc:=by
  rcases id h1 with ⟨hl,ao,q,rfl⟩|⟨b,o,q,rfl,_⟩
  ·exact ⟨ao,q,by rw [hl];rfl⟩
  ·exact ⟨_,q,rfl⟩
 obtain ⟨da,dc,hv2⟩:∃ da dc,v2=.slice da c.ds.length dc:=by
  obtain ⟨da,dc,e,_⟩:=id h2;exact ⟨da,dc,e⟩
 have HXA:=qI hx;obtain ⟨aa,axc,hva,hxm,hxr⟩:=hx;subst hv1 hv2 hva;have HXR:=qI hxr;have H1:=qI h1;have H2:=qI h2;have HT:=qI ht;have HM:=qI hm;have hgl:0<w.heap.size:=ht.2;clear h1 h2 ht hm hxm hxr;unfold jp;have HB0:=qI ((Below.refl w.heap.size w).alloc (lR) (.cells #[.slice ca c.l.length cc,.int .u64 (c.keep:Nat),.int .i64 c.nb,.slice da c.ds.length dc,.int .i64 c.pol] 27));obtain ⟨Bc,hBc⟩:∃ Bc,Bc=w.heap.size:=⟨_,rfl⟩;have HXC:Hid ((w.alloc (.cells #[.slice ca c.l.length cc,.int .u64 (c.keep:Nat),.int .i64 c.nb,.slice da c.ds.length dc,.int .i64 c.pol] 27)).heap[Bc]?=some (.cells #[.slice ca c.l.length cc,.int .u64 (c.keep:Nat),.int .i64 c.nb,.slice da c.ds.length dc,.int .i64 c.pol] 27)):=by
  unfold Hid;rw [hBc];exact aH w (.cells #[.slice ca c.l.length cc,.int .u64 (c.keep:Nat),.int .i64 c.nb,.slice da c.ds.length dc,.int .i64 c.pol] 27) rfl
 go_enter Tryz.func4,Tryz.ntmps4
 go_wp2_with fail
 rw [<- hBc];generalize (w.alloc (.cells #[.slice ca c.l.length cc,.int .u64 (c.keep:Nat),.int .i64 c.nb,.slice da c.ds.length dc,.int .i64 c.pol] 27))=X at *;clear hBc;refine (JW X (HT.out.below HB0.out) (HM.out.below HB0.out)).mono ?_;rintro e W1 ⟨rfl,hb1⟩;have hXc:Bc<X.heap.size:=(gS HXC.out).1;have HENX:Hid (∀ W,Below X.heap.size X W->W.heap[Bc]?=some (.cells #[.slice ca c.l.length cc,.int .u64 (c.keep:Nat),.int .i64 c.nb,.slice da c.ds.length dc,.int .i64 c.pol] 27)/\Below w.heap.size w W):=λW hb=>⟨(hb.block Bc hXc).trans HXC.out,HB0.out.trans (hb.mono HB0.out.size)⟩
 have HB1:=qI hb1;clear hb1 HXC;have x0:W1.cell? ⟨Bc,0,none⟩=some (.slice ca c.l.length cc):=ad (HENX.out _ HB1.out).1 0;have x1:W1.cell? ⟨Bc,1,none⟩=some (.int .u64 (c.keep:Nat)):=ad (HENX.out _ HB1.out).1 1;have x2:W1.cell? ⟨Bc,2,none⟩=some (.int .i64 c.nb):=ad (HENX.out _ HB1.out).1 2;have x3:W1.cell? ⟨Bc,3,none⟩=some (.slice da c.ds.length dc):=ad (HENX.out _ HB1.out).1 3;have x4:W1.cell? ⟨Bc,4,none⟩=some (.int .i64 c.pol):=ad (HENX.out _ HB1.out).1 4;have HLC:=qI (JS c (.slice ca c.l.length cc) (.slice da c.ds.length dc) g o W1 (H1.out.below (HENX.out _ HB1.out).2) (H2.out.below (HENX.out _ HB1.out).2));unfold jp at HLC
 go_wp2_with fail
 refine HLC.out.mono ?_;rintro e W2 ⟨⟨b,rfl⟩,hb2⟩;have HB2:=qI (HB1.out.trans (hb2.mono HB1.out.size));clear hb2 x0 x1 x2 x3 x4 HLC HB1
 rcases two b with rfl|rfl
 rotate_left
 ·go_wp2_with fail
  go_ret;exact ⟨rfl,(HENX.out _ HB2.out).2⟩
 have HLF:=qI (H9 (.slice aa xs.length axc) xs 25 W2 (HXA.out.below (HENX.out _ HB2.out).2))
 go_wp2_with fail
 refine HLF.out.mono ?_;rintro e W3 ⟨⟨b,rfl,hfew⟩,hb3⟩;have HB3:=qI (HB2.out.trans (hb3.mono HB2.out.size));have HFEW:=qI hfew;clear hb3 HLF hfew HB2
 rcases two b with rfl|rfl
 rotate_left
 ·go_wp2_with fail
  go_ret;exact ⟨rfl,(HENX.out _ HB3.out).2⟩
 have hps:xs.length<=25:=by have:=(HFEW.out rfl).1;omega
 have HLT:=qI (HFEW.out rfl).2;clear HFEW;have x0:W3.cell? ⟨Bc,0,none⟩=some (.slice ca c.l.length cc):=ad (HENX.out _ HB3.out).1 0;have x1:W3.cell? ⟨Bc,1,none⟩=some (.int .u64 (c.keep:Nat)):=ad (HENX.out _ HB3.out).1 1;have x2:W3.cell? ⟨Bc,2,none⟩=some (.int .i64 c.nb):=ad (HENX.out _ HB3.out).1 2;have x3:W3.cell? ⟨Bc,3,none⟩=some (.slice da c.ds.length dc):=ad (HENX.out _ HB3.out).1 3;have x4:W3.cell? ⟨Bc,4,none⟩=some (.int .i64 c.pol):=ad (HENX.out _ HB3.out).1 4;have HBO:=qI (wn c (.slice ca c.l.length cc) (.slice da c.ds.length dc) g o W3 (H1.out.below (HENX.out _ HB3.out).2) (H2.out.below (HENX.out _ HB3.out).2) hk (HT.out.below (HENX.out _ HB3.out).2) (HM.out.below (HENX.out _ HB3.out).2))
 go_wp2_with fail
 clear x0 x1 x2 x3 x4;refine HBO.out.mono ?_;rintro e W5 ⟨hbad,hgood,hout⟩;have HB5:=qI ((HENX.out _ HB3.out).2.trans (hout.mono (HENX.out _ HB3.out).2.size));have hw3:=(HENX.out _ HB3.out).2.size
 by_cases hcf:Ol.bZ c=0
 rotate_left
 ·obtain ⟨bp,bq,rfl⟩:=hbad hcf;clear hbad hgood hout hcf HBO;have HB6:=qI (HB5.out.alloc HB5.out.size (.cells #[.pointer bp,.pointer bq,.pointer none] 36))
  go_wp2_with fail
  go_ret;exact ⟨rfl,HB6.out⟩
 obtain ⟨Ba,Bd,Be,Bm,rfl,hM1,l1,l2,l3,l4,hpn⟩:=hgood hcf;have HM1:=qI hM1;have HPN:=qI hpn;have HNB:=qI (Kb hcf);clear hbad hgood hout hM1 hcf HBO hpn;have HB6:=qI (HB5.out.alloc HB5.out.size (.cells #[.pointer (some ⟨Bd,0,none⟩),.pointer (some ⟨Be,0,none⟩),.pointer (some ⟨Ba,0,none⟩)] 36));have HG6:=qI ((Below.refl W5.heap.size W5).alloc (lR) (.cells #[.pointer (some ⟨Bd,0,none⟩),.pointer (some ⟨Be,0,none⟩),.pointer (some ⟨Ba,0,none⟩)] 36));have HX6:=qI (aH W5 (.cells #[.pointer (some ⟨Bd,0,none⟩),.pointer (some ⟨Be,0,none⟩),.pointer (some ⟨Ba,0,none⟩)] 36) rfl);obtain ⟨Bk,hBk⟩:∃ Bk,Bk=W5.heap.size:=⟨_,rfl⟩;rw [<- hBk] at HX6
 go_wp2_with fail
 rw [<- hBk];generalize W5.alloc (.cells #[.pointer (some ⟨Bd,0,none⟩),.pointer (some ⟨Be,0,none⟩),.pointer (some ⟨Ba,0,none⟩)] 36)=Y at *;obtain ⟨⟨a1,a2,a3⟩,a4⟩:=HM1.out.lts;have HLW:Hid ((w.heap.size<=Ba/\w.heap.size<=Bd/\w.heap.size<=Bm)/\Bk≠Ba/\Bk≠Bd/\Bk≠Bm):=⟨⟨by omega,by omega,by omega⟩,by omega,by omega,by omega⟩;have HPY:Hid (cA w.heap.size Y Ba):=(HM1.out.poolKeep HG6.out HPN.out).less hw3;have HMY:Hid (av Y iu Ba Bd Be Bm ⟨Ol.cK c,c.ds,[]⟩ Dk.fresh 0):=HM1.out.keep HG6.out;have HOW:Hid (∀ W,Below w.heap.size w W->bE W/\aG w (ag (four iu Ba Bd Bm) W)/\∀ W',Apart (three Ba Bd Bm) W W'->bE W'):=λW hb=>Kc HT.out HLW.out.1 hb
 clear hBk a1 a2 a3 a4 l1 l2 l3 l4 hw3 HM1 HPN HG6 HB5 hXc
 go_wp2_with fail
 go_loopw [7] (λi W=>∃ k:Nat,k<=xs.length/\i=.int .i64 k/\Below w.heap.size w W/\W.heap[Bk]?=some (.cells #[.pointer (some ⟨Bd,0,none⟩),.pointer (some ⟨Be,0,none⟩),.pointer (some ⟨Ba,0,none⟩)] 36)/\cA w.heap.size W Ba/\∃ t dk n,n<=3*k/\t.m=Ol.cK c/\Ol.room t.m (t.hs.map Hd.pod)=true/\av W iu Ba Bd Be Bm t dk n) (λi _=>xs.length - (intOf i).toNat)
 case atStart=>exact ⟨0,Nat.zero_le _,rfl,HB6.out,HX6.out,HPY.out,_,_,0,lR,rfl,wm HNB.out,HMY.out⟩
 case round=>
  obtain ⟨k,hkl,rfl,hbw,hbk,hpw,t,dk,n,hn,htm,hro,hMr⟩:=hrel;have HBW:=qI hbw;have HBK:=qI hbk;have HPW:=qI hpw;have HMR:=qI hMr;have HRO:=qI hro;have HTM:=qI htm;clear hbw hbk hpw hMr hro htm
  by_cases hlt:k<xs.length
  ·obtain ⟨ab,ai,rfl,habl,hcs⟩:=HXR.out (by omega);obtain ⟨hc,hok⟩:=hcs k hlt;have hfu:=HLT.out k hlt;generalize ac xs k=x at *;obtain ⟨la,ll,lc,hlv⟩:=hok.l;obtain ⟨pa,pcc,hcv,_⟩:=id hok.c;obtain ⟨ua,uc,huv,_⟩:=id hok.u;have hokc:=hok.c;have hoku:=hok.u;rw [hcv] at hokc;rw [huv] at hoku;have hcx:∀ j,j<10->w.cell? ⟨ab,ai+k*10+j,none⟩=([.string x.kd,.string x.s,.int .i64 x.a,.int .i64 x.b,.int .u8 x.m,.slice la ll lc,.string x.p.nm,.int .i64 x.p.pr,.slice pa x.p.cs.length pcc,.slice ua x.us.length uc]:List Value)[j]?:=by
    rw [<- hlv,<- hcv,<- huv];exact hc
   have HCX:=qI hcx;have HQC:=qI hokc;have HQU:=qI hoku;have HFU:=qI hfu;have hm1:=hok.a.1;have hm2:=hok.a.2;clear hc hok hcs hlv hcv huv hokc hoku hcx hfu;have HSB:Hid (∀ W,(Below w.heap.size w W/\W.heap[Bk]?=some (.cells #[.pointer (some ⟨Bd,0,none⟩),.pointer (some ⟨Be,0,none⟩),.pointer (some ⟨Ba,0,none⟩)] 36))->(λw':World=>(w'.cell? ⟨Bk,0,none⟩=some (.pointer (some ⟨Bd,0,none⟩))/\w'.cell? ⟨Bk,1,none⟩=some (.pointer (some ⟨Be,0,none⟩))/\w'.cell? ⟨Bk,2,none⟩=some (.pointer (some ⟨Ba,0,none⟩)))/\w'.cell? ⟨ab,ai+k*10,none⟩=some (.string x.kd)/\w'.cell? ⟨ab,ai+k*10+1,none⟩=some (.string x.s)/\w'.cell? ⟨ab,ai+k*10+2,none⟩=some (.int .i64 x.a)/\w'.cell? ⟨ab,ai+k*10+3,none⟩=some (.int .i64 x.b)/\w'.cell? ⟨ab,ai+k*10+4,none⟩=some (.int .u8 x.m)/\w'.cell? ⟨ab,ai+k*10+5,none⟩=some (.slice la ll lc)/\w'.cell? ⟨ab,ai+k*10+6,none⟩=some (.string x.p.nm)/\w'.cell? ⟨ab,ai+k*10+7,none⟩=some (.int .i64 x.p.pr)/\w'.cell? ⟨ab,ai+k*10+8,none⟩=some (.slice pa x.p.cs.length pcc)/\w'.cell? ⟨ab,ai+k*10+9,none⟩=some (.slice ua x.us.length uc)) W):=λW he=>by
    have hcc:∀ j,j<10->W.cell? ⟨ab,ai+k*10+j,none⟩=([.string x.kd,.string x.s,.int .i64 x.a,.int .i64 x.b,.int .u8 x.m,.slice la ll lc,.string x.p.nm,.int .i64 x.p.pr,.slice pa x.p.cs.length pcc,.slice ua x.us.length uc]:List Value)[j]?:=λj hj=>(he.1.cell (p:=⟨ab,_,none⟩) habl).trans (HCX.out j hj)
    exact ⟨⟨ad he.2 0,ad he.2 1,ad he.2 2⟩,hcc 0 (by decide),hcc 1 (by decide),hcc 2 (by decide),hcc 3 (by decide),hcc 4 (by decide),hcc 5 (by decide),hcc 6 (by decide),hcc 7 (by decide),hcc 8 (by decide),hcc 9 (by decide)⟩
   go_upto_region 12 with fail
   have HEd:Hid (Below w.heap.size w wr.drew/\wr.drew.heap[Bk]?=some (.cells #[.pointer (some ⟨Bd,0,none⟩),.pointer (some ⟨Be,0,none⟩),.pointer (some ⟨Ba,0,none⟩)] 36)):=⟨bd HBW.out,HBK.out⟩;have HMd:Hid (av wr.drew iu Ba Bd Be Bm t dk n):=HMR.out.keep (bd (Below.refl _ _));have HPd:Hid (cA w.heap.size wr.drew Ba):=HMR.out.poolKeep (bd (Below.refl _ _)) HPW.out;refine wp_region_held_drew (S:=(λw':World=>(w'.cell? ⟨Bk,0,none⟩=some (.pointer (some ⟨Bd,0,none⟩))/\w'.cell? ⟨Bk,1,none⟩=some (.pointer (some ⟨Be,0,none⟩))/\w'.cell? ⟨Bk,2,none⟩=some (.pointer (some ⟨Ba,0,none⟩)))/\w'.cell? ⟨ab,ai+k*10,none⟩=some (.string x.kd)/\w'.cell? ⟨ab,ai+k*10+1,none⟩=some (.string x.s)/\w'.cell? ⟨ab,ai+k*10+2,none⟩=some (.int .i64 x.a)/\w'.cell? ⟨ab,ai+k*10+3,none⟩=some (.int .i64 x.b)/\w'.cell? ⟨ab,ai+k*10+4,none⟩=some (.int .u8 x.m)/\w'.cell? ⟨ab,ai+k*10+5,none⟩=some (.slice la ll lc)/\w'.cell? ⟨ab,ai+k*10+6,none⟩=some (.string x.p.nm)/\w'.cell? ⟨ab,ai+k*10+7,none⟩=some (.int .i64 x.p.pr)/\w'.cell? ⟨ab,ai+k*10+8,none⟩=some (.slice pa x.p.cs.length pcc)/\w'.cell? ⟨ab,ai+k*10+9,none⟩=some (.slice ua x.us.length uc))) (by kernel_rfl) (HSB.out _ HEd.out) (λhHeld=>?_);generalize wr.drew=V at *;refine tk 0 ?_;refine tk 1 ?_;refine tk 2 ?_;refine tk 3 ?_;refine tk 4 ?_;refine rd 5 (λK hK=>?_);go_simp
   go_wp2_with fail
   refine (Ka HMd.out (HQC.out.le (HOW.out V HEd.out.1).2.1) (HQU.out.below HEd.out.1) HFU.out hm1 hm2 (by omega) (HOW.out V HEd.out.1).2.2).mono ?_;rintro e V2 ⟨f,t2,rfl,hst,⟨dk2,n2,hn2,hM2⟩,ha2,hpn2⟩;have HE2:=qI (Kd HMd.out HPd.out HLW.out HEd.out.1 HEd.out.2 ha2 (ad HEd.out.2 0));have HM2:=qI hM2;have HP2:=qI (hpn2 w.heap.size HEd.out.1.size HPd.out);have HR2:=qI (Ke HMd.out.inv HRO.out hst);have HT2:Hid (t2.m=Ol.cK c):=hst.m.trans HTM.out;have hn3:n2<=3*(k+1):=by omega
   clear hM2 ha2 hpn2 hst hn2
   go_wp2_with fail
   refine hK.out _ _ (HSB.out _ HE2.out) (λhHeld=>?_);clear hK K;refine wpAnyH_done (by kernel_rfl) ?_ _;clear hHeld
   go_wp2_with fail
   go_roundw
   case rel=>exact ⟨k+1,by omega,by go_num,HE2.out.1,HE2.out.2,HP2.out,t2,dk2,n2,hn3,HT2.out,HR2.out,HM2.out⟩
   case measure=>simp [intOf];omega
  ·have z2:wr.cell? ⟨Bk,2,none⟩=some (.pointer (some ⟨Ba,0,none⟩)):=ad HBK.out 2
   go_wp2_with fail
   refine (J1 HMR.out).mono ?_;rintro e U ⟨a8,c8,rfl,hh8,hb8⟩;have HBU:=qI (HBW.out.trans (hb8.mono HBW.out.size));have HKU:=qI ((hb8.block Bk (gS HBK.out).1).trans HBK.out);have HMU:=qI (HMR.out.keep hb8);have HH8:Hid (aN U (.slice a8 t.hs.length c8) t.hs):=hh8.le (ch _ _);have hl12:t.hs.length<=12:=(Ol.bX.1 HMR.out.inv.held).1;have HPF:Hid (∀ x∈t.hs,ah x.pod=0):=J3 HMR.out.inv;obtain ⟨hs,hhs⟩:∃ hs,hs=t.hs:=⟨_,rfl⟩;have HEN:Hid (∀ s,Ol.left t.m t.ds t.hs=some s->Ol.fq hs<=1000*(Ost.cnt s.cp:Int)/\s.cp<18446744073709551616):=λs hl=>⟨by rw [hhs];exact Ol.EZ HMR.out.inv HRO.out hl,Kf HMR.out hl⟩
   rw [<- hhs] at HH8 hl12 HPF;clear hh8 hb8 z2 hlt hkl hn HMR HBK HBW HPW HRO HTM;(try dsimp only);rw [<- hhs];clear hhs
   go_wp2_with fail
   go_loopw [9,10] (λmi i W=>∃ k:Nat,k<=hs.length/\mi=.int .i64 (Ol.fq (hs.take k))/\i=.int .i64 k/\Below U.heap.size U W) (λ_ i _=>hs.length - (intOf i).toNat)
   case atStart=>exact ⟨0,Nat.zero_le _,rfl,rfl,Below.refl _ _⟩
   case round=>
    obtain ⟨i,hil,rfl,rfl,hby⟩:=hrel;have HBY:=qI hby;clear hby
    by_cases hli:i<hs.length
    ·obtain ⟨ao,hc',hv',hm',hr'⟩:=id HH8.out;obtain ⟨hb,ho,cvv,gvv,hao,hin⟩:=hr' (by omega);have hao':a8=some ⟨hb,ho,none⟩:=by injection hv' with e1 e2 e3;rw [e1];exact hao
     obtain ⟨hbl,hin2⟩:=hin;obtain ⟨⟨q0,q1,q2,q3⟩,hcon,hgiv⟩:=hin2 i hli;clear hgiv;obtain ⟨pa,pcc,hcv,hpm,hpr⟩:=id hcon;rw [hcv] at q2 hcon;have hxm:hd hs i∈hs:=Sv.jl hli;have hpo:=HPF.out _ hxm;have HFI:=qI (Ol.um HPF.out hl12 i hil);have HFN:=qI (Ol.ul hli);clear hv' hm' hr' hin2 q3 hao hxm gvv ao hc' hcv;subst hao';have HQ:=qI (show U.cell? ⟨hb,ho+i*4,none⟩=some (.string (hd hs i).pod.nm)/\U.cell? ⟨hb,ho+i*4+1,none⟩=some (.int .i64 (hd hs i).pod.pr)/\U.cell? ⟨hb,ho+i*4+2,none⟩=some (.slice pa (hd hs i).pod.cs.length pcc) from ⟨q0,q1,q2⟩);have HCON:=qI hcon;have HPR:=qI hpr;clear q0 q1 q2 hcon hpr;generalize (hd hs i).pod=q at *;have HML:=qI (Qos.jh hpo);have hq3:q.cs.length<=3:=HML.out.1;clear hpo hpm;generalize Ol.fq (hs.take i)=FA at *;have hfa1:=HFI.out.1;have hfa2:=HFI.out.2
     go_wp2_with fail
     go_loopw [9,11] (λmi j W=>∃ k:Nat,k<=q.cs.length/\mi=.int .i64 (FA+Ol.eH q.cs k)/\j=.int .i64 k/\Below U.heap.size U W) (λ_ j _=>q.cs.length - (intOf j).toNat)
     case atStart=>exact ⟨0,Nat.zero_le _,by show _=Value.int .i64 (FA+0);rw [Int.add_zero],rfl,HBY.out⟩
     case round=>
      obtain ⟨j,hjl,rfl,rfl,hbz⟩:=hrel;have HBZ:=qI hbz;clear hbz;have x2:wr.cell? ⟨hb,ho+i*4+2,none⟩=some (.slice pa q.cs.length pcc):=(HBZ.out.cell (p:=⟨hb,_,none⟩) hbl).trans HQ.out.2.2
      by_cases hlj:j<q.cs.length
      rotate_left
      ·have hje:j=q.cs.length:=by omega
       subst hje;have HX:Hid (FA+Ol.eH q.cs q.cs.length=Ol.fq (hs.take (i+1))):=HFN.out.symm
       go_wp2_with fail
       go_roundw
       case rel=>exact ⟨i+1,by omega,by rw [HX.out],by go_num,HBZ.out⟩
       case measure=>simp [intOf];omega
      obtain ⟨gb,go',dvv,hqa,hin⟩:=HPR.out (by omega);subst hqa;obtain ⟨na,nc,hnv,_⟩:=(hin.2 j hlj).2;have hin0:=hin;have hab:0<=(ct q.cs j).am/\(ct q.cs j).am<=1000000:=(HML.out.2 j hlj).1;have hfm:=Ol.uk HML.out j hjl;have HFM:Hid (Ol.eH q.cs (j+1)=Ol.eH q.cs j+(if aF q.cs (ct q.cs j).am=0 then (ct q.cs j).am else 0)):=rfl;obtain ⟨x,hx⟩:∃ x,x=ct q.cs j:=⟨_,rfl⟩;rw [<- hx] at hab HFM;have HSX:Hid (∀ W,Below U.heap.size U W->(λw':World=>(w'.cell? ⟨hb,ho+i*4,none⟩=some (.string q.nm)/\w'.cell? ⟨hb,ho+i*4+1,none⟩=some (.int .i64 q.pr)/\w'.cell? ⟨hb,ho+i*4+2,none⟩=some (.slice (some ⟨gb,go',none⟩) q.cs.length pcc))/\w'.cell? ⟨gb,go'+j*6,none⟩=some (.string x.nm)/\w'.cell? ⟨gb,go'+j*6+1,none⟩=some (.int .i64 x.am)/\w'.cell? ⟨gb,go'+j*6+2,none⟩=some (.int .i64 x.ab)/\w'.cell? ⟨gb,go'+j*6+3,none⟩=some (.int .i64 x.cm)/\w'.cell? ⟨gb,go'+j*6+4,none⟩=some (.int .i64 x.cb)/\w'.cell? ⟨gb,go'+j*6+5,none⟩=some (.slice na x.ds.length nc)) W):=λW hbb=>by
       have hin':=hin0.below hbb;obtain ⟨c0,c1,c2,c3,c4,c5⟩:=hin'.at hlj;rw [hnv] at c5;rw [hx];exact ⟨⟨(hbb.cell (p:=⟨hb,_,none⟩) hbl).trans HQ.out.1,(hbb.cell (p:=⟨hb,_,none⟩) hbl).trans HQ.out.2.1,(hbb.cell (p:=⟨hb,_,none⟩) hbl).trans HQ.out.2.2⟩,c0,c1,c2,c3,c4,c5⟩
      have HOWN:Hid (∀ W,Below U.heap.size U W->Calls Tryz.prog 16 #[.agg #[.string q.nm,.int .i64 q.pr,.slice (some ⟨gb,go',none⟩) q.cs.length pcc],.agg #[.string x.nm,.int .i64 x.am,.int .i64 x.ab,.int .i64 x.cm,.int .i64 x.cb,.slice na x.ds.length nc]] W λe w'=>e=.returned (.int .i64 (aF q.cs x.am))/\Below W.heap.size W w'):=λW hbb=>kC q _ x na x.ds.length nc W (HCON.out.below hbb) hab.1 hab.2
      clear hin hin0 hnv hx;generalize aF q.cs x.am=ow at *;generalize Ol.eH q.cs j=fm at *
      go_upto_region 21 with fail
      clear x2
      by_cases how:ow=0
      ·have HF2:Hid (Ol.eH q.cs (j+1)=fm+x.am):=by unfold Hid;rw [HFM.out,if_pos how]
       subst how;have HBd:Hid (Below U.heap.size U wr.drew):=bd HBZ.out;refine wp_region_held_drew (S:=(λw':World=>(w'.cell? ⟨hb,ho+i*4,none⟩=some (.string q.nm)/\w'.cell? ⟨hb,ho+i*4+1,none⟩=some (.int .i64 q.pr)/\w'.cell? ⟨hb,ho+i*4+2,none⟩=some (.slice (some ⟨gb,go',none⟩) q.cs.length pcc))/\w'.cell? ⟨gb,go'+j*6,none⟩=some (.string x.nm)/\w'.cell? ⟨gb,go'+j*6+1,none⟩=some (.int .i64 x.am)/\w'.cell? ⟨gb,go'+j*6+2,none⟩=some (.int .i64 x.ab)/\w'.cell? ⟨gb,go'+j*6+3,none⟩=some (.int .i64 x.cm)/\w'.cell? ⟨gb,go'+j*6+4,none⟩=some (.int .i64 x.cb)/\w'.cell? ⟨gb,go'+j*6+5,none⟩=some (.slice na x.ds.length nc))) (by kernel_rfl) (HSX.out _ HBd.out) (λhHeld=>?_);generalize wr.drew=V at *;refine tk 0 ?_;refine tk 1 ?_;refine tk 2 ?_;refine tk 3 ?_;refine tk 4 ?_;refine tk 5 ?_;refine tk 6 ?_;refine tk 7 ?_;refine tk 8 ?_;refine tk 9 ?_;refine tk 10 ?_;refine tk 11 ?_;refine tk 12 ?_;refine tk 13 ?_;refine rd 14 (λK hK=>?_);go_simp
       go_wp2_with fail
       refine (HOWN.out V HBd.out).mono ?_;rintro e V2 ⟨rfl,hb2⟩;have HB2:=qI (HBd.out.trans (hb2.mono HBd.out.size));clear hb2
       go_wp2_with fail
       refine hK.out _ _ (HSX.out _ HB2.out) (λhHeld=>?_);clear hK K;refine tk 15 ?_;refine wpAnyH_done (by kernel_rfl) ?_ _;clear hHeld;obtain ⟨⟨_,_,x2⟩,_,x3,_⟩:=HSX.out _ HB2.out;have hadd:wrap64 (FA+fm+x.am)=FA+(fm+x.am):=by unfold wrap64;omega
       go_wp2_with fail
       go_roundw
       case rel=>exact ⟨j+1,by omega,by rw [HF2.out];go_num,by go_num,HB2.out⟩
       case measure=>simp [intOf];omega
      ·have HF2:Hid (Ol.eH q.cs (j+1)=fm):=by unfold Hid;rw [HFM.out,if_neg how,Int.add_zero]
       have how':(ow == 0)=false:=by rw [beq_eq_false_iff_ne];exact how
       have HBd:Hid (Below U.heap.size U wr.drew):=bd HBZ.out;refine wp_region_held_drew (S:=(λw':World=>(w'.cell? ⟨hb,ho+i*4,none⟩=some (.string q.nm)/\w'.cell? ⟨hb,ho+i*4+1,none⟩=some (.int .i64 q.pr)/\w'.cell? ⟨hb,ho+i*4+2,none⟩=some (.slice (some ⟨gb,go',none⟩) q.cs.length pcc))/\w'.cell? ⟨gb,go'+j*6,none⟩=some (.string x.nm)/\w'.cell? ⟨gb,go'+j*6+1,none⟩=some (.int .i64 x.am)/\w'.cell? ⟨gb,go'+j*6+2,none⟩=some (.int .i64 x.ab)/\w'.cell? ⟨gb,go'+j*6+3,none⟩=some (.int .i64 x.cm)/\w'.cell? ⟨gb,go'+j*6+4,none⟩=some (.int .i64 x.cb)/\w'.cell? ⟨gb,go'+j*6+5,none⟩=some (.slice na x.ds.length nc))) (by kernel_rfl) (HSX.out _ HBd.out) (λhHeld=>?_);generalize wr.drew=V at *;refine tk 0 ?_;refine tk 1 ?_;refine tk 2 ?_;refine tk 3 ?_;refine tk 4 ?_;refine tk 5 ?_;refine tk 6 ?_;refine tk 7 ?_;refine tk 8 ?_;refine tk 9 ?_;refine tk 10 ?_;refine tk 11 ?_;refine tk 12 ?_;refine tk 13 ?_;refine rd 14 (λK hK=>?_);go_simp
       go_wp2_with fail
       refine (HOWN.out V HBd.out).mono ?_;rintro e V2 ⟨rfl,hb2⟩;have HB2:=qI (HBd.out.trans (hb2.mono HBd.out.size));clear hb2
       go_wp2_with fail
       refine hK.out _ _ (HSX.out _ HB2.out) (λhHeld=>?_);clear hK K;refine tk 15 ?_;refine wpAnyH_done (by kernel_rfl) ?_ _;clear hHeld
       go_wp2_with fail
       go_roundw
       case rel=>exact ⟨j+1,by omega,by rw [HF2.out],by go_num,HB2.out⟩
       case measure=>simp [intOf];omega
    ·have hie:i=hs.length:=by omega
     subst hie;rw [List.take_length];have HBX:=qI (HBU.out.trans (HBY.out.mono HBU.out.size));have HMX:=qI (HMU.out.keep HBY.out);have z2:wr.cell? ⟨Bk,2,none⟩=some (.pointer (some ⟨Ba,0,none⟩)):=ad ((HBY.out.block Bk (gS HKU.out).1).trans HKU.out) 2;have hfa:=Ol.um HPF.out hl12 hs.length (lR);rw [List.take_length] at hfa
     go_wp2_with fail
     refine (J2 HMX.out).mono ?_;rintro e W6 ⟨⟨s,hsl,rfl⟩,rfl⟩;obtain ⟨he1,he2⟩:=HEN.out s hsl;clear hsl z2;generalize Ol.fq hs=FA at *;have h64:=Ol.ug s.cp;have HCT:Hid (∀ W,Calls Tryz.prog 17 #[.int .u64 (s.cp:Nat)] W λe w'=>e=.returned (.int .i64 (Ost.cnt s.cp:Nat))/\w'=W):=λW=>fO s.cp W he2
     obtain ⟨q,hq⟩:∃ q,q=Ost.cnt s.cp:=⟨_,rfl⟩;rw [<- hq] at HCT he1 h64;clear hq;have hd1:decide (FA<=1000*(q:Int))=true:=decide_eq_true he1;have hmul:IntKind.i64.wrap (1000*(q:Int))=1000*(q:Int):=by rw [IntKind.wrap_i64];omega
     go_wp2_with fail
     refine (HCT.out _).mono ?_;rintro e W7 ⟨rfl,rfl⟩
     go_wp2_with fail
     go_ret;exact ⟨rfl,HBX.out⟩
end
end Go.Proofs.YtbmmnflgnmjboaaGreatDoor
