import Derived.Test.YtbmmnflgnmjboaaGreatDoorK37
set_option maxRecDepth 100000
set_option maxHeartbeats 16000000
namespace Go.Proofs.YtbmmnflgnmjboaaGreatDoor
section
open RowKit Shelf
open Ost (Cpu ae af)
open Qos (Nd Ct Pd nd ct pd ah aH)
open Sv (Gv Hd gv hd gsF az aF)
open Dvs (Dv dv aT)
open S1 (Mx)
attribute [local go_sem] Oper.semAt_some
abbrev Lq:=λ(Bk Bd Be Ba ab ai k:Nat) (x:Ac) (la:Option Addr) (ll lc:Nat) (pa:Option Addr) (pcc:Nat) (ua:Option Addr) (uc:Nat) (w':World)=>(w'.cell? ⟨Bk,0,none⟩=some (.pointer (some ⟨Bd,0,none⟩))/\w'.cell? ⟨Bk,1,none⟩=some (.pointer (some ⟨Be,0,none⟩))/\w'.cell? ⟨Bk,2,none⟩=some (.pointer (some ⟨Ba,0,none⟩)))/\w'.cell? ⟨ab,ai+k*10,none⟩=some (.string x.kd)/\w'.cell? ⟨ab,ai+k*10+1,none⟩=some (.string x.s)/\w'.cell? ⟨ab,ai+k*10+2,none⟩=some (.int .i64 x.a)/\w'.cell? ⟨ab,ai+k*10+3,none⟩=some (.int .i64 x.b)/\w'.cell? ⟨ab,ai+k*10+4,none⟩=some (.int .u8 x.m)/\w'.cell? ⟨ab,ai+k*10+5,none⟩=some (.slice la ll lc)/\w'.cell? ⟨ab,ai+k*10+6,none⟩=some (.string x.p.nm)/\w'.cell? ⟨ab,ai+k*10+7,none⟩=some (.int .i64 x.p.pr)/\w'.cell? ⟨ab,ai+k*10+8,none⟩=some (.slice pa x.p.cs.length pcc)/\w'.cell? ⟨ab,ai+k*10+9,none⟩=some (.slice ua x.us.length uc)
theorem Lr (c:Ol.Cf) (v1 v2:Value) (g o:Nat) (xs:List Ac) (va:Value) (w:World) (h1:eN w v1 c.l) (h2:bS w v2 g o c.ds) (hk:c.keep<18446744073709551616) (hx:jH w va xs) (ht:bE w) (hm:Mx w) :
  Calls Tryz.prog 5 #[jw c v1 v2,va] w λe w'=>e=.returned (.bool true)/\Below w.heap.size w w':=by
 obtain ⟨ca,cc,hv1⟩:∃ ca cc,v1=.slice ca c.l.length cc:=by
  rcases id h1 with ⟨hl,ao,q,rfl⟩|⟨b,o,q,rfl,_⟩
  ·exact ⟨ao,q,by rw [hl];rfl⟩
  ·exact ⟨_,q,rfl⟩
 obtain ⟨da,dc,hv2⟩:∃ da dc,v2=.slice da c.ds.length dc:=by
  obtain ⟨da,dc,e,_⟩:=id h2;exact ⟨da,dc,e⟩
 have HXA:=qI hx;obtain ⟨aa,axc,hva,hxm,hxr⟩:=hx;subst hv1 hv2 hva;have HXR:=qI hxr;have H1:=qI h1;have H2:=qI h2;have HT:=qI ht;have HM:=qI hm;have hgl:0<w.heap.size:=ht.2;clear h1 h2 ht hm hxm hxr;unfold jw;have HB0:=qI ((Q0 w.heap.size w).alloc (lR) (.cells #[.slice ca c.l.length cc,.int .u64 (c.keep:Nat),.int .i64 c.nb,.slice da c.ds.length dc,.int .i64 c.pol] 27));obtain ⟨Bc,hBc⟩:∃ Bc,Bc=w.heap.size:=⟨_,rfl⟩;have HXC:Hid ((w.alloc (.cells #[.slice ca c.l.length cc,.int .u64 (c.keep:Nat),.int .i64 c.nb,.slice da c.ds.length dc,.int .i64 c.pol] 27)).heap[Bc]?=some (.cells #[.slice ca c.l.length cc,.int .u64 (c.keep:Nat),.int .i64 c.nb,.slice da c.ds.length dc,.int .i64 c.pol] 27)):=by
  unfold Hid;rw [hBc];exact aG w (.cells #[.slice ca c.l.length cc,.int .u64 (c.keep:Nat),.int .i64 c.nb,.slice da c.ds.length dc,.int .i64 c.pol] 27) rfl
 go_enter Tryz.func5,Tryz.ntmps5
 go_wp2_with fail
 rw [<- hBc];generalize (w.alloc (.cells #[.slice ca c.l.length cc,.int .u64 (c.keep:Nat),.int .i64 c.nb,.slice da c.ds.length dc,.int .i64 c.pol] 27))=X at *;clear hBc;refine (KP X (HT.out.below HB0.out) (HM.out.below HB0.out)).mono ?_;rintro e W1 ⟨rfl,hb1⟩;have hXc:Bc<X.heap.size:=(gS HXC.out).1;have HENX:Hid (∀ W,Below X.heap.size X W->W.heap[Bc]?=some (.cells #[.slice ca c.l.length cc,.int .u64 (c.keep:Nat),.int .i64 c.nb,.slice da c.ds.length dc,.int .i64 c.pol] 27)/\Below w.heap.size w W):=λW hb=>⟨(hb.block Bc hXc).trans HXC.out,HB0.out.trans (hb.mono HB0.out.size)⟩
 have HB1:=qI hb1;clear hb1 HXC;have x0:W1.cell? ⟨Bc,0,none⟩=some (.slice ca c.l.length cc):=ad (HENX.out _ HB1.out).1 0;have x1:W1.cell? ⟨Bc,1,none⟩=some (.int .u64 (c.keep:Nat)):=ad (HENX.out _ HB1.out).1 1;have x2:W1.cell? ⟨Bc,2,none⟩=some (.int .i64 c.nb):=ad (HENX.out _ HB1.out).1 2;have x3:W1.cell? ⟨Bc,3,none⟩=some (.slice da c.ds.length dc):=ad (HENX.out _ HB1.out).1 3;have x4:W1.cell? ⟨Bc,4,none⟩=some (.int .i64 c.pol):=ad (HENX.out _ HB1.out).1 4;have HLC:=qI (KL c (.slice ca c.l.length cc) (.slice da c.ds.length dc) g o W1 (H1.out.below (HENX.out _ HB1.out).2) (H2.out.below (HENX.out _ HB1.out).2));unfold jw at HLC
 go_wp2_with fail
 refine HLC.out.mono ?_;rintro e W2 ⟨⟨b,rfl⟩,hb2⟩;have HB2:=qI (HB1.out.trans (hb2.mono HB1.out.size));clear hb2 x0 x1 x2 x3 x4 HLC HB1
 rcases two b with rfl|rfl
 rotate_left
 ·go_wp2
  go_ret;exact ⟨rfl,(HENX.out _ HB2.out).2⟩
 have HLF:=qI (IZ (.slice aa xs.length axc) xs 25 W2 (HXA.out.below (HENX.out _ HB2.out).2))
 go_wp2_with fail
 refine HLF.out.mono ?_;rintro e W3 ⟨⟨b,rfl,hfew⟩,hb3⟩;have HB3:=qI (HB2.out.trans (hb3.mono HB2.out.size));have HFEW:=qI hfew;clear hb3 HLF hfew HB2
 rcases two b with rfl|rfl
 rotate_left
 ·go_wp2
  go_ret;exact ⟨rfl,(HENX.out _ HB3.out).2⟩
 have hps:xs.length<=25:=by have:=(HFEW.out rfl).1;omega
 have HLT:=qI (HFEW.out rfl).2;clear HFEW;have x0:W3.cell? ⟨Bc,0,none⟩=some (.slice ca c.l.length cc):=ad (HENX.out _ HB3.out).1 0;have x1:W3.cell? ⟨Bc,1,none⟩=some (.int .u64 (c.keep:Nat)):=ad (HENX.out _ HB3.out).1 1;have x2:W3.cell? ⟨Bc,2,none⟩=some (.int .i64 c.nb):=ad (HENX.out _ HB3.out).1 2;have x3:W3.cell? ⟨Bc,3,none⟩=some (.slice da c.ds.length dc):=ad (HENX.out _ HB3.out).1 3;have x4:W3.cell? ⟨Bc,4,none⟩=some (.int .i64 c.pol):=ad (HENX.out _ HB3.out).1 4;have HBO:=qI (wV c (.slice ca c.l.length cc) (.slice da c.ds.length dc) g o W3 (H1.out.below (HENX.out _ HB3.out).2) (H2.out.below (HENX.out _ HB3.out).2) hk (HT.out.below (HENX.out _ HB3.out).2) (HM.out.below (HENX.out _ HB3.out).2))
 go_wp2_with fail
 clear x0 x1 x2 x3 x4;refine HBO.out.mono ?_;rintro e W5 ⟨hbad,hgood,hout⟩;have HB5:=qI ((HENX.out _ HB3.out).2.trans (hout.mono (HENX.out _ HB3.out).2.size));have hw3:=(HENX.out _ HB3.out).2.size
 by_cases hcf:Ol.b6 c=0
 rotate_left
 ·obtain ⟨bp,bq,rfl⟩:=hbad hcf;clear hbad hgood hout hcf HBO;have HB6:=qI (HB5.out.alloc HB5.out.size (.cells #[.pointer bp,.pointer bq,.pointer none] 36))
  go_wp2
  go_ret;exact ⟨rfl,HB6.out⟩
 obtain ⟨Ba,Bd,Be,Bm,rfl,hM1,l1,l2,l3,l4,hpn⟩:=hgood hcf;have HM1:=qI hM1;have HPN:=qI hpn;have HNB:=qI (K8 hcf);clear hbad hgood hout hM1 hcf HBO hpn;have HB6:=qI (HB5.out.alloc HB5.out.size (.cells #[.pointer (some ⟨Bd,0,none⟩),.pointer (some ⟨Be,0,none⟩),.pointer (some ⟨Ba,0,none⟩)] 36));have HG6:=qI ((Q0 W5.heap.size W5).alloc (lR) (.cells #[.pointer (some ⟨Bd,0,none⟩),.pointer (some ⟨Be,0,none⟩),.pointer (some ⟨Ba,0,none⟩)] 36));have HX6:=qI (aG W5 (.cells #[.pointer (some ⟨Bd,0,none⟩),.pointer (some ⟨Be,0,none⟩),.pointer (some ⟨Ba,0,none⟩)] 36) rfl);obtain ⟨Bk,hBk⟩:∃ Bk,Bk=W5.heap.size:=⟨_,rfl⟩;rw [<- hBk] at HX6
 go_wp2_with fail
 rw [<- hBk];generalize W5.alloc (.cells #[.pointer (some ⟨Bd,0,none⟩),.pointer (some ⟨Be,0,none⟩),.pointer (some ⟨Ba,0,none⟩)] 36)=Y at *;obtain ⟨⟨a1,a2,a3⟩,a4⟩:=HM1.out.lts;have HLW:Hid ((w.heap.size<=Ba/\w.heap.size<=Bd/\w.heap.size<=Bm)/\Bk≠Ba/\Bk≠Bd/\Bk≠Bm):=⟨⟨by omega,by omega,by omega⟩,by omega,by omega,by omega⟩;have HPY:Hid (cz w.heap.size Y Ba):=(HM1.out.poolKeep HG6.out HPN.out).less hw3;have HMY:Hid (av Y iC Ba Bd Be Bm ⟨Ol.cM c,c.ds,[]⟩ Dk.fresh 0):=HM1.out.keep HG6.out;have HOW:Hid (∀ W,Below w.heap.size w W->bE W/\aB w (ag (four iC Ba Bd Bm) W)/\∀ W',Apart (three Ba Bd Bm) W W'->bE W'):=λW hb=>K9 HT.out HLW.out.1 hb
 clear hBk a1 a2 a3 a4 l1 l2 l3 l4 hw3 HM1 HPN HG6 HB5 hXc
 go_wp2_with fail
 refine qv (λm a W=>∃ (k:Nat) (iv:Value),m+k=xs.length/\iv=.int .i64 k/\FrS (λF=>frK (.slice aa xs.length axc) (.pointer (some ⟨Bk,0,none⟩)) (iv) (F 8) (F 9) (F 10) (F 11) (F 12) (F 13) F) (λW=>Below w.heap.size w W/\W.heap[Bk]?=some (.cells #[.pointer (some ⟨Bd,0,none⟩),.pointer (some ⟨Be,0,none⟩),.pointer (some ⟨Ba,0,none⟩)] 36)/\cz w.heap.size W Ba/\∃ t dk n,n<=3*k/\t.m=Ol.cM c/\Ol.room t.m (t.hs.map Hd.pod)=true/\av W iC Ba Bd Be Bm t dk n) a W) xs.length ?_ ?_
 ·exact ⟨0,.int .i64 0,rfl,rfl,FrS.mk (by kernel_rfl) ⟨HB6.out,HX6.out,HPY.out,_,_,0,lR,rfl,wU HNB.out,HMY.out⟩⟩
 ·rintro m a wr ⟨k,iv,hmk,rfl,F7,rfl,hbw,hbk,hpw,t,dk,n,hn,htm,hro,hMr⟩ KK hKK;have hkl:k<=xs.length:=by omega
  unfold frK;(try dsimp only);have HBW:=qI hbw;have HBK:=qI hbk;have HPW:=qI hpw;have HMR:=qI hMr;have HRO:=qI hro;have HTM:=qI htm;clear hbw hbk hpw hMr hro htm
  by_cases hlt:k<xs.length
  ·obtain ⟨ab,ai,rfl,habl,hcs⟩:=HXR.out (by omega);obtain ⟨hc,hok⟩:=hcs k hlt;have hfu:=HLT.out k hlt;generalize ac xs k=x at *;obtain ⟨la,ll,lc,hlv⟩:=hok.l;obtain ⟨pa,pcc,hcv,_⟩:=id hok.c;obtain ⟨ua,uc,huv,_⟩:=id hok.u;have hokc:=hok.c;have hoku:=hok.u;rw [hcv] at hokc;rw [huv] at hoku;have hcx:∀ j,j<10->w.cell? ⟨ab,ai+k*10+j,none⟩=([.string x.kd,.string x.s,.int .i64 x.a,.int .i64 x.b,.int .u8 x.m,.slice la ll lc,.string x.p.nm,.int .i64 x.p.pr,.slice pa x.p.cs.length pcc,.slice ua x.us.length uc]:List Value)[j]?:=by
    rw [<- hlv,<- hcv,<- huv];exact hc
   have HCX:=qI hcx;have HQC:=qI hokc;have HQU:=qI hoku;have HFU:=qI hfu;have hm1:=hok.a.1;have hm2:=hok.a.2;clear hc hok hcs hlv hcv huv hokc hoku hcx hfu;have HSB:Hid (∀ W,(Below w.heap.size w W/\W.heap[Bk]?=some (.cells #[.pointer (some ⟨Bd,0,none⟩),.pointer (some ⟨Be,0,none⟩),.pointer (some ⟨Ba,0,none⟩)] 36))->(Lq Bk Bd Be Ba ab ai k x la ll lc pa pcc ua uc) W):=λW he=>by
    have hcc:∀ j,j<10->W.cell? ⟨ab,ai+k*10+j,none⟩=([.string x.kd,.string x.s,.int .i64 x.a,.int .i64 x.b,.int .u8 x.m,.slice la ll lc,.string x.p.nm,.int .i64 x.p.pr,.slice pa x.p.cs.length pcc,.slice ua x.us.length uc]:List Value)[j]?:=λj hj=>(he.1.cell (p:=⟨ab,_,none⟩) habl).trans (HCX.out j hj)
    exact ⟨⟨ad he.2 0,ad he.2 1,ad he.2 2⟩,hcc 0 (by decide),hcc 1 (by decide),hcc 2 (by decide),hcc 3 (by decide),hcc 4 (by decide),hcc 5 (by decide),hcc 6 (by decide),hcc 7 (by decide),hcc 8 (by decide),hcc 9 (by decide)⟩
   have z2:wr.cell? ⟨Bk,2,none⟩=some (.pointer (some ⟨Ba,0,none⟩)):=ad HBK.out 2
   go_wp2_with fail
   refine (Lh HMR.out).mono ?_;rintro e U0 ⟨wa,wg,wc,rfl,hdv,hwg,hb0⟩;have HB0':=qI hb0;have HDV:=qI hdv;have HWG:=qI hwg;have HEK:Hid (Below w.heap.size w U0/\U0.heap[Bk]?=some (.cells #[.pointer (some ⟨Bd,0,none⟩),.pointer (some ⟨Be,0,none⟩),.pointer (some ⟨Ba,0,none⟩)] 36)):=⟨HBW.out.trans (hb0.mono HBW.out.size),(hb0.block Bk (gS HBK.out).1).trans HBK.out⟩;have HMK:=qI (HMR.out.keep hb0);have HPK:=qI (HMR.out.poolKeep hb0 HPW.out);clear hb0 hdv hwg z2;(try dsimp only)
   go_upto_region 13 with fail
   have HB1':Hid (Below wr.heap.size wr U0.drew):=bf HB0'.out;have HDd:Hid (bS U0.drew (.slice wa t.ds.length wc) wg 0 t.ds):=HDV.out;have HEd:Hid (Below w.heap.size w U0.drew/\U0.drew.heap[Bk]?=some (.cells #[.pointer (some ⟨Bd,0,none⟩),.pointer (some ⟨Be,0,none⟩),.pointer (some ⟨Ba,0,none⟩)] 36)):=⟨bf HEK.out.1,HEK.out.2⟩;have HMd:Hid (av U0.drew iC Ba Bd Be Bm t dk n):=HMK.out.keep (bf (Q0 _ _));have HPd:Hid (cz w.heap.size U0.drew Ba):=HMK.out.poolKeep (bf (Q0 _ _)) HPK.out;refine Qo (by kernel_rfl) (HSB.out _ HEd.out) (λhHeld=>?_);generalize U0.drew=V at *;refine tk 0 ?_;refine tk 1 ?_;refine tk 2 ?_;refine tk 3 ?_;refine tk 4 ?_;refine rd 5 (λK hK=>?_);go_simp
   go_wp2_with fail
   refine (K7 HMd.out (HQC.out.le (HOW.out V HEd.out.1).2.1) (HQU.out.below HEd.out.1) HFU.out hm1 hm2 (by omega) (HOW.out V HEd.out.1).2.2).mono ?_;rintro e V2 ⟨f,t2,rfl,hst,⟨dk2,n2,hn2,hM2⟩,ha2,hpn2⟩;have HE2:=qI (La HMd.out HPd.out HLW.out HEd.out.1 HEd.out.2 ha2 (ad HEd.out.2 0));have HM2:=qI hM2;have HP2:=qI (hpn2 w.heap.size HEd.out.1.size HPd.out);have HD2:=qI (Li HMR.out HB1'.out HDd.out HWG.out ha2);have HKA:=qI (Lk hM2.inv hst.ds);have HFW:=qI (Ll HMR.out.inv hst);have HT2:Hid (t2.m=Ol.cM c/\Ol.room t2.m (t2.hs.map Hd.pod)=true):=⟨hst.m.trans HTM.out,Lb HMd.out.inv HRO.out hst⟩;have hn3:n2<=3*(k+1):=by omega
   clear hM2 ha2 hpn2 hst hn2
   go_wp2
   refine hK.out _ _ (HSB.out _ HE2.out) (λhHeld=>?_);clear hK K;refine tk 6 ?_;refine Qn (by kernel_rfl) ?_ _;clear hHeld;clear HMR HMd HPd HEd HDd HB1' HB0' HDV HWG HEK HMK HPK HPW HBW HBK HRO HTM;have z2:V2.cell? ⟨Bk,2,none⟩=some (.pointer (some ⟨Ba,0,none⟩)):=ad HE2.out.2 2
   go_wp2_with fail
   refine (KU HM2.out).mono ?_;rintro e U ⟨a8,c8,rfl,hh8,hb8⟩;have HEU:Hid (Below w.heap.size w U/\U.heap[Bk]?=some (.cells #[.pointer (some ⟨Bd,0,none⟩),.pointer (some ⟨Be,0,none⟩),.pointer (some ⟨Ba,0,none⟩)] 36)):=⟨HE2.out.1.trans (hb8.mono HE2.out.1.size),(hb8.block Bk (gS HE2.out.2).1).trans HE2.out.2⟩;have HMU:=qI (HM2.out.keep hb8);have HPU:=qI (HM2.out.poolKeep hb8 HP2.out);have HH8:Hid (aM U (.slice a8 t2.hs.length c8) t2.hs):=hh8.le (ci _ _);have HDU:Hid (bS U (.slice wa t.ds.length wc) wg 0 t.ds):=HD2.out.le (aB.of_below hb8);have HSU:=qI (HSB.out U HEU.out);clear hh8 hb8 z2 HM2 HP2 HD2 HE2;(try dsimp only);obtain ⟨hs,hhs⟩:∃ hs,hs=t2.hs:=⟨_,rfl⟩;rw [<- hhs] at HH8 HKA HFW;rw [<- hhs];clear hhs
   go_wp2_with fail
   refine xz (G:=λF=>frK (.slice (some ⟨ab,ai,none⟩) xs.length axc) (.pointer (some ⟨Bk,0,none⟩)) (.int .i64 (k:Nat)) (.slice wa t.ds.length wc) (ak (f:Nat)) (.slice a8 hs.length c8) (.int .i64 0) (F 12) (F 13) F) (by kernel_rfl) (λF2=>Lp _ _ _ F2 U ab ai xs.length axc k f c8 wg wc a8 wa t.ds hs x HSU.out.2.1 HSU.out.2.2.2.2.2.2.2.1 hlt HH8.out HDU.out HKA.out HFW.out) ?_;rintro a W3 ⟨F2,rfl,hb3⟩;have HR3:Hid (Below w.heap.size w W3/\W3.heap[Bk]?=some (.cells #[.pointer (some ⟨Bd,0,none⟩),.pointer (some ⟨Be,0,none⟩),.pointer (some ⟨Ba,0,none⟩)] 36)/\cz w.heap.size W3 Ba/\av W3 iC Ba Bd Be Bm t2 dk2 n2):=⟨HEU.out.1.trans (hb3.mono HEU.out.1.size),(hb3.block Bk (gS HEU.out.2).1).trans HEU.out.2,HMU.out.poolKeep hb3 HPU.out,HMU.out.keep hb3⟩;clear hb3;unfold frK;(try dsimp only)
   go_wp2_with fail
   refine hKK.out _ _ ⟨m - 1,by omega,k+1,.int .i64 ((k:Int)+1),by omega,?_,FrS.mk (by kernel_rfl) ⟨HR3.out.1,HR3.out.2.1,HR3.out.2.2.1,t2,dk2,n2,hn3,HT2.out.1,HT2.out.2,HR3.out.2.2.2⟩⟩
   go_num
  ·go_wp2
   go_ret;exact ⟨rfl,HBW.out⟩
end
