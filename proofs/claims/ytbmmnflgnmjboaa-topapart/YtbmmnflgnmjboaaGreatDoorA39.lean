import Derived.Test.YtbmmnflgnmjboaaGreatDoorA38
set_option maxRecDepth 100000
set_option maxHeartbeats 16000000
namespace Go.Proofs.YtbmmnflgnmjboaaGreatDoor
section
open RowKit Shelf
open Ost (Cpu af ae)
open Qos (Nd Ct Pd nd ct pd ag aB)
open Sv (Gv Hd gv hd gsF aE aI)
open Dvs (Dv dv aX)
open S1 (Mx)
attribute [local go_sem] Oper.semAt_some
abbrev jg:=λ(x0:Option Addr) (x1:Ol.Cf) (x2:Nat) (x3:Option Addr) (x4:Nat)=>(.cells #[.slice x0 x1.l.length x2,.int .u64 (x1.keep:Nat),.int .i64 x1.nb,.slice x3 x1.ds.length x4,.int .i64 x1.pol] 27:Obj)
abbrev jh:=λ(x0 x1 x2:Nat)=>(.cells #[.pointer (some ⟨x0,0,none⟩),.pointer (some ⟨x1,0,none⟩),.pointer (some ⟨x2,0,none⟩)] 36:Obj)
abbrev ji:=λ(x0 x1:Option Addr)=>(.cells #[.pointer x0,.pointer x1,.pointer none] 36:Obj)
abbrev Nx:=λ(Bk Bd Be Ba ab ai k:Nat) (x:Ac) (la:Option Addr) (ll lc:Nat) (pa:Option Addr) (pcc:Nat) (ua:Option Addr) (uc:Nat) (w':World)=>(w'.cell? ⟨Bk,0,none⟩=some (.pointer (some ⟨Bd,0,none⟩))/\w'.cell? ⟨Bk,1,none⟩=some (.pointer (some ⟨Be,0,none⟩))/\w'.cell? ⟨Bk,2,none⟩=some (.pointer (some ⟨Ba,0,none⟩)))/\w'.cell? ⟨ab,ai+k*10,none⟩=some (.string x.kd)/\w'.cell? ⟨ab,ai+k*10+1,none⟩=some (.string x.s)/\w'.cell? ⟨ab,ai+k*10+2,none⟩=some (.int .i64 x.a)/\w'.cell? ⟨ab,ai+k*10+3,none⟩=some (.int .i64 x.b)/\w'.cell? ⟨ab,ai+k*10+4,none⟩=some (.int .u8 x.m)/\w'.cell? ⟨ab,ai+k*10+5,none⟩=some (.slice la ll lc)/\w'.cell? ⟨ab,ai+k*10+6,none⟩=some (.string x.p.nm)/\w'.cell? ⟨ab,ai+k*10+7,none⟩=some (.int .i64 x.p.pr)/\w'.cell? ⟨ab,ai+k*10+8,none⟩=some (.slice pa x.p.cs.length pcc)/\w'.cell? ⟨ab,ai+k*10+9,none⟩=some (.slice ua x.us.length uc)
theorem Ny (c:Ol.Cf) (v1 v2:Value) (g o:Nat) (xs:List Ac) (va:Value) (w:World) (h1:eD w v1 c.l) (h2:cO w v2 g o c.ds) (hk:c.keep<18446744073709551616) (hx:kw w va xs) (ht:bH w) (hm:Mx w) :
  Calls Tryz.prog 3 #[kh c v1 v2,va] w λe w'=>e=.returned (.bool true)/\Below w.heap.size w w':=by
 obtain ⟨ca,cc,hJ⟩:∃ ca cc,v1=.slice ca c.l.length cc:=by
  rcases id h1 with ⟨hl,ao,q,rfl⟩|⟨b,o,q,rfl,_⟩
  ·exact ⟨ao,q,by rw [hl];rfl⟩
  ·exact ⟨_,q,rfl⟩
 obtain ⟨da,dc,hV⟩:∃ da dc,v2=.slice da c.ds.length dc:=by
  obtain ⟨da,dc,e,_⟩:=id h2;exact ⟨da,dc,e⟩
 have hY:=qI hx;obtain ⟨aa,axc,hZ,hW,H9⟩:=hx;subst hJ hV hZ;have h0:=qI H9;have H1:=qI h1;have H2:=qI h2;have HT:=qI ht;have HM:=qI hm;have h8:0<w.heap.size:=ht.2;clear h1 h2 ht hm hW H9;unfold kh;have Hy:=qI ((Q0 w.heap.size w).alloc (lR) (jg ca c cc da dc));obtain ⟨Bc,HN⟩:∃ Bc,Bc=w.heap.size:=⟨_,rfl⟩;have HR:Hid ((w.alloc (jg ca c cc da dc)).heap[Bc]?=some (jg ca c cc da dc)):=by
  unfold Hid;rw [HN];exact aF w (jg ca c cc da dc) rfl
 go_enter Tryz.func3,Tryz.ntmps3
 go_wp2_with fail
 rw [<- HN];generalize (w.alloc (jg ca c cc da dc))=X at *;clear HN;refine (MR X (HT.out.below Hy.out) (HM.out.below Hy.out)).mono ?_;rintro e W1 ⟨rfl,hD⟩;have H0:Bc<X.heap.size:=(gS HR.out).1;have Ha:Hid (∀ W,Below X.heap.size X W->W.heap[Bc]?=some (jg ca c cc da dc)/\Below w.heap.size w W):=λW hb=>⟨(hb.block Bc H0).trans HR.out,Hy.out.trans (hb.mono Hy.out.size)⟩
 have Hg:=qI hD;clear hD HR;have x0:W1.cell? ⟨Bc,0,none⟩=some (.slice ca c.l.length cc):=ad (Ha.out _ Hg.out).1 0;have x1:W1.cell? ⟨Bc,1,none⟩=some (.int .u64 (c.keep:Nat)):=ad (Ha.out _ Hg.out).1 1;have x2:W1.cell? ⟨Bc,2,none⟩=some (.int .i64 c.nb):=ad (Ha.out _ Hg.out).1 2;have x3:W1.cell? ⟨Bc,3,none⟩=some (.slice da c.ds.length dc):=ad (Ha.out _ Hg.out).1 3;have x4:W1.cell? ⟨Bc,4,none⟩=some (.int .i64 c.pol):=ad (Ha.out _ Hg.out).1 4;have HA:=qI (MN c (.slice ca c.l.length cc) (.slice da c.ds.length dc) g o W1 (H1.out.below (Ha.out _ Hg.out).2) (H2.out.below (Ha.out _ Hg.out).2));unfold kh at HA
 go_wp2_with fail
 refine HA.out.mono ?_;rintro e W2 ⟨⟨b,rfl⟩,HZ⟩;have Hu:=qI (Hg.out.trans (HZ.mono Hg.out.size));clear HZ x0 x1 x2 x3 x4 HA Hg
 rcases two b with rfl|rfl
 rotate_left
 ·go_wp2
  go_ret;exact ⟨rfl,(Ha.out _ Hu.out).2⟩
 have hC:=qI (KJ (.slice aa xs.length axc) xs 25 W2 (hY.out.below (Ha.out _ Hu.out).2))
 go_wp2_with fail
 refine hC.out.mono ?_;rintro e W3 ⟨⟨b,rfl,Hv⟩,Hh⟩;have Hb:=qI (Hu.out.trans (Hh.mono Hu.out.size));have Hm:=qI Hv;clear Hh hC Hv Hu
 rcases two b with rfl|rfl
 rotate_left
 ·go_wp2
  go_ret;exact ⟨rfl,(Ha.out _ Hb.out).2⟩
 have h9:xs.length<=25:=by have:=(Hm.out rfl).1;omega
 have hX:=qI (Hm.out rfl).2;clear Hm;have x0:W3.cell? ⟨Bc,0,none⟩=some (.slice ca c.l.length cc):=ad (Ha.out _ Hb.out).1 0;have x1:W3.cell? ⟨Bc,1,none⟩=some (.int .u64 (c.keep:Nat)):=ad (Ha.out _ Hb.out).1 1;have x2:W3.cell? ⟨Bc,2,none⟩=some (.int .i64 c.nb):=ad (Ha.out _ Hb.out).1 2;have x3:W3.cell? ⟨Bc,3,none⟩=some (.slice da c.ds.length dc):=ad (Ha.out _ Hb.out).1 3;have x4:W3.cell? ⟨Bc,4,none⟩=some (.int .i64 c.pol):=ad (Ha.out _ Hb.out).1 4;have HO:=qI (zy c (.slice ca c.l.length cc) (.slice da c.ds.length dc) g o W3 (H1.out.below (Ha.out _ Hb.out).2) (H2.out.below (Ha.out _ Hb.out).2) hk (HT.out.below (Ha.out _ Hb.out).2) (HM.out.below (Ha.out _ Hb.out).2))
 go_wp2_with fail
 clear x0 x1 x2 x3 x4;refine HO.out.mono ?_;rintro e W5 ⟨Hq,Hc,He⟩;have Hs:=qI ((Ha.out _ Hb.out).2.trans (He.mono (Ha.out _ Hb.out).2.size));have hh:=(Ha.out _ Hb.out).2.size
 by_cases hcf:Ol.bQ c=0
 rotate_left
 ·obtain ⟨bp,bq,rfl⟩:=Hq hcf;have HQ:=qI (((He.block Bc (by have:=Hb.out.size;omega)).trans (Ha.out _ Hb.out).1));clear Hq Hc He HO;have Hr:=qI (Hs.out.alloc Hs.out.size (ji bp bq));have Ho:=qI (bg HQ.out (ji bp bq));have x0:(W5.alloc (ji bp bq)).cell? ⟨Bc,0,none⟩=some (.slice ca c.l.length cc):=ad Ho.out 0;have x1:(W5.alloc (ji bp bq)).cell? ⟨Bc,1,none⟩=some (.int .u64 (c.keep:Nat)):=ad Ho.out 1;have x2:(W5.alloc (ji bp bq)).cell? ⟨Bc,2,none⟩=some (.int .i64 c.nb):=ad Ho.out 2;have x3:(W5.alloc (ji bp bq)).cell? ⟨Bc,3,none⟩=some (.slice da c.ds.length dc):=ad Ho.out 3;have x4:(W5.alloc (ji bp bq)).cell? ⟨Bc,4,none⟩=some (.int .i64 c.pol):=ad Ho.out 4;have h3:=qI (Nf c ca da cc dc g o (W5.alloc (ji bp bq)) (H1.out.below Hr.out) (H2.out.below Hr.out) hk hcf);clear hcf
  go_wp2_with fail
  generalize W5.alloc (ji bp bq)=Y at *;refine h3.out.mono ?_;rintro e W6 ⟨rfl,hB⟩;have hL:=qI (Hr.out.trans (hB.mono Hr.out.size));clear hB
  go_wp2
  go_ret;exact ⟨rfl,hL.out⟩
 obtain ⟨Ba,Bd,Be,Bm,rfl,H6,l1,l2,l3,l4,HU⟩:=Hc hcf;have Hx:=qI H6;have H4:=qI HU;have hT:=qI (M9 hcf);have h4:=qI hcf;have HQ:=qI (((He.block Bc (by have:=Hb.out.size;omega)).trans (Ha.out _ Hb.out).1));have hM:=Hb.out.size;clear Hq Hc He H6 hcf HO HU;have Hr:=qI (Hs.out.alloc Hs.out.size (jh Bd Be Ba));have HJ:=qI ((Q0 W5.heap.size W5).alloc (lR) (jh Bd Be Ba));have hw:=qI (aF W5 (jh Bd Be Ba) rfl);have Ho:=qI (bg HQ.out (jh Bd Be Ba));obtain ⟨Bk,Hz⟩:∃ Bk,Bk=W5.heap.size:=⟨_,rfl⟩;rw [<- Hz] at hw
 go_wp2_with fail
 rw [<- Hz];generalize W5.alloc (jh Bd Be Ba)=Y at *;obtain ⟨⟨a1,a2,a3⟩,a4⟩:=Hx.out.lts;have hf:Hid ((w.heap.size<=Ba/\w.heap.size<=Bd/\w.heap.size<=Bm)/\Bk≠Ba/\Bk≠Bd/\Bk≠Bm):=⟨⟨by omega,by omega,by omega⟩,by omega,by omega,by omega⟩;have HB:Hid (Bc≠Ba/\Bc≠Bd/\Bc≠Bm):=⟨by omega,by omega,by omega⟩;have hO:Hid (cH w.heap.size Y Ba):=(Hx.out.poolKeep HJ.out H4.out).less hh;have hI:Hid (aA Y iG Ba Bd Be Bm ⟨Ol.cL c,c.ds,[]⟩ Dk.fresh 0):=Hx.out.keep HJ.out;have HX:Hid (∀ W,Below w.heap.size w W->bH W/\az w (ah (four iG Ba Bd Bm) W)/\∀ W',Apart (three Ba Bd Bm) W W'->bH W'):=λW hb=>Na HT.out hf.out.1 hb
 clear Hz a1 a2 a3 a4 l1 l2 l3 l4 hh Hx H4 HJ Hs H0
 go_wp2
 go_loopw [7] (λi W=>∃ k:Nat,k<=xs.length/\i=.int .i64 k/\Below w.heap.size w W/\W.heap[Bk]?=some (jh Bd Be Ba)/\W.heap[Bc]?=some (jg ca c cc da dc)/\cH w.heap.size W Ba/\∃ t dk n,n<=3*k/\t.m=Ol.cL c/\Ol.room t.m (t.hs.map Hd.pod)=true/\aA W iG Ba Bd Be Bm t dk n) (λi _=>xs.length - (intOf i).toNat)
 case atStart=>exact ⟨0,Nat.zero_le _,rfl,Hr.out,hw.out,Ho.out,hO.out,_,_,0,lR,rfl,zw hT.out,hI.out⟩
 case round=>
  obtain ⟨k,h7,rfl,HV,H5,hq,hu,t,dk,n,hn,ha,hA,hv⟩:=hrel;have HK:=qI HV;have hi:=qI H5;have hs:=qI hu;have hp:=qI hq;have HH:=qI hv;have H3:=qI hA;have hy:=qI ha;clear HV H5 hq hu hv hA ha
  by_cases hlt:k<xs.length
  ·obtain ⟨ab,ai,rfl,HP,hz⟩:=h0.out (by omega);obtain ⟨hc,Hk⟩:=hz k hlt;have ho:=hX.out k hlt;generalize ac xs k=x at *;obtain ⟨la,ll,lc,hE⟩:=Hk.l;obtain ⟨pa,pcc,HI,_⟩:=id Hk.c;obtain ⟨ua,uc,HD,_⟩:=id Hk.u;have Hl:=Hk.c;have Hn:=Hk.u;rw [HI] at Hl;rw [HD] at Hn;have HW:∀ j,j<10->w.cell? ⟨ab,ai+k*10+j,none⟩=([.string x.kd,.string x.s,.int .i64 x.a,.int .i64 x.b,.int .u8 x.m,.slice la ll lc,.string x.p.nm,.int .i64 x.p.pr,.slice pa x.p.cs.length pcc,.slice ua x.us.length uc]:List Value)[j]?:=by
    rw [<- hE,<- HI,<- HD];exact hc
   have hN:=qI HW;have hP:=qI Hl;have hH:=qI Hn;have h6:=qI ho;have hS:=Hk.a.1;have hF:=Hk.a.2;clear hc Hk hz hE HI HD Hl Hn HW ho;have HY:Hid (∀ W,(Below w.heap.size w W/\W.heap[Bk]?=some (jh Bd Be Ba))->(Nx Bk Bd Be Ba ab ai k x la ll lc pa pcc ua uc) W):=λW he=>by
    have Hf:∀ j,j<10->W.cell? ⟨ab,ai+k*10+j,none⟩=([.string x.kd,.string x.s,.int .i64 x.a,.int .i64 x.b,.int .u8 x.m,.slice la ll lc,.string x.p.nm,.int .i64 x.p.pr,.slice pa x.p.cs.length pcc,.slice ua x.us.length uc]:List Value)[j]?:=λj hj=>(he.1.cell (p:=⟨ab,_,none⟩) HP).trans (hN.out j hj)
    exact ⟨⟨ad he.2 0,ad he.2 1,ad he.2 2⟩,Hf 0 (by decide),Hf 1 (by decide),Hf 2 (by decide),Hf 3 (by decide),Hf 4 (by decide),Hf 5 (by decide),Hf 6 (by decide),Hf 7 (by decide),Hf 8 (by decide),Hf 9 (by decide)⟩
   go_upto_region 12 with fail
   have Hj:Hid (Below w.heap.size w wr.drew/\wr.drew.heap[Bk]?=some (jh Bd Be Ba)):=⟨a6 HK.out,hi.out⟩;have Ht:Hid (aA wr.drew iG Ba Bd Be Bm t dk n):=HH.out.keep (a6 (Q0 _ _));have HS:Hid (cH w.heap.size wr.drew Ba):=HH.out.poolKeep (a6 (Q0 _ _)) hs.out;have HF:Hid (wr.drew.heap[Bc]?=some (jg ca c cc da dc)):=hp.out;refine Qo (by kernel_rfl) (HY.out _ Hj.out) λhQ=>?_;generalize wr.drew=V at *;refine tk 0 ?_;refine tk 1 ?_;refine tk 2 ?_;refine tk 3 ?_;refine tk 4 ?_;refine rd 5 λK hK=>?_;go_simp
   go_wp2_with fail
   refine (M8 Ht.out (hP.out.le (HX.out V Hj.out.1).2.1) (hH.out.below Hj.out.1) h6.out hS hF (by omega) (HX.out V Hj.out.1).2.2).mono ?_;rintro e V2 ⟨f,t2,rfl,HC,⟨dk2,n2,hU,hg⟩,HE,Hw⟩;have Hi:=qI (Nb Ht.out HS.out hf.out Hj.out.1 Hj.out.2 HE (ad Hj.out.2 0));have Hp:=qI (Ng Ht.out HB.out HF.out HE (ad HF.out 0));have HL:=qI hg;have hG:=qI (Hw w.heap.size Hj.out.1.size HS.out);have H8:=qI (Nc Ht.out.inv H3.out HC);have H7:Hid (t2.m=Ol.cL c):=HC.m.trans hy.out;have hR:n2<=3*(k+1):=by omega
   clear hg HE Hw HC hU
   go_wp2
   refine hK.out _ _ (HY.out _ Hi.out) λhQ=>?_;clear hK K;refine Qn (by kernel_rfl) ?_ _;clear hQ;have hr:=qI (Nw (da:=da) (dl:=c.ds.length) (dc:=dc) HL.out H7.out H8.out h4.out (H1.out.below Hi.out.1) hk (by omega));have y0:V2.cell? ⟨Bk,0,none⟩=some (.pointer (some ⟨Bd,0,none⟩)):=ad Hi.out.2 0;have y1:V2.cell? ⟨Bk,1,none⟩=some (.pointer (some ⟨Be,0,none⟩)):=ad Hi.out.2 1;have y2:V2.cell? ⟨Bk,2,none⟩=some (.pointer (some ⟨Ba,0,none⟩)):=ad Hi.out.2 2;have x0:V2.cell? ⟨Bc,0,none⟩=some (.slice ca c.l.length cc):=ad Hp.out 0;have x1:V2.cell? ⟨Bc,1,none⟩=some (.int .u64 (c.keep:Nat)):=ad Hp.out 1;have x2:V2.cell? ⟨Bc,2,none⟩=some (.int .i64 c.nb):=ad Hp.out 2;have x3:V2.cell? ⟨Bc,3,none⟩=some (.slice da c.ds.length dc):=ad Hp.out 3;have x4:V2.cell? ⟨Bc,4,none⟩=some (.int .i64 c.pol):=ad Hp.out 4;clear HH Ht HS Hj HF hs HK hi hp H3 hy
   go_wp2_with fail
   clear x0 x1 x2 x3 x4 y0 y1 y2;refine hr.out.mono ?_;rintro e V3 ⟨rfl,Hh⟩;have HG:Hid (Below w.heap.size w V3/\V3.heap[Bk]?=some (jh Bd Be Ba)/\V3.heap[Bc]?=some (jg ca c cc da dc)):=⟨Hi.out.1.trans (Hh.mono Hi.out.1.size),(Hh.block Bk (gS Hi.out.2).1).trans Hi.out.2,(Hh.block Bc (gS Hp.out).1).trans Hp.out⟩;have h5:=qI (HL.out.keep Hh);have hQ':=qI (HL.out.poolKeep Hh hG.out);clear Hh hr
   go_wp2
   go_roundw
   case rel=>exact ⟨k+1,by omega,by go_num,HG.out.1,HG.out.2.1,HG.out.2.2,hQ'.out,t2,dk2,n2,hR,H7.out,H8.out,h5.out⟩
   case measure=>simp [intOf];omega
  ·go_wp2
   go_ret;exact ⟨rfl,HK.out⟩
end
