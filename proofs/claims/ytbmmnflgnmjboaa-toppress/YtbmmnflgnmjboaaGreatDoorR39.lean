import Derived.Test.YtbmmnflgnmjboaaGreatDoorR38
set_option maxRecDepth 100000
set_option maxHeartbeats 16000000
namespace Go.Proofs.YtbmmnflgnmjboaaGreatDoor
section
open RowKit Shelf
open Ost (Cpu ad)
open Qos (Nd Ct Pd nd ct pd af cO aH)
open Sv (Gv Hd gv hd)
open Dvs (Dv dv aW)
open S1 (Mx)
attribute [local go_sem] Oper.semAt_some
theorem Nx {w W:World} {Ba Bd Bm:Nat} (hb:Below w.heap.size w W) (hl:w.heap.size<=Ba/\w.heap.size<=Bd/\w.heap.size<=Bm):aq w (ag (four jR Ba Bd Bm) W):=mx hb rfl (λj hj=>by
 rcases hj with e|e|e|e
 ·exact e.elim
 all_goals omega)
theorem Ny {hs:List Hd} (h:Ol.gN hs):((hs.map Hd.pod).map Pd.nm).Nodup:=by
 unfold List.Nodup;rw [List.map_map,List.pairwise_map];exact h.imp λ{a b} hab e=>by
  have e:a.pod.nm=b.pod.nm:=e;rw [e] at hab;exact Ol.mB _ hab
abbrev kH:=λ(x0:Option Addr) (x1:Ol.Cf) (x2:Nat) (x3:Option Addr) (x4:Nat)=>(.cells #[.slice x0 x1.l.length x2,.int .u64 (x1.keep:Nat),.int .i64 x1.nb,.slice x3 x1.ds.length x4,.int .i64 x1.pol] 27:Obj)
abbrev lM:=λ(x0 x1 x2:Nat)=>(.cells #[.pointer (some ⟨x0,0,none⟩),.pointer (some ⟨x1,0,none⟩),.pointer (some ⟨x2,0,none⟩)] 36:Obj)
abbrev Nz:=λ(Bk Ba fb fo k:Nat) (q:Qos.Pd) (qa:Option Addr) (qc:Nat) (w':World)=>w'.cell? ⟨Bk,2,none⟩=some (.pointer (some ⟨Ba,0,none⟩))/\w'.cell? ⟨fb,fo+k*3,none⟩=some (.string q.nm)/\w'.cell? ⟨fb,fo+k*3+1,none⟩=some (.int .i64 q.pr)/\w'.cell? ⟨fb,fo+k*3+2,none⟩=some (.slice qa q.cs.length qc)
theorem NA (c:Ol.Cf) (v1 v2:Value) (g o:Nat) (ps:List Pd) (vf:Value) (us:List Nd) (uv:Value) (most:Int) (w:World) (h1:eH w v1 c.l) (h2:cU w v2 g o c.ds) (hk:c.keep<18446744073709551616) (hf:du w vf ps) (hu:be w uv us) (hm1:-9223372036854775808<=most) (hm2:most<=9223372036854775807) (ht:ci w) (hm:Mx w) :
  Calls Tryz.prog 7 #[km c v1 v2,vf,uv,.int .i64 most] w λe w'=>e=.returned (.bool true)/\Below w.heap.size w w':=by
 obtain ⟨ca,cc,Jl⟩:∃ ca cc,v1=.slice ca c.l.length cc:=by
  rcases id h1 with ⟨hl,ao,q,rfl⟩|⟨b,o,q,rfl,_⟩
  ·exact ⟨ao,q,by rw [hl];rfl⟩
  ·exact ⟨_,q,rfl⟩
 obtain ⟨da,dc,Jn⟩:∃ da dc,v2=.slice da c.ds.length dc:=by
  obtain ⟨da,dc,e,_⟩:=id h2;exact ⟨da,dc,e⟩
 have HF:=qI hf;have HU:=qI hu;obtain ⟨fa,fc,hX,hU,hA⟩:=hf;obtain ⟨ua,uc,hT,hY,hP⟩:=hu;subst Jl Jn hX hT;have h8:=qI hA;have hW:=qI hP;have H1:=qI h1;have H2:=qI h2;have HT:=qI ht;have HM:=qI hm;have Jo:0<w.heap.size:=ht.2;clear h1 h2 ht hm hU hA hY hP;unfold km;have HB:=qI ((Q0 w.heap.size w).alloc (lR) (kH ca c cc da dc));obtain ⟨Bc,H6⟩:∃ Bc,Bc=w.heap.size:=⟨_,rfl⟩;have HH:Hid ((w.alloc (kH ca c cc da dc)).heap[Bc]?=some (kH ca c cc da dc)):=by
  unfold Hid;rw [H6];exact aD w (kH ca c cc da dc) rfl
 go_enter Tryz.func7,Tryz.ntmps7
 go_wp2_with fail
 rw [<- H6];generalize (w.alloc (kH ca c cc da dc))=X at *;have h6:w.heap.size<=Bc:=by omega
 clear H6;refine (MR X (HT.out.below HB.out) (HM.out.below HB.out)).mono ?_;rintro e W1 ⟨rfl,Hp⟩;have hi:Bc<X.heap.size:=(gS HH.out).1;have Ha:Hid (∀ W,Below X.heap.size X W->W.heap[Bc]?=some (kH ca c cc da dc)/\Below w.heap.size w W):=λW hb=>⟨(hb.block Bc hi).trans HH.out,HB.out.trans (hb.mono HB.out.size)⟩
 have Hf:=qI Hp;clear Hp HH;have x0:W1.cell? ⟨Bc,0,none⟩=some (.slice ca c.l.length cc):=aa (Ha.out _ Hf.out).1 0;have x1:W1.cell? ⟨Bc,1,none⟩=some (.int .u64 (c.keep:Nat)):=aa (Ha.out _ Hf.out).1 1;have x2:W1.cell? ⟨Bc,2,none⟩=some (.int .i64 c.nb):=aa (Ha.out _ Hf.out).1 2;have x3:W1.cell? ⟨Bc,3,none⟩=some (.slice da c.ds.length dc):=aa (Ha.out _ Hf.out).1 3;have x4:W1.cell? ⟨Bc,4,none⟩=some (.int .i64 c.pol):=aa (Ha.out _ Hf.out).1 4;have HP:=qI (MN c (.slice ca c.l.length cc) (.slice da c.ds.length dc) g o W1 (H1.out.below (Ha.out _ Hf.out).2) (H2.out.below (Ha.out _ Hf.out).2));unfold km at HP
 go_wp2_with fail
 refine HP.out.mono ?_;rintro e W2 ⟨⟨b,rfl⟩,he⟩;have Ht:=qI (Hf.out.trans (he.mono Hf.out.size));clear he x0 x1 x2 x3 x4 HP Hf
 rcases two b with rfl|rfl
 rotate_left
 ·go_wp2
  go_ret;exact ⟨rfl,(Ha.out _ Ht.out).2⟩
 have hH:=qI (EI (.slice fa ps.length fc) ps W2 (HF.out.below (Ha.out _ Ht.out).2))
 go_wp2_with fail
 refine hH.out.mono ?_;rintro e W3 ⟨⟨b,rfl,Hz⟩,Hh⟩;have Hc:=qI (Ht.out.trans (Hh.mono Ht.out.size));have Hv:=qI Hz;clear Hh hH Hz Ht
 rcases two b with rfl|rfl
 rotate_left
 ·go_wp2
  go_ret;exact ⟨rfl,(Ha.out _ Hc.out).2⟩
 have Jp:ps.length<=16:=Hv.out rfl;clear Hv;have hR:=qI (Kw (.slice ua us.length uc) us W3 (HU.out.below (Ha.out _ Hc.out).2))
 go_wp2_with fail
 refine hR.out.mono ?_;rintro e W4 ⟨⟨b,rfl,hx⟩,rfl⟩;have HY:=qI hx;clear hR hx
 rcases two b with rfl|rfl
 rotate_left
 ·go_wp2
  go_ret;exact ⟨rfl,(Ha.out _ Hc.out).2⟩
 have Hs:=qI (HY.out rfl);have Jm:us.length<=20:=(HY.out rfl).1;clear HY
 go_wp2
 go_loopw [10] (λi wr=>∃ k:Nat,k<=us.length/\i=.int .i64 k/\wr=W4) (λi _=>us.length - (intOf i).toNat)
 case atStart=>exact ⟨0,Nat.zero_le _,rfl,rfl⟩
 case round=>
  obtain ⟨k,HQ,rfl,rfl⟩:=hrel
  by_cases hlt:k<us.length
  ·obtain ⟨ub,uo,rfl,HZ,hB⟩:=hW.out (by omega);have q1:wr.cell? ⟨ub,uo+k*2+1,none⟩=some (.int .i64 (nd us k).many):=((Ha.out _ Hc.out).2.cell (p:=⟨ub,_,none⟩) HZ).trans (hB k hlt).2;clear hB;generalize (nd us k).many=z at *
   by_cases hz:z<0
   ·have HC:decide (z<0)=true:=Qc hz
    go_wp2
    go_ret;exact ⟨rfl,(Ha.out _ Hc.out).2⟩
   ·have HC:decide (z<0)=false:=Q7 hz
    go_wp2
    go_roundw
    case rel=>exact ⟨k+1,by omega,by go_num,by first|rfl|trivial⟩
    case measure=>simp [intOf];omega
  ·have x0:wr.cell? ⟨Bc,0,none⟩=some (.slice ca c.l.length cc):=aa (Ha.out _ Hc.out).1 0;have x1:wr.cell? ⟨Bc,1,none⟩=some (.int .u64 (c.keep:Nat)):=aa (Ha.out _ Hc.out).1 1;have x2:wr.cell? ⟨Bc,2,none⟩=some (.int .i64 c.nb):=aa (Ha.out _ Hc.out).1 2;have x3:wr.cell? ⟨Bc,3,none⟩=some (.slice da c.ds.length dc):=aa (Ha.out _ Hc.out).1 3;have x4:wr.cell? ⟨Bc,4,none⟩=some (.int .i64 c.pol):=aa (Ha.out _ Hc.out).1 4;have H5:=qI (zv c (.slice ca c.l.length cc) (.slice da c.ds.length dc) g o wr (H1.out.below (Ha.out _ Hc.out).2) (H2.out.below (Ha.out _ Hc.out).2) hk (HT.out.below (Ha.out _ Hc.out).2) (HM.out.below (Ha.out _ Hc.out).2))
   go_wp2_with fail
   clear x0 x1 x2 x3 x4 hlt HQ;refine H5.out.mono ?_;rintro e W5 ⟨Hm,He,Hi⟩;have Hx:=qI ((Ha.out _ Hc.out).2.trans (Hi.mono (Ha.out _ Hc.out).2.size));have Jh:=(Ha.out _ Hc.out).2.size;have HL:=Hc.out.size;have hh:=qI ((Hi.block Bc (by omega)).trans (Ha.out _ Hc.out).1)
   by_cases hcf:Ol.b6 c=0
   rotate_left
   ·obtain ⟨bp,bq,rfl⟩:=Hm hcf;clear Hm He Hi hcf H5;have Hk:=qI (Hx.out.alloc Hx.out.size (.cells #[.pointer bp,.pointer bq,.pointer none] 36))
    go_wp2
    go_ret;exact ⟨rfl,Hk.out⟩
   obtain ⟨Ba,Bd,Be,Bm,rfl,hJ,l1,l2,l3,l4,Jc⟩:=He hcf;have Ho:=qI hJ;have hZ:=qI hcf;have Ji:=qI (M5 hcf);clear Hm He Hi hJ hcf H5 Jc;have Hk:=qI (Hx.out.alloc Hx.out.size (lM Bd Be Ba));have hI:=qI ((Q0 W5.heap.size W5).alloc (lR) (lM Bd Be Ba));have HE:=qI (aD W5 (lM Bd Be Ba) rfl);have HN:=qI (bj hh.out (lM Bd Be Ba));obtain ⟨Bk,HI⟩:∃ Bk,Bk=W5.heap.size:=⟨_,rfl⟩;rw [<- HI] at HE
   go_wp2_with fail
   rw [<- HI];generalize W5.alloc (lM Bd Be Ba)=Y at *;obtain ⟨⟨a1,a2,a3⟩,a4⟩:=Ho.out.lts;have Jd:Bk<Y.heap.size:=(gS HE.out).1;have Jg:Bc<Y.heap.size:=(gS HN.out).1;have Jk:Hid (w.heap.size<=Ba/\w.heap.size<=Bd/\w.heap.size<=Bm):=⟨by omega,by omega,by omega⟩;have h5:Hid (aK Y jR Ba Bd Be Bm ⟨Ol.cz c,c.ds,[]⟩ Dk.fresh 0):=Ho.out.keep hI.out;have Hb:Hid (∀ W,Apart (three Ba Bd Bm) Y W->W.heap[Bk]?=some (lM Bd Be Ba)/\W.heap[Bc]?=some (kH ca c cc da dc)/\ci W/\Below w.heap.size w W/\aq w (ag (four jR Ba Bd Bm) W)):=λW ha=>by
    have hb:=pu Hk.out Hk.out.size ha (λj hj=>by rcases hj with e|e|e <;> omega);exact ⟨(ha.block Bk Jd (by rintro (e|e|e) <;> omega)).trans HE.out,(ha.block Bc Jg (by rintro (e|e|e) <;> omega)).trans HN.out,HT.out.below hb,hb,Nx hb Jk.out⟩
   clear HI a1 a2 a3 a4 l1 l2 l3 l4 Jh HL Ho hI Hx hh HN HE Hk hi
   go_loopw [12] (λi wr=>∃ k:Nat,k<=ps.length/\i=.int .i64 k/\Apart (three Ba Bd Bm) Y wr/\∃ hs dk n,n<=3*k/\Ol.room (Ol.cz c) (hs.map Hd.pod)=true/\aK wr jR Ba Bd Be Bm ⟨Ol.cz c,c.ds,hs⟩ dk n) (λi _=>ps.length - (intOf i).toNat)
   case atStart=>exact ⟨0,Nat.zero_le _,rfl,Apart.refl _ _,[],Dk.fresh,0,lR,zt Ji.out,h5.out⟩
   case round=>
    obtain ⟨k,HQ,rfl,H7,hs,dk,n,hn,hM,H8⟩:=hrel;have HV:=qI H7;have Hl:=qI H8;have hv:=qI hM;clear H7 H8 hM
    by_cases hlt:k<ps.length
    ·obtain ⟨fb,fo,cvf,rfl,HR⟩:=h8.out (by omega);obtain ⟨⟨r0,r1,r2⟩,HA⟩:=HR.2 k hlt;obtain ⟨qa,qc,hp,_⟩:=id HA;rw [hp] at HA r2;have h9:=qI HA;have h7:=qI r0;have Jf:=qI r1;have Hw:=qI r2;have Hn:fb<w.heap.size:=HR.1;clear HR HA hp r0 r1 r2;generalize pd ps k=q at *;have H9:Hid (∀ W,Apart (three Ba Bd Bm) Y W->(Nz Bk Ba fb fo k q qa qc) W):=λW ha=>by
      obtain ⟨e1,e2,e3,e4,e5⟩:=Hb.out W ha;exact ⟨aa e1 2,(e4.cell (p:=⟨fb,_,none⟩) Hn).trans h7.out,(e4.cell (p:=⟨fb,_,none⟩) Hn).trans Jf.out,(e4.cell (p:=⟨fb,_,none⟩) Hn).trans Hw.out⟩
     go_upto_region 17 with fail
     have HG:Hid (Apart (three Ba Bd Bm) Y wr.drew):=HV.out.trans (Apart.of_below (a6 (Q0 _ _)));have Ja:Hid (aK wr.drew jR Ba Bd Be Bm ⟨Ol.cz c,c.ds,hs⟩ dk n):=Hl.out.keep (a6 (Q0 _ _));refine Qo (by kernel_rfl) (H9.out _ HG.out) λhQ=>?_;generalize wr.drew=V at *;refine tk 0 ?_;refine tk 1 ?_;refine tk 2 ?_;refine tk 3 ?_;refine tk 4 ?_;refine tk 5 ?_;refine rd 6 λK hK=>?_;go_simp
     go_wp2_with fail
     have HX:=qI (MV (p:=q) (cv:=.slice qa q.cs.length qc) Ja.out (h9.out.le (Hb.out V HG.out).2.2.2.2) (Hb.out V HG.out).2.2.1 (by omega));unfold bG at HX;refine HX.out.mono ?_;rintro e V2 ⟨rfl,⟨dk2,n2,hG,Hj⟩,Hq⟩;have Hr:=qI (HG.out.trans Hq);have Hu:=qI Hj;have HW:=qI (Ol.oT (t:=⟨Ol.cz c,c.ds,hs⟩) (p:=q) hv.out);have Je:n2<=3*(k+1):=by omega
     clear Hj Hq hG HX
     go_wp2
     refine hK.out _ _ (H9.out _ Hr.out) λhQ=>?_;clear hK K;refine Qn (by kernel_rfl) ?_ _;clear hQ
     go_wp2
     go_roundw
     case rel=>exact ⟨k+1,by omega,by go_num,Hr.out,_,_,_,Je,HW.out,Hu.out⟩
     case measure=>simp [intOf];omega
    ·have h3:n<=48:=by omega
     have z2:wr.cell? ⟨Bk,2,none⟩=some (.pointer (some ⟨Ba,0,none⟩)):=aa (Hb.out _ HV.out).1 2
     go_wp2_with fail
     clear z2 hlt HQ;refine (zU Hl.out).mono ?_;rintro e U1 ⟨la,lc,rfl,hC,Hp⟩;have Hy:=qI (HV.out.trans (Apart.of_below Hp));have Ho:=qI (Hl.out.keep Hp);have hO:=qI hC;clear hC Hp;(try dsimp only);have z2:U1.cell? ⟨Bk,2,none⟩=some (.pointer (some ⟨Ba,0,none⟩)):=aa (Hb.out _ Hy.out).1 2
     go_wp2_with fail
     clear z2;refine (M4 (us:=us) (most:=most) Ho.out (HU.out.below (Hb.out _ Hy.out).2.2.2.1) Hs.out hm1 hm2 (by omega) λW ha=>(Hb.out W (Hy.out.trans ha)).2.2.1).mono ?_;rintro e U2 ⟨qs,gg,nv,rfl,hF,HD,hle,⟨dk2,n2,⟨hG,_⟩,Hj⟩,Hq⟩;dsimp only at HD hle Hj;have Hr:=qI (Hy.out.trans Hq);have hE:Hid (aJ (ag (three Ba Bd Bm) U2) (.slice la hs.length lc) hs):=hO.out.le (k9 Hq λ_ _ h=>h);have HJ:=qI (Ng (us:=us) (most:=most) (g:=gg) HD.1 (((HD.1.map Pd.nm).nodup_iff).2 (Ny (Ol.bO.1 Hl.out.inv.held).2.2)) hle);have Hw:=qI (Ol.IC Hl.out.inv (lI hs ((qs.take gg).map Pd.nm)) hv.out);have H0:hs.length<=12:=(Ol.bO.1 Hl.out.inv.held).1;rw [Na] at Hj Hw;obtain ⟨L,hL⟩:∃ L,L=(qs.take gg).map Pd.nm:=⟨_,rfl⟩;rw [<- hL] at Hj Hw HJ hF;obtain ⟨na,nc,hS,Jb,hD⟩:=hF;subst hS;have hc:=qI hD;have Hu:=qI Hj;have hw:(hs.filter (bK L)).length+L.length=hs.length:=HJ.out.2;clear Hj Hq HD hle hD Jb hL Hl Ho Hy hO;(try dsimp only);have z2:U2.cell? ⟨Bk,2,none⟩=some (.pointer (some ⟨Ba,0,none⟩)):=aa (Hb.out _ Hr.out).1 2;have h4:=qI hw;have Jj:L.length<=1000:=by omega
     clear hw
     go_wp2_with fail
     clear z2;refine (zU Hu.out).mono ?_;rintro e U3 ⟨wa,wc,rfl,HO,Hh⟩;dsimp only at HO;have HK:=qI (Hr.out.trans (Apart.of_below Hh));have ho:=qI (Hu.out.keep Hh);have hN:Hid (aJ U3 (.slice la hs.length lc) hs):=(hE.out.le (cC _ _)).le (aq.of_below Hh);have hq:Hid (aJ U3 (.slice wa (hs.filter (bK L)).length wc) (hs.filter (bK L))):=HO.le (cC _ _);have hr:Hid (0<L.length->∃ g,na=some ⟨g,0,none⟩/\g<U3.heap.size/\∀ k,k<L.length->U3.cell? ⟨g,k,none⟩=some (.string (L.getD k ByteArray.empty))):=λh0=>by
      obtain ⟨g,e1,e2,e3⟩:=hc.out h0;exact ⟨g,e1,Q1 e2 Hh.size,λk hk=>(Hh.cell (p:=⟨g,_,none⟩) e2).trans (e3 k hk)⟩
     clear HO Hh Hu hE Hr hc;have HS:wrap64 (((hs.filter (bK L)).length:Int)+(L.length:Int))=(hs.length:Int):=by
      have:=h4.out
      unfold wrap64;omega
     go_wp2_with fail
     clear HS;refine jQ (G:=λF=>frP (.slice ua us.length uc) (.int .i64 most) (.pointer (some ⟨Bc,0,none⟩)) (.pointer (some ⟨Bk,0,none⟩)) (.slice la hs.length lc) (.slice na L.length nc) (.slice wa (hs.filter (bK L)).length wc) (.int .i64 0) (.int .i64 0) (.int .i64 0) (F 20) (F 21) F) (by kernel_rfl) (λF2=>Nk _ _ _ _ _ F2 U3 lc nc (hs.filter (bK L)).length wc uc la na wa ua hs L us hN.out hq.out rfl hr.out (HU.out.below (Hb.out _ HK.out).2.2.2.1) Hs.out H0 Jj) ?_;rintro a W6 ⟨F2,rfl,H4⟩;have Hg:=qI (HK.out.trans (Apart.of_below H4));have hV:=qI (ho.out.keep H4);clear H4 ho hN hq hr HK;have y0:W6.cell? ⟨Bk,0,none⟩=some (.pointer (some ⟨Bd,0,none⟩)):=aa (Hb.out _ Hg.out).1 0;have y1:W6.cell? ⟨Bk,1,none⟩=some (.pointer (some ⟨Be,0,none⟩)):=aa (Hb.out _ Hg.out).1 1;have y2:W6.cell? ⟨Bk,2,none⟩=some (.pointer (some ⟨Ba,0,none⟩)):=aa (Hb.out _ Hg.out).1 2;have x0:W6.cell? ⟨Bc,0,none⟩=some (.slice ca c.l.length cc):=aa (Hb.out _ Hg.out).2.1 0;have x1:W6.cell? ⟨Bc,1,none⟩=some (.int .u64 (c.keep:Nat)):=aa (Hb.out _ Hg.out).2.1 1;have x2:W6.cell? ⟨Bc,2,none⟩=some (.int .i64 c.nb):=aa (Hb.out _ Hg.out).2.1 2;have x3:W6.cell? ⟨Bc,3,none⟩=some (.slice da c.ds.length dc):=aa (Hb.out _ Hg.out).2.1 3;have x4:W6.cell? ⟨Bc,4,none⟩=some (.int .i64 c.pol):=aa (Hb.out _ Hg.out).2.1 4;have hy:=qI (Nw (c:=c) (da:=da) (dl:=c.ds.length) (dc:=dc) hV.out rfl Hw.out hZ.out (H1.out.below (Hb.out _ Hg.out).2.2.2.1) hk (by omega));have Hk:=qI (Hb.out _ Hg.out).2.2.2.1;simp only [frP,tlS,Nat.reduceAdd]
     go_wp2_with fail
     clear x0 x1 x2 x3 x4 y0 y1 y2;refine hy.out.mono ?_;rintro e W7 ⟨rfl,hg⟩;have H3:=qI (Hk.out.trans (hg.mono Hk.out.size));clear hg hy;generalize cP us L hs hs.length=z at *
     rcases HJ.out.1 with hz|hz
     ·have HC:decide (z<=most)=true:=Qc hz
      go_wp2
      go_ret;exact ⟨rfl,H3.out⟩
     ·rw [hz]
      by_cases hzm:z<=most
      ·have HC:decide (z<=most)=true:=Qc hzm
       go_wp2
       go_ret;exact ⟨rfl,H3.out⟩
      ·have HC:decide (z<=most)=false:=Q7 hzm
       go_wp2
       go_ret;exact ⟨rfl,H3.out⟩
end
