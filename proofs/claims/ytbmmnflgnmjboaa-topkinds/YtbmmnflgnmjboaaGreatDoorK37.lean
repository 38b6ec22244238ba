import Derived.Test.YtbmmnflgnmjboaaGreatDoorK34
import Derived.Test.YtbmmnflgnmjboaaGreatDoorK36
set_option maxRecDepth 100000
set_option maxHeartbeats 16000000
namespace Go.Proofs.YtbmmnflgnmjboaaGreatDoor
section
open RowKit Shelf
open Qos (Nd Ct Pd nd ct pd ah aH)
open Sv (Gv Hd gv hd)
open Dvs (Dv dv nth)
attribute [local go_sem] Oper.semAt_some
noncomputable def ny (n:Nat):Code:=((Tryz.f5.body.bind (jb n))).getD .skip
noncomputable def nz (n:Nat):Code:=((Tryz.f5.body.map ja).getD []).getD n .skip
def frK (c1 c6 c7 c8 c9 c10 c11 c12 c13:Value) (F:Nat->Value):Act:=⟨List.toArray (F 0 :: c1 :: F 2 :: F 3 :: F 4 :: F 5 :: c6 :: c7 :: c8 :: c9 :: c10 :: c11 :: c12 :: c13 :: F 14 :: F 15 :: F 16 :: F 17 :: F 18 :: F 19 :: F 20 :: F 21 :: F 22 :: F 23 :: F 24 :: F 25 :: F 26 :: F 27 :: F 28 :: F 29 :: F 30 :: F 31 :: F 32 :: F 33 :: F 34 :: F 35 :: F 36 :: F 37 :: F 38 :: F 39 :: F 40 :: F 41 :: F 42 :: F 43 :: F 44 :: F 45 :: F 46 :: F 47 :: F 48 :: F 49 :: F 50 :: F 51 :: F 52 :: F 53 :: F 54 :: F 55 :: F 56 :: F 57 :: F 58 :: F 59 :: F 60 :: F 61 :: F 62 :: F 63 :: F 64 :: F 65 :: F 66 :: F 67 :: F 68 :: F 69 :: F 70 :: F 71 :: F 72 :: F 73 :: F 74 :: F 75 :: F 76 :: F 77 :: F 78 :: F 79 :: F 80 :: F 81 :: F 82 :: F 83 :: F 84 :: F 85 :: F 86 :: F 87 :: F 88 :: F 89 :: F 90 :: F 91 :: F 92 :: F 93 :: F 94 :: F 95 :: F 96 :: F 97 :: F 98 :: F 99 :: F 100 :: F 101 :: F 102 :: F 103 :: F 104 :: F 105 :: F 106 :: F 107 :: F 108 :: F 109 :: F 110 :: F 111 :: F 112 :: F 113 :: []),[]⟩
def frL (c1 c6 c7 c8 c9 c10 c11 c12 c13 c14:Value) (F:Nat->Value):Act:=⟨List.toArray (F 0 :: c1 :: F 2 :: F 3 :: F 4 :: F 5 :: c6 :: c7 :: c8 :: c9 :: c10 :: c11 :: c12 :: c13 :: c14 :: F 15 :: F 16 :: F 17 :: F 18 :: F 19 :: F 20 :: F 21 :: F 22 :: F 23 :: F 24 :: F 25 :: F 26 :: F 27 :: F 28 :: F 29 :: F 30 :: F 31 :: F 32 :: F 33 :: F 34 :: F 35 :: F 36 :: F 37 :: F 38 :: F 39 :: F 40 :: F 41 :: F 42 :: F 43 :: F 44 :: F 45 :: F 46 :: F 47 :: F 48 :: F 49 :: F 50 :: F 51 :: F 52 :: F 53 :: F 54 :: F 55 :: F 56 :: F 57 :: F 58 :: F 59 :: F 60 :: F 61 :: F 62 :: F 63 :: F 64 :: F 65 :: F 66 :: F 67 :: F 68 :: F 69 :: F 70 :: F 71 :: F 72 :: F 73 :: F 74 :: F 75 :: F 76 :: F 77 :: F 78 :: F 79 :: F 80 :: F 81 :: F 82 :: F 83 :: F 84 :: F 85 :: F 86 :: F 87 :: F 88 :: F 89 :: F 90 :: F 91 :: F 92 :: F 93 :: F 94 :: F 95 :: F 96 :: F 97 :: F 98 :: F 99 :: F 100 :: F 101 :: F 102 :: F 103 :: F 104 :: F 105 :: F 106 :: F 107 :: F 108 :: F 109 :: F 110 :: F 111 :: F 112 :: F 113 :: []),[]⟩
theorem Lm (c6 c8 c12 c13:Value) (F:Nat->Value) (W:World) (ab ai xl axc k0 f hb ho hl lc i:Nat) (kd nm nm2:ByteArray) (u0:W.cell? ⟨ab,ai+k0*10,none⟩=some (.string kd)) (u6:W.cell? ⟨ab,ai+k0*10+6,none⟩=some (.string nm2)) (v0:W.cell? ⟨hb,ho+i*4,none⟩=some (.string nm)) (hk:k0<xl) (hi:i<hl) :
  Code.wp Tryz.prog (ny 18) (g6 (λa w'=>∃ fr:Bool,FrS (λF=>frK (.slice (some ⟨ab,ai,none⟩) xl axc) c6 (.int .i64 (k0:Nat)) c8 (ak (f:Nat)) (.slice (some ⟨hb,ho,none⟩) hl lc) (.int .i64 (i:Nat)) (.bool fr) (F 13) F) (λW'=>(fr=true->f=0/\(kd.toList == [97,100,109,105,116])=true/\nm=nm2)/\Below W.heap.size W W') a w')) (frK (.slice (some ⟨ab,ai,none⟩) xl axc) c6 (.int .i64 (k0:Nat)) c8 (ak (f:Nat)) (.slice (some ⟨hb,ho,none⟩) hl lc) (.int .i64 (i:Nat)) c12 c13 F) W:=by
 unfold frK
 conv=>enter [2];unfold ny;whnf
 by_cases hf0:f=0
 ·have HF0:=qI hf0;subst hf0;rw [show ak (((0:Nat)):Int)=.nilIface from rfl]
  rcases two (kd.toList == [97,100,109,105,116]) with hkk|hkk
  ·have HKK:=qI hkk
   by_cases hnm:nm=nm2
   ·have HNM:=qI hnm;rw [hnm] at v0;clear hnm
    go_quiet (fail)
    exact g6.mk ⟨true,FrS.mk (by kernel_rfl) ⟨(λ_=>⟨rfl,HKK.out,HNM.out⟩),below_drewN (Q0 _ _) nq⟩⟩
   ·have hnn:=Iz hnm;clear hnm
    go_quiet (fail)
    exact g6.mk ⟨false,FrS.mk (by kernel_rfl) ⟨(λh=>by cases h),below_drewN (Q0 _ _) nq⟩⟩
  ·go_quiet (fail)
   exact g6.mk ⟨false,FrS.mk (by kernel_rfl) ⟨(λh=>by cases h),below_drewN (Q0 _ _) nq⟩⟩
 ·rw [dI hf0];clear hf0
  go_quiet (fail)
  exact g6.mk ⟨false,FrS.mk (by kernel_rfl) ⟨(λh=>by cases h),below_drewN (Q0 _ _) nq⟩⟩
end
section
open RowKit Shelf
open Qos (Nd Ct Pd nd ct pd ah aH)
open Sv (Gv Hd gv hd)
open Dvs (Dv dv nth)
attribute [local go_sem] Oper.semAt_some
abbrev xH:=λ(hb ho i cb co cl pc2 gb go' gl gc j:Nat) (g:Gv) (ia:Option Addr) (ic:Nat) (x:Ct) (na:Option Addr) (nc:Nat) (w':World)=>(w'.cell? ⟨hb,ho+i*4+2,none⟩=some (.slice (some ⟨cb,co,none⟩) cl pc2)/\w'.cell? ⟨hb,ho+i*4+3,none⟩=some (.slice (some ⟨gb,go',none⟩) gl gc))/\(w'.cell? ⟨gb,go'+j*2,none⟩=some (.int .u64 (g.cp:Nat))/\w'.cell? ⟨gb,go'+j*2+1,none⟩=some (.slice ia g.dv.length ic))/\w'.cell? ⟨cb,co+j*6,none⟩=some (.string x.nm)/\w'.cell? ⟨cb,co+j*6+1,none⟩=some (.int .i64 x.am)/\w'.cell? ⟨cb,co+j*6+2,none⟩=some (.int .i64 x.ab)/\w'.cell? ⟨cb,co+j*6+3,none⟩=some (.int .i64 x.cm)/\w'.cell? ⟨cb,co+j*6+4,none⟩=some (.int .i64 x.cb)/\w'.cell? ⟨cb,co+j*6+5,none⟩=some (.slice na x.ds.length nc)
theorem Ln (c1 c6 c7 c9:Value) (F:Nat->Value) (W:World) (hb ho hl lc i j cb co cl pc2 gb go' gl gc wg wc:Nat) (wa:Option Addr) (ds:List Dv) (x:Ct) (na:Option Addr) (nc:Nat) (g:Gv) (ia:Option Addr) (ic:Nat) (fr:Bool)
  (hS:∀ V,Below W.heap.size W V->(xH hb ho i cb co cl pc2 gb go' gl gc j g ia ic x na nc) V) (hd:bS W (.slice wa ds.length wc) wg 0 ds) (hn:bc W (.slice na x.ds.length nc) x.ds) (hl2:bj W (.slice ia g.dv.length ic) g.dv) (hk:Ol.j9 ds x.ds g.dv) (hw:fr=true->∀ j∈g.dv,Ol.fq ds j.toNat) (hr:∀ k,k<g.dv.length->0<=nth g.dv k/\nth g.dv k<ds.length) (h16:g.dv.length<=16) (hd16:ds.length<=16) (hx16:x.ds.length<=16) (hi:i<hl) (hjc:j<cl) (hjg:j<gl) :
  Code.wp Tryz.prog (ny 22) (g6 (FrS (λF=>frL c1 c6 c7 (.slice wa ds.length wc) c9 (.slice (some ⟨hb,ho,none⟩) hl lc) (.int .i64 (i:Nat)) (.bool fr) (.int .i64 (j:Nat)) (.bool true) F) (λW'=>Below W.heap.size W W'))) (frK c1 c6 c7 (.slice wa ds.length wc) c9 (.slice (some ⟨hb,ho,none⟩) hl lc) (.int .i64 (i:Nat)) (.bool fr) (.int .i64 (j:Nat)) F) W:=by
 have HSB:=qI hS;have HKI:Hid (∀ V,Below W.heap.size W V->Calls Tryz.prog 20 #[.slice wa ds.length wc,.agg #[.string x.nm,.int .i64 x.am,.int .i64 x.ab,.int .i64 x.cm,.int .i64 x.cb,.slice na x.ds.length nc],.agg #[.int .u64 (g.cp:Nat),.slice ia g.dv.length ic],.bool fr] V λe w'=>e=.returned (.bool true)/\Below V.heap.size V w'):=λV hbb=>Lg _ wg 0 ds x na nc g.cp ia ic g.dv fr V (hd.le (aB.of_below hbb)) (hn.below hbb) (hl2.le (aB.of_below hbb)) hk hw hr h16 hd16 (by omega)
 have HBd:Hid (Below W.heap.size W W.drew):=bf (Q0 _ _);clear hS hd hn hl2 hk hw hr h16 hd16 hx16;unfold frK
 conv=>enter [2];unfold ny;whnf
 refine wp_region_held_drew (S:=xH hb ho i cb co cl pc2 gb go' gl gc j g ia ic x na nc) (by kernel_rfl) (HSB.out _ HBd.out) (λhHeld=>?_);generalize W.drew=V at *;refine tk 0 ?_;refine tk 1 ?_;refine tk 2 ?_;refine tk 3 ?_;refine tk 4 ?_;refine tk 5 ?_;refine tk 6 ?_;refine tk 7 ?_;refine tk 8 ?_;refine tk 9 ?_;refine tk 10 ?_;refine tk 11 ?_;refine tk 12 ?_;refine tk 13 ?_;refine tk 14 ?_;refine tk 15 ?_;refine tk 16 ?_;refine tk 17 ?_;refine tk 18 ?_;refine rd 19 (λK hK=>?_);go_simp
 go_wp2_with fail
 refine (HKI.out _ HBd.out).mono ?_;rintro e V2 ⟨rfl,hb2⟩;have HB2:=qI (HBd.out.trans (hb2.mono HBd.out.size));clear hb2
 go_wp2
 refine hK.out _ _ (HSB.out _ HB2.out) (λhHeld=>?_);clear hK K;refine tk 20 ?_;refine Qn (by kernel_rfl) ?_ _;exact g6.mk (FrS.mk (by kernel_rfl) HB2.out)
theorem Lo (c1 c6 c7 c9:Value) (F:Nat->Value) (W:World) (hb ho hl lc i wg wc:Nat) (wa:Option Addr) (ds:List Dv) (y:Hd) (pa ga:Option Addr) (pc2 gc:Nat) (fr:Bool)
  (hq2:W.cell? ⟨hb,ho+i*4+2,none⟩=some (.slice pa y.pod.cs.length pc2)) (hq3:W.cell? ⟨hb,ho+i*4+3,none⟩=some (.slice ga y.gs.length gc)) (hcon:aE W (.slice pa y.pod.cs.length pc2) y.pod.cs) (hgiv:bl W (.slice ga y.gs.length gc) y.gs) (hgl:y.gs.length=y.pod.cs.length) (hg3:y.gs.length<=3) (hd:bS W (.slice wa ds.length wc) wg 0 ds) (hd16:ds.length<=16)
  (hK:∀ j,j<y.gs.length->Ol.j9 ds (ct y.pod.cs j).ds (gv y.gs j).dv/\(gv y.gs j).dv.length<=16/\(ct y.pod.cs j).ds.length<=16/\∀ k,k<(gv y.gs j).dv.length->0<=nth (gv y.gs j).dv k/\nth (gv y.gs j).dv k<ds.length) (hw:fr=true->∀ g∈y.gs,∀ j∈g.dv,Ol.fq ds j.toNat) (hi:i<hl) :
  Code.wp Tryz.prog (Code.loop (nz 2)) (qt 4 (FrS (λF=>frK c1 c6 c7 (.slice wa ds.length wc) c9 (.slice (some ⟨hb,ho,none⟩) hl lc) (.int .i64 (i:Nat)) (F 12) (F 13) F) (λW'=>Below W.heap.size W W'))) (frK c1 c6 c7 (.slice wa ds.length wc) c9 (.slice (some ⟨hb,ho,none⟩) hl lc) (.int .i64 (i:Nat)) (.bool fr) (.int .i64 0) F) W:=by
 obtain ⟨ga',gc',hgv,hgm,hgp⟩:=hgiv.parts;have hga:ga=ga':=by injection hgv with e
 subst hga;obtain ⟨pa',pc',hcv,hpm,hpr⟩:=id hcon;have hpa:pa=pa':=by injection hcv with e
 subst hpa;have HGP:=qI hgp;have HPR:=qI hpr;have HDV:=qI hd;have HKK:=qI hK;have HWW:=qI hw;have HGL:=qI hgl;have HQ2:=qI hq2;have HQ3:=qI hq3;have hbl:hb<W.heap.size:=Q3 W ⟨hb,_,none⟩ hq2;clear hgv hgm hgp hcv hpm hpr hd hK hw hgl hcon hgiv hq2 hq3
 conv=>enter [2,1];unfold nz;whnf
 refine qv (λm a wq=>∃ (j:Nat) (jv:Value),m+j=y.gs.length/\jv=.int .i64 j/\FrS (λF=>frK c1 c6 c7 (.slice wa ds.length wc) c9 (.slice (some ⟨hb,ho,none⟩) hl lc) (.int .i64 (i:Nat)) (.bool fr) (jv) F) (λwq=>Below W.heap.size W wq) a wq) y.gs.length ?_ ?_
 ·exact ⟨0,.int .i64 0,rfl,rfl,FrS.mk (by kernel_rfl) (Q0 _ _)⟩
 ·rintro m a wr ⟨j,jv,hmj,rfl,F7,rfl,hbw⟩ K hK;have HBW:=qI hbw;have x3:wr.cell? ⟨hb,ho+i*4+3,none⟩=some (.slice ga y.gs.length gc):=(hbw.cell (p:=⟨hb,_,none⟩) hbl).trans HQ3.out;clear hbw;unfold frK;(try dsimp only)
  by_cases hlj:j<y.gs.length
  ·obtain ⟨gb,go',dvv,hga,hgbl,g0,g1,eB⟩:=HGP.out j hlj;subst hga;have hlc:j<y.pod.cs.length:=by have:=HGL.out;omega
   obtain ⟨cb,co,cdv,hpa,hcin⟩:=HPR.out (by omega);subst hpa;obtain ⟨na,nc,hnv,hneed⟩:=(hcin.2 j hlc).2;obtain ⟨ia,ic,hdv,him,hir⟩:=id eB;obtain ⟨hk1,hk2,hk3,hk4⟩:=HKK.out j hlj;have hym:gv y.gs j∈y.gs:=Sv.kR hlj;rw [hdv] at eB g1;have hnd:bc W (.slice na (ct y.pod.cs j).ds.length nc) (ct y.pod.cs j).ds:=by
    have:=(hcin.2 j hlc).2
    rw [hnv] at this;exact this
   have HSX:Hid (∀ V,Below wr.heap.size wr V->(λw':World=>(w'.cell? ⟨hb,ho+i*4+2,none⟩=some (.slice (some ⟨cb,co,none⟩) y.pod.cs.length pc2)/\w'.cell? ⟨hb,ho+i*4+3,none⟩=some (.slice (some ⟨gb,go',none⟩) y.gs.length gc))/\(w'.cell? ⟨gb,go'+j*2,none⟩=some (.int .u64 ((gv y.gs j).cp:Nat))/\w'.cell? ⟨gb,go'+j*2+1,none⟩=some (.slice ia (gv y.gs j).dv.length ic))/\w'.cell? ⟨cb,co+j*6,none⟩=some (.string (ct y.pod.cs j).nm)/\w'.cell? ⟨cb,co+j*6+1,none⟩=some (.int .i64 (ct y.pod.cs j).am)/\w'.cell? ⟨cb,co+j*6+2,none⟩=some (.int .i64 (ct y.pod.cs j).ab)/\w'.cell? ⟨cb,co+j*6+3,none⟩=some (.int .i64 (ct y.pod.cs j).cm)/\w'.cell? ⟨cb,co+j*6+4,none⟩=some (.int .i64 (ct y.pod.cs j).cb)/\w'.cell? ⟨cb,co+j*6+5,none⟩=some (.slice na (ct y.pod.cs j).ds.length nc)) V):=λV hbb=>by
    have hbv:=HBW.out.trans (hbb.mono HBW.out.size);obtain ⟨c0,c1,c2,c3,c4,c5⟩:=(hcin.below hbv).at hlc;rw [hnv] at c5;exact ⟨⟨(hbv.cell (p:=⟨hb,_,none⟩) hbl).trans HQ2.out,(hbv.cell (p:=⟨hb,_,none⟩) hbl).trans HQ3.out⟩,⟨(hbv.cell (p:=⟨gb,_,none⟩) hgbl).trans g0,(hbv.cell (p:=⟨gb,_,none⟩) hgbl).trans g1⟩,c0,c1,c2,c3,c4,c5⟩
   have HPC:=qI (λF1=>Ln c1 c6 c7 c9 F1 wr hb ho hl lc i j cb co y.pod.cs.length pc2 gb go' y.gs.length gc wg wc wa ds (ct y.pod.cs j) na nc (gv y.gs j) ia ic fr HSX.out (HDV.out.le (aB.of_below HBW.out)) (hnd.below HBW.out) (eB.le (aB.of_below HBW.out)) hk1 (λh=>HWW.out h _ hym) hk4 hk2 hd16 hk3 hi hlc hlj);clear HSX hnd eB g0 g1 hym hk1 hk2 hk3 hk4 hnv hneed hdv him hir hcin
   go_upto_region 22 with fail
   clear x3;refine xA (G:=λF=>frK c1 c6 c7 (.slice wa ds.length wc) c9 (.slice (some ⟨hb,ho,none⟩) hl lc) (.int .i64 (i:Nat)) (.bool fr) (.int .i64 (j:Nat)) F) (by kernel_rfl) (λF1=>HPC.out F1) ?_;rintro a W2 ⟨F1,rfl,hb2⟩;have HB2:=qI (HBW.out.trans (hb2.mono HBW.out.size));clear hb2 HPC;unfold frL;(try dsimp only)
   go_wp2
   refine hK.out _ _ ⟨m - 1,by omega,j+1,.int .i64 ((j:Int)+1),by omega,?_,FrS.mk (by kernel_rfl) HB2.out⟩
   go_num
  ·go_wp2
   exact ⟨rfl,FrS.mk (by kernel_rfl) HBW.out⟩
end
section
open RowKit Shelf
open Qos (Nd Ct Pd nd ct pd ah aH)
open Sv (Gv Hd gv hd)
open Dvs (Dv dv nth)
attribute [local go_sem] Oper.semAt_some
theorem Lp (c6 c12 c13:Value) (F:Nat->Value) (U:World) (ab ai xl axc k0 f lc wg wc:Nat) (la wa:Option Addr) (ds:List Dv) (hs:List Hd) (x:Ac)
  (u0:U.cell? ⟨ab,ai+k0*10,none⟩=some (.string x.kd)) (u6:U.cell? ⟨ab,ai+k0*10+6,none⟩=some (.string x.p.nm)) (hk:k0<xl) (hh:aM U (.slice la hs.length lc) hs) (hd:bS U (.slice wa ds.length wc) wg 0 ds) (hKA:xG ds hs) (hFW:f=0->jc x=true->∀ y∈hs,y.pod.nm=x.p.nm->∀ g∈y.gs,∀ j∈g.dv,Ol.fq ds j.toNat) :
  Code.wp Tryz.prog (Code.loop (nz 1)) (qt 2 (FrS (λF=>frK (.slice (some ⟨ab,ai,none⟩) xl axc) c6 (.int .i64 (k0:Nat)) (F 8) (F 9) (F 10) (F 11) (F 12) (F 13) F) (λW'=>Below U.heap.size U W'))) (frK (.slice (some ⟨ab,ai,none⟩) xl axc) c6 (.int .i64 (k0:Nat)) (.slice wa ds.length wc) (ak (f:Nat)) (.slice la hs.length lc) (.int .i64 0) c12 c13 F) U:=by
 obtain ⟨la',lc',hlv,hlm,hlr⟩:=id hh;have hla:la=la':=by injection hlv with e
 subst hla;have HLR:=qI hlr;have HDV:=qI hd;have HKA:=qI hKA;have HFW:=qI hFW;have HU0:=qI u0;have HU6:=qI u6;have hal:ab<U.heap.size:=Q3 U ⟨ab,_,none⟩ u0;have hl12:=hKA.few;clear hlv hlm hlr hd hKA hFW hh u0 u6
 conv=>enter [2,1];unfold nz;whnf
 refine qv (λm a wq=>∃ (i:Nat) (iv:Value),m+i=hs.length/\iv=.int .i64 i/\FrS (λF=>frK (.slice (some ⟨ab,ai,none⟩) xl axc) c6 (.int .i64 (k0:Nat)) (.slice wa ds.length wc) (ak (f:Nat)) (.slice la hs.length lc) (iv) (F 12) (F 13) F) (λwq=>Below U.heap.size U wq) a wq) hs.length ?_ ?_
 ·exact ⟨0,.int .i64 0,rfl,rfl,FrS.mk (by kernel_rfl) (Q0 _ _)⟩
 ·rintro m a wr ⟨i,iv,hmi,rfl,F7,rfl,hbw⟩ K hK;have HBW:=qI hbw;clear hbw;unfold frK;(try dsimp only)
  by_cases hli:i<hs.length
  ·obtain ⟨hb,ho,cvv,gvv,hao,hin⟩:=HLR.out (by omega);subst hao;obtain ⟨hbl,hin2⟩:=hin;obtain ⟨⟨q0,q1,q2,q3⟩,hcon,hgiv⟩:=hin2 i hli;obtain ⟨pa,pcc,hcv,_⟩:=id hcon;obtain ⟨ga,gc,hgv,_⟩:=hgiv.parts;rw [hcv] at q2 hcon;rw [hgv] at q3 hgiv;have hxm:hd hs i∈hs:=Sv.jU hli;have HKX:=qI (HKA.out.one _ hxm);obtain ⟨hg3,hgl⟩:=HKA.out.gs _ hxm;have HFX:Hid (f=0->jc x=true->(hd hs i).pod.nm=x.p.nm->∀ g∈(hd hs i).gs,∀ j∈g.dv,Ol.fq ds j.toNat):=λh1 h2 h3=>HFW.out h1 h2 _ hxm h3
   have HCON:=qI hcon;have HGIV:=qI hgiv;have HGL:=qI hgl;have HQ2:=qI q2;have HQ3:=qI q3;have v0:=(HBW.out.cell (p:=⟨hb,ho+i*4,none⟩) hbl).trans q0;have u0:=(HBW.out.cell (p:=⟨ab,ai+k0*10,none⟩) hal).trans HU0.out;have u6:=(HBW.out.cell (p:=⟨ab,ai+k0*10+6,none⟩) hal).trans HU6.out;clear hin2 hcon hgiv hcv hgv q0 q1 q2 q3 hxm hgl;generalize hd hs i=y at *
   go_upto_region 18 with fail
   refine xA (G:=λF=>frK (.slice (some ⟨ab,ai,none⟩) xl axc) c6 (.int .i64 (k0:Nat)) (.slice wa ds.length wc) (ak (f:Nat)) (.slice (some ⟨hb,ho,none⟩) hs.length lc) (.int .i64 (i:Nat)) (F 12) (F 13) F) (by kernel_rfl) (λF1=>Lm _ _ _ _ F1 wr ab ai xl axc k0 f hb ho hs.length lc i x.kd y.pod.nm x.p.nm u0 u6 v0 hk hli) ?_;rintro a W2 ⟨fr,F1,rfl,hfr,hb2⟩;have HB2:=qI (HBW.out.trans (hb2.mono HBW.out.size));have HFR:Hid (fr=true->∀ g∈y.gs,∀ j∈g.dv,Ol.fq ds j.toNat):=λh=>HFX.out (hfr h).1 (hfr h).2.1 (hfr h).2.2
   clear hb2 hfr u0 u6 v0 HFX;unfold frK;(try dsimp only)
   go_wp2_with fail
   refine xz (G:=λF=>frK (.slice (some ⟨ab,ai,none⟩) xl axc) c6 (.int .i64 (k0:Nat)) (.slice wa ds.length wc) (ak (f:Nat)) (.slice (some ⟨hb,ho,none⟩) hs.length lc) (.int .i64 (i:Nat)) (.bool fr) (.int .i64 0) F) (by kernel_rfl) (λF2=>Lo _ _ _ _ F2 W2 hb ho hs.length lc i wg wc wa ds y pa ga pcc gc fr ((HB2.out.cell (p:=⟨hb,_,none⟩) hbl).trans HQ2.out) ((HB2.out.cell (p:=⟨hb,_,none⟩) hbl).trans HQ3.out) (HCON.out.below HB2.out) (HGIV.out.le (aB.of_below HB2.out)) HGL.out hg3 (HDV.out.le (aB.of_below HB2.out)) HKA.out.ds HKX.out HFR.out hli) ?_;rintro a W3 ⟨F2,rfl,hb3⟩;have HB3:=qI (HB2.out.trans (hb3.mono HB2.out.size));clear hb3;unfold frK;(try dsimp only)
   go_wp2
   refine hK.out _ _ ⟨m - 1,by omega,i+1,.int .i64 ((i:Int)+1),by omega,?_,FrS.mk (by kernel_rfl) HB3.out⟩
   go_num
  ·go_wp2
   exact ⟨rfl,FrS.mk (by kernel_rfl) HBW.out⟩
end
