/- VL1, OT0, OT1, OT2 -/
import Derived.Test.YtbfdcmodflnkfaaGreatDoorU44
import Derived.Test.YtbfdcmodflnkfaaGreatDoorU41
import Derived.Test.YtbfdcmodflnkfaaGreatDoorU42
set_option maxRecDepth 100000
set_option maxHeartbeats 16000000
namespace Go.Proofs.YtbfdcmodflnkfaaGreatDoor
section
open Go.RowKit Go.Shelf
open Qos (Nd Ct Pd nd ct pd)
open Sv (Gv Hd gv hd)
theorem NeedsAt.rowsL {w:World} {v:Value} {ds:List Nd} (h:NeedsAt w v ds):RowsOf w v 2 pairP:=by
 obtain ⟨ao,c,hv,hm,hr⟩:=h
 refine ⟨ao,_,c,hv,hm,fun h0=>?_⟩
 obtain ⟨b,o,ha,hlt,hc⟩:=hr h0
 refine ⟨b,o,ha,hlt,fun k hk=>⟨[.string (nd ds k).kind,.int .i64 (nd ds k).many],rfl,fun j hj=>?_,⟨_,_,rfl⟩⟩⟩
 match j,hj with
 | 0,_=>exact (hc k hk).1
 | 1,_=>exact (hc k hk).2
theorem ConsAt.rowsL {w:World} {v:Value} {cs:List Ct} (h:ConsAt w v cs):RowsOf w v 6 (contP w):=by
 obtain ⟨ao,c,hv,hm,hr⟩:=h
 refine ⟨ao,_,c,hv,Nat.le_trans hm.1 hm.2,fun h0=>?_⟩
 obtain ⟨b,o,dv,ha,hc⟩:=hr h0
 exact ⟨b,o,ha,hc.1,fun k hk=>⟨contCells (ct cs k) (dv k),rfl,(hc.2 k hk).1,⟨_,_,_,_,_,_,rfl,(hc.2 k hk).2.rowsL⟩⟩⟩
theorem lightPodL {p:Pd} {cv:Value} {w:World} (h:ConsAt w cv p.cs):Calls Tryz.prog 10 #[podV p cv] w fun e w'=>Ans e∧Below w.heap.size w w':=lightPod_any p.nm p.pr cv w h.rowsL
theorem run_assertN (f:Int) (w:World):(Instr.typeAssert (.iface 94 (.int .i64 f)) 44 94 true).run Tryz.prog w=.ok (.tuple #[.int .i64 f,.bool true]) w:=by kernel_rfl
theorem number_any (k:Int) (w:World):Calls Tryz.prog 22 #[.iface 94 (.int .i64 k)] w fun e w'=>e=.returned (.int .i64 k)∧w'=w:=by
 have hta:=run_assertN k
 go_enter Tryz.func22,Tryz.ntmps22
 go_wp2_with fail
 go_ret
 exact ⟨rfl,rfl⟩
end
section
open Go.RowKit Go.Shelf
open Ost (Cpu cpu0)
open Qos (Nd Ct Pd nd ct pd podF)
open Sv (Gv Hd gv hd gsF heldF heldTxt)
open Dvs (Dv dv Nodes)
attribute [local go_sem] Oper.semAt_some
theorem below_apart {B:Nat} {w W W':World} {K:Nat→Prop} (hb:Below B w W) (hB:B≤W.heap.size) (ha:Apart K W W') (hK:∀ j,K j→B≤j):Below B w W':=
 ⟨ha.os.trans hb.os,ha.tape.trans hb.tape,ha.output.trans hb.output,Nat.le_trans hb.size ha.size,fun j hj=>(ha.block j (by omega) (fun e=>by have:=hK j e;omega)).trans (hb.block j hj)⟩
theorem number_nil (w:World):Calls Tryz.prog 22 #[.nilIface] w fun e w'=>e=.returned (.int .i64 0)∧w'=w:=by
 go_enter Tryz.func22,Tryz.ntmps22
 go_wp2_with fail
 go_ret
 exact ⟨rfl,rfl⟩
theorem numberE (k:Nat) (w:World):Calls Tryz.prog 22 #[errV (k:Int)] w fun e w'=>e=.returned (.int .i64 k)∧w'=w:=by
 by_cases h:k=0
 ·subst h;exact number_nil w
 ·rw [errQ_pos h];exact number_any _ w
theorem lightConf_any (c:Ol.Cf) (v1 v2:Value) (g o:Nat) (w:World) (h1:CpusAt w v1 c.l) (h2:DevsAt w v2 g o c.ds):Calls Tryz.prog 8 #[confV c v1 v2] w fun e w'=>Ans e∧Below w.heap.size w w':=by
 obtain ⟨ca,cc,hv1⟩:∃ ca cc,v1=.slice ca c.l.length cc:=by
  rcases id h1 with ⟨hl,ao,q,rfl⟩|⟨b,o,q,rfl,_⟩
  ·exact ⟨ao,q,by rw [hl];rfl⟩
  ·exact ⟨_,q,rfl⟩
 obtain ⟨da,dc,hv2,hr⟩:=h2
 subst hv1 hv2
 have HR:=hZz hr
 clear h1 hr
 unfold confV
 generalize c.l.length=cl at *
 have HB0:=hZz ((Below.refl w.heap.size w).alloc (Nat.le_refl _) (.cells #[.slice ca cl cc,.int .u64 (c.keep:Nat),.int .i64 c.nb,.slice da c.ds.length dc,.int .i64 c.pol] 27))
 have HX0:=hZz (heap_madeO w (.cells #[.slice ca cl cc,.int .u64 (c.keep:Nat),.int .i64 c.nb,.slice da c.ds.length dc,.int .i64 c.pol] 27) rfl)
 by_cases h70:70<cl
 ·go_enter Tryz.func8,Tryz.ntmps8
  go_wp2_with fail
  go_ret
  exact ⟨⟨_,rfl⟩,HB0.out⟩
 have hd1:decide (70<(cl:Int))=false:=decide_eq_false (by omega)
 by_cases h20:20<c.ds.length
 ·go_enter Tryz.func8,Tryz.ntmps8
  go_wp2_with fail
  go_ret
  exact ⟨⟨_,rfl⟩,HB0.out⟩
 have hd2:decide (20<(c.ds.length:Int))=false:=decide_eq_false (by omega)
 have h20':c.ds.length≤20:=by omega
 clear h70 h20
 go_enter Tryz.func8,Tryz.ntmps8
 go_wp2_with fail
 generalize w.alloc (.cells #[.slice ca cl cc,.int .u64 (c.keep:Nat),.int .i64 c.nb,.slice da c.ds.length dc,.int .i64 c.pol] 27)=X at *
 go_loopw [3] (fun i wr=>∃ k:Nat,k≤c.ds.length∧i=.int .i64 k∧wr=X) (fun i _=>c.ds.length - (intOf i).toNat)
 case atStart=>exact ⟨0,Nat.zero_le _,rfl,rfl⟩
 case round=>
  obtain ⟨k,hk,rfl,rfl⟩:=hrel
  have x3:wr.cell? ⟨w.heap.size,3,none⟩=some (.slice da c.ds.length dc):=cell_of_heapV HX0.out 3
  by_cases hlt:k<c.ds.length
  ·obtain ⟨rfl,hgl,hc⟩:=HR.out (by omega)
   have y0:wr.cell? ⟨g,o+k*3,none⟩=some (.string (dv c.ds k).kind):=(HB0.out.cell (p:=⟨g,o+k*3,none⟩) hgl).trans (hc k hlt).1
   clear hc
   generalize (dv c.ds k).kind=kd at *
   by_cases h30:30<kd.size
   ·go_wp2_with fail
    go_ret
    exact ⟨⟨_,rfl⟩,HB0.out⟩
   ·have hd3:decide (30<(kd.size:Int))=false:=decide_eq_false (by omega)
    clear h30
    go_wp2_with fail
    go_roundw
    case rel=>exact ⟨k+1,by omega,by go_num,trivial⟩
    case measure=>simp [intOf];omega
  ·go_wp2_with fail
   go_ret
   exact ⟨⟨_,rfl⟩,HB0.out⟩
end
section
open Go.RowKit Go.Shelf
open Ost (Cpu cpu0)
open Qos (Nd Ct Pd nd ct pd podF)
open Sv (Gv Hd gv hd gsF heldF heldTxt)
open Dvs (Dv dv Nodes)
open S1 (Mx)
attribute [local go_sem] Oper.semAt_some
theorem held_mach {N:Nat→Prop} {Ba Bd Be Bm:Nat} {t:Ol.St} {dk:Dk} {n:Nat} {w:World} (h:Mach w N Ba Bd Be Bm t dk n):Calls Tryz.prog 13 #[.pointer (some ⟨Ba,0,none⟩)] w fun e w'=>∃ a c,e=.returned (.slice a t.hs.length c)∧HldsAt (fresh w.heap.size w') (.slice a t.hs.length c) t.hs∧Below w.heap.size w w':=by
 obtain ⟨h1,hcalm,hcpu,hE,hab,hfr,hnl,htx,tb,b,tc,hv,pb,db,ao,pc,s,k1,k2,k3,k4,k5,k6,k7⟩:=h
 obtain ⟨a1,a2,a3⟩:=Ol.heldF_iff.1 h1.held
 exact held_any Ba tb t.m Bd Be hv s.cp pb t.hs w k1 (k2.le (mask_off _ _)) a2 (by omega)
theorem admit_has {t:Ol.St} {p:Pd} (h:(Ol.admit t p).1=0):hasN (Ol.admit t p).2 p.nm=true:=by
 rcases two (hasN (Ol.admit t p).2 p.nm) with e|e
 ·exact e
 ·exfalso
  have h1:=Ol.admit_gone h
  have h2:=Ol.admit_len h
  rw [without_none e] at h1
  rw [h1] at h2
  omega
theorem consOne {W:World} {b:Nat} {nm:ByteArray} (h:W.heap[b]?=some (.cells #[.string nm,.int .i64 0,.int .i64 0,.int .i64 0,.int .i64 0,.slice none 0 0] 64 (0,0))):ConsAt W (.slice (some ⟨b,0,none⟩) 1 1) [⟨nm,0,0,0,0,[]⟩]:=by
 have hl:b<W.heap.size:=(Array.getElem?_eq_some_iff.1 h).1
 refine ⟨_,_,rfl,⟨Nat.le_refl _,by decide⟩,fun _=>⟨b,0,fun _=>.slice none 0 0,rfl,hl,fun k hk=>?_⟩⟩
 have hk0:k=0:=by simp at hk;exact hk
 subst hk0
 refine ⟨fun j hj=>?_,⟨none,0,rfl,by simp [ct],fun h=>by simp [ct] at h⟩⟩
 have:=cell_of_heapV h j
 simp only [Nat.zero_mul,Nat.zero_add]
 rw [this]
 have:j=0∨j=1∨j=2∨j=3∨j=4∨j=5:=by omega
 rcases this with rfl|rfl|rfl|rfl|rfl|rfl <;> rfl
theorem cpusOne {W:World} {b:Nat} (h:W.heap[b]?=some (.cells #[.int .i64 0,.int .i64 0,.int .i64 0] 78 (0,0))):CpusAt W (.slice (some ⟨b,0,none⟩) 1 1) [⟨0,0,0⟩]:=by
 refine .inr ⟨b,0,1,rfl,fun k hk=>?_⟩
 have hk0:k=0:=by simp at hk;exact hk
 subst hk0
 exact ⟨cell_of_heapV h 0,cell_of_heapV h 1,cell_of_heapV h 2⟩
abbrev none1:Nat→Prop:=fun _=>False
theorem works_true (w:World) (ht:TabUp w) (hm:Mx w):Calls Tryz.prog 7 #[] w fun e w'=>e=.returned (.bool true)∧Below w.heap.size w w':=by
 have HB0:=hZz ((Below.refl w.heap.size w).alloc (Nat.le_refl _) (.cells #[.int .i64 0,.int .i64 0,.int .i64 0] 78))
 have HX0:=hZz (heap_madeO w (.cells #[.int .i64 0,.int .i64 0,.int .i64 0] 78) rfl)
 have HT:=hZz ht
 have HM:=hZz hm
 have hgl:0<w.heap.size:=ht.2
 clear ht hm
 go_enter Tryz.func7,Tryz.ntmps7
 go_wp2_with fail
 generalize w.alloc (.cells #[.int .i64 0,.int .i64 0,.int .i64 0] 78)=X at *
 refine (boot_any Ol.wC (.slice (some ⟨w.heap.size,0,none⟩) 1 1) (.slice none 0 0) 0 0 X (cpusOne HX0.out) ⟨none,0,rfl,fun h=>by simp [Ol.wC] at h⟩ (by decide) (HT.out.below HB0.out) (HM.out.below HB0.out)).mono ?_
 rintro e W1 ⟨hbad,hgood,hout⟩
 clear hbad
 obtain ⟨Ba,Bd,Be,Bm,rfl,hM1,l1,l2,l3,l4⟩:=hgood Ol.wC_ok
 have hX:w.heap.size≤X.heap.size:=HB0.out.size
 have HB1:Hid (Below w.heap.size w W1):=HB0.out.trans (hout.mono hX)
 have HM1:=hZz hM1
 have h3:∀ j,three Ba Bd Bm j→w.heap.size≤j:=fun j hj=>by
  rcases hj with e|e|e <;> omega
 have H3:=hZz h3
 have HG3:Hid (¬ three Ba Bd Bm 0):=fun e=>by have:=h3 _ e;omega
 clear hgood hout hM1 h3
 have HB2:=hZz (HB1.out.alloc HB1.out.size (.cells #[.pointer (some ⟨Bd,0,none⟩),.pointer (some ⟨Be,0,none⟩),.pointer (some ⟨Ba,0,none⟩)] 40))
 have HC2:=hZz ((Below.refl W1.heap.size W1).alloc (Nat.le_refl _) (.cells #[.pointer (some ⟨Bd,0,none⟩),.pointer (some ⟨Be,0,none⟩),.pointer (some ⟨Ba,0,none⟩)] 40))
 have HX2:=hZz (heap_madeO W1 (.cells #[.pointer (some ⟨Bd,0,none⟩),.pointer (some ⟨Be,0,none⟩),.pointer (some ⟨Ba,0,none⟩)] 40) rfl)
 have HS2:Hid ((W1.alloc (.cells #[.pointer (some ⟨Bd,0,none⟩),.pointer (some ⟨Be,0,none⟩),.pointer (some ⟨Ba,0,none⟩)] 40)).heap.size=W1.heap.size+1):=by unfold Hid;simp
 have x2:(W1.alloc (.cells #[.pointer (some ⟨Bd,0,none⟩),.pointer (some ⟨Be,0,none⟩),.pointer (some ⟨Ba,0,none⟩)] 40)).cell? ⟨W1.heap.size,2,none⟩=some (.pointer (some ⟨Ba,0,none⟩)):=cell_of_heapV HX2.out 2
 go_upto_region 4 with fail
 generalize W1.alloc (.cells #[.pointer (some ⟨Bd,0,none⟩),.pointer (some ⟨Be,0,none⟩),.pointer (some ⟨Ba,0,none⟩)] 40)=Y at *
 have HB3:=hZz (HB2.out.alloc HB2.out.size (.cells #[.string ⟨#[120]⟩,.int .i64 0,.int .i64 0,.int .i64 0,.int .i64 0,.slice none 0 0] 64))
 have HC3:=hZz (HC2.out.alloc HC2.out.size (.cells #[.string ⟨#[120]⟩,.int .i64 0,.int .i64 0,.int .i64 0,.int .i64 0,.slice none 0 0] 64))
 have HX3:=hZz (heap_madeO Y (.cells #[.string ⟨#[120]⟩,.int .i64 0,.int .i64 0,.int .i64 0,.int .i64 0,.slice none 0 0] 64) rfl)
 have HY3:=hZz (heap_oldO HX2.out (.cells #[.string ⟨#[120]⟩,.int .i64 0,.int .i64 0,.int .i64 0,.int .i64 0,.slice none 0 0] 64))
 go_wp2_with fail
 clear x2
 generalize Y.alloc (.cells #[.string ⟨#[120]⟩,.int .i64 0,.int .i64 0,.int .i64 0,.int .i64 0,.slice none 0 0] 64)=Z at *
 have lba:Ba<W1.heap.size:=by
  obtain ⟨_,_,_,_,_,_,_,_,_,_,_,_,_,_,_,_,_,k1,_⟩:=HM1.out
  exact k1.lt
 obtain ⟨lbe,lbd,lbm⟩:=HM1.out.eng.lt
 have hs2:=HS2.out
 have HAD:=hZz (admit_any none1 Ba Bd Be Bm ⟨Ol.mcOf Ol.wC,Ol.wC.ds,[]⟩ Dk.fresh 0 Ol.wP (.slice (some ⟨Y.heap.size,0,none⟩) 1 1) Z (HM1.out.keep HC3.out) (consOne (by rw [mask_out (by rintro (e|e|e|e) <;> first|exact e|omega)];exact HX3.out)) (HT.out.below HB3.out) (by omega) (fun l hl=>by
  have:l=[]:=by simpa using hl
  subst this
  exact insOK_end (l:=[]) (by simp)))
 unfold podV at HAD
 clear hs2
 refine HAD.out.mono ?_
 clear HAD
 rintro e W4 ⟨rfl,⟨dk4,n4,hn4,hM4⟩,ha4⟩
 have hadm:(Ol.admit ⟨Ol.mcOf Ol.wC,Ol.wC.ds,[]⟩ Ol.wP).1=0:=Ol.w_admit
 have HHAS:=hZz (admit_has hadm)
 have HLEN:Hid ((Ol.admit ⟨Ol.mcOf Ol.wC,Ol.wC.ds,[]⟩ Ol.wP).2.length=1):=Ol.admit_len hadm
 have HGONE:Hid (Ol.without (Ol.admit ⟨Ol.mcOf Ol.wC,Ol.wC.ds,[]⟩ Ol.wP).2 Ol.wP.nm=[]):=Ol.admit_gone hadm
 have hn4':n4≤36:=by
  have h1:=newOf_le (runsOf []) (runsOf (Ol.admit ⟨Ol.mcOf Ol.wC,Ol.wC.ds,[]⟩ Ol.wP).2)
  have h2:=runs_len hM4.inv.held
  dsimp only at hn4 h2
  omega
 rw [hadm]
 generalize (Ol.admit ⟨Ol.mcOf Ol.wC,Ol.wC.ds,[]⟩ Ol.wP).2=hs4 at *
 have HM4:=hZz hM4
 have HB4:=hZz (below_apart HB3.out HB3.out.size ha4 H3.out)
 have HTA4:Hid (∀ W,Apart (three Ba Bd Bm) Z W→TabUp W):=fun W hW=>tab_apart (HT.out.below HB3.out) hW HG3.out
 have HA4:=hZz ha4
 have HMB:Hid (¬ three Ba Bd Bm W1.heap.size):=fun e=>by rcases e with e|e|e <;> omega
 have hZ:W1.heap.size<Z.heap.size:=(Array.getElem?_eq_some_iff.1 HY3.out).1
 have HY4:=hZz ((ha4.block W1.heap.size hZ HMB.out).trans HY3.out)
 have x2:W4.cell? ⟨W1.heap.size,2,none⟩=some (.pointer (some ⟨Ba,0,none⟩)):=cell_of_heapV HY4.out 2
 rw [show errV (((0:Nat)):Int)=.nilIface from rfl]
 clear hadm hn4 hM4 ha4
 go_wp2_with fail
 refine (held_mach HM4.out).mono ?_
 rintro e W5 ⟨a5,c5,rfl,_,hb5⟩
 dsimp only
 rw [HLEN.out]
 have HB5:=hZz (HB4.out.trans (hb5.mono HB4.out.size))
 have HA5:=hZz (HA4.out.trans (Apart.of_below hb5))
 have HM5:=hZz (HM4.out.keep hb5)
 have hs5:=hb5.size
 have hs4:=HA4.out.size
 have HY5:=hZz ((hb5.block W1.heap.size (by omega)).trans HY4.out)
 have x2':W5.cell? ⟨W1.heap.size,2,none⟩=some (.pointer (some ⟨Ba,0,none⟩)):=cell_of_heapV HY5.out 2
 clear hb5 x2
 have HRM:=hZz (remove_any none1 Ba Bd Be Bm _ dk4 n4 Ol.wP.nm W5 HM5.out (by omega) (fun W hW=>HTA4.out W (HA5.out.trans hW)))
 dsimp only at HRM
 rw [HHAS.out,HGONE.out] at HRM
 unfold Ol.wP at HRM
 dsimp only at HRM
 go_wp2_with fail
 refine HRM.out.mono ?_
 rintro e W6 ⟨rfl,⟨dk6,n6,hn6,hM6⟩,ha6⟩
 rw [show errV (((if True then 0 else 6:Nat)):Int)=.nilIface from rfl]
 have HM6:=hZz hM6
 have HB6:=hZz (below_apart HB5.out HB5.out.size ha6 H3.out)
 have HY6:=hZz ((ha6.block W1.heap.size (by omega) HMB.out).trans HY5.out)
 have x2'':W6.cell? ⟨W1.heap.size,2,none⟩=some (.pointer (some ⟨Ba,0,none⟩)):=cell_of_heapV HY6.out 2
 clear hn6 hM6 ha6 x2' HRM
 go_wp2_with fail
 refine (held_mach HM6.out).mono ?_
 rintro e W7 ⟨a7,c7,rfl,_,hb7⟩
 dsimp only
 have HB7:=hZz (HB6.out.trans (hb7.mono HB6.out.size))
 clear hb7
 go_wp2_with fail
 go_ret
 exact ⟨rfl,HB7.out⟩
end
section
open Go.RowKit Go.Shelf
open Ost (Cpu cpu0)
open Qos (Nd Ct Pd nd ct pd podF)
open Sv (Gv Hd gv hd gsF heldF heldTxt)
open Dvs (Dv dv Nodes)
open S1 (Mx)
attribute [local go_sem] Oper.semAt_some
theorem looser {c:Ol.Cf} {p:Pd} {q:Int} (hm:(Ol.mcOf c).nd<256∧(Ol.mcOf c).op<18446744073709551616) (hd:Dvs.fault c.ds=0) (h1:p.cs.length=1) (h0:0≤q) (h3:q+1≤3) (h:(Ol.admit ⟨Ol.mcOf ({ c with pol:=q+1 }:Ol.Cf),c.ds,[]⟩ p).1=0):(Ol.admit ⟨Ol.mcOf ({ c with pol:=q }:Ol.Cf),c.ds,[]⟩ p).1=0:=
 Ol.admit_looser (m:=Ol.mcOf c) (ds:=c.ds) (a:=q+1) (q:=q) hm.1 hm.2 hd h1 h0 h3 (show q≤q+1 by omega) h
theorem topPolicy_true (c:Ol.Cf) (v1 v2:Value) (g o:Nat) (p:Pd) (cv:Value) (w:World) (h1:CpusAt w v1 c.l) (h2:DevsAt w v2 g o c.ds) (hk:c.keep<18446744073709551616) (hp:ConsAt w cv p.cs) (ht:TabUp w) (hm:Mx w) :
  Calls Tryz.prog 6 #[confV c v1 v2,podV p cv] w fun e w'=>e=.returned (.bool true)∧Below w.heap.size w w':=by
 obtain ⟨ca,cc,hv1⟩:∃ ca cc,v1=.slice ca c.l.length cc:=by
  rcases id h1 with ⟨hl,ao,q,rfl⟩|⟨b,o,q,rfl,_⟩
  ·exact ⟨ao,q,by rw [hl];rfl⟩
  ·exact ⟨_,q,rfl⟩
 obtain ⟨da,dc,hv2⟩:∃ da dc,v2=.slice da c.ds.length dc:=by
  obtain ⟨da,dc,e,_⟩:=id h2
  exact ⟨da,dc,e⟩
 obtain ⟨pa,pcc,hcv⟩:∃ pa pcc,cv=.slice pa p.cs.length pcc:=by
  obtain ⟨pa,pcc,e,_⟩:=id hp
  exact ⟨pa,pcc,e⟩
 subst hv1 hv2 hcv
 have H1:=hZz h1
 have H2:=hZz h2
 have HP:=hZz hp
 have HT:=hZz ht
 have HM:=hZz hm
 clear h1 h2 hp ht hm
 unfold confV podV
 have HB0:=hZz (((Below.refl w.heap.size w).alloc (Nat.le_refl _) (.cells #[.slice ca c.l.length cc,.int .u64 (c.keep:Nat),.int .i64 c.nb,.slice da c.ds.length dc,.int .i64 c.pol] 27)).alloc (by simp) (.cells #[.string p.nm,.int .i64 p.pr,.slice pa p.cs.length pcc] 31))
 obtain ⟨Bc,hBc⟩:∃ Bc,Bc=w.heap.size:=⟨_,rfl⟩
 obtain ⟨Bp,hBp⟩:∃ Bp,Bp=w.heap.size+1:=⟨_,rfl⟩
 have HXC:Hid (((w.alloc (.cells #[.slice ca c.l.length cc,.int .u64 (c.keep:Nat),.int .i64 c.nb,.slice da c.ds.length dc,.int .i64 c.pol] 27)).alloc (.cells #[.string p.nm,.int .i64 p.pr,.slice pa p.cs.length pcc] 31)).heap[Bc]?=some (.cells #[.slice ca c.l.length cc,.int .u64 (c.keep:Nat),.int .i64 c.nb,.slice da c.ds.length dc,.int .i64 c.pol] 27)):=by
  unfold Hid
  rw [hBc]
  exact heap_oldO (heap_madeO w (.cells #[.slice ca c.l.length cc,.int .u64 (c.keep:Nat),.int .i64 c.nb,.slice da c.ds.length dc,.int .i64 c.pol] 27) rfl) _
 have HXP:Hid (((w.alloc (.cells #[.slice ca c.l.length cc,.int .u64 (c.keep:Nat),.int .i64 c.nb,.slice da c.ds.length dc,.int .i64 c.pol] 27)).alloc (.cells #[.string p.nm,.int .i64 p.pr,.slice pa p.cs.length pcc] 31)).heap[Bp]?=some (.cells #[.string p.nm,.int .i64 p.pr,.slice pa p.cs.length pcc] 31)):=by
  unfold Hid
  rw [hBp]
  exact heap_madeO (w.alloc (.cells #[.slice ca c.l.length cc,.int .u64 (c.keep:Nat),.int .i64 c.nb,.slice da c.ds.length dc,.int .i64 c.pol] 27)) (.cells #[.string p.nm,.int .i64 p.pr,.slice pa p.cs.length pcc] 31) (by simp)
 have HLP0:Hid (Bp=Bc+1):=by unfold Hid;rw [hBp,hBc]
 have HBC:=hZz hBc
 go_enter Tryz.func6,Tryz.ntmps6
 go_wp2_with fail
 rw [← hBp]
 rw [← hBc]
 generalize ((w.alloc (.cells #[.slice ca c.l.length cc,.int .u64 (c.keep:Nat),.int .i64 c.nb,.slice da c.ds.length dc,.int .i64 c.pol] 27)).alloc (.cells #[.string p.nm,.int .i64 p.pr,.slice pa p.cs.length pcc] 31))=X at *
 clear hBp hBc
 refine (works_true X (HT.out.below HB0.out) (HM.out.below HB0.out)).mono ?_
 rintro e W1 ⟨rfl,hb1⟩
 have hlp:=HLP0.out
 have hXp:Bp<X.heap.size:=(Array.getElem?_eq_some_iff.1 HXP.out).1
 have HB1:=hZz (HB0.out.trans (hb1.mono HB0.out.size))
 have HC1:=hZz ((hb1.block Bc (by omega)).trans HXC.out)
 have HP1:=hZz ((hb1.block Bp hXp).trans HXP.out)
 have hs1:=hb1.size
 have hXc:Bc<X.heap.size:=by omega
 clear hb1 hlp
 have x0:W1.cell? ⟨Bc,0,none⟩=some (.slice ca c.l.length cc):=cell_of_heapV HC1.out 0
 have x1:W1.cell? ⟨Bc,1,none⟩=some (.int .u64 (c.keep:Nat)):=cell_of_heapV HC1.out 1
 have x2:W1.cell? ⟨Bc,2,none⟩=some (.int .i64 c.nb):=cell_of_heapV HC1.out 2
 have x3:W1.cell? ⟨Bc,3,none⟩=some (.slice da c.ds.length dc):=cell_of_heapV HC1.out 3
 have x4:W1.cell? ⟨Bc,4,none⟩=some (.int .i64 c.pol):=cell_of_heapV HC1.out 4
 have HLC:=hZz (lightConf_any c (.slice ca c.l.length cc) (.slice da c.ds.length dc) g o W1 (H1.out.below HB1.out) (H2.out.below HB1.out))
 unfold confV at HLC
 go_wp2_with fail
 refine HLC.out.mono ?_
 rintro e W2 ⟨⟨b,rfl⟩,hb2⟩
 have HB2:=hZz (HB1.out.trans (hb2.mono HB1.out.size))
 have HC2:=hZz ((hb2.block Bc (by omega)).trans HC1.out)
 have HP2:=hZz ((hb2.block Bp (by omega)).trans HP1.out)
 have hs2:=hb2.size
 clear hb2 x0 x1 x2 x3 x4 HLC
 rcases two b with rfl|rfl
 rotate_left
 ·go_wp2_with fail
  go_ret
  exact ⟨rfl,HB2.out⟩
 have x0:W2.cell? ⟨Bp,0,none⟩=some (.string p.nm):=cell_of_heapV HP2.out 0
 have x1:W2.cell? ⟨Bp,1,none⟩=some (.int .i64 p.pr):=cell_of_heapV HP2.out 1
 have x2:W2.cell? ⟨Bp,2,none⟩=some (.slice pa p.cs.length pcc):=cell_of_heapV HP2.out 2
 have HLP:=hZz (lightPodL (p:=p) (HP.out.below HB2.out))
 unfold podV at HLP
 go_wp2_with fail
 refine HLP.out.mono ?_
 rintro e W3 ⟨⟨b,rfl⟩,hb3⟩
 have HB3:=hZz (HB2.out.trans (hb3.mono HB2.out.size))
 have HC3:=hZz ((hb3.block Bc (by omega)).trans HC2.out)
 have HP3:=hZz ((hb3.block Bp (by omega)).trans HP2.out)
 clear hb3 x0 x1 x2 HLP HB2 HC2 HP2 HC1 HP1 HB1 hs1 hs2 HXC HXP hXp hXc HB0
 rcases two b with rfl|rfl
 rotate_left
 ·go_wp2_with fail
  go_ret
  exact ⟨rfl,HB3.out⟩
 go_wp2_with fail
 go_loopw [6,7] (fun last i wr=>∃ k q qo:Int,last=.int .i64 k∧i=.int .i64 q∧-1≤q∧q≤3∧(k=0→q<3∧Ol.confF ({ c with pol:=q+1 }:Ol.Cf)=0∧(Ol.admit ⟨Ol.mcOf ({ c with pol:=q+1 }:Ol.Cf),c.ds,[]⟩ p).1=0)∧Below w.heap.size w wr∧wr.heap[Bc]?=some (.cells #[.slice ca c.l.length cc,.int .u64 (c.keep:Nat),.int .i64 c.nb,.slice da c.ds.length dc,.int .i64 qo] 27)∧wr.heap[Bp]?=some (.cells #[.string p.nm,.int .i64 p.pr,.slice pa p.cs.length pcc] 31)) (fun _ i _=>(intOf i+1).toNat)
 case atStart=>exact ⟨-1,3,c.pol,rfl,rfl,by omega,by omega,fun h=>by omega,HB3.out,HC3.out,HP3.out⟩
 case round=>
  obtain ⟨k,q,qo,rfl,rfl,hq1,hq2,hlast,hb,hc,hpp⟩:=hrel
  have HL:=hZz hlast
  have HB:=hZz hb
  have HC:=hZz hc
  have HPP:=hZz hpp
  have hsw:=hb.size
  have hbcl:Bc<wr.heap.size:=(Array.getElem?_eq_some_iff.1 hc).1
  have hbpl:Bp<wr.heap.size:=(Array.getElem?_eq_some_iff.1 hpp).1
  clear hlast hb hc hpp HB3 HC3 HP3
  by_cases hq0:0≤q
  ·have z4:wr.cell? ⟨Bc,4,none⟩=some (.int .i64 qo):=cell_of_heapV HC.out 4
   have f4:wr.frozen? ⟨Bc,4,none⟩=false:=frozen_of_heapO HC.out 4
   have HCS:Hid ((wr.setCell ⟨Bc,4,none⟩ (.int .i64 q)).heap[Bc]?=some (.cells #[.slice ca c.l.length cc,.int .u64 (c.keep:Nat),.int .i64 c.nb,.slice da c.ds.length dc,.int .i64 q] 27)):=set_heap HC.out 4 (.int .i64 q)
   have HPS:Hid ((wr.setCell ⟨Bc,4,none⟩ (.int .i64 q)).heap[Bp]?=some (.cells #[.string p.nm,.int .i64 p.pr,.slice pa p.cs.length pcc] 31)):=((grown_setCell wr ⟨Bc,4,none⟩ (.int .i64 q)).block Bp hbpl (fun e=>by injection e with e;have e2:Bp=Bc:=e;have:=HLP0.out;omega)).trans HPP.out
   have HBS:Hid (Below w.heap.size w (wr.setCell ⟨Bc,4,none⟩ (.int .i64 q))):=HB.out.grown (grown_setCell wr ⟨Bc,4,none⟩ (.int .i64 q)) HB.out.size (fun j e=>by injection e with e;have e2:Bc=j:=e;have:=HBC.out;omega)
   have y0:(wr.setCell ⟨Bc,4,none⟩ (.int .i64 q)).cell? ⟨Bc,0,none⟩=some (.slice ca c.l.length cc):=cell_of_heapV HCS.out 0
   have y1:(wr.setCell ⟨Bc,4,none⟩ (.int .i64 q)).cell? ⟨Bc,1,none⟩=some (.int .u64 (c.keep:Nat)):=cell_of_heapV HCS.out 1
   have y2:(wr.setCell ⟨Bc,4,none⟩ (.int .i64 q)).cell? ⟨Bc,2,none⟩=some (.int .i64 c.nb):=cell_of_heapV HCS.out 2
   have y3:(wr.setCell ⟨Bc,4,none⟩ (.int .i64 q)).cell? ⟨Bc,3,none⟩=some (.slice da c.ds.length dc):=cell_of_heapV HCS.out 3
   have y4:(wr.setCell ⟨Bc,4,none⟩ (.int .i64 q)).cell? ⟨Bc,4,none⟩=some (.int .i64 q):=cell_of_heapV HCS.out 4
   have HBO:=hZz (boot_any ({ c with pol:=q }:Ol.Cf) (.slice ca c.l.length cc) (.slice da c.ds.length dc) g o (wr.setCell ⟨Bc,4,none⟩ (.int .i64 q)) (H1.out.below HBS.out) (H2.out.below HBS.out) hk (HT.out.below HBS.out) (HM.out.below HBS.out))
   dsimp only at HBO
   go_wp2_with fail
   clear z4 f4 y0 y1 y2 y3 y4
   generalize (wr.setCell ⟨Bc,4,none⟩ (.int .i64 q))=S at *
   refine HBO.out.mono ?_
   rintro e W4 ⟨hbad,hgood,hout⟩
   have HB4:=hZz (HBS.out.trans (hout.mono HBS.out.size))
   have hss:=hout.size
   have hwS:w.heap.size≤S.heap.size:=HBS.out.size
   have hbcs:Bc<S.heap.size:=(Array.getElem?_eq_some_iff.1 HCS.out).1
   have hbps:Bp<S.heap.size:=(Array.getElem?_eq_some_iff.1 HPS.out).1
   have HC4:=hZz ((hout.block Bc hbcs).trans HCS.out)
   have HP4:=hZz ((hout.block Bp hbps).trans HPS.out)
   by_cases hcf:Ol.confF ({ c with pol:=q }:Ol.Cf)=0
   ·obtain ⟨Ba,Bd,Be,Bm,rfl,hM1,l1,l2,l3,l4⟩:=hgood hcf
    have HCF:=hZz hcf
    have HM1:=hZz hM1
    clear hbad hgood hout hM1 hcf HBO
    have HB5:=hZz (HB4.out.alloc HB4.out.size (.cells #[.pointer (some ⟨Bd,0,none⟩),.pointer (some ⟨Be,0,none⟩),.pointer (some ⟨Ba,0,none⟩)] 40))
    have HG5:=hZz ((Below.refl W4.heap.size W4).alloc (Nat.le_refl _) (.cells #[.pointer (some ⟨Bd,0,none⟩),.pointer (some ⟨Be,0,none⟩),.pointer (some ⟨Ba,0,none⟩)] 40))
    have HX5:=hZz (heap_madeO W4 (.cells #[.pointer (some ⟨Bd,0,none⟩),.pointer (some ⟨Be,0,none⟩),.pointer (some ⟨Ba,0,none⟩)] 40) rfl)
    have HC5:=hZz (heap_oldO HC4.out (.cells #[.pointer (some ⟨Bd,0,none⟩),.pointer (some ⟨Be,0,none⟩),.pointer (some ⟨Ba,0,none⟩)] 40))
    have HP5:=hZz (heap_oldO HP4.out (.cells #[.pointer (some ⟨Bd,0,none⟩),.pointer (some ⟨Be,0,none⟩),.pointer (some ⟨Ba,0,none⟩)] 40))
    have x2:(W4.alloc (.cells #[.pointer (some ⟨Bd,0,none⟩),.pointer (some ⟨Be,0,none⟩),.pointer (some ⟨Ba,0,none⟩)] 40)).cell? ⟨W4.heap.size,2,none⟩=some (.pointer (some ⟨Ba,0,none⟩)):=cell_of_heapV HX5.out 2
    have y0:(W4.alloc (.cells #[.pointer (some ⟨Bd,0,none⟩),.pointer (some ⟨Be,0,none⟩),.pointer (some ⟨Ba,0,none⟩)] 40)).cell? ⟨Bp,0,none⟩=some (.string p.nm):=cell_of_heapV HP5.out 0
    have y1:(W4.alloc (.cells #[.pointer (some ⟨Bd,0,none⟩),.pointer (some ⟨Be,0,none⟩),.pointer (some ⟨Ba,0,none⟩)] 40)).cell? ⟨Bp,1,none⟩=some (.int .i64 p.pr):=cell_of_heapV HP5.out 1
    have y2:(W4.alloc (.cells #[.pointer (some ⟨Bd,0,none⟩),.pointer (some ⟨Be,0,none⟩),.pointer (some ⟨Ba,0,none⟩)] 40)).cell? ⟨Bp,2,none⟩=some (.slice pa p.cs.length pcc):=cell_of_heapV HP5.out 2
    go_wp2_with fail
    clear x2 y0 y1 y2
    generalize W4.alloc (.cells #[.pointer (some ⟨Bd,0,none⟩),.pointer (some ⟨Be,0,none⟩),.pointer (some ⟨Ba,0,none⟩)] 40)=Y at *
    have HAD:=hZz (admit_any none1 Ba Bd Be Bm ⟨Ol.mcOf ({ c with pol:=q }:Ol.Cf),c.ds,[]⟩ Dk.fresh 0 p (.slice pa p.cs.length pcc) Y (HM1.out.keep HG5.out) (HP.out.le (mask_below HB5.out rfl (fun j hj=>by
     rcases hj with e|e|e|e
     ·exact e.elim
     all_goals omega))) (HT.out.below HB5.out) (by omega) (fun l hl=>by
     have:l=[]:=by simpa using hl
     subst this
     exact insOK_end (l:=[]) (by simp)))
    unfold podV at HAD
    refine HAD.out.mono ?_
    rintro e W6 ⟨rfl,_,ha6⟩
    have HB6:=hZz (below_apart HB5.out HB5.out.size ha6 (fun j hj=>by rcases hj with e|e|e <;> omega))
    have hYc:Bc<Y.heap.size:=(Array.getElem?_eq_some_iff.1 HC5.out).1
    have hYp:Bp<Y.heap.size:=(Array.getElem?_eq_some_iff.1 HP5.out).1
    have HC6:=hZz ((ha6.block Bc hYc (by rintro (e|e|e) <;> omega)).trans HC5.out)
    have HP6:=hZz ((ha6.block Bp hYp (by rintro (e|e|e) <;> omega)).trans HP5.out)
    have HLO:Hid (k=0→p.cs.length=1→(Ol.admit ⟨Ol.mcOf ({ c with pol:=q }:Ol.Cf),c.ds,[]⟩ p).1=0):=fun h0 h1=>by
     obtain ⟨hq3,_,hadm⟩:=HL.out h0
     refine looser ?_ HM1.out.inv.devs h1 hq0 (by omega) hadm
     obtain ⟨_,_,_,_,_,_,_,_,_,_,_,_,_,_,_,_,_,_,_,k3,_⟩:=HM1.out
     exact ⟨by have h:=k3.nd;have h2:(Ol.mcOf ({ c with pol:=q }:Ol.Cf)).nd≤15:=h.2;have e:(Ol.mcOf ({ c with pol:=q }:Ol.Cf)).nd=(Ol.mcOf c).nd:=rfl;omega,k3.op⟩
    clear ha6 HAD HM1 HX5 HG5
    obtain ⟨en,hen⟩:∃ en:Nat,en=(Ol.admit ⟨Ol.mcOf ({ c with pol:=q }:Ol.Cf),c.ds,[]⟩ p).1:=⟨_,rfl⟩
    rw [← hen] at HLO ⊢
    have HEN:=hZz hen
    clear hen
    have x2:W6.cell? ⟨Bp,2,none⟩=some (.slice pa p.cs.length pcc):=cell_of_heapV HP6.out 2
    go_wp2_with fail
    refine (numberE en W6).mono ?_
    rintro e W7 ⟨rfl,rfl⟩
    have HNX:Hid ((en:Int)=0→q - 1<3∧Ol.confF ({ c with pol:=q - 1+1 }:Ol.Cf)=0∧(Ol.admit ⟨Ol.mcOf ({ c with pol:=q - 1+1 }:Ol.Cf),c.ds,[]⟩ p).1=0):=fun h=>by
     rw [show q - 1+1=q by omega]
     exact ⟨by omega,HCF.out,by rw [← HEN.out];omega⟩
    have hsub:IntKind.i64.wrap (q - 1)=q - 1:=by rw [IntKind.wrap_i64];omega
    by_cases hk0:k=0
    ·by_cases hl1:p.cs.length=1
     ·have he0:en=0:=HLO.out hk0 hl1
      clear hl1
      subst he0
      subst hk0
      go_wp2_with fail
      go_roundw
      case rel=>exact ⟨0,q - 1,q,rfl,by go_num,by omega,by omega,HNX.out,HB6.out,HC6.out,HP6.out⟩
      case measure=>simp [intOf];omega
     ·subst hk0
      have hl1':((p.cs.length:Int) == 1)=false:=by rw [beq_eq_false_iff_ne];omega
      by_cases he0:en=0
      ·subst he0
       go_wp2_with fail
       go_roundw
       case rel=>exact ⟨0,q - 1,q,rfl,by go_num,by omega,by omega,HNX.out,HB6.out,HC6.out,HP6.out⟩
       case measure=>simp [intOf];omega
      ·have he1:((en:Int) == 0)=false:=by rw [beq_eq_false_iff_ne];omega
       go_wp2_with fail
       go_roundw
       case rel=>exact ⟨en,q - 1,q,rfl,by go_num,by omega,by omega,HNX.out,HB6.out,HC6.out,HP6.out⟩
       case measure=>simp [intOf];omega
    ·have hk1:(k == 0)=false:=by rw [beq_eq_false_iff_ne];exact hk0
     go_wp2_with fail
     go_roundw
     case rel=>exact ⟨en,q - 1,q,rfl,by go_num,by omega,by omega,HNX.out,HB6.out,HC6.out,HP6.out⟩
     case measure=>simp [intOf];omega
   ·obtain ⟨bp,bq,rfl⟩:=hbad hcf
    clear hbad hgood hout hcf HBO
    have HB5:=hZz (HB4.out.alloc HB4.out.size (.cells #[.pointer bp,.pointer bq,.pointer none] 40))
    go_wp2_with fail
    go_ret
    exact ⟨rfl,HB5.out⟩
  ·go_wp2_with fail
   go_ret
   exact ⟨rfl,HB.out⟩
end
end Go.Proofs.YtbfdcmodflnkfaaGreatDoor
