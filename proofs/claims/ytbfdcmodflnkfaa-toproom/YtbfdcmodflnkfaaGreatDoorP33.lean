/- OT0, OT1, OT3, OT4 -/
import Derived.Test.YtbfdcmodflnkfaaGreatDoorP31
import Derived.Test.YtbfdcmodflnkfaaGreatDoorP32
set_option maxRecDepth 100000
set_option maxHeartbeats 16000000
namespace Go.Proofs.YtbfdcmodflnkfaaGreatDoor
section
open Go.RowKit Go.Shelf
open Ost (Cpu cpu0)
open Qos (Nd Ct Pd nd ct pd podF)
open Sv (Gv Hd gv hd gsF heldF heldTxt)
open Dvs (Dv dv Nodes)
attribute [local go_sem] Oper.semAt_some
theorem below_apart {B:Nat} {w W W':World} {K:Nat→Prop} (hb:Below B w W) (hB:B≤W.heap.size) (ha:Apart K W W') (hK:∀ j,K j→B≤j):Below B w W':=
 ⟨ha.os.trans hb.os,ha.tape.trans hb.tape,ha.output.trans hb.output,Nat.le_trans hb.size ha.size,fun j hj=>(ha.block j (by omega) (fun e=>by have:=hK j e;omega)).trans (hb.block j hj)⟩
theorem lightConf_any (c:Ol.Cf) (v1 v2:Value) (g o:Nat) (w:World) (h1:CpusAt w v1 c.l) (h2:DevsAt w v2 g o c.ds):Calls Tryz.prog 8 #[confV c v1 v2] w fun e w'=>Ans e∧Below w.heap.size w w':=by
 obtain ⟨ca,cc,hv1⟩:∃ ca cc,v1=.slice ca c.l.length cc:=by
  rcases id h1 with ⟨hl,ao,q,rfl⟩|⟨b,o,q,rfl,_⟩
  ·exact ⟨ao,q,by rw [hl];rfl⟩
  ·exact ⟨_,q,rfl⟩
 obtain ⟨da,dc,hv2,hr⟩:=h2;subst hv1 hv2;have HR:=qI hr;clear h1 hr;unfold confV;generalize c.l.length=cl at *;have HB0:=qI ((Below.refl w.heap.size w).alloc (Nat.le_refl _) (.cells #[.slice ca cl cc,.int .u64 (c.keep:Nat),.int .i64 c.nb,.slice da c.ds.length dc,.int .i64 c.pol] 27));have HX0:=qI (heap_madeO w (.cells #[.slice ca cl cc,.int .u64 (c.keep:Nat),.int .i64 c.nb,.slice da c.ds.length dc,.int .i64 c.pol] 27) rfl)
 by_cases h70:70<cl
 ·go_enter Tryz.func8,Tryz.ntmps8
  go_wp2_with fail
  go_ret;exact ⟨⟨_,rfl⟩,HB0.out⟩
 have hd1:decide (70<(cl:Int))=false:=decide_eq_false (by omega)
 by_cases h20:20<c.ds.length
 ·go_enter Tryz.func8,Tryz.ntmps8
  go_wp2_with fail
  go_ret;exact ⟨⟨_,rfl⟩,HB0.out⟩
 have hd2:decide (20<(c.ds.length:Int))=false:=decide_eq_false (by omega);have h20':c.ds.length≤20:=by omega
 clear h70 h20
 go_enter Tryz.func8,Tryz.ntmps8
 go_wp2_with fail
 generalize w.alloc (.cells #[.slice ca cl cc,.int .u64 (c.keep:Nat),.int .i64 c.nb,.slice da c.ds.length dc,.int .i64 c.pol] 27)=X at *
 go_loopw [3] (fun i wr=>∃ k:Nat,k≤c.ds.length∧i=.int .i64 k∧wr=X) (fun i _=>c.ds.length - (intOf i).toNat)
 case atStart=>exact ⟨0,Nat.zero_le _,rfl,rfl⟩
 case round=>
  obtain ⟨k,hk,rfl,rfl⟩:=hrel;have x3:wr.cell? ⟨w.heap.size,3,none⟩=some (.slice da c.ds.length dc):=cell_of_heapV HX0.out 3
  by_cases hlt:k<c.ds.length
  ·obtain ⟨rfl,hgl,hc⟩:=HR.out (by omega);have y0:wr.cell? ⟨g,o+k*3,none⟩=some (.string (dv c.ds k).kind):=(HB0.out.cell (p:=⟨g,o+k*3,none⟩) hgl).trans (hc k hlt).1;clear hc;generalize (dv c.ds k).kind=kd at *
   by_cases h30:30<kd.size
   ·go_wp2_with fail
    go_ret;exact ⟨⟨_,rfl⟩,HB0.out⟩
   ·have hd3:decide (30<(kd.size:Int))=false:=decide_eq_false (by omega);clear h30
    go_wp2_with fail
    go_roundw
    case rel=>exact ⟨k+1,by omega,by go_num,trivial⟩
    case measure=>simp [intOf];omega
  ·go_wp2_with fail
   go_ret;exact ⟨⟨_,rfl⟩,HB0.out⟩
end
section
open Go.RowKit Go.Shelf
open Ost (Cpu cpu0)
open Qos (Nd Ct Pd nd ct pd podF)
open Sv (Gv Hd gv hd gsF heldF heldTxt)
open Dvs (Dv dv Nodes)
open S1 (Mx)
attribute [local go_sem] Oper.semAt_some
theorem held_mach {N:Nat→Prop} {Ba Bd Be Bm:Nat} {t:Ol.St} {dk:Dk} {n:Nat} {w:World} (h:Mach w N Ba Bd Be Bm t dk n):Calls Tryz.prog 13 #[.pointer (some ⟨Ba,0,none⟩)] w fun e w'=>∃ a c,e=.returned (.slice a t.hs.length c)∧HldsAt (fresh w.heap.size w') (.slice a t.hs.length c) t.hs∧Below w.heap.size w w':=by
 obtain ⟨h1,hcalm,hcpu,hE,hab,hfr,hnl,htx,tb,b,tc,hv,pb,db,ao,pc,s,k1,k2,k3,k4,k5,k6,k7⟩:=h;obtain ⟨a1,a2,a3⟩:=Ol.heldF_iff.1 h1.held;exact held_any Ba tb t.m Bd Be hv s.cp pb t.hs w k1 (k2.le (mask_off _ _)) a2 (by omega)
theorem admit_has {t:Ol.St} {p:Pd} (h:(Ol.admit t p).1=0):hasN (Ol.admit t p).2 p.nm=true:=by
 rcases two (hasN (Ol.admit t p).2 p.nm) with e|e
 ·exact e
 ·exfalso
  have h1:=Ol.admit_gone h;have h2:=Ol.admit_len h;rw [without_none e] at h1;rw [h1] at h2;omega
theorem consOne {W:World} {b:Nat} {nm:ByteArray} (h:W.heap[b]?=some (.cells #[.string nm,.int .i64 0,.int .i64 0,.int .i64 0,.int .i64 0,.slice none 0 0] 64 (0,0))):ConsAt W (.slice (some ⟨b,0,none⟩) 1 1) [⟨nm,0,0,0,0,[]⟩]:=by
 have hl:b<W.heap.size:=(Array.getElem?_eq_some_iff.1 h).1;refine ⟨_,_,rfl,⟨Nat.le_refl _,by decide⟩,fun _=>⟨b,0,fun _=>.slice none 0 0,rfl,hl,fun k hk=>?_⟩⟩;have hk0:k=0:=by simp at hk;exact hk
 subst hk0;refine ⟨fun j hj=>?_,⟨none,0,rfl,by simp [ct],fun h=>by simp [ct] at h⟩⟩
 have:=cell_of_heapV h j
 simp only [Nat.zero_mul,Nat.zero_add];rw [this]
 have:j=0∨j=1∨j=2∨j=3∨j=4∨j=5:=by omega
 rcases this with rfl|rfl|rfl|rfl|rfl|rfl <;> rfl
theorem cpusOne {W:World} {b:Nat} (h:W.heap[b]?=some (.cells #[.int .i64 0,.int .i64 0,.int .i64 0] 78 (0,0))):CpusAt W (.slice (some ⟨b,0,none⟩) 1 1) [⟨0,0,0⟩]:=by
 refine .inr ⟨b,0,1,rfl,fun k hk=>?_⟩;have hk0:k=0:=by simp at hk;exact hk
 subst hk0;exact ⟨cell_of_heapV h 0,cell_of_heapV h 1,cell_of_heapV h 2⟩
abbrev none1:Nat→Prop:=fun _=>False
theorem works_true (w:World) (ht:TabUp w) (hm:Mx w):Calls Tryz.prog 7 #[] w fun e w'=>e=.returned (.bool true)∧Below w.heap.size w w':=by
 have HB0:=qI ((Below.refl w.heap.size w).alloc (Nat.le_refl _) (.cells #[.int .i64 0,.int .i64 0,.int .i64 0] 78));have HX0:=qI (heap_madeO w (.cells #[.int .i64 0,.int .i64 0,.int .i64 0] 78) rfl);have HT:=qI ht;have HM:=qI hm;have hgl:0<w.heap.size:=ht.2;clear ht hm
 go_enter Tryz.func7,Tryz.ntmps7
 go_wp2_with fail
 generalize w.alloc (.cells #[.int .i64 0,.int .i64 0,.int .i64 0] 78)=X at *;refine (boot_any Ol.wC (.slice (some ⟨w.heap.size,0,none⟩) 1 1) (.slice none 0 0) 0 0 X (cpusOne HX0.out) ⟨none,0,rfl,fun h=>by simp [Ol.wC] at h⟩ (by decide) (HT.out.below HB0.out) (HM.out.below HB0.out)).mono ?_;rintro e W1 ⟨hbad,hgood,hout⟩;clear hbad;obtain ⟨Ba,Bd,Be,Bm,rfl,hM1,l1,l2,l3,l4⟩:=hgood Ol.wC_ok;have hX:w.heap.size≤X.heap.size:=HB0.out.size;have HB1:Hid (Below w.heap.size w W1):=HB0.out.trans (hout.mono hX);have HM1:=qI hM1;have h3:∀ j,three Ba Bd Bm j→w.heap.size≤j:=fun j hj=>by
  rcases hj with e|e|e <;> omega
 have H3:=qI h3;have HG3:Hid (¬ three Ba Bd Bm 0):=fun e=>by have:=h3 _ e;omega
 clear hgood hout hM1 h3;have HB2:=qI (HB1.out.alloc HB1.out.size (.cells #[.pointer (some ⟨Bd,0,none⟩),.pointer (some ⟨Be,0,none⟩),.pointer (some ⟨Ba,0,none⟩)] 40));have HC2:=qI ((Below.refl W1.heap.size W1).alloc (Nat.le_refl _) (.cells #[.pointer (some ⟨Bd,0,none⟩),.pointer (some ⟨Be,0,none⟩),.pointer (some ⟨Ba,0,none⟩)] 40));have HX2:=qI (heap_madeO W1 (.cells #[.pointer (some ⟨Bd,0,none⟩),.pointer (some ⟨Be,0,none⟩),.pointer (some ⟨Ba,0,none⟩)] 40) rfl);have HS2:Hid ((W1.alloc (.cells #[.pointer (some ⟨Bd,0,none⟩),.pointer (some ⟨Be,0,none⟩),.pointer (some ⟨Ba,0,none⟩)] 40)).heap.size=W1.heap.size+1):=by unfold Hid;simp
 have x2:(W1.alloc (.cells #[.pointer (some ⟨Bd,0,none⟩),.pointer (some ⟨Be,0,none⟩),.pointer (some ⟨Ba,0,none⟩)] 40)).cell? ⟨W1.heap.size,2,none⟩=some (.pointer (some ⟨Ba,0,none⟩)):=cell_of_heapV HX2.out 2
 go_upto_region 4 with fail
 generalize W1.alloc (.cells #[.pointer (some ⟨Bd,0,none⟩),.pointer (some ⟨Be,0,none⟩),.pointer (some ⟨Ba,0,none⟩)] 40)=Y at *;have HB3:=qI (HB2.out.alloc HB2.out.size (.cells #[.string ⟨#[120]⟩,.int .i64 0,.int .i64 0,.int .i64 0,.int .i64 0,.slice none 0 0] 64));have HC3:=qI (HC2.out.alloc HC2.out.size (.cells #[.string ⟨#[120]⟩,.int .i64 0,.int .i64 0,.int .i64 0,.int .i64 0,.slice none 0 0] 64));have HX3:=qI (heap_madeO Y (.cells #[.string ⟨#[120]⟩,.int .i64 0,.int .i64 0,.int .i64 0,.int .i64 0,.slice none 0 0] 64) rfl);have HY3:=qI (heap_oldO HX2.out (.cells #[.string ⟨#[120]⟩,.int .i64 0,.int .i64 0,.int .i64 0,.int .i64 0,.slice none 0 0] 64))
 go_wp2_with fail
 clear x2;generalize Y.alloc (.cells #[.string ⟨#[120]⟩,.int .i64 0,.int .i64 0,.int .i64 0,.int .i64 0,.slice none 0 0] 64)=Z at *;have lba:Ba<W1.heap.size:=by
  obtain ⟨_,_,_,_,_,_,_,_,_,_,_,_,_,_,_,_,_,k1,_⟩:=HM1.out;exact k1.lt
 obtain ⟨lbe,lbd,lbm⟩:=HM1.out.eng.lt;have hs2:=HS2.out;have HAD:=qI (admit_any none1 Ba Bd Be Bm ⟨Ol.mcOf Ol.wC,Ol.wC.ds,[]⟩ Dk.fresh 0 Ol.wP (.slice (some ⟨Y.heap.size,0,none⟩) 1 1) Z (HM1.out.keep HC3.out) (consOne (by rw [mask_out (by rintro (e|e|e|e) <;> first|exact e|omega)];exact HX3.out)) (HT.out.below HB3.out) (by omega) (fun l hl=>by
  have:l=[]:=by simpa using hl
  subst this;exact insOK_end (l:=[]) (by simp)))
 unfold podV at HAD;clear hs2;refine HAD.out.mono ?_;clear HAD;rintro e W4 ⟨rfl,⟨dk4,n4,hn4,hM4⟩,ha4⟩;have hadm:(Ol.admit ⟨Ol.mcOf Ol.wC,Ol.wC.ds,[]⟩ Ol.wP).1=0:=Ol.w_admit;have HHAS:=qI (admit_has hadm);have HLEN:Hid ((Ol.admit ⟨Ol.mcOf Ol.wC,Ol.wC.ds,[]⟩ Ol.wP).2.length=1):=Ol.admit_len hadm;have HGONE:Hid (Ol.without (Ol.admit ⟨Ol.mcOf Ol.wC,Ol.wC.ds,[]⟩ Ol.wP).2 Ol.wP.nm=[]):=Ol.admit_gone hadm;have hn4':n4≤36:=by
  have h1:=newOf_le (runsOf []) (runsOf (Ol.admit ⟨Ol.mcOf Ol.wC,Ol.wC.ds,[]⟩ Ol.wP).2);have h2:=runs_len hM4.inv.held;dsimp only at hn4 h2;omega
 rw [hadm];generalize (Ol.admit ⟨Ol.mcOf Ol.wC,Ol.wC.ds,[]⟩ Ol.wP).2=hs4 at *;have HM4:=qI hM4;have HB4:=qI (below_apart HB3.out HB3.out.size ha4 H3.out);have HTA4:Hid (∀ W,Apart (three Ba Bd Bm) Z W→TabUp W):=fun W hW=>tab_apart (HT.out.below HB3.out) hW HG3.out
 have HA4:=qI ha4;have HMB:Hid (¬ three Ba Bd Bm W1.heap.size):=fun e=>by rcases e with e|e|e <;> omega
 have hZ:W1.heap.size<Z.heap.size:=(Array.getElem?_eq_some_iff.1 HY3.out).1;have HY4:=qI ((ha4.block W1.heap.size hZ HMB.out).trans HY3.out);have x2:W4.cell? ⟨W1.heap.size,2,none⟩=some (.pointer (some ⟨Ba,0,none⟩)):=cell_of_heapV HY4.out 2;rw [show errV (((0:Nat)):Int)=.nilIface from rfl];clear hadm hn4 hM4 ha4
 go_wp2_with fail
 refine (held_mach HM4.out).mono ?_;rintro e W5 ⟨a5,c5,rfl,_,hb5⟩;dsimp only;rw [HLEN.out];have HB5:=qI (HB4.out.trans (hb5.mono HB4.out.size));have HA5:=qI (HA4.out.trans (Apart.of_below hb5));have HM5:=qI (HM4.out.keep hb5);have hs5:=hb5.size;have hs4:=HA4.out.size;have HY5:=qI ((hb5.block W1.heap.size (by omega)).trans HY4.out);have x2':W5.cell? ⟨W1.heap.size,2,none⟩=some (.pointer (some ⟨Ba,0,none⟩)):=cell_of_heapV HY5.out 2;clear hb5 x2;have HRM:=qI (remove_any none1 Ba Bd Be Bm _ dk4 n4 Ol.wP.nm W5 HM5.out (by omega) (fun W hW=>HTA4.out W (HA5.out.trans hW)));dsimp only at HRM;rw [HHAS.out,HGONE.out] at HRM;unfold Ol.wP at HRM;dsimp only at HRM
 go_wp2_with fail
 refine HRM.out.mono ?_;rintro e W6 ⟨rfl,⟨dk6,n6,hn6,hM6⟩,ha6⟩;rw [show errV (((if True then 0 else 6:Nat)):Int)=.nilIface from rfl];have HM6:=qI hM6;have HB6:=qI (below_apart HB5.out HB5.out.size ha6 H3.out);have HY6:=qI ((ha6.block W1.heap.size (by omega) HMB.out).trans HY5.out);have x2'':W6.cell? ⟨W1.heap.size,2,none⟩=some (.pointer (some ⟨Ba,0,none⟩)):=cell_of_heapV HY6.out 2;clear hn6 hM6 ha6 x2' HRM
 go_wp2_with fail
 refine (held_mach HM6.out).mono ?_;rintro e W7 ⟨a7,c7,rfl,_,hb7⟩;dsimp only;have HB7:=qI (HB6.out.trans (hb7.mono HB6.out.size));clear hb7
 go_wp2_with fail
 go_ret;exact ⟨rfl,HB7.out⟩
end
section
open Go.RowKit Go.Shelf
open Qos (Nd Ct Pd nd ct pd podF)
open Sv (Gv Hd gv hd gsF heldF heldTxt)
attribute [local go_sem] Oper.semAt_some
theorem admit_shape (t:Ol.St) (p:Pd):((Ol.admit t p).1≠0∧(Ol.admit t p).2=t.hs)∨((Ol.admit t p).1=0∧∃ gs,(Ol.admit t p).2=Ol.insertH t.hs ⟨p,gs⟩):=by
 unfold Ol.admit
 split
 ·rename_i h;exact .inl ⟨h,rfl⟩
 split
 ·exact .inl ⟨by simp,rfl⟩
 split
 ·exact .inl ⟨by simp,rfl⟩
 split
 ·exact .inl ⟨by simp,rfl⟩
 split
 ·rename_i h;exact .inl ⟨h,rfl⟩
 split
 ·exact .inl ⟨by simp,rfl⟩
 ·exact .inr ⟨rfl,_,rfl⟩
open Classical in
theorem new_insert (hs:List Hd) (i:Nat) (x:Hd):newOf (runsOf hs) (runsOf (hs.take i++x :: hs.drop i))≤x.gs.length:=by
 have e:runsOf (hs.take i++x :: hs.drop i)=runsOf (hs.take i)++((List.range x.gs.length).map (runOf x)++runsOf (hs.drop i)):=by
  unfold runsOf;rw [List.flatMap_append,List.flatMap_cons]
 have h1:=newOf_sub (runs_sub (List.take_sublist i hs));have h2:=newOf_sub (runs_sub (List.drop_sublist i hs));unfold newOf at h1 h2 ⊢;rw [e,List.filter_append,List.filter_append,List.length_append,List.length_append,h1,h2]
 have:=List.length_filter_le (fun r=>decide (r ∉ runsOf hs)) ((List.range x.gs.length).map (runOf x))
 rw [List.length_map,List.length_range] at this;omega
theorem new_admit {t:Ol.St} (h:Ol.Inv t) (p:Pd):newOf (runsOf t.hs) (runsOf (Ol.admit t p).2)≤3:=by
 rcases admit_shape t p with h1|⟨_,gs,h1⟩
 ·rw [h1.2,newOf_sub (fun _ h=>h)];omega
 ·have hi:=(Ol.admit_inv h p).held;have hi:heldF (Ol.admit t p).2=0:=hi;rw [h1] at hi ⊢;have hx:(⟨p,gs⟩:Hd)∈Ol.insertH t.hs ⟨p,gs⟩:=by unfold Ol.insertH;simp
  obtain ⟨_,a2,_⟩:=Ol.heldF_iff.1 hi;obtain ⟨b1,b2,_⟩:=a2 _ hx;have b3:=(Sv.okP_of b1).2.2.1
  have:=new_insert t.hs (Ol.atOf t.hs p.nm) ⟨p,gs⟩
  unfold Ol.insertH;dsimp only at this b2 b3 ⊢;omega
section
variable {N:Nat→Prop} {Ba Bd Be Bm:Nat} {t:Ol.St} {dk:Dk} {n:Nat} {w:World}
theorem admitF {p:Pd} {cv:Value} (hM:Mach w N Ba Bd Be Bm t dk n) (hp:ConsAt (mask (four N Ba Bd Bm) w) cv p.cs) (ht:TabUp w) (hn:n+36≤1000):Calls Tryz.prog 12 #[.pointer (some ⟨Ba,0,none⟩),podV p cv] w fun e w'=>e=.returned (errV ((Ol.admit t p).1:Nat))∧(∃ dk' n',n'≤n+3∧Mach w' N Ba Bd Be Bm ⟨t.m,t.ds,(Ol.admit t p).2⟩ dk' n')∧Apart (three Ba Bd Bm) w w':=by
 have h12:=(Ol.heldF_iff.1 hM.inv.held).1;refine (admit_any N Ba Bd Be Bm t dk n p cv w hM hp ht hn (fun l hl=>?_)).mono ?_
 ·have hll:l.length=t.hs.length:=by rw [← hl,List.length_map]
  exact insOK (by rw [hll];unfold Ol.atOf;exact List.countP_le_length) (by omega)
 ·rintro e w' ⟨rfl,⟨dk',n',hn',hM'⟩,ha⟩;exact ⟨rfl,⟨dk',n',by have:=new_admit hM.inv p;omega,hM'⟩,ha⟩
theorem heldM (h:Mach w N Ba Bd Be Bm t dk n):Calls Tryz.prog 13 #[.pointer (some ⟨Ba,0,none⟩)] w fun e w'=>∃ a c,e=.returned (.slice a t.hs.length c)∧HldsAt (mask (three Ba Bd Bm) w') (.slice a t.hs.length c) t.hs∧Below w.heap.size w w':=by
 obtain ⟨l1,l2,l3⟩:=h.eng.lt;have l4:Ba<w.heap.size:=by
  obtain ⟨_,_,_,_,_,_,_,_,_,_,_,_,_,_,_,_,_,k1,_⟩:=h;exact k1.lt
 refine (held_mach h).mono ?_;rintro e w' ⟨a,c,rfl,hh,hb⟩;refine ⟨a,c,rfl,hh.le (mask_to (fun j _ hn=>⟨fun e=>hn ?_,rfl⟩) (Nat.le_refl _)),hb⟩
 rcases e with e|e|e
 all_goals show j<w.heap.size;omega
end
end
section
open Go.RowKit Go.Shelf
open Ost (Cpu cpu0)
open Qos (Nd Ct Pd nd ct pd podF)
open Sv (Gv Hd gv hd gsF heldF heldTxt)
open Dvs (Dv dv Nodes)
theorem and64O (a b:Nat) (ha:a<18446744073709551616) (hb:b<18446744073709551616):bits BinOp.and IntKind.u64 (a:Int) (b:Int)=((a &&& b:Nat):Int):=bits_and_u64_nat a b ha hb
theorem cp_small {l:List Cpu} {A x:Nat} (hl:l.length≤64) (h:∀ k,A.testBit k=true→k<l.length∧(l.getD k cpu0).node.toNat=x):A<18446744073709551616:=by
 have:A<2 ^ 64:=Nat.lt_pow_two_of_testBit A fun i hi=>by
  cases hb:A.testBit i with
  | false=>rfl
  | true=>have:=(h i hb).1;omega
 exact this
theorem conf_fault {c:Ol.Cf} (h:Ol.confF c=0):Ost.fault c.l=0:=by
 unfold Ol.confF at h
 split at h
 ·rename_i h1;exact absurd h h1
 ·rename_i h1;exact Classical.byContradiction h1
theorem inv_range {t:Ol.St} (h:Ol.Inv t):∀ x∈t.hs,∀ g∈x.gs,∀ k,k<g.dv.length→0≤Dvs.nth g.dv k∧Dvs.nth g.dv k<t.ds.length:=by
 obtain ⟨s,hs⟩:=h.left;exact Ol.left_range hs
theorem held_few {t:Ol.St} (h:Ol.Inv t):∀ x∈t.hs,x.gs.length≤3:=fun x hx=>by
 obtain ⟨_,a2,_⟩:=Ol.heldF_iff.1 h.held;obtain ⟨b1,b2,_⟩:=a2 x hx
 have:=(Sv.okP_of b1).2.2.1
 omega
theorem held_devs {t:Ol.St} (h:Ol.Inv t):∀ x∈t.hs,∀ g∈x.gs,g.dv.length≤16:=fun x hx g hg=>by
 obtain ⟨_,a2,_⟩:=Ol.heldF_iff.1 h.held;obtain ⟨_,_,b3⟩:=a2 x hx;obtain ⟨k,hk,rfl⟩:=Sv.gv_in hg;exact (Sv.okD_of (Dvs.first_all b3 k hk)).1
section
variable {N:Nat→Prop} {Ba Bd Be Bm:Nat} {t:Ol.St} {dk:Dk} {n:Nat} {w:World}
theorem devicesM (h:Mach w N Ba Bd Be Bm t dk n):Calls Tryz.prog 23 #[.pointer (some ⟨Ba,0,none⟩)] w fun e w'=>∃ a g c,e=.returned (.slice a t.ds.length c)∧DevsAt w' (.slice a t.ds.length c) g 0 t.ds∧Below w.heap.size w w':=by
 obtain ⟨h1,hcalm,hcpu,hE,hab,hfr,hnl,htx,tb,b,tc,hv,pb,db,ao,pc,s,k1,k2,k3,k4,k5,k6,k7⟩:=h;have hp:PoolAt w pb db ao pc t.ds s.us:=by rw [← Ol.left_ds k4];exact k5.pool
 refine (devicesO_any Ba tb t.m Bd Be hv s.cp pb db ao pc t.ds s.us w k1 hp (Dvs.fault_nodes h1.devs)).mono ?_;rintro e w' ⟨v,rfl,hr,hb⟩;obtain ⟨g,hd⟩:=devRow_at hr;obtain ⟨a,c,hv',_⟩:=id hd;subst hv';exact ⟨a,g,c,rfl,hd,hb⟩
theorem topo_free {tb b c:Nat} {l:List Cpu} (h:Mach w N Ba Bd Be Bm t dk n) (ht:TopoAt w tb b 0 c l) (h0:0<l.length):¬ three Ba Bd Bm tb∧¬ three Ba Bd Bm b:=by
 have ho:∃ p,w.cell? ⟨Ba,0,none⟩=some (.pointer p):=by
  obtain ⟨_,_,_,_,_,_,_,_,tb,_,_,_,_,_,_,_,_,k1,_⟩:=h;exact ⟨_,cell_of_heapV k1 0⟩
 obtain ⟨p,ho⟩:=ho;have hd:=h.eng.disk;unfold DiskW at hd;obtain ⟨xs,hm,_⟩:=h.eng.map;have c1:=ht.cell;have c2:=(ht.cells 0 h0).1;rw [Nat.zero_add,Nat.zero_mul] at c2;have hmap:∀ v,w.cell? ⟨Bm,0,none⟩≠some v:=fun v e=>by
  obtain ⟨_,es,⟨ms,clock,hh,_⟩,_⟩:=hm
  simp [World.cell?,hh] at e
 refine ⟨?_,?_⟩
 ·rintro (e|e|e) <;> subst e
  ·rw [ho] at c1;cases c1
  ·simp [World.cell?,hd] at c1
  ·exact hmap _ c1
 ·rintro (e|e|e) <;> subst e
  ·rw [ho] at c2;cases c2
  ·simp [World.cell?,hd] at c2
  ·exact hmap _ c2
end
end
end Go.Proofs.YtbfdcmodflnkfaaGreatDoor
