/- OT0, OT1, OT3, OTG -/
import Derived.Test.YtbfdcmodflnkfaaGreatDoorG31
import Derived.Test.YtbfdcmodflnkfaaGreatDoorG32
set_option maxRecDepth 100000
set_option maxHeartbeats 16000000
namespace Go.Proofs.YtbfdcmodflnkfaaGreatDoor
section
open Go.RowKit Go.Shelf
open Ost (Cpu cpu0)
open Qos (Nd Ct Pd nd ct pd podF)
open Sv (Gv Hd gv hd gsF heldF heldTxt)
open Dvs (Dv dv Nodes)
attribute [local go_sem] Oper.semAt_some
theorem below_apart {B:Nat} {w W W':World} {K:Nat→Prop} (hb:Below B w W) (hB:B≤W.heap.size) (ha:Apart K W W') (hK:∀ j,K j→B≤j):Below B w W':=
 ⟨ha.os.trans hb.os,ha.tape.trans hb.tape,ha.output.trans hb.output,Nat.le_trans hb.size ha.size,fun j hj=>(ha.block j (by omega) (fun e=>by have:=hK j e;omega)).trans (hb.block j hj)⟩
theorem lightConf_any (c:Ol.Cf) (v1 v2:Value) (g o:Nat) (w:World) (h1:CpusAt w v1 c.l) (h2:DevsAt w v2 g o c.ds):Calls Tryz.prog 8 #[confV c v1 v2] w fun e w'=>Ans e∧Below w.heap.size w w':=by
 obtain ⟨ca,cc,hv1⟩:∃ ca cc,v1=.slice ca c.l.length cc:=by
  rcases id h1 with ⟨hl,ao,q,rfl⟩|⟨b,o,q,rfl,_⟩
  ·exact ⟨ao,q,by rw [hl];rfl⟩
  ·exact ⟨_,q,rfl⟩
 obtain ⟨da,dc,hv2,hr⟩:=h2;subst hv1 hv2;have HR:=qI hr;clear h1 hr;unfold confV;generalize c.l.length=cl at *;have HB0:=qI ((Below.refl w.heap.size w).alloc (Nat.le_refl _) (.cells #[.slice ca cl cc,.int .u64 (c.keep:Nat),.int .i64 c.nb,.slice da c.ds.length dc,.int .i64 c.pol] 27));have HX0:=qI (heap_madeO w (.cells #[.slice ca cl cc,.int .u64 (c.keep:Nat),.int .i64 c.nb,.slice da c.ds.length dc,.int .i64 c.pol] 27) rfl)
 by_cases h70:70<cl
 ·go_enter Tryz.func8,Tryz.ntmps8
  go_wp2_with fail
  go_ret;exact ⟨⟨_,rfl⟩,HB0.out⟩
 have hd1:decide (70<(cl:Int))=false:=decide_eq_false (by omega)
 by_cases h20:20<c.ds.length
 ·go_enter Tryz.func8,Tryz.ntmps8
  go_wp2_with fail
  go_ret;exact ⟨⟨_,rfl⟩,HB0.out⟩
 have hd2:decide (20<(c.ds.length:Int))=false:=decide_eq_false (by omega);have h20':c.ds.length≤20:=by omega
 clear h70 h20
 go_enter Tryz.func8,Tryz.ntmps8
 go_wp2_with fail
 generalize w.alloc (.cells #[.slice ca cl cc,.int .u64 (c.keep:Nat),.int .i64 c.nb,.slice da c.ds.length dc,.int .i64 c.pol] 27)=X at *
 go_loopw [3] (fun i wr=>∃ k:Nat,k≤c.ds.length∧i=.int .i64 k∧wr=X) (fun i _=>c.ds.length - (intOf i).toNat)
 case atStart=>exact ⟨0,Nat.zero_le _,rfl,rfl⟩
 case round=>
  obtain ⟨k,hk,rfl,rfl⟩:=hrel;have x3:wr.cell? ⟨w.heap.size,3,none⟩=some (.slice da c.ds.length dc):=cell_of_heapV HX0.out 3
  by_cases hlt:k<c.ds.length
  ·obtain ⟨rfl,hgl,hc⟩:=HR.out (by omega);have y0:wr.cell? ⟨g,o+k*3,none⟩=some (.string (dv c.ds k).kind):=(HB0.out.cell (p:=⟨g,o+k*3,none⟩) hgl).trans (hc k hlt).1;clear hc;generalize (dv c.ds k).kind=kd at *
   by_cases h30:30<kd.size
   ·go_wp2_with fail
    go_ret;exact ⟨⟨_,rfl⟩,HB0.out⟩
   ·have hd3:decide (30<(kd.size:Int))=false:=decide_eq_false (by omega);clear h30
    go_wp2_with fail
    go_roundw
    case rel=>exact ⟨k+1,by omega,by go_num,trivial⟩
    case measure=>simp [intOf];omega
  ·go_wp2_with fail
   go_ret;exact ⟨⟨_,rfl⟩,HB0.out⟩
end
section
open Go.RowKit Go.Shelf
open Ost (Cpu cpu0)
open Qos (Nd Ct Pd nd ct pd podF)
open Sv (Gv Hd gv hd gsF heldF heldTxt)
open Dvs (Dv dv Nodes)
open S1 (Mx)
attribute [local go_sem] Oper.semAt_some
theorem held_mach {N:Nat→Prop} {Ba Bd Be Bm:Nat} {t:Ol.St} {dk:Dk} {n:Nat} {w:World} (h:Mach w N Ba Bd Be Bm t dk n):Calls Tryz.prog 13 #[.pointer (some ⟨Ba,0,none⟩)] w fun e w'=>∃ a c,e=.returned (.slice a t.hs.length c)∧HldsAt (fresh w.heap.size w') (.slice a t.hs.length c) t.hs∧Below w.heap.size w w':=by
 obtain ⟨h1,hcalm,hcpu,hE,hab,hfr,hnl,htx,tb,b,tc,hv,pb,db,ao,pc,s,k1,k2,k3,k4,k5,k6,k7⟩:=h;obtain ⟨a1,a2,a3⟩:=Ol.heldF_iff.1 h1.held;exact held_any Ba tb t.m Bd Be hv s.cp pb t.hs w k1 (k2.le (mask_off _ _)) a2 (by omega)
theorem admit_has {t:Ol.St} {p:Pd} (h:(Ol.admit t p).1=0):hasN (Ol.admit t p).2 p.nm=true:=by
 rcases two (hasN (Ol.admit t p).2 p.nm) with e|e
 ·exact e
 ·exfalso
  have h1:=Ol.admit_gone h;have h2:=Ol.admit_len h;rw [without_none e] at h1;rw [h1] at h2;omega
theorem consOne {W:World} {b:Nat} {nm:ByteArray} (h:W.heap[b]?=some (.cells #[.string nm,.int .i64 0,.int .i64 0,.int .i64 0,.int .i64 0,.slice none 0 0] 64 (0,0))):ConsAt W (.slice (some ⟨b,0,none⟩) 1 1) [⟨nm,0,0,0,0,[]⟩]:=by
 have hl:b<W.heap.size:=(Array.getElem?_eq_some_iff.1 h).1;refine ⟨_,_,rfl,⟨Nat.le_refl _,by decide⟩,fun _=>⟨b,0,fun _=>.slice none 0 0,rfl,hl,fun k hk=>?_⟩⟩;have hk0:k=0:=by simp at hk;exact hk
 subst hk0;refine ⟨fun j hj=>?_,⟨none,0,rfl,by simp [ct],fun h=>by simp [ct] at h⟩⟩
 have:=cell_of_heapV h j
 simp only [Nat.zero_mul,Nat.zero_add];rw [this]
 have:j=0∨j=1∨j=2∨j=3∨j=4∨j=5:=by omega
 rcases this with rfl|rfl|rfl|rfl|rfl|rfl <;> rfl
theorem cpusOne {W:World} {b:Nat} (h:W.heap[b]?=some (.cells #[.int .i64 0,.int .i64 0,.int .i64 0] 78 (0,0))):CpusAt W (.slice (some ⟨b,0,none⟩) 1 1) [⟨0,0,0⟩]:=by
 refine .inr ⟨b,0,1,rfl,fun k hk=>?_⟩;have hk0:k=0:=by simp at hk;exact hk
 subst hk0;exact ⟨cell_of_heapV h 0,cell_of_heapV h 1,cell_of_heapV h 2⟩
abbrev none1:Nat→Prop:=fun _=>False
theorem works_true (w:World) (ht:TabUp w) (hm:Mx w):Calls Tryz.prog 7 #[] w fun e w'=>e=.returned (.bool true)∧Below w.heap.size w w':=by
 have HB0:=qI ((Below.refl w.heap.size w).alloc (Nat.le_refl _) (.cells #[.int .i64 0,.int .i64 0,.int .i64 0] 78));have HX0:=qI (heap_madeO w (.cells #[.int .i64 0,.int .i64 0,.int .i64 0] 78) rfl);have HT:=qI ht;have HM:=qI hm;have hgl:0<w.heap.size:=ht.2;clear ht hm
 go_enter Tryz.func7,Tryz.ntmps7
 go_wp2_with fail
 generalize w.alloc (.cells #[.int .i64 0,.int .i64 0,.int .i64 0] 78)=X at *;refine (boot_any Ol.wC (.slice (some ⟨w.heap.size,0,none⟩) 1 1) (.slice none 0 0) 0 0 X (cpusOne HX0.out) ⟨none,0,rfl,fun h=>by simp [Ol.wC] at h⟩ (by decide) (HT.out.below HB0.out) (HM.out.below HB0.out)).mono ?_;rintro e W1 ⟨hbad,hgood,hout⟩;clear hbad;obtain ⟨Ba,Bd,Be,Bm,rfl,hM1,l1,l2,l3,l4⟩:=hgood Ol.wC_ok;have hX:w.heap.size≤X.heap.size:=HB0.out.size;have HB1:Hid (Below w.heap.size w W1):=HB0.out.trans (hout.mono hX);have HM1:=qI hM1;have h3:∀ j,three Ba Bd Bm j→w.heap.size≤j:=fun j hj=>by
  rcases hj with e|e|e <;> omega
 have H3:=qI h3;have HG3:Hid (¬ three Ba Bd Bm 0):=fun e=>by have:=h3 _ e;omega
 clear hgood hout hM1 h3;have HB2:=qI (HB1.out.alloc HB1.out.size (.cells #[.pointer (some ⟨Bd,0,none⟩),.pointer (some ⟨Be,0,none⟩),.pointer (some ⟨Ba,0,none⟩)] 40));have HC2:=qI ((Below.refl W1.heap.size W1).alloc (Nat.le_refl _) (.cells #[.pointer (some ⟨Bd,0,none⟩),.pointer (some ⟨Be,0,none⟩),.pointer (some ⟨Ba,0,none⟩)] 40));have HX2:=qI (heap_madeO W1 (.cells #[.pointer (some ⟨Bd,0,none⟩),.pointer (some ⟨Be,0,none⟩),.pointer (some ⟨Ba,0,none⟩)] 40) rfl);have HS2:Hid ((W1.alloc (.cells #[.pointer (some ⟨Bd,0,none⟩),.pointer (some ⟨Be,0,none⟩),.pointer (some ⟨Ba,0,none⟩)] 40)).heap.size=W1.heap.size+1):=by unfold Hid;simp
 have x2:(W1.alloc (.cells #[.pointer (some ⟨Bd,0,none⟩),.pointer (some ⟨Be,0,none⟩),.pointer (some ⟨Ba,0,none⟩)] 40)).cell? ⟨W1.heap.size,2,none⟩=some (.pointer (some ⟨Ba,0,none⟩)):=cell_of_heapV HX2.out 2
 go_upto_region 4 with fail
 generalize W1.alloc (.cells #[.pointer (some ⟨Bd,0,none⟩),.pointer (some ⟨Be,0,none⟩),.pointer (some ⟨Ba,0,none⟩)] 40)=Y at *;have HB3:=qI (HB2.out.alloc HB2.out.size (.cells #[.string ⟨#[120]⟩,.int .i64 0,.int .i64 0,.int .i64 0,.int .i64 0,.slice none 0 0] 64));have HC3:=qI (HC2.out.alloc HC2.out.size (.cells #[.string ⟨#[120]⟩,.int .i64 0,.int .i64 0,.int .i64 0,.int .i64 0,.slice none 0 0] 64));have HX3:=qI (heap_madeO Y (.cells #[.string ⟨#[120]⟩,.int .i64 0,.int .i64 0,.int .i64 0,.int .i64 0,.slice none 0 0] 64) rfl);have HY3:=qI (heap_oldO HX2.out (.cells #[.string ⟨#[120]⟩,.int .i64 0,.int .i64 0,.int .i64 0,.int .i64 0,.slice none 0 0] 64))
 go_wp2_with fail
 clear x2;generalize Y.alloc (.cells #[.string ⟨#[120]⟩,.int .i64 0,.int .i64 0,.int .i64 0,.int .i64 0,.slice none 0 0] 64)=Z at *;have lba:Ba<W1.heap.size:=by
  obtain ⟨_,_,_,_,_,_,_,_,_,_,_,_,_,_,_,_,_,k1,_⟩:=HM1.out;exact k1.lt
 obtain ⟨lbe,lbd,lbm⟩:=HM1.out.eng.lt;have hs2:=HS2.out;have HAD:=qI (admit_any none1 Ba Bd Be Bm ⟨Ol.mcOf Ol.wC,Ol.wC.ds,[]⟩ Dk.fresh 0 Ol.wP (.slice (some ⟨Y.heap.size,0,none⟩) 1 1) Z (HM1.out.keep HC3.out) (consOne (by rw [mask_out (by rintro (e|e|e|e) <;> first|exact e|omega)];exact HX3.out)) (HT.out.below HB3.out) (by omega) (fun l hl=>by
  have:l=[]:=by simpa using hl
  subst this;exact insOK_end (l:=[]) (by simp)))
 unfold podV at HAD;clear hs2;refine HAD.out.mono ?_;clear HAD;rintro e W4 ⟨rfl,⟨dk4,n4,hn4,hM4⟩,ha4⟩;have hadm:(Ol.admit ⟨Ol.mcOf Ol.wC,Ol.wC.ds,[]⟩ Ol.wP).1=0:=Ol.w_admit;have HHAS:=qI (admit_has hadm);have HLEN:Hid ((Ol.admit ⟨Ol.mcOf Ol.wC,Ol.wC.ds,[]⟩ Ol.wP).2.length=1):=Ol.admit_len hadm;have HGONE:Hid (Ol.without (Ol.admit ⟨Ol.mcOf Ol.wC,Ol.wC.ds,[]⟩ Ol.wP).2 Ol.wP.nm=[]):=Ol.admit_gone hadm;have hn4':n4≤36:=by
  have h1:=newOf_le (runsOf []) (runsOf (Ol.admit ⟨Ol.mcOf Ol.wC,Ol.wC.ds,[]⟩ Ol.wP).2);have h2:=runs_len hM4.inv.held;dsimp only at hn4 h2;omega
 rw [hadm];generalize (Ol.admit ⟨Ol.mcOf Ol.wC,Ol.wC.ds,[]⟩ Ol.wP).2=hs4 at *;have HM4:=qI hM4;have HB4:=qI (below_apart HB3.out HB3.out.size ha4 H3.out);have HTA4:Hid (∀ W,Apart (three Ba Bd Bm) Z W→TabUp W):=fun W hW=>tab_apart (HT.out.below HB3.out) hW HG3.out
 have HA4:=qI ha4;have HMB:Hid (¬ three Ba Bd Bm W1.heap.size):=fun e=>by rcases e with e|e|e <;> omega
 have hZ:W1.heap.size<Z.heap.size:=(Array.getElem?_eq_some_iff.1 HY3.out).1;have HY4:=qI ((ha4.block W1.heap.size hZ HMB.out).trans HY3.out);have x2:W4.cell? ⟨W1.heap.size,2,none⟩=some (.pointer (some ⟨Ba,0,none⟩)):=cell_of_heapV HY4.out 2;rw [show errV (((0:Nat)):Int)=.nilIface from rfl];clear hadm hn4 hM4 ha4
 go_wp2_with fail
 refine (held_mach HM4.out).mono ?_;rintro e W5 ⟨a5,c5,rfl,_,hb5⟩;dsimp only;rw [HLEN.out];have HB5:=qI (HB4.out.trans (hb5.mono HB4.out.size));have HA5:=qI (HA4.out.trans (Apart.of_below hb5));have HM5:=qI (HM4.out.keep hb5);have hs5:=hb5.size;have hs4:=HA4.out.size;have HY5:=qI ((hb5.block W1.heap.size (by omega)).trans HY4.out);have x2':W5.cell? ⟨W1.heap.size,2,none⟩=some (.pointer (some ⟨Ba,0,none⟩)):=cell_of_heapV HY5.out 2;clear hb5 x2;have HRM:=qI (remove_any none1 Ba Bd Be Bm _ dk4 n4 Ol.wP.nm W5 HM5.out (by omega) (fun W hW=>HTA4.out W (HA5.out.trans hW)));dsimp only at HRM;rw [HHAS.out,HGONE.out] at HRM;unfold Ol.wP at HRM;dsimp only at HRM
 go_wp2_with fail
 refine HRM.out.mono ?_;rintro e W6 ⟨rfl,⟨dk6,n6,hn6,hM6⟩,ha6⟩;rw [show errV (((if True then 0 else 6:Nat)):Int)=.nilIface from rfl];have HM6:=qI hM6;have HB6:=qI (below_apart HB5.out HB5.out.size ha6 H3.out);have HY6:=qI ((ha6.block W1.heap.size (by omega) HMB.out).trans HY5.out);have x2'':W6.cell? ⟨W1.heap.size,2,none⟩=some (.pointer (some ⟨Ba,0,none⟩)):=cell_of_heapV HY6.out 2;clear hn6 hM6 ha6 x2' HRM
 go_wp2_with fail
 refine (held_mach HM6.out).mono ?_;rintro e W7 ⟨a7,c7,rfl,_,hb7⟩;dsimp only;have HB7:=qI (HB6.out.trans (hb7.mono HB6.out.size));clear hb7
 go_wp2_with fail
 go_ret;exact ⟨rfl,HB7.out⟩
end
section
open Go.RowKit Go.Shelf
open Qos (Nd Ct Pd nd ct pd podF)
open Sv (Gv Hd gv hd gsF heldF heldTxt)
attribute [local go_sem] Oper.semAt_some
theorem admit_shape (t:Ol.St) (p:Pd):((Ol.admit t p).1≠0∧(Ol.admit t p).2=t.hs)∨((Ol.admit t p).1=0∧∃ gs,(Ol.admit t p).2=Ol.insertH t.hs ⟨p,gs⟩):=by
 unfold Ol.admit
 split
 ·rename_i h;exact .inl ⟨h,rfl⟩
 split
 ·exact .inl ⟨by simp,rfl⟩
 split
 ·exact .inl ⟨by simp,rfl⟩
 split
 ·exact .inl ⟨by simp,rfl⟩
 split
 ·rename_i h;exact .inl ⟨h,rfl⟩
 split
 ·exact .inl ⟨by simp,rfl⟩
 ·exact .inr ⟨rfl,_,rfl⟩
theorem admit_err {t:Ol.St} {p:Pd} (h:(Ol.admit t p).1≠0):(Ol.admit t p).2=t.hs:=by
 rcases admit_shape t p with h1|h1
 ·exact h1.2
 ·exact absurd h1.1 h
open Classical in
theorem new_insert (hs:List Hd) (i:Nat) (x:Hd):newOf (runsOf hs) (runsOf (hs.take i++x :: hs.drop i))≤x.gs.length:=by
 have e:runsOf (hs.take i++x :: hs.drop i)=runsOf (hs.take i)++((List.range x.gs.length).map (runOf x)++runsOf (hs.drop i)):=by
  unfold runsOf;rw [List.flatMap_append,List.flatMap_cons]
 have h1:=newOf_sub (runs_sub (List.take_sublist i hs));have h2:=newOf_sub (runs_sub (List.drop_sublist i hs));unfold newOf at h1 h2 ⊢;rw [e,List.filter_append,List.filter_append,List.length_append,List.length_append,h1,h2]
 have:=List.length_filter_le (fun r=>decide (r ∉ runsOf hs)) ((List.range x.gs.length).map (runOf x))
 rw [List.length_map,List.length_range] at this;omega
theorem new_admit {t:Ol.St} (h:Ol.Inv t) (p:Pd):newOf (runsOf t.hs) (runsOf (Ol.admit t p).2)≤3:=by
 rcases admit_shape t p with h1|⟨_,gs,h1⟩
 ·rw [h1.2,newOf_sub (fun _ h=>h)];omega
 ·have hi:=(Ol.admit_inv h p).held;have hi:heldF (Ol.admit t p).2=0:=hi;rw [h1] at hi ⊢;have hx:(⟨p,gs⟩:Hd)∈Ol.insertH t.hs ⟨p,gs⟩:=by unfold Ol.insertH;simp
  obtain ⟨_,a2,_⟩:=Ol.heldF_iff.1 hi;obtain ⟨b1,b2,_⟩:=a2 _ hx;have b3:=(Sv.okP_of b1).2.2.1
  have:=new_insert t.hs (Ol.atOf t.hs p.nm) ⟨p,gs⟩
  unfold Ol.insertH;dsimp only at this b2 b3 ⊢;omega
section
variable {N:Nat→Prop} {Ba Bd Be Bm:Nat} {t:Ol.St} {dk:Dk} {n:Nat} {w:World}
theorem admitF {p:Pd} {cv:Value} (hM:Mach w N Ba Bd Be Bm t dk n) (hp:ConsAt (mask (four N Ba Bd Bm) w) cv p.cs) (ht:TabUp w) (hn:n+36≤1000):Calls Tryz.prog 12 #[.pointer (some ⟨Ba,0,none⟩),podV p cv] w fun e w'=>e=.returned (errV ((Ol.admit t p).1:Nat))∧(∃ dk' n',n'≤n+3∧Mach w' N Ba Bd Be Bm ⟨t.m,t.ds,(Ol.admit t p).2⟩ dk' n')∧Apart (three Ba Bd Bm) w w':=by
 have h12:=(Ol.heldF_iff.1 hM.inv.held).1;refine (admit_any N Ba Bd Be Bm t dk n p cv w hM hp ht hn (fun l hl=>?_)).mono ?_
 ·have hll:l.length=t.hs.length:=by rw [← hl,List.length_map]
  exact insOK (by rw [hll];unfold Ol.atOf;exact List.countP_le_length) (by omega)
 ·rintro e w' ⟨rfl,⟨dk',n',hn',hM'⟩,ha⟩;exact ⟨rfl,⟨dk',n',by have:=new_admit hM.inv p;omega,hM'⟩,ha⟩
theorem heldM (h:Mach w N Ba Bd Be Bm t dk n):Calls Tryz.prog 13 #[.pointer (some ⟨Ba,0,none⟩)] w fun e w'=>∃ a c,e=.returned (.slice a t.hs.length c)∧HldsAt (mask (three Ba Bd Bm) w') (.slice a t.hs.length c) t.hs∧Below w.heap.size w w':=by
 obtain ⟨l1,l2,l3⟩:=h.eng.lt;have l4:Ba<w.heap.size:=by
  obtain ⟨_,_,_,_,_,_,_,_,_,_,_,_,_,_,_,_,_,k1,_⟩:=h;exact k1.lt
 refine (held_mach h).mono ?_;rintro e w' ⟨a,c,rfl,hh,hb⟩;refine ⟨a,c,rfl,hh.le (mask_to (fun j _ hn=>⟨fun e=>hn ?_,rfl⟩) (Nat.le_refl _)),hb⟩
 rcases e with e|e|e
 all_goals show j<w.heap.size;omega
theorem sharedM (h:Mach w N Ba Bd Be Bm t dk n):Calls Tryz.prog 14 #[.pointer (some ⟨Ba,0,none⟩)] w fun e w'=>(∃ s,Ol.left t.m t.ds t.hs=some s∧e=.returned (.int .u64 (s.cp:Nat)))∧w'=w:=by
 obtain ⟨h1,hcalm,hcpu,hE,hab,hfr,hnl,htx,tb,b,tc,hv,pb,db,ao,pc,s,k1,k2,k3,k4,k5,k6,k7⟩:=h;have x8:w.cell? ⟨Ba,8,none⟩=some (.int .u64 s.cp):=cell_of_heapV k1 8;have HL:=qI k4;clear h1 hcalm hcpu hE hab hfr hnl htx k1 k2 k3 k4 k5 k6 k7
 go_enter Tryz.func14,Tryz.ntmps14
 go_wp2_with fail
 go_ret;exact ⟨⟨s,HL.out,rfl⟩,rfl⟩
end
theorem HldsAt.part {M:Nat→Prop} {W W':World} {v:Value} {hs:List Hd} (h:HldsAt (mask M W) v hs) (ha:Apart M W W'):HldsAt (mask M W') v hs:=h.le (mask_to (fun j hj hn=>⟨hn,ha.block j hj hn⟩) ha.size)
end
section
open Go.RowKit Go.Shelf
open Ost (Cpu cpu0)
open Qos (Nd Ct Pd nd ct pd podF)
open Sv (Gv Hd gv hd gsF heldF heldTxt)
open Dvs (Dv dv Nodes)
open S1 (Mx)
attribute [local go_sem] Oper.semAt_some
theorem left_same {m:Ol.Mc} {ds:List Dv} {hs:List Hd} {s s':Ol.Sk} (h:Ol.left m ds hs=some s) (h':Ol.left m ds hs=some s'):s'=s:=by
 rw [h] at h';injection h' with h';exact h'.symm
theorem topGone_true (c:Ol.Cf) (v1 v2:Value) (g o:Nat) (ps:List Pd) (vf:Value) (p:Pd) (cv:Value) (w:World) (h1:CpusAt w v1 c.l) (h2:DevsAt w v2 g o c.ds) (hk:c.keep<18446744073709551616) (hf:PodsAt w vf ps) (hp:ConsAt w cv p.cs) (ht:TabUp w) (hm:Mx w) :
  Calls Tryz.prog 3 #[confV c v1 v2,vf,podV p cv] w fun e w'=>e=.returned (.bool true)∧Below w.heap.size w w':=by
 obtain ⟨ca,cc,hv1⟩:∃ ca cc,v1=.slice ca c.l.length cc:=by
  rcases id h1 with ⟨hl,ao,q,rfl⟩|⟨b,o,q,rfl,_⟩
  ·exact ⟨ao,q,by rw [hl];rfl⟩
  ·exact ⟨_,q,rfl⟩
 obtain ⟨da,dc,hv2⟩:∃ da dc,v2=.slice da c.ds.length dc:=by
  obtain ⟨da,dc,e,_⟩:=id h2;exact ⟨da,dc,e⟩
 obtain ⟨pa,pcc,hcv⟩:∃ pa pcc,cv=.slice pa p.cs.length pcc:=by
  obtain ⟨pa,pcc,e,_⟩:=id hp;exact ⟨pa,pcc,e⟩
 have HF:=qI hf;obtain ⟨fa,fc,hvf,hfm,hfr⟩:=hf;subst hv1 hv2 hcv hvf;have HFR:=qI hfr;have H1:=qI h1;have H2:=qI h2;have HP:=qI hp;have HT:=qI ht;have HM:=qI hm;have hgl:0<w.heap.size:=ht.2;clear h1 h2 hp ht hm hfm hfr;unfold confV podV;have HB0:=qI (((Below.refl w.heap.size w).alloc (Nat.le_refl _) (.cells #[.slice ca c.l.length cc,.int .u64 (c.keep:Nat),.int .i64 c.nb,.slice da c.ds.length dc,.int .i64 c.pol] 27)).alloc (by simp) (.cells #[.string p.nm,.int .i64 p.pr,.slice pa p.cs.length pcc] 31));obtain ⟨Bc,hBc⟩:∃ Bc,Bc=w.heap.size:=⟨_,rfl⟩;obtain ⟨Bp,hBp⟩:∃ Bp,Bp=w.heap.size+1:=⟨_,rfl⟩;have HXC:Hid (((w.alloc (.cells #[.slice ca c.l.length cc,.int .u64 (c.keep:Nat),.int .i64 c.nb,.slice da c.ds.length dc,.int .i64 c.pol] 27)).alloc (.cells #[.string p.nm,.int .i64 p.pr,.slice pa p.cs.length pcc] 31)).heap[Bc]?=some (.cells #[.slice ca c.l.length cc,.int .u64 (c.keep:Nat),.int .i64 c.nb,.slice da c.ds.length dc,.int .i64 c.pol] 27)):=by
  unfold Hid;rw [hBc];exact heap_oldO (heap_madeO w (.cells #[.slice ca c.l.length cc,.int .u64 (c.keep:Nat),.int .i64 c.nb,.slice da c.ds.length dc,.int .i64 c.pol] 27) rfl) _
 have HXP:Hid (((w.alloc (.cells #[.slice ca c.l.length cc,.int .u64 (c.keep:Nat),.int .i64 c.nb,.slice da c.ds.length dc,.int .i64 c.pol] 27)).alloc (.cells #[.string p.nm,.int .i64 p.pr,.slice pa p.cs.length pcc] 31)).heap[Bp]?=some (.cells #[.string p.nm,.int .i64 p.pr,.slice pa p.cs.length pcc] 31)):=by
  unfold Hid;rw [hBp];exact heap_madeO (w.alloc (.cells #[.slice ca c.l.length cc,.int .u64 (c.keep:Nat),.int .i64 c.nb,.slice da c.ds.length dc,.int .i64 c.pol] 27)) (.cells #[.string p.nm,.int .i64 p.pr,.slice pa p.cs.length pcc] 31) (by simp)
 have HLP0:Hid (Bp=Bc+1):=by unfold Hid;rw [hBp,hBc]
 have HBC:=qI hBc
 go_enter Tryz.func3,Tryz.ntmps3
 go_wp2_with fail
 rw [← hBp];rw [← hBc];generalize ((w.alloc (.cells #[.slice ca c.l.length cc,.int .u64 (c.keep:Nat),.int .i64 c.nb,.slice da c.ds.length dc,.int .i64 c.pol] 27)).alloc (.cells #[.string p.nm,.int .i64 p.pr,.slice pa p.cs.length pcc] 31))=X at *;clear hBp hBc;refine (works_true X (HT.out.below HB0.out) (HM.out.below HB0.out)).mono ?_;rintro e W1 ⟨rfl,hb1⟩;have hlp:=HLP0.out;have hXp:Bp<X.heap.size:=(Array.getElem?_eq_some_iff.1 HXP.out).1;have HB1:=qI (HB0.out.trans (hb1.mono HB0.out.size));have HC1:=qI ((hb1.block Bc (by omega)).trans HXC.out);have HP1:=qI ((hb1.block Bp hXp).trans HXP.out);have hs1:=hb1.size;have hXc:Bc<X.heap.size:=by omega
 clear hb1 hlp;have x0:W1.cell? ⟨Bc,0,none⟩=some (.slice ca c.l.length cc):=cell_of_heapV HC1.out 0;have x1:W1.cell? ⟨Bc,1,none⟩=some (.int .u64 (c.keep:Nat)):=cell_of_heapV HC1.out 1;have x2:W1.cell? ⟨Bc,2,none⟩=some (.int .i64 c.nb):=cell_of_heapV HC1.out 2;have x3:W1.cell? ⟨Bc,3,none⟩=some (.slice da c.ds.length dc):=cell_of_heapV HC1.out 3;have x4:W1.cell? ⟨Bc,4,none⟩=some (.int .i64 c.pol):=cell_of_heapV HC1.out 4;have HLC:=qI (lightConf_any c (.slice ca c.l.length cc) (.slice da c.ds.length dc) g o W1 (H1.out.below HB1.out) (H2.out.below HB1.out));unfold confV at HLC
 go_wp2_with fail
 refine HLC.out.mono ?_;rintro e W2 ⟨⟨b,rfl⟩,hb2⟩;have HB2:=qI (HB1.out.trans (hb2.mono HB1.out.size));have HC2:=qI ((hb2.block Bc (by omega)).trans HC1.out);have HP2:=qI ((hb2.block Bp (by omega)).trans HP1.out);have hs2:=hb2.size;clear hb2 x0 x1 x2 x3 x4 HLC
 rcases two b with rfl|rfl
 rotate_left
 ·go_wp2_with fail
  go_ret;exact ⟨rfl,HB2.out⟩
 have HLF:=qI (lightPods_any (.slice fa ps.length fc) ps W2 (HF.out.below HB2.out))
 go_wp2_with fail
 refine HLF.out.mono ?_;rintro e W3 ⟨⟨b,rfl,hfew⟩,hb3⟩;have HB3:=qI (HB2.out.trans (hb3.mono HB2.out.size));have HC3:=qI ((hb3.block Bc (by omega)).trans HC2.out);have HP3:=qI ((hb3.block Bp (by omega)).trans HP2.out);have hs3:=hb3.size;have HFEW:=qI hfew;clear hb3 HLF hfew
 rcases two b with rfl|rfl
 rotate_left
 ·go_wp2_with fail
  go_ret;exact ⟨rfl,HB3.out⟩
 have hps:ps.length≤16:=HFEW.out rfl;have x0:W3.cell? ⟨Bp,0,none⟩=some (.string p.nm):=cell_of_heapV HP3.out 0;have x1:W3.cell? ⟨Bp,1,none⟩=some (.int .i64 p.pr):=cell_of_heapV HP3.out 1;have x2:W3.cell? ⟨Bp,2,none⟩=some (.slice pa p.cs.length pcc):=cell_of_heapV HP3.out 2;have HLP:=qI (lightPodL (p:=p) (HP.out.below HB3.out));unfold podV at HLP
 go_wp2_with fail
 refine HLP.out.mono ?_;rintro e W4 ⟨⟨b,rfl⟩,hb4⟩;have HB4:=qI (HB3.out.trans (hb4.mono HB3.out.size));have HC4:=qI ((hb4.block Bc (by omega)).trans HC3.out);have HP4:=qI ((hb4.block Bp (by omega)).trans HP3.out);have hs4:=hb4.size;have hc4:Bc<W4.heap.size:=by omega
 have hp4:Bp<W4.heap.size:=by omega
 clear hb4 x0 x1 x2 HLP HB3 HC3 HP3 HB2 HC2 HP2 HC1 HP1 HB1 HXC HXP HB0 HFEW;clear hXp hXc hs1 hs2 hs3 hs4
 rcases two b with rfl|rfl
 rotate_left
 ·go_wp2_with fail
  go_ret;exact ⟨rfl,HB4.out⟩
 have x0:W4.cell? ⟨Bc,0,none⟩=some (.slice ca c.l.length cc):=cell_of_heapV HC4.out 0;have x1:W4.cell? ⟨Bc,1,none⟩=some (.int .u64 (c.keep:Nat)):=cell_of_heapV HC4.out 1;have x2:W4.cell? ⟨Bc,2,none⟩=some (.int .i64 c.nb):=cell_of_heapV HC4.out 2;have x3:W4.cell? ⟨Bc,3,none⟩=some (.slice da c.ds.length dc):=cell_of_heapV HC4.out 3;have x4:W4.cell? ⟨Bc,4,none⟩=some (.int .i64 c.pol):=cell_of_heapV HC4.out 4;have HBO:=qI (boot_any c (.slice ca c.l.length cc) (.slice da c.ds.length dc) g o W4 (H1.out.below HB4.out) (H2.out.below HB4.out) hk (HT.out.below HB4.out) (HM.out.below HB4.out))
 go_wp2_with fail
 clear x0 x1 x2 x3 x4;refine HBO.out.mono ?_;rintro e W5 ⟨hbad,hgood,hout⟩;have hs5:=hout.size;have hw4:=HB4.out.size;have HB5:=qI (HB4.out.trans (hout.mono HB4.out.size));have HP5:=qI ((hout.block Bp hp4).trans HP4.out)
 by_cases hcf:Ol.confF c=0
 rotate_left
 ·obtain ⟨bp,bq,rfl⟩:=hbad hcf;clear hbad hgood hout hcf HBO;have HB6:=qI (HB5.out.alloc HB5.out.size (.cells #[.pointer bp,.pointer bq,.pointer none] 40))
  go_wp2_with fail
  go_ret;exact ⟨rfl,HB6.out⟩
 obtain ⟨Ba,Bd,Be,Bm,rfl,hM1,l1,l2,l3,l4⟩:=hgood hcf;have HM1:=qI hM1;clear hbad hgood hout hM1 hcf HBO;have HB6:=qI (HB5.out.alloc HB5.out.size (.cells #[.pointer (some ⟨Bd,0,none⟩),.pointer (some ⟨Be,0,none⟩),.pointer (some ⟨Ba,0,none⟩)] 40));have HG6:=qI ((Below.refl W5.heap.size W5).alloc (Nat.le_refl _) (.cells #[.pointer (some ⟨Bd,0,none⟩),.pointer (some ⟨Be,0,none⟩),.pointer (some ⟨Ba,0,none⟩)] 40));have HX6:=qI (heap_madeO W5 (.cells #[.pointer (some ⟨Bd,0,none⟩),.pointer (some ⟨Be,0,none⟩),.pointer (some ⟨Ba,0,none⟩)] 40) rfl);have HP6:=qI (heap_oldO HP5.out (.cells #[.pointer (some ⟨Bd,0,none⟩),.pointer (some ⟨Be,0,none⟩),.pointer (some ⟨Ba,0,none⟩)] 40))
 go_wp2_with fail
 generalize W5.alloc (.cells #[.pointer (some ⟨Bd,0,none⟩),.pointer (some ⟨Be,0,none⟩),.pointer (some ⟨Ba,0,none⟩)] 40)=Y at *;obtain ⟨Bk,hBk⟩:∃ Bk,Bk=W5.heap.size:=⟨_,rfl⟩;rw [← hBk] at HX6;rw [← hBk];have lba:Ba<Bk:=by
  rw [hBk];obtain ⟨_,_,_,_,_,_,_,_,_,_,_,_,_,_,_,_,_,k1,_⟩:=HM1.out;exact k1.lt
 have lbd:Bd<Bk∧Bm<Bk:=by
  rw [hBk];exact ⟨HM1.out.eng.lt.2.1,HM1.out.eng.lt.2.2⟩
 clear hBk;have HMY:Hid (Mach Y none1 Ba Bd Be Bm ⟨Ol.mcOf c,c.ds,[]⟩ Dk.fresh 0):=HM1.out.keep HG6.out;have hkY:Bk<Y.heap.size:=(Array.getElem?_eq_some_iff.1 HX6.out).1;have hpY:Bp<Y.heap.size:=(Array.getElem?_eq_some_iff.1 HP6.out).1;have HENV:Hid (∀ W,Apart (three Ba Bd Bm) Y W→W.heap[Bk]?=some (.cells #[.pointer (some ⟨Bd,0,none⟩),.pointer (some ⟨Be,0,none⟩),.pointer (some ⟨Ba,0,none⟩)] 40)∧W.heap[Bp]?=some (.cells #[.string p.nm,.int .i64 p.pr,.slice pa p.cs.length pcc] 31)∧TabUp W∧Below w.heap.size w W∧CellLe w (mask (four none1 Ba Bd Bm) W)):=fun W ha=>by
  have hb:=below_apart HB6.out HB6.out.size ha (fun j hj=>by rcases hj with e|e|e <;> omega);exact ⟨(ha.block Bk hkY (by rintro (e|e|e) <;> omega)).trans HX6.out,(ha.block Bp hpY (by rintro (e|e|e) <;> omega)).trans HP6.out,tab_apart (HT.out.below HB6.out) ha (by rintro (e|e|e) <;> omega),hb,mask_below hb rfl (fun j hj=>by
   rcases hj with e|e|e|e
   ·exact e.elim
   all_goals omega)⟩
 clear HM1 HX6 HP6 HB6 HG6 HP5 HB5 HP4 HC4 HB4;clear hs5 hw4 hc4 hp4 l1 l2 l3 l4 hkY hpY lba lbd
 go_loopw [9] (fun i wr=>∃ k:Nat,k≤ps.length∧i=.int .i64 k∧Apart (three Ba Bd Bm) Y wr∧∃ hs dk n,n≤3*k∧Mach wr none1 Ba Bd Be Bm ⟨Ol.mcOf c,c.ds,hs⟩ dk n) (fun i _=>ps.length - (intOf i).toNat)
 case atStart=>exact ⟨0,Nat.zero_le _,rfl,Apart.refl _ _,[],Dk.fresh,0,Nat.le_refl _,HMY.out⟩
 case round=>
  obtain ⟨k,hkl,rfl,hap,hs,dk,n,hn,hMr⟩:=hrel;have HAP:=qI hap;have HMR:=qI hMr;clear hap hMr
  by_cases hlt:k<ps.length
  ·obtain ⟨fb,fo,cvf,rfl,hin⟩:=HFR.out (by omega);obtain ⟨⟨r0,r1,r2⟩,hqc⟩:=hin.2 k hlt;obtain ⟨qa,qc,hcq,_⟩:=id hqc;rw [hcq] at hqc r2;have HQC:=qI hqc;have HR0:=qI r0;have HR1:=qI r1;have HR2:=qI r2;have hfbl:fb<w.heap.size:=hin.1;clear hin hqc hcq r0 r1 r2;generalize pd ps k=q at *;have HSB:Hid (∀ W,Apart (three Ba Bd Bm) Y W→(fun w':World=>w'.cell? ⟨Bk,2,none⟩=some (.pointer (some ⟨Ba,0,none⟩))∧w'.cell? ⟨fb,fo+k*3,none⟩=some (.string q.nm)∧w'.cell? ⟨fb,fo+k*3+1,none⟩=some (.int .i64 q.pr)∧w'.cell? ⟨fb,fo+k*3+2,none⟩=some (.slice qa q.cs.length qc)) W):=fun W ha=>by
    obtain ⟨e1,e2,e3,e4,e5⟩:=HENV.out W ha;exact ⟨cell_of_heapV e1 2,(e4.cell (p:=⟨fb,_,none⟩) hfbl).trans HR0.out,(e4.cell (p:=⟨fb,_,none⟩) hfbl).trans HR1.out,(e4.cell (p:=⟨fb,_,none⟩) hfbl).trans HR2.out⟩
   go_upto_region 12 with fail
   have HAd:Hid (Apart (three Ba Bd Bm) Y wr.drew):=HAP.out.trans (Apart.of_below (below_drewR (Below.refl _ _)));have HMd:Hid (Mach wr.drew none1 Ba Bd Be Bm ⟨Ol.mcOf c,c.ds,hs⟩ dk n):=HMR.out.keep (below_drewR (Below.refl _ _));refine wp_region_held_drew (S:=(fun w':World=>w'.cell? ⟨Bk,2,none⟩=some (.pointer (some ⟨Ba,0,none⟩))∧w'.cell? ⟨fb,fo+k*3,none⟩=some (.string q.nm)∧w'.cell? ⟨fb,fo+k*3+1,none⟩=some (.int .i64 q.pr)∧w'.cell? ⟨fb,fo+k*3+2,none⟩=some (.slice qa q.cs.length qc))) (by kernel_rfl) (HSB.out _ HAd.out) (fun hHeld=>?_);generalize wr.drew=V at *;refine tk 0 (v:=?a1) (fun w' h=>?b1) ?_
   case b1=>go_simp;first|done|rfl|(rw [if_neg (by omega)])
   (try simp only [Act.put,s1,s2,s3]);refine tk 1 (v:=?a2) (fun w' h=>?b2) ?_
   case b2=>go_simp;first|done|rfl|(rw [if_neg (by omega)])
   (try simp only [Act.put,s1,s2,s3]);refine tk 2 (v:=?a3) (fun w' h=>?b3) ?_
   case b3=>go_simp;first|done|rfl|(rw [if_neg (by omega)])
   (try simp only [Act.put,s1,s2,s3]);refine tk 3 (v:=?a4) (fun w' h=>?b4) ?_
   case b4=>go_simp;first|done|rfl|(rw [if_neg (by omega)])
   (try simp only [Act.put,s1,s2,s3]);refine tk 4 (v:=?a5) (fun w' h=>?b5) ?_
   case b5=>go_simp;first|done|rfl|(rw [if_neg (by omega)])
   (try simp only [Act.put,s1,s2,s3]);refine tk 5 (v:=?a6) (fun w' h=>?b6) ?_
   case b6=>go_simp;first|done|rfl|(rw [if_neg (by omega)])
   (try simp only [Act.put,s1,s2,s3]);refine rd 6 (fun K hK=>?_);go_simp
   go_wp2_with fail
   have HAD:=qI (admitF (p:=q) (cv:=.slice qa q.cs.length qc) HMd.out (HQC.out.le (HENV.out V HAd.out).2.2.2.2) (HENV.out V HAd.out).2.2.1 (by omega));unfold podV at HAD;refine HAD.out.mono ?_;rintro e V2 ⟨rfl,⟨dk2,n2,hn2,hM2⟩,ha2⟩;have HA2:=qI (HAd.out.trans ha2);have HM2:=qI hM2;have hn3:n2≤3*(k+1):=by omega
   clear hM2 ha2 hn2 HAD
   go_wp2_with fail
   refine hK.out _ _ (HSB.out _ HA2.out) (fun hHeld=>?_);clear hK K;refine wpAnyH_done (by kernel_rfl) ?_ _;clear hHeld
   go_wp2_with fail
   go_roundw
   case rel=>exact ⟨k+1,by omega,by go_num,HA2.out,_,_,_,hn3,HM2.out⟩
   case measure=>simp [intOf];omega
  ·have hn0:n≤48:=by omega
   obtain ⟨A,hA⟩:∃ A,A=(Ol.admit ⟨Ol.mcOf c,c.ds,hs⟩ p):=⟨_,rfl⟩;have HAA:=qI hA;clear hA;have z0:wr.cell? ⟨Bk,2,none⟩=some (.pointer (some ⟨Ba,0,none⟩)):=cell_of_heapV (HENV.out wr HAP.out).1 2;have y0:wr.cell? ⟨Bp,0,none⟩=some (.string p.nm):=cell_of_heapV (HENV.out wr HAP.out).2.1 0;have y1:wr.cell? ⟨Bp,1,none⟩=some (.int .i64 p.pr):=cell_of_heapV (HENV.out wr HAP.out).2.1 1;have y2:wr.cell? ⟨Bp,2,none⟩=some (.slice pa p.cs.length pcc):=cell_of_heapV (HENV.out wr HAP.out).2.1 2
   go_wp2_with fail
   refine (heldM HMR.out).mono ?_;rintro e W5 ⟨a1,c1,rfl,hh1,hb5⟩;have HA5:=qI (HAP.out.trans (Apart.of_below hb5));have HM5:=qI (HMR.out.keep hb5);have HH1:=qI hh1;clear hh1 hb5 z0 y0 y1 y2 hlt hkl hn;(try dsimp only);have z0:W5.cell? ⟨Bk,2,none⟩=some (.pointer (some ⟨Ba,0,none⟩)):=cell_of_heapV (HENV.out W5 HA5.out).1 2;have y0:W5.cell? ⟨Bp,0,none⟩=some (.string p.nm):=cell_of_heapV (HENV.out W5 HA5.out).2.1 0;have y1:W5.cell? ⟨Bp,1,none⟩=some (.int .i64 p.pr):=cell_of_heapV (HENV.out W5 HA5.out).2.1 1;have y2:W5.cell? ⟨Bp,2,none⟩=some (.slice pa p.cs.length pcc):=cell_of_heapV (HENV.out W5 HA5.out).2.1 2
   go_wp2_with fail
   refine (sharedM HM5.out).mono ?_;rintro e W6 ⟨⟨s,hsl,rfl⟩,rfl⟩;have HSL:=qI hsl;clear hsl;have HAD:=qI (admitF (p:=p) (cv:=.slice pa p.cs.length pcc) HM5.out (HP.out.le (HENV.out _ HA5.out).2.2.2.2) (HENV.out _ HA5.out).2.2.1 (by omega));unfold podV at HAD;rw [← HAA.out] at HAD
   go_wp2_with fail
   refine HAD.out.mono ?_;rintro e W7 ⟨rfl,⟨dk7,n7,hn7,hM7⟩,ha7⟩;have HA7:=qI (HA5.out.trans ha7);have HM7:=qI hM7;have HH7:=qI (HH1.out.part ha7);clear hM7 ha7 HAD z0 y0 y1 y2;(try dsimp only at HM7);have z0:W7.cell? ⟨Bk,2,none⟩=some (.pointer (some ⟨Ba,0,none⟩)):=cell_of_heapV (HENV.out W7 HA7.out).1 2;have y0:W7.cell? ⟨Bp,0,none⟩=some (.string p.nm):=cell_of_heapV (HENV.out W7 HA7.out).2.1 0;have y1:W7.cell? ⟨Bp,1,none⟩=some (.int .i64 p.pr):=cell_of_heapV (HENV.out W7 HA7.out).2.1 1;have y2:W7.cell? ⟨Bp,2,none⟩=some (.slice pa p.cs.length pcc):=cell_of_heapV (HENV.out W7 HA7.out).2.1 2
   by_cases hz:A.1=0
   rotate_left
   ·have HER:Hid (A.2=hs):=by unfold Hid;rw [HAA.out];rw [HAA.out] at hz;exact admit_err hz
    rw [errQ_pos hz];clear hz;rw [HER.out] at HM7
    go_wp2_with fail
    refine (heldM HM7.out).mono ?_;rintro e W8 ⟨a2,c2,rfl,hh2,hb8⟩;have HA8:=qI (HA7.out.trans (Apart.of_below hb8));have HM8:=qI (HM7.out.keep hb8);have HH8:=qI (HH7.out.part (Apart.of_below hb8));have HG8:=qI hh2;clear hh2 hb8 z0 y0 y1 y2;(try dsimp only at HG8 ⊢)
    go_wp2_with fail
    refine (sameHeld_any _ _ hs hs W8 (HG8.out.le (mask_off _ _)) (HH8.out.le (mask_off _ _))).mono ?_;rintro e W9 ⟨b9,rfl,hyes,hb9⟩;have hb9t:=hyes rfl;subst hb9t;have HA9:=qI (HA8.out.trans (Apart.of_below hb9));have HM9:=qI (HM8.out.keep hb9);clear hyes hb9;have z0:W9.cell? ⟨Bk,2,none⟩=some (.pointer (some ⟨Ba,0,none⟩)):=cell_of_heapV (HENV.out W9 HA9.out).1 2
    go_wp2_with fail
    refine (sharedM HM9.out).mono ?_;rintro e W10 ⟨⟨s',hsl',rfl⟩,rfl⟩;have hss:s'=s:=left_same HSL.out hsl';subst hss;clear hsl' z0
    go_wp2_with fail
    go_ret;exact ⟨rfl,(HENV.out _ HA9.out).2.2.2.1⟩
   have HZ:Hid ((Ol.admit ⟨Ol.mcOf c,c.ds,hs⟩ p).1=0):=by unfold Hid;rw [← HAA.out];exact hz
   have HGO:Hid (Ol.without A.2 p.nm=hs):=by unfold Hid;rw [HAA.out];exact Ol.admit_gone HZ.out
   have HHN:Hid (hasN A.2 p.nm=true):=by unfold Hid;rw [HAA.out];exact admit_has HZ.out
   rw [hz,show errV (((0:Nat)):Int)=.nilIface from rfl];clear hz
   go_wp2_with fail
   refine (heldM HM7.out).mono ?_;rintro e W8 ⟨a2,c2,rfl,hh2,hb8⟩;have HA8:=qI (HA7.out.trans (Apart.of_below hb8));have HM8:=qI (HM7.out.keep hb8);have HH8:=qI (HH7.out.part (Apart.of_below hb8));have HG8:=qI hh2;clear hh2 hb8 z0 y0 y1 y2;(try dsimp only at HG8 ⊢);have z0:W8.cell? ⟨Bk,2,none⟩=some (.pointer (some ⟨Ba,0,none⟩)):=cell_of_heapV (HENV.out W8 HA8.out).1 2;have y0:W8.cell? ⟨Bp,0,none⟩=some (.string p.nm):=cell_of_heapV (HENV.out W8 HA8.out).2.1 0;have y1:W8.cell? ⟨Bp,1,none⟩=some (.int .i64 p.pr):=cell_of_heapV (HENV.out W8 HA8.out).2.1 1;have y2:W8.cell? ⟨Bp,2,none⟩=some (.slice pa p.cs.length pcc):=cell_of_heapV (HENV.out W8 HA8.out).2.1 2;have HRM:=qI (remove_any none1 Ba Bd Be Bm _ dk7 n7 p.nm W8 HM8.out (by omega) (fun W hW=>(HENV.out W (HA8.out.trans hW)).2.2.1));(try dsimp only at HRM);rw [HHN.out,HGO.out] at HRM
   go_wp2_with fail
   refine HRM.out.mono ?_;rintro e W9 ⟨rfl,⟨dk9,n9,hn9,hM9⟩,ha9⟩;rw [show errV (((if True then 0 else 6:Nat)):Int)=.nilIface from rfl];have HA9:=qI (HA8.out.trans ha9);have HM9:=qI hM9;have HH9:=qI (HH8.out.part ha9);have HG9:=qI (HG8.out.part ha9);clear hM9 ha9 HRM z0 y0 y1 y2;have z0:W9.cell? ⟨Bk,2,none⟩=some (.pointer (some ⟨Ba,0,none⟩)):=cell_of_heapV (HENV.out W9 HA9.out).1 2
   go_wp2_with fail
   refine (heldM HM9.out).mono ?_;rintro e W10 ⟨a3,c3,rfl,hh3,hb10⟩;have HA10:=qI (HA9.out.trans (Apart.of_below hb10));have HM10:=qI (HM9.out.keep hb10);have HH10:=qI (HH9.out.part (Apart.of_below hb10));have HG10:=qI (HG9.out.part (Apart.of_below hb10));have HK10:=qI hh3;clear hh3 hb10 z0;(try dsimp only at HK10 ⊢)
   go_wp2_with fail
   refine (sameHeld_any _ _ hs hs W10 (HK10.out.le (mask_off _ _)) (HH10.out.le (mask_off _ _))).mono ?_;rintro e W11 ⟨b11,rfl,hyes,hb11⟩;have hb11t:=hyes rfl;subst hb11t;have HA11:=qI (HA10.out.trans (Apart.of_below hb11));have HM11:=qI (HM10.out.keep hb11);have HG11:=qI (HG10.out.part (Apart.of_below hb11));clear hyes hb11;have z0:W11.cell? ⟨Bk,2,none⟩=some (.pointer (some ⟨Ba,0,none⟩)):=cell_of_heapV (HENV.out W11 HA11.out).1 2;have y0:W11.cell? ⟨Bp,0,none⟩=some (.string p.nm):=cell_of_heapV (HENV.out W11 HA11.out).2.1 0;have y1:W11.cell? ⟨Bp,1,none⟩=some (.int .i64 p.pr):=cell_of_heapV (HENV.out W11 HA11.out).2.1 1;have y2:W11.cell? ⟨Bp,2,none⟩=some (.slice pa p.cs.length pcc):=cell_of_heapV (HENV.out W11 HA11.out).2.1 2
   go_wp2_with fail
   refine (sharedM HM11.out).mono ?_;rintro e W12 ⟨⟨s',hsl',rfl⟩,rfl⟩;have hss:s'=s:=left_same HSL.out hsl';subst hss;clear hsl';have HAD:=qI (admitF (p:=p) (cv:=.slice pa p.cs.length pcc) HM11.out (HP.out.le (HENV.out _ HA11.out).2.2.2.2) (HENV.out _ HA11.out).2.2.1 (by omega));unfold podV at HAD;rw [← HAA.out] at HAD;rw [show A.1=0 by rw [HAA.out];exact HZ.out,show errV (((0:Nat)):Int)=.nilIface from rfl] at HAD
   go_wp2_with fail
   refine HAD.out.mono ?_;rintro e W13 ⟨rfl,⟨dk13,n13,hn13,hM13⟩,ha13⟩;have HA13:=qI (HA11.out.trans ha13);have HM13:=qI hM13;have HG13:=qI (HG11.out.part ha13);clear hM13 ha13 HAD z0 y0 y1 y2;(try dsimp only at HM13);have z0:W13.cell? ⟨Bk,2,none⟩=some (.pointer (some ⟨Ba,0,none⟩)):=cell_of_heapV (HENV.out W13 HA13.out).1 2
   go_wp2_with fail
   refine (heldM HM13.out).mono ?_;rintro e W14 ⟨a4,c4,rfl,hh4,hb14⟩;have HA14:=qI (HA13.out.trans (Apart.of_below hb14));have HG14:=qI (HG13.out.part (Apart.of_below hb14));have HK14:=qI hh4;clear hh4 hb14 z0;(try dsimp only at HK14 ⊢)
   go_wp2_with fail
   refine (sameHeld_any _ _ A.2 A.2 W14 (HK14.out.le (mask_off _ _)) (HG14.out.le (mask_off _ _))).mono ?_;rintro e W15 ⟨b15,rfl,hyes,hb15⟩;have hb15t:=hyes rfl;subst hb15t;have HA15:=qI (HA14.out.trans (Apart.of_below hb15));clear hyes hb15
   go_wp2_with fail
   go_ret;exact ⟨rfl,(HENV.out _ HA15.out).2.2.2.1⟩
end
end Go.Proofs.YtbfdcmodflnkfaaGreatDoor
