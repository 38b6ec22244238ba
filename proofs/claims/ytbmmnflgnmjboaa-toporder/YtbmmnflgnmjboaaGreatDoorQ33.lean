/- OT0, OT1, OT3, OT4, ORM, OO2, OO1 -/
import Derived.Test.YtbmmnflgnmjboaaGreatDoorQ31
import Derived.Test.YtbmmnflgnmjboaaGreatDoorQ32
set_option maxRecDepth 100000
set_option maxHeartbeats 16000000
namespace Go.Proofs.YtbmmnflgnmjboaaGreatDoor
section
open Go.RowKit Go.Shelf
open Ost (Cpu cpu0)
open Qos (Nd Ct Pd nd ct pd podF)
open Sv (Gv Hd gv hd gsF heldF heldTxt)
open Dvs (Dv dv Nodes)
attribute [local go_sem] Oper.semAt_some
theorem below_apart {B:Nat} {w W W':World} {K:Nat→Prop} (hb:Below B w W) (hB:B≤W.heap.size) (ha:Apart K W W') (hK:∀ j,K j→B≤j):Below B w W':=
 ⟨ha.os.trans hb.os,ha.tape.trans hb.tape,ha.output.trans hb.output,Nat.le_trans hb.size ha.size,fun j hj=>(ha.block j (by omega) (fun e=>by have:=hK j e;omega)).trans (hb.block j hj)⟩
theorem lightConf_any (c:Ol.Cf) (v1 v2:Value) (g o:Nat) (w:World) (h1:CpusAt w v1 c.l) (h2:DevsAt w v2 g o c.ds):Calls Tryz.prog 9 #[confV c v1 v2] w fun e w'=>Ans e∧Below w.heap.size w w':=by
 obtain ⟨ca,cc,hv1⟩:∃ ca cc,v1=.slice ca c.l.length cc:=by
  rcases id h1 with ⟨hl,ao,q,rfl⟩|⟨b,o,q,rfl,_⟩
  ·exact ⟨ao,q,by rw [hl];rfl⟩
  ·exact ⟨_,q,rfl⟩
 obtain ⟨da,dc,hv2,hr⟩:=h2;subst hv1 hv2;have HR:=qI hr;clear h1 hr;unfold confV;generalize c.l.length=cl at *;have HB0:=qI ((Below.refl w.heap.size w).alloc (Nat.le_refl _) (.cells #[.slice ca cl cc,.int .u64 (c.keep:Nat),.int .i64 c.nb,.slice da c.ds.length dc,.int .i64 c.pol] 27));have HX0:=qI (heap_madeO w (.cells #[.slice ca cl cc,.int .u64 (c.keep:Nat),.int .i64 c.nb,.slice da c.ds.length dc,.int .i64 c.pol] 27) rfl)
 by_cases h70:70<cl
 ·go_enter Tryz.func9,Tryz.ntmps9
  go_wp2_with fail
  go_ret;exact ⟨⟨_,rfl⟩,HB0.out⟩
 have hd1:decide (70<(cl:Int))=false:=decide_eq_false (by omega)
 by_cases h20:20<c.ds.length
 ·go_enter Tryz.func9,Tryz.ntmps9
  go_wp2_with fail
  go_ret;exact ⟨⟨_,rfl⟩,HB0.out⟩
 have hd2:decide (20<(c.ds.length:Int))=false:=decide_eq_false (by omega);have h20':c.ds.length≤20:=by omega
 clear h70 h20
 go_enter Tryz.func9,Tryz.ntmps9
 go_wp2_with fail
 generalize w.alloc (.cells #[.slice ca cl cc,.int .u64 (c.keep:Nat),.int .i64 c.nb,.slice da c.ds.length dc,.int .i64 c.pol] 27)=X at *
 go_loopw [3] (fun i wr=>∃ k:Nat,k≤c.ds.length∧i=.int .i64 k∧wr=X) (fun i _=>c.ds.length - (intOf i).toNat)
 case atStart=>exact ⟨0,Nat.zero_le _,rfl,rfl⟩
 case round=>
  obtain ⟨k,hk,rfl,rfl⟩:=hrel;have x3:wr.cell? ⟨w.heap.size,3,none⟩=some (.slice da c.ds.length dc):=cell_of_heapV HX0.out 3
  by_cases hlt:k<c.ds.length
  ·obtain ⟨rfl,hgl,hc⟩:=HR.out (by omega);have y0:wr.cell? ⟨g,o+k*3,none⟩=some (.string (dv c.ds k).kind):=(HB0.out.cell (p:=⟨g,o+k*3,none⟩) hgl).trans (hc k hlt).1;clear hc;generalize (dv c.ds k).kind=kd at *
   by_cases h30:30<kd.size
   ·go_wp2_with fail
    go_ret;exact ⟨⟨_,rfl⟩,HB0.out⟩
   ·have hd3:decide (30<(kd.size:Int))=false:=decide_eq_false (by omega);clear h30
    go_wp2_with fail
    go_roundw
    case rel=>exact ⟨k+1,by omega,by go_num,trivial⟩
    case measure=>simp [intOf];omega
  ·go_wp2_with fail
   go_ret;exact ⟨⟨_,rfl⟩,HB0.out⟩
end
section
open Go.RowKit Go.Shelf
open Ost (Cpu cpu0)
open Qos (Nd Ct Pd nd ct pd podF)
open Sv (Gv Hd gv hd gsF heldF heldTxt)
open Dvs (Dv dv Nodes)
open S1 (Mx)
attribute [local go_sem] Oper.semAt_some
theorem held_mach {N:Nat→Prop} {Ba Bd Be Bm:Nat} {t:Ol.St} {dk:Dk} {n:Nat} {w:World} (h:Mach w N Ba Bd Be Bm t dk n):Calls Tryz.prog 15 #[.pointer (some ⟨Ba,0,none⟩)] w fun e w'=>∃ a c,e=.returned (.slice a t.hs.length c)∧HldsAt (fresh w.heap.size w') (.slice a t.hs.length c) t.hs∧Below w.heap.size w w':=by
 obtain ⟨h1,hcalm,hcpu,hE,hab,hfr,hnl,htx,tb,b,tc,hv,pb,db,ao,pc,s,k1,k2,k3,k4,k5,k6,k7⟩:=h;obtain ⟨a1,a2,a3⟩:=Ol.heldF_iff.1 h1.held;exact held_any Ba tb t.m Bd Be hv s.cp pb t.hs w k1 (k2.le (mask_off _ _)) a2 (by omega)
theorem admit_has {t:Ol.St} {p:Pd} (h:(Ol.admit t p).1=0):hasN (Ol.admit t p).2 p.nm=true:=by
 rcases two (hasN (Ol.admit t p).2 p.nm) with e|e
 ·exact e
 ·exfalso
  have h1:=Ol.admit_gone h;have h2:=Ol.admit_len h;rw [without_none e] at h1;rw [h1] at h2;omega
theorem consOne {W:World} {b:Nat} {nm:ByteArray} (h:W.heap[b]?=some (.cells #[.string nm,.int .i64 0,.int .i64 0,.int .i64 0,.int .i64 0,.slice none 0 0] 63 (0,0))):ConsAt W (.slice (some ⟨b,0,none⟩) 1 1) [⟨nm,0,0,0,0,[]⟩]:=by
 have hl:b<W.heap.size:=(Array.getElem?_eq_some_iff.1 h).1;refine ⟨_,_,rfl,⟨Nat.le_refl _,by decide⟩,fun _=>⟨b,0,fun _=>.slice none 0 0,rfl,hl,fun k hk=>?_⟩⟩;have hk0:k=0:=by simp at hk;exact hk
 subst hk0;refine ⟨fun j hj=>?_,⟨none,0,rfl,by simp [ct],fun h=>by simp [ct] at h⟩⟩
 have:=cell_of_heapV h j
 simp only [Nat.zero_mul,Nat.zero_add];rw [this]
 have:j=0∨j=1∨j=2∨j=3∨j=4∨j=5:=by omega
 rcases this with rfl|rfl|rfl|rfl|rfl|rfl <;> rfl
theorem cpusOne {W:World} {b:Nat} (h:W.heap[b]?=some (.cells #[.int .i64 0,.int .i64 0,.int .i64 0] 84 (0,0))):CpusAt W (.slice (some ⟨b,0,none⟩) 1 1) [⟨0,0,0⟩]:=by
 refine .inr ⟨b,0,1,rfl,fun k hk=>?_⟩;have hk0:k=0:=by simp at hk;exact hk
 subst hk0;exact ⟨cell_of_heapV h 0,cell_of_heapV h 1,cell_of_heapV h 2⟩
abbrev none1:Nat→Prop:=fun _=>False
theorem works_true (w:World) (ht:TabUp w) (hm:Mx w):Calls Tryz.prog 8 #[] w fun e w'=>e=.returned (.bool true)∧Below w.heap.size w w':=by
 have HB0:=qI ((Below.refl w.heap.size w).alloc (Nat.le_refl _) (.cells #[.int .i64 0,.int .i64 0,.int .i64 0] 84));have HX0:=qI (heap_madeO w (.cells #[.int .i64 0,.int .i64 0,.int .i64 0] 84) rfl);have HT:=qI ht;have HM:=qI hm;have hgl:0<w.heap.size:=ht.2;clear ht hm
 go_enter Tryz.func8,Tryz.ntmps8
 go_wp2_with fail
 generalize w.alloc (.cells #[.int .i64 0,.int .i64 0,.int .i64 0] 84)=X at *;refine (boot_any Ol.wC (.slice (some ⟨w.heap.size,0,none⟩) 1 1) (.slice none 0 0) 0 0 X (cpusOne HX0.out) ⟨none,0,rfl,fun h=>by simp [Ol.wC] at h⟩ (by decide) (HT.out.below HB0.out) (HM.out.below HB0.out)).mono ?_;rintro e W1 ⟨hbad,hgood,hout⟩;clear hbad;obtain ⟨Ba,Bd,Be,Bm,rfl,hM1,l1,l2,l3,l4⟩:=hgood Ol.wC_ok;have hX:w.heap.size≤X.heap.size:=HB0.out.size;have HB1:Hid (Below w.heap.size w W1):=HB0.out.trans (hout.mono hX);have HM1:=qI hM1;have h3:∀ j,three Ba Bd Bm j→w.heap.size≤j:=fun j hj=>by
  rcases hj with e|e|e <;> omega
 have H3:=qI h3;have HG3:Hid (¬ three Ba Bd Bm 0):=fun e=>by have:=h3 _ e;omega
 clear hgood hout hM1 h3;have HB2:=qI (HB1.out.alloc HB1.out.size (.cells #[.pointer (some ⟨Bd,0,none⟩),.pointer (some ⟨Be,0,none⟩),.pointer (some ⟨Ba,0,none⟩)] 36));have HC2:=qI ((Below.refl W1.heap.size W1).alloc (Nat.le_refl _) (.cells #[.pointer (some ⟨Bd,0,none⟩),.pointer (some ⟨Be,0,none⟩),.pointer (some ⟨Ba,0,none⟩)] 36));have HX2:=qI (heap_madeO W1 (.cells #[.pointer (some ⟨Bd,0,none⟩),.pointer (some ⟨Be,0,none⟩),.pointer (some ⟨Ba,0,none⟩)] 36) rfl);have HS2:Hid ((W1.alloc (.cells #[.pointer (some ⟨Bd,0,none⟩),.pointer (some ⟨Be,0,none⟩),.pointer (some ⟨Ba,0,none⟩)] 36)).heap.size=W1.heap.size+1):=by unfold Hid;simp
 have x2:(W1.alloc (.cells #[.pointer (some ⟨Bd,0,none⟩),.pointer (some ⟨Be,0,none⟩),.pointer (some ⟨Ba,0,none⟩)] 36)).cell? ⟨W1.heap.size,2,none⟩=some (.pointer (some ⟨Ba,0,none⟩)):=cell_of_heapV HX2.out 2
 go_upto_region 4 with fail
 generalize W1.alloc (.cells #[.pointer (some ⟨Bd,0,none⟩),.pointer (some ⟨Be,0,none⟩),.pointer (some ⟨Ba,0,none⟩)] 36)=Y at *;have HB3:=qI (HB2.out.alloc HB2.out.size (.cells #[.string ⟨#[120]⟩,.int .i64 0,.int .i64 0,.int .i64 0,.int .i64 0,.slice none 0 0] 63));have HC3:=qI (HC2.out.alloc HC2.out.size (.cells #[.string ⟨#[120]⟩,.int .i64 0,.int .i64 0,.int .i64 0,.int .i64 0,.slice none 0 0] 63));have HX3:=qI (heap_madeO Y (.cells #[.string ⟨#[120]⟩,.int .i64 0,.int .i64 0,.int .i64 0,.int .i64 0,.slice none 0 0] 63) rfl);have HY3:=qI (heap_oldO HX2.out (.cells #[.string ⟨#[120]⟩,.int .i64 0,.int .i64 0,.int .i64 0,.int .i64 0,.slice none 0 0] 63))
 go_wp2_with fail
 clear x2;generalize Y.alloc (.cells #[.string ⟨#[120]⟩,.int .i64 0,.int .i64 0,.int .i64 0,.int .i64 0,.slice none 0 0] 63)=Z at *;have lba:Ba<W1.heap.size:=by
  obtain ⟨_,_,_,_,_,_,_,_,_,_,_,_,_,_,_,_,_,k1,_⟩:=HM1.out;exact k1.lt
 obtain ⟨lbe,lbd,lbm⟩:=HM1.out.eng.lt;have hs2:=HS2.out;have HAD:=qI (admit_any none1 Ba Bd Be Bm ⟨Ol.mcOf Ol.wC,Ol.wC.ds,[]⟩ Dk.fresh 0 Ol.wP (.slice (some ⟨Y.heap.size,0,none⟩) 1 1) Z (HM1.out.keep HC3.out) (consOne (by rw [mask_out (by rintro (e|e|e|e) <;> first|exact e|omega)];exact HX3.out)) (HT.out.below HB3.out) (by omega) (fun l hl=>by
  have:l=[]:=by simpa using hl
  subst this;exact insOK_end (l:=[]) (by simp)))
 unfold podV at HAD;clear hs2;refine HAD.out.mono ?_;clear HAD;rintro e W4 ⟨rfl,⟨dk4,n4,hn4,hM4⟩,ha4⟩;have hadm:(Ol.admit ⟨Ol.mcOf Ol.wC,Ol.wC.ds,[]⟩ Ol.wP).1=0:=Ol.w_admit;have HHAS:=qI (admit_has hadm);have HLEN:Hid ((Ol.admit ⟨Ol.mcOf Ol.wC,Ol.wC.ds,[]⟩ Ol.wP).2.length=1):=Ol.admit_len hadm;have HGONE:Hid (Ol.without (Ol.admit ⟨Ol.mcOf Ol.wC,Ol.wC.ds,[]⟩ Ol.wP).2 Ol.wP.nm=[]):=Ol.admit_gone hadm;have hn4':n4≤36:=by
  have h1:=newOf_le (runsOf []) (runsOf (Ol.admit ⟨Ol.mcOf Ol.wC,Ol.wC.ds,[]⟩ Ol.wP).2);have h2:=runs_len hM4.inv.held;dsimp only at hn4 h2;omega
 rw [hadm];generalize (Ol.admit ⟨Ol.mcOf Ol.wC,Ol.wC.ds,[]⟩ Ol.wP).2=hs4 at *;have HM4:=qI hM4;have HB4:=qI (below_apart HB3.out HB3.out.size ha4 H3.out);have HTA4:Hid (∀ W,Apart (three Ba Bd Bm) Z W→TabUp W):=fun W hW=>tab_apart (HT.out.below HB3.out) hW HG3.out
 have HA4:=qI ha4;have HMB:Hid (¬ three Ba Bd Bm W1.heap.size):=fun e=>by rcases e with e|e|e <;> omega
 have hZ:W1.heap.size<Z.heap.size:=(Array.getElem?_eq_some_iff.1 HY3.out).1;have HY4:=qI ((ha4.block W1.heap.size hZ HMB.out).trans HY3.out);have x2:W4.cell? ⟨W1.heap.size,2,none⟩=some (.pointer (some ⟨Ba,0,none⟩)):=cell_of_heapV HY4.out 2;rw [show errV (((0:Nat)):Int)=.nilIface from rfl];clear hadm hn4 hM4 ha4
 go_wp2_with fail
 refine (held_mach HM4.out).mono ?_;rintro e W5 ⟨a5,c5,rfl,_,hb5⟩;dsimp only;rw [HLEN.out];have HB5:=qI (HB4.out.trans (hb5.mono HB4.out.size));have HA5:=qI (HA4.out.trans (Apart.of_below hb5));have HM5:=qI (HM4.out.keep hb5);have hs5:=hb5.size;have hs4:=HA4.out.size;have HY5:=qI ((hb5.block W1.heap.size (by omega)).trans HY4.out);have x2':W5.cell? ⟨W1.heap.size,2,none⟩=some (.pointer (some ⟨Ba,0,none⟩)):=cell_of_heapV HY5.out 2;clear hb5 x2;have HRM:=qI (remove_any none1 Ba Bd Be Bm _ dk4 n4 Ol.wP.nm W5 HM5.out (by omega) (fun W hW=>HTA4.out W (HA5.out.trans hW)));dsimp only at HRM;rw [HHAS.out,HGONE.out] at HRM;unfold Ol.wP at HRM;dsimp only at HRM
 go_wp2_with fail
 refine HRM.out.mono ?_;rintro e W6 ⟨rfl,⟨dk6,n6,hn6,hM6⟩,ha6⟩;rw [show errV (((if True then 0 else 6:Nat)):Int)=.nilIface from rfl];have HM6:=qI hM6;have HB6:=qI (below_apart HB5.out HB5.out.size ha6 H3.out);have HY6:=qI ((ha6.block W1.heap.size (by omega) HMB.out).trans HY5.out);have x2'':W6.cell? ⟨W1.heap.size,2,none⟩=some (.pointer (some ⟨Ba,0,none⟩)):=cell_of_heapV HY6.out 2;clear hn6 hM6 ha6 x2' HRM
 go_wp2_with fail
 refine (held_mach HM6.out).mono ?_;rintro e W7 ⟨a7,c7,rfl,_,hb7⟩;dsimp only;have HB7:=qI (HB6.out.trans (hb7.mono HB6.out.size));clear hb7
 go_wp2_with fail
 go_ret;exact ⟨rfl,HB7.out⟩
end
section
open Go.RowKit Go.Shelf
open Qos (Nd Ct Pd nd ct pd podF)
open Sv (Gv Hd gv hd gsF heldF heldTxt)
attribute [local go_sem] Oper.semAt_some
theorem admit_shape (t:Ol.St) (p:Pd):((Ol.admit t p).1≠0∧(Ol.admit t p).2=t.hs)∨((Ol.admit t p).1=0∧∃ gs,(Ol.admit t p).2=Ol.insertH t.hs ⟨p,gs⟩):=by
 unfold Ol.admit
 split
 ·rename_i h;exact .inl ⟨h,rfl⟩
 split
 ·exact .inl ⟨by simp,rfl⟩
 split
 ·exact .inl ⟨by simp,rfl⟩
 split
 ·exact .inl ⟨by simp,rfl⟩
 split
 ·rename_i h;exact .inl ⟨h,rfl⟩
 split
 ·exact .inl ⟨by simp,rfl⟩
 ·exact .inr ⟨rfl,_,rfl⟩
open Classical in
theorem new_insert (hs:List Hd) (i:Nat) (x:Hd):newOf (runsOf hs) (runsOf (hs.take i++x :: hs.drop i))≤x.gs.length:=by
 have e:runsOf (hs.take i++x :: hs.drop i)=runsOf (hs.take i)++((List.range x.gs.length).map (runOf x)++runsOf (hs.drop i)):=by
  unfold runsOf;rw [List.flatMap_append,List.flatMap_cons]
 have h1:=newOf_sub (runs_sub (List.take_sublist i hs));have h2:=newOf_sub (runs_sub (List.drop_sublist i hs));unfold newOf at h1 h2 ⊢;rw [e,List.filter_append,List.filter_append,List.length_append,List.length_append,h1,h2]
 have:=List.length_filter_le (fun r=>decide (r ∉ runsOf hs)) ((List.range x.gs.length).map (runOf x))
 rw [List.length_map,List.length_range] at this;omega
theorem new_admit {t:Ol.St} (h:Ol.Inv t) (p:Pd):newOf (runsOf t.hs) (runsOf (Ol.admit t p).2)≤3:=by
 rcases admit_shape t p with h1|⟨_,gs,h1⟩
 ·rw [h1.2,newOf_sub (fun _ h=>h)];omega
 ·have hi:=(Ol.admit_inv h p).held;have hi:heldF (Ol.admit t p).2=0:=hi;rw [h1] at hi ⊢;have hx:(⟨p,gs⟩:Hd)∈Ol.insertH t.hs ⟨p,gs⟩:=by unfold Ol.insertH;simp
  obtain ⟨_,a2,_⟩:=Ol.heldF_iff.1 hi;obtain ⟨b1,b2,_⟩:=a2 _ hx;have b3:=(Sv.okP_of b1).2.2.1
  have:=new_insert t.hs (Ol.atOf t.hs p.nm) ⟨p,gs⟩
  unfold Ol.insertH;dsimp only at this b2 b3 ⊢;omega
section
variable {N:Nat→Prop} {Ba Bd Be Bm:Nat} {t:Ol.St} {dk:Dk} {n:Nat} {w:World}
theorem admitF {p:Pd} {cv:Value} (hM:Mach w N Ba Bd Be Bm t dk n) (hp:ConsAt (mask (four N Ba Bd Bm) w) cv p.cs) (ht:TabUp w) (hn:n+36≤1000):Calls Tryz.prog 23 #[.pointer (some ⟨Ba,0,none⟩),podV p cv] w fun e w'=>e=.returned (errV ((Ol.admit t p).1:Nat))∧(∃ dk' n',n'≤n+3∧Mach w' N Ba Bd Be Bm ⟨t.m,t.ds,(Ol.admit t p).2⟩ dk' n')∧Apart (three Ba Bd Bm) w w':=by
 have h12:=(Ol.heldF_iff.1 hM.inv.held).1;refine (admit_any N Ba Bd Be Bm t dk n p cv w hM hp ht hn (fun l hl=>?_)).mono ?_
 ·have hll:l.length=t.hs.length:=by rw [← hl,List.length_map]
  exact insOK (by rw [hll];unfold Ol.atOf;exact List.countP_le_length) (by omega)
 ·rintro e w' ⟨rfl,⟨dk',n',hn',hM'⟩,ha⟩;exact ⟨rfl,⟨dk',n',by have:=new_admit hM.inv p;omega,hM'⟩,ha⟩
theorem heldM (h:Mach w N Ba Bd Be Bm t dk n):Calls Tryz.prog 15 #[.pointer (some ⟨Ba,0,none⟩)] w fun e w'=>∃ a c,e=.returned (.slice a t.hs.length c)∧HldsAt (mask (three Ba Bd Bm) w') (.slice a t.hs.length c) t.hs∧Below w.heap.size w w':=by
 obtain ⟨l1,l2,l3⟩:=h.eng.lt;have l4:Ba<w.heap.size:=by
  obtain ⟨_,_,_,_,_,_,_,_,_,_,_,_,_,_,_,_,_,k1,_⟩:=h;exact k1.lt
 refine (held_mach h).mono ?_;rintro e w' ⟨a,c,rfl,hh,hb⟩;refine ⟨a,c,rfl,hh.le (mask_to (fun j _ hn=>⟨fun e=>hn ?_,rfl⟩) (Nat.le_refl _)),hb⟩
 rcases e with e|e|e
 all_goals show j<w.heap.size;omega
theorem sharedM (h:Mach w N Ba Bd Be Bm t dk n):Calls Tryz.prog 18 #[.pointer (some ⟨Ba,0,none⟩)] w fun e w'=>(∃ s,Ol.left t.m t.ds t.hs=some s∧e=.returned (.int .u64 (s.cp:Nat)))∧w'=w:=by
 obtain ⟨h1,hcalm,hcpu,hE,hab,hfr,hnl,htx,tb,b,tc,hv,pb,db,ao,pc,s,k1,k2,k3,k4,k5,k6,k7⟩:=h;have x8:w.cell? ⟨Ba,8,none⟩=some (.int .u64 s.cp):=cell_of_heapV k1 8;have HL:=qI k4;clear h1 hcalm hcpu hE hab hfr hnl htx k1 k2 k3 k4 k5 k6 k7
 go_enter Tryz.func18,Tryz.ntmps18
 go_wp2_with fail
 go_ret;exact ⟨⟨s,HL.out,rfl⟩,rfl⟩
end
end
section
open Go.RowKit Go.Shelf
open Ost (Cpu cpu0)
open Qos (Nd Ct Pd nd ct pd podF)
open Sv (Gv Hd gv hd gsF heldF heldTxt)
open Dvs (Dv dv Nodes)
section
variable {N:Nat→Prop} {Ba Bd Be Bm:Nat} {t:Ol.St} {dk:Dk} {n:Nat} {w:World}
end
end
section
open Go.RowKit Go.Shelf
open Ost (Cpu chosen dif cnt)
open Qos (Nd Ct Pd nd ct pd podF sumM sumB)
open Sv (Gv Hd gv hd)
end
section
open Go.RowKit Go.Shelf
open Qos (Nd Ct Pd nd ct pd podF ownOf)
open Sv (Gv Hd gv hd)
def MildTo (ps:List Pd) (k:Nat):Prop:=∀ j,j<k→podF (pd ps j)=0∧Ol.Needless (pd ps j)
theorem MildTo.zero {ps:List Pd}:MildTo ps 0:=fun _ h=>absurd h (Nat.not_lt_zero _)
theorem MildTo.next {ps:List Pd} {k:Nat} (h:MildTo ps k) (h1:podF (pd ps k)=0) (h2:Ol.Needless (pd ps k)):MildTo ps (k+1):=fun j hj=>by
 by_cases e:j=k
 ·rw [e];exact ⟨h1,h2⟩
 ·exact h j (by omega)
theorem MildTo.all {ps:List Pd} (h:MildTo ps ps.length):∀ q∈ps,podF q=0∧Ol.Needless q:=fun q hq=>by
 obtain ⟨k,hk,rfl⟩:=List.getElem_of_mem hq
 have:=h k hk
 have e:pd ps k=ps[k]:=by simp [pd,hk]
 rwa [e] at this
def NoneTo (q:Pd) (j:Nat):Prop:=∀ i,i<j→ownOf q.cs (ct q.cs i).am≤0∧(ct q.cs i).ds=[]
theorem NoneTo.zero {q:Pd}:NoneTo q 0:=fun _ h=>absurd h (Nat.not_lt_zero _)
theorem NoneTo.next {q:Pd} {k:Nat} (h:NoneTo q k) (h1:¬ 0<ownOf q.cs (ct q.cs k).am) (h2:(ct q.cs k).ds.length=0):NoneTo q (k+1):=fun j hj=>by
 by_cases e:j=k
 ·rw [e];exact ⟨by omega,List.eq_nil_of_length_eq_zero h2⟩
 ·exact h j (by omega)
theorem NoneTo.all {q:Pd} (h:NoneTo q q.cs.length):Ol.Needless q:=fun c hc=>by
 obtain ⟨k,hk,rfl⟩:=Sv.ct_in hc;exact h k hk
theorem split_pd {ps:List Pd} {k:Nat} (h:k<ps.length):ps=ps.take k++pd ps k :: ps.drop (k+1):=by
 have e:pd ps k=ps[k]:=by simp [pd,h]
 rw [e,List.getElem_cons_drop h,List.take_append_drop]
theorem take_pd {ps:List Pd} {k:Nat} (h:k<ps.length):ps.take (k+1)=ps.take k++[pd ps k]:=by
 rw [List.take_succ_eq_append_getElem h];simp [pd,h]
theorem drop_pd {ps:List Pd} {k:Nat} (h:k<ps.length):ps.drop k=pd ps k :: ps.drop (k+1):=by
 have e:pd ps k=ps[k]:=by simp [pd,h]
 rw [e,List.getElem_cons_drop h]
theorem went {t o:Ol.St} {ps:List Pd} {k:Nat} (hk:k<ps.length) (ht:Ol.Inv t) (ho:Ol.Inv o) (hm:o.m=t.m) (hl:t.m.l.length≤64) (hop:t.m.op &&& Ost.chosen (fun _=>true) t.m.l=t.m.op) (hall:∀ q∈ps,podF q=0∧Ol.Needless q) (hc:Ol.Came t ps) (hr:o.hs.Perm ((ps.drop (k+1)).map Ol.zh)):(Ol.admit o (pd ps k)).1=0∧(Ol.admit o (pd ps k)).2.Perm ((ps.drop k).map Ol.zh):=by
 have e:=split_pd hk;rw [drop_pd hk];refine Ol.went_next (l:=ps.take k) ht ho hm hl hop ?_ ?_ hr
 ·rw [← e];exact hall
 ·rw [← e];exact hc
theorem came {t:Ol.St} {ps:List Pd} {k:Nat} (hk:k<ps.length) (ht:Ol.Inv t) (hl:t.m.l.length≤64) (hop:t.m.op &&& Ost.chosen (fun _=>true) t.m.l=t.m.op) (hall:∀ q∈ps,podF q=0∧Ol.Needless q) (hc:Ol.Came t (ps.take k)) (h0:(Ol.admit t (pd ps k)).1=0):Ol.Came ⟨t.m,t.ds,(Ol.admit t (pd ps k)).2⟩ (ps.take (k+1)):=by
 have e:pd ps k=ps[k]:=by simp [pd,hk]
 have hq:=hall (pd ps k) (by rw [e];exact List.getElem_mem hk);rw [take_pd hk];exact Ol.came_next ht hl hop hq.1 hq.2 hc h0
end
section
open Go.RowKit Go.Shelf
open Ost (Cpu cpu0)
open Qos (Nd Ct Pd nd ct pd podF)
open Sv (Gv Hd gv hd gsF heldF heldTxt)
open Dvs (Dv dv Nodes)
section
variable {N:Nat→Prop} {Ba Bd Be Bm:Nat} {t:Ol.St} {dk:Dk} {n:Nat} {w:World}
theorem Mach.lts (h:Mach w N Ba Bd Be Bm t dk n):(Ba<w.heap.size∧Bd<w.heap.size∧Bm<w.heap.size)∧Be<w.heap.size:=by
 obtain ⟨l1,l2,l3⟩:=h.eng.lt;obtain ⟨_,_,_,_,_,_,_,_,_,_,_,_,_,_,_,_,_,k1,_⟩:=h;exact ⟨⟨k1.lt,l2,l3⟩,l1⟩
theorem Mach.ost (h:Mach w N Ba Bd Be Bm t dk n):∃ arr,w.heap[Ba]?=some (Obj.cells arr 115 (0,0))∧∃ p,w.cell? ⟨Ba,0,none⟩=some (.pointer p):=by
 obtain ⟨_,_,_,_,_,_,_,_,_,_,_,_,_,_,_,_,_,k1,_⟩:=h;exact ⟨_,k1,_,cell_of_heapV k1 0⟩
theorem Mach.noInt (h:Mach w N Ba Bd Be Bm t dk n):∀ j,three Ba Bd Bm j→∀ (arr:Array Value) (z:Nat × Nat),w.heap[j]?≠some (Obj.cells arr 3 z):=by
 obtain ⟨a1,k1,_⟩:=h.ost;have hd:=h.eng.disk;unfold DiskW at hd;obtain ⟨xs,hm,_⟩:=h.eng.map;obtain ⟨_,es,⟨ms,clock,hh,_⟩,_⟩:=hm;rintro j (e|e|e) arr z he <;> subst e
 ·rw [k1] at he;injection he with he
  injection he with _ h2 _
  exact absurd h2 (by decide)
 ·rw [hd] at he;injection he with he
  injection he with _ h2 _
  exact absurd h2 (by decide)
 ·rw [hh] at he;injection he with he
  cases he
theorem Mach.not3 (h:Mach w N Ba Bd Be Bm t dk n) {j:Nat} {v:Value} (hv:w.cell? ⟨j,0,none⟩=some v) (h1:∀ p,v≠.pointer p) (h2:∀ b,v≠.bool b):¬ three Ba Bd Bm j:=by
 obtain ⟨_,_,p,ho⟩:=h.ost;have hd:=h.eng.disk;unfold DiskW at hd;have hd0:=cell_of_heapV hd 0;obtain ⟨xs,hm,_⟩:=h.eng.map;have hmap:∀ v,w.cell? ⟨Bm,0,none⟩≠some v:=fun v e=>by
  obtain ⟨_,es,⟨ms,clock,hh,_⟩,_⟩:=hm
  simp [World.cell?,hh] at e
 rintro (e|e|e) <;> subst e
 ·rw [ho] at hv;exact h1 p (Option.some.inj hv).symm
 ·rw [hd0] at hv;exact h2 _ (Option.some.inj hv).symm
 ·exact hmap v hv
end
theorem Mach.wide {W:World} {N':Nat→Prop} {Ba Bd Be Bm Ba' Bd' Be' Bm':Nat} {t t':Ol.St} {dk dk':Dk} {n n':Nat} (h:Mach W none1 Ba Bd Be Bm t dk n) (h0:t.hs=[]) (h':Mach W N' Ba' Bd' Be' Bm' t' dk' n') (hf:¬ three Ba' Bd' Bm' Ba∧¬ three Ba' Bd' Bm' Bd∧¬ three Ba' Bd' Bm' Bm∧¬ three Ba' Bd' Bm' Be):Mach W (three Ba' Bd' Bm') Ba Bd Be Bm t dk n:=by
 obtain ⟨⟨l1,l2,l3⟩,_⟩:=h'.lts;obtain ⟨h1,h2,h0l,h3,h4,h5,h6,h7,tb,b,c,hv,pb,db,ao,pc,s,k1,k2,k3,k4,k5,k6,k7⟩:=h;have nt:¬ four none1 Ba Bd Bm tb:=mask_free k3.topo.cell;have nb:¬ four none1 Ba Bd Bm b:=mask_free (k3.topo.cells 0 h0l).1;have c1:=(mask_off _ _).cell _ _ _ k3.topo.cell;have c2:=(mask_off _ _).cell _ _ _ (k3.topo.cells 0 h0l).1;rw [Nat.zero_add,Nat.zero_mul] at c2;have t3:=h'.not3 c1 (fun _ e=>by cases e) (fun _ e=>by cases e);have b3:=h'.not3 c2 (fun _ e=>by cases e) (fun _ e=>by cases e);have p3:=h'.not3 k5.pool.row (fun _ e=>by cases e) (fun _ e=>by cases e);have up:∀ j,¬ three Ba' Bd' Bm' j→¬ four none1 Ba Bd Bm j→¬ four (three Ba' Bd' Bm') Ba Bd Bm j:=fun j a b e=>e.elim a (fun e=>b (.inr e))
 refine ⟨h1,h2,h0l,h3,h4,hf,fun j hj=>by rcases hj with e|e|e <;> omega,h7,tb,b,c,hv,pb,db,ao,pc,s,k1,?_,⟨topo_blocks k3.topo ?_ ?_ ?_,k3.good,k3.op,k3.nd,k3.pol⟩,k4,k5,up _ p3 k6,fun hp=>up _ (h'.not3 (v:=.string (dv s.ds 0).kind) ?_ (fun _ e=>by cases e) (fun _ e=>by cases e)) (k7 hp)⟩
 ·rw [h0] at k2 ⊢;obtain ⟨a2,c2,e2,m2,_⟩:=k2;exact ⟨a2,c2,e2,m2,fun h=>absurd h (by simp)⟩
 ·rw [mask_out nt,mask_out (up _ t3 nt)]
 ·rw [mask_out nb,mask_out (up _ b3 nb)]
 ·rw [mask_size,mask_size];exact Nat.le_refl _
 ·have:=(k5.pool.cells 0 hp).1
  rw [Nat.zero_mul] at this;exact this
end
end Go.Proofs.YtbmmnflgnmjboaaGreatDoor
