/- VL1, OT0, OT3, OMath16, ORM, OQS -/
import Derived.Test.YtbfdcmodflnkfaaGreatDoorP33
set_option maxRecDepth 100000
set_option maxHeartbeats 16000000
namespace Go.Proofs.YtbfdcmodflnkfaaGreatDoor
section
open Go.RowKit Go.Shelf
open Qos (Nd Ct Pd nd ct pd)
open Sv (Gv Hd gv hd)
theorem run_assertN (f:Int) (w:World):(Instr.typeAssert (.iface 94 (.int .i64 f)) 44 94 true).run Tryz.prog w=.ok (.tuple #[.int .i64 f,.bool true]) w:=by kernel_rfl
theorem number_any (k:Int) (w:World):Calls Tryz.prog 22 #[.iface 94 (.int .i64 k)] w fun e w'=>e=.returned (.int .i64 k)∧w'=w:=by
 have hta:=run_assertN k
 go_enter Tryz.func22,Tryz.ntmps22
 go_wp2_with fail
 go_ret;exact ⟨rfl,rfl⟩
end
section
open Go.RowKit Go.Shelf
open Ost (Cpu cpu0)
open Qos (Nd Ct Pd nd ct pd podF)
open Sv (Gv Hd gv hd gsF heldF heldTxt)
open Dvs (Dv dv Nodes)
attribute [local go_sem] Oper.semAt_some
theorem number_nil (w:World):Calls Tryz.prog 22 #[.nilIface] w fun e w'=>e=.returned (.int .i64 0)∧w'=w:=by
 go_enter Tryz.func22,Tryz.ntmps22
 go_wp2_with fail
 go_ret;exact ⟨rfl,rfl⟩
theorem numberE (k:Nat) (w:World):Calls Tryz.prog 22 #[errV (k:Int)] w fun e w'=>e=.returned (.int .i64 k)∧w'=w:=by
 by_cases h:k=0
 ·subst h;exact number_nil w
 ·rw [errQ_pos h];exact number_any _ w
end
section
open Go.RowKit Go.Shelf
open Qos (Nd Ct Pd nd ct pd podF)
open Sv (Gv Hd gv hd gsF heldF heldTxt)
attribute [local go_sem] Oper.semAt_some
section
variable {N:Nat→Prop} {Ba Bd Be Bm:Nat} {t:Ol.St} {dk:Dk} {n:Nat} {w:World}
end
theorem HldsAt.part {M:Nat→Prop} {W W':World} {v:Value} {hs:List Hd} (h:HldsAt (mask M W) v hs) (ha:Apart M W W'):HldsAt (mask M W') v hs:=h.le (mask_to (fun j hj hn=>⟨hn,ha.block j hj hn⟩) ha.size)
end
section
namespace Ol
open Ost (Cpu chosen cnt dif takeOut)
open Dvs (Dv dv takeF)
open Qos (Nd Ct Pd ct podF ownOf)
open Sv (Gv Hd gv hd heldTxt)
theorem takeF_not7 (ds:List Dv) (us:Nat→Bool) (kind:ByteArray) (many:Int):takeF ds us kind many≠7:=by
 unfold takeF
 split
 ·decide
 ·split <;> decide
theorem devsFor_not7 (ds:List Dv) (on:Nat):∀ (ns:List Nd) (us:Nat→Bool) (out:List Nat),(devsFor ds on ns us out).1≠7:=by
 intro ns
 induction ns with
 | nil=>intro us out;exact fun e=>absurd (show (0:Nat)=7 from e) (by decide)
 | cons n r ih=>
  intro us out;rw [devsFor]
  split
  ·exact ih _ _
  ·exact takeF_not7 ds us n.kind n.many
theorem giveOne_not7 (m:Mc) (s:Sk) (own:Int) (ns:List Nd):(giveOne m s own ns).1≠7:=by
 unfold giveOne;dsimp only
 split
 ·exact fun e=>absurd (show (10:Nat)=7 from e) (by decide)
 ·split
  ·unfold takeOut
   split
   ·exact fun e=>absurd (show (1:Nat)=7 from e) (by decide)
   ·split
    ·exact fun e=>absurd (show (8:Nat)=7 from e) (by decide)
    ·exact fun e=>absurd (show (0:Nat)=7 from e) (by decide)
  ·split
   ·exact devsFor_not7 _ _ _ _ _
   ·exact fun e=>absurd (show (0:Nat)=7 from e) (by decide)
theorem giveTo_not7 (m:Mc) (s:Sk) (cs:List Ct):∀ k,(giveTo m s cs k).1≠7:=by
 intro k
 induction k with
 | zero=>exact fun e=>absurd (show (0:Nat)=7 from e) (by decide)
 | succ k ih=>
  rw [giveTo]
  split
  ·unfold giveNext
   split
   ·exact fun e=>absurd (show (0:Nat)=7 from e) (by decide)
   ·exact giveOne_not7 _ _ _ _
  ·exact ih
theorem admit_more {t:St} {p:Pd} (hp:podF p=0) (hn:¬ ∃ h∈t.hs,h.pod.nm=p.nm) (hl:t.hs.length<12) (hr:room t.m (t.hs.map Hd.pod++[p])=false):(admit t p).1=7:=by
 unfold admit;rw [if_neg (by omega),if_neg hn,if_neg (by omega),if_pos hr]
theorem admit_less {t:St} {p:Pd} (h:Inv t) (hp:podF p=0) (hn:¬ ∃ h∈t.hs,h.pod.nm=p.nm) (hl:t.hs.length<12) (hr:room t.m (t.hs.map Hd.pod++[p])=true):(admit t p).1≠7:=by
 obtain ⟨s,hs⟩:=h.left;unfold admit;rw [if_neg (by omega),if_neg hn,if_neg (by omega),if_neg (by rw [hr];decide),hs,Option.getD_some]
 split
 ·exact giveTo_not7 _ _ _ _
 ·split
  ·exact fun e=>absurd (show (2:Nat)=7 from e) (by decide)
  ·exact fun e=>absurd (show (0:Nat)=7 from e) (by decide)
theorem admit_plain {t:St} {p:Pd} (h:Inv t) (hpol:t.m.pol=0) (hop:t.m.op &&& chosen (fun _=>true) t.m.l=t.m.op) (hp:podF p=0) (hn:¬ ∃ h∈t.hs,h.pod.nm=p.nm) (hl:t.hs.length<12) (hr:room t.m (t.hs.map Hd.pod++[p])=true) (hno:∀ c∈p.cs,c.ds=[]):(admit t p).1=0∨(admit t p).1=2:=by
 obtain ⟨s,hs⟩:=h.left;obtain ⟨_,a2,_⟩:=heldF_iff.1 h.held;have hg:=give_room hpol hop cnt_le hs (Dvs.fault_nodes h.devs).1 (fun x hx=>⟨(a2 x hx).1,(a2 x hx).2.1⟩) hp hno hr;unfold admit;rw [if_neg (by omega),if_neg hn,if_neg (by omega),if_neg (by rw [hr];decide),hs,Option.getD_some,if_neg (by omega)]
 split
 ·exact .inr rfl
 ·exact .inl rfl
end Ol
end
section
open Go.RowKit Go.Shelf
open Ost (Cpu chosen dif cnt)
open Qos (Nd Ct Pd nd ct pd podF sumM sumB)
open Sv (Gv Hd gv hd)
theorem Apart.next {M K:Nat→Prop} {A B C:World} (h:Apart M A B) (k:Apart K B C) (hk:∀ j,j<A.heap.size→K j→M j):Apart M A C:=
 ⟨k.os.trans h.os,k.tape.trans h.tape,k.output.trans h.output,Nat.le_trans h.size k.size,fun j hj hn=>(k.block j (Nat.lt_of_lt_of_le hj h.size) (fun e=>hn (hk j hj e))).trans (h.block j hj hn)⟩
theorem nm_ne {a b:ByteArray} (h:a≠b):(a.toList == b.toList)=false:=by
 rw [beq_eq_false_iff_ne];intro e;rw [ByteArray.toList_eq,ByteArray.toList_eq] at e;exact h (ByteArray.ext (Array.toList_inj.1 e))
theorem hasN_next {hs:List Hd} {k:Nat} {nm:ByteArray} (h:k<hs.length):hasN (hs.take (k+1)) nm=(hasN (hs.take k) nm || decide ((hd hs k).pod.nm=nm)):=by
 unfold hasN;rw [List.take_succ_eq_append_getElem h,List.any_append];simp [hd,h]
theorem hsM_next {hs:List Hd} {k:Nat} (h:k<hs.length):Ol.sumsM ((hs.take (k+1)).map Hd.pod)=Ol.sumsM ((hs.take k).map Hd.pod)+sumM (hd hs k).pod.cs (hd hs k).pod.cs.length:=by
 unfold Ol.sumsM;rw [List.take_succ_eq_append_getElem h,List.map_append,List.map_append,List.sum_append];simp [hd,h]
theorem hsB_next {hs:List Hd} {k:Nat} (h:k<hs.length):Ol.sumsB ((hs.take (k+1)).map Hd.pod)=Ol.sumsB ((hs.take k).map Hd.pod)+sumB (hd hs k).pod.cs (hd hs k).pod.cs.length:=by
 unfold Ol.sumsB;rw [List.take_succ_eq_append_getElem h,List.map_append,List.map_append,List.sum_append];simp [hd,h]
def RelS (p:Pd) (hs:List Hd) (k:Nat) (M N:Int):Prop:=podF p=0→M=sumM p.cs p.cs.length+Ol.sumsM ((hs.take k).map Hd.pod)∧N=sumB p.cs p.cs.length+Ol.sumsB ((hs.take k).map Hd.pod)
theorem RelS.next {p:Pd} {hs:List Hd} {k:Nat} {M N:Int} (h:RelS p hs k M N) (hk:k<hs.length) (hp:∀ x∈hs,podF x.pod=0) (hl:hs.length≤12):RelS p hs (k+1) (wrap64 (M+sumM (hd hs k).pod.cs (hd hs k).pod.cs.length)) (wrap64 (N+sumB (hd hs k).pod.cs (hd hs k).pod.cs.length)):=by
 intro h0;obtain ⟨e1,e2⟩:=h h0;have hm:∀ q∈hs.map Hd.pod,Qos.Mild q.cs:=fun q hq=>by
  obtain ⟨x,hx,rfl⟩:=List.mem_map.1 hq;exact Qos.pod_mild (hp x hx)
 have hb:=sums_in hm (by rw [List.length_map];omega) (k+1) (by rw [List.length_map];omega);rw [← List.map_take,hsM_next hk,hsB_next hk] at hb;have a1:=Qos.sumM_in (Qos.pod_mild h0) (Nat.le_refl _);have a2:=Qos.sumB_in (Qos.pod_mild h0) (Nat.le_refl _);rw [hsM_next hk,hsB_next hk,e1,e2];unfold wrap64;omega
theorem RelS.zero {p:Pd} {hs:List Hd} {M N:Int} (h:podF p=0→M=sumM p.cs p.cs.length∧N=sumB p.cs p.cs.length):RelS p hs 0 M N:=fun h0=>by
 obtain ⟨e1,e2⟩:=h h0;have s1:Ol.sumsM ((hs.take 0).map Hd.pod)=0:=rfl;have s2:Ol.sumsB ((hs.take 0).map Hd.pod)=0:=rfl;rw [s1,s2];omega
theorem room_is {c:Ol.Cf} {p:Pd} {hs:List Hd} {M N:Int} (h:RelS p hs hs.length M N) (h0:podF p=0):Ol.room (Ol.mcOf c) (hs.map Hd.pod++[p])=(decide (M≤1000*((cnt (dif (chosen anyCpu c.l) c.keep):Nat):Int)) && decide (N≤c.nb)):=by
 obtain ⟨e1,e2⟩:=h h0;rw [List.take_length] at e1 e2;have s1:Ol.sumsM (hs.map Hd.pod++[p])=M:=by
  rw [Ol.sums_app,e1]
  have:Ol.sumsM [p]=sumM p.cs p.cs.length:=by unfold Ol.sumsM;simp
  omega
 have s2:Ol.sumsB (hs.map Hd.pod++[p])=N:=by
  have a:Ol.sumsB (hs.map Hd.pod++[p])=Ol.sumsB (hs.map Hd.pod)+Ol.sumsB [p]:=by unfold Ol.sumsB;rw [List.map_append,List.sum_append]
  have:Ol.sumsB [p]=sumB p.cs p.cs.length:=by unfold Ol.sumsB;simp
  omega
 unfold Ol.room;rw [s1,s2];rfl
def noDev (cs:List Ct) (k:Nat):Bool:=(cs.take k).all fun c=>decide (c.ds.length=0)
theorem noDev_next {cs:List Ct} {k:Nat} (h:k<cs.length):noDev cs (k+1)=(noDev cs k && decide ((ct cs k).ds.length=0)):=by
 unfold noDev;rw [List.take_succ_eq_append_getElem h,List.all_append];simp [ct,h]
theorem noDev_all {cs:List Ct} (h:noDev cs cs.length=true):∀ c∈cs,c.ds=[]:=fun c hc=>by
 unfold noDev at h;rw [List.take_length,List.all_eq_true] at h;exact List.eq_nil_of_length_eq_zero (of_decide_eq_true (h c hc))
theorem held_pods {t:Ol.St} (h:Ol.Inv t):∀ x∈t.hs,podF x.pod=0:=fun x hx=>((Ol.heldF_iff.1 h.held).2.1 x hx).1
theorem verdict {t:Ol.St} {p:Pd} (h:Ol.Inv t) (hpol:t.m.pol=0) (hop:t.m.op &&& chosen (fun _=>true) t.m.l=t.m.op) (hp:podF p=0) (hn:hasN t.hs p.nm=false) (hl:t.hs.length≠12):(Ol.room t.m (t.hs.map Hd.pod++[p])=false→(Ol.admit t p).1=7)∧(Ol.room t.m (t.hs.map Hd.pod++[p])=true→(Ol.admit t p).1≠7∧(noDev p.cs p.cs.length=true→(Ol.admit t p).1=0∨(Ol.admit t p).1=2)):=by
 have hn':¬ ∃ h∈t.hs,h.pod.nm=p.nm:=fun e=>by rw [hasN_iff.2 e] at hn;cases hn
 have hl':t.hs.length<12:=by have:=(Ol.heldF_iff.1 h.held).1;omega
 exact ⟨Ol.admit_more hp hn' hl',fun hr=>⟨Ol.admit_less h hp hn' hl' hr,fun hd=>Ol.admit_plain h hpol hop hp hn' hl' hr (noDev_all hd)⟩⟩
end
section
open Go.RowKit
open Qos (Nd Ct Pd nd0 ct0 pd0 nd ct pd silent certain classOf quiet sure sumM sumB Mild)
theorem sum_some (p:Pd) (cv:Value) (w:World) (h:ConsAt w cv p.cs):Calls Tryz.prog 18 #[podV p cv] w fun e w'=>(∃ a b:Int,e=.returned (.agg #[.int .i64 a,.int .i64 b]))∧Below w.heap.size w w':=by
 obtain ⟨ao,c,rfl,hm,hr⟩:=h;have HR:=qI hr;have hlen:p.cs.length≤9223372036854775807:=by have h1:=hm.1;have h2:=hm.2;unfold maxLen at h2;omega
 clear hr hm;unfold podV;have HB0:=qI ((((Below.refl w.heap.size w).alloc (Nat.le_refl _) (.cells #[.string p.nm,.int .i64 p.pr,.slice ao p.cs.length c] 31)).alloc (by simp) (.cells #[.int .i64 0,.int .i64 0] 56)).alloc (by simp;omega) (.cells #[.int .i64 0,.int .i64 0] 56));have HT0:Hid (TwoAt (((w.alloc (.cells #[.string p.nm,.int .i64 p.pr,.slice ao p.cs.length c] 31)).alloc (.cells #[.int .i64 0,.int .i64 0] 56)).alloc (.cells #[.int .i64 0,.int .i64 0] 56)) (w.heap.size+1) 0 0∧TwoAt (((w.alloc (.cells #[.string p.nm,.int .i64 p.pr,.slice ao p.cs.length c] 31)).alloc (.cells #[.int .i64 0,.int .i64 0] 56)).alloc (.cells #[.int .i64 0,.int .i64 0] 56)) (w.heap.size+1+1) 0 0):=by
  constructor
  ·have:=(TwoAt.made (w.alloc (.cells #[.string p.nm,.int .i64 p.pr,.slice ao p.cs.length c] 31)) 56 0 0).alloc (.cells #[.int .i64 0,.int .i64 0] 56)
   simpa using this
  ·have:=TwoAt.made ((w.alloc (.cells #[.string p.nm,.int .i64 p.pr,.slice ao p.cs.length c] 31)).alloc (.cells #[.int .i64 0,.int .i64 0] 56)) 56 0 0
   simpa using this
 generalize p.cs=cs at *
 go_enter Tryz.func18,Tryz.ntmps18
 go_wp2_with fail
 go_loopw [9] (fun i wr=>∃ k:Nat,k≤cs.length∧i=.int .i64 k∧Below w.heap.size w wr∧TwoAt wr (w.heap.size+1) 0 0∧∃ M N:Int,TwoAt wr (w.heap.size+1+1) M N) (fun i _=>cs.length - (intOf i).toNat)
 case atStart=>exact ⟨0,by omega,rfl,HB0.out,HT0.out.1,0,0,HT0.out.2⟩
 case round=>
  obtain ⟨k,hk,rfl,hB,hT1,M,N,hT2⟩:=hrel
  by_cases hlt:k<cs.length
  ·obtain ⟨b,o,dv,rfl,hin⟩:=HR.out (by omega);have hin:=hin.below hB;obtain ⟨c0,c1,c2,c3,c4,c5⟩:=hin.at hlt;have hsl:∃ a n e,dv k=.slice a n e:=by
    obtain ⟨a,e,he,_⟩:=(hin.2 k hlt).2;exact ⟨a,_,e,he⟩
   have hB1:=qI (hB.alloc hB.size (.cells #[.string (ct cs k).nm,.int .i64 (ct cs k).am,.int .i64 (ct cs k).ab,.int .i64 (ct cs k).cm,.int .i64 (ct cs k).cb,dv k] 64));have hU1:=hT1.alloc (.cells #[.string (ct cs k).nm,.int .i64 (ct cs k).am,.int .i64 (ct cs k).ab,.int .i64 (ct cs k).cm,.int .i64 (ct cs k).cb,dv k] 64);have hU2:=hT2.alloc (.cells #[.string (ct cs k).nm,.int .i64 (ct cs k).am,.int .i64 (ct cs k).ab,.int .i64 (ct cs k).cm,.int .i64 (ct cs k).cb,dv k] 64);have HBX:=BoxAt.made wr (ct cs k) (dv k);have hlt2:=hT2.lt;clear hin hB HB0 HT0;generalize ct cs k=x at *;generalize dv k=d at *;obtain ⟨da,dn,dc,rfl⟩:=hsl;generalize hW1:wr.alloc (.cells #[.string x.nm,.int .i64 x.am,.int .i64 x.ab,.int .i64 x.cm,.int .i64 x.cb,.slice da dn dc] 64)=W1 at hU1 hU2 hB1 HBX;obtain ⟨M',e1⟩:∃ M',wrap64 (M+x.am)=M':=⟨_,rfl⟩;obtain ⟨N',e2⟩:∃ N',wrap64 (N+x.ab)=N':=⟨_,rfl⟩;have HG1:=qI (grown_setCell W1 ⟨w.heap.size+1+1,0,none⟩ (.int .i64 M'));have HV1:=qI (hU1.kept HG1.out (by simp));have HV2:=qI (hU2.set0 M');have d2:=(HG1.out.cell_far ⟨wr.heap.size,2,none⟩ HBX.1 (by simp;omega)).trans HBX.2.2.2.1;obtain ⟨⟨f1,f2⟩,⟨f3,f4⟩⟩:=hU2;obtain ⟨⟨g1,g2⟩,⟨g3,g4⟩⟩:=HV2.out;obtain ⟨_,_,b1,_⟩:=HBX
   go_wp2_with fail
   have hz:=hB1.out.size;have HB2:=below_set2 hB1.out (w.heap.size+1+1) 0 (.int .i64 M') (by omega) hz;refine ⟨⟨k+1,by omega,by go_num,below_set2 HB2 (w.heap.size+1+1) 1 (.int .i64 N') (by omega) (by simpa using hz),HV1.out.kept (grown_setCell _ ⟨w.heap.size+1+1,1,none⟩ (.int .i64 N')) (by simp),?_⟩,by simp [intOf];omega⟩;exact ⟨_,_,HV2.out.set1 _⟩
  ·have hke:k=cs.length:=by omega
   subst hke;have hz:=hB.size;have HB1:=qI (below_set2 (below_set2 hB (w.heap.size+1) 0 (.int .i64 M) (by omega) hz) (w.heap.size+1) 1 (.int .i64 N) (by omega) (by simpa using hz));have HT3:=qI ((hT1.set0 M).set1 N);obtain ⟨⟨f1,f2⟩,⟨f3,f4⟩⟩:=hT1;obtain ⟨⟨g1,g2⟩,⟨g3,g4⟩⟩:=hT2;clear hB
   go_wp2_with fail
   (try simp only [Exit.inBlock,Exit.then]);refine bodyPost_ret (v:=.agg #[.int .i64 M,.int .i64 N]) ?_ rfl ⟨⟨_,_,rfl⟩,HB1.out⟩;obtain ⟨⟨g1,g2⟩,⟨g3,g4⟩⟩:=HT3.out;rw [results_cellQ rfl];clear f1 f2 f3 f4;go_simp
end
end Go.Proofs.YtbfdcmodflnkfaaGreatDoor
