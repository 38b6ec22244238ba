/- OMath6, OG3, OMath7, OMath8, OMath9, OMath10, OMath11, OF4, OR0, OB0, OMath12, OEnv, OMath13, OMath17, OMath14, OMath15, OMath16 -/
import Derived.Test.YtbmmnflgnmjboaaGreatDoorQ11
import Derived.Sort.Walk0
set_option maxRecDepth 100000
set_option maxHeartbeats 16000000
namespace Go.Proofs.YtbmmnflgnmjboaaGreatDoor
section
namespace Ol
open Ost (Cpu Wi chosen cnt dif takeOut told)
open Dvs (Dv dv fits took takeF srt usedBy sel sel_congr took_mem)
open Qos (Nd Ct Pd ct ownOf)
open Sv (Gv Hd gv hd)
theorem takeF_congr {ds:List Dv} {us us':Nat→Bool} {kind:ByteArray} {many:Int} (h:∀ j,(dv ds j).kind=kind→us j=us' j):takeF ds us kind many=takeF ds us' kind many:=by
 have e:sel (fits ds us kind) ds.length=sel (fits ds us' kind) ds.length:=sel_congr fun j _=>by
  unfold fits
  by_cases hk:(dv ds j).kind=kind
  ·rw [h j hk]
  ·simp [hk]
 unfold takeF;rw [e]
theorem devsFor_any {ds:List Dv} (on on':Nat):∀ (ns:List Nd) (us us':Nat→Bool) (out out':List Nat),ns.Pairwise (fun a b=>a.kind≠b.kind)→(∀ n∈ns,∀ j,(dv ds j).kind=n.kind→us j=us' j)→(devsFor ds on ns us out).1=(devsFor ds on' ns us' out').1:=by
 intro ns
 induction ns with
 | nil=>intro us us' out out' _ _;rfl
 | cons n r ih=>
  intro us us' out out' hp h;obtain ⟨h1,h2⟩:=List.pairwise_cons.1 hp;have e:=takeF_congr (many:=n.many) (h n (List.mem_cons_self ..));rw [devsFor,devsFor,← e]
  by_cases hf:takeF ds us n.kind n.many=0
  ·rw [if_pos hf,if_pos hf];refine ih _ _ _ _ h2 fun x hx j hj=>?_
   have hno:∀ (u:Nat→Bool) (o:Nat),j ∉ took ds u n.kind o n.many.toNat:=fun u o hm=>by
    have h3:=(took_mem hm).2;simp only [fits,Bool.and_eq_true,decide_eq_true_eq] at h3;exact h1 x hx (h3.1.1.symm.trans hj)
   unfold usedBy;rw [h x (List.mem_cons_of_mem _ hx) j hj,decide_eq_false (hno us on),decide_eq_false (hno us' on')]
  ·rw [if_neg hf,if_neg hf]
theorem takeOut_any (l:List Cpu) (F:Nat) (L:Int) (on on':Nat):(takeOut l F L on).2=(takeOut l F L on').2:=by
 unfold takeOut
 split
 ·rfl
 ·split <;> rfl
theorem giveOne_iff {m:Mc} {s:Sk} {own:Int} {ns:List Nd} (hp:ns.Pairwise fun a b=>a.kind≠b.kind):(giveOne m s own ns).1=0↔(place m (wishes m s own ns)).2=true∧(takeOut m.l s.cp own 0).2=0∧(devsFor s.ds 0 ns s.us []).1=0:=by
 unfold giveOne;dsimp only;generalize hpl:place m (wishes m s own ns)=pl;rw [takeOut_any m.l s.cp own 0 (chosen (fun c=>pl.1.1.testBit c.node.toNat) m.l),devsFor_any 0 pl.1.1 ns s.us s.us [] [] hp (fun _ _ _ _=>rfl)];have h4:=takeOut_err m.l s.cp own (chosen (fun c=>pl.1.1.testBit c.node.toNat) m.l)
 by_cases h1:pl.2=false
 ·rw [if_pos h1];constructor
  ·intro h;cases h
  ·intro h;rw [h1] at h;cases h.1
 ·rw [if_neg h1];rw [Bool.not_eq_false] at h1
  by_cases h2:(takeOut m.l s.cp own (chosen (fun c=>pl.1.1.testBit c.node.toNat) m.l)).2≠0
  ·rw [if_pos h2];constructor
   ·intro h;dsimp only at h;omega
   ·intro h;exact absurd h.2.1 h2
  ·rw [if_neg h2]
   by_cases h3:(devsFor s.ds pl.1.1 ns s.us []).1≠0
   ·rw [if_pos h3];constructor
    ·intro h;exact absurd h h3
    ·intro h;exact absurd h.2.2 h3
   ·rw [if_neg h3];exact ⟨fun _=>⟨h1,by omega,by omega⟩,fun _=>rfl⟩
end Ol
end
section
open Go.RowKit Go.Shelf
open Qos (Nd Ct Pd nd ct pd)
open Sv (Gv Hd gv hd)
attribute [local go_sem] Oper.semAt_some
theorem givenApart_any (v:Value) (gs:List Gv) (w:World) (h:GivsAt w v gs) (hl:gs.length≤1000) (hdl:∀ k,k<gs.length→(gv gs k).dv.length≤1000):Calls Tryz.prog 42 #[v] w fun e w'=>∃ ao c,e=.returned (.slice ao gs.length c)∧GivsAt (fresh w.heap.size w') (.slice ao gs.length c) gs∧Below w.heap.size w w':=by
 have HCL:=qI (cloneGiven_any v gs w w h (CellLe.refl _) hl);have HDL:=qI hdl;obtain ⟨ao0,c0,rfl,hm0,_⟩:=h;clear hm0 hdl
 go_enter Tryz.func42,Tryz.ntmps42
 go_wp2_with fail
 refine HCL.out.mono ?_;rintro e W1 ⟨ao,c,rfl,hcap,hg,hb1⟩;have HCAP:=qI hcap;obtain ⟨g,dv,hg2⟩:∃ (g:Nat) (dv:Nat→Value),0<gs.length→ao=some ⟨g,0,none⟩∧RowG W1 w.heap.size g 2 gs.length (fun k=>[.int .u64 (gv gs k).cp,dv k])∧∀ k,k<gs.length→(gv gs k).cp<18446744073709551616∧IntsOf w (dv k) (gv gs k).dv:=by
  by_cases h0:0<gs.length
  ·obtain ⟨g,dv,hh⟩:=hg h0;exact ⟨g,dv,fun _=>hh⟩
  ·exact ⟨0,fun _=>.nilIface,fun h=>absurd h h0⟩
 have HG:=qI hg2;have HB1:=qI hb1;clear hcap hg hg2 hb1 HCL
 go_wp2_with fail
 go_loopw [9] (fun i wr=>∃ (k:Nat) (dw:Nat→Value),k≤gs.length∧i=.int .i64 k∧Below w.heap.size w wr∧Hid (0<gs.length→RowG wr w.heap.size g 2 gs.length (fun j=>[.int .u64 (gv gs j).cp,dw j]))∧Hid (∀ j,j<k→IntsOf (mask (fun b=>b<w.heap.size∨b=g) wr) (dw j) (gv gs j).dv)∧Hid (∀ j,k≤j→dw j=dv j)) (fun i _=>gs.length - (intOf i).toNat)
 case atStart=>exact ⟨0,dv,by omega,rfl,HB1.out,fun h=>(HG.out h).2.1,fun j hj=>by omega,fun j _=>rfl⟩
 case round=>
  obtain ⟨k,dw,hk,rfl,hb,HROW,HDONE,HREST⟩:=hrel;have HB:=qI hb
  by_cases hlt:k<gs.length
  ·obtain ⟨rfl,_,hin⟩:=HG.out (by omega);have hrow:=HROW.out (by omega);have x0:wr.cell? ⟨g,k*2,none⟩=some (.int .u64 (gv gs k).cp):=hrow.cell k hlt 0 (by decide);have x1:wr.cell? ⟨g,k*2+1,none⟩=some (dv k):=by rw [← HREST.out k (Nat.le_refl _)];exact hrow.cell k hlt 1 (by decide)
   have hint:=(hin k hlt).2;obtain ⟨ia,ic,hdv,_⟩:=id hint;rw [hdv] at x1 hint;have hA:=hb.alloc hb.size (.cells #[.int .u64 (gv gs k).cp,.slice ia (gv gs k).dv.length ic] 69);have hsA:(wr.alloc (.cells #[.int .u64 (gv gs k).cp,.slice ia (gv gs k).dv.length ic] 69)).heap.size=wr.heap.size+1:=by simp
   have HCI:=qI (cloneInt_any (.slice ia (gv gs k).dv.length ic) (gv gs k).dv (wr.alloc (.cells #[.int .u64 (gv gs k).cp,.slice ia (gv gs k).dv.length ic] 69)) (hint.below hA) (HDL.out k hlt));have HA:=qI hA;have hgl:=hrow.lt;have hgN:=hrow.base;have hsz:=hb.size;have hk100:(k:Int)<(gs.length:Int):=by omega
   clear hrow hin hint hb hdv hA;generalize hcp:(gv gs k).cp=cp at *;have HCP:=qI hcp;have HDVL:Hid ((gv gs k).dv=(gv gs k).dv):=rfl;clear hcp;generalize hxs:(gv gs k).dv=xs at *;have HXS:=qI hxs;clear hxs
   go_wp2_with fail
   refine HCI.out.mono ?_;rintro e W2 ⟨na,nc,rfl,hni,hb2⟩;have hW2:Below wr.heap.size wr W2:=((Below.refl wr.heap.size wr).alloc (Nat.le_refl _) _).trans (hb2.mono (by simp));have hrow2:=(HROW.out (by omega)).below hW2;have y1:W2.cell? ⟨g,k*2+1,none⟩=some (dw k):=hrow2.cell k hlt 1 (by decide);have f1:=hrow2.free (k*2+1);have HW2:=qI hW2;have HNI:=qI hni;have HR2:=qI hrow2;have hs2:wr.heap.size+1≤W2.heap.size:=by have:=hb2.size;simp at this;omega
   clear hni hb2 hW2 hrow2 HCI
   go_wp2_with fail
   have HSB:Hid (∀ b,b≠g→(W2.setCell ⟨g,k*2+1,none⟩ (.slice na xs.length nc)).heap[b]?=W2.heap[b]?):=fun b hb=>set_other hb
   have hszS:(W2.setCell ⟨g,k*2+1,none⟩ (.slice na xs.length nc)).heap.size=W2.heap.size:=by simp
   have HNR:=qI (HR2.out.set k 1 hlt (by decide) (.slice na xs.length nc) (fun j=>[.int .u64 (gv gs j).cp,if j=k then .slice na xs.length nc else dw j]) (fun i _ hi=>by simp [hi]) (fun i hi=>by
    match i,hi with
    | 0,_=>simp
    | 1,_=>simp) rfl)
   have HBN:=qI ((HB.out.trans (HW2.out.mono hsz)).setCell (p:=⟨g,k*2+1,none⟩) hgN (.slice na xs.length nc));generalize W2.setCell ⟨g,k*2+1,none⟩ (.slice na xs.length nc)=W3 at *
   go_roundw
   case rel=>
    refine ⟨k+1,fun j=>if j=k then .slice na xs.length nc else dw j,by omega,by go_num,HBN.out,fun _=>HNR.out,fun j hj=>?_,fun j hj=>?_⟩
    ·by_cases hjk:j=k
     ·subst hjk;dsimp only;rw [if_pos rfl,HXS.out];refine HNI.out.le (mask_to (fun b hb1 hb2=>?_) (by rw [hszS];exact Nat.le_refl _));rw [hsA] at hb2;exact ⟨by omega,HSB.out b (by omega)⟩
     ·dsimp only;rw [if_neg hjk];refine (HDONE.out j (by omega)).le (mask_to (fun b hb1 hb2=>⟨hb2,?_⟩) (by rw [hszS];omega));rw [HSB.out b (by omega)];exact HW2.out.block b hb1
    ·dsimp only;rw [if_neg (by omega)];exact HREST.out j (by omega)
   case measure=>simp [intOf];omega
  ·have hke:k=gs.length:=by omega
   subst hke;have HFIN:Hid (GivsAt (fresh w.heap.size wr) (.slice ao gs.length c) gs):=by
    unfold Hid
    by_cases h0:0<gs.length
    ·obtain ⟨ha,_,hin⟩:=HG.out h0;rw [ha];exact givs_row (HROW.out h0) rfl HCAP.out (fun j hj=>⟨(hin j hj).1,(HDONE.out j hj).le (mask_to (fun b _ hb2=>⟨by omega,rfl⟩) (Nat.le_refl _))⟩)
    ·exact ⟨ao,c,rfl,HCAP.out,fun h=>absurd h h0⟩
   go_wp2_with fail
   go_ret;exact ⟨ao,c,rfl,HFIN.out,HB.out⟩
end
section
namespace Ol
open Dvs (first first_all first_none)
open Qos (Pd podF leS)
open Sv (Gv Hd gv hd heldF oneF behindF lowAt gsF mem_hd)
def nmLt (a b:ByteArray):Prop:=a.toList<b.toList
theorem nmLt_irrefl (a:ByteArray):¬ nmLt a a:=List.lt_irrefl _
theorem nmLt_trans {a b c:ByteArray} (h:nmLt a b) (k:nmLt b c):nmLt a c:=List.lt_trans h k
theorem nmLt_total {a b:ByteArray} (h:a≠b):nmLt a b∨nmLt b a:=by
 unfold nmLt
 by_cases h1:a.toList<b.toList
 ·exact .inl h1
 ·by_cases h2:b.toList<a.toList
  ·exact .inr h2
  ·exfalso
   have e:a.toList=b.toList:=List.le_antisymm h2 h1;rw [ByteArray.toList_eq,ByteArray.toList_eq] at e;exact h (ByteArray.ext (Array.toList_inj.1 e))
theorem leS_no {a b:ByteArray}:leS a b=false↔nmLt b a:=by
 unfold leS nmLt;rw [Go.Proofs.bytesLess_eq,Bool.or_eq_false_iff,decide_eq_false_iff_not,beq_eq_false_iff_ne];constructor
 ·rintro ⟨h1,h2⟩
  have:a≠b:=fun e=>h2 (by rw [e])
  rcases nmLt_total this with h|h
  ·exact absurd h h1
  ·exact h
 ·intro h;exact ⟨fun k=>List.lt_irrefl _ (List.lt_trans h k),fun e=>by rw [e] at h;exact List.lt_irrefl _ h⟩
def Rising (hs:List Hd):Prop:=hs.Pairwise fun a b=>nmLt a.pod.nm b.pod.nm
theorem low_no {hs:List Hd} {i:Nat} (h:i+1<hs.length):lowAt hs (i+1)=false↔nmLt (hs[i]'(by omega)).pod.nm hs[i+1].pod.nm:=by
 unfold lowAt;rw [decide_eq_true (by omega),Bool.true_and,leS_no];have e1:hd hs (i+1)=hs[i+1]:=by simp [hd,h]
 have e2:hd hs (i+1 - 1)=hs[i]'(by omega):=by simp [hd,show i<hs.length by omega]
 rw [e1,e2]
theorem rising_iff {hs:List Hd}:Rising hs↔∀ i,i<hs.length→lowAt hs i=false:=by
 constructor
 ·intro h i hi;cases i with
  | zero=>rfl
  | succ i=>exact (low_no hi).2 (List.pairwise_iff_getElem.1 h i (i+1) (by omega) hi (by omega))
 ·intro h;have key:∀ d i (hi:i+d+1<hs.length),nmLt (hs[i]'(by omega)).pod.nm hs[i+d+1].pod.nm:=by
   intro d
   induction d with
   | zero=>intro i hi;exact (low_no hi).1 (h _ hi)
   | succ d ih=>
    intro i hi;exact nmLt_trans (ih i (by omega)) ((low_no hi).1 (h _ hi))
  refine List.pairwise_iff_getElem.2 fun i j hi hj hij=>?_
  obtain ⟨d,rfl⟩:∃ d,j=i+d+1:=⟨j - i - 1,by omega⟩;exact key d i hj
theorem heldF_iff {hs:List Hd}:heldF hs=0↔hs.length≤12∧(∀ h∈hs,podF h.pod=0∧h.gs.length=h.pod.cs.length∧gsF h.gs=0)∧Rising hs:=by
 unfold heldF
 by_cases h12:12<hs.length
 ·rw [if_pos h12];exact ⟨fun h=>(by cases h),fun h=>(by omega)⟩
 ·rw [if_neg h12];have one:∀ (h:Hd) (b:Bool),behindF h b=0↔podF h.pod=0∧b=false∧h.gs.length=h.pod.cs.length∧gsF h.gs=0:=by
   intro h b;unfold behindF
   by_cases h1:podF h.pod≠0
   ·rw [if_pos h1];exact ⟨fun e=>absurd e h1,fun e=>e.1⟩
   ·rw [if_neg h1]
    by_cases h2:b=true∨h.gs.length≠h.pod.cs.length
    ·rw [if_pos h2];refine ⟨fun e=>(by cases e),fun e=>?_⟩
     rcases h2 with h2|h2
     ·rw [e.2.1] at h2;cases h2
     ·exact absurd e.2.2.1 h2
    ·rw [if_neg h2];have h3:b=false∧h.gs.length=h.pod.cs.length:=⟨Bool.not_eq_true _ ▸ fun e=>h2 (.inl e),Classical.byContradiction fun e=>h2 (.inr e)⟩;exact ⟨fun e=>⟨by omega,h3.1,h3.2,e⟩,fun e=>e.2.2.2⟩
  constructor
  ·intro h;have hall:=first_all h;refine ⟨by omega,fun x hx=>?_,rising_iff.2 fun i hi=>((one _ _).1 (hall i hi)).2.1⟩;obtain ⟨k,hk,rfl⟩:=Sv.hd_in hx
   have:=(one _ _).1 (hall k hk)
   exact ⟨this.1,this.2.2.1,this.2.2.2⟩
  ·rintro ⟨_,h1,h2⟩;refine first_none fun k hk=>?_
   have:=h1 _ (mem_hd hk)
   exact (one _ _).2 ⟨this.1,rising_iff.1 h2 k hk,this.2.1,this.2.2⟩
def atOf (hs:List Hd) (nm:ByteArray):Nat:=hs.countP fun h=>decide (h.pod.nm.toList<nm.toList)
def insertH (hs:List Hd) (x:Hd):List Hd:=hs.take (atOf hs x.pod.nm)++x :: hs.drop (atOf hs x.pod.nm)
theorem insert_perm (hs:List Hd) (x:Hd):(hs++[x]).Perm (insertH hs x):=by
 unfold insertH;have h1:(hs++[x]).Perm (x :: hs):=List.perm_append_singleton x hs;have h2:(x :: hs).Perm (x :: (hs.take (atOf hs x.pod.nm)++hs.drop (atOf hs x.pod.nm))):=by rw [List.take_append_drop]
 exact h1.trans (h2.trans List.perm_middle.symm)
theorem at_split {hs:List Hd} (h:Rising hs) (nm:ByteArray):(∀ y∈hs.take (atOf hs nm),nmLt y.pod.nm nm)∧∀ y∈hs.drop (atOf hs nm),¬ nmLt y.pod.nm nm:=by
 induction hs with
 | nil=>exact ⟨fun y hy=>by simp [atOf] at hy,fun y hy=>by simp [atOf] at hy⟩
 | cons x r ih=>
  obtain ⟨h1,h2⟩:=List.pairwise_cons.1 h;obtain ⟨i1,i2⟩:=ih h2
  by_cases hx:x.pod.nm.toList<nm.toList
  ·have e:atOf (x :: r) nm=atOf r nm+1:=by unfold atOf;rw [List.countP_cons_of_pos (by simpa using hx)]
   rw [e,List.take_succ_cons,List.drop_succ_cons];refine ⟨fun y hy=>?_,i2⟩
   rcases List.mem_cons.1 hy with rfl|hy
   ·exact hx
   ·exact i1 y hy
  ·have hr:∀ y∈r,¬ nmLt y.pod.nm nm:=fun y hy hn=>hx (nmLt_trans (h1 y hy) hn)
   have e:atOf (x :: r) nm=0:=by
    unfold atOf;rw [List.countP_eq_zero];intro y hy
    rcases List.mem_cons.1 hy with rfl|hy
    ·simpa using hx
    ·have:=hr y hy;unfold nmLt at this;simpa using this
   rw [e];refine ⟨fun y hy=>by simp at hy,fun y hy=>?_⟩;rw [List.drop_zero] at hy
   rcases List.mem_cons.1 hy with rfl|hy
   ·exact hx
   ·exact hr y hy
theorem insert_rising {hs:List Hd} {x:Hd} (h:Rising hs) (hn:∀ y∈hs,y.pod.nm≠x.pod.nm):Rising (insertH hs x):=by
 obtain ⟨h1,h2⟩:=at_split h x.pod.nm;have hsub:=h;unfold Rising insertH at *;rw [← List.take_append_drop (atOf hs x.pod.nm) hs,List.pairwise_append] at hsub;obtain ⟨p1,p2,p3⟩:=hsub;have hgt:∀ y∈hs.drop (atOf hs x.pod.nm),nmLt x.pod.nm y.pod.nm:=fun y hy=>by
  rcases nmLt_total (hn y (List.mem_of_mem_drop hy)) with k|k
  ·exact absurd k (h2 y hy)
  ·exact k
 rw [List.pairwise_append,List.pairwise_cons];refine ⟨p1,⟨hgt,p2⟩,fun a ha b hb=>?_⟩
 rcases List.mem_cons.1 hb with rfl|hb
 ·exact h1 a ha
 ·exact p3 a ha b hb
end Ol
end
section
namespace Ol
open Ost (Cpu)
open Dvs (Dv dv first first_all first_none srt sel_rising sel_le sel_mem)
open Qos (Nd Ct Pd nd ct podF leS needF contF ownOf)
open Sv (Gv Hd gv hd heldF gsF devF devF1 heldTxt)
theorem devF_srt {new:List Nat}:devF (toInts (srt new))=0:=by
 have hlen:(toInts (srt new)).length=(srt new).length:=by simp [toInts]
 have h16:(srt new).length≤16:=sel_le _ 16;unfold devF;rw [if_neg (by omega)];refine first_none fun k hk=>?_
 have hk':k<(srt new).length:=by omega
 have e:∀ i (hi:i<(srt new).length),(toInts (srt new)).getD i 0=((srt new)[i]:Int):=fun i hi=>by simp [toInts,hi]
 unfold devF1;rw [if_neg];rw [e k hk'];have h1:(srt new)[k]<16:=(sel_mem.1 (List.getElem_mem hk')).1;intro h
 rcases h with h|h|⟨h0,h⟩
 ·omega
 ·omega
 ·rw [e (k - 1) (by omega)] at h
  have:=List.pairwise_iff_getElem.1 (sel_rising (fun j=>decide (j∈new)) 16) (k - 1) k (by show k - 1<(srt new).length;omega) hk' (by omega)
  have h2:(srt new)[k - 1]<(srt new)[k]:=this;omega
theorem giveOne_dv {m:Mc} {s:Sk} {own:Int} {ns:List Nd}:devF (giveOne m s own ns).2.1.dv=0:=by
 unfold giveOne;dsimp only
 split
 ·rfl
 ·split
  ·rfl
  ·split
   ·rfl
   ·exact devF_srt
theorem giveTo_dv {m:Mc} {s:Sk} {cs:List Ct}:∀ k,∀ g∈(giveTo m s cs k).2.1,devF g.dv=0:=by
 intro k
 induction k with
 | zero=>intro g hg;cases hg
 | succ k ih=>
  rw [giveTo]
  split
  ·unfold giveNext
   split
   ·intro g hg
    rcases List.mem_append.1 hg with hg|hg
    ·exact ih g hg
    ·rw [List.mem_singleton.1 hg];exact giveOne_dv
   ·intro g hg;cases hg
  ·exact ih
theorem gsF_of {gs:List Gv} (h:∀ g∈gs,devF g.dv=0):gsF gs=0:=first_none fun _ hk=>h _ (Sv.mem_gv hk)
theorem needs_nice {ds:List Nd} (h:first (needF ds) ds.length=0):(∀ n∈ds,n.many≠0)∧ds.Pairwise fun a b=>a.kind≠b.kind:=by
 have ha:=first_all h;have facts:∀ k,k<ds.length→1≤(nd ds k).many∧(0<k→leS (nd ds k).kind (nd ds (k - 1)).kind=false):=fun k hk=>by
  have:=ha k hk
  unfold needF at this
  split at this
  ·cases this
  ·rename_i h1
   split at this
   ·cases this
   ·rename_i h2
    refine ⟨by omega,fun h0=>?_⟩;cases e:leS (nd ds k).kind (nd ds (k - 1)).kind with
    | false=>rfl
    | true=>exact absurd (.inr ⟨h0,e⟩) h1
 constructor
 ·intro n hn;obtain ⟨k,hk,rfl⟩:=Sv.nd_in hn
  have:=(facts k hk).1
  omega
 ·have e:∀ i (hi:i<ds.length),nd ds i=ds[i]:=fun i hi=>by simp [nd,hi]
  have key:∀ d i (hi:i+d+1<ds.length),nmLt (ds[i]'(by omega)).kind ds[i+d+1].kind:=by
   intro d
   induction d with
   | zero=>
    intro i hi
    have:=leS_no.1 ((facts (i+1) hi).2 (by omega))
    rw [e (i+1) hi,show i+1 - 1=i by omega,e i (by omega)] at this;exact this
   | succ d ih=>
    intro i hi
    have:=leS_no.1 ((facts (i+(d+1)+1) hi).2 (by omega))
    rw [e _ hi,show i+(d+1)+1 - 1=i+d+1 by omega,e (i+d+1) (by omega)] at this;exact nmLt_trans (ih i (by omega)) this
  refine List.pairwise_iff_getElem.2 fun i j hi hj hij heq=>?_
  obtain ⟨d,rfl⟩:∃ d,j=i+d+1:=⟨j - i - 1,by omega⟩
  have:=key d i hj
  rw [heq] at this;exact nmLt_irrefl _ this
theorem pod_nice {p:Pd} (h:podF p=0):Nice p.cs:=by
 intro c hc;obtain ⟨k,hk,rfl⟩:=Sv.ct_in hc;unfold podF at h
 split at h
 ·cases h
 ·split at h
  ·cases h
  ·split at h
   ·cases h
   ·have:=first_all h k hk
    unfold contF at this
    repeat' (split at this;· cases this)
    exact needs_nice this
structure St where
 m:Mc
 ds:List Dv
 hs:List Hd
structure Inv (t:St):Prop where
 devs:Dvs.fault t.ds=0
 held:heldF t.hs=0
 left:∃ s,left t.m t.ds t.hs=some s
open Classical in
noncomputable def admit (t:St) (p:Pd):Nat × List Hd:=
 if podF p≠0 then (podF p,t.hs) else
 if ∃ h∈t.hs,h.pod.nm=p.nm then (5,t.hs) else
 if 12≤t.hs.length then (2,t.hs) else
 if room t.m (t.hs.map Hd.pod++[p])=false then (7,t.hs) else
 if (give t.m ((left t.m t.ds t.hs).getD ⟨0,[],fun _=>false⟩) p).1≠0 then ((give t.m ((left t.m t.ds t.hs).getD ⟨0,[],fun _=>false⟩) p).1,t.hs) else
 if 6000<(heldTxt (insertH t.hs ⟨p,(give t.m ((left t.m t.ds t.hs).getD ⟨0,[],fun _=>false⟩) p).2⟩)).length then (2,t.hs) else
 (0,insertH t.hs ⟨p,(give t.m ((left t.m t.ds t.hs).getD ⟨0,[],fun _=>false⟩) p).2⟩)
theorem admit_inv {t:St} (h:Inv t) (p:Pd):Inv { t with hs:=(admit t p).2 }:=by
 unfold admit;obtain ⟨s,hs⟩:=h.left;rw [hs,Option.getD_some]
 split
 ·exact h
 rename_i h1
 split
 ·exact h
 rename_i h2
 split
 ·exact h
 rename_i h3
 split
 ·exact h
 split
 ·exact h
 rename_i h5
 split
 ·exact h
 have hp:podF p=0:=by omega
 have hg:(give t.m s p).1=0:=by omega
 have hds:s.ds.length≤16:=by rw [left_ds hs];exact (Dvs.fault_nodes h.devs).1
 obtain ⟨a1,a2,a3⟩:=heldF_iff.1 h.held;have hlen:(give t.m s p).2.length=p.cs.length:=giveTo_len t.m s p.cs p.cs.length hg;have hperm:=insert_perm t.hs ⟨p,(give t.m s p).2⟩;refine ⟨h.devs,heldF_iff.2 ⟨?_,fun x hx=>?_,insert_rising a3 fun y hy e=>h2 ⟨y,hy,e⟩⟩,⟨_,admit_left hs hds (pod_nice hp) hg hperm⟩⟩
 ·show (insertH t.hs ⟨p,(give t.m s p).2⟩).length≤12
  rw [← hperm.length_eq,List.length_append,List.length_singleton];omega
 ·rcases List.mem_append.1 (hperm.mem_iff.2 hx) with hx|hx
  ·exact a2 x hx
  ·rw [List.mem_singleton.1 hx];exact ⟨hp,hlen,gsF_of (giveTo_dv p.cs.length)⟩
end Ol
end
section
namespace Ol
open Dvs (Dv dv)
open Qos (Nd Ct Pd ct podF ownOf)
open Sv (Gv Hd gv hd heldF heldTxt body OkL OkH)
theorem short_one {h:Hd} (hf:heldF [h]=0) (hc:∀ g∈h.gs,g.cp<18446744073709551616) (h1:h.pod.cs.length=1):(heldTxt [h]).length≤6000:=by
 have ok:OkL [h]:=Sv.okL_of hf (fun x hx g hg=>by rw [List.mem_singleton.1 hx] at hg;exact hc g hg);have oh:OkH h:=ok.2 h (List.mem_singleton.2 rfl);have a:=Sv.podLine_le oh.1;have b:=Sv.contsTo_le oh 1 (by omega);have c:=Sv.sumTxt_le (body [h]);have e:body [h]=[]++(Sv.podLine h.pod++Sv.contsTo h h.pod.cs.length):=rfl;have e2:(body [h]).length=(Sv.podLine h.pod).length+(Sv.contsTo h 1).length:=by rw [e,h1];simp
 have d:heldTxt [h]=body [h]++Sv.sumTxt (body [h]):=rfl;rw [d,List.length_append];omega
theorem and_lt {a b:Nat} (h:a &&& b=a) (hb:b<18446744073709551616):a<18446744073709551616:=by
 rw [← h];exact Nat.lt_of_le_of_lt Nat.and_le_right hb
end Ol
end
section
namespace Ol
open Ost (Cpu chosen cnt dif takeOut listTo)
open Dvs (Dv dv)
open Qos (Nd Ct Pd ct podF ownOf sumM sumTo classOf)
open Sv (Gv Hd gv hd heldF)
def owns (l:List Cl):Int:=(l.map Cl.own).sum
theorem claims_cnt:∀ {l:List Cl} {s s':Sk},claims s l=some s'→(cnt s'.cp:Int)+owns l=cnt s.cp∧(s'.cp &&& s.cp=s'.cp):=by
 intro l
 induction l with
 | nil=>intro s s' h;injection h with h;subst h;exact ⟨by simp [owns],Nat.and_self _⟩
 | cons x r ih=>
  intro s s' h;rw [claims] at h;obtain ⟨s1,e1,e2⟩:=Option.bind_eq_some_iff.1 h;obtain ⟨a1,a2⟩:=ih e2;obtain ⟨b1,b2,rfl⟩:=claim_iff.1 e1;have hd:=Ost.cnt_dif b2.1;have hx:=b1.1;have e3:(took1 s x).cp=dif s.cp x.g.cp:=rfl;rw [e3] at a1 a2;refine ⟨?_,?_⟩
  ·unfold owns at a1 ⊢;rw [List.map_cons,List.sum_cons];omega
  ·apply Nat.eq_of_testBit_eq;intro i;have e:=congrArg (fun n=>Nat.testBit n i) a2;simp only [Nat.testBit_and,Ost.dif_bit] at e ⊢;cases h1:s'.cp.testBit i <;> cases h2:s.cp.testBit i <;> simp_all
theorem owns_app (a b:List Cl):owns (a++b)=owns a+owns b:=by unfold owns;rw [List.map_append,List.sum_append]
theorem own_le {cs:List Ct} {am:Int} (h:0≤am):0≤ownOf cs am∧1000*ownOf cs am≤am:=by
 unfold ownOf
 split <;> omega
def ownsTo (cs:List Ct):Nat→Int
 | 0=>0
 | k+1=>ownsTo cs k+ownOf cs (ct cs k).am
theorem ownsTo_le {cs:List Ct} (h:∀ c∈cs,0≤c.am):∀ k,k≤cs.length→0≤ownsTo cs k∧1000*ownsTo cs k≤sumM cs k:=by
 intro k
 induction k with
 | zero=>intro _;exact ⟨Int.le_refl _,Int.le_refl _⟩
 | succ k ih=>
  intro hk;have h1:=ih (by omega);have h2:=own_le (cs:=cs) (h _ (Sv.mem_ct (show k<cs.length by omega)));have e:sumM cs (k+1)=sumM cs k+(ct cs k).am:=rfl;rw [ownsTo,e];omega
theorem ownsTo_mono {cs:List Ct} (h:∀ c∈cs,0≤c.am) {k n:Nat} (hk:k≤n) (hn:n≤cs.length):ownsTo cs k≤ownsTo cs n:=by
 induction n with
 | zero=>
  obtain rfl:k=0:=by omega
  exact Int.le_refl _
 | succ n ih=>
  by_cases e:k=n+1
  ·rw [e];exact Int.le_refl _
  ·have h1:=ih (by omega) (by omega);have h2:=own_le (cs:=cs) (h _ (Sv.mem_ct (show n<cs.length by omega)));rw [ownsTo];omega
theorem owns_range (cs:List Ct) (gs:List Gv):∀ k,owns ((List.range k).map (clAt cs gs))=ownsTo cs k:=by
 intro k
 induction k with
 | zero=>rfl
 | succ k ih=>
  rw [List.range_succ,List.map_append,owns_app,ih,ownsTo]
  simp [owns,clAt]
theorem owns_cls {h:Hd} (hl:h.gs.length=h.pod.cs.length):owns (clsOf h)=ownsTo h.pod.cs h.pod.cs.length:=by
 unfold clsOf;rw [hl];exact owns_range h.pod.cs h.gs h.pod.cs.length
theorem am_pos {p:Pd} (h:podF p=0):∀ c∈p.cs,0≤c.am:=fun c hc=>(((Sv.okP_of h).2.2.2) c hc).2.1.1
theorem owns_all {hs:List Hd} (h:∀ x∈hs,podF x.pod=0∧x.gs.length=x.pod.cs.length):0≤owns (clsAll hs)∧1000*owns (clsAll hs)≤sumsM (hs.map Hd.pod):=by
 induction hs with
 | nil=>exact ⟨Int.le_refl _,Int.le_refl _⟩
 | cons x r ih=>
  have h1:=ih fun y hy=>h y (List.mem_cons_of_mem _ hy)
  have h2:=h x (List.mem_cons_self ..);have h3:=ownsTo_le (am_pos h2.1) x.pod.cs.length (Nat.le_refl _);have e1:clsAll (x :: r)=clsOf x++clsAll r:=rfl;rw [e1,owns_app,owns_cls h2.2];have e2:sumsM ((x :: r).map Hd.pod)=sumM x.pod.cs x.pod.cs.length+sumsM (r.map Hd.pod):=by unfold sumsM;simp
  rw [e2];omega
theorem sums_app (a b:List Pd):sumsM (a++b)=sumsM a+sumsM b:=by unfold sumsM;rw [List.map_append,List.sum_append]
theorem left_cnt {m:Mc} {ds:List Dv} {hs:List Hd} {s:Sk} (h:left m ds hs=some s):(cnt s.cp:Int)+owns (clsAll hs)=cnt m.op∧s.cp &&& m.op=s.cp:=by
 unfold left at h
 split at h
 ·rw [leftTo_eq _ _ _ (Nat.le_refl _),List.take_length] at h;exact claims_cnt h
 ·cases h
theorem takeOut_good {l:List Cpu} {F:Nat} {L:Int} {on:Nat} (h0:0≤L) (h64:cnt F≤64) (hc:L≤cnt F) (hin:F &&& chosen (fun _=>true) l=F):(takeOut l F L on).2=0:=by
 rw [Ost.take_good on h0 (by omega) hin hc]
theorem give_room {m:Mc} {ds:List Dv} {hs:List Hd} {s:Sk} {p:Pd} (hpol:m.pol=0) (hop:m.op &&& chosen (fun _=>true) m.l=m.op) (h64:∀ A:Nat,cnt A≤64) (hl:left m ds hs=some s) (hdl:ds.length≤16) (hh:∀ x∈hs,podF x.pod=0∧x.gs.length=x.pod.cs.length) (hp:podF p=0)
  (hno:∀ c∈p.cs,c.ds=[]) (hr:room m (hs.map Hd.pod++[p])=true):(give m s p).1=0:=by
 obtain ⟨c1,c2⟩:=left_cnt hl;obtain ⟨o1,o2⟩:=owns_all hh;have hsum:sumsM (hs.map Hd.pod++[p])≤1000*(cnt m.op:Int):=by
  unfold room at hr;rw [Bool.and_eq_true,decide_eq_true_eq] at hr;exact hr.1
 rw [sums_app] at hsum;have e1:sumsM [p]=sumM p.cs p.cs.length:=by unfold sumsM;simp
 rw [e1] at hsum;have hpo:=ownsTo_le (am_pos hp) p.cs.length (Nat.le_refl _);have hfit:ownsTo p.cs p.cs.length≤cnt s.cp:=by omega
 have hsds:s.ds.length≤16:=by rw [left_ds hl];exact hdl
 have hsub:s.cp &&& chosen (fun _=>true) m.l=s.cp:=by
  rw [← c2,Nat.and_assoc,hop]
 have key:∀ k,k≤p.cs.length→(giveTo m s p.cs k).1=0:=by
  intro k
  induction k with
  | zero=>intro _;rfl
  | succ k ih=>
   intro hk;have h0:=ih (by omega);obtain ⟨g1,g2⟩:=giveTo_claims (m:=m) hsds (pod_nice hp) k (by omega) h0;obtain ⟨d1,d2⟩:=claims_cnt g1;rw [owns_range] at d1;rw [giveTo,if_pos h0];generalize (giveTo m s p.cs k).2.1=gs at *;generalize (giveTo m s p.cs k).2.2=s' at *;have hm:ct p.cs k∈p.cs:=Sv.mem_ct (by omega);have hds:=hno _ hm;have hmono:=ownsTo_mono (am_pos hp) (k:=k+1) (n:=p.cs.length) hk (Nat.le_refl _);have hown:=own_le (cs:=p.cs) (am_pos hp _ hm);rw [ownsTo] at hmono;have hsub':s'.cp &&& chosen (fun _=>true) m.l=s'.cp:=by rw [← d2,Nat.and_assoc,hsub]
   have hgo:(giveOne m s' (ownOf p.cs (ct p.cs k).am) (ct p.cs k).ds).1=0:=by
    rw [hds,giveOne_iff List.Pairwise.nil];refine ⟨?_,takeOut_good hown.1 (h64 _) (by omega) hsub',rfl⟩;unfold place;rw [if_pos hpol]
   unfold giveNext;rw [if_pos hgo]
 exact key p.cs.length (Nat.le_refl _)
end Ol
end
section
namespace Ol
open Qos (Pd podF)
open Sv (Gv Hd heldF)
def without (hs:List Hd) (nm:ByteArray):List Hd:=hs.filter fun h=>decide (h.pod.nm≠nm)
theorem insert_without {hs:List Hd} {x:Hd} (hn:∀ y∈hs,y.pod.nm≠x.pod.nm):without (insertH hs x) x.pod.nm=hs:=by
 unfold without insertH;rw [List.filter_append,List.filter_cons_of_neg (by simp)];have h1:(hs.take (atOf hs x.pod.nm)).filter (fun h=>decide (h.pod.nm≠x.pod.nm))=hs.take (atOf hs x.pod.nm):=List.filter_eq_self.2 fun y hy=>by simpa using hn y (List.mem_of_mem_take hy)
 have h2:(hs.drop (atOf hs x.pod.nm)).filter (fun h=>decide (h.pod.nm≠x.pod.nm))=hs.drop (atOf hs x.pod.nm):=List.filter_eq_self.2 fun y hy=>by simpa using hn y (List.mem_of_mem_drop hy)
 rw [h1,h2,List.take_append_drop]
theorem without_sub (hs:List Hd) (nm:ByteArray):(without hs nm).Sublist hs:=List.filter_sublist
theorem heldF_sub {hs hs':List Hd} (h:heldF hs=0) (hs2:hs'.Sublist hs):heldF hs'=0:=by
 obtain ⟨a,b,c⟩:=heldF_iff.1 h;exact heldF_iff.2 ⟨Nat.le_trans hs2.length_le a,fun x hx=>b x (hs2.subset hx),List.Pairwise.sublist hs2 c⟩
theorem admit_gone {t:St} {p:Pd} (h:(admit t p).1=0):without (admit t p).2 p.nm=t.hs:=by
 unfold admit at h ⊢
 split
 ·rename_i h1;rw [if_pos h1] at h;exact absurd h h1
 ·rename_i h1
  rw [if_neg h1] at h
  split
  ·rename_i h2;rw [if_pos h2] at h;cases h
  ·rename_i h2
   rw [if_neg h2] at h
   split
   ·rename_i h3;rw [if_pos h3] at h;cases h
   ·rename_i h3
    rw [if_neg h3] at h
    split
    ·rename_i h4;rw [if_pos h4] at h;cases h
    ·rename_i h4
     rw [if_neg h4] at h
     split
     ·rename_i h5;rw [if_pos h5] at h;exact absurd h h5
     ·rename_i h5
      rw [if_neg h5] at h
      split
      ·rename_i h6;rw [if_pos h6] at h;cases h
      ·exact insert_without (x:=⟨p,_⟩) fun y hy e=>h2 ⟨y,hy,e⟩
end Ol
end
section
open Go.RowKit Go.Shelf
open Qos (Nd Ct Pd nd ct pd sumM sumB Mild)
open Sv (Gv Hd gv hd)
attribute [local go_sem] Oper.semAt_some
theorem frozen_of_heapO {W:World} {B:Nat} {cs:Array Value} {t:TypeId} (h:W.heap[B]?=some (.cells cs t (0,0))) (j:Nat):W.frozen? ⟨B,j,none⟩=false:=by simp [World.frozen?,h]
theorem heap_madeO (W:World) (o:Obj) {n:Nat} (hn:n=W.heap.size):(W.alloc o).heap[n]?=some o:=by subst hn;exact heap_alloc_new W o
theorem heap_oldO {W:World} {n:Nat} {x:Obj} (h:W.heap[n]?=some x) (o:Obj):(W.alloc o).heap[n]?=some x:=(Below.heap_alloc _ _ _ (Array.getElem?_eq_some_iff.1 h).1).trans h
theorem sumsM_next {ps:List Pd} {k:Nat} (h:k<ps.length):Ol.sumsM (ps.take (k+1))=Ol.sumsM (ps.take k)+sumM (pd ps k).cs (pd ps k).cs.length:=by
 unfold Ol.sumsM;rw [List.take_succ_eq_append_getElem h,List.map_append,List.sum_append];simp [pd,h]
theorem sumsB_next {ps:List Pd} {k:Nat} (h:k<ps.length):Ol.sumsB (ps.take (k+1))=Ol.sumsB (ps.take k)+sumB (pd ps k).cs (pd ps k).cs.length:=by
 unfold Ol.sumsB;rw [List.take_succ_eq_append_getElem h,List.map_append,List.sum_append];simp [pd,h]
theorem room_any (tp:Value) (op nd:Nat) (nb pol:Int) (v:Value) (ps:List Pd) (w:World) (h:PodsAt w v ps) (hl:ps.length≤100) (hmi:∀ p∈ps,Mild p.cs) (hop:op<18446744073709551616)
  (hb:∀ k,k≤ps.length→(0≤Ol.sumsM (ps.take k)∧Ol.sumsM (ps.take k)≤1000000000000000000)∧0≤Ol.sumsB (ps.take k)∧Ol.sumsB (ps.take k)≤1000000000000000000) :
  Calls Tryz.prog 50 #[.agg #[tp,.int .u64 op,.int .u8 nd,.int .i64 nb,.int .i64 pol],v] w fun e w'=>e=.returned (.bool (decide (Ol.sumsM ps≤1000*(Ost.cnt op:Int)) && decide (Ol.sumsB ps≤nb)))∧Below w.heap.size w w':=by
 have HMI:=qI hmi;have HBD:=qI hb;obtain ⟨ao,c,rfl,hm,hr⟩:=h;unfold maxLen at hm;have HR:=qI hr;have sz:((w.alloc (.cells #[tp,.int .u64 op,.int .u8 nd,.int .i64 nb,.int .i64 pol] 95)).alloc (.cells #[.int .i64 0,.int .i64 0] 60)).heap.size=w.heap.size+2:=by simp
 have HU1:=qI (heap_madeO (w.alloc (.cells #[tp,.int .u64 op,.int .u8 nd,.int .i64 nb,.int .i64 pol] 95)) (.cells #[.int .i64 0,.int .i64 0] 60) (n:=w.heap.size+1) (by simp));have HU0:=qI (heap_oldO (heap_madeO w (.cells #[tp,.int .u64 op,.int .u8 nd,.int .i64 nb,.int .i64 pol] 95) rfl) (.cells #[.int .i64 0,.int .i64 0] 60));have HBU:=qI (((Below.refl w.heap.size w).alloc (Nat.le_refl _) (.cells #[tp,.int .u64 op,.int .u8 nd,.int .i64 nb,.int .i64 pol] 95)).alloc (by simp) (.cells #[.int .i64 0,.int .i64 0] 60));clear hmi hb hr
 go_enter Tryz.func50,Tryz.ntmps50
 go_wp2_with fail
 generalize ((w.alloc (.cells #[tp,.int .u64 op,.int .u8 nd,.int .i64 nb,.int .i64 pol] 95)).alloc (.cells #[.int .i64 0,.int .i64 0] 60))=U at *;generalize HB:w.heap.size=B at *
 go_loopw [11] (fun i wr=>∃ k:Nat,k≤ps.length∧i=.int .i64 k∧wr.heap[B+1]?=some (.cells #[.int .i64 (Ol.sumsM (ps.take k)),.int .i64 (Ol.sumsB (ps.take k))] 60 (0,0))∧Apart (fun j=>j=B+1) U wr) (fun i _=>ps.length - (intOf i).toNat)
 case atStart=>exact ⟨0,by omega,rfl,HU1.out,Apart.refl _ _⟩
 case round=>
  obtain ⟨k,hk,rfl,hs1,hab⟩:=hrel;have hsz:=hab.size;have HAB:=qI hab;have hbk:=HBD.out k hk;have hbel:=hab.below HBU.out (Nat.le_of_eq HB.symm) (fun j hj=>by omega);have HBEL:=qI hbel
  by_cases hlt:k<ps.length
  ·obtain ⟨bb,o,cv,rfl,hin⟩:=HR.out (by omega);have hbel':Below w.heap.size w wr:=by rw [HB];exact hbel
   obtain ⟨x0,x1,x2⟩:=((hin.below hbel').2 k hlt).1;have hcon:=((hin.below hbel').2 k hlt).2;have hmk:=HMI.out (pd ps k) (by simp [pd,hlt]);have HSM:=qI (sumsM_next hlt);have HSB:=qI (sumsB_next hlt);have hb2:=HBD.out (k+1) hlt;rw [HSM.out,HSB.out] at hb2;obtain ⟨ca,cc,hcv,_,_⟩:=id hcon;rw [hcv] at x2 hcon;have HPA:=qI ((Below.refl wr.heap.size wr).alloc (Nat.le_refl _) (.cells #[.string (pd ps k).nm,.int .i64 (pd ps k).pr,.slice ca (pd ps k).cs.length cc] 47));have HSU:=qI (sum_any (pd ps k) (.slice ca (pd ps k).cs.length cc) (wr.alloc (.cells #[.string (pd ps k).nm,.int .i64 (pd ps k).pr,.slice ca (pd ps k).cs.length cc] 47)) (hcon.below HPA.out) hmk);unfold podV at HSU;have HS1:=qI hs1;clear hin hcon hmk hbel hbel' hs1 hab hcv;generalize sumM (pd ps k).cs (pd ps k).cs.length=xm at *;generalize sumB (pd ps k).cs (pd ps k).cs.length=xb at *;generalize Ol.sumsM (ps.take k)=sm at *;generalize Ol.sumsB (ps.take k)=sb at *;generalize pd ps k=p at *;obtain ⟨pn,pp,pc⟩:=p;dsimp only at x0 x1 x2 HSU HPA
   go_wp2_with fail
   refine HSU.out.mono ?_;rintro e W1 ⟨rfl,hb1⟩;have hW1:=HPA.out.trans (hb1.mono HPA.out.size);have hA2:=(Below.refl W1.heap.size W1).alloc (Nat.le_refl _) (.cells #[.int .i64 xm,.int .i64 xb] 60);have hs2:=heap_oldO ((hW1.block (B+1) (by omega)).trans HS1.out) (.cells #[.int .i64 xm,.int .i64 xb] 60);have y0:(W1.alloc (.cells #[.int .i64 xm,.int .i64 xb] 60)).cell? ⟨B+1,0,none⟩=some (.int .i64 sm):=cell_of_heapV hs2 0;have y1:(W1.alloc (.cells #[.int .i64 xm,.int .i64 xb] 60)).cell? ⟨B+1,1,none⟩=some (.int .i64 sb):=cell_of_heapV hs2 1;have f0:=frozen_of_heapO hs2 0;have f1:=frozen_of_heapO hs2 1;have z0:(W1.alloc (.cells #[.int .i64 xm,.int .i64 xb] 60)).cell? ⟨W1.heap.size,0,none⟩=some (.int .i64 xm):=by simp
   have z1:(W1.alloc (.cells #[.int .i64 xm,.int .i64 xb] 60)).cell? ⟨W1.heap.size,1,none⟩=some (.int .i64 xb):=by simp
   have hne:W1.heap.size≠B+1:=by have:=hW1.size;omega
   have HAX:=qI (HAB.out.trans (Apart.of_below (hW1.trans (hA2.mono hW1.size))));have HS2:=qI hs2;clear hs2 hb1 hA2 hW1
   go_wp2_with fail
   go_roundw
   case rel=>exact ⟨k+1,by omega,by go_num,by rw [HSM.out,HSB.out];exact set_heap (set_heap HS2.out 0 _) 1 _,(HAX.out.trans (Apart.setCell (K:=fun j=>j=B+1) rfl _ _ _)).trans (Apart.setCell (K:=fun j=>j=B+1) rfl _ _ _)⟩
   case measure=>simp [intOf];omega
  ·have hke:k=ps.length:=by omega
   subst hke;rw [List.take_length] at hs1 hbk;have hs0:=(HAB.out.block B (by omega) (by omega)).trans HU0.out;have q0:wr.cell? ⟨B+1,0,none⟩=some (.int .i64 (Ol.sumsM ps)):=cell_of_heapV hs1 0;have q1:wr.cell? ⟨B+1,1,none⟩=some (.int .i64 (Ol.sumsB ps)):=cell_of_heapV hs1 1;have q2:wr.cell? ⟨B,1,none⟩=some (.int .u64 op):=cell_of_heapV hs0 1;have q3:wr.cell? ⟨B,3,none⟩=some (.int .i64 nb):=cell_of_heapV hs0 3;have h64:Ost.cnt op≤64:=S1.listTo_le op 64;clear hs1 hs0 hab;obtain ⟨sm,hsm⟩:∃ x,x=Ol.sumsM ps:=⟨_,rfl⟩;obtain ⟨sb,hsb⟩:∃ x,x=Ol.sumsB ps:=⟨_,rfl⟩;rw [← hsm] at q0 hbk;rw [← hsb] at q1 hbk;have HSM:=qI hsm;have HSB:=qI hsb;clear hsm hsb;have HCT:=qI (S1.count_any op);have hcnt:(Ost.listTo op 64).length=Ost.cnt op:=rfl;rw [hcnt] at HCT;clear hcnt;obtain ⟨ct0,hct0⟩:∃ x,x=Ost.cnt op:=⟨_,rfl⟩;rw [← hct0] at HCT h64;have HC0:=qI hct0;clear hct0;have HBL:Hid (Below w.heap.size w wr):=by unfold Hid;rw [HB];exact HBEL.out
   by_cases h1:sm≤1000*(ct0:Int)
   ·have h1d:decide (sm≤1000*(ct0:Int))=true:=decide_eq_true h1
    go_wp2_with fail
    go_quiet (exact Calls.quiet_of_same (HCT.out _ hop))
    go_wp2_with fail
    go_ret;exact ⟨by rw [← HSM.out,← HSB.out,← HC0.out,h1d];rfl,below_drewN HBL.out nq⟩
   ·have h1d:decide (sm≤1000*(ct0:Int))=false:=decide_eq_false h1
    go_wp2_with fail
    go_quiet (exact Calls.quiet_of_same (HCT.out _ hop))
    go_wp2_with fail
    go_ret;exact ⟨by rw [← HSM.out,← HSB.out,← HC0.out,h1d];rfl,below_drewN HBL.out nq⟩
end
section
namespace Ol
open Qos (Nd Ct Pd ct podF contF twice)
open Sv (Gv Hd gv hd heldF)
section
variable {α β:Type} (nm:α→β)
theorem nm_inj {l:List α} (h:(l.map nm).Nodup) {a b:α} (ha:a∈l) (hb:b∈l) (e:nm a=nm b):a=b:=by
 obtain ⟨i,hi,rfl⟩:=List.getElem_of_mem ha;obtain ⟨j,hj,rfl⟩:=List.getElem_of_mem hb;have h2:=h;unfold List.Nodup at h2;rw [List.pairwise_map,List.pairwise_iff_getElem] at h2
 have:i=j:=by
  rcases Nat.lt_trichotomy i j with k|k|k
  ·exact absurd e (h2 i j hi hj k)
  ·exact k
  ·exact absurd e.symm (h2 j i hj hi k)
 subst this;rfl
theorem nodup_of {l:List α} (h:(l.map nm).Nodup):l.Nodup:=by
 unfold List.Nodup at *;rw [List.pairwise_map] at h;exact h.imp fun hab e=>hab (by rw [e])
theorem step_stop {runs wanted:List α} {k:Nat} (hk:k<runs.length) (hd:(runs.map nm).Nodup) (hw:runs[k] ∉ wanted) (a:α):(a∈runs∧(a∈wanted∨a∈runs.drop (k+1)))↔(a∈runs∧(a∈wanted∨a∈runs.drop k))∧nm a≠nm runs[k]:=by
 have e:runs.drop k=runs[k] :: runs.drop (k+1):=List.drop_eq_getElem_cons hk;have hnd:runs.Nodup:=nodup_of nm hd;constructor
 ·rintro ⟨h1,h2⟩;refine ⟨⟨h1,h2.imp id fun h=>by rw [e];exact List.mem_cons_of_mem _ h⟩,fun en=>?_⟩;have ea:=nm_inj nm hd h1 (List.getElem_mem hk) en;subst ea
  rcases h2 with h2|h2
  ·exact hw h2
  ·have:=(hnd.sublist (List.drop_sublist k runs))
   rw [e] at this;exact (List.nodup_cons.1 this).1 h2
 ·rintro ⟨⟨h1,h2⟩,h3⟩;refine ⟨h1,h2.imp id fun h=>?_⟩;rw [e] at h
  rcases List.mem_cons.1 h with rfl|h
  ·exact absurd rfl h3
  ·exact h
theorem step_keep {runs wanted:List α} {k:Nat} (hk:k<runs.length) (hw:runs[k]∈wanted) (a:α):(a∈runs∧(a∈wanted∨a∈runs.drop (k+1)))↔(a∈runs∧(a∈wanted∨a∈runs.drop k)):=by
 have e:runs.drop k=runs[k] :: runs.drop (k+1):=List.drop_eq_getElem_cons hk;rw [e];constructor
 ·rintro ⟨h1,h2⟩;exact ⟨h1,h2.imp id fun h=>List.mem_cons_of_mem _ h⟩
 ·rintro ⟨h1,h2⟩;refine ⟨h1,?_⟩
  rcases h2 with h2|h2
  ·exact .inl h2
  ·rcases List.mem_cons.1 h2 with rfl|h2
   ·exact .inl hw
   ·exact .inr h2
theorem step_mid {runs wanted:List α} (a:α):(a∈runs∧(a∈wanted∨a∈runs.drop runs.length))↔(a∈wanted∧(a∈runs∨a∈wanted.take 0)):=by
 simp [and_comm]
theorem step_start {runs wanted:List α} {k:Nat} (hk:k<wanted.length) (a:α):(a∈wanted∧(a∈runs∨a∈wanted.take (k+1)))↔(a∈wanted∧(a∈runs∨a∈wanted.take k))∨a=wanted[k]:=by
 rw [List.take_succ_eq_append_getElem hk,List.mem_append,List.mem_singleton];constructor
 ·rintro ⟨h1,h2|h2|h2⟩
  ·exact .inl ⟨h1,.inl h2⟩
  ·exact .inl ⟨h1,.inr h2⟩
  ·exact .inr h2
 ·rintro (⟨h1,h2⟩|rfl)
  ·exact ⟨h1,h2.imp id .inl⟩
  ·exact ⟨List.getElem_mem hk,.inr (.inr rfl)⟩
theorem step_has {runs wanted:List α} {k:Nat} (hk:k<wanted.length) (hw:wanted[k]∈runs) (a:α):(a∈wanted∧(a∈runs∨a∈wanted.take (k+1)))↔(a∈wanted∧(a∈runs∨a∈wanted.take k)):=by
 rw [step_start hk];constructor
 ·rintro (h|rfl)
  ·exact h
  ·exact ⟨List.getElem_mem hk,.inl hw⟩
 ·exact .inl
theorem start_free {runs wanted:List α} {k:Nat} (hk:k<wanted.length) (hd:(wanted.map nm).Nodup) (hw:wanted[k] ∉ runs) (a:α) (h:a∈wanted∧(a∈runs∨a∈wanted.take k)):nm a≠nm wanted[k]:=by
 intro en;have ea:=nm_inj nm hd h.1 (List.getElem_mem hk) en;subst ea
 rcases h.2 with h2|h2
 ·exact hw h2
 ·have hnd:wanted.Nodup:=nodup_of nm hd
  have:=(hnd.sublist (List.take_sublist (k+1) wanted))
  rw [List.take_succ_eq_append_getElem hk,List.nodup_append] at this;exact this.2.2 _ h2 _ (List.mem_singleton.2 rfl) rfl
theorem step_end {runs wanted:List α} (a:α):(a∈wanted∧(a∈runs∨a∈wanted.take wanted.length))↔a∈wanted:=by
 rw [List.take_length];exact ⟨fun h=>h.1,fun h=>⟨h,.inr h⟩⟩
end
theorem devF_len {xs:List Int} (h:Sv.devF xs=0):xs.length≤16:=by
 unfold Sv.devF at h
 split at h
 ·cases h
 ·omega
theorem names_apart {p:Pd} (h:podF p=0) {i j:Nat} (hj:j<p.cs.length) (hij:i<j):(ct p.cs i).nm≠(ct p.cs j).nm:=by
 obtain ⟨_,_,_,h4⟩:=Qos.pod_len h
 have:=Dvs.first_all h4 j hj
 unfold contF at this
 split at this
 ·cases this
 ·split at this
  ·cases this
  ·rename_i h2
   intro e;refine h2 ?_;unfold twice;rw [List.any_eq_true];refine ⟨ct p.cs i,?_,decide_eq_true e⟩;have hi:i<p.cs.length:=by omega
   rw [List.mem_take_iff_getElem];exact ⟨i,by omega,by simp [ct,hi]⟩
end Ol
end
section
namespace Ol
open Ost (Cpu chosen dif cpu0)
open Dvs (Dv dv)
def nodesC (l:List Cpu):Nat→Nat
 | 0=>0
 | k+1=>nodesC l k ||| 2 ^ (l.getD k cpu0).node.toNat
def nodesD (a:Nat) (ds:List Dv):Nat→Nat
 | 0=>a
 | k+1=>nodesD a ds k ||| 2 ^ (dv ds k).node.toNat
structure Cf where
 l:List Cpu
 keep:Nat
 nb:Int
 pol:Int
 ds:List Dv
def confF (c:Cf):Int:=
 if Ost.fault c.l≠0 then Ost.fault c.l
 else if ¬ (c.keep &&& chosen (fun _=>true) c.l=c.keep)∨¬ (0≤c.nb∧c.nb≤1125899906842624)∨¬ (0≤c.pol∧c.pol≤3) then 1
 else (Dvs.fault c.ds:Nat)
def mcOf (c:Cf):Mc:=⟨c.l,dif (chosen (fun _=>true) c.l) c.keep,nodesD (nodesC c.l c.l.length) c.ds c.ds.length,c.nb,c.pol⟩
theorem two_lt {x:Int} (h0:0≤x) (h3:x≤3):2 ^ x.toNat<16∧1≤2 ^ x.toNat:=by
 have:x.toNat=0∨x.toNat=1∨x.toNat=2∨x.toNat=3:=by omega
 rcases this with h|h|h|h <;> rw [h] <;> decide
theorem or16 {a b:Nat} (ha:a<16) (hb:b<16):a ||| b<16:=Nat.or_lt_two_pow (n:=4) ha hb
theorem nodesC_lt {l:List Cpu} (h:∀ k,k<l.length→0≤(l.getD k cpu0).node∧(l.getD k cpu0).node≤3):∀ k,k≤l.length→nodesC l k<16∧(0<k→1≤nodesC l k):=by
 intro k
 induction k with
 | zero=>intro _;exact ⟨Nat.zero_lt_succ 15,fun h=>by omega⟩
 | succ k ih=>
  intro hk;have h1:=ih (by omega);have h2:=two_lt (h k (by omega)).1 (h k (by omega)).2;rw [nodesC];exact ⟨or16 h1.1 h2.1,fun _=>Nat.le_trans h2.2 Nat.right_le_or⟩
theorem nodesD_lt {a:Nat} {ds:List Dv} (ha:a<16) (h1:1≤a) (h:∀ k,k<ds.length→0≤(dv ds k).node∧(dv ds k).node≤3):∀ k,k≤ds.length→nodesD a ds k<16∧1≤nodesD a ds k:=by
 intro k
 induction k with
 | zero=>intro _;exact ⟨ha,h1⟩
 | succ k ih=>
  intro hk;have h1:=ih (by omega);have h2:=two_lt (h k (by omega)).1 (h k (by omega)).2;rw [nodesD];exact ⟨or16 h1.1 h2.1,Nat.le_trans h1.2 Nat.left_le_or⟩
end Ol
end
section
namespace Ol
open Qos (Pd podF ct)
open Sv (Gv Hd hd heldF heldTxt body bodyTo podTxt podLine contLine contsTo sumTxt lineTxt gv)
theorem bodyTo_map (hs:List Hd):∀ k,k≤hs.length→bodyTo hs k=((hs.take k).map podTxt).flatten:=by
 intro k
 induction k with
 | zero=>intro _;simp [bodyTo]
 | succ k ih=>
  intro hk;rw [bodyTo,ih (by omega),List.take_succ_eq_append_getElem (by omega),List.map_append,List.flatten_append]
  simp [hd,show k<hs.length by omega]
theorem body_map (hs:List Hd):body hs=(hs.map podTxt).flatten:=by
 unfold body;rw [bodyTo_map _ _ (Nat.le_refl _),List.take_length]
theorem join_head (c:UInt8) (x:List UInt8):∀ (xs:List (List UInt8)),x.length+xs.length≤(Lib.join (x :: xs) [c]).length:=by
 have key:∀ (r:List (List UInt8)),x.length+r.length≤(Lib.join (x :: r.reverse) [c]).length:=by
  intro r
  induction r with
  | nil=>have:=Ost.join_snoc [] x [c];simp at this;simp [this]
  | cons y r ih=>
   rw [List.reverse_cons,← List.cons_append,Ost.join_snoc,if_neg (by simp)];simp only [List.length_append,List.length_cons,List.length_nil];omega
 intro xs
 have:=key xs.reverse
 rw [List.reverse_reverse,List.length_reverse] at this;exact this
theorem contLine_ge (c:Qos.Ct) (g:Gv):13≤(contLine c g).length:=by
 unfold contLine lineTxt
 have:=join_head 32 [99,111,110,116] ([c.nm.data.toList,Sv.dec c.am,Sv.dec c.ab,Sv.dec c.cm,Sv.dec c.cb,Sv.needsTxt c.ds]++Sv.givenWs g)
 rw [← List.cons_append] at this;simp only [List.length_append,List.length_cons,List.length_nil,Sv.givenWs] at this ⊢;unfold Sv.contWs;simp only [List.cons_append,List.nil_append] at this ⊢;omega
theorem podLine_ge (p:Pd):6≤(podLine p).length:=by
 unfold podLine lineTxt
 have:=join_head 32 [112,111,100] [p.nm.data.toList,Sv.dec p.pr]
 simp only [List.length_append,List.length_cons,List.length_nil] at this ⊢;unfold Sv.podWs;omega
theorem podTxt_ge {h:Hd} (e:1≤h.pod.cs.length):19≤(podTxt h).length:=by
 have h1:=podLine_ge h.pod;unfold podTxt;have h2:13≤(contsTo h h.pod.cs.length).length:=by
  have h3:∀ k,1≤k→13≤(contsTo h k).length:=by
   intro k hk
   match k,hk with
   | k+1,_=>
    rw [contsTo,List.length_append]
    have:=contLine_ge (ct h.pod.cs k) (gv h.gs k)
    omega
  exact h3 _ e
 rw [List.length_append];omega
theorem body_sub {hs hs':List Hd} (h:hs'.Sublist hs) (he:∀ x∈hs,1≤x.pod.cs.length):(body hs').length+19*(hs.length - hs'.length)≤(body hs).length:=by
 rw [body_map,body_map]
 induction h with
 | slnil=>simp
 | @cons l1 l2 a hsub ih=>
  have h1:=ih (fun x hx=>he x (List.mem_cons_of_mem _ hx));have h2:=podTxt_ge (he a List.mem_cons_self);have h3:=hsub.length_le;simp only [List.map_cons,List.flatten_cons,List.length_append,List.length_cons] at h1 ⊢;omega
 | @cons_cons l1 l2 a hsub ih=>
  have h1:=ih (fun x hx=>he x (List.mem_cons_of_mem _ hx));simp only [List.map_cons,List.flatten_cons,List.length_append,List.length_cons] at h1 ⊢;omega
theorem sumTxt_ge (b:List UInt8):6≤(sumTxt b).length:=by
 have:1≤(Lib.decDigits (Sv.fnv b)).length:=by rw [Lib.decDigits_length];exact Lib.nDigits_pos _
 simp only [sumTxt,List.length_append,List.length_cons,List.length_nil];omega
theorem txt_sub {hs hs':List Hd} (h:hs'.Sublist hs) (he:∀ x∈hs,1≤x.pod.cs.length) (hl:(heldTxt hs).length≤6000):(heldTxt hs').length≤6000:=by
 by_cases e:hs'.length=hs.length
 ·rw [h.eq_of_length e];exact hl
 ·have h1:=body_sub h he;have h2:=h.length_le;have h3:=sumTxt_ge (body hs);have h4:=Sv.sumTxt_le (body hs');unfold heldTxt at hl ⊢;rw [List.length_append] at hl ⊢;omega
theorem conts_of {hs:List Hd} (h:heldF hs=0):∀ x∈hs,1≤x.pod.cs.length:=by
 obtain ⟨a,b,c⟩:=heldF_iff.1 h;intro x hx;exact (Qos.pod_len (b x hx).1).2.2.1.1
end Ol
end
section
open Go.ChangeShapes Go.WideShapes Go.ChangeAt Go.RowKit
open Ost (Cpu cpu0)
open Dvs (Dv dv)
open Qos (Pd)
def confV (c:Ol.Cf) (v1 v2:Value):Value:=.agg #[v1,.int .u64 (c.keep:Nat),.int .i64 c.nb,v2,.int .i64 c.pol]
theorem c_Conf:Tryz.prog.cellsOf 27=5:=by kernel_rfl
theorem c_cpusO:Tryz.prog.cellsOf 22=1:=by kernel_rfl
theorem c_devsO:Tryz.prog.cellsOf 25=1:=by kernel_rfl
theorem c_SetO:Tryz.prog.cellsOf 24=1:=by kernel_rfl
theorem c_DevO:Tryz.prog.cellsOf 87=3:=by kernel_rfl
theorem conf_open {H:Type} {enc:TypeId × Value→H} {W:World} {base:Nat} {v:Value} {d:DataW H} {p:List MemPlace}
  (hv:Value.okWide Tryz.prog W .any base 27 v) (h:DataW.Trod enc Tryz.prog W 0 (fun _=>true) true 27 v d p):∃ (c:Ol.Cf) (v1 v2:Value) (g o:Nat),v=confV c v1 v2∧CpusAt W v1 c.l∧DevsAt W v2 g o c.ds∧c.keep<18446744073709551616:=by
 obtain ⟨cs,rfl,hsz,_⟩:∃ cs,v=.agg cs∧cs.size=Tryz.prog.cellsOf 27∧Row.okWide Tryz.prog W .any base 27 cs:=by
  simpa [Value.okWide,Tryz.underlying27] using hv
 rw [c_Conf] at hsz;obtain ⟨l⟩:=cs;obtain ⟨fuel,hf⟩:=h;have hf:DataW.trod enc Tryz.prog W 0 (fun _=>true) true fuel 27 l=some (d,p):=hf;obtain ⟨n0,y0,h0⟩:=trod_field Tryz.underlying27 hf 0 22 0 _ c_cpusO rfl;obtain ⟨n1,y1,h1⟩:=trod_field Tryz.underlying27 hf 1 24 1 _ c_SetO rfl;obtain ⟨n2,y2,h2⟩:=trod_field Tryz.underlying27 hf 2 3 2 _ c_int rfl;obtain ⟨n3,y3,h3⟩:=trod_field Tryz.underlying27 hf 3 25 3 _ c_devsO rfl;obtain ⟨n4,y4,h4⟩:=trod_field Tryz.underlying27 hf 4 3 4 _ c_int rfl;clear hf;have hl:l.length=5:=by simpa using hsz
 match l,hl with
 | [a,b,c,e,f],_=>
  obtain ⟨k,e1,_,hwf⟩:=DataW.trod_int Tryz.underlying24 h1;obtain ⟨x2,e2⟩:=int_of_trod h2;obtain ⟨x4,e4⟩:=int_of_trod h4;have r3:=rows_of_trod Tryz.underlying25 c_DevO (by decide) h3 fun _ _ _ hl h=>dev_of_trod hl h
  simp at e1 e2 e4
  obtain ⟨ds,g,o,hds,_⟩:=devs_of_rows r3;have h0':DataW.trod enc Tryz.prog W 0 (fun _=>true) true n0 22 [a]=some y0:=h0;obtain ⟨ao,len,cap,ha⟩:∃ ao len cap,a=.slice ao len cap:=by
   rcases Deep.open_slice Tryz.underlying22 h0' with ⟨hcs,_⟩|⟨q,len',cap',m,n,D,Pl,hcs,_⟩
   ·simp at hcs;exact ⟨_,_,_,hcs⟩
   ·simp at hcs;exact ⟨_,_,_,hcs⟩
  subst ha;obtain ⟨cl,hcl,hcp⟩:=cpus_of_trod (d:=y0.1) (p:=y0.2) ⟨n0,h0'⟩;subst hcl;have hr:0≤k∧k≤18446744073709551615:=bounds_u64 hwf;refine ⟨⟨cl,k.toNat,x2,x4,ds⟩,_,_,g,o,?_,hcp,hds,by show k.toNat<_;omega⟩;have hkk:((k.toNat:Nat):Int)=k:=by omega
  unfold confV;rw [e1,e2,e4]
  show _=Value.agg #[_,.int .u64 ((k.toNat:Nat):Int),_,_,_]
  rw [hkk]
end
section
namespace Ol
open Ost (Cpu chosen dif cpu0)
open Dvs (Dv dv)
open Qos (Nd Ct Pd ct podF ownOf)
open Sv (Gv Hd gv hd heldF heldTxt body OkL OkH)
theorem admit_fresh {m:Mc} {ds:List Dv} {p:Pd} (hop:m.op<18446744073709551616) (hd:Dvs.fault ds=0) (h1:p.cs.length=1) (hp:podF p=0) (hro:room m [p]=true) (hg:(give m ⟨m.op,ds,fun _=>false⟩ p).1=0):(admit ⟨m,ds,[]⟩ p).1=0:=by
 have hl:left m ds []=some ⟨m.op,ds,fun _=>false⟩:=left_nil hd;unfold admit;dsimp only;rw [hl,Option.getD_some];have hex:¬ ∃ x∈([]:List Hd),x.pod.nm=p.nm:=fun ⟨x,hx,_⟩=>by cases hx
 have hro2:¬ room m (([]:List Hd).map Hd.pod++[p])=false:=fun e=>by
  have e2:room m [p]=false:=e;rw [hro] at e2;cases e2
 rw [if_neg (by omega),if_neg hex,if_neg (by simp),if_neg hro2,if_neg (by omega)];have hn:Nice p.cs:=pod_nice (by omega);have hds:(⟨m.op,ds,fun _=>false⟩:Sk).ds.length≤16:=(Dvs.fault_nodes hd).1;have hlen:(give m ⟨m.op,ds,fun _=>false⟩ p).2.length=p.cs.length:=giveTo_len _ _ p.cs p.cs.length hg;have hcl:=(giveTo_claims (m:=m) hds hn p.cs.length (Nat.le_refl _) hg).1;have hins:insertH [] (⟨p,(give m ⟨m.op,ds,fun _=>false⟩ p).2⟩:Hd)=[⟨p,(give m ⟨m.op,ds,fun _=>false⟩ p).2⟩]:=rfl;have hhf:heldF [(⟨p,(give m ⟨m.op,ds,fun _=>false⟩ p).2⟩:Hd)]=0:=by
  refine heldF_iff.2 ⟨by simp,fun x hx=>?_,List.pairwise_singleton _ _⟩;rw [List.mem_singleton.1 hx];exact ⟨hp,hlen,gsF_of (giveTo_dv p.cs.length)⟩
 have hcp:∀ g∈(give m ⟨m.op,ds,fun _=>false⟩ p).2,g.cp<18446744073709551616:=by
  intro g hg2;rw [h1] at hcl;obtain ⟨k,hk,rfl⟩:=Sv.gv_in hg2;have hk0:k=0:=by omega
  subst hk0;have e:(List.range 1).map (clAt p.cs (giveTo m ⟨m.op,ds,fun _=>false⟩ p.cs 1).2.1)=[clAt p.cs (giveTo m ⟨m.op,ds,fun _=>false⟩ p.cs 1).2.1 0]:=rfl;rw [e,claims] at hcl;obtain ⟨s1,e1,_⟩:=Option.bind_eq_some_iff.1 hcl
  have:=(claim_iff.1 e1).2.1.1
  unfold give;rw [h1];exact and_lt this hop
 rw [hins,if_neg (by have:=short_one hhf hcp h1;omega)]
theorem admit_len {t:St} {p:Pd} (h0:(admit t p).1=0):(admit t p).2.length=t.hs.length+1:=by
 unfold admit at h0 ⊢
 split
 ·rename_i h1;rw [if_pos h1] at h0;exact absurd h0 h1
 ·rename_i h1
  rw [if_neg h1] at h0
  split
  ·rename_i h2;rw [if_pos h2] at h0;cases h0
  ·rename_i h2
   rw [if_neg h2] at h0
   split
   ·rename_i h3;rw [if_pos h3] at h0;cases h0
   ·rename_i h3
    rw [if_neg h3] at h0
    split
    ·rename_i h4;rw [if_pos h4] at h0;cases h0
    ·rename_i h4
     rw [if_neg h4] at h0
     split
     ·rename_i h5;rw [if_pos h5] at h0;exact absurd h0 h5
     ·rename_i h5
      rw [if_neg h5] at h0
      split
      ·rename_i h6;rw [if_pos h6] at h0;cases h0
      ·unfold insertH;simp;omega
theorem cnt_le (A:Nat):Ost.cnt A≤64:=by
 unfold Ost.cnt Ost.listTo;exact Nat.le_trans (List.length_filter_le _ _) (by simp)
def wC:Cf:=⟨[⟨0,0,0⟩],0,9,0,[]⟩
def wP:Pd:=⟨⟨#[97]⟩,0,[⟨⟨#[120]⟩,0,0,0,0,[]⟩]⟩
theorem wC_ok:confF wC=0:=by decide
theorem wP_ok:podF wP=0:=by decide
theorem w_room:room (mcOf wC) [wP]=true:=by decide
theorem w_admit:(admit ⟨mcOf wC,[],[]⟩ wP).1=0:=by
 refine admit_fresh (by decide) (by decide) rfl wP_ok w_room ?_;exact give_room (hs:=[]) rfl (by decide) cnt_le (left_nil (by decide)) (by decide) (fun x hx=>by cases hx) wP_ok (fun c hc=>by rw [List.mem_singleton.1 hc]) w_room
end Ol
end
section
namespace Ol
open Ost (Cpu Wi chosen cnt dif takeOut)
open Dvs (Dv dv)
open Qos (Nd Ct Pd ct podF ownOf sumM sumB)
open Sv (Gv Hd gv hd heldF gsF heldTxt)
def Needless (p:Pd):Prop:=∀ c∈p.cs,ownOf p.cs c.am≤0∧c.ds=[]
def zh (p:Pd):Hd:=⟨p,List.replicate p.cs.length ⟨0,[]⟩⟩
def letIn (m:Mc):Bool:=(place m [⟨true,[]⟩]).2
theorem takeOut_none {l:List Cpu} {F:Nat} (hl:l.length≤64) (on:Nat) (hin:F &&& chosen (fun _=>true) l=F):takeOut l F 0 on=(0,0):=by
 rw [Ost.take_good on (by omega) (by omega) hin (by omega),Ost.someOf_none hl,Ost.cnt_0]
 have:(0:Int) - ((0:Nat):Int)=0:=rfl
 rw [this,Ost.someOf_none hl];rfl
theorem giveOne_none {m:Mc} {s:Sk} (hl:m.l.length≤64) (hin:s.cp &&& chosen (fun _=>true) m.l=s.cp):giveOne m s 0 []=if letIn m=false then (10,⟨0,[]⟩,s.us) else (0,⟨0,[]⟩,s.us):=by
 unfold giveOne;have e:wishes m s 0 []=[⟨true,[]⟩]:=rfl;rw [e];dsimp only;unfold letIn
 split
 ·rfl
 ·rw [takeOut_none hl _ hin,if_neg (by decide)];rfl
theorem dif_none (A:Nat):dif A 0=A:=by
 apply Nat.eq_of_testBit_eq;intro i;rw [Ost.dif_bit]
 simp
theorem needs_none {p:Pd} (hp:podF p=0) (hn:Needless p) {k:Nat} (hk:k<p.cs.length):ownOf p.cs (ct p.cs k).am=0∧(ct p.cs k).ds=[]:=by
 have hm:ct p.cs k∈p.cs:=Sv.mem_ct hk;obtain ⟨h1,h2⟩:=hn _ hm
 have:=(own_le (cs:=p.cs) (am_pos hp _ hm)).1
 exact ⟨by omega,h2⟩
theorem giveTo_none {m:Mc} {s:Sk} {p:Pd} (hl:m.l.length≤64) (hin:s.cp &&& chosen (fun _=>true) m.l=s.cp) (hp:podF p=0) (hn:Needless p) (hi:letIn m=true):∀ k,k≤p.cs.length→giveTo m s p.cs k=(0,List.replicate k ⟨0,[]⟩,s):=by
 intro k
 induction k with
 | zero=>intro _;rfl
 | succ k ih=>
  intro hk;have h0:=ih (by omega);obtain ⟨e1,e2⟩:=needs_none hp hn (k:=k) (by omega);rw [giveTo,h0,if_pos rfl];unfold giveNext;rw [e1,e2];dsimp only;have hg:giveOne m s 0 []=(0,⟨0,[]⟩,s.us):=by rw [giveOne_none hl hin,if_neg (by rw [hi];decide)]
  rw [hg,if_pos rfl];dsimp only;rw [dif_none,List.replicate_succ']
theorem giveTo_out {m:Mc} {s:Sk} {p:Pd} (hl:m.l.length≤64) (hin:s.cp &&& chosen (fun _=>true) m.l=s.cp) (hp:podF p=0) (hn:Needless p) (hi:letIn m=false):∀ k,0<k→k≤p.cs.length→(giveTo m s p.cs k).1=10:=by
 intro k
 induction k with
 | zero=>intro h;omega
 | succ k ih=>
  intro _ hk;rw [giveTo]
  by_cases h0:k=0
  ·subst h0;obtain ⟨e1,e2⟩:=needs_none hp hn (k:=0) (by omega);have h00:giveTo m s p.cs 0=(0,[],s):=rfl;have hg:giveOne m s 0 []=(10,⟨0,[]⟩,s.us):=by rw [giveOne_none hl hin,if_pos hi]
   rw [h00,if_pos rfl];unfold giveNext;rw [e1,e2];dsimp only;rw [hg,if_neg (show ¬ (10:Nat)=0 by decide)]
  ·have:=ih (by omega) (by omega)
   rw [if_neg (by omega)];exact this
theorem give_none {m:Mc} {ds:List Dv} {hs:List Hd} {s:Sk} {p:Pd} (hl:m.l.length≤64) (hop:m.op &&& chosen (fun _=>true) m.l=m.op) (hs':left m ds hs=some s) (hp:podF p=0) (hn:Needless p):give m s p=if letIn m=true then (0,List.replicate p.cs.length ⟨0,[]⟩) else (10,(give m s p).2):=by
 have hin:s.cp &&& chosen (fun _=>true) m.l=s.cp:=by rw [← (left_cnt hs').2,Nat.and_assoc,hop]
 have h1:1≤p.cs.length:=(Qos.pod_len hp).2.2.1.1
 split
 ·rename_i hi
  unfold give;rw [giveTo_none hl hin hp hn hi _ (Nat.le_refl _)]
 ·rename_i hi
  have hi:letIn m=false:=by simpa using hi
  have:=giveTo_out hl hin hp hn hi p.cs.length h1 (Nat.le_refl _)
  unfold give;rw [this]
theorem admit_none {t:St} {p:Pd} (h:Inv t) (hl:t.m.l.length≤64) (hop:t.m.op &&& chosen (fun _=>true) t.m.l=t.m.op) (hp:podF p=0) (hn:Needless p) :
  ((admit t p).1=0↔(∀ x∈t.hs,x.pod.nm≠p.nm)∧t.hs.length<12∧room t.m (t.hs.map Hd.pod++[p])=true∧letIn t.m=true∧(heldTxt (insertH t.hs (zh p))).length≤6000)∧((admit t p).1=0→(admit t p).2=insertH t.hs (zh p)):=by
 obtain ⟨s,hs⟩:=h.left;have hg:=give_none hl hop hs hp hn;unfold admit;rw [if_neg (by omega),hs,Option.getD_some]
 by_cases h1:∃ x∈t.hs,x.pod.nm=p.nm
 ·rw [if_pos h1];refine ⟨⟨fun e=>absurd (show (5:Nat)=0 from e) (by decide),fun e=>?_⟩,fun e=>absurd (show (5:Nat)=0 from e) (by decide)⟩;obtain ⟨x,hx,hx2⟩:=h1;exact absurd hx2 (e.1 x hx)
 rw [if_neg h1]
 by_cases h2:12≤t.hs.length
 ·rw [if_pos h2];exact ⟨⟨fun e=>absurd (show (2:Nat)=0 from e) (by decide),fun e=>absurd e.2.1 (by omega)⟩,fun e=>absurd (show (2:Nat)=0 from e) (by decide)⟩
 rw [if_neg h2]
 by_cases h3:room t.m (t.hs.map Hd.pod++[p])=false
 ·rw [if_pos h3];exact ⟨⟨fun e=>absurd (show (7:Nat)=0 from e) (by decide),fun e=>by rw [h3] at e;exact absurd e.2.2.1 (by decide)⟩,fun e=>absurd (show (7:Nat)=0 from e) (by decide)⟩
 rw [if_neg h3];have h3':room t.m (t.hs.map Hd.pod++[p])=true:=by simpa using h3
 by_cases h4:letIn t.m=true
 ·rw [if_pos h4] at hg;rw [hg,if_neg (fun e=>e rfl)];have e:(⟨p,List.replicate p.cs.length ⟨0,[]⟩⟩:Hd)=zh p:=rfl;dsimp only;rw [e]
  split
  ·rename_i h5
   exact ⟨⟨fun e=>absurd (show (2:Nat)=0 from e) (by decide),fun e=>absurd e.2.2.2.2 (by omega)⟩,fun e=>absurd (show (2:Nat)=0 from e) (by decide)⟩
  ·rename_i h5
   exact ⟨⟨fun _=>⟨fun x hx e=>h1 ⟨x,hx,e⟩,by omega,h3',h4,by omega⟩,fun _=>rfl⟩,fun _=>rfl⟩
 ·rw [if_neg h4] at hg;have e1:(give t.m s p).1=10:=by rw [hg]
  rw [if_pos (by rw [e1];decide),e1];exact ⟨⟨fun e=>absurd (show (10:Nat)=0 from e) (by decide),fun e=>absurd e.2.2.2.1 h4⟩,fun e=>absurd (show (10:Nat)=0 from e) (by decide)⟩
theorem rising_sub:∀ {b a:List Hd},Rising a→Rising b→(∀ x∈a,x∈b)→a.Sublist b:=by
 intro b
 induction b with
 | nil=>
  intro a _ _ h;cases a with
  | nil=>exact List.Sublist.slnil
  | cons x r=>exact absurd (h x List.mem_cons_self) (by simp)
 | cons y b ih=>
  intro a ha hb h;obtain ⟨hb1,hb2⟩:=List.pairwise_cons.1 hb;cases a with
  | nil=>exact List.nil_sublist _
  | cons x r=>
   obtain ⟨ha1,ha2⟩:=List.pairwise_cons.1 ha
   by_cases e:x=y
   ·subst e;refine (ih ha2 hb2 fun z hz=>?_).cons_cons x
    rcases List.mem_cons.1 (h z (List.mem_cons_of_mem _ hz)) with e|e
    ·have:=ha1 z hz
     rw [e] at this;exact absurd this (nmLt_irrefl _)
    ·exact e
   ·have hxb:x∈b:=by
     rcases List.mem_cons.1 (h x List.mem_cons_self) with e2|e2
     ·exact absurd e2 e
     ·exact e2
    refine (ih ha hb2 fun z hz=>?_).cons y
    rcases List.mem_cons.1 (h z hz) with e2|e2
    ·have hyx:=hb1 x hxb
     rcases List.mem_cons.1 hz with e3|e3
     ·exact absurd (e3.symm.trans e2) e
     ·have:=nmLt_trans hyx (ha1 z e3)
      rw [e2] at this;exact absurd this (nmLt_irrefl _)
    ·exact e2
theorem rising_eq {a b:List Hd} (ha:Rising a) (hb:Rising b) (h:a.Perm b):a=b:=(rising_sub ha hb fun _ hx=>h.mem_iff.1 hx).eq_of_length h.length_eq
theorem sums_sub {a b:List Pd} (h:a.Sublist b) (hp:∀ p∈b,podF p=0):sumsM a≤sumsM b∧sumsB a≤sumsB b:=by
 induction h with
 | slnil=>exact ⟨Int.le_refl _,Int.le_refl _⟩
 | @cons l1 l2 x hs ih=>
  have h1:=ih fun p hq=>hp p (List.mem_cons_of_mem _ hq)
  have m:=Qos.pod_mild (hp x List.mem_cons_self);have a1:=Qos.sumM_in m (Nat.le_refl _);have a2:=Qos.sumB_in m (Nat.le_refl _);unfold sumsM sumsB at *;rw [List.map_cons,List.map_cons,List.sum_cons,List.sum_cons];omega
 | @cons_cons l1 l2 x hs ih=>
  have h1:=ih fun p hq=>hp p (List.mem_cons_of_mem _ hq)
  unfold sumsM sumsB at *;rw [List.map_cons,List.map_cons,List.map_cons,List.map_cons,List.sum_cons,List.sum_cons,List.sum_cons,List.sum_cons];omega
theorem sum_perm {a b:List Int} (h:a.Perm b):a.sum=b.sum:=by
 induction h with
 | nil=>rfl
 | cons x _ ih=>rw [List.sum_cons,List.sum_cons,ih]
 | swap x y l=>simp only [List.sum_cons];omega
 | trans _ _ i1 i2=>exact i1.trans i2
theorem room_perm {m:Mc} {a b:List Pd} (h:a.Perm b):room m a=room m b:=by
 unfold room sumsM sumsB;rw [sum_perm (h.map _),sum_perm (h.map _)]
theorem room_sub {m:Mc} {a b:List Pd} (h:a.Sublist b) (hp:∀ p∈b,podF p=0) (hb:room m b=true):room m a=true:=by
 have:=sums_sub h hp
 unfold room at *;rw [Bool.and_eq_true,decide_eq_true_eq,decide_eq_true_eq] at *;omega
theorem pods_zh (l:List Pd):(l.map zh).map Hd.pod=l:=by
 rw [List.map_map];exact (List.map_congr_left fun _ _=>rfl).trans (List.map_id _)
structure Came (t:St) (l:List Pd):Prop where
 perm:t.hs.Perm (l.map zh)
 good:l≠[]→room t.m l=true∧letIn t.m=true∧(heldTxt t.hs).length≤6000
theorem came_nil (m:Mc) (ds:List Dv):Came ⟨m,ds,[]⟩ []:=⟨List.Perm.nil,fun h=>absurd rfl h⟩
theorem came_next {t:St} {p:Pd} {l:List Pd} (h:Inv t) (hl:t.m.l.length≤64) (hop:t.m.op &&& chosen (fun _=>true) t.m.l=t.m.op) (hp:podF p=0) (hn:Needless p) (hc:Came t l) (h0:(admit t p).1=0):Came ⟨t.m,t.ds,(admit t p).2⟩ (l++[p]):=by
 obtain ⟨hiff,heq⟩:=admit_none h hl hop hp hn;obtain ⟨a1,a2,a3,a4,a5⟩:=hiff.1 h0;have hq:(t.hs.map Hd.pod).Perm l:=by
  have:=hc.perm.map Hd.pod
  rwa [pods_zh] at this
 rw [heq h0];refine ⟨?_,fun _=>⟨?_,a4,a5⟩⟩
 ·show (insertH t.hs (zh p)).Perm _
  rw [List.map_append];exact (insert_perm t.hs (zh p)).symm.trans (hc.perm.append_right _)
 ·show room t.m (l++[p])=true
  rw [← room_perm (hq.append_right [p])];exact a3
theorem went_next {t o:St} {p:Pd} {l r:List Pd} (ht:Inv t) (ho:Inv o) (hm:o.m=t.m) (hl:t.m.l.length≤64) (hop:t.m.op &&& chosen (fun _=>true) t.m.l=t.m.op) (hall:∀ q∈l++p :: r,podF q=0∧Needless q) (hc:Came t (l++p :: r)) (hr:o.hs.Perm (r.map zh)):(admit o p).1=0∧(admit o p).2.Perm ((p :: r).map zh):=by
 obtain ⟨hp,hn⟩:=hall p (by simp);obtain ⟨hiff,heq⟩:=admit_none ho (by rw [hm];exact hl) (by rw [hm];exact hop) hp hn;obtain ⟨b1,b2,b3⟩:=heldF_iff.1 ht.held;obtain ⟨c1,c2,c3⟩:=heldF_iff.1 ho.held;obtain ⟨g1,g2,g3⟩:=hc.good (by simp);have hnd:((l++p :: r).map zh).Pairwise fun a b=>a.pod.nm≠b.pod.nm:=by
  refine (hc.perm.pairwise_iff (R:=fun a b:Hd=>a.pod.nm≠b.pod.nm) (fun h=>h.symm)).1 (b3.imp fun {a b} hab e=>?_);rw [e] at hab;exact nmLt_irrefl _ hab
 rw [List.pairwise_map,List.pairwise_append,List.pairwise_cons] at hnd;have hnp:∀ q∈r,p.nm≠q.nm:=fun q hq=>hnd.2.1.1 q hq
 have hno:∀ x∈o.hs,x.pod.nm≠p.nm:=fun x hx e=>by
  obtain ⟨q,hq,rfl⟩:=List.mem_map.1 (hr.mem_iff.1 hx);exact hnp q hq e.symm
 have hperm:(insertH o.hs (zh p)).Perm ((p :: r).map zh):=by
  rw [List.map_cons];exact (insert_perm o.hs (zh p)).symm.trans ((List.perm_append_singleton _ _).trans (hr.cons _))
 have hsub:(insertH o.hs (zh p)).Sublist t.hs:=by
  refine rising_sub (insert_rising c3 hno) b3 fun x hx=>?_
  rw [hc.perm.mem_iff];obtain ⟨q,hq,rfl⟩:=List.mem_map.1 (hperm.mem_iff.1 hx);exact List.mem_map_of_mem (List.mem_append_right _ hq)
 have hlen:=hsub.length_le;have hlen2:(insertH o.hs (zh p)).length=o.hs.length+1:=by rw [← (insert_perm o.hs (zh p)).length_eq,List.length_append,List.length_singleton]
 have hq:(o.hs.map Hd.pod).Perm r:=by
  have:=hr.map Hd.pod
  rwa [pods_zh] at this
 have hroom:room o.m (o.hs.map Hd.pod++[p])=true:=by
  rw [room_perm ((hq.append_right [p]).trans (List.perm_append_singleton p r)),hm];exact room_sub (List.sublist_append_right l (p :: r)) (fun q hq=>(hall q hq).1) g1
 have h0:=hiff.2 ⟨hno,by omega,hroom,by rw [hm];exact g2,txt_sub hsub (conts_of ht.held) g3⟩;refine ⟨h0,?_⟩;rw [heq h0];exact hperm
theorem came_same {t o:St} {l:List Pd} (ht:Inv t) (ho:Inv o) (hc:Came t l) (hr:o.hs.Perm (l.map zh)):t.hs=o.hs:=rising_eq (heldF_iff.1 ht.held).2.2 (heldF_iff.1 ho.held).2.2 (hc.perm.trans hr.symm)
end Ol
end
section
namespace Ol
open Ost (Cpu N4 Wi Hi chosen cnt dif takeOut told hints reach okH cho com wi0 pop8 sumOn sumTo masksTo hintsTo cpu0 someOf)
open Dvs (Dv dv fits took takeF srt usedBy sel sel_congr sel_mem took_mem near nearP farP ord cn)
open Qos (Nd Ct Pd ct podF ownOf)
open Sv (Gv Hd gv hd)
end Ol
end
section
namespace Ol
open Dvs (Dv dv nth)
open Sv (Gv Hd gv hd)
end Ol
end
section
namespace Ol
open Ost (Cpu chosen cnt dif takeOut)
open Dvs (Dv dv takeF)
open Qos (Nd Ct Pd ct podF ownOf)
open Sv (Gv Hd gv hd heldTxt)
end Ol
end
end Go.Proofs.YtbmmnflgnmjboaaGreatDoor
