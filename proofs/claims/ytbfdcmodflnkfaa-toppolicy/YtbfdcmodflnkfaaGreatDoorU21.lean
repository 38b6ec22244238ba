/- OG4 -/
import Derived.Test.YtbfdcmodflnkfaaGreatDoorU20
set_option maxRecDepth 100000
set_option maxHeartbeats 16000000
namespace Go.Proofs.YtbfdcmodflnkfaaGreatDoor
section
open Go.RowKit Go.Shelf
open Qos (Nd Ct Pd nd ct pd)
open Sv (Gv Hd gv hd)
attribute [local go_sem] Oper.semAt_some
theorem podApart_any (nm:ByteArray) (pr:Int) (cs:List Ct) (v:Value) (w:World) (h:ConsAt w v cs) (hl:cs.length≤1000) (hdl:∀ k,k<cs.length→(ct cs k).ds.length≤1000):Calls Tryz.prog 36 #[.agg #[.string nm,.int .i64 pr,v]] w fun e w'=>∃ ao c,e=.returned (.agg #[.string nm,.int .i64 pr,.slice ao cs.length c])∧ConsAt (fresh w.heap.size w') (.slice ao cs.length c) cs∧Below w.heap.size w w':=by
 have HDL:=hZz hdl
 have HBU:=hZz (((Below.refl w.heap.size w).alloc (Nat.le_refl _) (.cells #[.string nm,.int .i64 pr,v] 31)).alloc (by simp) (.cells #[.string ⟨#[]⟩,.int .i64 0,.slice none 0 0] 31))
 have HCL:=hZz (cloneCont_any v cs _ w h (CellLe.of_below HBU.out) hl)
 obtain ⟨ca,cc,rfl,hm0,_⟩:=h
 clear hm0 hdl
 have sz:((w.alloc (.cells #[.string nm,.int .i64 pr,.slice ca cs.length cc] 31)).alloc (.cells #[.string ⟨#[]⟩,.int .i64 0,.slice none 0 0] 31)).heap.size=w.heap.size+2:=by simp
 have HU0:=hZz (heap_oldO (heap_madeO w (.cells #[.string nm,.int .i64 pr,.slice ca cs.length cc] 31) rfl) (.cells #[.string ⟨#[]⟩,.int .i64 0,.slice none 0 0] 31))
 have HU1:=hZz (heap_madeO (w.alloc (.cells #[.string nm,.int .i64 pr,.slice ca cs.length cc] 31)) (.cells #[.string ⟨#[]⟩,.int .i64 0,.slice none 0 0] 31) (n:=w.heap.size+1) (by simp))
 go_enter Tryz.func36,Tryz.ntmps36
 go_wp2_with fail
 generalize ((w.alloc (.cells #[.string nm,.int .i64 pr,.slice ca cs.length cc] 31)).alloc (.cells #[.string ⟨#[]⟩,.int .i64 0,.slice none 0 0] 31))=U at *
 refine HCL.out.mono ?_
 rintro e W1 ⟨ao,c,rfl,hcap,hg,hb1⟩
 have HCAP:=hZz hcap
 obtain ⟨g,dv,hg2⟩:∃ (g:Nat) (dv:Nat→Value),0<cs.length→ao=some ⟨g,0,none⟩∧RowG W1 U.heap.size g 6 cs.length (fun k=>contCells (ct cs k) (dv k))∧∀ k,k<cs.length→NeedsAt w (dv k) (ct cs k).ds:=by
  by_cases h0:0<cs.length
  ·obtain ⟨g,dv,hh⟩:=hg h0;exact ⟨g,dv,fun _=>hh⟩
  ·exact ⟨0,fun _=>.nilIface,fun h=>absurd h h0⟩
 have hp0:=(hb1.block w.heap.size (by omega)).trans HU0.out
 have hp1:=(hb1.block (w.heap.size+1) (by omega)).trans HU1.out
 have z2:W1.cell? ⟨w.heap.size,2,none⟩=some (.slice ca cs.length cc):=cell_of_heapV hp0 2
 have fz2:=frozen_of_heapO hp0 2
 have HP0:Hid ((W1.setCell ⟨w.heap.size,2,none⟩ (.slice ao cs.length c)).heap[w.heap.size]?=some (.cells #[.string nm,.int .i64 pr,.slice ao cs.length c] 31 (0,0))):=set_heap hp0 2 _
 have HP1:Hid ((W1.setCell ⟨w.heap.size,2,none⟩ (.slice ao cs.length c)).heap[w.heap.size+1]?=some (.cells #[.string ⟨#[]⟩,.int .i64 0,.slice none 0 0] 31 (0,0))):=(set_other (by omega)).trans hp1
 have HB1:=hZz ((HBU.out.trans (hb1.mono (by omega))).setCell (p:=⟨w.heap.size,2,none⟩) (Nat.le_refl _) (.slice ao cs.length c))
 have HG:Hid (0<cs.length→ao=some ⟨g,0,none⟩∧RowG (W1.setCell ⟨w.heap.size,2,none⟩ (.slice ao cs.length c)) U.heap.size g 6 cs.length (fun k=>contCells (ct cs k) (dv k))∧∀ k,k<cs.length→NeedsAt w (dv k) (ct cs k).ds):=fun h0=>by
  obtain ⟨q1,q2,q3⟩:=hg2 h0
  exact ⟨q1,q2.keep (set_other (by have:=q2.base;omega)) (by simp),q3⟩
 have hsz1:w.heap.size+2≤(W1.setCell ⟨w.heap.size,2,none⟩ (.slice ao cs.length c)).heap.size:=by have:=hb1.size;simp;omega
 have zz:(W1.setCell ⟨w.heap.size,2,none⟩ (.slice ao cs.length c)).cell? ⟨w.heap.size,2,none⟩=some (.slice ao cs.length c):=cell_of_heapV HP0.out 2
 have HBU1:=hZz hb1
 have HSC:Hid (∀ j,j≠w.heap.size→(W1.setCell ⟨w.heap.size,2,none⟩ (.slice ao cs.length c)).heap[j]?=W1.heap[j]?):=fun j hj=>set_other hj
 clear hcap hg hg2 hb1 HCL hp0 hp1
 go_wp2_with fail
 generalize hW2:W1.setCell ⟨w.heap.size,2,none⟩ (.slice ao cs.length c)=W2 at *
 clear hW2 z2 fz2
 go_loopw [12,3] (fun i i3 wr=>∃ (k:Nat) (dw:Nat→Value),k≤cs.length∧i=.int .i64 k∧Apart (fun j=>U.heap.size≤j) W2 wr∧Hid (0<cs.length→RowG wr U.heap.size g 6 cs.length (fun j=>contCells (ct cs j) (dw j)))∧Hid (∀ j,j<k→NeedsAt (mask (fun b=>b<U.heap.size∨b=g) wr) (dw j) (ct cs j).ds)∧Hid (∀ j,k≤j→dw j=dv j)) (fun i _ _=>cs.length - (intOf i).toNat)
 case atStart=>exact ⟨0,dv,by omega,rfl,Apart.refl _ _,fun h=>(HG.out h).2.1,fun j hj=>by omega,fun j _=>rfl⟩
 case round=>
  obtain ⟨k,dw,hk,rfl,hap,HROW,HDONE,HREST⟩:=hrel
  have HAP:=hZz hap
  have hsz:=hap.size
  have hpp:=(hap.block w.heap.size (by omega) (by omega)).trans HP0.out
  have hpq:=(hap.block (w.heap.size+1) (by omega) (by omega)).trans HP1.out
  have HPP:=hZz hpp
  have HPQ:=hZz hpq
  have HUR:Hid (Below U.heap.size U wr→True):=fun _=>trivial
  by_cases hlt:k<cs.length
  ·obtain ⟨rfl,_,hin⟩:=HG.out (by omega)
   have hrow:=HROW.out (by omega)
   have hc6:=fun j hj=>hrow.cell k hlt j hj
   rw [HREST.out k (Nat.le_refl _)] at hc6
   have x0:wr.cell? ⟨g,k*6,none⟩=some (.string (ct cs k).nm):=hc6 0 (by decide)
   have x1:wr.cell? ⟨g,k*6+1,none⟩=some (.int .i64 (ct cs k).am):=hc6 1 (by decide)
   have x2:wr.cell? ⟨g,k*6+2,none⟩=some (.int .i64 (ct cs k).ab):=hc6 2 (by decide)
   have x3:wr.cell? ⟨g,k*6+3,none⟩=some (.int .i64 (ct cs k).cm):=hc6 3 (by decide)
   have x4:wr.cell? ⟨g,k*6+4,none⟩=some (.int .i64 (ct cs k).cb):=hc6 4 (by decide)
   have x5:wr.cell? ⟨g,k*6+5,none⟩=some (dv k):=hc6 5 (by decide)
   have hint:=hin k hlt
   obtain ⟨ia,ic,hdv,_⟩:=id hint
   rw [hdv] at x5 hint
   have hdk:=HDL.out k hlt
   have hgl:=hrow.lt
   have hgN:=hrow.base
   have hk100:(k:Int)<(cs.length:Int):=by omega
   clear hrow hin hdv hpp hpq hc6
   generalize (ct cs k).nm=cn at *
   generalize (ct cs k).am=c1 at *
   generalize (ct cs k).ab=c2 at *
   generalize (ct cs k).cm=c3 at *
   generalize (ct cs k).cb=c4 at *
   generalize hxs:(ct cs k).ds=ds at *
   have HXS:=hZz hxs
   clear hxs
   have hsA:(wr.alloc (.cells #[.string cn,.int .i64 c1,.int .i64 c2,.int .i64 c3,.int .i64 c4,.slice ia ds.length ic] 64)).heap.size=wr.heap.size+1:=by simp
   have HS:=hZz (show (wr.alloc (.cells #[.string cn,.int .i64 c1,.int .i64 c2,.int .i64 c3,.int .i64 c4,.slice ia ds.length ic] 64)).drew.cell? ⟨w.heap.size,2,none⟩=some (.slice (some ⟨g,0,none⟩) cs.length c)∧(wr.alloc (.cells #[.string cn,.int .i64 c1,.int .i64 c2,.int .i64 c3,.int .i64 c4,.slice ia ds.length ic] 64)).drew.cell? ⟨wr.heap.size,5,none⟩=some (.slice ia ds.length ic) from ⟨cell_of_heapV (W:=(wr.alloc (.cells #[.string cn,.int .i64 c1,.int .i64 c2,.int .i64 c3,.int .i64 c4,.slice ia ds.length ic] 64)).drew) (heap_oldO HPP.out (.cells #[.string cn,.int .i64 c1,.int .i64 c2,.int .i64 c3,.int .i64 c4,.slice ia ds.length ic] 64)) 2,cell_of_heapV (W:=(wr.alloc (.cells #[.string cn,.int .i64 c1,.int .i64 c2,.int .i64 c3,.int .i64 c4,.slice ia ds.length ic] 64)).drew) (heap_madeO wr (.cells #[.string cn,.int .i64 c1,.int .i64 c2,.int .i64 c3,.int .i64 c4,.slice ia ds.length ic] 64) rfl) 5⟩)
   have hWA:Below wr.heap.size wr (wr.alloc (.cells #[.string cn,.int .i64 c1,.int .i64 c2,.int .i64 c3,.int .i64 c4,.slice ia ds.length ic] 64)).drew:=below_drewR ((Below.refl wr.heap.size wr).alloc (Nat.le_refl _) (.cells #[.string cn,.int .i64 c1,.int .i64 c2,.int .i64 c3,.int .i64 c4,.slice ia ds.length ic] 64))
   have hUW:NeedsAt (wr.alloc (.cells #[.string cn,.int .i64 c1,.int .i64 c2,.int .i64 c3,.int .i64 c4,.slice ia ds.length ic] 64)).drew (.slice ia ds.length ic) ds:=by
    refine hint.le ⟨by simp [World.drew];omega,fun b o v e=>?_⟩
    have hbl:b<w.heap.size:=World.block_lt_of_cell? w ⟨b,o,none⟩ e
    have e1:(wr.alloc (.cells #[.string cn,.int .i64 c1,.int .i64 c2,.int .i64 c3,.int .i64 c4,.slice ia ds.length ic] 64)).drew.heap[b]?=wr.heap[b]?:=hWA.block b (by omega)
    have e2:wr.heap[b]?=W2.heap[b]?:=HAP.out.block b (by omega) (by omega)
    exact (World.cell?_of_block (a:=⟨b,o,none⟩) (e1.trans (e2.trans (HB1.out.block b hbl)))).trans e
   have HCI:=hZz (cloneNeed_any (.slice ia ds.length ic) ds (wr.alloc (.cells #[.string cn,.int .i64 c1,.int .i64 c2,.int .i64 c3,.int .i64 c4,.slice ia ds.length ic] 64)).drew hUW hdk)
   have HWA:=hZz hWA
   clear hUW hWA hint
   go_wp2_with fail
   refine wp_region_held_drew (S:=(fun w'=>w'.cell? ⟨w.heap.size,2,none⟩=some (.slice (some ⟨g,0,none⟩) cs.length c)∧w'.cell? ⟨wr.heap.size,5,none⟩=some (.slice ia ds.length ic))) (by kernel_rfl) HS.out (fun hHeld=>?_)
   refine tk 0 (v:=?a1) (fun w' h=>?b1) ?_
   case b1=>(try dsimp only at h);go_simp;first|done|rfl|(rw [if_neg (by omega)])
   (try simp only [Act.put,s1,s2,s3])
   refine tk 1 (v:=?a2) (fun w' h=>?b2) ?_
   case b2=>(try dsimp only at h);go_simp;first|done|rfl|(rw [if_neg (by omega)])
   (try simp only [Act.put,s1,s2,s3])
   refine tk 2 (v:=?a3) (fun w' h=>?b3) ?_
   case b3=>(try dsimp only at h);go_simp;first|done|rfl|(rw [if_neg (by omega)])
   (try simp only [Act.put,s1,s2,s3])
   refine tk 3 (v:=?a4) (fun w' h=>?b4) ?_
   case b4=>(try dsimp only at h);go_simp;first|done|rfl|(rw [if_neg (by omega)])
   (try simp only [Act.put,s1,s2,s3])
   refine tk 4 (v:=?a5) (fun w' h=>?b5) ?_
   case b5=>(try dsimp only at h);go_simp;first|done|rfl|(rw [if_neg (by omega)])
   (try simp only [Act.put,s1,s2,s3])
   refine wpAnyH_ready (rs:=[5]) (by kernel_rfl) (by simp) (AllReadyH.cons rfl (fun K hK=>?_) AllReadyH.nil)
   go_simp
   go_wp2_with fail
   refine HCI.out.mono ?_
   rintro e W4 ⟨na,nc,rfl,hni,hb4⟩
   have hW4:Below wr.heap.size wr W4:=HWA.out.trans (hb4.mono HWA.out.size)
   have hs4:wr.heap.size+1≤W4.heap.size:=by have:=hb4.size;simp [World.drew] at this;omega
   have HS4:=hZz (show W4.cell? ⟨w.heap.size,2,none⟩=some (.slice (some ⟨g,0,none⟩) cs.length c)∧W4.cell? ⟨wr.heap.size,5,none⟩=some (.slice ia ds.length ic) from ⟨(hb4.cell (p:=⟨w.heap.size,2,none⟩) (by simp [World.drew];omega)).trans HS.out.1,(hb4.cell (p:=⟨wr.heap.size,5,none⟩) (by simp [World.drew])).trans HS.out.2⟩)
   have hrow4:=(HROW.out (by omega)).below hW4
   have y5:W4.cell? ⟨g,k*6+5,none⟩=some (dw k):=hrow4.cell k hlt 5 (by decide)
   have f5:=hrow4.free (k*6+5)
   have HR4:=hZz hrow4
   have HW4:=hZz hW4
   have HNI:=hZz hni
   clear hni hb4 hW4 hrow4 HCI
   go_wp2_with fail
   refine hK.out _ _ HS4.out (fun hHeld=>?_)
   clear hK K
   refine tk 6 (v:=?a6) (fun w' h=>?b6) ?_
   case b6=>(try dsimp only at h);go_simp;first|done|rfl|(rw [if_neg (by omega)])
   (try simp only [Act.put,s1,s2,s3])
   refine tk 7 (v:=?a7) (fun w' h=>?b7) ?_
   case b7=>(try dsimp only at h);go_simp;first|done|rfl|(rw [if_neg (by omega)])
   (try simp only [Act.put,s1,s2,s3])
   have HSB:Hid (∀ b,b≠g→(W4.setCell ⟨g,k*6+5,none⟩ (.slice na ds.length nc)).heap[b]?=W4.heap[b]?):=fun b hb=>set_other hb
   have hszS:(W4.setCell ⟨g,k*6+5,none⟩ (.slice na ds.length nc)).heap.size=W4.heap.size:=by simp
   have HAX:=hZz ((Apart.of_below (K:=fun j=>U.heap.size≤j) HW4.out).trans (Apart.setCell (K:=fun j=>U.heap.size≤j) hgN W4 (k*6+5) (.slice na ds.length nc)))
   have HNR:=hZz (HR4.out.set k 5 hlt (by decide) (.slice na ds.length nc) (fun j=>contCells (ct cs j) (if j=k then .slice na ds.length nc else dw j)) (fun i _ hi=>by simp [hi]) (fun i hi=>by
    match i,hi with
    | 0,_=>simp [contCells]
    | 1,_=>simp [contCells]
    | 2,_=>simp [contCells]
    | 3,_=>simp [contCells]
    | 4,_=>simp [contCells]
    | 5,_=>simp [contCells]) rfl)
   have HS5:=hZz (show (W4.setCell ⟨g,k*6+5,none⟩ (.slice na ds.length nc)).cell? ⟨w.heap.size,2,none⟩=some (.slice (some ⟨g,0,none⟩) cs.length c)∧(W4.setCell ⟨g,k*6+5,none⟩ (.slice na ds.length nc)).cell? ⟨wr.heap.size,5,none⟩=some (.slice ia ds.length ic) from ⟨(World.cell?_of_block (a:=⟨w.heap.size,2,none⟩) (HSB.out w.heap.size (by omega))).trans HS4.out.1,(World.cell?_of_block (a:=⟨wr.heap.size,5,none⟩) (HSB.out wr.heap.size (by omega))).trans HS4.out.2⟩)
   refine wpAnyH_ready (rs:=[8]) (by kernel_rfl) (by simp) (AllReadyH.cons rfl (fun K hK=>?_) AllReadyH.nil)
   go_simp
   refine hK.out _ _ HS5.out (fun hHeld=>?_)
   clear hK K
   generalize W4.setCell ⟨g,k*6+5,none⟩ (.slice na ds.length nc)=W5 at *
   refine wpAnyH_done (by kernel_rfl) ?_ _
   clear hHeld
   go_wp2_with fail
   go_roundw
   case rel=>
    refine ⟨k+1,fun j=>if j=k then .slice na ds.length nc else dw j,by omega,by go_num,HAP.out.trans HAX.out,fun _=>HNR.out,fun j hj=>?_,fun j hj=>?_⟩
    ·by_cases hjk:j=k
     ·subst hjk
      dsimp only
      rw [if_pos rfl,HXS.out]
      refine HNI.out.le (mask_to (fun b hb1 hb2=>?_) (by rw [hszS];exact Nat.le_refl _))
      have hb2:¬ b<wr.heap.size+1:=by simpa [World.drew] using hb2
      exact ⟨by omega,HSB.out b (by omega)⟩
     ·dsimp only
      rw [if_neg hjk]
      refine (HDONE.out j (by omega)).le (mask_to (fun b hb1 hb2=>⟨hb2,?_⟩) (by rw [hszS];omega))
      rw [HSB.out b (by omega)]
      exact HW4.out.block b hb1
    ·dsimp only
     rw [if_neg (by omega)]
     exact HREST.out j (by omega)
   case measure=>simp [intOf];omega
  ·have hke:k=cs.length:=by omega
   subst hke
   have HFIN:Hid (ConsAt (fresh U.heap.size wr) (.slice ao cs.length c) cs):=by
    unfold Hid
    by_cases h0:0<cs.length
    ·obtain ⟨ha,_,hin⟩:=HG.out h0
     rw [ha]
     exact (cons_row (HROW.out h0) rfl HCAP.out (fun j hj=>(HDONE.out j hj).le (mask_to (fun b _ hb2=>⟨by omega,rfl⟩) (Nat.le_refl _))))
    ·exact ⟨ao,c,rfl,HCAP.out,fun h=>absurd h h0⟩
   obtain ⟨u0,u1,u2⟩:wr.cell? ⟨w.heap.size,0,none⟩=some (.string nm)∧wr.cell? ⟨w.heap.size,1,none⟩=some (.int .i64 pr)∧wr.cell? ⟨w.heap.size,2,none⟩=some (.slice ao cs.length c):=⟨cell_of_heapV hpp 0,cell_of_heapV hpp 1,cell_of_heapV hpp 2⟩
   obtain ⟨v0,v1,v2⟩:wr.cell? ⟨w.heap.size+1,0,none⟩=some (.string ⟨#[]⟩)∧wr.cell? ⟨w.heap.size+1,1,none⟩=some (.int .i64 0)∧wr.cell? ⟨w.heap.size+1,2,none⟩=some (.slice none 0 0):=⟨cell_of_heapV hpq 0,cell_of_heapV hpq 1,cell_of_heapV hpq 2⟩
   have f0:=frozen_of_heapO hpq 0
   have f1:=frozen_of_heapO hpq 1
   have f2:=frozen_of_heapO hpq 2
   have HPQ3:=hZz (set_heap (set_heap (set_heap HPQ.out 0 (.string nm)) 1 (.int .i64 pr)) 2 (.slice ao cs.length c))
   have HBZ:=hZz ((((HAP.out.below HB1.out (Nat.le_refl _) (fun j hj=>by omega)).setCell (p:=⟨w.heap.size+1,0,none⟩) (Nat.le_succ _) (.string nm)).setCell (p:=⟨w.heap.size+1,1,none⟩) (Nat.le_succ _) (.int .i64 pr)).setCell (p:=⟨w.heap.size+1,2,none⟩) (Nat.le_succ _) (.slice ao cs.length c))
   have HFZ:Hid (ConsAt (fresh w.heap.size (((wr.setCell ⟨w.heap.size+1,0,none⟩ (.string nm)).setCell ⟨w.heap.size+1,1,none⟩ (.int .i64 pr)).setCell ⟨w.heap.size+1,2,none⟩ (.slice ao cs.length c))) (.slice ao cs.length c) cs):=HFIN.out.le (fresh_le (fun j h1 _=>(set_other (by omega)).trans ((set_other (by omega)).trans (set_other (by omega)))) (by simp) (by omega))
   clear hpp hpq
   go_wp2_with fail
   generalize ((wr.setCell ⟨w.heap.size+1,0,none⟩ (.string nm)).setCell ⟨w.heap.size+1,1,none⟩ (.int .i64 pr)).setCell ⟨w.heap.size+1,2,none⟩ (.slice ao cs.length c)=WZ at *
   (try simp only [Exit.inBlock,Exit.then])
   refine bodyPost_ret (v:=.agg #[.string nm,.int .i64 pr,.slice ao cs.length c]) ?_ rfl ⟨ao,c,rfl,HFZ.out,HBZ.out⟩
   have r0:WZ.cell? ⟨w.heap.size+1,0,none⟩=some (.string nm):=cell_of_heapV HPQ3.out 0
   have r1:WZ.cell? ⟨w.heap.size+1,1,none⟩=some (.int .i64 pr):=cell_of_heapV HPQ3.out 1
   have r2:WZ.cell? ⟨w.heap.size+1,2,none⟩=some (.slice ao cs.length c):=cell_of_heapV HPQ3.out 2
   rw [results_cellQ rfl]
   clear u0 u1 u2 v0 v1 v2 f0 f1 f2
   go_simp
end
end Go.Proofs.YtbfdcmodflnkfaaGreatDoor
