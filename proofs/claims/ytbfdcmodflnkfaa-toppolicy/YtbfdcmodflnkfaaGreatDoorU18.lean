/- VR6, OF4, VR7 -/
import Derived.Test.YtbfdcmodflnkfaaGreatDoorU17
import Derived.Test.YtbfdcmodflnkfaaGreatDoorU11
set_option maxRecDepth 100000
set_option maxHeartbeats 16000000
namespace Go.Proofs.YtbfdcmodflnkfaaGreatDoor
section
open Go.RowKit
open Qos (Nd Ct Pd nd ct pd)
open Sv (Gv Hd gv hd)
theorem infoContV:(Tryz.prog.info? 64).map (fun i=>(i.zero,i.size,i.bytes))=some (some (.agg #[.string ByteArray.empty,.int .i64 0,.int .i64 0,.int .i64 0,.int .i64 0,.slice none 0 0]),6,72):=by kernel_rfl
theorem infoGivenV:(Tryz.prog.info? 69).map (fun i=>(i.zero,i.size,i.bytes))=some (some (.agg #[.int .u64 0,.slice none 0 0]),2,32):=by kernel_rfl
end
section
open Go.RowKit Go.Shelf
open Qos (Nd Ct Pd nd ct pd sumM sumB Mild)
open Sv (Gv Hd gv hd)
attribute [local go_sem] Oper.semAt_some
theorem frozen_of_heapO {W:World} {B:Nat} {cs:Array Value} {t:TypeId} (h:W.heap[B]?=some (.cells cs t (0,0))) (j:Nat):W.frozen? ⟨B,j,none⟩=false:=by simp [World.frozen?,h]
theorem heap_madeO (W:World) (o:Obj) {n:Nat} (hn:n=W.heap.size):(W.alloc o).heap[n]?=some o:=by subst hn;exact heap_alloc_new W o
theorem heap_oldO {W:World} {n:Nat} {x:Obj} (h:W.heap[n]?=some x) (o:Obj):(W.alloc o).heap[n]?=some x:=(Below.heap_alloc _ _ _ (Array.getElem?_eq_some_iff.1 h).1).trans h
theorem sumsM_next {ps:List Pd} {k:Nat} (h:k<ps.length):Ol.sumsM (ps.take (k+1))=Ol.sumsM (ps.take k)+sumM (pd ps k).cs (pd ps k).cs.length:=by
 unfold Ol.sumsM
 rw [List.take_succ_eq_append_getElem h,List.map_append,List.sum_append];simp [pd,h]
theorem sumsB_next {ps:List Pd} {k:Nat} (h:k<ps.length):Ol.sumsB (ps.take (k+1))=Ol.sumsB (ps.take k)+sumB (pd ps k).cs (pd ps k).cs.length:=by
 unfold Ol.sumsB
 rw [List.take_succ_eq_append_getElem h,List.map_append,List.sum_append];simp [pd,h]
theorem room_any (tp:Value) (op nd:Nat) (nb pol:Int) (v:Value) (ps:List Pd) (w:World) (h:PodsAt w v ps) (hl:ps.length≤100) (hmi:∀ p∈ps,Mild p.cs) (hop:op<18446744073709551616)
  (hb:∀ k,k≤ps.length→(0≤Ol.sumsM (ps.take k)∧Ol.sumsM (ps.take k)≤1000000000000000000)∧0≤Ol.sumsB (ps.take k)∧Ol.sumsB (ps.take k)≤1000000000000000000) :
  Calls Tryz.prog 30 #[.agg #[tp,.int .u64 op,.int .u8 nd,.int .i64 nb,.int .i64 pol],v] w fun e w'=>e=.returned (.bool (decide (Ol.sumsM ps≤1000*(Ost.cnt op:Int)) && decide (Ol.sumsB ps≤nb)))∧Below w.heap.size w w':=by
 have HMI:=hZz hmi
 have HBD:=hZz hb
 obtain ⟨ao,c,rfl,hm,hr⟩:=h
 unfold maxLen at hm
 have HR:=hZz hr
 have sz:((w.alloc (.cells #[tp,.int .u64 op,.int .u8 nd,.int .i64 nb,.int .i64 pol] 88)).alloc (.cells #[.int .i64 0,.int .i64 0] 56)).heap.size=w.heap.size+2:=by simp
 have HU1:=hZz (heap_madeO (w.alloc (.cells #[tp,.int .u64 op,.int .u8 nd,.int .i64 nb,.int .i64 pol] 88)) (.cells #[.int .i64 0,.int .i64 0] 56) (n:=w.heap.size+1) (by simp))
 have HU0:=hZz (heap_oldO (heap_madeO w (.cells #[tp,.int .u64 op,.int .u8 nd,.int .i64 nb,.int .i64 pol] 88) rfl) (.cells #[.int .i64 0,.int .i64 0] 56))
 have HBU:=hZz (((Below.refl w.heap.size w).alloc (Nat.le_refl _) (.cells #[tp,.int .u64 op,.int .u8 nd,.int .i64 nb,.int .i64 pol] 88)).alloc (by simp) (.cells #[.int .i64 0,.int .i64 0] 56))
 clear hmi hb hr
 go_enter Tryz.func30,Tryz.ntmps30
 go_wp2_with fail
 generalize ((w.alloc (.cells #[tp,.int .u64 op,.int .u8 nd,.int .i64 nb,.int .i64 pol] 88)).alloc (.cells #[.int .i64 0,.int .i64 0] 56))=U at *
 generalize HB:w.heap.size=B at *
 go_loopw [11] (fun i wr=>∃ k:Nat,k≤ps.length∧i=.int .i64 k∧wr.heap[B+1]?=some (.cells #[.int .i64 (Ol.sumsM (ps.take k)),.int .i64 (Ol.sumsB (ps.take k))] 56 (0,0))∧Apart (fun j=>j=B+1) U wr) (fun i _=>ps.length - (intOf i).toNat)
 case atStart=>exact ⟨0,by omega,rfl,HU1.out,Apart.refl _ _⟩
 case round=>
  obtain ⟨k,hk,rfl,hs1,hab⟩:=hrel
  have hsz:=hab.size
  have HAB:=hZz hab
  have hbk:=HBD.out k hk
  have hbel:=hab.below HBU.out (Nat.le_of_eq HB.symm) (fun j hj=>by omega)
  have HBEL:=hZz hbel
  by_cases hlt:k<ps.length
  ·obtain ⟨bb,o,cv,rfl,hin⟩:=HR.out (by omega)
   have hbel':Below w.heap.size w wr:=by rw [HB];exact hbel
   obtain ⟨x0,x1,x2⟩:=((hin.below hbel').2 k hlt).1
   have hcon:=((hin.below hbel').2 k hlt).2
   have hmk:=HMI.out (pd ps k) (by simp [pd,hlt])
   have HSM:=hZz (sumsM_next hlt)
   have HSB:=hZz (sumsB_next hlt)
   have hb2:=HBD.out (k+1) hlt
   rw [HSM.out,HSB.out] at hb2
   obtain ⟨ca,cc,hcv,_,_⟩:=id hcon
   rw [hcv] at x2 hcon
   have HPA:=hZz ((Below.refl wr.heap.size wr).alloc (Nat.le_refl _) (.cells #[.string (pd ps k).nm,.int .i64 (pd ps k).pr,.slice ca (pd ps k).cs.length cc] 31))
   have HSU:=hZz (sum_any (pd ps k) (.slice ca (pd ps k).cs.length cc) (wr.alloc (.cells #[.string (pd ps k).nm,.int .i64 (pd ps k).pr,.slice ca (pd ps k).cs.length cc] 31)) (hcon.below HPA.out) hmk)
   unfold podV at HSU
   have HS1:=hZz hs1
   clear hin hcon hmk hbel hbel' hs1 hab hcv
   generalize sumM (pd ps k).cs (pd ps k).cs.length=xm at *
   generalize sumB (pd ps k).cs (pd ps k).cs.length=xb at *
   generalize Ol.sumsM (ps.take k)=sm at *
   generalize Ol.sumsB (ps.take k)=sb at *
   generalize pd ps k=p at *
   obtain ⟨pn,pp,pc⟩:=p
   dsimp only at x0 x1 x2 HSU HPA
   go_wp2_with fail
   refine HSU.out.mono ?_
   rintro e W1 ⟨rfl,hb1⟩
   have hW1:=HPA.out.trans (hb1.mono HPA.out.size)
   have hA2:=(Below.refl W1.heap.size W1).alloc (Nat.le_refl _) (.cells #[.int .i64 xm,.int .i64 xb] 56)
   have hs2:=heap_oldO ((hW1.block (B+1) (by omega)).trans HS1.out) (.cells #[.int .i64 xm,.int .i64 xb] 56)
   have y0:(W1.alloc (.cells #[.int .i64 xm,.int .i64 xb] 56)).cell? ⟨B+1,0,none⟩=some (.int .i64 sm):=cell_of_heapV hs2 0
   have y1:(W1.alloc (.cells #[.int .i64 xm,.int .i64 xb] 56)).cell? ⟨B+1,1,none⟩=some (.int .i64 sb):=cell_of_heapV hs2 1
   have f0:=frozen_of_heapO hs2 0
   have f1:=frozen_of_heapO hs2 1
   have z0:(W1.alloc (.cells #[.int .i64 xm,.int .i64 xb] 56)).cell? ⟨W1.heap.size,0,none⟩=some (.int .i64 xm):=by simp
   have z1:(W1.alloc (.cells #[.int .i64 xm,.int .i64 xb] 56)).cell? ⟨W1.heap.size,1,none⟩=some (.int .i64 xb):=by simp
   have hne:W1.heap.size≠B+1:=by have:=hW1.size;omega
   have HAX:=hZz (HAB.out.trans (Apart.of_below (hW1.trans (hA2.mono hW1.size))))
   have HS2:=hZz hs2
   clear hs2 hb1 hA2 hW1
   go_wp2_with fail
   go_roundw
   case rel=>exact ⟨k+1,by omega,by go_num,by rw [HSM.out,HSB.out];exact set_heap (set_heap HS2.out 0 _) 1 _,(HAX.out.trans (Apart.setCell (K:=fun j=>j=B+1) rfl _ _ _)).trans (Apart.setCell (K:=fun j=>j=B+1) rfl _ _ _)⟩
   case measure=>simp [intOf];omega
  ·have hke:k=ps.length:=by omega
   subst hke
   rw [List.take_length] at hs1 hbk
   have hs0:=(HAB.out.block B (by omega) (by omega)).trans HU0.out
   have q0:wr.cell? ⟨B+1,0,none⟩=some (.int .i64 (Ol.sumsM ps)):=cell_of_heapV hs1 0
   have q1:wr.cell? ⟨B+1,1,none⟩=some (.int .i64 (Ol.sumsB ps)):=cell_of_heapV hs1 1
   have q2:wr.cell? ⟨B,1,none⟩=some (.int .u64 op):=cell_of_heapV hs0 1
   have q3:wr.cell? ⟨B,3,none⟩=some (.int .i64 nb):=cell_of_heapV hs0 3
   have h64:Ost.cnt op≤64:=S1.listTo_le op 64
   clear hs1 hs0 hab
   obtain ⟨sm,hsm⟩:∃ x,x=Ol.sumsM ps:=⟨_,rfl⟩
   obtain ⟨sb,hsb⟩:∃ x,x=Ol.sumsB ps:=⟨_,rfl⟩
   rw [← hsm] at q0 hbk
   rw [← hsb] at q1 hbk
   have HSM:=hZz hsm
   have HSB:=hZz hsb
   clear hsm hsb
   have HCT:=hZz (S1.count_any op)
   have hcnt:(Ost.listTo op 64).length=Ost.cnt op:=rfl
   rw [hcnt] at HCT
   clear hcnt
   obtain ⟨ct0,hct0⟩:∃ x,x=Ost.cnt op:=⟨_,rfl⟩
   rw [← hct0] at HCT h64
   have HC0:=hZz hct0
   clear hct0
   have HBL:Hid (Below w.heap.size w wr):=by unfold Hid;rw [HB];exact HBEL.out
   by_cases h1:sm≤1000*(ct0:Int)
   ·have h1d:decide (sm≤1000*(ct0:Int))=true:=decide_eq_true h1
    go_wp2_with fail
    go_quiet (exact Calls.quiet_of_same (HCT.out _ hop))
    go_wp2_with fail
    go_ret
    exact ⟨by rw [← HSM.out,← HSB.out,← HC0.out,h1d];rfl,below_drewN HBL.out nq⟩
   ·have h1d:decide (sm≤1000*(ct0:Int))=false:=decide_eq_false h1
    go_wp2_with fail
    go_quiet (exact Calls.quiet_of_same (HCT.out _ hop))
    go_wp2_with fail
    go_ret
    exact ⟨by rw [← HSM.out,← HSB.out,← HC0.out,h1d];rfl,below_drewN HBL.out nq⟩
end
section
open Go.RowKit Go.Shelf
open Ost (splitC)
open Qos (Nd Ct Pd nd ct pd)
open Sv (Gv Hd gv hd wd)
open S1 (Mx)
attribute [local go_sem] Oper.semAt_some
end
end Go.Proofs.YtbfdcmodflnkfaaGreatDoor
