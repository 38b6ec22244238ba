/- VK3 -/
import Derived.Test.YtbfdcmodflnkfaaGreatDoorU28
set_option maxRecDepth 100000
set_option maxHeartbeats 16000000
namespace Go.Proofs.YtbfdcmodflnkfaaGreatDoor
section
open Go.RowKit Go.Shelf
open Sv (Gv Hd gv hd wd Tx sumTxt heldTxt heldF body readS)
open S1 (Mx Tab)
theorem grown_of_below {a b:World} {r:Option Nat} (h:Below a.heap.size a b):a.grownBy b r:=⟨h.os,h.tape,h.output,h.size,fun k hk _=>h.block k hk⟩
theorem saveWrite_any (B b1 b2:Nat) (s:Dk) (t:ByteArray) (w:World) (h:DkAt w B s) (hw:s.wt=none∨s.d=true) (ht:t.size≤maxLen) (c1:w.cell? ⟨b1,0,none⟩=some (.pointer (some ⟨B,0,none⟩))) (c2:w.cell? ⟨b2,0,none⟩=some (.string t)) :
  Calls Tryz.prog 69 #[.pointer (some ⟨b1,0,none⟩),.pointer (some ⟨b2,0,none⟩)] w fun e w'=>e=.returned (errV ((s.write t).1:Nat))∧DkAt w' B (s.write t).2∧w.grownBy w' (some B):=by
 have HW:=hZz (writeD_any B s t w h hw ht)
 clear h hw
 go_enter Tryz.func69,Tryz.ntmps69
 go_wp2_with fail
 refine HW.out.mono ?_
 rintro e w1 ⟨rfl,h1,h2⟩
 have H1:=hZz h1
 have H2:=hZz h2
 clear h1 h2 HW
 go_wp2_with fail
 go_ret
 exact ⟨rfl,H1.out,H2.out⟩
theorem Dk.from_upto {s:Dk} {t:ByteArray}:∀ {k:Nat},k≤4→(∀ j,j<k→s.err t j=0)→s.from t 0=s.from t k
 | 0,_,_=>rfl
 | k+1,hk,h=>(Dk.from_upto (by omega) (fun j hj=>h j (by omega))).trans (Dk.from_yes (by omega) (h k (by omega)))
theorem errV_two (k:Nat):(k=0∧errV ((k:Nat):Int)=.nilIface)∨(k≠0∧errV ((k:Nat):Int)=.iface 94 (.int .i64 k)):=by
 by_cases h:k=0
 ·subst h;exact .inl ⟨rfl,rfl⟩
 ·exact .inr ⟨h,errQ_pos h⟩
theorem save_any (B:Nat) (s:Dk) (v:Value) (hs:List Hd) (w:World) (h:DkAt w B s) (hw:s.wt=none∨s.d=true) (hv:HldsAt w v hs) (ht:TabUp w):Calls Tryz.prog 37 #[.pointer (some ⟨B,0,none⟩),v] w fun e w'=>e=.returned (errV ((s.save hs).1:Nat))∧DkAt w' B (s.save hs).2∧w.grownBy w' (some B):=by
 have HB0:=hZz ((Below.refl w.heap.size w).alloc (Nat.le_refl _) (.cells #[.pointer (some ⟨B,0,none⟩)] 36))
 have HTX:=hZz (text_any v hs _ (hv.below HB0.out) (ht.below HB0.out))
 have HD:=hZz h
 have HBL:=hZz h.lt
 have cb:(w.alloc (.cells #[.pointer (some ⟨B,0,none⟩)] 36)).cell? ⟨w.heap.size,0,none⟩=some (.pointer (some ⟨B,0,none⟩)):=by simp
 have hszb:(w.alloc (.cells #[.pointer (some ⟨B,0,none⟩)] 36)).heap.size=w.heap.size+1:=by simp
 have hvcps:=hv.cps
 obtain ⟨va,vc,rfl,hvm,_⟩:=hv
 clear h ht
 by_cases hf:heldF hs=0
 ·have HTV:Hid (textV hs=.tuple #[.string ⟨(heldTxt hs).toArray⟩,.nilIface]):=by unfold Hid textV;rw [if_pos hf]
  have HSV:Hid (s.save hs=s.from ⟨(heldTxt hs).toArray⟩ 0):=by unfold Hid Dk.save;rw [if_pos hf]
  have HTL:Hid ((ByteArray.mk (heldTxt hs).toArray).size≤maxLen):=by
   have h1:=Sv.body_le (Sv.okL_of hf hvcps)
   have h2:=Sv.sumTxt_le (body hs)
   unfold Hid maxLen
   simp only [ByteArray.size,heldTxt,List.size_toArray,List.length_append]
   omega
  rw [HTV.out] at HTX
  clear HTV hf hvcps
  generalize ByteArray.mk (heldTxt hs).toArray=t at *
  go_enter Tryz.func37,Tryz.ntmps37
  go_wp2_with fail
  generalize w.alloc (.cells #[.pointer (some ⟨B,0,none⟩)] 36)=A at *
  refine HTX.out.mono ?_
  rintro e w1 ⟨rfl,hb1⟩
  have HB1:=hZz (HB0.out.trans (hb1.mono HB0.out.size))
  have cb1:=(hb1.cell (p:=⟨w.heap.size,0,none⟩) (by show w.heap.size<A.heap.size;omega)).trans cb
  have hsz1:w.heap.size<w1.heap.size:=Nat.lt_of_lt_of_le (by omega) hb1.size
  clear hb1 cb HTX hszb HB0
  have HB2:=hZz (HB1.out.alloc HB1.out.size (.cells #[.string t] 9))
  have cb2:(w1.alloc (.cells #[.string t] 9)).cell? ⟨w.heap.size,0,none⟩=some (.pointer (some ⟨B,0,none⟩)):=(((Below.refl w1.heap.size w1).alloc (Nat.le_refl _) _).cell (p:=⟨w.heap.size,0,none⟩) hsz1).trans cb1
  have ct2:(w1.alloc (.cells #[.string t] 9)).cell? ⟨w1.heap.size,0,none⟩=some (.string t):=by simp
  have hsz2:(w1.alloc (.cells #[.string t] 9)).heap.size=w1.heap.size+1:=by simp
  clear cb1
  go_wp2_with fail
  have HB3:=hZz (HB2.out.alloc HB2.out.size (.cells #[.func (.func 69) #[] #[.pointer (some ⟨w.heap.size,0,none⟩),.pointer (some ⟨w1.heap.size,0,none⟩)],.func (.func 71) #[.pointer (some ⟨B,0,none⟩)] #[],.func (.func 72) #[.pointer (some ⟨B,0,none⟩)] #[],.func (.func 71) #[.pointer (some ⟨B,0,none⟩)] #[]] 136))
  have hb23:=(Below.refl _ (w1.alloc (.cells #[.string t] 9))).alloc (Nat.le_refl _) (.cells #[.func (.func 69) #[] #[.pointer (some ⟨w.heap.size,0,none⟩),.pointer (some ⟨w1.heap.size,0,none⟩)],.func (.func 71) #[.pointer (some ⟨B,0,none⟩)] #[],.func (.func 72) #[.pointer (some ⟨B,0,none⟩)] #[],.func (.func 71) #[.pointer (some ⟨B,0,none⟩)] #[]] 136)
  have cb3:=(hb23.cell (p:=⟨w.heap.size,0,none⟩) (by show w.heap.size<(w1.alloc (.cells #[.string t] 9)).heap.size;omega)).trans cb2
  have ct3:=(hb23.cell (p:=⟨w1.heap.size,0,none⟩) (by show w1.heap.size<(w1.alloc (.cells #[.string t] 9)).heap.size;omega)).trans ct2
  have f0:((w1.alloc (.cells #[.string t] 9)).alloc (.cells #[.func (.func 69) #[] #[.pointer (some ⟨w.heap.size,0,none⟩),.pointer (some ⟨w1.heap.size,0,none⟩)],.func (.func 71) #[.pointer (some ⟨B,0,none⟩)] #[],.func (.func 72) #[.pointer (some ⟨B,0,none⟩)] #[],.func (.func 71) #[.pointer (some ⟨B,0,none⟩)] #[]] 136)).cell? ⟨w1.heap.size+1,0,none⟩=some (.func (.func 69) #[] #[.pointer (some ⟨w.heap.size,0,none⟩),.pointer (some ⟨w1.heap.size,0,none⟩)]):=by simp
  have f1:((w1.alloc (.cells #[.string t] 9)).alloc (.cells #[.func (.func 69) #[] #[.pointer (some ⟨w.heap.size,0,none⟩),.pointer (some ⟨w1.heap.size,0,none⟩)],.func (.func 71) #[.pointer (some ⟨B,0,none⟩)] #[],.func (.func 72) #[.pointer (some ⟨B,0,none⟩)] #[],.func (.func 71) #[.pointer (some ⟨B,0,none⟩)] #[]] 136)).cell? ⟨w1.heap.size+1,1,none⟩=some (.func (.func 71) #[.pointer (some ⟨B,0,none⟩)] #[]):=by simp
  have f2:((w1.alloc (.cells #[.string t] 9)).alloc (.cells #[.func (.func 69) #[] #[.pointer (some ⟨w.heap.size,0,none⟩),.pointer (some ⟨w1.heap.size,0,none⟩)],.func (.func 71) #[.pointer (some ⟨B,0,none⟩)] #[],.func (.func 72) #[.pointer (some ⟨B,0,none⟩)] #[],.func (.func 71) #[.pointer (some ⟨B,0,none⟩)] #[]] 136)).cell? ⟨w1.heap.size+1,2,none⟩=some (.func (.func 72) #[.pointer (some ⟨B,0,none⟩)] #[]):=by simp
  have f3:((w1.alloc (.cells #[.string t] 9)).alloc (.cells #[.func (.func 69) #[] #[.pointer (some ⟨w.heap.size,0,none⟩),.pointer (some ⟨w1.heap.size,0,none⟩)],.func (.func 71) #[.pointer (some ⟨B,0,none⟩)] #[],.func (.func 72) #[.pointer (some ⟨B,0,none⟩)] #[],.func (.func 71) #[.pointer (some ⟨B,0,none⟩)] #[]] 136)).cell? ⟨w1.heap.size+1,3,none⟩=some (.func (.func 71) #[.pointer (some ⟨B,0,none⟩)] #[]):=by simp
  have hsz3:((w1.alloc (.cells #[.string t] 9)).alloc (.cells #[.func (.func 69) #[] #[.pointer (some ⟨w.heap.size,0,none⟩),.pointer (some ⟨w1.heap.size,0,none⟩)],.func (.func 71) #[.pointer (some ⟨B,0,none⟩)] #[],.func (.func 72) #[.pointer (some ⟨B,0,none⟩)] #[],.func (.func 71) #[.pointer (some ⟨B,0,none⟩)] #[]] 136)).heap.size=w1.heap.size+1+1:=by simp
  have HD3:=hZz (HD.out.below HB3.out)
  clear hb23 cb2 ct2 HB2 hsz2 HB1
  generalize ((w1.alloc (.cells #[.string t] 9)).alloc (.cells #[.func (.func 69) #[] #[.pointer (some ⟨w.heap.size,0,none⟩),.pointer (some ⟨w1.heap.size,0,none⟩)],.func (.func 71) #[.pointer (some ⟨B,0,none⟩)] #[],.func (.func 72) #[.pointer (some ⟨B,0,none⟩)] #[],.func (.func 71) #[.pointer (some ⟨B,0,none⟩)] #[]] 136))=W3 at *
  have hBw:=HBL.out
  have HF:Hid (∀ wr:World,W3.grownBy wr (some B)→wr.cell? ⟨w.heap.size,0,none⟩=some (.pointer (some ⟨B,0,none⟩))∧wr.cell? ⟨w1.heap.size,0,none⟩=some (.string t)∧wr.cell? ⟨w1.heap.size+1,0,none⟩=some (.func (.func 69) #[] #[.pointer (some ⟨w.heap.size,0,none⟩),.pointer (some ⟨w1.heap.size,0,none⟩)])∧wr.cell? ⟨w1.heap.size+1,1,none⟩=some (.func (.func 71) #[.pointer (some ⟨B,0,none⟩)] #[])∧wr.cell? ⟨w1.heap.size+1,2,none⟩=some (.func (.func 72) #[.pointer (some ⟨B,0,none⟩)] #[])∧wr.cell? ⟨w1.heap.size+1,3,none⟩=some (.func (.func 71) #[.pointer (some ⟨B,0,none⟩)] #[])):=fun wr hg=>
   have k1:=fun j=>World.cell?_of_block (a:=⟨w.heap.size,j,none⟩) (hg.block w.heap.size (by omega) (fun e=>by injection e;omega))
   have k2:=fun j=>World.cell?_of_block (a:=⟨w1.heap.size,j,none⟩) (hg.block w1.heap.size (by omega) (fun e=>by injection e;omega))
   have k3:=fun j=>World.cell?_of_block (a:=⟨w1.heap.size+1,j,none⟩) (hg.block (w1.heap.size+1) (by omega) (fun e=>by injection e;omega))
   ⟨(k1 0).trans cb3,(k2 0).trans ct3,(k3 0).trans f0,(k3 1).trans f1,(k3 2).trans f2,(k3 3).trans f3⟩
  clear cb3 ct3 f0 f1 f2 f3
  have HW:=hZz hw
  clear hw
  go_loopw [29] (fun i wr=>∃ k:Nat,k≤4∧i=.int .i64 k∧(∀ j,j<k→s.err t j=0)∧DkAt wr B (s.run t k)∧W3.grownBy wr (some B)) (fun i _=>4 - (intOf i).toNat)
  case atStart=>exact ⟨0,by omega,rfl,fun j hj=>by omega,HD3.out,⟨rfl,rfl,rfl,Nat.le_refl _,fun _ _ _=>rfl⟩⟩
  case round=>
   obtain ⟨k,hk,rfl,hgood,hdk,hg⟩:=hrel
   have HGD:=hZz hgood
   have HDK:=hZz hdk
   have HGR:=hZz hg
   obtain ⟨cb4,ct4,g0,g1,g2,g3⟩:=HF.out wr hg
   clear hgood hdk hg
   have hcases:k=0∨k=1∨k=2∨k=3∨k=4:=by omega
   rcases hcases with rfl|rfl|rfl|rfl|rfl
   ·have HC:Hid (Calls Tryz.prog 69 #[.pointer (some ⟨w.heap.size,0,none⟩),.pointer (some ⟨w1.heap.size,0,none⟩)] wr fun e w'=>e=.returned (errV ((s.err t 0:Nat):Int))∧DkAt w' B (s.run t (0+1))∧wr.grownBy w' (some B)):=saveWrite_any B w.heap.size w1.heap.size (s.run t 0) t wr HDK.out HW.out HTL.out cb4 ct4
    clear HF cb4 ct4
    rcases errV_two (s.err t 0) with ⟨h0,he⟩|⟨h0,he⟩
    ·rw [he] at HC
     clear he
     go_wp2_with fail
     refine HC.out.mono ?_
     rintro e w5 ⟨rfl,h5,h6⟩
     have H5:=hZz h5
     have H6:=hZz (grown_trans HGR.out h6)
     clear h5 h6 HC
     go_wp2_with fail
     go_roundw
     case rel=>exact ⟨0+1,by omega,by go_num,fun j hj=>by rcases Nat.lt_succ_iff_lt_or_eq.1 hj with h|h;exact HGD.out j h;rw [h];exact h0,H5.out,H6.out⟩
     case measure=>simp [intOf]
    ·rw [he] at HC
     go_wp2_with fail
     refine HC.out.mono ?_
     rintro e w5 ⟨rfl,h5,h6⟩
     have H5:=hZz h5
     have H6:=hZz (grown_trans HGR.out h6)
     clear h5 h6 HC
     go_wp2_with fail
     go_ret
     have hfr:=(Dk.from_upto (by omega) HGD.out).trans (Dk.from_no (by omega) h0)
     exact ⟨by rw [HSV.out,hfr,he];rfl,by rw [HSV.out,hfr];exact H5.out,grown_trans (grown_of_below HB3.out) H6.out⟩
   ·have HC:Hid (Calls Tryz.prog 71 #[.pointer (some ⟨B,0,none⟩)] wr fun e w'=>e=.returned (errV ((s.err t 1:Nat):Int))∧DkAt w' B (s.run t (1+1))∧wr.grownBy w' (some B)):=sync_any B (s.run t 1) wr HDK.out
    clear HF cb4 ct4
    rcases errV_two (s.err t 1) with ⟨h0,he⟩|⟨h0,he⟩
    ·rw [he] at HC
     clear he
     go_wp2_with fail
     refine HC.out.mono ?_
     rintro e w5 ⟨rfl,h5,h6⟩
     have H5:=hZz h5
     have H6:=hZz (grown_trans HGR.out h6)
     clear h5 h6 HC
     go_wp2_with fail
     go_roundw
     case rel=>exact ⟨1+1,by omega,by go_num,fun j hj=>by rcases Nat.lt_succ_iff_lt_or_eq.1 hj with h|h;exact HGD.out j h;rw [h];exact h0,H5.out,H6.out⟩
     case measure=>simp [intOf]
    ·rw [he] at HC
     go_wp2_with fail
     refine HC.out.mono ?_
     rintro e w5 ⟨rfl,h5,h6⟩
     have H5:=hZz h5
     have H6:=hZz (grown_trans HGR.out h6)
     clear h5 h6 HC
     go_wp2_with fail
     go_ret
     have hfr:=(Dk.from_upto (by omega) HGD.out).trans (Dk.from_no (by omega) h0)
     exact ⟨by rw [HSV.out,hfr,he];rfl,by rw [HSV.out,hfr];exact H5.out,grown_trans (grown_of_below HB3.out) H6.out⟩
   ·have HC:Hid (Calls Tryz.prog 72 #[.pointer (some ⟨B,0,none⟩)] wr fun e w'=>e=.returned (errV ((s.err t 2:Nat):Int))∧DkAt w' B (s.run t (2+1))∧wr.grownBy w' (some B)):=move_any B (s.run t 2) wr HDK.out (by rw [run_2 (HGD.out 0 (by omega)) (HGD.out 1 (by omega))];rfl) (by rw [run_2 (HGD.out 0 (by omega)) (HGD.out 1 (by omega))])
    clear HF cb4 ct4
    rcases errV_two (s.err t 2) with ⟨h0,he⟩|⟨h0,he⟩
    ·rw [he] at HC
     clear he
     go_wp2_with fail
     refine HC.out.mono ?_
     rintro e w5 ⟨rfl,h5,h6⟩
     have H5:=hZz h5
     have H6:=hZz (grown_trans HGR.out h6)
     clear h5 h6 HC
     go_wp2_with fail
     go_roundw
     case rel=>exact ⟨2+1,by omega,by go_num,fun j hj=>by rcases Nat.lt_succ_iff_lt_or_eq.1 hj with h|h;exact HGD.out j h;rw [h];exact h0,H5.out,H6.out⟩
     case measure=>simp [intOf]
    ·rw [he] at HC
     go_wp2_with fail
     refine HC.out.mono ?_
     rintro e w5 ⟨rfl,h5,h6⟩
     have H5:=hZz h5
     have H6:=hZz (grown_trans HGR.out h6)
     clear h5 h6 HC
     go_wp2_with fail
     go_ret
     have hfr:=(Dk.from_upto (by omega) HGD.out).trans (Dk.from_no (by omega) h0)
     exact ⟨by rw [HSV.out,hfr,he];rfl,by rw [HSV.out,hfr];exact H5.out,grown_trans (grown_of_below HB3.out) H6.out⟩
   ·have HC:Hid (Calls Tryz.prog 71 #[.pointer (some ⟨B,0,none⟩)] wr fun e w'=>e=.returned (errV ((s.err t 3:Nat):Int))∧DkAt w' B (s.run t (3+1))∧wr.grownBy w' (some B)):=sync_any B (s.run t 3) wr HDK.out
    clear HF cb4 ct4
    rcases errV_two (s.err t 3) with ⟨h0,he⟩|⟨h0,he⟩
    ·rw [he] at HC
     clear he
     go_wp2_with fail
     refine HC.out.mono ?_
     rintro e w5 ⟨rfl,h5,h6⟩
     have H5:=hZz h5
     have H6:=hZz (grown_trans HGR.out h6)
     clear h5 h6 HC
     go_wp2_with fail
     go_roundw
     case rel=>exact ⟨3+1,by omega,by go_num,fun j hj=>by rcases Nat.lt_succ_iff_lt_or_eq.1 hj with h|h;exact HGD.out j h;rw [h];exact h0,H5.out,H6.out⟩
     case measure=>simp [intOf]
    ·rw [he] at HC
     go_wp2_with fail
     refine HC.out.mono ?_
     rintro e w5 ⟨rfl,h5,h6⟩
     have H5:=hZz h5
     have H6:=hZz (grown_trans HGR.out h6)
     clear h5 h6 HC
     go_wp2_with fail
     go_ret
     have hfr:=(Dk.from_upto (by omega) HGD.out).trans (Dk.from_no (by omega) h0)
     exact ⟨by rw [HSV.out,hfr,he];rfl,by rw [HSV.out,hfr];exact H5.out,grown_trans (grown_of_below HB3.out) H6.out⟩
   ·go_wp2_with fail
    go_ret
    have hfr:=(Dk.from_upto (by omega) HGD.out).trans Dk.from_end
    exact ⟨by rw [HSV.out,hfr];rfl,by rw [HSV.out,hfr];exact HDK.out,grown_trans (grown_of_below HB3.out) HGR.out⟩
 ·have HTV:Hid (textV hs=.tuple #[.string ⟨#[]⟩,errV (heldF hs:Nat)]):=by unfold Hid textV;rw [if_neg hf]
  have HEP:=hZz (errQ_pos hf)
  have HSV:Hid (s.save hs=(heldF hs,s)):=by unfold Hid Dk.save;rw [if_neg hf]
  rw [HTV.out,HEP.out] at HTX
  clear HTV hf hvcps
  go_enter Tryz.func37,Tryz.ntmps37
  go_wp2_with fail
  generalize w.alloc (.cells #[.pointer (some ⟨B,0,none⟩)] 36)=A at *
  refine HTX.out.mono ?_
  rintro e w1 ⟨rfl,hb1⟩
  have HB1:=hZz (HB0.out.trans (hb1.mono HB0.out.size))
  have HB2:=hZz (HB1.out.alloc HB1.out.size (.cells #[.string ⟨#[]⟩] 9))
  clear hb1 cb HTX hszb HB0
  go_wp2_with fail
  go_ret
  exact ⟨by rw [HSV.out,HEP.out];rfl,by rw [HSV.out];exact HD.out.below HB2.out,grown_of_below HB2.out⟩
end
end Go.Proofs.YtbfdcmodflnkfaaGreatDoor
