/- VT4, VP3 -/
import Derived.Test.YtbfdcmodflnkfaaGreatDoorU22
import Derived.Test.YtbfdcmodflnkfaaGreatDoorU20
set_option maxRecDepth 100000
set_option maxHeartbeats 16000000
namespace Go.Proofs.YtbfdcmodflnkfaaGreatDoor
section
open Go.RowKit
open Qos (Nd Ct Pd nd ct pd)
open Sv (Gv Hd gv hd podTxt bodyTo body heldTxt sumTxt heldF OkH OkL)
open S1 (Tab)
def textV (hs:List Hd):Value:=if heldF hs=0 then .tuple #[.string ⟨(heldTxt hs).toArray⟩,.nilIface] else .tuple #[.string ⟨#[]⟩,errV (heldF hs:Nat)]
theorem bodyTo_next (hs:List Hd) (k:Nat):bodyTo hs (k+1)=bodyTo hs k++podTxt (hd hs k):=rfl
theorem text_any (v:Value) (hs:List Hd) (w:World) (h:HldsAt w v hs) (ht:TabUp w):Calls Tryz.prog 68 #[v] w fun e w'=>e=.returned (textV hs)∧Below w.heap.size w w':=by
 have HCK:=hZz (saveCheck_any v hs w h)
 by_cases hf:heldF hs=0
 ·have HE:Hid (textV hs=.tuple #[.string ⟨(heldTxt hs).toArray⟩,.nilIface]):=by unfold Hid textV;rw [if_pos hf]
  have hok:=Sv.okL_of hf h.cps
  have e0:errV ((heldF hs:Nat):Int)=.nilIface:=by rw [hf];rfl
  have HH:=hZz h
  have HT:=hZz ht
  have HO:=hZz hok
  obtain ⟨ao,c,rfl,hm,_⟩:=h
  have hlen:=hok.1
  unfold maxLen at hm
  have HHT:Hid (heldTxt hs=body hs++sumTxt (body hs)):=rfl
  have HBD:Hid (body hs=bodyTo hs hs.length):=rfl
  have HBL:=hZz (Sv.bodyTo_le hok)
  have HSL:=hZz (Sv.sumTxt_le (body hs))
  clear ht hok
  go_enter Tryz.func68,Tryz.ntmps68
  go_wp2_with fail
  refine HCK.out.mono ?_
  rintro e w1 ⟨rfl,hb1⟩
  rw [e0]
  have HB1:=hZz hb1
  have HB2:=hZz (hb1.alloc hb1.size (.cells #[.pointer none,.slice none 0 0] 196))
  have HBT:=hZz (built_new w1)
  have HZ1:Hid (w1.heap.size≤(w1.alloc (.cells #[.pointer none,.slice none 0 0] 196)).heap.size):=by unfold Hid;simp
  clear hb1 HCK
  go_wp2_with fail
  go_loopw [16] (fun i wr=>∃ k:Nat,k≤hs.length∧i=.int .i64 k∧Below w.heap.size w wr∧BuiltAt w1.heap.size w1.heap.size (bodyTo hs k) wr∧Hid (w1.heap.size≤wr.heap.size)) (fun i _=>hs.length - (intOf i).toNat)
  case atStart=>exact ⟨0,Nat.zero_le _,rfl,HB2.out,HBT.out,HZ1⟩
  case round=>
   obtain ⟨k,hk,rfl,hB,hbt,HZ⟩:=hrel
   by_cases hlt:k<hs.length
   ·obtain ⟨_,_,hv,_,hr⟩:=HH.out.below hB
    cases hv
    obtain ⟨b,o,cv,gvv,rfl,hin⟩:=hr (by omega)
    obtain ⟨c0,c1,c2,c3⟩:=hin.at hlt
    obtain ⟨_,hC,hG⟩:=hin.2 k hlt
    have HBX:=hZz ((Below.refl wr.heap.size wr).alloc (Nat.le_refl _) (.cells #[.string (hd hs k).pod.nm,.int .i64 (hd hs k).pod.pr,cv k,gvv k] 60))
    have HBa:=hZz (hB.trans (HBX.out.mono hB.size))
    have HBTa:=hZz (hbt.below HBX.out)
    have oh:=HO.out.2 _ (Sv.mem_hd hlt)
    have HPT:=hZz (podText_any (hd hs k) (cv k) (gvv k) wr.heap.size _ (hC.below HBX.out) (by simp) (hG.below HBX.out) oh (HT.out.below HBa.out))
    unfold podV at HPT
    have hpl:=Sv.podTxt_le oh
    have hbl:=HBL.out k hk
    have HST:=hZz (bodyTo_next hs k)
    obtain ⟨ca,cc,hs1⟩:=hC.sl
    obtain ⟨ga,gc,hs2⟩:=hG.sl
    clear hin hC hG hB hbt oh hr HBL
    generalize bodyTo hs k=BT at *
    generalize podTxt (hd hs k)=PT at *
    generalize (hd hs k).pod.nm=nm at *
    generalize (hd hs k).pod.pr=pr at *
    generalize (hd hs k).pod.cs.length=cl at *
    generalize (hd hs k).gs.length=gl at *
    generalize cv k=cvk at *
    generalize gvv k=gvk at *
    subst hs1 hs2
    have hwl:BT.length+PT.length≤1000000:=by omega
    go_wp2_with fail
    refine HPT.out.mono ?_
    rintro e W1 ⟨rfl,hbb⟩
    have HB4:=hZz (HBa.out.trans (hbb.mono HBa.out.size))
    have HBT4:=hZz (HBTa.out.below hbb)
    have hz4:w1.heap.size≤W1.heap.size:=Nat.le_trans HZ.out (Nat.le_trans HBX.out.size hbb.size)
    clear hbb
    go_wp2_with fail
    refine (write_any _ _ _ _ _ HBT4.out hwl hz4).mono ?_
    rintro e W5 ⟨rfl,hbt5,hb5⟩
    have HB5:=hZz (HB4.out.trans (hb5.mono HB1.out.size))
    have HZ5:=hZz (Nat.le_trans hz4 hb5.size)
    have HBT5:=hZz hbt5
    clear hbt5 hb5
    go_wp2_with fail
    go_roundw
    case rel=>exact ⟨k+1,by omega,by go_num,HB5.out,by rw [HST.out];exact HBT5.out,HZ5⟩
    case measure=>simp [intOf];omega
   ·have hke:k=hs.length:=by omega
    subst hke
    have hbl:=HBL.out _ (Nat.le_refl _)
    rw [← HBD.out] at hbt hbl
    have hsl:=HSL.out
    have HSM:Hid (∀ W,Below w.heap.size w W→Calls Tryz.prog 113 #[.string ⟨(body hs).toArray⟩] W fun e w'=>e=.returned (.string ⟨(sumTxt (body hs)).toArray⟩)∧Below W.heap.size W w'):=fun W hb=>sumLine_any _ W (by omega) (HT.out.below hb).1
    clear HBD HSL HBL
    generalize sumTxt (body hs)=ST at *
    generalize body hs=BD at *
    have ec:=strcat BD ST
    go_wp2_with fail
    refine (string_any _ _ _ _ hbt HZ.out).mono ?_
    rintro e W1 ⟨rfl,hb2⟩
    have HB3:=hZz (hB.trans (hb2.mono HB1.out.size))
    clear hb2 hB hbt
    go_wp2_with fail
    refine (HSM.out _ HB3.out).mono ?_
    rintro e W2 ⟨rfl,hb3⟩
    have HB4:=hZz (HB3.out.trans (hb3.mono HB3.out.size))
    clear hb3
    go_wp2_with fail
    go_ret2
    refine ⟨?_,HB4.out⟩
    rw [HE.out,HHT.out,← ec]
    rfl
 ·have HE:Hid (textV hs=.tuple #[.string ⟨#[]⟩,errV (heldF hs:Nat)]):=by unfold Hid textV;rw [if_neg hf]
  have HP:=hZz (errQ_pos hf)
  obtain ⟨ao,c,rfl,hm,_⟩:=h
  clear ht
  go_enter Tryz.func68,Tryz.ntmps68
  go_wp2_with fail
  refine HCK.out.mono ?_
  rintro e w1 ⟨rfl,hb⟩
  rw [HP.out]
  go_wp2_with fail
  go_ret2
  exact ⟨by rw [HE.out,HP.out];rfl,hb⟩
end
section
open Go.RowKit Go.Shelf
open Qos (Nd Ct Pd nd ct pd)
open Sv (Gv Hd gv hd wd Tx sumTxt heldTxt heldF body readS)
open S1 (Mx Tab)
namespace Sv
def parseS (t:Tx):Nat × List Hd:=
 if 6000<t.length then (2,[]) else
 match cutS t with
 | none=>(12,[])
 | some b=>match readS b with
  | none=>(4,[])
  | some hs=>if heldF hs=0∧heldTxt hs=t then (0,hs) else (4,[])
end Sv
theorem hlds_nil (w:World):HldsAt w (.slice none 0 0) []:=⟨none,0,rfl,⟨Nat.le_refl _,by unfold maxLen;omega⟩,fun h=>by simp at h⟩
end
end Go.Proofs.YtbfdcmodflnkfaaGreatDoor
