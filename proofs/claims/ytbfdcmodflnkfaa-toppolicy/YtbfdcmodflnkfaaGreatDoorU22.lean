/- VT3 -/
import Derived.Test.YtbfdcmodflnkfaaGreatDoorU7
set_option maxRecDepth 100000
set_option maxHeartbeats 16000000
namespace Go.Proofs.YtbfdcmodflnkfaaGreatDoor
section
open Go.RowKit
open Qos (Nd Ct Pd nd ct pd)
open Sv (Gv Hd gv hd needTxt needsTxt devsTxt setTxt contWs givenWs podWs lineTxt contLine podLine contsTo podTxt bodyTo body heldTxt sumTxt OkN OkC OkG OkH OkL OkP)
open S1 (Tab strs strs_snoc strs_oneCell ownsRow_cells infoStr itoa_any)
def BuiltAt (B b:Nat) (l:List UInt8) (w:World):Prop:=Lib.IsBuilderF 196 5 B b (Lib.byteCells l) w
theorem BuiltAt.below {B b:Nat} {l:List UInt8} {w w':World} (h:BuiltAt B b l w) (hb:Below w.heap.size w w'):BuiltAt B b l w':=by
 have key:∀ p,Lib.BuilderAtF 196 5 B b p (Lib.byteCells l) w→Lib.BuilderAtF 196 5 B b p (Lib.byteCells l) w':=by
  rintro p ⟨hB,v,hv,hr,hn⟩
  have hlt:b<w.heap.size:=(Array.getElem?_eq_some_iff.1 hv).1
  refine ⟨hB,v,by rw [hb.block b hlt];exact hv,?_,hn⟩
  exact hr.kept (row:=none) ⟨hb.os,hb.tape,hb.output,hb.size,fun j hj _=>hb.block j hj⟩ (by cases hv:v.ownBlock <;> simp)
 rcases h with h|h
 ·exact .inl (key _ h)
 ·exact .inr (key _ h)
theorem built_new (w:World):BuiltAt w.heap.size w.heap.size [] (w.alloc (.cells #[.pointer none,.slice none 0 0] 196)):=Lib.IsBuilderF.of (Lib.fresh_isBuilder _ _ w)
theorem write_any (B b:Nat) (l s:List UInt8) (w:World) (h:BuiltAt B b l w) (hl:l.length+s.length≤1000000) (hB:B≤w.heap.size) :
  Calls Tryz.prog 108 #[.pointer (some ⟨b,0,none⟩),.string ⟨s.toArray⟩] w fun e w'=>e=.returned (.tuple #[.int .i64 s.length,.nilIface])∧BuiltAt B b (l++s) w'∧Below B w w':=by
 have hw:=Any.Builder_WriteString_k (P:=Tryz.prog) (ρ:=Tryz.lays156_ren) { Tryz.lays156 with } Tryz.Builder_Extra_156 B b (Lib.byteCells l) ⟨s.toArray⟩ w h (by
  show (Lib.byteCells l).length+s.toArray.size≤_
  simp [Lib.byteCells];omega) hB
 refine hw.mono ?_
 rintro e w' ⟨rfl,h1,h2,_⟩
 refine ⟨rfl,.inr ?_,h2⟩
 have e:Lib.byteCells l++Lib.strCells ⟨s.toArray⟩=Lib.byteCells (l++s):=by simp [Lib.byteCells,Lib.strCells]
 rw [e] at h1
 exact h1
theorem string_any (B b:Nat) (l:List UInt8) (w:World) (h:BuiltAt B b l w) (hB:B≤w.heap.size) :
  Calls Tryz.prog 112 #[.pointer (some ⟨b,0,none⟩)] w fun e w'=>e=.returned (.string ⟨l.toArray⟩)∧Below B w w':=by
 refine (Tryz.Builder_String_any_k B b l w h hB).mono ?_
 rintro e w' ⟨rfl,_,h2,_⟩
 exact ⟨rfl,h2⟩
theorem WordsAt.below {base:Nat} {w w':World} {v:Value} {ws:List (List UInt8)} (h:WordsAt base w v ws) (hb:Below w.heap.size w w'):WordsAt base w' v ws:=row_belowV h hb
theorem line_any (v:Value) (ws:List (List UInt8)) (base:Nat) (w:World) (h:WordsAt base w v ws) (hn:ws.length≤20) (hw:∀ x∈ws,x.length≤400) :
  Calls Tryz.prog 143 #[v] w fun e w'=>e=.returned (.string ⟨(lineTxt ws).toArray⟩)∧Below w.heap.size w w':=by
 have hl:(Lib.join ws [32]).length≤8020:=Nat.le_trans (Sv.join_le 32 400 ws hw) (by omega)
 have HJ:=hZz (join_any 32 v ws w base h (by omega) (by omega))
 have eb:=strcat (Lib.join ws [32]) [10]
 have HE:Hid (lineTxt ws=Lib.join ws [32]++[10]):=rfl
 generalize lineTxt ws=L at *
 generalize Lib.join ws [32]=J at *
 clear h hw
 go_enter Tryz.func143,Tryz.ntmps143
 go_wp2_with fail
 refine HJ.out.mono ?_
 rintro e w1 ⟨rfl,hb1⟩
 go_wp2_with fail
 go_ret
 exact ⟨by rw [HE.out];exact congrArg (fun x=>Ending.returned (Value.string x)) eb,hb1⟩
theorem contWords_any (c:Ct) (dv:Value) (w:World) (hd:NeedsAt w dv c.ds) (hc:OkC c) (ht:TabUp w) :
  Calls Tryz.prog 145 #[.agg #[.string c.nm,.int .i64 c.am,.int .i64 c.ab,.int .i64 c.cm,.int .i64 c.cb,dv]] w fun e w'=>∃ v,e=.returned v∧WordsAt w.heap.size w' v (contWs c)∧Below w.heap.size w w':=by
 have HT:=hZz ht
 have HB0:=hZz (below_drewV ((Below.refl w.heap.size w).alloc (Nat.le_refl _) (.cells #[.string c.nm,.int .i64 c.am,.int .i64 c.ab,.int .i64 c.cm,.int .i64 c.cb,dv] 64)))
 obtain ⟨_,k1,k2,k3,k4,k5,k6⟩:=hc
 have HD:=hZz (fun W (hb:Below w.heap.size w W)=>listNeeds_any dv c.ds W (hd.below hb) k6 k5 (HT.out.below hb))
 have HE:Hid (contWs c=[[99,111,110,116],c.nm.data.toList,Sv.dec c.am,Sv.dec c.ab,Sv.dec c.cm,Sv.dec c.cb,needsTxt c.ds]):=rfl
 have HN:Hid (ByteArray.mk c.nm.data.toList.toArray=c.nm):=by unfold Hid;simp
 obtain ⟨da,dc,rfl,_⟩:=hd
 clear ht k6 k5
 generalize needsTxt c.ds=D at *
 generalize c.ds.length=dn at *
 generalize contWs c=CW at *
 generalize c.nm=nm at *
 generalize c.am=am at *
 generalize c.ab=ab at *
 generalize c.cm=cm at *
 generalize c.cb=cb at *
 go_enter Tryz.func145,Tryz.ntmps145
 go_wp2_with fail
 have HS0:=hZz (show w.heap.size<(w.alloc (.cells #[.string nm,.int .i64 am,.int .i64 ab,.int .i64 cm,.int .i64 cb,.slice da dn dc] 64)).drew.heap.size∧(w.alloc (.cells #[.string nm,.int .i64 am,.int .i64 ab,.int .i64 cm,.int .i64 cb,.slice da dn dc] 64)).drew.cell? ⟨w.heap.size,0,none⟩=some (.string nm)∧(w.alloc (.cells #[.string nm,.int .i64 am,.int .i64 ab,.int .i64 cm,.int .i64 cb,.slice da dn dc] 64)).drew.cell? ⟨w.heap.size,1,none⟩=some (.int .i64 am)∧(w.alloc (.cells #[.string nm,.int .i64 am,.int .i64 ab,.int .i64 cm,.int .i64 cb,.slice da dn dc] 64)).drew.cell? ⟨w.heap.size,2,none⟩=some (.int .i64 ab)∧(w.alloc (.cells #[.string nm,.int .i64 am,.int .i64 ab,.int .i64 cm,.int .i64 cb,.slice da dn dc] 64)).drew.cell? ⟨w.heap.size,3,none⟩=some (.int .i64 cm)∧(w.alloc (.cells #[.string nm,.int .i64 am,.int .i64 ab,.int .i64 cm,.int .i64 cb,.slice da dn dc] 64)).drew.cell? ⟨w.heap.size,4,none⟩=some (.int .i64 cb)∧(w.alloc (.cells #[.string nm,.int .i64 am,.int .i64 ab,.int .i64 cm,.int .i64 cb,.slice da dn dc] 64)).drew.cell? ⟨w.heap.size,5,none⟩=some (.slice da dn dc) from ⟨by simp,by simp,by simp,by simp,by simp,by simp,by simp⟩)
 refine wp_region_held_drew (S:=(fun w'=>w'.cell? ⟨w.heap.size,0,none⟩=some (.string nm)∧w'.cell? ⟨w.heap.size,1,none⟩=some (.int .i64 am)∧w'.cell? ⟨w.heap.size,2,none⟩=some (.int .i64 ab)∧w'.cell? ⟨w.heap.size,3,none⟩=some (.int .i64 cm)∧w'.cell? ⟨w.heap.size,4,none⟩=some (.int .i64 cb)∧w'.cell? ⟨w.heap.size,5,none⟩=some (.slice da dn dc))) (by kernel_rfl) HS0.out.2 (fun hHeld=>?_)
 refine tk 0 (v:=?a1) (fun w' h=>?b1) ?_
 case b1=>(try dsimp only at h);go_simp;try rfl
 (try simp only [Act.put,s1,s2,s3])
 refine tk 1 (v:=?a2) (fun w' h=>?b2) ?_
 case b2=>(try dsimp only at h);go_simp;try rfl
 (try simp only [Act.put,s1,s2,s3])
 refine tk 2 (v:=?a3) (fun w' h=>?b3) ?_
 case b3=>(try dsimp only at h);go_simp;try rfl
 (try simp only [Act.put,s1,s2,s3])
 refine tk 3 (v:=?a4) (fun w' h=>?b4) ?_
 case b4=>(try dsimp only at h);go_simp;try rfl
 (try simp only [Act.put,s1,s2,s3])
 refine tk 4 (v:=?a5) (fun w' h=>?b5) ?_
 case b5=>(try dsimp only at h);go_simp;try rfl
 (try simp only [Act.put,s1,s2,s3])
 refine tk 6 (v:=?a6) (fun w' h=>?b6) ?_
 case b6=>(try dsimp only at h);go_simp;try rfl
 (try simp only [Act.put,s1,s2,s3])
 refine tk 7 (v:=?a7) (fun w' h=>?b7) ?_
 case b7=>(try dsimp only at h);go_simp;try rfl
 (try simp only [Act.put,s1,s2,s3])
 refine tk 8 (v:=?a8) (fun w' h=>?b8) ?_
 case b8=>(try dsimp only at h);go_simp;try rfl
 (try simp only [Act.put,s1,s2,s3])
 refine tk 10 (v:=?a9) (fun w' h=>?b9) ?_
 case b9=>(try dsimp only at h);go_simp;try rfl
 (try simp only [Act.put,s1,s2,s3])
 refine tk 11 (v:=?a10) (fun w' h=>?b10) ?_
 case b10=>(try dsimp only at h);go_simp;try rfl
 (try simp only [Act.put,s1,s2,s3])
 refine tk 12 (v:=?a11) (fun w' h=>?b11) ?_
 case b11=>(try dsimp only at h);go_simp;try rfl
 (try simp only [Act.put,s1,s2,s3])
 refine tk 14 (v:=?a12) (fun w' h=>?b12) ?_
 case b12=>(try dsimp only at h);go_simp;try rfl
 (try simp only [Act.put,s1,s2,s3])
 refine tk 15 (v:=?a13) (fun w' h=>?b13) ?_
 case b13=>(try dsimp only at h);go_simp;try rfl
 (try simp only [Act.put,s1,s2,s3])
 refine tk 16 (v:=?a14) (fun w' h=>?b14) ?_
 case b14=>(try dsimp only at h);go_simp;try rfl
 (try simp only [Act.put,s1,s2,s3])
 refine tk 18 (v:=?a15) (fun w' h=>?b15) ?_
 case b15=>(try dsimp only at h);go_simp;try rfl
 (try simp only [Act.put,s1,s2,s3])
 refine tk 19 (v:=?a16) (fun w' h=>?b16) ?_
 case b16=>(try dsimp only at h);go_simp;try rfl
 (try simp only [Act.put,s1,s2,s3])
 refine wpAnyH_ready (rs:=[5]) (by kernel_rfl) (by simp) (AllReadyH.cons rfl (fun K hK=>?_) AllReadyH.nil)
 go_simp
 go_wp2_with fail
 refine (itoaV am _ k1.1 (by omega) (HT.out.below HB0.out)).mono ?_
 rintro e V1 ⟨rfl,hb⟩
 have HBV1:=hZz (HB0.out.trans (hb.mono HB0.out.size))
 have HSV1:=hZz (show w.heap.size<V1.heap.size∧(fun w'=>w'.cell? ⟨w.heap.size,0,none⟩=some (.string nm)∧w'.cell? ⟨w.heap.size,1,none⟩=some (.int .i64 am)∧w'.cell? ⟨w.heap.size,2,none⟩=some (.int .i64 ab)∧w'.cell? ⟨w.heap.size,3,none⟩=some (.int .i64 cm)∧w'.cell? ⟨w.heap.size,4,none⟩=some (.int .i64 cb)∧w'.cell? ⟨w.heap.size,5,none⟩=some (.slice da dn dc)) V1 from ⟨Nat.lt_of_lt_of_le HS0.out.1 hb.size,(hb.cell (p:=⟨w.heap.size,0,none⟩) HS0.out.1).trans HS0.out.2.1,(hb.cell (p:=⟨w.heap.size,1,none⟩) HS0.out.1).trans HS0.out.2.2.1,(hb.cell (p:=⟨w.heap.size,2,none⟩) HS0.out.1).trans HS0.out.2.2.2.1,(hb.cell (p:=⟨w.heap.size,3,none⟩) HS0.out.1).trans HS0.out.2.2.2.2.1,(hb.cell (p:=⟨w.heap.size,4,none⟩) HS0.out.1).trans HS0.out.2.2.2.2.2.1,(hb.cell (p:=⟨w.heap.size,5,none⟩) HS0.out.1).trans HS0.out.2.2.2.2.2.2⟩)
 
 clear hb
 go_wp2_with fail
 refine hK.out _ _ HSV1.out.2 (fun hHeld=>?_)
 clear hK K
 refine wpAnyH_ready (rs:=[9]) (by kernel_rfl) (by simp) (AllReadyH.cons rfl (fun K hK=>?_) AllReadyH.nil)
 go_simp
 go_wp2_with fail
 refine (itoaV ab _ k2.1 (by omega) (HT.out.below HBV1.out)).mono ?_
 rintro e V2 ⟨rfl,hb⟩
 have HBV2:=hZz (HBV1.out.trans (hb.mono HBV1.out.size))
 have HSV2:=hZz (show w.heap.size<V2.heap.size∧(fun w'=>w'.cell? ⟨w.heap.size,0,none⟩=some (.string nm)∧w'.cell? ⟨w.heap.size,1,none⟩=some (.int .i64 am)∧w'.cell? ⟨w.heap.size,2,none⟩=some (.int .i64 ab)∧w'.cell? ⟨w.heap.size,3,none⟩=some (.int .i64 cm)∧w'.cell? ⟨w.heap.size,4,none⟩=some (.int .i64 cb)∧w'.cell? ⟨w.heap.size,5,none⟩=some (.slice da dn dc)) V2 from ⟨Nat.lt_of_lt_of_le HSV1.out.1 hb.size,(hb.cell (p:=⟨w.heap.size,0,none⟩) HSV1.out.1).trans HSV1.out.2.1,(hb.cell (p:=⟨w.heap.size,1,none⟩) HSV1.out.1).trans HSV1.out.2.2.1,(hb.cell (p:=⟨w.heap.size,2,none⟩) HSV1.out.1).trans HSV1.out.2.2.2.1,(hb.cell (p:=⟨w.heap.size,3,none⟩) HSV1.out.1).trans HSV1.out.2.2.2.2.1,(hb.cell (p:=⟨w.heap.size,4,none⟩) HSV1.out.1).trans HSV1.out.2.2.2.2.2.1,(hb.cell (p:=⟨w.heap.size,5,none⟩) HSV1.out.1).trans HSV1.out.2.2.2.2.2.2⟩)
 
 clear hb
 go_wp2_with fail
 refine hK.out _ _ HSV2.out.2 (fun hHeld=>?_)
 clear hK K
 refine wpAnyH_ready (rs:=[13]) (by kernel_rfl) (by simp) (AllReadyH.cons rfl (fun K hK=>?_) AllReadyH.nil)
 go_simp
 go_wp2_with fail
 refine (itoaV cm _ k3.1 (by omega) (HT.out.below HBV2.out)).mono ?_
 rintro e V3 ⟨rfl,hb⟩
 have HBV3:=hZz (HBV2.out.trans (hb.mono HBV2.out.size))
 have HSV3:=hZz (show w.heap.size<V3.heap.size∧(fun w'=>w'.cell? ⟨w.heap.size,0,none⟩=some (.string nm)∧w'.cell? ⟨w.heap.size,1,none⟩=some (.int .i64 am)∧w'.cell? ⟨w.heap.size,2,none⟩=some (.int .i64 ab)∧w'.cell? ⟨w.heap.size,3,none⟩=some (.int .i64 cm)∧w'.cell? ⟨w.heap.size,4,none⟩=some (.int .i64 cb)∧w'.cell? ⟨w.heap.size,5,none⟩=some (.slice da dn dc)) V3 from ⟨Nat.lt_of_lt_of_le HSV2.out.1 hb.size,(hb.cell (p:=⟨w.heap.size,0,none⟩) HSV2.out.1).trans HSV2.out.2.1,(hb.cell (p:=⟨w.heap.size,1,none⟩) HSV2.out.1).trans HSV2.out.2.2.1,(hb.cell (p:=⟨w.heap.size,2,none⟩) HSV2.out.1).trans HSV2.out.2.2.2.1,(hb.cell (p:=⟨w.heap.size,3,none⟩) HSV2.out.1).trans HSV2.out.2.2.2.2.1,(hb.cell (p:=⟨w.heap.size,4,none⟩) HSV2.out.1).trans HSV2.out.2.2.2.2.2.1,(hb.cell (p:=⟨w.heap.size,5,none⟩) HSV2.out.1).trans HSV2.out.2.2.2.2.2.2⟩)
 
 clear hb
 go_wp2_with fail
 refine hK.out _ _ HSV3.out.2 (fun hHeld=>?_)
 clear hK K
 refine wpAnyH_ready (rs:=[17]) (by kernel_rfl) (by simp) (AllReadyH.cons rfl (fun K hK=>?_) AllReadyH.nil)
 go_simp
 go_wp2_with fail
 refine (itoaV cb _ k4.1 (by omega) (HT.out.below HBV3.out)).mono ?_
 rintro e V4 ⟨rfl,hb⟩
 have HBV4:=hZz (HBV3.out.trans (hb.mono HBV3.out.size))
 have HSV4:=hZz (show w.heap.size<V4.heap.size∧(fun w'=>w'.cell? ⟨w.heap.size,0,none⟩=some (.string nm)∧w'.cell? ⟨w.heap.size,1,none⟩=some (.int .i64 am)∧w'.cell? ⟨w.heap.size,2,none⟩=some (.int .i64 ab)∧w'.cell? ⟨w.heap.size,3,none⟩=some (.int .i64 cm)∧w'.cell? ⟨w.heap.size,4,none⟩=some (.int .i64 cb)∧w'.cell? ⟨w.heap.size,5,none⟩=some (.slice da dn dc)) V4 from ⟨Nat.lt_of_lt_of_le HSV3.out.1 hb.size,(hb.cell (p:=⟨w.heap.size,0,none⟩) HSV3.out.1).trans HSV3.out.2.1,(hb.cell (p:=⟨w.heap.size,1,none⟩) HSV3.out.1).trans HSV3.out.2.2.1,(hb.cell (p:=⟨w.heap.size,2,none⟩) HSV3.out.1).trans HSV3.out.2.2.2.1,(hb.cell (p:=⟨w.heap.size,3,none⟩) HSV3.out.1).trans HSV3.out.2.2.2.2.1,(hb.cell (p:=⟨w.heap.size,4,none⟩) HSV3.out.1).trans HSV3.out.2.2.2.2.2.1,(hb.cell (p:=⟨w.heap.size,5,none⟩) HSV3.out.1).trans HSV3.out.2.2.2.2.2.2⟩)
 
 clear hb
 go_wp2_with fail
 refine hK.out _ _ HSV4.out.2 (fun hHeld=>?_)
 clear hK K
 refine wpAnyH_ready (rs:=[20]) (by kernel_rfl) (by simp) (AllReadyH.cons rfl (fun K hK=>?_) AllReadyH.nil)
 go_simp
 go_wp2_with fail
 refine (HD.out _ HBV4.out).mono ?_
 rintro e V5 ⟨rfl,hb⟩
 have HBV5:=hZz (HBV4.out.trans (hb.mono HBV4.out.size))
 have HSV5:=hZz (show w.heap.size<V5.heap.size∧(fun w'=>w'.cell? ⟨w.heap.size,0,none⟩=some (.string nm)∧w'.cell? ⟨w.heap.size,1,none⟩=some (.int .i64 am)∧w'.cell? ⟨w.heap.size,2,none⟩=some (.int .i64 ab)∧w'.cell? ⟨w.heap.size,3,none⟩=some (.int .i64 cm)∧w'.cell? ⟨w.heap.size,4,none⟩=some (.int .i64 cb)∧w'.cell? ⟨w.heap.size,5,none⟩=some (.slice da dn dc)) V5 from ⟨Nat.lt_of_lt_of_le HSV4.out.1 hb.size,(hb.cell (p:=⟨w.heap.size,0,none⟩) HSV4.out.1).trans HSV4.out.2.1,(hb.cell (p:=⟨w.heap.size,1,none⟩) HSV4.out.1).trans HSV4.out.2.2.1,(hb.cell (p:=⟨w.heap.size,2,none⟩) HSV4.out.1).trans HSV4.out.2.2.2.1,(hb.cell (p:=⟨w.heap.size,3,none⟩) HSV4.out.1).trans HSV4.out.2.2.2.2.1,(hb.cell (p:=⟨w.heap.size,4,none⟩) HSV4.out.1).trans HSV4.out.2.2.2.2.2.1,(hb.cell (p:=⟨w.heap.size,5,none⟩) HSV4.out.1).trans HSV4.out.2.2.2.2.2.2⟩)
 
 clear hb
 go_wp2_with fail
 refine hK.out _ _ HSV5.out.2 (fun hHeld=>?_)
 clear hK K
 refine wpAnyH_ready (rs:=[21]) (by kernel_rfl) (by simp) (AllReadyH.cons rfl (fun K hK=>?_) AllReadyH.nil)
 go_simp
 go_wp2_with fail
 have HBV6:=hZz (HBV5.out.alloc HBV5.out.size (.cells #[.string ⟨#[99,111,110,116]⟩,.string nm,.string ⟨(Sv.dec am).toArray⟩,.string ⟨(Sv.dec ab).toArray⟩,.string ⟨(Sv.dec cm).toArray⟩,.string ⟨(Sv.dec cb).toArray⟩,.string ⟨D.toArray⟩] 9))
 have HSV6:=hZz (show w.heap.size<(V5.alloc (.cells #[.string ⟨#[99,111,110,116]⟩,.string nm,.string ⟨(Sv.dec am).toArray⟩,.string ⟨(Sv.dec ab).toArray⟩,.string ⟨(Sv.dec cm).toArray⟩,.string ⟨(Sv.dec cb).toArray⟩,.string ⟨D.toArray⟩] 9)).heap.size∧(fun w'=>w'.cell? ⟨w.heap.size,0,none⟩=some (.string nm)∧w'.cell? ⟨w.heap.size,1,none⟩=some (.int .i64 am)∧w'.cell? ⟨w.heap.size,2,none⟩=some (.int .i64 ab)∧w'.cell? ⟨w.heap.size,3,none⟩=some (.int .i64 cm)∧w'.cell? ⟨w.heap.size,4,none⟩=some (.int .i64 cb)∧w'.cell? ⟨w.heap.size,5,none⟩=some (.slice da dn dc)) (V5.alloc (.cells #[.string ⟨#[99,111,110,116]⟩,.string nm,.string ⟨(Sv.dec am).toArray⟩,.string ⟨(Sv.dec ab).toArray⟩,.string ⟨(Sv.dec cm).toArray⟩,.string ⟨(Sv.dec cb).toArray⟩,.string ⟨D.toArray⟩] 9)) from ⟨Nat.lt_of_lt_of_le HSV5.out.1 (by simp),cell_allocV HSV5.out.2.1 (.cells #[.string ⟨#[99,111,110,116]⟩,.string nm,.string ⟨(Sv.dec am).toArray⟩,.string ⟨(Sv.dec ab).toArray⟩,.string ⟨(Sv.dec cm).toArray⟩,.string ⟨(Sv.dec cb).toArray⟩,.string ⟨D.toArray⟩] 9),cell_allocV HSV5.out.2.2.1 (.cells #[.string ⟨#[99,111,110,116]⟩,.string nm,.string ⟨(Sv.dec am).toArray⟩,.string ⟨(Sv.dec ab).toArray⟩,.string ⟨(Sv.dec cm).toArray⟩,.string ⟨(Sv.dec cb).toArray⟩,.string ⟨D.toArray⟩] 9),cell_allocV HSV5.out.2.2.2.1 (.cells #[.string ⟨#[99,111,110,116]⟩,.string nm,.string ⟨(Sv.dec am).toArray⟩,.string ⟨(Sv.dec ab).toArray⟩,.string ⟨(Sv.dec cm).toArray⟩,.string ⟨(Sv.dec cb).toArray⟩,.string ⟨D.toArray⟩] 9),cell_allocV HSV5.out.2.2.2.2.1 (.cells #[.string ⟨#[99,111,110,116]⟩,.string nm,.string ⟨(Sv.dec am).toArray⟩,.string ⟨(Sv.dec ab).toArray⟩,.string ⟨(Sv.dec cm).toArray⟩,.string ⟨(Sv.dec cb).toArray⟩,.string ⟨D.toArray⟩] 9),cell_allocV HSV5.out.2.2.2.2.2.1 (.cells #[.string ⟨#[99,111,110,116]⟩,.string nm,.string ⟨(Sv.dec am).toArray⟩,.string ⟨(Sv.dec ab).toArray⟩,.string ⟨(Sv.dec cm).toArray⟩,.string ⟨(Sv.dec cb).toArray⟩,.string ⟨D.toArray⟩] 9),cell_allocV HSV5.out.2.2.2.2.2.2 (.cells #[.string ⟨#[99,111,110,116]⟩,.string nm,.string ⟨(Sv.dec am).toArray⟩,.string ⟨(Sv.dec ab).toArray⟩,.string ⟨(Sv.dec cm).toArray⟩,.string ⟨(Sv.dec cb).toArray⟩,.string ⟨D.toArray⟩] 9)⟩)
 refine hK.out _ _ HSV6.out.2 (fun hHeld=>?_)
 clear hK K
 refine tk 22 (v:=?a17) (fun w' h=>?b17) ?_
 case b17=>(try dsimp only at h);go_simp;try rfl
 (try simp only [Act.put,s1,s2,s3])
 refine wpAnyH_done (by kernel_rfl) ?_ _
 go_wp2_with fail
 go_ret
 refine ⟨_,rfl,?_,HBV6.out⟩
 rw [HE.out]
 have:=words_made [[99,111,110,116],nm.data.toList,Sv.dec am,Sv.dec ab,Sv.dec cm,Sv.dec cb,D] V5 w.heap.size HBV5.out.size (by simp)
 unfold strs at this
 simp only [List.map_cons,List.map_nil] at this
 exact this
theorem behind_any (hb k:Nat) (gs:List Gv) (gvv:Value) (w:World) (hc:w.cell? ⟨hb,3,none⟩=some gvv) (hg:GivsAt w gvv gs) (hk:k<gs.length) (ho:OkG (gv gs k)) (ht:TabUp w) :
  Calls Tryz.prog 110 #[.int .i64 k,.pointer (some ⟨hb,0,none⟩)] w fun e w'=>∃ v,e=.returned v∧WordsAt w.heap.size w' v (givenWs (gv gs k))∧Below w.heap.size w w':=by
 obtain ⟨ao,c,rfl,hm,hr⟩:=hg
 obtain ⟨b,o,dv,rfl,hin⟩:=hr (by omega)
 obtain ⟨c0,c1⟩:=hin.at hk
 have HW:=hZz (givenWords_any (gv gs k) (dv k) w (hin.2 k hk).2 ho ht)
 obtain ⟨da,dc,hd⟩:=(hin.2 k hk).2.slice
 unfold maxLen at hm
 clear hin ho ht hr
 generalize givenWs (gv gs k)=GW at *
 generalize (gv gs k).cp=cp at *
 generalize (gv gs k).dv.length=dn at *
 generalize dv k=d at *
 subst hd
 go_enter Tryz.func110,Tryz.ntmps110
 go_wp2_with fail
 refine HW.out.mono ?_
 rintro e w1 ⟨v,rfl,hw,hb1⟩
 go_wp2_with fail
 go_ret
 exact ⟨v,rfl,hw,hb1⟩
theorem words_app {base:Nat} {w:World} {v:Value} {a b:List (List UInt8)} (h:w.ownsRow base 9 1 v (a.length+b.length) (strs a++strs b)):WordsAt base w v (a++b):=by
 unfold WordsAt
 rw [List.length_append,show strs (a++b)=strs a++strs b by simp [strs]]
 exact h
theorem cont_len (c:Ct) (g:Gv):(contWs c++givenWs g).length=9:=rfl
theorem podText_any (h:Hd) (cv gvv:Value) (hb:Nat) (w:World) (hc:ConsAt w cv h.pod.cs) (hcell:w.cell? ⟨hb,3,none⟩=some gvv) (hg:GivsAt w gvv h.gs) (ho:OkH h) (ht:TabUp w) :
  Calls Tryz.prog 109 #[podV h.pod cv,.func (.func 110) #[] #[.pointer (some ⟨hb,0,none⟩)]] w fun e w'=>e=.returned (.string ⟨(podTxt h).toArray⟩)∧Below w.heap.size w w':=by
 obtain ⟨i0,hi,hz0,hz1,hz2⟩:=info_parts infoStr
 have HBH:=hZz (fun k (hk:k<h.gs.length) W (hbw:Below w.heap.size w W)=>behind_any hb k h.gs gvv W ((hbw.cell (p:=⟨hb,3,none⟩) (World.block_lt_of_cell? w _ hcell)).trans hcell) (hg.below hbw) hk (ho.2.2 _ (Sv.mem_gv hk)) (ht.below hbw))
 have HCW:=hZz (fun k (hk:k<h.pod.cs.length) d W (hd:NeedsAt W d (ct h.pod.cs k).ds) (hbw:Below w.heap.size w W)=>contWords_any (ct h.pod.cs k) d W hd (ho.1.2.2.2 _ (Sv.mem_ct hk)) (ht.below hbw))
 have HO:=hZz ho
 have HT:=hZz ht
 obtain ⟨ao,c,rfl,hm,hr⟩:=hc
 have HR:=hZz hr
 clear hr ht hg hcell ho
 unfold maxLen at hm
 unfold podV
 have hl3:=HO.out.1.2.2.1
 have hgl:=HO.out.2.1
 have HB0:=hZz (below_drewV (((Below.refl w.heap.size w).alloc (Nat.le_refl _) (.cells #[.string h.pod.nm,.int .i64 h.pod.pr,.slice ao h.pod.cs.length c] 31)).alloc (by simp) (.cells #[.pointer none,.slice none 0 0] 196)))
 have HBE0:=hZz ((built_new (w.alloc (.cells #[.string h.pod.nm,.int .i64 h.pod.pr,.slice ao h.pod.cs.length c] 31))).below (below_drewV (Below.refl _ _)))
 have HN:Hid (ByteArray.mk h.pod.nm.data.toList.toArray=h.pod.nm):=by unfold Hid;simp
 have hpr:=HO.out.1.2.1
 go_enter Tryz.func109,Tryz.ntmps109
 go_wp2_with fail
 have HS0:=hZz (show w.heap.size<((w.alloc (.cells #[.string h.pod.nm,.int .i64 h.pod.pr,.slice ao h.pod.cs.length c] 31)).alloc (.cells #[.pointer none,.slice none 0 0] 196)).drew.heap.size∧((w.alloc (.cells #[.string h.pod.nm,.int .i64 h.pod.pr,.slice ao h.pod.cs.length c] 31)).alloc (.cells #[.pointer none,.slice none 0 0] 196)).drew.cell? ⟨w.heap.size,0,none⟩=some (.string h.pod.nm)∧((w.alloc (.cells #[.string h.pod.nm,.int .i64 h.pod.pr,.slice ao h.pod.cs.length c] 31)).alloc (.cells #[.pointer none,.slice none 0 0] 196)).drew.cell? ⟨w.heap.size,1,none⟩=some (.int .i64 h.pod.pr)∧((w.alloc (.cells #[.string h.pod.nm,.int .i64 h.pod.pr,.slice ao h.pod.cs.length c] 31)).alloc (.cells #[.pointer none,.slice none 0 0] 196)).drew.cell? ⟨w.heap.size,2,none⟩=some (.slice ao h.pod.cs.length c) from ⟨by simp;omega,by simp,by simp,by simp⟩)
 have HBD0:Hid (BuiltAt (w.heap.size+1) (w.heap.size+1) [] ((w.alloc (.cells #[.string h.pod.nm,.int .i64 h.pod.pr,.slice ao h.pod.cs.length c] 31)).alloc (.cells #[.pointer none,.slice none 0 0] 196)).drew):=by have:=HBE0.out;rw [show (w.alloc (.cells #[.string h.pod.nm,.int .i64 h.pod.pr,.slice ao h.pod.cs.length c] 31)).heap.size=w.heap.size+1 by simp] at this;exact this
 clear HBE0
 have HPW:Hid (podWs h.pod=[[112,111,100],h.pod.nm.data.toList,Sv.dec h.pod.pr]):=rfl
 have hpl:=Sv.podLine_le HO.out.1
 have HPT:Hid (podTxt h=podLine h.pod++contsTo h h.pod.cs.length):=rfl
 have HLN:Hid (∀ v W,WordsAt w.heap.size W v (podWs h.pod)→Calls Tryz.prog 143 #[v] W fun e w'=>e=.returned (.string ⟨(podLine h.pod).toArray⟩)∧Below W.heap.size W w'):=fun v W hw=>line_any v (podWs h.pod) w.heap.size W hw (by simp [podWs]) (fun x hx=>by have:=Sv.podWs_le HO.out.1 x hx;omega)
 generalize podLine h.pod=PL at *
 generalize podWs h.pod=PW at *
 generalize ((w.alloc (.cells #[.string h.pod.nm,.int .i64 h.pod.pr,.slice ao h.pod.cs.length c] 31)).alloc (.cells #[.pointer none,.slice none 0 0] 196))=U0 at *
 generalize h.pod.nm=nm at *
 generalize h.pod.pr=pr at *
 refine wp_region_held_drew (S:=(fun w'=>w'.cell? ⟨w.heap.size,0,none⟩=some (.string nm)∧w'.cell? ⟨w.heap.size,1,none⟩=some (.int .i64 pr)∧w'.cell? ⟨w.heap.size,2,none⟩=some (.slice ao h.pod.cs.length c))) (by kernel_rfl) HS0.out.2 (fun hHeld=>?_)
 refine tk 0 (v:=?a18) (fun w' h=>?b18) ?_
 case b18=>(try dsimp only at h);go_simp;try rfl
 (try simp only [Act.put,s1,s2,s3])
 refine tk 1 (v:=?a19) (fun w' h=>?b19) ?_
 case b19=>(try dsimp only at h);go_simp;try rfl
 (try simp only [Act.put,s1,s2,s3])
 refine tk 2 (v:=?a20) (fun w' h=>?b20) ?_
 case b20=>(try dsimp only at h);go_simp;try rfl
 (try simp only [Act.put,s1,s2,s3])
 refine tk 3 (v:=?a21) (fun w' h=>?b21) ?_
 case b21=>(try dsimp only at h);go_simp;try rfl
 (try simp only [Act.put,s1,s2,s3])
 refine wpAnyH_ready (rs:=[4]) (by kernel_rfl) (by simp) (AllReadyH.cons rfl (fun K hK=>?_) AllReadyH.nil)
 go_simp
 go_wp2_with fail
 refine (itoaV _ _ hpr.1 (by omega) (HT.out.below HB0.out)).mono ?_
 rintro e V1 ⟨rfl,hb⟩
 have HBV1:=hZz (HB0.out.trans (hb.mono HB0.out.size))
 have HSV1:=hZz (show w.heap.size<V1.heap.size∧(fun w'=>w'.cell? ⟨w.heap.size,0,none⟩=some (.string nm)∧w'.cell? ⟨w.heap.size,1,none⟩=some (.int .i64 pr)∧w'.cell? ⟨w.heap.size,2,none⟩=some (.slice ao h.pod.cs.length c)) V1 from ⟨Nat.lt_of_lt_of_le HS0.out.1 hb.size,(hb.cell (p:=⟨w.heap.size,0,none⟩) HS0.out.1).trans HS0.out.2.1,(hb.cell (p:=⟨w.heap.size,1,none⟩) HS0.out.1).trans HS0.out.2.2.1,(hb.cell (p:=⟨w.heap.size,2,none⟩) HS0.out.1).trans HS0.out.2.2.2⟩)
 have HBD1:=hZz (HBD0.out.below hb)
 clear hb
 go_wp2_with fail
 refine hK.out _ _ HSV1.out.2 (fun hHeld=>?_)
 clear hK K
 refine wpAnyH_ready (rs:=[5]) (by kernel_rfl) (by simp) (AllReadyH.cons rfl (fun K hK=>?_) AllReadyH.nil)
 go_simp
 go_wp2_with fail
 have HBV2:=hZz (HBV1.out.alloc HBV1.out.size (.cells #[.string ⟨#[112,111,100]⟩,.string nm,.string ⟨(Sv.dec pr).toArray⟩] 9))
 have HSV2:=hZz (show w.heap.size<(V1.alloc (.cells #[.string ⟨#[112,111,100]⟩,.string nm,.string ⟨(Sv.dec pr).toArray⟩] 9)).heap.size∧(fun w'=>w'.cell? ⟨w.heap.size,0,none⟩=some (.string nm)∧w'.cell? ⟨w.heap.size,1,none⟩=some (.int .i64 pr)∧w'.cell? ⟨w.heap.size,2,none⟩=some (.slice ao h.pod.cs.length c)) (V1.alloc (.cells #[.string ⟨#[112,111,100]⟩,.string nm,.string ⟨(Sv.dec pr).toArray⟩] 9)) from ⟨Nat.lt_of_lt_of_le HSV1.out.1 (by simp),cell_allocV HSV1.out.2.1 (.cells #[.string ⟨#[112,111,100]⟩,.string nm,.string ⟨(Sv.dec pr).toArray⟩] 9),cell_allocV HSV1.out.2.2.1 (.cells #[.string ⟨#[112,111,100]⟩,.string nm,.string ⟨(Sv.dec pr).toArray⟩] 9),cell_allocV HSV1.out.2.2.2 (.cells #[.string ⟨#[112,111,100]⟩,.string nm,.string ⟨(Sv.dec pr).toArray⟩] 9)⟩)
 have HBD2:=hZz (HBD1.out.below ((Below.refl _ _).alloc (Nat.le_refl _) (.cells #[.string ⟨#[112,111,100]⟩,.string nm,.string ⟨(Sv.dec pr).toArray⟩] 9)))
 have HWD:Hid (WordsAt w.heap.size (V1.alloc (.cells #[.string ⟨#[112,111,100]⟩,.string nm,.string ⟨(Sv.dec pr).toArray⟩] 9)) (.slice (some ⟨V1.heap.size,0,none⟩) 3 3) PW):=by unfold Hid;rw [HPW.out];exact words_made [[112,111,100],nm.data.toList,Sv.dec pr] V1 w.heap.size HBV1.out.size (by simp)
 refine hK.out _ _ HSV2.out.2 (fun hHeld=>?_)
 clear hK K
 refine wpAnyH_ready (rs:=[6]) (by kernel_rfl) (by simp) (AllReadyH.cons rfl (fun K hK=>?_) AllReadyH.nil)
 go_simp
 go_wp2_with fail
 refine (HLN.out _ _ HWD.out).mono ?_
 rintro e V3 ⟨rfl,hb⟩
 have HBV3:=hZz (HBV2.out.trans (hb.mono HBV2.out.size))
 have HSV3:=hZz (show w.heap.size<V3.heap.size∧(fun w'=>w'.cell? ⟨w.heap.size,0,none⟩=some (.string nm)∧w'.cell? ⟨w.heap.size,1,none⟩=some (.int .i64 pr)∧w'.cell? ⟨w.heap.size,2,none⟩=some (.slice ao h.pod.cs.length c)) V3 from ⟨Nat.lt_of_lt_of_le HSV2.out.1 hb.size,(hb.cell (p:=⟨w.heap.size,0,none⟩) HSV2.out.1).trans HSV2.out.2.1,(hb.cell (p:=⟨w.heap.size,1,none⟩) HSV2.out.1).trans HSV2.out.2.2.1,(hb.cell (p:=⟨w.heap.size,2,none⟩) HSV2.out.1).trans HSV2.out.2.2.2⟩)
 have HBD3:=hZz (HBD2.out.below hb)
 clear hb
 go_wp2_with fail
 refine hK.out _ _ HSV3.out.2 (fun hHeld=>?_)
 clear hK K
 refine wpAnyH_ready (rs:=[7]) (by kernel_rfl) (by simp) (AllReadyH.cons rfl (fun K hK=>?_) AllReadyH.nil)
 go_simp
 go_wp2_with fail
 refine (write_any _ _ [] PL _ HBD3.out (Nat.le_trans (Nat.le_of_eq (Nat.zero_add _)) (Nat.le_trans hpl (by decide))) (Nat.succ_le_of_lt HSV3.out.1)).mono ?_
 rintro e V4 ⟨rfl,hbu,hbB⟩
 have HBV4:=hZz (HBV3.out.trans (hbB.mono (Nat.le_succ _)))
 have HSV4:=hZz (show w.heap.size<V4.heap.size∧(fun w'=>w'.cell? ⟨w.heap.size,0,none⟩=some (.string nm)∧w'.cell? ⟨w.heap.size,1,none⟩=some (.int .i64 pr)∧w'.cell? ⟨w.heap.size,2,none⟩=some (.slice ao h.pod.cs.length c)) V4 from ⟨Nat.lt_of_lt_of_le HSV3.out.1 hbB.size,(hbB.cell (p:=⟨w.heap.size,0,none⟩) (Nat.lt_succ_self _)).trans HSV3.out.2.1,(hbB.cell (p:=⟨w.heap.size,1,none⟩) (Nat.lt_succ_self _)).trans HSV3.out.2.2.1,(hbB.cell (p:=⟨w.heap.size,2,none⟩) (Nat.lt_succ_self _)).trans HSV3.out.2.2.2⟩)
 have HBD4:=hZz hbu
 clear hbu hbB
 go_wp2_with fail
 refine hK.out _ _ HSV4.out.2 (fun hHeld=>?_)
 clear hK K
 refine wpAnyH_done (by kernel_rfl) ?_ _
 have hc2:=HSV4.out.2.2.2
 have HBT:Hid (BuiltAt (w.heap.size+1) (w.heap.size+1) PL V4):=HBD4.out
 have HB4:=HBV4
 have HZ4:=hZz (Nat.succ_le_of_lt HSV4.out.1)
 clear hHeld HBV1 HSV1 HBD1 HBV2 HSV2 HBD2 HWD HBV3 HSV3 HBD3 HBV4 HSV4 HBD4 HS0 HBD0 HB0 HLN HPW HN hpr
 have HCL:=hZz (Sv.contsTo_le HO.out)
 go_wp2_with fail
 go_loopw [19] (fun i wr=>∃ k:Nat,k≤h.pod.cs.length∧i=.int .i64 k∧Below w.heap.size w wr∧BuiltAt (w.heap.size+1) (w.heap.size+1) (PL++contsTo h k) wr∧Hid (w.heap.size+1≤wr.heap.size)) (fun i _=>h.pod.cs.length - (intOf i).toNat)
 case atStart=>exact ⟨0,Nat.zero_le _,rfl,HB4.out,by rw [contsTo,List.append_nil];exact HBT.out,HZ4⟩
 case round=>
  obtain ⟨k,hk,rfl,hB,hbt,HZ⟩:=hrel
  by_cases hlt:k<h.pod.cs.length
  ·obtain ⟨b,o,dv,rfl,hin⟩:=HR.out (by omega)
   have hin:=hin.below hB
   obtain ⟨c0,c1,c2,c3,c4,c5⟩:=hin.at hlt
   have hNd:=(hin.2 k hlt).2
   have HBX:=hZz ((Below.refl wr.heap.size wr).alloc (Nat.le_refl _) (.cells #[.string (ct h.pod.cs k).nm,.int .i64 (ct h.pod.cs k).am,.int .i64 (ct h.pod.cs k).ab,.int .i64 (ct h.pod.cs k).cm,.int .i64 (ct h.pod.cs k).cb,dv k] 64))
   have HBa:=hZz (hB.trans (HBX.out.mono hB.size))
   have HBTa:=hZz (hbt.below HBX.out)
   have HC:=hZz (HCW.out k hlt (dv k) _ (hNd.below HBX.out) HBa.out)
   have HG:=hZz (fun W (hb:Below w.heap.size w W)=>HBH.out k (by omega) W hb)
   obtain ⟨oc,og⟩:=Sv.okC_at HO.out hlt
   have HLL:Hid (∀ v W base,WordsAt base W v (contWs (ct h.pod.cs k)++givenWs (gv h.gs k))→Calls Tryz.prog 143 #[v] W fun e w'=>e=.returned (.string ⟨(contLine (ct h.pod.cs k) (gv h.gs k)).toArray⟩)∧Below W.heap.size W w'):=fun v W base hw=>line_any v _ base W hw (by rw [cont_len];decide) (fun x hx=>by
    rcases List.mem_append.1 hx with hx|hx
    ·exact Nat.le_trans (Sv.contWs_le oc x hx) (by decide)
    ·exact Sv.givenWs_le og x hx)
   have hll:=Sv.contLine_le oc og
   have hcl:=HCL.out k hk
   have HST:Hid (contsTo h (k+1)=contsTo h k++contLine (ct h.pod.cs k) (gv h.gs k)):=rfl
   have HL1:Hid ((contWs (ct h.pod.cs k)).length=7):=rfl
   have HL2:Hid ((givenWs (gv h.gs k)).length=2):=rfl
   obtain ⟨da,dc,hsl,_⟩:=hNd
   clear hin oc og HCW hbt hB HCL
   generalize contLine (ct h.pod.cs k) (gv h.gs k)=CL at *
   generalize contsTo h k=CT at *
   generalize contWs (ct h.pod.cs k)=CW at *
   generalize givenWs (gv h.gs k)=GW at *
   generalize (ct h.pod.cs k).nm=nm' at *
   generalize (ct h.pod.cs k).am=am at *
   generalize (ct h.pod.cs k).ab=ab at *
   generalize (ct h.pod.cs k).cm=cm at *
   generalize (ct h.pod.cs k).cb=cb at *
   generalize (ct h.pod.cs k).ds.length=dn at *
   generalize dv k=d at *
   subst hsl
   have hwl:(PL++CT).length+CL.length≤1000000:=by rw [List.length_append];omega
   go_wp2_with fail
   refine HC.out.mono ?_
   rintro e W1 ⟨v1,rfl,hw1,hb1⟩
   have HB1:=hZz hb1
   have HR1:=hZz hw1
   have HBw1:=hZz (HBa.out.trans (hb1.mono HBa.out.size))
   clear hb1 hw1
   go_wp2_with fail
   refine (HG.out _ HBw1.out).mono ?_
   rintro e W2 ⟨v2,rfl,hw2,hb2⟩
   have hr2:=HR1.out.below hb2
   have HB2:=hZz (HB1.out.trans (hb2.mono HB1.out.size))
   clear hb2
   obtain ⟨rfl,hx0⟩|⟨g2,cap2,rfl,hcap2,hg2,hcell2⟩:=ownsRow_cells hw2
   ·rw [HL2.out] at hx0;cases hx0
   have hnews:∀ j u,(strs GW)[j]?=some u→W2.cell? ((⟨g2,0,none⟩:Addr).add j)=some u:=fun j u hj=>by rw [Addr.add_lit,Nat.zero_add];exact hcell2 j u hj
   have HBS:=hZz HB2.out.size
   have hn9:CW.length+GW.length≤maxLen:=by rw [HL1.out,HL2.out];decide
   have hn10:(CW.length+GW.length)*16≤140737488355328:=by rw [HL1.out,HL2.out];decide
   go_wp2_with (at_builtin;refine wpList_append_own _ rfl _ _ 110 rfl _ 9 i0 (.string ⟨#[]⟩) 1 16 Tryz.underlying110 hi hz0 hz1 hz2 rfl (by decide) _ _ _ rfl hr2 ⟨g2,0,none⟩ GW.length cap2 (strs GW) rfl (by simp [strs]) hnews (strs_oneCell GW) hn9 hn10 HBS.out ?_;intro v' W3 hown' hgrow' _)
   have HR3:Hid (WordsAt _ W3 v' (CW++GW)):=hZz (words_app hown')
   have HB3:=hZz (HB2.out.grown hgrow' HBS.out (fun j hj=>(World.ownsRow.lt hr2 j hj).1))
   clear hown' hgrow' hr2 hw2 hcell2 hnews
   go_wp2_with fail
   refine (HLL.out _ _ _ HR3.out).mono ?_
   rintro e W4 ⟨rfl,hb4⟩
   have HB4b:=hZz (HB3.out.trans (hb4.mono HB3.out.size))
   have HBT4:=hZz (HBTa.out.below HB4b.out)
   have HBw4:=hZz (HBa.out.trans (HB4b.out.mono HBa.out.size))
   have hz4:w.heap.size+1≤W4.heap.size:=Nat.le_trans HZ.out (Nat.le_trans HBX.out.size HB4b.out.size)
   clear hb4
   go_wp2_with fail
   refine (write_any _ _ _ _ _ HBT4.out hwl hz4).mono ?_
   rintro e W5 ⟨rfl,hbt5,hb5⟩
   have HB5:=hZz (HBw4.out.trans (hb5.mono (Nat.le_succ _)))
   have HZ5:=hZz (Nat.le_trans hz4 hb5.size)
   have HBT5:=hZz hbt5
   clear hbt5 hb5
   go_wp2_with fail
   go_roundw
   case rel=>exact ⟨k+1,by omega,by go_num,HB5.out,by rw [HST.out,← List.append_assoc];exact HBT5.out,HZ5⟩
   case measure=>simp [intOf];omega
  ·have hke:k=h.pod.cs.length:=by omega
   subst hke
   go_wp2_with fail
   refine (string_any _ _ _ _ hbt HZ.out).mono ?_
   rintro e W1 ⟨rfl,hb1⟩
   have hB1:=hB.trans (hb1.mono (Nat.le_succ _))
   go_wp2_with fail
   go_ret
   exact ⟨by rw [HPT.out];rfl,hB1⟩
end
end Go.Proofs.YtbfdcmodflnkfaaGreatDoor
