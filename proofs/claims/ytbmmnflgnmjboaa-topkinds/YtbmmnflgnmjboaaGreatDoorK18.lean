import Derived.Test.YtbmmnflgnmjboaaGreatDoorK10
set_option maxRecDepth 100000
set_option maxHeartbeats 16000000
namespace Go.Proofs.YtbmmnflgnmjboaaGreatDoor
section
open RowKit
open Qos (Nd Ct Pd nd ct pd)
open Sv (Gv Hd gv hd eR gk gK kP dK cY fk fl gL fG dL eS ew body aF cQ OkN OkC OkG OkH OkL OkP)
open S1 (Tab strs jg iI jM ig kv)
def gA (B b:Nat) (l:List UInt8) (w:World):Prop:=Lib.IsBuilderF 237 5 B b (Lib.byteCells l) w
theorem gA.below {B b:Nat} {l:List UInt8} {w w':World} (h:gA B b l w) (hb:Below w.heap.size w w'):gA B b l w':=by
 have key:∀ p,Lib.BuilderAtF 237 5 B b p (Lib.byteCells l) w->Lib.BuilderAtF 237 5 B b p (Lib.byteCells l) w':=by
  rintro p ⟨hB,v,hv,hr,hn⟩;have hlt:b<w.heap.size:=(gS hv).1;refine ⟨hB,v,by rw [hb.block b hlt];exact hv,?_,hn⟩;exact hr.kept (row:=none) ⟨hb.os,hb.tape,hb.output,hb.size,λj hj _=>hb.block j hj⟩ (by cases hv:v.ownBlock <;> simp)
 rcases h with h|h
 ·exact .inl (key _ h)
 ·exact .inr (key _ h)
theorem vD (w:World):gA w.heap.size w.heap.size [] (w.alloc (.cells #[.pointer none,.slice none 0 0] 237)):=Lib.IsBuilderF.of (Lib.fresh_isBuilder _ _ w)
theorem pW (B b:Nat) (l s:List UInt8) (w:World) (h:gA B b l w) (hl:l.length+s.length<=1000000) (hB:B<=w.heap.size) :
  Calls Tryz.prog 133 #[.pointer (some ⟨b,0,none⟩),.string ⟨s.toArray⟩] w λe w'=>e=.returned (.tuple #[.int .i64 s.length,.nilIface])/\gA B b (l++s) w'/\Below B w w':=by
 have hw:=Any.Builder_WriteString_k (P:=Tryz.prog) (ρ:=Tryz.lays156_ren) { Tryz.lays156 with } Tryz.Builder_Extra_156 B b (Lib.byteCells l) ⟨s.toArray⟩ w h (by
  show (Lib.byteCells l).length+s.toArray.size<=_
  simp [Lib.byteCells];omega) hB
 refine hw.mono ?_;rintro e w' ⟨rfl,h1,h2,_⟩;refine ⟨rfl,.inr ?_,h2⟩;have e:Lib.byteCells l++Lib.strCells ⟨s.toArray⟩=Lib.byteCells (l++s):=by simp [Lib.byteCells,Lib.strCells]
 rw [e] at h1;exact h1
theorem vE (B b:Nat) (l:List UInt8) (w:World) (h:gA B b l w) (hB:B<=w.heap.size) :
  Calls Tryz.prog 137 #[.pointer (some ⟨b,0,none⟩)] w λe w'=>e=.returned (.string ⟨l.toArray⟩)/\Below B w w':=by
 refine (Tryz.Builder_String_any_k B b l w h hB).mono ?_;rintro e w' ⟨rfl,_,h2,_⟩;exact ⟨rfl,h2⟩
theorem eT.below {base:Nat} {w w':World} {v:Value} {ws:List (List UInt8)} (h:eT base w v ws) (hb:Below w.heap.size w w'):eT base w' v ws:=oZ h hb
theorem vF (v:Value) (ws:List (List UInt8)) (base:Nat) (w:World) (h:eT base w v ws) (hn:ws.length<=20) (hw:∀ x∈ws,x.length<=400) :
  Calls Tryz.prog 172 #[v] w λe w'=>e=.returned (.string ⟨(fl ws).toArray⟩)/\Below w.heap.size w w':=by
 have hl:(Lib.join ws [32]).length<=8020:=Q5 (Sv.jt 32 400 ws hw) (by omega);have HJ:=qI (o5 32 v ws w base h (by omega) (by omega));have eb:=jX (Lib.join ws [32]) [10];have HE:Hid (fl ws=Lib.join ws [32]++[10]):=rfl;generalize fl ws=L at *;generalize Lib.join ws [32]=J at *;clear h hw
 go_enter Tryz.func172,Tryz.ntmps172
 go_wp2_with fail
 refine HJ.out.mono ?_;rintro e w1 ⟨rfl,hb1⟩
 go_wp2
 go_ret;exact ⟨by rw [HE.out];exact congrArg (λx=>Ending.returned (Value.string x)) eb,hb1⟩
abbrev jF:=λ(w:World) (nm:ByteArray) (am ab cm cb:Int) (da:Option Addr) (dn dc:Nat) (w':World)=>w'.cell? ⟨w.heap.size,0,none⟩=some (.string nm)/\w'.cell? ⟨w.heap.size,1,none⟩=some (.int .i64 am)/\w'.cell? ⟨w.heap.size,2,none⟩=some (.int .i64 ab)/\w'.cell? ⟨w.heap.size,3,none⟩=some (.int .i64 cm)/\w'.cell? ⟨w.heap.size,4,none⟩=some (.int .i64 cb)/\w'.cell? ⟨w.heap.size,5,none⟩=some (.slice da dn dc)
theorem Hs (c:Ct) (dv:Value) (w:World) (hd:bc w dv c.ds) (hc:OkC c) (ht:bE w) :
  Calls Tryz.prog 174 #[.agg #[.string c.nm,.int .i64 c.am,.int .i64 c.ab,.int .i64 c.cm,.int .i64 c.cb,dv]] w λe w'=>∃ v,e=.returned v/\eT w.heap.size w' v (dK c)/\Below w.heap.size w w':=by
 have HT:=qI ht;have HB0:=qI (kW ((Q0 w.heap.size w).alloc (lR) (.cells #[.string c.nm,.int .i64 c.am,.int .i64 c.ab,.int .i64 c.cm,.int .i64 c.cb,dv] 63)));obtain ⟨_,k1,k2,k3,k4,k5,k6⟩:=hc;have HD:=qI (λW (hb:Below w.heap.size w W)=>DB dv c.ds W (hd.below hb) k6 k5 (HT.out.below hb));have HE:Hid (dK c=[[99,111,110,116],c.nm.data.toList,Sv.dec c.am,Sv.dec c.ab,Sv.dec c.cm,Sv.dec c.cb,gk c.ds]):=rfl;have HN:Hid (ByteArray.mk c.nm.data.toList.toArray=c.nm):=by unfold Hid;simp
 obtain ⟨da,dc,rfl,_⟩:=hd;clear ht k6 k5;generalize gk c.ds=D at *;generalize c.ds.length=dn at *;generalize dK c=CW at *;generalize c.nm=nm at *;generalize c.am=am at *;generalize c.ab=ab at *;generalize c.cm=cm at *;generalize c.cb=cb at *
 go_enter Tryz.func174,Tryz.ntmps174
 go_wp2_with fail
 have HS0:=qI (show w.heap.size<(w.alloc (.cells #[.string nm,.int .i64 am,.int .i64 ab,.int .i64 cm,.int .i64 cb,.slice da dn dc] 63)).drew.heap.size/\(w.alloc (.cells #[.string nm,.int .i64 am,.int .i64 ab,.int .i64 cm,.int .i64 cb,.slice da dn dc] 63)).drew.cell? ⟨w.heap.size,0,none⟩=some (.string nm)/\(w.alloc (.cells #[.string nm,.int .i64 am,.int .i64 ab,.int .i64 cm,.int .i64 cb,.slice da dn dc] 63)).drew.cell? ⟨w.heap.size,1,none⟩=some (.int .i64 am)/\(w.alloc (.cells #[.string nm,.int .i64 am,.int .i64 ab,.int .i64 cm,.int .i64 cb,.slice da dn dc] 63)).drew.cell? ⟨w.heap.size,2,none⟩=some (.int .i64 ab)/\(w.alloc (.cells #[.string nm,.int .i64 am,.int .i64 ab,.int .i64 cm,.int .i64 cb,.slice da dn dc] 63)).drew.cell? ⟨w.heap.size,3,none⟩=some (.int .i64 cm)/\(w.alloc (.cells #[.string nm,.int .i64 am,.int .i64 ab,.int .i64 cm,.int .i64 cb,.slice da dn dc] 63)).drew.cell? ⟨w.heap.size,4,none⟩=some (.int .i64 cb)/\(w.alloc (.cells #[.string nm,.int .i64 am,.int .i64 ab,.int .i64 cm,.int .i64 cb,.slice da dn dc] 63)).drew.cell? ⟨w.heap.size,5,none⟩=some (.slice da dn dc) from ⟨by simp,by simp,by simp,by simp,by simp,by simp,by simp⟩);refine wp_region_held_drew (S:=jF w nm am ab cm cb da dn dc) (by kernel_rfl) HS0.out.2 (λhHeld=>?_);refine tk 0 ?_;refine tk 1 ?_;refine tk 2 ?_;refine tk 3 ?_;refine tk 4 ?_;refine tk 6 ?_;refine tk 7 ?_;refine tk 8 ?_;refine tk 10 ?_;refine tk 11 ?_;refine tk 12 ?_;refine tk 14 ?_;refine tk 15 ?_;refine tk 16 ?_;refine tk 18 ?_;refine tk 19 ?_;refine rd 5 (λK hK=>?_);go_simp
 go_wp2_with fail
 refine (jZ am _ k1.1 (by omega) (HT.out.below HB0.out)).mono ?_;rintro e V1 ⟨rfl,hb⟩;have HBV1:=qI (HB0.out.trans (hb.mono HB0.out.size));have HSV1:=qI (show w.heap.size<V1.heap.size/\(jF w nm am ab cm cb da dn dc) V1 from ⟨Q1 HS0.out.1 hb.size,(hb.cell (p:=⟨w.heap.size,0,none⟩) HS0.out.1).trans HS0.out.2.1,(hb.cell (p:=⟨w.heap.size,1,none⟩) HS0.out.1).trans HS0.out.2.2.1,(hb.cell (p:=⟨w.heap.size,2,none⟩) HS0.out.1).trans HS0.out.2.2.2.1,(hb.cell (p:=⟨w.heap.size,3,none⟩) HS0.out.1).trans HS0.out.2.2.2.2.1,(hb.cell (p:=⟨w.heap.size,4,none⟩) HS0.out.1).trans HS0.out.2.2.2.2.2.1,(hb.cell (p:=⟨w.heap.size,5,none⟩) HS0.out.1).trans HS0.out.2.2.2.2.2.2⟩)
 
 clear hb
 go_wp2
 refine hK.out _ _ HSV1.out.2 (λhHeld=>?_);clear hK K;refine rd 9 (λK hK=>?_);go_simp
 go_wp2_with fail
 refine (jZ ab _ k2.1 (by omega) (HT.out.below HBV1.out)).mono ?_;rintro e V2 ⟨rfl,hb⟩;have HBV2:=qI (HBV1.out.trans (hb.mono HBV1.out.size));have HSV2:=qI (show w.heap.size<V2.heap.size/\(jF w nm am ab cm cb da dn dc) V2 from ⟨Q1 HSV1.out.1 hb.size,(hb.cell (p:=⟨w.heap.size,0,none⟩) HSV1.out.1).trans HSV1.out.2.1,(hb.cell (p:=⟨w.heap.size,1,none⟩) HSV1.out.1).trans HSV1.out.2.2.1,(hb.cell (p:=⟨w.heap.size,2,none⟩) HSV1.out.1).trans HSV1.out.2.2.2.1,(hb.cell (p:=⟨w.heap.size,3,none⟩) HSV1.out.1).trans HSV1.out.2.2.2.2.1,(hb.cell (p:=⟨w.heap.size,4,none⟩) HSV1.out.1).trans HSV1.out.2.2.2.2.2.1,(hb.cell (p:=⟨w.heap.size,5,none⟩) HSV1.out.1).trans HSV1.out.2.2.2.2.2.2⟩)
 
 clear hb
 go_wp2
 refine hK.out _ _ HSV2.out.2 (λhHeld=>?_);clear hK K;refine rd 13 (λK hK=>?_);go_simp
 go_wp2_with fail
 refine (jZ cm _ k3.1 (by omega) (HT.out.below HBV2.out)).mono ?_;rintro e V3 ⟨rfl,hb⟩;have HBV3:=qI (HBV2.out.trans (hb.mono HBV2.out.size));have HSV3:=qI (show w.heap.size<V3.heap.size/\(jF w nm am ab cm cb da dn dc) V3 from ⟨Q1 HSV2.out.1 hb.size,(hb.cell (p:=⟨w.heap.size,0,none⟩) HSV2.out.1).trans HSV2.out.2.1,(hb.cell (p:=⟨w.heap.size,1,none⟩) HSV2.out.1).trans HSV2.out.2.2.1,(hb.cell (p:=⟨w.heap.size,2,none⟩) HSV2.out.1).trans HSV2.out.2.2.2.1,(hb.cell (p:=⟨w.heap.size,3,none⟩) HSV2.out.1).trans HSV2.out.2.2.2.2.1,(hb.cell (p:=⟨w.heap.size,4,none⟩) HSV2.out.1).trans HSV2.out.2.2.2.2.2.1,(hb.cell (p:=⟨w.heap.size,5,none⟩) HSV2.out.1).trans HSV2.out.2.2.2.2.2.2⟩)
 
 clear hb
 go_wp2
 refine hK.out _ _ HSV3.out.2 (λhHeld=>?_);clear hK K;refine rd 17 (λK hK=>?_);go_simp
 go_wp2_with fail
 refine (jZ cb _ k4.1 (by omega) (HT.out.below HBV3.out)).mono ?_;rintro e V4 ⟨rfl,hb⟩;have HBV4:=qI (HBV3.out.trans (hb.mono HBV3.out.size));have HSV4:=qI (show w.heap.size<V4.heap.size/\(jF w nm am ab cm cb da dn dc) V4 from ⟨Q1 HSV3.out.1 hb.size,(hb.cell (p:=⟨w.heap.size,0,none⟩) HSV3.out.1).trans HSV3.out.2.1,(hb.cell (p:=⟨w.heap.size,1,none⟩) HSV3.out.1).trans HSV3.out.2.2.1,(hb.cell (p:=⟨w.heap.size,2,none⟩) HSV3.out.1).trans HSV3.out.2.2.2.1,(hb.cell (p:=⟨w.heap.size,3,none⟩) HSV3.out.1).trans HSV3.out.2.2.2.2.1,(hb.cell (p:=⟨w.heap.size,4,none⟩) HSV3.out.1).trans HSV3.out.2.2.2.2.2.1,(hb.cell (p:=⟨w.heap.size,5,none⟩) HSV3.out.1).trans HSV3.out.2.2.2.2.2.2⟩)
 
 clear hb
 go_wp2
 refine hK.out _ _ HSV4.out.2 (λhHeld=>?_);clear hK K;refine rd 20 (λK hK=>?_);go_simp
 go_wp2_with fail
 refine (HD.out _ HBV4.out).mono ?_;rintro e V5 ⟨rfl,hb⟩;have HBV5:=qI (HBV4.out.trans (hb.mono HBV4.out.size));have HSV5:=qI (show w.heap.size<V5.heap.size/\(jF w nm am ab cm cb da dn dc) V5 from ⟨Q1 HSV4.out.1 hb.size,(hb.cell (p:=⟨w.heap.size,0,none⟩) HSV4.out.1).trans HSV4.out.2.1,(hb.cell (p:=⟨w.heap.size,1,none⟩) HSV4.out.1).trans HSV4.out.2.2.1,(hb.cell (p:=⟨w.heap.size,2,none⟩) HSV4.out.1).trans HSV4.out.2.2.2.1,(hb.cell (p:=⟨w.heap.size,3,none⟩) HSV4.out.1).trans HSV4.out.2.2.2.2.1,(hb.cell (p:=⟨w.heap.size,4,none⟩) HSV4.out.1).trans HSV4.out.2.2.2.2.2.1,(hb.cell (p:=⟨w.heap.size,5,none⟩) HSV4.out.1).trans HSV4.out.2.2.2.2.2.2⟩)
 
 clear hb
 go_wp2
 refine hK.out _ _ HSV5.out.2 (λhHeld=>?_);clear hK K;refine rd 21 (λK hK=>?_);go_simp
 go_wp2_with fail
 have HBV6:=qI (HBV5.out.alloc HBV5.out.size (.cells #[.string ⟨#[99,111,110,116]⟩,.string nm,.string ⟨(Sv.dec am).toArray⟩,.string ⟨(Sv.dec ab).toArray⟩,.string ⟨(Sv.dec cm).toArray⟩,.string ⟨(Sv.dec cb).toArray⟩,.string ⟨D.toArray⟩] 9));have HSV6:=qI (show w.heap.size<(V5.alloc (.cells #[.string ⟨#[99,111,110,116]⟩,.string nm,.string ⟨(Sv.dec am).toArray⟩,.string ⟨(Sv.dec ab).toArray⟩,.string ⟨(Sv.dec cm).toArray⟩,.string ⟨(Sv.dec cb).toArray⟩,.string ⟨D.toArray⟩] 9)).heap.size/\(jF w nm am ab cm cb da dn dc) (V5.alloc (.cells #[.string ⟨#[99,111,110,116]⟩,.string nm,.string ⟨(Sv.dec am).toArray⟩,.string ⟨(Sv.dec ab).toArray⟩,.string ⟨(Sv.dec cm).toArray⟩,.string ⟨(Sv.dec cb).toArray⟩,.string ⟨D.toArray⟩] 9)) from ⟨Q1 HSV5.out.1 (by simp),gq HSV5.out.2.1 (.cells #[.string ⟨#[99,111,110,116]⟩,.string nm,.string ⟨(Sv.dec am).toArray⟩,.string ⟨(Sv.dec ab).toArray⟩,.string ⟨(Sv.dec cm).toArray⟩,.string ⟨(Sv.dec cb).toArray⟩,.string ⟨D.toArray⟩] 9),gq HSV5.out.2.2.1 (.cells #[.string ⟨#[99,111,110,116]⟩,.string nm,.string ⟨(Sv.dec am).toArray⟩,.string ⟨(Sv.dec ab).toArray⟩,.string ⟨(Sv.dec cm).toArray⟩,.string ⟨(Sv.dec cb).toArray⟩,.string ⟨D.toArray⟩] 9),gq HSV5.out.2.2.2.1 (.cells #[.string ⟨#[99,111,110,116]⟩,.string nm,.string ⟨(Sv.dec am).toArray⟩,.string ⟨(Sv.dec ab).toArray⟩,.string ⟨(Sv.dec cm).toArray⟩,.string ⟨(Sv.dec cb).toArray⟩,.string ⟨D.toArray⟩] 9),gq HSV5.out.2.2.2.2.1 (.cells #[.string ⟨#[99,111,110,116]⟩,.string nm,.string ⟨(Sv.dec am).toArray⟩,.string ⟨(Sv.dec ab).toArray⟩,.string ⟨(Sv.dec cm).toArray⟩,.string ⟨(Sv.dec cb).toArray⟩,.string ⟨D.toArray⟩] 9),gq HSV5.out.2.2.2.2.2.1 (.cells #[.string ⟨#[99,111,110,116]⟩,.string nm,.string ⟨(Sv.dec am).toArray⟩,.string ⟨(Sv.dec ab).toArray⟩,.string ⟨(Sv.dec cm).toArray⟩,.string ⟨(Sv.dec cb).toArray⟩,.string ⟨D.toArray⟩] 9),gq HSV5.out.2.2.2.2.2.2 (.cells #[.string ⟨#[99,111,110,116]⟩,.string nm,.string ⟨(Sv.dec am).toArray⟩,.string ⟨(Sv.dec ab).toArray⟩,.string ⟨(Sv.dec cm).toArray⟩,.string ⟨(Sv.dec cb).toArray⟩,.string ⟨D.toArray⟩] 9)⟩);refine hK.out _ _ HSV6.out.2 (λhHeld=>?_);clear hK K;refine tk 22 ?_;refine Qn (by kernel_rfl) ?_ _
 go_wp2
 go_ret;refine ⟨_,rfl,?_,HBV6.out⟩;rw [HE.out]
 have:=pf [[99,111,110,116],nm.data.toList,Sv.dec am,Sv.dec ab,Sv.dec cm,Sv.dec cb,D] V5 w.heap.size HBV5.out.size (by simp)
 unfold strs at this;simp only [Qq,List.map_nil] at this;exact this
theorem Ht (hb k:Nat) (gs:List Gv) (gvv:Value) (w:World) (hc:w.cell? ⟨hb,3,none⟩=some gvv) (hg:bl w gvv gs) (hk:k<gs.length) (ho:OkG (gv gs k)) (ht:bE w) :
  Calls Tryz.prog 135 #[.int .i64 k,.pointer (some ⟨hb,0,none⟩)] w λe w'=>∃ v,e=.returned v/\eT w.heap.size w' v (cY (gv gs k))/\Below w.heap.size w w':=by
 obtain ⟨ao,c,rfl,hm,hr⟩:=hg;obtain ⟨b,o,dv,rfl,hin⟩:=hr (by omega);obtain ⟨c0,c1⟩:=hin.at hk;have HW:=qI (DC (gv gs k) (dv k) w (hin.2 k hk).2 ho ht);obtain ⟨da,dc,hd⟩:=(hin.2 k hk).2.slice;unfold maxLen at hm;clear hin ho ht hr;generalize cY (gv gs k)=GW at *;generalize (gv gs k).cp=cp at *;generalize (gv gs k).dv.length=dn at *;generalize dv k=d at *;subst hd
 go_enter Tryz.func135,Tryz.ntmps135
 go_wp2_with fail
 refine HW.out.mono ?_;rintro e w1 ⟨v,rfl,hw,hb1⟩
 go_wp2
 go_ret;exact ⟨v,rfl,hw,hb1⟩
theorem Hu {base:Nat} {w:World} {v:Value} {a b:List (List UInt8)} (h:w.ownsRow base 9 1 v (a.length+b.length) (strs a++strs b)):eT base w v (a++b):=by
 unfold eT;rw [Q2,show strs (a++b)=strs a++strs b by simp [strs]];exact h
theorem Hv (c:Ct) (g:Gv):(dK c++cY g).length=9:=rfl
abbrev lA:=λ(w:World) (nm:ByteArray) (pr:Int) (ao:Option Addr) (y4 c:Nat) (w':World)=>w'.cell? ⟨w.heap.size,0,none⟩=some (.string nm)/\w'.cell? ⟨w.heap.size,1,none⟩=some (.int .i64 pr)/\w'.cell? ⟨w.heap.size,2,none⟩=some (.slice ao y4 c)
theorem Hw (h:Hd) (cv gvv:Value) (hb:Nat) (w:World) (hc:aE w cv h.pod.cs) (hcell:w.cell? ⟨hb,3,none⟩=some gvv) (hg:bl w gvv h.gs) (ho:OkH h) (ht:bE w) :
  Calls Tryz.prog 134 #[bQ h.pod cv,.func (.func 135) #[] #[.pointer (some ⟨hb,0,none⟩)]] w λe w'=>e=.returned (.string ⟨(eS h).toArray⟩)/\Below w.heap.size w w':=by
 obtain ⟨i0,hi,hz0,hz1,hz2⟩:=info_parts ig;have HBH:=qI (λk (hk:k<h.gs.length) W (hbw:Below w.heap.size w W)=>Ht hb k h.gs gvv W ((hbw.cell (p:=⟨hb,3,none⟩) (Q3 w _ hcell)).trans hcell) (hg.below hbw) hk (ho.2.2 _ (Sv.kR hk)) (ht.below hbw));have HCW:=qI (λk (hk:k<h.pod.cs.length) d W (hd:bc W d (ct h.pod.cs k).ds) (hbw:Below w.heap.size w W)=>Hs (ct h.pod.cs k) d W hd (ho.1.2.2.2 _ (Sv.iU hk)) (ht.below hbw));have HO:=qI ho;have HT:=qI ht;obtain ⟨ao,c,rfl,hm,hr⟩:=hc;have HR:=qI hr;clear hr ht hg hcell ho;unfold maxLen at hm;unfold bQ;have hl3:=HO.out.1.2.2.1;have hgl:=HO.out.2.1;have HB0:=qI (kW (((Q0 w.heap.size w).alloc (lR) (.cells #[.string h.pod.nm,.int .i64 h.pod.pr,.slice ao h.pod.cs.length c] 47)).alloc (by simp) (.cells #[.pointer none,.slice none 0 0] 237)));have HBE0:=qI ((vD (w.alloc (.cells #[.string h.pod.nm,.int .i64 h.pod.pr,.slice ao h.pod.cs.length c] 47))).below (kW (Q0 _ _)));have HN:Hid (ByteArray.mk h.pod.nm.data.toList.toArray=h.pod.nm):=by unfold Hid;simp
 have hpr:=HO.out.1.2.1
 go_enter Tryz.func134,Tryz.ntmps134
 go_wp2_with fail
 have HS0:=qI (show w.heap.size<((w.alloc (.cells #[.string h.pod.nm,.int .i64 h.pod.pr,.slice ao h.pod.cs.length c] 47)).alloc (.cells #[.pointer none,.slice none 0 0] 237)).drew.heap.size/\((w.alloc (.cells #[.string h.pod.nm,.int .i64 h.pod.pr,.slice ao h.pod.cs.length c] 47)).alloc (.cells #[.pointer none,.slice none 0 0] 237)).drew.cell? ⟨w.heap.size,0,none⟩=some (.string h.pod.nm)/\((w.alloc (.cells #[.string h.pod.nm,.int .i64 h.pod.pr,.slice ao h.pod.cs.length c] 47)).alloc (.cells #[.pointer none,.slice none 0 0] 237)).drew.cell? ⟨w.heap.size,1,none⟩=some (.int .i64 h.pod.pr)/\((w.alloc (.cells #[.string h.pod.nm,.int .i64 h.pod.pr,.slice ao h.pod.cs.length c] 47)).alloc (.cells #[.pointer none,.slice none 0 0] 237)).drew.cell? ⟨w.heap.size,2,none⟩=some (.slice ao h.pod.cs.length c) from ⟨by simp;omega,by simp,by simp,by simp⟩);have HBD0:Hid (gA (w.heap.size+1) (w.heap.size+1) [] ((w.alloc (.cells #[.string h.pod.nm,.int .i64 h.pod.pr,.slice ao h.pod.cs.length c] 47)).alloc (.cells #[.pointer none,.slice none 0 0] 237)).drew):=by have:=HBE0.out;rw [show (w.alloc (.cells #[.string h.pod.nm,.int .i64 h.pod.pr,.slice ao h.pod.cs.length c] 47)).heap.size=w.heap.size+1 by simp] at this;exact this
 clear HBE0;have HPW:Hid (fk h.pod=[[112,111,100],h.pod.nm.data.toList,Sv.dec h.pod.pr]):=rfl;have hpl:=Sv.oU HO.out.1;have HPT:Hid (eS h=fG h.pod++dL h h.pod.cs.length):=rfl;have HLN:Hid (∀ v W,eT w.heap.size W v (fk h.pod)->Calls Tryz.prog 172 #[v] W λe w'=>e=.returned (.string ⟨(fG h.pod).toArray⟩)/\Below W.heap.size W w'):=λv W hw=>vF v (fk h.pod) w.heap.size W hw (by simp [fk]) (λx hx=>by have:=Sv.tl HO.out.1 x hx;omega)
 generalize fG h.pod=PL at *;generalize fk h.pod=PW at *;generalize ((w.alloc (.cells #[.string h.pod.nm,.int .i64 h.pod.pr,.slice ao h.pod.cs.length c] 47)).alloc (.cells #[.pointer none,.slice none 0 0] 237))=U0 at *;generalize h.pod.nm=nm at *;generalize h.pod.pr=pr at *;refine wp_region_held_drew (S:=lA w nm pr ao h.pod.cs.length c) (by kernel_rfl) HS0.out.2 (λhHeld=>?_);refine tk 0 ?_;refine tk 1 ?_;refine tk 2 ?_;refine tk 3 ?_;refine rd 4 (λK hK=>?_);go_simp
 go_wp2_with fail
 refine (jZ _ _ hpr.1 (by omega) (HT.out.below HB0.out)).mono ?_;rintro e V1 ⟨rfl,hb⟩;have HBV1:=qI (HB0.out.trans (hb.mono HB0.out.size));have HSV1:=qI (show w.heap.size<V1.heap.size/\(lA w nm pr ao h.pod.cs.length c) V1 from ⟨Q1 HS0.out.1 hb.size,(hb.cell (p:=⟨w.heap.size,0,none⟩) HS0.out.1).trans HS0.out.2.1,(hb.cell (p:=⟨w.heap.size,1,none⟩) HS0.out.1).trans HS0.out.2.2.1,(hb.cell (p:=⟨w.heap.size,2,none⟩) HS0.out.1).trans HS0.out.2.2.2⟩);have HBD1:=qI (HBD0.out.below hb);clear hb
 go_wp2
 refine hK.out _ _ HSV1.out.2 (λhHeld=>?_);clear hK K;refine rd 5 (λK hK=>?_);go_simp
 go_wp2_with fail
 have HBV2:=qI (HBV1.out.alloc HBV1.out.size (.cells #[.string ⟨#[112,111,100]⟩,.string nm,.string ⟨(Sv.dec pr).toArray⟩] 9));have HSV2:=qI (show w.heap.size<(V1.alloc (.cells #[.string ⟨#[112,111,100]⟩,.string nm,.string ⟨(Sv.dec pr).toArray⟩] 9)).heap.size/\(lA w nm pr ao h.pod.cs.length c) (V1.alloc (.cells #[.string ⟨#[112,111,100]⟩,.string nm,.string ⟨(Sv.dec pr).toArray⟩] 9)) from ⟨Q1 HSV1.out.1 (by simp),gq HSV1.out.2.1 (.cells #[.string ⟨#[112,111,100]⟩,.string nm,.string ⟨(Sv.dec pr).toArray⟩] 9),gq HSV1.out.2.2.1 (.cells #[.string ⟨#[112,111,100]⟩,.string nm,.string ⟨(Sv.dec pr).toArray⟩] 9),gq HSV1.out.2.2.2 (.cells #[.string ⟨#[112,111,100]⟩,.string nm,.string ⟨(Sv.dec pr).toArray⟩] 9)⟩);have HBD2:=qI (HBD1.out.below ((Q0 _ _).alloc (lR) (.cells #[.string ⟨#[112,111,100]⟩,.string nm,.string ⟨(Sv.dec pr).toArray⟩] 9)));have HWD:Hid (eT w.heap.size (V1.alloc (.cells #[.string ⟨#[112,111,100]⟩,.string nm,.string ⟨(Sv.dec pr).toArray⟩] 9)) (.slice (some ⟨V1.heap.size,0,none⟩) 3 3) PW):=by unfold Hid;rw [HPW.out];exact pf [[112,111,100],nm.data.toList,Sv.dec pr] V1 w.heap.size HBV1.out.size (by simp)
 refine hK.out _ _ HSV2.out.2 (λhHeld=>?_);clear hK K;refine rd 6 (λK hK=>?_);go_simp
 go_wp2_with fail
 refine (HLN.out _ _ HWD.out).mono ?_;rintro e V3 ⟨rfl,hb⟩;have HBV3:=qI (HBV2.out.trans (hb.mono HBV2.out.size));have HSV3:=qI (show w.heap.size<V3.heap.size/\(lA w nm pr ao h.pod.cs.length c) V3 from ⟨Q1 HSV2.out.1 hb.size,(hb.cell (p:=⟨w.heap.size,0,none⟩) HSV2.out.1).trans HSV2.out.2.1,(hb.cell (p:=⟨w.heap.size,1,none⟩) HSV2.out.1).trans HSV2.out.2.2.1,(hb.cell (p:=⟨w.heap.size,2,none⟩) HSV2.out.1).trans HSV2.out.2.2.2⟩);have HBD3:=qI (HBD2.out.below hb);clear hb
 go_wp2
 refine hK.out _ _ HSV3.out.2 (λhHeld=>?_);clear hK K;refine rd 7 (λK hK=>?_);go_simp
 go_wp2_with fail
 refine (pW _ _ [] PL _ HBD3.out (Q5 (Nat.le_of_eq (Qd _)) (Q5 hpl (by decide))) (Nat.succ_le_of_lt HSV3.out.1)).mono ?_;rintro e V4 ⟨rfl,hbu,hbB⟩;have HBV4:=qI (HBV3.out.trans (hbB.mono (Nat.le_succ _)));have HSV4:=qI (show w.heap.size<V4.heap.size/\(lA w nm pr ao h.pod.cs.length c) V4 from ⟨Q1 HSV3.out.1 hbB.size,(hbB.cell (p:=⟨w.heap.size,0,none⟩) (Nat.lt_succ_self _)).trans HSV3.out.2.1,(hbB.cell (p:=⟨w.heap.size,1,none⟩) (Nat.lt_succ_self _)).trans HSV3.out.2.2.1,(hbB.cell (p:=⟨w.heap.size,2,none⟩) (Nat.lt_succ_self _)).trans HSV3.out.2.2.2⟩);have HBD4:=qI hbu;clear hbu hbB
 go_wp2
 refine hK.out _ _ HSV4.out.2 (λhHeld=>?_);clear hK K;refine Qn (by kernel_rfl) ?_ _;have hc2:=HSV4.out.2.2.2;have HBT:Hid (gA (w.heap.size+1) (w.heap.size+1) PL V4):=HBD4.out;have HB4:=HBV4;have HZ4:=qI (Nat.succ_le_of_lt HSV4.out.1);clear hHeld HBV1 HSV1 HBD1 HBV2 HSV2 HBD2 HWD HBV3 HSV3 HBD3 HBV4 HSV4 HBD4 HS0 HBD0 HB0 HLN HPW HN hpr;have HCL:=qI (Sv.oV HO.out)
 go_wp2
 go_loopw [19] (λi wr=>∃ k:Nat,k<=h.pod.cs.length/\i=.int .i64 k/\Below w.heap.size w wr/\gA (w.heap.size+1) (w.heap.size+1) (PL++dL h k) wr/\Hid (w.heap.size+1<=wr.heap.size)) (λi _=>h.pod.cs.length - (intOf i).toNat)
 case atStart=>exact ⟨0,Nat.zero_le _,rfl,HB4.out,by rw [dL,List.append_nil];exact HBT.out,HZ4⟩
 case round=>
  obtain ⟨k,hk,rfl,hB,hbt,HZ⟩:=hrel
  by_cases hlt:k<h.pod.cs.length
  ·obtain ⟨b,o,dv,rfl,hin⟩:=HR.out (by omega);have hin:=hin.below hB;obtain ⟨c0,c1,c2,c3,c4,c5⟩:=hin.at hlt;have hNd:=(hin.2 k hlt).2;have HBX:=qI ((Q0 wr.heap.size wr).alloc (lR) (.cells #[.string (ct h.pod.cs k).nm,.int .i64 (ct h.pod.cs k).am,.int .i64 (ct h.pod.cs k).ab,.int .i64 (ct h.pod.cs k).cm,.int .i64 (ct h.pod.cs k).cb,dv k] 63));have HBa:=qI (hB.trans (HBX.out.mono hB.size));have HBTa:=qI (hbt.below HBX.out);have HC:=qI (HCW.out k hlt (dv k) _ (hNd.below HBX.out) HBa.out);have HG:=qI (λW (hb:Below w.heap.size w W)=>HBH.out k (by omega) W hb);obtain ⟨oc,og⟩:=Sv.tn HO.out hlt;have HLL:Hid (∀ v W base,eT base W v (dK (ct h.pod.cs k)++cY (gv h.gs k))->Calls Tryz.prog 172 #[v] W λe w'=>e=.returned (.string ⟨(gL (ct h.pod.cs k) (gv h.gs k)).toArray⟩)/\Below W.heap.size W w'):=λv W base hw=>vF v _ base W hw (by rw [Hv];decide) (λx hx=>by
    rcases Qi.1 hx with hx|hx
    ·exact Q5 (Sv.ti oc x hx) (by decide)
    ·exact Sv.tj og x hx)
   have hll:=Sv.tm oc og;have hcl:=HCL.out k hk;have HST:Hid (dL h (k+1)=dL h k++gL (ct h.pod.cs k) (gv h.gs k)):=rfl;have HL1:Hid ((dK (ct h.pod.cs k)).length=7):=rfl;have HL2:Hid ((cY (gv h.gs k)).length=2):=rfl;obtain ⟨da,dc,hsl,_⟩:=hNd;clear hin oc og HCW hbt hB HCL;generalize gL (ct h.pod.cs k) (gv h.gs k)=CL at *;generalize dL h k=CT at *;generalize dK (ct h.pod.cs k)=CW at *;generalize cY (gv h.gs k)=GW at *;generalize (ct h.pod.cs k).nm=nm' at *;generalize (ct h.pod.cs k).am=am at *;generalize (ct h.pod.cs k).ab=ab at *;generalize (ct h.pod.cs k).cm=cm at *;generalize (ct h.pod.cs k).cb=cb at *;generalize (ct h.pod.cs k).ds.length=dn at *;generalize dv k=d at *;subst hsl;have hwl:(PL++CT).length+CL.length<=1000000:=by rw [Q2];omega
   go_wp2_with fail
   refine HC.out.mono ?_;rintro e W1 ⟨v1,rfl,hw1,hb1⟩;have HB1:=qI hb1;have HR1:=qI hw1;have HBw1:=qI (HBa.out.trans (hb1.mono HBa.out.size));clear hb1 hw1
   go_wp2_with fail
   refine (HG.out _ HBw1.out).mono ?_;rintro e W2 ⟨v2,rfl,hw2,hb2⟩;have hr2:=HR1.out.below hb2;have HB2:=qI (HB1.out.trans (hb2.mono HB1.out.size));clear hb2;obtain ⟨rfl,hx0⟩|⟨g2,cap2,rfl,hcap2,hg2,hcell2⟩:=jM hw2
   ·rw [HL2.out] at hx0;cases hx0
   have hnews:∀ j u,(strs GW)[j]?=some u->W2.cell? ((⟨g2,0,none⟩:Addr).add j)=some u:=λj u hj=>by rw [Addr.add_lit,Qd];exact hcell2 j u hj
   have HBS:=qI HB2.out.size;have hn9:CW.length+GW.length<=maxLen:=by rw [HL1.out,HL2.out];decide
   have hn10:(CW.length+GW.length)*16<=140737488355328:=by rw [HL1.out,HL2.out];decide
   go_wp2_with (at_builtin;refine wpList_append_own _ rfl _ _ 78 rfl _ 9 i0 (.string ⟨#[]⟩) 1 16 Tryz.underlying78 hi hz0 hz1 hz2 rfl (by decide) _ _ _ rfl hr2 ⟨g2,0,none⟩ GW.length cap2 (strs GW) rfl (by simp [strs]) hnews (iI GW) hn9 hn10 HBS.out ?_;intro v' W3 hown' hgrow' _)
   have HR3:Hid (eT _ W3 v' (CW++GW)):=qI (Hu hown');have HB3:=qI (HB2.out.grown hgrow' HBS.out (λj hj=>(World.ownsRow.lt hr2 j hj).1));clear hown' hgrow' hr2 hw2 hcell2 hnews
   go_wp2_with fail
   refine (HLL.out _ _ _ HR3.out).mono ?_;rintro e W4 ⟨rfl,hb4⟩;have HB4b:=qI (HB3.out.trans (hb4.mono HB3.out.size));have HBT4:=qI (HBTa.out.below HB4b.out);have HBw4:=qI (HBa.out.trans (HB4b.out.mono HBa.out.size));have hz4:w.heap.size+1<=W4.heap.size:=Q5 HZ.out (Q5 HBX.out.size HB4b.out.size);clear hb4
   go_wp2_with fail
   refine (pW _ _ _ _ _ HBT4.out hwl hz4).mono ?_;rintro e W5 ⟨rfl,hbt5,hb5⟩;have HB5:=qI (HBw4.out.trans (hb5.mono (Nat.le_succ _)));have HZ5:=qI (Q5 hz4 hb5.size);have HBT5:=qI hbt5;clear hbt5 hb5
   go_wp2
   go_roundw
   case rel=>exact ⟨k+1,by omega,by go_num,HB5.out,by rw [HST.out,<- List.append_assoc];exact HBT5.out,HZ5⟩
   case measure=>simp [intOf];omega
  ·have hke:k=h.pod.cs.length:=by omega
   subst hke
   go_wp2_with fail
   refine (vE _ _ _ _ hbt HZ.out).mono ?_;rintro e W1 ⟨rfl,hb1⟩;have hB1:=hB.trans (hb1.mono (Nat.le_succ _))
   go_wp2
   go_ret;exact ⟨by rw [HPT.out];rfl,hB1⟩
end
section
open RowKit
def fM (w:World) (g:Nat) (wr:Bool) (bs:ByteArray):Prop:=g<w.heap.size/\w.cell? ⟨g,0,none⟩=some (.bool wr)/\w.cell? ⟨g,1,none⟩=some (.string bs)
theorem fM.block {w w':World} {g:Nat} {wr:Bool} {bs:ByteArray} (h:fM w g wr bs) (he:w'.heap[g]?=w.heap[g]?):fM w' g wr bs:=by
 obtain ⟨h0,h1,h2⟩:=h;have hlt:g<w'.heap.size:=by
  obtain ⟨hg,_⟩:=gS (he.trans (Array.getElem?_eq_getElem h0));exact hg
 exact ⟨hlt,(World.cell?_of_block (a:=⟨g,0,none⟩) he).trans h1,(World.cell?_of_block (a:=⟨g,1,none⟩) he).trans h2⟩
theorem cC {a b c:World} {B:Nat} (p:a.grownBy b (some B)) (q:b.grownBy c (some B)):a.grownBy c (some B):=
 ⟨q.os.trans p.os,q.tape.trans p.tape,q.output.trans p.output,Q5 p.size q.size,λj hj hne=>(q.block j (Q1 hj p.size) hne).trans (p.block j hj hne)⟩
theorem vG {a b c:World} {B:Nat} (p:a.grownBy b (some B)) (q:Below b.heap.size b c):a.grownBy c (some B):=
 ⟨q.os.trans p.os,q.tape.trans p.tape,q.output.trans p.output,Q5 p.size q.size,λj hj hne=>(q.block j (Q1 hj p.size)).trans (p.block j hj hne)⟩
theorem vI:(Tryz.prog.info? 247).map (λi=>(i.zero,i.size,i.bytes))=some (some (.agg #[.bool false,.string ByteArray.empty]),2,24):=by kernel_rfl
theorem vJ {o:Option TypeInfo} {z:Option Value} {s b:Nat} (h:o.map (λi=>(i.zero,i.size,i.bytes))=some (z,s,b)):∃ i,o=some i/\i.zero=z/\i.size=s/\i.bytes=b:=by
 cases o with
 | none=>cases h
 | some i=>simp at h;exact ⟨i,rfl,h.1,h.2.1,h.2.2⟩
theorem vK (w:World) (wr:Bool) (bs:ByteArray) (t:TypeId):∀ j u,[Value.bool wr,Value.string bs][j]?=some u->(w.alloc (.cells #[.bool wr,.string bs] t)).drew.cell? ((⟨w.heap.size,0,none⟩:Addr).add j)=some u:=by
 intro j u hu;rw [Addr.add_lit,Qd]
 match j,hu with
 | 0,hu=>simp at hu;subst hu;simp
 | 1,hu=>simp at hu;subst hu;simp
theorem mU {w:World} {base:Nat} {v:Value} {wr:Bool} {bs:ByteArray} (h:w.ownsRow base 247 2 v (0+1) ([]++[.bool wr,.string bs])):∃ g cap,v=.slice (some ⟨g,0,none⟩) 1 cap/\(base<=g/\1<=cap)/\fM w g wr bs:=by
 rcases h.2 with ⟨_,h0⟩|⟨g,cap,cur,hv,hb,hg,hcp,hcp2,hcp3,ht⟩
 ·cases h0
 ·have c0:cur[0]?=some (.bool wr):=by
   have:=congrArg (λl=>l[0]?) ht
   simpa using this
  have c1:cur[1]?=some (.string bs):=by
   have:=congrArg (λl=>l[1]?) ht
   simpa using this
  exact ⟨g,cap,hv,⟨hb,by omega⟩,(gS hg).1,by simp [World.cell?,hg,c0],by simp [World.cell?,hg,c1]⟩
theorem vL {w w':World} (h:Below w.drew.heap.size w.drew w'):Below w.heap.size w w':=⟨h.os,h.tape,h.output,h.size,h.block⟩
theorem vM {W:World} {B p q:Nat} {s:Sd} {z0 z1 z2 z3:Value} {a:Act} {ty:TypeId} {pos:String} {after:Array Edge} {guard:Option (Nat × Bool)} {K:Act->World->Prop} {Q:Exit->Act->World->Prop}
  (c0:W.cell? ⟨B,0,none⟩=some z0) (c1:W.cell? ⟨B,1,none⟩=some z1) (c2:W.cell? ⟨B,2,none⟩=some z2) (c3:W.cell? ⟨B,3,none⟩=some z3) (f0:W.frozen? ⟨B,0,none⟩=false) (f1:W.frozen? ⟨B,1,none⟩=false) (f2:W.frozen? ⟨B,2,none⟩=false) (f3:W.frozen? ⟨B,3,none⟩=false)
  (hp:a.tmps[p]?.getD undef=.pointer (some ⟨B,0,none⟩)) (hq:a.tmps[q]?.getD undef=s.agg) (hk:K a (putS W B 0 s)) :
  Oper.wp Tryz.prog { dst:=none,op:=Op.store 143 (Operand.tmp p) (Operand.tmp q),type:=ty,pos:=pos,after:=after,guard:=guard } a W K Q:=by
 unfold putS at hk;unfold Sd.agg at hq;have HK:=qI hk;clear hk;go_simp;exact HK.out
def mW (w w':World) (B:Nat) (n k:Sd) (l:Int) (wr:Bool) (bs:ByteArray):Prop:=∃ g cap,aA w' B n k (.slice (some ⟨g,0,none⟩) 1 cap) l false/\(w.heap.size<=g/\1<=cap)/\fM w' g wr bs
theorem vO (B:Nat) (n k:Sd) (l:Int) (d:Bool) (wr:Bool) (bs:ByteArray) (w:World) (h:aA w B n k (.slice none 0 0) l d) (hl:-9223372036854775808<=l/\l<=9223372036854775807) (h0:bt l d=0) :
  Calls Tryz.prog 139 #[.pointer (some ⟨B,0,none⟩),.agg #[.bool wr,.string bs]] w λe w'=>e=.returned .nilIface/\mW w w' B (Chg.on ⟨wr,bs⟩ n) k (aO l d) wr bs/\w.grownBy w' (some B):=by
 have hlt:=h.lt;have hba:=(Q0 w.heap.size w).alloc (lR) (.cells #[.bool wr,.string bs] 247);have hX0:fM (w.alloc (.cells #[.bool wr,.string bs] 247)) w.heap.size wr bs:=⟨by simp,by simp,by simp⟩;have hD0:=h.block (w':=w.alloc (.cells #[.bool wr,.string bs] 247)) (hba.block B hlt);have HST:=qI (kU B n k _ l d _ hD0 hl);have hF:dM l d=false:=by
  rcases kV l d with ⟨e1,_⟩|⟨_,e2⟩
  ·rw [h0] at e1;cases e1
  ·exact e2
 rw [h0,hF,o9] at HST;have HON:=qI (yl ⟨wr,bs⟩ n);obtain ⟨n',hn'⟩:∃ n',n'=Chg.on ⟨wr,bs⟩ n:=⟨_,rfl⟩;rw [<- hn'] at HON ⊢;unfold Chg.agg at HON;rw [show n.agg=.agg #[.bool n.ft,.string n.fb,.bool n.dt,.string n.db] from rfl] at HON;dsimp only at HON;have hXB:w.heap.size≠B:=by omega
 have HBA:=qI hba;have HX0:=qI hX0;clear h hD0 hn' hF h0 hba hX0
 go_enter Tryz.func139,Tryz.ntmps139
 go_wp2_with fail
 refine HST.out.mono ?_;rintro e w1 ⟨rfl,h1,ho1⟩;have hX1':fM w1 w.heap.size wr bs:=HX0.out.block (ho1.1.block w.heap.size (by simp) (λe=>hXB (Ql e)));have HX1:=qI hX1';have hX1:=hX1'.1;have hB1:=h1.lt;have HG1:=qI (cC ⟨HBA.out.os,HBA.out.tape,HBA.out.output,HBA.out.size,λj hj _=>HBA.out.block j hj⟩ ho1.1);obtain ⟨a0,a1,a2,a3⟩:=h1.now;obtain ⟨_,x0,x1⟩:=hX1';have H1:=qI h1;clear h1 ho1 HST HBA HX0
 as_aux_lemma=>
 go_wp2_with fail
 refine wp_region_held_drew (S:=λ_=>True) (by kernel_rfl) trivial (λhHeld=>?_);refine tk 0 ?_;refine tk 2 ?_;refine tk 3 ?_;refine tk 4 ?_;refine wpAnyH_ready (rs:=[1,5]) (by kernel_rfl) (by simp) (AllReadyH.cons rfl (λK hK=>?_) (AllReadyH.cons rfl (λK hK=>?_) AllReadyH.nil))
 ·go_simp;refine hK.out _ _ trivial (λhHeld=>?_);clear hK K;(try simp only [Act.put,s1,s2,s3]);refine rd 5 (λK hK=>?_);go_simp;refine hK.out _ _ trivial (λhHeld=>?_);clear hK K;(try simp only [Act.put,s1,s2,s3]);refine rd 6 (λK hK=>?_);go_simp
  go_wp2_with fail
  refine (HON.out _).mono ?_;rintro e w5 ⟨rfl,hb5⟩;have hD5:=H1.out.block (w':=w5) (hb5.block B hB1);have HX5:=qI (show fM w5 w.heap.size wr bs from HX1.out.block (hb5.block w.heap.size hX1));have HS5:=qI hb5.size;have HG5:=qI (vG HG1.out (vL hb5))
  go_wp2
  refine hK.out _ _ trivial (λhHeld=>?_);clear hK K;refine tk 7 ?_;refine tk 8 ?_;obtain ⟨s0,s1,s2,s3⟩:=hD5.now;have HD6:=qI (hD5.setNow n');have HX6:=qI (show fM (putS w5 B 0 n') w.heap.size wr bs from HX5.out.block ((cG.refl B w5).putS 0 n' |>.1.block w.heap.size (by have:=HS5.out;have:=hX1;simp at *;omega) (λe=>hXB (Ql e))));have HG6:=qI (show w.grownBy (putS w5 B 0 n') (some B) from cC HG5.out ((cG.refl B w5).putS 0 n').1);have HS6:=qI (show w.heap.size+1<=(putS w5 B 0 n').heap.size from by rw [((cG.refl B w5).putS 0 n').2];have:=HS5.out;have:=hX1;simp at *;omega);refine rd 9 (λK hK=>?_);rw [if_pos (by rfl)];refine vM s0 s1 s2 s3 (hD5.frozen 0) (hD5.frozen 1) (hD5.frozen 2) (hD5.frozen 3) rfl rfl ?_;refine hK.out _ _ trivial (λhHeld=>?_);clear hK K hD5 HX5 HG5 s0 s1 s2 s3 H1 HX1 HG1 hb5 HS5 HON;generalize putS w5 B 0 n'=w6 at *;refine Qn (by kernel_rfl) ?_ _
  as_aux_lemma=>
  obtain ⟨i0,hi,hz0,hz1,hz2⟩:=vJ vI;obtain ⟨x8,_,_⟩:=HD6.out.rest;have HB6:=qI HD6.out.lt;have hb7:=(Q0 w6.heap.size w6).alloc (lR) (.cells #[.bool wr,.string bs] 247);have x8':=(hb7.cell (p:=⟨B,8,none⟩) HB6.out).trans x8;have HXa:=qI (HX6.out.block (hb7.block w.heap.size HX6.out.1));have HA7:=qI (show ∀ j,j<w6.heap.size->(w6.alloc (.cells #[.bool wr,.string bs] 247)).drew.heap[j]?=w6.heap[j]? from λj hj=>hb7.block j hj);have HN7:=qI (show ∀ j u,[Value.bool wr,Value.string bs][j]?=some u->(w6.alloc (.cells #[.bool wr,.string bs] 247)).drew.cell? ((⟨w6.heap.size,0,none⟩:Addr).add j)=some u from vK w6 wr bs _);have HS7:=qI (show w.heap.size<=(w6.alloc (.cells #[.bool wr,.string bs] 247)).drew.heap.size from by have:=HS6.out;simp [World.drew];omega);clear hb7 a0 a1 a2 a3 x0 x1
  go_wp2_with fail
  refine wp_region_held_drew (S:=λw'=>w'.cell? ⟨w.heap.size,0,none⟩=some (.bool wr)/\w'.cell? ⟨w.heap.size,1,none⟩=some (.string bs)) (by kernel_rfl) HX6.out.2 (λhHeld=>?_);refine tk 0 ?_;refine tk 1 ?_;refine tk 2 ?_;refine tk 3 ?_;refine tk 5 ?_;refine wpAnyH_ready (rs:=[4,6]) (by kernel_rfl) (by simp) (AllReadyH.cons rfl (λK hK=>?_) (AllReadyH.cons rfl (λK hK=>?_) AllReadyH.nil))
  ·go_simp;refine hK.out _ _ HX6.out.2 (λhHeld=>?_);clear hK K;(try simp only [Act.put,s1,s2,s3]);refine rd 6 (λK hK=>?_);go_simp;refine hK.out _ _ HXa.out.2 (λhHeld=>?_);clear hK K;(try simp only [Act.put,s1,s2,s3]);refine rd 7 (λK hK=>?_);rw [if_pos (by rfl)]
   refine wp_append_own (o := { dst := some 27, op := Op.call { callee := Callee.builtin Builtin.append, args := #[Operand.tmp 24, Operand.tmp 26], argTypes := #[144, 144] }, type := 144, pos := "disk.go:122", after := #[{ on := 4, ground := Ground.data }, { on := 6, ground := Ground.data }], guard := none }) _ _ _ 144 rfl w.heap.size 247 i0 (.agg #[.bool false, .string ByteArray.empty]) 2 24 Tryz.underlying144 hi hz0 hz1 hz2 rfl (by decide) (.slice none 0 0) 0 [] rfl (Qw _ _ _ _) ⟨w6.heap.size, 0, none⟩ 1 1 [.bool wr, .string bs] rfl rfl HN7.out (by intro u hu; simp at hu; rcases hu with rfl | rfl <;> rfl) (by unfold maxLen; omega) (by omega) HS7.out ?_
   intro v8 w8 hown8 hgr8 _;obtain ⟨g8,cap8,rfl,hg8,hc8⟩:=mU hown8;have hbk:∀ j,j<w6.heap.size->w8.heap[j]?=w6.heap[j]?:=λj hj=>(hgr8.block j (by simp [World.drew];omega) (by simp [Value.ownBlock])).trans (HA7.out j hj)
   have hD8:=HD6.out.block (w':=w8) (hbk B HB6.out);have hX8:=HX6.out.block (w':=w8) (hbk w.heap.size HX6.out.1);have HG8:=qI (show w.grownBy w8 (some B) from cC HG6.out ⟨hgr8.os,hgr8.tape,hgr8.output,Q5 (by simp [World.drew]) hgr8.size,λj hj _=>hbk j hj⟩);clear hbk hown8 hgr8 HN7 HS7 HA7;refine hK.out _ _ hX8.2 (λhHeld=>?_);clear hK K;refine tk 8 ?_;refine tk 9 ?_;obtain ⟨q8,_,_⟩:=hD8.rest;have r8:=hD8.frozen 8;have HD9:=qI (hD8.set8 (.slice (some ⟨g8,0,none⟩) 1 cap8));have HO9:=qI ((cG.refl B w8).set 8 (.slice (some ⟨g8,0,none⟩) 1 cap8));have HC9:=qI (hc8.block (HO9.out.1.block g8 hc8.1 (λe=>by have:=Ql e;omega)));have HX9:=qI (hX8.block (HO9.out.1.block w.heap.size hX8.1 (λe=>hXB (Ql e))));have HG9:=qI (cC HG8.out HO9.out.1);clear hD8 hX8 hc8 HG8 HO9;refine rd 10 (λK hK=>?_);go_simp;refine hK.out _ _ HX9.out.2 (λhHeld=>?_);clear hK K;(try simp only [Act.put,s1,s2,s3]);refine Qn (by kernel_rfl) ?_ _
   go_wp2
   go_ret;exact ⟨rfl,⟨g8,cap8,HD9.out,hg8,HC9.out⟩,HG9.out⟩
  ·go_simp;refine hK.out _ _ HXa.out.2 (λhHeld=>?_);clear hK K;(try simp only [Act.put,s1,s2,s3]);refine rd 4 (λK hK=>?_);go_simp;refine hK.out _ _ HXa.out.2 (λhHeld=>?_);clear hK K;(try simp only [Act.put,s1,s2,s3]);refine rd 7 (λK hK=>?_);rw [if_pos (by rfl)]
   refine wp_append_own (o := { dst := some 27, op := Op.call { callee := Callee.builtin Builtin.append, args := #[Operand.tmp 24, Operand.tmp 26], argTypes := #[144, 144] }, type := 144, pos := "disk.go:122", after := #[{ on := 4, ground := Ground.data }, { on := 6, ground := Ground.data }], guard := none }) _ _ _ 144 rfl w.heap.size 247 i0 (.agg #[.bool false, .string ByteArray.empty]) 2 24 Tryz.underlying144 hi hz0 hz1 hz2 rfl (by decide) (.slice none 0 0) 0 [] rfl (Qw _ _ _ _) ⟨w6.heap.size, 0, none⟩ 1 1 [.bool wr, .string bs] rfl rfl HN7.out (by intro u hu; simp at hu; rcases hu with rfl | rfl <;> rfl) (by unfold maxLen; omega) (by omega) HS7.out ?_
   intro v8 w8 hown8 hgr8 _;obtain ⟨g8,cap8,rfl,hg8,hc8⟩:=mU hown8;have hbk:∀ j,j<w6.heap.size->w8.heap[j]?=w6.heap[j]?:=λj hj=>(hgr8.block j (by simp [World.drew];omega) (by simp [Value.ownBlock])).trans (HA7.out j hj)
   have hD8:=HD6.out.block (w':=w8) (hbk B HB6.out);have hX8:=HX6.out.block (w':=w8) (hbk w.heap.size HX6.out.1);have HG8:=qI (show w.grownBy w8 (some B) from cC HG6.out ⟨hgr8.os,hgr8.tape,hgr8.output,Q5 (by simp [World.drew]) hgr8.size,λj hj _=>hbk j hj⟩);clear hbk hown8 hgr8 HN7 HS7 HA7;refine hK.out _ _ hX8.2 (λhHeld=>?_);clear hK K;refine tk 8 ?_;refine tk 9 ?_;obtain ⟨q8,_,_⟩:=hD8.rest;have r8:=hD8.frozen 8;have HD9:=qI (hD8.set8 (.slice (some ⟨g8,0,none⟩) 1 cap8));have HO9:=qI ((cG.refl B w8).set 8 (.slice (some ⟨g8,0,none⟩) 1 cap8));have HC9:=qI (hc8.block (HO9.out.1.block g8 hc8.1 (λe=>by have:=Ql e;omega)));have HX9:=qI (hX8.block (HO9.out.1.block w.heap.size hX8.1 (λe=>hXB (Ql e))));have HG9:=qI (cC HG8.out HO9.out.1);clear hD8 hX8 hc8 HG8 HO9;refine rd 10 (λK hK=>?_);go_simp;refine hK.out _ _ HX9.out.2 (λhHeld=>?_);clear hK K;(try simp only [Act.put,s1,s2,s3]);refine Qn (by kernel_rfl) ?_ _
   go_wp2
   go_ret;exact ⟨rfl,⟨g8,cap8,HD9.out,hg8,HC9.out⟩,HG9.out⟩
 ·go_simp;refine hK.out _ _ trivial (λhHeld=>?_);clear hK K;(try simp only [Act.put,s1,s2,s3]);refine rd 1 (λK hK=>?_);go_simp;refine hK.out _ _ trivial (λhHeld=>?_);clear hK K;(try simp only [Act.put,s1,s2,s3]);refine rd 6 (λK hK=>?_);go_simp
  go_wp2_with fail
  refine (HON.out _).mono ?_;rintro e w5 ⟨rfl,hb5⟩;have hD5:=H1.out.block (w':=w5) (hb5.block B hB1);have HX5:=qI (show fM w5 w.heap.size wr bs from HX1.out.block (hb5.block w.heap.size hX1));have HS5:=qI hb5.size;have HG5:=qI (vG HG1.out (vL hb5))
  go_wp2
  refine hK.out _ _ trivial (λhHeld=>?_);clear hK K;refine tk 7 ?_;refine tk 8 ?_;obtain ⟨s0,s1,s2,s3⟩:=hD5.now;have HD6:=qI (hD5.setNow n');have HX6:=qI (show fM (putS w5 B 0 n') w.heap.size wr bs from HX5.out.block ((cG.refl B w5).putS 0 n' |>.1.block w.heap.size (by have:=HS5.out;have:=hX1;simp at *;omega) (λe=>hXB (Ql e))));have HG6:=qI (show w.grownBy (putS w5 B 0 n') (some B) from cC HG5.out ((cG.refl B w5).putS 0 n').1);have HS6:=qI (show w.heap.size+1<=(putS w5 B 0 n').heap.size from by rw [((cG.refl B w5).putS 0 n').2];have:=HS5.out;have:=hX1;simp at *;omega);refine rd 9 (λK hK=>?_);rw [if_pos (by rfl)];refine vM s0 s1 s2 s3 (hD5.frozen 0) (hD5.frozen 1) (hD5.frozen 2) (hD5.frozen 3) rfl rfl ?_;refine hK.out _ _ trivial (λhHeld=>?_);clear hK K hD5 HX5 HG5 s0 s1 s2 s3 H1 HX1 HG1 hb5 HS5 HON;generalize putS w5 B 0 n'=w6 at *;refine Qn (by kernel_rfl) ?_ _
  as_aux_lemma=>
  obtain ⟨i0,hi,hz0,hz1,hz2⟩:=vJ vI;obtain ⟨x8,_,_⟩:=HD6.out.rest;have HB6:=qI HD6.out.lt;have hb7:=(Q0 w6.heap.size w6).alloc (lR) (.cells #[.bool wr,.string bs] 247);have x8':=(hb7.cell (p:=⟨B,8,none⟩) HB6.out).trans x8;have HXa:=qI (HX6.out.block (hb7.block w.heap.size HX6.out.1));have HA7:=qI (show ∀ j,j<w6.heap.size->(w6.alloc (.cells #[.bool wr,.string bs] 247)).drew.heap[j]?=w6.heap[j]? from λj hj=>hb7.block j hj);have HN7:=qI (show ∀ j u,[Value.bool wr,Value.string bs][j]?=some u->(w6.alloc (.cells #[.bool wr,.string bs] 247)).drew.cell? ((⟨w6.heap.size,0,none⟩:Addr).add j)=some u from vK w6 wr bs _);have HS7:=qI (show w.heap.size<=(w6.alloc (.cells #[.bool wr,.string bs] 247)).drew.heap.size from by have:=HS6.out;simp [World.drew];omega);clear hb7 a0 a1 a2 a3 x0 x1
  go_wp2_with fail
  refine wp_region_held_drew (S:=λw'=>w'.cell? ⟨w.heap.size,0,none⟩=some (.bool wr)/\w'.cell? ⟨w.heap.size,1,none⟩=some (.string bs)) (by kernel_rfl) HX6.out.2 (λhHeld=>?_);refine tk 0 ?_;refine tk 1 ?_;refine tk 2 ?_;refine tk 3 ?_;refine tk 5 ?_;refine wpAnyH_ready (rs:=[4,6]) (by kernel_rfl) (by simp) (AllReadyH.cons rfl (λK hK=>?_) (AllReadyH.cons rfl (λK hK=>?_) AllReadyH.nil))
  ·go_simp;refine hK.out _ _ HX6.out.2 (λhHeld=>?_);clear hK K;(try simp only [Act.put,s1,s2,s3]);refine rd 6 (λK hK=>?_);go_simp;refine hK.out _ _ HXa.out.2 (λhHeld=>?_);clear hK K;(try simp only [Act.put,s1,s2,s3]);refine rd 7 (λK hK=>?_);rw [if_pos (by rfl)]
   refine wp_append_own (o := { dst := some 27, op := Op.call { callee := Callee.builtin Builtin.append, args := #[Operand.tmp 24, Operand.tmp 26], argTypes := #[144, 144] }, type := 144, pos := "disk.go:122", after := #[{ on := 4, ground := Ground.data }, { on := 6, ground := Ground.data }], guard := none }) _ _ _ 144 rfl w.heap.size 247 i0 (.agg #[.bool false, .string ByteArray.empty]) 2 24 Tryz.underlying144 hi hz0 hz1 hz2 rfl (by decide) (.slice none 0 0) 0 [] rfl (Qw _ _ _ _) ⟨w6.heap.size, 0, none⟩ 1 1 [.bool wr, .string bs] rfl rfl HN7.out (by intro u hu; simp at hu; rcases hu with rfl | rfl <;> rfl) (by unfold maxLen; omega) (by omega) HS7.out ?_
   intro v8 w8 hown8 hgr8 _;obtain ⟨g8,cap8,rfl,hg8,hc8⟩:=mU hown8;have hbk:∀ j,j<w6.heap.size->w8.heap[j]?=w6.heap[j]?:=λj hj=>(hgr8.block j (by simp [World.drew];omega) (by simp [Value.ownBlock])).trans (HA7.out j hj)
   have hD8:=HD6.out.block (w':=w8) (hbk B HB6.out);have hX8:=HX6.out.block (w':=w8) (hbk w.heap.size HX6.out.1);have HG8:=qI (show w.grownBy w8 (some B) from cC HG6.out ⟨hgr8.os,hgr8.tape,hgr8.output,Q5 (by simp [World.drew]) hgr8.size,λj hj _=>hbk j hj⟩);clear hbk hown8 hgr8 HN7 HS7 HA7;refine hK.out _ _ hX8.2 (λhHeld=>?_);clear hK K;refine tk 8 ?_;refine tk 9 ?_;obtain ⟨q8,_,_⟩:=hD8.rest;have r8:=hD8.frozen 8;have HD9:=qI (hD8.set8 (.slice (some ⟨g8,0,none⟩) 1 cap8));have HO9:=qI ((cG.refl B w8).set 8 (.slice (some ⟨g8,0,none⟩) 1 cap8));have HC9:=qI (hc8.block (HO9.out.1.block g8 hc8.1 (λe=>by have:=Ql e;omega)));have HX9:=qI (hX8.block (HO9.out.1.block w.heap.size hX8.1 (λe=>hXB (Ql e))));have HG9:=qI (cC HG8.out HO9.out.1);clear hD8 hX8 hc8 HG8 HO9;refine rd 10 (λK hK=>?_);go_simp;refine hK.out _ _ HX9.out.2 (λhHeld=>?_);clear hK K;(try simp only [Act.put,s1,s2,s3]);refine Qn (by kernel_rfl) ?_ _
   go_wp2
   go_ret;exact ⟨rfl,⟨g8,cap8,HD9.out,hg8,HC9.out⟩,HG9.out⟩
  ·go_simp;refine hK.out _ _ HXa.out.2 (λhHeld=>?_);clear hK K;(try simp only [Act.put,s1,s2,s3]);refine rd 4 (λK hK=>?_);go_simp;refine hK.out _ _ HXa.out.2 (λhHeld=>?_);clear hK K;(try simp only [Act.put,s1,s2,s3]);refine rd 7 (λK hK=>?_);rw [if_pos (by rfl)]
   refine wp_append_own (o := { dst := some 27, op := Op.call { callee := Callee.builtin Builtin.append, args := #[Operand.tmp 24, Operand.tmp 26], argTypes := #[144, 144] }, type := 144, pos := "disk.go:122", after := #[{ on := 4, ground := Ground.data }, { on := 6, ground := Ground.data }], guard := none }) _ _ _ 144 rfl w.heap.size 247 i0 (.agg #[.bool false, .string ByteArray.empty]) 2 24 Tryz.underlying144 hi hz0 hz1 hz2 rfl (by decide) (.slice none 0 0) 0 [] rfl (Qw _ _ _ _) ⟨w6.heap.size, 0, none⟩ 1 1 [.bool wr, .string bs] rfl rfl HN7.out (by intro u hu; simp at hu; rcases hu with rfl | rfl <;> rfl) (by unfold maxLen; omega) (by omega) HS7.out ?_
   intro v8 w8 hown8 hgr8 _;obtain ⟨g8,cap8,rfl,hg8,hc8⟩:=mU hown8;have hbk:∀ j,j<w6.heap.size->w8.heap[j]?=w6.heap[j]?:=λj hj=>(hgr8.block j (by simp [World.drew];omega) (by simp [Value.ownBlock])).trans (HA7.out j hj)
   have hD8:=HD6.out.block (w':=w8) (hbk B HB6.out);have hX8:=HX6.out.block (w':=w8) (hbk w.heap.size HX6.out.1);have HG8:=qI (show w.grownBy w8 (some B) from cC HG6.out ⟨hgr8.os,hgr8.tape,hgr8.output,Q5 (by simp [World.drew]) hgr8.size,λj hj _=>hbk j hj⟩);clear hbk hown8 hgr8 HN7 HS7 HA7;refine hK.out _ _ hX8.2 (λhHeld=>?_);clear hK K;refine tk 8 ?_;refine tk 9 ?_;obtain ⟨q8,_,_⟩:=hD8.rest;have r8:=hD8.frozen 8;have HD9:=qI (hD8.set8 (.slice (some ⟨g8,0,none⟩) 1 cap8));have HO9:=qI ((cG.refl B w8).set 8 (.slice (some ⟨g8,0,none⟩) 1 cap8));have HC9:=qI (hc8.block (HO9.out.1.block g8 hc8.1 (λe=>by have:=Ql e;omega)));have HX9:=qI (hX8.block (HO9.out.1.block w.heap.size hX8.1 (λe=>hXB (Ql e))));have HG9:=qI (cC HG8.out HO9.out.1);clear hD8 hX8 hc8 HG8 HO9;refine rd 10 (λK hK=>?_);go_simp;refine hK.out _ _ HX9.out.2 (λhHeld=>?_);clear hK K;(try simp only [Act.put,s1,s2,s3]);refine Qn (by kernel_rfl) ?_ _
   go_wp2
   go_ret;exact ⟨rfl,⟨g8,cap8,HD9.out,hg8,HC9.out⟩,HG9.out⟩
end
section
open RowKit
open Qos (Nd Ct Pd nd ct pd)
open Sv (Gv Hd gv hd eS ew body aF cQ az OkH OkL)
open S1 (Tab)
def iA (hs:List Hd):Value:=if az hs=0 then .tuple #[.string ⟨(aF hs).toArray⟩,.nilIface] else .tuple #[.string ⟨#[]⟩,ak (az hs:Nat)]
theorem Hx (hs:List Hd) (k:Nat):ew hs (k+1)=ew hs k++eS (hd hs k):=rfl
theorem nO (v:Value) (hs:List Hd) (w:World) (h:aM w v hs) (ht:bE w):Calls Tryz.prog 97 #[v] w λe w'=>e=.returned (iA hs)/\Below w.heap.size w w':=by
 have HCK:=qI (Du v hs w h)
 by_cases hf:az hs=0
 ·have HE:Hid (iA hs=.tuple #[.string ⟨(aF hs).toArray⟩,.nilIface]):=by unfold Hid iA;rw [if_pos hf]
  have hok:=Sv.oR hf h.cps;have e0:ak ((az hs:Nat):Int)=.nilIface:=by rw [hf];rfl
  have HH:=qI h;have HT:=qI ht;have HO:=qI hok;obtain ⟨ao,c,rfl,hm,_⟩:=h;have hlen:=hok.1;unfold maxLen at hm;have HHT:Hid (aF hs=body hs++cQ (body hs)):=rfl;have HBD:Hid (body hs=ew hs hs.length):=rfl;have HBL:=qI (Sv.tt hok);have HSL:=qI (Sv.kS (body hs));clear ht hok
  go_enter Tryz.func97,Tryz.ntmps97
  go_wp2_with fail
  refine HCK.out.mono ?_;rintro e w1 ⟨rfl,hb1⟩;rw [e0];have HB1:=qI hb1;have HB2:=qI (hb1.alloc hb1.size (.cells #[.pointer none,.slice none 0 0] 237));have HBT:=qI (vD w1);have HZ1:Hid (w1.heap.size<=(w1.alloc (.cells #[.pointer none,.slice none 0 0] 237)).heap.size):=by unfold Hid;simp
  clear hb1 HCK
  go_wp2
  go_loopw [16] (λi wr=>∃ k:Nat,k<=hs.length/\i=.int .i64 k/\Below w.heap.size w wr/\gA w1.heap.size w1.heap.size (ew hs k) wr/\Hid (w1.heap.size<=wr.heap.size)) (λi _=>hs.length - (intOf i).toNat)
  case atStart=>exact ⟨0,Nat.zero_le _,rfl,HB2.out,HBT.out,HZ1⟩
  case round=>
   obtain ⟨k,hk,rfl,hB,hbt,HZ⟩:=hrel
   by_cases hlt:k<hs.length
   ·obtain ⟨_,_,hv,_,hr⟩:=HH.out.below hB;cases hv;obtain ⟨b,o,cv,gvv,rfl,hin⟩:=hr (by omega);obtain ⟨c0,c1,c2,c3⟩:=hin.at hlt;obtain ⟨_,hC,hG⟩:=hin.2 k hlt;have HBX:=qI ((Q0 wr.heap.size wr).alloc (lR) (.cells #[.string (hd hs k).pod.nm,.int .i64 (hd hs k).pod.pr,cv k,gvv k] 57));have HBa:=qI (hB.trans (HBX.out.mono hB.size));have HBTa:=qI (hbt.below HBX.out);have oh:=HO.out.2 _ (Sv.jU hlt);have HPT:=qI (Hw (hd hs k) (cv k) (gvv k) wr.heap.size _ (hC.below HBX.out) (by simp) (hG.below HBX.out) oh (HT.out.below HBa.out));unfold bQ at HPT;have hpl:=Sv.tr oh;have hbl:=HBL.out k hk;have HST:=qI (Hx hs k);obtain ⟨ca,cc,hs1⟩:=hC.sl;obtain ⟨ga,gc,hs2⟩:=hG.sl;clear hin hC hG hB hbt oh hr HBL;generalize ew hs k=BT at *;generalize eS (hd hs k)=PT at *;generalize (hd hs k).pod.nm=nm at *;generalize (hd hs k).pod.pr=pr at *;generalize (hd hs k).pod.cs.length=cl at *;generalize (hd hs k).gs.length=gl at *;generalize cv k=cvk at *;generalize gvv k=gvk at *;subst hs1 hs2;have hwl:BT.length+PT.length<=1000000:=by omega
    go_wp2_with fail
    refine HPT.out.mono ?_;rintro e W1 ⟨rfl,hbb⟩;have HB4:=qI (HBa.out.trans (hbb.mono HBa.out.size));have HBT4:=qI (HBTa.out.below hbb);have hz4:w1.heap.size<=W1.heap.size:=Q5 HZ.out (Q5 HBX.out.size hbb.size);clear hbb
    go_wp2_with fail
    refine (pW _ _ _ _ _ HBT4.out hwl hz4).mono ?_;rintro e W5 ⟨rfl,hbt5,hb5⟩;have HB5:=qI (HB4.out.trans (hb5.mono HB1.out.size));have HZ5:=qI (Q5 hz4 hb5.size);have HBT5:=qI hbt5;clear hbt5 hb5
    go_wp2
    go_roundw
    case rel=>exact ⟨k+1,by omega,by go_num,HB5.out,by rw [HST.out];exact HBT5.out,HZ5⟩
    case measure=>simp [intOf];omega
   ·have hke:k=hs.length:=by omega
    subst hke;have hbl:=HBL.out _ (lR);rw [<- HBD.out] at hbt hbl;have hsl:=HSL.out;have HSM:Hid (∀ W,Below w.heap.size w W->Calls Tryz.prog 138 #[.string ⟨(body hs).toArray⟩] W λe w'=>e=.returned (.string ⟨(cQ (body hs)).toArray⟩)/\Below W.heap.size W w'):=λW hb=>CY _ W (by omega) (HT.out.below hb).1
    clear HBD HSL HBL;generalize cQ (body hs)=ST at *;generalize body hs=BD at *;have ec:=jX BD ST
    go_wp2_with fail
    refine (vE _ _ _ _ hbt HZ.out).mono ?_;rintro e W1 ⟨rfl,hb2⟩;have HB3:=qI (hB.trans (hb2.mono HB1.out.size));clear hb2 hB hbt
    go_wp2_with fail
    refine (HSM.out _ HB3.out).mono ?_;rintro e W2 ⟨rfl,hb3⟩;have HB4:=qI (HB3.out.trans (hb3.mono HB3.out.size));clear hb3
    go_wp2
    go_ret2;refine ⟨?_,HB4.out⟩;rw [HE.out,HHT.out,<- ec];rfl
 ·have HE:Hid (iA hs=.tuple #[.string ⟨#[]⟩,ak (az hs:Nat)]):=by unfold Hid iA;rw [if_neg hf]
  have HP:=qI (dI hf);obtain ⟨ao,c,rfl,hm,_⟩:=h;clear ht
  go_enter Tryz.func97,Tryz.ntmps97
  go_wp2_with fail
  refine HCK.out.mono ?_;rintro e w1 ⟨rfl,hb⟩;rw [HP.out]
  go_wp2
  go_ret2;exact ⟨by rw [HE.out,HP.out];rfl,hb⟩
end
