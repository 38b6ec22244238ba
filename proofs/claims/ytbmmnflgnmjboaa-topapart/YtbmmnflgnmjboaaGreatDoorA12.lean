import Derived.Test.YtbmmnflgnmjboaaGreatDoorA11
import Derived.Laws.OwnMore
set_option maxRecDepth 100000
set_option maxHeartbeats 16000000
namespace Go.Proofs.YtbmmnflgnmjboaaGreatDoor
section
open RowKit
open Qos (Nd Ct Pd nd ct pd)
open Sv (Gv Hd gv hd)
def GK (W:World) (Q:Nat->Prop) (v:Value) (ds:List Nd):Prop:=
 ∃ ao c,v=.slice ao ds.length c/\ds.length<=maxLen/\(0<ds.length->∃ b o,ao=some ⟨b,o,none⟩/\Q b/\b<W.heap.size/\∀ k,k<ds.length->W.cell? ⟨b,o+k*2,none⟩=some (.string (nd ds k).kind)/\W.cell? ⟨b,o+k*2+1,none⟩=some (.int .i64 (nd ds k).many))
def GL (W:World) (Q:Nat->Prop) (v:Value) (xs:List Int):Prop:=
 ∃ ao c,v=.slice ao xs.length c/\(xs.length<=c/\c<=maxLen)/\(0<xs.length->∃ b o,ao=some ⟨b,o,none⟩/\Q b/\b<W.heap.size/\∀ k,k<xs.length->W.cell? ⟨b,o+k,none⟩=some (.int .i64 (xs.getD k 0)))
def GM (p:Ct × Value):List Value:=ci p.1 p.2
def GN (p:Gv × Value):List Value:=[.int .u64 p.1.cp,p.2]
def GO (l:List (Ct × Value)):List Value:=l.flatMap GM
def GP (l:List (Gv × Value)):List Value:=l.flatMap GN
structure Hp where
 nm:ByteArray
 pr:Int
 cl:List (Ct × Value)
 gl:List (Gv × Value)
 cv:Value
 gv:Value
def Hp.hd (p:Hp):Hd:=⟨⟨p.nm,p.pr,p.cl.map Prod.fst⟩,p.gl.map Prod.fst⟩
def GQ (p:Hp):List Value:=[.string p.nm,.int .i64 p.pr,p.cv,p.gv]
def GR (l:List Hp):List Value:=l.flatMap GQ
def oI (base:Nat) (v:Value) (la:Hp) (j:Nat):Prop:=base<=j/\v.ownBlock≠some j/\la.cv.ownBlock≠some j/\la.gv.ownBlock≠some j
theorem wG {K:Nat->Prop} {A B:World} {base:Nat} {e:TypeId} {size:Nat} {v:Value} {n:Nat} {xs:List Value} (hr:A.ownsRow base e size v n xs) (h:Apart K A B) (hK:∀ j,v.ownBlock=some j->¬ K j):B.ownsRow base e size v n xs:=by
 obtain ⟨h1,h2⟩:=hr;refine ⟨h1,h2.imp id ?_⟩;rintro ⟨g,cap,cur,rfl,hg,hh,r⟩;exact ⟨g,cap,cur,rfl,hg,(h.block g (gS hh).1 (hK g rfl)).trans hh,r⟩
structure wH (W:World) (base:Nat) (Q:Nat->Prop) (p:Hp):Prop where
 rc:W.ownsRow base 63 6 p.cv p.cl.length (GO p.cl)
 rg:W.ownsRow base 69 2 p.gv p.gl.length (GP p.gl)
 nc:∀ x∈p.cl,GK W Q x.2 x.1.ds
 ng:∀ x∈p.gl,GL W Q x.2 x.1.dv/\x.1.cp<18446744073709551616
structure GS (W:World) (base:Nat) (v:Value) (el:List Hp) (la:Hp):Prop where
 row:W.ownsRow base 57 4 v (el.length+1) (GR (el++[la]))
 hel:∀ p∈el,wH W base (oI base v la) p/\(∀ j,p.cv.ownBlock=some j->oI base v la j)/\(∀ j,p.gv.ownBlock=some j->oI base v la j)
 hla:wH W base (oI base v la) la
 vc:∀ j,la.cv.ownBlock=some j->v.ownBlock≠some j
 vg:∀ j,la.gv.ownBlock=some j->v.ownBlock≠some j
 cg:∀ j,la.cv.ownBlock=some j->la.gv.ownBlock≠some j
end
section
open RowKit
open Qos (Nd Ct Pd nd ct pd)
open Sv (Gv Hd gv hd fh gN ik mi dQ dh fC fD il fY dR fi eJ body aI cU OkN OkC OkG OkH OkL OkP)
open S1 (Tab strs jW jo kL iJ lS)
def gW (B b:Nat) (l:List UInt8) (w:World):Prop:=Lib.IsBuilderF 237 5 B b (Lib.byteCells l) w
theorem gW.below {B b:Nat} {l:List UInt8} {w w':World} (h:gW B b l w) (hb:Below w.heap.size w w'):gW B b l w':=by
 have key:∀ p,Lib.BuilderAtF 237 5 B b p (Lib.byteCells l) w->Lib.BuilderAtF 237 5 B b p (Lib.byteCells l) w':=by
  rintro p ⟨hB,v,hv,hr,hn⟩;have Ha:b<w.heap.size:=(gS hv).1;refine ⟨hB,v,by rw [hb.block b Ha];exact hv,?_,hn⟩;exact hr.kept (row:=none) ⟨hb.os,hb.tape,hb.output,hb.size,λj hj _=>hb.block j hj⟩ (by cases hv:v.ownBlock <;> simp)
 rcases h with h|h
 ·exact .inl (key _ h)
 ·exact .inr (key _ h)
abbrev jE:=(.cells #[.pointer none,.slice none 0 0] 237:Obj)
theorem wI (w:World):gW w.heap.size w.heap.size [] (w.alloc (jE)):=Lib.IsBuilderF.of (Lib.fresh_isBuilder _ _ w)
theorem ry (B b:Nat) (l s:List UInt8) (w:World) (h:gW B b l w) (hl:l.length+s.length<=1000000) (hB:B<=w.heap.size) :
  Calls Tryz.prog 133 #[.pointer (some ⟨b,0,none⟩),.string ⟨s.toArray⟩] w λe w'=>e=.returned (.tuple #[.int .i64 s.length,.nilIface])/\gW B b (l++s) w'/\Below B w w':=by
 have hw:=Any.Builder_WriteString_k (P:=Tryz.prog) (ρ:=Tryz.lays156_ren) { Tryz.lays156 with } Tryz.Builder_Extra_156 B b (Lib.byteCells l) ⟨s.toArray⟩ w h (by
  show (Lib.byteCells l).length+s.toArray.size<=_
  simp [Lib.byteCells];omega) hB
 refine hw.mono ?_;rintro e w' ⟨rfl,h1,h2,_⟩;refine ⟨rfl,.inr ?_,h2⟩;have e:Lib.byteCells l++Lib.strCells ⟨s.toArray⟩=Lib.byteCells (l++s):=by simp [Lib.byteCells,Lib.strCells]
 rw [e] at h1;exact h1
theorem wJ (B b:Nat) (l:List UInt8) (w:World) (h:gW B b l w) (hB:B<=w.heap.size) :
  Calls Tryz.prog 137 #[.pointer (some ⟨b,0,none⟩)] w λe w'=>e=.returned (.string ⟨l.toArray⟩)/\Below B w w':=by
 refine (Tryz.Builder_String_any_k B b l w h hB).mono ?_;rintro e w' ⟨rfl,_,h2,_⟩;exact ⟨rfl,h2⟩
theorem fj.below {base:Nat} {w w':World} {v:Value} {ws:List (List UInt8)} (h:fj base w v ws) (hb:Below w.heap.size w w'):fj base w' v ws:=qO h hb
theorem wK (v:Value) (ws:List (List UInt8)) (base:Nat) (w:World) (h:fj base w v ws) (hn:ws.length<=20) (hw:∀ x∈ws,x.length<=400) :
  Calls Tryz.prog 172 #[v] w λe w'=>e=.returned (.string ⟨(fD ws).toArray⟩)/\Below w.heap.size w w':=by
 have hl:(Lib.join ws [32]).length<=8020:=Q5 (Sv.kc 32 400 ws hw) (by omega);have HJ:=qI (qP 32 v ws w base h (by omega) (by omega));have eb:=kW (Lib.join ws [32]) [10];have HE:Hid (fD ws=Lib.join ws [32]++[10]):=rfl;generalize fD ws=L at *;generalize Lib.join ws [32]=J at *;clear h hw
 go_enter Tryz.func172,Tryz.ntmps172
 go_wp2_with fail
 refine HJ.out.mono ?_;rintro e w1 ⟨rfl,Ha⟩
 go_wp2
 go_ret;exact ⟨by rw [HE.out];exact congrArg (λx=>Ending.returned (Value.string x)) eb,Ha⟩
abbrev kf:=λ(x0:ByteArray) (x1 x2 x3 x4:Int) (x5:Option Addr) (x6 x7:Nat)=>(.cells #[.string x0,.int .i64 x1,.int .i64 x2,.int .i64 x3,.int .i64 x4,.slice x5 x6 x7] 63:Obj)
abbrev kg:=λ(w:World) (nm:ByteArray) (am ab cm cb:Int) (da:Option Addr) (dn dc:Nat) (w':World)=>w'.cell? ⟨w.heap.size,0,none⟩=some (.string nm)/\w'.cell? ⟨w.heap.size,1,none⟩=some (.int .i64 am)/\w'.cell? ⟨w.heap.size,2,none⟩=some (.int .i64 ab)/\w'.cell? ⟨w.heap.size,3,none⟩=some (.int .i64 cm)/\w'.cell? ⟨w.heap.size,4,none⟩=some (.int .i64 cb)/\w'.cell? ⟨w.heap.size,5,none⟩=some (.slice da dn dc)
theorem GT (c:Ct) (dv:Value) (w:World) (hd:bf w dv c.ds) (hc:OkC c) (ht:bH w) :
  Calls Tryz.prog 174 #[.agg #[.string c.nm,.int .i64 c.am,.int .i64 c.ab,.int .i64 c.cm,.int .i64 c.cb,dv]] w λe w'=>∃ v,e=.returned v/\fj w.heap.size w' v (dQ c)/\Below w.heap.size w w':=by
 have HT:=qI ht;have Hm:=qI (mr ((Q0 w.heap.size w).alloc (lR) (.cells #[.string c.nm,.int .i64 c.am,.int .i64 c.ab,.int .i64 c.cm,.int .i64 c.cb,dv] 63)));obtain ⟨_,k1,k2,k3,k4,k5,k6⟩:=hc;have HD:=qI (λW (hb:Below w.heap.size w W)=>FA dv c.ds W (hd.below hb) k6 k5 (HT.out.below hb));have HE:Hid (dQ c=[[99,111,110,116],c.nm.data.toList,Sv.dec c.am,Sv.dec c.ab,Sv.dec c.cm,Sv.dec c.cb,gN c.ds]):=rfl;have HN:Hid (ByteArray.mk c.nm.data.toList.toArray=c.nm):=by unfold Hid;simp
 obtain ⟨da,dc,rfl,_⟩:=hd;clear ht k6 k5;generalize gN c.ds=D at *;generalize c.ds.length=dn at *;generalize dQ c=CW at *;generalize c.nm=nm at *;generalize c.am=am at *;generalize c.ab=ab at *;generalize c.cm=cm at *;generalize c.cb=cb at *
 go_enter Tryz.func174,Tryz.ntmps174
 go_wp2_with fail
 have Hg:=qI (show w.heap.size<(w.alloc (kf nm am ab cm cb da dn dc)).drew.heap.size/\(w.alloc (kf nm am ab cm cb da dn dc)).drew.cell? ⟨w.heap.size,0,none⟩=some (.string nm)/\(w.alloc (kf nm am ab cm cb da dn dc)).drew.cell? ⟨w.heap.size,1,none⟩=some (.int .i64 am)/\(w.alloc (kf nm am ab cm cb da dn dc)).drew.cell? ⟨w.heap.size,2,none⟩=some (.int .i64 ab)/\(w.alloc (kf nm am ab cm cb da dn dc)).drew.cell? ⟨w.heap.size,3,none⟩=some (.int .i64 cm)/\(w.alloc (kf nm am ab cm cb da dn dc)).drew.cell? ⟨w.heap.size,4,none⟩=some (.int .i64 cb)/\(w.alloc (kf nm am ab cm cb da dn dc)).drew.cell? ⟨w.heap.size,5,none⟩=some (.slice da dn dc) from ⟨by simp,by simp,by simp,by simp,by simp,by simp,by simp⟩);refine wp_region_held_drew (S:=kg w nm am ab cm cb da dn dc) (by kernel_rfl) Hg.out.2 (λhQ=>?_);refine tk 0 ?_;refine tk 1 ?_;refine tk 2 ?_;refine tk 3 ?_;refine tk 4 ?_;refine tk 6 ?_;refine tk 7 ?_;refine tk 8 ?_;refine tk 10 ?_;refine tk 11 ?_;refine tk 12 ?_;refine tk 14 ?_;refine tk 15 ?_;refine tk 16 ?_;refine tk 18 ?_;refine tk 19 ?_;refine rd 5 (λK hK=>?_);go_simp
 go_wp2_with fail
 refine (kY am _ k1.1 (by omega) (HT.out.below Hm.out)).mono ?_;rintro e V1 ⟨rfl,hb⟩;have Hh:=qI (Hm.out.trans (hb.mono Hm.out.size));have Hb:=qI (show w.heap.size<V1.heap.size/\(kg w nm am ab cm cb da dn dc) V1 from ⟨Q1 Hg.out.1 hb.size,(hb.cell (p:=⟨w.heap.size,0,none⟩) Hg.out.1).trans Hg.out.2.1,(hb.cell (p:=⟨w.heap.size,1,none⟩) Hg.out.1).trans Hg.out.2.2.1,(hb.cell (p:=⟨w.heap.size,2,none⟩) Hg.out.1).trans Hg.out.2.2.2.1,(hb.cell (p:=⟨w.heap.size,3,none⟩) Hg.out.1).trans Hg.out.2.2.2.2.1,(hb.cell (p:=⟨w.heap.size,4,none⟩) Hg.out.1).trans Hg.out.2.2.2.2.2.1,(hb.cell (p:=⟨w.heap.size,5,none⟩) Hg.out.1).trans Hg.out.2.2.2.2.2.2⟩)
 
 clear hb
 go_wp2
 refine hK.out _ _ Hb.out.2 (λhQ=>?_);clear hK K;refine rd 9 (λK hK=>?_);go_simp
 go_wp2_with fail
 refine (kY ab _ k2.1 (by omega) (HT.out.below Hh.out)).mono ?_;rintro e V2 ⟨rfl,hb⟩;have Hl:=qI (Hh.out.trans (hb.mono Hh.out.size));have Ha:=qI (show w.heap.size<V2.heap.size/\(kg w nm am ab cm cb da dn dc) V2 from ⟨Q1 Hb.out.1 hb.size,(hb.cell (p:=⟨w.heap.size,0,none⟩) Hb.out.1).trans Hb.out.2.1,(hb.cell (p:=⟨w.heap.size,1,none⟩) Hb.out.1).trans Hb.out.2.2.1,(hb.cell (p:=⟨w.heap.size,2,none⟩) Hb.out.1).trans Hb.out.2.2.2.1,(hb.cell (p:=⟨w.heap.size,3,none⟩) Hb.out.1).trans Hb.out.2.2.2.2.1,(hb.cell (p:=⟨w.heap.size,4,none⟩) Hb.out.1).trans Hb.out.2.2.2.2.2.1,(hb.cell (p:=⟨w.heap.size,5,none⟩) Hb.out.1).trans Hb.out.2.2.2.2.2.2⟩)
 
 clear hb
 go_wp2
 refine hK.out _ _ Ha.out.2 (λhQ=>?_);clear hK K;refine rd 13 (λK hK=>?_);go_simp
 go_wp2_with fail
 refine (kY cm _ k3.1 (by omega) (HT.out.below Hl.out)).mono ?_;rintro e V3 ⟨rfl,hb⟩;have Hk:=qI (Hl.out.trans (hb.mono Hl.out.size));have He:=qI (show w.heap.size<V3.heap.size/\(kg w nm am ab cm cb da dn dc) V3 from ⟨Q1 Ha.out.1 hb.size,(hb.cell (p:=⟨w.heap.size,0,none⟩) Ha.out.1).trans Ha.out.2.1,(hb.cell (p:=⟨w.heap.size,1,none⟩) Ha.out.1).trans Ha.out.2.2.1,(hb.cell (p:=⟨w.heap.size,2,none⟩) Ha.out.1).trans Ha.out.2.2.2.1,(hb.cell (p:=⟨w.heap.size,3,none⟩) Ha.out.1).trans Ha.out.2.2.2.2.1,(hb.cell (p:=⟨w.heap.size,4,none⟩) Ha.out.1).trans Ha.out.2.2.2.2.2.1,(hb.cell (p:=⟨w.heap.size,5,none⟩) Ha.out.1).trans Ha.out.2.2.2.2.2.2⟩)
 
 clear hb
 go_wp2
 refine hK.out _ _ He.out.2 (λhQ=>?_);clear hK K;refine rd 17 (λK hK=>?_);go_simp
 go_wp2_with fail
 refine (kY cb _ k4.1 (by omega) (HT.out.below Hk.out)).mono ?_;rintro e V4 ⟨rfl,hb⟩;have Hi:=qI (Hk.out.trans (hb.mono Hk.out.size));have Hc:=qI (show w.heap.size<V4.heap.size/\(kg w nm am ab cm cb da dn dc) V4 from ⟨Q1 He.out.1 hb.size,(hb.cell (p:=⟨w.heap.size,0,none⟩) He.out.1).trans He.out.2.1,(hb.cell (p:=⟨w.heap.size,1,none⟩) He.out.1).trans He.out.2.2.1,(hb.cell (p:=⟨w.heap.size,2,none⟩) He.out.1).trans He.out.2.2.2.1,(hb.cell (p:=⟨w.heap.size,3,none⟩) He.out.1).trans He.out.2.2.2.2.1,(hb.cell (p:=⟨w.heap.size,4,none⟩) He.out.1).trans He.out.2.2.2.2.2.1,(hb.cell (p:=⟨w.heap.size,5,none⟩) He.out.1).trans He.out.2.2.2.2.2.2⟩)
 
 clear hb
 go_wp2
 refine hK.out _ _ Hc.out.2 (λhQ=>?_);clear hK K;refine rd 20 (λK hK=>?_);go_simp
 go_wp2_with fail
 refine (HD.out _ Hi.out).mono ?_;rintro e V5 ⟨rfl,hb⟩;have Hj:=qI (Hi.out.trans (hb.mono Hi.out.size));have Hf:=qI (show w.heap.size<V5.heap.size/\(kg w nm am ab cm cb da dn dc) V5 from ⟨Q1 Hc.out.1 hb.size,(hb.cell (p:=⟨w.heap.size,0,none⟩) Hc.out.1).trans Hc.out.2.1,(hb.cell (p:=⟨w.heap.size,1,none⟩) Hc.out.1).trans Hc.out.2.2.1,(hb.cell (p:=⟨w.heap.size,2,none⟩) Hc.out.1).trans Hc.out.2.2.2.1,(hb.cell (p:=⟨w.heap.size,3,none⟩) Hc.out.1).trans Hc.out.2.2.2.2.1,(hb.cell (p:=⟨w.heap.size,4,none⟩) Hc.out.1).trans Hc.out.2.2.2.2.2.1,(hb.cell (p:=⟨w.heap.size,5,none⟩) Hc.out.1).trans Hc.out.2.2.2.2.2.2⟩)
 
 clear hb
 go_wp2
 refine hK.out _ _ Hf.out.2 (λhQ=>?_);clear hK K;refine rd 21 (λK hK=>?_);go_simp
 go_wp2_with fail
 have Ho:=qI (Hj.out.alloc Hj.out.size (.cells #[.string ⟨#[99,111,110,116]⟩,.string nm,.string ⟨(Sv.dec am).toArray⟩,.string ⟨(Sv.dec ab).toArray⟩,.string ⟨(Sv.dec cm).toArray⟩,.string ⟨(Sv.dec cb).toArray⟩,.string ⟨D.toArray⟩] 9));have Hn:=qI (show w.heap.size<(V5.alloc (.cells #[.string ⟨#[99,111,110,116]⟩,.string nm,.string ⟨(Sv.dec am).toArray⟩,.string ⟨(Sv.dec ab).toArray⟩,.string ⟨(Sv.dec cm).toArray⟩,.string ⟨(Sv.dec cb).toArray⟩,.string ⟨D.toArray⟩] 9)).heap.size/\(kg w nm am ab cm cb da dn dc) (V5.alloc (.cells #[.string ⟨#[99,111,110,116]⟩,.string nm,.string ⟨(Sv.dec am).toArray⟩,.string ⟨(Sv.dec ab).toArray⟩,.string ⟨(Sv.dec cm).toArray⟩,.string ⟨(Sv.dec cb).toArray⟩,.string ⟨D.toArray⟩] 9)) from ⟨Q1 Hf.out.1 (by simp),gP Hf.out.2.1 (.cells #[.string ⟨#[99,111,110,116]⟩,.string nm,.string ⟨(Sv.dec am).toArray⟩,.string ⟨(Sv.dec ab).toArray⟩,.string ⟨(Sv.dec cm).toArray⟩,.string ⟨(Sv.dec cb).toArray⟩,.string ⟨D.toArray⟩] 9),gP Hf.out.2.2.1 (.cells #[.string ⟨#[99,111,110,116]⟩,.string nm,.string ⟨(Sv.dec am).toArray⟩,.string ⟨(Sv.dec ab).toArray⟩,.string ⟨(Sv.dec cm).toArray⟩,.string ⟨(Sv.dec cb).toArray⟩,.string ⟨D.toArray⟩] 9),gP Hf.out.2.2.2.1 (.cells #[.string ⟨#[99,111,110,116]⟩,.string nm,.string ⟨(Sv.dec am).toArray⟩,.string ⟨(Sv.dec ab).toArray⟩,.string ⟨(Sv.dec cm).toArray⟩,.string ⟨(Sv.dec cb).toArray⟩,.string ⟨D.toArray⟩] 9),gP Hf.out.2.2.2.2.1 (.cells #[.string ⟨#[99,111,110,116]⟩,.string nm,.string ⟨(Sv.dec am).toArray⟩,.string ⟨(Sv.dec ab).toArray⟩,.string ⟨(Sv.dec cm).toArray⟩,.string ⟨(Sv.dec cb).toArray⟩,.string ⟨D.toArray⟩] 9),gP Hf.out.2.2.2.2.2.1 (.cells #[.string ⟨#[99,111,110,116]⟩,.string nm,.string ⟨(Sv.dec am).toArray⟩,.string ⟨(Sv.dec ab).toArray⟩,.string ⟨(Sv.dec cm).toArray⟩,.string ⟨(Sv.dec cb).toArray⟩,.string ⟨D.toArray⟩] 9),gP Hf.out.2.2.2.2.2.2 (.cells #[.string ⟨#[99,111,110,116]⟩,.string nm,.string ⟨(Sv.dec am).toArray⟩,.string ⟨(Sv.dec ab).toArray⟩,.string ⟨(Sv.dec cm).toArray⟩,.string ⟨(Sv.dec cb).toArray⟩,.string ⟨D.toArray⟩] 9)⟩);refine hK.out _ _ Hn.out.2 (λhQ=>?_);clear hK K;refine tk 22 ?_;refine Qn (by kernel_rfl) ?_ _
 go_wp2
 go_ret;refine ⟨_,rfl,?_,Ho.out⟩;rw [HE.out]
 have:=qW [[99,111,110,116],nm.data.toList,Sv.dec am,Sv.dec ab,Sv.dec cm,Sv.dec cb,D] V5 w.heap.size Hj.out.size (by simp)
 unfold strs at this;simp only [Qq,List.map_nil] at this;exact this
theorem GU (hb k:Nat) (gs:List Gv) (gvv:Value) (w:World) (hc:w.cell? ⟨hb,3,none⟩=some gvv) (hg:bl w gvv gs) (hk:k<gs.length) (ho:OkG (gv gs k)) (ht:bH w) :
  Calls Tryz.prog 135 #[.int .i64 k,.pointer (some ⟨hb,0,none⟩)] w λe w'=>∃ v,e=.returned v/\fj w.heap.size w' v (dh (gv gs k))/\Below w.heap.size w w':=by
 obtain ⟨ao,c,rfl,hm,hr⟩:=hg;obtain ⟨b,o,dv,rfl,Ha⟩:=hr (by omega);obtain ⟨c0,c1⟩:=Ha.at hk;have HW:=qI (FB (gv gs k) (dv k) w (Ha.2 k hk).2 ho ht);obtain ⟨da,dc,hd⟩:=(Ha.2 k hk).2.slice;unfold maxLen at hm;clear Ha ho ht hr;generalize dh (gv gs k)=GW at *;generalize (gv gs k).cp=cp at *;generalize (gv gs k).dv.length=dn at *;generalize dv k=d at *;subst hd
 go_enter Tryz.func135,Tryz.ntmps135
 go_wp2_with fail
 refine HW.out.mono ?_;rintro e w1 ⟨v,rfl,hw,Hb⟩
 go_wp2
 go_ret;exact ⟨v,rfl,hw,Hb⟩
theorem GV {base:Nat} {w:World} {v:Value} {a b:List (List UInt8)} (h:w.ownsRow base 9 1 v (a.length+b.length) (strs a++strs b)):fj base w v (a++b):=by
 unfold fj;rw [Q2,show strs (a++b)=strs a++strs b by simp [strs]];exact h
theorem GX (c:Ct) (g:Gv):(dQ c++dh g).length=9:=rfl
abbrev iT:=λ(x0:ByteArray) (x1:Int) (x2:Nat) (x3:Option Addr) (x4:Nat)=>(.cells #[.string x0,.int .i64 x1,.slice x3 x2 x4] 47:Obj)
abbrev mB:=λ(w:World) (nm:ByteArray) (pr:Int) (ao:Option Addr) (y4 c:Nat) (w':World)=>w'.cell? ⟨w.heap.size,0,none⟩=some (.string nm)/\w'.cell? ⟨w.heap.size,1,none⟩=some (.int .i64 pr)/\w'.cell? ⟨w.heap.size,2,none⟩=some (.slice ao y4 c)
theorem GY (h:Hd) (cv gvv:Value) (hb:Nat) (w:World) (hc:aD w cv h.pod.cs) (hcell:w.cell? ⟨hb,3,none⟩=some gvv) (hg:bl w gvv h.gs) (ho:OkH h) (ht:bH w) :
  Calls Tryz.prog 134 #[bV h.pod cv,.func (.func 135) #[] #[.pointer (some ⟨hb,0,none⟩)]] w λe w'=>e=.returned (.string ⟨(fi h).toArray⟩)/\Below w.heap.size w w':=by
 obtain ⟨i0,hi,hq,hz,hC⟩:=info_parts iJ;have hL:=qI (λk (hk:k<h.gs.length) W (hbw:Below w.heap.size w W)=>GU hb k h.gs gvv W ((hbw.cell (p:=⟨hb,3,none⟩) (Q3 w _ hcell)).trans hcell) (hg.below hbw) hk (ho.2.2 _ (Sv.oy hk)) (ht.below hbw));have H5:=qI (λk (hk:k<h.pod.cs.length) d W (hd:bf W d (ct h.pod.cs k).ds) (hbw:Below w.heap.size w W)=>GT (ct h.pod.cs k) d W hd (ho.1.2.2.2 _ (Sv.jB hk)) (ht.below hbw));have HO:=qI ho;have HT:=qI ht;obtain ⟨ao,c,rfl,hm,hr⟩:=hc;have HR:=qI hr;clear hr ht hg hcell ho;unfold maxLen at hm;unfold bV;have hO:=HO.out.1.2.2.1;have hP:=HO.out.2.1;have HA:=qI (mr (((Q0 w.heap.size w).alloc (lR) (iT h.pod.nm h.pod.pr h.pod.cs.length ao c)).alloc (by simp) (jE)));have Hs:=qI ((wI (w.alloc (iT h.pod.nm h.pod.pr h.pod.cs.length ao c))).below (mr (Q0 _ _)));have HN:Hid (ByteArray.mk h.pod.nm.data.toList.toArray=h.pod.nm):=by unfold Hid;simp
 have HX:=HO.out.1.2.1
 go_enter Tryz.func134,Tryz.ntmps134
 go_wp2_with fail
 have Hi:=qI (show w.heap.size<((w.alloc (iT h.pod.nm h.pod.pr h.pod.cs.length ao c)).alloc (jE)).drew.heap.size/\((w.alloc (iT h.pod.nm h.pod.pr h.pod.cs.length ao c)).alloc (jE)).drew.cell? ⟨w.heap.size,0,none⟩=some (.string h.pod.nm)/\((w.alloc (iT h.pod.nm h.pod.pr h.pod.cs.length ao c)).alloc (jE)).drew.cell? ⟨w.heap.size,1,none⟩=some (.int .i64 h.pod.pr)/\((w.alloc (iT h.pod.nm h.pod.pr h.pod.cs.length ao c)).alloc (jE)).drew.cell? ⟨w.heap.size,2,none⟩=some (.slice ao h.pod.cs.length c) from ⟨by simp;omega,by simp,by simp,by simp⟩);have Hv:Hid (gW (w.heap.size+1) (w.heap.size+1) [] ((w.alloc (iT h.pod.nm h.pod.pr h.pod.cs.length ao c)).alloc (jE)).drew):=by have:=Hs.out;rw [show (w.alloc (iT h.pod.nm h.pod.pr h.pod.cs.length ao c)).heap.size=w.heap.size+1 by simp] at this;exact this
 clear Hs;have H6:Hid (fC h.pod=[[112,111,100],h.pod.nm.data.toList,Sv.dec h.pod.pr]):=rfl;have hA:=Sv.qJ HO.out.1;have hy:Hid (fi h=fY h.pod++dR h h.pod.cs.length):=rfl;have H1:Hid (∀ v W,fj w.heap.size W v (fC h.pod)->Calls Tryz.prog 172 #[v] W λe w'=>e=.returned (.string ⟨(fY h.pod).toArray⟩)/\Below W.heap.size W w'):=λv W hw=>wK v (fC h.pod) w.heap.size W hw (by simp [fC]) (λx hx=>by have:=Sv.vG HO.out.1 x hx;omega)
 generalize fY h.pod=PL at *;generalize fC h.pod=PW at *;generalize ((w.alloc (iT h.pod.nm h.pod.pr h.pod.cs.length ao c)).alloc (jE))=U0 at *;generalize h.pod.nm=nm at *;generalize h.pod.pr=pr at *;refine wp_region_held_drew (S:=mB w nm pr ao h.pod.cs.length c) (by kernel_rfl) Hi.out.2 (λhQ=>?_);refine tk 0 ?_;refine tk 1 ?_;refine tk 2 ?_;refine tk 3 ?_;refine rd 4 (λK hK=>?_);go_simp
 go_wp2_with fail
 refine (kY _ _ HX.1 (by omega) (HT.out.below HA.out)).mono ?_;rintro e V1 ⟨rfl,hb⟩;have Hg:=qI (HA.out.trans (hb.mono HA.out.size));have Hc:=qI (show w.heap.size<V1.heap.size/\(mB w nm pr ao h.pod.cs.length c) V1 from ⟨Q1 Hi.out.1 hb.size,(hb.cell (p:=⟨w.heap.size,0,none⟩) Hi.out.1).trans Hi.out.2.1,(hb.cell (p:=⟨w.heap.size,1,none⟩) Hi.out.1).trans Hi.out.2.2.1,(hb.cell (p:=⟨w.heap.size,2,none⟩) Hi.out.1).trans Hi.out.2.2.2⟩);have Ht:=qI (Hv.out.below hb);clear hb
 go_wp2
 refine hK.out _ _ Hc.out.2 (λhQ=>?_);clear hK K;refine rd 5 (λK hK=>?_);go_simp
 go_wp2_with fail
 have Hm:=qI (Hg.out.alloc Hg.out.size (.cells #[.string ⟨#[112,111,100]⟩,.string nm,.string ⟨(Sv.dec pr).toArray⟩] 9));have Ha:=qI (show w.heap.size<(V1.alloc (.cells #[.string ⟨#[112,111,100]⟩,.string nm,.string ⟨(Sv.dec pr).toArray⟩] 9)).heap.size/\(mB w nm pr ao h.pod.cs.length c) (V1.alloc (.cells #[.string ⟨#[112,111,100]⟩,.string nm,.string ⟨(Sv.dec pr).toArray⟩] 9)) from ⟨Q1 Hc.out.1 (by simp),gP Hc.out.2.1 (.cells #[.string ⟨#[112,111,100]⟩,.string nm,.string ⟨(Sv.dec pr).toArray⟩] 9),gP Hc.out.2.2.1 (.cells #[.string ⟨#[112,111,100]⟩,.string nm,.string ⟨(Sv.dec pr).toArray⟩] 9),gP Hc.out.2.2.2 (.cells #[.string ⟨#[112,111,100]⟩,.string nm,.string ⟨(Sv.dec pr).toArray⟩] 9)⟩);have Hq:=qI (Ht.out.below ((Q0 _ _).alloc (lR) (.cells #[.string ⟨#[112,111,100]⟩,.string nm,.string ⟨(Sv.dec pr).toArray⟩] 9)));have ha:Hid (fj w.heap.size (V1.alloc (.cells #[.string ⟨#[112,111,100]⟩,.string nm,.string ⟨(Sv.dec pr).toArray⟩] 9)) (.slice (some ⟨V1.heap.size,0,none⟩) 3 3) PW):=by unfold Hid;rw [H6.out];exact qW [[112,111,100],nm.data.toList,Sv.dec pr] V1 w.heap.size Hg.out.size (by simp)
 refine hK.out _ _ Ha.out.2 (λhQ=>?_);clear hK K;refine rd 6 (λK hK=>?_);go_simp
 go_wp2_with fail
 refine (H1.out _ _ ha.out).mono ?_;rintro e V3 ⟨rfl,hb⟩;have Hw:=qI (Hm.out.trans (hb.mono Hm.out.size));have Hb:=qI (show w.heap.size<V3.heap.size/\(mB w nm pr ao h.pod.cs.length c) V3 from ⟨Q1 Ha.out.1 hb.size,(hb.cell (p:=⟨w.heap.size,0,none⟩) Ha.out.1).trans Ha.out.2.1,(hb.cell (p:=⟨w.heap.size,1,none⟩) Ha.out.1).trans Ha.out.2.2.1,(hb.cell (p:=⟨w.heap.size,2,none⟩) Ha.out.1).trans Ha.out.2.2.2⟩);have Ho:=qI (Hq.out.below hb);clear hb
 go_wp2
 refine hK.out _ _ Hb.out.2 (λhQ=>?_);clear hK K;refine rd 7 (λK hK=>?_);go_simp
 go_wp2_with fail
 refine (ry _ _ [] PL _ Ho.out (Q5 (Nat.le_of_eq (Qd _)) (Q5 hA (by decide))) (Nat.succ_le_of_lt Hb.out.1)).mono ?_;rintro e V4 ⟨rfl,HW,Hn⟩;have Hu:=qI (Hw.out.trans (Hn.mono (Nat.le_succ _)));have Hh:=qI (show w.heap.size<V4.heap.size/\(mB w nm pr ao h.pod.cs.length c) V4 from ⟨Q1 Hb.out.1 Hn.size,(Hn.cell (p:=⟨w.heap.size,0,none⟩) (Nat.lt_succ_self _)).trans Hb.out.2.1,(Hn.cell (p:=⟨w.heap.size,1,none⟩) (Nat.lt_succ_self _)).trans Hb.out.2.2.1,(Hn.cell (p:=⟨w.heap.size,2,none⟩) (Nat.lt_succ_self _)).trans Hb.out.2.2.2⟩);have Hp:=qI HW;clear HW Hn
 go_wp2
 refine hK.out _ _ Hh.out.2 (λhQ=>?_);clear hK K;refine Qn (by kernel_rfl) ?_ _;have hM:=Hh.out.2.2.2;have hI:Hid (gW (w.heap.size+1) (w.heap.size+1) PL V4):=Hp.out;have hh:=Hu;have hp:=qI (Nat.succ_le_of_lt Hh.out.1);clear hQ Hg Hc Ht Hm Ha Hq ha Hw Hb Ho Hu Hh Hp Hi Hv HA H1 H6 HN HX;have H3:=qI (Sv.qK HO.out)
 go_wp2
 go_loopw [19] (λi wr=>∃ k:Nat,k<=h.pod.cs.length/\i=.int .i64 k/\Below w.heap.size w wr/\gW (w.heap.size+1) (w.heap.size+1) (PL++dR h k) wr/\Hid (w.heap.size+1<=wr.heap.size)) (λi _=>h.pod.cs.length - (intOf i).toNat)
 case atStart=>exact ⟨0,Nat.zero_le _,rfl,hh.out,by rw [dR,List.append_nil];exact hI.out,hp⟩
 case round=>
  obtain ⟨k,hk,rfl,hB,HK,HZ⟩:=hrel
  by_cases hlt:k<h.pod.cs.length
  ·obtain ⟨b,o,dv,rfl,Hy⟩:=HR.out (by omega);have Hy:=Hy.below hB;obtain ⟨c0,c1,c2,c3,c4,c5⟩:=Hy.at hlt;have H0:=(Hy.2 k hlt).2;have HB:=qI ((Q0 wr.heap.size wr).alloc (lR) (.cells #[.string (ct h.pod.cs k).nm,.int .i64 (ct h.pod.cs k).am,.int .i64 (ct h.pod.cs k).ab,.int .i64 (ct h.pod.cs k).cm,.int .i64 (ct h.pod.cs k).cb,dv k] 63));have Hx:=qI (hB.trans (HB.out.mono hB.size));have HQ:=qI (HK.below HB.out);have HC:=qI (H5.out k hlt (dv k) _ (H0.below HB.out) Hx.out);have HG:=qI (λW (hb:Below w.heap.size w W)=>hL.out k (by omega) W hb);obtain ⟨oc,og⟩:=Sv.vJ HO.out hlt;have hs:Hid (∀ v W base,fj base W v (dQ (ct h.pod.cs k)++dh (gv h.gs k))->Calls Tryz.prog 172 #[v] W λe w'=>e=.returned (.string ⟨(il (ct h.pod.cs k) (gv h.gs k)).toArray⟩)/\Below W.heap.size W w'):=λv W base hw=>wK v _ base W hw (by rw [GX];decide) (λx hx=>by
    rcases Qi.1 hx with hx|hx
    ·exact Q5 (Sv.vE oc x hx) (by decide)
    ·exact Sv.vF og x hx)
   have hQ:=Sv.vI oc og;have hN:=H3.out k hk;have hH:Hid (dR h (k+1)=dR h k++il (ct h.pod.cs k) (gv h.gs k)):=rfl;have he:Hid ((dQ (ct h.pod.cs k)).length=7):=rfl;have HP:Hid ((dh (gv h.gs k)).length=2):=rfl;obtain ⟨da,dc,hu,_⟩:=H0;clear Hy oc og H5 HK hB H3;generalize il (ct h.pod.cs k) (gv h.gs k)=CL at *;generalize dR h k=CT at *;generalize dQ (ct h.pod.cs k)=CW at *;generalize dh (gv h.gs k)=GW at *;generalize (ct h.pod.cs k).nm=nm' at *;generalize (ct h.pod.cs k).am=am at *;generalize (ct h.pod.cs k).ab=ab at *;generalize (ct h.pod.cs k).cm=cm at *;generalize (ct h.pod.cs k).cb=cb at *;generalize (ct h.pod.cs k).ds.length=dn at *;generalize dv k=d at *;subst hu;have hG:(PL++CT).length+CL.length<=1000000:=by rw [Q2];omega
   go_wp2_with fail
   refine HC.out.mono ?_;rintro e W1 ⟨v1,rfl,H4,Hz⟩;have HY:=qI Hz;have hJ:=qI H4;have HI:=qI (Hx.out.trans (Hz.mono Hx.out.size));clear Hz H4
   go_wp2_with fail
   refine (HG.out _ HI.out).mono ?_;rintro e W2 ⟨v2,rfl,H9,HH⟩;have HJ:=hJ.out.below HH;have HV:=qI (HY.out.trans (HH.mono HY.out.size));clear HH;obtain ⟨rfl,H2⟩|⟨g2,cap2,rfl,HS,hR,He⟩:=kL H9
   ·rw [HP.out] at H2;cases H2
   have Hj:∀ j u,(strs GW)[j]?=some u->W2.cell? ((⟨g2,0,none⟩:Addr).add j)=some u:=λj u hj=>by rw [Addr.add_lit,Qd];exact He j u hj
   have HU:=qI HV.out.size;have hE:CW.length+GW.length<=maxLen:=by rw [he.out,HP.out];decide
   have HE:(CW.length+GW.length)*16<=140737488355328:=by rw [he.out,HP.out];decide
   go_wp2_with (at_builtin;refine wpList_append_own _ rfl _ _ 78 rfl _ 9 i0 (.string ⟨#[]⟩) 1 16 Tryz.underlying78 hi hq hz hC rfl (by decide) _ _ _ rfl HJ ⟨g2,0,none⟩ GW.length cap2 (strs GW) rfl (by simp [strs]) Hj (jo GW) hE HE HU.out ?_;intro v' W3 Hk Hf _)
   have hD:Hid (fj _ W3 v' (CW++GW)):=qI (GV Hk);have H8:=qI (HV.out.grown Hf HU.out (λj hj=>(World.ownsRow.lt HJ j hj).1));clear Hk Hf HJ H9 He Hj
   go_wp2_with fail
   refine (hs.out _ _ _ hD.out).mono ?_;rintro e W4 ⟨rfl,H7⟩;have Hl:=qI (H8.out.trans (H7.mono H8.out.size));have HF:=qI (HQ.out.below Hl.out);have HL:=qI (Hx.out.trans (Hl.out.mono Hx.out.size));have hf:w.heap.size+1<=W4.heap.size:=Q5 HZ.out (Q5 HB.out.size Hl.out.size);clear H7
   go_wp2_with fail
   refine (ry _ _ _ _ _ HF.out hG hf).mono ?_;rintro e W5 ⟨rfl,Hr,HD⟩;have hl:=qI (HL.out.trans (HD.mono (Nat.le_succ _)));have hF:=qI (Q5 hf HD.size);have HM:=qI Hr;clear Hr HD
   go_wp2
   go_roundw
   case rel=>exact ⟨k+1,by omega,by go_num,hl.out,by rw [hH.out,<- List.append_assoc];exact HM.out,hF⟩
   case measure=>simp [intOf];omega
  ·have hv:k=h.pod.cs.length:=by omega
   subst hv
   go_wp2_with fail
   refine (wJ _ _ _ _ HK HZ.out).mono ?_;rintro e W1 ⟨rfl,Hz⟩;have hn:=hB.trans (Hz.mono (Nat.le_succ _))
   go_wp2
   go_ret;exact ⟨by rw [hy.out];rfl,hn⟩
end
section
open RowKit
def gi (w:World) (g:Nat) (wr:Bool) (bs:ByteArray):Prop:=g<w.heap.size/\w.cell? ⟨g,0,none⟩=some (.bool wr)/\w.cell? ⟨g,1,none⟩=some (.string bs)
theorem gi.block {w w':World} {g:Nat} {wr:Bool} {bs:ByteArray} (h:gi w g wr bs) (he:w'.heap[g]?=w.heap[g]?):gi w' g wr bs:=by
 obtain ⟨h0,h1,h2⟩:=h;have Ha:g<w'.heap.size:=by
  obtain ⟨hg,_⟩:=gS (he.trans (Array.getElem?_eq_getElem h0));exact hg
 exact ⟨Ha,(World.cell?_of_block (a:=⟨g,0,none⟩) he).trans h1,(World.cell?_of_block (a:=⟨g,1,none⟩) he).trans h2⟩
theorem cE {a b c:World} {B:Nat} (p:a.grownBy b (some B)) (q:b.grownBy c (some B)):a.grownBy c (some B):=
 ⟨q.os.trans p.os,q.tape.trans p.tape,q.output.trans p.output,Q5 p.size q.size,λj hj hne=>(q.block j (Q1 hj p.size) hne).trans (p.block j hj hne)⟩
theorem wL {a b c:World} {B:Nat} (p:a.grownBy b (some B)) (q:Below b.heap.size b c):a.grownBy c (some B):=
 ⟨q.os.trans p.os,q.tape.trans p.tape,q.output.trans p.output,Q5 p.size q.size,λj hj hne=>(q.block j (Q1 hj p.size)).trans (p.block j hj hne)⟩
theorem wM:(Tryz.prog.info? 247).map (λi=>(i.zero,i.size,i.bytes))=some (some (.agg #[.bool false,.string ByteArray.empty]),2,24):=by kernel_rfl
theorem wN {o:Option TypeInfo} {z:Option Value} {s b:Nat} (h:o.map (λi=>(i.zero,i.size,i.bytes))=some (z,s,b)):∃ i,o=some i/\i.zero=z/\i.size=s/\i.bytes=b:=by
 cases o with
 | none=>cases h
 | some i=>simp at h;exact ⟨i,rfl,h.1,h.2.1,h.2.2⟩
theorem wO (w:World) (wr:Bool) (bs:ByteArray) (t:TypeId):∀ j u,[Value.bool wr,Value.string bs][j]?=some u->(w.alloc (.cells #[.bool wr,.string bs] t)).drew.cell? ((⟨w.heap.size,0,none⟩:Addr).add j)=some u:=by
 intro j u hu;rw [Addr.add_lit,Qd]
 match j,hu with
 | 0,hu=>simp at hu;subst hu;simp
 | 1,hu=>simp at hu;subst hu;simp
theorem oJ {w:World} {base:Nat} {v:Value} {wr:Bool} {bs:ByteArray} (h:w.ownsRow base 247 2 v (0+1) ([]++[.bool wr,.string bs])):∃ g cap,v=.slice (some ⟨g,0,none⟩) 1 cap/\(base<=g/\1<=cap)/\gi w g wr bs:=by
 rcases h.2 with ⟨_,h0⟩|⟨g,cap,cur,hv,hb,hg,Hc,Ha,Hb,ht⟩
 ·cases h0
 ·have c0:cur[0]?=some (.bool wr):=by
   have:=congrArg (λl=>l[0]?) ht
   simpa using this
  have c1:cur[1]?=some (.string bs):=by
   have:=congrArg (λl=>l[1]?) ht
   simpa using this
  exact ⟨g,cap,hv,⟨hb,by omega⟩,(gS hg).1,by simp [World.cell?,hg,c0],by simp [World.cell?,hg,c1]⟩
theorem wQ {w w':World} (h:Below w.drew.heap.size w.drew w'):Below w.heap.size w w':=⟨h.os,h.tape,h.output,h.size,h.block⟩
theorem wR {W:World} {B p q:Nat} {s:Sd} {z0 z1 z2 z3:Value} {a:Act} {ty:TypeId} {pos:String} {after:Array Edge} {guard:Option (Nat × Bool)} {K:Act->World->Prop} {Q:Exit->Act->World->Prop}
  (c0:W.cell? ⟨B,0,none⟩=some z0) (c1:W.cell? ⟨B,1,none⟩=some z1) (c2:W.cell? ⟨B,2,none⟩=some z2) (c3:W.cell? ⟨B,3,none⟩=some z3) (f0:W.frozen? ⟨B,0,none⟩=false) (f1:W.frozen? ⟨B,1,none⟩=false) (f2:W.frozen? ⟨B,2,none⟩=false) (f3:W.frozen? ⟨B,3,none⟩=false)
  (hp:a.tmps[p]?.getD undef=.pointer (some ⟨B,0,none⟩)) (hq:a.tmps[q]?.getD undef=s.agg) (hk:K a (putS W B 0 s)) :
  Oper.wp Tryz.prog { dst:=none,op:=Op.store 143 (Operand.tmp p) (Operand.tmp q),type:=ty,pos:=pos,after:=after,guard:=guard } a W K Q:=by
 unfold putS at hk;unfold Sd.agg at hq;have HK:=qI hk;clear hk;go_simp;exact HK.out
def oK (w w':World) (B:Nat) (n k:Sd) (l:Int) (wr:Bool) (bs:ByteArray):Prop:=∃ g cap,aG w' B n k (.slice (some ⟨g,0,none⟩) 1 cap) l false/\(w.heap.size<=g/\1<=cap)/\gi w' g wr bs
theorem wS (B:Nat) (n k:Sd) (l:Int) (d:Bool) (wr:Bool) (bs:ByteArray) (w:World) (h:aG w B n k (.slice none 0 0) l d) (hl:-9223372036854775808<=l/\l<=9223372036854775807) (h0:bw l d=0) :
  Calls Tryz.prog 139 #[.pointer (some ⟨B,0,none⟩),.agg #[.bool wr,.string bs]] w λe w'=>e=.returned .nilIface/\oK w w' B (Chg.on ⟨wr,bs⟩ n) k (aR l d) wr bs/\w.grownBy w' (some B):=by
 have HV:=h.lt;have HO:=(Q0 w.heap.size w).alloc (lR) (.cells #[.bool wr,.string bs] 247);have HU:gi (w.alloc (.cells #[.bool wr,.string bs] 247)) w.heap.size wr bs:=⟨by simp,by simp,by simp⟩;have HS:=h.block (w':=w.alloc (.cells #[.bool wr,.string bs] 247)) (HO.block B HV);have HP:=qI (mn B n k _ l d _ HS hl);have hF:dS l d=false:=by
  rcases mo l d with ⟨e1,_⟩|⟨_,e2⟩
  ·rw [h0] at e1;cases e1
  ·exact e2
 rw [h0,hF,qT] at HP;have Hr:=qI (AH ⟨wr,bs⟩ n);obtain ⟨n',HR⟩:∃ n',n'=Chg.on ⟨wr,bs⟩ n:=⟨_,rfl⟩;rw [<- HR] at Hr ⊢;unfold Chg.agg at Hr;rw [show n.agg=.agg #[.bool n.ft,.string n.fb,.bool n.dt,.string n.db] from rfl] at Hr;dsimp only at Hr;have Hy:w.heap.size≠B:=by omega
 have HC:=qI HO;have HT:=qI HU;clear h HS HR hF h0 HO HU
 go_enter Tryz.func139,Tryz.ntmps139
 go_wp2_with fail
 refine HP.out.mono ?_;rintro e w1 ⟨rfl,h1,HN⟩;have Ht:gi w1 w.heap.size wr bs:=HT.out.block (HN.1.block w.heap.size (by simp) (λe=>Hy (Ql e)));have HL:=qI Ht;have HD:=Ht.1;have HQ:=h1.lt;have HK:=qI (cE ⟨HC.out.os,HC.out.tape,HC.out.output,HC.out.size,λj hj _=>HC.out.block j hj⟩ HN.1);obtain ⟨a0,a1,a2,a3⟩:=h1.now;obtain ⟨_,x0,x1⟩:=Ht;have H1:=qI h1;clear h1 HN HP HC HT
 as_aux_lemma=>
 go_wp2_with fail
 refine wp_region_held_drew (S:=λ_=>True) (by kernel_rfl) trivial (λhQ=>?_);refine tk 0 ?_;refine tk 2 ?_;refine tk 3 ?_;refine tk 4 ?_;refine wpAnyH_ready (rs:=[1,5]) (by kernel_rfl) (by simp) (AllReadyH.cons rfl (λK hK=>?_) (AllReadyH.cons rfl (λK hK=>?_) AllReadyH.nil))
 ·go_simp;refine hK.out _ _ trivial (λhQ=>?_);clear hK K;(try simp only [Act.put,s1,s2,s3]);refine rd 5 (λK hK=>?_);go_simp;refine hK.out _ _ trivial (λhQ=>?_);clear hK K;(try simp only [Act.put,s1,s2,s3]);refine rd 6 (λK hK=>?_);go_simp
  go_wp2_with fail
  refine (Hr.out _).mono ?_;rintro e w5 ⟨rfl,Hk⟩;have Hj:=H1.out.block (w':=w5) (Hk.block B HQ);have HG:=qI (show gi w5 w.heap.size wr bs from HL.out.block (Hk.block w.heap.size HD));have HA:=qI Hk.size;have HE:=qI (wL HK.out (wQ Hk))
  go_wp2
  refine hK.out _ _ trivial (λhQ=>?_);clear hK K;refine tk 7 ?_;refine tk 8 ?_;obtain ⟨s0,s1,s2,s3⟩:=Hj.now;have Hm:=qI (Hj.setNow n');have Hh:=qI (show gi (putS w5 B 0 n') w.heap.size wr bs from HG.out.block ((cJ.refl B w5).putS 0 n' |>.1.block w.heap.size (by have:=HA.out;have:=HD;simp at *;omega) (λe=>Hy (Ql e))));have HH:=qI (show w.grownBy (putS w5 B 0 n') (some B) from cE HE.out ((cJ.refl B w5).putS 0 n').1);have HM:=qI (show w.heap.size+1<=(putS w5 B 0 n').heap.size from by rw [((cJ.refl B w5).putS 0 n').2];have:=HA.out;have:=HD;simp at *;omega);refine rd 9 (λK hK=>?_);rw [if_pos (by rfl)];refine wR s0 s1 s2 s3 (Hj.frozen 0) (Hj.frozen 1) (Hj.frozen 2) (Hj.frozen 3) rfl rfl ?_;refine hK.out _ _ trivial (λhQ=>?_);clear hK K Hj HG HE s0 s1 s2 s3 H1 HL HK Hk HA Hr;generalize putS w5 B 0 n'=w6 at *;refine Qn (by kernel_rfl) ?_ _
  as_aux_lemma=>
  obtain ⟨i0,hi,HI,HJ,HF⟩:=wN wM;obtain ⟨x8,_,_⟩:=Hm.out.rest;have Hx:=qI Hm.out.lt;have Ho:=(Q0 w6.heap.size w6).alloc (lR) (.cells #[.bool wr,.string bs] 247);have x8':=(Ho.cell (p:=⟨B,8,none⟩) Hx.out).trans x8;have Hv:=qI (Hh.out.block (Ho.block w.heap.size Hh.out.1));have Hp:=qI (show ∀ j,j<w6.heap.size->(w6.alloc (.cells #[.bool wr,.string bs] 247)).drew.heap[j]?=w6.heap[j]? from λj hj=>Ho.block j hj);have Hq:=qI (show ∀ j u,[Value.bool wr,Value.string bs][j]?=some u->(w6.alloc (.cells #[.bool wr,.string bs] 247)).drew.cell? ((⟨w6.heap.size,0,none⟩:Addr).add j)=some u from wO w6 wr bs _);have Hn:=qI (show w.heap.size<=(w6.alloc (.cells #[.bool wr,.string bs] 247)).drew.heap.size from by have:=HM.out;simp [World.drew];omega);clear Ho a0 a1 a2 a3 x0 x1
  go_wp2_with fail
  refine wp_region_held_drew (S:=λw'=>w'.cell? ⟨w.heap.size,0,none⟩=some (.bool wr)/\w'.cell? ⟨w.heap.size,1,none⟩=some (.string bs)) (by kernel_rfl) Hh.out.2 (λhQ=>?_);refine tk 0 ?_;refine tk 1 ?_;refine tk 2 ?_;refine tk 3 ?_;refine tk 5 ?_;refine wpAnyH_ready (rs:=[4,6]) (by kernel_rfl) (by simp) (AllReadyH.cons rfl (λK hK=>?_) (AllReadyH.cons rfl (λK hK=>?_) AllReadyH.nil))
  ·go_simp;refine hK.out _ _ Hh.out.2 (λhQ=>?_);clear hK K;(try simp only [Act.put,s1,s2,s3]);refine rd 6 (λK hK=>?_);go_simp;refine hK.out _ _ Hv.out.2 (λhQ=>?_);clear hK K;(try simp only [Act.put,s1,s2,s3]);refine rd 7 (λK hK=>?_);rw [if_pos (by rfl)]
   refine wp_append_own (o := { dst := some 27, op := Op.call { callee := Callee.builtin Builtin.append, args := #[Operand.tmp 24, Operand.tmp 26], argTypes := #[144, 144] }, type := 144, pos := "disk.go:122", after := #[{ on := 4, ground := Ground.data }, { on := 6, ground := Ground.data }], guard := none }) _ _ _ 144 rfl w.heap.size 247 i0 (.agg #[.bool false, .string ByteArray.empty]) 2 24 Tryz.underlying144 hi HI HJ HF rfl (by decide) (.slice none 0 0) 0 [] rfl (Qw _ _ _ _) ⟨w6.heap.size, 0, none⟩ 1 1 [.bool wr, .string bs] rfl rfl Hq.out (by intro u hu; simp at hu; rcases hu with rfl | rfl <;> rfl) (by unfold maxLen; omega) (by omega) Hn.out ?_
   intro v8 w8 Hb Ha _;obtain ⟨g8,cap8,rfl,HB,Hi⟩:=oJ Hb;have He:∀ j,j<w6.heap.size->w8.heap[j]?=w6.heap[j]?:=λj hj=>(Ha.block j (by simp [World.drew];omega) (by simp [Value.ownBlock])).trans (Hp.out j hj)
   have Hg:=Hm.out.block (w':=w8) (He B Hx.out);have Hc:=Hh.out.block (w':=w8) (He w.heap.size Hh.out.1);have Hl:=qI (show w.grownBy w8 (some B) from cE HH.out ⟨Ha.os,Ha.tape,Ha.output,Q5 (by simp [World.drew]) Ha.size,λj hj _=>He j hj⟩);clear He Hb Ha Hq Hn Hp;refine hK.out _ _ Hc.2 (λhQ=>?_);clear hK K;refine tk 8 ?_;refine tk 9 ?_;obtain ⟨q8,_,_⟩:=Hg.rest;have r8:=Hg.frozen 8;have Hu:=qI (Hg.set8 (.slice (some ⟨g8,0,none⟩) 1 cap8));have Hf:=qI ((cJ.refl B w8).set 8 (.slice (some ⟨g8,0,none⟩) 1 cap8));have Hs:=qI (Hi.block (Hf.out.1.block g8 Hi.1 (λe=>by have:=Ql e;omega)));have Hw:=qI (Hc.block (Hf.out.1.block w.heap.size Hc.1 (λe=>Hy (Ql e))));have Hz:=qI (cE Hl.out Hf.out.1);clear Hg Hc Hi Hl Hf;refine rd 10 (λK hK=>?_);go_simp;refine hK.out _ _ Hw.out.2 (λhQ=>?_);clear hK K;(try simp only [Act.put,s1,s2,s3]);refine Qn (by kernel_rfl) ?_ _
   go_wp2
   go_ret;exact ⟨rfl,⟨g8,cap8,Hu.out,HB,Hs.out⟩,Hz.out⟩
  ·go_simp;refine hK.out _ _ Hv.out.2 (λhQ=>?_);clear hK K;(try simp only [Act.put,s1,s2,s3]);refine rd 4 (λK hK=>?_);go_simp;refine hK.out _ _ Hv.out.2 (λhQ=>?_);clear hK K;(try simp only [Act.put,s1,s2,s3]);refine rd 7 (λK hK=>?_);rw [if_pos (by rfl)]
   refine wp_append_own (o := { dst := some 27, op := Op.call { callee := Callee.builtin Builtin.append, args := #[Operand.tmp 24, Operand.tmp 26], argTypes := #[144, 144] }, type := 144, pos := "disk.go:122", after := #[{ on := 4, ground := Ground.data }, { on := 6, ground := Ground.data }], guard := none }) _ _ _ 144 rfl w.heap.size 247 i0 (.agg #[.bool false, .string ByteArray.empty]) 2 24 Tryz.underlying144 hi HI HJ HF rfl (by decide) (.slice none 0 0) 0 [] rfl (Qw _ _ _ _) ⟨w6.heap.size, 0, none⟩ 1 1 [.bool wr, .string bs] rfl rfl Hq.out (by intro u hu; simp at hu; rcases hu with rfl | rfl <;> rfl) (by unfold maxLen; omega) (by omega) Hn.out ?_
   intro v8 w8 Hb Ha _;obtain ⟨g8,cap8,rfl,HB,Hi⟩:=oJ Hb;have He:∀ j,j<w6.heap.size->w8.heap[j]?=w6.heap[j]?:=λj hj=>(Ha.block j (by simp [World.drew];omega) (by simp [Value.ownBlock])).trans (Hp.out j hj)
   have Hg:=Hm.out.block (w':=w8) (He B Hx.out);have Hc:=Hh.out.block (w':=w8) (He w.heap.size Hh.out.1);have Hl:=qI (show w.grownBy w8 (some B) from cE HH.out ⟨Ha.os,Ha.tape,Ha.output,Q5 (by simp [World.drew]) Ha.size,λj hj _=>He j hj⟩);clear He Hb Ha Hq Hn Hp;refine hK.out _ _ Hc.2 (λhQ=>?_);clear hK K;refine tk 8 ?_;refine tk 9 ?_;obtain ⟨q8,_,_⟩:=Hg.rest;have r8:=Hg.frozen 8;have Hu:=qI (Hg.set8 (.slice (some ⟨g8,0,none⟩) 1 cap8));have Hf:=qI ((cJ.refl B w8).set 8 (.slice (some ⟨g8,0,none⟩) 1 cap8));have Hs:=qI (Hi.block (Hf.out.1.block g8 Hi.1 (λe=>by have:=Ql e;omega)));have Hw:=qI (Hc.block (Hf.out.1.block w.heap.size Hc.1 (λe=>Hy (Ql e))));have Hz:=qI (cE Hl.out Hf.out.1);clear Hg Hc Hi Hl Hf;refine rd 10 (λK hK=>?_);go_simp;refine hK.out _ _ Hw.out.2 (λhQ=>?_);clear hK K;(try simp only [Act.put,s1,s2,s3]);refine Qn (by kernel_rfl) ?_ _
   go_wp2
   go_ret;exact ⟨rfl,⟨g8,cap8,Hu.out,HB,Hs.out⟩,Hz.out⟩
 ·go_simp;refine hK.out _ _ trivial (λhQ=>?_);clear hK K;(try simp only [Act.put,s1,s2,s3]);refine rd 1 (λK hK=>?_);go_simp;refine hK.out _ _ trivial (λhQ=>?_);clear hK K;(try simp only [Act.put,s1,s2,s3]);refine rd 6 (λK hK=>?_);go_simp
  go_wp2_with fail
  refine (Hr.out _).mono ?_;rintro e w5 ⟨rfl,Hk⟩;have Hj:=H1.out.block (w':=w5) (Hk.block B HQ);have HG:=qI (show gi w5 w.heap.size wr bs from HL.out.block (Hk.block w.heap.size HD));have HA:=qI Hk.size;have HE:=qI (wL HK.out (wQ Hk))
  go_wp2
  refine hK.out _ _ trivial (λhQ=>?_);clear hK K;refine tk 7 ?_;refine tk 8 ?_;obtain ⟨s0,s1,s2,s3⟩:=Hj.now;have Hm:=qI (Hj.setNow n');have Hh:=qI (show gi (putS w5 B 0 n') w.heap.size wr bs from HG.out.block ((cJ.refl B w5).putS 0 n' |>.1.block w.heap.size (by have:=HA.out;have:=HD;simp at *;omega) (λe=>Hy (Ql e))));have HH:=qI (show w.grownBy (putS w5 B 0 n') (some B) from cE HE.out ((cJ.refl B w5).putS 0 n').1);have HM:=qI (show w.heap.size+1<=(putS w5 B 0 n').heap.size from by rw [((cJ.refl B w5).putS 0 n').2];have:=HA.out;have:=HD;simp at *;omega);refine rd 9 (λK hK=>?_);rw [if_pos (by rfl)];refine wR s0 s1 s2 s3 (Hj.frozen 0) (Hj.frozen 1) (Hj.frozen 2) (Hj.frozen 3) rfl rfl ?_;refine hK.out _ _ trivial (λhQ=>?_);clear hK K Hj HG HE s0 s1 s2 s3 H1 HL HK Hk HA Hr;generalize putS w5 B 0 n'=w6 at *;refine Qn (by kernel_rfl) ?_ _
  as_aux_lemma=>
  obtain ⟨i0,hi,HI,HJ,HF⟩:=wN wM;obtain ⟨x8,_,_⟩:=Hm.out.rest;have Hx:=qI Hm.out.lt;have Ho:=(Q0 w6.heap.size w6).alloc (lR) (.cells #[.bool wr,.string bs] 247);have x8':=(Ho.cell (p:=⟨B,8,none⟩) Hx.out).trans x8;have Hv:=qI (Hh.out.block (Ho.block w.heap.size Hh.out.1));have Hp:=qI (show ∀ j,j<w6.heap.size->(w6.alloc (.cells #[.bool wr,.string bs] 247)).drew.heap[j]?=w6.heap[j]? from λj hj=>Ho.block j hj);have Hq:=qI (show ∀ j u,[Value.bool wr,Value.string bs][j]?=some u->(w6.alloc (.cells #[.bool wr,.string bs] 247)).drew.cell? ((⟨w6.heap.size,0,none⟩:Addr).add j)=some u from wO w6 wr bs _);have Hn:=qI (show w.heap.size<=(w6.alloc (.cells #[.bool wr,.string bs] 247)).drew.heap.size from by have:=HM.out;simp [World.drew];omega);clear Ho a0 a1 a2 a3 x0 x1
  go_wp2_with fail
  refine wp_region_held_drew (S:=λw'=>w'.cell? ⟨w.heap.size,0,none⟩=some (.bool wr)/\w'.cell? ⟨w.heap.size,1,none⟩=some (.string bs)) (by kernel_rfl) Hh.out.2 (λhQ=>?_);refine tk 0 ?_;refine tk 1 ?_;refine tk 2 ?_;refine tk 3 ?_;refine tk 5 ?_;refine wpAnyH_ready (rs:=[4,6]) (by kernel_rfl) (by simp) (AllReadyH.cons rfl (λK hK=>?_) (AllReadyH.cons rfl (λK hK=>?_) AllReadyH.nil))
  ·go_simp;refine hK.out _ _ Hh.out.2 (λhQ=>?_);clear hK K;(try simp only [Act.put,s1,s2,s3]);refine rd 6 (λK hK=>?_);go_simp;refine hK.out _ _ Hv.out.2 (λhQ=>?_);clear hK K;(try simp only [Act.put,s1,s2,s3]);refine rd 7 (λK hK=>?_);rw [if_pos (by rfl)]
   refine wp_append_own (o := { dst := some 27, op := Op.call { callee := Callee.builtin Builtin.append, args := #[Operand.tmp 24, Operand.tmp 26], argTypes := #[144, 144] }, type := 144, pos := "disk.go:122", after := #[{ on := 4, ground := Ground.data }, { on := 6, ground := Ground.data }], guard := none }) _ _ _ 144 rfl w.heap.size 247 i0 (.agg #[.bool false, .string ByteArray.empty]) 2 24 Tryz.underlying144 hi HI HJ HF rfl (by decide) (.slice none 0 0) 0 [] rfl (Qw _ _ _ _) ⟨w6.heap.size, 0, none⟩ 1 1 [.bool wr, .string bs] rfl rfl Hq.out (by intro u hu; simp at hu; rcases hu with rfl | rfl <;> rfl) (by unfold maxLen; omega) (by omega) Hn.out ?_
   intro v8 w8 Hb Ha _;obtain ⟨g8,cap8,rfl,HB,Hi⟩:=oJ Hb;have He:∀ j,j<w6.heap.size->w8.heap[j]?=w6.heap[j]?:=λj hj=>(Ha.block j (by simp [World.drew];omega) (by simp [Value.ownBlock])).trans (Hp.out j hj)
   have Hg:=Hm.out.block (w':=w8) (He B Hx.out);have Hc:=Hh.out.block (w':=w8) (He w.heap.size Hh.out.1);have Hl:=qI (show w.grownBy w8 (some B) from cE HH.out ⟨Ha.os,Ha.tape,Ha.output,Q5 (by simp [World.drew]) Ha.size,λj hj _=>He j hj⟩);clear He Hb Ha Hq Hn Hp;refine hK.out _ _ Hc.2 (λhQ=>?_);clear hK K;refine tk 8 ?_;refine tk 9 ?_;obtain ⟨q8,_,_⟩:=Hg.rest;have r8:=Hg.frozen 8;have Hu:=qI (Hg.set8 (.slice (some ⟨g8,0,none⟩) 1 cap8));have Hf:=qI ((cJ.refl B w8).set 8 (.slice (some ⟨g8,0,none⟩) 1 cap8));have Hs:=qI (Hi.block (Hf.out.1.block g8 Hi.1 (λe=>by have:=Ql e;omega)));have Hw:=qI (Hc.block (Hf.out.1.block w.heap.size Hc.1 (λe=>Hy (Ql e))));have Hz:=qI (cE Hl.out Hf.out.1);clear Hg Hc Hi Hl Hf;refine rd 10 (λK hK=>?_);go_simp;refine hK.out _ _ Hw.out.2 (λhQ=>?_);clear hK K;(try simp only [Act.put,s1,s2,s3]);refine Qn (by kernel_rfl) ?_ _
   go_wp2
   go_ret;exact ⟨rfl,⟨g8,cap8,Hu.out,HB,Hs.out⟩,Hz.out⟩
  ·go_simp;refine hK.out _ _ Hv.out.2 (λhQ=>?_);clear hK K;(try simp only [Act.put,s1,s2,s3]);refine rd 4 (λK hK=>?_);go_simp;refine hK.out _ _ Hv.out.2 (λhQ=>?_);clear hK K;(try simp only [Act.put,s1,s2,s3]);refine rd 7 (λK hK=>?_);rw [if_pos (by rfl)]
   refine wp_append_own (o := { dst := some 27, op := Op.call { callee := Callee.builtin Builtin.append, args := #[Operand.tmp 24, Operand.tmp 26], argTypes := #[144, 144] }, type := 144, pos := "disk.go:122", after := #[{ on := 4, ground := Ground.data }, { on := 6, ground := Ground.data }], guard := none }) _ _ _ 144 rfl w.heap.size 247 i0 (.agg #[.bool false, .string ByteArray.empty]) 2 24 Tryz.underlying144 hi HI HJ HF rfl (by decide) (.slice none 0 0) 0 [] rfl (Qw _ _ _ _) ⟨w6.heap.size, 0, none⟩ 1 1 [.bool wr, .string bs] rfl rfl Hq.out (by intro u hu; simp at hu; rcases hu with rfl | rfl <;> rfl) (by unfold maxLen; omega) (by omega) Hn.out ?_
   intro v8 w8 Hb Ha _;obtain ⟨g8,cap8,rfl,HB,Hi⟩:=oJ Hb;have He:∀ j,j<w6.heap.size->w8.heap[j]?=w6.heap[j]?:=λj hj=>(Ha.block j (by simp [World.drew];omega) (by simp [Value.ownBlock])).trans (Hp.out j hj)
   have Hg:=Hm.out.block (w':=w8) (He B Hx.out);have Hc:=Hh.out.block (w':=w8) (He w.heap.size Hh.out.1);have Hl:=qI (show w.grownBy w8 (some B) from cE HH.out ⟨Ha.os,Ha.tape,Ha.output,Q5 (by simp [World.drew]) Ha.size,λj hj _=>He j hj⟩);clear He Hb Ha Hq Hn Hp;refine hK.out _ _ Hc.2 (λhQ=>?_);clear hK K;refine tk 8 ?_;refine tk 9 ?_;obtain ⟨q8,_,_⟩:=Hg.rest;have r8:=Hg.frozen 8;have Hu:=qI (Hg.set8 (.slice (some ⟨g8,0,none⟩) 1 cap8));have Hf:=qI ((cJ.refl B w8).set 8 (.slice (some ⟨g8,0,none⟩) 1 cap8));have Hs:=qI (Hi.block (Hf.out.1.block g8 Hi.1 (λe=>by have:=Ql e;omega)));have Hw:=qI (Hc.block (Hf.out.1.block w.heap.size Hc.1 (λe=>Hy (Ql e))));have Hz:=qI (cE Hl.out Hf.out.1);clear Hg Hc Hi Hl Hf;refine rd 10 (λK hK=>?_);go_simp;refine hK.out _ _ Hw.out.2 (λhQ=>?_);clear hK K;(try simp only [Act.put,s1,s2,s3]);refine Qn (by kernel_rfl) ?_ _
   go_wp2
   go_ret;exact ⟨rfl,⟨g8,cap8,Hu.out,HB,Hs.out⟩,Hz.out⟩
end
section
namespace Ol
open Ost (Cpu ae dif af)
open Dvs (Dv dv)
def dH (l:List Cpu):Nat->Nat
 | 0=>0
 | k+1=>dH l k ||| 2 ^ (l.getD k af).node.toNat
def dV (a:Nat) (ds:List Dv):Nat->Nat
 | 0=>a
 | k+1=>dV a ds k ||| 2 ^ (dv ds k).node.toNat
structure Cf where
 l:List Cpu
 keep:Nat
 nb:Int
 pol:Int
 ds:List Dv
def bQ (c:Cf):Int:=
 if Ost.fault c.l≠0 then Ost.fault c.l
 else if ¬ (c.keep &&& ae (λ_=>true) c.l=c.keep)\/¬ (0<=c.nb/\c.nb<=1125899906842624)\/¬ (0<=c.pol/\c.pol<=3) then 1
 else (Dvs.fault c.ds:Nat)
def cL (c:Cf):Mc:=⟨c.l,dif (ae (λ_=>true) c.l) c.keep,dV (dH c.l c.l.length) c.ds c.ds.length,c.nb,c.pol⟩
theorem wT {x:Int} (h0:0<=x) (h3:x<=3):2 ^ x.toNat<16/\1<=2 ^ x.toNat:=by
 have:x.toNat=0\/x.toNat=1\/x.toNat=2\/x.toNat=3:=by omega
 rcases this with h|h|h|h <;> rw [h] <;> decide
theorem wU {a b:Nat} (ha:a<16) (hb:b<16):a ||| b<16:=Nat.or_lt_two_pow (n:=4) ha hb
theorem wV {l:List Cpu} (h:∀ k,k<l.length->0<=(l.getD k af).node/\(l.getD k af).node<=3):∀ k,k<=l.length->dH l k<16/\(0<k->1<=dH l k):=by
 intro k
 induction k with
 | zero=>intro _;exact ⟨Nat.zero_lt_succ 15,λh=>by omega⟩
 | succ k ih=>
  intro hk;have h1:=ih (by omega);have h2:=wT (h k (by omega)).1 (h k (by omega)).2;rw [dH];exact ⟨wU h1.1 h2.1,λ_=>Q5 h2.2 Nat.right_le_or⟩
theorem GZ {a:Nat} {ds:List Dv} (ha:a<16) (h1:1<=a) (h:∀ k,k<ds.length->0<=(dv ds k).node/\(dv ds k).node<=3):∀ k,k<=ds.length->dV a ds k<16/\1<=dV a ds k:=by
 intro k
 induction k with
 | zero=>intro _;exact ⟨ha,h1⟩
 | succ k ih=>
  intro hk;have h1:=ih (by omega);have h2:=wT (h k (by omega)).1 (h k (by omega)).2;rw [dV];exact ⟨wU h1.1 h2.1,Q5 h1.2 Nat.left_le_or⟩
end Ol
end
section
open RowKit
open Qos (Nd Ct Pd nd ct pd)
open Sv (Gv Hd gv hd)
theorem G0:(Tryz.prog.info? 63).map (λi=>(i.zero,i.size,i.bytes))=some (some (.agg #[.string ByteArray.empty,.int .i64 0,.int .i64 0,.int .i64 0,.int .i64 0,.slice none 0 0]),6,72):=by kernel_rfl
theorem G1:(Tryz.prog.info? 69).map (λi=>(i.zero,i.size,i.bytes))=some (some (.agg #[.int .u64 0,.slice none 0 0]),2,32):=by kernel_rfl
end
