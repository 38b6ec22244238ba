import Derived.Test.YtbmmnflgnmjboaaGreatDoorR11
import Derived.Test.YtbmmnflgnmjboaaGreatDoorCards
import Derived.Test.YtbmmnflgnmjboaaGreatDoorTie
import Derived.ShutString
import Derived.Deep.DeepHandedRow
import Derived.Lib.LaidTab
import Derived.Stop.LaidErr
set_option maxRecDepth 100000
set_option maxHeartbeats 16000000
open Go.Proofs.Tryz
namespace Go.Proofs.YtbmmnflgnmjboaaGreatDoor
section
open RowKit
open Qos (Nd Ct Pd nd ct pd)
open Sv (Gv Hd gv hd e8 gI gZ mo dQ df fC OkN OkC OkG)
open S1 (Tab strs jV jj kM iC lT)
theorem gO {w:World} {a:Addr} {v:Value} (h:w.cell? a=some v) (o:Obj):(w.alloc o).cell? a=some v:=
 (((Q0 w.heap.size w).alloc (lR) o).cell (Q3 w _ h)).trans h
theorem mE {B:Nat} {a w:World} (h:Below B a w):Below B a w.drew:=⟨h.os,h.tape,h.output,h.size,h.block⟩
def ci (w:World):Prop:=Tab w/\0<w.heap.size
theorem ci.below {w w':World} (h:ci w) (hb:Below w.heap.size w w'):ci w':=⟨h.1.below hb h.2,Q1 h.2 hb.size⟩
theorem li (x:Int) (w:World) (h0:0<=x) (h1:x<=1125899906842624) (ht:ci w):Calls prog 173 #[.int .i64 x] w λe w'=>e=.returned (.string ⟨(Sv.dec x).toArray⟩)/\Below w.heap.size w w':=lT x w h0 (by omega) ht.1
abbrev wK:=λ(w:World) (kd:ByteArray) (m:Int) (w':World)=>w'.cell? ⟨w.heap.size,0,none⟩=some (.string kd)/\w'.cell? ⟨w.heap.size,1,none⟩=some (.int .i64 m)
theorem GG (d:Nd) (w:World) (h:OkN d) (ht:ci w):Calls prog 223 #[.agg #[.string d.kind,.int .i64 d.many]] w λe w'=>e=.returned (.string ⟨(e8 d).toArray⟩)/\Below w.heap.size w w':=by
 have h1:=(Sv.g9 h.1).2;have h2:=Sv.iK d.many (by have:=h.2.2;omega);have hk:ByteArray.mk d.kind.data.toList.toArray=d.kind:=by simp
 have ea:=kY d.kind.data.toList [58];have eb:=kY (d.kind.data.toList++[58]) (Sv.dec d.many);have HE:Hid (e8 d=d.kind.data.toList++[58]++Sv.dec d.many):=rfl;have Hh:=h.2.1;have Hg:=h.2.2;have Hf:d.kind.size<=8:=Q5 (Nat.le_of_eq (by simp)) h1;rw [hk] at ea;clear hk;have HT:=qI ht;have Hb:=qI (mE ((Q0 w.heap.size w).alloc (lR) (.cells #[.string d.kind,.int .i64 d.many] 109)));generalize e8 d=S at *;generalize d.many=m at *;generalize d.kind=kd at *;have q1:¬ 9223372036854775807<kd.size+1:=by omega
 have q2:¬ 9223372036854775807<kd.size+1+(Sv.dec m).length:=by omega
 clear h ht
 go_enter func223,ntmps223
 go_wp2_with fail
 have Ha:=qI (show w.heap.size<(w.alloc (.cells #[.string kd,.int .i64 m] 109)).drew.heap.size/\(w.alloc (.cells #[.string kd,.int .i64 m] 109)).drew.cell? ⟨w.heap.size,0,none⟩=some (.string kd)/\(w.alloc (.cells #[.string kd,.int .i64 m] 109)).drew.cell? ⟨w.heap.size,1,none⟩=some (.int .i64 m) from ⟨by simp,by simp,by simp⟩);refine wp_region_held_drew (S:=wK w kd m) (by kernel_rfl) Ha.out.2 λhQ=>?_;refine tk 0 ?_;refine tk 1 ?_;refine tk 2 ?_;refine tk 3 ?_;refine tk 4 ?_;refine rd 5 λK hK=>?_;go_simp
 go_wp2_with fail
 refine (li m _ (by omega) (by omega) (HT.out.below Hb.out)).mono ?_;rintro e V1 ⟨rfl,hb⟩;have Hc:=qI (Hb.out.trans (hb.mono Hb.out.size));have He:=qI (show w.heap.size<V1.heap.size/\(wK w kd m) V1 from ⟨Q1 Ha.out.1 hb.size,(hb.cell (p:=⟨w.heap.size,0,none⟩) Ha.out.1).trans Ha.out.2.1,(hb.cell (p:=⟨w.heap.size,1,none⟩) Ha.out.1).trans Ha.out.2.2⟩);clear hb
 go_wp2
 refine hK.out _ _ He.out.2 λhQ=>?_;clear hK K;refine tk 6 ?_;refine tk 7 ?_;refine Qn (by kernel_rfl) ?_ _
 go_wp2
 go_ret;exact ⟨by rw [HE.out,List.append_assoc];rfl,Hc.out⟩
def fG (xs:List Nd) (k:Nat):List (List UInt8):=(xs.take k).map e8
theorem GH {xs:List Nd} {k:Nat} (h:k<xs.length):fG xs (k+1)=fG xs k++[e8 (nd xs k)]:=by
 unfold fG;rw [Qa h,Qj];simp [nd,h]
theorem rz {xs:List Nd} {k:Nat} (h:k<=xs.length):(fG xs k).length=k:=by
 unfold fG;simp;omega
theorem wL (xs:List Nd):fG xs xs.length=xs.map e8:=by unfold fG;rw [Qh]
theorem GI (v:Value) (xs:List Nd) (w:World) (h:be w v xs) (hx:∀ x∈xs,OkN x) (hl:xs.length<=3) (ht:ci w) :
  Calls prog 222 #[v,.func (.func 223) #[] #[]] w λe w'=>e=.returned (.string ⟨(gI xs).toArray⟩)/\Below w.heap.size w w':=by
 obtain ⟨i0,hi,Hp,Hl,Hn⟩:=info_parts iC;obtain ⟨ao,c,rfl,hm,hr⟩:=h;have HR:=qI hr;have HT:=qI ht;have HX:=qI hx;clear hr ht hx;unfold maxLen at hm;have HJ:Hid (∀ (v:Value) (w1:World),w1.ownsRow w.heap.size 9 1 v (fG xs xs.length).length (strs (fG xs xs.length))->Calls prog 220 #[v,.string ⟨#[44]⟩] w1 λe w'=>e=.returned (.string ⟨(Lib.join (fG xs xs.length) [44]).toArray⟩)/\Below w1.heap.size w1 w'):=by
  intro v w1 h;refine qT 44 v _ w1 _ h (by rw [rz (lR)];omega) ?_;refine Q5 (Sv.kc 44 29 _ λx hx=>?_) (by rw [rz (lR)];omega);rw [wL] at hx;obtain ⟨d,hd,rfl⟩:=Qk.1 hx;exact Sv.vG (HX.out d hd)
 have HD:Hid (Sv.ei (Lib.join (fG xs xs.length) [44])=gI xs):=by unfold Hid gI;rw [wL]
 go_enter func222,ntmps222
 go_wp2
 go_loopw [5,10] (λr i wr=>∃ k:Nat,k<=xs.length/\i=.int .i64 k/\wr.ownsRow w.heap.size 9 1 r (fG xs k).length (strs (fG xs k))/\Below w.heap.size w wr) (λ_ i _=>xs.length - (intOf i).toNat)
 case atStart=>exact ⟨0,by omega,rfl,Qw _ _ _ _,Q0 _ _⟩
 case round=>
  obtain ⟨k,hk,rfl,Hc,hB⟩:=hrel
  by_cases hlt:k<xs.length
  ·obtain ⟨b,o,rfl,hb,hc⟩:=HR.out (by omega);obtain ⟨d0,d1⟩:=hc k hlt;have c0:=(hB.cell (p:=⟨b,o+k*2,none⟩) hb).trans d0;have c1:=(hB.cell (p:=⟨b,o+k*2+1,none⟩) hb).trans d1;have HS:=qI (GH hlt);have hle:=rz hk;have Hj:=HX.out (nd xs k) (by simp [nd,hlt]);have Hq:=hB.size;have Hi:=qI (hB.alloc hB.size (.cells #[.string (nd xs k).kind,.int .i64 (nd xs k).many] 109));have HI:=qI (GG (nd xs k) _ Hj (HT.out.below Hi.out));have Hg:=Hc.alloc (.cells #[.string (nd xs k).kind,.int .i64 (nd xs k).many] 109);clear hc d0 d1 Hj;generalize e8 (nd xs k)=T at *;generalize (nd xs k).kind=kd at *;generalize (nd xs k).many=m at *
   go_wp2_with fail
   refine HI.out.mono ?_;rintro e w1 ⟨rfl,Hf⟩;have Hh:=qI (Hi.out.trans (Hf.mono Hi.out.size));have Ha:=qS Hg Hf;have Hm:=Hh.out.size;clear Hf
   go_wp2_with (at_builtin;refine wpList_append_own _ rfl _ _ 78 rfl w.heap.size 9 i0 (.string ⟨#[]⟩) 1 16 underlying78 hi Hp Hl Hn rfl (by decide) _ _ _ rfl (Ha.alloc _) ⟨_,0,none⟩ 1 1 [.string ⟨T.toArray⟩] rfl rfl (cell_one_new _ _ _) (jj [T]) (by unfold maxLen;omega) (by omega) (by simp;omega) ?_;intro v' w2 He Hb _)
   go_roundw
   case rel=>
    refine ⟨k+1,by omega,by go_num,?_,?_⟩
    ·rw [HS.out,jV,Q2];exact He
    ·exact (Hh.out.alloc Hh.out.size _).grown Hb (by simp;omega) λj hj=>(Ha.lt j hj).1
   case measure=>simp [intOf];omega
  ·have Ho:k=xs.length:=by omega
   subst Ho
   go_wp2_with fail
   refine (HJ.out _ _ Hc).mono ?_;rintro e w1 ⟨rfl,Hf⟩;have Hk:=hB.trans (Hf.mono hB.size)
   go_wp2_with fail
   refine (qQ _ _).mono ?_;rintro e w2 ⟨rfl,rfl⟩
   go_wp2
   go_ret;exact ⟨by rw [<- HD.out];rfl,Hk⟩
def fi (base:Nat) (w:World) (v:Value) (ws:List (List UInt8)):Prop:=w.ownsRow base 9 1 v ws.length (strs ws)
theorem rA (ws:List (List UInt8)) (w:World) (base:Nat) (hb:base<=w.heap.size) (hl:ws.length<=1000):fi base (w.alloc (.cells (strs ws).toArray 9)) (.slice (some ⟨w.heap.size,0,none⟩) ws.length ws.length) ws:=by
 have h:=World.ownsRow_made (base:=base) (e:=9) (size:=1) w (strs ws).toArray ws.length hb (by unfold maxLen;omega) (by simp [strs]);refine ⟨by simp [strs],.inr ⟨w.heap.size,ws.length,_,rfl,hb,heap_alloc_new w _,lR,by unfold maxLen;omega,by simp [strs],?_⟩⟩;rw [Nat.mul_one,List.take_of_length_le (by simp [strs])]
abbrev oJ:=λ(w:World) (cp:Int) (da:Option Addr) (dn dc:Nat) (w':World)=>w'.cell? ⟨w.heap.size,0,none⟩=some (.int .u64 cp)/\w'.cell? ⟨w.heap.size,1,none⟩=some (.slice da dn dc)
theorem GJ (g:Gv) (dv:Value) (w:World) (hd:bt w dv g.dv) (hg:OkG g) (ht:ci w) :
  Calls prog 136 #[.agg #[.int .u64 g.cp,dv]] w λe w'=>∃ v,e=.returned v/\fi w.heap.size w' v (df g)/\Below w.heap.size w w':=by
 have HT:=qI ht;have Hk:=qI (mE ((Q0 w.heap.size w).alloc (lR) (.cells #[.int .u64 g.cp,dv] 69)));have HD:=qI λW (hb:Below w.heap.size w W)=>Fc dv g.dv W (hd.below hb) hg.2.2 hg.2.1 (HT.out.below hb).1 (HT.out.below hb).2;have HX:=qI λW=>S1.pN g.cp W hg.1;have HE:Hid (df g=[Sv.ei (Ost.txt g.cp),gZ g.dv]):=rfl;obtain ⟨da,dc,rfl⟩:=hd.slice;clear hd hg ht;generalize gZ g.dv=D at *;generalize g.dv.length=dn at *;generalize Ost.txt g.cp=X at *;generalize df g=GW at *;generalize g.cp=cp at *
 go_enter func136,ntmps136
 go_wp2_with fail
 have Hf:=qI (show w.heap.size<(w.alloc (.cells #[.int .u64 cp,.slice da dn dc] 69)).drew.heap.size/\(w.alloc (.cells #[.int .u64 cp,.slice da dn dc] 69)).drew.cell? ⟨w.heap.size,0,none⟩=some (.int .u64 cp)/\(w.alloc (.cells #[.int .u64 cp,.slice da dn dc] 69)).drew.cell? ⟨w.heap.size,1,none⟩=some (.slice da dn dc) from ⟨by simp,by simp,by simp⟩);refine wp_region_held_drew (S:=oJ w cp da dn dc) (by kernel_rfl) Hf.out.2 λhQ=>?_;refine tk 0 ?_;refine tk 1 ?_;refine tk 4 ?_;refine tk 5 ?_;refine rd 2 λK hK=>?_;go_simp
 go_wp2_with fail
 refine (HX.out _).mono ?_;rintro e V1 ⟨rfl,hb⟩;have Hi:=qI (Hk.out.trans (hb.mono Hk.out.size));have Hg:=qI (show w.heap.size<V1.heap.size/\(oJ w cp da dn dc) V1 from ⟨Q1 Hf.out.1 hb.size,(hb.cell (p:=⟨w.heap.size,0,none⟩) Hf.out.1).trans Hf.out.2.1,(hb.cell (p:=⟨w.heap.size,1,none⟩) Hf.out.1).trans Hf.out.2.2⟩);clear hb
 go_wp2
 refine hK.out _ _ Hg.out.2 λhQ=>?_;clear hK K;refine rd 3 λK hK=>?_;go_simp
 go_wp2_with fail
 refine (qQ _ _).mono ?_;rintro e V2 ⟨rfl,Hl⟩;subst Hl;have He:=Hi;have Ha:=Hg
 go_wp2
 refine hK.out _ _ Ha.out.2 λhQ=>?_;clear hK K;refine rd 6 λK hK=>?_;go_simp
 go_wp2_with fail
 refine (HD.out _ He.out).mono ?_;rintro e V3 ⟨rfl,hb⟩;have Hc:=qI (He.out.trans (hb.mono He.out.size));have Hb:=qI (show w.heap.size<V3.heap.size/\(oJ w cp da dn dc) V3 from ⟨Q1 Ha.out.1 hb.size,(hb.cell (p:=⟨w.heap.size,0,none⟩) Ha.out.1).trans Ha.out.2.1,(hb.cell (p:=⟨w.heap.size,1,none⟩) Ha.out.1).trans Ha.out.2.2⟩);clear hb
 go_wp2
 refine hK.out _ _ Hb.out.2 λhQ=>?_;clear hK K;refine rd 7 λK hK=>?_;go_simp
 go_wp2_with fail
 have Hh:=qI (Hc.out.alloc Hc.out.size (.cells #[.string ⟨(Sv.ei X).toArray⟩,.string ⟨D.toArray⟩] 9));have Hj:=qI (show w.heap.size<(V3.alloc (.cells #[.string ⟨(Sv.ei X).toArray⟩,.string ⟨D.toArray⟩] 9)).heap.size/\(oJ w cp da dn dc) (V3.alloc (.cells #[.string ⟨(Sv.ei X).toArray⟩,.string ⟨D.toArray⟩] 9)) from ⟨Q1 Hb.out.1 (by simp),gO Hb.out.2.1 (.cells #[.string ⟨(Sv.ei X).toArray⟩,.string ⟨D.toArray⟩] 9),gO Hb.out.2.2 (.cells #[.string ⟨(Sv.ei X).toArray⟩,.string ⟨D.toArray⟩] 9)⟩);refine hK.out _ _ Hj.out.2 λhQ=>?_;clear hK K;refine tk 8 ?_;refine Qn (by kernel_rfl) ?_ _
 go_wp2
 go_ret;refine ⟨_,rfl,?_,Hh.out⟩;rw [HE.out];exact rA [Sv.ei X,D] V3 w.heap.size Hc.out.size (by simp)
end
section
open RowKit
open Qos (Nd Ct Pd nd ct pd)
open Sv (Gv Hd gv hd e8 gI gZ mo dQ df fB fC g6 fV dR fg eD body aF cV OkN OkC OkG OkH OkL OkP)
open S1 (Tab strs jV jj kM iC lT)
def gP (B b:Nat) (l:List UInt8) (w:World):Prop:=Lib.IsBuilderF 237 5 B b (Lib.byteCells l) w
theorem gP.below {B b:Nat} {l:List UInt8} {w w':World} (h:gP B b l w) (hb:Below w.heap.size w w'):gP B b l w':=by
 have key:∀ p,Lib.BuilderAtF 237 5 B b p (Lib.byteCells l) w->Lib.BuilderAtF 237 5 B b p (Lib.byteCells l) w':=by
  rintro p ⟨hB,v,hv,hr,hn⟩;have Ha:b<w.heap.size:=(gS hv).1;refine ⟨hB,v,by rw [hb.block b Ha];exact hv,?_,hn⟩;exact hr.kept (row:=none) ⟨hb.os,hb.tape,hb.output,hb.size,λj hj _=>hb.block j hj⟩ (by cases hv:v.ownBlock <;> simp)
 rcases h with h|h
 ·exact .inl (key _ h)
 ·exact .inr (key _ h)
abbrev jB:=(.cells #[.pointer none,.slice none 0 0] 237:Obj)
theorem wM (w:World):gP w.heap.size w.heap.size [] (w.alloc (jB)):=Lib.IsBuilderF.of (Lib.fresh_isBuilder _ _ w)
theorem rB (B b:Nat) (l s:List UInt8) (w:World) (h:gP B b l w) (hl:l.length+s.length<=1000000) (hB:B<=w.heap.size) :
  Calls prog 133 #[.pointer (some ⟨b,0,none⟩),.string ⟨s.toArray⟩] w λe w'=>e=.returned (.tuple #[.int .i64 s.length,.nilIface])/\gP B b (l++s) w'/\Below B w w':=by
 have hw:=Any.Builder_WriteString_k (P:=prog) (ρ:=lays156_ren) { lays156 with } Tryz.Builder_Extra_156 B b (Lib.byteCells l) ⟨s.toArray⟩ w h (by
  show (Lib.byteCells l).length+s.toArray.size<=_
  simp [Lib.byteCells];omega) hB
 refine hw.mono ?_;rintro e w' ⟨rfl,h1,h2,_⟩;refine ⟨rfl,.inr ?_,h2⟩;have e:Lib.byteCells l++Lib.strCells ⟨s.toArray⟩=Lib.byteCells (l++s):=by simp [Lib.byteCells,Lib.strCells]
 rw [e] at h1;exact h1
theorem wN (B b:Nat) (l:List UInt8) (w:World) (h:gP B b l w) (hB:B<=w.heap.size) :
  Calls prog 137 #[.pointer (some ⟨b,0,none⟩)] w λe w'=>e=.returned (.string ⟨l.toArray⟩)/\Below B w w':=by
 refine (Tryz.Builder_String_any_k B b l w h hB).mono ?_;rintro e w' ⟨rfl,_,h2,_⟩;exact ⟨rfl,h2⟩
theorem fi.below {base:Nat} {w w':World} {v:Value} {ws:List (List UInt8)} (h:fi base w v ws) (hb:Below w.heap.size w w'):fi base w' v ws:=qS h hb
theorem wO (v:Value) (ws:List (List UInt8)) (base:Nat) (w:World) (h:fi base w v ws) (hn:ws.length<=20) (hw:∀ x∈ws,x.length<=400) :
  Calls prog 172 #[v] w λe w'=>e=.returned (.string ⟨(fC ws).toArray⟩)/\Below w.heap.size w w':=by
 have hl:(Lib.join ws [32]).length<=8020:=Q5 (Sv.kc 32 400 ws hw) (by omega);have HJ:=qI (qT 32 v ws w base h (by omega) (by omega));have eb:=kY (Lib.join ws [32]) [10];have HE:Hid (fC ws=Lib.join ws [32]++[10]):=rfl;generalize fC ws=L at *;generalize Lib.join ws [32]=J at *;clear h hw
 go_enter func172,ntmps172
 go_wp2_with fail
 refine HJ.out.mono ?_;rintro e w1 ⟨rfl,Ha⟩
 go_wp2
 go_ret;exact ⟨by rw [HE.out];exact congrArg (λx=>Ending.returned (Value.string x)) eb,Ha⟩
abbrev kh:=λ(x0:ByteArray) (x1 x2 x3 x4:Int) (x5:Option Addr) (x6 x7:Nat)=>(.cells #[.string x0,.int .i64 x1,.int .i64 x2,.int .i64 x3,.int .i64 x4,.slice x5 x6 x7] 63:Obj)
abbrev kk:=λ(w:World) (nm:ByteArray) (am ab cm cb:Int) (da:Option Addr) (dn dc:Nat) (w':World)=>w'.cell? ⟨w.heap.size,0,none⟩=some (.string nm)/\w'.cell? ⟨w.heap.size,1,none⟩=some (.int .i64 am)/\w'.cell? ⟨w.heap.size,2,none⟩=some (.int .i64 ab)/\w'.cell? ⟨w.heap.size,3,none⟩=some (.int .i64 cm)/\w'.cell? ⟨w.heap.size,4,none⟩=some (.int .i64 cb)/\w'.cell? ⟨w.heap.size,5,none⟩=some (.slice da dn dc)
theorem GK (c:Ct) (dv:Value) (w:World) (hd:be w dv c.ds) (hc:OkC c) (ht:ci w) :
  Calls prog 174 #[.agg #[.string c.nm,.int .i64 c.am,.int .i64 c.ab,.int .i64 c.cm,.int .i64 c.cb,dv]] w λe w'=>∃ v,e=.returned v/\fi w.heap.size w' v (dQ c)/\Below w.heap.size w w':=by
 have HT:=qI ht;have Hm:=qI (mE ((Q0 w.heap.size w).alloc (lR) (.cells #[.string c.nm,.int .i64 c.am,.int .i64 c.ab,.int .i64 c.cm,.int .i64 c.cb,dv] 63)));obtain ⟨_,k1,k2,k3,k4,k5,k6⟩:=hc;have HD:=qI λW (hb:Below w.heap.size w W)=>GI dv c.ds W (hd.below hb) k6 k5 (HT.out.below hb);have HE:Hid (dQ c=[[99,111,110,116],c.nm.data.toList,Sv.dec c.am,Sv.dec c.ab,Sv.dec c.cm,Sv.dec c.cb,gI c.ds]):=rfl;have HN:Hid (ByteArray.mk c.nm.data.toList.toArray=c.nm):=by unfold Hid;simp
 obtain ⟨da,dc,rfl,_⟩:=hd;clear ht k6 k5;generalize gI c.ds=D at *;generalize c.ds.length=dn at *;generalize dQ c=CW at *;generalize c.nm=nm at *;generalize c.am=am at *;generalize c.ab=ab at *;generalize c.cm=cm at *;generalize c.cb=cb at *
 go_enter func174,ntmps174
 go_wp2_with fail
 have Hg:=qI (show w.heap.size<(w.alloc (kh nm am ab cm cb da dn dc)).drew.heap.size/\(w.alloc (kh nm am ab cm cb da dn dc)).drew.cell? ⟨w.heap.size,0,none⟩=some (.string nm)/\(w.alloc (kh nm am ab cm cb da dn dc)).drew.cell? ⟨w.heap.size,1,none⟩=some (.int .i64 am)/\(w.alloc (kh nm am ab cm cb da dn dc)).drew.cell? ⟨w.heap.size,2,none⟩=some (.int .i64 ab)/\(w.alloc (kh nm am ab cm cb da dn dc)).drew.cell? ⟨w.heap.size,3,none⟩=some (.int .i64 cm)/\(w.alloc (kh nm am ab cm cb da dn dc)).drew.cell? ⟨w.heap.size,4,none⟩=some (.int .i64 cb)/\(w.alloc (kh nm am ab cm cb da dn dc)).drew.cell? ⟨w.heap.size,5,none⟩=some (.slice da dn dc) from ⟨by simp,by simp,by simp,by simp,by simp,by simp,by simp⟩);refine wp_region_held_drew (S:=kk w nm am ab cm cb da dn dc) (by kernel_rfl) Hg.out.2 λhQ=>?_;refine tk 0 ?_;refine tk 1 ?_;refine tk 2 ?_;refine tk 3 ?_;refine tk 4 ?_;refine tk 6 ?_;refine tk 7 ?_;refine tk 8 ?_;refine tk 10 ?_;refine tk 11 ?_;refine tk 12 ?_;refine tk 14 ?_;refine tk 15 ?_;refine tk 16 ?_;refine tk 18 ?_;refine tk 19 ?_;refine rd 5 λK hK=>?_;go_simp
 go_wp2_with fail
 refine (li am _ k1.1 (by omega) (HT.out.below Hm.out)).mono ?_;rintro e V1 ⟨rfl,hb⟩;have Hj:=qI (Hm.out.trans (hb.mono Hm.out.size));have Hc:=qI (show w.heap.size<V1.heap.size/\(kk w nm am ab cm cb da dn dc) V1 from ⟨Q1 Hg.out.1 hb.size,(hb.cell (p:=⟨w.heap.size,0,none⟩) Hg.out.1).trans Hg.out.2.1,(hb.cell (p:=⟨w.heap.size,1,none⟩) Hg.out.1).trans Hg.out.2.2.1,(hb.cell (p:=⟨w.heap.size,2,none⟩) Hg.out.1).trans Hg.out.2.2.2.1,(hb.cell (p:=⟨w.heap.size,3,none⟩) Hg.out.1).trans Hg.out.2.2.2.2.1,(hb.cell (p:=⟨w.heap.size,4,none⟩) Hg.out.1).trans Hg.out.2.2.2.2.2.1,(hb.cell (p:=⟨w.heap.size,5,none⟩) Hg.out.1).trans Hg.out.2.2.2.2.2.2⟩)
 
 clear hb
 go_wp2
 refine hK.out _ _ Hc.out.2 λhQ=>?_;clear hK K;refine rd 9 λK hK=>?_;go_simp
 go_wp2_with fail
 refine (li ab _ k2.1 (by omega) (HT.out.below Hj.out)).mono ?_;rintro e V2 ⟨rfl,hb⟩;have Hl:=qI (Hj.out.trans (hb.mono Hj.out.size));have Ha:=qI (show w.heap.size<V2.heap.size/\(kk w nm am ab cm cb da dn dc) V2 from ⟨Q1 Hc.out.1 hb.size,(hb.cell (p:=⟨w.heap.size,0,none⟩) Hc.out.1).trans Hc.out.2.1,(hb.cell (p:=⟨w.heap.size,1,none⟩) Hc.out.1).trans Hc.out.2.2.1,(hb.cell (p:=⟨w.heap.size,2,none⟩) Hc.out.1).trans Hc.out.2.2.2.1,(hb.cell (p:=⟨w.heap.size,3,none⟩) Hc.out.1).trans Hc.out.2.2.2.2.1,(hb.cell (p:=⟨w.heap.size,4,none⟩) Hc.out.1).trans Hc.out.2.2.2.2.2.1,(hb.cell (p:=⟨w.heap.size,5,none⟩) Hc.out.1).trans Hc.out.2.2.2.2.2.2⟩)
 
 clear hb
 go_wp2
 refine hK.out _ _ Ha.out.2 λhQ=>?_;clear hK K;refine rd 13 λK hK=>?_;go_simp
 go_wp2_with fail
 refine (li cm _ k3.1 (by omega) (HT.out.below Hl.out)).mono ?_;rintro e V3 ⟨rfl,hb⟩;have Hk:=qI (Hl.out.trans (hb.mono Hl.out.size));have Hb:=qI (show w.heap.size<V3.heap.size/\(kk w nm am ab cm cb da dn dc) V3 from ⟨Q1 Ha.out.1 hb.size,(hb.cell (p:=⟨w.heap.size,0,none⟩) Ha.out.1).trans Ha.out.2.1,(hb.cell (p:=⟨w.heap.size,1,none⟩) Ha.out.1).trans Ha.out.2.2.1,(hb.cell (p:=⟨w.heap.size,2,none⟩) Ha.out.1).trans Ha.out.2.2.2.1,(hb.cell (p:=⟨w.heap.size,3,none⟩) Ha.out.1).trans Ha.out.2.2.2.2.1,(hb.cell (p:=⟨w.heap.size,4,none⟩) Ha.out.1).trans Ha.out.2.2.2.2.2.1,(hb.cell (p:=⟨w.heap.size,5,none⟩) Ha.out.1).trans Ha.out.2.2.2.2.2.2⟩)
 
 clear hb
 go_wp2
 refine hK.out _ _ Hb.out.2 λhQ=>?_;clear hK K;refine rd 17 λK hK=>?_;go_simp
 go_wp2_with fail
 refine (li cb _ k4.1 (by omega) (HT.out.below Hk.out)).mono ?_;rintro e V4 ⟨rfl,hb⟩;have Hi:=qI (Hk.out.trans (hb.mono Hk.out.size));have He:=qI (show w.heap.size<V4.heap.size/\(kk w nm am ab cm cb da dn dc) V4 from ⟨Q1 Hb.out.1 hb.size,(hb.cell (p:=⟨w.heap.size,0,none⟩) Hb.out.1).trans Hb.out.2.1,(hb.cell (p:=⟨w.heap.size,1,none⟩) Hb.out.1).trans Hb.out.2.2.1,(hb.cell (p:=⟨w.heap.size,2,none⟩) Hb.out.1).trans Hb.out.2.2.2.1,(hb.cell (p:=⟨w.heap.size,3,none⟩) Hb.out.1).trans Hb.out.2.2.2.2.1,(hb.cell (p:=⟨w.heap.size,4,none⟩) Hb.out.1).trans Hb.out.2.2.2.2.2.1,(hb.cell (p:=⟨w.heap.size,5,none⟩) Hb.out.1).trans Hb.out.2.2.2.2.2.2⟩)
 
 clear hb
 go_wp2
 refine hK.out _ _ He.out.2 λhQ=>?_;clear hK K;refine rd 20 λK hK=>?_;go_simp
 go_wp2_with fail
 refine (HD.out _ Hi.out).mono ?_;rintro e V5 ⟨rfl,hb⟩;have Hh:=qI (Hi.out.trans (hb.mono Hi.out.size));have Hf:=qI (show w.heap.size<V5.heap.size/\(kk w nm am ab cm cb da dn dc) V5 from ⟨Q1 He.out.1 hb.size,(hb.cell (p:=⟨w.heap.size,0,none⟩) He.out.1).trans He.out.2.1,(hb.cell (p:=⟨w.heap.size,1,none⟩) He.out.1).trans He.out.2.2.1,(hb.cell (p:=⟨w.heap.size,2,none⟩) He.out.1).trans He.out.2.2.2.1,(hb.cell (p:=⟨w.heap.size,3,none⟩) He.out.1).trans He.out.2.2.2.2.1,(hb.cell (p:=⟨w.heap.size,4,none⟩) He.out.1).trans He.out.2.2.2.2.2.1,(hb.cell (p:=⟨w.heap.size,5,none⟩) He.out.1).trans He.out.2.2.2.2.2.2⟩)
 
 clear hb
 go_wp2
 refine hK.out _ _ Hf.out.2 λhQ=>?_;clear hK K;refine rd 21 λK hK=>?_;go_simp
 go_wp2_with fail
 have Hn:=qI (Hh.out.alloc Hh.out.size (.cells #[.string ⟨#[99,111,110,116]⟩,.string nm,.string ⟨(Sv.dec am).toArray⟩,.string ⟨(Sv.dec ab).toArray⟩,.string ⟨(Sv.dec cm).toArray⟩,.string ⟨(Sv.dec cb).toArray⟩,.string ⟨D.toArray⟩] 9));have Ho:=qI (show w.heap.size<(V5.alloc (.cells #[.string ⟨#[99,111,110,116]⟩,.string nm,.string ⟨(Sv.dec am).toArray⟩,.string ⟨(Sv.dec ab).toArray⟩,.string ⟨(Sv.dec cm).toArray⟩,.string ⟨(Sv.dec cb).toArray⟩,.string ⟨D.toArray⟩] 9)).heap.size/\(kk w nm am ab cm cb da dn dc) (V5.alloc (.cells #[.string ⟨#[99,111,110,116]⟩,.string nm,.string ⟨(Sv.dec am).toArray⟩,.string ⟨(Sv.dec ab).toArray⟩,.string ⟨(Sv.dec cm).toArray⟩,.string ⟨(Sv.dec cb).toArray⟩,.string ⟨D.toArray⟩] 9)) from ⟨Q1 Hf.out.1 (by simp),gO Hf.out.2.1 (.cells #[.string ⟨#[99,111,110,116]⟩,.string nm,.string ⟨(Sv.dec am).toArray⟩,.string ⟨(Sv.dec ab).toArray⟩,.string ⟨(Sv.dec cm).toArray⟩,.string ⟨(Sv.dec cb).toArray⟩,.string ⟨D.toArray⟩] 9),gO Hf.out.2.2.1 (.cells #[.string ⟨#[99,111,110,116]⟩,.string nm,.string ⟨(Sv.dec am).toArray⟩,.string ⟨(Sv.dec ab).toArray⟩,.string ⟨(Sv.dec cm).toArray⟩,.string ⟨(Sv.dec cb).toArray⟩,.string ⟨D.toArray⟩] 9),gO Hf.out.2.2.2.1 (.cells #[.string ⟨#[99,111,110,116]⟩,.string nm,.string ⟨(Sv.dec am).toArray⟩,.string ⟨(Sv.dec ab).toArray⟩,.string ⟨(Sv.dec cm).toArray⟩,.string ⟨(Sv.dec cb).toArray⟩,.string ⟨D.toArray⟩] 9),gO Hf.out.2.2.2.2.1 (.cells #[.string ⟨#[99,111,110,116]⟩,.string nm,.string ⟨(Sv.dec am).toArray⟩,.string ⟨(Sv.dec ab).toArray⟩,.string ⟨(Sv.dec cm).toArray⟩,.string ⟨(Sv.dec cb).toArray⟩,.string ⟨D.toArray⟩] 9),gO Hf.out.2.2.2.2.2.1 (.cells #[.string ⟨#[99,111,110,116]⟩,.string nm,.string ⟨(Sv.dec am).toArray⟩,.string ⟨(Sv.dec ab).toArray⟩,.string ⟨(Sv.dec cm).toArray⟩,.string ⟨(Sv.dec cb).toArray⟩,.string ⟨D.toArray⟩] 9),gO Hf.out.2.2.2.2.2.2 (.cells #[.string ⟨#[99,111,110,116]⟩,.string nm,.string ⟨(Sv.dec am).toArray⟩,.string ⟨(Sv.dec ab).toArray⟩,.string ⟨(Sv.dec cm).toArray⟩,.string ⟨(Sv.dec cb).toArray⟩,.string ⟨D.toArray⟩] 9)⟩);refine hK.out _ _ Ho.out.2 λhQ=>?_;clear hK K;refine tk 22 ?_;refine Qn (by kernel_rfl) ?_ _
 go_wp2
 go_ret;refine ⟨_,rfl,?_,Hn.out⟩;rw [HE.out]
 have:=rA [[99,111,110,116],nm.data.toList,Sv.dec am,Sv.dec ab,Sv.dec cm,Sv.dec cb,D] V5 w.heap.size Hh.out.size (by simp)
 unfold strs at this;simp only [Qq,List.map_nil] at this;exact this
theorem GL (hb k:Nat) (gs:List Gv) (gvv:Value) (w:World) (hc:w.cell? ⟨hb,3,none⟩=some gvv) (hg:bz w gvv gs) (hk:k<gs.length) (ho:OkG (gv gs k)) (ht:ci w) :
  Calls prog 135 #[.int .i64 k,.pointer (some ⟨hb,0,none⟩)] w λe w'=>∃ v,e=.returned v/\fi w.heap.size w' v (df (gv gs k))/\Below w.heap.size w w':=by
 obtain ⟨ao,c,rfl,hm,hr⟩:=hg;obtain ⟨b,o,dv,rfl,Ha⟩:=hr (by omega);obtain ⟨c0,c1⟩:=Ha.at hk;have HW:=qI (GJ (gv gs k) (dv k) w (Ha.2 k hk).2 ho ht);obtain ⟨da,dc,hd⟩:=(Ha.2 k hk).2.slice;unfold maxLen at hm;clear Ha ho ht hr;generalize df (gv gs k)=GW at *;generalize (gv gs k).cp=cp at *;generalize (gv gs k).dv.length=dn at *;generalize dv k=d at *;subst hd
 go_enter func135,ntmps135
 go_wp2_with fail
 refine HW.out.mono ?_;rintro e w1 ⟨v,rfl,hw,Hb⟩
 go_wp2
 go_ret;exact ⟨v,rfl,hw,Hb⟩
theorem GM {base:Nat} {w:World} {v:Value} {a b:List (List UInt8)} (h:w.ownsRow base 9 1 v (a.length+b.length) (strs a++strs b)):fi base w v (a++b):=by
 unfold fi;rw [Q2,show strs (a++b)=strs a++strs b by simp [strs]];exact h
theorem GN (c:Ct) (g:Gv):(dQ c++df g).length=9:=rfl
abbrev iP:=λ(x0:ByteArray) (x1:Int) (x2:Nat) (x3:Option Addr) (x4:Nat)=>(.cells #[.string x0,.int .i64 x1,.slice x3 x2 x4] 47:Obj)
abbrev mF:=λ(w:World) (nm:ByteArray) (pr:Int) (ao:Option Addr) (y4 c:Nat) (w':World)=>w'.cell? ⟨w.heap.size,0,none⟩=some (.string nm)/\w'.cell? ⟨w.heap.size,1,none⟩=some (.int .i64 pr)/\w'.cell? ⟨w.heap.size,2,none⟩=some (.slice ao y4 c)
theorem GO (h:Hd) (cv gvv:Value) (hb:Nat) (w:World) (hc:aE w cv h.pod.cs) (hcell:w.cell? ⟨hb,3,none⟩=some gvv) (hg:bz w gvv h.gs) (ho:OkH h) (ht:ci w) :
  Calls prog 134 #[bG h.pod cv,.func (.func 135) #[] #[.pointer (some ⟨hb,0,none⟩)]] w λe w'=>e=.returned (.string ⟨(fg h).toArray⟩)/\Below w.heap.size w w':=by
 obtain ⟨i0,hi,hp,hv,hG⟩:=info_parts iC;have hA:=qI λk (hk:k<h.gs.length) W (hbw:Below w.heap.size w W)=>GL hb k h.gs gvv W ((hbw.cell (p:=⟨hb,3,none⟩) (Q3 w _ hcell)).trans hcell) (hg.below hbw) hk (ho.2.2 _ (Sv.oz hk)) (ht.below hbw);have H6:=qI λk (hk:k<h.pod.cs.length) d W (hd:be W d (ct h.pod.cs k).ds) (hbw:Below w.heap.size w W)=>GK (ct h.pod.cs k) d W hd (ho.1.2.2.2 _ (Sv.jy hk)) (ht.below hbw);have HO:=qI ho;have HT:=qI ht;obtain ⟨ao,c,rfl,hm,hr⟩:=hc;have HR:=qI hr;clear hr ht hg hcell ho;unfold maxLen at hm;unfold bG;have hN:=HO.out.1.2.2.1;have hO:=HO.out.2.1;have HA:=qI (mE (((Q0 w.heap.size w).alloc (lR) (iP h.pod.nm h.pod.pr h.pod.cs.length ao c)).alloc (by simp) (jB)));have Hy:=qI ((wM (w.alloc (iP h.pod.nm h.pod.pr h.pod.cs.length ao c))).below (mE (Q0 _ _)));have HN:Hid (ByteArray.mk h.pod.nm.data.toList.toArray=h.pod.nm):=by unfold Hid;simp
 have H1:=HO.out.1.2.1
 go_enter func134,ntmps134
 go_wp2_with fail
 have Hh:=qI (show w.heap.size<((w.alloc (iP h.pod.nm h.pod.pr h.pod.cs.length ao c)).alloc (jB)).drew.heap.size/\((w.alloc (iP h.pod.nm h.pod.pr h.pod.cs.length ao c)).alloc (jB)).drew.cell? ⟨w.heap.size,0,none⟩=some (.string h.pod.nm)/\((w.alloc (iP h.pod.nm h.pod.pr h.pod.cs.length ao c)).alloc (jB)).drew.cell? ⟨w.heap.size,1,none⟩=some (.int .i64 h.pod.pr)/\((w.alloc (iP h.pod.nm h.pod.pr h.pod.cs.length ao c)).alloc (jB)).drew.cell? ⟨w.heap.size,2,none⟩=some (.slice ao h.pod.cs.length c) from ⟨by simp;omega,by simp,by simp,by simp⟩);have Ho:Hid (gP (w.heap.size+1) (w.heap.size+1) [] ((w.alloc (iP h.pod.nm h.pod.pr h.pod.cs.length ao c)).alloc (jB)).drew):=by have:=Hy.out;rw [show (w.alloc (iP h.pod.nm h.pod.pr h.pod.cs.length ao c)).heap.size=w.heap.size+1 by simp] at this;exact this
 clear Hy;have ha:Hid (fB h.pod=[[112,111,100],h.pod.nm.data.toList,Sv.dec h.pod.pr]):=rfl;have hl:=Sv.qN HO.out.1;have hD:Hid (fg h=fV h.pod++dR h h.pod.cs.length):=rfl;have H9:Hid (∀ v W,fi w.heap.size W v (fB h.pod)->Calls prog 172 #[v] W λe w'=>e=.returned (.string ⟨(fV h.pod).toArray⟩)/\Below W.heap.size W w'):=λv W hw=>wO v (fB h.pod) w.heap.size W hw (by simp [fB]) (λx hx=>by have:=Sv.vK HO.out.1 x hx;omega)
 generalize fV h.pod=PL at *;generalize fB h.pod=PW at *;generalize ((w.alloc (iP h.pod.nm h.pod.pr h.pod.cs.length ao c)).alloc (jB))=U0 at *;generalize h.pod.nm=nm at *;generalize h.pod.pr=pr at *;refine wp_region_held_drew (S:=mF w nm pr ao h.pod.cs.length c) (by kernel_rfl) Hh.out.2 λhQ=>?_;refine tk 0 ?_;refine tk 1 ?_;refine tk 2 ?_;refine tk 3 ?_;refine rd 4 λK hK=>?_;go_simp
 go_wp2_with fail
 refine (li _ _ H1.1 (by omega) (HT.out.below HA.out)).mono ?_;rintro e V1 ⟨rfl,hb⟩;have Hg:=qI (HA.out.trans (hb.mono HA.out.size));have Hc:=qI (show w.heap.size<V1.heap.size/\(mF w nm pr ao h.pod.cs.length c) V1 from ⟨Q1 Hh.out.1 hb.size,(hb.cell (p:=⟨w.heap.size,0,none⟩) Hh.out.1).trans Hh.out.2.1,(hb.cell (p:=⟨w.heap.size,1,none⟩) Hh.out.1).trans Hh.out.2.2.1,(hb.cell (p:=⟨w.heap.size,2,none⟩) Hh.out.1).trans Hh.out.2.2.2⟩);have Hw:=qI (Ho.out.below hb);clear hb
 go_wp2
 refine hK.out _ _ Hc.out.2 λhQ=>?_;clear hK K;refine rd 5 λK hK=>?_;go_simp
 go_wp2_with fail
 have Hm:=qI (Hg.out.alloc Hg.out.size (.cells #[.string ⟨#[112,111,100]⟩,.string nm,.string ⟨(Sv.dec pr).toArray⟩] 9));have Ha:=qI (show w.heap.size<(V1.alloc (.cells #[.string ⟨#[112,111,100]⟩,.string nm,.string ⟨(Sv.dec pr).toArray⟩] 9)).heap.size/\(mF w nm pr ao h.pod.cs.length c) (V1.alloc (.cells #[.string ⟨#[112,111,100]⟩,.string nm,.string ⟨(Sv.dec pr).toArray⟩] 9)) from ⟨Q1 Hc.out.1 (by simp),gO Hc.out.2.1 (.cells #[.string ⟨#[112,111,100]⟩,.string nm,.string ⟨(Sv.dec pr).toArray⟩] 9),gO Hc.out.2.2.1 (.cells #[.string ⟨#[112,111,100]⟩,.string nm,.string ⟨(Sv.dec pr).toArray⟩] 9),gO Hc.out.2.2.2 (.cells #[.string ⟨#[112,111,100]⟩,.string nm,.string ⟨(Sv.dec pr).toArray⟩] 9)⟩);have Hs:=qI (Hw.out.below ((Q0 _ _).alloc (lR) (.cells #[.string ⟨#[112,111,100]⟩,.string nm,.string ⟨(Sv.dec pr).toArray⟩] 9)));have HW:Hid (fi w.heap.size (V1.alloc (.cells #[.string ⟨#[112,111,100]⟩,.string nm,.string ⟨(Sv.dec pr).toArray⟩] 9)) (.slice (some ⟨V1.heap.size,0,none⟩) 3 3) PW):=by unfold Hid;rw [ha.out];exact rA [[112,111,100],nm.data.toList,Sv.dec pr] V1 w.heap.size Hg.out.size (by simp)
 refine hK.out _ _ Ha.out.2 λhQ=>?_;clear hK K;refine rd 6 λK hK=>?_;go_simp
 go_wp2_with fail
 refine (H9.out _ _ HW.out).mono ?_;rintro e V3 ⟨rfl,hb⟩;have Hv:=qI (Hm.out.trans (hb.mono Hm.out.size));have Hb:=qI (show w.heap.size<V3.heap.size/\(mF w nm pr ao h.pod.cs.length c) V3 from ⟨Q1 Ha.out.1 hb.size,(hb.cell (p:=⟨w.heap.size,0,none⟩) Ha.out.1).trans Ha.out.2.1,(hb.cell (p:=⟨w.heap.size,1,none⟩) Ha.out.1).trans Ha.out.2.2.1,(hb.cell (p:=⟨w.heap.size,2,none⟩) Ha.out.1).trans Ha.out.2.2.2⟩);have Hp:=qI (Hs.out.below hb);clear hb
 go_wp2
 refine hK.out _ _ Hb.out.2 λhQ=>?_;clear hK K;refine rd 7 λK hK=>?_;go_simp
 go_wp2_with fail
 refine (rB _ _ [] PL _ Hp.out (Q5 (Nat.le_of_eq (Qd _)) (Q5 hl (by decide))) (Nat.succ_le_of_lt Hb.out.1)).mono ?_;rintro e V4 ⟨rfl,HX,Hn⟩;have Hq:=qI (Hv.out.trans (Hn.mono (Nat.le_succ _)));have Hi:=qI (show w.heap.size<V4.heap.size/\(mF w nm pr ao h.pod.cs.length c) V4 from ⟨Q1 Hb.out.1 Hn.size,(Hn.cell (p:=⟨w.heap.size,0,none⟩) (Nat.lt_succ_self _)).trans Hb.out.2.1,(Hn.cell (p:=⟨w.heap.size,1,none⟩) (Nat.lt_succ_self _)).trans Hb.out.2.2.1,(Hn.cell (p:=⟨w.heap.size,2,none⟩) (Nat.lt_succ_self _)).trans Hb.out.2.2.2⟩);have Hu:=qI HX;clear HX Hn
 go_wp2
 refine hK.out _ _ Hi.out.2 λhQ=>?_;clear hK K;refine Qn (by kernel_rfl) ?_ _;have hS:=Hi.out.2.2.2;have hs:Hid (gP (w.heap.size+1) (w.heap.size+1) PL V4):=Hu.out;have hJ:=Hq;have hh:=qI (Nat.succ_le_of_lt Hi.out.1);clear hQ Hg Hc Hw Hm Ha Hs HW Hv Hb Hp Hq Hi Hu Hh Ho HA H9 ha HN H1;have H8:=qI (Sv.qO HO.out)
 go_wp2
 go_loopw [19] (λi wr=>∃ k:Nat,k<=h.pod.cs.length/\i=.int .i64 k/\Below w.heap.size w wr/\gP (w.heap.size+1) (w.heap.size+1) (PL++dR h k) wr/\Hid (w.heap.size+1<=wr.heap.size)) (λi _=>h.pod.cs.length - (intOf i).toNat)
 case atStart=>exact ⟨0,Nat.zero_le _,rfl,hJ.out,by rw [dR,List.append_nil];exact hs.out,hh⟩
 case round=>
  obtain ⟨k,hk,rfl,hB,HE,HZ⟩:=hrel
  by_cases hlt:k<h.pod.cs.length
  ·obtain ⟨b,o,dv,rfl,Hx⟩:=HR.out (by omega);have Hx:=Hx.below hB;obtain ⟨c0,c1,c2,c3,c4,c5⟩:=Hx.at hlt;have H4:=(Hx.2 k hlt).2;have HB:=qI ((Q0 wr.heap.size wr).alloc (lR) (.cells #[.string (ct h.pod.cs k).nm,.int .i64 (ct h.pod.cs k).am,.int .i64 (ct h.pod.cs k).ab,.int .i64 (ct h.pod.cs k).cm,.int .i64 (ct h.pod.cs k).cb,dv k] 63));have Hz:=qI (hB.trans (HB.out.mono hB.size));have HD:=qI (HE.below HB.out);have HC:=qI (H6.out k hlt (dv k) _ (H4.below HB.out) Hz.out);have HG:=qI λW (hb:Below w.heap.size w W)=>hA.out k (by omega) W hb;obtain ⟨oc,og⟩:=Sv.vM HO.out hlt;have hE:Hid (∀ v W base,fi base W v (dQ (ct h.pod.cs k)++df (gv h.gs k))->Calls prog 172 #[v] W λe w'=>e=.returned (.string ⟨(g6 (ct h.pod.cs k) (gv h.gs k)).toArray⟩)/\Below W.heap.size W w'):=λv W base hw=>wO v _ base W hw (by rw [GN];decide) (λx hx=>by
    rcases Qi.1 hx with hx|hx
    ·exact Q5 (Sv.vI oc x hx) (by decide)
    ·exact Sv.vJ og x hx)
   have hR:=Sv.vL oc og;have hP:=H8.out k hk;have hH:Hid (dR h (k+1)=dR h k++g6 (ct h.pod.cs k) (gv h.gs k)):=rfl;have hf:Hid ((dQ (ct h.pod.cs k)).length=7):=rfl;have HH:Hid ((df (gv h.gs k)).length=2):=rfl;obtain ⟨da,dc,hq,_⟩:=H4;clear Hx oc og H6 HE hB H8;generalize g6 (ct h.pod.cs k) (gv h.gs k)=CL at *;generalize dR h k=CT at *;generalize dQ (ct h.pod.cs k)=CW at *;generalize df (gv h.gs k)=GW at *;generalize (ct h.pod.cs k).nm=nm' at *;generalize (ct h.pod.cs k).am=am at *;generalize (ct h.pod.cs k).ab=ab at *;generalize (ct h.pod.cs k).cm=cm at *;generalize (ct h.pod.cs k).cb=cb at *;generalize (ct h.pod.cs k).ds.length=dn at *;generalize dv k=d at *;subst hq;have hz:(PL++CT).length+CL.length<=1000000:=by rw [Q2];omega
   go_wp2_with fail
   refine HC.out.mono ?_;rintro e W1 ⟨v1,rfl,H7,Hr⟩;have HS:=qI Hr;have hy:=qI H7;have HM:=qI (Hz.out.trans (Hr.mono Hz.out.size));clear Hr H7
   go_wp2_with fail
   refine (HG.out _ HM.out).mono ?_;rintro e W2 ⟨v2,rfl,H5,HJ⟩;have HQ:=hy.out.below HJ;have H3:=qI (HS.out.trans (HJ.mono HS.out.size));clear HJ;obtain ⟨rfl,HY⟩|⟨g2,cap2,rfl,H2,hM,Hf⟩:=kM H5
   ·rw [HH.out] at HY;cases HY
   have Hk:∀ j u,(strs GW)[j]?=some u->W2.cell? ((⟨g2,0,none⟩:Addr).add j)=some u:=λj u hj=>by rw [Addr.add_lit,Qd];exact Hf j u hj
   have HV:=qI H3.out.size;have hn:CW.length+GW.length<=maxLen:=by rw [hf.out,HH.out];decide
   have HL:(CW.length+GW.length)*16<=140737488355328:=by rw [hf.out,HH.out];decide
   go_wp2_with (at_builtin;refine wpList_append_own _ rfl _ _ 78 rfl _ 9 i0 (.string ⟨#[]⟩) 1 16 underlying78 hi hp hv hG rfl (by decide) _ _ _ rfl HQ ⟨g2,0,none⟩ GW.length cap2 (strs GW) rfl (by simp [strs]) Hk (jj GW) hn HL HV.out ?_;intro v' W3 Hj He _)
   have hu:Hid (fi _ W3 v' (CW++GW)):=qI (GM Hj);have he:=qI (H3.out.grown He HV.out λj hj=>(World.ownsRow.lt HQ j hj).1);clear Hj He HQ H5 Hf Hk
   go_wp2_with fail
   refine (hE.out _ _ _ hu.out).mono ?_;rintro e W4 ⟨rfl,HU⟩;have Hl:=qI (he.out.trans (HU.mono he.out.size));have HF:=qI (HD.out.below Hl.out);have HP:=qI (Hz.out.trans (Hl.out.mono Hz.out.size));have H0:w.heap.size+1<=W4.heap.size:=Q5 HZ.out (Q5 HB.out.size Hl.out.size);clear HU
   go_wp2_with fail
   refine (rB _ _ _ _ _ HF.out hz H0).mono ?_;rintro e W5 ⟨rfl,Ht,HI⟩;have hC:=qI (HP.out.trans (HI.mono (Nat.le_succ _)));have hL:=qI (Q5 H0 HI.size);have HK:=qI Ht;clear Ht HI
   go_wp2
   go_roundw
   case rel=>exact ⟨k+1,by omega,by go_num,hC.out,by rw [hH.out,<- List.append_assoc];exact HK.out,hL⟩
   case measure=>simp [intOf];omega
  ·have hI:k=h.pod.cs.length:=by omega
   subst hI
   go_wp2_with fail
   refine (wN _ _ _ _ HE HZ.out).mono ?_;rintro e W1 ⟨rfl,Hr⟩;have hF:=hB.trans (Hr.mono (Nat.le_succ _))
   go_wp2
   go_ret;exact ⟨by rw [hD.out];rfl,hF⟩
end
section
namespace Ol
open Ost (Cpu ae dif ad)
open Dvs (Dv dv)
def dI (l:List Cpu):Nat->Nat
 | 0=>0
 | k+1=>dI l k ||| 2 ^ (l.getD k ad).node.toNat
def dU (a:Nat) (ds:List Dv):Nat->Nat
 | 0=>a
 | k+1=>dU a ds k ||| 2 ^ (dv ds k).node.toNat
structure Cf where
 l:List Cpu
 keep:Nat
 nb:Int
 pol:Int
 ds:List Dv
def b6 (c:Cf):Int:=
 if Ost.fault c.l≠0 then Ost.fault c.l
 else if ¬ (c.keep &&& ae (λ_=>true) c.l=c.keep)\/¬ (0<=c.nb/\c.nb<=1125899906842624)\/¬ (0<=c.pol/\c.pol<=3) then 1
 else (Dvs.fault c.ds:Nat)
def cz (c:Cf):Mc:=⟨c.l,dif (ae (λ_=>true) c.l) c.keep,dU (dI c.l c.l.length) c.ds c.ds.length,c.nb,c.pol⟩
theorem wQ {x:Int} (h0:0<=x) (h3:x<=3):2 ^ x.toNat<16/\1<=2 ^ x.toNat:=by
 have:x.toNat=0\/x.toNat=1\/x.toNat=2\/x.toNat=3:=by omega
 rcases this with h|h|h|h <;> rw [h] <;> decide
theorem wR {a b:Nat} (ha:a<16) (hb:b<16):a ||| b<16:=Nat.or_lt_two_pow (n:=4) ha hb
theorem wS {l:List Cpu} (h:∀ k,k<l.length->0<=(l.getD k ad).node/\(l.getD k ad).node<=3):∀ k,k<=l.length->dI l k<16/\(0<k->1<=dI l k):=by
 intro k
 induction k with
 | zero=>intro _;exact ⟨Nat.zero_lt_succ 15,λh=>by omega⟩
 | succ k ih=>
  intro hk;have h1:=ih (by omega);have h2:=wQ (h k (by omega)).1 (h k (by omega)).2;rw [dI];exact ⟨wR h1.1 h2.1,λ_=>Q5 h2.2 Nat.right_le_or⟩
theorem GP {a:Nat} {ds:List Dv} (ha:a<16) (h1:1<=a) (h:∀ k,k<ds.length->0<=(dv ds k).node/\(dv ds k).node<=3):∀ k,k<=ds.length->dU a ds k<16/\1<=dU a ds k:=by
 intro k
 induction k with
 | zero=>intro _;exact ⟨ha,h1⟩
 | succ k ih=>
  intro hk;have h1:=ih (by omega);have h2:=wQ (h k (by omega)).1 (h k (by omega)).2;rw [dU];exact ⟨wR h1.1 h2.1,Q5 h1.2 Nat.left_le_or⟩
end Ol
end
section
open RowKit Shelf
open Qos (Nd Ct Pd nd ct pd)
open Sv (Gv Hd gv hd)
attribute [local go_sem] Oper.semAt_some
theorem jz.atE {w:World} {b o:Nat} {hs:List Hd} {cv gvv:Nat->Value} (h:jz w b o hs cv gvv) {k:Nat} (hk:k<hs.length):w.cell? ⟨b,o+k*4,none⟩=some (.string (hd hs k).pod.nm)/\w.cell? ⟨b,o+k*4+1,none⟩=some (.int .i64 (hd hs k).pod.pr)/\w.cell? ⟨b,o+k*4+2,none⟩=some (cv k)/\w.cell? ⟨b,o+k*4+3,none⟩=some (gvv k):=(h.2 k hk).1
theorem bz.parts {w:World} {v:Value} {gs:List Gv} (h:bz w v gs):∃ ao c,v=.slice ao gs.length c/\(gs.length<=c/\c<=maxLen)/\∀ k,k<gs.length->∃ b o dv,ao=some ⟨b,o,none⟩/\b<w.heap.size/\w.cell? ⟨b,o+k*2,none⟩=some (.int .u64 (gv gs k).cp)/\w.cell? ⟨b,o+k*2+1,none⟩=some dv/\bt w dv (gv gs k).dv:=by
 obtain ⟨ao,c,rfl,hm,hr⟩:=h;refine ⟨ao,c,rfl,hm,λk hk=>?_⟩;obtain ⟨b,o,dv,ha,Ha,hc⟩:=hr (by omega);exact ⟨b,o,dv k,ha,Ha,(hc k hk).1.1,(hc k hk).1.2.1,(hc k hk).2⟩
abbrev fX:=λ(x0:Int) (x1:Option Addr) (x2 x3:Nat)=>(.cells #[.int .u64 x0,.slice x1 x2 x3] 69:Obj)
theorem GQ (v1 v2:Value) (hs gs:List Hd) (w:World) (h1:aJ w v1 hs) (h2:aJ w v2 gs) :
  Calls prog 24 #[v1,v2] w (oA (hs=gs) w):=by
 obtain ⟨a1,c1,rfl,m1,h1⟩:=h1;obtain ⟨a2,c2,rfl,m2,h2⟩:=h2;unfold maxLen at m1 m2;have H1:=qI h1;have H2:=qI h2;clear h1 h2;have k1:Hid (hs=gs->hs.length=gs.length):=λe=>by rw [e]
 have k2:Hid (∀ k,hs=gs->hd hs k=hd gs k):=λk e=>by rw [e]
 generalize (hs=gs)=PQ at *
 by_cases e1:hs.length=gs.length
 ·rw [<- e1];have E1:=qI e1;clear e1
  go_enter func24,ntmps24
  go_wp2
  go_loopw [5] (λi wr=>∃ k:Nat,k<=hs.length/\i=.int .i64 k/\Below w.heap.size w wr) (λi _=>hs.length - (intOf i).toNat)
  case atStart=>exact ⟨0,by omega,rfl,Q0 _ _⟩
  case round=>
   obtain ⟨k,hk,rfl,hb⟩:=hrel;have Hc:=qI hb;clear hb
   by_cases hlt:k<hs.length
   ·obtain ⟨b1,o1,cv1,gv1,rfl,Hp⟩:=H1.out (by omega);obtain ⟨b2,o2,cv2,gv2,rfl,Hl⟩:=H2.out (by rw [<- E1.out];omega);have HH:k<gs.length:=by rw [<- E1.out];exact hlt
    have Hm:=((Hp.below Hc.out).2 k hlt).2;have Hq:=((Hl.below Hc.out).2 k HH).2;have Hj:=qI (Hp.below Hc.out).1;have Hh:=qI (Hl.below Hc.out).1;have Hb:=qI (show (wr.drew.cell? ⟨b1,o1+k*4,none⟩=some (.string (hd hs k).pod.nm)/\wr.drew.cell? ⟨b1,o1+k*4+1,none⟩=some (.int .i64 (hd hs k).pod.pr)/\wr.drew.cell? ⟨b1,o1+k*4+2,none⟩=some (cv1 k)/\wr.drew.cell? ⟨b1,o1+k*4+3,none⟩=some (gv1 k))/\(wr.drew.cell? ⟨b2,o2+k*4,none⟩=some (.string (hd gs k).pod.nm)/\wr.drew.cell? ⟨b2,o2+k*4+1,none⟩=some (.int .i64 (hd gs k).pod.pr)/\wr.drew.cell? ⟨b2,o2+k*4+2,none⟩=some (cv2 k)/\wr.drew.cell? ⟨b2,o2+k*4+3,none⟩=some (gv2 k)) from ⟨(Hp.below Hc.out).atE hlt,(Hl.below Hc.out).atE HH⟩);have HK:=qI (k2.out k);have HE:Below wr.heap.size wr wr.drew:=⟨rfl,rfl,rfl,lR,λ_ _=>rfl⟩;have Hg:=qI (Fx (hd hs k).pod (hd gs k).pod (cv1 k) (cv2 k) wr.drew (Hm.1.below HE) (Hq.1.below HE));unfold bG at Hg;obtain ⟨na1,nc1,Hy,_,_⟩:=Hm.1;obtain ⟨na2,nc2,Hu,_,_⟩:=Hq.1;obtain ⟨ga1,gc1,HO,gm1,HL⟩:=Hm.2.parts;obtain ⟨ga2,gc2,HG,gm2,HA⟩:=Hq.2.parts;have Hx:=qI HL;have Ht:=qI HA;unfold maxLen at gm1 gm2;clear Hm Hq Hp Hl HL HA H1 H2;rw [Hy,HO,Hu,HG] at Hb;rw [Hy,Hu] at Hg;clear Hy Hu HO HG;generalize hd hs k=x at *;generalize hd gs k=y at *;obtain ⟨⟨xn,xp,xc⟩,xg⟩:=x;obtain ⟨⟨yn,yp,yc⟩,yg⟩:=y;dsimp only at Hb Hg Hx Ht gm1 gm2
    go_wp2_with fail
    refine wp_region_held_drew (S:=(λw'=>(w'.cell? ⟨b1,o1+k*4,none⟩=some (.string xn)/\w'.cell? ⟨b1,o1+k*4+1,none⟩=some (.int .i64 xp)/\w'.cell? ⟨b1,o1+k*4+2,none⟩=some (.slice na1 xc.length nc1)/\w'.cell? ⟨b1,o1+k*4+3,none⟩=some (.slice ga1 xg.length gc1))/\(w'.cell? ⟨b2,o2+k*4,none⟩=some (.string yn)/\w'.cell? ⟨b2,o2+k*4+1,none⟩=some (.int .i64 yp)/\w'.cell? ⟨b2,o2+k*4+2,none⟩=some (.slice na2 yc.length nc2)/\w'.cell? ⟨b2,o2+k*4+3,none⟩=some (.slice ga2 yg.length gc2)))) (by kernel_rfl) Hb.out λhQ=>?_;refine tk 0 ?_;refine tk 1 ?_;refine tk 2 ?_;refine tk 3 ?_;refine tk 4 ?_;refine tk 5 ?_;refine tk 6 ?_;refine tk 7 ?_;refine tk 8 ?_;refine tk 9 ?_;refine rd 10 λK hK=>?_;go_simp
    go_wp2_with fail
    refine Hg.out.mono ?_;rintro e W1 ⟨sb,rfl,HC,Ha⟩;have Hf:=qI (Hc.out.trans ((show Below wr.heap.size wr W1 from ⟨Ha.os,Ha.tape,Ha.output,Ha.size,Ha.block⟩).mono Hc.out.size));have Hr:=qI (show Below wr.heap.size wr W1 from ⟨Ha.os,Ha.tape,Ha.output,Ha.size,Ha.block⟩);have HF:=qI HC;have Hv:=qI (show (W1.cell? ⟨b1,o1+k*4,none⟩=some (.string xn)/\W1.cell? ⟨b1,o1+k*4+1,none⟩=some (.int .i64 xp)/\W1.cell? ⟨b1,o1+k*4+2,none⟩=some (.slice na1 xc.length nc1)/\W1.cell? ⟨b1,o1+k*4+3,none⟩=some (.slice ga1 xg.length gc1))/\(W1.cell? ⟨b2,o2+k*4,none⟩=some (.string yn)/\W1.cell? ⟨b2,o2+k*4+1,none⟩=some (.int .i64 yp)/\W1.cell? ⟨b2,o2+k*4+2,none⟩=some (.slice na2 yc.length nc2)/\W1.cell? ⟨b2,o2+k*4+3,none⟩=some (.slice ga2 yg.length gc2)) from ⟨⟨(Ha.cell (p:=⟨b1,o1+k*4,none⟩) Hj.out).trans Hb.out.1.1,(Ha.cell (p:=⟨b1,o1+k*4+1,none⟩) Hj.out).trans Hb.out.1.2.1,(Ha.cell (p:=⟨b1,o1+k*4+2,none⟩) Hj.out).trans Hb.out.1.2.2.1,(Ha.cell (p:=⟨b1,o1+k*4+3,none⟩) Hj.out).trans Hb.out.1.2.2.2⟩,⟨(Ha.cell (p:=⟨b2,o2+k*4,none⟩) Hh.out).trans Hb.out.2.1,(Ha.cell (p:=⟨b2,o2+k*4+1,none⟩) Hh.out).trans Hb.out.2.2.1,(Ha.cell (p:=⟨b2,o2+k*4+2,none⟩) Hh.out).trans Hb.out.2.2.2.1,(Ha.cell (p:=⟨b2,o2+k*4+3,none⟩) Hh.out).trans Hb.out.2.2.2.2⟩⟩);clear Ha HC
    go_wp2
    refine hK.out _ _ Hv.out λhQ=>?_;clear hK K;refine tk 11 ?_;refine Qn (by kernel_rfl) ?_ _;clear hQ Hg Hb;have r3:=Hv.out.1.2.2.2;have s3:=Hv.out.2.2.2.2;have KP:Hid (PQ->(⟨xn,xp,xc⟩:Pd)=⟨yn,yp,yc⟩):=λe=>by have h:=HK.out e;injection h
    have KG:Hid (PQ->xg=yg):=λe=>by have h:=HK.out e;injection h
    clear HK;cases sb with
    | false=>
     go_wp2
     go_quiet (fail)
     go_wp2
     go_ret;exact ⟨_,rfl,λe=>absurd (HF.out (KP.out e)) (by decide),Hf.out.trans ((kf _ _).mono Hf.out.size)⟩
    | true=>
     clear HF KP
     by_cases e2:xg.length=yg.length
     ·rw [<- e2] at s3;have E2:=qI e2;clear e2 gm2
      go_wp2
      go_quiet (fail)
      go_wp2
      go_loopw [7] (λi wq=>∃ j:Nat,j<=xg.length/\i=.int .i64 j/\Below W1.heap.size W1 wq) (λi _=>xg.length - (intOf i).toNat)
      case atStart=>exact ⟨0,by omega,rfl,kf _ _⟩
      case round=>
       obtain ⟨j,hj,rfl,hb⟩:=hrel;have HS:=Q1 Hj.out Hr.out.size;have Hz:=Q1 Hh.out Hr.out.size;have r4:=(hb.cell (p:=⟨b1,o1+k*4+3,none⟩) HS).trans r3;have s4:=(hb.cell (p:=⟨b2,o2+k*4+3,none⟩) Hz).trans s3;have Hw:=qI (Hf.out.trans (hb.mono Hf.out.size));have He:=qI (Hr.out.trans (hb.mono Hr.out.size));have Hs:=qI hb;clear hb
       by_cases hjl:j<xg.length
       ·obtain ⟨u1,v1,dv1,rfl,HD,x0,x1,HI⟩:=Hx.out j hjl;obtain ⟨u2,v2,dv2,rfl,Ho,y0,y1,HJ⟩:=Ht.out j (by rw [<- E2.out];exact hjl);have x0:=(He.out.cell (p:=⟨u1,v1+j*2,none⟩) HD).trans x0;have x1:=(He.out.cell (p:=⟨u1,v1+j*2+1,none⟩) HD).trans x1;have y0:=(He.out.cell (p:=⟨u2,v2+j*2,none⟩) Ho).trans y0;have y1:=(He.out.cell (p:=⟨u2,v2+j*2+1,none⟩) Ho).trans y1;have j1:Hid (PQ->(gv xg j).cp=(gv yg j).cp):=λe=>by rw [KG.out e]
        have j2:Hid (PQ->(gv xg j).dv=(gv yg j).dv):=λe=>by rw [KG.out e]
        have HM:=qI (HI.below He.out);have HP:=qI (HJ.below He.out);obtain ⟨da1,dc1,rfl,_,_⟩:=HI;obtain ⟨da2,dc2,rfl,_,_⟩:=HJ;generalize (gv xg j).cp=cp1 at *;generalize (gv yg j).cp=cp2 at *;generalize (gv xg j).dv=dx at *;generalize (gv yg j).dv=dy at *;have hX:=(Q0 wr.heap.size wr).alloc (lR) (fX cp1 da1 dx.length dc1);have s4:=(hX.cell (p:=⟨b2,o2+k*4+3,none⟩) (Q1 Hz Hs.out.size)).trans s4;have y0:=(hX.cell (p:=⟨u2,v2+j*2,none⟩) (Q1 Ho He.out.size)).trans y0;have y1:=(hX.cell (p:=⟨u2,v2+j*2+1,none⟩) (Q1 Ho He.out.size)).trans y1;have Hk:=qI (hX.alloc hX.size (fX cp2 da2 dy.length dc2));have HB:=qI (Fw _ _ dx dy _ (HM.out.below Hk.out) (HP.out.below Hk.out));have Hn:=qI (Hw.out.trans (Hk.out.mono Hw.out.size));have Hi:=qI (Hs.out.trans (Hk.out.mono Hs.out.size));have z0:((wr.alloc (fX cp1 da1 dx.length dc1)).alloc (fX cp2 da2 dy.length dc2)).cell? ⟨wr.heap.size,0,none⟩=some (.int .u64 cp1):=by simp
        have z1:((wr.alloc (fX cp1 da1 dx.length dc1)).alloc (fX cp2 da2 dy.length dc2)).cell? ⟨wr.heap.size,1,none⟩=some (.slice da1 dx.length dc1):=by simp
        have z2:((wr.alloc (fX cp1 da1 dx.length dc1)).alloc (fX cp2 da2 dy.length dc2)).cell? ⟨wr.heap.size+1,0,none⟩=some (.int .u64 cp2):=by simp
        have z3:((wr.alloc (fX cp1 da1 dx.length dc1)).alloc (fX cp2 da2 dy.length dc2)).cell? ⟨wr.heap.size+1,1,none⟩=some (.slice da2 dy.length dc2):=by simp
        clear hX HM HP Hx Ht
        go_wp2_with fail
        generalize ((wr.alloc (fX cp1 da1 dx.length dc1)).alloc (fX cp2 da2 dy.length dc2))=W6 at *;refine HB.out.mono ?_;rintro e w7 ⟨db,rfl,HN,n7,rfl⟩;have HQ:=qI HN;clear HN HB
        by_cases e3:cp1=cp2
        ·subst e3;cases db with
         | true=>
          go_wp2
          go_roundw
          case rel=>exact ⟨j+1,by omega,by go_num,Hi.out.trans ((kf _ _).mono Hi.out.size)⟩
          case measure=>simp [intOf];omega
         | false=>
          go_wp2
          go_ret;exact ⟨_,rfl,λe=>absurd (HQ.out (j2.out e)) (by decide),Hn.out.trans ((kf _ _).mono Hn.out.size)⟩
        ·have e3':((cp1:Int) == (cp2:Int))=false:=by simp;omega
         have e3'':(cp1 == cp2)=false:=by simpa using e3
         have e3d:¬ ((cp1:Int)=(cp2:Int)):=by omega
         have E3:=qI e3;clear e3
         go_wp2
         go_ret;exact ⟨_,rfl,λe=>absurd (j1.out e) E3.out,Hn.out.trans ((kf _ _).mono Hn.out.size)⟩
       ·have HR:j=xg.length:=by omega
        subst HR
        go_wp2
        go_roundw
        case rel=>exact ⟨k+1,by omega,by go_num,Hw.out⟩
        case measure=>simp [intOf];omega
     ·have e2':((xg.length:Int) == (yg.length:Int))=false:=by simp;omega
      have E2:=qI e2;clear e2
      go_wp2
      go_quiet (fail)
      go_wp2
      go_ret;exact ⟨_,rfl,λe=>absurd (congrArg List.length (KG.out e)) E2.out,Hf.out.trans ((kf _ _).mono Hf.out.size)⟩
   ·have HT:k=hs.length:=by omega
    subst HT
    go_wp2
    go_ret;exact ⟨_,rfl,λ_=>rfl,Hc.out⟩
 ·have hb:((hs.length:Int) == (gs.length:Int))=false:=by simp;omega
  have E1:=qI e1;clear e1
  go_enter func24,ntmps24
  go_wp2
  go_ret;exact ⟨_,rfl,λe=>absurd (k1.out e) E1.out,Q0 _ _⟩
end
section
open Go.ChangeShapes Go.WideShapes Go.ChangeAt Go.RowKit
open S1 (Tab Mx kL)
theorem GR:ownKnob prog.godebug=none:=by kernel_rfl
theorem rC:laidOutB prog=true:=by kernel_rfl
theorem GS:(prog.globals[0]?).map (·.type)=some 383:=by kernel_rfl
theorem GT:prog.cellsOf 383=20:=by kernel_rfl
theorem GU:prog.cellsOf 23=1:=by kernel_rfl
theorem GV:(Rows.laid_internal_strconv_uint64pow10:DataW Unit)=Lib.tabData .u64 Lib.pow10Tab:=by kernel_rfl
def GX:Array Value:=#[.int .u8 0,.int .u8 1,.int .u8 28,.int .u8 2,.int .u8 29,.int .u8 14,.int .u8 24,.int .u8 3,.int .u8 30,.int .u8 22,.int .u8 20,.int .u8 15,.int .u8 25,.int .u8 17,.int .u8 4,.int .u8 8,.int .u8 31,.int .u8 27,.int .u8 13,.int .u8 23,.int .u8 21,.int .u8 19,.int .u8 16,.int .u8 7,.int .u8 26,.int .u8 12,.int .u8 18,.int .u8 6,.int .u8 11,.int .u8 5,.int .u8 10,.int .u8 9]
def GY:Array Value:=#[.int .u8 0,.int .u8 1,.int .u8 56,.int .u8 2,.int .u8 57,.int .u8 49,.int .u8 28,.int .u8 3,.int .u8 61,.int .u8 58,.int .u8 42,.int .u8 50,.int .u8 38,.int .u8 29,.int .u8 17,.int .u8 4,.int .u8 62,.int .u8 47,.int .u8 59,.int .u8 36,.int .u8 45,.int .u8 43,.int .u8 51,.int .u8 22,.int .u8 53,.int .u8 39,.int .u8 33,.int .u8 30,.int .u8 24,.int .u8 18,.int .u8 12,.int .u8 5,.int .u8 63,.int .u8 55,.int .u8 48,.int .u8 27,.int .u8 60,.int .u8 41,.int .u8 37,.int .u8 16,.int .u8 46,.int .u8 35,.int .u8 44,.int .u8 21,.int .u8 52,.int .u8 32,.int .u8 23,.int .u8 11,.int .u8 54,.int .u8 26,.int .u8 40,.int .u8 15,.int .u8 34,.int .u8 20,.int .u8 31,.int .u8 10,.int .u8 25,.int .u8 14,.int .u8 19,.int .u8 9,.int .u8 13,.int .u8 8,.int .u8 7,.int .u8 6]
def GZ:Array Value:=#[.int .u8 128,.int .u8 191,.int .u8 160,.int .u8 191,.int .u8 128,.int .u8 159,.int .u8 144,.int .u8 191,.int .u8 128,.int .u8 143,.int .u8 0,.int .u8 0,.int .u8 0,.int .u8 0,.int .u8 0,.int .u8 0,.int .u8 0,.int .u8 0,.int .u8 0,.int .u8 0,.int .u8 0,.int .u8 0,.int .u8 0,.int .u8 0,.int .u8 0,.int .u8 0,.int .u8 0,.int .u8 0,.int .u8 0,.int .u8 0,.int .u8 0,.int .u8 0]
theorem mxV {W:World} (hsh:W.ShapedOpen prog):Mx W:=laysM219.s1_3 W hsh
theorem G0 {W : World} {rest : List (String × DataW Unit)} (h : laidMet prog (("math/bits.deBruijn32tab", Rows.laid_math_bits_deBruijn32tab) :: ("math/bits.deBruijn64tab", Rows.laid_math_bits_deBruijn64tab) :: ("internal/strconv.uint64pow10", Rows.laid_internal_strconv_uint64pow10) :: rest) W) : ci W := by
 have h2:=laidMet.tail (laidMet.tail h);rw [GV] at h2;have ht:Tab W:=Lib.tabIs_of_head kL GS underlying383 underlying23 GU GT h2;exact ⟨ht,Q3 W ⟨0,0,none⟩ (ht.cell kL 0 (by decide))⟩
noncomputable def rD (os:Os):World:=
 { World.holding prog os ⟨#[],#[],[]⟩ with heap:=((((((World.holding prog os ⟨#[],#[],[]⟩).heap.modify 0 fun
   | .cells _ t frozen=>.cells (Lib.pow10Tab.map (Value.int .u64)).toArray t frozen
   | o=>o).modify 2 fun
   | .cells _ t frozen=>.cells GX t frozen
   | o=>o).modify 3 fun
   | .cells _ t frozen=>.cells GY t frozen
   | o=>o).modify 5 fun
   | .cells _ t frozen=>.cells GZ t frozen
   | o=>o).modify 4 fun
   | .cells _ t frozen=>.cells (Go.Pinned.utf8FirstZ.map λ(n:Nat)=>Value.int .u8 (n:Int)).toArray t frozen
   | o=>o) }
end
section
open RowKit Shelf
open Ost (dL dp)
open Qos (Nd Ct Pd nd)
open Sv (Gv wd)
open S1 (Mx)
def NL (w:World) (b:Nat) (ws:List (List UInt8)):Prop:=b<w.heap.size/\∀ k,k<ws.length->w.cell? ⟨b,k,none⟩=some (.string ⟨(wd ws k).toArray⟩)
def FrV (G:(Nat->Value)->Act) (P:(Nat->Value)->World->Prop) (a:Act) (w:World):Prop:=∃ F,a=G F/\P F w
theorem ah {W:World} {g:Nat} {cs:Array Value} {t:TypeId} (h:W.heap[g]?=some (.cells cs t (0,0))) (i:Nat) (v:Value):(W.setCell ⟨g,i,none⟩ v).heap[g]?=some (.cells (cs.setIfInBounds i v) t (0,0)):=by
 obtain ⟨Ha,hk⟩:=gS h
 show (W.heap.modify g _)[g]?=_
 rw [Array.getElem?_eq_getElem (by rw [Array.size_modify];exact Ha),Array.getElem_modify_self,hk];rfl
def NM (R:Act->World->Prop):Exit->Act->World->Prop
 | .normal,a,w=>R a w
 | _,_,_=>False
end
section
open RowKit Shelf
open Qos (Nd Ct Pd nd ct pd)
open Sv (Gv Hd gv hd)
end
