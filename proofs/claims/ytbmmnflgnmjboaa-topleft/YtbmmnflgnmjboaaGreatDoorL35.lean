import Derived.Test.YtbmmnflgnmjboaaGreatDoorL33
import Derived.Test.YtbmmnflgnmjboaaGreatDoorL34
import Derived.Test.YtbmmnflgnmjboaaGreatDoorL22
set_option maxRecDepth 100000
set_option maxHeartbeats 16000000
namespace Go.Proofs.YtbmmnflgnmjboaaGreatDoor
section
open Go.RowKit Go.Shelf
open Ost (Cpu ae)
open Qos (Nd Ct Pd nd ct pd ah)
open Sv (Gv Hd gv hd gsF az aE)
open Dvs (Dv dv aU)
attribute [local go_sem] Oper.semAt_some
theorem mX {B:Nat} {w W W':World} {K:Nat->Prop} (hb:Below B w W) (hB:B<=W.heap.size) (ha:Apart K W W') (hK:∀ j,K j->B<=j):Below B w W':=
 ⟨ha.os.trans hb.os,ha.tape.trans hb.tape,ha.output.trans hb.output,Nat.le_trans hb.size ha.size,λj hj=>(ha.block j (by omega) (λe=>by have:=hK j e;omega)).trans (hb.block j hj)⟩
theorem JS (c:Ol.Cf) (v1 v2:Value) (g o:Nat) (w:World) (h1:eM w v1 c.l) (h2:cW w v2 g o c.ds):Calls Tryz.prog 9 #[jp c v1 v2] w λe w'=>Ans e/\Below w.heap.size w w':=by
 obtain ⟨ca,cc,hv1⟩:∃ ca cc,v1=.slice ca c.l.length cc:=by
  rcases id h1 with ⟨hl,ao,q,rfl⟩|⟨b,o,q,rfl,_⟩
  ·exact ⟨ao,q,by rw [hl];rfl⟩
  ·exact ⟨_,q,rfl⟩
 obtain ⟨da,dc,hv2,hr⟩:=h2;subst hv1 hv2;have HR:=qI hr;clear h1 hr;unfold jp;generalize c.l.length=cl at *;have HB0:=qI ((Below.refl w.heap.size w).alloc (lR) (.cells #[.slice ca cl cc,.int .u64 (c.keep:Nat),.int .i64 c.nb,.slice da c.ds.length dc,.int .i64 c.pol] 27));have HX0:=qI (aH w (.cells #[.slice ca cl cc,.int .u64 (c.keep:Nat),.int .i64 c.nb,.slice da c.ds.length dc,.int .i64 c.pol] 27) rfl)
 by_cases h70:70<cl
 ·go_enter Tryz.func9,Tryz.ntmps9
  go_wp2_with fail
  go_ret;exact ⟨⟨_,rfl⟩,HB0.out⟩
 have hd1:decide (70<(cl:Int))=false:=decide_eq_false (by omega)
 by_cases h20:20<c.ds.length
 ·go_enter Tryz.func9,Tryz.ntmps9
  go_wp2_with fail
  go_ret;exact ⟨⟨_,rfl⟩,HB0.out⟩
 have hd2:decide (20<(c.ds.length:Int))=false:=decide_eq_false (by omega);have h20':c.ds.length<=20:=by omega
 clear h70 h20
 go_enter Tryz.func9,Tryz.ntmps9
 go_wp2_with fail
 generalize w.alloc (.cells #[.slice ca cl cc,.int .u64 (c.keep:Nat),.int .i64 c.nb,.slice da c.ds.length dc,.int .i64 c.pol] 27)=X at *
 go_loopw [3] (λi wr=>∃ k:Nat,k<=c.ds.length/\i=.int .i64 k/\wr=X) (λi _=>c.ds.length - (intOf i).toNat)
 case atStart=>exact ⟨0,Nat.zero_le _,rfl,rfl⟩
 case round=>
  obtain ⟨k,hk,rfl,rfl⟩:=hrel;have x3:wr.cell? ⟨w.heap.size,3,none⟩=some (.slice da c.ds.length dc):=ad HX0.out 3
  by_cases hlt:k<c.ds.length
  ·obtain ⟨rfl,hgl,hc⟩:=HR.out (by omega);have y0:wr.cell? ⟨g,o+k*3,none⟩=some (.string (dv c.ds k).kind):=(HB0.out.cell (p:=⟨g,o+k*3,none⟩) hgl).trans (hc k hlt).1;clear hc;generalize (dv c.ds k).kind=kd at *
   by_cases h30:30<kd.size
   ·go_wp2_with fail
    go_ret;exact ⟨⟨_,rfl⟩,HB0.out⟩
   ·have hd3:decide (30<(kd.size:Int))=false:=decide_eq_false (by omega);clear h30
    go_wp2_with fail
    go_roundw
    case rel=>exact ⟨k+1,by omega,by go_num,trivial⟩
    case measure=>simp [intOf];omega
  ·go_wp2_with fail
   go_ret;exact ⟨⟨_,rfl⟩,HB0.out⟩
end
section
open Go.RowKit Go.Shelf
open Ost (Cpu ae)
open Qos (Nd Ct Pd nd ct pd ah)
open Sv (Gv Hd gv hd gsF az aE)
open Dvs (Dv dv aU)
open S1 (Mx)
attribute [local go_sem] Oper.semAt_some
theorem p7 {N:Nat->Prop} {Ba Bd Be Bm:Nat} {t:Ol.St} {dk:Dk} {n:Nat} {w:World} (h:av w N Ba Bd Be Bm t dk n):Calls Tryz.prog 15 #[.pointer (some ⟨Ba,0,none⟩)] w λe w'=>∃ a c,e=.returned (.slice a t.hs.length c)/\aN (fresh w.heap.size w') (.slice a t.hs.length c) t.hs/\Below w.heap.size w w':=by
 obtain ⟨h1,hcalm,hcpu,hE,hab,hfr,hnl,htx,tb,b,tc,hv,pb,db,ao,pc,s,k1,k2,k3,k4,k5,k6,k7⟩:=h;obtain ⟨a1,a2,a3⟩:=Ol.bX.1 h1.held;exact I2 Ba tb t.m Bd Be hv s.cp pb t.hs w k1 (k2.le (ch _ _)) a2 (by omega)
theorem JT {t:Ol.St} {p:Pd} (h:(Ol.aK t p).1=0):ce (Ol.aK t p).2 p.nm=true:=by
 rcases two (ce (Ol.aK t p).2 p.nm) with e|e
 ·exact e
 ·exfalso
  have h1:=Ol.tS h;have h2:=Ol.uf h;rw [wO e] at h1;rw [h1] at h2;omega
theorem JU {W:World} {b:Nat} {nm:ByteArray} (h:W.heap[b]?=some (.cells #[.string nm,.int .i64 0,.int .i64 0,.int .i64 0,.int .i64 0,.slice none 0 0] 63 (0,0))):aD W (.slice (some ⟨b,0,none⟩) 1 1) [⟨nm,0,0,0,0,[]⟩]:=by
 have hl:b<W.heap.size:=(gS h).1;refine ⟨_,_,rfl,⟨lR,by decide⟩,λ_=>⟨b,0,λ_=>.slice none 0 0,rfl,hl,λk hk=>?_⟩⟩;have hk0:k=0:=by simp at hk;exact hk
 subst hk0;refine ⟨λj hj=>?_,⟨none,0,rfl,by simp [ct],λh=>by simp [ct] at h⟩⟩
 have:=ad h j
 simp only [Nat.zero_mul,Nat.zero_add];rw [this]
 have:j=0\/j=1\/j=2\/j=3\/j=4\/j=5:=by omega
 rcases this with rfl|rfl|rfl|rfl|rfl|rfl <;> rfl
theorem JV {W:World} {b:Nat} (h:W.heap[b]?=some (.cells #[.int .i64 0,.int .i64 0,.int .i64 0] 84 (0,0))):eM W (.slice (some ⟨b,0,none⟩) 1 1) [⟨0,0,0⟩]:=by
 refine .inr ⟨b,0,1,rfl,λk hk=>?_⟩;have hk0:k=0:=by simp at hk;exact hk
 subst hk0;exact ⟨ad h 0,ad h 1,ad h 2⟩
abbrev iu:Nat->Prop:=λ_=>False
theorem JW (w:World) (ht:bE w) (hm:Mx w):Calls Tryz.prog 8 #[] w λe w'=>e=.returned (.bool true)/\Below w.heap.size w w':=by
 have HB0:=qI ((Below.refl w.heap.size w).alloc (lR) (.cells #[.int .i64 0,.int .i64 0,.int .i64 0] 84));have HX0:=qI (aH w (.cells #[.int .i64 0,.int .i64 0,.int .i64 0] 84) rfl);have HT:=qI ht;have HM:=qI hm;have hgl:0<w.heap.size:=ht.2;clear ht hm
 go_enter Tryz.func8,Tryz.ntmps8
 go_wp2_with fail
 generalize w.alloc (.cells #[.int .i64 0,.int .i64 0,.int .i64 0] 84)=X at *;refine (wn Ol.wC (.slice (some ⟨w.heap.size,0,none⟩) 1 1) (.slice none 0 0) 0 0 X (JV HX0.out) ⟨none,0,rfl,λh=>by simp [Ol.wC] at h⟩ (by decide) (HT.out.below HB0.out) (HM.out.below HB0.out)).mono ?_;rintro e W1 ⟨hbad,hgood,hout⟩;clear hbad;obtain ⟨Ba,Bd,Be,Bm,rfl,hM1,l1,l2,l3,l4⟩:=hgood Ol.EQ;have hX:w.heap.size<=X.heap.size:=HB0.out.size;have HB1:Hid (Below w.heap.size w W1):=HB0.out.trans (hout.mono hX);have HM1:=qI hM1;have h3:∀ j,three Ba Bd Bm j->w.heap.size<=j:=λj hj=>by
  rcases hj with e|e|e <;> omega
 have H3:=qI h3;have HG3:Hid (¬ three Ba Bd Bm 0):=λe=>by have:=h3 _ e;omega
 clear hgood hout hM1 h3;have HB2:=qI (HB1.out.alloc HB1.out.size (.cells #[.pointer (some ⟨Bd,0,none⟩),.pointer (some ⟨Be,0,none⟩),.pointer (some ⟨Ba,0,none⟩)] 36));have HC2:=qI ((Below.refl W1.heap.size W1).alloc (lR) (.cells #[.pointer (some ⟨Bd,0,none⟩),.pointer (some ⟨Be,0,none⟩),.pointer (some ⟨Ba,0,none⟩)] 36));have HX2:=qI (aH W1 (.cells #[.pointer (some ⟨Bd,0,none⟩),.pointer (some ⟨Be,0,none⟩),.pointer (some ⟨Ba,0,none⟩)] 36) rfl);have HS2:Hid ((W1.alloc (.cells #[.pointer (some ⟨Bd,0,none⟩),.pointer (some ⟨Be,0,none⟩),.pointer (some ⟨Ba,0,none⟩)] 36)).heap.size=W1.heap.size+1):=by unfold Hid;simp
 have x2:(W1.alloc (.cells #[.pointer (some ⟨Bd,0,none⟩),.pointer (some ⟨Be,0,none⟩),.pointer (some ⟨Ba,0,none⟩)] 36)).cell? ⟨W1.heap.size,2,none⟩=some (.pointer (some ⟨Ba,0,none⟩)):=ad HX2.out 2
 go_upto_region 4 with fail
 generalize W1.alloc (.cells #[.pointer (some ⟨Bd,0,none⟩),.pointer (some ⟨Be,0,none⟩),.pointer (some ⟨Ba,0,none⟩)] 36)=Y at *;have HB3:=qI (HB2.out.alloc HB2.out.size (.cells #[.string ⟨#[120]⟩,.int .i64 0,.int .i64 0,.int .i64 0,.int .i64 0,.slice none 0 0] 63));have HC3:=qI (HC2.out.alloc HC2.out.size (.cells #[.string ⟨#[120]⟩,.int .i64 0,.int .i64 0,.int .i64 0,.int .i64 0,.slice none 0 0] 63));have HX3:=qI (aH Y (.cells #[.string ⟨#[120]⟩,.int .i64 0,.int .i64 0,.int .i64 0,.int .i64 0,.slice none 0 0] 63) rfl);have HY3:=qI (bA HX2.out (.cells #[.string ⟨#[120]⟩,.int .i64 0,.int .i64 0,.int .i64 0,.int .i64 0,.slice none 0 0] 63))
 go_wp2_with fail
 clear x2;generalize Y.alloc (.cells #[.string ⟨#[120]⟩,.int .i64 0,.int .i64 0,.int .i64 0,.int .i64 0,.slice none 0 0] 63)=Z at *;have lba:Ba<W1.heap.size:=by
  obtain ⟨_,_,_,_,_,_,_,_,_,_,_,_,_,_,_,_,_,k1,_⟩:=HM1.out;exact k1.lt
 obtain ⟨lbe,lbd,lbm⟩:=HM1.out.eng.lt;have hs2:=HS2.out;have HAD:=qI (wR iu Ba Bd Be Bm ⟨Ol.cK Ol.wC,Ol.wC.ds,[]⟩ Dk.fresh 0 Ol.wP (.slice (some ⟨Y.heap.size,0,none⟩) 1 1) Z (HM1.out.keep HC3.out) (JU (by rw [bH (by rintro (e|e|e|e) <;> first|exact e|omega)];exact HX3.out)) (HT.out.below HB3.out) (by omega) (λl hl=>by
  have:l=[]:=by simpa using hl
  subst this;exact wB (l:=[]) (by simp)))
 unfold bQ at HAD;clear hs2;refine HAD.out.mono ?_;clear HAD;rintro e W4 ⟨rfl,⟨dk4,n4,hn4,hM4⟩,ha4⟩;have hadm:(Ol.aK ⟨Ol.cK Ol.wC,Ol.wC.ds,[]⟩ Ol.wP).1=0:=Ol.ER;have HHAS:=qI (JT hadm);have HLEN:Hid ((Ol.aK ⟨Ol.cK Ol.wC,Ol.wC.ds,[]⟩ Ol.wP).2.length=1):=Ol.uf hadm;have HGONE:Hid (Ol.eU (Ol.aK ⟨Ol.cK Ol.wC,Ol.wC.ds,[]⟩ Ol.wP).2 Ol.wP.nm=[]):=Ol.tS hadm;have hn4':n4<=36:=by
  have h1:=vM (au []) (au (Ol.aK ⟨Ol.cK Ol.wC,Ol.wC.ds,[]⟩ Ol.wP).2);have h2:=vA hM4.inv.held;dsimp only at hn4 h2;omega
 rw [hadm];generalize (Ol.aK ⟨Ol.cK Ol.wC,Ol.wC.ds,[]⟩ Ol.wP).2=hs4 at *;have HM4:=qI hM4;have HB4:=qI (mX HB3.out HB3.out.size ha4 H3.out);have HTA4:Hid (∀ W,Apart (three Ba Bd Bm) Z W->bE W):=λW hW=>JF (HT.out.below HB3.out) hW HG3.out
 have HA4:=qI ha4;have HMB:Hid (¬ three Ba Bd Bm W1.heap.size):=λe=>by rcases e with e|e|e <;> omega
 have hZ:W1.heap.size<Z.heap.size:=(gS HY3.out).1;have HY4:=qI ((ha4.block W1.heap.size hZ HMB.out).trans HY3.out);have x2:W4.cell? ⟨W1.heap.size,2,none⟩=some (.pointer (some ⟨Ba,0,none⟩)):=ad HY4.out 2;rw [show aq (((0:Nat)):Int)=.nilIface from rfl];clear hadm hn4 hM4 ha4
 go_wp2_with fail
 refine (p7 HM4.out).mono ?_;rintro e W5 ⟨a5,c5,rfl,_,hb5⟩;dsimp only;rw [HLEN.out];have HB5:=qI (HB4.out.trans (hb5.mono HB4.out.size));have HA5:=qI (HA4.out.trans (Apart.of_below hb5));have HM5:=qI (HM4.out.keep hb5);have hs5:=hb5.size;have hs4:=HA4.out.size;have HY5:=qI ((hb5.block W1.heap.size (by omega)).trans HY4.out);have x2':W5.cell? ⟨W1.heap.size,2,none⟩=some (.pointer (some ⟨Ba,0,none⟩)):=ad HY5.out 2;clear hb5 x2;have HRM:=qI (wQ iu Ba Bd Be Bm _ dk4 n4 Ol.wP.nm W5 HM5.out (by omega) (λW hW=>HTA4.out W (HA5.out.trans hW)));dsimp only at HRM;rw [HHAS.out,HGONE.out] at HRM;unfold Ol.wP at HRM;dsimp only at HRM
 go_wp2_with fail
 refine HRM.out.mono ?_;rintro e W6 ⟨rfl,⟨dk6,n6,hn6,hM6⟩,ha6⟩;rw [show aq (((if True then 0 else 6:Nat)):Int)=.nilIface from rfl];have HM6:=qI hM6;have HB6:=qI (mX HB5.out HB5.out.size ha6 H3.out);have HY6:=qI ((ha6.block W1.heap.size (by omega) HMB.out).trans HY5.out);have x2'':W6.cell? ⟨W1.heap.size,2,none⟩=some (.pointer (some ⟨Ba,0,none⟩)):=ad HY6.out 2;clear hn6 hM6 ha6 x2' HRM
 go_wp2_with fail
 refine (p7 HM6.out).mono ?_;rintro e W7 ⟨a7,c7,rfl,_,hb7⟩;dsimp only;have HB7:=qI (HB6.out.trans (hb7.mono HB6.out.size));clear hb7
 go_wp2_with fail
 go_ret;exact ⟨rfl,HB7.out⟩
end
section
open Go.RowKit Go.Shelf
open Qos (Nd Ct Pd nd ct pd ah)
open Sv (Gv Hd gv hd gsF az aE)
attribute [local go_sem] Oper.semAt_some
theorem JX (t:Ol.St) (p:Pd):((Ol.aK t p).1≠0/\(Ol.aK t p).2=t.hs)\/((Ol.aK t p).1=0/\∃ gs,(Ol.aK t p).2=Ol.bz t.hs ⟨p,gs⟩):=by
 unfold Ol.aK
 split
 ·rename_i h;exact .inl ⟨h,rfl⟩
 split
 ·exact .inl ⟨by simp,rfl⟩
 split
 ·exact .inl ⟨by simp,rfl⟩
 split
 ·exact .inl ⟨by simp,rfl⟩
 split
 ·rename_i h;exact .inl ⟨h,rfl⟩
 split
 ·exact .inl ⟨by simp,rfl⟩
 ·exact .inr ⟨rfl,_,rfl⟩
open Classical in
theorem JY (hs:List Hd) (i:Nat) (x:Hd):dz (au hs) (au (hs.take i++x :: hs.drop i))<=x.gs.length:=by
 have e:au (hs.take i++x :: hs.drop i)=au (hs.take i)++((List.range x.gs.length).map (j5 x)++au (hs.drop i)):=by
  unfold au;rw [List.flatMap_append,List.flatMap_cons]
 have h1:=mT (p5 (List.take_sublist i hs));have h2:=mT (p5 (List.drop_sublist i hs));unfold dz at h1 h2 ⊢;rw [e,List.filter_append,List.filter_append,List.length_append,List.length_append,h1,h2]
 have:=List.length_filter_le (λr=>decide (r ∉ au hs)) ((List.range x.gs.length).map (j5 x))
 rw [List.length_map,List.length_range] at this;omega
theorem JZ {t:Ol.St} (h:Ol.Inv t) (p:Pd):dz (au t.hs) (au (Ol.aK t p).2)<=3:=by
 rcases JX t p with h1|⟨_,gs,h1⟩
 ·rw [h1.2,mT (λ_ h=>h)];omega
 ·have hi:=(Ol.Ek h p).held;have hi:az (Ol.aK t p).2=0:=hi;rw [h1] at hi ⊢;have hx:(⟨p,gs⟩:Hd)∈Ol.bz t.hs ⟨p,gs⟩:=by unfold Ol.bz;simp
  obtain ⟨_,a2,_⟩:=Ol.bX.1 hi;obtain ⟨b1,b2,_⟩:=a2 _ hx;have b3:=(Sv.fG b1).2.2.1
  have:=JY t.hs (Ol.bY t.hs p.nm) ⟨p,gs⟩
  unfold Ol.bz;dsimp only at this b2 b3 ⊢;omega
section
variable {N:Nat->Prop} {Ba Bd Be Bm:Nat} {t:Ol.St} {dk:Dk} {n:Nat} {w:World}
theorem J0 {p:Pd} {cv:Value} (hM:av w N Ba Bd Be Bm t dk n) (hp:aD (ag (four N Ba Bd Bm) w) cv p.cs) (ht:bE w) (hn:n+36<=1000):Calls Tryz.prog 23 #[.pointer (some ⟨Ba,0,none⟩),bQ p cv] w λe w'=>e=.returned (aq ((Ol.aK t p).1:Nat))/\(∃ dk' n',(n'<=n+3/\eL w w' Ba)/\av w' N Ba Bd Be Bm ⟨t.m,t.ds,(Ol.aK t p).2⟩ dk' n')/\Apart (three Ba Bd Bm) w w':=by
 have h12:=(Ol.bX.1 hM.inv.held).1;refine (wR N Ba Bd Be Bm t dk n p cv w hM hp ht hn (λl hl=>?_)).mono ?_
 ·have hll:l.length=t.hs.length:=by rw [<- hl,List.length_map]
  exact JR (by rw [hll];unfold Ol.bY;exact List.countP_le_length) (by omega)
 ·rintro e w' ⟨rfl,⟨dk',n',⟨hn',hu'⟩,hM'⟩,ha⟩;exact ⟨rfl,⟨dk',n',⟨by have:=JZ hM.inv p;omega,hu'⟩,hM'⟩,ha⟩
theorem J1 (h:av w N Ba Bd Be Bm t dk n):Calls Tryz.prog 15 #[.pointer (some ⟨Ba,0,none⟩)] w λe w'=>∃ a c,e=.returned (.slice a t.hs.length c)/\aN (ag (three Ba Bd Bm) w') (.slice a t.hs.length c) t.hs/\Below w.heap.size w w':=by
 obtain ⟨l1,l2,l3⟩:=h.eng.lt;have l4:Ba<w.heap.size:=by
  obtain ⟨_,_,_,_,_,_,_,_,_,_,_,_,_,_,_,_,_,k1,_⟩:=h;exact k1.lt
 refine (p7 h).mono ?_;rintro e w' ⟨a,c,rfl,hh,hb⟩;refine ⟨a,c,rfl,hh.le (be (λj _ hn=>⟨λe=>hn ?_,rfl⟩) (lR)),hb⟩
 rcases e with e|e|e
 all_goals show j<w.heap.size;omega
theorem J2 (h:av w N Ba Bd Be Bm t dk n):Calls Tryz.prog 18 #[.pointer (some ⟨Ba,0,none⟩)] w λe w'=>(∃ s,Ol.left t.m t.ds t.hs=some s/\e=.returned (.int .u64 (s.cp:Nat)))/\w'=w:=by
 obtain ⟨h1,hcalm,hcpu,hE,hab,hfr,hnl,htx,tb,b,tc,hv,pb,db,ao,pc,s,k1,k2,k3,k4,k5,k6,k7⟩:=h;have x8:w.cell? ⟨Ba,8,none⟩=some (.int .u64 s.cp):=ad k1 8;have HL:=qI k4;clear h1 hcalm hcpu hE hab hfr hnl htx k1 k2 k3 k4 k5 k6 k7
 go_enter Tryz.func18,Tryz.ntmps18
 go_wp2_with fail
 go_ret;exact ⟨⟨s,HL.out,rfl⟩,rfl⟩
end
end
section
open Go.RowKit Go.Shelf
open Ost (Cpu ae)
open Qos (Nd Ct Pd nd ct pd ah)
open Sv (Gv Hd gv hd gsF az aE)
open Dvs (Dv dv aU)
section
variable {N:Nat->Prop} {Ba Bd Be Bm:Nat} {t:Ol.St} {dk:Dk} {n:Nat} {w:World}
end
end
section
open Go.RowKit Go.Shelf
open Ost (Cpu af dif cnt)
open Qos (Nd Ct Pd nd ct pd ah aO aV)
open Sv (Gv Hd gv hd)
theorem J3 {t:Ol.St} (h:Ol.Inv t):∀ x∈t.hs,ah x.pod=0:=λx hx=>((Ol.bX.1 h.held).2.1 x hx).1
end
section
open Go.RowKit Go.Shelf
open Ost (Cpu ae)
open Qos (Nd Ct Pd nd ct pd ah)
open Sv (Gv Hd gv hd gsF az aE)
open Dvs (Dv dv aU)
section
variable {N:Nat->Prop} {Ba Bd Be Bm:Nat} {t:Ol.St} {dk:Dk} {n:Nat} {w:World}
theorem av.lts (h:av w N Ba Bd Be Bm t dk n):(Ba<w.heap.size/\Bd<w.heap.size/\Bm<w.heap.size)/\Be<w.heap.size:=by
 obtain ⟨l1,l2,l3⟩:=h.eng.lt;obtain ⟨_,_,_,_,_,_,_,_,_,_,_,_,_,_,_,_,_,k1,_⟩:=h;exact ⟨⟨k1.lt,l2,l3⟩,l1⟩
theorem av.ost (h:av w N Ba Bd Be Bm t dk n):∃ arr,w.heap[Ba]?=some (Obj.cells arr 115 (0,0))/\∃ p,w.cell? ⟨Ba,0,none⟩=some (.pointer p):=by
 obtain ⟨_,_,_,_,_,_,_,_,_,_,_,_,_,_,_,_,_,k1,_⟩:=h;exact ⟨_,k1,_,ad k1 0⟩
theorem av.not3 (h:av w N Ba Bd Be Bm t dk n) {j:Nat} {v:Value} (hv:w.cell? ⟨j,0,none⟩=some v) (h1:∀ p,v≠.pointer p) (h2:∀ b,v≠.bool b):¬ three Ba Bd Bm j:=by
 obtain ⟨_,_,p,ho⟩:=h.ost;have hd:=h.eng.disk;unfold aA at hd;have hd0:=ad hd 0;obtain ⟨xs,hm,_⟩:=h.eng.map;have hmap:∀ v,w.cell? ⟨Bm,0,none⟩≠some v:=λv e=>by
  obtain ⟨_,es,⟨ms,clock,hh,_⟩,_⟩:=hm
  simp [World.cell?,hh] at e
 rintro (e|e|e) <;> subst e
 ·rw [ho] at hv;exact h1 p (Option.some.inj hv).symm
 ·rw [hd0] at hv;exact h2 _ (Option.some.inj hv).symm
 ·exact hmap v hv
end
end
section
open Go.RowKit Go.Shelf
open Qos (Nd Ct Pd nd ct pd ah dY)
open Sv (Gv Hd gv hd)
open Dvs (Dv dv aU)
attribute [local go_sem] Oper.semAt_some
def J4 (w:World) (N:Nat->Prop) (Ba Bd Be Bm:Nat) (t:Ol.St) (n:Nat) (us:List Nd) (most:Int) (e:Ending) (w':World):Prop:=
 ∃ (qs:List Pd) (g:Nat) (nv:Value),e=.returned (.tuple #[nv,.nilIface])/\ld w' nv ((qs.take g).map Pd.nm)/\mD us (t.hs.map Hd.pod) qs/\dY us qs most 0 g/\(∃ dk' n',(n'<=n/\eL w w' Ba)/\av w' N Ba Bd Be Bm ⟨t.m,t.ds,bV t.hs ((qs.take g).map Pd.nm)⟩ dk' n')/\Apart (three Ba Bd Bm) w w'
theorem J5 {t:Ol.St} (h:Ol.Inv t):jv (t.hs.map Hd.pod):=by
 obtain ⟨a1,a2,_⟩:=Ol.bX.1 h.held;refine ⟨by rw [List.length_map];omega,λx hx=>?_⟩;obtain ⟨y,hy,rfl⟩:=List.mem_map.1 hx;have hp:=(a2 y hy).1;have s1:=(Sv.gI (Sv.fG hp).1).2;have e1:y.pod.nm.data.toList.length=y.pod.nm.size:=by simp
 exact ⟨Qos.jh hp,by omega⟩
section
variable {N:Nat->Prop} {Ba Bd Be Bm:Nat} {t:Ol.St} {dk:Dk} {n:Nat} {w:World}
theorem J6 {uv:Value} {us:List Nd} {most:Int} (h:av w N Ba Bd Be Bm t dk n) (hu:bh w uv us) (hfu:ju us) (hm1:-9223372036854775808<=most) (hm2:most<=9223372036854775807) (hn:n+36<=1000) (ht:∀ W,Apart (three Ba Bd Bm) w W->bE W) :
  Calls Tryz.prog 26 #[.pointer (some ⟨Ba,0,none⟩),uv,.int .i64 most] w (J4 w N Ba Bd Be Bm t n us most):=by
 have hH:=h;have hl12:=(Ol.bX.1 h.inv.held).1;obtain ⟨h1,h2,h0l,h3,h4,h5,h6,h7,tb,b,c,hv,pb,db,ao,pc,s,k1,k2,k3,k4,k5,k6,k7⟩:=h;have hh:aN w hv t.hs:=k2.le (ch _ _);obtain ⟨ha,hc,hve,_⟩:=id hh;subst hve;have x7:w.cell? ⟨Ba,7,none⟩=some (.slice ha t.hs.length hc):=ad k1 7;obtain ⟨ua,uc,hue,_⟩:=id hu;subst hue;have HH:=qI hH;have HL:=qI hh;have HU:=qI hu;have HT:=qI ht;have HFU:=qI hfu;have HFE:=qI (J5 h1);clear hH hh hu ht hfu h1 h2 h0l h3 h4 h5 h6 h7 k1 k2 k3 k4 k5 k6 k7
 go_enter Tryz.func26,Tryz.ntmps26
 go_wp2_with fail
 refine (tr _ t.hs w HL.out (by omega)).mono ?_;rintro e W1 ⟨pv,rfl,hrow,hb1⟩;have HPA:=qI (mP hrow);have HB1:=qI hb1;clear hrow hb1 x7;obtain ⟨PS,hPS⟩:∃ PS,PS=t.hs.map Hd.pod:=⟨_,rfl⟩;rw [<- hPS] at HPA HFE;have HPS:=qI hPS;have hpl:PS.length=t.hs.length:=by rw [hPS,List.length_map]
 have HPL:=qI hpl;clear hPS hpl;obtain ⟨pa,pcc,hpv,_⟩:=id HPA.out;subst hpv
 go_wp2_with fail
 refine (Hx _ _ PS us most W1 HPA.out (HU.out.below HB1.out) HFE.out HFU.out hm1 hm2).mono ?_;rintro e W2 ⟨⟨nv,qs,g,rfl,htx,hso,hle⟩,hb2⟩;have HB2:=qI (HB1.out.trans (hb2.mono HB1.out.size));have HSO:=qI hso;have HLE:=qI hle;have HTX:=qI htx;have HM2:=qI (HH.out.keep HB2.out);obtain ⟨na,nc,hnv,hnc,hnr⟩:=htx;subst hnv;have HNR:=qI hnr;clear hb2 hso hle hnr hnc HB1 HPA;have hlq:((qs.take g).map Pd.nm).length<=t.hs.length:=by
  have:=HSO.out.1.length_eq
  have:=HPL.out
  rw [List.length_map,List.length_take];omega
 obtain ⟨L,hL⟩:∃ L,L=(qs.take g).map Pd.nm:=⟨_,rfl⟩;rw [<- hL] at hlq HNR HTX;rw [<- hL];have HLL:=qI hL;clear hL
 by_cases hl0:L.length=0
 ·have hLn:L=[]:=List.eq_nil_of_length_eq_zero hl0;have HLN:=qI hLn;rw [hl0];clear hl0 hLn hlq
  go_wp2_with fail
  go_ret2;refine ⟨qs,g,.slice none 0 0,rfl,?_,by rw [<- HPS.out];exact HSO.out,HLE.out,⟨dk,n,⟨lR,.inl (HB2.out.block Ba HH.out.poolAt.1)⟩,?_⟩,Apart.of_below HB2.out⟩
  ·rw [<- HLL.out,HLN.out];exact ⟨none,0,rfl,lR,λh=>absurd h (by simp)⟩
  ·rw [<- HLL.out,HLN.out];exact HM2.out
 ·have hlb:((L.length:Int) == 0)=false:=by rw [beq_eq_false_iff_ne];omega
  obtain ⟨nb,hna,hnl,hcs⟩:=HNR.out (by omega);subst hna;have hc0:=hcs 0 (by omega);have hn3:=HM2.out.not3 hc0 (λ_ e=>by cases e) (λ_ e=>by cases e);have HN3:=qI hn3;have hpos:0<t.hs.length:=by omega
  have HLG:=qI (wN N Ba Bd Be Bm t dk n L nb 0 nc W2 HM2.out (λk hk=>by rw [Nat.zero_add,hcs k hk];simp [hk]) ⟨λe=>hn3 (.inr (.inl e)),λe=>hn3 (.inr (.inr e))⟩ hnl (by omega) hpos hn (λW hW=>HT.out W ((Apart.of_below HB2.out).trans hW)));have HCS:=qI hcs;have HNL:=qI hnl;have HL0:=qI hl0;clear hc0 hn3 hcs hnl hl0 hpos hlq
  go_wp2_with fail
  refine HLG.out.mono ?_;rintro e W3 ⟨rfl,⟨dk3,n3,⟨hn3',hu3⟩,hM3⟩,ha3⟩;have HM3:=qI hM3;have HU3:=qI (hu3.old HB2.out HH.out.poolAt.1);have HA3:=qI ha3;clear hM3 hu3 ha3 HLG
  go_wp2_with fail
  go_ret2;refine ⟨qs,g,.slice (some ⟨nb,0,none⟩) L.length nc,rfl,?_,by rw [<- HPS.out];exact HSO.out,HLE.out,⟨dk3,n3,⟨hn3',HU3.out⟩,by rw [<- HLL.out];exact HM3.out⟩,(Apart.of_below HB2.out).trans HA3.out⟩;rw [<- HLL.out];obtain ⟨a',c',e',q',r'⟩:=HTX.out;refine ⟨a',c',e',q',λh0=>?_⟩;obtain ⟨g',ea,gl,gc⟩:=r' h0;have eg:g'=nb:=by
   rw [ea] at e';injection e' with e1
   injection e1 with e1
   injection e1 with e1
   exact e1.symm
  subst eg;exact ⟨g',ea,Nat.lt_of_lt_of_le gl HA3.out.size,λk hk=>(ir (HA3.out.block g' gl HN3.out) k).trans (gc k hk)⟩
end
end
section
open Go.RowKit Go.Shelf
open Qos (Nd Ct Pd nd ct pd ah)
open Sv (Gv Hd gv hd)
open Dvs (Dv dv aU)
attribute [local go_sem] Oper.semAt_some
def gw (w:World) (Ba j:Nat):Prop:=∃ pb n c,w.cell? ⟨Ba,9,none⟩=some (.pointer (some ⟨pb,0,none⟩))/\0<n/\w.cell? ⟨pb,0,none⟩=some (.slice (some ⟨j,0,none⟩) n c)
theorem gw.base {w:World} {Ba j base:Nat} (h:gw w Ba j) (hp:cA base w Ba):base<=j:=by
 obtain ⟨pb,n,c,e1,hn,e2⟩:=h;exact (hp pb e1).2 j n c hn e2
structure ka (W W':World):Prop where
 size:W.heap.size<=W'.heap.size
 cell:∀ (b o:Nat) (v:Value),(∀ x,v≠.bool x)->W.cell? ⟨b,o,none⟩=some v->W'.cell? ⟨b,o,none⟩=some v
theorem bw.nb {W W':World} {v:Value} {xs:List Int} (h:bw W v xs) (l:ka W W'):bw W' v xs:=by
 obtain ⟨ao,c,hv,hc,hr⟩:=h;refine ⟨ao,c,hv,hc,λh0=>?_⟩;obtain ⟨b,o,ha,hlt,hcs⟩:=hr h0;exact ⟨b,o,ha,Nat.lt_of_lt_of_le hlt l.size,λk hk=>l.cell _ _ _ (λ_ e=>by cases e) (hcs k hk)⟩
theorem bh.nb {W W':World} {v:Value} {ds:List Nd} (h:bh W v ds) (l:ka W W'):bh W' v ds:=by
 obtain ⟨ao,c,hv,hc,hr⟩:=h;refine ⟨ao,c,hv,hc,λh0=>?_⟩;obtain ⟨b,o,ha,hlt,hcs⟩:=hr h0;exact ⟨b,o,ha,Nat.lt_of_lt_of_le hlt l.size,λk hk=>⟨l.cell _ _ _ (λ_ e=>by cases e) (hcs k hk).1,l.cell _ _ _ (λ_ e=>by cases e) (hcs k hk).2⟩⟩
theorem J7 {x:Ct} {d v:Value} (h:v∈b7 x d) (hd:∀ b,d≠.bool b):∀ b,v≠.bool b:=by
 intro b e;subst e
 simp [b7] at h
 exact hd b h.symm
theorem aD.nb {W W':World} {v:Value} {cs:List Ct} (h:aD W v cs) (l:ka W W'):aD W' v cs:=by
 obtain ⟨ao,c,hv,hc,hr⟩:=h;refine ⟨ao,c,hv,hc,λh0=>?_⟩;obtain ⟨b,o,dv,ha,hlt,hcs⟩:=hr h0;refine ⟨b,o,dv,ha,Nat.lt_of_lt_of_le hlt l.size,λk hk=>⟨λj hj=>?_,(hcs k hk).2.nb l⟩⟩;have h6:j<(b7 (ct cs k) (dv k)).length:=hj;rw [List.getElem?_eq_getElem h6];refine l.cell _ _ _ (J7 (List.getElem_mem h6) (λ_ e=>?_)) (((hcs k hk).1 j hj).trans (List.getElem?_eq_getElem h6));obtain ⟨_,_,e2,_⟩:=(hcs k hk).2;rw [e2] at e;cases e
theorem bx.nb {W W':World} {v:Value} {gs:List Gv} (h:bx W v gs) (l:ka W W'):bx W' v gs:=by
 obtain ⟨ao,c,hv,hc,hr⟩:=h;refine ⟨ao,c,hv,hc,λh0=>?_⟩;obtain ⟨b,o,dv,ha,hlt,hcs⟩:=hr h0;refine ⟨b,o,dv,ha,Nat.lt_of_lt_of_le hlt l.size,λk hk=>⟨⟨l.cell _ _ _ (λ_ e=>by cases e) (hcs k hk).1.1,l.cell _ _ _ (λ_ e=>?_) (hcs k hk).1.2.1,(hcs k hk).1.2.2⟩,(hcs k hk).2.nb l⟩⟩;obtain ⟨_,_,e2,_⟩:=(hcs k hk).2;rw [e2] at e;cases e
theorem aN.nb {W W':World} {v:Value} {hs:List Hd} (h:aN W v hs) (l:ka W W'):aN W' v hs:=by
 obtain ⟨ao,c,hv,hc,hr⟩:=h;refine ⟨ao,c,hv,hc,λh0=>?_⟩;obtain ⟨b,o,cv,gvv,ha,hlt,hcs⟩:=hr h0;refine ⟨b,o,cv,gvv,ha,Nat.lt_of_lt_of_le hlt l.size,λk hk=>⟨⟨l.cell _ _ _ (λ_ e=>by cases e) (hcs k hk).1.1,l.cell _ _ _ (λ_ e=>by cases e) (hcs k hk).1.2.1,l.cell _ _ _ (λ_ e=>?_) (hcs k hk).1.2.2.1,l.cell _ _ _ (λ_ e=>?_) (hcs k hk).1.2.2.2⟩,(hcs k hk).2.1.nb l,(hcs k hk).2.2.nb l⟩⟩
 ·obtain ⟨_,_,e2,_⟩:=(hcs k hk).2.1;rw [e2] at e;cases e
 ·obtain ⟨_,_,e2,_⟩:=(hcs k hk).2.2;rw [e2] at e;cases e
section
variable {N:Nat->Prop} {Ba Bd Be Bm:Nat} {t:Ol.St} {dk:Dk} {n:Nat} {w:World}
theorem av.blk (h:av w N Ba Bd Be Bm t dk n) {j:Nat} (hj:gw w Ba j):j<w.heap.size/\(∃ s,w.cell? ⟨j,0,none⟩=some (.string s))/\¬ four N Ba Bd Bm j:=by
 obtain ⟨h1,h2,h0l,h3,h4,h5,h6,h7,tb,b,c,hv,pb,db,ao,pc,s,k1,k2,k3,k4,k5,k6,k7⟩:=h;obtain ⟨pb1,n1,c1,e1,hn1,e2⟩:=hj;have e9:w.cell? ⟨Ba,9,none⟩=some (.pointer (some ⟨pb,0,none⟩)):=ad k1 9;rw [e9] at e1;obtain rfl:pb=pb1:=by cases e1;rfl
 rw [k5.pool.row] at e2;have e3:ao=some ⟨j,0,none⟩/\s.ds.length=n1:=by cases e2;exact ⟨rfl,rfl⟩
 have h0:0<s.ds.length:=by omega
 obtain ⟨q1,q2,q3⟩:=k5.pool.at0 h0;rw [e3.1] at q1;obtain rfl:j=db:=by cases q1;rfl
 have q4:=(k5.pool.cells 0 h0).1;rw [Nat.zero_mul] at q4;exact ⟨q3,⟨_,q4⟩,k7 h0⟩
theorem J8 {W W':World} {xs:List RV} (h:∀ x∈xs,ed W x/\x.dn<=1000) (hs:W.heap.size<=W'.heap.size) (hk:∀ g,(∃ v,W.cell? ⟨g,0,none⟩=some (.int .i64 v))->W'.heap[g]?=W.heap[g]?):(∀ x∈xs,ed W' x/\x.dn<=1000)/\xs.map (aB W')=xs.map (aB W):=by
 have key:∀ x∈xs,ed W' x/\aJ W' x=aJ W x:=λx hx=>by
  obtain ⟨hd,_⟩:=h x hx
  by_cases h0:0<x.dn
  ·obtain ⟨g,arr,z,ha,hg⟩:=hd.2 h0;obtain ⟨g',o',ha',hl,hc⟩:=hd.1 h0;have e:g'=g/\o'=0:=by rw [ha] at ha';cases ha';exact ⟨rfl,rfl⟩
   have c0:=hc 0 h0;rw [e.1,e.2] at c0;have hh:=hk g ⟨_,c0⟩;obtain ⟨r1,r2⟩:=lf (w':=W') hd.1 (λg' o' e _=>by rw [ha] at e;cases e;exact hh) hs;exact ⟨⟨r1,λ_=>⟨g,arr,z,ha,hh.trans hg⟩⟩,r2⟩
  ·refine ⟨⟨λe=>absurd e h0,λe=>absurd e h0⟩,?_⟩;unfold aJ
   have:x.dn=0:=by omega
   rw [this];rfl
 exact ⟨λx hx=>⟨(key x hx).1,(h x hx).2⟩,List.map_congr_left λx hx=>by unfold aB;rw [(key x hx).2]⟩
def J9 (w:World) (N:Nat->Prop) (Ba Bd Be Bm:Nat) (t:Ol.St) (dk:Dk) (n:Nat) (e:Ending) (w':World):Prop:=∃ (f:Nat) (ds':List Dv),e=.returned (aq f)/\Ol.Alike t.ds ds'/\av w' N Ba Bd Be Bm ⟨t.m,ds',t.hs⟩ dk n/\Apart (gw w Ba) w w'/\∀ base,cA base w Ba->cA base w' Ba
theorem av.sicken {pb db:Nat} {ao:Option Addr} {pc:Nat} {us:Nat->Bool} (h:av w N Ba Bd Be Bm t dk n) (h9:w.cell? ⟨Ba,9,none⟩=some (.pointer (some ⟨pb,0,none⟩))) (hp:ak w pb db ao pc t.ds us) {k:Nat} (hk:k<t.ds.length) (on:Bool):av (w.setCell ⟨db,k*3+2,none⟩ (.bool on)) N Ba Bd Be Bm ⟨t.m,Dvs.sicken t.ds k on,t.hs⟩ dk n/\Apart (gw w Ba) w (w.setCell ⟨db,k*3+2,none⟩ (.bool on))/\∀ base,cA base w Ba->cA base (w.setCell ⟨db,k*3+2,none⟩ (.bool on)) Ba:=by
 have h0:0<t.ds.length:=by omega
 have hbl:gw w Ba db:=⟨pb,t.ds.length,pc,h9,h0,by rw [hp.row,(hp.at0 h0).1]⟩;obtain ⟨b1,⟨bs,b2⟩,b3⟩:=h.blk hbl;have hA:Apart (λj=>j=db) w (w.setCell ⟨db,k*3+2,none⟩ (.bool on)):=Apart.setCell (K:=λj=>j=db) rfl _ _ _;have hA2:Apart (gw w Ba) w (w.setCell ⟨db,k*3+2,none⟩ (.bool on)):=hA.wide (λj e=>by rw [e];exact hbl);have hH:=h;obtain ⟨h1,h2,h0l,h3,h4,h5,h6,h7,tb,b,c,hv,pb0,db0,ao0,pc0,s,k1,k2,k3,k4,k5,k6,k7⟩:=h;have e9:w.cell? ⟨Ba,9,none⟩=some (.pointer (some ⟨pb0,0,none⟩)):=ad k1 9;rw [e9] at h9;obtain rfl:pb0=pb:=by cases h9;rfl
 have hds:=Ol.gN k4;have hr1:=hp.row;rw [k5.pool.row] at hr1;have e3:ao0=ao/\pc0=pc:=by
  injection hr1 with hr1
  injection hr1 with r1 r2 r3
  exact ⟨r1,r3⟩
 have hu0:0<s.ds.length:=by rw [hds];exact h0
 have e4:db0=db:=by
  have a1:=(k5.pool.at0 hu0).1;have a2:=(hp.at0 h0).1;rw [e3.1,a2] at a1;cases a1;rfl
 subst e4;obtain ⟨l1,l2,l3⟩:=h3.lt;have n1:Ba≠db0:=λe=>b3 (.inr (.inl e.symm))
 have n2:Bd≠db0:=λe=>b3 (.inr (.inr (.inl e.symm)))
 have n3:Bm≠db0:=λe=>b3 (.inr (.inr (.inr e.symm)))
 have n4:Be≠db0:=λe=>by
  have:=h3.eng.cells.1
  rw [e,b2] at this;cases this
 have hsz:(w.setCell ⟨db0,k*3+2,none⟩ (.bool on)).heap.size=w.heap.size:=Nat.le_antisymm (by simp) hA.size;generalize hW:w.setCell ⟨db0,k*3+2,none⟩ (.bool on)=W at *;have hpool:ak W pb0 db0 ao0 pc0 (Dvs.sicken s.ds k on) s.us:=by rw [<- hW];exact k5.pool.sicken (by rw [hds];exact hk) on
 have hal:Ol.Alike t.ds (Dvs.sicken t.ds k on):=Ol.uo hk on;have hc2:=(hp.cells k hk).2.2.1;have hnb:ka (ag (four N Ba Bd Bm) w) (ag (four N Ba Bd Bm) W):=⟨by rw [bu,bu];exact hA.size,λj o v hv hv2=>by
  have hm:=dU hv2;have hv3:=(ch _ _).cell _ _ _ hv2;have hl:j<w.heap.size:=World.block_lt_of_cell? w _ hv3
  by_cases hj:j=db0
  ·have ho:o≠k*3+2:=λe=>by
    rw [hj,e,hc2] at hv3;cases hv3;exact hv _ rfl
   have e1:(ag (four N Ba Bd Bm) W).cell? ⟨j,o,none⟩=W.cell? ⟨j,o,none⟩:=ir (bH hm) o;rw [e1,<- hW,hj];rw [hj] at hv3;rw [World.cell?_setCell_other]
   ·exact hv3
   ·intro e;cases e;exact ho rfl
  ·rw [<- hv2];exact ir (by rw [bH hm,bH hm,hA.block j hl hj]) o⟩
 have nt:¬ four N Ba Bd Bm tb:=dU k3.topo.cell;have nb:¬ four N Ba Bd Bm b:=dU (k3.topo.cells 0 h0l).1;have htl:=k3.topo.tlt;have hbl2:=k3.topo.lt;rw [bu] at htl hbl2;have c1:=(ch _ _).cell _ _ _ k3.topo.cell;have c2:=(ch _ _).cell _ _ _ (k3.topo.cells 0 h0l).1;rw [Nat.zero_add,Nat.zero_mul] at c2;have t3:tb≠db0:=λe=>by rw [e,b2] at c1;cases c1
 have b3':b≠db0:=λe=>by rw [e,b2] at c2;cases c2
 refine ⟨⟨Ol.E8 h1 hal,h2,h0l,?_,h4,h5,λj hj=>Nat.lt_of_lt_of_le (h6 j hj) hA.size,h7,tb,b,c,hv,pb0,db0,ao0,pc0,Ol.jV s (Dvs.sicken s.ds k on),(hA.block Ba k1.lt n1).trans k1,k2.nb hnb,⟨it k3.topo ?_ ?_ ?_,k3.good,k3.op,k3.nd,k3.pol⟩,?_,⟨hpool,?_,k5.cp⟩,k6,?_⟩,hA2,λbase hb=>?_⟩
 ·obtain ⟨g1,g2,xs,g3,g4,g5⟩:=h3;obtain ⟨q1,q2⟩:=J8 g4 hA.size (λg ⟨v,hg⟩=>hA.block g (World.block_lt_of_cell? w _ hg) (λe=>by rw [e,b2] at hg;cases hg));exact ⟨g1.block (hA.block Be l1 n4),(hA.block Bd l2 n2).trans g2,xs,g3.block (hA.block Bm l3 n3),q1,λa=>by rw [q2];exact g5 a⟩
 ·rw [bH nt,bH nt,hA.block tb htl t3]
 ·rw [bH nb,bH nb,hA.block b hbl2 b3']
 ·rw [bu,bu];exact hA.size
 ·have:=Ol.ur hal k4
  rw [<- hds] at this ⊢;exact this
 ·rw [hds];have hN:=k5.nodes;rw [hds] at hN;exact Dvs.zH hN hk on
 ·intro _;exact b3
 ·exact hH.poolNew hb hA n1 (λp e hl ep=>by
   have ep:p=db0:=ep;rw [e9] at e
   have:p=pb0:=by cases e;rfl
   exact (hp.at0 h0).2.1 (by rw [<- ep,this]))
theorem wS (h:av w N Ba Bd Be Bm t dk n) (k:Int) (on:Bool):Calls Tryz.prog 34 #[.pointer (some ⟨Ba,0,none⟩),.int .i64 k,.bool on] w (J9 w N Ba Bd Be Bm t dk n):=by
 have hH:=h;obtain ⟨h1,h2,h0l,h3,h4,h5,h6,h7,tb,b,c,hv,pb,db,ao,pc,s,k1,k2,k3,k4,k5,k6,k7⟩:=h;have x9:w.cell? ⟨Ba,9,none⟩=some (.pointer (some ⟨pb,0,none⟩)):=ad k1 9;have hp:ak w pb db ao pc t.ds s.us:=by rw [<- Ol.gN k4];exact k5.pool
 have HH:=qI hH;have HP:=qI hp;have HX:=qI x9;clear hH hp h1 h2 h0l h3 h4 h5 h6 h7 k1 k2 k3 k4 k5 k6 k7
 rcases two (fC k t.ds.length) with hb|hb
 ·have hk0:0<=k/\k<(t.ds.length:Int):=by
   unfold fC at hb;rw [Bool.and_eq_true,decide_eq_true_eq,decide_eq_true_eq] at hb;exact hb
  obtain ⟨kn,rfl⟩:∃ kn:Nat,k=(kn:Int):=⟨k.toNat,by omega⟩;have hkn:kn<t.ds.length:=by omega
  have HS:=qI (HH.out.sicken HX.out HP.out hkn on);have HAL:=qI (Ol.uo hkn on);clear hb hk0
  go_enter Tryz.func34,Tryz.ntmps34
  go_wp2_with fail
  refine (zY kn on w pb db ao pc t.ds s.us HP.out hkn).mono ?_;rintro e w' ⟨rfl,rfl⟩
  go_wp2_with fail
  go_ret;exact ⟨0,_,rfl,HAL.out,HS.out.1,HS.out.2.1,HS.out.2.2⟩
 ·have HB:=qI hb;clear hb
  go_enter Tryz.func34,Tryz.ntmps34
  go_wp2_with fail
  refine (zX k on w pb db ao pc t.ds s.us HP.out HB.out).mono ?_;rintro e w' ⟨rfl,rfl⟩
  go_wp2_with fail
  go_ret;exact ⟨1,t.ds,rfl,Ol.alike_refl _,HH.out,Apart.refl _ _,λ_ h=>h⟩
end
end
section
open Go.RowKit Go.Shelf
open Qos (Nd Ct Pd nd ct pd ah dY)
open Sv (Gv Hd gv hd)
open Dvs (Dv dv aU)
attribute [local go_sem] Oper.semAt_some
def lA (x:Ac):Bool:=x.kd.toList == [97,100,109,105,116]
structure Stepped (t:Ol.St) (x:Ac) (f:Nat) (t':Ol.St):Prop where
 m:t'.m=t.m
 ds:Ol.Alike t.ds t'.ds
 inn:lA x=true->f=(Ol.aK t x.p).1/\t'.hs=(Ol.aK t x.p).2/\t'.ds=t.ds
 out:lA x=false->t'.hs.Sublist t.hs
def dA (w:World) (N:Nat->Prop) (Ba Bd Be Bm:Nat) (t:Ol.St) (n:Nat) (x:Ac) (e:Ending) (w':World):Prop:=∃ (f:Nat) (t':Ol.St),e=.returned (aq f)/\Stepped t x f t'/\(∃ dk' n',n'<=n+3/\av w' N Ba Bd Be Bm t' dk' n')/\Apart (λj=>three Ba Bd Bm j\/gw w Ba j) w w'/\∀ base,base<=w.heap.size->cA base w Ba->cA base w' Ba
section
variable {N:Nat->Prop} {Ba Bd Be Bm:Nat} {t:Ol.St} {dk:Dk} {n:Nat} {w:World}
theorem av.poolKeep {X:World} {base:Nat} (h:av w N Ba Bd Be Bm t dk n) (hb:Below w.heap.size w X) (hp:cA base w Ba):cA base X Ba:=h.poolNew hp (Apart.of_below (K:=λ_=>False) hb) id (λ_ _ _ e=>e)
theorem av.blkOld {X:World} {j:Nat} (h:av w N Ba Bd Be Bm t dk n) (hb:Below w.heap.size w X) (hj:gw X Ba j):gw w Ba j:=by
 obtain ⟨l1,l2⟩:=h.poolAt;obtain ⟨pb,q,c,e1,hq,e2⟩:=hj;rw [ir (hb.block Ba l1)] at e1;rw [ir (hb.block pb (l2 pb e1).1)] at e2;exact ⟨pb,q,c,e1,hq,e2⟩
theorem dA.old {X:World} {x:Ac} {e:Ending} {w':World} (hM:av w N Ba Bd Be Bm t dk n) (hb:Below w.heap.size w X) (h:dA X N Ba Bd Be Bm t n x e w'):dA w N Ba Bd Be Bm t n x e w':=by
 obtain ⟨f,t',h1,h2,h3,h4,h5⟩:=h;exact ⟨f,t',h1,h2,h3,(Apart.of_below hb).trans (h4.wide λj e=>e.imp id (hM.blkOld hb)),λbase hl hp=>h5 base (Nat.le_trans hl hb.size) (hM.poolKeep hb hp)⟩
theorem dA.three {x:Ac} {e:Ending} {w':World} {f:Nat} {t':Ol.St} {dk':Dk} {n':Nat} (hM:av w N Ba Bd Be Bm t dk n) (h1:e=.returned (aq f)) (h2:Stepped t x f t') (h3:n'<=n+3) (hM':av w' N Ba Bd Be Bm t' dk' n') (hu:eL w w' Ba) (ha:Apart (three Ba Bd Bm) w w'):dA w N Ba Bd Be Bm t n x e w':=
 ⟨f,t',h1,h2,⟨dk',n',h3,hM'⟩,ha.wide (λ_ e=>.inl e),λ_ hl hp=>hM.poolUp hp hl hu ha⟩
theorem Ka {x:Ac} {la ca ua:Option Addr} {ll lc cc uc:Nat} (hM:av w N Ba Bd Be Bm t dk n) (hp:aD (ag (four N Ba Bd Bm) w) (.slice ca x.p.cs.length cc) x.p.cs) (hu:bh w (.slice ua x.us.length uc) x.us) (hfu:ju x.us) (hm1:-9223372036854775808<=x.a) (hm2:x.a<=9223372036854775807) (hn:n+36<=1000) (ht:∀ W,Apart (three Ba Bd Bm) w W->bE W) :
  Calls Tryz.prog 13 #[.agg #[.pointer (some ⟨Bd,0,none⟩),.pointer (some ⟨Be,0,none⟩),.pointer (some ⟨Ba,0,none⟩)],.agg #[.string x.kd,.string x.s,.int .i64 x.a,.int .i64 x.b,.int .u8 x.m,.slice la ll lc,.string x.p.nm,.int .i64 x.p.pr,.slice ca x.p.cs.length cc,.slice ua x.us.length uc]] w (dA w N Ba Bd Be Bm t n x):=by
 obtain ⟨MB,hMB⟩:∃ o:Obj,o=.cells #[.pointer (some ⟨Bd,0,none⟩),.pointer (some ⟨Be,0,none⟩),.pointer (some ⟨Ba,0,none⟩)] 36:=⟨_,rfl⟩;obtain ⟨AB,hAB⟩:∃ o:Obj,o=.cells #[.string x.kd,.string x.s,.int .i64 x.a,.int .i64 x.b,.int .u8 x.m,.slice la ll lc,.string x.p.nm,.int .i64 x.p.pr,.slice ca x.p.cs.length cc,.slice ua x.us.length uc] 50:=⟨_,rfl⟩;have HBX:Hid (Below w.heap.size w ((w.alloc MB).alloc AB)):=((Below.refl w.heap.size w).alloc (lR) MB).alloc (by simp) AB;obtain ⟨Bk,hBk⟩:∃ Bk,Bk=w.heap.size:=⟨_,rfl⟩;obtain ⟨Bx,hBx⟩:∃ Bx,Bx=w.heap.size+1:=⟨_,rfl⟩;have hk1:((w.alloc MB).alloc AB).heap[Bk]?=some MB:=by rw [hBk];exact bA (aH w MB rfl) _
 have hx1:((w.alloc MB).alloc AB).heap[Bx]?=some AB:=by rw [hBx];exact aH (w.alloc MB) AB (by simp)
 have HK1:=qI hk1;have HX1:=qI hx1;clear hk1 hx1;subst hMB hAB;have HM:=qI hM;have HP:=qI hp;have HU:=qI hu;have HFU:=qI hfu;have HT:=qI ht;clear hM hp hu hfu ht
 rcases two (x.kd.toList == [97,100,109,105,116]) with hk|hk
 ·have HK:Hid (lA x=true):=hk
  go_enter Tryz.func13,Tryz.ntmps13
  go_wp2_with fail
  (try rw [<- hBx]);(try rw [<- hBk]);generalize ((w.alloc (.cells #[.pointer (some ⟨Bd,0,none⟩),.pointer (some ⟨Be,0,none⟩),.pointer (some ⟨Ba,0,none⟩)] 36)).alloc (.cells #[.string x.kd,.string x.s,.int .i64 x.a,.int .i64 x.b,.int .u8 x.m,.slice la ll lc,.string x.p.nm,.int .i64 x.p.pr,.slice ca x.p.cs.length cc,.slice ua x.us.length uc] 50))=X at *;clear hBk hBx;have HMX:=qI (HM.out.keep HBX.out);have HPX:Hid (aD (ag (four N Ba Bd Bm) X) (.slice ca x.p.cs.length cc) x.p.cs):=HP.out.le (be (λj hj hn=>⟨hn,HBX.out.block j hj⟩) HBX.out.size);have HUX:=qI (HU.out.below HBX.out);have HTX:Hid (∀ W,Apart (three Ba Bd Bm) X W->bE W):=λW ha=>HT.out W ((Apart.of_below HBX.out).trans ha)
  clear HP HU HT HK1 HX1;have HAD:=qI (J0 (p:=x.p) HMX.out HPX.out (HTX.out X (Apart.refl _ _)) hn);unfold bQ at HAD;refine HAD.out.mono ?_;rintro e W ⟨rfl,⟨dk',n',⟨hn',hu'⟩,hM'⟩,ha⟩;have HR:Hid (dA w N Ba Bd Be Bm t n x (.returned (aq ((Ol.aK t x.p).1:Nat))) W):=dA.old HM.out HBX.out (dA.three (t':=⟨t.m,t.ds,(Ol.aK t x.p).2⟩) HMX.out rfl ⟨rfl,Ol.alike_refl _,λ_=>⟨rfl,rfl,rfl⟩,λh=>absurd (h.symm.trans HK.out) (by decide)⟩ hn' hM' hu' ha);clear hM' hu' ha HAD;generalize (Ol.aK t x.p).1=en at *
  go_wp2_with fail
  go_ret;exact HR.out
 have HK:Hid (lA x=false):=hk
 rcases two (x.kd.toList == [114,101,109,111,118,101]) with hk2|hk2
 ·go_enter Tryz.func13,Tryz.ntmps13
  go_wp2_with fail
  (try rw [<- hBx]);(try rw [<- hBk]);generalize ((w.alloc (.cells #[.pointer (some ⟨Bd,0,none⟩),.pointer (some ⟨Be,0,none⟩),.pointer (some ⟨Ba,0,none⟩)] 36)).alloc (.cells #[.string x.kd,.string x.s,.int .i64 x.a,.int .i64 x.b,.int .u8 x.m,.slice la ll lc,.string x.p.nm,.int .i64 x.p.pr,.slice ca x.p.cs.length cc,.slice ua x.us.length uc] 50))=X at *;clear hBk hBx;have HMX:=qI (HM.out.keep HBX.out);have HPX:Hid (aD (ag (four N Ba Bd Bm) X) (.slice ca x.p.cs.length cc) x.p.cs):=HP.out.le (be (λj hj hn=>⟨hn,HBX.out.block j hj⟩) HBX.out.size);have HUX:=qI (HU.out.below HBX.out);have HTX:Hid (∀ W,Apart (three Ba Bd Bm) X W->bE W):=λW ha=>HT.out W ((Apart.of_below HBX.out).trans ha)
  clear HP HU HT HK1 HX1;obtain ⟨en,hen⟩:∃ en:Nat,en=if ce t.hs x.s then 0 else 6:=⟨_,rfl⟩
  have HRM:=qI (wQ N Ba Bd Be Bm t dk n x.s X HMX.out hn HTX.out);rw [<- hen] at HRM;clear hen;refine HRM.out.mono ?_;rintro e W ⟨rfl,⟨dk',n',⟨hn',hu'⟩,hM'⟩,ha⟩;have HR:Hid (dA w N Ba Bd Be Bm t n x (.returned (aq (en:Nat))) W):=dA.old HM.out HBX.out (dA.three (t':=⟨t.m,t.ds,Ol.eU t.hs x.s⟩) HMX.out rfl ⟨rfl,Ol.alike_refl _,λh=>absurd (h.symm.trans HK.out) (by decide),λ_=>Ol.pe _ _⟩ (by omega) hM' hu' ha);clear hM' hu' ha HRM
  go_wp2_with fail
  go_ret;exact HR.out
 rcases two (x.kd.toList == [115,105,99,107]) with hk3|hk3
 ·go_enter Tryz.func13,Tryz.ntmps13
  go_wp2_with fail
  (try rw [<- hBx]);(try rw [<- hBk]);generalize ((w.alloc (.cells #[.pointer (some ⟨Bd,0,none⟩),.pointer (some ⟨Be,0,none⟩),.pointer (some ⟨Ba,0,none⟩)] 36)).alloc (.cells #[.string x.kd,.string x.s,.int .i64 x.a,.int .i64 x.b,.int .u8 x.m,.slice la ll lc,.string x.p.nm,.int .i64 x.p.pr,.slice ca x.p.cs.length cc,.slice ua x.us.length uc] 50))=X at *;clear hBk hBx;have HMX:=qI (HM.out.keep HBX.out);have HPX:Hid (aD (ag (four N Ba Bd Bm) X) (.slice ca x.p.cs.length cc) x.p.cs):=HP.out.le (be (λj hj hn=>⟨hn,HBX.out.block j hj⟩) HBX.out.size);have HUX:=qI (HU.out.below HBX.out);have HTX:Hid (∀ W,Apart (three Ba Bd Bm) X W->bE W):=λW ha=>HT.out W ((Apart.of_below HBX.out).trans ha)
  clear HP HU HT HK1 HX1;have HSK:Hid (∀ on,Calls Tryz.prog 34 #[.pointer (some ⟨Ba,0,none⟩),.int .i64 x.a,.bool on] X λe w'=>∃ f:Nat,e=.returned (aq f)/\dA w N Ba Bd Be Bm t n x e w'):=λon=>by
   refine (wS HMX.out x.a on).mono ?_;rintro e W ⟨f,ds',he,hal,hM',ha,hpn⟩;exact ⟨f,he,dA.old HM.out HBX.out ⟨f,⟨t.m,ds',t.hs⟩,he,⟨rfl,hal,λh=>absurd (h.symm.trans HK.out) (by decide),λ_=>List.Sublist.refl _⟩,⟨dk,n,by omega,hM'⟩,ha.wide (λ_ e=>.inr e),λbase _ hp=>hpn base hp⟩⟩
  refine (HSK.out true).mono ?_;rintro e W ⟨f,rfl,hr⟩;have HR:=qI hr;clear hr
  go_wp2_with fail
  go_ret;exact HR.out
 rcases two (x.kd.toList == [119,101,108,108]) with hk4|hk4
 ·go_enter Tryz.func13,Tryz.ntmps13
  go_wp2_with fail
  (try rw [<- hBx]);(try rw [<- hBk]);generalize ((w.alloc (.cells #[.pointer (some ⟨Bd,0,none⟩),.pointer (some ⟨Be,0,none⟩),.pointer (some ⟨Ba,0,none⟩)] 36)).alloc (.cells #[.string x.kd,.string x.s,.int .i64 x.a,.int .i64 x.b,.int .u8 x.m,.slice la ll lc,.string x.p.nm,.int .i64 x.p.pr,.slice ca x.p.cs.length cc,.slice ua x.us.length uc] 50))=X at *;clear hBk hBx;have HMX:=qI (HM.out.keep HBX.out);have HPX:Hid (aD (ag (four N Ba Bd Bm) X) (.slice ca x.p.cs.length cc) x.p.cs):=HP.out.le (be (λj hj hn=>⟨hn,HBX.out.block j hj⟩) HBX.out.size);have HUX:=qI (HU.out.below HBX.out);have HTX:Hid (∀ W,Apart (three Ba Bd Bm) X W->bE W):=λW ha=>HT.out W ((Apart.of_below HBX.out).trans ha)
  clear HP HU HT HK1 HX1;have HSK:Hid (∀ on,Calls Tryz.prog 34 #[.pointer (some ⟨Ba,0,none⟩),.int .i64 x.a,.bool on] X λe w'=>∃ f:Nat,e=.returned (aq f)/\dA w N Ba Bd Be Bm t n x e w'):=λon=>by
   refine (wS HMX.out x.a on).mono ?_;rintro e W ⟨f,ds',he,hal,hM',ha,hpn⟩;exact ⟨f,he,dA.old HM.out HBX.out ⟨f,⟨t.m,ds',t.hs⟩,he,⟨rfl,hal,λh=>absurd (h.symm.trans HK.out) (by decide),λ_=>List.Sublist.refl _⟩,⟨dk,n,by omega,hM'⟩,ha.wide (λ_ e=>.inr e),λbase _ hp=>hpn base hp⟩⟩
  refine (HSK.out false).mono ?_;rintro e W ⟨f,rfl,hr⟩;have HR:=qI hr;clear hr
  go_wp2_with fail
  go_ret;exact HR.out
 go_enter Tryz.func13,Tryz.ntmps13
 go_wp2_with fail
 (try rw [<- hBx]);(try rw [<- hBk]);generalize ((w.alloc (.cells #[.pointer (some ⟨Bd,0,none⟩),.pointer (some ⟨Be,0,none⟩),.pointer (some ⟨Ba,0,none⟩)] 36)).alloc (.cells #[.string x.kd,.string x.s,.int .i64 x.a,.int .i64 x.b,.int .u8 x.m,.slice la ll lc,.string x.p.nm,.int .i64 x.p.pr,.slice ca x.p.cs.length cc,.slice ua x.us.length uc] 50))=X at *;clear hBk hBx;have HMX:=qI (HM.out.keep HBX.out);have HPX:Hid (aD (ag (four N Ba Bd Bm) X) (.slice ca x.p.cs.length cc) x.p.cs):=HP.out.le (be (λj hj hn=>⟨hn,HBX.out.block j hj⟩) HBX.out.size);have HUX:=qI (HU.out.below HBX.out);have HTX:Hid (∀ W,Apart (three Ba Bd Bm) X W->bE W):=λW ha=>HT.out W ((Apart.of_below HBX.out).trans ha)
 clear HP HU HT HK1 HX1;have HPR:=qI (J6 HMX.out HUX.out HFU.out hm1 hm2 hn HTX.out);refine HPR.out.mono ?_;rintro e W ⟨qs,g,nv,rfl,htx,_,_,⟨dk',n',⟨hn',hu'⟩,hM'⟩,ha⟩;have HR:Hid (dA w N Ba Bd Be Bm t n x (.returned .nilIface) W):=dA.old HM.out HBX.out (dA.three (f:=0) (t':=⟨t.m,t.ds,bV t.hs ((qs.take g).map Pd.nm)⟩) HMX.out rfl ⟨rfl,Ol.alike_refl _,λh=>absurd (h.symm.trans HK.out) (by decide),λ_=>j9 _ _⟩ (by omega) hM' hu' ha);obtain ⟨na,nc,hnv,_⟩:=htx;subst hnv;clear hM' hu' ha HPR
 go_wp2_with fail
 go_ret;exact HR.out
end
end
section
open Go.RowKit Go.Shelf
open Qos (Nd Ct Pd nd ct pd ah)
open Sv (Gv Hd gv hd)
open Dvs (Dv dv aU)
section
variable {Ba Bd Be Bm:Nat} {t:Ol.St} {dk:Dk} {n:Nat} {w:World}
theorem Kb {c:Ol.Cf} (h:Ol.bZ c=0):0<=(Ol.cK c).nb:=by
 unfold Ol.bZ at h
 repeat' (split at h;· first|cases h|(rename_i h1;exact absurd h h1))
 all_goals (show 0<=c.nb;omega)
theorem Kc {W:World} (ht:bE w) (hl:w.heap.size<=Ba/\w.heap.size<=Bd/\w.heap.size<=Bm) (hb:Below w.heap.size w W):bE W/\aG w (ag (four iu Ba Bd Bm) W)/\∀ W',Apart (three Ba Bd Bm) W W'->bE W':=by
 refine ⟨ht.below hb,kK hb rfl (λj hj=>?_),λW' ha=>?_⟩
 ·rcases hj with e|e|e|e
  ·exact e.elim
  all_goals omega
 ·exact ht.below (mX hb hb.size ha (λj hj=>by rcases hj with e|e|e <;> omega))
theorem Kd {V V2:World} {o:Obj} {Bk:Nat} {p:Option Addr} (hM:av V iu Ba Bd Be Bm t dk n) (hp:cA w.heap.size V Ba) (hl:(w.heap.size<=Ba/\w.heap.size<=Bd/\w.heap.size<=Bm)/\Bk≠Ba/\Bk≠Bd/\Bk≠Bm) (hb:Below w.heap.size w V) (hk:V.heap[Bk]?=some o) (ha:Apart (λj=>three Ba Bd Bm j\/gw V Ba j) V V2) (ho:V.cell? ⟨Bk,0,none⟩=some (.pointer p)):Below w.heap.size w V2/\V2.heap[Bk]?=some o:=by
 refine ⟨mX hb hb.size ha (λj hj=>?_),(ha.block Bk (gS hk).1 ?_).trans hk⟩
 ·rcases hj with (e|e|e)|e
  ·omega
  ·omega
  ·omega
  ·exact e.base hp
 ·rintro ((e|e|e)|e)
  ·exact hl.2.1 e
  ·exact hl.2.2.1 e
  ·exact hl.2.2.2 e
  ·obtain ⟨_,⟨s,hs⟩,_⟩:=hM.blk e;rw [ho] at hs;cases hs
theorem Ke {x:Ac} {f:Nat} {t':Ol.St} (h:Ol.Inv t) (hr:Ol.room t.m (t.hs.map Hd.pod)=true) (hs:Stepped t x f t'):Ol.room t'.m (t'.hs.map Hd.pod)=true:=by
 rw [hs.m];cases e:lA x with
 | true=>rw [(hs.inn e).2.1];exact Ol.my hr
 | false=>exact Ol.E4 h (hs.out e) hr
theorem Kf {s:Ol.Sk} {W:World} (h:av W iu Ba Bd Be Bm t dk n) (hs:Ol.left t.m t.ds t.hs=some s):s.cp<18446744073709551616:=by
 obtain ⟨_,_,_,_,_,_,_,_,tb,b,c,hv,pb,db,ao,pc,s',k1,k2,k3,k4,k5,k6,k7⟩:=h;rw [hs] at k4;injection k4 with k4
 rw [k4];exact k5.cp
end
end
end Go.Proofs.YtbmmnflgnmjboaaGreatDoor
