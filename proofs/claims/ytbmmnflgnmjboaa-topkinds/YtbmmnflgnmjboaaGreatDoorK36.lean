import Derived.Test.YtbmmnflgnmjboaaGreatDoorK33
import Derived.Test.YtbmmnflgnmjboaaGreatDoorK35
import Derived.Test.YtbmmnflgnmjboaaGreatDoorK22
set_option maxRecDepth 100000
set_option maxHeartbeats 16000000
namespace Go.Proofs.YtbmmnflgnmjboaaGreatDoor
section
open RowKit Shelf
open Ost (Cpu ae)
open Qos (Nd Ct Pd nd ct pd ah)
open Sv (Gv Hd gv hd gsF az aF)
open Dvs (Dv dv aT)
attribute [local go_sem] Oper.semAt_some
theorem nw {B:Nat} {w W W':World} {K:Nat->Prop} (hb:Below B w W) (hB:B<=W.heap.size) (ha:Apart K W W') (hK:∀ j,K j->B<=j):Below B w W':=
 ⟨ha.os.trans hb.os,ha.tape.trans hb.tape,ha.output.trans hb.output,Q5 hb.size ha.size,λj hj=>(ha.block j (by omega) (λe=>by have:=hK j e;omega)).trans (hb.block j hj)⟩
theorem KL (c:Ol.Cf) (v1 v2:Value) (g o:Nat) (w:World) (h1:eN w v1 c.l) (h2:bS w v2 g o c.ds):Calls Tryz.prog 9 #[jw c v1 v2] w λe w'=>Ans e/\Below w.heap.size w w':=by
 obtain ⟨ca,cc,hv1⟩:∃ ca cc,v1=.slice ca c.l.length cc:=by
  rcases id h1 with ⟨hl,ao,q,rfl⟩|⟨b,o,q,rfl,_⟩
  ·exact ⟨ao,q,by rw [hl];rfl⟩
  ·exact ⟨_,q,rfl⟩
 obtain ⟨da,dc,hv2,hr⟩:=h2;subst hv1 hv2;have HR:=qI hr;clear h1 hr;unfold jw;generalize c.l.length=cl at *;have HB0:=qI ((Q0 w.heap.size w).alloc (lR) (.cells #[.slice ca cl cc,.int .u64 (c.keep:Nat),.int .i64 c.nb,.slice da c.ds.length dc,.int .i64 c.pol] 27));have HX0:=qI (aG w (.cells #[.slice ca cl cc,.int .u64 (c.keep:Nat),.int .i64 c.nb,.slice da c.ds.length dc,.int .i64 c.pol] 27) rfl)
 by_cases h70:70<cl
 ·go_enter Tryz.func9,Tryz.ntmps9
  go_wp2
  go_ret;exact ⟨⟨_,rfl⟩,HB0.out⟩
 have hd1:decide (70<(cl:Int))=false:=Q7 (by omega)
 by_cases h20:20<c.ds.length
 ·go_enter Tryz.func9,Tryz.ntmps9
  go_wp2
  go_ret;exact ⟨⟨_,rfl⟩,HB0.out⟩
 have hd2:decide (20<(c.ds.length:Int))=false:=Q7 (by omega);have h20':c.ds.length<=20:=by omega
 clear h70 h20
 go_enter Tryz.func9,Tryz.ntmps9
 go_wp2_with fail
 generalize w.alloc (.cells #[.slice ca cl cc,.int .u64 (c.keep:Nat),.int .i64 c.nb,.slice da c.ds.length dc,.int .i64 c.pol] 27)=X at *
 go_loopw [3] (λi wr=>∃ k:Nat,k<=c.ds.length/\i=.int .i64 k/\wr=X) (λi _=>c.ds.length - (intOf i).toNat)
 case atStart=>exact ⟨0,Nat.zero_le _,rfl,rfl⟩
 case round=>
  obtain ⟨k,hk,rfl,rfl⟩:=hrel;have x3:wr.cell? ⟨w.heap.size,3,none⟩=some (.slice da c.ds.length dc):=ad HX0.out 3
  by_cases hlt:k<c.ds.length
  ·obtain ⟨rfl,hgl,hc⟩:=HR.out (by omega);have y0:wr.cell? ⟨g,o+k*3,none⟩=some (.string (dv c.ds k).kind):=(HB0.out.cell (p:=⟨g,o+k*3,none⟩) hgl).trans (hc k hlt).1;clear hc;generalize (dv c.ds k).kind=kd at *
   by_cases h30:30<kd.size
   ·go_wp2
    go_ret;exact ⟨⟨_,rfl⟩,HB0.out⟩
   ·have hd3:decide (30<(kd.size:Int))=false:=Q7 (by omega);clear h30
    go_wp2
    go_roundw
    case rel=>exact ⟨k+1,by omega,by go_num,trivial⟩
    case measure=>simp [intOf];omega
  ·go_wp2
   go_ret;exact ⟨⟨_,rfl⟩,HB0.out⟩
end
section
open RowKit Shelf
open Ost (Cpu ae)
open Qos (Nd Ct Pd nd ct pd ah)
open Sv (Gv Hd gv hd gsF az aF)
open Dvs (Dv dv aT)
open S1 (Mx)
attribute [local go_sem] Oper.semAt_some
theorem qw {N:Nat->Prop} {Ba Bd Be Bm:Nat} {t:Ol.St} {dk:Dk} {n:Nat} {w:World} (h:av w N Ba Bd Be Bm t dk n):Calls Tryz.prog 15 #[.pointer (some ⟨Ba,0,none⟩)] w λe w'=>∃ a c,e=.returned (.slice a t.hs.length c)/\aM (fresh w.heap.size w') (.slice a t.hs.length c) t.hs/\Below w.heap.size w w':=by
 obtain ⟨h1,hcalm,hcpu,hE,hab,hfr,hnl,htx,tb,b,tc,hv,pb,db,ao,pc,s,k1,k2,k3,k4,k5,k6,k7⟩:=h;obtain ⟨a1,a2,a3⟩:=Ol.bW.1 h1.held;exact JT Ba tb t.m Bd Be hv s.cp pb t.hs w k1 (k2.le (ci _ _)) a2 (by omega)
theorem KM {t:Ol.St} {p:Pd} (h:(Ol.aJ t p).1=0):ch (Ol.aJ t p).2 p.nm=true:=by
 rcases two (ch (Ol.aJ t p).2 p.nm) with e|e
 ·exact e
 ·exfalso
  have h1:=Ol.ur h;have h2:=Ol.uE h;rw [xx e] at h1;rw [h1] at h2;omega
theorem KN {W:World} {b:Nat} {nm:ByteArray} (h:W.heap[b]?=some (.cells #[.string nm,.int .i64 0,.int .i64 0,.int .i64 0,.int .i64 0,.slice none 0 0] 63 (0,0))):aE W (.slice (some ⟨b,0,none⟩) 1 1) [⟨nm,0,0,0,0,[]⟩]:=by
 have hl:b<W.heap.size:=(gS h).1;refine ⟨_,_,rfl,⟨lR,by decide⟩,λ_=>⟨b,0,λ_=>.slice none 0 0,rfl,hl,λk hk=>?_⟩⟩;have hk0:k=0:=by simp at hk;exact hk
 subst hk0;refine ⟨λj hj=>?_,⟨none,0,rfl,by simp [ct],λh=>by simp [ct] at h⟩⟩
 have:=ad h j
 simp only [Nat.zero_mul,Qd];rw [this]
 have:j=0\/j=1\/j=2\/j=3\/j=4\/j=5:=by omega
 rcases this with rfl|rfl|rfl|rfl|rfl|rfl <;> rfl
theorem KO {W:World} {b:Nat} (h:W.heap[b]?=some (.cells #[.int .i64 0,.int .i64 0,.int .i64 0] 84 (0,0))):eN W (.slice (some ⟨b,0,none⟩) 1 1) [⟨0,0,0⟩]:=by
 refine .inr ⟨b,0,1,rfl,λk hk=>?_⟩;have hk0:k=0:=by simp at hk;exact hk
 subst hk0;exact ⟨ad h 0,ad h 1,ad h 2⟩
abbrev iC:Nat->Prop:=λ_=>False
theorem KP (w:World) (ht:bE w) (hm:Mx w):Calls Tryz.prog 8 #[] w λe w'=>e=.returned (.bool true)/\Below w.heap.size w w':=by
 have HB0:=qI ((Q0 w.heap.size w).alloc (lR) (.cells #[.int .i64 0,.int .i64 0,.int .i64 0] 84));have HX0:=qI (aG w (.cells #[.int .i64 0,.int .i64 0,.int .i64 0] 84) rfl);have HT:=qI ht;have HM:=qI hm;have hgl:0<w.heap.size:=ht.2;clear ht hm
 go_enter Tryz.func8,Tryz.ntmps8
 go_wp2_with fail
 generalize w.alloc (.cells #[.int .i64 0,.int .i64 0,.int .i64 0] 84)=X at *;refine (wV Ol.wC (.slice (some ⟨w.heap.size,0,none⟩) 1 1) (.slice none 0 0) 0 0 X (KO HX0.out) ⟨none,0,rfl,λh=>by simp [Ol.wC] at h⟩ (by decide) (HT.out.below HB0.out) (HM.out.below HB0.out)).mono ?_;rintro e W1 ⟨hbad,hgood,hout⟩;clear hbad;obtain ⟨Ba,Bd,Be,Bm,rfl,hM1,l1,l2,l3,l4⟩:=hgood Ol.Fv;have hX:w.heap.size<=X.heap.size:=HB0.out.size;have HB1:Hid (Below w.heap.size w W1):=HB0.out.trans (hout.mono hX);have HM1:=qI hM1;have h3:∀ j,three Ba Bd Bm j->w.heap.size<=j:=λj hj=>by
  rcases hj with e|e|e <;> omega
 have H3:=qI h3;have HG3:Hid (¬ three Ba Bd Bm 0):=λe=>by have:=h3 _ e;omega
 clear hgood hout hM1 h3;have HB2:=qI (HB1.out.alloc HB1.out.size (.cells #[.pointer (some ⟨Bd,0,none⟩),.pointer (some ⟨Be,0,none⟩),.pointer (some ⟨Ba,0,none⟩)] 36));have HC2:=qI ((Q0 W1.heap.size W1).alloc (lR) (.cells #[.pointer (some ⟨Bd,0,none⟩),.pointer (some ⟨Be,0,none⟩),.pointer (some ⟨Ba,0,none⟩)] 36));have HX2:=qI (aG W1 (.cells #[.pointer (some ⟨Bd,0,none⟩),.pointer (some ⟨Be,0,none⟩),.pointer (some ⟨Ba,0,none⟩)] 36) rfl);have HS2:Hid ((W1.alloc (.cells #[.pointer (some ⟨Bd,0,none⟩),.pointer (some ⟨Be,0,none⟩),.pointer (some ⟨Ba,0,none⟩)] 36)).heap.size=W1.heap.size+1):=by unfold Hid;simp
 have x2:(W1.alloc (.cells #[.pointer (some ⟨Bd,0,none⟩),.pointer (some ⟨Be,0,none⟩),.pointer (some ⟨Ba,0,none⟩)] 36)).cell? ⟨W1.heap.size,2,none⟩=some (.pointer (some ⟨Ba,0,none⟩)):=ad HX2.out 2
 go_upto_region 4 with fail
 generalize W1.alloc (.cells #[.pointer (some ⟨Bd,0,none⟩),.pointer (some ⟨Be,0,none⟩),.pointer (some ⟨Ba,0,none⟩)] 36)=Y at *;have HB3:=qI (HB2.out.alloc HB2.out.size (.cells #[.string ⟨#[120]⟩,.int .i64 0,.int .i64 0,.int .i64 0,.int .i64 0,.slice none 0 0] 63));have HC3:=qI (HC2.out.alloc HC2.out.size (.cells #[.string ⟨#[120]⟩,.int .i64 0,.int .i64 0,.int .i64 0,.int .i64 0,.slice none 0 0] 63));have HX3:=qI (aG Y (.cells #[.string ⟨#[120]⟩,.int .i64 0,.int .i64 0,.int .i64 0,.int .i64 0,.slice none 0 0] 63) rfl);have HY3:=qI (bx HX2.out (.cells #[.string ⟨#[120]⟩,.int .i64 0,.int .i64 0,.int .i64 0,.int .i64 0,.slice none 0 0] 63))
 go_wp2_with fail
 clear x2;generalize Y.alloc (.cells #[.string ⟨#[120]⟩,.int .i64 0,.int .i64 0,.int .i64 0,.int .i64 0,.slice none 0 0] 63)=Z at *;have lba:Ba<W1.heap.size:=by
  obtain ⟨_,_,_,_,_,_,_,_,_,_,_,_,_,_,_,_,_,k1,_⟩:=HM1.out;exact k1.lt
 obtain ⟨lbe,lbd,lbm⟩:=HM1.out.eng.lt;have hs2:=HS2.out;have HAD:=qI (xC iC Ba Bd Be Bm ⟨Ol.cM Ol.wC,Ol.wC.ds,[]⟩ Dk.fresh 0 Ol.wP (.slice (some ⟨Y.heap.size,0,none⟩) 1 1) Z (HM1.out.keep HC3.out) (KN (by rw [bH (by rintro (e|e|e|e) <;> first|exact e|omega)];exact HX3.out)) (HT.out.below HB3.out) (by omega) (λl hl=>by
  have:l=[]:=by simpa using hl
  subst this;exact xe (l:=[]) (by simp)))
 unfold bQ at HAD;clear hs2;refine HAD.out.mono ?_;clear HAD;rintro e W4 ⟨rfl,⟨dk4,n4,hn4,hM4⟩,ha4⟩;have hadm:(Ol.aJ ⟨Ol.cM Ol.wC,Ol.wC.ds,[]⟩ Ol.wP).1=0:=Ol.Fw;have HHAS:=qI (KM hadm);have HLEN:Hid ((Ol.aJ ⟨Ol.cM Ol.wC,Ol.wC.ds,[]⟩ Ol.wP).2.length=1):=Ol.uE hadm;have HGONE:Hid (Ol.eU (Ol.aJ ⟨Ol.cM Ol.wC,Ol.wC.ds,[]⟩ Ol.wP).2 Ol.wP.nm=[]):=Ol.ur hadm;have hn4':n4<=36:=by
  have h1:=wk (au []) (au (Ol.aJ ⟨Ol.cM Ol.wC,Ol.wC.ds,[]⟩ Ol.wP).2);have h2:=vX hM4.inv.held;dsimp only at hn4 h2;omega
 rw [hadm];generalize (Ol.aJ ⟨Ol.cM Ol.wC,Ol.wC.ds,[]⟩ Ol.wP).2=hs4 at *;have HM4:=qI hM4;have HB4:=qI (nw HB3.out HB3.out.size ha4 H3.out);have HTA4:Hid (∀ W,Apart (three Ba Bd Bm) Z W->bE W):=λW hW=>Kw (HT.out.below HB3.out) hW HG3.out
 have HA4:=qI ha4;have HMB:Hid (¬ three Ba Bd Bm W1.heap.size):=λe=>by rcases e with e|e|e <;> omega
 have hZ:W1.heap.size<Z.heap.size:=(gS HY3.out).1;have HY4:=qI ((ha4.block W1.heap.size hZ HMB.out).trans HY3.out);have x2:W4.cell? ⟨W1.heap.size,2,none⟩=some (.pointer (some ⟨Ba,0,none⟩)):=ad HY4.out 2;rw [show ak (((0:Nat)):Int)=.nilIface from rfl];clear hadm hn4 hM4 ha4
 go_wp2_with fail
 refine (qw HM4.out).mono ?_;rintro e W5 ⟨a5,c5,rfl,_,hb5⟩;dsimp only;rw [HLEN.out];have HB5:=qI (HB4.out.trans (hb5.mono HB4.out.size));have HA5:=qI (HA4.out.trans (Apart.of_below hb5));have HM5:=qI (HM4.out.keep hb5);have hs5:=hb5.size;have hs4:=HA4.out.size;have HY5:=qI ((hb5.block W1.heap.size (by omega)).trans HY4.out);have x2':W5.cell? ⟨W1.heap.size,2,none⟩=some (.pointer (some ⟨Ba,0,none⟩)):=ad HY5.out 2;clear hb5 x2;have HRM:=qI (xy iC Ba Bd Be Bm _ dk4 n4 Ol.wP.nm W5 HM5.out (by omega) (λW hW=>HTA4.out W (HA5.out.trans hW)));dsimp only at HRM;rw [HHAS.out,HGONE.out] at HRM;unfold Ol.wP at HRM;dsimp only at HRM
 go_wp2_with fail
 refine HRM.out.mono ?_;rintro e W6 ⟨rfl,⟨dk6,n6,hn6,hM6⟩,ha6⟩;rw [show ak (((if True then 0 else 6:Nat)):Int)=.nilIface from rfl];have HM6:=qI hM6;have HB6:=qI (nw HB5.out HB5.out.size ha6 H3.out);have HY6:=qI ((ha6.block W1.heap.size (by omega) HMB.out).trans HY5.out);have x2'':W6.cell? ⟨W1.heap.size,2,none⟩=some (.pointer (some ⟨Ba,0,none⟩)):=ad HY6.out 2;clear hn6 hM6 ha6 x2' HRM
 go_wp2_with fail
 refine (qw HM6.out).mono ?_;rintro e W7 ⟨a7,c7,rfl,_,hb7⟩;dsimp only;have HB7:=qI (HB6.out.trans (hb7.mono HB6.out.size));clear hb7
 go_wp2
 go_ret;exact ⟨rfl,HB7.out⟩
end
section
open RowKit Shelf
open Qos (Nd Ct Pd nd ct pd ah)
open Sv (Gv Hd gv hd gsF az aF)
attribute [local go_sem] Oper.semAt_some
theorem KQ (t:Ol.St) (p:Pd):((Ol.aJ t p).1≠0/\(Ol.aJ t p).2=t.hs)\/((Ol.aJ t p).1=0/\∃ gs,(Ol.aJ t p).2=Ol.bB t.hs ⟨p,gs⟩):=by
 unfold Ol.aJ
 split
 ·rename_i h;exact .inl ⟨h,rfl⟩
 split
 ·exact .inl ⟨by simp,rfl⟩
 split
 ·exact .inl ⟨by simp,rfl⟩
 split
 ·exact .inl ⟨by simp,rfl⟩
 split
 ·rename_i h;exact .inl ⟨h,rfl⟩
 split
 ·exact .inl ⟨by simp,rfl⟩
 ·exact .inr ⟨rfl,_,rfl⟩
open Classical in
theorem KR (hs:List Hd) (i:Nat) (x:Hd):dB (au hs) (au (hs.take i++x :: hs.drop i))<=x.gs.length:=by
 have e:au (hs.take i++x :: hs.drop i)=au (hs.take i)++((List.range x.gs.length).map (kh x)++au (hs.drop i)):=by
  unfold au;rw [List.flatMap_append,List.flatMap_cons]
 have h1:=nl (qq (List.take_sublist i hs));have h2:=nl (qq (List.drop_sublist i hs));unfold dB at h1 h2 ⊢;rw [e,List.filter_append,List.filter_append,Q2,Q2,h1,h2]
 have:=List.length_filter_le (λr=>decide (r ∉ au hs)) ((List.range x.gs.length).map (kh x))
 rw [Q9,List.length_range] at this;omega
theorem KS {t:Ol.St} (h:Ol.Inv t) (p:Pd):dB (au t.hs) (au (Ol.aJ t p).2)<=3:=by
 rcases KQ t p with h1|⟨_,gs,h1⟩
 ·rw [h1.2,nl (λ_ h=>h)];omega
 ·have hi:=(Ol.ET h p).held;have hi:az (Ol.aJ t p).2=0:=hi;rw [h1] at hi ⊢;have hx:(⟨p,gs⟩:Hd)∈Ol.bB t.hs ⟨p,gs⟩:=by unfold Ol.bB;simp
  obtain ⟨_,a2,_⟩:=Ol.bW.1 hi;obtain ⟨b1,b2,_⟩:=a2 _ hx;have b3:=(Sv.fm b1).2.2.1
  have:=KR t.hs (Ol.bZ t.hs p.nm) ⟨p,gs⟩
  unfold Ol.bB;dsimp only at this b2 b3 ⊢;omega
section
variable {N:Nat->Prop} {Ba Bd Be Bm:Nat} {t:Ol.St} {dk:Dk} {n:Nat} {w:World}
theorem KT {p:Pd} {cv:Value} (hM:av w N Ba Bd Be Bm t dk n) (hp:aE (ag (four N Ba Bd Bm) w) cv p.cs) (ht:bE w) (hn:n+36<=1000):Calls Tryz.prog 23 #[.pointer (some ⟨Ba,0,none⟩),bQ p cv] w λe w'=>e=.returned (ak ((Ol.aJ t p).1:Nat))/\(∃ dk' n',(n'<=n+3/\eM w w' Ba)/\av w' N Ba Bd Be Bm ⟨t.m,t.ds,(Ol.aJ t p).2⟩ dk' n')/\Apart (three Ba Bd Bm) w w':=by
 have h12:=(Ol.bW.1 hM.inv.held).1;refine (xC N Ba Bd Be Bm t dk n p cv w hM hp ht hn (λl hl=>?_)).mono ?_
 ·have hll:l.length=t.hs.length:=by rw [<- hl,Q9]
  exact KI (by rw [hll];unfold Ol.bZ;exact List.countP_le_length) (by omega)
 ·rintro e w' ⟨rfl,⟨dk',n',⟨hn',hu'⟩,hM'⟩,ha⟩;exact ⟨rfl,⟨dk',n',⟨by have:=KS hM.inv p;omega,hu'⟩,hM'⟩,ha⟩
theorem KU (h:av w N Ba Bd Be Bm t dk n):Calls Tryz.prog 15 #[.pointer (some ⟨Ba,0,none⟩)] w λe w'=>∃ a c,e=.returned (.slice a t.hs.length c)/\aM (ag (three Ba Bd Bm) w') (.slice a t.hs.length c) t.hs/\Below w.heap.size w w':=by
 obtain ⟨l1,l2,l3⟩:=h.eng.lt;have l4:Ba<w.heap.size:=by
  obtain ⟨_,_,_,_,_,_,_,_,_,_,_,_,_,_,_,_,_,k1,_⟩:=h;exact k1.lt
 refine (qw h).mono ?_;rintro e w' ⟨a,c,rfl,hh,hb⟩;refine ⟨a,c,rfl,hh.le (bg (λj _ hn=>⟨λe=>hn ?_,rfl⟩) (lR)),hb⟩
 rcases e with e|e|e
 all_goals show j<w.heap.size;omega
end
end
section
open RowKit Shelf
open Ost (Cpu ae)
open Qos (Nd Ct Pd nd ct pd ah)
open Sv (Gv Hd gv hd gsF az aF)
open Dvs (Dv dv aT)
theorem KV {t:Ol.St} (h:Ol.Inv t):∀ x∈t.hs,∀ g∈x.gs,∀ k,k<g.dv.length->0<=Dvs.nth g.dv k/\Dvs.nth g.dv k<t.ds.length:=by
 obtain ⟨s,hs⟩:=h.left;exact Ol.FB hs
theorem KW {t:Ol.St} (h:Ol.Inv t):∀ x∈t.hs,x.gs.length<=3:=λx hx=>by
 obtain ⟨_,a2,_⟩:=Ol.bW.1 h.held;obtain ⟨b1,b2,_⟩:=a2 x hx
 have:=(Sv.fm b1).2.2.1
 omega
theorem KX {t:Ol.St} (h:Ol.Inv t):∀ x∈t.hs,∀ g∈x.gs,g.dv.length<=16:=λx hx g hg=>by
 obtain ⟨_,a2,_⟩:=Ol.bW.1 h.held;obtain ⟨_,_,b3⟩:=a2 x hx;obtain ⟨k,hk,rfl⟩:=Sv.kQ hg;exact (Sv.td (Dvs.cO b3 k hk)).1
section
variable {N:Nat->Prop} {Ba Bd Be Bm:Nat} {t:Ol.St} {dk:Dk} {n:Nat} {w:World}
end
end
section
open RowKit Shelf
open Ost (Cpu af dif cnt)
open Qos (Nd Ct Pd nd ct pd ah aU aV)
open Sv (Gv Hd gv hd)
theorem xD {a b:ByteArray} (h:a≠b):(a.toList == b.toList)=false:=by
 rw [Qr];intro e;rw [Qs,Qs] at e;exact h (ByteArray.ext (Array.toList_inj.1 e))
end
section
open RowKit Shelf
open Ost (Cpu ae)
open Qos (Nd Ct Pd nd ct pd ah)
open Sv (Gv Hd gv hd gsF az aF)
open Dvs (Dv dv aT)
section
variable {N:Nat->Prop} {Ba Bd Be Bm:Nat} {t:Ol.St} {dk:Dk} {n:Nat} {w:World}
theorem av.lts (h:av w N Ba Bd Be Bm t dk n):(Ba<w.heap.size/\Bd<w.heap.size/\Bm<w.heap.size)/\Be<w.heap.size:=by
 obtain ⟨l1,l2,l3⟩:=h.eng.lt;obtain ⟨_,_,_,_,_,_,_,_,_,_,_,_,_,_,_,_,_,k1,_⟩:=h;exact ⟨⟨k1.lt,l2,l3⟩,l1⟩
theorem av.ost (h:av w N Ba Bd Be Bm t dk n):∃ arr,w.heap[Ba]?=some (Obj.cells arr 115 (0,0))/\∃ p,w.cell? ⟨Ba,0,none⟩=some (.pointer p):=by
 obtain ⟨_,_,_,_,_,_,_,_,_,_,_,_,_,_,_,_,_,k1,_⟩:=h;exact ⟨_,k1,_,ad k1 0⟩
theorem av.not3 (h:av w N Ba Bd Be Bm t dk n) {j:Nat} {v:Value} (hv:w.cell? ⟨j,0,none⟩=some v) (h1:∀ p,v≠.pointer p) (h2:∀ b,v≠.bool b):¬ three Ba Bd Bm j:=by
 obtain ⟨_,_,p,ho⟩:=h.ost;have hd:=h.eng.disk;unfold aA at hd;have hd0:=ad hd 0;obtain ⟨xs,hm,_⟩:=h.eng.map;have hmap:∀ v,w.cell? ⟨Bm,0,none⟩≠some v:=λv e=>by
  obtain ⟨_,es,⟨ms,clock,hh,_⟩,_⟩:=hm
  simp [World.cell?,hh] at e
 rintro (e|e|e) <;> subst e
 ·rw [ho] at hv;exact h1 p (Ql hv).symm
 ·rw [hd0] at hv;exact h2 _ (Ql hv).symm
 ·exact hmap v hv
end
end
section
open RowKit Shelf
open Qos (Nd Ct Pd nd ct pd ah dZ)
open Sv (Gv Hd gv hd)
open Dvs (Dv dv aT)
attribute [local go_sem] Oper.semAt_some
def KY (w:World) (N:Nat->Prop) (Ba Bd Be Bm:Nat) (t:Ol.St) (n:Nat) (us:List Nd) (most:Int) (e:Ending) (w':World):Prop:=
 ∃ (qs:List Pd) (g:Nat) (nv:Value),e=.returned (.tuple #[nv,.nilIface])/\lw w' nv ((qs.take g).map Pd.nm)/\mS us (t.hs.map Hd.pod) qs/\dZ us qs most 0 g/\(∃ dk' n',(n'<=n/\eM w w' Ba)/\av w' N Ba Bd Be Bm ⟨t.m,t.ds,bX t.hs ((qs.take g).map Pd.nm)⟩ dk' n')/\Apart (three Ba Bd Bm) w w'
theorem KZ {t:Ol.St} (h:Ol.Inv t):jC (t.hs.map Hd.pod):=by
 obtain ⟨a1,a2,_⟩:=Ol.bW.1 h.held;refine ⟨by rw [Q9];omega,λx hx=>?_⟩;obtain ⟨y,hy,rfl⟩:=Qk.1 hx;have hp:=(a2 y hy).1;have s1:=(Sv.gN (Sv.fm hp).1).2;have e1:y.pod.nm.data.toList.length=y.pod.nm.size:=by simp
 exact ⟨Qos.kL hp,by omega⟩
section
variable {N:Nat->Prop} {Ba Bd Be Bm:Nat} {t:Ol.St} {dk:Dk} {n:Nat} {w:World}
theorem K0 {uv:Value} {us:List Nd} {most:Int} (h:av w N Ba Bd Be Bm t dk n) (hu:bc w uv us) (hfu:jB us) (hm1:-9223372036854775808<=most) (hm2:most<=9223372036854775807) (hn:n+36<=1000) (ht:∀ W,Apart (three Ba Bd Bm) w W->bE W) :
  Calls Tryz.prog 26 #[.pointer (some ⟨Ba,0,none⟩),uv,.int .i64 most] w (KY w N Ba Bd Be Bm t n us most):=by
 have hH:=h;have hl12:=(Ol.bW.1 h.inv.held).1;obtain ⟨h1,h2,h0l,h3,h4,h5,h6,h7,tb,b,c,hv,pb,db,ao,pc,s,k1,k2,k3,k4,k5,k6,k7⟩:=h;have hh:aM w hv t.hs:=k2.le (ci _ _);obtain ⟨ha,hc,hve,_⟩:=id hh;subst hve;have x7:w.cell? ⟨Ba,7,none⟩=some (.slice ha t.hs.length hc):=ad k1 7;obtain ⟨ua,uc,hue,_⟩:=id hu;subst hue;have HH:=qI hH;have HL:=qI hh;have HU:=qI hu;have HT:=qI ht;have HFU:=qI hfu;have HFE:=qI (KZ h1);clear hH hh hu ht hfu h1 h2 h0l h3 h4 h5 h6 h7 k1 k2 k3 k4 k5 k6 k7
 go_enter Tryz.func26,Tryz.ntmps26
 go_wp2_with fail
 refine (tJ _ t.hs w HL.out (by omega)).mono ?_;rintro e W1 ⟨pv,rfl,hrow,hb1⟩;have HPA:=qI (nh hrow);have HB1:=qI hb1;clear hrow hb1 x7;obtain ⟨PS,hPS⟩:∃ PS,PS=t.hs.map Hd.pod:=⟨_,rfl⟩;rw [<- hPS] at HPA HFE;have HPS:=qI hPS;have hpl:PS.length=t.hs.length:=by rw [hPS,Q9]
 have HPL:=qI hpl;clear hPS hpl;obtain ⟨pa,pcc,hpv,_⟩:=id HPA.out;subst hpv
 go_wp2_with fail
 refine (IU _ _ PS us most W1 HPA.out (HU.out.below HB1.out) HFE.out HFU.out hm1 hm2).mono ?_;rintro e W2 ⟨⟨nv,qs,g,rfl,htx,hso,hle⟩,hb2⟩;have HB2:=qI (HB1.out.trans (hb2.mono HB1.out.size));have HSO:=qI hso;have HLE:=qI hle;have HTX:=qI htx;have HM2:=qI (HH.out.keep HB2.out);obtain ⟨na,nc,hnv,hnc,hnr⟩:=htx;subst hnv;have HNR:=qI hnr;clear hb2 hso hle hnr hnc HB1 HPA;have hlq:((qs.take g).map Pd.nm).length<=t.hs.length:=by
  have:=HSO.out.1.length_eq
  have:=HPL.out
  rw [Q9,Qu];omega
 obtain ⟨L,hL⟩:∃ L,L=(qs.take g).map Pd.nm:=⟨_,rfl⟩;rw [<- hL] at hlq HNR HTX;rw [<- hL];have HLL:=qI hL;clear hL
 by_cases hl0:L.length=0
 ·have hLn:L=[]:=Qe hl0;have HLN:=qI hLn;rw [hl0];clear hl0 hLn hlq
  go_wp2
  go_ret2;refine ⟨qs,g,.slice none 0 0,rfl,?_,by rw [<- HPS.out];exact HSO.out,HLE.out,⟨dk,n,⟨lR,.inl (HB2.out.block Ba HH.out.poolAt.1)⟩,?_⟩,Apart.of_below HB2.out⟩
  ·rw [<- HLL.out,HLN.out];exact ⟨none,0,rfl,lR,λh=>absurd h (by simp)⟩
  ·rw [<- HLL.out,HLN.out];exact HM2.out
 ·have hlb:((L.length:Int) == 0)=false:=by rw [Qr];omega
  obtain ⟨nb,hna,hnl,hcs⟩:=HNR.out (by omega);subst hna;have hc0:=hcs 0 (by omega);have hn3:=HM2.out.not3 hc0 (λ_ e=>by cases e) (λ_ e=>by cases e);have HN3:=qI hn3;have hpos:0<t.hs.length:=by omega
  have HLG:=qI (xw N Ba Bd Be Bm t dk n L nb 0 nc W2 HM2.out (λk hk=>by rw [Qd,hcs k hk];simp [hk]) ⟨λe=>hn3 (.inr (.inl e)),λe=>hn3 (.inr (.inr e))⟩ hnl (by omega) hpos hn (λW hW=>HT.out W ((Apart.of_below HB2.out).trans hW)));have HCS:=qI hcs;have HNL:=qI hnl;have HL0:=qI hl0;clear hc0 hn3 hcs hnl hl0 hpos hlq
  go_wp2_with fail
  refine HLG.out.mono ?_;rintro e W3 ⟨rfl,⟨dk3,n3,⟨hn3',hu3⟩,hM3⟩,ha3⟩;have HM3:=qI hM3;have HU3:=qI (hu3.old HB2.out HH.out.poolAt.1);have HA3:=qI ha3;clear hM3 hu3 ha3 HLG
  go_wp2
  go_ret2;refine ⟨qs,g,.slice (some ⟨nb,0,none⟩) L.length nc,rfl,?_,by rw [<- HPS.out];exact HSO.out,HLE.out,⟨dk3,n3,⟨hn3',HU3.out⟩,by rw [<- HLL.out];exact HM3.out⟩,(Apart.of_below HB2.out).trans HA3.out⟩;rw [<- HLL.out];obtain ⟨a',c',e',q',r'⟩:=HTX.out;refine ⟨a',c',e',q',λh0=>?_⟩;obtain ⟨g',ea,gl,gc⟩:=r' h0;have eg:g'=nb:=by
   rw [ea] at e';injection e' with e1
   injection e1 with e1
   injection e1 with e1
   exact e1.symm
  subst eg;exact ⟨g',ea,Q1 gl HA3.out.size,λk hk=>(fP (HA3.out.block g' gl HN3.out) k).trans (gc k hk)⟩
end
end
section
open RowKit Shelf
open Qos (Nd Ct Pd nd ct pd ah)
open Sv (Gv Hd gv hd)
open Dvs (Dv dv aT)
attribute [local go_sem] Oper.semAt_some
def fv (w:World) (Ba j:Nat):Prop:=∃ pb n c,w.cell? ⟨Ba,9,none⟩=some (.pointer (some ⟨pb,0,none⟩))/\0<n/\w.cell? ⟨pb,0,none⟩=some (.slice (some ⟨j,0,none⟩) n c)
theorem fv.base {w:World} {Ba j base:Nat} (h:fv w Ba j) (hp:cz base w Ba):base<=j:=by
 obtain ⟨pb,n,c,e1,hn,e2⟩:=h;exact (hp pb e1).2 j n c hn e2
structure ko (W W':World):Prop where
 size:W.heap.size<=W'.heap.size
 cell:∀ (b o:Nat) (v:Value),(∀ x,v≠.bool x)->W.cell? ⟨b,o,none⟩=some v->W'.cell? ⟨b,o,none⟩=some v
theorem bj.nb {W W':World} {v:Value} {xs:List Int} (h:bj W v xs) (l:ko W W'):bj W' v xs:=by
 obtain ⟨ao,c,hv,hc,hr⟩:=h;refine ⟨ao,c,hv,hc,λh0=>?_⟩;obtain ⟨b,o,ha,hlt,hcs⟩:=hr h0;exact ⟨b,o,ha,Q1 hlt l.size,λk hk=>l.cell _ _ _ (λ_ e=>by cases e) (hcs k hk)⟩
theorem bc.nb {W W':World} {v:Value} {ds:List Nd} (h:bc W v ds) (l:ko W W'):bc W' v ds:=by
 obtain ⟨ao,c,hv,hc,hr⟩:=h;refine ⟨ao,c,hv,hc,λh0=>?_⟩;obtain ⟨b,o,ha,hlt,hcs⟩:=hr h0;exact ⟨b,o,ha,Q1 hlt l.size,λk hk=>⟨l.cell _ _ _ (λ_ e=>by cases e) (hcs k hk).1,l.cell _ _ _ (λ_ e=>by cases e) (hcs k hk).2⟩⟩
theorem K1 {x:Ct} {d v:Value} (h:v∈b9 x d) (hd:∀ b,d≠.bool b):∀ b,v≠.bool b:=by
 intro b e;subst e
 simp [b9] at h
 exact hd b h.symm
theorem aE.nb {W W':World} {v:Value} {cs:List Ct} (h:aE W v cs) (l:ko W W'):aE W' v cs:=by
 obtain ⟨ao,c,hv,hc,hr⟩:=h;refine ⟨ao,c,hv,hc,λh0=>?_⟩;obtain ⟨b,o,dv,ha,hlt,hcs⟩:=hr h0;refine ⟨b,o,dv,ha,Q1 hlt l.size,λk hk=>⟨λj hj=>?_,(hcs k hk).2.nb l⟩⟩;have h6:j<(b9 (ct cs k) (dv k)).length:=hj;rw [Qf h6];refine l.cell _ _ _ (K1 (List.getElem_mem h6) (λ_ e=>?_)) (((hcs k hk).1 j hj).trans (Qf h6));obtain ⟨_,_,e2,_⟩:=(hcs k hk).2;rw [e2] at e;cases e
theorem bl.nb {W W':World} {v:Value} {gs:List Gv} (h:bl W v gs) (l:ko W W'):bl W' v gs:=by
 obtain ⟨ao,c,hv,hc,hr⟩:=h;refine ⟨ao,c,hv,hc,λh0=>?_⟩;obtain ⟨b,o,dv,ha,hlt,hcs⟩:=hr h0;refine ⟨b,o,dv,ha,Q1 hlt l.size,λk hk=>⟨⟨l.cell _ _ _ (λ_ e=>by cases e) (hcs k hk).1.1,l.cell _ _ _ (λ_ e=>?_) (hcs k hk).1.2.1,(hcs k hk).1.2.2⟩,(hcs k hk).2.nb l⟩⟩;obtain ⟨_,_,e2,_⟩:=(hcs k hk).2;rw [e2] at e;cases e
theorem aM.nb {W W':World} {v:Value} {hs:List Hd} (h:aM W v hs) (l:ko W W'):aM W' v hs:=by
 obtain ⟨ao,c,hv,hc,hr⟩:=h;refine ⟨ao,c,hv,hc,λh0=>?_⟩;obtain ⟨b,o,cv,gvv,ha,hlt,hcs⟩:=hr h0;refine ⟨b,o,cv,gvv,ha,Q1 hlt l.size,λk hk=>⟨⟨l.cell _ _ _ (λ_ e=>by cases e) (hcs k hk).1.1,l.cell _ _ _ (λ_ e=>by cases e) (hcs k hk).1.2.1,l.cell _ _ _ (λ_ e=>?_) (hcs k hk).1.2.2.1,l.cell _ _ _ (λ_ e=>?_) (hcs k hk).1.2.2.2⟩,(hcs k hk).2.1.nb l,(hcs k hk).2.2.nb l⟩⟩
 ·obtain ⟨_,_,e2,_⟩:=(hcs k hk).2.1;rw [e2] at e;cases e
 ·obtain ⟨_,_,e2,_⟩:=(hcs k hk).2.2;rw [e2] at e;cases e
section
variable {N:Nat->Prop} {Ba Bd Be Bm:Nat} {t:Ol.St} {dk:Dk} {n:Nat} {w:World}
theorem av.blk (h:av w N Ba Bd Be Bm t dk n) {j:Nat} (hj:fv w Ba j):j<w.heap.size/\(∃ s,w.cell? ⟨j,0,none⟩=some (.string s))/\¬ four N Ba Bd Bm j:=by
 obtain ⟨h1,h2,h0l,h3,h4,h5,h6,h7,tb,b,c,hv,pb,db,ao,pc,s,k1,k2,k3,k4,k5,k6,k7⟩:=h;obtain ⟨pb1,n1,c1,e1,hn1,e2⟩:=hj;have e9:w.cell? ⟨Ba,9,none⟩=some (.pointer (some ⟨pb,0,none⟩)):=ad k1 9;rw [e9] at e1;obtain rfl:pb=pb1:=by cases e1;rfl
 rw [k5.pool.row] at e2;have e3:ao=some ⟨j,0,none⟩/\s.ds.length=n1:=by cases e2;exact ⟨rfl,rfl⟩
 have h0:0<s.ds.length:=by omega
 obtain ⟨q1,q2,q3⟩:=k5.pool.at0 h0;rw [e3.1] at q1;obtain rfl:j=db:=by cases q1;rfl
 have q4:=(k5.pool.cells 0 h0).1;rw [Nat.zero_mul] at q4;exact ⟨q3,⟨_,q4⟩,k7 h0⟩
theorem K2 {W W':World} {xs:List RV} (h:∀ x∈xs,ee W x/\x.dn<=1000) (hs:W.heap.size<=W'.heap.size) (hk:∀ g,(∃ v,W.cell? ⟨g,0,none⟩=some (.int .i64 v))->W'.heap[g]?=W.heap[g]?):(∀ x∈xs,ee W' x/\x.dn<=1000)/\xs.map (aC W')=xs.map (aC W):=by
 have key:∀ x∈xs,ee W' x/\aK W' x=aK W x:=λx hx=>by
  obtain ⟨hd,_⟩:=h x hx
  by_cases h0:0<x.dn
  ·obtain ⟨g,arr,z,ha,hg⟩:=hd.2 h0;obtain ⟨g',o',ha',hl,hc⟩:=hd.1 h0;have e:g'=g/\o'=0:=by rw [ha] at ha';cases ha';exact ⟨rfl,rfl⟩
   have c0:=hc 0 h0;rw [e.1,e.2] at c0;have hh:=hk g ⟨_,c0⟩;obtain ⟨r1,r2⟩:=lx (w':=W') hd.1 (λg' o' e _=>by rw [ha] at e;cases e;exact hh) hs;exact ⟨⟨r1,λ_=>⟨g,arr,z,ha,hh.trans hg⟩⟩,r2⟩
  ·refine ⟨⟨λe=>absurd e h0,λe=>absurd e h0⟩,?_⟩;unfold aK
   have:x.dn=0:=by omega
   rw [this];rfl
 exact ⟨λx hx=>⟨(key x hx).1,(h x hx).2⟩,List.map_congr_left λx hx=>by unfold aC;rw [(key x hx).2]⟩
def K6 (w:World) (N:Nat->Prop) (Ba Bd Be Bm:Nat) (t:Ol.St) (dk:Dk) (n:Nat) (e:Ending) (w':World):Prop:=∃ (f:Nat) (ds':List Dv),e=.returned (ak f)/\Ol.Alike t.ds ds'/\av w' N Ba Bd Be Bm ⟨t.m,ds',t.hs⟩ dk n/\Apart (fv w Ba) w w'/\∀ base,cz base w Ba->cz base w' Ba
theorem av.sicken {pb db:Nat} {ao:Option Addr} {pc:Nat} {us:Nat->Bool} (h:av w N Ba Bd Be Bm t dk n) (h9:w.cell? ⟨Ba,9,none⟩=some (.pointer (some ⟨pb,0,none⟩))) (hp:ap w pb db ao pc t.ds us) {k:Nat} (hk:k<t.ds.length) (on:Bool):av (w.setCell ⟨db,k*3+2,none⟩ (.bool on)) N Ba Bd Be Bm ⟨t.m,Dvs.sicken t.ds k on,t.hs⟩ dk n/\Apart (fv w Ba) w (w.setCell ⟨db,k*3+2,none⟩ (.bool on))/\∀ base,cz base w Ba->cz base (w.setCell ⟨db,k*3+2,none⟩ (.bool on)) Ba:=by
 have h0:0<t.ds.length:=by omega
 have hbl:fv w Ba db:=⟨pb,t.ds.length,pc,h9,h0,by rw [hp.row,(hp.at0 h0).1]⟩;obtain ⟨b1,⟨bs,b2⟩,b3⟩:=h.blk hbl;have hA:Apart (λj=>j=db) w (w.setCell ⟨db,k*3+2,none⟩ (.bool on)):=Apart.setCell (K:=λj=>j=db) rfl _ _ _;have hA2:Apart (fv w Ba) w (w.setCell ⟨db,k*3+2,none⟩ (.bool on)):=hA.wide (λj e=>by rw [e];exact hbl);have hH:=h;obtain ⟨h1,h2,h0l,h3,h4,h5,h6,h7,tb,b,c,hv,pb0,db0,ao0,pc0,s,k1,k2,k3,k4,k5,k6,k7⟩:=h;have e9:w.cell? ⟨Ba,9,none⟩=some (.pointer (some ⟨pb0,0,none⟩)):=ad k1 9;rw [e9] at h9;obtain rfl:pb0=pb:=by cases h9;rfl
 have hds:=Ol.fI k4;have hr1:=hp.row;rw [k5.pool.row] at hr1;have e3:ao0=ao/\pc0=pc:=by
  injection hr1 with hr1
  injection hr1 with r1 r2 r3
  exact ⟨r1,r3⟩
 have hu0:0<s.ds.length:=by rw [hds];exact h0
 have e4:db0=db:=by
  have a1:=(k5.pool.at0 hu0).1;have a2:=(hp.at0 h0).1;rw [e3.1,a2] at a1;cases a1;rfl
 subst e4;obtain ⟨l1,l2,l3⟩:=h3.lt;have n1:Ba≠db0:=λe=>b3 (.inr (.inl e.symm))
 have n2:Bd≠db0:=λe=>b3 (.inr (.inr (.inl e.symm)))
 have n3:Bm≠db0:=λe=>b3 (.inr (.inr (.inr e.symm)))
 have n4:Be≠db0:=λe=>by
  have:=h3.eng.cells.1
  rw [e,b2] at this;cases this
 have hsz:(w.setCell ⟨db0,k*3+2,none⟩ (.bool on)).heap.size=w.heap.size:=Nat.le_antisymm (by simp) hA.size;generalize hW:w.setCell ⟨db0,k*3+2,none⟩ (.bool on)=W at *;have hpool:ap W pb0 db0 ao0 pc0 (Dvs.sicken s.ds k on) s.us:=by rw [<- hW];exact k5.pool.sicken (by rw [hds];exact hk) on
 have hal:Ol.Alike t.ds (Dvs.sicken t.ds k on):=Ol.uJ hk on;have hc2:=(hp.cells k hk).2.2.1;have hnb:ko (ag (four N Ba Bd Bm) w) (ag (four N Ba Bd Bm) W):=⟨by rw [bw,bw];exact hA.size,λj o v hv hv2=>by
  have hm:=dV hv2;have hv3:=(ci _ _).cell _ _ _ hv2;have hl:j<w.heap.size:=Q3 w _ hv3
  by_cases hj:j=db0
  ·have ho:o≠k*3+2:=λe=>by
    rw [hj,e,hc2] at hv3;cases hv3;exact hv _ rfl
   have e1:(ag (four N Ba Bd Bm) W).cell? ⟨j,o,none⟩=W.cell? ⟨j,o,none⟩:=fP (bH hm) o;rw [e1,<- hW,hj];rw [hj] at hv3;rw [Qb]
   ·exact hv3
   ·intro e;cases e;exact ho rfl
  ·rw [<- hv2];exact fP (by rw [bH hm,bH hm,hA.block j hl hj]) o⟩
 have nt:¬ four N Ba Bd Bm tb:=dV k3.topo.cell;have nb:¬ four N Ba Bd Bm b:=dV (k3.topo.cells 0 h0l).1;have htl:=k3.topo.tlt;have hbl2:=k3.topo.lt;rw [bw] at htl hbl2;have c1:=(ci _ _).cell _ _ _ k3.topo.cell;have c2:=(ci _ _).cell _ _ _ (k3.topo.cells 0 h0l).1;rw [Qd,Nat.zero_mul] at c2;have t3:tb≠db0:=λe=>by rw [e,b2] at c1;cases c1
 have b3':b≠db0:=λe=>by rw [e,b2] at c2;cases c2
 refine ⟨⟨Ol.FG h1 hal,h2,h0l,?_,h4,h5,λj hj=>Q1 (h6 j hj) hA.size,h7,tb,b,c,hv,pb0,db0,ao0,pc0,Ol.j8 s (Dvs.sicken s.ds k on),(hA.block Ba k1.lt n1).trans k1,k2.nb hnb,⟨iB k3.topo ?_ ?_ ?_,k3.good,k3.op,k3.nd,k3.pol⟩,?_,⟨hpool,?_,k5.cp⟩,k6,?_⟩,hA2,λbase hb=>?_⟩
 ·obtain ⟨g1,g2,xs,g3,g4,g5⟩:=h3;obtain ⟨q1,q2⟩:=K2 g4 hA.size (λg ⟨v,hg⟩=>hA.block g (Q3 w _ hg) (λe=>by rw [e,b2] at hg;cases hg));exact ⟨g1.block (hA.block Be l1 n4),(hA.block Bd l2 n2).trans g2,xs,g3.block (hA.block Bm l3 n3),q1,λa=>by rw [q2];exact g5 a⟩
 ·rw [bH nt,bH nt,hA.block tb htl t3]
 ·rw [bH nb,bH nb,hA.block b hbl2 b3']
 ·rw [bw,bw];exact hA.size
 ·have:=Ol.uL hal k4
  rw [<- hds] at this ⊢;exact this
 ·rw [hds];have hN:=k5.nodes;rw [hds] at hN;exact Dvs.Ar hN hk on
 ·intro _;exact b3
 ·exact hH.poolNew hb hA n1 (λp e hl ep=>by
   have ep:p=db0:=ep;rw [e9] at e
   have:p=pb0:=by cases e;rfl
   exact (hp.at0 h0).2.1 (by rw [<- ep,this]))
theorem xE (h:av w N Ba Bd Be Bm t dk n) (k:Int) (on:Bool):Calls Tryz.prog 34 #[.pointer (some ⟨Ba,0,none⟩),.int .i64 k,.bool on] w (K6 w N Ba Bd Be Bm t dk n):=by
 have hH:=h;obtain ⟨h1,h2,h0l,h3,h4,h5,h6,h7,tb,b,c,hv,pb,db,ao,pc,s,k1,k2,k3,k4,k5,k6,k7⟩:=h;have x9:w.cell? ⟨Ba,9,none⟩=some (.pointer (some ⟨pb,0,none⟩)):=ad k1 9;have hp:ap w pb db ao pc t.ds s.us:=by rw [<- Ol.fI k4];exact k5.pool
 have HH:=qI hH;have HP:=qI hp;have HX:=qI x9;clear hH hp h1 h2 h0l h3 h4 h5 h6 h7 k1 k2 k3 k4 k5 k6 k7
 rcases two (fD k t.ds.length) with hb|hb
 ·have hk0:0<=k/\k<(t.ds.length:Int):=by
   unfold fD at hb;rw [Bool.and_eq_true,Qp,Qp] at hb;exact hb
  obtain ⟨kn,rfl⟩:∃ kn:Nat,k=(kn:Int):=⟨k.toNat,by omega⟩;have hkn:kn<t.ds.length:=by omega
  have HS:=qI (HH.out.sicken HX.out HP.out hkn on);have HAL:=qI (Ol.uJ hkn on);clear hb hk0
  go_enter Tryz.func34,Tryz.ntmps34
  go_wp2_with fail
  refine (AJ kn on w pb db ao pc t.ds s.us HP.out hkn).mono ?_;rintro e w' ⟨rfl,rfl⟩
  go_wp2
  go_ret;exact ⟨0,_,rfl,HAL.out,HS.out.1,HS.out.2.1,HS.out.2.2⟩
 ·have HB:=qI hb;clear hb
  go_enter Tryz.func34,Tryz.ntmps34
  go_wp2_with fail
  refine (AI k on w pb db ao pc t.ds s.us HP.out HB.out).mono ?_;rintro e w' ⟨rfl,rfl⟩
  go_wp2
  go_ret;exact ⟨1,t.ds,rfl,Ol.alike_refl _,HH.out,Apart.refl _ _,λ_ h=>h⟩
end
end
section
open RowKit Shelf
open Qos (Nd Ct Pd nd ct pd ah dZ)
open Sv (Gv Hd gv hd)
open Dvs (Dv dv aT)
attribute [local go_sem] Oper.semAt_some
def jc (x:Ac):Bool:=x.kd.toList == [97,100,109,105,116]
structure Stepped (t:Ol.St) (x:Ac) (f:Nat) (t':Ol.St):Prop where
 m:t'.m=t.m
 ds:Ol.Alike t.ds t'.ds
 inn:jc x=true->f=(Ol.aJ t x.p).1/\t'.hs=(Ol.aJ t x.p).2/\t'.ds=t.ds
 out:jc x=false->t'.hs.Sublist t.hs
def dC (w:World) (N:Nat->Prop) (Ba Bd Be Bm:Nat) (t:Ol.St) (n:Nat) (x:Ac) (e:Ending) (w':World):Prop:=∃ (f:Nat) (t':Ol.St),e=.returned (ak f)/\Stepped t x f t'/\(∃ dk' n',n'<=n+3/\av w' N Ba Bd Be Bm t' dk' n')/\Apart (λj=>three Ba Bd Bm j\/fv w Ba j) w w'/\∀ base,base<=w.heap.size->cz base w Ba->cz base w' Ba
section
variable {N:Nat->Prop} {Ba Bd Be Bm:Nat} {t:Ol.St} {dk:Dk} {n:Nat} {w:World}
theorem av.poolKeep {X:World} {base:Nat} (h:av w N Ba Bd Be Bm t dk n) (hb:Below w.heap.size w X) (hp:cz base w Ba):cz base X Ba:=h.poolNew hp (Apart.of_below (K:=λ_=>False) hb) id (λ_ _ _ e=>e)
theorem av.blkOld {X:World} {j:Nat} (h:av w N Ba Bd Be Bm t dk n) (hb:Below w.heap.size w X) (hj:fv X Ba j):fv w Ba j:=by
 obtain ⟨l1,l2⟩:=h.poolAt;obtain ⟨pb,q,c,e1,hq,e2⟩:=hj;rw [fP (hb.block Ba l1)] at e1;rw [fP (hb.block pb (l2 pb e1).1)] at e2;exact ⟨pb,q,c,e1,hq,e2⟩
theorem dC.old {X:World} {x:Ac} {e:Ending} {w':World} (hM:av w N Ba Bd Be Bm t dk n) (hb:Below w.heap.size w X) (h:dC X N Ba Bd Be Bm t n x e w'):dC w N Ba Bd Be Bm t n x e w':=by
 obtain ⟨f,t',h1,h2,h3,h4,h5⟩:=h;exact ⟨f,t',h1,h2,h3,(Apart.of_below hb).trans (h4.wide λj e=>e.imp id (hM.blkOld hb)),λbase hl hp=>h5 base (Q5 hl hb.size) (hM.poolKeep hb hp)⟩
theorem dC.three {x:Ac} {e:Ending} {w':World} {f:Nat} {t':Ol.St} {dk':Dk} {n':Nat} (hM:av w N Ba Bd Be Bm t dk n) (h1:e=.returned (ak f)) (h2:Stepped t x f t') (h3:n'<=n+3) (hM':av w' N Ba Bd Be Bm t' dk' n') (hu:eM w w' Ba) (ha:Apart (three Ba Bd Bm) w w'):dC w N Ba Bd Be Bm t n x e w':=
 ⟨f,t',h1,h2,⟨dk',n',h3,hM'⟩,ha.wide (λ_ e=>.inl e),λ_ hl hp=>hM.poolUp hp hl hu ha⟩
theorem K7 {x:Ac} {la ca ua:Option Addr} {ll lc cc uc:Nat} (hM:av w N Ba Bd Be Bm t dk n) (hp:aE (ag (four N Ba Bd Bm) w) (.slice ca x.p.cs.length cc) x.p.cs) (hu:bc w (.slice ua x.us.length uc) x.us) (hfu:jB x.us) (hm1:-9223372036854775808<=x.a) (hm2:x.a<=9223372036854775807) (hn:n+36<=1000) (ht:∀ W,Apart (three Ba Bd Bm) w W->bE W) :
  Calls Tryz.prog 13 #[.agg #[.pointer (some ⟨Bd,0,none⟩),.pointer (some ⟨Be,0,none⟩),.pointer (some ⟨Ba,0,none⟩)],.agg #[.string x.kd,.string x.s,.int .i64 x.a,.int .i64 x.b,.int .u8 x.m,.slice la ll lc,.string x.p.nm,.int .i64 x.p.pr,.slice ca x.p.cs.length cc,.slice ua x.us.length uc]] w (dC w N Ba Bd Be Bm t n x):=by
 obtain ⟨MB,hMB⟩:∃ o:Obj,o=.cells #[.pointer (some ⟨Bd,0,none⟩),.pointer (some ⟨Be,0,none⟩),.pointer (some ⟨Ba,0,none⟩)] 36:=⟨_,rfl⟩;obtain ⟨AB,hAB⟩:∃ o:Obj,o=.cells #[.string x.kd,.string x.s,.int .i64 x.a,.int .i64 x.b,.int .u8 x.m,.slice la ll lc,.string x.p.nm,.int .i64 x.p.pr,.slice ca x.p.cs.length cc,.slice ua x.us.length uc] 50:=⟨_,rfl⟩;have HBX:Hid (Below w.heap.size w ((w.alloc MB).alloc AB)):=((Q0 w.heap.size w).alloc (lR) MB).alloc (by simp) AB;obtain ⟨Bk,hBk⟩:∃ Bk,Bk=w.heap.size:=⟨_,rfl⟩;obtain ⟨Bx,hBx⟩:∃ Bx,Bx=w.heap.size+1:=⟨_,rfl⟩;have hk1:((w.alloc MB).alloc AB).heap[Bk]?=some MB:=by rw [hBk];exact bx (aG w MB rfl) _
 have hx1:((w.alloc MB).alloc AB).heap[Bx]?=some AB:=by rw [hBx];exact aG (w.alloc MB) AB (by simp)
 have HK1:=qI hk1;have HX1:=qI hx1;clear hk1 hx1;subst hMB hAB;have HM:=qI hM;have HP:=qI hp;have HU:=qI hu;have HFU:=qI hfu;have HT:=qI ht;clear hM hp hu hfu ht
 rcases two (x.kd.toList == [97,100,109,105,116]) with hk|hk
 ·have HK:Hid (jc x=true):=hk
  go_enter Tryz.func13,Tryz.ntmps13
  go_wp2_with fail
  (try rw [<- hBx]);(try rw [<- hBk]);generalize ((w.alloc (.cells #[.pointer (some ⟨Bd,0,none⟩),.pointer (some ⟨Be,0,none⟩),.pointer (some ⟨Ba,0,none⟩)] 36)).alloc (.cells #[.string x.kd,.string x.s,.int .i64 x.a,.int .i64 x.b,.int .u8 x.m,.slice la ll lc,.string x.p.nm,.int .i64 x.p.pr,.slice ca x.p.cs.length cc,.slice ua x.us.length uc] 50))=X at *;clear hBk hBx;have HMX:=qI (HM.out.keep HBX.out);have HPX:Hid (aE (ag (four N Ba Bd Bm) X) (.slice ca x.p.cs.length cc) x.p.cs):=HP.out.le (bg (λj hj hn=>⟨hn,HBX.out.block j hj⟩) HBX.out.size);have HUX:=qI (HU.out.below HBX.out);have HTX:Hid (∀ W,Apart (three Ba Bd Bm) X W->bE W):=λW ha=>HT.out W ((Apart.of_below HBX.out).trans ha)
  clear HP HU HT HK1 HX1;have HAD:=qI (KT (p:=x.p) HMX.out HPX.out (HTX.out X (Apart.refl _ _)) hn);unfold bQ at HAD;refine HAD.out.mono ?_;rintro e W ⟨rfl,⟨dk',n',⟨hn',hu'⟩,hM'⟩,ha⟩;have HR:Hid (dC w N Ba Bd Be Bm t n x (.returned (ak ((Ol.aJ t x.p).1:Nat))) W):=dC.old HM.out HBX.out (dC.three (t':=⟨t.m,t.ds,(Ol.aJ t x.p).2⟩) HMX.out rfl ⟨rfl,Ol.alike_refl _,λ_=>⟨rfl,rfl,rfl⟩,λh=>absurd (h.symm.trans HK.out) (by decide)⟩ hn' hM' hu' ha);clear hM' hu' ha HAD;generalize (Ol.aJ t x.p).1=en at *
  go_wp2
  go_ret;exact HR.out
 have HK:Hid (jc x=false):=hk
 rcases two (x.kd.toList == [114,101,109,111,118,101]) with hk2|hk2
 ·go_enter Tryz.func13,Tryz.ntmps13
  go_wp2_with fail
  (try rw [<- hBx]);(try rw [<- hBk]);generalize ((w.alloc (.cells #[.pointer (some ⟨Bd,0,none⟩),.pointer (some ⟨Be,0,none⟩),.pointer (some ⟨Ba,0,none⟩)] 36)).alloc (.cells #[.string x.kd,.string x.s,.int .i64 x.a,.int .i64 x.b,.int .u8 x.m,.slice la ll lc,.string x.p.nm,.int .i64 x.p.pr,.slice ca x.p.cs.length cc,.slice ua x.us.length uc] 50))=X at *;clear hBk hBx;have HMX:=qI (HM.out.keep HBX.out);have HPX:Hid (aE (ag (four N Ba Bd Bm) X) (.slice ca x.p.cs.length cc) x.p.cs):=HP.out.le (bg (λj hj hn=>⟨hn,HBX.out.block j hj⟩) HBX.out.size);have HUX:=qI (HU.out.below HBX.out);have HTX:Hid (∀ W,Apart (three Ba Bd Bm) X W->bE W):=λW ha=>HT.out W ((Apart.of_below HBX.out).trans ha)
  clear HP HU HT HK1 HX1;obtain ⟨en,hen⟩:∃ en:Nat,en=if ch t.hs x.s then 0 else 6:=⟨_,rfl⟩
  have HRM:=qI (xy N Ba Bd Be Bm t dk n x.s X HMX.out hn HTX.out);rw [<- hen] at HRM;clear hen;refine HRM.out.mono ?_;rintro e W ⟨rfl,⟨dk',n',⟨hn',hu'⟩,hM'⟩,ha⟩;have HR:Hid (dC w N Ba Bd Be Bm t n x (.returned (ak (en:Nat))) W):=dC.old HM.out HBX.out (dC.three (t':=⟨t.m,t.ds,Ol.eU t.hs x.s⟩) HMX.out rfl ⟨rfl,Ol.alike_refl _,λh=>absurd (h.symm.trans HK.out) (by decide),λ_=>Ol.pA _ _⟩ (by omega) hM' hu' ha);clear hM' hu' ha HRM
  go_wp2
  go_ret;exact HR.out
 rcases two (x.kd.toList == [115,105,99,107]) with hk3|hk3
 ·go_enter Tryz.func13,Tryz.ntmps13
  go_wp2_with fail
  (try rw [<- hBx]);(try rw [<- hBk]);generalize ((w.alloc (.cells #[.pointer (some ⟨Bd,0,none⟩),.pointer (some ⟨Be,0,none⟩),.pointer (some ⟨Ba,0,none⟩)] 36)).alloc (.cells #[.string x.kd,.string x.s,.int .i64 x.a,.int .i64 x.b,.int .u8 x.m,.slice la ll lc,.string x.p.nm,.int .i64 x.p.pr,.slice ca x.p.cs.length cc,.slice ua x.us.length uc] 50))=X at *;clear hBk hBx;have HMX:=qI (HM.out.keep HBX.out);have HPX:Hid (aE (ag (four N Ba Bd Bm) X) (.slice ca x.p.cs.length cc) x.p.cs):=HP.out.le (bg (λj hj hn=>⟨hn,HBX.out.block j hj⟩) HBX.out.size);have HUX:=qI (HU.out.below HBX.out);have HTX:Hid (∀ W,Apart (three Ba Bd Bm) X W->bE W):=λW ha=>HT.out W ((Apart.of_below HBX.out).trans ha)
  clear HP HU HT HK1 HX1;have HSK:Hid (∀ on,Calls Tryz.prog 34 #[.pointer (some ⟨Ba,0,none⟩),.int .i64 x.a,.bool on] X λe w'=>∃ f:Nat,e=.returned (ak f)/\dC w N Ba Bd Be Bm t n x e w'):=λon=>by
   refine (xE HMX.out x.a on).mono ?_;rintro e W ⟨f,ds',he,hal,hM',ha,hpn⟩;exact ⟨f,he,dC.old HM.out HBX.out ⟨f,⟨t.m,ds',t.hs⟩,he,⟨rfl,hal,λh=>absurd (h.symm.trans HK.out) (by decide),λ_=>List.Sublist.refl _⟩,⟨dk,n,by omega,hM'⟩,ha.wide (λ_ e=>.inr e),λbase _ hp=>hpn base hp⟩⟩
  refine (HSK.out true).mono ?_;rintro e W ⟨f,rfl,hr⟩;have HR:=qI hr;clear hr
  go_wp2
  go_ret;exact HR.out
 rcases two (x.kd.toList == [119,101,108,108]) with hk4|hk4
 ·go_enter Tryz.func13,Tryz.ntmps13
  go_wp2_with fail
  (try rw [<- hBx]);(try rw [<- hBk]);generalize ((w.alloc (.cells #[.pointer (some ⟨Bd,0,none⟩),.pointer (some ⟨Be,0,none⟩),.pointer (some ⟨Ba,0,none⟩)] 36)).alloc (.cells #[.string x.kd,.string x.s,.int .i64 x.a,.int .i64 x.b,.int .u8 x.m,.slice la ll lc,.string x.p.nm,.int .i64 x.p.pr,.slice ca x.p.cs.length cc,.slice ua x.us.length uc] 50))=X at *;clear hBk hBx;have HMX:=qI (HM.out.keep HBX.out);have HPX:Hid (aE (ag (four N Ba Bd Bm) X) (.slice ca x.p.cs.length cc) x.p.cs):=HP.out.le (bg (λj hj hn=>⟨hn,HBX.out.block j hj⟩) HBX.out.size);have HUX:=qI (HU.out.below HBX.out);have HTX:Hid (∀ W,Apart (three Ba Bd Bm) X W->bE W):=λW ha=>HT.out W ((Apart.of_below HBX.out).trans ha)
  clear HP HU HT HK1 HX1;have HSK:Hid (∀ on,Calls Tryz.prog 34 #[.pointer (some ⟨Ba,0,none⟩),.int .i64 x.a,.bool on] X λe w'=>∃ f:Nat,e=.returned (ak f)/\dC w N Ba Bd Be Bm t n x e w'):=λon=>by
   refine (xE HMX.out x.a on).mono ?_;rintro e W ⟨f,ds',he,hal,hM',ha,hpn⟩;exact ⟨f,he,dC.old HM.out HBX.out ⟨f,⟨t.m,ds',t.hs⟩,he,⟨rfl,hal,λh=>absurd (h.symm.trans HK.out) (by decide),λ_=>List.Sublist.refl _⟩,⟨dk,n,by omega,hM'⟩,ha.wide (λ_ e=>.inr e),λbase _ hp=>hpn base hp⟩⟩
  refine (HSK.out false).mono ?_;rintro e W ⟨f,rfl,hr⟩;have HR:=qI hr;clear hr
  go_wp2
  go_ret;exact HR.out
 go_enter Tryz.func13,Tryz.ntmps13
 go_wp2_with fail
 (try rw [<- hBx]);(try rw [<- hBk]);generalize ((w.alloc (.cells #[.pointer (some ⟨Bd,0,none⟩),.pointer (some ⟨Be,0,none⟩),.pointer (some ⟨Ba,0,none⟩)] 36)).alloc (.cells #[.string x.kd,.string x.s,.int .i64 x.a,.int .i64 x.b,.int .u8 x.m,.slice la ll lc,.string x.p.nm,.int .i64 x.p.pr,.slice ca x.p.cs.length cc,.slice ua x.us.length uc] 50))=X at *;clear hBk hBx;have HMX:=qI (HM.out.keep HBX.out);have HPX:Hid (aE (ag (four N Ba Bd Bm) X) (.slice ca x.p.cs.length cc) x.p.cs):=HP.out.le (bg (λj hj hn=>⟨hn,HBX.out.block j hj⟩) HBX.out.size);have HUX:=qI (HU.out.below HBX.out);have HTX:Hid (∀ W,Apart (three Ba Bd Bm) X W->bE W):=λW ha=>HT.out W ((Apart.of_below HBX.out).trans ha)
 clear HP HU HT HK1 HX1;have HPR:=qI (K0 HMX.out HUX.out HFU.out hm1 hm2 hn HTX.out);refine HPR.out.mono ?_;rintro e W ⟨qs,g,nv,rfl,htx,_,_,⟨dk',n',⟨hn',hu'⟩,hM'⟩,ha⟩;have HR:Hid (dC w N Ba Bd Be Bm t n x (.returned .nilIface) W):=dC.old HM.out HBX.out (dC.three (f:=0) (t':=⟨t.m,t.ds,bX t.hs ((qs.take g).map Pd.nm)⟩) HMX.out rfl ⟨rfl,Ol.alike_refl _,λh=>absurd (h.symm.trans HK.out) (by decide),λ_=>km _ _⟩ (by omega) hM' hu' ha);obtain ⟨na,nc,hnv,_⟩:=htx;subst hnv;clear hM' hu' ha HPR
 go_wp2
 go_ret;exact HR.out
end
end
section
open RowKit Shelf
open Qos (Nd Ct Pd nd ct pd ah)
open Sv (Gv Hd gv hd)
open Dvs (Dv dv aT)
section
variable {Ba Bd Be Bm:Nat} {t:Ol.St} {dk:Dk} {n:Nat} {w:World}
theorem K8 {c:Ol.Cf} (h:Ol.b6 c=0):0<=(Ol.cM c).nb:=by
 unfold Ol.b6 at h
 repeat' (split at h;· first|cases h|(rename_i h1;exact absurd h h1))
 all_goals (show 0<=c.nb;omega)
theorem K9 {W:World} (ht:bE w) (hl:w.heap.size<=Ba/\w.heap.size<=Bd/\w.heap.size<=Bm) (hb:Below w.heap.size w W):bE W/\aB w (ag (four iC Ba Bd Bm) W)/\∀ W',Apart (three Ba Bd Bm) W W'->bE W':=by
 refine ⟨ht.below hb,kY hb rfl (λj hj=>?_),λW' ha=>?_⟩
 ·rcases hj with e|e|e|e
  ·exact e.elim
  all_goals omega
 ·exact ht.below (nw hb hb.size ha (λj hj=>by rcases hj with e|e|e <;> omega))
theorem La {V V2:World} {o:Obj} {Bk:Nat} {p:Option Addr} (hM:av V iC Ba Bd Be Bm t dk n) (hp:cz w.heap.size V Ba) (hl:(w.heap.size<=Ba/\w.heap.size<=Bd/\w.heap.size<=Bm)/\Bk≠Ba/\Bk≠Bd/\Bk≠Bm) (hb:Below w.heap.size w V) (hk:V.heap[Bk]?=some o) (ha:Apart (λj=>three Ba Bd Bm j\/fv V Ba j) V V2) (ho:V.cell? ⟨Bk,0,none⟩=some (.pointer p)):Below w.heap.size w V2/\V2.heap[Bk]?=some o:=by
 refine ⟨nw hb hb.size ha (λj hj=>?_),(ha.block Bk (gS hk).1 ?_).trans hk⟩
 ·rcases hj with (e|e|e)|e
  ·omega
  ·omega
  ·omega
  ·exact e.base hp
 ·rintro ((e|e|e)|e)
  ·exact hl.2.1 e
  ·exact hl.2.2.1 e
  ·exact hl.2.2.2 e
  ·obtain ⟨_,⟨s,hs⟩,_⟩:=hM.blk e;rw [ho] at hs;cases hs
theorem Lb {x:Ac} {f:Nat} {t':Ol.St} (h:Ol.Inv t) (hr:Ol.room t.m (t.hs.map Hd.pod)=true) (hs:Stepped t x f t'):Ol.room t'.m (t'.hs.map Hd.pod)=true:=by
 rw [hs.m];cases e:jc x with
 | true=>rw [(hs.inn e).2.1];exact Ol.mN hr
 | false=>exact Ol.FC h (hs.out e) hr
end
end
section
open RowKit Shelf
open Qos (Nd Ct Pd nd ct pd ah)
open Dvs (Dv dv nth)
attribute [local go_sem] Oper.semAt_some
def eZ (ds:List Dv) (kd:ByteArray) (l:List Int) (k:Nat):Nat:=Ol.cr ds kd (l.take k)
theorem Lc {ds:List Dv} {kd:ByteArray} {l:List Int} {k:Nat} (h:k<l.length):(eZ ds kd l (k+1):Int)=eZ ds kd l k+(if (dv ds (nth l k).toNat).kind=kd then 1 else 0):=by
 unfold eZ Ol.cr;rw [Qa h,List.countP_append];have e:nth l k=l[k]:=by simp [nth,h]
 rw [e]
 by_cases hk:(dv ds l[k].toNat).kind=kd
 ·simp [hk]
 ·simp [hk]
theorem Ld {ds:List Dv} {kd:ByteArray} {l:List Int} (k:Nat):eZ ds kd l k<=l.length:=Q5 List.countP_le_length (List.length_take_le' ..)
theorem Le (ds:List Dv) (kd:ByteArray) (l:List Int):eZ ds kd l l.length=Ol.cr ds kd l:=by unfold eZ;rw [Qh]
def g7 (ns:List Nd) (k:Nat):Int:=((ns.take k).map Nd.many).sum
theorem xF {ns:List Nd} {k:Nat} (h:k<ns.length):g7 ns (k+1)=g7 ns k+(nd ns k).many:=by
 unfold g7;rw [Qa h,Qj,List.sum_append];simp [nd,h]
theorem Lf {ns:List Nd} {N:Nat} (h:∀ n∈ns,0<=n.many/\n.many<=N):∀ k,k<=ns.length->0<=g7 ns k/\g7 ns k<=N*k:=by
 intro k
 induction k with
 | zero=>intro _;exact ⟨Int.le_refl _,by simp [g7]⟩
 | succ k ih=>
  intro hk;have h1:=ih (by omega);have h2:=h (nd ns k) (Sv.sZ (by omega));rw [xF (by omega)];have e:(N:Int)*((k+1:Nat):Int)=N*k+N:=by rw [Int.natCast_add,Int.mul_add];simp
  omega
theorem Lg (v:Value) (g o:Nat) (ds:List Dv) (x:Ct) (na:Option Addr) (nc cp:Nat) (ia:Option Addr) (ic:Nat) (l:List Int) (fresh:Bool) (w:World) (hd:bS w v g o ds) (hn:bc w (.slice na x.ds.length nc) x.ds) (hl:bj w (.slice ia l.length ic) l) (hk:Ol.j9 ds x.ds l) (hw:fresh=true->∀ j∈l,Ol.fq ds j.toNat) (hr:∀ k,k<l.length->0<=nth l k/\nth l k<ds.length) (h16:l.length<=16) (hd16:ds.length<=16) (hn3:x.ds.length<=100) :
  Calls Tryz.prog 20 #[v,.agg #[.string x.nm,.int .i64 x.am,.int .i64 x.ab,.int .i64 x.cm,.int .i64 x.cb,.slice na x.ds.length nc],.agg #[.int .u64 (cp:Nat),.slice ia l.length ic],.bool fresh] w λe w'=>e=.returned (.bool true)/\Below w.heap.size w w':=by
 obtain ⟨dao,dc,rfl,hdr⟩:=hd;obtain ⟨nao,nc',hnv,_,hnr⟩:=hn;have hna:nao=na:=by injection hnv with e;exact e.symm
 obtain ⟨iao,ic',hiv,_,hir⟩:=hl;have hia:iao=ia:=by injection hiv with e;exact e.symm
 subst hna hia;have HDR:=qI hdr;have HNR:=qI hnr;have HIR:=qI hir;have HK:=qI hk;have HW:=qI hw;have HR:=qI hr;have HMI:=qI (Lf (ns:=x.ds) (N:=16) (λn hn=>by
  have:=hk.1 n hn
  have:(Ol.cr ds n.kind l)<=l.length:=List.countP_le_length
  omega))
 clear hdr hnr hir hk hw hr hnv hiv;obtain ⟨CB,hCB⟩:∃ b:Obj,b=.cells #[.string x.nm,.int .i64 x.am,.int .i64 x.ab,.int .i64 x.cm,.int .i64 x.cb,.slice nao x.ds.length nc] 63:=⟨_,rfl⟩;obtain ⟨GB,hGB⟩:∃ b:Obj,b=.cells #[.int .u64 (cp:Nat),.slice iao l.length ic] 69:=⟨_,rfl⟩;have HBX:Hid (Below w.heap.size w ((w.alloc CB).alloc GB)):=((Q0 w.heap.size w).alloc (lR) CB).alloc (by simp) GB;obtain ⟨Bc,hBc⟩:∃ B,B=w.heap.size:=⟨_,rfl⟩;obtain ⟨Bg,hBg⟩:∃ B,B=w.heap.size+1:=⟨_,rfl⟩;have hk1:((w.alloc CB).alloc GB).heap[Bc]?=some CB:=by rw [hBc];exact bx (aG w CB rfl) _
 have hx1:((w.alloc CB).alloc GB).heap[Bg]?=some GB:=by rw [hBg];exact aG (w.alloc CB) GB (by simp)
 have HC:=qI hk1;have HG:=qI hx1;clear hk1 hx1;subst hCB hGB
 go_enter Tryz.func20,Tryz.ntmps20
 go_wp2_with fail
 (try rw [<- hBg]);(try rw [<- hBc]);generalize ((w.alloc (.cells #[.string x.nm,.int .i64 x.am,.int .i64 x.ab,.int .i64 x.cm,.int .i64 x.cb,.slice nao x.ds.length nc] 63)).alloc (.cells #[.int .u64 (cp:Nat),.slice iao l.length ic] 69))=X at *;clear hBc hBg;have hcX:Bc<X.heap.size:=(gS HC.out).1;have hgX:Bg<X.heap.size:=(gS HG.out).1;have HE:Hid (∀ W,Below X.heap.size X W->W.cell? ⟨Bc,5,none⟩=some (.slice nao x.ds.length nc)/\W.cell? ⟨Bg,1,none⟩=some (.slice iao l.length ic)/\Below w.heap.size w W):=λW hb=>⟨ad ((hb.block Bc hcX).trans HC.out) 5,ad ((hb.block Bg hgX).trans HG.out) 1,HBX.out.trans (hb.mono HBX.out.size)⟩
 clear HC HG hcX hgX
 go_loopw [9,10] (λal i W=>∃ k:Nat,k<=x.ds.length/\al=.int .i64 (g7 x.ds k)/\i=.int .i64 k/\Below X.heap.size X W) (λ_ i _=>x.ds.length - (intOf i).toNat)
 case atStart=>exact ⟨0,Nat.zero_le _,rfl,rfl,Q0 _ _⟩
 case round=>
  obtain ⟨i,hil,rfl,rfl,hbw⟩:=hrel;have HBW:=qI hbw;obtain ⟨y5,y1,_⟩:=HE.out wr hbw;have hmi:=HMI.out i hil;clear hbw
  by_cases hli:i<x.ds.length
  ·obtain ⟨nb,no,hnb,hnl,hnc⟩:=HNR.out (by omega);subst hnb;obtain ⟨q0,q1⟩:=hnc i hli;have HQ0:=qI q0;have HQ1:=qI q1;have HMN:=qI (xF hli);have HKI:=qI (HK.out.1 (nd x.ds i) (Sv.sZ hli));have hmi2:=HMI.out (i+1) hli;clear q0 q1 hnc;generalize nd x.ds i=n at *;generalize g7 x.ds i=ma at *
   go_wp2_with fail
   clear y5 y1
   go_loopw [11,12] (λc j W=>∃ k:Nat,k<=l.length/\c=.int .i64 (eZ ds n.kind l k:Nat)/\j=.int .i64 k/\Below X.heap.size X W) (λ_ j _=>l.length - (intOf j).toNat)
   case atStart=>exact ⟨0,Nat.zero_le _,rfl,rfl,HBW.out⟩
   case round=>
    obtain ⟨j,hjl,rfl,rfl,hbz⟩:=hrel;have HBZ:=qI hbz;obtain ⟨y5,y1,hbww⟩:=HE.out wr hbz;have HBWW:=qI hbww;clear hbz hbww;have c0:=(HBWW.out.cell (p:=⟨nb,no+i*2,none⟩) hnl).trans HQ0.out;have c1:=(HBWW.out.cell (p:=⟨nb,no+i*2+1,none⟩) hnl).trans HQ1.out;have hkl:=Ld (ds:=ds) (kd:=n.kind) (l:=l) j
    by_cases hlj:j<l.length
    ·obtain ⟨ib,io,hib,hibl,hic⟩:=HIR.out (by omega);subst hib;obtain ⟨r1,r2⟩:=HR.out j hlj;obtain ⟨m,hm⟩:∃ m:Nat,nth l j=(m:Int):=⟨(nth l j).toNat,by omega⟩;have hml:m<ds.length:=by omega
     obtain ⟨hda,hdg,hdc⟩:=HDR.out (by omega);subst hda;obtain ⟨d0,d1,d2⟩:=hdc m hml;have HKN:=qI (Lc (ds:=ds) (kd:=n.kind) hlj);have HWE:Hid (fresh=true->(dv ds m).sick=false):=λhf=>by
      have:=HW.out hf (nth l j) (by simp [nth,hlj])
      rw [hm] at this;exact this
     rw [hm] at HKN;have i0:=(HBWW.out.cell (p:=⟨ib,io+j,none⟩) hibl).trans (hic j hlj);have hm':l.getD j 0=(m:Int):=hm;rw [hm'] at i0;have e0:=(HBWW.out.cell (p:=⟨g,o+m*3,none⟩) hdg).trans d0;have e1:=(HBWW.out.cell (p:=⟨g,o+m*3+1,none⟩) hdg).trans d1;have e2:=(HBWW.out.cell (p:=⟨g,o+m*3+2,none⟩) hdg).trans d2;have hmt:((m:Int)).toNat=m:=by omega
     rw [hmt] at HKN;clear hm hm' r1 r2 d0 d1 d2 hic hdc hmt;generalize dv ds m=d at *;obtain ⟨dkd,dno,dsi⟩:=d;dsimp only at *;generalize eZ ds n.kind l j=kp at *;have HBA:=qI (HBZ.out.alloc HBZ.out.size (.cells #[.string dkd,.int .i64 dno,.bool dsi] 87));have HBN:=qI ((Q0 wr.heap.size wr).alloc (lR) (.cells #[.string dkd,.int .i64 dno,.bool dsi] 87));have hbc5:=(HE.out _ HBA.out).1;have c0':=(HBN.out.cell (p:=⟨nb,no+i*2,none⟩) (Q1 hnl HBWW.out.size)).trans c0;have hsz1:=HBN.out.size;have z0:(wr.alloc (.cells #[.string dkd,.int .i64 dno,.bool dsi] 87)).cell? ⟨wr.heap.size,0,none⟩=some (.string dkd):=by simp
     have z2:(wr.alloc (.cells #[.string dkd,.int .i64 dno,.bool dsi] 87)).cell? ⟨wr.heap.size,2,none⟩=some (.bool dsi):=by simp
     rcases two fresh with hf|hf
     ·have hs0:=HWE.out hf;subst hf;subst hs0
      by_cases hkd:dkd=n.kind
      ·have HKQ:Hid ((eZ ds n.kind l (j+1):Int)=kp+1):=by unfold Hid;rw [HKN.out,if_pos hkd]
       subst hkd;clear HKN
       go_wp2
       go_quiet (fail)
       go_wp2
       go_roundw
       case rel=>exact ⟨j+1,by omega,by first|(rw [HKQ.out];done)|(rw [HKQ.out];go_num),by go_num,below_drewN HBA.out nq⟩
       case measure=>simp [intOf];omega
      ·have HKQ:Hid ((eZ ds n.kind l (j+1):Int)=kp):=by unfold Hid;rw [HKN.out,if_neg hkd,Int.add_zero]
       have hkn:=xD hkd;clear hkd HKN
       go_wp2
       go_quiet (fail)
       go_wp2
       go_roundw
       case rel=>exact ⟨j+1,by omega,by rw [HKQ.out],by go_num,below_drewN HBA.out nq⟩
       case measure=>simp [intOf];omega
     ·subst hf
      by_cases hkd:dkd=n.kind
      ·have HKQ:Hid ((eZ ds n.kind l (j+1):Int)=kp+1):=by unfold Hid;rw [HKN.out,if_pos hkd]
       subst hkd;clear HKN
       go_wp2
       go_quiet (fail)
       go_wp2
       go_roundw
       case rel=>exact ⟨j+1,by omega,by first|(rw [HKQ.out];done)|(rw [HKQ.out];go_num),by go_num,below_drewN HBA.out nq⟩
       case measure=>simp [intOf];omega
      ·have HKQ:Hid ((eZ ds n.kind l (j+1):Int)=kp):=by unfold Hid;rw [HKN.out,if_neg hkd,Int.add_zero]
       have hkn:=xD hkd;clear hkd HKN
       go_wp2
       go_quiet (fail)
       go_wp2
       go_roundw
       case rel=>exact ⟨j+1,by omega,by rw [HKQ.out],by go_num,below_drewN HBA.out nq⟩
       case measure=>simp [intOf];omega
    ·have hje:j=l.length:=by omega
     subst hje;have hal:=Le ds n.kind l;have HKE:Hid ((eZ ds n.kind l l.length:Int)=n.many):=by unfold Hid;rw [hal];exact HKI.out
     clear hal;generalize eZ ds n.kind l l.length=kp at *;have hke:(kp:Int)=n.many:=HKE.out;rw [<- hke] at c1 HMN;clear hke HKE HKI
     go_wp2
     go_roundw
     case rel=>exact ⟨i+1,by omega,by first|(rw [HMN.out];done)|(rw [HMN.out];go_num),by go_num,HBZ.out⟩
     case measure=>simp [intOf];omega
  ·have hie:i=x.ds.length:=by omega
   subst hie;have HSM:Hid (g7 x.ds x.ds.length=(l.length:Int)):=by
    unfold Hid g7;rw [Qh];exact HK.out.2
   rw [HSM.out]
   go_wp2
   go_ret;exact ⟨rfl,(HE.out _ HBW.out).2.2⟩
end
section
open RowKit Shelf
open Qos (Nd Ct Pd nd ct pd ah)
open Sv (Gv Hd gv hd)
open Dvs (Dv dv nth)
section
variable {N:Nat->Prop} {Ba Bd Be Bm:Nat} {t:Ol.St} {dk:Dk} {n:Nat} {w:World}
theorem Lh (h:av w N Ba Bd Be Bm t dk n):Calls Tryz.prog 19 #[.pointer (some ⟨Ba,0,none⟩)] w λe w'=>∃ a g c,e=.returned (.slice a t.ds.length c)/\bS w' (.slice a t.ds.length c) g 0 t.ds/\(0<t.ds.length->w.heap.size<=g)/\Below w.heap.size w w':=by
 obtain ⟨h1,hcalm,hcpu,hE,hab,hfr,hnl,htx,tb,b,tc,hv,pb,db,ao,pc,s,k1,k2,k3,k4,k5,k6,k7⟩:=h;have hp:ap w pb db ao pc t.ds s.us:=by rw [<- Ol.fI k4];exact k5.pool
 refine (wL Ba tb t.m Bd Be hv s.cp pb db ao pc t.ds s.us w k1 hp (Dvs.gH h1.devs)).mono ?_;rintro e w' ⟨v,rfl,hr,hb⟩;obtain ⟨ao,c,g,hv,h0,hc⟩:=hr;subst hv;refine ⟨ao,g,c,rfl,⟨ao,c,rfl,λhl=>⟨(h0 hl).1,(h0 hl).2.2,λk hk=>?_⟩⟩,λhl=>(h0 hl).2.1,hb⟩;rw [Qd];exact ⟨(hc k hk).1,(hc k hk).2.1,(hc k hk).2.2.1⟩
theorem Li {V V2:World} {v:Value} {g:Nat} {ds:List Dv} (hM:av w N Ba Bd Be Bm t dk n) (hb:Below w.heap.size w V) (hd:bS V v g 0 ds) (hg:0<ds.length->w.heap.size<=g) (ha:Apart (λj=>three Ba Bd Bm j\/fv V Ba j) V V2):bS V2 v g 0 ds:=by
 obtain ⟨ao,c,hv,hr⟩:=hd;refine ⟨ao,c,hv,λh0=>?_⟩;obtain ⟨r1,r2,r3⟩:=hr h0;have hgl:=hg h0;obtain ⟨⟨l1,l2,l3⟩,_⟩:=hM.lts;have hn:¬ (three Ba Bd Bm g\/fv V Ba g):=by
  rintro ((e|e|e)|e)
  ·omega
  ·omega
  ·omega
  ·have:=(hM.blk (hM.blkOld hb e)).1
   omega
 have hh:=ha.block g r2 hn;exact ⟨r1,Q1 r2 ha.size,λk hk=>⟨(fP hh _).trans (r3 k hk).1,(fP hh _).trans (r3 k hk).2.1,(fP hh _).trans (r3 k hk).2.2⟩⟩
end
theorem Lj {ds:List Dv} {ns:List Nd} {l:List Int} (h:Ol.j9 ds ns l) (hm:∀ n∈ns,n.many≠0):ns.length<=l.length:=by
 have key:∀ ns:List Nd,(∀ n∈ns,1<=n.many)->(ns.length:Int)<=(ns.map Nd.many).sum:=by
  intro ns
  induction ns with
  | nil=>intro _;exact Int.le_refl _
  | cons n r ih=>
   intro h;have h1:=ih λx hx=>h x (Qv _ hx)
   have h2:=h n List.mem_cons_self;rw [Qq,List.sum_cons,Qg];omega
 have h1:=key ns λn hn=>by
  have a:=h.1 n hn;have b:=hm n hn;omega
 have h2:=h.2;omega
structure xG (ds:List Dv) (hs:List Hd):Prop where
 few:hs.length<=12
 gs:∀ x∈hs,x.gs.length<=3/\x.gs.length=x.pod.cs.length
 one:∀ x∈hs,∀ j,j<x.gs.length->Ol.j9 ds (ct x.pod.cs j).ds (gv x.gs j).dv/\(gv x.gs j).dv.length<=16/\(ct x.pod.cs j).ds.length<=16/\∀ k,k<(gv x.gs j).dv.length->0<=nth (gv x.gs j).dv k/\nth (gv x.gs j).dv k<ds.length
 ds:ds.length<=16
theorem Lk {t t':Ol.St} (h:Ol.Inv t') (ha:Ol.Alike t.ds t'.ds):xG t.ds t'.hs:=by
 obtain ⟨a1,a2,_⟩:=Ol.bW.1 h.held;have hfew:=KW h;have hdv:=KX h;have hrg:=KV h;have hki:=Ol.FO h ha;have hd:=(Dvs.gH h.devs).1;rw [ha.1] at hd;refine ⟨a1,λx hx=>⟨hfew x hx,(a2 x hx).2.1⟩,λx hx j hj=>?_,hd⟩;have hg:gv x.gs j∈x.gs:=Sv.kR hj;have h16:=hdv x hx _ hg;have hk:=hki x hx j hj;have hn:=Ol.j7 (a2 x hx).1 _ (Sv.iU (show j<x.pod.cs.length by have:=(a2 x hx).2.1;omega));refine ⟨hk,h16,Q5 (Lj hk hn.1) h16,λk hk=>?_⟩
 have:=hrg x hx _ hg k hk
 rw [ha.1] at this;exact this
theorem Ll {t t':Ol.St} {x:Ac} {f:Nat} (h:Ol.Inv t) (hs:Stepped t x f t') (hf:f=0) (hi:jc x=true):∀ y∈t'.hs,y.pod.nm=x.p.nm->∀ g∈y.gs,∀ j∈g.dv,Ol.fq t.ds j.toNat:=by
 obtain ⟨e1,e2,_⟩:=hs.inn hi;rw [e2];exact Ol.FS h (e1.symm.trans hf)
end
