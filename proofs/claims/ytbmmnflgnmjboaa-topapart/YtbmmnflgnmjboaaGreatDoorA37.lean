import Derived.Test.YtbmmnflgnmjboaaGreatDoorA33
import Derived.Test.YtbmmnflgnmjboaaGreatDoorA36
import Derived.Test.YtbmmnflgnmjboaaGreatDoorA22
import Derived.Test.YtbmmnflgnmjboaaGreatDoorA34
set_option maxRecDepth 100000
set_option maxHeartbeats 16000000
open Go.Proofs.Tryz
namespace Go.Proofs.YtbmmnflgnmjboaaGreatDoor
section
open RowKit Shelf
open Ost (Cpu af)
open Qos (Nd Ct Pd nd ct pd ag)
open Sv (Gv Hd gv hd gsF aE aI)
open Dvs (Dv dv aX)
attribute [local go_sem] Oper.semAt_some
theorem nA {B:Nat} {w W W':World} {K:Nat->Prop} (hb:Below B w W) (hB:B<=W.heap.size) (ha:Apart K W W') (hK:∀ j,K j->B<=j):Below B w W':=
 ⟨ha.os.trans hb.os,ha.tape.trans hb.tape,ha.output.trans hb.output,Q5 hb.size ha.size,λj hj=>(ha.block j (by omega) (λe=>by have:=hK j e;omega)).trans (hb.block j hj)⟩
theorem MN (c:Ol.Cf) (v1 v2:Value) (g o:Nat) (w:World) (h1:eD w v1 c.l) (h2:cO w v2 g o c.ds):Calls prog 9 #[kh c v1 v2] w λe w'=>Ans e/\Below w.heap.size w w':=by
 obtain ⟨ca,cc,Hc⟩:∃ ca cc,v1=.slice ca c.l.length cc:=by
  rcases id h1 with ⟨hl,ao,q,rfl⟩|⟨b,o,q,rfl,_⟩
  ·exact ⟨ao,q,by rw [hl];rfl⟩
  ·exact ⟨_,q,rfl⟩
 obtain ⟨da,dc,Hb,hr⟩:=h2;subst Hc Hb;have HR:=qI hr;clear h1 hr;unfold kh;generalize c.l.length=cl at *;have Ha:=qI ((Q0 w.heap.size w).alloc (lR) (.cells #[.slice ca cl cc,.int .u64 (c.keep:Nat),.int .i64 c.nb,.slice da c.ds.length dc,.int .i64 c.pol] 27));have He:=qI (aF w (.cells #[.slice ca cl cc,.int .u64 (c.keep:Nat),.int .i64 c.nb,.slice da c.ds.length dc,.int .i64 c.pol] 27) rfl)
 by_cases h70:70<cl
 ·go_enter func9,ntmps9
  go_wp2
  go_ret;exact ⟨⟨_,rfl⟩,Ha.out⟩
 have Hi:decide (70<(cl:Int))=false:=Q7 (by omega)
 by_cases h20:20<c.ds.length
 ·go_enter func9,ntmps9
  go_wp2
  go_ret;exact ⟨⟨_,rfl⟩,Ha.out⟩
 have Hh:decide (20<(c.ds.length:Int))=false:=Q7 (by omega);have Hf:c.ds.length<=20:=by omega
 clear h70 h20
 go_enter func9,ntmps9
 go_wp2_with fail
 generalize w.alloc (.cells #[.slice ca cl cc,.int .u64 (c.keep:Nat),.int .i64 c.nb,.slice da c.ds.length dc,.int .i64 c.pol] 27)=X at *
 go_loopw [3] (λi wr=>∃ k:Nat,k<=c.ds.length/\i=.int .i64 k/\wr=X) (λi _=>c.ds.length - (intOf i).toNat)
 case atStart=>exact ⟨0,Nat.zero_le _,rfl,rfl⟩
 case round=>
  obtain ⟨k,hk,rfl,rfl⟩:=hrel;have x3:wr.cell? ⟨w.heap.size,3,none⟩=some (.slice da c.ds.length dc):=ad He.out 3
  by_cases hlt:k<c.ds.length
  ·obtain ⟨rfl,Hg,hc⟩:=HR.out (by omega);have y0:wr.cell? ⟨g,o+k*3,none⟩=some (.string (dv c.ds k).kind):=(Ha.out.cell (p:=⟨g,o+k*3,none⟩) Hg).trans (hc k hlt).1;clear hc;generalize (dv c.ds k).kind=kd at *
   by_cases h30:30<kd.size
   ·go_wp2
    go_ret;exact ⟨⟨_,rfl⟩,Ha.out⟩
   ·have Hj:decide (30<(kd.size:Int))=false:=Q7 (by omega);clear h30
    go_wp2
    go_roundw
    case rel=>exact ⟨k+1,by omega,by go_num,trivial⟩
    case measure=>simp [intOf];omega
  ·go_wp2
   go_ret;exact ⟨⟨_,rfl⟩,Ha.out⟩
end
section
open RowKit Shelf
open Ost (Cpu af)
open Qos (Nd Ct Pd nd ct pd ag)
open Sv (Gv Hd gv hd gsF aE aI)
open Dvs (Dv dv aX)
open S1 (Mx)
attribute [local go_sem] Oper.semAt_some
theorem sK {N:Nat->Prop} {Ba Bd Be Bm:Nat} {t:Ol.St} {dk:Dk} {n:Nat} {w:World} (h:aA w N Ba Bd Be Bm t dk n):Calls prog 15 #[.pointer (some ⟨Ba,0,none⟩)] w λe w'=>∃ a c,e=.returned (.slice a t.hs.length c)/\aQ (fresh w.heap.size w') (.slice a t.hs.length c) t.hs/\Below w.heap.size w w':=by
 obtain ⟨h1,Ha,Hb,hE,Hg,Hf,Hc,He,tb,b,tc,hv,pb,db,ao,pc,s,k1,k2,k3,k4,k5,k6,k7⟩:=h;obtain ⟨a1,a2,a3⟩:=Ol.bY.1 h1.held;exact LF Ba tb t.m Bd Be hv s.cp pb t.hs w k1 (k2.le (cB _ _)) a2 (by omega)
theorem MO {t:Ol.St} {p:Pd} (h:(Ol.aK t p).1=0):cA (Ol.aK t p).2 p.nm=true:=by
 rcases two (cA (Ol.aK t p).2 p.nm) with e|e
 ·exact e
 ·exfalso
  have h1:=Ol.wD h;have h2:=Ol.xx h;rw [zT e] at h1;rw [h1] at h2;omega
theorem MP {W:World} {b:Nat} {nm:ByteArray} (h:W.heap[b]?=some (.cells #[.string nm,.int .i64 0,.int .i64 0,.int .i64 0,.int .i64 0,.slice none 0 0] 63 (0,0))):aD W (.slice (some ⟨b,0,none⟩) 1 1) [⟨nm,0,0,0,0,[]⟩]:=by
 have hl:b<W.heap.size:=(gS h).1;refine ⟨_,_,rfl,⟨lR,by decide⟩,λ_=>⟨b,0,λ_=>.slice none 0 0,rfl,hl,λk hk=>?_⟩⟩;have Ha:k=0:=by simp at hk;exact hk
 subst Ha;refine ⟨λj hj=>?_,⟨none,0,rfl,by simp [ct],λh=>by simp [ct] at h⟩⟩
 have:=ad h j
 simp only [Nat.zero_mul,Qd];rw [this]
 have:j=0\/j=1\/j=2\/j=3\/j=4\/j=5:=by omega
 rcases this with rfl|rfl|rfl|rfl|rfl|rfl <;> rfl
theorem MQ {W:World} {b:Nat} (h:W.heap[b]?=some (.cells #[.int .i64 0,.int .i64 0,.int .i64 0] 84 (0,0))):eD W (.slice (some ⟨b,0,none⟩) 1 1) [⟨0,0,0⟩]:=by
 refine .inr ⟨b,0,1,rfl,λk hk=>?_⟩;have hk0:k=0:=by simp at hk;exact hk
 subst hk0;exact ⟨ad h 0,ad h 1,ad h 2⟩
abbrev iG:Nat->Prop:=λ_=>False
abbrev gY:=λ(x0 x1 x2:Nat)=>(.cells #[.pointer (some ⟨x0,0,none⟩),.pointer (some ⟨x1,0,none⟩),.pointer (some ⟨x2,0,none⟩)] 36:Obj)
abbrev nB:=(.cells #[.string ⟨#[120]⟩,.int .i64 0,.int .i64 0,.int .i64 0,.int .i64 0,.slice none 0 0] 63:Obj)
abbrev sL:=(.cells #[.int .i64 0,.int .i64 0,.int .i64 0] 84:Obj)
theorem MR (w:World) (ht:bH w) (hm:Mx w):Calls prog 8 #[] w λe w'=>e=.returned (.bool true)/\Below w.heap.size w w':=by
 have Hi:=qI ((Q0 w.heap.size w).alloc (lR) (sL));have HR:=qI (aF w (sL) rfl);have HT:=qI ht;have HM:=qI hm;have HZ:0<w.heap.size:=ht.2;clear ht hm
 go_enter func8,ntmps8
 go_wp2_with fail
 generalize w.alloc (sL)=X at *;refine (zy Ol.wC (.slice (some ⟨w.heap.size,0,none⟩) 1 1) (.slice none 0 0) 0 0 X (MQ HR.out) ⟨none,0,rfl,λh=>by simp [Ol.wC] at h⟩ (by decide) (HT.out.below Hi.out) (HM.out.below Hi.out)).mono ?_;rintro e W1 ⟨Hl,Hb,Hf⟩;clear Hl;obtain ⟨Ba,Bd,Be,Bm,rfl,HC,l1,l2,l3,l4⟩:=Hb Ol.Ii;have hX:w.heap.size<=X.heap.size:=Hi.out.size;have HF:Hid (Below w.heap.size w W1):=Hi.out.trans (Hf.mono hX);have Hp:=qI HC;have h3:∀ j,three Ba Bd Bm j->w.heap.size<=j:=λj hj=>by
  rcases hj with e|e|e <;> omega
 have H3:=qI h3;have HP:Hid (¬ three Ba Bd Bm 0):=λe=>by have:=h3 _ e;omega
 clear Hb Hf HC h3;have HA:=qI (HF.out.alloc HF.out.size (gY Bd Be Ba));have Hz:=qI ((Q0 W1.heap.size W1).alloc (lR) (gY Bd Be Ba));have HB:=qI (aF W1 (gY Bd Be Ba) rfl);have HX:Hid ((W1.alloc (gY Bd Be Ba)).heap.size=W1.heap.size+1):=by unfold Hid;simp
 have x2:(W1.alloc (gY Bd Be Ba)).cell? ⟨W1.heap.size,2,none⟩=some (.pointer (some ⟨Ba,0,none⟩)):=ad HB.out 2
 go_upto_region 4 with fail
 generalize W1.alloc (gY Bd Be Ba)=Y at *;have Hj:=qI (HA.out.alloc HA.out.size (nB));have HL:=qI (Hz.out.alloc Hz.out.size (nB));have HY:=qI (aF Y (nB) rfl);have Hv:=qI (bg HB.out (nB))
 go_wp2_with fail
 clear x2;generalize Y.alloc (nB)=Z at *;have lba:Ba<W1.heap.size:=by
  obtain ⟨_,_,_,_,_,_,_,_,_,_,_,_,_,_,_,_,_,k1,_⟩:=Hp.out;exact k1.lt
 obtain ⟨lbe,lbd,lbm⟩:=Hp.out.eng.lt;have HQ:=HX.out;have Hq:=qI (zX iG Ba Bd Be Bm ⟨Ol.cL Ol.wC,Ol.wC.ds,[]⟩ Dk.fresh 0 Ol.wP (.slice (some ⟨Y.heap.size,0,none⟩) 1 1) Z (Hp.out.keep HL.out) (MP (by rw [bJ (by rintro (e|e|e|e) <;> first|exact e|omega)];exact HY.out)) (HT.out.below Hj.out) (by omega) (λl hl=>by
  have:l=[]:=by simpa using hl
  subst this;exact zG (l:=[]) (by simp)))
 unfold bV at Hq;clear HQ;refine Hq.out.mono ?_;clear Hq;rintro e W4 ⟨rfl,⟨dk4,n4,Hu,Ho⟩,Hh⟩;have Ha:(Ol.aK ⟨Ol.cL Ol.wC,Ol.wC.ds,[]⟩ Ol.wP).1=0:=Ol.Ij;have Hr:=qI (MO Ha);have Hn:Hid ((Ol.aK ⟨Ol.cL Ol.wC,Ol.wC.ds,[]⟩ Ol.wP).2.length=1):=Ol.xx Ha;have Hg:Hid (Ol.fk (Ol.aK ⟨Ol.cL Ol.wC,Ol.wC.ds,[]⟩ Ol.wP).2 Ol.wP.nm=[]):=Ol.wD Ha;have HU:n4<=36:=by
  have h1:=yT (au []) (au (Ol.aK ⟨Ol.cL Ol.wC,Ol.wC.ds,[]⟩ Ol.wP).2);have h2:=rY Ho.inv.held;dsimp only at Hu h2;omega
 rw [Ha];generalize (Ol.aK ⟨Ol.cL Ol.wC,Ol.wC.ds,[]⟩ Ol.wP).2=HW at *;have Hx:=qI Ho;have Hs:=qI (nA Hj.out Hj.out.size Hh H3.out);have Hm:Hid (∀ W,Apart (three Ba Bd Bm) Z W->bH W):=λW hW=>Ml (HT.out.below Hj.out) hW HP.out
 have HI:=qI Hh;have Hw:Hid (¬ three Ba Bd Bm W1.heap.size):=λe=>by rcases e with e|e|e <;> omega
 have hZ:W1.heap.size<Z.heap.size:=(gS Hv.out).1;have HE:=qI ((Hh.block W1.heap.size hZ Hw.out).trans Hv.out);have x2:W4.cell? ⟨W1.heap.size,2,none⟩=some (.pointer (some ⟨Ba,0,none⟩)):=ad HE.out 2;rw [show ar (((0:Nat)):Int)=.nilIface from rfl];clear Ha Hu Ho Hh
 go_wp2_with fail
 refine (sK Hx.out).mono ?_;rintro e W5 ⟨a5,c5,rfl,_,Hc⟩;dsimp only;rw [Hn.out];have Ht:=qI (Hs.out.trans (Hc.mono Hs.out.size));have HO:=qI (HI.out.trans (Apart.of_below Hc));have HS:=qI (Hx.out.keep Hc);have H0:=Hc.size;have HW:=HI.out.size;have HH:=qI ((Hc.block W1.heap.size (by omega)).trans HE.out);have x2':W5.cell? ⟨W1.heap.size,2,none⟩=some (.pointer (some ⟨Ba,0,none⟩)):=ad HH.out 2;clear Hc x2;have He:=qI (zU iG Ba Bd Be Bm _ dk4 n4 Ol.wP.nm W5 HS.out (by omega) λW hW=>Hm.out W (HO.out.trans hW));dsimp only at He;rw [Hr.out,Hg.out] at He;unfold Ol.wP at He;dsimp only at He
 go_wp2_with fail
 refine He.out.mono ?_;rintro e W6 ⟨rfl,⟨dk6,n6,HK,HG⟩,Hk⟩;rw [show ar (((if True then 0 else 6:Nat)):Int)=.nilIface from rfl];have HJ:=qI HG;have HD:=qI (nA Ht.out Ht.out.size Hk H3.out);have HV:=qI ((Hk.block W1.heap.size (by omega) Hw.out).trans HH.out);have x2'':W6.cell? ⟨W1.heap.size,2,none⟩=some (.pointer (some ⟨Ba,0,none⟩)):=ad HV.out 2;clear HK HG Hk x2' He
 go_wp2_with fail
 refine (sK HJ.out).mono ?_;rintro e W7 ⟨a7,c7,rfl,_,Hy⟩;dsimp only;have HN:=qI (HD.out.trans (Hy.mono HD.out.size));clear Hy
 go_wp2
 go_ret;exact ⟨rfl,HN.out⟩
end
section
open RowKit Shelf
open Qos (Nd Ct Pd nd ct pd ag)
open Sv (Gv Hd gv hd gsF aE aI)
attribute [local go_sem] Oper.semAt_some
theorem MS (t:Ol.St) (p:Pd):((Ol.aK t p).1≠0/\(Ol.aK t p).2=t.hs)\/((Ol.aK t p).1=0/\∃ gs,(Ol.aK t p).2=Ol.bE t.hs ⟨p,gs⟩):=by
 unfold Ol.aK
 split
 ·rename_i h;exact .inl ⟨h,rfl⟩
 split
 ·exact .inl ⟨by simp,rfl⟩
 split
 ·exact .inl ⟨by simp,rfl⟩
 split
 ·exact .inl ⟨by simp,rfl⟩
 split
 ·rename_i h;exact .inl ⟨h,rfl⟩
 split
 ·exact .inl ⟨by simp,rfl⟩
 ·exact .inr ⟨rfl,_,rfl⟩
open Classical in
theorem MT (hs:List Hd) (i:Nat) (x:Hd):dJ (au hs) (au (hs.take i++x :: hs.drop i))<=x.gs.length:=by
 have e:au (hs.take i++x :: hs.drop i)=au (hs.take i)++((List.range x.gs.length).map (iA x)++au (hs.drop i)):=by
  unfold au;rw [List.flatMap_append,List.flatMap_cons]
 have h1:=ph (sH (List.take_sublist i hs));have h2:=ph (sH (List.drop_sublist i hs));unfold dJ at h1 h2 ⊢;rw [e,List.filter_append,List.filter_append,Q2,Q2,h1,h2]
 have:=List.length_filter_le (λr=>decide (r ∉ au hs)) ((List.range x.gs.length).map (iA x))
 rw [Q9,List.length_range] at this;omega
theorem MU {t:Ol.St} (h:Ol.Inv t) (p:Pd):dJ (au t.hs) (au (Ol.aK t p).2)<=3:=by
 rcases MS t p with h1|⟨_,gs,h1⟩
 ·rw [h1.2,ph λ_ h=>h];omega
 ·have hi:=(Ol.Gt h p).held;have hi:aE (Ol.aK t p).2=0:=hi;rw [h1] at hi ⊢;have hx:(⟨p,gs⟩:Hd)∈Ol.bE t.hs ⟨p,gs⟩:=by unfold Ol.bE;simp
  obtain ⟨_,a2,_⟩:=Ol.bY.1 hi;obtain ⟨b1,b2,_⟩:=a2 _ hx;have b3:=(Sv.fE b1).2.2.1
  have:=MT t.hs (Ol.cd t.hs p.nm) ⟨p,gs⟩
  unfold Ol.bE;dsimp only at this b2 b3 ⊢;omega
section
variable {N:Nat->Prop} {Ba Bd Be Bm:Nat} {t:Ol.St} {dk:Dk} {n:Nat} {w:World}
theorem MV {p:Pd} {cv:Value} (hM:aA w N Ba Bd Be Bm t dk n) (hp:aD (ah (four N Ba Bd Bm) w) cv p.cs) (ht:bH w) (hn:n+36<=1000):Calls prog 23 #[.pointer (some ⟨Ba,0,none⟩),bV p cv] w λe w'=>e=.returned (ar ((Ol.aK t p).1:Nat))/\(∃ dk' n',(n'<=n+3/\eX w w' Ba)/\aA w' N Ba Bd Be Bm ⟨t.m,t.ds,(Ol.aK t p).2⟩ dk' n')/\Apart (three Ba Bd Bm) w w':=by
 have Hf:=(Ol.bY.1 hM.inv.held).1;refine (zX N Ba Bd Be Bm t dk n p cv w hM hp ht hn λl hl=>?_).mono ?_
 ·have Ha:l.length=t.hs.length:=by rw [<- hl,Q9]
  exact My (by rw [Ha];unfold Ol.cd;exact List.countP_le_length) (by omega)
 ·rintro e w' ⟨rfl,⟨dk',n',⟨He,Hb⟩,Hc⟩,ha⟩;exact ⟨rfl,⟨dk',n',⟨by have:=MU hM.inv p;omega,Hb⟩,Hc⟩,ha⟩
theorem MW (h:aA w N Ba Bd Be Bm t dk n):Calls prog 18 #[.pointer (some ⟨Ba,0,none⟩)] w λe w'=>(∃ s,Ol.left t.m t.ds t.hs=some s/\e=.returned (.int .u64 (s.cp:Nat)))/\w'=w:=by
 obtain ⟨h1,Ha,Hb,hE,Hg,Hf,Hc,He,tb,b,tc,hv,pb,db,ao,pc,s,k1,k2,k3,k4,k5,k6,k7⟩:=h;have x8:w.cell? ⟨Ba,8,none⟩=some (.int .u64 s.cp):=ad k1 8;have HL:=qI k4;clear h1 Ha Hb hE Hg Hf Hc He k1 k2 k3 k4 k5 k6 k7
 go_enter func18,ntmps18
 go_wp2
 go_ret;exact ⟨⟨s,HL.out,rfl⟩,rfl⟩
end
end
section
open RowKit Shelf
open Ost (Cpu af)
open Qos (Nd Ct Pd nd ct pd ag)
open Sv (Gv Hd gv hd gsF aE aI)
open Dvs (Dv dv aX)
theorem MX {t:Ol.St} (h:Ol.Inv t):∀ x∈t.hs,x.gs.length<=3:=λx hx=>by
 obtain ⟨_,a2,_⟩:=Ol.bY.1 h.held;obtain ⟨b1,b2,_⟩:=a2 x hx
 have:=(Sv.fE b1).2.2.1
 omega
theorem MY {t:Ol.St} (h:Ol.Inv t):∀ x∈t.hs,∀ g∈x.gs,g.dv.length<=16:=λx hx g hg=>by
 obtain ⟨_,a2,_⟩:=Ol.bY.1 h.held;obtain ⟨_,_,b3⟩:=a2 x hx;obtain ⟨k,hk,rfl⟩:=Sv.ov hg;exact (Sv.vB (Dvs.cS b3 k hk)).1
section
variable {N:Nat->Prop} {Ba Bd Be Bm:Nat} {t:Ol.St} {dk:Dk} {n:Nat} {w:World}
end
end
section
open RowKit Shelf
open Ost (Cpu ae dif cnt)
open Qos (Nd Ct Pd nd ct pd ag aO aP)
open Sv (Gv Hd gv hd)
end
section
open RowKit Shelf
open Ost (Cpu af)
open Qos (Nd Ct Pd nd ct pd ag)
open Sv (Gv Hd gv hd gsF aE aI)
open Dvs (Dv dv aX)
section
variable {N:Nat->Prop} {Ba Bd Be Bm:Nat} {t:Ol.St} {dk:Dk} {n:Nat} {w:World}
theorem aA.lts (h:aA w N Ba Bd Be Bm t dk n):(Ba<w.heap.size/\Bd<w.heap.size/\Bm<w.heap.size)/\Be<w.heap.size:=by
 obtain ⟨l1,l2,l3⟩:=h.eng.lt;obtain ⟨_,_,_,_,_,_,_,_,_,_,_,_,_,_,_,_,_,k1,_⟩:=h;exact ⟨⟨k1.lt,l2,l3⟩,l1⟩
theorem aA.ost (h:aA w N Ba Bd Be Bm t dk n):∃ arr,w.heap[Ba]?=some (Obj.cells arr 115 (0,0))/\∃ p,w.cell? ⟨Ba,0,none⟩=some (.pointer p):=by
 obtain ⟨_,_,_,_,_,_,_,_,_,_,_,_,_,_,_,_,_,k1,_⟩:=h;exact ⟨_,k1,_,ad k1 0⟩
theorem aA.not3 (h:aA w N Ba Bd Be Bm t dk n) {j:Nat} {v:Value} (hv:w.cell? ⟨j,0,none⟩=some v) (h1:∀ p,v≠.pointer p) (h2:∀ b,v≠.bool b):¬ three Ba Bd Bm j:=by
 obtain ⟨_,_,p,ho⟩:=h.ost;have hd:=h.eng.disk;unfold aG at hd;have hd0:=ad hd 0;obtain ⟨xs,hm,_⟩:=h.eng.map;have Ha:∀ v,w.cell? ⟨Bm,0,none⟩≠some v:=λv e=>by
  obtain ⟨_,es,⟨ms,clock,hh,_⟩,_⟩:=hm
  simp [World.cell?,hh] at e
 rintro (e|e|e) <;> subst e
 ·rw [ho] at hv;exact h1 p (Ql hv).symm
 ·rw [hd0] at hv;exact h2 _ (Ql hv).symm
 ·exact Ha v hv
end
end
section
open RowKit Shelf
open Qos (Nd Ct Pd nd ct pd ag eu)
open Sv (Gv Hd gv hd)
open Dvs (Dv dv aX)
attribute [local go_sem] Oper.semAt_some
def MZ (w:World) (N:Nat->Prop) (Ba Bd Be Bm:Nat) (t:Ol.St) (n:Nat) (us:List Nd) (most:Int) (e:Ending) (w':World):Prop:=
 ∃ (qs:List Pd) (g:Nat) (nv:Value),e=.returned (.tuple #[nv,.nilIface])/\mQ w' nv ((qs.take g).map Pd.nm)/\oX us (t.hs.map Hd.pod) qs/\eu us qs most 0 g/\(∃ dk' n',(n'<=n/\eX w w' Ba)/\aA w' N Ba Bd Be Bm ⟨t.m,t.ds,b8 t.hs ((qs.take g).map Pd.nm)⟩ dk' n')/\Apart (three Ba Bd Bm) w w'
theorem M3 {t:Ol.St} (h:Ol.Inv t):kq (t.hs.map Hd.pod):=by
 obtain ⟨a1,a2,_⟩:=Ol.bY.1 h.held;refine ⟨by rw [Q9];omega,λx hx=>?_⟩;obtain ⟨y,hy,rfl⟩:=Qk.1 hx;have hp:=(a2 y hy).1;have s1:=(Sv.ip (Sv.fE hp).1).2;have e1:y.pod.nm.data.toList.length=y.pod.nm.size:=by simp
 exact ⟨Qos.jx hp,by omega⟩
section
variable {N:Nat->Prop} {Ba Bd Be Bm:Nat} {t:Ol.St} {dk:Dk} {n:Nat} {w:World}
theorem M4 {uv:Value} {us:List Nd} {most:Int} (h:aA w N Ba Bd Be Bm t dk n) (hu:bf w uv us) (hfu:ko us) (hm1:-9223372036854775808<=most) (hm2:most<=9223372036854775807) (hn:n+36<=1000) (ht:∀ W,Apart (three Ba Bd Bm) w W->bH W) :
  Calls prog 26 #[.pointer (some ⟨Ba,0,none⟩),uv,.int .i64 most] w (MZ w N Ba Bd Be Bm t n us most):=by
 have hH:=h;have HW:=(Ol.bY.1 h.inv.held).1;obtain ⟨h1,h2,HQ,h3,h4,h5,h6,h7,tb,b,c,hv,pb,db,ao,pc,s,k1,k2,k3,k4,k5,k6,k7⟩:=h;have hh:aQ w hv t.hs:=k2.le (cB _ _);obtain ⟨ha,hc,HJ,_⟩:=id hh;subst HJ;have x7:w.cell? ⟨Ba,7,none⟩=some (.slice ha t.hs.length hc):=ad k1 7;obtain ⟨ua,uc,HK,_⟩:=id hu;subst HK;have HH:=qI hH;have HL:=qI hh;have HU:=qI hu;have HT:=qI ht;have HX:=qI hfu;have HF:=qI (M3 h1);clear hH hh hu ht hfu h1 h2 HQ h3 h4 h5 h6 h7 k1 k2 k3 k4 k5 k6 k7
 go_enter func26,ntmps26
 go_wp2_with fail
 refine (vZ _ t.hs w HL.out (by omega)).mono ?_;rintro e W1 ⟨pv,rfl,Hb,Hr⟩;have Hf:=qI (o8 Hb);have Hi:=qI Hr;clear Hb Hr x7;obtain ⟨PS,Hj⟩:∃ PS,PS=t.hs.map Hd.pod:=⟨_,rfl⟩;rw [<- Hj] at Hf HF;have HA:=qI Hj;have HI:PS.length=t.hs.length:=by rw [Hj,Q9]
 have HN:=qI HI;clear Hj HI;obtain ⟨pa,pcc,HR,_⟩:=id Hf.out;subst HR
 go_wp2_with fail
 refine (KE _ _ PS us most W1 Hf.out (HU.out.below Hi.out) HF.out HX.out hm1 hm2).mono ?_;rintro e W2 ⟨⟨nv,qs,g,rfl,Hw,Hz,hle⟩,Ht⟩;have Ha:=qI (Hi.out.trans (Ht.mono Hi.out.size));have Hk:=qI Hz;have Hx:=qI hle;have Hu:=qI Hw;have Hl:=qI (HH.out.keep Ha.out);obtain ⟨na,nc,HP,HY,HE⟩:=Hw;subst HP;have Hv:=qI HE;clear Ht Hz hle HE HY Hi Hf;have Ho:((qs.take g).map Pd.nm).length<=t.hs.length:=by
  have:=Hk.out.1.length_eq
  have:=HN.out
  rw [Q9,Qu];omega
 obtain ⟨L,hL⟩:∃ L,L=(qs.take g).map Pd.nm:=⟨_,rfl⟩;rw [<- hL] at Ho Hv Hu;rw [<- hL];have He:=qI hL;clear hL
 by_cases hl0:L.length=0
 ·have HD:L=[]:=Qe hl0;have HC:=qI HD;rw [hl0];clear hl0 HD Ho
  go_wp2
  go_ret2;refine ⟨qs,g,.slice none 0 0,rfl,?_,by rw [<- HA.out];exact Hk.out,Hx.out,⟨dk,n,⟨lR,.inl (Ha.out.block Ba HH.out.poolAt.1)⟩,?_⟩,Apart.of_below Ha.out⟩
  ·rw [<- He.out,HC.out];exact ⟨none,0,rfl,lR,λh=>absurd h (by simp)⟩
  ·rw [<- He.out,HC.out];exact Hl.out
 ·have H0:((L.length:Int) == 0)=false:=by rw [Qr];omega
  obtain ⟨nb,HS,Hm,Hg⟩:=Hv.out (by omega);subst HS;have Hy:=Hg 0 (by omega);have Hh:=Hl.out.not3 Hy (λ_ e=>by cases e) (λ_ e=>by cases e);have HO:=qI Hh;have Hc:0<t.hs.length:=by omega
  have Hs:=qI (zS N Ba Bd Be Bm t dk n L nb 0 nc W2 Hl.out (λk hk=>by rw [Qd,Hg k hk];simp [hk]) ⟨λe=>Hh (.inr (.inl e)),λe=>Hh (.inr (.inr e))⟩ Hm (by omega) Hc hn λW hW=>HT.out W ((Apart.of_below Ha.out).trans hW));have HZ:=qI Hg;have H1:=qI Hm;have H2:=qI hl0;clear Hy Hh Hg Hm hl0 Hc Ho
  go_wp2_with fail
  refine Hs.out.mono ?_;rintro e W3 ⟨rfl,⟨dk3,n3,⟨Hn,HG⟩,Hq⟩,HB⟩;have HV:=qI Hq;have HM:=qI (HG.old Ha.out HH.out.poolAt.1);have Hp:=qI HB;clear Hq HG HB Hs
  go_wp2
  go_ret2;refine ⟨qs,g,.slice (some ⟨nb,0,none⟩) L.length nc,rfl,?_,by rw [<- HA.out];exact Hk.out,Hx.out,⟨dk3,n3,⟨Hn,HM.out⟩,by rw [<- He.out];exact HV.out⟩,(Apart.of_below Ha.out).trans Hp.out⟩;rw [<- He.out];obtain ⟨a',c',e',q',r'⟩:=Hu.out;refine ⟨a',c',e',q',λh0=>?_⟩;obtain ⟨g',ea,gl,gc⟩:=r' h0;have eg:g'=nb:=by
   rw [ea] at e';injection e' with e1
   injection e1 with e1
   injection e1 with e1
   exact e1.symm
  subst eg;exact ⟨g',ea,Q1 gl Hp.out.size,λk hk=>(fq (Hp.out.block g' gl HO.out) k).trans (gc k hk)⟩
end
end
section
open RowKit Shelf
open Qos (Nd Ct Pd nd ct pd ag)
open Sv (Gv Hd gv hd)
open Dvs (Dv dv aX)
attribute [local go_sem] Oper.semAt_some
def gw (w:World) (Ba j:Nat):Prop:=∃ pb n c,w.cell? ⟨Ba,9,none⟩=some (.pointer (some ⟨pb,0,none⟩))/\0<n/\w.cell? ⟨pb,0,none⟩=some (.slice (some ⟨j,0,none⟩) n c)
theorem gw.base {w:World} {Ba j base:Nat} (h:gw w Ba j) (hp:cH base w Ba):base<=j:=by
 obtain ⟨pb,n,c,e1,hn,e2⟩:=h;exact (hp pb e1).2 j n c hn e2
structure lK (W W':World):Prop where
 size:W.heap.size<=W'.heap.size
 cell:∀ (b o:Nat) (v:Value),(∀ x,v≠.bool x)->W.cell? ⟨b,o,none⟩=some v->W'.cell? ⟨b,o,none⟩=some v
theorem bu.nb {W W':World} {v:Value} {xs:List Int} (h:bu W v xs) (l:lK W W'):bu W' v xs:=by
 obtain ⟨ao,c,hv,hc,hr⟩:=h;refine ⟨ao,c,hv,hc,λh0=>?_⟩;obtain ⟨b,o,ha,hlt,hcs⟩:=hr h0;exact ⟨b,o,ha,Q1 hlt l.size,λk hk=>l.cell _ _ _ (λ_ e=>by cases e) (hcs k hk)⟩
theorem bf.nb {W W':World} {v:Value} {ds:List Nd} (h:bf W v ds) (l:lK W W'):bf W' v ds:=by
 obtain ⟨ao,c,hv,hc,hr⟩:=h;refine ⟨ao,c,hv,hc,λh0=>?_⟩;obtain ⟨b,o,ha,Hb,Ha⟩:=hr h0;exact ⟨b,o,ha,Q1 Hb l.size,λk hk=>⟨l.cell _ _ _ (λ_ e=>by cases e) (Ha k hk).1,l.cell _ _ _ (λ_ e=>by cases e) (Ha k hk).2⟩⟩
theorem M5 {x:Ct} {d v:Value} (h:v∈ci x d) (hd:∀ b,d≠.bool b):∀ b,v≠.bool b:=by
 intro b e;subst e
 simp [ci] at h
 exact hd b h.symm
theorem aD.nb {W W':World} {v:Value} {cs:List Ct} (h:aD W v cs) (l:lK W W'):aD W' v cs:=by
 obtain ⟨ao,c,hv,hc,hr⟩:=h;refine ⟨ao,c,hv,hc,λh0=>?_⟩;obtain ⟨b,o,dv,ha,Hb,Ha⟩:=hr h0;refine ⟨b,o,dv,ha,Q1 Hb l.size,λk hk=>⟨λj hj=>?_,(Ha k hk).2.nb l⟩⟩;have h6:j<(ci (ct cs k) (dv k)).length:=hj;rw [Qf h6];refine l.cell _ _ _ (M5 (List.getElem_mem h6) λ_ e=>?_) (((Ha k hk).1 j hj).trans (Qf h6));obtain ⟨_,_,e2,_⟩:=(Ha k hk).2;rw [e2] at e;cases e
theorem bl.nb {W W':World} {v:Value} {gs:List Gv} (h:bl W v gs) (l:lK W W'):bl W' v gs:=by
 obtain ⟨ao,c,hv,hc,hr⟩:=h;refine ⟨ao,c,hv,hc,λh0=>?_⟩;obtain ⟨b,o,dv,ha,Hb,Ha⟩:=hr h0;refine ⟨b,o,dv,ha,Q1 Hb l.size,λk hk=>⟨⟨l.cell _ _ _ (λ_ e=>by cases e) (Ha k hk).1.1,l.cell _ _ _ (λ_ e=>?_) (Ha k hk).1.2.1,(Ha k hk).1.2.2⟩,(Ha k hk).2.nb l⟩⟩;obtain ⟨_,_,e2,_⟩:=(Ha k hk).2;rw [e2] at e;cases e
theorem aQ.nb {W W':World} {v:Value} {hs:List Hd} (h:aQ W v hs) (l:lK W W'):aQ W' v hs:=by
 obtain ⟨ao,c,hv,hc,hr⟩:=h;refine ⟨ao,c,hv,hc,λh0=>?_⟩;obtain ⟨b,o,cv,gvv,ha,Hb,Ha⟩:=hr h0;refine ⟨b,o,cv,gvv,ha,Q1 Hb l.size,λk hk=>⟨⟨l.cell _ _ _ (λ_ e=>by cases e) (Ha k hk).1.1,l.cell _ _ _ (λ_ e=>by cases e) (Ha k hk).1.2.1,l.cell _ _ _ (λ_ e=>?_) (Ha k hk).1.2.2.1,l.cell _ _ _ (λ_ e=>?_) (Ha k hk).1.2.2.2⟩,(Ha k hk).2.1.nb l,(Ha k hk).2.2.nb l⟩⟩
 ·obtain ⟨_,_,e2,_⟩:=(Ha k hk).2.1;rw [e2] at e;cases e
 ·obtain ⟨_,_,e2,_⟩:=(Ha k hk).2.2;rw [e2] at e;cases e
section
variable {N:Nat->Prop} {Ba Bd Be Bm:Nat} {t:Ol.St} {dk:Dk} {n:Nat} {w:World}
theorem aA.blk (h:aA w N Ba Bd Be Bm t dk n) {j:Nat} (hj:gw w Ba j):j<w.heap.size/\(∃ s,w.cell? ⟨j,0,none⟩=some (.string s))/\¬ four N Ba Bd Bm j:=by
 obtain ⟨h1,h2,Hb,h3,h4,h5,h6,h7,tb,b,c,hv,pb,db,ao,pc,s,k1,k2,k3,k4,k5,k6,k7⟩:=h;obtain ⟨pb1,n1,c1,e1,Ha,e2⟩:=hj;have e9:w.cell? ⟨Ba,9,none⟩=some (.pointer (some ⟨pb,0,none⟩)):=ad k1 9;rw [e9] at e1;obtain rfl:pb=pb1:=by cases e1;rfl
 rw [k5.pool.row] at e2;have e3:ao=some ⟨j,0,none⟩/\s.ds.length=n1:=by cases e2;exact ⟨rfl,rfl⟩
 have h0:0<s.ds.length:=by omega
 obtain ⟨q1,q2,q3⟩:=k5.pool.at0 h0;rw [e3.1] at q1;obtain rfl:j=db:=by cases q1;rfl
 have q4:=(k5.pool.cells 0 h0).1;rw [Nat.zero_mul] at q4;exact ⟨q3,⟨_,q4⟩,k7 h0⟩
theorem M6 {W W':World} {xs:List RV} (h:∀ x∈xs,ew W x/\x.dn<=1000) (hs:W.heap.size<=W'.heap.size) (hk:∀ g,(∃ v,W.cell? ⟨g,0,none⟩=some (.int .i64 v))->W'.heap[g]?=W.heap[g]?):(∀ x∈xs,ew W' x/\x.dn<=1000)/\xs.map (ak W')=xs.map (ak W):=by
 have key:∀ x∈xs,ew W' x/\aH W' x=aH W x:=λx hx=>by
  obtain ⟨hd,_⟩:=h x hx
  by_cases h0:0<x.dn
  ·obtain ⟨g,arr,z,ha,hg⟩:=hd.2 h0;obtain ⟨g',o',Ha,hl,hc⟩:=hd.1 h0;have e:g'=g/\o'=0:=by rw [ha] at Ha;cases Ha;exact ⟨rfl,rfl⟩
   have c0:=hc 0 h0;rw [e.1,e.2] at c0;have hh:=hk g ⟨_,c0⟩;obtain ⟨r1,r2⟩:=mR (w':=W') hd.1 (λg' o' e _=>by rw [ha] at e;cases e;exact hh) hs;exact ⟨⟨r1,λ_=>⟨g,arr,z,ha,hh.trans hg⟩⟩,r2⟩
  ·refine ⟨⟨λe=>absurd e h0,λe=>absurd e h0⟩,?_⟩;unfold aH
   have:x.dn=0:=by omega
   rw [this];rfl
 exact ⟨λx hx=>⟨(key x hx).1,(h x hx).2⟩,List.map_congr_left λx hx=>by unfold ak;rw [(key x hx).2]⟩
def M7 (w:World) (N:Nat->Prop) (Ba Bd Be Bm:Nat) (t:Ol.St) (dk:Dk) (n:Nat) (e:Ending) (w':World):Prop:=∃ (f:Nat) (ds':List Dv),e=.returned (ar f)/\Ol.Alike t.ds ds'/\aA w' N Ba Bd Be Bm ⟨t.m,ds',t.hs⟩ dk n/\Apart (gw w Ba) w w'/\∀ base,cH base w Ba->cH base w' Ba
theorem aA.sicken {pb db:Nat} {ao:Option Addr} {pc:Nat} {us:Nat->Bool} (h:aA w N Ba Bd Be Bm t dk n) (h9:w.cell? ⟨Ba,9,none⟩=some (.pointer (some ⟨pb,0,none⟩))) (hp:ap w pb db ao pc t.ds us) {k:Nat} (hk:k<t.ds.length) (on:Bool):aA (w.setCell ⟨db,k*3+2,none⟩ (.bool on)) N Ba Bd Be Bm ⟨t.m,Dvs.sicken t.ds k on,t.hs⟩ dk n/\Apart (gw w Ba) w (w.setCell ⟨db,k*3+2,none⟩ (.bool on))/\∀ base,cH base w Ba->cH base (w.setCell ⟨db,k*3+2,none⟩ (.bool on)) Ba:=by
 have h0:0<t.ds.length:=by omega
 have Hi:gw w Ba db:=⟨pb,t.ds.length,pc,h9,h0,by rw [hp.row,(hp.at0 h0).1]⟩;obtain ⟨b1,⟨bs,b2⟩,b3⟩:=h.blk Hi;have hA:Apart (λj=>j=db) w (w.setCell ⟨db,k*3+2,none⟩ (.bool on)):=Apart.setCell (K:=λj=>j=db) rfl _ _ _;have Hm:Apart (gw w Ba) w (w.setCell ⟨db,k*3+2,none⟩ (.bool on)):=hA.wide (λj e=>by rw [e];exact Hi);have hH:=h;obtain ⟨h1,h2,Hg,h3,h4,h5,h6,h7,tb,b,c,hv,pb0,db0,ao0,pc0,s,k1,k2,k3,k4,k5,k6,k7⟩:=h;have e9:w.cell? ⟨Ba,9,none⟩=some (.pointer (some ⟨pb0,0,none⟩)):=ad k1 9;rw [e9] at h9;obtain rfl:pb0=pb:=by cases h9;rfl
 have Hb:=Ol.gV k4;have Hf:=hp.row;rw [k5.pool.row] at Hf;have e3:ao0=ao/\pc0=pc:=by
  injection Hf with Hf
  injection Hf with r1 r2 r3
  exact ⟨r1,r3⟩
 have Hl:0<s.ds.length:=by rw [Hb];exact h0
 have e4:db0=db:=by
  have a1:=(k5.pool.at0 Hl).1;have a2:=(hp.at0 h0).1;rw [e3.1,a2] at a1;cases a1;rfl
 subst e4;obtain ⟨l1,l2,l3⟩:=h3.lt;have n1:Ba≠db0:=λe=>b3 (.inr (.inl e.symm))
 have n2:Bd≠db0:=λe=>b3 (.inr (.inr (.inl e.symm)))
 have n3:Bm≠db0:=λe=>b3 (.inr (.inr (.inr e.symm)))
 have n4:Be≠db0:=λe=>by
  have:=h3.eng.cells.1
  rw [e,b2] at this;cases this
 have Ho:(w.setCell ⟨db0,k*3+2,none⟩ (.bool on)).heap.size=w.heap.size:=Nat.le_antisymm (by simp) hA.size;generalize hW:w.setCell ⟨db0,k*3+2,none⟩ (.bool on)=W at *;have He:ap W pb0 db0 ao0 pc0 (Dvs.sicken s.ds k on) s.us:=by rw [<- hW];exact k5.pool.sicken (by rw [Hb];exact hk) on
 have Hj:Ol.Alike t.ds (Dvs.sicken t.ds k on):=Ol.xE hk on;have Hk:=(hp.cells k hk).2.2.1;have Hn:lK (ah (four N Ba Bd Bm) w) (ah (four N Ba Bd Bm) W):=⟨by rw [bx,bx];exact hA.size,λj o v hv hv2=>by
  have hm:=dU hv2;have Ha:=(cB _ _).cell _ _ _ hv2;have hl:j<w.heap.size:=Q3 w _ Ha
  by_cases hj:j=db0
  ·have ho:o≠k*3+2:=λe=>by
    rw [hj,e,Hk] at Ha;cases Ha;exact hv _ rfl
   have e1:(ah (four N Ba Bd Bm) W).cell? ⟨j,o,none⟩=W.cell? ⟨j,o,none⟩:=fq (bJ hm) o;rw [e1,<- hW,hj];rw [hj] at Ha;rw [Qb]
   ·exact Ha
   ·intro e;cases e;exact ho rfl
  ·rw [<- hv2];exact fq (by rw [bJ hm,bJ hm,hA.block j hl hj]) o⟩
 have nt:¬ four N Ba Bd Bm tb:=dU k3.topo.cell;have nb:¬ four N Ba Bd Bm b:=dU (k3.topo.cells 0 Hg).1;have Hh:=k3.topo.tlt;have Hc:=k3.topo.lt;rw [bx] at Hh Hc;have c1:=(cB _ _).cell _ _ _ k3.topo.cell;have c2:=(cB _ _).cell _ _ _ (k3.topo.cells 0 Hg).1;rw [Qd,Nat.zero_mul] at c2;have t3:tb≠db0:=λe=>by rw [e,b2] at c1;cases c1
 have b3':b≠db0:=λe=>by rw [e,b2] at c2;cases c2
 refine ⟨⟨Ol.ID h1 Hj,h2,Hg,?_,h4,h5,λj hj=>Q1 (h6 j hj) hA.size,h7,tb,b,c,hv,pb0,db0,ao0,pc0,Ol.lk s (Dvs.sicken s.ds k on),(hA.block Ba k1.lt n1).trans k1,k2.nb Hn,⟨jd k3.topo ?_ ?_ ?_,k3.good,k3.op,k3.nd,k3.pol⟩,?_,⟨He,?_,k5.cp⟩,k6,?_⟩,Hm,λbase hb=>?_⟩
 ·obtain ⟨g1,g2,xs,g3,g4,g5⟩:=h3;obtain ⟨q1,q2⟩:=M6 g4 hA.size λg ⟨v,hg⟩=>hA.block g (Q3 w _ hg) (λe=>by rw [e,b2] at hg;cases hg);exact ⟨g1.block (hA.block Be l1 n4),(hA.block Bd l2 n2).trans g2,xs,g3.block (hA.block Bm l3 n3),q1,λa=>by rw [q2];exact g5 a⟩
 ·rw [bJ nt,bJ nt,hA.block tb Hh t3]
 ·rw [bJ nb,bJ nb,hA.block b Hc b3']
 ·rw [bx,bx];exact hA.size
 ·have:=Ol.xG Hj k4
  rw [<- Hb] at this ⊢;exact this
 ·rw [Hb];have hN:=k5.nodes;rw [Hb] at hN;exact Dvs.CH hN hk on
 ·intro _;exact b3
 ·exact hH.poolNew hb hA n1 (λp e hl ep=>by
   have ep:p=db0:=ep;rw [e9] at e
   have:p=pb0:=by cases e;rfl
   exact (hp.at0 h0).2.1 (by rw [<- ep,this]))
theorem zY (h:aA w N Ba Bd Be Bm t dk n) (k:Int) (on:Bool):Calls prog 34 #[.pointer (some ⟨Ba,0,none⟩),.int .i64 k,.bool on] w (M7 w N Ba Bd Be Bm t dk n):=by
 have hH:=h;obtain ⟨h1,h2,Hb,h3,h4,h5,h6,h7,tb,b,c,hv,pb,db,ao,pc,s,k1,k2,k3,k4,k5,k6,k7⟩:=h;have x9:w.cell? ⟨Ba,9,none⟩=some (.pointer (some ⟨pb,0,none⟩)):=ad k1 9;have hp:ap w pb db ao pc t.ds s.us:=by rw [<- Ol.gV k4];exact k5.pool
 have HH:=qI hH;have HP:=qI hp;have HX:=qI x9;clear hH hp h1 h2 Hb h3 h4 h5 h6 h7 k1 k2 k3 k4 k5 k6 k7
 rcases two (fU k t.ds.length) with hb|hb
 ·have He:0<=k/\k<(t.ds.length:Int):=by
   unfold fU at hb;rw [Bool.and_eq_true,Qp,Qp] at hb;exact hb
  obtain ⟨kn,rfl⟩:∃ kn:Nat,k=(kn:Int):=⟨k.toNat,by omega⟩;have Ha:kn<t.ds.length:=by omega
  have HS:=qI (HH.out.sicken HX.out HP.out Ha on);have Hc:=qI (Ol.xE Ha on);clear hb He
  go_enter func34,ntmps34
  go_wp2_with fail
  refine (C5 kn on w pb db ao pc t.ds s.us HP.out Ha).mono ?_;rintro e w' ⟨rfl,rfl⟩
  go_wp2
  go_ret;exact ⟨0,_,rfl,Hc.out,HS.out.1,HS.out.2.1,HS.out.2.2⟩
 ·have HB:=qI hb;clear hb
  go_enter func34,ntmps34
  go_wp2_with fail
  refine (C0 k on w pb db ao pc t.ds s.us HP.out HB.out).mono ?_;rintro e w' ⟨rfl,rfl⟩
  go_wp2
  go_ret;exact ⟨1,t.ds,rfl,Ol.alike_refl _,HH.out,Apart.refl _ _,λ_ h=>h⟩
end
end
section
open RowKit Shelf
open Qos (Nd Ct Pd nd ct pd ag eu)
open Sv (Gv Hd gv hd)
open Dvs (Dv dv aX)
attribute [local go_sem] Oper.semAt_some
def nC (x:Ac):Bool:=x.kd.toList == [97,100,109,105,116]
structure Stepped (t:Ol.St) (x:Ac) (f:Nat) (t':Ol.St):Prop where
 m:t'.m=t.m
 ds:Ol.Alike t.ds t'.ds
 inn:nC x=true->f=(Ol.aK t x.p).1/\t'.hs=(Ol.aK t x.p).2/\t'.ds=t.ds
 out:nC x=false->t'.hs.Sublist t.hs
def dK (w:World) (N:Nat->Prop) (Ba Bd Be Bm:Nat) (t:Ol.St) (n:Nat) (x:Ac) (e:Ending) (w':World):Prop:=∃ (f:Nat) (t':Ol.St),e=.returned (ar f)/\Stepped t x f t'/\(∃ dk' n',n'<=n+3/\aA w' N Ba Bd Be Bm t' dk' n')/\Apart (λj=>three Ba Bd Bm j\/gw w Ba j) w w'/\∀ base,base<=w.heap.size->cH base w Ba->cH base w' Ba
section
variable {N:Nat->Prop} {Ba Bd Be Bm:Nat} {t:Ol.St} {dk:Dk} {n:Nat} {w:World}
theorem aA.poolKeep {X:World} {base:Nat} (h:aA w N Ba Bd Be Bm t dk n) (hb:Below w.heap.size w X) (hp:cH base w Ba):cH base X Ba:=h.poolNew hp (Apart.of_below (K:=λ_=>False) hb) id (λ_ _ _ e=>e)
theorem aA.blkOld {X:World} {j:Nat} (h:aA w N Ba Bd Be Bm t dk n) (hb:Below w.heap.size w X) (hj:gw X Ba j):gw w Ba j:=by
 obtain ⟨l1,l2⟩:=h.poolAt;obtain ⟨pb,q,c,e1,hq,e2⟩:=hj;rw [fq (hb.block Ba l1)] at e1;rw [fq (hb.block pb (l2 pb e1).1)] at e2;exact ⟨pb,q,c,e1,hq,e2⟩
theorem dK.old {X:World} {x:Ac} {e:Ending} {w':World} (hM:aA w N Ba Bd Be Bm t dk n) (hb:Below w.heap.size w X) (h:dK X N Ba Bd Be Bm t n x e w'):dK w N Ba Bd Be Bm t n x e w':=by
 obtain ⟨f,t',h1,h2,h3,h4,h5⟩:=h;exact ⟨f,t',h1,h2,h3,(Apart.of_below hb).trans (h4.wide λj e=>e.imp id (hM.blkOld hb)),λbase hl hp=>h5 base (Q5 hl hb.size) (hM.poolKeep hb hp)⟩
theorem dK.three {x:Ac} {e:Ending} {w':World} {f:Nat} {t':Ol.St} {dk':Dk} {n':Nat} (hM:aA w N Ba Bd Be Bm t dk n) (h1:e=.returned (ar f)) (h2:Stepped t x f t') (h3:n'<=n+3) (hM':aA w' N Ba Bd Be Bm t' dk' n') (hu:eX w w' Ba) (ha:Apart (three Ba Bd Bm) w w'):dK w N Ba Bd Be Bm t n x e w':=
 ⟨f,t',h1,h2,⟨dk',n',h3,hM'⟩,ha.wide λ_ e=>.inl e,λ_ hl hp=>hM.poolUp hp hl hu ha⟩
abbrev nD:=λ(x0:Ac) (x1:Option Addr) (x2 x3:Nat) (x4:Option Addr) (x5:Nat) (x6:Option Addr) (x7:Nat)=>(.cells #[.string x0.kd,.string x0.s,.int .i64 x0.a,.int .i64 x0.b,.int .u8 x0.m,.slice x1 x2 x3,.string x0.p.nm,.int .i64 x0.p.pr,.slice x4 x0.p.cs.length x5,.slice x6 x0.us.length x7] 50:Obj)
theorem M8 {x:Ac} {la ca ua:Option Addr} {ll lc cc uc:Nat} (hM:aA w N Ba Bd Be Bm t dk n) (hp:aD (ah (four N Ba Bd Bm) w) (.slice ca x.p.cs.length cc) x.p.cs) (hu:bf w (.slice ua x.us.length uc) x.us) (hfu:ko x.us) (hm1:-9223372036854775808<=x.a) (hm2:x.a<=9223372036854775807) (hn:n+36<=1000) (ht:∀ W,Apart (three Ba Bd Bm) w W->bH W) :
  Calls prog 13 #[.agg #[.pointer (some ⟨Bd,0,none⟩),.pointer (some ⟨Be,0,none⟩),.pointer (some ⟨Ba,0,none⟩)],.agg #[.string x.kd,.string x.s,.int .i64 x.a,.int .i64 x.b,.int .u8 x.m,.slice la ll lc,.string x.p.nm,.int .i64 x.p.pr,.slice ca x.p.cs.length cc,.slice ua x.us.length uc]] w (dK w N Ba Bd Be Bm t n x):=by
 obtain ⟨MB,HB⟩:∃ o:Obj,o=.cells #[.pointer (some ⟨Bd,0,none⟩),.pointer (some ⟨Be,0,none⟩),.pointer (some ⟨Ba,0,none⟩)] 36:=⟨_,rfl⟩;obtain ⟨AB,Hx⟩:∃ o:Obj,o=.cells #[.string x.kd,.string x.s,.int .i64 x.a,.int .i64 x.b,.int .u8 x.m,.slice la ll lc,.string x.p.nm,.int .i64 x.p.pr,.slice ca x.p.cs.length cc,.slice ua x.us.length uc] 50:=⟨_,rfl⟩;have Ha:Hid (Below w.heap.size w ((w.alloc MB).alloc AB)):=((Q0 w.heap.size w).alloc (lR) MB).alloc (by simp) AB;obtain ⟨Bk,Hf⟩:∃ Bk,Bk=w.heap.size:=⟨_,rfl⟩;obtain ⟨Bx,He⟩:∃ Bx,Bx=w.heap.size+1:=⟨_,rfl⟩;have Ht:((w.alloc MB).alloc AB).heap[Bk]?=some MB:=by rw [Hf];exact bg (aF w MB rfl) _
 have Hu:((w.alloc MB).alloc AB).heap[Bx]?=some AB:=by rw [He];exact aF (w.alloc MB) AB (by simp)
 have Hk:=qI Ht;have Hl:=qI Hu;clear Ht Hu;subst HB Hx;have HM:=qI hM;have HP:=qI hp;have HU:=qI hu;have HC:=qI hfu;have HT:=qI ht;clear hM hp hu hfu ht
 rcases two (x.kd.toList == [97,100,109,105,116]) with hk|hk
 ·have HK:Hid (nC x=true):=hk
  go_enter func13,ntmps13
  go_wp2_with fail
  (try rw [<- He]);(try rw [<- Hf]);generalize ((w.alloc (gY Bd Be Ba)).alloc (nD x la ll lc ca cc ua uc))=X at *;clear Hf He;have Hb:=qI (HM.out.keep Ha.out);have Hi:Hid (aD (ah (four N Ba Bd Bm) X) (.slice ca x.p.cs.length cc) x.p.cs):=HP.out.le (bn (λj hj hn=>⟨hn,Ha.out.block j hj⟩) Ha.out.size);have Hj:=qI (HU.out.below Ha.out);have Hh:Hid (∀ W,Apart (three Ba Bd Bm) X W->bH W):=λW ha=>HT.out W ((Apart.of_below Ha.out).trans ha)
  clear HP HU HT Hk Hl;have Hq:=qI (MV (p:=x.p) Hb.out Hi.out (Hh.out X (Apart.refl _ _)) hn);unfold bV at Hq;refine Hq.out.mono ?_;rintro e W ⟨rfl,⟨dk',n',⟨Hn,Hg⟩,Hc⟩,ha⟩;have HR:Hid (dK w N Ba Bd Be Bm t n x (.returned (ar ((Ol.aK t x.p).1:Nat))) W):=dK.old HM.out Ha.out (dK.three (t':=⟨t.m,t.ds,(Ol.aK t x.p).2⟩) Hb.out rfl ⟨rfl,Ol.alike_refl _,λ_=>⟨rfl,rfl,rfl⟩,λh=>absurd (h.symm.trans HK.out) (by decide)⟩ Hn Hc Hg ha);clear Hc Hg ha Hq;generalize (Ol.aK t x.p).1=en at *
  go_wp2
  go_ret;exact HR.out
 have HK:Hid (nC x=false):=hk
 rcases two (x.kd.toList == [114,101,109,111,118,101]) with HD|HD
 ·go_enter func13,ntmps13
  go_wp2_with fail
  (try rw [<- He]);(try rw [<- Hf]);generalize ((w.alloc (gY Bd Be Ba)).alloc (nD x la ll lc ca cc ua uc))=X at *;clear Hf He;have Hb:=qI (HM.out.keep Ha.out);have Hi:Hid (aD (ah (four N Ba Bd Bm) X) (.slice ca x.p.cs.length cc) x.p.cs):=HP.out.le (bn (λj hj hn=>⟨hn,Ha.out.block j hj⟩) Ha.out.size);have Hj:=qI (HU.out.below Ha.out);have Hh:Hid (∀ W,Apart (three Ba Bd Bm) X W->bH W):=λW ha=>HT.out W ((Apart.of_below Ha.out).trans ha)
  clear HP HU HT Hk Hl;obtain ⟨en,Hv⟩:∃ en:Nat,en=if cA t.hs x.s then 0 else 6:=⟨_,rfl⟩
  have Ho:=qI (zU N Ba Bd Be Bm t dk n x.s X Hb.out hn Hh.out);rw [<- Hv] at Ho;clear Hv;refine Ho.out.mono ?_;rintro e W ⟨rfl,⟨dk',n',⟨Hn,Hg⟩,Hc⟩,ha⟩;have HR:Hid (dK w N Ba Bd Be Bm t n x (.returned (ar (en:Nat))) W):=dK.old HM.out Ha.out (dK.three (t':=⟨t.m,t.ds,Ol.fk t.hs x.s⟩) Hb.out rfl ⟨rfl,Ol.alike_refl _,λh=>absurd (h.symm.trans HK.out) (by decide),λ_=>Ol.rt _ _⟩ (by omega) Hc Hg ha);clear Hc Hg ha Ho
  go_wp2
  go_ret;exact HR.out
 rcases two (x.kd.toList == [115,105,99,107]) with Hw|Hw
 ·go_enter func13,ntmps13
  go_wp2_with fail
  (try rw [<- He]);(try rw [<- Hf]);generalize ((w.alloc (gY Bd Be Ba)).alloc (nD x la ll lc ca cc ua uc))=X at *;clear Hf He;have Hb:=qI (HM.out.keep Ha.out);have Hi:Hid (aD (ah (four N Ba Bd Bm) X) (.slice ca x.p.cs.length cc) x.p.cs):=HP.out.le (bn (λj hj hn=>⟨hn,Ha.out.block j hj⟩) Ha.out.size);have Hj:=qI (HU.out.below Ha.out);have Hh:Hid (∀ W,Apart (three Ba Bd Bm) X W->bH W):=λW ha=>HT.out W ((Apart.of_below Ha.out).trans ha)
  clear HP HU HT Hk Hl;have Hp:Hid (∀ on,Calls prog 34 #[.pointer (some ⟨Ba,0,none⟩),.int .i64 x.a,.bool on] X λe w'=>∃ f:Nat,e=.returned (ar f)/\dK w N Ba Bd Be Bm t n x e w'):=λon=>by
   refine (zY Hb.out x.a on).mono ?_;rintro e W ⟨f,ds',he,Hr,Hc,ha,Hm⟩;exact ⟨f,he,dK.old HM.out Ha.out ⟨f,⟨t.m,ds',t.hs⟩,he,⟨rfl,Hr,λh=>absurd (h.symm.trans HK.out) (by decide),λ_=>List.Sublist.refl _⟩,⟨dk,n,by omega,Hc⟩,ha.wide λ_ e=>.inr e,λbase _ hp=>Hm base hp⟩⟩
  refine (Hp.out true).mono ?_;rintro e W ⟨f,rfl,hr⟩;have HR:=qI hr;clear hr
  go_wp2
  go_ret;exact HR.out
 rcases two (x.kd.toList == [119,101,108,108]) with HA|HA
 ·go_enter func13,ntmps13
  go_wp2_with fail
  (try rw [<- He]);(try rw [<- Hf]);generalize ((w.alloc (gY Bd Be Ba)).alloc (nD x la ll lc ca cc ua uc))=X at *;clear Hf He;have Hb:=qI (HM.out.keep Ha.out);have Hi:Hid (aD (ah (four N Ba Bd Bm) X) (.slice ca x.p.cs.length cc) x.p.cs):=HP.out.le (bn (λj hj hn=>⟨hn,Ha.out.block j hj⟩) Ha.out.size);have Hj:=qI (HU.out.below Ha.out);have Hh:Hid (∀ W,Apart (three Ba Bd Bm) X W->bH W):=λW ha=>HT.out W ((Apart.of_below Ha.out).trans ha)
  clear HP HU HT Hk Hl;have Hp:Hid (∀ on,Calls prog 34 #[.pointer (some ⟨Ba,0,none⟩),.int .i64 x.a,.bool on] X λe w'=>∃ f:Nat,e=.returned (ar f)/\dK w N Ba Bd Be Bm t n x e w'):=λon=>by
   refine (zY Hb.out x.a on).mono ?_;rintro e W ⟨f,ds',he,Hr,Hc,ha,Hm⟩;exact ⟨f,he,dK.old HM.out Ha.out ⟨f,⟨t.m,ds',t.hs⟩,he,⟨rfl,Hr,λh=>absurd (h.symm.trans HK.out) (by decide),λ_=>List.Sublist.refl _⟩,⟨dk,n,by omega,Hc⟩,ha.wide λ_ e=>.inr e,λbase _ hp=>Hm base hp⟩⟩
  refine (Hp.out false).mono ?_;rintro e W ⟨f,rfl,hr⟩;have HR:=qI hr;clear hr
  go_wp2
  go_ret;exact HR.out
 go_enter func13,ntmps13
 go_wp2_with fail
 (try rw [<- He]);(try rw [<- Hf]);generalize ((w.alloc (gY Bd Be Ba)).alloc (nD x la ll lc ca cc ua uc))=X at *;clear Hf He;have Hb:=qI (HM.out.keep Ha.out);have Hi:Hid (aD (ah (four N Ba Bd Bm) X) (.slice ca x.p.cs.length cc) x.p.cs):=HP.out.le (bn (λj hj hn=>⟨hn,Ha.out.block j hj⟩) Ha.out.size);have Hj:=qI (HU.out.below Ha.out);have Hh:Hid (∀ W,Apart (three Ba Bd Bm) X W->bH W):=λW ha=>HT.out W ((Apart.of_below Ha.out).trans ha)
 clear HP HU HT Hk Hl;have Hs:=qI (M4 Hb.out Hj.out HC.out hm1 hm2 hn Hh.out);refine Hs.out.mono ?_;rintro e W ⟨qs,g,nv,rfl,Hy,_,_,⟨dk',n',⟨Hn,Hg⟩,Hc⟩,ha⟩;have HR:Hid (dK w N Ba Bd Be Bm t n x (.returned .nilIface) W):=dK.old HM.out Ha.out (dK.three (f:=0) (t':=⟨t.m,t.ds,b8 t.hs ((qs.take g).map Pd.nm)⟩) Hb.out rfl ⟨rfl,Ol.alike_refl _,λh=>absurd (h.symm.trans HK.out) (by decide),λ_=>lH _ _⟩ (by omega) Hc Hg ha);obtain ⟨na,nc,Hz,_⟩:=Hy;subst Hz;clear Hc Hg ha Hs
 go_wp2
 go_ret;exact HR.out
end
end
section
open RowKit Shelf
open Qos (Nd Ct Pd nd ct pd ag)
open Sv (Gv Hd gv hd)
open Dvs (Dv dv aX)
section
variable {Ba Bd Be Bm:Nat} {t:Ol.St} {dk:Dk} {n:Nat} {w:World}
theorem M9 {c:Ol.Cf} (h:Ol.bQ c=0):0<=(Ol.cL c).nb:=by
 unfold Ol.bQ at h
 repeat' (split at h;· first|cases h|(rename_i h1;exact absurd h h1))
 all_goals (show 0<=c.nb;omega)
theorem Na {W:World} (ht:bH w) (hl:w.heap.size<=Ba/\w.heap.size<=Bd/\w.heap.size<=Bm) (hb:Below w.heap.size w W):bH W/\az w (ah (four iG Ba Bd Bm) W)/\∀ W',Apart (three Ba Bd Bm) W W'->bH W':=by
 refine ⟨ht.below hb,mv hb rfl λj hj=>?_,λW' ha=>?_⟩
 ·rcases hj with e|e|e|e
  ·exact e.elim
  all_goals omega
 ·exact ht.below (nA hb hb.size ha (λj hj=>by rcases hj with e|e|e <;> omega))
theorem Nb {V V2:World} {o:Obj} {Bk:Nat} {p:Option Addr} (hM:aA V iG Ba Bd Be Bm t dk n) (hp:cH w.heap.size V Ba) (hl:(w.heap.size<=Ba/\w.heap.size<=Bd/\w.heap.size<=Bm)/\Bk≠Ba/\Bk≠Bd/\Bk≠Bm) (hb:Below w.heap.size w V) (hk:V.heap[Bk]?=some o) (ha:Apart (λj=>three Ba Bd Bm j\/gw V Ba j) V V2) (ho:V.cell? ⟨Bk,0,none⟩=some (.pointer p)):Below w.heap.size w V2/\V2.heap[Bk]?=some o:=by
 refine ⟨nA hb hb.size ha λj hj=>?_,(ha.block Bk (gS hk).1 ?_).trans hk⟩
 ·rcases hj with (e|e|e)|e
  ·omega
  ·omega
  ·omega
  ·exact e.base hp
 ·rintro ((e|e|e)|e)
  ·exact hl.2.1 e
  ·exact hl.2.2.1 e
  ·exact hl.2.2.2 e
  ·obtain ⟨_,⟨s,hs⟩,_⟩:=hM.blk e;rw [ho] at hs;cases hs
theorem Nc {x:Ac} {f:Nat} {t':Ol.St} (h:Ol.Inv t) (hr:Ol.room t.m (t.hs.map Hd.pod)=true) (hs:Stepped t x f t'):Ol.room t'.m (t'.hs.map Hd.pod)=true:=by
 rw [hs.m];cases e:nC x with
 | true=>rw [(hs.inn e).2.1];exact Ol.oR hr
 | false=>exact Ol.Iz h (hs.out e) hr
end
end
section
open RowKit Shelf
attribute [local go_sem] Oper.semAt_some
theorem Nf (c:Ol.Cf) (ca da:Option Addr) (cc dc g o:Nat) (w:World) (h1:eD w (.slice ca c.l.length cc) c.l) (h2:cO w (.slice da c.ds.length dc) g o c.ds) (hk:c.keep<18446744073709551616) (h0:Ol.bQ c≠0) :
  Calls prog 12 #[.agg #[.slice ca c.l.length cc,.int .u64 (c.keep:Nat),.int .i64 c.nb,.slice da c.ds.length dc,.int .i64 c.pol]] w λe w'=>e=.returned (.iface 121 (.int .i64 (Ol.bQ c)))/\Below w.heap.size w w':=by
 obtain ⟨OC,Hi⟩:∃ o:Obj,o=.cells #[.slice ca c.l.length cc,.int .u64 (c.keep:Nat),.int .i64 c.nb,.slice da c.ds.length dc,.int .i64 c.pol] 27:=⟨_,rfl⟩;have Ha:=(Q0 w.heap.size w).alloc (lR) OC;have He:=qI Ha;have Hf:=qI (zv c (.slice ca c.l.length cc) (.slice da c.ds.length dc) g o _ (h1.below Ha) (h2.le (az.of_below Ha)) hk);have Hg:Hid (ar (Ol.bQ c)=.iface 121 (.int .i64 (Ol.bQ c))):=if_neg h0;have H0:=qI h0;subst Hi;clear h1 h2 Ha h0
 go_enter func12,ntmps12
 go_wp2_with fail
 refine Hf.out.mono ?_;rintro e W Hb;obtain rfl:=Hb.bad H0.out;have Hc:=qI (He.out.trans (Hb.below.mono He.out.size));rw [Hg.out];clear Hb Hf Hg H0;have Hh:=qI ((Hc.out.alloc Hc.out.size (.cells #[.pointer none,.int .u64 0,.int .u8 0,.int .i64 0,.int .i64 0] 95)).alloc (by simp;have:=Hc.out.size;omega) (.cells #[.int .u64 0,.pointer none] 98))
 go_wp2
 go_ret;exact ⟨rfl,Hh.out⟩
section
variable {Ba Bd Be Bm:Nat} {t:Ol.St} {dk:Dk} {n:Nat}
theorem Ng {V V2:World} {ob:Obj} {Bc:Nat} {a:Option Addr} {q k:Nat} (hM:aA V iG Ba Bd Be Bm t dk n) (hl:Bc≠Ba/\Bc≠Bd/\Bc≠Bm) (hk:V.heap[Bc]?=some ob) (ha:Apart (λj=>three Ba Bd Bm j\/gw V Ba j) V V2) (ho:V.cell? ⟨Bc,0,none⟩=some (.slice a q k)):V2.heap[Bc]?=some ob:=by
 refine (ha.block Bc (gS hk).1 ?_).trans hk;rintro ((e|e|e)|e)
 ·exact hl.1 e
 ·exact hl.2.1 e
 ·exact hl.2.2 e
 ·obtain ⟨_,⟨s,hs⟩,_⟩:=hM.blk e;rw [ho] at hs;cases hs
end
end
section
open RowKit Shelf
open Qos (Nd Ct Pd nd ct pd ag)
open Dvs (Dv dv nth)
attribute [local go_sem] Oper.semAt_some
def fv (ns:List Nd) (k:Nat):Int:=((ns.take k).map Nd.many).sum
theorem Nh {ns:List Nd} {k:Nat} (h:k<ns.length):fv ns (k+1)=fv ns k+(nd ns k).many:=by
 unfold fv;rw [Qa h,Qj,List.sum_append];simp [nd,h]
end
section
open RowKit Shelf
open Qos (Nd Ct Pd nd ct pd ag)
open Sv (Gv Hd gv hd)
open Dvs (Dv dv nth)
section
variable {N:Nat->Prop} {Ba Bd Be Bm:Nat} {t:Ol.St} {dk:Dk} {n:Nat} {w:World}
theorem Ni (h:aA w N Ba Bd Be Bm t dk n):Calls prog 19 #[.pointer (some ⟨Ba,0,none⟩)] w λe w'=>∃ a g c,e=.returned (.slice a t.ds.length c)/\cO w' (.slice a t.ds.length c) g 0 t.ds/\(0<t.ds.length->w.heap.size<=g)/\Below w.heap.size w w':=by
 obtain ⟨h1,Ha,Hb,hE,Hg,Hf,Hc,He,tb,b,tc,hv,pb,db,ao,pc,s,k1,k2,k3,k4,k5,k6,k7⟩:=h;have hp:ap w pb db ao pc t.ds s.us:=by rw [<- Ol.gV k4];exact k5.pool
 refine (zl Ba tb t.m Bd Be hv s.cp pb db ao pc t.ds s.us w k1 hp (Dvs.ie h1.devs)).mono ?_;rintro e w' ⟨v,rfl,hr,hb⟩;obtain ⟨ao,c,g,hv,h0,hc⟩:=hr;subst hv;refine ⟨ao,g,c,rfl,⟨ao,c,rfl,λhl=>⟨(h0 hl).1,(h0 hl).2.2,λk hk=>?_⟩⟩,λhl=>(h0 hl).2.1,hb⟩;rw [Qd];exact ⟨(hc k hk).1,(hc k hk).2.1,(hc k hk).2.2.1⟩
end
theorem Nj {ds:List Dv} {ns:List Nd} {l:List Int} (h:Ol.xH ds ns l) (hm:∀ n∈ns,n.many≠0):ns.length<=l.length:=by
 have key:∀ ns:List Nd,(∀ n∈ns,1<=n.many)->(ns.length:Int)<=(ns.map Nd.many).sum:=by
  intro ns
  induction ns with
  | nil=>intro _;exact Int.le_refl _
  | cons n r ih=>
   intro h;have h1:=ih λx hx=>h x (Qv _ hx)
   have h2:=h n List.mem_cons_self;rw [Qq,List.sum_cons,Qg];omega
 have h1:=key ns λn hn=>by
  have a:=h.1 n hn;have b:=hm n hn;omega
 have h2:=h.2;omega
end
section
open RowKit Shelf
open Qos (Nd Ct Pd nd ct pd ag aB)
open Sv (Gv Hd gv hd)
open Dvs (Dv dv nth aL)
attribute [local go_sem] Oper.semAt_some
theorem Nk (c2 c7 c8 c9 c10 c11 c12 c13 c17 c20:Value) (F:Nat->Value) (W:World) (Bp cb co cc k n:Nat) (na:Option Addr) (nc:Nat) (ns:List Nd) (hp:W.cell? ⟨Bp,2,none⟩=some (.slice (some ⟨cb,co,none⟩) n cc)) (hk:k<n) (_hn:n<=1000) (hd:W.cell? ⟨cb,co+k*6+5,none⟩=some (.slice na ns.length nc)) (hns:bf W (.slice na ns.length nc) ns) (hs:∀ j,j<=ns.length->0<=fv ns j/\fv ns j<=1000) (hl:ns.length<=1000) :
  Code.wp prog (Code.loop (gu 2)) (kF 4 (FrS (λF=>frS c2 c7 c8 c9 c10 c11 c12 c13 (.pointer (some ⟨Bp,0,none⟩)) (.int .i64 (k:Nat)) c17 (.int .i64 (fv ns ns.length)) (F 19) (F 20) F) λW'=>W'=W)) (frS c2 c7 c8 c9 c10 c11 c12 c13 (.pointer (some ⟨Bp,0,none⟩)) (.int .i64 (k:Nat)) c17 (.int .i64 0) (.int .i64 0) c20 F) W:=by
 obtain ⟨nao,nc',He,_,Ha⟩:=hns;have Hi:nao=na:=by injection He with e;exact e.symm
 subst Hi;have Hg:=qI Ha;have HS:=qI hs;clear Ha hs He;simp only [frS,tlS,Nat.reduceAdd]
 conv=>enter [2,1];unfold gu;whnf
 go_loopw [18,19] (λs i wq=>∃ q:Nat,q<=ns.length/\s=.int .i64 (fv ns q)/\i=.int .i64 q/\wq=W) (λ_ i _=>ns.length - (intOf i).toNat)
 case atStart=>exact ⟨0,Nat.zero_le _,rfl,rfl,rfl⟩
 case round=>
  obtain ⟨q,hq,rfl,rfl,rfl⟩:=hrel
  by_cases hlt:q<ns.length
  ·obtain ⟨nb,no,Hh,Hj,Hc⟩:=Hg.out (by omega);subst Hh;obtain ⟨_,q1⟩:=Hc q hlt;have Hb:=qI (Nh hlt);have h1:=HS.out q hq;have h2:=HS.out (q+1) hlt;rw [Hb.out] at h2;clear Hc;generalize nd ns q=x at *;generalize fv ns q=ma at *
   go_wp2
   go_roundw
   case rel=>exact ⟨q+1,by omega,by rw [Hb.out],by go_num,by first|rfl|trivial⟩
   case measure=>simp [intOf];omega
  ·have Hf:q=ns.length:=by omega
   subst Hf
   go_wp2
   exact ⟨rfl,FrS.mk (by kernel_rfl) (by first|rfl|trivial)⟩
end
