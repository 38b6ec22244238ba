import Derived.Test.YtbmmnflgnmjboaaGreatDoorR35
import Derived.Test.YtbmmnflgnmjboaaGreatDoorR21
set_option maxRecDepth 100000
set_option maxHeartbeats 16000000
open Go.Proofs.Tryz
namespace Go.Proofs.YtbmmnflgnmjboaaGreatDoor
section
open RowKit Shelf
open Ost (Cpu ad)
open Qos (Nd Ct Pd nd ct pd af)
open Sv (Gv Hd gv hd gsF aB aF)
open Dvs (Dv dv aW)
attribute [local go_sem] Oper.semAt_some
theorem pu {B:Nat} {w W W':World} {K:Nat->Prop} (hb:Below B w W) (hB:B<=W.heap.size) (ha:Apart K W W') (hK:∀ j,K j->B<=j):Below B w W':=
 ⟨ha.os.trans hb.os,ha.tape.trans hb.tape,ha.output.trans hb.output,Q5 hb.size ha.size,λj hj=>(ha.block j (by omega) (λe=>by have:=hK j e;omega)).trans (hb.block j hj)⟩
theorem MN (c:Ol.Cf) (v1 v2:Value) (g o:Nat) (w:World) (h1:eH w v1 c.l) (h2:cU w v2 g o c.ds):Calls prog 9 #[km c v1 v2] w λe w'=>Ans e/\Below w.heap.size w w':=by
 obtain ⟨ca,cc,Hg⟩:∃ ca cc,v1=.slice ca c.l.length cc:=by
  rcases id h1 with ⟨hl,ao,q,rfl⟩|⟨b,o,q,rfl,_⟩
  ·exact ⟨ao,q,by rw [hl];rfl⟩
  ·exact ⟨_,q,rfl⟩
 obtain ⟨da,dc,He,hr⟩:=h2;subst Hg He;have HR:=qI hr;clear h1 hr;unfold km;generalize c.l.length=cl at *;have Ha:=qI ((Q0 w.heap.size w).alloc (lR) (.cells #[.slice ca cl cc,.int .u64 (c.keep:Nat),.int .i64 c.nb,.slice da c.ds.length dc,.int .i64 c.pol] 27));have Hf:=qI (aD w (.cells #[.slice ca cl cc,.int .u64 (c.keep:Nat),.int .i64 c.nb,.slice da c.ds.length dc,.int .i64 c.pol] 27) rfl)
 by_cases h70:70<cl
 ·go_enter func9,ntmps9
  go_wp2
  go_ret;exact ⟨⟨_,rfl⟩,Ha.out⟩
 have Hi:decide (70<(cl:Int))=false:=Q7 (by omega)
 by_cases h20:20<c.ds.length
 ·go_enter func9,ntmps9
  go_wp2
  go_ret;exact ⟨⟨_,rfl⟩,Ha.out⟩
 have Hj:decide (20<(c.ds.length:Int))=false:=Q7 (by omega);have Hc:c.ds.length<=20:=by omega
 clear h70 h20
 go_enter func9,ntmps9
 go_wp2_with fail
 generalize w.alloc (.cells #[.slice ca cl cc,.int .u64 (c.keep:Nat),.int .i64 c.nb,.slice da c.ds.length dc,.int .i64 c.pol] 27)=X at *
 go_loopw [3] (λi wr=>∃ k:Nat,k<=c.ds.length/\i=.int .i64 k/\wr=X) (λi _=>c.ds.length - (intOf i).toNat)
 case atStart=>exact ⟨0,Nat.zero_le _,rfl,rfl⟩
 case round=>
  obtain ⟨k,hk,rfl,rfl⟩:=hrel;have x3:wr.cell? ⟨w.heap.size,3,none⟩=some (.slice da c.ds.length dc):=aa Hf.out 3
  by_cases hlt:k<c.ds.length
  ·obtain ⟨rfl,Hb,hc⟩:=HR.out (by omega);have y0:wr.cell? ⟨g,o+k*3,none⟩=some (.string (dv c.ds k).kind):=(Ha.out.cell (p:=⟨g,o+k*3,none⟩) Hb).trans (hc k hlt).1;clear hc;generalize (dv c.ds k).kind=kd at *
   by_cases h30:30<kd.size
   ·go_wp2
    go_ret;exact ⟨⟨_,rfl⟩,Ha.out⟩
   ·have Hh:decide (30<(kd.size:Int))=false:=Q7 (by omega);clear h30
    go_wp2
    go_roundw
    case rel=>exact ⟨k+1,by omega,by go_num,trivial⟩
    case measure=>simp [intOf];omega
  ·go_wp2
   go_ret;exact ⟨⟨_,rfl⟩,Ha.out⟩
end
section
open RowKit Shelf
open Ost (Cpu ad)
open Qos (Nd Ct Pd nd ct pd af)
open Sv (Gv Hd gv hd gsF aB aF)
open Dvs (Dv dv aW)
open S1 (Mx)
attribute [local go_sem] Oper.semAt_some
theorem pw {N:Nat->Prop} {Ba Bd Be Bm:Nat} {t:Ol.St} {dk:Dk} {n:Nat} {w:World} (h:aK w N Ba Bd Be Bm t dk n):Calls prog 15 #[.pointer (some ⟨Ba,0,none⟩)] w λe w'=>∃ a c,e=.returned (.slice a t.hs.length c)/\aJ (fresh w.heap.size w') (.slice a t.hs.length c) t.hs/\Below w.heap.size w w':=by
 obtain ⟨h1,Ha,Hb,hE,Hg,He,Hf,Hc,tb,b,tc,hv,pb,db,ao,pc,s,k1,k2,k3,k4,k5,k6,k7⟩:=h;obtain ⟨a1,a2,a3⟩:=Ol.bO.1 h1.held;exact LE Ba tb t.m Bd Be hv s.cp pb t.hs w k1 (k2.le (cC _ _)) a2 (by omega)
theorem MO {t:Ol.St} {p:Pd} (h:(Ol.aR t p).1=0):cA (Ol.aR t p).2 p.nm=true:=by
 rcases two (cA (Ol.aR t p).2 p.nm) with e|e
 ·exact e
 ·exfalso
  have h1:=Ol.wH h;have h2:=Ol.xB h;rw [zQ e] at h1;rw [h1] at h2;omega
theorem MP {W:World} {b:Nat} {nm:ByteArray} (h:W.heap[b]?=some (.cells #[.string nm,.int .i64 0,.int .i64 0,.int .i64 0,.int .i64 0,.slice none 0 0] 63 (0,0))):aE W (.slice (some ⟨b,0,none⟩) 1 1) [⟨nm,0,0,0,0,[]⟩]:=by
 have hl:b<W.heap.size:=(gS h).1;refine ⟨_,_,rfl,⟨lR,by decide⟩,λ_=>⟨b,0,λ_=>.slice none 0 0,rfl,hl,λk hk=>?_⟩⟩;have Ha:k=0:=by simp at hk;exact hk
 subst Ha;refine ⟨λj hj=>?_,⟨none,0,rfl,by simp [ct],λh=>by simp [ct] at h⟩⟩
 have:=aa h j
 simp only [Nat.zero_mul,Qd];rw [this]
 have:j=0\/j=1\/j=2\/j=3\/j=4\/j=5:=by omega
 rcases this with rfl|rfl|rfl|rfl|rfl|rfl <;> rfl
theorem MQ {W:World} {b:Nat} (h:W.heap[b]?=some (.cells #[.int .i64 0,.int .i64 0,.int .i64 0] 84 (0,0))):eH W (.slice (some ⟨b,0,none⟩) 1 1) [⟨0,0,0⟩]:=by
 refine .inr ⟨b,0,1,rfl,λk hk=>?_⟩;have hk0:k=0:=by simp at hk;exact hk
 subst hk0;exact ⟨aa h 0,aa h 1,aa h 2⟩
abbrev jR:Nat->Prop:=λ_=>False
abbrev lK:=λ(x0 x1 x2:Nat)=>(.cells #[.pointer (some ⟨x0,0,none⟩),.pointer (some ⟨x1,0,none⟩),.pointer (some ⟨x2,0,none⟩)] 36:Obj)
abbrev nD:=(.cells #[.string ⟨#[120]⟩,.int .i64 0,.int .i64 0,.int .i64 0,.int .i64 0,.slice none 0 0] 63:Obj)
abbrev sN:=(.cells #[.int .i64 0,.int .i64 0,.int .i64 0] 84:Obj)
theorem MR (w:World) (ht:ci w) (hm:Mx w):Calls prog 8 #[] w λe w'=>e=.returned (.bool true)/\Below w.heap.size w w':=by
 have Hi:=qI ((Q0 w.heap.size w).alloc (lR) (sN));have HR:=qI (aD w (sN) rfl);have HT:=qI ht;have HM:=qI hm;have H0:0<w.heap.size:=ht.2;clear ht hm
 go_enter func8,ntmps8
 go_wp2_with fail
 generalize w.alloc (sN)=X at *;refine (zv Ol.wC (.slice (some ⟨w.heap.size,0,none⟩) 1 1) (.slice none 0 0) 0 0 X (MQ HR.out) ⟨none,0,rfl,λh=>by simp [Ol.wC] at h⟩ (by decide) (HT.out.below Hi.out) (HM.out.below Hi.out)).mono ?_;rintro e W1 ⟨Hm,Hb,Hf⟩;clear Hm;obtain ⟨Ba,Bd,Be,Bm,rfl,Hu,l1,l2,l3,l4⟩:=Hb Ol.Il;have hX:w.heap.size<=X.heap.size:=Hi.out.size;have Ht:Hid (Below w.heap.size w W1):=Hi.out.trans (Hf.mono hX);have Hl:=qI Hu;have h3:∀ j,three Ba Bd Bm j->w.heap.size<=j:=λj hj=>by
  rcases hj with e|e|e <;> omega
 have H3:=qI h3;have HK:Hid (¬ three Ba Bd Bm 0):=λe=>by have:=h3 _ e;omega
 clear Hb Hf Hu h3;have Hy:=qI (Ht.out.alloc Ht.out.size (lK Bd Be Ba));have Hw:=qI ((Q0 W1.heap.size W1).alloc (lR) (lK Bd Be Ba));have HB:=qI (aD W1 (lK Bd Be Ba) rfl);have HO:Hid ((W1.alloc (lK Bd Be Ba)).heap.size=W1.heap.size+1):=by unfold Hid;simp
 have x2:(W1.alloc (lK Bd Be Ba)).cell? ⟨W1.heap.size,2,none⟩=some (.pointer (some ⟨Ba,0,none⟩)):=aa HB.out 2
 go_upto_region 4 with fail
 generalize W1.alloc (lK Bd Be Ba)=Y at *;have Hj:=qI (Hy.out.alloc Hy.out.size (nD));have HP:=qI (Hw.out.alloc Hw.out.size (nD));have HW:=qI (aD Y (nD) rfl);have HE:=qI (bj HB.out (nD))
 go_wp2_with fail
 clear x2;generalize Y.alloc (nD)=Z at *;have lba:Ba<W1.heap.size:=by
  obtain ⟨_,_,_,_,_,_,_,_,_,_,_,_,_,_,_,_,_,k1,_⟩:=Hl.out;exact k1.lt
 obtain ⟨lbe,lbd,lbm⟩:=Hl.out.eng.lt;have HS:=HO.out;have Ho:=qI (zT jR Ba Bd Be Bm ⟨Ol.cz Ol.wC,Ol.wC.ds,[]⟩ Dk.fresh 0 Ol.wP (.slice (some ⟨Y.heap.size,0,none⟩) 1 1) Z (Hl.out.keep HP.out) (MP (by rw [bZ (by rintro (e|e|e|e) <;> first|exact e|omega)];exact HW.out)) (HT.out.below Hj.out) (by omega) (λl hl=>by
  have:l=[]:=by simpa using hl
  subst this;exact zD (l:=[]) (by simp)))
 unfold bG at Ho;clear HS;refine Ho.out.mono ?_;clear Ho;rintro e W4 ⟨rfl,⟨dk4,n4,HI,Hp⟩,Hh⟩;have Ha:(Ol.aR ⟨Ol.cz Ol.wC,Ol.wC.ds,[]⟩ Ol.wP).1=0:=Ol.Im;have Hr:=qI (MO Ha);have Hq:Hid ((Ol.aR ⟨Ol.cz Ol.wC,Ol.wC.ds,[]⟩ Ol.wP).2.length=1):=Ol.xB Ha;have Hg:Hid (Ol.eQ (Ol.aR ⟨Ol.cz Ol.wC,Ol.wC.ds,[]⟩ Ol.wP).2 Ol.wP.nm=[]):=Ol.wH Ha;have HY:n4<=36:=by
  have h1:=yR (ap []) (ap (Ol.aR ⟨Ol.cz Ol.wC,Ol.wC.ds,[]⟩ Ol.wP).2);have h2:=sd Hp.inv.held;dsimp only at HI h2;omega
 rw [Ha];generalize (Ol.aR ⟨Ol.cz Ol.wC,Ol.wC.ds,[]⟩ Ol.wP).2=HQ at *;have HG:=qI Hp;have HF:=qI (pu Hj.out Hj.out.size Hh H3.out);have Hn:Hid (∀ W,Apart (three Ba Bd Bm) Z W->ci W):=λW hW=>Mv (HT.out.below Hj.out) hW HK.out
 have Hx:=qI Hh;have Hz:Hid (¬ three Ba Bd Bm W1.heap.size):=λe=>by rcases e with e|e|e <;> omega
 have hZ:W1.heap.size<Z.heap.size:=(gS HE.out).1;have Hv:=qI ((Hh.block W1.heap.size hZ Hz.out).trans HE.out);have x2:W4.cell? ⟨W1.heap.size,2,none⟩=some (.pointer (some ⟨Ba,0,none⟩)):=aa Hv.out 2;rw [show au (((0:Nat)):Int)=.nilIface from rfl];clear Ha HI Hp Hh
 go_wp2_with fail
 refine (pw HG.out).mono ?_;rintro e W5 ⟨a5,c5,rfl,_,He⟩;dsimp only;rw [Hq.out];have Hs:=qI (HF.out.trans (He.mono HF.out.size));have HL:=qI (Hx.out.trans (Apart.of_below He));have HX:=qI (HG.out.keep He);have HZ:=He.size;have HQ:=Hx.out.size;have HD:=qI ((He.block W1.heap.size (by omega)).trans Hv.out);have x2':W5.cell? ⟨W1.heap.size,2,none⟩=some (.pointer (some ⟨Ba,0,none⟩)):=aa HD.out 2;clear He x2;have Hc:=qI (MJ jR Ba Bd Be Bm _ dk4 n4 Ol.wP.nm W5 HX.out (by omega) λW hW=>Hn.out W (HL.out.trans hW));dsimp only at Hc;rw [Hr.out,Hg.out] at Hc;unfold Ol.wP at Hc;dsimp only at Hc
 go_wp2_with fail
 refine Hc.out.mono ?_;rintro e W6 ⟨rfl,⟨dk6,n6,HU,HC⟩,Hk⟩;rw [show au (((if True then 0 else 6:Nat)):Int)=.nilIface from rfl];have HV:=qI HC;have HA:=qI (pu Hs.out Hs.out.size Hk H3.out);have HJ:=qI ((Hk.block W1.heap.size (by omega) Hz.out).trans HD.out);have x2'':W6.cell? ⟨W1.heap.size,2,none⟩=some (.pointer (some ⟨Ba,0,none⟩)):=aa HJ.out 2;clear HU HC Hk x2' Hc
 go_wp2_with fail
 refine (pw HV.out).mono ?_;rintro e W7 ⟨a7,c7,rfl,_,HH⟩;dsimp only;have HN:=qI (HA.out.trans (HH.mono HA.out.size));clear HH
 go_wp2
 go_ret;exact ⟨rfl,HN.out⟩
end
section
open RowKit Shelf
open Qos (Nd Ct Pd nd ct pd af)
open Sv (Gv Hd gv hd gsF aB aF)
attribute [local go_sem] Oper.semAt_some
theorem MS (t:Ol.St) (p:Pd):((Ol.aR t p).1≠0/\(Ol.aR t p).2=t.hs)\/((Ol.aR t p).1=0/\∃ gs,(Ol.aR t p).2=Ol.bB t.hs ⟨p,gs⟩):=by
 unfold Ol.aR
 split
 ·rename_i h;exact .inl ⟨h,rfl⟩
 split
 ·exact .inl ⟨by simp,rfl⟩
 split
 ·exact .inl ⟨by simp,rfl⟩
 split
 ·exact .inl ⟨by simp,rfl⟩
 split
 ·rename_i h;exact .inl ⟨h,rfl⟩
 split
 ·exact .inl ⟨by simp,rfl⟩
 ·exact .inr ⟨rfl,_,rfl⟩
open Classical in
theorem MT (hs:List Hd) (i:Nat) (x:Hd):dK (ap hs) (ap (hs.take i++x :: hs.drop i))<=x.gs.length:=by
 have e:ap (hs.take i++x :: hs.drop i)=ap (hs.take i)++((List.range x.gs.length).map (ir x)++ap (hs.drop i)):=by
  unfold ap;rw [List.flatMap_append,List.flatMap_cons]
 have h1:=po (sL (List.take_sublist i hs));have h2:=po (sL (List.drop_sublist i hs));unfold dK at h1 h2 ⊢;rw [e,List.filter_append,List.filter_append,Q2,Q2,h1,h2]
 have:=List.length_filter_le (λr=>decide (r ∉ ap hs)) ((List.range x.gs.length).map (ir x))
 rw [Q9,List.length_range] at this;omega
theorem MU {t:Ol.St} (h:Ol.Inv t) (p:Pd):dK (ap t.hs) (ap (Ol.aR t p).2)<=3:=by
 rcases MS t p with h1|⟨_,gs,h1⟩
 ·rw [h1.2,po λ_ h=>h];omega
 ·have hi:=(Ol.Gn h p).held;have hi:aB (Ol.aR t p).2=0:=hi;rw [h1] at hi ⊢;have hx:(⟨p,gs⟩:Hd)∈Ol.bB t.hs ⟨p,gs⟩:=by unfold Ol.bB;simp
  obtain ⟨_,a2,_⟩:=Ol.bO.1 hi;obtain ⟨b1,b2,_⟩:=a2 _ hx;have b3:=(Sv.fD b1).2.2.1
  have:=MT t.hs (Ol.b8 t.hs p.nm) ⟨p,gs⟩
  unfold Ol.bB;dsimp only at this b2 b3 ⊢;omega
section
variable {N:Nat->Prop} {Ba Bd Be Bm:Nat} {t:Ol.St} {dk:Dk} {n:Nat} {w:World}
theorem MV {p:Pd} {cv:Value} (hM:aK w N Ba Bd Be Bm t dk n) (hp:aE (ag (four N Ba Bd Bm) w) cv p.cs) (ht:ci w) (hn:n+36<=1000):Calls prog 23 #[.pointer (some ⟨Ba,0,none⟩),bG p cv] w λe w'=>e=.returned (au ((Ol.aR t p).1:Nat))/\(∃ dk' n',(n'<=n+3/\fK w w' Ba)/\aK w' N Ba Bd Be Bm ⟨t.m,t.ds,(Ol.aR t p).2⟩ dk' n')/\Apart (three Ba Bd Bm) w w':=by
 have He:=(Ol.bO.1 hM.inv.held).1;refine (zT N Ba Bd Be Bm t dk n p cv w hM hp ht hn λl hl=>?_).mono ?_
 ·have Hc:l.length=t.hs.length:=by rw [<- hl,Q9]
  exact MI (by rw [Hc];unfold Ol.b8;exact List.countP_le_length) (by omega)
 ·rintro e w' ⟨rfl,⟨dk',n',⟨Hf,Ha⟩,Hb⟩,ha⟩;exact ⟨rfl,⟨dk',n',⟨by have:=MU hM.inv p;omega,Ha⟩,Hb⟩,ha⟩
theorem zU (h:aK w N Ba Bd Be Bm t dk n):Calls prog 15 #[.pointer (some ⟨Ba,0,none⟩)] w λe w'=>∃ a c,e=.returned (.slice a t.hs.length c)/\aJ (ag (three Ba Bd Bm) w') (.slice a t.hs.length c) t.hs/\Below w.heap.size w w':=by
 obtain ⟨l1,l2,l3⟩:=h.eng.lt;have l4:Ba<w.heap.size:=by
  obtain ⟨_,_,_,_,_,_,_,_,_,_,_,_,_,_,_,_,_,k1,_⟩:=h;exact k1.lt
 refine (pw h).mono ?_;rintro e w' ⟨a,c,rfl,hh,hb⟩;refine ⟨a,c,rfl,hh.le (bE (λj _ hn=>⟨λe=>hn ?_,rfl⟩) (lR)),hb⟩
 rcases e with e|e|e
 all_goals show j<w.heap.size;omega
theorem MW (h:aK w N Ba Bd Be Bm t dk n):Calls prog 18 #[.pointer (some ⟨Ba,0,none⟩)] w λe w'=>(∃ s,Ol.left t.m t.ds t.hs=some s/\e=.returned (.int .u64 (s.cp:Nat)))/\w'=w:=by
 obtain ⟨h1,Ha,Hb,hE,Hg,He,Hf,Hc,tb,b,tc,hv,pb,db,ao,pc,s,k1,k2,k3,k4,k5,k6,k7⟩:=h;have x8:w.cell? ⟨Ba,8,none⟩=some (.int .u64 s.cp):=aa k1 8;have HL:=qI k4;clear h1 Ha Hb hE Hg He Hf Hc k1 k2 k3 k4 k5 k6 k7
 go_enter func18,ntmps18
 go_wp2
 go_ret;exact ⟨⟨s,HL.out,rfl⟩,rfl⟩
end
end
section
open RowKit Shelf
open Ost (Cpu ad)
open Qos (Nd Ct Pd nd ct pd af)
open Sv (Gv Hd gv hd gsF aB aF)
open Dvs (Dv dv aW)
theorem MX {t:Ol.St} (h:Ol.Inv t):∀ x∈t.hs,x.gs.length<=3:=λx hx=>by
 obtain ⟨_,a2,_⟩:=Ol.bO.1 h.held;obtain ⟨b1,b2,_⟩:=a2 x hx
 have:=(Sv.fD b1).2.2.1
 omega
theorem MY {t:Ol.St} (h:Ol.Inv t):∀ x∈t.hs,∀ g∈x.gs,g.dv.length<=16:=λx hx g hg=>by
 obtain ⟨_,a2,_⟩:=Ol.bO.1 h.held;obtain ⟨_,_,b3⟩:=a2 x hx;obtain ⟨k,hk,rfl⟩:=Sv.ox hg;exact (Sv.vF (Dvs.cR b3 k hk)).1
section
variable {N:Nat->Prop} {Ba Bd Be Bm:Nat} {t:Ol.St} {dk:Dk} {n:Nat} {w:World}
end
end
section
open RowKit Shelf
open Ost (Cpu ae dif cnt)
open Qos (Nd Ct Pd nd ct pd af aO aP)
open Sv (Gv Hd gv hd)
end
section
open RowKit Shelf
open Ost (Cpu ad)
open Qos (Nd Ct Pd nd ct pd af)
open Sv (Gv Hd gv hd gsF aB aF)
open Dvs (Dv dv aW)
section
variable {N:Nat->Prop} {Ba Bd Be Bm:Nat} {t:Ol.St} {dk:Dk} {n:Nat} {w:World}
theorem aK.lts (h:aK w N Ba Bd Be Bm t dk n):(Ba<w.heap.size/\Bd<w.heap.size/\Bm<w.heap.size)/\Be<w.heap.size:=by
 obtain ⟨l1,l2,l3⟩:=h.eng.lt;obtain ⟨_,_,_,_,_,_,_,_,_,_,_,_,_,_,_,_,_,k1,_⟩:=h;exact ⟨⟨k1.lt,l2,l3⟩,l1⟩
theorem aK.ost (h:aK w N Ba Bd Be Bm t dk n):∃ arr,w.heap[Ba]?=some (Obj.cells arr 115 (0,0))/\∃ p,w.cell? ⟨Ba,0,none⟩=some (.pointer p):=by
 obtain ⟨_,_,_,_,_,_,_,_,_,_,_,_,_,_,_,_,_,k1,_⟩:=h;exact ⟨_,k1,_,aa k1 0⟩
theorem aK.not3 (h:aK w N Ba Bd Be Bm t dk n) {j:Nat} {v:Value} (hv:w.cell? ⟨j,0,none⟩=some v) (h1:∀ p,v≠.pointer p) (h2:∀ b,v≠.bool b):¬ three Ba Bd Bm j:=by
 obtain ⟨_,_,p,ho⟩:=h.ost;have hd:=h.eng.disk;unfold aC at hd;have hd0:=aa hd 0;obtain ⟨xs,hm,_⟩:=h.eng.map;have Ha:∀ v,w.cell? ⟨Bm,0,none⟩≠some v:=λv e=>by
  obtain ⟨_,es,⟨ms,clock,hh,_⟩,_⟩:=hm
  simp [World.cell?,hh] at e
 rintro (e|e|e) <;> subst e
 ·rw [ho] at hv;exact h1 p (Ql hv).symm
 ·rw [hd0] at hv;exact h2 _ (Ql hv).symm
 ·exact Ha v hv
end
end
section
open RowKit Shelf
open Qos (Nd Ct Pd nd ct pd af)
open Sv (Gv Hd gv hd)
open Dvs (Dv dv aW)
attribute [local go_sem] Oper.semAt_some
def NS (w:World) (Ba j:Nat):Prop:=∃ pb n c,w.cell? ⟨Ba,9,none⟩=some (.pointer (some ⟨pb,0,none⟩))/\0<n/\w.cell? ⟨pb,0,none⟩=some (.slice (some ⟨j,0,none⟩) n c)
section
variable {N:Nat->Prop} {Ba Bd Be Bm:Nat} {t:Ol.St} {dk:Dk} {n:Nat} {w:World}
end
end
section
open RowKit Shelf
open Qos (Nd Ct Pd nd ct pd af cO)
open Sv (Gv Hd gv hd)
open Dvs (Dv dv aW)
attribute [local go_sem] Oper.semAt_some
def MZ (w:World) (N:Nat->Prop) (Ba Bd Be Bm:Nat) (t:Ol.St) (n:Nat) (us:List Nd) (most:Int) (e:Ending) (w':World):Prop:=
 ∃ (qs:List Pd) (g:Nat) (nv:Value),e=.returned (.tuple #[nv,.nilIface])/\mW w' nv ((qs.take g).map Pd.nm)/\oZ us (t.hs.map Hd.pod) qs/\cO us qs most 0 g/\(∃ dk' n',(n'<=n/\fK w w' Ba)/\aK w' N Ba Bd Be Bm ⟨t.m,t.ds,bW t.hs ((qs.take g).map Pd.nm)⟩ dk' n')/\Apart (three Ba Bd Bm) w w'
theorem M3 {t:Ol.St} (h:Ol.Inv t):ks (t.hs.map Hd.pod):=by
 obtain ⟨a1,a2,_⟩:=Ol.bO.1 h.held;refine ⟨by rw [Q9];omega,λx hx=>?_⟩;obtain ⟨y,hy,rfl⟩:=Qk.1 hx;have hp:=(a2 y hy).1;have s1:=(Sv.g9 (Sv.fD hp).1).2;have e1:y.pod.nm.data.toList.length=y.pod.nm.size:=by simp
 exact ⟨Qos.ju hp,by omega⟩
section
variable {N:Nat->Prop} {Ba Bd Be Bm:Nat} {t:Ol.St} {dk:Dk} {n:Nat} {w:World}
theorem M4 {uv:Value} {us:List Nd} {most:Int} (h:aK w N Ba Bd Be Bm t dk n) (hu:be w uv us) (hfu:lq us) (hm1:-9223372036854775808<=most) (hm2:most<=9223372036854775807) (hn:n+36<=1000) (ht:∀ W,Apart (three Ba Bd Bm) w W->ci W) :
  Calls prog 26 #[.pointer (some ⟨Ba,0,none⟩),uv,.int .i64 most] w (MZ w N Ba Bd Be Bm t n us most):=by
 have hH:=h;have HN:=(Ol.bO.1 h.inv.held).1;obtain ⟨h1,h2,HW,h3,h4,h5,h6,h7,tb,b,c,hv,pb,db,ao,pc,s,k1,k2,k3,k4,k5,k6,k7⟩:=h;have hh:aJ w hv t.hs:=k2.le (cC _ _);obtain ⟨ha,hc,HK,_⟩:=id hh;subst HK;have x7:w.cell? ⟨Ba,7,none⟩=some (.slice ha t.hs.length hc):=aa k1 7;obtain ⟨ua,uc,HJ,_⟩:=id hu;subst HJ;have HH:=qI hH;have HL:=qI hh;have HU:=qI hu;have HT:=qI ht;have HV:=qI hfu;have Hs:=qI (M3 h1);clear hH hh hu ht hfu h1 h2 HW h3 h4 h5 h6 h7 k1 k2 k3 k4 k5 k6 k7
 go_enter func26,ntmps26
 go_wp2_with fail
 refine (wb _ t.hs w HL.out (by omega)).mono ?_;rintro e W1 ⟨pv,rfl,Hc,HD⟩;have Hi:=qI (pf Hc);have He:=qI HD;clear Hc HD x7;obtain ⟨PS,Hh⟩:∃ PS,PS=t.hs.map Hd.pod:=⟨_,rfl⟩;rw [<- Hh] at Hi Hs;have Hx:=qI Hh;have Ht:PS.length=t.hs.length:=by rw [Hh,Q9]
 have HR:=qI Ht;clear Hh Ht;obtain ⟨pa,pcc,HX,_⟩:=id Hi.out;subst HX
 go_wp2_with fail
 refine (KH _ _ PS us most W1 Hi.out (HU.out.below He.out) Hs.out HV.out hm1 hm2).mono ?_;rintro e W2 ⟨⟨nv,qs,g,rfl,Hw,HA,hle⟩,HE⟩;have Ha:=qI (He.out.trans (HE.mono He.out.size));have Hm:=qI HA;have Hq:=qI hle;have Hv:=qI Hw;have Hl:=qI (HH.out.keep Ha.out);obtain ⟨na,nc,HM,HQ,Hr⟩:=Hw;subst HM;have Hz:=qI Hr;clear HE HA hle Hr HQ He Hi;have Hp:((qs.take g).map Pd.nm).length<=t.hs.length:=by
  have:=Hm.out.1.length_eq
  have:=HR.out
  rw [Q9,Qu];omega
 obtain ⟨L,hL⟩:∃ L,L=(qs.take g).map Pd.nm:=⟨_,rfl⟩;rw [<- hL] at Hp Hz Hv;rw [<- hL];have Hf:=qI hL;clear hL
 by_cases hl0:L.length=0
 ·have HB:L=[]:=Qe hl0;have HC:=qI HB;rw [hl0];clear hl0 HB Hp
  go_wp2
  go_ret2;refine ⟨qs,g,.slice none 0 0,rfl,?_,by rw [<- Hx.out];exact Hm.out,Hq.out,⟨dk,n,⟨lR,.inl (Ha.out.block Ba HH.out.poolAt.1)⟩,?_⟩,Apart.of_below Ha.out⟩
  ·rw [<- Hf.out,HC.out];exact ⟨none,0,rfl,lR,λh=>absurd h (by simp)⟩
  ·rw [<- Hf.out,HC.out];exact Hl.out
 ·have H1:((L.length:Int) == 0)=false:=by rw [Qr];omega
  obtain ⟨nb,HY,Hn,Hg⟩:=Hz.out (by omega);subst HY;have Hu:=Hg 0 (by omega);have Hj:=Hl.out.not3 Hu (λ_ e=>by cases e) (λ_ e=>by cases e);have HP:=qI Hj;have Hb:0<t.hs.length:=by omega
  have HG:=qI (zP N Ba Bd Be Bm t dk n L nb 0 nc W2 Hl.out (λk hk=>by rw [Qd,Hg k hk];simp [hk]) ⟨λe=>Hj (.inr (.inl e)),λe=>Hj (.inr (.inr e))⟩ Hn (by omega) Hb hn λW hW=>HT.out W ((Apart.of_below Ha.out).trans hW));have H0:=qI Hg;have H2:=qI Hn;have HZ:=qI hl0;clear Hu Hj Hg Hn hl0 Hb Hp
  go_wp2_with fail
  refine HG.out.mono ?_;rintro e W3 ⟨rfl,⟨dk3,n3,⟨Ho,HI⟩,Hy⟩,HF⟩;have HO:=qI Hy;have HS:=qI (HI.old Ha.out HH.out.poolAt.1);have Hk:=qI HF;clear Hy HI HF HG
  go_wp2
  go_ret2;refine ⟨qs,g,.slice (some ⟨nb,0,none⟩) L.length nc,rfl,?_,by rw [<- Hx.out];exact Hm.out,Hq.out,⟨dk3,n3,⟨Ho,HS.out⟩,by rw [<- Hf.out];exact HO.out⟩,(Apart.of_below Ha.out).trans Hk.out⟩;rw [<- Hf.out];obtain ⟨a',c',e',q',r'⟩:=Hv.out;refine ⟨a',c',e',q',λh0=>?_⟩;obtain ⟨g',ea,gl,gc⟩:=r' h0;have eg:g'=nb:=by
   rw [ea] at e';injection e' with e1
   injection e1 with e1
   injection e1 with e1
   exact e1.symm
  subst eg;exact ⟨g',ea,Q1 gl Hk.out.size,λk hk=>(jN (Hk.out.block g' gl HP.out) k).trans (gc k hk)⟩
end
end
section
open RowKit Shelf
open Qos (Nd Ct Pd nd ct pd af cO)
open Sv (Gv Hd gv hd)
open Dvs (Dv dv aW)
attribute [local go_sem] Oper.semAt_some
section
variable {N:Nat->Prop} {Ba Bd Be Bm:Nat} {t:Ol.St} {dk:Dk} {n:Nat} {w:World}
end
end
section
open RowKit Shelf
open Qos (Nd Ct Pd nd ct pd af)
open Sv (Gv Hd gv hd)
open Dvs (Dv dv aW)
section
variable {Ba Bd Be Bm:Nat} {t:Ol.St} {dk:Dk} {n:Nat} {w:World}
theorem M5 {c:Ol.Cf} (h:Ol.b6 c=0):0<=(Ol.cz c).nb:=by
 unfold Ol.b6 at h
 repeat' (split at h;· first|cases h|(rename_i h1;exact absurd h h1))
 all_goals (show 0<=c.nb;omega)
end
end
section
open RowKit Shelf
open Qos (Nd Ct Pd nd ct pd af)
open Dvs (Dv dv nth)
attribute [local go_sem] Oper.semAt_some
def fu (ns:List Nd) (k:Nat):Int:=((ns.take k).map Nd.many).sum
theorem M6 {ns:List Nd} {k:Nat} (h:k<ns.length):fu ns (k+1)=fu ns k+(nd ns k).many:=by
 unfold fu;rw [Qa h,Qj,List.sum_append];simp [nd,h]
end
section
open RowKit Shelf
open Qos (Nd Ct Pd nd ct pd af)
open Sv (Gv Hd gv hd)
open Dvs (Dv dv nth)
section
variable {N:Nat->Prop} {Ba Bd Be Bm:Nat} {t:Ol.St} {dk:Dk} {n:Nat} {w:World}
theorem M7 (h:aK w N Ba Bd Be Bm t dk n):Calls prog 19 #[.pointer (some ⟨Ba,0,none⟩)] w λe w'=>∃ a g c,e=.returned (.slice a t.ds.length c)/\cU w' (.slice a t.ds.length c) g 0 t.ds/\(0<t.ds.length->w.heap.size<=g)/\Below w.heap.size w w':=by
 obtain ⟨h1,Ha,Hb,hE,Hg,He,Hf,Hc,tb,b,tc,hv,pb,db,ao,pc,s,k1,k2,k3,k4,k5,k6,k7⟩:=h;have hp:ak w pb db ao pc t.ds s.us:=by rw [<- Ol.iO k4];exact k5.pool
 refine (zj Ba tb t.m Bd Be hv s.cp pb db ao pc t.ds s.us w k1 hp (Dvs.gW h1.devs)).mono ?_;rintro e w' ⟨v,rfl,hr,hb⟩;obtain ⟨ao,c,g,hv,h0,hc⟩:=hr;subst hv;refine ⟨ao,g,c,rfl,⟨ao,c,rfl,λhl=>⟨(h0 hl).1,(h0 hl).2.2,λk hk=>?_⟩⟩,λhl=>(h0 hl).2.1,hb⟩;rw [Qd];exact ⟨(hc k hk).1,(hc k hk).2.1,(hc k hk).2.2.1⟩
end
theorem M8 {ds:List Dv} {ns:List Nd} {l:List Int} (h:Ol.xH ds ns l) (hm:∀ n∈ns,n.many≠0):ns.length<=l.length:=by
 have key:∀ ns:List Nd,(∀ n∈ns,1<=n.many)->(ns.length:Int)<=(ns.map Nd.many).sum:=by
  intro ns
  induction ns with
  | nil=>intro _;exact Int.le_refl _
  | cons n r ih=>
   intro h;have h1:=ih λx hx=>h x (Qv _ hx)
   have h2:=h n List.mem_cons_self;rw [Qq,List.sum_cons,Qg];omega
 have h1:=key ns λn hn=>by
  have a:=h.1 n hn;have b:=hm n hn;omega
 have h2:=h.2;omega
end
section
open RowKit Shelf
open Qos (Nd Ct Pd nd ct pd af aA)
open Sv (Gv Hd gv hd)
open Dvs (Dv dv nth aL)
attribute [local go_sem] Oper.semAt_some
theorem M9 (c2 c7 c8 c9 c10 c11 c12 c13 c17 c20:Value) (F:Nat->Value) (W:World) (Bp cb co cc k n:Nat) (na:Option Addr) (nc:Nat) (ns:List Nd) (hp:W.cell? ⟨Bp,2,none⟩=some (.slice (some ⟨cb,co,none⟩) n cc)) (hk:k<n) (_hn:n<=1000) (hd:W.cell? ⟨cb,co+k*6+5,none⟩=some (.slice na ns.length nc)) (hns:be W (.slice na ns.length nc) ns) (hs:∀ j,j<=ns.length->0<=fu ns j/\fu ns j<=1000) (hl:ns.length<=1000) :
  Code.wp prog (Code.loop (gm 2)) (ja 4 (FrS (λF=>frS c2 c7 c8 c9 c10 c11 c12 c13 (.pointer (some ⟨Bp,0,none⟩)) (.int .i64 (k:Nat)) c17 (.int .i64 (fu ns ns.length)) (F 19) (F 20) F) λW'=>W'=W)) (frS c2 c7 c8 c9 c10 c11 c12 c13 (.pointer (some ⟨Bp,0,none⟩)) (.int .i64 (k:Nat)) c17 (.int .i64 0) (.int .i64 0) c20 F) W:=by
 obtain ⟨nao,nc',Hc,_,Hb⟩:=hns;have Hg:nao=na:=by injection Hc with e;exact e.symm
 subst Hg;have Hf:=qI Hb;have HS:=qI hs;clear Hb hs Hc;simp only [frS,tlS,Nat.reduceAdd]
 conv=>enter [2,1];unfold gm;whnf
 go_loopw [18,19] (λs i wq=>∃ q:Nat,q<=ns.length/\s=.int .i64 (fu ns q)/\i=.int .i64 q/\wq=W) (λ_ i _=>ns.length - (intOf i).toNat)
 case atStart=>exact ⟨0,Nat.zero_le _,rfl,rfl,rfl⟩
 case round=>
  obtain ⟨q,hq,rfl,rfl,rfl⟩:=hrel
  by_cases hlt:q<ns.length
  ·obtain ⟨nb,no,Hi,Hj,He⟩:=Hf.out (by omega);subst Hi;obtain ⟨_,q1⟩:=He q hlt;have Ha:=qI (M6 hlt);have h1:=HS.out q hq;have h2:=HS.out (q+1) hlt;rw [Ha.out] at h2;clear He;generalize nd ns q=x at *;generalize fu ns q=ma at *
   go_wp2
   go_roundw
   case rel=>exact ⟨q+1,by omega,by rw [Ha.out],by go_num,by first|rfl|trivial⟩
   case measure=>simp [intOf];omega
  ·have Hh:q=ns.length:=by omega
   subst Hh
   go_wp2
   exact ⟨rfl,FrS.mk (by kernel_rfl) (by first|rfl|trivial)⟩
end
