import Derived.Test.YtbmmnflgnmjboaaGreatDoorK27
set_option maxRecDepth 100000
set_option maxHeartbeats 16000000
namespace Go.Proofs.YtbmmnflgnmjboaaGreatDoor
section
open RowKit Shelf
open Qos (Nd Ct Pd nd ct pd ah aH)
open Sv (Gv Hd gv hd)
open Ost (dif cnt)
open Dvs (Dv dv aT clF bF first)
attribute [local go_sem] Oper.semAt_some
theorem JJ {W:World} {v:Value} {l:List Int} (h:bj W v l):∃ g o,fC W v g o l:=by
 obtain ⟨ao,c,rfl,hm,hr⟩:=h
 by_cases h0:0<l.length
 ·obtain ⟨b,o,ha,hlt,hc⟩:=hr h0;exact ⟨b,o,ao,c,rfl,λ_=>⟨ha,hlt,λk hk=>hc k hk⟩⟩
 ·exact ⟨0,0,ao,c,rfl,λh=>absurd h h0⟩
theorem wJ {B:Nat} {w:World} {v:Value} {ds:List Dv} (h:fX B w v ds):∃ g,bS w v g 0 ds:=by
 obtain ⟨ao,c,g,hv,h0,hc⟩:=h;refine ⟨g,ao,c,hv,λhl=>⟨(h0 hl).1,(h0 hl).2.2,λk hk=>?_⟩⟩;rw [Qd];exact ⟨(hc k hk).1,(hc k hk).2.1,(hc k hk).2.2.1⟩
def wK (ds:List Dv):Prop:=aT ds/\∀ k,k<ds.length->(dv ds k).kind.size<=8
theorem JK {ds:List Dv} (h:Dvs.fault ds=0):wK ds:=by
 refine ⟨Dvs.gH h,λk hk=>?_⟩;unfold Dvs.fault at h
 split at h
 ·cases h
 ·have:=Dvs.cO h k hk
  unfold Dvs.eG at this
  split at this
  ·cases this
  ·rename_i h1
   have h2:Dvs.aS (dv ds k).kind=true:=by simpa using h1
   have:=(Sv.gN h2).2
   have e:(dv ds k).kind.data.toList.length=(dv ds k).kind.size:=by simp
   omega
def JL (w':World) (sb pb db:Nat) (ao:Option Addr) (c:Nat) (e:Ending):Option Ol.Sk->Prop
 | some s'=>e=.returned (.bool true)/\w'.heap[sb]?=some (.cells #[.int .u64 s'.cp,.pointer (some ⟨pb,0,none⟩)] 98 (0,0))/\ap w' pb db ao c s'.ds s'.us
 | none=>e=.returned (.bool false)
abbrev gZ (pb sb:Nat):Nat->Prop:=λj=>j=pb\/j=sb
theorem qb {s:Ol.Sk} {g:Gv} {own:Int} {ns:List Nd} (h:¬ (g.cp &&& s.cp=g.cp/\(cnt g.cp:Int)=own/\first (clF s.ds.length s.us g.dv) g.dv.length=0)):Ol.cS s g own ns=none:=by unfold Ol.cS;rw [if_neg h]
theorem JM {s:Ol.Sk} {g:Gv} {own:Int} {ns:List Nd} (h:g.cp &&& s.cp=g.cp/\(cnt g.cp:Int)=own/\first (clF s.ds.length s.us g.dv) g.dv.length=0):(Ol.gr s.ds g.dv ns->Ol.cS s g own ns=some ⟨dif s.cp g.cp,s.ds,bF s.us g.dv⟩)/\(¬ Ol.gr s.ds g.dv ns->Ol.cS s g own ns=none):=by
 unfold Ol.cS;rw [if_pos h];exact ⟨λhj=>if_pos hj,λhj=>if_neg hj⟩
abbrev lH:=λ(y0 y1 y2:Nat) (va:Option Addr) (vc sb:Nat) (y6:Int) (pb:Nat) (w':World)=>w'.cell? ⟨y0,0,none⟩=some (.int .u64 (y1:Nat))/\w'.cell? ⟨y0,1,none⟩=some (.slice va y2 vc)/\w'.cell? ⟨sb,0,none⟩=some (.int .u64 y6)/\w'.cell? ⟨sb,1,none⟩=some (.pointer (some ⟨pb,0,none⟩))
abbrev JN:=λ(sb pb y2:Nat) (va:Option Addr) (y4 vc:Nat) (w':World)=>w'.cell? ⟨sb,1,none⟩=some (.pointer (some ⟨pb,0,none⟩))/\w'.cell? ⟨y2,1,none⟩=some (.slice va y4 vc)
theorem JO (sb pb db:Nat) (ao:Option Addr) (pc:Nat) (s:Ol.Sk) (g:Gv) (own:Int) (v u:Value) (ns:List Nd) (w:World) (hst:w.heap[sb]?=some (.cells #[.int .u64 s.cp,.pointer (some ⟨pb,0,none⟩)] 98 (0,0))) (hp:ap w pb db ao pc s.ds s.us) (hK:wK s.ds) (hcp:s.cp<18446744073709551616) (hg:g.cp<18446744073709551616) (hv:bj (ag (gZ pb sb) w) v g.dv) (hu:bc (ag (gZ pb sb) w) u ns) (hdl:g.dv.length<=1000) (hnl:ns.length<=1000) (hns:∀ k,k<ns.length->(nd ns k).kind.size<=1000/\-1000000<=(nd ns k).many/\(nd ns k).many<=1000000) (hdb:0<s.ds.length->db≠sb) :
  Calls Tryz.prog 125 #[.pointer (some ⟨sb,0,none⟩),.agg #[.int .u64 (g.cp:Nat),v],.int .i64 own,u] w λe w'=>JL w' sb pb db ao pc e (Ol.cS s g own ns)/\Apart (gZ pb sb) w w':=by
 have hsl:sb<w.heap.size:=(gS hst).1;have hpl:=hp.lt;have hne:sb≠pb:=λe=>by
  subst e;have h0:=hp.row;rw [ad hst 0] at h0;cases h0
 have HST:=qI hst;have HP:=qI hp;have HV:=qI hv;have HU:=qI hu;have HNS:=qI hns;have HK:=qI hK;obtain ⟨va,vc,rfl,_,_⟩:=id hv;have HBA:=qI ((Q0 w.heap.size w).alloc (lR) (.cells #[.int .u64 (g.cp:Nat),.slice va g.dv.length vc] 69));have HXA:=qI (aG w (.cells #[.int .u64 (g.cp:Nat),.slice va g.dv.length vc] 69) rfl);have hsA:(w.alloc (.cells #[.int .u64 (g.cp:Nat),.slice va g.dv.length vc] 69)).heap.size=w.heap.size+1:=by simp
 have HIN:=qI (λ(W:World)=>jq g.cp s.cp W hg hcp);have HCT:=qI (S1.jK g.cp);have hcnt:(Ost.aI g.cp 64).length=cnt g.cp:=rfl;rw [hcnt] at HCT;clear hcnt;have x0:(w.alloc (.cells #[.int .u64 (g.cp:Nat),.slice va g.dv.length vc] 69)).cell? ⟨w.heap.size,0,none⟩=some (.int .u64 (g.cp:Nat)):=ad HXA.out 0;have x1:(w.alloc (.cells #[.int .u64 (g.cp:Nat),.slice va g.dv.length vc] 69)).cell? ⟨w.heap.size,1,none⟩=some (.slice va g.dv.length vc):=ad HXA.out 1;have s0:(w.alloc (.cells #[.int .u64 (g.cp:Nat),.slice va g.dv.length vc] 69)).cell? ⟨sb,0,none⟩=some (.int .u64 s.cp):=ad (bx HST.out _) 0;have s1:(w.alloc (.cells #[.int .u64 (g.cp:Nat),.slice va g.dv.length vc] 69)).cell? ⟨sb,1,none⟩=some (.pointer (some ⟨pb,0,none⟩)):=ad (bx HST.out _) 1;have HG:=qI hg;have HCP:=qI hcp;clear hst hp hv hu hns hK
 go_enter Tryz.func125,Tryz.ntmps125
 by_cases h1:g.cp &&& s.cp=g.cp
 ·have h1d:decide (g.cp &&& s.cp=g.cp)=true:=Qc h1;simp only [h1d] at HIN
  by_cases h2:(cnt g.cp:Int)=own
  ·have HC2:=qI h2;have h2d:((cnt g.cp:Int) != own)=false:=by simp [h2]
   have H1:=qI h1;have HIS:Hid (∀ W,Calls Tryz.prog 38 #[.int .u64 (g.cp:Nat),.int .u64 s.cp] W λe w'=>e=.returned (.bool true)/\w'=W):=HIN.out;obtain ⟨cg,hcg⟩:∃ x,x=cnt g.cp:=⟨_,rfl⟩;rw [<- hcg] at HCT h2d;have HSX:Hid ((lH w.heap.size g.cp g.dv.length va vc sb s.cp pb) (w.alloc (.cells #[.int .u64 (g.cp:Nat),.slice va g.dv.length vc] 69)).drew):=⟨x0,x1,s0,s1⟩;have HPX:Hid (ap (w.alloc (.cells #[.int .u64 (g.cp:Nat),.slice va g.dv.length vc] 69)).drew pb db ao pc s.ds s.us):=(HP.out.alloc _).drewN 1;have HVX:=qI (HV.out.le ((ci _ _).trans (aB.of_below (bf HBA.out))));obtain ⟨ng,no,hnums⟩:=JJ HVX.out;have HCL:=qI (FV (.slice va g.dv.length vc) ng no g.dv (w.alloc (.cells #[.int .u64 (g.cp:Nat),.slice va g.dv.length vc] 69)).drew pb db ao pc s.ds s.us HPX.out HK.out.1 hnums (by omega));have HAX:Hid (Apart (gZ pb sb) w (w.alloc (.cells #[.int .u64 (g.cp:Nat),.slice va g.dv.length vc] 69)).drew):=Apart.of_below (bf HBA.out);have hsX:(w.alloc (.cells #[.int .u64 (g.cp:Nat),.slice va g.dv.length vc] 69)).drew.heap.size=w.heap.size+1:=hsA;clear h2 h1 hcg hnums HIN;have HTX:Hid ((w.alloc (.cells #[.int .u64 (g.cp:Nat),.slice va g.dv.length vc] 69)).drew.heap[sb]?=some (.cells #[.int .u64 s.cp,.pointer (some ⟨pb,0,none⟩)] 98 (0,0))):=bx HST.out _;have HBX:Hid ((w.alloc (.cells #[.int .u64 (g.cp:Nat),.slice va g.dv.length vc] 69)).drew.heap[w.heap.size]?=some (.cells #[.int .u64 (g.cp:Nat),.slice va g.dv.length vc] 69)):=HXA.out;clear x0 x1 s0 s1
   by_cases h3:first (clF s.ds.length s.us g.dv) g.dv.length=0
   ·rw [h3,show ak (((0:Nat)):Int)=.nilIface from rfl] at HCL;have H3:=qI h3;clear h3
    go_wp2_with fail
    refine wp_region_held_drew (S:=lH w.heap.size g.cp g.dv.length va vc sb s.cp pb) (by kernel_rfl) HSX.out (λhHeld=>?_);generalize (w.alloc (.cells #[.int .u64 (g.cp:Nat),.slice va g.dv.length vc] 69)).drew=X at *;refine tk 0 ?_;refine tk 1 ?_;refine tk 2 ?_;refine tk 3 ?_;refine tk 4 ?_;refine tk 5 ?_;refine rd 6 (λK hK=>?_);go_simp
    go_wp2_with fail
    refine (HIS.out _).mono ?_;rintro e wz ⟨rfl,rfl⟩
    go_wp2
    refine hK.out _ _ HSX.out (λhHeld=>?_);clear hK K;refine tk 7 ?_;refine tk 8 ?_;refine tk 9 ?_;refine tk 10 ?_;refine tk 12 ?_;refine rd 11 (λK hK=>?_);go_simp
    go_wp2_with fail
    refine (HCT.out _ hg).mono ?_;rintro e wz ⟨rfl,rfl⟩
    go_wp2
    refine hK.out _ _ HSX.out (λhHeld=>?_);clear hK K;refine tk 13 ?_;refine tk 14 ?_;refine tk 15 ?_;refine tk 16 ?_;refine tk 17 ?_;refine tk 18 ?_;refine tk 19 ?_;refine tk 20 ?_;refine tk 21 ?_;refine rd 22 (λK hK=>?_);go_simp
    go_wp2_with fail
    refine HCL.out.mono ?_;rintro e W1 ⟨rfl,hg1,hp1⟩;have HS1:Hid ((lH w.heap.size g.cp g.dv.length va vc sb s.cp pb) W1):=⟨(hg1.cell_far ⟨w.heap.size,0,none⟩ (by show w.heap.size<_;omega) (λe=>by injection e with e;have e:w.heap.size=pb:=e;omega)).trans HSX.out.1,(hg1.cell_far ⟨w.heap.size,1,none⟩ (by show w.heap.size<_;omega) (λe=>by injection e with e;have e:w.heap.size=pb:=e;omega)).trans HSX.out.2.1,(hg1.cell_far ⟨sb,0,none⟩ (by show sb<_;omega) (λe=>hne (by injection e))).trans HSX.out.2.2.1,(hg1.cell_far ⟨sb,1,none⟩ (by show sb<_;omega) (λe=>hne (by injection e))).trans HSX.out.2.2.2⟩;have HP1:=qI hp1;have HA1:=qI (HAX.out.trans (eA (K:=gZ pb sb) hg1 (λj hj _=>.inl (by injection hj with hj;exact hj.symm))));have HT1:=qI ((hg1.block sb (by omega) (λe=>hne (by injection e))).trans HTX.out);have HB1:=qI ((hg1.block w.heap.size (by omega) (λe=>by injection e with e;omega)).trans HBX.out);have hs1:=hg1.size;clear hp1 hg1
    go_wp2
    refine hK.out _ _ HS1.out (λhHeld=>?_);clear hK K;refine tk 23 ?_;refine tk 24 ?_;refine Qn (by kernel_rfl) ?_ _;clear hHeld;have c0:W1.cell? ⟨sb,0,none⟩=some (.int .u64 s.cp):=HS1.out.2.2.1;have c1:W1.cell? ⟨w.heap.size,0,none⟩=some (.int .u64 (g.cp:Nat)):=HS1.out.1;have f0:=aq HT1.out 0;have hAN:=jp s.cp g.cp hcp hg
    go_wp2_with fail
    go_region
    have HO2:Hid (∀ j,j≠sb->(W1.setCell ⟨sb,0,none⟩ (.int .u64 (dif s.cp g.cp:Nat))).drew.heap[j]?=W1.heap[j]?):=λj hj=>set_other hj
    have HT2:Hid ((W1.setCell ⟨sb,0,none⟩ (.int .u64 (dif s.cp g.cp:Nat))).drew.heap[sb]?=some (.cells #[.int .u64 (dif s.cp g.cp:Nat),.pointer (some ⟨pb,0,none⟩)] 98 (0,0))):=aj HT1.out 0 _;have hs2:(W1.setCell ⟨sb,0,none⟩ (.int .u64 (dif s.cp g.cp:Nat))).drew.heap.size=W1.heap.size:=by simp [World.drew]
    have hcl:ik s.ds.length s.us g.dv=bF s.us g.dv:=by unfold ik;rw [if_pos H3.out]
    rw [hcl] at HP1;have HP2:Hid (ap (W1.setCell ⟨sb,0,none⟩ (.int .u64 (dif s.cp g.cp:Nat))).drew pb db ao pc s.ds (bF s.us g.dv)):=(HP1.out.kept (bL _ ⟨sb,0,none⟩ _) (λe=>hne (by injection e with e;exact e.symm)) (λh0 e=>hdb h0 (by injection e))).drewN 1;have HA2:Hid (Apart (gZ pb sb) w (W1.setCell ⟨sb,0,none⟩ (.int .u64 (dif s.cp g.cp:Nat))).drew):=(HA1.out.trans (Apart.setCell (K:=gZ pb sb) (.inr rfl) _ _ _)).trans (Apart.drew _ _);generalize (W1.setCell ⟨sb,0,none⟩ (.int .u64 (dif s.cp g.cp:Nat))).drew=W2 at *;have HB2:=qI ((HO2.out w.heap.size (by omega)).trans HB1.out);have HSY:Hid (∀ W,Below W2.heap.size W2 W->(JN sb pb w.heap.size va g.dv.length vc) W):=λW hb=>⟨ad ((hb.block sb (by omega)).trans HT2.out) 1,ad ((hb.block w.heap.size (by omega)).trans HB2.out) 1⟩
    have HBd:Hid (Below W2.heap.size W2 W2.drew):=bf (Q0 _ _);have HDV:=qI (uO W2.drew pb db ao pc s.ds (bF s.us g.dv) (HP2.out.drewN 1) HK.out.1);have HRG:Hid (∀ k,k<g.dv.length->0<=g.dv.getD k 0/\g.dv.getD k 0<s.ds.length):=λk hk=>by
     have:=Dvs.cO H3.out k hk
     unfold clF Dvs.nth at this
     split at this
     ·cases this
     ·omega
    clear c0 c1 f0 hAN hcl HO2 HS1
    go_wp2_with fail
    refine Qo (by kernel_rfl) (HSY.out _ HBd.out) (λhHeld=>?_);refine tk 0 ?_;refine tk 1 ?_;refine tk 2 ?_;refine tk 3 ?_;refine tk 5 ?_;refine tk 6 ?_;refine tk 7 ?_;refine rd 4 (λK hK=>?_);go_simp
    go_wp2_with fail
    refine HDV.out.mono ?_;rintro e W3 ⟨v3,rfl,hdr,hb3⟩;have HB3:=qI (HBd.out.trans (hb3.mono HBd.out.size));have HDR:=qI hdr;obtain ⟨a3,c3,g3,hv3,_⟩:=id hdr;subst hv3;clear hb3 hdr
    go_wp2
    refine hK.out _ _ (HSY.out _ HB3.out) (λhHeld=>?_);clear hK K;refine rd 8 (λK hK=>?_);go_simp
    go_wp2_with fail
    obtain ⟨dg,hdat⟩:=wJ HDR.out;have hJ:=Ir _ _ _ dg 0 s.ds g.dv ns W3 hdat (HV.out.le ((kX HA2.out (λ_ _ h=>h)).trans ((ci _ _).trans (aB.of_below HB3.out)))) (HU.out.le ((kX HA2.out (λ_ _ h=>h)).trans ((ci _ _).trans (aB.of_below HB3.out)))) hdl hnl HRG.out (by have:=HK.out.1.1;omega) (λk hk=>by have:=HK.out.2 k hk;omega) HNS.out;refine hJ.mono ?_;rintro e W4 ⟨⟨bb,rfl,hbb⟩,hb4⟩;have HB4:=qI (HB3.out.trans (hb4.mono HB3.out.size));have HBB:=qI hbb;clear hb4 hbb hJ hdat
    go_wp2
    refine hK.out _ _ (HSY.out _ HB4.out) (λhHeld=>?_);clear hK K;refine tk 9 ?_;refine Qn (by kernel_rfl) ?_ _;clear hHeld
    go_wp2
    go_ret;refine ⟨?_,HA2.out.trans (Apart.of_below HB4.out)⟩;obtain ⟨hy,hn⟩:=JM (s:=s) (g:=g) (own:=own) (ns:=ns) ⟨H1.out,HC2.out,H3.out⟩
    rcases two bb with hb|hb
    ·subst hb;rw [hy (HBB.out.1 rfl)];exact ⟨rfl,(HB4.out.block sb (by omega)).trans HT2.out,HP2.out.below HB4.out⟩
    ·subst hb;rw [hn (λh=>by have:=HBB.out.2 h;cases this)];rfl
   ·have HE:=qI (qb (s:=s) (g:=g) (own:=own) (ns:=ns) (λh=>h3 h.2.2));rw [dI h3] at HCL;generalize first (clF s.ds.length s.us g.dv) g.dv.length=fe at *;clear h3
    go_wp2_with fail
    refine wp_region_held_drew (S:=lH w.heap.size g.cp g.dv.length va vc sb s.cp pb) (by kernel_rfl) HSX.out (λhHeld=>?_);generalize (w.alloc (.cells #[.int .u64 (g.cp:Nat),.slice va g.dv.length vc] 69)).drew=X at *;refine tk 0 ?_;refine tk 1 ?_;refine tk 2 ?_;refine tk 3 ?_;refine tk 4 ?_;refine tk 5 ?_;refine rd 6 (λK hK=>?_);go_simp
    go_wp2_with fail
    refine (HIS.out _).mono ?_;rintro e wz ⟨rfl,rfl⟩
    go_wp2
    refine hK.out _ _ HSX.out (λhHeld=>?_);clear hK K;refine tk 7 ?_;refine tk 8 ?_;refine tk 9 ?_;refine tk 10 ?_;refine tk 12 ?_;refine rd 11 (λK hK=>?_);go_simp
    go_wp2_with fail
    refine (HCT.out _ hg).mono ?_;rintro e wz ⟨rfl,rfl⟩
    go_wp2
    refine hK.out _ _ HSX.out (λhHeld=>?_);clear hK K;refine tk 13 ?_;refine tk 14 ?_;refine tk 15 ?_;refine tk 16 ?_;refine tk 17 ?_;refine tk 18 ?_;refine tk 19 ?_;refine tk 20 ?_;refine tk 21 ?_;refine rd 22 (λK hK=>?_);go_simp
    go_wp2_with fail
    refine HCL.out.mono ?_;rintro e W1 ⟨rfl,hg1,hp1⟩;have HS1:Hid ((lH w.heap.size g.cp g.dv.length va vc sb s.cp pb) W1):=⟨(hg1.cell_far ⟨w.heap.size,0,none⟩ (by show w.heap.size<_;omega) (λe=>by injection e with e;have e:w.heap.size=pb:=e;omega)).trans HSX.out.1,(hg1.cell_far ⟨w.heap.size,1,none⟩ (by show w.heap.size<_;omega) (λe=>by injection e with e;have e:w.heap.size=pb:=e;omega)).trans HSX.out.2.1,(hg1.cell_far ⟨sb,0,none⟩ (by show sb<_;omega) (λe=>hne (by injection e))).trans HSX.out.2.2.1,(hg1.cell_far ⟨sb,1,none⟩ (by show sb<_;omega) (λe=>hne (by injection e))).trans HSX.out.2.2.2⟩;have HP1:=qI hp1;have HA1:=qI (HAX.out.trans (eA (K:=gZ pb sb) hg1 (λj hj _=>.inl (by injection hj with hj;exact hj.symm))));have HT1:=qI ((hg1.block sb (by omega) (λe=>hne (by injection e))).trans HTX.out);have HB1:=qI ((hg1.block w.heap.size (by omega) (λe=>by injection e with e;omega)).trans HBX.out);have hs1:=hg1.size;clear hp1 hg1
    go_wp2
    refine hK.out _ _ HS1.out (λhHeld=>?_);clear hK K;refine tk 23 ?_;refine tk 24 ?_;refine Qn (by kernel_rfl) ?_ _;clear hHeld
    go_wp2
    go_ret;exact ⟨by rw [HE.out];rfl,HA1.out⟩
  ·have h2d:((cnt g.cp:Int) != own)=true:=by simp [h2]
   have HE:=qI (qb (s:=s) (g:=g) (own:=own) (ns:=ns) (λh=>h2 h.2.1));generalize cnt g.cp=cg at *;clear h2 h1
   go_wp2
   go_quiet (first|exact Calls.quiet_of_same (HIN.out _)|exact Calls.quiet_of_same (HCT.out _ hg))
   go_wp2
   go_ret;exact ⟨by rw [HE.out];rfl,(Apart.of_below HBA.out).trans (Apart.drewN _ _ _)⟩
 ·have h1d:decide (g.cp &&& s.cp=g.cp)=false:=Q7 h1;simp only [h1d] at HIN;have HE:=qI (qb (s:=s) (g:=g) (own:=own) (ns:=ns) (λh=>h1 h.1));clear h1
  go_wp2
  go_quiet (first|exact Calls.quiet_of_same (HIN.out _)|exact Calls.quiet_of_same (HCT.out _ hg))
  go_wp2
  go_ret;exact ⟨by rw [HE.out];rfl,(Apart.of_below HBA.out).trans (Apart.drewN _ _ _)⟩
end
