import Derived.Test.YtbmmnflgnmjboaaGreatDoorR26
set_option maxRecDepth 100000
set_option maxHeartbeats 16000000
namespace Go.Proofs.YtbmmnflgnmjboaaGreatDoor
section
open RowKit Shelf
open Qos (Nd Ct Pd nd ct pd af aA)
open Sv (Gv Hd gv hd)
open Ost (dif cnt)
open Dvs (Dv dv aW clF aL first)
attribute [local go_sem] Oper.semAt_some
theorem Lu {W:World} {v:Value} {l:List Int} (h:bt W v l):∃ g o,fR W v g o l:=by
 obtain ⟨ao,c,rfl,hm,hr⟩:=h
 by_cases h0:0<l.length
 ·obtain ⟨b,o,ha,hlt,hc⟩:=hr h0;exact ⟨b,o,ao,c,rfl,λ_=>⟨ha,hlt,λk hk=>hc k hk⟩⟩
 ·exact ⟨0,0,ao,c,rfl,λh=>absurd h h0⟩
theorem zg {B:Nat} {w:World} {v:Value} {ds:List Dv} (h:gC B w v ds):∃ g,cU w v g 0 ds:=by
 obtain ⟨ao,c,g,hv,h0,hc⟩:=h;refine ⟨g,ao,c,hv,λhl=>⟨(h0 hl).1,(h0 hl).2.2,λk hk=>?_⟩⟩;rw [Qd];exact ⟨(hc k hk).1,(hc k hk).2.1,(hc k hk).2.2.1⟩
def zi (ds:List Dv):Prop:=aW ds/\∀ k,k<ds.length->(dv ds k).kind.size<=8
theorem Lv {ds:List Dv} (h:Dvs.fault ds=0):zi ds:=by
 refine ⟨Dvs.gW h,λk hk=>?_⟩;unfold Dvs.fault at h
 split at h
 ·cases h
 ·have:=Dvs.cR h k hk
  unfold Dvs.eZ at this
  split at this
  ·cases this
  ·rename_i h1
   have h2:Dvs.aX (dv ds k).kind=true:=by simpa using h1
   have:=(Sv.g9 h2).2
   have e:(dv ds k).kind.data.toList.length=(dv ds k).kind.size:=by simp
   omega
def Lw (w':World) (sb pb db:Nat) (ao:Option Addr) (c:Nat) (e:Ending):Option Ol.Sk->Prop
 | some s'=>e=.returned (.bool true)/\w'.heap[sb]?=some (.cells #[.int .u64 s'.cp,.pointer (some ⟨pb,0,none⟩)] 98 (0,0))/\ak w' pb db ao c s'.ds s'.us
 | none=>e=.returned (.bool false)
abbrev ix (pb sb:Nat):Nat->Prop:=λj=>j=pb\/j=sb
theorem sy {s:Ol.Sk} {g:Gv} {own:Int} {ns:List Nd} (h:¬ (g.cp &&& s.cp=g.cp/\(cnt g.cp:Int)=own/\first (clF s.ds.length s.us g.dv) g.dv.length=0)):Ol.dh s g own ns=none:=by unfold Ol.dh;rw [if_neg h]
theorem Lx {s:Ol.Sk} {g:Gv} {own:Int} {ns:List Nd} (h:g.cp &&& s.cp=g.cp/\(cnt g.cp:Int)=own/\first (clF s.ds.length s.us g.dv) g.dv.length=0):(Ol.ie s.ds g.dv ns->Ol.dh s g own ns=some ⟨dif s.cp g.cp,s.ds,aL s.us g.dv⟩)/\(¬ Ol.ie s.ds g.dv ns->Ol.dh s g own ns=none):=by
 unfold Ol.dh;rw [if_pos h];exact ⟨λhj=>if_pos hj,λhj=>if_neg hj⟩
abbrev ew:=λ(x0 x1:Nat) (x2:Option Addr) (x3:Nat)=>(.cells #[.int .u64 (x0:Nat),.slice x2 x1 x3] 69:Obj)
abbrev m9:=λ(y0 y1 y2:Nat) (va:Option Addr) (vc sb:Nat) (y6:Int) (pb:Nat) (w':World)=>w'.cell? ⟨y0,0,none⟩=some (.int .u64 (y1:Nat))/\w'.cell? ⟨y0,1,none⟩=some (.slice va y2 vc)/\w'.cell? ⟨sb,0,none⟩=some (.int .u64 y6)/\w'.cell? ⟨sb,1,none⟩=some (.pointer (some ⟨pb,0,none⟩))
abbrev Ly:=λ(sb pb y2:Nat) (va:Option Addr) (y4 vc:Nat) (w':World)=>w'.cell? ⟨sb,1,none⟩=some (.pointer (some ⟨pb,0,none⟩))/\w'.cell? ⟨y2,1,none⟩=some (.slice va y4 vc)
theorem Lz (sb pb db:Nat) (ao:Option Addr) (pc:Nat) (s:Ol.Sk) (g:Gv) (own:Int) (v u:Value) (ns:List Nd) (w:World) (hst:w.heap[sb]?=some (.cells #[.int .u64 s.cp,.pointer (some ⟨pb,0,none⟩)] 98 (0,0))) (hp:ak w pb db ao pc s.ds s.us) (hK:zi s.ds) (hcp:s.cp<18446744073709551616) (hg:g.cp<18446744073709551616) (hv:bt (ag (ix pb sb) w) v g.dv) (hu:be (ag (ix pb sb) w) u ns) (hdl:g.dv.length<=1000) (hnl:ns.length<=1000) (hns:∀ k,k<ns.length->(nd ns k).kind.size<=1000/\-1000000<=(nd ns k).many/\(nd ns k).many<=1000000) (hdb:0<s.ds.length->db≠sb) :
  Calls Tryz.prog 125 #[.pointer (some ⟨sb,0,none⟩),.agg #[.int .u64 (g.cp:Nat),v],.int .i64 own,u] w λe w'=>Lw w' sb pb db ao pc e (Ol.dh s g own ns)/\Apart (ix pb sb) w w':=by
 have ha:sb<w.heap.size:=(gS hst).1;have H9:=hp.lt;have He:sb≠pb:=λe=>by
  subst e;have h0:=hp.row;rw [aa hst 0] at h0;cases h0
 have Hr:=qI hst;have HP:=qI hp;have HV:=qI hv;have HU:=qI hu;have H6:=qI hns;have HK:=qI hK;obtain ⟨va,vc,rfl,_,_⟩:=id hv;have Hn:=qI ((Q0 w.heap.size w).alloc (lR) (ew g.cp g.dv.length va vc));have Hy:=qI (aD w (ew g.cp g.dv.length va vc) rfl);have HW:(w.alloc (ew g.cp g.dv.length va vc)).heap.size=w.heap.size+1:=by simp
 have Hh:=qI (λ(W:World)=>js g.cp s.cp W hg hcp);have Hf:=qI (S1.kK g.cp);have Hi:(Ost.aI g.cp 64).length=cnt g.cp:=rfl;rw [Hi] at Hf;clear Hi;have x0:(w.alloc (ew g.cp g.dv.length va vc)).cell? ⟨w.heap.size,0,none⟩=some (.int .u64 (g.cp:Nat)):=aa Hy.out 0;have x1:(w.alloc (ew g.cp g.dv.length va vc)).cell? ⟨w.heap.size,1,none⟩=some (.slice va g.dv.length vc):=aa Hy.out 1;have s0:(w.alloc (ew g.cp g.dv.length va vc)).cell? ⟨sb,0,none⟩=some (.int .u64 s.cp):=aa (bj Hr.out _) 0;have s1:(w.alloc (ew g.cp g.dv.length va vc)).cell? ⟨sb,1,none⟩=some (.pointer (some ⟨pb,0,none⟩)):=aa (bj Hr.out _) 1;have HG:=qI hg;have H8:=qI hcp;clear hst hp hv hu hns hK
 go_enter Tryz.func125,Tryz.ntmps125
 by_cases h1:g.cp &&& s.cp=g.cp
 ·have Hx:decide (g.cp &&& s.cp=g.cp)=true:=Qc h1;simp only [Hx] at Hh
  by_cases h2:(cnt g.cp:Int)=own
  ·have HX:=qI h2;have HH:((cnt g.cp:Int) != own)=false:=by simp [h2]
   have H1:=qI h1;have HQ:Hid (∀ W,Calls Tryz.prog 38 #[.int .u64 (g.cp:Nat),.int .u64 s.cp] W λe w'=>e=.returned (.bool true)/\w'=W):=Hh.out;obtain ⟨cg,HN⟩:∃ x,x=cnt g.cp:=⟨_,rfl⟩;rw [<- HN] at Hf HH;have Hb:Hid ((m9 w.heap.size g.cp g.dv.length va vc sb s.cp pb) (w.alloc (ew g.cp g.dv.length va vc)).drew):=⟨x0,x1,s0,s1⟩;have HY:Hid (ak (w.alloc (ew g.cp g.dv.length va vc)).drew pb db ao pc s.ds s.us):=(HP.out.alloc _).drewN 1;have H2:=qI (HV.out.le ((cC _ _).trans (aq.of_below (a6 Hn.out))));obtain ⟨ng,no,Hc⟩:=Lu H2.out;have Hm:=qI (IS (.slice va g.dv.length vc) ng no g.dv (w.alloc (ew g.cp g.dv.length va vc)).drew pb db ao pc s.ds s.us HY.out HK.out.1 Hc (by omega));have HL:Hid (Apart (ix pb sb) w (w.alloc (ew g.cp g.dv.length va vc)).drew):=Apart.of_below (a6 Hn.out);have he:(w.alloc (ew g.cp g.dv.length va vc)).drew.heap.size=w.heap.size+1:=HW;clear h2 h1 HN Hc Hh;have HD:Hid ((w.alloc (ew g.cp g.dv.length va vc)).drew.heap[sb]?=some (.cells #[.int .u64 s.cp,.pointer (some ⟨pb,0,none⟩)] 98 (0,0))):=bj Hr.out _;have HJ:Hid ((w.alloc (ew g.cp g.dv.length va vc)).drew.heap[w.heap.size]?=some (ew g.cp g.dv.length va vc)):=Hy.out;clear x0 x1 s0 s1
   by_cases h3:first (clF s.ds.length s.us g.dv) g.dv.length=0
   ·rw [h3,show au (((0:Nat)):Int)=.nilIface from rfl] at Hm;have H3:=qI h3;clear h3
    go_wp2_with fail
    refine wp_region_held_drew (S:=m9 w.heap.size g.cp g.dv.length va vc sb s.cp pb) (by kernel_rfl) Hb.out (λhHeld=>?_);generalize (w.alloc (ew g.cp g.dv.length va vc)).drew=X at *;refine tk 0 ?_;refine tk 1 ?_;refine tk 2 ?_;refine tk 3 ?_;refine tk 4 ?_;refine tk 5 ?_;refine rd 6 (λK hK=>?_);go_simp
    go_wp2_with fail
    refine (HQ.out _).mono ?_;rintro e wz ⟨rfl,rfl⟩
    go_wp2
    refine hK.out _ _ Hb.out (λhHeld=>?_);clear hK K;refine tk 7 ?_;refine tk 8 ?_;refine tk 9 ?_;refine tk 10 ?_;refine tk 12 ?_;refine rd 11 (λK hK=>?_);go_simp
    go_wp2_with fail
    refine (Hf.out _ hg).mono ?_;rintro e wz ⟨rfl,rfl⟩
    go_wp2
    refine hK.out _ _ Hb.out (λhHeld=>?_);clear hK K;refine tk 13 ?_;refine tk 14 ?_;refine tk 15 ?_;refine tk 16 ?_;refine tk 17 ?_;refine tk 18 ?_;refine tk 19 ?_;refine tk 20 ?_;refine tk 21 ?_;refine rd 22 (λK hK=>?_);go_simp
    go_wp2_with fail
    refine Hm.out.mono ?_;rintro e W1 ⟨rfl,Ha,Hj⟩;have Hg:Hid ((m9 w.heap.size g.cp g.dv.length va vc sb s.cp pb) W1):=⟨(Ha.cell_far ⟨w.heap.size,0,none⟩ (by show w.heap.size<_;omega) (λe=>by injection e with e;have e:w.heap.size=pb:=e;omega)).trans Hb.out.1,(Ha.cell_far ⟨w.heap.size,1,none⟩ (by show w.heap.size<_;omega) (λe=>by injection e with e;have e:w.heap.size=pb:=e;omega)).trans Hb.out.2.1,(Ha.cell_far ⟨sb,0,none⟩ (by show sb<_;omega) (λe=>He (by injection e))).trans Hb.out.2.2.1,(Ha.cell_far ⟨sb,1,none⟩ (by show sb<_;omega) (λe=>He (by injection e))).trans Hb.out.2.2.2⟩;have Hw:=qI Hj;have Hq:=qI (HL.out.trans (eu (K:=ix pb sb) Ha (λj hj _=>.inl (by injection hj with hj;exact hj.symm))));have Hs:=qI ((Ha.block sb (by omega) (λe=>He (by injection e))).trans HD.out);have Hz:=qI ((Ha.block w.heap.size (by omega) (λe=>by injection e with e;omega)).trans HJ.out);have H5:=Ha.size;clear Hj Ha
    go_wp2
    refine hK.out _ _ Hg.out (λhHeld=>?_);clear hK K;refine tk 23 ?_;refine tk 24 ?_;refine Qn (by kernel_rfl) ?_ _;clear hHeld;have c0:W1.cell? ⟨sb,0,none⟩=some (.int .u64 s.cp):=Hg.out.2.2.1;have c1:W1.cell? ⟨w.heap.size,0,none⟩=some (.int .u64 (g.cp:Nat)):=Hg.out.1;have f0:=ai Hs.out 0;have HS:=iI s.cp g.cp hcp hg
    go_wp2_with fail
    go_region
    have HB:Hid (∀ j,j≠sb->(W1.setCell ⟨sb,0,none⟩ (.int .u64 (dif s.cp g.cp:Nat))).drew.heap[j]?=W1.heap[j]?):=λj hj=>set_other hj
    have HO:Hid ((W1.setCell ⟨sb,0,none⟩ (.int .u64 (dif s.cp g.cp:Nat))).drew.heap[sb]?=some (.cells #[.int .u64 (dif s.cp g.cp:Nat),.pointer (some ⟨pb,0,none⟩)] 98 (0,0))):=ah Hs.out 0 _;have hc:(W1.setCell ⟨sb,0,none⟩ (.int .u64 (dif s.cp g.cp:Nat))).drew.heap.size=W1.heap.size:=by simp [World.drew]
    have HA:iH s.ds.length s.us g.dv=aL s.us g.dv:=by unfold iH;rw [if_pos H3.out]
    rw [HA] at Hw;have HI:Hid (ak (W1.setCell ⟨sb,0,none⟩ (.int .u64 (dif s.cp g.cp:Nat))).drew pb db ao pc s.ds (aL s.us g.dv)):=(Hw.out.kept (bL _ ⟨sb,0,none⟩ _) (λe=>He (by injection e with e;exact e.symm)) (λh0 e=>hdb h0 (by injection e))).drewN 1;have Hu:Hid (Apart (ix pb sb) w (W1.setCell ⟨sb,0,none⟩ (.int .u64 (dif s.cp g.cp:Nat))).drew):=(Hq.out.trans (Apart.setCell (K:=ix pb sb) (.inr rfl) _ _ _)).trans (Apart.drew _ _);generalize (W1.setCell ⟨sb,0,none⟩ (.int .u64 (dif s.cp g.cp:Nat))).drew=W2 at *;have HZ:=qI ((HB.out w.heap.size (by omega)).trans Hz.out);have Hp:Hid (∀ W,Below W2.heap.size W2 W->(Ly sb pb w.heap.size va g.dv.length vc) W):=λW hb=>⟨aa ((hb.block sb (by omega)).trans HO.out) 1,aa ((hb.block w.heap.size (by omega)).trans HZ.out) 1⟩
    have Hv:Hid (Below W2.heap.size W2 W2.drew):=a6 (Q0 _ _);have HT:=qI (xP W2.drew pb db ao pc s.ds (aL s.us g.dv) (HI.out.drewN 1) HK.out.1);have H4:Hid (∀ k,k<g.dv.length->0<=g.dv.getD k 0/\g.dv.getD k 0<s.ds.length):=λk hk=>by
     have:=Dvs.cR H3.out k hk
     unfold clF Dvs.nth at this
     split at this
     ·cases this
     ·omega
    clear c0 c1 f0 HS HA HB Hg
    go_wp2_with fail
    refine Qo (by kernel_rfl) (Hp.out _ Hv.out) (λhHeld=>?_);refine tk 0 ?_;refine tk 1 ?_;refine tk 2 ?_;refine tk 3 ?_;refine tk 5 ?_;refine tk 6 ?_;refine tk 7 ?_;refine rd 4 (λK hK=>?_);go_simp
    go_wp2_with fail
    refine HT.out.mono ?_;rintro e W3 ⟨v3,rfl,Ht,HR⟩;have Hl:=qI (Hv.out.trans (HR.mono Hv.out.size));have H7:=qI Ht;obtain ⟨a3,c3,g3,H0,_⟩:=id Ht;subst H0;clear HR Ht
    go_wp2
    refine hK.out _ _ (Hp.out _ Hl.out) (λhHeld=>?_);clear hK K;refine rd 8 (λK hK=>?_);go_simp
    go_wp2_with fail
    obtain ⟨dg,Hk⟩:=zg H7.out;have hJ:=Kj _ _ _ dg 0 s.ds g.dv ns W3 Hk (HV.out.le ((k9 Hu.out (λ_ _ h=>h)).trans ((cC _ _).trans (aq.of_below Hl.out)))) (HU.out.le ((k9 Hu.out (λ_ _ h=>h)).trans ((cC _ _).trans (aq.of_below Hl.out)))) hdl hnl H4.out (by have:=HK.out.1.1;omega) (λk hk=>by have:=HK.out.2 k hk;omega) H6.out;refine hJ.mono ?_;rintro e W4 ⟨⟨bb,rfl,HF⟩,HC⟩;have Ho:=qI (Hl.out.trans (HC.mono Hl.out.size));have HM:=qI HF;clear HC HF hJ Hk
    go_wp2
    refine hK.out _ _ (Hp.out _ Ho.out) (λhHeld=>?_);clear hK K;refine tk 9 ?_;refine Qn (by kernel_rfl) ?_ _;clear hHeld
    go_wp2
    go_ret;refine ⟨?_,Hu.out.trans (Apart.of_below Ho.out)⟩;obtain ⟨hy,hn⟩:=Lx (s:=s) (g:=g) (own:=own) (ns:=ns) ⟨H1.out,HX.out,H3.out⟩
    rcases two bb with hb|hb
    ·subst hb;rw [hy (HM.out.1 rfl)];exact ⟨rfl,(Ho.out.block sb (by omega)).trans HO.out,HI.out.below Ho.out⟩
    ·subst hb;rw [hn (λh=>by have:=HM.out.2 h;cases this)];rfl
   ·have HE:=qI (sy (s:=s) (g:=g) (own:=own) (ns:=ns) (λh=>h3 h.2.2));rw [eh h3] at Hm;generalize first (clF s.ds.length s.us g.dv) g.dv.length=fe at *;clear h3
    go_wp2_with fail
    refine wp_region_held_drew (S:=m9 w.heap.size g.cp g.dv.length va vc sb s.cp pb) (by kernel_rfl) Hb.out (λhHeld=>?_);generalize (w.alloc (ew g.cp g.dv.length va vc)).drew=X at *;refine tk 0 ?_;refine tk 1 ?_;refine tk 2 ?_;refine tk 3 ?_;refine tk 4 ?_;refine tk 5 ?_;refine rd 6 (λK hK=>?_);go_simp
    go_wp2_with fail
    refine (HQ.out _).mono ?_;rintro e wz ⟨rfl,rfl⟩
    go_wp2
    refine hK.out _ _ Hb.out (λhHeld=>?_);clear hK K;refine tk 7 ?_;refine tk 8 ?_;refine tk 9 ?_;refine tk 10 ?_;refine tk 12 ?_;refine rd 11 (λK hK=>?_);go_simp
    go_wp2_with fail
    refine (Hf.out _ hg).mono ?_;rintro e wz ⟨rfl,rfl⟩
    go_wp2
    refine hK.out _ _ Hb.out (λhHeld=>?_);clear hK K;refine tk 13 ?_;refine tk 14 ?_;refine tk 15 ?_;refine tk 16 ?_;refine tk 17 ?_;refine tk 18 ?_;refine tk 19 ?_;refine tk 20 ?_;refine tk 21 ?_;refine rd 22 (λK hK=>?_);go_simp
    go_wp2_with fail
    refine Hm.out.mono ?_;rintro e W1 ⟨rfl,Ha,Hj⟩;have Hg:Hid ((m9 w.heap.size g.cp g.dv.length va vc sb s.cp pb) W1):=⟨(Ha.cell_far ⟨w.heap.size,0,none⟩ (by show w.heap.size<_;omega) (λe=>by injection e with e;have e:w.heap.size=pb:=e;omega)).trans Hb.out.1,(Ha.cell_far ⟨w.heap.size,1,none⟩ (by show w.heap.size<_;omega) (λe=>by injection e with e;have e:w.heap.size=pb:=e;omega)).trans Hb.out.2.1,(Ha.cell_far ⟨sb,0,none⟩ (by show sb<_;omega) (λe=>He (by injection e))).trans Hb.out.2.2.1,(Ha.cell_far ⟨sb,1,none⟩ (by show sb<_;omega) (λe=>He (by injection e))).trans Hb.out.2.2.2⟩;have Hw:=qI Hj;have Hq:=qI (HL.out.trans (eu (K:=ix pb sb) Ha (λj hj _=>.inl (by injection hj with hj;exact hj.symm))));have Hs:=qI ((Ha.block sb (by omega) (λe=>He (by injection e))).trans HD.out);have Hz:=qI ((Ha.block w.heap.size (by omega) (λe=>by injection e with e;omega)).trans HJ.out);have H5:=Ha.size;clear Hj Ha
    go_wp2
    refine hK.out _ _ Hg.out (λhHeld=>?_);clear hK K;refine tk 23 ?_;refine tk 24 ?_;refine Qn (by kernel_rfl) ?_ _;clear hHeld
    go_wp2
    go_ret;exact ⟨by rw [HE.out];rfl,Hq.out⟩
  ·have HH:((cnt g.cp:Int) != own)=true:=by simp [h2]
   have HE:=qI (sy (s:=s) (g:=g) (own:=own) (ns:=ns) (λh=>h2 h.2.1));generalize cnt g.cp=cg at *;clear h2 h1
   go_wp2
   go_quiet (first|exact Calls.quiet_of_same (Hh.out _)|exact Calls.quiet_of_same (Hf.out _ hg))
   go_wp2
   go_ret;exact ⟨by rw [HE.out];rfl,(Apart.of_below Hn.out).trans (Apart.drewN _ _ _)⟩
 ·have Hx:decide (g.cp &&& s.cp=g.cp)=false:=Q7 h1;simp only [Hx] at Hh;have HE:=qI (sy (s:=s) (g:=g) (own:=own) (ns:=ns) (λh=>h1 h.1));clear h1
  go_wp2
  go_quiet (first|exact Calls.quiet_of_same (Hh.out _)|exact Calls.quiet_of_same (Hf.out _ hg))
  go_wp2
  go_ret;exact ⟨by rw [HE.out];rfl,(Apart.of_below Hn.out).trans (Apart.drewN _ _ _)⟩
end
