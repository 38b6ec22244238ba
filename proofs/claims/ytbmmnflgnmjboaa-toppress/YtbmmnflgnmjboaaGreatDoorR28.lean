import Derived.Test.YtbmmnflgnmjboaaGreatDoorR26
set_option maxRecDepth 100000
set_option maxHeartbeats 16000000
namespace Go.Proofs.YtbmmnflgnmjboaaGreatDoor
section
open RowKit Shelf
open Qos (Nd Ct Pd nd ct pd af aA)
open Sv (Gv Hd gv hd)
open Ost (dif cnt)
open Dvs (Dv dv aW clF aL first)
attribute [local go_sem] Oper.semAt_some
theorem Lu {W:World} {v:Value} {l:List Int} (h:bt W v l):∃ g o,fR W v g o l:=by
 obtain ⟨ao,c,rfl,hm,hr⟩:=h
 by_cases h0:0<l.length
 ·obtain ⟨b,o,ha,hlt,hc⟩:=hr h0;exact ⟨b,o,ao,c,rfl,λ_=>⟨ha,hlt,λk hk=>hc k hk⟩⟩
 ·exact ⟨0,0,ao,c,rfl,λh=>absurd h h0⟩
theorem zg {B:Nat} {w:World} {v:Value} {ds:List Dv} (h:gC B w v ds):∃ g,cU w v g 0 ds:=by
 obtain ⟨ao,c,g,hv,h0,hc⟩:=h;refine ⟨g,ao,c,hv,λhl=>⟨(h0 hl).1,(h0 hl).2.2,λk hk=>?_⟩⟩;rw [Qd];exact ⟨(hc k hk).1,(hc k hk).2.1,(hc k hk).2.2.1⟩
def zi (ds:List Dv):Prop:=aW ds/\∀ k,k<ds.length->(dv ds k).kind.size<=8
theorem Lv {ds:List Dv} (h:Dvs.fault ds=0):zi ds:=by
 refine ⟨Dvs.gW h,λk hk=>?_⟩;unfold Dvs.fault at h
 split at h
 ·cases h
 ·have:=Dvs.cR h k hk
  unfold Dvs.eZ at this
  split at this
  ·cases this
  ·rename_i h1
   have h2:Dvs.aX (dv ds k).kind=true:=by simpa using h1
   have:=(Sv.g9 h2).2
   have e:(dv ds k).kind.data.toList.length=(dv ds k).kind.size:=by simp
   omega
def Lw (w':World) (sb pb db:Nat) (ao:Option Addr) (c:Nat) (e:Ending):Option Ol.Sk->Prop
 | some s'=>e=.returned (.bool true)/\w'.heap[sb]?=some (.cells #[.int .u64 s'.cp,.pointer (some ⟨pb,0,none⟩)] 98 (0,0))/\ak w' pb db ao c s'.ds s'.us
 | none=>e=.returned (.bool false)
abbrev ix (pb sb:Nat):Nat->Prop:=λj=>j=pb\/j=sb
theorem sy {s:Ol.Sk} {g:Gv} {own:Int} {ns:List Nd} (h:¬ (g.cp &&& s.cp=g.cp/\(cnt g.cp:Int)=own/\first (clF s.ds.length s.us g.dv) g.dv.length=0)):Ol.dh s g own ns=none:=by unfold Ol.dh;rw [if_neg h]
theorem Lx {s:Ol.Sk} {g:Gv} {own:Int} {ns:List Nd} (h:g.cp &&& s.cp=g.cp/\(cnt g.cp:Int)=own/\first (clF s.ds.length s.us g.dv) g.dv.length=0):(Ol.ie s.ds g.dv ns->Ol.dh s g own ns=some ⟨dif s.cp g.cp,s.ds,aL s.us g.dv⟩)/\(¬ Ol.ie s.ds g.dv ns->Ol.dh s g own ns=none):=by
 unfold Ol.dh;rw [if_pos h];exact ⟨λhj=>if_pos hj,λhj=>if_neg hj⟩
abbrev ew:=λ(x0 x1:Nat) (x2:Option Addr) (x3:Nat)=>(.cells #[.int .u64 (x0:Nat),.slice x2 x1 x3] 69:Obj)
abbrev m9:=λ(y0 y1 y2:Nat) (va:Option Addr) (vc sb:Nat) (y6:Int) (pb:Nat) (w':World)=>w'.cell? ⟨y0,0,none⟩=some (.int .u64 (y1:Nat))/\w'.cell? ⟨y0,1,none⟩=some (.slice va y2 vc)/\w'.cell? ⟨sb,0,none⟩=some (.int .u64 y6)/\w'.cell? ⟨sb,1,none⟩=some (.pointer (some ⟨pb,0,none⟩))
abbrev Ly:=λ(sb pb y2:Nat) (va:Option Addr) (y4 vc:Nat) (w':World)=>w'.cell? ⟨sb,1,none⟩=some (.pointer (some ⟨pb,0,none⟩))/\w'.cell? ⟨y2,1,none⟩=some (.slice va y4 vc)
theorem Lz (sb pb db:Nat) (ao:Option Addr) (pc:Nat) (s:Ol.Sk) (g:Gv) (own:Int) (v u:Value) (ns:List Nd) (w:World) (hst:w.heap[sb]?=some (.cells #[.int .u64 s.cp,.pointer (some ⟨pb,0,none⟩)] 98 (0,0))) (hp:ak w pb db ao pc s.ds s.us) (hK:zi s.ds) (hcp:s.cp<18446744073709551616) (hg:g.cp<18446744073709551616) (hv:bt (ag (ix pb sb) w) v g.dv) (hu:be (ag (ix pb sb) w) u ns) (hdl:g.dv.length<=1000) (hnl:ns.length<=1000) (hns:∀ k,k<ns.length->(nd ns k).kind.size<=1000/\-1000000<=(nd ns k).many/\(nd ns k).many<=1000000) (hdb:0<s.ds.length->db≠sb) :
  Calls Tryz.prog 125 #[.pointer (some ⟨sb,0,none⟩),.agg #[.int .u64 (g.cp:Nat),v],.int .i64 own,u] w λe w'=>Lw w' sb pb db ao pc e (Ol.dh s g own ns)/\Apart (ix pb sb) w w':=by
 have ha:sb<w.heap.size:=(gS hst).1;have H9:=hp.lt;have He:sb≠pb:=λe=>by
  subst e;have h0:=hp.row;rw [aa hst 0] at h0;cases h0
 have Hr:=qI hst;have HP:=qI hp;have HV:=qI hv;have HU:=qI hu;have H6:=qI hns;have HK:=qI hK;obtain ⟨va,vc,rfl,_,_⟩:=id hv;have Hn:=qI ((Q0 w.heap.size w).alloc (lR) (ew g.cp g.dv.length va vc));have Hy:=qI (aD w (ew g.cp g.dv.length va vc) rfl);have HW:(w.alloc (ew g.cp g.dv.length va vc)).heap.size=w.heap.size+1:=by simp
 have Hh:=qI λ(W:World)=>js g.cp s.cp W hg hcp;have Hf:=qI (S1.kK g.cp);have Hi:(Ost.aI g.cp 64).length=cnt g.cp:=rfl;rw [Hi] at Hf;clear Hi;have x0:(w.alloc (ew g.cp g.dv.length va vc)).cell? ⟨w.heap.size,0,none⟩=some (.int .u64 (g.cp:Nat)):=aa Hy.out 0;have x1:(w.alloc (ew g.cp g.dv.length va vc)).cell? ⟨w.heap.size,1,none⟩=some (.slice va g.dv.length vc):=aa Hy.out 1;have s0:(w.alloc (ew g.cp g.dv.length va vc)).cell? ⟨sb,0,none⟩=some (.int .u64 s.cp):=aa (bj Hr.out _) 0;have s1:(w.alloc (ew g.cp g.dv.length va vc)).cell? ⟨sb,1,none⟩=some (.pointer (some ⟨pb,0,none⟩)):=aa (bj Hr.out _) 1;have HG:=qI hg;have H8:=qI hcp;clear hst hp hv hu hns hK
 go_enter Tryz.func125,Tryz.ntmps125
 by_cases h1:g.cp &&& s.cp=g.cp
 ·have Hx:decide (g.cp &&& s.cp=g.cp)=true:=Qc h1;simp only [Hx] at Hh
  by_cases h2:(cnt g.cp:Int)=own
  ·have HX:=qI h2;have HH:((cnt g.cp:Int) != own)=false:=by simp [h2]
   have H1:=qI h1;have HQ:Hid (∀ W,Calls Tryz.prog 38 #[.int .u64 (g.cp:Nat),.int .u64 s.cp] W λe w'=>e=.returned (.bool true)/\w'=W):=Hh.out;obtain ⟨cg,HN⟩:∃ x,x=cnt g.cp:=⟨_,rfl⟩;rw [<- HN] at Hf HH;have Hb:Hid ((m9 w.heap.size g.cp g.dv.length va vc sb s.cp pb) (w.alloc (ew g.cp g.dv.length va vc)).drew):=⟨x0,x1,s0,s1⟩;have HY:Hid (ak (w.alloc (ew g.cp g.dv.length va vc)).drew pb db ao pc s.ds s.us):=(HP.out.alloc _).drewN 1;have H2:=qI (HV.out.le ((cC _ _).trans (aq.of_below (a6 Hn.out))));obtain ⟨ng,no,Hc⟩:=Lu H2.out;have Hm:=qI (IS (.slice va g.dv.length vc) ng no g.dv (w.alloc (ew g.cp g.dv.length va vc)).drew pb db ao pc s.ds s.us HY.out HK.out.1 Hc (by omega));have HL:Hid (Apart (ix pb sb) w (w.alloc (ew g.cp g.dv.length va vc)).drew):=Apart.of_below (a6 Hn.out);have he:(w.alloc (ew g.cp g.dv.length va vc)).drew.heap.size=w.heap.size+1:=HW;clear h2 h1 HN Hc Hh;have HD:Hid ((w.alloc (ew g.cp g.dv.length va vc)).drew.heap[sb]?=some (.cells #[.int .u64 s.cp,.pointer (some ⟨pb,0,none⟩)] 98 (0,0))):=bj Hr.out _;have HJ:Hid ((w.alloc (ew g.cp g.dv.length va vc)).drew.heap[w.heap.size]?=some (ew g.cp g.dv.length va vc)):=Hy.out;clear x0 x1 s0 s1
   by_cases h3:first (clF s.ds.length s.us g.dv) g.dv.length=0
   ·rw [h3,show au (((0:Nat)):Int)=.nilIface from rfl] at Hm;have H3:=qI h3;clear h3
    go_wp2_with fail
    refine wp_region_held_drew (S:=m9 w.heap.size g.cp g.dv.length va vc sb s.cp pb) (by kernel_rfl) Hb.out λhHeld=>?_;generalize (w.alloc (ew g.cp g.dv.length va vc)).drew=X at *;refine tk 0 ?_;refine tk 1 ?_;refine tk 2 ?_;refine tk 3 ?_;refine tk 4 ?_;refine tk 5 ?_;refine rd 6 λK hK=>?_;go_simp
    go_wp2_with fail
    refine (HQ.out _).mono ?_;rintro e wz ⟨rfl,rfl⟩
    go_wp2
    refine hK.out _ _ Hb.out λhHeld=>?_;clear hK K;refine tk 7 ?_;refine tk 8 ?_;refine tk 9 ?_;refine tk 10 ?_;refine tk 12 ?_;refine rd 11 λK hK=>?_;go_simp
    go_wp2_with fail
    refine (Hf.out _ hg).mono ?_;rintro e wz ⟨rfl,rfl⟩
    go_wp2
    refine hK.out _ _ Hb.out λhHeld=>?_;clear hK K;refine tk 13 ?_;refine tk 14 ?_;refine tk 15 ?_;refine tk 16 ?_;refine tk 17 ?_;refine tk 18 ?_;refine tk 19 ?_;refine tk 20 ?_;refine tk 21 ?_;refine rd 22 λK hK=>?_;go_simp
    go_wp2_with fail
    refine Hm.out.mono ?_;rintro e W1 ⟨rfl,Ha,Hj⟩;have Hg:Hid ((m9 w.heap.size g.cp g.dv.length va vc sb s.cp pb) W1):=⟨(Ha.cell_far ⟨w.heap.size,0,none⟩ (by show w.heap.size<_;omega) (λe=>by injection e with e;have e:w.heap.size=pb:=e;omega)).trans Hb.out.1,(Ha.cell_far ⟨w.heap.size,1,none⟩ (by show w.heap.size<_;omega) (λe=>by injection e with e;have e:w.heap.size=pb:=e;omega)).trans Hb.out.2.1,(Ha.cell_far ⟨sb,0,none⟩ (by show sb<_;omega) λe=>He (by injection e)).trans Hb.out.2.2.1,(Ha.cell_far ⟨sb,1,none⟩ (by show sb<_;omega) λe=>He (by injection e)).trans Hb.out.2.2.2⟩;have Hw:=qI Hj;have Hq:=qI (HL.out.trans (eu (K:=ix pb sb) Ha λj hj _=>.inl (by injection hj with hj;exact hj.symm)));have Hs:=qI ((Ha.block sb (by omega) λe=>He (by injection e)).trans HD.out);have Hz:=qI ((Ha.block w.heap.size (by omega) (λe=>by injection e with e;omega)).trans HJ.out);have H5:=Ha.size;clear Hj Ha
    go_wp2
    refine hK.out _ _ Hg.out λhHeld=>?_;clear hK K;refine tk 23 ?_;refine tk 24 ?_;refine Qn (by kernel_rfl) ?_ _;clear hHeld;have c0:W1.cell? ⟨sb,0,none⟩=some (.int .u64 s.cp):=Hg.out.2.2.1;have c1:W1.cell? ⟨w.heap.size,0,none⟩=some (.int .u64 (g.cp:Nat)):=Hg.out.1;have f0:=ai Hs.out 0;have HS:=iI s.cp g.cp hcp hg
    go_wp2_with fail
    go_region
    have HB:Hid (∀ j,j≠sb->(W1.setCell ⟨sb,0,none⟩ (.int .u64 (dif s.cp g.cp:Nat))).drew.heap[j]?=W1.heap[j]?):=λj hj=>set_other hj
    have HO:Hid ((W1.setCell ⟨sb,0,none⟩ (.int .u64 (dif s.cp g.cp:Nat))).drew.heap[sb]?=some (.cells #[.int .u64 (dif s.cp g.cp:Nat),.pointer (some ⟨pb,0,none⟩)] 98 (0,0))):=ah Hs.out 0 _;have hc:(W1.setCell ⟨sb,0,none⟩ (.int .u64 (dif s.cp g.cp:Nat))).drew.heap.size=W1.heap.size:=by simp [World.drew]
    have HA:iH s.ds.length s.us g.dv=aL s.us g.dv:=by unfold iH;rw [if_pos H3.out]
    rw [HA] at Hw;have HI:Hid (ak (W1.setCell ⟨sb,0,none⟩ (.int .u64 (dif s.cp g.cp:Nat))).drew pb db ao pc s.ds (aL s.us g.dv)):=(Hw.out.kept (bL _ ⟨sb,0,none⟩ _) (λe=>He (by injection e with e;exact e.symm)) λh0 e=>hdb h0 (by injection e)).drewN 1;have Hu:Hid (Apart (ix pb sb) w (W1.setCell ⟨sb,0,none⟩ (.int .u64 (dif s.cp g.cp:Nat))).drew):=(Hq.out.trans (Apart.setCell (K:=ix pb sb) (.inr rfl) _ _ _)).trans (Apart.drew _ _);generalize (W1.setCell ⟨sb,0,none⟩ (.int .u64 (dif s.cp g.cp:Nat))).drew=W2 at *;have HZ:=qI ((HB.out w.heap.size (by omega)).trans Hz.out);have Hp:Hid (∀ W,Below W2.heap.size W2 W->(Ly sb pb w.heap.size va g.dv.length vc) W):=λW hb=>⟨aa ((hb.block sb (by omega)).trans HO.out) 1,aa ((hb.block w.heap.size (by omega)).trans HZ.out) 1⟩
    have Hv:Hid (Below W2.heap.size W2 W2.drew):=a6 (Q0 _ _);have HT:=qI (xP W2.drew pb db ao pc s.ds (aL s.us g.dv) (HI.out.drewN 1) HK.out.1);have H4:Hid (∀ k,k<g.dv.length->0<=g.dv.getD k 0/\g.dv.getD k 0<s.ds.length):=λk hk=>by
     have:=Dvs.cR H3.out k hk
     unfold clF Dvs.nth at this
     split at this
     ·cases this
     ·omega
    clear c0 c1 f0 HS HA HB Hg
    go_wp2_with fail
    refine Qo (by kernel_rfl) (Hp.out _ Hv.out) λhHeld=>?_;refine tk 0 ?_;refine tk 1 ?_;refine tk 2 ?_;refine tk 3 ?_;refine tk 5 ?_;refine tk 6 ?_;refine tk 7 ?_;refine rd 4 λK hK=>?_;go_simp
    go_wp2_with fail
    refine HT.out.mono ?_;rintro e W3 ⟨v3,rfl,Ht,HR⟩;have Hl:=qI (Hv.out.trans (HR.mono Hv.out.size));have H7:=qI Ht;obtain ⟨a3,c3,g3,H0,_⟩:=id Ht;subst H0;clear HR Ht
    go_wp2
    refine hK.out _ _ (Hp.out _ Hl.out) λhHeld=>?_;clear hK K;refine rd 8 λK hK=>?_;go_simp
    go_wp2_with fail
    obtain ⟨dg,Hk⟩:=zg H7.out;have hJ:=Kj _ _ _ dg 0 s.ds g.dv ns W3 Hk (HV.out.le ((k9 Hu.out λ_ _ h=>h).trans ((cC _ _).trans (aq.of_below Hl.out)))) (HU.out.le ((k9 Hu.out λ_ _ h=>h).trans ((cC _ _).trans (aq.of_below Hl.out)))) hdl hnl H4.out (by have:=HK.out.1.1;omega) (λk hk=>by have:=HK.out.2 k hk;omega) H6.out;refine hJ.mono ?_;rintro e W4 ⟨⟨bb,rfl,HF⟩,HC⟩;have Ho:=qI (Hl.out.trans (HC.mono Hl.out.size));have HM:=qI HF;clear HC HF hJ Hk
    go_wp2
    refine hK.out _ _ (Hp.out _ Ho.out) λhHeld=>?_;clear hK K;refine tk 9 ?_;refine Qn (by kernel_rfl) ?_ _;clear hHeld
    go_wp2
    go_ret;refine ⟨?_,Hu.out.trans (Apart.of_below Ho.out)⟩;obtain ⟨hy,hn⟩:=Lx (s:=s) (g:=g) (own:=own) (ns:=ns) ⟨H1.out,HX.out,H3.out⟩
    rcases two bb with hb|hb
    ·subst hb;rw [hy (HM.out.1 rfl)];exact ⟨rfl,(Ho.out.block sb (by omega)).trans HO.out,HI.out.below Ho.out⟩
    ·subst hb;rw [hn (λh=>by have:=HM.out.2 h;cases this)];rfl
   ·have HE:=qI (sy (s:=s) (g:=g) (own:=own) (ns:=ns) λh=>h3 h.2.2);rw [eh h3] at Hm;generalize first (clF s.ds.length s.us g.dv) g.dv.length=fe at *;clear h3
    go_wp2_with fail
    refine wp_region_held_drew (S:=m9 w.heap.size g.cp g.dv.length va vc sb s.cp pb) (by kernel_rfl) Hb.out λhHeld=>?_;generalize (w.alloc (ew g.cp g.dv.length va vc)).drew=X at *;refine tk 0 ?_;refine tk 1 ?_;refine tk 2 ?_;refine tk 3 ?_;refine tk 4 ?_;refine tk 5 ?_;refine rd 6 λK hK=>?_;go_simp
    go_wp2_with fail
    refine (HQ.out _).mono ?_;rintro e wz ⟨rfl,rfl⟩
    go_wp2
    refine hK.out _ _ Hb.out λhHeld=>?_;clear hK K;refine tk 7 ?_;refine tk 8 ?_;refine tk 9 ?_;refine tk 10 ?_;refine tk 12 ?_;refine rd 11 λK hK=>?_;go_simp
    go_wp2_with fail
    refine (Hf.out _ hg).mono ?_;rintro e wz ⟨rfl,rfl⟩
    go_wp2
    refine hK.out _ _ Hb.out λhHeld=>?_;clear hK K;refine tk 13 ?_;refine tk 14 ?_;refine tk 15 ?_;refine tk 16 ?_;refine tk 17 ?_;refine tk 18 ?_;refine tk 19 ?_;refine tk 20 ?_;refine tk 21 ?_;refine rd 22 λK hK=>?_;go_simp
    go_wp2_with fail
    refine Hm.out.mono ?_;rintro e W1 ⟨rfl,Ha,Hj⟩;have Hg:Hid ((m9 w.heap.size g.cp g.dv.length va vc sb s.cp pb) W1):=⟨(Ha.cell_far ⟨w.heap.size,0,none⟩ (by show w.heap.size<_;omega) (λe=>by injection e with e;have e:w.heap.size=pb:=e;omega)).trans Hb.out.1,(Ha.cell_far ⟨w.heap.size,1,none⟩ (by show w.heap.size<_;omega) (λe=>by injection e with e;have e:w.heap.size=pb:=e;omega)).trans Hb.out.2.1,(Ha.cell_far ⟨sb,0,none⟩ (by show sb<_;omega) λe=>He (by injection e)).trans Hb.out.2.2.1,(Ha.cell_far ⟨sb,1,none⟩ (by show sb<_;omega) λe=>He (by injection e)).trans Hb.out.2.2.2⟩;have Hw:=qI Hj;have Hq:=qI (HL.out.trans (eu (K:=ix pb sb) Ha λj hj _=>.inl (by injection hj with hj;exact hj.symm)));have Hs:=qI ((Ha.block sb (by omega) λe=>He (by injection e)).trans HD.out);have Hz:=qI ((Ha.block w.heap.size (by omega) (λe=>by injection e with e;omega)).trans HJ.out);have H5:=Ha.size;clear Hj Ha
    go_wp2
    refine hK.out _ _ Hg.out λhHeld=>?_;clear hK K;refine tk 23 ?_;refine tk 24 ?_;refine Qn (by kernel_rfl) ?_ _;clear hHeld
    go_wp2
    go_ret;exact ⟨by rw [HE.out];rfl,Hq.out⟩
  ·have HH:((cnt g.cp:Int) != own)=true:=by simp [h2]
   have HE:=qI (sy (s:=s) (g:=g) (own:=own) (ns:=ns) λh=>h2 h.2.1);generalize cnt g.cp=cg at *;clear h2 h1
   go_wp2
   go_quiet (first|exact Calls.quiet_of_same (Hh.out _)|exact Calls.quiet_of_same (Hf.out _ hg))
   go_wp2
   go_ret;exact ⟨by rw [HE.out];rfl,(Apart.of_below Hn.out).trans (Apart.drewN _ _ _)⟩
 ·have Hx:decide (g.cp &&& s.cp=g.cp)=false:=Q7 h1;simp only [Hx] at Hh;have HE:=qI (sy (s:=s) (g:=g) (own:=own) (ns:=ns) λh=>h1 h.1);clear h1
  go_wp2
  go_quiet (first|exact Calls.quiet_of_same (Hh.out _)|exact Calls.quiet_of_same (Hf.out _ hg))
  go_wp2
  go_ret;exact ⟨by rw [HE.out];rfl,(Apart.of_below Hn.out).trans (Apart.drewN _ _ _)⟩
end
section
open RowKit Shelf
open Qos (Nd Ct Pd nd ct pd af aA)
open Sv (Gv Hd gv hd gsF OkC OkG)
open Ost (dif cnt)
open Dvs (Dv dv aW)
attribute [local go_sem] Oper.semAt_some
theorem LA {s:Ol.Sk} {h:Hd} {j:Nat} (hn:Ol.dT s h j=none):∀ i,j<=i->Ol.dT s h i=none:=by
 intro i hi
 induction i with
 | zero=>rw [show j=0 by omega] at hn;exact hn
 | succ i ih=>
  by_cases e:j=i+1
  ·rw [<- e];exact hn
  ·rw [Ol.dT,ih (by omega)];rfl
theorem LB {s:Ol.Sk} {hs:List Hd} {k:Nat} (hn:Ol.bM s hs k=none):∀ i,k<=i->Ol.bM s hs i=none:=by
 intro i hi
 induction i with
 | zero=>rw [show k=0 by omega] at hn;exact hn
 | succ i ih=>
  by_cases e:k=i+1
  ·rw [<- e];exact hn
  ·rw [Ol.bM,ih (by omega)];rfl
theorem rh {s s':Ol.Sk} {g:Gv} {own:Int} {ns:List Nd} (h:Ol.dh s g own ns=some s'):s'.ds=s.ds/\(s.cp<18446744073709551616->s'.cp<18446744073709551616):=by
 unfold Ol.dh at h
 split at h
 ·split at h
  ·injection h with h
   subst h;exact ⟨rfl,λhs=>Ost.gX _ hs⟩
  ·cases h
 ·cases h
theorem cU.le {W W':World} {v:Value} {g o:Nat} {ds:List Dv} (h:cU W v g o ds) (l:aq W W'):cU W' v g o ds:=by
 obtain ⟨ao,c,hv,hr⟩:=h;refine ⟨ao,c,hv,λh0=>?_⟩;obtain ⟨ha,hlt,hc⟩:=hr h0;exact ⟨ha,Q1 hlt l.size,λk hk=>⟨l.cell _ _ _ (hc k hk).1,l.cell _ _ _ (hc k hk).2.1,l.cell _ _ _ (hc k hk).2.2⟩⟩
def jK (hs:List Hd):Prop:=∀ x∈hs,af x.pod=0/\x.gs.length=x.pod.cs.length/\gsF x.gs=0
def nh (w w':World) (e:Ending):Option Ol.Sk->Prop
 | some s'=>∃ pb db ao c,e=.returned (.tuple #[sV s' pb,.bool true])/\dj w' pb db ao c s'/\w.heap.size<=pb/\(0<s'.ds.length->w.heap.size<=db)
 | none=>∃ cp p,e=.returned (.tuple #[.agg #[.int .u64 cp,.pointer p],.bool false])
abbrev jL:=λ(x0:Qos.Ct) (x1:Option Addr) (x2:Nat)=>(.cells #[.string x0.nm,.int .i64 x0.am,.int .i64 x0.ab,.int .i64 x0.cm,.int .i64 x0.cb,.slice x1 x0.ds.length x2] 63:Obj)
abbrev jM:=λ(x0:Sv.Hd) (x1:Option Addr) (x2:Nat) (x3:Option Addr) (x4:Nat)=>(.cells #[.string x0.pod.nm,.int .i64 x0.pod.pr,.slice x1 x0.pod.cs.length x2,.slice x3 x0.gs.length x4] 57:Obj)
abbrev kD:=λ(x0:Nat) (x1:Ol.Mc)=>(.cells #[.pointer (some ⟨x0,0,none⟩),.int .u64 x1.op,.int .u8 x1.nd,.int .i64 x1.nb,.int .i64 x1.pol] 95:Obj)
abbrev iy:=λ(x0:Sv.Gv) (x1:Option Addr) (x2:Nat)=>(.cells #[.int .u64 (x0.cp:Nat),.slice x1 x0.dv.length x2] 69:Obj)
abbrev lD:=λ(x0:Ol.Mc) (x1:Nat)=>(.cells #[.int .u64 x0.op,.pointer (some ⟨x1,0,none⟩)] 98:Obj)
abbrev sA:=λ(Bq:Nat) (y:Sv.Gv) (ia:Option Addr) (ic Bh:Nat) (x:Sv.Hd) (cb co cc:Nat) (z:Qos.Ct) (na:Option Addr) (nc:Nat) (w':World)=>w'.cell? ⟨Bq,0,none⟩=some (.int .u64 (y.cp:Nat))/\w'.cell? ⟨Bq,1,none⟩=some (.slice ia y.dv.length ic)/\w'.cell? ⟨Bh,0,none⟩=some (.string x.pod.nm)/\w'.cell? ⟨Bh,1,none⟩=some (.int .i64 x.pod.pr)/\w'.cell? ⟨Bh,2,none⟩=some (.slice (some ⟨cb,co,none⟩) x.pod.cs.length cc)/\w'.cell? ⟨Bq+1,0,none⟩=some (.string z.nm)/\w'.cell? ⟨Bq+1,1,none⟩=some (.int .i64 z.am)/\w'.cell? ⟨Bq+1,2,none⟩=some (.int .i64 z.ab)/\w'.cell? ⟨Bq+1,3,none⟩=some (.int .i64 z.cm)/\w'.cell? ⟨Bq+1,4,none⟩=some (.int .i64 z.cb)/\w'.cell? ⟨Bq+1,5,none⟩=some (.slice na z.ds.length nc)
theorem LC (m:Ol.Mc) (tb g o:Nat) (v vh:Value) (ds:List Dv) (hs:List Hd) (w:World) (hd:cU w v g o ds) (hH:aJ w vh hs) (hop:m.op<18446744073709551616) (hok:jK hs) (hl:hs.length<=100) :
  Calls Tryz.prog 93 #[mV m tb,v,vh] w λe w'=>nh w w' e (Ol.left m ds hs)/\Below w.heap.size w w':=by
 unfold mV;have Jb:=qI hok;have hF:=qI (((Q0 w.heap.size w).alloc (lR) (kD tb m)).alloc (by simp) (.cells #[.int .u64 0,.pointer none] 98));have sz:((w.alloc (kD tb m)).alloc (.cells #[.int .u64 0,.pointer none] 98)).heap.size=w.heap.size+2:=by simp
 have h8:=qI (bj (aD w (kD tb m) rfl) (.cells #[.int .u64 0,.pointer none] 98));have h7:=qI (aD (w.alloc (kD tb m)) (.cells #[.int .u64 0,.pointer none] 98) (n:=w.heap.size+1) (by simp));have hR:cU ((w.alloc (kD tb m)).alloc (.cells #[.int .u64 0,.pointer none] 98)) v g o ds:=hd.le (aq.of_below hF.out);have HN:=qI (uI v g o ds ((w.alloc (kD tb m)).alloc (.cells #[.int .u64 0,.pointer none] 98)) hR);obtain ⟨da,dc,rfl,_⟩:=hd;obtain ⟨ao,c,rfl,hg,hr⟩:=hH;have HR:=qI hr;clear hok hR hr hg
 go_enter Tryz.func93,Tryz.ntmps93
 go_wp2_with fail
 generalize ((w.alloc (kD tb m)).alloc (.cells #[.int .u64 0,.pointer none] 98))=U at *;generalize hB:w.heap.size=B at *;refine HN.out.mono ?_;rintro e W1 ⟨Hs,hz,Hy⟩;have hS:=qI (hF.out.trans (Hy.mono (by omega)));have JA:=Hy.size;have HB:=qI ((Hy.block (B+1) (by omega)).trans h7.out);have h4:=qI ((Hy.block B (by omega)).trans h8.out)
 by_cases hf:Dvs.fault ds=0
 ·obtain ⟨p,rfl,pb,db,pao,pc,rfl,Hh,h5,Hv⟩:=Hs hf;have HK:=qI (Lv hf);have hW:Hid (Ol.left m ds hs=Ol.bM ⟨m.op,ds,λ_=>false⟩ hs hs.length):=by unfold Hid Ol.left;rw [if_pos hf]
  have HY:=qI Hh;have Jv:=Hh.lt;have Jj:Hid (0<ds.length->B<=db/\db<W1.heap.size):=λh0=>⟨by have:=Hv h0;omega,(Hh.at0 h0).2.2⟩
  have Hx:Hid (0<ds.length->U.heap.size<=db):=λh0=>Hv h0
  clear Hs hz Hh Hy Hv hf HN;dsimp only;rw [show au (((0:Nat)):Int)=.nilIface from rfl];have m1:W1.cell? ⟨B,1,none⟩=some (.int .u64 m.op):=aa h4.out 1;have Jo:=qI (HY.out.alloc (lD m pb));have Jg:=qI (aD W1 (lD m pb) rfl);have h2:=qI (bj HB.out (lD m pb));have Jy:(W1.alloc (lD m pb)).heap.size=W1.heap.size+1:=by simp
  have ha:=qI (hS.out.alloc (by omega) (lD m pb))
  go_wp2_with fail
  generalize W1.alloc (lD m pb)=W2 at *;generalize hsb:W1.heap.size=sb at *;clear m1
  go_loopw [30] (λi wr=>∃ (k:Nat) (sk:Ol.Sk),k<=hs.length/\i=.int .i64 k/\Ol.bM ⟨m.op,ds,λ_=>false⟩ hs k=some sk/\(sk.ds=ds/\sk.cp<18446744073709551616)/\wr.heap[sb]?=some (.cells #[.int .u64 sk.cp,.pointer (some ⟨pb,0,none⟩)] 98 (0,0))/\ak wr pb db pao pc sk.ds sk.us/\Apart (ix pb sb) W2 wr) (λi _=>hs.length - (intOf i).toNat)
  case atStart=>exact ⟨0,⟨m.op,ds,λ_=>false⟩,by omega,rfl,rfl,⟨rfl,hop⟩,Jg.out,Jo.out,Apart.refl _ _⟩
  case round=>
   obtain ⟨k,sk,hk,rfl,HQ,HJ,Hk,Hl,He⟩:=hrel;have hN:=qI HQ;have H9:=qI Hk;have hU:=qI Hl;have hT:=qI He;have HE:=qI HJ;have Ju:=He.size;have hp:Hid (Below w.heap.size w wr):=by
    unfold Hid;rw [hB];exact He.below ha.out (by omega) (λj hj=>by rcases hj with h|h <;> omega)
   clear HQ Hk Hl He HJ
   by_cases hlt:k<hs.length
   ·obtain ⟨hb,ho,cv,gvv,rfl,H3⟩:=HR.out (by omega);have hle:=aq.of_below hp.out;obtain ⟨x0,x1,x2,x3⟩:=(H3.2 k hlt).1;have x0:=hle.cell _ _ _ x0;have x1:=hle.cell _ _ _ x1;have x2:=hle.cell _ _ _ x2;have x3:=hle.cell _ _ _ x3;have Hm:=(H3.2 k hlt).2.1;have HS:=(H3.2 k hlt).2.2;obtain ⟨hV,hY,hJ⟩:=Jb.out (hd hs k) (by simp [hd,hlt]);have hI:Hid (Ol.bM ⟨m.op,ds,λ_=>false⟩ hs (k+1)=Ol.dT sk (hd hs k) (hd hs k).gs.length):=by unfold Hid;rw [Ol.bM,hN.out];rfl
    obtain ⟨ca,cc,hL,hg,hP⟩:=id Hm;obtain ⟨ga,gc,hO,h9,hM⟩:=id HS;rw [hL] at x2 Hm;rw [hO] at x3;have HM:=qI Hm;have Jf:=qI hP;have Jm:=qI hM;have HU:=qI (Sv.fD hV);have Js:=HU.out.2.2.1;have Jp:=qI hJ;have hm:=qI hY;have Jk:(hd hs k).gs.length<=3:=by omega
    clear H3 Hm HS hL hO hP hM hle hg h9 hV hJ hY;generalize hd hs k=x at *;have Jx:=qI ((Q0 wr.heap.size wr).alloc (lR) (jM x ca cc ga gc));have hX:=qI (aD wr (jM x ca cc ga gc) rfl);have Jt:(wr.alloc (jM x ca cc ga gc)).heap.size=wr.heap.size+1:=by simp
    have hv:=qI (bj H9.out (jM x ca cc ga gc));have hx:=qI (hU.out.alloc (jM x ca cc ga gc));have y3:(wr.alloc (jM x ca cc ga gc)).cell? ⟨wr.heap.size,3,none⟩=some (.slice ga x.gs.length gc):=aa hX.out 3;have H5:=qI (hT.out.trans (Apart.alloc _ wr (jM x ca cc ga gc)))
    go_wp2_with fail
    generalize wr.alloc (jM x ca cc ga gc)=W3 at *;generalize hBh:wr.heap.size=Bh at *;clear x0 x1 x2 x3 y3 hp
    go_loopw [37] (λi wr=>∃ (j:Nat) (sq:Ol.Sk),j<=x.gs.length/\i=.int .i64 j/\Ol.dT sk x j=some sq/\(sq.ds=ds/\sq.cp<18446744073709551616)/\wr.heap[sb]?=some (.cells #[.int .u64 sq.cp,.pointer (some ⟨pb,0,none⟩)] 98 (0,0))/\ak wr pb db pao pc sq.ds sq.us/\Apart (ix pb sb) W3 wr) (λi _=>x.gs.length - (intOf i).toNat)
    case atStart=>exact ⟨0,sk,by omega,rfl,rfl,HE.out,hv.out,hx.out,Apart.refl _ _⟩
    case round=>
     obtain ⟨j,sq,hj,rfl,HL,HT,Hk,Hl,He⟩:=hrel;have hZ:=qI HL;have HF:=qI Hk;have HI:=qI Hl;have hy:=qI He;have Hz:=qI HT;have Jw:=He.size;have Hu:=qI (H5.out.trans He);have Ht:Hid (Below w.heap.size w wr):=by
      unfold Hid;rw [hB];exact Hu.out.below ha.out (by omega) (λj hj=>by rcases hj with h|h <;> omega)
     have HG:=qI ((He.block Bh (by omega) (by rintro (h|h) <;> omega)).trans hX.out);clear HL Hk Hl He HT
     by_cases hjt:j<x.gs.length
     ·have hh:j<x.pod.cs.length:=by rw [<- hm.out];exact hjt
      obtain ⟨gb,go,dv,rfl,HW⟩:=Jm.out (by omega);obtain ⟨cb,co,cdv,rfl,Hr⟩:=Jf.out (by omega);have hle:=aq.of_below Ht.out;obtain ⟨⟨g0,g1,g2⟩,Hn⟩:=HW.2 j hjt;have g0:=hle.cell _ _ _ g0;have g1:=hle.cell _ _ _ g1;obtain ⟨k0,k1,k2,k3,k4,k5⟩:=Hr.at hh;have k0:=hle.cell _ _ _ k0;have k1:=hle.cell _ _ _ k1;have k2:=hle.cell _ _ _ k2;have k3:=hle.cell _ _ _ k3;have k4:=hle.cell _ _ _ k4;have k5:=hle.cell _ _ _ k5;have Hi:=(Hr.2 j hh).2;obtain ⟨ia,ic,h3,Jq,Jr⟩:=id Hn;obtain ⟨na,nc,hD,Ja,Jn⟩:=id Hi;rw [h3] at g1 Hn;rw [hD] at k5 Hi;have H7:=qI Hn;have HH:=qI Hi;have hG:Hid (Ol.dT sk x (j+1)=Ol.dh sq (gv x.gs j) (aA x.pod.cs (ct x.pod.cs j).am) (ct x.pod.cs j).ds):=by unfold Hid;rw [Ol.dT,hZ.out];rfl
      have HD:=qI (HU.out.2.2.2 (ct x.pod.cs j) (Ost.dX _ _ _ hh));have h6:=qI (Ol.ry (Dvs.cR Jp.out j hjt));have Jc:HG.out=HG.out:=rfl;have j1:(j:Int)<(x.gs.length:Int):=by omega
      have j2:(j:Int)<(x.pod.cs.length:Int):=by omega
      clear HW Hr Hn Hi h3 hD hle Jq Jr Ja Jn Jc;generalize gv x.gs j=y at *;generalize ct x.pod.cs j=z at *;have b2:wr.cell? ⟨Bh,2,none⟩=some (.slice (some ⟨cb,co,none⟩) x.pod.cs.length cc):=aa HG.out 2;have H6:=qI (((Q0 wr.heap.size wr).alloc (lR) (iy y ia ic)).alloc (by simp) (jL z na nc));have HC:=qI (bj (aD wr (iy y ia ic) rfl) (jL z na nc));have Hc:=qI (aD (wr.alloc (iy y ia ic)) (jL z na nc) (n:=wr.heap.size+1) (by simp));have Jz:((wr.alloc (iy y ia ic)).alloc (jL z na nc)).heap.size=wr.heap.size+2:=by simp
      have b3:(wr.alloc (iy y ia ic)).cell? ⟨Bh,2,none⟩=some (.slice (some ⟨cb,co,none⟩) x.pod.cs.length cc):=aa (bj HG.out _) 2;have Hg:=(Q0 wr.heap.size wr).alloc (lR) (iy y ia ic);have HA:cb<wr.heap.size:=Q3 _ ⟨cb,co+j*6,none⟩ k0;have k0':=(Hg.cell (p:=⟨cb,co+j*6,none⟩) HA).trans k0;have k1':=(Hg.cell (p:=⟨cb,co+j*6+1,none⟩) HA).trans k1;have k2':=(Hg.cell (p:=⟨cb,co+j*6+2,none⟩) HA).trans k2;have k3':=(Hg.cell (p:=⟨cb,co+j*6+3,none⟩) HA).trans k3;have k4':=(Hg.cell (p:=⟨cb,co+j*6+4,none⟩) HA).trans k4;have k5':=(Hg.cell (p:=⟨cb,co+j*6+5,none⟩) HA).trans k5;clear Hg
      go_wp2_with fail
      generalize hBq:wr.heap.size=Bq at *;have Jl:Hid (ak ((wr.alloc (iy y ia ic)).alloc (jL z na nc)) pb db pao pc sq.ds sq.us):=(HI.out.alloc _).alloc _;have hw:=qI (bj (bj HF.out (iy y ia ic)) (jL z na nc));have Hf:=qI (bj (bj HG.out (iy y ia ic)) (jL z na nc));have HP:=qI (Ht.out.trans (H6.out.mono (by have:=Ht.out.size;omega)));generalize ((wr.alloc (iy y ia ic)).alloc (jL z na nc))=X at *;clear g0 g1 k0 k1 k2 k3 k4 k5 b2 b3 k0' k1' k2' k3' k4' k5';have H1:Hid (∀ W,Below X.heap.size X W->(sA Bq y ia ic Bh x cb co cc z na nc) W):=λW hb=>⟨aa ((hb.block (Bq) (by omega)).trans HC.out) 0,aa ((hb.block (Bq) (by omega)).trans HC.out) 1,aa ((hb.block (Bh) (by omega)).trans Hf.out) 0,aa ((hb.block (Bh) (by omega)).trans Hf.out) 1,aa ((hb.block (Bh) (by omega)).trans Hf.out) 2,aa ((hb.block (Bq+1) (by omega)).trans Hc.out) 0,aa ((hb.block (Bq+1) (by omega)).trans Hc.out) 1,aa ((hb.block (Bq+1) (by omega)).trans Hc.out) 2,aa ((hb.block (Bq+1) (by omega)).trans Hc.out) 3,aa ((hb.block (Bq+1) (by omega)).trans Hc.out) 4,aa ((hb.block (Bq+1) (by omega)).trans Hc.out) 5⟩
      have Ho:Hid (Below X.heap.size X X.drew):=a6 (Q0 _ _);have H2:Hid (∀ W,Below X.heap.size X W->Below w.heap.size w W):=λW hb=>HP.out.trans (hb.mono (by have:=HP.out.size;omega))
      have Hq:=qI (λ(W:World) (hb:Below X.heap.size X W)=>Lz sb pb db pao pc sq y (aA x.pod.cs z.am) (.slice ia y.dv.length ic) (.slice na z.ds.length nc) z.ds W ((hb.block sb (by omega)).trans hw.out) (Jl.out.below hb) (by rw [Hz.out.1];exact HK.out) Hz.out.2 g2 (H7.out.le (mx (H2.out W hb) rfl (λj hj=>by rcases hj with h|h <;> omega))) (HH.out.le (mx (H2.out W hb) rfl (λj hj=>by rcases hj with h|h <;> omega))) (by have:=h6.out;omega) (by have:=HD.out.2.2.2.2.2.1;omega) (λq hq=>by
       have hn:=HD.out.2.2.2.2.2.2 (nd z.ds q) (Ost.dX _ _ _ hq)
       have:=(Sv.g9 hn.1).2
       have e:(nd z.ds q).kind.data.toList.length=(nd z.ds q).kind.size:=by simp
       have:=hn.2
       omega) (λh0=>by have:=Jj.out (by rw [<- Hz.out.1];exact h0);omega))
      obtain ⟨oc,hA⟩:∃ oc,oc=Ol.dh sq y (aA x.pod.cs z.am) z.ds:=⟨_,rfl⟩;rw [<- hA] at Hq;have H8:=qI hA;clear hA;cases oc with
      | none=>
       refine Qo (by kernel_rfl) (H1.out _ Ho.out) λhQ=>?_;generalize X.drew=V at *;refine tk 0 ?_;refine tk 1 ?_;refine tk 2 ?_;refine tk 3 ?_;refine tk 5 ?_;refine tk 6 ?_;refine rd 4 λK hK=>?_;go_simp
       go_wp2_with fail
       refine (mn x.pod (.slice (some ⟨cb,co,none⟩) x.pod.cs.length cc) z na z.ds.length nc V (HM.out.le (aq.of_below (H2.out _ Ho.out))) HD.out.2.1.1 HD.out.2.1.2).mono ?_;rintro e W5 ⟨rfl,HV⟩;have Hb:=qI (Ho.out.trans (HV.mono Ho.out.size));clear HV
       go_wp2
       refine hK.out _ _ (H1.out _ Hb.out) λhQ=>?_;clear hK K;refine rd 7 λK hK=>?_;go_simp
       go_wp2_with fail
       refine (Hq.out W5 Hb.out).mono ?_;rintro e W6 ⟨HX,Ha⟩;have Hw:=qI Ha;have HX:e=.returned (.bool false):=HX;subst HX;have hc:Hid ((sA Bq y ia ic Bh x cb co cc z na nc) W6):=⟨aa ((Ha.block (Bq) (by have:=Hb.out.size;omega) (by rintro (h|h) <;> omega)).trans ((Hb.out.block (Bq) (by omega)).trans HC.out)) 0,aa ((Ha.block (Bq) (by have:=Hb.out.size;omega) (by rintro (h|h) <;> omega)).trans ((Hb.out.block (Bq) (by omega)).trans HC.out)) 1,aa ((Ha.block (Bh) (by have:=Hb.out.size;omega) (by rintro (h|h) <;> omega)).trans ((Hb.out.block (Bh) (by omega)).trans Hf.out)) 0,aa ((Ha.block (Bh) (by have:=Hb.out.size;omega) (by rintro (h|h) <;> omega)).trans ((Hb.out.block (Bh) (by omega)).trans Hf.out)) 1,aa ((Ha.block (Bh) (by have:=Hb.out.size;omega) (by rintro (h|h) <;> omega)).trans ((Hb.out.block (Bh) (by omega)).trans Hf.out)) 2,aa ((Ha.block (Bq+1) (by have:=Hb.out.size;omega) (by rintro (h|h) <;> omega)).trans ((Hb.out.block (Bq+1) (by omega)).trans Hc.out)) 0,aa ((Ha.block (Bq+1) (by have:=Hb.out.size;omega) (by rintro (h|h) <;> omega)).trans ((Hb.out.block (Bq+1) (by omega)).trans Hc.out)) 1,aa ((Ha.block (Bq+1) (by have:=Hb.out.size;omega) (by rintro (h|h) <;> omega)).trans ((Hb.out.block (Bq+1) (by omega)).trans Hc.out)) 2,aa ((Ha.block (Bq+1) (by have:=Hb.out.size;omega) (by rintro (h|h) <;> omega)).trans ((Hb.out.block (Bq+1) (by omega)).trans Hc.out)) 3,aa ((Ha.block (Bq+1) (by have:=Hb.out.size;omega) (by rintro (h|h) <;> omega)).trans ((Hb.out.block (Bq+1) (by omega)).trans Hc.out)) 4,aa ((Ha.block (Bq+1) (by have:=Hb.out.size;omega) (by rintro (h|h) <;> omega)).trans ((Hb.out.block (Bq+1) (by omega)).trans Hc.out)) 5⟩;clear Ha
       go_wp2
       refine hK.out _ _ hc.out λhQ=>?_;clear hK K;refine tk 8 ?_;refine Qn (by kernel_rfl) ?_ _;clear hQ;have H4:=qI ((Hu.out.trans (Apart.of_below (show Below wr.heap.size wr X by rw [hBq];exact H6.out))).trans ((Apart.of_below Hb.out).trans Hw.out));have Hj:=qI ((H4.out.block (B+1) (by omega) (by rintro (h|h) <;> omega)).trans h2.out);have Je:Hid (Below w.heap.size w W6):=by
        unfold Hid;rw [hB];exact H4.out.below ha.out (by omega) (λj hj=>by rcases hj with h|h <;> omega)
       have hu:Hid (Ol.left m ds hs=none):=by
        unfold Hid;rw [hW.out];refine LB (k:=k+1) ?_ _ (by omega);rw [hI.out];exact LA (j:=j+1) (by rw [hG.out,H8.out]) _ (by omega)
       have z0:W6.cell? ⟨B+1,0,none⟩=some (.int .u64 0):=aa Hj.out 0;have z1:W6.cell? ⟨B+1,1,none⟩=some (.pointer none):=aa Hj.out 1;have f0:=ai Hj.out 0;have f1:=ai Hj.out 1;have Hp:=qI (ah (ah Hj.out 0 (.int .u64 0)) 1 (.pointer none));have HO:=qI ((Je.out.setCell (p:=⟨B+1,0,none⟩) (by rw [hB];exact Nat.le_succ _) (.int .u64 0)).setCell (p:=⟨B+1,1,none⟩) (by rw [hB];exact Nat.le_succ _) (.pointer none))
       go_wp2_with fail
       generalize ((W6.setCell ⟨B+1,0,none⟩ (.int .u64 0)).setCell ⟨B+1,1,none⟩ (.pointer none))=WZ at *;(try simp only [Exit.inBlock,Exit.then]);refine bodyPost_ret (v:=.tuple #[.agg #[.int .u64 0,.pointer none],.bool false]) ?_ rfl ⟨by rw [hu.out];exact ⟨0,none,rfl⟩,hB ▸ HO.out⟩;have r0:WZ.cell? ⟨B+1,0,none⟩=some (.int .u64 0):=aa Hp.out 0;have r1:WZ.cell? ⟨B+1,1,none⟩=some (.pointer none):=aa Hp.out 1;rw [iw rfl];clear z0 z1 f0 f1;go_simp
      | some sq2=>
       refine Qo (by kernel_rfl) (H1.out _ Ho.out) λhQ=>?_;generalize X.drew=V at *;refine tk 0 ?_;refine tk 1 ?_;refine tk 2 ?_;refine tk 3 ?_;refine tk 5 ?_;refine tk 6 ?_;refine rd 4 λK hK=>?_;go_simp
       go_wp2_with fail
       refine (mn x.pod (.slice (some ⟨cb,co,none⟩) x.pod.cs.length cc) z na z.ds.length nc V (HM.out.le (aq.of_below (H2.out _ Ho.out))) HD.out.2.1.1 HD.out.2.1.2).mono ?_;rintro e W5 ⟨rfl,HV⟩;have Hb:=qI (Ho.out.trans (HV.mono Ho.out.size));clear HV
       go_wp2
       refine hK.out _ _ (H1.out _ Hb.out) λhQ=>?_;clear hK K;refine rd 7 λK hK=>?_;go_simp
       go_wp2_with fail
       refine (Hq.out W5 Hb.out).mono ?_;rintro e W6 ⟨HX,Ha⟩;have Hw:=qI Ha;obtain ⟨rfl,HZ,H0⟩:=HX;have hC:=qI HZ;have ht:=qI H0;clear HZ H0;have hc:Hid ((sA Bq y ia ic Bh x cb co cc z na nc) W6):=⟨aa ((Ha.block (Bq) (by have:=Hb.out.size;omega) (by rintro (h|h) <;> omega)).trans ((Hb.out.block (Bq) (by omega)).trans HC.out)) 0,aa ((Ha.block (Bq) (by have:=Hb.out.size;omega) (by rintro (h|h) <;> omega)).trans ((Hb.out.block (Bq) (by omega)).trans HC.out)) 1,aa ((Ha.block (Bh) (by have:=Hb.out.size;omega) (by rintro (h|h) <;> omega)).trans ((Hb.out.block (Bh) (by omega)).trans Hf.out)) 0,aa ((Ha.block (Bh) (by have:=Hb.out.size;omega) (by rintro (h|h) <;> omega)).trans ((Hb.out.block (Bh) (by omega)).trans Hf.out)) 1,aa ((Ha.block (Bh) (by have:=Hb.out.size;omega) (by rintro (h|h) <;> omega)).trans ((Hb.out.block (Bh) (by omega)).trans Hf.out)) 2,aa ((Ha.block (Bq+1) (by have:=Hb.out.size;omega) (by rintro (h|h) <;> omega)).trans ((Hb.out.block (Bq+1) (by omega)).trans Hc.out)) 0,aa ((Ha.block (Bq+1) (by have:=Hb.out.size;omega) (by rintro (h|h) <;> omega)).trans ((Hb.out.block (Bq+1) (by omega)).trans Hc.out)) 1,aa ((Ha.block (Bq+1) (by have:=Hb.out.size;omega) (by rintro (h|h) <;> omega)).trans ((Hb.out.block (Bq+1) (by omega)).trans Hc.out)) 2,aa ((Ha.block (Bq+1) (by have:=Hb.out.size;omega) (by rintro (h|h) <;> omega)).trans ((Hb.out.block (Bq+1) (by omega)).trans Hc.out)) 3,aa ((Ha.block (Bq+1) (by have:=Hb.out.size;omega) (by rintro (h|h) <;> omega)).trans ((Hb.out.block (Bq+1) (by omega)).trans Hc.out)) 4,aa ((Ha.block (Bq+1) (by have:=Hb.out.size;omega) (by rintro (h|h) <;> omega)).trans ((Hb.out.block (Bq+1) (by omega)).trans Hc.out)) 5⟩;clear Ha
       go_wp2
       refine hK.out _ _ hc.out λhQ=>?_;clear hK K;refine tk 8 ?_;refine Qn (by kernel_rfl) ?_ _;clear hQ;have hE:=qI (rh H8.out.symm);have H4:=qI ((hy.out.trans (Apart.of_below (show Below wr.heap.size wr X by rw [hBq];exact H6.out))).trans ((Apart.of_below Hb.out).trans Hw.out))
       go_wp2
       go_roundw
       case rel=>exact ⟨j+1,sq2,by omega,by go_num,by rw [hG.out,H8.out],⟨hE.out.1.trans Hz.out.1,hE.out.2 Hz.out.2⟩,hC.out,ht.out,H4.out⟩
       case measure=>simp [intOf];omega
     ·have Jd:j=x.gs.length:=by omega
      subst Jd
      go_wp2
      go_roundw
      case rel=>exact ⟨k+1,sq,by omega,by go_num,by rw [hI.out,hZ.out],Hz.out,HF.out,HI.out,Hu.out⟩
      case measure=>simp [intOf];omega
   ·have Jh:k=hs.length:=by omega
    subst Jh;have hi:Hid (Ol.left m ds hs=some sk):=by unfold Hid;rw [hW.out,hN.out]
    have Hj:=qI ((hT.out.block (B+1) (by omega) (by rintro (h|h) <;> omega)).trans h2.out);have z0:wr.cell? ⟨B+1,0,none⟩=some (.int .u64 0):=aa Hj.out 0;have z1:wr.cell? ⟨B+1,1,none⟩=some (.pointer none):=aa Hj.out 1;have f0:=ai Hj.out 0;have f1:=ai Hj.out 1;have q0:wr.cell? ⟨sb,0,none⟩=some (.int .u64 sk.cp):=aa H9.out 0;have q1:wr.cell? ⟨sb,1,none⟩=some (.pointer (some ⟨pb,0,none⟩)):=aa H9.out 1;have Hp:=qI (ah (ah Hj.out 0 (.int .u64 sk.cp)) 1 (.pointer (some ⟨pb,0,none⟩)));have HO:=qI ((hp.out.setCell (p:=⟨B+1,0,none⟩) (by rw [hB];exact Nat.le_succ _) (.int .u64 sk.cp)).setCell (p:=⟨B+1,1,none⟩) (by rw [hB];exact Nat.le_succ _) (.pointer (some ⟨pb,0,none⟩)));have Ji:Hid (ak ((wr.setCell ⟨B+1,0,none⟩ (.int .u64 sk.cp)).setCell ⟨B+1,1,none⟩ (.pointer (some ⟨pb,0,none⟩))) pb db pao pc sk.ds sk.us):=(hU.out.kept (bL _ ⟨B+1,0,none⟩ _) (λe=>by injection e with e;have e:pb=B+1:=e;omega) (λh1 e=>by injection e with e;have e:db=B+1:=e;have:=Hx.out (by rw [<- HE.out.1];exact h1);omega)).kept (bL _ ⟨B+1,1,none⟩ _) (λe=>by injection e with e;have e:pb=B+1:=e;omega) (λh1 e=>by injection e with e;have e:db=B+1:=e;have:=Hx.out (by rw [<- HE.out.1];exact h1);omega)
    go_wp2_with fail
    generalize ((wr.setCell ⟨B+1,0,none⟩ (.int .u64 sk.cp)).setCell ⟨B+1,1,none⟩ (.pointer (some ⟨pb,0,none⟩)))=WZ at *;(try simp only [Exit.inBlock,Exit.then]);refine bodyPost_ret (v:=.tuple #[.agg #[.int .u64 sk.cp,.pointer (some ⟨pb,0,none⟩)],.bool true]) ?_ rfl ⟨by rw [hi.out];exact ⟨pb,db,pao,pc,rfl,⟨Ji.out,by rw [HE.out.1];exact HK.out.1,HE.out.2⟩,by omega,λh0=>by have:=Hx.out (by rw [<- HE.out.1];exact h0);omega⟩,hB ▸ HO.out⟩;have r0:WZ.cell? ⟨B+1,0,none⟩=some (.int .u64 sk.cp):=aa Hp.out 0;have r1:WZ.cell? ⟨B+1,1,none⟩=some (.pointer (some ⟨pb,0,none⟩)):=aa Hp.out 1;rw [iw rfl];clear z0 z1 f0 f1 q0 q1;go_simp
 ·have he:=hz hf;subst he;have hu:Hid (Ol.left m ds hs=none):=by unfold Hid Ol.left;rw [if_neg hf]
  dsimp only;rw [eh hf];have z0:W1.cell? ⟨B+1,0,none⟩=some (.int .u64 0):=aa HB.out 0;have z1:W1.cell? ⟨B+1,1,none⟩=some (.pointer none):=aa HB.out 1;have f0:=ai HB.out 0;have f1:=ai HB.out 1;have Hp:=qI (ah (ah HB.out 0 (.int .u64 0)) 1 (.pointer none));have HO:=qI ((hS.out.setCell (p:=⟨B+1,0,none⟩) (Nat.le_succ _) (.int .u64 0)).setCell (p:=⟨B+1,1,none⟩) (Nat.le_succ _) (.pointer none));clear Hs hz hf Hy;generalize Dvs.fault ds=ff at *
  go_wp2_with fail
  generalize ((W1.setCell ⟨B+1,0,none⟩ (.int .u64 0)).setCell ⟨B+1,1,none⟩ (.pointer none))=WZ at *;(try simp only [Exit.inBlock,Exit.then]);refine bodyPost_ret (v:=.tuple #[.agg #[.int .u64 0,.pointer none],.bool false]) ?_ rfl ⟨by rw [hu.out];exact ⟨0,none,rfl⟩,by rw [hB];exact HO.out⟩;have r0:WZ.cell? ⟨B+1,0,none⟩=some (.int .u64 0):=aa Hp.out 0;have r1:WZ.cell? ⟨B+1,1,none⟩=some (.pointer none):=aa Hp.out 1;rw [iw rfl];clear z0 z1 f0 f1;go_simp
end
