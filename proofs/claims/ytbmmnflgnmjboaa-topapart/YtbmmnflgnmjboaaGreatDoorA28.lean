import Derived.Test.YtbmmnflgnmjboaaGreatDoorA27
set_option maxRecDepth 100000
set_option maxHeartbeats 16000000
namespace Go.Proofs.YtbmmnflgnmjboaaGreatDoor
section
open RowKit Shelf
open Qos (Nd Ct Pd nd ct pd ag aB)
open Sv (Gv Hd gv hd)
open Ost (dif cnt)
open Dvs (Dv dv aX clF aL first)
attribute [local go_sem] Oper.semAt_some
theorem Lv {W:World} {v:Value} {l:List Int} (h:bu W v l):∃ g o,fT W v g o l:=by
 obtain ⟨ao,c,rfl,hm,hr⟩:=h
 by_cases h0:0<l.length
 ·obtain ⟨b,o,ha,hlt,hc⟩:=hr h0;exact ⟨b,o,ao,c,rfl,λ_=>⟨ha,hlt,λk hk=>hc k hk⟩⟩
 ·exact ⟨0,0,ao,c,rfl,λh=>absurd h h0⟩
theorem zj {B:Nat} {w:World} {v:Value} {ds:List Dv} (h:gH B w v ds):∃ g,cO w v g 0 ds:=by
 obtain ⟨ao,c,g,hv,h0,hc⟩:=h;refine ⟨g,ao,c,hv,λhl=>⟨(h0 hl).1,(h0 hl).2.2,λk hk=>?_⟩⟩;rw [Qd];exact ⟨(hc k hk).1,(hc k hk).2.1,(hc k hk).2.2.1⟩
def zk (ds:List Dv):Prop:=aX ds/\∀ k,k<ds.length->(dv ds k).kind.size<=8
theorem Lw {ds:List Dv} (h:Dvs.fault ds=0):zk ds:=by
 refine ⟨Dvs.ie h,λk hk=>?_⟩;unfold Dvs.fault at h
 split at h
 ·cases h
 ·have:=Dvs.cS h k hk
  unfold Dvs.eR at this
  split at this
  ·cases this
  ·rename_i h1
   have h2:Dvs.aW (dv ds k).kind=true:=by simpa using h1
   have:=(Sv.ip h2).2
   have e:(dv ds k).kind.data.toList.length=(dv ds k).kind.size:=by simp
   omega
def Lx (w':World) (sb pb db:Nat) (ao:Option Addr) (c:Nat) (e:Ending):Option Ol.Sk->Prop
 | some s'=>e=.returned (.bool true)/\w'.heap[sb]?=some (.cells #[.int .u64 s'.cp,.pointer (some ⟨pb,0,none⟩)] 98 (0,0))/\ap w' pb db ao c s'.ds s'.us
 | none=>e=.returned (.bool false)
abbrev iE (pb sb:Nat):Nat->Prop:=λj=>j=pb\/j=sb
theorem sr {s:Ol.Sk} {g:Gv} {own:Int} {ns:List Nd} (h:¬ (g.cp &&& s.cp=g.cp/\(cnt g.cp:Int)=own/\first (clF s.ds.length s.us g.dv) g.dv.length=0)):Ol.cW s g own ns=none:=by unfold Ol.cW;rw [if_neg h]
theorem Ly {s:Ol.Sk} {g:Gv} {own:Int} {ns:List Nd} (h:g.cp &&& s.cp=g.cp/\(cnt g.cp:Int)=own/\first (clF s.ds.length s.us g.dv) g.dv.length=0):(Ol.gQ s.ds g.dv ns->Ol.cW s g own ns=some ⟨dif s.cp g.cp,s.ds,aL s.us g.dv⟩)/\(¬ Ol.gQ s.ds g.dv ns->Ol.cW s g own ns=none):=by
 unfold Ol.cW;rw [if_pos h];exact ⟨λhj=>if_pos hj,λhj=>if_neg hj⟩
abbrev eA:=λ(x0 x1:Nat) (x2:Option Addr) (x3:Nat)=>(.cells #[.int .u64 (x0:Nat),.slice x2 x1 x3] 69:Obj)
abbrev m7:=λ(y0 y1 y2:Nat) (va:Option Addr) (vc sb:Nat) (y6:Int) (pb:Nat) (w':World)=>w'.cell? ⟨y0,0,none⟩=some (.int .u64 (y1:Nat))/\w'.cell? ⟨y0,1,none⟩=some (.slice va y2 vc)/\w'.cell? ⟨sb,0,none⟩=some (.int .u64 y6)/\w'.cell? ⟨sb,1,none⟩=some (.pointer (some ⟨pb,0,none⟩))
abbrev Lz:=λ(sb pb y2:Nat) (va:Option Addr) (y4 vc:Nat) (w':World)=>w'.cell? ⟨sb,1,none⟩=some (.pointer (some ⟨pb,0,none⟩))/\w'.cell? ⟨y2,1,none⟩=some (.slice va y4 vc)
theorem LA (sb pb db:Nat) (ao:Option Addr) (pc:Nat) (s:Ol.Sk) (g:Gv) (own:Int) (v u:Value) (ns:List Nd) (w:World) (hst:w.heap[sb]?=some (.cells #[.int .u64 s.cp,.pointer (some ⟨pb,0,none⟩)] 98 (0,0))) (hp:ap w pb db ao pc s.ds s.us) (hK:zk s.ds) (hcp:s.cp<18446744073709551616) (hg:g.cp<18446744073709551616) (hv:bu (ah (iE pb sb) w) v g.dv) (hu:bf (ah (iE pb sb) w) u ns) (hdl:g.dv.length<=1000) (hnl:ns.length<=1000) (hns:∀ k,k<ns.length->(nd ns k).kind.size<=1000/\-1000000<=(nd ns k).many/\(nd ns k).many<=1000000) (hdb:0<s.ds.length->db≠sb) :
  Calls Tryz.prog 125 #[.pointer (some ⟨sb,0,none⟩),.agg #[.int .u64 (g.cp:Nat),v],.int .i64 own,u] w λe w'=>Lx w' sb pb db ao pc e (Ol.cW s g own ns)/\Apart (iE pb sb) w w':=by
 have H9:sb<w.heap.size:=(gS hst).1;have he:=hp.lt;have He:sb≠pb:=λe=>by
  subst e;have h0:=hp.row;rw [ad hst 0] at h0;cases h0
 have Ht:=qI hst;have HP:=qI hp;have HV:=qI hv;have HU:=qI hu;have HS:=qI hns;have HK:=qI hK;obtain ⟨va,vc,rfl,_,_⟩:=id hv;have Hn:=qI ((Q0 w.heap.size w).alloc (lR) (eA g.cp g.dv.length va vc));have Hp:=qI (aF w (eA g.cp g.dv.length va vc) rfl);have H6:(w.alloc (eA g.cp g.dv.length va vc)).heap.size=w.heap.size+1:=by simp
 have Hg:=qI (λ(W:World)=>jv g.cp s.cp W hg hcp);have Hh:=qI (S1.kJ g.cp);have Hk:(Ost.aJ g.cp 64).length=cnt g.cp:=rfl;rw [Hk] at Hh;clear Hk;have x0:(w.alloc (eA g.cp g.dv.length va vc)).cell? ⟨w.heap.size,0,none⟩=some (.int .u64 (g.cp:Nat)):=ad Hp.out 0;have x1:(w.alloc (eA g.cp g.dv.length va vc)).cell? ⟨w.heap.size,1,none⟩=some (.slice va g.dv.length vc):=ad Hp.out 1;have s0:(w.alloc (eA g.cp g.dv.length va vc)).cell? ⟨sb,0,none⟩=some (.int .u64 s.cp):=ad (bg Ht.out _) 0;have s1:(w.alloc (eA g.cp g.dv.length va vc)).cell? ⟨sb,1,none⟩=some (.pointer (some ⟨pb,0,none⟩)):=ad (bg Ht.out _) 1;have HG:=qI hg;have hc:=qI hcp;clear hst hp hv hu hns hK
 go_enter Tryz.func125,Tryz.ntmps125
 by_cases h1:g.cp &&& s.cp=g.cp
 ·have Hq:decide (g.cp &&& s.cp=g.cp)=true:=Qc h1;simp only [Hq] at Hg
  by_cases h2:(cnt g.cp:Int)=own
  ·have H0:=qI h2;have HJ:((cnt g.cp:Int) != own)=false:=by simp [h2]
   have H1:=qI h1;have HQ:Hid (∀ W,Calls Tryz.prog 38 #[.int .u64 (g.cp:Nat),.int .u64 s.cp] W λe w'=>e=.returned (.bool true)/\w'=W):=Hg.out;obtain ⟨cg,HR⟩:∃ x,x=cnt g.cp:=⟨_,rfl⟩;rw [<- HR] at Hh HJ;have Hb:Hid ((m7 w.heap.size g.cp g.dv.length va vc sb s.cp pb) (w.alloc (eA g.cp g.dv.length va vc)).drew):=⟨x0,x1,s0,s1⟩;have HY:Hid (ap (w.alloc (eA g.cp g.dv.length va vc)).drew pb db ao pc s.ds s.us):=(HP.out.alloc _).drewN 1;have H5:=qI (HV.out.le ((cB _ _).trans (az.of_below (a6 Hn.out))));obtain ⟨ng,no,Hc⟩:=Lv H5.out;have Ho:=qI (IT (.slice va g.dv.length vc) ng no g.dv (w.alloc (eA g.cp g.dv.length va vc)).drew pb db ao pc s.ds s.us HY.out HK.out.1 Hc (by omega));have HH:Hid (Apart (iE pb sb) w (w.alloc (eA g.cp g.dv.length va vc)).drew):=Apart.of_below (a6 Hn.out);have H8:(w.alloc (eA g.cp g.dv.length va vc)).drew.heap.size=w.heap.size+1:=H6;clear h2 h1 HR Hc Hg;have HC:Hid ((w.alloc (eA g.cp g.dv.length va vc)).drew.heap[sb]?=some (.cells #[.int .u64 s.cp,.pointer (some ⟨pb,0,none⟩)] 98 (0,0))):=bg Ht.out _;have HN:Hid ((w.alloc (eA g.cp g.dv.length va vc)).drew.heap[w.heap.size]?=some (eA g.cp g.dv.length va vc)):=Hp.out;clear x0 x1 s0 s1
   by_cases h3:first (clF s.ds.length s.us g.dv) g.dv.length=0
   ·rw [h3,show ar (((0:Nat)):Int)=.nilIface from rfl] at Ho;have H3:=qI h3;clear h3
    go_wp2_with fail
    refine wp_region_held_drew (S:=m7 w.heap.size g.cp g.dv.length va vc sb s.cp pb) (by kernel_rfl) Hb.out (λhHeld=>?_);generalize (w.alloc (eA g.cp g.dv.length va vc)).drew=X at *;refine tk 0 ?_;refine tk 1 ?_;refine tk 2 ?_;refine tk 3 ?_;refine tk 4 ?_;refine tk 5 ?_;refine rd 6 (λK hK=>?_);go_simp
    go_wp2_with fail
    refine (HQ.out _).mono ?_;rintro e wz ⟨rfl,rfl⟩
    go_wp2
    refine hK.out _ _ Hb.out (λhHeld=>?_);clear hK K;refine tk 7 ?_;refine tk 8 ?_;refine tk 9 ?_;refine tk 10 ?_;refine tk 12 ?_;refine rd 11 (λK hK=>?_);go_simp
    go_wp2_with fail
    refine (Hh.out _ hg).mono ?_;rintro e wz ⟨rfl,rfl⟩
    go_wp2
    refine hK.out _ _ Hb.out (λhHeld=>?_);clear hK K;refine tk 13 ?_;refine tk 14 ?_;refine tk 15 ?_;refine tk 16 ?_;refine tk 17 ?_;refine tk 18 ?_;refine tk 19 ?_;refine tk 20 ?_;refine tk 21 ?_;refine rd 22 (λK hK=>?_);go_simp
    go_wp2_with fail
    refine Ho.out.mono ?_;rintro e W1 ⟨rfl,Ha,Hi⟩;have Hf:Hid ((m7 w.heap.size g.cp g.dv.length va vc sb s.cp pb) W1):=⟨(Ha.cell_far ⟨w.heap.size,0,none⟩ (by show w.heap.size<_;omega) (λe=>by injection e with e;have e:w.heap.size=pb:=e;omega)).trans Hb.out.1,(Ha.cell_far ⟨w.heap.size,1,none⟩ (by show w.heap.size<_;omega) (λe=>by injection e with e;have e:w.heap.size=pb:=e;omega)).trans Hb.out.2.1,(Ha.cell_far ⟨sb,0,none⟩ (by show sb<_;omega) (λe=>He (by injection e))).trans Hb.out.2.2.1,(Ha.cell_far ⟨sb,1,none⟩ (by show sb<_;omega) (λe=>He (by injection e))).trans Hb.out.2.2.2⟩;have Hv:=qI Hi;have Hu:=qI (HH.out.trans (ey (K:=iE pb sb) Ha (λj hj _=>.inl (by injection hj with hj;exact hj.symm))));have Hr:=qI ((Ha.block sb (by omega) (λe=>He (by injection e))).trans HC.out);have HM:=qI ((Ha.block w.heap.size (by omega) (λe=>by injection e with e;omega)).trans HN.out);have HZ:=Ha.size;clear Hi Ha
    go_wp2
    refine hK.out _ _ Hf.out (λhHeld=>?_);clear hK K;refine tk 23 ?_;refine tk 24 ?_;refine Qn (by kernel_rfl) ?_ _;clear hHeld;have c0:W1.cell? ⟨sb,0,none⟩=some (.int .u64 s.cp):=Hf.out.2.2.1;have c1:W1.cell? ⟨w.heap.size,0,none⟩=some (.int .u64 (g.cp:Nat)):=Hf.out.1;have f0:=aq Hr.out 0;have H2:=iO s.cp g.cp hcp hg
    go_wp2_with fail
    go_region
    have HB:Hid (∀ j,j≠sb->(W1.setCell ⟨sb,0,none⟩ (.int .u64 (dif s.cp g.cp:Nat))).drew.heap[j]?=W1.heap[j]?):=λj hj=>set_other hj
    have HI:Hid ((W1.setCell ⟨sb,0,none⟩ (.int .u64 (dif s.cp g.cp:Nat))).drew.heap[sb]?=some (.cells #[.int .u64 (dif s.cp g.cp:Nat),.pointer (some ⟨pb,0,none⟩)] 98 (0,0))):=aj Hr.out 0 _;have ha:(W1.setCell ⟨sb,0,none⟩ (.int .u64 (dif s.cp g.cp:Nat))).drew.heap.size=W1.heap.size:=by simp [World.drew]
    have HO:iN s.ds.length s.us g.dv=aL s.us g.dv:=by unfold iN;rw [if_pos H3.out]
    rw [HO] at Hv;have HA:Hid (ap (W1.setCell ⟨sb,0,none⟩ (.int .u64 (dif s.cp g.cp:Nat))).drew pb db ao pc s.ds (aL s.us g.dv)):=(Hv.out.kept (bN _ ⟨sb,0,none⟩ _) (λe=>He (by injection e with e;exact e.symm)) (λh0 e=>hdb h0 (by injection e))).drewN 1;have Hs:Hid (Apart (iE pb sb) w (W1.setCell ⟨sb,0,none⟩ (.int .u64 (dif s.cp g.cp:Nat))).drew):=(Hu.out.trans (Apart.setCell (K:=iE pb sb) (.inr rfl) _ _ _)).trans (Apart.drew _ _);generalize (W1.setCell ⟨sb,0,none⟩ (.int .u64 (dif s.cp g.cp:Nat))).drew=W2 at *;have H4:=qI ((HB.out w.heap.size (by omega)).trans HM.out);have Hw:Hid (∀ W,Below W2.heap.size W2 W->(Lz sb pb w.heap.size va g.dv.length vc) W):=λW hb=>⟨ad ((hb.block sb (by omega)).trans HI.out) 1,ad ((hb.block w.heap.size (by omega)).trans H4.out) 1⟩
    have Hx:Hid (Below W2.heap.size W2 W2.drew):=a6 (Q0 _ _);have HX:=qI (xP W2.drew pb db ao pc s.ds (aL s.us g.dv) (HA.out.drewN 1) HK.out.1);have H7:Hid (∀ k,k<g.dv.length->0<=g.dv.getD k 0/\g.dv.getD k 0<s.ds.length):=λk hk=>by
     have:=Dvs.cS H3.out k hk
     unfold clF Dvs.nth at this
     split at this
     ·cases this
     ·omega
    clear c0 c1 f0 H2 HO HB Hf
    go_wp2_with fail
    refine Qo (by kernel_rfl) (Hw.out _ Hx.out) (λhHeld=>?_);refine tk 0 ?_;refine tk 1 ?_;refine tk 2 ?_;refine tk 3 ?_;refine tk 5 ?_;refine tk 6 ?_;refine tk 7 ?_;refine rd 4 (λK hK=>?_);go_simp
    go_wp2_with fail
    refine HX.out.mono ?_;rintro e W3 ⟨v3,rfl,Hy,Hz⟩;have Hj:=qI (Hx.out.trans (Hz.mono Hx.out.size));have HT:=qI Hy;obtain ⟨a3,c3,g3,HW,_⟩:=id Hy;subst HW;clear Hz Hy
    go_wp2
    refine hK.out _ _ (Hw.out _ Hj.out) (λhHeld=>?_);clear hK K;refine rd 8 (λK hK=>?_);go_simp
    go_wp2_with fail
    obtain ⟨dg,Hl⟩:=zj HT.out;have hJ:=Ki _ _ _ dg 0 s.ds g.dv ns W3 Hl (HV.out.le ((mu Hs.out (λ_ _ h=>h)).trans ((cB _ _).trans (az.of_below Hj.out)))) (HU.out.le ((mu Hs.out (λ_ _ h=>h)).trans ((cB _ _).trans (az.of_below Hj.out)))) hdl hnl H7.out (by have:=HK.out.1.1;omega) (λk hk=>by have:=HK.out.2 k hk;omega) HS.out;refine hJ.mono ?_;rintro e W4 ⟨⟨bb,rfl,HF⟩,HD⟩;have Hm:=qI (Hj.out.trans (HD.mono Hj.out.size));have HL:=qI HF;clear HD HF hJ Hl
    go_wp2
    refine hK.out _ _ (Hw.out _ Hm.out) (λhHeld=>?_);clear hK K;refine tk 9 ?_;refine Qn (by kernel_rfl) ?_ _;clear hHeld
    go_wp2
    go_ret;refine ⟨?_,Hs.out.trans (Apart.of_below Hm.out)⟩;obtain ⟨hy,hn⟩:=Ly (s:=s) (g:=g) (own:=own) (ns:=ns) ⟨H1.out,H0.out,H3.out⟩
    rcases two bb with hb|hb
    ·subst hb;rw [hy (HL.out.1 rfl)];exact ⟨rfl,(Hm.out.block sb (by omega)).trans HI.out,HA.out.below Hm.out⟩
    ·subst hb;rw [hn (λh=>by have:=HL.out.2 h;cases this)];rfl
   ·have HE:=qI (sr (s:=s) (g:=g) (own:=own) (ns:=ns) (λh=>h3 h.2.2));rw [ei h3] at Ho;generalize first (clF s.ds.length s.us g.dv) g.dv.length=fe at *;clear h3
    go_wp2_with fail
    refine wp_region_held_drew (S:=m7 w.heap.size g.cp g.dv.length va vc sb s.cp pb) (by kernel_rfl) Hb.out (λhHeld=>?_);generalize (w.alloc (eA g.cp g.dv.length va vc)).drew=X at *;refine tk 0 ?_;refine tk 1 ?_;refine tk 2 ?_;refine tk 3 ?_;refine tk 4 ?_;refine tk 5 ?_;refine rd 6 (λK hK=>?_);go_simp
    go_wp2_with fail
    refine (HQ.out _).mono ?_;rintro e wz ⟨rfl,rfl⟩
    go_wp2
    refine hK.out _ _ Hb.out (λhHeld=>?_);clear hK K;refine tk 7 ?_;refine tk 8 ?_;refine tk 9 ?_;refine tk 10 ?_;refine tk 12 ?_;refine rd 11 (λK hK=>?_);go_simp
    go_wp2_with fail
    refine (Hh.out _ hg).mono ?_;rintro e wz ⟨rfl,rfl⟩
    go_wp2
    refine hK.out _ _ Hb.out (λhHeld=>?_);clear hK K;refine tk 13 ?_;refine tk 14 ?_;refine tk 15 ?_;refine tk 16 ?_;refine tk 17 ?_;refine tk 18 ?_;refine tk 19 ?_;refine tk 20 ?_;refine tk 21 ?_;refine rd 22 (λK hK=>?_);go_simp
    go_wp2_with fail
    refine Ho.out.mono ?_;rintro e W1 ⟨rfl,Ha,Hi⟩;have Hf:Hid ((m7 w.heap.size g.cp g.dv.length va vc sb s.cp pb) W1):=⟨(Ha.cell_far ⟨w.heap.size,0,none⟩ (by show w.heap.size<_;omega) (λe=>by injection e with e;have e:w.heap.size=pb:=e;omega)).trans Hb.out.1,(Ha.cell_far ⟨w.heap.size,1,none⟩ (by show w.heap.size<_;omega) (λe=>by injection e with e;have e:w.heap.size=pb:=e;omega)).trans Hb.out.2.1,(Ha.cell_far ⟨sb,0,none⟩ (by show sb<_;omega) (λe=>He (by injection e))).trans Hb.out.2.2.1,(Ha.cell_far ⟨sb,1,none⟩ (by show sb<_;omega) (λe=>He (by injection e))).trans Hb.out.2.2.2⟩;have Hv:=qI Hi;have Hu:=qI (HH.out.trans (ey (K:=iE pb sb) Ha (λj hj _=>.inl (by injection hj with hj;exact hj.symm))));have Hr:=qI ((Ha.block sb (by omega) (λe=>He (by injection e))).trans HC.out);have HM:=qI ((Ha.block w.heap.size (by omega) (λe=>by injection e with e;omega)).trans HN.out);have HZ:=Ha.size;clear Hi Ha
    go_wp2
    refine hK.out _ _ Hf.out (λhHeld=>?_);clear hK K;refine tk 23 ?_;refine tk 24 ?_;refine Qn (by kernel_rfl) ?_ _;clear hHeld
    go_wp2
    go_ret;exact ⟨by rw [HE.out];rfl,Hu.out⟩
  ·have HJ:((cnt g.cp:Int) != own)=true:=by simp [h2]
   have HE:=qI (sr (s:=s) (g:=g) (own:=own) (ns:=ns) (λh=>h2 h.2.1));generalize cnt g.cp=cg at *;clear h2 h1
   go_wp2
   go_quiet (first|exact Calls.quiet_of_same (Hg.out _)|exact Calls.quiet_of_same (Hh.out _ hg))
   go_wp2
   go_ret;exact ⟨by rw [HE.out];rfl,(Apart.of_below Hn.out).trans (Apart.drewN _ _ _)⟩
 ·have Hq:decide (g.cp &&& s.cp=g.cp)=false:=Q7 h1;simp only [Hq] at Hg;have HE:=qI (sr (s:=s) (g:=g) (own:=own) (ns:=ns) (λh=>h1 h.1));clear h1
  go_wp2
  go_quiet (first|exact Calls.quiet_of_same (Hg.out _)|exact Calls.quiet_of_same (Hh.out _ hg))
  go_wp2
  go_ret;exact ⟨by rw [HE.out];rfl,(Apart.of_below Hn.out).trans (Apart.drewN _ _ _)⟩
end
