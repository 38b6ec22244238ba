import Derived.Test.YtbmmnflgnmjboaaGreatDoorK32
set_option maxRecDepth 100000
set_option maxHeartbeats 16000000
namespace Go.Proofs.YtbmmnflgnmjboaaGreatDoor
section
open RowKit Shelf
open Qos (Nd Ct Pd nd ct pd ah)
open Sv (Gv Hd gv hd gsF az aF)
open Dvs (Dv dv aT)
attribute [local go_sem] Oper.semAt_some
abbrev KJ:=λ(Ba tb:Nat) (t:Ol.St) (ha:Option Addr) (hc y5:Nat) (p:Pd) (ca:Option Addr) (cc:Nat) (w':World)=>w'.cell? ⟨Ba,0,none⟩=some (.pointer (some ⟨tb,0,none⟩))/\w'.cell? ⟨Ba,1,none⟩=some (.int .u64 t.m.op)/\w'.cell? ⟨Ba,2,none⟩=some (.int .u8 t.m.nd)/\w'.cell? ⟨Ba,3,none⟩=some (.int .i64 t.m.nb)/\w'.cell? ⟨Ba,4,none⟩=some (.int .i64 t.m.pol)/\w'.cell? ⟨Ba,7,none⟩=some (.slice ha t.hs.length hc)/\w'.cell? ⟨y5,0,none⟩=some (.string p.nm)/\w'.cell? ⟨y5,1,none⟩=some (.int .i64 p.pr)/\w'.cell? ⟨y5,2,none⟩=some (.slice ca p.cs.length cc)
abbrev xB:=λ(Ba tb:Nat) (t:Ol.St) (y3:Nat) (p:Pd) (ca:Option Addr) (cc y7:Nat) (s:Ol.Sk) (pb':Nat) (w':World)=>w'.cell? ⟨Ba,0,none⟩=some (.pointer (some ⟨tb,0,none⟩))/\w'.cell? ⟨Ba,1,none⟩=some (.int .u64 t.m.op)/\w'.cell? ⟨Ba,2,none⟩=some (.int .u8 t.m.nd)/\w'.cell? ⟨Ba,3,none⟩=some (.int .i64 t.m.nb)/\w'.cell? ⟨Ba,4,none⟩=some (.int .i64 t.m.pol)/\w'.cell? ⟨y3,0,none⟩=some (.string p.nm)/\w'.cell? ⟨y3,1,none⟩=some (.int .i64 p.pr)/\w'.cell? ⟨y3,2,none⟩=some (.slice ca p.cs.length cc)/\w'.cell? ⟨y7,0,none⟩=some (.int .u64 s.cp)/\w'.cell? ⟨y7,1,none⟩=some (.pointer (some ⟨pb',0,none⟩))
theorem xC (N:Nat->Prop) (Ba Bd Be Bm:Nat) (t:Ol.St) (dk:Dk) (n:Nat) (p:Pd) (cv:Value) (w:World) (hM:av w N Ba Bd Be Bm t dk n) (hp:aE (ag (four N Ba Bd Bm) w) cv p.cs) (ht:bE w) (hn:n+36<=1000) (hins:∀ l:List (Hd × Value × Value),l.map Prod.fst=t.hs->qo l (Ol.bZ t.hs p.nm)) :
  Calls Tryz.prog 23 #[.pointer (some ⟨Ba,0,none⟩),bQ p cv] w λe w'=>e=.returned (ak ((Ol.aJ t p).1:Nat))/\(∃ dk' n',(n'<=n+dB (au t.hs) (au (Ol.aJ t p).2)/\eM w w' Ba)/\av w' N Ba Bd Be Bm ⟨t.m,t.ds,(Ol.aJ t p).2⟩ dk' n')/\Apart (three Ba Bd Bm) w w':=by
 obtain ⟨i0,hi,hz0,hz1,hz2⟩:=info_parts pi;have HMA:=qI hM;obtain ⟨h1,hcalm,hcpu,hE,hab,hfr,hnl,htx,tb,b,tc,hv,pb,db,ao,pc,s,k1,k2,k3,k4,k5,k6,k7⟩:=hM;obtain ⟨a1,a2,a3⟩:=Ol.bW.1 h1.held;have HOKS:Hid (i8 t.hs):=a2;have HRIS:=qI a3;have HINV:=qI h1;have HCALM:=qI hcalm;have HCPU:=qI hcpu;have HE:=qI hE;have HNL:=qI hnl;have HFR:=qI hfr;obtain ⟨el1,el2,el3⟩:=hE.lt;obtain ⟨ea1,ea2,ea3⟩:=hE.apart;obtain ⟨ab1,ab2,ab3⟩:=hab;have hba:=k1.lt;obtain ⟨ha,hc,hvv,hhm,hhr⟩:=id k2;subst hvv;obtain ⟨ca,cc,hcv,hcm,hcr⟩:=id hp;subst hcv;have HK2:=qI k2;have HK3:=qI k3;have HK4:=qI k4;have HK5:=qI k5;have HK6:=qI k6;have HK7:=qI k7;have HT:=qI ht;have HINS:=qI hins;have HBX:=qI ((Q0 w.heap.size w).alloc (lR) (.cells #[.string p.nm,.int .i64 p.pr,.slice ca p.cs.length cc] 47));have HX0:=qI (aG w (.cells #[.string p.nm,.int .i64 p.pr,.slice ca p.cs.length cc] 47) rfl);have hsX:(w.alloc (.cells #[.string p.nm,.int .i64 p.pr,.slice ca p.cs.length cc] 47)).heap.size=w.heap.size+1:=by simp
 have HOX:Hid (bh (w.alloc (.cells #[.string p.nm,.int .i64 p.pr,.slice ca p.cs.length cc] 47)) Ba tb t.m Bd Be (.slice ha t.hs.length hc) s.cp pb):=k1.below HBX.out;have HHX:Hid (aM (w.alloc (.cells #[.string p.nm,.int .i64 p.pr,.slice ca p.cs.length cc] 47)) (.slice ha t.hs.length hc) t.hs):=(k2.le (ci _ _)).below HBX.out;have HPX:Hid (aE (w.alloc (.cells #[.string p.nm,.int .i64 p.pr,.slice ca p.cs.length cc] 47)) (.slice ca p.cs.length cc) p.cs):=(hp.le (ci _ _)).below HBX.out;have HTX:Hid (cI (w.alloc (.cells #[.string p.nm,.int .i64 p.pr,.slice ca p.cs.length cc] 47)) tb b 0 tc t.m):=(Kh k3 hcpu).below HBX.out;have HPO:Hid (ap (w.alloc (.cells #[.string p.nm,.int .i64 p.pr,.slice ca p.cs.length cc] 47)) pb db ao pc t.ds s.us):=by unfold Hid;rw [<- Ol.fI k4];exact k5.pool.below HBX.out
 have HNOD:Hid (aT t.ds):=Dvs.gH h1.devs;have hop:=k3.op;have HCK:=qI (sR p (.slice ca p.cs.length cc) (w.alloc (.cells #[.string p.nm,.int .i64 p.pr,.slice ca p.cs.length cc] 47)) HPX.out);have HML:Hid (∀ j,(four N Ba Bd Bm) j->j<w.heap.size):=λj hj=>by
  rcases hj with e|e|e|e
  ·exact hnl j e
  all_goals omega
 clear h1 hcalm hcpu hE hfr hnl htx k1 k2 k3 k4 k5 k6 k7 a2 a3 hhm hhr hcm hcr hp ht hins;unfold bQ
 go_enter Tryz.func23,Tryz.ntmps23
 go_wp2_with fail
 generalize (w.alloc (.cells #[.string p.nm,.int .i64 p.pr,.slice ca p.cs.length cc] 47))=X at *;refine HCK.out.mono ?_;rintro e W1 ⟨rfl,hb1⟩;have HB1:=qI hb1;clear hb1 HCK;have HSB:Hid (∀ W,Below X.heap.size X W->(KJ Ba tb t ha hc w.heap.size p ca cc) W):=λW hb=>⟨ad ((hb.block (Ba) (by omega)).trans HOX.out) 0,ad ((hb.block (Ba) (by omega)).trans HOX.out) 1,ad ((hb.block (Ba) (by omega)).trans HOX.out) 2,ad ((hb.block (Ba) (by omega)).trans HOX.out) 3,ad ((hb.block (Ba) (by omega)).trans HOX.out) 4,ad ((hb.block (Ba) (by omega)).trans HOX.out) 7,ad ((hb.block (w.heap.size) (by omega)).trans HX0.out) 0,ad ((hb.block (w.heap.size) (by omega)).trans HX0.out) 1,ad ((hb.block (w.heap.size) (by omega)).trans HX0.out) 2⟩
 have HBW:Hid (∀ W,Below X.heap.size X W->Below w.heap.size w W):=λW hb=>HBX.out.trans (hb.mono HBX.out.size)
 by_cases hpF:ah p=0
 ·have HPF:=qI hpF;rw [hpF,show ak (((0:Nat)):Int)=.nilIface from rfl];clear hpF
  go_upto_region 4 with fail
  go_cut [6,7] (λx6 x7 wc=>x6=.int .i64 (Ol.bZ t.hs p.nm:Nat)/\x7=.bool (ch t.hs p.nm)/\Below X.heap.size X wc)
  case first=>
   have HBd:Hid (Below X.heap.size X W1.drew):=bf HB1.out;refine Qo (by kernel_rfl) (HSB.out _ HBd.out) (λhHeld=>?_);generalize W1.drew=V at *;refine tk 0 ?_;refine tk 1 ?_;refine tk 2 ?_;refine tk 3 ?_;refine tk 4 ?_;refine tk 5 ?_;refine rd 6 (λK hK=>?_);go_simp
   go_wp2_with fail
   refine (vB (.slice ha t.hs.length hc) t.hs p.nm V (HHX.out.below HBd.out) (by omega) HRIS.out).mono ?_;rintro e W2 ⟨rfl,hb2⟩;have HB2:=qI (HBd.out.trans (hb2.mono HBd.out.size));clear hb2
   go_wp2
   refine hK.out _ _ (HSB.out _ HB2.out) (λhHeld=>?_);clear hK K;refine tk 7 ?_;refine tk 8 ?_;refine tk 9 ?_;refine tk 10 ?_;refine tk 11 ?_;refine Qn (by kernel_rfl) ?_ _;clear hHeld
   go_wp2
   go_meet
   exact ⟨rfl,rfl,HB2.out⟩
  case rest=>
   obtain ⟨rfl,rfl,hbc⟩:=hcut;have HB3:=qI hbc;clear hbc
   rcases two (ch t.hs p.nm) with hh|hh
   ·have HH:=qI hh;rw [hh];clear hh
    go_wp2
    go_ret;exact ⟨by rw [wY HPF.out HH.out];rfl,lN HMA.out (HBW.out _ HB3.out) (wY HPF.out HH.out)⟩
   ·have HH:=qI hh;rw [hh];clear hh;have x7:wc.cell? ⟨Ba,7,none⟩=some (.slice ha t.hs.length hc):=(HSB.out _ HB3.out).2.2.2.2.2.1
    by_cases h12:12<=t.hs.length
    ·go_wp2
     go_ret;exact ⟨by rw [wZ HPF.out HH.out h12];rfl,lN HMA.out (HBW.out _ HB3.out) (wZ HPF.out HH.out h12)⟩
    ·have h12':t.hs.length<12:=by omega
     clear h12
     go_upto_region 9 with fail
     clear x7;have HMI:Hid (∀ q∈t.hs.map Hd.pod++[p],Qos.bT q.cs):=λq hq=>by
      rcases Qi.1 hq with hq|hq
      ·obtain ⟨x,hx,rfl⟩:=Qk.1 hq;exact Qos.kL (HOKS.out x hx).1
      ·rw [Qm.1 hq];exact Qos.kL HPF.out
     have hpl:(t.hs.map Hd.pod++[p]).length<=100:=by simp;omega
     have HSUM:=qI (wR HMI.out hpl)
     go_cut [52] (λx wd=>x=.bool (!Ol.room t.m (t.hs.map Hd.pod++[p]))/\Below X.heap.size X wd)
     case first=>
      have HBd:Hid (Below X.heap.size X wc.drew):=bf HB3.out;refine Qo (by kernel_rfl) (HSB.out _ HBd.out) (λhHeld=>?_);generalize wc.drew=V at *;refine tk 0 ?_;refine tk 1 ?_;refine tk 2 ?_;refine tk 3 ?_;refine tk 4 ?_;refine tk 5 ?_;refine tk 6 ?_;refine tk 7 ?_;refine tk 9 ?_;refine wpAnyH_ready (rs:=[8,10]) (by kernel_rfl) (by simp) (AllReadyH.cons rfl (λK hK=>?_) (AllReadyH.cons rfl (λK hK=>?_) AllReadyH.nil))
      ·go_simp
       go_wp2_with fail
       refine (wW (.slice ha t.hs.length hc) t.hs V (HHX.out.below HBd.out) (by omega)).mono ?_;rintro e P1 ⟨l,va,vc,rfl,hl1,hl2,hl3,hb⟩;have HL1:=qI hl1;have HR1:=qI hl2;have HI1:=qI hl3;have HC1:=qI hb;have HB1:=qI (HBd.out.trans (hb.mono HBd.out.size));have hzp1:=hb.size;have hqp1:=HBd.out.size;have hll1:l.length<=12:=by have:=congrArg List.length hl1;simp at this;omega
       clear hb hl1 hl2 hl3
       go_wp2
       refine hK.out _ _ (HSB.out _ HB1.out) (λhHeld=>?_);clear hK K;refine rd 10 (λK hK=>?_);have HB2:=qI (HB1.out.alloc HB1.out.size (.cells #[.string p.nm,.int .i64 p.pr,.slice ca p.cs.length cc] 47));have HN2:=qI (mF P1 p.nm p.pr (.slice ca p.cs.length cc) 47);have HZ2:Hid ((P1.alloc (.cells #[.string p.nm,.int .i64 p.pr,.slice ca p.cs.length cc] 47)).heap.size=P1.heap.size+1):=by unfold Hid;simp
       have HR2:=qI (HR1.out.alloc (.cells #[.string p.nm,.int .i64 p.pr,.slice ca p.cs.length cc] 47));have HC2:=qI (HC1.out.alloc HC1.out.size (.cells #[.string p.nm,.int .i64 p.pr,.slice ca p.cs.length cc] 47));go_simp
       go_wp2
       refine hK.out _ _ (HSB.out _ HB2.out) (λhHeld=>?_);clear hK K;generalize P1.alloc (.cells #[.string p.nm,.int .i64 p.pr,.slice ca p.cs.length cc] 47)=Z2 at *;refine rd 11 (λK hK=>?_);rw [if_pos (by rfl)]
       refine wp_append_lies (o := { dst := some 50, op := Op.call { callee := Callee.builtin Builtin.append, args := #[Operand.tmp 47, Operand.tmp 49], argTypes := #[70, 70] }, type := 70, pos := "ostler.go:76", after := #[{ on := 8, ground := Ground.data }, { on := 10, ground := Ground.data }, { on := 8, ground := Ground.chain }], guard := none }) _ _ _ 70 rfl V.heap.size 47 i0 (.agg #[.string ByteArray.empty, .int .i64 0, .slice none 0 0]) 3 48 Tryz.underlying70 hi hz0 hz1 hz2 rfl (by decide) (.slice va l.length vc) _ _ rfl HR2.out ⟨_, 0, none⟩ 1 1 (dy (⟨p.nm, p.pr, []⟩, .slice ca p.cs.length cc)) rfl rfl HN2.out (mG _ _ _ _ _) (by decide) (by unfold maxLen; omega) (by omega) (by have := HC2.out.size; omega) Z2.heap.size rfl ?_
       intro g' cap' W4 hown' hgrow' hgg hglt;have hlo:∀ j,(Value.slice va l.length vc).ownBlock=some j->V.heap.size<=j:=λj hj=>(HR2.out.lt j hj).1
       have HB3:Hid (Below X.heap.size X W4):=HB2.out.grown hgrow' HB2.out.size (λj hj=>by have:=hlo j hj;omega);have HC3:Hid (Below V.heap.size V W4):=HC2.out.grown hgrow' HC2.out.size (λj hj=>hlo j hj);have HPR:Hid (eu W4 (.slice (some ⟨g',0,none⟩) (l.length+1) cap') (t.hs.map Hd.pod++[p])):=nh (base:=V.heap.size) ⟨l++[(p,.slice ca p.cs.length cc)],by rw [Qj,HL1.out];rfl,by rw [mE,Q2];exact hown',λx hx=>by
        rcases Qi.1 hx with hx|hx
        ·exact (HI1.out x hx).below HC3.out
        ·rw [Qm.1 hx];exact HPX.out.below HB3.out⟩
       clear hown' hgrow' hgg hglt hlo;refine hK.out _ _ (HSB.out _ HB3.out) (λhHeld=>?_);clear hK K;(try simp only [Act.put,s1,s2,s3]);refine rd 12 (λK hK=>?_);go_simp
       go_wp2_with fail
       refine (pC (.pointer (some ⟨tb,0,none⟩)) t.m.op t.m.nd t.m.nb t.m.pol _ (t.hs.map Hd.pod++[p]) W4 HPR.out hpl HMI.out hop HSUM.out).mono ?_;rintro e Q4 ⟨rfl,hb⟩;have HB4:=qI (HB3.out.trans (hb.mono HB3.out.size));clear hb
       go_wp2
       refine hK.out _ _ (HSB.out _ HB4.out) (λhHeld=>?_);clear hK K;refine tk 13 ?_;refine Qn (by kernel_rfl) ?_ _;clear hHeld
       go_wp2
       go_meet
       exact ⟨by unfold Ol.room;rw [Bool.not_and],HB4.out⟩
      ·have HB5:=qI (HBd.out.alloc HBd.out.size (.cells #[.string p.nm,.int .i64 p.pr,.slice ca p.cs.length cc] 47));have HN5:=qI (mF V p.nm p.pr (.slice ca p.cs.length cc) 47);have HZ5:Hid ((V.alloc (.cells #[.string p.nm,.int .i64 p.pr,.slice ca p.cs.length cc] 47)).heap.size=V.heap.size+1):=by unfold Hid;simp
       go_simp
       go_wp2
       refine hK.out _ _ (HSB.out _ HB5.out) (λhHeld=>?_);clear hK K;generalize V.alloc (.cells #[.string p.nm,.int .i64 p.pr,.slice ca p.cs.length cc] 47)=Z5 at *;refine rd 8 (λK hK=>?_);go_simp
       go_wp2_with fail
       refine (wW (.slice ha t.hs.length hc) t.hs Z5 (HHX.out.below HB5.out) (by omega)).mono ?_;rintro e P6 ⟨l,va,vc,rfl,hl1,hl2,hl3,hb⟩;have HL6:=qI hl1;have HR6:=qI hl2;have HI6:=qI hl3;have HC6:=qI hb;have HB6:=qI (HB5.out.trans (hb.mono HB5.out.size));have hzp6:=hb.size;have hqp6:=HB5.out.size;have hll6:l.length<=12:=by have:=congrArg List.length hl1;simp at this;omega
       have HN6:Hid (∀ j u,(dy (⟨p.nm,p.pr,[]⟩,.slice ca p.cs.length cc))[j]?=some u->P6.cell? ((⟨V.heap.size,0,none⟩:Addr).add j)=some u):=λj u hu=>by have:=HN5.out j u hu;rw [Addr.add_lit] at this ⊢;exact (hb.cell (p:=⟨V.heap.size,_,none⟩) (by show V.heap.size<_;have:=HZ5.out;omega)).trans this
       clear hb hl1 hl2 hl3
       go_wp2
       refine hK.out _ _ (HSB.out _ HB6.out) (λhHeld=>?_);clear hK K;refine rd 11 (λK hK=>?_);rw [if_pos (by rfl)]
       refine wp_append_lies (o := { dst := some 50, op := Op.call { callee := Callee.builtin Builtin.append, args := #[Operand.tmp 47, Operand.tmp 49], argTypes := #[70, 70] }, type := 70, pos := "ostler.go:76", after := #[{ on := 8, ground := Ground.data }, { on := 10, ground := Ground.data }, { on := 8, ground := Ground.chain }], guard := none }) _ _ _ 70 rfl Z5.heap.size 47 i0 (.agg #[.string ByteArray.empty, .int .i64 0, .slice none 0 0]) 3 48 Tryz.underlying70 hi hz0 hz1 hz2 rfl (by decide) (.slice va l.length vc) _ _ rfl HR6.out ⟨_, 0, none⟩ 1 1 (dy (⟨p.nm, p.pr, []⟩, .slice ca p.cs.length cc)) rfl rfl HN6.out (mG _ _ _ _ _) (by decide) (by unfold maxLen; omega) (by omega) (by have := HC6.out.size; omega) P6.heap.size rfl ?_
       intro g' cap' W4 hown' hgrow' hgg hglt;have hlo:∀ j,(Value.slice va l.length vc).ownBlock=some j->Z5.heap.size<=j:=λj hj=>(HR6.out.lt j hj).1
       have HB7:Hid (Below X.heap.size X W4):=HB6.out.grown hgrow' HB6.out.size (λj hj=>by have:=hlo j hj;omega);have HC7:Hid (Below Z5.heap.size Z5 W4):=HC6.out.grown hgrow' HC6.out.size (λj hj=>hlo j hj);have HPR:Hid (eu W4 (.slice (some ⟨g',0,none⟩) (l.length+1) cap') (t.hs.map Hd.pod++[p])):=nh (base:=Z5.heap.size) ⟨l++[(p,.slice ca p.cs.length cc)],by rw [Qj,HL6.out];rfl,by rw [mE,Q2];exact hown',λx hx=>by
        rcases Qi.1 hx with hx|hx
        ·exact (HI6.out x hx).below HC7.out
        ·rw [Qm.1 hx];exact HPX.out.below HB7.out⟩
       clear hown' hgrow' hgg hglt hlo;refine hK.out _ _ (HSB.out _ HB7.out) (λhHeld=>?_);clear hK K;(try simp only [Act.put,s1,s2,s3]);refine rd 12 (λK hK=>?_);go_simp
       go_wp2_with fail
       refine (pC (.pointer (some ⟨tb,0,none⟩)) t.m.op t.m.nd t.m.nb t.m.pol _ (t.hs.map Hd.pod++[p]) W4 HPR.out hpl HMI.out hop HSUM.out).mono ?_;rintro e Q8 ⟨rfl,hb⟩;have HB8:=qI (HB7.out.trans (hb.mono HB7.out.size));clear hb
       go_wp2
       refine hK.out _ _ (HSB.out _ HB8.out) (λhHeld=>?_);clear hK K;refine tk 13 ?_;refine Qn (by kernel_rfl) ?_ _;clear hHeld
       go_wp2
       go_meet
       exact ⟨by unfold Ol.room;rw [Bool.not_and],HB8.out⟩
     case rest=>
      clear HMI hpl HSUM;obtain ⟨rfl,hbc⟩:=hcut;have HB5:=qI hbc;clear hbc HB3;generalize wc=W5 at *
      rcases two (Ol.room t.m (t.hs.map Hd.pod++[p])) with hr|hr
      ·have HR:=qI hr;rw [hr];clear hr;have x7:W5.cell? ⟨Ba,7,none⟩=some (.slice ha t.hs.length hc):=(HSB.out _ HB5.out).2.2.2.2.2.1;have HLF:=qI (qe Ba tb t.m Bd Be (.slice ha t.hs.length hc) s.cp pb db ao pc t.ds s.us (.slice ha t.hs.length hc) t.hs W5 (HOX.out.below HB5.out) (HPO.out.below HB5.out) HNOD.out (HHX.out.below HB5.out) hop HOKS.out (by omega));rw [HK4.out] at HLF
       go_wp2_with fail
       refine HLF.out.mono ?_;rintro e W6 ⟨⟨pb',db',ao',pc',rfl,hsk6,hpb6,hdb6⟩,hb6⟩;have hX6:X.heap.size<=W5.heap.size:=HB5.out.size;have HSK6:=qI hsk6;have HB6:=qI (HB5.out.trans (hb6.mono HB5.out.size));have hpl6:=hsk6.pool.lt;have HDB6:=qI hdb6;have hs6:=hb6.size;clear hb6 hsk6 hdb6 HLF x7;unfold sV;dsimp only;have HBY:=qI (HB6.out.alloc HB6.out.size (.cells #[.int .u64 s.cp,.pointer (some ⟨pb',0,none⟩)] 98));have HBY6:=qI ((Q0 W6.heap.size W6).alloc (lR) (.cells #[.int .u64 s.cp,.pointer (some ⟨pb',0,none⟩)] 98));have HOY:=qI (HOX.out.below HBY.out);have HY0:=qI ((HBY.out.block w.heap.size (by omega)).trans HX0.out);have HY1:=qI (aG W6 (.cells #[.int .u64 s.cp,.pointer (some ⟨pb',0,none⟩)] 98) rfl);have hsY:(W6.alloc (.cells #[.int .u64 s.cp,.pointer (some ⟨pb',0,none⟩)] 98)).heap.size=W6.heap.size+1:=by simp
       have HSKY:=qI (HSK6.out.below HBY6.out)
       go_upto_region 12 with fail
       generalize (W6.alloc (.cells #[.int .u64 s.cp,.pointer (some ⟨pb',0,none⟩)] 98))=Y at *;have HSY:Hid (∀ W,Below Y.heap.size Y W->(xB Ba tb t w.heap.size p ca cc W6.heap.size s pb') W):=λW hb=>⟨ad ((hb.block (Ba) (by omega)).trans HOY.out) 0,ad ((hb.block (Ba) (by omega)).trans HOY.out) 1,ad ((hb.block (Ba) (by omega)).trans HOY.out) 2,ad ((hb.block (Ba) (by omega)).trans HOY.out) 3,ad ((hb.block (Ba) (by omega)).trans HOY.out) 4,ad ((hb.block (w.heap.size) (by omega)).trans HY0.out) 0,ad ((hb.block (w.heap.size) (by omega)).trans HY0.out) 1,ad ((hb.block (w.heap.size) (by omega)).trans HY0.out) 2,ad ((hb.block (W6.heap.size) (by omega)).trans HY1.out) 0,ad ((hb.block (W6.heap.size) (by omega)).trans HY1.out) 1⟩
       go_cut [10,11] (λx10 x11 wd=>∃ ua un uc,x10=.slice ua un uc/\x11=ak ((Ol.give t.m s p).1:Nat)/\((Ol.give t.m s p).1=0->bl (fresh X.heap.size wd) (.slice ua un uc) (Ol.give t.m s p).2)/\Below X.heap.size X wd)
       case first=>
        have HBd:Hid (Below Y.heap.size Y Y.drew):=bf (Q0 _ _);refine Qo (by kernel_rfl) (HSY.out _ HBd.out) (λhHeld=>?_);generalize Y.drew=V at *;refine tk 0 ?_;refine tk 1 ?_;refine tk 2 ?_;refine tk 3 ?_;refine tk 4 ?_;refine tk 5 ?_;refine rd 6 (λK hK=>?_);go_simp
        go_wp2_with fail
        have HXV:=qI (HBY.out.trans (HBd.out.mono HBY.out.size));have hYV:=HBd.out.size;refine (JI t.m s tb b 0 tc pb' db' ao' pc' p (.slice ca p.cs.length cc) V (Kg HTX.out HXV.out (by omega)) (HSKY.out.below HBd.out) (HPX.out.le (kY HXV.out rfl (λj hj=>by omega))) HPF.out).mono ?_;rintro e V2 ⟨⟨ua,un,uc,rfl,hgv⟩,hgr⟩;have HGV:Hid ((Ol.give t.m s p).1=0->bl (fresh X.heap.size V2) (.slice ua un uc) (Ol.give t.m s p).2):=λh=>(hgv h).le (j5 (λ_ _ _=>rfl) (lR) (by omega))
        have HBV:Hid (Below X.heap.size X V2):=HXV.out.grown hgr HXV.out.size (λj hj=>by injection hj with hj;omega);have hS2:(xB Ba tb t w.heap.size p ca cc W6.heap.size s pb') V2:=by
         obtain ⟨q0,q1,q2,q3,q4,q5,q6,q7,q8,q9⟩:=HSY.out _ HBd.out;have hne:∀ j,j<X.heap.size\/j=W6.heap.size->some j≠some pb':=λj hj e=>by injection e with e;omega
         exact ⟨(hgr.cell_far ⟨Ba,0,none⟩ (by show Ba<_;omega) (hne (Ba) (by omega))).trans q0,(hgr.cell_far ⟨Ba,1,none⟩ (by show Ba<_;omega) (hne (Ba) (by omega))).trans q1,(hgr.cell_far ⟨Ba,2,none⟩ (by show Ba<_;omega) (hne (Ba) (by omega))).trans q2,(hgr.cell_far ⟨Ba,3,none⟩ (by show Ba<_;omega) (hne (Ba) (by omega))).trans q3,(hgr.cell_far ⟨Ba,4,none⟩ (by show Ba<_;omega) (hne (Ba) (by omega))).trans q4,(hgr.cell_far ⟨w.heap.size,0,none⟩ (by show w.heap.size<_;omega) (hne (w.heap.size) (by omega))).trans q5,(hgr.cell_far ⟨w.heap.size,1,none⟩ (by show w.heap.size<_;omega) (hne (w.heap.size) (by omega))).trans q6,(hgr.cell_far ⟨w.heap.size,2,none⟩ (by show w.heap.size<_;omega) (hne (w.heap.size) (by omega))).trans q7,(hgr.cell_far ⟨W6.heap.size,0,none⟩ (by show W6.heap.size<_;omega) (hne (W6.heap.size) (by omega))).trans q8,(hgr.cell_far ⟨W6.heap.size,1,none⟩ (by show W6.heap.size<_;omega) (hne (W6.heap.size) (by omega))).trans q9⟩
        clear hgr hgv
        go_wp2
        refine hK.out _ _ hS2 (λhHeld=>?_);clear hK K;clear hS2;refine tk 7 ?_;refine tk 8 ?_;refine tk 9 ?_;refine tk 10 ?_;refine tk 11 ?_;refine Qn (by kernel_rfl) ?_ _;clear hHeld
        go_wp2
        go_meet
        exact ⟨_,_,_,rfl,rfl,HGV.out,HBV.out⟩
       case rest=>
        obtain ⟨ua,un,uc,rfl,rfl,hgv,hbc⟩:=hcut;have HB7:=qI hbc;have HGV:=qI hgv;have hX7:X.heap.size<=wc.heap.size:=hbc.size;clear hbc hgv HSY HSKY HY1 HY0 HOY HBY6 HBY HB6 HSK6 HDB6;generalize wc=W7 at *
        by_cases hG:(Ol.give t.m s p).1=0
        ·have HG:=qI hG;have HGV:=qI (HGV.out hG);rw [hG,show ak (((0:Nat)):Int)=.nilIface from rfl];clear hG;have HSTEP:=qI (Kd HINV.out HK4.out HPF.out HH.out h12' HG.out)
         go_upto_region 15 with fail
         go_cut [12] (λx12 wd=>∃ va vn vc,x12=.slice va vn vc/\aM (ag (four N Ba Bd Bm) wd) (.slice va vn vc) (Ol.bB t.hs ⟨p,(Ol.give t.m s p).2⟩)/\Below X.heap.size X wd)
         case first=>
          have HBd:Hid (Below X.heap.size X W7.drew):=bf HB7.out;have HGd:Hid (bl (fresh X.heap.size W7.drew) (.slice ua un uc) (Ol.give t.m s p).2):=HGV.out.le (tX (bf (Q0 _ _)) (lR));refine Qo (by kernel_rfl) (HSB.out _ HBd.out) (λhHeld=>?_);generalize W7.drew=V at *;refine tk 0 ?_;refine tk 1 ?_;refine tk 2 ?_;refine tk 3 ?_;refine tk 5 ?_;refine tk 6 ?_;refine tk 8 ?_;refine rd 4 (λK hK=>?_);go_simp
          go_wp2_with fail
          refine (tZ (.slice ha t.hs.length hc) t.hs V (ag (four N Ba Bd Bm) w) HK2.out ((ci _ _).trans (aB.of_below (HBW.out _ HBd.out))) (by omega)).mono ?_;rintro e C1 ⟨u,cvv,gvv,rfl,hown,hin,hb⟩;obtain ⟨l,hl1,hl2,hl3⟩:=xh hown hin;obtain ⟨va,vc,hu⟩:=gO hl2;subst hu;have hll:l.length<=12:=by have:=congrArg List.length hl1;simp at this;omega
          have HL:=qI hl1;have HI:=qI hl3;have HV1:=qI hb;have HC1:=qI (HBd.out.trans (hb.mono HBd.out.size));have HLO:Hid (∀ j,(Value.slice va l.length vc).ownBlock=some j->V.heap.size<=j/\j<C1.heap.size):=λj hj=>hl2.lt j hj
          have HRW:=qI hl2;have hXV:=HBd.out.size;have hVC:=hb.size;clear hown hin hb hl1 hl2 hl3
          go_wp2
          refine hK.out _ _ (HSB.out _ HC1.out) (λhHeld=>?_);clear hK K;refine rd 7 (λK hK=>?_);go_simp
          go_wp2_with fail
          refine (vy p.nm p.pr p.cs (.slice ca p.cs.length cc) C1 (HPX.out.below HC1.out) (by have:=(Sv.fm HPF.out).2.2.1;omega) (λq hq=>by have:=((Sv.fm HPF.out).2.2.2 (ct p.cs q) (Ost.dO _ _ _ hq)).2.2.2.2.2.1;omega)).mono ?_;rintro e C2 ⟨pa,pcc,rfl,hc2,hb2⟩;have HC2:=qI (HC1.out.trans (hb2.mono HC1.out.size));have HV2:=qI (HV1.out.trans (hb2.mono HV1.out.size));have HP2:=qI hc2;have HRW2:=qI (lG HRW.out (λg hg=>hb2.block g (HLO.out g hg).2));have hCC:=hb2.size;clear hc2 hb2
          go_wp2
          refine hK.out _ _ (HSB.out _ HC2.out) (λhHeld=>?_);clear hK K;refine tk 9 ?_;have HC3:=qI (HC2.out.alloc HC2.out.size (.cells #[.string p.nm,.int .i64 p.pr,.slice pa p.cs.length pcc,.slice ua un uc] 57));have HV3:=qI (HV2.out.alloc HV2.out.size (.cells #[.string p.nm,.int .i64 p.pr,.slice pa p.cs.length pcc,.slice ua un uc] 57));have HM3:=qI (aG C2 (.cells #[.string p.nm,.int .i64 p.pr,.slice pa p.cs.length pcc,.slice ua un uc] 57) rfl);have HN3:=qI (wN C2 (⟨p,(Ol.give t.m s p).2⟩,.slice pa p.cs.length pcc,.slice ua un uc) 57);dsimp only at HN3;have HZ3:Hid ((C2.alloc (.cells #[.string p.nm,.int .i64 p.pr,.slice pa p.cs.length pcc,.slice ua un uc] 57)).heap.size=C2.heap.size+1):=by unfold Hid;simp
          have HRW3:=qI (HRW2.out.alloc (.cells #[.string p.nm,.int .i64 p.pr,.slice pa p.cs.length pcc,.slice ua un uc] 57));have H23:=qI ((Q0 C2.heap.size C2).alloc (lR) (.cells #[.string p.nm,.int .i64 p.pr,.slice pa p.cs.length pcc,.slice ua un uc] 57));refine rd 10 (λK hK=>?_);go_simp
          go_wp2
          refine hK.out _ _ (HSB.out _ HC3.out) (λhHeld=>?_);clear hK K;generalize C2.alloc (.cells #[.string p.nm,.int .i64 p.pr,.slice pa p.cs.length pcc,.slice ua un uc] 57)=C3 at *;refine rd 11 (λK hK=>?_);go_simp
          go_wp2_with fail
          refine (HINS.out l HL.out V.heap.size (.slice va l.length vc) (⟨p,(Ol.give t.m s p).2⟩,.slice pa p.cs.length pcc,.slice ua un uc) ⟨C2.heap.size,0,none⟩ C3 HRW3.out HN3.out (qi _ _ _ _ _ _ _) (by have:=HZ3.out;omega) (λe=>by have:=(HLO.out _ e).2;have e':C2.heap.size<C1.heap.size:=this;omega) ⟨_,_,HM3.out⟩ (λx hx=>Ki (HI.out x hx))).mono ?_;rintro e C4 ⟨v',rfl,hown',hgrow'⟩;obtain ⟨va',vc',hv'⟩:=gO hown';subst hv';have HC4:Hid (Below X.heap.size X C4):=HC3.out.grown hgrow' HC3.out.size (λj hj=>by have:=(HLO.out j hj).1;omega);have HV4:Hid (Below V.heap.size V C4):=HV3.out.grown hgrow' HV3.out.size (λj hj=>(HLO.out j hj).1);have HNX:Hid (aM (ag (four N Ba Bd Bm) C4) (.slice va' (l.length+1) vc') (Ol.bB t.hs ⟨p,(Ol.give t.m s p).2⟩)):=by
           have hs4:=hgrow'.size;have hz3:=HZ3.out;have q1:aE (ag (four N Ba Bd Bm) C4) (.slice pa p.cs.length pcc) p.cs:=HP2.out.le (bg (λj hj hn=>by
            have hn:¬ j<C1.heap.size:=hn;refine ⟨λe=>by have:=HML.out j e;omega,(hgrow'.block j (by omega) (λe=>by have:=(HLO.out j e.symm).2;omega)).trans (H23.out.block j hj)⟩) (by omega))
           have q2:bl (ag (four N Ba Bd Bm) C4) (.slice ua un uc) (Ol.give t.m s p).2:=HGd.out.le (bg (λj hj hn=>by
            have hn:¬ j<X.heap.size:=hn;exact ⟨λe=>by have:=HML.out j e;omega,HV4.out.block j hj⟩) HV4.out.size)
           have:=Kj (y:=(⟨p,(Ol.give t.m s p).2⟩,.slice pa p.cs.length pcc,.slice ua un uc)) hown' HML.out (by omega) HI.out (HBW.out _ HC4.out) q1 q2
           rw [HL.out] at this;exact this
          clear hown' hgrow'
          go_wp2
          refine hK.out _ _ (HSB.out _ HC4.out) (λhHeld=>?_);clear hK K;refine tk 12 ?_;refine Qn (by kernel_rfl) ?_ _;clear hHeld
          go_wp2
          go_meet
          exact ⟨_,_,_,rfl,HNX.out,HC4.out⟩
         case rest=>
          obtain ⟨va,vn,vc,rfl,hnx,hbc⟩:=hcut;have HNX:=qI hnx;have HB8:=qI hbc;have hX8:X.heap.size<=wc.heap.size:=hbc.size;clear hnx hbc HGV HB7;generalize wc=W8 at *;have HF:=qI HSTEP.out.1;have HCS:=qI (vV HCALM.out HF.out);have x5:W8.cell? ⟨Ba,5,none⟩=some (.pointer (some ⟨Bd,0,none⟩)):=ad ((HB8.out.block Ba (by omega)).trans HOX.out) 5;have HD8:Hid (bd W8 Bd dk):=vY (HE.out.below (HBW.out _ HB8.out)).disk HCALM.out;have HSV:=qI (vT Bd dk (.slice va vn vc) (Ol.bB t.hs ⟨p,(Ol.give t.m s p).2⟩) W8 HD8.out (.inl HCALM.out.2.2) (HNX.out.le (ci _ _)) (HT.out.below (HBW.out _ HB8.out)))
          by_cases hlong:6000<(aF (Ol.bB t.hs ⟨p,(Ol.give t.m s p).2⟩)).length
          ·rw [HCS.out.2.1 hlong,show ak (((2:Nat)):Int)=.iface 121 (.int .i64 2) from rfl] at HSV;have HLG:=qI hlong;clear hlong
           go_wp2_with fail
           refine HSV.out.mono ?_;rintro e W9 ⟨rfl,hd9,hg9⟩;have HD9:=qI hd9;have HG9:=qI hg9;clear hd9 hg9 x5
           go_wp2
           go_ret;exact ⟨by rw [xd HPF.out HH.out h12' HR.out HK4.out HG.out HLG.out];rfl,Kk HMA.out (HBW.out _ HB8.out) HG9.out HD9.out HCS.out.2.2 (xd HPF.out HH.out h12' HR.out HK4.out HG.out HLG.out)⟩
          ·rw [HCS.out.1 (by omega),show ak (((0:Nat)):Int)=.nilIface from rfl] at HSV;have HLG:=qI hlong;clear hlong
           go_wp2_with fail
           refine HSV.out.mono ?_;rintro e W9 ⟨rfl,hd9,hg9⟩;have HD9:=qI hd9;have HG9:=qI hg9;have hs9:=hg9.size;have hw8:w.heap.size<=W8.heap.size:=(HBW.out _ HB8.out).size;have HE9:Hid (bz W9 Be Bd Bm n (dk.save (Ol.bB t.hs ⟨p,(Ol.give t.m s p).2⟩)).2.n (dk.save (Ol.bB t.hs ⟨p,(Ol.give t.m s p).2⟩)).2.k (λa=>a∈au t.hs)):=qm (HE.out.below (HBW.out _ HB8.out)) hg9 hd9 HCS.out.2.2;have HH9:Hid (aM (ag (fO Bd Bm) W9) (.slice va vn vc) (Ol.bB t.hs ⟨p,(Ol.give t.m s p).2⟩)):=HNX.out.le (bg (λj hj hn=>⟨λe=>hn (.inr (.inr e)),hg9.block j hj (λe=>hn (.inr (.inr (.inl (by injection e)))))⟩) hg9.size);have HO9:Hid (bh W9 Ba tb t.m Bd Be (.slice ha t.hs.length hc) s.cp pb):=(hg9.block Ba (by omega) (λe=>ab1 (by injection e))).trans (HOX.out.below HB8.out);have x6:W9.cell? ⟨Ba,6,none⟩=some (.pointer (some ⟨Be,0,none⟩)):=ad HO9.out 6;have HRJ:=qI (pZ Be Bd Bm n (dk.save (Ol.bB t.hs ⟨p,(Ol.give t.m s p).2⟩)).2.n (dk.save (Ol.bB t.hs ⟨p,(Ol.give t.m s p).2⟩)).2.k (au t.hs) (.slice va vn vc) (Ol.bB t.hs ⟨p,(Ol.give t.m s p).2⟩) W9 HE9.out HH9.out HF.out hn);clear hd9 hg9 x5
           go_wp2_with fail
           refine HRJ.out.mono ?_;rintro e W10 ⟨rfl,⟨n',hn',hE10⟩,ho10⟩;have HE10:=qI hE10;have HO10:Hid (bh W10 Ba tb t.m Bd Be (.slice ha t.hs.length hc) s.cp pb):=(ho10.block Ba (by omega) ab1 ab2).trans HO9.out;have hs10:=ho10.size;have HOT:=qI ho10;have HN':=qI hn';have hpbl:=HK5.out.pool.lt;have HBLK:Hid (∀ j,j<w.heap.size->¬ (four N Ba Bd Bm) j->W10.heap[j]?=w.heap[j]?):=λj hj hn=>(ho10.block j (by omega) (λe=>hn (.inr (.inr (.inl e)))) (λe=>hn (.inr (.inr (.inr e))))).trans ((HG9.out.block j (by omega) (λe=>hn (.inr (.inr (.inl (by injection e)))))).trans ((HBW.out _ HB8.out).block j hj))
           have HPO10:Hid (ap W10 pb db ao pc t.ds s.us):=by
            have:=kk HK5.out.pool (HBLK.out pb hpbl HK6.out) (λh0=>HBLK.out db (HK5.out.pool.at0 h0).2.2 (HK7.out h0)) (by omega)
            rw [Ol.fI HK4.out] at this;exact this
           have HH10:Hid (aM (ag (λj=>j=Ba) W10) (.slice va vn vc) (Ol.bB t.hs ⟨p,(Ol.give t.m s p).2⟩)):=HNX.out.le (bg (λj hj hn=>⟨λe=>hn (.inr (.inl e)),(ho10.block j (by omega) (λe=>hn (.inr (.inr (.inl e)))) (λe=>hn (.inr (.inr (.inr e))))).trans (HG9.out.block j hj (λe=>hn (.inr (.inr (.inl (by injection e))))))⟩) (by omega));obtain ⟨s',hs'⟩:=HSTEP.out.2.1;have HS':=qI hs';have hok':i8 (Ol.bB t.hs ⟨p,(Ol.give t.m s p).2⟩):=(Ol.bW.1 HF.out).2.1;have hlen':(Ol.bB t.hs ⟨p,(Ol.give t.m s p).2⟩).length<=100:=by have:=(Ol.bW.1 HF.out).1;omega
           have HHO:=qI (qg Ba tb t.m Bd Be (.slice ha t.hs.length hc) s.cp pb db ao pc t.ds s.us (.slice va vn vc) (Ol.bB t.hs ⟨p,(Ol.give t.m s p).2⟩) s' W10 HO10.out ⟨_,_,_,rfl⟩ HPO10.out (λe=>HK6.out (.inr (.inl e))) (λh0 e=>HK7.out (by rw [Ol.fI HK4.out];exact h0) (.inr (.inl e))) HNOD.out HH10.out hop hok' hlen' hs');clear hE10 ho10 hn' x6 hs' hok' hlen'
           go_wp2_with fail
           refine HHO.out.mono ?_;have HW10:Hid (w.heap.size<=W10.heap.size):=(((Apart.of_below (HBW.out _ HB8.out)).trans (eA HG9.out (K:=three Ba Bd Bm) (λj e _=>.inr (.inl (by injection e with e;exact e.symm))))).trans (ql HOT.out)).size;rintro e W11 ⟨rfl,⟨pb2,db2,ao2,c2,hos,hsk,hpb,hdb⟩,ha11⟩;have HFIN:Hid (av W11 N Ba Bd Be Bm ⟨t.m,t.ds,(Ol.bB t.hs ⟨p,(Ol.give t.m s p).2⟩)⟩ (dk.save (Ol.bB t.hs ⟨p,(Ol.give t.m s p).2⟩)).2 n'):=HMA.out.next (HBW.out _ HB8.out) (lM HK3.out HCPU.out (λj hj hn=>(HBW.out _ HB8.out).block j hj) hw8) HCPU.out HNX.out HG9.out HOT.out ha11 hos hsk hpb hdb HE10.out HO10.out ⟨HINV.out.devs,HF.out,⟨_,HS'.out⟩⟩ HS'.out HCS.out.2.2 (by have:=HLG.out;omega);have HPU:Hid (eM w W11 Ba):=.inr (qh hos hsk (by have:=HW10.out;omega) (λh0=>by have:=HW10.out;have:=hdb h0;omega));have HAP:Hid (Apart (three Ba Bd Bm) w W11):=(((Apart.of_below (HBW.out _ HB8.out)).trans (eA HG9.out (λj e _=>.inr (.inl (by injection e with e;exact e.symm))))).trans (ql HOT.out)).trans ⟨ha11.os,ha11.tape,ha11.output,ha11.size,λj hj hn=>ha11.block j hj (λe=>hn (.inl e))⟩;clear hos hsk hpb hdb ha11
           go_wp2
           go_ret;have hadm:=Ke HPF.out HH.out h12' HR.out HK4.out HG.out HLG.out;exact ⟨by rw [hadm];rfl,by rw [hadm];exact ⟨_,n',⟨HN'.out,HPU.out⟩,HFIN.out⟩,HAP.out⟩
        ·have HG:=qI hG;rw [dI hG];clear hG
         go_wp2
         go_ret;exact ⟨by rw [xa HPF.out HH.out h12' HR.out HK4.out HG.out,dI HG.out];rfl,lN HMA.out (HBW.out _ HB7.out) (xa HPF.out HH.out h12' HR.out HK4.out HG.out)⟩
      ·have HR:=qI hr;rw [hr];clear hr
       go_wp2
       go_ret;exact ⟨by rw [mN HPF.out HH.out h12' HR.out];rfl,lN HMA.out (HBW.out _ HB5.out) (mN HPF.out HH.out h12' HR.out)⟩
 ·have HPF:=qI hpF;rw [dI hpF];clear hpF
  go_wp2
  go_ret;exact ⟨by rw [wX HPF.out,dI HPF.out];rfl,lN HMA.out (HBW.out _ HB1.out) (wX HPF.out)⟩
end
