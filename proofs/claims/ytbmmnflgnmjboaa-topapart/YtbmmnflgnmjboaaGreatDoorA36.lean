import Derived.Test.YtbmmnflgnmjboaaGreatDoorA32
set_option maxRecDepth 100000
set_option maxHeartbeats 16000000
namespace Go.Proofs.YtbmmnflgnmjboaaGreatDoor
section
open RowKit Shelf
open Qos (Nd Ct Pd nd ct pd ag)
open Sv (Gv Hd gv hd gsF aE aI)
open Dvs (Dv dv aX)
attribute [local go_sem] Oper.semAt_some
abbrev dW:=λ(x0:Pd) (x1:Option Addr) (x2:Nat)=>(.cells #[.string x0.nm,.int .i64 x0.pr,.slice x1 x0.cs.length x2] 47:Obj)
abbrev kG:=λ(x0:Pd) (x1:Option Addr) (x2:Nat) (x3:Option Addr) (x4 x5:Nat)=>(.cells #[.string x0.nm,.int .i64 x0.pr,.slice x1 x0.cs.length x2,.slice x3 x4 x5] 57:Obj)
abbrev nz:=λ(x0:Ol.Sk) (x1:Nat)=>(.cells #[.int .u64 x0.cp,.pointer (some ⟨x1,0,none⟩)] 98:Obj)
abbrev MM:=λ(Ba tb:Nat) (t:Ol.St) (ha:Option Addr) (hc y5:Nat) (p:Pd) (ca:Option Addr) (cc:Nat) (w':World)=>w'.cell? ⟨Ba,0,none⟩=some (.pointer (some ⟨tb,0,none⟩))/\w'.cell? ⟨Ba,1,none⟩=some (.int .u64 t.m.op)/\w'.cell? ⟨Ba,2,none⟩=some (.int .u8 t.m.nd)/\w'.cell? ⟨Ba,3,none⟩=some (.int .i64 t.m.nb)/\w'.cell? ⟨Ba,4,none⟩=some (.int .i64 t.m.pol)/\w'.cell? ⟨Ba,7,none⟩=some (.slice ha t.hs.length hc)/\w'.cell? ⟨y5,0,none⟩=some (.string p.nm)/\w'.cell? ⟨y5,1,none⟩=some (.int .i64 p.pr)/\w'.cell? ⟨y5,2,none⟩=some (.slice ca p.cs.length cc)
abbrev zW:=λ(Ba tb:Nat) (t:Ol.St) (y3:Nat) (p:Pd) (ca:Option Addr) (cc y7:Nat) (s:Ol.Sk) (pb':Nat) (w':World)=>w'.cell? ⟨Ba,0,none⟩=some (.pointer (some ⟨tb,0,none⟩))/\w'.cell? ⟨Ba,1,none⟩=some (.int .u64 t.m.op)/\w'.cell? ⟨Ba,2,none⟩=some (.int .u8 t.m.nd)/\w'.cell? ⟨Ba,3,none⟩=some (.int .i64 t.m.nb)/\w'.cell? ⟨Ba,4,none⟩=some (.int .i64 t.m.pol)/\w'.cell? ⟨y3,0,none⟩=some (.string p.nm)/\w'.cell? ⟨y3,1,none⟩=some (.int .i64 p.pr)/\w'.cell? ⟨y3,2,none⟩=some (.slice ca p.cs.length cc)/\w'.cell? ⟨y7,0,none⟩=some (.int .u64 s.cp)/\w'.cell? ⟨y7,1,none⟩=some (.pointer (some ⟨pb',0,none⟩))
theorem zX (N:Nat->Prop) (Ba Bd Be Bm:Nat) (t:Ol.St) (dk:Dk) (n:Nat) (p:Pd) (cv:Value) (w:World) (hM:aA w N Ba Bd Be Bm t dk n) (hp:aD (ah (four N Ba Bd Bm) w) cv p.cs) (ht:bH w) (hn:n+36<=1000) (hins:∀ l:List (Hd × Value × Value),l.map Prod.fst=t.hs->sF l (Ol.cd t.hs p.nm)) :
  Calls Tryz.prog 23 #[.pointer (some ⟨Ba,0,none⟩),bV p cv] w λe w'=>e=.returned (ar ((Ol.aK t p).1:Nat))/\(∃ dk' n',(n'<=n+dJ (au t.hs) (au (Ol.aK t p).2)/\eX w w' Ba)/\aA w' N Ba Bd Be Bm ⟨t.m,t.ds,(Ol.aK t p).2⟩ dk' n')/\Apart (three Ba Bd Bm) w w':=by
 obtain ⟨i0,hi,Jl,Jy,Jo⟩:=info_parts qY;have HD:=qI hM;obtain ⟨h1,HA,HQ,hE,JZ,Ji,Je,jm,tb,b,tc,hv,pb,db,ao,pc,s,k1,k2,k3,k4,k5,k6,k7⟩:=hM;obtain ⟨a1,a2,a3⟩:=Ol.bY.1 h1.held;have H4:Hid (jN t.hs):=a2;have Jf:=qI a3;have hm:=qI h1;have Hp:=qI HA;have H7:=qI HQ;have HE:=qI hE;have jJ:=qI Je;have jA:=qI Ji;obtain ⟨el1,el2,el3⟩:=hE.lt;obtain ⟨ea1,ea2,ea3⟩:=hE.apart;obtain ⟨ab1,ab2,ab3⟩:=JZ;have jB:=k1.lt;obtain ⟨ha,hc,jp,JT,JW⟩:=id k2;subst jp;obtain ⟨ca,cc,jh,JQ,ji⟩:=id hp;subst jh;have jk:=qI k2;have JO:=qI k3;have Hv:=qI k4;have h7:=qI k5;have Jm:=qI k6;have Jw:=qI k7;have HT:=qI ht;have h5:=qI hins;have HN:=qI ((Q0 w.heap.size w).alloc (lR) (dW p ca cc));have hF:=qI (aF w (dW p ca cc) rfl);have jD:(w.alloc (dW p ca cc)).heap.size=w.heap.size+1:=by simp
 have Ht:Hid (bi (w.alloc (dW p ca cc)) Ba tb t.m Bd Be (.slice ha t.hs.length hc) s.cp pb):=k1.below HN.out;have hP:Hid (aQ (w.alloc (dW p ca cc)) (.slice ha t.hs.length hc) t.hs):=(k2.le (cB _ _)).below HN.out;have H1:Hid (aD (w.alloc (dW p ca cc)) (.slice ca p.cs.length cc) p.cs):=(hp.le (cB _ _)).below HN.out;have JV:Hid (cM (w.alloc (dW p ca cc)) tb b 0 tc t.m):=(L5 k3 HQ).below HN.out;have JY:Hid (ap (w.alloc (dW p ca cc)) pb db ao pc t.ds s.us):=by unfold Hid;rw [<- Ol.gV k4];exact k5.pool.below HN.out
 have he:Hid (aX t.ds):=Dvs.ie h1.devs;have hO:=k3.op;have Jt:=qI (qE p (.slice ca p.cs.length cc) (w.alloc (dW p ca cc)) H1.out);have h2:Hid (∀ j,(four N Ba Bd Bm) j->j<w.heap.size):=λj hj=>by
  rcases hj with e|e|e|e
  ·exact Je j e
  all_goals omega
 clear h1 HA HQ hE Ji Je jm k1 k2 k3 k4 k5 k6 k7 a2 a3 JT JW JQ ji hp ht hins;unfold bV
 go_enter Tryz.func23,Tryz.ntmps23
 go_wp2_with fail
 generalize (w.alloc (dW p ca cc))=X at *;refine Jt.out.mono ?_;rintro e W1 ⟨rfl,JG⟩;have HX:=qI JG;clear JG Jt;have Hf:Hid (∀ W,Below X.heap.size X W->(MM Ba tb t ha hc w.heap.size p ca cc) W):=λW hb=>⟨ad ((hb.block (Ba) (by omega)).trans Ht.out) 0,ad ((hb.block (Ba) (by omega)).trans Ht.out) 1,ad ((hb.block (Ba) (by omega)).trans Ht.out) 2,ad ((hb.block (Ba) (by omega)).trans Ht.out) 3,ad ((hb.block (Ba) (by omega)).trans Ht.out) 4,ad ((hb.block (Ba) (by omega)).trans Ht.out) 7,ad ((hb.block (w.heap.size) (by omega)).trans hF.out) 0,ad ((hb.block (w.heap.size) (by omega)).trans hF.out) 1,ad ((hb.block (w.heap.size) (by omega)).trans hF.out) 2⟩
 have Hg:Hid (∀ W,Below X.heap.size X W->Below w.heap.size w W):=λW hb=>HN.out.trans (hb.mono HN.out.size)
 by_cases hpF:ag p=0
 ·have He:=qI hpF;rw [hpF,show ar (((0:Nat)):Int)=.nilIface from rfl];clear hpF
  go_upto_region 4 with fail
  go_cut [6,7] (λx6 x7 wc=>x6=.int .i64 (Ol.cd t.hs p.nm:Nat)/\x7=.bool (cA t.hs p.nm)/\Below X.heap.size X wc)
  case first=>
   have Hc:Hid (Below X.heap.size X W1.drew):=a6 HX.out;refine Qo (by kernel_rfl) (Hf.out _ Hc.out) (λhQ=>?_);generalize W1.drew=V at *;refine tk 0 ?_;refine tk 1 ?_;refine tk 2 ?_;refine tk 3 ?_;refine tk 4 ?_;refine tk 5 ?_;refine rd 6 (λK hK=>?_);go_simp
   go_wp2_with fail
   refine (yB (.slice ha t.hs.length hc) t.hs p.nm V (hP.out.below Hc.out) (by omega) Jf.out).mono ?_;rintro e W2 ⟨rfl,Hz⟩;have HV:=qI (Hc.out.trans (Hz.mono Hc.out.size));clear Hz
   go_wp2
   refine hK.out _ _ (Hf.out _ HV.out) (λhQ=>?_);clear hK K;refine tk 7 ?_;refine tk 8 ?_;refine tk 9 ?_;refine tk 10 ?_;refine tk 11 ?_;refine Qn (by kernel_rfl) ?_ _;clear hQ
   go_wp2
   go_meet
   exact ⟨rfl,rfl,HV.out⟩
  case rest=>
   obtain ⟨rfl,rfl,Hm⟩:=hcut;have Hs:=qI Hm;clear Hm
   rcases two (cA t.hs p.nm) with hh|hh
   ·have HH:=qI hh;rw [hh];clear hh
    go_wp2
    go_ret;exact ⟨by rw [zC He.out HH.out];rfl,nu HD.out (Hg.out _ Hs.out) (zC He.out HH.out)⟩
   ·have HH:=qI hh;rw [hh];clear hh;have x7:wc.cell? ⟨Ba,7,none⟩=some (.slice ha t.hs.length hc):=(Hf.out _ Hs.out).2.2.2.2.2.1
    by_cases h12:12<=t.hs.length
    ·go_wp2
     go_ret;exact ⟨by rw [zD He.out HH.out h12];rfl,nu HD.out (Hg.out _ Hs.out) (zD He.out HH.out h12)⟩
    ·have Hh:t.hs.length<12:=by omega
     clear h12
     go_upto_region 9 with fail
     clear x7;have hN:Hid (∀ q∈t.hs.map Hd.pod++[p],Qos.bX q.cs):=λq hq=>by
      rcases Qi.1 hq with hq|hq
      ·obtain ⟨x,hx,rfl⟩:=Qk.1 hq;exact Qos.jx (H4.out x hx).1
      ·rw [Qm.1 hq];exact Qos.jx He.out
     have hI:(t.hs.map Hd.pod++[p]).length<=100:=by simp;omega
     have HM:=qI (oS hN.out hI)
     go_cut [52] (λx wd=>x=.bool (!Ol.room t.m (t.hs.map Hd.pod++[p]))/\Below X.heap.size X wd)
     case first=>
      have Hc:Hid (Below X.heap.size X wc.drew):=a6 Hs.out;refine Qo (by kernel_rfl) (Hf.out _ Hc.out) (λhQ=>?_);generalize wc.drew=V at *;refine tk 0 ?_;refine tk 1 ?_;refine tk 2 ?_;refine tk 3 ?_;refine tk 4 ?_;refine tk 5 ?_;refine tk 6 ?_;refine tk 7 ?_;refine tk 9 ?_;refine wpAnyH_ready (rs:=[8,10]) (by kernel_rfl) (by simp) (AllReadyH.cons rfl (λK hK=>?_) (AllReadyH.cons rfl (λK hK=>?_) AllReadyH.nil))
      ·go_simp
       go_wp2_with fail
       refine (zA (.slice ha t.hs.length hc) t.hs V (hP.out.below Hc.out) (by omega)).mono ?_;rintro e P1 ⟨l,va,vc,rfl,Ho,Hq,Hy,hb⟩;have jo:=qI Ho;have J0:=qI Hq;have J5:=qI Hy;have HS:=qI hb;have HX:=qI (Hc.out.trans (hb.mono Hc.out.size));have jg:=hb.size;have JI:=Hc.out.size;have J6:l.length<=12:=by have:=congrArg List.length Ho;simp at this;omega
       clear hb Ho Hq Hy
       go_wp2
       refine hK.out _ _ (Hf.out _ HX.out) (λhQ=>?_);clear hK K;refine rd 10 (λK hK=>?_);have HV:=qI (HX.out.alloc HX.out.size (dW p ca cc));have JU:=qI (oB P1 p.nm p.pr (.slice ca p.cs.length cc) 47);have jy:Hid ((P1.alloc (dW p ca cc)).heap.size=P1.heap.size+1):=by unfold Hid;simp
       have Jv:=qI (J0.out.alloc (dW p ca cc));have HJ:=qI (HS.out.alloc HS.out.size (dW p ca cc));go_simp
       go_wp2
       refine hK.out _ _ (Hf.out _ HV.out) (λhQ=>?_);clear hK K;generalize P1.alloc (dW p ca cc)=Z2 at *;refine rd 11 (λK hK=>?_);rw [if_pos (by rfl)]
       refine wp_append_lies (o := { dst := some 50, op := Op.call { callee := Callee.builtin Builtin.append, args := #[Operand.tmp 47, Operand.tmp 49], argTypes := #[70, 70] }, type := 70, pos := "ostler.go:76", after := #[{ on := 8, ground := Ground.data }, { on := 10, ground := Ground.data }, { on := 8, ground := Ground.chain }], guard := none }) _ _ _ 70 rfl V.heap.size 47 i0 (.agg #[.string ByteArray.empty, .int .i64 0, .slice none 0 0]) 3 48 Tryz.underlying70 hi Jl Jy Jo rfl (by decide) (.slice va l.length vc) _ _ rfl Jv.out ⟨_, 0, none⟩ 1 1 (dG (⟨p.nm, p.pr, []⟩, .slice ca p.cs.length cc)) rfl rfl JU.out (oC _ _ _ _ _) (by decide) (by unfold maxLen; omega) (by omega) (by have := HJ.out.size; omega) Z2.heap.size rfl ?_
       intro g' cap' W4 Hb Ha hU HU;have HO:∀ j,(Value.slice va l.length vc).ownBlock=some j->V.heap.size<=j:=λj hj=>(Jv.out.lt j hj).1
       have Hs:Hid (Below X.heap.size X W4):=HV.out.grown Ha HV.out.size (λj hj=>by have:=HO j hj;omega);have hD:Hid (Below V.heap.size V W4):=HJ.out.grown Ha HJ.out.size (λj hj=>HO j hj);have hW:Hid (eH W4 (.slice (some ⟨g',0,none⟩) (l.length+1) cap') (t.hs.map Hd.pod++[p])):=o8 (base:=V.heap.size) ⟨l++[(p,.slice ca p.cs.length cc)],by rw [Qj,jo.out];rfl,by rw [oA,Q2];exact Hb,λx hx=>by
        rcases Qi.1 hx with hx|hx
        ·exact (J5.out x hx).below hD.out
        ·rw [Qm.1 hx];exact H1.out.below Hs.out⟩
       clear Hb Ha hU HU HO;refine hK.out _ _ (Hf.out _ Hs.out) (λhQ=>?_);clear hK K;(try simp only [Act.put,s1,s2,s3]);refine rd 12 (λK hK=>?_);go_simp
       go_wp2_with fail
       refine (rA (.pointer (some ⟨tb,0,none⟩)) t.m.op t.m.nd t.m.nb t.m.pol _ (t.hs.map Hd.pod++[p]) W4 hW.out hI hN.out hO HM.out).mono ?_;rintro e Q4 ⟨rfl,hb⟩;have Jh:=qI (Hs.out.trans (hb.mono Hs.out.size));clear hb
       go_wp2
       refine hK.out _ _ (Hf.out _ Jh.out) (λhQ=>?_);clear hK K;refine tk 13 ?_;refine Qn (by kernel_rfl) ?_ _;clear hQ
       go_wp2
       go_meet
       exact ⟨by unfold Ol.room;rw [Bool.not_and],Jh.out⟩
      ·have Hk:=qI (Hc.out.alloc Hc.out.size (dW p ca cc));have J8:=qI (oB V p.nm p.pr (.slice ca p.cs.length cc) 47);have JX:Hid ((V.alloc (dW p ca cc)).heap.size=V.heap.size+1):=by unfold Hid;simp
       go_simp
       go_wp2
       refine hK.out _ _ (Hf.out _ Hk.out) (λhQ=>?_);clear hK K;generalize V.alloc (dW p ca cc)=Z5 at *;refine rd 8 (λK hK=>?_);go_simp
       go_wp2_with fail
       refine (zA (.slice ha t.hs.length hc) t.hs Z5 (hP.out.below Hk.out) (by omega)).mono ?_;rintro e P6 ⟨l,va,vc,rfl,Ho,Hq,Hy,hb⟩;have jr:=qI Ho;have Jp:=qI Hq;have J7:=qI Hy;have h8:=qI hb;have HP:=qI (Hk.out.trans (hb.mono Hk.out.size));have ja:=hb.size;have JK:=Hk.out.size;have JP:l.length<=12:=by have:=congrArg List.length Ho;simp at this;omega
       have jl:Hid (∀ j u,(dG (⟨p.nm,p.pr,[]⟩,.slice ca p.cs.length cc))[j]?=some u->P6.cell? ((⟨V.heap.size,0,none⟩:Addr).add j)=some u):=λj u hu=>by have:=J8.out j u hu;rw [Addr.add_lit] at this ⊢;exact (hb.cell (p:=⟨V.heap.size,_,none⟩) (by show V.heap.size<_;have:=JX.out;omega)).trans this
       clear hb Ho Hq Hy
       go_wp2
       refine hK.out _ _ (Hf.out _ HP.out) (λhQ=>?_);clear hK K;refine rd 11 (λK hK=>?_);rw [if_pos (by rfl)]
       refine wp_append_lies (o := { dst := some 50, op := Op.call { callee := Callee.builtin Builtin.append, args := #[Operand.tmp 47, Operand.tmp 49], argTypes := #[70, 70] }, type := 70, pos := "ostler.go:76", after := #[{ on := 8, ground := Ground.data }, { on := 10, ground := Ground.data }, { on := 8, ground := Ground.chain }], guard := none }) _ _ _ 70 rfl Z5.heap.size 47 i0 (.agg #[.string ByteArray.empty, .int .i64 0, .slice none 0 0]) 3 48 Tryz.underlying70 hi Jl Jy Jo rfl (by decide) (.slice va l.length vc) _ _ rfl Jp.out ⟨_, 0, none⟩ 1 1 (dG (⟨p.nm, p.pr, []⟩, .slice ca p.cs.length cc)) rfl rfl jl.out (oC _ _ _ _ _) (by decide) (by unfold maxLen; omega) (by omega) (by have := h8.out.size; omega) P6.heap.size rfl ?_
       intro g' cap' W4 Hb Ha hU HU;have HO:∀ j,(Value.slice va l.length vc).ownBlock=some j->Z5.heap.size<=j:=λj hj=>(Jp.out.lt j hj).1
       have Hw:Hid (Below X.heap.size X W4):=HP.out.grown Ha HP.out.size (λj hj=>by have:=HO j hj;omega);have jn:Hid (Below Z5.heap.size Z5 W4):=h8.out.grown Ha h8.out.size (λj hj=>HO j hj);have hW:Hid (eH W4 (.slice (some ⟨g',0,none⟩) (l.length+1) cap') (t.hs.map Hd.pod++[p])):=o8 (base:=Z5.heap.size) ⟨l++[(p,.slice ca p.cs.length cc)],by rw [Qj,jr.out];rfl,by rw [oA,Q2];exact Hb,λx hx=>by
        rcases Qi.1 hx with hx|hx
        ·exact (J7.out x hx).below jn.out
        ·rw [Qm.1 hx];exact H1.out.below Hw.out⟩
       clear Hb Ha hU HU HO;refine hK.out _ _ (Hf.out _ Hw.out) (λhQ=>?_);clear hK K;(try simp only [Act.put,s1,s2,s3]);refine rd 12 (λK hK=>?_);go_simp
       go_wp2_with fail
       refine (rA (.pointer (some ⟨tb,0,none⟩)) t.m.op t.m.nd t.m.nb t.m.pol _ (t.hs.map Hd.pod++[p]) W4 hW.out hI hN.out hO HM.out).mono ?_;rintro e Q8 ⟨rfl,hb⟩;have Hj:=qI (Hw.out.trans (hb.mono Hw.out.size));clear hb
       go_wp2
       refine hK.out _ _ (Hf.out _ Hj.out) (λhQ=>?_);clear hK K;refine tk 13 ?_;refine Qn (by kernel_rfl) ?_ _;clear hQ
       go_wp2
       go_meet
       exact ⟨by unfold Ol.room;rw [Bool.not_and],Hj.out⟩
     case rest=>
      clear hN hI HM;obtain ⟨rfl,Hm⟩:=hcut;have Hk:=qI Hm;clear Hm Hs;generalize wc=W5 at *
      rcases two (Ol.room t.m (t.hs.map Hd.pod++[p])) with hr|hr
      ·have HR:=qI hr;rw [hr];clear hr;have x7:W5.cell? ⟨Ba,7,none⟩=some (.slice ha t.hs.length hc):=(Hf.out _ Hk.out).2.2.2.2.2.1;have hY:=qI (sw Ba tb t.m Bd Be (.slice ha t.hs.length hc) s.cp pb db ao pc t.ds s.us (.slice ha t.hs.length hc) t.hs W5 (Ht.out.below Hk.out) (JY.out.below Hk.out) he.out (hP.out.below Hk.out) hO H4.out (by omega));rw [Hv.out] at hY
       go_wp2_with fail
       refine hY.out.mono ?_;rintro e W6 ⟨⟨pb',db',ao',pc',rfl,HC,je,hw⟩,hX⟩;have jv:X.heap.size<=W5.heap.size:=Hk.out.size;have H9:=qI HC;have HP:=qI (Hk.out.trans (hX.mono Hk.out.size));have JL:=HC.pool.lt;have hS:=qI hw;have jE:=hX.size;clear hX HC hw hY x7;unfold sV;dsimp only;have hA:=qI (HP.out.alloc HP.out.size (nz s pb'));have hf:=qI ((Q0 W6.heap.size W6).alloc (lR) (nz s pb'));have HY:=qI (Ht.out.below hA.out);have hJ:=qI ((hA.out.block w.heap.size (by omega)).trans hF.out);have Jc:=qI (aF W6 (nz s pb') rfl);have js:(W6.alloc (nz s pb')).heap.size=W6.heap.size+1:=by simp
       have hs:=qI (H9.out.below hf.out)
       go_upto_region 12 with fail
       generalize (W6.alloc (nz s pb'))=Y at *;have hT:Hid (∀ W,Below Y.heap.size Y W->(zW Ba tb t w.heap.size p ca cc W6.heap.size s pb') W):=λW hb=>⟨ad ((hb.block (Ba) (by omega)).trans HY.out) 0,ad ((hb.block (Ba) (by omega)).trans HY.out) 1,ad ((hb.block (Ba) (by omega)).trans HY.out) 2,ad ((hb.block (Ba) (by omega)).trans HY.out) 3,ad ((hb.block (Ba) (by omega)).trans HY.out) 4,ad ((hb.block (w.heap.size) (by omega)).trans hJ.out) 0,ad ((hb.block (w.heap.size) (by omega)).trans hJ.out) 1,ad ((hb.block (w.heap.size) (by omega)).trans hJ.out) 2,ad ((hb.block (W6.heap.size) (by omega)).trans Jc.out) 0,ad ((hb.block (W6.heap.size) (by omega)).trans Jc.out) 1⟩
       go_cut [10,11] (λx10 x11 wd=>∃ ua un uc,x10=.slice ua un uc/\x11=ar ((Ol.give t.m s p).1:Nat)/\((Ol.give t.m s p).1=0->bl (fresh X.heap.size wd) (.slice ua un uc) (Ol.give t.m s p).2)/\Below X.heap.size X wd)
       case first=>
        have Hc:Hid (Below Y.heap.size Y Y.drew):=a6 (Q0 _ _);refine Qo (by kernel_rfl) (hT.out _ Hc.out) (λhQ=>?_);generalize Y.drew=V at *;refine tk 0 ?_;refine tk 1 ?_;refine tk 2 ?_;refine tk 3 ?_;refine tk 4 ?_;refine tk 5 ?_;refine rd 6 (λK hK=>?_);go_simp
        go_wp2_with fail
        have hL:=qI (hA.out.trans (Hc.out.mono hA.out.size));have jt:=Hc.out.size;refine (Lu t.m s tb b 0 tc pb' db' ao' pc' p (.slice ca p.cs.length cc) V (L4 JV.out hL.out (by omega)) (hs.out.below Hc.out) (H1.out.le (mv hL.out rfl (λj hj=>by omega))) He.out).mono ?_;rintro e V2 ⟨⟨ua,un,uc,rfl,hl⟩,Hn⟩;have HZ:Hid ((Ol.give t.m s p).1=0->bl (fresh X.heap.size V2) (.slice ua un uc) (Ol.give t.m s p).2):=λh=>(hl h).le (lj (λ_ _ _=>rfl) (lR) (by omega))
        have JN:Hid (Below X.heap.size X V2):=hL.out.grown Hn hL.out.size (λj hj=>by injection hj with hj;omega);have Jq:(zW Ba tb t w.heap.size p ca cc W6.heap.size s pb') V2:=by
         obtain ⟨q0,q1,q2,q3,q4,q5,q6,q7,q8,q9⟩:=hT.out _ Hc.out;have Hr:∀ j,j<X.heap.size\/j=W6.heap.size->some j≠some pb':=λj hj e=>by injection e with e;omega
         exact ⟨(Hn.cell_far ⟨Ba,0,none⟩ (by show Ba<_;omega) (Hr (Ba) (by omega))).trans q0,(Hn.cell_far ⟨Ba,1,none⟩ (by show Ba<_;omega) (Hr (Ba) (by omega))).trans q1,(Hn.cell_far ⟨Ba,2,none⟩ (by show Ba<_;omega) (Hr (Ba) (by omega))).trans q2,(Hn.cell_far ⟨Ba,3,none⟩ (by show Ba<_;omega) (Hr (Ba) (by omega))).trans q3,(Hn.cell_far ⟨Ba,4,none⟩ (by show Ba<_;omega) (Hr (Ba) (by omega))).trans q4,(Hn.cell_far ⟨w.heap.size,0,none⟩ (by show w.heap.size<_;omega) (Hr (w.heap.size) (by omega))).trans q5,(Hn.cell_far ⟨w.heap.size,1,none⟩ (by show w.heap.size<_;omega) (Hr (w.heap.size) (by omega))).trans q6,(Hn.cell_far ⟨w.heap.size,2,none⟩ (by show w.heap.size<_;omega) (Hr (w.heap.size) (by omega))).trans q7,(Hn.cell_far ⟨W6.heap.size,0,none⟩ (by show W6.heap.size<_;omega) (Hr (W6.heap.size) (by omega))).trans q8,(Hn.cell_far ⟨W6.heap.size,1,none⟩ (by show W6.heap.size<_;omega) (Hr (W6.heap.size) (by omega))).trans q9⟩
        clear Hn hl
        go_wp2
        refine hK.out _ _ Jq (λhQ=>?_);clear hK K;clear Jq;refine tk 7 ?_;refine tk 8 ?_;refine tk 9 ?_;refine tk 10 ?_;refine tk 11 ?_;refine Qn (by kernel_rfl) ?_ _;clear hQ
        go_wp2
        go_meet
        exact ⟨_,_,_,rfl,rfl,HZ.out,JN.out⟩
       case rest=>
        obtain ⟨ua,un,uc,rfl,rfl,hl,Hm⟩:=hcut;have Hw:=qI Hm;have HZ:=qI hl;have jw:X.heap.size<=wc.heap.size:=Hm.size;clear Hm hl hT hs Jc hJ HY hf hA HP H9 hS;generalize wc=W7 at *
        by_cases hG:(Ol.give t.m s p).1=0
        ·have HG:=qI hG;have HZ:=qI (HZ.out hG);rw [hG,show ar (((0:Nat)):Int)=.nilIface from rfl];clear hG;have HB:=qI (LZ hm.out Hv.out He.out HH.out Hh HG.out)
         go_upto_region 15 with fail
         go_cut [12] (λx12 wd=>∃ va vn vc,x12=.slice va vn vc/\aQ (ah (four N Ba Bd Bm) wd) (.slice va vn vc) (Ol.bE t.hs ⟨p,(Ol.give t.m s p).2⟩)/\Below X.heap.size X wd)
         case first=>
          have Hc:Hid (Below X.heap.size X W7.drew):=a6 Hw.out;have JJ:Hid (bl (fresh X.heap.size W7.drew) (.slice ua un uc) (Ol.give t.m s p).2):=HZ.out.le (xB (a6 (Q0 _ _)) (lR));refine Qo (by kernel_rfl) (Hf.out _ Hc.out) (λhQ=>?_);generalize W7.drew=V at *;refine tk 0 ?_;refine tk 1 ?_;refine tk 2 ?_;refine tk 3 ?_;refine tk 5 ?_;refine tk 6 ?_;refine tk 8 ?_;refine rd 4 (λK hK=>?_);go_simp
          go_wp2_with fail
          refine (xD (.slice ha t.hs.length hc) t.hs V (ah (four N Ba Bd Bm) w) jk.out ((cB _ _).trans (az.of_below (Hg.out _ Hc.out))) (by omega)).mono ?_;rintro e C1 ⟨u,cvv,gvv,rfl,H2,JD,hb⟩;obtain ⟨l,Ho,Hq,Hy⟩:=zI H2 JD;obtain ⟨va,vc,hu⟩:=fH Hq;subst hu;have jG:l.length<=12:=by have:=congrArg List.length Ho;simp at this;omega
          have HL:=qI Ho;have HI:=qI Hy;have Jx:=qI hb;have HS:=qI (Hc.out.trans (hb.mono Hc.out.size));have H3:Hid (∀ j,(Value.slice va l.length vc).ownBlock=some j->V.heap.size<=j/\j<C1.heap.size):=λj hj=>Hq.lt j hj
          have jj:=qI Hq;have jz:=Hc.out.size;have jH:=hb.size;clear H2 JD hb Ho Hq Hy
          go_wp2
          refine hK.out _ _ (Hf.out _ HS.out) (λhQ=>?_);clear hK K;refine rd 7 (λK hK=>?_);go_simp
          go_wp2_with fail
          refine (yx p.nm p.pr p.cs (.slice ca p.cs.length cc) C1 (H1.out.below HS.out) (by have:=(Sv.fE He.out).2.2.1;omega) (λq hq=>by have:=((Sv.fE He.out).2.2.2 (ct p.cs q) (Ost.dY _ _ _ hq)).2.2.2.2.2.1;omega)).mono ?_;rintro e C2 ⟨pa,pcc,rfl,Jj,Hz⟩;have HJ:=qI (HS.out.trans (Hz.mono HS.out.size));have JC:=qI (Jx.out.trans (Hz.mono Jx.out.size));have J4:=qI Jj;have hQ':=qI (m6 jj.out (λg hg=>Hz.block g (H3.out g hg).2));have jF:=Hz.size;clear Jj Hz
          go_wp2
          refine hK.out _ _ (Hf.out _ HJ.out) (λhQ=>?_);clear hK K;refine tk 9 ?_;have hD:=qI (HJ.out.alloc HJ.out.size (kG p pa pcc ua un uc));have JA:=qI (JC.out.alloc JC.out.size (kG p pa pcc ua un uc));have jq:=qI (aF C2 (kG p pa pcc ua un uc) rfl);have JB:=qI (zn C2 (⟨p,(Ol.give t.m s p).2⟩,.slice pa p.cs.length pcc,.slice ua un uc) 57);dsimp only at JB;have JE:Hid ((C2.alloc (kG p pa pcc ua un uc)).heap.size=C2.heap.size+1):=by unfold Hid;simp
          have Jb:=qI (hQ'.out.alloc (kG p pa pcc ua un uc));have JS:=qI ((Q0 C2.heap.size C2).alloc (lR) (kG p pa pcc ua un uc));refine rd 10 (λK hK=>?_);go_simp
          go_wp2
          refine hK.out _ _ (Hf.out _ hD.out) (λhQ=>?_);clear hK K;generalize C2.alloc (kG p pa pcc ua un uc)=C3 at *;refine rd 11 (λK hK=>?_);go_simp
          go_wp2_with fail
          refine (h5.out l HL.out V.heap.size (.slice va l.length vc) (⟨p,(Ol.give t.m s p).2⟩,.slice pa p.cs.length pcc,.slice ua un uc) ⟨C2.heap.size,0,none⟩ C3 Jb.out JB.out (sA _ _ _ _ _ _ _) (by have:=JE.out;omega) (λe=>by have:=(H3.out _ e).2;have e':C2.heap.size<C1.heap.size:=this;omega) ⟨_,_,jq.out⟩ (λx hx=>L6 (HI.out x hx))).mono ?_;rintro e C4 ⟨v',rfl,Hb,Ha⟩;obtain ⟨va',vc',jb⟩:=fH Hb;subst jb;have h4:Hid (Below X.heap.size X C4):=hD.out.grown Ha hD.out.size (λj hj=>by have:=(H3.out j hj).1;omega);have Jr:Hid (Below V.heap.size V C4):=JA.out.grown Ha JA.out.size (λj hj=>(H3.out j hj).1);have H0:Hid (aQ (ah (four N Ba Bd Bm) C4) (.slice va' (l.length+1) vc') (Ol.bE t.hs ⟨p,(Ol.give t.m s p).2⟩)):=by
           have jC:=Ha.size;have jI:=JE.out;have q1:aD (ah (four N Ba Bd Bm) C4) (.slice pa p.cs.length pcc) p.cs:=J4.out.le (bn (λj hj hn=>by
            have hn:¬ j<C1.heap.size:=hn;refine ⟨λe=>by have:=h2.out j e;omega,(Ha.block j (by omega) (λe=>by have:=(H3.out j e.symm).2;omega)).trans (JS.out.block j hj)⟩) (by omega))
           have q2:bl (ah (four N Ba Bd Bm) C4) (.slice ua un uc) (Ol.give t.m s p).2:=JJ.out.le (bn (λj hj hn=>by
            have hn:¬ j<X.heap.size:=hn;exact ⟨λe=>by have:=h2.out j e;omega,Jr.out.block j hj⟩) Jr.out.size)
           have:=L7 (y:=(⟨p,(Ol.give t.m s p).2⟩,.slice pa p.cs.length pcc,.slice ua un uc)) Hb h2.out (by omega) HI.out (Hg.out _ h4.out) q1 q2
           rw [HL.out] at this;exact this
          clear Hb Ha
          go_wp2
          refine hK.out _ _ (Hf.out _ h4.out) (λhQ=>?_);clear hK K;refine tk 12 ?_;refine Qn (by kernel_rfl) ?_ _;clear hQ
          go_wp2
          go_meet
          exact ⟨_,_,_,rfl,H0.out,h4.out⟩
         case rest=>
          obtain ⟨va,vn,vc,rfl,JF,Hm⟩:=hcut;have H0:=qI JF;have Hj:=qI Hm;have jx:X.heap.size<=wc.heap.size:=Hm.size;clear JF Hm HZ Hw;generalize wc=W8 at *;have HF:=qI HB.out.1;have hB:=qI (xf Hp.out HF.out);have x5:W8.cell? ⟨Ba,5,none⟩=some (.pointer (some ⟨Bd,0,none⟩)):=ad ((Hj.out.block Ba (by omega)).trans Ht.out) 5;have J9:Hid (be W8 Bd dk):=yF (HE.out.below (Hg.out _ Hj.out)).disk Hp.out;have hH:=qI (xd Bd dk (.slice va vn vc) (Ol.bE t.hs ⟨p,(Ol.give t.m s p).2⟩) W8 J9.out (.inl Hp.out.2.2) (H0.out.le (cB _ _)) (HT.out.below (Hg.out _ Hj.out)))
          by_cases hlong:6000<(aI (Ol.bE t.hs ⟨p,(Ol.give t.m s p).2⟩)).length
          ·rw [hB.out.2.1 hlong,show ar (((2:Nat)):Int)=.iface 121 (.int .i64 2) from rfl] at hH;have hC:=qI hlong;clear hlong
           go_wp2_with fail
           refine hH.out.mono ?_;rintro e W9 ⟨rfl,HW,Hu⟩;have Jz:=qI HW;have HK:=qI Hu;clear HW Hu x5
           go_wp2
           go_ret;exact ⟨by rw [zF He.out HH.out Hh HR.out Hv.out HG.out hC.out];rfl,L8 HD.out (Hg.out _ Hj.out) HK.out Jz.out hB.out.2.2 (zF He.out HH.out Hh HR.out Hv.out HG.out hC.out)⟩
          ·rw [hB.out.1 (by omega),show ar (((0:Nat)):Int)=.nilIface from rfl] at hH;have hC:=qI hlong;clear hlong
           go_wp2_with fail
           refine hH.out.mono ?_;rintro e W9 ⟨rfl,HW,Hu⟩;have Jz:=qI HW;have HK:=qI Hu;have ju:=Hu.size;have JH:w.heap.size<=W8.heap.size:=(Hg.out _ Hj.out).size;have J2:Hid (bB W9 Be Bd Bm n (dk.save (Ol.bE t.hs ⟨p,(Ol.give t.m s p).2⟩)).2.n (dk.save (Ol.bE t.hs ⟨p,(Ol.give t.m s p).2⟩)).2.k (λa=>a∈au t.hs)):=sE (HE.out.below (Hg.out _ Hj.out)) Hu HW hB.out.2.2;have J3:Hid (aQ (ah (gr Bd Bm) W9) (.slice va vn vc) (Ol.bE t.hs ⟨p,(Ol.give t.m s p).2⟩)):=H0.out.le (bn (λj hj hn=>⟨λe=>hn (.inr (.inr e)),Hu.block j hj (λe=>hn (.inr (.inr (.inl (by injection e)))))⟩) Hu.size);have Js:Hid (bi W9 Ba tb t.m Bd Be (.slice ha t.hs.length hc) s.cp pb):=(Hu.block Ba (by omega) (λe=>ab1 (by injection e))).trans (Ht.out.below Hj.out);have x6:W9.cell? ⟨Ba,6,none⟩=some (.pointer (some ⟨Be,0,none⟩)):=ad Js.out 6;have jf:=qI (se Be Bd Bm n (dk.save (Ol.bE t.hs ⟨p,(Ol.give t.m s p).2⟩)).2.n (dk.save (Ol.bE t.hs ⟨p,(Ol.give t.m s p).2⟩)).2.k (au t.hs) (.slice va vn vc) (Ol.bE t.hs ⟨p,(Ol.give t.m s p).2⟩) W9 J2.out J3.out HF.out hn);clear HW Hu x5
           go_wp2_with fail
           refine jf.out.mono ?_;rintro e W10 ⟨rfl,⟨n',Jk,ho⟩,Hl⟩;have hV:=qI ho;have H6:Hid (bi W10 Ba tb t.m Bd Be (.slice ha t.hs.length hc) s.cp pb):=(Hl.block Ba (by omega) ab1 ab2).trans Js.out;have jc:=Hl.size;have h3:=qI Hl;have JM:=qI Jk;have h6:=h7.out.pool.lt;have H8:Hid (∀ j,j<w.heap.size->¬ (four N Ba Bd Bm) j->W10.heap[j]?=w.heap[j]?):=λj hj hn=>(Hl.block j (by omega) (λe=>hn (.inr (.inr (.inl e)))) (λe=>hn (.inr (.inr (.inr e))))).trans ((HK.out.block j (by omega) (λe=>hn (.inr (.inr (.inl (by injection e)))))).trans ((Hg.out _ Hj.out).block j hj))
           have H5:Hid (ap W10 pb db ao pc t.ds s.us):=by
            have:=lD h7.out.pool (H8.out pb h6 Jm.out) (λh0=>H8.out db (h7.out.pool.at0 h0).2.2 (Jw.out h0)) (by omega)
            rw [Ol.gV Hv.out] at this;exact this
           have Jd:Hid (aQ (ah (λj=>j=Ba) W10) (.slice va vn vc) (Ol.bE t.hs ⟨p,(Ol.give t.m s p).2⟩)):=H0.out.le (bn (λj hj hn=>⟨λe=>hn (.inr (.inl e)),(Hl.block j (by omega) (λe=>hn (.inr (.inr (.inl e)))) (λe=>hn (.inr (.inr (.inr e))))).trans (HK.out.block j hj (λe=>hn (.inr (.inr (.inl (by injection e))))))⟩) (by omega));obtain ⟨s',Jg⟩:=HB.out.2.1;have Jn:=qI Jg;have hk:jN (Ol.bE t.hs ⟨p,(Ol.give t.m s p).2⟩):=(Ol.bY.1 HF.out).2.1;have Hx:(Ol.bE t.hs ⟨p,(Ol.give t.m s p).2⟩).length<=100:=by have:=(Ol.bY.1 HF.out).1;omega
           have JR:=qI (sx Ba tb t.m Bd Be (.slice ha t.hs.length hc) s.cp pb db ao pc t.ds s.us (.slice va vn vc) (Ol.bE t.hs ⟨p,(Ol.give t.m s p).2⟩) s' W10 H6.out ⟨_,_,_,rfl⟩ H5.out (λe=>Jm.out (.inr (.inl e))) (λh0 e=>Jw.out (by rw [Ol.gV Hv.out];exact h0) (.inr (.inl e))) he.out Jd.out hO hk Hx Jg);clear ho Hl Jk x6 Jg hk Hx
           go_wp2_with fail
           refine JR.out.mono ?_;have hy:Hid (w.heap.size<=W10.heap.size):=(((Apart.of_below (Hg.out _ Hj.out)).trans (ey HK.out (K:=three Ba Bd Bm) (λj e _=>.inr (.inl (by injection e with e;exact e.symm))))).trans (sD h3.out)).size;rintro e W11 ⟨rfl,⟨pb2,db2,ao2,c2,h9,hR,Ju,Ja⟩,Hi⟩;have hZ:Hid (aA W11 N Ba Bd Be Bm ⟨t.m,t.ds,(Ol.bE t.hs ⟨p,(Ol.give t.m s p).2⟩)⟩ (dk.save (Ol.bE t.hs ⟨p,(Ol.give t.m s p).2⟩)).2 n'):=HD.out.next (Hg.out _ Hj.out) (nr JO.out H7.out (λj hj hn=>(Hg.out _ Hj.out).block j hj) JH) H7.out H0.out HK.out h3.out Hi h9 hR Ju Ja hV.out H6.out ⟨hm.out.devs,HF.out,⟨_,Jn.out⟩⟩ Jn.out hB.out.2.2 (by have:=hC.out;omega);have jd:Hid (eX w W11 Ba):=.inr (sy h9 hR (by have:=hy.out;omega) (λh0=>by have:=hy.out;have:=Ja h0;omega));have J1:Hid (Apart (three Ba Bd Bm) w W11):=(((Apart.of_below (Hg.out _ Hj.out)).trans (ey HK.out (λj e _=>.inr (.inl (by injection e with e;exact e.symm))))).trans (sD h3.out)).trans ⟨Hi.os,Hi.tape,Hi.output,Hi.size,λj hj hn=>Hi.block j hj (λe=>hn (.inl e))⟩;clear h9 hR Ju Ja Hi
           go_wp2
           go_ret;have hz:=L0 He.out HH.out Hh HR.out Hv.out HG.out hC.out;exact ⟨by rw [hz];rfl,by rw [hz];exact ⟨_,n',⟨JM.out,jd.out⟩,hZ.out⟩,J1.out⟩
        ·have HG:=qI hG;rw [ei hG];clear hG
         go_wp2
         go_ret;exact ⟨by rw [zE He.out HH.out Hh HR.out Hv.out HG.out,ei HG.out];rfl,nu HD.out (Hg.out _ Hw.out) (zE He.out HH.out Hh HR.out Hv.out HG.out)⟩
      ·have HR:=qI hr;rw [hr];clear hr
       go_wp2
       go_ret;exact ⟨by rw [oR He.out HH.out Hh HR.out];rfl,nu HD.out (Hg.out _ Hk.out) (oR He.out HH.out Hh HR.out)⟩
 ·have He:=qI hpF;rw [ei hpF];clear hpF
  go_wp2
  go_ret;exact ⟨by rw [zB He.out,ei He.out];rfl,nu HD.out (Hg.out _ HX.out) (zB He.out)⟩
end
