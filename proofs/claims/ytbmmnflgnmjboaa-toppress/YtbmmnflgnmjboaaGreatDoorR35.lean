import Derived.Test.YtbmmnflgnmjboaaGreatDoorR31
set_option maxRecDepth 100000
set_option maxHeartbeats 16000000
namespace Go.Proofs.YtbmmnflgnmjboaaGreatDoor
section
open RowKit Shelf
open Qos (Nd Ct Pd nd ct pd af)
open Sv (Gv Hd gv hd gsF aB aF)
open Dvs (Dv dv aW)
attribute [local go_sem] Oper.semAt_some
abbrev dV:=λ(x0:Pd) (x1:Option Addr) (x2:Nat)=>(.cells #[.string x0.nm,.int .i64 x0.pr,.slice x1 x0.cs.length x2] 47:Obj)
abbrev kG:=λ(x0:Pd) (x1:Option Addr) (x2:Nat) (x3:Option Addr) (x4 x5:Nat)=>(.cells #[.string x0.nm,.int .i64 x0.pr,.slice x1 x0.cs.length x2,.slice x3 x4 x5] 57:Obj)
abbrev nC:=λ(x0:Ol.Sk) (x1:Nat)=>(.cells #[.int .u64 x0.cp,.pointer (some ⟨x1,0,none⟩)] 98:Obj)
abbrev MM:=λ(Ba tb:Nat) (t:Ol.St) (ha:Option Addr) (hc y5:Nat) (p:Pd) (ca:Option Addr) (cc:Nat) (w':World)=>w'.cell? ⟨Ba,0,none⟩=some (.pointer (some ⟨tb,0,none⟩))/\w'.cell? ⟨Ba,1,none⟩=some (.int .u64 t.m.op)/\w'.cell? ⟨Ba,2,none⟩=some (.int .u8 t.m.nd)/\w'.cell? ⟨Ba,3,none⟩=some (.int .i64 t.m.nb)/\w'.cell? ⟨Ba,4,none⟩=some (.int .i64 t.m.pol)/\w'.cell? ⟨Ba,7,none⟩=some (.slice ha t.hs.length hc)/\w'.cell? ⟨y5,0,none⟩=some (.string p.nm)/\w'.cell? ⟨y5,1,none⟩=some (.int .i64 p.pr)/\w'.cell? ⟨y5,2,none⟩=some (.slice ca p.cs.length cc)
abbrev zS:=λ(Ba tb:Nat) (t:Ol.St) (y3:Nat) (p:Pd) (ca:Option Addr) (cc y7:Nat) (s:Ol.Sk) (pb':Nat) (w':World)=>w'.cell? ⟨Ba,0,none⟩=some (.pointer (some ⟨tb,0,none⟩))/\w'.cell? ⟨Ba,1,none⟩=some (.int .u64 t.m.op)/\w'.cell? ⟨Ba,2,none⟩=some (.int .u8 t.m.nd)/\w'.cell? ⟨Ba,3,none⟩=some (.int .i64 t.m.nb)/\w'.cell? ⟨Ba,4,none⟩=some (.int .i64 t.m.pol)/\w'.cell? ⟨y3,0,none⟩=some (.string p.nm)/\w'.cell? ⟨y3,1,none⟩=some (.int .i64 p.pr)/\w'.cell? ⟨y3,2,none⟩=some (.slice ca p.cs.length cc)/\w'.cell? ⟨y7,0,none⟩=some (.int .u64 s.cp)/\w'.cell? ⟨y7,1,none⟩=some (.pointer (some ⟨pb',0,none⟩))
theorem zT (N:Nat->Prop) (Ba Bd Be Bm:Nat) (t:Ol.St) (dk:Dk) (n:Nat) (p:Pd) (cv:Value) (w:World) (hM:aK w N Ba Bd Be Bm t dk n) (hp:aE (ag (four N Ba Bd Bm) w) cv p.cs) (ht:ci w) (hn:n+36<=1000) (hins:∀ l:List (Hd × Value × Value),l.map Prod.fst=t.hs->sJ l (Ol.b8 t.hs p.nm)) :
  Calls Tryz.prog 23 #[.pointer (some ⟨Ba,0,none⟩),bG p cv] w λe w'=>e=.returned (au ((Ol.aR t p).1:Nat))/\(∃ dk' n',(n'<=n+dK (ap t.hs) (ap (Ol.aR t p).2)/\fK w w' Ba)/\aK w' N Ba Bd Be Bm ⟨t.m,t.ds,(Ol.aR t p).2⟩ dk' n')/\Apart (three Ba Bd Bm) w w':=by
 obtain ⟨i0,hi,Ji,Jy,Jo⟩:=info_parts qZ;have HP:=qI hM;obtain ⟨h1,Hx,HQ,hE,jq,Jt,hT,J8,tb,b,tc,hv,pb,db,ao,pc,s,k1,k2,k3,k4,k5,k6,k7⟩:=hM;obtain ⟨a1,a2,a3⟩:=Ol.bO.1 h1.held;have hk:Hid (jK t.hs):=a2;have h3:=qI a3;have H4:=qI h1;have Ho:=qI Hx;have hB:=qI HQ;have HE:=qI hE;have jL:=qI hT;have jy:=qI Jt;obtain ⟨el1,el2,el3⟩:=hE.lt;obtain ⟨ea1,ea2,ea3⟩:=hE.apart;obtain ⟨ab1,ab2,ab3⟩:=jq;have jA:=k1.lt;obtain ⟨ha,hc,jg,JK,JP⟩:=id k2;subst jg;obtain ⟨ca,cc,JR,JU,JY⟩:=id hp;subst JR;have JI:=qI k2;have jd:=qI k3;have Hv:=qI k4;have hU:=qI k5;have Ju:=qI k6;have Jk:=qI k7;have HT:=qI ht;have h5:=qI hins;have HK:=qI ((Q0 w.heap.size w).alloc (lR) (dV p ca cc));have hF:=qI (aD w (dV p ca cc) rfl);have jH:(w.alloc (dV p ca cc)).heap.size=w.heap.size+1:=by simp
 have Hr:Hid (bg (w.alloc (dV p ca cc)) Ba tb t.m Bd Be (.slice ha t.hs.length hc) s.cp pb):=k1.below HK.out;have hJ:Hid (aJ (w.alloc (dV p ca cc)) (.slice ha t.hs.length hc) t.hs):=(k2.le (cC _ _)).below HK.out;have ho:Hid (aE (w.alloc (dV p ca cc)) (.slice ca p.cs.length cc) p.cs):=(hp.le (cC _ _)).below HK.out;have J5:Hid (cK (w.alloc (dV p ca cc)) tb b 0 tc t.m):=(L5 k3 HQ).below HK.out;have J4:Hid (ak (w.alloc (dV p ca cc)) pb db ao pc t.ds s.us):=by unfold Hid;rw [<- Ol.iO k4];exact k5.pool.below HK.out
 have he:Hid (aW t.ds):=Dvs.gW h1.devs;have hH:=k3.op;have Jl:=qI (qJ p (.slice ca p.cs.length cc) (w.alloc (dV p ca cc)) ho.out);have Jf:Hid (∀ j,(four N Ba Bd Bm) j->j<w.heap.size):=λj hj=>by
  rcases hj with e|e|e|e
  ·exact hT j e
  all_goals omega
 clear h1 Hx HQ hE Jt hT J8 k1 k2 k3 k4 k5 k6 k7 a2 a3 JK JP JU JY hp ht hins;unfold bG
 go_enter Tryz.func23,Tryz.ntmps23
 go_wp2_with fail
 generalize (w.alloc (dV p ca cc))=X at *;refine Jl.out.mono ?_;rintro e W1 ⟨rfl,Jm⟩;have HX:=qI Jm;clear Jm Jl;have Hf:Hid (∀ W,Below X.heap.size X W->(MM Ba tb t ha hc w.heap.size p ca cc) W):=λW hb=>⟨aa ((hb.block (Ba) (by omega)).trans Hr.out) 0,aa ((hb.block (Ba) (by omega)).trans Hr.out) 1,aa ((hb.block (Ba) (by omega)).trans Hr.out) 2,aa ((hb.block (Ba) (by omega)).trans Hr.out) 3,aa ((hb.block (Ba) (by omega)).trans Hr.out) 4,aa ((hb.block (Ba) (by omega)).trans Hr.out) 7,aa ((hb.block (w.heap.size) (by omega)).trans hF.out) 0,aa ((hb.block (w.heap.size) (by omega)).trans hF.out) 1,aa ((hb.block (w.heap.size) (by omega)).trans hF.out) 2⟩
 have Hg:Hid (∀ W,Below X.heap.size X W->Below w.heap.size w W):=λW hb=>HK.out.trans (hb.mono HK.out.size)
 by_cases hpF:af p=0
 ·have He:=qI hpF;rw [hpF,show au (((0:Nat)):Int)=.nilIface from rfl];clear hpF
  go_upto_region 4 with fail
  go_cut [6,7] (λx6 x7 wc=>x6=.int .i64 (Ol.b8 t.hs p.nm:Nat)/\x7=.bool (cA t.hs p.nm)/\Below X.heap.size X wc)
  case first=>
   have Hc:Hid (Below X.heap.size X W1.drew):=a6 HX.out;refine Qo (by kernel_rfl) (Hf.out _ Hc.out) (λhQ=>?_);generalize W1.drew=V at *;refine tk 0 ?_;refine tk 1 ?_;refine tk 2 ?_;refine tk 3 ?_;refine tk 4 ?_;refine tk 5 ?_;refine rd 6 (λK hK=>?_);go_simp
   go_wp2_with fail
   refine (yA (.slice ha t.hs.length hc) t.hs p.nm V (hJ.out.below Hc.out) (by omega) h3.out).mono ?_;rintro e W2 ⟨rfl,Hy⟩;have HW:=qI (Hc.out.trans (Hy.mono Hc.out.size));clear Hy
   go_wp2
   refine hK.out _ _ (Hf.out _ HW.out) (λhQ=>?_);clear hK K;refine tk 7 ?_;refine tk 8 ?_;refine tk 9 ?_;refine tk 10 ?_;refine tk 11 ?_;refine Qn (by kernel_rfl) ?_ _;clear hQ
   go_wp2
   go_meet
   exact ⟨rfl,rfl,HW.out⟩
  case rest=>
   obtain ⟨rfl,rfl,Hm⟩:=hcut;have Hu:=qI Hm;clear Hm
   rcases two (cA t.hs p.nm) with hh|hh
   ·have HH:=qI hh;rw [hh];clear hh
    go_wp2
    go_ret;exact ⟨by rw [zy He.out HH.out];rfl,ny HP.out (Hg.out _ Hu.out) (zy He.out HH.out)⟩
   ·have HH:=qI hh;rw [hh];clear hh;have x7:wc.cell? ⟨Ba,7,none⟩=some (.slice ha t.hs.length hc):=(Hf.out _ Hu.out).2.2.2.2.2.1
    by_cases h12:12<=t.hs.length
    ·go_wp2
     go_ret;exact ⟨by rw [zA He.out HH.out h12];rfl,ny HP.out (Hg.out _ Hu.out) (zA He.out HH.out h12)⟩
    ·have Hh:t.hs.length<12:=by omega
     clear h12
     go_upto_region 9 with fail
     clear x7;have hO:Hid (∀ q∈t.hs.map Hd.pod++[p],Qos.bU q.cs):=λq hq=>by
      rcases Qi.1 hq with hq|hq
      ·obtain ⟨x,hx,rfl⟩:=Qk.1 hq;exact Qos.ju (hk.out x hx).1
      ·rw [Qm.1 hq];exact Qos.ju He.out
     have hI:(t.hs.map Hd.pod++[p]).length<=100:=by simp;omega
     have HN:=qI (oU hO.out hI)
     go_cut [52] (λx wd=>x=.bool (!Ol.room t.m (t.hs.map Hd.pod++[p]))/\Below X.heap.size X wd)
     case first=>
      have Hc:Hid (Below X.heap.size X wc.drew):=a6 Hu.out;refine Qo (by kernel_rfl) (Hf.out _ Hc.out) (λhQ=>?_);generalize wc.drew=V at *;refine tk 0 ?_;refine tk 1 ?_;refine tk 2 ?_;refine tk 3 ?_;refine tk 4 ?_;refine tk 5 ?_;refine tk 6 ?_;refine tk 7 ?_;refine tk 9 ?_;refine wpAnyH_ready (rs:=[8,10]) (by kernel_rfl) (by simp) (AllReadyH.cons rfl (λK hK=>?_) (AllReadyH.cons rfl (λK hK=>?_) AllReadyH.nil))
      ·go_simp
       go_wp2_with fail
       refine (zw (.slice ha t.hs.length hc) t.hs V (hJ.out.below Hc.out) (by omega)).mono ?_;rintro e P1 ⟨l,va,vc,rfl,Hp,Hq,HA,hb⟩;have JZ:=qI Hp;have jc:=qI Hq;have JX:=qI HA;have HC:=qI hb;have HX:=qI (Hc.out.trans (hb.mono Hc.out.size));have jl:=hb.size;have jo:=Hc.out.size;have JV:l.length<=12:=by have:=congrArg List.length Hp;simp at this;omega
       clear hb Hp Hq HA
       go_wp2
       refine hK.out _ _ (Hf.out _ HX.out) (λhQ=>?_);clear hK K;refine rd 10 (λK hK=>?_);have HW:=qI (HX.out.alloc HX.out.size (dV p ca cc));have jj:=qI (oD P1 p.nm p.pr (.slice ca p.cs.length cc) 47);have jI:Hid ((P1.alloc (dV p ca cc)).heap.size=P1.heap.size+1):=by unfold Hid;simp
       have JB:=qI (jc.out.alloc (dV p ca cc));have HD:=qI (HC.out.alloc HC.out.size (dV p ca cc));go_simp
       go_wp2
       refine hK.out _ _ (Hf.out _ HW.out) (λhQ=>?_);clear hK K;generalize P1.alloc (dV p ca cc)=Z2 at *;refine rd 11 (λK hK=>?_);rw [if_pos (by rfl)]
       refine wp_append_lies (o := { dst := some 50, op := Op.call { callee := Callee.builtin Builtin.append, args := #[Operand.tmp 47, Operand.tmp 49], argTypes := #[70, 70] }, type := 70, pos := "ostler.go:76", after := #[{ on := 8, ground := Ground.data }, { on := 10, ground := Ground.data }, { on := 8, ground := Ground.chain }], guard := none }) _ _ _ 70 rfl V.heap.size 47 i0 (.agg #[.string ByteArray.empty, .int .i64 0, .slice none 0 0]) 3 48 Tryz.underlying70 hi Ji Jy Jo rfl (by decide) (.slice va l.length vc) _ _ rfl JB.out ⟨_, 0, none⟩ 1 1 (dH (⟨p.nm, p.pr, []⟩, .slice ca p.cs.length cc)) rfl rfl jj.out (oE _ _ _ _ _) (by decide) (by unfold maxLen; omega) (by omega) (by have := HD.out.size; omega) Z2.heap.size rfl ?_
       intro g' cap' W4 Hb Ha hR HS;have HU:∀ j,(Value.slice va l.length vc).ownBlock=some j->V.heap.size<=j:=λj hj=>(JB.out.lt j hj).1
       have Hu:Hid (Below X.heap.size X W4):=HW.out.grown Ha HW.out.size (λj hj=>by have:=HU j hj;omega);have H7:Hid (Below V.heap.size V W4):=HD.out.grown Ha HD.out.size (λj hj=>HU j hj);have Jg:Hid (du W4 (.slice (some ⟨g',0,none⟩) (l.length+1) cap') (t.hs.map Hd.pod++[p])):=pf (base:=V.heap.size) ⟨l++[(p,.slice ca p.cs.length cc)],by rw [Qj,JZ.out];rfl,by rw [oC,Q2];exact Hb,λx hx=>by
        rcases Qi.1 hx with hx|hx
        ·exact (JX.out x hx).below H7.out
        ·rw [Qm.1 hx];exact ho.out.below Hu.out⟩
       clear Hb Ha hR HS HU;refine hK.out _ _ (Hf.out _ Hu.out) (λhQ=>?_);clear hK K;(try simp only [Act.put,s1,s2,s3]);refine rd 12 (λK hK=>?_);go_simp
       go_wp2_with fail
       refine (rF (.pointer (some ⟨tb,0,none⟩)) t.m.op t.m.nd t.m.nb t.m.pol _ (t.hs.map Hd.pod++[p]) W4 Jg.out hI hO.out hH HN.out).mono ?_;rintro e Q4 ⟨rfl,hb⟩;have JH:=qI (Hu.out.trans (hb.mono Hu.out.size));clear hb
       go_wp2
       refine hK.out _ _ (Hf.out _ JH.out) (λhQ=>?_);clear hK K;refine tk 13 ?_;refine Qn (by kernel_rfl) ?_ _;clear hQ
       go_wp2
       go_meet
       exact ⟨by unfold Ol.room;rw [Bool.not_and],JH.out⟩
      ·have Hk:=qI (Hc.out.alloc Hc.out.size (dV p ca cc));have jr:=qI (oD V p.nm p.pr (.slice ca p.cs.length cc) 47);have J0:Hid ((V.alloc (dV p ca cc)).heap.size=V.heap.size+1):=by unfold Hid;simp
       go_simp
       go_wp2
       refine hK.out _ _ (Hf.out _ Hk.out) (λhQ=>?_);clear hK K;generalize V.alloc (dV p ca cc)=Z5 at *;refine rd 8 (λK hK=>?_);go_simp
       go_wp2_with fail
       refine (zw (.slice ha t.hs.length hc) t.hs Z5 (hJ.out.below Hk.out) (by omega)).mono ?_;rintro e P6 ⟨l,va,vc,rfl,Hp,Hq,HA,hb⟩;have ji:=qI Hp;have Jz:=qI Hq;have jk:=qI HA;have hV:=qI hb;have HO:=qI (Hk.out.trans (hb.mono Hk.out.size));have jn:=hb.size;have jm:=Hk.out.size;have JJ:l.length<=12:=by have:=congrArg List.length Hp;simp at this;omega
       have JL:Hid (∀ j u,(dH (⟨p.nm,p.pr,[]⟩,.slice ca p.cs.length cc))[j]?=some u->P6.cell? ((⟨V.heap.size,0,none⟩:Addr).add j)=some u):=λj u hu=>by have:=jr.out j u hu;rw [Addr.add_lit] at this ⊢;exact (hb.cell (p:=⟨V.heap.size,_,none⟩) (by show V.heap.size<_;have:=J0.out;omega)).trans this
       clear hb Hp Hq HA
       go_wp2
       refine hK.out _ _ (Hf.out _ HO.out) (λhQ=>?_);clear hK K;refine rd 11 (λK hK=>?_);rw [if_pos (by rfl)]
       refine wp_append_lies (o := { dst := some 50, op := Op.call { callee := Callee.builtin Builtin.append, args := #[Operand.tmp 47, Operand.tmp 49], argTypes := #[70, 70] }, type := 70, pos := "ostler.go:76", after := #[{ on := 8, ground := Ground.data }, { on := 10, ground := Ground.data }, { on := 8, ground := Ground.chain }], guard := none }) _ _ _ 70 rfl Z5.heap.size 47 i0 (.agg #[.string ByteArray.empty, .int .i64 0, .slice none 0 0]) 3 48 Tryz.underlying70 hi Ji Jy Jo rfl (by decide) (.slice va l.length vc) _ _ rfl Jz.out ⟨_, 0, none⟩ 1 1 (dH (⟨p.nm, p.pr, []⟩, .slice ca p.cs.length cc)) rfl rfl JL.out (oE _ _ _ _ _) (by decide) (by unfold maxLen; omega) (by omega) (by have := hV.out.size; omega) P6.heap.size rfl ?_
       intro g' cap' W4 Hb Ha hR HS;have HU:∀ j,(Value.slice va l.length vc).ownBlock=some j->Z5.heap.size<=j:=λj hj=>(Jz.out.lt j hj).1
       have HB:Hid (Below X.heap.size X W4):=HO.out.grown Ha HO.out.size (λj hj=>by have:=HU j hj;omega);have je:Hid (Below Z5.heap.size Z5 W4):=hV.out.grown Ha hV.out.size (λj hj=>HU j hj);have Jg:Hid (du W4 (.slice (some ⟨g',0,none⟩) (l.length+1) cap') (t.hs.map Hd.pod++[p])):=pf (base:=Z5.heap.size) ⟨l++[(p,.slice ca p.cs.length cc)],by rw [Qj,ji.out];rfl,by rw [oC,Q2];exact Hb,λx hx=>by
        rcases Qi.1 hx with hx|hx
        ·exact (jk.out x hx).below je.out
        ·rw [Qm.1 hx];exact ho.out.below HB.out⟩
       clear Hb Ha hR HS HU;refine hK.out _ _ (Hf.out _ HB.out) (λhQ=>?_);clear hK K;(try simp only [Act.put,s1,s2,s3]);refine rd 12 (λK hK=>?_);go_simp
       go_wp2_with fail
       refine (rF (.pointer (some ⟨tb,0,none⟩)) t.m.op t.m.nd t.m.nb t.m.pol _ (t.hs.map Hd.pod++[p]) W4 Jg.out hI hO.out hH HN.out).mono ?_;rintro e Q8 ⟨rfl,hb⟩;have Hi:=qI (HB.out.trans (hb.mono HB.out.size));clear hb
       go_wp2
       refine hK.out _ _ (Hf.out _ Hi.out) (λhQ=>?_);clear hK K;refine tk 13 ?_;refine Qn (by kernel_rfl) ?_ _;clear hQ
       go_wp2
       go_meet
       exact ⟨by unfold Ol.room;rw [Bool.not_and],Hi.out⟩
     case rest=>
      clear hO hI HN;obtain ⟨rfl,Hm⟩:=hcut;have Hk:=qI Hm;clear Hm Hu;generalize wc=W5 at *
      rcases two (Ol.room t.m (t.hs.map Hd.pod++[p])) with hr|hr
      ·have HR:=qI hr;rw [hr];clear hr;have x7:W5.cell? ⟨Ba,7,none⟩=some (.slice ha t.hs.length hc):=(Hf.out _ Hk.out).2.2.2.2.2.1;have h7:=qI (sB Ba tb t.m Bd Be (.slice ha t.hs.length hc) s.cp pb db ao pc t.ds s.us (.slice ha t.hs.length hc) t.hs W5 (Hr.out.below Hk.out) (J4.out.below Hk.out) he.out (hJ.out.below Hk.out) hH hk.out (by omega));rw [Hv.out] at h7
       go_wp2_with fail
       refine h7.out.mono ?_;rintro e W6 ⟨⟨pb',db',ao',pc',rfl,HJ,JO,hD⟩,Ja⟩;have jE:X.heap.size<=W5.heap.size:=Hk.out.size;have hw:=qI HJ;have HO:=qI (Hk.out.trans (Ja.mono Hk.out.size));have JS:=HJ.pool.lt;have Jc:=qI hD;have jx:=Ja.size;clear Ja HJ hD h7 x7;unfold sV;dsimp only;have H5:=qI (HO.out.alloc HO.out.size (nC s pb'));have hA:=qI ((Q0 W6.heap.size W6).alloc (lR) (nC s pb'));have HV:=qI (Hr.out.below H5.out);have hP:=qI ((H5.out.block w.heap.size (by omega)).trans hF.out);have hX:=qI (aD W6 (nC s pb') rfl);have ju:(W6.alloc (nC s pb')).heap.size=W6.heap.size+1:=by simp
       have hy:=qI (hw.out.below hA.out)
       go_upto_region 12 with fail
       generalize (W6.alloc (nC s pb'))=Y at *;have hW:Hid (∀ W,Below Y.heap.size Y W->(zS Ba tb t w.heap.size p ca cc W6.heap.size s pb') W):=λW hb=>⟨aa ((hb.block (Ba) (by omega)).trans HV.out) 0,aa ((hb.block (Ba) (by omega)).trans HV.out) 1,aa ((hb.block (Ba) (by omega)).trans HV.out) 2,aa ((hb.block (Ba) (by omega)).trans HV.out) 3,aa ((hb.block (Ba) (by omega)).trans HV.out) 4,aa ((hb.block (w.heap.size) (by omega)).trans hP.out) 0,aa ((hb.block (w.heap.size) (by omega)).trans hP.out) 1,aa ((hb.block (w.heap.size) (by omega)).trans hP.out) 2,aa ((hb.block (W6.heap.size) (by omega)).trans hX.out) 0,aa ((hb.block (W6.heap.size) (by omega)).trans hX.out) 1⟩
       go_cut [10,11] (λx10 x11 wd=>∃ ua un uc,x10=.slice ua un uc/\x11=au ((Ol.give t.m s p).1:Nat)/\((Ol.give t.m s p).1=0->bz (fresh X.heap.size wd) (.slice ua un uc) (Ol.give t.m s p).2)/\Below X.heap.size X wd)
       case first=>
        have Hc:Hid (Below Y.heap.size Y Y.drew):=a6 (Q0 _ _);refine Qo (by kernel_rfl) (hW.out _ Hc.out) (λhQ=>?_);generalize Y.drew=V at *;refine tk 0 ?_;refine tk 1 ?_;refine tk 2 ?_;refine tk 3 ?_;refine tk 4 ?_;refine tk 5 ?_;refine rd 6 (λK hK=>?_);go_simp
        go_wp2_with fail
        have hL:=qI (H5.out.trans (Hc.out.mono H5.out.size));have jF:=Hc.out.size;refine (Lt t.m s tb b 0 tc pb' db' ao' pc' p (.slice ca p.cs.length cc) V (L4 J5.out hL.out (by omega)) (hy.out.below Hc.out) (ho.out.le (mx hL.out rfl (λj hj=>by omega))) He.out).mono ?_;rintro e V2 ⟨⟨ua,un,uc,rfl,hf⟩,Hn⟩;have HY:Hid ((Ol.give t.m s p).1=0->bz (fresh X.heap.size V2) (.slice ua un uc) (Ol.give t.m s p).2):=λh=>(hf h).le (lm (λ_ _ _=>rfl) (lR) (by omega))
        have J2:Hid (Below X.heap.size X V2):=hL.out.grown Hn hL.out.size (λj hj=>by injection hj with hj;omega);have Jq:(zS Ba tb t w.heap.size p ca cc W6.heap.size s pb') V2:=by
         obtain ⟨q0,q1,q2,q3,q4,q5,q6,q7,q8,q9⟩:=hW.out _ Hc.out;have Hs:∀ j,j<X.heap.size\/j=W6.heap.size->some j≠some pb':=λj hj e=>by injection e with e;omega
         exact ⟨(Hn.cell_far ⟨Ba,0,none⟩ (by show Ba<_;omega) (Hs (Ba) (by omega))).trans q0,(Hn.cell_far ⟨Ba,1,none⟩ (by show Ba<_;omega) (Hs (Ba) (by omega))).trans q1,(Hn.cell_far ⟨Ba,2,none⟩ (by show Ba<_;omega) (Hs (Ba) (by omega))).trans q2,(Hn.cell_far ⟨Ba,3,none⟩ (by show Ba<_;omega) (Hs (Ba) (by omega))).trans q3,(Hn.cell_far ⟨Ba,4,none⟩ (by show Ba<_;omega) (Hs (Ba) (by omega))).trans q4,(Hn.cell_far ⟨w.heap.size,0,none⟩ (by show w.heap.size<_;omega) (Hs (w.heap.size) (by omega))).trans q5,(Hn.cell_far ⟨w.heap.size,1,none⟩ (by show w.heap.size<_;omega) (Hs (w.heap.size) (by omega))).trans q6,(Hn.cell_far ⟨w.heap.size,2,none⟩ (by show w.heap.size<_;omega) (Hs (w.heap.size) (by omega))).trans q7,(Hn.cell_far ⟨W6.heap.size,0,none⟩ (by show W6.heap.size<_;omega) (Hs (W6.heap.size) (by omega))).trans q8,(Hn.cell_far ⟨W6.heap.size,1,none⟩ (by show W6.heap.size<_;omega) (Hs (W6.heap.size) (by omega))).trans q9⟩
        clear Hn hf
        go_wp2
        refine hK.out _ _ Jq (λhQ=>?_);clear hK K;clear Jq;refine tk 7 ?_;refine tk 8 ?_;refine tk 9 ?_;refine tk 10 ?_;refine tk 11 ?_;refine Qn (by kernel_rfl) ?_ _;clear hQ
        go_wp2
        go_meet
        exact ⟨_,_,_,rfl,rfl,HY.out,J2.out⟩
       case rest=>
        obtain ⟨ua,un,uc,rfl,rfl,hf,Hm⟩:=hcut;have HB:=qI Hm;have HY:=qI hf;have jG:X.heap.size<=wc.heap.size:=Hm.size;clear Hm hf hW hy hX hP HV hA H5 HO hw Jc;generalize wc=W7 at *
        by_cases hG:(Ol.give t.m s p).1=0
        ·have HG:=qI hG;have HY:=qI (HY.out hG);rw [hG,show au (((0:Nat)):Int)=.nilIface from rfl];clear hG;have Hz:=qI (LZ H4.out Hv.out He.out HH.out Hh HG.out)
         go_upto_region 15 with fail
         go_cut [12] (λx12 wd=>∃ va vn vc,x12=.slice va vn vc/\aJ (ag (four N Ba Bd Bm) wd) (.slice va vn vc) (Ol.bB t.hs ⟨p,(Ol.give t.m s p).2⟩)/\Below X.heap.size X wd)
         case first=>
          have Hc:Hid (Below X.heap.size X W7.drew):=a6 HB.out;have J9:Hid (bz (fresh X.heap.size W7.drew) (.slice ua un uc) (Ol.give t.m s p).2):=HY.out.le (xE (a6 (Q0 _ _)) (lR));refine Qo (by kernel_rfl) (Hf.out _ Hc.out) (λhQ=>?_);generalize W7.drew=V at *;refine tk 0 ?_;refine tk 1 ?_;refine tk 2 ?_;refine tk 3 ?_;refine tk 5 ?_;refine tk 6 ?_;refine tk 8 ?_;refine rd 4 (λK hK=>?_);go_simp
          go_wp2_with fail
          refine (xG (.slice ha t.hs.length hc) t.hs V (ag (four N Ba Bd Bm) w) JI.out ((cC _ _).trans (aq.of_below (Hg.out _ Hc.out))) (by omega)).mono ?_;rintro e C1 ⟨u,cvv,gvv,rfl,hC,Js,hb⟩;obtain ⟨l,Hp,Hq,HA⟩:=zF hC Js;obtain ⟨va,vc,hu⟩:=fF Hq;subst hu;have jD:l.length<=12:=by have:=congrArg List.length Hp;simp at this;omega
          have HL:=qI Hp;have HI:=qI HA;have Jn:=qI hb;have HC:=qI (Hc.out.trans (hb.mono Hc.out.size));have hm:Hid (∀ j,(Value.slice va l.length vc).ownBlock=some j->V.heap.size<=j/\j<C1.heap.size):=λj hj=>Hq.lt j hj
          have jf:=qI Hq;have jv:=Hc.out.size;have jC:=hb.size;clear hC Js hb Hp Hq HA
          go_wp2
          refine hK.out _ _ (Hf.out _ HC.out) (λhQ=>?_);clear hK K;refine rd 7 (λK hK=>?_);go_simp
          go_wp2_with fail
          refine (yw p.nm p.pr p.cs (.slice ca p.cs.length cc) C1 (ho.out.below HC.out) (by have:=(Sv.fD He.out).2.2.1;omega) (λq hq=>by have:=((Sv.fD He.out).2.2.2 (ct p.cs q) (Ost.dX _ _ _ hq)).2.2.2.2.2.1;omega)).mono ?_;rintro e C2 ⟨pa,pcc,rfl,JF,Hy⟩;have HD:=qI (HC.out.trans (Hy.mono HC.out.size));have JA:=qI (Jn.out.trans (Hy.mono Jn.out.size));have jp:=qI JF;have h2:=qI (m8 jf.out (λg hg=>Hy.block g (hm.out g hg).2));have jB:=Hy.size;clear JF Hy
          go_wp2
          refine hK.out _ _ (Hf.out _ HD.out) (λhQ=>?_);clear hK K;refine tk 9 ?_;have H7:=qI (HD.out.alloc HD.out.size (kG p pa pcc ua un uc));have Jx:=qI (JA.out.alloc JA.out.size (kG p pa pcc ua un uc));have JQ:=qI (aD C2 (kG p pa pcc ua un uc) rfl);have Jp:=qI (zl C2 (⟨p,(Ol.give t.m s p).2⟩,.slice pa p.cs.length pcc,.slice ua un uc) 57);dsimp only at Jp;have JG:Hid ((C2.alloc (kG p pa pcc ua un uc)).heap.size=C2.heap.size+1):=by unfold Hid;simp
          have h6:=qI (h2.out.alloc (kG p pa pcc ua un uc));have J6:=qI ((Q0 C2.heap.size C2).alloc (lR) (kG p pa pcc ua un uc));refine rd 10 (λK hK=>?_);go_simp
          go_wp2
          refine hK.out _ _ (Hf.out _ H7.out) (λhQ=>?_);clear hK K;generalize C2.alloc (kG p pa pcc ua un uc)=C3 at *;refine rd 11 (λK hK=>?_);go_simp
          go_wp2_with fail
          refine (h5.out l HL.out V.heap.size (.slice va l.length vc) (⟨p,(Ol.give t.m s p).2⟩,.slice pa p.cs.length pcc,.slice ua un uc) ⟨C2.heap.size,0,none⟩ C3 h6.out Jp.out (sE _ _ _ _ _ _ _) (by have:=JG.out;omega) (λe=>by have:=(hm.out _ e).2;have e':C2.heap.size<C1.heap.size:=this;omega) ⟨_,_,JQ.out⟩ (λx hx=>L6 (HI.out x hx))).mono ?_;rintro e C4 ⟨v',rfl,Hb,Ha⟩;obtain ⟨va',vc',jh⟩:=fF Hb;subst jh;have Je:Hid (Below X.heap.size X C4):=H7.out.grown Ha H7.out.size (λj hj=>by have:=(hm.out j hj).1;omega);have Jr:Hid (Below V.heap.size V C4):=Jx.out.grown Ha Jx.out.size (λj hj=>(hm.out j hj).1);have HZ:Hid (aJ (ag (four N Ba Bd Bm) C4) (.slice va' (l.length+1) vc') (Ol.bB t.hs ⟨p,(Ol.give t.m s p).2⟩)):=by
           have jt:=Ha.size;have jz:=JG.out;have q1:aE (ag (four N Ba Bd Bm) C4) (.slice pa p.cs.length pcc) p.cs:=jp.out.le (bE (λj hj hn=>by
            have hn:¬ j<C1.heap.size:=hn;refine ⟨λe=>by have:=Jf.out j e;omega,(Ha.block j (by omega) (λe=>by have:=(hm.out j e.symm).2;omega)).trans (J6.out.block j hj)⟩) (by omega))
           have q2:bz (ag (four N Ba Bd Bm) C4) (.slice ua un uc) (Ol.give t.m s p).2:=J9.out.le (bE (λj hj hn=>by
            have hn:¬ j<X.heap.size:=hn;exact ⟨λe=>by have:=Jf.out j e;omega,Jr.out.block j hj⟩) Jr.out.size)
           have:=L7 (y:=(⟨p,(Ol.give t.m s p).2⟩,.slice pa p.cs.length pcc,.slice ua un uc)) Hb Jf.out (by omega) HI.out (Hg.out _ Je.out) q1 q2
           rw [HL.out] at this;exact this
          clear Hb Ha
          go_wp2
          refine hK.out _ _ (Hf.out _ Je.out) (λhQ=>?_);clear hK K;refine tk 12 ?_;refine Qn (by kernel_rfl) ?_ _;clear hQ
          go_wp2
          go_meet
          exact ⟨_,_,_,rfl,HZ.out,Je.out⟩
         case rest=>
          obtain ⟨va,vn,vc,rfl,Jj,Hm⟩:=hcut;have HZ:=qI Jj;have Hi:=qI Hm;have jw:X.heap.size<=wc.heap.size:=Hm.size;clear Jj Hm HY HB;generalize wc=W8 at *;have HF:=qI Hz.out.1;have H6:=qI (xl Ho.out HF.out);have x5:W8.cell? ⟨Ba,5,none⟩=some (.pointer (some ⟨Bd,0,none⟩)):=aa ((Hi.out.block Ba (by omega)).trans Hr.out) 5;have js:Hid (bf W8 Bd dk):=yE (HE.out.below (Hg.out _ Hi.out)).disk Ho.out;have hN:=qI (xi Bd dk (.slice va vn vc) (Ol.bB t.hs ⟨p,(Ol.give t.m s p).2⟩) W8 js.out (.inl Ho.out.2.2) (HZ.out.le (cC _ _)) (HT.out.below (Hg.out _ Hi.out)))
          by_cases hlong:6000<(aF (Ol.bB t.hs ⟨p,(Ol.give t.m s p).2⟩)).length
          ·rw [H6.out.2.1 hlong,show au (((2:Nat)):Int)=.iface 121 (.int .i64 2) from rfl] at hN;have hl:=qI hlong;clear hlong
           go_wp2_with fail
           refine hN.out.mono ?_;rintro e W9 ⟨rfl,H0,Ht⟩;have JE:=qI H0;have HM:=qI Ht;clear H0 Ht x5
           go_wp2
           go_ret;exact ⟨by rw [zC He.out HH.out Hh HR.out Hv.out HG.out hl.out];rfl,L8 HP.out (Hg.out _ Hi.out) HM.out JE.out H6.out.2.2 (zC He.out HH.out Hh HR.out Hv.out HG.out hl.out)⟩
          ·rw [H6.out.1 (by omega),show au (((0:Nat)):Int)=.nilIface from rfl] at hN;have hl:=qI hlong;clear hlong
           go_wp2_with fail
           refine hN.out.mono ?_;rintro e W9 ⟨rfl,H0,Ht⟩;have JE:=qI H0;have HM:=qI Ht;have jJ:=Ht.size;have J7:w.heap.size<=W8.heap.size:=(Hg.out _ Hi.out).size;have JW:Hid (bw W9 Be Bd Bm n (dk.save (Ol.bB t.hs ⟨p,(Ol.give t.m s p).2⟩)).2.n (dk.save (Ol.bB t.hs ⟨p,(Ol.give t.m s p).2⟩)).2.k (λa=>a∈ap t.hs)):=sI (HE.out.below (Hg.out _ Hi.out)) Ht H0 H6.out.2.2;have JM:Hid (aJ (ag (gk Bd Bm) W9) (.slice va vn vc) (Ol.bB t.hs ⟨p,(Ol.give t.m s p).2⟩)):=HZ.out.le (bE (λj hj hn=>⟨λe=>hn (.inr (.inr e)),Ht.block j hj (λe=>hn (.inr (.inr (.inl (by injection e)))))⟩) Ht.size);have Jw:Hid (bg W9 Ba tb t.m Bd Be (.slice ha t.hs.length hc) s.cp pb):=(Ht.block Ba (by omega) (λe=>ab1 (by injection e))).trans (Hr.out.below Hi.out);have x6:W9.cell? ⟨Ba,6,none⟩=some (.pointer (some ⟨Be,0,none⟩)):=aa Jw.out 6;have jb:=qI (so Be Bd Bm n (dk.save (Ol.bB t.hs ⟨p,(Ol.give t.m s p).2⟩)).2.n (dk.save (Ol.bB t.hs ⟨p,(Ol.give t.m s p).2⟩)).2.k (ap t.hs) (.slice va vn vc) (Ol.bB t.hs ⟨p,(Ol.give t.m s p).2⟩) W9 JW.out JM.out HF.out hn);clear H0 Ht x5
           go_wp2_with fail
           refine jb.out.mono ?_;rintro e W10 ⟨rfl,⟨n',Jv,H3⟩,Hl⟩;have h4:=qI H3;have H2:Hid (bg W10 Ba tb t.m Bd Be (.slice ha t.hs.length hc) s.cp pb):=(Hl.block Ba (by omega) ab1 ab2).trans Jw.out;have ja:=Hl.size;have Jh:=qI Hl;have J1:=qI Jv;have hS:=hU.out.pool.lt;have H9:Hid (∀ j,j<w.heap.size->¬ (four N Ba Bd Bm) j->W10.heap[j]?=w.heap[j]?):=λj hj hn=>(Hl.block j (by omega) (λe=>hn (.inr (.inr (.inl e)))) (λe=>hn (.inr (.inr (.inr e))))).trans ((HM.out.block j (by omega) (λe=>hn (.inr (.inr (.inl (by injection e)))))).trans ((Hg.out _ Hi.out).block j hj))
           have hs:Hid (ak W10 pb db ao pc t.ds s.us):=by
            have:=lE hU.out.pool (H9.out pb hS Ju.out) (λh0=>H9.out db (hU.out.pool.at0 h0).2.2 (Jk.out h0)) (by omega)
            rw [Ol.iO Hv.out] at this;exact this
           have Jb:Hid (aJ (ag (λj=>j=Ba) W10) (.slice va vn vc) (Ol.bB t.hs ⟨p,(Ol.give t.m s p).2⟩)):=HZ.out.le (bE (λj hj hn=>⟨λe=>hn (.inr (.inl e)),(Hl.block j (by omega) (λe=>hn (.inr (.inr (.inl e)))) (λe=>hn (.inr (.inr (.inr e))))).trans (HM.out.block j hj (λe=>hn (.inr (.inr (.inl (by injection e))))))⟩) (by omega));obtain ⟨s',hY⟩:=Hz.out.2.1;have JD:=qI hY;have H1:jK (Ol.bB t.hs ⟨p,(Ol.give t.m s p).2⟩):=(Ol.bO.1 HF.out).2.1;have Hw:(Ol.bB t.hs ⟨p,(Ol.give t.m s p).2⟩).length<=100:=by have:=(Ol.bO.1 HF.out).1;omega
           have JT:=qI (sC Ba tb t.m Bd Be (.slice ha t.hs.length hc) s.cp pb db ao pc t.ds s.us (.slice va vn vc) (Ol.bB t.hs ⟨p,(Ol.give t.m s p).2⟩) s' W10 H2.out ⟨_,_,_,rfl⟩ hs.out (λe=>Ju.out (.inr (.inl e))) (λh0 e=>Jk.out (by rw [Ol.iO Hv.out];exact h0) (.inr (.inl e))) he.out Jb.out hH H1 Hw hY);clear H3 Hl Jv x6 hY H1 Hw
           go_wp2_with fail
           refine JT.out.mono ?_;have hz:Hid (w.heap.size<=W10.heap.size):=(((Apart.of_below (Hg.out _ Hi.out)).trans (eu HM.out (K:=three Ba Bd Bm) (λj e _=>.inr (.inl (by injection e with e;exact e.symm))))).trans (sH Jh.out)).size;rintro e W11 ⟨rfl,⟨pb2,db2,ao2,c2,hZ,Jd,JC,h9⟩,Hj⟩;have h8:Hid (aK W11 N Ba Bd Be Bm ⟨t.m,t.ds,(Ol.bB t.hs ⟨p,(Ol.give t.m s p).2⟩)⟩ (dk.save (Ol.bB t.hs ⟨p,(Ol.give t.m s p).2⟩)).2 n'):=HP.out.next (Hg.out _ Hi.out) (nw jd.out hB.out (λj hj hn=>(Hg.out _ Hi.out).block j hj) J7) hB.out HZ.out HM.out Jh.out Hj hZ Jd JC h9 h4.out H2.out ⟨H4.out.devs,HF.out,⟨_,JD.out⟩⟩ JD.out H6.out.2.2 (by have:=hl.out;omega);have JN:Hid (fK w W11 Ba):=.inr (sD hZ Jd (by have:=hz.out;omega) (λh0=>by have:=hz.out;have:=h9 h0;omega));have J3:Hid (Apart (three Ba Bd Bm) w W11):=(((Apart.of_below (Hg.out _ Hi.out)).trans (eu HM.out (λj e _=>.inr (.inl (by injection e with e;exact e.symm))))).trans (sH Jh.out)).trans ⟨Hj.os,Hj.tape,Hj.output,Hj.size,λj hj hn=>Hj.block j hj (λe=>hn (.inl e))⟩;clear hZ Jd JC h9 Hj
           go_wp2
           go_ret;have H8:=L0 He.out HH.out Hh HR.out Hv.out HG.out hl.out;exact ⟨by rw [H8];rfl,by rw [H8];exact ⟨_,n',⟨J1.out,JN.out⟩,h8.out⟩,J3.out⟩
        ·have HG:=qI hG;rw [eh hG];clear hG
         go_wp2
         go_ret;exact ⟨by rw [zB He.out HH.out Hh HR.out Hv.out HG.out,eh HG.out];rfl,ny HP.out (Hg.out _ HB.out) (zB He.out HH.out Hh HR.out Hv.out HG.out)⟩
      ·have HR:=qI hr;rw [hr];clear hr
       go_wp2
       go_ret;exact ⟨by rw [oT He.out HH.out Hh HR.out];rfl,ny HP.out (Hg.out _ Hk.out) (oT He.out HH.out Hh HR.out)⟩
 ·have He:=qI hpF;rw [eh hpF];clear hpF
  go_wp2
  go_ret;exact ⟨by rw [zx He.out,eh He.out];rfl,ny HP.out (Hg.out _ HX.out) (zx He.out)⟩
end
