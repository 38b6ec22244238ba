import Derived.Test.YtjlblidnfebmiaaGreatDoorF39
set_option maxRecDepth 100000
set_option maxHeartbeats 16000000
open Go Go.RowKit Go.Shelf
attribute [local go_sem] Oper.semAt_some
open Go.Proofs.Tryz
namespace Go.Proofs.YtjlblidnfebmiaaGreatDoor
abbrev fK:=λ(x0:aj) (x1:Option Addr) (x2:Nat)=>(.cells #[x0.nm,(x0.pr:Int),.slice x1 x0.cs.length x2] 49:Obj)
abbrev oK:=λ(x0:aj) (x1:Option Addr) (x2:Nat) (x3:Option Addr) (x4 x5:Nat)=>(.cells #[x0.nm,(x0.pr:Int),.slice x1 x0.cs.length x2,.slice x3 x4 x5] 101:Obj)
abbrev r9:=λ(x0:aE) (x1:Nat)=>(.cells #[.int .u64 x0.cp,x1] 87:Obj)
abbrev uM:=λ(Ba tb:Nat) (t:bl) (ha:Option Addr) (hc y5:Nat) (p:aj) (ca:Option Addr) (cc:Nat) (w':World)=>cl w' Ba (0) tb/\cl w' Ba (1) (.int .u64 t.m.op)/\cl w' Ba (2) (.int .u8 t.m.nd)/\cl w' Ba (3) (t.m.nb:Int)/\cl w' Ba (4) (t.m.pol:Int)/\cl w' Ba (7) (.slice ha t.hs.length hc)/\cl w' y5 (0) p.nm/\cl w' y5 (1) (p.pr:Int)/\cl w' y5 (2) (.slice ca p.cs.length cc)
abbrev yD:=λ(Ba tb:Nat) (t:bl) (y3:Nat) (p:aj) (ca:Option Addr) (cc y7:Nat) (s:aE) (pb':Nat) (w':World)=>cl w' Ba (0) tb/\cl w' Ba (1) (.int .u64 t.m.op)/\cl w' Ba (2) (.int .u8 t.m.nd)/\cl w' Ba (3) (t.m.nb:Int)/\cl w' Ba (4) (t.m.pol:Int)/\cl w' y3 (0) p.nm/\cl w' y3 (1) (p.pr:Int)/\cl w' y3 (2) (.slice ca p.cs.length cc)/\cl w' y7 (0) (.int .u64 s.cp)/\cl w' y7 (1) pb'
theorem FH(N:Nat->Prop)(Ba Bd Be Bm:Nat)(t:bl)(dk:Dk)(n:Nat)(p:aj)(cv:Value)(w:World)(hM:aI w N Ba Bd Be Bm t dk n)(hp:aQ (au (four N Ba Bd Bm) w) cv p.cs)(ht:bJ w)(hn:n+36<=1000)(hins:∀l:List (af × Value × Value),l.map Prod.fst=t.hs->yz l (dD t.hs p.nm)) :
  Calls prog 19 #[Ba,cz p cv] w λe w'=>e=.returned (aJ ((bi t p).1:Nat))/\(∃dk' n',(n'<=n+dS (aN t.hs) (aN (bi t p).2)/\io w w' Ba)/\aI w' N Ba Bd Be Bm ⟨t.m,t.ds,(bi t p).2⟩ dk' n')/\Apart (three Ba Bd Bm) w w':=by
 obtain⟨i0,hi,Ju,JB,JA⟩:=info_parts xH;have HN:=qI hM;obtain⟨h1,Hx,HM,hE,jm,JC,Jc,J8,tb,b,tc,hv,pb,db,ao,pc,s,k1,k2,k3,k4,k5,k6,k7⟩:=hM;obtain⟨a1,a2,a3⟩:=cW.1 h1.held;have hf:Hu (lf t.hs):=a2;have hS:=qI a3;have H5:=qI h1;have Hg:=qI Hx;have he:=qI HM;have HE:=qI hE;have jJ:=qI Jc;have jK:=qI JC;obtain⟨el1,el2,el3⟩:=hE.lt;obtain⟨ea1,ea2,ea3⟩:=hE.apart;obtain⟨ab1,ab2,ab3⟩:=jm;have jx:=k1.lt;obtain⟨ha,hc,J9,jb,JR⟩:=id k2;subst J9;obtain⟨ca,cc,JK,J6,je⟩:=id hp;subst JK;have jo:=qI k2;have JP:=qI k3;have Hw:=qI k4;have h5:=qI k5;have Jn:=qI k6;have Jm:=qI k7;have HT:=qI ht;have h7:=qI hins;have HV:=qI ((Q0 w w).alloc (lR) (fK p ca cc));have hP:=qI (bd w (fK p ca cc) rfl);have jH:(w.alloc (fK p ca cc)).heap.size=w.heap.size+1:=by simp
 have Hr:Hu (bA (w.alloc (fK p ca cc)) Ba tb t.m Bd Be (.slice ha t.hs.length hc) s.cp pb):=k1.below HV.o;have hR:Hu (aY (w.alloc (fK p ca cc)) (.slice ha t.hs.length hc) t.hs):=(k2.le (cJ _ _)).below HV.o;have H8:Hu (aQ (w.alloc (fK p ca cc)) (.slice ca p.cs.length cc) p.cs):=(hp.le (cJ _ _)).below HV.o;have jp:Hu (dZ (w.alloc (fK p ca cc)) tb b 0 tc t.m):=(Vl k3 HM).below HV.o;have ji:Hu (aF (w.alloc (fK p ca cc)) pb db ao pc t.ds s.us):=by unfold Hu;rw[<- kP k4];exact k5.pool.below HV.o
 have hB:Hu (eE t.ds):=mn h1.devs;have hN:=k3.op;have Jr:=qI (A6 p (.slice ca p.cs.length cc) (w.alloc (fK p ca cc)) H8.o);have hX:Hu (∀j,(four N Ba Bd Bm) j->j<w.heap.size):=λj hj=>by
  rcases hj with e|e|e|e
  ·exact Jc j e
  all_goals omega
 clear h1 Hx HM hE JC Jc J8 k1 k2 k3 k4 k5 k6 k7 a2 a3 jb JR J6 je hp ht hins;unfold cz
 go_enter func19,ntmps19
 go_wp2_with fail
 generalize (w.alloc (fK p ca cc))=X at *;refine Jr.o.mono ?_;rintro e W1 ⟨rfl,Jq⟩;have H1:=qI Jq;clear Jq Jr;have Hf:Hu (∀W,Below X X W->(uM Ba tb t ha hc w p ca cc) W):=λW hb=>⟨ad ((hb.block (Ba) (by omega)).trans Hr.o) 0,ad ((hb.block (Ba) (by omega)).trans Hr.o) 1,ad ((hb.block (Ba) (by omega)).trans Hr.o) 2,ad ((hb.block (Ba) (by omega)).trans Hr.o) 3,ad ((hb.block (Ba) (by omega)).trans Hr.o) 4,ad ((hb.block (Ba) (by omega)).trans Hr.o) 7,ad ((hb.block (w.heap.size) (by omega)).trans hP.o) 0,ad ((hb.block (w.heap.size) (by omega)).trans hP.o) 1,ad ((hb.block (w.heap.size) (by omega)).trans hP.o) 2⟩
 have Hi:Hu (∀W,Below X X W->Below w w W):=λW hb=>HV.o.trans (hb.mono HV.o.size)
 by_cases hpF:bu p=0
 ·have He:=qI hpF;rw[hpF,show aJ (((0:Nat)):Int)=.nilIface from rfl];clear hpF
  go_upto_region 4 with fail
  go_cut [6,7] (λx6 x7 wc=>x6=.int .i64 (dD t.hs p.nm:Nat)/\x7=.bool (dK t.hs p.nm)/\Below X X wc)
  case first=>
   have Hc:Hu (Below X X W1.drew):=bB H1.o;refine wp_region_held_drew (S:=uM Ba tb t ha hc w p ca cc) (by kernel_rfl) (Hf.o _ Hc.o) λhQ=>?_;generalize W1.drew=V at *;refine tk 0 ?_;refine tk 1 ?_;refine tk 2 ?_;refine tk 3 ?_;refine tk 4 ?_;refine tk 5 ?_;refine rd 6 λK hK=>?_;go_simp
   go_wp2_with fail
   refine (Ev (.slice ha t.hs.length hc) t.hs p.nm V (hR.o.below Hc.o) (by omega) hS.o).mono ?_;rintro e W2 ⟨rfl,HB⟩;have HZ:=qI (Hc.o.trans (HB.mono Hc.o.size));clear HB
   go_wp2_with fail
   refine hK.o _ _ (Hf.o _ HZ.o) λhQ=>?_;clear hK K;refine tk 7 ?_;refine tk 8 ?_;refine tk 9 ?_;refine tk 10 ?_;refine tk 11 ?_;refine Qn (by kernel_rfl) ?_ _;clear hQ
   go_wp2
   go_meet
   exact⟨rfl,rfl,HZ.o⟩
  case rest=>
   obtain⟨rfl,rfl,Hn⟩:=hcut;have Ht:=qI Hn;clear Hn
   rcases two (dK t.hs p.nm) with hh|hh
   ·have HH:=qI hh;rw[hh];clear hh
    go_wp2
    go_ret;exact⟨by rw[Fg He.o HH.o];rfl,rV HN.o (Hi.o _ Ht.o) (Fg He.o HH.o)⟩
   ·have HH:=qI hh;rw[hh];clear hh;have x7:cl wc Ba (7) (.slice ha t.hs.length hc):=(Hf.o _ Ht.o).2.2.2.2.2.1
    by_cases h12:12<=t.hs.length
    ·go_wp2
     go_ret;exact⟨by rw[Fh He.o HH.o h12];rfl,rV HN.o (Hi.o _ Ht.o) (Fh He.o HH.o h12)⟩
    ·have Hh:t.hs.length<12:=by omega
     clear h12
     go_upto_region 9 with fail
     clear x7;have hH:Hu (∀q∈t.hs.map af.pod++[p],ib q.cs):=λq hq=>by
      rcases Qi.1 hq with hq|hq
      ·obtain⟨x,hx,rfl⟩:=Qk.1 hq;exact qE (hf.o x hx).1
      ·rw[Qm.1 hq];exact qE He.o
     have hI:(t.hs.map af.pod++[p]).length<=100:=by simp;omega
     have HP:=qI (E8 hH.o hI)
     go_cut [52] (λx wd=>x=.bool (!bS t.m (t.hs.map af.pod++[p]))/\Below X X wd)
     case first=>
      have Hc:Hu (Below X X wc.drew):=bB Ht.o;refine wp_region_held_drew (S:=uM Ba tb t ha hc w p ca cc) (by kernel_rfl) (Hf.o _ Hc.o) λhQ=>?_;generalize wc.drew=V at *;refine tk 0 ?_;refine tk 1 ?_;refine tk 2 ?_;refine tk 3 ?_;refine tk 4 ?_;refine tk 5 ?_;refine tk 6 ?_;refine tk 7 ?_;refine tk 9 ?_;refine rd2 8 10 (λK hK=>?_) λK hK=>?_
      ·go_simp
       go_wp2_with fail
       refine (Fe (.slice ha t.hs.length hc) t.hs V (hR.o.below Hc.o) (by omega)).mono ?_;rintro e P1 ⟨l,va,vc,rfl,Hp,Hs,Hz,hb⟩;have jf:=qI Hp;have JY:=qI Hs;have J2:=qI Hz;have HK:=qI hb;have H1:=qI (Hc.o.trans (hb.mono Hc.o.size));have J1:=hb.size;have J5:=Hc.o.size;have jc:l.length<=12:=by have:=congrArg List.length Hp;simp at this;omega
       clear hb Hp Hs Hz
       go_wp2_with fail
       refine hK.o _ _ (Hf.o _ H1.o) λhQ=>?_;clear hK K;refine rd 10 λK hK=>?_;have HZ:=qI (H1.o.alloc H1.o.size (fK p ca cc));have JT:=qI (tY P1 p.nm p.pr (.slice ca p.cs.length cc) 49);have jC:Hu ((P1.alloc (fK p ca cc)).heap.size=P1.heap.size+1):=by unfold Hu;simp
       have JD:=qI (JY.o.alloc (fK p ca cc));have HO:=qI (HK.o.alloc HK.o.size (fK p ca cc));go_simp
       go_wp2_with fail
       refine hK.o _ _ (Hf.o _ HZ.o) λhQ=>?_;clear hK K;generalize P1.alloc (fK p ca cc)=Z2 at *;refine rd 11 λK hK=>?_;rw[if_pos (by rfl)]
       refine wp_append_lies (o := { dst := some 50, op := Op.call { callee := Callee.builtin Builtin.append, args := #[Operand.tmp 47, Operand.tmp 49], argTypes := #[67, 67] }, type := 67, pos := "ostler.go:76", after := #[{ on := 8, ground := Ground.data }, { on := 10, ground := Ground.data }, { on := 8, ground := Ground.chain }], guard := none }) _ _ _ 67 rfl V.heap.size 49 i0 (.agg #[.string ByteArray.empty, .int .i64 0, .slice none 0 0]) 3 48 underlying67 hi Ju JB JA rfl (by decide) (.slice va l.length vc) _ _ rfl JD.o ⟨_, 0, none⟩ 1 1 (gM (⟨p.nm, p.pr, []⟩, .slice ca p.cs.length cc)) rfl rfl JT.o (tZ _ _ _ _ _) (by decide) (by unfold maxLen; omega) (by omega) (by have := HO.o.size; omega) Z2.heap.size rfl ?_
       intro g' cap' W4 Hb Ha Ji HJ;have HU:∀j,(Value.slice va l.length vc).ownBlock=some j->V.heap.size<=j:=λj hj=>(JD.o.lt j hj).1
       have Ht:Hu (Below X X W4):=HZ.o.grown Ha HZ.o.size (λj hj=>by have:=HU j hj;omega);have hy:Hu (Below V V W4):=HO.o.grown Ha HO.o.size λj hj=>HU j hj;have h4:Hu (eO W4 (.slice g' (l.length+1) cap') (t.hs.map af.pod++[p])):=uy (base:=V.heap.size) ⟨l++[(p,.slice ca p.cs.length cc)],by rw[Qj,jf.o];rfl,by rw[tX,Q2];exact Hb,λx hx=>by
        rcases Qi.1 hx with hx|hx
        ·exact (J2.o x hx).below hy.o
        ·rw[Qm.1 hx];exact H8.o.below Ht.o⟩
       clear Hb Ha Ji HJ HU;refine hK.o _ _ (Hf.o _ Ht.o) λhQ=>?_;clear hK K;(try simp only[Act.put,s1,s2,s3]);refine rd 12 λK hK=>?_;go_simp
       go_wp2_with fail
       refine (xG tb t.m.op t.m.nd t.m.nb t.m.pol _ (t.hs.map af.pod++[p]) W4 h4.o hI hH.o hN HP.o).mono ?_;rintro e Q4 ⟨rfl,hb⟩;have Jz:=qI (Ht.o.trans (hb.mono Ht.o.size));clear hb
       go_wp2_with fail
       refine hK.o _ _ (Hf.o _ Jz.o) λhQ=>?_;clear hK K;refine tk 13 ?_;refine Qn (by kernel_rfl) ?_ _;clear hQ
       go_wp2
       go_meet
       exact⟨by unfold bS;rw[Bool.not_and],Jz.o⟩
      ·have Hl:=qI (Hc.o.alloc Hc.o.size (fK p ca cc));have JZ:=qI (tY V p.nm p.pr (.slice ca p.cs.length cc) 49);have JL:Hu ((V.alloc (fK p ca cc)).heap.size=V.heap.size+1):=by unfold Hu;simp
       go_simp
       go_wp2_with fail
       refine hK.o _ _ (Hf.o _ Hl.o) λhQ=>?_;clear hK K;generalize V.alloc (fK p ca cc)=Z5 at *;refine rd 8 λK hK=>?_;go_simp
       go_wp2_with fail
       refine (Fe (.slice ha t.hs.length hc) t.hs Z5 (hR.o.below Hl.o) (by omega)).mono ?_;rintro e P6 ⟨l,va,vc,rfl,Hp,Hs,Hz,hb⟩;have jk:=qI Hp;have Jo:=qI Hs;have JW:=qI Hz;have hU:=qI hb;have HX:=qI (Hl.o.trans (hb.mono Hl.o.size));have JM:=hb.size;have JX:=Hl.o.size;have jd:l.length<=12:=by have:=congrArg List.length Hp;simp at this;omega
       have jq:Hu (∀j u,(gM (⟨p.nm,p.pr,[]⟩,.slice ca p.cs.length cc))[j]?=some u->P6.cell? ((V.heap.size:Addr).add j)=some u):=λj u hu=>by have:=JZ.o j u hu;rw[Addr.add_lit] at this ⊢;exact (hb.cell (p:=⟨V,_,none⟩) (by show V.heap.size<_;have:=JL.o;omega)).trans this
       clear hb Hp Hs Hz
       go_wp2_with fail
       refine hK.o _ _ (Hf.o _ HX.o) λhQ=>?_;clear hK K;refine rd 11 λK hK=>?_;rw[if_pos (by rfl)]
       refine wp_append_lies (o := { dst := some 50, op := Op.call { callee := Callee.builtin Builtin.append, args := #[Operand.tmp 47, Operand.tmp 49], argTypes := #[67, 67] }, type := 67, pos := "ostler.go:76", after := #[{ on := 8, ground := Ground.data }, { on := 10, ground := Ground.data }, { on := 8, ground := Ground.chain }], guard := none }) _ _ _ 67 rfl Z5.heap.size 49 i0 (.agg #[.string ByteArray.empty, .int .i64 0, .slice none 0 0]) 3 48 underlying67 hi Ju JB JA rfl (by decide) (.slice va l.length vc) _ _ rfl Jo.o ⟨_, 0, none⟩ 1 1 (gM (⟨p.nm, p.pr, []⟩, .slice ca p.cs.length cc)) rfl rfl jq.o (tZ _ _ _ _ _) (by decide) (by unfold maxLen; omega) (by omega) (by have := hU.o.size; omega) P6.heap.size rfl ?_
       intro g' cap' W4 Hb Ha Ji HJ;have HU:∀j,(Value.slice va l.length vc).ownBlock=some j->Z5.heap.size<=j:=λj hj=>(Jo.o.lt j hj).1
       have HA:Hu (Below X X W4):=HX.o.grown Ha HX.o.size (λj hj=>by have:=HU j hj;omega);have JO:Hu (Below Z5 Z5 W4):=hU.o.grown Ha hU.o.size λj hj=>HU j hj;have h4:Hu (eO W4 (.slice g' (l.length+1) cap') (t.hs.map af.pod++[p])):=uy (base:=Z5.heap.size) ⟨l++[(p,.slice ca p.cs.length cc)],by rw[Qj,jk.o];rfl,by rw[tX,Q2];exact Hb,λx hx=>by
        rcases Qi.1 hx with hx|hx
        ·exact (JW.o x hx).below JO.o
        ·rw[Qm.1 hx];exact H8.o.below HA.o⟩
       clear Hb Ha Ji HJ HU;refine hK.o _ _ (Hf.o _ HA.o) λhQ=>?_;clear hK K;(try simp only[Act.put,s1,s2,s3]);refine rd 12 λK hK=>?_;go_simp
       go_wp2_with fail
       refine (xG tb t.m.op t.m.nd t.m.nb t.m.pol _ (t.hs.map af.pod++[p]) W4 h4.o hI hH.o hN HP.o).mono ?_;rintro e Q8 ⟨rfl,hb⟩;have Hj:=qI (HA.o.trans (hb.mono HA.o.size));clear hb
       go_wp2_with fail
       refine hK.o _ _ (Hf.o _ Hj.o) λhQ=>?_;clear hK K;refine tk 13 ?_;refine Qn (by kernel_rfl) ?_ _;clear hQ
       go_wp2
       go_meet
       exact⟨by unfold bS;rw[Bool.not_and],Hj.o⟩
     case rest=>
      clear hH hI HP;obtain⟨rfl,Hn⟩:=hcut;have Hl:=qI Hn;clear Hn Ht;generalize wc=W5 at *
      rcases two (bS t.m (t.hs.map af.pod++[p])) with hr|hr
      ·have HR:=qI hr;rw[hr];clear hr;have x7:cl W5 Ba (7) (.slice ha t.hs.length hc):=(Hf.o _ Hl.o).2.2.2.2.2.1;have Jh:=qI (ym Ba tb t.m Bd Be (.slice ha t.hs.length hc) s.cp pb db ao pc t.ds s.us (.slice ha t.hs.length hc) t.hs W5 (Hr.o.below Hl.o) (ji.o.below Hl.o) hB.o (hR.o.below Hl.o) hN hf.o (by omega));rw[Hw.o] at Jh
       go_wp2_with fail
       refine Jh.o.mono ?_;rintro e W6 ⟨⟨pb',db',ao',pc',rfl,HW,JJ,H7⟩,hT⟩;have jw:X<=W5.heap.size:=Hl.o.size;have hk:=qI HW;have HX:=qI (Hl.o.trans (hT.mono Hl.o.size));have ja:=HW.pool.lt;have Jb:=qI H7;have jB:=hT.size;clear hT HW H7 Jh x7;unfold sV;dsimp only;have hA:=qI (HX.o.alloc HX.o.size (r9 s pb'));have ho:=qI ((Q0 W6 W6).alloc (lR) (r9 s pb'));have HY:=qI (Hr.o.below hA.o);have hL:=qI ((hA.o.block w (by omega)).trans hP.o);have hY:=qI (bd W6 (r9 s pb') rfl);have jI:(W6.alloc (r9 s pb')).heap.size=W6.heap.size+1:=by simp
       have hD:=qI (hk.o.below ho.o)
       go_upto_region 12 with fail
       generalize (W6.alloc (r9 s pb'))=Y at *;have h2:Hu (∀W,Below Y Y W->(yD Ba tb t w p ca cc W6 s pb') W):=λW hb=>⟨ad ((hb.block (Ba) (by omega)).trans HY.o) 0,ad ((hb.block (Ba) (by omega)).trans HY.o) 1,ad ((hb.block (Ba) (by omega)).trans HY.o) 2,ad ((hb.block (Ba) (by omega)).trans HY.o) 3,ad ((hb.block (Ba) (by omega)).trans HY.o) 4,ad ((hb.block (w.heap.size) (by omega)).trans hL.o) 0,ad ((hb.block (w.heap.size) (by omega)).trans hL.o) 1,ad ((hb.block (w.heap.size) (by omega)).trans hL.o) 2,ad ((hb.block (W6.heap.size) (by omega)).trans hY.o) 0,ad ((hb.block (W6.heap.size) (by omega)).trans hY.o) 1⟩
       go_cut [10,11] (λx10 x11 wd=>∃ua un uc,x10=.slice ua un uc/\x11=aJ ((aX t.m s p).1:Nat)/\((aX t.m s p).1=0->b7 (fresh X wd) (.slice ua un uc) (aX t.m s p).2)/\Below X X wd)
       case first=>
        have Hc:Hu (Below Y Y Y.drew):=bB (Q0 _ _);refine wp_region_held_drew (S:=yD Ba tb t w p ca cc W6 s pb') (by kernel_rfl) (h2.o _ Hc.o) λhQ=>?_;generalize Y.drew=V at *;refine tk 0 ?_;refine tk 1 ?_;refine tk 2 ?_;refine tk 3 ?_;refine tk 4 ?_;refine tk 5 ?_;refine rd 6 λK hK=>?_;go_simp
        go_wp2_with fail
        have hJ:=qI (hA.o.trans (Hc.o.mono hA.o.size));have jL:=Hc.o.size;refine (UP t.m s tb b 0 tc pb' db' ao' pc' p (.slice ca p.cs.length cc) V (Vk jp.o hJ.o (by omega)) (hD.o.below Hc.o) (H8.o.le (mK hJ.o rfl (λj hj=>by omega))) He.o).mono ?_;rintro e V2 ⟨⟨ua,un,uc,rfl,hl⟩,Ho⟩;have H2:Hu ((aX t.m s p).1=0->b7 (fresh X V2) (.slice ua un uc) (aX t.m s p).2):=λh=>(hl h).le (pE (λ_ _ _=>rfl) (lR) (by omega))
        have JU:Hu (Below X X V2):=hJ.o.grown Ho hJ.o.size (λj hj=>by injection hj with hj;omega);have Jx:(yD Ba tb t w p ca cc W6 s pb') V2:=by
         obtain⟨q0,q1,q2,q3,q4,q5,q6,q7,q8,q9⟩:=h2.o _ Hc.o;have Hq:∀j,j<X.heap.size\/j=W6.heap.size->some j≠some pb':=λj hj e=>by injection e with e;omega
         exact⟨(Ho.cell_far Ba (by show Ba<_;omega) (Hq (Ba) (by omega))).trans q0,(Ho.cell_far ⟨Ba,1,none⟩ (by show Ba<_;omega) (Hq (Ba) (by omega))).trans q1,(Ho.cell_far ⟨Ba,2,none⟩ (by show Ba<_;omega) (Hq (Ba) (by omega))).trans q2,(Ho.cell_far ⟨Ba,3,none⟩ (by show Ba<_;omega) (Hq (Ba) (by omega))).trans q3,(Ho.cell_far ⟨Ba,4,none⟩ (by show Ba<_;omega) (Hq (Ba) (by omega))).trans q4,(Ho.cell_far w (by show w.heap.size<_;omega) (Hq (w.heap.size) (by omega))).trans q5,(Ho.cell_far ⟨w,1,none⟩ (by show w.heap.size<_;omega) (Hq (w.heap.size) (by omega))).trans q6,(Ho.cell_far ⟨w,2,none⟩ (by show w.heap.size<_;omega) (Hq (w.heap.size) (by omega))).trans q7,(Ho.cell_far W6 (by show W6.heap.size<_;omega) (Hq (W6.heap.size) (by omega))).trans q8,(Ho.cell_far ⟨W6,1,none⟩ (by show W6.heap.size<_;omega) (Hq (W6.heap.size) (by omega))).trans q9⟩
        clear Ho hl
        go_wp2_with fail
        refine hK.o _ _ Jx λhQ=>?_;clear hK K;clear Jx;refine tk 7 ?_;refine tk 8 ?_;refine tk 9 ?_;refine tk 10 ?_;refine tk 11 ?_;refine Qn (by kernel_rfl) ?_ _;clear hQ
        go_wp2
        go_meet
        exact⟨_,_,_,rfl,rfl,H2.o,JU.o⟩
       case rest=>
        obtain⟨ua,un,uc,rfl,rfl,hl,Hn⟩:=hcut;have HA:=qI Hn;have H2:=qI hl;have jD:X<=wc.heap.size:=Hn.size;clear Hn hl h2 hD hY hL HY ho hA HX hk Jb;generalize wc=W7 at *
        by_cases hG:(aX t.m s p).1=0
        ·have HG:=qI hG;have H2:=qI (H2.o hG);rw[hG,show aJ (((0:Nat)):Int)=.nilIface from rfl];clear hG;have HC:=qI (Vh H5.o Hw.o He.o HH.o Hh HG.o)
         go_upto_region 15 with fail
         go_cut [12] (λx12 wd=>∃va vn vc,x12=.slice va vn vc/\aY (au (four N Ba Bd Bm) wd) (.slice va vn vc) (cD t.hs ⟨p,(aX t.m s p).2⟩)/\Below X X wd)
         case first=>
          have Hc:Hu (Below X X W7.drew):=bB HA.o;have js:Hu (b7 (fresh X W7.drew) (.slice ua un uc) (aX t.m s p).2):=H2.o.le (DW (bB (Q0 _ _)) (lR));refine wp_region_held_drew (S:=uM Ba tb t ha hc w p ca cc) (by kernel_rfl) (Hf.o _ Hc.o) λhQ=>?_;generalize W7.drew=V at *;refine tk 0 ?_;refine tk 1 ?_;refine tk 2 ?_;refine tk 3 ?_;refine tk 5 ?_;refine tk 6 ?_;refine tk 8 ?_;refine rd 4 λK hK=>?_;go_simp
          go_wp2_with fail
          refine (DY (.slice ha t.hs.length hc) t.hs V (au (four N Ba Bd Bm) w) jo.o ((cJ _ _).trans (aZ.of_below (Hi.o _ Hc.o))) (by omega)).mono ?_;rintro e C1 ⟨u,cvv,gvv,rfl,hC,Jv,hb⟩;obtain⟨l,Hp,Hs,Hz⟩:=Fo hC Jv;obtain⟨va,vc,hu⟩:=gI Hs;subst hu;have jy:l.length<=12:=by have:=congrArg List.length Hp;simp at this;omega
          have HL:=qI Hp;have HI:=qI Hz;have Jl:=qI hb;have HK:=qI (Hc.o.trans (hb.mono Hc.o.size));have H4:Hu (∀j,(Value.slice va l.length vc).ownBlock=some j->V.heap.size<=j/\j<C1.heap.size):=λj hj=>Hs.lt j hj
          have JV:=qI Hs;have jM:=Hc.o.size;have jG:=hb.size;clear hC Jv hb Hp Hs Hz
          go_wp2_with fail
          refine hK.o _ _ (Hf.o _ HK.o) λhQ=>?_;clear hK K;refine rd 7 λK hK=>?_;go_simp
          go_wp2_with fail
          refine (Es p.nm p.pr p.cs (.slice ca p.cs.length cc) C1 (H8.o.below HK.o) (by have:=(jv He.o).2.2.1;omega) (λq hq=>by have:=((jv He.o).2.2.2 (ae p.cs q) (fP _ _ _ hq)).2.2.2.2.2.1;omega)).mono ?_;rintro e C2 ⟨pa,pcc,rfl,JI,HB⟩;have HO:=qI (HK.o.trans (HB.mono HK.o.size));have Jp:=qI (Jl.o.trans (HB.mono Jl.o.size));have jt:=qI JI;have Jd:=qI (rM JV.o λg hg=>HB.block g (H4.o g hg).2);have jz:=HB.size;clear JI HB
          go_wp2_with fail
          refine hK.o _ _ (Hf.o _ HO.o) λhQ=>?_;clear hK K;refine tk 9 ?_;have hy:=qI (HO.o.alloc HO.o.size (oK p pa pcc ua un uc));have JE:=qI (Jp.o.alloc Jp.o.size (oK p pa pcc ua un uc));have JQ:=qI (bd C2 (oK p pa pcc ua un uc) rfl);have Jt:=qI (E4 C2 (⟨p,(aX t.m s p).2⟩,.slice pa p.cs.length pcc,.slice ua un uc) 101);dsimp only at Jt;have Jy:Hu ((C2.alloc (oK p pa pcc ua un uc)).heap.size=C2.heap.size+1):=by unfold Hu;simp
          have h3:=qI (Jd.o.alloc (oK p pa pcc ua un uc));have JS:=qI ((Q0 C2 C2).alloc (lR) (oK p pa pcc ua un uc));refine rd 10 λK hK=>?_;go_simp
          go_wp2_with fail
          refine hK.o _ _ (Hf.o _ hy.o) λhQ=>?_;clear hK K;generalize C2.alloc (oK p pa pcc ua un uc)=C3 at *;refine rd 11 λK hK=>?_;go_simp
          go_wp2_with fail
          refine (h7.o l HL.o V (.slice va l.length vc) (⟨p,(aX t.m s p).2⟩,.slice pa p.cs.length pcc,.slice ua un uc) C2 C3 h3.o Jt.o (yq _ _ _ _ _ _ _) (by have:=Jy.o;omega) (λe=>by have:=(H4.o _ e).2;have e':C2<C1.heap.size:=this;omega) ⟨_,_,JQ.o⟩ λx hx=>Vm (HI.o x hx)).mono ?_;rintro e C4 ⟨v',rfl,Hb,Ha⟩;obtain⟨va',vc',J4⟩:=gI Hb;subst J4;have Jf:Hu (Below X X C4):=hy.o.grown Ha hy.o.size (λj hj=>by have:=(H4.o j hj).1;omega);have JG:Hu (Below V V C4):=JE.o.grown Ha JE.o.size λj hj=>(H4.o j hj).1;have HQ:Hu (aY (au (four N Ba Bd Bm) C4) (.slice va' (l.length+1) vc') (cD t.hs ⟨p,(aX t.m s p).2⟩)):=by
           have jF:=Ha.size;have jA:=Jy.o;have q1:aQ (au (four N Ba Bd Bm) C4) (.slice pa p.cs.length pcc) p.cs:=jt.o.le (bE (λj hj hn=>by
            have hn:¬ j<C1.heap.size:=hn;refine⟨λe=>by have:=hX.o j e;omega,(Ha.block j (by omega) (λe=>by have:=(H4.o j e.symm).2;omega)).trans (JS.o.block j hj)⟩) (by omega))
           have q2:b7 (au (four N Ba Bd Bm) C4) (.slice ua un uc) (aX t.m s p).2:=js.o.le (bE (λj hj hn=>by
            have hn:¬ j<X.heap.size:=hn;exact⟨λe=>by have:=hX.o j e;omega,JG.o.block j hj⟩) JG.o.size)
           have:=Vn (y:=(⟨p,(aX t.m s p).2⟩,.slice pa p.cs.length pcc,.slice ua un uc)) Hb hX.o (by omega) HI.o (Hi.o _ Jf.o) q1 q2
           rw[HL.o] at this;exact this
          clear Hb Ha
          go_wp2_with fail
          refine hK.o _ _ (Hf.o _ Jf.o) λhQ=>?_;clear hK K;refine tk 12 ?_;refine Qn (by kernel_rfl) ?_ _;clear hQ
          go_wp2
          go_meet
          exact⟨_,_,_,rfl,HQ.o,Jf.o⟩
         case rest=>
          obtain⟨va,vn,vc,rfl,JH,Hn⟩:=hcut;have HQ:=qI JH;have Hj:=qI Hn;have ju:X<=wc.heap.size:=Hn.size;clear JH Hn H2 HA;generalize wc=W8 at *;have HF:=qI HC.o.1;have hF:=qI (rI Hg.o HF.o);have x5:cl W8 Ba (5) Bd:=ad ((Hj.o.block Ba (by omega)).trans Hr.o) 5;have jh:Hu (bz W8 Bd dk):=pR (HE.o.below (Hi.o _ Hj.o)).disk Hg.o;have hO:=qI (xY Bd dk (.slice va vn vc) (cD t.hs ⟨p,(aX t.m s p).2⟩) W8 jh.o (.inl Hg.o.2.2) (HQ.o.le (cJ _ _)) (HT.o.below (Hi.o _ Hj.o)))
          by_cases hlong:6000<(bn (cD t.hs ⟨p,(aX t.m s p).2⟩)).length
          ·rw[hF.o.2.1 hlong,show aJ (((2:Nat)):Int)=.iface 108 (2:Int) from rfl] at hO;have HD:=qI hlong;clear hlong
           go_wp2_with fail
           refine hO.o.mono ?_;rintro e W9 ⟨rfl,H0,Hv⟩;have JF:=qI H0;have HS:=qI Hv;clear H0 Hv x5
           go_wp2
           go_ret;exact⟨by rw[Fk He.o HH.o Hh HR.o Hw.o HG.o HD.o];rfl,Vo HN.o (Hi.o _ Hj.o) HS.o JF.o hF.o.2.2 (TA Hg.o HF.o HD.o) (Fk He.o HH.o Hh HR.o Hw.o HG.o HD.o)⟩
          ·rw[hF.o.1 (by omega),show aJ (((0:Nat)):Int)=.nilIface from rfl] at hO;have HD:=qI hlong;clear hlong
           go_wp2_with fail
           refine hO.o.mono ?_;rintro e W9 ⟨rfl,H0,Hv⟩;have JF:=qI H0;have HS:=qI Hv;have jE:=Hv.size;have JN:w<=W8.heap.size:=(Hi.o _ Hj.o).size;have jj:Hu (bL W9 Be Bd Bm n (dk.save (cD t.hs ⟨p,(aX t.m s p).2⟩)).2.n (dk.save (cD t.hs ⟨p,(aX t.m s p).2⟩)).2.k λa=>a∈aN t.hs):=uH (HE.o.below (Hi.o _ Hj.o)) Hv H0 hF.o.2.2;have jg:Hu (aY (au (gQ Bd Bm) W9) (.slice va vn vc) (cD t.hs ⟨p,(aX t.m s p).2⟩)):=HQ.o.le (bE (λj hj hn=>⟨λe=>hn (.inr (.inr e)),Hv.block j hj λe=>hn (.inr (.inr (.inl (by injection e))))⟩) Hv.size);have Js:Hu (bA W9 Ba tb t.m Bd Be (.slice ha t.hs.length hc) s.cp pb):=(Hv.block Ba (by omega) λe=>ab1 (by injection e)).trans (Hr.o.below Hj.o);have x6:cl W9 Ba (6) Be:=ad Js.o 6;have J7:=qI (uq Be Bd Bm n (dk.save (cD t.hs ⟨p,(aX t.m s p).2⟩)).2.n (dk.save (cD t.hs ⟨p,(aX t.m s p).2⟩)).2.k (aN t.hs) (.slice va vn vc) (cD t.hs ⟨p,(aX t.m s p).2⟩) W9 jj.o jg.o HF.o hn);clear H0 Hv x5
           go_wp2_with fail
           refine J7.o.mono ?_;rintro e W10 ⟨rfl,⟨n',Jk,hs⟩,Hm⟩;have hV:=qI hs;have H6:Hu (bA W10 Ba tb t.m Bd Be (.slice ha t.hs.length hc) s.cp pb):=(Hm.block Ba (by omega) ab1 ab2).trans Js.o;have jl:=Hm.size;have h6:=qI Hm;have jn:=qI Jk;have Jg:=h5.o.pool.lt;have hw:Hu (∀j,j<w.heap.size->¬ (four N Ba Bd Bm) j->W10.heap[j]?=w.heap[j]?):=λj hj hn=>(Hm.block j (by omega) (λe=>hn (.inr (.inr (.inl e)))) λe=>hn (.inr (.inr (.inr e)))).trans ((HS.o.block j (by omega) λe=>hn (.inr (.inr (.inl (by injection e))))).trans ((Hi.o _ Hj.o).block j hj))
           have hz:Hu (aF W10 pb db ao pc t.ds s.us):=by
            have:=nh h5.o.pool (hw.o pb Jg Jn.o) (λh0=>hw.o db (h5.o.pool.at0 h0).2.2 (Jm.o h0)) (by omega)
            rw[kP Hw.o] at this;exact this
           have hZ:Hu (aY (au (λj=>j=Ba) W10) (.slice va vn vc) (cD t.hs ⟨p,(aX t.m s p).2⟩)):=HQ.o.le (bE (λj hj hn=>⟨λe=>hn (.inr (.inl e)),(Hm.block j (by omega) (λe=>hn (.inr (.inr (.inl e)))) λe=>hn (.inr (.inr (.inr e)))).trans (HS.o.block j hj λe=>hn (.inr (.inr (.inl (by injection e)))))⟩) (by omega));obtain⟨s',h9⟩:=HC.o.2.1;have Jw:=qI h9;have H3:lf (cD t.hs ⟨p,(aX t.m s p).2⟩):=(cW.1 HF.o).2.1;have Hy:(cD t.hs ⟨p,(aX t.m s p).2⟩).length<=100:=by have:=(cW.1 HF.o).1;omega
           have jr:=qI (ux Ba tb t.m Bd Be (.slice ha t.hs.length hc) s.cp pb db ao pc t.ds s.us (.slice va vn vc) (cD t.hs ⟨p,(aX t.m s p).2⟩) s' W10 H6.o ⟨_,_,_,rfl⟩ hz.o (λe=>Jn.o (.inr (.inl e))) (λh0 e=>Jm.o (by rw[kP Hw.o];exact h0) (.inr (.inl e))) hB.o hZ.o hN H3 Hy h9);clear hs Hm Jk x6 h9 H3 Hy
           go_wp2_with fail
           refine jr.o.mono ?_;have hm:Hu (w<=W10.heap.size):=(((Apart.of_below (Hi.o _ Hj.o)).trans (gm HS.o (K:=three Ba Bd Bm) λj e _=>.inr (.inl (by injection e with e;exact e.symm)))).trans (uG h6.o)).size;rintro e W11 ⟨rfl,⟨pb2,db2,ao2,c2,Ja,Je,Jj,hW⟩,Hk⟩;have h8:Hu (aI W11 N Ba Bd Be Bm ⟨t.m,t.ds,(cD t.hs ⟨p,(aX t.m s p).2⟩)⟩ (dk.save (cD t.hs ⟨p,(aX t.m s p).2⟩)).2 n'):=HN.o.next (Hi.o _ Hj.o) (rU JP.o he.o (λj hj hn=>(Hi.o _ Hj.o).block j hj) JN) he.o HQ.o HS.o h6.o Hk Ja Je Jj hW hV.o H6.o ⟨H5.o.devs,HF.o,⟨_,Jw.o⟩⟩ Jw.o hF.o.2.2 ⟨by have:=HD.o;omega,ya Hg.o HQ.o.cps HF.o (by have:=HD.o;omega)⟩;have J0:Hu (io w W11 Ba):=.inr (yo Ja Je (by have:=hm.o;omega) (λh0=>by have:=hm.o;have:=hW h0;omega));have J3:Hu (Apart (three Ba Bd Bm) w W11):=(((Apart.of_below (Hi.o _ Hj.o)).trans (gm HS.o λj e _=>.inr (.inl (by injection e with e;exact e.symm)))).trans (uG h6.o)).trans ⟨Hk.os,Hk.tape,Hk.output,Hk.size,λj hj hn=>Hk.block j hj λe=>hn (.inl e)⟩;clear Ja Je Jj hW Hk
           go_wp2
           go_ret;have H9:=Vi He.o HH.o Hh HR.o Hw.o HG.o HD.o;exact⟨by rw[H9];rfl,by rw[H9];exact⟨_,n',⟨jn.o,J0.o⟩,h8.o⟩,J3.o⟩
        ·have HG:=qI hG;rw[eP hG];clear hG
         go_wp2
         go_ret;exact⟨by rw[Fj He.o HH.o Hh HR.o Hw.o HG.o,eP HG.o];rfl,rV HN.o (Hi.o _ HA.o) (Fj He.o HH.o Hh HR.o Hw.o HG.o)⟩
      ·have HR:=qI hr;rw[hr];clear hr
       go_wp2
       go_ret;exact⟨by rw[Fi He.o HH.o Hh HR.o];rfl,rV HN.o (Hi.o _ Hl.o) (Fi He.o HH.o Hh HR.o)⟩
 ·have He:=qI hpF;rw[eP hpF];clear hpF
  go_wp2
  go_ret;exact⟨by rw[Ff He.o,eP He.o];rfl,rV HN.o (Hi.o _ H1.o) (Ff He.o)⟩
