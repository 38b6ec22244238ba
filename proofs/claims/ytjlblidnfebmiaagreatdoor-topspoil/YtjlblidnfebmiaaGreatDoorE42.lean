import Derived.Test.YtjlblidnfebmiaaGreatDoorE37
set_option maxRecDepth 100000
set_option maxHeartbeats 16000000
open Go Go.RowKit Go.Shelf
attribute [local go_sem] Oper.semAt_some
open Go.Proofs.Tryz
namespace Go.Proofs.YtjlblidnfebmiaaGreatDoor
abbrev fB:=λ(x0:az) (x1:Option Addr) (x2:Nat)=>(.cells #[.string x0.nm,.int .i64 x0.pr,.slice x1 x0.cs.length x2] 49:Obj)
abbrev ox:=λ(x0:az) (x1:Option Addr) (x2:Nat) (x3:Option Addr) (x4 x5:Nat)=>(.cells #[.string x0.nm,.int .i64 x0.pr,.slice x1 x0.cs.length x2,.slice x3 x4 x5] 101:Obj)
abbrev rA:=λ(x0:aB) (x1:Nat)=>(.cells #[.int .u64 x0.cp,.pointer (some ⟨x1,0,none⟩)] 87:Obj)
abbrev uk:=λ(Ba tb:Nat) (t:bU) (ha:Option Addr) (hc y5:Nat) (p:az) (ca:Option Addr) (cc:Nat) (w':World)=>w'.cell? ⟨Ba,0,none⟩=some (.pointer (some ⟨tb,0,none⟩))/\w'.cell? ⟨Ba,1,none⟩=some (.int .u64 t.m.op)/\w'.cell? ⟨Ba,2,none⟩=some (.int .u8 t.m.nd)/\w'.cell? ⟨Ba,3,none⟩=some (.int .i64 t.m.nb)/\w'.cell? ⟨Ba,4,none⟩=some (.int .i64 t.m.pol)/\w'.cell? ⟨Ba,7,none⟩=some (.slice ha t.hs.length hc)/\w'.cell? ⟨y5,0,none⟩=some (.string p.nm)/\w'.cell? ⟨y5,1,none⟩=some (.int .i64 p.pr)/\w'.cell? ⟨y5,2,none⟩=some (.slice ca p.cs.length cc)
abbrev yh:=λ(Ba tb:Nat) (t:bU) (y3:Nat) (p:az) (ca:Option Addr) (cc y7:Nat) (s:aB) (pb':Nat) (w':World)=>w'.cell? ⟨Ba,0,none⟩=some (.pointer (some ⟨tb,0,none⟩))/\w'.cell? ⟨Ba,1,none⟩=some (.int .u64 t.m.op)/\w'.cell? ⟨Ba,2,none⟩=some (.int .u8 t.m.nd)/\w'.cell? ⟨Ba,3,none⟩=some (.int .i64 t.m.nb)/\w'.cell? ⟨Ba,4,none⟩=some (.int .i64 t.m.pol)/\w'.cell? ⟨y3,0,none⟩=some (.string p.nm)/\w'.cell? ⟨y3,1,none⟩=some (.int .i64 p.pr)/\w'.cell? ⟨y3,2,none⟩=some (.slice ca p.cs.length cc)/\w'.cell? ⟨y7,0,none⟩=some (.int .u64 s.cp)/\w'.cell? ⟨y7,1,none⟩=some (.pointer (some ⟨pb',0,none⟩))
theorem Ff (N:Nat->Prop) (Ba Bd Be Bm:Nat) (t:bU) (dk:Dk) (n:Nat) (p:az) (cv:Value) (w:World) (hM:be w N Ba Bd Be Bm t dk n) (hp:aZ (av (four N Ba Bd Bm) w) cv p.cs) (ht:cD w) (hn:n+36<=1000) (hins:∀ l:List (ad × Value × Value),l.map Prod.fst=t.hs->xX l (dp t.hs p.nm)) :
  Calls prog 19 #[.pointer (some ⟨Ba,0,none⟩),du p cv] w λe w'=>e=.returned (aL ((bl t p).1:Nat))/\(∃ dk' n',(n'<=n+dN (aE t.hs) (aE (bl t p).2)/\jz w w' Ba)/\be w' N Ba Bd Be Bm ⟨t.m,t.ds,(bl t p).2⟩ dk' n')/\Apart (three Ba Bd Bm) w w':=by
 obtain ⟨i0,hi,Jn,Jj,Ju⟩:=info_parts xh;have HX:=qI hM;obtain ⟨h1,HA,HS,hE,jb,JH,Ja,JY,tb,b,tc,hv,pb,db,ao,pc,s,k1,k2,k3,k4,k5,k6,k7⟩:=hM;obtain ⟨a1,a2,a3⟩:=cL.1 h1.held;have H9:Hu (kM t.hs):=a2;have hT:=qI a3;have hy:=qI h1;have Hg:=qI HA;have hD:=qI HS;have HE:=qI hE;have jw:=qI Ja;have jM:=qI JH;obtain ⟨el1,el2,el3⟩:=hE.lt;obtain ⟨ea1,ea2,ea3⟩:=hE.apart;obtain ⟨ab1,ab2,ab3⟩:=jb;have jD:=k1.lt;obtain ⟨ha,hc,jn,JZ,JW⟩:=id k2;subst jn;obtain ⟨ca,cc,J3,J2,JU⟩:=id hp;subst J3;have jh:=qI k2;have J0:=qI k3;have Hw:=qI k4;have hZ:=qI k5;have Jq:=qI k6;have Jx:=qI k7;have HT:=qI ht;have hU:=qI hins;have HQ:=qI ((Q0 w.heap.size w).alloc (lR) (.cells #[.string p.nm,.int .i64 p.pr,.slice ca p.cs.length cc] 49));have hJ:=qI (aU w (.cells #[.string p.nm,.int .i64 p.pr,.slice ca p.cs.length cc] 49) rfl);have jB:(w.alloc (.cells #[.string p.nm,.int .i64 p.pr,.slice ca p.cs.length cc] 49)).heap.size=w.heap.size+1:=by simp
 have Ht:Hu (bx (w.alloc (.cells #[.string p.nm,.int .i64 p.pr,.slice ca p.cs.length cc] 49)) Ba tb t.m Bd Be (.slice ha t.hs.length hc) s.cp pb):=k1.below HQ.o;have hL:Hu (aX (w.alloc (.cells #[.string p.nm,.int .i64 p.pr,.slice ca p.cs.length cc] 49)) (.slice ha t.hs.length hc) t.hs):=(k2.le (dm _ _)).below HQ.o;have H8:Hu (aZ (w.alloc (.cells #[.string p.nm,.int .i64 p.pr,.slice ca p.cs.length cc] 49)) (.slice ca p.cs.length cc) p.cs):=(hp.le (dm _ _)).below HQ.o;have jm:Hu (dU (w.alloc (.cells #[.string p.nm,.int .i64 p.pr,.slice ca p.cs.length cc] 49)) tb b 0 tc t.m):=(TG k3 HS).below HQ.o;have JP:Hu (aJ (w.alloc (.cells #[.string p.nm,.int .i64 p.pr,.slice ca p.cs.length cc] 49)) pb db ao pc t.ds s.us):=by unfold Hu;rw [<- lr k4];exact k5.pool.below HQ.o
 have hz:Hu (eT t.ds):=kg h1.devs;have hO:=k3.op;have JI:=qI (vJ p (.slice ca p.cs.length cc) (w.alloc (.cells #[.string p.nm,.int .i64 p.pr,.slice ca p.cs.length cc] 49)) H8.o);have Jd:Hu (∀ j,(four N Ba Bd Bm) j->j<w.heap.size):=λj hj=>by
  rcases hj with e|e|e|e
  ·exact Ja j e
  all_goals omega
 clear h1 HA HS hE JH Ja JY k1 k2 k3 k4 k5 k6 k7 a2 a3 JZ JW J2 JU hp ht hins;unfold du
 go_enter func19,ntmps19
 go_wp2_with fail
 generalize (w.alloc (.cells #[.string p.nm,.int .i64 p.pr,.slice ca p.cs.length cc] 49))=X at *;refine JI.o.mono ?_;rintro e W1 ⟨rfl,JA⟩;have H1:=qI JA;clear JA JI;have Hf:Hu (∀ W,Below X.heap.size X W->(uk Ba tb t ha hc w.heap.size p ca cc) W):=λW hb=>⟨aa ((hb.block (Ba) (by omega)).trans Ht.o) 0,aa ((hb.block (Ba) (by omega)).trans Ht.o) 1,aa ((hb.block (Ba) (by omega)).trans Ht.o) 2,aa ((hb.block (Ba) (by omega)).trans Ht.o) 3,aa ((hb.block (Ba) (by omega)).trans Ht.o) 4,aa ((hb.block (Ba) (by omega)).trans Ht.o) 7,aa ((hb.block (w.heap.size) (by omega)).trans hJ.o) 0,aa ((hb.block (w.heap.size) (by omega)).trans hJ.o) 1,aa ((hb.block (w.heap.size) (by omega)).trans hJ.o) 2⟩
 have Hh:Hu (∀ W,Below X.heap.size X W->Below w.heap.size w W):=λW hb=>HQ.o.trans (hb.mono HQ.o.size)
 by_cases hpF:br p=0
 ·have He:=qI hpF;rw [hpF,show aL (((0:Nat)):Int)=.nilIface from rfl];clear hpF
  go_upto_region 4 with fail
  go_cut [6,7] (λx6 x7 wc=>x6=.int .i64 (dp t.hs p.nm:Nat)/\x7=.bool (dH t.hs p.nm)/\Below X.heap.size X wc)
  case first=>
   have Hc:Hu (Below X.heap.size X W1.drew):=bF H1.o;refine wp_region_held_drew (S:=uk Ba tb t ha hc w.heap.size p ca cc) (by kernel_rfl) (Hf.o _ Hc.o) λhQ=>?_;generalize W1.drew=V at *;refine tk 0 ?_;refine tk 1 ?_;refine tk 2 ?_;refine tk 3 ?_;refine tk 4 ?_;refine tk 5 ?_;refine rd 6 λK hK=>?_;go_simp
   go_wp2_with fail
   refine (D1 (.slice ha t.hs.length hc) t.hs p.nm V (hL.o.below Hc.o) (by omega) hT.o).mono ?_;rintro e W2 ⟨rfl,HC⟩;have HY:=qI (Hc.o.trans (HC.mono Hc.o.size));clear HC
   go_wp2_with fail
   refine hK.o _ _ (Hf.o _ HY.o) λhQ=>?_;clear hK K;refine tk 7 ?_;refine tk 8 ?_;refine tk 9 ?_;refine tk 10 ?_;refine tk 11 ?_;refine Qn (by kernel_rfl) ?_ _;clear hQ
   go_wp2
   go_meet
   exact ⟨rfl,rfl,HY.o⟩
  case rest=>
   obtain ⟨rfl,rfl,Hn⟩:=hcut;have Hv:=qI Hn;clear Hn
   rcases two (dH t.hs p.nm) with hh|hh
   ·have HH:=qI hh;rw [hh];clear hh
    go_wp2
    go_ret;exact ⟨by rw [EM He.o HH.o];rfl,rq HX.o (Hh.o _ Hv.o) (EM He.o HH.o)⟩
   ·have HH:=qI hh;rw [hh];clear hh;have x7:wc.cell? ⟨Ba,7,none⟩=some (.slice ha t.hs.length hc):=(Hf.o _ Hv.o).2.2.2.2.2.1
    by_cases h12:12<=t.hs.length
    ·go_wp2
     go_ret;exact ⟨by rw [EN He.o HH.o h12];rfl,rq HX.o (Hh.o _ Hv.o) (EN He.o HH.o h12)⟩
    ·have Hi:t.hs.length<12:=by omega
     clear h12
     go_upto_region 9 with fail
     clear x7;have hH:Hu (∀ q∈t.hs.map ad.pod++[p],km q.cs):=λq hq=>by
      rcases Qi.1 hq with hq|hq
      ·obtain ⟨x,hx,rfl⟩:=Qk.1 hq;exact oM (H9.o x hx).1
      ·rw [Qm.1 hq];exact oM He.o
     have hI:(t.hs.map ad.pod++[p]).length<=100:=by simp;omega
     have HP:=qI (EF hH.o hI)
     go_cut [52] (λx wd=>x=.bool (!cH t.m (t.hs.map ad.pod++[p]))/\Below X.heap.size X wd)
     case first=>
      have Hc:Hu (Below X.heap.size X wc.drew):=bF Hv.o;refine wp_region_held_drew (S:=uk Ba tb t ha hc w.heap.size p ca cc) (by kernel_rfl) (Hf.o _ Hc.o) λhQ=>?_;generalize wc.drew=V at *;refine tk 0 ?_;refine tk 1 ?_;refine tk 2 ?_;refine tk 3 ?_;refine tk 4 ?_;refine tk 5 ?_;refine tk 6 ?_;refine tk 7 ?_;refine tk 9 ?_;refine rd2 8 10 (λK hK=>?_) λK hK=>?_
      ·go_simp
       go_wp2_with fail
       refine (EK (.slice ha t.hs.length hc) t.hs V (hL.o.below Hc.o) (by omega)).mono ?_;rintro e P1 ⟨l,va,vc,rfl,Hp,Hq,Hy,hb⟩;have JV:=qI Hp;have JQ:=qI Hq;have JM:=qI Hy;have HN:=qI hb;have H1:=qI (Hc.o.trans (hb.mono Hc.o.size));have ja:=hb.size;have J6:=Hc.o.size;have JN:l.length<=12:=by have:=congrArg List.length Hp;simp at this;omega
       clear hb Hp Hq Hy
       go_wp2_with fail
       refine hK.o _ _ (Hf.o _ H1.o) λhQ=>?_;clear hK K;refine rd 10 λK hK=>?_;have HY:=qI (H1.o.alloc H1.o.size (.cells #[.string p.nm,.int .i64 p.pr,.slice ca p.cs.length cc] 49));have js:=qI (tx P1 p.nm p.pr (.slice ca p.cs.length cc) 49);have jv:Hu ((P1.alloc (.cells #[.string p.nm,.int .i64 p.pr,.slice ca p.cs.length cc] 49)).heap.size=P1.heap.size+1):=by unfold Hu;simp
       have Jw:=qI (JQ.o.alloc (.cells #[.string p.nm,.int .i64 p.pr,.slice ca p.cs.length cc] 49));have HU:=qI (HN.o.alloc HN.o.size (.cells #[.string p.nm,.int .i64 p.pr,.slice ca p.cs.length cc] 49));go_simp
       go_wp2_with fail
       refine hK.o _ _ (Hf.o _ HY.o) λhQ=>?_;clear hK K;generalize P1.alloc (.cells #[.string p.nm,.int .i64 p.pr,.slice ca p.cs.length cc] 49)=Z2 at *;refine rd 11 λK hK=>?_;rw [if_pos (by rfl)]
       refine wp_append_lies (o := { dst := some 50, op := Op.call { callee := Callee.builtin Builtin.append, args := #[Operand.tmp 47, Operand.tmp 49], argTypes := #[67, 67] }, type := 67, pos := "ostler.go:76", after := #[{ on := 8, ground := Ground.data }, { on := 10, ground := Ground.data }, { on := 8, ground := Ground.chain }], guard := none }) _ _ _ 67 rfl V.heap.size 49 i0 (.agg #[.string ByteArray.empty, .int .i64 0, .slice none 0 0]) 3 48 underlying67 hi Jn Jj Ju rfl (by decide) (.slice va l.length vc) _ _ rfl Jw.o ⟨_, 0, none⟩ 1 1 (gC (⟨p.nm, p.pr, []⟩, .slice ca p.cs.length cc)) rfl rfl js.o (tC _ _ _ _ _) (by decide) (by unfold maxLen; omega) (by omega) (by have := HU.o.size; omega) Z2.heap.size rfl ?_
       intro g' cap' W4 Hb Ha h8 HD;have HW:∀ j,(Value.slice va l.length vc).ownBlock=some j->V.heap.size<=j:=λj hj=>(Jw.o.lt j hj).1
       have Hv:Hu (Below X.heap.size X W4):=HY.o.grown Ha HY.o.size (λj hj=>by have:=HW j hj;omega);have hm:Hu (Below V.heap.size V W4):=HU.o.grown Ha HU.o.size λj hj=>HW j hj;have Je:Hu (jJ W4 (.slice (some ⟨g',0,none⟩) (l.length+1) cap') (t.hs.map ad.pod++[p])):=xS (base:=V.heap.size) ⟨l++[(p,.slice ca p.cs.length cc)],by rw [Qj,JV.o];rfl,by rw [tw,Q2];exact Hb,λx hx=>by
        rcases Qi.1 hx with hx|hx
        ·exact (JM.o x hx).below hm.o
        ·rw [Qm.1 hx];exact H8.o.below Hv.o⟩
       clear Hb Ha h8 HD HW;refine hK.o _ _ (Hf.o _ Hv.o) λhQ=>?_;clear hK K;(try simp only [Act.put,s1,s2,s3]);refine rd 12 λK hK=>?_;go_simp
       go_wp2_with fail
       refine (xf (.pointer (some ⟨tb,0,none⟩)) t.m.op t.m.nd t.m.nb t.m.pol _ (t.hs.map ad.pod++[p]) W4 Je.o hI hH.o hO HP.o).mono ?_;rintro e Q4 ⟨rfl,hb⟩;have Jm:=qI (Hv.o.trans (hb.mono Hv.o.size));clear hb
       go_wp2_with fail
       refine hK.o _ _ (Hf.o _ Jm.o) λhQ=>?_;clear hK K;refine tk 13 ?_;refine Qn (by kernel_rfl) ?_ _;clear hQ
       go_wp2
       go_meet
       exact ⟨by unfold cH;rw [Bool.not_and],Jm.o⟩
      ·have Hl:=qI (Hc.o.alloc Hc.o.size (.cells #[.string p.nm,.int .i64 p.pr,.slice ca p.cs.length cc] 49));have jp:=qI (tx V p.nm p.pr (.slice ca p.cs.length cc) 49);have J1:Hu ((V.alloc (.cells #[.string p.nm,.int .i64 p.pr,.slice ca p.cs.length cc] 49)).heap.size=V.heap.size+1):=by unfold Hu;simp
       go_simp
       go_wp2_with fail
       refine hK.o _ _ (Hf.o _ Hl.o) λhQ=>?_;clear hK K;generalize V.alloc (.cells #[.string p.nm,.int .i64 p.pr,.slice ca p.cs.length cc] 49)=Z5 at *;refine rd 8 λK hK=>?_;go_simp
       go_wp2_with fail
       refine (EK (.slice ha t.hs.length hc) t.hs Z5 (hL.o.below Hl.o) (by omega)).mono ?_;rintro e P6 ⟨l,va,vc,rfl,Hp,Hq,Hy,hb⟩;have JK:=qI Hp;have Jy:=qI Hq;have JR:=qI Hy;have h6:=qI hb;have HV:=qI (Hl.o.trans (hb.mono Hl.o.size));have J4:=hb.size;have JS:=Hl.o.size;have ji:l.length<=12:=by have:=congrArg List.length Hp;simp at this;omega
       have J7:Hu (∀ j u,(gC (⟨p.nm,p.pr,[]⟩,.slice ca p.cs.length cc))[j]?=some u->P6.cell? ((⟨V.heap.size,0,none⟩:Addr).add j)=some u):=λj u hu=>by have:=jp.o j u hu;rw [Addr.add_lit] at this ⊢;exact (hb.cell (p:=⟨V.heap.size,_,none⟩) (by show V.heap.size<_;have:=J1.o;omega)).trans this
       clear hb Hp Hq Hy
       go_wp2_with fail
       refine hK.o _ _ (Hf.o _ HV.o) λhQ=>?_;clear hK K;refine rd 11 λK hK=>?_;rw [if_pos (by rfl)]
       refine wp_append_lies (o := { dst := some 50, op := Op.call { callee := Callee.builtin Builtin.append, args := #[Operand.tmp 47, Operand.tmp 49], argTypes := #[67, 67] }, type := 67, pos := "ostler.go:76", after := #[{ on := 8, ground := Ground.data }, { on := 10, ground := Ground.data }, { on := 8, ground := Ground.chain }], guard := none }) _ _ _ 67 rfl Z5.heap.size 49 i0 (.agg #[.string ByteArray.empty, .int .i64 0, .slice none 0 0]) 3 48 underlying67 hi Jn Jj Ju rfl (by decide) (.slice va l.length vc) _ _ rfl Jy.o ⟨_, 0, none⟩ 1 1 (gC (⟨p.nm, p.pr, []⟩, .slice ca p.cs.length cc)) rfl rfl J7.o (tC _ _ _ _ _) (by decide) (by unfold maxLen; omega) (by omega) (by have := h6.o.size; omega) P6.heap.size rfl ?_
       intro g' cap' W4 Hb Ha h8 HD;have HW:∀ j,(Value.slice va l.length vc).ownBlock=some j->Z5.heap.size<=j:=λj hj=>(Jy.o.lt j hj).1
       have HB:Hu (Below X.heap.size X W4):=HV.o.grown Ha HV.o.size (λj hj=>by have:=HW j hj;omega);have jl:Hu (Below Z5.heap.size Z5 W4):=h6.o.grown Ha h6.o.size λj hj=>HW j hj;have Je:Hu (jJ W4 (.slice (some ⟨g',0,none⟩) (l.length+1) cap') (t.hs.map ad.pod++[p])):=xS (base:=Z5.heap.size) ⟨l++[(p,.slice ca p.cs.length cc)],by rw [Qj,JK.o];rfl,by rw [tw,Q2];exact Hb,λx hx=>by
        rcases Qi.1 hx with hx|hx
        ·exact (JR.o x hx).below jl.o
        ·rw [Qm.1 hx];exact H8.o.below HB.o⟩
       clear Hb Ha h8 HD HW;refine hK.o _ _ (Hf.o _ HB.o) λhQ=>?_;clear hK K;(try simp only [Act.put,s1,s2,s3]);refine rd 12 λK hK=>?_;go_simp
       go_wp2_with fail
       refine (xf (.pointer (some ⟨tb,0,none⟩)) t.m.op t.m.nd t.m.nb t.m.pol _ (t.hs.map ad.pod++[p]) W4 Je.o hI hH.o hO HP.o).mono ?_;rintro e Q8 ⟨rfl,hb⟩;have Hj:=qI (HB.o.trans (hb.mono HB.o.size));clear hb
       go_wp2_with fail
       refine hK.o _ _ (Hf.o _ Hj.o) λhQ=>?_;clear hK K;refine tk 13 ?_;refine Qn (by kernel_rfl) ?_ _;clear hQ
       go_wp2
       go_meet
       exact ⟨by unfold cH;rw [Bool.not_and],Hj.o⟩
     case rest=>
      clear hH hI HP;obtain ⟨rfl,Hn⟩:=hcut;have Hl:=qI Hn;clear Hn Hv;generalize wc=W5 at *
      rcases two (cH t.m (t.hs.map ad.pod++[p])) with hr|hr
      ·have HR:=qI hr;rw [hr];clear hr;have x7:W5.cell? ⟨Ba,7,none⟩=some (.slice ha t.hs.length hc):=(Hf.o _ Hl.o).2.2.2.2.2.1;have hW:=qI (xN Ba tb t.m Bd Be (.slice ha t.hs.length hc) s.cp pb db ao pc t.ds s.us (.slice ha t.hs.length hc) t.hs W5 (Ht.o.below Hl.o) (JP.o.below Hl.o) hz.o (hL.o.below Hl.o) hO H9.o (by omega));rw [Hw.o] at hW
       go_wp2_with fail
       refine hW.o.mono ?_;rintro e W6 ⟨⟨pb',db',ao',pc',rfl,HJ,J9,hf⟩,Jh⟩;have jO:X.heap.size<=W5.heap.size:=Hl.o.size;have H3:=qI HJ;have HV:=qI (Hl.o.trans (Jh.mono Hl.o.size));have jo:=HJ.pool.lt;have Jg:=qI hf;have jG:=Jh.size;clear Jh HJ hf hW x7;unfold sV;dsimp only;have he:=qI (HV.o.alloc HV.o.size (.cells #[.int .u64 s.cp,.pointer (some ⟨pb',0,none⟩)] 87));have hB:=qI ((Q0 W6.heap.size W6).alloc (lR) (.cells #[.int .u64 s.cp,.pointer (some ⟨pb',0,none⟩)] 87));have HZ:=qI (Ht.o.below he.o);have hR:=qI ((he.o.block w.heap.size (by omega)).trans hJ.o);have Jc:=qI (aU W6 (.cells #[.int .u64 s.cp,.pointer (some ⟨pb',0,none⟩)] 87) rfl);have jI:(W6.alloc (.cells #[.int .u64 s.cp,.pointer (some ⟨pb',0,none⟩)] 87)).heap.size=W6.heap.size+1:=by simp
       have hl:=qI (H3.o.below hB.o)
       go_upto_region 12 with fail
       generalize (W6.alloc (.cells #[.int .u64 s.cp,.pointer (some ⟨pb',0,none⟩)] 87))=Y at *;have Jf:Hu (∀ W,Below Y.heap.size Y W->(yh Ba tb t w.heap.size p ca cc W6.heap.size s pb') W):=λW hb=>⟨aa ((hb.block (Ba) (by omega)).trans HZ.o) 0,aa ((hb.block (Ba) (by omega)).trans HZ.o) 1,aa ((hb.block (Ba) (by omega)).trans HZ.o) 2,aa ((hb.block (Ba) (by omega)).trans HZ.o) 3,aa ((hb.block (Ba) (by omega)).trans HZ.o) 4,aa ((hb.block (w.heap.size) (by omega)).trans hR.o) 0,aa ((hb.block (w.heap.size) (by omega)).trans hR.o) 1,aa ((hb.block (w.heap.size) (by omega)).trans hR.o) 2,aa ((hb.block (W6.heap.size) (by omega)).trans Jc.o) 0,aa ((hb.block (W6.heap.size) (by omega)).trans Jc.o) 1⟩
       go_cut [10,11] (λx10 x11 wd=>∃ ua un uc,x10=.slice ua un uc/\x11=aL ((aV t.m s p).1:Nat)/\((aV t.m s p).1=0->cq (fresh X.heap.size wd) (.slice ua un uc) (aV t.m s p).2)/\Below X.heap.size X wd)
       case first=>
        have Hc:Hu (Below Y.heap.size Y Y.drew):=bF (Q0 _ _);refine wp_region_held_drew (S:=yh Ba tb t w.heap.size p ca cc W6.heap.size s pb') (by kernel_rfl) (Jf.o _ Hc.o) λhQ=>?_;generalize Y.drew=V at *;refine tk 0 ?_;refine tk 1 ?_;refine tk 2 ?_;refine tk 3 ?_;refine tk 4 ?_;refine tk 5 ?_;refine rd 6 λK hK=>?_;go_simp
        go_wp2_with fail
        have hN:=qI (he.o.trans (Hc.o.mono he.o.size));have jx:=Hc.o.size;refine (Tf t.m s tb b 0 tc pb' db' ao' pc' p (.slice ca p.cs.length cc) V (TF jm.o hN.o (by omega)) (hl.o.below Hc.o) (H8.o.le (qw hN.o rfl (λj hj=>by omega))) He.o).mono ?_;rintro e V2 ⟨⟨ua,un,uc,rfl,H6⟩,Ho⟩;have H0:Hu ((aV t.m s p).1=0->cq (fresh X.heap.size V2) (.slice ua un uc) (aV t.m s p).2):=λh=>(H6 h).le (pj (λ_ _ _=>rfl) (lR) (by omega))
        have jg:Hu (Below X.heap.size X V2):=hN.o.grown Ho hN.o.size (λj hj=>by injection hj with hj;omega);have Jo:(yh Ba tb t w.heap.size p ca cc W6.heap.size s pb') V2:=by
         obtain ⟨q0,q1,q2,q3,q4,q5,q6,q7,q8,q9⟩:=Jf.o _ Hc.o;have Hr:∀ j,j<X.heap.size\/j=W6.heap.size->some j≠some pb':=λj hj e=>by injection e with e;omega
         exact ⟨(Ho.cell_far ⟨Ba,0,none⟩ (by show Ba<_;omega) (Hr (Ba) (by omega))).trans q0,(Ho.cell_far ⟨Ba,1,none⟩ (by show Ba<_;omega) (Hr (Ba) (by omega))).trans q1,(Ho.cell_far ⟨Ba,2,none⟩ (by show Ba<_;omega) (Hr (Ba) (by omega))).trans q2,(Ho.cell_far ⟨Ba,3,none⟩ (by show Ba<_;omega) (Hr (Ba) (by omega))).trans q3,(Ho.cell_far ⟨Ba,4,none⟩ (by show Ba<_;omega) (Hr (Ba) (by omega))).trans q4,(Ho.cell_far ⟨w.heap.size,0,none⟩ (by show w.heap.size<_;omega) (Hr (w.heap.size) (by omega))).trans q5,(Ho.cell_far ⟨w.heap.size,1,none⟩ (by show w.heap.size<_;omega) (Hr (w.heap.size) (by omega))).trans q6,(Ho.cell_far ⟨w.heap.size,2,none⟩ (by show w.heap.size<_;omega) (Hr (w.heap.size) (by omega))).trans q7,(Ho.cell_far ⟨W6.heap.size,0,none⟩ (by show W6.heap.size<_;omega) (Hr (W6.heap.size) (by omega))).trans q8,(Ho.cell_far ⟨W6.heap.size,1,none⟩ (by show W6.heap.size<_;omega) (Hr (W6.heap.size) (by omega))).trans q9⟩
        clear Ho H6
        go_wp2_with fail
        refine hK.o _ _ Jo λhQ=>?_;clear hK K;clear Jo;refine tk 7 ?_;refine tk 8 ?_;refine tk 9 ?_;refine tk 10 ?_;refine tk 11 ?_;refine Qn (by kernel_rfl) ?_ _;clear hQ
        go_wp2
        go_meet
        exact ⟨_,_,_,rfl,rfl,H0.o,jg.o⟩
       case rest=>
        obtain ⟨ua,un,uc,rfl,rfl,H6,Hn⟩:=hcut;have HB:=qI Hn;have H0:=qI H6;have jy:X.heap.size<=wc.heap.size:=Hn.size;clear Hn H6 Jf hl Jc hR HZ hB he HV H3 Jg;generalize wc=W7 at *
        by_cases hG:(aV t.m s p).1=0
        ·have HG:=qI hG;have H0:=qI (H0.o hG);rw [hG,show aL (((0:Nat)):Int)=.nilIface from rfl];clear hG;have Hz:=qI (TC hy.o Hw.o He.o HH.o Hi HG.o)
         go_upto_region 15 with fail
         go_cut [12] (λx12 wd=>∃ va vn vc,x12=.slice va vn vc/\aX (av (four N Ba Bd Bm) wd) (.slice va vn vc) (ct t.hs ⟨p,(aV t.m s p).2⟩)/\Below X.heap.size X wd)
         case first=>
          have Hc:Hu (Below X.heap.size X W7.drew):=bF HB.o;have J8:Hu (cq (fresh X.heap.size W7.drew) (.slice ua un uc) (aV t.m s p).2):=H0.o.le (Dv (bF (Q0 _ _)) (lR));refine wp_region_held_drew (S:=uk Ba tb t ha hc w.heap.size p ca cc) (by kernel_rfl) (Hf.o _ Hc.o) λhQ=>?_;generalize W7.drew=V at *;refine tk 0 ?_;refine tk 1 ?_;refine tk 2 ?_;refine tk 3 ?_;refine tk 5 ?_;refine tk 6 ?_;refine tk 8 ?_;refine rd 4 λK hK=>?_;go_simp
          go_wp2_with fail
          refine (Dy (.slice ha t.hs.length hc) t.hs V (av (four N Ba Bd Bm) w) jh.o ((dm _ _).trans (aM.of_below (Hh.o _ Hc.o))) (by omega)).mono ?_;rintro e C1 ⟨u,cvv,gvv,rfl,hw,JF,hb⟩;obtain ⟨l,Hp,Hq,Hy⟩:=ET hw JF;obtain ⟨va,vc,hu⟩:=fj Hq;subst hu;have jH:l.length<=12:=by have:=congrArg List.length Hp;simp at this;omega
          have HL:=qI Hp;have HI:=qI Hy;have Jt:=qI hb;have HN:=qI (Hc.o.trans (hb.mono Hc.o.size));have hs:Hu (∀ j,(Value.slice va l.length vc).ownBlock=some j->V.heap.size<=j/\j<C1.heap.size):=λj hj=>Hq.lt j hj
          have JL:=qI Hq;have jN:=Hc.o.size;have jE:=hb.size;clear hw JF hb Hp Hq Hy
          go_wp2_with fail
          refine hK.o _ _ (Hf.o _ HN.o) λhQ=>?_;clear hK K;refine rd 7 λK hK=>?_;go_simp
          go_wp2_with fail
          refine (DX p.nm p.pr p.cs (.slice ca p.cs.length cc) C1 (H8.o.below HN.o) (by have:=(jk He.o).2.2.1;omega) (λq hq=>by have:=((jk He.o).2.2.2 (ae p.cs q) (fF _ _ _ hq)).2.2.2.2.2.1;omega)).mono ?_;rintro e C2 ⟨pa,pcc,rfl,JE,HC⟩;have HU:=qI (HN.o.trans (HC.mono HN.o.size));have JC:=qI (Jt.o.trans (HC.mono Jt.o.size));have J5:=qI JE;have hY:=qI (rb JL.o λg hg=>HC.block g (hs.o g hg).2);have jF:=HC.size;clear JE HC
          go_wp2_with fail
          refine hK.o _ _ (Hf.o _ HU.o) λhQ=>?_;clear hK K;refine tk 9 ?_;have hm:=qI (HU.o.alloc HU.o.size (.cells #[.string p.nm,.int .i64 p.pr,.slice pa p.cs.length pcc,.slice ua un uc] 101));have Js:=qI (JC.o.alloc JC.o.size (.cells #[.string p.nm,.int .i64 p.pr,.slice pa p.cs.length pcc,.slice ua un uc] 101));have jq:=qI (aU C2 (.cells #[.string p.nm,.int .i64 p.pr,.slice pa p.cs.length pcc,.slice ua un uc] 101) rfl);have Jp:=qI (EB C2 (⟨p,(aV t.m s p).2⟩,.slice pa p.cs.length pcc,.slice ua un uc) 101);dsimp only at Jp;have Jz:Hu ((C2.alloc (.cells #[.string p.nm,.int .i64 p.pr,.slice pa p.cs.length pcc,.slice ua un uc] 101)).heap.size=C2.heap.size+1):=by unfold Hu;simp
          have hX:=qI (hY.o.alloc (.cells #[.string p.nm,.int .i64 p.pr,.slice pa p.cs.length pcc,.slice ua un uc] 101));have JJ:=qI ((Q0 C2.heap.size C2).alloc (lR) (.cells #[.string p.nm,.int .i64 p.pr,.slice pa p.cs.length pcc,.slice ua un uc] 101));refine rd 10 λK hK=>?_;go_simp
          go_wp2_with fail
          refine hK.o _ _ (Hf.o _ hm.o) λhQ=>?_;clear hK K;generalize C2.alloc (.cells #[.string p.nm,.int .i64 p.pr,.slice pa p.cs.length pcc,.slice ua un uc] 101)=C3 at *;refine rd 11 λK hK=>?_;go_simp
          go_wp2_with fail
          refine (hU.o l HL.o V.heap.size (.slice va l.length vc) (⟨p,(aV t.m s p).2⟩,.slice pa p.cs.length pcc,.slice ua un uc) ⟨C2.heap.size,0,none⟩ C3 hX.o Jp.o (xP _ _ _ _ _ _ _) (by have:=Jz.o;omega) (λe=>by have:=(hs.o _ e).2;have e':C2.heap.size<C1.heap.size:=this;omega) ⟨_,_,jq.o⟩ λx hx=>TH (HI.o x hx)).mono ?_;rintro e C4 ⟨v',rfl,Hb,Ha⟩;obtain ⟨va',vc',jt⟩:=fj Hb;subst jt;have h9:Hu (Below X.heap.size X C4):=hm.o.grown Ha hm.o.size (λj hj=>by have:=(hs.o j hj).1;omega);have Jl:Hu (Below V.heap.size V C4):=Js.o.grown Ha Js.o.size λj hj=>(hs.o j hj).1;have HO:Hu (aX (av (four N Ba Bd Bm) C4) (.slice va' (l.length+1) vc') (ct t.hs ⟨p,(aV t.m s p).2⟩)):=by
           have jK:=Ha.size;have jL:=Jz.o;have q1:aZ (av (four N Ba Bd Bm) C4) (.slice pa p.cs.length pcc) p.cs:=J5.o.le (bP (λj hj hn=>by
            have hn:¬ j<C1.heap.size:=hn;refine ⟨λe=>by have:=Jd.o j e;omega,(Ha.block j (by omega) (λe=>by have:=(hs.o j e.symm).2;omega)).trans (JJ.o.block j hj)⟩) (by omega))
           have q2:cq (av (four N Ba Bd Bm) C4) (.slice ua un uc) (aV t.m s p).2:=J8.o.le (bP (λj hj hn=>by
            have hn:¬ j<X.heap.size:=hn;exact ⟨λe=>by have:=Jd.o j e;omega,Jl.o.block j hj⟩) Jl.o.size)
           have:=TI (y:=(⟨p,(aV t.m s p).2⟩,.slice pa p.cs.length pcc,.slice ua un uc)) Hb Jd.o (by omega) HI.o (Hh.o _ h9.o) q1 q2
           rw [HL.o] at this;exact this
          clear Hb Ha
          go_wp2_with fail
          refine hK.o _ _ (Hf.o _ h9.o) λhQ=>?_;clear hK K;refine tk 12 ?_;refine Qn (by kernel_rfl) ?_ _;clear hQ
          go_wp2
          go_meet
          exact ⟨_,_,_,rfl,HO.o,h9.o⟩
         case rest=>
          obtain ⟨va,vn,vc,rfl,Jr,Hn⟩:=hcut;have HO:=qI Jr;have Hj:=qI Hn;have jC:X.heap.size<=wc.heap.size:=Hn.size;clear Jr Hn H0 HB;generalize wc=W8 at *;have HF:=qI Hz.o.1;have hk:=qI (py Hg.o HF.o);have x5:W8.cell? ⟨Ba,5,none⟩=some (.pointer (some ⟨Bd,0,none⟩)):=aa ((Hj.o.block Ba (by omega)).trans Ht.o) 5;have jc:Hu (bj W8 Bd dk):=mK (HE.o.below (Hh.o _ Hj.o)).disk Hg.o;have hP:=qI (xD Bd dk (.slice va vn vc) (ct t.hs ⟨p,(aV t.m s p).2⟩) W8 jc.o (.inl Hg.o.2.2) (HO.o.le (dm _ _)) (HT.o.below (Hh.o _ Hj.o)))
          by_cases hlong:6000<(bi (ct t.hs ⟨p,(aV t.m s p).2⟩)).length
          ·rw [hk.o.2.1 hlong,show aL (((2:Nat)):Int)=.iface 108 (.int .i64 2) from rfl] at hP;have HK:=qI hlong;clear hlong
           go_wp2_with fail
           refine hP.o.mono ?_;rintro e W9 ⟨rfl,H2,Hs⟩;have Jv:=qI H2;have HM:=qI Hs;clear H2 Hs x5
           go_wp2
           go_ret;exact ⟨by rw [EQ He.o HH.o Hi HR.o Hw.o HG.o HK.o];rfl,TJ HX.o (Hh.o _ Hj.o) HM.o Jv.o hk.o.2.2 (Sj Hg.o HF.o HK.o) (EQ He.o HH.o Hi HR.o Hw.o HG.o HK.o)⟩
          ·rw [hk.o.1 (by omega),show aL (((0:Nat)):Int)=.nilIface from rfl] at hP;have HK:=qI hlong;clear hlong
           go_wp2_with fail
           refine hP.o.mono ?_;rintro e W9 ⟨rfl,H2,Hs⟩;have Jv:=qI H2;have HM:=qI Hs;have jA:=Hs.size;have JT:w.heap.size<=W8.heap.size:=(Hh.o _ Hj.o).size;have jj:Hu (bC W9 Be Bd Bm n (dk.save (ct t.hs ⟨p,(aV t.m s p).2⟩)).2.n (dk.save (ct t.hs ⟨p,(aV t.m s p).2⟩)).2.k λa=>a∈aE t.hs):=rm (HE.o.below (Hh.o _ Hj.o)) Hs H2 hk.o.2.2;have jf:Hu (aX (av (gD Bd Bm) W9) (.slice va vn vc) (ct t.hs ⟨p,(aV t.m s p).2⟩)):=HO.o.le (bP (λj hj hn=>⟨λe=>hn (.inr (.inr e)),Hs.block j hj λe=>hn (.inr (.inr (.inl (by injection e))))⟩) Hs.size);have JG:Hu (bx W9 Ba tb t.m Bd Be (.slice ha t.hs.length hc) s.cp pb):=(Hs.block Ba (by omega) λe=>ab1 (by injection e)).trans (Ht.o.below Hj.o);have x6:W9.cell? ⟨Ba,6,none⟩=some (.pointer (some ⟨Be,0,none⟩)):=aa JG.o 6;have JO:=qI (tM Be Bd Bm n (dk.save (ct t.hs ⟨p,(aV t.m s p).2⟩)).2.n (dk.save (ct t.hs ⟨p,(aV t.m s p).2⟩)).2.k (aE t.hs) (.slice va vn vc) (ct t.hs ⟨p,(aV t.m s p).2⟩) W9 jj.o jf.o HF.o hn);clear H2 Hs x5
           go_wp2_with fail
           refine JO.o.mono ?_;rintro e W10 ⟨rfl,⟨n',Jk,hC⟩,Hm⟩;have Jb:=qI hC;have H4:Hu (bx W10 Ba tb t.m Bd Be (.slice ha t.hs.length hc) s.cp pb):=(Hm.block Ba (by omega) ab1 ab2).trans JG.o;have JX:=Hm.size;have h7:=qI Hm;have jr:=qI Jk;have h2:=hZ.o.pool.lt;have H5:Hu (∀ j,j<w.heap.size->¬ (four N Ba Bd Bm) j->W10.heap[j]?=w.heap[j]?):=λj hj hn=>(Hm.block j (by omega) (λe=>hn (.inr (.inr (.inl e)))) λe=>hn (.inr (.inr (.inr e)))).trans ((HM.o.block j (by omega) λe=>hn (.inr (.inr (.inl (by injection e))))).trans ((Hh.o _ Hj.o).block j hj))
           have hA:Hu (aJ W10 pb db ao pc t.ds s.us):=by
            have:=mS hZ.o.pool (H5.o pb h2 Jq.o) (λh0=>H5.o db (hZ.o.pool.at0 h0).2.2 (Jx.o h0)) (by omega)
            rw [lr Hw.o] at this;exact this
           have h3:Hu (aX (av (λj=>j=Ba) W10) (.slice va vn vc) (ct t.hs ⟨p,(aV t.m s p).2⟩)):=HO.o.le (bP (λj hj hn=>⟨λe=>hn (.inr (.inl e)),(Hm.block j (by omega) (λe=>hn (.inr (.inr (.inl e)))) λe=>hn (.inr (.inr (.inr e)))).trans (HM.o.block j hj λe=>hn (.inr (.inr (.inl (by injection e)))))⟩) (by omega));obtain ⟨s',h5⟩:=Hz.o.2.1;have JD:=qI h5;have ho:kM (ct t.hs ⟨p,(aV t.m s p).2⟩):=(cL.1 HF.o).2.1;have Hx:(ct t.hs ⟨p,(aV t.m s p).2⟩).length<=100:=by have:=(cL.1 HF.o).1;omega
           have jd:=qI (tR Ba tb t.m Bd Be (.slice ha t.hs.length hc) s.cp pb db ao pc t.ds s.us (.slice va vn vc) (ct t.hs ⟨p,(aV t.m s p).2⟩) s' W10 H4.o ⟨_,_,_,rfl⟩ hA.o (λe=>Jq.o (.inr (.inl e))) (λh0 e=>Jx.o (by rw [lr Hw.o];exact h0) (.inr (.inl e))) hz.o h3.o hO ho Hx h5);clear hC Hm Jk x6 h5 ho Hx
           go_wp2_with fail
           refine jd.o.mono ?_;have hF:Hu (w.heap.size<=W10.heap.size):=(((Apart.of_below (Hh.o _ Hj.o)).trans (fp HM.o (K:=three Ba Bd Bm) λj e _=>.inr (.inl (by injection e with e;exact e.symm)))).trans (tZ h7.o)).size;rintro e W11 ⟨rfl,⟨pb2,db2,ao2,c2,h4,Ji,JB,hS⟩,Hk⟩;have hV:Hu (be W11 N Ba Bd Be Bm ⟨t.m,t.ds,(ct t.hs ⟨p,(aV t.m s p).2⟩)⟩ (dk.save (ct t.hs ⟨p,(aV t.m s p).2⟩)).2 n'):=HX.o.next (Hh.o _ Hj.o) (ro J0.o hD.o (λj hj hn=>(Hh.o _ Hj.o).block j hj) JT) hD.o HO.o HM.o h7.o Hk h4 Ji JB hS Jb.o H4.o ⟨hy.o.devs,HF.o,⟨_,JD.o⟩⟩ JD.o hk.o.2.2 ⟨by have:=HK.o;omega,xF Hg.o HO.o.cps HF.o (by have:=HK.o;omega)⟩;have je:Hu (jz w W11 Ba):=.inr (xO h4 Ji (by have:=hF.o;omega) (λh0=>by have:=hF.o;have:=hS h0;omega));have ju:Hu (Apart (three Ba Bd Bm) w W11):=(((Apart.of_below (Hh.o _ Hj.o)).trans (fp HM.o λj e _=>.inr (.inl (by injection e with e;exact e.symm)))).trans (tZ h7.o)).trans ⟨Hk.os,Hk.tape,Hk.output,Hk.size,λj hj hn=>Hk.block j hj λe=>hn (.inl e)⟩;clear h4 Ji JB hS Hk
           go_wp2
           go_ret;have H7:=TD He.o HH.o Hi HR.o Hw.o HG.o HK.o;exact ⟨by rw [H7];rfl,by rw [H7];exact ⟨_,n',⟨jr.o,je.o⟩,hV.o⟩,ju.o⟩
        ·have HG:=qI hG;rw [eV hG];clear hG
         go_wp2
         go_ret;exact ⟨by rw [EP He.o HH.o Hi HR.o Hw.o HG.o,eV HG.o];rfl,rq HX.o (Hh.o _ HB.o) (EP He.o HH.o Hi HR.o Hw.o HG.o)⟩
      ·have HR:=qI hr;rw [hr];clear hr
       go_wp2
       go_ret;exact ⟨by rw [EO He.o HH.o Hi HR.o];rfl,rq HX.o (Hh.o _ Hl.o) (EO He.o HH.o Hi HR.o)⟩
 ·have He:=qI hpF;rw [eV hpF];clear hpF
  go_wp2
  go_ret;exact ⟨by rw [EL He.o,eV He.o];rfl,rq HX.o (Hh.o _ H1.o) (EL He.o)⟩
