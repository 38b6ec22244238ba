import Derived.Test.YtjlblidnfebmiaaGreatDoorY43
import Derived.Test.YtjlblidnfebmiaaGreatDoorY46
set_option maxRecDepth 100000
set_option maxHeartbeats 16000000
open Go Go.RowKit Go.Shelf
attribute [local go_sem] Oper.semAt_some
open Go.Proofs.Tryz
namespace Go.Proofs.YtjlblidnfebmiaaGreatDoor
theorem Ii{s:Dk}{hs:List ae}(a:∀h∈hs,∀g∈h.gs,g.cp<18446744073709551616)(h:(s.save hs).1=0):Kept (s.save hs).2 hs:=⟨(yy a h).1.load,(yy a h).2.1,(yy a h).1.size⟩
theorem An{W W':World}{i b j n:Nat}{u q:Sd}{l:Int}{d:Bool}{rs:List Rn}(h:bz W i b j n u q l d (λa=>a∈rs))(g:W.grownBy W' (some b)):pQ W' i b j n rs:=by
 obtain⟨p,a2,a3⟩:=h.apart;obtain⟨A,y,B⟩:=h.lt;obtain⟨o,f,s,m,x,v⟩:=h;have c:dY W W':=⟨g.size,λk w z c=>g.block k (gS c).1 (λe=>by
  injection e with e
  have f:W.heap[b]?=_:=f;rw[<- e,c] at f;cases f)⟩
 obtain⟨r,t⟩:=lV x c;exact⟨o.block (g.block i o.lt λe=>p (by injection e)),s,m.block (g.block j m.lt λe=>a3 (by grind)),r,λa=>by rw[t];exact v a⟩
def Ij (w w':World) (N:Nat->Prop) (Ba Bd Be Bm:Nat) (t:aT) (dk:Dk) (n:Nat) (p:aj) (e:Ending):Prop:=
 (e=.returned (aD ((aV t p).1:Nat))/\∃dk' n',((n'<=n+eQ (aL t.hs) (aL (aV t p).2)/\gQ w w' Ba)/\(dk.l=-1->dk'.l=-1))/\aE w' N Ba Bd Be Bm ⟨t.m,t.ds,(aV t p).2⟩ dk' n')\/mY w' Be Bd Bm n dk t.hs (aV t p).2 e
section
variable{N:Nat->Prop}{Ba Bd Be Bm:Nat}{t:aT}{dk:Dk}{n:Nat}{p:aj}
theorem p9{w w':World}{e:Ending}{A:Prop}(h:e=.returned (aD ((aV t p).1:Nat))/\(∃a b,((b<=n+eQ (aL t.hs) (aL (aV t p).2)/\gQ w w' Ba)/\(dk.l=-1->a.l=-1))/\aE w' N Ba Bd Be Bm ⟨t.m,t.ds,(aV t p).2⟩ a b)/\A):Ij w w' N Ba Bd Be Bm t dk n p e/\A:=⟨.inl ⟨h.1,h.2.1⟩,h.2.2⟩
theorem tS{w W:World}{e:Nat}(h:aE w N Ba Bd Be Bm t dk n)(b:Bw w W)(d:aV t p=(e,t.hs)):(∃a c,((c<=n+eQ (aL t.hs) (aL (aV t p).2)/\gQ w W Ba)/\(dk.l=-1->a.l=-1))/\aE W N Ba Bd Be Bm ⟨t.m,t.ds,(aV t p).2⟩ a c)/\Apart (three Ba Bd Bm) w W:=by
 rw[d];exact⟨⟨dk,n,⟨⟨Nat.le_add_right _ _,.inl (b.block Ba h.poolAt.1)⟩,id⟩,h.keep b⟩,Apart.of_below b⟩
theorem YH{w W W':World}{e:Nat}{a:Dk}(h:aE w N Ba Bd Be Bm t dk n)(c:Bw w W)(d:W.grownBy W' (some Bd))(ah:bu W' Bd a)(g:fh a)(b:a=dk)(i:aV t p=(e,t.hs)):(∃a f,((f<=n+eQ (aL t.hs) (aL (aV t p).2)/\gQ w W' Ba)/\(dk.l=-1->a.l=-1))/\aE W' N Ba Bd Be Bm ⟨t.m,t.ds,(aV t p).2⟩ a f)/\Apart (three Ba Bd Bm) w W':=by
 rw[i];exact⟨⟨a,n,⟨⟨Nat.le_add_right _ _,.inl ((d.block Ba (Q1 h.poolAt.1 c.size) λe=>h.apart.1 (by injection e)).trans (c.block Ba h.poolAt.1))⟩,λe=>by rw[b];exact e⟩,(h.keep c).disk d ah g (b ▸ h.txt.2)⟩,(Apart.of_below c).trans (fv d λj e _=>.inr (.inl (by grind)))⟩
end
abbrev gr:=λ(x0:aj) (x1:Option Addr) (x2:Nat)=>(.cells #[x0.nm,(x0.pr:Int),.slice x1 x0.cs.length x2] 49:Obj)
abbrev qb:=λ(x0:aj) (x1:Option Addr) (x2:Nat) (x3:Option Addr) (x4 x5:Nat)=>(.cells #[x0.nm,(x0.pr:Int),.slice x1 x0.cs.length x2,.slice x3 x4 x5] 101:Obj)
abbrev tT:=λ(x0:aC) (x1:Nat)=>(.cells #[.int .u64 x0.cp,x1] 87:Obj)
abbrev wk:=λ(Ba tb:Nat) (t:aT) (ha:Option Addr) (hc y5:Nat) (p:aj) (ca:Option Addr) (cc:Nat) (w':World)=>cl w' Ba (0) tb/\cl w' Ba (1) (.int .u64 t.m.op)/\cl w' Ba (2) (.int .u8 t.m.nd)/\cl w' Ba (3) (t.m.nb:Int)/\cl w' Ba (4) (t.m.pol:Int)/\cl w' Ba (7) (.slice ha t.hs.length hc)/\cl w' y5 (0) p.nm/\cl w' y5 (1) (p.pr:Int)/\cl w' y5 (2) (.slice ca p.cs.length cc)
abbrev Ao:=λ(Ba tb:Nat) (t:aT) (y3:Nat) (p:aj) (ca:Option Addr) (cc y7:Nat) (s:aC) (pb':Nat) (w':World)=>cl w' Ba (0) tb/\cl w' Ba (1) (.int .u64 t.m.op)/\cl w' Ba (2) (.int .u8 t.m.nd)/\cl w' Ba (3) (t.m.nb:Int)/\cl w' Ba (4) (t.m.pol:Int)/\cl w' y3 (0) p.nm/\cl w' y3 (1) (p.pr:Int)/\cl w' y3 (2) (.slice ca p.cs.length cc)/\cl w' y7 (0) (.int .u64 s.cp)/\cl w' y7 (1) pb'
theorem Ik{N:Nat->Prop}{Ba Bd Be Bm:Nat}{t:aT}{dk:Dk}{n:Nat}(p:aj){cv:Value}{w:World}(hM:aE w N Ba Bd Be Bm t dk n)(hp:ba (av (four N Ba Bd Bm) w) cv p.cs)(ht:cJ w)(hn:n+36<=1000)(hins:∀l:List (ae × Value × Value),l.map Prod.fst=t.hs->v7 l (dT t.hs p.nm)) :
  Calls pg 19 #[.pointer (some ⟨Ba,0,none⟩),cQ p cv] w λe w'=>Ij w w' N Ba Bd Be Bm t dk n p e/\Apart (three Ba Bd Bm) w w':=by
 obtain⟨i0,hi,jB,jk,jf⟩:=info_parts yv;have HU:=qI hM;obtain⟨h1,HZ,H6,hE,jF,JN,JA,je,tb,b,tc,hv,pb,db,ao,pc,s,k1,k2,k3,k4,k5,k6,k7⟩:=hM;obtain⟨a1,a2,a3⟩:=dm.1 h1.held;have hO:Hu (mW t.hs):=a2;have h8:=qI a3;have hH:=qI h1;have Hg:=qI HZ;have hI:=qI H6;have HE:=qI hE;have jR:=qI JA;have jO:=qI JN;obtain⟨el1,el2,el3⟩:=hE.lt;obtain⟨ea1,ea2,ea3⟩:=hE.apart;obtain⟨ab1,ab2,ab3⟩:=jF;have jM:=k1.lt;obtain⟨ha,hc,ja,ji,J5⟩:=id k2;subst ja;obtain⟨ca,cc,jx,jw,jc⟩:=id hp;subst jx;have jt:=qI k2;have jC:=qI k3;have HJ:=qI k4;have Je:=qI k5;have JS:=qI k6;have JX:=qI k7;have HT:=qI ht;have Jq:=qI hins;have H5:=qI ((Q0 w w).alloc (lR) (gr p ca cc));have hV:=qI (aY w (gr p ca cc) rfl);have jV:(w.alloc (gr p ca cc)).heap.size=w.heap.size+1:=by simp
 have HN:Hu (b6 (w.alloc (gr p ca cc)) Ba tb t.m Bd Be (.slice ha t.hs.length hc) s.cp pb):=k1.below H5;have hW:Hu (bf (w.alloc (gr p ca cc)) (.slice ha t.hs.length hc) t.hs):=(k2.le (df)).below H5;have hX:Hu (ba (w.alloc (gr p ca cc)) (.slice ca p.cs.length cc) p.cs):=(hp.le (df)).below H5;have jv:Hu (ey (w.alloc (gr p ca cc)) tb b 0 tc t.m):=(X7 k3 H6).below H5;have jH:Hu (aM (w.alloc (gr p ca cc)) pb db ao pc t.ds s.us):=by unfold Hu;rw[<- lg k4];exact k5.pool.below H5
 have hF:Hu (fS t.ds):=lr h1.devs;have h5:=k3.op;have JT:=qI (xX p hX);have Jl:Hu (∀j,(four N Ba Bd Bm) j->j<w.heap.size):=λj hj=>by
  grind
 clear h1 HZ H6 hE JN JA je k1 k2 k3 k4 k5 k6 k7 a2 a3 ji J5 jw jc hp ht hins;unfold cQ
 go_enter func19,ntmps19
 go_wp2
 generalize (w.alloc (gr p ca cc))=X at *;refine JT.o.m λW1 JM=>?_;have H8:=qI JM;clear JM JT;have Hs:Hu (∀W,Bw X W->(wk Ba tb t ha hc w p ca cc) W):=λW hb=>⟨ad ((hb.block (Ba) (by omega)).trans HN) 0,ad ((hb.block (Ba) (by omega)).trans HN) 1,ad ((hb.block (Ba) (by omega)).trans HN) 2,ad ((hb.block (Ba) (by omega)).trans HN) 3,ad ((hb.block (Ba) (by omega)).trans HN) 4,ad ((hb.block (Ba) (by omega)).trans HN) 7,ad ((hb.block (w.heap.size) (by omega)).trans hV) 0,ad ((hb.block (w.heap.size) (by omega)).trans hV) 1,ad ((hb.block (w.heap.size) (by omega)).trans hV) 2⟩
 have Hp:Hu (∀W,Bw X W->Bw w W):=λW hb=>H5.o.trans (hb.mono H5.o.size)
 by_cases hpF:br p=0
 ·have He:=qI hpF;rw[hpF,show aD (((0:Nat)):Int)=.nilIface from rfl];clear hpF
  go_upto_region 4 with fail
  go_cut [6,7] (λx6 x7 wc=>x6=.int .i64 (dT t.hs p.nm:Nat)/\x7=.bool (dN t.hs p.nm)/\Bw X wc)
  case first=>
   have Hc:Hu (Bw X W1.drew):=bO H8;refine wp_region_held_drew (S:=wk Ba tb t ha hc w p ca cc) (by kernel_rfl) (Hs.o _ Hc) λhQ=>?_;generalize W1.drew=V at *;refine tk 0 ?_;refine tk 1 ?_;refine tk 2 ?_;refine tk 3 ?_;refine tk 4 ?_;refine tk 5 ?_;refine rd 6 λK hK=>?_;go_simp
   go_wp2
   refine (FB p.nm (hW.o.below Hc) (by omega) h8).m λW2 H0=>?_;have HX:=Hc.t H0;clear H0
   go_wp2
   refine hK.k (Hs.o _ HX) λhQ=>?_;refine tk 7 ?_;refine tk 8 ?_;refine tk 9 ?_;refine tk 10 ?_;refine tk 11 ?_;refine Qn (by kernel_rfl) ?_ _;clear hQ
   go_wp2
   go_meet
   exact⟨rfl,rfl,HX⟩
  case rest=>
   obtain⟨rfl,rfl,Hz⟩:=hcut;have HM:=qI Hz;clear Hz
   rcases two (dN t.hs p.nm) with hh|hh
   ·have HH:=qI hh;rw[hh];clear hh
    go_wp2
    go_ret;exact p9 ⟨by rw[Hj He.o HH.o];rfl,tS HU (Hp.o _ HM) (Hj He HH)⟩
   ·have HH:=qI hh;rw[hh];clear hh;have x7:cl wc Ba (7) (.slice ha t.hs.length hc):=(Hs.o _ HM).2.2.2.2.2.1
    by_cases h12:12<=t.hs.length
    ·go_wp2
     go_ret;exact p9 ⟨by rw[Hk He.o HH.o h12];rfl,tS HU (Hp.o _ HM) (Hk He HH h12)⟩
    ·have Hf:t.hs.length<12:=by omega
     clear h12
     go_upto_region 9 with fail
     clear x7;have Jx:Hu (∀q∈t.hs.map ae.pod++[p],iy q.cs):=λq hq=>by
      rcases Qi.1 hq with hq|hq
      ·obtain⟨x,hx,rfl⟩:=Qk.1 hq;exact ny (hO.o x hx).1
      ·rw[Qm.1 hq];exact ny He
     have Jo:(t.hs.map ae.pod++[p]).length<=100:=by simp;omega
     have ho:=qI (Hb Jx Jo)
     go_cut [52] (λx wd=>x=.bool (!cr t.m (t.hs.map ae.pod++[p]))/\Bw X wd)
     case first=>
      have Hc:Hu (Bw X wc.drew):=bO HM;refine wp_region_held_drew (S:=wk Ba tb t ha hc w p ca cc) (by kernel_rfl) (Hs.o _ Hc) λhQ=>?_;generalize wc.drew=V at *;refine tk 0 ?_;refine tk 1 ?_;refine tk 2 ?_;refine tk 3 ?_;refine tk 4 ?_;refine tk 5 ?_;refine tk 6 ?_;refine tk 7 ?_;refine tk 9 ?_;refine rd2 8 10 (λK hK=>?_) λK hK=>?_
      focus
       go_simp
       go_wp2
       refine (Hh (.slice ha t.hs.length hc) t.hs V (hW.o.below Hc) (by omega)).mono ?_;rintro e P1 ⟨l,va,vc,rfl,HK,HO,HV,hb⟩;have JJ:=qI HK;have jp:=qI HO;have JR:=qI HV;have H1:=qI hb;have H8:=Hc.t hb;have Jn:=hb.size;have hZ:=Hc.o.size;have Ju:l.length<=12:=by have:=congrArg List.length HK;simp at this;omega
       clear hb HK HO HV
       go_wp2
       refine hK.k (Hs.o _ H8) λhQ=>?_;refine rd 10 λK hK=>?_;have HX:=qI (H8.o.alloc H8.o.size (gr p ca cc));have J0:=qI (vd P1 p.nm p.pr (.slice ca p.cs.length cc) 49);have jL:Hu ((P1.alloc (gr p ca cc)).heap.size=P1.heap.size+1):=by unfold Hu;simp
       have Jy:=qI (jp.o.alloc (gr p ca cc));have H3:=qI (H1.o.alloc H1.o.size (gr p ca cc));go_simp
       go_wp2
       refine hK.k (Hs.o _ HX) λhQ=>?_;generalize P1.alloc (gr p ca cc)=ZQ at *
      rotate_left
      focus
       have Hw:=qI (Hc.o.alloc Hc.o.size (gr p ca cc));have jr:=qI (vd V p.nm p.pr (.slice ca p.cs.length cc) 49);have jh:Hu ((V.alloc (gr p ca cc)).heap.size=V.heap.size+1):=by unfold Hu;simp
       go_simp
       go_wp2
       refine hK.k (Hs.o _ Hw) λhQ=>?_;generalize V.alloc (gr p ca cc)=Z5 at *;refine rd 8 λK hK=>?_;go_simp
       go_wp2
       refine (Hh (.slice ha t.hs.length hc) t.hs Z5 (hW.o.below Hw) (by omega)).mono ?_;rintro e ZQ ⟨l,va,vc,rfl,HK,HO,HV,hb⟩;have JJ:=qI HK;have Jy:=qI HO;have JR:=qI HV;have H3:=qI hb;have HX:=Hw.t hb;have Jn:=hb.size;have hZ:=Hw.o.size;have Ju:l.length<=12:=by have:=congrArg List.length HK;simp at this;omega
       have J0:Hu (∀j u,(iG (⟨p.nm,p.pr,[]⟩,.slice ca p.cs.length cc))[j]?=some u->ZQ.cell? ((V.heap.size:Addr).add j)=some u):=λj u hu=>by have:=jr.o j u hu;rw[Addr.add_lit] at this ⊢;exact (hb.cell (p:=⟨V,_,none⟩) (by show V.heap.size<_;have:=jh.o;omega)).trans this
       clear hb HK HO HV
       go_wp2
       refine hK.k (Hs.o _ HX) λhQ=>?_
      all_goals
       refine rd 11 λK hK=>?_;rw[if_pos (by rfl)]
       refine wp_append_lies (o := { dst := some 50, op := Op.call { callee := Callee.builtin Builtin.append, args := #[Operand.tmp 47, Operand.tmp 49], argTypes := #[67, 67] }, type := 67, pos := "ostler.go:76", after := #[{ on := 8, ground := Ground.data }, { on := 10, ground := Ground.data }, { on := 8, ground := Ground.chain }], guard := none }) _ _ _ 67 rfl _ 49 i0 (.agg #[.string ByteArray.empty, .int .i64 0, .slice none 0 0]) 3 48 underlying67 hi jB jk jf rfl (by decide) (.slice va l.length vc) _ _ rfl Jy ⟨_, 0, none⟩ 1 1 (iG (⟨p.nm, p.pr, []⟩, .slice ca p.cs.length cc)) rfl rfl J0 (yw _ _ _ _ _) (by decide) (by unfold maxLen; omega) (by omega) (by have:=H3.o.size;omega) ZQ.heap.size rfl ?_
       intro g' cap' W4 Ho Ha jl Jr;have h4:=λj (hj:(Value.slice va l.length vc).ownBlock=some j)=>(Jy.o.lt j hj).1
       have HM:Hu (Bw X W4):=HX.o.grown Ha HX.o.size (λj hj=>by have:=h4 j hj;omega);have hP:=qI (H3.o.grown Ha H3.o.size h4);have J4:Hu (iz W4 (.slice g' (l.length+1) cap') (t.hs.map ae.pod++[p])):=Aa (base:=_) ⟨l++[(p,.slice ca p.cs.length cc)],by rw[Qj,JJ.o];rfl,by rw[yt,Q2];exact Ho,λx hx=>by
        rcases Qi.1 hx with hx|hx
        ·exact (JR.o x hx).below hP
        ·rw[Qm.1 hx];exact hX.o.below HM⟩
       clear Ho Ha jl Jr h4;refine hK.k (Hs.o _ HM) λhQ=>?_;(try simp only[Act.put,s1,s2,s3]);refine rd 12 λK hK=>?_;go_simp
       go_wp2
       refine (FM tb t.m.op t.m.nd t.m.nb t.m.pol J4 Jo Jx h5 ho).m λQ4 hb=>?_;have JQ:=HM.t hb;clear hb
       go_wp2
       refine hK.k (Hs.o _ JQ) λhQ=>?_;refine tk 13 ?_;refine Qn (by kernel_rfl) ?_ _;clear hQ
       go_wp2
       go_meet
       exact⟨by grind[cr],JQ⟩
     case rest=>
      clear Jx Jo ho;obtain⟨rfl,Hz⟩:=hcut;have Hw:=qI Hz;clear Hz HM;generalize wc=W5 at *
      rcases two (cr t.m (t.hs.map ae.pod++[p])) with hr|hr
      ·have HR:=qI hr;rw[hr];clear hr;have x7:cl W5 Ba (7) (.slice ha t.hs.length hc):=(Hs.o _ Hw).2.2.2.2.2.1;have Ji:=qI (zU (HN.o.below Hw) (jH.o.below Hw) hF (hW.o.below Hw) h5 hO (by omega));rw[HJ.o] at Ji
       go_wp2
       refine Ji.o.mono ?_;rintro e W6 ⟨⟨pb',db',ao',pc',rfl,H2,J6,hL⟩,Jd⟩;have j0:X<=W5.heap.size:=Hw.o.size;have hy:=qI H2;have Ja:=Hw.t Jd;have js:=H2.pool.lt;have h6:=qI hL;have jP:=Jd.size;clear Jd H2 hL Ji x7;unfold sV;dsimp only;have hm:=qI (Ja.o.alloc Ja.o.size (tT s pb'));have hs:=qI ((Q0 W6 W6).alloc (lR) (tT s pb'));have he:=qI (HN.o.below hm);have hS:=qI ((hm.o.block w (by omega)).trans hV);have Jk:=qI (aY W6 (tT s pb') rfl);have jQ:(W6.alloc (tT s pb')).heap.size=W6.heap.size+1:=by simp
       have hw:=qI (hy.o.below hs)
       go_upto_region 12 with fail
       generalize (W6.alloc (tT s pb'))=Y at *;have Jh:Hu (∀W,Bw Y W->(Ao Ba tb t w p ca cc W6 s pb') W):=λW hb=>⟨ad ((hb.block (Ba) (by omega)).trans he) 0,ad ((hb.block (Ba) (by omega)).trans he) 1,ad ((hb.block (Ba) (by omega)).trans he) 2,ad ((hb.block (Ba) (by omega)).trans he) 3,ad ((hb.block (Ba) (by omega)).trans he) 4,ad ((hb.block (w.heap.size) (by omega)).trans hS) 0,ad ((hb.block (w.heap.size) (by omega)).trans hS) 1,ad ((hb.block (w.heap.size) (by omega)).trans hS) 2,ad ((hb.block (W6.heap.size) (by omega)).trans Jk) 0,ad ((hb.block (W6.heap.size) (by omega)).trans Jk) 1⟩
       go_cut [10,11] (λx10 x11 wd=>∃ua un uc,x10=.slice ua un uc/\x11=aD ((aW t.m s p).1:Nat)/\((aW t.m s p).1=0->ce (fresh X wd) (.slice ua un uc) (aW t.m s p).2)/\Bw X wd)
       case first=>
        have Hc:Hu (Bw Y Y.drew):=bO (Q0 _ _);refine wp_region_held_drew (S:=Ao Ba tb t w p ca cc W6 s pb') (by kernel_rfl) (Jh.o _ Hc) λhQ=>?_;generalize Y.drew=V at *;refine tk 0 ?_;refine tk 1 ?_;refine tk 2 ?_;refine tk 3 ?_;refine tk 4 ?_;refine tk 5 ?_;refine rd 6 λK hK=>?_;go_simp
        go_wp2
        have hT:=hm.t Hc;have jK:=Hc.o.size;refine (Xv (XZ jv hT (by omega)) (hw.o.below Hc) (hX.o.le (sw hT rfl (λj hj=>by omega))) He).mono ?_;rintro e V2 ⟨⟨ua,un,uc,rfl,hC⟩,HB⟩;have H9:Hu ((aW t.m s p).1=0->ce (fresh X V2) (.slice ua un uc) (aW t.m s p).2):=λh=>(hC h).le (qU (λ_ _ _=>rfl) (lR) (by omega))
        have J7:Hu (Bw X V2):=hT.o.grown HB hT.o.size (λj hj=>by injection hj with hj;omega);have JE:(Ao Ba tb t w p ca cc W6 s pb') V2:=by
         obtain⟨q0,q1,q2,q3,q4,q5,q6,q7,q8,q9⟩:=Jh.o _ Hc;have Hy:∀j,j<X.heap.size\/j=W6.heap.size->some j≠some pb':=λj hj e=>by injection e with e;omega
         exact⟨(HB.cell_far Ba (by show Ba<_;omega) (Hy (Ba) (by omega))).trans q0,(HB.cell_far ⟨Ba,1,none⟩ (by show Ba<_;omega) (Hy (Ba) (by omega))).trans q1,(HB.cell_far ⟨Ba,2,none⟩ (by show Ba<_;omega) (Hy (Ba) (by omega))).trans q2,(HB.cell_far ⟨Ba,3,none⟩ (by show Ba<_;omega) (Hy (Ba) (by omega))).trans q3,(HB.cell_far ⟨Ba,4,none⟩ (by show Ba<_;omega) (Hy (Ba) (by omega))).trans q4,(HB.cell_far w (by show w.heap.size<_;omega) (Hy (w.heap.size) (by omega))).trans q5,(HB.cell_far ⟨w,1,none⟩ (by show w.heap.size<_;omega) (Hy (w.heap.size) (by omega))).trans q6,(HB.cell_far ⟨w,2,none⟩ (by show w.heap.size<_;omega) (Hy (w.heap.size) (by omega))).trans q7,(HB.cell_far W6 (by show W6.heap.size<_;omega) (Hy (W6.heap.size) (by omega))).trans q8,(HB.cell_far ⟨W6,1,none⟩ (by show W6.heap.size<_;omega) (Hy (W6.heap.size) (by omega))).trans q9⟩
        clear HB hC
        go_wp2
        refine hK.k JE λhQ=>?_;clear JE;refine tk 7 ?_;refine tk 8 ?_;refine tk 9 ?_;refine tk 10 ?_;refine tk 11 ?_;refine Qn (by kernel_rfl) ?_ _;clear hQ
        go_wp2
        go_meet
        exact⟨_,_,_,rfl,rfl,H9,J7⟩
       case rest=>
        obtain⟨ua,un,uc,rfl,rfl,hC,Hz⟩:=hcut;have Js:=qI Hz;have H9:=qI hC;have jZ:X<=wc.heap.size:=Hz.size;clear Hz hC Jh hw Jk hS he hs hm Ja hy h6;generalize wc=W7 at *
        by_cases hG:(aW t.m s p).1=0
        ·have HG:=qI hG;have H9:=qI (H9.o hG);rw[hG,show aD (((0:Nat)):Int)=.nilIface from rfl];clear hG;have HY:=qI (XX hH HJ He HH Hf HG)
         go_upto_region 15 with fail
         go_cut [12] (λx12 wd=>∃va vn vc,x12=.slice va vn vc/\bf (av (four N Ba Bd Bm) wd) (.slice va vn vc) (ct t.hs ⟨p,(aW t.m s p).2⟩)/\Bw X wd)
         case first=>
          have Hc:Hu (Bw X W7.drew):=bO Js;have jI:Hu (ce (fresh X W7.drew) (.slice ua un uc) (aW t.m s p).2):=H9.o.le (Eh (bO (Q0 _ _)) (lR));refine wp_region_held_drew (S:=wk Ba tb t ha hc w p ca cc) (by kernel_rfl) (Hs.o _ Hc) λhQ=>?_;generalize W7.drew=V at *;refine tk 0 ?_;refine tk 1 ?_;refine tk 2 ?_;refine tk 3 ?_;refine tk 5 ?_;refine tk 6 ?_;refine tk 8 ?_;refine rd 4 λK hK=>?_;go_simp
          go_wp2
          refine (Ek jt ((df).trans (aR.of_below (Hp.o _ Hc))) (by omega)).mono ?_;rintro e C1 ⟨u,cvv,gvv,rfl,hA,JY,hb⟩;obtain⟨l,HK,HO,HV⟩:=Hr hA JY;obtain⟨va,vc,hu⟩:=fI HO;subst hu;have jS:l.length<=12:=by have:=congrArg List.length HK;simp at this;omega
          have HL:=qI HK;have HI:=qI HV;have JH:=qI hb;have H1:=Hc.t hb;have hR:Hu (∀j,(Value.slice va l.length vc).ownBlock=some j->V.heap.size<=j/\j<C1.heap.size):=λj hj=>HO.lt j hj
          have jD:=qI HO;have jY:=Hc.o.size;have jX:=hb.size;clear hA JY hb HK HO HV
          go_wp2
          refine hK.k (Hs.o _ H1) λhQ=>?_;refine rd 7 λK hK=>?_;go_simp
          go_wp2
          refine (FN p.nm p.pr (hX.o.below H1) (by have:=(jo He).2.2.1;omega) (λq hq=>by have:=((jo He).2.2.2 (af p.cs q) (iM _ _ _ hq)).2.2.2.2.2.1;omega)).mono ?_;rintro e C2 ⟨pa,pcc,rfl,JC,H0⟩;have H3:=H1.t H0;have JB:=JH.t H0;have jy:=qI JC;have h9:=qI (tG jD λg hg=>H0.block g (hR.o g hg).2);have jJ:=H0.size;clear JC H0
          go_wp2
          refine hK.k (Hs.o _ H3) λhQ=>?_;refine tk 9 ?_;have hP:=qI (H3.o.alloc H3.o.size (qb p pa pcc ua un uc));have JP:=qI (JB.o.alloc JB.o.size (qb p pa pcc ua un uc));have jb:=qI (aY C2 (qb p pa pcc ua un uc) rfl);have JL:=qI (G9 C2 (⟨p,(aW t.m s p).2⟩,.slice pa p.cs.length pcc,.slice ua un uc) 101);dsimp only at JL;have JK:Hu ((C2.alloc (qb p pa pcc ua un uc)).heap.size=C2.heap.size+1):=by unfold Hu;simp
          have h2:=qI (h9.o.alloc (qb p pa pcc ua un uc));have jG:=qI ((Q0 C2 C2).alloc (lR) (qb p pa pcc ua un uc));refine rd 10 λK hK=>?_;go_simp
          go_wp2
          refine hK.k (Hs.o _ hP) λhQ=>?_;generalize C2.alloc (qb p pa pcc ua un uc)=C3 at *;refine rd 11 λK hK=>?_;go_simp
          go_wp2
          refine (Jq.o l HL V (.slice va l.length vc) (⟨p,(aW t.m s p).2⟩,.slice pa p.cs.length pcc,.slice ua un uc) C2 C3 h2 JL (zX) (by have:=JK.o;omega) (λe=>by have:=(hR.o _ e).2;have e':C2<C1.heap.size:=this;omega) ⟨_,_,jb⟩ λx hx=>X8 (HI.o x hx)).mono ?_;rintro e C4 ⟨v',rfl,Ho,Ha⟩;obtain⟨va',vc',ju⟩:=fI Ho;subst ju;have Jc:Hu (Bw X C4):=hP.o.grown Ha hP.o.size (λj hj=>by have:=(hR.o j hj).1;omega);have JV:Hu (Bw V C4):=JP.o.grown Ha JP.o.size λj hj=>(hR.o j hj).1;have HS:Hu (bf (av (four N Ba Bd Bm) C4) (.slice va' (l.length+1) vc') (ct t.hs ⟨p,(aW t.m s p).2⟩)):=by
           have jU:=Ha.size;have jW:=JK.o;have q1:ba (av (four N Ba Bd Bm) C4) (.slice pa p.cs.length pcc) p.cs:=jy.o.le (bF (λj hj hn=>by
            have hn:¬ j<C1.heap.size:=hn;refine⟨λe=>by have:=Jl.o j e;omega,(Ha.block j (by omega) (λe=>by have:=(hR.o j e.symm).2;omega)).trans (jG.o.block j hj)⟩) (by omega))
           have q2:ce (av (four N Ba Bd Bm) C4) (.slice ua un uc) (aW t.m s p).2:=jI.o.le (bF (λj hj hn=>by
            have hn:¬ j<X.heap.size:=hn;exact⟨λe=>by have:=Jl.o j e;omega,JV.o.block j hj⟩) JV.o.size)
           have:=X9 (y:=(⟨p,(aW t.m s p).2⟩,.slice pa p.cs.length pcc,.slice ua un uc)) Ho Jl (by omega) HI (Hp.o _ Jc) q1 q2
           rw[HL.o] at this;exact this
          clear Ho Ha
          go_wp2
          refine hK.k (Hs.o _ Jc) λhQ=>?_;refine tk 12 ?_;refine Qn (by kernel_rfl) ?_ _;clear hQ
          go_wp2
          go_meet
          exact⟨_,_,_,rfl,HS,Jc⟩
         case rest=>
          obtain⟨va,vn,vc,rfl,JU,Hz⟩:=hcut;have HS:=qI JU;have Hv:=qI Hz;have jT:X<=wc.heap.size:=Hz.size;clear JU Hz H9 Js;generalize wc=W8 at *;have HF:=qI HY.o.1;have hU:=qI (Ib Hg HF);have x5:=cb ((Hv.o.block Ba (by omega)).trans HN) 5;have jz:Hu (bu W8 Bd dk):=tQ (HE.o.below (Hp.o _ Hv)).disk Hg;have H7:=qI (D6 jz (.inl Hg.o.2.2) (HS.o.le (df)) (HT.o.below (Hp.o _ Hv)))
          by_cases hlong:6000<(bw (ct t.hs ⟨p,(aW t.m s p).2⟩)).length
          ·rw[(hU.o.1 hlong).1,show aD (((2:Nat)):Int)=.iface 108 (2:Int) from rfl] at H7;have HQ:=qI hlong;clear hlong
           go_wp2
           refine H7.o.m λW9 ⟨HP,HA⟩=>?_;have hY:=qI HP;have HC:=qI HA;clear HP HA x5
           go_wp2
           go_ret;exact p9 ⟨by rw[Hn He.o HH.o Hf HR.o HJ.o HG.o HQ.o];rfl,YH HU (Hp.o _ Hv) HC hY (by rw[(hU.o.1 HQ.o).2];exact Hg.o) (hU.o.1 HQ).2 (Hn He HH Hf HR HJ HG HQ)⟩
          ·have HQ:=qI hlong
           rcases hU.o.2 (by omega) with⟨hz,JG,JD⟩|⟨h7,JZ⟩
           rotate_left
           ·rw[h7,gX] at H7;have jg:=qI JZ;have jm:=qI h7;clear hlong JZ h7
            go_wp2
            refine H7.o.m λW9 ⟨HP,HA⟩=>?_;have hY:=qI HP;have HC:=qI HA;clear HP HA x5
            go_wp2
            go_ret;have Hx:=Af He HH Hf HR HJ HG HQ;refine⟨.inr ⟨jg,rfl,_,n,_,by omega,hY,An (HE.o.below (Hp.o _ Hv)) HC,λkeep torn=>?_⟩,(Apart.of_below (Hp.o _ Hv)).trans (fv HC λj e _=>.inr (.inl (by grind)))⟩;rw[Hx];exact Ia HS.o.cps Hg.o.1 Hg.o.2.2 HU.o.txt.2 (by rw[jm.o];decide) keep torn
           have hJ:=qI JG;have JW:=qI JD;have J1:Hu (Kept (dk.save (ct t.hs ⟨p,(aW t.m s p).2⟩)).2 (ct t.hs ⟨p,(aW t.m s p).2⟩)):=Ii HS.o.cps hz;rw[hz,show aD (((0:Nat)):Int)=.nilIface from rfl] at H7;clear hlong hz JG JD
           go_wp2
           refine H7.o.m λW9 ⟨HP,HA⟩=>?_;have hY:=qI HP;have HC:=qI HA;have jN:=HA.size;have J3:w<=W8.heap.size:=(Hp.o _ Hv).size;have J8:Hu (bz W9 Be Bd Bm n (dk.save (ct t.hs ⟨p,(aW t.m s p).2⟩)).2.n (dk.save (ct t.hs ⟨p,(aW t.m s p).2⟩)).2.k (dk.save (ct t.hs ⟨p,(aW t.m s p).2⟩)).2.l false λa=>a∈aL t.hs):=Ak (HE.o.below (Hp.o _ Hv)) HA HP hJ;have jq:Hu (bf (av (gq Bd Bm) W9) (.slice va vn vc) (ct t.hs ⟨p,(aW t.m s p).2⟩)):=HS.o.le (bF (λj hj hn=>⟨λe=>hn (.inr (.inr e)),HA.block j hj λe=>hn (.inr (.inr (.inl (by injection e))))⟩) HA.size);have JI:Hu (b6 W9 Ba tb t.m Bd Be (.slice ha t.hs.length hc) s.cp pb):=(HA.block Ba (by omega) λe=>ab1 (by injection e)).trans (HN.o.below Hv);have x6:=cb JI 6;have jn:=qI (zJ (aL t.hs) hJ.o.2.1 J8 jq HF hn);clear HP HA x5
           go_wp2
           refine jn.o.mono ?_;rintro e W10 ⟨Jt,Hq⟩
           rcases Jt with⟨l',Jz,rfl,n',hB,HD⟩|⟨Hy,rfl,n',C,hB,HD⟩
           rotate_left
           ·have H4:=qI HD;have hl:=qI Hq;have Jj:=qI hB;have jj:=qI Hy;clear HD Hq hB Hy x6;rw[gX]
            go_wp2
            go_ret;have Hx:=Af He HH Hf HR HJ HG HQ;refine⟨.inr ?_,((Apart.of_below (Hp.o _ Hv)).trans (fv HC λj e _=>.inr (.inl (by grind)))).trans (tL hl)⟩;rw[Hx];exact Ic (λe=>jj.o (JW.o e)) rfl Jj H4 hJ (.inr J1)
           have Jb:=qI Jz;clear Jz;have H4:=qI HD;have hf:Hu (b6 W10 Ba tb t.m Bd Be (.slice ha t.hs.length hc) s.cp pb):=(Hq.block Ba (by omega) ab1 ab2).trans JI;have jE:=Hq.size;have hl:=qI Hq;have Jj:=qI hB;have Jm:=Je.o.pool.lt;have hD:Hu (∀j,j<w.heap.size->¬ (four N Ba Bd Bm) j->W10.heap[j]?=w.heap[j]?):=λj hj hn=>(Hq.block j (by omega) (λe=>hn (.inr (.inr (.inl e)))) λe=>hn (.inr (.inr (.inr e)))).trans ((HC.o.block j (by omega) λe=>hn (.inr (.inr (.inl (by injection e))))).trans ((Hp.o _ Hv).block j hj))
           have hN:Hu (aM W10 pb db ao pc t.ds s.us):=by
            have:=pZ Je.o.pool (hD.o pb Jm JS) (λh0=>hD.o db (Je.o.pool.at0 h0).2.2 (JX.o h0)) (by omega)
            rw[lg HJ.o] at this;exact this
           have Jf:Hu (bf (av (λj=>j=Ba) W10) (.slice va vn vc) (ct t.hs ⟨p,(aW t.m s p).2⟩)):=HS.o.le (bF (λj hj hn=>⟨λe=>hn (.inr (.inl e)),(Hq.block j (by omega) (λe=>hn (.inr (.inr (.inl e)))) λe=>hn (.inr (.inr (.inr e)))).trans (HC.o.block j hj λe=>hn (.inr (.inr (.inl (by injection e)))))⟩) (by omega));obtain⟨s',Jg⟩:=HY.o.2.1;have J2:=qI Jg;have hk:mW (ct t.hs ⟨p,(aW t.m s p).2⟩):=(dm.1 HF).2.1;have HW:(ct t.hs ⟨p,(aW t.m s p).2⟩).length<=100:=by have:=(dm.1 HF).1;omega
           have jd:=qI (zV hf ⟨_,_,_,rfl⟩ hN (λe=>JS.o (.inr (.inl e))) (λh0 e=>JX.o (by rw[lg HJ.o];exact h0) (.inr (.inl e))) hF Jf h5 hk HW Jg);clear HD Hq hB x6 Jg hk HW
           go_wp2
           refine jd.o.mono ?_;have Jp:Hu (w<=W10.heap.size):=(((Apart.of_below (Hp.o _ Hv)).trans (fv HC (K:=three Ba Bd Bm) λj e _=>.inr (.inl (by grind)))).trans (tL hl)).size;rintro e W11 ⟨rfl,⟨pb2,db2,ao2,c2,h3,Jw,JF,JO⟩,Ht⟩;have Jv:Hu (aE W11 N Ba Bd Be Bm ⟨t.m,t.ds,(ct t.hs ⟨p,(aW t.m s p).2⟩)⟩ { (dk.save (ct t.hs ⟨p,(aW t.m s p).2⟩)).2 with l:=l' } n'):=HU.o.next (Hp.o _ Hv) (tO jC hI (λj hj hn=>(Hp.o _ Hv).block j hj) J3) hI HS HC hl Ht h3 Jw JF JO H4 hf ⟨hH.o.devs,HF,⟨_,J2⟩⟩ J2 ⟨hJ.o.1,⟨Jb.o.1,Jb.o.2.1⟩,hJ.o.2.2⟩ ⟨by have:=HQ.o;omega,J1⟩;have jA:Hu (gQ w W11 Ba):=.inr (zW h3 Jw (by have:=Jp.o;omega) (λh0=>by omega));have J9:Hu (Apart (three Ba Bd Bm) w W11):=(((Apart.of_below (Hp.o _ Hv)).trans (fv HC λj e _=>.inr (.inl (by grind)))).trans (tL hl)).trans ⟨Ht.os,Ht.tape,Ht.output,Ht.size,λj hj hn=>Ht.block j hj λe=>hn (.inl e)⟩;clear h3 Jw JF JO Ht
           go_wp2
           go_ret;have Hx:=Af He HH Hf HR HJ HG HQ;exact p9 ⟨by rw[Hx];rfl,by rw[Hx];exact⟨_,n',⟨⟨Jj,jA⟩,λe=>Jb.o.2.2 (JW.o e)⟩,Jv⟩,J9⟩
        ·have HG:=qI hG;rw[eW hG];clear hG
         go_wp2
         go_ret;exact p9 ⟨by rw[Hm He.o HH.o Hf HR.o HJ.o HG.o,eW HG.o];rfl,tS HU (Hp.o _ Js) (Hm He HH Hf HR HJ HG)⟩
      ·have HR:=qI hr;rw[hr];clear hr
       go_wp2
       go_ret;exact p9 ⟨by rw[Hl He.o HH.o Hf HR.o];rfl,tS HU (Hp.o _ Hw) (Hl He HH Hf HR)⟩
 ·have He:=qI hpF;rw[eW hpF];clear hpF
  go_wp2
  go_ret;exact p9 ⟨by rw[Hi He.o,eW He.o];rfl,tS HU (Hp.o _ H8) (Hi He)⟩
def Il (w w':World) (N:Nat->Prop) (Ba Bd Be Bm:Nat) (t:aT) (dk:Dk) (n:Nat) (hs':List ae) (v:Value) (e:Ending):Prop:=
 (e=.returned v/\∃dk' n',((n'<=n/\gQ w w' Ba)/\(dk.l=-1->dk'.l=-1))/\aE w' N Ba Bd Be Bm ⟨t.m,t.ds,hs'⟩ dk' n')\/mY w' Be Bd Bm n dk t.hs hs' e
theorem Im{N:Nat->Prop}{h d y m:Nat}{t:aT}{q:Dk}{n:Nat}{c:List ByteArray}{nb:Nat}(no nc:Nat){w:World}(hM:aE w N h d y m t q n)(r:∀k (hk:k<c.length),w.cell? ⟨nb,no+k,none⟩=some (.string c[k]))(S:nb≠d/\nb≠m)(I:nb<w)(j2:c.length<=100)(F:0<t.hs.length)(f:n+36<=1000)(ht:∀W,Apart (three h d m) w W->cJ W) :
  Calls pg 59 #[.pointer (some ⟨h,0,none⟩),.slice (some ⟨nb,no,none⟩) c.length nc] w λe w'=>Il w w' N h d y m t q n (ee t.hs c) (.nilIface) e/\Apart (three h d m) w w':=by
 have Ja:=qI hM;obtain⟨Q,Hs,HI,A,Jy,Jr,h6,hy,tb,b,tc,hv,G,db,ao,pc,s,k1,k2,k3,k4,k5,k6,k7⟩:=hM;obtain⟨a1,a2,a3⟩:=dm.1 Q.held;have H4:=qI Q;have HY:=qI Q.held;have Hb:=qI Hs;have HG:=qI HI;have HE:=qI A;have H1:=qI hy;obtain⟨Z2,ZQ,j4⟩:=A.lt;obtain⟨j5,Z5,j6⟩:=A.apart;obtain⟨E,U,zd⟩:=Jy;have hD:=k1.lt;obtain⟨P,O,Jb,Jg,h5⟩:=id k2;subst Jb;have hH:=qI k1;have Js:=qI k2;have Jx:=qI k3;have hU:=qI k4;have HW:=qI k5;have hS:=qI k6;have hW:=qI k7;have HT:=qI ht;have Jl:=qI r;have hr:=qI S;have hT:Hu (∀j,four N h d m j->j<w.heap.size):=λj o=>by
  grind
 have x7:=cb k1 7;have h8:=k3.op;have H2:=qI (lr Q.devs);clear Q Hs HI A Jr h6 hy k1 k2 k3 k4 k5 k6 k7 a2 a3 Jg h5 ht r S
 go_enter func59,ntmps59
 go_wp2
 clear x7;refine (Ek Js (df) (by omega)).mono ?_;rintro e C1 ⟨u,j0,j1,rfl,HA,hX,hb⟩;obtain⟨l,hV,HO,Hn⟩:=Hr HA hX;obtain⟨L,hL⟩:=Ya Hn;have Je:Hu (L.map HS.h=t.hs):=by
  unfold Hu;rw[<- hV,<- hL,List.map_map];rfl
 have HH:Hu (∀x∈L,ba (av (four N h d m) w) (.slice x.ca x.cn x.cc) x.h.pod.cs/\ce (av (four N h d m) w) (.slice x.ga x.gn x.gc) x.h.gs):=λx hx=>Hn x.tri (by grind)
 have JE:0<L.length/\L.length<=12:=by grind
 obtain⟨g,p,hu⟩:∃g p,u=.slice (some ⟨g,0,none⟩) L.length p:=by
  rcases HO.2 with⟨_,hz⟩|⟨g,p,Ix,JH,_⟩
  ·grind
  ·grind
 subst hu;rw[<- hL,Q9] at HO;obtain⟨Hj,h3,JD,hR⟩:=Yb HO;have Hq:=qI Hj;have hh:=qI hR;have HJ:Hu (Apart (gq d m) w C1):=Apart.of_below hb;have hI:=qI (HE.o.below hb);clear HA hX hb hV HO Hn hL Hj hR j0 j1 l
 go_wp2
 go_loopw [5,17] (λnx i wr=>∃k:Nat,k<=c.length/\i=.int .i64 k/\nx=.slice (some ⟨g,0,none⟩) (ir L (c.take k)).length p/\dJ wr g p (λj x=>j<(ir L (c.take k)).length/\x=dU (ir L (c.take k)) j)/\(∃B z,(B<=n/\-1<=z/\z<=1000/\(q.l=-1->z=-1))/\bz wr y d m B q.n q.k z false (λa=>a∈aL (ee t.hs (c.take k))))/\Apart (gq d m) w wr) (λ_ i _=>c.length - (intOf i).toNat)
 exact⟨0,Nat.zero_le _,rfl,rfl,Hq,⟨n,q.l,⟨lR,Hb.o.2.1.1,Hb.o.2.1.2,id⟩,hI⟩,HJ⟩
 ·obtain⟨k,hk,rfl,rfl,Hj,⟨B,z,⟨Jm,hl⟩,A⟩,HV⟩:=hrel;have Hl:=qI hl;clear hl;have Hi:=qI Hj;have Hw:=qI A;have Hc:=qI HV;have JI:=HV.size;have Hp:=qI (wh L (c.take k));have Jf:=(wh L (c.take k)).length_le;have hA:Hu ((ir L (c.take k)).map HS.h=ee t.hs (c.take k)):=by grind[Hu,H7]
  clear Hj A HV hI HJ Hq
  by_cases D:k<c.length
  ·have c0:wr.cell? ⟨nb,no+k,none⟩=some (.string c[k]):=by
    (try unfold cl);rw[<- Jl.o k D];unfold World.cell?
    rw[Hc.o.block nb I λe=>e.elim hr.o.1 hr.o.2]
   have hm:=qI (Yv (L:=L) D);have hO:=qI (Yu (hs:=t.hs) D);obtain⟨nm,r⟩:∃nm,nm=c[k]:=⟨_,rfl⟩;rw[<- r] at c0 hm hO;clear r;have Hm:=qI ((Q0 wr wr).alloc (lR) (.cells #[.string nm] 9));have h7:=qI (aY wr (.cells #[.string nm] 9) rfl);have hp:=Hi.o.lt;have Ju:=qI ((wh L (c.take (k+1))).length_le)
   go_wp2
   clear c0;generalize wr.alloc (.cells #[.string nm] 9)=X at *;refine (Yk wr h7 (by omega) (Hi.o.block (Hm.o.block g hp)) (by omega) hh (by omega)).m λV ⟨Hg,He⟩=>?_;rw[<- hm.o] at Hg ⊢;have HB:=qI Hg;have JC:=He.size;have JF:=Hm.o.size;have Ha:Hu (Apart (gq d m) w V):=⟨He.os.trans (Hm.o.os.trans Hc.o.os),He.tape.trans (Hm.o.tape.trans Hc.o.tape),He.output.trans (Hm.o.output.trans Hc.o.output),by omega,λj o f=>(He.block j (by omega) (λe=>by grind)).trans ((Hm.o.block j (by omega)).trans (Hc.o.block j o f))⟩;have Jj:=qI (Yx (Hw.o.below Hm) (Hi.o.block (Hm.o.block g hp)) He ⟨by omega,by omega,by omega⟩);have x6:=cb ((Ha.o.block h hD λe=>e.elim E U).trans hH) 6;have hi:Hu ((ir L (c.take (k+1))).map HS.h=ee t.hs (c.take (k+1))):=by grind[Hu,H7]
   have Jo:Hu (bf (av (gq d m) V) (.slice (some ⟨g,0,none⟩) (ir L (c.take (k+1))).length p) (ee t.hs (c.take (k+1)))):=by
    have:=H8 (M:=four N h d m) (w:=w) Hg hT h3 (by have:=Ju.o;omega) hh (λx hx=>HH.o x ((wh L (c.take (k+1))).subset hx)) ⟨Ha.o.os,Ha.o.tape,Ha.o.output,Ha.o.size,λj o f=>Ha.o.block j o λe=>f (.inr (.inr e))⟩
    rw[hi.o] at this;exact this.le (bF (λj o f=>⟨λe=>f (.inr (.inr e)),rfl⟩) (lR))
   have HZ:=qI (zJ (aL (ee t.hs (c.take k))) ⟨Hl.o.1,Hl.o.2.1⟩ Jj Jo (zA HY (ry _ _)) (by omega));clear Hg He
   go_wp2
   refine HZ.o.mono ?_;rintro e W3 ⟨H9,Z⟩
   rcases H9 with⟨l3,Hn,rfl,n2,Y,T⟩|⟨hB,rfl,n2,C,Y,T⟩
   rotate_left
   ·have HU:=qI T;have Hh:=qI Z;have hf:Hu (n2<=n+36):=by unfold Hu;omega
    have Jh:=qI hB;clear T Z Y hB x6 HZ;rw[gX]
    go_wp2
    go_ret;refine⟨.inr (Ic (dk1:={ q with l:=z }) (λe=>Jh.o (Hl.o.2.2 e)) rfl hf HU ⟨Hb.o.1,⟨Hl.o.1,Hl.o.2.1⟩,Hb.o.2.2⟩ (.inl H1.o.2)),?_⟩;have Jq:Apart (gq d m) w W3:=⟨Hh.o.os.trans Ha.o.os,Hh.o.tape.trans Ha.o.tape,Hh.o.output.trans Ha.o.output,by have:=Hh.o.size;have:=Ha.o.size;omega,λj o f=>(Hh.o.block j (by omega) (λe=>f (.inl e)) λe=>f (.inr e)).trans (Ha.o.block j o f)⟩;exact Jq.wide λj e=>.inr e
   have Jk:Hu (-1<=l3/\l3<=1000/\(q.l=-1->l3=-1)):=⟨Hn.1,Hn.2.1,λe=>Hn.2.2 (Hl.o.2.2 e)⟩;clear Hn;have HU:=qI T;have Hh:=qI Z;have hf:Hu (n2<=n):=by
    unfold Hu;rw[we (Aj (by rw[hO.o];exact zy _ _))] at Y;omega
   clear T Z Y x6 HZ
   go_wp2
   go_roundw
   exact⟨k+1,by omega,by go_num,rfl,HB.o.block (Hh.o.block g (by omega) (by omega) (by omega)),⟨n2,l3,⟨hf,Jk⟩,HU⟩,⟨Hh.o.os.trans Ha.o.os,Hh.o.tape.trans Ha.o.tape,Hh.o.output.trans Ha.o.output,by have:=Hh.o.size;have:=Ha.o.size;omega,λj o f=>(Hh.o.block j (by omega) (λe=>f (.inl e)) λe=>f (.inr e)).trans (Ha.o.block j o f)⟩⟩
   simp[intOf];omega
  ·have hG:c.take k=c:=List.take_of_length_le (by omega);rw[hG] at Hi Hw Hp Jf hA ⊢;clear hG;have HP:Hu (bf (av (four N h d m) wr) (.slice (some ⟨g,0,none⟩) (ir L c).length p) (ee t.hs c)):=by
    have:=H8 (M:=four N h d m) (w:=w) Hi hT h3 (by omega) hh (λx hx=>HH.o x (Hp.o.subset hx)) ⟨Hc.o.os,Hc.o.tape,Hc.o.output,Hc.o.size,λj o f=>Hc.o.block j o λe=>f (.inr (.inr e))⟩
    rw[hA.o] at this;exact this
   have HF:=qI (zA HY (ry t.hs c));have hK:=qI (UC (ry t.hs c) (UD HY) H1.o.1);obtain⟨v,Hy⟩:∃v:Dk,v={ q with l:=z }:=⟨_,rfl⟩;have H:Hu (fh v):=by rw[Hy];exact⟨Hb.o.1,⟨Hl.o.1,Hl.o.2.1⟩,Hb.o.2.2⟩
   have Ji:Hu (Kept v t.hs):=by rw[Hy];exact H1.o.2
   have h4:Hu (q.l=-1->v.l=-1):=by rw[Hy];exact Hl.o.2.2
   have Hw:Hu (bz wr y d m B v.n v.k v.l false λa=>a∈aL (ee t.hs c)):=by rw[Hy];exact Hw.o
   clear Hy;have Jp:=qI (Ib H HF);have hC:Hu (b6 wr h tb t.m d y (.slice P t.hs.length O) s.cp G):=(Hc.o.block h hD λe=>e.elim E U).trans hH;have x5:=cb hC 5;have Hv:Hu (Apart (three h d m) w wr):=⟨Hc.o.os,Hc.o.tape,Hc.o.output,Hc.o.size,λj o f=>Hc.o.block j o λe=>f (.inr e)⟩;have Jt:=qI (tQ Hw.o.disk H);have HL:=qI (D6 Jt (.inl H.o.2.2) (HP.o.le (df)) (HT.o _ Hv))
   rcases Jp.o.2 hK with⟨hz,hw,ho⟩|⟨HR,h2⟩
   rotate_left
   ·rw[HR,gX] at HL;have Jd:=qI h2;have Jn:=qI HR;clear h2 HR
    go_wp2
    refine HL.o.m λR ⟨Hx,Hk⟩=>?_;have hZ:=qI Hx;have HK:=qI Hk;clear Hx Hk x5
    go_wp2
    go_ret;exact⟨.inr ⟨λe=>Jd.o (h4.o e),rfl,_,B,_,by omega,hZ,An Hw HK,λkeep K=>Ia HP.o.cps H.o.1 H.o.2.2 Ji (by rw[Jn.o];decide) keep K⟩,Hv.o.trans (fv HK λj e _=>.inr (.inl (by grind)))⟩
   have hY:=qI hw;have Jw:=qI ho;have Jz:=qI (Ii HP.o.cps hz);rw[hz,show aD (((0:Nat)):Int)=.nilIface from rfl] at HL;clear hz hw ho
   go_wp2
   refine HL.o.m λR ⟨Hx,Hk⟩=>?_;have hZ:=qI Hx;have HK:=qI Hk;have JG:=Hk.size;have h9:=qI (Ak Hw Hk Hx hY);have hF:Hu (b6 R h tb t.m d y (.slice P t.hs.length O) s.cp G):=(Hk.block h (by omega) λe=>E (by injection e)).trans hC;have Ht:Hu (∀j,j<w.heap.size->¬ four N h d m j->R.heap[j]?=w.heap[j]?):=λj o f=>(Hk.block j (by omega) λe=>f (.inr (.inr (.inl (by injection e))))).trans (Hc.o.block j o λe=>f (.inr (.inr e)))
   have H3:=HW.o.pool.lt;have H6:Hu (aM R G db ao pc t.ds s.us):=by
    have:=pZ HW.o.pool (Ht.o G H3 hS) (λF=>Ht.o db (HW.o.pool.at0 F).2.2 (hW.o F)) (by omega)
    rw[lg hU.o] at this;exact this
   have hJ:=qI (HP.o.le (bF (λj o f=>⟨f,Hk.block j o λe=>f (.inr (.inr (.inl (by injection e))))⟩) (by omega)));have HX:=qI (hJ.o.le (bF (λj o f=>⟨λe=>f (.inr (.inl e)),rfl⟩) (lR)));have JB:=qI (tO Jx HG Ht (by omega));have hN:=qI (Yw H4 c);obtain⟨s',H0⟩:=hN.o.left;have JA:=qI H0;have Hz:mW (ee t.hs c):=(dm.1 HF).2.1;have Ho:(ee t.hs c).length<=100:=by have:=(dm.1 HF).1;omega
   have Jc:=qI (zV hF ⟨_,_,_,rfl⟩ H6 (λe=>hS.o (.inr (.inl e))) (λF e=>hW.o (by rw[lg hU.o];exact F) (.inr (.inl e))) H2 HX h8 Hz Ho H0);clear Hx Hk H0 Hz Ho x5
   go_wp2
   refine Jc.o.mono ?_;rintro e J ⟨rfl,⟨In,Z1,j3,c2,HQ,hg,hq,hP⟩,Hf⟩;have he:=qI (Ja.o.then (by omega) JB HG hJ Hf HQ hg hq hP h9 hF hN JA hY ⟨hK,Jz⟩);have H5:Hu (Apart (three h d m) w J):=(Hv.o.trans (fv HK λj e _=>.inr (.inl (by grind)))).trans ⟨Hf.os,Hf.tape,Hf.output,Hf.size,λj o f=>Hf.block j o λe=>f (.inl e)⟩;have Jv:Hu (gQ w J h):=.inr (zW HQ hg (by omega) (λF=>by omega));clear HQ hg hq hP Hf
   go_wp2
   go_ret;exact⟨.inl ⟨rfl,_,B,⟨⟨Jm,Jv⟩,λe=>Jw.o (h4.o e)⟩,he⟩,H5⟩
theorem Io{N:Nat->Prop}{a d i c:Nat}{t:aT}{g:Dk}{n:Nat}(nm:ByteArray){w:World}(G:aE w N a d i c t g n)(Z:n+36<=1000)(B:∀W,Apart (three a d c) w W->cJ W) :
  Calls pg 23 #[.pointer (some ⟨a,0,none⟩),.string nm] w λe w'=>Il w w' N a d i c t g n (gk t.hs nm) (aD ((if dN t.hs nm then 0 else 6:Nat):Int)) e/\Apart (three a d c) w w':=by
 obtain⟨l,Hi⟩:∃l:Nat,l=if dN t.hs nm then 0 else 6:=⟨_,rfl⟩
 rw[<- Hi];have Hm:=qI Hi;clear Hi;have He:=qI G;have Y:=qI B;obtain⟨K,Ha,Hh,x,Hr,Ho,Ht,Hx,tb,b,tc,hv,pb,db,ao,pc,s,D,o,P,L,M,S,Q⟩:=G;obtain⟨a1,a2,a3⟩:=dm.1 K.held;obtain⟨V,T,R⟩:=x.lt;obtain⟨J,C,Hs,Hy,Hp⟩:=id o;subst Hs;have U:=cb D 7;have Hn:=qI (FB (v:=.slice J t.hs.length C) (hs:=t.hs) nm (w:=w) (o.le (df)) (by omega) a3);clear K Ha Hh x Hr Ho Ht Hx D o P L M S Q a2 a3 Hy Hp B
 go_enter func23,ntmps23
 go_wp2
 refine Hn.o.m λj Hg=>?_;have Hb:=qI Hg;have HB:=Hg.size;clear Hg U
 rcases two (dN t.hs nm) with f|f
 ·have m:=qI f;rw[f];have Hf:0<t.hs.length:=by
   grind[tM]
  clear f;have Hc:=qI (Hb.o.alloc Hb.o.size (.cells #[nm] 9));have Hw:=qI (aY j (.cells #[nm] 9) rfl);have HA:(j.alloc (.cells #[nm] 9)).heap.size=j.heap.size+1:=by simp
  go_wp2
  generalize j.alloc (.cells #[nm] 9)=X at *;refine (Im (N:=N) (h:=a) (d:=d) (y:=i) (m:=c) (t:=t) (q:=g) (n:=n) (c:=[nm]) (nb:=j.heap.size) 0 1 (w:=X) (He.o.keep Hc) (λk A=>by
   have Hz:k=0:=by simp at A;exact A
   subst Hz;exact ad Hw 0) ⟨by omega,by omega⟩ (by omega) (by simp) Hf Z λW O=>Y.o W ((Apart.of_below Hc).trans O)).mono ?_
  rintro e r ⟨Hq,Hl⟩;have Hk:=qI Hl;clear Hl
  rcases Hq with⟨rfl,p,n2,⟨⟨H,z⟩,v⟩,I⟩|⟨f1,rfl,p,n2,q,f3,F,u,E⟩
  ·have Hv:Hu (∃h y,((y<=n/\gQ w r a)/\(g.l=-1->h.l=-1))/\aE r N a d i c ⟨t.m,t.ds,gk t.hs nm⟩ h y):=⟨p,n2,⟨⟨H,z.old Hc He.o.poolAt.1⟩,v⟩,I⟩;clear H z I v
   go_wp2
   go_ret;exact⟨.inl ⟨by rw[show l=0 by rw[Hm.o,m.o];rfl];rfl,Hv⟩,(Apart.of_below Hc).trans Hk⟩
  ·have Hj:Hu (mY r i d c n g t.hs (gk t.hs nm) (.returned (aD ((11:Nat):Int)))):=⟨f1,rfl,p,n2,q,f3,F,u,E⟩;clear f1 f3 F u E;rw[gX] at Hj ⊢
   go_wp2
   go_ret;exact⟨.inr Hj,(Apart.of_below Hc).trans Hk⟩
 ·have m:=qI f;rw[f];clear f
  go_wp2
  go_ret;exact⟨.inl ⟨by rw[show l=6 by rw[Hm.o,m.o];rfl];rfl,by rw[H9 m.o];exact⟨g,n,⟨⟨lR,.inl (Hb.o.block a He.o.poolAt.1)⟩,id⟩,He.o.keep Hb⟩⟩,Apart.of_below Hb⟩
