import Derived.Test.YtbmmnflgnmjboaaGreatDoorR25
set_option maxRecDepth 100000
set_option maxHeartbeats 16000000
namespace Go.Proofs.YtbmmnflgnmjboaaGreatDoor
section
open RowKit Shelf
open Qos (Nd Ct Pd nd ct pd af aA)
open Sv (Gv Hd gv hd)
open Ost (dif cnt)
attribute [local go_sem] Oper.semAt_some
def fp (x:Gv × Value):List Value:=[.int .u64 (x.1.cp:Nat),x.2]
theorem Lo (g:Gv) (a:Option Addr) (n c:Nat):∀ u∈fp (g,.slice a n c),u.oneCell'=true:=by
 intro u hu
 simp [fp] at hu
 rcases hu with rfl|rfl <;> rfl
theorem Lp (w:World) (x:Gv × Value) (t:TypeId):∀ j u,(fp x)[j]?=some u->(w.alloc (.cells #[.int .u64 (x.1.cp:Nat),x.2] t)).cell? ((⟨w.heap.size,0,none⟩:Addr).add j)=some u:=by
 intro j u hu;rw [Addr.add_lit,Qd]
 match j,hu with
 | 0,hu=>simp [fp] at hu;subst hu;simp
 | 1,hu=>simp [fp] at hu;subst hu;simp
 | n+2,hu=>simp [fp] at hu
theorem Lq:(Tryz.prog.info? 69).map (λi=>(i.zero,i.size,i.bytes))=some (some (.agg #[.int .u64 0,.slice none 0 0]),2,32):=by kernel_rfl
structure sx (W:World) (v:Value) (l:List (Gv × Value)) (N:Nat):Prop where
 row:W.ownsRow N 69 2 v l.length (l.flatMap fp)
 in_:∀ x∈l,x.1.cp<18446744073709551616/\bt (ag (λj=>j<N\/v.ownBlock=some j) W) x.2 x.1.dv
theorem Lr {W:World} {v:Value} {l:List (Gv × Value)} {N K:Nat} (h:sx W v l N) (hN:K<=N):bz (fresh K W) v (l.map Prod.fst):=by
 have h':=h.row
 rcases h.row.2 with ⟨hv,h0⟩|⟨g,cap,cur,hv,hg,Hc,Ha,Hb,_⟩
 ·have:l=[]:=Qe h0
  subst this;rw [hv];exact ⟨none,0,rfl,⟨lR,Nat.zero_le _⟩,λh=>absurd h (Nat.lt_irrefl 0)⟩
 ·subst hv;have key:∀ (l:List (Gv × Value)) (k:Nat) (hk:k<l.length) (j:Nat),j<2->(l.flatMap fp)[k*2+j]?=(fp l[k])[j]?:=by
   intro l
   induction l with
   | nil=>intro k hk;simp at hk
   | cons a l ih=>
    intro k hk j hj;rw [List.flatMap_cons];cases k with
    | zero=>rw [List.getElem?_append_left (by simp [fp];omega)];simp
    | succ k=>
     rw [List.getElem?_append_right (by simp [fp];omega)]
     have:=ih k (by simpa using hk) j hj
     simp only [List.getElem_cons_succ];rw [<- this]
     congr 1
     simp [fp]
     omega
  refine ⟨_,cap,by rw [Q9],by rw [Q9];exact ⟨Ha,Hb⟩,λ_=>⟨g,0,λk=>(l.getD k (⟨0,[]⟩,.nilIface)).2,rfl,by rw [bH];exact (gS Hc).1,λk hk=>?_⟩⟩;rw [Q9] at hk;have e:gv (l.map Prod.fst) k=l[k].1:=by simp [gv,hk]
  have e2:(l.getD k (⟨0,[]⟩,.nilIface)).2=l[k].2:=by simp [hk]
  obtain ⟨q1,q2⟩:=h.in_ _ (List.getElem_mem hk);dsimp only;rw [e,e2];refine ⟨⟨?_,?_,q1⟩,q2.le (bE (λj _ hn=>⟨λhj=>hn (.inl (Q1 hj hN)),rfl⟩) (lR))⟩
  ·rw [gQ (by omega),Qd,h'.cellAt (k*2) (by omega)];exact key l k hk 0 (by decide)
  ·rw [gQ (by omega),Qd,h'.cellAt (k*2+1) (by omega)];exact key l k hk 1 (by decide)
abbrev ky:=λ(x0:Nat) (x1:Ol.Mc)=>(.cells #[.pointer (some ⟨x0,0,none⟩),.int .u64 x1.op,.int .u8 x1.nd,.int .i64 x1.nb,.int .i64 x1.pol] 95:Obj)
abbrev kz:=λ(x0:Pd) (x1:Option Addr) (x2:Nat)=>(.cells #[.string x0.nm,.int .i64 x0.pr,.slice x1 x0.cs.length x2] 47:Obj)
abbrev o9:=λ(x0:Qos.Ct) (x1:Option Addr) (x2:Nat)=>(.cells #[.string x0.nm,.int .i64 x0.am,.int .i64 x0.ab,.int .i64 x0.cm,.int .i64 x0.cb,.slice x1 x0.ds.length x2] 63:Obj)
abbrev kC:=λ(x0:Ol.Sk) (x1:Nat)=>(.cells #[.int .u64 x0.cp,.pointer (some ⟨x1,0,none⟩)] 98:Obj)
abbrev Ls:=λ(B tb:Nat) (m:Ol.Mc) (sk:Ol.Sk) (pb:Nat) (p:Pd) (cb co cc Bc:Nat) (x:Qos.Ct) (na:Option Addr) (nc:Nat) (w':World)=>w'.cell? ⟨B,0,none⟩=some (.pointer (some ⟨tb,0,none⟩))/\w'.cell? ⟨B,1,none⟩=some (.int .u64 m.op)/\w'.cell? ⟨B,2,none⟩=some (.int .u8 m.nd)/\w'.cell? ⟨B,3,none⟩=some (.int .i64 m.nb)/\w'.cell? ⟨B,4,none⟩=some (.int .i64 m.pol)/\w'.cell? ⟨B+1,0,none⟩=some (.int .u64 sk.cp)/\w'.cell? ⟨B+1,1,none⟩=some (.pointer (some ⟨pb,0,none⟩))/\w'.cell? ⟨B+2,0,none⟩=some (.string p.nm)/\w'.cell? ⟨B+2,1,none⟩=some (.int .i64 p.pr)/\w'.cell? ⟨B+2,2,none⟩=some (.slice (some ⟨cb,co,none⟩) p.cs.length cc)/\w'.cell? ⟨Bc,0,none⟩=some (.string x.nm)/\w'.cell? ⟨Bc,1,none⟩=some (.int .i64 x.am)/\w'.cell? ⟨Bc,2,none⟩=some (.int .i64 x.ab)/\w'.cell? ⟨Bc,3,none⟩=some (.int .i64 x.cm)/\w'.cell? ⟨Bc,4,none⟩=some (.int .i64 x.cb)/\w'.cell? ⟨Bc,5,none⟩=some (.slice na x.ds.length nc)
theorem Lt (m:Ol.Mc) (s:Ol.Sk) (tb b o c pb db:Nat) (ao:Option Addr) (pc:Nat) (p:Pd) (cv:Value) (w:World) (hm:cK (ag (λj=>j=pb) w) tb b o c m) (hs:dj w pb db ao pc s) (hp:aE (ag (λj=>j=pb) w) cv p.cs) (hF:af p=0) :
  Calls Tryz.prog 53 #[mV m tb,sV s pb,bG p cv] w λe w'=>(∃ ua un uc,e=.returned (.tuple #[.slice ua un uc,au ((Ol.give m s p).1:Nat)])/\((Ol.give m s p).1=0->bz (fresh w.heap.size w') (.slice ua un uc) (Ol.give m s p).2))/\w.grownBy w' (some pb):=by
 obtain ⟨i0,hi,Jv,J6,JK⟩:=info_parts Lq;unfold mV sV bG;have HM:=qI hm;have HS:=qI hs;have HP:=qI hp;have Ja:=qI (Sv.fD hF);have Jz:=hs.pool.lt;have Hx:=qI hs.pool.at0;obtain ⟨ca,cc,rfl,jg,Je⟩:=hp;have JO:=qI Je;have J9:=Ja.out.2.2.1;have sz:(((w.alloc (ky tb m)).alloc (kC s pb)).alloc (kz p ca cc)).heap.size=w.heap.size+3:=by simp
 have h5:=qI (aD ((w.alloc (ky tb m)).alloc (kC s pb)) (kz p ca cc) (n:=w.heap.size+2) (by simp));have JD:=qI (bj (aD (w.alloc (ky tb m)) (kC s pb) (n:=w.heap.size+1) (by simp)) (kz p ca cc));have JE:=qI (bj (bj (aD w (ky tb m) rfl) (kC s pb)) (kz p ca cc));have HU:=qI ((((Q0 w.heap.size w).alloc (lR) (ky tb m)).alloc (by simp) (kC s pb)).alloc (by simp;omega) (kz p ca cc));have J5:(((w.alloc (ky tb m)).alloc (kC s pb)).alloc (kz p ca cc)).cell? ⟨w.heap.size+2,2,none⟩=some (.slice ca p.cs.length cc):=aa h5.out 2;have hI:=qI (hs.pool.below HU.out);clear hm hs Je hF
 go_enter Tryz.func53,Tryz.ntmps53
 go_wp2_with fail
 generalize (((w.alloc (ky tb m)).alloc (kC s pb)).alloc (kz p ca cc))=U at *;generalize hB:w.heap.size=B at *;clear J5
 go_loopw [8,16] (λpv i wr=>∃ (k:Nat) (sk:Ol.Sk) (l:List (Gv × Value)),k<=p.cs.length/\i=.int .i64 k/\Ol.bi m s p.cs k=(0,l.map Prod.fst,sk)/\l.length=k/\sx wr pv l U.heap.size/\ak wr pb db ao pc sk.ds sk.us/\wr.heap[B+1]?=some (.cells #[.int .u64 sk.cp,.pointer (some ⟨pb,0,none⟩)] 98 (0,0))/\Apart (λj=>j=pb\/j=B+1\/U.heap.size<=j) U wr) (λ_ i _=>p.cs.length - (intOf i).toNat)
 case atStart=>exact ⟨0,s,[],by omega,rfl,rfl,rfl,⟨Qw _ _ _ _,λx hx=>(List.not_mem_nil hx).elim⟩,hI.out,JD.out,Apart.refl _ _⟩
 case round=>
  obtain ⟨k,sk,l,hk,rfl,hq,h4,HE,Hv,h7,Hn⟩:=hrel;have Jf:=qI hq;have JG:=qI h4;have Ho:=qI HE;have ha:=qI Hv;have hA:=qI h7;have JY:=qI Hn;have jf:=Hn.size;have jk:pb<B:=by omega
  have J7:l.length<=3:=by omega
  obtain ⟨va,vc,J8⟩:=fF HE.row;subst J8;have Hm:Hid (w.grownBy wr (some pb)):=⟨Hn.os.trans HU.out.os,Hn.tape.trans HU.out.tape,Hn.output.trans HU.out.output,by omega,λj hj hn=>(Hn.block j (by omega) (λh=>by rcases h with h|h|h;exact hn (by rw [h]);omega;omega)).trans (HU.out.block j (by omega))⟩;have H3:=qI ((Hn.block B (by omega) (by omega)).trans JE.out);have hT:=qI ((Hn.block (B+2) (by omega) (by omega)).trans h5.out);have He:Hid (sk.ds=s.ds/\sk.cp<18446744073709551616):=⟨by have:=Li m s p.cs k;rw [hq] at this;exact this,by have:=Ll m s p.cs HS.out.cp k;rw [hq] at this;exact this⟩;have ho:Hid (aq (ag (λj=>j=pb) w) (ag (λj=>j=pb) wr)):=bE (λj hj hn=>⟨hn,Hm.out.block j hj (λe=>hn (by injection e))⟩) Hm.out.size;clear hq h4 HE Hv h7 Hn
  by_cases hlt:k<p.cs.length
  ·obtain ⟨cb,co,dv,rfl,Hz⟩:=JO.out (by omega);obtain ⟨k0,k1,k2,k3,k4,k5⟩:=Hz.at hlt;have Hf:=ho.out.trans (cC _ _);have k0:=Hf.cell _ _ _ k0;have k1:=Hf.cell _ _ _ k1;have k2:=Hf.cell _ _ _ k2;have k3:=Hf.cell _ _ _ k3;have k4:=Hf.cell _ _ _ k4;have k5:=Hf.cell _ _ _ k5;have Hg:=((Hz.2 k hlt).2).le ho.out;obtain ⟨na,nc,hU,hP,hV⟩:=id Hg;rw [hU] at k5 Hg;have Hu:=qI Hg;have HA:=qI (Ja.out.2.2.2 (ct p.cs k) (Ost.dX _ _ _ hlt));have HO:=qI (Lm Jf.out);have je:(k:Int)<(p.cs.length:Int):=by omega
   obtain ⟨x,hx⟩:∃ x,x=ct p.cs k:=⟨_,rfl⟩;rw [<- hx] at k0 k1 k2 k3 k4 k5 hU HA HO Hu;clear Hz Hg Hf hU hx hP hV;have Hb:=qI ((Q0 wr.heap.size wr).alloc (lR) (o9 x na nc));have HL:=qI (aD wr (o9 x na nc) rfl);have jl:(wr.alloc (o9 x na nc)).heap.size=wr.heap.size+1:=by simp
   go_upto_region 5 with fail
   generalize wr.alloc (o9 x na nc)=X at *;clear k0 k1 k2 k3 k4 k5;generalize hBc:wr.heap.size=Bc at *;have Hh:Hid (∀ W,Apart (λj=>j=pb) X W->(Ls B tb m sk pb p cb co cc Bc x na nc) W):=λW hb=>⟨aa ((hb.block (B) (by omega) (by omega)).trans ((Hb.out.block B (by omega)).trans H3.out)) 0,aa ((hb.block (B) (by omega) (by omega)).trans ((Hb.out.block B (by omega)).trans H3.out)) 1,aa ((hb.block (B) (by omega) (by omega)).trans ((Hb.out.block B (by omega)).trans H3.out)) 2,aa ((hb.block (B) (by omega) (by omega)).trans ((Hb.out.block B (by omega)).trans H3.out)) 3,aa ((hb.block (B) (by omega) (by omega)).trans ((Hb.out.block B (by omega)).trans H3.out)) 4,aa ((hb.block (B+1) (by omega) (by omega)).trans ((Hb.out.block (B+1) (by omega)).trans hA.out)) 0,aa ((hb.block (B+1) (by omega) (by omega)).trans ((Hb.out.block (B+1) (by omega)).trans hA.out)) 1,aa ((hb.block (B+2) (by omega) (by omega)).trans ((Hb.out.block (B+2) (by omega)).trans hT.out)) 0,aa ((hb.block (B+2) (by omega) (by omega)).trans ((Hb.out.block (B+2) (by omega)).trans hT.out)) 1,aa ((hb.block (B+2) (by omega) (by omega)).trans ((Hb.out.block (B+2) (by omega)).trans hT.out)) 2,aa ((hb.block (Bc) (by omega) (by omega)).trans HL.out) 0,aa ((hb.block (Bc) (by omega) (by omega)).trans HL.out) 1,aa ((hb.block (Bc) (by omega) (by omega)).trans HL.out) 2,aa ((hb.block (Bc) (by omega) (by omega)).trans HL.out) 3,aa ((hb.block (Bc) (by omega) (by omega)).trans HL.out) 4,aa ((hb.block (Bc) (by omega) (by omega)).trans HL.out) 5⟩
   have J1:Hid (ak X pb db ao pc sk.ds sk.us):=ha.out.below (by rw [hBc];exact Hb.out);have HT:=qI (λ(W:World) (v:Value) (h1:cK W tb b o c m) (h2:dj W pb db ao pc sk) (h3:be (ag (λj=>j=pb) W) v x.ds)=>Lg m sk tb b o c pb db ao pc (aA p.cs x.am) v x.ds W h1 h2 h3 HA.out.2.2.2.2.2.1 (λn hn=>(HA.out.2.2.2.2.2.2 n hn).2.1));have h8:=qI (Lk (m:=m) (s:=sk) (own:=aA p.cs x.am) (ns:=x.ds) He.out.2);obtain ⟨G,hG⟩:∃ G,G=(Ol.bc m sk (aA p.cs x.am) x.ds):=⟨_,rfl⟩;rw [<- hG] at HT HO h8;clear hG;have Hp:Hid (∀ W,Apart (λj=>j=pb) X W->cK W tb b o c m/\aE W (.slice (some ⟨cb,co,none⟩) p.cs.length cc) p.cs/\be (ag (λj=>j=pb) W) (.slice na x.ds.length nc) x.ds):=λW hb=>by
    have l1:aq (ag (λj=>j=pb) wr) (ag (λj=>j=pb) W):=(k9 (Apart.of_below (K:=λj=>j=pb) (by rw [hBc];exact Hb.out)) (λ_ _ h=>h)).trans (Ln hb);exact ⟨HM.out.le ((ho.out.trans l1).trans (cC _ _)),HP.out.le ((ho.out.trans l1).trans (cC _ _)),Hu.out.le l1⟩
   go_cut [11,12] (λp11 e12 wc=>∃ Bp ua un uc,p11=.pointer (some ⟨Bp,0,none⟩)/\e12=au (G.1:Nat)/\wc.heap[Bp]?=some (.cells #[.int .u64 (G.2.1.cp:Nat),.slice ua un uc] 69 (0,0))/\X.heap.size<=Bp/\(G.1=0->bt (ag (λj=>j<X.heap.size\/j=Bp) wc) (.slice ua un uc) G.2.1.dv/\ak wc pb db ao pc sk.ds G.2.2)/\Apart (λj=>j=pb) X wc)
   case first=>
    have he:Hid (Apart (λj=>j=pb) X X.drew):=Apart.drew _ _;refine Qo (by kernel_rfl) (Hh.out _ he.out) (λhQ=>?_);have Ji:Hid (ak X.drew pb db ao pc sk.ds sk.us):=J1.out.below (a6 (Q0 _ _));generalize X.drew=V at *;refine tk 0 ?_;refine tk 1 ?_;refine tk 2 ?_;refine tk 3 ?_;refine tk 5 ?_;refine tk 6 ?_;refine wpAnyH_ready (rs:=[4,11]) (by kernel_rfl) (by simp) (AllReadyH.cons rfl (λK hK=>?_) (AllReadyH.cons rfl (λK hK=>?_) AllReadyH.nil))
    ·go_simp
     go_wp2_with fail
     refine (mn p _ x na x.ds.length nc V (Hp.out _ he.out).2.1 HA.out.2.1.1 HA.out.2.1.2).mono ?_;rintro e W1 ⟨rfl,hu⟩;have HF:=qI (he.out.trans (Apart.of_below hu));have Jc:=qI (Ji.out.below hu);clear hu
     go_wp2
     refine hK.out _ _ (Hh.out _ HF.out) (λhQ=>?_);clear hK K;refine wpAnyH_ready (rs:=[7,11]) (by kernel_rfl) (by simp) (AllReadyH.cons rfl (λK hK=>?_) (AllReadyH.cons rfl (λK hK=>?_) AllReadyH.nil))
     ·go_simp
      go_wp2_with fail
      refine (HT.out W1 _ (Hp.out _ HF.out).1 ⟨Jc.out,by rw [He.out.1];exact HS.out.nodes,He.out.2⟩ (Hp.out _ HF.out).2.2).mono ?_;rintro e W2 ⟨⟨ua2,un2,uc2,rfl,HH⟩,h6⟩;have hC:=qI (HF.out.trans (eu h6 (λj hj _=>by injection hj with hj;exact hj.symm)));have hR:=HF.out.size;have Jj:Hid (G.1=0->bt (fresh X.heap.size W2) (.slice ua2 un2 uc2) G.2.1.dv/\ak W2 pb db ao pc sk.ds G.2.2):=λh0=>⟨(HH h0).1.le (lm (λ_ _ _=>rfl) (lR) hR),(HH h0).2⟩
      clear h6 HH
      go_wp2
      refine hK.out _ _ (Hh.out _ hC.out) (λhQ=>?_);clear hK K;refine tk 8 ?_;refine tk 9 ?_;refine tk 10 ?_;refine rd 11 (λK hK=>?_);have HQ:=qI (hC.out.trans (Apart.alloc _ W2 (.cells #[.int .u64 0,.slice none 0 0] 69)));have HR:=qI (aD W2 (.cells #[.int .u64 0,.slice none 0 0] 69) rfl);have JZ:W2.heap.size<(W2.alloc (.cells #[.int .u64 0,.slice none 0 0] 69)).heap.size:=by simp
      have HY:=hC.out.size;have Ju:Hid (G.1=0->bt (ag (λj=>j<X.heap.size\/j=W2.heap.size) (W2.alloc (.cells #[.int .u64 0,.slice none 0 0] 69))) (.slice ua2 un2 uc2) G.2.1.dv/\ak (W2.alloc (.cells #[.int .u64 0,.slice none 0 0] 69)) pb db ao pc sk.ds G.2.2):=λh0=>⟨(Jj.out h0).1.le (bE (λj hj hn=>⟨by omega,Below.heap_alloc _ _ _ hj⟩) (by simp)),(Jj.out h0).2.alloc _⟩
      go_simp
      go_wp2
      refine hK.out _ _ (Hh.out _ HQ.out) (λhQ=>?_);clear hK K;generalize W2.alloc (.cells #[.int .u64 0,.slice none 0 0] 69)=W3 at *;refine rd 12 (λK hK=>?_);have c0_4:W3.cell? ⟨W2.heap.size,0,none⟩=some (.int .u64 0):=aa HR.out 0;have c1_4:W3.cell? ⟨W2.heap.size,1,none⟩=some (.slice none 0 0):=aa HR.out 1;have f0_4:=ai HR.out 0;have f1_4:=ai HR.out 1;have J2:=HY;have hc:Hid (∀ j,j≠W2.heap.size->((W3.setCell ⟨W2.heap.size,0,none⟩ (.int .u64 (G.2.1.cp:Nat))).setCell ⟨W2.heap.size,1,none⟩ (.slice ua2 un2 uc2)).heap[j]?=W3.heap[j]?):=λj hj=>(set_other hj).trans (set_other hj)
      have H1:((W3.setCell ⟨W2.heap.size,0,none⟩ (.int .u64 (G.2.1.cp:Nat))).setCell ⟨W2.heap.size,1,none⟩ (.slice ua2 un2 uc2)).heap.size=W3.heap.size:=by simp
      have Js:Hid (Apart (λj=>j=pb) X ((W3.setCell ⟨W2.heap.size,0,none⟩ (.int .u64 (G.2.1.cp:Nat))).setCell ⟨W2.heap.size,1,none⟩ (.slice ua2 un2 uc2))):=⟨HQ.out.os,HQ.out.tape,HQ.out.output,by rw [H1];exact HQ.out.size,λj hj hn=>(hc.out j (by omega)).trans (HQ.out.block j hj hn)⟩;have JA:=qI (ah (ah HR.out 0 (.int .u64 (G.2.1.cp:Nat))) 1 (.slice ua2 un2 uc2));have JB:Hid (G.1=0->bt (ag (λj=>j<X.heap.size\/j=W2.heap.size) ((W3.setCell ⟨W2.heap.size,0,none⟩ (.int .u64 (G.2.1.cp:Nat))).setCell ⟨W2.heap.size,1,none⟩ (.slice ua2 un2 uc2))) (.slice ua2 un2 uc2) G.2.1.dv/\ak ((W3.setCell ⟨W2.heap.size,0,none⟩ (.int .u64 (G.2.1.cp:Nat))).setCell ⟨W2.heap.size,1,none⟩ (.slice ua2 un2 uc2)) pb db ao pc sk.ds G.2.2):=λh0=>⟨(Ju.out h0).1.le (bE (λj _ hn=>⟨hn,hc.out j (λe=>hn (.inr e))⟩) (Nat.le_of_eq H1.symm)),((Ju.out h0).2.kept (bL _ ⟨W2.heap.size,0,none⟩ _) (λe=>by injection e with e;have e:pb=W2.heap.size:=e;omega) (λh1 e=>by injection e with e;have e:db=W2.heap.size:=e;have:=(Hx.out (by rw [<- He.out.1];exact h1)).2.2;omega)).kept (bL _ ⟨W2.heap.size,1,none⟩ _) (λe=>by injection e with e;have e:pb=W2.heap.size:=e;omega) (λh1 e=>by injection e with e;have e:db=W2.heap.size:=e;have:=(Hx.out (by rw [<- He.out.1];exact h1)).2.2;omega)⟩
      go_simp
      go_wp2
      refine hK.out _ _ (Hh.out _ Js.out) (λhQ=>?_);clear hK K;refine tk 13 ?_;refine Qn (by kernel_rfl) ?_ _
      go_wp2
      go_meet
      exact ⟨_,_,_,_,rfl,rfl,JA.out,HY,JB.out,Js.out⟩
     ·have H7:=qI (HF.out.trans (Apart.alloc _ W1 (.cells #[.int .u64 0,.slice none 0 0] 69)));have JJ:=qI (aD W1 (.cells #[.int .u64 0,.slice none 0 0] 69) rfl);have HI:W1.heap.size<(W1.alloc (.cells #[.int .u64 0,.slice none 0 0] 69)).heap.size:=by simp
      have HD:=HF.out.size;have Jx:=qI (Jc.out.alloc (.cells #[.int .u64 0,.slice none 0 0] 69));go_simp
      go_wp2
      refine hK.out _ _ (Hh.out _ H7.out) (λhQ=>?_);clear hK K;generalize W1.alloc (.cells #[.int .u64 0,.slice none 0 0] 69)=W5 at *;refine rd 7 (λK hK=>?_);go_simp
      go_wp2_with fail
      refine (HT.out W5 _ (Hp.out _ H7.out).1 ⟨Jx.out,by rw [He.out.1];exact HS.out.nodes,He.out.2⟩ (Hp.out _ H7.out).2.2).mono ?_;rintro e W6 ⟨⟨ua6,un6,uc6,rfl,HJ⟩,hh⟩;have HK:=qI (H7.out.trans (eu hh (λj hj _=>by injection hj with hj;exact hj.symm)));have J4:=H7.out.size;have JC:=HD;have H4:=qI ((hh.block _ HI (λe=>by injection e with e;omega)).trans JJ.out);have Jn:Hid (G.1=0->bt (ag (λj=>j<X.heap.size\/j=W1.heap.size) W6) (.slice ua6 un6 uc6) G.2.1.dv/\ak W6 pb db ao pc sk.ds G.2.2):=λh0=>⟨(HJ h0).1.le (bE (λj _ hn=>⟨by have:=HI;omega,rfl⟩) (lR)),(HJ h0).2⟩
      have JM:=Q1 HI hh.size;clear hh HJ
      go_wp2
      refine hK.out _ _ (Hh.out _ HK.out) (λhQ=>?_);clear hK K;refine tk 8 ?_;refine tk 9 ?_;refine tk 10 ?_;refine rd 12 (λK hK=>?_);have c0_7:W6.cell? ⟨W1.heap.size,0,none⟩=some (.int .u64 0):=aa H4.out 0;have c1_7:W6.cell? ⟨W1.heap.size,1,none⟩=some (.slice none 0 0):=aa H4.out 1;have f0_7:=ai H4.out 0;have f1_7:=ai H4.out 1;have J0:=HD;have H0:Hid (∀ j,j≠W1.heap.size->((W6.setCell ⟨W1.heap.size,0,none⟩ (.int .u64 (G.2.1.cp:Nat))).setCell ⟨W1.heap.size,1,none⟩ (.slice ua6 un6 uc6)).heap[j]?=W6.heap[j]?):=λj hj=>(set_other hj).trans (set_other hj)
      have H2:((W6.setCell ⟨W1.heap.size,0,none⟩ (.int .u64 (G.2.1.cp:Nat))).setCell ⟨W1.heap.size,1,none⟩ (.slice ua6 un6 uc6)).heap.size=W6.heap.size:=by simp
      have Jk:Hid (Apart (λj=>j=pb) X ((W6.setCell ⟨W1.heap.size,0,none⟩ (.int .u64 (G.2.1.cp:Nat))).setCell ⟨W1.heap.size,1,none⟩ (.slice ua6 un6 uc6))):=⟨HK.out.os,HK.out.tape,HK.out.output,by rw [H2];exact HK.out.size,λj hj hn=>(H0.out j (by omega)).trans (HK.out.block j hj hn)⟩;have JW:=qI (ah (ah H4.out 0 (.int .u64 (G.2.1.cp:Nat))) 1 (.slice ua6 un6 uc6));have JP:Hid (G.1=0->bt (ag (λj=>j<X.heap.size\/j=W1.heap.size) ((W6.setCell ⟨W1.heap.size,0,none⟩ (.int .u64 (G.2.1.cp:Nat))).setCell ⟨W1.heap.size,1,none⟩ (.slice ua6 un6 uc6))) (.slice ua6 un6 uc6) G.2.1.dv/\ak ((W6.setCell ⟨W1.heap.size,0,none⟩ (.int .u64 (G.2.1.cp:Nat))).setCell ⟨W1.heap.size,1,none⟩ (.slice ua6 un6 uc6)) pb db ao pc sk.ds G.2.2):=λh0=>⟨(Jn.out h0).1.le (bE (λj _ hn=>⟨hn,H0.out j (λe=>hn (.inr e))⟩) (Nat.le_of_eq H2.symm)),((Jn.out h0).2.kept (bL _ ⟨W1.heap.size,0,none⟩ _) (λe=>by injection e with e;have e:pb=W1.heap.size:=e;omega) (λh1 e=>by injection e with e;have e:db=W1.heap.size:=e;have:=(Hx.out (by rw [<- He.out.1];exact h1)).2.2;omega)).kept (bL _ ⟨W1.heap.size,1,none⟩ _) (λe=>by injection e with e;have e:pb=W1.heap.size:=e;omega) (λh1 e=>by injection e with e;have e:db=W1.heap.size:=e;have:=(Hx.out (by rw [<- He.out.1];exact h1)).2.2;omega)⟩
      go_simp
      go_wp2
      refine hK.out _ _ (Hh.out _ Jk.out) (λhQ=>?_);clear hK K;refine tk 13 ?_;refine Qn (by kernel_rfl) ?_ _
      go_wp2
      go_meet
      exact ⟨_,_,_,_,rfl,rfl,JW.out,HD,JP.out,Jk.out⟩
    ·have hv:=qI (he.out.trans (Apart.alloc _ V (.cells #[.int .u64 0,.slice none 0 0] 69)));have JF:=qI (aD V (.cells #[.int .u64 0,.slice none 0 0] 69) rfl);have H8:V.heap.size<(V.alloc (.cells #[.int .u64 0,.slice none 0 0] 69)).heap.size:=by simp
     have HG:=he.out.size;have JX:=qI (Ji.out.alloc (.cells #[.int .u64 0,.slice none 0 0] 69));go_simp
     go_wp2
     refine hK.out _ _ (Hh.out _ hv.out) (λhQ=>?_);clear hK K;generalize V.alloc (.cells #[.int .u64 0,.slice none 0 0] 69)=W8 at *;refine rd 4 (λK hK=>?_);go_simp
     go_wp2_with fail
     refine (mn p _ x na x.ds.length nc W8 (Hp.out _ hv.out).2.1 HA.out.2.1.1 HA.out.2.1.2).mono ?_;rintro e W9 ⟨rfl,H5⟩;have HW:=qI (hv.out.trans (Apart.of_below H5));have JU:=qI (JX.out.below H5);have JR:=qI ((H5.block _ H8).trans JF.out);have HB:=Q1 H8 H5.size;clear H5
     go_wp2
     refine hK.out _ _ (Hh.out _ HW.out) (λhQ=>?_);clear hK K;refine rd 7 (λK hK=>?_);go_simp
     go_wp2_with fail
     refine (HT.out W9 _ (Hp.out _ HW.out).1 ⟨JU.out,by rw [He.out.1];exact HS.out.nodes,He.out.2⟩ (Hp.out _ HW.out).2.2).mono ?_;rintro e W10 ⟨⟨ua10,un10,uc10,rfl,Hk⟩,Hq⟩;have Hi:=qI (HW.out.trans (eu Hq (λj hj _=>by injection hj with hj;exact hj.symm)));have Jr:=HW.out.size;have Jb:=HG;have Hj:=qI ((Hq.block _ HB (λe=>by injection e with e;omega)).trans JR.out);have HV:Hid (G.1=0->bt (ag (λj=>j<X.heap.size\/j=V.heap.size) W10) (.slice ua10 un10 uc10) G.2.1.dv/\ak W10 pb db ao pc sk.ds G.2.2):=λh0=>⟨(Hk h0).1.le (bE (λj _ hn=>⟨by have:=HB;omega,rfl⟩) (lR)),(Hk h0).2⟩
     have Jl:=Q1 HB Hq.size;clear Hq Hk
     go_wp2
     refine hK.out _ _ (Hh.out _ Hi.out) (λhQ=>?_);clear hK K;refine tk 8 ?_;refine tk 9 ?_;refine tk 10 ?_;refine rd 12 (λK hK=>?_);have c0_11:W10.cell? ⟨V.heap.size,0,none⟩=some (.int .u64 0):=aa Hj.out 0;have c1_11:W10.cell? ⟨V.heap.size,1,none⟩=some (.slice none 0 0):=aa Hj.out 1;have f0_11:=ai Hj.out 0;have f1_11:=ai Hj.out 1;have Jm:=HG;have Ht:Hid (∀ j,j≠V.heap.size->((W10.setCell ⟨V.heap.size,0,none⟩ (.int .u64 (G.2.1.cp:Nat))).setCell ⟨V.heap.size,1,none⟩ (.slice ua10 un10 uc10)).heap[j]?=W10.heap[j]?):=λj hj=>(set_other hj).trans (set_other hj)
     have Hs:((W10.setCell ⟨V.heap.size,0,none⟩ (.int .u64 (G.2.1.cp:Nat))).setCell ⟨V.heap.size,1,none⟩ (.slice ua10 un10 uc10)).heap.size=W10.heap.size:=by simp
     have HX:Hid (Apart (λj=>j=pb) X ((W10.setCell ⟨V.heap.size,0,none⟩ (.int .u64 (G.2.1.cp:Nat))).setCell ⟨V.heap.size,1,none⟩ (.slice ua10 un10 uc10))):=⟨Hi.out.os,Hi.out.tape,Hi.out.output,by rw [Hs];exact Hi.out.size,λj hj hn=>(Ht.out j (by omega)).trans (Hi.out.block j hj hn)⟩;have hE:=qI (ah (ah Hj.out 0 (.int .u64 (G.2.1.cp:Nat))) 1 (.slice ua10 un10 uc10));have hS:Hid (G.1=0->bt (ag (λj=>j<X.heap.size\/j=V.heap.size) ((W10.setCell ⟨V.heap.size,0,none⟩ (.int .u64 (G.2.1.cp:Nat))).setCell ⟨V.heap.size,1,none⟩ (.slice ua10 un10 uc10))) (.slice ua10 un10 uc10) G.2.1.dv/\ak ((W10.setCell ⟨V.heap.size,0,none⟩ (.int .u64 (G.2.1.cp:Nat))).setCell ⟨V.heap.size,1,none⟩ (.slice ua10 un10 uc10)) pb db ao pc sk.ds G.2.2):=λh0=>⟨(HV.out h0).1.le (bE (λj _ hn=>⟨hn,Ht.out j (λe=>hn (.inr e))⟩) (Nat.le_of_eq Hs.symm)),((HV.out h0).2.kept (bL _ ⟨V.heap.size,0,none⟩ _) (λe=>by injection e with e;have e:pb=V.heap.size:=e;omega) (λh1 e=>by injection e with e;have e:db=V.heap.size:=e;have:=(Hx.out (by rw [<- He.out.1];exact h1)).2.2;omega)).kept (bL _ ⟨V.heap.size,1,none⟩ _) (λe=>by injection e with e;have e:pb=V.heap.size:=e;omega) (λh1 e=>by injection e with e;have e:db=V.heap.size:=e;have:=(Hx.out (by rw [<- He.out.1];exact h1)).2.2;omega)⟩
     go_simp
     go_wp2
     refine hK.out _ _ (Hh.out _ HX.out) (λhQ=>?_);clear hK K;refine tk 13 ?_;refine Qn (by kernel_rfl) ?_ _
     go_wp2
     go_meet
     exact ⟨_,_,_,_,rfl,rfl,hE.out,HG,hS.out,HX.out⟩
   case rest=>
    obtain ⟨Bp,ua,un,uc,rfl,rfl,hw,JV,Jt,Hc⟩:=hcut;have hr:=qI hw;have Jq:=qI Jt;have hX:=qI Hc;have jc:=Hc.size;have jj:Bp<wc.heap.size:=(gS hw).1;have Hr:=qI ((Hc.block (B+1) (by omega) (by omega)).trans ((Hb.out.block (B+1) (by omega)).trans hA.out));have JI:Hid (w.grownBy wc (some pb)):=⟨Hc.os.trans (Hb.out.os.trans Hm.out.os),Hc.tape.trans (Hb.out.tape.trans Hm.out.tape),Hc.output.trans (Hb.out.output.trans Hm.out.output),by have:=Hm.out.size;omega,λj hj hn=>(Hc.block j (by have:=Hm.out.size;omega) (λe=>hn (by rw [e]))).trans ((Hb.out.block j (by have:=Hm.out.size;omega)).trans (Hm.out.block j hj hn))⟩;clear hw Jt Hc HT Hp Hh
    by_cases hg0:G.1=0
    ·have JH:=qI hg0;rw [hg0,show au (((0:Nat)):Int)=.nilIface from rfl];rw [if_pos hg0] at HO;clear hg0;obtain ⟨Jd,Jg⟩:=Jq.out JH.out;have JT:=qI Jd;have J3:=qI Jg;clear Jd Jg Jq;generalize hgc:G.2.1.cp=gc at *;have hD:=qI hgc;clear hgc;have gcl:=h8.out;have s0:wc.cell? ⟨B+1,0,none⟩=some (.int .u64 sk.cp):=aa Hr.out 0;have sf:=ai Hr.out 0;have p0:wc.cell? ⟨Bp,0,none⟩=some (.int .u64 (gc:Nat)):=aa hr.out 0;have p1:wc.cell? ⟨Bp,1,none⟩=some (.slice ua un uc):=aa hr.out 1;have jh:=iI sk.cp gc He.out.2 gcl;have HC:Bp≠B+1:=by omega
     have Jp:=qI J7;have jd:=qI (Ost.gX (A:=sk.cp) gc He.out.2);have Hl:∀ b,(Value.slice va l.length vc).ownBlock=some b->U.heap.size<=b/\b<Bc:=λb hb=>by rw [<- hBc];exact Ho.out.row.lt b hb
     have hY:=qI (ah Hr.out 0 (.int .u64 (dif sk.cp gc:Nat)));have hl:Hid (∀ j,j≠B+1->(wc.setCell ⟨B+1,0,none⟩ (.int .u64 (dif sk.cp gc:Nat))).heap[j]?=wc.heap[j]?):=λj hj=>set_other hj
     have HZ:(wc.setCell ⟨B+1,0,none⟩ (.int .u64 (dif sk.cp gc:Nat))).heap.size=wc.heap.size:=by simp
     have hW:Hid (ak (wc.setCell ⟨B+1,0,none⟩ (.int .u64 (dif sk.cp gc:Nat))) pb db ao pc sk.ds G.2.2):=J3.out.kept (bL _ ⟨B+1,0,none⟩ _) (λe=>by injection e with e;have e:pb=B+1:=e;omega) (λh1 e=>by injection e with e;have e:db=B+1:=e;have:=(Hx.out (by rw [<- He.out.1];exact h1)).2.2;omega);have hf:Hid ((wc.setCell ⟨B+1,0,none⟩ (.int .u64 (dif sk.cp gc:Nat))).ownsRow U.heap.size 69 2 (.slice va l.length vc) l.length (l.flatMap fp)):=m8 Ho.out.row (λg hg=>(hl.out g (by have:=(Hl g hg).1;omega)).trans ((hX.out.block g (by have:=(Hl g hg).2;omega) (by have:=(Hl g hg).1;omega)).trans (Hb.out.block g (Hl g hg).2)));have hO:Hid (Apart (λj=>j=pb\/j=B+1\/U.heap.size<=j) U (wc.setCell ⟨B+1,0,none⟩ (.int .u64 (dif sk.cp gc:Nat)))):=((JY.out.trans (Apart.of_below (by rw [hBc];exact Hb.out))).trans (hX.out.wide (λj h=>.inl h))).trans (Apart.setCell (K:=λj=>j=pb\/j=B+1\/U.heap.size<=j) (.inr (.inl rfl)) _ _ _);clear Hr;have JN:=qI HZ;have Jw:=qI HC;generalize hw6:wc.setCell ⟨B+1,0,none⟩ (.int .u64 (dif sk.cp gc:Nat))=W6 at *;have t0:W6.cell? ⟨Bp,0,none⟩=some (.int .u64 (gc:Nat)):=aa ((hl.out Bp HC).trans hr.out) 0;have t1:W6.cell? ⟨Bp,1,none⟩=some (.slice ua un uc):=aa ((hl.out Bp HC).trans hr.out) 1;have hN:=Lp W6 (⟨gc,G.2.1.dv⟩,.slice ua un uc) 69;dsimp only at hN;have HN:=qI hN;have Jy:U.heap.size<=(W6.alloc (.cells #[.int .u64 (gc:Nat),.slice ua un uc] 69)).heap.size:=by simp;omega
     clear hN HZ
     go_wp2_with (at_builtin;refine wpList_append_lies _ rfl _ _ 55 rfl U.heap.size 69 i0 (.agg #[.int .u64 0,.slice none 0 0]) 2 32 Tryz.underlying55 hi Jv J6 JK rfl (by decide) _ _ _ rfl (hf.out.alloc _) ⟨_,0,none⟩ 1 1 (fp (⟨gc,G.2.1.dv⟩,.slice ua un uc)) rfl rfl HN.out (Lo _ _ _ _) (by decide) (by have:=Jp.out;unfold maxLen;omega) (by have:=Jp.out;omega) Jy (W6.heap.size+1) (by simp) ?_;intro g' cap' W8 Hy Ha hZ jb)
     have HZ:=JN.out;have JL:(W6.alloc (.cells #[.int .u64 (gc:Nat),.slice ua un uc] 69)).heap.size=wc.heap.size+1:=by rw [World.size_alloc,HZ]
     have ji:=Ha.size;have Hw:(Value.slice va l.length vc).ownBlock=some g'\/g'=wc.heap.size+1:=by rw [<- HZ];exact hZ
     have Jo:Hid (∀ j,j<wc.heap.size->j≠B+1->(Value.slice va l.length vc).ownBlock≠some j->W8.heap[j]?=wc.heap[j]?):=λj hj hne hno=>(Ha.block j (by omega) (λe=>hno e.symm)).trans ((Below.heap_alloc _ _ _ (by omega)).trans (hl.out j hne))
     have ht:Hid (Apart (λj=>j=pb\/j=B+1\/U.heap.size<=j) U W8):=(hO.out.trans (Apart.alloc _ _ _)).trans (eu Ha (λj hj _=>.inr (.inr (Hl j hj).1)));have hM:Hid (ak W8 pb db ao pc sk.ds G.2.2):=(hW.out.alloc _).kept Ha (λe=>by have:=(Hl pb e.symm).1;omega) (λh1 e=>by have:=(Hl db e.symm).1;have:=(Hx.out (by rw [<- He.out.1];exact h1)).2.2;omega);have hy:Hid (W8.heap[B+1]?=some (.cells #[.int .u64 (dif sk.cp gc:Nat),.pointer (some ⟨pb,0,none⟩)] 98 (0,0))):=(Ha.block (B+1) (by omega) (λe=>by have:=(Hl (B+1) e.symm).1;omega)).trans ((Below.heap_alloc _ _ _ (by omega)).trans hY.out);have hH:G.2.1=⟨gc,G.2.1.dv⟩:=by rw [<- hD.out]
     have H6:Hid (sx W8 (.slice (some ⟨g',0,none⟩) (l.length+1) cap') (l++[(G.2.1,Value.slice ua un uc)]) U.heap.size):=by
      refine ⟨?_,λz hz=>?_⟩
      ·rw [Q2,List.flatMap_append,hH]
       simpa using Hy
      ·rcases Qi.1 hz with hz|hz
       ·obtain ⟨z1,z2⟩:=Ho.out.in_ z hz;refine ⟨z1,z2.le (bE (λj hj hn=>?_) (by omega))⟩;have h9:¬ j<U.heap.size:=λh=>hn (.inl h)
        have Jh:(Value.slice va l.length vc).ownBlock≠some j:=λh=>hn (.inr h)
        refine ⟨λh=>?_,?_⟩
        ·rcases h with h|h
         ·exact h9 h
         ·have h:some g'=some j:=h;injection h with h
          rcases Hw with Hw|Hw
          ·exact Jh (by rw [Hw,h])
          ·omega
        ·exact (Jo.out j (by omega) (by omega) Jh).trans ((hX.out.block j (by omega) (by omega)).trans (Hb.out.block j (by rw [<- hBc];exact hj)))
       ·rw [Qm.1 hz];dsimp only;refine ⟨by rw [hH];exact gcl,JT.out.le (bE (λj hj hn=>?_) (by omega))⟩;have h9:¬ j<X.heap.size:=λh=>hn (.inl h)
        refine ⟨λh=>?_,Jo.out j hj (by omega) (λh=>by have:=(Hl j h).2;omega)⟩
        rcases h with h|h
        ·omega
        ·have h:some g'=some j:=h;injection h with h
         rcases Hw with Hw|Hw
         ·have:=(Hl g' Hw).2;omega
         ·omega
     clear Hy Ha hZ hH
     go_roundw
     case rel=>
      exact ⟨k+1,⟨dif sk.cp gc,sk.ds,G.2.2⟩,l++[(G.2.1,Value.slice ua un uc)],by omega,by go_num,by rw [HO.out,Qj];rfl,by rw [Q2,JG.out];rfl,H6.out,hM.out,hy.out,ht.out⟩
     case measure=>simp [intOf];omega
    ·have JQ:=qI hg0;rw [if_neg hg0] at HO;have H9:Hid ((Ol.give m s p).1=G.1):=by
      unfold Hid Ol.give;have e1:(Ol.bi m s p.cs (k+1)).1=G.1:=by rw [HO.out]
      have:=Lj (m:=m) (s:=s) (cs:=p.cs) (k:=k+1) (by rw [e1];exact hg0) p.cs.length (by omega)
      rw [e1] at this;exact this
     have hJ:=eh hg0;have ja:=qI hJ;rw [hJ];clear hg0 hJ;generalize G.1=g1 at *
     go_wp2
     go_ret2;exact ⟨⟨none,0,0,by rw [H9.out,ja.out];rfl,λh=>absurd (H9.out.symm.trans h) JQ.out⟩,JI.out⟩
  ·have JS:k=p.cs.length:=by omega
   subst JS;have H9:Hid (Ol.give m s p=(0,l.map Prod.fst)):=by
    unfold Hid Ol.give;rw [Jf.out]
   have hL:Hid (bz (fresh w.heap.size wr) (.slice va l.length vc) (l.map Prod.fst)):=Lr Ho.out (by omega)
   go_wp2
   go_ret2;exact ⟨⟨va,l.length,vc,by rw [H9.out];rfl,λ_=>by rw [H9.out];exact hL.out⟩,Hm.out⟩
end
