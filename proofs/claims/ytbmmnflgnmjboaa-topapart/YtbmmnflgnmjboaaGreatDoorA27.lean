import Derived.Test.YtbmmnflgnmjboaaGreatDoorA26
set_option maxRecDepth 100000
set_option maxHeartbeats 16000000
namespace Go.Proofs.YtbmmnflgnmjboaaGreatDoor
section
open RowKit Shelf
open Qos (Nd Ct Pd nd ct pd ag aB)
open Sv (Gv Hd gv hd)
open Ost (dif cnt)
attribute [local go_sem] Oper.semAt_some
def fp (x:Gv × Value):List Value:=[.int .u64 (x.1.cp:Nat),x.2]
theorem Lp (g:Gv) (a:Option Addr) (n c:Nat):∀ u∈fp (g,.slice a n c),u.oneCell'=true:=by
 intro u hu
 simp [fp] at hu
 rcases hu with rfl|rfl <;> rfl
theorem Lq (w:World) (x:Gv × Value) (t:TypeId):∀ j u,(fp x)[j]?=some u->(w.alloc (.cells #[.int .u64 (x.1.cp:Nat),x.2] t)).cell? ((⟨w.heap.size,0,none⟩:Addr).add j)=some u:=by
 intro j u hu;rw [Addr.add_lit,Qd]
 match j,hu with
 | 0,hu=>simp [fp] at hu;subst hu;simp
 | 1,hu=>simp [fp] at hu;subst hu;simp
 | n+2,hu=>simp [fp] at hu
theorem Lr:(Tryz.prog.info? 69).map (λi=>(i.zero,i.size,i.bytes))=some (some (.agg #[.int .u64 0,.slice none 0 0]),2,32):=by kernel_rfl
structure so (W:World) (v:Value) (l:List (Gv × Value)) (N:Nat):Prop where
 row:W.ownsRow N 69 2 v l.length (l.flatMap fp)
 in_:∀ x∈l,x.1.cp<18446744073709551616/\bu (ah (λj=>j<N\/v.ownBlock=some j) W) x.2 x.1.dv
theorem Ls {W:World} {v:Value} {l:List (Gv × Value)} {N K:Nat} (h:so W v l N) (hN:K<=N):bl (fresh K W) v (l.map Prod.fst):=by
 have h':=h.row
 rcases h.row.2 with ⟨hv,h0⟩|⟨g,cap,cur,hv,hg,Hb,Ha,Hc,_⟩
 ·have:l=[]:=Qe h0
  subst this;rw [hv];exact ⟨none,0,rfl,⟨lR,Nat.zero_le _⟩,λh=>absurd h (Nat.lt_irrefl 0)⟩
 ·subst hv;have key:∀ (l:List (Gv × Value)) (k:Nat) (hk:k<l.length) (j:Nat),j<2->(l.flatMap fp)[k*2+j]?=(fp l[k])[j]?:=by
   intro l
   induction l with
   | nil=>intro k hk;simp at hk
   | cons a l ih=>
    intro k hk j hj;rw [List.flatMap_cons];cases k with
    | zero=>rw [List.getElem?_append_left (by simp [fp];omega)];simp
    | succ k=>
     rw [List.getElem?_append_right (by simp [fp];omega)]
     have:=ih k (by simpa using hk) j hj
     simp only [List.getElem_cons_succ];rw [<- this]
     congr 1
     simp [fp]
     omega
  refine ⟨_,cap,by rw [Q9],by rw [Q9];exact ⟨Ha,Hc⟩,λ_=>⟨g,0,λk=>(l.getD k (⟨0,[]⟩,.nilIface)).2,rfl,by rw [bx];exact (gS Hb).1,λk hk=>?_⟩⟩;rw [Q9] at hk;have e:gv (l.map Prod.fst) k=l[k].1:=by simp [gv,hk]
  have e2:(l.getD k (⟨0,[]⟩,.nilIface)).2=l[k].2:=by simp [hk]
  obtain ⟨q1,q2⟩:=h.in_ _ (List.getElem_mem hk);dsimp only;rw [e,e2];refine ⟨⟨?_,?_,q1⟩,q2.le (bn (λj _ hn=>⟨λhj=>hn (.inl (Q1 hj hN)),rfl⟩) (lR))⟩
  ·rw [gX (by omega),Qd,h'.cellAt (k*2) (by omega)];exact key l k hk 0 (by decide)
  ·rw [gX (by omega),Qd,h'.cellAt (k*2+1) (by omega)];exact key l k hk 1 (by decide)
abbrev kx:=λ(x0:Nat) (x1:Ol.Mc)=>(.cells #[.pointer (some ⟨x0,0,none⟩),.int .u64 x1.op,.int .u8 x1.nd,.int .i64 x1.nb,.int .i64 x1.pol] 95:Obj)
abbrev ky:=λ(x0:Pd) (x1:Option Addr) (x2:Nat)=>(.cells #[.string x0.nm,.int .i64 x0.pr,.slice x1 x0.cs.length x2] 47:Obj)
abbrev o6:=λ(x0:Qos.Ct) (x1:Option Addr) (x2:Nat)=>(.cells #[.string x0.nm,.int .i64 x0.am,.int .i64 x0.ab,.int .i64 x0.cm,.int .i64 x0.cb,.slice x1 x0.ds.length x2] 63:Obj)
abbrev kz:=λ(x0:Ol.Sk) (x1:Nat)=>(.cells #[.int .u64 x0.cp,.pointer (some ⟨x1,0,none⟩)] 98:Obj)
abbrev Lt:=λ(B tb:Nat) (m:Ol.Mc) (sk:Ol.Sk) (pb:Nat) (p:Pd) (cb co cc Bc:Nat) (x:Qos.Ct) (na:Option Addr) (nc:Nat) (w':World)=>w'.cell? ⟨B,0,none⟩=some (.pointer (some ⟨tb,0,none⟩))/\w'.cell? ⟨B,1,none⟩=some (.int .u64 m.op)/\w'.cell? ⟨B,2,none⟩=some (.int .u8 m.nd)/\w'.cell? ⟨B,3,none⟩=some (.int .i64 m.nb)/\w'.cell? ⟨B,4,none⟩=some (.int .i64 m.pol)/\w'.cell? ⟨B+1,0,none⟩=some (.int .u64 sk.cp)/\w'.cell? ⟨B+1,1,none⟩=some (.pointer (some ⟨pb,0,none⟩))/\w'.cell? ⟨B+2,0,none⟩=some (.string p.nm)/\w'.cell? ⟨B+2,1,none⟩=some (.int .i64 p.pr)/\w'.cell? ⟨B+2,2,none⟩=some (.slice (some ⟨cb,co,none⟩) p.cs.length cc)/\w'.cell? ⟨Bc,0,none⟩=some (.string x.nm)/\w'.cell? ⟨Bc,1,none⟩=some (.int .i64 x.am)/\w'.cell? ⟨Bc,2,none⟩=some (.int .i64 x.ab)/\w'.cell? ⟨Bc,3,none⟩=some (.int .i64 x.cm)/\w'.cell? ⟨Bc,4,none⟩=some (.int .i64 x.cb)/\w'.cell? ⟨Bc,5,none⟩=some (.slice na x.ds.length nc)
theorem Lu (m:Ol.Mc) (s:Ol.Sk) (tb b o c pb db:Nat) (ao:Option Addr) (pc:Nat) (p:Pd) (cv:Value) (w:World) (hm:cM (ah (λj=>j=pb) w) tb b o c m) (hs:dj w pb db ao pc s) (hp:aD (ah (λj=>j=pb) w) cv p.cs) (hF:ag p=0) :
  Calls Tryz.prog 53 #[mV m tb,sV s pb,bV p cv] w λe w'=>(∃ ua un uc,e=.returned (.tuple #[.slice ua un uc,ar ((Ol.give m s p).1:Nat)])/\((Ol.give m s p).1=0->bl (fresh w.heap.size w') (.slice ua un uc) (Ol.give m s p).2))/\w.grownBy w' (some pb):=by
 obtain ⟨i0,hi,Jx,J1,JJ⟩:=info_parts Lr;unfold mV sV bV;have HM:=qI hm;have HS:=qI hs;have HP:=qI hp;have Jr:=qI (Sv.fE hF);have JW:=hs.pool.lt;have Hx:=qI hs.pool.at0;obtain ⟨ca,cc,rfl,jc,Jn⟩:=hp;have JF:=qI Jn;have JP:=Jr.out.2.2.1;have sz:(((w.alloc (kx tb m)).alloc (kz s pb)).alloc (ky p ca cc)).heap.size=w.heap.size+3:=by simp
 have h5:=qI (aF ((w.alloc (kx tb m)).alloc (kz s pb)) (ky p ca cc) (n:=w.heap.size+2) (by simp));have JQ:=qI (bg (aF (w.alloc (kx tb m)) (kz s pb) (n:=w.heap.size+1) (by simp)) (ky p ca cc));have JU:=qI (bg (bg (aF w (kx tb m) rfl) (kz s pb)) (ky p ca cc));have H9:=qI ((((Q0 w.heap.size w).alloc (lR) (kx tb m)).alloc (by simp) (kz s pb)).alloc (by simp;omega) (ky p ca cc));have J2:(((w.alloc (kx tb m)).alloc (kz s pb)).alloc (ky p ca cc)).cell? ⟨w.heap.size+2,2,none⟩=some (.slice ca p.cs.length cc):=ad h5.out 2;have hC:=qI (hs.pool.below H9.out);clear hm hs Jn hF
 go_enter Tryz.func53,Tryz.ntmps53
 go_wp2_with fail
 generalize (((w.alloc (kx tb m)).alloc (kz s pb)).alloc (ky p ca cc))=U at *;generalize hB:w.heap.size=B at *;clear J2
 go_loopw [8,16] (λpv i wr=>∃ (k:Nat) (sk:Ol.Sk) (l:List (Gv × Value)),k<=p.cs.length/\i=.int .i64 k/\Ol.bm m s p.cs k=(0,l.map Prod.fst,sk)/\l.length=k/\so wr pv l U.heap.size/\ap wr pb db ao pc sk.ds sk.us/\wr.heap[B+1]?=some (.cells #[.int .u64 sk.cp,.pointer (some ⟨pb,0,none⟩)] 98 (0,0))/\Apart (λj=>j=pb\/j=B+1\/U.heap.size<=j) U wr) (λ_ i _=>p.cs.length - (intOf i).toNat)
 case atStart=>exact ⟨0,s,[],by omega,rfl,rfl,rfl,⟨Qw _ _ _ _,λx hx=>(List.not_mem_nil hx).elim⟩,hC.out,JQ.out,Apart.refl _ _⟩
 case round=>
  obtain ⟨k,sk,l,hk,rfl,hq,Jt,HB,Hy,Jj,Hr⟩:=hrel;have Jo:=qI hq;have JX:=qI Jt;have Hq:=qI HB;have H8:=qI Hy;have hE:=qI Jj;have JR:=qI Hr;have jf:=Hr.size;have jh:pb<B:=by omega
  have JK:l.length<=3:=by omega
  obtain ⟨va,vc,J9⟩:=fH HB.row;subst J9;have Hm:Hid (w.grownBy wr (some pb)):=⟨Hr.os.trans H9.out.os,Hr.tape.trans H9.out.tape,Hr.output.trans H9.out.output,by omega,λj hj hn=>(Hr.block j (by omega) (λh=>by rcases h with h|h|h;exact hn (by rw [h]);omega;omega)).trans (H9.out.block j (by omega))⟩;have H2:=qI ((Hr.block B (by omega) (by omega)).trans JU.out);have hy:=qI ((Hr.block (B+2) (by omega) (by omega)).trans h5.out);have Hc:Hid (sk.ds=s.ds/\sk.cp<18446744073709551616):=⟨by have:=Lj m s p.cs k;rw [hq] at this;exact this,by have:=Lm m s p.cs HS.out.cp k;rw [hq] at this;exact this⟩;have ho:Hid (az (ah (λj=>j=pb) w) (ah (λj=>j=pb) wr)):=bn (λj hj hn=>⟨hn,Hm.out.block j hj (λe=>hn (by injection e))⟩) Hm.out.size;clear hq Jt HB Hy Jj Hr
  by_cases hlt:k<p.cs.length
  ·obtain ⟨cb,co,dv,rfl,Hz⟩:=JF.out (by omega);obtain ⟨k0,k1,k2,k3,k4,k5⟩:=Hz.at hlt;have Hf:=ho.out.trans (cB _ _);have k0:=Hf.cell _ _ _ k0;have k1:=Hf.cell _ _ _ k1;have k2:=Hf.cell _ _ _ k2;have k3:=Hf.cell _ _ _ k3;have k4:=Hf.cell _ _ _ k4;have k5:=Hf.cell _ _ _ k5;have Hg:=((Hz.2 k hlt).2).le ho.out;obtain ⟨na,nc,hu,hL,hQ⟩:=id Hg;rw [hu] at k5 Hg;have Hs:=qI Hg;have HC:=qI (Jr.out.2.2.2 (ct p.cs k) (Ost.dY _ _ _ hlt));have HQ:=qI (Ln Jo.out);have je:(k:Int)<(p.cs.length:Int):=by omega
   obtain ⟨x,hx⟩:∃ x,x=ct p.cs k:=⟨_,rfl⟩;rw [<- hx] at k0 k1 k2 k3 k4 k5 hu HC HQ Hs;clear Hz Hg Hf hu hx hL hQ;have Hb:=qI ((Q0 wr.heap.size wr).alloc (lR) (o6 x na nc));have HK:=qI (aF wr (o6 x na nc) rfl);have jd:(wr.alloc (o6 x na nc)).heap.size=wr.heap.size+1:=by simp
   go_upto_region 5 with fail
   generalize wr.alloc (o6 x na nc)=X at *;clear k0 k1 k2 k3 k4 k5;generalize hBc:wr.heap.size=Bc at *;have Hi:Hid (∀ W,Apart (λj=>j=pb) X W->(Lt B tb m sk pb p cb co cc Bc x na nc) W):=λW hb=>⟨ad ((hb.block (B) (by omega) (by omega)).trans ((Hb.out.block B (by omega)).trans H2.out)) 0,ad ((hb.block (B) (by omega) (by omega)).trans ((Hb.out.block B (by omega)).trans H2.out)) 1,ad ((hb.block (B) (by omega) (by omega)).trans ((Hb.out.block B (by omega)).trans H2.out)) 2,ad ((hb.block (B) (by omega) (by omega)).trans ((Hb.out.block B (by omega)).trans H2.out)) 3,ad ((hb.block (B) (by omega) (by omega)).trans ((Hb.out.block B (by omega)).trans H2.out)) 4,ad ((hb.block (B+1) (by omega) (by omega)).trans ((Hb.out.block (B+1) (by omega)).trans hE.out)) 0,ad ((hb.block (B+1) (by omega) (by omega)).trans ((Hb.out.block (B+1) (by omega)).trans hE.out)) 1,ad ((hb.block (B+2) (by omega) (by omega)).trans ((Hb.out.block (B+2) (by omega)).trans hy.out)) 0,ad ((hb.block (B+2) (by omega) (by omega)).trans ((Hb.out.block (B+2) (by omega)).trans hy.out)) 1,ad ((hb.block (B+2) (by omega) (by omega)).trans ((Hb.out.block (B+2) (by omega)).trans hy.out)) 2,ad ((hb.block (Bc) (by omega) (by omega)).trans HK.out) 0,ad ((hb.block (Bc) (by omega) (by omega)).trans HK.out) 1,ad ((hb.block (Bc) (by omega) (by omega)).trans HK.out) 2,ad ((hb.block (Bc) (by omega) (by omega)).trans HK.out) 3,ad ((hb.block (Bc) (by omega) (by omega)).trans HK.out) 4,ad ((hb.block (Bc) (by omega) (by omega)).trans HK.out) 5⟩
   have Jw:Hid (ap X pb db ao pc sk.ds sk.us):=H8.out.below (by rw [hBc];exact Hb.out);have H4:=qI (λ(W:World) (v:Value) (h1:cM W tb b o c m) (h2:dj W pb db ao pc sk) (h3:bf (ah (λj=>j=pb) W) v x.ds)=>Lh m sk tb b o c pb db ao pc (aB p.cs x.am) v x.ds W h1 h2 h3 HC.out.2.2.2.2.2.1 (λn hn=>(HC.out.2.2.2.2.2.2 n hn).2.1));have Ji:=qI (Ll (m:=m) (s:=sk) (own:=aB p.cs x.am) (ns:=x.ds) Hc.out.2);obtain ⟨G,hG⟩:∃ G,G=(Ol.bc m sk (aB p.cs x.am) x.ds):=⟨_,rfl⟩;rw [<- hG] at H4 HQ Ji;clear hG;have Hn:Hid (∀ W,Apart (λj=>j=pb) X W->cM W tb b o c m/\aD W (.slice (some ⟨cb,co,none⟩) p.cs.length cc) p.cs/\bf (ah (λj=>j=pb) W) (.slice na x.ds.length nc) x.ds):=λW hb=>by
    have l1:az (ah (λj=>j=pb) wr) (ah (λj=>j=pb) W):=(mu (Apart.of_below (K:=λj=>j=pb) (by rw [hBc];exact Hb.out)) (λ_ _ h=>h)).trans (Lo hb);exact ⟨HM.out.le ((ho.out.trans l1).trans (cB _ _)),HP.out.le ((ho.out.trans l1).trans (cB _ _)),Hs.out.le l1⟩
   go_cut [11,12] (λp11 e12 wc=>∃ Bp ua un uc,p11=.pointer (some ⟨Bp,0,none⟩)/\e12=ar (G.1:Nat)/\wc.heap[Bp]?=some (.cells #[.int .u64 (G.2.1.cp:Nat),.slice ua un uc] 69 (0,0))/\X.heap.size<=Bp/\(G.1=0->bu (ah (λj=>j<X.heap.size\/j=Bp) wc) (.slice ua un uc) G.2.1.dv/\ap wc pb db ao pc sk.ds G.2.2)/\Apart (λj=>j=pb) X wc)
   case first=>
    have HX:Hid (Apart (λj=>j=pb) X X.drew):=Apart.drew _ _;refine Qo (by kernel_rfl) (Hi.out _ HX.out) (λhQ=>?_);have Jd:Hid (ap X.drew pb db ao pc sk.ds sk.us):=Jw.out.below (a6 (Q0 _ _));generalize X.drew=V at *;refine tk 0 ?_;refine tk 1 ?_;refine tk 2 ?_;refine tk 3 ?_;refine tk 5 ?_;refine tk 6 ?_;refine wpAnyH_ready (rs:=[4,11]) (by kernel_rfl) (by simp) (AllReadyH.cons rfl (λK hK=>?_) (AllReadyH.cons rfl (λK hK=>?_) AllReadyH.nil))
    ·go_simp
     go_wp2_with fail
     refine (mh p _ x na x.ds.length nc V (Hn.out _ HX.out).2.1 HC.out.2.1.1 HC.out.2.1.2).mono ?_;rintro e W1 ⟨rfl,hX⟩;have HE:=qI (HX.out.trans (Apart.of_below hX));have h6:=qI (Jd.out.below hX);clear hX
     go_wp2
     refine hK.out _ _ (Hi.out _ HE.out) (λhQ=>?_);clear hK K;refine wpAnyH_ready (rs:=[7,11]) (by kernel_rfl) (by simp) (AllReadyH.cons rfl (λK hK=>?_) (AllReadyH.cons rfl (λK hK=>?_) AllReadyH.nil))
     ·go_simp
      go_wp2_with fail
      refine (H4.out W1 _ (Hn.out _ HE.out).1 ⟨h6.out,by rw [Hc.out.1];exact HS.out.nodes,Hc.out.2⟩ (Hn.out _ HE.out).2.2).mono ?_;rintro e W2 ⟨⟨ua2,un2,uc2,rfl,HF⟩,Jp⟩;have ht:=qI (HE.out.trans (ey Jp (λj hj _=>by injection hj with hj;exact hj.symm)));have hO:=HE.out.size;have h8:Hid (G.1=0->bu (fresh X.heap.size W2) (.slice ua2 un2 uc2) G.2.1.dv/\ap W2 pb db ao pc sk.ds G.2.2):=λh0=>⟨(HF h0).1.le (lj (λ_ _ _=>rfl) (lR) hO),(HF h0).2⟩
      clear Jp HF
      go_wp2
      refine hK.out _ _ (Hi.out _ ht.out) (λhQ=>?_);clear hK K;refine tk 8 ?_;refine tk 9 ?_;refine tk 10 ?_;refine rd 11 (λK hK=>?_);have HL:=qI (ht.out.trans (Apart.alloc _ W2 (.cells #[.int .u64 0,.slice none 0 0] 69)));have ha:=qI (aF W2 (.cells #[.int .u64 0,.slice none 0 0] 69) rfl);have JE:W2.heap.size<(W2.alloc (.cells #[.int .u64 0,.slice none 0 0] 69)).heap.size:=by simp
      have H1:=ht.out.size;have Je:Hid (G.1=0->bu (ah (λj=>j<X.heap.size\/j=W2.heap.size) (W2.alloc (.cells #[.int .u64 0,.slice none 0 0] 69))) (.slice ua2 un2 uc2) G.2.1.dv/\ap (W2.alloc (.cells #[.int .u64 0,.slice none 0 0] 69)) pb db ao pc sk.ds G.2.2):=λh0=>⟨(h8.out h0).1.le (bn (λj hj hn=>⟨by omega,Below.heap_alloc _ _ _ hj⟩) (by simp)),(h8.out h0).2.alloc _⟩
      go_simp
      go_wp2
      refine hK.out _ _ (Hi.out _ HL.out) (λhQ=>?_);clear hK K;generalize W2.alloc (.cells #[.int .u64 0,.slice none 0 0] 69)=W3 at *;refine rd 12 (λK hK=>?_);have c0_4:W3.cell? ⟨W2.heap.size,0,none⟩=some (.int .u64 0):=ad ha.out 0;have c1_4:W3.cell? ⟨W2.heap.size,1,none⟩=some (.slice none 0 0):=ad ha.out 1;have f0_4:=aq ha.out 0;have f1_4:=aq ha.out 1;have JS:=H1;have HU:Hid (∀ j,j≠W2.heap.size->((W3.setCell ⟨W2.heap.size,0,none⟩ (.int .u64 (G.2.1.cp:Nat))).setCell ⟨W2.heap.size,1,none⟩ (.slice ua2 un2 uc2)).heap[j]?=W3.heap[j]?):=λj hj=>(set_other hj).trans (set_other hj)
      have H3:((W3.setCell ⟨W2.heap.size,0,none⟩ (.int .u64 (G.2.1.cp:Nat))).setCell ⟨W2.heap.size,1,none⟩ (.slice ua2 un2 uc2)).heap.size=W3.heap.size:=by simp
      have hY:Hid (Apart (λj=>j=pb) X ((W3.setCell ⟨W2.heap.size,0,none⟩ (.int .u64 (G.2.1.cp:Nat))).setCell ⟨W2.heap.size,1,none⟩ (.slice ua2 un2 uc2))):=⟨HL.out.os,HL.out.tape,HL.out.output,by rw [H3];exact HL.out.size,λj hj hn=>(HU.out j (by omega)).trans (HL.out.block j hj hn)⟩;have JI:=qI (aj (aj ha.out 0 (.int .u64 (G.2.1.cp:Nat))) 1 (.slice ua2 un2 uc2));have JM:Hid (G.1=0->bu (ah (λj=>j<X.heap.size\/j=W2.heap.size) ((W3.setCell ⟨W2.heap.size,0,none⟩ (.int .u64 (G.2.1.cp:Nat))).setCell ⟨W2.heap.size,1,none⟩ (.slice ua2 un2 uc2))) (.slice ua2 un2 uc2) G.2.1.dv/\ap ((W3.setCell ⟨W2.heap.size,0,none⟩ (.int .u64 (G.2.1.cp:Nat))).setCell ⟨W2.heap.size,1,none⟩ (.slice ua2 un2 uc2)) pb db ao pc sk.ds G.2.2):=λh0=>⟨(Je.out h0).1.le (bn (λj _ hn=>⟨hn,HU.out j (λe=>hn (.inr e))⟩) (Nat.le_of_eq H3.symm)),((Je.out h0).2.kept (bN _ ⟨W2.heap.size,0,none⟩ _) (λe=>by injection e with e;have e:pb=W2.heap.size:=e;omega) (λh1 e=>by injection e with e;have e:db=W2.heap.size:=e;have:=(Hx.out (by rw [<- Hc.out.1];exact h1)).2.2;omega)).kept (bN _ ⟨W2.heap.size,1,none⟩ _) (λe=>by injection e with e;have e:pb=W2.heap.size:=e;omega) (λh1 e=>by injection e with e;have e:db=W2.heap.size:=e;have:=(Hx.out (by rw [<- Hc.out.1];exact h1)).2.2;omega)⟩
      go_simp
      go_wp2
      refine hK.out _ _ (Hi.out _ hY.out) (λhQ=>?_);clear hK K;refine tk 13 ?_;refine Qn (by kernel_rfl) ?_ _
      go_wp2
      go_meet
      exact ⟨_,_,_,_,rfl,rfl,JI.out,H1,JM.out,hY.out⟩
     ·have H5:=qI (HE.out.trans (Apart.alloc _ W1 (.cells #[.int .u64 0,.slice none 0 0] 69)));have JN:=qI (aF W1 (.cells #[.int .u64 0,.slice none 0 0] 69) rfl);have HA:W1.heap.size<(W1.alloc (.cells #[.int .u64 0,.slice none 0 0] 69)).heap.size:=by simp
      have HH:=HE.out.size;have J3:=qI (h6.out.alloc (.cells #[.int .u64 0,.slice none 0 0] 69));go_simp
      go_wp2
      refine hK.out _ _ (Hi.out _ H5.out) (λhQ=>?_);clear hK K;generalize W1.alloc (.cells #[.int .u64 0,.slice none 0 0] 69)=W5 at *;refine rd 7 (λK hK=>?_);go_simp
      go_wp2_with fail
      refine (H4.out W5 _ (Hn.out _ H5.out).1 ⟨J3.out,by rw [Hc.out.1];exact HS.out.nodes,Hc.out.2⟩ (Hn.out _ H5.out).2.2).mono ?_;rintro e W6 ⟨⟨ua6,un6,uc6,rfl,HJ⟩,hh⟩;have HO:=qI (H5.out.trans (ey hh (λj hj _=>by injection hj with hj;exact hj.symm)));have JG:=H5.out.size;have J0:=HH;have HV:=qI ((hh.block _ HA (λe=>by injection e with e;omega)).trans JN.out);have Jg:Hid (G.1=0->bu (ah (λj=>j<X.heap.size\/j=W1.heap.size) W6) (.slice ua6 un6 uc6) G.2.1.dv/\ap W6 pb db ao pc sk.ds G.2.2):=λh0=>⟨(HJ h0).1.le (bn (λj _ hn=>⟨by have:=HA;omega,rfl⟩) (lR)),(HJ h0).2⟩
      have JH:=Q1 HA hh.size;clear hh HJ
      go_wp2
      refine hK.out _ _ (Hi.out _ HO.out) (λhQ=>?_);clear hK K;refine tk 8 ?_;refine tk 9 ?_;refine tk 10 ?_;refine rd 12 (λK hK=>?_);have c0_7:W6.cell? ⟨W1.heap.size,0,none⟩=some (.int .u64 0):=ad HV.out 0;have c1_7:W6.cell? ⟨W1.heap.size,1,none⟩=some (.slice none 0 0):=ad HV.out 1;have f0_7:=aq HV.out 0;have f1_7:=aq HV.out 1;have J4:=HH;have H6:Hid (∀ j,j≠W1.heap.size->((W6.setCell ⟨W1.heap.size,0,none⟩ (.int .u64 (G.2.1.cp:Nat))).setCell ⟨W1.heap.size,1,none⟩ (.slice ua6 un6 uc6)).heap[j]?=W6.heap[j]?):=λj hj=>(set_other hj).trans (set_other hj)
      have hf:((W6.setCell ⟨W1.heap.size,0,none⟩ (.int .u64 (G.2.1.cp:Nat))).setCell ⟨W1.heap.size,1,none⟩ (.slice ua6 un6 uc6)).heap.size=W6.heap.size:=by simp
      have hZ:Hid (Apart (λj=>j=pb) X ((W6.setCell ⟨W1.heap.size,0,none⟩ (.int .u64 (G.2.1.cp:Nat))).setCell ⟨W1.heap.size,1,none⟩ (.slice ua6 un6 uc6))):=⟨HO.out.os,HO.out.tape,HO.out.output,by rw [hf];exact HO.out.size,λj hj hn=>(H6.out j (by omega)).trans (HO.out.block j hj hn)⟩;have JV:=qI (aj (aj HV.out 0 (.int .u64 (G.2.1.cp:Nat))) 1 (.slice ua6 un6 uc6));have JA:Hid (G.1=0->bu (ah (λj=>j<X.heap.size\/j=W1.heap.size) ((W6.setCell ⟨W1.heap.size,0,none⟩ (.int .u64 (G.2.1.cp:Nat))).setCell ⟨W1.heap.size,1,none⟩ (.slice ua6 un6 uc6))) (.slice ua6 un6 uc6) G.2.1.dv/\ap ((W6.setCell ⟨W1.heap.size,0,none⟩ (.int .u64 (G.2.1.cp:Nat))).setCell ⟨W1.heap.size,1,none⟩ (.slice ua6 un6 uc6)) pb db ao pc sk.ds G.2.2):=λh0=>⟨(Jg.out h0).1.le (bn (λj _ hn=>⟨hn,H6.out j (λe=>hn (.inr e))⟩) (Nat.le_of_eq hf.symm)),((Jg.out h0).2.kept (bN _ ⟨W1.heap.size,0,none⟩ _) (λe=>by injection e with e;have e:pb=W1.heap.size:=e;omega) (λh1 e=>by injection e with e;have e:db=W1.heap.size:=e;have:=(Hx.out (by rw [<- Hc.out.1];exact h1)).2.2;omega)).kept (bN _ ⟨W1.heap.size,1,none⟩ _) (λe=>by injection e with e;have e:pb=W1.heap.size:=e;omega) (λh1 e=>by injection e with e;have e:db=W1.heap.size:=e;have:=(Hx.out (by rw [<- Hc.out.1];exact h1)).2.2;omega)⟩
      go_simp
      go_wp2
      refine hK.out _ _ (Hi.out _ hZ.out) (λhQ=>?_);clear hK K;refine tk 13 ?_;refine Qn (by kernel_rfl) ?_ _
      go_wp2
      go_meet
      exact ⟨_,_,_,_,rfl,rfl,JV.out,HH,JA.out,hZ.out⟩
    ·have hR:=qI (HX.out.trans (Apart.alloc _ V (.cells #[.int .u64 0,.slice none 0 0] 69)));have JT:=qI (aF V (.cells #[.int .u64 0,.slice none 0 0] 69) rfl);have HW:V.heap.size<(V.alloc (.cells #[.int .u64 0,.slice none 0 0] 69)).heap.size:=by simp
     have HI:=HX.out.size;have J5:=qI (Jd.out.alloc (.cells #[.int .u64 0,.slice none 0 0] 69));go_simp
     go_wp2
     refine hK.out _ _ (Hi.out _ hR.out) (λhQ=>?_);clear hK K;generalize V.alloc (.cells #[.int .u64 0,.slice none 0 0] 69)=W8 at *;refine rd 4 (λK hK=>?_);go_simp
     go_wp2_with fail
     refine (mh p _ x na x.ds.length nc W8 (Hn.out _ hR.out).2.1 HC.out.2.1.1 HC.out.2.1.2).mono ?_;rintro e W9 ⟨rfl,HT⟩;have H0:=qI (hR.out.trans (Apart.of_below HT));have Jz:=qI (J5.out.below HT);have Jy:=qI ((HT.block _ HW).trans JT.out);have HG:=Q1 HW HT.size;clear HT
     go_wp2
     refine hK.out _ _ (Hi.out _ H0.out) (λhQ=>?_);clear hK K;refine rd 7 (λK hK=>?_);go_simp
     go_wp2_with fail
     refine (H4.out W9 _ (Hn.out _ H0.out).1 ⟨Jz.out,by rw [Hc.out.1];exact HS.out.nodes,Hc.out.2⟩ (Hn.out _ H0.out).2.2).mono ?_;rintro e W10 ⟨⟨ua10,un10,uc10,rfl,Hk⟩,Hp⟩;have Hh:=qI (H0.out.trans (ey Hp (λj hj _=>by injection hj with hj;exact hj.symm)));have Jf:=H0.out.size;have Jk:=HI;have Hj:=qI ((Hp.block _ HG (λe=>by injection e with e;omega)).trans Jy.out);have he:Hid (G.1=0->bu (ah (λj=>j<X.heap.size\/j=V.heap.size) W10) (.slice ua10 un10 uc10) G.2.1.dv/\ap W10 pb db ao pc sk.ds G.2.2):=λh0=>⟨(Hk h0).1.le (bn (λj _ hn=>⟨by have:=HG;omega,rfl⟩) (lR)),(Hk h0).2⟩
     have Jl:=Q1 HG Hp.size;clear Hp Hk
     go_wp2
     refine hK.out _ _ (Hi.out _ Hh.out) (λhQ=>?_);clear hK K;refine tk 8 ?_;refine tk 9 ?_;refine tk 10 ?_;refine rd 12 (λK hK=>?_);have c0_11:W10.cell? ⟨V.heap.size,0,none⟩=some (.int .u64 0):=ad Hj.out 0;have c1_11:W10.cell? ⟨V.heap.size,1,none⟩=some (.slice none 0 0):=ad Hj.out 1;have f0_11:=aq Hj.out 0;have f1_11:=aq Hj.out 1;have Jq:=HI;have Hw:Hid (∀ j,j≠V.heap.size->((W10.setCell ⟨V.heap.size,0,none⟩ (.int .u64 (G.2.1.cp:Nat))).setCell ⟨V.heap.size,1,none⟩ (.slice ua10 un10 uc10)).heap[j]?=W10.heap[j]?):=λj hj=>(set_other hj).trans (set_other hj)
     have Ht:((W10.setCell ⟨V.heap.size,0,none⟩ (.int .u64 (G.2.1.cp:Nat))).setCell ⟨V.heap.size,1,none⟩ (.slice ua10 un10 uc10)).heap.size=W10.heap.size:=by simp
     have H7:Hid (Apart (λj=>j=pb) X ((W10.setCell ⟨V.heap.size,0,none⟩ (.int .u64 (G.2.1.cp:Nat))).setCell ⟨V.heap.size,1,none⟩ (.slice ua10 un10 uc10))):=⟨Hh.out.os,Hh.out.tape,Hh.out.output,by rw [Ht];exact Hh.out.size,λj hj hn=>(Hw.out j (by omega)).trans (Hh.out.block j hj hn)⟩;have hM:=qI (aj (aj Hj.out 0 (.int .u64 (G.2.1.cp:Nat))) 1 (.slice ua10 un10 uc10));have hS:Hid (G.1=0->bu (ah (λj=>j<X.heap.size\/j=V.heap.size) ((W10.setCell ⟨V.heap.size,0,none⟩ (.int .u64 (G.2.1.cp:Nat))).setCell ⟨V.heap.size,1,none⟩ (.slice ua10 un10 uc10))) (.slice ua10 un10 uc10) G.2.1.dv/\ap ((W10.setCell ⟨V.heap.size,0,none⟩ (.int .u64 (G.2.1.cp:Nat))).setCell ⟨V.heap.size,1,none⟩ (.slice ua10 un10 uc10)) pb db ao pc sk.ds G.2.2):=λh0=>⟨(he.out h0).1.le (bn (λj _ hn=>⟨hn,Hw.out j (λe=>hn (.inr e))⟩) (Nat.le_of_eq Ht.symm)),((he.out h0).2.kept (bN _ ⟨V.heap.size,0,none⟩ _) (λe=>by injection e with e;have e:pb=V.heap.size:=e;omega) (λh1 e=>by injection e with e;have e:db=V.heap.size:=e;have:=(Hx.out (by rw [<- Hc.out.1];exact h1)).2.2;omega)).kept (bN _ ⟨V.heap.size,1,none⟩ _) (λe=>by injection e with e;have e:pb=V.heap.size:=e;omega) (λh1 e=>by injection e with e;have e:db=V.heap.size:=e;have:=(Hx.out (by rw [<- Hc.out.1];exact h1)).2.2;omega)⟩
     go_simp
     go_wp2
     refine hK.out _ _ (Hi.out _ H7.out) (λhQ=>?_);clear hK K;refine tk 13 ?_;refine Qn (by kernel_rfl) ?_ _
     go_wp2
     go_meet
     exact ⟨_,_,_,_,rfl,rfl,hM.out,HI,hS.out,H7.out⟩
   case rest=>
    obtain ⟨Bp,ua,un,uc,rfl,rfl,hV,J8,Jh,He⟩:=hcut;have hr:=qI hV;have h7:=qI Jh;have hU:=qI He;have jg:=He.size;have jb:Bp<wc.heap.size:=(gS hV).1;have Ho:=qI ((He.block (B+1) (by omega) (by omega)).trans ((Hb.out.block (B+1) (by omega)).trans hE.out));have ja:Hid (w.grownBy wc (some pb)):=⟨He.os.trans (Hb.out.os.trans Hm.out.os),He.tape.trans (Hb.out.tape.trans Hm.out.tape),He.output.trans (Hb.out.output.trans Hm.out.output),by have:=Hm.out.size;omega,λj hj hn=>(He.block j (by have:=Hm.out.size;omega) (λe=>hn (by rw [e]))).trans ((Hb.out.block j (by have:=Hm.out.size;omega)).trans (Hm.out.block j hj hn))⟩;clear hV Jh He H4 Hn Hi
    by_cases hg0:G.1=0
    ·have JL:=qI hg0;rw [hg0,show ar (((0:Nat)):Int)=.nilIface from rfl];rw [if_pos hg0] at HQ;clear hg0;obtain ⟨Js,Jb⟩:=h7.out JL.out;have J6:=qI Js;have JO:=qI Jb;clear Js Jb h7;generalize hgc:G.2.1.cp=gc at *;have hw:=qI hgc;clear hgc;have gcl:=Ji.out;have s0:wc.cell? ⟨B+1,0,none⟩=some (.int .u64 sk.cp):=ad Ho.out 0;have sf:=aq Ho.out 0;have p0:wc.cell? ⟨Bp,0,none⟩=some (.int .u64 (gc:Nat)):=ad hr.out 0;have p1:wc.cell? ⟨Bp,1,none⟩=some (.slice ua un uc):=ad hr.out 1;have ji:=iO sk.cp gc Hc.out.2 gcl;have HD:Bp≠B+1:=by omega
     have Jm:=qI JK;have jk:=qI (Ost.ii (A:=sk.cp) gc Hc.out.2);have Hl:∀ b,(Value.slice va l.length vc).ownBlock=some b->U.heap.size<=b/\b<Bc:=λb hb=>by rw [<- hBc];exact Hq.out.row.lt b hb
     have hP:=qI (aj Ho.out 0 (.int .u64 (dif sk.cp gc:Nat)));have hl:Hid (∀ j,j≠B+1->(wc.setCell ⟨B+1,0,none⟩ (.int .u64 (dif sk.cp gc:Nat))).heap[j]?=wc.heap[j]?):=λj hj=>set_other hj
     have hc:(wc.setCell ⟨B+1,0,none⟩ (.int .u64 (dif sk.cp gc:Nat))).heap.size=wc.heap.size:=by simp
     have hv:Hid (ap (wc.setCell ⟨B+1,0,none⟩ (.int .u64 (dif sk.cp gc:Nat))) pb db ao pc sk.ds G.2.2):=JO.out.kept (bN _ ⟨B+1,0,none⟩ _) (λe=>by injection e with e;have e:pb=B+1:=e;omega) (λh1 e=>by injection e with e;have e:db=B+1:=e;have:=(Hx.out (by rw [<- Hc.out.1];exact h1)).2.2;omega);have HR:Hid ((wc.setCell ⟨B+1,0,none⟩ (.int .u64 (dif sk.cp gc:Nat))).ownsRow U.heap.size 69 2 (.slice va l.length vc) l.length (l.flatMap fp)):=m6 Hq.out.row (λg hg=>(hl.out g (by have:=(Hl g hg).1;omega)).trans ((hU.out.block g (by have:=(Hl g hg).2;omega) (by have:=(Hl g hg).1;omega)).trans (Hb.out.block g (Hl g hg).2)));have hT:Hid (Apart (λj=>j=pb\/j=B+1\/U.heap.size<=j) U (wc.setCell ⟨B+1,0,none⟩ (.int .u64 (dif sk.cp gc:Nat)))):=((JR.out.trans (Apart.of_below (by rw [hBc];exact Hb.out))).trans (hU.out.wide (λj h=>.inl h))).trans (Apart.setCell (K:=λj=>j=pb\/j=B+1\/U.heap.size<=j) (.inr (.inl rfl)) _ _ _);clear Ho;have Ju:=qI hc;have JZ:=qI HD;generalize hw6:wc.setCell ⟨B+1,0,none⟩ (.int .u64 (dif sk.cp gc:Nat))=W6 at *;have t0:W6.cell? ⟨Bp,0,none⟩=some (.int .u64 (gc:Nat)):=ad ((hl.out Bp HD).trans hr.out) 0;have t1:W6.cell? ⟨Bp,1,none⟩=some (.slice ua un uc):=ad ((hl.out Bp HD).trans hr.out) 1;have hN:=Lq W6 (⟨gc,G.2.1.dv⟩,.slice ua un uc) 69;dsimp only at hN;have HN:=qI hN;have JB:U.heap.size<=(W6.alloc (.cells #[.int .u64 (gc:Nat),.slice ua un uc] 69)).heap.size:=by simp;omega
     clear hN hc
     go_wp2_with (at_builtin;refine wpList_append_lies _ rfl _ _ 55 rfl U.heap.size 69 i0 (.agg #[.int .u64 0,.slice none 0 0]) 2 32 Tryz.underlying55 hi Jx J1 JJ rfl (by decide) _ _ _ rfl (HR.out.alloc _) ⟨_,0,none⟩ 1 1 (fp (⟨gc,G.2.1.dv⟩,.slice ua un uc)) rfl rfl HN.out (Lp _ _ _ _) (by decide) (by have:=Jm.out;unfold maxLen;omega) (by have:=Jm.out;omega) JB (W6.heap.size+1) (by simp) ?_;intro g' cap' W8 Hu Ha h9 J7)
     have hc:=Ju.out;have JC:(W6.alloc (.cells #[.int .u64 (gc:Nat),.slice ua un uc] 69)).heap.size=wc.heap.size+1:=by rw [World.size_alloc,hc]
     have jj:=Ha.size;have Hv:(Value.slice va l.length vc).ownBlock=some g'\/g'=wc.heap.size+1:=by rw [<- hc];exact h9
     have h4:Hid (∀ j,j<wc.heap.size->j≠B+1->(Value.slice va l.length vc).ownBlock≠some j->W8.heap[j]?=wc.heap[j]?):=λj hj hne hno=>(Ha.block j (by omega) (λe=>hno e.symm)).trans ((Below.heap_alloc _ _ _ (by omega)).trans (hl.out j hne))
     have hD:Hid (Apart (λj=>j=pb\/j=B+1\/U.heap.size<=j) U W8):=(hT.out.trans (Apart.alloc _ _ _)).trans (ey Ha (λj hj _=>.inr (.inr (Hl j hj).1)));have hW:Hid (ap W8 pb db ao pc sk.ds G.2.2):=(hv.out.alloc _).kept Ha (λe=>by have:=(Hl pb e.symm).1;omega) (λh1 e=>by have:=(Hl db e.symm).1;have:=(Hx.out (by rw [<- Hc.out.1];exact h1)).2.2;omega);have hH:Hid (W8.heap[B+1]?=some (.cells #[.int .u64 (dif sk.cp gc:Nat),.pointer (some ⟨pb,0,none⟩)] 98 (0,0))):=(Ha.block (B+1) (by omega) (λe=>by have:=(Hl (B+1) e.symm).1;omega)).trans ((Below.heap_alloc _ _ _ (by omega)).trans hP.out);have hI:G.2.1=⟨gc,G.2.1.dv⟩:=by rw [<- hw.out]
     have HY:Hid (so W8 (.slice (some ⟨g',0,none⟩) (l.length+1) cap') (l++[(G.2.1,Value.slice ua un uc)]) U.heap.size):=by
      refine ⟨?_,λz hz=>?_⟩
      ·rw [Q2,List.flatMap_append,hI]
       simpa using Hu
      ·rcases Qi.1 hz with hz|hz
       ·obtain ⟨z1,z2⟩:=Hq.out.in_ z hz;refine ⟨z1,z2.le (bn (λj hj hn=>?_) (by omega))⟩;have Jc:¬ j<U.heap.size:=λh=>hn (.inl h)
        have Ja:(Value.slice va l.length vc).ownBlock≠some j:=λh=>hn (.inr h)
        refine ⟨λh=>?_,?_⟩
        ·rcases h with h|h
         ·exact Jc h
         ·have h:some g'=some j:=h;injection h with h
          rcases Hv with Hv|Hv
          ·exact Ja (by rw [Hv,h])
          ·omega
        ·exact (h4.out j (by omega) (by omega) Ja).trans ((hU.out.block j (by omega) (by omega)).trans (Hb.out.block j (by rw [<- hBc];exact hj)))
       ·rw [Qm.1 hz];dsimp only;refine ⟨by rw [hI];exact gcl,J6.out.le (bn (λj hj hn=>?_) (by omega))⟩;have Jc:¬ j<X.heap.size:=λh=>hn (.inl h)
        refine ⟨λh=>?_,h4.out j hj (by omega) (λh=>by have:=(Hl j h).2;omega)⟩
        rcases h with h|h
        ·omega
        ·have h:some g'=some j:=h;injection h with h
         rcases Hv with Hv|Hv
         ·have:=(Hl g' Hv).2;omega
         ·omega
     clear Hu Ha h9 hI
     go_roundw
     case rel=>
      exact ⟨k+1,⟨dif sk.cp gc,sk.ds,G.2.2⟩,l++[(G.2.1,Value.slice ua un uc)],by omega,by go_num,by rw [HQ.out,Qj];rfl,by rw [Q2,JX.out];rfl,HY.out,hW.out,hH.out,hD.out⟩
     case measure=>simp [intOf];omega
    ·have Jv:=qI hg0;rw [if_neg hg0] at HQ;have HZ:Hid ((Ol.give m s p).1=G.1):=by
      unfold Hid Ol.give;have e1:(Ol.bm m s p.cs (k+1)).1=G.1:=by rw [HQ.out]
      have:=Lk (m:=m) (s:=s) (cs:=p.cs) (k:=k+1) (by rw [e1];exact hg0) p.cs.length (by omega)
      rw [e1] at this;exact this
     have hA:=ei hg0;have JY:=qI hA;rw [hA];clear hg0 hA;generalize G.1=g1 at *
     go_wp2
     go_ret2;exact ⟨⟨none,0,0,by rw [HZ.out,JY.out];rfl,λh=>absurd (HZ.out.symm.trans h) Jv.out⟩,ja.out⟩
  ·have JD:k=p.cs.length:=by omega
   subst JD;have HZ:Hid (Ol.give m s p=(0,l.map Prod.fst)):=by
    unfold Hid Ol.give;rw [Jo.out]
   have hJ:Hid (bl (fresh w.heap.size wr) (.slice va l.length vc) (l.map Prod.fst)):=Ls Hq.out (by omega)
   go_wp2
   go_ret2;exact ⟨⟨va,l.length,vc,by rw [HZ.out];rfl,λ_=>by rw [HZ.out];exact hJ.out⟩,Hm.out⟩
end
