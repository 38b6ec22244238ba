import Derived.Test.YtbmmnflgnmjboaaGreatDoorK26
set_option maxRecDepth 100000
set_option maxHeartbeats 16000000
namespace Go.Proofs.YtbmmnflgnmjboaaGreatDoor
section
open RowKit Shelf
open Qos (Nd Ct Pd nd ct pd ah aH)
open Sv (Gv Hd gv hd)
open Ost (dif cnt)
attribute [local go_sem] Oper.semAt_some
def eY (x:Gv × Value):List Value:=[.int .u64 (x.1.cp:Nat),x.2]
theorem JD (g:Gv) (a:Option Addr) (n c:Nat):∀ u∈eY (g,.slice a n c),u.oneCell'=true:=by
 intro u hu
 simp [eY] at hu
 rcases hu with rfl|rfl <;> rfl
theorem JE (w:World) (x:Gv × Value) (t:TypeId):∀ j u,(eY x)[j]?=some u->(w.alloc (.cells #[.int .u64 (x.1.cp:Nat),x.2] t)).cell? ((⟨w.heap.size,0,none⟩:Addr).add j)=some u:=by
 intro j u hu;rw [Addr.add_lit,Qd]
 match j,hu with
 | 0,hu=>simp [eY] at hu;subst hu;simp
 | 1,hu=>simp [eY] at hu;subst hu;simp
 | n+2,hu=>simp [eY] at hu
theorem JF:(Tryz.prog.info? 69).map (λi=>(i.zero,i.size,i.bytes))=some (some (.agg #[.int .u64 0,.slice none 0 0]),2,32):=by kernel_rfl
structure p9 (W:World) (v:Value) (l:List (Gv × Value)) (N:Nat):Prop where
 row:W.ownsRow N 69 2 v l.length (l.flatMap eY)
 in_:∀ x∈l,x.1.cp<18446744073709551616/\bj (ag (λj=>j<N\/v.ownBlock=some j) W) x.2 x.1.dv
theorem JG {W:World} {v:Value} {l:List (Gv × Value)} {N K:Nat} (h:p9 W v l N) (hN:K<=N):bl (fresh K W) v (l.map Prod.fst):=by
 have h':=h.row
 rcases h.row.2 with ⟨hv,h0⟩|⟨g,cap,cur,hv,hg,hgc,hc1,hc2,_⟩
 ·have:l=[]:=Qe h0
  subst this;rw [hv];exact ⟨none,0,rfl,⟨lR,Nat.zero_le _⟩,λh=>absurd h (Nat.lt_irrefl 0)⟩
 ·subst hv;have key:∀ (l:List (Gv × Value)) (k:Nat) (hk:k<l.length) (j:Nat),j<2->(l.flatMap eY)[k*2+j]?=(eY l[k])[j]?:=by
   intro l
   induction l with
   | nil=>intro k hk;simp at hk
   | cons a l ih=>
    intro k hk j hj;rw [List.flatMap_cons];cases k with
    | zero=>rw [List.getElem?_append_left (by simp [eY];omega)];simp
    | succ k=>
     rw [List.getElem?_append_right (by simp [eY];omega)]
     have:=ih k (by simpa using hk) j hj
     simp only [List.getElem_cons_succ];rw [<- this]
     congr 1
     simp [eY]
     omega
  refine ⟨_,cap,by rw [Q9],by rw [Q9];exact ⟨hc1,hc2⟩,λ_=>⟨g,0,λk=>(l.getD k (⟨0,[]⟩,.nilIface)).2,rfl,by rw [bw];exact (gS hgc).1,λk hk=>?_⟩⟩;rw [Q9] at hk;have e:gv (l.map Prod.fst) k=l[k].1:=by simp [gv,hk]
  have e2:(l.getD k (⟨0,[]⟩,.nilIface)).2=l[k].2:=by simp [hk]
  obtain ⟨q1,q2⟩:=h.in_ _ (List.getElem_mem hk);dsimp only;rw [e,e2];refine ⟨⟨?_,?_,q1⟩,q2.le (bg (λj _ hn=>⟨λhj=>hn (.inl (Q1 hj hN)),rfl⟩) (lR))⟩
  ·rw [gx (by omega),Qd,h'.cellAt (k*2) (by omega)];exact key l k hk 0 (by decide)
  ·rw [gx (by omega),Qd,h'.cellAt (k*2+1) (by omega)];exact key l k hk 1 (by decide)
abbrev JH:=λ(B tb:Nat) (m:Ol.Mc) (sk:Ol.Sk) (pb:Nat) (p:Pd) (cb co cc Bc:Nat) (x:Qos.Ct) (na:Option Addr) (nc:Nat) (w':World)=>w'.cell? ⟨B,0,none⟩=some (.pointer (some ⟨tb,0,none⟩))/\w'.cell? ⟨B,1,none⟩=some (.int .u64 m.op)/\w'.cell? ⟨B,2,none⟩=some (.int .u8 m.nd)/\w'.cell? ⟨B,3,none⟩=some (.int .i64 m.nb)/\w'.cell? ⟨B,4,none⟩=some (.int .i64 m.pol)/\w'.cell? ⟨B+1,0,none⟩=some (.int .u64 sk.cp)/\w'.cell? ⟨B+1,1,none⟩=some (.pointer (some ⟨pb,0,none⟩))/\w'.cell? ⟨B+2,0,none⟩=some (.string p.nm)/\w'.cell? ⟨B+2,1,none⟩=some (.int .i64 p.pr)/\w'.cell? ⟨B+2,2,none⟩=some (.slice (some ⟨cb,co,none⟩) p.cs.length cc)/\w'.cell? ⟨Bc,0,none⟩=some (.string x.nm)/\w'.cell? ⟨Bc,1,none⟩=some (.int .i64 x.am)/\w'.cell? ⟨Bc,2,none⟩=some (.int .i64 x.ab)/\w'.cell? ⟨Bc,3,none⟩=some (.int .i64 x.cm)/\w'.cell? ⟨Bc,4,none⟩=some (.int .i64 x.cb)/\w'.cell? ⟨Bc,5,none⟩=some (.slice na x.ds.length nc)
theorem JI (m:Ol.Mc) (s:Ol.Sk) (tb b o c pb db:Nat) (ao:Option Addr) (pc:Nat) (p:Pd) (cv:Value) (w:World) (hm:cI (ag (λj=>j=pb) w) tb b o c m) (hs:de w pb db ao pc s) (hp:aE (ag (λj=>j=pb) w) cv p.cs) (hF:ah p=0) :
  Calls Tryz.prog 53 #[mV m tb,sV s pb,bQ p cv] w λe w'=>(∃ ua un uc,e=.returned (.tuple #[.slice ua un uc,ak ((Ol.give m s p).1:Nat)])/\((Ol.give m s p).1=0->bl (fresh w.heap.size w') (.slice ua un uc) (Ol.give m s p).2))/\w.grownBy w' (some pb):=by
 obtain ⟨i0,hi,hz0,hz1,hz2⟩:=info_parts JF;unfold mV sV bQ;have HM:=qI hm;have HS:=qI hs;have HP:=qI hp;have HOK:=qI (Sv.fm hF);have hpbl:=hs.pool.lt;have HDB:=qI hs.pool.at0;obtain ⟨ca,cc,rfl,hcm,hcr⟩:=hp;have HCR:=qI hcr;have hcs3:=HOK.out.2.2.1;have sz:(((w.alloc (.cells #[.pointer (some ⟨tb,0,none⟩),.int .u64 m.op,.int .u8 m.nd,.int .i64 m.nb,.int .i64 m.pol] 95)).alloc (.cells #[.int .u64 s.cp,.pointer (some ⟨pb,0,none⟩)] 98)).alloc (.cells #[.string p.nm,.int .i64 p.pr,.slice ca p.cs.length cc] 47)).heap.size=w.heap.size+3:=by simp
 have HU2:=qI (aG ((w.alloc (.cells #[.pointer (some ⟨tb,0,none⟩),.int .u64 m.op,.int .u8 m.nd,.int .i64 m.nb,.int .i64 m.pol] 95)).alloc (.cells #[.int .u64 s.cp,.pointer (some ⟨pb,0,none⟩)] 98)) (.cells #[.string p.nm,.int .i64 p.pr,.slice ca p.cs.length cc] 47) (n:=w.heap.size+2) (by simp));have HU1:=qI (bx (aG (w.alloc (.cells #[.pointer (some ⟨tb,0,none⟩),.int .u64 m.op,.int .u8 m.nd,.int .i64 m.nb,.int .i64 m.pol] 95)) (.cells #[.int .u64 s.cp,.pointer (some ⟨pb,0,none⟩)] 98) (n:=w.heap.size+1) (by simp)) (.cells #[.string p.nm,.int .i64 p.pr,.slice ca p.cs.length cc] 47));have HU0:=qI (bx (bx (aG w (.cells #[.pointer (some ⟨tb,0,none⟩),.int .u64 m.op,.int .u8 m.nd,.int .i64 m.nb,.int .i64 m.pol] 95) rfl) (.cells #[.int .u64 s.cp,.pointer (some ⟨pb,0,none⟩)] 98)) (.cells #[.string p.nm,.int .i64 p.pr,.slice ca p.cs.length cc] 47));have HBU:=qI ((((Q0 w.heap.size w).alloc (lR) (.cells #[.pointer (some ⟨tb,0,none⟩),.int .u64 m.op,.int .u8 m.nd,.int .i64 m.nb,.int .i64 m.pol] 95)).alloc (by simp) (.cells #[.int .u64 s.cp,.pointer (some ⟨pb,0,none⟩)] 98)).alloc (by simp;omega) (.cells #[.string p.nm,.int .i64 p.pr,.slice ca p.cs.length cc] 47));have hu2:(((w.alloc (.cells #[.pointer (some ⟨tb,0,none⟩),.int .u64 m.op,.int .u8 m.nd,.int .i64 m.nb,.int .i64 m.pol] 95)).alloc (.cells #[.int .u64 s.cp,.pointer (some ⟨pb,0,none⟩)] 98)).alloc (.cells #[.string p.nm,.int .i64 p.pr,.slice ca p.cs.length cc] 47)).cell? ⟨w.heap.size+2,2,none⟩=some (.slice ca p.cs.length cc):=ad HU2.out 2;have HSKU:=qI (hs.pool.below HBU.out);clear hm hs hcr hF
 go_enter Tryz.func53,Tryz.ntmps53
 go_wp2_with fail
 generalize (((w.alloc (.cells #[.pointer (some ⟨tb,0,none⟩),.int .u64 m.op,.int .u8 m.nd,.int .i64 m.nb,.int .i64 m.pol] 95)).alloc (.cells #[.int .u64 s.cp,.pointer (some ⟨pb,0,none⟩)] 98)).alloc (.cells #[.string p.nm,.int .i64 p.pr,.slice ca p.cs.length cc] 47))=U at *;generalize hB:w.heap.size=B at *;clear hu2
 go_loopw [8,16] (λpv i wr=>∃ (k:Nat) (sk:Ol.Sk) (l:List (Gv × Value)),k<=p.cs.length/\i=.int .i64 k/\Ol.a6 m s p.cs k=(0,l.map Prod.fst,sk)/\l.length=k/\p9 wr pv l U.heap.size/\ap wr pb db ao pc sk.ds sk.us/\wr.heap[B+1]?=some (.cells #[.int .u64 sk.cp,.pointer (some ⟨pb,0,none⟩)] 98 (0,0))/\Apart (λj=>j=pb\/j=B+1\/U.heap.size<=j) U wr) (λ_ i _=>p.cs.length - (intOf i).toNat)
 case atStart=>exact ⟨0,s,[],by omega,rfl,rfl,rfl,⟨Qw _ _ _ _,λx hx=>(List.not_mem_nil hx).elim⟩,HSKU.out,HU1.out,Apart.refl _ _⟩
 case round=>
  obtain ⟨k,sk,l,hk,rfl,hgt,hlk,hrow,hpool,hst,hap⟩:=hrel;have HGT:=qI hgt;have HLK:=qI hlk;have HROW:=qI hrow;have HPOOL:=qI hpool;have HST:=qI hst;have HAP:=qI hap;have hsr:=hap.size;have hpb:pb<B:=by omega
  have hl3:l.length<=3:=by omega
  obtain ⟨va,vc,hvv⟩:=gO hrow.row;subst hvv;have HGW:Hid (w.grownBy wr (some pb)):=⟨hap.os.trans HBU.out.os,hap.tape.trans HBU.out.tape,hap.output.trans HBU.out.output,by omega,λj hj hn=>(hap.block j (by omega) (λh=>by rcases h with h|h|h;exact hn (by rw [h]);omega;omega)).trans (HBU.out.block j (by omega))⟩;have HMR:=qI ((hap.block B (by omega) (by omega)).trans HU0.out);have HPR:=qI ((hap.block (B+2) (by omega) (by omega)).trans HU2.out);have HDS:Hid (sk.ds=s.ds/\sk.cp<18446744073709551616):=⟨by have:=Jw m s p.cs k;rw [hgt] at this;exact this,by have:=JA m s p.cs HS.out.cp k;rw [hgt] at this;exact this⟩;have HLE:Hid (aB (ag (λj=>j=pb) w) (ag (λj=>j=pb) wr)):=bg (λj hj hn=>⟨hn,HGW.out.block j hj (λe=>hn (by injection e))⟩) HGW.out.size;clear hgt hlk hrow hpool hst hap
  by_cases hlt:k<p.cs.length
  ·obtain ⟨cb,co,dv,rfl,hcin⟩:=HCR.out (by omega);obtain ⟨k0,k1,k2,k3,k4,k5⟩:=hcin.at hlt;have hle2:=HLE.out.trans (ci _ _);have k0:=hle2.cell _ _ _ k0;have k1:=hle2.cell _ _ _ k1;have k2:=hle2.cell _ _ _ k2;have k3:=hle2.cell _ _ _ k3;have k4:=hle2.cell _ _ _ k4;have k5:=hle2.cell _ _ _ k5;have hneed:=((hcin.2 k hlt).2).le HLE.out;obtain ⟨na,nc,hdv,hnd1,hnd2⟩:=id hneed;rw [hdv] at k5 hneed;have HNEED:=qI hneed;have HXO:=qI (HOK.out.2.2.2 (ct p.cs k) (Ost.dO _ _ _ hlt));have HNX:=qI (JB HGT.out);have hk1:(k:Int)<(p.cs.length:Int):=by omega
   obtain ⟨x,hx⟩:∃ x,x=ct p.cs k:=⟨_,rfl⟩;rw [<- hx] at k0 k1 k2 k3 k4 k5 hdv HXO HNX HNEED;clear hcin hneed hle2 hdv hx hnd1 hnd2;have HBA:=qI ((Q0 wr.heap.size wr).alloc (lR) (.cells #[.string x.nm,.int .i64 x.am,.int .i64 x.ab,.int .i64 x.cm,.int .i64 x.cb,.slice na x.ds.length nc] 63));have HXA:=qI (aG wr (.cells #[.string x.nm,.int .i64 x.am,.int .i64 x.ab,.int .i64 x.cm,.int .i64 x.cb,.slice na x.ds.length nc] 63) rfl);have hsA:(wr.alloc (.cells #[.string x.nm,.int .i64 x.am,.int .i64 x.ab,.int .i64 x.cm,.int .i64 x.cb,.slice na x.ds.length nc] 63)).heap.size=wr.heap.size+1:=by simp
   go_upto_region 5 with fail
   generalize wr.alloc (.cells #[.string x.nm,.int .i64 x.am,.int .i64 x.ab,.int .i64 x.cm,.int .i64 x.cb,.slice na x.ds.length nc] 63)=X at *;clear k0 k1 k2 k3 k4 k5;generalize hBc:wr.heap.size=Bc at *;have HSB:Hid (∀ W,Apart (λj=>j=pb) X W->(JH B tb m sk pb p cb co cc Bc x na nc) W):=λW hb=>⟨ad ((hb.block (B) (by omega) (by omega)).trans ((HBA.out.block B (by omega)).trans HMR.out)) 0,ad ((hb.block (B) (by omega) (by omega)).trans ((HBA.out.block B (by omega)).trans HMR.out)) 1,ad ((hb.block (B) (by omega) (by omega)).trans ((HBA.out.block B (by omega)).trans HMR.out)) 2,ad ((hb.block (B) (by omega) (by omega)).trans ((HBA.out.block B (by omega)).trans HMR.out)) 3,ad ((hb.block (B) (by omega) (by omega)).trans ((HBA.out.block B (by omega)).trans HMR.out)) 4,ad ((hb.block (B+1) (by omega) (by omega)).trans ((HBA.out.block (B+1) (by omega)).trans HST.out)) 0,ad ((hb.block (B+1) (by omega) (by omega)).trans ((HBA.out.block (B+1) (by omega)).trans HST.out)) 1,ad ((hb.block (B+2) (by omega) (by omega)).trans ((HBA.out.block (B+2) (by omega)).trans HPR.out)) 0,ad ((hb.block (B+2) (by omega) (by omega)).trans ((HBA.out.block (B+2) (by omega)).trans HPR.out)) 1,ad ((hb.block (B+2) (by omega) (by omega)).trans ((HBA.out.block (B+2) (by omega)).trans HPR.out)) 2,ad ((hb.block (Bc) (by omega) (by omega)).trans HXA.out) 0,ad ((hb.block (Bc) (by omega) (by omega)).trans HXA.out) 1,ad ((hb.block (Bc) (by omega) (by omega)).trans HXA.out) 2,ad ((hb.block (Bc) (by omega) (by omega)).trans HXA.out) 3,ad ((hb.block (Bc) (by omega) (by omega)).trans HXA.out) 4,ad ((hb.block (Bc) (by omega) (by omega)).trans HXA.out) 5⟩
   have HPX:Hid (ap X pb db ao pc sk.ds sk.us):=HPOOL.out.below (by rw [hBc];exact HBA.out);have HGO:=qI (λ(W:World) (v:Value) (h1:cI W tb b o c m) (h2:de W pb db ao pc sk) (h3:bc (ag (λj=>j=pb) W) v x.ds)=>Ju m sk tb b o c pb db ao pc (aH p.cs x.am) v x.ds W h1 h2 h3 HXO.out.2.2.2.2.2.1 (λn hn=>(HXO.out.2.2.2.2.2.2 n hn).2.1));have HGL:=qI (Jz (m:=m) (s:=sk) (own:=aH p.cs x.am) (ns:=x.ds) HDS.out.2);obtain ⟨G,hG⟩:∃ G,G=(Ol.aY m sk (aH p.cs x.am) x.ds):=⟨_,rfl⟩;rw [<- hG] at HGO HNX HGL;clear hG;have HMX:Hid (∀ W,Apart (λj=>j=pb) X W->cI W tb b o c m/\aE W (.slice (some ⟨cb,co,none⟩) p.cs.length cc) p.cs/\bc (ag (λj=>j=pb) W) (.slice na x.ds.length nc) x.ds):=λW hb=>by
    have l1:aB (ag (λj=>j=pb) wr) (ag (λj=>j=pb) W):=(kX (Apart.of_below (K:=λj=>j=pb) (by rw [hBc];exact HBA.out)) (λ_ _ h=>h)).trans (JC hb);exact ⟨HM.out.le ((HLE.out.trans l1).trans (ci _ _)),HP.out.le ((HLE.out.trans l1).trans (ci _ _)),HNEED.out.le l1⟩
   go_cut [11,12] (λp11 e12 wc=>∃ Bp ua un uc,p11=.pointer (some ⟨Bp,0,none⟩)/\e12=ak (G.1:Nat)/\wc.heap[Bp]?=some (.cells #[.int .u64 (G.2.1.cp:Nat),.slice ua un uc] 69 (0,0))/\X.heap.size<=Bp/\(G.1=0->bj (ag (λj=>j<X.heap.size\/j=Bp) wc) (.slice ua un uc) G.2.1.dv/\ap wc pb db ao pc sk.ds G.2.2)/\Apart (λj=>j=pb) X wc)
   case first=>
    have HAd:Hid (Apart (λj=>j=pb) X X.drew):=Apart.drew _ _;refine Qo (by kernel_rfl) (HSB.out _ HAd.out) (λhHeld=>?_);have HPd:Hid (ap X.drew pb db ao pc sk.ds sk.us):=HPX.out.below (bf (Q0 _ _));generalize X.drew=V at *;refine tk 0 ?_;refine tk 1 ?_;refine tk 2 ?_;refine tk 3 ?_;refine tk 5 ?_;refine tk 6 ?_;refine wpAnyH_ready (rs:=[4,11]) (by kernel_rfl) (by simp) (AllReadyH.cons rfl (λK hK=>?_) (AllReadyH.cons rfl (λK hK=>?_) AllReadyH.nil))
    ·go_simp
     go_wp2_with fail
     refine (mz p _ x na x.ds.length nc V (HMX.out _ HAd.out).2.1 HXO.out.2.1.1 HXO.out.2.1.2).mono ?_;rintro e W1 ⟨rfl,hb1⟩;have HB1:=qI (HAd.out.trans (Apart.of_below hb1));have HQ1:=qI (HPd.out.below hb1);clear hb1
     go_wp2
     refine hK.out _ _ (HSB.out _ HB1.out) (λhHeld=>?_);clear hK K;refine wpAnyH_ready (rs:=[7,11]) (by kernel_rfl) (by simp) (AllReadyH.cons rfl (λK hK=>?_) (AllReadyH.cons rfl (λK hK=>?_) AllReadyH.nil))
     ·go_simp
      go_wp2_with fail
      refine (HGO.out W1 _ (HMX.out _ HB1.out).1 ⟨HQ1.out,by rw [HDS.out.1];exact HS.out.nodes,HDS.out.2⟩ (HMX.out _ HB1.out).2.2).mono ?_;rintro e W2 ⟨⟨ua2,un2,uc2,rfl,hif2⟩,hg2⟩;have HB2:=qI (HB1.out.trans (eA hg2 (λj hj _=>by injection hj with hj;exact hj.symm)));have hsb2:=HB1.out.size;have HI2:Hid (G.1=0->bj (fresh X.heap.size W2) (.slice ua2 un2 uc2) G.2.1.dv/\ap W2 pb db ao pc sk.ds G.2.2):=λh0=>⟨(hif2 h0).1.le (j5 (λ_ _ _=>rfl) (lR) hsb2),(hif2 h0).2⟩
      clear hg2 hif2
      go_wp2
      refine hK.out _ _ (HSB.out _ HB2.out) (λhHeld=>?_);clear hK K;refine tk 8 ?_;refine tk 9 ?_;refine tk 10 ?_;refine rd 11 (λK hK=>?_);have HB3:=qI (HB2.out.trans (Apart.alloc _ W2 (.cells #[.int .u64 0,.slice none 0 0] 69)));have HP3:=qI (aG W2 (.cells #[.int .u64 0,.slice none 0 0] 69) rfl);have hlt3:W2.heap.size<(W2.alloc (.cells #[.int .u64 0,.slice none 0 0] 69)).heap.size:=by simp
      have hge3:=HB2.out.size;have HI3:Hid (G.1=0->bj (ag (λj=>j<X.heap.size\/j=W2.heap.size) (W2.alloc (.cells #[.int .u64 0,.slice none 0 0] 69))) (.slice ua2 un2 uc2) G.2.1.dv/\ap (W2.alloc (.cells #[.int .u64 0,.slice none 0 0] 69)) pb db ao pc sk.ds G.2.2):=λh0=>⟨(HI2.out h0).1.le (bg (λj hj hn=>⟨by omega,Below.heap_alloc _ _ _ hj⟩) (by simp)),(HI2.out h0).2.alloc _⟩
      go_simp
      go_wp2
      refine hK.out _ _ (HSB.out _ HB3.out) (λhHeld=>?_);clear hK K;generalize W2.alloc (.cells #[.int .u64 0,.slice none 0 0] 69)=W3 at *;refine rd 12 (λK hK=>?_);have c0_4:W3.cell? ⟨W2.heap.size,0,none⟩=some (.int .u64 0):=ad HP3.out 0;have c1_4:W3.cell? ⟨W2.heap.size,1,none⟩=some (.slice none 0 0):=ad HP3.out 1;have f0_4:=aq HP3.out 0;have f1_4:=aq HP3.out 1;have hgp4:=hge3;have HOT4:Hid (∀ j,j≠W2.heap.size->((W3.setCell ⟨W2.heap.size,0,none⟩ (.int .u64 (G.2.1.cp:Nat))).setCell ⟨W2.heap.size,1,none⟩ (.slice ua2 un2 uc2)).heap[j]?=W3.heap[j]?):=λj hj=>(set_other hj).trans (set_other hj)
      have hsS4:((W3.setCell ⟨W2.heap.size,0,none⟩ (.int .u64 (G.2.1.cp:Nat))).setCell ⟨W2.heap.size,1,none⟩ (.slice ua2 un2 uc2)).heap.size=W3.heap.size:=by simp
      have HB4:Hid (Apart (λj=>j=pb) X ((W3.setCell ⟨W2.heap.size,0,none⟩ (.int .u64 (G.2.1.cp:Nat))).setCell ⟨W2.heap.size,1,none⟩ (.slice ua2 un2 uc2))):=⟨HB3.out.os,HB3.out.tape,HB3.out.output,by rw [hsS4];exact HB3.out.size,λj hj hn=>(HOT4.out j (by omega)).trans (HB3.out.block j hj hn)⟩;have HP4:=qI (aj (aj HP3.out 0 (.int .u64 (G.2.1.cp:Nat))) 1 (.slice ua2 un2 uc2));have HI4:Hid (G.1=0->bj (ag (λj=>j<X.heap.size\/j=W2.heap.size) ((W3.setCell ⟨W2.heap.size,0,none⟩ (.int .u64 (G.2.1.cp:Nat))).setCell ⟨W2.heap.size,1,none⟩ (.slice ua2 un2 uc2))) (.slice ua2 un2 uc2) G.2.1.dv/\ap ((W3.setCell ⟨W2.heap.size,0,none⟩ (.int .u64 (G.2.1.cp:Nat))).setCell ⟨W2.heap.size,1,none⟩ (.slice ua2 un2 uc2)) pb db ao pc sk.ds G.2.2):=λh0=>⟨(HI3.out h0).1.le (bg (λj _ hn=>⟨hn,HOT4.out j (λe=>hn (.inr e))⟩) (Nat.le_of_eq hsS4.symm)),((HI3.out h0).2.kept (bL _ ⟨W2.heap.size,0,none⟩ _) (λe=>by injection e with e;have e:pb=W2.heap.size:=e;omega) (λh1 e=>by injection e with e;have e:db=W2.heap.size:=e;have:=(HDB.out (by rw [<- HDS.out.1];exact h1)).2.2;omega)).kept (bL _ ⟨W2.heap.size,1,none⟩ _) (λe=>by injection e with e;have e:pb=W2.heap.size:=e;omega) (λh1 e=>by injection e with e;have e:db=W2.heap.size:=e;have:=(HDB.out (by rw [<- HDS.out.1];exact h1)).2.2;omega)⟩
      go_simp
      go_wp2
      refine hK.out _ _ (HSB.out _ HB4.out) (λhHeld=>?_);clear hK K;refine tk 13 ?_;refine Qn (by kernel_rfl) ?_ _
      go_wp2
      go_meet
      exact ⟨_,_,_,_,rfl,rfl,HP4.out,hge3,HI4.out,HB4.out⟩
     ·have HB5:=qI (HB1.out.trans (Apart.alloc _ W1 (.cells #[.int .u64 0,.slice none 0 0] 69)));have HP5:=qI (aG W1 (.cells #[.int .u64 0,.slice none 0 0] 69) rfl);have hlt5:W1.heap.size<(W1.alloc (.cells #[.int .u64 0,.slice none 0 0] 69)).heap.size:=by simp
      have hge5:=HB1.out.size;have HQ5:=qI (HQ1.out.alloc (.cells #[.int .u64 0,.slice none 0 0] 69));go_simp
      go_wp2
      refine hK.out _ _ (HSB.out _ HB5.out) (λhHeld=>?_);clear hK K;generalize W1.alloc (.cells #[.int .u64 0,.slice none 0 0] 69)=W5 at *;refine rd 7 (λK hK=>?_);go_simp
      go_wp2_with fail
      refine (HGO.out W5 _ (HMX.out _ HB5.out).1 ⟨HQ5.out,by rw [HDS.out.1];exact HS.out.nodes,HDS.out.2⟩ (HMX.out _ HB5.out).2.2).mono ?_;rintro e W6 ⟨⟨ua6,un6,uc6,rfl,hif6⟩,hg6⟩;have HB6:=qI (HB5.out.trans (eA hg6 (λj hj _=>by injection hj with hj;exact hj.symm)));have hsb6:=HB5.out.size;have hpb6:=hge5;have HP6:=qI ((hg6.block _ hlt5 (λe=>by injection e with e;omega)).trans HP5.out);have HI6:Hid (G.1=0->bj (ag (λj=>j<X.heap.size\/j=W1.heap.size) W6) (.slice ua6 un6 uc6) G.2.1.dv/\ap W6 pb db ao pc sk.ds G.2.2):=λh0=>⟨(hif6 h0).1.le (bg (λj _ hn=>⟨by have:=hlt5;omega,rfl⟩) (lR)),(hif6 h0).2⟩
      have hlt6:=Q1 hlt5 hg6.size;clear hg6 hif6
      go_wp2
      refine hK.out _ _ (HSB.out _ HB6.out) (λhHeld=>?_);clear hK K;refine tk 8 ?_;refine tk 9 ?_;refine tk 10 ?_;refine rd 12 (λK hK=>?_);have c0_7:W6.cell? ⟨W1.heap.size,0,none⟩=some (.int .u64 0):=ad HP6.out 0;have c1_7:W6.cell? ⟨W1.heap.size,1,none⟩=some (.slice none 0 0):=ad HP6.out 1;have f0_7:=aq HP6.out 0;have f1_7:=aq HP6.out 1;have hgp7:=hge5;have HOT7:Hid (∀ j,j≠W1.heap.size->((W6.setCell ⟨W1.heap.size,0,none⟩ (.int .u64 (G.2.1.cp:Nat))).setCell ⟨W1.heap.size,1,none⟩ (.slice ua6 un6 uc6)).heap[j]?=W6.heap[j]?):=λj hj=>(set_other hj).trans (set_other hj)
      have hsS7:((W6.setCell ⟨W1.heap.size,0,none⟩ (.int .u64 (G.2.1.cp:Nat))).setCell ⟨W1.heap.size,1,none⟩ (.slice ua6 un6 uc6)).heap.size=W6.heap.size:=by simp
      have HB7:Hid (Apart (λj=>j=pb) X ((W6.setCell ⟨W1.heap.size,0,none⟩ (.int .u64 (G.2.1.cp:Nat))).setCell ⟨W1.heap.size,1,none⟩ (.slice ua6 un6 uc6))):=⟨HB6.out.os,HB6.out.tape,HB6.out.output,by rw [hsS7];exact HB6.out.size,λj hj hn=>(HOT7.out j (by omega)).trans (HB6.out.block j hj hn)⟩;have HP7:=qI (aj (aj HP6.out 0 (.int .u64 (G.2.1.cp:Nat))) 1 (.slice ua6 un6 uc6));have HI7:Hid (G.1=0->bj (ag (λj=>j<X.heap.size\/j=W1.heap.size) ((W6.setCell ⟨W1.heap.size,0,none⟩ (.int .u64 (G.2.1.cp:Nat))).setCell ⟨W1.heap.size,1,none⟩ (.slice ua6 un6 uc6))) (.slice ua6 un6 uc6) G.2.1.dv/\ap ((W6.setCell ⟨W1.heap.size,0,none⟩ (.int .u64 (G.2.1.cp:Nat))).setCell ⟨W1.heap.size,1,none⟩ (.slice ua6 un6 uc6)) pb db ao pc sk.ds G.2.2):=λh0=>⟨(HI6.out h0).1.le (bg (λj _ hn=>⟨hn,HOT7.out j (λe=>hn (.inr e))⟩) (Nat.le_of_eq hsS7.symm)),((HI6.out h0).2.kept (bL _ ⟨W1.heap.size,0,none⟩ _) (λe=>by injection e with e;have e:pb=W1.heap.size:=e;omega) (λh1 e=>by injection e with e;have e:db=W1.heap.size:=e;have:=(HDB.out (by rw [<- HDS.out.1];exact h1)).2.2;omega)).kept (bL _ ⟨W1.heap.size,1,none⟩ _) (λe=>by injection e with e;have e:pb=W1.heap.size:=e;omega) (λh1 e=>by injection e with e;have e:db=W1.heap.size:=e;have:=(HDB.out (by rw [<- HDS.out.1];exact h1)).2.2;omega)⟩
      go_simp
      go_wp2
      refine hK.out _ _ (HSB.out _ HB7.out) (λhHeld=>?_);clear hK K;refine tk 13 ?_;refine Qn (by kernel_rfl) ?_ _
      go_wp2
      go_meet
      exact ⟨_,_,_,_,rfl,rfl,HP7.out,hge5,HI7.out,HB7.out⟩
    ·have HB8:=qI (HAd.out.trans (Apart.alloc _ V (.cells #[.int .u64 0,.slice none 0 0] 69)));have HP8:=qI (aG V (.cells #[.int .u64 0,.slice none 0 0] 69) rfl);have hlt8:V.heap.size<(V.alloc (.cells #[.int .u64 0,.slice none 0 0] 69)).heap.size:=by simp
     have hge8:=HAd.out.size;have HQ8:=qI (HPd.out.alloc (.cells #[.int .u64 0,.slice none 0 0] 69));go_simp
     go_wp2
     refine hK.out _ _ (HSB.out _ HB8.out) (λhHeld=>?_);clear hK K;generalize V.alloc (.cells #[.int .u64 0,.slice none 0 0] 69)=W8 at *;refine rd 4 (λK hK=>?_);go_simp
     go_wp2_with fail
     refine (mz p _ x na x.ds.length nc W8 (HMX.out _ HB8.out).2.1 HXO.out.2.1.1 HXO.out.2.1.2).mono ?_;rintro e W9 ⟨rfl,hb9⟩;have HB9:=qI (HB8.out.trans (Apart.of_below hb9));have HQ9:=qI (HQ8.out.below hb9);have HP9:=qI ((hb9.block _ hlt8).trans HP8.out);have hlt9:=Q1 hlt8 hb9.size;clear hb9
     go_wp2
     refine hK.out _ _ (HSB.out _ HB9.out) (λhHeld=>?_);clear hK K;refine rd 7 (λK hK=>?_);go_simp
     go_wp2_with fail
     refine (HGO.out W9 _ (HMX.out _ HB9.out).1 ⟨HQ9.out,by rw [HDS.out.1];exact HS.out.nodes,HDS.out.2⟩ (HMX.out _ HB9.out).2.2).mono ?_;rintro e W10 ⟨⟨ua10,un10,uc10,rfl,hif10⟩,hg10⟩;have HB10:=qI (HB9.out.trans (eA hg10 (λj hj _=>by injection hj with hj;exact hj.symm)));have hsb10:=HB9.out.size;have hpb10:=hge8;have HP10:=qI ((hg10.block _ hlt9 (λe=>by injection e with e;omega)).trans HP9.out);have HI10:Hid (G.1=0->bj (ag (λj=>j<X.heap.size\/j=V.heap.size) W10) (.slice ua10 un10 uc10) G.2.1.dv/\ap W10 pb db ao pc sk.ds G.2.2):=λh0=>⟨(hif10 h0).1.le (bg (λj _ hn=>⟨by have:=hlt9;omega,rfl⟩) (lR)),(hif10 h0).2⟩
     have hlt10:=Q1 hlt9 hg10.size;clear hg10 hif10
     go_wp2
     refine hK.out _ _ (HSB.out _ HB10.out) (λhHeld=>?_);clear hK K;refine tk 8 ?_;refine tk 9 ?_;refine tk 10 ?_;refine rd 12 (λK hK=>?_);have c0_11:W10.cell? ⟨V.heap.size,0,none⟩=some (.int .u64 0):=ad HP10.out 0;have c1_11:W10.cell? ⟨V.heap.size,1,none⟩=some (.slice none 0 0):=ad HP10.out 1;have f0_11:=aq HP10.out 0;have f1_11:=aq HP10.out 1;have hgp11:=hge8;have HOT11:Hid (∀ j,j≠V.heap.size->((W10.setCell ⟨V.heap.size,0,none⟩ (.int .u64 (G.2.1.cp:Nat))).setCell ⟨V.heap.size,1,none⟩ (.slice ua10 un10 uc10)).heap[j]?=W10.heap[j]?):=λj hj=>(set_other hj).trans (set_other hj)
     have hsS11:((W10.setCell ⟨V.heap.size,0,none⟩ (.int .u64 (G.2.1.cp:Nat))).setCell ⟨V.heap.size,1,none⟩ (.slice ua10 un10 uc10)).heap.size=W10.heap.size:=by simp
     have HB11:Hid (Apart (λj=>j=pb) X ((W10.setCell ⟨V.heap.size,0,none⟩ (.int .u64 (G.2.1.cp:Nat))).setCell ⟨V.heap.size,1,none⟩ (.slice ua10 un10 uc10))):=⟨HB10.out.os,HB10.out.tape,HB10.out.output,by rw [hsS11];exact HB10.out.size,λj hj hn=>(HOT11.out j (by omega)).trans (HB10.out.block j hj hn)⟩;have HP11:=qI (aj (aj HP10.out 0 (.int .u64 (G.2.1.cp:Nat))) 1 (.slice ua10 un10 uc10));have HI11:Hid (G.1=0->bj (ag (λj=>j<X.heap.size\/j=V.heap.size) ((W10.setCell ⟨V.heap.size,0,none⟩ (.int .u64 (G.2.1.cp:Nat))).setCell ⟨V.heap.size,1,none⟩ (.slice ua10 un10 uc10))) (.slice ua10 un10 uc10) G.2.1.dv/\ap ((W10.setCell ⟨V.heap.size,0,none⟩ (.int .u64 (G.2.1.cp:Nat))).setCell ⟨V.heap.size,1,none⟩ (.slice ua10 un10 uc10)) pb db ao pc sk.ds G.2.2):=λh0=>⟨(HI10.out h0).1.le (bg (λj _ hn=>⟨hn,HOT11.out j (λe=>hn (.inr e))⟩) (Nat.le_of_eq hsS11.symm)),((HI10.out h0).2.kept (bL _ ⟨V.heap.size,0,none⟩ _) (λe=>by injection e with e;have e:pb=V.heap.size:=e;omega) (λh1 e=>by injection e with e;have e:db=V.heap.size:=e;have:=(HDB.out (by rw [<- HDS.out.1];exact h1)).2.2;omega)).kept (bL _ ⟨V.heap.size,1,none⟩ _) (λe=>by injection e with e;have e:pb=V.heap.size:=e;omega) (λh1 e=>by injection e with e;have e:db=V.heap.size:=e;have:=(HDB.out (by rw [<- HDS.out.1];exact h1)).2.2;omega)⟩
     go_simp
     go_wp2
     refine hK.out _ _ (HSB.out _ HB11.out) (λhHeld=>?_);clear hK K;refine tk 13 ?_;refine Qn (by kernel_rfl) ?_ _
     go_wp2
     go_meet
     exact ⟨_,_,_,_,rfl,rfl,HP11.out,hge8,HI11.out,HB11.out⟩
   case rest=>
    obtain ⟨Bp,ua,un,uc,rfl,rfl,hbp,hbpl,hif,hapc⟩:=hcut;have HBP:=qI hbp;have HIF:=qI hif;have HAC:=qI hapc;have hsc:=hapc.size;have hbl:Bp<wc.heap.size:=(gS hbp).1;have HSTC:=qI ((hapc.block (B+1) (by omega) (by omega)).trans ((HBA.out.block (B+1) (by omega)).trans HST.out));have HGC:Hid (w.grownBy wc (some pb)):=⟨hapc.os.trans (HBA.out.os.trans HGW.out.os),hapc.tape.trans (HBA.out.tape.trans HGW.out.tape),hapc.output.trans (HBA.out.output.trans HGW.out.output),by have:=HGW.out.size;omega,λj hj hn=>(hapc.block j (by have:=HGW.out.size;omega) (λe=>hn (by rw [e]))).trans ((HBA.out.block j (by have:=HGW.out.size;omega)).trans (HGW.out.block j hj hn))⟩;clear hbp hif hapc HGO HMX HSB
    by_cases hg0:G.1=0
    ·have HG0:=qI hg0;rw [hg0,show ak (((0:Nat)):Int)=.nilIface from rfl];rw [if_pos hg0] at HNX;clear hg0;obtain ⟨hin,hpl⟩:=HIF.out HG0.out;have HIN:=qI hin;have HPL:=qI hpl;clear hin hpl HIF;generalize hgc:G.2.1.cp=gc at *;have HGCQ:=qI hgc;clear hgc;have gcl:=HGL.out;have s0:wc.cell? ⟨B+1,0,none⟩=some (.int .u64 sk.cp):=ad HSTC.out 0;have sf:=aq HSTC.out 0;have p0:wc.cell? ⟨Bp,0,none⟩=some (.int .u64 (gc:Nat)):=ad HBP.out 0;have p1:wc.cell? ⟨Bp,1,none⟩=some (.slice ua un uc):=ad HBP.out 1;have hAN:=jp sk.cp gc HDS.out.2 gcl;have hneB:Bp≠B+1:=by omega
     have HL3:=qI hl3;have HDF:=qI (Ost.iP (A:=sk.cp) gc HDS.out.2);have hlo:∀ b,(Value.slice va l.length vc).ownBlock=some b->U.heap.size<=b/\b<Bc:=λb hb=>by rw [<- hBc];exact HROW.out.row.lt b hb
     have HST6:=qI (aj HSTC.out 0 (.int .u64 (dif sk.cp gc:Nat)));have HO6:Hid (∀ j,j≠B+1->(wc.setCell ⟨B+1,0,none⟩ (.int .u64 (dif sk.cp gc:Nat))).heap[j]?=wc.heap[j]?):=λj hj=>set_other hj
     have hs6:(wc.setCell ⟨B+1,0,none⟩ (.int .u64 (dif sk.cp gc:Nat))).heap.size=wc.heap.size:=by simp
     have HPL6:Hid (ap (wc.setCell ⟨B+1,0,none⟩ (.int .u64 (dif sk.cp gc:Nat))) pb db ao pc sk.ds G.2.2):=HPL.out.kept (bL _ ⟨B+1,0,none⟩ _) (λe=>by injection e with e;have e:pb=B+1:=e;omega) (λh1 e=>by injection e with e;have e:db=B+1:=e;have:=(HDB.out (by rw [<- HDS.out.1];exact h1)).2.2;omega);have HROW6:Hid ((wc.setCell ⟨B+1,0,none⟩ (.int .u64 (dif sk.cp gc:Nat))).ownsRow U.heap.size 69 2 (.slice va l.length vc) l.length (l.flatMap eY)):=lG HROW.out.row (λg hg=>(HO6.out g (by have:=(hlo g hg).1;omega)).trans ((HAC.out.block g (by have:=(hlo g hg).2;omega) (by have:=(hlo g hg).1;omega)).trans (HBA.out.block g (hlo g hg).2)));have HAP6:Hid (Apart (λj=>j=pb\/j=B+1\/U.heap.size<=j) U (wc.setCell ⟨B+1,0,none⟩ (.int .u64 (dif sk.cp gc:Nat)))):=((HAP.out.trans (Apart.of_below (by rw [hBc];exact HBA.out))).trans (HAC.out.wide (λj h=>.inl h))).trans (Apart.setCell (K:=λj=>j=pb\/j=B+1\/U.heap.size<=j) (.inr (.inl rfl)) _ _ _);clear HSTC;have HS6:=qI hs6;have HNEB:=qI hneB;generalize hw6:wc.setCell ⟨B+1,0,none⟩ (.int .u64 (dif sk.cp gc:Nat))=W6 at *;have t0:W6.cell? ⟨Bp,0,none⟩=some (.int .u64 (gc:Nat)):=ad ((HO6.out Bp hneB).trans HBP.out) 0;have t1:W6.cell? ⟨Bp,1,none⟩=some (.slice ua un uc):=ad ((HO6.out Bp hneB).trans HBP.out) 1;have hN:=JE W6 (⟨gc,G.2.1.dv⟩,.slice ua un uc) 69;dsimp only at hN;have HN:=qI hN;have hbu:U.heap.size<=(W6.alloc (.cells #[.int .u64 (gc:Nat),.slice ua un uc] 69)).heap.size:=by simp;omega
     clear hN hs6
     go_wp2_with (at_builtin;refine wpList_append_lies _ rfl _ _ 55 rfl U.heap.size 69 i0 (.agg #[.int .u64 0,.slice none 0 0]) 2 32 Tryz.underlying55 hi hz0 hz1 hz2 rfl (by decide) _ _ _ rfl (HROW6.out.alloc _) ⟨_,0,none⟩ 1 1 (eY (⟨gc,G.2.1.dv⟩,.slice ua un uc)) rfl rfl HN.out (JD _ _ _ _) (by decide) (by have:=HL3.out;unfold maxLen;omega) (by have:=HL3.out;omega) hbu (W6.heap.size+1) (by simp) ?_;intro g' cap' W8 hown' hgrow' hgg hglt)
     have hs6:=HS6.out;have hsz7:(W6.alloc (.cells #[.int .u64 (gc:Nat),.slice ua un uc] 69)).heap.size=wc.heap.size+1:=by rw [World.size_alloc,hs6]
     have hs8:=hgrow'.size;have hg':(Value.slice va l.length vc).ownBlock=some g'\/g'=wc.heap.size+1:=by rw [<- hs6];exact hgg
     have HMK:Hid (∀ j,j<wc.heap.size->j≠B+1->(Value.slice va l.length vc).ownBlock≠some j->W8.heap[j]?=wc.heap[j]?):=λj hj hne hno=>(hgrow'.block j (by omega) (λe=>hno e.symm)).trans ((Below.heap_alloc _ _ _ (by omega)).trans (HO6.out j hne))
     have HAP8:Hid (Apart (λj=>j=pb\/j=B+1\/U.heap.size<=j) U W8):=(HAP6.out.trans (Apart.alloc _ _ _)).trans (eA hgrow' (λj hj _=>.inr (.inr (hlo j hj).1)));have HPL8:Hid (ap W8 pb db ao pc sk.ds G.2.2):=(HPL6.out.alloc _).kept hgrow' (λe=>by have:=(hlo pb e.symm).1;omega) (λh1 e=>by have:=(hlo db e.symm).1;have:=(HDB.out (by rw [<- HDS.out.1];exact h1)).2.2;omega);have HST8:Hid (W8.heap[B+1]?=some (.cells #[.int .u64 (dif sk.cp gc:Nat),.pointer (some ⟨pb,0,none⟩)] 98 (0,0))):=(hgrow'.block (B+1) (by omega) (λe=>by have:=(hlo (B+1) e.symm).1;omega)).trans ((Below.heap_alloc _ _ _ (by omega)).trans HST6.out);have hgv:G.2.1=⟨gc,G.2.1.dv⟩:=by rw [<- HGCQ.out]
     have HROW8:Hid (p9 W8 (.slice (some ⟨g',0,none⟩) (l.length+1) cap') (l++[(G.2.1,Value.slice ua un uc)]) U.heap.size):=by
      refine ⟨?_,λz hz=>?_⟩
      ·rw [Q2,List.flatMap_append,hgv]
       simpa using hown'
      ·rcases Qi.1 hz with hz|hz
       ·obtain ⟨z1,z2⟩:=HROW.out.in_ z hz;refine ⟨z1,z2.le (bg (λj hj hn=>?_) (by omega))⟩;have hn1:¬ j<U.heap.size:=λh=>hn (.inl h)
        have hn2:(Value.slice va l.length vc).ownBlock≠some j:=λh=>hn (.inr h)
        refine ⟨λh=>?_,?_⟩
        ·rcases h with h|h
         ·exact hn1 h
         ·have h:some g'=some j:=h;injection h with h
          rcases hg' with hg'|hg'
          ·exact hn2 (by rw [hg',h])
          ·omega
        ·exact (HMK.out j (by omega) (by omega) hn2).trans ((HAC.out.block j (by omega) (by omega)).trans (HBA.out.block j (by rw [<- hBc];exact hj)))
       ·rw [Qm.1 hz];dsimp only;refine ⟨by rw [hgv];exact gcl,HIN.out.le (bg (λj hj hn=>?_) (by omega))⟩;have hn1:¬ j<X.heap.size:=λh=>hn (.inl h)
        refine ⟨λh=>?_,HMK.out j hj (by omega) (λh=>by have:=(hlo j h).2;omega)⟩
        rcases h with h|h
        ·omega
        ·have h:some g'=some j:=h;injection h with h
         rcases hg' with hg'|hg'
         ·have:=(hlo g' hg').2;omega
         ·omega
     clear hown' hgrow' hgg hgv
     go_roundw
     case rel=>
      exact ⟨k+1,⟨dif sk.cp gc,sk.ds,G.2.2⟩,l++[(G.2.1,Value.slice ua un uc)],by omega,by go_num,by rw [HNX.out,Qj];rfl,by rw [Q2,HLK.out];rfl,HROW8.out,HPL8.out,HST8.out,HAP8.out⟩
     case measure=>simp [intOf];omega
    ·have HGN:=qI hg0;rw [if_neg hg0] at HNX;have HGV:Hid ((Ol.give m s p).1=G.1):=by
      unfold Hid Ol.give;have e1:(Ol.a6 m s p.cs (k+1)).1=G.1:=by rw [HNX.out]
      have:=Jy (m:=m) (s:=s) (cs:=p.cs) (k:=k+1) (by rw [e1];exact hg0) p.cs.length (by omega)
      rw [e1] at this;exact this
     have hee:=dI hg0;have HEE:=qI hee;rw [hee];clear hg0 hee;generalize G.1=g1 at *
     go_wp2
     go_ret2;exact ⟨⟨none,0,0,by rw [HGV.out,HEE.out];rfl,λh=>absurd (HGV.out.symm.trans h) HGN.out⟩,HGC.out⟩
  ·have hke:k=p.cs.length:=by omega
   subst hke;have HGV:Hid (Ol.give m s p=(0,l.map Prod.fst)):=by
    unfold Hid Ol.give;rw [HGT.out]
   have HFIN:Hid (bl (fresh w.heap.size wr) (.slice va l.length vc) (l.map Prod.fst)):=JG HROW.out (by omega)
   go_wp2
   go_ret2;exact ⟨⟨va,l.length,vc,by rw [HGV.out];rfl,λ_=>by rw [HGV.out];exact HFIN.out⟩,HGW.out⟩
end
