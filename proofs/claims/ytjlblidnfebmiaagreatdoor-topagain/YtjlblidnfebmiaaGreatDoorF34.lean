import Derived.Test.YtjlblidnfebmiaaGreatDoorF33
set_option maxRecDepth 100000
set_option maxHeartbeats 16000000
open Go Go.RowKit Go.Shelf
attribute [local go_sem] Oper.semAt_some
open Go.Proofs.Tryz
namespace Go.Proofs.YtjlblidnfebmiaaGreatDoor
def jI (x:aR × Value):List Value:=[.int .u64 (x.1.cp:Nat),x.2]
theorem UL(g:aR)(a:Option Addr)(n c:Nat):∀u∈jI (g,.slice a n c),u.oneCell'=true:=by
 intro u b
 simp[jI] at b
 rcases b with rfl|rfl <;> rfl
theorem UM(w:World)(x:aR × Value)(t:TypeId):∀j u,(jI x)[j]?=some u->(w.alloc (.cells #[.int .u64 (x.1.cp:Nat),x.2] t)).cell? ((w.heap.size:Addr).add j)=some u:=by simp_all[Addr.add_lit,jI]
theorem UN:(prog.info? 123).map (λi=>(i.zero,i.size,i.bytes))=some (some (.agg #[.int .u64 0,.slice none 0 0]),2,32):=by kernel_rfl
structure yj (W:World) (v:Value) (l:List (aR × Value)) (N:Nat):Prop where
 row:W.ownsRow N 123 2 v l.length (l.flatMap jI)
 in_:∀x∈l,x.1.cp<18446744073709551616/\bD (au (λj=>j<N\/v.ownBlock=some j) W) x.2 x.1.dv
theorem UO{W:World}{v:Value}{l:List (aR × Value)}{N K:Nat}(h:yj W v l N)(p:K<=N):b7 (fresh K W) v (l.map Prod.fst):=by
 have i:=h.row
 rcases h.row.2 with⟨d,q⟩|⟨g,c,s,d,t,Ha,Hc,Hb,_⟩
 ·have:l=[]:=Qe q
  subst this;rw[d];exact⟨none,0,rfl,⟨lR,Nat.zero_le _⟩,λh=>absurd h (Nat.lt_irrefl 0)⟩
 ·subst d;have key:∀(l:List (aR × Value)) (k:Nat) (b:k<l.length) (j:Nat),j<2->(l.flatMap jI)[k*2+j]?=(jI l[k])[j]?:=by
   intro l
   induction l with
   | nil=>intro k b;simp at b
   | cons a l ih=>
    intro k b j f;rw[List.flatMap_cons];cases k with
    | zero=>rw[List.getElem?_append_left (by simp[jI];omega)];simp
    | succ k=>
     rw[List.getElem?_append_right (by simp[jI];omega)]
     have:=ih k (by simpa using b) j f
     simp only[List.getElem_cons_succ];rw[<- this]
     congr 1
     simp[jI]
     omega
  refine⟨_,c,by rw[Q9],by rw[Q9];exact⟨Hc,Hb⟩,λ_=>⟨g,0,λk=>(l.getD k (⟨0,[]⟩,.nilIface)).2,rfl,by rw[bX];exact (gS Ha).1,λk b=>?_⟩⟩;rw[Q9] at b;have e:aD (l.map Prod.fst) k=l[k].1:=by simp[aD,b]
  have o:(l.getD k (⟨0,[]⟩,.nilIface)).2=l[k].2:=by simp[b]
  obtain⟨n,m⟩:=h.in_ _ (List.getElem_mem b);dsimp only;rw[e,o];refine⟨⟨?_,?_,n⟩,m.le (bE (λj _ r=>⟨λf=>r (.inl (Q1 f p)),rfl⟩) (lR))⟩
  ·rw[kr (by omega),Qd,i.cellAt (k*2) (by omega)];exact key l k b 0 (by decide)
  ·rw[kr (by omega),Qd,i.cellAt (k*2+1) (by omega)];exact key l k b 1 (by decide)
abbrev oF:=λ(x0:Nat) (x1:aL)=>(.cells #[x0,.int .u64 x1.op,.int .u8 x1.nd,(x1.nb:Int),(x1.pol:Int)] 84:Obj)
abbrev oG:=λ(x0:aj) (x1:Option Addr) (x2:Nat)=>(.cells #[x0.nm,(x0.pr:Int),.slice x1 x0.cs.length x2] 49:Obj)
abbrev uu:=λ(x0:aB) (x1:Option Addr) (x2:Nat)=>(.cells #[x0.nm,(x0.am:Int),(x0.ab:Int),(x0.cm:Int),(x0.cb:Int),.slice x1 x0.ds.length x2] 65:Obj)
abbrev oH:=λ(x0:aE) (x1:Nat)=>(.cells #[.int .u64 x0.cp,x1] 87:Obj)
abbrev EW:=λ(B tb:Nat) (m:aL) (sk:aE) (pb:Nat) (p:aj) (cb co cc Bc:Nat) (x:aB) (na:Option Addr) (nc:Nat) (w':World)=>cl w' B (0) tb/\cl w' B (1) (.int .u64 m.op)/\cl w' B (2) (.int .u8 m.nd)/\cl w' B (3) (m.nb:Int)/\cl w' B (4) (m.pol:Int)/\cl w' (B+1) (0) (.int .u64 sk.cp)/\cl w' (B+1) (1) pb/\cl w' (B+2) (0) p.nm/\cl w' (B+2) (1) (p.pr:Int)/\cl w' (B+2) (2) (.slice (some ⟨cb,co,none⟩) p.cs.length cc)/\cl w' Bc (0) x.nm/\cl w' Bc (1) (x.am:Int)/\cl w' Bc (2) (x.ab:Int)/\cl w' Bc (3) (x.cm:Int)/\cl w' Bc (4) (x.cb:Int)/\cl w' Bc (5) (.slice na x.ds.length nc)
theorem UP(m:aL)(s:aE)(Z b o c a db:Nat)(Y:Option Addr)(T:Nat)(p:aj)(cv:Value)(w:World)(hm:dZ (au (λj=>j=a) w) Z b o c m)(hs:ek w a db Y T s)(hp:aQ (au (λj=>j=a) w) cv p.cs)(hF:bu p=0) :
  Calls prog 53 #[mV m Z,sV s a,cz p cv] w λe w'=>(∃ua un uc,e=.returned (.tuple #[.slice ua un uc,aJ ((aX m s p).1:Nat)])/\((aX m s p).1=0->b7 (fresh w w') (.slice ua un uc) (aX m s p).2))/\w.grownBy w' (some a):=by
 obtain⟨i0,hi,JQ,J3,J2⟩:=info_parts UN;unfold mV sV cz;have HM:=qI hm;have HS:=qI hs;have HP:=qI hp;have Jg:=qI (jv hF);have J6:=hs.pool.lt;have Hv:=qI hs.pool.at0;obtain⟨ca,cc,rfl,jj,Jh⟩:=hp;have J9:=qI Jh;have JW:=Jg.o.2.2.1;have sz:(((w.alloc (oF Z m)).alloc (oH s a)).alloc (oG p ca cc)).heap.size=w.heap.size+3:=by simp
 have h5:=qI (bd ((w.alloc (oF Z m)).alloc (oH s a)) (oG p ca cc) (n:=w.heap.size+2) (by simp));have JL:=qI (cC (bd (w.alloc (oF Z m)) (oH s a) (n:=w.heap.size+1) (by simp)) (oG p ca cc));have J0:=qI (cC (cC (bd w (oF Z m) rfl) (oH s a)) (oG p ca cc));have HY:=qI ((((Q0 w w).alloc (lR) (oF Z m)).alloc (by simp) (oH s a)).alloc (by simp;omega) (oG p ca cc));have JD:(((w.alloc (oF Z m)).alloc (oH s a)).alloc (oG p ca cc)).cell? ⟨w.heap.size+2,2,none⟩=some (.slice ca p.cs.length cc):=ad h5.o 2;have hu:=qI (hs.pool.below HY.o);clear hm hs Jh hF
 go_enter func53,ntmps53
 go_wp2_with fail
 generalize (((w.alloc (oF Z m)).alloc (oH s a)).alloc (oG p ca cc))=U at *;generalize hB:w.heap.size=B at *;clear JD
 go_loopw [8,16] (λpv i wr=>∃(k:Nat) (f:aE) (l:List (aR × Value)),k<=p.cs.length/\i=.int .i64 k/\b8 m s p.cs k=(0,l.map Prod.fst,f)/\l.length=k/\yj wr pv l U/\aF wr a db Y T f.ds f.us/\wr.heap[B+1]?=some (.cells #[.int .u64 f.cp,a] 87 (0,0))/\Apart (λj=>j=a\/j=B+1\/U.heap.size<=j) U wr) (λ_ i _=>p.cs.length - (intOf i).toNat)
 case atStart=>exact⟨0,s,[],by omega,rfl,rfl,rfl,⟨Qw _ _ _ _,λx hx=>(List.not_mem_nil hx).elim⟩,hu.o,JL.o,Apart.refl _ _⟩
 case round=>
  obtain⟨k,f,l,hk,rfl,hq,Jl,HE,Ht,Jd,Hp⟩:=hrel;have Ja:=qI hq;have JF:=qI Jl;have Ho:=qI HE;have H7:=qI Ht;have hZ:=qI Jd;have JR:=qI Hp;have ji:=Hp.size;have je:a<B:=by omega
  have JX:l.length<=3:=by omega
  obtain⟨va,vc,JU⟩:=gI HE.row;subst JU;have Hl:Hu (w.grownBy wr (some a)):=⟨Hp.os.trans HY.o.os,Hp.tape.trans HY.o.tape,Hp.output.trans HY.o.output,by omega,λj d r=>(Hp.block j (by omega) (λh=>by rcases h with h|h|h;exact r (by rw[h]);omega;omega)).trans (HY.o.block j (by omega))⟩;have hc:=qI ((Hp.block B (by omega) (by omega)).trans J0.o);have hO:=qI ((Hp.block (B+2) (by omega) (by omega)).trans h5.o);have He:Hu (f.ds=s.ds/\f.cp<18446744073709551616):=⟨by have:=UF m s p.cs k;rw[hq] at this;exact this,by have:=UI m s p.cs HS.o.cp k;rw[hq] at this;exact this⟩;have ht:Hu (aZ (au (λj=>j=a) w) (au (λj=>j=a) wr)):=bE (λj d r=>⟨r,Hl.o.block j d λe=>r (by injection e)⟩) Hl.o.size;clear hq Jl HE Ht Jd Hp
  by_cases j0:k<p.cs.length
  ·obtain⟨cb,co,dv,rfl,HF⟩:=J9.o (by omega);obtain⟨k0,k1,k2,k3,k4,k5⟩:=HF.at j0;have Hf:=ht.o.trans (cJ _ _);have k0:=Hf.cell _ _ _ k0;have k1:=Hf.cell _ _ _ k1;have k2:=Hf.cell _ _ _ k2;have k3:=Hf.cell _ _ _ k3;have k4:=Hf.cell _ _ _ k4;have k5:=Hf.cell _ _ _ k5;have Hg:=((HF.2 k j0).2).le ht.o;obtain⟨na,nc,hI,hX,hy⟩:=id Hg;rw[hI] at k5 Hg;have Hw:=qI Hg;have HJ:=qI (Jg.o.2.2.2 (ae p.cs k) (fP _ _ _ j0));have HL:=qI (UJ Ja.o);have jh:(k:Int)<(p.cs.length:Int):=by omega
   obtain⟨x,hx⟩:∃x,x=ae p.cs k:=⟨_,rfl⟩;rw[<- hx] at k0 k1 k2 k3 k4 k5 hI HJ HL Hw;clear HF Hg Hf hI hx hX hy;have Hb:=qI ((Q0 wr wr).alloc (lR) (uu x na nc));have HO:=qI (bd wr (uu x na nc) rfl);have jd:(wr.alloc (uu x na nc)).heap.size=wr.heap.size+1:=by simp
   go_upto_region 5 with fail
   generalize wr.alloc (uu x na nc)=X at *;clear k0 k1 k2 k3 k4 k5;generalize hBc:wr.heap.size=Bc at *;have Hi:Hu (∀W,Apart (λj=>j=a) X W->(EW B Z m f a p cb co cc Bc x na nc) W):=λW F=>⟨ad ((F.block (B) (by omega) (by omega)).trans ((Hb.o.block B (by omega)).trans hc.o)) 0,ad ((F.block (B) (by omega) (by omega)).trans ((Hb.o.block B (by omega)).trans hc.o)) 1,ad ((F.block (B) (by omega) (by omega)).trans ((Hb.o.block B (by omega)).trans hc.o)) 2,ad ((F.block (B) (by omega) (by omega)).trans ((Hb.o.block B (by omega)).trans hc.o)) 3,ad ((F.block (B) (by omega) (by omega)).trans ((Hb.o.block B (by omega)).trans hc.o)) 4,ad ((F.block (B+1) (by omega) (by omega)).trans ((Hb.o.block (B+1) (by omega)).trans hZ.o)) 0,ad ((F.block (B+1) (by omega) (by omega)).trans ((Hb.o.block (B+1) (by omega)).trans hZ.o)) 1,ad ((F.block (B+2) (by omega) (by omega)).trans ((Hb.o.block (B+2) (by omega)).trans hO.o)) 0,ad ((F.block (B+2) (by omega) (by omega)).trans ((Hb.o.block (B+2) (by omega)).trans hO.o)) 1,ad ((F.block (B+2) (by omega) (by omega)).trans ((Hb.o.block (B+2) (by omega)).trans hO.o)) 2,ad ((F.block (Bc) (by omega) (by omega)).trans HO.o) 0,ad ((F.block (Bc) (by omega) (by omega)).trans HO.o) 1,ad ((F.block (Bc) (by omega) (by omega)).trans HO.o) 2,ad ((F.block (Bc) (by omega) (by omega)).trans HO.o) 3,ad ((F.block (Bc) (by omega) (by omega)).trans HO.o) 4,ad ((F.block (Bc) (by omega) (by omega)).trans HO.o) 5⟩
   have JM:Hu (aF X a db Y T f.ds f.us):=H7.o.below (by rw[hBc];exact Hb.o);have HX:=qI λ(W:World) (v:Value) (R:dZ W Z b o c m) (h2:ek W a db Y T f) (h3:bv (au (λj=>j=a) W) v x.ds)=>UD m f Z b o c a db Y T (cI p.cs x.am) v x.ds W R h2 h3 HJ.o.2.2.2.2.2.1 λn r=>(HJ.o.2.2.2.2.2.2 n r).2.1;have Jv:=qI (UH (m:=m) (s:=f) (own:=cI p.cs x.am) (ns:=x.ds) He.o.2);obtain⟨G,hG⟩:∃G,G=(bO m f (cI p.cs x.am) x.ds):=⟨_,rfl⟩;rw[<- hG] at HX HL Jv;clear hG;have Hq:Hu (∀W,Apart (λj=>j=a) X W->dZ W Z b o c m/\aQ W (.slice (some ⟨cb,co,none⟩) p.cs.length cc) p.cs/\bv (au (λj=>j=a) W) (.slice na x.ds.length nc) x.ds):=λW F=>by
    have l1:aZ (au (λj=>j=a) wr) (au (λj=>j=a) W):=(nV (Apart.of_below (K:=λj=>j=a) (by rw[hBc];exact Hb.o)) λ_ _ h=>h).trans (UK F);exact⟨HM.o.le ((ht.o.trans l1).trans (cJ _ _)),HP.o.le ((ht.o.trans l1).trans (cJ _ _)),Hw.o.le l1⟩
   go_cut [11,12] (λj4 Za wc=>∃Bp ua un uc,j4=.pointer (some ⟨Bp,0,none⟩)/\Za=aJ (G.1:Nat)/\wc.heap[Bp]?=some (.cells #[.int .u64 (G.2.1.cp:Nat),.slice ua un uc] 123 (0,0))/\X.heap.size<=Bp/\(G.1=0->bD (au (λj=>j<X.heap.size\/j=Bp) wc) (.slice ua un uc) G.2.1.dv/\aF wc a db Y T f.ds G.2.2)/\Apart (λj=>j=a) X wc)
   case first=>
    have HV:Hu (Apart (λj=>j=a) X X.drew):=Apart.drew _ _;refine wp_region_held_drew (S:=EW B Z m f a p cb co cc Bc x na nc) (by kernel_rfl) (Hi.o _ HV.o) λhQ=>?_;have h4:Hu (aF X.drew a db Y T f.ds f.us):=JM.o.below (bB (Q0 _ _));generalize X.drew=V at *;refine tk 0 ?_;refine tk 1 ?_;refine tk 2 ?_;refine tk 3 ?_;refine tk 5 ?_;refine tk 6 ?_;refine rd2 4 11 (λK q=>?_) λK q=>?_
    ·go_simp
     go_wp2_with fail
     refine (tu p _ x na x.ds.length nc V (Hq.o _ HV.o).2.1 HJ.o.2.1.1 HJ.o.2.1.2).mono ?_;rintro e u ⟨rfl,hH⟩;have HH:=qI (HV.o.trans (Apart.of_below hH));have Jo:=qI (h4.o.below hH);clear hH
     go_wp2_with fail
     refine q.o _ _ (Hi.o _ HH.o) λhQ=>?_;clear q K;refine rd2 7 11 (λK q=>?_) λK q=>?_
     ·go_simp
      go_wp2_with fail
      refine (HX.o u _ (Hq.o _ HH.o).1 ⟨Jo.o,by rw[He.o.1];exact HS.o.nodes,He.o.2⟩ (Hq.o _ HH.o).2.2).mono ?_;rintro e t ⟨⟨I,L,M,rfl,HK⟩,h7⟩;have hw:=qI (HH.o.trans (gm h7 (λj d _=>by injection d with d;exact d.symm)));have hA:=HH.o.size;have Jj:Hu (G.1=0->bD (fresh X t) (.slice I L M) G.2.1.dv/\aF t a db Y T f.ds G.2.2):=λH=>⟨(HK H).1.le (pE (λ_ _ _=>rfl) (lR) hA),(HK H).2⟩
      clear h7 HK
      go_wp2_with fail
      refine q.o _ _ (Hi.o _ hw.o) λhQ=>?_;clear q K;refine tk 8 ?_;refine tk 9 ?_;refine tk 10 ?_;refine rd 11 λK q=>?_;have HR:=qI (hw.o.trans (Apart.alloc _ t (.cells #[.int .u64 0,.slice none 0 0] 123)));have H5:=qI (bd t (.cells #[.int .u64 0,.slice none 0 0] 123) rfl);have JY:t.heap.size<(t.alloc (.cells #[.int .u64 0,.slice none 0 0] 123)).heap.size:=by simp
      have hf:=hw.o.size;have Jp:Hu (G.1=0->bD (au (λj=>j<X.heap.size\/j=t.heap.size) (t.alloc (.cells #[.int .u64 0,.slice none 0 0] 123))) (.slice I L M) G.2.1.dv/\aF (t.alloc (.cells #[.int .u64 0,.slice none 0 0] 123)) a db Y T f.ds G.2.2):=λH=>⟨(Jj.o H).1.le (bE (λj d r=>⟨by omega,Below.heap_alloc _ _ _ d⟩) (by simp)),(Jj.o H).2.alloc _⟩
      go_simp
      go_wp2_with fail
      refine q.o _ _ (Hi.o _ HR.o) λhQ=>?_;clear q K;generalize t.alloc (.cells #[.int .u64 0,.slice none 0 0] 123)=W3 at *;refine rd 12 λK q=>?_;have Zg:W3.cell? t.heap.size=some (.int .u64 0):=ad H5.o 0;have Zc:W3.cell? ⟨t,1,none⟩=some (.slice none 0 0):=ad H5.o 1;have Zj:=bQ H5.o 0;have Ze:=bQ H5.o 1;have J7:=hf;have H1:Hu (∀j,j≠t.heap.size->((W3.setCell t (.int .u64 (G.2.1.cp:Nat))).setCell ⟨t,1,none⟩ (.slice I L M)).heap[j]?=W3.heap[j]?):=λj d=>(set_other d).trans (set_other d)
      have H2:((W3.setCell t (.int .u64 (G.2.1.cp:Nat))).setCell ⟨t,1,none⟩ (.slice I L M)).heap.size=W3.heap.size:=by simp
      have Jk:Hu (Apart (λj=>j=a) X ((W3.setCell t (.int .u64 (G.2.1.cp:Nat))).setCell ⟨t,1,none⟩ (.slice I L M))):=⟨HR.o.os,HR.o.tape,HR.o.output,by rw[H2];exact HR.o.size,λj d r=>(H1.o j (by omega)).trans (HR.o.block j d r)⟩;have J1:=qI (aV (aV H5.o 0 (.int .u64 (G.2.1.cp:Nat))) 1 (.slice I L M));have JC:Hu (G.1=0->bD (au (λj=>j<X.heap.size\/j=t.heap.size) ((W3.setCell t (.int .u64 (G.2.1.cp:Nat))).setCell ⟨t,1,none⟩ (.slice I L M))) (.slice I L M) G.2.1.dv/\aF ((W3.setCell t (.int .u64 (G.2.1.cp:Nat))).setCell ⟨t,1,none⟩ (.slice I L M)) a db Y T f.ds G.2.2):=λH=>⟨(Jp.o H).1.le (bE (λj _ r=>⟨r,H1.o j λe=>r (.inr e)⟩) (Nat.le_of_eq H2.symm)),((Jp.o H).2.kept (cM _ t _) (λe=>by injection e with e;have e:a=t.heap.size:=e;omega) (λR e=>by injection e with e;have e:db=t.heap.size:=e;have:=(Hv.o (by rw[<- He.o.1];exact R)).2.2;omega)).kept (cM _ ⟨t,1,none⟩ _) (λe=>by injection e with e;have e:a=t.heap.size:=e;omega) (λR e=>by injection e with e;have e:db=t.heap.size:=e;have:=(Hv.o (by rw[<- He.o.1];exact R)).2.2;omega)⟩
      go_simp
      go_wp2_with fail
      refine q.o _ _ (Hi.o _ Jk.o) λhQ=>?_;clear q K;refine tk 13 ?_;refine Qn (by kernel_rfl) ?_ _
      go_wp2
      go_meet
      exact⟨_,_,_,_,rfl,rfl,J1.o,hf,JC.o,Jk.o⟩
     ·have H4:=qI (HH.o.trans (Apart.alloc _ u (.cells #[.int .u64 0,.slice none 0 0] 123)));have ja:=qI (bd u (.cells #[.int .u64 0,.slice none 0 0] 123) rfl);have HI:u.heap.size<(u.alloc (.cells #[.int .u64 0,.slice none 0 0] 123)).heap.size:=by simp
      have HC:=HH.o.size;have JT:=qI (Jo.o.alloc (.cells #[.int .u64 0,.slice none 0 0] 123));go_simp
      go_wp2_with fail
      refine q.o _ _ (Hi.o _ H4.o) λhQ=>?_;clear q K;generalize u.alloc (.cells #[.int .u64 0,.slice none 0 0] 123)=W5 at *;refine rd 7 λK q=>?_;go_simp
      go_wp2_with fail
      refine (HX.o W5 _ (Hq.o _ H4.o).1 ⟨JT.o,by rw[He.o.1];exact HS.o.nodes,He.o.2⟩ (Hq.o _ H4.o).2.2).mono ?_;rintro e N ⟨⟨O,Q,P,rfl,HA⟩,ho⟩;have HQ:=qI (H4.o.trans (gm ho (λj d _=>by injection d with d;exact d.symm)));have Jy:=H4.o.size;have Jw:=HC;have H0:=qI ((ho.block _ HI (λe=>by injection e with e;omega)).trans ja.o);have Jc:Hu (G.1=0->bD (au (λj=>j<X.heap.size\/j=u.heap.size) N) (.slice O Q P) G.2.1.dv/\aF N a db Y T f.ds G.2.2):=λH=>⟨(HA H).1.le (bE (λj _ r=>⟨by have:=HI;omega,rfl⟩) (lR)),(HA H).2⟩
      have JS:=Q1 HI ho.size;clear ho HA
      go_wp2_with fail
      refine q.o _ _ (Hi.o _ HQ.o) λhQ=>?_;clear q K;refine tk 8 ?_;refine tk 9 ?_;refine tk 10 ?_;refine rd 12 λK q=>?_;have Zh:N.cell? u.heap.size=some (.int .u64 0):=ad H0.o 0;have Zd:N.cell? ⟨u,1,none⟩=some (.slice none 0 0):=ad H0.o 1;have Zf:=bQ H0.o 0;have Zi:=bQ H0.o 1;have Jx:=HC;have H9:Hu (∀j,j≠u.heap.size->((N.setCell u (.int .u64 (G.2.1.cp:Nat))).setCell ⟨u,1,none⟩ (.slice O Q P)).heap[j]?=N.heap[j]?):=λj d=>(set_other d).trans (set_other d)
      have HT:((N.setCell u (.int .u64 (G.2.1.cp:Nat))).setCell ⟨u,1,none⟩ (.slice O Q P)).heap.size=N.heap.size:=by simp
      have Ji:Hu (Apart (λj=>j=a) X ((N.setCell u (.int .u64 (G.2.1.cp:Nat))).setCell ⟨u,1,none⟩ (.slice O Q P))):=⟨HQ.o.os,HQ.o.tape,HQ.o.output,by rw[HT];exact HQ.o.size,λj d r=>(H9.o j (by omega)).trans (HQ.o.block j d r)⟩;have JK:=qI (aV (aV H0.o 0 (.int .u64 (G.2.1.cp:Nat))) 1 (.slice O Q P));have JE:Hu (G.1=0->bD (au (λj=>j<X.heap.size\/j=u.heap.size) ((N.setCell u (.int .u64 (G.2.1.cp:Nat))).setCell ⟨u,1,none⟩ (.slice O Q P))) (.slice O Q P) G.2.1.dv/\aF ((N.setCell u (.int .u64 (G.2.1.cp:Nat))).setCell ⟨u,1,none⟩ (.slice O Q P)) a db Y T f.ds G.2.2):=λH=>⟨(Jc.o H).1.le (bE (λj _ r=>⟨r,H9.o j λe=>r (.inr e)⟩) (Nat.le_of_eq HT.symm)),((Jc.o H).2.kept (cM _ u _) (λe=>by injection e with e;have e:a=u.heap.size:=e;omega) (λR e=>by injection e with e;have e:db=u.heap.size:=e;have:=(Hv.o (by rw[<- He.o.1];exact R)).2.2;omega)).kept (cM _ ⟨u,1,none⟩ _) (λe=>by injection e with e;have e:a=u.heap.size:=e;omega) (λR e=>by injection e with e;have e:db=u.heap.size:=e;have:=(Hv.o (by rw[<- He.o.1];exact R)).2.2;omega)⟩
      go_simp
      go_wp2_with fail
      refine q.o _ _ (Hi.o _ Ji.o) λhQ=>?_;clear q K;refine tk 13 ?_;refine Qn (by kernel_rfl) ?_ _
      go_wp2
      go_meet
      exact⟨_,_,_,_,rfl,rfl,JK.o,HC,JE.o,Ji.o⟩
    ·have hL:=qI (HV.o.trans (Apart.alloc _ V (.cells #[.int .u64 0,.slice none 0 0] 123)));have JG:=qI (bd V (.cells #[.int .u64 0,.slice none 0 0] 123) rfl);have H6:V.heap.size<(V.alloc (.cells #[.int .u64 0,.slice none 0 0] 123)).heap.size:=by simp
     have HD:=HV.o.size;have JP:=qI (h4.o.alloc (.cells #[.int .u64 0,.slice none 0 0] 123));go_simp
     go_wp2_with fail
     refine q.o _ _ (Hi.o _ hL.o) λhQ=>?_;clear q K;generalize V.alloc (.cells #[.int .u64 0,.slice none 0 0] 123)=W8 at *;refine rd 4 λK q=>?_;go_simp
     go_wp2_with fail
     refine (tu p _ x na x.ds.length nc W8 (Hq.o _ hL.o).2.1 HJ.o.2.1.1 HJ.o.2.1.2).mono ?_;rintro e W9 ⟨rfl,H8⟩;have he:=qI (hL.o.trans (Apart.of_below H8));have jc:=qI (JP.o.below H8);have JZ:=qI ((H8.block _ H6).trans JG.o);have HB:=Q1 H6 H8.size;clear H8
     go_wp2_with fail
     refine q.o _ _ (Hi.o _ he.o) λhQ=>?_;clear q K;refine rd 7 λK q=>?_;go_simp
     go_wp2_with fail
     refine (HX.o W9 _ (Hq.o _ he.o).1 ⟨jc.o,by rw[He.o.1];exact HS.o.nodes,He.o.2⟩ (Hq.o _ he.o).2.2).mono ?_;rintro e E ⟨⟨y,D,C,rfl,Hj⟩,Hr⟩;have Hh:=qI (he.o.trans (gm Hr (λj d _=>by injection d with d;exact d.symm)));have Jm:=he.o.size;have h8:=HD;have Hk:=qI ((Hr.block _ HB (λe=>by injection e with e;omega)).trans JZ.o);have HZ:Hu (G.1=0->bD (au (λj=>j<X.heap.size\/j=V.heap.size) E) (.slice y D C) G.2.1.dv/\aF E a db Y T f.ds G.2.2):=λH=>⟨(Hj H).1.le (bE (λj _ r=>⟨by have:=HB;omega,rfl⟩) (lR)),(Hj H).2⟩
     have Jn:=Q1 HB Hr.size;clear Hr Hj
     go_wp2_with fail
     refine q.o _ _ (Hi.o _ Hh.o) λhQ=>?_;clear q K;refine tk 8 ?_;refine tk 9 ?_;refine tk 10 ?_;refine rd 12 λK q=>?_;have j6:E.cell? V.heap.size=some (.int .u64 0):=ad Hk.o 0;have j5:E.cell? ⟨V,1,none⟩=some (.slice none 0 0):=ad Hk.o 1;have In:=bQ Hk.o 0;have Zb:=bQ Hk.o 1;have Jq:=HD;have Hx:Hu (∀j,j≠V.heap.size->((E.setCell V (.int .u64 (G.2.1.cp:Nat))).setCell ⟨V,1,none⟩ (.slice y D C)).heap[j]?=E.heap[j]?):=λj d=>(set_other d).trans (set_other d)
     have Hy:((E.setCell V (.int .u64 (G.2.1.cp:Nat))).setCell ⟨V,1,none⟩ (.slice y D C)).heap.size=E.heap.size:=by simp
     have HU:Hu (Apart (λj=>j=a) X ((E.setCell V (.int .u64 (G.2.1.cp:Nat))).setCell ⟨V,1,none⟩ (.slice y D C))):=⟨Hh.o.os,Hh.o.tape,Hh.o.output,by rw[Hy];exact Hh.o.size,λj d r=>(Hx.o j (by omega)).trans (Hh.o.block j d r)⟩;have hY:=qI (aV (aV Hk.o 0 (.int .u64 (G.2.1.cp:Nat))) 1 (.slice y D C));have hU:Hu (G.1=0->bD (au (λj=>j<X.heap.size\/j=V.heap.size) ((E.setCell V (.int .u64 (G.2.1.cp:Nat))).setCell ⟨V,1,none⟩ (.slice y D C))) (.slice y D C) G.2.1.dv/\aF ((E.setCell V (.int .u64 (G.2.1.cp:Nat))).setCell ⟨V,1,none⟩ (.slice y D C)) a db Y T f.ds G.2.2):=λH=>⟨(HZ.o H).1.le (bE (λj _ r=>⟨r,Hx.o j λe=>r (.inr e)⟩) (Nat.le_of_eq Hy.symm)),((HZ.o H).2.kept (cM _ V _) (λe=>by injection e with e;have e:a=V.heap.size:=e;omega) (λR e=>by injection e with e;have e:db=V.heap.size:=e;have:=(Hv.o (by rw[<- He.o.1];exact R)).2.2;omega)).kept (cM _ ⟨V,1,none⟩ _) (λe=>by injection e with e;have e:a=V.heap.size:=e;omega) (λR e=>by injection e with e;have e:db=V.heap.size:=e;have:=(Hv.o (by rw[<- He.o.1];exact R)).2.2;omega)⟩
     go_simp
     go_wp2_with fail
     refine q.o _ _ (Hi.o _ HU.o) λhQ=>?_;clear q K;refine tk 13 ?_;refine Qn (by kernel_rfl) ?_ _
     go_wp2
     go_meet
     exact⟨_,_,_,_,rfl,rfl,hY.o,HD,hU.o,HU.o⟩
   case rest=>
    obtain⟨Bp,ua,un,uc,rfl,rfl,hW,jb,h6,Hc⟩:=hcut;have hr:=qI hW;have Jt:=qI h6;have hV:=qI Hc;have jf:=Hc.size;have jm:Bp<wc.heap.size:=(gS hW).1;have Hn:=qI ((Hc.block (B+1) (by omega) (by omega)).trans ((Hb.o.block (B+1) (by omega)).trans hZ.o));have J5:Hu (w.grownBy wc (some a)):=⟨Hc.os.trans (Hb.o.os.trans Hl.o.os),Hc.tape.trans (Hb.o.tape.trans Hl.o.tape),Hc.output.trans (Hb.o.output.trans Hl.o.output),by have:=Hl.o.size;omega,λj d r=>(Hc.block j (by have:=Hl.o.size;omega) λe=>r (by rw[e])).trans ((Hb.o.block j (by have:=Hl.o.size;omega)).trans (Hl.o.block j d r))⟩;clear hW h6 Hc HX Hq Hi
    by_cases J:G.1=0
    ·have JJ:=qI J;rw[J,show aJ (((0:Nat)):Int)=.nilIface from rfl];rw[if_pos J] at HL;clear J;obtain⟨Je,Jb⟩:=Jt.o JJ.o;have JV:=qI Je;have J8:=qI Jb;clear Je Jb Jt;generalize hgc:G.2.1.cp=gc at *;have hD:=qI hgc;clear hgc;have j2:=Jv.o;have s0:wc.cell? (B+1:Nat)=some (.int .u64 f.cp):=ad Hn.o 0;have sf:=bQ Hn.o 0;have p0:wc.cell? ⟨Bp,0,none⟩=some (.int .u64 (gc:Nat)):=ad hr.o 0;have p1:wc.cell? ⟨Bp,1,none⟩=some (.slice ua un uc):=ad hr.o 1;have jk:=nI f.cp gc He.o.2 j2;have HG:Bp≠B+1:=by omega
     have h9:=qI JX;have jg:=qI (mw (A:=f.cp) gc He.o.2);have Hm:∀b,(Value.slice va l.length vc).ownBlock=some b->U.heap.size<=b/\b<Bc:=λb F=>by rw[<- hBc];exact Ho.o.row.lt b F
     have hT:=qI (aV Hn.o 0 (.int .u64 (aG f.cp gc:Nat)));have hl:Hu (∀j,j≠B+1->(wc.setCell (B+1:Nat) (.int .u64 (aG f.cp gc:Nat))).heap[j]?=wc.heap[j]?):=λj d=>set_other d
     have H3:(wc.setCell (B+1:Nat) (.int .u64 (aG f.cp gc:Nat))).heap.size=wc.heap.size:=by simp
     have hP:Hu (aF (wc.setCell (B+1:Nat) (.int .u64 (aG f.cp gc:Nat))) a db Y T f.ds G.2.2):=J8.o.kept (cM _ (B+1:Nat) _) (λe=>by injection e with e;have e:a=B+1:=e;omega) (λR e=>by injection e with e;have e:db=B+1:=e;have:=(Hv.o (by rw[<- He.o.1];exact R)).2.2;omega);have hh:Hu ((wc.setCell (B+1:Nat) (.int .u64 (aG f.cp gc:Nat))).ownsRow U 123 2 (.slice va l.length vc) l.length (l.flatMap jI)):=rM Ho.o.row λg hg=>(hl.o g (by have:=(Hm g hg).1;omega)).trans ((hV.o.block g (by have:=(Hm g hg).2;omega) (by have:=(Hm g hg).1;omega)).trans (Hb.o.block g (Hm g hg).2));have hC:Hu (Apart (λj=>j=a\/j=B+1\/U.heap.size<=j) U (wc.setCell (B+1:Nat) (.int .u64 (aG f.cp gc:Nat)))):=((JR.o.trans (Apart.of_below (by rw[hBc];exact Hb.o))).trans (hV.o.wide λj h=>.inl h)).trans (Apart.setCell (K:=λj=>j=a\/j=B+1\/U.heap.size<=j) (.inr (.inl rfl)) _ _ _);clear Hn;have JB:=qI H3;have JH:=qI HG;generalize hw6:wc.setCell (B+1:Nat) (.int .u64 (aG f.cp gc:Nat))=N at *;have t0:N.cell? ⟨Bp,0,none⟩=some (.int .u64 (gc:Nat)):=ad ((hl.o Bp HG).trans hr.o) 0;have t1:N.cell? ⟨Bp,1,none⟩=some (.slice ua un uc):=ad ((hl.o Bp HG).trans hr.o) 1;have hN:=UM N (⟨gc,G.2.1.dv⟩,.slice ua un uc) 123;dsimp only at hN;have HN:=qI hN;have JI:U.heap.size<=(N.alloc (.cells #[.int .u64 (gc:Nat),.slice ua un uc] 123)).heap.size:=by simp;omega
     clear hN H3
     go_wp2_with (at_builtin;refine wpList_append_lies _ rfl _ _ 99 rfl U 123 i0 (.agg #[.int .u64 0,.slice none 0 0]) 2 32 underlying99 hi JQ J3 J2 rfl (by decide) _ _ _ rfl (hh.o.alloc _) ⟨_,0,none⟩ 1 1 (jI (⟨gc,G.2.1.dv⟩,.slice ua un uc)) rfl rfl HN.o (UL _ _ _ _) (by decide) (by have:=h9.o;unfold maxLen;omega) (by have:=h9.o;omega) JI (N.heap.size+1) (by simp) ?_;intro g' j1 W8 Hs Ha Ju JA)
     have H3:=JB.o;have Jz:(N.alloc (.cells #[.int .u64 (gc:Nat),.slice ua un uc] 123)).heap.size=wc.heap.size+1:=by rw[World.size_alloc,H3]
     have jl:=Ha.size;have Hz:(Value.slice va l.length vc).ownBlock=some g'\/g'=wc.heap.size+1:=by rw[<- H3];exact Ju
     have Jr:Hu (∀j,j<wc.heap.size->j≠B+1->(Value.slice va l.length vc).ownBlock≠some j->W8.heap[j]?=wc.heap[j]?):=λj d j3 Ix=>(Ha.block j (by omega) λe=>Ix e.symm).trans ((Below.heap_alloc _ _ _ (by omega)).trans (hl.o j j3))
     have hJ:Hu (Apart (λj=>j=a\/j=B+1\/U.heap.size<=j) U W8):=(hC.o.trans (Apart.alloc _ _ _)).trans (gm Ha λj d _=>.inr (.inr (Hm j d).1));have hM:Hu (aF W8 a db Y T f.ds G.2.2):=(hP.o.alloc _).kept Ha (λe=>by have:=(Hm a e.symm).1;omega) (λR e=>by have:=(Hm db e.symm).1;have:=(Hv.o (by rw[<- He.o.1];exact R)).2.2;omega);have hv:Hu (W8.heap[B+1]?=some (.cells #[.int .u64 (aG f.cp gc:Nat),a] 87 (0,0))):=(Ha.block (B+1) (by omega) (λe=>by have:=(Hm (B+1) e.symm).1;omega)).trans ((Below.heap_alloc _ _ _ (by omega)).trans hT.o);have hR:G.2.1=⟨gc,G.2.1.dv⟩:=by rw[<- hD.o]
     have HW:Hu (yj W8 (.slice g' (l.length+1) j1) (l++[(G.2.1,Value.slice ua un uc)]) U):=by
      refine⟨?_,λz hz=>?_⟩
      ·rw[Q2,List.flatMap_append,hR]
       simpa using Hs
      ·rcases Qi.1 hz with hz|hz
       ·obtain⟨z1,z2⟩:=Ho.o.in_ z hz;refine⟨z1,z2.le (bE (λj d r=>?_) (by omega))⟩;have Jf:¬ j<U.heap.size:=λh=>r (.inl h)
        have Js:(Value.slice va l.length vc).ownBlock≠some j:=λh=>r (.inr h)
        refine⟨λh=>?_,?_⟩
        ·rcases h with h|h
         ·exact Jf h
         ·have h:some g'=some j:=h;injection h with h
          rcases Hz with Hz|Hz
          ·exact Js (by rw[Hz,h])
          ·omega
        ·exact (Jr.o j (by omega) (by omega) Js).trans ((hV.o.block j (by omega) (by omega)).trans (Hb.o.block j (by rw[<- hBc];exact d)))
       ·rw[Qm.1 hz];dsimp only;refine⟨by rw[hR];exact j2,JV.o.le (bE (λj d r=>?_) (by omega))⟩;have Jf:¬ j<X.heap.size:=λh=>r (.inl h)
        refine⟨λh=>?_,Jr.o j d (by omega) (λh=>by have:=(Hm j h).2;omega)⟩
        rcases h with h|h
        ·omega
        ·have h:some g'=some j:=h;injection h with h
         rcases Hz with Hz|Hz
         ·have:=(Hm g' Hz).2;omega
         ·omega
     clear Hs Ha Ju hR
     go_roundw
     case rel=>
      exact⟨k+1,⟨aG f.cp gc,f.ds,G.2.2⟩,l++[(G.2.1,Value.slice ua un uc)],by omega,by go_num,by rw[HL.o,Qj];rfl,by rw[Q2,JF.o];rfl,HW.o,hM.o,hv.o,hJ.o⟩
     case measure=>simp[intOf];omega
    ·have J4:=qI J;rw[if_neg J] at HL;have ha:Hu ((aX m s p).1=G.1):=by
      unfold Hu aX;have e1:(b8 m s p.cs (k+1)).1=G.1:=by rw[HL.o]
      have:=UG (m:=m) (s:=s) (cs:=p.cs) (k:=k+1) (by rw[e1];exact J) p.cs.length (by omega)
      rw[e1] at this;exact this
     have hE:=eP J;have JN:=qI hE;rw[hE];clear J hE;generalize G.1=g1 at *
     go_wp2
     go_ret2;exact⟨⟨none,0,0,by rw[ha.o,JN.o];rfl,λh=>absurd (ha.o.symm.trans h) J4.o⟩,J5.o⟩
  ·have JO:k=p.cs.length:=by omega
   subst JO;have ha:Hu (aX m s p=(0,l.map Prod.fst)):=by
    unfold Hu aX;rw[Ja.o]
   have hS:Hu (b7 (fresh w wr) (.slice va l.length vc) (l.map Prod.fst)):=UO Ho.o (by omega)
   go_wp2
   go_ret2;exact⟨⟨va,l.length,vc,by rw[ha.o];rfl,λ_=>by rw[ha.o];exact hS.o⟩,Hl.o⟩
