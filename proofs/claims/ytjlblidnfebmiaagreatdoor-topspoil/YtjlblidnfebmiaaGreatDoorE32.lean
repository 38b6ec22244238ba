import Derived.Test.YtjlblidnfebmiaaGreatDoorE31
set_option maxRecDepth 100000
set_option maxHeartbeats 16000000
open Go Go.RowKit Go.Shelf
attribute [local go_sem] Oper.semAt_some
open Go.Proofs.Tryz
namespace Go.Proofs.YtjlblidnfebmiaaGreatDoor
def jy (x:aP × Value):List Value:=[.int .u64 (x.1.cp:Nat),x.2]
theorem Tb (g:aP) (a:Option Addr) (n c:Nat):∀ u∈jy (g,.slice a n c),u.oneCell'=true:=by
 intro u b
 simp [jy] at b
 rcases b with rfl|rfl <;> rfl
theorem Tc (w:World) (x:aP × Value) (t:TypeId):∀ j u,(jy x)[j]?=some u->(w.alloc (.cells #[.int .u64 (x.1.cp:Nat),x.2] t)).cell? ((w.heap.size:Addr).add j)=some u:=by simp_all [Addr.add_lit,jy]
theorem Td:(prog.info? 123).map (λi=>(i.zero,i.size,i.bytes))=some (some (.agg #[.int .u64 0,.slice none 0 0]),2,32):=by kernel_rfl
structure xK (W:World) (v:Value) (l:List (aP × Value)) (N:Nat):Prop where
 row:W.ownsRow N 123 2 v l.length (l.flatMap jy)
 in_:∀ x∈l,x.1.cp<18446744073709551616/\bA (av (λj=>j<N\/v.ownBlock=some j) W) x.2 x.1.dv
theorem Te {W:World} {v:Value} {l:List (aP × Value)} {N K:Nat} (h:xK W v l N) (n:K<=N):cq (fresh K W) v (l.map Prod.fst):=by
 have i:=h.row
 rcases h.row.2 with ⟨c,m⟩|⟨g,d,r,c,t,Ha,Hc,Hb,_⟩
 ·have:l=[]:=Qe m
  subst this;rw [c];exact ⟨none,0,rfl,⟨lR,Nat.zero_le _⟩,λh=>absurd h (Nat.lt_irrefl 0)⟩
 ·subst c;have key:∀ (l:List (aP × Value)) (k:Nat) (b:k<l.length) (j:Nat),j<2->(l.flatMap jy)[k*2+j]?=(jy l[k])[j]?:=by
   intro l
   induction l with
   | nil=>intro k b;simp at b
   | cons a l ih=>
    intro k b j f;rw [List.flatMap_cons];cases k with
    | zero=>rw [List.getElem?_append_left (by simp [jy];omega)];simp
    | succ k=>
     rw [List.getElem?_append_right (by simp [jy];omega)]
     have:=ih k (by simpa using b) j f
     simp only [List.getElem_cons_succ];rw [<- this]
     congr 1
     simp [jy]
     omega
  refine ⟨_,d,by rw [Q9],by rw [Q9];exact ⟨Hc,Hb⟩,λ_=>⟨g,0,λk=>(l.getD k (⟨0,[]⟩,.nilIface)).2,rfl,by rw [cC];exact (gS Ha).1,λk b=>?_⟩⟩;rw [Q9] at b;have e:aq (l.map Prod.fst) k=l[k].1:=by simp [aq,b]
  have o:(l.getD k (⟨0,[]⟩,.nilIface)).2=l[k].2:=by simp [b]
  obtain ⟨s,p⟩:=h.in_ _ (List.getElem_mem b);dsimp only;rw [e,o];refine ⟨⟨?_,?_,s⟩,p.le (bP (λj _ q=>⟨λf=>q (.inl (Q1 f n)),rfl⟩) (lR))⟩
  ·rw [j7 (by omega),Qd,i.cellAt (k*2) (by omega)];exact key l k b 0 (by decide)
  ·rw [j7 (by omega),Qd,i.cellAt (k*2+1) (by omega)];exact key l k b 1 (by decide)
abbrev oj:=λ(x0:Nat) (x1:aF)=>(.cells #[x0,.int .u64 x1.op,.int .u8 x1.nd,(x1.nb:Int),(x1.pol:Int)] 84:Obj)
abbrev ol:=λ(x0:az) (x1:Option Addr) (x2:Nat)=>(.cells #[x0.nm,(x0.pr:Int),.slice x1 x0.cs.length x2] 49:Obj)
abbrev tP:=λ(x0:aA) (x1:Option Addr) (x2:Nat)=>(.cells #[x0.nm,(x0.am:Int),(x0.ab:Int),(x0.cm:Int),(x0.cb:Int),.slice x1 x0.ds.length x2] 65:Obj)
abbrev om:=λ(x0:aB) (x1:Nat)=>(.cells #[.int .u64 x0.cp,x1] 87:Obj)
abbrev Ew:=λ(B tb:Nat) (m:aF) (sk:aB) (pb:Nat) (p:az) (cb co cc Bc:Nat) (x:aA) (na:Option Addr) (nc:Nat) (w':World)=>cl w' B (0) tb/\cl w' B (1) (.int .u64 m.op)/\cl w' B (2) (.int .u8 m.nd)/\cl w' B (3) (m.nb:Int)/\cl w' B (4) (m.pol:Int)/\cl w' (B+1) (0) (.int .u64 sk.cp)/\cl w' (B+1) (1) pb/\cl w' (B+2) (0) p.nm/\cl w' (B+2) (1) (p.pr:Int)/\cl w' (B+2) (2) (.slice (some ⟨cb,co,none⟩) p.cs.length cc)/\cl w' Bc (0) x.nm/\cl w' Bc (1) (x.am:Int)/\cl w' Bc (2) (x.ab:Int)/\cl w' Bc (3) (x.cm:Int)/\cl w' Bc (4) (x.cb:Int)/\cl w' Bc (5) (.slice na x.ds.length nc)
theorem Tf (m:aF) (s:aB) (tb b o c a db:Nat) (T:Option Addr) (Y:Nat) (p:az) (cv:Value) (w:World) (hm:dU (av (λj=>j=a) w) tb b o c m) (hs:ee w a db T Y s) (hp:aZ (av (λj=>j=a) w) cv p.cs) (hF:br p=0) :
  Calls prog 53 #[mV m tb,sV s a,du p cv] w λe w'=>(∃ ua Z uc,e=.returned (.tuple #[.slice ua Z uc,aL ((aV m s p).1:Nat)])/\((aV m s p).1=0->cq (fresh w w') (.slice ua Z uc) (aV m s p).2))/\w.grownBy w' (some a):=by
 obtain ⟨i0,hi,JE,Jz,JO⟩:=info_parts Td;unfold mV sV du;have HM:=qI hm;have HS:=qI hs;have HP:=qI hp;have Jn:=qI (jk hF);have JK:=hs.pool.lt;have Hz:=qI hs.pool.at0;obtain ⟨ca,cc,rfl,jg,Je⟩:=hp;have JZ:=qI Je;have jb:=Jn.o.2.2.1;have sz:(((w.alloc (oj tb m)).alloc (om s a)).alloc (ol p ca cc)).heap.size=w.heap.size+3:=by simp
 have Ju:=qI (aU ((w.alloc (oj tb m)).alloc (om s a)) (ol p ca cc) (n:=w.heap.size+2) (by simp));have J5:=qI (b6 (aU (w.alloc (oj tb m)) (om s a) (n:=w.heap.size+1) (by simp)) (ol p ca cc));have JS:=qI (b6 (b6 (aU w (oj tb m) rfl) (om s a)) (ol p ca cc));have H3:=qI ((((Q0 w w).alloc (lR) (oj tb m)).alloc (by simp) (om s a)).alloc (by simp;omega) (ol p ca cc));have JD:(((w.alloc (oj tb m)).alloc (om s a)).alloc (ol p ca cc)).cell? ⟨w.heap.size+2,2,none⟩=some (.slice ca p.cs.length cc):=aa Ju.o 2;have hT:=qI (hs.pool.below H3.o);clear hm hs Je hF
 go_enter func53,ntmps53
 go_wp2_with fail
 generalize (((w.alloc (oj tb m)).alloc (om s a)).alloc (ol p ca cc))=U at *;generalize hB:w.heap.size=B at *;clear JD
 go_loopw [8,16] (λpv i wr=>∃ (k:Nat) (f:aB) (l:List (aP × Value)),k<=p.cs.length/\i=.int .i64 k/\bZ m s p.cs k=(0,l.map Prod.fst,f)/\l.length=k/\xK wr pv l U/\aJ wr a db T Y f.ds f.us/\wr.heap[B+1]?=some (.cells #[.int .u64 f.cp,a] 87 (0,0))/\Apart (λj=>j=a\/j=B+1\/U.heap.size<=j) U wr) (λ_ i _=>p.cs.length - (intOf i).toNat)
 case atStart=>exact ⟨0,s,[],by omega,rfl,rfl,rfl,⟨Qw _ _ _ _,λx hx=>(List.not_mem_nil hx).elim⟩,hT.o,J5.o,Apart.refl _ _⟩
 case round=>
  obtain ⟨k,f,l,hk,rfl,ho,Jd,HG,Hx,Jg,Hq⟩:=hrel;have Jc:=qI ho;have JM:=qI Jd;have Ho:=qI HG;have H6:=qI Hx;have hJ:=qI Jg;have J8:=qI Hq;have jf:=Hq.size;have jm:a<B:=by omega
  have JA:l.length<=3:=by omega
  obtain ⟨va,vc,J3⟩:=fj HG.row;subst J3;have Hl:Hu (w.grownBy wr (some a)):=⟨Hq.os.trans H3.o.os,Hq.tape.trans H3.o.tape,Hq.output.trans H3.o.output,by omega,λj d q=>(Hq.block j (by omega) (λh=>by rcases h with h|h|h;exact q (by rw [h]);omega;omega)).trans (H3.o.block j (by omega))⟩;have HV:=qI ((Hq.block B (by omega) (by omega)).trans JS.o);have hW:=qI ((Hq.block (B+2) (by omega) (by omega)).trans Ju.o);have He:Hu (f.ds=s.ds/\f.cp<18446744073709551616):=⟨by have:=S5 m s p.cs k;rw [ho] at this;exact this,by have:=S8 m s p.cs HS.o.cp k;rw [ho] at this;exact this⟩;have hr:Hu (aM (av (λj=>j=a) w) (av (λj=>j=a) wr)):=bP (λj d q=>⟨q,Hl.o.block j d λe=>q (by injection e)⟩) Hl.o.size;clear ho Jd HG Hx Jg Hq
  by_cases j0:k<p.cs.length
  ·obtain ⟨cb,co,dv,rfl,HI⟩:=JZ.o (by omega);obtain ⟨k0,k1,k2,k3,k4,k5⟩:=HI.at j0;have Hf:=hr.o.trans (dm _ _);have k0:=Hf.cell _ _ _ k0;have k1:=Hf.cell _ _ _ k1;have k2:=Hf.cell _ _ _ k2;have k3:=Hf.cell _ _ _ k3;have k4:=Hf.cell _ _ _ k4;have k5:=Hf.cell _ _ _ k5;have Hg:=((HI.2 k j0).2).le hr.o;obtain ⟨na,nc,hy,hR,hD⟩:=id Hg;rw [hy] at k5 Hg;have Ht:=qI Hg;have HE:=qI (Jn.o.2.2.2 (ae p.cs k) (fF _ _ _ j0));have HL:=qI (S9 Jc.o);have jn:(k:Int)<(p.cs.length:Int):=by omega
   obtain ⟨x,hx⟩:∃ x,x=ae p.cs k:=⟨_,rfl⟩;rw [<- hx] at k0 k1 k2 k3 k4 k5 hy HE HL Ht;clear HI Hg Hf hy hx hR hD;have Hb:=qI ((Q0 wr wr).alloc (lR) (tP x na nc));have HQ:=qI (aU wr (tP x na nc) rfl);have jl:(wr.alloc (tP x na nc)).heap.size=wr.heap.size+1:=by simp
   go_upto_region 5 with fail
   generalize wr.alloc (tP x na nc)=X at *;clear k0 k1 k2 k3 k4 k5;generalize hBc:wr.heap.size=Bc at *;have Hh:Hu (∀ W,Apart (λj=>j=a) X W->(Ew B tb m f a p cb co cc Bc x na nc) W):=λW H=>⟨aa ((H.block (B) (by omega) (by omega)).trans ((Hb.o.block B (by omega)).trans HV.o)) 0,aa ((H.block (B) (by omega) (by omega)).trans ((Hb.o.block B (by omega)).trans HV.o)) 1,aa ((H.block (B) (by omega) (by omega)).trans ((Hb.o.block B (by omega)).trans HV.o)) 2,aa ((H.block (B) (by omega) (by omega)).trans ((Hb.o.block B (by omega)).trans HV.o)) 3,aa ((H.block (B) (by omega) (by omega)).trans ((Hb.o.block B (by omega)).trans HV.o)) 4,aa ((H.block (B+1) (by omega) (by omega)).trans ((Hb.o.block (B+1) (by omega)).trans hJ.o)) 0,aa ((H.block (B+1) (by omega) (by omega)).trans ((Hb.o.block (B+1) (by omega)).trans hJ.o)) 1,aa ((H.block (B+2) (by omega) (by omega)).trans ((Hb.o.block (B+2) (by omega)).trans hW.o)) 0,aa ((H.block (B+2) (by omega) (by omega)).trans ((Hb.o.block (B+2) (by omega)).trans hW.o)) 1,aa ((H.block (B+2) (by omega) (by omega)).trans ((Hb.o.block (B+2) (by omega)).trans hW.o)) 2,aa ((H.block (Bc) (by omega) (by omega)).trans HQ.o) 0,aa ((H.block (Bc) (by omega) (by omega)).trans HQ.o) 1,aa ((H.block (Bc) (by omega) (by omega)).trans HQ.o) 2,aa ((H.block (Bc) (by omega) (by omega)).trans HQ.o) 3,aa ((H.block (Bc) (by omega) (by omega)).trans HQ.o) 4,aa ((H.block (Bc) (by omega) (by omega)).trans HQ.o) 5⟩
   have JH:Hu (aJ X a db T Y f.ds f.us):=H6.o.below (by rw [hBc];exact Hb.o);have H0:=qI λ(W:World) (v:Value) (O:dU W tb b o c m) (h2:ee W a db T Y f) (h3:bO (av (λj=>j=a) W) v x.ds)=>S2 m f tb b o c a db T Y (bL p.cs x.am) v x.ds W O h2 h3 HE.o.2.2.2.2.2.1 λn q=>(HE.o.2.2.2.2.2.2 n q).2.1;have Jf:=qI (S7 (m:=m) (s:=f) (own:=bL p.cs x.am) (ns:=x.ds) He.o.2);obtain ⟨G,hG⟩:∃ G,G=(bJ m f (bL p.cs x.am) x.ds):=⟨_,rfl⟩;rw [<- hG] at H0 HL Jf;clear hG;have Hr:Hu (∀ W,Apart (λj=>j=a) X W->dU W tb b o c m/\aZ W (.slice (some ⟨cb,co,none⟩) p.cs.length cc) p.cs/\bO (av (λj=>j=a) W) (.slice na x.ds.length nc) x.ds):=λW H=>by
    have l1:aM (av (λj=>j=a) wr) (av (λj=>j=a) W):=(nI (Apart.of_below (K:=λj=>j=a) (by rw [hBc];exact Hb.o)) λ_ _ h=>h).trans (Ta H);exact ⟨HM.o.le ((hr.o.trans l1).trans (dm _ _)),HP.o.le ((hr.o.trans l1).trans (dm _ _)),Ht.o.le l1⟩
   go_cut [11,12] (λj4 Zb wc=>∃ Bp ua Z uc,j4=.pointer (some ⟨Bp,0,none⟩)/\Zb=aL (G.1:Nat)/\wc.heap[Bp]?=some (.cells #[.int .u64 (G.2.1.cp:Nat),.slice ua Z uc] 123 (0,0))/\X.heap.size<=Bp/\(G.1=0->bA (av (λj=>j<X.heap.size\/j=Bp) wc) (.slice ua Z uc) G.2.1.dv/\aJ wc a db T Y f.ds G.2.2)/\Apart (λj=>j=a) X wc)
   case first=>
    have HT:Hu (Apart (λj=>j=a) X X.drew):=Apart.drew _ _;refine wp_region_held_drew (S:=Ew B tb m f a p cb co cc Bc x na nc) (by kernel_rfl) (Hh.o _ HT.o) λhQ=>?_;have Jh:Hu (aJ X.drew a db T Y f.ds f.us):=JH.o.below (bF (Q0 _ _));generalize X.drew=V at *;refine tk 0 ?_;refine tk 1 ?_;refine tk 2 ?_;refine tk 3 ?_;refine tk 5 ?_;refine tk 6 ?_;refine rd2 4 11 (λK r=>?_) λK r=>?_
    ·go_simp
     go_wp2_with fail
     refine (qk p _ x na x.ds.length nc V (Hr.o _ HT.o).2.1 HE.o.2.1.1 HE.o.2.1.2).mono ?_;rintro e u ⟨rfl,hP⟩;have HH:=qI (HT.o.trans (Apart.of_below hP));have h4:=qI (Jh.o.below hP);clear hP
     go_wp2_with fail
     refine r.o _ _ (Hh.o _ HH.o) λhQ=>?_;clear r K;refine rd2 7 11 (λK r=>?_) λK r=>?_
     ·go_simp
      go_wp2_with fail
      refine (H0.o u _ (Hr.o _ HH.o).1 ⟨h4.o,by rw [He.o.1];exact HS.o.nodes,He.o.2⟩ (Hr.o _ HH.o).2.2).mono ?_;rintro e t ⟨⟨J,I,M,rfl,HA⟩,Jo⟩;have hv:=qI (HH.o.trans (fp Jo (λj d _=>by injection d with d;exact d.symm)));have hu:=HH.o.size;have Jl:Hu (G.1=0->bA (fresh X t) (.slice J I M) G.2.1.dv/\aJ t a db T Y f.ds G.2.2):=λF=>⟨(HA F).1.le (pj (λ_ _ _=>rfl) (lR) hu),(HA F).2⟩
      clear Jo HA
      go_wp2_with fail
      refine r.o _ _ (Hh.o _ hv.o) λhQ=>?_;clear r K;refine tk 8 ?_;refine tk 9 ?_;refine tk 10 ?_;refine rd 11 λK r=>?_;have HR:=qI (hv.o.trans (Apart.alloc _ t (.cells #[.int .u64 0,.slice none 0 0] 123)));have H5:=qI (aU t (.cells #[.int .u64 0,.slice none 0 0] 123) rfl);have Jx:t.heap.size<(t.alloc (.cells #[.int .u64 0,.slice none 0 0] 123)).heap.size:=by simp
      have he:=hv.o.size;have h7:Hu (G.1=0->bA (av (λj=>j<X.heap.size\/j=t.heap.size) (t.alloc (.cells #[.int .u64 0,.slice none 0 0] 123))) (.slice J I M) G.2.1.dv/\aJ (t.alloc (.cells #[.int .u64 0,.slice none 0 0] 123)) a db T Y f.ds G.2.2):=λF=>⟨(Jl.o F).1.le (bP (λj d q=>⟨by omega,Below.heap_alloc _ _ _ d⟩) (by simp)),(Jl.o F).2.alloc _⟩
      go_simp
      go_wp2_with fail
      refine r.o _ _ (Hh.o _ HR.o) λhQ=>?_;clear r K;generalize t.alloc (.cells #[.int .u64 0,.slice none 0 0] 123)=W3 at *;refine rd 12 λK r=>?_;have Zd:W3.cell? t.heap.size=some (.int .u64 0):=aa H5.o 0;have Zc:W3.cell? ⟨t,1,none⟩=some (.slice none 0 0):=aa H5.o 1;have Zj:=bw H5.o 0;have Ze:=bw H5.o 1;have JL:=he;have HU:Hu (∀ j,j≠t.heap.size->((W3.setCell t (.int .u64 (G.2.1.cp:Nat))).setCell ⟨t,1,none⟩ (.slice J I M)).heap[j]?=W3.heap[j]?):=λj d=>(set_other d).trans (set_other d)
      have hh:((W3.setCell t (.int .u64 (G.2.1.cp:Nat))).setCell ⟨t,1,none⟩ (.slice J I M)).heap.size=W3.heap.size:=by simp
      have h6:Hu (Apart (λj=>j=a) X ((W3.setCell t (.int .u64 (G.2.1.cp:Nat))).setCell ⟨t,1,none⟩ (.slice J I M))):=⟨HR.o.os,HR.o.tape,HR.o.output,by rw [hh];exact HR.o.size,λj d q=>(HU.o j (by omega)).trans (HR.o.block j d q)⟩;have JQ:=qI (aO (aO H5.o 0 (.int .u64 (G.2.1.cp:Nat))) 1 (.slice J I M));have J1:Hu (G.1=0->bA (av (λj=>j<X.heap.size\/j=t.heap.size) ((W3.setCell t (.int .u64 (G.2.1.cp:Nat))).setCell ⟨t,1,none⟩ (.slice J I M))) (.slice J I M) G.2.1.dv/\aJ ((W3.setCell t (.int .u64 (G.2.1.cp:Nat))).setCell ⟨t,1,none⟩ (.slice J I M)) a db T Y f.ds G.2.2):=λF=>⟨(h7.o F).1.le (bP (λj _ q=>⟨q,HU.o j λe=>q (.inr e)⟩) (Nat.le_of_eq hh.symm)),((h7.o F).2.kept (cK _ t _) (λe=>by injection e with e;have e:a=t.heap.size:=e;omega) (λO e=>by injection e with e;have e:db=t.heap.size:=e;have:=(Hz.o (by rw [<- He.o.1];exact O)).2.2;omega)).kept (cK _ ⟨t,1,none⟩ _) (λe=>by injection e with e;have e:a=t.heap.size:=e;omega) (λO e=>by injection e with e;have e:db=t.heap.size:=e;have:=(Hz.o (by rw [<- He.o.1];exact O)).2.2;omega)⟩
      go_simp
      go_wp2_with fail
      refine r.o _ _ (Hh.o _ h6.o) λhQ=>?_;clear r K;refine tk 13 ?_;refine Qn (by kernel_rfl) ?_ _
      go_wp2
      go_meet
      exact ⟨_,_,_,_,rfl,rfl,JQ.o,he,J1.o,h6.o⟩
     ·have HW:=qI (HH.o.trans (Apart.alloc _ u (.cells #[.int .u64 0,.slice none 0 0] 123)));have JY:=qI (aU u (.cells #[.int .u64 0,.slice none 0 0] 123) rfl);have HB:u.heap.size<(u.alloc (.cells #[.int .u64 0,.slice none 0 0] 123)).heap.size:=by simp
      have HK:=HH.o.size;have JU:=qI (h4.o.alloc (.cells #[.int .u64 0,.slice none 0 0] 123));go_simp
      go_wp2_with fail
      refine r.o _ _ (Hh.o _ HW.o) λhQ=>?_;clear r K;generalize u.alloc (.cells #[.int .u64 0,.slice none 0 0] 123)=W5 at *;refine rd 7 λK r=>?_;go_simp
      go_wp2_with fail
      refine (H0.o W5 _ (Hr.o _ HW.o).1 ⟨JU.o,by rw [He.o.1];exact HS.o.nodes,He.o.2⟩ (Hr.o _ HW.o).2.2).mono ?_;rintro e N ⟨⟨P,R,Q,rfl,HJ⟩,hq⟩;have HO:=qI (HW.o.trans (fp hq (λj d _=>by injection d with d;exact d.symm)));have JJ:=HW.o.size;have JX:=HK;have HX:=qI ((hq.block _ HB (λe=>by injection e with e;omega)).trans JY.o);have Jb:Hu (G.1=0->bA (av (λj=>j<X.heap.size\/j=u.heap.size) N) (.slice P R Q) G.2.1.dv/\aJ N a db T Y f.ds G.2.2):=λF=>⟨(HJ F).1.le (bP (λj _ q=>⟨by have:=HB;omega,rfl⟩) (lR)),(HJ F).2⟩
      have JR:=Q1 HB hq.size;clear hq HJ
      go_wp2_with fail
      refine r.o _ _ (Hh.o _ HO.o) λhQ=>?_;clear r K;refine tk 8 ?_;refine tk 9 ?_;refine tk 10 ?_;refine rd 12 λK r=>?_;have Zi:N.cell? u.heap.size=some (.int .u64 0):=aa HX.o 0;have Zg:N.cell? ⟨u,1,none⟩=some (.slice none 0 0):=aa HX.o 1;have Zf:=bw HX.o 0;have Zh:=bw HX.o 1;have J6:=HK;have H1:Hu (∀ j,j≠u.heap.size->((N.setCell u (.int .u64 (G.2.1.cp:Nat))).setCell ⟨u,1,none⟩ (.slice P R Q)).heap[j]?=N.heap[j]?):=λj d=>(set_other d).trans (set_other d)
      have H9:((N.setCell u (.int .u64 (G.2.1.cp:Nat))).setCell ⟨u,1,none⟩ (.slice P R Q)).heap.size=N.heap.size:=by simp
      have Jj:Hu (Apart (λj=>j=a) X ((N.setCell u (.int .u64 (G.2.1.cp:Nat))).setCell ⟨u,1,none⟩ (.slice P R Q))):=⟨HO.o.os,HO.o.tape,HO.o.output,by rw [H9];exact HO.o.size,λj d q=>(H1.o j (by omega)).trans (HO.o.block j d q)⟩;have JT:=qI (aO (aO HX.o 0 (.int .u64 (G.2.1.cp:Nat))) 1 (.slice P R Q));have JN:Hu (G.1=0->bA (av (λj=>j<X.heap.size\/j=u.heap.size) ((N.setCell u (.int .u64 (G.2.1.cp:Nat))).setCell ⟨u,1,none⟩ (.slice P R Q))) (.slice P R Q) G.2.1.dv/\aJ ((N.setCell u (.int .u64 (G.2.1.cp:Nat))).setCell ⟨u,1,none⟩ (.slice P R Q)) a db T Y f.ds G.2.2):=λF=>⟨(Jb.o F).1.le (bP (λj _ q=>⟨q,H1.o j λe=>q (.inr e)⟩) (Nat.le_of_eq H9.symm)),((Jb.o F).2.kept (cK _ u _) (λe=>by injection e with e;have e:a=u.heap.size:=e;omega) (λO e=>by injection e with e;have e:db=u.heap.size:=e;have:=(Hz.o (by rw [<- He.o.1];exact O)).2.2;omega)).kept (cK _ ⟨u,1,none⟩ _) (λe=>by injection e with e;have e:a=u.heap.size:=e;omega) (λO e=>by injection e with e;have e:db=u.heap.size:=e;have:=(Hz.o (by rw [<- He.o.1];exact O)).2.2;omega)⟩
      go_simp
      go_wp2_with fail
      refine r.o _ _ (Hh.o _ Jj.o) λhQ=>?_;clear r K;refine tk 13 ?_;refine Qn (by kernel_rfl) ?_ _
      go_wp2
      go_meet
      exact ⟨_,_,_,_,rfl,rfl,JT.o,HK,JN.o,Jj.o⟩
    ·have hS:=qI (HT.o.trans (Apart.alloc _ V (.cells #[.int .u64 0,.slice none 0 0] 123)));have JB:=qI (aU V (.cells #[.int .u64 0,.slice none 0 0] 123) rfl);have HY:V.heap.size<(V.alloc (.cells #[.int .u64 0,.slice none 0 0] 123)).heap.size:=by simp
     have HC:=HT.o.size;have JP:=qI (Jh.o.alloc (.cells #[.int .u64 0,.slice none 0 0] 123));go_simp
     go_wp2_with fail
     refine r.o _ _ (Hh.o _ hS.o) λhQ=>?_;clear r K;generalize V.alloc (.cells #[.int .u64 0,.slice none 0 0] 123)=W8 at *;refine rd 4 λK r=>?_;go_simp
     go_wp2_with fail
     refine (qk p _ x na x.ds.length nc W8 (Hr.o _ hS.o).2.1 HE.o.2.1.1 HE.o.2.1.2).mono ?_;rintro e W9 ⟨rfl,H7⟩;have HZ:=qI (hS.o.trans (Apart.of_below H7));have JV:=qI (JP.o.below H7);have JF:=qI ((H7.block _ HY).trans JB.o);have HF:=Q1 HY H7.size;clear H7
     go_wp2_with fail
     refine r.o _ _ (Hh.o _ HZ.o) λhQ=>?_;clear r K;refine rd 7 λK r=>?_;go_simp
     go_wp2_with fail
     refine (H0.o W9 _ (Hr.o _ HZ.o).1 ⟨JV.o,by rw [He.o.1];exact HS.o.nodes,He.o.2⟩ (Hr.o _ HZ.o).2.2).mono ?_;rintro e E ⟨⟨y,C,D,rfl,Hk⟩,Hn⟩;have Hi:=qI (HZ.o.trans (fp Hn (λj d _=>by injection d with d;exact d.symm)));have h5:=HZ.o.size;have Js:=HC;have Hj:=qI ((Hn.block _ HF (λe=>by injection e with e;omega)).trans JF.o);have H2:Hu (G.1=0->bA (av (λj=>j<X.heap.size\/j=V.heap.size) E) (.slice y C D) G.2.1.dv/\aJ E a db T Y f.ds G.2.2):=λF=>⟨(Hk F).1.le (bP (λj _ q=>⟨by have:=HF;omega,rfl⟩) (lR)),(Hk F).2⟩
     have Jp:=Q1 HF Hn.size;clear Hn Hk
     go_wp2_with fail
     refine r.o _ _ (Hh.o _ Hi.o) λhQ=>?_;clear r K;refine tk 8 ?_;refine tk 9 ?_;refine tk 10 ?_;refine rd 12 λK r=>?_;have Za:E.cell? V.heap.size=some (.int .u64 0):=aa Hj.o 0;have j6:E.cell? ⟨V,1,none⟩=some (.slice none 0 0):=aa Hj.o 1;have Ix:=bw Hj.o 0;have In:=bw Hj.o 1;have Jt:=HC;have Hw:Hu (∀ j,j≠V.heap.size->((E.setCell V (.int .u64 (G.2.1.cp:Nat))).setCell ⟨V,1,none⟩ (.slice y C D)).heap[j]?=E.heap[j]?):=λj d=>(set_other d).trans (set_other d)
     have Hy:((E.setCell V (.int .u64 (G.2.1.cp:Nat))).setCell ⟨V,1,none⟩ (.slice y C D)).heap.size=E.heap.size:=by simp
     have ha:Hu (Apart (λj=>j=a) X ((E.setCell V (.int .u64 (G.2.1.cp:Nat))).setCell ⟨V,1,none⟩ (.slice y C D))):=⟨Hi.o.os,Hi.o.tape,Hi.o.output,by rw [Hy];exact Hi.o.size,λj d q=>(Hw.o j (by omega)).trans (Hi.o.block j d q)⟩;have hH:=qI (aO (aO Hj.o 0 (.int .u64 (G.2.1.cp:Nat))) 1 (.slice y C D));have hV:Hu (G.1=0->bA (av (λj=>j<X.heap.size\/j=V.heap.size) ((E.setCell V (.int .u64 (G.2.1.cp:Nat))).setCell ⟨V,1,none⟩ (.slice y C D))) (.slice y C D) G.2.1.dv/\aJ ((E.setCell V (.int .u64 (G.2.1.cp:Nat))).setCell ⟨V,1,none⟩ (.slice y C D)) a db T Y f.ds G.2.2):=λF=>⟨(H2.o F).1.le (bP (λj _ q=>⟨q,Hw.o j λe=>q (.inr e)⟩) (Nat.le_of_eq Hy.symm)),((H2.o F).2.kept (cK _ V _) (λe=>by injection e with e;have e:a=V.heap.size:=e;omega) (λO e=>by injection e with e;have e:db=V.heap.size:=e;have:=(Hz.o (by rw [<- He.o.1];exact O)).2.2;omega)).kept (cK _ ⟨V,1,none⟩ _) (λe=>by injection e with e;have e:a=V.heap.size:=e;omega) (λO e=>by injection e with e;have e:db=V.heap.size:=e;have:=(Hz.o (by rw [<- He.o.1];exact O)).2.2;omega)⟩
     go_simp
     go_wp2_with fail
     refine r.o _ _ (Hh.o _ ha.o) λhQ=>?_;clear r K;refine tk 13 ?_;refine Qn (by kernel_rfl) ?_ _
     go_wp2
     go_meet
     exact ⟨_,_,_,_,rfl,rfl,hH.o,HC,hV.o,ha.o⟩
   case rest=>
    obtain ⟨Bp,ua,Z,uc,rfl,rfl,hZ,ja,Jq,Hc⟩:=hcut;have ht:=qI hZ;have Jv:=qI Jq;have hM:=qI Hc;have ji:=Hc.size;have jj:Bp<wc.heap.size:=(gS hZ).1;have Hp:=qI ((Hc.block (B+1) (by omega) (by omega)).trans ((Hb.o.block (B+1) (by omega)).trans hJ.o));have JC:Hu (w.grownBy wc (some a)):=⟨Hc.os.trans (Hb.o.os.trans Hl.o.os),Hc.tape.trans (Hb.o.tape.trans Hl.o.tape),Hc.output.trans (Hb.o.output.trans Hl.o.output),by have:=Hl.o.size;omega,λj d q=>(Hc.block j (by have:=Hl.o.size;omega) λe=>q (by rw [e])).trans ((Hb.o.block j (by have:=Hl.o.size;omega)).trans (Hl.o.block j d q))⟩;clear hZ Jq Hc H0 Hr Hh
    by_cases L:G.1=0
    ·have J4:=qI L;rw [L,show aL (((0:Nat)):Int)=.nilIface from rfl];rw [if_pos L] at HL;clear L;obtain ⟨Jr,Ja⟩:=Jv.o J4.o;have JW:=qI Jr;have JG:=qI Ja;clear Jr Ja Jv;generalize hgc:G.2.1.cp=gc at *;have hL:=qI hgc;clear hgc;have j2:=Jf.o;have s0:wc.cell? (B+1:Nat)=some (.int .u64 f.cp):=aa Hp.o 0;have sf:=bw Hp.o 0;have p0:wc.cell? ⟨Bp,0,none⟩=some (.int .u64 (gc:Nat)):=aa ht.o 0;have p1:wc.cell? ⟨Bp,1,none⟩=some (.slice ua Z uc):=aa ht.o 1;have jd:=kY f.cp gc He.o.2 j2;have HD:Bp≠B+1:=by omega
     have h9:=qI JA;have je:=qI (kh (A:=f.cp) gc He.o.2);have Hm:∀ b,(Value.slice va l.length vc).ownBlock=some b->U.heap.size<=b/\b<Bc:=λb H=>by rw [<- hBc];exact Ho.o.row.lt b H
     have hX:=qI (aO Hp.o 0 (.int .u64 (aD f.cp gc:Nat)));have hl:Hu (∀ j,j≠B+1->(wc.setCell (B+1:Nat) (.int .u64 (aD f.cp gc:Nat))).heap[j]?=wc.heap[j]?):=λj d=>set_other d
     have H8:(wc.setCell (B+1:Nat) (.int .u64 (aD f.cp gc:Nat))).heap.size=wc.heap.size:=by simp
     have hY:Hu (aJ (wc.setCell (B+1:Nat) (.int .u64 (aD f.cp gc:Nat))) a db T Y f.ds G.2.2):=JG.o.kept (cK _ (B+1:Nat) _) (λe=>by injection e with e;have e:a=B+1:=e;omega) (λO e=>by injection e with e;have e:db=B+1:=e;have:=(Hz.o (by rw [<- He.o.1];exact O)).2.2;omega);have hf:Hu ((wc.setCell (B+1:Nat) (.int .u64 (aD f.cp gc:Nat))).ownsRow U 123 2 (.slice va l.length vc) l.length (l.flatMap jy)):=rb Ho.o.row λg hg=>(hl.o g (by have:=(Hm g hg).1;omega)).trans ((hM.o.block g (by have:=(Hm g hg).2;omega) (by have:=(Hm g hg).1;omega)).trans (Hb.o.block g (Hm g hg).2));have hE:Hu (Apart (λj=>j=a\/j=B+1\/U.heap.size<=j) U (wc.setCell (B+1:Nat) (.int .u64 (aD f.cp gc:Nat)))):=((J8.o.trans (Apart.of_below (by rw [hBc];exact Hb.o))).trans (hM.o.wide λj h=>.inl h)).trans (Apart.setCell (K:=λj=>j=a\/j=B+1\/U.heap.size<=j) (.inr (.inl rfl)) _ _ _);clear Hp;have J7:=qI H8;have JI:=qI HD;generalize hw6:wc.setCell (B+1:Nat) (.int .u64 (aD f.cp gc:Nat))=N at *;have t0:N.cell? ⟨Bp,0,none⟩=some (.int .u64 (gc:Nat)):=aa ((hl.o Bp HD).trans ht.o) 0;have t1:N.cell? ⟨Bp,1,none⟩=some (.slice ua Z uc):=aa ((hl.o Bp HD).trans ht.o) 1;have hN:=Tc N (⟨gc,G.2.1.dv⟩,.slice ua Z uc) 123;dsimp only at hN;have HN:=qI hN;have Jy:U.heap.size<=(N.alloc (.cells #[.int .u64 (gc:Nat),.slice ua Z uc] 123)).heap.size:=by simp;omega
     clear hN H8
     go_wp2_with (at_builtin;refine wpList_append_lies _ rfl _ _ 99 rfl U 123 i0 (.agg #[.int .u64 0,.slice none 0 0]) 2 32 underlying99 hi JE Jz JO rfl (by decide) _ _ _ rfl (hf.o.alloc _) ⟨_,0,none⟩ 1 1 (jy (⟨gc,G.2.1.dv⟩,.slice ua Z uc)) rfl rfl HN.o (Tb _ _ _ _) (by decide) (by have:=h9.o;unfold maxLen;omega) (by have:=h9.o;omega) Jy (N.heap.size+1) (by simp) ?_;intro g' j1 W8 Hs Ha Jm Jw)
     have H8:=J7.o;have J2:(N.alloc (.cells #[.int .u64 (gc:Nat),.slice ua Z uc] 123)).heap.size=wc.heap.size+1:=by rw [World.size_alloc,H8]
     have jh:=Ha.size;have Hv:(Value.slice va l.length vc).ownBlock=some g'\/g'=wc.heap.size+1:=by rw [<- H8];exact Jm
     have Jk:Hu (∀ j,j<wc.heap.size->j≠B+1->(Value.slice va l.length vc).ownBlock≠some j->W8.heap[j]?=wc.heap[j]?):=λj d j5 j3=>(Ha.block j (by omega) λe=>j3 e.symm).trans ((Below.heap_alloc _ _ _ (by omega)).trans (hl.o j j5))
     have hO:Hu (Apart (λj=>j=a\/j=B+1\/U.heap.size<=j) U W8):=(hE.o.trans (Apart.alloc _ _ _)).trans (fp Ha λj d _=>.inr (.inr (Hm j d).1));have hC:Hu (aJ W8 a db T Y f.ds G.2.2):=(hY.o.alloc _).kept Ha (λe=>by have:=(Hm a e.symm).1;omega) (λO e=>by have:=(Hm db e.symm).1;have:=(Hz.o (by rw [<- He.o.1];exact O)).2.2;omega);have hU:Hu (W8.heap[B+1]?=some (.cells #[.int .u64 (aD f.cp gc:Nat),a] 87 (0,0))):=(Ha.block (B+1) (by omega) (λe=>by have:=(Hm (B+1) e.symm).1;omega)).trans ((Below.heap_alloc _ _ _ (by omega)).trans hX.o);have hA:G.2.1=⟨gc,G.2.1.dv⟩:=by rw [<- hL.o]
     have hc:Hu (xK W8 (.slice g' (l.length+1) j1) (l++[(G.2.1,Value.slice ua Z uc)]) U):=by
      refine ⟨?_,λz hz=>?_⟩
      ·rw [Q2,List.flatMap_append,hA]
       simpa using Hs
      ·rcases Qi.1 hz with hz|hz
       ·obtain ⟨z1,z2⟩:=Ho.o.in_ z hz;refine ⟨z1,z2.le (bP (λj d q=>?_) (by omega))⟩;have Ji:¬ j<U.heap.size:=λh=>q (.inl h)
        have h8:(Value.slice va l.length vc).ownBlock≠some j:=λh=>q (.inr h)
        refine ⟨λh=>?_,?_⟩
        ·rcases h with h|h
         ·exact Ji h
         ·have h:some g'=some j:=h;injection h with h
          rcases Hv with Hv|Hv
          ·exact h8 (by rw [Hv,h])
          ·omega
        ·exact (Jk.o j (by omega) (by omega) h8).trans ((hM.o.block j (by omega) (by omega)).trans (Hb.o.block j (by rw [<- hBc];exact d)))
       ·rw [Qm.1 hz];dsimp only;refine ⟨by rw [hA];exact j2,JW.o.le (bP (λj d q=>?_) (by omega))⟩;have Ji:¬ j<X.heap.size:=λh=>q (.inl h)
        refine ⟨λh=>?_,Jk.o j d (by omega) (λh=>by have:=(Hm j h).2;omega)⟩
        rcases h with h|h
        ·omega
        ·have h:some g'=some j:=h;injection h with h
         rcases Hv with Hv|Hv
         ·have:=(Hm g' Hv).2;omega
         ·omega
     clear Hs Ha Jm hA
     go_roundw
     case rel=>
      exact ⟨k+1,⟨aD f.cp gc,f.ds,G.2.2⟩,l++[(G.2.1,Value.slice ua Z uc)],by omega,by go_num,by rw [HL.o,Qj];rfl,by rw [Q2,JM.o];rfl,hc.o,hC.o,hU.o,hO.o⟩
     case measure=>simp [intOf];omega
    ·have jc:=qI L;rw [if_neg L] at HL;have H4:Hu ((aV m s p).1=G.1):=by
      unfold Hu aV;have e1:(bZ m s p.cs (k+1)).1=G.1:=by rw [HL.o]
      have:=S6 (m:=m) (s:=s) (cs:=p.cs) (k:=k+1) (by rw [e1];exact L) p.cs.length (by omega)
      rw [e1] at this;exact this
     have hI:=eV L;have J0:=qI hI;rw [hI];clear L hI;generalize G.1=g1 at *
     go_wp2
     go_ret2;exact ⟨⟨none,0,0,by rw [H4.o,J0.o];rfl,λh=>absurd (H4.o.symm.trans h) jc.o⟩,JC.o⟩
  ·have J9:k=p.cs.length:=by omega
   subst J9;have H4:Hu (aV m s p=(0,l.map Prod.fst)):=by
    unfold Hu aV;rw [Jc.o]
   have hw:Hu (cq (fresh w wr) (.slice va l.length vc) (l.map Prod.fst)):=Te Ho.o (by omega)
   go_wp2
   go_ret2;exact ⟨⟨va,l.length,vc,by rw [H4.o];rfl,λ_=>by rw [H4.o];exact hw.o⟩,Hl.o⟩
