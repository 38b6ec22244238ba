import Derived.Test.YtjlblidnfebmiaaGreatDoorY8
import Derived.Test.YtjlblidnfebmiaaGreatDoorY9
import Derived.Shelf.Spec.SlicesInsertGrow
set_option maxRecDepth 100000
set_option maxHeartbeats 16000000
open Go Go.RowKit Go.Shelf
attribute [local go_sem] Oper.semAt_some
open Go.Proofs.Tryz
namespace Go.Proofs.YtjlblidnfebmiaaGreatDoor
variable{M:Nat->Prop}{W W' w:World}{d:Bool}{j:Nat}{l:Int}{v:Value}
section
open RowKit Go.Maps
theorem aQ.notInt{B:Nat}{n k:Sd}(h:aQ w B n k v l d):∀(a:Array Value) (z:Nat × Nat),w.heap[B]?≠some (Obj.cells a 3 z):=λa z e=>by
 rw[show w.heap[B]?=_ from h] at e;cases e
theorem nJ{b c a n:Nat}{j:List RV}{o i:Sd}{k:Value}(h:fU w b c a)(m:bI w a n j)(hd:aQ w c o i k l d):b≠c/\b≠a/\c≠a:=by
 obtain⟨p,g,Ha⟩:=m.isMap;refine⟨λe=>?_,λe=>?_,λe=>?_⟩
 ·subst e;have f:=h;unfold fU at f;rw[show w.heap[b]?=_ from hd] at f;cases f
 ·grind[fU]
 ·grind[aQ]
structure Mf (w w':World) (Bd Bm:Nat) (sn sk:Sd) (sv:Value) (n:Nat) (xs:List RV) (x:RV) (l:Int) (d:Bool) (f:Nat):Prop where
 disk:aQ w' Bd sn sk sv (bn l d) (fE l d)
 o:bL Bd Bm w w'
 no:f≠0->bI w' Bm n xs
 yes:f=0->∃a c,bI w' Bm (n+1) ({ x with da:=a,dc:=c } :: xs)/\gA w' { x with da:=a,dc:=c }/\bj w' { x with da:=a,dc:=c }=bj w x
def mA (l:Int) (d has:Bool):Nat:=if cN l d≠0 then cN l d else if has=true then 5 else 0
theorem Cq(h:cN l d≠0):cN l d=11:=by
 grind[cN]
abbrev eK:=λ(x0:RV)=>(.cells #[x0.pod,x0.cont,.int .u64 x0.cpus,.slice x0.da x0.dn x0.dc] 129:Obj)
abbrev nK:=(.cells #[.string ⟨#[]⟩,.string ⟨#[]⟩,.int .u64 0,.slice none 0 0] 129:Obj)
theorem Cr{g j i n:Nat}{A t:Sd}{u:Value}{m:List RV}{x:RV}{l:Int}{d:Bool}{w:World}(B:fU w g j i)(C:bI w i n m)(hd:aQ w j A t u l d)(hl:-9223372036854775808<=l/\l<=9223372036854775807)(P:x.Short)(L:bB w x)(J:nB j x)(F:x.dn<=1000)(hn:n<1000) :
  Calls pg 102 #[.pointer (some ⟨g,0,none⟩),.agg #[x.pod,x.cont,.int .u64 x.cpus,.slice x.da x.dn x.dc]] w λe w'=>e=.returned (aD ((mA l d (m.any λy=>decide (y.pod=x.pod/\y.cont=x.cont)):Nat):Int))/\Mf w w' j i A t u n m x l d (mA l d (m.any λy=>decide (y.pod=x.pod/\y.cont=x.cont))):=by
 obtain⟨hf,hi,Y⟩:=nJ B C hd;have Hj:=(Q0 w w).alloc (lR) (eK x);have Hz:=B.block (Hj.block g B.lt);obtain⟨c0,c1⟩:=Hz.cells;have HS:=qI (C.block (Hj.block i C.lt));have W:aQ (w.alloc (eK x)) j A t u l d:=(Hj.block j hd.lt).trans hd;have T:=qI (sd W hl);have Z:=qI (cz.made w x);obtain⟨HV,R⟩:=L.below Hj λ_ _ _ h=>h;have H2:=qI HV;have HQ:=qI R;have H6:=qI Hj;have U:=qI Hz;have ho:=C.lt;have hr:=hd.lt;have hel:=B.lt;clear B C hd Hj Hz W HV R
 go_enter func102,ntmps102
 go_wp2
 generalize hW1:w.alloc (eK x)=W1 at *;have HF:W1=w.heap.size+1:=by rw[<- hW1];simp
 clear hW1;refine T.o.m λf ⟨H1,Hf⟩=>?_;have D:=qI H1;have H:=qI (bL.trans (bL.of_below H6) (bL.of_grown (B1:=j) (B2:=i) Hf.1 (.inl rfl)));have Hp:=qI (HS.o.block (Hf.1.block i (by omega) (by simpa using Y.symm)));have G:=U.o.block (Hf.1.block g (by omega) (by simpa using hf));have hp:=qI G;obtain⟨g0,g1⟩:=G.cells;have Hx:cz f w x:=(Hf.1.block w (by omega) (by intro e;cases e;omega)).trans Z;have hq:=qI Hx;obtain⟨Hn,Hk⟩:=xd (w':=f) H2 J (λb hb N=>Hf.1.block b N (by simpa using hb)) (Nat.le_of_eq Hf.2.symm);have hc:=qI Hn;have HC:=qI (Hk.trans HQ);have Hw:f=w.heap.size+1:=by rw[Hf.2];exact HF
 obtain⟨r0,r1,r2,r3⟩:=Hx.cells;clear H1 Hf G Hx T HS Z U c0 c1 Hn Hk H2 HQ
 by_cases z:cN l d=0
 ·have Hi:=qI (show mA l d (m.any λy=>decide (y.pod=x.pod/\y.cont=x.cont))=if (m.any λy=>decide (y.pod=x.pod/\y.cont=x.cont))=true then 5 else 0 from by grind[mA]);rw[z,show aD ((0:Nat):Int)=.nilIface from rfl];obtain⟨y,Ho⟩:=Hp.o.look2 x.pod x.cont P.1 P.2;unfold jG at Ho;have Hg:=(Q0 f f).alloc (lR) (.cells #[x.pod,x.cont] 179);have M:=Hg.alloc Hg.size (nK);have HY:=Hg.alloc Hg.size (eK y);have Hr:=Ho ((f.alloc (.cells #[x.pod,x.cont] 179)).drew) ((bO Hg).block i (by omega));have Hs:=Ho (((f.alloc (.cells #[x.pod,x.cont] 179)).alloc (nK)).drew) ((bO M).block i (by omega));have k1:=((bO Hg).cell (p:=⟨g,1,none⟩) (by show g<_;omega)).trans g1;have k2:=((bO M).cell (p:=⟨g,1,none⟩) (by show g<_;omega)).trans g1;have Ht:=qI (bO HY);have O:=qI (show (((f.alloc (.cells #[x.pod,x.cont] 179)).alloc (nK)).drew).cell? f=some (.string x.pod)/\(((f.alloc (.cells #[x.pod,x.cont] 179)).alloc (nK)).drew).cell? ⟨f,1,none⟩=some (.string x.cont) from⟨by simp,by simp⟩);have I:=qI (show (((f.alloc (.cells #[x.pod,x.cont] 179)).alloc (eK y)).drew).cell? f=some (.string x.pod)/\(((f.alloc (.cells #[x.pod,x.cont] 179)).alloc (eK y)).drew).cell? ⟨f,1,none⟩=some (.string x.cont) from⟨by simp,by simp⟩);rw[Hw] at O I;obtain⟨n0,n1⟩:=O.o;clear Hg M HY Ho;unfold RV.val at Hr Hs
  rcases two (m.any λy=>decide (y.pod=x.pod/\y.cont=x.cont)) with q|q
  ·rw[q] at Hr Hs;have s:=qI q;clear q
   go_wp2
   go_region
   all_goals
    generalize ((f.alloc (.cells #[x.pod,x.cont] 179)).alloc (eK y)).drew=E at *
    go_wp2
    go_ret;exact⟨by rw[Hi.o,if_pos s.o];rfl,⟨(Ht.o.block j (by omega)).trans D,H.o.trans (bL.of_below Ht),λ_=>Hp.o.block (Ht.o.block i (by omega)),λo=>by rw[Hi.o,if_pos s.o] at o;cases o⟩⟩
  ·rw[q] at Hr Hs;have s:=qI q;clear q
   go_wp2
   go_region
   all_goals
    have Hh:=bO Ht;have He:=qI (show (((f.alloc (.cells #[x.pod,x.cont] 179)).alloc (eK y)).drew.drew.cell? ⟨g,1,none⟩=some (.map i)/\(((f.alloc (.cells #[x.pod,x.cont] 179)).alloc (eK y)).drew.drew.cell? (w.heap.size+1:Nat)=some (.string x.pod)/\((f.alloc (.cells #[x.pod,x.cont] 179)).alloc (eK y)).drew.drew.cell? ⟨w.heap.size+1,1,none⟩=some (.string x.cont))/\(((f.alloc (.cells #[x.pod,x.cont] 179)).alloc (eK y)).drew.drew.cell? w=some (.string x.pod)/\((f.alloc (.cells #[x.pod,x.cont] 179)).alloc (eK y)).drew.drew.cell? ⟨w,1,none⟩=some (.string x.cont)/\((f.alloc (.cells #[x.pod,x.cont] 179)).alloc (eK y)).drew.drew.cell? ⟨w,2,none⟩=some (.int .u64 x.cpus)/\((f.alloc (.cells #[x.pod,x.cont] 179)).alloc (eK y)).drew.drew.cell? ⟨w,3,none⟩=some (.slice x.da x.dn x.dc))) from⟨(Hh.cell (p:=⟨g,1,none⟩) (by show g<_;omega)).trans g1,I,⟨(Hh.cell (p:=w.heap.size) (by grind)).trans r0,(Hh.cell (p:=⟨w,1,none⟩) (by grind)).trans r1,(Hh.cell (p:=⟨w,2,none⟩) (by grind)).trans r2,(Hh.cell (p:=⟨w,3,none⟩) (by grind)).trans r3⟩⟩);have Hq:=qI Hh;have Hy:w.heap.size+1+1<=((f.alloc (.cells #[x.pod,x.cont] 179)).alloc (eK y)).drew.heap.size:=by simp_all
    clear Hh Hr Hs k1 k2 n0 n1 O I;generalize ((f.alloc (.cells #[x.pod,x.cont] 179)).alloc (eK y)).drew=E at *;have Hm:w+1+1<=E.drew.heap.size:=Hy;obtain⟨HT,Hl⟩:=hc.o.below Hq λ_ _ _ h=>h;have Hv:=qI (Hl.trans HC);have ha:=qI (BP HT F);have H8:=qI (Hp.o.block (Hq.o.block i (by omega)));clear HT Hl
    go_wp2
    refine wp_region_held_drew (S:=(λw'=>w'.cell? ⟨g,1,none⟩=some (.map i)/\(w'.cell? (w.heap.size+1:Nat)=some (.string x.pod)/\w'.cell? ⟨w.heap.size+1,1,none⟩=some (.string x.cont))/\(w'.cell? w=some (.string x.pod)/\w'.cell? ⟨w,1,none⟩=some (.string x.cont)/\w'.cell? ⟨w,2,none⟩=some (.int .u64 x.cpus)/\w'.cell? ⟨w,3,none⟩=some (.slice x.da x.dn x.dc)))) (by kernel_rfl) He λhHeld=>?_;refine tk 0 ?_;refine tk 1 ?_;refine tk 2 ?_;refine tk 3 ?_;refine tk 4 ?_;refine tk 5 ?_;refine rd 6 λK v=>?_;go_simp
    go_wp2
    refine ha.o.mono ?_;rintro e r ⟨a',X,rfl,HZ,V,_,Hb⟩;have Hc:=qI (show (r.cell? ⟨g,1,none⟩=some (.map i)/\(r.cell? (w.heap.size+1:Nat)=some (.string x.pod)/\r.cell? ⟨w.heap.size+1,1,none⟩=some (.string x.cont))/\(r.cell? w=some (.string x.pod)/\r.cell? ⟨w,1,none⟩=some (.string x.cont)/\r.cell? ⟨w,2,none⟩=some (.int .u64 x.cpus)/\r.cell? ⟨w,3,none⟩=some (.slice x.da x.dn x.dc))) from⟨(Hb.cell (p:=⟨g,1,none⟩) (by show g<_;omega)).trans He.o.1,⟨(Hb.cell (p:=⟨w.heap.size+1,0,none⟩) (by grind)).trans He.o.2.1.1,(Hb.cell (p:=⟨w.heap.size+1,1,none⟩) (by grind)).trans He.o.2.1.2⟩,⟨(Hb.cell (p:=w.heap.size) (by grind)).trans He.o.2.2.1,(Hb.cell (p:=⟨w,1,none⟩) (by grind)).trans He.o.2.2.2.1,(Hb.cell (p:=⟨w,2,none⟩) (by grind)).trans He.o.2.2.2.2.1,(Hb.cell (p:=⟨w,3,none⟩) (by grind)).trans He.o.2.2.2.2.2⟩⟩);have HP:=qI (H8.o.block (Hb.block i (by omega)));have H4:=qI HZ;have H9:=qI (V.trans Hv);have HU:=Hq.t Hb;have hg:=Q5 Hm Hb.size;clear HZ V Hb
    go_wp2
    refine v.k Hc λhHeld=>?_;refine rd 7 λK v=>?_;rw[if_pos (by rfl)];refine Lc rfl { x with da:=a',dc:=X } rfl rfl rfl HP P hn s ?_;intro k HM Ha hk;have H3:=qI (show (k.cell? ⟨g,1,none⟩=some (.map i)/\(k.cell? (w.heap.size+1:Nat)=some (.string x.pod)/\k.cell? ⟨w.heap.size+1,1,none⟩=some (.string x.cont))/\(k.cell? w=some (.string x.pod)/\k.cell? ⟨w,1,none⟩=some (.string x.cont)/\k.cell? ⟨w,2,none⟩=some (.int .u64 x.cpus)/\k.cell? ⟨w,3,none⟩=some (.slice x.da x.dn x.dc))) from⟨(o9 Ha ⟨g,1,none⟩ (by show g<_;omega) (by simpa using hi)).trans Hc.o.1,⟨(o9 Ha (w.heap.size+1:Nat) (by grind) (λe=>by grind)).trans Hc.o.2.1.1,(o9 Ha ⟨w.heap.size+1,1,none⟩ (by grind) (λe=>by grind)).trans Hc.o.2.1.2⟩,⟨(o9 Ha w (by grind) (λe=>by grind)).trans Hc.o.2.2.1,(o9 Ha ⟨w,1,none⟩ (by grind) (λe=>by grind)).trans Hc.o.2.2.2.1,(o9 Ha ⟨w,2,none⟩ (by grind) (λe=>by grind)).trans Hc.o.2.2.2.2.1,(o9 Ha ⟨w,3,none⟩ (by grind) (λe=>by grind)).trans Hc.o.2.2.2.2.2⟩⟩);obtain⟨HO,Q⟩:=H4.o.kept (dY.grown Ha HP.o.notInt);have Hu:=qI (show ∃a c,bI k i (n+1) ({ x with da:=a,dc:=c } :: m)/\gA k { x with da:=a,dc:=c }/\bj k { x with da:=a,dc:=c }=bj w x from⟨a',X,HM,HO,Q.trans H9⟩);have H7:=qI (show aQ k j A t u (bn l d) (fE l d) from (Ha.block j (by omega) λe=>Y (Ql e)).trans ((HU.o.block j (by omega)).trans D));have hj:=qI ((H.o.trans (bL.of_below HU)).trans (bL.of_grown Ha (.inr rfl)));clear HM Ha HO Q;refine v.k H3 λhHeld=>?_;refine Qn (by kernel_rfl) ?_ _
    go_wp2
    go_ret;exact⟨by rw[Hi.o,if_neg (by rw[s.o];decide)];rfl,⟨H7,hj,λo=>absurd (by rw[Hi.o,if_neg (by rw[s.o];decide)]) o,λ_=>Hu.o⟩⟩
 ·have H5:=Cq z;have Hi:=qI (show mA l d (m.any λy=>decide (y.pod=x.pod/\y.cont=x.cont))=11 from by grind[mA]);rw[H5,show aD ((11:Nat):Int)=.iface 108 (11:Int) from rfl]
  go_wp2
  go_ret;exact⟨by rw[Hi.o];rfl,⟨D,H,λ_=>Hp.o,λo=>by rw[Hi.o] at o;cases o⟩⟩
end
structure aR (W W':World):Prop where
 size:W<=W'.heap.size
 cell:∀(b o:Nat) (v:Value),W.cell? ⟨b,o,none⟩=some v->W'.cell? ⟨b,o,none⟩=some v
theorem aR.refl(W:World):aR W W:=⟨lR,λ_ _ _ h=>h⟩
theorem aR.trans{A B C:World}(h:aR A B)(k:aR B C):aR A C:=⟨Q5 h.size k.size,λb o v e=>k.cell b o v (h.cell b o v e)⟩
theorem aR.of_below(h:Bw W W'):aR W W':=
 ⟨h.size,λb o _ e=>(h.cell (p:=⟨b,o,none⟩) (Q3 W ⟨b,o,none⟩ e)).trans e⟩
theorem bK.le{e:List Int}(h:bK W v e)(l:aR W W'):bK W' v e:=by
 obtain⟨i,c,f,g,n⟩:=h;refine⟨i,c,f,g,λj=>?_⟩;obtain⟨b,o,m,d,a⟩:=n j;exact⟨b,o,m,Q1 d l.size,λk p=>l.cell _ _ _ (a k p)⟩
theorem bC.le{ds:List ak}(h:bC W v ds)(l:aR W W'):bC W' v ds:=by
 obtain⟨i,c,f,g,n⟩:=h;refine⟨i,c,f,g,λj=>?_⟩;obtain⟨b,o,m,d,a⟩:=n j;exact⟨b,o,m,Q1 d l.size,λk e=>⟨l.cell _ _ _ (a k e).1,l.cell _ _ _ (a k e).2⟩⟩
theorem ba.le{cs:List aF}(h:ba W v cs)(l:aR W W'):ba W' v cs:=by
 obtain⟨m,c,i,f,p⟩:=h;refine⟨m,c,i,f,λg=>?_⟩;obtain⟨b,o,dv,n,Hb,Ha⟩:=p g;refine⟨b,o,dv,n,Q1 Hb l.size,λk a=>⟨λj e=>?_,(Ha k a).2.le l⟩⟩;have d:j<(eu (af cs k) (dv k)).length:=e;rw[Qf d];exact l.cell _ _ _ (((Ha k a).1 j e).trans (Qf d))
theorem ce.le{gs:List aX}(h:ce W v gs)(l:aR W W'):ce W' v gs:=by
 obtain⟨f,c,d,e,j⟩:=h;refine⟨f,c,d,e,λg=>?_⟩;obtain⟨b,o,dv,i,Hb,Ha⟩:=j g;exact⟨b,o,dv,i,Q1 Hb l.size,λk a=>⟨⟨l.cell _ _ _ (Ha k a).1.1,l.cell _ _ _ (Ha k a).1.2.1,(Ha k a).1.2.2⟩,(Ha k a).2.le l⟩⟩
theorem bf.le{hs:List ae}(h:bf W v hs)(l:aR W W'):bf W' v hs:=by
 obtain⟨g,c,e,f,m⟩:=h;refine⟨g,c,e,f,λi=>?_⟩;obtain⟨b,o,cv,d,j,Hb,Ha⟩:=m i;exact⟨b,o,cv,d,j,Q1 Hb l.size,λk a=>⟨⟨l.cell _ _ _ (Ha k a).1.1,l.cell _ _ _ (Ha k a).1.2.1,l.cell _ _ _ (Ha k a).1.2.2.1,l.cell _ _ _ (Ha k a).1.2.2.2⟩,(Ha k a).2.1.le l,(Ha k a).2.2.le l⟩⟩
open Classical in
noncomputable def av (M:Nat->Prop) (W:World):World:={ W with heap:=W.heap.mapIdx λj o=>if M j then .cells #[] 0 (0,0) else o }
theorem cC(M:Nat->Prop)(W:World):(av M W).heap.size=W.heap.size:=by simp[av]
theorem Mg(h:M j)(a:j<W):(av M W).heap[j]?=some (.cells #[] 0 (0,0)):=by
 grind[av]
theorem cH(h:¬ M j):(av M W).heap[j]?=W.heap[j]?:=by
 simp_all[av]
theorem eB{b o:Nat}(h:(av M W).cell? ⟨b,o,none⟩=some v):¬ M b:=λc=>by
 have d:=Q3 _ ⟨b,o,none⟩ h;have a:b<W:=by grind[cC]
 simp[World.cell?,Mg c a] at h
theorem po{M':Nat->Prop}(h:Apart M W W')(f:∀j,j<W.heap.size->M' j->M j):aR (av M W) (av M' W'):=by
 refine⟨by rw[cC,cC];exact h.size,λb o v e=>?_⟩;have c:=eB e;have d:b<W.heap.size:=by have:=Q3 _ ⟨b,o,none⟩ e;rw[cC] at this;exact this
 have g:(av M' W').heap[b]?=(av M W).heap[b]?:=by
  rw[cH λk=>c (f b d k),cH c];exact h.block b d c
 exact (World.cell?_of_block (a:=⟨b,o,none⟩) g).trans e
theorem df{M:Nat->Prop}{W:World}:aR (av M W) W:=by
 refine⟨by simp[cC],λb o v e=>?_⟩;exact (World.cell?_of_block (a:=⟨b,o,none⟩) (cH (eB e)).symm).trans e
theorem sw{N:Nat}(h:Below N w W)(f:w=N)(d:∀j,M j->N<=j):aR w (av M W):=by
 refine⟨by rw[cC];exact h.size,λb o v e=>?_⟩;have c:b<N:=by rw[<- f];exact Q3 w ⟨b,o,none⟩ e
 have g:(av M W).heap[b]?=w.heap[b]?:=by
  rw[cH (λk=>by have:=d b k;omega)];exact h.block b c
 exact (World.cell?_of_block (a:=⟨b,o,none⟩) g).trans e
theorem Cs{V Bd n I:Nat}{s:List RV}{w:World}(he:fU w V Bd n)(F:bI w n I s)(W:s.length<=1000)(hd:∀x∈s,bB w x/\x.dn<=1000) :
  Calls pg 45 #[.pointer (some ⟨V,0,none⟩)] w λe w'=>(∃v f,e=.returned v/\mo w w' v f/\(∀y∈f,(bB w' y/\y.dn<=1000)/\lA w y)/\(f.map (aN w')).Perm (s.map (aN w))/\o7 f)/\Bw w w':=by
 obtain⟨_,c1⟩:=he.cells;have Ho:=(Q0 w w).alloc (lR) (.cells #[.map n] 149);have Hn:=qI Ho;have H:=qI (KS (h:=w.heap.size) (b:=n) (n:=I) (g:=s) (w:=w.alloc (.cells #[.map n] 149)) (by simp) (F.block (Ho.block n F.lt)) W);have P:=qI hd;have H5:(w.alloc (.cells #[.map n] 149)).heap.size=w.heap.size+1:=by simp
 clear F he hd Ho
 go_enter func45,ntmps45
 go_wp2
 refine (JI _ _).mono ?_;rintro e w1 ⟨rfl,rfl⟩
 go_wp2
 generalize w.alloc (.cells #[.map n] 149)=W1 at *;refine H.o.mono ?_;rintro e Y ⟨⟨v,d,rfl,hq,Hi,N⟩,X⟩;have H1:=Hn.t X;have H6:d.length<=1000:=by rw[Hi.length_eq];exact W
 have HV:=qI (show ∀j,j<d.length->bB w (rv d j)/\(rv d j).dn<=1000 from λj o=>P.o _ (Hi.mem_iff.1 (o8 o)));have HP:=qI (Hi.map (aN w));have HQ:=qI N;obtain⟨a,c,rfl,H7,hr⟩:=hq;obtain⟨g,K,He⟩:∃g,(0<d.length->a=some ⟨g,0,none⟩/\w.heap.size<g/\g<Y.heap.size)/\jQ Y g d:=by
  by_cases q:0<d.length
  ·obtain⟨g,ha,HZ,Hf,hc⟩:=hr q;exact⟨g,λ_=>⟨ha,by omega,Hf⟩,hc⟩
  ·exact⟨0,λh=>absurd h q,λk hk=>by omega⟩
 have D:=qI K;have Hh:=qI He;clear K He hr Hi N X H Hn P c1
 go_wp2
 go_loopw [14] (λi wr=>∃(k:Nat) (f:List RV),k<=d.length/\i=.int .i64 k/\f.length=d.length/\Bw w wr/\jQ wr g f/\(0<d.length->g<wr.heap.size)/\Hu (∀j,j<k->bB wr (rv f j)/\aN wr (rv f j)=aN w (rv d j)/\(rv f j).dn<=1000/\nB g (rv f j)/\lA w (rv f j))/\Hu (∀j,k<=j->j<d.length->rv f j=rv d j)) (λi _=>d.length - (intOf i).toNat)
 exact⟨0,d,by omega,rfl,rfl,H1,Hh,λh=>(D.o h).2.2,λj o=>by omega,λj _ _=>rfl⟩
 ·obtain⟨k,f,hk,rfl,Hj,r,B,Hl,Ha,Hb⟩:=hrel
  by_cases C:k<d.length
  ·obtain⟨rfl,HZ,_⟩:=D.o (by omega);have Q:=Hl (by omega);have u:=qI r;have G:=qI B;have Hc:=B k (by omega);rw[Hb.o k (lR) C] at Hc;obtain⟨⟨c0,c1,c2,c3⟩,f0,f1,f2,f3⟩:=Hc;obtain⟨Hx,T⟩:=HV.o k C;obtain⟨Hw,J⟩:=Hx.below (r.alloc r.size (.cells #[(rv d k).pod,(rv d k).cont,.int .u64 (rv d k).cpus,.slice (rv d k).da (rv d k).dn (rv d k).dc] 129)) λ_ _ _ h=>h;have Z:=qI (BP (x:=rv d k) Hw T);have HN:=qI J;clear r B Hl Hw J Hx;generalize hx:rv d k=x at *;have HX:=qI hx;clear hx
   go_wp2
   refine Z.o.mono ?_;rintro e p ⟨m,l,rfl,M,R,Ht,L⟩;have Hz:=(Q0 wr wr).alloc (lR) (eK x);have Hg:=Hz.trans (L.mono (by simp));have H4:=qI Hg;have HS:=u.t Hg;have Hr:=G.o.block (Hg.block g Q);have HT:=qI Hr;have HO:=qI M.1;have Hv:=qI (R.trans HN);have HU:=qI (show lA w { x with da:=m,dc:=l } from λq=>by
    obtain⟨O,Hf,Hk⟩:=Ht q;refine⟨O,Hf,?_⟩
    simp at Hk
    have:=u.o.size
    omega)
   have Hy:=qI (show nB g { x with da:=m,dc:=l } from λq g' o' e=>by
    obtain⟨O,Hf,Hk⟩:=Ht q;rw[Hf] at e;cases e
    simp at Hk
    omega)
   have Hk:=Q1 Q Hg.size;obtain⟨⟨d0,d1,d2,d3⟩,e0,e1,e2,e3⟩:=Hr k (by omega);clear M R Ht L Hz Hg Hr Z HN G c0 c1 c2 c3 f0 f1 f2 f3;generalize rv f k=z at *
   go_wp2
   have H0:=qI (HT.o.set (k:=k) (by omega) { x with da:=m,dc:=l });have HW:=qI (K1 HS (g:=g) (by omega) (k*4) { x with da:=m,dc:=l });have S:=qI λb (t:b≠g)=>K2 p g (k*4) { x with da:=m,dc:=l } b t;have H2:(fD p g (k*4) { x with da:=m,dc:=l }).heap.size=p.heap.size:=by simp[fD]
   have Hq:=qI (show ∀j,j<k+1->bB (fD p g (k*4) { x with da:=m,dc:=l }) (rv (f.set k { x with da:=m,dc:=l }) j)/\aN (fD p g (k*4) { x with da:=m,dc:=l }) (rv (f.set k { x with da:=m,dc:=l }) j)=aN w (rv d j)/\(rv (f.set k { x with da:=m,dc:=l }) j).dn<=1000/\nB g (rv (f.set k { x with da:=m,dc:=l }) j)/\lA w (rv (f.set k { x with da:=m,dc:=l }) j) from λj o=>by
    rw[wZ f k j _ (by omega)]
    by_cases e:j=k
    ·rw[if_pos e];obtain⟨E,A⟩:=xd (w':=fD p g (k*4) { x with da:=m,dc:=l }) HO Hy (λb t _=>S.o b t) (by omega);refine⟨E,?_,T,Hy,HU⟩;subst e;rw[HX.o];unfold aN;rw[A,Hv.o]
    ·rw[if_neg e];obtain⟨E,A,h3,U,h9⟩:=Ha.o j (by omega);obtain⟨h5,h6⟩:=E.below H4 λ_ _ _ h=>h;obtain⟨h7,h8⟩:=xd (w':=fD p g (k*4) { x with da:=m,dc:=l }) h5 U (λb t _=>S.o b t) (by omega);refine⟨h7,?_,h3,U,h9⟩;rw[<- A];unfold aN;rw[h8,h6])
   have Hm:=qI (show ∀j,k+1<=j->j<d.length->rv (f.set k { x with da:=m,dc:=l }) j=rv d j from λj E A=>by
    rw[wZ f k j _ (by omega),if_neg (by omega)];exact Hb.o j (by omega) A)
   exact⟨⟨k+1,f.set k { x with da:=m,dc:=l },by omega,by go_num,by simp[Hj],HW,H0,λ_=>by simp_all,Hq,Hm⟩,by simp[intOf];omega⟩
  ·have H3:k=d.length:=by omega
   subst H3;have u:=qI r;have Hp:=qI (K7 Hj λj o=>(Ha.o j o).2.1);have Hs:=qI (K6 Hj (λj o=>by
    have:=(Ha.o j o).2.1
    unfold aN at this;simp only[Rn.mk.injEq] at this;exact⟨this.1,this.2.1⟩) HQ)
   have Hv:=qI (show ∀y∈f,(bB wr y/\y.dn<=1000)/\lA w y from λy hy=>by
    obtain⟨i,hi,rfl⟩:=List.getElem_of_mem hy
    have:=Ha.o i (by omega)
    simp[rv,hi] at this
    exact⟨⟨this.1,this.2.2.1⟩,this.2.2.2.2⟩)
   have HY:=qI (show mo w wr (.slice a d.length c) f from⟨a,c,by rw[Hj],by omega,λq=>⟨g,(D.o (by omega)).1,by have:=(D.o (by omega)).2.1;omega,Hl (by omega),B⟩⟩);clear r B Hl Ha Hb
   go_wp2
   go_ret;exact⟨⟨_,f,rfl,HY,Hv,by rw[Hp.o];exact HP.o,Hs⟩,u⟩
theorem Mh(v y:Option Addr)(H L:Nat)(a c:List Int)(w:World)(A:a.length<=1000)(F:c.length<=1000)(g:0<a.length->∃b o,v=some ⟨b,o,none⟩/\b<w.heap.size/\∀k,k<a.length->w.cell? ⟨b,o+k,none⟩=some (.int .i64 (a.getD k 0)))(h:0<c.length->∃b o,y=some ⟨b,o,none⟩/\b<w.heap.size/\∀k,k<c.length->w.cell? ⟨b,o+k,none⟩=some (.int .i64 (c.getD k 0))):Calls pg 146 #[.slice v a.length H,.slice y c.length L] w λe w'=>e=.returned (.bool (decide (a=c)))/\∃n,w'=w.drewN n:=by
 by_cases d:a.length=c.length
 ·have Hg:((a.length:Int) != (c.length:Int))=false:=by rw[d];simp
  have z:=qI g;have D:=qI h;have Hc:=qI d;clear g h d
  go_enter func146,ntmps146
  go_wp2
  go_loopw [13] (λi wr=>∃k n:Nat,k<=a.length/\i=.int .i64 k/\wr=w.drewN n/\Hu (∀j,j<k->a.getD j 0=c.getD j 0)) (λi _=>a.length - (intOf i).toNat)
  exact⟨0,0,by omega,rfl,rfl,λj K=>by omega⟩
  ·obtain⟨k,n,O,rfl,rfl,Ha⟩:=hrel
   by_cases t:k<a.length
   ·have Hb:k<c.length:=by grind
    obtain⟨b1,M,rfl,Hi,Hf⟩:=z.o (by omega);obtain⟨b2,N,rfl,Hl,He⟩:=D.o (by omega);have B:=Hf k t;have G:=He k Hb;have Hk:(k:Int)<(a.length:Int):=by omega
    have Hj:(k:Int)<(c.length:Int):=by omega
    clear Hf He;obtain⟨p,r⟩:∃p,p=a.getD k 0:=⟨_,rfl⟩;obtain⟨q,m⟩:∃q,q=c.getD k 0:=⟨_,rfl⟩;rw[<- r] at B;rw[<- m] at G;have x:=qI r;have u:=qI m;clear r m
    by_cases f:p=q
    ·have C:=qI f;have E:(p != q)=false:=by rw[f];simp
     clear f
     go_wp2
     go_quiet (fail)
     go_wp2
     go_roundw
     case rel=>
      refine⟨k+1,n+nq,by omega,by go_num,rfl,λj K=>?_⟩
      by_cases s:j=k
      ·subst s;rw[<- x.o,<- u.o];exact C.o
      ·exact Ha.o j (by omega)
     case measure=>simp[intOf];omega
    ·have E:(p != q)=true:=by simp[f]
     have l:Hu (decide (a=c)=false):=Q7 λe=>f (by rw[x.o,u.o,e])
     clear f
     go_wp2
     go_quiet (fail)
     go_wp2
     go_ret;exact⟨by rw[l.o];rfl,n+nq,by rw[World.drewN_drewN]⟩
   ·have Hh:k=a.length:=by omega
    have l:Hu (decide (a=c)=true):=Qc (List.ext_getElem Hc λi I J=>by
     have:=Ha.o i (by omega)
     simpa[I,J] using this)
    go_wp2
    go_ret;exact⟨by rw[l.o];rfl,n,rfl⟩
 ·have Hg:((a.length:Int) != (c.length:Int))=true:=by simp;omega
  have l:Hu (decide (a=c)=false):=Q7 λe=>d (by rw[e])
  go_enter func146,ntmps146
  go_wp2
  go_ret;exact⟨by rw[l.o];rfl,0,rfl⟩
section
open RowKit Shelf Go.Lib
theorem Mi:(prog.info? 101).map (λi=>(i.zero,i.size,i.bytes))=some (some (.agg #[ByteArray.empty,(0:Int),(),()]),4,72):=by kernel_rfl
theorem Mj:(prog.info? 101).map (·.size)=some 4:=by kernel_rfl
theorem uG(w:World)(k:TypeId){b:Nat}(o:Nat){c:Nat}(e:Nat)(a:Addr){d:Nat}(g:Nat)(cs:List Value)(n:cs.length=Nat.min d c*4)
  (f:∀j v,cs[j]?=some v->w.cell? (a.add j)=some v) (l:∀j,j<cs.length->(w.cell? ⟨b,o+j,none⟩).isSome=true) (hf:∀j,j<cs.length->w.frozen? ⟨b,o+j,none⟩=false) (m:∀v∈cs,v.oneCell'=true) :
  (Builtin.copy_ #[43,43] k #[.slice (some ⟨b,o,none⟩) c e,.slice (some a) d g]).run prog w=.ok (goInt (Nat.min d c)) (w.setCells b o cs):=by
 have h:=run_loadCells_list (P:=prog) w a cs f;have Ha:=run_storeCells_cells (P:=prog) b o cs 0 w (by simpa using l) (by simpa using hf) m;have hs:=Mj;cases hq:prog.info? 101 with
 | none=>rw[hq] at hs;cases hs
 | some i=>
  have hi:i.size=4:=by grind
  rw[n] at h
  simp[Builtin.copy_,run_underlying underlying43,Builtin.lenOf,Builtin.firstCells,sizeOf,typeInfo,hq,hi,h,Ha]
theorem Mk{b:Nat}(n c i:Nat){d:Nat}(a vc:Nat)(cs vs:List Value)(w:World)(hi:i<n)(B:n+1<=c)(G:c<=9223372036854775807)(u:d≠b)
  (s:cs.length=n*4) (N:vs.length=4)
  (r:∀j v,cs[j]?=some v->w.cell? ⟨b,j,none⟩=some v) (f:∀j,j<(n+1)*4->(w.cell? ⟨b,j,none⟩).isSome=true) (C:∀j,w.frozen? ⟨b,j,none⟩=false)
  (o:∀j v,vs[j]?=some v->w.cell? ⟨d,a+j,none⟩=some v) (F:∀v∈cs,v.oneCell'=true) (z:∀v∈vs,v.oneCell'=true)
  (I H:TypeId) (E A:Nat) (p:w.shape? d=some (I,E)) (y:w.shape? b=some (H,A)) (q:A≠0) (D:w.frozen? ⟨d,a,none⟩=false) (m:w.frozen? ⟨d,E,none⟩=false) :
  Calls pg 54 #[.slice b n c,.int .i64 i,.slice (some ⟨d,a,none⟩) 1 vc] w λe w'=>
   e=.returned (.slice b (n+1) c)/\w'=(w.drew.setCells b ((i+1)*4) (cs.drop (i*4))).setCells b (i*4) vs:=by
 have Hp:¬ ((i:Int)=(n:Int)):=by omega
 have Hg:∀lb cb,(callFunc 93 #[.slice (some ⟨d,a,none⟩) 1 vc,.slice (some ⟨b,(i+1)*4,none⟩) lb cb]).run prog w=.ok (.value false) w:=λlb cb=>by
  rw[run_callFunc_extern func93 (by kernel_rfl) (by kernel_rfl) (by kernel_rfl) (e:=Extern.SlicesOverlaps.overlaps #[43,43] #[4]) (by kernel_rfl),
   Lib.run_overlaps_apart w 43 4 101 underlying43 4 sizeOf101 ⟨d,a,none⟩ ⟨b,(i+1)*4,none⟩ 1 vc lb cb u I H E A p y q D m]
  rfl
 have Hf:(cs.drop (i*4)).length=(n - i)*4:=by grind
 have Ha:∀g dc t,(Builtin.copy_ #[43,43] g #[.slice (some ⟨b,(i+1)*4,none⟩) (n - i) dc,.slice (some ⟨b,i*4,none⟩) (n+1 - i) t]).run prog w.drew=.ok (goInt (Nat.min (n+1 - i) (n - i))) (w.drew.setCells b ((i+1)*4) (cs.drop (i*4))):=λg dc t=>
  uG w.drew g ((i+1)*4) dc ⟨b,i*4,none⟩ t (cs.drop (i*4)) (by grind)
   (λj v h=>by simp_all[Addr.add_lit])
   (λj h=>f _ (by omega)) (λj h=>C _) λv K=>F v (List.mem_of_mem_drop K)
 obtain⟨l,He⟩:∃l,l=w.drew.setCells b ((i+1)*4) (cs.drop (i*4)):=⟨_,rfl⟩;have Hc:∀k,k<(n+1)*4->(l.cell? ⟨b,k,none⟩).isSome=true:=λk M=>by
  rw[He];exact isSome_setCells b (cs.drop (i*4)) ((i+1)*4) w.drew (λj h=>f _ (by rw[Hf] at h;omega)) k (f k M)
 have Hb:∀(W:World),(∀x,W.cell? x=l.cell? x)->(∀x,W.frozen? x=l.frozen? x)->∀g dc,(Builtin.copy_ #[43,43] g #[.slice (some ⟨b,i*4,none⟩) (n+1 - i) dc,.slice (some ⟨d,a,none⟩) 1 vc]).run prog W=.ok (goInt (Nat.min 1 (n+1 - i))) (W.setCells b (i*4) vs):=λW L J g dc=>
  uG W g (i*4) dc ⟨d,a,none⟩ vc vs (by grind)
   (λj v h=>by
    simp_all[Addr.add_lit,World.cell?_setCells_out])
   (λj h=>by grind) (λj h=>by simp_all[World.frozen?_setCells]) z
 rw[<- He] at Ha;have Ho:i<=n:=by omega
 have Hm:((i:Int)+1).toNat=i+1:=by omega
 have Hj:¬ (c=i+1):=by omega
 have Hi:(i:Int)<=(n:Int)+1:=by omega
 have Hh:¬ (c=i):=by omega
 have mixed:prog.follows .mixedOrders=true:=by kernel_rfl
 have Hl:IntKind.i64.wrap ((i:Int)+1)=(i:Int)+1:=by rw[IntKind.wrap_i64];omega
 have Hn:(0:Int)<=(i:Int)+1:=by omega
 have Hk:(i:Int)+1<=(n:Int)+1:=by omega
 clear r f o Hc Hf s
 go_enter func54,ntmps54
 go_wp2_with (simp only[Hg])
 go_region_law_o (refine step_copy_runI rfl _ _ 43 43 rfl _ _ (by simp[Act.eval,Act.put]) (by simp[Act.eval,Act.put]) (Ha _ _ _) ?_)
 go_wp2_with (at_builtin;refine wpList_copy_runI _ rfl _ _ 43 43 rfl _ _ rfl rfl (Hb _ (λ_=>rfl) (λ_=>rfl) _ _) ?_)
 go_ret
 first|exact⟨rfl,rfl⟩|exact⟨rfl,by rw[He]⟩
end
section
open RowKit Go.Maps
structure Ml (w w':World) (Bd Bm:Nat) (sn sk:Sd) (sv:Value) (n:Nat) (xs:List RV) (p c:ByteArray) (l:Int) (d:Bool) (f:Nat):Prop where
 disk:aQ w' Bd sn sk sv (bn l d) (fE l d)
 o:bL Bd Bm w w'
 no:f≠0->bI w' Bm n xs
 yes:f=0->bI w' Bm n (xs.filter λx=>!decide (x.pod=p/\x.cont=c))
def mB (l:Int) (d has:Bool):Nat:=if cN l d≠0 then cN l d else if has=true then 0 else 6
theorem Ct{g f b n:Nat}{s q:Sd}{r:Value}{h:List RV}(p c:ByteArray){l:Int}{d:Bool}{w:World}(o:fU w g f b)(t:bI w b n h)(hd:aQ w f s q r l d)(L:-9223372036854775808<=l/\l<=9223372036854775807)(x:p.size<=7000)(v:c.size<=7000) :
  Calls pg 101 #[.pointer (some ⟨g,0,none⟩),.string p,.string c] w λe w'=>e=.returned (aD ((mB l d (h.any λy=>decide (y.pod=p/\y.cont=c)):Nat):Int))/\Ml w w' f b s q r n h p c l d (mB l d (h.any λy=>decide (y.pod=p/\y.cont=c))):=by
 obtain⟨F,P,Hq⟩:=nJ o t hd;obtain⟨c0,c1⟩:=o.cells;have Hs:=qI t;have Hu:=qI (sd hd L);have Hx:=qI o;have B:=t.lt;have O:=hd.lt;have hel:=o.lt;clear o t hd
 go_enter func101,ntmps101
 go_wp2
 refine Hu.o.m λa ⟨Hy,Hf⟩=>?_;have Ho:=qI Hy;have Hm:=qI (bL.of_grown (B1:=f) (B2:=b) Hf.1 (.inl rfl));have Hh:=qI (Hs.o.block (Hf.1.block b B (by simpa using Hq.symm)));have Ht:=Hx.o.block (Hf.1.block g hel (by simpa using F));obtain⟨Q,g1⟩:=Ht.cells;have Hl:=Hf.2;clear Hy Hf Ht Hu Hs Hx c0 c1
 by_cases m:cN l d=0
 ·have Hc:=qI (show mB l d (h.any λy=>decide (y.pod=p/\y.cont=c))=if (h.any λy=>decide (y.pod=p/\y.cont=c))=true then 0 else 6 from by grind[mB]);rw[m,show aD ((0:Nat):Int)=.nilIface from rfl];obtain⟨y,Hg⟩:=Hh.o.look2 p c x v;unfold jG at Hg;have Hb:=(Q0 a a).alloc (lR) (.cells #[p,c] 179);have Hp:=Hb.alloc Hb.size (nK);have Hw:=Hb.alloc Hb.size (eK y);have Hi:=Hg ((a.alloc (.cells #[p,c] 179)).drew) ((bO Hb).block b (by omega));have Hj:=Hg (((a.alloc (.cells #[p,c] 179)).alloc (nK)).drew) ((bO Hp).block b (by omega));have I:=((bO Hb).cell (p:=⟨g,1,none⟩) (by show g<_;omega)).trans g1;have J:=((bO Hp).cell (p:=⟨g,1,none⟩) (by show g<_;omega)).trans g1;have Hk:=qI (bO Hw);have z:=qI (show (((a.alloc (.cells #[p,c] 179)).alloc (nK)).drew).cell? a=some (.string p)/\(((a.alloc (.cells #[p,c] 179)).alloc (nK)).drew).cell? ⟨a,1,none⟩=some (.string c) from⟨by simp,by simp⟩);have Hv:=qI (show (((a.alloc (.cells #[p,c] 179)).alloc (eK y)).drew).cell? a=some (.string p)/\(((a.alloc (.cells #[p,c] 179)).alloc (eK y)).drew).cell? ⟨a,1,none⟩=some (.string c) from⟨by simp,by simp⟩);rw[Hl] at z Hv;obtain⟨D,K⟩:=z.o;clear Hb Hp Hw Hg;unfold RV.val at Hi Hj
  rcases two (h.any λy=>decide (y.pod=p/\y.cont=c)) with j|j
  ·rw[j] at Hi Hj;have k:=qI j;clear j
   go_wp2
   go_region
   all_goals
    generalize hW5:((a.alloc (.cells #[p,c] 179)).alloc (eK y)).drew=u at *;have He:=bO Hk;obtain⟨m0,m1⟩:=Hv.o;have G:u.drew.cell? w=some (.string p):=m0;have M:u.drew.cell? ⟨w,1,none⟩=some (.string c):=m1;have N:=(He.cell (p:=⟨g,1,none⟩) (by show g<_;omega)).trans g1;obtain⟨H,Hn,Hr,Ha,R⟩:=(Hh.o.block (He.block b (by omega))).drop p c x v 0;have Hz:=qI Hr;have C:=qI (show aQ H f s q r (bn l d) (fE l d) from (Ha.block f (by have:=He.size;omega) λe=>Hq (Ql e)).trans ((He.block f (by omega)).trans Ho));have A:=qI ((Hm.o.trans (bL.of_below He)).trans (bL.of_grown Ha (.inr rfl)));unfold jG at Hn;clear He Hr Ha hW5 Hi Hj I J D K m0 m1
    go_wp2
    go_region
    all_goals
     go_wp2
     go_ret;exact⟨by rw[Hc.o,if_pos k.o];rfl,⟨C,A,λi=>absurd (by rw[Hc.o,if_pos k.o]) i,λ_=>Hz.o⟩⟩
  ·rw[j] at Hi Hj;have k:=qI j;clear j
   go_wp2
   go_region
   all_goals
    generalize ((a.alloc (.cells #[p,c] 179)).alloc (eK y)).drew=u at *
    go_wp2
    go_ret;exact⟨by rw[Hc.o,if_neg (by rw[k.o];decide)];rfl,⟨(Hk.o.block f (by omega)).trans Ho,Hm.o.trans (bL.of_below Hk),λ_=>Hh.o.block (Hk.o.block b (by omega)),λi=>by rw[Hc.o,if_neg (by rw[k.o];decide)] at i;cases i⟩⟩
 ·have E:=Cq m;have Hc:=qI (show mB l d (h.any λy=>decide (y.pod=p/\y.cont=c))=11 from by grind[mB]);rw[E,show aD ((11:Nat):Int)=.iface 108 (11:Int) from rfl]
  go_wp2
  go_ret;exact⟨by rw[Hc.o];rfl,⟨Ho,Hm,λ_=>Hh.o,λi=>by rw[Hc.o] at i;cases i⟩⟩
end
section
open RowKit Shelf Go.Lib
abbrev gC:Value:=.agg #[ByteArray.empty,(0:Int),.slice none 0 0,.slice none 0 0]
theorem Mm{b:Nat}(n c i:Nat){k:Nat}(d vc:Nat)(cs vs:List Value)(w:World)(hi:i<n)(E:n<=c)(m:c<n+1)(A:n<=100)
  (u:cs.length=n*4) (D:vs.length=4)
  (q:∀j v,cs[j]?=some v->w.cell? ⟨b,j,none⟩=some v)
  (o:∀j v,vs[j]?=some v->w.cell? ⟨k,d+j,none⟩=some v) (t:∀v∈cs,v.oneCell'=true) (y:∀v∈vs,v.oneCell'=true) :
  Calls pg 54 #[.slice b n c,.int .i64 i,.slice (some ⟨k,d,none⟩) 1 vc] w λe w'=>
   ∃G,n+1<=G/\G<=maxLen/\e=.returned (.slice w (n+1) G)/\
   w'=(((w.alloc (.cells ((cs.take (i*4)).toArray++Builtin.zeroCells gC.cells (n+1 - i)++Builtin.zeroCells gC.cells (G - (n+1))) 101)).drew.setCells w (i*4) vs).drew).setCells w ((i+1)*4) (cs.drop (i*4)):=by
 obtain⟨i0,Hn,Hm,Hp,Hl⟩:=info_parts Mi;have U:¬ ((i:Int)=(n:Int)):=by omega
 have L:(c:Int)<(n:Int)+1:=by omega
 have Hy:b<w:=block_lt_of_cell (q 0 _ (Qf (by omega)));have Hr:k<w:=block_lt_of_cell (o 0 _ (Qf (by omega)));have Ho:(n:Int)+1 - (i:Int)=((n+1 - i:Nat):Int):=by omega
 have Hj:i+(n+1 - i)=n+1:=by omega
 have Hg:(Builtin.firstCells i0.size i (.slice b i c)).run prog w.drew=.ok (cs.take (i*4)).toArray w.drew:=by
  rw[Hp];exact run_firstCells_some w.drew 4 i b i c (cs.take (i*4)) (by grind) (λj v l=>by
   simp_all[Addr.add_lit,List.getElem?_take])
 have Ha:Builtin.nextslicecap (n+1) c*i0.bytes<=281474976710656:=by rw[Hl];exact growslice_fits m (by omega)
 have Hi:∀f,(Builtin.append_ #[43,3] f #[.slice b i c,.int .i64 ((n:Int)+1 - (i:Int))]).run prog w =
   .ok (.slice w (n+1) (grownCap w (n+1) c 101)) (w.drew.alloc (.cells ((cs.take (i*4)).toArray++Builtin.zeroCells gC.cells (n+1 - i)++Builtin.zeroCells gC.cells (grownCap w (n+1) c 101 - (n+1))) 101)):=λf=>by
  have h:=Lib.run_append_grow_zeros w 43 3 f 101 i0 _ .i64 .i64 underlying43 underlying3 Hn Hm (some ⟨b,0,none⟩) i c (cs.take (i*4)) Hg (n+1 - i) (by omega) (by omega) (by omega) (by omega) (by rw[Hl];omega) (by rw[Hj];exact Ha);rw[Hj] at h;rw[Ho];exact h
 have Hh:n+1<=grownCap w (n+1) c 101:=grownCap_ge w _ _ _;have Hf:=grownCap_le_maxLen w (n+1) c 101 (by unfold maxLen;omega);obtain⟨G,z⟩:∃G,G=grownCap w (n+1) c 101:=⟨_,rfl⟩;rw[<- z] at Hi Hh Hf;refine Calls.mono (R:=λe w'=>e=.returned (.slice w (n+1) G)/\w'=(((w.alloc (.cells ((cs.take (i*4)).toArray++Builtin.zeroCells gC.cells (n+1 - i)++Builtin.zeroCells gC.cells (G - (n+1))) 101)).drew.setCells w (i*4) vs).drew).setCells w ((i+1)*4) (cs.drop (i*4))) ?_ λe w' h=>⟨G,Hh,Hf,h.1,h.2⟩;obtain⟨a,Hb⟩:∃a:Array Value,a=(cs.take (i*4)).toArray++Builtin.zeroCells gC.cells (n+1 - i)++Builtin.zeroCells gC.cells (G - (n+1)):=⟨_,rfl⟩;rw[<- Hb] at Hi ⊢;have Hu:(n+1)*4<=a.size:=by
  rw[Hb];have Hw:gC.cells.size=4:=rfl;simp only[Array.size_append,List.size_toArray,Qu,Builtin.zeroCells,Array.size_map,Array.size_range,Hw,u];omega
 have Hq:G<=9223372036854775807:=by grind[maxLen]
 obtain⟨g,Hc⟩:∃g,g=w.drew.alloc (.cells a 101):=⟨_,rfl⟩;rw[<- Hc] at Hi;have V:∀j,j<(n+1)*4->(g.cell? ⟨w,j,none⟩).isSome=true:=λj l=>by
  rw[Hc,World.cell?_alloc_at (w:=w.drew) a _ w j rfl,Array.getElem?_eq_getElem (by omega)];rfl
 have C:∀j,g.frozen? ⟨w,j,none⟩=false:=λj=>by rw[Hc];exact World.frozen?_alloc_at (w:=w.drew) a _ w j rfl
 have F:∀j v,w.cell? ⟨b,j,none⟩=some v->g.cell? ⟨b,j,none⟩=some v:=λj v h=>by rw[Hc,World.cell?_alloc_past (w:=w.drew) _ b j Hy];exact h
 have Q:∀j v,w.cell? ⟨k,j,none⟩=some v->g.cell? ⟨k,j,none⟩=some v:=λj v h=>by rw[Hc,World.cell?_alloc_past (w:=w.drew) _ k j Hr];exact h
 have Hk:∀(W:World),(∀x,W.cell? x=g.cell? x)->(∀x,W.frozen? x=g.frozen? x)->∀f dc,(Builtin.copy_ #[43,43] f #[.slice (some ⟨w,i*4,none⟩) (n+1 - i) dc,.slice (some ⟨k,d,none⟩) 1 vc]).run prog W=.ok (goInt (Nat.min 1 (n+1 - i))) (W.setCells w (i*4) vs):=λW s p f dc=>
  uG W f (i*4) dc ⟨k,d,none⟩ vc vs (by grind)
   (λj v l=>by grind[Addr.add_lit])
   (λj l=>by grind) (λj l=>by rw[p];exact C _) y
 have I:¬ (G=i):=by omega
 have Hs:¬ (G=i+1):=by omega
 have O:¬ (c=i):=by omega
 have K:b≠w:=by omega
 have T:(cs.drop (i*4)).length=(n - i)*4:=by grind
 have He:∀(W:World),(∀x,W.cell? x=(g.setCells w (i*4) vs).cell? x)->(∀x,W.frozen? x=(g.setCells w (i*4) vs).frozen? x)->∀f dc r,(Builtin.copy_ #[43,43] f #[.slice (some ⟨w,(i+1)*4,none⟩) (n - i) dc,.slice (some ⟨b,i*4,none⟩) (n - i) r]).run prog W=.ok (goInt (Nat.min (n - i) (n - i))) (W.setCells w ((i+1)*4) (cs.drop (i*4))):=λW s p f dc r=>
  uG W f ((i+1)*4) dc ⟨b,i*4,none⟩ r (cs.drop (i*4)) (by grind)
   (λj v l=>by
    grind[Addr.add_lit,World.cell?_setCells_out])
   (λj l=>by grind[isSome_setCells])
   (λj l=>by grind[World.frozen?_setCells]) λv B=>t v (List.mem_of_mem_drop B)
 subst Hc;have Hx:∀x,((w.alloc (.cells a 101)).drew).cell? x=(w.drew.alloc (.cells a 101)).cell? x:=λx=>rfl
 have Ht:∀x,((w.alloc (.cells a 101)).drew).frozen? x=(w.drew.alloc (.cells a 101)).frozen? x:=λx=>rfl
 have Hv:∀x,(((w.alloc (.cells a 101)).drew.setCells w (i*4) vs).drew).cell? x=((w.drew.alloc (.cells a 101)).setCells w (i*4) vs).cell? x:=λx=>rfl
 have Hz:∀x,(((w.alloc (.cells a 101)).drew.setCells w (i*4) vs).drew).frozen? x=((w.drew.alloc (.cells a 101)).setCells w (i*4) vs).frozen? x:=λx=>rfl
 have P:IntKind.i64.wrap ((i:Int)+1)=(i:Int)+1:=by rw[IntKind.wrap_i64];omega
 have J:(0:Int)<=(i:Int)+1:=by omega
 have H:i<=n:=by omega
 have M:((i:Int)+1).toNat=i+1:=by omega
 have N:(i:Int)<=(n:Int):=by omega
 have S:(i:Int)+1<=(n:Int)+1:=by omega
 have mixed:prog.follows .mixedOrders=true:=by kernel_rfl
 clear Ho Hj Hg Hb z Hu q o Ha Hn Hm Hp Hl
 go_enter func54,ntmps54
 go_wp2_with (first
  | (at_builtin;refine Lib.wpList_append_run _ rfl _ _ _ _ rfl _ _ rfl rfl _ _ (Hi _) ?_)
  | (at_builtin;refine wpList_copy_runI _ rfl _ _ 43 43 rfl _ _ rfl rfl (Hk _ Hx Ht _ _) ?_)
  | (at_builtin;refine wpList_copy_runI _ rfl _ _ 43 43 rfl _ _ rfl rfl (He _ (λ_=>rfl) (λ_=>rfl) _ _ _) ?_))
 go_region_law_o (refine step_copy_runI rfl _ _ 43 43 rfl (.slice (some ⟨w,(i+1)*4,none⟩) (n - i) (G - (i+1))) (.slice (some ⟨b,i*4,none⟩) (n - i) (c - i)) (by simp[Act.eval,Act.put]) (by simp[Act.eval,Act.put]) (He _ Hv Hz 3 (G - (i+1)) (c - i)) ?_)
 go_wp2
 go_ret;exact⟨rfl,rfl⟩
end
