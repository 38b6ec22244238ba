import Derived.Test.YtjlblidnfebmiaaGreatDoorF40
set_option maxRecDepth 100000
set_option maxHeartbeats 16000000
open Go Go.RowKit Go.Shelf
attribute [local go_sem] Oper.semAt_some
namespace Go.Proofs.YtjlblidnfebmiaaGreatDoor
theorem VV{w w':World}{b:Nat}(ag:bz w b Dk.fresh)(c:Below w w w')(e:gk w' (w.heap.size+1) b w)(d:bF w' w 0 []):bL w' (w.heap.size+1) b w 0 Dk.fresh.n Dk.fresh.k (λa=>a∈([]:List Rn)):=
 ⟨e,pQ (ag.below c) Ex,[],d,λx f=>absurd f (by simp),λa=>by simp⟩
structure FF (w w':World) (c:dE) (e:Ending):Prop where
 bad:cX c≠0->∃p q,e=.returned (.tuple #[.agg #[.pointer p,.pointer q,.pointer none],false])
 good:cX c=0->∃Ba Bd Be Bm,e=.returned (.tuple #[.agg #[.pointer (some ⟨Bd,0,none⟩),.pointer (some ⟨Be,0,none⟩),.pointer (some ⟨Ba,0,none⟩)],true])/\aI w' (λ_=>False) Ba Bd Be Bm ⟨cB c,c.ds,[]⟩ Dk.fresh 0/\w.heap.size<=Ba/\w.heap.size<=Bd/\w.heap.size<=Be/\(w.heap.size<=Bm/\dA w w' Ba)
 o:Below w w w'
abbrev rY:=λ(x0:Option Addr) (x1:dE) (x2:Nat) (x3:Option Addr) (x4:Nat)=>(.cells #[.slice x0 x1.l.length x2,.int .u64 (x1.keep:Nat),(x1.nb:Int),.slice x3 x1.ds.length x4,(x1.pol:Int)] 27:Obj)
abbrev rZ:=(.cells #[.pointer none,.pointer none,.pointer none] 36:Obj)
theorem FG(c:dE)(A v2:Value)(g o:Nat)(w:World)(y:gU w A c.l)(B:et w v2 g o c.ds)(hk:c.keep<18446744073709551616)(E:bJ w)(D:cS w) :
  Calls Tryz.prog 9 #[.agg #[A,.int .u64 (c.keep:Nat),(c.nb:Int),v2,(c.pol:Int)]] w λe w'=>FF w w' c e:=by
 obtain⟨ca,cc,Y⟩:∃ca cc,A=.slice ca c.l.length cc:=by
  rcases id y with⟨O,ao,q,rfl⟩|⟨b,o,q,rfl,_⟩
  ·exact⟨ao,q,by rw[O];rfl⟩
  ·exact⟨_,q,rfl⟩
 subst Y;obtain⟨da,dc,R,HS⟩:=id B;clear HS;subst R;have T:=qI y;have Z:=qI B;have HT:=qI E;have S:=qI D;clear y B E D;have HQ:=qI (((Q0 w w).alloc (lR) (rY ca c cc da dc)).alloc (by simp) (rZ));have HV:=qI (cC (bd w (rY ca c cc da dc) rfl) (rZ));have W:=qI (bd (w.alloc (rY ca c cc da dc)) (rZ) (n:=w.heap.size+1) (by simp));have Hn:Hu (((w.alloc (rY ca c cc da dc)).alloc (rZ)).heap.size=w.heap.size+2):=by unfold Hu;simp
 go_enter Tryz.func9,Tryz.ntmps9
 go_wp2_with fail
 generalize ((w.alloc (rY ca c cc da dc)).alloc (rZ))=X at *;have Hr:=qI (Rh X);rw[Hn.o] at Hr;refine Hr.o.mono ?_;rintro e x ⟨rfl,Hm,Hk⟩;have HO:w+2<=x.heap.size:=by have:=Hk.size;have:=Hn.o;omega
 have Hp:=Hm.lt;obtain⟨a,Hq⟩:∃a,a=w.heap.size+2:=⟨_,rfl⟩;rw[<- Hq] at Hm Hp ⊢;have H6:w.heap.size+1<a:=by omega
 have H2:=qI Hq;have G:=qI Hm;have I:=qI (HQ.o.trans (Hk.mono (by omega)));have Hy:=qI ((Hk.block w (by have:=Hn.o;omega)).trans HV.o);have Hs:=qI ((Hk.block (w.heap.size+1) (by have:=Hn.o;omega)).trans W.o);clear Hm Hk Hq Hr
 go_wp2_with fail
 refine (Te a x).mono ?_;rintro e l ⟨rfl,P,F,Hj,HW⟩;have Ht:=qI (VV G.o Hj P F);obtain⟨s,Hw⟩:∃s,s=x.heap.size:=⟨_,rfl⟩;obtain⟨d,Hz⟩:∃d,d=x.heap.size+1:=⟨_,rfl⟩;rw[<- Hz] at Ht ⊢;rw[<- Hw] at Ht;have H5:a<s/\s<d:=by omega
 have H7:d<l.heap.size:=by omega
 have HZ:=qI Hw;have H0:=qI Hz;have V:=qI (G.o.below Hj);have He:=qI (I.o.trans (Hj.mono I.o.size));have Hb:=qI ((Hj.block w (by omega)).trans Hy.o);have Hl:=qI ((Hj.block (w.heap.size+1) (by omega)).trans Hs.o);have H4:w<=l.heap.size:=He.o.size;clear P F Hj HW Hw Hz HO;have c0:cl l w (0) (.slice ca c.l.length cc):=ad Hb.o 0;have c1:cl l w (1) (.int .u64 (c.keep:Nat)):=ad Hb.o 1;have c2:cl l w (2) (c.nb:Int):=ad Hb.o 2;have c3:cl l w (3) (.slice da c.ds.length dc):=ad Hb.o 3;have c4:cl l w (4) (c.pol:Int):=ad Hb.o 4;have L:=qI (VU (λj=>j=w.heap.size+1) c (.slice ca c.l.length cc) (.slice da c.ds.length dc) g o a d s Dk.fresh l (T.o.below He.o) (Z.o.le (aZ.of_below He.o)) hk V.o Ex rfl rfl (by decide) Ht.o (HT.o.below He.o) (S.o.below He.o) (λj m=>by rw[m];exact⟨by omega,_,ad Hl.o 0⟩) ⟨by omega,by omega,by omega⟩)
 go_wp2_with fail
 refine L.o.mono ?_;rintro e i ⟨Hg,Hc,Hi⟩;have H3:l<=i.heap.size:=Hi.size;have Ha:=qI ((Hi.block (w.heap.size+1) (by omega) (by rintro (e|e) <;> omega)).trans Hl.o);have H:Hu (Below w w i):=⟨Hi.os.trans He.o.os,Hi.tape.trans He.o.tape,Hi.output.trans He.o.output,by omega,λj m=>(Hi.block j (by omega) (by rintro (e|e) <;> omega)).trans (He.o.block j m)⟩;have r0:cl i (w.heap.size+1) (0) (.pointer none):=ad Ha.o 0;have r1:cl i (w.heap.size+1) (1) (.pointer none):=ad Ha.o 1;have u:cl i (w.heap.size+1) (2) (.pointer none):=ad Ha.o 2;have f0:i.frozen? (w.heap.size+1:Nat)=false:=by simp[World.frozen?,Ha.o]
 have f1:i.frozen? ⟨w.heap.size+1,1,none⟩=false:=by simp[World.frozen?,Ha.o]
 have f2:i.frozen? ⟨w.heap.size+1,2,none⟩=false:=by simp[World.frozen?,Ha.o]
 clear c0 c1 c2 c3 c4 Hi L
 by_cases hf:cX c=0
 ·obtain⟨k,rfl,Hf,H1,C⟩:=Hc hf;have U:=qI C;clear C;have t:=qI hf;have N:=qI Hf;clear Hg Hc hf Hf
  go_wp2_with fail
  have Hh:Hu ((((i.setCell (w.heap.size+1:Nat) (.pointer (some ⟨a,0,none⟩))).setCell ⟨w.heap.size+1,1,none⟩ (.pointer (some ⟨d,0,none⟩))).setCell ⟨w.heap.size+1,2,none⟩ k).heap[w.heap.size+1]?=some (.cells #[.pointer (some ⟨a,0,none⟩),.pointer (some ⟨d,0,none⟩),k] 36)):=aV (aV (aV Ha.o 0 _) 1 _) 2 _;have Hx:=qI (((H.o.setCell (p:=⟨w.heap.size+1,0,none⟩) (Nat.le_succ _) (.pointer (some ⟨a,0,none⟩))).setCell (p:=⟨w.heap.size+1,1,none⟩) (Nat.le_succ _) (.pointer (some ⟨d,0,none⟩))).setCell (p:=⟨w.heap.size+1,2,none⟩) (Nat.le_succ _) k);have Ho:Hu (Apart (λj=>j=w.heap.size+1) i (((i.setCell (w.heap.size+1:Nat) (.pointer (some ⟨a,0,none⟩))).setCell ⟨w.heap.size+1,1,none⟩ (.pointer (some ⟨d,0,none⟩))).setCell ⟨w.heap.size+1,2,none⟩ k)):=((Apart.setCell (K:=λj=>j=w.heap.size+1) rfl _ _ _).trans (Apart.setCell (K:=λj=>j=w.heap.size+1) rfl _ _ _)).trans (Apart.setCell (K:=λj=>j=w.heap.size+1) rfl _ _ _);clear r0 r1 u f0 f1 f2;generalize (((i.setCell (w.heap.size+1:Nat) (.pointer (some ⟨a,0,none⟩))).setCell ⟨w.heap.size+1,1,none⟩ (.pointer (some ⟨d,0,none⟩))).setCell ⟨w.heap.size+1,2,none⟩ k)=r at *;have r0:cl r (w.heap.size+1) (0) (.pointer (some ⟨a,0,none⟩)):=ad Hh.o 0;have r1:cl r (w.heap.size+1) (1) (.pointer (some ⟨d,0,none⟩)):=ad Hh.o 1;have u:cl r (w.heap.size+1) (2) k:=ad Hh.o 2;(try simp only[Exit.inBlock,Exit.then]);refine bodyPost_ret (v:=.tuple #[.agg #[.pointer (some ⟨a,0,none⟩),.pointer (some ⟨d,0,none⟩),k],true]) (by rw[k9 rfl];go_simp) rfl ?_;refine⟨λh=>absurd t.o h,λ_=>⟨k,a,d,s,rfl,(N.o.other Ho.o ?_).grow (Q0 _ _) (λj m=>m.elim) λj m=>m.elim,by omega,by omega,by omega,by omega,(N.o.poolNew U.o Ho.o (λe=>by have e:k=w+1:=e;omega) (λQ _ O e=>by have e:Q=w.heap.size+1:=e;omega)).less (by omega)⟩,Hx.o⟩;intro j m ha z J;rw[m,Ha.o] at J;cases J
 ·have he:=Hg hf;subst he;have t:=qI hf;have M:aJ (cX c)=.iface 108 (cX c:Int):=by unfold aJ;rw[if_neg hf]
  rw[M];clear Hg Hc hf M;obtain⟨ff,Hv⟩:∃f,f=cX c:=⟨_,rfl⟩;rw[<- Hv] at t ⊢;have HR:=qI Hv;clear Hv
  go_wp2_with fail
  have Hh:Hu ((((i.setCell (w.heap.size+1:Nat) (.pointer (some ⟨a,0,none⟩))).setCell ⟨w.heap.size+1,1,none⟩ (.pointer (some ⟨d,0,none⟩))).setCell ⟨w.heap.size+1,2,none⟩ (.pointer none)).heap[w.heap.size+1]?=some (.cells #[.pointer (some ⟨a,0,none⟩),.pointer (some ⟨d,0,none⟩),.pointer none] 36)):=aV (aV (aV Ha.o 0 _) 1 _) 2 _;have Hx:=qI (((H.o.setCell (p:=⟨w.heap.size+1,0,none⟩) (Nat.le_succ _) (.pointer (some ⟨a,0,none⟩))).setCell (p:=⟨w.heap.size+1,1,none⟩) (Nat.le_succ _) (.pointer (some ⟨d,0,none⟩))).setCell (p:=⟨w.heap.size+1,2,none⟩) (Nat.le_succ _) (.pointer none));have Ho:Hu (Apart (λj=>j=w.heap.size+1) i (((i.setCell (w.heap.size+1:Nat) (.pointer (some ⟨a,0,none⟩))).setCell ⟨w.heap.size+1,1,none⟩ (.pointer (some ⟨d,0,none⟩))).setCell ⟨w.heap.size+1,2,none⟩ (.pointer none))):=((Apart.setCell (K:=λj=>j=w.heap.size+1) rfl _ _ _).trans (Apart.setCell (K:=λj=>j=w.heap.size+1) rfl _ _ _)).trans (Apart.setCell (K:=λj=>j=w.heap.size+1) rfl _ _ _);clear r0 r1 u f0 f1 f2;generalize (((i.setCell (w.heap.size+1:Nat) (.pointer (some ⟨a,0,none⟩))).setCell ⟨w.heap.size+1,1,none⟩ (.pointer (some ⟨d,0,none⟩))).setCell ⟨w.heap.size+1,2,none⟩ (.pointer none))=r at *;have r0:cl r (w.heap.size+1) (0) (.pointer (some ⟨a,0,none⟩)):=ad Hh.o 0;have r1:cl r (w.heap.size+1) (1) (.pointer (some ⟨d,0,none⟩)):=ad Hh.o 1;have u:cl r (w.heap.size+1) (2) (.pointer none):=ad Hh.o 2;(try simp only[Exit.inBlock,Exit.then]);refine bodyPost_ret (v:=.tuple #[.agg #[.pointer (some ⟨a,0,none⟩),.pointer (some ⟨d,0,none⟩),.pointer none],false]) (by rw[k9 rfl];go_simp) rfl ?_;exact⟨λ_=>⟨_,_,rfl⟩,λh=>absurd (HR.o.trans h) t.o,Hx.o⟩
