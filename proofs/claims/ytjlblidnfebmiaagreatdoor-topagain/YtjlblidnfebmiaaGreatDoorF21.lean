import Derived.Test.YtjlblidnfebmiaaGreatDoorF20
set_option maxRecDepth 100000
set_option maxHeartbeats 16000000
open Go Go.RowKit Go.Shelf
attribute [local go_sem] Oper.semAt_some
open Go.Proofs.Tryz
namespace Go.Proofs.YtjlblidnfebmiaaGreatDoor
variable{N N' cap g k n sz:Nat}{W W':World}{a b ps:List aj}{ds ds':List ak}{dv:Nat->Value}{f:Nat->List Value}{hs:List af}{m:aL}{p:aj}{t:bl}
theorem DG(a:Option Addr)(n c:Nat)(w:World):Sem.run prog (binOp .eql 63 (.slice a n c) (.slice none 0 0)) w=.ok a.isNone w:=Lib.run_eql_slice_nil w _ _ a n c 0 0 underlying63
theorem Rl(a:Addr)(n c:Nat)(cs:List Value)(w:World)(b:cs.length=n*2)(f:∀j u,cs[j]?=some u->w.cell? (a.add j)=some u)(g:∀u∈cs,u.oneCell'=true)(p:n<=1000) :
  Calls prog 64 #[.slice (some a) n c] w λe w'=>∃v,e=.returned v/\w'.ownsRow w 127 2 v n cs/\Below w w w':=by
 obtain⟨i0,hi,Hg,Hh,Hf⟩:=info_parts CZ;have m:=qI ((Q0 w w).alloc (lR) (.cells #[] 127));have o:Hu (∀j u,cs[j]?=some u->(w.alloc (.cells #[] 127)).cell? (a.add j)=some u):=λj u d=>Lib.cell?_alloc_some _ (f j u d)
 have i:=qI g;have Hc:=qI b;have Hi:=DG (some a) n c w;clear f g b
 go_enter func64,ntmps64
 go_wp2_with (at_builtin;(refine wpList_append_own _ rfl _ _ 63 rfl w 127 i0 (.agg #[ByteArray.empty,(0:Int)]) 2 24 underlying63 hi Hg Hh Hf rfl (by decide) _ _ _ rfl (World.ownsRow_lit w #[] 0 (lR) (Nat.zero_le _) rfl) a n c cs rfl Hc.o o.o i.o (by unfold maxLen;omega) (by omega) (by simp) ?_;intro h k Hb Ha _))
 have He:=qI (m.o.grown Ha (by simp) (λj d=>by cases d;exact lR));rw[Qd] at Hb;have l:=qI (show k.ownsRow w 127 2 h n cs by simpa using Hb);clear Hb Ha
 go_wp2
 go_ret;exact⟨_,rfl,l.o,He.o⟩
theorem Rm(n c:Nat)(w:World):Calls prog 64 #[.slice none n c] w λe w'=>e=.returned (.slice none 0 0)/\w'=w:=by
 have a:=DG none n c w
 go_enter func64,ntmps64
 go_wp2
 go_ret;exact⟨rfl,rfl⟩
theorem DH(a:Option Addr)(n c:Nat)(w:World):Sem.run prog (binOp .eql 47 (.slice a n c) (.slice none 0 0)) w=.ok a.isNone w:=Lib.run_eql_slice_nil w _ _ a n c 0 0 underlying47
theorem DI(a:Addr)(n c:Nat)(cs:List Value)(w:World)(b:cs.length=n*6)(f:∀j u,cs[j]?=some u->w.cell? (a.add j)=some u)(g:∀u∈cs,u.oneCell'=true)(p:n<=1000) :
  Calls prog 63 #[.slice (some a) n c] w λe w'=>∃v,e=.returned v/\w'.ownsRow w 65 6 v n cs/\Below w w w':=by
 obtain⟨i0,hi,Hg,Hh,Hf⟩:=info_parts Dh;have m:=qI ((Q0 w w).alloc (lR) (.cells #[] 65));have o:Hu (∀j u,cs[j]?=some u->(w.alloc (.cells #[] 65)).cell? (a.add j)=some u):=λj u d=>Lib.cell?_alloc_some _ (f j u d)
 have i:=qI g;have Hc:=qI b;have Hi:=DH (some a) n c w;clear f g b
 go_enter func63,ntmps63
 go_wp2_with (at_builtin;(refine wpList_append_own _ rfl _ _ 47 rfl w 65 i0 (.agg #[ByteArray.empty,(0:Int),(0:Int),(0:Int),(0:Int),.slice none 0 0]) 6 72 underlying47 hi Hg Hh Hf rfl (by decide) _ _ _ rfl (World.ownsRow_lit w #[] 0 (lR) (Nat.zero_le _) rfl) a n c cs rfl Hc.o o.o i.o (by unfold maxLen;omega) (by omega) (by simp) ?_;intro h k Hb Ha _))
 have He:=qI (m.o.grown Ha (by simp) (λj d=>by cases d;exact lR));rw[Qd] at Hb;have l:=qI (show k.ownsRow w 65 6 h n cs by simpa using Hb);clear Hb Ha
 go_wp2
 go_ret;exact⟨_,rfl,l.o,He.o⟩
theorem Ro(n c:Nat)(w:World):Calls prog 63 #[.slice none n c] w λe w'=>e=.returned (.slice none 0 0)/\w'=w:=by
 have a:=DH none n c w
 go_enter func63,ntmps63
 go_wp2
 go_ret;exact⟨rfl,rfl⟩
theorem DJ(a:Option Addr)(n c:Nat)(w:World):Sem.run prog (binOp .eql 99 (.slice a n c) (.slice none 0 0)) w=.ok a.isNone w:=Lib.run_eql_slice_nil w _ _ a n c 0 0 underlying99
theorem DK(a:Addr)(n c:Nat)(cs:List Value)(w:World)(b:cs.length=n*2)(f:∀j u,cs[j]?=some u->w.cell? (a.add j)=some u)(g:∀u∈cs,u.oneCell'=true)(p:n<=1000) :
  Calls prog 65 #[.slice (some a) n c] w λe w'=>∃v,e=.returned v/\w'.ownsRow w 123 2 v n cs/\Below w w w':=by
 obtain⟨i0,hi,Hg,Hh,Hf⟩:=info_parts Di;have m:=qI ((Q0 w w).alloc (lR) (.cells #[] 123));have o:Hu (∀j u,cs[j]?=some u->(w.alloc (.cells #[] 123)).cell? (a.add j)=some u):=λj u d=>Lib.cell?_alloc_some _ (f j u d)
 have i:=qI g;have Hc:=qI b;have Hi:=DJ (some a) n c w;clear f g b
 go_enter func65,ntmps65
 go_wp2_with (at_builtin;(refine wpList_append_own _ rfl _ _ 99 rfl w 123 i0 (.agg #[.int .u64 0,.slice none 0 0]) 2 32 underlying99 hi Hg Hh Hf rfl (by decide) _ _ _ rfl (World.ownsRow_lit w #[] 0 (lR) (Nat.zero_le _) rfl) a n c cs rfl Hc.o o.o i.o (by unfold maxLen;omega) (by omega) (by simp) ?_;intro h k Hb Ha _))
 have He:=qI (m.o.grown Ha (by simp) (λj d=>by cases d;exact lR));rw[Qd] at Hb;have l:=qI (show k.ownsRow w 123 2 h n cs by simpa using Hb);clear Hb Ha
 go_wp2
 go_ret;exact⟨_,rfl,l.o,He.o⟩
theorem Rp(n c:Nat)(w:World):Calls prog 65 #[.slice none n c] w λe w'=>e=.returned (.slice none 0 0)/\w'=w:=by
 have a:=DJ none n c w
 go_enter func65,ntmps65
 go_wp2
 go_ret;exact⟨rfl,rfl⟩
theorem DL(a:Option Addr)(n c:Nat)(w:World):Sem.run prog (binOp .eql 43 (.slice a n c) (.slice none 0 0)) w=.ok a.isNone w:=Lib.run_eql_slice_nil w _ _ a n c 0 0 underlying43
theorem DM(a:Addr)(n c:Nat)(cs:List Value)(w:World)(b:cs.length=n*4)(f:∀j u,cs[j]?=some u->w.cell? (a.add j)=some u)(g:∀u∈cs,u.oneCell'=true)(p:n<=1000) :
  Calls prog 55 #[.slice (some a) n c] w λe w'=>∃v,e=.returned v/\w'.ownsRow w 101 4 v n cs/\Below w w w':=by
 obtain⟨i0,hi,Hg,Hh,Hf⟩:=info_parts Dp;have m:=qI ((Q0 w w).alloc (lR) (.cells #[] 101));have o:Hu (∀j u,cs[j]?=some u->(w.alloc (.cells #[] 101)).cell? (a.add j)=some u):=λj u d=>Lib.cell?_alloc_some _ (f j u d)
 have i:=qI g;have Hc:=qI b;have Hi:=DL (some a) n c w;clear f g b
 go_enter func55,ntmps55
 go_wp2_with (at_builtin;(refine wpList_append_own _ rfl _ _ 43 rfl w 101 i0 (.agg #[ByteArray.empty,(0:Int),.slice none 0 0,.slice none 0 0]) 4 72 underlying43 hi Hg Hh Hf rfl (by decide) _ _ _ rfl (World.ownsRow_lit w #[] 0 (lR) (Nat.zero_le _) rfl) a n c cs rfl Hc.o o.o i.o (by unfold maxLen;omega) (by omega) (by simp) ?_;intro h k Hb Ha _))
 have He:=qI (m.o.grown Ha (by simp) (λj d=>by cases d;exact lR));rw[Qd] at Hb;have l:=qI (show k.ownsRow w 101 4 h n cs by simpa using Hb);clear Hb Ha
 go_wp2
 go_ret;exact⟨_,rfl,l.o,He.o⟩
theorem Rq(n c:Nat)(w:World):Calls prog 55 #[.slice none n c] w λe w'=>e=.returned (.slice none 0 0)/\w'=w:=by
 have a:=DL none n c w
 go_enter func55,ntmps55
 go_wp2
 go_ret;exact⟨rfl,rfl⟩
theorem DN(a:Option Addr)(n c:Nat)(w:World):Sem.run prog (binOp .eql 46 (.slice a n c) (.slice none 0 0)) w=.ok a.isNone w:=Lib.run_eql_slice_nil w _ _ a n c 0 0 underlying46
theorem Rr(a:Addr)(n c:Nat)(cs:List Value)(w:World)(b:cs.length=n*1)(f:∀j u,cs[j]?=some u->w.cell? (a.add j)=some u)(g:∀u∈cs,u.oneCell'=true)(p:n<=1000) :
  Calls prog 66 #[.slice (some a) n c] w λe w'=>∃v,e=.returned v/\w'.ownsRow w 3 1 v n cs/\Below w w w':=by
 obtain⟨i0,hi,Hg,Hh,Hf⟩:=info_parts xv;have m:=qI ((Q0 w w).alloc (lR) (.cells #[] 3));have o:Hu (∀j u,cs[j]?=some u->(w.alloc (.cells #[] 3)).cell? (a.add j)=some u):=λj u d=>Lib.cell?_alloc_some _ (f j u d)
 have i:=qI g;have Hc:=qI b;have Hi:=DN (some a) n c w;clear f g b
 go_enter func66,ntmps66
 go_wp2_with (at_builtin;(refine wpList_append_own _ rfl _ _ 46 rfl w 3 i0 (0:Int) 1 8 underlying46 hi Hg Hh Hf rfl (by decide) _ _ _ rfl (World.ownsRow_lit w #[] 0 (lR) (Nat.zero_le _) rfl) a n c cs rfl Hc.o o.o i.o (by unfold maxLen;omega) (by omega) (by simp) ?_;intro h k Hb Ha _))
 have He:=qI (m.o.grown Ha (by simp) (λj d=>by cases d;exact lR));rw[Qd] at Hb;have l:=qI (show k.ownsRow w 3 1 h n cs by simpa using Hb);clear Hb Ha
 go_wp2
 go_ret;exact⟨_,rfl,l.o,He.o⟩
theorem Rs(n c:Nat)(w:World):Calls prog 66 #[.slice none n c] w λe w'=>e=.returned (.slice none 0 0)/\w'=w:=by
 have a:=DN none n c w
 go_enter func66,ntmps66
 go_wp2
 go_ret;exact⟨rfl,rfl⟩
theorem bQ{B:Nat}{cs:Array Value}{t:TypeId}(h:W.heap[B]?=some (.cells cs t (0,0)))(j:Nat):W.frozen? ⟨B,j,none⟩=false:=by simp[World.frozen?,h]
theorem bd(W:World)(o:Obj)(a:n=W):(W.alloc o).heap[n]?=some o:=by subst a;exact heap_alloc_new W o
theorem cC{x:Obj}(h:W.heap[n]?=some x)(o:Obj):(W.alloc o).heap[n]?=some x:=(Below.heap_alloc _ _ _ (gS h).1).trans h
theorem DO(h:k<ps.length):cP (ps.take (k+1))=cP (ps.take k)+dh (aO ps k).cs (aO ps k).cs.length:=by grind[cP,aO,Qa,Qj]
theorem DP(h:k<ps.length):ey (ps.take (k+1))=ey (ps.take k)+cV (aO ps k).cs (aO ps k).cs.length:=by grind[ey,aO,Qa,Qj]
abbrev rm:=λ(x0:Value) (x1 x2:Nat) (x3 x4:Int)=>(.cells #[x0,.int .u64 x1,.int .u8 x2,x3,x4] 84:Obj)
theorem xG(m:Value)(op aq:Nat)(nb pol:Int)(v:Value)(a:List aj)(w:World)(h:eO w v a)(hl:a.length<=100)(r:∀p∈a,ib p.cs)(s:op<18446744073709551616)
  (y:∀k,k<=a.length->(0<=cP (a.take k)/\cP (a.take k)<=1000000000000000000)/\0<=ey (a.take k)/\ey (a.take k)<=1000000000000000000) :
  Calls prog 50 #[.agg #[m,.int .u64 op,.int .u8 aq,nb,pol],v] w λe w'=>e=.returned (.bool (decide (cP a<=1000*(aA op:Int)) && decide (ey a<=nb)))/\Below w w w':=by
 have O:=qI r;have u:=qI y;obtain⟨ao,c,rfl,Z,D⟩:=h;unfold maxLen at Z;have P:=qI D;have sz:((w.alloc (rm m op aq nb pol)).alloc (.cells #[(0:Int),(0:Int)] 62)).heap.size=w.heap.size+2:=by simp
 have W:=qI (bd (w.alloc (rm m op aq nb pol)) (.cells #[(0:Int),(0:Int)] 62) (n:=w.heap.size+1) (by simp));have T:=qI (cC (bd w (rm m op aq nb pol) rfl) (.cells #[(0:Int),(0:Int)] 62));have M:=qI (((Q0 w w).alloc (lR) (rm m op aq nb pol)).alloc (by simp) (.cells #[(0:Int),(0:Int)] 62));clear r y D
 go_enter func50,ntmps50
 go_wp2_with fail
 generalize ((w.alloc (rm m op aq nb pol)).alloc (.cells #[(0:Int),(0:Int)] 62))=U at *;generalize HB:w.heap.size=B at *
 go_loopw [11] (λi wr=>∃k:Nat,k<=a.length/\i=.int .i64 k/\wr.heap[B+1]?=some (.cells #[(cP (a.take k):Int),(ey (a.take k):Int)] 62 (0,0))/\Apart (λj=>j=B+1) U wr) (λi _=>a.length - (intOf i).toNat)
 case atStart=>exact⟨0,by omega,rfl,W.o,Apart.refl _ _⟩
 case round=>
  obtain⟨k,R,rfl,Hf,Hh⟩:=hrel;have HQ:=Hh.size;have t:=qI Hh;have Hq:=u.o k R;have He:=Hh.below M.o (Nat.le_of_eq HB.symm) (λj hj=>by omega);have Ht:=qI He
  by_cases b:k<a.length
  ·obtain⟨bb,o,cv,rfl,Hw⟩:=P.o (by omega);have Ha:Below w w wr:=by rw[HB];exact He
   obtain⟨H,N,z⟩:=((Hw.below Ha).2 k b).1;have Hb:=((Hw.below Ha).2 k b).2;have A:=O.o (aO a k) (by simp[aO,b]);have Hj:=qI (DO b);have Hi:=qI (DP b);have S:=u.o (k+1) b;rw[Hj.o,Hi.o] at S;obtain⟨ca,cc,Hx,_,_⟩:=id Hb;rw[Hx] at z Hb;have Hn:=qI ((Q0 wr wr).alloc (lR) (.cells #[(aO a k).nm,((aO a k).pr:Int),.slice ca (aO a k).cs.length cc] 49));have Ho:=qI (Lq (aO a k) (.slice ca (aO a k).cs.length cc) (wr.alloc (.cells #[(aO a k).nm,((aO a k).pr:Int),.slice ca (aO a k).cs.length cc] 49)) (Hb.below Hn.o) A);unfold cz at Ho;have J:=qI Hf;clear Hw Hb A He Ha Hf Hh Hx;generalize dh (aO a k).cs (aO a k).cs.length=l at *;generalize cV (aO a k).cs (aO a k).cs.length=g at *;generalize cP (a.take k)=q at *;generalize ey (a.take k)=F at *;generalize aO a k=p at *;obtain⟨pn,pp,pc⟩:=p;dsimp only at H N z Ho Hn
   go_wp2_with fail
   refine Ho.o.mono ?_;rintro e d ⟨rfl,Hz⟩;have Hk:=Hn.o.trans (Hz.mono Hn.o.size);have G:=(Q0 d d).alloc (lR) (.cells #[(l:Int),(g:Int)] 62);have Hg:=cC ((Hk.block (B+1) (by omega)).trans J.o) (.cells #[(l:Int),(g:Int)] 62);have y0:(d.alloc (.cells #[(l:Int),(g:Int)] 62)).cell? (B+1:Nat)=some (.int .i64 q):=ad Hg 0;have y1:(d.alloc (.cells #[(l:Int),(g:Int)] 62)).cell? ⟨B+1,1,none⟩=some (.int .i64 F):=ad Hg 1;have f0:=bQ Hg 0;have f1:=bQ Hg 1;have z0:(d.alloc (.cells #[(l:Int),(g:Int)] 62)).cell? d.heap.size=some (.int .i64 l):=by simp
   have z1:(d.alloc (.cells #[(l:Int),(g:Int)] 62)).cell? ⟨d,1,none⟩=some (.int .i64 g):=by simp
   have HS:d.heap.size≠B+1:=by have:=Hk.size;omega
   have Y:=qI (t.o.trans (Apart.of_below (Hk.trans (G.mono Hk.size))));have Q:=qI Hg;clear Hg Hz G Hk
   go_wp2
   go_roundw
   case rel=>exact⟨k+1,by omega,by go_num,by rw[Hj.o,Hi.o];exact aV (aV Q.o 0 _) 1 _,(Y.o.trans (Apart.setCell (K:=λj=>j=B+1) rfl _ _ _)).trans (Apart.setCell (K:=λj=>j=B+1) rfl _ _ _)⟩
   case measure=>simp[intOf];omega
  ·have L:k=a.length:=by omega
   subst L;rw[Qh] at Hf Hq;have Hv:=(t.o.block B (by omega) (by omega)).trans T.o;have X:wr.cell? (B+1:Nat)=some (.int .i64 (cP a)):=ad Hf 0;have V:wr.cell? ⟨B+1,1,none⟩=some (.int .i64 (ey a)):=ad Hf 1;have q2:wr.cell? ⟨B,1,none⟩=some (.int .u64 op):=ad Hv 1;have q3:wr.cell? ⟨B,3,none⟩=some (.int .i64 nb):=ad Hv 3;have I:aA op<=64:=GA op 64;clear Hf Hv Hh;obtain⟨q,Hs⟩:∃x,x=cP a:=⟨_,rfl⟩;obtain⟨F,Hp⟩:∃x,x=ey a:=⟨_,rfl⟩;rw[<- Hs] at X Hq;rw[<- Hp] at V Hq;have Hj:=qI Hs;have Hi:=qI Hp;clear Hs Hp;have Hm:=qI (CI op);have Hl:(bf op 64).length=aA op:=rfl;rw[Hl] at Hm;clear Hl;obtain⟨f,Hc⟩:∃x,x=aA op:=⟨_,rfl⟩;rw[<- Hc] at Hm I;have C:=qI Hc;clear Hc;have Hy:Hu (Below w w wr):=by unfold Hu;rw[HB];exact Ht.o
   by_cases E:q<=1000*(f:Int)
   ·have Hr:decide (q<=1000*(f:Int))=true:=Qc E
    go_wp2
    go_quiet (exact Calls.quiet_of_same (Hm.o _ s))
    go_wp2
    go_ret;exact⟨by rw[<- Hj.o,<- Hi.o,<- C.o,Hr];rfl,below_drewN Hy.o nq⟩
   ·have Hr:decide (q<=1000*(f:Int))=false:=Q7 E
    go_wp2
    go_quiet (exact Calls.quiet_of_same (Hm.o _ s))
    go_wp2
    go_ret;exact⟨by rw[<- Hj.o,<- Hi.o,<- C.o,Hr];rfl,below_drewN Hy.o nq⟩
def gM (x:aj × Value):List Value:=[.string x.1.nm,.int .i64 x.1.pr,x.2]
def rowP (l:List (aj × Value)):List Value:=l.flatMap gM
theorem tX(l:List (aj × Value))(p:aj × Value):rowP (l++[p])=rowP l++gM p:=by simp[rowP]
def DQ (W:World) (base:Nat) (v:Value) (ps:List aj):Prop:=∃l:List (aj × Value),l.map Prod.fst=ps/\W.ownsRow base 49 3 v l.length (rowP l)/\∀x∈l,aQ W x.2 x.1.cs
theorem xH:(prog.info? 49).map (λi=>(i.zero,i.size,i.bytes))=some (some (.agg #[ByteArray.empty,(0:Int),.slice none 0 0]),3,48):=by kernel_rfl
theorem tY(w:World)(nm:ByteArray)(pr:Int)(cv:Value)(t:TypeId):∀j u,(gM (⟨nm,pr,[]⟩,cv))[j]?=some u->(w.alloc (.cells #[nm,pr,cv] t)).cell? ((w.heap.size:Addr).add j)=some u:=by simp_all[Addr.add_lit,gM]
theorem tZ(nm:ByteArray)(pr:Int)(a:Option Addr)(n c:Nat):∀u∈gM (⟨nm,pr,[]⟩,.slice a n c),u.oneCell'=true:=by
 intro u b
 simp[gM] at b
 rcases b with rfl|rfl|rfl <;> rfl
abbrev pC:=λ(x0:ByteArray) (x1:Int) (x2:Option Addr) (x3 x4:Nat) (x5:Option Addr) (x6 x7:Nat)=>(.cells #[x0,x1,.slice x2 x3 x4,.slice x5 x6 x7] 101:Obj)
theorem DR(v:Value)(hs:List af)(w:World)(h:aY w v hs)(R:hs.length<=100):Calls prog 51 #[v] w λe w'=>∃r,e=.returned r/\DQ w' w r (hs.map af.pod)/\Below w w w':=by
 obtain⟨i0,hi,Hy,C,Hz⟩:=info_parts xH;obtain⟨N,c,rfl,K,z⟩:=h;unfold maxLen at K;have E:=qI z;clear z
 go_enter func51,ntmps51
 go_wp2
 go_loopw [3,8] (λJ i wr=>∃(k:Nat) (l:List (aj × Value)),k<=hs.length/\i=.int .i64 k/\l.length=k/\l.map Prod.fst=(hs.take k).map af.pod/\wr.ownsRow w 49 3 J l.length (rowP l)/\(∀x∈l,aQ w x.2 x.1.cs)/\Below w w wr) (λ_ i _=>hs.length - (intOf i).toNat)
 case atStart=>exact⟨0,[],by omega,rfl,rfl,rfl,Qw _ _ _ _,λx s=>(List.not_mem_nil s).elim,Q0 _ _⟩
 case round=>
  obtain⟨k,l,O,rfl,Hr,Hh,Ha,Hm,p⟩:=hrel;have Hx:=qI Hr;have Hj:=qI Hh;have Hq:=qI Hm;have q:=qI p;have P:l.length<=100:=by omega
  have L:=p.size;clear Hr Hh Hm
  by_cases g:k<hs.length
  ·obtain⟨b,o,cv,G,rfl,Hk⟩:=E.o (by omega);obtain⟨B,D,u,t⟩:=((Hk.below p).2 k g).1;have Hg:=(Hk.2 k g).2.1;have Hn:Hu ((hs.take (k+1)).map af.pod=(hs.take k).map af.pod++[(ag hs k).pod]):=by
    unfold Hu;rw[Qa g,Qj];simp[ag,g]
   have He:=qI Hg;obtain⟨ca,cc,Hl,_,_⟩:=id Hg;rw[Hl] at u He;obtain⟨ga,gc,Ho,_,_⟩:=id (Hk.2 k g).2.2;rw[Ho] at t;clear Hk Hg p Hl Ho;generalize ag hs k=x at *;obtain⟨⟨d,f,a⟩,m⟩:=x;dsimp only at B D u t He Hn;obtain⟨Q,vc,H⟩:=gI Ha;subst H;have A:=(Q0 wr wr).alloc (lR) (pC d f ca a.length cc ga m.length gc);have Hb:=Ha.alloc (pC d f ca a.length cc ga m.length gc);have Hw:=qI (q.o.trans (A.mono q.o.size));have Hs:w.heap.size<=(wr.alloc (pC d f ca a.length cc ga m.length gc)).heap.size:=by simp;omega
   have Hf:=tY (wr.alloc (pC d f ca a.length cc ga m.length gc)) d f (.slice ca a.length cc) 49;rw[show (wr.alloc (pC d f ca a.length cc ga m.length gc)).heap.size=wr.heap.size+1 by simp] at Hf;have Ht:=qI Hf;have Hv:w.heap.size<=((wr.alloc (pC d f ca a.length cc ga m.length gc)).alloc (.cells #[d,(f:Int),.slice ca a.length cc] 49)).heap.size:=by simp;omega
   clear A Hf Ha
   go_wp2_with (at_builtin;refine wpList_append_own _ rfl _ _ 67 rfl w 49 i0 _ 3 48 underlying67 hi Hy C Hz rfl (by decide) _ _ _ rfl (Hb.alloc _) ⟨_,0,none⟩ 1 1 (gM (⟨d,f,[]⟩,.slice ca a.length cc)) rfl rfl Ht.o (tZ d f ca a.length cc) (by unfold maxLen;omega) (by omega) Hv ?_;intro r M Hi Hc _)
   go_roundw
   case rel=>
    refine⟨k+1,l++[(⟨d,f,a⟩,.slice ca a.length cc)],by omega,by go_num,by rw[Q2,Hx.o];rfl,by rw[Qj,Hj.o,Hn.o];rfl,?_,λy n=>?_,?_⟩
    ·rw[tX,Q2];exact Hi
    ·rcases Qi.1 n with n|n
     ·exact Hq.o y n
     ·rw[Qm.1 n];exact He.o
    ·exact (Hw.o.alloc Hs _).grown Hc (by simp;omega) λj F=>(Hb.lt j F).1
   case measure=>simp[intOf];omega
  ·have Hp:k=hs.length:=by omega
   have I:Hu (l.map Prod.fst=hs.map af.pod):=by unfold Hu;rw[Hj.o,Hp,Qh]
   clear Hp
   go_wp2
   go_ret;exact⟨_,rfl,⟨l,I.o,Ha,λx s=>(Hq.o x s).below q.o⟩,q.o⟩
theorem Rt{ds:List ak}(b:m.op<18446744073709551616)(ag:dI ds=0)(d:p.cs.length=1)(i:bu p=0)(a:bS m [p]=true)(f:(aX m ⟨m.op,ds,λ_=>false⟩ p).1=0):(bi ⟨m,ds,[]⟩ p).1=0:=by
 have j:be m ds []=some ⟨m.op,ds,λ_=>false⟩:=B8 ag;unfold bi;dsimp only;rw[j,Option.getD_some];have Hj:¬ ∃x∈([]:List af),x.pod.nm=p.nm:=λ⟨x,c,_⟩=>by cases c
 have He:¬ bS m (([]:List af).map af.pod++[p])=false:=λe=>by
  have h:bS m [p]=false:=e;rw[a] at h;cases h
 rw[if_neg (by omega),if_neg Hj,if_neg (by simp),if_neg He,if_neg (by omega)];have n:tG p.cs:=tH (by omega);have Hk:(⟨m.op,ds,λ_=>false⟩:aE).ds.length<=16:=(mn ag).1;have Hc:(aX m ⟨m.op,ds,λ_=>false⟩ p).2.length=p.cs.length:=qT _ _ p.cs p.cs.length f;have Hb:=(wL (m:=m) Hk n p.cs.length (lR) f).1;have Ha:cD [] (⟨p,(aX m ⟨m.op,ds,λ_=>false⟩ p).2⟩:af)=[⟨p,(aX m ⟨m.op,ds,λ_=>false⟩ p).2⟩]:=rfl;have Hg:bw [(⟨p,(aX m ⟨m.op,ds,λ_=>false⟩ p).2⟩:af)]=0:=by
  refine cW.2 ⟨by simp,λx c=>?_,List.pairwise_singleton _ _⟩;rw[Qm.1 c];exact⟨i,Hc,wR (wQ p.cs.length)⟩
 have Hi:∀g∈(aX m ⟨m.op,ds,λ_=>false⟩ p).2,g.cp<18446744073709551616:=by
  intro g Hf;rw[d] at Hb;obtain⟨k,o,rfl⟩:=wk Hf;have Hh:k=0:=by omega
  subst Hh;have e:(List.range 1).map (ke p.cs (b8 m ⟨m.op,ds,λ_=>false⟩ p.cs 1).2.1)=[ke p.cs (b8 m ⟨m.op,ds,λ_=>false⟩ p.cs 1).2.1 0]:=rfl;rw[e,cQ] at Hb;obtain⟨q,l,_⟩:=Option.bind_eq_some_iff.1 Hb
  have:=(kL.1 l).2.1.1
  unfold aX;rw[d];exact Cc this b
 rw[Ha,if_neg (by have:=Nd Hg Hi d;omega)]
theorem DS(a:(bi t p).1=0):(bi t p).2.length=t.hs.length+1:=by
 unfold bi at a ⊢
 split
 ·rename_i b;rw[if_pos b] at a;exact absurd a b
 ·rename_i b
  rw[if_neg b] at a
  split
  ·rename_i e;rw[if_pos e] at a;cases a
  ·rename_i e
   rw[if_neg e] at a
   split
   ·rename_i f;rw[if_pos f] at a;cases a
   ·rename_i f
    rw[if_neg f] at a
    split
    ·rename_i d;rw[if_pos d] at a;cases a
    ·rename_i d
     rw[if_neg d] at a
     split
     ·rename_i c;rw[if_pos c] at a;exact absurd a c
     ·rename_i c
      rw[if_neg c] at a
      split
      ·rename_i g;rw[if_pos g] at a;cases a
      ·unfold cD;simp;omega
theorem Ru(A:Nat):aA A<=64:=by grind[aA,bf]
def gh:dE:=⟨[⟨0,0,0⟩],0,9,0,[]⟩
def jE:aj:=⟨⟨#[97]⟩,0,[⟨⟨#[120]⟩,0,0,0,0,[]⟩]⟩
theorem Rv:cX gh=0:=by decide
theorem DT:bu jE=0:=by decide
theorem DU:bS (cB gh) [jE]=true:=by decide
theorem Rw:(bi ⟨cB gh,[],[]⟩ jE).1=0:=by
 refine Rt (by decide) (by decide) rfl DT DU ?_;exact Nl (hs:=[]) rfl (by decide) Ru (B8 (by decide)) (by decide) (λx a=>by cases a) DT (λc b=>by rw[Qm.1 b]) DU
def Rx (p:aj):af:=⟨p,List.replicate p.cs.length ⟨0,[]⟩⟩
def Ry (m:aL):Bool:=(fj m [⟨true,[]⟩]).2
theorem Rz(h:a.Sublist b)(d:∀p∈b,bu p=0):cP a<=cP b/\ey a<=ey b:=by
 induction h with
 | slnil=>exact⟨Int.le_refl _,Int.le_refl _⟩
 | @cons l1 l2 x hs ih=>
  have e:=ih λp c=>d p (Qv _ c)
  have m:=qE (d x List.mem_cons_self);have f:=tl m (lR);have a2:=qF m (lR);unfold cP ey at *;rw[Qq,Qq,List.sum_cons,List.sum_cons];omega
 | @cons_cons l1 l2 x hs ih=>
  have e:=ih λp c=>d p (Qv _ c)
  unfold cP ey at *;rw[Qq,Qq,Qq,Qq,List.sum_cons,List.sum_cons,List.sum_cons,List.sum_cons];omega
theorem DV{a b:List Int}(h:a.Perm b):a.sum=b.sum:=by induction h <;> grind
theorem RA(h:a.Perm b):bS m a=bS m b:=by
 unfold bS cP ey;rw[DV (h.map _),DV (h.map _)]
theorem RB(h:a.Sublist b)(c:∀p∈b,bu p=0)(d:bS m b=true):bS m a=true:=by
 have:=Rz h c
 unfold bS at *;rw[Bool.and_eq_true,Qp,Qp] at *;omega
structure WQ (t:bl) (l:List aj):Prop where
 perm:t.hs.Perm (l.map Rx)
 good:l≠[]->bS t.m l=true/\Ry t.m=true/\(bn t.hs).length<=6000
structure eH (W:World) (N g sz n:Nat) (f:Nat->List Value):Prop where
 base:N<=g
 lt:g<W
 cell:∀k,k<n->∀j,j<sz->W.cell? ⟨g,k*sz+j,none⟩=(f k)[j]?
 free:∀j,W.frozen? ⟨g,j,none⟩=false
theorem lM(hf:∀k,(f k).length=sz)(n:Nat):((List.range n).flatMap f).length=n*sz:=by
 induction n with
 | zero=>simp
 | succ n ih=>rw[List.range_succ,List.flatMap_append,Q2,ih];simp[hf,Nat.succ_mul]
theorem ro(hf:∀k,(f k).length=sz)(n k j:Nat)(b:k<n)(a:j<sz):((List.range n).flatMap f)[k*sz+j]?=(f k)[j]?:=by
 induction n with
 | zero=>omega
 | succ n ih=>
  rw[List.range_succ,List.flatMap_append]
  by_cases h:k<n
  ·rw[List.getElem?_append_left]
   ·exact ih h
   ·rw[lM hf]
    have:(k+1)*sz<=n*sz:=Nat.mul_le_mul_right _ h
    rw[Nat.succ_mul] at this;omega
  ·have:k=n:=by omega
   subst this;rw[List.getElem?_append_right (by rw[lM hf];omega),lM hf]
   simp
theorem rp(g:0<sz)(hf:∀k,(f k).length=sz){w:World}{b o:Nat}(h:∀k,k<n->∀j,j<sz->w.cell? ⟨b,o+k*sz+j,none⟩=(f k)[j]?):∀j u,((List.range n).flatMap f)[j]?=some u->w.cell? ((⟨b,o,none⟩:Addr).add j)=some u:=by
 intro j u a;have i:j<n*sz:=by
  have:=(List.getElem?_eq_some_iff.1 a).1
  rw[lM hf] at this;exact this
 have c:j / sz<n:=Nat.div_lt_of_lt_mul (by rw[Nat.mul_comm];exact i);have d:j % sz<sz:=Nat.mod_lt _ g;have e:j / sz*sz+j % sz=j:=by rw[Nat.mul_comm];exact Nat.div_add_mod j sz
 rw[<- e,ro hf n _ _ c d] at a;rw[Addr.add_lit,<- e,<- Nat.add_assoc,h _ c _ d];exact a
theorem rq(h:∀k,k<n->∀u∈f k,u.oneCell'=true):∀u∈(List.range n).flatMap f,u.oneCell'=true:=by grind
theorem pD{base:Nat}{e:TypeId}{v:Value}{d:List Value}(h:W.ownsRow base e sz v n d)(hf:∀k,k<n->∀j,j<sz->d[k*sz+j]?=(f k)[j]?) :
  ∃i a,v=.slice i n a/\(n<=a/\a<=maxLen)/\(0<n->∃g,i=some ⟨g,0,none⟩/\eH W base g sz n f):=by
 rcases h.2 with⟨rfl,rfl⟩|⟨g,a,m,rfl,p,b,Hb,Ha,Hc,q⟩
 ·exact⟨none,0,rfl,⟨lR,Nat.zero_le _⟩,λh=>by omega⟩
 ·refine⟨_,a,rfl,⟨Hb,Ha⟩,λ_=>⟨g,rfl,p,(gS b).1,λk c j o=>?_,λj=>by simp[World.frozen?,b]⟩⟩;rw[<- hf k c j o,<- q,List.getElem?_take];have l:k*sz+j<n*sz:=by
   have:(k+1)*sz<=n*sz:=Nat.mul_le_mul_right _ c
   rw[Nat.succ_mul] at this;omega
  rw[if_pos l]
  simp[World.cell?,b]
theorem eH.keep(h:eH W N g sz n f)(b:W'.heap[g]?=W.heap[g]?)(hs:W<=W'.heap.size):eH W' N g sz n f:=
 ⟨h.base,Q1 h.lt hs,λk d j c=>(World.cell?_of_block (a:=⟨g,k*sz+j,none⟩) b).trans (h.cell k d j c),λj=>by
  have:=h.free j
  simp only[World.frozen?] at this ⊢;rw[b];exact this⟩
theorem eH.below(h:eH W N g sz n f)(a:Below W W W'):eH W' N g sz n f:=h.keep (a.block g h.lt) a.size
theorem eH.set(h:eH W N g sz n f)(k j:Nat)(o:k<n)(r:j<sz)(v:Value)(d:Nat->List Value)(s:∀i,i<n->i≠k->d i=f i)(p:∀i,i<sz->(d k)[i]?=if i=j then some v else (f k)[i]?)(m:(f k).length=sz):eH (W.setCell ⟨g,k*sz+j,none⟩ v) N g sz n d:=by
 have Hb:W.cell? ⟨g,k*sz+j,none⟩≠none:=by
  rw[h.cell k o j r,Qf (by omega)];simp
 have Ha:(W.setCell ⟨g,k*sz+j,none⟩ v).heap.size=W.heap.size:=by simp
 refine⟨h.base,by rw[Ha];exact h.lt,λi hi q e=>?_,λq=>by rw[World.frozen?_setCell];exact h.free q⟩
 by_cases a:i=k
 ·subst a;rw[p q e]
  by_cases b:q=j
  ·subst b;rw[if_pos rfl];obtain⟨u,l⟩:∃u,W.cell? ⟨g,i*sz+q,none⟩=some u:=Option.ne_none_iff_exists'.1 Hb;exact World.cell?_setCell_same _ _ _ l
  ·rw[if_neg b,<- h.cell i hi q e];exact Qb _ _ _ _ (by simp only[ne_eq,Addr.mk.injEq,true_and,and_true];omega)
 ·rw[s i hi a,<- h.cell i hi q e];refine Qb _ _ _ _ ?_;simp only[ne_eq,Addr.mk.injEq,true_and,and_true];have c:i<k\/k<i:=by omega
  rcases c with c|c
  ·have:(i+1)*sz<=k*sz:=Nat.mul_le_mul_right _ c
   rw[Nat.succ_mul] at this;omega
  ·have:(k+1)*sz<=i*sz:=Nat.mul_le_mul_right _ c
   rw[Nat.succ_mul] at this;omega
noncomputable abbrev fresh (N:Nat) (W:World):World:=au (λj=>j<N) W
theorem kr{b o:Nat}(h:N<=b):(fresh N W).cell? ⟨b,o,none⟩=W.cell? ⟨b,o,none⟩:=World.cell?_of_block (a:=⟨b,o,none⟩) (b9 (λk=>by have k:b<N:=k;omega))
theorem pE(h:∀j,N<=j->j<W.heap.size->W'.heap[j]?=W.heap[j]?)(hs:W<=W'.heap.size)(f:N'<=N):aZ (fresh N W) (fresh N' W'):=by
 refine⟨by rw[bX,bX];exact hs,λb o v e=>?_⟩;have d:=fk e;have c:b<W.heap.size:=by have:=Q3 _ ⟨b,o,none⟩ e;rw[bX] at this;exact this
 have Ha:N<=b:=by simpa using d
 rw[kr Ha] at e;rw[kr (by omega)];exact (World.cell?_of_block (a:=⟨b,o,none⟩) (h b Ha c)).trans e
theorem bE{M M':Nat->Prop}(h:∀j,j<W.heap.size->¬ M j->¬ M' j/\W'.heap[j]?=W.heap[j]?)(hs:W<=W'.heap.size):aZ (au M W) (au M' W'):=by
 refine⟨by rw[bX,bX];exact hs,λb o v e=>?_⟩;have c:=fk e;have g:b<W.heap.size:=by have:=Q3 _ ⟨b,o,none⟩ e;rw[bX] at this;exact this
 obtain⟨d,f⟩:=h b g c;have i:(au M' W').heap[b]?=(au M W).heap[b]?:=by rw[b9 d,b9 c];exact f
 exact (World.cell?_of_block (a:=⟨b,o,none⟩) i).trans e
theorem DW(h:Below W W W')(b:N'<=N):aZ (fresh N W) (fresh N' W'):=pE (λj _ a=>h.block j a) h.size b
theorem RC(N:Nat)(W:World):aZ (fresh N W) W:=cJ _ _
theorem RD{ds:List ap}(h:eH W N g 2 n (λk=>[.string (aq ds k).kind,.int .i64 (aq ds k).many]))(b:n=ds.length)(c:ds.length<=maxLen):bv (fresh N W) (.slice g n cap) ds:=by
 subst b;refine⟨_,_,rfl,c,λ_=>⟨g,0,rfl,by rw[bX];exact h.lt,λk a=>?_⟩⟩;rw[kr h.base,kr h.base,Qd];exact⟨h.cell k a 0 (by decide),h.cell k a 1 (by decide)⟩
theorem DX(W:World)(a:Option Addr)(c:Nat):bv W (.slice a 0 c) []:=⟨a,c,rfl,Nat.zero_le _,λh=>absurd h (Nat.lt_irrefl 0)⟩
theorem RE{cs:List aB}(h:eH W N g 6 n (λk=>di (ae cs k) (dv k)))(b:n=cs.length)(d:n<=cap/\cap<=maxLen)(ag:∀k,k<n->bv (fresh N W) (dv k) (ae cs k).ds):aQ (fresh N W) (.slice g n cap) cs:=by
 subst b;refine⟨_,_,rfl,d,λ_=>⟨g,0,dv,rfl,by rw[bX];exact h.lt,λk a=>⟨λj c=>?_,ag k a⟩⟩⟩;rw[kr h.base,Qd];exact h.cell k a j c
theorem RF{a:List Int}(h:eH W N g 1 n (λk=>[.int .i64 (a.getD k 0)]))(b:n=a.length)(c:n<=cap/\cap<=maxLen):bD (fresh N W) (.slice g n cap) a:=by
 subst b;refine⟨_,_,rfl,c,λ_=>⟨g,0,rfl,by rw[bX];exact h.lt,λk d=>?_⟩⟩;rw[kr h.base,Qd]
 simpa using h.cell k d 0 (by decide)
theorem RG{gs:List aR}(h:eH W N g 2 n (λk=>[.int .u64 (aD gs k).cp,dv k]))(b:n=gs.length)(c:n<=cap/\cap<=maxLen)(ag:∀k,k<n->(aD gs k).cp<18446744073709551616/\bD (fresh N W) (dv k) (aD gs k).dv):b7 (fresh N W) (.slice g n cap) gs:=by
 subst b;refine⟨_,_,rfl,c,λ_=>⟨g,0,dv,rfl,by rw[bX];exact h.lt,λk a=>⟨⟨?_,?_,(ag k a).1⟩,(ag k a).2⟩⟩⟩
 ·rw[kr h.base,Qd];exact h.cell k a 0 (by decide)
 ·rw[kr h.base,Qd];exact h.cell k a 1 (by decide)
theorem RH(v:Value)(ds:List ap)(w:World)(h:bv w v ds)(t:ds.length<=1000):Calls prog 64 #[v] w λe w'=>∃m c,e=.returned (.slice m ds.length c)/\bv (fresh w w') (.slice m ds.length c) ds/\Below w w w':=by
 obtain⟨m,c,rfl,z,s⟩:=h;cases m with
 | none=>
  refine (Rm _ _ _).mono ?_;rintro e w' ⟨rfl,rfl⟩;have l:ds.length=0:=by
   apply Qt;intro l;obtain⟨b,o,n,_⟩:=s (by omega);cases n
  have:ds=[]:=List.length_eq_zero_iff.1 l
  subst this;exact⟨none,0,rfl,DX _ _ _,Q0 _ _⟩
 | some a=>
  refine (Rl a ds.length c ((List.range ds.length).flatMap λk=>[.string (aq ds k).kind,.int .i64 (aq ds k).many]) w (lM (by intro _;rfl) _) ?_ (rq λk _ u d=>?_) t).mono ?_
  ·intro j u d
   by_cases l:0<ds.length
   ·obtain⟨b,o,n,_,r⟩:=s l;cases n;exact rp (sz:=2) (by decide) (by intro _;rfl) (λk p i hi=>by
     match i,hi with
     | 0,_=>exact (r k p).1
     | 1,_=>exact (r k p).2) j u d
   ·rw[show ds.length=0 by omega] at d;simp at d
  ·simp at d
   rcases d with rfl|rfl <;> rfl
  ·rintro e w' ⟨u,rfl,Ha,n⟩;obtain⟨m,q,rfl,Hb,y⟩:=pD (f:=λk=>[.string (aq ds k).kind,.int .i64 (aq ds k).many]) Ha λk p j x=>ro (by intro _;rfl) _ _ _ p x;refine⟨m,q,rfl,?_,n⟩
   by_cases l:0<ds.length
   ·obtain⟨g,rfl,A⟩:=y l;exact RD A rfl z
   ·have:ds=[]:=List.length_eq_zero_iff.1 (by omega)
    subst this;exact DX _ _ _
theorem RI(v:Value)(d:List Int)(w:World)(h:bD w v d)(t:d.length<=1000):Calls prog 66 #[v] w λe w'=>∃n c,e=.returned (.slice n d.length c)/\bD (fresh w w') (.slice n d.length c) d/\Below w w w':=by
 obtain⟨n,c,rfl,B,s⟩:=h;cases n with
 | none=>
  refine (Rs _ _ _).mono ?_;rintro e w' ⟨rfl,rfl⟩;have m:d.length=0:=by
   apply Qt;intro m;obtain⟨b,o,p,_⟩:=s (by omega);cases p
  have:d=[]:=List.length_eq_zero_iff.1 m
  subst this;exact⟨none,0,rfl,⟨none,0,rfl,⟨lR,Nat.zero_le _⟩,λh=>absurd h (Nat.lt_irrefl 0)⟩,Q0 _ _⟩
 | some a=>
  refine (Rr a d.length c ((List.range d.length).flatMap λk=>[.int .i64 (d.getD k 0)]) w (lM (by intro _;rfl) _) ?_ (rq λk _ u l=>?_) t).mono ?_
  ·intro j u l
   by_cases m:0<d.length
   ·obtain⟨b,o,p,_,y⟩:=s m;cases p;exact rp (sz:=1) (by decide) (by intro _;rfl) (λk q i hi=>by
     match i,hi with
     | 0,_=>rw[Nat.mul_one];exact y k q) j u l
   ·rw[show d.length=0 by omega] at l;simp at l
  ·simp at l
   rcases l with rfl;rfl
  ·rintro e w' ⟨u,rfl,Hb,p⟩;obtain⟨n,r,rfl,Ha,z⟩:=pD (f:=λk=>[.int .i64 (d.getD k 0)]) Hb λk q j x=>ro (by intro _;rfl) _ _ _ q x;refine⟨n,r,rfl,?_,p⟩
   by_cases m:0<d.length
   ·obtain⟨g,rfl,A⟩:=z m;exact RF A rfl Ha
   ·have:d=[]:=List.length_eq_zero_iff.1 (by omega)
    subst this;exact⟨_,_,rfl,Ha,λh=>absurd h (Nat.lt_irrefl 0)⟩
theorem RJ(v:Value)(cs:List aB)(w W0:World)(h:aQ W0 v cs)(l:aZ W0 w)(t:cs.length<=1000):Calls prog 63 #[v] w λe w'=>∃d c,e=.returned (.slice d cs.length c)/\(cs.length<=c/\c<=maxLen)/\(0<cs.length->∃(g:Nat) (dv:Nat->Value),d=some ⟨g,0,none⟩/\eH w' w g 6 cs.length (λk=>di (ae cs k) (dv k))/\∀k,k<cs.length->bv W0 (dv k) (ae cs k).ds)/\Below w w w':=by
 obtain⟨d,c,rfl,E,A⟩:=h;cases d with
 | none=>
  refine (Ro _ _ _).mono ?_;rintro e w' ⟨rfl,rfl⟩;have r:cs.length=0:=by
   apply Qt;intro r;obtain⟨b,o,dv,n,_⟩:=A (by omega);cases n
  rw[r];exact⟨none,0,rfl,⟨lR,Nat.zero_le _⟩,λh=>by omega,Q0 _ _⟩
 | some a=>
  by_cases r:0<cs.length
  ·obtain⟨b,o,dv,n,s⟩:=A r;cases n;refine (DI ⟨b,o,none⟩ cs.length c ((List.range cs.length).flatMap λk=>di (ae cs k) (dv k)) w (lM (by intro _;rfl) _) (rp (sz:=6) (by decide) (by intro _;rfl) (λk m i hi=>by
     have y:i<(di (ae cs k) (dv k)).length:=hi;rw[Qf y];exact l.cell _ _ _ (((s.2 k m).1 i hi).trans (Qf y)))) (rq λk m u p=>?_) t).mono ?_
   ·obtain⟨D,nc,B,_⟩:=(s.2 k m).2;rw[B] at p
    simp[di] at p
    rcases p with rfl|rfl|rfl|rfl|rfl|rfl <;> rfl
   ·rintro e w' ⟨u,rfl,Hb,n⟩;obtain⟨d,q,rfl,Ha,z⟩:=pD (f:=λk=>di (ae cs k) (dv k)) Hb λk m j x=>ro (by intro _;rfl) _ _ _ m x;refine⟨d,q,rfl,Ha,λ_=>?_,n⟩;obtain⟨g,rfl,C⟩:=z r;exact⟨g,dv,rfl,C,λk m=>(s.2 k m).2⟩
  ·refine (DI a cs.length c [] w (by rw[show cs.length=0 by omega];rfl) (λj u p=>by simp at p) (λu p=>(List.not_mem_nil p).elim) t).mono ?_;rintro e w' ⟨u,rfl,Hb,n⟩;obtain⟨d,q,rfl,Ha,z⟩:=pD (f:=λ_=>[]) Hb (λk m j x=>by omega);exact⟨d,q,rfl,Ha,λh=>absurd h r,n⟩
theorem RK(v:Value)(gs:List aR)(w W0:World)(h:b7 W0 v gs)(l:aZ W0 w)(t:gs.length<=1000):Calls prog 65 #[v] w λe w'=>∃m c,e=.returned (.slice m gs.length c)/\(gs.length<=c/\c<=maxLen)/\(0<gs.length->∃(g:Nat) (dv:Nat->Value),m=some ⟨g,0,none⟩/\eH w' w g 2 gs.length (λk=>[.int .u64 (aD gs k).cp,dv k])/\∀k,k<gs.length->(aD gs k).cp<18446744073709551616/\bD W0 (dv k) (aD gs k).dv)/\Below w w w':=by
 obtain⟨m,c,rfl,D,z⟩:=h;cases m with
 | none=>
  refine (Rp _ _ _).mono ?_;rintro e w' ⟨rfl,rfl⟩;have r:gs.length=0:=by
   apply Qt;intro r;obtain⟨b,o,dv,n,_⟩:=z (by omega);cases n
  rw[r];exact⟨none,0,rfl,⟨lR,Nat.zero_le _⟩,λh=>by omega,Q0 _ _⟩
 | some a=>
  by_cases r:0<gs.length
  ·obtain⟨b,o,dv,n,s⟩:=z r;cases n;refine (DK ⟨b,o,none⟩ gs.length c ((List.range gs.length).flatMap λk=>[.int .u64 (aD gs k).cp,dv k]) w (lM (by intro _;rfl) _) (rp (sz:=2) (by decide) (by intro _;rfl) (λk d i hi=>by
     match i,hi with
     | 0,_=>exact l.cell _ _ _ (s.2 k d).1.1
     | 1,_=>exact l.cell _ _ _ (s.2 k d).1.2.1)) (rq λk d u p=>?_) t).mono ?_
   ·obtain⟨C,nc,A,_⟩:=(s.2 k d).2;rw[A] at p
    simp at p
    rcases p with rfl|rfl <;> rfl
   ·rintro e w' ⟨u,rfl,Hb,n⟩;obtain⟨m,q,rfl,Ha,y⟩:=pD (f:=λk=>[.int .u64 (aD gs k).cp,dv k]) Hb λk d j x=>ro (by intro _;rfl) _ _ _ d x;refine⟨m,q,rfl,Ha,λ_=>?_,n⟩;obtain⟨g,rfl,B⟩:=y r;exact⟨g,dv,rfl,B,λk d=>⟨(s.2 k d).1.2.2,(s.2 k d).2⟩⟩
  ·refine (DK a gs.length c [] w (by rw[show gs.length=0 by omega];rfl) (λj u p=>by simp at p) (λu p=>(List.not_mem_nil p).elim) t).mono ?_;rintro e w' ⟨u,rfl,Hb,n⟩;obtain⟨m,q,rfl,Ha,y⟩:=pD (f:=λ_=>[]) Hb (λk d j x=>by omega);exact⟨m,q,rfl,Ha,λh=>absurd h r,n⟩
def ub (h:af) (cv gvv:Value):List Value:=[.string h.pod.nm,.int .i64 h.pod.pr,cv,gvv]
theorem DY(v:Value)(hs:List af)(w W0:World)(h:aY W0 v hs)(l:aZ W0 w)(r:hs.length<=1000):Calls prog 55 #[v] w λe w'=>∃(u:Value) (cv d:Nat->Value),e=.returned u/\w'.ownsRow w 101 4 u hs.length ((List.range hs.length).flatMap λk=>ub (ag hs k) (cv k) (d k))/\(∀k,k<hs.length->aQ W0 (cv k) (ag hs k).pod.cs/\b7 W0 (d k) (ag hs k).gs)/\Below w w w':=by
 obtain⟨t,c,rfl,B,s⟩:=h;cases t with
 | none=>
  refine (Rq _ _ _).mono ?_;rintro e w' ⟨rfl,rfl⟩;have p:hs.length=0:=by
   apply Qt;intro p;obtain⟨b,o,cv,d,m,_⟩:=s (by omega);cases m
  rw[p];exact⟨_,λ_=>.nilIface,λ_=>.nilIface,rfl,⟨rfl,.inl ⟨rfl,rfl⟩⟩,λk f=>by omega,Q0 _ _⟩
 | some a=>
  by_cases p:0<hs.length
  ·obtain⟨b,o,cv,d,m,g⟩:=s p;cases m;refine (DM ⟨b,o,none⟩ hs.length c ((List.range hs.length).flatMap λk=>ub (ag hs k) (cv k) (d k)) w (lM (by intro _;rfl) _) (rp (sz:=4) (by decide) (by intro _;rfl) (λk f i hi=>by
     match i,hi with
     | 0,_=>exact l.cell _ _ _ (g.2 k f).1.1
     | 1,_=>exact l.cell _ _ _ (g.2 k f).1.2.1
     | 2,_=>exact l.cell _ _ _ (g.2 k f).1.2.2.1
     | 3,_=>exact l.cell _ _ _ (g.2 k f).1.2.2.2)) (rq λk f u n=>?_) r).mono ?_
   ·obtain⟨z,nc,x,_⟩:=(g.2 k f).2.1;obtain⟨y,A,Hb,_⟩:=(g.2 k f).2.2;rw[x,Hb] at n
    simp[ub] at n
    rcases n with rfl|rfl|rfl|rfl <;> rfl
   ·rintro e w' ⟨u,rfl,Ha,m⟩;exact⟨u,cv,d,rfl,Ha,λk f=>(g.2 k f).2,m⟩
  ·have q:hs.length=0:=by omega
   refine (DM a hs.length c [] w (by rw[q];rfl) (λj u n=>by simp at n) (λu n=>(List.not_mem_nil n).elim) r).mono ?_;rintro e w' ⟨u,rfl,Ha,m⟩;refine⟨u,λ_=>.nilIface,λ_=>.nilIface,rfl,?_,λk f=>absurd f (by omega),m⟩;rw[q] at Ha ⊢;exact Ha
theorem RL(a:bS t.m (t.hs.map af.pod)=true):bS t.m ((bi t p).2.map af.pod)=true:=by
 unfold bi
 split
 ·exact a
 split
 ·exact a
 split
 ·exact a
 split
 ·exact a
 rename_i c
 split
 ·exact a
 split
 ·exact a
 have Ha:bS t.m (t.hs.map af.pod++[p])=true:=by simpa using c
 have b:=(wP t.hs ⟨p,(aX t.m ((be t.m t.ds t.hs).getD ⟨0,[],λ_=>false⟩) p).2⟩).map af.pod;rw[Qj] at b;rw[<- RA b];exact Ha
theorem RM(h:fY t)(a:hs.Sublist t.hs)(d:bS t.m (t.hs.map af.pod)=true):bS t.m (hs.map af.pod)=true:=by
 obtain⟨_,a2,_⟩:=cW.1 h.held;refine RB (a.map af.pod) (λp b=>?_) d;obtain⟨x,c,rfl⟩:=Qk.1 b;exact (a2 x c).1
def ks (ds ds':List ak):Prop:=ds'.length=ds.length/\∀j,(aC ds' j).kind=(aC ds j).kind/\(aC ds' j).node=(aC ds j).node
theorem ud(ds:List ak):ks ds ds:=⟨rfl,λ_=>⟨rfl,rfl⟩⟩
theorem DZ(h:n<ds.length)(b:Bool):ks ds (jS ds n b):=⟨qt ds n b,λj=>by
 rw[vD h]
 split
 ·rename_i e;rw[e];exact⟨rfl,rfl⟩
 ·exact⟨rfl,rfl⟩⟩
theorem D0(h:ks ds ds'):dI ds'=dI ds:=by
 unfold dI;rw[h.1]
 split
 ·rfl
 ·refine I7 λk _=>?_
  unfold iy;rw[(h.2 k).1,(h.2 k).2]
theorem RN(h:ks ds ds'):ew ds'=ew ds:=by
 funext m j
 unfold ew;rw[(h.2 _).1]
def pF (s:aE) (ds':List ak):aE:=⟨s.cp,ds',s.us⟩
theorem RO(h:ks ds ds'){x:eG}(c:qQ ds x):qQ ds' x:=by
 obtain⟨a,d,e⟩:=c;refine⟨a,?_,λk b=>?_⟩
 ·unfold kK at *;rw[RN h];exact d
 ·rw[h.1];exact e k b
theorem RP:∀ {l:List eG} {s a:aE},ks s.ds ds'->cQ s l=some a->cQ (pF s ds') l=some (pF a ds'):=by
 intro l
 induction l with
 | nil=>intro s a _ h;rw[cQ] at h;injection h with h;rw[h];rfl
 | cons x r ih=>
  intro s a c h;rw[cQ] at h ⊢;obtain⟨g,b,d⟩:=Option.bind_eq_some_iff.1 h;obtain⟨f,a2,a3⟩:=kL.1 b;have e:ex (pF s ds') x.g x.own x.ns=some (pF g ds'):=kL.2 ⟨RO c f,a2,by rw[a3];rfl⟩;rw[e,Option.bind_some];exact ih (by rw[BV b];exact c) d
theorem D1{s:aE}(a:ks ds ds')(h:be m ds hs=some s):be m ds' hs=some (pF s ds'):=by
 unfold be at *;rw[D0 a]
 split at h
 ·rename_i hf
  rw[if_pos hf];rw[po _ _ _ (lR),Qh] at *;exact RP (s:=⟨m.op,ds,λ_=>false⟩) a h
 ·cases h
theorem RQ{t:bl}(h:fY t)(a:ks t.ds ds'):fY { t with ds:=ds' }:=by
 obtain⟨s,hs⟩:=h.left;exact⟨(D0 a).trans h.devs,h.held,_,D1 a hs⟩
theorem RR(v:Value)(gs:List aR)(w:World)(h:b7 w v gs)(P:gs.length<=1000)(s:∀k,k<gs.length->(aD gs k).dv.length<=1000):Calls prog 30 #[v] w λe w'=>∃f c,e=.returned (.slice f gs.length c)/\b7 (fresh w w') (.slice f gs.length c) gs/\Below w w w':=by
 have Hw:=qI (RK v gs w w h (aZ.refl _) P);have E:=qI s;obtain⟨D,c0,rfl,Hz,_⟩:=h;clear Hz s
 go_enter func30,ntmps30
 go_wp2_with fail
 refine Hw.o.mono ?_;rintro e R ⟨f,c,rfl,Hj,B,Hi⟩;have Hk:=qI Hj;obtain⟨g,dv,Ht⟩:∃(g:Nat) (dv:Nat->Value),0<gs.length->f=some ⟨g,0,none⟩/\eH R w g 2 gs.length (λk=>[.int .u64 (aD gs k).cp,dv k])/\∀k,k<gs.length->(aD gs k).cp<18446744073709551616/\bD w (dv k) (aD gs k).dv:=by
  by_cases q:0<gs.length
  ·obtain⟨g,dv,K⟩:=B q;exact⟨g,dv,λ_=>K⟩
  ·exact⟨0,λ_=>.nilIface,λh=>absurd h q⟩
 have y:=qI Ht;have L:=qI Hi;clear Hj B Ht Hi Hw
 go_wp2
 go_loopw [9] (λi wr=>∃(k:Nat) (n:Nat->Value),k<=gs.length/\i=.int .i64 k/\Below w w wr/\Hu (0<gs.length->eH wr w g 2 gs.length (λj=>[.int .u64 (aD gs j).cp,n j]))/\Hu (∀j,j<k->bD (au (λb=>b<w.heap.size\/b=g) wr) (n j) (aD gs j).dv)/\Hu (∀j,k<=j->n j=dv j)) (λi _=>gs.length - (intOf i).toNat)
 case atStart=>exact⟨0,dv,by omega,rfl,L.o,λh=>(y.o h).2.1,λj r=>by omega,λj _=>rfl⟩
 case round=>
  obtain⟨k,n,V,rfl,l,Hh,Hf,He⟩:=hrel;have A:=qI l
  by_cases a:k<gs.length
  ·obtain⟨rfl,_,Hm⟩:=y.o (by omega);have Hb:=Hh.o (by omega);have S:cl wr g (k*2) (.int .u64 (aD gs k).cp):=Hb.cell k a 0 (by decide);have G:cl wr g (k*2+1) (dv k):=by rw[<- He.o k (lR)];exact Hb.cell k a 1 (by decide)
   have Hc:=(Hm k a).2;obtain⟨x,u,Hp,_⟩:=id Hc;rw[Hp] at G Hc;have z:=l.alloc l.size (.cells #[.int .u64 (aD gs k).cp,.slice x (aD gs k).dv.length u] 123);have Hy:(wr.alloc (.cells #[.int .u64 (aD gs k).cp,.slice x (aD gs k).dv.length u] 123)).heap.size=wr.heap.size+1:=by simp
   have Hs:=qI (RI (.slice x (aD gs k).dv.length u) (aD gs k).dv (wr.alloc (.cells #[.int .u64 (aD gs k).cp,.slice x (aD gs k).dv.length u] 123)) (Hc.below z) (E.o k a));have U:=qI z;have Z:=Hb.lt;have F:=Hb.base;have Q:=l.size;have Hv:(k:Int)<(gs.length:Int):=by omega
   clear Hb Hm Hc l Hp z;generalize hcp:(aD gs k).cp=cp at *;have T:=qI hcp;have Y:Hu ((aD gs k).dv=(aD gs k).dv):=rfl;clear hcp;generalize hxs:(aD gs k).dv=o at *;have O:=qI hxs;clear hxs
   go_wp2_with fail
   refine Hs.o.mono ?_;rintro e d ⟨m,nc,rfl,Hx,Hg⟩;have Hn:Below wr wr d:=((Q0 wr wr).alloc (lR) _).trans (Hg.mono (by simp));have Ha:=(Hh.o (by omega)).below Hn;have y1:cl d g (k*2+1) (n k):=Ha.cell k a 1 (by decide);have f1:=Ha.free (k*2+1);have Hq:=qI Hn;have I:=qI Hx;have J:=qI Ha;have W:wr+1<=d.heap.size:=by have:=Hg.size;simp at this;omega
   clear Hx Hg Hn Ha Hs
   go_wp2_with fail
   have Hr:Hu (∀b,b≠g->(d.setCell ⟨g,k*2+1,none⟩ (.slice m o.length nc)).heap[b]?=d.heap[b]?):=λb l=>set_other l
   have Hl:(d.setCell ⟨g,k*2+1,none⟩ (.slice m o.length nc)).heap.size=d.heap.size:=by simp
   have C:=qI (J.o.set k 1 a (by decide) (.slice m o.length nc) (λj=>[.int .u64 (aD gs j).cp,if j=k then .slice m o.length nc else n j]) (λi _ hi=>by simp[hi]) (λi hi=>by
    match i,hi with
    | 0,_=>simp
    | 1,_=>simp) rfl)
   have H:=qI ((A.o.trans (Hq.o.mono Q)).setCell (p:=⟨g,k*2+1,none⟩) F (.slice m o.length nc));generalize d.setCell ⟨g,k*2+1,none⟩ (.slice m o.length nc)=X at *
   go_roundw
   case rel=>
    refine⟨k+1,λj=>if j=k then .slice m o.length nc else n j,by omega,by go_num,H.o,λ_=>C.o,λj r=>?_,λj r=>?_⟩
    ·by_cases t:j=k
     ·subst t;dsimp only;rw[if_pos rfl,O.o];refine I.o.le (bE (λb Hi Hg=>?_) (by rw[Hl];exact lR));rw[Hy] at Hg;exact⟨by omega,Hr.o b (by omega)⟩
     ·dsimp only;rw[if_neg t];refine (Hf.o j (by omega)).le (bE (λb Hi Hg=>⟨Hg,?_⟩) (by rw[Hl];omega));rw[Hr.o b (by omega)];exact Hq.o.block b Hi
    ·dsimp only;rw[if_neg (by omega)];exact He.o j (by omega)
   case measure=>simp[intOf];omega
  ·have M:k=gs.length:=by omega
   subst M;have Ho:Hu (b7 (fresh w wr) (.slice f gs.length c) gs):=by
    unfold Hu
    by_cases q:0<gs.length
    ·obtain⟨N,_,Hm⟩:=y.o q;rw[N];exact RG (Hh.o q) rfl Hk.o λj r=>⟨(Hm j r).1,(Hf.o j r).le (bE (λb _ Hg=>⟨by omega,rfl⟩) (lR))⟩
    ·exact⟨f,c,rfl,Hk.o,λh=>absurd h q⟩
   go_wp2
   go_ret;exact⟨f,c,rfl,Ho.o,A.o⟩
