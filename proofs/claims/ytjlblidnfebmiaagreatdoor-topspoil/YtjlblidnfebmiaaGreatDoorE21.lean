import Derived.Test.YtjlblidnfebmiaaGreatDoorE20
set_option maxRecDepth 100000
set_option maxHeartbeats 16000000
open Go Go.RowKit Go.Shelf
attribute [local go_sem] Oper.semAt_some
open Go.Proofs.Tryz
namespace Go.Proofs.YtjlblidnfebmiaaGreatDoor
variable {N N' b cap g k n sz:Nat} {W W':World} {ds:List ah} {dv:Nat->Value} {f:Nat->List Value} {hs:List ad} {ns:List ai} {p:az} {ps:List az} {t:bU}
theorem Dg (a:Option Addr) (n c:Nat) (w:World):Sem.run prog (binOp .eql 63 (.slice a n c) (.slice none 0 0)) w=.ok a.isNone w:=Lib.run_eql_slice_nil w _ _ a n c 0 0 underlying63
theorem PR (a:Addr) (n c:Nat) (cs:List Value) (w:World) (b:cs.length=n*2) (f:∀ j u,cs[j]?=some u->w.cell? (a.add j)=some u) (g:∀ u∈cs,u.oneCell'=true) (p:n<=1000) :
  Calls prog 64 #[.slice (some a) n c] w λe w'=>∃ v,e=.returned v/\w'.ownsRow w 127 2 v n cs/\Below w w w':=by
 obtain ⟨i0,hi,He,Hf,Hh⟩:=info_parts Cw;have l:=qI ((Q0 w w).alloc (lR) (.cells #[] 127));have i:Hu (∀ j u,cs[j]?=some u->(w.alloc (.cells #[] 127)).cell? (a.add j)=some u):=λj u d=>Lib.cell?_alloc_some _ (f j u d)
 have o:=qI g;have Hc:=qI b;have Hi:=Dg (some a) n c w;clear f g b
 go_enter func64,ntmps64
 go_wp2_with (at_builtin;(refine wpList_append_own _ rfl _ _ 63 rfl w 127 i0 (.agg #[ByteArray.empty,(0:Int)]) 2 24 underlying63 hi He Hf Hh rfl (by decide) _ _ _ rfl (World.ownsRow_lit w #[] 0 (lR) (Nat.zero_le _) rfl) a n c cs rfl Hc.o i.o o.o (by unfold maxLen;omega) (by omega) (by simp) ?_;intro h m Ha Hb _))
 have Hg:=qI (l.o.grown Hb (by simp) (λj d=>by cases d;exact lR));rw [Qd] at Ha;have k:=qI (show m.ownsRow w 127 2 h n cs by simpa using Ha);clear Ha Hb
 go_wp2
 go_ret;exact ⟨_,rfl,k.o,Hg.o⟩
theorem PS (n c:Nat) (w:World):Calls prog 64 #[.slice none n c] w λe w'=>e=.returned (.slice none 0 0)/\w'=w:=by
 have a:=Dg none n c w
 go_enter func64,ntmps64
 go_wp2
 go_ret;exact ⟨rfl,rfl⟩
theorem Dh (a:Option Addr) (n c:Nat) (w:World):Sem.run prog (binOp .eql 47 (.slice a n c) (.slice none 0 0)) w=.ok a.isNone w:=Lib.run_eql_slice_nil w _ _ a n c 0 0 underlying47
theorem Di (a:Addr) (n c:Nat) (cs:List Value) (w:World) (b:cs.length=n*6) (f:∀ j u,cs[j]?=some u->w.cell? (a.add j)=some u) (g:∀ u∈cs,u.oneCell'=true) (p:n<=1000) :
  Calls prog 63 #[.slice (some a) n c] w λe w'=>∃ v,e=.returned v/\w'.ownsRow w 65 6 v n cs/\Below w w w':=by
 obtain ⟨i0,hi,He,Hf,Hh⟩:=info_parts CK;have l:=qI ((Q0 w w).alloc (lR) (.cells #[] 65));have i:Hu (∀ j u,cs[j]?=some u->(w.alloc (.cells #[] 65)).cell? (a.add j)=some u):=λj u d=>Lib.cell?_alloc_some _ (f j u d)
 have o:=qI g;have Hc:=qI b;have Hi:=Dh (some a) n c w;clear f g b
 go_enter func63,ntmps63
 go_wp2_with (at_builtin;(refine wpList_append_own _ rfl _ _ 47 rfl w 65 i0 (.agg #[ByteArray.empty,(0:Int),(0:Int),(0:Int),(0:Int),.slice none 0 0]) 6 72 underlying47 hi He Hf Hh rfl (by decide) _ _ _ rfl (World.ownsRow_lit w #[] 0 (lR) (Nat.zero_le _) rfl) a n c cs rfl Hc.o i.o o.o (by unfold maxLen;omega) (by omega) (by simp) ?_;intro h m Ha Hb _))
 have Hg:=qI (l.o.grown Hb (by simp) (λj d=>by cases d;exact lR));rw [Qd] at Ha;have k:=qI (show m.ownsRow w 65 6 h n cs by simpa using Ha);clear Ha Hb
 go_wp2
 go_ret;exact ⟨_,rfl,k.o,Hg.o⟩
theorem PU (n c:Nat) (w:World):Calls prog 63 #[.slice none n c] w λe w'=>e=.returned (.slice none 0 0)/\w'=w:=by
 have a:=Dh none n c w
 go_enter func63,ntmps63
 go_wp2
 go_ret;exact ⟨rfl,rfl⟩
theorem Dj (a:Option Addr) (n c:Nat) (w:World):Sem.run prog (binOp .eql 99 (.slice a n c) (.slice none 0 0)) w=.ok a.isNone w:=Lib.run_eql_slice_nil w _ _ a n c 0 0 underlying99
theorem Dl (a:Addr) (n c:Nat) (cs:List Value) (w:World) (b:cs.length=n*2) (f:∀ j u,cs[j]?=some u->w.cell? (a.add j)=some u) (g:∀ u∈cs,u.oneCell'=true) (p:n<=1000) :
  Calls prog 65 #[.slice (some a) n c] w λe w'=>∃ v,e=.returned v/\w'.ownsRow w 123 2 v n cs/\Below w w w':=by
 obtain ⟨i0,hi,He,Hf,Hh⟩:=info_parts CM;have l:=qI ((Q0 w w).alloc (lR) (.cells #[] 123));have i:Hu (∀ j u,cs[j]?=some u->(w.alloc (.cells #[] 123)).cell? (a.add j)=some u):=λj u d=>Lib.cell?_alloc_some _ (f j u d)
 have o:=qI g;have Hc:=qI b;have Hi:=Dj (some a) n c w;clear f g b
 go_enter func65,ntmps65
 go_wp2_with (at_builtin;(refine wpList_append_own _ rfl _ _ 99 rfl w 123 i0 (.agg #[.int .u64 0,.slice none 0 0]) 2 32 underlying99 hi He Hf Hh rfl (by decide) _ _ _ rfl (World.ownsRow_lit w #[] 0 (lR) (Nat.zero_le _) rfl) a n c cs rfl Hc.o i.o o.o (by unfold maxLen;omega) (by omega) (by simp) ?_;intro h m Ha Hb _))
 have Hg:=qI (l.o.grown Hb (by simp) (λj d=>by cases d;exact lR));rw [Qd] at Ha;have k:=qI (show m.ownsRow w 123 2 h n cs by simpa using Ha);clear Ha Hb
 go_wp2
 go_ret;exact ⟨_,rfl,k.o,Hg.o⟩
theorem PV (n c:Nat) (w:World):Calls prog 65 #[.slice none n c] w λe w'=>e=.returned (.slice none 0 0)/\w'=w:=by
 have a:=Dj none n c w
 go_enter func65,ntmps65
 go_wp2
 go_ret;exact ⟨rfl,rfl⟩
theorem Dm (a:Option Addr) (n c:Nat) (w:World):Sem.run prog (binOp .eql 43 (.slice a n c) (.slice none 0 0)) w=.ok a.isNone w:=Lib.run_eql_slice_nil w _ _ a n c 0 0 underlying43
theorem Dn (a:Addr) (n c:Nat) (cs:List Value) (w:World) (b:cs.length=n*4) (f:∀ j u,cs[j]?=some u->w.cell? (a.add j)=some u) (g:∀ u∈cs,u.oneCell'=true) (p:n<=1000) :
  Calls prog 55 #[.slice (some a) n c] w λe w'=>∃ v,e=.returned v/\w'.ownsRow w 101 4 v n cs/\Below w w w':=by
 obtain ⟨i0,hi,He,Hf,Hh⟩:=info_parts CS;have l:=qI ((Q0 w w).alloc (lR) (.cells #[] 101));have i:Hu (∀ j u,cs[j]?=some u->(w.alloc (.cells #[] 101)).cell? (a.add j)=some u):=λj u d=>Lib.cell?_alloc_some _ (f j u d)
 have o:=qI g;have Hc:=qI b;have Hi:=Dm (some a) n c w;clear f g b
 go_enter func55,ntmps55
 go_wp2_with (at_builtin;(refine wpList_append_own _ rfl _ _ 43 rfl w 101 i0 (.agg #[ByteArray.empty,(0:Int),.slice none 0 0,.slice none 0 0]) 4 72 underlying43 hi He Hf Hh rfl (by decide) _ _ _ rfl (World.ownsRow_lit w #[] 0 (lR) (Nat.zero_le _) rfl) a n c cs rfl Hc.o i.o o.o (by unfold maxLen;omega) (by omega) (by simp) ?_;intro h m Ha Hb _))
 have Hg:=qI (l.o.grown Hb (by simp) (λj d=>by cases d;exact lR));rw [Qd] at Ha;have k:=qI (show m.ownsRow w 101 4 h n cs by simpa using Ha);clear Ha Hb
 go_wp2
 go_ret;exact ⟨_,rfl,k.o,Hg.o⟩
theorem PX (n c:Nat) (w:World):Calls prog 55 #[.slice none n c] w λe w'=>e=.returned (.slice none 0 0)/\w'=w:=by
 have a:=Dm none n c w
 go_enter func55,ntmps55
 go_wp2
 go_ret;exact ⟨rfl,rfl⟩
theorem Do (a:Option Addr) (n c:Nat) (w:World):Sem.run prog (binOp .eql 46 (.slice a n c) (.slice none 0 0)) w=.ok a.isNone w:=Lib.run_eql_slice_nil w _ _ a n c 0 0 underlying46
theorem PY (a:Addr) (n c:Nat) (cs:List Value) (w:World) (b:cs.length=n*1) (f:∀ j u,cs[j]?=some u->w.cell? (a.add j)=some u) (g:∀ u∈cs,u.oneCell'=true) (p:n<=1000) :
  Calls prog 66 #[.slice (some a) n c] w λe w'=>∃ v,e=.returned v/\w'.ownsRow w 3 1 v n cs/\Below w w w':=by
 obtain ⟨i0,hi,He,Hf,Hh⟩:=info_parts wS;have l:=qI ((Q0 w w).alloc (lR) (.cells #[] 3));have i:Hu (∀ j u,cs[j]?=some u->(w.alloc (.cells #[] 3)).cell? (a.add j)=some u):=λj u d=>Lib.cell?_alloc_some _ (f j u d)
 have o:=qI g;have Hc:=qI b;have Hi:=Do (some a) n c w;clear f g b
 go_enter func66,ntmps66
 go_wp2_with (at_builtin;(refine wpList_append_own _ rfl _ _ 46 rfl w 3 i0 (0:Int) 1 8 underlying46 hi He Hf Hh rfl (by decide) _ _ _ rfl (World.ownsRow_lit w #[] 0 (lR) (Nat.zero_le _) rfl) a n c cs rfl Hc.o i.o o.o (by unfold maxLen;omega) (by omega) (by simp) ?_;intro h m Ha Hb _))
 have Hg:=qI (l.o.grown Hb (by simp) (λj d=>by cases d;exact lR));rw [Qd] at Ha;have k:=qI (show m.ownsRow w 3 1 h n cs by simpa using Ha);clear Ha Hb
 go_wp2
 go_ret;exact ⟨_,rfl,k.o,Hg.o⟩
theorem PZ (n c:Nat) (w:World):Calls prog 66 #[.slice none n c] w λe w'=>e=.returned (.slice none 0 0)/\w'=w:=by
 have a:=Do none n c w
 go_enter func66,ntmps66
 go_wp2
 go_ret;exact ⟨rfl,rfl⟩
theorem bw {B:Nat} {cs:Array Value} {t:TypeId} (h:W.heap[B]?=some (.cells cs t (0,0))) (j:Nat):W.frozen? ⟨B,j,none⟩=false:=by simp [World.frozen?,h]
theorem aU (W:World) (o:Obj) (a:n=W):(W.alloc o).heap[n]?=some o:=by subst a;exact heap_alloc_new W o
theorem b6 {x:Obj} (h:W.heap[n]?=some x) (o:Obj):(W.alloc o).heap[n]?=some x:=(Below.heap_alloc _ _ _ (gS h).1).trans h
theorem Dp (h:k<ps.length):bM (ps.take (k+1))=bM (ps.take k)+dY (bI ps k).cs (bI ps k).cs.length:=by grind [bM,bI,Qa,Qj]
theorem Dq (h:k<ps.length):cI (ps.take (k+1))=cI (ps.take k)+fK (bI ps k).cs (bI ps k).cs.length:=by grind [cI,bI,Qa,Qj]
abbrev qP:=λ(x0:Value) (x1 x2:Nat) (x3 x4:Int)=>(.cells #[x0,.int .u64 x1,.int .u8 x2,x3,x4] 84:Obj)
theorem xf (m:Value) (op ak:Nat) (nb pol:Int) (v:Value) (a:List az) (w:World) (h:jJ w v a) (hl:a.length<=100) (s:∀ p∈a,km p.cs) (r:op<18446744073709551616)
  (C:∀ k,k<=a.length->(0<=bM (a.take k)/\bM (a.take k)<=1000000000000000000)/\0<=cI (a.take k)/\cI (a.take k)<=1000000000000000000) :
  Calls prog 50 #[.agg #[m,.int .u64 op,.int .u8 ak,nb,pol],v] w λe w'=>e=.returned (.bool (decide (bM a<=1000*(ap op:Int)) && decide (cI a<=nb)))/\Below w w w':=by
 have H:=qI s;have F:=qI C;obtain ⟨ao,c,rfl,P,G⟩:=h;unfold maxLen at P;have I:=qI G;have sz:((w.alloc (qP m op ak nb pol)).alloc (.cells #[(0:Int),(0:Int)] 62)).heap.size=w.heap.size+2:=by simp
 have S:=qI (aU (w.alloc (qP m op ak nb pol)) (.cells #[(0:Int),(0:Int)] 62) (n:=w.heap.size+1) (by simp));have Z:=qI (b6 (aU w (qP m op ak nb pol) rfl) (.cells #[(0:Int),(0:Int)] 62));have R:=qI (((Q0 w w).alloc (lR) (qP m op ak nb pol)).alloc (by simp) (.cells #[(0:Int),(0:Int)] 62));clear s C G
 go_enter func50,ntmps50
 go_wp2_with fail
 generalize ((w.alloc (qP m op ak nb pol)).alloc (.cells #[(0:Int),(0:Int)] 62))=U at *;generalize HB:w.heap.size=B at *
 go_loopw [11] (λi wr=>∃ k:Nat,k<=a.length/\i=.int .i64 k/\wr.heap[B+1]?=some (.cells #[(bM (a.take k):Int),(cI (a.take k):Int)] 62 (0,0))/\Apart (λj=>j=B+1) U wr) (λi _=>a.length - (intOf i).toNat)
 case atStart=>exact ⟨0,by omega,rfl,S.o,Apart.refl _ _⟩
 case round=>
  obtain ⟨k,X,rfl,Hg,Hl⟩:=hrel;have HS:=Hl.size;have Hz:=qI Hl;have Hw:=F.o k X;have He:=Hl.below R.o (Nat.le_of_eq HB.symm) (λj hj=>by omega);have Hv:=qI He
  by_cases b:k<a.length
  ·obtain ⟨bb,o,cv,rfl,Hq⟩:=I.o (by omega);have Ha:Below w w wr:=by rw [HB];exact He
   obtain ⟨Y,Q,D⟩:=((Hq.below Ha).2 k b).1;have Hb:=((Hq.below Ha).2 k b).2;have t:=H.o (bI a k) (by simp [bI,b]);have Hh:=qI (Dp b);have Hi:=qI (Dq b);have V:=F.o (k+1) b;rw [Hh.o,Hi.o] at V;obtain ⟨ca,cc,A,_,_⟩:=id Hb;rw [A] at D Hb;have Hn:=qI ((Q0 wr wr).alloc (lR) (.cells #[(bI a k).nm,((bI a k).pr:Int),.slice ca (bI a k).cs.length cc] 49));have Hr:=qI (AF (bI a k) (.slice ca (bI a k).cs.length cc) (wr.alloc (.cells #[(bI a k).nm,((bI a k).pr:Int),.slice ca (bI a k).cs.length cc] 49)) (Hb.below Hn.o) t);unfold du at Hr;have O:=qI Hg;clear Hq Hb t He Ha Hg Hl A;generalize dY (bI a k).cs (bI a k).cs.length=f at *;generalize fK (bI a k).cs (bI a k).cs.length=l at *;generalize bM (a.take k)=q at *;generalize cI (a.take k)=z at *;generalize bI a k=p at *;obtain ⟨pn,pp,pc⟩:=p;dsimp only at Y Q D Hr Hn
   go_wp2_with fail
   refine Hr.o.mono ?_;rintro e d ⟨rfl,u⟩;have Hk:=Hn.o.trans (u.mono Hn.o.size);have Hy:=(Q0 d d).alloc (lR) (.cells #[(f:Int),(l:Int)] 62);have Hf:=b6 ((Hk.block (B+1) (by omega)).trans O.o) (.cells #[(f:Int),(l:Int)] 62);have y0:(d.alloc (.cells #[(f:Int),(l:Int)] 62)).cell? (B+1:Nat)=some (.int .i64 q):=aa Hf 0;have y1:(d.alloc (.cells #[(f:Int),(l:Int)] 62)).cell? ⟨B+1,1,none⟩=some (.int .i64 z):=aa Hf 1;have f0:=bw Hf 0;have f1:=bw Hf 1;have z0:(d.alloc (.cells #[(f:Int),(l:Int)] 62)).cell? d.heap.size=some (.int .i64 f):=by simp
   have z1:(d.alloc (.cells #[(f:Int),(l:Int)] 62)).cell? ⟨d,1,none⟩=some (.int .i64 l):=by simp
   have HQ:d.heap.size≠B+1:=by have:=Hk.size;omega
   have L:=qI (Hz.o.trans (Apart.of_below (Hk.trans (Hy.mono Hk.size))));have W:=qI Hf;clear Hf u Hy Hk
   go_wp2
   go_roundw
   case rel=>exact ⟨k+1,by omega,by go_num,by rw [Hh.o,Hi.o];exact aO (aO W.o 0 _) 1 _,(L.o.trans (Apart.setCell (K:=λj=>j=B+1) rfl _ _ _)).trans (Apart.setCell (K:=λj=>j=B+1) rfl _ _ _)⟩
   case measure=>simp [intOf];omega
  ·have J:k=a.length:=by omega
   subst J;rw [Qh] at Hg Hw;have Hp:=(Hz.o.block B (by omega) (by omega)).trans Z.o;have N:wr.cell? (B+1:Nat)=some (.int .i64 (bM a)):=aa Hg 0;have T:wr.cell? ⟨B+1,1,none⟩=some (.int .i64 (cI a)):=aa Hg 1;have q2:wr.cell? ⟨B,1,none⟩=some (.int .u64 op):=aa Hp 1;have q3:wr.cell? ⟨B,3,none⟩=some (.int .i64 nb):=aa Hp 3;have M:ap op<=64:=FY op 64;clear Hg Hp Hl;obtain ⟨q,Ht⟩:∃ x,x=bM a:=⟨_,rfl⟩;obtain ⟨z,Ho⟩:∃ x,x=cI a:=⟨_,rfl⟩;rw [<- Ht] at N Hw;rw [<- Ho] at T Hw;have Hh:=qI Ht;have Hi:=qI Ho;clear Ht Ho;have Hm:=qI (Ch op);have Hj:(ba op 64).length=ap op:=rfl;rw [Hj] at Hm;clear Hj;obtain ⟨g,Hc⟩:∃ x,x=ap op:=⟨_,rfl⟩;rw [<- Hc] at Hm M;have Hx:=qI Hc;clear Hc;have y:Hu (Below w w wr):=by unfold Hu;rw [HB];exact Hv.o
   by_cases E:q<=1000*(g:Int)
   ·have Hs:decide (q<=1000*(g:Int))=true:=Qc E
    go_wp2
    go_quiet (exact Calls.quiet_of_same (Hm.o _ r))
    go_wp2
    go_ret;exact ⟨by rw [<- Hh.o,<- Hi.o,<- Hx.o,Hs];rfl,below_drewN y.o nq⟩
   ·have Hs:decide (q<=1000*(g:Int))=false:=Q7 E
    go_wp2
    go_quiet (exact Calls.quiet_of_same (Hm.o _ r))
    go_wp2
    go_ret;exact ⟨by rw [<- Hh.o,<- Hi.o,<- Hx.o,Hs];rfl,below_drewN y.o nq⟩
def gC (x:az × Value):List Value:=[.string x.1.nm,.int .i64 x.1.pr,x.2]
def rowP (l:List (az × Value)):List Value:=l.flatMap gC
theorem tw (l:List (az × Value)) (p:az × Value):rowP (l++[p])=rowP l++gC p:=by simp [rowP]
def Dr (W:World) (base:Nat) (v:Value) (ps:List az):Prop:=∃ l:List (az × Value),l.map Prod.fst=ps/\W.ownsRow base 49 3 v l.length (rowP l)/\∀ x∈l,aZ W x.2 x.1.cs
theorem xh:(prog.info? 49).map (λi=>(i.zero,i.size,i.bytes))=some (some (.agg #[ByteArray.empty,(0:Int),.slice none 0 0]),3,48):=by kernel_rfl
theorem tx (w:World) (nm:ByteArray) (pr:Int) (cv:Value) (t:TypeId):∀ j u,(gC (⟨nm,pr,[]⟩,cv))[j]?=some u->(w.alloc (.cells #[nm,pr,cv] t)).cell? ((w.heap.size:Addr).add j)=some u:=by simp_all [Addr.add_lit,gC]
theorem tC (nm:ByteArray) (pr:Int) (a:Option Addr) (n c:Nat):∀ u∈gC (⟨nm,pr,[]⟩,.slice a n c),u.oneCell'=true:=by
 intro u b
 simp [gC] at b
 rcases b with rfl|rfl|rfl <;> rfl
abbrev ph:=λ(x0:ByteArray) (x1:Int) (x2:Option Addr) (x3 x4:Nat) (x5:Option Addr) (x6 x7:Nat)=>(.cells #[x0,x1,.slice x2 x3 x4,.slice x5 x6 x7] 101:Obj)
theorem P0 (v:Value) (hs:List ad) (w:World) (h:aX w v hs) (O:hs.length<=100):Calls prog 51 #[v] w λe w'=>∃ r,e=.returned r/\Dr w' w r (hs.map ad.pod)/\Below w w w':=by
 obtain ⟨i0,hi,Hx,Hs,Hz⟩:=info_parts xh;obtain ⟨Q,c,rfl,F,A⟩:=h;unfold maxLen at F;have D:=qI A;clear A
 go_enter func51,ntmps51
 go_wp2
 go_loopw [3,8] (λE i wr=>∃ (k:Nat) (l:List (az × Value)),k<=hs.length/\i=.int .i64 k/\l.length=k/\l.map Prod.fst=(hs.take k).map ad.pod/\wr.ownsRow w 49 3 E l.length (rowP l)/\(∀ x∈l,aZ w x.2 x.1.cs)/\Below w w wr) (λ_ i _=>hs.length - (intOf i).toNat)
 case atStart=>exact ⟨0,[],by omega,rfl,rfl,rfl,Qw _ _ _ _,λx s=>(List.not_mem_nil s).elim,Q0 _ _⟩
 case round=>
  obtain ⟨k,l,R,rfl,Hm,Hh,Ha,Hl,p⟩:=hrel;have Hy:=qI Hm;have Hi:=qI Hh;have Hp:=qI Hl;have q:=qI p;have L:l.length<=100:=by omega
  have M:=p.size;clear Hm Hh Hl
  by_cases f:k<hs.length
  ·obtain ⟨b,o,cv,K,rfl,Hk⟩:=D.o (by omega);obtain ⟨I,G,u,z⟩:=((Hk.below p).2 k f).1;have Hg:=(Hk.2 k f).2.1;have Hn:Hu ((hs.take (k+1)).map ad.pod=(hs.take k).map ad.pod++[(af hs k).pod]):=by
    unfold Hu;rw [Qa f,Qj];simp [af,f]
   have Hc:=qI Hg;obtain ⟨ca,cc,Hr,_,_⟩:=id Hg;rw [Hr] at u Hc;obtain ⟨ga,gc,Hq,_,_⟩:=id (Hk.2 k f).2.2;rw [Hq] at z;clear Hk Hg p Hr Hq;generalize af hs k=x at *;obtain ⟨⟨d,g,a⟩,m⟩:=x;dsimp only at I G u z Hc Hn;obtain ⟨P,vc,J⟩:=fj Ha;subst J;have t:=(Q0 wr wr).alloc (lR) (ph d g ca a.length cc ga m.length gc);have Hb:=Ha.alloc (ph d g ca a.length cc ga m.length gc);have Ht:=qI (q.o.trans (t.mono q.o.size));have C:w.heap.size<=(wr.alloc (ph d g ca a.length cc ga m.length gc)).heap.size:=by simp;omega
   have Hf:=tx (wr.alloc (ph d g ca a.length cc ga m.length gc)) d g (.slice ca a.length cc) 49;rw [show (wr.alloc (ph d g ca a.length cc ga m.length gc)).heap.size=wr.heap.size+1 by simp] at Hf;have Hv:=qI Hf;have Hw:w.heap.size<=((wr.alloc (ph d g ca a.length cc ga m.length gc)).alloc (.cells #[d,(g:Int),.slice ca a.length cc] 49)).heap.size:=by simp;omega
   clear t Hf Ha
   go_wp2_with (at_builtin;refine wpList_append_own _ rfl _ _ 67 rfl w 49 i0 _ 3 48 underlying67 hi Hx Hs Hz rfl (by decide) _ _ _ rfl (Hb.alloc _) ⟨_,0,none⟩ 1 1 (gC (⟨d,g,[]⟩,.slice ca a.length cc)) rfl rfl Hv.o (tC d g ca a.length cc) (by unfold maxLen;omega) (by omega) Hw ?_;intro r N Hj He _)
   go_roundw
   case rel=>
    refine ⟨k+1,l++[(⟨d,g,a⟩,.slice ca a.length cc)],by omega,by go_num,by rw [Q2,Hy.o];rfl,by rw [Qj,Hi.o,Hn.o];rfl,?_,λy n=>?_,?_⟩
    ·rw [tw,Q2];exact Hj
    ·rcases Qi.1 n with n|n
     ·exact Hp.o y n
     ·rw [Qm.1 n];exact Hc.o
    ·exact (Ht.o.alloc C _).grown He (by simp;omega) λj H=>(Hb.lt j H).1
   case measure=>simp [intOf];omega
  ·have Ho:k=hs.length:=by omega
   have B:Hu (l.map Prod.fst=hs.map ad.pod):=by unfold Hu;rw [Hi.o,Ho,Qh]
   clear Ho
   go_wp2
   go_ret;exact ⟨_,rfl,⟨l,B.o,Ha,λx s=>(Hp.o x s).below q.o⟩,q.o⟩
theorem P2 {m:aF} {ds:List ah} (a:m.op<18446744073709551616) (af:dQ ds=0) (b:p.cs.length=1) (i:br p=0) (d:cH m [p]=true) (f:(aV m ⟨m.op,ds,λ_=>false⟩ p).1=0):(bl ⟨m,ds,[]⟩ p).1=0:=by
 have l:aW m ds []=some ⟨m.op,ds,λ_=>false⟩:=BC af;unfold bl;dsimp only;rw [l,Option.getD_some];have Hg:¬ ∃ x∈([]:List ad),x.pod.nm=p.nm:=λ⟨x,c,_⟩=>by cases c
 have Ha:¬ cH m (([]:List ad).map ad.pod++[p])=false:=λe=>by
  have h:cH m [p]=false:=e;rw [d] at h;cases h
 rw [if_neg (by omega),if_neg Hg,if_neg (by simp),if_neg Ha,if_neg (by omega)];have j:sS p.cs:=oW (by omega);have Hf:(⟨m.op,ds,λ_=>false⟩:aB).ds.length<=16:=(kg af).1;have Hc:(aV m ⟨m.op,ds,λ_=>false⟩ p).2.length=p.cs.length:=qz _ _ p.cs p.cs.length f;have Hb:=(wi (m:=m) Hf j p.cs.length (lR) f).1;have He:ct [] (⟨p,(aV m ⟨m.op,ds,λ_=>false⟩ p).2⟩:ad)=[⟨p,(aV m ⟨m.op,ds,λ_=>false⟩ p).2⟩]:=rfl;have Hj:bt [(⟨p,(aV m ⟨m.op,ds,λ_=>false⟩ p).2⟩:ad)]=0:=by
  refine cL.2 ⟨by simp,λx c=>?_,List.pairwise_singleton _ _⟩;rw [Qm.1 c];exact ⟨i,Hc,wv (wu p.cs.length)⟩
 have Hk:∀ g∈(aV m ⟨m.op,ds,λ_=>false⟩ p).2,g.cp<18446744073709551616:=by
  intro g Hi;rw [b] at Hb;obtain ⟨k,o,rfl⟩:=sI Hi;have Hh:k=0:=by omega
  subst Hh;have e:(List.range 1).map (jQ p.cs (bZ m ⟨m.op,ds,λ_=>false⟩ p.cs 1).2.1)=[jQ p.cs (bZ m ⟨m.op,ds,λ_=>false⟩ p.cs 1).2.1 0]:=rfl;rw [e,cT] at Hb;obtain ⟨q,n,_⟩:=Option.bind_eq_some_iff.1 Hb
  have:=(ku.1 n).2.1.1
  unfold aV;rw [b];exact BG this a
 rw [He,if_neg (by have:=Mq Hj Hk b;omega)]
theorem Ds (a:(bl t p).1=0):(bl t p).2.length=t.hs.length+1:=by
 unfold bl at a ⊢
 split
 ·rename_i c;rw [if_pos c] at a;exact absurd a c
 ·rename_i c
  rw [if_neg c] at a
  split
  ·rename_i f;rw [if_pos f] at a;cases a
  ·rename_i f
   rw [if_neg f] at a
   split
   ·rename_i e;rw [if_pos e] at a;cases a
   ·rename_i e
    rw [if_neg e] at a
    split
    ·rename_i d;rw [if_pos d] at a;cases a
    ·rename_i d
     rw [if_neg d] at a
     split
     ·rename_i b;rw [if_pos b] at a;exact absurd a b
     ·rename_i b
      rw [if_neg b] at a
      split
      ·rename_i g;rw [if_pos g] at a;cases a
      ·unfold ct;simp;omega
theorem xi (A:Nat):ap A<=64:=by grind [ap,ba]
def fR:dM:=⟨[⟨0,0,0⟩],0,9,0,[]⟩
def jt:az:=⟨⟨#[97]⟩,0,[⟨⟨#[120]⟩,0,0,0,0,[]⟩]⟩
theorem P3:cM fR=0:=by decide
theorem Dt:br jt=0:=by decide
theorem Du:cH (cN fR) [jt]=true:=by decide
theorem P4:(bl ⟨cN fR,[],[]⟩ jt).1=0:=by
 refine P2 (by decide) (by decide) rfl Dt Du ?_;exact Mx (hs:=[]) rfl (by decide) xi (BC (by decide)) (by decide) (λx a=>by cases a) Dt (λc b=>by rw [Qm.1 b]) Du
def P5 (p:az):ad:=⟨p,List.replicate p.cs.length ⟨0,[]⟩⟩
def P7 (m:aF):Bool:=(eY m [⟨true,[]⟩]).2
structure VD (t:bU) (l:List az):Prop where
 perm:t.hs.Perm (l.map P5)
 good:l≠[]->cH t.m l=true/\P7 t.m=true/\(bi t.hs).length<=6000
structure ex (W:World) (N g sz n:Nat) (f:Nat->List Value):Prop where
 base:N<=g
 lt:g<W
 cell:∀ k,k<n->∀ j,j<sz->W.cell? ⟨g,k*sz+j,none⟩=(f k)[j]?
 free:∀ j,W.frozen? ⟨g,j,none⟩=false
theorem lD (hf:∀ k,(f k).length=sz) (n:Nat):((List.range n).flatMap f).length=n*sz:=by
 induction n with
 | zero=>simp
 | succ n ih=>rw [List.range_succ,List.flatMap_append,Q2,ih];simp [hf,Nat.succ_mul]
theorem qQ (hf:∀ k,(f k).length=sz) (n k j:Nat) (b:k<n) (a:j<sz):((List.range n).flatMap f)[k*sz+j]?=(f k)[j]?:=by
 induction n with
 | zero=>omega
 | succ n ih=>
  rw [List.range_succ,List.flatMap_append]
  by_cases h:k<n
  ·rw [List.getElem?_append_left]
   ·exact ih h
   ·rw [lD hf]
    have:(k+1)*sz<=n*sz:=Nat.mul_le_mul_right _ h
    rw [Nat.succ_mul] at this;omega
  ·have:k=n:=by omega
   subst this;rw [List.getElem?_append_right (by rw [lD hf];omega),lD hf]
   simp
theorem qR (i:0<sz) (hf:∀ k,(f k).length=sz) {w:World} {o:Nat} (h:∀ k,k<n->∀ j,j<sz->w.cell? ⟨b,o+k*sz+j,none⟩=(f k)[j]?):∀ j u,((List.range n).flatMap f)[j]?=some u->w.cell? ((⟨b,o,none⟩:Addr).add j)=some u:=by
 intro j u a;have g:j<n*sz:=by
  have:=(List.getElem?_eq_some_iff.1 a).1
  rw [lD hf] at this;exact this
 have c:j / sz<n:=Nat.div_lt_of_lt_mul (by rw [Nat.mul_comm];exact g);have d:j % sz<sz:=Nat.mod_lt _ i;have e:j / sz*sz+j % sz=j:=by rw [Nat.mul_comm];exact Nat.div_add_mod j sz
 rw [<- e,qQ hf n _ _ c d] at a;rw [Addr.add_lit,<- e,<- Nat.add_assoc,h _ c _ d];exact a
theorem qS (h:∀ k,k<n->∀ u∈f k,u.oneCell'=true):∀ u∈(List.range n).flatMap f,u.oneCell'=true:=by grind
theorem pi {base:Nat} {e:TypeId} {v:Value} {d:List Value} (h:W.ownsRow base e sz v n d) (hf:∀ k,k<n->∀ j,j<sz->d[k*sz+j]?=(f k)[j]?) :
  ∃ c a,v=.slice c n a/\(n<=a/\a<=maxLen)/\(0<n->∃ g,c=some ⟨g,0,none⟩/\ex W base g sz n f):=by
 rcases h.2 with ⟨rfl,rfl⟩|⟨g,a,q,rfl,m,b,Ha,Hb,Hc,l⟩
 ·exact ⟨none,0,rfl,⟨lR,Nat.zero_le _⟩,λh=>by omega⟩
 ·refine ⟨_,a,rfl,⟨Ha,Hb⟩,λ_=>⟨g,rfl,m,(gS b).1,λk i j o=>?_,λj=>by simp [World.frozen?,b]⟩⟩;rw [<- hf k i j o,<- l,List.getElem?_take];have p:k*sz+j<n*sz:=by
   have:(k+1)*sz<=n*sz:=Nat.mul_le_mul_right _ i
   rw [Nat.succ_mul] at this;omega
  rw [if_pos p]
  simp [World.cell?,b]
theorem ex.keep (h:ex W N g sz n f) (b:W'.heap[g]?=W.heap[g]?) (hs:W<=W'.heap.size):ex W' N g sz n f:=
 ⟨h.base,Q1 h.lt hs,λk d j c=>(World.cell?_of_block (a:=⟨g,k*sz+j,none⟩) b).trans (h.cell k d j c),λj=>by
  have:=h.free j
  simp only [World.frozen?] at this ⊢;rw [b];exact this⟩
theorem ex.below (h:ex W N g sz n f) (a:Below W W W'):ex W' N g sz n f:=h.keep (a.block g h.lt) a.size
theorem ex.set (h:ex W N g sz n f) (k j:Nat) (r:k<n) (o:j<sz) (v:Value) (e:Nat->List Value) (s:∀ i,i<n->i≠k->e i=f i) (l:∀ i,i<sz->(e k)[i]?=if i=j then some v else (f k)[i]?) (p:(f k).length=sz):ex (W.setCell ⟨g,k*sz+j,none⟩ v) N g sz n e:=by
 have Hb:W.cell? ⟨g,k*sz+j,none⟩≠none:=by
  rw [h.cell k r j o,Qf (by omega)];simp
 have Ha:(W.setCell ⟨g,k*sz+j,none⟩ v).heap.size=W.heap.size:=by simp
 refine ⟨h.base,by rw [Ha];exact h.lt,λi hi q d=>?_,λq=>by rw [World.frozen?_setCell];exact h.free q⟩
 by_cases b:i=k
 ·subst b;rw [l q d]
  by_cases c:q=j
  ·subst c;rw [if_pos rfl];obtain ⟨u,m⟩:∃ u,W.cell? ⟨g,i*sz+q,none⟩=some u:=Option.ne_none_iff_exists'.1 Hb;exact World.cell?_setCell_same _ _ _ m
  ·rw [if_neg c,<- h.cell i hi q d];exact Qb _ _ _ _ (by simp only [ne_eq,Addr.mk.injEq,true_and,and_true];omega)
 ·rw [s i hi b,<- h.cell i hi q d];refine Qb _ _ _ _ ?_;simp only [ne_eq,Addr.mk.injEq,true_and,and_true];have a:i<k\/k<i:=by omega
  rcases a with a|a
  ·have:(i+1)*sz<=k*sz:=Nat.mul_le_mul_right _ a
   rw [Nat.succ_mul] at this;omega
  ·have:(k+1)*sz<=i*sz:=Nat.mul_le_mul_right _ a
   rw [Nat.succ_mul] at this;omega
noncomputable abbrev fresh (N:Nat) (W:World):World:=av (λj=>j<N) W
theorem j7 {o:Nat} (h:N<=b):(fresh N W).cell? ⟨b,o,none⟩=W.cell? ⟨b,o,none⟩:=World.cell?_of_block (a:=⟨b,o,none⟩) (cZ (λk=>by have k:b<N:=k;omega))
theorem pj (h:∀ j,N<=j->j<W.heap.size->W'.heap[j]?=W.heap[j]?) (hs:W<=W'.heap.size) (f:N'<=N):aM (fresh N W) (fresh N' W'):=by
 refine ⟨by rw [cC,cC];exact hs,λb o v e=>?_⟩;have d:=gR e;have c:b<W.heap.size:=by have:=Q3 _ ⟨b,o,none⟩ e;rw [cC] at this;exact this
 have Ha:N<=b:=by simpa using d
 rw [j7 Ha] at e;rw [j7 (by omega)];exact (World.cell?_of_block (a:=⟨b,o,none⟩) (h b Ha c)).trans e
theorem bP {M M':Nat->Prop} (h:∀ j,j<W.heap.size->¬ M j->¬ M' j/\W'.heap[j]?=W.heap[j]?) (hs:W<=W'.heap.size):aM (av M W) (av M' W'):=by
 refine ⟨by rw [cC,cC];exact hs,λb o v e=>?_⟩;have c:=gR e;have d:b<W.heap.size:=by have:=Q3 _ ⟨b,o,none⟩ e;rw [cC] at this;exact this
 obtain ⟨g,f⟩:=h b d c;have i:(av M' W').heap[b]?=(av M W).heap[b]?:=by rw [cZ g,cZ c];exact f
 exact (World.cell?_of_block (a:=⟨b,o,none⟩) i).trans e
theorem Dv (h:Below W W W') (b:N'<=N):aM (fresh N W) (fresh N' W'):=pj (λj _ a=>h.block j a) h.size b
theorem Dw (N:Nat) (W:World):aM (fresh N W) W:=dm _ _
theorem P9 {ds:List ai} (h:ex W N g 2 n (λk=>[.string (ak ds k).kind,.int .i64 (ak ds k).many])) (b:n=ds.length) (c:ds.length<=maxLen):bO (fresh N W) (.slice g n cap) ds:=by
 subst b;refine ⟨_,_,rfl,c,λ_=>⟨g,0,rfl,by rw [cC];exact h.lt,λk a=>?_⟩⟩;rw [j7 h.base,j7 h.base,Qd];exact ⟨h.cell k a 0 (by decide),h.cell k a 1 (by decide)⟩
theorem Dx (W:World) (a:Option Addr) (c:Nat):bO W (.slice a 0 c) []:=⟨a,c,rfl,Nat.zero_le _,λh=>absurd h (Nat.lt_irrefl 0)⟩
theorem Qy {cs:List aA} (h:ex W N g 6 n (λk=>dF (ae cs k) (dv k))) (b:n=cs.length) (d:n<=cap/\cap<=maxLen) (af:∀ k,k<n->bO (fresh N W) (dv k) (ae cs k).ds):aZ (fresh N W) (.slice g n cap) cs:=by
 subst b;refine ⟨_,_,rfl,d,λ_=>⟨g,0,dv,rfl,by rw [cC];exact h.lt,λk a=>⟨λj c=>?_,af k a⟩⟩⟩;rw [j7 h.base,Qd];exact h.cell k a j c
theorem Qz {a:List Int} (h:ex W N g 1 n (λk=>[.int .i64 (a.getD k 0)])) (b:n=a.length) (c:n<=cap/\cap<=maxLen):bA (fresh N W) (.slice g n cap) a:=by
 subst b;refine ⟨_,_,rfl,c,λ_=>⟨g,0,rfl,by rw [cC];exact h.lt,λk d=>?_⟩⟩;rw [j7 h.base,Qd]
 simpa using h.cell k d 0 (by decide)
theorem QA {gs:List aP} (h:ex W N g 2 n (λk=>[.int .u64 (aq gs k).cp,dv k])) (b:n=gs.length) (c:n<=cap/\cap<=maxLen) (af:∀ k,k<n->(aq gs k).cp<18446744073709551616/\bA (fresh N W) (dv k) (aq gs k).dv):cq (fresh N W) (.slice g n cap) gs:=by
 subst b;refine ⟨_,_,rfl,c,λ_=>⟨g,0,dv,rfl,by rw [cC];exact h.lt,λk a=>⟨⟨?_,?_,(af k a).1⟩,(af k a).2⟩⟩⟩
 ·rw [j7 h.base,Qd];exact h.cell k a 0 (by decide)
 ·rw [j7 h.base,Qd];exact h.cell k a 1 (by decide)
theorem QB (v:Value) (ds:List ai) (w:World) (h:bO w v ds) (y:ds.length<=1000):Calls prog 64 #[v] w λe w'=>∃ m c,e=.returned (.slice m ds.length c)/\bO (fresh w w') (.slice m ds.length c) ds/\Below w w w':=by
 obtain ⟨m,c,rfl,A,s⟩:=h;cases m with
 | none=>
  refine (PS _ _ _).mono ?_;rintro e w' ⟨rfl,rfl⟩;have d:ds.length=0:=by
   apply Qt;intro d;obtain ⟨b,o,n,_⟩:=s (by omega);cases n
  have:ds=[]:=List.length_eq_zero_iff.1 d
  subst this;exact ⟨none,0,rfl,Dx _ _ _,Q0 _ _⟩
 | some a=>
  refine (PR a ds.length c ((List.range ds.length).flatMap λk=>[.string (ak ds k).kind,.int .i64 (ak ds k).many]) w (lD (by intro _;rfl) _) ?_ (qS λk _ u l=>?_) y).mono ?_
  ·intro j u l
   by_cases d:0<ds.length
   ·obtain ⟨b,o,n,_,r⟩:=s d;cases n;exact qR (sz:=2) (by decide) (by intro _;rfl) (λk p i hi=>by
     match i,hi with
     | 0,_=>exact (r k p).1
     | 1,_=>exact (r k p).2) j u l
   ·rw [show ds.length=0 by omega] at l;simp at l
  ·simp at l
   rcases l with rfl|rfl <;> rfl
  ·rintro e w' ⟨u,rfl,Ha,n⟩;obtain ⟨m,q,rfl,Hb,t⟩:=pi (f:=λk=>[.string (ak ds k).kind,.int .i64 (ak ds k).many]) Ha λk p j x=>qQ (by intro _;rfl) _ _ _ p x;refine ⟨m,q,rfl,?_,n⟩
   by_cases d:0<ds.length
   ·obtain ⟨g,rfl,z⟩:=t d;exact P9 z rfl A
   ·have:ds=[]:=List.length_eq_zero_iff.1 (by omega)
    subst this;exact Dx _ _ _
theorem QC (v:Value) (d:List Int) (w:World) (h:bA w v d) (z:d.length<=1000):Calls prog 66 #[v] w λe w'=>∃ n c,e=.returned (.slice n d.length c)/\bA (fresh w w') (.slice n d.length c) d/\Below w w w':=by
 obtain ⟨n,c,rfl,B,s⟩:=h;cases n with
 | none=>
  refine (PZ _ _ _).mono ?_;rintro e w' ⟨rfl,rfl⟩;have l:d.length=0:=by
   apply Qt;intro l;obtain ⟨b,o,p,_⟩:=s (by omega);cases p
  have:d=[]:=List.length_eq_zero_iff.1 l
  subst this;exact ⟨none,0,rfl,⟨none,0,rfl,⟨lR,Nat.zero_le _⟩,λh=>absurd h (Nat.lt_irrefl 0)⟩,Q0 _ _⟩
 | some a=>
  refine (PY a d.length c ((List.range d.length).flatMap λk=>[.int .i64 (d.getD k 0)]) w (lD (by intro _;rfl) _) ?_ (qS λk _ u m=>?_) z).mono ?_
  ·intro j u m
   by_cases l:0<d.length
   ·obtain ⟨b,o,p,_,x⟩:=s l;cases p;exact qR (sz:=1) (by decide) (by intro _;rfl) (λk q i hi=>by
     match i,hi with
     | 0,_=>rw [Nat.mul_one];exact x k q) j u m
   ·rw [show d.length=0 by omega] at m;simp at m
  ·simp at m
   rcases m with rfl;rfl
  ·rintro e w' ⟨u,rfl,Hb,p⟩;obtain ⟨n,r,rfl,Ha,t⟩:=pi (f:=λk=>[.int .i64 (d.getD k 0)]) Hb λk q j y=>qQ (by intro _;rfl) _ _ _ q y;refine ⟨n,r,rfl,?_,p⟩
   by_cases l:0<d.length
   ·obtain ⟨g,rfl,A⟩:=t l;exact Qz A rfl Ha
   ·have:d=[]:=List.length_eq_zero_iff.1 (by omega)
    subst this;exact ⟨_,_,rfl,Ha,λh=>absurd h (Nat.lt_irrefl 0)⟩
theorem QD (v:Value) (cs:List aA) (w t:World) (h:aZ t v cs) (l:aM t w) (A:cs.length<=1000):Calls prog 63 #[v] w λe w'=>∃ d c,e=.returned (.slice d cs.length c)/\(cs.length<=c/\c<=maxLen)/\(0<cs.length->∃ (g:Nat) (dv:Nat->Value),d=some ⟨g,0,none⟩/\ex w' w g 6 cs.length (λk=>dF (ae cs k) (dv k))/\∀ k,k<cs.length->bO t (dv k) (ae cs k).ds)/\Below w w w':=by
 obtain ⟨d,c,rfl,F,B⟩:=h;cases d with
 | none=>
  refine (PU _ _ _).mono ?_;rintro e w' ⟨rfl,rfl⟩;have r:cs.length=0:=by
   apply Qt;intro r;obtain ⟨b,o,dv,p,_⟩:=B (by omega);cases p
  rw [r];exact ⟨none,0,rfl,⟨lR,Nat.zero_le _⟩,λh=>by omega,Q0 _ _⟩
 | some a=>
  by_cases r:0<cs.length
  ·obtain ⟨b,o,dv,p,s⟩:=B r;cases p;refine (Di ⟨b,o,none⟩ cs.length c ((List.range cs.length).flatMap λk=>dF (ae cs k) (dv k)) w (lD (by intro _;rfl) _) (qR (sz:=6) (by decide) (by intro _;rfl) (λk m i hi=>by
     have y:i<(dF (ae cs k) (dv k)).length:=hi;rw [Qf y];exact l.cell _ _ _ (((s.2 k m).1 i hi).trans (Qf y)))) (qS λk m u q=>?_) A).mono ?_
   ·obtain ⟨E,nc,D,_⟩:=(s.2 k m).2;rw [D] at q
    simp [dF] at q
    rcases q with rfl|rfl|rfl|rfl|rfl|rfl <;> rfl
   ·rintro e w' ⟨u,rfl,Ha,p⟩;obtain ⟨d,n,rfl,Hb,x⟩:=pi (f:=λk=>dF (ae cs k) (dv k)) Ha λk m j z=>qQ (by intro _;rfl) _ _ _ m z;refine ⟨d,n,rfl,Hb,λ_=>?_,p⟩;obtain ⟨g,rfl,C⟩:=x r;exact ⟨g,dv,rfl,C,λk m=>(s.2 k m).2⟩
  ·refine (Di a cs.length c [] w (by rw [show cs.length=0 by omega];rfl) (λj u q=>by simp at q) (λu q=>(List.not_mem_nil q).elim) A).mono ?_;rintro e w' ⟨u,rfl,Ha,p⟩;obtain ⟨d,n,rfl,Hb,x⟩:=pi (f:=λ_=>[]) Ha (λk m j z=>by omega);exact ⟨d,n,rfl,Hb,λh=>absurd h r,p⟩
theorem QE (v:Value) (gs:List aP) (w t:World) (h:cq t v gs) (l:aM t w) (z:gs.length<=1000):Calls prog 65 #[v] w λe w'=>∃ m c,e=.returned (.slice m gs.length c)/\(gs.length<=c/\c<=maxLen)/\(0<gs.length->∃ (g:Nat) (dv:Nat->Value),m=some ⟨g,0,none⟩/\ex w' w g 2 gs.length (λk=>[.int .u64 (aq gs k).cp,dv k])/\∀ k,k<gs.length->(aq gs k).cp<18446744073709551616/\bA t (dv k) (aq gs k).dv)/\Below w w w':=by
 obtain ⟨m,c,rfl,E,A⟩:=h;cases m with
 | none=>
  refine (PV _ _ _).mono ?_;rintro e w' ⟨rfl,rfl⟩;have r:gs.length=0:=by
   apply Qt;intro r;obtain ⟨b,o,dv,p,_⟩:=A (by omega);cases p
  rw [r];exact ⟨none,0,rfl,⟨lR,Nat.zero_le _⟩,λh=>by omega,Q0 _ _⟩
 | some a=>
  by_cases r:0<gs.length
  ·obtain ⟨b,o,dv,p,s⟩:=A r;cases p;refine (Dl ⟨b,o,none⟩ gs.length c ((List.range gs.length).flatMap λk=>[.int .u64 (aq gs k).cp,dv k]) w (lD (by intro _;rfl) _) (qR (sz:=2) (by decide) (by intro _;rfl) (λk d i hi=>by
     match i,hi with
     | 0,_=>exact l.cell _ _ _ (s.2 k d).1.1
     | 1,_=>exact l.cell _ _ _ (s.2 k d).1.2.1)) (qS λk d u q=>?_) z).mono ?_
   ·obtain ⟨D,nc,C,_⟩:=(s.2 k d).2;rw [C] at q
    simp at q
    rcases q with rfl|rfl <;> rfl
   ·rintro e w' ⟨u,rfl,Ha,p⟩;obtain ⟨m,n,rfl,Hb,x⟩:=pi (f:=λk=>[.int .u64 (aq gs k).cp,dv k]) Ha λk d j y=>qQ (by intro _;rfl) _ _ _ d y;refine ⟨m,n,rfl,Hb,λ_=>?_,p⟩;obtain ⟨g,rfl,B⟩:=x r;exact ⟨g,dv,rfl,B,λk d=>⟨(s.2 k d).1.2.2,(s.2 k d).2⟩⟩
  ·refine (Dl a gs.length c [] w (by rw [show gs.length=0 by omega];rfl) (λj u q=>by simp at q) (λu q=>(List.not_mem_nil q).elim) z).mono ?_;rintro e w' ⟨u,rfl,Ha,p⟩;obtain ⟨m,n,rfl,Hb,x⟩:=pi (f:=λ_=>[]) Ha (λk d j y=>by omega);exact ⟨m,n,rfl,Hb,λh=>absurd h r,p⟩
def tD (h:ad) (cv gvv:Value):List Value:=[.string h.pod.nm,.int .i64 h.pod.pr,cv,gvv]
theorem Dy (v:Value) (hs:List ad) (w q:World) (h:aX q v hs) (l:aM q w) (r:hs.length<=1000):Calls prog 55 #[v] w λe w'=>∃ (u:Value) (cv d:Nat->Value),e=.returned u/\w'.ownsRow w 101 4 u hs.length ((List.range hs.length).flatMap λk=>tD (af hs k) (cv k) (d k))/\(∀ k,k<hs.length->aZ q (cv k) (af hs k).pod.cs/\cq q (d k) (af hs k).gs)/\Below w w w':=by
 obtain ⟨x,c,rfl,C,t⟩:=h;cases x with
 | none=>
  refine (PX _ _ _).mono ?_;rintro e w' ⟨rfl,rfl⟩;have p:hs.length=0:=by
   apply Qt;intro p;obtain ⟨b,o,cv,d,g,_⟩:=t (by omega);cases g
  rw [p];exact ⟨_,λ_=>.nilIface,λ_=>.nilIface,rfl,⟨rfl,.inl ⟨rfl,rfl⟩⟩,λk f=>by omega,Q0 _ _⟩
 | some a=>
  by_cases p:0<hs.length
  ·obtain ⟨b,o,cv,d,g,n⟩:=t p;cases g;refine (Dn ⟨b,o,none⟩ hs.length c ((List.range hs.length).flatMap λk=>tD (af hs k) (cv k) (d k)) w (lD (by intro _;rfl) _) (qR (sz:=4) (by decide) (by intro _;rfl) (λk f i hi=>by
     match i,hi with
     | 0,_=>exact l.cell _ _ _ (n.2 k f).1.1
     | 1,_=>exact l.cell _ _ _ (n.2 k f).1.2.1
     | 2,_=>exact l.cell _ _ _ (n.2 k f).1.2.2.1
     | 3,_=>exact l.cell _ _ _ (n.2 k f).1.2.2.2)) (qS λk f u m=>?_) r).mono ?_
   ·obtain ⟨B,nc,y,_⟩:=(n.2 k f).2.1;obtain ⟨A,z,Hb,_⟩:=(n.2 k f).2.2;rw [y,Hb] at m
    simp [tD] at m
    rcases m with rfl|rfl|rfl|rfl <;> rfl
   ·rintro e w' ⟨u,rfl,Ha,g⟩;exact ⟨u,cv,d,rfl,Ha,λk f=>(n.2 k f).2,g⟩
  ·have s:hs.length=0:=by omega
   refine (Dn a hs.length c [] w (by rw [s];rfl) (λj u m=>by simp at m) (λu m=>(List.not_mem_nil m).elim) r).mono ?_;rintro e w' ⟨u,rfl,Ha,g⟩;refine ⟨u,λ_=>.nilIface,λ_=>.nilIface,rfl,?_,λk f=>absurd f (by omega),g⟩;rw [s] at Ha ⊢;exact Ha
theorem QF:∀ {l:List ew} {s b:aB},cT s l=some b->∀ x∈l,sR s.ds x:=by
 intro l
 induction l with
 | nil=>intro s b _ x a;cases a
 | cons y r ih=>
  intro s b h x a;rw [cT] at h;obtain ⟨e,d,c⟩:=Option.bind_eq_some_iff.1 h;obtain ⟨b1,b2,rfl⟩:=ku.1 d
  rcases List.mem_cons.1 a with rfl|a
  ·exact b1
  ·exact ih c x a
def xj (ds ds':List ah):Prop:=ds'.length=ds.length/\∀ j,(aC ds' j).kind=(aC ds j).kind/\(aC ds' j).node=(aC ds j).node
theorem QG (ds:List ah):xj ds ds:=⟨rfl,λ_=>⟨rfl,rfl⟩⟩
def qT (b:Bool):Int:=if b then 1 else 0
theorem QH {k:ByteArray}:∀ {ns:List ai},(∀ n∈ns,n.kind≠k)->(ns.map λn=>qT (decide (k=n.kind))).sum=0:=by
 intro ns
 induction ns with
 | nil=>intro _;rfl
 | cons n r ih=>
  intro h;have e:decide (k=n.kind)=false:=Q7 λe=>h n List.mem_cons_self e.symm
  rw [Qq,List.sum_cons,ih λx a=>h x (Qv _ a),e];rfl
theorem QI {k:ByteArray}:∀ {ns:List ai},ns.Pairwise (λa b=>a.kind≠b.kind)->(∃ n∈ns,n.kind=k)->(ns.map λn=>qT (decide (k=n.kind))).sum=1:=by
 intro ns
 induction ns with
 | nil=>intro _ h;obtain ⟨n,f,_⟩:=h;cases f
 | cons n r ih=>
  intro m h;obtain ⟨j,i⟩:=List.pairwise_cons.1 m;rw [Qq,List.sum_cons]
  by_cases e:n.kind=k
  ·rw [QH λx c l=>j x c (e.trans l.symm),Qc e.symm];rfl
  ·have g:decide (k=n.kind)=false:=Q7 λx=>e x.symm
   rw [ih i (by
    obtain ⟨x,c,d⟩:=h
    rcases List.mem_cons.1 c with rfl|c
    ·exact absurd d e
    ·exact ⟨x,c,d⟩),g]
   rfl
theorem QJ (ds:List ah) (k:ByteArray) (j:Int) (r:List Int):(ek ds k (j :: r):Int)=(ek ds k r:Nat)+qT (decide ((aC ds j.toNat).kind=k)):=by
 unfold ek qT;rw [List.countP_cons]
 split <;> simp_all
theorem QK (ns:List ai) (f g:ai->Int):(ns.map λn=>f n+g n).sum=(ns.map f).sum+(ns.map g).sum:=by induction ns <;> grind
theorem QL (d:ns.Pairwise λa b=>a.kind≠b.kind):∀ {l:List Int},(∀ j∈l,∃ n∈ns,n.kind=(aC ds j.toNat).kind)->(ns.map λn=>(ek ds n.kind l:Int)).sum=l.length:=by
 intro l
 induction l with
 | nil=>
  intro _
  have:∀ ns:List ai,(ns.map λn=>(ek ds n.kind []:Int)).sum=0:=λns=>by
   induction ns with
   | nil=>rfl
   | cons n r ih=>rw [Qq,List.sum_cons,ih];rfl
  rw [this];rfl
 | cons j r ih=>
  intro h;have e:(ns.map λn=>(ek ds n.kind (j :: r):Int))=ns.map λn=>(ek ds n.kind r:Int)+qT (decide ((aC ds j.toNat).kind=n.kind)):=List.map_congr_left λn _=>QJ ds n.kind j r
  rw [e,QK,ih λx c=>h x (Qv _ c),QI d (h j List.mem_cons_self),Qg];omega
theorem QM {l:List Int} (o:∀ n∈ns,n.many≠0) (i:ns.Pairwise λa b=>a.kind≠b.kind) (h:kt ds l ns):(∀ n∈ns,(ek ds n.kind l:Int)=n.many)/\(ns.map ai.many).sum=l.length:=by
 have f:=(Bo o).1 h;have g:∀ n∈ns,(ek ds n.kind l:Int)=n.many:=λn c=>by
  have e:=f n.kind;have d:eZ ns n.kind=some n.many:=Bt ns _ n c i;rw [d,Option.getD_some] at e;exact e.symm
 refine ⟨g,?_⟩;rw [<- QL (ds:=ds) i (l:=l) λj k=>Qt λm=>?_]
 ·exact congrArg List.sum (List.map_congr_left λn c=>(g n c).symm)
 ·have e:=f (aC ds j.toNat).kind;have d:eZ ns (aC ds j.toNat).kind=none:=we ns _ _ λn c e=>m ⟨n,c,e⟩
  rw [d] at e;have Ha:0<ek ds (aC ds j.toNat).kind l:=List.countP_pos_iff.2 ⟨j,k,by simp⟩;have p:(0:Int)=(ek ds (aC ds j.toNat).kind l:Nat):=e;omega
def Dz (ds:List ah) (ns:List ai) (l:List Int):Prop:=(∀ n∈ns,(ek ds n.kind l:Int)=n.many)/\(ns.map ai.many).sum=l.length
theorem QN {a:List ah} (h:xj ds a) (k:ByteArray) (l:List Int):ek a k l=ek ds k l:=by
 unfold ek
 congr 1
 funext j
 rw [(h.2 _).1]
theorem QO (h:ip t) (d:xj ds t.ds):∀ x∈t.hs,∀ j,j<x.gs.length->Dz ds (ae x.pod.cs j).ds (aq x.gs j).dv:=by
 obtain ⟨s,hs⟩:=h.left;obtain ⟨_,a2,_⟩:=cL.1 h.held;unfold aW at hs
 split at hs
 ·rw [nJ _ _ _ (lR),Qh] at hs;intro x b j c;obtain ⟨b1,b2,_⟩:=a2 x b;have Hb:(⟨aq x.gs j,bL x.pod.cs (ae x.pod.cs j).am,(ae x.pod.cs j).ds⟩:ew)∈jO t.hs:=List.mem_flatMap.2 ⟨x,b,Qk.2 ⟨j,List.mem_range.2 c,rfl⟩⟩;obtain ⟨_,Ha,_⟩:=QF hs _ Hb;have a:=oW b1 _ (mu (show j<x.pod.cs.length by omega))
  have:=QM a.1 a.2 Ha
  refine ⟨λn e=>?_,this.2⟩;rw [<- this.1 n e];exact congrArg (λz:Nat=>(z:Int)) (QN d n.kind _).symm
 ·cases hs
noncomputable def ey (m:aF) (ds:List ah) (hs:List ad) (i k:Nat):aB:=((eI ⟨m.op,ds,λ_=>false⟩ hs i).bind λs=>fw s (af hs i) k).getD ⟨0,[],λ_=>false⟩
structure DA (ds:List ah) (s:aB) (g:aP) (own:Int) (s':aB):Prop where
 cp:g.cp &&& s.cp=g.cp
 cnt:(ap g.cp:Int)=own
 dv:∀ j,j<g.dv.length->(0<=bf g.dv j/\bf g.dv j<ds.length/\bf g.dv j ∉ g.dv.take j)/\s.us (bf g.dv j).toNat=false
 next:s'=⟨aD s.cp g.cp,ds,ci s.us g.dv⟩
theorem DB {s:aB} {hs:List ad}:∀ {n:Nat} {a:aB},eI s hs n=some a->∀ i,i<=n->∃ x,eI s hs i=some x:=by
 intro n
 induction n with
 | zero=>intro a h i hi;exact ⟨a,by rw [show i=0 by omega];exact h⟩
 | succ n ih=>
  intro a h i hi
  by_cases e:i=n+1
  ·exact ⟨a,by rw [e];exact h⟩
  ·rw [eI] at h;obtain ⟨x,b,_⟩:=Option.bind_eq_some_iff.1 h;exact ih b i (by omega)
theorem QP {s:aB} {x:ad}:∀ {n:Nat} {a:aB},fw s x n=some a->∀ i,i<=n->∃ y,fw s x i=some y:=by
 intro n
 induction n with
 | zero=>intro a h i hi;exact ⟨a,by rw [show i=0 by omega];exact h⟩
 | succ n ih=>
  intro a h i hi
  by_cases e:i=n+1
  ·exact ⟨a,by rw [e];exact h⟩
  ·rw [fw] at h;obtain ⟨x,b,_⟩:=Option.bind_eq_some_iff.1 h;exact ih b i (by omega)
theorem DC (m:aF) (ds:List ah) (hs:List ad) (i:Nat):ey m ds hs (i+1) 0=ey m ds hs i (af hs i).gs.length:=by
 unfold ey;rw [eI]
 congr 1
 cases eI ⟨m.op,ds,λ_=>false⟩ hs i with
 | none=>rfl
 | some s=>simp only [Option.bind_some];cases fw s (af hs i) (af hs i).gs.length <;> rfl
section
variable {m:aF} {ds:List ah} {hs:List ad} {s:aB}
theorem xl (h:aW m ds hs=some s):eI ⟨m.op,ds,λ_=>false⟩ hs hs.length=some s:=by
 unfold aW at h
 split at h
 ·exact h
 ·cases h
theorem QQ (h:aW m ds hs=some s):ey m ds hs hs.length 0=s:=by
 unfold ey;rw [xl h];rfl
theorem DD (h:aW m ds hs=some s) {i:Nat} (hi:i<hs.length) {k:Nat} (l:k<=(af hs i).gs.length):∃ a,eI ⟨m.op,ds,λ_=>false⟩ hs i=some a/\a.ds=ds/\fw a (af hs i) k=some (ey m ds hs i k)/\(ey m ds hs i k).ds=ds:=by
 obtain ⟨a,d⟩:=DB (xl h) i (by omega);have Ha:=d;obtain ⟨b,g⟩:=DB (xl h) (i+1) (by omega);rw [eI,d,Option.bind_some] at g;obtain ⟨c,f⟩:=QP g k l;have e:ey m ds hs i k=c:=by unfold ey;rw [d,Option.bind_some,f];rfl
 have j:a.ds=ds:=by
  rw [nJ hs _ i (by omega)] at d;exact wj d
 refine ⟨a,by first|exact Ha|rfl,j,by rw [e];exact f,?_⟩;rw [e];rw [Bf] at f;rw [wj f,j]
theorem DE (h:aW m ds hs=some s) {i:Nat} (hi:i<hs.length) {k:Nat} (e:k<(af hs i).gs.length):DA ds (ey m ds hs i k) (aq (af hs i).gs k) (bL (af hs i).pod.cs (ae (af hs i).pod.cs k).am) (ey m ds hs i (k+1)):=by
 obtain ⟨a,l,_,o,c⟩:=DD h hi (Nat.le_of_lt e);obtain ⟨p,Ha,_,b,_⟩:=DD h hi e;rw [l] at Ha;injection Ha with Ha
 subst Ha;rw [fw,o,Option.bind_some] at b;obtain ⟨b1,b2,f⟩:=(ku (x:=⟨aq (af hs i).gs k,bL (af hs i).pod.cs (ae (af hs i).pod.cs k).am,(ae (af hs i).pod.cs k).ds⟩)).1 b;obtain ⟨c1,_,c3⟩:=b1;obtain ⟨g,n⟩:=b2;rw [c] at c3;refine ⟨g,c1,λj d=>⟨c3 j d,n j d⟩,?_⟩;rw [f];unfold fO;rw [c]
end
theorem DF (h:k<hs.length):bM ((hs.take (k+1)).map ad.pod)=bM ((hs.take k).map ad.pod)+dY (af hs k).pod.cs (af hs k).pod.cs.length:=by grind [bM,af,Qa,Qj]
theorem DG (h:k<hs.length):cI ((hs.take (k+1)).map ad.pod)=cI ((hs.take k).map ad.pod)+fK (af hs k).pod.cs (af hs k).pod.cs.length:=by grind [cI,af,Qa,Qj]
theorem QR (h:∀ x∈hs,br x.pod=0):∀ k,k<=hs.length->(0<=bM ((hs.take k).map ad.pod)/\bM ((hs.take k).map ad.pod)<=3000000*k)/\0<=cI ((hs.take k).map ad.pod)/\cI ((hs.take k).map ad.pod)<=3377699720527872*k:=by
 intro k
 induction k with
 | zero=>intro _;exact ⟨⟨by simp [bM],by simp [bM]⟩,by simp [cI],by simp [cI]⟩
 | succ k ih=>
  intro a;have e:=ih (by omega);have b:=oM (h (af hs k) (mv a));have d:=sF b (lR);have c:=sG b (lR);rw [DF a,DG a];omega
theorem QS (h:∀ n∈ns,0<=n.many):∀ k,k<=ns.length->0<=((ns.take k).map ai.many).sum/\((ns.take k).map ai.many).sum<=(ns.map ai.many).sum:=by
 intro k g;have key:∀ l:List ai,(∀ n∈l,0<=n.many)->0<=(l.map ai.many).sum:=by
  intro l
  induction l with
  | nil=>intro _;exact Int.le_refl _
  | cons a l ih=>
   intro h;have d:=ih λx f=>h x (Qv _ f)
   have c:=h a List.mem_cons_self;rw [Qq,List.sum_cons];omega
 have e:(ns.map ai.many).sum=((ns.take k).map ai.many).sum+((ns.drop k).map ai.many).sum:=by
  rw [<- List.sum_append,<- Qj,List.take_append_drop]
 have d:=key (ns.take k) λn b=>h n (List.mem_of_mem_take b)
 have c:=key (ns.drop k) λn b=>h n (List.mem_of_mem_drop b)
 omega
theorem QT (v:Value) (gs:List aP) (w:World) (h:cq w v gs) (L:gs.length<=1000) (t:∀ k,k<gs.length->(aq gs k).dv.length<=1000):Calls prog 30 #[v] w λe w'=>∃ m c,e=.returned (.slice m gs.length c)/\cq (fresh w w') (.slice m gs.length c) gs/\Below w w w':=by
 have Hq:=qI (QE v gs w w h (aM.refl _) L);have G:=qI t;obtain ⟨P,c0,rfl,K,_⟩:=h;clear K t
 go_enter func30,ntmps30
 go_wp2_with fail
 refine Hq.o.mono ?_;rintro e J ⟨m,c,rfl,Hi,A,Hj⟩;have Hk:=qI Hi;obtain ⟨g,dv,Hr⟩:∃ (g:Nat) (dv:Nat->Value),0<gs.length->m=some ⟨g,0,none⟩/\ex J w g 2 gs.length (λk=>[.int .u64 (aq gs k).cp,dv k])/\∀ k,k<gs.length->(aq gs k).cp<18446744073709551616/\bA w (dv k) (aq gs k).dv:=by
  by_cases q:0<gs.length
  ·obtain ⟨g,dv,Q⟩:=A q;exact ⟨g,dv,λ_=>Q⟩
  ·exact ⟨0,λ_=>.nilIface,λh=>absurd h q⟩
 have y:=qI Hr;have I:=qI Hj;clear Hi A Hr Hj Hq
 go_wp2
 go_loopw [9] (λi wr=>∃ (k:Nat) (f:Nat->Value),k<=gs.length/\i=.int .i64 k/\Below w w wr/\Hu (0<gs.length->ex wr w g 2 gs.length (λj=>[.int .u64 (aq gs j).cp,f j]))/\Hu (∀ j,j<k->bA (av (λb=>b<w.heap.size\/b=g) wr) (f j) (aq gs j).dv)/\Hu (∀ j,k<=j->f j=dv j)) (λi _=>gs.length - (intOf i).toNat)
 case atStart=>exact ⟨0,dv,by omega,rfl,I.o,λh=>(y.o h).2.1,λj s=>by omega,λj _=>rfl⟩
 case round=>
  obtain ⟨k,f,Z,rfl,l,Hh,Hf,He⟩:=hrel;have B:=qI l
  by_cases a:k<gs.length
  ·obtain ⟨rfl,_,Hm⟩:=y.o (by omega);have Hb:=Hh.o (by omega);have Y:cl wr g (k*2) (.int .u64 (aq gs k).cp):=Hb.cell k a 0 (by decide);have M:cl wr g (k*2+1) (dv k):=by rw [<- He.o k (lR)];exact Hb.cell k a 1 (by decide)
   have Hc:=(Hm k a).2;obtain ⟨x,u,Hw,_⟩:=id Hc;rw [Hw] at M Hc;have z:=l.alloc l.size (.cells #[.int .u64 (aq gs k).cp,.slice x (aq gs k).dv.length u] 123);have H:(wr.alloc (.cells #[.int .u64 (aq gs k).cp,.slice x (aq gs k).dv.length u] 123)).heap.size=wr.heap.size+1:=by simp
   have Ht:=qI (QC (.slice x (aq gs k).dv.length u) (aq gs k).dv (wr.alloc (.cells #[.int .u64 (aq gs k).cp,.slice x (aq gs k).dv.length u] 123)) (Hc.below z) (G.o k a));have T:=qI z;have X:=Hb.lt;have O:=Hb.base;have R:=l.size;have Hv:(k:Int)<(gs.length:Int):=by omega
   clear Hb Hm Hc l Hw z;generalize hcp:(aq gs k).cp=cp at *;have W:=qI hcp;have Hz:Hu ((aq gs k).dv=(aq gs k).dv):=rfl;clear hcp;generalize hxs:(aq gs k).dv=n at *;have C:=qI hxs;clear hxs
   go_wp2_with fail
   refine Ht.o.mono ?_;rintro e d ⟨o,nc,rfl,Hx,Hg⟩;have Hn:Below wr wr d:=((Q0 wr wr).alloc (lR) _).trans (Hg.mono (by simp));have Ha:=(Hh.o (by omega)).below Hn;have y1:cl d g (k*2+1) (f k):=Ha.cell k a 1 (by decide);have f1:=Ha.free (k*2+1);have Hs:=qI Hn;have N:=qI Hx;have E:=qI Ha;have V:wr+1<=d.heap.size:=by have:=Hg.size;simp at this;omega
   clear Hx Hg Hn Ha Ht
   go_wp2_with fail
   have Hp:Hu (∀ b,b≠g->(d.setCell ⟨g,k*2+1,none⟩ (.slice o n.length nc)).heap[b]?=d.heap[b]?):=λb l=>set_other l
   have Hl:(d.setCell ⟨g,k*2+1,none⟩ (.slice o n.length nc)).heap.size=d.heap.size:=by simp
   have F:=qI (E.o.set k 1 a (by decide) (.slice o n.length nc) (λj=>[.int .u64 (aq gs j).cp,if j=k then .slice o n.length nc else f j]) (λi _ hi=>by simp [hi]) (λi hi=>by
    match i,hi with
    | 0,_=>simp
    | 1,_=>simp) rfl)
   have Hy:=qI ((B.o.trans (Hs.o.mono R)).setCell (p:=⟨g,k*2+1,none⟩) O (.slice o n.length nc));generalize d.setCell ⟨g,k*2+1,none⟩ (.slice o n.length nc)=U at *
   go_roundw
   case rel=>
    refine ⟨k+1,λj=>if j=k then .slice o n.length nc else f j,by omega,by go_num,Hy.o,λ_=>F.o,λj s=>?_,λj s=>?_⟩
    ·by_cases r:j=k
     ·subst r;dsimp only;rw [if_pos rfl,C.o];refine N.o.le (bP (λb Hj Hg=>?_) (by rw [Hl];exact lR));rw [H] at Hg;exact ⟨by omega,Hp.o b (by omega)⟩
     ·dsimp only;rw [if_neg r];refine (Hf.o j (by omega)).le (bP (λb Hj Hg=>⟨Hg,?_⟩) (by rw [Hl];omega));rw [Hp.o b (by omega)];exact Hs.o.block b Hj
    ·dsimp only;rw [if_neg (by omega)];exact He.o j (by omega)
   case measure=>simp [intOf];omega
  ·have S:k=gs.length:=by omega
   subst S;have Ho:Hu (cq (fresh w wr) (.slice m gs.length c) gs):=by
    unfold Hu
    by_cases q:0<gs.length
    ·obtain ⟨D,_,Hm⟩:=y.o q;rw [D];exact QA (Hh.o q) rfl Hk.o λj s=>⟨(Hm j s).1,(Hf.o j s).le (bP (λb _ Hg=>⟨by omega,rfl⟩) (lR))⟩
    ·exact ⟨m,c,rfl,Hk.o,λh=>absurd h q⟩
   go_wp2
   go_ret;exact ⟨m,c,rfl,Ho.o,B.o⟩
