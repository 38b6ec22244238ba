import Derived.Test.YtbmmnflgnmjboaaGreatDoorA13
set_option maxRecDepth 100000
set_option maxHeartbeats 16000000
namespace Go.Proofs.YtbmmnflgnmjboaaGreatDoor
section
open RowKit Shelf
attribute [local go_sem] Oper.semAt_some
theorem xh (a:Option Addr) (n c:Nat) (w:World):Sem.run Tryz.prog (binOp .eql 61 (.slice a n c) (.slice none 0 0)) w=.ok (.bool a.isNone) w:=Lib.run_eql_slice_nil w _ _ a n c 0 0 Tryz.underlying61
theorem Hn (a:Addr) (n c:Nat) (cs:List Value) (w:World) (hlen:cs.length=n*2) (hc:∀ j u,cs[j]?=some u->w.cell? (a.add j)=some u) (h1:∀ u∈cs,u.oneCell'=true) (hl:n<=1000) :
  Calls Tryz.prog 80 #[.slice (some a) n c] w λe w'=>∃ v,e=.returned v/\w'.ownsRow w.heap.size 109 2 v n cs/\Below w.heap.size w w':=by
 obtain ⟨i0,hi,Hg,Hh,Hf⟩:=info_parts FL;have HB:=qI ((Q0 w.heap.size w).alloc (lR) (.cells #[] 109));have HC:Hid (∀ j u,cs[j]?=some u->(w.alloc (.cells #[] 109)).cell? (a.add j)=some u):=λj u hj=>Lib.cell?_alloc_some _ (hc j u hj)
 have H1:=qI h1;have Hc:=qI hlen;have Hi:=xh (some a) n c w;clear hc h1 hlen
 go_enter Tryz.func80,Tryz.ntmps80
 go_wp2_with (at_builtin;(refine wpList_append_own _ rfl _ _ 61 rfl w.heap.size 109 i0 (.agg #[.string ByteArray.empty,.int .i64 0]) 2 24 Tryz.underlying61 hi Hg Hh Hf rfl (by decide) _ _ _ rfl (World.ownsRow_lit w #[] 0 (lR) (Nat.zero_le _) rfl) a n c cs rfl Hc.out HC.out H1.out (by unfold maxLen;omega) (by omega) (by simp) ?_;intro v' w1 Ha Hb _))
 have He:=qI (HB.out.grown Hb (by simp) (λj hj=>by cases hj;exact lR));rw [Qd] at Ha;have HO:=qI (show w1.ownsRow w.heap.size 109 2 v' n cs by simpa using Ha);clear Ha Hb
 go_wp2
 go_ret;exact ⟨_,rfl,HO.out,He.out⟩
theorem Ho (n c:Nat) (w:World):Calls Tryz.prog 80 #[.slice none n c] w λe w'=>e=.returned (.slice none 0 0)/\w'=w:=by
 have hnil:=xh none n c w
 go_enter Tryz.func80,Tryz.ntmps80
 go_wp2
 go_ret;exact ⟨rfl,rfl⟩
theorem xi (a:Option Addr) (n c:Nat) (w:World):Sem.run Tryz.prog (binOp .eql 45 (.slice a n c) (.slice none 0 0)) w=.ok (.bool a.isNone) w:=Lib.run_eql_slice_nil w _ _ a n c 0 0 Tryz.underlying45
theorem xj (a:Addr) (n c:Nat) (cs:List Value) (w:World) (hlen:cs.length=n*6) (hc:∀ j u,cs[j]?=some u->w.cell? (a.add j)=some u) (h1:∀ u∈cs,u.oneCell'=true) (hl:n<=1000) :
  Calls Tryz.prog 79 #[.slice (some a) n c] w λe w'=>∃ v,e=.returned v/\w'.ownsRow w.heap.size 63 6 v n cs/\Below w.heap.size w w':=by
 obtain ⟨i0,hi,Hg,Hh,Hf⟩:=info_parts G0;have HB:=qI ((Q0 w.heap.size w).alloc (lR) (.cells #[] 63));have HC:Hid (∀ j u,cs[j]?=some u->(w.alloc (.cells #[] 63)).cell? (a.add j)=some u):=λj u hj=>Lib.cell?_alloc_some _ (hc j u hj)
 have H1:=qI h1;have Hc:=qI hlen;have Hi:=xi (some a) n c w;clear hc h1 hlen
 go_enter Tryz.func79,Tryz.ntmps79
 go_wp2_with (at_builtin;(refine wpList_append_own _ rfl _ _ 45 rfl w.heap.size 63 i0 (.agg #[.string ByteArray.empty,.int .i64 0,.int .i64 0,.int .i64 0,.int .i64 0,.slice none 0 0]) 6 72 Tryz.underlying45 hi Hg Hh Hf rfl (by decide) _ _ _ rfl (World.ownsRow_lit w #[] 0 (lR) (Nat.zero_le _) rfl) a n c cs rfl Hc.out HC.out H1.out (by unfold maxLen;omega) (by omega) (by simp) ?_;intro v' w1 Ha Hb _))
 have He:=qI (HB.out.grown Hb (by simp) (λj hj=>by cases hj;exact lR));rw [Qd] at Ha;have HO:=qI (show w1.ownsRow w.heap.size 63 6 v' n cs by simpa using Ha);clear Ha Hb
 go_wp2
 go_ret;exact ⟨_,rfl,HO.out,He.out⟩
theorem Hq (n c:Nat) (w:World):Calls Tryz.prog 79 #[.slice none n c] w λe w'=>e=.returned (.slice none 0 0)/\w'=w:=by
 have hnil:=xi none n c w
 go_enter Tryz.func79,Tryz.ntmps79
 go_wp2
 go_ret;exact ⟨rfl,rfl⟩
theorem xl (a:Option Addr) (n c:Nat) (w:World):Sem.run Tryz.prog (binOp .eql 55 (.slice a n c) (.slice none 0 0)) w=.ok (.bool a.isNone) w:=Lib.run_eql_slice_nil w _ _ a n c 0 0 Tryz.underlying55
theorem xo (a:Addr) (n c:Nat) (cs:List Value) (w:World) (hlen:cs.length=n*2) (hc:∀ j u,cs[j]?=some u->w.cell? (a.add j)=some u) (h1:∀ u∈cs,u.oneCell'=true) (hl:n<=1000) :
  Calls Tryz.prog 81 #[.slice (some a) n c] w λe w'=>∃ v,e=.returned v/\w'.ownsRow w.heap.size 69 2 v n cs/\Below w.heap.size w w':=by
 obtain ⟨i0,hi,Hg,Hh,Hf⟩:=info_parts G1;have HB:=qI ((Q0 w.heap.size w).alloc (lR) (.cells #[] 69));have HC:Hid (∀ j u,cs[j]?=some u->(w.alloc (.cells #[] 69)).cell? (a.add j)=some u):=λj u hj=>Lib.cell?_alloc_some _ (hc j u hj)
 have H1:=qI h1;have Hc:=qI hlen;have Hi:=xl (some a) n c w;clear hc h1 hlen
 go_enter Tryz.func81,Tryz.ntmps81
 go_wp2_with (at_builtin;(refine wpList_append_own _ rfl _ _ 55 rfl w.heap.size 69 i0 (.agg #[.int .u64 0,.slice none 0 0]) 2 32 Tryz.underlying55 hi Hg Hh Hf rfl (by decide) _ _ _ rfl (World.ownsRow_lit w #[] 0 (lR) (Nat.zero_le _) rfl) a n c cs rfl Hc.out HC.out H1.out (by unfold maxLen;omega) (by omega) (by simp) ?_;intro v' w1 Ha Hb _))
 have He:=qI (HB.out.grown Hb (by simp) (λj hj=>by cases hj;exact lR));rw [Qd] at Ha;have HO:=qI (show w1.ownsRow w.heap.size 69 2 v' n cs by simpa using Ha);clear Ha Hb
 go_wp2
 go_ret;exact ⟨_,rfl,HO.out,He.out⟩
theorem Hr (n c:Nat) (w:World):Calls Tryz.prog 81 #[.slice none n c] w λe w'=>e=.returned (.slice none 0 0)/\w'=w:=by
 have hnil:=xl none n c w
 go_enter Tryz.func81,Tryz.ntmps81
 go_wp2
 go_ret;exact ⟨rfl,rfl⟩
theorem xq (a:Option Addr) (n c:Nat) (w:World):Sem.run Tryz.prog (binOp .eql 53 (.slice a n c) (.slice none 0 0)) w=.ok (.bool a.isNone) w:=Lib.run_eql_slice_nil w _ _ a n c 0 0 Tryz.underlying53
theorem xr (a:Addr) (n c:Nat) (cs:List Value) (w:World) (hlen:cs.length=n*4) (hc:∀ j u,cs[j]?=some u->w.cell? (a.add j)=some u) (h1:∀ u∈cs,u.oneCell'=true) (hl:n<=1000) :
  Calls Tryz.prog 55 #[.slice (some a) n c] w λe w'=>∃ v,e=.returned v/\w'.ownsRow w.heap.size 57 4 v n cs/\Below w.heap.size w w':=by
 obtain ⟨i0,hi,Hg,Hh,Hf⟩:=info_parts G8;have HB:=qI ((Q0 w.heap.size w).alloc (lR) (.cells #[] 57));have HC:Hid (∀ j u,cs[j]?=some u->(w.alloc (.cells #[] 57)).cell? (a.add j)=some u):=λj u hj=>Lib.cell?_alloc_some _ (hc j u hj)
 have H1:=qI h1;have Hc:=qI hlen;have Hi:=xq (some a) n c w;clear hc h1 hlen
 go_enter Tryz.func55,Tryz.ntmps55
 go_wp2_with (at_builtin;(refine wpList_append_own _ rfl _ _ 53 rfl w.heap.size 57 i0 (.agg #[.string ByteArray.empty,.int .i64 0,.slice none 0 0,.slice none 0 0]) 4 72 Tryz.underlying53 hi Hg Hh Hf rfl (by decide) _ _ _ rfl (World.ownsRow_lit w #[] 0 (lR) (Nat.zero_le _) rfl) a n c cs rfl Hc.out HC.out H1.out (by unfold maxLen;omega) (by omega) (by simp) ?_;intro v' w1 Ha Hb _))
 have He:=qI (HB.out.grown Hb (by simp) (λj hj=>by cases hj;exact lR));rw [Qd] at Ha;have HO:=qI (show w1.ownsRow w.heap.size 57 4 v' n cs by simpa using Ha);clear Ha Hb
 go_wp2
 go_ret;exact ⟨_,rfl,HO.out,He.out⟩
theorem Hs (n c:Nat) (w:World):Calls Tryz.prog 55 #[.slice none n c] w λe w'=>e=.returned (.slice none 0 0)/\w'=w:=by
 have hnil:=xq none n c w
 go_enter Tryz.func55,Tryz.ntmps55
 go_wp2
 go_ret;exact ⟨rfl,rfl⟩
theorem xt (a:Option Addr) (n c:Nat) (w:World):Sem.run Tryz.prog (binOp .eql 44 (.slice a n c) (.slice none 0 0)) w=.ok (.bool a.isNone) w:=Lib.run_eql_slice_nil w _ _ a n c 0 0 Tryz.underlying44
theorem Ht (a:Addr) (n c:Nat) (cs:List Value) (w:World) (hlen:cs.length=n*1) (hc:∀ j u,cs[j]?=some u->w.cell? (a.add j)=some u) (h1:∀ u∈cs,u.oneCell'=true) (hl:n<=1000) :
  Calls Tryz.prog 82 #[.slice (some a) n c] w λe w'=>∃ v,e=.returned v/\w'.ownsRow w.heap.size 3 1 v n cs/\Below w.heap.size w w':=by
 obtain ⟨i0,hi,Hg,Hh,Hf⟩:=info_parts vX;have HB:=qI ((Q0 w.heap.size w).alloc (lR) (.cells #[] 3));have HC:Hid (∀ j u,cs[j]?=some u->(w.alloc (.cells #[] 3)).cell? (a.add j)=some u):=λj u hj=>Lib.cell?_alloc_some _ (hc j u hj)
 have H1:=qI h1;have Hc:=qI hlen;have Hi:=xt (some a) n c w;clear hc h1 hlen
 go_enter Tryz.func82,Tryz.ntmps82
 go_wp2_with (at_builtin;(refine wpList_append_own _ rfl _ _ 44 rfl w.heap.size 3 i0 (.int .i64 0) 1 8 Tryz.underlying44 hi Hg Hh Hf rfl (by decide) _ _ _ rfl (World.ownsRow_lit w #[] 0 (lR) (Nat.zero_le _) rfl) a n c cs rfl Hc.out HC.out H1.out (by unfold maxLen;omega) (by omega) (by simp) ?_;intro v' w1 Ha Hb _))
 have He:=qI (HB.out.grown Hb (by simp) (λj hj=>by cases hj;exact lR));rw [Qd] at Ha;have HO:=qI (show w1.ownsRow w.heap.size 3 1 v' n cs by simpa using Ha);clear Ha Hb
 go_wp2
 go_ret;exact ⟨_,rfl,HO.out,He.out⟩
theorem Hu (n c:Nat) (w:World):Calls Tryz.prog 82 #[.slice none n c] w λe w'=>e=.returned (.slice none 0 0)/\w'=w:=by
 have hnil:=xt none n c w
 go_enter Tryz.func82,Tryz.ntmps82
 go_wp2
 go_ret;exact ⟨rfl,rfl⟩
end
section
open RowKit Shelf
open Qos (Nd Ct Pd nd ct pd aO aP bX)
open Sv (Gv Hd gv hd)
attribute [local go_sem] Oper.semAt_some
theorem aq {W:World} {B:Nat} {cs:Array Value} {t:TypeId} (h:W.heap[B]?=some (.cells cs t (0,0))) (j:Nat):W.frozen? ⟨B,j,none⟩=false:=by simp [World.frozen?,h]
theorem aF (W:World) (o:Obj) {n:Nat} (hn:n=W.heap.size):(W.alloc o).heap[n]?=some o:=by subst hn;exact heap_alloc_new W o
theorem bg {W:World} {n:Nat} {x:Obj} (h:W.heap[n]?=some x) (o:Obj):(W.alloc o).heap[n]?=some x:=(Below.heap_alloc _ _ _ (gS h).1).trans h
theorem mC {ps:List Pd} {k:Nat} (h:k<ps.length):Ol.aY (ps.take (k+1))=Ol.aY (ps.take k)+aO (pd ps k).cs (pd ps k).cs.length:=by
 unfold Ol.aY;rw [Qa h,Qj,List.sum_append];simp [pd,h]
theorem mD {ps:List Pd} {k:Nat} (h:k<ps.length):Ol.bD (ps.take (k+1))=Ol.bD (ps.take k)+aP (pd ps k).cs (pd ps k).cs.length:=by
 unfold Ol.bD;rw [Qa h,Qj,List.sum_append];simp [pd,h]
abbrev mE:=λ(x0:Value) (x1 x2:Nat) (x3 x4:Int)=>(.cells #[x0,.int .u64 x1,.int .u8 x2,.int .i64 x3,.int .i64 x4] 95:Obj)
theorem rA (tp:Value) (op nd:Nat) (nb pol:Int) (v:Value) (ps:List Pd) (w:World) (h:eH w v ps) (hl:ps.length<=100) (hmi:∀ p∈ps,bX p.cs) (hop:op<18446744073709551616)
  (hb:∀ k,k<=ps.length->(0<=Ol.aY (ps.take k)/\Ol.aY (ps.take k)<=1000000000000000000)/\0<=Ol.bD (ps.take k)/\Ol.bD (ps.take k)<=1000000000000000000) :
  Calls Tryz.prog 50 #[.agg #[tp,.int .u64 op,.int .u8 nd,.int .i64 nb,.int .i64 pol],v] w λe w'=>e=.returned (.bool (decide (Ol.aY ps<=1000*(Ost.cnt op:Int)) && decide (Ol.bD ps<=nb)))/\Below w.heap.size w w':=by
 have HM:=qI hmi;have HC:=qI hb;obtain ⟨ao,c,rfl,hm,hr⟩:=h;unfold maxLen at hm;have HR:=qI hr;have sz:((w.alloc (mE tp op nd nb pol)).alloc (.cells #[.int .i64 0,.int .i64 0] 60)).heap.size=w.heap.size+2:=by simp
 have HO:=qI (aF (w.alloc (mE tp op nd nb pol)) (.cells #[.int .i64 0,.int .i64 0] 60) (n:=w.heap.size+1) (by simp));have HI:=qI (bg (aF w (mE tp op nd nb pol) rfl) (.cells #[.int .i64 0,.int .i64 0] 60));have HK:=qI (((Q0 w.heap.size w).alloc (lR) (mE tp op nd nb pol)).alloc (by simp) (.cells #[.int .i64 0,.int .i64 0] 60));clear hmi hb hr
 go_enter Tryz.func50,Tryz.ntmps50
 go_wp2_with fail
 generalize ((w.alloc (mE tp op nd nb pol)).alloc (.cells #[.int .i64 0,.int .i64 0] 60))=U at *;generalize HB:w.heap.size=B at *
 go_loopw [11] (λi wr=>∃ k:Nat,k<=ps.length/\i=.int .i64 k/\wr.heap[B+1]?=some (.cells #[.int .i64 (Ol.aY (ps.take k)),.int .i64 (Ol.bD (ps.take k))] 60 (0,0))/\Apart (λj=>j=B+1) U wr) (λi _=>ps.length - (intOf i).toNat)
 case atStart=>exact ⟨0,by omega,rfl,HO.out,Apart.refl _ _⟩
 case round=>
  obtain ⟨k,hk,rfl,Hf,Hl⟩:=hrel;have HP:=Hl.size;have HA:=qI Hl;have Hr:=HC.out k hk;have Hc:=Hl.below HK.out (Nat.le_of_eq HB.symm) (λj hj=>by omega);have Ht:=qI Hc
  by_cases hlt:k<ps.length
  ·obtain ⟨bb,o,cv,rfl,Hu⟩:=HR.out (by omega);have Ha:Below w.heap.size w wr:=by rw [HB];exact Hc
   obtain ⟨x0,x1,x2⟩:=((Hu.below Ha).2 k hlt).1;have Hb:=((Hu.below Ha).2 k hlt).2;have Hx:=HM.out (pd ps k) (by simp [pd,hlt]);have Hh:=qI (mC hlt);have Hi:=qI (mD hlt);have HH:=HC.out (k+1) hlt;rw [Hh.out,Hi.out] at HH;obtain ⟨ca,cc,Hw,_,_⟩:=id Hb;rw [Hw] at x2 Hb;have Hm:=qI ((Q0 wr.heap.size wr).alloc (lR) (.cells #[.string (pd ps k).nm,.int .i64 (pd ps k).pr,.slice ca (pd ps k).cs.length cc] 47));have Hp:=qI (vt (pd ps k) (.slice ca (pd ps k).cs.length cc) (wr.alloc (.cells #[.string (pd ps k).nm,.int .i64 (pd ps k).pr,.slice ca (pd ps k).cs.length cc] 47)) (Hb.below Hm.out) Hx);unfold bV at Hp;have HF:=qI Hf;clear Hu Hb Hx Hc Ha Hf Hl Hw;generalize aO (pd ps k).cs (pd ps k).cs.length=xm at *;generalize aP (pd ps k).cs (pd ps k).cs.length=xb at *;generalize Ol.aY (ps.take k)=sm at *;generalize Ol.bD (ps.take k)=sb at *;generalize pd ps k=p at *;obtain ⟨pn,pp,pc⟩:=p;dsimp only at x0 x1 x2 Hp Hm
   go_wp2_with fail
   refine Hp.out.mono ?_;rintro e W1 ⟨rfl,HD⟩;have Hj:=Hm.out.trans (HD.mono Hm.out.size);have Hz:=(Q0 W1.heap.size W1).alloc (lR) (.cells #[.int .i64 xm,.int .i64 xb] 60);have Hg:=bg ((Hj.block (B+1) (by omega)).trans HF.out) (.cells #[.int .i64 xm,.int .i64 xb] 60);have y0:(W1.alloc (.cells #[.int .i64 xm,.int .i64 xb] 60)).cell? ⟨B+1,0,none⟩=some (.int .i64 sm):=ad Hg 0;have y1:(W1.alloc (.cells #[.int .i64 xm,.int .i64 xb] 60)).cell? ⟨B+1,1,none⟩=some (.int .i64 sb):=ad Hg 1;have f0:=aq Hg 0;have f1:=aq Hg 1;have z0:(W1.alloc (.cells #[.int .i64 xm,.int .i64 xb] 60)).cell? ⟨W1.heap.size,0,none⟩=some (.int .i64 xm):=by simp
   have z1:(W1.alloc (.cells #[.int .i64 xm,.int .i64 xb] 60)).cell? ⟨W1.heap.size,1,none⟩=some (.int .i64 xb):=by simp
   have HQ:W1.heap.size≠B+1:=by have:=Hj.size;omega
   have HJ:=qI (HA.out.trans (Apart.of_below (Hj.trans (Hz.mono Hj.size))));have HN:=qI Hg;clear Hg HD Hz Hj
   go_wp2
   go_roundw
   case rel=>exact ⟨k+1,by omega,by go_num,by rw [Hh.out,Hi.out];exact aj (aj HN.out 0 _) 1 _,(HJ.out.trans (Apart.setCell (K:=λj=>j=B+1) rfl _ _ _)).trans (Apart.setCell (K:=λj=>j=B+1) rfl _ _ _)⟩
   case measure=>simp [intOf];omega
  ·have HL:k=ps.length:=by omega
   subst HL;rw [Qh] at Hf Hr;have Hs:=(HA.out.block B (by omega) (by omega)).trans HI.out;have q0:wr.cell? ⟨B+1,0,none⟩=some (.int .i64 (Ol.aY ps)):=ad Hf 0;have q1:wr.cell? ⟨B+1,1,none⟩=some (.int .i64 (Ol.bD ps)):=ad Hf 1;have q2:wr.cell? ⟨B,1,none⟩=some (.int .u64 op):=ad Hs 1;have q3:wr.cell? ⟨B,3,none⟩=some (.int .i64 nb):=ad Hs 3;have HG:Ost.cnt op<=64:=S1.kI op 64;clear Hf Hs Hl;obtain ⟨sm,Hv⟩:∃ x,x=Ol.aY ps:=⟨_,rfl⟩;obtain ⟨sb,Ho⟩:∃ x,x=Ol.bD ps:=⟨_,rfl⟩;rw [<- Hv] at q0 Hr;rw [<- Ho] at q1 Hr;have Hh:=qI Hv;have Hi:=qI Ho;clear Hv Ho;have Hn:=qI (S1.kJ op);have Hk:(Ost.aJ op 64).length=Ost.cnt op:=rfl;rw [Hk] at Hn;clear Hk;obtain ⟨ct0,He⟩:∃ x,x=Ost.cnt op:=⟨_,rfl⟩;rw [<- He] at Hn HG;have HE:=qI He;clear He;have Hy:Hid (Below w.heap.size w wr):=by unfold Hid;rw [HB];exact Ht.out
   by_cases h1:sm<=1000*(ct0:Int)
   ·have Hq:decide (sm<=1000*(ct0:Int))=true:=Qc h1
    go_wp2
    go_quiet (exact Calls.quiet_of_same (Hn.out _ hop))
    go_wp2
    go_ret;exact ⟨by rw [<- Hh.out,<- Hi.out,<- HE.out,Hq];rfl,below_drewN Hy.out nq⟩
   ·have Hq:decide (sm<=1000*(ct0:Int))=false:=Q7 h1
    go_wp2
    go_quiet (exact Calls.quiet_of_same (Hn.out _ hop))
    go_wp2
    go_ret;exact ⟨by rw [<- Hh.out,<- Hi.out,<- HE.out,Hq];rfl,below_drewN Hy.out nq⟩
end
section
namespace Ol
open Qos (Pd ag ct)
open Sv (Gv Hd hd aE aI body eJ fi fY il dR cU fD gv)
theorem Hv (hs:List Hd):∀ k,k<=hs.length->eJ hs k=((hs.take k).map fi).flatten:=by
 intro k
 induction k with
 | zero=>intro _;simp [eJ]
 | succ k ih=>
  intro hk;rw [eJ,ih (by omega),Qa (by omega),Qj,List.flatten_append]
  simp [hd,show k<hs.length by omega]
theorem xv (hs:List Hd):body hs=(hs.map fi).flatten:=by
 unfold body;rw [Hv _ _ (lR),Qh]
theorem xw (c:UInt8) (x:List UInt8):∀ (xs:List (List UInt8)),x.length+xs.length<=(Lib.join (x :: xs) [c]).length:=by
 have key:∀ (r:List (List UInt8)),x.length+r.length<=(Lib.join (x :: r.reverse) [c]).length:=by
  intro r
  induction r with
  | nil=>have:=Ost.pt [] x [c];simp at this;simp [this]
  | cons y r ih=>
   rw [List.reverse_cons,<- List.cons_append,Ost.pt,if_neg (by simp)];simp only [Q2,Qg,List.length_nil];omega
 intro xs
 have:=key xs.reverse
 rw [List.reverse_reverse,List.length_reverse] at this;exact this
theorem Hw (c:Qos.Ct) (g:Gv):13<=(il c g).length:=by
 unfold il fD
 have:=xw 32 [99,111,110,116] ([c.nm.data.toList,Sv.dec c.am,Sv.dec c.ab,Sv.dec c.cm,Sv.dec c.cb,Sv.gN c.ds]++Sv.dh g)
 rw [<- List.cons_append] at this;simp only [Q2,Qg,List.length_nil,Sv.dh] at this ⊢;unfold Sv.dQ;simp only [List.cons_append,List.nil_append] at this ⊢;omega
theorem Hx (p:Pd):6<=(fY p).length:=by
 unfold fY fD
 have:=xw 32 [112,111,100] [p.nm.data.toList,Sv.dec p.pr]
 simp only [Q2,Qg,List.length_nil] at this ⊢;unfold Sv.fC;omega
theorem Hy {h:Hd} (e:1<=h.pod.cs.length):19<=(fi h).length:=by
 have h1:=Hx h.pod;unfold fi;have h2:13<=(dR h h.pod.cs.length).length:=by
  have h3:∀ k,1<=k->13<=(dR h k).length:=by
   intro k hk
   match k,hk with
   | k+1,_=>
    rw [dR,Q2]
    have:=Hw (ct h.pod.cs k) (gv h.gs k)
    omega
  exact h3 _ e
 rw [Q2];omega
theorem Hz {hs hs':List Hd} (h:hs'.Sublist hs) (he:∀ x∈hs,1<=x.pod.cs.length):(body hs').length+19*(hs.length - hs'.length)<=(body hs).length:=by
 rw [xv,xv]
 induction h with
 | slnil=>simp
 | @cons l1 l2 a hsub ih=>
  have h1:=ih (λx hx=>he x (Qv _ hx));have h2:=Hy (he a List.mem_cons_self);have h3:=hsub.length_le;simp only [Qq,List.flatten_cons,Q2,Qg] at h1 ⊢;omega
 | @cons_cons l1 l2 a hsub ih=>
  have h1:=ih (λx hx=>he x (Qv _ hx));simp only [Qq,List.flatten_cons,Q2,Qg] at h1 ⊢;omega
theorem H7 (b:List UInt8):6<=(cU b).length:=by
 have:1<=(Lib.decDigits (Sv.fnv b)).length:=by rw [Lib.decDigits_length];exact Lib.nDigits_pos _
 simp only [cU,Q2,Qg,List.length_nil];omega
theorem H8 {hs hs':List Hd} (h:hs'.Sublist hs) (he:∀ x∈hs,1<=x.pod.cs.length) (hl:(aI hs).length<=6000):(aI hs').length<=6000:=by
 by_cases e:hs'.length=hs.length
 ·rw [h.eq_of_length e];exact hl
 ·have h1:=Hz h he;have h2:=h.length_le;have h3:=H7 (body hs);have h4:=Sv.mj (body hs');unfold aI at hl ⊢;rw [Q2] at hl ⊢;omega
theorem H9 {hs:List Hd} (h:aE hs=0):∀ x∈hs,1<=x.pod.cs.length:=by
 obtain ⟨a,b,c⟩:=bY.1 h;intro x hx;exact (Qos.me (b x hx).1).2.2.1.1
end Ol
end
section
open Go.ChangeShapes Go.WideShapes Go.ChangeAt Go.RowKit
open Ost (Cpu af)
open Dvs (Dv dv)
open Qos (Pd)
def kh (c:Ol.Cf) (v1 v2:Value):Value:=.agg #[v1,.int .u64 (c.keep:Nat),.int .i64 c.nb,v2,.int .i64 c.pol]
theorem Ia:Tryz.prog.cellsOf 27=5:=by kernel_rfl
theorem Ib:Tryz.prog.cellsOf 22=1:=by kernel_rfl
theorem Ic:Tryz.prog.cellsOf 25=1:=by kernel_rfl
theorem Ie:Tryz.prog.cellsOf 24=1:=by kernel_rfl
theorem If:Tryz.prog.cellsOf 87=3:=by kernel_rfl
theorem Ig {H:Type} {enc:TypeId × Value->H} {W:World} {base:Nat} {v:Value} {d:DataW H} {p:List MemPlace}
  (hv:Value.okWide Tryz.prog W .any base 27 v) (h:DataW.Trod enc Tryz.prog W 0 (λ_=>true) true 27 v d p):∃ (c:Ol.Cf) (v1 v2:Value) (g o:Nat),v=kh c v1 v2/\eD W v1 c.l/\cO W v2 g o c.ds/\c.keep<18446744073709551616:=by
 obtain ⟨cs,rfl,Hc,_⟩:∃ cs,v=.agg cs/\cs.size=Tryz.prog.cellsOf 27/\Row.okWide Tryz.prog W .any base 27 cs:=by
  simpa [Value.okWide,Tryz.underlying27] using hv
 rw [Ia] at Hc;obtain ⟨l⟩:=cs;obtain ⟨fuel,hf⟩:=h;have hf:DataW.trod enc Tryz.prog W 0 (λ_=>true) true fuel 27 l=some (d,p):=hf;obtain ⟨n0,y0,h0⟩:=bO Tryz.underlying27 hf 0 22 0 _ Ib rfl;obtain ⟨n1,y1,h1⟩:=bO Tryz.underlying27 hf 1 24 1 _ Ie rfl;obtain ⟨n2,y2,h2⟩:=bO Tryz.underlying27 hf 2 3 2 _ fS rfl;obtain ⟨n3,y3,h3⟩:=bO Tryz.underlying27 hf 3 25 3 _ Ic rfl;obtain ⟨n4,y4,h4⟩:=bO Tryz.underlying27 hf 4 3 4 _ fS rfl;clear hf;have hl:l.length=5:=by simpa using Hc
 match l,hl with
 | [a,b,c,e,f],_=>
  obtain ⟨k,e1,_,Hg⟩:=DataW.trod_int Tryz.underlying24 h1;obtain ⟨x2,e2⟩:=gG h2;obtain ⟨x4,e4⟩:=gG h4;have r3:=j3 Tryz.underlying25 If (by decide) h3 λ_ _ _ hl h=>CX hl h
  simp at e1 e2 e4
  obtain ⟨ds,g,o,Hh,_⟩:=CY r3;have Hb:DataW.trod enc Tryz.prog W 0 (λ_=>true) true n0 22 [a]=some y0:=h0;obtain ⟨ao,len,cap,ha⟩:∃ ao len cap,a=.slice ao len cap:=by
   rcases Deep.open_slice Tryz.underlying22 Hb with ⟨Ha,_⟩|⟨q,len',cap',m,n,D,Pl,Ha,_⟩
   ·simp at Ha;exact ⟨_,_,_,Ha⟩
   ·simp at Ha;exact ⟨_,_,_,Ha⟩
  subst ha;obtain ⟨cl,Hf,He⟩:=AY (d:=y0.1) (p:=y0.2) ⟨n0,Hb⟩;subst Hf;have hr:0<=k/\k<=18446744073709551615:=bounds_u64 Hg;refine ⟨⟨cl,k.toNat,x2,x4,ds⟩,_,_,g,o,?_,He,Hh,by show k.toNat<_;omega⟩;have Hi:((k.toNat:Nat):Int)=k:=by omega
  unfold kh;rw [e1,e2,e4]
  show _=Value.agg #[_,.int .u64 ((k.toNat:Nat):Int),_,_,_]
  rw [Hi]
end
section
namespace Ol
open Ost (Cpu ae dif af)
open Dvs (Dv dv)
open Qos (Nd Ct Pd ct ag aB)
open Sv (Gv Hd gv hd aE aI body OkL OkH)
theorem Ih {m:Mc} {ds:List Dv} {p:Pd} (hop:m.op<18446744073709551616) (hd:Dvs.fault ds=0) (h1:p.cs.length=1) (hp:ag p=0) (hro:room m [p]=true) (hg:(give m ⟨m.op,ds,λ_=>false⟩ p).1=0):(aK ⟨m,ds,[]⟩ p).1=0:=by
 have hl:left m ds []=some ⟨m.op,ds,λ_=>false⟩:=ld hd;unfold aK;dsimp only;rw [hl,Option.getD_some];have Hj:¬ ∃ x∈([]:List Hd),x.pod.nm=p.nm:=λ⟨x,hx,_⟩=>by cases hx
 have He:¬ room m (([]:List Hd).map Hd.pod++[p])=false:=λe=>by
  have e2:room m [p]=false:=e;rw [hro] at e2;cases e2
 rw [if_neg (by omega),if_neg Hj,if_neg (by simp),if_neg He,if_neg (by omega)];have hn:oF p.cs:=lg (by omega);have Hi:(⟨m.op,ds,λ_=>false⟩:Sk).ds.length<=16:=(Dvs.ie hd).1;have Hc:(give m ⟨m.op,ds,λ_=>false⟩ p).2.length=p.cs.length:=my _ _ p.cs p.cs.length hg;have Ha:=(ri (m:=m) Hi hn p.cs.length (lR) hg).1;have Hb:bE [] (⟨p,(give m ⟨m.op,ds,λ_=>false⟩ p).2⟩:Hd)=[⟨p,(give m ⟨m.op,ds,λ_=>false⟩ p).2⟩]:=rfl;have Hh:aE [(⟨p,(give m ⟨m.op,ds,λ_=>false⟩ p).2⟩:Hd)]=0:=by
  refine bY.2 ⟨by simp,λx hx=>?_,List.pairwise_singleton _ _⟩;rw [Qm.1 hx];exact ⟨hp,Hc,rq (ro p.cs.length)⟩
 have Hf:∀ g∈(give m ⟨m.op,ds,λ_=>false⟩ p).2,g.cp<18446744073709551616:=by
  intro g Hg;rw [h1] at Ha;obtain ⟨k,hk,rfl⟩:=Sv.ov Hg;have Hk:k=0:=by omega
  subst Hk;have e:(List.range 1).map (gU p.cs (bm m ⟨m.op,ds,λ_=>false⟩ p.cs 1).2.1)=[gU p.cs (bm m ⟨m.op,ds,λ_=>false⟩ p.cs 1).2.1 0]:=rfl;rw [e,bK] at Ha;obtain ⟨s1,e1,_⟩:=Option.bind_eq_some_iff.1 Ha
  have:=(fZ.1 e1).2.1.1
  unfold give;rw [h1];exact wv this hop
 rw [Hb,if_neg (by have:=Gu Hh Hf h1;omega)]
theorem xx {t:St} {p:Pd} (h0:(aK t p).1=0):(aK t p).2.length=t.hs.length+1:=by
 unfold aK at h0 ⊢
 split
 ·rename_i h1;rw [if_pos h1] at h0;exact absurd h0 h1
 ·rename_i h1
  rw [if_neg h1] at h0
  split
  ·rename_i h2;rw [if_pos h2] at h0;cases h0
  ·rename_i h2
   rw [if_neg h2] at h0
   split
   ·rename_i h3;rw [if_pos h3] at h0;cases h0
   ·rename_i h3
    rw [if_neg h3] at h0
    split
    ·rename_i h4;rw [if_pos h4] at h0;cases h0
    ·rename_i h4
     rw [if_neg h4] at h0
     split
     ·rename_i h5;rw [if_pos h5] at h0;exact absurd h0 h5
     ·rename_i h5
      rw [if_neg h5] at h0
      split
      ·rename_i h6;rw [if_pos h6] at h0;cases h0
      ·unfold bE;simp;omega
theorem rB (A:Nat):Ost.cnt A<=64:=by
 unfold Ost.cnt Ost.aJ;exact Q5 (List.length_filter_le _ _) (by simp)
def wC:Cf:=⟨[⟨0,0,0⟩],0,9,0,[]⟩
def wP:Pd:=⟨⟨#[97]⟩,0,[⟨⟨#[120]⟩,0,0,0,0,[]⟩]⟩
theorem Ii:bQ wC=0:=by decide
theorem xy:ag wP=0:=by decide
theorem xz:room (cL wC) [wP]=true:=by decide
theorem Ij:(aK ⟨cL wC,[],[]⟩ wP).1=0:=by
 refine Ih (by decide) (by decide) rfl xy xz ?_;exact GC (hs:=[]) rfl (by decide) rB (ld (by decide)) (by decide) (λx hx=>by cases hx) xy (λc hc=>by rw [Qm.1 hc]) xz
end Ol
end
section
namespace Ol
open Ost (Cpu Wi ae cnt dif aN)
open Dvs (Dv dv)
open Qos (Nd Ct Pd ct ag aB aO aP)
open Sv (Gv Hd gv hd aE gsF aI)
def zh (p:Pd):Hd:=⟨p,List.replicate p.cs.length ⟨0,[]⟩⟩
def Ik (m:Mc):Bool:=(place m [⟨true,[]⟩]).2
theorem Il {a b:List Pd} (h:a.Sublist b) (hp:∀ p∈b,ag p=0):aY a<=aY b/\bD a<=bD b:=by
 induction h with
 | slnil=>exact ⟨Int.le_refl _,Int.le_refl _⟩
 | @cons l1 l2 x hs ih=>
  have h1:=ih λp hq=>hp p (Qv _ hq)
  have m:=Qos.jx (hp x List.mem_cons_self);have a1:=Qos.kT m (lR);have a2:=Qos.j8 m (lR);unfold aY bD at *;rw [Qq,Qq,List.sum_cons,List.sum_cons];omega
 | @cons_cons l1 l2 x hs ih=>
  have h1:=ih λp hq=>hp p (Qv _ hq)
  unfold aY bD at *;rw [Qq,Qq,Qq,Qq,List.sum_cons,List.sum_cons,List.sum_cons,List.sum_cons];omega
theorem xA {a b:List Int} (h:a.Perm b):a.sum=b.sum:=by
 induction h with
 | nil=>rfl
 | cons x _ ih=>rw [List.sum_cons,List.sum_cons,ih]
 | swap x y l=>simp only [List.sum_cons];omega
 | trans _ _ i1 i2=>exact i1.trans i2
theorem Im {m:Mc} {a b:List Pd} (h:a.Perm b):room m a=room m b:=by
 unfold room aY bD;rw [xA (h.map _),xA (h.map _)]
theorem Io {m:Mc} {a b:List Pd} (h:a.Sublist b) (hp:∀ p∈b,ag p=0) (hb:room m b=true):room m a=true:=by
 have:=Il h hp
 unfold room at *;rw [Bool.and_eq_true,Qp,Qp] at *;omega
structure Came (t:St) (l:List Pd):Prop where
 perm:t.hs.Perm (l.map zh)
 good:l≠[]->room t.m l=true/\Ik t.m=true/\(aI t.hs).length<=6000
end Ol
end
section
open RowKit Shelf
open Qos (Nd Ct Pd nd ct pd)
open Sv (Gv Hd gv hd)
structure di (W:World) (N g sz n:Nat) (f:Nat->List Value):Prop where
 base:N<=g
 lt:g<W.heap.size
 cell:∀ k,k<n->∀ j,j<sz->W.cell? ⟨g,k*sz+j,none⟩=(f k)[j]?
 free:∀ j,W.frozen? ⟨g,j,none⟩=false
theorem iV {f:Nat->List Value} {sz:Nat} (hf:∀ k,(f k).length=sz) (n:Nat):((List.range n).flatMap f).length=n*sz:=by
 induction n with
 | zero=>simp
 | succ n ih=>rw [List.range_succ,List.flatMap_append,Q2,ih];simp [hf,Nat.succ_mul]
theorem mF {f:Nat->List Value} {sz:Nat} (hf:∀ k,(f k).length=sz) (n k j:Nat) (hk:k<n) (hj:j<sz):((List.range n).flatMap f)[k*sz+j]?=(f k)[j]?:=by
 induction n with
 | zero=>omega
 | succ n ih=>
  rw [List.range_succ,List.flatMap_append]
  by_cases h:k<n
  ·rw [List.getElem?_append_left]
   ·exact ih h
   ·rw [iV hf]
    have:(k+1)*sz<=n*sz:=Nat.mul_le_mul_right _ h
    rw [Nat.succ_mul] at this;omega
  ·have:k=n:=by omega
   subst this;rw [List.getElem?_append_right (by rw [iV hf];omega),iV hf]
   simp
theorem mG {f:Nat->List Value} {sz:Nat} (h0:0<sz) (hf:∀ k,(f k).length=sz) {w:World} {b o n:Nat} (h:∀ k,k<n->∀ j,j<sz->w.cell? ⟨b,o+k*sz+j,none⟩=(f k)[j]?):∀ j u,((List.range n).flatMap f)[j]?=some u->w.cell? ((⟨b,o,none⟩:Addr).add j)=some u:=by
 intro j u hu;have hl:j<n*sz:=by
  have:=(List.getElem?_eq_some_iff.1 hu).1
  rw [iV hf] at this;exact this
 have hk:j / sz<n:=Nat.div_lt_of_lt_mul (by rw [Nat.mul_comm];exact hl);have hj:j % sz<sz:=Nat.mod_lt _ h0;have e:j / sz*sz+j % sz=j:=by rw [Nat.mul_comm];exact Nat.div_add_mod j sz
 rw [<- e,mF hf n _ _ hk hj] at hu;rw [Addr.add_lit,<- e,<- Nat.add_assoc,h _ hk _ hj];exact hu
theorem mH {f:Nat->List Value} {n:Nat} (h:∀ k,k<n->∀ u∈f k,u.oneCell'=true):∀ u∈(List.range n).flatMap f,u.oneCell'=true:=by
 intro u hu;obtain ⟨k,hk,hu⟩:=List.mem_flatMap.1 hu;exact h k (List.mem_range.1 hk) u hu
theorem li {W:World} {base:Nat} {e:TypeId} {sz:Nat} {v:Value} {n:Nat} {xs:List Value} {f:Nat->List Value} (h:W.ownsRow base e sz v n xs) (hf:∀ k,k<n->∀ j,j<sz->xs[k*sz+j]?=(f k)[j]?) :
  ∃ ao cap,v=.slice ao n cap/\(n<=cap/\cap<=maxLen)/\(0<n->∃ g,ao=some ⟨g,0,none⟩/\di W base g sz n f):=by
 rcases h.2 with ⟨rfl,rfl⟩|⟨g,cap,cur,rfl,hb,hg,Ha,Hb,Hc,ht⟩
 ·exact ⟨none,0,rfl,⟨lR,Nat.zero_le _⟩,λh=>by omega⟩
 ·refine ⟨_,cap,rfl,⟨Ha,Hb⟩,λ_=>⟨g,rfl,hb,(gS hg).1,λk hk j hj=>?_,λj=>by simp [World.frozen?,hg]⟩⟩;rw [<- hf k hk j hj,<- ht,List.getElem?_take];have hl:k*sz+j<n*sz:=by
   have:(k+1)*sz<=n*sz:=Nat.mul_le_mul_right _ hk
   rw [Nat.succ_mul] at this;omega
  rw [if_pos hl]
  simp [World.cell?,hg]
theorem di.keep {W W':World} {N g sz n:Nat} {f:Nat->List Value} (h:di W N g sz n f) (hb:W'.heap[g]?=W.heap[g]?) (hs:W.heap.size<=W'.heap.size):di W' N g sz n f:=
 ⟨h.base,Q1 h.lt hs,λk hk j hj=>(World.cell?_of_block (a:=⟨g,k*sz+j,none⟩) hb).trans (h.cell k hk j hj),λj=>by
  have:=h.free j
  simp only [World.frozen?] at this ⊢;rw [hb];exact this⟩
theorem di.below {W W':World} {N g sz n:Nat} {f:Nat->List Value} (h:di W N g sz n f) (hb:Below W.heap.size W W'):di W' N g sz n f:=h.keep (hb.block g h.lt) hb.size
theorem di.set {W:World} {N g sz n:Nat} {f:Nat->List Value} (h:di W N g sz n f) (k j:Nat) (hk:k<n) (hj:j<sz) (v:Value) (f':Nat->List Value) (h1:∀ i,i<n->i≠k->f' i=f i) (h2:∀ i,i<sz->(f' k)[i]?=if i=j then some v else (f k)[i]?) (hfk:(f k).length=sz):di (W.setCell ⟨g,k*sz+j,none⟩ v) N g sz n f':=by
 have Hb:W.cell? ⟨g,k*sz+j,none⟩≠none:=by
  rw [h.cell k hk j hj,Qf (by omega)];simp
 have Ha:(W.setCell ⟨g,k*sz+j,none⟩ v).heap.size=W.heap.size:=by simp
 refine ⟨h.base,by rw [Ha];exact h.lt,λi hi q hq=>?_,λq=>by rw [World.frozen?_setCell];exact h.free q⟩
 by_cases hik:i=k
 ·subst hik;rw [h2 q hq]
  by_cases hqj:q=j
  ·subst hqj;rw [if_pos rfl];obtain ⟨u,hu⟩:∃ u,W.cell? ⟨g,i*sz+q,none⟩=some u:=Option.ne_none_iff_exists'.1 Hb;exact World.cell?_setCell_same _ _ _ hu
  ·rw [if_neg hqj,<- h.cell i hi q hq];exact Qb _ _ _ _ (by simp only [ne_eq,Addr.mk.injEq,true_and,and_true];omega)
 ·rw [h1 i hi hik,<- h.cell i hi q hq];refine Qb _ _ _ _ ?_;simp only [ne_eq,Addr.mk.injEq,true_and,and_true];have a1:i<k\/k<i:=by omega
  rcases a1 with a1|a1
  ·have:(i+1)*sz<=k*sz:=Nat.mul_le_mul_right _ a1
   rw [Nat.succ_mul] at this;omega
  ·have:(k+1)*sz<=i*sz:=Nat.mul_le_mul_right _ a1
   rw [Nat.succ_mul] at this;omega
noncomputable abbrev fresh (N:Nat) (W:World):World:=ah (λj=>j<N) W
theorem gX {N:Nat} {W:World} {b o:Nat} (h:N<=b):(fresh N W).cell? ⟨b,o,none⟩=W.cell? ⟨b,o,none⟩:=World.cell?_of_block (a:=⟨b,o,none⟩) (bJ (λk=>by have k:b<N:=k;omega))
theorem lj {N N':Nat} {W W':World} (h:∀ j,N<=j->j<W.heap.size->W'.heap[j]?=W.heap[j]?) (hs:W.heap.size<=W'.heap.size) (hN:N'<=N):az (fresh N W) (fresh N' W'):=by
 refine ⟨by rw [bx,bx];exact hs,λb o v e=>?_⟩;have hb:=dU e;have hl:b<W.heap.size:=by have:=Q3 _ ⟨b,o,none⟩ e;rw [bx] at this;exact this
 have Ha:N<=b:=by simpa using hb
 rw [gX Ha] at e;rw [gX (by omega)];exact (World.cell?_of_block (a:=⟨b,o,none⟩) (h b Ha hl)).trans e
theorem bn {M M':Nat->Prop} {W W':World} (h:∀ j,j<W.heap.size->¬ M j->¬ M' j/\W'.heap[j]?=W.heap[j]?) (hs:W.heap.size<=W'.heap.size):az (ah M W) (ah M' W'):=by
 refine ⟨by rw [bx,bx];exact hs,λb o v e=>?_⟩;have hb:=dU e;have hl:b<W.heap.size:=by have:=Q3 _ ⟨b,o,none⟩ e;rw [bx] at this;exact this
 obtain ⟨h1,h2⟩:=h b hl hb;have e1:(ah M' W').heap[b]?=(ah M W).heap[b]?:=by rw [bJ h1,bJ hb];exact h2
 exact (World.cell?_of_block (a:=⟨b,o,none⟩) e1).trans e
theorem xB {N N':Nat} {W W':World} (h:Below W.heap.size W W') (hN:N'<=N):az (fresh N W) (fresh N' W'):=lj (λj _ hj=>h.block j hj) h.size hN
theorem Ip (N:Nat) (W:World):az (fresh N W) W:=cB _ _
theorem Iq {W:World} {N g n cap:Nat} {ds:List Nd} (h:di W N g 2 n (λk=>[.string (nd ds k).kind,.int .i64 (nd ds k).many])) (hn:n=ds.length) (hm:ds.length<=maxLen):bf (fresh N W) (.slice (some ⟨g,0,none⟩) n cap) ds:=by
 subst hn;refine ⟨_,_,rfl,hm,λ_=>⟨g,0,rfl,by rw [bx];exact h.lt,λk hk=>?_⟩⟩;rw [gX h.base,gX h.base,Qd];exact ⟨h.cell k hk 0 (by decide),h.cell k hk 1 (by decide)⟩
theorem xC (W:World) (ao:Option Addr) (c:Nat):bf W (.slice ao 0 c) []:=⟨ao,c,rfl,Nat.zero_le _,λh=>absurd h (Nat.lt_irrefl 0)⟩
theorem Ir {W:World} {N g n cap:Nat} {cs:List Ct} {dv:Nat->Value} (h:di W N g 6 n (λk=>ci (ct cs k) (dv k))) (hn:n=cs.length) (hm:n<=cap/\cap<=maxLen) (hd:∀ k,k<n->bf (fresh N W) (dv k) (ct cs k).ds):aD (fresh N W) (.slice (some ⟨g,0,none⟩) n cap) cs:=by
 subst hn;refine ⟨_,_,rfl,hm,λ_=>⟨g,0,dv,rfl,by rw [bx];exact h.lt,λk hk=>⟨λj hj=>?_,hd k hk⟩⟩⟩;rw [gX h.base,Qd];exact h.cell k hk j hj
theorem Is {W:World} {N g n cap:Nat} {xs:List Int} (h:di W N g 1 n (λk=>[.int .i64 (xs.getD k 0)])) (hn:n=xs.length) (hm:n<=cap/\cap<=maxLen):bu (fresh N W) (.slice (some ⟨g,0,none⟩) n cap) xs:=by
 subst hn;refine ⟨_,_,rfl,hm,λ_=>⟨g,0,rfl,by rw [bx];exact h.lt,λk hk=>?_⟩⟩;rw [gX h.base,Qd]
 simpa using h.cell k hk 0 (by decide)
theorem It {W:World} {N g n cap:Nat} {gs:List Gv} {dv:Nat->Value} (h:di W N g 2 n (λk=>[.int .u64 (gv gs k).cp,dv k])) (hn:n=gs.length) (hm:n<=cap/\cap<=maxLen) (hd:∀ k,k<n->(gv gs k).cp<18446744073709551616/\bu (fresh N W) (dv k) (gv gs k).dv):bl (fresh N W) (.slice (some ⟨g,0,none⟩) n cap) gs:=by
 subst hn;refine ⟨_,_,rfl,hm,λ_=>⟨g,0,dv,rfl,by rw [bx];exact h.lt,λk hk=>⟨⟨?_,?_,(hd k hk).1⟩,(hd k hk).2⟩⟩⟩
 ·rw [gX h.base,Qd];exact h.cell k hk 0 (by decide)
 ·rw [gX h.base,Qd];exact h.cell k hk 1 (by decide)
theorem Iu (v:Value) (ds:List Nd) (w:World) (h:bf w v ds) (hl:ds.length<=1000):Calls Tryz.prog 80 #[v] w λe w'=>∃ ao c,e=.returned (.slice ao ds.length c)/\bf (fresh w.heap.size w') (.slice ao ds.length c) ds/\Below w.heap.size w w':=by
 obtain ⟨ao,c,rfl,hm,hr⟩:=h;cases ao with
 | none=>
  refine (Ho _ _ _).mono ?_;rintro e w' ⟨rfl,rfl⟩;have h0:ds.length=0:=by
   apply Qt;intro h0;obtain ⟨b,o,hb,_⟩:=hr (by omega);cases hb
  have:ds=[]:=List.length_eq_zero_iff.1 h0
  subst this;exact ⟨none,0,rfl,xC _ _ _,Q0 _ _⟩
 | some a=>
  refine (Hn a ds.length c ((List.range ds.length).flatMap λk=>[.string (nd ds k).kind,.int .i64 (nd ds k).many]) w (iV (by intro _;rfl) _) ?_ (mH λk _ u hu=>?_) hl).mono ?_
  ·intro j u hu
   by_cases h0:0<ds.length
   ·obtain ⟨b,o,hb,_,hc⟩:=hr h0;cases hb;exact mG (sz:=2) (by decide) (by intro _;rfl) (λk hk i hi=>by
     match i,hi with
     | 0,_=>exact (hc k hk).1
     | 1,_=>exact (hc k hk).2) j u hu
   ·rw [show ds.length=0 by omega] at hu;simp at hu
  ·simp at hu
   rcases hu with rfl|rfl <;> rfl
  ·rintro e w' ⟨u,rfl,Ha,hb⟩;obtain ⟨ao,cap,rfl,Hb,hg⟩:=li (f:=λk=>[.string (nd ds k).kind,.int .i64 (nd ds k).many]) Ha (λk hk j hj=>mF (by intro _;rfl) _ _ _ hk hj);refine ⟨ao,cap,rfl,?_,hb⟩
   by_cases h0:0<ds.length
   ·obtain ⟨g,rfl,hG⟩:=hg h0;exact Iq hG rfl hm
   ·have:ds=[]:=List.length_eq_zero_iff.1 (by omega)
    subst this;exact xC _ _ _
theorem Iv (v:Value) (xs:List Int) (w:World) (h:bu w v xs) (hl:xs.length<=1000):Calls Tryz.prog 82 #[v] w λe w'=>∃ ao c,e=.returned (.slice ao xs.length c)/\bu (fresh w.heap.size w') (.slice ao xs.length c) xs/\Below w.heap.size w w':=by
 obtain ⟨ao,c,rfl,hm,hr⟩:=h;cases ao with
 | none=>
  refine (Hu _ _ _).mono ?_;rintro e w' ⟨rfl,rfl⟩;have h0:xs.length=0:=by
   apply Qt;intro h0;obtain ⟨b,o,hb,_⟩:=hr (by omega);cases hb
  have:xs=[]:=List.length_eq_zero_iff.1 h0
  subst this;exact ⟨none,0,rfl,⟨none,0,rfl,⟨lR,Nat.zero_le _⟩,λh=>absurd h (Nat.lt_irrefl 0)⟩,Q0 _ _⟩
 | some a=>
  refine (Ht a xs.length c ((List.range xs.length).flatMap λk=>[.int .i64 (xs.getD k 0)]) w (iV (by intro _;rfl) _) ?_ (mH λk _ u hu=>?_) hl).mono ?_
  ·intro j u hu
   by_cases h0:0<xs.length
   ·obtain ⟨b,o,hb,_,hc⟩:=hr h0;cases hb;exact mG (sz:=1) (by decide) (by intro _;rfl) (λk hk i hi=>by
     match i,hi with
     | 0,_=>rw [Nat.mul_one];exact hc k hk) j u hu
   ·rw [show xs.length=0 by omega] at hu;simp at hu
  ·simp at hu
   rcases hu with rfl;rfl
  ·rintro e w' ⟨u,rfl,Hb,hb⟩;obtain ⟨ao,cap,rfl,Ha,hg⟩:=li (f:=λk=>[.int .i64 (xs.getD k 0)]) Hb (λk hk j hj=>mF (by intro _;rfl) _ _ _ hk hj);refine ⟨ao,cap,rfl,?_,hb⟩
   by_cases h0:0<xs.length
   ·obtain ⟨g,rfl,hG⟩:=hg h0;exact Is hG rfl Ha
   ·have:xs=[]:=List.length_eq_zero_iff.1 (by omega)
    subst this;exact ⟨_,_,rfl,Ha,λh=>absurd h (Nat.lt_irrefl 0)⟩
theorem Iw (v:Value) (cs:List Ct) (w W0:World) (h:aD W0 v cs) (l:az W0 w) (hl:cs.length<=1000):Calls Tryz.prog 79 #[v] w λe w'=>∃ ao c,e=.returned (.slice ao cs.length c)/\(cs.length<=c/\c<=maxLen)/\(0<cs.length->∃ (g:Nat) (dv:Nat->Value),ao=some ⟨g,0,none⟩/\di w' w.heap.size g 6 cs.length (λk=>ci (ct cs k) (dv k))/\∀ k,k<cs.length->bf W0 (dv k) (ct cs k).ds)/\Below w.heap.size w w':=by
 obtain ⟨ao,c,rfl,hm,hr⟩:=h;cases ao with
 | none=>
  refine (Hq _ _ _).mono ?_;rintro e w' ⟨rfl,rfl⟩;have h0:cs.length=0:=by
   apply Qt;intro h0;obtain ⟨b,o,dv,hb,_⟩:=hr (by omega);cases hb
  rw [h0];exact ⟨none,0,rfl,⟨lR,Nat.zero_le _⟩,λh=>by omega,Q0 _ _⟩
 | some a=>
  by_cases h0:0<cs.length
  ·obtain ⟨b,o,dv,hb,hc⟩:=hr h0;cases hb;refine (xj ⟨b,o,none⟩ cs.length c ((List.range cs.length).flatMap λk=>ci (ct cs k) (dv k)) w (iV (by intro _;rfl) _) (mG (sz:=6) (by decide) (by intro _;rfl) (λk hk i hi=>by
     have h6:i<(ci (ct cs k) (dv k)).length:=hi;rw [Qf h6];exact l.cell _ _ _ (((hc.2 k hk).1 i hi).trans (Qf h6)))) (mH λk hk u hu=>?_) hl).mono ?_
   ·obtain ⟨na,nc,hv,_⟩:=(hc.2 k hk).2;rw [hv] at hu
    simp [ci] at hu
    rcases hu with rfl|rfl|rfl|rfl|rfl|rfl <;> rfl
   ·rintro e w' ⟨u,rfl,Ha,hb⟩;obtain ⟨ao,cap,rfl,Hb,hg⟩:=li (f:=λk=>ci (ct cs k) (dv k)) Ha (λk hk j hj=>mF (by intro _;rfl) _ _ _ hk hj);refine ⟨ao,cap,rfl,Hb,λ_=>?_,hb⟩;obtain ⟨g,rfl,hG⟩:=hg h0;exact ⟨g,dv,rfl,hG,λk hk=>(hc.2 k hk).2⟩
  ·refine (xj a cs.length c [] w (by rw [show cs.length=0 by omega];rfl) (λj u hu=>by simp at hu) (λu hu=>(List.not_mem_nil hu).elim) hl).mono ?_;rintro e w' ⟨u,rfl,Ha,hb⟩;obtain ⟨ao,cap,rfl,Hb,hg⟩:=li (f:=λ_=>[]) Ha (λk hk j hj=>by omega);exact ⟨ao,cap,rfl,Hb,λh=>absurd h h0,hb⟩
theorem Ix (v:Value) (gs:List Gv) (w W0:World) (h:bl W0 v gs) (l:az W0 w) (hl:gs.length<=1000):Calls Tryz.prog 81 #[v] w λe w'=>∃ ao c,e=.returned (.slice ao gs.length c)/\(gs.length<=c/\c<=maxLen)/\(0<gs.length->∃ (g:Nat) (dv:Nat->Value),ao=some ⟨g,0,none⟩/\di w' w.heap.size g 2 gs.length (λk=>[.int .u64 (gv gs k).cp,dv k])/\∀ k,k<gs.length->(gv gs k).cp<18446744073709551616/\bu W0 (dv k) (gv gs k).dv)/\Below w.heap.size w w':=by
 obtain ⟨ao,c,rfl,hm,hr⟩:=h;cases ao with
 | none=>
  refine (Hr _ _ _).mono ?_;rintro e w' ⟨rfl,rfl⟩;have h0:gs.length=0:=by
   apply Qt;intro h0;obtain ⟨b,o,dv,hb,_⟩:=hr (by omega);cases hb
  rw [h0];exact ⟨none,0,rfl,⟨lR,Nat.zero_le _⟩,λh=>by omega,Q0 _ _⟩
 | some a=>
  by_cases h0:0<gs.length
  ·obtain ⟨b,o,dv,hb,hc⟩:=hr h0;cases hb;refine (xo ⟨b,o,none⟩ gs.length c ((List.range gs.length).flatMap λk=>[.int .u64 (gv gs k).cp,dv k]) w (iV (by intro _;rfl) _) (mG (sz:=2) (by decide) (by intro _;rfl) (λk hk i hi=>by
     match i,hi with
     | 0,_=>exact l.cell _ _ _ (hc.2 k hk).1.1
     | 1,_=>exact l.cell _ _ _ (hc.2 k hk).1.2.1)) (mH λk hk u hu=>?_) hl).mono ?_
   ·obtain ⟨na,nc,hv,_⟩:=(hc.2 k hk).2;rw [hv] at hu
    simp at hu
    rcases hu with rfl|rfl <;> rfl
   ·rintro e w' ⟨u,rfl,Ha,hb⟩;obtain ⟨ao,cap,rfl,Hb,hg⟩:=li (f:=λk=>[.int .u64 (gv gs k).cp,dv k]) Ha (λk hk j hj=>mF (by intro _;rfl) _ _ _ hk hj);refine ⟨ao,cap,rfl,Hb,λ_=>?_,hb⟩;obtain ⟨g,rfl,hG⟩:=hg h0;exact ⟨g,dv,rfl,hG,λk hk=>⟨(hc.2 k hk).1.2.2,(hc.2 k hk).2⟩⟩
  ·refine (xo a gs.length c [] w (by rw [show gs.length=0 by omega];rfl) (λj u hu=>by simp at hu) (λu hu=>(List.not_mem_nil hu).elim) hl).mono ?_;rintro e w' ⟨u,rfl,Ha,hb⟩;obtain ⟨ao,cap,rfl,Hb,hg⟩:=li (f:=λ_=>[]) Ha (λk hk j hj=>by omega);exact ⟨ao,cap,rfl,Hb,λh=>absurd h h0,hb⟩
def oQ (h:Hd) (cv gvv:Value):List Value:=[.string h.pod.nm,.int .i64 h.pod.pr,cv,gvv]
theorem xD (v:Value) (hs:List Hd) (w W0:World) (h:aQ W0 v hs) (l:az W0 w) (hl:hs.length<=1000):Calls Tryz.prog 55 #[v] w λe w'=>∃ (u:Value) (cv gvv:Nat->Value),e=.returned u/\w'.ownsRow w.heap.size 57 4 u hs.length ((List.range hs.length).flatMap λk=>oQ (hd hs k) (cv k) (gvv k))/\(∀ k,k<hs.length->aD W0 (cv k) (hd hs k).pod.cs/\bl W0 (gvv k) (hd hs k).gs)/\Below w.heap.size w w':=by
 obtain ⟨ao,c,rfl,hm,hr⟩:=h;cases ao with
 | none=>
  refine (Hs _ _ _).mono ?_;rintro e w' ⟨rfl,rfl⟩;have h0:hs.length=0:=by
   apply Qt;intro h0;obtain ⟨b,o,cv,gvv,hb,_⟩:=hr (by omega);cases hb
  rw [h0];exact ⟨_,λ_=>.nilIface,λ_=>.nilIface,rfl,⟨rfl,.inl ⟨rfl,rfl⟩⟩,λk hk=>by omega,Q0 _ _⟩
 | some a=>
  by_cases h0:0<hs.length
  ·obtain ⟨b,o,cv,gvv,hb,hc⟩:=hr h0;cases hb;refine (xr ⟨b,o,none⟩ hs.length c ((List.range hs.length).flatMap λk=>oQ (hd hs k) (cv k) (gvv k)) w (iV (by intro _;rfl) _) (mG (sz:=4) (by decide) (by intro _;rfl) (λk hk i hi=>by
     match i,hi with
     | 0,_=>exact l.cell _ _ _ (hc.2 k hk).1.1
     | 1,_=>exact l.cell _ _ _ (hc.2 k hk).1.2.1
     | 2,_=>exact l.cell _ _ _ (hc.2 k hk).1.2.2.1
     | 3,_=>exact l.cell _ _ _ (hc.2 k hk).1.2.2.2)) (mH λk hk u hu=>?_) hl).mono ?_
   ·obtain ⟨na,nc,hv,_⟩:=(hc.2 k hk).2.1;obtain ⟨ma,mc,Hb,_⟩:=(hc.2 k hk).2.2;rw [hv,Hb] at hu
    simp [oQ] at hu
    rcases hu with rfl|rfl|rfl|rfl <;> rfl
   ·rintro e w' ⟨u,rfl,Ha,hb⟩;exact ⟨u,cv,gvv,rfl,Ha,λk hk=>(hc.2 k hk).2,hb⟩
  ·have e0:hs.length=0:=by omega
   refine (xr a hs.length c [] w (by rw [e0];rfl) (λj u hu=>by simp at hu) (λu hu=>(List.not_mem_nil hu).elim) hl).mono ?_;rintro e w' ⟨u,rfl,Ha,hb⟩;refine ⟨u,λ_=>.nilIface,λ_=>.nilIface,rfl,?_,λk hk=>absurd hk (by omega),hb⟩;rw [e0] at Ha ⊢;exact Ha
end
section
namespace Ol
open Ost (Cpu N4 Wi Hi ae cnt dif aN told eM jY okH cho com wi0 pop8 df sumTo bL cR af bR)
open Dvs (Dv dv fits bC bT srt cf sel nT js g9 fA cD gF ord cn)
open Qos (Nd Ct Pd ct ag aB)
open Sv (Gv Hd gv hd)
end Ol
end
section
namespace Ol
open Dvs (Dv dv nth)
open Sv (Gv Hd gv hd)
theorem Iy:∀ {l:List Cl} {s s':Sk},bK s l=some s'->∀ x∈l,k9 s.ds x:=by
 intro l
 induction l with
 | nil=>intro s s' _ x hx;cases hx
 | cons y r ih=>
  intro s s' h x hx;rw [bK] at h;obtain ⟨s1,e1,e2⟩:=Option.bind_eq_some_iff.1 h;obtain ⟨b1,b2,rfl⟩:=fZ.1 e1
  rcases List.mem_cons.1 hx with rfl|hx
  ·exact b1
  ·exact ih e2 x hx
end Ol
end
section
namespace Ol
open Ost (Cpu ae cnt dif aN)
open Dvs (Dv dv bT)
open Qos (Nd Ct Pd ct ag aB)
open Sv (Gv Hd gv hd aI)
end Ol
end
section
namespace Ol
open Ost (Cpu ae cnt dif)
open Dvs (Dv dv)
open Qos (Nd Ct Pd ct ag aB aO aP)
open Sv (Gv Hd gv hd aE gsF aI)
theorem oR {t:St} {p:Pd} (hr:room t.m (t.hs.map Hd.pod)=true):room t.m ((aK t p).2.map Hd.pod)=true:=by
 unfold aK
 split
 ·exact hr
 split
 ·exact hr
 split
 ·exact hr
 split
 ·exact hr
 rename_i h4
 split
 ·exact hr
 split
 ·exact hr
 have Ha:room t.m (t.hs.map Hd.pod++[p])=true:=by simpa using h4
 have hp:=(insert_perm t.hs ⟨p,(give t.m ((left t.m t.ds t.hs).getD ⟨0,[],λ_=>false⟩) p).2⟩).map Hd.pod;rw [Qj] at hp;rw [<- Im hp];exact Ha
theorem Iz {t:St} {hs:List Hd} (h:Inv t) (hs':hs.Sublist t.hs) (hr:room t.m (t.hs.map Hd.pod)=true):room t.m (hs.map Hd.pod)=true:=by
 obtain ⟨_,a2,_⟩:=bY.1 h.held;refine Io (hs'.map Hd.pod) (λp hp=>?_) hr;obtain ⟨x,hx,rfl⟩:=Qk.1 hp;exact (a2 x hx).1
def Alike (ds ds':List Dv):Prop:=ds'.length=ds.length/\∀ j,(dv ds' j).kind=(dv ds j).kind/\(dv ds' j).node=(dv ds j).node
theorem alike_refl (ds:List Dv):Alike ds ds:=⟨rfl,λ_=>⟨rfl,rfl⟩⟩
theorem xE {ds:List Dv} {n:Nat} (h:n<ds.length) (b:Bool):Alike ds (Dvs.sicken ds n b):=⟨Dvs.lZ ds n b,λj=>by
 rw [Dvs.p9 h]
 split
 ·rename_i e;rw [e];exact ⟨rfl,rfl⟩
 ·exact ⟨rfl,rfl⟩⟩
theorem xF {ds ds':List Dv} (h:Alike ds ds'):Dvs.fault ds'=Dvs.fault ds:=by
 unfold Dvs.fault;rw [h.1]
 split
 ·rfl
 ·refine Dvs.CC λk _=>?_
  unfold Dvs.eR;rw [(h.2 k).1,(h.2 k).2]
theorem IA {ds ds':List Dv} (h:Alike ds ds'):cV ds'=cV ds:=by
 funext m j
 unfold cV;rw [(h.2 _).1]
def lk (s:Sk) (ds':List Dv):Sk:=⟨s.cp,ds',s.us⟩
theorem IB {ds ds':List Dv} (h:Alike ds ds') {x:Cl} (hx:k9 ds x):k9 ds' x:=by
 obtain ⟨h1,h2,h3⟩:=hx;refine ⟨h1,?_,λk hk=>?_⟩
 ·unfold gQ at *;rw [IA h];exact h2
 ·rw [h.1];exact h3 k hk
theorem IC {ds':List Dv}:∀ {l:List Cl} {s s':Sk},Alike s.ds ds'->bK s l=some s'->bK (lk s ds') l=some (lk s' ds'):=by
 intro l
 induction l with
 | nil=>intro s s' _ h;rw [bK] at h;injection h with h;rw [h];rfl
 | cons x r ih=>
  intro s s' ha h;rw [bK] at h ⊢;obtain ⟨s1,h1,h2⟩:=Option.bind_eq_some_iff.1 h;obtain ⟨a1,a2,a3⟩:=fZ.1 h1;have e:cW (lk s ds') x.g x.own x.ns=some (lk s1 ds'):=fZ.2 ⟨IB ha a1,a2,by rw [a3];rfl⟩;rw [e,Option.bind_some];exact ih (by rw [oE h1];exact ha) h2
theorem xG {m:Mc} {ds ds':List Dv} {hs:List Hd} {s:Sk} (ha:Alike ds ds') (h:left m ds hs=some s):left m ds' hs=some (lk s ds'):=by
 unfold left at *;rw [xF ha]
 split at h
 ·rename_i hf
  rw [if_pos hf];rw [jD _ _ _ (lR),Qh] at *;exact IC (s:=⟨m.op,ds,λ_=>false⟩) ha h
 ·cases h
theorem ID {t:St} {ds':List Dv} (h:Inv t) (ha:Alike t.ds ds'):Inv { t with ds:=ds' }:=by
 obtain ⟨s,hs⟩:=h.left;exact ⟨(xF ha).trans h.devs,h.held,_,xG ha hs⟩
end Ol
end
section
namespace Ol
open Dvs (Dv dv bC srt bT cf js)
open Qos (Nd Ct Pd ct ag aB)
open Sv (Gv Hd gv hd aE gsF aI)
def mI (b:Bool):Int:=if b then 1 else 0
theorem IE {k:ByteArray}:∀ {ns:List Nd},(∀ n∈ns,n.kind≠k)->(ns.map λn=>mI (decide (k=n.kind))).sum=0:=by
 intro ns
 induction ns with
 | nil=>intro _;rfl
 | cons n r ih=>
  intro h;have e:decide (k=n.kind)=false:=Q7 λe=>h n List.mem_cons_self e.symm
  rw [Qq,List.sum_cons,ih λx hx=>h x (Qv _ hx),e];rfl
theorem IF {k:ByteArray}:∀ {ns:List Nd},ns.Pairwise (λa b=>a.kind≠b.kind)->(∃ n∈ns,n.kind=k)->(ns.map λn=>mI (decide (k=n.kind))).sum=1:=by
 intro ns
 induction ns with
 | nil=>intro _ h;obtain ⟨n,hn,_⟩:=h;cases hn
 | cons n r ih=>
  intro hp h;obtain ⟨h1,h2⟩:=List.pairwise_cons.1 hp;rw [Qq,List.sum_cons]
  by_cases e:n.kind=k
  ·rw [IE λx hx e2=>h1 x hx (e.trans e2.symm),Qc e.symm];rfl
  ·have e':decide (k=n.kind)=false:=Q7 λx=>e x.symm
   rw [ih h2 (by
    obtain ⟨x,hx,hk⟩:=h
    rcases List.mem_cons.1 hx with rfl|hx
    ·exact absurd hk e
    ·exact ⟨x,hx,hk⟩),e']
   rfl
theorem IG (ds:List Dv) (k:ByteArray) (j:Int) (r:List Int):(cX ds k (j :: r):Int)=(cX ds k r:Nat)+mI (decide ((dv ds j.toNat).kind=k)):=by
 unfold cX mI;rw [List.countP_cons]
 split <;> simp_all
theorem IH (ns:List Nd) (f g:Nd->Int):(ns.map λn=>f n+g n).sum=(ns.map f).sum+(ns.map g).sum:=by
 induction ns with
 | nil=>rfl
 | cons n r ih=>rw [Qq,Qq,Qq,List.sum_cons,List.sum_cons,List.sum_cons,ih];omega
theorem II {ds:List Dv} {ns:List Nd} (hp:ns.Pairwise λa b=>a.kind≠b.kind):∀ {l:List Int},(∀ j∈l,∃ n∈ns,n.kind=(dv ds j.toNat).kind)->(ns.map λn=>(cX ds n.kind l:Int)).sum=l.length:=by
 intro l
 induction l with
 | nil=>
  intro _
  have:∀ ns:List Nd,(ns.map λn=>(cX ds n.kind []:Int)).sum=0:=λns=>by
   induction ns with
   | nil=>rfl
   | cons n r ih=>rw [Qq,List.sum_cons,ih];rfl
  rw [this];rfl
 | cons j r ih=>
  intro h;have e:(ns.map λn=>(cX ds n.kind (j :: r):Int))=ns.map λn=>(cX ds n.kind r:Int)+mI (decide ((dv ds j.toNat).kind=n.kind)):=List.map_congr_left λn _=>IG ds n.kind j r
  rw [e,IH,ih λx hx=>h x (Qv _ hx),IF hp (h j List.mem_cons_self),Qg];omega
theorem IJ {ds:List Dv} {l:List Int} {ns:List Nd} (hm:∀ n∈ns,n.many≠0) (hp:ns.Pairwise λa b=>a.kind≠b.kind) (h:gQ ds l ns):(∀ n∈ns,(cX ds n.kind l:Int)=n.many)/\(ns.map Nd.many).sum=l.length:=by
 have hk:=(we hm).1 h;have h1:∀ n∈ns,(cX ds n.kind l:Int)=n.many:=λn hn=>by
  have e:=hk n.kind;have e2:dF ns n.kind=some n.many:=wh ns _ n hn hp;rw [e2,Option.getD_some] at e;exact e.symm
 refine ⟨h1,?_⟩;rw [<- II (ds:=ds) hp (l:=l) λj hj=>Qt λhc=>?_]
 ·exact congrArg List.sum (List.map_congr_left λn hn=>(h1 n hn).symm)
 ·have e:=hk (dv ds j.toNat).kind;have e2:dF ns (dv ds j.toNat).kind=none:=rf ns _ _ λn hn e=>hc ⟨n,hn,e⟩
  rw [e2] at e;have Ha:0<cX ds (dv ds j.toNat).kind l:=List.countP_pos_iff.2 ⟨j,hj,by simp⟩;have e':(0:Int)=(cX ds (dv ds j.toNat).kind l:Nat):=e;omega
def xH (ds:List Dv) (ns:List Nd) (l:List Int):Prop:=(∀ n∈ns,(cX ds n.kind l:Int)=n.many)/\(ns.map Nd.many).sum=l.length
theorem IK {ds ds':List Dv} (h:Alike ds ds') (k:ByteArray) (l:List Int):cX ds' k l=cX ds k l:=by
 unfold cX
 congr 1
 funext j
 rw [(h.2 _).1]
theorem IL {t:St} {ds:List Dv} (h:Inv t) (ha:Alike ds t.ds):∀ x∈t.hs,∀ j,j<x.gs.length->xH ds (ct x.pod.cs j).ds (gv x.gs j).dv:=by
 obtain ⟨s,hs⟩:=h.left;obtain ⟨_,a2,_⟩:=bY.1 h.held;unfold left at hs
 split at hs
 ·rw [jD _ _ _ (lR),Qh] at hs;intro x hx j hj;obtain ⟨b1,b2,_⟩:=a2 x hx;have Hb:(⟨gv x.gs j,aB x.pod.cs (ct x.pod.cs j).am,(ct x.pod.cs j).ds⟩:Cl)∈gR t.hs:=List.mem_flatMap.2 ⟨x,hx,Qk.2 ⟨j,List.mem_range.2 hj,rfl⟩⟩;obtain ⟨_,Ha,_⟩:=Iy hs _ Hb;have hn:=lg b1 _ (Sv.jB (show j<x.pod.cs.length by omega))
  have:=IJ hn.1 hn.2 Ha
  refine ⟨λn hm=>?_,this.2⟩;rw [<- this.1 n hm];exact congrArg (λz:Nat=>(z:Int)) (IK ha n.kind _).symm
 ·cases hs
end Ol
end
section
namespace Ol
open Dvs (Dv dv nth aL)
open Qos (Nd Ct Pd ct ag aB aO aP)
open Sv (Gv Hd gv hd aE)
open Ost (cnt dif)
noncomputable def stK (m:Mc) (ds:List Dv) (hs:List Hd) (i k:Nat):Sk:=((bP ⟨m.op,ds,λ_=>false⟩ hs i).bind λs=>dT s (hd hs i) k).getD ⟨0,[],λ_=>false⟩
structure xI (ds:List Dv) (s:Sk) (g:Gv) (own:Int) (s':Sk):Prop where
 cp:g.cp &&& s.cp=g.cp
 cnt:(cnt g.cp:Int)=own
 dv:∀ j,j<g.dv.length->(0<=nth g.dv j/\nth g.dv j<ds.length/\nth g.dv j ∉ g.dv.take j)/\s.us (nth g.dv j).toNat=false
 next:s'=⟨dif s.cp g.cp,ds,aL s.us g.dv⟩
theorem xJ {s:Sk} {hs:List Hd}:∀ {n:Nat} {s':Sk},bP s hs n=some s'->∀ i,i<=n->∃ x,bP s hs i=some x:=by
 intro n
 induction n with
 | zero=>intro s' h i hi;exact ⟨s',by rw [show i=0 by omega];exact h⟩
 | succ n ih=>
  intro s' h i hi
  by_cases e:i=n+1
  ·exact ⟨s',by rw [e];exact h⟩
  ·rw [bP] at h;obtain ⟨x,hx,_⟩:=Option.bind_eq_some_iff.1 h;exact ih hx i (by omega)
theorem IM {s:Sk} {x:Hd}:∀ {n:Nat} {s':Sk},dT s x n=some s'->∀ i,i<=n->∃ y,dT s x i=some y:=by
 intro n
 induction n with
 | zero=>intro s' h i hi;exact ⟨s',by rw [show i=0 by omega];exact h⟩
 | succ n ih=>
  intro s' h i hi
  by_cases e:i=n+1
  ·exact ⟨s',by rw [e];exact h⟩
  ·rw [dT] at h;obtain ⟨x,hx,_⟩:=Option.bind_eq_some_iff.1 h;exact ih hx i (by omega)
theorem xK (m:Mc) (ds:List Dv) (hs:List Hd) (i:Nat):stK m ds hs (i+1) 0=stK m ds hs i (hd hs i).gs.length:=by
 unfold stK;rw [bP]
 congr 1
 cases bP ⟨m.op,ds,λ_=>false⟩ hs i with
 | none=>rfl
 | some s=>simp only [Option.bind_some];cases dT s (hd hs i) (hd hs i).gs.length <;> rfl
section
variable {m:Mc} {ds:List Dv} {hs:List Hd} {s:Sk}
theorem rC (h:left m ds hs=some s):bP ⟨m.op,ds,λ_=>false⟩ hs hs.length=some s:=by
 unfold left at h
 split at h
 ·exact h
 ·cases h
theorem IN (h:left m ds hs=some s):stK m ds hs hs.length 0=s:=by
 unfold stK;rw [rC h];rfl
theorem xL (h:left m ds hs=some s) {i:Nat} (hi:i<hs.length) {k:Nat} (hk:k<=(hd hs i).gs.length):∃ a,bP ⟨m.op,ds,λ_=>false⟩ hs i=some a/\a.ds=ds/\dT a (hd hs i) k=some (stK m ds hs i k)/\(stK m ds hs i k).ds=ds:=by
 obtain ⟨a,ha⟩:=xJ (rC h) i (by omega);have Ha:=ha;obtain ⟨b,hb⟩:=xJ (rC h) (i+1) (by omega);rw [bP,ha,Option.bind_some] at hb;obtain ⟨c,hc⟩:=IM hb k hk;have e:stK m ds hs i k=c:=by unfold stK;rw [ha,Option.bind_some,hc];rfl
 have e1:a.ds=ds:=by
  rw [jD hs _ i (by omega)] at ha;exact rj ha
 refine ⟨a,by first|exact Ha|rfl,e1,by rw [e];exact hc,?_⟩;rw [e];rw [v6] at hc;rw [rj hc,e1]
theorem xM (h:left m ds hs=some s) {i:Nat} (hi:i<hs.length) {k:Nat} (hk:k<(hd hs i).gs.length):xI ds (stK m ds hs i k) (gv (hd hs i).gs k) (aB (hd hs i).pod.cs (ct (hd hs i).pod.cs k).am) (stK m ds hs i (k+1)):=by
 obtain ⟨a,ha,_,h1,h2⟩:=xL h hi (Nat.le_of_lt hk);obtain ⟨a',Ha,_,h3,_⟩:=xL h hi hk;rw [ha] at Ha;injection Ha with Ha
 subst Ha;rw [dT,h1,Option.bind_some] at h3;obtain ⟨b1,b2,b3⟩:=(fZ (x:=⟨gv (hd hs i).gs k,aB (hd hs i).pod.cs (ct (hd hs i).pod.cs k).am,(ct (hd hs i).pod.cs k).ds⟩)).1 h3;obtain ⟨c1,_,c3⟩:=b1;obtain ⟨d1,d2⟩:=b2;rw [h2] at c3;refine ⟨d1,c1,λj hj=>⟨c3 j hj,d2 j hj⟩,?_⟩;rw [b3];unfold em;rw [h2]
end
theorem mC {hs:List Hd} {k:Nat} (h:k<hs.length):aY ((hs.take (k+1)).map Hd.pod)=aY ((hs.take k).map Hd.pod)+aO (hd hs k).pod.cs (hd hs k).pod.cs.length:=by
 unfold aY;rw [Qa h,Qj,Qj,List.sum_append];simp [hd,h]
theorem mD {hs:List Hd} {k:Nat} (h:k<hs.length):bD ((hs.take (k+1)).map Hd.pod)=bD ((hs.take k).map Hd.pod)+aP (hd hs k).pod.cs (hd hs k).pod.cs.length:=by
 unfold bD;rw [Qa h,Qj,Qj,List.sum_append];simp [hd,h]
theorem oS {hs:List Hd} (h:∀ x∈hs,ag x.pod=0):∀ k,k<=hs.length->(0<=aY ((hs.take k).map Hd.pod)/\aY ((hs.take k).map Hd.pod)<=3000000*k)/\0<=bD ((hs.take k).map Hd.pod)/\bD ((hs.take k).map Hd.pod)<=3377699720527872*k:=by
 intro k
 induction k with
 | zero=>intro _;exact ⟨⟨by simp [aY],by simp [aY]⟩,by simp [bD],by simp [bD]⟩
 | succ k ih=>
  intro hk;have h1:=ih (by omega);have hm:=Qos.jx (h (hd hs k) (Sv.kb hk));have h2:=Qos.kT hm (lR);have h3:=Qos.j8 hm (lR);rw [mC hk,mD hk];omega
theorem IP {ns:List Nd} (h:∀ n∈ns,0<=n.many):∀ k,k<=ns.length->0<=((ns.take k).map Nd.many).sum/\((ns.take k).map Nd.many).sum<=(ns.map Nd.many).sum:=by
 intro k hk;have key:∀ l:List Nd,(∀ n∈l,0<=n.many)->0<=(l.map Nd.many).sum:=by
  intro l
  induction l with
  | nil=>intro _;exact Int.le_refl _
  | cons a l ih=>
   intro h;have h1:=ih λx hx=>h x (Qv _ hx)
   have h2:=h a List.mem_cons_self;rw [Qq,List.sum_cons];omega
 have e:(ns.map Nd.many).sum=((ns.take k).map Nd.many).sum+((ns.drop k).map Nd.many).sum:=by
  rw [<- List.sum_append,<- Qj,List.take_append_drop]
 have h1:=key (ns.take k) λn hn=>h n (List.mem_of_mem_take hn)
 have h2:=key (ns.drop k) λn hn=>h n (List.mem_of_mem_drop hn)
 omega
end Ol
end
section
open RowKit Shelf
open Qos (Nd Ct Pd nd ct pd)
open Sv (Gv Hd gv hd)
attribute [local go_sem] Oper.semAt_some
theorem IQ (v:Value) (gs:List Gv) (w:World) (h:bl w v gs) (hl:gs.length<=1000) (hdl:∀ k,k<gs.length->(gv gs k).dv.length<=1000):Calls Tryz.prog 42 #[v] w λe w'=>∃ ao c,e=.returned (.slice ao gs.length c)/\bl (fresh w.heap.size w') (.slice ao gs.length c) gs/\Below w.heap.size w w':=by
 have Hw:=qI (Ix v gs w w h (az.refl _) hl);have HC:=qI hdl;obtain ⟨ao0,c0,rfl,HJ,_⟩:=h;clear HJ hdl
 go_enter Tryz.func42,Tryz.ntmps42
 go_wp2_with fail
 refine Hw.out.mono ?_;rintro e W1 ⟨ao,c,rfl,Hj,hg,Hl⟩;have Hk:=qI Hj;obtain ⟨g,dv,Ht⟩:∃ (g:Nat) (dv:Nat->Value),0<gs.length->ao=some ⟨g,0,none⟩/\di W1 w.heap.size g 2 gs.length (λk=>[.int .u64 (gv gs k).cp,dv k])/\∀ k,k<gs.length->(gv gs k).cp<18446744073709551616/\bu w (dv k) (gv gs k).dv:=by
  by_cases h0:0<gs.length
  ·obtain ⟨g,dv,hh⟩:=hg h0;exact ⟨g,dv,λ_=>hh⟩
  ·exact ⟨0,λ_=>.nilIface,λh=>absurd h h0⟩
 have HG:=qI Ht;have HH:=qI Hl;clear Hj hg Ht Hl Hw
 go_wp2
 go_loopw [9] (λi wr=>∃ (k:Nat) (dw:Nat->Value),k<=gs.length/\i=.int .i64 k/\Below w.heap.size w wr/\Hid (0<gs.length->di wr w.heap.size g 2 gs.length (λj=>[.int .u64 (gv gs j).cp,dw j]))/\Hid (∀ j,j<k->bu (ah (λb=>b<w.heap.size\/b=g) wr) (dw j) (gv gs j).dv)/\Hid (∀ j,k<=j->dw j=dv j)) (λi _=>gs.length - (intOf i).toNat)
 case atStart=>exact ⟨0,dv,by omega,rfl,HH.out,λh=>(HG.out h).2.1,λj hj=>by omega,λj _=>rfl⟩
 case round=>
  obtain ⟨k,dw,hk,rfl,hb,Hh,Hf,Hg⟩:=hrel;have HB:=qI hb
  by_cases hlt:k<gs.length
  ·obtain ⟨rfl,_,Hm⟩:=HG.out (by omega);have Hb:=Hh.out (by omega);have x0:wr.cell? ⟨g,k*2,none⟩=some (.int .u64 (gv gs k).cp):=Hb.cell k hlt 0 (by decide);have x1:wr.cell? ⟨g,k*2+1,none⟩=some (dv k):=by rw [<- Hg.out k (lR)];exact Hb.cell k hlt 1 (by decide)
   have Hc:=(Hm k hlt).2;obtain ⟨ia,ic,Hs,_⟩:=id Hc;rw [Hs] at x1 Hc;have hA:=hb.alloc hb.size (.cells #[.int .u64 (gv gs k).cp,.slice ia (gv gs k).dv.length ic] 69);have HM:(wr.alloc (.cells #[.int .u64 (gv gs k).cp,.slice ia (gv gs k).dv.length ic] 69)).heap.size=wr.heap.size+1:=by simp
   have Hv:=qI (Iv (.slice ia (gv gs k).dv.length ic) (gv gs k).dv (wr.alloc (.cells #[.int .u64 (gv gs k).cp,.slice ia (gv gs k).dv.length ic] 69)) (Hc.below hA) (HC.out k hlt));have HA:=qI hA;have HN:=Hb.lt;have HK:=Hb.base;have Hx:=hb.size;have Hu:(k:Int)<(gs.length:Int):=by omega
   clear Hb Hm Hc hb Hs hA;generalize hcp:(gv gs k).cp=cp at *;have HP:=qI hcp;have HL:Hid ((gv gs k).dv=(gv gs k).dv):=rfl;clear hcp;generalize hxs:(gv gs k).dv=xs at *;have Hz:=qI hxs;clear hxs
   go_wp2_with fail
   refine Hv.out.mono ?_;rintro e W2 ⟨na,nc,rfl,Hp,He⟩;have Ho:Below wr.heap.size wr W2:=((Q0 wr.heap.size wr).alloc (lR) _).trans (He.mono (by simp));have Ha:=(Hh.out (by omega)).below Ho;have y1:W2.cell? ⟨g,k*2+1,none⟩=some (dw k):=Ha.cell k hlt 1 (by decide);have f1:=Ha.free (k*2+1);have Hq:=qI Ho;have HI:=qI Hp;have HE:=qI Ha;have HO:wr.heap.size+1<=W2.heap.size:=by have:=He.size;simp at this;omega
   clear Hp He Ho Ha Hv
   go_wp2_with fail
   have Hr:Hid (∀ b,b≠g->(W2.setCell ⟨g,k*2+1,none⟩ (.slice na xs.length nc)).heap[b]?=W2.heap[b]?):=λb hb=>set_other hb
   have Hi:(W2.setCell ⟨g,k*2+1,none⟩ (.slice na xs.length nc)).heap.size=W2.heap.size:=by simp
   have HD:=qI (HE.out.set k 1 hlt (by decide) (.slice na xs.length nc) (λj=>[.int .u64 (gv gs j).cp,if j=k then .slice na xs.length nc else dw j]) (λi _ hi=>by simp [hi]) (λi hi=>by
    match i,hi with
    | 0,_=>simp
    | 1,_=>simp) rfl)
   have Hy:=qI ((HB.out.trans (Hq.out.mono Hx)).setCell (p:=⟨g,k*2+1,none⟩) HK (.slice na xs.length nc));generalize W2.setCell ⟨g,k*2+1,none⟩ (.slice na xs.length nc)=W3 at *
   go_roundw
   case rel=>
    refine ⟨k+1,λj=>if j=k then .slice na xs.length nc else dw j,by omega,by go_num,Hy.out,λ_=>HD.out,λj hj=>?_,λj hj=>?_⟩
    ·by_cases hjk:j=k
     ·subst hjk;dsimp only;rw [if_pos rfl,Hz.out];refine HI.out.le (bn (λb Hl He=>?_) (by rw [Hi];exact lR));rw [HM] at He;exact ⟨by omega,Hr.out b (by omega)⟩
     ·dsimp only;rw [if_neg hjk];refine (Hf.out j (by omega)).le (bn (λb Hl He=>⟨He,?_⟩) (by rw [Hi];omega));rw [Hr.out b (by omega)];exact Hq.out.block b Hl
    ·dsimp only;rw [if_neg (by omega)];exact Hg.out j (by omega)
   case measure=>simp [intOf];omega
  ·have HF:k=gs.length:=by omega
   subst HF;have Hn:Hid (bl (fresh w.heap.size wr) (.slice ao gs.length c) gs):=by
    unfold Hid
    by_cases h0:0<gs.length
    ·obtain ⟨ha,_,Hm⟩:=HG.out h0;rw [ha];exact It (Hh.out h0) rfl Hk.out (λj hj=>⟨(Hm j hj).1,(Hf.out j hj).le (bn (λb _ He=>⟨by omega,rfl⟩) (lR))⟩)
    ·exact ⟨ao,c,rfl,Hk.out,λh=>absurd h h0⟩
   go_wp2
   go_ret;exact ⟨ao,c,rfl,Hn.out,HB.out⟩
end
