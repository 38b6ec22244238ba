import Derived.Test.YtbmmnflgnmjboaaGreatDoorR13
set_option maxRecDepth 100000
set_option maxHeartbeats 16000000
open Go.Proofs.Tryz
namespace Go.Proofs.YtbmmnflgnmjboaaGreatDoor
section
open RowKit Shelf
attribute [local go_sem] Oper.semAt_some
theorem xo (a:Option Addr) (n c:Nat) (w:World):Sem.run prog (binOp .eql 61 (.slice a n c) (.slice none 0 0)) w=.ok (.bool a.isNone) w:=Lib.run_eql_slice_nil w _ _ a n c 0 0 underlying61
theorem Hr (a:Addr) (n c:Nat) (cs:List Value) (w:World) (hlen:cs.length=n*2) (hc:∀ j u,cs[j]?=some u->w.cell? (a.add j)=some u) (h1:∀ u∈cs,u.oneCell'=true) (hl:n<=1000) :
  Calls prog 80 #[.slice (some a) n c] w λe w'=>∃ v,e=.returned v/\w'.ownsRow w.heap.size 109 2 v n cs/\Below w.heap.size w w':=by
 obtain ⟨i0,hi,Hf,Hh,Hi⟩:=info_parts Fy;have HB:=qI ((Q0 w.heap.size w).alloc (lR) (.cells #[] 109));have HC:Hid (∀ j u,cs[j]?=some u->(w.alloc (.cells #[] 109)).cell? (a.add j)=some u):=λj u hj=>Lib.cell?_alloc_some _ (hc j u hj)
 have H1:=qI h1;have Hc:=qI hlen;have He:=xo (some a) n c w;clear hc h1 hlen
 go_enter func80,ntmps80
 go_wp2_with (at_builtin;(refine wpList_append_own _ rfl _ _ 61 rfl w.heap.size 109 i0 (.agg #[.string ByteArray.empty,.int .i64 0]) 2 24 underlying61 hi Hf Hh Hi rfl (by decide) _ _ _ rfl (World.ownsRow_lit w #[] 0 (lR) (Nat.zero_le _) rfl) a n c cs rfl Hc.out HC.out H1.out (by unfold maxLen;omega) (by omega) (by simp) ?_;intro v' w1 Hb Ha _))
 have Hg:=qI (HB.out.grown Ha (by simp) (λj hj=>by cases hj;exact lR));rw [Qd] at Hb;have HO:=qI (show w1.ownsRow w.heap.size 109 2 v' n cs by simpa using Hb);clear Hb Ha
 go_wp2
 go_ret;exact ⟨_,rfl,HO.out,Hg.out⟩
theorem Hs (n c:Nat) (w:World):Calls prog 80 #[.slice none n c] w λe w'=>e=.returned (.slice none 0 0)/\w'=w:=by
 have hnil:=xo none n c w
 go_enter func80,ntmps80
 go_wp2
 go_ret;exact ⟨rfl,rfl⟩
theorem xq (a:Option Addr) (n c:Nat) (w:World):Sem.run prog (binOp .eql 45 (.slice a n c) (.slice none 0 0)) w=.ok (.bool a.isNone) w:=Lib.run_eql_slice_nil w _ _ a n c 0 0 underlying45
theorem xr (a:Addr) (n c:Nat) (cs:List Value) (w:World) (hlen:cs.length=n*6) (hc:∀ j u,cs[j]?=some u->w.cell? (a.add j)=some u) (h1:∀ u∈cs,u.oneCell'=true) (hl:n<=1000) :
  Calls prog 79 #[.slice (some a) n c] w λe w'=>∃ v,e=.returned v/\w'.ownsRow w.heap.size 63 6 v n cs/\Below w.heap.size w w':=by
 obtain ⟨i0,hi,Hf,Hh,Hi⟩:=info_parts G4;have HB:=qI ((Q0 w.heap.size w).alloc (lR) (.cells #[] 63));have HC:Hid (∀ j u,cs[j]?=some u->(w.alloc (.cells #[] 63)).cell? (a.add j)=some u):=λj u hj=>Lib.cell?_alloc_some _ (hc j u hj)
 have H1:=qI h1;have Hc:=qI hlen;have He:=xq (some a) n c w;clear hc h1 hlen
 go_enter func79,ntmps79
 go_wp2_with (at_builtin;(refine wpList_append_own _ rfl _ _ 45 rfl w.heap.size 63 i0 (.agg #[.string ByteArray.empty,.int .i64 0,.int .i64 0,.int .i64 0,.int .i64 0,.slice none 0 0]) 6 72 underlying45 hi Hf Hh Hi rfl (by decide) _ _ _ rfl (World.ownsRow_lit w #[] 0 (lR) (Nat.zero_le _) rfl) a n c cs rfl Hc.out HC.out H1.out (by unfold maxLen;omega) (by omega) (by simp) ?_;intro v' w1 Hb Ha _))
 have Hg:=qI (HB.out.grown Ha (by simp) (λj hj=>by cases hj;exact lR));rw [Qd] at Hb;have HO:=qI (show w1.ownsRow w.heap.size 63 6 v' n cs by simpa using Hb);clear Hb Ha
 go_wp2
 go_ret;exact ⟨_,rfl,HO.out,Hg.out⟩
theorem Ht (n c:Nat) (w:World):Calls prog 79 #[.slice none n c] w λe w'=>e=.returned (.slice none 0 0)/\w'=w:=by
 have hnil:=xq none n c w
 go_enter func79,ntmps79
 go_wp2
 go_ret;exact ⟨rfl,rfl⟩
theorem xt (a:Option Addr) (n c:Nat) (w:World):Sem.run prog (binOp .eql 55 (.slice a n c) (.slice none 0 0)) w=.ok (.bool a.isNone) w:=Lib.run_eql_slice_nil w _ _ a n c 0 0 underlying55
theorem xv (a:Addr) (n c:Nat) (cs:List Value) (w:World) (hlen:cs.length=n*2) (hc:∀ j u,cs[j]?=some u->w.cell? (a.add j)=some u) (h1:∀ u∈cs,u.oneCell'=true) (hl:n<=1000) :
  Calls prog 81 #[.slice (some a) n c] w λe w'=>∃ v,e=.returned v/\w'.ownsRow w.heap.size 69 2 v n cs/\Below w.heap.size w w':=by
 obtain ⟨i0,hi,Hf,Hh,Hi⟩:=info_parts G5;have HB:=qI ((Q0 w.heap.size w).alloc (lR) (.cells #[] 69));have HC:Hid (∀ j u,cs[j]?=some u->(w.alloc (.cells #[] 69)).cell? (a.add j)=some u):=λj u hj=>Lib.cell?_alloc_some _ (hc j u hj)
 have H1:=qI h1;have Hc:=qI hlen;have He:=xt (some a) n c w;clear hc h1 hlen
 go_enter func81,ntmps81
 go_wp2_with (at_builtin;(refine wpList_append_own _ rfl _ _ 55 rfl w.heap.size 69 i0 (.agg #[.int .u64 0,.slice none 0 0]) 2 32 underlying55 hi Hf Hh Hi rfl (by decide) _ _ _ rfl (World.ownsRow_lit w #[] 0 (lR) (Nat.zero_le _) rfl) a n c cs rfl Hc.out HC.out H1.out (by unfold maxLen;omega) (by omega) (by simp) ?_;intro v' w1 Hb Ha _))
 have Hg:=qI (HB.out.grown Ha (by simp) (λj hj=>by cases hj;exact lR));rw [Qd] at Hb;have HO:=qI (show w1.ownsRow w.heap.size 69 2 v' n cs by simpa using Hb);clear Hb Ha
 go_wp2
 go_ret;exact ⟨_,rfl,HO.out,Hg.out⟩
theorem Hu (n c:Nat) (w:World):Calls prog 81 #[.slice none n c] w λe w'=>e=.returned (.slice none 0 0)/\w'=w:=by
 have hnil:=xt none n c w
 go_enter func81,ntmps81
 go_wp2
 go_ret;exact ⟨rfl,rfl⟩
theorem xw (a:Option Addr) (n c:Nat) (w:World):Sem.run prog (binOp .eql 53 (.slice a n c) (.slice none 0 0)) w=.ok (.bool a.isNone) w:=Lib.run_eql_slice_nil w _ _ a n c 0 0 underlying53
theorem xx (a:Addr) (n c:Nat) (cs:List Value) (w:World) (hlen:cs.length=n*4) (hc:∀ j u,cs[j]?=some u->w.cell? (a.add j)=some u) (h1:∀ u∈cs,u.oneCell'=true) (hl:n<=1000) :
  Calls prog 55 #[.slice (some a) n c] w λe w'=>∃ v,e=.returned v/\w'.ownsRow w.heap.size 57 4 v n cs/\Below w.heap.size w w':=by
 obtain ⟨i0,hi,Hg,Hi,Hj⟩:=info_parts Hb;have HB:=qI ((Q0 w.heap.size w).alloc (lR) (.cells #[] 57));have HC:Hid (∀ j u,cs[j]?=some u->(w.alloc (.cells #[] 57)).cell? (a.add j)=some u):=λj u hj=>Lib.cell?_alloc_some _ (hc j u hj)
 have H1:=qI h1;have He:=qI hlen;have Hf:=xw (some a) n c w;clear hc h1 hlen
 go_enter func55,ntmps55
 go_wp2_with (at_builtin;(refine wpList_append_own _ rfl _ _ 53 rfl w.heap.size 57 i0 (.agg #[.string ByteArray.empty,.int .i64 0,.slice none 0 0,.slice none 0 0]) 4 72 underlying53 hi Hg Hi Hj rfl (by decide) _ _ _ rfl (World.ownsRow_lit w #[] 0 (lR) (Nat.zero_le _) rfl) a n c cs rfl He.out HC.out H1.out (by unfold maxLen;omega) (by omega) (by simp) ?_;intro v' w1 Hc Ha _))
 have Hh:=qI (HB.out.grown Ha (by simp) (λj hj=>by cases hj;exact lR));rw [Qd] at Hc;have HO:=qI (show w1.ownsRow w.heap.size 57 4 v' n cs by simpa using Hc);clear Hc Ha
 go_wp2
 go_ret;exact ⟨_,rfl,HO.out,Hh.out⟩
theorem Hv (n c:Nat) (w:World):Calls prog 55 #[.slice none n c] w λe w'=>e=.returned (.slice none 0 0)/\w'=w:=by
 have hnil:=xw none n c w
 go_enter func55,ntmps55
 go_wp2
 go_ret;exact ⟨rfl,rfl⟩
theorem xy (a:Option Addr) (n c:Nat) (w:World):Sem.run prog (binOp .eql 44 (.slice a n c) (.slice none 0 0)) w=.ok (.bool a.isNone) w:=Lib.run_eql_slice_nil w _ _ a n c 0 0 underlying44
theorem Hw (a:Addr) (n c:Nat) (cs:List Value) (w:World) (hlen:cs.length=n*1) (hc:∀ j u,cs[j]?=some u->w.cell? (a.add j)=some u) (h1:∀ u∈cs,u.oneCell'=true) (hl:n<=1000) :
  Calls prog 82 #[.slice (some a) n c] w λe w'=>∃ v,e=.returned v/\w'.ownsRow w.heap.size 3 1 v n cs/\Below w.heap.size w w':=by
 obtain ⟨i0,hi,Hf,Hh,Hi⟩:=info_parts vY;have HB:=qI ((Q0 w.heap.size w).alloc (lR) (.cells #[] 3));have HC:Hid (∀ j u,cs[j]?=some u->(w.alloc (.cells #[] 3)).cell? (a.add j)=some u):=λj u hj=>Lib.cell?_alloc_some _ (hc j u hj)
 have H1:=qI h1;have Hc:=qI hlen;have He:=xy (some a) n c w;clear hc h1 hlen
 go_enter func82,ntmps82
 go_wp2_with (at_builtin;(refine wpList_append_own _ rfl _ _ 44 rfl w.heap.size 3 i0 (.int .i64 0) 1 8 underlying44 hi Hf Hh Hi rfl (by decide) _ _ _ rfl (World.ownsRow_lit w #[] 0 (lR) (Nat.zero_le _) rfl) a n c cs rfl Hc.out HC.out H1.out (by unfold maxLen;omega) (by omega) (by simp) ?_;intro v' w1 Hb Ha _))
 have Hg:=qI (HB.out.grown Ha (by simp) (λj hj=>by cases hj;exact lR));rw [Qd] at Hb;have HO:=qI (show w1.ownsRow w.heap.size 3 1 v' n cs by simpa using Hb);clear Hb Ha
 go_wp2
 go_ret;exact ⟨_,rfl,HO.out,Hg.out⟩
theorem Hx (n c:Nat) (w:World):Calls prog 82 #[.slice none n c] w λe w'=>e=.returned (.slice none 0 0)/\w'=w:=by
 have hnil:=xy none n c w
 go_enter func82,ntmps82
 go_wp2
 go_ret;exact ⟨rfl,rfl⟩
end
section
open RowKit Shelf
open Qos (Nd Ct Pd nd ct pd aO aP bU)
open Sv (Gv Hd gv hd)
attribute [local go_sem] Oper.semAt_some
theorem ai {W:World} {B:Nat} {cs:Array Value} {t:TypeId} (h:W.heap[B]?=some (.cells cs t (0,0))) (j:Nat):W.frozen? ⟨B,j,none⟩=false:=by simp [World.frozen?,h]
theorem aD (W:World) (o:Obj) {n:Nat} (hn:n=W.heap.size):(W.alloc o).heap[n]?=some o:=by subst hn;exact heap_alloc_new W o
theorem bj {W:World} {n:Nat} {x:Obj} (h:W.heap[n]?=some x) (o:Obj):(W.alloc o).heap[n]?=some x:=(Below.heap_alloc _ _ _ (gS h).1).trans h
theorem mG {ps:List Pd} {k:Nat} (h:k<ps.length):Ol.aY (ps.take (k+1))=Ol.aY (ps.take k)+aO (pd ps k).cs (pd ps k).cs.length:=by
 unfold Ol.aY;rw [Qa h,Qj,List.sum_append];simp [pd,h]
theorem mH {ps:List Pd} {k:Nat} (h:k<ps.length):Ol.bA (ps.take (k+1))=Ol.bA (ps.take k)+aP (pd ps k).cs (pd ps k).cs.length:=by
 unfold Ol.bA;rw [Qa h,Qj,List.sum_append];simp [pd,h]
abbrev mI:=λ(x0:Value) (x1 x2:Nat) (x3 x4:Int)=>(.cells #[x0,.int .u64 x1,.int .u8 x2,.int .i64 x3,.int .i64 x4] 95:Obj)
theorem rF (tp:Value) (op nd:Nat) (nb pol:Int) (v:Value) (ps:List Pd) (w:World) (h:du w v ps) (hl:ps.length<=100) (hmi:∀ p∈ps,bU p.cs) (hop:op<18446744073709551616)
  (hb:∀ k,k<=ps.length->(0<=Ol.aY (ps.take k)/\Ol.aY (ps.take k)<=1000000000000000000)/\0<=Ol.bA (ps.take k)/\Ol.bA (ps.take k)<=1000000000000000000) :
  Calls prog 50 #[.agg #[tp,.int .u64 op,.int .u8 nd,.int .i64 nb,.int .i64 pol],v] w λe w'=>e=.returned (.bool (decide (Ol.aY ps<=1000*(Ost.cnt op:Int)) && decide (Ol.bA ps<=nb)))/\Below w.heap.size w w':=by
 have HI:=qI hmi;have Hz:=qI hb;obtain ⟨ao,c,rfl,hm,hr⟩:=h;unfold maxLen at hm;have HR:=qI hr;have sz:((w.alloc (mI tp op nd nb pol)).alloc (.cells #[.int .i64 0,.int .i64 0] 60)).heap.size=w.heap.size+2:=by simp
 have HN:=qI (aD (w.alloc (mI tp op nd nb pol)) (.cells #[.int .i64 0,.int .i64 0] 60) (n:=w.heap.size+1) (by simp));have HO:=qI (bj (aD w (mI tp op nd nb pol) rfl) (.cells #[.int .i64 0,.int .i64 0] 60));have HH:=qI (((Q0 w.heap.size w).alloc (lR) (mI tp op nd nb pol)).alloc (by simp) (.cells #[.int .i64 0,.int .i64 0] 60));clear hmi hb hr
 go_enter func50,ntmps50
 go_wp2_with fail
 generalize ((w.alloc (mI tp op nd nb pol)).alloc (.cells #[.int .i64 0,.int .i64 0] 60))=U at *;generalize HB:w.heap.size=B at *
 go_loopw [11] (λi wr=>∃ k:Nat,k<=ps.length/\i=.int .i64 k/\wr.heap[B+1]?=some (.cells #[.int .i64 (Ol.aY (ps.take k)),.int .i64 (Ol.bA (ps.take k))] 60 (0,0))/\Apart (λj=>j=B+1) U wr) (λi _=>ps.length - (intOf i).toNat)
 case atStart=>exact ⟨0,by omega,rfl,HN.out,Apart.refl _ _⟩
 case round=>
  obtain ⟨k,hk,rfl,Hg,Hk⟩:=hrel;have HQ:=Hk.size;have HC:=qI Hk;have Hq:=Hz.out k hk;have He:=Hk.below HH.out (Nat.le_of_eq HB.symm) (λj hj=>by omega);have Hs:=qI He
  by_cases hlt:k<ps.length
  ·obtain ⟨bb,o,cv,rfl,Ht⟩:=HR.out (by omega);have Ha:Below w.heap.size w wr:=by rw [HB];exact He
   obtain ⟨x0,x1,x2⟩:=((Ht.below Ha).2 k hlt).1;have Hb:=((Ht.below Ha).2 k hlt).2;have HA:=HI.out (pd ps k) (by simp [pd,hlt]);have Hi:=qI (mG hlt);have Hj:=qI (mH hlt);have HM:=Hz.out (k+1) hlt;rw [Hi.out,Hj.out] at HM;obtain ⟨ca,cc,Hy,_,_⟩:=id Hb;rw [Hy] at x2 Hb;have Hn:=qI ((Q0 wr.heap.size wr).alloc (lR) (.cells #[.string (pd ps k).nm,.int .i64 (pd ps k).pr,.slice ca (pd ps k).cs.length cc] 47));have Hv:=qI (vx (pd ps k) (.slice ca (pd ps k).cs.length cc) (wr.alloc (.cells #[.string (pd ps k).nm,.int .i64 (pd ps k).pr,.slice ca (pd ps k).cs.length cc] 47)) (Hb.below Hn.out) HA);unfold bG at Hv;have HK:=qI Hg;clear Ht Hb HA He Ha Hg Hk Hy;generalize aO (pd ps k).cs (pd ps k).cs.length=xm at *;generalize aP (pd ps k).cs (pd ps k).cs.length=xb at *;generalize Ol.aY (ps.take k)=sm at *;generalize Ol.bA (ps.take k)=sb at *;generalize pd ps k=p at *;obtain ⟨pn,pp,pc⟩:=p;dsimp only at x0 x1 x2 Hv Hn
   go_wp2_with fail
   refine Hv.out.mono ?_;rintro e W1 ⟨rfl,HD⟩;have Hl:=Hn.out.trans (HD.mono Hn.out.size);have Hw:=(Q0 W1.heap.size W1).alloc (lR) (.cells #[.int .i64 xm,.int .i64 xb] 60);have Hf:=bj ((Hl.block (B+1) (by omega)).trans HK.out) (.cells #[.int .i64 xm,.int .i64 xb] 60);have y0:(W1.alloc (.cells #[.int .i64 xm,.int .i64 xb] 60)).cell? ⟨B+1,0,none⟩=some (.int .i64 sm):=aa Hf 0;have y1:(W1.alloc (.cells #[.int .i64 xm,.int .i64 xb] 60)).cell? ⟨B+1,1,none⟩=some (.int .i64 sb):=aa Hf 1;have f0:=ai Hf 0;have f1:=ai Hf 1;have z0:(W1.alloc (.cells #[.int .i64 xm,.int .i64 xb] 60)).cell? ⟨W1.heap.size,0,none⟩=some (.int .i64 xm):=by simp
   have z1:(W1.alloc (.cells #[.int .i64 xm,.int .i64 xb] 60)).cell? ⟨W1.heap.size,1,none⟩=some (.int .i64 xb):=by simp
   have HP:W1.heap.size≠B+1:=by have:=Hl.size;omega
   have HJ:=qI (HC.out.trans (Apart.of_below (Hl.trans (Hw.mono Hl.size))));have HG:=qI Hf;clear Hf HD Hw Hl
   go_wp2
   go_roundw
   case rel=>exact ⟨k+1,by omega,by go_num,by rw [Hi.out,Hj.out];exact ah (ah HG.out 0 _) 1 _,(HJ.out.trans (Apart.setCell (K:=λj=>j=B+1) rfl _ _ _)).trans (Apart.setCell (K:=λj=>j=B+1) rfl _ _ _)⟩
   case measure=>simp [intOf];omega
  ·have HL:k=ps.length:=by omega
   subst HL;rw [Qh] at Hg Hq;have Ho:=(HC.out.block B (by omega) (by omega)).trans HO.out;have q0:wr.cell? ⟨B+1,0,none⟩=some (.int .i64 (Ol.aY ps)):=aa Hg 0;have q1:wr.cell? ⟨B+1,1,none⟩=some (.int .i64 (Ol.bA ps)):=aa Hg 1;have q2:wr.cell? ⟨B,1,none⟩=some (.int .u64 op):=aa Ho 1;have q3:wr.cell? ⟨B,3,none⟩=some (.int .i64 nb):=aa Ho 3;have HF:Ost.cnt op<=64:=S1.kJ op 64;clear Hg Ho Hk;obtain ⟨sm,Hr⟩:∃ x,x=Ol.aY ps:=⟨_,rfl⟩;obtain ⟨sb,Hp⟩:∃ x,x=Ol.bA ps:=⟨_,rfl⟩;rw [<- Hr] at q0 Hq;rw [<- Hp] at q1 Hq;have Hi:=qI Hr;have Hj:=qI Hp;clear Hr Hp;have Hm:=qI (S1.kK op);have Hh:(Ost.aI op 64).length=Ost.cnt op:=rfl;rw [Hh] at Hm;clear Hh;obtain ⟨ct0,Hc⟩:∃ x,x=Ost.cnt op:=⟨_,rfl⟩;rw [<- Hc] at Hm HF;have HE:=qI Hc;clear Hc;have Hx:Hid (Below w.heap.size w wr):=by unfold Hid;rw [HB];exact Hs.out
   by_cases h1:sm<=1000*(ct0:Int)
   ·have Hu:decide (sm<=1000*(ct0:Int))=true:=Qc h1
    go_wp2
    go_quiet (exact Calls.quiet_of_same (Hm.out _ hop))
    go_wp2
    go_ret;exact ⟨by rw [<- Hi.out,<- Hj.out,<- HE.out,Hu];rfl,below_drewN Hx.out nq⟩
   ·have Hu:decide (sm<=1000*(ct0:Int))=false:=Q7 h1
    go_wp2
    go_quiet (exact Calls.quiet_of_same (Hm.out _ hop))
    go_wp2
    go_ret;exact ⟨by rw [<- Hi.out,<- Hj.out,<- HE.out,Hu];rfl,below_drewN Hx.out nq⟩
end
section
namespace Ol
open Qos (Pd af ct)
open Sv (Gv Hd hd aB aF body eD fg fV g6 dR cV fC gv)
theorem Hy (hs:List Hd):∀ k,k<=hs.length->eD hs k=((hs.take k).map fg).flatten:=by
 intro k
 induction k with
 | zero=>intro _;simp [eD]
 | succ k ih=>
  intro hk;rw [eD,ih (by omega),Qa (by omega),Qj,List.flatten_append]
  simp [hd,show k<hs.length by omega]
theorem xz (hs:List Hd):body hs=(hs.map fg).flatten:=by
 unfold body;rw [Hy _ _ (lR),Qh]
theorem xA (c:UInt8) (x:List UInt8):∀ (xs:List (List UInt8)),x.length+xs.length<=(Lib.join (x :: xs) [c]).length:=by
 have key:∀ (r:List (List UInt8)),x.length+r.length<=(Lib.join (x :: r.reverse) [c]).length:=by
  intro r
  induction r with
  | nil=>have:=Ost.pA [] x [c];simp at this;simp [this]
  | cons y r ih=>
   rw [List.reverse_cons,<- List.cons_append,Ost.pA,if_neg (by simp)];simp only [Q2,Qg,List.length_nil];omega
 intro xs
 have:=key xs.reverse
 rw [List.reverse_reverse,List.length_reverse] at this;exact this
theorem Hz (c:Qos.Ct) (g:Gv):13<=(g6 c g).length:=by
 unfold g6 fC
 have:=xA 32 [99,111,110,116] ([c.nm.data.toList,Sv.dec c.am,Sv.dec c.ab,Sv.dec c.cm,Sv.dec c.cb,Sv.gI c.ds]++Sv.df g)
 rw [<- List.cons_append] at this;simp only [Q2,Qg,List.length_nil,Sv.df] at this ⊢;unfold Sv.dQ;simp only [List.cons_append,List.nil_append] at this ⊢;omega
theorem H7 (p:Pd):6<=(fV p).length:=by
 unfold fV fC
 have:=xA 32 [112,111,100] [p.nm.data.toList,Sv.dec p.pr]
 simp only [Q2,Qg,List.length_nil] at this ⊢;unfold Sv.fB;omega
theorem H8 {h:Hd} (e:1<=h.pod.cs.length):19<=(fg h).length:=by
 have h1:=H7 h.pod;unfold fg;have h2:13<=(dR h h.pod.cs.length).length:=by
  have h3:∀ k,1<=k->13<=(dR h k).length:=by
   intro k hk
   match k,hk with
   | k+1,_=>
    rw [dR,Q2]
    have:=Hz (ct h.pod.cs k) (gv h.gs k)
    omega
  exact h3 _ e
 rw [Q2];omega
theorem H9 {hs hs':List Hd} (h:hs'.Sublist hs) (he:∀ x∈hs,1<=x.pod.cs.length):(body hs').length+19*(hs.length - hs'.length)<=(body hs).length:=by
 rw [xz,xz]
 induction h with
 | slnil=>simp
 | @cons l1 l2 a hsub ih=>
  have h1:=ih λx hx=>he x (Qv _ hx);have h2:=H8 (he a List.mem_cons_self);have h3:=hsub.length_le;simp only [Qq,List.flatten_cons,Q2,Qg] at h1 ⊢;omega
 | @cons_cons l1 l2 a hsub ih=>
  have h1:=ih λx hx=>he x (Qv _ hx);simp only [Qq,List.flatten_cons,Q2,Qg] at h1 ⊢;omega
theorem Ia (b:List UInt8):6<=(cV b).length:=by
 have:1<=(Lib.decDigits (Sv.fnv b)).length:=by rw [Lib.decDigits_length];exact Lib.nDigits_pos _
 simp only [cV,Q2,Qg,List.length_nil];omega
theorem Ib {hs hs':List Hd} (h:hs'.Sublist hs) (he:∀ x∈hs,1<=x.pod.cs.length) (hl:(aF hs).length<=6000):(aF hs').length<=6000:=by
 by_cases e:hs'.length=hs.length
 ·rw [h.eq_of_length e];exact hl
 ·have h1:=H9 h he;have h2:=h.length_le;have h3:=Ia (body hs);have h4:=Sv.mr (body hs');unfold aF at hl ⊢;rw [Q2] at hl ⊢;omega
theorem Ic {hs:List Hd} (h:aB hs=0):∀ x∈hs,1<=x.pod.cs.length:=by
 obtain ⟨a,b,c⟩:=bO.1 h;intro x hx;exact (Qos.mh (b x hx).1).2.2.1.1
end Ol
end
section
open Go.ChangeShapes Go.WideShapes Go.ChangeAt Go.RowKit
open Ost (Cpu ad)
open Dvs (Dv dv)
open Qos (Pd)
def km (c:Ol.Cf) (v1 v2:Value):Value:=.agg #[v1,.int .u64 (c.keep:Nat),.int .i64 c.nb,v2,.int .i64 c.pol]
theorem Ie:prog.cellsOf 27=5:=by kernel_rfl
theorem If:prog.cellsOf 22=1:=by kernel_rfl
theorem Ig:prog.cellsOf 25=1:=by kernel_rfl
theorem Ih:prog.cellsOf 24=1:=by kernel_rfl
theorem Ii:prog.cellsOf 87=3:=by kernel_rfl
theorem Ij {H:Type} {enc:TypeId × Value->H} {W:World} {base:Nat} {v:Value} {d:DataW H} {p:List MemPlace}
  (hv:Value.okWide prog W .any base 27 v) (h:DataW.Trod enc prog W 0 (λ_=>true) true 27 v d p):∃ (c:Ol.Cf) (v1 v2:Value) (g o:Nat),v=km c v1 v2/\eH W v1 c.l/\cU W v2 g o c.ds/\c.keep<18446744073709551616:=by
 obtain ⟨cs,rfl,Hc,_⟩:∃ cs,v=.agg cs/\cs.size=prog.cellsOf 27/\Row.okWide prog W .any base 27 cs:=by
  simpa [Value.okWide,underlying27] using hv
 rw [Ie] at Hc;obtain ⟨l⟩:=cs;obtain ⟨fuel,hf⟩:=h;have hf:DataW.trod enc prog W 0 (λ_=>true) true fuel 27 l=some (d,p):=hf;obtain ⟨n0,y0,h0⟩:=cT underlying27 hf 0 22 0 _ If rfl;obtain ⟨n1,y1,h1⟩:=cT underlying27 hf 1 24 1 _ Ih rfl;obtain ⟨n2,y2,h2⟩:=cT underlying27 hf 2 3 2 _ jp rfl;obtain ⟨n3,y3,h3⟩:=cT underlying27 hf 3 25 3 _ Ig rfl;obtain ⟨n4,y4,h4⟩:=cT underlying27 hf 4 3 4 _ jp rfl;clear hf;have hl:l.length=5:=by simpa using Hc
 match l,hl with
 | [a,b,c,e,f],_=>
  obtain ⟨k,e1,_,Hi⟩:=DataW.trod_int underlying24 h1;obtain ⟨x2,e2⟩:=jq h2;obtain ⟨x4,e4⟩:=jq h4;have r3:=l6 underlying25 Ii (by decide) h3 λ_ _ _ hl h=>CS hl h
  simp at e1 e2 e4
  obtain ⟨ds,g,o,He,_⟩:=CU r3;have Hb:DataW.trod enc prog W 0 (λ_=>true) true n0 22 [a]=some y0:=h0;obtain ⟨ao,len,cap,ha⟩:∃ ao len cap,a=.slice ao len cap:=by
   rcases Deep.open_slice underlying22 Hb with ⟨Ha,_⟩|⟨q,len',cap',m,n,D,Pl,Ha,_⟩
   ·simp at Ha;exact ⟨_,_,_,Ha⟩
   ·simp at Ha;exact ⟨_,_,_,Ha⟩
  subst ha;obtain ⟨cl,Hf,Hh⟩:=AY (d:=y0.1) (p:=y0.2) ⟨n0,Hb⟩;subst Hf;have hr:0<=k/\k<=18446744073709551615:=bounds_u64 Hi;refine ⟨⟨cl,k.toNat,x2,x4,ds⟩,_,_,g,o,?_,Hh,He,by show k.toNat<_;omega⟩;have Hg:((k.toNat:Nat):Int)=k:=by omega
  unfold km;rw [e1,e2,e4]
  show _=Value.agg #[_,.int .u64 ((k.toNat:Nat):Int),_,_,_]
  rw [Hg]
end
section
namespace Ol
open Ost (Cpu ae dif ad)
open Dvs (Dv dv)
open Qos (Nd Ct Pd ct af aA)
open Sv (Gv Hd gv hd aB aF body OkL OkH)
theorem Ik {m:Mc} {ds:List Dv} {p:Pd} (hop:m.op<18446744073709551616) (hd:Dvs.fault ds=0) (h1:p.cs.length=1) (hp:af p=0) (hro:room m [p]=true) (hg:(give m ⟨m.op,ds,λ_=>false⟩ p).1=0):(aR ⟨m,ds,[]⟩ p).1=0:=by
 have hl:left m ds []=some ⟨m.op,ds,λ_=>false⟩:=lg hd;unfold aR;dsimp only;rw [hl,Option.getD_some];have Hk:¬ ∃ x∈([]:List Hd),x.pod.nm=p.nm:=λ⟨x,hx,_⟩=>by cases hx
 have Ha:¬ room m (([]:List Hd).map Hd.pod++[p])=false:=λe=>by
  have e2:room m [p]=false:=e;rw [hro] at e2;cases e2
 rw [if_neg (by omega),if_neg Hk,if_neg (by simp),if_neg Ha,if_neg (by omega)];have hn:oH p.cs:=lh (by omega);have Hg:(⟨m.op,ds,λ_=>false⟩:Sk).ds.length<=16:=(Dvs.gW hd).1;have He:(give m ⟨m.op,ds,λ_=>false⟩ p).2.length=p.cs.length:=mA _ _ p.cs p.cs.length hg;have Hb:=(rk (m:=m) Hg hn p.cs.length (lR) hg).1;have Hc:bB [] (⟨p,(give m ⟨m.op,ds,λ_=>false⟩ p).2⟩:Hd)=[⟨p,(give m ⟨m.op,ds,λ_=>false⟩ p).2⟩]:=rfl;have Hh:aB [(⟨p,(give m ⟨m.op,ds,λ_=>false⟩ p).2⟩:Hd)]=0:=by
  refine bO.2 ⟨by simp,λx hx=>?_,List.pairwise_singleton _ _⟩;rw [Qm.1 hx];exact ⟨hp,He,rt (rr p.cs.length)⟩
 have Hi:∀ g∈(give m ⟨m.op,ds,λ_=>false⟩ p).2,g.cp<18446744073709551616:=by
  intro g Hf;rw [h1] at Hb;obtain ⟨k,hk,rfl⟩:=Sv.ox Hf;have Hj:k=0:=by omega
  subst Hj;have e:(List.range 1).map (gM p.cs (bi m ⟨m.op,ds,λ_=>false⟩ p.cs 1).2.1)=[gM p.cs (bi m ⟨m.op,ds,λ_=>false⟩ p.cs 1).2.1 0]:=rfl;rw [e,bS] at Hb;obtain ⟨s1,e1,_⟩:=Option.bind_eq_some_iff.1 Hb
  have:=(ig.1 e1).2.1.1
  unfold give;rw [h1];exact wA this hop
 rw [Hc,if_neg (by have:=Gq Hh Hi h1;omega)]
theorem xB {t:St} {p:Pd} (h0:(aR t p).1=0):(aR t p).2.length=t.hs.length+1:=by
 unfold aR at h0 ⊢
 split
 ·rename_i h1;rw [if_pos h1] at h0;exact absurd h0 h1
 ·rename_i h1
  rw [if_neg h1] at h0
  split
  ·rename_i h2;rw [if_pos h2] at h0;cases h0
  ·rename_i h2
   rw [if_neg h2] at h0
   split
   ·rename_i h3;rw [if_pos h3] at h0;cases h0
   ·rename_i h3
    rw [if_neg h3] at h0
    split
    ·rename_i h4;rw [if_pos h4] at h0;cases h0
    ·rename_i h4
     rw [if_neg h4] at h0
     split
     ·rename_i h5;rw [if_pos h5] at h0;exact absurd h0 h5
     ·rename_i h5
      rw [if_neg h5] at h0
      split
      ·rename_i h6;rw [if_pos h6] at h0;cases h0
      ·unfold bB;simp;omega
theorem rG (A:Nat):Ost.cnt A<=64:=by
 unfold Ost.cnt Ost.aI;exact Q5 (List.length_filter_le _ _) (by simp)
def wC:Cf:=⟨[⟨0,0,0⟩],0,9,0,[]⟩
def wP:Pd:=⟨⟨#[97]⟩,0,[⟨⟨#[120]⟩,0,0,0,0,[]⟩]⟩
theorem Il:b6 wC=0:=by decide
theorem xC:af wP=0:=by decide
theorem xD:room (cz wC) [wP]=true:=by decide
theorem Im:(aR ⟨cz wC,[],[]⟩ wP).1=0:=by
 refine Ik (by decide) (by decide) rfl xC xD ?_;exact Gy (hs:=[]) rfl (by decide) rG (lg (by decide)) (by decide) (λx hx=>by cases hx) xC (λc hc=>by rw [Qm.1 hc]) xD
end Ol
end
section
namespace Ol
open Ost (Cpu Wi ae cnt dif aN)
open Dvs (Dv dv)
open Qos (Nd Ct Pd ct af aA aO aP)
open Sv (Gv Hd gv hd aB gsF aF)
def zh (p:Pd):Hd:=⟨p,List.replicate p.cs.length ⟨0,[]⟩⟩
def Io (m:Mc):Bool:=(place m [⟨true,[]⟩]).2
theorem Ip {a b:List Pd} (h:a.Sublist b) (hp:∀ p∈b,af p=0):aY a<=aY b/\bA a<=bA b:=by
 induction h with
 | slnil=>exact ⟨Int.le_refl _,Int.le_refl _⟩
 | @cons l1 l2 x hs ih=>
  have h1:=ih λp hq=>hp p (Qv _ hq)
  have m:=Qos.ju (hp x List.mem_cons_self);have a1:=Qos.kV m (lR);have a2:=Qos.j8 m (lR);unfold aY bA at *;rw [Qq,Qq,List.sum_cons,List.sum_cons];omega
 | @cons_cons l1 l2 x hs ih=>
  have h1:=ih λp hq=>hp p (Qv _ hq)
  unfold aY bA at *;rw [Qq,Qq,Qq,Qq,List.sum_cons,List.sum_cons,List.sum_cons,List.sum_cons];omega
theorem oR {a b:List Int} (h:a.Perm b):a.sum=b.sum:=by
 induction h with
 | nil=>rfl
 | cons x _ ih=>rw [List.sum_cons,List.sum_cons,ih]
 | swap x y l=>simp only [List.sum_cons];omega
 | trans _ _ i1 i2=>exact i1.trans i2
theorem Iq {m:Mc} {a b:List Pd} (h:a.Perm b):room m a=room m b:=by
 unfold room aY bA;rw [oR (h.map _),oR (h.map _)]
theorem Ir {m:Mc} {a b:List Pd} (h:a.Sublist b) (hp:∀ p∈b,af p=0) (hb:room m b=true):room m a=true:=by
 have:=Ip h hp
 unfold room at *;rw [Bool.and_eq_true,Qp,Qp] at *;omega
structure Came (t:St) (l:List Pd):Prop where
 perm:t.hs.Perm (l.map zh)
 good:l≠[]->room t.m l=true/\Io t.m=true/\(aF t.hs).length<=6000
end Ol
end
section
open RowKit Shelf
open Qos (Nd Ct Pd nd ct pd)
open Sv (Gv Hd gv hd)
structure di (W:World) (N g sz n:Nat) (f:Nat->List Value):Prop where
 base:N<=g
 lt:g<W.heap.size
 cell:∀ k,k<n->∀ j,j<sz->W.cell? ⟨g,k*sz+j,none⟩=(f k)[j]?
 free:∀ j,W.frozen? ⟨g,j,none⟩=false
theorem iR {f:Nat->List Value} {sz:Nat} (hf:∀ k,(f k).length=sz) (n:Nat):((List.range n).flatMap f).length=n*sz:=by
 induction n with
 | zero=>simp
 | succ n ih=>rw [List.range_succ,List.flatMap_append,Q2,ih];simp [hf,Nat.succ_mul]
theorem mJ {f:Nat->List Value} {sz:Nat} (hf:∀ k,(f k).length=sz) (n k j:Nat) (hk:k<n) (hj:j<sz):((List.range n).flatMap f)[k*sz+j]?=(f k)[j]?:=by
 induction n with
 | zero=>omega
 | succ n ih=>
  rw [List.range_succ,List.flatMap_append]
  by_cases h:k<n
  ·rw [List.getElem?_append_left]
   ·exact ih h
   ·rw [iR hf]
    have:(k+1)*sz<=n*sz:=Nat.mul_le_mul_right _ h
    rw [Nat.succ_mul] at this;omega
  ·have:k=n:=by omega
   subst this;rw [List.getElem?_append_right (by rw [iR hf];omega),iR hf]
   simp
theorem mK {f:Nat->List Value} {sz:Nat} (h0:0<sz) (hf:∀ k,(f k).length=sz) {w:World} {b o n:Nat} (h:∀ k,k<n->∀ j,j<sz->w.cell? ⟨b,o+k*sz+j,none⟩=(f k)[j]?):∀ j u,((List.range n).flatMap f)[j]?=some u->w.cell? ((⟨b,o,none⟩:Addr).add j)=some u:=by
 intro j u hu;have hl:j<n*sz:=by
  have:=(List.getElem?_eq_some_iff.1 hu).1
  rw [iR hf] at this;exact this
 have hk:j / sz<n:=Nat.div_lt_of_lt_mul (by rw [Nat.mul_comm];exact hl);have hj:j % sz<sz:=Nat.mod_lt _ h0;have e:j / sz*sz+j % sz=j:=by rw [Nat.mul_comm];exact Nat.div_add_mod j sz
 rw [<- e,mJ hf n _ _ hk hj] at hu;rw [Addr.add_lit,<- e,<- Nat.add_assoc,h _ hk _ hj];exact hu
theorem mL {f:Nat->List Value} {n:Nat} (h:∀ k,k<n->∀ u∈f k,u.oneCell'=true):∀ u∈(List.range n).flatMap f,u.oneCell'=true:=by
 intro u hu;obtain ⟨k,hk,hu⟩:=List.mem_flatMap.1 hu;exact h k (List.mem_range.1 hk) u hu
theorem lk {W:World} {base:Nat} {e:TypeId} {sz:Nat} {v:Value} {n:Nat} {xs:List Value} {f:Nat->List Value} (h:W.ownsRow base e sz v n xs) (hf:∀ k,k<n->∀ j,j<sz->xs[k*sz+j]?=(f k)[j]?) :
  ∃ ao cap,v=.slice ao n cap/\(n<=cap/\cap<=maxLen)/\(0<n->∃ g,ao=some ⟨g,0,none⟩/\di W base g sz n f):=by
 rcases h.2 with ⟨rfl,rfl⟩|⟨g,cap,cur,rfl,hb,hg,Ha,Hb,Hc,ht⟩
 ·exact ⟨none,0,rfl,⟨lR,Nat.zero_le _⟩,λh=>by omega⟩
 ·refine ⟨_,cap,rfl,⟨Ha,Hb⟩,λ_=>⟨g,rfl,hb,(gS hg).1,λk hk j hj=>?_,λj=>by simp [World.frozen?,hg]⟩⟩;rw [<- hf k hk j hj,<- ht,List.getElem?_take];have hl:k*sz+j<n*sz:=by
   have:(k+1)*sz<=n*sz:=Nat.mul_le_mul_right _ hk
   rw [Nat.succ_mul] at this;omega
  rw [if_pos hl]
  simp [World.cell?,hg]
theorem di.keep {W W':World} {N g sz n:Nat} {f:Nat->List Value} (h:di W N g sz n f) (hb:W'.heap[g]?=W.heap[g]?) (hs:W.heap.size<=W'.heap.size):di W' N g sz n f:=
 ⟨h.base,Q1 h.lt hs,λk hk j hj=>(World.cell?_of_block (a:=⟨g,k*sz+j,none⟩) hb).trans (h.cell k hk j hj),λj=>by
  have:=h.free j
  simp only [World.frozen?] at this ⊢;rw [hb];exact this⟩
theorem di.below {W W':World} {N g sz n:Nat} {f:Nat->List Value} (h:di W N g sz n f) (hb:Below W.heap.size W W'):di W' N g sz n f:=h.keep (hb.block g h.lt) hb.size
theorem di.set {W:World} {N g sz n:Nat} {f:Nat->List Value} (h:di W N g sz n f) (k j:Nat) (hk:k<n) (hj:j<sz) (v:Value) (f':Nat->List Value) (h1:∀ i,i<n->i≠k->f' i=f i) (h2:∀ i,i<sz->(f' k)[i]?=if i=j then some v else (f k)[i]?) (hfk:(f k).length=sz):di (W.setCell ⟨g,k*sz+j,none⟩ v) N g sz n f':=by
 have Hb:W.cell? ⟨g,k*sz+j,none⟩≠none:=by
  rw [h.cell k hk j hj,Qf (by omega)];simp
 have Ha:(W.setCell ⟨g,k*sz+j,none⟩ v).heap.size=W.heap.size:=by simp
 refine ⟨h.base,by rw [Ha];exact h.lt,λi hi q hq=>?_,λq=>by rw [World.frozen?_setCell];exact h.free q⟩
 by_cases hik:i=k
 ·subst hik;rw [h2 q hq]
  by_cases hqj:q=j
  ·subst hqj;rw [if_pos rfl];obtain ⟨u,hu⟩:∃ u,W.cell? ⟨g,i*sz+q,none⟩=some u:=Option.ne_none_iff_exists'.1 Hb;exact World.cell?_setCell_same _ _ _ hu
  ·rw [if_neg hqj,<- h.cell i hi q hq];exact Qb _ _ _ _ (by simp only [ne_eq,Addr.mk.injEq,true_and,and_true];omega)
 ·rw [h1 i hi hik,<- h.cell i hi q hq];refine Qb _ _ _ _ ?_;simp only [ne_eq,Addr.mk.injEq,true_and,and_true];have a1:i<k\/k<i:=by omega
  rcases a1 with a1|a1
  ·have:(i+1)*sz<=k*sz:=Nat.mul_le_mul_right _ a1
   rw [Nat.succ_mul] at this;omega
  ·have:(k+1)*sz<=i*sz:=Nat.mul_le_mul_right _ a1
   rw [Nat.succ_mul] at this;omega
noncomputable abbrev fresh (N:Nat) (W:World):World:=ag (λj=>j<N) W
theorem gQ {N:Nat} {W:World} {b o:Nat} (h:N<=b):(fresh N W).cell? ⟨b,o,none⟩=W.cell? ⟨b,o,none⟩:=World.cell?_of_block (a:=⟨b,o,none⟩) (bZ (λk=>by have k:b<N:=k;omega))
theorem lm {N N':Nat} {W W':World} (h:∀ j,N<=j->j<W.heap.size->W'.heap[j]?=W.heap[j]?) (hs:W.heap.size<=W'.heap.size) (hN:N'<=N):aq (fresh N W) (fresh N' W'):=by
 refine ⟨by rw [bH,bH];exact hs,λb o v e=>?_⟩;have hb:=eP e;have hl:b<W.heap.size:=by have:=Q3 _ ⟨b,o,none⟩ e;rw [bH] at this;exact this
 have Ha:N<=b:=by simpa using hb
 rw [gQ Ha] at e;rw [gQ (by omega)];exact (World.cell?_of_block (a:=⟨b,o,none⟩) (h b Ha hl)).trans e
theorem bE {M M':Nat->Prop} {W W':World} (h:∀ j,j<W.heap.size->¬ M j->¬ M' j/\W'.heap[j]?=W.heap[j]?) (hs:W.heap.size<=W'.heap.size):aq (ag M W) (ag M' W'):=by
 refine ⟨by rw [bH,bH];exact hs,λb o v e=>?_⟩;have hb:=eP e;have hl:b<W.heap.size:=by have:=Q3 _ ⟨b,o,none⟩ e;rw [bH] at this;exact this
 obtain ⟨h1,h2⟩:=h b hl hb;have e1:(ag M' W').heap[b]?=(ag M W).heap[b]?:=by rw [bZ h1,bZ hb];exact h2
 exact (World.cell?_of_block (a:=⟨b,o,none⟩) e1).trans e
theorem xE {N N':Nat} {W W':World} (h:Below W.heap.size W W') (hN:N'<=N):aq (fresh N W) (fresh N' W'):=lm (λj _ hj=>h.block j hj) h.size hN
theorem Is (N:Nat) (W:World):aq (fresh N W) W:=cC _ _
theorem It {W:World} {N g n cap:Nat} {ds:List Nd} (h:di W N g 2 n (λk=>[.string (nd ds k).kind,.int .i64 (nd ds k).many])) (hn:n=ds.length) (hm:ds.length<=maxLen):be (fresh N W) (.slice (some ⟨g,0,none⟩) n cap) ds:=by
 subst hn;refine ⟨_,_,rfl,hm,λ_=>⟨g,0,rfl,by rw [bH];exact h.lt,λk hk=>?_⟩⟩;rw [gQ h.base,gQ h.base,Qd];exact ⟨h.cell k hk 0 (by decide),h.cell k hk 1 (by decide)⟩
theorem xF (W:World) (ao:Option Addr) (c:Nat):be W (.slice ao 0 c) []:=⟨ao,c,rfl,Nat.zero_le _,λh=>absurd h (Nat.lt_irrefl 0)⟩
theorem Iu {W:World} {N g n cap:Nat} {cs:List Ct} {dv:Nat->Value} (h:di W N g 6 n (λk=>cH (ct cs k) (dv k))) (hn:n=cs.length) (hm:n<=cap/\cap<=maxLen) (hd:∀ k,k<n->be (fresh N W) (dv k) (ct cs k).ds):aE (fresh N W) (.slice (some ⟨g,0,none⟩) n cap) cs:=by
 subst hn;refine ⟨_,_,rfl,hm,λ_=>⟨g,0,dv,rfl,by rw [bH];exact h.lt,λk hk=>⟨λj hj=>?_,hd k hk⟩⟩⟩;rw [gQ h.base,Qd];exact h.cell k hk j hj
theorem Iv {W:World} {N g n cap:Nat} {xs:List Int} (h:di W N g 1 n (λk=>[.int .i64 (xs.getD k 0)])) (hn:n=xs.length) (hm:n<=cap/\cap<=maxLen):bt (fresh N W) (.slice (some ⟨g,0,none⟩) n cap) xs:=by
 subst hn;refine ⟨_,_,rfl,hm,λ_=>⟨g,0,rfl,by rw [bH];exact h.lt,λk hk=>?_⟩⟩;rw [gQ h.base,Qd]
 simpa using h.cell k hk 0 (by decide)
theorem Iw {W:World} {N g n cap:Nat} {gs:List Gv} {dv:Nat->Value} (h:di W N g 2 n (λk=>[.int .u64 (gv gs k).cp,dv k])) (hn:n=gs.length) (hm:n<=cap/\cap<=maxLen) (hd:∀ k,k<n->(gv gs k).cp<18446744073709551616/\bt (fresh N W) (dv k) (gv gs k).dv):bz (fresh N W) (.slice (some ⟨g,0,none⟩) n cap) gs:=by
 subst hn;refine ⟨_,_,rfl,hm,λ_=>⟨g,0,dv,rfl,by rw [bH];exact h.lt,λk hk=>⟨⟨?_,?_,(hd k hk).1⟩,(hd k hk).2⟩⟩⟩
 ·rw [gQ h.base,Qd];exact h.cell k hk 0 (by decide)
 ·rw [gQ h.base,Qd];exact h.cell k hk 1 (by decide)
theorem Ix (v:Value) (ds:List Nd) (w:World) (h:be w v ds) (hl:ds.length<=1000):Calls prog 80 #[v] w λe w'=>∃ ao c,e=.returned (.slice ao ds.length c)/\be (fresh w.heap.size w') (.slice ao ds.length c) ds/\Below w.heap.size w w':=by
 obtain ⟨ao,c,rfl,hm,hr⟩:=h;cases ao with
 | none=>
  refine (Hs _ _ _).mono ?_;rintro e w' ⟨rfl,rfl⟩;have h0:ds.length=0:=by
   apply Qt;intro h0;obtain ⟨b,o,hb,_⟩:=hr (by omega);cases hb
  have:ds=[]:=List.length_eq_zero_iff.1 h0
  subst this;exact ⟨none,0,rfl,xF _ _ _,Q0 _ _⟩
 | some a=>
  refine (Hr a ds.length c ((List.range ds.length).flatMap λk=>[.string (nd ds k).kind,.int .i64 (nd ds k).many]) w (iR (by intro _;rfl) _) ?_ (mL λk _ u hu=>?_) hl).mono ?_
  ·intro j u hu
   by_cases h0:0<ds.length
   ·obtain ⟨b,o,hb,_,hc⟩:=hr h0;cases hb;exact mK (sz:=2) (by decide) (by intro _;rfl) (λk hk i hi=>by
     match i,hi with
     | 0,_=>exact (hc k hk).1
     | 1,_=>exact (hc k hk).2) j u hu
   ·rw [show ds.length=0 by omega] at hu;simp at hu
  ·simp at hu
   rcases hu with rfl|rfl <;> rfl
  ·rintro e w' ⟨u,rfl,Ha,hb⟩;obtain ⟨ao,cap,rfl,Hb,hg⟩:=lk (f:=λk=>[.string (nd ds k).kind,.int .i64 (nd ds k).many]) Ha λk hk j hj=>mJ (by intro _;rfl) _ _ _ hk hj;refine ⟨ao,cap,rfl,?_,hb⟩
   by_cases h0:0<ds.length
   ·obtain ⟨g,rfl,hG⟩:=hg h0;exact It hG rfl hm
   ·have:ds=[]:=List.length_eq_zero_iff.1 (by omega)
    subst this;exact xF _ _ _
theorem Iy (v:Value) (xs:List Int) (w:World) (h:bt w v xs) (hl:xs.length<=1000):Calls prog 82 #[v] w λe w'=>∃ ao c,e=.returned (.slice ao xs.length c)/\bt (fresh w.heap.size w') (.slice ao xs.length c) xs/\Below w.heap.size w w':=by
 obtain ⟨ao,c,rfl,hm,hr⟩:=h;cases ao with
 | none=>
  refine (Hx _ _ _).mono ?_;rintro e w' ⟨rfl,rfl⟩;have h0:xs.length=0:=by
   apply Qt;intro h0;obtain ⟨b,o,hb,_⟩:=hr (by omega);cases hb
  have:xs=[]:=List.length_eq_zero_iff.1 h0
  subst this;exact ⟨none,0,rfl,⟨none,0,rfl,⟨lR,Nat.zero_le _⟩,λh=>absurd h (Nat.lt_irrefl 0)⟩,Q0 _ _⟩
 | some a=>
  refine (Hw a xs.length c ((List.range xs.length).flatMap λk=>[.int .i64 (xs.getD k 0)]) w (iR (by intro _;rfl) _) ?_ (mL λk _ u hu=>?_) hl).mono ?_
  ·intro j u hu
   by_cases h0:0<xs.length
   ·obtain ⟨b,o,hb,_,hc⟩:=hr h0;cases hb;exact mK (sz:=1) (by decide) (by intro _;rfl) (λk hk i hi=>by
     match i,hi with
     | 0,_=>rw [Nat.mul_one];exact hc k hk) j u hu
   ·rw [show xs.length=0 by omega] at hu;simp at hu
  ·simp at hu
   rcases hu with rfl;rfl
  ·rintro e w' ⟨u,rfl,Hb,hb⟩;obtain ⟨ao,cap,rfl,Ha,hg⟩:=lk (f:=λk=>[.int .i64 (xs.getD k 0)]) Hb λk hk j hj=>mJ (by intro _;rfl) _ _ _ hk hj;refine ⟨ao,cap,rfl,?_,hb⟩
   by_cases h0:0<xs.length
   ·obtain ⟨g,rfl,hG⟩:=hg h0;exact Iv hG rfl Ha
   ·have:xs=[]:=List.length_eq_zero_iff.1 (by omega)
    subst this;exact ⟨_,_,rfl,Ha,λh=>absurd h (Nat.lt_irrefl 0)⟩
theorem Iz (v:Value) (cs:List Ct) (w W0:World) (h:aE W0 v cs) (l:aq W0 w) (hl:cs.length<=1000):Calls prog 79 #[v] w λe w'=>∃ ao c,e=.returned (.slice ao cs.length c)/\(cs.length<=c/\c<=maxLen)/\(0<cs.length->∃ (g:Nat) (dv:Nat->Value),ao=some ⟨g,0,none⟩/\di w' w.heap.size g 6 cs.length (λk=>cH (ct cs k) (dv k))/\∀ k,k<cs.length->be W0 (dv k) (ct cs k).ds)/\Below w.heap.size w w':=by
 obtain ⟨ao,c,rfl,hm,hr⟩:=h;cases ao with
 | none=>
  refine (Ht _ _ _).mono ?_;rintro e w' ⟨rfl,rfl⟩;have h0:cs.length=0:=by
   apply Qt;intro h0;obtain ⟨b,o,dv,hb,_⟩:=hr (by omega);cases hb
  rw [h0];exact ⟨none,0,rfl,⟨lR,Nat.zero_le _⟩,λh=>by omega,Q0 _ _⟩
 | some a=>
  by_cases h0:0<cs.length
  ·obtain ⟨b,o,dv,hb,hc⟩:=hr h0;cases hb;refine (xr ⟨b,o,none⟩ cs.length c ((List.range cs.length).flatMap λk=>cH (ct cs k) (dv k)) w (iR (by intro _;rfl) _) (mK (sz:=6) (by decide) (by intro _;rfl) (λk hk i hi=>by
     have h6:i<(cH (ct cs k) (dv k)).length:=hi;rw [Qf h6];exact l.cell _ _ _ (((hc.2 k hk).1 i hi).trans (Qf h6)))) (mL λk hk u hu=>?_) hl).mono ?_
   ·obtain ⟨na,nc,hv,_⟩:=(hc.2 k hk).2;rw [hv] at hu
    simp [cH] at hu
    rcases hu with rfl|rfl|rfl|rfl|rfl|rfl <;> rfl
   ·rintro e w' ⟨u,rfl,Hb,hb⟩;obtain ⟨ao,cap,rfl,Ha,hg⟩:=lk (f:=λk=>cH (ct cs k) (dv k)) Hb λk hk j hj=>mJ (by intro _;rfl) _ _ _ hk hj;refine ⟨ao,cap,rfl,Ha,λ_=>?_,hb⟩;obtain ⟨g,rfl,hG⟩:=hg h0;exact ⟨g,dv,rfl,hG,λk hk=>(hc.2 k hk).2⟩
  ·refine (xr a cs.length c [] w (by rw [show cs.length=0 by omega];rfl) (λj u hu=>by simp at hu) (λu hu=>(List.not_mem_nil hu).elim) hl).mono ?_;rintro e w' ⟨u,rfl,Hb,hb⟩;obtain ⟨ao,cap,rfl,Ha,hg⟩:=lk (f:=λ_=>[]) Hb (λk hk j hj=>by omega);exact ⟨ao,cap,rfl,Ha,λh=>absurd h h0,hb⟩
theorem IA (v:Value) (gs:List Gv) (w W0:World) (h:bz W0 v gs) (l:aq W0 w) (hl:gs.length<=1000):Calls prog 81 #[v] w λe w'=>∃ ao c,e=.returned (.slice ao gs.length c)/\(gs.length<=c/\c<=maxLen)/\(0<gs.length->∃ (g:Nat) (dv:Nat->Value),ao=some ⟨g,0,none⟩/\di w' w.heap.size g 2 gs.length (λk=>[.int .u64 (gv gs k).cp,dv k])/\∀ k,k<gs.length->(gv gs k).cp<18446744073709551616/\bt W0 (dv k) (gv gs k).dv)/\Below w.heap.size w w':=by
 obtain ⟨ao,c,rfl,hm,hr⟩:=h;cases ao with
 | none=>
  refine (Hu _ _ _).mono ?_;rintro e w' ⟨rfl,rfl⟩;have h0:gs.length=0:=by
   apply Qt;intro h0;obtain ⟨b,o,dv,hb,_⟩:=hr (by omega);cases hb
  rw [h0];exact ⟨none,0,rfl,⟨lR,Nat.zero_le _⟩,λh=>by omega,Q0 _ _⟩
 | some a=>
  by_cases h0:0<gs.length
  ·obtain ⟨b,o,dv,hb,hc⟩:=hr h0;cases hb;refine (xv ⟨b,o,none⟩ gs.length c ((List.range gs.length).flatMap λk=>[.int .u64 (gv gs k).cp,dv k]) w (iR (by intro _;rfl) _) (mK (sz:=2) (by decide) (by intro _;rfl) (λk hk i hi=>by
     match i,hi with
     | 0,_=>exact l.cell _ _ _ (hc.2 k hk).1.1
     | 1,_=>exact l.cell _ _ _ (hc.2 k hk).1.2.1)) (mL λk hk u hu=>?_) hl).mono ?_
   ·obtain ⟨na,nc,hv,_⟩:=(hc.2 k hk).2;rw [hv] at hu
    simp at hu
    rcases hu with rfl|rfl <;> rfl
   ·rintro e w' ⟨u,rfl,Hb,hb⟩;obtain ⟨ao,cap,rfl,Ha,hg⟩:=lk (f:=λk=>[.int .u64 (gv gs k).cp,dv k]) Hb λk hk j hj=>mJ (by intro _;rfl) _ _ _ hk hj;refine ⟨ao,cap,rfl,Ha,λ_=>?_,hb⟩;obtain ⟨g,rfl,hG⟩:=hg h0;exact ⟨g,dv,rfl,hG,λk hk=>⟨(hc.2 k hk).1.2.2,(hc.2 k hk).2⟩⟩
  ·refine (xv a gs.length c [] w (by rw [show gs.length=0 by omega];rfl) (λj u hu=>by simp at hu) (λu hu=>(List.not_mem_nil hu).elim) hl).mono ?_;rintro e w' ⟨u,rfl,Hb,hb⟩;obtain ⟨ao,cap,rfl,Ha,hg⟩:=lk (f:=λ_=>[]) Hb (λk hk j hj=>by omega);exact ⟨ao,cap,rfl,Ha,λh=>absurd h h0,hb⟩
def oS (h:Hd) (cv gvv:Value):List Value:=[.string h.pod.nm,.int .i64 h.pod.pr,cv,gvv]
theorem xG (v:Value) (hs:List Hd) (w W0:World) (h:aJ W0 v hs) (l:aq W0 w) (hl:hs.length<=1000):Calls prog 55 #[v] w λe w'=>∃ (u:Value) (cv gvv:Nat->Value),e=.returned u/\w'.ownsRow w.heap.size 57 4 u hs.length ((List.range hs.length).flatMap λk=>oS (hd hs k) (cv k) (gvv k))/\(∀ k,k<hs.length->aE W0 (cv k) (hd hs k).pod.cs/\bz W0 (gvv k) (hd hs k).gs)/\Below w.heap.size w w':=by
 obtain ⟨ao,c,rfl,hm,hr⟩:=h;cases ao with
 | none=>
  refine (Hv _ _ _).mono ?_;rintro e w' ⟨rfl,rfl⟩;have h0:hs.length=0:=by
   apply Qt;intro h0;obtain ⟨b,o,cv,gvv,hb,_⟩:=hr (by omega);cases hb
  rw [h0];exact ⟨_,λ_=>.nilIface,λ_=>.nilIface,rfl,⟨rfl,.inl ⟨rfl,rfl⟩⟩,λk hk=>by omega,Q0 _ _⟩
 | some a=>
  by_cases h0:0<hs.length
  ·obtain ⟨b,o,cv,gvv,hb,hc⟩:=hr h0;cases hb;refine (xx ⟨b,o,none⟩ hs.length c ((List.range hs.length).flatMap λk=>oS (hd hs k) (cv k) (gvv k)) w (iR (by intro _;rfl) _) (mK (sz:=4) (by decide) (by intro _;rfl) (λk hk i hi=>by
     match i,hi with
     | 0,_=>exact l.cell _ _ _ (hc.2 k hk).1.1
     | 1,_=>exact l.cell _ _ _ (hc.2 k hk).1.2.1
     | 2,_=>exact l.cell _ _ _ (hc.2 k hk).1.2.2.1
     | 3,_=>exact l.cell _ _ _ (hc.2 k hk).1.2.2.2)) (mL λk hk u hu=>?_) hl).mono ?_
   ·obtain ⟨na,nc,hv,_⟩:=(hc.2 k hk).2.1;obtain ⟨ma,mc,Hb,_⟩:=(hc.2 k hk).2.2;rw [hv,Hb] at hu
    simp [oS] at hu
    rcases hu with rfl|rfl|rfl|rfl <;> rfl
   ·rintro e w' ⟨u,rfl,Ha,hb⟩;exact ⟨u,cv,gvv,rfl,Ha,λk hk=>(hc.2 k hk).2,hb⟩
  ·have e0:hs.length=0:=by omega
   refine (xx a hs.length c [] w (by rw [e0];rfl) (λj u hu=>by simp at hu) (λu hu=>(List.not_mem_nil hu).elim) hl).mono ?_;rintro e w' ⟨u,rfl,Ha,hb⟩;refine ⟨u,λ_=>.nilIface,λ_=>.nilIface,rfl,?_,λk hk=>absurd hk (by omega),hb⟩;rw [e0] at Ha ⊢;exact Ha
end
section
namespace Ol
open Ost (Cpu N4 Wi Hi ae cnt dif aN told eG jX okH cho com wi0 pop8 de sumTo bI cQ ad bN)
open Dvs (Dv dv fits bx bQ srt cd sel nT jn gV fy cB gB ord cn)
open Qos (Nd Ct Pd ct af aA)
open Sv (Gv Hd gv hd)
end Ol
end
section
namespace Ol
open Dvs (Dv dv nth)
open Sv (Gv Hd gv hd)
theorem IB:∀ {l:List Cl} {s s':Sk},bS s l=some s'->∀ x∈l,oG s.ds x:=by
 intro l
 induction l with
 | nil=>intro s s' _ x hx;cases hx
 | cons y r ih=>
  intro s s' h x hx;rw [bS] at h;obtain ⟨s1,e1,e2⟩:=Option.bind_eq_some_iff.1 h;obtain ⟨b1,b2,rfl⟩:=ig.1 e1
  rcases List.mem_cons.1 hx with rfl|hx
  ·exact b1
  ·exact ih e2 x hx
end Ol
end
section
namespace Ol
open Ost (Cpu ae cnt dif aN)
open Dvs (Dv dv bQ)
open Qos (Nd Ct Pd ct af aA)
open Sv (Gv Hd gv hd aF)
end Ol
end
section
namespace Ol
open Ost (Cpu ae cnt dif)
open Dvs (Dv dv)
open Qos (Nd Ct Pd ct af aA aO aP)
open Sv (Gv Hd gv hd aB gsF aF)
theorem oT {t:St} {p:Pd} (hr:room t.m (t.hs.map Hd.pod)=true):room t.m ((aR t p).2.map Hd.pod)=true:=by
 unfold aR
 split
 ·exact hr
 split
 ·exact hr
 split
 ·exact hr
 split
 ·exact hr
 rename_i h4
 split
 ·exact hr
 split
 ·exact hr
 have Ha:room t.m (t.hs.map Hd.pod++[p])=true:=by simpa using h4
 have hp:=(insert_perm t.hs ⟨p,(give t.m ((left t.m t.ds t.hs).getD ⟨0,[],λ_=>false⟩) p).2⟩).map Hd.pod;rw [Qj] at hp;rw [<- Iq hp];exact Ha
theorem IC {t:St} {hs:List Hd} (h:Inv t) (hs':hs.Sublist t.hs) (hr:room t.m (t.hs.map Hd.pod)=true):room t.m (hs.map Hd.pod)=true:=by
 obtain ⟨_,a2,_⟩:=bO.1 h.held;refine Ir (hs'.map Hd.pod) (λp hp=>?_) hr;obtain ⟨x,hx,rfl⟩:=Qk.1 hp;exact (a2 x hx).1
def Alike (ds ds':List Dv):Prop:=ds'.length=ds.length/\∀ j,(dv ds' j).kind=(dv ds j).kind/\(dv ds' j).node=(dv ds j).node
theorem alike_refl (ds:List Dv):Alike ds ds:=⟨rfl,λ_=>⟨rfl,rfl⟩⟩
end Ol
end
section
namespace Ol
open Dvs (Dv dv bx srt bQ cd jn)
open Qos (Nd Ct Pd ct af aA)
open Sv (Gv Hd gv hd aB gsF aF)
def mM (b:Bool):Int:=if b then 1 else 0
theorem ID {k:ByteArray}:∀ {ns:List Nd},(∀ n∈ns,n.kind≠k)->(ns.map λn=>mM (decide (k=n.kind))).sum=0:=by
 intro ns
 induction ns with
 | nil=>intro _;rfl
 | cons n r ih=>
  intro h;have e:decide (k=n.kind)=false:=Q7 λe=>h n List.mem_cons_self e.symm
  rw [Qq,List.sum_cons,ih λx hx=>h x (Qv _ hx),e];rfl
theorem IE {k:ByteArray}:∀ {ns:List Nd},ns.Pairwise (λa b=>a.kind≠b.kind)->(∃ n∈ns,n.kind=k)->(ns.map λn=>mM (decide (k=n.kind))).sum=1:=by
 intro ns
 induction ns with
 | nil=>intro _ h;obtain ⟨n,hn,_⟩:=h;cases hn
 | cons n r ih=>
  intro hp h;obtain ⟨h1,h2⟩:=List.pairwise_cons.1 hp;rw [Qq,List.sum_cons]
  by_cases e:n.kind=k
  ·rw [ID λx hx e2=>h1 x hx (e.trans e2.symm),Qc e.symm];rfl
  ·have e':decide (k=n.kind)=false:=Q7 λx=>e x.symm
   rw [ih h2 (by
    obtain ⟨x,hx,hk⟩:=h
    rcases List.mem_cons.1 hx with rfl|hx
    ·exact absurd hk e
    ·exact ⟨x,hx,hk⟩),e']
   rfl
theorem IF (ds:List Dv) (k:ByteArray) (j:Int) (r:List Int):(cW ds k (j :: r):Int)=(cW ds k r:Nat)+mM (decide ((dv ds j.toNat).kind=k)):=by
 unfold cW mM;rw [List.countP_cons]
 split <;> simp_all
theorem IG (ns:List Nd) (f g:Nd->Int):(ns.map λn=>f n+g n).sum=(ns.map f).sum+(ns.map g).sum:=by
 induction ns with
 | nil=>rfl
 | cons n r ih=>rw [Qq,Qq,Qq,List.sum_cons,List.sum_cons,List.sum_cons,ih];omega
theorem IH {ds:List Dv} {ns:List Nd} (hp:ns.Pairwise λa b=>a.kind≠b.kind):∀ {l:List Int},(∀ j∈l,∃ n∈ns,n.kind=(dv ds j.toNat).kind)->(ns.map λn=>(cW ds n.kind l:Int)).sum=l.length:=by
 intro l
 induction l with
 | nil=>
  intro _
  have:∀ ns:List Nd,(ns.map λn=>(cW ds n.kind []:Int)).sum=0:=λns=>by
   induction ns with
   | nil=>rfl
   | cons n r ih=>rw [Qq,List.sum_cons,ih];rfl
  rw [this];rfl
 | cons j r ih=>
  intro h;have e:(ns.map λn=>(cW ds n.kind (j :: r):Int))=ns.map λn=>(cW ds n.kind r:Int)+mM (decide ((dv ds j.toNat).kind=n.kind)):=List.map_congr_left λn _=>IF ds n.kind j r
  rw [e,IG,ih λx hx=>h x (Qv _ hx),IE hp (h j List.mem_cons_self),Qg];omega
theorem II {ds:List Dv} {l:List Int} {ns:List Nd} (hm:∀ n∈ns,n.many≠0) (hp:ns.Pairwise λa b=>a.kind≠b.kind) (h:ie ds l ns):(∀ n∈ns,(cW ds n.kind l:Int)=n.many)/\(ns.map Nd.many).sum=l.length:=by
 have hk:=(wj hm).1 h;have h1:∀ n∈ns,(cW ds n.kind l:Int)=n.many:=λn hn=>by
  have e:=hk n.kind;have e2:dF ns n.kind=some n.many:=wk ns _ n hn hp;rw [e2,Option.getD_some] at e;exact e.symm
 refine ⟨h1,?_⟩;rw [<- IH (ds:=ds) hp (l:=l) λj hj=>Qt λhc=>?_]
 ·exact congrArg List.sum (List.map_congr_left λn hn=>(h1 n hn).symm)
 ·have e:=hk (dv ds j.toNat).kind;have e2:dF ns (dv ds j.toNat).kind=none:=ri ns _ _ λn hn e=>hc ⟨n,hn,e⟩
  rw [e2] at e;have Ha:0<cW ds (dv ds j.toNat).kind l:=List.countP_pos_iff.2 ⟨j,hj,by simp⟩;have e':(0:Int)=(cW ds (dv ds j.toNat).kind l:Nat):=e;omega
def xH (ds:List Dv) (ns:List Nd) (l:List Int):Prop:=(∀ n∈ns,(cW ds n.kind l:Int)=n.many)/\(ns.map Nd.many).sum=l.length
theorem IJ {ds ds':List Dv} (h:Alike ds ds') (k:ByteArray) (l:List Int):cW ds' k l=cW ds k l:=by
 unfold cW
 congr 1
 funext j
 rw [(h.2 _).1]
theorem IK {t:St} {ds:List Dv} (h:Inv t) (ha:Alike ds t.ds):∀ x∈t.hs,∀ j,j<x.gs.length->xH ds (ct x.pod.cs j).ds (gv x.gs j).dv:=by
 obtain ⟨s,hs⟩:=h.left;obtain ⟨_,a2,_⟩:=bO.1 h.held;unfold left at hs
 split at hs
 ·rw [kg _ _ _ (lR),Qh] at hs;intro x hx j hj;obtain ⟨b1,b2,_⟩:=a2 x hx;have Hb:(⟨gv x.gs j,aA x.pod.cs (ct x.pod.cs j).am,(ct x.pod.cs j).ds⟩:Cl)∈gK t.hs:=List.mem_flatMap.2 ⟨x,hx,Qk.2 ⟨j,List.mem_range.2 hj,rfl⟩⟩;obtain ⟨_,Ha,_⟩:=IB hs _ Hb;have hn:=lh b1 _ (Sv.jy (show j<x.pod.cs.length by omega))
  have:=II hn.1 hn.2 Ha
  refine ⟨λn hm=>?_,this.2⟩;rw [<- this.1 n hm];exact congrArg (λz:Nat=>(z:Int)) (IJ ha n.kind _).symm
 ·cases hs
end Ol
end
section
namespace Ol
open Dvs (Dv dv nth aL)
open Qos (Nd Ct Pd ct af aA aO aP)
open Sv (Gv Hd gv hd aB)
open Ost (cnt dif)
noncomputable def stK (m:Mc) (ds:List Dv) (hs:List Hd) (i k:Nat):Sk:=((bM ⟨m.op,ds,λ_=>false⟩ hs i).bind λs=>dT s (hd hs i) k).getD ⟨0,[],λ_=>false⟩
structure xI (ds:List Dv) (s:Sk) (g:Gv) (own:Int) (s':Sk):Prop where
 cp:g.cp &&& s.cp=g.cp
 cnt:(cnt g.cp:Int)=own
 dv:∀ j,j<g.dv.length->(0<=nth g.dv j/\nth g.dv j<ds.length/\nth g.dv j ∉ g.dv.take j)/\s.us (nth g.dv j).toNat=false
 next:s'=⟨dif s.cp g.cp,ds,aL s.us g.dv⟩
theorem xJ {s:Sk} {hs:List Hd}:∀ {n:Nat} {s':Sk},bM s hs n=some s'->∀ i,i<=n->∃ x,bM s hs i=some x:=by
 intro n
 induction n with
 | zero=>intro s' h i hi;exact ⟨s',by rw [show i=0 by omega];exact h⟩
 | succ n ih=>
  intro s' h i hi
  by_cases e:i=n+1
  ·exact ⟨s',by rw [e];exact h⟩
  ·rw [bM] at h;obtain ⟨x,hx,_⟩:=Option.bind_eq_some_iff.1 h;exact ih hx i (by omega)
theorem IL {s:Sk} {x:Hd}:∀ {n:Nat} {s':Sk},dT s x n=some s'->∀ i,i<=n->∃ y,dT s x i=some y:=by
 intro n
 induction n with
 | zero=>intro s' h i hi;exact ⟨s',by rw [show i=0 by omega];exact h⟩
 | succ n ih=>
  intro s' h i hi
  by_cases e:i=n+1
  ·exact ⟨s',by rw [e];exact h⟩
  ·rw [dT] at h;obtain ⟨x,hx,_⟩:=Option.bind_eq_some_iff.1 h;exact ih hx i (by omega)
theorem xK (m:Mc) (ds:List Dv) (hs:List Hd) (i:Nat):stK m ds hs (i+1) 0=stK m ds hs i (hd hs i).gs.length:=by
 unfold stK;rw [bM]
 congr 1
 cases bM ⟨m.op,ds,λ_=>false⟩ hs i with
 | none=>rfl
 | some s=>simp only [Option.bind_some];cases dT s (hd hs i) (hd hs i).gs.length <;> rfl
section
variable {m:Mc} {ds:List Dv} {hs:List Hd} {s:Sk}
theorem rH (h:left m ds hs=some s):bM ⟨m.op,ds,λ_=>false⟩ hs hs.length=some s:=by
 unfold left at h
 split at h
 ·exact h
 ·cases h
theorem IM (h:left m ds hs=some s):stK m ds hs hs.length 0=s:=by
 unfold stK;rw [rH h];rfl
theorem xL (h:left m ds hs=some s) {i:Nat} (hi:i<hs.length) {k:Nat} (hk:k<=(hd hs i).gs.length):∃ a,bM ⟨m.op,ds,λ_=>false⟩ hs i=some a/\a.ds=ds/\dT a (hd hs i) k=some (stK m ds hs i k)/\(stK m ds hs i k).ds=ds:=by
 obtain ⟨a,ha⟩:=xJ (rH h) i (by omega);have Ha:=ha;obtain ⟨b,hb⟩:=xJ (rH h) (i+1) (by omega);rw [bM,ha,Option.bind_some] at hb;obtain ⟨c,hc⟩:=IL hb k hk;have e:stK m ds hs i k=c:=by unfold stK;rw [ha,Option.bind_some,hc];rfl
 have e1:a.ds=ds:=by
  rw [kg hs _ i (by omega)] at ha;exact rl ha
 refine ⟨a,by first|exact Ha|rfl,e1,by rw [e];exact hc,?_⟩;rw [e];rw [we] at hc;rw [rl hc,e1]
theorem xM (h:left m ds hs=some s) {i:Nat} (hi:i<hs.length) {k:Nat} (hk:k<(hd hs i).gs.length):xI ds (stK m ds hs i k) (gv (hd hs i).gs k) (aA (hd hs i).pod.cs (ct (hd hs i).pod.cs k).am) (stK m ds hs i (k+1)):=by
 obtain ⟨a,ha,_,h1,h2⟩:=xL h hi (Nat.le_of_lt hk);obtain ⟨a',Ha,_,h3,_⟩:=xL h hi hk;rw [ha] at Ha;injection Ha with Ha
 subst Ha;rw [dT,h1,Option.bind_some] at h3;obtain ⟨b1,b2,b3⟩:=(ig (x:=⟨gv (hd hs i).gs k,aA (hd hs i).pod.cs (ct (hd hs i).pod.cs k).am,(ct (hd hs i).pod.cs k).ds⟩)).1 h3;obtain ⟨c1,_,c3⟩:=b1;obtain ⟨d1,d2⟩:=b2;rw [h2] at c3;refine ⟨d1,c1,λj hj=>⟨c3 j hj,d2 j hj⟩,?_⟩;rw [b3];unfold ek;rw [h2]
end
theorem mG {hs:List Hd} {k:Nat} (h:k<hs.length):aY ((hs.take (k+1)).map Hd.pod)=aY ((hs.take k).map Hd.pod)+aO (hd hs k).pod.cs (hd hs k).pod.cs.length:=by
 unfold aY;rw [Qa h,Qj,Qj,List.sum_append];simp [hd,h]
theorem mH {hs:List Hd} {k:Nat} (h:k<hs.length):bA ((hs.take (k+1)).map Hd.pod)=bA ((hs.take k).map Hd.pod)+aP (hd hs k).pod.cs (hd hs k).pod.cs.length:=by
 unfold bA;rw [Qa h,Qj,Qj,List.sum_append];simp [hd,h]
theorem oU {hs:List Hd} (h:∀ x∈hs,af x.pod=0):∀ k,k<=hs.length->(0<=aY ((hs.take k).map Hd.pod)/\aY ((hs.take k).map Hd.pod)<=3000000*k)/\0<=bA ((hs.take k).map Hd.pod)/\bA ((hs.take k).map Hd.pod)<=3377699720527872*k:=by
 intro k
 induction k with
 | zero=>intro _;exact ⟨⟨by simp [aY],by simp [aY]⟩,by simp [bA],by simp [bA]⟩
 | succ k ih=>
  intro hk;have h1:=ih (by omega);have hm:=Qos.ju (h (hd hs k) (Sv.kb hk));have h2:=Qos.kV hm (lR);have h3:=Qos.j8 hm (lR);rw [mG hk,mH hk];omega
theorem IN {ns:List Nd} (h:∀ n∈ns,0<=n.many):∀ k,k<=ns.length->0<=((ns.take k).map Nd.many).sum/\((ns.take k).map Nd.many).sum<=(ns.map Nd.many).sum:=by
 intro k hk;have key:∀ l:List Nd,(∀ n∈l,0<=n.many)->0<=(l.map Nd.many).sum:=by
  intro l
  induction l with
  | nil=>intro _;exact Int.le_refl _
  | cons a l ih=>
   intro h;have h1:=ih λx hx=>h x (Qv _ hx)
   have h2:=h a List.mem_cons_self;rw [Qq,List.sum_cons];omega
 have e:(ns.map Nd.many).sum=((ns.take k).map Nd.many).sum+((ns.drop k).map Nd.many).sum:=by
  rw [<- List.sum_append,<- Qj,List.take_append_drop]
 have h1:=key (ns.take k) λn hn=>h n (List.mem_of_mem_take hn)
 have h2:=key (ns.drop k) λn hn=>h n (List.mem_of_mem_drop hn)
 omega
end Ol
end
section
open RowKit Shelf
open Qos (Nd Ct Pd nd ct pd)
open Sv (Gv Hd gv hd)
attribute [local go_sem] Oper.semAt_some
theorem IP (v:Value) (gs:List Gv) (w:World) (h:bz w v gs) (hl:gs.length<=1000) (hdl:∀ k,k<gs.length->(gv gs k).dv.length<=1000):Calls prog 42 #[v] w λe w'=>∃ ao c,e=.returned (.slice ao gs.length c)/\bz (fresh w.heap.size w') (.slice ao gs.length c) gs/\Below w.heap.size w w':=by
 have Hs:=qI (IA v gs w w h (aq.refl _) hl);have HC:=qI hdl;obtain ⟨ao0,c0,rfl,HM,_⟩:=h;clear HM hdl
 go_enter func42,ntmps42
 go_wp2_with fail
 refine Hs.out.mono ?_;rintro e W1 ⟨ao,c,rfl,Hj,hg,Hl⟩;have Hk:=qI Hj;obtain ⟨g,dv,Hq⟩:∃ (g:Nat) (dv:Nat->Value),0<gs.length->ao=some ⟨g,0,none⟩/\di W1 w.heap.size g 2 gs.length (λk=>[.int .u64 (gv gs k).cp,dv k])/\∀ k,k<gs.length->(gv gs k).cp<18446744073709551616/\bt w (dv k) (gv gs k).dv:=by
  by_cases h0:0<gs.length
  ·obtain ⟨g,dv,hh⟩:=hg h0;exact ⟨g,dv,λ_=>hh⟩
  ·exact ⟨0,λ_=>.nilIface,λh=>absurd h h0⟩
 have HG:=qI Hq;have Hy:=qI Hl;clear Hj hg Hq Hl Hs
 go_wp2
 go_loopw [9] (λi wr=>∃ (k:Nat) (dw:Nat->Value),k<=gs.length/\i=.int .i64 k/\Below w.heap.size w wr/\Hid (0<gs.length->di wr w.heap.size g 2 gs.length (λj=>[.int .u64 (gv gs j).cp,dw j]))/\Hid (∀ j,j<k->bt (ag (λb=>b<w.heap.size\/b=g) wr) (dw j) (gv gs j).dv)/\Hid (∀ j,k<=j->dw j=dv j)) (λi _=>gs.length - (intOf i).toNat)
 case atStart=>exact ⟨0,dv,by omega,rfl,Hy.out,λh=>(HG.out h).2.1,λj hj=>by omega,λj _=>rfl⟩
 case round=>
  obtain ⟨k,dw,hk,rfl,hb,Hh,He,Hf⟩:=hrel;have HB:=qI hb
  by_cases hlt:k<gs.length
  ·obtain ⟨rfl,_,Hm⟩:=HG.out (by omega);have Hb:=Hh.out (by omega);have x0:wr.cell? ⟨g,k*2,none⟩=some (.int .u64 (gv gs k).cp):=Hb.cell k hlt 0 (by decide);have x1:wr.cell? ⟨g,k*2+1,none⟩=some (dv k):=by rw [<- Hf.out k (lR)];exact Hb.cell k hlt 1 (by decide)
   have Hc:=(Hm k hlt).2;obtain ⟨ia,ic,Hu,_⟩:=id Hc;rw [Hu] at x1 Hc;have hA:=hb.alloc hb.size (.cells #[.int .u64 (gv gs k).cp,.slice ia (gv gs k).dv.length ic] 69);have HD:(wr.alloc (.cells #[.int .u64 (gv gs k).cp,.slice ia (gv gs k).dv.length ic] 69)).heap.size=wr.heap.size+1:=by simp
   have Ht:=qI (Iy (.slice ia (gv gs k).dv.length ic) (gv gs k).dv (wr.alloc (.cells #[.int .u64 (gv gs k).cp,.slice ia (gv gs k).dv.length ic] 69)) (Hc.below hA) (HC.out k hlt));have HA:=qI hA;have HP:=Hb.lt;have HF:=Hb.base;have HJ:=hb.size;have Hv:(k:Int)<(gs.length:Int):=by omega
   clear Hb Hm Hc hb Hu hA;generalize hcp:(gv gs k).cp=cp at *;have HN:=qI hcp;have HE:Hid ((gv gs k).dv=(gv gs k).dv):=rfl;clear hcp;generalize hxs:(gv gs k).dv=xs at *;have Hz:=qI hxs;clear hxs
   go_wp2_with fail
   refine Ht.out.mono ?_;rintro e W2 ⟨na,nc,rfl,Hw,Hg⟩;have Hn:Below wr.heap.size wr W2:=((Q0 wr.heap.size wr).alloc (lR) _).trans (Hg.mono (by simp));have Ha:=(Hh.out (by omega)).below Hn;have y1:W2.cell? ⟨g,k*2+1,none⟩=some (dw k):=Ha.cell k hlt 1 (by decide);have f1:=Ha.free (k*2+1);have Hr:=qI Hn;have HL:=qI Hw;have Hx:=qI Ha;have HO:wr.heap.size+1<=W2.heap.size:=by have:=Hg.size;simp at this;omega
   clear Hw Hg Hn Ha Ht
   go_wp2_with fail
   have Hp:Hid (∀ b,b≠g->(W2.setCell ⟨g,k*2+1,none⟩ (.slice na xs.length nc)).heap[b]?=W2.heap[b]?):=λb hb=>set_other hb
   have Hi:(W2.setCell ⟨g,k*2+1,none⟩ (.slice na xs.length nc)).heap.size=W2.heap.size:=by simp
   have HH:=qI (Hx.out.set k 1 hlt (by decide) (.slice na xs.length nc) (λj=>[.int .u64 (gv gs j).cp,if j=k then .slice na xs.length nc else dw j]) (λi _ hi=>by simp [hi]) (λi hi=>by
    match i,hi with
    | 0,_=>simp
    | 1,_=>simp) rfl)
   have HI:=qI ((HB.out.trans (Hr.out.mono HJ)).setCell (p:=⟨g,k*2+1,none⟩) HF (.slice na xs.length nc));generalize W2.setCell ⟨g,k*2+1,none⟩ (.slice na xs.length nc)=W3 at *
   go_roundw
   case rel=>
    refine ⟨k+1,λj=>if j=k then .slice na xs.length nc else dw j,by omega,by go_num,HI.out,λ_=>HH.out,λj hj=>?_,λj hj=>?_⟩
    ·by_cases hjk:j=k
     ·subst hjk;dsimp only;rw [if_pos rfl,Hz.out];refine HL.out.le (bE (λb Hl Hg=>?_) (by rw [Hi];exact lR));rw [HD] at Hg;exact ⟨by omega,Hp.out b (by omega)⟩
     ·dsimp only;rw [if_neg hjk];refine (He.out j (by omega)).le (bE (λb Hl Hg=>⟨Hg,?_⟩) (by rw [Hi];omega));rw [Hp.out b (by omega)];exact Hr.out.block b Hl
    ·dsimp only;rw [if_neg (by omega)];exact Hf.out j (by omega)
   case measure=>simp [intOf];omega
  ·have HK:k=gs.length:=by omega
   subst HK;have Ho:Hid (bz (fresh w.heap.size wr) (.slice ao gs.length c) gs):=by
    unfold Hid
    by_cases h0:0<gs.length
    ·obtain ⟨ha,_,Hm⟩:=HG.out h0;rw [ha];exact Iw (Hh.out h0) rfl Hk.out λj hj=>⟨(Hm j hj).1,(He.out j hj).le (bE (λb _ Hg=>⟨by omega,rfl⟩) (lR))⟩
    ·exact ⟨ao,c,rfl,Hk.out,λh=>absurd h h0⟩
   go_wp2
   go_ret;exact ⟨ao,c,rfl,Ho.out,HB.out⟩
end
