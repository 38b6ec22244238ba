import Derived.Test.YtbmmnflgnmjboaaGreatDoorR18
import Derived.Test.YtbmmnflgnmjboaaGreatDoorR14
set_option maxRecDepth 100000
set_option maxHeartbeats 16000000
open Go.Proofs.Tryz
namespace Go.Proofs.YtbmmnflgnmjboaaGreatDoor
section
open RowKit Go.Maps
theorem aC.notInt {w:World} {B:Nat} {n k:Sd} {v:Value} {l:Int} {d:Bool} (h:aC w B n k v l d):∀ (arr:Array Value) (z:Nat × Nat),w.heap[B]?≠some (Obj.cells arr 3 z):=λarr z e=>by
 rw [show w.heap[B]?=_ from h] at e;cases e
theorem mY {w:World} {Be Bd Bm n:Nat} {xs:List RV} {sn sk:Sd} {sv:Value} {l:Int} {d:Bool} (he:et w Be Bd Bm) (hm:aZ w Bm n xs) (hd:aC w Bd sn sk sv l d):Be≠Bd/\Be≠Bm/\Bd≠Bm:=by
 obtain ⟨es,clock,Ha⟩:=hm.isMap;refine ⟨λe=>?_,λe=>?_,λe=>?_⟩
 ·subst e;have h1:=he;unfold et at h1;rw [show w.heap[Be]?=_ from hd] at h1;cases h1
 ·subst e;have h1:=he;unfold et at h1;rw [Ha] at h1;cases h1
 ·subst e;have h1:=hd;unfold aC at h1;rw [Ha] at h1;cases h1
structure J7 (w w':World) (Bd Bm:Nat) (sn sk:Sd) (sv:Value) (n:Nat) (xs:List RV) (x:RV) (l:Int) (d:Bool) (f:Nat):Prop where
 disk:aC w' Bd sn sk sv (aQ l d) (dS l d)
 out:bd Bd Bm w w'
 no:f≠0->aZ w' Bm n xs
 yes:f=0->∃ a c,aZ w' Bm (n+1) ({ x with da:=a,dc:=c } :: xs)/\fk w' { x with da:=a,dc:=c }/\aG w' { x with da:=a,dc:=c }=aG w x
def lw (l:Int) (d has:Bool):Nat:=if bo l d≠0 then bo l d else if has=true then 5 else 0
theorem yo {l:Int} {d:Bool} (h:bo l d≠0):bo l d=11:=by
 unfold bo at *
 split
 ·rfl
 ·rename_i hc;rw [if_neg hc] at h;exact absurd rfl h
abbrev bT:=λ(x0:RV)=>(.cells #[.string x0.pod,.string x0.cont,.int .u64 x0.cpus,.slice x0.da x0.dn x0.dc] 111:Obj)
abbrev jF:=(.cells #[.string ⟨#[]⟩,.string ⟨#[]⟩,.int .u64 0,.slice none 0 0] 111:Obj)
abbrev yq:=λ(Be Bm y2:Nat) (x:RV) (w':World)=>w'.cell? ⟨Be,1,none⟩=some (.map (some Bm))/\(w'.cell? ⟨y2+1,0,none⟩=some (.string x.pod)/\w'.cell? ⟨y2+1,1,none⟩=some (.string x.cont))/\(w'.cell? ⟨y2,0,none⟩=some (.string x.pod)/\w'.cell? ⟨y2,1,none⟩=some (.string x.cont)/\w'.cell? ⟨y2,2,none⟩=some (.int .u64 x.cpus)/\w'.cell? ⟨y2,3,none⟩=some (.slice x.da x.dn x.dc))
theorem J8 (Be Bd Bm n:Nat) (sn sk:Sd) (sv:Value) (xs:List RV) (x:RV) (l:Int) (d:Bool) (w:World) (he:et w Be Bd Bm) (hm:aZ w Bm n xs) (hd:aC w Bd sn sk sv l d) (hl:-9223372036854775808<=l/\l<=9223372036854775807) (hx:x.Short) (hdv:aS w x) (haw:ku Bd x) (hdn:x.dn<=1000) (hn:n<1000) :
  Calls prog 105 #[.pointer (some ⟨Be,0,none⟩),.agg #[.string x.pod,.string x.cont,.int .u64 x.cpus,.slice x.da x.dn x.dc]] w λe w'=>e=.returned (au ((lw l d (xs.any λy=>decide (y.pod=x.pod/\y.cont=x.cont)):Nat):Int))/\J7 w w' Bd Bm sn sk sv n xs x l d (lw l d (xs.any λy=>decide (y.pod=x.pod/\y.cont=x.cont))):=by
 obtain ⟨hk,H8,HV⟩:=mY he hm hd;have Hp:=(Q0 w.heap.size w).alloc (lR) (bT x);have HY:=he.block (Hp.block Be he.lt);obtain ⟨c0,c1⟩:=HY.cells;have H3:=qI (hm.block (Hp.block Bm hm.lt));have hg:aC (w.alloc (bT x)) Bd sn sk sv l d:=(Hp.block Bd hd.lt).trans hd;have H7:=qI (mv Bd sn sk sv l d _ hg hl);have H5:=qI (bl.made w x);obtain ⟨ha,hi⟩:=hdv.below Hp λ_ _ _ h=>h;have H4:=qI ha;have hf:=qI hi;have hj:=qI Hp;have H2:=qI HY;have ho:=hm.lt;have hq:=hd.lt;have hel:=he.lt;clear he hm hd Hp HY hg ha hi
 go_enter func105,ntmps105
 go_wp2_with fail
 generalize hW1:w.alloc (bT x)=W1 at *;have HP:W1.heap.size=w.heap.size+1:=by rw [<- hW1];simp
 clear hW1;refine H7.out.mono ?_;rintro e w2 ⟨rfl,H6,Hk⟩;have HJ:=qI H6;have HG:=qI (bd.trans (bd.of_below hj.out) (bd.of_grown (B1:=Bd) (B2:=Bm) Hk.1 (.inl rfl)));have Hx:=qI (H3.out.block (Hk.1.block Bm (by omega) (by simpa using HV.symm)));have HX:=H2.out.block (Hk.1.block Be (by omega) (by simpa using hk));have hp:=qI HX;obtain ⟨g0,g1⟩:=HX.cells;have HS:bl w2 w.heap.size x:=(Hk.1.block w.heap.size (by omega) (by intro e;cases e;omega)).trans H5.out;have hr:=qI HS;obtain ⟨HF,Ht⟩:=rZ (w':=w2) H4.out haw (λb hb hlt=>Hk.1.block b hlt (by simpa using hb)) (Nat.le_of_eq Hk.2.symm);have H1:=qI HF;have HD:=qI (Ht.trans hf.out);have HK:w2.heap.size=w.heap.size+1:=by rw [Hk.2];exact HP
 obtain ⟨r0,r1,r2,r3⟩:=HS.cells;clear H6 Hk HX HS H7 H3 H5 H2 c0 c1 HF Ht H4 hf
 by_cases hse:bo l d=0
 ·have Hj:=qI (show lw l d (xs.any λy=>decide (y.pod=x.pod/\y.cont=x.cont))=if (xs.any λy=>decide (y.pod=x.pod/\y.cont=x.cont))=true then 5 else 0 from by unfold lw;rw [if_neg (by rw [hse];decide)]);rw [hse,show au ((0:Nat):Int)=.nilIface from rfl];obtain ⟨y,HI⟩:=Hx.out.look2 x.pod x.cont hx.1 hx.2;unfold fZ at HI;have Hl:=(Q0 w2.heap.size w2).alloc (lR) (.cells #[.string x.pod,.string x.cont] 166);have HU:=Hl.alloc Hl.size (jF);have hc:=Hl.alloc Hl.size (bT y);have Hu:=HI ((w2.alloc (.cells #[.string x.pod,.string x.cont] 166)).drew) ((a6 Hl).block Bm (by omega));have HC:=HI (((w2.alloc (.cells #[.string x.pod,.string x.cont] 166)).alloc (jF)).drew) ((a6 HU).block Bm (by omega));have k1:=((a6 Hl).cell (p:=⟨Be,1,none⟩) (by show Be<_;omega)).trans g1;have k2:=((a6 HU).cell (p:=⟨Be,1,none⟩) (by show Be<_;omega)).trans g1;have Hw:=qI (a6 hc);have HN:=qI (show (((w2.alloc (.cells #[.string x.pod,.string x.cont] 166)).alloc (jF)).drew).cell? ⟨w2.heap.size,0,none⟩=some (.string x.pod)/\(((w2.alloc (.cells #[.string x.pod,.string x.cont] 166)).alloc (jF)).drew).cell? ⟨w2.heap.size,1,none⟩=some (.string x.cont) from ⟨by simp,by simp⟩);have Hs:=qI (show (((w2.alloc (.cells #[.string x.pod,.string x.cont] 166)).alloc (bT y)).drew).cell? ⟨w2.heap.size,0,none⟩=some (.string x.pod)/\(((w2.alloc (.cells #[.string x.pod,.string x.cont] 166)).alloc (bT y)).drew).cell? ⟨w2.heap.size,1,none⟩=some (.string x.cont) from ⟨by simp,by simp⟩);rw [HK] at HN Hs;obtain ⟨n0,n1⟩:=HN.out;clear Hl HU hc HI;unfold RV.val at Hu HC
  rcases two (xs.any λy=>decide (y.pod=x.pod/\y.cont=x.cont)) with hh|hh
  ·rw [hh] at Hu HC;have HH:=qI hh;clear hh
   go_wp2_with fail
   go_region
   all_goals
    generalize ((w2.alloc (.cells #[.string x.pod,.string x.cont] 166)).alloc (bT y)).drew=W5 at *
    go_wp2
    go_ret;exact ⟨by rw [Hj.out,if_pos HH.out];rfl,⟨(Hw.out.block Bd (by omega)).trans HJ.out,HG.out.trans (bd.of_below Hw.out),λ_=>Hx.out.block (Hw.out.block Bm (by omega)),λh0=>by rw [Hj.out,if_pos HH.out] at h0;cases h0⟩⟩
  ·rw [hh] at Hu HC;have HH:=qI hh;clear hh
   go_wp2_with fail
   go_region
   ·have Hf:=a6 Hw.out;have He:=qI (show (((w2.alloc (.cells #[.string x.pod,.string x.cont] 166)).alloc (bT y)).drew.drew.cell? ⟨Be,1,none⟩=some (.map (some Bm))/\(((w2.alloc (.cells #[.string x.pod,.string x.cont] 166)).alloc (bT y)).drew.drew.cell? ⟨w.heap.size+1,0,none⟩=some (.string x.pod)/\((w2.alloc (.cells #[.string x.pod,.string x.cont] 166)).alloc (bT y)).drew.drew.cell? ⟨w.heap.size+1,1,none⟩=some (.string x.cont))/\(((w2.alloc (.cells #[.string x.pod,.string x.cont] 166)).alloc (bT y)).drew.drew.cell? ⟨w.heap.size,0,none⟩=some (.string x.pod)/\((w2.alloc (.cells #[.string x.pod,.string x.cont] 166)).alloc (bT y)).drew.drew.cell? ⟨w.heap.size,1,none⟩=some (.string x.cont)/\((w2.alloc (.cells #[.string x.pod,.string x.cont] 166)).alloc (bT y)).drew.drew.cell? ⟨w.heap.size,2,none⟩=some (.int .u64 x.cpus)/\((w2.alloc (.cells #[.string x.pod,.string x.cont] 166)).alloc (bT y)).drew.drew.cell? ⟨w.heap.size,3,none⟩=some (.slice x.da x.dn x.dc))) from ⟨(Hf.cell (p:=⟨Be,1,none⟩) (by show Be<_;omega)).trans g1,Hs.out,⟨(Hf.cell (p:=⟨w.heap.size,0,none⟩) (by show w.heap.size<_;omega)).trans r0,(Hf.cell (p:=⟨w.heap.size,1,none⟩) (by show w.heap.size<_;omega)).trans r1,(Hf.cell (p:=⟨w.heap.size,2,none⟩) (by show w.heap.size<_;omega)).trans r2,(Hf.cell (p:=⟨w.heap.size,3,none⟩) (by show w.heap.size<_;omega)).trans r3⟩⟩);have Hi:=qI Hf;have Hn:w.heap.size+1+1<=((w2.alloc (.cells #[.string x.pod,.string x.cont] 166)).alloc (bT y)).drew.heap.size:=by simp [World.drew];omega
    clear Hf Hu HC k1 k2 n0 n1 HN Hs;generalize ((w2.alloc (.cells #[.string x.pod,.string x.cont] 166)).alloc (bT y)).drew=W5 at *;have Hh:w.heap.size+1+1<=W5.drew.heap.size:=Hn;obtain ⟨HA,Hg⟩:=H1.out.below Hi.out λ_ _ _ h=>h;have Hm:=qI (Hg.trans HD.out);have HL:=qI (rX x W5.drew HA hdn);have HM:=qI (Hx.out.block (Hi.out.block Bm (by omega)));clear HA Hg
    go_wp2_with fail
    refine wp_region_held_drew (S:=yq Be Bm w.heap.size x) (by kernel_rfl) He.out λhHeld=>?_;refine tk 0 ?_;refine tk 1 ?_;refine tk 2 ?_;refine tk 3 ?_;refine tk 4 ?_;refine tk 5 ?_;refine rd 6 λK hK=>?_;go_simp
    go_wp2_with fail
    refine HL.out.mono ?_;rintro e w6 ⟨a',c',rfl,Hr,HE,_,Hb⟩;have Hc:=qI (show (w6.cell? ⟨Be,1,none⟩=some (.map (some Bm))/\(w6.cell? ⟨w.heap.size+1,0,none⟩=some (.string x.pod)/\w6.cell? ⟨w.heap.size+1,1,none⟩=some (.string x.cont))/\(w6.cell? ⟨w.heap.size,0,none⟩=some (.string x.pod)/\w6.cell? ⟨w.heap.size,1,none⟩=some (.string x.cont)/\w6.cell? ⟨w.heap.size,2,none⟩=some (.int .u64 x.cpus)/\w6.cell? ⟨w.heap.size,3,none⟩=some (.slice x.da x.dn x.dc))) from ⟨(Hb.cell (p:=⟨Be,1,none⟩) (by show Be<_;omega)).trans He.out.1,⟨(Hb.cell (p:=⟨w.heap.size+1,0,none⟩) (by show w.heap.size+1<_;omega)).trans He.out.2.1.1,(Hb.cell (p:=⟨w.heap.size+1,1,none⟩) (by show w.heap.size+1<_;omega)).trans He.out.2.1.2⟩,⟨(Hb.cell (p:=⟨w.heap.size,0,none⟩) (by show w.heap.size<_;omega)).trans He.out.2.2.1,(Hb.cell (p:=⟨w.heap.size,1,none⟩) (by show w.heap.size<_;omega)).trans He.out.2.2.2.1,(Hb.cell (p:=⟨w.heap.size,2,none⟩) (by show w.heap.size<_;omega)).trans He.out.2.2.2.2.1,(Hb.cell (p:=⟨w.heap.size,3,none⟩) (by show w.heap.size<_;omega)).trans He.out.2.2.2.2.2⟩⟩);have HB:=qI (HM.out.block (Hb.block Bm (by omega)));have HO:=qI Hr;have HW:=qI (HE.trans Hm.out);have Hz:=qI (Hi.out.trans (Hb.mono Hi.out.size));have HQ:w.heap.size+1+1<=w6.heap.size:=Q5 Hh Hb.size;clear Hr HE Hb
    go_wp2
    refine hK.out _ _ Hc.out λhHeld=>?_;clear hK K;refine rd 7 λK hK=>?_;rw [if_pos (by rfl)];refine ym _ _ _ _ rfl Bm n xs { x with da:=a',dc:=c' } rfl rfl rfl HB.out hx hn HH.out ?_;intro w7 Hv Ha HR;have HT:=qI (show (w7.cell? ⟨Be,1,none⟩=some (.map (some Bm))/\(w7.cell? ⟨w.heap.size+1,0,none⟩=some (.string x.pod)/\w7.cell? ⟨w.heap.size+1,1,none⟩=some (.string x.cont))/\(w7.cell? ⟨w.heap.size,0,none⟩=some (.string x.pod)/\w7.cell? ⟨w.heap.size,1,none⟩=some (.string x.cont)/\w7.cell? ⟨w.heap.size,2,none⟩=some (.int .u64 x.cpus)/\w7.cell? ⟨w.heap.size,3,none⟩=some (.slice x.da x.dn x.dc))) from ⟨(fm Ha ⟨Be,1,none⟩ (by show Be<_;omega) (by simpa using H8)).trans Hc.out.1,⟨(fm Ha ⟨w.heap.size+1,0,none⟩ (by show w.heap.size+1<_;omega) (λe=>by have e2:w.heap.size+1=Bm:=Ql e;omega)).trans Hc.out.2.1.1,(fm Ha ⟨w.heap.size+1,1,none⟩ (by show w.heap.size+1<_;omega) (λe=>by have e2:w.heap.size+1=Bm:=Ql e;omega)).trans Hc.out.2.1.2⟩,⟨(fm Ha ⟨w.heap.size,0,none⟩ (by show w.heap.size<_;omega) (λe=>by have e2:w.heap.size=Bm:=Ql e;omega)).trans Hc.out.2.2.1,(fm Ha ⟨w.heap.size,1,none⟩ (by show w.heap.size<_;omega) (λe=>by have e2:w.heap.size=Bm:=Ql e;omega)).trans Hc.out.2.2.2.1,(fm Ha ⟨w.heap.size,2,none⟩ (by show w.heap.size<_;omega) (λe=>by have e2:w.heap.size=Bm:=Ql e;omega)).trans Hc.out.2.2.2.2.1,(fm Ha ⟨w.heap.size,3,none⟩ (by show w.heap.size<_;omega) (λe=>by have e2:w.heap.size=Bm:=Ql e;omega)).trans Hc.out.2.2.2.2.2⟩⟩);obtain ⟨Hq,Hy⟩:=HO.out.kept (cE.grown Ha HB.out.notInt);have Ho:=qI (show ∃ a c,aZ w7 Bm (n+1) ({ x with da:=a,dc:=c } :: xs)/\fk w7 { x with da:=a,dc:=c }/\aG w7 { x with da:=a,dc:=c }=aG w x from ⟨a',c',Hv,Hq,Hy.trans HW.out⟩);have HZ:=qI (show aC w7 Bd sn sk sv (aQ l d) (dS l d) from (Ha.block Bd (by omega) λe=>HV (Ql e)).trans ((Hz.out.block Bd (by omega)).trans HJ.out));have H0:=qI ((HG.out.trans (bd.of_below Hz.out)).trans (bd.of_grown Ha (.inr rfl)));clear Hv Ha Hq Hy;refine hK.out _ _ HT.out λhHeld=>?_;clear hK K;refine Qn (by kernel_rfl) ?_ _
    go_wp2
    go_ret;exact ⟨by rw [Hj.out,if_neg (by rw [HH.out];decide)];rfl,⟨HZ.out,H0.out,λh0=>absurd (by rw [Hj.out,if_neg (by rw [HH.out];decide)]) h0,λ_=>Ho.out⟩⟩
   ·have Hf:=a6 Hw.out;have He:=qI (show (((w2.alloc (.cells #[.string x.pod,.string x.cont] 166)).alloc (bT y)).drew.drew.cell? ⟨Be,1,none⟩=some (.map (some Bm))/\(((w2.alloc (.cells #[.string x.pod,.string x.cont] 166)).alloc (bT y)).drew.drew.cell? ⟨w.heap.size+1,0,none⟩=some (.string x.pod)/\((w2.alloc (.cells #[.string x.pod,.string x.cont] 166)).alloc (bT y)).drew.drew.cell? ⟨w.heap.size+1,1,none⟩=some (.string x.cont))/\(((w2.alloc (.cells #[.string x.pod,.string x.cont] 166)).alloc (bT y)).drew.drew.cell? ⟨w.heap.size,0,none⟩=some (.string x.pod)/\((w2.alloc (.cells #[.string x.pod,.string x.cont] 166)).alloc (bT y)).drew.drew.cell? ⟨w.heap.size,1,none⟩=some (.string x.cont)/\((w2.alloc (.cells #[.string x.pod,.string x.cont] 166)).alloc (bT y)).drew.drew.cell? ⟨w.heap.size,2,none⟩=some (.int .u64 x.cpus)/\((w2.alloc (.cells #[.string x.pod,.string x.cont] 166)).alloc (bT y)).drew.drew.cell? ⟨w.heap.size,3,none⟩=some (.slice x.da x.dn x.dc))) from ⟨(Hf.cell (p:=⟨Be,1,none⟩) (by show Be<_;omega)).trans g1,Hs.out,⟨(Hf.cell (p:=⟨w.heap.size,0,none⟩) (by show w.heap.size<_;omega)).trans r0,(Hf.cell (p:=⟨w.heap.size,1,none⟩) (by show w.heap.size<_;omega)).trans r1,(Hf.cell (p:=⟨w.heap.size,2,none⟩) (by show w.heap.size<_;omega)).trans r2,(Hf.cell (p:=⟨w.heap.size,3,none⟩) (by show w.heap.size<_;omega)).trans r3⟩⟩);have Hi:=qI Hf;have Hn:w.heap.size+1+1<=((w2.alloc (.cells #[.string x.pod,.string x.cont] 166)).alloc (bT y)).drew.heap.size:=by simp [World.drew];omega
    clear Hf Hu HC k1 k2 n0 n1 HN Hs;generalize ((w2.alloc (.cells #[.string x.pod,.string x.cont] 166)).alloc (bT y)).drew=W5 at *;have Hh:w.heap.size+1+1<=W5.drew.heap.size:=Hn;obtain ⟨HA,Hg⟩:=H1.out.below Hi.out λ_ _ _ h=>h;have Hm:=qI (Hg.trans HD.out);have HL:=qI (rX x W5.drew HA hdn);have HM:=qI (Hx.out.block (Hi.out.block Bm (by omega)));clear HA Hg
    go_wp2_with fail
    refine wp_region_held_drew (S:=yq Be Bm w.heap.size x) (by kernel_rfl) He.out λhHeld=>?_;refine tk 0 ?_;refine tk 1 ?_;refine tk 2 ?_;refine tk 3 ?_;refine tk 4 ?_;refine tk 5 ?_;refine rd 6 λK hK=>?_;go_simp
    go_wp2_with fail
    refine HL.out.mono ?_;rintro e w6 ⟨a',c',rfl,Hr,HE,_,Hb⟩;have Hc:=qI (show (w6.cell? ⟨Be,1,none⟩=some (.map (some Bm))/\(w6.cell? ⟨w.heap.size+1,0,none⟩=some (.string x.pod)/\w6.cell? ⟨w.heap.size+1,1,none⟩=some (.string x.cont))/\(w6.cell? ⟨w.heap.size,0,none⟩=some (.string x.pod)/\w6.cell? ⟨w.heap.size,1,none⟩=some (.string x.cont)/\w6.cell? ⟨w.heap.size,2,none⟩=some (.int .u64 x.cpus)/\w6.cell? ⟨w.heap.size,3,none⟩=some (.slice x.da x.dn x.dc))) from ⟨(Hb.cell (p:=⟨Be,1,none⟩) (by show Be<_;omega)).trans He.out.1,⟨(Hb.cell (p:=⟨w.heap.size+1,0,none⟩) (by show w.heap.size+1<_;omega)).trans He.out.2.1.1,(Hb.cell (p:=⟨w.heap.size+1,1,none⟩) (by show w.heap.size+1<_;omega)).trans He.out.2.1.2⟩,⟨(Hb.cell (p:=⟨w.heap.size,0,none⟩) (by show w.heap.size<_;omega)).trans He.out.2.2.1,(Hb.cell (p:=⟨w.heap.size,1,none⟩) (by show w.heap.size<_;omega)).trans He.out.2.2.2.1,(Hb.cell (p:=⟨w.heap.size,2,none⟩) (by show w.heap.size<_;omega)).trans He.out.2.2.2.2.1,(Hb.cell (p:=⟨w.heap.size,3,none⟩) (by show w.heap.size<_;omega)).trans He.out.2.2.2.2.2⟩⟩);have HB:=qI (HM.out.block (Hb.block Bm (by omega)));have HO:=qI Hr;have HW:=qI (HE.trans Hm.out);have Hz:=qI (Hi.out.trans (Hb.mono Hi.out.size));have HQ:w.heap.size+1+1<=w6.heap.size:=Q5 Hh Hb.size;clear Hr HE Hb
    go_wp2
    refine hK.out _ _ Hc.out λhHeld=>?_;clear hK K;refine rd 7 λK hK=>?_;rw [if_pos (by rfl)];refine ym _ _ _ _ rfl Bm n xs { x with da:=a',dc:=c' } rfl rfl rfl HB.out hx hn HH.out ?_;intro w7 Hv Ha HR;have HT:=qI (show (w7.cell? ⟨Be,1,none⟩=some (.map (some Bm))/\(w7.cell? ⟨w.heap.size+1,0,none⟩=some (.string x.pod)/\w7.cell? ⟨w.heap.size+1,1,none⟩=some (.string x.cont))/\(w7.cell? ⟨w.heap.size,0,none⟩=some (.string x.pod)/\w7.cell? ⟨w.heap.size,1,none⟩=some (.string x.cont)/\w7.cell? ⟨w.heap.size,2,none⟩=some (.int .u64 x.cpus)/\w7.cell? ⟨w.heap.size,3,none⟩=some (.slice x.da x.dn x.dc))) from ⟨(fm Ha ⟨Be,1,none⟩ (by show Be<_;omega) (by simpa using H8)).trans Hc.out.1,⟨(fm Ha ⟨w.heap.size+1,0,none⟩ (by show w.heap.size+1<_;omega) (λe=>by have e2:w.heap.size+1=Bm:=Ql e;omega)).trans Hc.out.2.1.1,(fm Ha ⟨w.heap.size+1,1,none⟩ (by show w.heap.size+1<_;omega) (λe=>by have e2:w.heap.size+1=Bm:=Ql e;omega)).trans Hc.out.2.1.2⟩,⟨(fm Ha ⟨w.heap.size,0,none⟩ (by show w.heap.size<_;omega) (λe=>by have e2:w.heap.size=Bm:=Ql e;omega)).trans Hc.out.2.2.1,(fm Ha ⟨w.heap.size,1,none⟩ (by show w.heap.size<_;omega) (λe=>by have e2:w.heap.size=Bm:=Ql e;omega)).trans Hc.out.2.2.2.1,(fm Ha ⟨w.heap.size,2,none⟩ (by show w.heap.size<_;omega) (λe=>by have e2:w.heap.size=Bm:=Ql e;omega)).trans Hc.out.2.2.2.2.1,(fm Ha ⟨w.heap.size,3,none⟩ (by show w.heap.size<_;omega) (λe=>by have e2:w.heap.size=Bm:=Ql e;omega)).trans Hc.out.2.2.2.2.2⟩⟩);obtain ⟨Hq,Hy⟩:=HO.out.kept (cE.grown Ha HB.out.notInt);have Ho:=qI (show ∃ a c,aZ w7 Bm (n+1) ({ x with da:=a,dc:=c } :: xs)/\fk w7 { x with da:=a,dc:=c }/\aG w7 { x with da:=a,dc:=c }=aG w x from ⟨a',c',Hv,Hq,Hy.trans HW.out⟩);have HZ:=qI (show aC w7 Bd sn sk sv (aQ l d) (dS l d) from (Ha.block Bd (by omega) λe=>HV (Ql e)).trans ((Hz.out.block Bd (by omega)).trans HJ.out));have H0:=qI ((HG.out.trans (bd.of_below Hz.out)).trans (bd.of_grown Ha (.inr rfl)));clear Hv Ha Hq Hy;refine hK.out _ _ HT.out λhHeld=>?_;clear hK K;refine Qn (by kernel_rfl) ?_ _
    go_wp2
    go_ret;exact ⟨by rw [Hj.out,if_neg (by rw [HH.out];decide)];rfl,⟨HZ.out,H0.out,λh0=>absurd (by rw [Hj.out,if_neg (by rw [HH.out];decide)]) h0,λ_=>Ho.out⟩⟩
 ·have H9:=yo hse;have Hj:=qI (show lw l d (xs.any λy=>decide (y.pod=x.pod/\y.cont=x.cont))=11 from by unfold lw;rw [if_pos hse];exact H9);rw [H9,show au ((11:Nat):Int)=.iface 121 (.int .i64 11) from rfl]
  go_wp2
  go_ret;exact ⟨by rw [Hj.out];rfl,⟨HJ.out,HG.out,λ_=>Hx.out,λh0=>by rw [Hj.out] at h0;cases h0⟩⟩
end
section
open RowKit Go.ChangeMaps Go.Maps Go.WideShapes
def StrKeys (D:DataW Unit):Prop:=∃ es,D=.map es/\∀ p∈es,∃ s:ByteArray,p.1=Lit.string s.data.toList
def eT (w:World) (B n:Nat) (f:ByteArray->Option Int):Prop:=
 ∃ D:DataW Unit,w.ownsMap prog 9 (plainElem prog 3) B n D/\StrKeys D/\∀ s:ByteArray,D.atKey (.string s.data.toList) (.lit (.int .i64 0))=.lit (.int .i64 ((f s).getD 0))/\Go.Maps.has D (.string s.data.toList)=(f s).isSome
theorem eT.block {w w':World} {B n:Nat} {f:ByteArray->Option Int} (h:eT w B n f) (hb:w'.heap[B]?=w.heap[B]?):eT w' B n f:=by
 obtain ⟨D,⟨es,clock,hh,r⟩,hk⟩:=h;exact ⟨D,⟨es,clock,hb.trans hh,r⟩,hk⟩
theorem eT.lt {w:World} {B n:Nat} {f:ByteArray->Option Int} (h:eT w B n f):B<w.heap.size:=by
 obtain ⟨D,ho,_⟩:=h;exact ho.lt
theorem eT.alloc {w:World} {B n:Nat} {f:ByteArray->Option Int} (h:eT w B n f) (o:Obj):eT (w.alloc o) B n f:=h.block (Below.heap_alloc _ _ _ h.lt)
theorem eT.made (w:World):eT (w.alloc (.map #[] 0)) w.heap.size 0 (λ_=>none):=
 ⟨.map [],World.ownsMap_made w _ _ _,⟨[],rfl,λ_ hp=>(List.not_mem_nil hp).elim⟩,λ_=>⟨rfl,rfl⟩⟩
theorem yr {D:DataW Unit} {k:ByteArray} {v:Int} (hS:StrKeys D):StrKeys (D.put (.string k.data.toList) (.lit (.int .i64 v))):=by
 obtain ⟨es,rfl,Ha⟩:=hS;refine ⟨putKey (.string k.data.toList) (.lit (.int .i64 v)) es,rfl,λp hp=>?_⟩;unfold putKey at hp
 rcases List.mem_cons.1 ((insert_perm _ _).mem_iff.1 hp) with rfl|hp
 ·exact ⟨k,rfl⟩
 ·exact Ha p (List.mem_filter.1 hp).1
theorem yt {w0:World} {B n0:Nat} {f:ByteArray->Option Int} {D:DataW Unit} {k:ByteArray} {v:Int} (h0:w0.ownsMap prog 9 (plainElem prog 3) B n0 D) (hD:∀ s:ByteArray,D.atKey (.string s.data.toList) (.lit (.int .i64 0))=.lit (.int .i64 ((f s).getD 0))/\Go.Maps.has D (.string s.data.toList)=(f s).isSome) (s:ByteArray) :
  (D.put (.string k.data.toList) (.lit (.int .i64 v))).atKey (.string s.data.toList) (.lit (.int .i64 0))=.lit (.int .i64 ((Ol.cJ f k (some v) s).getD 0))/\Go.Maps.has (D.put (.string k.data.toList) (.lit (.int .i64 v))) (.string s.data.toList)=(Ol.cJ f k (some v) s).isSome:=by
 unfold Ol.cJ
 by_cases e:s=k
 ·subst e;have Ha:WideAt.IsKeyLit (Lit.string s.data.toList):=trivial;rw [Go.Maps.atKey_put_same h0.isMap Ha,Go.Maps.has_put_same h0.isMap Ha,if_pos rfl];exact ⟨rfl,rfl⟩
 ·have Hb:(Lit.string s.data.toList)≠(Lit.string k.data.toList):=by
   intro h;injection h with h
   exact e (rR h)
  rw [Go.Maps.atKey_put_other Hb,Go.Maps.has_put_other Hb,if_neg e];exact hD s
theorem yv {w w0:World} {B n n0:Nat} {f:ByteArray->Option Int} {D:DataW Unit} {k:ByteArray} {v:Int} (h0:w0.ownsMap prog 9 (plainElem prog 3) B n0 D) (hS:StrKeys D) (hD:∀ s:ByteArray,D.atKey (.string s.data.toList) (.lit (.int .i64 0))=.lit (.int .i64 ((f s).getD 0))/\Go.Maps.has D (.string s.data.toList)=(f s).isSome)
  (ho:w.ownsMap prog 9 (plainElem prog 3) B n (D.put (.string k.data.toList) (.lit (.int .i64 v)))):eT w B n (Ol.cJ f k (some v)):=⟨_,ho,yr hS,yt h0 hD⟩
theorem J9 {w w0:World} {B n n0:Nat} {f:ByteArray->Option Int} {D:DataW Unit} {k:ByteArray} (h0:w0.ownsMap prog 9 (plainElem prog 3) B n0 D) (hS:StrKeys D) (hD:∀ s:ByteArray,D.atKey (.string s.data.toList) (.lit (.int .i64 0))=.lit (.int .i64 ((f s).getD 0))/\Go.Maps.has D (.string s.data.toList)=(f s).isSome)
  (ho:w.ownsMap prog 9 (plainElem prog 3) B n (D.del (.string k.data.toList))):eT w B n (Ol.cJ f k none):=by
 refine ⟨_,ho,?_,λs=>?_⟩
 ·obtain ⟨es,rfl,Hb⟩:=hS;refine ⟨delKey (.string k.data.toList) es,rfl,λp hp=>?_⟩;unfold delKey at hp;exact Hb p (List.mem_filter.1 hp).1
 ·unfold Ol.cJ
  by_cases e:s=k
  ·subst e;have Hc:WideAt.IsKeyLit (Lit.string s.data.toList):=trivial;rw [Go.Maps.atKey_del_same,Go.Maps.has_del_same,if_pos rfl];exact ⟨rfl,rfl⟩
  ·have Ha:(Lit.string s.data.toList)≠(Lit.string k.data.toList):=by
    intro h;injection h with h
    exact e (rR h)
   rw [Go.Maps.atKey_del_other Ha,Go.Maps.has_del_other Ha,if_neg e];exact hD s
theorem Ka {f:ByteArray->Option Int} {D:DataW Unit} (hS:StrKeys D) (hD:∀ s:ByteArray,D.atKey (.string s.data.toList) (.lit (.int .i64 0))=.lit (.int .i64 ((f s).getD 0))/\Go.Maps.has D (.string s.data.toList)=(f s).isSome):Go.Maps.size D=0↔∀ k,f k=none:=by
 obtain ⟨es,rfl,Ha⟩:=hS;rw [Go.Maps.size_eq,List.length_eq_zero_iff];constructor
 ·rintro rfl k
  have:=(hD k).2
  rw [Go.Maps.has_eq] at this;cases hf:f k with
  | none=>rfl
  | some v=>rw [hf] at this;cases this
 ·intro h;cases es with
  | nil=>rfl
  | cons p l=>
   obtain ⟨s,hs⟩:=Ha p (by simp);have h1:=(hD s).2;rw [h s,Go.Maps.has_eq,List.any_cons,hs,WideAt.sameKey_self (show WideAt.IsKeyLit (Lit.string s.data.toList) from trivial)] at h1;cases h1
end
section
open RowKit Shelf
open Qos (Nd Ct Pd nd ct pd)
open Sv (Gv Hd gv hd)
attribute [local go_sem] Oper.semAt_some
abbrev gj:=λ(x0:ByteArray) (x1 x2 x3 x4:Int) (x5:Option Addr) (x6 x7:Nat)=>(.cells #[.string x0,.int .i64 x1,.int .i64 x2,.int .i64 x3,.int .i64 x4,.slice x5 x6 x7] 63:Obj)
abbrev mZ:=(.cells #[.string ⟨#[]⟩,.int .i64 0,.slice none 0 0] 47:Obj)
theorem yw (nm:ByteArray) (pr:Int) (cs:List Ct) (v:Value) (w:World) (h:aE w v cs) (hl:cs.length<=1000) (hdl:∀ k,k<cs.length->(ct cs k).ds.length<=1000):Calls prog 41 #[.agg #[.string nm,.int .i64 pr,v]] w λe w'=>∃ ao c,e=.returned (.agg #[.string nm,.int .i64 pr,.slice ao cs.length c])/\aE (fresh w.heap.size w') (.slice ao cs.length c) cs/\Below w.heap.size w w':=by
 have HP:=qI hdl;have HE:=qI (((Q0 w.heap.size w).alloc (lR) (.cells #[.string nm,.int .i64 pr,v] 47)).alloc (by simp) (mZ));have HH:=qI (Iz v cs _ w h (aq.of_below HE.out) hl);obtain ⟨ca,cc,rfl,H7,_⟩:=h;clear H7 hdl;have sz:((w.alloc (.cells #[.string nm,.int .i64 pr,.slice ca cs.length cc] 47)).alloc (mZ)).heap.size=w.heap.size+2:=by simp
 have H9:=qI (bj (aD w (.cells #[.string nm,.int .i64 pr,.slice ca cs.length cc] 47) rfl) (mZ));have H8:=qI (aD (w.alloc (.cells #[.string nm,.int .i64 pr,.slice ca cs.length cc] 47)) (mZ) (n:=w.heap.size+1) (by simp))
 go_enter func41,ntmps41
 go_wp2_with fail
 generalize ((w.alloc (.cells #[.string nm,.int .i64 pr,.slice ca cs.length cc] 47)).alloc (mZ))=U at *;refine HH.out.mono ?_;rintro e W1 ⟨ao,c,rfl,Ho,hg,Hf⟩;have Hp:=qI Ho;obtain ⟨g,dv,HF⟩:∃ (g:Nat) (dv:Nat->Value),0<cs.length->ao=some ⟨g,0,none⟩/\di W1 U.heap.size g 6 cs.length (λk=>cH (ct cs k) (dv k))/\∀ k,k<cs.length->be w (dv k) (ct cs k).ds:=by
  by_cases h0:0<cs.length
  ·obtain ⟨g,dv,hh⟩:=hg h0;exact ⟨g,dv,λ_=>hh⟩
  ·exact ⟨0,λ_=>.nilIface,λh=>absurd h h0⟩
 have Ht:=(Hf.block w.heap.size (by omega)).trans H9.out;have HC:=(Hf.block (w.heap.size+1) (by omega)).trans H8.out;have z2:W1.cell? ⟨w.heap.size,2,none⟩=some (.slice ca cs.length cc):=aa Ht 2;have fz2:=ai Ht 2;have HD:Hid ((W1.setCell ⟨w.heap.size,2,none⟩ (.slice ao cs.length c)).heap[w.heap.size]?=some (.cells #[.string nm,.int .i64 pr,.slice ao cs.length c] 47 (0,0))):=ah Ht 2 _;have H1:Hid ((W1.setCell ⟨w.heap.size,2,none⟩ (.slice ao cs.length c)).heap[w.heap.size+1]?=some (.cells #[.string ⟨#[]⟩,.int .i64 0,.slice none 0 0] 47 (0,0))):=(set_other (by omega)).trans HC;have HA:=qI ((HE.out.trans (Hf.mono (by omega))).setCell (p:=⟨w.heap.size,2,none⟩) (lR) (.slice ao cs.length c));have HG:Hid (0<cs.length->ao=some ⟨g,0,none⟩/\di (W1.setCell ⟨w.heap.size,2,none⟩ (.slice ao cs.length c)) U.heap.size g 6 cs.length (λk=>cH (ct cs k) (dv k))/\∀ k,k<cs.length->be w (dv k) (ct cs k).ds):=λh0=>by
  obtain ⟨q1,q2,q3⟩:=HF h0;exact ⟨q1,q2.keep (set_other (by have:=q2.base;omega)) (by simp),q3⟩
 have HR:w.heap.size+2<=(W1.setCell ⟨w.heap.size,2,none⟩ (.slice ao cs.length c)).heap.size:=by have:=Hf.size;simp;omega
 have zz:(W1.setCell ⟨w.heap.size,2,none⟩ (.slice ao cs.length c)).cell? ⟨w.heap.size,2,none⟩=some (.slice ao cs.length c):=aa HD.out 2;have HX:=qI Hf;have hc:Hid (∀ j,j≠w.heap.size->(W1.setCell ⟨w.heap.size,2,none⟩ (.slice ao cs.length c)).heap[j]?=W1.heap[j]?):=λj hj=>set_other hj
 clear Ho hg HF Hf HH Ht HC
 go_wp2_with fail
 generalize hW2:W1.setCell ⟨w.heap.size,2,none⟩ (.slice ao cs.length c)=W2 at *;clear hW2 z2 fz2
 go_loopw [12,3] (λi i3 wr=>∃ (k:Nat) (dw:Nat->Value),k<=cs.length/\i=.int .i64 k/\Apart (λj=>U.heap.size<=j) W2 wr/\Hid (0<cs.length->di wr U.heap.size g 6 cs.length (λj=>cH (ct cs j) (dw j)))/\Hid (∀ j,j<k->be (ag (λb=>b<U.heap.size\/b=g) wr) (dw j) (ct cs j).ds)/\Hid (∀ j,k<=j->dw j=dv j)) (λi _ _=>cs.length - (intOf i).toNat)
 case atStart=>exact ⟨0,dv,by omega,rfl,Apart.refl _ _,λh=>(HG.out h).2.1,λj hj=>by omega,λj _=>rfl⟩
 case round=>
  obtain ⟨k,dw,hk,rfl,Hr,Hj,Hh,Hi⟩:=hrel;have Hu:=qI Hr;have hm:=Hr.size;have Hl:=(Hr.block w.heap.size (by omega) (by omega)).trans HD.out;have Hc:=(Hr.block (w.heap.size+1) (by omega) (by omega)).trans H1.out;have HV:=qI Hl;have H6:=qI Hc;have ho:Hid (Below U.heap.size U wr->True):=λ_=>trivial
  by_cases hlt:k<cs.length
  ·obtain ⟨rfl,_,Hz⟩:=HG.out (by omega);have He:=Hj.out (by omega);have Hg:=λj hj=>He.cell k hlt j hj
   rw [Hi.out k (lR)] at Hg;have x0:wr.cell? ⟨g,k*6,none⟩=some (.string (ct cs k).nm):=Hg 0 (by decide);have x1:wr.cell? ⟨g,k*6+1,none⟩=some (.int .i64 (ct cs k).am):=Hg 1 (by decide);have x2:wr.cell? ⟨g,k*6+2,none⟩=some (.int .i64 (ct cs k).ab):=Hg 2 (by decide);have x3:wr.cell? ⟨g,k*6+3,none⟩=some (.int .i64 (ct cs k).cm):=Hg 3 (by decide);have x4:wr.cell? ⟨g,k*6+4,none⟩=some (.int .i64 (ct cs k).cb):=Hg 4 (by decide);have x5:wr.cell? ⟨g,k*6+5,none⟩=some (dv k):=Hg 5 (by decide);have Hb:=Hz k hlt;obtain ⟨ia,ic,HJ,_⟩:=id Hb;rw [HJ] at x5 Hb;have H0:=HP.out k hlt;have hn:=He.lt;have HY:=He.base;have HL:(k:Int)<(cs.length:Int):=by omega
   clear He Hz HJ Hl Hc Hg;generalize (ct cs k).nm=cn at *;generalize (ct cs k).am=c1 at *;generalize (ct cs k).ab=c2 at *;generalize (ct cs k).cm=c3 at *;generalize (ct cs k).cb=c4 at *;generalize hxs:(ct cs k).ds=ds at *;have HO:=qI hxs;clear hxs;have he:(wr.alloc (gj cn c1 c2 c3 c4 ia ds.length ic)).heap.size=wr.heap.size+1:=by simp
   have HS:=qI (show (wr.alloc (gj cn c1 c2 c3 c4 ia ds.length ic)).drew.cell? ⟨w.heap.size,2,none⟩=some (.slice (some ⟨g,0,none⟩) cs.length c)/\(wr.alloc (gj cn c1 c2 c3 c4 ia ds.length ic)).drew.cell? ⟨wr.heap.size,5,none⟩=some (.slice ia ds.length ic) from ⟨aa (W:=(wr.alloc (gj cn c1 c2 c3 c4 ia ds.length ic)).drew) (bj HV.out (gj cn c1 c2 c3 c4 ia ds.length ic)) 2,aa (W:=(wr.alloc (gj cn c1 c2 c3 c4 ia ds.length ic)).drew) (aD wr (gj cn c1 c2 c3 c4 ia ds.length ic) rfl) 5⟩);have Hv:Below wr.heap.size wr (wr.alloc (gj cn c1 c2 c3 c4 ia ds.length ic)).drew:=a6 ((Q0 wr.heap.size wr).alloc (lR) (gj cn c1 c2 c3 c4 ia ds.length ic));have HM:be (wr.alloc (gj cn c1 c2 c3 c4 ia ds.length ic)).drew (.slice ia ds.length ic) ds:=by
    refine Hb.le ⟨by simp [World.drew];omega,λb o v e=>?_⟩;have HW:b<w.heap.size:=Q3 w ⟨b,o,none⟩ e;have e1:(wr.alloc (gj cn c1 c2 c3 c4 ia ds.length ic)).drew.heap[b]?=wr.heap[b]?:=Hv.block b (by omega);have e2:wr.heap[b]?=W2.heap[b]?:=Hu.out.block b (by omega) (by omega);exact (World.cell?_of_block (a:=⟨b,o,none⟩) (e1.trans (e2.trans (HA.out.block b HW)))).trans e
   have HI:=qI (Ix (.slice ia ds.length ic) ds (wr.alloc (gj cn c1 c2 c3 c4 ia ds.length ic)).drew HM H0);have HK:=qI Hv;clear HM Hv Hb
   go_wp2_with fail
   refine wp_region_held_drew (S:=(λw'=>w'.cell? ⟨w.heap.size,2,none⟩=some (.slice (some ⟨g,0,none⟩) cs.length c)/\w'.cell? ⟨wr.heap.size,5,none⟩=some (.slice ia ds.length ic))) (by kernel_rfl) HS.out λhQ=>?_;refine tk 0 ?_;refine tk 1 ?_;refine tk 2 ?_;refine tk 3 ?_;refine tk 4 ?_;refine rd 5 λK hK=>?_;go_simp
   go_wp2_with fail
   refine HI.out.mono ?_;rintro e W4 ⟨na,nc,rfl,HN,Hm⟩;have Hx:Below wr.heap.size wr W4:=HK.out.trans (Hm.mono HK.out.size);have hf:wr.heap.size+1<=W4.heap.size:=by have:=Hm.size;simp [World.drew] at this;omega
   have Hw:=qI (show W4.cell? ⟨w.heap.size,2,none⟩=some (.slice (some ⟨g,0,none⟩) cs.length c)/\W4.cell? ⟨wr.heap.size,5,none⟩=some (.slice ia ds.length ic) from ⟨(Hm.cell (p:=⟨w.heap.size,2,none⟩) (by simp [World.drew];omega)).trans HS.out.1,(Hm.cell (p:=⟨wr.heap.size,5,none⟩) (by simp [World.drew])).trans HS.out.2⟩);have Ha:=(Hj.out (by omega)).below Hx;have y5:W4.cell? ⟨g,k*6+5,none⟩=some (dw k):=Ha.cell k hlt 5 (by decide);have f5:=Ha.free (k*6+5);have HT:=qI Ha;have HB:=qI Hx;have H5:=qI HN;clear HN Hm Hx Ha HI
   go_wp2
   refine hK.out _ _ Hw.out λhQ=>?_;clear hK K;refine tk 6 ?_;refine tk 7 ?_;have Hs:Hid (∀ b,b≠g->(W4.setCell ⟨g,k*6+5,none⟩ (.slice na ds.length nc)).heap[b]?=W4.heap[b]?):=λb hb=>set_other hb
   have Hn:(W4.setCell ⟨g,k*6+5,none⟩ (.slice na ds.length nc)).heap.size=W4.heap.size:=by simp
   have H2:=qI ((Apart.of_below (K:=λj=>U.heap.size<=j) HB.out).trans (Apart.setCell (K:=λj=>U.heap.size<=j) HY W4 (k*6+5) (.slice na ds.length nc)));have HZ:=qI (HT.out.set k 5 hlt (by decide) (.slice na ds.length nc) (λj=>cH (ct cs j) (if j=k then .slice na ds.length nc else dw j)) (λi _ hi=>by simp [hi]) (λi hi=>by
    match i,hi with
    | 0,_=>simp [cH]
    | 1,_=>simp [cH]
    | 2,_=>simp [cH]
    | 3,_=>simp [cH]
    | 4,_=>simp [cH]
    | 5,_=>simp [cH]) rfl)
   have HQ:=qI (show (W4.setCell ⟨g,k*6+5,none⟩ (.slice na ds.length nc)).cell? ⟨w.heap.size,2,none⟩=some (.slice (some ⟨g,0,none⟩) cs.length c)/\(W4.setCell ⟨g,k*6+5,none⟩ (.slice na ds.length nc)).cell? ⟨wr.heap.size,5,none⟩=some (.slice ia ds.length ic) from ⟨(World.cell?_of_block (a:=⟨w.heap.size,2,none⟩) (Hs.out w.heap.size (by omega))).trans Hw.out.1,(World.cell?_of_block (a:=⟨wr.heap.size,5,none⟩) (Hs.out wr.heap.size (by omega))).trans Hw.out.2⟩);refine rd 8 λK hK=>?_;go_simp;refine hK.out _ _ HQ.out λhQ=>?_;clear hK K;generalize W4.setCell ⟨g,k*6+5,none⟩ (.slice na ds.length nc)=W5 at *;refine Qn (by kernel_rfl) ?_ _;clear hQ
   go_wp2
   go_roundw
   case rel=>
    refine ⟨k+1,λj=>if j=k then .slice na ds.length nc else dw j,by omega,by go_num,Hu.out.trans H2.out,λ_=>HZ.out,λj hj=>?_,λj hj=>?_⟩
    ·by_cases hjk:j=k
     ·subst hjk;dsimp only;rw [if_pos rfl,HO.out];refine H5.out.le (bE (λb Hf Hq=>?_) (by rw [Hn];exact lR));have Hq:¬ b<wr.heap.size+1:=by simpa [World.drew] using Hq
      exact ⟨by omega,Hs.out b (by omega)⟩
     ·dsimp only;rw [if_neg hjk];refine (Hh.out j (by omega)).le (bE (λb Hf Hq=>⟨Hq,?_⟩) (by rw [Hn];omega));rw [Hs.out b (by omega)];exact HB.out.block b Hf
    ·dsimp only;rw [if_neg (by omega)];exact Hi.out j (by omega)
   case measure=>simp [intOf];omega
  ·have H4:k=cs.length:=by omega
   subst H4;have Hy:Hid (aE (fresh U.heap.size wr) (.slice ao cs.length c) cs):=by
    unfold Hid
    by_cases h0:0<cs.length
    ·obtain ⟨ha,_,Hz⟩:=HG.out h0;rw [ha];exact (Iu (Hj.out h0) rfl Hp.out λj hj=>(Hh.out j hj).le (bE (λb _ Hq=>⟨by omega,rfl⟩) (lR)))
    ·exact ⟨ao,c,rfl,Hp.out,λh=>absurd h h0⟩
   obtain ⟨u0,u1,u2⟩:wr.cell? ⟨w.heap.size,0,none⟩=some (.string nm)/\wr.cell? ⟨w.heap.size,1,none⟩=some (.int .i64 pr)/\wr.cell? ⟨w.heap.size,2,none⟩=some (.slice ao cs.length c):=⟨aa Hl 0,aa Hl 1,aa Hl 2⟩;obtain ⟨v0,v1,v2⟩:wr.cell? ⟨w.heap.size+1,0,none⟩=some (.string ⟨#[]⟩)/\wr.cell? ⟨w.heap.size+1,1,none⟩=some (.int .i64 0)/\wr.cell? ⟨w.heap.size+1,2,none⟩=some (.slice none 0 0):=⟨aa Hc 0,aa Hc 1,aa Hc 2⟩;have f0:=ai Hc 0;have f1:=ai Hc 1;have f2:=ai Hc 2;have Hk:=qI (ah (ah (ah H6.out 0 (.string nm)) 1 (.int .i64 pr)) 2 (.slice ao cs.length c));have HU:=qI ((((Hu.out.below HA.out (lR) (λj hj=>by omega)).setCell (p:=⟨w.heap.size+1,0,none⟩) (Nat.le_succ _) (.string nm)).setCell (p:=⟨w.heap.size+1,1,none⟩) (Nat.le_succ _) (.int .i64 pr)).setCell (p:=⟨w.heap.size+1,2,none⟩) (Nat.le_succ _) (.slice ao cs.length c));have H3:Hid (aE (fresh w.heap.size (((wr.setCell ⟨w.heap.size+1,0,none⟩ (.string nm)).setCell ⟨w.heap.size+1,1,none⟩ (.int .i64 pr)).setCell ⟨w.heap.size+1,2,none⟩ (.slice ao cs.length c))) (.slice ao cs.length c) cs):=Hy.out.le (lm (λj h1 _=>(set_other (by omega)).trans ((set_other (by omega)).trans (set_other (by omega)))) (by simp) (by omega));clear Hl Hc
   go_wp2_with fail
   generalize ((wr.setCell ⟨w.heap.size+1,0,none⟩ (.string nm)).setCell ⟨w.heap.size+1,1,none⟩ (.int .i64 pr)).setCell ⟨w.heap.size+1,2,none⟩ (.slice ao cs.length c)=WZ at *;(try simp only [Exit.inBlock,Exit.then]);refine bodyPost_ret (v:=.agg #[.string nm,.int .i64 pr,.slice ao cs.length c]) ?_ rfl ⟨ao,c,rfl,H3.out,HU.out⟩;have r0:WZ.cell? ⟨w.heap.size+1,0,none⟩=some (.string nm):=aa Hk.out 0;have r1:WZ.cell? ⟨w.heap.size+1,1,none⟩=some (.int .i64 pr):=aa Hk.out 1;have r2:WZ.cell? ⟨w.heap.size+1,2,none⟩=some (.slice ao cs.length c):=aa Hk.out 2;rw [ou rfl];clear u0 u1 u2 v0 v1 v2 f0 f1 f2;go_simp
end
section
open RowKit
theorem yx (Be Bd Bm nn:Nat) (xs:List RV) (w:World) (he:et w Be Bd Bm) (hm:aZ w Bm nn xs) (hl:xs.length<=1000) (hd:∀ x∈xs,aS w x/\x.dn<=1000) :
  Calls prog 39 #[.pointer (some ⟨Be,0,none⟩)] w λe w'=>(∃ v ys,e=.returned v/\iW w.heap.size w' v ys/\(∀ y∈ys,(aS w' y/\y.dn<=1000)/\ip w.heap.size y)/\(ys.map (aj w')).Perm (xs.map (aj w))/\kt ys)/\Below w.heap.size w w':=by
 obtain ⟨_,c1⟩:=he.cells;have Hu:=(Q0 w.heap.size w).alloc (lR) (.cells #[.map (some Bm)] 147);have Hn:=qI Hu;have Hw:=qI (JQ w.heap.size Bm nn xs (w.alloc (.cells #[.map (some Bm)] 147)) (by simp) (hm.block (Hu.block Bm hm.lt)) hl);have HD:=qI hd;have H4:(w.alloc (.cells #[.map (some Bm)] 147)).heap.size=w.heap.size+1:=by simp
 clear hm he hd Hu
 go_enter func39,ntmps39
 go_wp2_with fail
 refine (Ja _ _).mono ?_;rintro e w1 ⟨rfl,rfl⟩
 go_wp2_with fail
 generalize w.alloc (.cells #[.map (some Bm)] 147)=W1 at *;refine Hw.out.mono ?_;rintro e w2 ⟨⟨v,qs,rfl,hq,Hl,HI⟩,HM⟩;have HQ:=qI (Hn.out.trans (HM.mono Hn.out.size));have H5:qs.length<=1000:=by rw [Hl.length_eq];exact hl
 have H1:=qI (show ∀ j,j<qs.length->aS w (rv qs j)/\(rv qs j).dn<=1000 from λj hj=>HD.out _ (Hl.mem_iff.1 (kw hj)));have HP:=qI (Hl.map (aj w));have HS:=qI HI;obtain ⟨a,c,rfl,H6,hr⟩:=hq;obtain ⟨g,hg,Hc⟩:∃ g,(0<qs.length->a=some ⟨g,0,none⟩/\w.heap.size<g/\g<w2.heap.size)/\gi w2 g qs:=by
  by_cases h0:0<qs.length
  ·obtain ⟨g,ha,H2,Hh,hc⟩:=hr h0;exact ⟨g,λ_=>⟨ha,by omega,Hh⟩,hc⟩
  ·exact ⟨0,λh=>absurd h h0,λk hk=>by omega⟩
 have HG:=qI hg;have Hi:=qI Hc;clear hg Hc hr Hl HI HM Hw Hn HD c1
 go_wp2
 go_loopw [14] (λi wr=>∃ (k:Nat) (ys:List RV),k<=qs.length/\i=.int .i64 k/\ys.length=qs.length/\Below w.heap.size w wr/\gi wr g ys/\(0<qs.length->g<wr.heap.size)/\Hid (∀ j,j<k->aS wr (rv ys j)/\aj wr (rv ys j)=aj w (rv qs j)/\(rv ys j).dn<=1000/\ku g (rv ys j)/\ip w.heap.size (rv ys j))/\Hid (∀ j,k<=j->j<qs.length->rv ys j=rv qs j)) (λi _=>qs.length - (intOf i).toNat)
 case atStart=>exact ⟨0,qs,by omega,rfl,rfl,HQ.out,Hi.out,λh=>(HG.out h).2.2,λj hj=>by omega,λj _ _=>rfl⟩
 case round=>
  obtain ⟨k,ys,hk,rfl,Hj,hB,hR,Hk,Ha,Hb⟩:=hrel
  by_cases hlt:k<qs.length
  ·obtain ⟨rfl,H2,_⟩:=HG.out (by omega);have HF:=Hk (by omega);have HB:=qI hB;have HR:=qI hR;have He:=hR k (by omega);rw [Hb.out k (lR) hlt] at He;obtain ⟨⟨c0,c1,c2,c3⟩,f0,f1,f2,f3⟩:=He;obtain ⟨HJ,Hz⟩:=H1.out k hlt;obtain ⟨HL,HA⟩:=HJ.below (hB.alloc hB.size (.cells #[.string (rv qs k).pod,.string (rv qs k).cont,.int .u64 (rv qs k).cpus,.slice (rv qs k).da (rv qs k).dn (rv qs k).dc] 111)) λ_ _ _ h=>h;have Hx:=qI (rX (rv qs k) _ HL Hz);have Hy:=qI HA;clear hB hR Hk HL HA HJ;generalize hx:rv qs k=x at *;have HX:=qI hx;clear hx
   go_wp2_with fail
   refine Hx.out.mono ?_;rintro e w3 ⟨a',c',rfl,ho,HK,Hp,HN⟩;have HC:=(Q0 wr.heap.size wr).alloc (lR) (bT x);have Hg:=HC.trans (HN.mono (by simp));have HT:=qI Hg;have HZ:=qI (HB.out.trans (Hg.mono HB.out.size));have Hr:=HR.out.block (Hg.block g HF);have HU:=qI Hr;have HO:=qI ho.1;have Hm:=qI (HK.trans Hy.out);have HV:=qI (show ip w.heap.size { x with da:=a',dc:=c' } from λh0=>by
    obtain ⟨g2,Hh,Hf⟩:=Hp h0;refine ⟨g2,Hh,?_⟩
    simp at Hf
    have:=HB.out.size
    omega)
   have HE:=qI (show ku g { x with da:=a',dc:=c' } from λh0 g' o' e=>by
    obtain ⟨g2,Hh,Hf⟩:=Hp h0;rw [Hh] at e;cases e
    simp at Hf
    omega)
   have Hf:g<w3.heap.size:=Q1 HF Hg.size;obtain ⟨⟨d0,d1,d2,d3⟩,e0,e1,e2,e3⟩:=Hr k (by omega);clear ho HK Hp HN HC Hg Hr Hx Hy HR c0 c1 c2 c3 f0 f1 f2 f3;generalize rv ys k=z at *
   go_wp2_with fail
   have HW:=qI (HU.out.set (k:=k) (by omega) { x with da:=a',dc:=c' });have H3:=qI (JZ HZ.out (g:=g) (by omega) (k*4) { x with da:=a',dc:=c' });have HH:=qI λb (hb:b≠g)=>J0 w3 g (k*4) { x with da:=a',dc:=c' } b hb;have Ht:(dJ w3 g (k*4) { x with da:=a',dc:=c' }).heap.size=w3.heap.size:=by simp [dJ]
   have Ho:=qI (show ∀ j,j<k+1->aS (dJ w3 g (k*4) { x with da:=a',dc:=c' }) (rv (ys.set k { x with da:=a',dc:=c' }) j)/\aj (dJ w3 g (k*4) { x with da:=a',dc:=c' }) (rv (ys.set k { x with da:=a',dc:=c' }) j)=aj w (rv qs j)/\(rv (ys.set k { x with da:=a',dc:=c' }) j).dn<=1000/\ku g (rv (ys.set k { x with da:=a',dc:=c' }) j)/\ip w.heap.size (rv (ys.set k { x with da:=a',dc:=c' }) j) from λj hj=>by
    rw [rY ys k j _ (by omega)]
    by_cases e:j=k
    ·rw [if_pos e];obtain ⟨h1,h2⟩:=rZ (w':=dJ w3 g (k*4) { x with da:=a',dc:=c' }) HO.out HE.out (λb hb _=>HH.out b hb) (by omega);refine ⟨h1,?_,Hz,HE.out,HV.out⟩;subst e;rw [HX.out];unfold aj;rw [h2,Hm.out]
    ·rw [if_neg e];obtain ⟨h1,h2,h3,h4,h9⟩:=Ha.out j (by omega);obtain ⟨h5,h6⟩:=h1.below HT.out λ_ _ _ h=>h;obtain ⟨h7,h8⟩:=rZ (w':=dJ w3 g (k*4) { x with da:=a',dc:=c' }) h5 h4 (λb hb _=>HH.out b hb) (by omega);refine ⟨h7,?_,h3,h4,h9⟩;rw [<- h2];unfold aj;rw [h8,h6])
   have Hs:=qI (show ∀ j,k+1<=j->j<qs.length->rv (ys.set k { x with da:=a',dc:=c' }) j=rv qs j from λj h1 h2=>by
    rw [rY ys k j _ (by omega),if_neg (by omega)];exact Hb.out j (by omega) h2)
   exact ⟨⟨k+1,ys.set k { x with da:=a',dc:=c' },by omega,by go_num,by simp [Hj],H3.out,HW.out,λ_=>by rw [<- Ht] at Hf;exact Hf,Ho,Hs⟩,by simp [intOf];omega⟩
  ·have H0:k=qs.length:=by omega
   subst H0;have HB:=qI hB;have Hq:=qI (J2 Hj λj hj=>(Ha.out j hj).2.1);have Hv:=qI (J1 Hj (λj hj=>by
    have:=(Ha.out j hj).2.1
    unfold aj at this;simp only [Rn.mk.injEq] at this;exact ⟨this.1,this.2.1⟩) HS.out)
   have Hm:=qI (show ∀ y∈ys,(aS wr y/\y.dn<=1000)/\ip w.heap.size y from λy hy=>by
    obtain ⟨i,hi,rfl⟩:=List.getElem_of_mem hy
    have:=Ha.out i (by omega)
    simp [rv,hi] at this
    exact ⟨⟨this.1,this.2.2.1⟩,this.2.2.2.2⟩)
   have HY:=qI (show iW w.heap.size wr (.slice a qs.length c) ys from ⟨a,c,by rw [Hj],by omega,λh0=>⟨g,(HG.out (by omega)).1,by have:=(HG.out (by omega)).2.1;omega,Hk (by omega),hR⟩⟩);clear hB hR Hk Ha Hb
   go_wp2
   go_ret;exact ⟨⟨_,ys,rfl,HY.out,Hm.out,by rw [Hq.out];exact HP.out,Hv.out⟩,HB.out⟩
end
section
open RowKit Shelf
attribute [local go_sem] Oper.semAt_some
theorem Kb (ax ay:Option Addr) (cx cy:Nat) (xs ys:List Int) (w:World) (hmx:xs.length<=1000) (hmy:ys.length<=1000) (hrx:0<xs.length->∃ b o,ax=some ⟨b,o,none⟩/\b<w.heap.size/\∀ k,k<xs.length->w.cell? ⟨b,o+k,none⟩=some (.int .i64 (xs.getD k 0))) (hry:0<ys.length->∃ b o,ay=some ⟨b,o,none⟩/\b<w.heap.size/\∀ k,k<ys.length->w.cell? ⟨b,o+k,none⟩=some (.int .i64 (ys.getD k 0))):Calls prog 143 #[.slice ax xs.length cx,.slice ay ys.length cy] w λe w'=>e=.returned (.bool (decide (xs=ys)))/\∃ n,w'=w.drewN n:=by
 by_cases hlen:xs.length=ys.length
 ·have Hg:((xs.length:Int) != (ys.length:Int))=false:=by rw [hlen];simp
  have HX:=qI hrx;have HY:=qI hry;have Hb:=qI hlen;clear hrx hry hlen
  go_enter func143,ntmps143
  go_wp2
  go_loopw [13] (λi wr=>∃ k n:Nat,k<=xs.length/\i=.int .i64 k/\wr=w.drewN n/\Hid (∀ j,j<k->xs.getD j 0=ys.getD j 0)) (λi _=>xs.length - (intOf i).toNat)
  case atStart=>exact ⟨0,0,by omega,rfl,rfl,λj hj=>by omega⟩
  case round=>
   obtain ⟨k,n,hk,rfl,rfl,Ha⟩:=hrel
   by_cases hlt:k<xs.length
   ·have Hc:k<ys.length:=by rw [<- Hb.out];exact hlt
    obtain ⟨b1,o1,rfl,Hh,He⟩:=HX.out (by omega);obtain ⟨b2,o2,rfl,Hl,Hf⟩:=HY.out (by omega);have x0:w.cell? ⟨b1,o1+k,none⟩=some (.int .i64 (xs.getD k 0)):=He k hlt;have y0:w.cell? ⟨b2,o2+k,none⟩=some (.int .i64 (ys.getD k 0)):=Hf k Hc;have Hi:(k:Int)<(xs.length:Int):=by omega
    have Hk:(k:Int)<(ys.length:Int):=by omega
    clear He Hf;obtain ⟨p,hp⟩:∃ p,p=xs.getD k 0:=⟨_,rfl⟩;obtain ⟨q,hq⟩:∃ q,q=ys.getD k 0:=⟨_,rfl⟩;rw [<- hp] at x0;rw [<- hq] at y0;have HP:=qI hp;have HQ:=qI hq;clear hp hq
    by_cases he:p=q
    ·have HE:=qI he;have hb:(p != q)=false:=by rw [he];simp
     clear he
     go_wp2
     go_quiet (fail)
     go_wp2
     go_roundw
     case rel=>
      refine ⟨k+1,n+nq,by omega,by go_num,rfl,λj hj=>?_⟩
      by_cases hjk:j=k
      ·subst hjk;rw [<- HP.out,<- HQ.out];exact HE.out
      ·exact Ha.out j (by omega)
     case measure=>simp [intOf];omega
    ·have hb:(p != q)=true:=by simp [he]
     have HD:Hid (decide (xs=ys)=false):=Q7 λe=>he (by rw [HP.out,HQ.out,e])
     clear he
     go_wp2
     go_quiet (fail)
     go_wp2
     go_ret;exact ⟨by rw [HD.out];rfl,n+nq,by rw [World.drewN_drewN]⟩
   ·have Hj:k=xs.length:=by omega
    have HD:Hid (decide (xs=ys)=true):=Qc (List.ext_getElem Hb.out λi h1 h2=>by
     have:=Ha.out i (by omega)
     simpa [h1,h2] using this)
    go_wp2
    go_ret;exact ⟨by rw [HD.out];rfl,n,rfl⟩
 ·have Hg:((xs.length:Int) != (ys.length:Int))=true:=by simp;omega
  have HD:Hid (decide (xs=ys)=false):=Q7 λe=>hlen (by rw [e])
  go_enter func143,ntmps143
  go_wp2
  go_ret;exact ⟨by rw [HD.out];rfl,0,rfl⟩
end
section
open RowKit Shelf
open Qos (Nd Ct Pd nd ct pd ltS aU)
open Sv (Gv Hd gv hd)
attribute [local go_sem] Oper.semAt_some
theorem r7 (xn:ByteArray) (xp:Int) (cv gvv:Value) (nm:ByteArray) (w:World):Calls prog 92 #[.agg #[.string xn,.int .i64 xp,cv,gvv],.string nm] w λe w'=>e=.returned (.int .i64 (aU xn nm))/\Below w.heap.size w w':=by
 have HB:=qI ((Q0 w.heap.size w).alloc (lR) (.cells #[.string xn,.int .i64 xp,cv,gvv] 57))
 go_enter func92,ntmps92
 go_wp2_with fail
 refine (rU xn nm _).mono ?_;rintro e w1 ⟨rfl,rfl⟩
 go_wp2
 go_ret;exact ⟨rfl,HB.out⟩
theorem iY {a b:ByteArray}:aU a b<0↔Ol.cN a b:=by
 unfold aU Ol.cN;have e:ltS a b=decide (a.toList<b.toList):=Go.Proofs.bytesLess_eq _ _;rw [e]
 by_cases h:a.toList<b.toList
 ·simp [h]
 ·rw [Q7 h];simp only [Bool.false_eq_true,if_false];constructor
  ·intro h2;split at h2 <;> omega
  ·intro h2;exact absurd h2 h
theorem Kc {hs:List Hd} {nm:ByteArray} {a:Nat} (ha:a<=hs.length) (h1:∀ t,t<a->Ol.cN (hd hs t).pod.nm nm) (h2:∀ t,a<=t->t<hs.length->¬ Ol.cN (hd hs t).pod.nm nm):Ol.b8 hs nm=a:=by
 unfold Ol.b8;rw [<- List.take_append_drop a hs,List.countP_append];have e1:(hs.take a).countP (λh=>decide (h.pod.nm.toList<nm.toList))=(hs.take a).length:=by
  rw [List.countP_eq_length];intro x hx;obtain ⟨k,hk,rfl⟩:=List.getElem_of_mem hx;rw [Qu] at hk
  have:=h1 k (by omega)
  have e:hd hs k=(hs.take a)[k]'(by rw [Qu];omega):=by simp [hd,show k<hs.length by omega]
  rw [e] at this;exact Qc this
 have e2:(hs.drop a).countP (λh=>decide (h.pod.nm.toList<nm.toList))=0:=by
  rw [List.countP_eq_zero];intro x hx;obtain ⟨k,hk,rfl⟩:=List.getElem_of_mem hx;rw [List.length_drop] at hk
  have:=h2 (a+k) (by omega) (by omega)
  have e:hd hs (a+k)=(hs.drop a)[k]'(by rw [List.length_drop];omega):=by simp [hd,show a+k<hs.length by omega]
  rw [e] at this;have h3:¬ ((hs.drop a)[k]'(by rw [List.length_drop];omega)).pod.nm.toList<nm.toList:=this;rw [Q7 h3];decide
 rw [e1,e2,Qu];omega
def cA (hs:List Hd) (nm:ByteArray):Bool:=hs.any λh=>decide (h.pod.nm=nm)
theorem r9 {hs:List Hd} (hr:Ol.gN hs) {i j:Nat} (hij:i<j) (hj:j<hs.length):Ol.cN (hd hs i).pod.nm (hd hs j).pod.nm:=by
 have:=List.pairwise_iff_getElem.1 hr i j (by omega) hj hij
 have e1:hd hs i=hs[i]'(by omega):=by simp [hd,show i<hs.length by omega]
 have e2:hd hs j=hs[j]:=by simp [hd,hj]
 rw [e1,e2];exact this
theorem yy {hs:List Hd} (hr:Ol.gN hs) {nm:ByteArray} {a:Nat} (h1:∀ t,t<a->aU (hd hs t).pod.nm nm<0) (h2:∀ t,a<=t->t<hs.length->¬ aU (hd hs t).pod.nm nm<0) (h3:a<hs.length->(hd hs a).pod.nm≠nm):cA hs nm=false:=by
 unfold cA;rw [List.any_eq_false];intro x hx;obtain ⟨t,ht,rfl⟩:=Sv.oy hx;intro e;have e:=of_decide_eq_true e
 by_cases c1:t<a
 ·have:=iY.1 (h1 t c1)
  rw [e] at this;exact Ol.mB _ this
 ·by_cases c2:t=a
  ·subst c2;exact h3 ht e
  ·have h4:=r9 hr (show a<t by omega) ht;rw [e] at h4;exact h2 a (lR) (by omega) (iY.2 h4)
theorem yz {a b:ByteArray}:aU a b=0↔a=b:=by
 constructor
 ·intro h;apply Qt;intro Ha
  rcases Ol.rm Ha with k|k
  ·have:=iY.2 k;omega
  ·have k2:ltS b a=true:=by
    have e:ltS b a=decide (b.toList<a.toList):=Go.Proofs.bytesLess_eq _ _;rw [e];exact Qc k
   unfold aU at h
   split at h
   ·cases h
   ·first|(rw [if_pos k2] at h;cases h)|cases h
 ·rintro rfl;have hn:ltS a a=false:=by
   have e:ltS a a=decide (a.toList<a.toList):=Go.Proofs.bytesLess_eq _ _;rw [e];exact Q7 (Ol.mB a)
  unfold aU;rw [hn];rfl
theorem Kd (v:Value) (hs:List Hd) (nm:ByteArray) (w:World) (h:aJ w v hs) (hl:hs.length<=100) (hri:Ol.gN hs):Calls prog 91 #[v,.string nm,.func (.func 92) #[] #[]] w λe w'=>e=.returned (.tuple #[.int .i64 (Ol.b8 hs nm:Nat),.bool (cA hs nm)])/\Below w.heap.size w w':=by
 have Hh:=qI hri;obtain ⟨ao,c,rfl,hm,hr⟩:=h;unfold maxLen at hm;have HR:=qI hr;clear hr hri
 go_enter func91,ntmps91
 go_wp2
 go_loopw [9,10] (λi j wr=>∃ a b:Nat,a<=b/\b<=hs.length/\i=.int .i64 a/\j=.int .i64 b/\Hid (∀ t,t<a->aU (hd hs t).pod.nm nm<0)/\Hid (∀ t,b<=t->t<hs.length->0<=aU (hd hs t).pod.nm nm)/\Below w.heap.size w wr) (λi j _=>(intOf j).toNat - (intOf i).toNat)
 case atStart=>exact ⟨0,hs.length,by omega,by omega,rfl,rfl,λt ht=>by omega,λt h1 h2=>by omega,Q0 _ _⟩
 case round=>
  obtain ⟨a,b,Hq,hb,rfl,rfl,Hf,Hg,Hb⟩:=hrel;have HB:=qI Hb
  by_cases hlt:a<b
  ·obtain ⟨m,Hm⟩:∃ m:Nat,((a:Int)+(b:Int)) / 2=(m:Int):=⟨(a+b) / 2,by omega⟩;have Hn:a<=m:=by omega
   have Ho:m<b:=by omega
   obtain ⟨bb,o,cv,gvv,rfl,He⟩:=HR.out (by omega);obtain ⟨x0,x1,x2,x3⟩:=((He.below Hb).2 m (by omega)).1;clear He Hb
   by_cases hc:aU (hd hs m).pod.nm nm<0
   ·have Hk:Hid (∀ t,t<m+1->aU (hd hs t).pod.nm nm<0):=λt ht=>by
     by_cases e:t=m
     ·rw [e];exact hc
     ·exact iY.2 (Ol.mC (r9 Hh.out (show t<m by omega) (by omega)) (iY.1 hc))
    have HF:=qI (r7 (hd hs m).pod.nm (hd hs m).pod.pr (cv m) (gvv m) nm wr);generalize aU (hd hs m).pod.nm nm=z at *
    go_wp2_with fail
    refine HF.out.mono ?_;rintro e w1 ⟨rfl,Ha⟩;have Hc:=qI (HB.out.trans (Ha.mono HB.out.size));clear Ha
    go_wp2
    go_roundw
    case rel=>exact ⟨m+1,b,by omega,by omega,by go_num,rfl,Hk,Hg,Hc.out⟩
    case measure=>simp [intOf];omega
   ·have Hl:Hid (∀ t,m<=t->t<hs.length->0<=aU (hd hs t).pod.nm nm):=λt h1 h2=>by
     refine Int.not_lt.1 λh3=>?_
     by_cases e:t=m
     ·rw [e] at h3;exact hc h3
     ·exact hc (iY.2 (Ol.mC (r9 Hh.out (show m<t by omega) h2) (iY.1 h3)))
    have HF:=qI (r7 (hd hs m).pod.nm (hd hs m).pod.pr (cv m) (gvv m) nm wr);generalize aU (hd hs m).pod.nm nm=z at *
    go_wp2_with fail
    refine HF.out.mono ?_;rintro e w1 ⟨rfl,Ha⟩;have Hc:=qI (HB.out.trans (Ha.mono HB.out.size));clear Ha
    go_wp2
    go_roundw
    case rel=>exact ⟨a,m,by omega,by omega,rfl,rfl,Hf,Hl,Hc.out⟩
    case measure=>simp [intOf];omega
  ·have Hi:b=a:=by omega
   subst Hi;have Hj:=qI (Kc hb (λt ht=>iY.1 (Hf.out t ht)) λt h1 h2 h3=>Int.not_lt.2 (Hg.out t h1 h2) (iY.2 h3))
   by_cases hn:b<hs.length
   ·obtain ⟨bb,o,cv,gvv,rfl,He⟩:=HR.out (by omega);obtain ⟨x0,x1,x2,x3⟩:=((He.below Hb).2 b hn).1;clear He Hb;have HF:=qI (r7 (hd hs b).pod.nm (hd hs b).pod.pr (cv b) (gvv b) nm wr)
    by_cases hz:aU (hd hs b).pod.nm nm=0
    ·have HX:Hid (cA hs nm=true):=List.any_eq_true.2 ⟨hd hs b,Sv.kb hn,Qc (yz.1 hz)⟩;rw [hz] at HF
     go_wp2_with fail
     refine HF.out.mono ?_;rintro e w1 ⟨rfl,Ha⟩;have Hc:=qI (HB.out.trans (Ha.mono HB.out.size));clear Ha
     go_wp2
     go_ret2;exact ⟨by rw [Hj.out,HX.out];rfl,Hc.out⟩
    ·have HX:Hid (cA hs nm=false):=yy Hh.out Hf.out (λt h1 h2=>Int.not_lt.2 (Hg.out t h1 h2)) λ_ e=>hz (yz.2 e);have Hp:(aU (hd hs b).pod.nm nm == 0)=false:=by simpa using hz
     generalize aU (hd hs b).pod.nm nm=z at *
     go_wp2_with fail
     refine HF.out.mono ?_;rintro e w1 ⟨rfl,Ha⟩;have Hc:=qI (HB.out.trans (Ha.mono HB.out.size));clear Ha
     go_wp2
     go_ret2;exact ⟨by rw [Hj.out,HX.out];rfl,Hc.out⟩
   ·have HX:Hid (cA hs nm=false):=yy Hh.out Hf.out (λt h1 h2=>Int.not_lt.2 (Hg.out t h1 h2)) λh=>absurd h hn
    go_wp2
    go_ret2;exact ⟨by rw [Hj.out,HX.out];rfl,HB.out⟩
theorem yA (v:Value) (hs:List Hd) (nm:ByteArray) (w:World) (h:aJ w v hs) (hl:hs.length<=100) (hri:Ol.gN hs):Calls prog 49 #[v,.string nm] w λe w'=>e=.returned (.tuple #[.int .i64 (Ol.b8 hs nm:Nat),.bool (cA hs nm)])/\Below w.heap.size w w':=by
 have HS:=qI (Kd v hs nm w h hl hri);obtain ⟨ao,c,rfl,hm,_⟩:=h;generalize Ol.b8 hs nm=a at *;generalize cA hs nm=b at *
 go_enter func49,ntmps49
 go_wp2_with fail
 refine HS.out.mono ?_;rintro e w1 ⟨rfl,Ha⟩;have Hb:=qI Ha;clear Ha
 go_wp2
 go_ret2;exact ⟨rfl,Hb.out⟩
end
section
open RowKit Go.Maps
structure Ke (w w':World) (Bd Bm:Nat) (sn sk:Sd) (sv:Value) (n:Nat) (xs:List RV) (p c:ByteArray) (l:Int) (d:Bool) (f:Nat):Prop where
 disk:aC w' Bd sn sk sv (aQ l d) (dS l d)
 out:bd Bd Bm w w'
 no:f≠0->aZ w' Bm n xs
 yes:f=0->aZ w' Bm n (xs.filter λx=>!decide (x.pod=p/\x.cont=c))
def lz (l:Int) (d has:Bool):Nat:=if bo l d≠0 then bo l d else if has=true then 0 else 6
theorem Kf (Be Bd Bm n:Nat) (sn sk:Sd) (sv:Value) (xs:List RV) (p c:ByteArray) (l:Int) (d:Bool) (w:World) (he:et w Be Bd Bm) (hm:aZ w Bm n xs) (hd:aC w Bd sn sk sv l d) (hl:-9223372036854775808<=l/\l<=9223372036854775807) (hp:p.size<=7000) (hc:c.size<=7000) :
  Calls prog 104 #[.pointer (some ⟨Be,0,none⟩),.string p,.string c] w λe w'=>e=.returned (au ((lz l d (xs.any λy=>decide (y.pod=p/\y.cont=c)):Nat):Int))/\Ke w w' Bd Bm sn sk sv n xs p c l d (lz l d (xs.any λy=>decide (y.pod=p/\y.cont=c))):=by
 obtain ⟨HF,HG,Hx⟩:=mY he hm hd;obtain ⟨c0,c1⟩:=he.cells;have Hr:=qI hm;have Hu:=qI (mv Bd sn sk sv l d w hd hl);have Hq:=qI he;have HA:=hm.lt;have HI:=hd.lt;have hel:=he.lt;clear he hm hd
 go_enter func104,ntmps104
 go_wp2_with fail
 refine Hu.out.mono ?_;rintro e w2 ⟨rfl,Ht,Hf⟩;have Hp:=qI Ht;have Hm:=qI (bd.of_grown (B1:=Bd) (B2:=Bm) Hf.1 (.inl rfl));have Hj:=qI (Hr.out.block (Hf.1.block Bm HA (by simpa using Hx.symm)));have Hy:=Hq.out.block (Hf.1.block Be hel (by simpa using HF));obtain ⟨g0,g1⟩:=Hy.cells;have Hl:w2.heap.size=w.heap.size:=Hf.2;clear Ht Hf Hy Hu Hr Hq c0 c1
 by_cases hse:bo l d=0
 ·have Hc:=qI (show lz l d (xs.any λy=>decide (y.pod=p/\y.cont=c))=if (xs.any λy=>decide (y.pod=p/\y.cont=c))=true then 0 else 6 from by unfold lz;rw [if_neg (by rw [hse];decide)]);rw [hse,show au ((0:Nat):Int)=.nilIface from rfl];obtain ⟨y,Hh⟩:=Hj.out.look2 p c hp hc;unfold fZ at Hh;have Ha:=(Q0 w2.heap.size w2).alloc (lR) (.cells #[.string p,.string c] 166);have Ho:=Ha.alloc Ha.size (jF);have Hz:=Ha.alloc Ha.size (bT y);have Hg:=Hh ((w2.alloc (.cells #[.string p,.string c] 166)).drew) ((a6 Ha).block Bm (by omega));have Hk:=Hh (((w2.alloc (.cells #[.string p,.string c] 166)).alloc (jF)).drew) ((a6 Ho).block Bm (by omega));have k1:=((a6 Ha).cell (p:=⟨Be,1,none⟩) (by show Be<_;omega)).trans g1;have k2:=((a6 Ho).cell (p:=⟨Be,1,none⟩) (by show Be<_;omega)).trans g1;have Hi:=qI (a6 Hz);have HN:=qI (show (((w2.alloc (.cells #[.string p,.string c] 166)).alloc (jF)).drew).cell? ⟨w2.heap.size,0,none⟩=some (.string p)/\(((w2.alloc (.cells #[.string p,.string c] 166)).alloc (jF)).drew).cell? ⟨w2.heap.size,1,none⟩=some (.string c) from ⟨by simp,by simp⟩);have Hs:=qI (show (((w2.alloc (.cells #[.string p,.string c] 166)).alloc (bT y)).drew).cell? ⟨w2.heap.size,0,none⟩=some (.string p)/\(((w2.alloc (.cells #[.string p,.string c] 166)).alloc (bT y)).drew).cell? ⟨w2.heap.size,1,none⟩=some (.string c) from ⟨by simp,by simp⟩);rw [Hl] at HN Hs;obtain ⟨n0,n1⟩:=HN.out;clear Ha Ho Hz Hh;unfold RV.val at Hg Hk
  rcases two (xs.any λy=>decide (y.pod=p/\y.cont=c)) with hh|hh
  ·rw [hh] at Hg Hk;have HH:=qI hh;clear hh
   go_wp2_with fail
   go_region
   all_goals
    generalize hW5:((w2.alloc (.cells #[.string p,.string c] 166)).alloc (bT y)).drew=W5 at *;have He:=a6 Hi.out;obtain ⟨m0,m1⟩:=Hs.out;have m0':W5.drew.cell? ⟨w.heap.size,0,none⟩=some (.string p):=m0;have m1':W5.drew.cell? ⟨w.heap.size,1,none⟩=some (.string c):=m1;have k5:W5.drew.cell? ⟨Be,1,none⟩=some (.map (some Bm)):=(He.cell (p:=⟨Be,1,none⟩) (by show Be<_;omega)).trans g1;obtain ⟨w7,Hn,Hv,Hb,HC⟩:=(Hj.out.block (He.block Bm (by omega))).drop p c hp hc 0;have HB:=qI Hv;have HD:=qI (show aC w7 Bd sn sk sv (aQ l d) (dS l d) from (Hb.block Bd (by have:=He.size;omega) λe=>Hx (Ql e)).trans ((He.block Bd (by omega)).trans Hp.out));have HE:=qI ((Hm.out.trans (bd.of_below He)).trans (bd.of_grown Hb (.inr rfl)));unfold fZ at Hn;clear He Hv Hb hW5 Hg Hk k1 k2 n0 n1 m0 m1
    go_wp2_with fail
    go_region
    all_goals
     go_wp2
     go_ret;exact ⟨by rw [Hc.out,if_pos HH.out];rfl,⟨HD.out,HE.out,λh0=>absurd (by rw [Hc.out,if_pos HH.out]) h0,λ_=>HB.out⟩⟩
  ·rw [hh] at Hg Hk;have HH:=qI hh;clear hh
   go_wp2_with fail
   go_region
   all_goals
    generalize ((w2.alloc (.cells #[.string p,.string c] 166)).alloc (bT y)).drew=W5 at *
    go_wp2
    go_ret;exact ⟨by rw [Hc.out,if_neg (by rw [HH.out];decide)];rfl,⟨(Hi.out.block Bd (by omega)).trans Hp.out,Hm.out.trans (bd.of_below Hi.out),λ_=>Hj.out.block (Hi.out.block Bm (by omega)),λh0=>by rw [Hc.out,if_neg (by rw [HH.out];decide)] at h0;cases h0⟩⟩
 ·have Hw:=yo hse;have Hc:=qI (show lz l d (xs.any λy=>decide (y.pod=p/\y.cont=c))=11 from by unfold lz;rw [if_pos hse];exact Hw);rw [Hw,show au ((11:Nat):Int)=.iface 121 (.int .i64 11) from rfl]
  go_wp2
  go_ret;exact ⟨by rw [Hc.out];rfl,⟨Hp.out,Hm.out,λ_=>Hj.out,λh0=>by rw [Hc.out] at h0;cases h0⟩⟩
end
section
open RowKit Shelf
open Qos (Nd Ct Pd nd ct pd af)
open Sv (Gv Hd gv hd aB)
def iq (r:Rn):ByteArray × ByteArray:=(r.pod,r.cont)
def ir (h:Hd) (i:Nat):Rn:=⟨h.pod.nm,(ct h.pod.cs i).nm,((gv h.gs i).cp:Int),(gv h.gs i).dv⟩
def ap (hs:List Hd):List Rn:=hs.flatMap λh=>(List.range h.gs.length).map (ir h)
theorem yB {hs:List Hd} (h:aB hs=0):((ap hs).map iq).Nodup:=by
 obtain ⟨_,h2,h3⟩:=Ol.bO.1 h;unfold List.Nodup;rw [List.pairwise_map];unfold ap;rw [List.pairwise_flatMap];constructor
 ·intro x hx;obtain ⟨hp,hl,_⟩:=h2 x hx;rw [List.pairwise_map,List.pairwise_iff_getElem];intro i j hi hj Hb e;simp only [List.getElem_range] at e;rw [List.length_range] at hj;have e2:(ct x.pod.cs i).nm=(ct x.pod.cs j).nm:=congrArg Prod.snd e;exact Ol.GF hp (by omega) Hb e2
 ·refine h3.imp ?_;intro a b Ha x hx y hy e;obtain ⟨i,_,rfl⟩:=Qk.1 hx;obtain ⟨j,_,rfl⟩:=Qk.1 hy;have e1:a.pod.nm=b.pod.nm:=congrArg Prod.fst e;rw [e1] at Ha;exact Ol.mB _ Ha
theorem sd {hs:List Hd} (h:aB hs=0):(ap hs).length<=36:=by
 obtain ⟨h1,h2,_⟩:=Ol.bO.1 h;have key:∀ l:List Hd,(∀ x∈l,x.gs.length<=3)->(ap l).length<=3*l.length:=by
  intro l
  induction l with
  | nil=>intro _;simp [ap]
  | cons a l ih=>
   intro hl;have h1:=ih λx hx=>hl x (Qv _ hx)
   have h2:=hl a (by simp);unfold ap at *;rw [List.flatMap_cons,Q2,Q9,List.length_range,Qg];omega
 have:=key hs λx hx=>by
  obtain ⟨hp,hl,_⟩:=h2 x hx
  have:=(Sv.fD hp).2.2.1
  omega
 omega
theorem yC {hs:List Hd} (h:aB hs=0):∀ r∈ap hs,r.pod.size<=7000/\r.cont.size<=7000/\r.devs.length<=16:=by
 obtain ⟨_,h2,_⟩:=Ol.bO.1 h;intro r hr;obtain ⟨x,hx,hr⟩:=List.mem_flatMap.1 hr;obtain ⟨i,hi,rfl⟩:=Qk.1 hr;rw [List.mem_range] at hi;obtain ⟨hp,hl,hg⟩:=h2 x hx;have ho:=Sv.fD hp;have s1:=(Sv.g9 ho.1).2;have s2:=(Sv.g9 (ho.2.2.2 (ct x.pod.cs i) (Ost.dX _ _ _ (by omega))).1).2;have s3:(gv x.gs i).dv.length<=16:=Ol.ry (Dvs.cR hg i hi);have e1:x.pod.nm.data.toList.length=x.pod.nm.size:=by simp
 have e2:(ct x.pod.cs i).nm.data.toList.length=(ct x.pod.cs i).nm.size:=by simp
 refine ⟨?_,?_,s3⟩
 ·show x.pod.nm.size<=7000
  omega
 ·show (ct x.pod.cs i).nm.size<=7000
  omega
def NP (W:World) (Be Bd Bm n:Nat) (rs:List Rn):Prop:=et W Be Bd Bm/\∃ xs,aZ W Bm n xs/\(∀ x∈xs,fk W x/\x.dn<=1000)/\∀ r,r∈xs.map (aj W)↔r∈rs
theorem lA {W W':World} {xs:List RV} (h:∀ x∈xs,fk W x/\x.dn<=1000) (hk:cE W W'):(∀ x∈xs,fk W' x/\x.dn<=1000)/\xs.map (aj W')=xs.map (aj W):=
 ⟨λx hx=>⟨((h x hx).1.kept hk).1,(h x hx).2⟩,List.map_congr_left λx hx=>by unfold aj;rw [((h x hx).1.kept hk).2]⟩
theorem yD {xs:List RV} {W:World} (h:(xs.map RV.key).Nodup):((xs.map (aj W)).map iq).Nodup:=by
 rw [List.map_map];unfold List.Nodup at *;rw [List.pairwise_map] at *;refine h.imp λ{a b} hab e=>hab ?_
 have e1:a.pod=b.pod:=congrArg Prod.fst e;have e2:a.cont=b.cont:=congrArg Prod.snd e;unfold RV.key;rw [e1,e2]
theorem m5 {W:World} {B:Nat} {s:Dk} (h:bf W B s) (hc:Calm s):aC W B s.n s.k (.slice none 0 0) (-1) false:=by
 obtain ⟨_,v,h1,h2⟩:=h;rw [hc.2.2] at h2;rw [hc.1,hc.2.1,h2] at h1;exact h1
theorem yE {W:World} {B:Nat} {s:Dk} (h:aC W B s.n s.k (.slice none 0 0) (-1) false) (hc:Calm s):bf W B s:=by
 refine ⟨by rw [hc.2.1];exact ⟨by decide,by decide⟩,.slice none 0 0,?_,?_⟩
 ·rw [hc.1,hc.2.1];exact h
 ·rw [hc.2.2]
theorem se {W:World} {y:RV} {xs:List Int} (h:bt W (.slice y.da y.dn y.dc) xs):aS W y/\aG W y=xs/\y.dn=xs.length:=by
 obtain ⟨ao,c,hv,hm,hr⟩:=h;injection hv with e1 e2 e3
 have key:∀ k,k<xs.length->iX W y k=xs.getD k 0:=λk hk=>by
  obtain ⟨b,o,ha,Hb,Ha⟩:=hr (by omega);unfold iX;rw [e1,ha];simp only [Addr.add_lit];rw [Ha k hk]
 refine ⟨λh0=>?_,?_,e2⟩
 ·obtain ⟨b,o,ha,Hb,Ha⟩:=hr (by omega);exact ⟨b,o,by rw [e1];exact ha,Hb,λk hk=>by rw [key k (by omega)];exact Ha k (by omega)⟩
 ·unfold aG;rw [e2];apply List.ext_getElem
  ·simp
  ·intro i h1 h2
   simp at h1 ⊢
   rw [key i h1]
   simp [h1]
end
