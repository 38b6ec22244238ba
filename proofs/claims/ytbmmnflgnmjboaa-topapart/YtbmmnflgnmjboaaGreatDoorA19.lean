import Derived.Test.YtbmmnflgnmjboaaGreatDoorA18
import Derived.Test.YtbmmnflgnmjboaaGreatDoorA14
set_option maxRecDepth 100000
set_option maxHeartbeats 16000000
namespace Go.Proofs.YtbmmnflgnmjboaaGreatDoor
section
open RowKit Go.Maps
theorem aG.notInt {w:World} {B:Nat} {n k:Sd} {v:Value} {l:Int} {d:Bool} (h:aG w B n k v l d):∀ (arr:Array Value) (z:Nat × Nat),w.heap[B]?≠some (Obj.cells arr 3 z):=λarr z e=>by
 rw [show w.heap[B]?=_ from h] at e;cases e
theorem mT {w:World} {Be Bd Bm n:Nat} {xs:List RV} {sn sk:Sd} {sv:Value} {l:Int} {d:Bool} (he:ex w Be Bd Bm) (hm:aZ w Bm n xs) (hd:aG w Bd sn sk sv l d):Be≠Bd/\Be≠Bm/\Bd≠Bm:=by
 obtain ⟨es,clock,Ha⟩:=hm.isMap;refine ⟨λe=>?_,λe=>?_,λe=>?_⟩
 ·subst e;have h1:=he;unfold ex at h1;rw [show w.heap[Be]?=_ from hd] at h1;cases h1
 ·subst e;have h1:=he;unfold ex at h1;rw [Ha] at h1;cases h1
 ·subst e;have h1:=hd;unfold aG at h1;rw [Ha] at h1;cases h1
structure J6 (w w':World) (Bd Bm:Nat) (sn sk:Sd) (sv:Value) (n:Nat) (xs:List RV) (x:RV) (l:Int) (d:Bool) (f:Nat):Prop where
 disk:aG w' Bd sn sk sv (aR l d) (dS l d)
 out:bd Bd Bm w w'
 no:f≠0->aZ w' Bm n xs
 yes:f=0->∃ a c,aZ w' Bm (n+1) ({ x with da:=a,dc:=c } :: xs)/\ew w' { x with da:=a,dc:=c }/\aH w' { x with da:=a,dc:=c }=aH w x
def ls (l:Int) (d has:Bool):Nat:=if bw l d≠0 then bw l d else if has=true then 5 else 0
theorem yq {l:Int} {d:Bool} (h:bw l d≠0):bw l d=11:=by
 unfold bw at *
 split
 ·rfl
 ·rename_i hc;rw [if_neg hc] at h;exact absurd rfl h
abbrev bW:=λ(x0:RV)=>(.cells #[.string x0.pod,.string x0.cont,.int .u64 x0.cpus,.slice x0.da x0.dn x0.dc] 111:Obj)
abbrev jI:=(.cells #[.string ⟨#[]⟩,.string ⟨#[]⟩,.int .u64 0,.slice none 0 0] 111:Obj)
abbrev yr:=λ(Be Bm y2:Nat) (x:RV) (w':World)=>w'.cell? ⟨Be,1,none⟩=some (.map (some Bm))/\(w'.cell? ⟨y2+1,0,none⟩=some (.string x.pod)/\w'.cell? ⟨y2+1,1,none⟩=some (.string x.cont))/\(w'.cell? ⟨y2,0,none⟩=some (.string x.pod)/\w'.cell? ⟨y2,1,none⟩=some (.string x.cont)/\w'.cell? ⟨y2,2,none⟩=some (.int .u64 x.cpus)/\w'.cell? ⟨y2,3,none⟩=some (.slice x.da x.dn x.dc))
theorem J7 (Be Bd Bm n:Nat) (sn sk:Sd) (sv:Value) (xs:List RV) (x:RV) (l:Int) (d:Bool) (w:World) (he:ex w Be Bd Bm) (hm:aZ w Bm n xs) (hd:aG w Bd sn sk sv l d) (hl:-9223372036854775808<=l/\l<=9223372036854775807) (hx:x.Short) (hdv:aS w x) (haw:ks Bd x) (hdn:x.dn<=1000) (hn:n<1000) :
  Calls Tryz.prog 105 #[.pointer (some ⟨Be,0,none⟩),.agg #[.string x.pod,.string x.cont,.int .u64 x.cpus,.slice x.da x.dn x.dc]] w λe w'=>e=.returned (ar ((ls l d (xs.any λy=>decide (y.pod=x.pod/\y.cont=x.cont)):Nat):Int))/\J6 w w' Bd Bm sn sk sv n xs x l d (ls l d (xs.any λy=>decide (y.pod=x.pod/\y.cont=x.cont))):=by
 obtain ⟨hj,H9,HX⟩:=mT he hm hd;have Hp:=(Q0 w.heap.size w).alloc (lR) (bW x);have HK:=he.block (Hp.block Be he.lt);obtain ⟨c0,c1⟩:=HK.cells;have hc:=qI (hm.block (Hp.block Bm hm.lt));have H8:aG (w.alloc (bW x)) Bd sn sk sv l d:=(Hp.block Bd hd.lt).trans hd;have ha:=qI (mn Bd sn sk sv l d _ H8 hl);have hi:=qI (bo.made w x);obtain ⟨H4,H1⟩:=hdv.below Hp (λ_ _ _ h=>h);have hf:=qI H4;have H7:=qI H1;have hk:=qI Hp;have H3:=qI HK;have hp:=hm.lt;have hr:=hd.lt;have hel:=he.lt;clear he hm hd Hp HK H8 H4 H1
 go_enter Tryz.func105,Tryz.ntmps105
 go_wp2_with fail
 generalize hW1:w.alloc (bW x)=W1 at *;have HZ:W1.heap.size=w.heap.size+1:=by rw [<- hW1];simp
 clear hW1;refine ha.out.mono ?_;rintro e w2 ⟨rfl,H2,Hk⟩;have HI:=qI H2;have HG:=qI (bd.trans (bd.of_below hk.out) (bd.of_grown (B1:=Bd) (B2:=Bm) Hk.1 (.inl rfl)));have Hw:=qI (hc.out.block (Hk.1.block Bm (by omega) (by simpa using HX.symm)));have HO:=H3.out.block (Hk.1.block Be (by omega) (by simpa using hj));have ho:=qI HO;obtain ⟨g0,g1⟩:=HO.cells;have HQ:bo w2 w.heap.size x:=(Hk.1.block w.heap.size (by omega) (by intro e;cases e;omega)).trans hi.out;have hq:=qI HQ;obtain ⟨HD,Ht⟩:=rV (w':=w2) hf.out haw (λb hb hlt=>Hk.1.block b hlt (by simpa using hb)) (Nat.le_of_eq Hk.2.symm);have H5:=qI HD;have Hs:=qI (Ht.trans H7.out);have HY:w2.heap.size=w.heap.size+1:=by rw [Hk.2];exact HZ
 obtain ⟨r0,r1,r2,r3⟩:=HQ.cells;clear H2 Hk HO HQ ha hc hi H3 c0 c1 HD Ht hf H7
 by_cases hse:bw l d=0
 ·have Hj:=qI (show ls l d (xs.any λy=>decide (y.pod=x.pod/\y.cont=x.cont))=if (xs.any λy=>decide (y.pod=x.pod/\y.cont=x.cont))=true then 5 else 0 from by unfold ls;rw [if_neg (by rw [hse];decide)]);rw [hse,show ar ((0:Nat):Int)=.nilIface from rfl];obtain ⟨y,HJ⟩:=Hw.out.look2 x.pod x.cont hx.1 hx.2;unfold gj at HJ;have Hm:=(Q0 w2.heap.size w2).alloc (lR) (.cells #[.string x.pod,.string x.cont] 166);have HT:=Hm.alloc Hm.size (jI);have hg:=Hm.alloc Hm.size (bW y);have Hy:=HJ ((w2.alloc (.cells #[.string x.pod,.string x.cont] 166)).drew) ((a6 Hm).block Bm (by omega));have HC:=HJ (((w2.alloc (.cells #[.string x.pod,.string x.cont] 166)).alloc (jI)).drew) ((a6 HT).block Bm (by omega));have k1:=((a6 Hm).cell (p:=⟨Be,1,none⟩) (by show Be<_;omega)).trans g1;have k2:=((a6 HT).cell (p:=⟨Be,1,none⟩) (by show Be<_;omega)).trans g1;have HB:=qI (a6 hg);have HN:=qI (show (((w2.alloc (.cells #[.string x.pod,.string x.cont] 166)).alloc (jI)).drew).cell? ⟨w2.heap.size,0,none⟩=some (.string x.pod)/\(((w2.alloc (.cells #[.string x.pod,.string x.cont] 166)).alloc (jI)).drew).cell? ⟨w2.heap.size,1,none⟩=some (.string x.cont) from ⟨by simp,by simp⟩);have HF:=qI (show (((w2.alloc (.cells #[.string x.pod,.string x.cont] 166)).alloc (bW y)).drew).cell? ⟨w2.heap.size,0,none⟩=some (.string x.pod)/\(((w2.alloc (.cells #[.string x.pod,.string x.cont] 166)).alloc (bW y)).drew).cell? ⟨w2.heap.size,1,none⟩=some (.string x.cont) from ⟨by simp,by simp⟩);rw [HY] at HN HF;obtain ⟨n0,n1⟩:=HN.out;clear Hm HT hg HJ;unfold RV.val at Hy HC
  rcases two (xs.any λy=>decide (y.pod=x.pod/\y.cont=x.cont)) with hh|hh
  ·rw [hh] at Hy HC;have HH:=qI hh;clear hh
   go_wp2_with fail
   go_region
   all_goals
    generalize ((w2.alloc (.cells #[.string x.pod,.string x.cont] 166)).alloc (bW y)).drew=W5 at *
    go_wp2
    go_ret;exact ⟨by rw [Hj.out,if_pos HH.out];rfl,⟨(HB.out.block Bd (by omega)).trans HI.out,HG.out.trans (bd.of_below HB.out),λ_=>Hw.out.block (HB.out.block Bm (by omega)),λh0=>by rw [Hj.out,if_pos HH.out] at h0;cases h0⟩⟩
  ·rw [hh] at Hy HC;have HH:=qI hh;clear hh
   go_wp2_with fail
   go_region
   ·have Hf:=a6 HB.out;have He:=qI (show (((w2.alloc (.cells #[.string x.pod,.string x.cont] 166)).alloc (bW y)).drew.drew.cell? ⟨Be,1,none⟩=some (.map (some Bm))/\(((w2.alloc (.cells #[.string x.pod,.string x.cont] 166)).alloc (bW y)).drew.drew.cell? ⟨w.heap.size+1,0,none⟩=some (.string x.pod)/\((w2.alloc (.cells #[.string x.pod,.string x.cont] 166)).alloc (bW y)).drew.drew.cell? ⟨w.heap.size+1,1,none⟩=some (.string x.cont))/\(((w2.alloc (.cells #[.string x.pod,.string x.cont] 166)).alloc (bW y)).drew.drew.cell? ⟨w.heap.size,0,none⟩=some (.string x.pod)/\((w2.alloc (.cells #[.string x.pod,.string x.cont] 166)).alloc (bW y)).drew.drew.cell? ⟨w.heap.size,1,none⟩=some (.string x.cont)/\((w2.alloc (.cells #[.string x.pod,.string x.cont] 166)).alloc (bW y)).drew.drew.cell? ⟨w.heap.size,2,none⟩=some (.int .u64 x.cpus)/\((w2.alloc (.cells #[.string x.pod,.string x.cont] 166)).alloc (bW y)).drew.drew.cell? ⟨w.heap.size,3,none⟩=some (.slice x.da x.dn x.dc))) from ⟨(Hf.cell (p:=⟨Be,1,none⟩) (by show Be<_;omega)).trans g1,HF.out,⟨(Hf.cell (p:=⟨w.heap.size,0,none⟩) (by show w.heap.size<_;omega)).trans r0,(Hf.cell (p:=⟨w.heap.size,1,none⟩) (by show w.heap.size<_;omega)).trans r1,(Hf.cell (p:=⟨w.heap.size,2,none⟩) (by show w.heap.size<_;omega)).trans r2,(Hf.cell (p:=⟨w.heap.size,3,none⟩) (by show w.heap.size<_;omega)).trans r3⟩⟩);have Hi:=qI Hf;have Ho:w.heap.size+1+1<=((w2.alloc (.cells #[.string x.pod,.string x.cont] 166)).alloc (bW y)).drew.heap.size:=by simp [World.drew];omega
    clear Hf Hy HC k1 k2 n0 n1 HN HF;generalize ((w2.alloc (.cells #[.string x.pod,.string x.cont] 166)).alloc (bW y)).drew=W5 at *;have Hh:w.heap.size+1+1<=W5.drew.heap.size:=Ho;obtain ⟨Hq,Hg⟩:=H5.out.below Hi.out (λ_ _ _ h=>h);have Hn:=qI (Hg.trans Hs.out);have H0:=qI (rT x W5.drew Hq hdn);have HV:=qI (Hw.out.block (Hi.out.block Bm (by omega)));clear Hq Hg
    go_wp2_with fail
    refine wp_region_held_drew (S:=yr Be Bm w.heap.size x) (by kernel_rfl) He.out (λhHeld=>?_);refine tk 0 ?_;refine tk 1 ?_;refine tk 2 ?_;refine tk 3 ?_;refine tk 4 ?_;refine tk 5 ?_;refine rd 6 (λK hK=>?_);go_simp
    go_wp2_with fail
    refine H0.out.mono ?_;rintro e w6 ⟨a',c',rfl,Hr,Hu,_,Hb⟩;have Hc:=qI (show (w6.cell? ⟨Be,1,none⟩=some (.map (some Bm))/\(w6.cell? ⟨w.heap.size+1,0,none⟩=some (.string x.pod)/\w6.cell? ⟨w.heap.size+1,1,none⟩=some (.string x.cont))/\(w6.cell? ⟨w.heap.size,0,none⟩=some (.string x.pod)/\w6.cell? ⟨w.heap.size,1,none⟩=some (.string x.cont)/\w6.cell? ⟨w.heap.size,2,none⟩=some (.int .u64 x.cpus)/\w6.cell? ⟨w.heap.size,3,none⟩=some (.slice x.da x.dn x.dc))) from ⟨(Hb.cell (p:=⟨Be,1,none⟩) (by show Be<_;omega)).trans He.out.1,⟨(Hb.cell (p:=⟨w.heap.size+1,0,none⟩) (by show w.heap.size+1<_;omega)).trans He.out.2.1.1,(Hb.cell (p:=⟨w.heap.size+1,1,none⟩) (by show w.heap.size+1<_;omega)).trans He.out.2.1.2⟩,⟨(Hb.cell (p:=⟨w.heap.size,0,none⟩) (by show w.heap.size<_;omega)).trans He.out.2.2.1,(Hb.cell (p:=⟨w.heap.size,1,none⟩) (by show w.heap.size<_;omega)).trans He.out.2.2.2.1,(Hb.cell (p:=⟨w.heap.size,2,none⟩) (by show w.heap.size<_;omega)).trans He.out.2.2.2.2.1,(Hb.cell (p:=⟨w.heap.size,3,none⟩) (by show w.heap.size<_;omega)).trans He.out.2.2.2.2.2⟩⟩);have Hv:=qI (HV.out.block (Hb.block Bm (by omega)));have HP:=qI Hr;have HL:=qI (Hu.trans Hn.out);have Hz:=qI (Hi.out.trans (Hb.mono Hi.out.size));have HU:w.heap.size+1+1<=w6.heap.size:=Q5 Hh Hb.size;clear Hr Hu Hb
    go_wp2
    refine hK.out _ _ Hc.out (λhHeld=>?_);clear hK K;refine rd 7 (λK hK=>?_);rw [if_pos (by rfl)];refine yo _ _ _ _ rfl Bm n xs { x with da:=a',dc:=c' } rfl rfl rfl Hv.out hx hn HH.out ?_;intro w7 Hx Ha HW;have HM:=qI (show (w7.cell? ⟨Be,1,none⟩=some (.map (some Bm))/\(w7.cell? ⟨w.heap.size+1,0,none⟩=some (.string x.pod)/\w7.cell? ⟨w.heap.size+1,1,none⟩=some (.string x.cont))/\(w7.cell? ⟨w.heap.size,0,none⟩=some (.string x.pod)/\w7.cell? ⟨w.heap.size,1,none⟩=some (.string x.cont)/\w7.cell? ⟨w.heap.size,2,none⟩=some (.int .u64 x.cpus)/\w7.cell? ⟨w.heap.size,3,none⟩=some (.slice x.da x.dn x.dc))) from ⟨(fo Ha ⟨Be,1,none⟩ (by show Be<_;omega) (by simpa using H9)).trans Hc.out.1,⟨(fo Ha ⟨w.heap.size+1,0,none⟩ (by show w.heap.size+1<_;omega) (λe=>by have e2:w.heap.size+1=Bm:=Ql e;omega)).trans Hc.out.2.1.1,(fo Ha ⟨w.heap.size+1,1,none⟩ (by show w.heap.size+1<_;omega) (λe=>by have e2:w.heap.size+1=Bm:=Ql e;omega)).trans Hc.out.2.1.2⟩,⟨(fo Ha ⟨w.heap.size,0,none⟩ (by show w.heap.size<_;omega) (λe=>by have e2:w.heap.size=Bm:=Ql e;omega)).trans Hc.out.2.2.1,(fo Ha ⟨w.heap.size,1,none⟩ (by show w.heap.size<_;omega) (λe=>by have e2:w.heap.size=Bm:=Ql e;omega)).trans Hc.out.2.2.2.1,(fo Ha ⟨w.heap.size,2,none⟩ (by show w.heap.size<_;omega) (λe=>by have e2:w.heap.size=Bm:=Ql e;omega)).trans Hc.out.2.2.2.2.1,(fo Ha ⟨w.heap.size,3,none⟩ (by show w.heap.size<_;omega) (λe=>by have e2:w.heap.size=Bm:=Ql e;omega)).trans Hc.out.2.2.2.2.2⟩⟩);obtain ⟨HE,HA⟩:=HP.out.kept (cG.grown Ha Hv.out.notInt);have Hl:=qI (show ∃ a c,aZ w7 Bm (n+1) ({ x with da:=a,dc:=c } :: xs)/\ew w7 { x with da:=a,dc:=c }/\aH w7 { x with da:=a,dc:=c }=aH w x from ⟨a',c',Hx,HE,HA.trans HL.out⟩);have HR:=qI (show aG w7 Bd sn sk sv (aR l d) (dS l d) from (Ha.block Bd (by omega) (λe=>HX (Ql e))).trans ((Hz.out.block Bd (by omega)).trans HI.out));have HS:=qI ((HG.out.trans (bd.of_below Hz.out)).trans (bd.of_grown Ha (.inr rfl)));clear Hx Ha HE HA;refine hK.out _ _ HM.out (λhHeld=>?_);clear hK K;refine Qn (by kernel_rfl) ?_ _
    go_wp2
    go_ret;exact ⟨by rw [Hj.out,if_neg (by rw [HH.out];decide)];rfl,⟨HR.out,HS.out,λh0=>absurd (by rw [Hj.out,if_neg (by rw [HH.out];decide)]) h0,λ_=>Hl.out⟩⟩
   ·have Hf:=a6 HB.out;have He:=qI (show (((w2.alloc (.cells #[.string x.pod,.string x.cont] 166)).alloc (bW y)).drew.drew.cell? ⟨Be,1,none⟩=some (.map (some Bm))/\(((w2.alloc (.cells #[.string x.pod,.string x.cont] 166)).alloc (bW y)).drew.drew.cell? ⟨w.heap.size+1,0,none⟩=some (.string x.pod)/\((w2.alloc (.cells #[.string x.pod,.string x.cont] 166)).alloc (bW y)).drew.drew.cell? ⟨w.heap.size+1,1,none⟩=some (.string x.cont))/\(((w2.alloc (.cells #[.string x.pod,.string x.cont] 166)).alloc (bW y)).drew.drew.cell? ⟨w.heap.size,0,none⟩=some (.string x.pod)/\((w2.alloc (.cells #[.string x.pod,.string x.cont] 166)).alloc (bW y)).drew.drew.cell? ⟨w.heap.size,1,none⟩=some (.string x.cont)/\((w2.alloc (.cells #[.string x.pod,.string x.cont] 166)).alloc (bW y)).drew.drew.cell? ⟨w.heap.size,2,none⟩=some (.int .u64 x.cpus)/\((w2.alloc (.cells #[.string x.pod,.string x.cont] 166)).alloc (bW y)).drew.drew.cell? ⟨w.heap.size,3,none⟩=some (.slice x.da x.dn x.dc))) from ⟨(Hf.cell (p:=⟨Be,1,none⟩) (by show Be<_;omega)).trans g1,HF.out,⟨(Hf.cell (p:=⟨w.heap.size,0,none⟩) (by show w.heap.size<_;omega)).trans r0,(Hf.cell (p:=⟨w.heap.size,1,none⟩) (by show w.heap.size<_;omega)).trans r1,(Hf.cell (p:=⟨w.heap.size,2,none⟩) (by show w.heap.size<_;omega)).trans r2,(Hf.cell (p:=⟨w.heap.size,3,none⟩) (by show w.heap.size<_;omega)).trans r3⟩⟩);have Hi:=qI Hf;have Ho:w.heap.size+1+1<=((w2.alloc (.cells #[.string x.pod,.string x.cont] 166)).alloc (bW y)).drew.heap.size:=by simp [World.drew];omega
    clear Hf Hy HC k1 k2 n0 n1 HN HF;generalize ((w2.alloc (.cells #[.string x.pod,.string x.cont] 166)).alloc (bW y)).drew=W5 at *;have Hh:w.heap.size+1+1<=W5.drew.heap.size:=Ho;obtain ⟨Hq,Hg⟩:=H5.out.below Hi.out (λ_ _ _ h=>h);have Hn:=qI (Hg.trans Hs.out);have H0:=qI (rT x W5.drew Hq hdn);have HV:=qI (Hw.out.block (Hi.out.block Bm (by omega)));clear Hq Hg
    go_wp2_with fail
    refine wp_region_held_drew (S:=yr Be Bm w.heap.size x) (by kernel_rfl) He.out (λhHeld=>?_);refine tk 0 ?_;refine tk 1 ?_;refine tk 2 ?_;refine tk 3 ?_;refine tk 4 ?_;refine tk 5 ?_;refine rd 6 (λK hK=>?_);go_simp
    go_wp2_with fail
    refine H0.out.mono ?_;rintro e w6 ⟨a',c',rfl,Hr,Hu,_,Hb⟩;have Hc:=qI (show (w6.cell? ⟨Be,1,none⟩=some (.map (some Bm))/\(w6.cell? ⟨w.heap.size+1,0,none⟩=some (.string x.pod)/\w6.cell? ⟨w.heap.size+1,1,none⟩=some (.string x.cont))/\(w6.cell? ⟨w.heap.size,0,none⟩=some (.string x.pod)/\w6.cell? ⟨w.heap.size,1,none⟩=some (.string x.cont)/\w6.cell? ⟨w.heap.size,2,none⟩=some (.int .u64 x.cpus)/\w6.cell? ⟨w.heap.size,3,none⟩=some (.slice x.da x.dn x.dc))) from ⟨(Hb.cell (p:=⟨Be,1,none⟩) (by show Be<_;omega)).trans He.out.1,⟨(Hb.cell (p:=⟨w.heap.size+1,0,none⟩) (by show w.heap.size+1<_;omega)).trans He.out.2.1.1,(Hb.cell (p:=⟨w.heap.size+1,1,none⟩) (by show w.heap.size+1<_;omega)).trans He.out.2.1.2⟩,⟨(Hb.cell (p:=⟨w.heap.size,0,none⟩) (by show w.heap.size<_;omega)).trans He.out.2.2.1,(Hb.cell (p:=⟨w.heap.size,1,none⟩) (by show w.heap.size<_;omega)).trans He.out.2.2.2.1,(Hb.cell (p:=⟨w.heap.size,2,none⟩) (by show w.heap.size<_;omega)).trans He.out.2.2.2.2.1,(Hb.cell (p:=⟨w.heap.size,3,none⟩) (by show w.heap.size<_;omega)).trans He.out.2.2.2.2.2⟩⟩);have Hv:=qI (HV.out.block (Hb.block Bm (by omega)));have HP:=qI Hr;have HL:=qI (Hu.trans Hn.out);have Hz:=qI (Hi.out.trans (Hb.mono Hi.out.size));have HU:w.heap.size+1+1<=w6.heap.size:=Q5 Hh Hb.size;clear Hr Hu Hb
    go_wp2
    refine hK.out _ _ Hc.out (λhHeld=>?_);clear hK K;refine rd 7 (λK hK=>?_);rw [if_pos (by rfl)];refine yo _ _ _ _ rfl Bm n xs { x with da:=a',dc:=c' } rfl rfl rfl Hv.out hx hn HH.out ?_;intro w7 Hx Ha HW;have HM:=qI (show (w7.cell? ⟨Be,1,none⟩=some (.map (some Bm))/\(w7.cell? ⟨w.heap.size+1,0,none⟩=some (.string x.pod)/\w7.cell? ⟨w.heap.size+1,1,none⟩=some (.string x.cont))/\(w7.cell? ⟨w.heap.size,0,none⟩=some (.string x.pod)/\w7.cell? ⟨w.heap.size,1,none⟩=some (.string x.cont)/\w7.cell? ⟨w.heap.size,2,none⟩=some (.int .u64 x.cpus)/\w7.cell? ⟨w.heap.size,3,none⟩=some (.slice x.da x.dn x.dc))) from ⟨(fo Ha ⟨Be,1,none⟩ (by show Be<_;omega) (by simpa using H9)).trans Hc.out.1,⟨(fo Ha ⟨w.heap.size+1,0,none⟩ (by show w.heap.size+1<_;omega) (λe=>by have e2:w.heap.size+1=Bm:=Ql e;omega)).trans Hc.out.2.1.1,(fo Ha ⟨w.heap.size+1,1,none⟩ (by show w.heap.size+1<_;omega) (λe=>by have e2:w.heap.size+1=Bm:=Ql e;omega)).trans Hc.out.2.1.2⟩,⟨(fo Ha ⟨w.heap.size,0,none⟩ (by show w.heap.size<_;omega) (λe=>by have e2:w.heap.size=Bm:=Ql e;omega)).trans Hc.out.2.2.1,(fo Ha ⟨w.heap.size,1,none⟩ (by show w.heap.size<_;omega) (λe=>by have e2:w.heap.size=Bm:=Ql e;omega)).trans Hc.out.2.2.2.1,(fo Ha ⟨w.heap.size,2,none⟩ (by show w.heap.size<_;omega) (λe=>by have e2:w.heap.size=Bm:=Ql e;omega)).trans Hc.out.2.2.2.2.1,(fo Ha ⟨w.heap.size,3,none⟩ (by show w.heap.size<_;omega) (λe=>by have e2:w.heap.size=Bm:=Ql e;omega)).trans Hc.out.2.2.2.2.2⟩⟩);obtain ⟨HE,HA⟩:=HP.out.kept (cG.grown Ha Hv.out.notInt);have Hl:=qI (show ∃ a c,aZ w7 Bm (n+1) ({ x with da:=a,dc:=c } :: xs)/\ew w7 { x with da:=a,dc:=c }/\aH w7 { x with da:=a,dc:=c }=aH w x from ⟨a',c',Hx,HE,HA.trans HL.out⟩);have HR:=qI (show aG w7 Bd sn sk sv (aR l d) (dS l d) from (Ha.block Bd (by omega) (λe=>HX (Ql e))).trans ((Hz.out.block Bd (by omega)).trans HI.out));have HS:=qI ((HG.out.trans (bd.of_below Hz.out)).trans (bd.of_grown Ha (.inr rfl)));clear Hx Ha HE HA;refine hK.out _ _ HM.out (λhHeld=>?_);clear hK K;refine Qn (by kernel_rfl) ?_ _
    go_wp2
    go_ret;exact ⟨by rw [Hj.out,if_neg (by rw [HH.out];decide)];rfl,⟨HR.out,HS.out,λh0=>absurd (by rw [Hj.out,if_neg (by rw [HH.out];decide)]) h0,λ_=>Hl.out⟩⟩
 ·have H6:=yq hse;have Hj:=qI (show ls l d (xs.any λy=>decide (y.pod=x.pod/\y.cont=x.cont))=11 from by unfold ls;rw [if_pos hse];exact H6);rw [H6,show ar ((11:Nat):Int)=.iface 121 (.int .i64 11) from rfl]
  go_wp2
  go_ret;exact ⟨by rw [Hj.out];rfl,⟨HI.out,HG.out,λ_=>Hw.out,λh0=>by rw [Hj.out] at h0;cases h0⟩⟩
end
section
open RowKit Go.ChangeMaps Go.Maps Go.WideShapes
def StrKeys (D:DataW Unit):Prop:=∃ es,D=.map es/\∀ p∈es,∃ s:ByteArray,p.1=Lit.string s.data.toList
def eW (w:World) (B n:Nat) (f:ByteArray->Option Int):Prop:=
 ∃ D:DataW Unit,w.ownsMap Tryz.prog 9 (plainElem Tryz.prog 3) B n D/\StrKeys D/\∀ s:ByteArray,D.atKey (.string s.data.toList) (.lit (.int .i64 0))=.lit (.int .i64 ((f s).getD 0))/\Go.Maps.has D (.string s.data.toList)=(f s).isSome
theorem eW.block {w w':World} {B n:Nat} {f:ByteArray->Option Int} (h:eW w B n f) (hb:w'.heap[B]?=w.heap[B]?):eW w' B n f:=by
 obtain ⟨D,⟨es,clock,hh,r⟩,hk⟩:=h;exact ⟨D,⟨es,clock,hb.trans hh,r⟩,hk⟩
theorem eW.lt {w:World} {B n:Nat} {f:ByteArray->Option Int} (h:eW w B n f):B<w.heap.size:=by
 obtain ⟨D,ho,_⟩:=h;exact ho.lt
theorem eW.alloc {w:World} {B n:Nat} {f:ByteArray->Option Int} (h:eW w B n f) (o:Obj):eW (w.alloc o) B n f:=h.block (Below.heap_alloc _ _ _ h.lt)
theorem eW.made (w:World):eW (w.alloc (.map #[] 0)) w.heap.size 0 (λ_=>none):=
 ⟨.map [],World.ownsMap_made w _ _ _,⟨[],rfl,λ_ hp=>(List.not_mem_nil hp).elim⟩,λ_=>⟨rfl,rfl⟩⟩
theorem yt {D:DataW Unit} {k:ByteArray} {v:Int} (hS:StrKeys D):StrKeys (D.put (.string k.data.toList) (.lit (.int .i64 v))):=by
 obtain ⟨es,rfl,Ha⟩:=hS;refine ⟨putKey (.string k.data.toList) (.lit (.int .i64 v)) es,rfl,λp hp=>?_⟩;unfold putKey at hp
 rcases List.mem_cons.1 ((insert_perm _ _).mem_iff.1 hp) with rfl|hp
 ·exact ⟨k,rfl⟩
 ·exact Ha p (List.mem_filter.1 hp).1
theorem yv {w0:World} {B n0:Nat} {f:ByteArray->Option Int} {D:DataW Unit} {k:ByteArray} {v:Int} (h0:w0.ownsMap Tryz.prog 9 (plainElem Tryz.prog 3) B n0 D) (hD:∀ s:ByteArray,D.atKey (.string s.data.toList) (.lit (.int .i64 0))=.lit (.int .i64 ((f s).getD 0))/\Go.Maps.has D (.string s.data.toList)=(f s).isSome) (s:ByteArray) :
  (D.put (.string k.data.toList) (.lit (.int .i64 v))).atKey (.string s.data.toList) (.lit (.int .i64 0))=.lit (.int .i64 ((Ol.cK f k (some v) s).getD 0))/\Go.Maps.has (D.put (.string k.data.toList) (.lit (.int .i64 v))) (.string s.data.toList)=(Ol.cK f k (some v) s).isSome:=by
 unfold Ol.cK
 by_cases e:s=k
 ·subst e;have Hb:WideAt.IsKeyLit (Lit.string s.data.toList):=trivial;rw [Go.Maps.atKey_put_same h0.isMap Hb,Go.Maps.has_put_same h0.isMap Hb,if_pos rfl];exact ⟨rfl,rfl⟩
 ·have Ha:(Lit.string s.data.toList)≠(Lit.string k.data.toList):=by
   intro h;injection h with h
   exact e (rN h)
  rw [Go.Maps.atKey_put_other Ha,Go.Maps.has_put_other Ha,if_neg e];exact hD s
theorem yw {w w0:World} {B n n0:Nat} {f:ByteArray->Option Int} {D:DataW Unit} {k:ByteArray} {v:Int} (h0:w0.ownsMap Tryz.prog 9 (plainElem Tryz.prog 3) B n0 D) (hS:StrKeys D) (hD:∀ s:ByteArray,D.atKey (.string s.data.toList) (.lit (.int .i64 0))=.lit (.int .i64 ((f s).getD 0))/\Go.Maps.has D (.string s.data.toList)=(f s).isSome)
  (ho:w.ownsMap Tryz.prog 9 (plainElem Tryz.prog 3) B n (D.put (.string k.data.toList) (.lit (.int .i64 v)))):eW w B n (Ol.cK f k (some v)):=⟨_,ho,yt hS,yv h0 hD⟩
theorem J8 {w w0:World} {B n n0:Nat} {f:ByteArray->Option Int} {D:DataW Unit} {k:ByteArray} (h0:w0.ownsMap Tryz.prog 9 (plainElem Tryz.prog 3) B n0 D) (hS:StrKeys D) (hD:∀ s:ByteArray,D.atKey (.string s.data.toList) (.lit (.int .i64 0))=.lit (.int .i64 ((f s).getD 0))/\Go.Maps.has D (.string s.data.toList)=(f s).isSome)
  (ho:w.ownsMap Tryz.prog 9 (plainElem Tryz.prog 3) B n (D.del (.string k.data.toList))):eW w B n (Ol.cK f k none):=by
 refine ⟨_,ho,?_,λs=>?_⟩
 ·obtain ⟨es,rfl,Hb⟩:=hS;refine ⟨delKey (.string k.data.toList) es,rfl,λp hp=>?_⟩;unfold delKey at hp;exact Hb p (List.mem_filter.1 hp).1
 ·unfold Ol.cK
  by_cases e:s=k
  ·subst e;have Hc:WideAt.IsKeyLit (Lit.string s.data.toList):=trivial;rw [Go.Maps.atKey_del_same,Go.Maps.has_del_same,if_pos rfl];exact ⟨rfl,rfl⟩
  ·have Ha:(Lit.string s.data.toList)≠(Lit.string k.data.toList):=by
    intro h;injection h with h
    exact e (rN h)
   rw [Go.Maps.atKey_del_other Ha,Go.Maps.has_del_other Ha,if_neg e];exact hD s
theorem J9 {f:ByteArray->Option Int} {D:DataW Unit} (hS:StrKeys D) (hD:∀ s:ByteArray,D.atKey (.string s.data.toList) (.lit (.int .i64 0))=.lit (.int .i64 ((f s).getD 0))/\Go.Maps.has D (.string s.data.toList)=(f s).isSome):Go.Maps.size D=0↔∀ k,f k=none:=by
 obtain ⟨es,rfl,Ha⟩:=hS;rw [Go.Maps.size_eq,List.length_eq_zero_iff];constructor
 ·rintro rfl k
  have:=(hD k).2
  rw [Go.Maps.has_eq] at this;cases hf:f k with
  | none=>rfl
  | some v=>rw [hf] at this;cases this
 ·intro h;cases es with
  | nil=>rfl
  | cons p l=>
   obtain ⟨s,hs⟩:=Ha p (by simp);have h1:=(hD s).2;rw [h s,Go.Maps.has_eq,List.any_cons,hs,WideAt.sameKey_self (show WideAt.IsKeyLit (Lit.string s.data.toList) from trivial)] at h1;cases h1
end
section
open RowKit Shelf
open Qos (Nd Ct Pd nd ct pd)
open Sv (Gv Hd gv hd)
attribute [local go_sem] Oper.semAt_some
abbrev gq:=λ(x0:ByteArray) (x1 x2 x3 x4:Int) (x5:Option Addr) (x6 x7:Nat)=>(.cells #[.string x0,.int .i64 x1,.int .i64 x2,.int .i64 x3,.int .i64 x4,.slice x5 x6 x7] 63:Obj)
abbrev mU:=(.cells #[.string ⟨#[]⟩,.int .i64 0,.slice none 0 0] 47:Obj)
theorem yx (nm:ByteArray) (pr:Int) (cs:List Ct) (v:Value) (w:World) (h:aD w v cs) (hl:cs.length<=1000) (hdl:∀ k,k<cs.length->(ct cs k).ds.length<=1000):Calls Tryz.prog 41 #[.agg #[.string nm,.int .i64 pr,v]] w λe w'=>∃ ao c,e=.returned (.agg #[.string nm,.int .i64 pr,.slice ao cs.length c])/\aD (fresh w.heap.size w') (.slice ao cs.length c) cs/\Below w.heap.size w w':=by
 have HV:=qI hdl;have HH:=qI (((Q0 w.heap.size w).alloc (lR) (.cells #[.string nm,.int .i64 pr,v] 47)).alloc (by simp) (mU));have HN:=qI (Iw v cs _ w h (az.of_below HH.out) hl);obtain ⟨ca,cc,rfl,H5,_⟩:=h;clear H5 hdl;have sz:((w.alloc (.cells #[.string nm,.int .i64 pr,.slice ca cs.length cc] 47)).alloc (mU)).heap.size=w.heap.size+2:=by simp
 have HW:=qI (bg (aF w (.cells #[.string nm,.int .i64 pr,.slice ca cs.length cc] 47) rfl) (mU));have HP:=qI (aF (w.alloc (.cells #[.string nm,.int .i64 pr,.slice ca cs.length cc] 47)) (mU) (n:=w.heap.size+1) (by simp))
 go_enter Tryz.func41,Tryz.ntmps41
 go_wp2_with fail
 generalize ((w.alloc (.cells #[.string nm,.int .i64 pr,.slice ca cs.length cc] 47)).alloc (mU))=U at *;refine HN.out.mono ?_;rintro e W1 ⟨ao,c,rfl,Hp,hg,Hf⟩;have Hq:=qI Hp;obtain ⟨g,dv,HF⟩:∃ (g:Nat) (dv:Nat->Value),0<cs.length->ao=some ⟨g,0,none⟩/\di W1 U.heap.size g 6 cs.length (λk=>ci (ct cs k) (dv k))/\∀ k,k<cs.length->bf w (dv k) (ct cs k).ds:=by
  by_cases h0:0<cs.length
  ·obtain ⟨g,dv,hh⟩:=hg h0;exact ⟨g,dv,λ_=>hh⟩
  ·exact ⟨0,λ_=>.nilIface,λh=>absurd h h0⟩
 have Hs:=(Hf.block w.heap.size (by omega)).trans HW.out;have HD:=(Hf.block (w.heap.size+1) (by omega)).trans HP.out;have z2:W1.cell? ⟨w.heap.size,2,none⟩=some (.slice ca cs.length cc):=ad Hs 2;have fz2:=aq Hs 2;have HM:Hid ((W1.setCell ⟨w.heap.size,2,none⟩ (.slice ao cs.length c)).heap[w.heap.size]?=some (.cells #[.string nm,.int .i64 pr,.slice ao cs.length c] 47 (0,0))):=aj Hs 2 _;have H6:Hid ((W1.setCell ⟨w.heap.size,2,none⟩ (.slice ao cs.length c)).heap[w.heap.size+1]?=some (.cells #[.string ⟨#[]⟩,.int .i64 0,.slice none 0 0] 47 (0,0))):=(set_other (by omega)).trans HD;have HL:=qI ((HH.out.trans (Hf.mono (by omega))).setCell (p:=⟨w.heap.size,2,none⟩) (lR) (.slice ao cs.length c));have HG:Hid (0<cs.length->ao=some ⟨g,0,none⟩/\di (W1.setCell ⟨w.heap.size,2,none⟩ (.slice ao cs.length c)) U.heap.size g 6 cs.length (λk=>ci (ct cs k) (dv k))/\∀ k,k<cs.length->bf w (dv k) (ct cs k).ds):=λh0=>by
  obtain ⟨q1,q2,q3⟩:=HF h0;exact ⟨q1,q2.keep (set_other (by have:=q2.base;omega)) (by simp),q3⟩
 have H9:w.heap.size+2<=(W1.setCell ⟨w.heap.size,2,none⟩ (.slice ao cs.length c)).heap.size:=by have:=Hf.size;simp;omega
 have zz:(W1.setCell ⟨w.heap.size,2,none⟩ (.slice ao cs.length c)).cell? ⟨w.heap.size,2,none⟩=some (.slice ao cs.length c):=ad HM.out 2;have HU:=qI Hf;have hf:Hid (∀ j,j≠w.heap.size->(W1.setCell ⟨w.heap.size,2,none⟩ (.slice ao cs.length c)).heap[j]?=W1.heap[j]?):=λj hj=>set_other hj
 clear Hp hg HF Hf HN Hs HD
 go_wp2_with fail
 generalize hW2:W1.setCell ⟨w.heap.size,2,none⟩ (.slice ao cs.length c)=W2 at *;clear hW2 z2 fz2
 go_loopw [12,3] (λi i3 wr=>∃ (k:Nat) (dw:Nat->Value),k<=cs.length/\i=.int .i64 k/\Apart (λj=>U.heap.size<=j) W2 wr/\Hid (0<cs.length->di wr U.heap.size g 6 cs.length (λj=>ci (ct cs j) (dw j)))/\Hid (∀ j,j<k->bf (ah (λb=>b<U.heap.size\/b=g) wr) (dw j) (ct cs j).ds)/\Hid (∀ j,k<=j->dw j=dv j)) (λi _ _=>cs.length - (intOf i).toNat)
 case atStart=>exact ⟨0,dv,by omega,rfl,Apart.refl _ _,λh=>(HG.out h).2.1,λj hj=>by omega,λj _=>rfl⟩
 case round=>
  obtain ⟨k,dw,hk,rfl,Ht,Hj,Hg,Hh⟩:=hrel;have Hz:=qI Ht;have hc:=Ht.size;have Hl:=(Ht.block w.heap.size (by omega) (by omega)).trans HM.out;have He:=(Ht.block (w.heap.size+1) (by omega) (by omega)).trans H6.out;have H0:=qI Hl;have HZ:=qI He;have hn:Hid (Below U.heap.size U wr->True):=λ_=>trivial
  by_cases hlt:k<cs.length
  ·obtain ⟨rfl,_,Hv⟩:=HG.out (by omega);have Hc:=Hj.out (by omega);have Hi:=λj hj=>Hc.cell k hlt j hj
   rw [Hh.out k (lR)] at Hi;have x0:wr.cell? ⟨g,k*6,none⟩=some (.string (ct cs k).nm):=Hi 0 (by decide);have x1:wr.cell? ⟨g,k*6+1,none⟩=some (.int .i64 (ct cs k).am):=Hi 1 (by decide);have x2:wr.cell? ⟨g,k*6+2,none⟩=some (.int .i64 (ct cs k).ab):=Hi 2 (by decide);have x3:wr.cell? ⟨g,k*6+3,none⟩=some (.int .i64 (ct cs k).cm):=Hi 3 (by decide);have x4:wr.cell? ⟨g,k*6+4,none⟩=some (.int .i64 (ct cs k).cb):=Hi 4 (by decide);have x5:wr.cell? ⟨g,k*6+5,none⟩=some (dv k):=Hi 5 (by decide);have Hb:=Hv k hlt;obtain ⟨ia,ic,HE,_⟩:=id Hb;rw [HE] at x5 Hb;have HO:=HV.out k hlt;have he:=Hc.lt;have H3:=Hc.base;have HJ:(k:Int)<(cs.length:Int):=by omega
   clear Hc Hv HE Hl He Hi;generalize (ct cs k).nm=cn at *;generalize (ct cs k).am=c1 at *;generalize (ct cs k).ab=c2 at *;generalize (ct cs k).cm=c3 at *;generalize (ct cs k).cb=c4 at *;generalize hxs:(ct cs k).ds=ds at *;have HR:=qI hxs;clear hxs;have ho:(wr.alloc (gq cn c1 c2 c3 c4 ia ds.length ic)).heap.size=wr.heap.size+1:=by simp
   have HS:=qI (show (wr.alloc (gq cn c1 c2 c3 c4 ia ds.length ic)).drew.cell? ⟨w.heap.size,2,none⟩=some (.slice (some ⟨g,0,none⟩) cs.length c)/\(wr.alloc (gq cn c1 c2 c3 c4 ia ds.length ic)).drew.cell? ⟨wr.heap.size,5,none⟩=some (.slice ia ds.length ic) from ⟨ad (W:=(wr.alloc (gq cn c1 c2 c3 c4 ia ds.length ic)).drew) (bg H0.out (gq cn c1 c2 c3 c4 ia ds.length ic)) 2,ad (W:=(wr.alloc (gq cn c1 c2 c3 c4 ia ds.length ic)).drew) (aF wr (gq cn c1 c2 c3 c4 ia ds.length ic) rfl) 5⟩);have Hx:Below wr.heap.size wr (wr.alloc (gq cn c1 c2 c3 c4 ia ds.length ic)).drew:=a6 ((Q0 wr.heap.size wr).alloc (lR) (gq cn c1 c2 c3 c4 ia ds.length ic));have HI:bf (wr.alloc (gq cn c1 c2 c3 c4 ia ds.length ic)).drew (.slice ia ds.length ic) ds:=by
    refine Hb.le ⟨by simp [World.drew];omega,λb o v e=>?_⟩;have H7:b<w.heap.size:=Q3 w ⟨b,o,none⟩ e;have e1:(wr.alloc (gq cn c1 c2 c3 c4 ia ds.length ic)).drew.heap[b]?=wr.heap[b]?:=Hx.block b (by omega);have e2:wr.heap[b]?=W2.heap[b]?:=Hz.out.block b (by omega) (by omega);exact (World.cell?_of_block (a:=⟨b,o,none⟩) (e1.trans (e2.trans (HL.out.block b H7)))).trans e
   have HK:=qI (Iu (.slice ia ds.length ic) ds (wr.alloc (gq cn c1 c2 c3 c4 ia ds.length ic)).drew HI HO);have HC:=qI Hx;clear HI Hx Hb
   go_wp2_with fail
   refine wp_region_held_drew (S:=(λw'=>w'.cell? ⟨w.heap.size,2,none⟩=some (.slice (some ⟨g,0,none⟩) cs.length c)/\w'.cell? ⟨wr.heap.size,5,none⟩=some (.slice ia ds.length ic))) (by kernel_rfl) HS.out (λhQ=>?_);refine tk 0 ?_;refine tk 1 ?_;refine tk 2 ?_;refine tk 3 ?_;refine tk 4 ?_;refine rd 5 (λK hK=>?_);go_simp
   go_wp2_with fail
   refine HK.out.mono ?_;rintro e W4 ⟨na,nc,rfl,HB,Ho⟩;have Hy:Below wr.heap.size wr W4:=HC.out.trans (Ho.mono HC.out.size);have hm:wr.heap.size+1<=W4.heap.size:=by have:=Ho.size;simp [World.drew] at this;omega
   have Hw:=qI (show W4.cell? ⟨w.heap.size,2,none⟩=some (.slice (some ⟨g,0,none⟩) cs.length c)/\W4.cell? ⟨wr.heap.size,5,none⟩=some (.slice ia ds.length ic) from ⟨(Ho.cell (p:=⟨w.heap.size,2,none⟩) (by simp [World.drew];omega)).trans HS.out.1,(Ho.cell (p:=⟨wr.heap.size,5,none⟩) (by simp [World.drew])).trans HS.out.2⟩);have Ha:=(Hj.out (by omega)).below Hy;have y5:W4.cell? ⟨g,k*6+5,none⟩=some (dw k):=Ha.cell k hlt 5 (by decide);have f5:=Ha.free (k*6+5);have HQ:=qI Ha;have HA:=qI Hy;have H1:=qI HB;clear HB Ho Hy Ha HK
   go_wp2
   refine hK.out _ _ Hw.out (λhQ=>?_);clear hK K;refine tk 6 ?_;refine tk 7 ?_;have Hr:Hid (∀ b,b≠g->(W4.setCell ⟨g,k*6+5,none⟩ (.slice na ds.length nc)).heap[b]?=W4.heap[b]?):=λb hb=>set_other hb
   have Hm:(W4.setCell ⟨g,k*6+5,none⟩ (.slice na ds.length nc)).heap.size=W4.heap.size:=by simp
   have HY:=qI ((Apart.of_below (K:=λj=>U.heap.size<=j) HA.out).trans (Apart.setCell (K:=λj=>U.heap.size<=j) H3 W4 (k*6+5) (.slice na ds.length nc)));have HX:=qI (HQ.out.set k 5 hlt (by decide) (.slice na ds.length nc) (λj=>ci (ct cs j) (if j=k then .slice na ds.length nc else dw j)) (λi _ hi=>by simp [hi]) (λi hi=>by
    match i,hi with
    | 0,_=>simp [ci]
    | 1,_=>simp [ci]
    | 2,_=>simp [ci]
    | 3,_=>simp [ci]
    | 4,_=>simp [ci]
    | 5,_=>simp [ci]) rfl)
   have H4:=qI (show (W4.setCell ⟨g,k*6+5,none⟩ (.slice na ds.length nc)).cell? ⟨w.heap.size,2,none⟩=some (.slice (some ⟨g,0,none⟩) cs.length c)/\(W4.setCell ⟨g,k*6+5,none⟩ (.slice na ds.length nc)).cell? ⟨wr.heap.size,5,none⟩=some (.slice ia ds.length ic) from ⟨(World.cell?_of_block (a:=⟨w.heap.size,2,none⟩) (Hr.out w.heap.size (by omega))).trans Hw.out.1,(World.cell?_of_block (a:=⟨wr.heap.size,5,none⟩) (Hr.out wr.heap.size (by omega))).trans Hw.out.2⟩);refine rd 8 (λK hK=>?_);go_simp;refine hK.out _ _ H4.out (λhQ=>?_);clear hK K;generalize W4.setCell ⟨g,k*6+5,none⟩ (.slice na ds.length nc)=W5 at *;refine Qn (by kernel_rfl) ?_ _;clear hQ
   go_wp2
   go_roundw
   case rel=>
    refine ⟨k+1,λj=>if j=k then .slice na ds.length nc else dw j,by omega,by go_num,Hz.out.trans HY.out,λ_=>HX.out,λj hj=>?_,λj hj=>?_⟩
    ·by_cases hjk:j=k
     ·subst hjk;dsimp only;rw [if_pos rfl,HR.out];refine H1.out.le (bn (λb Hf Hn=>?_) (by rw [Hm];exact lR));have Hn:¬ b<wr.heap.size+1:=by simpa [World.drew] using Hn
      exact ⟨by omega,Hr.out b (by omega)⟩
     ·dsimp only;rw [if_neg hjk];refine (Hg.out j (by omega)).le (bn (λb Hf Hn=>⟨Hn,?_⟩) (by rw [Hm];omega));rw [Hr.out b (by omega)];exact HA.out.block b Hf
    ·dsimp only;rw [if_neg (by omega)];exact Hh.out j (by omega)
   case measure=>simp [intOf];omega
  ·have H2:k=cs.length:=by omega
   subst H2;have Hu:Hid (aD (fresh U.heap.size wr) (.slice ao cs.length c) cs):=by
    unfold Hid
    by_cases h0:0<cs.length
    ·obtain ⟨ha,_,Hv⟩:=HG.out h0;rw [ha];exact (Ir (Hj.out h0) rfl Hq.out (λj hj=>(Hg.out j hj).le (bn (λb _ Hn=>⟨by omega,rfl⟩) (lR))))
    ·exact ⟨ao,c,rfl,Hq.out,λh=>absurd h h0⟩
   obtain ⟨u0,u1,u2⟩:wr.cell? ⟨w.heap.size,0,none⟩=some (.string nm)/\wr.cell? ⟨w.heap.size,1,none⟩=some (.int .i64 pr)/\wr.cell? ⟨w.heap.size,2,none⟩=some (.slice ao cs.length c):=⟨ad Hl 0,ad Hl 1,ad Hl 2⟩;obtain ⟨v0,v1,v2⟩:wr.cell? ⟨w.heap.size+1,0,none⟩=some (.string ⟨#[]⟩)/\wr.cell? ⟨w.heap.size+1,1,none⟩=some (.int .i64 0)/\wr.cell? ⟨w.heap.size+1,2,none⟩=some (.slice none 0 0):=⟨ad He 0,ad He 1,ad He 2⟩;have f0:=aq He 0;have f1:=aq He 1;have f2:=aq He 2;have Hk:=qI (aj (aj (aj HZ.out 0 (.string nm)) 1 (.int .i64 pr)) 2 (.slice ao cs.length c));have H8:=qI ((((Hz.out.below HL.out (lR) (λj hj=>by omega)).setCell (p:=⟨w.heap.size+1,0,none⟩) (Nat.le_succ _) (.string nm)).setCell (p:=⟨w.heap.size+1,1,none⟩) (Nat.le_succ _) (.int .i64 pr)).setCell (p:=⟨w.heap.size+1,2,none⟩) (Nat.le_succ _) (.slice ao cs.length c));have HT:Hid (aD (fresh w.heap.size (((wr.setCell ⟨w.heap.size+1,0,none⟩ (.string nm)).setCell ⟨w.heap.size+1,1,none⟩ (.int .i64 pr)).setCell ⟨w.heap.size+1,2,none⟩ (.slice ao cs.length c))) (.slice ao cs.length c) cs):=Hu.out.le (lj (λj h1 _=>(set_other (by omega)).trans ((set_other (by omega)).trans (set_other (by omega)))) (by simp) (by omega));clear Hl He
   go_wp2_with fail
   generalize ((wr.setCell ⟨w.heap.size+1,0,none⟩ (.string nm)).setCell ⟨w.heap.size+1,1,none⟩ (.int .i64 pr)).setCell ⟨w.heap.size+1,2,none⟩ (.slice ao cs.length c)=WZ at *;(try simp only [Exit.inBlock,Exit.then]);refine bodyPost_ret (v:=.agg #[.string nm,.int .i64 pr,.slice ao cs.length c]) ?_ rfl ⟨ao,c,rfl,HT.out,H8.out⟩;have r0:WZ.cell? ⟨w.heap.size+1,0,none⟩=some (.string nm):=ad Hk.out 0;have r1:WZ.cell? ⟨w.heap.size+1,1,none⟩=some (.int .i64 pr):=ad Hk.out 1;have r2:WZ.cell? ⟨w.heap.size+1,2,none⟩=some (.slice ao cs.length c):=ad Hk.out 2;rw [ot rfl];clear u0 u1 u2 v0 v1 v2 f0 f1 f2;go_simp
end
section
open RowKit
theorem yy (Be Bd Bm nn:Nat) (xs:List RV) (w:World) (he:ex w Be Bd Bm) (hm:aZ w Bm nn xs) (hl:xs.length<=1000) (hd:∀ x∈xs,aS w x/\x.dn<=1000) :
  Calls Tryz.prog 39 #[.pointer (some ⟨Be,0,none⟩)] w λe w'=>(∃ v ys,e=.returned v/\i6 w.heap.size w' v ys/\(∀ y∈ys,(aS w' y/\y.dn<=1000)/\iy w.heap.size y)/\(ys.map (ak w')).Perm (xs.map (ak w))/\kr ys)/\Below w.heap.size w w':=by
 obtain ⟨_,c1⟩:=he.cells;have Hr:=(Q0 w.heap.size w).alloc (lR) (.cells #[.map (some Bm)] 147);have Hp:=qI Hr;have HC:=qI (JP w.heap.size Bm nn xs (w.alloc (.cells #[.map (some Bm)] 147)) (by simp) (hm.block (Hr.block Bm hm.lt)) hl);have HD:=qI hd;have H5:(w.alloc (.cells #[.map (some Bm)] 147)).heap.size=w.heap.size+1:=by simp
 clear hm he hd Hr
 go_enter Tryz.func39,Tryz.ntmps39
 go_wp2_with fail
 refine (Jb _ _).mono ?_;rintro e w1 ⟨rfl,rfl⟩
 go_wp2_with fail
 generalize w.alloc (.cells #[.map (some Bm)] 147)=W1 at *;refine HC.out.mono ?_;rintro e w2 ⟨⟨v,qs,rfl,hq,Hk,HI⟩,Hy⟩;have HW:=qI (Hp.out.trans (Hy.mono Hp.out.size));have H6:qs.length<=1000:=by rw [Hk.length_eq];exact hl
 have HY:=qI (show ∀ j,j<qs.length->aS w (rv qs j)/\(rv qs j).dn<=1000 from λj hj=>HD.out _ (Hk.mem_iff.1 (kt hj)));have HV:=qI (Hk.map (ak w));have HS:=qI HI;obtain ⟨a,c,rfl,H4,hr⟩:=hq;obtain ⟨g,hg,He⟩:∃ g,(0<qs.length->a=some ⟨g,0,none⟩/\w.heap.size<g/\g<w2.heap.size)/\gm w2 g qs:=by
  by_cases h0:0<qs.length
  ·obtain ⟨g,ha,HP,Hi,hc⟩:=hr h0;exact ⟨g,λ_=>⟨ha,by omega,Hi⟩,hc⟩
  ·exact ⟨0,λh=>absurd h h0,λk hk=>by omega⟩
 have HG:=qI hg;have Hg:=qI He;clear hg He hr Hk HI Hy HC Hp HD c1
 go_wp2
 go_loopw [14] (λi wr=>∃ (k:Nat) (ys:List RV),k<=qs.length/\i=.int .i64 k/\ys.length=qs.length/\Below w.heap.size w wr/\gm wr g ys/\(0<qs.length->g<wr.heap.size)/\Hid (∀ j,j<k->aS wr (rv ys j)/\ak wr (rv ys j)=ak w (rv qs j)/\(rv ys j).dn<=1000/\ks g (rv ys j)/\iy w.heap.size (rv ys j))/\Hid (∀ j,k<=j->j<qs.length->rv ys j=rv qs j)) (λi _=>qs.length - (intOf i).toNat)
 case atStart=>exact ⟨0,qs,by omega,rfl,rfl,HW.out,Hg.out,λh=>(HG.out h).2.2,λj hj=>by omega,λj _ _=>rfl⟩
 case round=>
  obtain ⟨k,ys,hk,rfl,Hl,hB,hR,Hj,Ha,Hb⟩:=hrel
  by_cases hlt:k<qs.length
  ·obtain ⟨rfl,HP,_⟩:=HG.out (by omega);have HK:=Hj (by omega);have HB:=qI hB;have HR:=qI hR;have Hc:=hR k (by omega);rw [Hb.out k (lR) hlt] at Hc;obtain ⟨⟨c0,c1,c2,c3⟩,f0,f1,f2,f3⟩:=Hc;obtain ⟨Hw,HM⟩:=HY.out k hlt;obtain ⟨HH,HA⟩:=Hw.below (hB.alloc hB.size (.cells #[.string (rv qs k).pod,.string (rv qs k).cont,.int .u64 (rv qs k).cpus,.slice (rv qs k).da (rv qs k).dn (rv qs k).dc] 111)) (λ_ _ _ h=>h);have HL:=qI (rT (rv qs k) _ HH HM);have HJ:=qI HA;clear hB hR Hj HH HA Hw;generalize hx:rv qs k=x at *;have HX:=qI hx;clear hx
   go_wp2_with fail
   refine HL.out.mono ?_;rintro e w3 ⟨a',c',rfl,ho,HE,Hu,Hx⟩;have HF:=(Q0 wr.heap.size wr).alloc (lR) (bW x);have Hh:=HF.trans (Hx.mono (by simp));have H2:=qI Hh;have H0:=qI (HB.out.trans (Hh.mono HB.out.size));have Hm:=HR.out.block (Hh.block g HK);have HT:=qI Hm;have HO:=qI ho.1;have Hn:=qI (HE.trans HJ.out);have H3:=qI (show iy w.heap.size { x with da:=a',dc:=c' } from λh0=>by
    obtain ⟨g2,Hi,Hf⟩:=Hu h0;refine ⟨g2,Hi,?_⟩
    simp at Hf
    have:=HB.out.size
    omega)
   have HN:=qI (show ks g { x with da:=a',dc:=c' } from λh0 g' o' e=>by
    obtain ⟨g2,Hi,Hf⟩:=Hu h0;rw [Hi] at e;cases e
    simp at Hf
    omega)
   have Hf:g<w3.heap.size:=Q1 HK Hh.size;obtain ⟨⟨d0,d1,d2,d3⟩,e0,e1,e2,e3⟩:=Hm k (by omega);clear ho HE Hu Hx HF Hh Hm HL HJ HR c0 c1 c2 c3 f0 f1 f2 f3;generalize rv ys k=z at *
   go_wp2_with fail
   have HU:=qI (HT.out.set (k:=k) (by omega) { x with da:=a',dc:=c' });have HZ:=qI (JY H0.out (g:=g) (by omega) (k*4) { x with da:=a',dc:=c' });have Hz:=qI (λb (hb:b≠g)=>JZ w3 g (k*4) { x with da:=a',dc:=c' } b hb);have Hv:(dI w3 g (k*4) { x with da:=a',dc:=c' }).heap.size=w3.heap.size:=by simp [dI]
   have Hs:=qI (show ∀ j,j<k+1->aS (dI w3 g (k*4) { x with da:=a',dc:=c' }) (rv (ys.set k { x with da:=a',dc:=c' }) j)/\ak (dI w3 g (k*4) { x with da:=a',dc:=c' }) (rv (ys.set k { x with da:=a',dc:=c' }) j)=ak w (rv qs j)/\(rv (ys.set k { x with da:=a',dc:=c' }) j).dn<=1000/\ks g (rv (ys.set k { x with da:=a',dc:=c' }) j)/\iy w.heap.size (rv (ys.set k { x with da:=a',dc:=c' }) j) from λj hj=>by
    rw [rU ys k j _ (by omega)]
    by_cases e:j=k
    ·rw [if_pos e];obtain ⟨h1,h2⟩:=rV (w':=dI w3 g (k*4) { x with da:=a',dc:=c' }) HO.out HN.out (λb hb _=>Hz.out b hb) (by omega);refine ⟨h1,?_,HM,HN.out,H3.out⟩;subst e;rw [HX.out];unfold ak;rw [h2,Hn.out]
    ·rw [if_neg e];obtain ⟨h1,h2,h3,h4,h9⟩:=Ha.out j (by omega);obtain ⟨h5,h6⟩:=h1.below H2.out (λ_ _ _ h=>h);obtain ⟨h7,h8⟩:=rV (w':=dI w3 g (k*4) { x with da:=a',dc:=c' }) h5 h4 (λb hb _=>Hz.out b hb) (by omega);refine ⟨h7,?_,h3,h4,h9⟩;rw [<- h2];unfold ak;rw [h8,h6])
   have Hq:=qI (show ∀ j,k+1<=j->j<qs.length->rv (ys.set k { x with da:=a',dc:=c' }) j=rv qs j from λj h1 h2=>by
    rw [rU ys k j _ (by omega),if_neg (by omega)];exact Hb.out j (by omega) h2)
   exact ⟨⟨k+1,ys.set k { x with da:=a',dc:=c' },by omega,by go_num,by simp [Hl],HZ.out,HU.out,λ_=>by rw [<- Hv] at Hf;exact Hf,Hs,Hq⟩,by simp [intOf];omega⟩
  ·have H1:k=qs.length:=by omega
   subst H1;have HB:=qI hB;have Ht:=qI (J1 Hl (λj hj=>(Ha.out j hj).2.1));have Ho:=qI (J0 Hl (λj hj=>by
    have:=(Ha.out j hj).2.1
    unfold ak at this;simp only [Rn.mk.injEq] at this;exact ⟨this.1,this.2.1⟩) HS.out)
   have Hn:=qI (show ∀ y∈ys,(aS wr y/\y.dn<=1000)/\iy w.heap.size y from λy hy=>by
    obtain ⟨i,hi,rfl⟩:=List.getElem_of_mem hy
    have:=Ha.out i (by omega)
    simp [rv,hi] at this
    exact ⟨⟨this.1,this.2.2.1⟩,this.2.2.2.2⟩)
   have HQ:=qI (show i6 w.heap.size wr (.slice a qs.length c) ys from ⟨a,c,by rw [Hl],by omega,λh0=>⟨g,(HG.out (by omega)).1,by have:=(HG.out (by omega)).2.1;omega,Hj (by omega),hR⟩⟩);clear hB hR Hj Ha Hb
   go_wp2
   go_ret;exact ⟨⟨_,ys,rfl,HQ.out,Hn.out,by rw [Ht.out];exact HV.out,Ho.out⟩,HB.out⟩
end
section
open RowKit Shelf
attribute [local go_sem] Oper.semAt_some
theorem Ka (ax ay:Option Addr) (cx cy:Nat) (xs ys:List Int) (w:World) (hmx:xs.length<=1000) (hmy:ys.length<=1000) (hrx:0<xs.length->∃ b o,ax=some ⟨b,o,none⟩/\b<w.heap.size/\∀ k,k<xs.length->w.cell? ⟨b,o+k,none⟩=some (.int .i64 (xs.getD k 0))) (hry:0<ys.length->∃ b o,ay=some ⟨b,o,none⟩/\b<w.heap.size/\∀ k,k<ys.length->w.cell? ⟨b,o+k,none⟩=some (.int .i64 (ys.getD k 0))):Calls Tryz.prog 143 #[.slice ax xs.length cx,.slice ay ys.length cy] w λe w'=>e=.returned (.bool (decide (xs=ys)))/\∃ n,w'=w.drewN n:=by
 by_cases hlen:xs.length=ys.length
 ·have Hg:((xs.length:Int) != (ys.length:Int))=false:=by rw [hlen];simp
  have HX:=qI hrx;have HY:=qI hry;have Hb:=qI hlen;clear hrx hry hlen
  go_enter Tryz.func143,Tryz.ntmps143
  go_wp2
  go_loopw [13] (λi wr=>∃ k n:Nat,k<=xs.length/\i=.int .i64 k/\wr=w.drewN n/\Hid (∀ j,j<k->xs.getD j 0=ys.getD j 0)) (λi _=>xs.length - (intOf i).toNat)
  case atStart=>exact ⟨0,0,by omega,rfl,rfl,λj hj=>by omega⟩
  case round=>
   obtain ⟨k,n,hk,rfl,rfl,Ha⟩:=hrel
   by_cases hlt:k<xs.length
   ·have Hc:k<ys.length:=by rw [<- Hb.out];exact hlt
    obtain ⟨b1,o1,rfl,Hl,He⟩:=HX.out (by omega);obtain ⟨b2,o2,rfl,Hh,Hf⟩:=HY.out (by omega);have x0:w.cell? ⟨b1,o1+k,none⟩=some (.int .i64 (xs.getD k 0)):=He k hlt;have y0:w.cell? ⟨b2,o2+k,none⟩=some (.int .i64 (ys.getD k 0)):=Hf k Hc;have Hj:(k:Int)<(xs.length:Int):=by omega
    have Hi:(k:Int)<(ys.length:Int):=by omega
    clear He Hf;obtain ⟨p,hp⟩:∃ p,p=xs.getD k 0:=⟨_,rfl⟩;obtain ⟨q,hq⟩:∃ q,q=ys.getD k 0:=⟨_,rfl⟩;rw [<- hp] at x0;rw [<- hq] at y0;have HP:=qI hp;have HQ:=qI hq;clear hp hq
    by_cases he:p=q
    ·have HE:=qI he;have hb:(p != q)=false:=by rw [he];simp
     clear he
     go_wp2
     go_quiet (fail)
     go_wp2
     go_roundw
     case rel=>
      refine ⟨k+1,n+nq,by omega,by go_num,rfl,λj hj=>?_⟩
      by_cases hjk:j=k
      ·subst hjk;rw [<- HP.out,<- HQ.out];exact HE.out
      ·exact Ha.out j (by omega)
     case measure=>simp [intOf];omega
    ·have hb:(p != q)=true:=by simp [he]
     have HD:Hid (decide (xs=ys)=false):=Q7 λe=>he (by rw [HP.out,HQ.out,e])
     clear he
     go_wp2
     go_quiet (fail)
     go_wp2
     go_ret;exact ⟨by rw [HD.out];rfl,n+nq,by rw [World.drewN_drewN]⟩
   ·have Hk:k=xs.length:=by omega
    have HD:Hid (decide (xs=ys)=true):=Qc (List.ext_getElem Hb.out λi h1 h2=>by
     have:=Ha.out i (by omega)
     simpa [h1,h2] using this)
    go_wp2
    go_ret;exact ⟨by rw [HD.out];rfl,n,rfl⟩
 ·have Hg:((xs.length:Int) != (ys.length:Int))=true:=by simp;omega
  have HD:Hid (decide (xs=ys)=false):=Q7 λe=>hlen (by rw [e])
  go_enter Tryz.func143,Tryz.ntmps143
  go_wp2
  go_ret;exact ⟨by rw [HD.out];rfl,0,rfl⟩
end
section
open RowKit Shelf
open Qos (Nd Ct Pd nd ct pd ltS aU)
open Sv (Gv Hd gv hd)
attribute [local go_sem] Oper.semAt_some
theorem rW (xn:ByteArray) (xp:Int) (cv gvv:Value) (nm:ByteArray) (w:World):Calls Tryz.prog 92 #[.agg #[.string xn,.int .i64 xp,cv,gvv],.string nm] w λe w'=>e=.returned (.int .i64 (aU xn nm))/\Below w.heap.size w w':=by
 have HB:=qI ((Q0 w.heap.size w).alloc (lR) (.cells #[.string xn,.int .i64 xp,cv,gvv] 57))
 go_enter Tryz.func92,Tryz.ntmps92
 go_wp2_with fail
 refine (rQ xn nm _).mono ?_;rintro e w1 ⟨rfl,rfl⟩
 go_wp2
 go_ret;exact ⟨rfl,HB.out⟩
theorem i8 {a b:ByteArray}:aU a b<0↔Ol.cQ a b:=by
 unfold aU Ol.cQ;have e:ltS a b=decide (a.toList<b.toList):=Go.Proofs.bytesLess_eq _ _;rw [e]
 by_cases h:a.toList<b.toList
 ·simp [h]
 ·rw [Q7 h];simp only [Bool.false_eq_true,if_false];constructor
  ·intro h2;split at h2 <;> omega
  ·intro h2;exact absurd h2 h
theorem Kb {hs:List Hd} {nm:ByteArray} {a:Nat} (ha:a<=hs.length) (h1:∀ t,t<a->Ol.cQ (hd hs t).pod.nm nm) (h2:∀ t,a<=t->t<hs.length->¬ Ol.cQ (hd hs t).pod.nm nm):Ol.cd hs nm=a:=by
 unfold Ol.cd;rw [<- List.take_append_drop a hs,List.countP_append];have e1:(hs.take a).countP (λh=>decide (h.pod.nm.toList<nm.toList))=(hs.take a).length:=by
  rw [List.countP_eq_length];intro x hx;obtain ⟨k,hk,rfl⟩:=List.getElem_of_mem hx;rw [Qu] at hk
  have:=h1 k (by omega)
  have e:hd hs k=(hs.take a)[k]'(by rw [Qu];omega):=by simp [hd,show k<hs.length by omega]
  rw [e] at this;exact Qc this
 have e2:(hs.drop a).countP (λh=>decide (h.pod.nm.toList<nm.toList))=0:=by
  rw [List.countP_eq_zero];intro x hx;obtain ⟨k,hk,rfl⟩:=List.getElem_of_mem hx;rw [List.length_drop] at hk
  have:=h2 (a+k) (by omega) (by omega)
  have e:hd hs (a+k)=(hs.drop a)[k]'(by rw [List.length_drop];omega):=by simp [hd,show a+k<hs.length by omega]
  rw [e] at this;have h3:¬ ((hs.drop a)[k]'(by rw [List.length_drop];omega)).pod.nm.toList<nm.toList:=this;rw [Q7 h3];decide
 rw [e1,e2,Qu];omega
def cA (hs:List Hd) (nm:ByteArray):Bool:=hs.any λh=>decide (h.pod.nm=nm)
theorem rX {hs:List Hd} (hr:Ol.it hs) {i j:Nat} (hij:i<j) (hj:j<hs.length):Ol.cQ (hd hs i).pod.nm (hd hs j).pod.nm:=by
 have:=List.pairwise_iff_getElem.1 hr i j (by omega) hj hij
 have e1:hd hs i=hs[i]'(by omega):=by simp [hd,show i<hs.length by omega]
 have e2:hd hs j=hs[j]:=by simp [hd,hj]
 rw [e1,e2];exact this
theorem yz {hs:List Hd} (hr:Ol.it hs) {nm:ByteArray} {a:Nat} (h1:∀ t,t<a->aU (hd hs t).pod.nm nm<0) (h2:∀ t,a<=t->t<hs.length->¬ aU (hd hs t).pod.nm nm<0) (h3:a<hs.length->(hd hs a).pod.nm≠nm):cA hs nm=false:=by
 unfold cA;rw [List.any_eq_false];intro x hx;obtain ⟨t,ht,rfl⟩:=Sv.ox hx;intro e;have e:=of_decide_eq_true e
 by_cases c1:t<a
 ·have:=i8.1 (h1 t c1)
  rw [e] at this;exact Ol.oG _ this
 ·by_cases c2:t=a
  ·subst c2;exact h3 ht e
  ·have h4:=rX hr (show a<t by omega) ht;rw [e] at h4;exact h2 a (lR) (by omega) (i8.2 h4)
theorem yA {a b:ByteArray}:aU a b=0↔a=b:=by
 constructor
 ·intro h;apply Qt;intro Ha
  rcases Ol.rk Ha with k|k
  ·have:=i8.2 k;omega
  ·have k2:ltS b a=true:=by
    have e:ltS b a=decide (b.toList<a.toList):=Go.Proofs.bytesLess_eq _ _;rw [e];exact Qc k
   unfold aU at h
   split at h
   ·cases h
   ·first|(rw [if_pos k2] at h;cases h)|cases h
 ·rintro rfl;have hn:ltS a a=false:=by
   have e:ltS a a=decide (a.toList<a.toList):=Go.Proofs.bytesLess_eq _ _;rw [e];exact Q7 (Ol.oG a)
  unfold aU;rw [hn];rfl
theorem Kc (v:Value) (hs:List Hd) (nm:ByteArray) (w:World) (h:aQ w v hs) (hl:hs.length<=100) (hri:Ol.it hs):Calls Tryz.prog 91 #[v,.string nm,.func (.func 92) #[] #[]] w λe w'=>e=.returned (.tuple #[.int .i64 (Ol.cd hs nm:Nat),.bool (cA hs nm)])/\Below w.heap.size w w':=by
 have Hf:=qI hri;obtain ⟨ao,c,rfl,hm,hr⟩:=h;unfold maxLen at hm;have HR:=qI hr;clear hr hri
 go_enter Tryz.func91,Tryz.ntmps91
 go_wp2
 go_loopw [9,10] (λi j wr=>∃ a b:Nat,a<=b/\b<=hs.length/\i=.int .i64 a/\j=.int .i64 b/\Hid (∀ t,t<a->aU (hd hs t).pod.nm nm<0)/\Hid (∀ t,b<=t->t<hs.length->0<=aU (hd hs t).pod.nm nm)/\Below w.heap.size w wr) (λi j _=>(intOf j).toNat - (intOf i).toNat)
 case atStart=>exact ⟨0,hs.length,by omega,by omega,rfl,rfl,λt ht=>by omega,λt h1 h2=>by omega,Q0 _ _⟩
 case round=>
  obtain ⟨a,b,Ho,hb,rfl,rfl,Hh,Hg,Ha⟩:=hrel;have HB:=qI Ha
  by_cases hlt:a<b
  ·obtain ⟨m,Hm⟩:∃ m:Nat,((a:Int)+(b:Int)) / 2=(m:Int):=⟨(a+b) / 2,by omega⟩;have Hp:a<=m:=by omega
   have Hn:m<b:=by omega
   obtain ⟨bb,o,cv,gvv,rfl,He⟩:=HR.out (by omega);obtain ⟨x0,x1,x2,x3⟩:=((He.below Ha).2 m (by omega)).1;clear He Ha
   by_cases hc:aU (hd hs m).pod.nm nm<0
   ·have Hk:Hid (∀ t,t<m+1->aU (hd hs t).pod.nm nm<0):=λt ht=>by
     by_cases e:t=m
     ·rw [e];exact hc
     ·exact i8.2 (Ol.mz (rX Hf.out (show t<m by omega) (by omega)) (i8.1 hc))
    have HF:=qI (rW (hd hs m).pod.nm (hd hs m).pod.pr (cv m) (gvv m) nm wr);generalize aU (hd hs m).pod.nm nm=z at *
    go_wp2_with fail
    refine HF.out.mono ?_;rintro e w1 ⟨rfl,Hb⟩;have Hc:=qI (HB.out.trans (Hb.mono HB.out.size));clear Hb
    go_wp2
    go_roundw
    case rel=>exact ⟨m+1,b,by omega,by omega,by go_num,rfl,Hk,Hg,Hc.out⟩
    case measure=>simp [intOf];omega
   ·have Hl:Hid (∀ t,m<=t->t<hs.length->0<=aU (hd hs t).pod.nm nm):=λt h1 h2=>by
     refine Int.not_lt.1 λh3=>?_
     by_cases e:t=m
     ·rw [e] at h3;exact hc h3
     ·exact hc (i8.2 (Ol.mz (rX Hf.out (show m<t by omega) h2) (i8.1 h3)))
    have HF:=qI (rW (hd hs m).pod.nm (hd hs m).pod.pr (cv m) (gvv m) nm wr);generalize aU (hd hs m).pod.nm nm=z at *
    go_wp2_with fail
    refine HF.out.mono ?_;rintro e w1 ⟨rfl,Hb⟩;have Hc:=qI (HB.out.trans (Hb.mono HB.out.size));clear Hb
    go_wp2
    go_roundw
    case rel=>exact ⟨a,m,by omega,by omega,rfl,rfl,Hh,Hl,Hc.out⟩
    case measure=>simp [intOf];omega
  ·have Hi:b=a:=by omega
   subst Hi;have Hj:=qI (Kb hb (λt ht=>i8.1 (Hh.out t ht)) (λt h1 h2 h3=>Int.not_lt.2 (Hg.out t h1 h2) (i8.2 h3)))
   by_cases hn:b<hs.length
   ·obtain ⟨bb,o,cv,gvv,rfl,He⟩:=HR.out (by omega);obtain ⟨x0,x1,x2,x3⟩:=((He.below Ha).2 b hn).1;clear He Ha;have HF:=qI (rW (hd hs b).pod.nm (hd hs b).pod.pr (cv b) (gvv b) nm wr)
    by_cases hz:aU (hd hs b).pod.nm nm=0
    ·have HX:Hid (cA hs nm=true):=List.any_eq_true.2 ⟨hd hs b,Sv.kb hn,Qc (yA.1 hz)⟩;rw [hz] at HF
     go_wp2_with fail
     refine HF.out.mono ?_;rintro e w1 ⟨rfl,Hb⟩;have Hc:=qI (HB.out.trans (Hb.mono HB.out.size));clear Hb
     go_wp2
     go_ret2;exact ⟨by rw [Hj.out,HX.out];rfl,Hc.out⟩
    ·have HX:Hid (cA hs nm=false):=yz Hf.out Hh.out (λt h1 h2=>Int.not_lt.2 (Hg.out t h1 h2)) (λ_ e=>hz (yA.2 e));have Hq:(aU (hd hs b).pod.nm nm == 0)=false:=by simpa using hz
     generalize aU (hd hs b).pod.nm nm=z at *
     go_wp2_with fail
     refine HF.out.mono ?_;rintro e w1 ⟨rfl,Hb⟩;have Hc:=qI (HB.out.trans (Hb.mono HB.out.size));clear Hb
     go_wp2
     go_ret2;exact ⟨by rw [Hj.out,HX.out];rfl,Hc.out⟩
   ·have HX:Hid (cA hs nm=false):=yz Hf.out Hh.out (λt h1 h2=>Int.not_lt.2 (Hg.out t h1 h2)) (λh=>absurd h hn)
    go_wp2
    go_ret2;exact ⟨by rw [Hj.out,HX.out];rfl,HB.out⟩
theorem yB (v:Value) (hs:List Hd) (nm:ByteArray) (w:World) (h:aQ w v hs) (hl:hs.length<=100) (hri:Ol.it hs):Calls Tryz.prog 49 #[v,.string nm] w λe w'=>e=.returned (.tuple #[.int .i64 (Ol.cd hs nm:Nat),.bool (cA hs nm)])/\Below w.heap.size w w':=by
 have HS:=qI (Kc v hs nm w h hl hri);obtain ⟨ao,c,rfl,hm,_⟩:=h;generalize Ol.cd hs nm=a at *;generalize cA hs nm=b at *
 go_enter Tryz.func49,Tryz.ntmps49
 go_wp2_with fail
 refine HS.out.mono ?_;rintro e w1 ⟨rfl,Ha⟩;have Hb:=qI Ha;clear Ha
 go_wp2
 go_ret2;exact ⟨rfl,Hb.out⟩
end
section
open RowKit Go.Maps
structure Kd (w w':World) (Bd Bm:Nat) (sn sk:Sd) (sv:Value) (n:Nat) (xs:List RV) (p c:ByteArray) (l:Int) (d:Bool) (f:Nat):Prop where
 disk:aG w' Bd sn sk sv (aR l d) (dS l d)
 out:bd Bd Bm w w'
 no:f≠0->aZ w' Bm n xs
 yes:f=0->aZ w' Bm n (xs.filter λx=>!decide (x.pod=p/\x.cont=c))
def lu (l:Int) (d has:Bool):Nat:=if bw l d≠0 then bw l d else if has=true then 0 else 6
theorem Ke (Be Bd Bm n:Nat) (sn sk:Sd) (sv:Value) (xs:List RV) (p c:ByteArray) (l:Int) (d:Bool) (w:World) (he:ex w Be Bd Bm) (hm:aZ w Bm n xs) (hd:aG w Bd sn sk sv l d) (hl:-9223372036854775808<=l/\l<=9223372036854775807) (hp:p.size<=7000) (hc:c.size<=7000) :
  Calls Tryz.prog 104 #[.pointer (some ⟨Be,0,none⟩),.string p,.string c] w λe w'=>e=.returned (ar ((lu l d (xs.any λy=>decide (y.pod=p/\y.cont=c)):Nat):Int))/\Kd w w' Bd Bm sn sk sv n xs p c l d (lu l d (xs.any λy=>decide (y.pod=p/\y.cont=c))):=by
 obtain ⟨HE,HI,Hv⟩:=mT he hm hd;obtain ⟨c0,c1⟩:=he.cells;have Hx:=qI hm;have Hw:=qI (mn Bd sn sk sv l d w hd hl);have Hs:=qI he;have HB:=hm.lt;have HG:=hd.lt;have hel:=he.lt;clear he hm hd
 go_enter Tryz.func104,Tryz.ntmps104
 go_wp2_with fail
 refine Hw.out.mono ?_;rintro e w2 ⟨rfl,Hq,Hf⟩;have Ho:=qI Hq;have Hl:=qI (bd.of_grown (B1:=Bd) (B2:=Bm) Hf.1 (.inl rfl));have Hg:=qI (Hx.out.block (Hf.1.block Bm HB (by simpa using Hv.symm)));have Hr:=Hs.out.block (Hf.1.block Be hel (by simpa using HE));obtain ⟨g0,g1⟩:=Hr.cells;have Hp:w2.heap.size=w.heap.size:=Hf.2;clear Hq Hf Hr Hw Hx Hs c0 c1
 by_cases hse:bw l d=0
 ·have Hc:=qI (show lu l d (xs.any λy=>decide (y.pod=p/\y.cont=c))=if (xs.any λy=>decide (y.pod=p/\y.cont=c))=true then 0 else 6 from by unfold lu;rw [if_neg (by rw [hse];decide)]);rw [hse,show ar ((0:Nat):Int)=.nilIface from rfl];obtain ⟨y,Hk⟩:=Hg.out.look2 p c hp hc;unfold gj at Hk;have Ha:=(Q0 w2.heap.size w2).alloc (lR) (.cells #[.string p,.string c] 166);have Hm:=Ha.alloc Ha.size (jI);have Hy:=Ha.alloc Ha.size (bW y);have Hh:=Hk ((w2.alloc (.cells #[.string p,.string c] 166)).drew) ((a6 Ha).block Bm (by omega));have Hj:=Hk (((w2.alloc (.cells #[.string p,.string c] 166)).alloc (jI)).drew) ((a6 Hm).block Bm (by omega));have k1:=((a6 Ha).cell (p:=⟨Be,1,none⟩) (by show Be<_;omega)).trans g1;have k2:=((a6 Hm).cell (p:=⟨Be,1,none⟩) (by show Be<_;omega)).trans g1;have Hi:=qI (a6 Hy);have HN:=qI (show (((w2.alloc (.cells #[.string p,.string c] 166)).alloc (jI)).drew).cell? ⟨w2.heap.size,0,none⟩=some (.string p)/\(((w2.alloc (.cells #[.string p,.string c] 166)).alloc (jI)).drew).cell? ⟨w2.heap.size,1,none⟩=some (.string c) from ⟨by simp,by simp⟩);have Hz:=qI (show (((w2.alloc (.cells #[.string p,.string c] 166)).alloc (bW y)).drew).cell? ⟨w2.heap.size,0,none⟩=some (.string p)/\(((w2.alloc (.cells #[.string p,.string c] 166)).alloc (bW y)).drew).cell? ⟨w2.heap.size,1,none⟩=some (.string c) from ⟨by simp,by simp⟩);rw [Hp] at HN Hz;obtain ⟨n0,n1⟩:=HN.out;clear Ha Hm Hy Hk;unfold RV.val at Hh Hj
  rcases two (xs.any λy=>decide (y.pod=p/\y.cont=c)) with hh|hh
  ·rw [hh] at Hh Hj;have HH:=qI hh;clear hh
   go_wp2_with fail
   go_region
   all_goals
    generalize hW5:((w2.alloc (.cells #[.string p,.string c] 166)).alloc (bW y)).drew=W5 at *;have He:=a6 Hi.out;obtain ⟨m0,m1⟩:=Hz.out;have m0':W5.drew.cell? ⟨w.heap.size,0,none⟩=some (.string p):=m0;have m1':W5.drew.cell? ⟨w.heap.size,1,none⟩=some (.string c):=m1;have k5:W5.drew.cell? ⟨Be,1,none⟩=some (.map (some Bm)):=(He.cell (p:=⟨Be,1,none⟩) (by show Be<_;omega)).trans g1;obtain ⟨w7,Hn,Hu,Hb,HF⟩:=(Hg.out.block (He.block Bm (by omega))).drop p c hp hc 0;have HA:=qI Hu;have HD:=qI (show aG w7 Bd sn sk sv (aR l d) (dS l d) from (Hb.block Bd (by have:=He.size;omega) (λe=>Hv (Ql e))).trans ((He.block Bd (by omega)).trans Ho.out));have HC:=qI ((Hl.out.trans (bd.of_below He)).trans (bd.of_grown Hb (.inr rfl)));unfold gj at Hn;clear He Hu Hb hW5 Hh Hj k1 k2 n0 n1 m0 m1
    go_wp2_with fail
    go_region
    all_goals
     go_wp2
     go_ret;exact ⟨by rw [Hc.out,if_pos HH.out];rfl,⟨HD.out,HC.out,λh0=>absurd (by rw [Hc.out,if_pos HH.out]) h0,λ_=>HA.out⟩⟩
  ·rw [hh] at Hh Hj;have HH:=qI hh;clear hh
   go_wp2_with fail
   go_region
   all_goals
    generalize ((w2.alloc (.cells #[.string p,.string c] 166)).alloc (bW y)).drew=W5 at *
    go_wp2
    go_ret;exact ⟨by rw [Hc.out,if_neg (by rw [HH.out];decide)];rfl,⟨(Hi.out.block Bd (by omega)).trans Ho.out,Hl.out.trans (bd.of_below Hi.out),λ_=>Hg.out.block (Hi.out.block Bm (by omega)),λh0=>by rw [Hc.out,if_neg (by rw [HH.out];decide)] at h0;cases h0⟩⟩
 ·have Ht:=yq hse;have Hc:=qI (show lu l d (xs.any λy=>decide (y.pod=p/\y.cont=c))=11 from by unfold lu;rw [if_pos hse];exact Ht);rw [Ht,show ar ((11:Nat):Int)=.iface 121 (.int .i64 11) from rfl]
  go_wp2
  go_ret;exact ⟨by rw [Hc.out];rfl,⟨Ho.out,Hl.out,λ_=>Hg.out,λh0=>by rw [Hc.out] at h0;cases h0⟩⟩
end
section
open RowKit Shelf
open Qos (Nd Ct Pd nd ct pd ag)
open Sv (Gv Hd gv hd aE)
def iz (r:Rn):ByteArray × ByteArray:=(r.pod,r.cont)
def iA (h:Hd) (i:Nat):Rn:=⟨h.pod.nm,(ct h.pod.cs i).nm,((gv h.gs i).cp:Int),(gv h.gs i).dv⟩
def au (hs:List Hd):List Rn:=hs.flatMap λh=>(List.range h.gs.length).map (iA h)
theorem yC {hs:List Hd} (h:aE hs=0):((au hs).map iz).Nodup:=by
 obtain ⟨_,h2,h3⟩:=Ol.bY.1 h;unfold List.Nodup;rw [List.pairwise_map];unfold au;rw [List.pairwise_flatMap];constructor
 ·intro x hx;obtain ⟨hp,hl,_⟩:=h2 x hx;rw [List.pairwise_map,List.pairwise_iff_getElem];intro i j hi hj Hb e;simp only [List.getElem_range] at e;rw [List.length_range] at hj;have e2:(ct x.pod.cs i).nm=(ct x.pod.cs j).nm:=congrArg Prod.snd e;exact Ol.GJ hp (by omega) Hb e2
 ·refine h3.imp ?_;intro a b Ha x hx y hy e;obtain ⟨i,_,rfl⟩:=Qk.1 hx;obtain ⟨j,_,rfl⟩:=Qk.1 hy;have e1:a.pod.nm=b.pod.nm:=congrArg Prod.fst e;rw [e1] at Ha;exact Ol.oG _ Ha
theorem rY {hs:List Hd} (h:aE hs=0):(au hs).length<=36:=by
 obtain ⟨h1,h2,_⟩:=Ol.bY.1 h;have key:∀ l:List Hd,(∀ x∈l,x.gs.length<=3)->(au l).length<=3*l.length:=by
  intro l
  induction l with
  | nil=>intro _;simp [au]
  | cons a l ih=>
   intro hl;have h1:=ih λx hx=>hl x (Qv _ hx)
   have h2:=hl a (by simp);unfold au at *;rw [List.flatMap_cons,Q2,Q9,List.length_range,Qg];omega
 have:=key hs λx hx=>by
  obtain ⟨hp,hl,_⟩:=h2 x hx
  have:=(Sv.fE hp).2.2.1
  omega
 omega
theorem yD {hs:List Hd} (h:aE hs=0):∀ r∈au hs,r.pod.size<=7000/\r.cont.size<=7000/\r.devs.length<=16:=by
 obtain ⟨_,h2,_⟩:=Ol.bY.1 h;intro r hr;obtain ⟨x,hx,hr⟩:=List.mem_flatMap.1 hr;obtain ⟨i,hi,rfl⟩:=Qk.1 hr;rw [List.mem_range] at hi;obtain ⟨hp,hl,hg⟩:=h2 x hx;have ho:=Sv.fE hp;have s1:=(Sv.ip ho.1).2;have s2:=(Sv.ip (ho.2.2.2 (ct x.pod.cs i) (Ost.dY _ _ _ (by omega))).1).2;have s3:(gv x.gs i).dv.length<=16:=Ol.rx (Dvs.cS hg i hi);have e1:x.pod.nm.data.toList.length=x.pod.nm.size:=by simp
 have e2:(ct x.pod.cs i).nm.data.toList.length=(ct x.pod.cs i).nm.size:=by simp
 refine ⟨?_,?_,s3⟩
 ·show x.pod.nm.size<=7000
  omega
 ·show (ct x.pod.cs i).nm.size<=7000
  omega
def NN (W:World) (Be Bd Bm n:Nat) (rs:List Rn):Prop:=ex W Be Bd Bm/\∃ xs,aZ W Bm n xs/\(∀ x∈xs,ew W x/\x.dn<=1000)/\∀ r,r∈xs.map (ak W)↔r∈rs
theorem lw {W W':World} {xs:List RV} (h:∀ x∈xs,ew W x/\x.dn<=1000) (hk:cG W W'):(∀ x∈xs,ew W' x/\x.dn<=1000)/\xs.map (ak W')=xs.map (ak W):=
 ⟨λx hx=>⟨((h x hx).1.kept hk).1,(h x hx).2⟩,List.map_congr_left λx hx=>by unfold ak;rw [((h x hx).1.kept hk).2]⟩
theorem yE {xs:List RV} {W:World} (h:(xs.map RV.key).Nodup):((xs.map (ak W)).map iz).Nodup:=by
 rw [List.map_map];unfold List.Nodup at *;rw [List.pairwise_map] at *;refine h.imp λ{a b} hab e=>hab ?_
 have e1:a.pod=b.pod:=congrArg Prod.fst e;have e2:a.cont=b.cont:=congrArg Prod.snd e;unfold RV.key;rw [e1,e2]
theorem mW {W:World} {B:Nat} {s:Dk} (h:be W B s) (hc:Calm s):aG W B s.n s.k (.slice none 0 0) (-1) false:=by
 obtain ⟨_,v,h1,h2⟩:=h;rw [hc.2.2] at h2;rw [hc.1,hc.2.1,h2] at h1;exact h1
theorem yF {W:World} {B:Nat} {s:Dk} (h:aG W B s.n s.k (.slice none 0 0) (-1) false) (hc:Calm s):be W B s:=by
 refine ⟨by rw [hc.2.1];exact ⟨by decide,by decide⟩,.slice none 0 0,?_,?_⟩
 ·rw [hc.1,hc.2.1];exact h
 ·rw [hc.2.2]
theorem rZ {W:World} {y:RV} {xs:List Int} (h:bu W (.slice y.da y.dn y.dc) xs):aS W y/\aH W y=xs/\y.dn=xs.length:=by
 obtain ⟨ao,c,hv,hm,hr⟩:=h;injection hv with e1 e2 e3
 have key:∀ k,k<xs.length->i7 W y k=xs.getD k 0:=λk hk=>by
  obtain ⟨b,o,ha,Hb,Ha⟩:=hr (by omega);unfold i7;rw [e1,ha];simp only [Addr.add_lit];rw [Ha k hk]
 refine ⟨λh0=>?_,?_,e2⟩
 ·obtain ⟨b,o,ha,Hb,Ha⟩:=hr (by omega);exact ⟨b,o,by rw [e1];exact ha,Hb,λk hk=>by rw [key k (by omega)];exact Ha k (by omega)⟩
 ·unfold aH;rw [e2];apply List.ext_getElem
  ·simp
  ·intro i h1 h2
   simp at h1 ⊢
   rw [key i h1]
   simp [h1]
end
