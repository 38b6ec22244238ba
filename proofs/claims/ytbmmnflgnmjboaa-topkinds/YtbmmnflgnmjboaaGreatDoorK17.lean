import Derived.Test.YtbmmnflgnmjboaaGreatDoorK16
import Derived.Test.YtbmmnflgnmjboaaGreatDoorK12
set_option maxRecDepth 100000
set_option maxHeartbeats 16000000
namespace Go.Proofs.YtbmmnflgnmjboaaGreatDoor
section
open RowKit Go.Maps
theorem aA.notInt {w:World} {B:Nat} {n k:Sd} {v:Value} {l:Int} {d:Bool} (h:aA w B n k v l d):∀ (arr:Array Value) (z:Nat × Nat),w.heap[B]?≠some (Obj.cells arr 3 z):=λarr z e=>by
 rw [show w.heap[B]?=_ from h] at e;cases e
theorem lz {w:World} {Be Bd Bm n:Nat} {xs:List RV} {sn sk:Sd} {sv:Value} {l:Int} {d:Bool} (he:ef w Be Bd Bm) (hm:aW w Bm n xs) (hd:aA w Bd sn sk sv l d):Be≠Bd/\Be≠Bm/\Bd≠Bm:=by
 obtain ⟨es,clock,hmm⟩:=hm.isMap;refine ⟨λe=>?_,λe=>?_,λe=>?_⟩
 ·subst e;have h1:=he;unfold ef at h1;rw [show w.heap[Be]?=_ from hd] at h1;cases h1
 ·subst e;have h1:=he;unfold ef at h1;rw [hmm] at h1;cases h1
 ·subst e;have h1:=hd;unfold aA at h1;rw [hmm] at h1;cases h1
structure Hg (w w':World) (Bd Bm:Nat) (sn sk:Sd) (sv:Value) (n:Nat) (xs:List RV) (x:RV) (l:Int) (d:Bool) (f:Nat):Prop where
 disk:aA w' Bd sn sk sv (aO l d) (dM l d)
 out:ba Bd Bm w w'
 no:f≠0->aW w' Bm n xs
 yes:f=0->∃ a c,aW w' Bm (n+1) ({ x with da:=a,dc:=c } :: xs)/\ee w' { x with da:=a,dc:=c }/\aK w' { x with da:=a,dc:=c }=aK w x
def ke (l:Int) (d has:Bool):Nat:=if bt l d≠0 then bt l d else if has=true then 5 else 0
theorem vr {l:Int} {d:Bool} (h:bt l d≠0):bt l d=11:=by
 unfold bt at *
 split
 ·rfl
 ·rename_i hc;rw [if_neg hc] at h;exact absurd rfl h
abbrev vt:=λ(Be Bm y2:Nat) (x:RV) (w':World)=>w'.cell? ⟨Be,1,none⟩=some (.map (some Bm))/\(w'.cell? ⟨y2+1,0,none⟩=some (.string x.pod)/\w'.cell? ⟨y2+1,1,none⟩=some (.string x.cont))/\(w'.cell? ⟨y2,0,none⟩=some (.string x.pod)/\w'.cell? ⟨y2,1,none⟩=some (.string x.cont)/\w'.cell? ⟨y2,2,none⟩=some (.int .u64 x.cpus)/\w'.cell? ⟨y2,3,none⟩=some (.slice x.da x.dn x.dc))
theorem Hh (Be Bd Bm n:Nat) (sn sk:Sd) (sv:Value) (xs:List RV) (x:RV) (l:Int) (d:Bool) (w:World) (he:ef w Be Bd Bm) (hm:aW w Bm n xs) (hd:aA w Bd sn sk sv l d) (hl:-9223372036854775808<=l/\l<=9223372036854775807) (hx:x.Short) (hdv:bn w x) (haw:jE Bd x) (hdn:x.dn<=1000) (hn:n<1000) :
  Calls Tryz.prog 105 #[.pointer (some ⟨Be,0,none⟩),.agg #[.string x.pod,.string x.cont,.int .u64 x.cpus,.slice x.da x.dn x.dc]] w λe w'=>e=.returned (ak ((ke l d (xs.any λy=>decide (y.pod=x.pod/\y.cont=x.cont)):Nat):Int))/\Hg w w' Bd Bm sn sk sv n xs x l d (ke l d (xs.any λy=>decide (y.pod=x.pod/\y.cont=x.cont))):=by
 obtain ⟨hn1,hn2,hn3⟩:=lz he hm hd;have hb1:=(Q0 w.heap.size w).alloc (lR) (.cells #[.string x.pod,.string x.cont,.int .u64 x.cpus,.slice x.da x.dn x.dc] 111);have he1:=he.block (hb1.block Be he.lt);obtain ⟨c0,c1⟩:=he1.cells;have HM1:=qI (hm.block (hb1.block Bm hm.lt));have hd1:aA (w.alloc (.cells #[.string x.pod,.string x.cont,.int .u64 x.cpus,.slice x.da x.dn x.dc] 111)) Bd sn sk sv l d:=(hb1.block Bd hd.lt).trans hd;have HST:=qI (kU Bd sn sk sv l d _ hd1 hl);have HX1:=qI (bm.made w x);obtain ⟨hv1,hv2⟩:=hdv.below hb1 (λ_ _ _ h=>h);have HV1:=qI hv1;have HV2:=qI hv2;have HB1:=qI hb1;have HE1:=qI he1;have hml:=hm.lt;have hdl:=hd.lt;have hel:=he.lt;clear he hm hd hb1 he1 hd1 hv1 hv2
 go_enter Tryz.func105,Tryz.ntmps105
 go_wp2_with fail
 generalize hW1:w.alloc (.cells #[.string x.pod,.string x.cont,.int .u64 x.cpus,.slice x.da x.dn x.dc] 111)=W1 at *;have hsz1:W1.heap.size=w.heap.size+1:=by rw [<- hW1];simp
 clear hW1;refine HST.out.mono ?_;rintro e w2 ⟨rfl,hz2,ho2⟩;have HZ2:=qI hz2;have HO2:=qI (ba.trans (ba.of_below HB1.out) (ba.of_grown (B1:=Bd) (B2:=Bm) ho2.1 (.inl rfl)));have HM2:=qI (HM1.out.block (ho2.1.block Bm (by omega) (by simpa using hn3.symm)));have he2:=HE1.out.block (ho2.1.block Be (by omega) (by simpa using hn1));have HE2:=qI he2;obtain ⟨g0,g1⟩:=he2.cells;have hx2:bm w2 w.heap.size x:=(ho2.1.block w.heap.size (by omega) (by intro e;cases e;omega)).trans HX1.out;have HX2:=qI hx2;obtain ⟨hk2a,hk2b⟩:=pT (w':=w2) HV1.out haw (λb hb hlt=>ho2.1.block b hlt (by simpa using hb)) (Nat.le_of_eq ho2.2.symm);have HK2:=qI hk2a;have HK2b:=qI (hk2b.trans HV2.out);have hsz2:w2.heap.size=w.heap.size+1:=by rw [ho2.2];exact hsz1
 obtain ⟨r0,r1,r2,r3⟩:=hx2.cells;clear hz2 ho2 he2 hx2 HST HM1 HX1 HE1 c0 c1 hk2a hk2b HV1 HV2
 by_cases hse:bt l d=0
 ·have HSE:=qI (show ke l d (xs.any λy=>decide (y.pod=x.pod/\y.cont=x.cont))=if (xs.any λy=>decide (y.pod=x.pod/\y.cont=x.cont))=true then 5 else 0 from by unfold ke;rw [if_neg (by rw [hse];decide)]);rw [hse,show ak ((0:Nat):Int)=.nilIface from rfl];obtain ⟨y,hlk⟩:=HM2.out.look2 x.pod x.cont hx.1 hx.2;unfold fK at hlk;have hbA:=(Q0 w2.heap.size w2).alloc (lR) (.cells #[.string x.pod,.string x.cont] 166);have hbB:=hbA.alloc hbA.size (.cells #[.string ⟨#[]⟩,.string ⟨#[]⟩,.int .u64 0,.slice none 0 0] 111);have hbY:=hbA.alloc hbA.size (.cells #[.string y.pod,.string y.cont,.int .u64 y.cpus,.slice y.da y.dn y.dc] 111);have hq1:=hlk ((w2.alloc (.cells #[.string x.pod,.string x.cont] 166)).drew) ((bf hbA).block Bm (by omega));have hq2:=hlk (((w2.alloc (.cells #[.string x.pod,.string x.cont] 166)).alloc (.cells #[.string ⟨#[]⟩,.string ⟨#[]⟩,.int .u64 0,.slice none 0 0] 111)).drew) ((bf hbB).block Bm (by omega));have k1:=((bf hbA).cell (p:=⟨Be,1,none⟩) (by show Be<_;omega)).trans g1;have k2:=((bf hbB).cell (p:=⟨Be,1,none⟩) (by show Be<_;omega)).trans g1;have HBY:=qI (bf hbY);have HN:=qI (show (((w2.alloc (.cells #[.string x.pod,.string x.cont] 166)).alloc (.cells #[.string ⟨#[]⟩,.string ⟨#[]⟩,.int .u64 0,.slice none 0 0] 111)).drew).cell? ⟨w2.heap.size,0,none⟩=some (.string x.pod)/\(((w2.alloc (.cells #[.string x.pod,.string x.cont] 166)).alloc (.cells #[.string ⟨#[]⟩,.string ⟨#[]⟩,.int .u64 0,.slice none 0 0] 111)).drew).cell? ⟨w2.heap.size,1,none⟩=some (.string x.cont) from ⟨by simp,by simp⟩);have HNY:=qI (show (((w2.alloc (.cells #[.string x.pod,.string x.cont] 166)).alloc (.cells #[.string y.pod,.string y.cont,.int .u64 y.cpus,.slice y.da y.dn y.dc] 111)).drew).cell? ⟨w2.heap.size,0,none⟩=some (.string x.pod)/\(((w2.alloc (.cells #[.string x.pod,.string x.cont] 166)).alloc (.cells #[.string y.pod,.string y.cont,.int .u64 y.cpus,.slice y.da y.dn y.dc] 111)).drew).cell? ⟨w2.heap.size,1,none⟩=some (.string x.cont) from ⟨by simp,by simp⟩);rw [hsz2] at HN HNY;obtain ⟨n0,n1⟩:=HN.out;clear hbA hbB hbY hlk;unfold RV.val at hq1 hq2
  rcases two (xs.any λy=>decide (y.pod=x.pod/\y.cont=x.cont)) with hh|hh
  ·rw [hh] at hq1 hq2;have HH:=qI hh;clear hh
   go_wp2_with fail
   go_region
   all_goals
    generalize ((w2.alloc (.cells #[.string x.pod,.string x.cont] 166)).alloc (.cells #[.string y.pod,.string y.cont,.int .u64 y.cpus,.slice y.da y.dn y.dc] 111)).drew=W5 at *
    go_wp2
    go_ret;exact ⟨by rw [HSE.out,if_pos HH.out];rfl,⟨(HBY.out.block Bd (by omega)).trans HZ2.out,HO2.out.trans (ba.of_below HBY.out),λ_=>HM2.out.block (HBY.out.block Bm (by omega)),λh0=>by rw [HSE.out,if_pos HH.out] at h0;cases h0⟩⟩
  ·rw [hh] at hq1 hq2;have HH:=qI hh;clear hh
   go_wp2_with fail
   go_region
   ·have hbd:=bf HBY.out;have HSD:=qI (show (((w2.alloc (.cells #[.string x.pod,.string x.cont] 166)).alloc (.cells #[.string y.pod,.string y.cont,.int .u64 y.cpus,.slice y.da y.dn y.dc] 111)).drew.drew.cell? ⟨Be,1,none⟩=some (.map (some Bm))/\(((w2.alloc (.cells #[.string x.pod,.string x.cont] 166)).alloc (.cells #[.string y.pod,.string y.cont,.int .u64 y.cpus,.slice y.da y.dn y.dc] 111)).drew.drew.cell? ⟨w.heap.size+1,0,none⟩=some (.string x.pod)/\((w2.alloc (.cells #[.string x.pod,.string x.cont] 166)).alloc (.cells #[.string y.pod,.string y.cont,.int .u64 y.cpus,.slice y.da y.dn y.dc] 111)).drew.drew.cell? ⟨w.heap.size+1,1,none⟩=some (.string x.cont))/\(((w2.alloc (.cells #[.string x.pod,.string x.cont] 166)).alloc (.cells #[.string y.pod,.string y.cont,.int .u64 y.cpus,.slice y.da y.dn y.dc] 111)).drew.drew.cell? ⟨w.heap.size,0,none⟩=some (.string x.pod)/\((w2.alloc (.cells #[.string x.pod,.string x.cont] 166)).alloc (.cells #[.string y.pod,.string y.cont,.int .u64 y.cpus,.slice y.da y.dn y.dc] 111)).drew.drew.cell? ⟨w.heap.size,1,none⟩=some (.string x.cont)/\((w2.alloc (.cells #[.string x.pod,.string x.cont] 166)).alloc (.cells #[.string y.pod,.string y.cont,.int .u64 y.cpus,.slice y.da y.dn y.dc] 111)).drew.drew.cell? ⟨w.heap.size,2,none⟩=some (.int .u64 x.cpus)/\((w2.alloc (.cells #[.string x.pod,.string x.cont] 166)).alloc (.cells #[.string y.pod,.string y.cont,.int .u64 y.cpus,.slice y.da y.dn y.dc] 111)).drew.drew.cell? ⟨w.heap.size,3,none⟩=some (.slice x.da x.dn x.dc))) from ⟨(hbd.cell (p:=⟨Be,1,none⟩) (by show Be<_;omega)).trans g1,HNY.out,⟨(hbd.cell (p:=⟨w.heap.size,0,none⟩) (by show w.heap.size<_;omega)).trans r0,(hbd.cell (p:=⟨w.heap.size,1,none⟩) (by show w.heap.size<_;omega)).trans r1,(hbd.cell (p:=⟨w.heap.size,2,none⟩) (by show w.heap.size<_;omega)).trans r2,(hbd.cell (p:=⟨w.heap.size,3,none⟩) (by show w.heap.size<_;omega)).trans r3⟩⟩);have HBd:=qI hbd;have hsz5:w.heap.size+1+1<=((w2.alloc (.cells #[.string x.pod,.string x.cont] 166)).alloc (.cells #[.string y.pod,.string y.cont,.int .u64 y.cpus,.slice y.da y.dn y.dc] 111)).drew.heap.size:=by simp [World.drew];omega
    clear hbd hq1 hq2 k1 k2 n0 n1 HN HNY;generalize ((w2.alloc (.cells #[.string x.pod,.string x.cont] 166)).alloc (.cells #[.string y.pod,.string y.cont,.int .u64 y.cpus,.slice y.da y.dn y.dc] 111)).drew=W5 at *;have hsz5d:w.heap.size+1+1<=W5.drew.heap.size:=hsz5;obtain ⟨hv5,hv5b⟩:=HK2.out.below HBd.out (λ_ _ _ h=>h);have HV5b:=qI (hv5b.trans HK2b.out);have HAP:=qI (pQ x W5.drew hv5 hdn);have HM5:=qI (HM2.out.block (HBd.out.block Bm (by omega)));clear hv5 hv5b
    go_wp2_with fail
    refine wp_region_held_drew (S:=vt Be Bm w.heap.size x) (by kernel_rfl) HSD.out (λhHeld=>?_);refine tk 0 ?_;refine tk 1 ?_;refine tk 2 ?_;refine tk 3 ?_;refine tk 4 ?_;refine tk 5 ?_;refine rd 6 (λK hK=>?_);go_simp
    go_wp2_with fail
    refine HAP.out.mono ?_;rintro e w6 ⟨a',c',rfl,ho6,hd6,_,hb6⟩;have HS6:=qI (show (w6.cell? ⟨Be,1,none⟩=some (.map (some Bm))/\(w6.cell? ⟨w.heap.size+1,0,none⟩=some (.string x.pod)/\w6.cell? ⟨w.heap.size+1,1,none⟩=some (.string x.cont))/\(w6.cell? ⟨w.heap.size,0,none⟩=some (.string x.pod)/\w6.cell? ⟨w.heap.size,1,none⟩=some (.string x.cont)/\w6.cell? ⟨w.heap.size,2,none⟩=some (.int .u64 x.cpus)/\w6.cell? ⟨w.heap.size,3,none⟩=some (.slice x.da x.dn x.dc))) from ⟨(hb6.cell (p:=⟨Be,1,none⟩) (by show Be<_;omega)).trans HSD.out.1,⟨(hb6.cell (p:=⟨w.heap.size+1,0,none⟩) (by show w.heap.size+1<_;omega)).trans HSD.out.2.1.1,(hb6.cell (p:=⟨w.heap.size+1,1,none⟩) (by show w.heap.size+1<_;omega)).trans HSD.out.2.1.2⟩,⟨(hb6.cell (p:=⟨w.heap.size,0,none⟩) (by show w.heap.size<_;omega)).trans HSD.out.2.2.1,(hb6.cell (p:=⟨w.heap.size,1,none⟩) (by show w.heap.size<_;omega)).trans HSD.out.2.2.2.1,(hb6.cell (p:=⟨w.heap.size,2,none⟩) (by show w.heap.size<_;omega)).trans HSD.out.2.2.2.2.1,(hb6.cell (p:=⟨w.heap.size,3,none⟩) (by show w.heap.size<_;omega)).trans HSD.out.2.2.2.2.2⟩⟩);have HM6:=qI (HM5.out.block (hb6.block Bm (by omega)));have HO6:=qI ho6;have HD6:=qI (hd6.trans HV5b.out);have HB6:=qI (HBd.out.trans (hb6.mono HBd.out.size));have hsz6:w.heap.size+1+1<=w6.heap.size:=Q5 hsz5d hb6.size;clear ho6 hd6 hb6
    go_wp2
    refine hK.out _ _ HS6.out (λhHeld=>?_);clear hK K;refine rd 7 (λK hK=>?_);rw [if_pos (by rfl)];refine vq _ _ _ _ rfl Bm n xs { x with da:=a',dc:=c' } rfl rfl rfl HM6.out hx hn HH.out ?_;intro w7 hM7 hgr7 hsz7;have HS7:=qI (show (w7.cell? ⟨Be,1,none⟩=some (.map (some Bm))/\(w7.cell? ⟨w.heap.size+1,0,none⟩=some (.string x.pod)/\w7.cell? ⟨w.heap.size+1,1,none⟩=some (.string x.cont))/\(w7.cell? ⟨w.heap.size,0,none⟩=some (.string x.pod)/\w7.cell? ⟨w.heap.size,1,none⟩=some (.string x.cont)/\w7.cell? ⟨w.heap.size,2,none⟩=some (.int .u64 x.cpus)/\w7.cell? ⟨w.heap.size,3,none⟩=some (.slice x.da x.dn x.dc))) from ⟨(eX hgr7 ⟨Be,1,none⟩ (by show Be<_;omega) (by simpa using hn2)).trans HS6.out.1,⟨(eX hgr7 ⟨w.heap.size+1,0,none⟩ (by show w.heap.size+1<_;omega) (λe=>by have e2:w.heap.size+1=Bm:=Ql e;omega)).trans HS6.out.2.1.1,(eX hgr7 ⟨w.heap.size+1,1,none⟩ (by show w.heap.size+1<_;omega) (λe=>by have e2:w.heap.size+1=Bm:=Ql e;omega)).trans HS6.out.2.1.2⟩,⟨(eX hgr7 ⟨w.heap.size,0,none⟩ (by show w.heap.size<_;omega) (λe=>by have e2:w.heap.size=Bm:=Ql e;omega)).trans HS6.out.2.2.1,(eX hgr7 ⟨w.heap.size,1,none⟩ (by show w.heap.size<_;omega) (λe=>by have e2:w.heap.size=Bm:=Ql e;omega)).trans HS6.out.2.2.2.1,(eX hgr7 ⟨w.heap.size,2,none⟩ (by show w.heap.size<_;omega) (λe=>by have e2:w.heap.size=Bm:=Ql e;omega)).trans HS6.out.2.2.2.2.1,(eX hgr7 ⟨w.heap.size,3,none⟩ (by show w.heap.size<_;omega) (λe=>by have e2:w.heap.size=Bm:=Ql e;omega)).trans HS6.out.2.2.2.2.2⟩⟩);obtain ⟨ho7,hd7⟩:=HO6.out.kept (cB.grown hgr7 HM6.out.notInt);have HYES:=qI (show ∃ a c,aW w7 Bm (n+1) ({ x with da:=a,dc:=c } :: xs)/\ee w7 { x with da:=a,dc:=c }/\aK w7 { x with da:=a,dc:=c }=aK w x from ⟨a',c',hM7,ho7,hd7.trans HD6.out⟩);have HZ7:=qI (show aA w7 Bd sn sk sv (aO l d) (dM l d) from (hgr7.block Bd (by omega) (λe=>hn3 (Ql e))).trans ((HB6.out.block Bd (by omega)).trans HZ2.out));have HO7:=qI ((HO2.out.trans (ba.of_below HB6.out)).trans (ba.of_grown hgr7 (.inr rfl)));clear hM7 hgr7 ho7 hd7;refine hK.out _ _ HS7.out (λhHeld=>?_);clear hK K;refine Qn (by kernel_rfl) ?_ _
    go_wp2
    go_ret;exact ⟨by rw [HSE.out,if_neg (by rw [HH.out];decide)];rfl,⟨HZ7.out,HO7.out,λh0=>absurd (by rw [HSE.out,if_neg (by rw [HH.out];decide)]) h0,λ_=>HYES.out⟩⟩
   ·have hbd:=bf HBY.out;have HSD:=qI (show (((w2.alloc (.cells #[.string x.pod,.string x.cont] 166)).alloc (.cells #[.string y.pod,.string y.cont,.int .u64 y.cpus,.slice y.da y.dn y.dc] 111)).drew.drew.cell? ⟨Be,1,none⟩=some (.map (some Bm))/\(((w2.alloc (.cells #[.string x.pod,.string x.cont] 166)).alloc (.cells #[.string y.pod,.string y.cont,.int .u64 y.cpus,.slice y.da y.dn y.dc] 111)).drew.drew.cell? ⟨w.heap.size+1,0,none⟩=some (.string x.pod)/\((w2.alloc (.cells #[.string x.pod,.string x.cont] 166)).alloc (.cells #[.string y.pod,.string y.cont,.int .u64 y.cpus,.slice y.da y.dn y.dc] 111)).drew.drew.cell? ⟨w.heap.size+1,1,none⟩=some (.string x.cont))/\(((w2.alloc (.cells #[.string x.pod,.string x.cont] 166)).alloc (.cells #[.string y.pod,.string y.cont,.int .u64 y.cpus,.slice y.da y.dn y.dc] 111)).drew.drew.cell? ⟨w.heap.size,0,none⟩=some (.string x.pod)/\((w2.alloc (.cells #[.string x.pod,.string x.cont] 166)).alloc (.cells #[.string y.pod,.string y.cont,.int .u64 y.cpus,.slice y.da y.dn y.dc] 111)).drew.drew.cell? ⟨w.heap.size,1,none⟩=some (.string x.cont)/\((w2.alloc (.cells #[.string x.pod,.string x.cont] 166)).alloc (.cells #[.string y.pod,.string y.cont,.int .u64 y.cpus,.slice y.da y.dn y.dc] 111)).drew.drew.cell? ⟨w.heap.size,2,none⟩=some (.int .u64 x.cpus)/\((w2.alloc (.cells #[.string x.pod,.string x.cont] 166)).alloc (.cells #[.string y.pod,.string y.cont,.int .u64 y.cpus,.slice y.da y.dn y.dc] 111)).drew.drew.cell? ⟨w.heap.size,3,none⟩=some (.slice x.da x.dn x.dc))) from ⟨(hbd.cell (p:=⟨Be,1,none⟩) (by show Be<_;omega)).trans g1,HNY.out,⟨(hbd.cell (p:=⟨w.heap.size,0,none⟩) (by show w.heap.size<_;omega)).trans r0,(hbd.cell (p:=⟨w.heap.size,1,none⟩) (by show w.heap.size<_;omega)).trans r1,(hbd.cell (p:=⟨w.heap.size,2,none⟩) (by show w.heap.size<_;omega)).trans r2,(hbd.cell (p:=⟨w.heap.size,3,none⟩) (by show w.heap.size<_;omega)).trans r3⟩⟩);have HBd:=qI hbd;have hsz5:w.heap.size+1+1<=((w2.alloc (.cells #[.string x.pod,.string x.cont] 166)).alloc (.cells #[.string y.pod,.string y.cont,.int .u64 y.cpus,.slice y.da y.dn y.dc] 111)).drew.heap.size:=by simp [World.drew];omega
    clear hbd hq1 hq2 k1 k2 n0 n1 HN HNY;generalize ((w2.alloc (.cells #[.string x.pod,.string x.cont] 166)).alloc (.cells #[.string y.pod,.string y.cont,.int .u64 y.cpus,.slice y.da y.dn y.dc] 111)).drew=W5 at *;have hsz5d:w.heap.size+1+1<=W5.drew.heap.size:=hsz5;obtain ⟨hv5,hv5b⟩:=HK2.out.below HBd.out (λ_ _ _ h=>h);have HV5b:=qI (hv5b.trans HK2b.out);have HAP:=qI (pQ x W5.drew hv5 hdn);have HM5:=qI (HM2.out.block (HBd.out.block Bm (by omega)));clear hv5 hv5b
    go_wp2_with fail
    refine wp_region_held_drew (S:=vt Be Bm w.heap.size x) (by kernel_rfl) HSD.out (λhHeld=>?_);refine tk 0 ?_;refine tk 1 ?_;refine tk 2 ?_;refine tk 3 ?_;refine tk 4 ?_;refine tk 5 ?_;refine rd 6 (λK hK=>?_);go_simp
    go_wp2_with fail
    refine HAP.out.mono ?_;rintro e w6 ⟨a',c',rfl,ho6,hd6,_,hb6⟩;have HS6:=qI (show (w6.cell? ⟨Be,1,none⟩=some (.map (some Bm))/\(w6.cell? ⟨w.heap.size+1,0,none⟩=some (.string x.pod)/\w6.cell? ⟨w.heap.size+1,1,none⟩=some (.string x.cont))/\(w6.cell? ⟨w.heap.size,0,none⟩=some (.string x.pod)/\w6.cell? ⟨w.heap.size,1,none⟩=some (.string x.cont)/\w6.cell? ⟨w.heap.size,2,none⟩=some (.int .u64 x.cpus)/\w6.cell? ⟨w.heap.size,3,none⟩=some (.slice x.da x.dn x.dc))) from ⟨(hb6.cell (p:=⟨Be,1,none⟩) (by show Be<_;omega)).trans HSD.out.1,⟨(hb6.cell (p:=⟨w.heap.size+1,0,none⟩) (by show w.heap.size+1<_;omega)).trans HSD.out.2.1.1,(hb6.cell (p:=⟨w.heap.size+1,1,none⟩) (by show w.heap.size+1<_;omega)).trans HSD.out.2.1.2⟩,⟨(hb6.cell (p:=⟨w.heap.size,0,none⟩) (by show w.heap.size<_;omega)).trans HSD.out.2.2.1,(hb6.cell (p:=⟨w.heap.size,1,none⟩) (by show w.heap.size<_;omega)).trans HSD.out.2.2.2.1,(hb6.cell (p:=⟨w.heap.size,2,none⟩) (by show w.heap.size<_;omega)).trans HSD.out.2.2.2.2.1,(hb6.cell (p:=⟨w.heap.size,3,none⟩) (by show w.heap.size<_;omega)).trans HSD.out.2.2.2.2.2⟩⟩);have HM6:=qI (HM5.out.block (hb6.block Bm (by omega)));have HO6:=qI ho6;have HD6:=qI (hd6.trans HV5b.out);have HB6:=qI (HBd.out.trans (hb6.mono HBd.out.size));have hsz6:w.heap.size+1+1<=w6.heap.size:=Q5 hsz5d hb6.size;clear ho6 hd6 hb6
    go_wp2
    refine hK.out _ _ HS6.out (λhHeld=>?_);clear hK K;refine rd 7 (λK hK=>?_);rw [if_pos (by rfl)];refine vq _ _ _ _ rfl Bm n xs { x with da:=a',dc:=c' } rfl rfl rfl HM6.out hx hn HH.out ?_;intro w7 hM7 hgr7 hsz7;have HS7:=qI (show (w7.cell? ⟨Be,1,none⟩=some (.map (some Bm))/\(w7.cell? ⟨w.heap.size+1,0,none⟩=some (.string x.pod)/\w7.cell? ⟨w.heap.size+1,1,none⟩=some (.string x.cont))/\(w7.cell? ⟨w.heap.size,0,none⟩=some (.string x.pod)/\w7.cell? ⟨w.heap.size,1,none⟩=some (.string x.cont)/\w7.cell? ⟨w.heap.size,2,none⟩=some (.int .u64 x.cpus)/\w7.cell? ⟨w.heap.size,3,none⟩=some (.slice x.da x.dn x.dc))) from ⟨(eX hgr7 ⟨Be,1,none⟩ (by show Be<_;omega) (by simpa using hn2)).trans HS6.out.1,⟨(eX hgr7 ⟨w.heap.size+1,0,none⟩ (by show w.heap.size+1<_;omega) (λe=>by have e2:w.heap.size+1=Bm:=Ql e;omega)).trans HS6.out.2.1.1,(eX hgr7 ⟨w.heap.size+1,1,none⟩ (by show w.heap.size+1<_;omega) (λe=>by have e2:w.heap.size+1=Bm:=Ql e;omega)).trans HS6.out.2.1.2⟩,⟨(eX hgr7 ⟨w.heap.size,0,none⟩ (by show w.heap.size<_;omega) (λe=>by have e2:w.heap.size=Bm:=Ql e;omega)).trans HS6.out.2.2.1,(eX hgr7 ⟨w.heap.size,1,none⟩ (by show w.heap.size<_;omega) (λe=>by have e2:w.heap.size=Bm:=Ql e;omega)).trans HS6.out.2.2.2.1,(eX hgr7 ⟨w.heap.size,2,none⟩ (by show w.heap.size<_;omega) (λe=>by have e2:w.heap.size=Bm:=Ql e;omega)).trans HS6.out.2.2.2.2.1,(eX hgr7 ⟨w.heap.size,3,none⟩ (by show w.heap.size<_;omega) (λe=>by have e2:w.heap.size=Bm:=Ql e;omega)).trans HS6.out.2.2.2.2.2⟩⟩);obtain ⟨ho7,hd7⟩:=HO6.out.kept (cB.grown hgr7 HM6.out.notInt);have HYES:=qI (show ∃ a c,aW w7 Bm (n+1) ({ x with da:=a,dc:=c } :: xs)/\ee w7 { x with da:=a,dc:=c }/\aK w7 { x with da:=a,dc:=c }=aK w x from ⟨a',c',hM7,ho7,hd7.trans HD6.out⟩);have HZ7:=qI (show aA w7 Bd sn sk sv (aO l d) (dM l d) from (hgr7.block Bd (by omega) (λe=>hn3 (Ql e))).trans ((HB6.out.block Bd (by omega)).trans HZ2.out));have HO7:=qI ((HO2.out.trans (ba.of_below HB6.out)).trans (ba.of_grown hgr7 (.inr rfl)));clear hM7 hgr7 ho7 hd7;refine hK.out _ _ HS7.out (λhHeld=>?_);clear hK K;refine Qn (by kernel_rfl) ?_ _
    go_wp2
    go_ret;exact ⟨by rw [HSE.out,if_neg (by rw [HH.out];decide)];rfl,⟨HZ7.out,HO7.out,λh0=>absurd (by rw [HSE.out,if_neg (by rw [HH.out];decide)]) h0,λ_=>HYES.out⟩⟩
 ·have h11:=vr hse;have HSE:=qI (show ke l d (xs.any λy=>decide (y.pod=x.pod/\y.cont=x.cont))=11 from by unfold ke;rw [if_pos hse];exact h11);rw [h11,show ak ((11:Nat):Int)=.iface 121 (.int .i64 11) from rfl]
  go_wp2
  go_ret;exact ⟨by rw [HSE.out];rfl,⟨HZ2.out,HO2.out,λ_=>HM2.out,λh0=>by rw [HSE.out] at h0;cases h0⟩⟩
end
section
open RowKit Go.ChangeMaps Go.Maps Go.WideShapes
def StrKeys (D:DataW Unit):Prop:=∃ es,D=.map es/\∀ p∈es,∃ s:ByteArray,p.1=Lit.string s.data.toList
def eL (w:World) (B n:Nat) (f:ByteArray->Option Int):Prop:=
 ∃ D:DataW Unit,w.ownsMap Tryz.prog 9 (plainElem Tryz.prog 3) B n D/\StrKeys D/\∀ s:ByteArray,D.atKey (.string s.data.toList) (.lit (.int .i64 0))=.lit (.int .i64 ((f s).getD 0))/\Go.Maps.has D (.string s.data.toList)=(f s).isSome
theorem eL.block {w w':World} {B n:Nat} {f:ByteArray->Option Int} (h:eL w B n f) (hb:w'.heap[B]?=w.heap[B]?):eL w' B n f:=by
 obtain ⟨D,⟨es,clock,hh,r⟩,hk⟩:=h;exact ⟨D,⟨es,clock,hb.trans hh,r⟩,hk⟩
theorem eL.lt {w:World} {B n:Nat} {f:ByteArray->Option Int} (h:eL w B n f):B<w.heap.size:=by
 obtain ⟨D,ho,_⟩:=h;exact ho.lt
theorem eL.alloc {w:World} {B n:Nat} {f:ByteArray->Option Int} (h:eL w B n f) (o:Obj):eL (w.alloc o) B n f:=h.block (Below.heap_alloc _ _ _ h.lt)
theorem eL.made (w:World):eL (w.alloc (.map #[] 0)) w.heap.size 0 (λ_=>none):=
 ⟨.map [],World.ownsMap_made w _ _ _,⟨[],rfl,λ_ hp=>(List.not_mem_nil hp).elim⟩,λ_=>⟨rfl,rfl⟩⟩
theorem vu {D:DataW Unit} {k:ByteArray} {v:Int} (hS:StrKeys D):StrKeys (D.put (.string k.data.toList) (.lit (.int .i64 v))):=by
 obtain ⟨es,rfl,hes⟩:=hS;refine ⟨putKey (.string k.data.toList) (.lit (.int .i64 v)) es,rfl,λp hp=>?_⟩;unfold putKey at hp
 rcases List.mem_cons.1 ((insert_perm _ _).mem_iff.1 hp) with rfl|hp
 ·exact ⟨k,rfl⟩
 ·exact hes p (List.mem_filter.1 hp).1
theorem vw {w0:World} {B n0:Nat} {f:ByteArray->Option Int} {D:DataW Unit} {k:ByteArray} {v:Int} (h0:w0.ownsMap Tryz.prog 9 (plainElem Tryz.prog 3) B n0 D) (hD:∀ s:ByteArray,D.atKey (.string s.data.toList) (.lit (.int .i64 0))=.lit (.int .i64 ((f s).getD 0))/\Go.Maps.has D (.string s.data.toList)=(f s).isSome) (s:ByteArray) :
  (D.put (.string k.data.toList) (.lit (.int .i64 v))).atKey (.string s.data.toList) (.lit (.int .i64 0))=.lit (.int .i64 ((Ol.cH f k (some v) s).getD 0))/\Go.Maps.has (D.put (.string k.data.toList) (.lit (.int .i64 v))) (.string s.data.toList)=(Ol.cH f k (some v) s).isSome:=by
 unfold Ol.cH
 by_cases e:s=k
 ·subst e;have hkl:WideAt.IsKeyLit (Lit.string s.data.toList):=trivial;rw [Go.Maps.atKey_put_same h0.isMap hkl,Go.Maps.has_put_same h0.isMap hkl,if_pos rfl];exact ⟨rfl,rfl⟩
 ·have hne:(Lit.string s.data.toList)≠(Lit.string k.data.toList):=by
   intro h;injection h with h
   exact e (pM h)
  rw [Go.Maps.atKey_put_other hne,Go.Maps.has_put_other hne,if_neg e];exact hD s
theorem vx {w w0:World} {B n n0:Nat} {f:ByteArray->Option Int} {D:DataW Unit} {k:ByteArray} {v:Int} (h0:w0.ownsMap Tryz.prog 9 (plainElem Tryz.prog 3) B n0 D) (hS:StrKeys D) (hD:∀ s:ByteArray,D.atKey (.string s.data.toList) (.lit (.int .i64 0))=.lit (.int .i64 ((f s).getD 0))/\Go.Maps.has D (.string s.data.toList)=(f s).isSome)
  (ho:w.ownsMap Tryz.prog 9 (plainElem Tryz.prog 3) B n (D.put (.string k.data.toList) (.lit (.int .i64 v)))):eL w B n (Ol.cH f k (some v)):=⟨_,ho,vu hS,vw h0 hD⟩
theorem Hj {w w0:World} {B n n0:Nat} {f:ByteArray->Option Int} {D:DataW Unit} {k:ByteArray} (h0:w0.ownsMap Tryz.prog 9 (plainElem Tryz.prog 3) B n0 D) (hS:StrKeys D) (hD:∀ s:ByteArray,D.atKey (.string s.data.toList) (.lit (.int .i64 0))=.lit (.int .i64 ((f s).getD 0))/\Go.Maps.has D (.string s.data.toList)=(f s).isSome)
  (ho:w.ownsMap Tryz.prog 9 (plainElem Tryz.prog 3) B n (D.del (.string k.data.toList))):eL w B n (Ol.cH f k none):=by
 refine ⟨_,ho,?_,λs=>?_⟩
 ·obtain ⟨es,rfl,hes⟩:=hS;refine ⟨delKey (.string k.data.toList) es,rfl,λp hp=>?_⟩;unfold delKey at hp;exact hes p (List.mem_filter.1 hp).1
 ·unfold Ol.cH
  by_cases e:s=k
  ·subst e;have hkl:WideAt.IsKeyLit (Lit.string s.data.toList):=trivial;rw [Go.Maps.atKey_del_same,Go.Maps.has_del_same,if_pos rfl];exact ⟨rfl,rfl⟩
  ·have hne:(Lit.string s.data.toList)≠(Lit.string k.data.toList):=by
    intro h;injection h with h
    exact e (pM h)
   rw [Go.Maps.atKey_del_other hne,Go.Maps.has_del_other hne,if_neg e];exact hD s
theorem Hk {f:ByteArray->Option Int} {D:DataW Unit} (hS:StrKeys D) (hD:∀ s:ByteArray,D.atKey (.string s.data.toList) (.lit (.int .i64 0))=.lit (.int .i64 ((f s).getD 0))/\Go.Maps.has D (.string s.data.toList)=(f s).isSome):Go.Maps.size D=0↔∀ k,f k=none:=by
 obtain ⟨es,rfl,hes⟩:=hS;rw [Go.Maps.size_eq,List.length_eq_zero_iff];constructor
 ·rintro rfl k
  have:=(hD k).2
  rw [Go.Maps.has_eq] at this;cases hf:f k with
  | none=>rfl
  | some v=>rw [hf] at this;cases this
 ·intro h;cases es with
  | nil=>rfl
  | cons p l=>
   obtain ⟨s,hs⟩:=hes p (by simp);have h1:=(hD s).2;rw [h s,Go.Maps.has_eq,List.any_cons,hs,WideAt.sameKey_self (show WideAt.IsKeyLit (Lit.string s.data.toList) from trivial)] at h1;cases h1
end
section
open RowKit Shelf
open Qos (Nd Ct Pd nd ct pd)
open Sv (Gv Hd gv hd)
attribute [local go_sem] Oper.semAt_some
theorem vy (nm:ByteArray) (pr:Int) (cs:List Ct) (v:Value) (w:World) (h:aE w v cs) (hl:cs.length<=1000) (hdl:∀ k,k<cs.length->(ct cs k).ds.length<=1000):Calls Tryz.prog 41 #[.agg #[.string nm,.int .i64 pr,v]] w λe w'=>∃ ao c,e=.returned (.agg #[.string nm,.int .i64 pr,.slice ao cs.length c])/\aE (fresh w.heap.size w') (.slice ao cs.length c) cs/\Below w.heap.size w w':=by
 have HDL:=qI hdl;have HBU:=qI (((Q0 w.heap.size w).alloc (lR) (.cells #[.string nm,.int .i64 pr,v] 47)).alloc (by simp) (.cells #[.string ⟨#[]⟩,.int .i64 0,.slice none 0 0] 47));have HCL:=qI (Ex v cs _ w h (aB.of_below HBU.out) hl);obtain ⟨ca,cc,rfl,hm0,_⟩:=h;clear hm0 hdl;have sz:((w.alloc (.cells #[.string nm,.int .i64 pr,.slice ca cs.length cc] 47)).alloc (.cells #[.string ⟨#[]⟩,.int .i64 0,.slice none 0 0] 47)).heap.size=w.heap.size+2:=by simp
 have HU0:=qI (bx (aG w (.cells #[.string nm,.int .i64 pr,.slice ca cs.length cc] 47) rfl) (.cells #[.string ⟨#[]⟩,.int .i64 0,.slice none 0 0] 47));have HU1:=qI (aG (w.alloc (.cells #[.string nm,.int .i64 pr,.slice ca cs.length cc] 47)) (.cells #[.string ⟨#[]⟩,.int .i64 0,.slice none 0 0] 47) (n:=w.heap.size+1) (by simp))
 go_enter Tryz.func41,Tryz.ntmps41
 go_wp2_with fail
 generalize ((w.alloc (.cells #[.string nm,.int .i64 pr,.slice ca cs.length cc] 47)).alloc (.cells #[.string ⟨#[]⟩,.int .i64 0,.slice none 0 0] 47))=U at *;refine HCL.out.mono ?_;rintro e W1 ⟨ao,c,rfl,hcap,hg,hb1⟩;have HCAP:=qI hcap;obtain ⟨g,dv,hg2⟩:∃ (g:Nat) (dv:Nat->Value),0<cs.length->ao=some ⟨g,0,none⟩/\cZ W1 U.heap.size g 6 cs.length (λk=>b9 (ct cs k) (dv k))/\∀ k,k<cs.length->bc w (dv k) (ct cs k).ds:=by
  by_cases h0:0<cs.length
  ·obtain ⟨g,dv,hh⟩:=hg h0;exact ⟨g,dv,λ_=>hh⟩
  ·exact ⟨0,λ_=>.nilIface,λh=>absurd h h0⟩
 have hp0:=(hb1.block w.heap.size (by omega)).trans HU0.out;have hp1:=(hb1.block (w.heap.size+1) (by omega)).trans HU1.out;have z2:W1.cell? ⟨w.heap.size,2,none⟩=some (.slice ca cs.length cc):=ad hp0 2;have fz2:=aq hp0 2;have HP0:Hid ((W1.setCell ⟨w.heap.size,2,none⟩ (.slice ao cs.length c)).heap[w.heap.size]?=some (.cells #[.string nm,.int .i64 pr,.slice ao cs.length c] 47 (0,0))):=aj hp0 2 _;have HP1:Hid ((W1.setCell ⟨w.heap.size,2,none⟩ (.slice ao cs.length c)).heap[w.heap.size+1]?=some (.cells #[.string ⟨#[]⟩,.int .i64 0,.slice none 0 0] 47 (0,0))):=(set_other (by omega)).trans hp1;have HB1:=qI ((HBU.out.trans (hb1.mono (by omega))).setCell (p:=⟨w.heap.size,2,none⟩) (lR) (.slice ao cs.length c));have HG:Hid (0<cs.length->ao=some ⟨g,0,none⟩/\cZ (W1.setCell ⟨w.heap.size,2,none⟩ (.slice ao cs.length c)) U.heap.size g 6 cs.length (λk=>b9 (ct cs k) (dv k))/\∀ k,k<cs.length->bc w (dv k) (ct cs k).ds):=λh0=>by
  obtain ⟨q1,q2,q3⟩:=hg2 h0;exact ⟨q1,q2.keep (set_other (by have:=q2.base;omega)) (by simp),q3⟩
 have hsz1:w.heap.size+2<=(W1.setCell ⟨w.heap.size,2,none⟩ (.slice ao cs.length c)).heap.size:=by have:=hb1.size;simp;omega
 have zz:(W1.setCell ⟨w.heap.size,2,none⟩ (.slice ao cs.length c)).cell? ⟨w.heap.size,2,none⟩=some (.slice ao cs.length c):=ad HP0.out 2;have HBU1:=qI hb1;have HSC:Hid (∀ j,j≠w.heap.size->(W1.setCell ⟨w.heap.size,2,none⟩ (.slice ao cs.length c)).heap[j]?=W1.heap[j]?):=λj hj=>set_other hj
 clear hcap hg hg2 hb1 HCL hp0 hp1
 go_wp2_with fail
 generalize hW2:W1.setCell ⟨w.heap.size,2,none⟩ (.slice ao cs.length c)=W2 at *;clear hW2 z2 fz2
 go_loopw [12,3] (λi i3 wr=>∃ (k:Nat) (dw:Nat->Value),k<=cs.length/\i=.int .i64 k/\Apart (λj=>U.heap.size<=j) W2 wr/\Hid (0<cs.length->cZ wr U.heap.size g 6 cs.length (λj=>b9 (ct cs j) (dw j)))/\Hid (∀ j,j<k->bc (ag (λb=>b<U.heap.size\/b=g) wr) (dw j) (ct cs j).ds)/\Hid (∀ j,k<=j->dw j=dv j)) (λi _ _=>cs.length - (intOf i).toNat)
 case atStart=>exact ⟨0,dv,by omega,rfl,Apart.refl _ _,λh=>(HG.out h).2.1,λj hj=>by omega,λj _=>rfl⟩
 case round=>
  obtain ⟨k,dw,hk,rfl,hap,HROW,HDONE,HREST⟩:=hrel;have HAP:=qI hap;have hsz:=hap.size;have hpp:=(hap.block w.heap.size (by omega) (by omega)).trans HP0.out;have hpq:=(hap.block (w.heap.size+1) (by omega) (by omega)).trans HP1.out;have HPP:=qI hpp;have HPQ:=qI hpq;have HUR:Hid (Below U.heap.size U wr->True):=λ_=>trivial
  by_cases hlt:k<cs.length
  ·obtain ⟨rfl,_,hin⟩:=HG.out (by omega);have hrow:=HROW.out (by omega);have hc6:=λj hj=>hrow.cell k hlt j hj
   rw [HREST.out k (lR)] at hc6;have x0:wr.cell? ⟨g,k*6,none⟩=some (.string (ct cs k).nm):=hc6 0 (by decide);have x1:wr.cell? ⟨g,k*6+1,none⟩=some (.int .i64 (ct cs k).am):=hc6 1 (by decide);have x2:wr.cell? ⟨g,k*6+2,none⟩=some (.int .i64 (ct cs k).ab):=hc6 2 (by decide);have x3:wr.cell? ⟨g,k*6+3,none⟩=some (.int .i64 (ct cs k).cm):=hc6 3 (by decide);have x4:wr.cell? ⟨g,k*6+4,none⟩=some (.int .i64 (ct cs k).cb):=hc6 4 (by decide);have x5:wr.cell? ⟨g,k*6+5,none⟩=some (dv k):=hc6 5 (by decide);have hint:=hin k hlt;obtain ⟨ia,ic,hdv,_⟩:=id hint;rw [hdv] at x5 hint;have hdk:=HDL.out k hlt;have hgl:=hrow.lt;have hgN:=hrow.base;have hk100:(k:Int)<(cs.length:Int):=by omega
   clear hrow hin hdv hpp hpq hc6;generalize (ct cs k).nm=cn at *;generalize (ct cs k).am=c1 at *;generalize (ct cs k).ab=c2 at *;generalize (ct cs k).cm=c3 at *;generalize (ct cs k).cb=c4 at *;generalize hxs:(ct cs k).ds=ds at *;have HXS:=qI hxs;clear hxs;have hsA:(wr.alloc (.cells #[.string cn,.int .i64 c1,.int .i64 c2,.int .i64 c3,.int .i64 c4,.slice ia ds.length ic] 63)).heap.size=wr.heap.size+1:=by simp
   have HS:=qI (show (wr.alloc (.cells #[.string cn,.int .i64 c1,.int .i64 c2,.int .i64 c3,.int .i64 c4,.slice ia ds.length ic] 63)).drew.cell? ⟨w.heap.size,2,none⟩=some (.slice (some ⟨g,0,none⟩) cs.length c)/\(wr.alloc (.cells #[.string cn,.int .i64 c1,.int .i64 c2,.int .i64 c3,.int .i64 c4,.slice ia ds.length ic] 63)).drew.cell? ⟨wr.heap.size,5,none⟩=some (.slice ia ds.length ic) from ⟨ad (W:=(wr.alloc (.cells #[.string cn,.int .i64 c1,.int .i64 c2,.int .i64 c3,.int .i64 c4,.slice ia ds.length ic] 63)).drew) (bx HPP.out (.cells #[.string cn,.int .i64 c1,.int .i64 c2,.int .i64 c3,.int .i64 c4,.slice ia ds.length ic] 63)) 2,ad (W:=(wr.alloc (.cells #[.string cn,.int .i64 c1,.int .i64 c2,.int .i64 c3,.int .i64 c4,.slice ia ds.length ic] 63)).drew) (aG wr (.cells #[.string cn,.int .i64 c1,.int .i64 c2,.int .i64 c3,.int .i64 c4,.slice ia ds.length ic] 63) rfl) 5⟩);have hWA:Below wr.heap.size wr (wr.alloc (.cells #[.string cn,.int .i64 c1,.int .i64 c2,.int .i64 c3,.int .i64 c4,.slice ia ds.length ic] 63)).drew:=bf ((Q0 wr.heap.size wr).alloc (lR) (.cells #[.string cn,.int .i64 c1,.int .i64 c2,.int .i64 c3,.int .i64 c4,.slice ia ds.length ic] 63));have hUW:bc (wr.alloc (.cells #[.string cn,.int .i64 c1,.int .i64 c2,.int .i64 c3,.int .i64 c4,.slice ia ds.length ic] 63)).drew (.slice ia ds.length ic) ds:=by
    refine hint.le ⟨by simp [World.drew];omega,λb o v e=>?_⟩;have hbl:b<w.heap.size:=Q3 w ⟨b,o,none⟩ e;have e1:(wr.alloc (.cells #[.string cn,.int .i64 c1,.int .i64 c2,.int .i64 c3,.int .i64 c4,.slice ia ds.length ic] 63)).drew.heap[b]?=wr.heap[b]?:=hWA.block b (by omega);have e2:wr.heap[b]?=W2.heap[b]?:=HAP.out.block b (by omega) (by omega);exact (World.cell?_of_block (a:=⟨b,o,none⟩) (e1.trans (e2.trans (HB1.out.block b hbl)))).trans e
   have HCI:=qI (Ev (.slice ia ds.length ic) ds (wr.alloc (.cells #[.string cn,.int .i64 c1,.int .i64 c2,.int .i64 c3,.int .i64 c4,.slice ia ds.length ic] 63)).drew hUW hdk);have HWA:=qI hWA;clear hUW hWA hint
   go_wp2_with fail
   refine wp_region_held_drew (S:=(λw'=>w'.cell? ⟨w.heap.size,2,none⟩=some (.slice (some ⟨g,0,none⟩) cs.length c)/\w'.cell? ⟨wr.heap.size,5,none⟩=some (.slice ia ds.length ic))) (by kernel_rfl) HS.out (λhHeld=>?_);refine tk 0 ?_;refine tk 1 ?_;refine tk 2 ?_;refine tk 3 ?_;refine tk 4 ?_;refine rd 5 (λK hK=>?_);go_simp
   go_wp2_with fail
   refine HCI.out.mono ?_;rintro e W4 ⟨na,nc,rfl,hni,hb4⟩;have hW4:Below wr.heap.size wr W4:=HWA.out.trans (hb4.mono HWA.out.size);have hs4:wr.heap.size+1<=W4.heap.size:=by have:=hb4.size;simp [World.drew] at this;omega
   have HS4:=qI (show W4.cell? ⟨w.heap.size,2,none⟩=some (.slice (some ⟨g,0,none⟩) cs.length c)/\W4.cell? ⟨wr.heap.size,5,none⟩=some (.slice ia ds.length ic) from ⟨(hb4.cell (p:=⟨w.heap.size,2,none⟩) (by simp [World.drew];omega)).trans HS.out.1,(hb4.cell (p:=⟨wr.heap.size,5,none⟩) (by simp [World.drew])).trans HS.out.2⟩);have hrow4:=(HROW.out (by omega)).below hW4;have y5:W4.cell? ⟨g,k*6+5,none⟩=some (dw k):=hrow4.cell k hlt 5 (by decide);have f5:=hrow4.free (k*6+5);have HR4:=qI hrow4;have HW4:=qI hW4;have HNI:=qI hni;clear hni hb4 hW4 hrow4 HCI
   go_wp2
   refine hK.out _ _ HS4.out (λhHeld=>?_);clear hK K;refine tk 6 ?_;refine tk 7 ?_;have HSB:Hid (∀ b,b≠g->(W4.setCell ⟨g,k*6+5,none⟩ (.slice na ds.length nc)).heap[b]?=W4.heap[b]?):=λb hb=>set_other hb
   have hszS:(W4.setCell ⟨g,k*6+5,none⟩ (.slice na ds.length nc)).heap.size=W4.heap.size:=by simp
   have HAX:=qI ((Apart.of_below (K:=λj=>U.heap.size<=j) HW4.out).trans (Apart.setCell (K:=λj=>U.heap.size<=j) hgN W4 (k*6+5) (.slice na ds.length nc)));have HNR:=qI (HR4.out.set k 5 hlt (by decide) (.slice na ds.length nc) (λj=>b9 (ct cs j) (if j=k then .slice na ds.length nc else dw j)) (λi _ hi=>by simp [hi]) (λi hi=>by
    match i,hi with
    | 0,_=>simp [b9]
    | 1,_=>simp [b9]
    | 2,_=>simp [b9]
    | 3,_=>simp [b9]
    | 4,_=>simp [b9]
    | 5,_=>simp [b9]) rfl)
   have HS5:=qI (show (W4.setCell ⟨g,k*6+5,none⟩ (.slice na ds.length nc)).cell? ⟨w.heap.size,2,none⟩=some (.slice (some ⟨g,0,none⟩) cs.length c)/\(W4.setCell ⟨g,k*6+5,none⟩ (.slice na ds.length nc)).cell? ⟨wr.heap.size,5,none⟩=some (.slice ia ds.length ic) from ⟨(World.cell?_of_block (a:=⟨w.heap.size,2,none⟩) (HSB.out w.heap.size (by omega))).trans HS4.out.1,(World.cell?_of_block (a:=⟨wr.heap.size,5,none⟩) (HSB.out wr.heap.size (by omega))).trans HS4.out.2⟩);refine rd 8 (λK hK=>?_);go_simp;refine hK.out _ _ HS5.out (λhHeld=>?_);clear hK K;generalize W4.setCell ⟨g,k*6+5,none⟩ (.slice na ds.length nc)=W5 at *;refine Qn (by kernel_rfl) ?_ _;clear hHeld
   go_wp2
   go_roundw
   case rel=>
    refine ⟨k+1,λj=>if j=k then .slice na ds.length nc else dw j,by omega,by go_num,HAP.out.trans HAX.out,λ_=>HNR.out,λj hj=>?_,λj hj=>?_⟩
    ·by_cases hjk:j=k
     ·subst hjk;dsimp only;rw [if_pos rfl,HXS.out];refine HNI.out.le (bg (λb hb1 hb2=>?_) (by rw [hszS];exact lR));have hb2:¬ b<wr.heap.size+1:=by simpa [World.drew] using hb2
      exact ⟨by omega,HSB.out b (by omega)⟩
     ·dsimp only;rw [if_neg hjk];refine (HDONE.out j (by omega)).le (bg (λb hb1 hb2=>⟨hb2,?_⟩) (by rw [hszS];omega));rw [HSB.out b (by omega)];exact HW4.out.block b hb1
    ·dsimp only;rw [if_neg (by omega)];exact HREST.out j (by omega)
   case measure=>simp [intOf];omega
  ·have hke:k=cs.length:=by omega
   subst hke;have HFIN:Hid (aE (fresh U.heap.size wr) (.slice ao cs.length c) cs):=by
    unfold Hid
    by_cases h0:0<cs.length
    ·obtain ⟨ha,_,hin⟩:=HG.out h0;rw [ha];exact (Es (HROW.out h0) rfl HCAP.out (λj hj=>(HDONE.out j hj).le (bg (λb _ hb2=>⟨by omega,rfl⟩) (lR))))
    ·exact ⟨ao,c,rfl,HCAP.out,λh=>absurd h h0⟩
   obtain ⟨u0,u1,u2⟩:wr.cell? ⟨w.heap.size,0,none⟩=some (.string nm)/\wr.cell? ⟨w.heap.size,1,none⟩=some (.int .i64 pr)/\wr.cell? ⟨w.heap.size,2,none⟩=some (.slice ao cs.length c):=⟨ad hpp 0,ad hpp 1,ad hpp 2⟩;obtain ⟨v0,v1,v2⟩:wr.cell? ⟨w.heap.size+1,0,none⟩=some (.string ⟨#[]⟩)/\wr.cell? ⟨w.heap.size+1,1,none⟩=some (.int .i64 0)/\wr.cell? ⟨w.heap.size+1,2,none⟩=some (.slice none 0 0):=⟨ad hpq 0,ad hpq 1,ad hpq 2⟩;have f0:=aq hpq 0;have f1:=aq hpq 1;have f2:=aq hpq 2;have HPQ3:=qI (aj (aj (aj HPQ.out 0 (.string nm)) 1 (.int .i64 pr)) 2 (.slice ao cs.length c));have HBZ:=qI ((((HAP.out.below HB1.out (lR) (λj hj=>by omega)).setCell (p:=⟨w.heap.size+1,0,none⟩) (Nat.le_succ _) (.string nm)).setCell (p:=⟨w.heap.size+1,1,none⟩) (Nat.le_succ _) (.int .i64 pr)).setCell (p:=⟨w.heap.size+1,2,none⟩) (Nat.le_succ _) (.slice ao cs.length c));have HFZ:Hid (aE (fresh w.heap.size (((wr.setCell ⟨w.heap.size+1,0,none⟩ (.string nm)).setCell ⟨w.heap.size+1,1,none⟩ (.int .i64 pr)).setCell ⟨w.heap.size+1,2,none⟩ (.slice ao cs.length c))) (.slice ao cs.length c) cs):=HFIN.out.le (j5 (λj h1 _=>(set_other (by omega)).trans ((set_other (by omega)).trans (set_other (by omega)))) (by simp) (by omega));clear hpp hpq
   go_wp2_with fail
   generalize ((wr.setCell ⟨w.heap.size+1,0,none⟩ (.string nm)).setCell ⟨w.heap.size+1,1,none⟩ (.int .i64 pr)).setCell ⟨w.heap.size+1,2,none⟩ (.slice ao cs.length c)=WZ at *;(try simp only [Exit.inBlock,Exit.then]);refine bodyPost_ret (v:=.agg #[.string nm,.int .i64 pr,.slice ao cs.length c]) ?_ rfl ⟨ao,c,rfl,HFZ.out,HBZ.out⟩;have r0:WZ.cell? ⟨w.heap.size+1,0,none⟩=some (.string nm):=ad HPQ3.out 0;have r1:WZ.cell? ⟨w.heap.size+1,1,none⟩=some (.int .i64 pr):=ad HPQ3.out 1;have r2:WZ.cell? ⟨w.heap.size+1,2,none⟩=some (.slice ao cs.length c):=ad HPQ3.out 2;rw [my rfl];clear u0 u1 u2 v0 v1 v2 f0 f1 f2;go_simp
end
section
open RowKit
theorem Hl (Be Bd Bm nn:Nat) (xs:List RV) (w:World) (he:ef w Be Bd Bm) (hm:aW w Bm nn xs) (hl:xs.length<=1000) (hd:∀ x∈xs,bn w x/\x.dn<=1000) :
  Calls Tryz.prog 39 #[.pointer (some ⟨Be,0,none⟩)] w λe w'=>(∃ v ys,e=.returned v/\iY w.heap.size w' v ys/\(∀ y∈ys,(bn w' y/\y.dn<=1000)/\gW w.heap.size y)/\(ys.map (aC w')).Perm (xs.map (aC w))/\jD ys)/\Below w.heap.size w w':=by
 obtain ⟨_,c1⟩:=he.cells;have hb0:=(Q0 w.heap.size w).alloc (lR) (.cells #[.map (some Bm)] 147);have HB0:=qI hb0;have HSF:=qI (GY w.heap.size Bm nn xs (w.alloc (.cells #[.map (some Bm)] 147)) (by simp) (hm.block (hb0.block Bm hm.lt)) hl);have HD:=qI hd;have hs0:(w.alloc (.cells #[.map (some Bm)] 147)).heap.size=w.heap.size+1:=by simp
 clear hm he hd hb0
 go_enter Tryz.func39,Tryz.ntmps39
 go_wp2_with fail
 refine (Gg _ _).mono ?_;rintro e w1 ⟨rfl,rfl⟩
 go_wp2_with fail
 generalize w.alloc (.cells #[.map (some Bm)] 147)=W1 at *;refine HSF.out.mono ?_;rintro e w2 ⟨⟨v,qs,rfl,hq,hqp,hqo⟩,hb2⟩;have HB2:=qI (HB0.out.trans (hb2.mono HB0.out.size));have hql:qs.length<=1000:=by rw [hqp.length_eq];exact hl
 have HQD:=qI (show ∀ j,j<qs.length->bn w (rv qs j)/\(rv qs j).dn<=1000 from λj hj=>HD.out _ (hqp.mem_iff.1 (pS hj)));have HQP:=qI (hqp.map (aC w));have HQO:=qI hqo;obtain ⟨a,c,rfl,hac,hr⟩:=hq;obtain ⟨g,hg,hrows⟩:∃ g,(0<qs.length->a=some ⟨g,0,none⟩/\w.heap.size<g/\g<w2.heap.size)/\i6 w2 g qs:=by
  by_cases h0:0<qs.length
  ·obtain ⟨g,ha,hg1,hg2,hc⟩:=hr h0;exact ⟨g,λ_=>⟨ha,by omega,hg2⟩,hc⟩
  ·exact ⟨0,λh=>absurd h h0,λk hk=>by omega⟩
 have HG:=qI hg;have HROWS:=qI hrows;clear hg hrows hr hqp hqo hb2 HSF HB0 HD c1
 go_wp2
 go_loopw [14] (λi wr=>∃ (k:Nat) (ys:List RV),k<=qs.length/\i=.int .i64 k/\ys.length=qs.length/\Below w.heap.size w wr/\i6 wr g ys/\(0<qs.length->g<wr.heap.size)/\Hid (∀ j,j<k->bn wr (rv ys j)/\aC wr (rv ys j)=aC w (rv qs j)/\(rv ys j).dn<=1000/\jE g (rv ys j)/\gW w.heap.size (rv ys j))/\Hid (∀ j,k<=j->j<qs.length->rv ys j=rv qs j)) (λi _=>qs.length - (intOf i).toNat)
 case atStart=>exact ⟨0,qs,by omega,rfl,rfl,HB2.out,HROWS.out,λh=>(HG.out h).2.2,λj hj=>by omega,λj _ _=>rfl⟩
 case round=>
  obtain ⟨k,ys,hk,rfl,hyl,hB,hR,hgl,HDONE,HREST⟩:=hrel
  by_cases hlt:k<qs.length
  ·obtain ⟨rfl,hg1,_⟩:=HG.out (by omega);have hgw:=hgl (by omega);have HB:=qI hB;have HR:=qI hR;have hcell:=hR k (by omega);rw [HREST.out k (lR) hlt] at hcell;obtain ⟨⟨c0,c1,c2,c3⟩,f0,f1,f2,f3⟩:=hcell;obtain ⟨hdk,hdn⟩:=HQD.out k hlt;obtain ⟨hd1,hd2⟩:=hdk.below (hB.alloc hB.size (.cells #[.string (rv qs k).pod,.string (rv qs k).cont,.int .u64 (rv qs k).cpus,.slice (rv qs k).da (rv qs k).dn (rv qs k).dc] 111)) (λ_ _ _ h=>h);have HAP:=qI (pQ (rv qs k) _ hd1 hdn);have HD2:=qI hd2;clear hB hR hgl hd1 hd2 hdk;generalize hx:rv qs k=x at *;have HX:=qI hx;clear hx
   go_wp2_with fail
   refine HAP.out.mono ?_;rintro e w3 ⟨a',c',rfl,ho,hdv,hdf,hb3⟩;have hba:=(Q0 wr.heap.size wr).alloc (lR) (.cells #[.string x.pod,.string x.cont,.int .u64 x.cpus,.slice x.da x.dn x.dc] 111);have hbx:=hba.trans (hb3.mono (by simp));have HBX:=qI hbx;have HB3:=qI (HB.out.trans (hbx.mono HB.out.size));have hR3:=HR.out.block (hbx.block g hgw);have HR3:=qI hR3;have HO:=qI ho.1;have HDV:=qI (hdv.trans HD2.out);have HDF:=qI (show gW w.heap.size { x with da:=a',dc:=c' } from λh0=>by
    obtain ⟨g2,hg2,hg3⟩:=hdf h0;refine ⟨g2,hg2,?_⟩
    simp at hg3
    have:=HB.out.size
    omega)
   have HAW:=qI (show jE g { x with da:=a',dc:=c' } from λh0 g' o' e=>by
    obtain ⟨g2,hg2,hg3⟩:=hdf h0;rw [hg2] at e;cases e
    simp at hg3
    omega)
   have hg3:g<w3.heap.size:=Q1 hgw hbx.size;obtain ⟨⟨d0,d1,d2,d3⟩,e0,e1,e2,e3⟩:=hR3 k (by omega);clear ho hdv hdf hb3 hba hbx hR3 HAP HD2 HR c0 c1 c2 c3 f0 f1 f2 f3;generalize rv ys k=z at *
   go_wp2_with fail
   have HRF:=qI (HR3.out.set (k:=k) (by omega) { x with da:=a',dc:=c' });have HBF:=qI (G7 HB3.out (g:=g) (by omega) (k*4) { x with da:=a',dc:=c' });have HKB:=qI (λb (hb:b≠g)=>G8 w3 g (k*4) { x with da:=a',dc:=c' } b hb);have hszF:(dA w3 g (k*4) { x with da:=a',dc:=c' }).heap.size=w3.heap.size:=by simp [dA]
   have HNEW:=qI (show ∀ j,j<k+1->bn (dA w3 g (k*4) { x with da:=a',dc:=c' }) (rv (ys.set k { x with da:=a',dc:=c' }) j)/\aC (dA w3 g (k*4) { x with da:=a',dc:=c' }) (rv (ys.set k { x with da:=a',dc:=c' }) j)=aC w (rv qs j)/\(rv (ys.set k { x with da:=a',dc:=c' }) j).dn<=1000/\jE g (rv (ys.set k { x with da:=a',dc:=c' }) j)/\gW w.heap.size (rv (ys.set k { x with da:=a',dc:=c' }) j) from λj hj=>by
    rw [pR ys k j _ (by omega)]
    by_cases e:j=k
    ·rw [if_pos e];obtain ⟨h1,h2⟩:=pT (w':=dA w3 g (k*4) { x with da:=a',dc:=c' }) HO.out HAW.out (λb hb _=>HKB.out b hb) (by omega);refine ⟨h1,?_,hdn,HAW.out,HDF.out⟩;subst e;rw [HX.out];unfold aC;rw [h2,HDV.out]
    ·rw [if_neg e];obtain ⟨h1,h2,h3,h4,h9⟩:=HDONE.out j (by omega);obtain ⟨h5,h6⟩:=h1.below HBX.out (λ_ _ _ h=>h);obtain ⟨h7,h8⟩:=pT (w':=dA w3 g (k*4) { x with da:=a',dc:=c' }) h5 h4 (λb hb _=>HKB.out b hb) (by omega);refine ⟨h7,?_,h3,h4,h9⟩;rw [<- h2];unfold aC;rw [h8,h6])
   have HRST:=qI (show ∀ j,k+1<=j->j<qs.length->rv (ys.set k { x with da:=a',dc:=c' }) j=rv qs j from λj h1 h2=>by
    rw [pR ys k j _ (by omega),if_neg (by omega)];exact HREST.out j (by omega) h2)
   exact ⟨⟨k+1,ys.set k { x with da:=a',dc:=c' },by omega,by go_num,by simp [hyl],HBF.out,HRF.out,λ_=>by rw [<- hszF] at hg3;exact hg3,HNEW,HRST⟩,by simp [intOf];omega⟩
  ·have hke:k=qs.length:=by omega
   subst hke;have HB:=qI hB;have HEND:=qI (Ha hyl (λj hj=>(HDONE.out j hj).2.1));have HORD:=qI (G9 hyl (λj hj=>by
    have:=(HDONE.out j hj).2.1
    unfold aC at this;simp only [Rn.mk.injEq] at this;exact ⟨this.1,this.2.1⟩) HQO.out)
   have HDV:=qI (show ∀ y∈ys,(bn wr y/\y.dn<=1000)/\gW w.heap.size y from λy hy=>by
    obtain ⟨i,hi,rfl⟩:=List.getElem_of_mem hy
    have:=HDONE.out i (by omega)
    simp [rv,hi] at this
    exact ⟨⟨this.1,this.2.2.1⟩,this.2.2.2.2⟩)
   have HRA:=qI (show iY w.heap.size wr (.slice a qs.length c) ys from ⟨a,c,by rw [hyl],by omega,λh0=>⟨g,(HG.out (by omega)).1,by have:=(HG.out (by omega)).2.1;omega,hgl (by omega),hR⟩⟩);clear hB hR hgl HDONE HREST
   go_wp2
   go_ret;exact ⟨⟨_,ys,rfl,HRA.out,HDV.out,by rw [HEND.out];exact HQP.out,HORD.out⟩,HB.out⟩
end
section
open RowKit Shelf
attribute [local go_sem] Oper.semAt_some
theorem Hm (ax ay:Option Addr) (cx cy:Nat) (xs ys:List Int) (w:World) (hmx:xs.length<=1000) (hmy:ys.length<=1000) (hrx:0<xs.length->∃ b o,ax=some ⟨b,o,none⟩/\b<w.heap.size/\∀ k,k<xs.length->w.cell? ⟨b,o+k,none⟩=some (.int .i64 (xs.getD k 0))) (hry:0<ys.length->∃ b o,ay=some ⟨b,o,none⟩/\b<w.heap.size/\∀ k,k<ys.length->w.cell? ⟨b,o+k,none⟩=some (.int .i64 (ys.getD k 0))):Calls Tryz.prog 143 #[.slice ax xs.length cx,.slice ay ys.length cy] w λe w'=>e=.returned (.bool (decide (xs=ys)))/\∃ n,w'=w.drewN n:=by
 by_cases hlen:xs.length=ys.length
 ·have hln:((xs.length:Int) != (ys.length:Int))=false:=by rw [hlen];simp
  have HX:=qI hrx;have HY:=qI hry;have HLEN:=qI hlen;clear hrx hry hlen
  go_enter Tryz.func143,Tryz.ntmps143
  go_wp2
  go_loopw [13] (λi wr=>∃ k n:Nat,k<=xs.length/\i=.int .i64 k/\wr=w.drewN n/\Hid (∀ j,j<k->xs.getD j 0=ys.getD j 0)) (λi _=>xs.length - (intOf i).toNat)
  case atStart=>exact ⟨0,0,by omega,rfl,rfl,λj hj=>by omega⟩
  case round=>
   obtain ⟨k,n,hk,rfl,rfl,HALL⟩:=hrel
   by_cases hlt:k<xs.length
   ·have hlt2:k<ys.length:=by rw [<- HLEN.out];exact hlt
    obtain ⟨b1,o1,rfl,hb1,hc1⟩:=HX.out (by omega);obtain ⟨b2,o2,rfl,hb2,hc2⟩:=HY.out (by omega);have x0:w.cell? ⟨b1,o1+k,none⟩=some (.int .i64 (xs.getD k 0)):=hc1 k hlt;have y0:w.cell? ⟨b2,o2+k,none⟩=some (.int .i64 (ys.getD k 0)):=hc2 k hlt2;have hk1:(k:Int)<(xs.length:Int):=by omega
    have hk2:(k:Int)<(ys.length:Int):=by omega
    clear hc1 hc2;obtain ⟨p,hp⟩:∃ p,p=xs.getD k 0:=⟨_,rfl⟩;obtain ⟨q,hq⟩:∃ q,q=ys.getD k 0:=⟨_,rfl⟩;rw [<- hp] at x0;rw [<- hq] at y0;have HP:=qI hp;have HQ:=qI hq;clear hp hq
    by_cases he:p=q
    ·have HE:=qI he;have hb:(p != q)=false:=by rw [he];simp
     clear he
     go_wp2
     go_quiet (fail)
     go_wp2
     go_roundw
     case rel=>
      refine ⟨k+1,n+nq,by omega,by go_num,rfl,λj hj=>?_⟩
      by_cases hjk:j=k
      ·subst hjk;rw [<- HP.out,<- HQ.out];exact HE.out
      ·exact HALL.out j (by omega)
     case measure=>simp [intOf];omega
    ·have hb:(p != q)=true:=by simp [he]
     have HD:Hid (decide (xs=ys)=false):=Q7 λe=>he (by rw [HP.out,HQ.out,e])
     clear he
     go_wp2
     go_quiet (fail)
     go_wp2
     go_ret;exact ⟨by rw [HD.out];rfl,n+nq,by rw [World.drewN_drewN]⟩
   ·have hke:k=xs.length:=by omega
    have HD:Hid (decide (xs=ys)=true):=Qc (List.ext_getElem HLEN.out λi h1 h2=>by
     have:=HALL.out i (by omega)
     simpa [h1,h2] using this)
    go_wp2
    go_ret;exact ⟨by rw [HD.out];rfl,n,rfl⟩
 ·have hln:((xs.length:Int) != (ys.length:Int))=true:=by simp;omega
  have HD:Hid (decide (xs=ys)=false):=Q7 λe=>hlen (by rw [e])
  go_enter Tryz.func143,Tryz.ntmps143
  go_wp2
  go_ret;exact ⟨by rw [HD.out];rfl,0,rfl⟩
end
section
open RowKit Shelf
open Qos (Nd Ct Pd nd ct pd ltS aQ)
open Sv (Gv Hd gv hd)
attribute [local go_sem] Oper.semAt_some
theorem pU (xn:ByteArray) (xp:Int) (cv gvv:Value) (nm:ByteArray) (w:World):Calls Tryz.prog 92 #[.agg #[.string xn,.int .i64 xp,cv,gvv],.string nm] w λe w'=>e=.returned (.int .i64 (aQ xn nm))/\Below w.heap.size w w':=by
 have HB:=qI ((Q0 w.heap.size w).alloc (lR) (.cells #[.string xn,.int .i64 xp,cv,gvv] 57))
 go_enter Tryz.func92,Tryz.ntmps92
 go_wp2_with fail
 refine (pO xn nm _).mono ?_;rintro e w1 ⟨rfl,rfl⟩
 go_wp2
 go_ret;exact ⟨rfl,HB.out⟩
theorem iz {a b:ByteArray}:aQ a b<0↔Ol.cL a b:=by
 unfold aQ Ol.cL;have e:ltS a b=decide (a.toList<b.toList):=Go.Proofs.bytesLess_eq _ _;rw [e]
 by_cases h:a.toList<b.toList
 ·simp [h]
 ·rw [Q7 h];simp only [Bool.false_eq_true,if_false];constructor
  ·intro h2;split at h2 <;> omega
  ·intro h2;exact absurd h2 h
theorem Hn {hs:List Hd} {nm:ByteArray} {a:Nat} (ha:a<=hs.length) (h1:∀ t,t<a->Ol.cL (hd hs t).pod.nm nm) (h2:∀ t,a<=t->t<hs.length->¬ Ol.cL (hd hs t).pod.nm nm):Ol.bZ hs nm=a:=by
 unfold Ol.bZ;rw [<- List.take_append_drop a hs,List.countP_append];have e1:(hs.take a).countP (λh=>decide (h.pod.nm.toList<nm.toList))=(hs.take a).length:=by
  rw [List.countP_eq_length];intro x hx;obtain ⟨k,hk,rfl⟩:=List.getElem_of_mem hx;rw [Qu] at hk
  have:=h1 k (by omega)
  have e:hd hs k=(hs.take a)[k]'(by rw [Qu];omega):=by simp [hd,show k<hs.length by omega]
  rw [e] at this;exact Qc this
 have e2:(hs.drop a).countP (λh=>decide (h.pod.nm.toList<nm.toList))=0:=by
  rw [List.countP_eq_zero];intro x hx;obtain ⟨k,hk,rfl⟩:=List.getElem_of_mem hx;rw [List.length_drop] at hk
  have:=h2 (a+k) (by omega) (by omega)
  have e:hd hs (a+k)=(hs.drop a)[k]'(by rw [List.length_drop];omega):=by simp [hd,show a+k<hs.length by omega]
  rw [e] at this;have h3:¬ ((hs.drop a)[k]'(by rw [List.length_drop];omega)).pod.nm.toList<nm.toList:=this;rw [Q7 h3];decide
 rw [e1,e2,Qu];omega
def ch (hs:List Hd) (nm:ByteArray):Bool:=hs.any λh=>decide (h.pod.nm=nm)
theorem pV {hs:List Hd} (hr:Ol.gR hs) {i j:Nat} (hij:i<j) (hj:j<hs.length):Ol.cL (hd hs i).pod.nm (hd hs j).pod.nm:=by
 have:=List.pairwise_iff_getElem.1 hr i j (by omega) hj hij
 have e1:hd hs i=hs[i]'(by omega):=by simp [hd,show i<hs.length by omega]
 have e2:hd hs j=hs[j]:=by simp [hd,hj]
 rw [e1,e2];exact this
theorem vz {hs:List Hd} (hr:Ol.gR hs) {nm:ByteArray} {a:Nat} (h1:∀ t,t<a->aQ (hd hs t).pod.nm nm<0) (h2:∀ t,a<=t->t<hs.length->¬ aQ (hd hs t).pod.nm nm<0) (h3:a<hs.length->(hd hs a).pod.nm≠nm):ch hs nm=false:=by
 unfold ch;rw [List.any_eq_false];intro x hx;obtain ⟨t,ht,rfl⟩:=Sv.mA hx;intro e;have e:=of_decide_eq_true e
 by_cases c1:t<a
 ·have:=iz.1 (h1 t c1)
  rw [e] at this;exact Ol.mL _ this
 ·by_cases c2:t=a
  ·subst c2;exact h3 ht e
  ·have h4:=pV hr (show a<t by omega) ht;rw [e] at h4;exact h2 a (lR) (by omega) (iz.2 h4)
theorem vA {a b:ByteArray}:aQ a b=0↔a=b:=by
 constructor
 ·intro h;apply Qt;intro hne
  rcases Ol.pt hne with k|k
  ·have:=iz.2 k;omega
  ·have k2:ltS b a=true:=by
    have e:ltS b a=decide (b.toList<a.toList):=Go.Proofs.bytesLess_eq _ _;rw [e];exact Qc k
   unfold aQ at h
   split at h
   ·cases h
   ·first|(rw [if_pos k2] at h;cases h)|cases h
 ·rintro rfl;have hn:ltS a a=false:=by
   have e:ltS a a=decide (a.toList<a.toList):=Go.Proofs.bytesLess_eq _ _;rw [e];exact Q7 (Ol.mL a)
  unfold aQ;rw [hn];rfl
theorem Ho (v:Value) (hs:List Hd) (nm:ByteArray) (w:World) (h:aM w v hs) (hl:hs.length<=100) (hri:Ol.gR hs):Calls Tryz.prog 91 #[v,.string nm,.func (.func 92) #[] #[]] w λe w'=>e=.returned (.tuple #[.int .i64 (Ol.bZ hs nm:Nat),.bool (ch hs nm)])/\Below w.heap.size w w':=by
 have HRI:=qI hri;obtain ⟨ao,c,rfl,hm,hr⟩:=h;unfold maxLen at hm;have HR:=qI hr;clear hr hri
 go_enter Tryz.func91,Tryz.ntmps91
 go_wp2
 go_loopw [9,10] (λi j wr=>∃ a b:Nat,a<=b/\b<=hs.length/\i=.int .i64 a/\j=.int .i64 b/\Hid (∀ t,t<a->aQ (hd hs t).pod.nm nm<0)/\Hid (∀ t,b<=t->t<hs.length->0<=aQ (hd hs t).pod.nm nm)/\Below w.heap.size w wr) (λi j _=>(intOf j).toNat - (intOf i).toNat)
 case atStart=>exact ⟨0,hs.length,by omega,by omega,rfl,rfl,λt ht=>by omega,λt h1 h2=>by omega,Q0 _ _⟩
 case round=>
  obtain ⟨a,b,hab,hb,rfl,rfl,HLO,HHI,hbel⟩:=hrel;have HB:=qI hbel
  by_cases hlt:a<b
  ·obtain ⟨m,hm2⟩:∃ m:Nat,((a:Int)+(b:Int)) / 2=(m:Int):=⟨(a+b) / 2,by omega⟩;have ham:a<=m:=by omega
   have hmb:m<b:=by omega
   obtain ⟨bb,o,cv,gvv,rfl,hin⟩:=HR.out (by omega);obtain ⟨x0,x1,x2,x3⟩:=((hin.below hbel).2 m (by omega)).1;clear hin hbel
   by_cases hc:aQ (hd hs m).pod.nm nm<0
   ·have HL2:Hid (∀ t,t<m+1->aQ (hd hs t).pod.nm nm<0):=λt ht=>by
     by_cases e:t=m
     ·rw [e];exact hc
     ·exact iz.2 (Ol.li (pV HRI.out (show t<m by omega) (by omega)) (iz.1 hc))
    have HF:=qI (pU (hd hs m).pod.nm (hd hs m).pod.pr (cv m) (gvv m) nm wr);generalize aQ (hd hs m).pod.nm nm=z at *
    go_wp2_with fail
    refine HF.out.mono ?_;rintro e w1 ⟨rfl,hb1⟩;have HB1:=qI (HB.out.trans (hb1.mono HB.out.size));clear hb1
    go_wp2
    go_roundw
    case rel=>exact ⟨m+1,b,by omega,by omega,by go_num,rfl,HL2,HHI,HB1.out⟩
    case measure=>simp [intOf];omega
   ·have HH2:Hid (∀ t,m<=t->t<hs.length->0<=aQ (hd hs t).pod.nm nm):=λt h1 h2=>by
     refine Int.not_lt.1 λh3=>?_
     by_cases e:t=m
     ·rw [e] at h3;exact hc h3
     ·exact hc (iz.2 (Ol.li (pV HRI.out (show m<t by omega) h2) (iz.1 h3)))
    have HF:=qI (pU (hd hs m).pod.nm (hd hs m).pod.pr (cv m) (gvv m) nm wr);generalize aQ (hd hs m).pod.nm nm=z at *
    go_wp2_with fail
    refine HF.out.mono ?_;rintro e w1 ⟨rfl,hb1⟩;have HB1:=qI (HB.out.trans (hb1.mono HB.out.size));clear hb1
    go_wp2
    go_roundw
    case rel=>exact ⟨a,m,by omega,by omega,rfl,rfl,HLO,HH2,HB1.out⟩
    case measure=>simp [intOf];omega
  ·have hab':b=a:=by omega
   subst hab';have HAT:=qI (Hn hb (λt ht=>iz.1 (HLO.out t ht)) (λt h1 h2 h3=>Int.not_lt.2 (HHI.out t h1 h2) (iz.2 h3)))
   by_cases hn:b<hs.length
   ·obtain ⟨bb,o,cv,gvv,rfl,hin⟩:=HR.out (by omega);obtain ⟨x0,x1,x2,x3⟩:=((hin.below hbel).2 b hn).1;clear hin hbel;have HF:=qI (pU (hd hs b).pod.nm (hd hs b).pod.pr (cv b) (gvv b) nm wr)
    by_cases hz:aQ (hd hs b).pod.nm nm=0
    ·have HX:Hid (ch hs nm=true):=List.any_eq_true.2 ⟨hd hs b,Sv.jU hn,Qc (vA.1 hz)⟩;rw [hz] at HF
     go_wp2_with fail
     refine HF.out.mono ?_;rintro e w1 ⟨rfl,hb1⟩;have HB1:=qI (HB.out.trans (hb1.mono HB.out.size));clear hb1
     go_wp2
     go_ret2;exact ⟨by rw [HAT.out,HX.out];rfl,HB1.out⟩
    ·have HX:Hid (ch hs nm=false):=vz HRI.out HLO.out (λt h1 h2=>Int.not_lt.2 (HHI.out t h1 h2)) (λ_ e=>hz (vA.2 e));have hz':(aQ (hd hs b).pod.nm nm == 0)=false:=by simpa using hz
     generalize aQ (hd hs b).pod.nm nm=z at *
     go_wp2_with fail
     refine HF.out.mono ?_;rintro e w1 ⟨rfl,hb1⟩;have HB1:=qI (HB.out.trans (hb1.mono HB.out.size));clear hb1
     go_wp2
     go_ret2;exact ⟨by rw [HAT.out,HX.out];rfl,HB1.out⟩
   ·have HX:Hid (ch hs nm=false):=vz HRI.out HLO.out (λt h1 h2=>Int.not_lt.2 (HHI.out t h1 h2)) (λh=>absurd h hn)
    go_wp2
    go_ret2;exact ⟨by rw [HAT.out,HX.out];rfl,HB.out⟩
theorem vB (v:Value) (hs:List Hd) (nm:ByteArray) (w:World) (h:aM w v hs) (hl:hs.length<=100) (hri:Ol.gR hs):Calls Tryz.prog 49 #[v,.string nm] w λe w'=>e=.returned (.tuple #[.int .i64 (Ol.bZ hs nm:Nat),.bool (ch hs nm)])/\Below w.heap.size w w':=by
 have HS:=qI (Ho v hs nm w h hl hri);obtain ⟨ao,c,rfl,hm,_⟩:=h;generalize Ol.bZ hs nm=a at *;generalize ch hs nm=b at *
 go_enter Tryz.func49,Tryz.ntmps49
 go_wp2_with fail
 refine HS.out.mono ?_;rintro e w1 ⟨rfl,hb1⟩;have HB1:=qI hb1;clear hb1
 go_wp2
 go_ret2;exact ⟨rfl,HB1.out⟩
end
section
open RowKit Go.Maps
structure Hq (w w':World) (Bd Bm:Nat) (sn sk:Sd) (sv:Value) (n:Nat) (xs:List RV) (p c:ByteArray) (l:Int) (d:Bool) (f:Nat):Prop where
 disk:aA w' Bd sn sk sv (aO l d) (dM l d)
 out:ba Bd Bm w w'
 no:f≠0->aW w' Bm n xs
 yes:f=0->aW w' Bm n (xs.filter λx=>!decide (x.pod=p/\x.cont=c))
def kf (l:Int) (d has:Bool):Nat:=if bt l d≠0 then bt l d else if has=true then 0 else 6
theorem Hr (Be Bd Bm n:Nat) (sn sk:Sd) (sv:Value) (xs:List RV) (p c:ByteArray) (l:Int) (d:Bool) (w:World) (he:ef w Be Bd Bm) (hm:aW w Bm n xs) (hd:aA w Bd sn sk sv l d) (hl:-9223372036854775808<=l/\l<=9223372036854775807) (hp:p.size<=7000) (hc:c.size<=7000) :
  Calls Tryz.prog 104 #[.pointer (some ⟨Be,0,none⟩),.string p,.string c] w λe w'=>e=.returned (ak ((kf l d (xs.any λy=>decide (y.pod=p/\y.cont=c)):Nat):Int))/\Hq w w' Bd Bm sn sk sv n xs p c l d (kf l d (xs.any λy=>decide (y.pod=p/\y.cont=c))):=by
 obtain ⟨hn1,hn2,hn3⟩:=lz he hm hd;obtain ⟨c0,c1⟩:=he.cells;have HM1:=qI hm;have HST:=qI (kU Bd sn sk sv l d w hd hl);have HE1:=qI he;have hml:=hm.lt;have hdl:=hd.lt;have hel:=he.lt;clear he hm hd
 go_enter Tryz.func104,Tryz.ntmps104
 go_wp2_with fail
 refine HST.out.mono ?_;rintro e w2 ⟨rfl,hz2,ho2⟩;have HZ2:=qI hz2;have HO2:=qI (ba.of_grown (B1:=Bd) (B2:=Bm) ho2.1 (.inl rfl));have HM2:=qI (HM1.out.block (ho2.1.block Bm hml (by simpa using hn3.symm)));have he2:=HE1.out.block (ho2.1.block Be hel (by simpa using hn1));obtain ⟨g0,g1⟩:=he2.cells;have hsz2:w2.heap.size=w.heap.size:=ho2.2;clear hz2 ho2 he2 HST HM1 HE1 c0 c1
 by_cases hse:bt l d=0
 ·have HSE:=qI (show kf l d (xs.any λy=>decide (y.pod=p/\y.cont=c))=if (xs.any λy=>decide (y.pod=p/\y.cont=c))=true then 0 else 6 from by unfold kf;rw [if_neg (by rw [hse];decide)]);rw [hse,show ak ((0:Nat):Int)=.nilIface from rfl];obtain ⟨y,hlk⟩:=HM2.out.look2 p c hp hc;unfold fK at hlk;have hbA:=(Q0 w2.heap.size w2).alloc (lR) (.cells #[.string p,.string c] 166);have hbB:=hbA.alloc hbA.size (.cells #[.string ⟨#[]⟩,.string ⟨#[]⟩,.int .u64 0,.slice none 0 0] 111);have hbY:=hbA.alloc hbA.size (.cells #[.string y.pod,.string y.cont,.int .u64 y.cpus,.slice y.da y.dn y.dc] 111);have hq1:=hlk ((w2.alloc (.cells #[.string p,.string c] 166)).drew) ((bf hbA).block Bm (by omega));have hq2:=hlk (((w2.alloc (.cells #[.string p,.string c] 166)).alloc (.cells #[.string ⟨#[]⟩,.string ⟨#[]⟩,.int .u64 0,.slice none 0 0] 111)).drew) ((bf hbB).block Bm (by omega));have k1:=((bf hbA).cell (p:=⟨Be,1,none⟩) (by show Be<_;omega)).trans g1;have k2:=((bf hbB).cell (p:=⟨Be,1,none⟩) (by show Be<_;omega)).trans g1;have HBY:=qI (bf hbY);have HN:=qI (show (((w2.alloc (.cells #[.string p,.string c] 166)).alloc (.cells #[.string ⟨#[]⟩,.string ⟨#[]⟩,.int .u64 0,.slice none 0 0] 111)).drew).cell? ⟨w2.heap.size,0,none⟩=some (.string p)/\(((w2.alloc (.cells #[.string p,.string c] 166)).alloc (.cells #[.string ⟨#[]⟩,.string ⟨#[]⟩,.int .u64 0,.slice none 0 0] 111)).drew).cell? ⟨w2.heap.size,1,none⟩=some (.string c) from ⟨by simp,by simp⟩);have HNY:=qI (show (((w2.alloc (.cells #[.string p,.string c] 166)).alloc (.cells #[.string y.pod,.string y.cont,.int .u64 y.cpus,.slice y.da y.dn y.dc] 111)).drew).cell? ⟨w2.heap.size,0,none⟩=some (.string p)/\(((w2.alloc (.cells #[.string p,.string c] 166)).alloc (.cells #[.string y.pod,.string y.cont,.int .u64 y.cpus,.slice y.da y.dn y.dc] 111)).drew).cell? ⟨w2.heap.size,1,none⟩=some (.string c) from ⟨by simp,by simp⟩);rw [hsz2] at HN HNY;obtain ⟨n0,n1⟩:=HN.out;clear hbA hbB hbY hlk;unfold RV.val at hq1 hq2
  rcases two (xs.any λy=>decide (y.pod=p/\y.cont=c)) with hh|hh
  ·rw [hh] at hq1 hq2;have HH:=qI hh;clear hh
   go_wp2_with fail
   go_region
   all_goals
    generalize hW5:((w2.alloc (.cells #[.string p,.string c] 166)).alloc (.cells #[.string y.pod,.string y.cont,.int .u64 y.cpus,.slice y.da y.dn y.dc] 111)).drew=W5 at *;have hbd:=bf HBY.out;obtain ⟨m0,m1⟩:=HNY.out;have m0':W5.drew.cell? ⟨w.heap.size,0,none⟩=some (.string p):=m0;have m1':W5.drew.cell? ⟨w.heap.size,1,none⟩=some (.string c):=m1;have k5:W5.drew.cell? ⟨Be,1,none⟩=some (.map (some Bm)):=(hbd.cell (p:=⟨Be,1,none⟩) (by show Be<_;omega)).trans g1;obtain ⟨w7,hdel,hM7,hgr7,hsz7⟩:=(HM2.out.block (hbd.block Bm (by omega))).drop p c hp hc 0;have HM7:=qI hM7;have HZ7:=qI (show aA w7 Bd sn sk sv (aO l d) (dM l d) from (hgr7.block Bd (by have:=hbd.size;omega) (λe=>hn3 (Ql e))).trans ((hbd.block Bd (by omega)).trans HZ2.out));have HO7:=qI ((HO2.out.trans (ba.of_below hbd)).trans (ba.of_grown hgr7 (.inr rfl)));unfold fK at hdel;clear hbd hM7 hgr7 hW5 hq1 hq2 k1 k2 n0 n1 m0 m1
    go_wp2_with fail
    go_region
    all_goals
     go_wp2
     go_ret;exact ⟨by rw [HSE.out,if_pos HH.out];rfl,⟨HZ7.out,HO7.out,λh0=>absurd (by rw [HSE.out,if_pos HH.out]) h0,λ_=>HM7.out⟩⟩
  ·rw [hh] at hq1 hq2;have HH:=qI hh;clear hh
   go_wp2_with fail
   go_region
   all_goals
    generalize ((w2.alloc (.cells #[.string p,.string c] 166)).alloc (.cells #[.string y.pod,.string y.cont,.int .u64 y.cpus,.slice y.da y.dn y.dc] 111)).drew=W5 at *
    go_wp2
    go_ret;exact ⟨by rw [HSE.out,if_neg (by rw [HH.out];decide)];rfl,⟨(HBY.out.block Bd (by omega)).trans HZ2.out,HO2.out.trans (ba.of_below HBY.out),λ_=>HM2.out.block (HBY.out.block Bm (by omega)),λh0=>by rw [HSE.out,if_neg (by rw [HH.out];decide)] at h0;cases h0⟩⟩
 ·have h11:=vr hse;have HSE:=qI (show kf l d (xs.any λy=>decide (y.pod=p/\y.cont=c))=11 from by unfold kf;rw [if_pos hse];exact h11);rw [h11,show ak ((11:Nat):Int)=.iface 121 (.int .i64 11) from rfl]
  go_wp2
  go_ret;exact ⟨by rw [HSE.out];rfl,⟨HZ2.out,HO2.out,λ_=>HM2.out,λh0=>by rw [HSE.out] at h0;cases h0⟩⟩
end
