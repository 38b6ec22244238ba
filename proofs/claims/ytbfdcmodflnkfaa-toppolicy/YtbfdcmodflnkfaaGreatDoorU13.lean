/- OE1, OE2 -/
import Derived.Test.YtbfdcmodflnkfaaGreatDoorU12
set_option maxRecDepth 100000
set_option maxHeartbeats 16000000
namespace Go.Proofs.YtbfdcmodflnkfaaGreatDoor
section
open Go.RowKit Go.Maps
theorem DiskW.notInt {w:World} {B:Nat} {n k:Sd} {v:Value} {l:Int} {d:Bool} (h:DiskW w B n k v l d):∀ (arr:Array Value) (z:Nat × Nat),w.heap[B]?≠some (Obj.cells arr 3 z):=fun arr z e=>by
 rw [show w.heap[B]?=_ from h] at e
 cases e
theorem apart_engW {w:World} {Be Bd Bm n:Nat} {xs:List RV} {sn sk:Sd} {sv:Value} {l:Int} {d:Bool} (he:EngAt w Be Bd Bm) (hm:MapR w Bm n xs) (hd:DiskW w Bd sn sk sv l d):Be≠Bd∧Be≠Bm∧Bd≠Bm:=by
 obtain ⟨es,clock,hmm⟩:=hm.isMap
 refine ⟨fun e=>?_,fun e=>?_,fun e=>?_⟩
 ·subst e;have h1:=he;unfold EngAt at h1;rw [show w.heap[Be]?=_ from hd] at h1;cases h1
 ·subst e;have h1:=he;unfold EngAt at h1;rw [hmm] at h1;cases h1
 ·subst e;have h1:=hd;unfold DiskW at h1;rw [hmm] at h1;cases h1
structure StartedW (w w':World) (Bd Bm:Nat) (sn sk:Sd) (sv:Value) (n:Nat) (xs:List RV) (x:RV) (l:Int) (d:Bool) (f:Nat):Prop where
 disk:DiskW w' Bd sn sk sv (stepN l d) (stepF l d)
 out:OutR Bd Bm w w'
 no:f≠0→MapR w' Bm n xs
 yes:f=0→∃ a c,MapR w' Bm (n+1) ({ x with da:=a,dc:=c } :: xs)∧DevOwn w' { x with da:=a,dc:=c }∧devsOf w' { x with da:=a,dc:=c }=devsOf w x
def startE (l:Int) (d has:Bool):Nat:=if stepE l d≠0 then stepE l d else if has=true then 5 else 0
theorem stepE_pos {l:Int} {d:Bool} (h:stepE l d≠0):stepE l d=11:=by
 unfold stepE at *
 split
 ·rfl
 ·rename_i hc;rw [if_neg hc] at h;exact absurd rfl h
theorem startW_any (Be Bd Bm n:Nat) (sn sk:Sd) (sv:Value) (xs:List RV) (x:RV) (l:Int) (d:Bool) (w:World) (he:EngAt w Be Bd Bm) (hm:MapR w Bm n xs) (hd:DiskW w Bd sn sk sv l d) (hl:-9223372036854775808≤l∧l≤9223372036854775807) (hx:x.Short) (hdv:DevsOk w x) (haw:Away Bd x) (hdn:x.dn≤1000) (hn:n<1000) :
  Calls Tryz.prog 77 #[.pointer (some ⟨Be,0,none⟩),.agg #[.string x.pod,.string x.cont,.int .u64 x.cpus,.slice x.da x.dn x.dc]] w fun e w'=>e=.returned (errV ((startE l d (xs.any fun y=>decide (y.pod=x.pod∧y.cont=x.cont)):Nat):Int))∧StartedW w w' Bd Bm sn sk sv n xs x l d (startE l d (xs.any fun y=>decide (y.pod=x.pod∧y.cont=x.cont))):=by
 obtain ⟨hn1,hn2,hn3⟩:=apart_engW he hm hd
 have hb1:=(Below.refl w.heap.size w).alloc (Nat.le_refl _) (.cells #[.string x.pod,.string x.cont,.int .u64 x.cpus,.slice x.da x.dn x.dc] 154)
 have he1:=he.block (hb1.block Be he.lt)
 obtain ⟨c0,c1⟩:=he1.cells
 have HM1:=hZz (hm.block (hb1.block Bm hm.lt))
 have hd1:DiskW (w.alloc (.cells #[.string x.pod,.string x.cont,.int .u64 x.cpus,.slice x.da x.dn x.dc] 154)) Bd sn sk sv l d:=(hb1.block Bd hd.lt).trans hd
 have HST:=hZz (stepW_any Bd sn sk sv l d _ hd1 hl)
 have HX1:=hZz (RBox.made w x)
 obtain ⟨hv1,hv2⟩:=hdv.below hb1 (fun _ _ _ h=>h)
 have HV1:=hZz hv1
 have HV2:=hZz hv2
 have HB1:=hZz hb1
 have HE1:=hZz he1
 have hml:=hm.lt
 have hdl:=hd.lt
 have hel:=he.lt
 clear he hm hd hb1 he1 hd1 hv1 hv2
 go_enter Tryz.func77,Tryz.ntmps77
 go_wp2_with fail
 generalize hW1:w.alloc (.cells #[.string x.pod,.string x.cont,.int .u64 x.cpus,.slice x.da x.dn x.dc] 154)=W1 at *
 have hsz1:W1.heap.size=w.heap.size+1:=by rw [← hW1];simp
 clear hW1
 refine HST.out.mono ?_
 rintro e w2 ⟨rfl,hz2,ho2⟩
 have HZ2:=hZz hz2
 have HO2:=hZz (OutR.trans (OutR.of_below HB1.out) (OutR.of_grown (B1:=Bd) (B2:=Bm) ho2.1 (.inl rfl)))
 have HM2:=hZz (HM1.out.block (ho2.1.block Bm (by omega) (by simpa using hn3.symm)))
 have he2:=HE1.out.block (ho2.1.block Be (by omega) (by simpa using hn1))
 have HE2:=hZz he2
 obtain ⟨g0,g1⟩:=he2.cells
 have hx2:RBox w2 w.heap.size x:=(ho2.1.block w.heap.size (by omega) (by intro e;cases e;omega)).trans HX1.out
 have HX2:=hZz hx2
 obtain ⟨hk2a,hk2b⟩:=devs_away (w':=w2) HV1.out haw (fun b hb hlt=>ho2.1.block b hlt (by simpa using hb)) (Nat.le_of_eq ho2.2.symm)
 have HK2:=hZz hk2a
 have HK2b:=hZz (hk2b.trans HV2.out)
 have hsz2:w2.heap.size=w.heap.size+1:=by rw [ho2.2];exact hsz1
 obtain ⟨r0,r1,r2,r3⟩:=hx2.cells
 clear hz2 ho2 he2 hx2 HST HM1 HX1 HE1 c0 c1 hk2a hk2b HV1 HV2
 by_cases hse:stepE l d=0
 ·have HSE:=hZz (show startE l d (xs.any fun y=>decide (y.pod=x.pod∧y.cont=x.cont))=if (xs.any fun y=>decide (y.pod=x.pod∧y.cont=x.cont))=true then 5 else 0 from by unfold startE;rw [if_neg (by rw [hse];decide)])
  rw [hse,show errV ((0:Nat):Int)=.nilIface from rfl]
  obtain ⟨y,hlk⟩:=HM2.out.look2 x.pod x.cont hx.1 hx.2
  unfold nameV at hlk
  have hbA:=(Below.refl w2.heap.size w2).alloc (Nat.le_refl _) (.cells #[.string x.pod,.string x.cont] 212)
  have hbB:=hbA.alloc hbA.size (.cells #[.string ⟨#[]⟩,.string ⟨#[]⟩,.int .u64 0,.slice none 0 0] 154)
  have hbY:=hbA.alloc hbA.size (.cells #[.string y.pod,.string y.cont,.int .u64 y.cpus,.slice y.da y.dn y.dc] 154)
  have hq1:=hlk ((w2.alloc (.cells #[.string x.pod,.string x.cont] 212)).drew) ((below_drewR hbA).block Bm (by omega))
  have hq2:=hlk (((w2.alloc (.cells #[.string x.pod,.string x.cont] 212)).alloc (.cells #[.string ⟨#[]⟩,.string ⟨#[]⟩,.int .u64 0,.slice none 0 0] 154)).drew) ((below_drewR hbB).block Bm (by omega))
  have k1:=((below_drewR hbA).cell (p:=⟨Be,1,none⟩) (by show Be<_;omega)).trans g1
  have k2:=((below_drewR hbB).cell (p:=⟨Be,1,none⟩) (by show Be<_;omega)).trans g1
  have HBY:=hZz (below_drewR hbY)
  have HN:=hZz (show (((w2.alloc (.cells #[.string x.pod,.string x.cont] 212)).alloc (.cells #[.string ⟨#[]⟩,.string ⟨#[]⟩,.int .u64 0,.slice none 0 0] 154)).drew).cell? ⟨w2.heap.size,0,none⟩=some (.string x.pod)∧(((w2.alloc (.cells #[.string x.pod,.string x.cont] 212)).alloc (.cells #[.string ⟨#[]⟩,.string ⟨#[]⟩,.int .u64 0,.slice none 0 0] 154)).drew).cell? ⟨w2.heap.size,1,none⟩=some (.string x.cont) from ⟨by simp,by simp⟩)
  have HNY:=hZz (show (((w2.alloc (.cells #[.string x.pod,.string x.cont] 212)).alloc (.cells #[.string y.pod,.string y.cont,.int .u64 y.cpus,.slice y.da y.dn y.dc] 154)).drew).cell? ⟨w2.heap.size,0,none⟩=some (.string x.pod)∧(((w2.alloc (.cells #[.string x.pod,.string x.cont] 212)).alloc (.cells #[.string y.pod,.string y.cont,.int .u64 y.cpus,.slice y.da y.dn y.dc] 154)).drew).cell? ⟨w2.heap.size,1,none⟩=some (.string x.cont) from ⟨by simp,by simp⟩)
  rw [hsz2] at HN HNY
  obtain ⟨n0,n1⟩:=HN.out
  clear hbA hbB hbY hlk
  unfold RV.val at hq1 hq2
  rcases two (xs.any fun y=>decide (y.pod=x.pod∧y.cont=x.cont)) with hh|hh
  ·rw [hh] at hq1 hq2
   have HH:=hZz hh
   clear hh
   go_wp2_with fail
   go_region
   all_goals
    generalize ((w2.alloc (.cells #[.string x.pod,.string x.cont] 212)).alloc (.cells #[.string y.pod,.string y.cont,.int .u64 y.cpus,.slice y.da y.dn y.dc] 154)).drew=W5 at *
    go_wp2_with fail
    go_ret
    exact ⟨by rw [HSE.out,if_pos HH.out];rfl,⟨(HBY.out.block Bd (by omega)).trans HZ2.out,HO2.out.trans (OutR.of_below HBY.out),fun _=>HM2.out.block (HBY.out.block Bm (by omega)),fun h0=>by rw [HSE.out,if_pos HH.out] at h0;cases h0⟩⟩
  ·rw [hh] at hq1 hq2
   have HH:=hZz hh
   clear hh
   go_wp2_with fail
   go_region
   ·have hbd:=below_drewR HBY.out
    have HSD:=hZz (show (((w2.alloc (.cells #[.string x.pod,.string x.cont] 212)).alloc (.cells #[.string y.pod,.string y.cont,.int .u64 y.cpus,.slice y.da y.dn y.dc] 154)).drew.drew.cell? ⟨Be,1,none⟩=some (.map (some Bm))∧(((w2.alloc (.cells #[.string x.pod,.string x.cont] 212)).alloc (.cells #[.string y.pod,.string y.cont,.int .u64 y.cpus,.slice y.da y.dn y.dc] 154)).drew.drew.cell? ⟨w.heap.size+1,0,none⟩=some (.string x.pod)∧((w2.alloc (.cells #[.string x.pod,.string x.cont] 212)).alloc (.cells #[.string y.pod,.string y.cont,.int .u64 y.cpus,.slice y.da y.dn y.dc] 154)).drew.drew.cell? ⟨w.heap.size+1,1,none⟩=some (.string x.cont))∧(((w2.alloc (.cells #[.string x.pod,.string x.cont] 212)).alloc (.cells #[.string y.pod,.string y.cont,.int .u64 y.cpus,.slice y.da y.dn y.dc] 154)).drew.drew.cell? ⟨w.heap.size,0,none⟩=some (.string x.pod)∧((w2.alloc (.cells #[.string x.pod,.string x.cont] 212)).alloc (.cells #[.string y.pod,.string y.cont,.int .u64 y.cpus,.slice y.da y.dn y.dc] 154)).drew.drew.cell? ⟨w.heap.size,1,none⟩=some (.string x.cont)∧((w2.alloc (.cells #[.string x.pod,.string x.cont] 212)).alloc (.cells #[.string y.pod,.string y.cont,.int .u64 y.cpus,.slice y.da y.dn y.dc] 154)).drew.drew.cell? ⟨w.heap.size,2,none⟩=some (.int .u64 x.cpus)∧((w2.alloc (.cells #[.string x.pod,.string x.cont] 212)).alloc (.cells #[.string y.pod,.string y.cont,.int .u64 y.cpus,.slice y.da y.dn y.dc] 154)).drew.drew.cell? ⟨w.heap.size,3,none⟩=some (.slice x.da x.dn x.dc))) from ⟨(hbd.cell (p:=⟨Be,1,none⟩) (by show Be<_;omega)).trans g1,HNY.out,⟨(hbd.cell (p:=⟨w.heap.size,0,none⟩) (by show w.heap.size<_;omega)).trans r0,(hbd.cell (p:=⟨w.heap.size,1,none⟩) (by show w.heap.size<_;omega)).trans r1,(hbd.cell (p:=⟨w.heap.size,2,none⟩) (by show w.heap.size<_;omega)).trans r2,(hbd.cell (p:=⟨w.heap.size,3,none⟩) (by show w.heap.size<_;omega)).trans r3⟩⟩)
    have HBd:=hZz hbd
    have hsz5:w.heap.size+1+1≤((w2.alloc (.cells #[.string x.pod,.string x.cont] 212)).alloc (.cells #[.string y.pod,.string y.cont,.int .u64 y.cpus,.slice y.da y.dn y.dc] 154)).drew.heap.size:=by simp [World.drew];omega
    clear hbd hq1 hq2 k1 k2 n0 n1 HN HNY
    generalize ((w2.alloc (.cells #[.string x.pod,.string x.cont] 212)).alloc (.cells #[.string y.pod,.string y.cont,.int .u64 y.cpus,.slice y.da y.dn y.dc] 154)).drew=W5 at *
    have hsz5d:w.heap.size+1+1≤W5.drew.heap.size:=hsz5
    obtain ⟨hv5,hv5b⟩:=HK2.out.below HBd.out (fun _ _ _ h=>h)
    have HV5b:=hZz (hv5b.trans HK2b.out)
    have HAP:=hZz (apartR_any x W5.drew hv5 hdn)
    have HM5:=hZz (HM2.out.block (HBd.out.block Bm (by omega)))
    clear hv5 hv5b
    go_wp2_with fail
    refine wp_region_held_drew (S:=(fun w'=>w'.cell? ⟨Be,1,none⟩=some (.map (some Bm))∧(w'.cell? ⟨w.heap.size+1,0,none⟩=some (.string x.pod)∧w'.cell? ⟨w.heap.size+1,1,none⟩=some (.string x.cont))∧(w'.cell? ⟨w.heap.size,0,none⟩=some (.string x.pod)∧w'.cell? ⟨w.heap.size,1,none⟩=some (.string x.cont)∧w'.cell? ⟨w.heap.size,2,none⟩=some (.int .u64 x.cpus)∧w'.cell? ⟨w.heap.size,3,none⟩=some (.slice x.da x.dn x.dc)))) (by kernel_rfl) HSD.out (fun hHeld=>?_)
    refine tk 0 (v:=?a1) (fun w' h=>?b1) ?_
    case b1=>(try dsimp only at h);go_simp;try rfl
    (try simp only [Act.put,s1,s2,s3])
    refine tk 1 (v:=?a2) (fun w' h=>?b2) ?_
    case b2=>(try dsimp only at h);go_simp;try rfl
    (try simp only [Act.put,s1,s2,s3])
    refine tk 2 (v:=?a3) (fun w' h=>?b3) ?_
    case b3=>(try dsimp only at h);go_simp;try rfl
    (try simp only [Act.put,s1,s2,s3])
    refine tk 3 (v:=?a4) (fun w' h=>?b4) ?_
    case b4=>(try dsimp only at h);go_simp;try rfl
    (try simp only [Act.put,s1,s2,s3])
    refine tk 4 (v:=?a5) (fun w' h=>?b5) ?_
    case b5=>(try dsimp only at h);go_simp;try rfl
    (try simp only [Act.put,s1,s2,s3])
    refine tk 5 (v:=?a6) (fun w' h=>?b6) ?_
    case b6=>(try dsimp only at h);go_simp;try rfl
    (try simp only [Act.put,s1,s2,s3])
    refine wpAnyH_ready (rs:=[6]) (by kernel_rfl) (by simp) (AllReadyH.cons rfl (fun K hK=>?_) AllReadyH.nil)
    go_simp
    go_wp2_with fail
    refine HAP.out.mono ?_
    rintro e w6 ⟨a',c',rfl,ho6,hd6,_,hb6⟩
    have HS6:=hZz (show (w6.cell? ⟨Be,1,none⟩=some (.map (some Bm))∧(w6.cell? ⟨w.heap.size+1,0,none⟩=some (.string x.pod)∧w6.cell? ⟨w.heap.size+1,1,none⟩=some (.string x.cont))∧(w6.cell? ⟨w.heap.size,0,none⟩=some (.string x.pod)∧w6.cell? ⟨w.heap.size,1,none⟩=some (.string x.cont)∧w6.cell? ⟨w.heap.size,2,none⟩=some (.int .u64 x.cpus)∧w6.cell? ⟨w.heap.size,3,none⟩=some (.slice x.da x.dn x.dc))) from ⟨(hb6.cell (p:=⟨Be,1,none⟩) (by show Be<_;omega)).trans HSD.out.1,⟨(hb6.cell (p:=⟨w.heap.size+1,0,none⟩) (by show w.heap.size+1<_;omega)).trans HSD.out.2.1.1,(hb6.cell (p:=⟨w.heap.size+1,1,none⟩) (by show w.heap.size+1<_;omega)).trans HSD.out.2.1.2⟩,⟨(hb6.cell (p:=⟨w.heap.size,0,none⟩) (by show w.heap.size<_;omega)).trans HSD.out.2.2.1,(hb6.cell (p:=⟨w.heap.size,1,none⟩) (by show w.heap.size<_;omega)).trans HSD.out.2.2.2.1,(hb6.cell (p:=⟨w.heap.size,2,none⟩) (by show w.heap.size<_;omega)).trans HSD.out.2.2.2.2.1,(hb6.cell (p:=⟨w.heap.size,3,none⟩) (by show w.heap.size<_;omega)).trans HSD.out.2.2.2.2.2⟩⟩)
    have HM6:=hZz (HM5.out.block (hb6.block Bm (by omega)))
    have HO6:=hZz ho6
    have HD6:=hZz (hd6.trans HV5b.out)
    have HB6:=hZz (HBd.out.trans (hb6.mono HBd.out.size))
    have hsz6:w.heap.size+1+1≤w6.heap.size:=Nat.le_trans hsz5d hb6.size
    clear ho6 hd6 hb6
    go_wp2_with fail
    refine hK.out _ _ HS6.out (fun hHeld=>?_)
    clear hK K
    refine wpAnyH_ready (rs:=[7]) (by kernel_rfl) (by simp) (AllReadyH.cons rfl (fun K hK=>?_) AllReadyH.nil)
    rw [if_pos (by rfl)]
    refine wp_putRun _ _ _ _ rfl Bm n xs { x with da:=a',dc:=c' } rfl rfl rfl HM6.out hx hn HH.out ?_
    intro w7 hM7 hgr7 hsz7
    have HS7:=hZz (show (w7.cell? ⟨Be,1,none⟩=some (.map (some Bm))∧(w7.cell? ⟨w.heap.size+1,0,none⟩=some (.string x.pod)∧w7.cell? ⟨w.heap.size+1,1,none⟩=some (.string x.cont))∧(w7.cell? ⟨w.heap.size,0,none⟩=some (.string x.pod)∧w7.cell? ⟨w.heap.size,1,none⟩=some (.string x.cont)∧w7.cell? ⟨w.heap.size,2,none⟩=some (.int .u64 x.cpus)∧w7.cell? ⟨w.heap.size,3,none⟩=some (.slice x.da x.dn x.dc))) from ⟨(far_cellR hgr7 ⟨Be,1,none⟩ (by show Be<_;omega) (by simpa using hn2)).trans HS6.out.1,⟨(far_cellR hgr7 ⟨w.heap.size+1,0,none⟩ (by show w.heap.size+1<_;omega) (fun e=>by have e2:w.heap.size+1=Bm:=Option.some.inj e;omega)).trans HS6.out.2.1.1,(far_cellR hgr7 ⟨w.heap.size+1,1,none⟩ (by show w.heap.size+1<_;omega) (fun e=>by have e2:w.heap.size+1=Bm:=Option.some.inj e;omega)).trans HS6.out.2.1.2⟩,⟨(far_cellR hgr7 ⟨w.heap.size,0,none⟩ (by show w.heap.size<_;omega) (fun e=>by have e2:w.heap.size=Bm:=Option.some.inj e;omega)).trans HS6.out.2.2.1,(far_cellR hgr7 ⟨w.heap.size,1,none⟩ (by show w.heap.size<_;omega) (fun e=>by have e2:w.heap.size=Bm:=Option.some.inj e;omega)).trans HS6.out.2.2.2.1,(far_cellR hgr7 ⟨w.heap.size,2,none⟩ (by show w.heap.size<_;omega) (fun e=>by have e2:w.heap.size=Bm:=Option.some.inj e;omega)).trans HS6.out.2.2.2.2.1,(far_cellR hgr7 ⟨w.heap.size,3,none⟩ (by show w.heap.size<_;omega) (fun e=>by have e2:w.heap.size=Bm:=Option.some.inj e;omega)).trans HS6.out.2.2.2.2.2⟩⟩)
    obtain ⟨ho7,hd7⟩:=HO6.out.kept (KInt.grown hgr7 HM6.out.notInt)
    have HYES:=hZz (show ∃ a c,MapR w7 Bm (n+1) ({ x with da:=a,dc:=c } :: xs)∧DevOwn w7 { x with da:=a,dc:=c }∧devsOf w7 { x with da:=a,dc:=c }=devsOf w x from ⟨a',c',hM7,ho7,hd7.trans HD6.out⟩)
    have HZ7:=hZz (show DiskW w7 Bd sn sk sv (stepN l d) (stepF l d) from (hgr7.block Bd (by omega) (fun e=>hn3 (Option.some.inj e))).trans ((HB6.out.block Bd (by omega)).trans HZ2.out))
    have HO7:=hZz ((HO2.out.trans (OutR.of_below HB6.out)).trans (OutR.of_grown hgr7 (.inr rfl)))
    clear hM7 hgr7 ho7 hd7
    refine hK.out _ _ HS7.out (fun hHeld=>?_)
    clear hK K
    refine wpAnyH_done (by kernel_rfl) ?_ _
    go_wp2_with fail
    go_ret
    exact ⟨by rw [HSE.out,if_neg (by rw [HH.out];decide)];rfl,⟨HZ7.out,HO7.out,fun h0=>absurd (by rw [HSE.out,if_neg (by rw [HH.out];decide)]) h0,fun _=>HYES.out⟩⟩
   ·have hbd:=below_drewR HBY.out
    have HSD:=hZz (show (((w2.alloc (.cells #[.string x.pod,.string x.cont] 212)).alloc (.cells #[.string y.pod,.string y.cont,.int .u64 y.cpus,.slice y.da y.dn y.dc] 154)).drew.drew.cell? ⟨Be,1,none⟩=some (.map (some Bm))∧(((w2.alloc (.cells #[.string x.pod,.string x.cont] 212)).alloc (.cells #[.string y.pod,.string y.cont,.int .u64 y.cpus,.slice y.da y.dn y.dc] 154)).drew.drew.cell? ⟨w.heap.size+1,0,none⟩=some (.string x.pod)∧((w2.alloc (.cells #[.string x.pod,.string x.cont] 212)).alloc (.cells #[.string y.pod,.string y.cont,.int .u64 y.cpus,.slice y.da y.dn y.dc] 154)).drew.drew.cell? ⟨w.heap.size+1,1,none⟩=some (.string x.cont))∧(((w2.alloc (.cells #[.string x.pod,.string x.cont] 212)).alloc (.cells #[.string y.pod,.string y.cont,.int .u64 y.cpus,.slice y.da y.dn y.dc] 154)).drew.drew.cell? ⟨w.heap.size,0,none⟩=some (.string x.pod)∧((w2.alloc (.cells #[.string x.pod,.string x.cont] 212)).alloc (.cells #[.string y.pod,.string y.cont,.int .u64 y.cpus,.slice y.da y.dn y.dc] 154)).drew.drew.cell? ⟨w.heap.size,1,none⟩=some (.string x.cont)∧((w2.alloc (.cells #[.string x.pod,.string x.cont] 212)).alloc (.cells #[.string y.pod,.string y.cont,.int .u64 y.cpus,.slice y.da y.dn y.dc] 154)).drew.drew.cell? ⟨w.heap.size,2,none⟩=some (.int .u64 x.cpus)∧((w2.alloc (.cells #[.string x.pod,.string x.cont] 212)).alloc (.cells #[.string y.pod,.string y.cont,.int .u64 y.cpus,.slice y.da y.dn y.dc] 154)).drew.drew.cell? ⟨w.heap.size,3,none⟩=some (.slice x.da x.dn x.dc))) from ⟨(hbd.cell (p:=⟨Be,1,none⟩) (by show Be<_;omega)).trans g1,HNY.out,⟨(hbd.cell (p:=⟨w.heap.size,0,none⟩) (by show w.heap.size<_;omega)).trans r0,(hbd.cell (p:=⟨w.heap.size,1,none⟩) (by show w.heap.size<_;omega)).trans r1,(hbd.cell (p:=⟨w.heap.size,2,none⟩) (by show w.heap.size<_;omega)).trans r2,(hbd.cell (p:=⟨w.heap.size,3,none⟩) (by show w.heap.size<_;omega)).trans r3⟩⟩)
    have HBd:=hZz hbd
    have hsz5:w.heap.size+1+1≤((w2.alloc (.cells #[.string x.pod,.string x.cont] 212)).alloc (.cells #[.string y.pod,.string y.cont,.int .u64 y.cpus,.slice y.da y.dn y.dc] 154)).drew.heap.size:=by simp [World.drew];omega
    clear hbd hq1 hq2 k1 k2 n0 n1 HN HNY
    generalize ((w2.alloc (.cells #[.string x.pod,.string x.cont] 212)).alloc (.cells #[.string y.pod,.string y.cont,.int .u64 y.cpus,.slice y.da y.dn y.dc] 154)).drew=W5 at *
    have hsz5d:w.heap.size+1+1≤W5.drew.heap.size:=hsz5
    obtain ⟨hv5,hv5b⟩:=HK2.out.below HBd.out (fun _ _ _ h=>h)
    have HV5b:=hZz (hv5b.trans HK2b.out)
    have HAP:=hZz (apartR_any x W5.drew hv5 hdn)
    have HM5:=hZz (HM2.out.block (HBd.out.block Bm (by omega)))
    clear hv5 hv5b
    go_wp2_with fail
    refine wp_region_held_drew (S:=(fun w'=>w'.cell? ⟨Be,1,none⟩=some (.map (some Bm))∧(w'.cell? ⟨w.heap.size+1,0,none⟩=some (.string x.pod)∧w'.cell? ⟨w.heap.size+1,1,none⟩=some (.string x.cont))∧(w'.cell? ⟨w.heap.size,0,none⟩=some (.string x.pod)∧w'.cell? ⟨w.heap.size,1,none⟩=some (.string x.cont)∧w'.cell? ⟨w.heap.size,2,none⟩=some (.int .u64 x.cpus)∧w'.cell? ⟨w.heap.size,3,none⟩=some (.slice x.da x.dn x.dc)))) (by kernel_rfl) HSD.out (fun hHeld=>?_)
    refine tk 0 (v:=?a7) (fun w' h=>?b7) ?_
    case b7=>(try dsimp only at h);go_simp;try rfl
    (try simp only [Act.put,s1,s2,s3])
    refine tk 1 (v:=?a8) (fun w' h=>?b8) ?_
    case b8=>(try dsimp only at h);go_simp;try rfl
    (try simp only [Act.put,s1,s2,s3])
    refine tk 2 (v:=?a9) (fun w' h=>?b9) ?_
    case b9=>(try dsimp only at h);go_simp;try rfl
    (try simp only [Act.put,s1,s2,s3])
    refine tk 3 (v:=?a10) (fun w' h=>?b10) ?_
    case b10=>(try dsimp only at h);go_simp;try rfl
    (try simp only [Act.put,s1,s2,s3])
    refine tk 4 (v:=?a11) (fun w' h=>?b11) ?_
    case b11=>(try dsimp only at h);go_simp;try rfl
    (try simp only [Act.put,s1,s2,s3])
    refine tk 5 (v:=?a12) (fun w' h=>?b12) ?_
    case b12=>(try dsimp only at h);go_simp;try rfl
    (try simp only [Act.put,s1,s2,s3])
    refine wpAnyH_ready (rs:=[6]) (by kernel_rfl) (by simp) (AllReadyH.cons rfl (fun K hK=>?_) AllReadyH.nil)
    go_simp
    go_wp2_with fail
    refine HAP.out.mono ?_
    rintro e w6 ⟨a',c',rfl,ho6,hd6,_,hb6⟩
    have HS6:=hZz (show (w6.cell? ⟨Be,1,none⟩=some (.map (some Bm))∧(w6.cell? ⟨w.heap.size+1,0,none⟩=some (.string x.pod)∧w6.cell? ⟨w.heap.size+1,1,none⟩=some (.string x.cont))∧(w6.cell? ⟨w.heap.size,0,none⟩=some (.string x.pod)∧w6.cell? ⟨w.heap.size,1,none⟩=some (.string x.cont)∧w6.cell? ⟨w.heap.size,2,none⟩=some (.int .u64 x.cpus)∧w6.cell? ⟨w.heap.size,3,none⟩=some (.slice x.da x.dn x.dc))) from ⟨(hb6.cell (p:=⟨Be,1,none⟩) (by show Be<_;omega)).trans HSD.out.1,⟨(hb6.cell (p:=⟨w.heap.size+1,0,none⟩) (by show w.heap.size+1<_;omega)).trans HSD.out.2.1.1,(hb6.cell (p:=⟨w.heap.size+1,1,none⟩) (by show w.heap.size+1<_;omega)).trans HSD.out.2.1.2⟩,⟨(hb6.cell (p:=⟨w.heap.size,0,none⟩) (by show w.heap.size<_;omega)).trans HSD.out.2.2.1,(hb6.cell (p:=⟨w.heap.size,1,none⟩) (by show w.heap.size<_;omega)).trans HSD.out.2.2.2.1,(hb6.cell (p:=⟨w.heap.size,2,none⟩) (by show w.heap.size<_;omega)).trans HSD.out.2.2.2.2.1,(hb6.cell (p:=⟨w.heap.size,3,none⟩) (by show w.heap.size<_;omega)).trans HSD.out.2.2.2.2.2⟩⟩)
    have HM6:=hZz (HM5.out.block (hb6.block Bm (by omega)))
    have HO6:=hZz ho6
    have HD6:=hZz (hd6.trans HV5b.out)
    have HB6:=hZz (HBd.out.trans (hb6.mono HBd.out.size))
    have hsz6:w.heap.size+1+1≤w6.heap.size:=Nat.le_trans hsz5d hb6.size
    clear ho6 hd6 hb6
    go_wp2_with fail
    refine hK.out _ _ HS6.out (fun hHeld=>?_)
    clear hK K
    refine wpAnyH_ready (rs:=[7]) (by kernel_rfl) (by simp) (AllReadyH.cons rfl (fun K hK=>?_) AllReadyH.nil)
    rw [if_pos (by rfl)]
    refine wp_putRun _ _ _ _ rfl Bm n xs { x with da:=a',dc:=c' } rfl rfl rfl HM6.out hx hn HH.out ?_
    intro w7 hM7 hgr7 hsz7
    have HS7:=hZz (show (w7.cell? ⟨Be,1,none⟩=some (.map (some Bm))∧(w7.cell? ⟨w.heap.size+1,0,none⟩=some (.string x.pod)∧w7.cell? ⟨w.heap.size+1,1,none⟩=some (.string x.cont))∧(w7.cell? ⟨w.heap.size,0,none⟩=some (.string x.pod)∧w7.cell? ⟨w.heap.size,1,none⟩=some (.string x.cont)∧w7.cell? ⟨w.heap.size,2,none⟩=some (.int .u64 x.cpus)∧w7.cell? ⟨w.heap.size,3,none⟩=some (.slice x.da x.dn x.dc))) from ⟨(far_cellR hgr7 ⟨Be,1,none⟩ (by show Be<_;omega) (by simpa using hn2)).trans HS6.out.1,⟨(far_cellR hgr7 ⟨w.heap.size+1,0,none⟩ (by show w.heap.size+1<_;omega) (fun e=>by have e2:w.heap.size+1=Bm:=Option.some.inj e;omega)).trans HS6.out.2.1.1,(far_cellR hgr7 ⟨w.heap.size+1,1,none⟩ (by show w.heap.size+1<_;omega) (fun e=>by have e2:w.heap.size+1=Bm:=Option.some.inj e;omega)).trans HS6.out.2.1.2⟩,⟨(far_cellR hgr7 ⟨w.heap.size,0,none⟩ (by show w.heap.size<_;omega) (fun e=>by have e2:w.heap.size=Bm:=Option.some.inj e;omega)).trans HS6.out.2.2.1,(far_cellR hgr7 ⟨w.heap.size,1,none⟩ (by show w.heap.size<_;omega) (fun e=>by have e2:w.heap.size=Bm:=Option.some.inj e;omega)).trans HS6.out.2.2.2.1,(far_cellR hgr7 ⟨w.heap.size,2,none⟩ (by show w.heap.size<_;omega) (fun e=>by have e2:w.heap.size=Bm:=Option.some.inj e;omega)).trans HS6.out.2.2.2.2.1,(far_cellR hgr7 ⟨w.heap.size,3,none⟩ (by show w.heap.size<_;omega) (fun e=>by have e2:w.heap.size=Bm:=Option.some.inj e;omega)).trans HS6.out.2.2.2.2.2⟩⟩)
    obtain ⟨ho7,hd7⟩:=HO6.out.kept (KInt.grown hgr7 HM6.out.notInt)
    have HYES:=hZz (show ∃ a c,MapR w7 Bm (n+1) ({ x with da:=a,dc:=c } :: xs)∧DevOwn w7 { x with da:=a,dc:=c }∧devsOf w7 { x with da:=a,dc:=c }=devsOf w x from ⟨a',c',hM7,ho7,hd7.trans HD6.out⟩)
    have HZ7:=hZz (show DiskW w7 Bd sn sk sv (stepN l d) (stepF l d) from (hgr7.block Bd (by omega) (fun e=>hn3 (Option.some.inj e))).trans ((HB6.out.block Bd (by omega)).trans HZ2.out))
    have HO7:=hZz ((HO2.out.trans (OutR.of_below HB6.out)).trans (OutR.of_grown hgr7 (.inr rfl)))
    clear hM7 hgr7 ho7 hd7
    refine hK.out _ _ HS7.out (fun hHeld=>?_)
    clear hK K
    refine wpAnyH_done (by kernel_rfl) ?_ _
    go_wp2_with fail
    go_ret
    exact ⟨by rw [HSE.out,if_neg (by rw [HH.out];decide)];rfl,⟨HZ7.out,HO7.out,fun h0=>absurd (by rw [HSE.out,if_neg (by rw [HH.out];decide)]) h0,fun _=>HYES.out⟩⟩
 ·have h11:=stepE_pos hse
  have HSE:=hZz (show startE l d (xs.any fun y=>decide (y.pod=x.pod∧y.cont=x.cont))=11 from by unfold startE;rw [if_pos hse];exact h11)
  rw [h11,show errV ((11:Nat):Int)=.iface 94 (.int .i64 11) from rfl]
  go_wp2_with fail
  go_ret
  exact ⟨by rw [HSE.out];rfl,⟨HZ2.out,HO2.out,fun _=>HM2.out,fun h0=>by rw [HSE.out] at h0;cases h0⟩⟩
end
section
open Go.RowKit Go.Maps
structure StoppedW (w w':World) (Bd Bm:Nat) (sn sk:Sd) (sv:Value) (n:Nat) (xs:List RV) (p c:ByteArray) (l:Int) (d:Bool) (f:Nat):Prop where
 disk:DiskW w' Bd sn sk sv (stepN l d) (stepF l d)
 out:OutR Bd Bm w w'
 no:f≠0→MapR w' Bm n xs
 yes:f=0→MapR w' Bm n (xs.filter fun x=>!decide (x.pod=p∧x.cont=c))
def stopE (l:Int) (d has:Bool):Nat:=if stepE l d≠0 then stepE l d else if has=true then 0 else 6
theorem stopW_any (Be Bd Bm n:Nat) (sn sk:Sd) (sv:Value) (xs:List RV) (p c:ByteArray) (l:Int) (d:Bool) (w:World) (he:EngAt w Be Bd Bm) (hm:MapR w Bm n xs) (hd:DiskW w Bd sn sk sv l d) (hl:-9223372036854775808≤l∧l≤9223372036854775807) (hp:p.size≤7000) (hc:c.size≤7000) :
  Calls Tryz.prog 76 #[.pointer (some ⟨Be,0,none⟩),.string p,.string c] w fun e w'=>e=.returned (errV ((stopE l d (xs.any fun y=>decide (y.pod=p∧y.cont=c)):Nat):Int))∧StoppedW w w' Bd Bm sn sk sv n xs p c l d (stopE l d (xs.any fun y=>decide (y.pod=p∧y.cont=c))):=by
 obtain ⟨hn1,hn2,hn3⟩:=apart_engW he hm hd
 obtain ⟨c0,c1⟩:=he.cells
 have HM1:=hZz hm
 have HST:=hZz (stepW_any Bd sn sk sv l d w hd hl)
 have HE1:=hZz he
 have hml:=hm.lt
 have hdl:=hd.lt
 have hel:=he.lt
 clear he hm hd
 go_enter Tryz.func76,Tryz.ntmps76
 go_wp2_with fail
 refine HST.out.mono ?_
 rintro e w2 ⟨rfl,hz2,ho2⟩
 have HZ2:=hZz hz2
 have HO2:=hZz (OutR.of_grown (B1:=Bd) (B2:=Bm) ho2.1 (.inl rfl))
 have HM2:=hZz (HM1.out.block (ho2.1.block Bm hml (by simpa using hn3.symm)))
 have he2:=HE1.out.block (ho2.1.block Be hel (by simpa using hn1))
 obtain ⟨g0,g1⟩:=he2.cells
 have hsz2:w2.heap.size=w.heap.size:=ho2.2
 clear hz2 ho2 he2 HST HM1 HE1 c0 c1
 by_cases hse:stepE l d=0
 ·have HSE:=hZz (show stopE l d (xs.any fun y=>decide (y.pod=p∧y.cont=c))=if (xs.any fun y=>decide (y.pod=p∧y.cont=c))=true then 0 else 6 from by unfold stopE;rw [if_neg (by rw [hse];decide)])
  rw [hse,show errV ((0:Nat):Int)=.nilIface from rfl]
  obtain ⟨y,hlk⟩:=HM2.out.look2 p c hp hc
  unfold nameV at hlk
  have hbA:=(Below.refl w2.heap.size w2).alloc (Nat.le_refl _) (.cells #[.string p,.string c] 212)
  have hbB:=hbA.alloc hbA.size (.cells #[.string ⟨#[]⟩,.string ⟨#[]⟩,.int .u64 0,.slice none 0 0] 154)
  have hbY:=hbA.alloc hbA.size (.cells #[.string y.pod,.string y.cont,.int .u64 y.cpus,.slice y.da y.dn y.dc] 154)
  have hq1:=hlk ((w2.alloc (.cells #[.string p,.string c] 212)).drew) ((below_drewR hbA).block Bm (by omega))
  have hq2:=hlk (((w2.alloc (.cells #[.string p,.string c] 212)).alloc (.cells #[.string ⟨#[]⟩,.string ⟨#[]⟩,.int .u64 0,.slice none 0 0] 154)).drew) ((below_drewR hbB).block Bm (by omega))
  have k1:=((below_drewR hbA).cell (p:=⟨Be,1,none⟩) (by show Be<_;omega)).trans g1
  have k2:=((below_drewR hbB).cell (p:=⟨Be,1,none⟩) (by show Be<_;omega)).trans g1
  have HBY:=hZz (below_drewR hbY)
  have HN:=hZz (show (((w2.alloc (.cells #[.string p,.string c] 212)).alloc (.cells #[.string ⟨#[]⟩,.string ⟨#[]⟩,.int .u64 0,.slice none 0 0] 154)).drew).cell? ⟨w2.heap.size,0,none⟩=some (.string p)∧(((w2.alloc (.cells #[.string p,.string c] 212)).alloc (.cells #[.string ⟨#[]⟩,.string ⟨#[]⟩,.int .u64 0,.slice none 0 0] 154)).drew).cell? ⟨w2.heap.size,1,none⟩=some (.string c) from ⟨by simp,by simp⟩)
  have HNY:=hZz (show (((w2.alloc (.cells #[.string p,.string c] 212)).alloc (.cells #[.string y.pod,.string y.cont,.int .u64 y.cpus,.slice y.da y.dn y.dc] 154)).drew).cell? ⟨w2.heap.size,0,none⟩=some (.string p)∧(((w2.alloc (.cells #[.string p,.string c] 212)).alloc (.cells #[.string y.pod,.string y.cont,.int .u64 y.cpus,.slice y.da y.dn y.dc] 154)).drew).cell? ⟨w2.heap.size,1,none⟩=some (.string c) from ⟨by simp,by simp⟩)
  rw [hsz2] at HN HNY
  obtain ⟨n0,n1⟩:=HN.out
  clear hbA hbB hbY hlk
  unfold RV.val at hq1 hq2
  rcases two (xs.any fun y=>decide (y.pod=p∧y.cont=c)) with hh|hh
  ·rw [hh] at hq1 hq2
   have HH:=hZz hh
   clear hh
   go_wp2_with fail
   go_region
   all_goals
    generalize hW5:((w2.alloc (.cells #[.string p,.string c] 212)).alloc (.cells #[.string y.pod,.string y.cont,.int .u64 y.cpus,.slice y.da y.dn y.dc] 154)).drew=W5 at *
    have hbd:=below_drewR HBY.out
    obtain ⟨m0,m1⟩:=HNY.out
    have m0':W5.drew.cell? ⟨w.heap.size,0,none⟩=some (.string p):=m0
    have m1':W5.drew.cell? ⟨w.heap.size,1,none⟩=some (.string c):=m1
    have k5:W5.drew.cell? ⟨Be,1,none⟩=some (.map (some Bm)):=(hbd.cell (p:=⟨Be,1,none⟩) (by show Be<_;omega)).trans g1
    obtain ⟨w7,hdel,hM7,hgr7,hsz7⟩:=(HM2.out.block (hbd.block Bm (by omega))).drop p c hp hc 0
    have HM7:=hZz hM7
    have HZ7:=hZz (show DiskW w7 Bd sn sk sv (stepN l d) (stepF l d) from (hgr7.block Bd (by have:=hbd.size;omega) (fun e=>hn3 (Option.some.inj e))).trans ((hbd.block Bd (by omega)).trans HZ2.out))
    have HO7:=hZz ((HO2.out.trans (OutR.of_below hbd)).trans (OutR.of_grown hgr7 (.inr rfl)))
    unfold nameV at hdel
    clear hbd hM7 hgr7 hW5 hq1 hq2 k1 k2 n0 n1 m0 m1
    go_wp2_with fail
    go_region
    all_goals
     go_wp2_with fail
     go_ret
     exact ⟨by rw [HSE.out,if_pos HH.out];rfl,⟨HZ7.out,HO7.out,fun h0=>absurd (by rw [HSE.out,if_pos HH.out]) h0,fun _=>HM7.out⟩⟩
  ·rw [hh] at hq1 hq2
   have HH:=hZz hh
   clear hh
   go_wp2_with fail
   go_region
   all_goals
    generalize ((w2.alloc (.cells #[.string p,.string c] 212)).alloc (.cells #[.string y.pod,.string y.cont,.int .u64 y.cpus,.slice y.da y.dn y.dc] 154)).drew=W5 at *
    go_wp2_with fail
    go_ret
    exact ⟨by rw [HSE.out,if_neg (by rw [HH.out];decide)];rfl,⟨(HBY.out.block Bd (by omega)).trans HZ2.out,HO2.out.trans (OutR.of_below HBY.out),fun _=>HM2.out.block (HBY.out.block Bm (by omega)),fun h0=>by rw [HSE.out,if_neg (by rw [HH.out];decide)] at h0;cases h0⟩⟩
 ·have h11:=stepE_pos hse
  have HSE:=hZz (show stopE l d (xs.any fun y=>decide (y.pod=p∧y.cont=c))=11 from by unfold stopE;rw [if_pos hse];exact h11)
  rw [h11,show errV ((11:Nat):Int)=.iface 94 (.int .i64 11) from rfl]
  go_wp2_with fail
  go_ret
  exact ⟨by rw [HSE.out];rfl,⟨HZ2.out,HO2.out,fun _=>HM2.out,fun h0=>by rw [HSE.out] at h0;cases h0⟩⟩
end
end Go.Proofs.YtbfdcmodflnkfaaGreatDoor
