/- TCnt, DW2, VHMath, VH1, VT0, VRMath, SText, SParse2, QW3, QW5, VD1, EV1 -/
import Derived.Test.YtbfdcmodflnkfaaGreatDoorU4
import Derived.Lib.ItoaMem
import Derived.Deep.RegionHeld3
import Derived.Shelf.SlicesG.Cmp
import Derived.Ground.SlgcProg
set_option maxRecDepth 100000
set_option maxHeartbeats 16000000
namespace Go.Proofs.YtbfdcmodflnkfaaGreatDoor
section
open Go.RowKit
open Ost (Cpu cpu0 chosenTo chosen)
def cntTo (s:Nat) (l:List Cpu) (j:Int):Nat→Nat
 | 0=>0
 | k+1=>if (s.testBit k && decide ((l.getD k cpu0).node=j))=true then cntTo s l j k+1 else cntTo s l j k
theorem cntTo_yes {s:Nat} {l:List Cpu} {k:Nat} {j:Int} (h:s.testBit k=true) (hj:(l.getD k cpu0).node=j):cntTo s l j (k+1)=cntTo s l j k+1:=by
 rw [cntTo,if_pos (by rw [h,hj];simp)]
theorem cntTo_other {s:Nat} {l:List Cpu} {k:Nat} {j:Int} (hj:(l.getD k cpu0).node≠j):cntTo s l j (k+1)=cntTo s l j k:=by
 rw [cntTo,if_neg (by simp only [decide_eq_false hj,Bool.and_false];simp)]
theorem cntTo_out {s:Nat} {l:List Cpu} {k:Nat} {j:Int} (h:s.testBit k=false):cntTo s l j (k+1)=cntTo s l j k:=by
 rw [cntTo,if_neg (by rw [h];simp)]
theorem cntTo_le (s:Nat) (l:List Cpu) (j:Int) (k:Nat):cntTo s l j k≤k:=by
 induction k with
 | zero=>exact Nat.le_refl _
 | succ k ih=>rw [cntTo];split <;> omega
structure Four (w:World) (B:Nat) (a b c d:Int):Prop where
 c0:w.cell? ⟨B,0,none⟩=some (.int .i64 a)
 c1:w.cell? ⟨B,1,none⟩=some (.int .i64 b)
 c2:w.cell? ⟨B,2,none⟩=some (.int .i64 c)
 c3:w.cell? ⟨B,3,none⟩=some (.int .i64 d)
 f0:w.frozen? ⟨B,0,none⟩=false
 f1:w.frozen? ⟨B,1,none⟩=false
 f2:w.frozen? ⟨B,2,none⟩=false
 f3:w.frozen? ⟨B,3,none⟩=false
theorem Four.lt {w:World} {B:Nat} {a b c d:Int} (h:Four w B a b c d):B<w.heap.size:=World.block_lt_of_cell? w _ h.c0
theorem Four.below {w w':World} {B K:Nat} {a b c d:Int} (h:Four w B a b c d) (hb:Below K w w') (hK:B<K):Four w' B a b c d:=
 ⟨(hb.cell (p:=⟨B,0,none⟩) hK).trans h.c0,(hb.cell (p:=⟨B,1,none⟩) hK).trans h.c1,(hb.cell (p:=⟨B,2,none⟩) hK).trans h.c2,(hb.cell (p:=⟨B,3,none⟩) hK).trans h.c3,
  (hb.frozen (p:=⟨B,0,none⟩) hK).trans h.f0,(hb.frozen (p:=⟨B,1,none⟩) hK).trans h.f1,(hb.frozen (p:=⟨B,2,none⟩) hK).trans h.f2,(hb.frozen (p:=⟨B,3,none⟩) hK).trans h.f3⟩
theorem Four.made (w:World) (t:TypeId) (a b c d:Int):Four (w.alloc (.cells #[.int .i64 a,.int .i64 b,.int .i64 c,.int .i64 d] t)) w.heap.size a b c d:=by
 constructor <;> simp
theorem Four.alloc {w:World} {B:Nat} {a b c d:Int} (h:Four w B a b c d) (o:Obj):Four (w.alloc o) B a b c d:=
 h.below ((Below.refl _ _).alloc (Nat.le_refl _) _) h.lt
theorem Four.set_other {w:World} {B:Nat} {a b c d:Int} (h:Four w B a b c d) {p:Addr} (hp:B≠p.block) (v:Value):Four (w.setCell p v) B a b c d:=by
 have e:(w.setCell p v).heap[B]?=w.heap[B]?:=Below.heap_setCell _ _ _ _ hp
 exact ⟨(World.cell?_of_block (w:=w) (a:=⟨B,0,none⟩) e).trans h.c0,(World.cell?_of_block (w:=w) (a:=⟨B,1,none⟩) e).trans h.c1,(World.cell?_of_block (w:=w) (a:=⟨B,2,none⟩) e).trans h.c2,(World.cell?_of_block (w:=w) (a:=⟨B,3,none⟩) e).trans h.c3,
  (World.frozen?_of_block (w:=w) (a:=⟨B,0,none⟩) e).trans h.f0,(World.frozen?_of_block (w:=w) (a:=⟨B,1,none⟩) e).trans h.f1,(World.frozen?_of_block (w:=w) (a:=⟨B,2,none⟩) e).trans h.f2,(World.frozen?_of_block (w:=w) (a:=⟨B,3,none⟩) e).trans h.f3⟩
theorem Four.set0 {w:World} {B:Nat} {a b c d:Int} (h:Four w B a b c d) (x:Int):Four (w.setCell ⟨B,0,none⟩ (.int .i64 x)) B x b c d:=by
 obtain ⟨c0,c1,c2,c3,f0,f1,f2,f3⟩:=h
 constructor <;> first|exact World.frozen?_setCell.trans (by assumption)|go_simp
theorem Four.set1 {w:World} {B:Nat} {a b c d:Int} (h:Four w B a b c d) (x:Int):Four (w.setCell ⟨B,1,none⟩ (.int .i64 x)) B a x c d:=by
 obtain ⟨c0,c1,c2,c3,f0,f1,f2,f3⟩:=h
 constructor <;> first|exact World.frozen?_setCell.trans (by assumption)|go_simp
theorem Four.set2 {w:World} {B:Nat} {a b c d:Int} (h:Four w B a b c d) (x:Int):Four (w.setCell ⟨B,2,none⟩ (.int .i64 x)) B a b x d:=by
 obtain ⟨c0,c1,c2,c3,f0,f1,f2,f3⟩:=h
 constructor <;> first|exact World.frozen?_setCell.trans (by assumption)|go_simp
theorem Four.set3 {w:World} {B:Nat} {a b c d:Int} (h:Four w B a b c d) (x:Int):Four (w.setCell ⟨B,3,none⟩ (.int .i64 x)) B a b c x:=by
 obtain ⟨c0,c1,c2,c3,f0,f1,f2,f3⟩:=h
 constructor <;> first|exact World.frozen?_setCell.trans (by assumption)|go_simp
theorem has_in (A n:Nat) (w:World) (hA:A<18446744073709551616) (hn:n<64) :
  Calls Tryz.prog 156 #[.int .u64 A,.int .i64 n] w fun e w'=>e=.returned (.bool (A.testBit n))∧w'=w:=by
 have HB:=bit_eq A n hA
 go_enter Tryz.func156,Tryz.ntmps156
 go_wp2_with go_in
 go_ret
 exact ⟨rfl,rfl⟩
theorem results_cell {fn:Func} {p:Tmp} {ty:TypeId} (h:fn.results=#[.cell p ty]) (tmps:Array Value) (P:Program) (w:World) :
  (results fn tmps).run P w=((asAddr (tmps.getD p undef)).run P w).andThen fun a w₁=>(loadVar ty a).run P w₁:=by
 simp only [results,h]
 simp [Sem.run_bind,Result.andThen]
def cntV (s:Nat) (l:List Cpu) (k:Nat):Value:=.agg #[.int .i64 (cntTo s l 0 k:Nat),.int .i64 (cntTo s l 1 k:Nat),.int .i64 (cntTo s l 2 k:Nat),.int .i64 (cntTo s l 3 k:Nat)]
theorem count_any (A tb b o c:Nat) (l:List Cpu) (w:World) (ht:TopoAt w tb b o c l) (hA:A<18446744073709551616) (hg:Good l) :
  Calls Tryz.prog 126 #[.pointer (some ⟨tb,0,none⟩),.int .u64 A] w fun e w'=>e=.returned (cntV A l l.length)∧Below w.heap.size w w':=by
 have hB0:=((Below.refl w.heap.size w).alloc (Nat.le_refl _) (.cells #[.int .i64 0,.int .i64 0,.int .i64 0,.int .i64 0] 221))
 have hB00:=hB0.alloc hB0.size (.cells #[.int .i64 0,.int .i64 0,.int .i64 0,.int .i64 0] 221)
 have ht1:=ht.below hB00
 have HC:=hZz ht.cells
 have hT:=ht1.cell
 have HLB:=hZz ht.lt
 have hl:=ht.len
 have HG:=hZz hg
 have HB00:=hZz hB00
 clear ht ht1 hB0 hB00 hg
 go_enter Tryz.func126,Tryz.ntmps126
 go_wp2_with fail
 go_loopw [13] (fun i wr=>∃ k:Nat,k≤l.length∧i=.int .i64 k∧Four wr w.heap.size 0 0 0 0∧Four wr (w.heap.size+1) (cntTo A l 0 k:Nat) (cntTo A l 1 k:Nat) (cntTo A l 2 k:Nat) (cntTo A l 3 k:Nat)∧Below w.heap.size w wr) (fun i _=>l.length - (intOf i).toNat)
 case atStart=>exact ⟨0,by omega,rfl,(Four.made _ _ _ _ _ _).alloc _,by have:=Four.made (w.alloc (.cells #[.int .i64 0,.int .i64 0,.int .i64 0,.int .i64 0] 221)) 221 0 0 0 0;simpa [cntTo] using this,HB00.out⟩
 case round=>
  obtain ⟨k,hk,rfl,h4,h5,hB⟩:=hrel
  by_cases hlt:k<l.length
  ·obtain ⟨hcell0,hcell1,hcell2⟩:=(HC.out.below HLB.out hB) k hlt
   obtain ⟨g0,g3⟩:=HG.out.at hlt
   have HI:=hZz (has_in A k (wr.alloc (.cells #[.int .i64 (l.getD k cpu0).core,.int .i64 (l.getD k cpu0).sock,.int .i64 (l.getD k cpu0).node] 78)) hA (by omega))
   have hB1:=hB.alloc hB.size (.cells #[.int .i64 (l.getD k cpu0).core,.int .i64 (l.getD k cpu0).sock,.int .i64 (l.getD k cpu0).node] 78)
   have h41:=h4.alloc (.cells #[.int .i64 (l.getD k cpu0).core,.int .i64 (l.getD k cpu0).sock,.int .i64 (l.getD k cpu0).node] 78)
   have h51:=h5.alloc (.cells #[.int .i64 (l.getD k cpu0).core,.int .i64 (l.getD k cpu0).sock,.int .i64 (l.getD k cpu0).node] 78)
   have l0:=hZz (cntTo_le A l 0 k)
   have l1:=hZz (cntTo_le A l 1 k)
   have l2:=hZz (cntTo_le A l 2 k)
   have l3:=hZz (cntTo_le A l 3 k)
   have hN:(l.getD k cpu0).node=0∨(l.getD k cpu0).node=1∨(l.getD k cpu0).node=2∨(l.getD k cpu0).node=3:=by omega
   rcases two (A.testBit k) with hb|hb
   ·rw [hb] at HI
    rcases hN with hN|hN|hN|hN
    ·have EJ:=hZz (cntTo_yes (l:=l) (j:=0) hb hN)
     have E1:=hZz (cntTo_other (s:=A) (l:=l) (k:=k) (j:=1) (by rw [hN];decide))
     have E2:=hZz (cntTo_other (s:=A) (l:=l) (k:=k) (j:=2) (by rw [hN];decide))
     have E3:=hZz (cntTo_other (s:=A) (l:=l) (k:=k) (j:=3) (by rw [hN];decide))
     have q0:=h51.c0
     have r0:=h51.f0
     have h41:=hZz h41
     have h51:=hZz h51
     clear hb h4 h5
     rw [hN] at hcell2 HI hB1 h41 h51 q0 r0
     clear hN g0 g3
     have m0:=l0.out
     generalize l.getD k cpu0=x at *
     generalize hcz:cntTo A l 0 k=z at *
     go_wp2_with (go_at_call 156;refine HI.out.mono ?_;rintro e w' ⟨rfl,rfl⟩)
     go_roundw
     case rel=>
      refine ⟨k+1,by omega,by go_num,h41.out.set_other (by simp) _,?_,hB1.setCell (by simp) _⟩
      rw [EJ.out,E1.out,E2.out,E3.out]
      have:=h51.out.set0 ((z:Int)+1)
      simpa using this
     case measure=>simp [intOf];omega
    ·have EJ:=hZz (cntTo_yes (l:=l) (j:=1) hb hN)
     have E0:=hZz (cntTo_other (s:=A) (l:=l) (k:=k) (j:=0) (by rw [hN];decide))
     have E2:=hZz (cntTo_other (s:=A) (l:=l) (k:=k) (j:=2) (by rw [hN];decide))
     have E3:=hZz (cntTo_other (s:=A) (l:=l) (k:=k) (j:=3) (by rw [hN];decide))
     have q0:=h51.c1
     have r0:=h51.f1
     have h41:=hZz h41
     have h51:=hZz h51
     clear hb h4 h5
     rw [hN] at hcell2 HI hB1 h41 h51 q0 r0
     clear hN g0 g3
     have m0:=l1.out
     generalize l.getD k cpu0=x at *
     generalize hcz:cntTo A l 1 k=z at *
     go_wp2_with (go_at_call 156;refine HI.out.mono ?_;rintro e w' ⟨rfl,rfl⟩)
     go_roundw
     case rel=>
      refine ⟨k+1,by omega,by go_num,h41.out.set_other (by simp) _,?_,hB1.setCell (by simp) _⟩
      rw [EJ.out,E0.out,E2.out,E3.out]
      have:=h51.out.set1 ((z:Int)+1)
      simpa using this
     case measure=>simp [intOf];omega
    ·have EJ:=hZz (cntTo_yes (l:=l) (j:=2) hb hN)
     have E0:=hZz (cntTo_other (s:=A) (l:=l) (k:=k) (j:=0) (by rw [hN];decide))
     have E1:=hZz (cntTo_other (s:=A) (l:=l) (k:=k) (j:=1) (by rw [hN];decide))
     have E3:=hZz (cntTo_other (s:=A) (l:=l) (k:=k) (j:=3) (by rw [hN];decide))
     have q0:=h51.c2
     have r0:=h51.f2
     have h41:=hZz h41
     have h51:=hZz h51
     clear hb h4 h5
     rw [hN] at hcell2 HI hB1 h41 h51 q0 r0
     clear hN g0 g3
     have m0:=l2.out
     generalize l.getD k cpu0=x at *
     generalize hcz:cntTo A l 2 k=z at *
     go_wp2_with (go_at_call 156;refine HI.out.mono ?_;rintro e w' ⟨rfl,rfl⟩)
     go_roundw
     case rel=>
      refine ⟨k+1,by omega,by go_num,h41.out.set_other (by simp) _,?_,hB1.setCell (by simp) _⟩
      rw [EJ.out,E0.out,E1.out,E3.out]
      have:=h51.out.set2 ((z:Int)+1)
      simpa using this
     case measure=>simp [intOf];omega
    ·have EJ:=hZz (cntTo_yes (l:=l) (j:=3) hb hN)
     have E0:=hZz (cntTo_other (s:=A) (l:=l) (k:=k) (j:=0) (by rw [hN];decide))
     have E1:=hZz (cntTo_other (s:=A) (l:=l) (k:=k) (j:=1) (by rw [hN];decide))
     have E2:=hZz (cntTo_other (s:=A) (l:=l) (k:=k) (j:=2) (by rw [hN];decide))
     have q0:=h51.c3
     have r0:=h51.f3
     have h41:=hZz h41
     have h51:=hZz h51
     clear hb h4 h5
     rw [hN] at hcell2 HI hB1 h41 h51 q0 r0
     clear hN g0 g3
     have m0:=l3.out
     generalize l.getD k cpu0=x at *
     generalize hcz:cntTo A l 3 k=z at *
     go_wp2_with (go_at_call 156;refine HI.out.mono ?_;rintro e w' ⟨rfl,rfl⟩)
     go_roundw
     case rel=>
      refine ⟨k+1,by omega,by go_num,h41.out.set_other (by simp) _,?_,hB1.setCell (by simp) _⟩
      rw [EJ.out,E0.out,E1.out,E2.out]
      have:=h51.out.set3 ((z:Int)+1)
      simpa using this
     case measure=>simp [intOf];omega
   ·rw [hb] at HI
    have E0:=hZz (cntTo_out (l:=l) (j:=0) hb)
    have E1:=hZz (cntTo_out (l:=l) (j:=1) hb)
    have E2:=hZz (cntTo_out (l:=l) (j:=2) hb)
    have E3:=hZz (cntTo_out (l:=l) (j:=3) hb)
    have h41:=hZz h41
    have h51:=hZz h51
    clear hb h4 h5 hN
    generalize l.getD k cpu0=x at *
    go_wp2_with (go_at_call 156;refine HI.out.mono ?_;rintro e w' ⟨rfl,rfl⟩)
    go_roundw
    case rel=>exact ⟨k+1,by omega,by go_num,h41.out,by rw [E0.out,E1.out,E2.out,E3.out];exact h51.out,hB1⟩
    case measure=>simp [intOf];omega
  ·have hkl:k=l.length:=by omega
   subst hkl
   clear hk hlt
   have q0:=h5.c0
   have q1:=h5.c1
   have q2:=h5.c2
   have q3:=h5.c3
   have p0:=h4.c0
   have p1:=h4.c1
   have p2:=h4.c2
   have p3:=h4.c3
   have r0:=h4.f0
   have r1:=h4.f1
   have r2:=h4.f2
   have r3:=h4.f3
   clear h4 h5
   go_wp2_with fail
   (try simp only [Exit.inBlock,Exit.then])
   refine bodyPost_ret (v:=cntV A l l.length) ?_ rfl ⟨rfl,?_⟩
   ·unfold cntV
    rw [results_cell rfl]
    go_simp
   ·exact (((hB.setCell (Nat.le_refl _) _).setCell (Nat.le_refl _) _).setCell (Nat.le_refl _) _).setCell (Nat.le_refl _) _
end
section
open Go.RowKit
open Dvs (Dv dv0 dv nth)
def inBd (n:Int) (k:Nat):Bool:=decide (0≤n) && decide (n<(k:Int))
theorem has_any (n:Int) (w:World) (pb db:Nat) (ao:Option Addr) (c:Nat) (ds:List Dv) (us:Nat→Bool) (h:PoolAt w pb db ao c ds us) :
  Calls Tryz.prog 159 #[.pointer (some ⟨pb,0,none⟩),.int .i64 n] w fun e w'=>e=.returned (.bool (inBd n ds.length))∧w'=w:=by
 have hr:=h.row
 clear h
 unfold inBd
 generalize ds.length=m at *
 by_cases h1:0≤n
 all_goals by_cases h2:n<m
 all_goals
  go_enter Tryz.func159,Tryz.ntmps159
  go_wp2_with fail
  go_ret
  refine ⟨?_,rfl⟩
  simp [h1,h2]
end
section
namespace Sv
open Qos (Nd Ct Pd nd ct pd podF leS)
open Dvs (first nameMay)
structure Gv where
 cp:Nat
 dv:List Int
def gv0:Gv:=⟨0,[]⟩
instance:Inhabited Gv:=⟨gv0⟩
def gv (l:List Gv) (k:Nat):Gv:=l.getD k gv0
structure Hd where
 pod:Pd
 gs:List Gv
def hd0:Hd:=⟨Qos.pd0,[]⟩
instance:Inhabited Hd:=⟨hd0⟩
def hd (l:List Hd) (k:Nat):Hd:=l.getD k hd0
def dec (n:Int):List UInt8:=Lib.decDigits n.toNat
def orNo (l:List UInt8):List UInt8:=if l=[] then [45] else l
def needTxt (d:Nd):List UInt8:=d.kind.data.toList++[58]++dec d.many
def needsTxt (ds:List Nd):List UInt8:=orNo (Lib.join (ds.map needTxt) [44])
def devsTxt (dv:List Int):List UInt8:=orNo (Lib.join (dv.map dec) [44])
def setTxt (A:Nat):List UInt8:=orNo (Ost.txt A)
def contWs (c:Ct):List (List UInt8):=[[99,111,110,116],c.nm.data.toList,dec c.am,dec c.ab,dec c.cm,dec c.cb,needsTxt c.ds]
def givenWs (g:Gv):List (List UInt8):=[setTxt g.cp,devsTxt g.dv]
def podWs (p:Pd):List (List UInt8):=[[112,111,100],p.nm.data.toList,dec p.pr]
def lineTxt (ws:List (List UInt8)):List UInt8:=Lib.join ws [32]++[10]
def contLine (c:Ct) (g:Gv):List UInt8:=lineTxt (contWs c++givenWs g)
def podLine (p:Pd):List UInt8:=lineTxt (podWs p)
def contsTo (h:Hd):Nat→List UInt8
 | 0=>[]
 | k+1=>contsTo h k++contLine (ct h.pod.cs k) (gv h.gs k)
def podTxt (h:Hd):List UInt8:=podLine h.pod++contsTo h h.pod.cs.length
def bodyTo (hs:List Hd):Nat→List UInt8
 | 0=>[]
 | k+1=>bodyTo hs k++podTxt (hd hs k)
def body (hs:List Hd):List UInt8:=bodyTo hs hs.length
def sumTxt (b:List UInt8):List UInt8:=[115,117,109,32]++Lib.decDigits (fnv b)++[10]
def heldTxt (hs:List Hd):List UInt8:=body hs++sumTxt (body hs)
def devF1 (dv:List Int) (j:Nat):Nat:=if dv.getD j 0<0∨15<dv.getD j 0∨(0<j∧dv.getD j 0≤dv.getD (j - 1) 0) then 3 else 0
def devF (dv:List Int):Nat:=if 16<dv.length then 2 else first (devF1 dv) dv.length
def gsF (gs:List Gv):Nat:=first (fun k=>devF (gv gs k).dv) gs.length
def behindF (h:Hd) (lowB:Bool):Nat:=
 if podF h.pod≠0 then podF h.pod else if lowB=true∨h.gs.length≠h.pod.cs.length then 3 else gsF h.gs
def lowAt (hs:List Hd) (i:Nat):Bool:=decide (0<i) && leS (hd hs i).pod.nm (hd hs (i - 1)).pod.nm
def oneF (hs:List Hd) (i:Nat):Nat:=behindF (hd hs i) (lowAt hs i)
def heldF (hs:List Hd):Nat:=if 12<hs.length then 2 else first (oneF hs) hs.length
def OkG (g:Gv):Prop:=g.cp<18446744073709551616∧g.dv.length≤16∧∀ x∈g.dv,0≤x∧x≤15
def OkN (d:Nd):Prop:=nameMay d.kind=true∧1≤d.many∧d.many≤16
def OkC (c:Ct):Prop:=nameMay c.nm=true∧(0≤c.am∧c.am≤1000000)∧(0≤c.ab∧c.ab≤1125899906842624)∧(0≤c.cm∧c.cm≤1000000)∧(0≤c.cb∧c.cb≤1125899906842624)∧c.ds.length≤3∧∀ d∈c.ds,OkN d
def OkP (p:Pd):Prop:=nameMay p.nm=true∧(0≤p.pr∧p.pr≤1000)∧p.cs.length≤3∧∀ c∈p.cs,OkC c
def OkH (h:Hd):Prop:=OkP h.pod∧h.gs.length=h.pod.cs.length∧∀ g∈h.gs,OkG g
def OkL (hs:List Hd):Prop:=hs.length≤12∧∀ h∈hs,OkH h
theorem nd_in {ds:List Nd} {d:Nd} (h:d∈ds):∃ k,k<ds.length∧nd ds k=d:=by
 obtain ⟨k,hk,rfl⟩:=List.getElem_of_mem h
 exact ⟨k,hk,by simp [nd,hk]⟩
theorem ct_in {ds:List Ct} {d:Ct} (h:d∈ds):∃ k,k<ds.length∧ct ds k=d:=by
 obtain ⟨k,hk,rfl⟩:=List.getElem_of_mem h
 exact ⟨k,hk,by simp [ct,hk]⟩
theorem gv_in {ds:List Gv} {d:Gv} (h:d∈ds):∃ k,k<ds.length∧gv ds k=d:=by
 obtain ⟨k,hk,rfl⟩:=List.getElem_of_mem h
 exact ⟨k,hk,by simp [gv,hk]⟩
theorem hd_in {ds:List Hd} {d:Hd} (h:d∈ds):∃ k,k<ds.length∧hd ds k=d:=by
 obtain ⟨k,hk,rfl⟩:=List.getElem_of_mem h
 exact ⟨k,hk,by simp [hd,hk]⟩
theorem int_in {ds:List Int} {d:Int} (h:d∈ds):∃ k,k<ds.length∧ds.getD k 0=d:=by
 obtain ⟨k,hk,rfl⟩:=List.getElem_of_mem h
 exact ⟨k,hk,by simp [hk]⟩
theorem mem_ct {ds:List Ct} {k:Nat} (h:k<ds.length):ct ds k∈ds:=by simp [ct,h]
theorem mem_gv {ds:List Gv} {k:Nat} (h:k<ds.length):gv ds k∈ds:=by simp [gv,h]
theorem mem_hd {ds:List Hd} {k:Nat} (h:k<ds.length):hd ds k∈ds:=by simp [hd,h]
theorem okN_of {ds:List Nd} (h:first (Qos.needF ds) ds.length=0):∀ d∈ds,OkN d:=by
 intro d hd
 obtain ⟨k,hk,rfl⟩:=nd_in hd
 have:=Dvs.first_all h k hk
 unfold Qos.needF at this
 split at this
 ·cases this
 ·rename_i h1
  split at this
  ·cases this
  ·rename_i h2
   rw [not_or] at h1 h2
   exact ⟨by simpa using h1.1,by omega,by omega⟩
theorem okC_of {cs:List Ct} {k:Nat} (h:Qos.contF cs k=0):OkC (ct cs k):=by
 have h1:=Qos.cont_mild h
 unfold Qos.contF at h
 split at h
 ·cases h
 rename_i hn
 split at h
 ·cases h
 split at h
 ·cases h
 split at h
 ·cases h
 split at h
 ·cases h
 rename_i h3
 have a:=Qos.amt_in h1.1
 have b:=Qos.amt_in h1.2.1
 exact ⟨by simpa using hn,a.1,a.2,b.1,b.2,by omega,okN_of h⟩
theorem okP_of {p:Pd} (h:podF p=0):OkP p:=by
 obtain ⟨h1,h2,h3,h4⟩:=Qos.pod_len h
 refine ⟨h1,h2,h3.2,fun c hc=>?_⟩
 obtain ⟨k,hk,rfl⟩:=ct_in hc
 exact okC_of (Dvs.first_all h4 k hk)
theorem okD_of {dv:List Int} (h:devF dv=0):dv.length≤16∧∀ x∈dv,0≤x∧x≤15:=by
 unfold devF at h
 split at h
 ·cases h
 refine ⟨by omega,fun x hx=>?_⟩
 obtain ⟨k,hk,rfl⟩:=int_in hx
 have:=Dvs.first_all h k hk
 unfold devF1 at this
 split at this
 ·cases this
 ·omega
theorem okH_of {h:Hd} {b:Bool} (e:behindF h b=0) (hc:∀ g∈h.gs,g.cp<18446744073709551616):OkH h:=by
 unfold behindF at e
 split at e
 ·exact absurd e (by assumption)
 rename_i h1
 split at e
 ·cases e
 rename_i h2
 rw [not_or] at h2
 refine ⟨okP_of (by omega),by omega,fun g hg=>?_⟩
 obtain ⟨k,hk,rfl⟩:=gv_in hg
 exact ⟨hc _ hg,okD_of (Dvs.first_all e k hk)⟩
theorem okL_of {hs:List Hd} (e:heldF hs=0) (hc:∀ h∈hs,∀ g∈h.gs,g.cp<18446744073709551616):OkL hs:=by
 unfold heldF at e
 split at e
 ·cases e
 refine ⟨by omega,fun h hh=>?_⟩
 obtain ⟨k,hk,rfl⟩:=hd_in hh
 exact okH_of (Dvs.first_all e k hk) (hc _ hh)
theorem name_size {s:ByteArray} (h:nameMay s=true):0<s.data.toList.length∧s.data.toList.length≤8:=by
 have e:s.data.toList.length=s.size:=by simp
 rw [e]
 simp only [nameMay,Bool.and_eq_true,decide_eq_true_eq] at h
 exact ⟨h.1.1,h.1.2⟩
theorem dd_le (n:Nat) (h:n<18446744073709551616):(Lib.decDigits n).length≤20:=by rw [Lib.decDigits_length];exact Lib.nDigits_le20 _ h
theorem dec_le (n:Int) (h:n≤1125899906842624):(dec n).length≤20:=dd_le _ (by omega)
theorem join_le (c:UInt8) (m:Nat):∀ (xs:List (List UInt8)),(∀ x∈xs,x.length≤m)→(Lib.join xs [c]).length≤xs.length*(m+1):=by
 intro xs h
 have key:∀ r:List (List UInt8),(∀ x∈r,x.length≤m)→Lib.lens r≤r.length*m:=by
  intro r
  induction r with
  | nil=>intro _;simp [Lib.lens]
  | cons x r ih=>
   intro h
   have h1:=ih fun y hy=>h y (by simp [hy])
   have h2:=h x (by simp)
   simp only [Lib.lens,List.map_cons,List.sum_cons,List.length_cons,Nat.add_mul,Nat.one_mul] at h1 ⊢
   omega
 cases xs with
 | nil=>simp [Lib.join_nil]
 | cons x r=>
  rw [Lib.join_length]
  have h1:=key _ h
  simp only [List.length_cons,List.length_nil,Nat.mul_add,Nat.add_mul,Nat.one_mul,Nat.mul_one,Nat.zero_add] at h1 ⊢
  omega
theorem orNo_le {l:List UInt8} {m:Nat} (h:l.length≤m):(orNo l).length≤m+1:=by
 unfold orNo;split
 ·simp
 ·omega
theorem needTxt_le {d:Nd} (h:OkN d):(needTxt d).length≤29:=by
 have h1:=name_size h.1
 have h2:=dec_le d.many (by have:=h.2.2;omega)
 simp only [needTxt,List.length_append,List.length_cons,List.length_nil]
 omega
theorem needsTxt_le {ds:List Nd} (h:∀ d∈ds,OkN d) (hl:ds.length≤3):(needsTxt ds).length≤91:=by
 refine orNo_le (Nat.le_trans (join_le 44 29 _ fun x hx=>?_) ?_)
 ·obtain ⟨d,hd,rfl⟩:=List.mem_map.1 hx
  exact needTxt_le (h d hd)
 ·rw [List.length_map];omega
theorem devsTxt_le {dv:List Int} (h:∀ x∈dv,0≤x∧x≤15) (hl:dv.length≤16):(devsTxt dv).length≤337:=by
 refine orNo_le (Nat.le_trans (join_le 44 20 _ fun x hx=>?_) ?_)
 ·obtain ⟨d,hd,rfl⟩:=List.mem_map.1 hx
  exact dec_le d (by have:=h d hd;omega)
 ·rw [List.length_map];omega
theorem setTxt_le (A:Nat):(setTxt A).length≤301:=orNo_le (Ost.txt_len A)
theorem contWs_le {c:Ct} (h:OkC c):∀ x∈contWs c,x.length≤100:=by
 obtain ⟨h1,h2,h3,h4,h5,h6,h7⟩:=h
 have a:=name_size h1
 have b1:=dec_le c.am (by omega)
 have b2:=dec_le c.ab (by omega)
 have b3:=dec_le c.cm (by omega)
 have b4:=dec_le c.cb (by omega)
 have b5:=needsTxt_le h7 h6
 intro x hx
 simp only [contWs,List.mem_cons,List.not_mem_nil,or_false] at hx
 rcases hx with rfl|rfl|rfl|rfl|rfl|rfl|rfl <;> first|omega|simp
theorem givenWs_le {g:Gv} (h:OkG g):∀ x∈givenWs g,x.length≤400:=by
 have a:=setTxt_le g.cp
 have b:=devsTxt_le h.2.2 h.2.1
 intro x hx
 simp only [givenWs,List.mem_cons,List.not_mem_nil,or_false] at hx
 rcases hx with rfl|rfl <;> omega
theorem podWs_le {p:Pd} (h:OkP p):∀ x∈podWs p,x.length≤100:=by
 have a:=name_size h.1
 have b:=dec_le p.pr (by have:=h.2.1;omega)
 intro x hx
 simp only [podWs,List.mem_cons,List.not_mem_nil,or_false] at hx
 rcases hx with rfl|rfl|rfl <;> first|omega|simp
theorem contLine_le {c:Ct} {g:Gv} (hc:OkC c) (hg:OkG g):(contLine c g).length≤4000:=by
 have:=join_le 32 400 (contWs c++givenWs g) fun x hx=>by
  rcases List.mem_append.1 hx with h|h
  ·have:=contWs_le hc x h;omega
  ·exact givenWs_le hg x h
 simp only [contLine,lineTxt,List.length_append,List.length_cons,List.length_nil] at this ⊢
 simp only [contWs,givenWs,List.length_cons,List.length_nil] at this
 simp only [contWs,givenWs]
 omega
theorem podLine_le {p:Pd} (h:OkP p):(podLine p).length≤400:=by
 have:=join_le 32 100 (podWs p) (podWs_le h)
 simp only [podLine,lineTxt,List.length_append,List.length_cons,List.length_nil]
 simp only [podWs,List.length_cons,List.length_nil] at this ⊢
 omega
theorem okC_at {h:Hd} (e:OkH h) {k:Nat} (hk:k<h.pod.cs.length):OkC (ct h.pod.cs k)∧OkG (gv h.gs k):=
 ⟨e.1.2.2.2 _ (mem_ct hk),e.2.2 _ (mem_gv (by rw [e.2.1];exact hk))⟩
theorem contsTo_le {h:Hd} (e:OkH h):∀ k,k≤h.pod.cs.length→(contsTo h k).length≤k*4000:=by
 intro k
 induction k with
 | zero=>intro _;simp [contsTo]
 | succ k ih=>
  intro hk
  have h1:=ih (by omega)
  obtain ⟨h2,h3⟩:=okC_at e (k:=k) (by omega)
  have:=contLine_le h2 h3
  rw [contsTo,List.length_append]
  omega
theorem podTxt_le {h:Hd} (e:OkH h):(podTxt h).length≤13000:=by
 have h1:=contsTo_le e _ (Nat.le_refl _)
 have h2:=podLine_le e.1
 have h3:=e.1.2.2.1
 rw [podTxt,List.length_append]
 omega
theorem bodyTo_le {hs:List Hd} (e:OkL hs):∀ k,k≤hs.length→(bodyTo hs k).length≤k*13000:=by
 intro k
 induction k with
 | zero=>intro _;simp [bodyTo]
 | succ k ih=>
  intro hk
  have h1:=ih (by omega)
  have h2:=podTxt_le (e.2 _ (mem_hd (k:=k) (by omega)))
  rw [bodyTo,List.length_append]
  omega
theorem body_le {hs:List Hd} (e:OkL hs):(body hs).length≤156000:=by
 have:=bodyTo_le e _ (Nat.le_refl _)
 have h2:=e.1
 unfold body
 omega
theorem sumTxt_le (b:List UInt8):(sumTxt b).length≤25:=by
 have:=dd_le (fnv b) (Nat.lt_of_lt_of_le (fnv_lt b) (by omega))
 simp only [sumTxt,List.length_append,List.length_cons,List.length_nil]
 omega
end Sv
end
section
open Go.ChangeShapes Go.WideShapes Go.ChangeAt Go.RowKit
open Qos (Nd Ct Pd nd0 ct0 pd0 nd ct pd)
open Sv (Gv Hd gv hd)
def IntsOf (w:World) (v:Value) (xs:List Int):Prop:=
 ∃ ao c,v=.slice ao xs.length c∧(xs.length≤c∧c≤maxLen)∧(0<xs.length→∃ b o,ao=some ⟨b,o,none⟩∧b<w.heap.size∧∀ k,k<xs.length→w.cell? ⟨b,o+k,none⟩=some (.int .i64 (xs.getD k 0)))
def GivsIn (w:World) (b o:Nat) (gs:List Gv) (dv:Nat→Value):Prop:=
 b<w.heap.size∧∀ k,k<gs.length→(w.cell? ⟨b,o+k*2,none⟩=some (.int .u64 (gv gs k).cp)∧w.cell? ⟨b,o+k*2+1,none⟩=some (dv k)∧(gv gs k).cp<18446744073709551616)∧IntsOf w (dv k) (gv gs k).dv
def GivsAt (w:World) (v:Value) (gs:List Gv):Prop:=
 ∃ ao c,v=.slice ao gs.length c∧(gs.length≤c∧c≤maxLen)∧(0<gs.length→∃ b o dv,ao=some ⟨b,o,none⟩∧GivsIn w b o gs dv)
def heldV (h:Hd) (cv gvv:Value):Value:=.agg #[.string h.pod.nm,.int .i64 h.pod.pr,cv,gvv]
def HldsIn (w:World) (b o:Nat) (hs:List Hd) (cv gvv:Nat→Value):Prop:=
 b<w.heap.size∧∀ k,k<hs.length→(w.cell? ⟨b,o+k*4,none⟩=some (.string (hd hs k).pod.nm)∧w.cell? ⟨b,o+k*4+1,none⟩=some (.int .i64 (hd hs k).pod.pr)∧w.cell? ⟨b,o+k*4+2,none⟩=some (cv k)∧w.cell? ⟨b,o+k*4+3,none⟩=some (gvv k))∧ConsAt w (cv k) (hd hs k).pod.cs∧GivsAt w (gvv k) (hd hs k).gs
def HldsAt (w:World) (v:Value) (hs:List Hd):Prop:=
 ∃ ao c,v=.slice ao hs.length c∧(hs.length≤c∧c≤maxLen)∧(0<hs.length→∃ b o cv gvv,ao=some ⟨b,o,none⟩∧HldsIn w b o hs cv gvv)
theorem IntsOf.below {w w':World} {v:Value} {xs:List Int} (h:IntsOf w v xs) (hb:Below w.heap.size w w'):IntsOf w' v xs:=by
 obtain ⟨ao,c,hv,hm,hr⟩:=h
 refine ⟨ao,c,hv,hm,fun h0=>?_⟩
 obtain ⟨b,o,ha,hlt,hc⟩:=hr h0
 exact ⟨b,o,ha,Nat.lt_of_lt_of_le hlt hb.size,fun k hk=>(hb.cell (p:=⟨b,o+k,none⟩) hlt).trans (hc k hk)⟩
theorem GivsIn.below {w w':World} {b o:Nat} {gs:List Gv} {dv:Nat→Value} (h:GivsIn w b o gs dv) (hb:Below w.heap.size w w'):GivsIn w' b o gs dv:=
 ⟨Nat.lt_of_lt_of_le h.1 hb.size,fun k hk=>by
  obtain ⟨⟨h1,h2,h3⟩,h4⟩:=h.2 k hk
  exact ⟨⟨(hb.cell (p:=⟨b,o+k*2,none⟩) h.1).trans h1,(hb.cell (p:=⟨b,o+k*2+1,none⟩) h.1).trans h2,h3⟩,h4.below hb⟩⟩
theorem GivsAt.below {w w':World} {v:Value} {gs:List Gv} (h:GivsAt w v gs) (hb:Below w.heap.size w w'):GivsAt w' v gs:=by
 obtain ⟨ao,c,hv,hm,hr⟩:=h
 refine ⟨ao,c,hv,hm,fun h0=>?_⟩
 obtain ⟨b,o,dv,ha,hc⟩:=hr h0
 exact ⟨b,o,dv,ha,hc.below hb⟩
theorem HldsIn.below {w w':World} {b o:Nat} {hs:List Hd} {cv gvv:Nat→Value} (h:HldsIn w b o hs cv gvv) (hb:Below w.heap.size w w'):HldsIn w' b o hs cv gvv:=
 ⟨Nat.lt_of_lt_of_le h.1 hb.size,fun k hk=>by
  obtain ⟨⟨h1,h2,h3,h4⟩,h5,h6⟩:=h.2 k hk
  exact ⟨⟨(hb.cell (p:=⟨b,o+k*4,none⟩) h.1).trans h1,(hb.cell (p:=⟨b,o+k*4+1,none⟩) h.1).trans h2,(hb.cell (p:=⟨b,o+k*4+2,none⟩) h.1).trans h3,(hb.cell (p:=⟨b,o+k*4+3,none⟩) h.1).trans h4⟩,h5.below hb,h6.below hb⟩⟩
theorem HldsAt.below {w w':World} {v:Value} {hs:List Hd} (h:HldsAt w v hs) (hb:Below w.heap.size w w'):HldsAt w' v hs:=by
 obtain ⟨ao,c,hv,hm,hr⟩:=h
 refine ⟨ao,c,hv,hm,fun h0=>?_⟩
 obtain ⟨b,o,cv,gvv,ha,hc⟩:=hr h0
 exact ⟨b,o,cv,gvv,ha,hc.below hb⟩
theorem HldsAt.cps {w:World} {v:Value} {hs:List Hd} (h:HldsAt w v hs):∀ x∈hs,∀ g∈x.gs,g.cp<18446744073709551616:=by
 intro x hx g hg
 obtain ⟨k,hk,rfl⟩:=Sv.hd_in hx
 obtain ⟨ao,c,_,_,hr⟩:=h
 obtain ⟨b,o,cv,gvv,_,hc⟩:=hr (by omega)
 obtain ⟨_,_,h6⟩:=hc.2 k hk
 obtain ⟨j,hj,rfl⟩:=Sv.gv_in hg
 obtain ⟨ao,c,_,_,hr⟩:=h6
 obtain ⟨b,o,dv,_,hc⟩:=hr (by omega)
 exact (hc.2 j hj).1.2.2
section
variable {H:Type} {enc:TypeId × Value→H} {W:World}
end
end
section
open Go.RowKit Go.Sort
open S1 (Tab below_grow)
theorem holds_zero0 (w:World) (T:TypeId) (n:Nat) (hs:n≤24):Holds (fun (b:UInt8)=>Value.int .u8 (b.toNat:Int)) (w.alloc (.cells Lib.zeros24 T)) w.heap.size 0 (Array.replicate n (0:UInt8)):=fun j hj=>by
 have hj':j<n:=by simpa using hj
 refine ⟨?_,World.frozen?_alloc_new _ _ _ _⟩
 rw [World.cell?_alloc_new,Lib.zeros24_at _ (by omega),getElem!_pos _ j hj]
 simp
theorem fin_pos0 (w:World) (o:Obj) (dk:Array UInt8) (k:Nat):∃ os,(putRow (fun (b:UInt8)=>Value.int .u8 (b.toNat:Int)) (w.alloc o) w.heap.size 0 dk).drewN k=grow (w.drewN k) os:=by
 rw [alloc_eq_grow]
 obtain ⟨os',_,e⟩:=putRow_grow_new (fun (b:UInt8)=>Value.int .u8 (b.toNat:Int)) w #[o] w.heap.size 0 dk (Nat.le_refl _)
 exact ⟨os',by rw [e];rfl⟩
theorem intFormatUint (u:Nat) (w:World) (hu64:u<18446744073709551616) (htab:Tab w) :
  Calls Tryz.prog 188 #[.int .u64 u,.int .i64 10] w fun e w'=>e=.returned (.string ⟨(Lib.decDigits u).toArray⟩)∧Below w.heap.size w w':=by
 by_cases hs:u<100
 ·have hd:decide ((u:Int)<100)=true:=decide_eq_true (by omega)
  go_enter Tryz.func188,Tryz.ntmps188
  go_wp2_with fail
  refine (Tryz.internal_strconv_small u hs _).mono ?_
  rintro e w' ⟨rfl,rfl⟩
  go_wp2_with fail
  go_ret
  exact ⟨rfl,Below.refl _ _⟩
 ·have hu1:1≤u:=by omega
  have hd:decide ((u:Int)<100)=false:=decide_eq_false (by omega)
  have hnd20:Lib.nDigits u≤20:=by have:=Lib.numDigits_eq u hu1 hu64;split at this <;> omega
  have hsl1:∀ W,(Instr.sliceAt 314 (.pointer (some ⟨w.heap.size,0,none⟩)) none (some (.int .i64 (Lib.nDigits u:Int))) none).run Tryz.prog W=.ok (.slice (some ⟨w.heap.size,0,none⟩) (Lib.nDigits u) 24) W:=fun W=>by
   have hal:Tryz.prog.arrayLen 314=24:=by kernel_rfl
   rw [run_sliceAt_array_h W 314 ⟨w.heap.size,0,none⟩ (by kernel_rfl) .i64 (Lib.nDigits u:Int) (by omega) (by rw [hal];omega)]
   go_simp
  have hH0:=holds_zero0 w 314 (Lib.nDigits u) (by omega)
  have hfmt:=Tryz.internal_strconv_formatBase10 w.heap.size 0 24 u (Array.replicate (Lib.nDigits u) 0) (w.alloc (.cells Lib.zeros24 314)) hH0 (by rw [Array.size_replicate];exact Lib.lt_pow_nDigits u) hu64 (by rw [Array.size_replicate];omega)
  rw [Array.size_replicate] at hfmt
  have HH0:=Lib.hid hH0
  have HFM:=hZz hfmt
  have HTB:=hZz (Lib.tabIs_alloc htab (.cells Lib.zeros24 314))
  clear hH0 hfmt htab
  go_enter Tryz.func188,Tryz.ntmps188
  go_wp2_with fail
  refine (Tryz.internal_strconv_numDigits u hu1 hu64 _ HTB.out).mono ?_
  rintro e w' ⟨rfl,rfl⟩
  go_wp2_with fail
  refine HFM.out.mono ?_
  rintro e w' ⟨rfl,k,v',dk,rfl,hF⟩
  have hcv:(convert 194 9 (.slice (some ⟨w.heap.size,0,none⟩) (Lib.nDigits u) 24)).run Tryz.prog ((putRow (fun (b:UInt8)=>Value.int .u8 (b.toNat:Int)) (w.alloc (.cells Lib.zeros24 314)) w.heap.size 0 dk).drewN k)=.ok (.string ⟨(Lib.decDigits u).toArray⟩) ((putRow (fun (b:UInt8)=>Value.int .u8 (b.toNat:Int)) (w.alloc (.cells Lib.zeros24 314)) w.heap.size 0 dk).drewN k):=by
   have h:=run_convert_bytes_back (P:=Tryz.prog) ((putRow (fun (b:UInt8)=>Value.int .u8 (b.toNat:Int)) (w.alloc (.cells Lib.zeros24 314)) w.heap.size 0 dk).drewN k) 194 9 5 ⟨w.heap.size,0,none⟩ 24 (Lib.decDigits u) Tryz.underlying194 Tryz.underlying5 Tryz.underlying9 (fun j hj=>by
    rw [Lib.row_is_numeral hF j hj,Lib.add_plain,World.cell?_drewN]
    exact cell?_putRow (fun (b:UInt8)=>Value.int .u8 (b.toNat:Int)) _ w.heap.size 0 _ dk HH0.out (by rw [hF.size,Array.size_replicate]) j (by rw [hF.size];rw [Lib.decDigits_length] at hj;exact hj))
   rw [Lib.decDigits_length] at h
   exact h
  go_wp2_with fail
  go_ret
  obtain ⟨os,eo⟩:=fin_pos0 w (.cells Lib.zeros24 314) dk k
  exact ⟨rfl,by rw [eo];exact below_grow _ w (Nat.le_refl _) k os⟩
theorem formatUint_any (u:Nat) (w:World) (hu64:u<18446744073709551616) (htab:Tab w) :
  Calls Tryz.prog 149 #[.int .u64 u,.int .i64 10] w fun e w'=>e=.returned (.string ⟨(Lib.decDigits u).toArray⟩)∧Below w.heap.size w w':=by
 have HT:=hZz htab
 clear htab
 go_enter Tryz.func149,Tryz.ntmps149
 go_wp2_with fail
 refine (intFormatUint u w hu64 HT.out).mono ?_
 rintro e w1 ⟨rfl,hb⟩
 go_wp2_with fail
 go_ret
 exact ⟨rfl,hb⟩
theorem strcat (a b:List UInt8):(ByteArray.mk a.toArray)++(ByteArray.mk b.toArray)=ByteArray.mk (a++b).toArray:=by
 apply ByteArray.ext;simp
theorem sumLine_any (b:List UInt8) (w:World) (hb:b.length≤1000000) (htab:Tab w) :
  Calls Tryz.prog 113 #[.string ⟨b.toArray⟩] w fun e w'=>e=.returned (.string ⟨(Sv.sumTxt b).toArray⟩)∧Below w.heap.size w w':=by
 have HT:=hZz htab
 clear htab
 have HS:=hZz (sum_anyV ⟨b.toArray⟩ w (by unfold maxLen;simp [ByteArray.size];omega))
 have hlt:Sv.fnv b<4294967296:=Sv.fnv_lt b
 have hle:=Sv.dd_le (Sv.fnv b) (by omega)
 have HE:Hid (Sv.sumTxt b=[115,117,109,32]++Lib.decDigits (Sv.fnv b)++[10]):=rfl
 have e0:(ByteArray.mk b.toArray).data.toList=b:=by simp
 rw [e0] at HS
 generalize Sv.fnv b=H at *
 generalize Sv.sumTxt b=S at *
 have ea:=strcat [115,117,109,32] (Lib.decDigits H)
 have eb:=strcat ([115,117,109,32]++Lib.decDigits H) [10]
 go_enter Tryz.func113,Tryz.ntmps113
 go_wp2_with fail
 refine HS.out.mono ?_
 rintro e w1 ⟨rfl,rfl⟩
 go_wp2_with fail
 refine (formatUint_any H _ (by omega) HT.out).mono ?_
 rintro e w1 ⟨rfl,hb1⟩
 go_wp2_with fail
 go_ret
 exact ⟨by rw [HE.out];exact congrArg (fun x=>Ending.returned (Value.string x)) eb,hb1⟩
theorem orNothing_any (l:List UInt8) (w:World):Calls Tryz.prog 146 #[.string ⟨l.toArray⟩] w fun e w'=>e=.returned (.string ⟨(Sv.orNo l).toArray⟩)∧w'=w:=by
 have h0:((ByteArray.mk l.toArray).toList.isEmpty)=l.isEmpty:=by rw [ByteArray.toList_eq]
 by_cases h:l=[]
 ·subst h
  go_enter Tryz.func146,Tryz.ntmps146
  go_wp2_with fail
  go_ret
  exact ⟨rfl,rfl⟩
 ·have h1:l.isEmpty=false:=by simpa using h
  rw [h1] at h0
  have HE:Hid (Sv.orNo l=l):=by unfold Hid Sv.orNo;rw [if_neg h]
  rw [HE.out]
  go_enter Tryz.func146,Tryz.ntmps146
  go_wp2_with fail
  go_ret
  exact ⟨rfl,rfl⟩
end
section
namespace Sv
open Qos (Nd Ct Pd nd ct pd podF leS)
open Ost (cut1 splitC parseOut good val isNum isDig)
open Dvs (nameMay)
abbrev Tx:=List UInt8
def allOf {α:Type} (f:Tx→Option α):List Tx→Option (List α)
 | []=>some []
 | x :: r=>match f x with
  | none=>none
  | some y=>(allOf f r).map (y :: ·)
def listOf {α:Type} (f:Tx→Option α) (l:Tx):Option (List α):=if l=[45] then some [] else allOf f (splitC 44 l)
def cpusOf (l:Tx):Option Nat:=if l=[45] then some 0 else if (parseOut l).2=0 then some (parseOut l).1 else none
def wd (ws:List Tx) (k:Nat):Tx:=ws.getD k []
def contOf (num:Tx→Option Int) (need:Tx→Option Nd) (ws:List Tx):Option (Ct × Gv):=
 match num (wd ws 2),num (wd ws 3),num (wd ws 4),num (wd ws 5),listOf need (wd ws 6),cpusOf (wd ws 7),listOf num (wd ws 8) with
 | some a,some b,some c,some d,some ds,some A,some dv=>some (⟨⟨(wd ws 1).toArray⟩,a,b,c,d,ds⟩,⟨A,dv⟩)
 | _,_,_,_,_,_,_=>none
def isPod (ws:List Tx):Bool:=decide (wd ws 0=[112,111,100]) && decide (ws.length=3)
def isCont (ws:List Tx):Bool:=decide (wd ws 0=[99,111,110,116]) && decide (ws.length=9)
def plusC (h:Hd) (c:Ct) (g:Gv):Hd:=⟨⟨h.pod.nm,h.pod.pr,h.pod.cs++[c]⟩,h.gs++[g]⟩
def addCont (hs:List Hd) (c:Ct) (g:Gv):List Hd:=hs.dropLast++[plusC (hd hs (hs.length - 1)) c g]
def newHd (ws:List Tx) (n:Int):Hd:=⟨⟨⟨(wd ws 1).toArray⟩,n,[]⟩,[]⟩
def step (num:Tx→Option Int) (need:Tx→Option Nd) (hs:List Hd) (ws:List Tx):Option (List Hd):=
 if isPod ws=true then (num (wd ws 2)).map fun n=>hs++[newHd ws n]
 else if isCont ws=true∧0<hs.length then (contOf num need ws).map fun x=>addCont hs x.1 x.2
 else none
def steps (num:Tx→Option Int) (need:Tx→Option Nd) (hs:List Hd):List (List Tx)→Option (List Hd)
 | []=>some hs
 | ws :: r=>match step num need hs ws with
  | none=>none
  | some hs'=>steps num need hs' r
def rowsS (t:Tx):List Tx:=if (splitC 10 t).getLast?=some [] then (splitC 10 t).dropLast else splitC 10 t
def numS (l:Tx):Option Int:=if good 16 l=true then some (val l) else none
def needS (l:Tx):Option Nd:=(numS (cut1 58 l).2.1).map fun n=>⟨⟨(cut1 58 l).1.toArray⟩,n⟩
def readS (t:Tx):Option (List Hd):=steps numS needS [] ((rowsS t).map (splitC 32))
structure Good (num:Tx→Option Int) (need:Tx→Option Nd):Prop where
 num:∀ n:Int,0≤n→n≤1125899906842624→num (dec n)=some n
 need:∀ d:Nd,OkN d→need (needTxt d)=some d
def linesTo (h:Hd):Nat→List (List Tx)
 | 0=>[]
 | k+1=>linesTo h k++[contWs (ct h.pod.cs k)++givenWs (gv h.gs k)]
def linesOf (h:Hd):List (List Tx):=podWs h.pod :: linesTo h h.pod.cs.length
def allTo (hs:List Hd):Nat→List (List Tx)
 | 0=>[]
 | k+1=>allTo hs k++linesOf (hd hs k)
end Sv
end
namespace S1
open Go.RowKit
theorem str_app (a b:List UInt8):(ByteArray.mk a.toArray)++(ByteArray.mk b.toArray)=ByteArray.mk (a++b).toArray:=by
 apply ByteArray.ext;simp
theorem dd_len (n:Nat) (h:n<100):(Lib.decDigits n).length≤2:=by
 by_cases h1:n<10
 ·rw [Lib.decDigits_one h1];simp
 ·rw [Lib.decDigits_two h1 h];simp
theorem spanText_any (f l:Nat) (w:World) (hf:f<64) (hl:l<64) :
  Calls Tryz.prog 187 #[.int .i64 f,.int .i64 l] w fun e w'=>e=.returned (.string ⟨(Ost.spanTxt (f,l)).toArray⟩)∧w'=w:=by
 have l1:=dd_len f (by omega)
 have l2:=dd_len l (by omega)
 by_cases h:f=l
 ·subst h
  have H:Hid (Ost.spanTxt (f,f)=Lib.decDigits f):=by simp [Hid,Ost.spanTxt]
  go_enter Tryz.func187,Tryz.ntmps187
  go_wp2_with fail
  refine (Tryz.strconv_Itoa_small f (by omega) _).mono ?_
  rintro e w' ⟨rfl,rfl⟩
  go_wp2_with fail
  go_ret
  exact ⟨by rw [H.out];rfl,rfl⟩
 ·have H:Hid (Ost.spanTxt (f,l)=Lib.decDigits f++[45]++Lib.decDigits l):=by simp [Hid,Ost.spanTxt,h]
  have h1:((f:Int) == (l:Int))=false:=by simp;omega
  clear h
  go_enter Tryz.func187,Tryz.ntmps187
  go_wp2_with fail
  refine (Tryz.strconv_Itoa_small f (by omega) _).mono ?_
  rintro e w' ⟨rfl,rfl⟩
  go_wp2_with fail
  refine (Tryz.strconv_Itoa_small l (by omega) _).mono ?_
  rintro e w' ⟨rfl,rfl⟩
  go_wp2_with fail
  go_ret
  refine ⟨?_,rfl⟩
  rw [H.out]
  show Ending.returned (.string ((ByteArray.mk (Lib.decDigits f).toArray++ByteArray.mk [45].toArray)++ByteArray.mk (Lib.decDigits l).toArray))=_
  rw [str_app,str_app]
def hasB (A:Nat) (z:Int):Bool:=decide (0≤z∧z<64) && A.testBit z.toNat
theorem hasB_nat (A k:Nat) (hA:A<18446744073709551616):hasB A (k:Int)=A.testBit k:=by
 unfold hasB
 by_cases h:k<64
 ·rw [decide_eq_true (by omega),Int.toNat_natCast];rfl
 ·rw [decide_eq_false (by omega)]
  have:A.testBit k=false:=Nat.testBit_lt_two_pow (Nat.lt_of_lt_of_le hA (Nat.pow_le_pow_right (n:=2) (by omega) (show 64≤k by omega)))
  rw [this];rfl
theorem has_gen (A:Nat) (z:Int) (w:World) (hA:A<18446744073709551616) :
  Calls Tryz.prog 156 #[.int .u64 A,.int .i64 z] w fun e w'=>e=.returned (.bool (hasB A z))∧w'=w:=by
 unfold hasB
 by_cases h:0≤z∧z<64
 ·obtain ⟨n,rfl⟩:=Int.eq_ofNat_of_zero_le h.1
  rw [decide_eq_true h,Int.toNat_natCast]
  exact has_in A n w hA (by omega)
 ·rw [decide_eq_false h]
  exact has_out A z w (by omega)
theorem has_t (A:Nat) (z:Int) (w:World) (hA:A<18446744073709551616) (h:hasB A z=true) :
  Calls Tryz.prog 156 #[.int .u64 A,.int .i64 z] w fun e w'=>e=.returned (.bool true)∧w'=w:=by
 have:=has_gen A z w hA
 rw [h] at this;exact this
theorem has_f (A:Nat) (z:Int) (w:World) (hA:A<18446744073709551616) (h:hasB A z=false) :
  Calls Tryz.prog 156 #[.int .u64 A,.int .i64 z] w fun e w'=>e=.returned (.bool false)∧w'=w:=by
 have:=has_gen A z w hA
 rw [h] at this;exact this
theorem infoStr:(Tryz.prog.info? 9).map (fun i=>(i.zero,i.size,i.bytes))=some (some (.string ⟨#[]⟩),1,16):=by kernel_rfl
def strs (l:List (List UInt8)):List Value:=l.map fun (b:List UInt8)=>Value.string ⟨b.toArray⟩
theorem strs_snoc (l:List (List UInt8)) (b:List UInt8):strs (l++[b])=strs l++[.string ⟨b.toArray⟩]:=by simp [strs]
theorem strs_oneCell (l:List (List UInt8)):∀ u∈strs l,u.oneCell'=true:=by
 intro u hu
 obtain ⟨_,_,rfl⟩:=List.mem_map.1 hu
 rfl
theorem spansTo_le (A k:Nat):(Ost.spansTo A k).length≤k:=by
 induction k with
 | zero=>exact Nat.le_refl _
 | succ k ih=>
  unfold Ost.spansTo
  split
  ·rw [List.length_append];simp;omega
  ·omega
theorem runStart_le (A k:Nat):Ost.runStart A k≤k:=by
 induction k with
 | zero=>exact Nat.le_refl _
 | succ k ih=>unfold Ost.runStart;split <;> omega
def txts (A k:Nat):List (List UInt8):=(Ost.spansTo A k).map Ost.spanTxt
theorem txts_len (A k:Nat):(txts A k).length≤k:=by unfold txts;rw [List.length_map];exact spansTo_le A k
theorem txts_yes (A k:Nat) (h0:A.testBit k=true) (h1:A.testBit (k+1)=false):txts A (k+1)=txts A k++[Ost.spanTxt (Ost.runStart A k,k)]:=by
 simp [txts,Ost.spansTo,h0,h1]
theorem txts_no (A k:Nat) (h:A.testBit k=false∨A.testBit (k+1)=true):txts A (k+1)=txts A k:=by
 unfold txts;rw [Ost.spansTo]
 rcases h with h|h <;> simp [h]
theorem text_loop (A:Nat) (w:World) (hA:A<18446744073709551616)
  (hJ:Hid (∀ (v:Value) (w1:World),w1.ownsRow w.heap.size 9 1 v (txts A 64).length (strs (txts A 64))→Below w.heap.size w w1→
   Calls Tryz.prog 183 #[v,.string ⟨#[44]⟩] w1 fun e w'=>e=.returned (.string ⟨(Lib.join (txts A 64) [44]).toArray⟩)∧Below w1.heap.size w1 w')) :
  Calls Tryz.prog 147 #[.int .u64 A] w fun e w'=>e=.returned (.string ⟨(Lib.join (txts A 64) [44]).toArray⟩)∧Below w.heap.size w w':=by
 obtain ⟨i0,hi,hz0,hz1,hz2⟩:=info_parts infoStr
 go_enter Tryz.func147,Tryz.ntmps147
 go_wp2_with fail
 go_loopw [3,4,6] (fun v f i wr=>∃ k fN:Nat,k≤64∧fN≤64∧i=.int .i64 k∧f=.int .i64 fN∧Hid (∀ j,k=j+1→A.testBit j=true→fN=Ost.runStart A j)∧wr.ownsRow w.heap.size 9 1 v (txts A k).length (strs (txts A k))∧Below w.heap.size w wr) (fun _ _ i _=>64 - (intOf i).toNat)
 case atStart=>exact ⟨0,0,by omega,by omega,rfl,rfl,by intro j hj;omega,World.ownsRow_nil _ _ _ _,Below.refl _ _⟩
 case round=>
  obtain ⟨k,fN,hk,hfN,rfl,rfl,HF,hrow,hnx⟩:=hrel
  by_cases hlt:k<64
  ·have hle:=txts_len A k
   have hsz:=hnx.size
   have e0:=hasB_nat A k hA
   rcases two' (A.testBit k) with hb|hb
   ·have H0:Hid (hasB A (k:Int)=true):=by unfold Hid;rw [e0,hb]
    -- where the run begins
    have HR:Hid ((hasB A ((k:Int) - 1)=true→fN=Ost.runStart A k)∧(hasB A ((k:Int) - 1)=false→k=Ost.runStart A k)):=by
     unfold Hid
     cases k with
     | zero=>exact ⟨fun h=>by simp [hasB] at h,fun _=>rfl⟩
     | succ j=>
      rw [show ((j+1:Nat):Int) - 1=(j:Int) by omega,hasB_nat A j hA]
      refine ⟨fun h=>?_,fun h=>?_⟩
      ·rw [Ost.runStart,if_pos h];exact HF.out j rfl h
      ·rw [Ost.runStart,if_neg (by rw [h];simp)]
    have e2:=hasB_nat A (k+1) hA
    rw [show ((k+1:Nat):Int)=(k:Int)+1 by omega] at e2
    have hrs:=runStart_le A k
    rcases two' (hasB A ((k:Int) - 1)) with hp|hp <;> rcases two' (A.testBit (k+1)) with hq|hq
    ·have HP:=hZz' hp
     have HQ:Hid (hasB A ((k:Int)+1)=true):=by unfold Hid;rw [e2,hq]
     have HFE:=hZz' (HR.out.1 hp)
     have HS:=hZz' (txts_no A k (.inr hq))
     clear hp hq hb e0 e2
     go_wp2_with fail
     refine (has_t A _ _ hA H0.out).mono ?_;rintro e w' ⟨rfl,rfl⟩
     go_wp2_with fail
     refine (has_t A _ _ hA HP.out).mono ?_;rintro e w' ⟨rfl,rfl⟩
     go_wp2_with fail
     refine (has_t A _ _ hA HQ.out).mono ?_;rintro e w' ⟨rfl,rfl⟩
     go_wp2_with fail
     go_roundw
     case rel=>exact ⟨k+1,fN,by omega,by omega,by go_num,rfl,fun j hj _=>(show k=j by omega) ▸ HFE.out,by rw [HS.out];exact hrow,hnx⟩
     case measure=>simp [intOf];omega
    ·have HP:=hZz' hp
     have HQ:Hid (hasB A ((k:Int)+1)=false):=by unfold Hid;rw [e2,hq]
     have HFE:=hZz' (HR.out.1 hp)
     have HS:Hid (txts A (k+1)=txts A k++[Ost.spanTxt (fN,k)]):=by
      unfold Hid;rw [txts_yes A k hb hq,← HFE.out]
     have hf64:fN<64:=by have:=HFE.out;omega
     clear hp hq hb e0 e2
     go_wp2_with fail
     refine (has_t A _ _ hA H0.out).mono ?_;rintro e w' ⟨rfl,rfl⟩
     go_wp2_with fail
     refine (has_t A _ _ hA HP.out).mono ?_;rintro e w' ⟨rfl,rfl⟩
     go_wp2_with fail
     refine (has_f A _ _ hA HQ.out).mono ?_;rintro e w' ⟨rfl,rfl⟩
     go_wp2_with fail
     refine (spanText_any fN k _ hf64 hlt).mono ?_;rintro e w' ⟨rfl,rfl⟩
     go_wp2_with (at_builtin;refine wpList_append_own _ rfl _ _ 110 rfl w.heap.size 9 i0 (.string ⟨#[]⟩) 1 16 Tryz.underlying110 hi hz0 hz1 hz2 rfl (by decide) _ _ _ rfl (hrow.alloc _) ⟨_,0,none⟩ 1 1 [.string ⟨(Ost.spanTxt (fN,k)).toArray⟩] rfl rfl (cell_one_new _ _ _) (strs_oneCell [Ost.spanTxt (fN,k)]) (by unfold maxLen;omega) (by omega) (by simp;omega) ?_;intro v' w1 hown' hgrow' _)
     go_roundw
     case rel=>
      refine ⟨k+1,fN,by omega,by omega,by go_num,rfl,?_,?_,?_⟩
      ·intro j hj _
       obtain rfl:k=j:=by omega
       exact HFE.out
      ·rw [HS.out,strs_snoc,List.length_append];exact hown'
      ·exact (hnx.alloc hsz _).grown hgrow' (by simp;omega) (fun j hj=>(hrow.lt j hj).1)
     case measure=>simp [intOf];omega
    ·have HP:=hZz' hp
     have HQ:Hid (hasB A ((k:Int)+1)=true):=by unfold Hid;rw [e2,hq]
     have HFE:=hZz' (HR.out.2 hp)
     have HS:=hZz' (txts_no A k (.inr hq))
     clear hp hq hb e0 e2
     go_wp2_with fail
     refine (has_t A _ _ hA H0.out).mono ?_;rintro e w' ⟨rfl,rfl⟩
     go_wp2_with fail
     refine (has_f A _ _ hA HP.out).mono ?_;rintro e w' ⟨rfl,rfl⟩
     go_wp2_with fail
     refine (has_t A _ _ hA HQ.out).mono ?_;rintro e w' ⟨rfl,rfl⟩
     go_wp2_with fail
     go_roundw
     case rel=>exact ⟨k+1,k,by omega,by omega,by go_num,rfl,fun j hj _=>(show k=j by omega) ▸ HFE.out,by rw [HS.out];exact hrow,hnx⟩
     case measure=>simp [intOf];omega
    ·have HP:=hZz' hp
     have HQ:Hid (hasB A ((k:Int)+1)=false):=by unfold Hid;rw [e2,hq]
     have HFE:=hZz' (HR.out.2 hp)
     have HS:Hid (txts A (k+1)=txts A k++[Ost.spanTxt (k,k)]):=by
      unfold Hid;rw [txts_yes A k hb hq,← HFE.out]
     have hf64:k<64:=by have:=HFE.out;omega
     clear hp hq hb e0 e2
     go_wp2_with fail
     refine (has_t A _ _ hA H0.out).mono ?_;rintro e w' ⟨rfl,rfl⟩
     go_wp2_with fail
     refine (has_f A _ _ hA HP.out).mono ?_;rintro e w' ⟨rfl,rfl⟩
     go_wp2_with fail
     refine (has_f A _ _ hA HQ.out).mono ?_;rintro e w' ⟨rfl,rfl⟩
     go_wp2_with fail
     refine (spanText_any k k _ hf64 hlt).mono ?_;rintro e w' ⟨rfl,rfl⟩
     go_wp2_with (at_builtin;refine wpList_append_own _ rfl _ _ 110 rfl w.heap.size 9 i0 (.string ⟨#[]⟩) 1 16 Tryz.underlying110 hi hz0 hz1 hz2 rfl (by decide) _ _ _ rfl (hrow.alloc _) ⟨_,0,none⟩ 1 1 [.string ⟨(Ost.spanTxt (k,k)).toArray⟩] rfl rfl (cell_one_new _ _ _) (strs_oneCell [Ost.spanTxt (k,k)]) (by unfold maxLen;omega) (by omega) (by simp;omega) ?_;intro v' w1 hown' hgrow' _)
     go_roundw
     case rel=>
      refine ⟨k+1,k,by omega,by omega,by go_num,rfl,?_,?_,?_⟩
      ·intro j hj _
       obtain rfl:k=j:=by omega
       exact HFE.out
      ·rw [HS.out,strs_snoc,List.length_append];exact hown'
      ·exact (hnx.alloc hsz _).grown hgrow' (by simp;omega) (fun j hj=>(hrow.lt j hj).1)
     case measure=>simp [intOf];omega
   ·have H0:Hid (hasB A (k:Int)=false):=by unfold Hid;rw [e0,hb]
    have HS:=hZz' (txts_no A k (.inl hb))
    have HB:=hZz' hb
    clear hb e0
    go_wp2_with fail
    refine (has_f A _ _ hA H0.out).mono ?_;rintro e w' ⟨rfl,rfl⟩
    go_wp2_with fail
    go_roundw
    case rel=>
     refine ⟨k+1,fN,by omega,hfN,by go_num,rfl,?_,by rw [HS.out];exact hrow,hnx⟩
     intro j hj hb
     obtain rfl:k=j:=by omega
     rw [HB.out] at hb;cases hb
    case measure=>simp [intOf];omega
  ·have hk64:k=64:=by omega
   subst hk64
   clear hk hlt
   go_wp2_with fail
   refine (hJ.out _ _ hrow hnx).mono ?_
   rintro e w2 ⟨rfl,hb2⟩
   go_wp2_with fail
   go_ret
   exact ⟨rfl,hnx.trans (hb2.mono hnx.size)⟩
theorem ownsRow_cells {w:World} {base:Nat} {e:TypeId} {v:Value} {n:Nat} {xs:List Value} (h:w.ownsRow base e 1 v n xs) :
  (v=.slice none 0 0∧n=0)∨∃ g cap,v=.slice (some ⟨g,0,none⟩) n cap∧n≤cap∧g<w.heap.size∧∀ j x,xs[j]?=some x→w.cell? ⟨g,j,none⟩=some x:=by
 obtain ⟨hl,h⟩:=h
 rcases h with ⟨rfl,rfl⟩|⟨g,cap,cur,rfl,hb,hh,hn,hc,hs,ht⟩
 ·exact .inl ⟨rfl,rfl⟩
 ·refine .inr ⟨g,cap,rfl,hn,(Array.getElem?_eq_some_iff.1 hh).1,fun j x hx=>?_⟩
  have hj:j<n*1:=by rw [← hl];exact (List.getElem?_eq_some_iff.1 hx).1
  rw [← ht,List.getElem?_take,if_pos hj] at hx
  simp only [World.cell?,hh]
  simpa using hx
theorem join_own (v:Value) (xs:List (List UInt8)) (w:World) (base:Nat) (h:w.ownsRow base 9 1 v xs.length (strs xs)) (hn:xs.length≤100) (hl:(Lib.join xs [44]).length≤100000) :
  Calls Tryz.prog 183 #[v,.string ⟨#[44]⟩] w fun e w'=>e=.returned (.string ⟨(Lib.join xs [44]).toArray⟩)∧Below w.heap.size w w':=by
 rcases ownsRow_cells h with ⟨rfl,h0⟩|⟨g,cap,rfl,hc,hg,hcell⟩
 ·have:xs=[]:=List.eq_nil_of_length_eq_zero h0
  subst this
  refine (Tryz.strings_Join_none none 0 ⟨#[44]⟩ w).mono ?_
  rintro e w' ⟨rfl,rfl⟩
  exact ⟨rfl,Below.refl _ _⟩
 ·have hx:(xs.map fun (b:List UInt8)=>ByteArray.mk b.toArray).map (·.data.toList)=xs:=by
   rw [List.map_map];exact List.map_id'' (fun _=>rfl) xs
  have:=Tryz.strings_Join g 0 cap (xs.map fun (b:List UInt8)=>ByteArray.mk b.toArray) ⟨#[44]⟩ w (fun j x hj=>by
   rw [Nat.zero_add]
   apply hcell
   unfold strs
   rw [List.getElem?_map] at hj ⊢
   obtain ⟨a,ha,rfl⟩:=Option.map_eq_some_iff.1 hj
   rw [ha];rfl) hg (by simp;omega) (by simpa using hc) (by rw [hx];show (Lib.join xs [44]).length≤_;omega)
  rw [hx] at this
  simpa using this
end S1
namespace S1
open Go.RowKit
def Left (l:List UInt8) (k acc:Nat):Prop:=Ost.parseOut l=Ost.pieces acc ((Ost.splitC 44 l).drop k)
theorem Left.done {l:List UInt8} {k acc:Nat} (h:Left l k acc) (hk:(Ost.splitC 44 l).length≤k):Ost.parseOut l=(acc,0):=by
 unfold Left at h
 rw [List.drop_eq_nil_of_le hk] at h;exact h
end S1
section
open Go.RowKit
open Qos (Nd Ct Pd nd0 ct0 pd0 nd ct pd needF contF podF amtOk over twice leS)
open Dvs (nameMay first)
theorem podF_1 {p:Pd} (h:nameMay p.nm=false):podF p=3:=by unfold podF;rw [if_pos h]
theorem podF_2 {p:Pd} (h:nameMay p.nm=true) (h2:p.pr<0∨1000<p.pr):podF p=1:=by unfold podF;rw [if_neg (by rw [h];decide),if_pos h2]
theorem podF_3 {p:Pd} (h:nameMay p.nm=true) (h2:¬ (p.pr<0∨1000<p.pr)) (h3:p.cs.length<1∨3<p.cs.length):podF p=2:=by unfold podF;rw [if_neg (by rw [h];decide),if_neg h2,if_pos h3]
theorem podF_4 {p:Pd} (h:nameMay p.nm=true) (h2:¬ (p.pr<0∨1000<p.pr)) (h3:¬ (p.cs.length<1∨3<p.cs.length)):podF p=first (contF p.cs) p.cs.length:=by unfold podF;rw [if_neg (by rw [h];decide),if_neg h2,if_neg h3]
theorem errQ_pos {f:Nat} (h:f≠0):errV (f:Int)=.iface 94 (.int .i64 f):=by unfold errV;rw [if_neg (by omega)]
theorem below_drew' {B:Nat} {a w:World} (h:Below B a w):Below B a w.drew:=⟨h.os,h.tape,h.output,h.size,h.block⟩
theorem check_any (p:Pd) (cv:Value) (w:World) (h:ConsAt w cv p.cs):Calls Tryz.prog 19 #[podV p cv] w fun e w'=>e=.returned (errV (podF p:Nat))∧Below w.heap.size w w':=by
 obtain ⟨ao,c,rfl,hm,hr⟩:=h
 have HR:=hZz hr
 have HM:=hZz hm
 clear hr hm
 have H1:=hZz (@podF_1 p)
 have H2:=hZz (@podF_2 p)
 have H3:=hZz (@podF_3 p)
 have H4:=hZz (@podF_4 p)
 unfold podV
 have HB0:=hZz ((Below.refl w.heap.size w).alloc (Nat.le_refl _) (.cells #[.string p.nm,.int .i64 p.pr,.slice ao p.cs.length c] 31))
 rcases two (nameMay p.nm) with hn|hn
 ·have H2:=hZz (H2.out hn)
  have H3:=hZz (H3.out hn)
  have H4:=hZz (H4.out hn)
  by_cases hp:p.pr<0∨1000<p.pr
  ·have he:=H2.out hp
   go_enter Tryz.func19,Tryz.ntmps19
   go_wp2_with fail
   refine (name_any _ _).mono ?_
   rintro e w1 ⟨rfl,rfl⟩
   rw [hn]
   go_wp2_with fail
   refine (within_any _ _ _ _).mono ?_
   rintro e w1 ⟨rfl,rfl⟩
   rw [show (decide (0≤p.pr) && decide (p.pr≤1000))=false by simp;omega]
   go_wp2_with fail
   go_ret
   exact ⟨by rw [he];rfl,HB0.out⟩
  have H3:=hZz (H3.out hp)
  have H4:=hZz (H4.out hp)
  have hp':(decide (0≤p.pr) && decide (p.pr≤1000))=true:=by simp;omega
  clear hp
  by_cases hl:p.cs.length<1∨3<p.cs.length
  ·have he:=H3.out hl
   have hl':(decide ((1:Int)≤p.cs.length) && decide ((p.cs.length:Int)≤3))=false:=by simp;omega
   clear hl H1 H2 H3 H4
   go_enter Tryz.func19,Tryz.ntmps19
   go_wp2_with fail
   refine (name_any _ _).mono ?_
   rintro e w1 ⟨rfl,rfl⟩
   rw [hn]
   go_wp2_with fail
   refine (within_any _ _ _ _).mono ?_
   rintro e w1 ⟨rfl,rfl⟩
   rw [hp']
   go_wp2_with fail
   refine (within_any _ _ _ _).mono ?_
   rintro e w1 ⟨rfl,rfl⟩
   rw [hl']
   go_wp2_with fail
   go_ret
   exact ⟨by rw [he];rfl,HB0.out⟩
  have HE:=hZz (H4.out hl)
  have hl':(decide ((1:Int)≤p.cs.length) && decide ((p.cs.length:Int)≤3))=true:=by simp;omega
  have hlen:p.cs.length≤3:=by omega
  rw [HE.out]
  clear hl H1 H2 H3 H4 HE
  clear H2 H3 H4
  generalize p.cs=cs at *
  go_enter Tryz.func19,Tryz.ntmps19
  go_wp2_with fail
  refine (name_any _ _).mono ?_
  rintro e w1 ⟨rfl,rfl⟩
  rw [hn]
  go_wp2_with fail
  refine (within_any _ _ _ _).mono ?_
  rintro e w1 ⟨rfl,rfl⟩
  rw [hp']
  go_wp2_with fail
  refine (within_any _ _ _ _).mono ?_
  rintro e w1 ⟨rfl,rfl⟩
  rw [hl']
  go_wp2_with fail
  go_loopw [25] (fun i wr=>∃ k:Nat,k≤cs.length∧i=.int .i64 k∧Below w.heap.size w wr∧Hid (w.heap.size<wr.heap.size)∧wr.cell? ⟨w.heap.size,2,none⟩=some (.slice ao cs.length c)∧Hid (first (contF cs) k=0)) (fun i _=>cs.length - (intOf i).toNat)
  case atStart=>exact ⟨0,by omega,rfl,HB0.out,by simp [Hid],by simp,rfl⟩
  case round=>
   obtain ⟨k,hk,rfl,hB,HLT,hcv,HF⟩:=hrel
   by_cases hlt:k<cs.length
   ·obtain ⟨b,o,dv,rfl,hin⟩:=HR.out (by omega)
    have hin:=hin.below hB
    obtain ⟨c0,c1,c2,c3,c4,c5⟩:=hin.at hlt
    have hkc:k≤c:=Nat.le_trans hk HM.out.1
    have HO:=hZz (Dvs.first_hit (f:=contF cs) (n:=cs.length) HF.out · hlt)
    have HZ:=hZz (Dvs.first_zero (f:=contF cs) (k:=k) HF.out)
    have HI:=hZz hin
    have hB1:=hZz (hB.alloc hB.size (.cells #[.string (ct cs k).nm,.int .i64 (ct cs k).am,.int .i64 (ct cs k).ab,.int .i64 (ct cs k).cm,.int .i64 (ct cs k).cb,dv k] 64))
    have HBX:=hZz ((BoxAt.made wr (ct cs k) (dv k)).below (below_drew' (Below.refl _ _)))
    have HCK:=hZz (fun W (hb:Below wr.heap.size wr W)=>checkCont_any b o c k cs dv W (hin.below hb) hlt (Nat.le_trans HM.out.1 HM.out.2))
    have HL2:=hZz ((Below.refl wr.heap.size wr).alloc (Nat.le_refl _) (.cells #[.string (ct cs k).nm,.int .i64 (ct cs k).am,.int .i64 (ct cs k).ab,.int .i64 (ct cs k).cm,.int .i64 (ct cs k).cb,dv k] 64))
    have HCV:=hZz hcv
    have hsl:∃ a n e,dv k=.slice a n e:=by
     obtain ⟨a,e,he,_⟩:=(hin.2 k hlt).2
     exact ⟨a,_,e,he⟩
    clear hin HF hB
    generalize ct cs k=x at *
    generalize dv k=d at *
    obtain ⟨da,dn,dc,rfl⟩:=hsl
    generalize contF cs k=F at *
    go_wp2_with fail
    obtain ⟨l0,b0,b1,b2,b3,b4,b5⟩:=HBX.out
    have HC2:=(below_drew' HL2.out).cell (p:=⟨w.heap.size,2,none⟩) HLT.out |>.trans HCV.out
    clear HBX
    refine wp_region_held_drew (S:=(fun w'=>(w'.cell? ⟨wr.heap.size,0,none⟩=some (.string x.nm)∧w'.cell? ⟨wr.heap.size,1,none⟩=some (.int .i64 x.am)∧w'.cell? ⟨wr.heap.size,2,none⟩=some (.int .i64 x.ab)∧w'.cell? ⟨wr.heap.size,3,none⟩=some (.int .i64 x.cm)∧w'.cell? ⟨wr.heap.size,4,none⟩=some (.int .i64 x.cb)∧w'.cell? ⟨wr.heap.size,5,none⟩=some (.slice da dn dc))∧w'.cell? ⟨w.heap.size,2,none⟩=some (.slice (some ⟨b,o,none⟩) cs.length c))) (by kernel_rfl) ⟨⟨b0,b1,b2,b3,b4,b5⟩,HC2⟩ (fun hHeld=>?_)
    refine tk 0 (v:=?a1) (fun w' h=>?b1) ?_
    case b1=>(try dsimp only at h);go_simp;try rfl
    (try simp only [Act.put,s1,s2,s3])
    refine tk 1 (v:=?a2) (fun w' h=>?b2) ?_
    case b2=>(try dsimp only at h);go_simp;try rfl
    (try simp only [Act.put,s1,s2,s3])
    refine tk 2 (v:=?a3) (fun w' h=>?b3) ?_
    case b3=>(try dsimp only at h);go_simp;try rfl
    (try simp only [Act.put,s1,s2,s3])
    refine tk 3 (v:=?a4) (fun w' h=>?b4) ?_
    case b4=>(try dsimp only at h);go_simp;try rfl
    (try simp only [Act.put,s1,s2,s3])
    refine tk 4 (v:=?a5) (fun w' h=>?b5) ?_
    case b5=>(try dsimp only at h);go_simp;try rfl
    (try simp only [Act.put,s1,s2,s3])
    refine wpAnyH_ready (rs:=[5]) (by kernel_rfl) (by simp) (AllReadyH.cons rfl (fun K hK=>?_) AllReadyH.nil)
    go_simp
    go_wp2_with fail
    refine (HCK.out _ (below_drew' HL2.out)).mono ?_
    rintro e w5 ⟨rfl,hb5⟩
    have HB5:=hZz hb5
    have HS5:=hZz (And.intro (And.intro ((hb5.cell (p:=⟨wr.heap.size,0,none⟩) l0).trans b0) (And.intro ((hb5.cell (p:=⟨wr.heap.size,1,none⟩) l0).trans b1) (And.intro ((hb5.cell (p:=⟨wr.heap.size,2,none⟩) l0).trans b2) (And.intro ((hb5.cell (p:=⟨wr.heap.size,3,none⟩) l0).trans b3) (And.intro ((hb5.cell (p:=⟨wr.heap.size,4,none⟩) l0).trans b4) ((hb5.cell (p:=⟨wr.heap.size,5,none⟩) l0).trans b5)))))) ((hb5.cell (p:=⟨w.heap.size,2,none⟩) (Nat.lt_trans HLT.out l0)).trans HC2))
    clear hb5
    go_wp2_with fail
    refine hK.out _ _ HS5.out (fun hHeld=>?_)
    clear hK K
    refine tk 6 (v:=?a6) (fun w' h=>?b6) ?_
    case b6=>(try dsimp only at h);go_simp;try rfl
    (try simp only [Act.put,s1,s2,s3])
    refine wpAnyH_done (by kernel_rfl) ?_ _
    have HB6:=hZz ((below_drew' hB1.out).trans (HB5.out.mono (below_drew' hB1.out).size))
    have HC6:=hZz hHeld.2
    have HL6:=hZz (Nat.lt_of_lt_of_le (Nat.lt_trans HLT.out l0) HB5.out.size)
    clear HB5 HS5 hHeld hB1 HCK HL2 HCV HI HC2 b0 b1 b2 b3 b4 b5 l0 HLT hcv c0 c1 c2 c3 c4 c5
    by_cases hF:F=0
    ·have HZ':=hZz (HZ.out hF)
     rw [show errV (F:Int)=.nilIface by rw [hF];rfl]
     clear HO HZ hF
     go_wp2_with fail
     go_roundw
     case rel=>exact ⟨k+1,by omega,by go_num,HB6.out,HL6,HC6.out,HZ'⟩
     case measure=>simp [intOf];omega
    ·have HO':=hZz (HO.out hF)
     have HE:=hZz (errQ_pos hF)
     rw [HE.out]
     clear HO HZ hF
     go_wp2_with fail
     go_ret
     exact ⟨by rw [HO'.out,HE.out];rfl,HB6.out⟩
   ·have hke:k=cs.length:=by omega
    subst hke
    have hB1:=hZz hB
    clear hB
    go_wp2_with fail
    go_ret
    exact ⟨by rw [HF.out];rfl,hB1.out⟩
 ·have he:=H1.out hn
  go_enter Tryz.func19,Tryz.ntmps19
  go_wp2_with fail
  refine (name_any _ _).mono ?_
  rintro e w1 ⟨rfl,rfl⟩
  rw [hn]
  go_wp2_with fail
  go_ret
  exact ⟨by rw [he];rfl,HB0.out⟩
end
section
open Go.RowKit
open Qos (Nd Ct Pd nd0 ct0 pd0 nd ct pd silent certain classOf quiet sure sumM sumB Mild)
theorem results_cellQ {fn:Func} {p:Tmp} {ty:TypeId} (h:fn.results=#[.cell p ty]) (tmps:Array Value) (P:Program) (w:World) :
  (results fn tmps).run P w=((asAddr (tmps.getD p undef)).run P w).andThen fun a w₁=>(loadVar ty a).run P w₁:=by
 simp only [results,h]
 simp [Sem.run_bind,Result.andThen]
def TwoAt (w:World) (B:Nat) (m b:Int):Prop:=(w.cell? ⟨B,0,none⟩=some (.int .i64 m)∧w.frozen? ⟨B,0,none⟩=false)∧(w.cell? ⟨B,1,none⟩=some (.int .i64 b)∧w.frozen? ⟨B,1,none⟩=false)
theorem TwoAt.lt {w:World} {B:Nat} {m b:Int} (h:TwoAt w B m b):B<w.heap.size:=World.block_lt_of_cell? w _ h.1.1
theorem TwoAt.kept {w w':World} {B:Nat} {m b:Int} {g:Option Nat} (h:TwoAt w B m b) (hg:w.grownBy w' g) (hne:some B≠g):TwoAt w' B m b:=
 ⟨⟨(hg.cell_far _ h.lt hne).trans h.1.1,(hg.frozen_far _ h.lt hne).trans h.1.2⟩,⟨(hg.cell_far _ h.lt hne).trans h.2.1,(hg.frozen_far _ h.lt hne).trans h.2.2⟩⟩
theorem TwoAt.below {w w':World} {B:Nat} {m b:Int} (h:TwoAt w B m b) (hb:Below w.heap.size w w'):TwoAt w' B m b:=h.kept (grown_below hb none) (by simp)
theorem TwoAt.alloc {w:World} {B:Nat} {m b:Int} (h:TwoAt w B m b) (o:Obj):TwoAt (w.alloc o) B m b:=h.below ((Below.refl _ w).alloc (Nat.le_refl _) o)
theorem TwoAt.made (w:World) (t:TypeId) (m b:Int):TwoAt (w.alloc (.cells #[.int .i64 m,.int .i64 b] t)) w.heap.size m b:=⟨⟨by simp,by simp⟩,⟨by simp,by simp⟩⟩
theorem TwoAt.set0 {w:World} {B:Nat} {m b:Int} (h:TwoAt w B m b) (n:Int):TwoAt (w.setCell ⟨B,0,none⟩ (.int .i64 n)) B n b:=by
 obtain ⟨⟨c0,z0⟩,⟨c1,z1⟩⟩:=h
 refine ⟨⟨?_,(World.frozen?_setCell ..).trans z0⟩,⟨?_,(World.frozen?_setCell ..).trans z1⟩⟩
 ·clear c1;go_simp
 ·have hne:(⟨B,0,none⟩:Addr)≠⟨B,1,none⟩:=by intro h;cases h
  rw [World.cell?_setCell_other (h:=hne)];exact c1
theorem TwoAt.set1 {w:World} {B:Nat} {m b:Int} (h:TwoAt w B m b) (n:Int):TwoAt (w.setCell ⟨B,1,none⟩ (.int .i64 n)) B m n:=by
 obtain ⟨⟨c0,z0⟩,⟨c1,z1⟩⟩:=h
 refine ⟨⟨?_,(World.frozen?_setCell ..).trans z0⟩,⟨?_,(World.frozen?_setCell ..).trans z1⟩⟩
 ·have hne:(⟨B,1,none⟩:Addr)≠⟨B,0,none⟩:=by intro h;cases h
  rw [World.cell?_setCell_other (h:=hne)];exact c0
 ·clear c0;go_simp
theorem below_set2 {K:Nat} {a w:World} (h:Below K a w) (B j:Nat) (v:Value) (hB:K≤B) (hw:K≤w.heap.size):Below K a (w.setCell ⟨B,j,none⟩ v):=
 h.trans (below_grown (grown_setCell w ⟨B,j,none⟩ v) (K:=K) hw (fun i hi=>by cases hi;exact hB))
theorem sum_any (p:Pd) (cv:Value) (w:World) (h:ConsAt w cv p.cs) (hmi:Mild p.cs):Calls Tryz.prog 18 #[podV p cv] w fun e w'=>e=.returned (.agg #[.int .i64 (sumM p.cs p.cs.length),.int .i64 (sumB p.cs p.cs.length)])∧Below w.heap.size w w':=by
 obtain ⟨ao,c,rfl,hm,hr⟩:=h
 have HR:=hZz hr
 clear hr hm
 unfold podV
 have HB0:=hZz ((((Below.refl w.heap.size w).alloc (Nat.le_refl _) (.cells #[.string p.nm,.int .i64 p.pr,.slice ao p.cs.length c] 31)).alloc (by simp) (.cells #[.int .i64 0,.int .i64 0] 56)).alloc (by simp;omega) (.cells #[.int .i64 0,.int .i64 0] 56))
 have HT0:Hid (TwoAt (((w.alloc (.cells #[.string p.nm,.int .i64 p.pr,.slice ao p.cs.length c] 31)).alloc (.cells #[.int .i64 0,.int .i64 0] 56)).alloc (.cells #[.int .i64 0,.int .i64 0] 56)) (w.heap.size+1) 0 0∧TwoAt (((w.alloc (.cells #[.string p.nm,.int .i64 p.pr,.slice ao p.cs.length c] 31)).alloc (.cells #[.int .i64 0,.int .i64 0] 56)).alloc (.cells #[.int .i64 0,.int .i64 0] 56)) (w.heap.size+1+1) 0 0):=by
  constructor
  ·have:=(TwoAt.made (w.alloc (.cells #[.string p.nm,.int .i64 p.pr,.slice ao p.cs.length c] 31)) 56 0 0).alloc (.cells #[.int .i64 0,.int .i64 0] 56)
   simpa using this
  ·have:=TwoAt.made ((w.alloc (.cells #[.string p.nm,.int .i64 p.pr,.slice ao p.cs.length c] 31)).alloc (.cells #[.int .i64 0,.int .i64 0] 56)) 56 0 0
   simpa using this
 generalize p.cs=cs at *
 have HMI:=hZz hmi
 have hlen:=hmi.1
 clear hmi
 go_enter Tryz.func18,Tryz.ntmps18
 go_wp2_with fail
 go_loopw [9] (fun i wr=>∃ k:Nat,k≤cs.length∧i=.int .i64 k∧Below w.heap.size w wr∧TwoAt wr (w.heap.size+1) 0 0∧TwoAt wr (w.heap.size+1+1) (sumM cs k) (sumB cs k)) (fun i _=>cs.length - (intOf i).toNat)
 case atStart=>exact ⟨0,by omega,rfl,HB0.out,HT0.out.1,HT0.out.2⟩
 case round=>
  obtain ⟨k,hk,rfl,hB,hT1,hT2⟩:=hrel
  by_cases hlt:k<cs.length
  ·obtain ⟨b,o,dv,rfl,hin⟩:=HR.out (by omega)
   have hin:=hin.below hB
   obtain ⟨c0,c1,c2,c3,c4,c5⟩:=hin.at hlt
   have hsl:∃ a n e,dv k=.slice a n e:=by
    obtain ⟨a,e,he,_⟩:=(hin.2 k hlt).2
    exact ⟨a,_,e,he⟩
   have hB1:=hZz (hB.alloc hB.size (.cells #[.string (ct cs k).nm,.int .i64 (ct cs k).am,.int .i64 (ct cs k).ab,.int .i64 (ct cs k).cm,.int .i64 (ct cs k).cb,dv k] 64))
   have hU1:=hT1.alloc (.cells #[.string (ct cs k).nm,.int .i64 (ct cs k).am,.int .i64 (ct cs k).ab,.int .i64 (ct cs k).cm,.int .i64 (ct cs k).cb,dv k] 64)
   have hU2:=hT2.alloc (.cells #[.string (ct cs k).nm,.int .i64 (ct cs k).am,.int .i64 (ct cs k).ab,.int .i64 (ct cs k).cm,.int .i64 (ct cs k).cb,dv k] 64)
   have HBX:=BoxAt.made wr (ct cs k) (dv k)
   have HS1:Hid (sumM cs (k+1)=sumM cs k+(ct cs k).am):=rfl
   have HS2:Hid (sumB cs (k+1)=sumB cs k+(ct cs k).ab):=rfl
   obtain ⟨m1,m2,_⟩:=HMI.out.2 k hlt
   obtain ⟨s1,s2⟩:=Qos.sumM_in HMI.out hk
   obtain ⟨s3,s4⟩:=Qos.sumB_in HMI.out hk
   have hlt2:=hT2.lt
   clear hin hB HB0 HT0
   generalize sumM cs k=M at *
   generalize sumB cs k=N at *
   generalize ct cs k=x at *
   generalize dv k=d at *
   obtain ⟨da,dn,dc,rfl⟩:=hsl
   generalize hW1:wr.alloc (.cells #[.string x.nm,.int .i64 x.am,.int .i64 x.ab,.int .i64 x.cm,.int .i64 x.cb,.slice da dn dc] 64)=W1 at hU1 hU2 hB1 HBX
   have e1:wrap64 (M+x.am)=M+x.am:=by unfold wrap64;omega
   have e2:wrap64 (N+x.ab)=N+x.ab:=by unfold wrap64;omega
   have HG1:=hZz (grown_setCell W1 ⟨w.heap.size+1+1,0,none⟩ (.int .i64 (M+x.am)))
   have HV1:=hZz (hU1.kept HG1.out (by simp))
   have HV2:=hZz (hU2.set0 (M+x.am))
   have d2:=(HG1.out.cell_far ⟨wr.heap.size,2,none⟩ HBX.1 (by simp;omega)).trans HBX.2.2.2.1
   obtain ⟨⟨f1,f2⟩,⟨f3,f4⟩⟩:=hU2
   obtain ⟨⟨g1,g2⟩,⟨g3,g4⟩⟩:=HV2.out
   obtain ⟨_,_,b1,_⟩:=HBX
   go_wp2_with fail
   have hz:=hB1.out.size
   have HB2:=below_set2 hB1.out (w.heap.size+1+1) 0 (.int .i64 (M+x.am)) (by omega) hz
   refine ⟨⟨k+1,by omega,by go_num,below_set2 HB2 (w.heap.size+1+1) 1 (.int .i64 (N+x.ab)) (by omega) (by simpa using hz),HV1.out.kept (grown_setCell _ ⟨w.heap.size+1+1,1,none⟩ (.int .i64 (N+x.ab))) (by simp),?_⟩,by simp [intOf];omega⟩
   rw [HS1.out,HS2.out]
   exact HV2.out.set1 _
  ·have hke:k=cs.length:=by omega
   subst hke
   have hz:=hB.size
   have HB1:=hZz (below_set2 (below_set2 hB (w.heap.size+1) 0 (.int .i64 (sumM cs cs.length)) (by omega) hz) (w.heap.size+1) 1 (.int .i64 (sumB cs cs.length)) (by omega) (by simpa using hz))
   have HT3:=hZz ((hT1.set0 (sumM cs cs.length)).set1 (sumB cs cs.length))
   obtain ⟨⟨f1,f2⟩,⟨f3,f4⟩⟩:=hT1
   obtain ⟨⟨g1,g2⟩,⟨g3,g4⟩⟩:=hT2
   clear hB
   go_wp2_with fail
   (try simp only [Exit.inBlock,Exit.then])
   refine bodyPost_ret (v:=.agg #[.int .i64 (sumM cs cs.length),.int .i64 (sumB cs cs.length)]) ?_ rfl ⟨rfl,HB1.out⟩
   obtain ⟨⟨g1,g2⟩,⟨g3,g4⟩⟩:=HT3.out
   rw [results_cellQ rfl]
   clear f1 f2 f3 f4
   go_simp
end
section
open Go.RowKit
theorem results_cellV {fn:Func} {p:Tmp} {ty:TypeId} (h:fn.results=#[.cell p ty]) (tmps:Array Value) (P:Program) (w:World) :
  (results fn tmps).run P w=((asAddr (tmps.getD p undef)).run P w).andThen fun a w₁=>(loadVar ty a).run P w₁:=by
 simp only [results,h]
 simp [Sem.run_bind,Result.andThen]
structure Sd where
 ft:Bool
 fb:ByteArray
 dt:Bool
 db:ByteArray
def Sd.agg (s:Sd):Value:=.agg #[.bool s.ft,.string s.fb,.bool s.dt,.string s.db]
structure Chg where
 wr:Bool
 bs:ByteArray
def Chg.agg (c:Chg):Value:=.agg #[.bool c.wr,.string c.bs]
def Chg.on (c:Chg) (s:Sd):Sd:=if c.wr=true then ⟨s.ft,s.fb,true,c.bs⟩ else ⟨s.dt,s.db,false,⟨#[]⟩⟩
theorem on_anyV (c:Chg) (s:Sd) (w:World):Calls Tryz.prog 151 #[c.agg,s.agg] w fun e w'=>e=.returned (c.on s).agg∧Below w.heap.size w w':=by
 obtain ⟨wr,bs⟩:=c
 obtain ⟨ft,fb,dt,db⟩:=s
 unfold Chg.agg Sd.agg
 dsimp only
 have hb:=(((Below.refl w.heap.size w).alloc (Nat.le_refl _) (.cells #[.bool wr,.string bs] 206)).alloc (by simp) (.cells #[.bool ft,.string fb,.bool dt,.string db] 127))
 cases wr with
 | true=>
  have HB:=hZz (hb.alloc hb.size (.cells #[.bool ft,.string fb,.bool true,.string bs] 127))
  clear hb
  go_enter Tryz.func151,Tryz.ntmps151
  go_wp2_with fail
  refine bodyPost_ret (v:=.agg #[.bool ft,.string fb,.bool true,.string bs]) ?_ rfl ⟨rfl,HB.out⟩
  rw [results_cellV rfl]
  go_simp
 | false=>
  have HB:=hZz (hb.alloc hb.size (.cells #[.bool dt,.string db,.bool false,.string ⟨#[]⟩] 127))
  clear hb
  go_enter Tryz.func151,Tryz.ntmps151
  go_wp2_with fail
  refine bodyPost_ret (v:=.agg #[.bool dt,.string db,.bool false,.string ⟨#[]⟩]) ?_ rfl ⟨rfl,HB.out⟩
  rw [results_cellV rfl]
  go_simp
end
end Go.Proofs.YtbfdcmodflnkfaaGreatDoor
namespace Go.Proofs
open Go.Shelf
shelf_lay_g SlLaysC2.n5 Slgc 5 at Tryz 206 as Tryz.cmpL2
end Go.Proofs
namespace Go.Proofs.YtbfdcmodflnkfaaGreatDoor
section
open Go.RowKit
open Qos (Nd Pd turnOf ltS cmpS orI)
end
end Go.Proofs.YtbfdcmodflnkfaaGreatDoor
