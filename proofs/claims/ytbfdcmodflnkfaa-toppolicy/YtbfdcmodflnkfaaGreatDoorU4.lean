/- TCho, DPool, PMath, SMath2, Txt, SetW2, SParse, SCount, VI2, QW2, VI3, RK3 -/
import Derived.Test.YtbfdcmodflnkfaaGreatDoorU3
import Derived.Deep.AppendLies
import Derived.Deep.RegionWith
import Derived.Lib.ItoaLen
import Derived.Lib.CountLaws
import Derived.Lib.Split
import Derived.Maps.OwnIn
import Derived.Shelf.SlicesQ.IndexFunc
import Derived.Ground.SlgfProg
import Derived.Shelf.Lay
import Derived.RangeFuncMany
import Derived.Sort.MapsRangeIn
import Derived.Maps.AppendAt
set_option maxRecDepth 100000
set_option maxHeartbeats 16000000
namespace Go.Proofs.YtbfdcmodflnkfaaGreatDoor
section
open Go.RowKit
open Ost (Cpu cpu0 chosenTo chosen chosenTo_yes chosenTo_no chosenTo_lt)
def anyCpu (_:Cpu):Bool:=true
structure TopoAt (w:World) (tb b o c:Nat) (l:List Cpu):Prop where
 cell:w.cell? ⟨tb,0,none⟩=some (.slice (some ⟨b,o,none⟩) l.length c)
 cells:CellsAt w b o l
 lt:b<w.heap.size
 len:l.length≤64
theorem TopoAt.tlt {w:World} {tb b o c:Nat} {l:List Cpu} (h:TopoAt w tb b o c l):tb<w.heap.size:=World.block_lt_of_cell? w _ h.cell
theorem TopoAt.below {w w':World} {tb b o c:Nat} {l:List Cpu} (h:TopoAt w tb b o c l) (hb:Below w.heap.size w w'):TopoAt w' tb b o c l:=
 ⟨(hb.cell (p:=⟨tb,0,none⟩) h.tlt).trans h.cell,h.cells.below h.lt hb,Nat.lt_of_lt_of_le h.lt hb.size,h.len⟩
theorem allFn_any (x:Cpu) (w:World) :
  Calls Tryz.prog 51 #[.agg #[.int .i64 x.core,.int .i64 x.sock,.int .i64 x.node]] w fun e w'=>e=.returned (.bool (anyCpu x))∧Below w.heap.size w w':=by
 
 go_enter Tryz.func51,Tryz.ntmps51
 go_wp2_with fail
 go_ret
 exact ⟨rfl,(Below.refl _ _).alloc (Nat.le_refl _) _⟩
theorem allChosen (tb b o c:Nat) (l:List Cpu) (w:World) (ht:TopoAt w tb b o c l) :
  Calls Tryz.prog 50 #[.pointer (some ⟨tb,0,none⟩),.func (.func 51) #[] #[]] w fun e w'=>e=.returned (.int .u64 (chosen anyCpu l:Nat))∧Below w.heap.size w w':=by
 have HC:=hZz ht.cells
 have hT:=ht.cell
 have HLB:=hZz ht.lt
 have hl:=ht.len
 clear ht
 
 go_enter Tryz.func50,Tryz.ntmps50
 go_wp2_with fail
 go_loopw [5,13] (fun t i wr=>∃ k:Nat,k≤l.length∧i=.int .i64 k∧t=.int .u64 (chosenTo anyCpu l k:Nat)∧Below w.heap.size w wr) (fun _ i _=>l.length - (intOf i).toNat)
 case atStart=>exact ⟨0,by omega,rfl,rfl,Below.refl _ _⟩
 case round=>
  obtain ⟨k,hk,rfl,rfl,hB⟩:=hrel
  by_cases hlt:k<l.length
  ·obtain ⟨hcell0,hcell1,hcell2⟩:=(HC.out.below HLB.out hB) k hlt
   
   have HY:=hZz (fun h=>chosenTo_yes (p:=anyCpu) (l:=l) (k:=k) h)
   have HN:=hZz (fun h=>chosenTo_no (p:=anyCpu) (l:=l) (k:=k) h)
   have HL:=hZz (chosenTo_lt anyCpu l k (by omega))
   generalize l.getD k cpu0=x at *
   have hB1:=hB.alloc hB.size (.cells #[.int .i64 x.core,.int .i64 x.sock,.int .i64 x.node] 78)
   go_wp2_with fail
   refine (allFn_any x _).mono ?_
   rintro e w1 ⟨rfl,hb⟩
   have hB2:=hB1.trans (hb.mono hB1.size)
   clear hB1 hb
   rcases two (anyCpu x) with hb|hb
   ·have HO:Hid (bits BinOp.or IntKind.u64 (chosenTo anyCpu l k:Nat) (IntKind.u64.wrap (2 ^ k))=((chosenTo anyCpu l (k+1):Nat):Int)):=by
     unfold Hid;rw [or_step _ _ HL.out (by omega),HY.out hb]
    rw [hb]
    clear hb
    go_wp2_with fail
    go_roundw
    case rel=>exact ⟨k+1,by omega,by go_num,by rw [← HO.out],hB2⟩
    case measure=>simp [intOf];omega
   ·have HO:Hid (chosenTo anyCpu l k=chosenTo anyCpu l (k+1)):=(HN.out hb).symm
    rw [hb]
    clear hb
    go_wp2_with fail
    go_roundw
    case rel=>exact ⟨k+1,by omega,by go_num,by rw [← HO.out],hB2⟩
    case measure=>simp [intOf];omega
  ·have hkl:k=l.length:=by omega
   have H:Hid (chosenTo anyCpu l k=chosen anyCpu l):=by unfold Hid;rw [hkl];rfl
   clear hkl
   go_wp2_with fail
   go_ret
   exact ⟨congrArg (fun z:Nat=>Ending.returned (.int .u64 z)) H.out,hB⟩
theorem all_any (tb b o c:Nat) (l:List Cpu) (w:World) (ht:TopoAt w tb b o c l) :
  Calls Tryz.prog 21 #[.pointer (some ⟨tb,0,none⟩)] w fun e w'=>e=.returned (.int .u64 (chosen anyCpu l:Nat))∧Below w.heap.size w w':=by
 
 go_enter Tryz.func21,Tryz.ntmps21
 go_wp2_with fail
 refine (allChosen tb b o c l w ht).mono ?_
 rintro e w1 ⟨rfl,hb⟩
 go_wp2_with fail
 go_ret
 exact ⟨rfl,hb⟩
theorem coreFn_any (x:Cpu) (n:Int) (B:Nat) (w:World) (hn:w.cell? ⟨B,0,none⟩=some (.int .i64 n)) :
  Calls Tryz.prog 200 #[.agg #[.int .i64 x.core,.int .i64 x.sock,.int .i64 x.node],.pointer (some ⟨B,0,none⟩)] w fun e w'=>e=.returned (.bool ((fun x=>x.core == n) x))∧Below w.heap.size w w':=by
 have hn1:=(((Below.refl w.heap.size w).alloc (Nat.le_refl _) (.cells #[.int .i64 x.core,.int .i64 x.sock,.int .i64 x.node] 78)).cell (p:=⟨B,0,none⟩) (World.block_lt_of_cell? w _ hn)).trans hn
 clear hn
 go_enter Tryz.func200,Tryz.ntmps200
 go_wp2_with fail
 go_ret
 exact ⟨rfl,(Below.refl _ _).alloc (Nat.le_refl _) _⟩
theorem coreChosen (n:Int) (B tb b o c:Nat) (l:List Cpu) (w:World) (ht:TopoAt w tb b o c l) (hn:w.cell? ⟨B,0,none⟩=some (.int .i64 n)) :
  Calls Tryz.prog 50 #[.pointer (some ⟨tb,0,none⟩),.func (.func 200) #[] #[.pointer (some ⟨B,0,none⟩)]] w fun e w'=>e=.returned (.int .u64 (chosen (fun x=>x.core == n) l:Nat))∧Below w.heap.size w w':=by
 have HC:=hZz ht.cells
 have hT:=ht.cell
 have HLB:=hZz ht.lt
 have hl:=ht.len
 clear ht
 have HN0:=hZz hn
 have HBl:=hZz (World.block_lt_of_cell? w _ hn)
 clear hn
 go_enter Tryz.func50,Tryz.ntmps50
 go_wp2_with fail
 go_loopw [5,13] (fun t i wr=>∃ k:Nat,k≤l.length∧i=.int .i64 k∧t=.int .u64 (chosenTo (fun x=>x.core == n) l k:Nat)∧Below w.heap.size w wr) (fun _ i _=>l.length - (intOf i).toNat)
 case atStart=>exact ⟨0,by omega,rfl,rfl,Below.refl _ _⟩
 case round=>
  obtain ⟨k,hk,rfl,rfl,hB⟩:=hrel
  by_cases hlt:k<l.length
  ·obtain ⟨hcell0,hcell1,hcell2⟩:=(HC.out.below HLB.out hB) k hlt
   have hcn:=(hB.cell (p:=⟨B,0,none⟩) HBl.out).trans HN0.out
   have hcn1:=hZz ((((Below.refl wr.heap.size wr).alloc (Nat.le_refl _) (.cells #[.int .i64 (l.getD k cpu0).core,.int .i64 (l.getD k cpu0).sock,.int .i64 (l.getD k cpu0).node] 78)).cell (p:=⟨B,0,none⟩) (World.block_lt_of_cell? wr _ hcn)).trans hcn)
   clear hcn
   have HY:=hZz (fun h=>chosenTo_yes (p:=(fun x=>x.core == n)) (l:=l) (k:=k) h)
   have HN:=hZz (fun h=>chosenTo_no (p:=(fun x=>x.core == n)) (l:=l) (k:=k) h)
   have HL:=hZz (chosenTo_lt (fun x=>x.core == n) l k (by omega))
   generalize l.getD k cpu0=x at *
   have hB1:=hB.alloc hB.size (.cells #[.int .i64 x.core,.int .i64 x.sock,.int .i64 x.node] 78)
   go_wp2_with fail
   refine (coreFn_any x n B _ hcn1.out).mono ?_
   rintro e w1 ⟨rfl,hb⟩
   have hB2:=hB1.trans (hb.mono hB1.size)
   clear hB1 hb
   rcases two ((fun x=>x.core == n) x) with hb|hb
   ·have HO:Hid (bits BinOp.or IntKind.u64 (chosenTo (fun x=>x.core == n) l k:Nat) (IntKind.u64.wrap (2 ^ k))=((chosenTo (fun x=>x.core == n) l (k+1):Nat):Int)):=by
     unfold Hid;rw [or_step _ _ HL.out (by omega),HY.out hb]
    rw [hb]
    clear hb
    go_wp2_with fail
    go_roundw
    case rel=>exact ⟨k+1,by omega,by go_num,by rw [← HO.out],hB2⟩
    case measure=>simp [intOf];omega
   ·have HO:Hid (chosenTo (fun x=>x.core == n) l k=chosenTo (fun x=>x.core == n) l (k+1)):=(HN.out hb).symm
    rw [hb]
    clear hb
    go_wp2_with fail
    go_roundw
    case rel=>exact ⟨k+1,by omega,by go_num,by rw [← HO.out],hB2⟩
    case measure=>simp [intOf];omega
  ·have hkl:k=l.length:=by omega
   have H:Hid (chosenTo (fun x=>x.core == n) l k=chosen (fun x=>x.core == n) l):=by unfold Hid;rw [hkl];rfl
   clear hkl
   go_wp2_with fail
   go_ret
   exact ⟨congrArg (fun z:Nat=>Ending.returned (.int .u64 z)) H.out,hB⟩
theorem core_any (tb b o c:Nat) (l:List Cpu) (n:Int) (w:World) (ht:TopoAt w tb b o c l) :
  Calls Tryz.prog 167 #[.pointer (some ⟨tb,0,none⟩),.int .i64 n] w fun e w'=>e=.returned (.int .u64 (chosen (fun x=>x.core == n) l:Nat))∧Below w.heap.size w w':=by
 have hmf:∀ (fn:Fn) (first cap:Array Value) (w:World),(Instr.makeFunc fn first cap).run Tryz.prog w=.ok (.func fn first cap) w:=fun _ _ _ _=>rfl
 have hB0:=(Below.refl w.heap.size w).alloc (Nat.le_refl _) (.cells #[.int .i64 n] 3)
 have ht1:=ht.below hB0
 have hcn:=hZz (show (w.alloc (.cells #[.int .i64 n] 3)).cell? ⟨w.heap.size,0,none⟩=some (.int .i64 n) by simp)
 clear ht
 go_enter Tryz.func167,Tryz.ntmps167
 go_wp2_with fail
 refine (coreChosen n w.heap.size tb b o c l _ ht1 hcn.out).mono ?_
 rintro e w1 ⟨rfl,hb⟩
 go_wp2_with fail
 go_ret
 exact ⟨rfl,hB0.trans (hb.mono hB0.size)⟩
theorem sockFn_any (x:Cpu) (n:Int) (B:Nat) (w:World) (hn:w.cell? ⟨B,0,none⟩=some (.int .i64 n)) :
  Calls Tryz.prog 199 #[.agg #[.int .i64 x.core,.int .i64 x.sock,.int .i64 x.node],.pointer (some ⟨B,0,none⟩)] w fun e w'=>e=.returned (.bool ((fun x=>x.sock == n) x))∧Below w.heap.size w w':=by
 have hn1:=(((Below.refl w.heap.size w).alloc (Nat.le_refl _) (.cells #[.int .i64 x.core,.int .i64 x.sock,.int .i64 x.node] 78)).cell (p:=⟨B,0,none⟩) (World.block_lt_of_cell? w _ hn)).trans hn
 clear hn
 go_enter Tryz.func199,Tryz.ntmps199
 go_wp2_with fail
 go_ret
 exact ⟨rfl,(Below.refl _ _).alloc (Nat.le_refl _) _⟩
theorem sockChosen (n:Int) (B tb b o c:Nat) (l:List Cpu) (w:World) (ht:TopoAt w tb b o c l) (hn:w.cell? ⟨B,0,none⟩=some (.int .i64 n)) :
  Calls Tryz.prog 50 #[.pointer (some ⟨tb,0,none⟩),.func (.func 199) #[] #[.pointer (some ⟨B,0,none⟩)]] w fun e w'=>e=.returned (.int .u64 (chosen (fun x=>x.sock == n) l:Nat))∧Below w.heap.size w w':=by
 have HC:=hZz ht.cells
 have hT:=ht.cell
 have HLB:=hZz ht.lt
 have hl:=ht.len
 clear ht
 have HN0:=hZz hn
 have HBl:=hZz (World.block_lt_of_cell? w _ hn)
 clear hn
 go_enter Tryz.func50,Tryz.ntmps50
 go_wp2_with fail
 go_loopw [5,13] (fun t i wr=>∃ k:Nat,k≤l.length∧i=.int .i64 k∧t=.int .u64 (chosenTo (fun x=>x.sock == n) l k:Nat)∧Below w.heap.size w wr) (fun _ i _=>l.length - (intOf i).toNat)
 case atStart=>exact ⟨0,by omega,rfl,rfl,Below.refl _ _⟩
 case round=>
  obtain ⟨k,hk,rfl,rfl,hB⟩:=hrel
  by_cases hlt:k<l.length
  ·obtain ⟨hcell0,hcell1,hcell2⟩:=(HC.out.below HLB.out hB) k hlt
   have hcn:=(hB.cell (p:=⟨B,0,none⟩) HBl.out).trans HN0.out
   have hcn1:=hZz ((((Below.refl wr.heap.size wr).alloc (Nat.le_refl _) (.cells #[.int .i64 (l.getD k cpu0).core,.int .i64 (l.getD k cpu0).sock,.int .i64 (l.getD k cpu0).node] 78)).cell (p:=⟨B,0,none⟩) (World.block_lt_of_cell? wr _ hcn)).trans hcn)
   clear hcn
   have HY:=hZz (fun h=>chosenTo_yes (p:=(fun x=>x.sock == n)) (l:=l) (k:=k) h)
   have HN:=hZz (fun h=>chosenTo_no (p:=(fun x=>x.sock == n)) (l:=l) (k:=k) h)
   have HL:=hZz (chosenTo_lt (fun x=>x.sock == n) l k (by omega))
   generalize l.getD k cpu0=x at *
   have hB1:=hB.alloc hB.size (.cells #[.int .i64 x.core,.int .i64 x.sock,.int .i64 x.node] 78)
   go_wp2_with fail
   refine (sockFn_any x n B _ hcn1.out).mono ?_
   rintro e w1 ⟨rfl,hb⟩
   have hB2:=hB1.trans (hb.mono hB1.size)
   clear hB1 hb
   rcases two ((fun x=>x.sock == n) x) with hb|hb
   ·have HO:Hid (bits BinOp.or IntKind.u64 (chosenTo (fun x=>x.sock == n) l k:Nat) (IntKind.u64.wrap (2 ^ k))=((chosenTo (fun x=>x.sock == n) l (k+1):Nat):Int)):=by
     unfold Hid;rw [or_step _ _ HL.out (by omega),HY.out hb]
    rw [hb]
    clear hb
    go_wp2_with fail
    go_roundw
    case rel=>exact ⟨k+1,by omega,by go_num,by rw [← HO.out],hB2⟩
    case measure=>simp [intOf];omega
   ·have HO:Hid (chosenTo (fun x=>x.sock == n) l k=chosenTo (fun x=>x.sock == n) l (k+1)):=(HN.out hb).symm
    rw [hb]
    clear hb
    go_wp2_with fail
    go_roundw
    case rel=>exact ⟨k+1,by omega,by go_num,by rw [← HO.out],hB2⟩
    case measure=>simp [intOf];omega
  ·have hkl:k=l.length:=by omega
   have H:Hid (chosenTo (fun x=>x.sock == n) l k=chosen (fun x=>x.sock == n) l):=by unfold Hid;rw [hkl];rfl
   clear hkl
   go_wp2_with fail
   go_ret
   exact ⟨congrArg (fun z:Nat=>Ending.returned (.int .u64 z)) H.out,hB⟩
theorem sock_any (tb b o c:Nat) (l:List Cpu) (n:Int) (w:World) (ht:TopoAt w tb b o c l) :
  Calls Tryz.prog 166 #[.pointer (some ⟨tb,0,none⟩),.int .i64 n] w fun e w'=>e=.returned (.int .u64 (chosen (fun x=>x.sock == n) l:Nat))∧Below w.heap.size w w':=by
 have hmf:∀ (fn:Fn) (first cap:Array Value) (w:World),(Instr.makeFunc fn first cap).run Tryz.prog w=.ok (.func fn first cap) w:=fun _ _ _ _=>rfl
 have hB0:=(Below.refl w.heap.size w).alloc (Nat.le_refl _) (.cells #[.int .i64 n] 3)
 have ht1:=ht.below hB0
 have hcn:=hZz (show (w.alloc (.cells #[.int .i64 n] 3)).cell? ⟨w.heap.size,0,none⟩=some (.int .i64 n) by simp)
 clear ht
 go_enter Tryz.func166,Tryz.ntmps166
 go_wp2_with fail
 refine (sockChosen n w.heap.size tb b o c l _ ht1 hcn.out).mono ?_
 rintro e w1 ⟨rfl,hb⟩
 go_wp2_with fail
 go_ret
 exact ⟨rfl,hB0.trans (hb.mono hB0.size)⟩
theorem onFn_any (x:Cpu) (n:Nat) (B:Nat) (w:World) (hn:w.cell? ⟨B,0,none⟩=some (.int .u8 n)) (g0:0≤x.node) (g3:x.node≤3) (hm:n<256) :
  Calls Tryz.prog 53 #[.agg #[.int .i64 x.core,.int .i64 x.sock,.int .i64 x.node],.pointer (some ⟨B,0,none⟩)] w fun e w'=>e=.returned (.bool ((onMask n) x))∧Below w.heap.size w w':=by
 have hb8:=hZz (bit8 n x.node.toNat hm)
 have hn1:=(((Below.refl w.heap.size w).alloc (Nat.le_refl _) (.cells #[.int .i64 x.core,.int .i64 x.sock,.int .i64 x.node] 78)).cell (p:=⟨B,0,none⟩) (World.block_lt_of_cell? w _ hn)).trans hn
 clear hn
 go_enter Tryz.func53,Tryz.ntmps53
 go_wp2_with fail
 go_ret
 exact ⟨congrArg (fun z=>Ending.returned (.bool z)) hb8.out,(Below.refl _ _).alloc (Nat.le_refl _) _⟩
theorem onChosen (n:Nat) (B tb b o c:Nat) (l:List Cpu) (w:World) (ht:TopoAt w tb b o c l) (hn:w.cell? ⟨B,0,none⟩=some (.int .u8 n)) (hg:Good l) (hm:n<256) :
  Calls Tryz.prog 50 #[.pointer (some ⟨tb,0,none⟩),.func (.func 53) #[] #[.pointer (some ⟨B,0,none⟩)]] w fun e w'=>e=.returned (.int .u64 (chosen (onMask n) l:Nat))∧Below w.heap.size w w':=by
 have HC:=hZz ht.cells
 have hT:=ht.cell
 have HLB:=hZz ht.lt
 have hl:=ht.len
 clear ht
 have HN0:=hZz hn
 have HBl:=hZz (World.block_lt_of_cell? w _ hn)
 have HG:=hZz hg
 clear hn hg
 go_enter Tryz.func50,Tryz.ntmps50
 go_wp2_with fail
 go_loopw [5,13] (fun t i wr=>∃ k:Nat,k≤l.length∧i=.int .i64 k∧t=.int .u64 (chosenTo (onMask n) l k:Nat)∧Below w.heap.size w wr) (fun _ i _=>l.length - (intOf i).toNat)
 case atStart=>exact ⟨0,by omega,rfl,rfl,Below.refl _ _⟩
 case round=>
  obtain ⟨k,hk,rfl,rfl,hB⟩:=hrel
  by_cases hlt:k<l.length
  ·obtain ⟨hcell0,hcell1,hcell2⟩:=(HC.out.below HLB.out hB) k hlt
   have hcn:=(hB.cell (p:=⟨B,0,none⟩) HBl.out).trans HN0.out
   have hcn1:=hZz ((((Below.refl wr.heap.size wr).alloc (Nat.le_refl _) (.cells #[.int .i64 (l.getD k cpu0).core,.int .i64 (l.getD k cpu0).sock,.int .i64 (l.getD k cpu0).node] 78)).cell (p:=⟨B,0,none⟩) (World.block_lt_of_cell? wr _ hcn)).trans hcn)
   clear hcn
   obtain ⟨g0,g3⟩:=HG.out.at hlt
   have HY:=hZz (fun h=>chosenTo_yes (p:=(onMask n)) (l:=l) (k:=k) h)
   have HN:=hZz (fun h=>chosenTo_no (p:=(onMask n)) (l:=l) (k:=k) h)
   have HL:=hZz (chosenTo_lt (onMask n) l k (by omega))
   generalize l.getD k cpu0=x at *
   have hB1:=hB.alloc hB.size (.cells #[.int .i64 x.core,.int .i64 x.sock,.int .i64 x.node] 78)
   go_wp2_with fail
   refine (onFn_any x n B _ hcn1.out g0 g3 hm).mono ?_
   rintro e w1 ⟨rfl,hb⟩
   have hB2:=hB1.trans (hb.mono hB1.size)
   clear hB1 hb
   rcases two ((onMask n) x) with hb|hb
   ·have HO:Hid (bits BinOp.or IntKind.u64 (chosenTo (onMask n) l k:Nat) (IntKind.u64.wrap (2 ^ k))=((chosenTo (onMask n) l (k+1):Nat):Int)):=by
     unfold Hid;rw [or_step _ _ HL.out (by omega),HY.out hb]
    rw [hb]
    clear hb
    go_wp2_with fail
    go_roundw
    case rel=>exact ⟨k+1,by omega,by go_num,by rw [← HO.out],hB2⟩
    case measure=>simp [intOf];omega
   ·have HO:Hid (chosenTo (onMask n) l k=chosenTo (onMask n) l (k+1)):=(HN.out hb).symm
    rw [hb]
    clear hb
    go_wp2_with fail
    go_roundw
    case rel=>exact ⟨k+1,by omega,by go_num,by rw [← HO.out],hB2⟩
    case measure=>simp [intOf];omega
  ·have hkl:k=l.length:=by omega
   have H:Hid (chosenTo (onMask n) l k=chosen (onMask n) l):=by unfold Hid;rw [hkl];rfl
   clear hkl
   go_wp2_with fail
   go_ret
   exact ⟨congrArg (fun z:Nat=>Ending.returned (.int .u64 z)) H.out,hB⟩
theorem on_any (tb b o c:Nat) (l:List Cpu) (n:Nat) (w:World) (ht:TopoAt w tb b o c l) (hg:Good l) (hm:n<256) :
  Calls Tryz.prog 24 #[.pointer (some ⟨tb,0,none⟩),.int .u8 n] w fun e w'=>e=.returned (.int .u64 (chosen (onMask n) l:Nat))∧Below w.heap.size w w':=by
 have hmf:∀ (fn:Fn) (first cap:Array Value) (w:World),(Instr.makeFunc fn first cap).run Tryz.prog w=.ok (.func fn first cap) w:=fun _ _ _ _=>rfl
 have hB0:=(Below.refl w.heap.size w).alloc (Nat.le_refl _) (.cells #[.int .u8 n] 70)
 have ht1:=ht.below hB0
 have hcn:=hZz (show (w.alloc (.cells #[.int .u8 n] 70)).cell? ⟨w.heap.size,0,none⟩=some (.int .u8 n) by simp)
 clear ht
 go_enter Tryz.func24,Tryz.ntmps24
 go_wp2_with fail
 refine (onChosen n w.heap.size tb b o c l _ ht1 hcn.out hg hm).mono ?_
 rintro e w1 ⟨rfl,hb⟩
 go_wp2_with fail
 go_ret
 exact ⟨rfl,hB0.trans (hb.mono hB0.size)⟩
end
section
open Go.RowKit
open Dvs (Dv dv0 dv nth)
structure PoolAt (w:World) (pb db:Nat) (ao:Option Addr) (c:Nat) (ds:List Dv) (us:Nat→Bool):Prop where
 row:w.cell? ⟨pb,0,none⟩=some (.slice ao ds.length c)
 at0:0<ds.length→ao=some ⟨db,0,none⟩∧db≠pb∧db<w.heap.size
 cells:∀ k,k<ds.length→w.cell? ⟨db,k*3,none⟩=some (.string (dv ds k).kind)∧w.cell? ⟨db,k*3+1,none⟩=some (.int .i64 (dv ds k).node)∧w.cell? ⟨db,k*3+2,none⟩=some (.bool (dv ds k).sick)∧w.frozen? ⟨db,k*3+2,none⟩=false
 used:∀ j,j<16→w.cell? ⟨pb,1+j,none⟩=some (.bool (us j))∧w.frozen? ⟨pb,1+j,none⟩=false
theorem PoolAt.lt {w:World} {pb db:Nat} {ao:Option Addr} {c:Nat} {ds:List Dv} {us:Nat→Bool} (h:PoolAt w pb db ao c ds us):pb<w.heap.size:=World.block_lt_of_cell? w _ h.row
theorem PoolAt.kept {w w':World} {pb db:Nat} {ao:Option Addr} {c:Nat} {ds:List Dv} {us:Nat→Bool} {g:Option Nat} (h:PoolAt w pb db ao c ds us) (hg:w.grownBy w' g) (h1:some pb≠g) (h2:0<ds.length→some db≠g):PoolAt w' pb db ao c ds us:=by
 refine ⟨(hg.cell_far _ h.lt h1).trans h.row,fun h0=>⟨(h.at0 h0).1,(h.at0 h0).2.1,Nat.lt_of_lt_of_le (h.at0 h0).2.2 hg.size⟩,fun k hk=>?_,fun j hj=>?_⟩
 ·obtain ⟨c1,c2,c3,c4⟩:=h.cells k hk
  have h0:0<ds.length:=by omega
  have hlt:=(h.at0 h0).2.2
  exact ⟨(hg.cell_far _ hlt (h2 h0)).trans c1,(hg.cell_far _ hlt (h2 h0)).trans c2,(hg.cell_far _ hlt (h2 h0)).trans c3,(hg.frozen_far _ hlt (h2 h0)).trans c4⟩
 ·obtain ⟨c1,c2⟩:=h.used j hj
  exact ⟨(hg.cell_far _ h.lt h1).trans c1,(hg.frozen_far _ h.lt h1).trans c2⟩
theorem grown_setCell (w:World) (a:Addr) (u:Value):w.grownBy (w.setCell a u) (some a.block):=
 ⟨rfl,rfl,rfl,by simp,fun k _ hne=>Below.heap_setCell _ _ _ _ (fun e=>hne (by rw [e]))⟩
theorem grown_below {w w':World} (h:Below w.heap.size w w') (g:Option Nat):w.grownBy w' g:=⟨h.os,h.tape,h.output,h.size,fun k hk _=>h.block k hk⟩
theorem below_grown {w w':World} {g:Option Nat} (h:w.grownBy w' g) {K:Nat} (hK:K≤w.heap.size) (hg:∀ j,g=some j→K≤j):Below K w w':=
 ⟨h.os,h.tape,h.output,h.size,fun k hk=>h.block k (by omega) (fun e=>by have:=hg k e.symm;omega)⟩
theorem grown_refl (w:World) (g:Option Nat):w.grownBy w g:=⟨rfl,rfl,rfl,Nat.le_refl _,fun _ _ _=>rfl⟩
theorem PoolAt.below {w w':World} {pb db:Nat} {ao:Option Addr} {c:Nat} {ds:List Dv} {us:Nat→Bool} (h:PoolAt w pb db ao c ds us) (hb:Below w.heap.size w w'):PoolAt w' pb db ao c ds us:=h.kept (grown_below hb none) (by simp) (by simp)
theorem PoolAt.drewN {w:World} {pb db:Nat} {ao:Option Addr} {c:Nat} {ds:List Dv} {us:Nat→Bool} (h:PoolAt w pb db ao c ds us) (n:Nat):PoolAt (w.drewN n) pb db ao c ds us:=h.below (below_drewN (Below.refl _ w) n)
theorem PoolAt.alloc {w:World} {pb db:Nat} {ao:Option Addr} {c:Nat} {ds:List Dv} {us:Nat→Bool} (h:PoolAt w pb db ao c ds us) (o:Obj):PoolAt (w.alloc o) pb db ao c ds us:=h.below ((Below.refl _ w).alloc (Nat.le_refl _) o)
theorem PoolAt.set {w:World} {pb db:Nat} {ao:Option Addr} {c:Nat} {ds:List Dv} {us vs:Nat→Bool} (h:PoolAt w pb db ao c ds us) {m:Nat} (hm:m<16) (b:Bool) (hv:∀ j,j<16→vs j=if j=m then b else us j):PoolAt (w.setCell ⟨pb,1+m,none⟩ (.bool b)) pb db ao c ds vs:=by
 have hne:∀ x,x≠1+m→(⟨pb,1+m,none⟩:Addr)≠⟨pb,x,none⟩:=fun x hx e=>by cases e;exact hx rfl
 refine ⟨?_,fun h0=>⟨(h.at0 h0).1,(h.at0 h0).2.1,by simpa using (h.at0 h0).2.2⟩,fun k hk=>?_,fun j hj=>?_⟩
 ·rw [World.cell?_setCell_other (h:=hne 0 (by omega))]
  exact h.row
 ·obtain ⟨c1,c2,c3,c4⟩:=h.cells k hk
  have h0:0<ds.length:=by omega
  have hd:=(h.at0 h0).2.1
  have hlt:=(h.at0 h0).2.2
  have hg:=grown_setCell w ⟨pb,1+m,none⟩ (.bool b)
  have hn:some db≠some pb:=by simpa using hd
  exact ⟨(hg.cell_far _ hlt hn).trans c1,(hg.cell_far _ hlt hn).trans c2,(hg.cell_far _ hlt hn).trans c3,(hg.frozen_far _ hlt hn).trans c4⟩
 ·obtain ⟨cj,z⟩:=h.used j hj
  obtain ⟨cm,_⟩:=h.used m hm
  refine ⟨?_,(World.frozen?_setCell ..).trans z⟩
  rw [hv j hj]
  by_cases e:j=m
  ·subst e
   simp
   clear cj hv hne
   go_simp
  ·rw [if_neg e,World.cell?_setCell_other (h:=hne (1+j) (by omega))]
   exact cj
theorem NumsAt.kept {w w':World} {v:Value} {g o:Nat} {l:List Int} {r:Option Nat} (h:NumsAt w v g o l) (hg:w.grownBy w' r) (hr:0<l.length→some g≠r):NumsAt w' v g o l:=by
 obtain ⟨ao,c,hv,hc⟩:=h
 refine ⟨ao,c,hv,fun h0=>?_⟩
 obtain ⟨h1,h2,h3⟩:=hc h0
 exact ⟨h1,Nat.lt_of_lt_of_le h2 hg.size,fun k hk=>(hg.cell_far _ h2 (hr h0)).trans (h3 k hk)⟩
theorem NumsAt.below {w w':World} {v:Value} {g o:Nat} {l:List Int} (h:NumsAt w v g o l) (hb:Below w.heap.size w w'):NumsAt w' v g o l:=h.kept (grown_below hb none) (by simp)
theorem DevsAt.below {w w':World} {v:Value} {g o:Nat} {ds:List Dv} (h:DevsAt w v g o ds) (hb:Below w.heap.size w w'):DevsAt w' v g o ds:=by
 obtain ⟨ao,c,hv,hc⟩:=h
 refine ⟨ao,c,hv,fun h0=>?_⟩
 obtain ⟨h1,h2,h3⟩:=hc h0
 refine ⟨h1,Nat.lt_of_lt_of_le h2 hb.size,fun k hk=>?_⟩
 obtain ⟨c1,c2,c3⟩:=h3 k hk
 exact ⟨(hb.cell (p:=⟨g,o+k*3,none⟩) h2).trans c1,(hb.cell (p:=⟨g,o+k*3+1,none⟩) h2).trans c2,(hb.cell (p:=⟨g,o+k*3+2,none⟩) h2).trans c3⟩
end
section
namespace Ost
def cnt (A:Nat):Nat:=(listTo A 64).length
def dif (A B:Nat):Nat:=A ^^^ (A &&& B)
theorem dif_bit (A B i:Nat):(dif A B).testBit i=(A.testBit i && !B.testBit i):=by
 rw [dif,Nat.testBit_xor,Nat.testBit_and]
 cases A.testBit i <;> cases B.testBit i <;> rfl
theorem sub_iff (A B:Nat):A &&& B=A↔∀ i,A.testBit i=true→B.testBit i=true:=by
 constructor
 ·intro h i hi
  have e:(A &&& B).testBit i=A.testBit i:=by rw [h]
  rw [Nat.testBit_and,hi] at e
  simpa using e
 ·intro h
  apply Nat.eq_of_testBit_eq
  intro i
  rw [Nat.testBit_and]
  cases hA:A.testBit i with
  | false=>rfl
  | true=>rw [h i hA];rfl
theorem apart_iff (A B:Nat):A &&& B=0↔∀ i,A.testBit i=true→B.testBit i=false:=by
 constructor
 ·intro h i hi
  have e:(A &&& B).testBit i=false:=by rw [h,Nat.zero_testBit]
  rw [Nat.testBit_and,hi] at e
  simpa using e
 ·intro h
  apply Nat.eq_of_testBit_eq
  intro i
  rw [Nat.testBit_and,Nat.zero_testBit]
  cases hA:A.testBit i with
  | false=>rfl
  | true=>rw [h i hA];rfl
theorem cntTo_or {A B:Nat} (h:A &&& B=0) (k:Nat):(listTo (A ||| B) k).length=(listTo A k).length+(listTo B k).length:=by
 induction k with
 | zero=>rfl
 | succ k ih=>
  rw [listTo_succ,listTo_succ A,listTo_succ B,Nat.testBit_or]
  have hx:=(apart_iff A B).1 h k
  cases hA:A.testBit k with
  | true=>rw [hx hA];simp [ih];omega
  | false=>cases hB:B.testBit k <;> simp [ih];omega
theorem cnt_or {A B:Nat} (h:A &&& B=0):cnt (A ||| B)=cnt A+cnt B:=cntTo_or h 64
theorem cnt_0:cnt 0=0:=by decide +kernel
theorem lt64_bit {A:Nat} (h:A<18446744073709551616) {i:Nat} (hi:A.testBit i=true):i<64:=by
 apply Classical.byContradiction
 intro hn
 have:A.testBit i=false:=Nat.testBit_lt_two_pow (Nat.lt_of_lt_of_le (show A<2 ^ 64 from h) (Nat.pow_le_pow_right (n:=2) (by omega) (by omega)))
 rw [this] at hi;cases hi
theorem dif_lt {A:Nat} (B:Nat) (h:A<18446744073709551616):dif A B<18446744073709551616:=by
 apply Nat.lt_pow_two_of_testBit (n:=64)
 intro i hi
 rw [dif_bit]
 cases hA:A.testBit i with
 | false=>rfl
 | true=>have:=lt64_bit h hA;omega
theorem dif_or {A B:Nat} (h:B &&& A=B):dif A B ||| B=A:=by
 apply Nat.eq_of_testBit_eq
 intro i
 rw [Nat.testBit_or,dif_bit]
 have:=(sub_iff B A).1 h i
 cases hB:B.testBit i with
 | true=>rw [this hB];rfl
 | false=>simp
theorem dif_apart (A B:Nat):dif A B &&& B=0:=by
 rw [apart_iff]
 intro i hi
 rw [dif_bit] at hi
 cases hB:B.testBit i with
 | true=>rw [hB] at hi;simp at hi
 | false=>rfl
theorem cnt_dif {A B:Nat} (h:B &&& A=B):cnt (dif A B)+cnt B=cnt A:=by
 rw [← cnt_or (dif_apart A B),dif_or h]
theorem cnt_le {A B:Nat} (h:B &&& A=B):cnt B≤cnt A:=by have:=cnt_dif h;omega
theorem dif_sub (A B:Nat):dif A B &&& A=dif A B:=by
 rw [sub_iff];intro i hi;rw [dif_bit] at hi;revert hi;cases A.testBit i <;> simp
theorem sub_lt {A B:Nat} (hB:B<18446744073709551616) (h:A &&& B=A):A<18446744073709551616:=by
 rw [← h];exact Nat.lt_of_le_of_lt Nat.and_le_right hB
theorem sub_trans {A B C:Nat} (h1:A &&& B=A) (h2:B &&& C=B):A &&& C=A:=by
 rw [sub_iff] at *;intro i hi;exact h2 i (h1 i hi)
theorem or_sub {A B C:Nat} (h1:A &&& C=A) (h2:B &&& C=B):(A ||| B) &&& C=A ||| B:=by
 rw [sub_iff] at *
 intro i hi
 rw [Nat.testBit_or,Bool.or_eq_true] at hi
 rcases hi with hi|hi
 ·exact h1 i hi
 ·exact h2 i hi
theorem and_comm0 {A B:Nat} (h:A &&& B=0):B &&& A=0:=by rw [Nat.and_comm];exact h
def wholesTo (f:Nat→Nat) (free:Nat) (many:Int):Nat→Nat
 | 0=>0
 | k+1=>if f k &&& free=f k∧(cnt (f k):Int)≤many - cnt (wholesTo f free many k) then wholesTo f free many k ||| f k else wholesTo f free many k
def wholes (f:Nat→Nat) (free:Nat) (many:Int):Nat:=wholesTo f free many 64
theorem wholesTo_yes {f:Nat→Nat} {free:Nat} {many:Int} {k:Nat} (h1:f k &&& free=f k) (h2:(cnt (f k):Int)≤many - cnt (wholesTo f free many k)):wholesTo f free many (k+1)=wholesTo f free many k ||| f k:=by rw [wholesTo,if_pos ⟨h1,h2⟩]
theorem wholesTo_no1 {f:Nat→Nat} {free:Nat} {many:Int} {k:Nat} (h1:¬ f k &&& free=f k):wholesTo f free many (k+1)=wholesTo f free many k:=by rw [wholesTo,if_neg (fun h=>h1 h.1)]
theorem wholesTo_no2 {f:Nat→Nat} {free:Nat} {many:Int} {k:Nat} (h2:¬ (cnt (f k):Int)≤many - cnt (wholesTo f free many k)):wholesTo f free many (k+1)=wholesTo f free many k:=by rw [wholesTo,if_neg (fun h=>h2 h.2)]
theorem wholesTo_sub (f:Nat→Nat) (free:Nat) (many:Int) (k:Nat):wholesTo f free many k &&& free=wholesTo f free many k:=by
 induction k with
 | zero=>simp [wholesTo]
 | succ k ih=>
  rw [wholesTo]
  split
  ·rename_i h;exact or_sub ih h.1
  ·exact ih
theorem wholesTo_in (f:Nat→Nat) (free:Nat) (many:Int) (k i:Nat) (h:(wholesTo f free many k).testBit i=true):∃ n,n<k∧(f n).testBit i=true∧f n &&& wholesTo f free many k=f n:=by
 induction k with
 | zero=>simp [wholesTo] at h
 | succ k ih=>
  rw [wholesTo] at h ⊢
  split at h
  ·rename_i hc
   rw [if_pos hc]
   rw [Nat.testBit_or,Bool.or_eq_true] at h
   rcases h with h|h
   ·obtain ⟨n,hn,hb,hs⟩:=ih h
    refine ⟨n,by omega,hb,?_⟩
    rw [sub_iff] at hs ⊢
    intro j hj;rw [Nat.testBit_or,hs j hj];rfl
   ·refine ⟨k,by omega,h,?_⟩
    rw [sub_iff];intro j hj;rw [Nat.testBit_or,hj];simp
  ·rename_i hc
   rw [if_neg hc]
   obtain ⟨n,hn,hb,hs⟩:=ih h
   exact ⟨n,by omega,hb,hs⟩
def Parts (f:Nat→Nat):Prop:=∀ a b,a≠b→f a &&& f b=0
theorem wholesTo_apart {f:Nat→Nat} (hp:Parts f) (free:Nat) (many:Int) (k n:Nat) (hn:k≤n):wholesTo f free many k &&& f n=0:=by
 rw [apart_iff]
 intro i hi
 obtain ⟨j,hj,hb,_⟩:=wholesTo_in f free many k i hi
 exact (apart_iff _ _).1 (hp j n (by omega)) i hb
theorem wholesTo_cnt {f:Nat→Nat} (hp:Parts f) (free:Nat) (many:Int) (h0:0≤many) (k:Nat):(cnt (wholesTo f free many k):Int)≤many:=by
 induction k with
 | zero=>simp only [wholesTo,cnt_0];omega
 | succ k ih=>
  rw [wholesTo]
  split
  ·rename_i h;rw [cnt_or (wholesTo_apart hp free many k k (Nat.le_refl _))];omega
  ·exact ih
theorem wholesTo_lt (f:Nat→Nat) (free:Nat) (many:Int) (k:Nat) (h:free<18446744073709551616):wholesTo f free many k<18446744073709551616:=sub_lt h (wholesTo_sub f free many k)
def less (c:Nat→Nat) (x y:Nat):Bool:=decide (c x<c y∨(c x=c y∧x<y))
def order (c:Nat→Nat) (A:Nat):List Nat:=(listTo A 64).mergeSort (fun x y=>!less c y x)
def orB (l:List Nat):Nat:=l.foldl (fun s n=>s ||| 2 ^ n) 0
theorem orB_snoc (l:List Nat) (n:Nat):orB (l++[n])=orB l ||| 2 ^ n:=by simp [orB]
theorem orB_bit (l:List Nat) (i:Nat):(orB l).testBit i=decide (i∈l):=by
 have key:∀ r:List Nat,(orB r.reverse).testBit i=decide (i∈r.reverse):=by
  intro r
  induction r with
  | nil=>simp [orB]
  | cons n r ih=>
   rw [List.reverse_cons,orB_snoc,Nat.testBit_or,ih,Nat.testBit_two_pow,Bool.eq_iff_iff]
   simp only [Bool.or_eq_true,decide_eq_true_eq,List.mem_append,List.mem_singleton]
   constructor
   ·rintro (h|h)
    ·exact .inl h
    ·exact .inr h.symm
   ·rintro (h|h)
    ·exact .inl h
    ·exact .inr h.symm
 have:=key l.reverse
 rwa [List.reverse_reverse] at this
theorem order_perm (c:Nat→Nat) (A:Nat):(order c A).Perm (listTo A 64):=List.mergeSort_perm _ _
theorem order_length (c:Nat→Nat) (A:Nat):(order c A).length=cnt A:=(order_perm c A).length_eq
theorem listTo_mem (A i:Nat):i∈listTo A 64↔i<64∧A.testBit i=true:=by unfold listTo;simp
theorem order_mem {c:Nat→Nat} {A i:Nat}:i∈order c A↔i<64∧A.testBit i=true:=by rw [(order_perm c A).mem_iff,listTo_mem]
theorem order_nodup (c:Nat→Nat) (A:Nat):(order c A).Nodup:=by
 rw [(order_perm c A).nodup_iff]
 unfold listTo
 exact List.Pairwise.filter _ List.nodup_range
theorem less_total {c:Nat→Nat} {x y:Nat} (h1:less c x y=false) (h2:less c y x=false):x=y:=by simp [less] at *;omega
def rest (c:Nat→Nat) (A j:Nat):Nat:=dif A (orB ((order c A).take j))
theorem cnt_pow {n:Nat} (h:n<64):cnt (2 ^ n)=1:=by
 have:∀ i:Fin 64,cnt (2 ^ i.val)=1:=by decide +kernel
 exact this ⟨n,h⟩
theorem cnt_orB {l:List Nat} (hn:l.Nodup) (h64:∀ i∈l,i<64):cnt (orB l)=l.length:=by
 have key:∀ r:List Nat,r.reverse.Nodup→(∀ i∈r.reverse,i<64)→cnt (orB r.reverse)=r.reverse.length:=by
  intro r
  induction r with
  | nil=>intro _ _;simp [orB,cnt_0]
  | cons n r ih=>
   intro hn h64
   rw [List.reverse_cons] at hn h64 ⊢
   rw [List.nodup_append] at hn
   rw [orB_snoc,cnt_or,ih hn.1 (fun i hi=>h64 i (List.mem_append_left _ hi)),cnt_pow (h64 n (by simp))]
   ·simp
   ·rw [apart_iff]
    intro i hi
    rw [orB_bit,decide_eq_true_eq] at hi
    rw [Nat.testBit_two_pow]
    exact decide_eq_false (fun e=>hn.2.2 i hi n (by simp) e.symm)
 have:=key l.reverse
 rw [List.reverse_reverse] at this
 exact this hn h64
def singles (c:Nat→Nat) (A:Nat) (many:Nat):Nat:=orB ((order c A).take many)
theorem singles_sub (c:Nat→Nat) (A many:Nat):singles c A many &&& A=singles c A many:=by
 rw [sub_iff]
 intro i hi
 rw [singles,orB_bit,decide_eq_true_eq] at hi
 exact (order_mem.1 (List.mem_of_mem_take hi)).2
theorem singles_cnt (c:Nat→Nat) (A many:Nat):cnt (singles c A many)=min many (cnt A):=by
 rw [singles,cnt_orB,List.length_take,order_length]
 ·exact (order_nodup c A).sublist (List.take_sublist _ _)
 ·intro i hi;exact (order_mem.1 (List.mem_of_mem_take hi)).1
def sockAt (l:List Cpu) (n:Nat):Nat:=at' (·.sock) l n
def coreAt (l:List Cpu) (n:Nat):Nat:=at' (·.core) l n
theorem at_parts (f:Cpu→Int) (l:List Cpu):Parts (at' f l):=by
 intro a b hab
 rw [apart_iff]
 intro i hi
 rw [at',chosen_bit,Bool.and_eq_true,beq_iff_eq] at hi
 rw [at',chosen_bit,hi.2]
 have:(((a:Nat):Int) == (b:Int))=false:=by rw [beq_eq_false_iff_ne];omega
 rw [this];simp
theorem at_lt (f:Cpu→Int) {l:List Cpu} (h:l.length≤64) (n:Nat):at' f l n<18446744073709551616:=chosenTo_lt _ l _ h
def leftOf (l:List Cpu) (now n:Nat):Nat:=cnt (chosen (fun x=>x.core == (l.getD n cpu0).core) l &&& now)
def some1 (l:List Cpu) (F:Nat) (L:Int):Nat:=wholes (sockAt l) F L
def some2 (l:List Cpu) (F:Nat) (L:Int):Nat:=some1 l F L ||| wholes (coreAt l) (dif F (some1 l F L)) (L - cnt (some1 l F L))
def someOf (l:List Cpu) (F:Nat) (L:Int):Nat:=some2 l F L ||| singles (leftOf l (dif F (some2 l F L))) (dif F (some2 l F L)) (L - cnt (some2 l F L)).toNat
theorem some1_sub (l:List Cpu) (F:Nat) (L:Int):some1 l F L &&& F=some1 l F L:=wholesTo_sub _ _ _ _
theorem some1_cnt (l:List Cpu) (F:Nat) (L:Int) (h:0≤L):(cnt (some1 l F L):Int)≤L:=wholesTo_cnt (at_parts _ l) F L h 64
theorem some2_sub (l:List Cpu) (F:Nat) (L:Int):some2 l F L &&& F=some2 l F L:=
 or_sub (some1_sub l F L) (sub_trans (wholesTo_sub _ _ _ _) (dif_sub F _))
theorem apart_dif {A B C:Nat} (h:B &&& dif C A=B):A &&& B=0:=by
 apply and_comm0
 rw [sub_iff] at h
 rw [apart_iff]
 intro i hi
 have:=h i hi
 rw [dif_bit,Bool.and_eq_true] at this
 simpa using this.2
theorem some2_cnt (l:List Cpu) (F:Nat) (L:Int) (h:0≤L):(cnt (some2 l F L):Int)≤L:=by
 have h1:=some1_cnt l F L h
 unfold some2 wholes
 rw [cnt_or (apart_dif (wholesTo_sub (coreAt l) (dif F (some1 l F L)) (L - cnt (some1 l F L)) 64))]
 have h2:=wholesTo_cnt (at_parts (·.core) l) (dif F (some1 l F L)) (L - cnt (some1 l F L)) (by omega) 64
 have e:coreAt l=at' (·.core) l:=rfl
 rw [e]
 omega
theorem someOf_sub (l:List Cpu) (F:Nat) (L:Int):someOf l F L &&& F=someOf l F L:=
 or_sub (some2_sub l F L) (sub_trans (singles_sub _ _ _) (dif_sub F _))
theorem someOf_cnt (l:List Cpu) (F:Nat) (L:Int) (h:0≤L):(cnt (someOf l F L):Int)=min L (cnt F):=by
 have h1:=some2_cnt l F L h
 have h2:=cnt_dif (some2_sub l F L)
 rw [someOf,cnt_or (apart_dif (singles_sub _ _ _)),singles_cnt]
 omega
def takeOut (l:List Cpu) (F:Nat) (L:Int) (on:Nat):Nat × Int:=
 if L<0∨64<L∨¬ F &&& chosen (fun _=>true) l=F then (0,1) else
 if (cnt F:Int)<L then (0,8) else
 (someOf l (F &&& on) L ||| someOf l (dif F (F &&& on)) (L - cnt (someOf l (F &&& on) L)),0)
theorem and_sub (A B:Nat):A &&& B &&& A=A &&& B:=by
 apply Nat.eq_of_testBit_eq;intro i;simp only [Nat.testBit_and];cases A.testBit i <;> cases B.testBit i <;> rfl
theorem take_good {l:List Cpu} {F:Nat} {L:Int} (on:Nat) (h0:0≤L) (h64:L≤64) (hin:F &&& chosen (fun _=>true) l=F) (hc:L≤cnt F) :
  takeOut l F L on=(someOf l (F &&& on) L ||| someOf l (dif F (F &&& on)) (L - cnt (someOf l (F &&& on) L)),0):=by
 rw [takeOut,if_neg (fun h=>by rcases h with h|h|h;omega;omega;exact h hin),if_neg (by omega)]
theorem take_facts {l:List Cpu} {F:Nat} {L:Int} (on:Nat) (h0:0≤L) (hc:L≤cnt F) (s:Nat) (hs:s=someOf l (F &&& on) L ||| someOf l (dif F (F &&& on)) (L - cnt (someOf l (F &&& on) L))) :
  (cnt s:Int)=L∧s &&& F=s∧(cnt (s &&& on):Int)=min L (cnt (F &&& on)):=by
 have ha:=someOf_cnt l (F &&& on) L h0
 have has:=someOf_sub l (F &&& on) L
 have hbs:=someOf_sub l (dif F (F &&& on)) (L - cnt (someOf l (F &&& on) L))
 have hb:=someOf_cnt l (dif F (F &&& on)) (L - cnt (someOf l (F &&& on) L)) (by omega)
 have hd:=cnt_dif (and_sub F on)
 generalize someOf l (dif F (F &&& on)) (L - cnt (someOf l (F &&& on) L))=b at *
 generalize someOf l (F &&& on) L=a at *
 have hab:a &&& b=0:=by
  rw [sub_iff] at has hbs
  rw [apart_iff]
  intro i hi
  cases hbi:b.testBit i with
  | false=>rfl
  | true=>
   have h1:=has i hi
   have h2:=hbs i hbi
   rw [dif_bit,h1] at h2
   simp at h2
 have hson:s &&& on=a:=by
  rw [hs]
  rw [sub_iff] at has hbs
  apply Nat.eq_of_testBit_eq
  intro i
  rw [Nat.testBit_and,Nat.testBit_or]
  cases hai:a.testBit i with
  | true=>
   have h1:=has i hai
   rw [Nat.testBit_and,Bool.and_eq_true] at h1
   rw [h1.2];rfl
  | false=>
   cases hbi:b.testBit i with
   | false=>rfl
   | true=>
    have h2:=hbs i hbi
    rw [dif_bit,Nat.testBit_and] at h2
    revert h2
    cases F.testBit i <;> cases on.testBit i <;> simp
 refine ⟨?_,?_,?_⟩
 ·rw [hs,cnt_or hab];omega
 ·rw [hs];exact or_sub (sub_trans has (and_sub F on)) (sub_trans hbs (dif_sub F _))
 ·rw [hson];exact ha
end Ost
end
section
namespace Ost
theorem spansTo_half (A k:Nat):2*(spansTo A k).length≤k+1∧(A.testBit k=true→2*(spansTo A k).length≤k):=by
 induction k with
 | zero=>simp [spansTo]
 | succ k ih=>
  unfold spansTo
  by_cases h:A.testBit k=true
  ·by_cases h1:A.testBit (k+1)=true
   ·simp [h,h1];omega
   ·have h1':A.testBit (k+1)=false:=by simpa using h1
    simp [h,h1']
    have:=ih.2 h
    omega
  ·have h':A.testBit k=false:=by simpa using h
   simp [h'];omega
theorem dd_two (n:Nat) (h:n<100):(Lib.decDigits n).length≤2:=decN_len 1 n (by omega)
theorem spanTxt_len (f l:Nat) (hf:f<64) (hl:l<64):(spanTxt (f,l)).length≤5:=by
 have h1:=dd_two f (by omega)
 have h2:=dd_two l (by omega)
 unfold spanTxt
 split
 ·exact Nat.le_trans h1 (by omega)
 ·simp;omega
theorem runStart_le' (A k:Nat):runStart A k≤k:=by
 induction k with
 | zero=>exact Nat.le_refl _
 | succ k ih=>unfold runStart;split <;> omega
theorem spansTo_mem (A k:Nat) (p:Nat × Nat) (h:p∈spansTo A k):p.1≤p.2∧p.2<k:=by
 induction k with
 | zero=>simp [spansTo] at h
 | succ k ih=>
  unfold spansTo at h
  split at h
  ·rcases List.mem_append.1 h with h|h
   ·have:=ih h;omega
   ·simp at h;subst h;exact ⟨runStart_le' A k,by omega⟩
  ·have:=ih h;omega
theorem joined_len (l:List (Nat × Nat)) (h:∀ p∈l,p.1≤p.2∧p.2<64):(joined l).length≤6*l.length:=by
 have key:∀ r:List (Nat × Nat),(∀ p∈r.reverse,p.1≤p.2∧p.2<64)→(joined r.reverse).length≤6*r.reverse.length:=by
  intro r
  induction r with
  | nil=>intro _;simp [joined,Lib.join,List.intercalate]
  | cons p r ih=>
   intro hr
   rw [List.reverse_cons] at hr ⊢
   have h1:=ih (fun q hq=>hr q (List.mem_append.2 (.inl hq)))
   have h2:=hr p (List.mem_append.2 (.inr (by simp)))
   have h3:(spanTxt p).length≤5:=spanTxt_len p.1 p.2 (by omega) (by omega)
   rw [joined_snoc,List.length_append]
   split
   ·simp only [List.length_cons,List.length_nil];omega
   ·rw [List.length_append,List.length_append];simp only [List.length_cons,List.length_nil];omega
 have:=key l.reverse (by simpa using h)
 simpa using this
def txt (A:Nat):List UInt8:=joined (spansTo A 64)
theorem txt_len (A:Nat):(txt A).length≤300:=by
 have h1:=joined_len (spansTo A 64) (fun p hp=>spansTo_mem A 64 p hp)
 have h2:=(spansTo_half A 64).1
 unfold txt;omega
def splitC (c:UInt8):List UInt8→List (List UInt8)
 | []=>[[]]
 | b :: r=>if b=c then [] :: splitC c r else
  match splitC c r with
  | []=>[[b]]
  | x :: xs=>(b :: x) :: xs
def spanOf (t:List UInt8):Option (Int × Int):=
 if (cut1 45 t).2.2 then
  (if (good 19 (cut1 45 t).1 && good 19 (cut1 45 t).2.1 && decide (val (cut1 45 t).1≤val (cut1 45 t).2.1)) then some (val (cut1 45 t).1,val (cut1 45 t).2.1) else none)
 else if good 19 (cut1 45 t).1 then some (val (cut1 45 t).1,val (cut1 45 t).1) else none
def rb (f:Nat):Nat→Nat
 | 0=>0
 | m+1=>rb f m ||| 2 ^ (f+m)
def pieces (acc:Nat):List (List UInt8)→Nat × Int
 | []=>(acc,0)
 | t :: r=>match spanOf t with
  | none=>(0,4)
  | some (f,l)=>if 63<l then (0,1) else pieces (acc ||| rb f.toNat (l - f+1).toNat) r
def parseOut (l:List UInt8):Nat × Int:=if 300<l.length then (0,2) else if l=[] then (0,0) else pieces 0 (splitC 44 l)
end Ost
end
namespace S1
open Go.RowKit
def Tab (w : World) : Prop := Lib.TabIs Tryz.prog w "internal/strconv.uint64pow10" .u64 Lib.pow10Tab
theorem gTab : Tryz.prog.globalNamed "internal/strconv.uint64pow10" = some 0 := by kernel_rfl
theorem Tab.below {w w':World} (h:Tab w) (hb:Below w.heap.size w w') (hB:0<w.heap.size):Tab w':=var?_below hb gTab hB h
theorem below_grow (B:Nat) (w:World) (hB:B≤w.heap.size) (k:Nat) (os:Array Obj):Below B w (Sort.grow (w.drewN k) os):=
 ⟨rfl,rfl,rfl,by simp [Sort.grow],fun i hi=>by
  show (w.heap++os)[i]?=_
  rw [Array.getElem?_append_left (by omega)]⟩
def dec (n:Int):List UInt8:=Lib.decDigits n.toNat
theorem itoa_any (n:Int) (w:World) (h0:0≤n) (h1:n≤9223372036854775807) (ht:Tab w) :
  Calls Tryz.prog 144 #[.int .i64 n] w fun e w'=>e=.returned (.string ⟨(dec n).toArray⟩)∧Below w.heap.size w w':=by
 refine (Tryz.strconv_Itoa n (by omega) h1 w ht).mono ?_
 rintro e w' ⟨he,k,os,rfl⟩
 refine ⟨?_,below_grow _ w (Nat.le_refl _) k os⟩
 rw [he,Lib.itoa,if_neg (by omega)];rfl
end S1
namespace S1
open Go.RowKit
theorem two' (b:Bool):b=true∨b=false:=by cases b <;> simp
theorem hZz' {p:Prop} (h:p):Hid p:=h
end S1
namespace S1
open Go.RowKit
namespace Ost
open Go.Proofs.YtbfdcmodflnkfaaGreatDoor.Ost
end Ost
end S1
namespace S1
open Go.RowKit
theorem m0:Ost.M0 8=6148914691236517205:=by decide +kernel
theorem m1:Ost.M1 8=3689348814741910323:=by decide +kernel
theorem m2:Ost.M2 8=1085102592571150095:=by decide +kernel
theorem andN (a:Nat) (m:Nat) (ha:a<18446744073709551616) (hm:m<18446744073709551616) (z:Int) (hz:z=(a:Int)):bits BinOp.and IntKind.u64 z (m:Int)=((a &&& m:Nat):Int):=by
 rw [hz];exact bits_and_u64_nat a m ha hm
theorem wrapN (n:Nat) (z:Int) (hz:z=(n:Int)) (h:n<18446744073709551616):IntKind.u64.wrap z=(n:Int):=by
 rw [IntKind.wrap_u64,hz];omega
theorem ones1 (A:Nat) (hA:A<18446744073709551616):IntKind.u64.wrap (bits BinOp.and IntKind.u64 ((A:Int) / 2) 6148914691236517205+bits BinOp.and IntKind.u64 (A:Int) 6148914691236517205)=((Ost.p1 8 A:Nat):Int)∧Ost.p1 8 A<18446744073709551616:=by
 have e1:=andN (A / 2) 6148914691236517205 (by omega) (by omega) ((A:Int) / 2) (by omega)
 have e2:=andN A 6148914691236517205 hA (by omega) (A:Int) rfl
 have l1:A / 2 &&& 6148914691236517205≤6148914691236517205:=Nat.and_le_right
 have l2:A &&& 6148914691236517205≤6148914691236517205:=Nat.and_le_right
 have hp:Ost.p1 8 A=(A / 2 &&& 6148914691236517205)+(A &&& 6148914691236517205):=by unfold Ost.p1;rw [m0]
 rw [hp]
 refine ⟨?_,by omega⟩
 apply wrapN _ _ _ (by omega)
 rw [show (6148914691236517205:Int)=((6148914691236517205:Nat):Int) from rfl,e1,e2]
 omega
theorem ones2 (x:Nat) (hx:x<18446744073709551616):IntKind.u64.wrap (bits BinOp.and IntKind.u64 ((x:Int) / 4) 3689348814741910323+bits BinOp.and IntKind.u64 (x:Int) 3689348814741910323)=((Ost.p2 8 x:Nat):Int)∧Ost.p2 8 x≤7378697629483820646:=by
 have e1:=andN (x / 4) 3689348814741910323 (by omega) (by omega) ((x:Int) / 4) (by omega)
 have e2:=andN x 3689348814741910323 hx (by omega) (x:Int) rfl
 have l1:x / 4 &&& 3689348814741910323≤3689348814741910323:=Nat.and_le_right
 have l2:x &&& 3689348814741910323≤3689348814741910323:=Nat.and_le_right
 have hp:Ost.p2 8 x=(x / 4 &&& 3689348814741910323)+(x &&& 3689348814741910323):=by unfold Ost.p2;rw [m1]
 rw [hp]
 refine ⟨?_,by omega⟩
 apply wrapN _ _ _ (by omega)
 rw [show (3689348814741910323:Int)=((3689348814741910323:Nat):Int) from rfl,e1,e2]
 omega
theorem ones3 (x:Nat) (hx:x≤7378697629483820646):bits BinOp.and IntKind.u64 (IntKind.u64.wrap ((x:Int) / 16+(x:Int))) 1085102592571150095=((Ost.p3 8 x:Nat):Int):=by
 have hw:=wrapN (x / 16+x) ((x:Int) / 16+(x:Int)) (by omega) (by omega)
 rw [hw]
 have hp:Ost.p3 8 x=(x / 16+x) &&& 1085102592571150095:=by unfold Ost.p3;rw [m2]
 rw [hp]
 exact andN (x / 16+x) 1085102592571150095 (by omega) (by omega) _ rfl
def num8 (a b c d e f g h:Nat):Nat:=a+256*(b+256*(c+256*(d+256*(e+256*(f+256*(g+256*h))))))
theorem num8_lt (a b c d e f g h:Nat) (_ha:a≤64) (_hb:b≤64) (_hc:c≤64) (_hd:d≤64) (_he:e≤64) (_hf:f≤64) (_hg:g≤64) (_hh:h≤64):num8 a b c d e f g h<4700000000000000000:=by unfold num8;omega
theorem sh8 (a b c d e f g h:Nat) (_ha:a≤8) (_hb:b≤8) (_hc:c≤8) (_hd:d≤8) (_he:e≤8) (_hf:f≤8) (_hg:g≤8) (_hh:h≤8) :
  num8 a b c d e f g h+num8 a b c d e f g h / 256=num8 (a+b) (b+c) (c+d) (d+e) (e+f) (f+g) (g+h) h:=by
 have:num8 a b c d e f g h / 256=b+256*(c+256*(d+256*(e+256*(f+256*(g+256*h))))):=by unfold num8;omega
 rw [this];unfold num8;omega
theorem sh16 (a b c d e f g h:Nat) (_ha:a≤16) (_hb:b≤16) (_hc:c≤16) (_hd:d≤16) (_he:e≤16) (_hf:f≤16) (_hg:g≤16) (_hh:h≤16) :
  num8 a b c d e f g h+num8 a b c d e f g h / 65536=num8 (a+c) (b+d) (c+e) (d+f) (e+g) (f+h) g h:=by
 have:num8 a b c d e f g h / 65536=c+256*(d+256*(e+256*(f+256*(g+256*h)))):=by unfold num8;omega
 rw [this];unfold num8;omega
theorem sh32 (a b c d e f g h:Nat) (_ha:a≤32) (_hb:b≤32) (_hc:c≤32) (_hd:d≤32) (_he:e≤32) (_hf:f≤32) (_hg:g≤32) (_hh:h≤32) :
  num8 a b c d e f g h+num8 a b c d e f g h / 4294967296=num8 (a+e) (b+f) (c+g) (d+h) e f g h:=by
 have:num8 a b c d e f g h / 4294967296=e+256*(f+256*(g+256*h)):=by unfold num8;omega
 rw [this];unfold num8;omega
theorem num8_mod (a b c d e f g h:Nat) (_ha:a≤64):num8 a b c d e f g h % 128=a:=by unfold num8;omega
theorem steps (A:Nat) (hA:A<18446744073709551616):∃ x1 x2 X Y Z V:Nat,
  IntKind.u64.wrap (bits BinOp.and IntKind.u64 ((A:Int) / 2) 6148914691236517205+bits BinOp.and IntKind.u64 (A:Int) 6148914691236517205)=(x1:Int)∧
  IntKind.u64.wrap (bits BinOp.and IntKind.u64 ((x1:Int) / 4) 3689348814741910323+bits BinOp.and IntKind.u64 (x1:Int) 3689348814741910323)=(x2:Int)∧
  bits BinOp.and IntKind.u64 (IntKind.u64.wrap ((x2:Int) / 16+(x2:Int))) 1085102592571150095=(X:Int)∧
  IntKind.u64.wrap ((X:Int)+(X:Int) / 256)=(Y:Int)∧IntKind.u64.wrap ((Y:Int)+(Y:Int) / 65536)=(Z:Int)∧IntKind.u64.wrap ((Z:Int)+(Z:Int) / 4294967296)=(V:Int)∧
  V % 128=(Ost.listTo A 64).length∧V<4700000000000000000:=by
 obtain ⟨a,b,c,d,e,f,g,h,ha,hb,hc,hd,he,hf,hg,hh,hX,hS⟩:=Ost.pop_sum A
 have h1:=ones1 A hA
 have h2:=ones2 (Ost.p1 8 A) h1.2
 have h3:=ones3 (Ost.p2 8 (Ost.p1 8 A)) h2.2
 have hX2:Ost.p3 8 (Ost.p2 8 (Ost.p1 8 A))=num8 a b c d e f g h:=hX
 rw [hX2] at h3
 have l1:=num8_lt a b c d e f g h (by omega) (by omega) (by omega) (by omega) (by omega) (by omega) (by omega) (by omega)
 have s1:=sh8 a b c d e f g h ha hb hc hd he hf hg hh
 have l2:=num8_lt (a+b) (b+c) (c+d) (d+e) (e+f) (f+g) (g+h) h (by omega) (by omega) (by omega) (by omega) (by omega) (by omega) (by omega) (by omega)
 have s2:=sh16 (a+b) (b+c) (c+d) (d+e) (e+f) (f+g) (g+h) h (by omega) (by omega) (by omega) (by omega) (by omega) (by omega) (by omega) (by omega)
 have l3:=num8_lt (a+b+(c+d)) (b+c+(d+e)) (c+d+(e+f)) (d+e+(f+g)) (e+f+(g+h)) (f+g+h) (g+h) h (by omega) (by omega) (by omega) (by omega) (by omega) (by omega) (by omega) (by omega)
 have s3:=sh32 (a+b+(c+d)) (b+c+(d+e)) (c+d+(e+f)) (d+e+(f+g)) (e+f+(g+h)) (f+g+h) (g+h) h (by omega) (by omega) (by omega) (by omega) (by omega) (by omega) (by omega) (by omega)
 have l4:=num8_lt (a+b+(c+d)+(e+f+(g+h))) (b+c+(d+e)+(f+g+h)) (c+d+(e+f)+(g+h)) (d+e+(f+g)+h) (e+f+(g+h)) (f+g+h) (g+h) h (by omega) (by omega) (by omega) (by omega) (by omega) (by omega) (by omega) (by omega)
 refine ⟨_,_,_,num8 (a+b) (b+c) (c+d) (d+e) (e+f) (f+g) (g+h) h,num8 (a+b+(c+d)) (b+c+(d+e)) (c+d+(e+f)) (d+e+(f+g)) (e+f+(g+h)) (f+g+h) (g+h) h,_,h1.1,h2.1,h3,?_,?_,?_,num8_mod (a+b+(c+d)+(e+f+(g+h))) (b+c+(d+e)+(f+g+h)) (c+d+(e+f)+(g+h)) (d+e+(f+g)+h) (e+f+(g+h)) (f+g+h) (g+h) h (by omega) |>.trans (by rw [hS];omega),l4⟩
 ·exact wrapN _ _ (by rw [← s1];simp) (by omega)
 ·exact wrapN _ _ (by rw [← s2];simp) (by omega)
 ·exact wrapN _ _ (by rw [← s3];simp) (by omega)
theorem ones_any (A:Nat) (w:World) (hA:A<18446744073709551616) :
  Calls Tryz.prog 49 #[.int .u64 A] w fun e w'=>e=.returned (.int .i64 ((Ost.listTo A 64).length:Nat))∧w'=w:=by
 obtain ⟨x1,x2,X,Y,Z,V,r1,r2,r3,r4,r5,r6,e,hV⟩:=steps A hA
 have HE:=hZz' e
 clear e
 go_enter Tryz.func49,Tryz.ntmps49
 go_wp2_with fail
 go_ret
 refine ⟨?_,rfl⟩
 have e:bits BinOp.and IntKind.i64 (V:Int) 127=((Ost.listTo A 64).length:Nat):=by
  rw [i64_and127];have:=HE.out;omega
 exact congrArg (fun z=>Ending.returned (.int .i64 z)) e
theorem count_any (A:Nat) (w:World) (hA:A<18446744073709551616) :
  Calls Tryz.prog 20 #[.int .u64 A] w fun e w'=>e=.returned (.int .i64 ((Ost.listTo A 64).length:Nat))∧w'=w:=by
 go_enter Tryz.func20,Tryz.ntmps20
 go_wp2_with fail
 refine (ones_any A _ hA).mono ?_
 rintro e w' ⟨rfl,rfl⟩
 go_wp2_with fail
 go_ret
 exact ⟨rfl,rfl⟩
end S1
section
open Go.RowKit Go.Shelf
open Ost (splitC)
attribute [local go_sem] Oper.semAt_some
def KSp (h j:Nat):Prop:=j=h∨j=h+1∨j=h+2
structure SpBox (W:World) (h:Nat) (c:UInt8) (s:List UInt8):Prop where
 s:Boxed W h 9 (.string ⟨s.toArray⟩)
 p:Boxed W (h+1) 9 (.string ⟨#[c]⟩)
 z:Boxed W (h+2) 3 (.int .i64 0)
theorem SpBox.kept {W W':World} {h:Nat} {c:UInt8} {s:List UInt8} (b:SpBox W h c s) (hk:∀ j,KSp h j→W'.heap[j]?=W.heap[j]?):SpBox W' h c s:=
 ⟨(hk h (.inl rfl)).trans b.s,(hk (h+1) (.inr (.inl rfl))).trans b.p,(hk (h+2) (.inr (.inr rfl))).trans b.z⟩
end
end Go.Proofs.YtbfdcmodflnkfaaGreatDoor
namespace Go.Proofs
open Go.Shelf
shelf_lay_g SlLaysH0.n8 Slgf 8 at Tryz 85 as Tryz.contL
end Go.Proofs
namespace Go.Proofs.YtbfdcmodflnkfaaGreatDoor
section
open Go.RowKit
open Qos (Nd Ct Pd nd0 ct0 pd0 nd ct pd needF contF podF amtOk over twice leS)
open Dvs (nameMay first)
instance:Inhabited (Ct × Value):=⟨⟨ct0,.nilIface⟩⟩
theorem eq_str (a b:ByteArray):(a.toList == b.toList)=decide (a=b):=by
 rw [Bool.eq_iff_iff,beq_iff_eq,decide_eq_true_iff,ByteArray.toList_eq,ByteArray.toList_eq]
 exact ⟨fun h=>ByteArray.ext (Array.toList_inj.mp h),fun h=>by rw [h]⟩
theorem sameName_pred (nm:ByteArray) (B:Nat) (w:World) (hB:B<w.heap.size) (hcell:w.cell? ⟨B,0,none⟩=some (.string nm)) :
  PredBelow Tryz.prog 86 #[.pointer (some ⟨B,0,none⟩)] (fun x:Ct × Value=>.agg (contCells x.1 x.2).toArray) (fun x=>decide (x.1.nm=nm)) w:=fun W x hb=>by
 have hc:W.cell? ⟨B,0,none⟩=some (.string nm):=(hb.cell (p:=⟨B,0,none⟩) hB).trans hcell
 have hBW:B<W.heap.size:=Nat.lt_of_lt_of_le hB hb.size
 have hne:B≠W.heap.size:=by omega
 obtain ⟨x,dv⟩:=x
 have HX:=hZz (eq_str x.nm nm)
 show Calls Tryz.prog 86 #[.agg #[.string x.nm,.int .i64 x.am,.int .i64 x.ab,.int .i64 x.cm,.int .i64 x.cb,dv],.pointer (some ⟨B,0,none⟩)] W _
 show Calls Tryz.prog 86 _ W fun e w'=>e=.returned (.bool (decide (x.nm=nm)))∧Below w.heap.size w w'
 rw [← HX.out]
 have HB:=hZz (hb.alloc hb.size (.cells #[.string x.nm,.int .i64 x.am,.int .i64 x.ab,.int .i64 x.cm,.int .i64 x.cb,dv] 64))
 clear hb
 go_enter Tryz.func86,Tryz.ntmps86
 go_wp2_with fail
 go_ret
 exact ⟨rfl,HB.out⟩
theorem any_fst (cs:List Ct) (dv:Nat→Value) (k:Nat) (q:Ct→Bool):((((List.range cs.length).map fun j=>(ct cs j,dv j)).take k).any fun x=>q x.1)=(cs.take k).any q:=by
 have e:((List.range cs.length).map fun j=>(ct cs j,dv j)).map Prod.fst=cs:=by
  rw [List.map_map]
  apply List.ext_getElem
  ·simp
  ·intro i h1 h2
   simp [ct,h2]
 have h:(cs.take k)=(((List.range cs.length).map fun j=>(ct cs j,dv j)).take k).map Prod.fst:=by rw [List.map_take,e]
 rw [h,List.any_map]
 rfl
theorem has_twice (b o c B k:Nat) (cs:List Ct) (dv:Nat→Value) (w:World) (h:ConsIn w b o cs dv) (hk:k<cs.length) (hl:cs.length≤maxLen) (hB:B<w.heap.size) (hcell:w.cell? ⟨B,0,none⟩=some (.string (ct cs k).nm)) :
  Calls Tryz.prog 85 #[.slice (some ⟨b,o,none⟩) k c,.func (.func 86) #[] #[.pointer (some ⟨B,0,none⟩)]] w fun e w'=>e=.returned (.bool (twice cs k))∧Below w.heap.size w w':=by
 have eg:∀ args w,(callFunc 86 args).run Tryz.prog w=.ok (.enter 86 args) w:=enters_of Tryz.func86 (by kernel_rfl) rfl
 have hcon:=AnyQ.slices_ContainsFunc Tryz.contL 6 Tryz.isAgg64 Tryz.sizeOf64 (fun x:Ct × Value=>contCells x.1 x.2) (fun _=>rfl) (fun x=>decide (x.1.nm=(ct cs k).nm)) 86 #[.pointer (some ⟨B,0,none⟩)] eg b o k c ((List.range cs.length).map fun j=>(ct cs j,dv j)) w
  (sameName_pred (ct cs k).nm B w hB hcell) (by simp;omega) (by unfold maxLen at hl;omega) h.1 (fun j hj i v hi=>by
   have hj':j<cs.length:=by simpa using hj
   have e:((List.range cs.length).map fun j=>(ct cs j,dv j))[j]! = (ct cs j,dv j):=by simp [hj']
   rw [e] at hi
   have h6:i<6:=by
    have:=(List.getElem?_eq_some_iff.1 hi).1
    simpa [contCells] using this
   rw [(h.2 j hj').1 i h6]
   exact hi)
 change Calls Tryz.prog 85 _ _ _ at hcon
 rw [any_fst cs dv k (fun x=>decide (x.nm=(ct cs k).nm))] at hcon
 exact hcon
theorem contF_1 {cs:List Ct} {k:Nat} (h:nameMay (ct cs k).nm=false):contF cs k=3:=by unfold contF;rw [if_pos h]
theorem contF_2 {cs:List Ct} {k:Nat} (h:nameMay (ct cs k).nm=true) (h2:twice cs k=true):contF cs k=5:=by unfold contF;rw [if_neg (by rw [h];decide),if_pos h2]
theorem contF_3 {cs:List Ct} {k:Nat} (h:nameMay (ct cs k).nm=true) (h2:twice cs k=false) (h3:amtOk (ct cs k).am (ct cs k).ab=false∨amtOk (ct cs k).cm (ct cs k).cb=false):contF cs k=1:=by
 unfold contF;rw [if_neg (by rw [h];decide),if_neg (by rw [h2];decide),if_pos h3]
theorem contF_4 {cs:List Ct} {k:Nat} (h:nameMay (ct cs k).nm=true) (h2:twice cs k=false) (h3:amtOk (ct cs k).am (ct cs k).ab=true) (h3':amtOk (ct cs k).cm (ct cs k).cb=true) (h4:over (ct cs k).am (ct cs k).cm=true∨over (ct cs k).ab (ct cs k).cb=true):contF cs k=3:=by
 unfold contF;rw [if_neg (by rw [h];decide),if_neg (by rw [h2];decide),if_neg (by rw [h3,h3'];decide),if_pos h4]
theorem contF_5 {cs:List Ct} {k:Nat} (h:nameMay (ct cs k).nm=true) (h2:twice cs k=false) (h3:amtOk (ct cs k).am (ct cs k).ab=true) (h3':amtOk (ct cs k).cm (ct cs k).cb=true) (h4:over (ct cs k).am (ct cs k).cm=false) (h4':over (ct cs k).ab (ct cs k).cb=false):contF cs k=(if 3<(ct cs k).ds.length then (2:Nat) else first (needF (ct cs k).ds) (ct cs k).ds.length:Nat):=by
 unfold contF;rw [if_neg (by rw [h];decide),if_neg (by rw [h2];decide),if_neg (by rw [h3,h3'];decide),if_neg (by rw [h4,h4'];decide)]
theorem boxed (w:World) (x:Ct) (d:Value):(w.alloc (.cells #[.string x.nm,.int .i64 x.am,.int .i64 x.ab,.int .i64 x.cm,.int .i64 x.cb,d] 64)).cell? ⟨w.heap.size,0,none⟩=some (.string x.nm):=by simp
def BoxAt (W:World) (B:Nat) (x:Ct) (d:Value):Prop:=B<W.heap.size∧W.cell? ⟨B,0,none⟩=some (.string x.nm)∧W.cell? ⟨B,1,none⟩=some (.int .i64 x.am)∧W.cell? ⟨B,2,none⟩=some (.int .i64 x.ab)∧W.cell? ⟨B,3,none⟩=some (.int .i64 x.cm)∧W.cell? ⟨B,4,none⟩=some (.int .i64 x.cb)∧W.cell? ⟨B,5,none⟩=some d
theorem BoxAt.made (w:World) (x:Ct) (d:Value):BoxAt (w.alloc (.cells #[.string x.nm,.int .i64 x.am,.int .i64 x.ab,.int .i64 x.cm,.int .i64 x.cb,d] 64)) w.heap.size x d:=by
 refine ⟨by simp,by simp,by simp,by simp,by simp,by simp,by simp⟩
theorem BoxAt.below {W W':World} {B:Nat} {x:Ct} {d:Value} (h:BoxAt W B x d) (hb:Below W.heap.size W W'):BoxAt W' B x d:=by
 obtain ⟨h0,h1,h2,h3,h4,h5,h6⟩:=h
 exact ⟨Nat.lt_of_lt_of_le h0 hb.size,(hb.cell (p:=⟨B,0,none⟩) h0).trans h1,(hb.cell (p:=⟨B,1,none⟩) h0).trans h2,(hb.cell (p:=⟨B,2,none⟩) h0).trans h3,(hb.cell (p:=⟨B,3,none⟩) h0).trans h4,(hb.cell (p:=⟨B,4,none⟩) h0).trans h5,(hb.cell (p:=⟨B,5,none⟩) h0).trans h6⟩
theorem checkCont_any (b o c k:Nat) (cs:List Ct) (dv:Nat→Value) (w:World) (h:ConsIn w b o cs dv) (hk:k<cs.length) (hl:cs.length≤maxLen) :
  Calls Tryz.prog 48 #[.agg #[.string (ct cs k).nm,.int .i64 (ct cs k).am,.int .i64 (ct cs k).ab,.int .i64 (ct cs k).cm,.int .i64 (ct cs k).cb,dv k],.slice (some ⟨b,o,none⟩) k c] w fun e w'=>e=.returned (errV (contF cs k:Nat))∧Below w.heap.size w w':=by
 have hB0:=(Below.refl w.heap.size w).alloc (Nat.le_refl _) (.cells #[.string (ct cs k).nm,.int .i64 (ct cs k).am,.int .i64 (ct cs k).ab,.int .i64 (ct cs k).cm,.int .i64 (ct cs k).cb,dv k] 64)
 have HT:=hZz (has_twice b o c w.heap.size k cs dv _ (h.below hB0) hk hl (by simp) (boxed w (ct cs k) (dv k)))
 have HN:=hZz (h.2 k hk).2
 have HB0:=hZz hB0
 have H1:=hZz (@contF_1 cs k)
 have H2:=hZz (@contF_2 cs k)
 have H3:=hZz (@contF_3 cs k)
 have H4:=hZz (@contF_4 cs k)
 have H5:=hZz (@contF_5 cs k)
 clear h hk hl hB0
 generalize contF cs k=F at *
 generalize twice cs k=T at *
 generalize ct cs k=x at *
 generalize dv k=d at *
 rcases two (nameMay x.nm) with hn|hn
 ·rcases two T with ht|ht
  ·have he:=H2.out hn ht
   subst ht
   go_enter Tryz.func48,Tryz.ntmps48
   go_wp2_with fail
   refine (name_any _ _).mono ?_
   rintro e w1 ⟨rfl,rfl⟩
   rw [hn]
   go_wp2_with fail
   refine HT.out.mono ?_
   rintro e w1 ⟨rfl,hb1⟩
   go_wp2_with fail
   go_ret
   exact ⟨by rw [he];rfl,HB0.out.trans (hb1.mono HB0.out.size)⟩
  ·subst ht
   have K3:=hZz (H3.out hn rfl)
   have K4:=hZz (H4.out hn rfl)
   have K5:=hZz (H5.out hn rfl)
   clear H1 H2 H3 H4 H5
   go_enter Tryz.func48,Tryz.ntmps48
   go_wp2_with fail
   refine (name_any _ _).mono ?_
   rintro e w1 ⟨rfl,rfl⟩
   rw [hn]
   go_wp2_with fail
   refine HT.out.mono ?_
   rintro e w1 ⟨rfl,hb1⟩
   have HX1:=hZz ((BoxAt.made w x d).below hb1)
   have HB1:=hZz (HB0.out.trans (hb1.mono HB0.out.size))
   clear hb1 HT HB0
   generalize w.heap.size=B at HX1
   obtain ⟨l0,b0,b1,b2,b3,b4,b5⟩:=HX1.out
   go_wp2_with fail
   refine (bounded_anyQ _ _ _).mono ?_
   rintro e w2 ⟨rfl,hb2⟩
   have HX2:=hZz (HX1.out.below hb2)
   have HB2:=hZz (HB1.out.trans (hb2.mono HB1.out.size))
   clear hb2 HX1 HB1 l0 b0 b1 b2 b3 b4 b5
   rcases two (amtOk x.am x.ab) with ha|ha
   ·have K4:=hZz (K4.out ha)
    have K5:=hZz (K5.out ha)
    rw [ha]
    obtain ⟨l0,b0,b1,b2,b3,b4,b5⟩:=HX2.out
    go_wp2_with fail
    refine (bounded_anyQ _ _ _).mono ?_
    rintro e w3 ⟨rfl,hb3⟩
    have HX3:=hZz (HX2.out.below hb3)
    have HN3:=hZz (HN.out.below (HB2.out.trans (hb3.mono HB2.out.size)))
    have HB3:=hZz (HB2.out.trans (hb3.mono HB2.out.size))
    clear hb3 HX2 HB2 l0 b0 b1 b2 b3 b4 b5
    rcases two (amtOk x.cm x.cb) with hc|hc
    ·have K4:=hZz (K4.out hc)
     have K5:=hZz (K5.out hc)
     rw [hc]
     obtain ⟨l0,b0,b1,b2,b3,b4,b5⟩:=HX3.out
     go_wp2_with fail
     refine (beyond_any _ _ _).mono ?_
     rintro e w4 ⟨rfl,rfl⟩
     rcases two (over x.am x.cm) with h1|h1
     ·have he:=K4.out (.inl h1)
      rw [h1]
      go_wp2_with fail
      go_ret
      exact ⟨by rw [he];rfl,HB3.out⟩
     ·have K5:=hZz (K5.out h1)
      rw [h1]
      go_wp2_with fail
      refine (beyond_any _ _ _).mono ?_
      rintro e w4 ⟨rfl,rfl⟩
      rcases two (over x.ab x.cb) with h2|h2
      ·have he:=K4.out (.inr h2)
       rw [h2]
       go_wp2_with fail
       go_ret
       exact ⟨by rw [he];rfl,HB3.out⟩
      ·have HE:=hZz (K5.out h2)
       rw [h2]
       go_wp2_with fail
       refine (checkNeeds_any d x.ds _ HN3.out).mono ?_
       rintro e w5 ⟨rfl,hb5⟩
       rw [← HE.out]
       have HB5:=hZz (HB3.out.trans (hb5.mono HB3.out.size))
       clear hb5
       go_wp2_with fail
       go_ret
       exact ⟨rfl,HB5.out⟩
    ·have he:=K3.out (.inr hc)
     rw [hc]
     go_wp2_with fail
     go_ret
     exact ⟨by rw [he];rfl,HB3.out⟩
   ·have he:=K3.out (.inl ha)
    rw [ha]
    go_wp2_with fail
    go_ret
    exact ⟨by rw [he];rfl,HB2.out⟩
 ·have he:=H1.out hn
  go_enter Tryz.func48,Tryz.ntmps48
  go_wp2_with fail
  refine (name_any _ _).mono ?_
  rintro e w1 ⟨rfl,rfl⟩
  rw [hn]
  go_wp2_with fail
  go_ret
  exact ⟨by rw [he];rfl,HB0.out⟩
end
section
open Go.RowKit Go.Shelf
open Ost (splitC)
attribute [local go_sem] Oper.semAt_some
theorem Apart.drew (K:Nat→Prop) (W:World):Apart K W W.drew:=⟨rfl,rfl,rfl,Nat.le_refl _,fun _ _ _=>rfl⟩
end
section
open Go.RowKit Go.Shelf Go.Maps
attribute [local go_sem] Oper.semAt_some
theorem nameOf_inv {key:Value} {kl:Lit} (h:keyOf Tryz.prog 212 key=some kl):∃ cs:Array Value,key=.agg cs:=by
 unfold keyOf at h
 rw [Tryz.underlying212] at h
 simp only at h
 split at h
 ·rename_i hf
  cases key <;> simp [Value.formed,Tryz.underlying212] at hf
  exact ⟨_,rfl⟩
 ·cases h
theorem values1_in (F:Fence) (n:Nat) (h8:F.fn 154) (hro:F.round=none) (hn:1≤n) (l Bm b nn:Nat) (xs:List RV) (J Jx:List RV→World→Prop)
  (hY:∀ pre (x:RV) W,J pre W→pre.length<xs.length→YieldAt F (n - 1) Tryz.prog l #[.agg #[.string x.pod,.string x.cont,.int .u64 x.cpus,.slice x.da x.dn x.dc]] W fun e W'=>
   (e=.returned (.bool true)∧J (pre++[x]) W'∧KeepsWalks W W')∨(e=.returned (.bool false)∧Jx (pre++[x]) W'))
  (W:World) (hJ:AbidesFrom W.heap.size J) (hm:W.cell? ⟨Bm,0,none⟩=some (.map (some b))) (hown:MapR W b nn xs) (h0:J [] W) :
  CallsIn F n Tryz.prog 154 #[.func (.yield l) #[] #[],.pointer (some ⟨Bm,0,none⟩)] W fun e W'=>(∃ v,e=.returned v)∧
   ((∃ ys,ys.Perm xs∧J ys W')∨(∃ pre,True∧Jx pre W')):=by
 have hkn:=hown.keys
 obtain ⟨hsh,es,ho,he⟩:=hown
 have hsz:Maps.size (.map es:DataW Value)=xs.length:=by rw [Maps.size_eq,he.length_eq,ents,List.length_map]
 refine callsIn_of_wp Tryz.func154 rfl h8 ?_ hro
 simp only [Tryz.ntmps154,List.size_toArray,List.length_cons,List.length_nil,Nat.reduceAdd,Nat.reduceSub,Array.replicate_succ,Array.replicate_zero,List.push_toArray,List.append_toArray,List.nil_append,List.cons_append]
 gi_wp2_with (first
  | (gi_at_range;refine wpListIn_range_own _ rfl _ 131 rfl 212 154 keyN Tryz.underlying131 _ b nn _ rfl ho ?_;intro w0 hrg0 hg0 hs0)
  | gi_in)
 go_frame
 gi_loopw [4] (fun _ wr=>∃ (left:Lit→Bool) (cnt:Nat) (pre:List RV),wr.ranges Tryz.prog 212 rvElem b W.heap.size nn (.map es) left cnt∧pre.length+cnt≤xs.length∧Came left xs pre∧J pre wr)
  (fun _ wr=>wr.rangeLeft b W.heap.size)
 case atStart=>
  exact ⟨_,_,[],hrg0,by rw [hsz];simp,Came.start he,hJ [] W w0 none h0 hg0 (fun r e=>by cases e)⟩
 case round=>
  obtain ⟨left,cnt,pre,hrg,hcs,hC,hJs⟩:=hrel
  gi_wp2_with (first
   | (gi_at_next;refine wpListIn_next_ranges _ rfl _ rfl 212 keyN rvElem (fun cs:Array Value=>Value.agg cs) RV.val (fun key kl hk=>nameOf_inv hk) (fun v y hv=>by obtain ⟨c,rfl,_⟩:=rvElem_inv hv;exact ⟨c,rfl⟩) b W.heap.size nn _ _ _ rfl hrg ?_ ?_)
   | gi_in)
  ·intro hc0 hl0
   gi_wp2
   go_end0
   exact ⟨⟨_,rfl⟩,.inl ⟨pre,hC.finish hl0,hJs⟩⟩
  ·intro x c kl yd yp w2 cnt2 hkey hlk hv hat hrg2 hlt hg2 hs2 hen
   rw [rvElem_mk] at hv
   obtain ⟨rfl,rfl⟩:=Prod.mk.inj (Option.some.inj hv)
   obtain ⟨hC2,_⟩:=hC.step he hkn hlk hat
   have hJ2:J pre w2:=hJ pre wr w2 (some W.heap.size) hJs hg2 (fun r e=>by cases e;exact ⟨Nat.le_refl _,hrg.iter_walk⟩)
   have hJ3:J pre (w2.alloc (.cells #[.string c.pod,.string c.cont,.int .u64 c.cpus,.slice c.da c.dn c.dc] 154)):=hJ pre w2 _ none hJ2 (World.grownBy_alloc _ _ _) (fun r e=>by cases e)
   have hrg3:=hrg2.alloc (.cells #[.string c.pod,.string c.cont,.int .u64 c.cpus,.slice c.da c.dn c.dc] 154)
   obtain ⟨fn,tmps,assign,body,hy,hR⟩:=hY pre c _ hJ3 (by omega)
   clear hs2 hv
   unfold RV.val at hen ⊢
   gi_wp2
   refine hR.mono ?_
   rintro e W3 (⟨rfl,hJ4,hk3⟩|⟨rfl,hJx3⟩)
   ·have hrg4:=hrg3.of_walks hk3
    have HC2:=hZz hC2
    have HLT:=hZz hlt
    clear hC2 hat hen hy hR
    gi_wp2
    go_roundw
    case rel=>exact ⟨_,cnt2,pre++[c],hrg4,by simp;omega,HC2.out,hJ4⟩
    case measure=>rw [hrg4.left_eq,hrg.left_eq];exact HLT.out
   ·clear hen hy hR
    gi_wp2
    refine bodyPost_ret (results_none rfl _ _ _) rfl ?_
    exact ⟨⟨_,rfl⟩,.inr ⟨_,trivial,hJx3⟩⟩
theorem values_any (m:Option Nat) (w:World) :
  Calls Tryz.prog 117 #[.map m] w fun e w'=>e=.returned (.func (.func 154) #[] #[.pointer (some ⟨w.heap.size,0,none⟩)])∧w'=w.alloc (.cells #[.map m] 131):=by
 go_enter Tryz.func117,Tryz.ntmps117
 go_wp2_with fail
 go_ret
 exact ⟨rfl,rfl⟩
def encR (x:RV):Array Value:=#[.agg #[.string x.pod,.string x.cont,.int .u64 x.cpus,.slice x.da x.dn x.dc]]
theorem values_stops (F:Fence) (n:Nat) (h8:F.fn 154) (hro:F.round=none) (hn:1≤n) (Bm b nn:Nat) (xs:List RV) (w:World) (hBm:Bm<w.heap.size) (hm:w.cell? ⟨Bm,0,none⟩=some (.map (some b))) (hown:MapR w b nn xs) :
  SeqStopsK F n Tryz.prog 154 #[.pointer (some ⟨Bm,0,none⟩)] encR KeepsWalks (fun ys=>ys.Perm xs) (fun _=>True) xs.length w:=fun l J Jx W hW hJ _ hY h0=>
 values1_in F n h8 hro hn l Bm b nn xs J Jx hY W hJ ((hW.cell (p:=⟨Bm,0,none⟩) hBm).trans hm) (hown.block (hW.block b hown.lt)) h0
def RRow (base:Nat) (w:World) (v:Value) (ys:List RV):Prop:=w.ownsRow base 154 4 v ys.length (ys.flatMap RV.cells)
theorem infoRun:(Tryz.prog.info? 154).map (fun i=>(i.zero,i.size,i.bytes))=some (some (.agg #[.string ByteArray.empty,.string ByteArray.empty,.int .u64 0,.slice none 0 0]),4,64):=by kernel_rfl
theorem new_run (w:World) (x:RV) (t:TypeId):∀ j u,(RV.cells x)[j]?=some u→(w.alloc (.cells #[.string x.pod,.string x.cont,.int .u64 x.cpus,.slice x.da x.dn x.dc] t)).cell? ((⟨w.heap.size,0,none⟩:Addr).add j)=some u:=by
 intro j u hu
 rw [Addr.add_lit,Nat.zero_add]
 match j,hu with
 | 0,hu=>simp [RV.cells] at hu;subst hu;simp
 | 1,hu=>simp [RV.cells] at hu;subst hu;simp
 | 2,hu=>simp [RV.cells] at hu;subst hu;simp
 | 3,hu=>simp [RV.cells] at hu;subst hu;simp
 | n+4,hu=>simp [RV.cells] at hu
theorem RRow.push {base:Nat} {w:World} {v:Value} {ys:List RV} {x:RV} (h:w.ownsRow base 154 4 v (ys.length+1) (ys.flatMap RV.cells++RV.cells x)):RRow base w v (ys++[x]):=by
 unfold RRow
 rw [List.length_append,List.flatMap_append]
 simpa using h
theorem appendSeq_any (Bm b nn:Nat) (xs:List RV) (w:World) (hm:w.cell? ⟨Bm,0,none⟩=some (.map (some b))) (hown:MapR w b nn xs) (hl:xs.length≤1000) :
  Calls Tryz.prog 189 #[.slice none 0 0,.func (.func 154) #[] #[.pointer (some ⟨Bm,0,none⟩)]] w fun e w'=>(∃ v ys,e=.returned v∧ys.Perm xs∧RRow w.heap.size w' v ys)∧Below w.heap.size w w':=by
 obtain ⟨i0,hi,hz0,hz1,hz2⟩:=info_parts infoRun
 refine (callsIn_wide (n:=3)).1 ?_
 refine callsIn_of_wp_marks Tryz.func189 rfl trivial ?_ rfl
 simp only [Tryz.ntmps189,List.size_toArray,List.length_cons,List.length_nil,Nat.reduceAdd,Nat.reduceSub,Array.replicate_succ,Array.replicate_zero,List.push_toArray,List.append_toArray,List.nil_append,List.cons_append]
 gi_wp2_with fail
 have hBmlt:=World.block_lt_of_cell? w _ hm
 have HB0:=hZz ((Below.refl w.heap.size w).alloc (Nat.le_refl _) (.cells #[.slice none 0 0] 150))
 have HSEQ:=hZz (values_stops Fence.wide (3 - 1) trivial rfl (by omega) Bm b nn xs (w.alloc (.cells #[.slice none 0 0] 150)) (by simp;exact Nat.lt_succ_of_lt hBmlt) ((HB0.out.cell (p:=⟨Bm,0,none⟩) hBmlt).trans hm) (hown.block (HB0.out.block b hown.lt)))
 have HX0:=hZz (Boxed.new w 150 (.slice none 0 0))
 have hsA:(w.alloc (.cells #[.slice none 0 0] 150)).heap.size=w.heap.size+1:=by simp
 generalize w.alloc (.cells #[.slice none 0 0] 150)=A at *
 refine wpIn_rangeFunc_ownH (α:=RV) rfl (by omega) (gf:=154) (lb:=#[.pointer (some ⟨Bm,0,none⟩)]) rfl trivial (enters_of Tryz.func154 (by kernel_rfl) rfl)
  HSEQ.out walksK_t walksK_b (Below.refl _ _) (fun _=>rfl)
  (fun pre W=>(∃ v,Boxed W w.heap.size 150 v∧W.ownsRow w.heap.size 154 4 v pre.length (pre.flatMap RV.cells)∧True)∧Below w.heap.size w W)
  (fun _ _ _=>False)
  (OwnFrom.and (Own.from (holdsRow_own w.heap.size w.heap.size 150 154 4 (fun pre:List RV=>pre.length) (fun pre=>pre.flatMap RV.cells) (fun _ _=>True)) _) (ownFrom_below (Nat.le_refl _) (by omega)))
  (fun _ _ _ _ _ hs _ _=>hs)
  ⟨⟨_,HX0.out,World.ownsRow_nil _ _ _ _,trivial⟩,HB0.out⟩
  (fun x a' W=>∃ Bx,A.heap.size≤Bx∧W.heap[Bx]?=some (.cells #[.string x.pod,.string x.cont,.int .u64 x.cpus,.slice x.da x.dn x.dc] 154 (0,0))∧a'={ tmps:=#[Value.slice none 0 0,Value.func (Fn.func 154) #[] #[Value.pointer (some { block:=Bm,off:=0 })],Value.pointer (some { block:=w.heap.size,off:=0 }),undef,Value.slice none 0 0,.pointer (some ⟨Bx,0,none⟩),Value.func (Fn.func 154) #[] #[Value.pointer (some { block:=Bm,off:=0 })],.agg #[.string x.pod,.string x.cont,.int .u64 x.cpus,.slice x.da x.dn x.dc],undef,undef,undef,undef,undef],defers:=[] })
  (fun x a'=>Own.from (fun u W W' row hs hg hr=>by
   obtain ⟨Bx,h1,h2,h3⟩:=hs
   refine ⟨Bx,h1,(hg.block Bx (Array.getElem?_eq_some_iff.1 h2).1 (fun e=>?_)).trans h2,h3⟩
   obtain ⟨o,ho,hc⟩:=hr Bx e.symm
   rw [h2] at ho
   cases ho
   cases hc) _) ?assign ?body ?done ?stop
 case assign=>
  rintro l pre x W K ⟨⟨v,hbx,hrow,_⟩,hB⟩ hK
  have HK:=hZz hK
  clear hK
  unfold encR
  gi_wp2_with fail
  exact HK.out _ _ ((KeepsOthers.alloc _ _).from _) (KeepsWalks.alloc _ _) ⟨⟨v,hbx.alloc _,hrow.alloc _,trivial⟩,hB.alloc hB.size _⟩ ⟨W.heap.size,by have:=hbx.lt;have:=hB.size;omega,World.alloc_heap_new W _,rfl⟩
 case body=>
  rintro l pre x a' W hl0 ⟨r,hr⟩ ⟨⟨v,hbx,hrow,_⟩,hB⟩ ⟨Bx,hBx,hpx,rfl⟩ hlt
  have c0:W.cell? ⟨Bx,0,none⟩=some (.string x.pod):=by simp [World.cell?,hpx]
  have c1:W.cell? ⟨Bx,1,none⟩=some (.string x.cont):=by simp [World.cell?,hpx]
  have c2:W.cell? ⟨Bx,2,none⟩=some (.int .u64 x.cpus):=by simp [World.cell?,hpx]
  have c3:W.cell? ⟨Bx,3,none⟩=some (.slice x.da x.dn x.dc):=by simp [World.cell?,hpx]
  have hcb:=hbx.cell
  have HN:=hZz (new_run W x 154)
  have HROW:=hZz hrow
  have HBX:=hZz hbx
  have HB:=hZz hB
  have hpl:pre.length≤1000:=by omega
  clear hrow hbx hB hpx hr
  gi_wp2_with (gi_at_builtin;refine wpListIn_append_own _ rfl _ _ 150 rfl w.heap.size 154 i0 (.agg #[.string ByteArray.empty,.string ByteArray.empty,.int .u64 0,.slice none 0 0]) 4 64 Tryz.underlying150 hi hz0 hz1 hz2 rfl (by decide) _ _ _ rfl (HROW.out.alloc _) ⟨W.heap.size,0,none⟩ 1 1 (RV.cells x) rfl rfl HN.out (by intro u hu;simp [RV.cells] at hu;rcases hu with rfl|rfl|rfl|rfl <;> rfl) (by unfold maxLen;omega) (by omega) (by have:=HB.out.size;simp;omega) ?_;intro v' w1 hown' hgrow _;obtain ⟨g',cap',rfl⟩:=ownsRow_succ hown';obtain ⟨hv1,hv2,hr2,hk2,hb2⟩:=HBX.out.appended (by decide) HROW.out HB.out.size (Nat.le_refl _) hown' hgrow;have hc1:=hv1.cell;have hf1:=hv1.frozen)
  exact ⟨hk2.from _,⟨hk2.size,fun k o hk ho=>hk2.same k o hk (Obj.not_cells_of_walk ho)⟩,⟨_,hv2,RRow.push hr2⟩,HB.out.trans hb2⟩
 case done=>
  rintro D ys W hD hp ⟨⟨v,hbx,hrow,_⟩,hB⟩ hK
  have hc:=hbx.cell
  have HROW:=hZz hrow
  have HB:=hZz hB
  clear hrow hbx hB
  gi_wp2_with fail
  refine ⟨by simp,.inl ⟨_,_,rfl,run_takeDeferred hK,?_⟩⟩
  refine ⟨_,results_tmp rfl _ _ _,?_⟩
  exact ⟨⟨v,rfl,ys,hp,ownsRow_putObj HROW.out _ hK rfl⟩,HB.out.trans (belowK_b (w:=w) (Nat.le_refl _) _ D _ _ (by omega) hK rfl rfl)⟩
 case stop=>exact fun _ _ _ _ _ _ h _=>h.elim
theorem RRow.slice {base:Nat} {w:World} {v:Value} {ys:List RV} (h:RRow base w v ys):∃ a c,v=.slice a ys.length c∧ys.length≤c:=by
 rcases h.2 with ⟨hv,hn⟩|⟨g,cap,cur,hv,_,_,hc1,_⟩
 ·exact ⟨none,0,by rw [hv,hn],by omega⟩
 ·exact ⟨_,cap,hv,hc1⟩
theorem collect_any (Bm b nn:Nat) (xs:List RV) (w:World) (hm:w.cell? ⟨Bm,0,none⟩=some (.map (some b))) (hown:MapR w b nn xs) (hl:xs.length≤1000) :
  Calls Tryz.prog 152 #[.func (.func 154) #[] #[.pointer (some ⟨Bm,0,none⟩)]] w fun e w'=>(∃ v ys,e=.returned v∧ys.Perm xs∧RRow w.heap.size w' v ys)∧Below w.heap.size w w':=by
 have HA:=hZz (appendSeq_any Bm b nn xs w hm hown hl)
 clear hm hown
 go_enter Tryz.func152,Tryz.ntmps152
 go_wp2_with fail
 refine HA.out.mono ?_
 rintro e w1 ⟨⟨v,ys,rfl,hp,hr⟩,hb⟩
 have HR:=hZz hr
 have HP:=hZz hp
 have HB:=hZz hb
 obtain ⟨a,c,rfl,_⟩:=hr.slice
 clear hr hp hb
 go_wp2_with fail
 go_ret
 exact ⟨⟨_,ys,rfl,HP.out,HR.out⟩,HB.out⟩
end
end Go.Proofs.YtbfdcmodflnkfaaGreatDoor
