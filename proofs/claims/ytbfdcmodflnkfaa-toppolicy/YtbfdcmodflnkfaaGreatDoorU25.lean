/- VD5, VD9, VD6, VD7 -/
import Derived.Test.YtbfdcmodflnkfaaGreatDoorU24
set_option maxRecDepth 100000
set_option maxHeartbeats 16000000
namespace Go.Proofs.YtbfdcmodflnkfaaGreatDoor
section
open Go.RowKit
theorem apply_no (B:Nat) (n k:Sd) (v:Value) (l:Int) (d:Bool) (wr:Bool) (bs:ByteArray) (w:World) (h:DiskW w B n k v l d) (hl:-9223372036854775808≤l∧l≤9223372036854775807) (h0:stepE l d=11) :
  Calls Tryz.prog 114 #[.pointer (some ⟨B,0,none⟩),.agg #[.bool wr,.string bs]] w fun e w'=>e=.returned (.iface 94 (.int .i64 11))∧DiskW w' B n k v (stepN l d) true∧w.grownBy w' (some B):=by
 have hlt:=h.lt
 have hba:=(Below.refl w.heap.size w).alloc (Nat.le_refl _) (.cells #[.bool wr,.string bs] 206)
 have hD0:=h.block (w':=w.alloc (.cells #[.bool wr,.string bs] 206)) (hba.block B hlt)
 have HST:=hZz (stepW_any B n k _ l d _ hD0 hl)
 have hF:stepF l d=true:=by
  rcases step_two l d with ⟨_,e2⟩|⟨e1,_⟩
  ·exact e2
  ·rw [h0] at e1;cases e1
 rw [h0,hF,errV_11] at HST
 have HBA:=hZz hba
 clear h hD0 hF h0 hba hlt
 go_enter Tryz.func114,Tryz.ntmps114
 go_wp2_with fail
 refine HST.out.mono ?_
 rintro e w1 ⟨rfl,h1,ho1⟩
 have HG1:=hZz (grown_trans ⟨HBA.out.os,HBA.out.tape,HBA.out.output,HBA.out.size,fun j hj _=>HBA.out.block j hj⟩ ho1.1)
 have H1:=hZz h1
 clear h1 ho1 HST HBA
 go_wp2_with fail
 go_ret
 exact ⟨rfl,H1.out,HG1.out⟩
theorem write_many (B:Nat) (s:ByteArray) (w:World) (hs:6000<s.size) (hs2:s.size≤maxLen) :
  Calls Tryz.prog 70 #[.pointer (some ⟨B,0,none⟩),.string s] w fun e w'=>e=.returned (.iface 94 (.int .i64 2))∧w'=w:=by
 unfold maxLen at hs2
 go_enter Tryz.func70,Tryz.ntmps70
 go_wp2_with fail
 go_ret
 exact ⟨rfl,rfl⟩
theorem write_yes (B:Nat) (n k:Sd) (l:Int) (d:Bool) (s:ByteArray) (w:World) (h:DiskW w B n k (.slice none 0 0) l d) (hl:-9223372036854775808≤l∧l≤9223372036854775807) (h0:stepE l d=0) (hs:s.size≤6000) :
  Calls Tryz.prog 70 #[.pointer (some ⟨B,0,none⟩),.string s] w fun e w'=>e=.returned .nilIface∧Waits w w' B (Chg.on ⟨true,s⟩ n) k (stepN l d) true s∧w.grownBy w' (some B):=by
 have HA:=hZz (apply_yes B n k l d true s w h hl h0)
 clear h h0
 go_enter Tryz.func70,Tryz.ntmps70
 go_wp2_with fail
 refine HA.out.mono ?_
 rintro e w1 ⟨rfl,h1,h2⟩
 have H1:=hZz h1
 have H2:=hZz h2
 clear h1 h2 HA
 go_wp2_with fail
 go_ret
 exact ⟨rfl,H1.out,H2.out⟩
theorem write_no (B:Nat) (n k:Sd) (v:Value) (l:Int) (d:Bool) (s:ByteArray) (w:World) (h:DiskW w B n k v l d) (hl:-9223372036854775808≤l∧l≤9223372036854775807) (h0:stepE l d=11) (hs:s.size≤6000) :
  Calls Tryz.prog 70 #[.pointer (some ⟨B,0,none⟩),.string s] w fun e w'=>e=.returned (.iface 94 (.int .i64 11))∧DiskW w' B n k v (stepN l d) true∧w.grownBy w' (some B):=by
 have HA:=hZz (apply_no B n k v l d true s w h hl h0)
 clear h h0
 go_enter Tryz.func70,Tryz.ntmps70
 go_wp2_with fail
 refine HA.out.mono ?_
 rintro e w1 ⟨rfl,h1,h2⟩
 have H1:=hZz h1
 have H2:=hZz h2
 clear h1 h2 HA
 go_wp2_with fail
 go_ret
 exact ⟨rfl,H1.out,H2.out⟩
theorem move_yes (B:Nat) (n k:Sd) (l:Int) (d:Bool) (w:World) (h:DiskW w B n k (.slice none 0 0) l d) (hl:-9223372036854775808≤l∧l≤9223372036854775807) (h0:stepE l d=0) (hn:n.dt=true) :
  Calls Tryz.prog 72 #[.pointer (some ⟨B,0,none⟩)] w fun e w'=>e=.returned .nilIface∧Waits w w' B (Chg.on ⟨false,⟨#[]⟩⟩ n) k (stepN l d) false ⟨#[]⟩∧w.grownBy w' (some B):=by
 have HA:=hZz (apply_yes B n k l d false ⟨#[]⟩ w h hl h0)
 obtain ⟨_,_,c2,_⟩:=h.now
 rw [hn] at c2
 clear h h0 hn
 go_enter Tryz.func72,Tryz.ntmps72
 go_wp2_with fail
 refine HA.out.mono ?_
 rintro e w1 ⟨rfl,h1,h2⟩
 have H1:=hZz h1
 have H2:=hZz h2
 clear h1 h2 HA
 go_wp2_with fail
 go_ret
 exact ⟨rfl,H1.out,H2.out⟩
theorem move_no (B:Nat) (n k:Sd) (v:Value) (l:Int) (d:Bool) (w:World) (h:DiskW w B n k v l d) (hl:-9223372036854775808≤l∧l≤9223372036854775807) (h0:stepE l d=11) (hn:n.dt=true) :
  Calls Tryz.prog 72 #[.pointer (some ⟨B,0,none⟩)] w fun e w'=>e=.returned (.iface 94 (.int .i64 11))∧DiskW w' B n k v (stepN l d) true∧w.grownBy w' (some B):=by
 have HA:=hZz (apply_no B n k v l d false ⟨#[]⟩ w h hl h0)
 obtain ⟨_,_,c2,_⟩:=h.now
 rw [hn] at c2
 clear h h0 hn
 go_enter Tryz.func72,Tryz.ntmps72
 go_wp2_with fail
 refine HA.out.mono ?_
 rintro e w1 ⟨rfl,h1,h2⟩
 have H1:=hZz h1
 have H2:=hZz h2
 clear h1 h2 HA
 go_wp2_with fail
 go_ret
 exact ⟨rfl,H1.out,H2.out⟩
end
section
open Go.RowKit
end
section
open Go.RowKit
end
section
open Go.RowKit
end
end Go.Proofs.YtbfdcmodflnkfaaGreatDoor
