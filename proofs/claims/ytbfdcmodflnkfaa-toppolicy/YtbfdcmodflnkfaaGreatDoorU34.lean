/- QW6 -/
import Derived.Test.YtbfdcmodflnkfaaGreatDoorU33
set_option maxRecDepth 100000
set_option maxHeartbeats 16000000
namespace Go.Proofs.YtbfdcmodflnkfaaGreatDoor
section
open Go.RowKit
open Qos (Nd Ct Pd nd0 ct0 pd0 nd ct pd silent certain classOf quiet sure sumM sumB Mild ownOf)
def PBoxAt (W:World) (B:Nat) (p:Pd) (cv:Value):Prop:=B<W.heap.size∧W.cell? ⟨B,0,none⟩=some (.string p.nm)∧W.cell? ⟨B,1,none⟩=some (.int .i64 p.pr)∧W.cell? ⟨B,2,none⟩=some cv
theorem ConsAt.slice {w:World} {v:Value} {cs:List Ct} (h:ConsAt w v cs):∃ a n c,v=.slice a n c:=by
 obtain ⟨a,c,h,_⟩:=h
 exact ⟨a,_,c,h⟩
theorem own_any (p:Pd) (cv:Value) (x:Ct) (da:Option Addr) (dn dc:Nat) (w:World) (h:ConsAt w cv p.cs) (h0:0≤x.am) (h1:x.am≤1000000) :
  Calls Tryz.prog 63 #[podV p cv,.agg #[.string x.nm,.int .i64 x.am,.int .i64 x.ab,.int .i64 x.cm,.int .i64 x.cb,.slice da dn dc]] w fun e w'=>e=.returned (.int .i64 (ownOf p.cs x.am))∧Below w.heap.size w w':=by
 have hs:=h.slice
 unfold podV
 have HB0:=hZz (((Below.refl w.heap.size w).alloc (Nat.le_refl _) (.cells #[.string p.nm,.int .i64 p.pr,cv] 31)).alloc (by simp) (.cells #[.string x.nm,.int .i64 x.am,.int .i64 x.ab,.int .i64 x.cm,.int .i64 x.cb,.slice da dn dc] 64))
 have HX:=BoxAt.made (w.alloc (.cells #[.string p.nm,.int .i64 p.pr,cv] 31)) x (.slice da dn dc)
 rw [show (w.alloc (.cells #[.string p.nm,.int .i64 p.pr,cv] 31)).heap.size=w.heap.size+1 by simp] at HX
 have HX:=hZz HX
 have HC:=hZz (class_any p cv _ (h.below HB0.out))
 have e1:x.am.tmod 1000=x.am % 1000:=Int.tmod_eq_emod_of_nonneg h0
 have e2:x.am.tdiv 1000=x.am / 1000:=Int.tdiv_eq_ediv_of_nonneg h0
 have HO:Hid (ownOf p.cs x.am=if classOf p.cs=3∧x.am % 1000=0 then x.am / 1000 else 0):=rfl
 unfold podV at HC
 obtain ⟨pa,pn,pc,rfl⟩:=hs
 generalize classOf p.cs=K at *
 generalize ownOf p.cs x.am=R at *
 clear h
 by_cases hk:K=3
 ·subst hk
  by_cases hm:x.am % 1000=0
  ·have hm':x.am.tmod 1000=0:=by rw [e1];exact hm
   have HO':=hZz (HO.out.trans (if_pos ⟨rfl,hm⟩))
   clear HO
   go_enter Tryz.func63,Tryz.ntmps63
   go_wp2_with fail
   refine HC.out.mono ?_
   rintro e w1 ⟨rfl,hb1⟩
   obtain ⟨l0,b0,b1,_⟩:=HX.out.below hb1
   have HB1:=hZz (HB0.out.trans (hb1.mono HB0.out.size))
   clear hb1 HX HB0
   go_wp2_with fail
   go_ret
   exact ⟨by rw [HO'.out];rfl,HB1.out⟩
  ·have hm':(x.am % 1000 != 0)=true:=by simp [hm]
   have HO':=hZz (HO.out.trans (if_neg (fun h=>hm h.2)))
   clear HO
   go_enter Tryz.func63,Tryz.ntmps63
   go_wp2_with fail
   refine HC.out.mono ?_
   rintro e w1 ⟨rfl,hb1⟩
   obtain ⟨l0,b0,b1,_⟩:=HX.out.below hb1
   have HB1:=hZz (HB0.out.trans (hb1.mono HB0.out.size))
   clear hb1 HX HB0
   go_wp2_with fail
   go_ret
   exact ⟨by rw [HO'.out];rfl,HB1.out⟩
 ·have HO':=hZz (HO.out.trans (if_neg (fun h=>hk h.1)))
  clear HO
  go_enter Tryz.func63,Tryz.ntmps63
  go_wp2_with fail
  refine HC.out.mono ?_
  rintro e w1 ⟨rfl,hb1⟩
  obtain ⟨l0,b0,b1,_⟩:=HX.out.below hb1
  have HB1:=hZz (HB0.out.trans (hb1.mono HB0.out.size))
  clear hb1 HX HB0
  go_wp2_with fail
  go_ret
  exact ⟨by rw [HO'.out];rfl,HB1.out⟩
end
end Go.Proofs.YtbfdcmodflnkfaaGreatDoor
