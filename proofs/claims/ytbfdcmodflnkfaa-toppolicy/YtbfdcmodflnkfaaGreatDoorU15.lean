/- MW1b -/
import Derived.Test.YtbfdcmodflnkfaaGreatDoorU9
set_option maxRecDepth 100000
set_option maxHeartbeats 16000000
namespace Go.Proofs.YtbfdcmodflnkfaaGreatDoor
section
open Go.RowKit
open Ost (Hi Wi wi0 Low withL bet pop8)
theorem betterH_any (a b:Hi) (w:World) (ha:a.1<256) (hb:b.1<256) :
  Calls Tryz.prog 132 #[vH a,vH b] w fun e w'=>e=.returned (.bool (bet a b))∧Below w.heap.size w w':=by
 obtain ⟨m,g⟩:=a
 obtain ⟨n,f⟩:=b
 simp only at ha hb
 unfold vH
 have HB:Hid (Below w.heap.size w ((w.alloc (.cells #[.int .u8 (m:Nat),.bool g] 181)).alloc (.cells #[.int .u8 (n:Nat),.bool f] 181))):=((Below.refl _ _).alloc (Nat.le_refl _) _).alloc (by simp) _
 have HP:=hZz (fun w=>nodesH_any m w ha)
 have HQ:=hZz (fun w=>nodesH_any n w hb)
 obtain ⟨r,hr⟩:∃ r,r=bet (m,g) (n,f):=⟨_,rfl⟩
 rw [← hr]
 have HR:=hZz hr
 clear hr
 go_enter Tryz.func132,Tryz.ntmps132
 rcases two (g != f) with hgf|hgf
 ·have hR:Hid (g=r):=by unfold Hid;rw [HR.out];unfold bet;rw [if_pos hgf]
  have hgf2:(!g == f)=true:=hgf
  clear hgf
  go_wp2_with fail
  go_ret
  exact ⟨congrArg (fun b=>Ending.returned (.bool b)) hR.out,HB.out⟩
 ·have hgf2:(!g == f)=false:=hgf
  have hp8:=Ost.pop8_le m
  have hq8:=Ost.pop8_le n
  go_wp2_with fail
  have k0:((w.alloc (.cells #[.int .u8 (m:Nat),.bool g] 181)).alloc (.cells #[.int .u8 (n:Nat),.bool f] 181)).cell? ⟨w.heap.size,0,none⟩=some (.int .u8 (m:Nat)):=by go_simp
  have k1:((w.alloc (.cells #[.int .u8 (m:Nat),.bool g] 181)).alloc (.cells #[.int .u8 (n:Nat),.bool f] 181)).cell? ⟨w.heap.size+1,0,none⟩=some (.int .u8 (n:Nat)):=by go_simp
  generalize ((w.alloc (.cells #[.int .u8 (m:Nat),.bool g] 181)).alloc (.cells #[.int .u8 (n:Nat),.bool f] 181))=W at *
  by_cases hpq:pop8 m=pop8 n
  ·have hR:Hid (decide (m<n)=r):=by
    unfold Hid;rw [HR.out];unfold bet;rw [if_neg (by rw [hgf];simp),if_neg (by simp [hpq])]
   have hpq2:((pop8 m:Int) == (pop8 n:Int))=true:=by rw [beq_iff_eq];omega
   clear hgf hpq HR
   generalize pop8 m=x at *
   generalize pop8 n=y at *
   go_region_with (go_at_call 25;go_loud (first|(refine (HP.out _).mono ?_;rintro e w5 ⟨rfl,hw5⟩;subst w5)|(refine (HQ.out _).mono ?_;rintro e w5 ⟨rfl,hw5⟩;subst w5)))
   all_goals
    go_wp2_with fail
    go_ret
    exact ⟨congrArg (fun b=>Ending.returned (.bool b)) hR.out,below_drewN HB.out _⟩
  ·have hR:Hid (decide (pop8 m<pop8 n)=r):=by
    unfold Hid;rw [HR.out];unfold bet;rw [if_neg (by rw [hgf];simp),if_pos (by simpa using hpq)]
   have hpq2:((pop8 m:Int) == (pop8 n:Int))=false:=by rw [beq_eq_false_iff_ne];omega
   clear hgf hpq HR
   generalize pop8 m=x at *
   generalize pop8 n=y at *
   go_region_with (go_at_call 25;go_loud (first|(refine (HP.out _).mono ?_;rintro e w5 ⟨rfl,hw5⟩;subst w5)|(refine (HQ.out _).mono ?_;rintro e w5 ⟨rfl,hw5⟩;subst w5)))
   all_goals
    go_wp2_with fail
    go_region_with (go_at_call 25;go_loud (first|(refine (HP.out _).mono ?_;rintro e w5 ⟨rfl,hw5⟩;subst w5)|(refine (HQ.out _).mono ?_;rintro e w5 ⟨rfl,hw5⟩;subst w5)))
    all_goals
     go_wp2_with fail
     go_ret
     exact ⟨congrArg (fun b=>Ending.returned (.bool b)) hR.out,below_drewN (below_drewN HB.out _) _⟩
end
end Go.Proofs.YtbfdcmodflnkfaaGreatDoor
