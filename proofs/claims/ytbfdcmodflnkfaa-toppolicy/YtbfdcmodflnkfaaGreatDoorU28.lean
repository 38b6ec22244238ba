/- VK1, VK2 -/
import Derived.Test.YtbfdcmodflnkfaaGreatDoorU23
import Derived.Test.YtbfdcmodflnkfaaGreatDoorU27
set_option maxRecDepth 100000
set_option maxHeartbeats 16000000
namespace Go.Proofs.YtbfdcmodflnkfaaGreatDoor
section
open Go.RowKit Go.Shelf
open Sv (Gv Hd gv hd wd Tx sumTxt heldTxt heldF body readS)
open S1 (Mx Tab)
structure Dk where
 n:Sd
 k:Sd
 wt:Option Chg
 l:Int
 d:Bool
def DkAt (W:World) (B:Nat) (s:Dk):Prop:=(-9223372036854775808≤s.l∧s.l≤9223372036854775807)∧∃ v,DiskW W B s.n s.k v s.l s.d∧
 match s.wt with
 | none=>v=.slice none 0 0
 | some c=>∃ g cap,v=.slice (some ⟨g,0,none⟩) 1 cap∧1≤cap∧g≠B∧ChgAt W g c.wr c.bs
theorem DkAt.lt {W:World} {B:Nat} {s:Dk} (h:DkAt W B s):B<W.heap.size:=by
 obtain ⟨_,v,h,_⟩:=h
 exact h.lt
theorem DkAt.below {W W':World} {B:Nat} {s:Dk} (h:DkAt W B s) (hb:Below W.heap.size W W'):DkAt W' B s:=by
 obtain ⟨h0,v,h1,h2⟩:=h
 refine ⟨h0,v,h1.block (hb.block B h1.lt),?_⟩
 cases hw:s.wt with
 | none=>rw [hw] at h2;exact h2
 | some c=>
  rw [hw] at h2
  obtain ⟨g,cap,e,hc,hg,hch⟩:=h2
  exact ⟨g,cap,e,hc,hg,hch.block (hb.block g hch.1)⟩
def Dk.fresh:Dk:=⟨⟨false,⟨#[]⟩,false,⟨#[]⟩⟩,⟨false,⟨#[]⟩,false,⟨#[]⟩⟩,none,-1,false⟩
theorem diskNew_any (w:World):Calls Tryz.prog 26 #[] w fun e w'=>e=.returned (.pointer (some ⟨w.heap.size,0,none⟩))∧DkAt w' w.heap.size Dk.fresh∧Below w.heap.size w w':=by
 go_enter Tryz.func26,Tryz.ntmps26
 go_wp2_with fail
 go_ret
 exact ⟨rfl,⟨⟨by decide,by decide⟩,_,World.alloc_heap_new w _,rfl⟩,(Below.refl _ _).alloc (Nat.le_refl _) _⟩
theorem DkAt.only {W W':World} {B:Nat} {s s':Dk} (h:DkAt W B s) (ho:W.grownBy W' (some B)) (he:s'.wt=s.wt) (hl:-9223372036854775808≤s'.l∧s'.l≤9223372036854775807) (hd:∀ v,DiskW W B s.n s.k v s.l s.d→DiskW W' B s'.n s'.k v s'.l s'.d):DkAt W' B s':=by
 obtain ⟨_,v,h1,h2⟩:=h
 refine ⟨hl,v,hd v h1,?_⟩
 rw [he]
 cases hw:s.wt with
 | none=>rw [hw] at h2;exact h2
 | some c=>
  rw [hw] at h2
  obtain ⟨g,cap,e,hc,hg,hch⟩:=h2
  exact ⟨g,cap,e,hc,hg,hch.block (ho.block g hch.1 (fun e=>hg (by injection e with e)))⟩
theorem eql_err (w:World) (i j:Int):Sem.run Tryz.prog (binOp .eql 44 (.iface 94 (.int .i64 i)) (.iface 94 (.int .i64 j))) w=.ok (.bool (i == j)) w:=by
 rfl
def Dk.load (s:Dk):Nat × List Hd:=if s.d=true then (11,[]) else if s.n.ft=true then Sv.parseS s.n.fb.data.toList else (0,[])
end
section
open Go.RowKit Go.Shelf
open Sv (Gv Hd gv hd wd Tx sumTxt heldTxt heldF body readS)
open S1 (Mx Tab)
def Dk.fall (s:Dk):Dk:={ s with l:=stepN s.l s.d,d:=true }
def Dk.apply (s:Dk) (c:Chg):Nat × Dk:=if stepE s.l s.d=0 then (0,⟨c.on s.n,s.k,some c,stepN s.l s.d,false⟩) else (11,s.fall)
def Dk.sync (s:Dk):Nat × Dk:=if stepE s.l s.d=0 then (0,⟨s.n,s.n,none,stepN s.l s.d,false⟩) else (11,s.fall)
def Dk.write (s:Dk) (t:ByteArray):Nat × Dk:=if 6000<t.size then (2,s) else s.apply ⟨true,t⟩
theorem stepN_in {l:Int} {d:Bool} (h:-9223372036854775808≤l∧l≤9223372036854775807):-9223372036854775808≤stepN l d∧stepN l d≤9223372036854775807:=by
 unfold stepN
 split
 ·exact h
 ·split <;> omega
theorem stepE_no {l:Int} {d:Bool} (h:stepE l d≠0):stepE l d=11∧stepF l d=true:=by
 rcases step_two l d with h1|h1
 ·exact h1
 ·exact absurd h1.1 h
theorem DkAt.fall {W W':World} {B:Nat} {s:Dk} (h:DkAt W B s) (ho:W.grownBy W' (some B)) (hd:∀ v,DiskW W B s.n s.k v s.l s.d→DiskW W' B s.n s.k v (stepN s.l s.d) true):DkAt W' B s.fall:=
 h.only ho rfl (stepN_in h.1) hd
theorem DkAt.waits {W W':World} {B:Nat} {n k:Sd} {l:Int} {c:Chg} (hB:B<W.heap.size) (hl:-9223372036854775808≤l∧l≤9223372036854775807) (h:Waits W W' B n k l c.wr c.bs):DkAt W' B ⟨n,k,some c,l,false⟩:=by
 obtain ⟨g,cap,h1,⟨h2,h3⟩,h4⟩:=h
 exact ⟨hl,_,h1,g,cap,rfl,h3,by omega,h4⟩
theorem DkAt.val {W:World} {B:Nat} {s:Dk} (h:DkAt W B s):∃ v,DiskW W B s.n s.k v s.l s.d∧(∀ v2,DiskW W B s.n s.k v2 s.l s.d→v2=v)∧(s.wt=none→v=.slice none 0 0):=by
 obtain ⟨_,v,h1,h2⟩:=h
 refine ⟨v,h1,fun v2 hv2=>?_,fun hw=>?_⟩
 ·have e1:=h1.rest.1
  have e2:=hv2.rest.1
  rw [e1] at e2;injection e2 with e2;exact e2.symm
 ·rw [hw] at h2;exact h2
theorem sync_any (B:Nat) (s:Dk) (w:World) (h:DkAt w B s):Calls Tryz.prog 71 #[.pointer (some ⟨B,0,none⟩)] w fun e w'=>e=.returned (errV (s.sync.1:Nat))∧DkAt w' B s.sync.2∧w.grownBy w' (some B):=by
 obtain ⟨v,h1,h2,h3⟩:=h.val
 refine (syncW_any B s.n s.k v s.l s.d w h1 h.1).mono ?_
 by_cases h0:stepE s.l s.d=0
 ·have hsy:s.sync=(0,⟨s.n,s.n,none,stepN s.l s.d,false⟩):=by unfold Dk.sync;rw [if_pos h0]
  have hF:stepF s.l s.d=false:=by
   rcases step_two s.l s.d with h4|h4
   ·rw [h0] at h4;exact absurd h4.1 (by decide)
   ·exact h4.2
  rw [hsy,h0,if_pos rfl,if_pos rfl,hF]
  rintro e w' ⟨rfl,hd,ho⟩
  exact ⟨rfl,⟨stepN_in h.1,_,hd,rfl⟩,ho.1⟩
 ·have hsy:s.sync=(11,s.fall):=by unfold Dk.sync;rw [if_neg h0]
  obtain ⟨hE,hF⟩:=stepE_no h0
  rw [hsy,hE,if_neg (by decide),if_neg (by decide),hF]
  rintro e w' ⟨rfl,hd,ho⟩
  exact ⟨rfl,h.fall ho.1 (fun v2 hv2=>by rw [h2 v2 hv2];exact hd),ho.1⟩
theorem move_any (B:Nat) (s:Dk) (w:World) (h:DkAt w B s) (hn:s.n.dt=true) (hw:s.wt=none):Calls Tryz.prog 72 #[.pointer (some ⟨B,0,none⟩)] w fun e w'=>e=.returned (errV ((s.apply ⟨false,⟨#[]⟩⟩).1:Nat))∧DkAt w' B (s.apply ⟨false,⟨#[]⟩⟩).2∧w.grownBy w' (some B):=by
 obtain ⟨v,h1,h2,h3⟩:=h.val
 by_cases h0:stepE s.l s.d=0
 ·have hsy:s.apply ⟨false,⟨#[]⟩⟩=(0,⟨Chg.on ⟨false,⟨#[]⟩⟩ s.n,s.k,some ⟨false,⟨#[]⟩⟩,stepN s.l s.d,false⟩):=by unfold Dk.apply;rw [if_pos h0]
  rw [hsy]
  have h1':=h1
  rw [h3 hw] at h1'
  refine (move_yes B s.n s.k s.l s.d w h1' h.1 h0 hn).mono ?_
  rintro e w' ⟨rfl,hd,ho⟩
  exact ⟨rfl,DkAt.waits (c:=⟨false,⟨#[]⟩⟩) h1.lt (stepN_in h.1) hd,ho⟩
 ·have hsy:s.apply ⟨false,⟨#[]⟩⟩=(11,s.fall):=by unfold Dk.apply;rw [if_neg h0]
  rw [hsy]
  refine (move_no B s.n s.k v s.l s.d w h1 h.1 (stepE_no h0).1 hn).mono ?_
  rintro e w' ⟨rfl,hd,ho⟩
  exact ⟨rfl,h.fall ho (fun v2 hv2=>by rw [h2 v2 hv2];exact hd),ho⟩
theorem writeD_any (B:Nat) (s:Dk) (t:ByteArray) (w:World) (h:DkAt w B s) (hw:s.wt=none∨s.d=true) (ht:t.size≤maxLen):Calls Tryz.prog 70 #[.pointer (some ⟨B,0,none⟩),.string t] w fun e w'=>e=.returned (errV ((s.write t).1:Nat))∧DkAt w' B (s.write t).2∧w.grownBy w' (some B):=by
 obtain ⟨v,h1,h2,h3⟩:=h.val
 by_cases hl:6000<t.size
 ·have hsy:s.write t=(2,s):=if_pos hl
  rw [hsy]
  refine (write_many B t w hl ht).mono ?_
  rintro e w' ⟨rfl,rfl⟩
  exact ⟨rfl,h,⟨rfl,rfl,rfl,Nat.le_refl _,fun _ _ _=>rfl⟩⟩
 ·have hsw:s.write t=s.apply ⟨true,t⟩:=if_neg hl
  by_cases h0:stepE s.l s.d=0
  ·have hsy:s.write t=(0,⟨Chg.on ⟨true,t⟩ s.n,s.k,some ⟨true,t⟩,stepN s.l s.d,false⟩):=by rw [hsw];unfold Dk.apply;rw [if_pos h0]
   rw [hsy]
   have hwn:s.wt=none:=by
    rcases hw with hw|hw
    ·exact hw
    ·unfold stepE at h0;rw [if_pos (.inl hw)] at h0;cases h0
   have h1':=h1
   rw [h3 hwn] at h1'
   refine (write_yes B s.n s.k s.l s.d t w h1' h.1 h0 (by omega)).mono ?_
   rintro e w' ⟨rfl,hd,ho⟩
   exact ⟨rfl,DkAt.waits (c:=⟨true,t⟩) h1.lt (stepN_in h.1) hd,ho⟩
  ·have hsy:s.write t=(11,s.fall):=by rw [hsw];unfold Dk.apply;rw [if_neg h0]
   rw [hsy]
   refine (write_no B s.n s.k v s.l s.d t w h1 h.1 (stepE_no h0).1 (by omega)).mono ?_
   rintro e w' ⟨rfl,hd,ho⟩
   exact ⟨rfl,h.fall ho (fun v2 hv2=>by rw [h2 v2 hv2];exact hd),ho⟩
def Dk.act (t:ByteArray) (k:Nat) (s:Dk):Nat × Dk:=if k=0 then s.write t else if k=2 then s.apply ⟨false,⟨#[]⟩⟩ else s.sync
def Dk.run (s:Dk) (t:ByteArray):Nat→Dk
 | 0=>s
 | k+1=>(Dk.act t k (Dk.run s t k)).2
def Dk.err (s:Dk) (t:ByteArray) (k:Nat):Nat:=(Dk.act t k (s.run t k)).1
def Dk.from (s:Dk) (t:ByteArray) (k:Nat):Nat × Dk:=
 if k<4 then if s.err t k≠0 then (s.err t k,s.run t (k+1)) else Dk.from s t (k+1) else (0,s.run t k)
termination_by 4 - k
theorem Dk.from_no {s:Dk} {t:ByteArray} {k:Nat} (hk:k<4) (h:s.err t k≠0):s.from t k=(s.err t k,s.run t (k+1)):=by rw [Dk.from,if_pos hk,if_pos h]
theorem Dk.from_yes {s:Dk} {t:ByteArray} {k:Nat} (hk:k<4) (h:s.err t k=0):s.from t k=s.from t (k+1):=by rw [Dk.from,if_pos hk,if_neg (by simp [h])]
theorem Dk.from_end {s:Dk} {t:ByteArray}:s.from t 4=(0,s.run t 4):=by rw [Dk.from,if_neg (by decide)]
def Dk.save (s:Dk) (hs:List Hd):Nat × Dk:=if heldF hs=0 then s.from ⟨(heldTxt hs).toArray⟩ 0 else (heldF hs,s)
theorem act_ok {s:Dk} {t:ByteArray} {k:Nat} (h:(Dk.act t k s).1=0):(Dk.act t k s).2=(if k=0 then ⟨Chg.on ⟨true,t⟩ s.n,s.k,some ⟨true,t⟩,stepN s.l s.d,false⟩ else if k=2 then ⟨Chg.on ⟨false,⟨#[]⟩⟩ s.n,s.k,some ⟨false,⟨#[]⟩⟩,stepN s.l s.d,false⟩ else ⟨s.n,s.n,none,stepN s.l s.d,false⟩):=by
 unfold Dk.act at h ⊢
 by_cases h0:k=0
 ·rw [if_pos h0] at h ⊢
  rw [if_pos h0]
  unfold Dk.write at h ⊢
  split at h
  ·cases h
  ·rename_i hl
   rw [if_neg hl]
   unfold Dk.apply at h ⊢
   split at h
   ·rename_i he;rw [if_pos he]
   ·cases h
 ·rw [if_neg h0] at h ⊢
  rw [if_neg h0]
  by_cases h2:k=2
  ·rw [if_pos h2] at h ⊢
   rw [if_pos h2]
   unfold Dk.apply at h ⊢
   split at h
   ·rename_i he;rw [if_pos he]
   ·cases h
  ·rw [if_neg h2] at h ⊢
   rw [if_neg h2]
   unfold Dk.sync at h ⊢
   split at h
   ·rename_i he;rw [if_pos he]
   ·cases h
theorem run_1 {s:Dk} {t:ByteArray} (h0:s.err t 0=0):s.run t 1=⟨Chg.on ⟨true,t⟩ s.n,s.k,some ⟨true,t⟩,stepN s.l s.d,false⟩:=act_ok (k:=0) h0
theorem run_2 {s:Dk} {t:ByteArray} (h0:s.err t 0=0) (h1:s.err t 1=0):s.run t 2=⟨Chg.on ⟨true,t⟩ s.n,Chg.on ⟨true,t⟩ s.n,none,stepN (stepN s.l s.d) false,false⟩:=by
 refine (act_ok (k:=1) h1).trans ?_
 rw [if_neg (by decide),if_neg (by decide),run_1 h0]
theorem run_3 {s:Dk} {t:ByteArray} (h0:s.err t 0=0) (h1:s.err t 1=0) (h2:s.err t 2=0):s.run t 3=⟨⟨true,t,false,⟨#[]⟩⟩,Chg.on ⟨true,t⟩ s.n,some ⟨false,⟨#[]⟩⟩,stepN (stepN (stepN s.l s.d) false) false,false⟩:=by
 refine (act_ok (k:=2) h2).trans ?_
 rw [if_neg (by decide),if_pos rfl,run_2 h0 h1]
 rfl
theorem run_4 {s:Dk} {t:ByteArray} (h0:s.err t 0=0) (h1:s.err t 1=0) (h2:s.err t 2=0) (h3:s.err t 3=0):s.run t 4=⟨⟨true,t,false,⟨#[]⟩⟩,⟨true,t,false,⟨#[]⟩⟩,none,stepN (stepN (stepN (stepN s.l s.d) false) false) false,false⟩:=by
 refine (act_ok (k:=3) h3).trans ?_
 rw [if_neg (by decide),if_neg (by decide),run_3 h0 h1 h2]
end
end Go.Proofs.YtbfdcmodflnkfaaGreatDoor
