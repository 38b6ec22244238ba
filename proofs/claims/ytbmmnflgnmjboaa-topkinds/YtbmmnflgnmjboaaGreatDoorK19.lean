import Derived.Test.YtbmmnflgnmjboaaGreatDoorK11
import Derived.Test.YtbmmnflgnmjboaaGreatDoorK18
set_option maxRecDepth 100000
set_option maxHeartbeats 16000000
namespace Go.Proofs.YtbmmnflgnmjboaaGreatDoor
section
open RowKit Shelf
open Qos (Nd Ct Pd nd ct pd)
open Sv (Gv Hd gv hd wd Tx cQ aF az body kT)
open S1 (Mx Tab)
namespace Sv
def Hy (t:Tx):Nat × List Hd:=
 if 6000<t.length then (2,[]) else
 match D2 t with
 | none=>(12,[])
 | some b=>match kT b with
  | none=>(4,[])
  | some hs=>if az hs=0/\aF hs=t then (0,hs) else (4,[])
end Sv
theorem Hz (w:World):aM w (.slice none 0 0) []:=⟨none,0,rfl,⟨lR,by unfold maxLen;omega⟩,λh=>by simp at h⟩
end
section
open RowKit
theorem vP (B:Nat) (n k:Sd) (v:Value) (l:Int) (d:Bool) (wr:Bool) (bs:ByteArray) (w:World) (h:aA w B n k v l d) (hl:-9223372036854775808<=l/\l<=9223372036854775807) (h0:bt l d=11) :
  Calls Tryz.prog 139 #[.pointer (some ⟨B,0,none⟩),.agg #[.bool wr,.string bs]] w λe w'=>e=.returned (.iface 121 (.int .i64 11))/\aA w' B n k v (aO l d) true/\w.grownBy w' (some B):=by
 have hlt:=h.lt;have hba:=(Q0 w.heap.size w).alloc (lR) (.cells #[.bool wr,.string bs] 247);have hD0:=h.block (w':=w.alloc (.cells #[.bool wr,.string bs] 247)) (hba.block B hlt);have HST:=qI (kU B n k _ l d _ hD0 hl);have hF:dM l d=true:=by
  rcases kV l d with ⟨_,e2⟩|⟨e1,_⟩
  ·exact e2
  ·rw [h0] at e1;cases e1
 rw [h0,hF,o8] at HST;have HBA:=qI hba;clear h hD0 hF h0 hba hlt
 go_enter Tryz.func139,Tryz.ntmps139
 go_wp2_with fail
 refine HST.out.mono ?_;rintro e w1 ⟨rfl,h1,ho1⟩;have HG1:=qI (cC ⟨HBA.out.os,HBA.out.tape,HBA.out.output,HBA.out.size,λj hj _=>HBA.out.block j hj⟩ ho1.1);have H1:=qI h1;clear h1 ho1 HST HBA
 go_wp2
 go_ret;exact ⟨rfl,H1.out,HG1.out⟩
theorem H7 (B:Nat) (s:ByteArray) (w:World) (hs:6000<s.size) (hs2:s.size<=maxLen) :
  Calls Tryz.prog 99 #[.pointer (some ⟨B,0,none⟩),.string s] w λe w'=>e=.returned (.iface 121 (.int .i64 2))/\w'=w:=by
 unfold maxLen at hs2
 go_enter Tryz.func99,Tryz.ntmps99
 go_wp2
 go_ret;exact ⟨rfl,rfl⟩
theorem H8 (B:Nat) (n k:Sd) (l:Int) (d:Bool) (s:ByteArray) (w:World) (h:aA w B n k (.slice none 0 0) l d) (hl:-9223372036854775808<=l/\l<=9223372036854775807) (h0:bt l d=0) (hs:s.size<=6000) :
  Calls Tryz.prog 99 #[.pointer (some ⟨B,0,none⟩),.string s] w λe w'=>e=.returned .nilIface/\mW w w' B (Chg.on ⟨true,s⟩ n) k (aO l d) true s/\w.grownBy w' (some B):=by
 have HA:=qI (vO B n k l d true s w h hl h0);clear h h0
 go_enter Tryz.func99,Tryz.ntmps99
 go_wp2_with fail
 refine HA.out.mono ?_;rintro e w1 ⟨rfl,h1,h2⟩;have H1:=qI h1;have H2:=qI h2;clear h1 h2 HA
 go_wp2
 go_ret;exact ⟨rfl,H1.out,H2.out⟩
theorem H9 (B:Nat) (n k:Sd) (v:Value) (l:Int) (d:Bool) (s:ByteArray) (w:World) (h:aA w B n k v l d) (hl:-9223372036854775808<=l/\l<=9223372036854775807) (h0:bt l d=11) (hs:s.size<=6000) :
  Calls Tryz.prog 99 #[.pointer (some ⟨B,0,none⟩),.string s] w λe w'=>e=.returned (.iface 121 (.int .i64 11))/\aA w' B n k v (aO l d) true/\w.grownBy w' (some B):=by
 have HA:=qI (vP B n k v l d true s w h hl h0);clear h h0
 go_enter Tryz.func99,Tryz.ntmps99
 go_wp2_with fail
 refine HA.out.mono ?_;rintro e w1 ⟨rfl,h1,h2⟩;have H1:=qI h1;have H2:=qI h2;clear h1 h2 HA
 go_wp2
 go_ret;exact ⟨rfl,H1.out,H2.out⟩
theorem Ia (B:Nat) (n k:Sd) (l:Int) (d:Bool) (w:World) (h:aA w B n k (.slice none 0 0) l d) (hl:-9223372036854775808<=l/\l<=9223372036854775807) (h0:bt l d=0) (hn:n.dt=true) :
  Calls Tryz.prog 101 #[.pointer (some ⟨B,0,none⟩)] w λe w'=>e=.returned .nilIface/\mW w w' B (Chg.on ⟨false,⟨#[]⟩⟩ n) k (aO l d) false ⟨#[]⟩/\w.grownBy w' (some B):=by
 have HA:=qI (vO B n k l d false ⟨#[]⟩ w h hl h0);obtain ⟨_,_,c2,_⟩:=h.now;rw [hn] at c2;clear h h0 hn
 go_enter Tryz.func101,Tryz.ntmps101
 go_wp2_with fail
 refine HA.out.mono ?_;rintro e w1 ⟨rfl,h1,h2⟩;have H1:=qI h1;have H2:=qI h2;clear h1 h2 HA
 go_wp2
 go_ret;exact ⟨rfl,H1.out,H2.out⟩
theorem Ib (B:Nat) (n k:Sd) (v:Value) (l:Int) (d:Bool) (w:World) (h:aA w B n k v l d) (hl:-9223372036854775808<=l/\l<=9223372036854775807) (h0:bt l d=11) (hn:n.dt=true) :
  Calls Tryz.prog 101 #[.pointer (some ⟨B,0,none⟩)] w λe w'=>e=.returned (.iface 121 (.int .i64 11))/\aA w' B n k v (aO l d) true/\w.grownBy w' (some B):=by
 have HA:=qI (vP B n k v l d false ⟨#[]⟩ w h hl h0);obtain ⟨_,_,c2,_⟩:=h.now;rw [hn] at c2;clear h h0 hn
 go_enter Tryz.func101,Tryz.ntmps101
 go_wp2_with fail
 refine HA.out.mono ?_;rintro e w1 ⟨rfl,h1,h2⟩;have H1:=qI h1;have H2:=qI h2;clear h1 h2 HA
 go_wp2
 go_ret;exact ⟨rfl,H1.out,H2.out⟩
end
section
open RowKit Shelf
open Sv (Gv Hd gv hd wd Tx cQ aF az body kT)
open S1 (Mx Tab)
structure Dk where
 n:Sd
 k:Sd
 wt:Option Chg
 l:Int
 d:Bool
def bd (W:World) (B:Nat) (s:Dk):Prop:=(-9223372036854775808<=s.l/\s.l<=9223372036854775807)/\∃ v,aA W B s.n s.k v s.l s.d/\
 match s.wt with
 | none=>v=.slice none 0 0
 | some c=>∃ g cap,v=.slice (some ⟨g,0,none⟩) 1 cap/\1<=cap/\g≠B/\fM W g c.wr c.bs
theorem bd.lt {W:World} {B:Nat} {s:Dk} (h:bd W B s):B<W.heap.size:=by
 obtain ⟨_,v,h,_⟩:=h;exact h.lt
theorem bd.below {W W':World} {B:Nat} {s:Dk} (h:bd W B s) (hb:Below W.heap.size W W'):bd W' B s:=by
 obtain ⟨h0,v,h1,h2⟩:=h;refine ⟨h0,v,h1.block (hb.block B h1.lt),?_⟩;cases hw:s.wt with
 | none=>rw [hw] at h2;exact h2
 | some c=>
  rw [hw] at h2;obtain ⟨g,cap,e,hc,hg,hch⟩:=h2;exact ⟨g,cap,e,hc,hg,hch.block (hb.block g hch.1)⟩
def Dk.fresh:Dk:=⟨⟨false,⟨#[]⟩,false,⟨#[]⟩⟩,⟨false,⟨#[]⟩,false,⟨#[]⟩⟩,none,-1,false⟩
theorem Ic (w:World):Calls Tryz.prog 30 #[] w λe w'=>e=.returned (.pointer (some ⟨w.heap.size,0,none⟩))/\bd w' w.heap.size Dk.fresh/\Below w.heap.size w w':=by
 go_enter Tryz.func30,Tryz.ntmps30
 go_wp2
 go_ret;exact ⟨rfl,⟨⟨by decide,by decide⟩,_,World.alloc_heap_new w _,rfl⟩,(Q0 _ _).alloc (lR) _⟩
theorem bd.only {W W':World} {B:Nat} {s s':Dk} (h:bd W B s) (ho:W.grownBy W' (some B)) (he:s'.wt=s.wt) (hl:-9223372036854775808<=s'.l/\s'.l<=9223372036854775807) (hd:∀ v,aA W B s.n s.k v s.l s.d->aA W' B s'.n s'.k v s'.l s'.d):bd W' B s':=by
 obtain ⟨_,v,h1,h2⟩:=h;refine ⟨hl,v,hd v h1,?_⟩;rw [he];cases hw:s.wt with
 | none=>rw [hw] at h2;exact h2
 | some c=>
  rw [hw] at h2;obtain ⟨g,cap,e,hc,hg,hch⟩:=h2;exact ⟨g,cap,e,hc,hg,hch.block (ho.block g hch.1 (λe=>hg (by injection e with e)))⟩
theorem Ie (w:World) (i j:Int):Sem.run Tryz.prog (binOp .eql 40 (.iface 121 (.int .i64 i)) (.iface 121 (.int .i64 j))) w=.ok (.bool (i == j)) w:=by
 rfl
def Dk.load (s:Dk):Nat × List Hd:=if s.d=true then (11,[]) else if s.n.ft=true then Sv.Hy s.n.fb.data.toList else (0,[])
def Dk.fall (s:Dk):Dk:={ s with l:=aO s.l s.d,d:=true }
def Dk.apply (s:Dk) (c:Chg):Nat × Dk:=if bt s.l s.d=0 then (0,⟨c.on s.n,s.k,some c,aO s.l s.d,false⟩) else (11,s.fall)
def Dk.sync (s:Dk):Nat × Dk:=if bt s.l s.d=0 then (0,⟨s.n,s.n,none,aO s.l s.d,false⟩) else (11,s.fall)
def Dk.write (s:Dk) (t:ByteArray):Nat × Dk:=if 6000<t.size then (2,s) else s.apply ⟨true,t⟩
theorem mX {l:Int} {d:Bool} (h:-9223372036854775808<=l/\l<=9223372036854775807):-9223372036854775808<=aO l d/\aO l d<=9223372036854775807:=by
 unfold aO
 split
 ·exact h
 ·split <;> omega
theorem pX {l:Int} {d:Bool} (h:bt l d≠0):bt l d=11/\dM l d=true:=by
 rcases kV l d with h1|h1
 ·exact h1
 ·exact absurd h1.1 h
theorem bd.fall {W W':World} {B:Nat} {s:Dk} (h:bd W B s) (ho:W.grownBy W' (some B)) (hd:∀ v,aA W B s.n s.k v s.l s.d->aA W' B s.n s.k v (aO s.l s.d) true):bd W' B s.fall:=
 h.only ho rfl (mX h.1) hd
theorem bd.waits {W W':World} {B:Nat} {n k:Sd} {l:Int} {c:Chg} (hB:B<W.heap.size) (hl:-9223372036854775808<=l/\l<=9223372036854775807) (h:mW W W' B n k l c.wr c.bs):bd W' B ⟨n,k,some c,l,false⟩:=by
 obtain ⟨g,cap,h1,⟨h2,h3⟩,h4⟩:=h;exact ⟨hl,_,h1,g,cap,rfl,h3,by omega,h4⟩
theorem bd.val {W:World} {B:Nat} {s:Dk} (h:bd W B s):∃ v,aA W B s.n s.k v s.l s.d/\(∀ v2,aA W B s.n s.k v2 s.l s.d->v2=v)/\(s.wt=none->v=.slice none 0 0):=by
 obtain ⟨_,v,h1,h2⟩:=h;refine ⟨v,h1,λv2 hv2=>?_,λhw=>?_⟩
 ·have e1:=h1.rest.1;have e2:=hv2.rest.1;rw [e1] at e2;injection e2 with e2;exact e2.symm
 ·rw [hw] at h2;exact h2
theorem vQ (B:Nat) (s:Dk) (w:World) (h:bd w B s):Calls Tryz.prog 100 #[.pointer (some ⟨B,0,none⟩)] w λe w'=>e=.returned (ak (s.sync.1:Nat))/\bd w' B s.sync.2/\w.grownBy w' (some B):=by
 obtain ⟨v,h1,h2,h3⟩:=h.val;refine (Dy B s.n s.k v s.l s.d w h1 h.1).mono ?_
 by_cases h0:bt s.l s.d=0
 ·have hsy:s.sync=(0,⟨s.n,s.n,none,aO s.l s.d,false⟩):=by unfold Dk.sync;rw [if_pos h0]
  have hF:dM s.l s.d=false:=by
   rcases kV s.l s.d with h4|h4
   ·rw [h0] at h4;exact absurd h4.1 (by decide)
   ·exact h4.2
  rw [hsy,h0,if_pos rfl,if_pos rfl,hF];rintro e w' ⟨rfl,hd,ho⟩;exact ⟨rfl,⟨mX h.1,_,hd,rfl⟩,ho.1⟩
 ·have hsy:s.sync=(11,s.fall):=by unfold Dk.sync;rw [if_neg h0]
  obtain ⟨hE,hF⟩:=pX h0;rw [hsy,hE,if_neg (by decide),if_neg (by decide),hF];rintro e w' ⟨rfl,hd,ho⟩;exact ⟨rfl,h.fall ho.1 (λv2 hv2=>by rw [h2 v2 hv2];exact hd),ho.1⟩
theorem If (B:Nat) (s:Dk) (w:World) (h:bd w B s) (hn:s.n.dt=true) (hw:s.wt=none):Calls Tryz.prog 101 #[.pointer (some ⟨B,0,none⟩)] w λe w'=>e=.returned (ak ((s.apply ⟨false,⟨#[]⟩⟩).1:Nat))/\bd w' B (s.apply ⟨false,⟨#[]⟩⟩).2/\w.grownBy w' (some B):=by
 obtain ⟨v,h1,h2,h3⟩:=h.val
 by_cases h0:bt s.l s.d=0
 ·have hsy:s.apply ⟨false,⟨#[]⟩⟩=(0,⟨Chg.on ⟨false,⟨#[]⟩⟩ s.n,s.k,some ⟨false,⟨#[]⟩⟩,aO s.l s.d,false⟩):=by unfold Dk.apply;rw [if_pos h0]
  rw [hsy];have h1':=h1;rw [h3 hw] at h1';refine (Ia B s.n s.k s.l s.d w h1' h.1 h0 hn).mono ?_;rintro e w' ⟨rfl,hd,ho⟩;exact ⟨rfl,bd.waits (c:=⟨false,⟨#[]⟩⟩) h1.lt (mX h.1) hd,ho⟩
 ·have hsy:s.apply ⟨false,⟨#[]⟩⟩=(11,s.fall):=by unfold Dk.apply;rw [if_neg h0]
  rw [hsy];refine (Ib B s.n s.k v s.l s.d w h1 h.1 (pX h0).1 hn).mono ?_;rintro e w' ⟨rfl,hd,ho⟩;exact ⟨rfl,h.fall ho (λv2 hv2=>by rw [h2 v2 hv2];exact hd),ho⟩
theorem Ig (B:Nat) (s:Dk) (t:ByteArray) (w:World) (h:bd w B s) (hw:s.wt=none\/s.d=true) (ht:t.size<=maxLen):Calls Tryz.prog 99 #[.pointer (some ⟨B,0,none⟩),.string t] w λe w'=>e=.returned (ak ((s.write t).1:Nat))/\bd w' B (s.write t).2/\w.grownBy w' (some B):=by
 obtain ⟨v,h1,h2,h3⟩:=h.val
 by_cases hl:6000<t.size
 ·have hsy:s.write t=(2,s):=if_pos hl;rw [hsy];refine (H7 B t w hl ht).mono ?_;rintro e w' ⟨rfl,rfl⟩;exact ⟨rfl,h,⟨rfl,rfl,rfl,lR,λ_ _ _=>rfl⟩⟩
 ·have hsw:s.write t=s.apply ⟨true,t⟩:=if_neg hl
  by_cases h0:bt s.l s.d=0
  ·have hsy:s.write t=(0,⟨Chg.on ⟨true,t⟩ s.n,s.k,some ⟨true,t⟩,aO s.l s.d,false⟩):=by rw [hsw];unfold Dk.apply;rw [if_pos h0]
   rw [hsy];have hwn:s.wt=none:=by
    rcases hw with hw|hw
    ·exact hw
    ·unfold bt at h0;rw [if_pos (.inl hw)] at h0;cases h0
   have h1':=h1;rw [h3 hwn] at h1';refine (H8 B s.n s.k s.l s.d t w h1' h.1 h0 (by omega)).mono ?_;rintro e w' ⟨rfl,hd,ho⟩;exact ⟨rfl,bd.waits (c:=⟨true,t⟩) h1.lt (mX h.1) hd,ho⟩
  ·have hsy:s.write t=(11,s.fall):=by rw [hsw];unfold Dk.apply;rw [if_neg h0]
   rw [hsy];refine (H9 B s.n s.k v s.l s.d t w h1 h.1 (pX h0).1 (by omega)).mono ?_;rintro e w' ⟨rfl,hd,ho⟩;exact ⟨rfl,h.fall ho (λv2 hv2=>by rw [h2 v2 hv2];exact hd),ho⟩
def Dk.act (t:ByteArray) (k:Nat) (s:Dk):Nat × Dk:=if k=0 then s.write t else if k=2 then s.apply ⟨false,⟨#[]⟩⟩ else s.sync
def Dk.run (s:Dk) (t:ByteArray):Nat->Dk
 | 0=>s
 | k+1=>(Dk.act t k (Dk.run s t k)).2
def Dk.err (s:Dk) (t:ByteArray) (k:Nat):Nat:=(Dk.act t k (s.run t k)).1
def Dk.from (s:Dk) (t:ByteArray) (k:Nat):Nat × Dk:=
 if k<4 then if s.err t k≠0 then (s.err t k,s.run t (k+1)) else Dk.from s t (k+1) else (0,s.run t k)
termination_by 4 - k
theorem Dk.from_no {s:Dk} {t:ByteArray} {k:Nat} (hk:k<4) (h:s.err t k≠0):s.from t k=(s.err t k,s.run t (k+1)):=by rw [Dk.from,if_pos hk,if_pos h]
theorem Dk.from_yes {s:Dk} {t:ByteArray} {k:Nat} (hk:k<4) (h:s.err t k=0):s.from t k=s.from t (k+1):=by rw [Dk.from,if_pos hk,if_neg (by simp [h])]
theorem Dk.from_end {s:Dk} {t:ByteArray}:s.from t 4=(0,s.run t 4):=by rw [Dk.from,if_neg (by decide)]
def Dk.save (s:Dk) (hs:List Hd):Nat × Dk:=if az hs=0 then s.from ⟨(aF hs).toArray⟩ 0 else (az hs,s)
theorem mY {s:Dk} {t:ByteArray} {k:Nat} (h:(Dk.act t k s).1=0):(Dk.act t k s).2=(if k=0 then ⟨Chg.on ⟨true,t⟩ s.n,s.k,some ⟨true,t⟩,aO s.l s.d,false⟩ else if k=2 then ⟨Chg.on ⟨false,⟨#[]⟩⟩ s.n,s.k,some ⟨false,⟨#[]⟩⟩,aO s.l s.d,false⟩ else ⟨s.n,s.n,none,aO s.l s.d,false⟩):=by
 unfold Dk.act at h ⊢
 by_cases h0:k=0
 ·rw [if_pos h0] at h ⊢;rw [if_pos h0];unfold Dk.write at h ⊢
  split at h
  ·cases h
  ·rename_i hl
   rw [if_neg hl];unfold Dk.apply at h ⊢
   split at h
   ·rename_i he;rw [if_pos he]
   ·cases h
 ·rw [if_neg h0] at h ⊢;rw [if_neg h0]
  by_cases h2:k=2
  ·rw [if_pos h2] at h ⊢;rw [if_pos h2];unfold Dk.apply at h ⊢
   split at h
   ·rename_i he;rw [if_pos he]
   ·cases h
  ·rw [if_neg h2] at h ⊢;rw [if_neg h2];unfold Dk.sync at h ⊢
   split at h
   ·rename_i he;rw [if_pos he]
   ·cases h
theorem vR {s:Dk} {t:ByteArray} (h0:s.err t 0=0):s.run t 1=⟨Chg.on ⟨true,t⟩ s.n,s.k,some ⟨true,t⟩,aO s.l s.d,false⟩:=mY (k:=0) h0
theorem mZ {s:Dk} {t:ByteArray} (h0:s.err t 0=0) (h1:s.err t 1=0):s.run t 2=⟨Chg.on ⟨true,t⟩ s.n,Chg.on ⟨true,t⟩ s.n,none,aO (aO s.l s.d) false,false⟩:=by
 refine (mY (k:=1) h1).trans ?_;rw [if_neg (by decide),if_neg (by decide),vR h0]
theorem vS {s:Dk} {t:ByteArray} (h0:s.err t 0=0) (h1:s.err t 1=0) (h2:s.err t 2=0):s.run t 3=⟨⟨true,t,false,⟨#[]⟩⟩,Chg.on ⟨true,t⟩ s.n,some ⟨false,⟨#[]⟩⟩,aO (aO (aO s.l s.d) false) false,false⟩:=by
 refine (mY (k:=2) h2).trans ?_;rw [if_neg (by decide),if_pos rfl,mZ h0 h1];rfl
theorem Ih {s:Dk} {t:ByteArray} (h0:s.err t 0=0) (h1:s.err t 1=0) (h2:s.err t 2=0) (h3:s.err t 3=0):s.run t 4=⟨⟨true,t,false,⟨#[]⟩⟩,⟨true,t,false,⟨#[]⟩⟩,none,aO (aO (aO (aO s.l s.d) false) false) false,false⟩:=by
 refine (mY (k:=3) h3).trans ?_;rw [if_neg (by decide),if_neg (by decide),vS h0 h1 h2]
theorem kg {a b:World} {r:Option Nat} (h:Below a.heap.size a b):a.grownBy b r:=⟨h.os,h.tape,h.output,h.size,λk hk _=>h.block k hk⟩
theorem Ii (B b1 b2:Nat) (s:Dk) (t:ByteArray) (w:World) (h:bd w B s) (hw:s.wt=none\/s.d=true) (ht:t.size<=maxLen) (c1:w.cell? ⟨b1,0,none⟩=some (.pointer (some ⟨B,0,none⟩))) (c2:w.cell? ⟨b2,0,none⟩=some (.string t)) :
  Calls Tryz.prog 98 #[.pointer (some ⟨b1,0,none⟩),.pointer (some ⟨b2,0,none⟩)] w λe w'=>e=.returned (ak ((s.write t).1:Nat))/\bd w' B (s.write t).2/\w.grownBy w' (some B):=by
 have HW:=qI (Ig B s t w h hw ht);clear h hw
 go_enter Tryz.func98,Tryz.ntmps98
 go_wp2_with fail
 refine HW.out.mono ?_;rintro e w1 ⟨rfl,h1,h2⟩;have H1:=qI h1;have H2:=qI h2;clear h1 h2 HW
 go_wp2
 go_ret;exact ⟨rfl,H1.out,H2.out⟩
theorem Dk.from_upto {s:Dk} {t:ByteArray}:∀ {k:Nat},k<=4->(∀ j,j<k->s.err t j=0)->s.from t 0=s.from t k
 | 0,_,_=>rfl
 | k+1,hk,h=>(Dk.from_upto (by omega) (λj hj=>h j (by omega))).trans (Dk.from_yes (by omega) (h k (by omega)))
theorem m5 (k:Nat):(k=0/\ak ((k:Nat):Int)=.nilIface)\/(k≠0/\ak ((k:Nat):Int)=.iface 121 (.int .i64 k)):=by
 by_cases h:k=0
 ·subst h;exact .inl ⟨rfl,rfl⟩
 ·exact .inr ⟨h,dI h⟩
theorem vT (B:Nat) (s:Dk) (v:Value) (hs:List Hd) (w:World) (h:bd w B s) (hw:s.wt=none\/s.d=true) (hv:aM w v hs) (ht:bE w):Calls Tryz.prog 56 #[.pointer (some ⟨B,0,none⟩),v] w λe w'=>e=.returned (ak ((s.save hs).1:Nat))/\bd w' B (s.save hs).2/\w.grownBy w' (some B):=by
 have HB0:=qI ((Q0 w.heap.size w).alloc (lR) (.cells #[.pointer (some ⟨B,0,none⟩)] 32));have HTX:=qI (nO v hs _ (hv.below HB0.out) (ht.below HB0.out));have HD:=qI h;have HBL:=qI h.lt;have cb:(w.alloc (.cells #[.pointer (some ⟨B,0,none⟩)] 32)).cell? ⟨w.heap.size,0,none⟩=some (.pointer (some ⟨B,0,none⟩)):=by simp
 have hszb:(w.alloc (.cells #[.pointer (some ⟨B,0,none⟩)] 32)).heap.size=w.heap.size+1:=by simp
 have hvcps:=hv.cps;obtain ⟨va,vc,rfl,hvm,_⟩:=hv;clear h ht
 by_cases hf:az hs=0
 ·have HTV:Hid (iA hs=.tuple #[.string ⟨(aF hs).toArray⟩,.nilIface]):=by unfold Hid iA;rw [if_pos hf]
  have HSV:Hid (s.save hs=s.from ⟨(aF hs).toArray⟩ 0):=by unfold Hid Dk.save;rw [if_pos hf]
  have HTL:Hid ((ByteArray.mk (aF hs).toArray).size<=maxLen):=by
   have h1:=Sv.CS (Sv.oR hf hvcps);have h2:=Sv.kS (body hs);unfold Hid maxLen;simp only [ByteArray.size,aF,List.size_toArray,Q2];omega
  rw [HTV.out] at HTX;clear HTV hf hvcps;generalize ByteArray.mk (aF hs).toArray=t at *
  go_enter Tryz.func56,Tryz.ntmps56
  go_wp2_with fail
  generalize w.alloc (.cells #[.pointer (some ⟨B,0,none⟩)] 32)=A at *;refine HTX.out.mono ?_;rintro e w1 ⟨rfl,hb1⟩;have HB1:=qI (HB0.out.trans (hb1.mono HB0.out.size));have cb1:=(hb1.cell (p:=⟨w.heap.size,0,none⟩) (by show w.heap.size<A.heap.size;omega)).trans cb;have hsz1:w.heap.size<w1.heap.size:=Q1 (by omega) hb1.size;clear hb1 cb HTX hszb HB0;have HB2:=qI (HB1.out.alloc HB1.out.size (.cells #[.string t] 9));have cb2:(w1.alloc (.cells #[.string t] 9)).cell? ⟨w.heap.size,0,none⟩=some (.pointer (some ⟨B,0,none⟩)):=(((Q0 w1.heap.size w1).alloc (lR) _).cell (p:=⟨w.heap.size,0,none⟩) hsz1).trans cb1;have ct2:(w1.alloc (.cells #[.string t] 9)).cell? ⟨w1.heap.size,0,none⟩=some (.string t):=by simp
  have hsz2:(w1.alloc (.cells #[.string t] 9)).heap.size=w1.heap.size+1:=by simp
  clear cb1
  go_wp2_with fail
  have HB3:=qI (HB2.out.alloc HB2.out.size (.cells #[.func (.func 98) #[] #[.pointer (some ⟨w.heap.size,0,none⟩),.pointer (some ⟨w1.heap.size,0,none⟩)],.func (.func 100) #[.pointer (some ⟨B,0,none⟩)] #[],.func (.func 101) #[.pointer (some ⟨B,0,none⟩)] #[],.func (.func 100) #[.pointer (some ⟨B,0,none⟩)] #[]] 150));have hb23:=(Q0 _ (w1.alloc (.cells #[.string t] 9))).alloc (lR) (.cells #[.func (.func 98) #[] #[.pointer (some ⟨w.heap.size,0,none⟩),.pointer (some ⟨w1.heap.size,0,none⟩)],.func (.func 100) #[.pointer (some ⟨B,0,none⟩)] #[],.func (.func 101) #[.pointer (some ⟨B,0,none⟩)] #[],.func (.func 100) #[.pointer (some ⟨B,0,none⟩)] #[]] 150);have cb3:=(hb23.cell (p:=⟨w.heap.size,0,none⟩) (by show w.heap.size<(w1.alloc (.cells #[.string t] 9)).heap.size;omega)).trans cb2;have ct3:=(hb23.cell (p:=⟨w1.heap.size,0,none⟩) (by show w1.heap.size<(w1.alloc (.cells #[.string t] 9)).heap.size;omega)).trans ct2;have f0:((w1.alloc (.cells #[.string t] 9)).alloc (.cells #[.func (.func 98) #[] #[.pointer (some ⟨w.heap.size,0,none⟩),.pointer (some ⟨w1.heap.size,0,none⟩)],.func (.func 100) #[.pointer (some ⟨B,0,none⟩)] #[],.func (.func 101) #[.pointer (some ⟨B,0,none⟩)] #[],.func (.func 100) #[.pointer (some ⟨B,0,none⟩)] #[]] 150)).cell? ⟨w1.heap.size+1,0,none⟩=some (.func (.func 98) #[] #[.pointer (some ⟨w.heap.size,0,none⟩),.pointer (some ⟨w1.heap.size,0,none⟩)]):=by simp
  have f1:((w1.alloc (.cells #[.string t] 9)).alloc (.cells #[.func (.func 98) #[] #[.pointer (some ⟨w.heap.size,0,none⟩),.pointer (some ⟨w1.heap.size,0,none⟩)],.func (.func 100) #[.pointer (some ⟨B,0,none⟩)] #[],.func (.func 101) #[.pointer (some ⟨B,0,none⟩)] #[],.func (.func 100) #[.pointer (some ⟨B,0,none⟩)] #[]] 150)).cell? ⟨w1.heap.size+1,1,none⟩=some (.func (.func 100) #[.pointer (some ⟨B,0,none⟩)] #[]):=by simp
  have f2:((w1.alloc (.cells #[.string t] 9)).alloc (.cells #[.func (.func 98) #[] #[.pointer (some ⟨w.heap.size,0,none⟩),.pointer (some ⟨w1.heap.size,0,none⟩)],.func (.func 100) #[.pointer (some ⟨B,0,none⟩)] #[],.func (.func 101) #[.pointer (some ⟨B,0,none⟩)] #[],.func (.func 100) #[.pointer (some ⟨B,0,none⟩)] #[]] 150)).cell? ⟨w1.heap.size+1,2,none⟩=some (.func (.func 101) #[.pointer (some ⟨B,0,none⟩)] #[]):=by simp
  have f3:((w1.alloc (.cells #[.string t] 9)).alloc (.cells #[.func (.func 98) #[] #[.pointer (some ⟨w.heap.size,0,none⟩),.pointer (some ⟨w1.heap.size,0,none⟩)],.func (.func 100) #[.pointer (some ⟨B,0,none⟩)] #[],.func (.func 101) #[.pointer (some ⟨B,0,none⟩)] #[],.func (.func 100) #[.pointer (some ⟨B,0,none⟩)] #[]] 150)).cell? ⟨w1.heap.size+1,3,none⟩=some (.func (.func 100) #[.pointer (some ⟨B,0,none⟩)] #[]):=by simp
  have hsz3:((w1.alloc (.cells #[.string t] 9)).alloc (.cells #[.func (.func 98) #[] #[.pointer (some ⟨w.heap.size,0,none⟩),.pointer (some ⟨w1.heap.size,0,none⟩)],.func (.func 100) #[.pointer (some ⟨B,0,none⟩)] #[],.func (.func 101) #[.pointer (some ⟨B,0,none⟩)] #[],.func (.func 100) #[.pointer (some ⟨B,0,none⟩)] #[]] 150)).heap.size=w1.heap.size+1+1:=by simp
  have HD3:=qI (HD.out.below HB3.out);clear hb23 cb2 ct2 HB2 hsz2 HB1;generalize ((w1.alloc (.cells #[.string t] 9)).alloc (.cells #[.func (.func 98) #[] #[.pointer (some ⟨w.heap.size,0,none⟩),.pointer (some ⟨w1.heap.size,0,none⟩)],.func (.func 100) #[.pointer (some ⟨B,0,none⟩)] #[],.func (.func 101) #[.pointer (some ⟨B,0,none⟩)] #[],.func (.func 100) #[.pointer (some ⟨B,0,none⟩)] #[]] 150))=W3 at *;have hBw:=HBL.out;have HF:Hid (∀ wr:World,W3.grownBy wr (some B)->wr.cell? ⟨w.heap.size,0,none⟩=some (.pointer (some ⟨B,0,none⟩))/\wr.cell? ⟨w1.heap.size,0,none⟩=some (.string t)/\wr.cell? ⟨w1.heap.size+1,0,none⟩=some (.func (.func 98) #[] #[.pointer (some ⟨w.heap.size,0,none⟩),.pointer (some ⟨w1.heap.size,0,none⟩)])/\wr.cell? ⟨w1.heap.size+1,1,none⟩=some (.func (.func 100) #[.pointer (some ⟨B,0,none⟩)] #[])/\wr.cell? ⟨w1.heap.size+1,2,none⟩=some (.func (.func 101) #[.pointer (some ⟨B,0,none⟩)] #[])/\wr.cell? ⟨w1.heap.size+1,3,none⟩=some (.func (.func 100) #[.pointer (some ⟨B,0,none⟩)] #[])):=λwr hg=>
   have k1:=λj=>World.cell?_of_block (a:=⟨w.heap.size,j,none⟩) (hg.block w.heap.size (by omega) (λe=>by injection e;omega))
   have k2:=λj=>World.cell?_of_block (a:=⟨w1.heap.size,j,none⟩) (hg.block w1.heap.size (by omega) (λe=>by injection e;omega))
   have k3:=λj=>World.cell?_of_block (a:=⟨w1.heap.size+1,j,none⟩) (hg.block (w1.heap.size+1) (by omega) (λe=>by injection e;omega))
   ⟨(k1 0).trans cb3,(k2 0).trans ct3,(k3 0).trans f0,(k3 1).trans f1,(k3 2).trans f2,(k3 3).trans f3⟩
  clear cb3 ct3 f0 f1 f2 f3;have HW:=qI hw;clear hw
  go_loopw [29] (λi wr=>∃ k:Nat,k<=4/\i=.int .i64 k/\(∀ j,j<k->s.err t j=0)/\bd wr B (s.run t k)/\W3.grownBy wr (some B)) (λi _=>4 - (intOf i).toNat)
  case atStart=>exact ⟨0,by omega,rfl,λj hj=>by omega,HD3.out,⟨rfl,rfl,rfl,lR,λ_ _ _=>rfl⟩⟩
  case round=>
   obtain ⟨k,hk,rfl,hgood,hdk,hg⟩:=hrel;have HGD:=qI hgood;have HDK:=qI hdk;have HGR:=qI hg;obtain ⟨cb4,ct4,g0,g1,g2,g3⟩:=HF.out wr hg;clear hgood hdk hg;have hcases:k=0\/k=1\/k=2\/k=3\/k=4:=by omega
   rcases hcases with rfl|rfl|rfl|rfl|rfl
   ·have HC:Hid (Calls Tryz.prog 98 #[.pointer (some ⟨w.heap.size,0,none⟩),.pointer (some ⟨w1.heap.size,0,none⟩)] wr λe w'=>e=.returned (ak ((s.err t 0:Nat):Int))/\bd w' B (s.run t (0+1))/\wr.grownBy w' (some B)):=Ii B w.heap.size w1.heap.size (s.run t 0) t wr HDK.out HW.out HTL.out cb4 ct4;clear HF cb4 ct4
    rcases m5 (s.err t 0) with ⟨h0,he⟩|⟨h0,he⟩
    ·rw [he] at HC;clear he
     go_wp2_with fail
     refine HC.out.mono ?_;rintro e w5 ⟨rfl,h5,h6⟩;have H5:=qI h5;have H6:=qI (cC HGR.out h6);clear h5 h6 HC
     go_wp2
     go_roundw
     case rel=>exact ⟨0+1,by omega,by go_num,λj hj=>by rcases Nat.lt_succ_iff_lt_or_eq.1 hj with h|h;exact HGD.out j h;rw [h];exact h0,H5.out,H6.out⟩
     case measure=>simp [intOf]
    ·rw [he] at HC
     go_wp2_with fail
     refine HC.out.mono ?_;rintro e w5 ⟨rfl,h5,h6⟩;have H5:=qI h5;have H6:=qI (cC HGR.out h6);clear h5 h6 HC
     go_wp2
     go_ret;have hfr:=(Dk.from_upto (by omega) HGD.out).trans (Dk.from_no (by omega) h0);exact ⟨by rw [HSV.out,hfr,he];rfl,by rw [HSV.out,hfr];exact H5.out,cC (kg HB3.out) H6.out⟩
   ·have HC:Hid (Calls Tryz.prog 100 #[.pointer (some ⟨B,0,none⟩)] wr λe w'=>e=.returned (ak ((s.err t 1:Nat):Int))/\bd w' B (s.run t (1+1))/\wr.grownBy w' (some B)):=vQ B (s.run t 1) wr HDK.out;clear HF cb4 ct4
    rcases m5 (s.err t 1) with ⟨h0,he⟩|⟨h0,he⟩
    ·rw [he] at HC;clear he
     go_wp2_with fail
     refine HC.out.mono ?_;rintro e w5 ⟨rfl,h5,h6⟩;have H5:=qI h5;have H6:=qI (cC HGR.out h6);clear h5 h6 HC
     go_wp2
     go_roundw
     case rel=>exact ⟨1+1,by omega,by go_num,λj hj=>by rcases Nat.lt_succ_iff_lt_or_eq.1 hj with h|h;exact HGD.out j h;rw [h];exact h0,H5.out,H6.out⟩
     case measure=>simp [intOf]
    ·rw [he] at HC
     go_wp2_with fail
     refine HC.out.mono ?_;rintro e w5 ⟨rfl,h5,h6⟩;have H5:=qI h5;have H6:=qI (cC HGR.out h6);clear h5 h6 HC
     go_wp2
     go_ret;have hfr:=(Dk.from_upto (by omega) HGD.out).trans (Dk.from_no (by omega) h0);exact ⟨by rw [HSV.out,hfr,he];rfl,by rw [HSV.out,hfr];exact H5.out,cC (kg HB3.out) H6.out⟩
   ·have HC:Hid (Calls Tryz.prog 101 #[.pointer (some ⟨B,0,none⟩)] wr λe w'=>e=.returned (ak ((s.err t 2:Nat):Int))/\bd w' B (s.run t (2+1))/\wr.grownBy w' (some B)):=If B (s.run t 2) wr HDK.out (by rw [mZ (HGD.out 0 (by omega)) (HGD.out 1 (by omega))];rfl) (by rw [mZ (HGD.out 0 (by omega)) (HGD.out 1 (by omega))]);clear HF cb4 ct4
    rcases m5 (s.err t 2) with ⟨h0,he⟩|⟨h0,he⟩
    ·rw [he] at HC;clear he
     go_wp2_with fail
     refine HC.out.mono ?_;rintro e w5 ⟨rfl,h5,h6⟩;have H5:=qI h5;have H6:=qI (cC HGR.out h6);clear h5 h6 HC
     go_wp2
     go_roundw
     case rel=>exact ⟨2+1,by omega,by go_num,λj hj=>by rcases Nat.lt_succ_iff_lt_or_eq.1 hj with h|h;exact HGD.out j h;rw [h];exact h0,H5.out,H6.out⟩
     case measure=>simp [intOf]
    ·rw [he] at HC
     go_wp2_with fail
     refine HC.out.mono ?_;rintro e w5 ⟨rfl,h5,h6⟩;have H5:=qI h5;have H6:=qI (cC HGR.out h6);clear h5 h6 HC
     go_wp2
     go_ret;have hfr:=(Dk.from_upto (by omega) HGD.out).trans (Dk.from_no (by omega) h0);exact ⟨by rw [HSV.out,hfr,he];rfl,by rw [HSV.out,hfr];exact H5.out,cC (kg HB3.out) H6.out⟩
   ·have HC:Hid (Calls Tryz.prog 100 #[.pointer (some ⟨B,0,none⟩)] wr λe w'=>e=.returned (ak ((s.err t 3:Nat):Int))/\bd w' B (s.run t (3+1))/\wr.grownBy w' (some B)):=vQ B (s.run t 3) wr HDK.out;clear HF cb4 ct4
    rcases m5 (s.err t 3) with ⟨h0,he⟩|⟨h0,he⟩
    ·rw [he] at HC;clear he
     go_wp2_with fail
     refine HC.out.mono ?_;rintro e w5 ⟨rfl,h5,h6⟩;have H5:=qI h5;have H6:=qI (cC HGR.out h6);clear h5 h6 HC
     go_wp2
     go_roundw
     case rel=>exact ⟨3+1,by omega,by go_num,λj hj=>by rcases Nat.lt_succ_iff_lt_or_eq.1 hj with h|h;exact HGD.out j h;rw [h];exact h0,H5.out,H6.out⟩
     case measure=>simp [intOf]
    ·rw [he] at HC
     go_wp2_with fail
     refine HC.out.mono ?_;rintro e w5 ⟨rfl,h5,h6⟩;have H5:=qI h5;have H6:=qI (cC HGR.out h6);clear h5 h6 HC
     go_wp2
     go_ret;have hfr:=(Dk.from_upto (by omega) HGD.out).trans (Dk.from_no (by omega) h0);exact ⟨by rw [HSV.out,hfr,he];rfl,by rw [HSV.out,hfr];exact H5.out,cC (kg HB3.out) H6.out⟩
   ·go_wp2
    go_ret;have hfr:=(Dk.from_upto (by omega) HGD.out).trans Dk.from_end;exact ⟨by rw [HSV.out,hfr];rfl,by rw [HSV.out,hfr];exact HDK.out,cC (kg HB3.out) HGR.out⟩
 ·have HTV:Hid (iA hs=.tuple #[.string ⟨#[]⟩,ak (az hs:Nat)]):=by unfold Hid iA;rw [if_neg hf]
  have HEP:=qI (dI hf);have HSV:Hid (s.save hs=(az hs,s)):=by unfold Hid Dk.save;rw [if_neg hf]
  rw [HTV.out,HEP.out] at HTX;clear HTV hf hvcps
  go_enter Tryz.func56,Tryz.ntmps56
  go_wp2_with fail
  generalize w.alloc (.cells #[.pointer (some ⟨B,0,none⟩)] 32)=A at *;refine HTX.out.mono ?_;rintro e w1 ⟨rfl,hb1⟩;have HB1:=qI (HB0.out.trans (hb1.mono HB0.out.size));have HB2:=qI (HB1.out.alloc HB1.out.size (.cells #[.string ⟨#[]⟩] 9));clear hb1 cb HTX hszb HB0
  go_wp2
  go_ret;exact ⟨by rw [HSV.out,HEP.out];rfl,by rw [HSV.out];exact HD.out.below HB2.out,kg HB2.out⟩
end
section
open RowKit Shelf
open Sv (Gv Hd gv hd wd Tx cQ aF az body kT OkL)
structure Holds (s:Dk) (hs:List Hd):Prop where
 up:s.d=false
 ft:s.n.ft=true
 fb:s.n.fb=⟨(aF hs).toArray⟩
 hf:az hs=0
 len:(aF hs).length<=6000
 ok:OkL hs
theorem Ij (s:Dk) (t:ByteArray):(s.err t 0=0/\s.err t 1=0/\s.err t 2=0/\s.err t 3=0/\s.from t 0=(0,s.run t 4))\/∃ k,k<4/\(∀ j,j<k->s.err t j=0)/\s.err t k≠0/\s.from t 0=(s.err t k,s.run t (k+1)):=by
 by_cases h0:s.err t 0=0
 ·by_cases h1:s.err t 1=0
  ·by_cases h2:s.err t 2=0
   ·by_cases h3:s.err t 3=0
    ·exact .inl ⟨h0,h1,h2,h3,by rw [Dk.from_yes (by decide) h0,Dk.from_yes (by decide) h1,Dk.from_yes (by decide) h2,Dk.from_yes (by decide) h3,Dk.from_end]⟩
    ·exact .inr ⟨3,by decide,λj hj=>by have:j=0\/j=1\/j=2:=(by omega);rcases this with rfl|rfl|rfl <;> assumption,h3,by rw [Dk.from_yes (by decide) h0,Dk.from_yes (by decide) h1,Dk.from_yes (by decide) h2,Dk.from_no (by decide) h3]⟩
   ·exact .inr ⟨2,by decide,λj hj=>by have:j=0\/j=1:=(by omega);rcases this with rfl|rfl <;> assumption,h2,by rw [Dk.from_yes (by decide) h0,Dk.from_yes (by decide) h1,Dk.from_no (by decide) h2]⟩
  ·exact .inr ⟨1,by decide,λj hj=>by have:j=0:=(by omega);rw [this];exact h0,h1,by rw [Dk.from_yes (by decide) h0,Dk.from_no (by decide) h1]⟩
 ·exact .inr ⟨0,by decide,λj hj=>by omega,h0,Dk.from_no (by decide) h0⟩
theorem Ik {s:Dk} {hs:List Hd} (hl:s.l<0) (hd:s.d=false) (hf:az hs=0) (ht:(aF hs).length<=6000):(s.save hs).1=0:=by
 have hE:∀ l:Int,l<0->bt l false=0:=λl h=>by unfold bt;rw [if_neg (by simp;omega)]
 have hN:∀ l:Int,l<0->aO l false=l:=λl h=>by unfold aO;rw [if_neg (by simp;omega),if_neg (by omega)]
 obtain ⟨n,k,wt,l,d⟩:=s;dsimp only at hl hd;subst hd;unfold Dk.save;rw [if_pos hf];have hsz:¬ 6000<(ByteArray.mk (aF hs).toArray).size:=by simp [ByteArray.size];omega
 generalize ByteArray.mk (aF hs).toArray=t at *;have h0:Dk.err ⟨n,k,wt,l,false⟩ t 0=0:=by
  show (Dk.write _ t).1=0
  unfold Dk.write;rw [if_neg hsz];unfold Dk.apply;rw [if_pos (show bt (Dk.run ⟨n,k,wt,l,false⟩ t 0).l (Dk.run ⟨n,k,wt,l,false⟩ t 0).d=0 from hE l hl)]
 have h1:Dk.err ⟨n,k,wt,l,false⟩ t 1=0:=by
  show (Dk.sync _).1=0
  rw [vR h0];unfold Dk.sync;rw [if_pos (by show bt (aO l false) false=0;rw [hN l hl];exact hE l hl)]
 have h2:Dk.err ⟨n,k,wt,l,false⟩ t 2=0:=by
  show (Dk.apply _ _).1=0
  rw [mZ h0 h1];unfold Dk.apply;rw [if_pos (by show bt (aO (aO l false) false) false=0;rw [hN l hl,hN l hl];exact hE l hl)]
 have h3:Dk.err ⟨n,k,wt,l,false⟩ t 3=0:=by
  show (Dk.sync _).1=0
  rw [vS h0 h1 h2];unfold Dk.sync;rw [if_pos (by show bt (aO (aO (aO l false) false) false) false=0;rw [hN l hl,hN l hl,hN l hl];exact hE l hl)]
 rw [Dk.from_yes (by decide) h0,Dk.from_yes (by decide) h1,Dk.from_yes (by decide) h2,Dk.from_yes (by decide) h3,Dk.from_end]
end
section
open Sv (Hd aF az)
def Calm (s:Dk):Prop:=s.d=false/\s.l=-1/\s.wt=none
theorem vU:Calm Dk.fresh:=⟨rfl,rfl,rfl⟩
theorem vV {s:Dk} (h:Calm s) {hs:List Hd} (hf:az hs=0):((aF hs).length<=6000->(s.save hs).1=0)/\(6000<(aF hs).length->(s.save hs).1=2)/\Calm (s.save hs).2:=by
 by_cases hl:6000<(aF hs).length
 ·have hw:s.write ⟨(aF hs).toArray⟩=(2,s):=if_pos (by simpa [ByteArray.size] using hl);have h0:s.err ⟨(aF hs).toArray⟩ 0=2:=by
   show (s.write _).1=2
   rw [hw]
  unfold Dk.save;rw [if_pos hf,Dk.from_no (by decide) (by rw [h0];decide)];refine ⟨λh=>absurd h (by omega),λ_=>h0,?_⟩
  show Calm (s.write _).2
  rw [hw];exact h
 ·have h0:=Ik (s:=s) (by rw [h.2.1];decide) h.1 hf (by omega);refine ⟨λ_=>h0,λh=>absurd h hl,?_⟩;unfold Dk.save at h0 ⊢;rw [if_pos hf] at h0 ⊢
  rcases Ij s ⟨(aF hs).toArray⟩ with ⟨e0,e1,e2,e3,e⟩|⟨k,_,_,hk,e⟩
  ·rw [e,Ih e0 e1 e2 e3];refine ⟨rfl,?_,rfl⟩
   show aO (aO (aO (aO s.l s.d) false) false) false=-1
   rw [h.1,h.2.1];rfl
  ·rw [e] at h0;exact absurd h0 hk
end
