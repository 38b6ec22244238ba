/- TBase, TMath, HTMath, MMath, DEnv, TMath2, Math3, QEnv, VI1, Amt, VS1, SetW -/
import Derived.Test.YtbfdcmodflnkfaaGreatDoorU1
import Derived.Deep.QuietTactic
import Derived.BigQuiet
import Derived.ProofKit
import Derived.OpenShut
import Derived.ChangeOld
import Derived.Deep.Strs
import Derived.Deep.Slices
import Derived.Carry
import Derived.JoinedOf
import Derived.JoinedAt
import Derived.RangeFuncNested
import Derived.RangeFuncBound
import Derived.RangeFuncCalls
import Derived.RangeFuncLeaves
import Derived.RangeFuncBox
import Derived.RangeFuncWrites
import Derived.Shelf.Abstract
import Derived.Shelf.RegionOpen
import Derived.OwnWalkIn
import Derived.TacticsInMore
import Derived.LoopNIn
import Derived.LoopIn
set_option maxRecDepth 100000
set_option maxHeartbeats 16000000
namespace Go.Proofs.YtbfdcmodflnkfaaGreatDoor
section
open Go.RowKit
theorem two (b:Bool):b=true∨b=false:=by cases b <;> simp
theorem hZz {p:Prop} (h:p):Hid p:=h
def errV (n:Int):Value:=if n=0 then .nilIface else .iface 94 (.int .i64 n)
theorem below_drewN {B:Nat} {a w:World} (h:Below B a w) (n:Nat):Below B a (w.drewN n):=⟨h.os,h.tape,h.output,h.size,h.block⟩
theorem or_step (s n:Nat) (hs:s<18446744073709551616) (hn:n<64):bits BinOp.or IntKind.u64 (s:Int) (IntKind.u64.wrap (2 ^ n))=((s ||| 2 ^ n:Nat):Int):=by
 have hp:2 ^ n<18446744073709551616:=Nat.pow_lt_pow_right (a:=2) (by omega) hn
 rw [show (2 ^ n:Int)=((2 ^ n:Nat):Int) by simp]
 generalize 2 ^ n=q at hp ⊢
 rw [IntKind.wrap_u64,show (q:Int) % 18446744073709551616=(q:Int) by omega]
 exact bits_or_u64_nat s q hs hp
theorem bit_eq (A n:Nat) (hA:A<18446744073709551616):(bits BinOp.and IntKind.u64 ((A:Int) / 2 ^ n) 1 == 1)=A.testBit n:=by
 have e:((A:Int) / 2 ^ n)=((A / 2 ^ n:Nat):Int):=by simp
 have hlt:A / 2 ^ n<18446744073709551616:=Nat.lt_of_le_of_lt (Nat.div_le_self _ _) hA
 rw [e,show (1:Int)=((1:Nat):Int) from rfl,bits_and_u64_nat _ _ hlt (by omega),Nat.testBit_eq_decide_div_mod_eq,Nat.and_one_is_mod]
 rw [Bool.eq_iff_iff];simp;omega
end
section
namespace Ost
structure Cpu where
 core:Int
 sock:Int
 node:Int
deriving DecidableEq
def cpu0:Cpu:=⟨0,0,0⟩
def chosenTo (p:Cpu→Bool) (l:List Cpu):Nat→Nat
 | 0=>0
 | k+1=>if p (l.getD k cpu0) then chosenTo p l k ||| 2 ^ k else chosenTo p l k
theorem chosenTo_yes {p:Cpu→Bool} {l:List Cpu} {k:Nat} (h:p (l.getD k cpu0)=true):chosenTo p l (k+1)=chosenTo p l k ||| 2 ^ k:=by rw [chosenTo,if_pos h]
theorem chosenTo_no {p:Cpu→Bool} {l:List Cpu} {k:Nat} (h:p (l.getD k cpu0)=false):chosenTo p l (k+1)=chosenTo p l k:=by rw [chosenTo,if_neg (by rw [h];simp)]
def chosen (p:Cpu→Bool) (l:List Cpu):Nat:=chosenTo p l l.length
theorem chosenTo_bit (p:Cpu→Bool) (l:List Cpu) (k i:Nat):(chosenTo p l k).testBit i=(decide (i<k) && p (l.getD i cpu0)):=by
 induction k with
 | zero=>simp [chosenTo]
 | succ k ih=>
  by_cases h:p (l.getD k cpu0)=true
  ·rw [chosenTo_yes h,Nat.testBit_or,ih,Nat.testBit_two_pow]
   by_cases hi:i=k
   ·subst hi;rw [h];simp
   ·by_cases h2:i<k
    ·simp [h2,show i<k+1 by omega,show ¬ k=i by omega]
    ·simp [h2,show ¬ i<k+1 by omega,show ¬ k=i by omega]
  ·have h':p (l.getD k cpu0)=false:=by simpa using h
   rw [chosenTo_no h',ih]
   by_cases hi:i=k
   ·subst hi;rw [h'];simp
   ·by_cases h2:i<k
    ·simp [h2,show i<k+1 by omega]
    ·simp [h2,show ¬ i<k+1 by omega]
theorem chosenTo_lt (p:Cpu→Bool) (l:List Cpu) (k:Nat) (hk:k≤64):chosenTo p l k<18446744073709551616:=by
 apply Nat.lt_pow_two_of_testBit (n:=64)
 intro i hi
 rw [chosenTo_bit]
 simp [show ¬ i<k by omega]
theorem chosen_bit (p:Cpu→Bool) (l:List Cpu) (i:Nat):(chosen p l).testBit i=(decide (i<l.length) && p (l.getD i cpu0)):=chosenTo_bit p l _ i
end Ost
end
section
namespace Ost
theorem take_getD {α:Type} (l:List α) (d:α) (k:Nat) (h:k<l.length):l.take (k+1)=l.take k++[l.getD k d]:=by
 rw [List.take_succ_eq_append_getElem h];simp [h]
theorem hintsTo_eq (free all:N4) (many:Int) (F:Nat) (l:List Nat) (k:Nat) (hk:k≤l.length):hintsTo free all many F l k=((l.take k).filter fun m=>decide (many≤sumOn free m)).map fun m=>(m,goodH all many F m):=by
 induction k with
 | zero=>simp [hintsTo]
 | succ k ih=>
  rw [take_getD l 0 k (by omega),List.filter_append,List.map_append,← ih (by omega),hintsTo]
  by_cases h:decide (many≤sumOn free (l.getD k 0))=true
  ·rw [if_pos h]
   generalize l.getD k 0=m at *
   simp [h]
  ·rw [if_neg h]
   generalize l.getD k 0=m at *
   simp [h]
theorem hints_eq (free all:N4) (nodes:Nat) (many:Int):hints free all nodes many=((masksTo nodes 16).filter fun m=>decide (many≤sumOn free m)).map fun m=>(m,goodH all many (few all nodes many) m):=by
 unfold hints
 rw [hintsTo_eq _ _ _ _ _ _ (Nat.le_refl _),List.take_length]
theorem hints_mem {free all:N4} {nodes:Nat} {many:Int} {h:Nat × Bool} (hm:h∈hints free all nodes many):1≤h.1∧h.1<16∧h.1 &&& nodes=h.1∧many≤sumOn free h.1∧h.2=goodH all many (few all nodes many) h.1:=by
 rw [hints_eq,List.mem_map] at hm
 obtain ⟨m,hm,rfl⟩:=hm
 rw [List.mem_filter] at hm
 have h1:=masksTo_mem hm.1
 simp only [isSub,Bool.and_eq_true,decide_eq_true_eq] at h1
 exact ⟨h1.2.1,h1.1,h1.2.2,of_decide_eq_true hm.2,rfl⟩
theorem hints_len (free all:N4) (nodes:Nat) (many:Int):(hints free all nodes many).length≤16:=by
 unfold hints
 have h1:=hintsTo_le free all many (few all nodes many) (masksTo nodes 16) (masksTo nodes 16).length
 have h2:=masksTo_le nodes 16
 omega
end Ost
end
section
namespace Ost
abbrev Hi:=Nat × Bool
structure Wi where
 any:Bool
 hs:List Hi
def wi0:Wi:=⟨false,[]⟩
def bet (a b:Hi):Bool:=if a.2 != b.2 then a.2 else if pop8 a.1 != pop8 b.1 then decide (pop8 a.1<pop8 b.1) else decide (a.1<b.1)
def key (a:Hi):Nat:=(if a.2 then 0 else 4096)+pop8 a.1*256+a.1
theorem bet_key (a b:Hi) (ha:a.1<256) (hb:b.1<256):bet a b=decide (key a<key b):=by
 obtain ⟨m,g⟩:=a
 obtain ⟨n,f⟩:=b
 have h1:=pop8_le m
 have h2:=pop8_le n
 simp only at ha hb
 unfold bet key
 by_cases hp:pop8 m=pop8 n
 ·cases g <;> cases f <;> simp [hp] <;> omega
 ·have hp':(pop8 m != pop8 n)=true:=by simpa using hp
  cases g <;> cases f <;> simp [hp] <;> omega
def bestTo (L:List Hi) (b0:Hi):Nat→Hi
 | 0=>b0
 | k+1=>if bet (L.getD k (0,false)) (bestTo L b0 k) then L.getD k (0,false) else bestTo L b0 k
def best (L:List Hi) (b0:Hi):Hi:=bestTo L b0 L.length
def Low (L:List Hi):Prop:=∀ x,x∈L→x.1<256
theorem getD_mem {α:Type} (L:List α) (d:α) (k:Nat) (h:k<L.length):L.getD k d∈L:=by simp [h]
theorem mem_getD {α:Type} {L:List α} (d:α) {x:α} (h:x∈L):∃ k,k<L.length∧L.getD k d=x:=by
 obtain ⟨k,hk,he⟩:=List.getElem_of_mem h
 exact ⟨k,hk,by simp [hk,he]⟩
theorem bestTo_spec (L:List Hi) (b0:Hi) (hL:Low L) (h0:b0.1<256) (k:Nat) (hk:k≤L.length) :
  (bestTo L b0 k=b0∨bestTo L b0 k∈L)∧(bestTo L b0 k).1<256∧key (bestTo L b0 k)≤key b0∧∀ j,j<k→key (bestTo L b0 k)≤key (L.getD j (0,false)):=by
 induction k with
 | zero=>exact ⟨.inl rfl,h0,Nat.le_refl _,fun j hj=>by omega⟩
 | succ k ih=>
  obtain ⟨h1,h2,h3,h4⟩:=ih (by omega)
  have hm:=getD_mem L (0,false) k (by omega)
  have hx:=hL _ hm
  rw [bestTo]
  generalize hz:L.getD k (0,false)=x at *
  have hbk:=bet_key x (bestTo L b0 k) hx h2
  by_cases hb:bet x (bestTo L b0 k)=true
  ·rw [if_pos hb]
   rw [hb] at hbk
   have hlt:=of_decide_eq_true hbk.symm
   refine ⟨.inr hm,hx,by omega,fun j hj=>?_⟩
   by_cases e:j=k
   ·subst e;rw [hz];exact Nat.le_refl _
   ·have:=h4 j (by omega);omega
  ·rw [if_neg hb]
   have hb':bet x (bestTo L b0 k)=false:=by simpa using hb
   rw [hb'] at hbk
   have hge:=of_decide_eq_false hbk.symm
   refine ⟨h1,h2,h3,fun j hj=>?_⟩
   by_cases e:j=k
   ·subst e;rw [hz];omega
   ·exact h4 j (by omega)
theorem best_lt {L:List Hi} {b0:Hi} (hL:Low L) (h0:b0.1<256) (k:Nat) (hk:k≤L.length):(bestTo L b0 k).1<256:=(bestTo_spec L b0 hL h0 k hk).2.1
theorem best_mem {L:List Hi} {b0:Hi} (hL:Low L) (h0:b0.1<256):best L b0=b0∨best L b0∈L:=(bestTo_spec L b0 hL h0 _ (Nat.le_refl _)).1
theorem best_le {L:List Hi} {b0:Hi} (hL:Low L) (h0:b0.1<256) {x:Hi} (hx:x∈L):key (best L b0)≤key x:=by
 obtain ⟨k,hk,rfl⟩:=mem_getD (0,false) hx
 exact (bestTo_spec L b0 hL h0 _ (Nat.le_refl _)).2.2.2 k hk
def okH (pol:Int) (h:Hi):Bool:=decide (pol<3) || (h.2 && decide (pop8 h.1=1))
def cho (pol:Int) (nodes:Nat) (w:Wi):List Hi:=if w.any then [(nodes,true)] else if (w.hs.filter (okH pol)).length=0 then [(nodes,false)] else w.hs.filter (okH pol)
def com (a c:Hi):Hi:=(a.1 &&& c.1,a.2 && c.2)
def reach (pol:Int) (nodes:Nat) (ws:List Wi):Nat→Hi→Prop
 | 0,h=>h=(nodes,true)
 | k+1,h=>h.1≠0∧∃ a c,reach pol nodes ws k a∧c∈cho pol nodes (ws.getD k wi0)∧h=com a c
theorem com_sub {a c:Hi} {nodes:Nat} (h:a.1 &&& nodes=a.1):(com a c).1 &&& nodes=(com a c).1:=by
 show (a.1 &&& c.1) &&& nodes=a.1 &&& c.1
 rw [Nat.and_assoc,Nat.and_comm c.1,← Nat.and_assoc,h]
theorem reach_sub {pol:Int} {nodes:Nat} {ws:List Wi} {k:Nat} {h:Hi} (hr:reach pol nodes ws k h):h.1 &&& nodes=h.1:=by
 induction k generalizing h with
 | zero=>rw [show h=(nodes,true) from hr];exact Nat.and_self _
 | succ k ih=>
  obtain ⟨_,a,c,ha,_,rfl⟩:=hr
  exact com_sub (ih ha)
theorem reach_lt {pol:Int} {nodes:Nat} {ws:List Wi} {k:Nat} {h:Hi} (hn:nodes<256) (hr:reach pol nodes ws k h):h.1<256:=by
 rw [← reach_sub hr]
 exact Nat.lt_of_le_of_lt Nat.and_le_right hn
def Outs (pol:Int) (nodes:Nat) (ws:List Wi) (k:Nat) (L:List Hi):Prop:=∀ x,x∈L↔reach pol nodes ws k x
theorem Outs.low {pol:Int} {nodes:Nat} {ws:List Wi} {k:Nat} {L:List Hi} (h:Outs pol nodes ws k L) (hn:nodes<256):Low L:=fun x hx=>reach_lt hn ((h x).1 hx)
def within (nodes:Nat) (h:Hi):Hi:=(h.1 &&& nodes,h.2)
theorem com_within {a c:Hi} {nodes:Nat} (h:a.1 &&& nodes=a.1):com a (within nodes c)=com a c:=by
 unfold com within
 show (a.1 &&& (c.1 &&& nodes),a.2 && c.2)=_
 rw [Nat.and_comm c.1,← Nat.and_assoc,h]
def withL (l:List Hi) (h:Hi):List Hi:=if h∈l then l else l++[h]
theorem withL_mem (l:List Hi) (h x:Hi):x∈withL l h↔x∈l∨x=h:=by
 unfold withL
 split
 ·rename_i hm
  constructor
  ·exact .inl
  ·rintro (h1|rfl)
   ·exact h1
   ·exact hm
 ·simp
theorem withL_len (l:List Hi) (h:Hi):(withL l h).length≤l.length+1:=by
 unfold withL
 split
 ·omega
 ·simp
def choTo (pol:Int) (nodes:Nat) (hs:List Hi):Nat→List Hi
 | 0=>[]
 | k+1=>if okH pol (hs.getD k (0,false)) then withL (choTo pol nodes hs k) (within nodes (hs.getD k (0,false))) else choTo pol nodes hs k
theorem choTo_len (pol:Int) (nodes:Nat) (hs:List Hi) (k:Nat):(choTo pol nodes hs k).length≤k:=by
 induction k with
 | zero=>exact Nat.le_refl _
 | succ k ih=>
  rw [choTo]
  split
  ·exact Nat.le_trans (withL_len _ _) (by omega)
  ·omega
theorem choTo_mem (pol:Int) (nodes:Nat) (hs:List Hi) (k:Nat) (x:Hi):x∈choTo pol nodes hs k↔∃ j,j<k∧okH pol (hs.getD j (0,false))=true∧x=within nodes (hs.getD j (0,false)):=by
 induction k with
 | zero=>simp [choTo]
 | succ k ih=>
  rw [choTo]
  split
  ·rename_i h
   rw [withL_mem,ih]
   constructor
   ·rintro (⟨j,hj,h1,h2⟩|h1)
    ·exact ⟨j,by omega,h1,h2⟩
    ·exact ⟨k,by omega,h,h1⟩
   ·rintro ⟨j,hj,h1,h2⟩
    by_cases e:j=k
    ·subst e;exact .inr h2
    ·exact .inl ⟨j,by omega,h1,h2⟩
  ·rename_i h
   rw [ih]
   constructor
   ·rintro ⟨j,hj,h1,h2⟩
    exact ⟨j,by omega,h1,h2⟩
   ·rintro ⟨j,hj,h1,h2⟩
    by_cases e:j=k
    ·subst e;exact absurd h1 h
    ·exact ⟨j,by omega,h1,h2⟩
def choP (pol:Int) (nodes:Nat) (w:Wi):List Hi:=if w.any then [(nodes,true)] else if (choTo pol nodes w.hs w.hs.length).length=0 then [(nodes,false)] else choTo pol nodes w.hs w.hs.length
theorem choTo_all (pol:Int) (nodes:Nat) (hs:List Hi) (x:Hi):x∈choTo pol nodes hs hs.length↔∃ c,c∈hs.filter (okH pol)∧x=within nodes c:=by
 rw [choTo_mem]
 constructor
 ·rintro ⟨j,hj,h1,h2⟩
  exact ⟨_,List.mem_filter.2 ⟨getD_mem _ _ _ hj,h1⟩,h2⟩
 ·rintro ⟨c,hc,h2⟩
  rw [List.mem_filter] at hc
  obtain ⟨j,hj,rfl⟩:=mem_getD (0,false) hc.1
  exact ⟨j,hj,hc.2,h2⟩
theorem nil_iff {α:Type} (l:List α):l.length=0↔∀ x,x ∉ l:=by
 cases l with
 | nil=>simp
 | cons a r=>
  constructor
  ·intro h;simp at h
  ·intro h;exact absurd List.mem_cons_self (h a)
theorem choP_mem (pol:Int) (nodes:Nat) (w:Wi) (x:Hi):x∈choP pol nodes w↔∃ c,c∈cho pol nodes w∧x=within nodes c:=by
 unfold choP cho
 cases w.any
 ·have e:(choTo pol nodes w.hs w.hs.length).length=0↔(w.hs.filter (okH pol)).length=0:=by
   rw [nil_iff,nil_iff]
   constructor
   ·intro h x hx
    exact h (within nodes x) ((choTo_all ..).2 ⟨x,hx,rfl⟩)
   ·intro h x hx
    obtain ⟨c,hc,_⟩:=(choTo_all ..).1 hx
    exact h c hc
  simp only [Bool.false_eq_true,if_false]
  by_cases h:(w.hs.filter (okH pol)).length=0
  ·rw [if_pos h,if_pos (e.2 h)]
   simp [within]
  ·rw [if_neg h,if_neg (fun h'=>h (e.1 h'))]
   exact choTo_all ..
 ·simp [within]
theorem choP_len (pol:Int) (nodes:Nat) (w:Wi) (h:w.hs.length≤16):(choP pol nodes w).length≤16:=by
 unfold choP
 split
 ·simp
 ·split
  ·simp
  ·exact Nat.le_trans (choTo_len ..) h
def nextIn (c:Hi) (W:List Hi) (N:List Hi):Nat→List Hi
 | 0=>N
 | j+1=>if (com (W.getD j (0,false)) c).1=0 then nextIn c W N j else withL (nextIn c W N j) (com (W.getD j (0,false)) c)
def nextTo (C W:List Hi):Nat→List Hi
 | 0=>[]
 | i+1=>nextIn (C.getD i (0,false)) W (nextTo C W i) W.length
theorem nextIn_len (c:Hi) (W N:List Hi) (j:Nat):(nextIn c W N j).length≤N.length+j:=by
 induction j with
 | zero=>exact Nat.le_refl _
 | succ j ih=>
  rw [nextIn]
  split
  ·omega
  ·exact Nat.le_trans (withL_len _ _) (by omega)
theorem nextTo_len (C W:List Hi) (i:Nat):(nextTo C W i).length≤i*W.length:=by
 induction i with
 | zero=>simp [nextTo]
 | succ i ih=>
  rw [nextTo,Nat.succ_mul]
  exact Nat.le_trans (nextIn_len ..) (by omega)
theorem nextIn_mem (c:Hi) (W N:List Hi) (j:Nat) (x:Hi):x∈nextIn c W N j↔x∈N∨∃ i,i<j∧x.1≠0∧x=com (W.getD i (0,false)) c:=by
 induction j with
 | zero=>simp [nextIn]
 | succ j ih=>
  rw [nextIn]
  split
  ·rename_i h
   rw [ih]
   constructor
   ·rintro (h1|⟨i,hi,h1⟩)
    ·exact .inl h1
    ·exact .inr ⟨i,by omega,h1⟩
   ·rintro (h1|⟨i,hi,h1,h2⟩)
    ·exact .inl h1
    ·by_cases e:i=j
     ·subst e;rw [← h2] at h;exact absurd h h1
     ·exact .inr ⟨i,by omega,h1,h2⟩
  ·rename_i h
   rw [withL_mem,ih]
   constructor
   ·rintro ((h1|⟨i,hi,h1⟩)|rfl)
    ·exact .inl h1
    ·exact .inr ⟨i,by omega,h1⟩
    ·exact .inr ⟨j,by omega,h,rfl⟩
   ·rintro (h1|⟨i,hi,h1,h2⟩)
    ·exact .inl (.inl h1)
    ·by_cases e:i=j
     ·subst e;exact .inr h2
     ·exact .inl (.inr ⟨i,by omega,h1,h2⟩)
theorem nextTo_mem (C W:List Hi) (i:Nat) (x:Hi):x∈nextTo C W i↔x.1≠0∧∃ k,k<i∧∃ a,a∈W∧x=com a (C.getD k (0,false)):=by
 induction i with
 | zero=>simp [nextTo]
 | succ i ih=>
  rw [nextTo,nextIn_mem,ih]
  constructor
  ·rintro (⟨h0,k,hk,a,ha,h1⟩|⟨j,hj,h0,h1⟩)
   ·exact ⟨h0,k,by omega,a,ha,h1⟩
   ·exact ⟨h0,i,by omega,_,getD_mem _ _ _ hj,h1⟩
  ·rintro ⟨h0,k,hk,a,ha,h1⟩
   by_cases e:k=i
   ·subst e
    obtain ⟨j,hj,rfl⟩:=mem_getD (0,false) ha
    exact .inr ⟨j,hj,h0,h1⟩
   ·exact .inl ⟨h0,k,by omega,a,ha,h1⟩
def waysTo (pol:Int) (nodes:Nat) (ws:List Wi):Nat→List Hi
 | 0=>[(nodes,true)]
 | k+1=>nextTo (choP pol nodes (ws.getD k wi0)) (waysTo pol nodes ws k) (choP pol nodes (ws.getD k wi0)).length
theorem waysTo_outs (pol:Int) (nodes:Nat) (ws:List Wi) (k:Nat):Outs pol nodes ws k (waysTo pol nodes ws k):=by
 induction k with
 | zero=>intro x;simp [waysTo,reach]
 | succ k ih=>
  intro x
  rw [waysTo,nextTo_mem,reach]
  constructor
  ·rintro ⟨h0,j,hj,a,ha,h1⟩
   obtain ⟨c,hc,h2⟩:=(choP_mem ..).1 (getD_mem _ (0,false) _ hj)
   refine ⟨h0,a,c,(ih a).1 ha,hc,?_⟩
   rw [h1,h2,com_within (reach_sub ((ih a).1 ha))]
  ·rintro ⟨h0,a,c,ha,hc,h1⟩
   obtain ⟨j,hj,h2⟩:=mem_getD (0,false) ((choP_mem ..).2 ⟨c,hc,rfl⟩)
   refine ⟨h0,j,hj,a,(ih a).2 ha,?_⟩
   rw [h2,com_within (reach_sub ha),h1]
theorem pow_le4 (k:Nat) (h:k≤4):16 ^ k≤65536:=by
 have:k=0∨k=1∨k=2∨k=3∨k=4:=by omega
 rcases this with rfl|rfl|rfl|rfl|rfl <;> decide
theorem waysTo_len (pol:Int) (nodes:Nat) (ws:List Wi) (hw:∀ w,w∈ws→w.hs.length≤16) (k:Nat) (hk:k≤ws.length):(waysTo pol nodes ws k).length≤16 ^ k:=by
 induction k with
 | zero=>simp [waysTo]
 | succ k ih=>
  rw [waysTo]
  have h1:=nextTo_len (choP pol nodes (ws.getD k wi0)) (waysTo pol nodes ws k) (choP pol nodes (ws.getD k wi0)).length
  have h2:=choP_len pol nodes (ws.getD k wi0) (hw _ (getD_mem _ _ _ (by omega)))
  have h3:=Nat.mul_le_mul h2 (ih (by omega))
  rw [Nat.pow_succ]
  omega
def told (pol:Int) (nodes:Nat) (ws:List Wi):Hi:=best (waysTo pol nodes ws ws.length) (nodes,false)
theorem told_lt (pol:Int) (nodes:Nat) (ws:List Wi) (hn:nodes<256):(told pol nodes ws).1<256:=best_lt (Outs.low (waysTo_outs pol nodes ws ws.length) hn) hn _ (Nat.le_refl _)
theorem told_least {pol:Int} {nodes:Nat} {ws:List Wi} (hn:nodes<256) {x:Hi} (hx:reach pol nodes ws ws.length x):key (told pol nodes ws)≤key x:=
 best_le (Outs.low (waysTo_outs pol nodes ws ws.length) hn) hn ((waysTo_outs pol nodes ws ws.length x).2 hx)
theorem reach_good {nodes:Nat} {ws:List Wi} {k:Nat} {h:Hi} (hr:reach 3 nodes ws k h) (hg:h.2=true):reach 2 nodes ws k h:=by
 induction k generalizing h with
 | zero=>exact hr
 | succ k ih=>
  obtain ⟨h0,a,c,ha,hc,rfl⟩:=hr
  have hg':(a.2 && c.2)=true:=hg
  rw [Bool.and_eq_true] at hg'
  refine ⟨h0,a,c,ih ha hg'.1,?_,rfl⟩
  unfold cho at hc ⊢
  split at hc
  ·rename_i h;rw [if_pos h];exact hc
  ·rename_i h
   rw [if_neg h]
   split at hc
   ·rw [List.mem_singleton] at hc
    rw [hc] at hg';simp at hg'
   ·have hm:=(List.mem_filter.1 hc).1
    have hm2:c∈(ws.getD k wi0).hs.filter (okH 2):=List.mem_filter.2 ⟨hm,by simp [okH]⟩
    rw [if_neg (fun h0=>(nil_iff _).1 h0 _ hm2)]
    exact hm2
theorem key_good (a b:Hi) (ha:a.1<256) (hg:a.2=true) (h:key b≤key a):b.2=true:=by
 obtain ⟨m,g⟩:=a
 obtain ⟨n,f⟩:=b
 have h1:=pop8_le m
 simp only at ha hg
 subst hg
 unfold key at h
 cases f
 ·simp at h;omega
 ·rfl
theorem told_strict {nodes:Nat} {ws:List Wi} (hn:nodes<256) (h:(told 3 nodes ws).2=true):(told 2 nodes ws).2=true:=by
 rcases best_mem (Outs.low (waysTo_outs 3 nodes ws ws.length) hn) (b0:=(nodes,false)) hn with e|e
 ·unfold told at h
  rw [e] at h
  cases h
 ·have hr:=(waysTo_outs 3 nodes ws ws.length _).1 e
  exact key_good _ _ (reach_lt hn hr) h (told_least hn (reach_good hr h))
end Ost
end
section
open Go.ChangeShapes Go.WideShapes Go.ChangeAt Go.RowKit
open Dvs (Dv dv0 dv nth)
def RowsOf (W:World) (v:Value) (N:Nat) (p:List Value→Prop):Prop:=
 ∃ ao len c,v=.slice ao len c∧len≤maxLen∧(0<len→∃ b o,ao=some ⟨b,o,none⟩∧b<W.heap.size∧∀ k,k<len→∃ cs:List Value,cs.length=N∧(∀ j,j<N→W.cell? ⟨b,o+k*N+j,none⟩=cs[j]?)∧p cs)
theorem RowsOf.below {W W':World} {v:Value} {N:Nat} {p q:List Value→Prop} (h:RowsOf W v N p) (hb:Below W.heap.size W W') (hp:∀ cs,p cs→q cs):RowsOf W' v N q:=by
 obtain ⟨ao,len,c,hv,hm,hr⟩:=h
 refine ⟨ao,len,c,hv,hm,fun h0=>?_⟩
 obtain ⟨b,o,ha,hlt,hc⟩:=hr h0
 refine ⟨b,o,ha,Nat.lt_of_lt_of_le hlt hb.size,fun k hk=>?_⟩
 obtain ⟨cs,hl,hcs,hpc⟩:=hc k hk
 exact ⟨cs,hl,fun j hj=>(hb.cell (p:=⟨b,o+k*N+j,none⟩) hlt).trans (hcs j hj),hp cs hpc⟩
section
variable {H:Type} {enc:TypeId × Value→H} {P:Program} {W:World}
theorem trod_field {base:Nat} {spare:Nat→Bool} {held:Bool} {fuel:Nat} {t:TypeId} {cs:List Value} {x:DataW H × List MemPlace} {fs:Array Field} (ht:P.underlying t=some (.struct fs)) (h:DataW.trod enc P W base spare held fuel t cs=some x) (i:Nat) (ty:TypeId) (off N:Nat) (hc:P.cellsOf ty=N) (hf:(fs[i]?).map (fun f=>(f.type,f.offset))=some (ty,off)) :
  ∃ n y,DataW.trod enc P W base spare held n ty ((cs.drop off).take N)=some y:=by
 obtain ⟨xs,n,_,_,_,hlen,hx⟩:=DataW.trod_struct ht h
 obtain ⟨f,hg,e⟩:=Option.map_eq_some_iff.1 hf
 cases e
 subst hc
 have hi:i<xs.length:=by rw [hlen];exact (Array.getElem?_eq_some_iff.1 hg).1
 exact ⟨n,xs[i],by rw [hx i f hg];exact List.getElem?_eq_getElem hi⟩
theorem rows_of_trod {t e:TypeId} {N fuel:Nat} {v:Value} {x:DataW H × List MemPlace} {p:List Value→Prop} (ht:P.underlying t=some (.slice e)) (hN:P.cellsOf e=N) (h0:0<N)
  (h:DataW.trod enc P W 0 (fun _=>true) true fuel t [v]=some x) (hp:∀ n cs y,cs.length=N→DataW.trod enc P W 0 (fun _=>true) true n e cs=some y→p cs):RowsOf W v N p:=by
 rcases Deep.open_slice ht h with ⟨hcs,_⟩|⟨a,len,cap,m,n,D,Pl,hcs,_,hl,hm,hmm,_,hx⟩
 ·simp at hcs
  subst hcs
  exact ⟨none,0,0,rfl,Nat.zero_le _,fun h=>by omega⟩
 ·simp at hcs
  subst hcs
  rw [if_pos rfl] at hmm
  subst hmm
  rw [hN] at hx
  refine ⟨some a,len,_,rfl,Nat.le_trans hl hm,fun hpos=>?_⟩
  obtain ⟨b,off,spot⟩:=a
  obtain ⟨cs0,h10,_⟩:=hx 0 (by omega)
  obtain ⟨_,hlen0,hc0⟩:=World.cells?_some h10
  have hc:=hc0 0 (by omega)
  rw [List.getElem?_eq_getElem (by omega)] at hc
  have hspot:spot=none:=by simpa [Addr.add] using World.cell?_spot hc
  subst hspot
  refine ⟨b,off,rfl,?_,fun k hk=>?_⟩
  ·rw [Deep.add_add,Addr.add_lit] at hc
   exact World.block_lt_of_cell? W _ hc
  ·obtain ⟨cs,h1,h2⟩:=hx k (by omega)
   obtain ⟨_,hlen,hcell⟩:=World.cells?_some h1
   refine ⟨cs,hlen,fun j hj=>?_,hp n cs _ hlen h2⟩
   have:=hcell j hj
   rw [Deep.add_add,Addr.add_lit,← Nat.add_assoc] at this
   exact this
end
theorem c_string:Tryz.prog.cellsOf 9=1:=by kernel_rfl
theorem c_int:Tryz.prog.cellsOf 3=1:=by kernel_rfl
theorem c_bool:Tryz.prog.cellsOf 4=1:=by kernel_rfl
theorem c_Amount:Tryz.prog.cellsOf 56=2:=by kernel_rfl
theorem c_Need:Tryz.prog.cellsOf 80=2:=by kernel_rfl
theorem c_Cont:Tryz.prog.cellsOf 64=6:=by kernel_rfl
theorem c_Pod:Tryz.prog.cellsOf 31=3:=by kernel_rfl
theorem c_needs:Tryz.prog.cellsOf 62=1:=by kernel_rfl
theorem c_conts:Tryz.prog.cellsOf 29=1:=by kernel_rfl
def intP (cs:List Value):Prop:=∃ x:Int,cs=[.int .i64 x]
def pairP (cs:List Value):Prop:=∃ (s:ByteArray) (x:Int),cs=[.string s,.int .i64 x]
def contP (W:World) (cs:List Value):Prop:=∃ (nm:ByteArray) (a b c d:Int) (v:Value),cs=[.string nm,.int .i64 a,.int .i64 b,.int .i64 c,.int .i64 d,v]∧RowsOf W v 2 pairP
theorem contP.below {W W':World} {cs:List Value} (h:contP W cs) (hb:Below W.heap.size W W'):contP W' cs:=by
 obtain ⟨nm,a,b,c,d,v,rfl,hv⟩:=h
 exact ⟨nm,a,b,c,d,v,rfl,hv.below hb fun _ h=>h⟩
section
variable {H:Type} {enc:TypeId × Value→H} {W:World}
theorem int_of_trod {n:Nat} {cs:List Value} {y:DataW H × List MemPlace} (h:DataW.trod enc Tryz.prog W 0 (fun _=>true) true n 3 cs=some y):intP cs:=by
 obtain ⟨p,e,_,_⟩:=DataW.trod_int Tryz.underlying3 h
 exact ⟨p,e⟩
theorem str_of_trod {n:Nat} {cs:List Value} {y:DataW H × List MemPlace} (h:DataW.trod enc Tryz.prog W 0 (fun _=>true) true n 9 cs=some y):∃ s:ByteArray,cs=[.string s]:=by
 obtain ⟨p,e,_⟩:=DataW.trod_string Tryz.underlying9 h
 exact ⟨p,e⟩
theorem need_of_trod {n:Nat} {cs:List Value} {y:DataW H × List MemPlace} (hl:cs.length=2) (h:DataW.trod enc Tryz.prog W 0 (fun _=>true) true n 80 cs=some y):pairP cs:=by
 obtain ⟨_,_,h0⟩:=trod_field Tryz.underlying80 h 0 9 0 _ c_string rfl
 obtain ⟨_,_,h1⟩:=trod_field Tryz.underlying80 h 1 3 1 _ c_int rfl
 match cs,hl with
 | [a,b],_=>
  obtain ⟨s,e0⟩:=str_of_trod h0
  obtain ⟨x,e1⟩:=int_of_trod h1
  simp at e0 e1
  exact ⟨s,x,by rw [e0,e1]⟩
theorem amount_of_trod {n:Nat} {cs:List Value} {y:DataW H × List MemPlace} (hl:cs.length=2) (h:DataW.trod enc Tryz.prog W 0 (fun _=>true) true n 56 cs=some y):∃ a b:Int,cs=[.int .i64 a,.int .i64 b]:=by
 obtain ⟨_,_,h0⟩:=trod_field Tryz.underlying56 h 0 3 0 _ c_int rfl
 obtain ⟨_,_,h1⟩:=trod_field Tryz.underlying56 h 1 3 1 _ c_int rfl
 match cs,hl with
 | [a,b],_=>
  obtain ⟨s,e0⟩:=int_of_trod h0
  obtain ⟨x,e1⟩:=int_of_trod h1
  simp at e0 e1
  exact ⟨s,x,by rw [e0,e1]⟩
theorem cont_of_trod {n:Nat} {cs:List Value} {y:DataW H × List MemPlace} (hl:cs.length=6) (h:DataW.trod enc Tryz.prog W 0 (fun _=>true) true n 64 cs=some y):contP W cs:=by
 obtain ⟨_,_,h0⟩:=trod_field Tryz.underlying64 h 0 9 0 _ c_string rfl
 obtain ⟨_,_,h1⟩:=trod_field Tryz.underlying64 h 1 56 1 _ c_Amount rfl
 obtain ⟨_,_,h2⟩:=trod_field Tryz.underlying64 h 2 56 3 _ c_Amount rfl
 obtain ⟨_,_,h3⟩:=trod_field Tryz.underlying64 h 3 62 5 _ c_needs rfl
 match cs,hl with
 | [a,b,c,d,e,f],_=>
  obtain ⟨s,e0⟩:=str_of_trod h0
  obtain ⟨x1,x2,e1⟩:=amount_of_trod rfl h1
  obtain ⟨x3,x4,e2⟩:=amount_of_trod rfl h2
  have h4:=rows_of_trod Tryz.underlying62 c_Need (by decide) h3 fun _ _ _ hl h=>need_of_trod hl h
  simp at e0 e1 e2
  exact ⟨s,x1,x2,x3,x4,f,by rw [e0,e1.1,e1.2,e2.1,e2.2],h4⟩
theorem pod_of_trod {n:Nat} {cs:List Value} {y:DataW H × List MemPlace} (hl:cs.length=3) (h:DataW.trod enc Tryz.prog W 0 (fun _=>true) true n 31 cs=some y):∃ (nm:ByteArray) (pr:Int) (cv:Value),cs=[.string nm,.int .i64 pr,cv]∧RowsOf W cv 6 (contP W):=by
 obtain ⟨_,_,h0⟩:=trod_field Tryz.underlying31 h 0 9 0 _ c_string rfl
 obtain ⟨_,_,h1⟩:=trod_field Tryz.underlying31 h 1 3 1 _ c_int rfl
 obtain ⟨_,_,h2⟩:=trod_field Tryz.underlying31 h 2 29 2 _ c_conts rfl
 match cs,hl with
 | [a,b,c],_=>
  obtain ⟨s,e0⟩:=str_of_trod h0
  obtain ⟨x,e1⟩:=int_of_trod h1
  have h4:=rows_of_trod Tryz.underlying29 c_Cont (by decide) h2 fun _ _ _ hl h=>cont_of_trod hl h
  simp at e0 e1
  exact ⟨s,x,c,by rw [e0,e1],h4⟩
def devP (cs:List Value):Prop:=∃ d:Dv,cs=[.string d.kind,.int .i64 d.node,.bool d.sick]
theorem dev_of_trod {n:Nat} {cs:List Value} {y:DataW H × List MemPlace} (hl:cs.length=3) (h:DataW.trod enc Tryz.prog W 0 (fun _=>true) true n 74 cs=some y):devP cs:=by
 obtain ⟨_,_,h0⟩:=trod_field Tryz.underlying74 h 0 9 0 _ c_string rfl
 obtain ⟨_,_,h1⟩:=trod_field Tryz.underlying74 h 1 3 1 _ c_int rfl
 obtain ⟨_,_,h2⟩:=trod_field Tryz.underlying74 h 2 4 2 _ c_bool rfl
 match cs,hl with
 | [a,b,c],_=>
  obtain ⟨s,e0⟩:=str_of_trod h0
  obtain ⟨x,e1⟩:=int_of_trod h1
  obtain ⟨q,e2,_⟩:=DataW.trod_bool Tryz.underlying4 h2
  simp at e0 e1 e2
  exact ⟨⟨s,x,q⟩,by rw [e0,e1,e2]⟩
end
def DevsAt (w:World) (v:Value) (g o:Nat) (ds:List Dv):Prop:=
 ∃ ao c,v=.slice ao ds.length c∧(0<ds.length→ao=some ⟨g,o,none⟩∧g<w.heap.size∧∀ k,k<ds.length→w.cell? ⟨g,o+k*3,none⟩=some (.string (dv ds k).kind)∧w.cell? ⟨g,o+k*3+1,none⟩=some (.int .i64 (dv ds k).node)∧w.cell? ⟨g,o+k*3+2,none⟩=some (.bool (dv ds k).sick))
def NumsAt (w:World) (v:Value) (g o:Nat) (l:List Int):Prop:=
 ∃ ao c,v=.slice ao l.length c∧(0<l.length→ao=some ⟨g,o,none⟩∧g<w.heap.size∧∀ k,k<l.length→w.cell? ⟨g,o+k,none⟩=some (.int .i64 (nth l k)))
theorem devs_of_rows {W:World} {v:Value} (h:RowsOf W v 3 devP):∃ ds g o,DevsAt W v g o ds∧(0<ds.length→g<W.heap.size):=by
 obtain ⟨ao,len,c,rfl,hm,hr⟩:=h
 by_cases h0:len=0
 ·subst h0
  exact ⟨[],0,0,⟨ao,c,rfl,fun h=>by simp at h⟩,fun h=>by simp at h⟩
 ·obtain ⟨b,o,rfl,hlt,hc⟩:=hr (by omega)
  obtain ⟨f,hf⟩:=Deep.choose_lt (α:=Dv) (n:=len) (p:=fun k d=>W.cell? ⟨b,o+k*3,none⟩=some (.string d.kind)∧W.cell? ⟨b,o+k*3+1,none⟩=some (.int .i64 d.node)∧W.cell? ⟨b,o+k*3+2,none⟩=some (.bool d.sick)) (fun k hk=>by
   obtain ⟨cs,_,hcs,d,rfl⟩:=hc k hk
   exact ⟨d,hcs 0 (by decide),hcs 1 (by decide),hcs 2 (by decide)⟩)
  refine ⟨(List.range len).map f,b,o,⟨_,c,by simp,fun _=>⟨rfl,hlt,fun k hk=>?_⟩⟩,fun _=>hlt⟩
  have hk':k<len:=by simpa using hk
  have e:dv ((List.range len).map f) k=f k:=by simp [dv,hk']
  rw [e]
  exact hf k hk'
end
section
namespace Ost
def inB (c:Cpu):Bool:=decide (0≤c.core) && decide (c.core<64) && (decide (0≤c.sock) && decide (c.sock<64)) && (decide (0≤c.node) && decide (c.node<4))
theorem inB_iff (c:Cpu):inB c=true↔0≤c.core∧c.core<64∧0≤c.sock∧c.sock<64∧0≤c.node∧c.node<4:=by
 simp only [inB,Bool.and_eq_true,decide_eq_true_eq];omega
def clash (a c:Cpu):Bool:=decide (a.core=c.core) && decide (a≠c)
def clashTo (l:List Cpu) (c:Cpu):Nat→Bool
 | 0=>false
 | k+1=>clashTo l c k || clash (l.getD k cpu0) c
theorem clashTo_iff (l:List Cpu) (c:Cpu) (k:Nat):clashTo l c k=true↔∃ j,j<k∧clash (l.getD j cpu0) c=true:=by
 induction k with
 | zero=>simp [clashTo]
 | succ k ih=>
  rw [clashTo,Bool.or_eq_true,ih]
  constructor
  ·rintro (⟨j,hj,h⟩|h)
   ·exact ⟨j,by omega,h⟩
   ·exact ⟨k,by omega,h⟩
  ·rintro ⟨j,hj,h⟩
   by_cases e:j=k
   ·subst e;exact .inr h
   ·exact .inl ⟨j,by omega,h⟩
def faultAt (l:List Cpu) (i:Nat):Int:=if inB (l.getD i cpu0) then (if clashTo l (l.getD i cpu0) i then 3 else 0) else 1
def faultTo (l:List Cpu):Nat→Int
 | 0=>0
 | k+1=>if faultTo l k=0 then faultAt l k else faultTo l k
def fault (l:List Cpu):Int:=if l.length=0∨64<l.length then 2 else faultTo l l.length
theorem faultTo_stay (l:List Cpu) (i k:Nat) (f:Int) (hf:f≠0) (h:faultTo l i=f):faultTo l (i+k)=f:=by
 induction k with
 | zero=>exact h
 | succ k ih=>
  show faultTo l ((i+k)+1)=f
  rw [faultTo,ih,if_neg hf]
theorem faultTo_zero (l:List Cpu) (k:Nat) (h:faultTo l k=0):∀ j,j<k→faultAt l j=0:=by
 induction k with
 | zero=>intro j hj;omega
 | succ k ih=>
  rw [faultTo] at h
  by_cases h0:faultTo l k=0
  ·rw [if_pos h0] at h
   intro j hj
   by_cases e:j=k
   ·subst e;exact h
   ·exact ih h0 j (by omega)
  ·rw [if_neg h0] at h;exact absurd h h0
theorem fault_at (l:List Cpu) (i:Nat) (f:Int) (h0:0<l.length) (h64:l.length≤64) (hi:i<l.length) (hp:faultTo l i=0) (ha:faultAt l i=f) (hf:f≠0):fault l=f:=by
 unfold fault
 rw [if_neg (by omega)]
 have:faultTo l (i+1)=f:=by rw [faultTo,if_pos hp,ha]
 have:=faultTo_stay l (i+1) (l.length - (i+1)) f hf this
 rwa [show i+1+(l.length - (i+1))=l.length by omega] at this
theorem fault_none (l:List Cpu) (h0:0<l.length) (h64:l.length≤64) (hp:faultTo l l.length=0):fault l=0:=by
 unfold fault
 rw [if_neg (by omega)];exact hp
theorem faultTo_next {l:List Cpu} {k:Nat} (h:faultTo l k=0) (hb:inB (l.getD k cpu0)=true) (hc:clashTo l (l.getD k cpu0) k=false):faultTo l (k+1)=0:=by
 rw [faultTo,if_pos h,faultAt,if_pos hb,if_neg (by rw [hc];simp)]
theorem faultAt_bound {l:List Cpu} {k:Nat} (hb:inB (l.getD k cpu0)=false):faultAt l k=1:=by rw [faultAt,if_neg (by rw [hb];simp)]
theorem faultAt_shape {l:List Cpu} {k:Nat} (hb:inB (l.getD k cpu0)=true) (hc:clashTo l (l.getD k cpu0) k=true):faultAt l k=3:=by
 rw [faultAt,if_pos hb,if_pos hc]
def seen (l:List Cpu):Nat→Int→Option Cpu
 | 0,_=>none
 | k+1,c=>if (l.getD k cpu0).core=c then some (l.getD k cpu0) else seen l k c
theorem seen_some {l:List Cpu} {k:Nat} {c:Int} {x:Cpu} (h:seen l k c=some x):∃ j,j<k∧l.getD j cpu0=x∧x.core=c:=by
 induction k with
 | zero=>simp [seen] at h
 | succ k ih=>
  rw [seen] at h
  by_cases e:(l.getD k cpu0).core=c
  ·rw [if_pos e] at h
   simp only [Option.some.injEq] at h
   exact ⟨k,by omega,h,by rw [← h];exact e⟩
  ·rw [if_neg e] at h
   obtain ⟨j,hj,r⟩:=ih h
   exact ⟨j,by omega,r⟩
theorem seen_none {l:List Cpu} {k:Nat} {c:Int} (h:seen l k c=none):∀ j,j<k→(l.getD j cpu0).core≠c:=by
 induction k with
 | zero=>intro j hj;omega
 | succ k ih=>
  rw [seen] at h
  by_cases e:(l.getD k cpu0).core=c
  ·rw [if_pos e] at h;cases h
  ·rw [if_neg e] at h
   intro j hj
   by_cases ej:j=k
   ·subst ej;exact e
   ·exact ih h j (by omega)
theorem clash_none {l:List Cpu} {k:Nat} {x:Cpu} (h:seen l k x.core=none):clashTo l x k=false:=by
 rw [Bool.eq_false_iff]
 intro hc
 obtain ⟨j,hj,h2⟩:=(clashTo_iff l x k).1 hc
 simp only [clash,Bool.and_eq_true,decide_eq_true_eq] at h2
 exact seen_none h j hj h2.1
theorem clash_seen {l:List Cpu} {k:Nat} {x y:Cpu} (hf:faultTo l k=0) (h:seen l k x.core=some y):clashTo l x k=decide (y≠x):=by
 obtain ⟨j,hj,hy,hyc⟩:=seen_some h
 rw [Bool.eq_iff_iff,clashTo_iff,decide_eq_true_eq]
 constructor
 ·rintro ⟨i,hi,h2⟩
  simp only [clash,Bool.and_eq_true,decide_eq_true_eq] at h2
  intro e
  by_cases hij:i=j
  ·subst hij;rw [hy] at h2;exact h2.2 e
  ·have key:∀ a b,a<b→b<k→(l.getD a cpu0).core=(l.getD b cpu0).core→l.getD a cpu0=l.getD b cpu0:=by
    intro a b hab hb hc
    have h0:=faultTo_zero l k hf b hb
    unfold faultAt at h0
    by_cases hB:inB (l.getD b cpu0)=true
    ·rw [if_pos hB] at h0
     by_cases hC:clashTo l (l.getD b cpu0) b=true
     ·rw [if_pos hC] at h0;cases h0
     ·apply Classical.byContradiction
      intro hne
      exact hC ((clashTo_iff _ _ _).2 ⟨a,hab,by simp only [clash,Bool.and_eq_true,decide_eq_true_eq];exact ⟨hc,hne⟩⟩)
    ·rw [if_neg hB] at h0;cases h0
   have:l.getD i cpu0=l.getD j cpu0:=by
    rcases Nat.lt_or_gt_of_ne hij with q|q
    ·exact key i j q hj (by rw [h2.1,hy,hyc])
    ·exact (key j i q hi (by rw [h2.1,hy,hyc])).symm
   rw [this,hy] at h2
   exact h2.2 e
 ·intro hne
  exact ⟨j,hj,by simp only [clash,Bool.and_eq_true,decide_eq_true_eq];rw [hy];exact ⟨hyc,hne⟩⟩
theorem fault_good {l:List Cpu} (h:fault l=0):0<l.length∧l.length≤64∧∀ c∈l,inB c=true:=by
 unfold fault at h
 by_cases hl:l.length=0∨64<l.length
 ·rw [if_pos hl] at h;cases h
 ·rw [if_neg hl] at h
  refine ⟨by omega,by omega,fun c hc=>?_⟩
  obtain ⟨i,hi,rfl⟩:=List.getElem_of_mem hc
  have h0:=faultTo_zero l _ h i hi
  have e:l.getD i cpu0=l[i]:=by simp [hi]
  unfold faultAt at h0
  rw [e] at h0
  by_cases hB:inB l[i]=true
  ·exact hB
  ·rw [if_neg hB] at h0;cases h0
end Ost
end
section
namespace Ost
end Ost
end
section
open Go.ChangeShapes Go.WideShapes Go.ChangeAt Go.RowKit
open Qos (Nd Ct Pd nd0 ct0 pd0 nd ct pd)
def NeedsAt (w:World) (v:Value) (ds:List Nd):Prop:=
 ∃ ao c,v=.slice ao ds.length c∧ds.length≤maxLen∧(0<ds.length→∃ b o,ao=some ⟨b,o,none⟩∧b<w.heap.size∧∀ k,k<ds.length→w.cell? ⟨b,o+k*2,none⟩=some (.string (nd ds k).kind)∧w.cell? ⟨b,o+k*2+1,none⟩=some (.int .i64 (nd ds k).many))
def contCells (c:Ct) (dv:Value):List Value:=[.string c.nm,.int .i64 c.am,.int .i64 c.ab,.int .i64 c.cm,.int .i64 c.cb,dv]
def ConsIn (w:World) (b o:Nat) (cs:List Ct) (dv:Nat→Value):Prop:=
 b<w.heap.size∧∀ k,k<cs.length→(∀ j,j<6→w.cell? ⟨b,o+k*6+j,none⟩=(contCells (ct cs k) (dv k))[j]?)∧NeedsAt w (dv k) (ct cs k).ds
def ConsAt (w:World) (v:Value) (cs:List Ct):Prop:=
 ∃ ao c,v=.slice ao cs.length c∧(cs.length≤c∧c≤maxLen)∧(0<cs.length→∃ b o dv,ao=some ⟨b,o,none⟩∧ConsIn w b o cs dv)
def podV (p:Pd) (cv:Value):Value:=.agg #[.string p.nm,.int .i64 p.pr,cv]
def PodsIn (w:World) (b o:Nat) (ps:List Pd) (cv:Nat→Value):Prop:=
 b<w.heap.size∧∀ k,k<ps.length→(w.cell? ⟨b,o+k*3,none⟩=some (.string (pd ps k).nm)∧w.cell? ⟨b,o+k*3+1,none⟩=some (.int .i64 (pd ps k).pr)∧w.cell? ⟨b,o+k*3+2,none⟩=some (cv k))∧ConsAt w (cv k) (pd ps k).cs
def PodsAt (w:World) (v:Value) (ps:List Pd):Prop:=
 ∃ ao c,v=.slice ao ps.length c∧ps.length≤maxLen∧(0<ps.length→∃ b o cv,ao=some ⟨b,o,none⟩∧PodsIn w b o ps cv)
theorem NeedsAt.below {w w':World} {v:Value} {ds:List Nd} (h:NeedsAt w v ds) (hb:Below w.heap.size w w'):NeedsAt w' v ds:=by
 obtain ⟨ao,c,hv,hm,hr⟩:=h
 refine ⟨ao,c,hv,hm,fun h0=>?_⟩
 obtain ⟨b,o,ha,hlt,hc⟩:=hr h0
 refine ⟨b,o,ha,Nat.lt_of_lt_of_le hlt hb.size,fun k hk=>?_⟩
 obtain ⟨h1,h2⟩:=hc k hk
 exact ⟨(hb.cell (p:=⟨b,o+k*2,none⟩) hlt).trans h1,(hb.cell (p:=⟨b,o+k*2+1,none⟩) hlt).trans h2⟩
theorem ConsIn.below {w w':World} {b o:Nat} {cs:List Ct} {dv:Nat→Value} (h:ConsIn w b o cs dv) (hb:Below w.heap.size w w'):ConsIn w' b o cs dv:=
 ⟨Nat.lt_of_lt_of_le h.1 hb.size,fun k hk=>⟨fun j hj=>(hb.cell (p:=⟨b,o+k*6+j,none⟩) h.1).trans ((h.2 k hk).1 j hj),(h.2 k hk).2.below hb⟩⟩
theorem ConsAt.below {w w':World} {v:Value} {cs:List Ct} (h:ConsAt w v cs) (hb:Below w.heap.size w w'):ConsAt w' v cs:=by
 obtain ⟨ao,c,hv,hm,hr⟩:=h
 refine ⟨ao,c,hv,hm,fun h0=>?_⟩
 obtain ⟨b,o,dv,ha,hc⟩:=hr h0
 exact ⟨b,o,dv,ha,hc.below hb⟩
theorem PodsIn.below {w w':World} {b o:Nat} {ps:List Pd} {cv:Nat→Value} (h:PodsIn w b o ps cv) (hb:Below w.heap.size w w'):PodsIn w' b o ps cv:=
 ⟨Nat.lt_of_lt_of_le h.1 hb.size,fun k hk=>by
  obtain ⟨⟨h1,h2,h3⟩,h4⟩:=h.2 k hk
  exact ⟨⟨(hb.cell (p:=⟨b,o+k*3,none⟩) h.1).trans h1,(hb.cell (p:=⟨b,o+k*3+1,none⟩) h.1).trans h2,(hb.cell (p:=⟨b,o+k*3+2,none⟩) h.1).trans h3⟩,h4.below hb⟩⟩
theorem PodsAt.below {w w':World} {v:Value} {ps:List Pd} (h:PodsAt w v ps) (hb:Below w.heap.size w w'):PodsAt w' v ps:=by
 obtain ⟨ao,c,hv,hm,hr⟩:=h
 refine ⟨ao,c,hv,hm,fun h0=>?_⟩
 obtain ⟨b,o,dv,ha,hc⟩:=hr h0
 exact ⟨b,o,dv,ha,hc.below hb⟩
theorem needs_of_rows {W:World} {v:Value} (h:RowsOf W v 2 pairP):∃ ds,NeedsAt W v ds:=by
 obtain ⟨ao,len,c,rfl,hm,hr⟩:=h
 by_cases h0:len=0
 ·subst h0
  exact ⟨[],ao,c,rfl,by simp,fun h=>by simp at h⟩
 ·obtain ⟨b,o,rfl,hlt,hc⟩:=hr (by omega)
  obtain ⟨f,hf⟩:=Deep.choose_lt (α:=Nd) (n:=len) (p:=fun k d=>W.cell? ⟨b,o+k*2,none⟩=some (.string d.kind)∧W.cell? ⟨b,o+k*2+1,none⟩=some (.int .i64 d.many)) (fun k hk=>by
   obtain ⟨cs,_,hcs,s,x,rfl⟩:=hc k hk
   exact ⟨⟨s,x⟩,hcs 0 (by decide),hcs 1 (by decide)⟩)
  refine ⟨(List.range len).map f,_,c,by simp,by simpa using hm,fun _=>⟨b,o,rfl,hlt,fun k hk=>?_⟩⟩
  have hk':k<len:=by simpa using hk
  have e:nd ((List.range len).map f) k=f k:=by simp [nd,hk']
  rw [e]
  exact hf k hk'
def CapOk (v:Value):Prop:=∃ ao len c,v=.slice ao len c∧len≤c∧c≤maxLen
theorem cap_of_trod {H:Type} {enc:TypeId × Value→H} {P:Program} {W:World} {t e:TypeId} {fuel:Nat} {v:Value} {x:DataW H × List MemPlace} (ht:P.underlying t=some (.slice e)) (h:DataW.trod enc P W 0 (fun _=>true) true fuel t [v]=some x):CapOk v:=by
 rcases Deep.open_slice ht h with ⟨hcs,_⟩|⟨a,len,cap,m,n,D,Pl,hcs,_,hl,hm,hmm,_,hx⟩
 ·simp at hcs
  subst hcs
  exact ⟨none,0,0,rfl,by omega,by omega⟩
 ·simp at hcs
  subst hcs
  exact ⟨_,len,cap,rfl,hl,hm⟩
theorem cons_of_rows {W:World} {v:Value} (h:RowsOf W v 6 (contP W)) (hcap:CapOk v):∃ cs,ConsAt W v cs:=by
 obtain ⟨ao,len,c,rfl,hm,hr⟩:=h
 obtain ⟨_,_,_,hv,hl1,hl2⟩:=hcap
 cases hv
 by_cases h0:len=0
 ·subst h0
  exact ⟨[],ao,c,rfl,⟨by simp,hl2⟩,fun h=>by simp at h⟩
 ·obtain ⟨b,o,rfl,hlt,hc⟩:=hr (by omega)
  obtain ⟨f,hf⟩:=Deep.choose_lt (α:=Ct × Value) (n:=len) (p:=fun k d=>(∀ j,j<6→W.cell? ⟨b,o+k*6+j,none⟩=(contCells d.1 d.2)[j]?)∧NeedsAt W d.2 d.1.ds) (fun k hk=>by
   obtain ⟨cs,_,hcs,nm,x1,x2,x3,x4,dv,rfl,hdv⟩:=hc k hk
   obtain ⟨ds,hds⟩:=needs_of_rows hdv
   exact ⟨⟨⟨nm,x1,x2,x3,x4,ds⟩,dv⟩,hcs,hds⟩)
  refine ⟨(List.range len).map fun k=>(f k).1,_,c,by simp,⟨by simpa using hl1,hl2⟩,fun _=>⟨b,o,fun k=>(f k).2,rfl,hlt,fun k hk=>?_⟩⟩
  have hk':k<len:=by simpa using hk
  have e:ct ((List.range len).map fun k=>(f k).1) k=(f k).1:=by simp [ct,hk']
  rw [e]
  exact hf k hk'
def podP (W:World) (cs:List Value):Prop:=∃ (nm:ByteArray) (pr:Int) (cv:Value),cs=[.string nm,.int .i64 pr,cv]∧RowsOf W cv 6 (contP W)∧CapOk cv
section
variable {H:Type} {enc:TypeId × Value→H} {W:World}
theorem podP_of_trod {n:Nat} {cs:List Value} {y:DataW H × List MemPlace} (hl:cs.length=3) (h:DataW.trod enc Tryz.prog W 0 (fun _=>true) true n 31 cs=some y):podP W cs:=by
 obtain ⟨nm,pr,cv,rfl,h1⟩:=pod_of_trod hl h
 obtain ⟨_,_,h2⟩:=trod_field Tryz.underlying31 h 2 29 2 _ c_conts rfl
 exact ⟨nm,pr,cv,rfl,h1,cap_of_trod Tryz.underlying29 h2⟩
theorem podOne_of_trod {n:Nat} {cs:List Value} {y:DataW H × List MemPlace} (hl:cs.length=3) (h:DataW.trod enc Tryz.prog W 0 (fun _=>true) true n 31 cs=some y):∃ (p:Pd) (cv:Value),cs=[.string p.nm,.int .i64 p.pr,cv]∧ConsAt W cv p.cs:=by
 obtain ⟨nm,pr,cv,rfl,h1,h2⟩:=podP_of_trod hl h
 obtain ⟨ds,hds⟩:=cons_of_rows h1 h2
 exact ⟨⟨nm,pr,ds⟩,cv,rfl,hds⟩
end
theorem ConsIn.at {w:World} {b o:Nat} {cs:List Ct} {dv:Nat→Value} (h:ConsIn w b o cs dv) {k:Nat} (hk:k<cs.length) :
  w.cell? ⟨b,o+k*6,none⟩=some (.string (ct cs k).nm)∧w.cell? ⟨b,o+k*6+1,none⟩=some (.int .i64 (ct cs k).am)∧w.cell? ⟨b,o+k*6+2,none⟩=some (.int .i64 (ct cs k).ab)∧w.cell? ⟨b,o+k*6+3,none⟩=some (.int .i64 (ct cs k).cm)∧w.cell? ⟨b,o+k*6+4,none⟩=some (.int .i64 (ct cs k).cb)∧w.cell? ⟨b,o+k*6+5,none⟩=some (dv k):=by
 have hc:=(h.2 k hk).1
 exact ⟨hc 0 (by decide),hc 1 (by decide),hc 2 (by decide),hc 3 (by decide),hc 4 (by decide),hc 5 (by decide)⟩
end
section
open Go.RowKit
structure Apart (K:Nat→Prop) (W W':World):Prop where
 os:W'.os=W.os
 tape:W'.tape=W.tape
 output:W'.output=W.output
 size:W.heap.size≤W'.heap.size
 block:∀ j,j<W.heap.size→¬ K j→W'.heap[j]?=W.heap[j]?
theorem Apart.refl (K:Nat→Prop) (W:World):Apart K W W:=⟨rfl,rfl,rfl,Nat.le_refl _,fun _ _ _=>rfl⟩
theorem Apart.trans {K:Nat→Prop} {A B C:World} (h:Apart K A B) (k:Apart K B C):Apart K A C:=
 ⟨k.os.trans h.os,k.tape.trans h.tape,k.output.trans h.output,Nat.le_trans h.size k.size,fun j hj hk=>(k.block j (Nat.lt_of_lt_of_le hj h.size) hk).trans (h.block j hj hk)⟩
theorem Apart.wide {K K':Nat→Prop} {A B:World} (h:Apart K A B) (hk:∀ j,K j→K' j):Apart K' A B:=
 ⟨h.os,h.tape,h.output,h.size,fun j hj hn=>h.block j hj fun e=>hn (hk j e)⟩
theorem Apart.of_below {K:Nat→Prop} {W W':World} (h:Below W.heap.size W W'):Apart K W W':=⟨h.os,h.tape,h.output,h.size,fun j hj _=>h.block j hj⟩
theorem Apart.alloc (K:Nat→Prop) (W:World) (o:Obj):Apart K W (W.alloc o):=.of_below ((Below.refl _ W).alloc (Nat.le_refl _) o)
theorem Apart.drewN (K:Nat→Prop) (W:World) (n:Nat):Apart K W (W.drewN n):=⟨rfl,rfl,rfl,Nat.le_refl _,fun _ _ _=>rfl⟩
theorem Apart.setCell {K:Nat→Prop} {b:Nat} (hb:K b) (W:World) (j:Nat) (v:Value):Apart K W (W.setCell ⟨b,j,none⟩ v):=
 ⟨rfl,rfl,rfl,(KeepsWalks.setCell W _ v).size,fun k _ hn=>Below.heap_setCell _ _ _ k fun e=>hn (by rw [e];exact hb)⟩
section
variable {F:Fence} {n:Nat} {P:Program}
end
end
namespace S1
open Go.RowKit
def errV (n:Int):Value:=if n=0 then .nilIface else .iface 94 (.int .i64 n)
def Mx (w:World):Prop:=∃ m:Int,w.cell? ⟨1,0,none⟩=some (.int .i64 m)
theorem Mx.below {w w':World} (h:Mx w) (hb:Below w.heap.size w w'):Mx w':=by
 obtain ⟨m,hm⟩:=h
 exact ⟨m,(hb.cell (p:=⟨1,0,none⟩) (World.block_lt_of_cell? w _ hm)).trans hm⟩
end S1
section
open Go.RowKit
theorem byte_atV (s:ByteArray) (k:Nat) (h2:k<s.data.toList.length):s.data.toList[k]=s[k]'(by simpa using h2):=by simp [ByteArray.getElem_eq_getElem_data]
theorem sum_anyV (s:ByteArray) (w:World) (hs:s.size≤maxLen) :
  Calls Tryz.prog 150 #[.string s] w fun e w'=>e=.returned (.int .u32 (Sv.fnv s.data.toList:Nat))∧w'=w:=by
 unfold maxLen at hs
 have HL:Hid (s.data.toList.length=s.size):=by unfold Hid;simp
 go_enter Tryz.func150,Tryz.ntmps150
 go_wp2_with fail
 go_loop [3,7] (fun h i=>∃ k:Nat,k≤s.size∧i=.int .i64 k∧h=.int .u32 (Sv.fnv (s.data.toList.take k):Nat)) (fun _ i=>s.size - (intOf i).toNat)
 case atStart=>exact ⟨0,by omega,rfl,by simp [Sv.fnv]⟩
 case round=>
  obtain ⟨k,hk,rfl,rfl⟩:=hrel
  by_cases hlt:k<s.size
  ·have hlt2:k<s.data.toList.length:=by rw [HL.out];exact hlt
   have HN:=hZz (Sv.fnv_take hlt2)
   rw [byte_atV s k hlt2] at HN
   have hh:=Sv.fnv_lt (s.data.toList.take k)
   generalize Sv.fnv (s.data.toList.take k)=H at *
   have hb:s[k].toNat<4294967296:=by have:=s[k].toNat_lt;omega
   have hx:=Sv.xor_u32 hh hb
   have hm:=Sv.step_u32 H s[k]
   go_wp2_with fail
   go_round
   case rel=>exact ⟨k+1,by omega,rfl,by rw [HN.out]⟩
   case measure=>simp [intOf];omega
  ·have hke:k=s.size:=by omega
   subst hke
   have HE:Hid (s.data.toList.take s.size=s.data.toList):=by unfold Hid;rw [← HL.out,List.take_length]
   go_wp2_with fail
   go_ret
   exact ⟨congrArg (fun l=>Ending.returned (.int .u32 (Sv.fnv l:Nat))) HE.out,rfl⟩
end
namespace S1
open Go.RowKit
theorem bit_eq (A n:Nat) (hA:A<18446744073709551616):(bits BinOp.and IntKind.u64 ((A:Int) / 2 ^ n) 1 == 1)=A.testBit n:=by
 have e:((A:Int) / 2 ^ n)=((A / 2 ^ n:Nat):Int):=by simp
 have hlt:A / 2 ^ n<18446744073709551616:=Nat.lt_of_le_of_lt (Nat.div_le_self _ _) hA
 rw [e,show (1:Int)=((1:Nat):Int) from rfl,bits_and_u64_nat _ _ hlt (by omega),Nat.testBit_eq_decide_div_mod_eq,Nat.and_one_is_mod]
 rw [Bool.eq_iff_iff];simp;omega
theorem has_in (A n:Nat) (w:World) (hA:A<18446744073709551616) (hn:n<64) :
  Calls Tryz.prog 156 #[.int .u64 A,.int .i64 n] w fun e w'=>e=.returned (.bool (A.testBit n))∧w'=w:=by
 have HB:=bit_eq A n hA
 go_enter Tryz.func156,Tryz.ntmps156
 go_wp2_with go_in
 go_ret
 exact ⟨rfl,rfl⟩
theorem has_out (A:Nat) (n:Int) (w:World) (hn:n<0∨64≤n) :
  Calls Tryz.prog 156 #[.int .u64 A,.int .i64 n] w fun e w'=>e=.returned (.bool false)∧w'=w:=by
 have key:n<0∨(0≤n∧64≤n):=by omega
 clear hn
 rcases key with h|⟨h1,h⟩
 all_goals
  go_enter Tryz.func156,Tryz.ntmps156
  go_wp2_with go_in
  go_ret
  exact ⟨rfl,rfl⟩
theorem infoInt:(Tryz.prog.info? 3).map (fun i=>(i.zero,i.size,i.bytes))=some (some (.int .i64 0),1,8):=by kernel_rfl
def nums (l:List Nat):List Value:=l.map fun (n:Nat)=>Value.int .i64 (n:Int)
theorem nums_snoc (l:List Nat) (n:Nat):nums (l++[n])=nums l++[.int .i64 n]:=by simp [nums]
theorem listTo_le (A k:Nat):(Ost.listTo A k).length≤k:=by
 unfold Ost.listTo
 exact Nat.le_trans (List.length_filter_le _ _) (by simp)
end S1
end Go.Proofs.YtbfdcmodflnkfaaGreatDoor
