/- HMath, HTMath -/
import Derived.Test.YtbmmnflgnmjboaaGreatDoorQ2
set_option maxRecDepth 100000
set_option maxHeartbeats 16000000
namespace Go.Proofs.YtbmmnflgnmjboaaGreatDoor
section
namespace Ost
structure N4 where
 a:Int
 b:Int
 c:Int
 d:Int
def N4.get (q:N4):Nat→Int
 | 0=>q.a
 | 1=>q.b
 | 2=>q.c
 | _=>q.d
def sumTo (q:N4) (m:Nat):Nat→Int
 | 0=>0
 | k+1=>if m.testBit k then sumTo q m k+q.get k else sumTo q m k
def sumOn (q:N4) (m:Nat):Int:=sumTo q m 4
theorem sumTo_yes {q:N4} {m k:Nat} (h:m.testBit k=true):sumTo q m (k+1)=sumTo q m k+q.get k:=by rw [sumTo,if_pos h]
theorem sumTo_no {q:N4} {m k:Nat} (h:m.testBit k=false):sumTo q m (k+1)=sumTo q m k:=by rw [sumTo,if_neg (by rw [h];simp)]
def Sm (q:N4):Prop:=∀ k,-1000000≤q.get k∧q.get k≤1000000
theorem sumTo_bound {q:N4} (h:Sm q) (m k:Nat):-1000000*(k:Int)≤sumTo q m k∧sumTo q m k≤1000000*(k:Int):=by
 induction k with
 | zero=>simp [sumTo]
 | succ k ih=>
  have:=h k
  rw [sumTo]
  split <;> omega
def pop8 (m:Nat):Nat:=(listTo m 8).length
theorem pop8_le (m:Nat):pop8 m≤8:=by
 unfold pop8 listTo;exact Nat.le_trans (List.length_filter_le _ _) (by simp)
def isSub (nodes m:Nat):Bool:=decide (1≤m) && decide (m &&& nodes=m)
def masksTo (nodes k:Nat):List Nat:=(List.range k).filter (isSub nodes)
theorem masksTo_yes {nodes k:Nat} (h:isSub nodes k=true):masksTo nodes (k+1)=masksTo nodes k++[k]:=by
 unfold masksTo;rw [List.range_succ,List.filter_append];simp [h]
theorem masksTo_no {nodes k:Nat} (h:isSub nodes k=false):masksTo nodes (k+1)=masksTo nodes k:=by
 unfold masksTo;rw [List.range_succ,List.filter_append];simp [h]
theorem masksTo_le (nodes k:Nat):(masksTo nodes k).length≤k:=by
 unfold masksTo;exact Nat.le_trans (List.length_filter_le _ _) (by simp)
theorem masksTo_mem {nodes k m:Nat} (h:m∈masksTo nodes k):m<k∧isSub nodes m=true:=by
 unfold masksTo at h;rw [List.mem_filter,List.mem_range] at h;exact h
def fewTo (q:N4) (many:Int) (l:List Nat):Nat→Nat
 | 0=>4
 | k+1=>if decide (many≤sumOn q (l.getD k 0)) then min (fewTo q many l k) (pop8 (l.getD k 0)) else fewTo q many l k
theorem fewTo_le (q:N4) (many:Int) (l:List Nat) (k:Nat):fewTo q many l k≤4:=by
 induction k with
 | zero=>exact Nat.le_refl _
 | succ k ih=>rw [fewTo];split <;> omega
def goodH (all:N4) (many:Int) (few m:Nat):Bool:=decide (many≤sumOn all m) && decide (pop8 m=few)
def hintsTo (free all:N4) (many:Int) (few:Nat) (l:List Nat):Nat→List (Nat × Bool)
 | 0=>[]
 | k+1=>if decide (many≤sumOn free (l.getD k 0)) then hintsTo free all many few l k++[(l.getD k 0,goodH all many few (l.getD k 0))] else hintsTo free all many few l k
theorem hintsTo_le (free all:N4) (many:Int) (few:Nat) (l:List Nat) (k:Nat):(hintsTo free all many few l k).length≤k:=by
 induction k with
 | zero=>exact Nat.le_refl _
 | succ k ih=>
  rw [hintsTo]
  split
  ·rw [List.length_append];simp only [List.length_cons,List.length_nil];omega
  ·omega
def few (all:N4) (nodes:Nat) (many:Int):Nat:=fewTo all many (masksTo nodes 16) (masksTo nodes 16).length
def hints (free all:N4) (nodes:Nat) (many:Int):List (Nat × Bool):=hintsTo free all many (few all nodes many) (masksTo nodes 16) (masksTo nodes 16).length
end Ost
end
section
namespace Ost
theorem take_getD {α:Type} (l:List α) (d:α) (k:Nat) (h:k<l.length):l.take (k+1)=l.take k++[l.getD k d]:=by
 rw [List.take_succ_eq_append_getElem h];simp [h]
theorem hintsTo_eq (free all:N4) (many:Int) (F:Nat) (l:List Nat) (k:Nat) (hk:k≤l.length):hintsTo free all many F l k=((l.take k).filter fun m=>decide (many≤sumOn free m)).map fun m=>(m,goodH all many F m):=by
 induction k with
 | zero=>simp [hintsTo]
 | succ k ih=>
  rw [take_getD l 0 k (by omega),List.filter_append,List.map_append,← ih (by omega),hintsTo]
  by_cases h:decide (many≤sumOn free (l.getD k 0))=true
  ·rw [if_pos h];generalize l.getD k 0=m at *
   simp [h]
  ·rw [if_neg h];generalize l.getD k 0=m at *
   simp [h]
theorem hints_eq (free all:N4) (nodes:Nat) (many:Int):hints free all nodes many=((masksTo nodes 16).filter fun m=>decide (many≤sumOn free m)).map fun m=>(m,goodH all many (few all nodes many) m):=by
 unfold hints;rw [hintsTo_eq _ _ _ _ _ _ (Nat.le_refl _),List.take_length]
theorem hints_mem {free all:N4} {nodes:Nat} {many:Int} {h:Nat × Bool} (hm:h∈hints free all nodes many):1≤h.1∧h.1<16∧h.1 &&& nodes=h.1∧many≤sumOn free h.1∧h.2=goodH all many (few all nodes many) h.1:=by
 rw [hints_eq,List.mem_map] at hm;obtain ⟨m,hm,rfl⟩:=hm;rw [List.mem_filter] at hm;have h1:=masksTo_mem hm.1;simp only [isSub,Bool.and_eq_true,decide_eq_true_eq] at h1;exact ⟨h1.2.1,h1.1,h1.2.2,of_decide_eq_true hm.2,rfl⟩
theorem hints_len (free all:N4) (nodes:Nat) (many:Int):(hints free all nodes many).length≤16:=by
 unfold hints;have h1:=hintsTo_le free all many (few all nodes many) (masksTo nodes 16) (masksTo nodes 16).length;have h2:=masksTo_le nodes 16;omega
end Ost
end
end Go.Proofs.YtbmmnflgnmjboaaGreatDoor
