import Derived.Test.YtbmmnflgnmjboaaGreatDoorL2
set_option maxRecDepth 100000
set_option maxHeartbeats 16000000
namespace Go.Proofs.YtbmmnflgnmjboaaGreatDoor
section
namespace Ost
structure N4 where
 a:Int
 b:Int
 c:Int
 d:Int
def N4.get (q:N4):Nat->Int
 | 0=>q.a
 | 1=>q.b
 | 2=>q.c
 | _=>q.d
def sumTo (q:N4) (m:Nat):Nat->Int
 | 0=>0
 | k+1=>if m.testBit k then sumTo q m k+q.get k else sumTo q m k
def cU (q:N4) (m:Nat):Int:=sumTo q m 4
theorem xI {q:N4} {m k:Nat} (h:m.testBit k=true):sumTo q m (k+1)=sumTo q m k+q.get k:=by rw [sumTo,if_pos h]
theorem xJ {q:N4} {m k:Nat} (h:m.testBit k=false):sumTo q m (k+1)=sumTo q m k:=by rw [sumTo,if_neg (by rw [h];simp)]
def Sm (q:N4):Prop:=∀ k,-1000000<=q.get k/\q.get k<=1000000
theorem xK {q:N4} (h:Sm q) (m k:Nat):-1000000*(k:Int)<=sumTo q m k/\sumTo q m k<=1000000*(k:Int):=by
 induction k with
 | zero=>simp [sumTo]
 | succ k ih=>
  have:=h k
  rw [sumTo]
  split <;> omega
def pop8 (m:Nat):Nat:=(aI m 8).length
theorem iB (m:Nat):pop8 m<=8:=by
 unfold pop8 aI;exact Nat.le_trans (List.length_filter_le _ _) (by simp)
def gx (nodes m:Nat):Bool:=decide (1<=m) && decide (m &&& nodes=m)
def bJ (nodes k:Nat):List Nat:=(List.range k).filter (gx nodes)
theorem xL {nodes k:Nat} (h:gx nodes k=true):bJ nodes (k+1)=bJ nodes k++[k]:=by
 unfold bJ;rw [List.range_succ,List.filter_append];simp [h]
theorem xM {nodes k:Nat} (h:gx nodes k=false):bJ nodes (k+1)=bJ nodes k:=by
 unfold bJ;rw [List.range_succ,List.filter_append];simp [h]
theorem ny (nodes k:Nat):(bJ nodes k).length<=k:=by
 unfold bJ;exact Nat.le_trans (List.length_filter_le _ _) (by simp)
theorem qx {nodes k m:Nat} (h:m∈bJ nodes k):m<k/\gx nodes m=true:=by
 unfold bJ at h;rw [List.mem_filter,List.mem_range] at h;exact h
def ei (q:N4) (many:Int) (l:List Nat):Nat->Nat
 | 0=>4
 | k+1=>if decide (many<=cU q (l.getD k 0)) then min (ei q many l k) (pop8 (l.getD k 0)) else ei q many l k
theorem qy (q:N4) (many:Int) (l:List Nat) (k:Nat):ei q many l k<=4:=by
 induction k with
 | zero=>exact lR
 | succ k ih=>rw [ei];split <;> omega
def g6 (all:N4) (many:Int) (few m:Nat):Bool:=decide (many<=cU all m) && decide (pop8 m=few)
def cL (free all:N4) (many:Int) (few:Nat) (l:List Nat):Nat->List (Nat × Bool)
 | 0=>[]
 | k+1=>if decide (many<=cU free (l.getD k 0)) then cL free all many few l k++[(l.getD k 0,g6 all many few (l.getD k 0))] else cL free all many few l k
theorem qz (free all:N4) (many:Int) (few:Nat) (l:List Nat) (k:Nat):(cL free all many few l k).length<=k:=by
 induction k with
 | zero=>exact lR
 | succ k ih=>
  rw [cL]
  split
  ·rw [List.length_append];simp only [List.length_cons,List.length_nil];omega
  ·omega
def few (all:N4) (nodes:Nat) (many:Int):Nat:=ei all many (bJ nodes 16) (bJ nodes 16).length
def gy (free all:N4) (nodes:Nat) (many:Int):List (Nat × Bool):=cL free all many (few all nodes many) (bJ nodes 16) (bJ nodes 16).length
end Ost
end
section
namespace Ost
theorem xN {α:Type} (l:List α) (d:α) (k:Nat) (h:k<l.length):l.take (k+1)=l.take k++[l.getD k d]:=by
 rw [List.take_succ_eq_append_getElem h];simp [h]
theorem xO (free all:N4) (many:Int) (F:Nat) (l:List Nat) (k:Nat) (hk:k<=l.length):cL free all many F l k=((l.take k).filter λm=>decide (many<=cU free m)).map λm=>(m,g6 all many F m):=by
 induction k with
 | zero=>simp [cL]
 | succ k ih=>
  rw [xN l 0 k (by omega),List.filter_append,List.map_append,<- ih (by omega),cL]
  by_cases h:decide (many<=cU free (l.getD k 0))=true
  ·rw [if_pos h];generalize l.getD k 0=m at *
   simp [h]
  ·rw [if_neg h];generalize l.getD k 0=m at *
   simp [h]
theorem xP (free all:N4) (nodes:Nat) (many:Int):gy free all nodes many=((bJ nodes 16).filter λm=>decide (many<=cU free m)).map λm=>(m,g6 all many (few all nodes many) m):=by
 unfold gy;rw [xO _ _ _ _ _ _ (lR),List.take_length]
theorem xQ {free all:N4} {nodes:Nat} {many:Int} {h:Nat × Bool} (hm:h∈gy free all nodes many):1<=h.1/\h.1<16/\h.1 &&& nodes=h.1/\many<=cU free h.1/\h.2=g6 all many (few all nodes many) h.1:=by
 rw [xP,List.mem_map] at hm;obtain ⟨m,hm,rfl⟩:=hm;rw [List.mem_filter] at hm;have h1:=qx hm.1;simp only [gx,Bool.and_eq_true,decide_eq_true_eq] at h1;exact ⟨h1.2.1,h1.1,h1.2.2,of_decide_eq_true hm.2,rfl⟩
theorem xR (free all:N4) (nodes:Nat) (many:Int):(gy free all nodes many).length<=16:=by
 unfold gy;have h1:=qz free all many (few all nodes many) (bJ nodes 16) (bJ nodes 16).length;have h2:=ny nodes 16;omega
end Ost
end
end Go.Proofs.YtbmmnflgnmjboaaGreatDoor
