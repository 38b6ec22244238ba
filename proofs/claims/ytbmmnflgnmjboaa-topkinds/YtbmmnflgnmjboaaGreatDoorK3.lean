import Derived.Test.YtbmmnflgnmjboaaGreatDoorK2
set_option maxRecDepth 100000
set_option maxHeartbeats 16000000
namespace Go.Proofs.YtbmmnflgnmjboaaGreatDoor
section
namespace Ost
structure N4 where
 a:Int
 b:Int
 c:Int
 d:Int
def N4.get (q:N4):Nat->Int
 | 0=>q.a
 | 1=>q.b
 | 2=>q.c
 | _=>q.d
def sumTo (q:N4) (m:Nat):Nat->Int
 | 0=>0
 | k+1=>if m.testBit k then sumTo q m k+q.get k else sumTo q m k
def cX (q:N4) (m:Nat):Int:=sumTo q m 4
theorem yr {q:N4} {m k:Nat} (h:m.testBit k=true):sumTo q m (k+1)=sumTo q m k+q.get k:=by rw [sumTo,if_pos h]
theorem yt {q:N4} {m k:Nat} (h:m.testBit k=false):sumTo q m (k+1)=sumTo q m k:=by rw [sumTo,if_neg (by rw [h];simp)]
def Sm (q:N4):Prop:=∀ k,-1000000<=q.get k/\q.get k<=1000000
theorem yu {q:N4} (h:Sm q) (m k:Nat):-1000000*(k:Int)<=sumTo q m k/\sumTo q m k<=1000000*(k:Int):=by
 induction k with
 | zero=>simp [sumTo]
 | succ k ih=>
  have:=h k
  rw [sumTo]
  split <;> omega
def pop8 (m:Nat):Nat:=(aI m 8).length
theorem iJ (m:Nat):pop8 m<=8:=by
 unfold pop8 aI;exact Q5 (List.length_filter_le _ _) (by simp)
def gB (nodes m:Nat):Bool:=decide (1<=m) && decide (m &&& nodes=m)
def bJ (nodes k:Nat):List Nat:=(List.range k).filter (gB nodes)
theorem yv {nodes k:Nat} (h:gB nodes k=true):bJ nodes (k+1)=bJ nodes k++[k]:=by
 unfold bJ;rw [List.range_succ,List.filter_append];simp [h]
theorem yw {nodes k:Nat} (h:gB nodes k=false):bJ nodes (k+1)=bJ nodes k:=by
 unfold bJ;rw [List.range_succ,List.filter_append];simp [h]
theorem nP (nodes k:Nat):(bJ nodes k).length<=k:=by
 unfold bJ;exact Q5 (List.length_filter_le _ _) (by simp)
theorem qQ {nodes k m:Nat} (h:m∈bJ nodes k):m<k/\gB nodes m=true:=by
 unfold bJ at h;rw [List.mem_filter,List.mem_range] at h;exact h
def ek (q:N4) (many:Int) (l:List Nat):Nat->Nat
 | 0=>4
 | k+1=>if decide (many<=cX q (l.getD k 0)) then min (ek q many l k) (pop8 (l.getD k 0)) else ek q many l k
theorem qR (q:N4) (many:Int) (l:List Nat) (k:Nat):ek q many l k<=4:=by
 induction k with
 | zero=>exact lR
 | succ k ih=>rw [ek];split <;> omega
def ii (all:N4) (many:Int) (few m:Nat):Bool:=decide (many<=cX all m) && decide (pop8 m=few)
def cN (free all:N4) (many:Int) (few:Nat) (l:List Nat):Nat->List (Nat × Bool)
 | 0=>[]
 | k+1=>if decide (many<=cX free (l.getD k 0)) then cN free all many few l k++[(l.getD k 0,ii all many few (l.getD k 0))] else cN free all many few l k
theorem qS (free all:N4) (many:Int) (few:Nat) (l:List Nat) (k:Nat):(cN free all many few l k).length<=k:=by
 induction k with
 | zero=>exact lR
 | succ k ih=>
  rw [cN]
  split
  ·rw [Q2];simp only [Qg,List.length_nil];omega
  ·omega
def few (all:N4) (nodes:Nat) (many:Int):Nat:=ek all many (bJ nodes 16) (bJ nodes 16).length
def eB (free all:N4) (nodes:Nat) (many:Int):List (Nat × Bool):=cN free all many (few all nodes many) (bJ nodes 16) (bJ nodes 16).length
end Ost
end
section
namespace Ost
theorem yx {α:Type} (l:List α) (d:α) (k:Nat) (h:k<l.length):l.take (k+1)=l.take k++[l.getD k d]:=by
 rw [Qa h];simp [h]
theorem yy (free all:N4) (many:Int) (F:Nat) (l:List Nat) (k:Nat) (hk:k<=l.length):cN free all many F l k=((l.take k).filter λm=>decide (many<=cX free m)).map λm=>(m,ii all many F m):=by
 induction k with
 | zero=>simp [cN]
 | succ k ih=>
  rw [yx l 0 k (by omega),List.filter_append,Qj,<- ih (by omega),cN]
  by_cases h:decide (many<=cX free (l.getD k 0))=true
  ·rw [if_pos h];generalize l.getD k 0=m at *
   simp [h]
  ·rw [if_neg h];generalize l.getD k 0=m at *
   simp [h]
theorem yz (free all:N4) (nodes:Nat) (many:Int):eB free all nodes many=((bJ nodes 16).filter λm=>decide (many<=cX free m)).map λm=>(m,ii all many (few all nodes many) m):=by
 unfold eB;rw [yy _ _ _ _ _ _ (lR),Qh]
theorem yA {free all:N4} {nodes:Nat} {many:Int} {h:Nat × Bool} (hm:h∈eB free all nodes many):1<=h.1/\h.1<16/\h.1 &&& nodes=h.1/\many<=cX free h.1/\h.2=ii all many (few all nodes many) h.1:=by
 rw [yz,Qk] at hm;obtain ⟨m,hm,rfl⟩:=hm;rw [List.mem_filter] at hm;have h1:=qQ hm.1;simp only [gB,Bool.and_eq_true,Qp] at h1;exact ⟨h1.2.1,h1.1,h1.2.2,of_decide_eq_true hm.2,rfl⟩
theorem yB (free all:N4) (nodes:Nat) (many:Int):(eB free all nodes many).length<=16:=by
 unfold eB;have h1:=qS free all many (few all nodes many) (bJ nodes 16) (bJ nodes 16).length;have h2:=nP nodes 16;omega
end Ost
end
