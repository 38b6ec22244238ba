import Derived.Test.YtbmmnflgnmjboaaGreatDoorA2
set_option maxRecDepth 100000
set_option maxHeartbeats 16000000
namespace Go.Proofs.YtbmmnflgnmjboaaGreatDoor
section
namespace Ost
structure N4 where
 a:Int
 b:Int
 c:Int
 d:Int
def N4.get (q:N4):Nat->Int
 | 0=>q.a
 | 1=>q.b
 | 2=>q.c
 | _=>q.d
def sumTo (q:N4) (m:Nat):Nat->Int
 | 0=>0
 | k+1=>if m.testBit k then sumTo q m k+q.get k else sumTo q m k
def df (q:N4) (m:Nat):Int:=sumTo q m 4
theorem AM {q:N4} {m k:Nat} (h:m.testBit k=true):sumTo q m (k+1)=sumTo q m k+q.get k:=by rw [sumTo,if_pos h]
theorem AN {q:N4} {m k:Nat} (h:m.testBit k=false):sumTo q m (k+1)=sumTo q m k:=by rw [sumTo,if_neg (by rw [h];simp)]
def Sm (q:N4):Prop:=∀ k,-1000000<=q.get k/\q.get k<=1000000
theorem AO {q:N4} (h:Sm q) (m k:Nat):-1000000*(k:Int)<=sumTo q m k/\sumTo q m k<=1000000*(k:Int):=by
 induction k with
 | zero=>simp [sumTo]
 | succ k ih=>
  have:=h k
  rw [sumTo]
  split <;> omega
def pop8 (m:Nat):Nat:=(aJ m 8).length
theorem jp (m:Nat):pop8 m<=8:=by
 unfold pop8 aJ;exact Q5 (List.length_filter_le _ _) (by simp)
def gZ (nodes m:Nat):Bool:=decide (1<=m) && decide (m &&& nodes=m)
def bL (nodes k:Nat):List Nat:=(List.range k).filter (gZ nodes)
theorem AP {nodes k:Nat} (h:gZ nodes k=true):bL nodes (k+1)=bL nodes k++[k]:=by
 unfold bL;rw [List.range_succ,List.filter_append];simp [h]
theorem AQ {nodes k:Nat} (h:gZ nodes k=false):bL nodes (k+1)=bL nodes k:=by
 unfold bL;rw [List.range_succ,List.filter_append];simp [h]
theorem pI (nodes k:Nat):(bL nodes k).length<=k:=by
 unfold bL;exact Q5 (List.length_filter_le _ _) (by simp)
theorem tn {nodes k m:Nat} (h:m∈bL nodes k):m<k/\gZ nodes m=true:=by
 unfold bL at h;rw [List.mem_filter,List.mem_range] at h;exact h
def eC (q:N4) (many:Int) (l:List Nat):Nat->Nat
 | 0=>4
 | k+1=>if decide (many<=df q (l.getD k 0)) then min (eC q many l k) (pop8 (l.getD k 0)) else eC q many l k
theorem tr (q:N4) (many:Int) (l:List Nat) (k:Nat):eC q many l k<=4:=by
 induction k with
 | zero=>exact lR
 | succ k ih=>rw [eC];split <;> omega
def iK (all:N4) (many:Int) (few m:Nat):Bool:=decide (many<=df all m) && decide (pop8 m=few)
def cR (free all:N4) (many:Int) (few:Nat) (l:List Nat):Nat->List (Nat × Bool)
 | 0=>[]
 | k+1=>if decide (many<=df free (l.getD k 0)) then cR free all many few l k++[(l.getD k 0,iK all many few (l.getD k 0))] else cR free all many few l k
theorem tt (free all:N4) (many:Int) (few:Nat) (l:List Nat) (k:Nat):(cR free all many few l k).length<=k:=by
 induction k with
 | zero=>exact lR
 | succ k ih=>
  rw [cR]
  split
  ·rw [Q2];simp only [Qg,List.length_nil];omega
  ·omega
def few (all:N4) (nodes:Nat) (many:Int):Nat:=eC all many (bL nodes 16) (bL nodes 16).length
def eM (free all:N4) (nodes:Nat) (many:Int):List (Nat × Bool):=cR free all many (few all nodes many) (bL nodes 16) (bL nodes 16).length
end Ost
end
section
namespace Ost
theorem AR {α:Type} (l:List α) (d:α) (k:Nat) (h:k<l.length):l.take (k+1)=l.take k++[l.getD k d]:=by
 rw [Qa h];simp [h]
theorem AS (free all:N4) (many:Int) (F:Nat) (l:List Nat) (k:Nat) (hk:k<=l.length):cR free all many F l k=((l.take k).filter λm=>decide (many<=df free m)).map λm=>(m,iK all many F m):=by
 induction k with
 | zero=>simp [cR]
 | succ k ih=>
  rw [AR l 0 k (by omega),List.filter_append,Qj,<- ih (by omega),cR]
  by_cases h:decide (many<=df free (l.getD k 0))=true
  ·rw [if_pos h];generalize l.getD k 0=m at *
   simp [h]
  ·rw [if_neg h];generalize l.getD k 0=m at *
   simp [h]
theorem AT (free all:N4) (nodes:Nat) (many:Int):eM free all nodes many=((bL nodes 16).filter λm=>decide (many<=df free m)).map λm=>(m,iK all many (few all nodes many) m):=by
 unfold eM;rw [AS _ _ _ _ _ _ (lR),Qh]
theorem AU {free all:N4} {nodes:Nat} {many:Int} {h:Nat × Bool} (hm:h∈eM free all nodes many):1<=h.1/\h.1<16/\h.1 &&& nodes=h.1/\many<=df free h.1/\h.2=iK all many (few all nodes many) h.1:=by
 rw [AT,Qk] at hm;obtain ⟨m,hm,rfl⟩:=hm;rw [List.mem_filter] at hm;have h1:=tn hm.1;simp only [gZ,Bool.and_eq_true,Qp] at h1;exact ⟨h1.2.1,h1.1,h1.2.2,of_decide_eq_true hm.2,rfl⟩
theorem AV (free all:N4) (nodes:Nat) (many:Int):(eM free all nodes many).length<=16:=by
 unfold eM;have h1:=tt free all many (few all nodes many) (bL nodes 16) (bL nodes 16).length;have h2:=pI nodes 16;omega
end Ost
end
