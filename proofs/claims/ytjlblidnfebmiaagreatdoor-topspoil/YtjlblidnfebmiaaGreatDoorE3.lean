import Derived.Test.YtjlblidnfebmiaaGreatDoorE2
set_option maxRecDepth 100000
set_option maxHeartbeats 16000000
open Go
namespace Go.Proofs.YtjlblidnfebmiaaGreatDoor
variable {k m nodes:Nat}
structure bX where
 a:Int
 b:Int
 c:Int
 d:Int
def bX.get (q:bX):Nat->Int
 | 0=>q.a
 | 1=>q.b
 | 2=>q.c
 | _=>q.d
def gX (q:bX) (m:Nat):Nat->Int
 | 0=>0
 | k+1=>if m.testBit k then gX q m k+q.get k else gX q m k
def fD (q:bX) (m:Nat):Int:=gX q m 4
theorem Gj {q:bX} (h:m.testBit k=true):gX q m (k+1)=gX q m k+q.get k:=by rw [gX,if_pos h]
theorem Gk {q:bX} (h:m.testBit k=false):gX q m (k+1)=gX q m k:=by rw [gX,if_neg (by rw [h];simp)]
def kc (q:bX):Prop:=∀ k,-1000000<=q.get k/\q.get k<=1000000
theorem Gl {q:bX} (h:kc q) (m k:Nat):-1000000*(k:Int)<=gX q m k/\gX q m k<=1000000*(k:Int):=by
 induction k with
 | zero=>simp [gX]
 | succ k ih=>
  have:=h k
  rw [gX]
  split <;> omega
def bY (m:Nat):Nat:=(ba m 8).length
theorem m8 (m:Nat):bY m<=8:=by
 unfold bY ba;exact Q5 (List.length_filter_le _ _) (by simp)
def m9 (nodes m:Nat):Bool:=decide (1<=m) && decide (m &&& nodes=m)
def cV (nodes k:Nat):List Nat:=(List.range k).filter (m9 nodes)
theorem Gm (h:m9 nodes k=true):cV nodes (k+1)=cV nodes k++[k]:=by
 unfold cV;rw [List.range_succ,List.filter_append];simp [h]
theorem Gn (h:m9 nodes k=false):cV nodes (k+1)=cV nodes k:=by
 unfold cV;rw [List.range_succ,List.filter_append];simp [h]
theorem uC (nodes k:Nat):(cV nodes k).length<=k:=by
 unfold cV;exact Q5 (List.length_filter_le _ _) (by simp)
theorem yI (h:m∈cV nodes k):m<k/\m9 nodes m=true:=by
 unfold cV at h;rw [List.mem_filter,List.mem_range] at h;exact h
def gY (q:bX) (many:Int) (l:List Nat):Nat->Nat
 | 0=>4
 | k+1=>if decide (many<=fD q (l.getD k 0)) then min (gY q many l k) (bY (l.getD k 0)) else gY q many l k
theorem yJ (q:bX) (many:Int) (l:List Nat) (k:Nat):gY q many l k<=4:=by induction k <;> grind [gY]
def nh (all:bX) (many:Int) (few_Ost m:Nat):Bool:=decide (many<=fD all m) && decide (bY m=few_Ost)
def fq (free all:bX) (many:Int) (few_Ost:Nat) (l:List Nat):Nat->List (Nat × Bool)
 | 0=>[]
 | k+1=>if decide (many<=fD free (l.getD k 0)) then fq free all many few_Ost l k++[(l.getD k 0,nh all many few_Ost (l.getD k 0))] else fq free all many few_Ost l k
theorem yK (free all:bX) (many:Int) (few_Ost:Nat) (l:List Nat) (k:Nat):(fq free all many few_Ost l k).length<=k:=by induction k <;> grind [fq]
def few_Ost (all:bX) (nodes:Nat) (many:Int):Nat:=gY all many (cV nodes 16) (cV nodes 16).length
def lV (free all:bX) (nodes:Nat) (many:Int):List (Nat × Bool):=fq free all many (few_Ost all nodes many) (cV nodes 16) (cV nodes 16).length
theorem Gp {α:Type} (l:List α) (d:α) (k:Nat) (h:k<l.length):l.take (k+1)=l.take k++[l.getD k d]:=by
 rw [Qa h];simp [h]
theorem Gq (free all:bX) (many:Int) (F:Nat) (l:List Nat) (k:Nat) (a:k<=l.length):fq free all many F l k=((l.take k).filter λm=>decide (many<=fD free m)).map λm=>(m,nh all many F m):=by induction k <;> grind [fq,Gp,fD]
theorem Gr (free all:bX) (nodes:Nat) (many:Int):lV free all nodes many=((cV nodes 16).filter λm=>decide (many<=fD free m)).map λm=>(m,nh all many (few_Ost all nodes many) m):=by
 unfold lV;rw [Gq _ _ _ _ _ _ (lR),Qh]
theorem Gs {free all:bX} {many:Int} {h:Nat × Bool} (a:h∈lV free all nodes many):1<=h.1/\h.1<16/\h.1 &&& nodes=h.1/\many<=fD free h.1/\h.2=nh all many (few_Ost all nodes many) h.1:=by
 rw [Gr,Qk] at a;obtain ⟨m,a,rfl⟩:=a;rw [List.mem_filter] at a;have b:=yI a.1;simp only [m9,Bool.and_eq_true,Qp] at b;exact ⟨b.2.1,b.1,b.2.2,of_decide_eq_true a.2,rfl⟩
theorem Gt (free all:bX) (nodes:Nat) (many:Int):(lV free all nodes many).length<=16:=by
 unfold lV;have b:=yK free all many (few_Ost all nodes many) (cV nodes 16) (cV nodes 16).length;have a:=uC nodes 16;omega
