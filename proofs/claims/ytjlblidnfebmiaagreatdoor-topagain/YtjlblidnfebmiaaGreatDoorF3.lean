import Derived.Test.YtjlblidnfebmiaaGreatDoorF2
set_option maxRecDepth 100000
set_option maxHeartbeats 16000000
open Go
namespace Go.Proofs.YtjlblidnfebmiaaGreatDoor
variable{k m nodes:Nat}
structure bZ where
 a:Int
 b:Int
 c:Int
 d:Int
def bZ.get (q:bZ):Nat->Int
 | 0=>q.a
 | 1=>q.b
 | 2=>q.c
 | _=>q.d
def ir (q:bZ) (m:Nat):Nat->Int
 | 0=>0
 | k+1=>if m.testBit k then ir q m k+q.get k else ir q m k
def fM (q:bZ) (m:Nat):Int:=ir q m 4
theorem GN{q:bZ}(h:m.testBit k=true):ir q m (k+1)=ir q m k+q.get k:=by rw[ir,if_pos h]
theorem GO{q:bZ}(h:m.testBit k=false):ir q m (k+1)=ir q m k:=by rw[ir,if_neg (by rw[h];simp)]
def kw (q:bZ):Prop:=∀k,-1000000<=q.get k/\q.get k<=1000000
theorem GP{q:bZ}(h:kw q)(m k:Nat):-1000000*(k:Int)<=ir q m k/\ir q m k<=1000000*(k:Int):=by
 induction k with
 | zero=>simp[ir]
 | succ k ih=>
  have:=h k
  rw[ir]
  split <;> omega
def b6 (m:Nat):Nat:=(bf m 8).length
theorem ny(m:Nat):b6 m<=8:=by
 unfold b6 bf;exact Q5 (List.length_filter_le _ _) (by simp)
def nz (nodes m:Nat):Bool:=decide (1<=m) && decide (m &&& nodes=m)
def cZ (nodes k:Nat):List Nat:=(List.range k).filter (nz nodes)
theorem GQ(h:nz nodes k=true):cZ nodes (k+1)=cZ nodes k++[k]:=by
 unfold cZ;rw[List.range_succ,List.filter_append];simp[h]
theorem GR(h:nz nodes k=false):cZ nodes (k+1)=cZ nodes k:=by
 unfold cZ;rw[List.range_succ,List.filter_append];simp[h]
theorem uX(nodes k:Nat):(cZ nodes k).length<=k:=by
 unfold cZ;exact Q5 (List.length_filter_le _ _) (by simp)
theorem zc(h:m∈cZ nodes k):m<k/\nz nodes m=true:=by
 unfold cZ at h;rw[List.mem_filter,List.mem_range] at h;exact h
def it (q:bZ) (many:Int) (l:List Nat):Nat->Nat
 | 0=>4
 | k+1=>if decide (many<=fM q (l.getD k 0)) then min (it q many l k) (b6 (l.getD k 0)) else it q many l k
theorem ze(q:bZ)(many:Int)(l:List Nat)(k:Nat):it q many l k<=4:=by induction k <;> grind[it]
def nA (all:bZ) (many:Int) (few_Ost m:Nat):Bool:=decide (many<=fM all m) && decide (b6 m=few_Ost)
def fx (free all:bZ) (many:Int) (few_Ost:Nat) (l:List Nat):Nat->List (Nat × Bool)
 | 0=>[]
 | k+1=>if decide (many<=fM free (l.getD k 0)) then fx free all many few_Ost l k++[(l.getD k 0,nA all many few_Ost (l.getD k 0))] else fx free all many few_Ost l k
theorem zf(free all:bZ)(many:Int)(few_Ost:Nat)(l:List Nat)(k:Nat):(fx free all many few_Ost l k).length<=k:=by induction k <;> grind[fx]
def few_Ost (all:bZ) (nodes:Nat) (many:Int):Nat:=it all many (cZ nodes 16) (cZ nodes 16).length
def l9 (free all:bZ) (nodes:Nat) (many:Int):List (Nat × Bool):=fx free all many (few_Ost all nodes many) (cZ nodes 16) (cZ nodes 16).length
theorem GS{α:Type}(l:List α)(d:α)(k:Nat)(h:k<l.length):l.take (k+1)=l.take k++[l.getD k d]:=by
 rw[Qa h];simp[h]
theorem GT(free all:bZ)(many:Int)(F:Nat)(l:List Nat)(k:Nat)(a:k<=l.length):fx free all many F l k=((l.take k).filter λm=>decide (many<=fM free m)).map λm=>(m,nA all many F m):=by induction k <;> grind[fx,GS,fM]
theorem GU(free all:bZ)(nodes:Nat)(many:Int):l9 free all nodes many=((cZ nodes 16).filter λm=>decide (many<=fM free m)).map λm=>(m,nA all many (few_Ost all nodes many) m):=by
 unfold l9;rw[GT _ _ _ _ _ _ (lR),Qh]
theorem GV{free all:bZ}{many:Int}{h:Nat × Bool}(a:h∈l9 free all nodes many):1<=h.1/\h.1<16/\h.1 &&& nodes=h.1/\many<=fM free h.1/\h.2=nA all many (few_Ost all nodes many) h.1:=by
 rw[GU,Qk] at a;obtain⟨m,a,rfl⟩:=a;rw[List.mem_filter] at a;have b:=zc a.1;simp only[nz,Bool.and_eq_true,Qp] at b;exact⟨b.2.1,b.1,b.2.2,of_decide_eq_true a.2,rfl⟩
theorem GX(free all:bZ)(nodes:Nat)(many:Int):(l9 free all nodes many).length<=16:=by
 unfold l9;have a:=zf free all many (few_Ost all nodes many) (cZ nodes 16) (cZ nodes 16).length;have b:=uX nodes 16;omega
