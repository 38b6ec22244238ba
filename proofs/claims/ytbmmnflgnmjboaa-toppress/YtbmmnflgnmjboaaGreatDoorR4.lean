import Derived.Test.YtbmmnflgnmjboaaGreatDoorR2
import Derived.ProofKit
import Derived.OpenShut
import Derived.ChangeOld
import Derived.Deep.Strs
import Derived.Deep.Slices
import Derived.Carry
import Derived.JoinedOf
import Derived.JoinedAt
import Derived.Maps.OwnSet
set_option maxRecDepth 100000
set_option maxHeartbeats 16000000
open Go.Proofs.Tryz
namespace Go.Proofs.YtbmmnflgnmjboaaGreatDoor
section
namespace Ost
structure N4 where
 a:Int
 b:Int
 c:Int
 d:Int
def N4.get (q:N4):Nat->Int
 | 0=>q.a
 | 1=>q.b
 | 2=>q.c
 | _=>q.d
def sumTo (q:N4) (m:Nat):Nat->Int
 | 0=>0
 | k+1=>if m.testBit k then sumTo q m k+q.get k else sumTo q m k
def de (q:N4) (m:Nat):Int:=sumTo q m 4
theorem AM {q:N4} {m k:Nat} (h:m.testBit k=true):sumTo q m (k+1)=sumTo q m k+q.get k:=by rw [sumTo,if_pos h]
theorem AN {q:N4} {m k:Nat} (h:m.testBit k=false):sumTo q m (k+1)=sumTo q m k:=by rw [sumTo,if_neg (by rw [h];simp)]
def Sm (q:N4):Prop:=∀ k,-1000000<=q.get k/\q.get k<=1000000
theorem AO {q:N4} (h:Sm q) (m k:Nat):-1000000*(k:Int)<=sumTo q m k/\sumTo q m k<=1000000*(k:Int):=by
 induction k with
 | zero=>simp [sumTo]
 | succ k ih=>
  have:=h k
  rw [sumTo]
  split <;> omega
def pop8 (m:Nat):Nat:=(aI m 8).length
theorem jk (m:Nat):pop8 m<=8:=by
 unfold pop8 aI;exact Q5 (List.length_filter_le _ _) (by simp)
def gR (nodes m:Nat):Bool:=decide (1<=m) && decide (m &&& nodes=m)
def bI (nodes k:Nat):List Nat:=(List.range k).filter (gR nodes)
theorem AP {nodes k:Nat} (h:gR nodes k=true):bI nodes (k+1)=bI nodes k++[k]:=by
 unfold bI;rw [List.range_succ,List.filter_append];simp [h]
theorem AQ {nodes k:Nat} (h:gR nodes k=false):bI nodes (k+1)=bI nodes k:=by
 unfold bI;rw [List.range_succ,List.filter_append];simp [h]
theorem pO (nodes k:Nat):(bI nodes k).length<=k:=by
 unfold bI;exact Q5 (List.length_filter_le _ _) (by simp)
theorem tu {nodes k m:Nat} (h:m∈bI nodes k):m<k/\gR nodes m=true:=by
 unfold bI at h;rw [List.mem_filter,List.mem_range] at h;exact h
def ey (q:N4) (many:Int) (l:List Nat):Nat->Nat
 | 0=>4
 | k+1=>if decide (many<=de q (l.getD k 0)) then min (ey q many l k) (pop8 (l.getD k 0)) else ey q many l k
theorem tw (q:N4) (many:Int) (l:List Nat) (k:Nat):ey q many l k<=4:=by
 induction k with
 | zero=>exact lR
 | succ k ih=>rw [ey];split <;> omega
def iD (all:N4) (many:Int) (few m:Nat):Bool:=decide (many<=de all m) && decide (pop8 m=few)
def cQ (free all:N4) (many:Int) (few:Nat) (l:List Nat):Nat->List (Nat × Bool)
 | 0=>[]
 | k+1=>if decide (many<=de free (l.getD k 0)) then cQ free all many few l k++[(l.getD k 0,iD all many few (l.getD k 0))] else cQ free all many few l k
theorem tx (free all:N4) (many:Int) (few:Nat) (l:List Nat) (k:Nat):(cQ free all many few l k).length<=k:=by
 induction k with
 | zero=>exact lR
 | succ k ih=>
  rw [cQ]
  split
  ·rw [Q2];simp only [Qg,List.length_nil];omega
  ·omega
def few (all:N4) (nodes:Nat) (many:Int):Nat:=ey all many (bI nodes 16) (bI nodes 16).length
def eG (free all:N4) (nodes:Nat) (many:Int):List (Nat × Bool):=cQ free all many (few all nodes many) (bI nodes 16) (bI nodes 16).length
end Ost
end
section
namespace Ost
theorem AR {α:Type} (l:List α) (d:α) (k:Nat) (h:k<l.length):l.take (k+1)=l.take k++[l.getD k d]:=by
 rw [Qa h];simp [h]
theorem AS (free all:N4) (many:Int) (F:Nat) (l:List Nat) (k:Nat) (hk:k<=l.length):cQ free all many F l k=((l.take k).filter λm=>decide (many<=de free m)).map λm=>(m,iD all many F m):=by
 induction k with
 | zero=>simp [cQ]
 | succ k ih=>
  rw [AR l 0 k (by omega),List.filter_append,Qj,<- ih (by omega),cQ]
  by_cases h:decide (many<=de free (l.getD k 0))=true
  ·rw [if_pos h];generalize l.getD k 0=m at *
   simp [h]
  ·rw [if_neg h];generalize l.getD k 0=m at *
   simp [h]
theorem AT (free all:N4) (nodes:Nat) (many:Int):eG free all nodes many=((bI nodes 16).filter λm=>decide (many<=de free m)).map λm=>(m,iD all many (few all nodes many) m):=by
 unfold eG;rw [AS _ _ _ _ _ _ (lR),Qh]
theorem AU {free all:N4} {nodes:Nat} {many:Int} {h:Nat × Bool} (hm:h∈eG free all nodes many):1<=h.1/\h.1<16/\h.1 &&& nodes=h.1/\many<=de free h.1/\h.2=iD all many (few all nodes many) h.1:=by
 rw [AT,Qk] at hm;obtain ⟨m,hm,rfl⟩:=hm;rw [List.mem_filter] at hm;have h1:=tu hm.1;simp only [gR,Bool.and_eq_true,Qp] at h1;exact ⟨h1.2.1,h1.1,h1.2.2,of_decide_eq_true hm.2,rfl⟩
theorem AV (free all:N4) (nodes:Nat) (many:Int):(eG free all nodes many).length<=16:=by
 unfold eG;have h1:=tx free all many (few all nodes many) (bI nodes 16) (bI nodes 16).length;have h2:=pO nodes 16;omega
end Ost
end
section
open RowKit
open Ost (Cpu ad br ae jT jU eW)
def gr (w:World) (b o:Nat) (l:List Cpu):Prop:=
 ∀ k,k<l.length->w.cell? ⟨b,o+k*3,none⟩=some (.int .i64 (l.getD k ad).core)/\w.cell? ⟨b,o+k*3+1,none⟩=some (.int .i64 (l.getD k ad).sock)/\w.cell? ⟨b,o+k*3+2,none⟩=some (.int .i64 (l.getD k ad).node)
def eH (w:World) (v:Value) (l:List Cpu):Prop:=
 (l=[]/\∃ ao c,v=.slice ao 0 c)\/∃ b o c,v=.slice (some ⟨b,o,none⟩) l.length c/\gr w b o l
theorem gr.below {w0 w w':World} {b o:Nat} {l:List Cpu} (h:gr w b o l) (hlt:b<w0.heap.size) (hb:Below w0.heap.size w w'):gr w' b o l:=by
 intro k hk;obtain ⟨h1,h2,h3⟩:=h k hk;exact ⟨(hb.cell (p:=⟨b,o+k*3,none⟩) hlt).trans h1,(hb.cell (p:=⟨b,o+k*3+1,none⟩) hlt).trans h2,(hb.cell (p:=⟨b,o+k*3+2,none⟩) hlt).trans h3⟩
theorem eH.below {w w':World} {v:Value} {l:List Cpu} (h:eH w v l) (hb:Below w.heap.size w w'):eH w' v l:=by
 rcases h with h|⟨b,o,c,hv,hc⟩
 ·exact .inl h
 ·refine .inr ⟨b,o,c,hv,λk hk=>?_⟩;obtain ⟨h1,h2,h3⟩:=hc k hk;have Ha:=Q3 w _ h1;exact ⟨(hb.cell (p:=⟨b,o+k*3,none⟩) Ha).trans h1,(hb.cell (p:=⟨b,o+k*3+1,none⟩) Ha).trans h2,(hb.cell (p:=⟨b,o+k*3+2,none⟩) Ha).trans h3⟩
def Good (l:List Cpu):Prop:=∀ c∈l,0<=c.core/\c.core<=63/\0<=c.sock/\c.sock<=63/\0<=c.node/\c.node<=3
theorem Good.at {l:List Cpu} (h:Good l) {k:Nat} (hk:k<l.length):0<=(l.getD k ad).node/\(l.getD k ad).node<=3:=by
 have:l.getD k ad∈l:=by simp [hk]
 have:=h _ this
 exact ⟨this.2.2.2.2.1,this.2.2.2.2.2⟩
def aT (m:Nat) (c:Cpu):Bool:=m.testBit c.node.toNat
theorem tC (m n:Nat) (hm:m<256):(bits BinOp.and IntKind.u8 ((m:Int) / 2 ^ n) 1 == 1)=m.testBit n:=by
 have e:((m:Int) / 2 ^ n)=((m / 2 ^ n:Nat):Int):=by simp
 have Ha:m / 2 ^ n<256:=Nat.lt_of_le_of_lt (Nat.div_le_self _ _) hm;rw [e,Nat.testBit_eq_decide_div_mod_eq];generalize m / 2 ^ n=q at Ha;have key:∀ q:Fin 256,(bits BinOp.and IntKind.u8 ((q.val:Nat):Int) 1 == 1)=decide (q.val % 2=1):=by decide +kernel
 exact key ⟨q,Ha⟩
end
section
open Go.ChangeShapes Go.WideShapes Go.ChangeAt Go.RowKit
open Ost (Cpu ad)
theorem tD:prog.cellsOf 84=3:=by kernel_rfl
theorem AW:prog.cellsOf 3=1:=by kernel_rfl
instance:Inhabited Cpu:=⟨ad⟩
theorem AX {H:Type} {enc:TypeId × Value->H} {w:World} {base:Nat} {sp:Nat->Bool} {held:Bool} {fuel:Nat} {cs:List Value} {x:DataW H × List MemPlace}
  (h:DataW.trod enc prog w base sp held fuel 84 cs=some x):∃ y:Cpu,cs=[.int .i64 y.core,.int .i64 y.sock,.int .i64 y.node]:=by
 obtain ⟨y0,y1,y2,n,_,hl,h0,h1,h2⟩:=Deep.trod_struct3 underlying84 h;rw [tD] at hl;rw [AW] at h0 h1 h2
 match cs,hl with
 | [a,b,c],_=>
  obtain ⟨p,e0,_,_⟩:=DataW.trod_int underlying3 h0;obtain ⟨q,e1,_,_⟩:=DataW.trod_int underlying3 h1;obtain ⟨r,e2,_,_⟩:=DataW.trod_int underlying3 h2
  simp at e0 e1 e2
  exact ⟨⟨p,q,r⟩,by rw [e0,e1,e2]⟩
theorem AY {H:Type} {enc:TypeId × Value->H} {W:World} {ao:Option Addr} {len cap:Nat} {d:DataW H} {p:List MemPlace}
  (h:DataW.Trod enc prog W 0 (λ_=>true) true 22 (.slice ao len cap) d p):∃ l:List Cpu,l.length=len/\eH W (.slice ao l.length cap) l:=by
 obtain ⟨fuel,hf⟩:=h
 rcases Deep.open_slice underlying22 hf with ⟨Ha,_⟩|⟨a,len',cap',m,n,D,Pl,Ha,_,hl,hm,Hf,_,hx⟩
 ·simp [Value.cells] at Ha
  obtain ⟨rfl,rfl,rfl⟩:=Ha;exact ⟨[],rfl,.inl ⟨rfl,none,0,rfl⟩⟩
 ·simp [Value.cells] at Ha
  obtain ⟨rfl,rfl,rfl⟩:=Ha;rw [if_pos rfl] at Hf;subst Hf;rw [tD] at hx;obtain ⟨f,Hc⟩:=Deep.choose_lt (α:=Cpu) (n:=len) (p:=λi y=>W.cell? (a.add (i*3))=some (.int .i64 y.core)/\W.cell? (a.add (i*3+1))=some (.int .i64 y.sock)/\W.cell? (a.add (i*3+2))=some (.int .i64 y.node)) (λi hi=>by
   obtain ⟨cs',h1,h2⟩:=hx i (by omega);obtain ⟨y,rfl⟩:=AX h2;obtain ⟨_,_,hc⟩:=World.cells?_some h1;have e0:=hc 0 (by omega);have e1:=hc 1 (by omega);have e2:=hc 2 (by omega);rw [Deep.add_add] at e0 e1 e2;exact ⟨y,by simpa using e0,by simpa using e1,by simpa using e2⟩)
  refine ⟨(List.range len).map f,by simp,?_⟩
  by_cases hn0:len=0
  ·subst hn0;exact .inl ⟨rfl,_,_,rfl⟩
  ·obtain ⟨b,off,spot⟩:=a;have hc:=(Hc 0 (by omega)).1;have Hb:spot=none:=by simpa [Addr.add] using World.cell?_spot hc
   subst Hb;refine .inr ⟨b,off,_,rfl,λk hk=>?_⟩;have He:k<len:=by simpa using hk
   obtain ⟨h0,h1,h2⟩:=Hc k He;rw [Addr.add_lit] at h0 h1 h2;have e:((List.range len).map f).getD k ad=f k:=by simp [He]
   rw [e];exact ⟨h0,by rw [Nat.add_assoc];exact h1,by rw [Nat.add_assoc];exact h2⟩
end
section
namespace Ost
def inB (c:Cpu):Bool:=decide (0<=c.core) && decide (c.core<64) && (decide (0<=c.sock) && decide (c.sock<64)) && (decide (0<=c.node) && decide (c.node<4))
theorem nF (c:Cpu):inB c=true↔0<=c.core/\c.core<64/\0<=c.sock/\c.sock<64/\0<=c.node/\c.node<4:=by
 simp only [inB,Bool.and_eq_true,Qp];omega
def clash (a c:Cpu):Bool:=decide (a.core=c.core) && decide (a≠c)
def fM (l:List Cpu) (c:Cpu):Nat->Bool
 | 0=>false
 | k+1=>fM l c k || clash (l.getD k ad) c
theorem pP (l:List Cpu) (c:Cpu) (k:Nat):fM l c k=true↔∃ j,j<k/\clash (l.getD j ad) c=true:=by
 induction k with
 | zero=>simp [fM]
 | succ k ih=>
  rw [fM,Bool.or_eq_true,ih];constructor
  ·rintro (⟨j,hj,h⟩|h)
   ·exact ⟨j,by omega,h⟩
   ·exact ⟨k,by omega,h⟩
  ·rintro ⟨j,hj,h⟩
   by_cases e:j=k
   ·subst e;exact .inr h
   ·exact .inl ⟨j,by omega,h⟩
def gT (l:List Cpu) (i:Nat):Int:=if inB (l.getD i ad) then (if fM l (l.getD i ad) i then 3 else 0) else 1
def cL (l:List Cpu):Nat->Int
 | 0=>0
 | k+1=>if cL l k=0 then gT l k else cL l k
def fault (l:List Cpu):Int:=if l.length=0\/64<l.length then 2 else cL l l.length
theorem AZ (l:List Cpu) (i k:Nat) (f:Int) (hf:f≠0) (h:cL l i=f):cL l (i+k)=f:=by
 induction k with
 | zero=>exact h
 | succ k ih=>
  show cL l ((i+k)+1)=f
  rw [cL,ih,if_neg hf]
theorem tE (l:List Cpu) (k:Nat) (h:cL l k=0):∀ j,j<k->gT l j=0:=by
 induction k with
 | zero=>intro j hj;omega
 | succ k ih=>
  rw [cL] at h
  by_cases h0:cL l k=0
  ·rw [if_pos h0] at h;intro j hj
   by_cases e:j=k
   ·subst e;exact h
   ·exact ih h0 j (by omega)
  ·rw [if_neg h0] at h;exact absurd h h0
theorem tF (l:List Cpu) (i:Nat) (f:Int) (h0:0<l.length) (h64:l.length<=64) (hi:i<l.length) (hp:cL l i=0) (ha:gT l i=f) (hf:f≠0):fault l=f:=by
 unfold fault;rw [if_neg (by omega)]
 have:cL l (i+1)=f:=by rw [cL,if_pos hp,ha]
 have:=AZ l (i+1) (l.length - (i+1)) f hf this
 rwa [show i+1+(l.length - (i+1))=l.length by omega] at this
theorem A0 (l:List Cpu) (h0:0<l.length) (h64:l.length<=64) (hp:cL l l.length=0):fault l=0:=by
 unfold fault;rw [if_neg (by omega)];exact hp
theorem A1 {l:List Cpu} {k:Nat} (h:cL l k=0) (hb:inB (l.getD k ad)=true) (hc:fM l (l.getD k ad) k=false):cL l (k+1)=0:=by
 rw [cL,if_pos h,gT,if_pos hb,if_neg (by rw [hc];simp)]
theorem A2 {l:List Cpu} {k:Nat} (hb:inB (l.getD k ad)=false):gT l k=1:=by rw [gT,if_neg (by rw [hb];simp)]
theorem A3 {l:List Cpu} {k:Nat} (hb:inB (l.getD k ad)=true) (hc:fM l (l.getD k ad) k=true):gT l k=3:=by
 rw [gT,if_pos hb,if_pos hc]
def seen (l:List Cpu):Nat->Int->Option Cpu
 | 0,_=>none
 | k+1,c=>if (l.getD k ad).core=c then some (l.getD k ad) else seen l k c
theorem tG {l:List Cpu} {k:Nat} {c:Int} {x:Cpu} (h:seen l k c=some x):∃ j,j<k/\l.getD j ad=x/\x.core=c:=by
 induction k with
 | zero=>simp [seen] at h
 | succ k ih=>
  rw [seen] at h
  by_cases e:(l.getD k ad).core=c
  ·rw [if_pos e] at h;simp only [Option.some.injEq] at h;exact ⟨k,by omega,h,by rw [<- h];exact e⟩
  ·rw [if_neg e] at h;obtain ⟨j,hj,r⟩:=ih h;exact ⟨j,by omega,r⟩
theorem seen_none {l:List Cpu} {k:Nat} {c:Int} (h:seen l k c=none):∀ j,j<k->(l.getD j ad).core≠c:=by
 induction k with
 | zero=>intro j hj;omega
 | succ k ih=>
  rw [seen] at h
  by_cases e:(l.getD k ad).core=c
  ·rw [if_pos e] at h;cases h
  ·rw [if_neg e] at h;intro j hj
   by_cases ej:j=k
   ·subst ej;exact e
   ·exact ih h j (by omega)
theorem A4 {l:List Cpu} {k:Nat} {x:Cpu} (h:seen l k x.core=none):fM l x k=false:=by
 rw [Bool.eq_false_iff];intro hc;obtain ⟨j,hj,h2⟩:=(pP l x k).1 hc;simp only [clash,Bool.and_eq_true,Qp] at h2;exact seen_none h j hj h2.1
theorem A5 {l:List Cpu} {k:Nat} {x y:Cpu} (hf:cL l k=0) (h:seen l k x.core=some y):fM l x k=decide (y≠x):=by
 obtain ⟨j,hj,hy,Hb⟩:=tG h;rw [Bool.eq_iff_iff,pP,Qp];constructor
 ·rintro ⟨i,hi,h2⟩;simp only [clash,Bool.and_eq_true,Qp] at h2;intro e
  by_cases hij:i=j
  ·subst hij;rw [hy] at h2;exact h2.2 e
  ·have key:∀ a b,a<b->b<k->(l.getD a ad).core=(l.getD b ad).core->l.getD a ad=l.getD b ad:=by
    intro a b Hc hb hc;have h0:=tE l k hf b hb;unfold gT at h0
    by_cases hB:inB (l.getD b ad)=true
    ·rw [if_pos hB] at h0
     by_cases hC:fM l (l.getD b ad) b=true
     ·rw [if_pos hC] at h0;cases h0
     ·apply Qt;intro Ha;exact hC ((pP _ _ _).2 ⟨a,Hc,by simp only [clash,Bool.and_eq_true,Qp];exact ⟨hc,Ha⟩⟩)
    ·rw [if_neg hB] at h0;cases h0
   have:l.getD i ad=l.getD j ad:=by
    rcases Nat.lt_or_gt_of_ne hij with q|q
    ·exact key i j q hj (by rw [h2.1,hy,Hb])
    ·exact (key j i q hi (by rw [h2.1,hy,Hb])).symm
   rw [this,hy] at h2;exact h2.2 e
 ·intro Ha;exact ⟨j,hj,by simp only [clash,Bool.and_eq_true,Qp];rw [hy];exact ⟨Hb,Ha⟩⟩
theorem A6 {l:List Cpu} (h:fault l=0):0<l.length/\l.length<=64/\∀ c∈l,inB c=true:=by
 unfold fault at h
 by_cases hl:l.length=0\/64<l.length
 ·rw [if_pos hl] at h;cases h
 ·rw [if_neg hl] at h;refine ⟨by omega,by omega,λc hc=>?_⟩;obtain ⟨i,hi,rfl⟩:=List.getElem_of_mem hc;have h0:=tE l _ h i hi;have e:l.getD i ad=l[i]:=by simp [hi]
  unfold gT at h0;rw [e] at h0
  by_cases hB:inB l[i]=true
  ·exact hB
  ·rw [if_neg hB] at h0;cases h0
end Ost
end
section
open RowKit
theorem m0:Ost.M0 8=6148914691236517205:=by decide +kernel
theorem m1:Ost.M1 8=3689348814741910323:=by decide +kernel
theorem m2:Ost.M2 8=1085102592571150095:=by decide +kernel
theorem gq (a:Nat) (m:Nat) (ha:a<18446744073709551616) (hm:m<18446744073709551616) (z:Int) (hz:z=(a:Int)):bits BinOp.and IntKind.u64 z (m:Int)=((a &&& m:Nat):Int):=by
 rw [hz];exact bits_and_u64_nat a m ha hm
theorem wrapN (n:Nat) (z:Int) (hz:z=(n:Int)) (h:n<18446744073709551616):IntKind.u64.wrap z=(n:Int):=by
 rw [IntKind.wrap_u64,hz];omega
theorem pE (A:Nat) (hA:A<18446744073709551616):IntKind.u64.wrap (bits BinOp.and IntKind.u64 ((A:Int) / 2) 6148914691236517205+bits BinOp.and IntKind.u64 (A:Int) 6148914691236517205)=((Ost.p1 8 A:Nat):Int)/\Ost.p1 8 A<18446744073709551616:=by
 have e1:=gq (A / 2) 6148914691236517205 (by omega) (by omega) ((A:Int) / 2) (by omega);have e2:=gq A 6148914691236517205 hA (by omega) (A:Int) rfl;have l1:A / 2 &&& 6148914691236517205<=6148914691236517205:=Nat.and_le_right;have l2:A &&& 6148914691236517205<=6148914691236517205:=Nat.and_le_right;have hp:Ost.p1 8 A=(A / 2 &&& 6148914691236517205)+(A &&& 6148914691236517205):=by unfold Ost.p1;rw [m0]
 rw [hp];refine ⟨?_,by omega⟩;apply wrapN _ _ _ (by omega);rw [show (6148914691236517205:Int)=((6148914691236517205:Nat):Int) from rfl,e1,e2];omega
theorem pF (x:Nat) (hx:x<18446744073709551616):IntKind.u64.wrap (bits BinOp.and IntKind.u64 ((x:Int) / 4) 3689348814741910323+bits BinOp.and IntKind.u64 (x:Int) 3689348814741910323)=((Ost.p2 8 x:Nat):Int)/\Ost.p2 8 x<=7378697629483820646:=by
 have e1:=gq (x / 4) 3689348814741910323 (by omega) (by omega) ((x:Int) / 4) (by omega);have e2:=gq x 3689348814741910323 hx (by omega) (x:Int) rfl;have l1:x / 4 &&& 3689348814741910323<=3689348814741910323:=Nat.and_le_right;have l2:x &&& 3689348814741910323<=3689348814741910323:=Nat.and_le_right;have hp:Ost.p2 8 x=(x / 4 &&& 3689348814741910323)+(x &&& 3689348814741910323):=by unfold Ost.p2;rw [m1]
 rw [hp];refine ⟨?_,by omega⟩;apply wrapN _ _ _ (by omega);rw [show (3689348814741910323:Int)=((3689348814741910323:Nat):Int) from rfl,e1,e2];omega
theorem pG (x:Nat) (hx:x<=7378697629483820646):bits BinOp.and IntKind.u64 (IntKind.u64.wrap ((x:Int) / 16+(x:Int))) 1085102592571150095=((Ost.p3 8 x:Nat):Int):=by
 have hw:=wrapN (x / 16+x) ((x:Int) / 16+(x:Int)) (by omega) (by omega);rw [hw];have hp:Ost.p3 8 x=(x / 16+x) &&& 1085102592571150095:=by unfold Ost.p3;rw [m2]
 rw [hp];exact gq (x / 16+x) 1085102592571150095 (by omega) (by omega) _ rfl
def aV (a b c d e f g h:Nat):Nat:=a+256*(b+256*(c+256*(d+256*(e+256*(f+256*(g+256*h))))))
theorem iB (a b c d e f g h:Nat) (_ha:a<=64) (_hb:b<=64) (_hc:c<=64) (_hd:d<=64) (_he:e<=64) (_hf:f<=64) (_hg:g<=64) (_hh:h<=64):aV a b c d e f g h<4700000000000000000:=by unfold aV;omega
theorem sh8 (a b c d e f g h:Nat) (_ha:a<=8) (_hb:b<=8) (_hc:c<=8) (_hd:d<=8) (_he:e<=8) (_hf:f<=8) (_hg:g<=8) (_hh:h<=8) :
  aV a b c d e f g h+aV a b c d e f g h / 256=aV (a+b) (b+c) (c+d) (d+e) (e+f) (f+g) (g+h) h:=by
 have:aV a b c d e f g h / 256=b+256*(c+256*(d+256*(e+256*(f+256*(g+256*h))))):=by unfold aV;omega
 rw [this];unfold aV;omega
theorem pH (a b c d e f g h:Nat) (_ha:a<=16) (_hb:b<=16) (_hc:c<=16) (_hd:d<=16) (_he:e<=16) (_hf:f<=16) (_hg:g<=16) (_hh:h<=16) :
  aV a b c d e f g h+aV a b c d e f g h / 65536=aV (a+c) (b+d) (c+e) (d+f) (e+g) (f+h) g h:=by
 have:aV a b c d e f g h / 65536=c+256*(d+256*(e+256*(f+256*(g+256*h)))):=by unfold aV;omega
 rw [this];unfold aV;omega
theorem pI (a b c d e f g h:Nat) (_ha:a<=32) (_hb:b<=32) (_hc:c<=32) (_hd:d<=32) (_he:e<=32) (_hf:f<=32) (_hg:g<=32) (_hh:h<=32) :
  aV a b c d e f g h+aV a b c d e f g h / 4294967296=aV (a+e) (b+f) (c+g) (d+h) e f g h:=by
 have:aV a b c d e f g h / 4294967296=e+256*(f+256*(g+256*h)):=by unfold aV;omega
 rw [this];unfold aV;omega
theorem pJ (a b c d e f g h:Nat) (_ha:a<=64):aV a b c d e f g h % 128=a:=by unfold aV;omega
theorem steps (A:Nat) (hA:A<18446744073709551616):∃ x1 x2 X Y Z V:Nat,
  IntKind.u64.wrap (bits BinOp.and IntKind.u64 ((A:Int) / 2) 6148914691236517205+bits BinOp.and IntKind.u64 (A:Int) 6148914691236517205)=(x1:Int)/\
  IntKind.u64.wrap (bits BinOp.and IntKind.u64 ((x1:Int) / 4) 3689348814741910323+bits BinOp.and IntKind.u64 (x1:Int) 3689348814741910323)=(x2:Int)/\
  bits BinOp.and IntKind.u64 (IntKind.u64.wrap ((x2:Int) / 16+(x2:Int))) 1085102592571150095=(X:Int)/\
  IntKind.u64.wrap ((X:Int)+(X:Int) / 256)=(Y:Int)/\IntKind.u64.wrap ((Y:Int)+(Y:Int) / 65536)=(Z:Int)/\IntKind.u64.wrap ((Z:Int)+(Z:Int) / 4294967296)=(V:Int)/\
  V % 128=(Ost.aI A 64).length/\V<4700000000000000000:=by
 obtain ⟨a,b,c,d,e,f,g,h,ha,hb,hc,hd,he,hf,hg,hh,hX,hS⟩:=Ost.th A;have h1:=pE A hA;have h2:=pF (Ost.p1 8 A) h1.2;have h3:=pG (Ost.p2 8 (Ost.p1 8 A)) h2.2;have Ha:Ost.p3 8 (Ost.p2 8 (Ost.p1 8 A))=aV a b c d e f g h:=hX;rw [Ha] at h3;have l1:=iB a b c d e f g h (by omega) (by omega) (by omega) (by omega) (by omega) (by omega) (by omega) (by omega);have s1:=sh8 a b c d e f g h ha hb hc hd he hf hg hh;have l2:=iB (a+b) (b+c) (c+d) (d+e) (e+f) (f+g) (g+h) h (by omega) (by omega) (by omega) (by omega) (by omega) (by omega) (by omega) (by omega);have s2:=pH (a+b) (b+c) (c+d) (d+e) (e+f) (f+g) (g+h) h (by omega) (by omega) (by omega) (by omega) (by omega) (by omega) (by omega) (by omega);have l3:=iB (a+b+(c+d)) (b+c+(d+e)) (c+d+(e+f)) (d+e+(f+g)) (e+f+(g+h)) (f+g+h) (g+h) h (by omega) (by omega) (by omega) (by omega) (by omega) (by omega) (by omega) (by omega);have s3:=pI (a+b+(c+d)) (b+c+(d+e)) (c+d+(e+f)) (d+e+(f+g)) (e+f+(g+h)) (f+g+h) (g+h) h (by omega) (by omega) (by omega) (by omega) (by omega) (by omega) (by omega) (by omega);have l4:=iB (a+b+(c+d)+(e+f+(g+h))) (b+c+(d+e)+(f+g+h)) (c+d+(e+f)+(g+h)) (d+e+(f+g)+h) (e+f+(g+h)) (f+g+h) (g+h) h (by omega) (by omega) (by omega) (by omega) (by omega) (by omega) (by omega) (by omega);refine ⟨_,_,_,aV (a+b) (b+c) (c+d) (d+e) (e+f) (f+g) (g+h) h,aV (a+b+(c+d)) (b+c+(d+e)) (c+d+(e+f)) (d+e+(f+g)) (e+f+(g+h)) (f+g+h) (g+h) h,_,h1.1,h2.1,h3,?_,?_,?_,pJ (a+b+(c+d)+(e+f+(g+h))) (b+c+(d+e)+(f+g+h)) (c+d+(e+f)+(g+h)) (d+e+(f+g)+h) (e+f+(g+h)) (f+g+h) (g+h) h (by omega) |>.trans (by rw [hS];omega),l4⟩
 ·exact wrapN _ _ (by rw [<- s1];simp) (by omega)
 ·exact wrapN _ _ (by rw [<- s2];simp) (by omega)
 ·exact wrapN _ _ (by rw [<- s3];simp) (by omega)
theorem pK (A:Nat) (w:World) (hA:A<18446744073709551616) :
  Calls prog 44 #[.int .u64 A] w λe w'=>e=.returned (.int .i64 ((Ost.aI A 64).length:Nat))/\w'=w:=by
 obtain ⟨x1,x2,X,Y,Z,V,r1,r2,r3,r4,r5,r6,e,hV⟩:=steps A hA;have HE:=qI e;clear e
 go_enter func44,ntmps44
 go_wp2
 go_ret;refine ⟨?_,rfl⟩;have e:bits BinOp.and IntKind.i64 (V:Int) 127=((Ost.aI A 64).length:Nat):=by
  rw [i64_and127];have:=HE.out;omega
 exact congrArg (λz=>Ending.returned (.int .i64 z)) e
theorem fO (A:Nat) (w:World) (hA:A<18446744073709551616) :
  Calls prog 17 #[.int .u64 A] w λe w'=>e=.returned (.int .i64 ((Ost.aI A 64).length:Nat))/\w'=w:=by
 go_enter func17,ntmps17
 go_wp2_with fail
 refine (pK A _ hA).mono ?_;rintro e w' ⟨rfl,rfl⟩
 go_wp2
 go_ret;exact ⟨rfl,rfl⟩
end
section
open RowKit
open Ost (Cpu ad br ae jT jU eW)
def az (_:Cpu):Bool:=true
structure ba (w:World) (tb b o c:Nat) (l:List Cpu):Prop where
 cell:w.cell? ⟨tb,0,none⟩=some (.slice (some ⟨b,o,none⟩) l.length c)
 cells:gr w b o l
 lt:b<w.heap.size
 len:l.length<=64
theorem ba.tlt {w:World} {tb b o c:Nat} {l:List Cpu} (h:ba w tb b o c l):tb<w.heap.size:=Q3 w _ h.cell
theorem ba.below {w w':World} {tb b o c:Nat} {l:List Cpu} (h:ba w tb b o c l) (hb:Below w.heap.size w w'):ba w' tb b o c l:=
 ⟨(hb.cell (p:=⟨tb,0,none⟩) h.tlt).trans h.cell,h.cells.below h.lt hb,Q1 h.lt hb.size,h.len⟩
theorem A7 (x:Cpu) (w:World) :
  Calls prog 72 #[.agg #[.int .i64 x.core,.int .i64 x.sock,.int .i64 x.node]] w λe w'=>e=.returned (.bool (az x))/\Below w.heap.size w w':=by
 
 go_enter func72,ntmps72
 go_wp2
 go_ret;exact ⟨rfl,(Q0 _ _).alloc (lR) _⟩
abbrev dW:=λ(x0 x1 x2:Int)=>(.cells #[.int .i64 x0,.int .i64 x1,.int .i64 x2] 84:Obj)
theorem A8 (tb b o c:Nat) (l:List Cpu) (w:World) (ht:ba w tb b o c l) :
  Calls prog 71 #[.pointer (some ⟨tb,0,none⟩),.func (.func 72) #[] #[]] w λe w'=>e=.returned (.int .u64 (ae az l:Nat))/\Below w.heap.size w w':=by
 have HC:=qI ht.cells;have hT:=ht.cell;have Hh:=qI ht.lt;have hl:=ht.len;clear ht
 
 go_enter func71,ntmps71
 go_wp2
 go_loopw [5,13] (λt i wr=>∃ k:Nat,k<=l.length/\i=.int .i64 k/\t=.int .u64 (br az l k:Nat)/\Below w.heap.size w wr) (λ_ i _=>l.length - (intOf i).toNat)
 case atStart=>exact ⟨0,by omega,rfl,rfl,Q0 _ _⟩
 case round=>
  obtain ⟨k,hk,rfl,rfl,hB⟩:=hrel
  by_cases hlt:k<l.length
  ·obtain ⟨Ha,He,Hc⟩:=(HC.out.below Hh.out hB) k hlt
   
   have HY:=qI λh=>jT (p:=az) (l:=l) (k:=k) h;have HN:=qI λh=>jU (p:=az) (l:=l) (k:=k) h;have HL:=qI (eW az l k (by omega));generalize l.getD k ad=x at *;have Hb:=hB.alloc hB.size (dW x.core x.sock x.node)
   go_wp2_with fail
   refine (A7 x _).mono ?_;rintro e w1 ⟨rfl,hb⟩;have Hg:=Hb.trans (hb.mono Hb.size);clear Hb hb
   rcases two (az x) with hb|hb
   ·have HO:Hid (bits BinOp.or IntKind.u64 (br az l k:Nat) (IntKind.u64.wrap (2 ^ k))=((br az l (k+1):Nat):Int)):=by
     unfold Hid;rw [lS _ _ HL.out (by omega),HY.out hb]
    rw [hb];clear hb
    go_wp2
    go_roundw
    case rel=>exact ⟨k+1,by omega,by go_num,by rw [<- HO.out],Hg⟩
    case measure=>simp [intOf];omega
   ·have HO:Hid (br az l k=br az l (k+1)):=(HN.out hb).symm;rw [hb];clear hb
    go_wp2
    go_roundw
    case rel=>exact ⟨k+1,by omega,by go_num,by rw [<- HO.out],Hg⟩
    case measure=>simp [intOf];omega
  ·have Hf:k=l.length:=by omega
   have H:Hid (br az l k=ae az l):=by unfold Hid;rw [Hf];rfl
   clear Hf
   go_wp2
   go_ret;exact ⟨congrArg (λz:Nat=>Ending.returned (.int .u64 z)) H.out,hB⟩
theorem gu (tb b o c:Nat) (l:List Cpu) (w:World) (ht:ba w tb b o c l) :
  Calls prog 36 #[.pointer (some ⟨tb,0,none⟩)] w λe w'=>e=.returned (.int .u64 (ae az l:Nat))/\Below w.heap.size w w':=by
 
 go_enter func36,ntmps36
 go_wp2_with fail
 refine (A8 tb b o c l w ht).mono ?_;rintro e w1 ⟨rfl,hb⟩
 go_wp2
 go_ret;exact ⟨rfl,hb⟩
abbrev nG:=λ(x0:Cpu)=>(.cells #[.int .i64 x0.core,.int .i64 x0.sock,.int .i64 x0.node] 84:Obj)
theorem A9 (x:Cpu) (n:Int) (B:Nat) (w:World) (hn:w.cell? ⟨B,0,none⟩=some (.int .i64 n)) :
  Calls prog 248 #[.agg #[.int .i64 x.core,.int .i64 x.sock,.int .i64 x.node],.pointer (some ⟨B,0,none⟩)] w λe w'=>e=.returned (.bool ((λx=>x.core == n) x))/\Below w.heap.size w w':=by
 have Ha:=(((Q0 w.heap.size w).alloc (lR) (nG x)).cell (p:=⟨B,0,none⟩) (Q3 w _ hn)).trans hn;clear hn
 go_enter func248,ntmps248
 go_wp2
 go_ret;exact ⟨rfl,(Q0 _ _).alloc (lR) _⟩
theorem Bb (n:Int) (B tb b o c:Nat) (l:List Cpu) (w:World) (ht:ba w tb b o c l) (hn:w.cell? ⟨B,0,none⟩=some (.int .i64 n)) :
  Calls prog 71 #[.pointer (some ⟨tb,0,none⟩),.func (.func 248) #[] #[.pointer (some ⟨B,0,none⟩)]] w λe w'=>e=.returned (.int .u64 (ae (λx=>x.core == n) l:Nat))/\Below w.heap.size w w':=by
 have HC:=qI ht.cells;have hT:=ht.cell;have Hl:=qI ht.lt;have hl:=ht.len;clear ht;have Hk:=qI hn;have Hj:=qI (Q3 w _ hn);clear hn
 go_enter func71,ntmps71
 go_wp2
 go_loopw [5,13] (λt i wr=>∃ k:Nat,k<=l.length/\i=.int .i64 k/\t=.int .u64 (br (λx=>x.core == n) l k:Nat)/\Below w.heap.size w wr) (λ_ i _=>l.length - (intOf i).toNat)
 case atStart=>exact ⟨0,by omega,rfl,rfl,Q0 _ _⟩
 case round=>
  obtain ⟨k,hk,rfl,rfl,hB⟩:=hrel
  by_cases hlt:k<l.length
  ·obtain ⟨Ha,Hg,He⟩:=(HC.out.below Hl.out hB) k hlt;have Hf:=(hB.cell (p:=⟨B,0,none⟩) Hj.out).trans Hk.out;have Hb:=qI ((((Q0 wr.heap.size wr).alloc (lR) (.cells #[.int .i64 (l.getD k ad).core,.int .i64 (l.getD k ad).sock,.int .i64 (l.getD k ad).node] 84)).cell (p:=⟨B,0,none⟩) (Q3 wr _ Hf)).trans Hf);clear Hf;have HY:=qI λh=>jT (p:=(λx=>x.core == n)) (l:=l) (k:=k) h;have HN:=qI λh=>jU (p:=(λx=>x.core == n)) (l:=l) (k:=k) h;have HL:=qI (eW (λx=>x.core == n) l k (by omega));generalize l.getD k ad=x at *;have Hc:=hB.alloc hB.size (dW x.core x.sock x.node)
   go_wp2_with fail
   refine (A9 x n B _ Hb.out).mono ?_;rintro e w1 ⟨rfl,hb⟩;have Hi:=Hc.trans (hb.mono Hc.size);clear Hc hb
   rcases two ((λx=>x.core == n) x) with hb|hb
   ·have HO:Hid (bits BinOp.or IntKind.u64 (br (λx=>x.core == n) l k:Nat) (IntKind.u64.wrap (2 ^ k))=((br (λx=>x.core == n) l (k+1):Nat):Int)):=by
     unfold Hid;rw [lS _ _ HL.out (by omega),HY.out hb]
    rw [hb];clear hb
    go_wp2
    go_roundw
    case rel=>exact ⟨k+1,by omega,by go_num,by rw [<- HO.out],Hi⟩
    case measure=>simp [intOf];omega
   ·have HO:Hid (br (λx=>x.core == n) l k=br (λx=>x.core == n) l (k+1)):=(HN.out hb).symm;rw [hb];clear hb
    go_wp2
    go_roundw
    case rel=>exact ⟨k+1,by omega,by go_num,by rw [<- HO.out],Hi⟩
    case measure=>simp [intOf];omega
  ·have Hh:k=l.length:=by omega
   have H:Hid (br (λx=>x.core == n) l k=ae (λx=>x.core == n) l):=by unfold Hid;rw [Hh];rfl
   clear Hh
   go_wp2
   go_ret;exact ⟨congrArg (λz:Nat=>Ending.returned (.int .u64 z)) H.out,hB⟩
theorem tH (tb b o c:Nat) (l:List Cpu) (n:Int) (w:World) (ht:ba w tb b o c l) :
  Calls prog 206 #[.pointer (some ⟨tb,0,none⟩),.int .i64 n] w λe w'=>e=.returned (.int .u64 (ae (λx=>x.core == n) l:Nat))/\Below w.heap.size w w':=by
 have He:∀ (fn:Fn) (first cap:Array Value) (w:World),(Instr.makeFunc fn first cap).run prog w=.ok (.func fn first cap) w:=λ_ _ _ _=>rfl
 have Ha:=(Q0 w.heap.size w).alloc (lR) (.cells #[.int .i64 n] 3);have Hb:=ht.below Ha;have Hc:=qI (show (w.alloc (.cells #[.int .i64 n] 3)).cell? ⟨w.heap.size,0,none⟩=some (.int .i64 n) by simp);clear ht
 go_enter func206,ntmps206
 go_wp2_with fail
 refine (Bb n w.heap.size tb b o c l _ Hb Hc.out).mono ?_;rintro e w1 ⟨rfl,hb⟩
 go_wp2
 go_ret;exact ⟨rfl,Ha.trans (hb.mono Ha.size)⟩
theorem Bf (x:Cpu) (n:Int) (B:Nat) (w:World) (hn:w.cell? ⟨B,0,none⟩=some (.int .i64 n)) :
  Calls prog 247 #[.agg #[.int .i64 x.core,.int .i64 x.sock,.int .i64 x.node],.pointer (some ⟨B,0,none⟩)] w λe w'=>e=.returned (.bool ((λx=>x.sock == n) x))/\Below w.heap.size w w':=by
 have Ha:=(((Q0 w.heap.size w).alloc (lR) (nG x)).cell (p:=⟨B,0,none⟩) (Q3 w _ hn)).trans hn;clear hn
 go_enter func247,ntmps247
 go_wp2
 go_ret;exact ⟨rfl,(Q0 _ _).alloc (lR) _⟩
theorem Bj (n:Int) (B tb b o c:Nat) (l:List Cpu) (w:World) (ht:ba w tb b o c l) (hn:w.cell? ⟨B,0,none⟩=some (.int .i64 n)) :
  Calls prog 71 #[.pointer (some ⟨tb,0,none⟩),.func (.func 247) #[] #[.pointer (some ⟨B,0,none⟩)]] w λe w'=>e=.returned (.int .u64 (ae (λx=>x.sock == n) l:Nat))/\Below w.heap.size w w':=by
 have HC:=qI ht.cells;have hT:=ht.cell;have Hl:=qI ht.lt;have hl:=ht.len;clear ht;have Hk:=qI hn;have Hj:=qI (Q3 w _ hn);clear hn
 go_enter func71,ntmps71
 go_wp2
 go_loopw [5,13] (λt i wr=>∃ k:Nat,k<=l.length/\i=.int .i64 k/\t=.int .u64 (br (λx=>x.sock == n) l k:Nat)/\Below w.heap.size w wr) (λ_ i _=>l.length - (intOf i).toNat)
 case atStart=>exact ⟨0,by omega,rfl,rfl,Q0 _ _⟩
 case round=>
  obtain ⟨k,hk,rfl,rfl,hB⟩:=hrel
  by_cases hlt:k<l.length
  ·obtain ⟨Ha,Hg,He⟩:=(HC.out.below Hl.out hB) k hlt;have Hf:=(hB.cell (p:=⟨B,0,none⟩) Hj.out).trans Hk.out;have Hb:=qI ((((Q0 wr.heap.size wr).alloc (lR) (.cells #[.int .i64 (l.getD k ad).core,.int .i64 (l.getD k ad).sock,.int .i64 (l.getD k ad).node] 84)).cell (p:=⟨B,0,none⟩) (Q3 wr _ Hf)).trans Hf);clear Hf;have HY:=qI λh=>jT (p:=(λx=>x.sock == n)) (l:=l) (k:=k) h;have HN:=qI λh=>jU (p:=(λx=>x.sock == n)) (l:=l) (k:=k) h;have HL:=qI (eW (λx=>x.sock == n) l k (by omega));generalize l.getD k ad=x at *;have Hc:=hB.alloc hB.size (dW x.core x.sock x.node)
   go_wp2_with fail
   refine (Bf x n B _ Hb.out).mono ?_;rintro e w1 ⟨rfl,hb⟩;have Hi:=Hc.trans (hb.mono Hc.size);clear Hc hb
   rcases two ((λx=>x.sock == n) x) with hb|hb
   ·have HO:Hid (bits BinOp.or IntKind.u64 (br (λx=>x.sock == n) l k:Nat) (IntKind.u64.wrap (2 ^ k))=((br (λx=>x.sock == n) l (k+1):Nat):Int)):=by
     unfold Hid;rw [lS _ _ HL.out (by omega),HY.out hb]
    rw [hb];clear hb
    go_wp2
    go_roundw
    case rel=>exact ⟨k+1,by omega,by go_num,by rw [<- HO.out],Hi⟩
    case measure=>simp [intOf];omega
   ·have HO:Hid (br (λx=>x.sock == n) l k=br (λx=>x.sock == n) l (k+1)):=(HN.out hb).symm;rw [hb];clear hb
    go_wp2
    go_roundw
    case rel=>exact ⟨k+1,by omega,by go_num,by rw [<- HO.out],Hi⟩
    case measure=>simp [intOf];omega
  ·have Hh:k=l.length:=by omega
   have H:Hid (br (λx=>x.sock == n) l k=ae (λx=>x.sock == n) l):=by unfold Hid;rw [Hh];rfl
   clear Hh
   go_wp2
   go_ret;exact ⟨congrArg (λz:Nat=>Ending.returned (.int .u64 z)) H.out,hB⟩
theorem Bl (tb b o c:Nat) (l:List Cpu) (n:Int) (w:World) (ht:ba w tb b o c l) :
  Calls prog 205 #[.pointer (some ⟨tb,0,none⟩),.int .i64 n] w λe w'=>e=.returned (.int .u64 (ae (λx=>x.sock == n) l:Nat))/\Below w.heap.size w w':=by
 have He:∀ (fn:Fn) (first cap:Array Value) (w:World),(Instr.makeFunc fn first cap).run prog w=.ok (.func fn first cap) w:=λ_ _ _ _=>rfl
 have Ha:=(Q0 w.heap.size w).alloc (lR) (.cells #[.int .i64 n] 3);have Hb:=ht.below Ha;have Hc:=qI (show (w.alloc (.cells #[.int .i64 n] 3)).cell? ⟨w.heap.size,0,none⟩=some (.int .i64 n) by simp);clear ht
 go_enter func205,ntmps205
 go_wp2_with fail
 refine (Bj n w.heap.size tb b o c l _ Hb Hc.out).mono ?_;rintro e w1 ⟨rfl,hb⟩
 go_wp2
 go_ret;exact ⟨rfl,Ha.trans (hb.mono Ha.size)⟩
theorem Bo (x:Cpu) (n:Nat) (B:Nat) (w:World) (hn:w.cell? ⟨B,0,none⟩=some (.int .u8 n)) (g0:0<=x.node) (g3:x.node<=3) (hm:n<256) :
  Calls prog 203 #[.agg #[.int .i64 x.core,.int .i64 x.sock,.int .i64 x.node],.pointer (some ⟨B,0,none⟩)] w λe w'=>e=.returned (.bool ((aT n) x))/\Below w.heap.size w w':=by
 have Ha:=qI (tC n x.node.toNat hm);have Hb:=(((Q0 w.heap.size w).alloc (lR) (nG x)).cell (p:=⟨B,0,none⟩) (Q3 w _ hn)).trans hn;clear hn
 go_enter func203,ntmps203
 go_wp2
 go_ret;exact ⟨congrArg (λz=>Ending.returned (.bool z)) Ha.out,(Q0 _ _).alloc (lR) _⟩
theorem Bt (n:Nat) (B tb b o c:Nat) (l:List Cpu) (w:World) (ht:ba w tb b o c l) (hn:w.cell? ⟨B,0,none⟩=some (.int .u8 n)) (hg:Good l) (hm:n<256) :
  Calls prog 71 #[.pointer (some ⟨tb,0,none⟩),.func (.func 203) #[] #[.pointer (some ⟨B,0,none⟩)]] w λe w'=>e=.returned (.int .u64 (ae (aT n) l:Nat))/\Below w.heap.size w w':=by
 have HC:=qI ht.cells;have hT:=ht.cell;have Hl:=qI ht.lt;have hl:=ht.len;clear ht;have Hj:=qI hn;have Hk:=qI (Q3 w _ hn);have HG:=qI hg;clear hn hg
 go_enter func71,ntmps71
 go_wp2
 go_loopw [5,13] (λt i wr=>∃ k:Nat,k<=l.length/\i=.int .i64 k/\t=.int .u64 (br (aT n) l k:Nat)/\Below w.heap.size w wr) (λ_ i _=>l.length - (intOf i).toNat)
 case atStart=>exact ⟨0,by omega,rfl,rfl,Q0 _ _⟩
 case round=>
  obtain ⟨k,hk,rfl,rfl,hB⟩:=hrel
  by_cases hlt:k<l.length
  ·obtain ⟨He,Hb,Hg⟩:=(HC.out.below Hl.out hB) k hlt;have Hc:=(hB.cell (p:=⟨B,0,none⟩) Hk.out).trans Hj.out;have Hf:=qI ((((Q0 wr.heap.size wr).alloc (lR) (.cells #[.int .i64 (l.getD k ad).core,.int .i64 (l.getD k ad).sock,.int .i64 (l.getD k ad).node] 84)).cell (p:=⟨B,0,none⟩) (Q3 wr _ Hc)).trans Hc);clear Hc;obtain ⟨g0,g3⟩:=HG.out.at hlt;have HY:=qI λh=>jT (p:=(aT n)) (l:=l) (k:=k) h;have HN:=qI λh=>jU (p:=(aT n)) (l:=l) (k:=k) h;have HL:=qI (eW (aT n) l k (by omega));generalize l.getD k ad=x at *;have Ha:=hB.alloc hB.size (dW x.core x.sock x.node)
   go_wp2_with fail
   refine (Bo x n B _ Hf.out g0 g3 hm).mono ?_;rintro e w1 ⟨rfl,hb⟩;have Hi:=Ha.trans (hb.mono Ha.size);clear Ha hb
   rcases two ((aT n) x) with hb|hb
   ·have HO:Hid (bits BinOp.or IntKind.u64 (br (aT n) l k:Nat) (IntKind.u64.wrap (2 ^ k))=((br (aT n) l (k+1):Nat):Int)):=by
     unfold Hid;rw [lS _ _ HL.out (by omega),HY.out hb]
    rw [hb];clear hb
    go_wp2
    go_roundw
    case rel=>exact ⟨k+1,by omega,by go_num,by rw [<- HO.out],Hi⟩
    case measure=>simp [intOf];omega
   ·have HO:Hid (br (aT n) l k=br (aT n) l (k+1)):=(HN.out hb).symm;rw [hb];clear hb
    go_wp2
    go_roundw
    case rel=>exact ⟨k+1,by omega,by go_num,by rw [<- HO.out],Hi⟩
    case measure=>simp [intOf];omega
  ·have Hh:k=l.length:=by omega
   have H:Hid (br (aT n) l k=ae (aT n) l):=by unfold Hid;rw [Hh];rfl
   clear Hh
   go_wp2
   go_ret;exact ⟨congrArg (λz:Nat=>Ending.returned (.int .u64 z)) H.out,hB⟩
theorem Bu (tb b o c:Nat) (l:List Cpu) (n:Nat) (w:World) (ht:ba w tb b o c l) (hg:Good l) (hm:n<256) :
  Calls prog 164 #[.pointer (some ⟨tb,0,none⟩),.int .u8 n] w λe w'=>e=.returned (.int .u64 (ae (aT n) l:Nat))/\Below w.heap.size w w':=by
 have He:∀ (fn:Fn) (first cap:Array Value) (w:World),(Instr.makeFunc fn first cap).run prog w=.ok (.func fn first cap) w:=λ_ _ _ _=>rfl
 have Ha:=(Q0 w.heap.size w).alloc (lR) (.cells #[.int .u8 n] 43);have Hb:=ht.below Ha;have Hc:=qI (show (w.alloc (.cells #[.int .u8 n] 43)).cell? ⟨w.heap.size,0,none⟩=some (.int .u8 n) by simp);clear ht
 go_enter func164,ntmps164
 go_wp2_with fail
 refine (Bt n w.heap.size tb b o c l _ Hb Hc.out hg hm).mono ?_;rintro e w1 ⟨rfl,hb⟩
 go_wp2
 go_ret;exact ⟨rfl,Ha.trans (hb.mono Ha.size)⟩
end
section
namespace Ost
def low (f:Cpu->Int) (l:List Cpu) (k:Nat):Nat:=ae (λx=>decide (f x<k)) l
def at' (f:Cpu->Int) (l:List Cpu) (k:Nat):Nat:=ae (λx=>f x == (k:Int)) l
end Ost
end
section
open RowKit
open Ost (Cpu ad br ae)
def bh (s:Nat) (l:List Cpu) (j:Int):Nat->Nat
 | 0=>0
 | k+1=>if (s.testBit k && decide ((l.getD k ad).node=j))=true then bh s l j k+1 else bh s l j k
theorem nH {s:Nat} {l:List Cpu} {k:Nat} {j:Int} (h:s.testBit k=true) (hj:(l.getD k ad).node=j):bh s l j (k+1)=bh s l j k+1:=by
 rw [bh,if_pos (by rw [h,hj];simp)]
theorem fP {s:Nat} {l:List Cpu} {k:Nat} {j:Int} (hj:(l.getD k ad).node≠j):bh s l j (k+1)=bh s l j k:=by
 rw [bh,if_neg (by simp only [Q7 hj,Bool.and_false];simp)]
theorem nI {s:Nat} {l:List Cpu} {k:Nat} {j:Int} (h:s.testBit k=false):bh s l j (k+1)=bh s l j k:=by
 rw [bh,if_neg (by rw [h];simp)]
theorem nJ (s:Nat) (l:List Cpu) (j:Int) (k:Nat):bh s l j k<=k:=by
 induction k with
 | zero=>exact lR
 | succ k ih=>rw [bh];split <;> omega
structure bJ (w:World) (B:Nat) (a b c d:Int):Prop where
 c0:w.cell? ⟨B,0,none⟩=some (.int .i64 a)
 c1:w.cell? ⟨B,1,none⟩=some (.int .i64 b)
 c2:w.cell? ⟨B,2,none⟩=some (.int .i64 c)
 c3:w.cell? ⟨B,3,none⟩=some (.int .i64 d)
 f0:w.frozen? ⟨B,0,none⟩=false
 f1:w.frozen? ⟨B,1,none⟩=false
 f2:w.frozen? ⟨B,2,none⟩=false
 f3:w.frozen? ⟨B,3,none⟩=false
theorem bJ.lt {w:World} {B:Nat} {a b c d:Int} (h:bJ w B a b c d):B<w.heap.size:=Q3 w _ h.c0
theorem bJ.below {w w':World} {B K:Nat} {a b c d:Int} (h:bJ w B a b c d) (hb:Below K w w') (hK:B<K):bJ w' B a b c d:=
 ⟨(hb.cell (p:=⟨B,0,none⟩) hK).trans h.c0,(hb.cell (p:=⟨B,1,none⟩) hK).trans h.c1,(hb.cell (p:=⟨B,2,none⟩) hK).trans h.c2,(hb.cell (p:=⟨B,3,none⟩) hK).trans h.c3,
  (hb.frozen (p:=⟨B,0,none⟩) hK).trans h.f0,(hb.frozen (p:=⟨B,1,none⟩) hK).trans h.f1,(hb.frozen (p:=⟨B,2,none⟩) hK).trans h.f2,(hb.frozen (p:=⟨B,3,none⟩) hK).trans h.f3⟩
theorem bJ.made (w:World) (t:TypeId) (a b c d:Int):bJ (w.alloc (.cells #[.int .i64 a,.int .i64 b,.int .i64 c,.int .i64 d] t)) w.heap.size a b c d:=by
 constructor <;> simp
theorem bJ.alloc {w:World} {B:Nat} {a b c d:Int} (h:bJ w B a b c d) (o:Obj):bJ (w.alloc o) B a b c d:=
 h.below ((Q0 _ _).alloc (lR) _) h.lt
theorem bJ.set_other {w:World} {B:Nat} {a b c d:Int} (h:bJ w B a b c d) {p:Addr} (hp:B≠p.block) (v:Value):bJ (w.setCell p v) B a b c d:=by
 have e:(w.setCell p v).heap[B]?=w.heap[B]?:=Below.heap_setCell _ _ _ _ hp;exact ⟨(World.cell?_of_block (w:=w) (a:=⟨B,0,none⟩) e).trans h.c0,(World.cell?_of_block (w:=w) (a:=⟨B,1,none⟩) e).trans h.c1,(World.cell?_of_block (w:=w) (a:=⟨B,2,none⟩) e).trans h.c2,(World.cell?_of_block (w:=w) (a:=⟨B,3,none⟩) e).trans h.c3,
  (World.frozen?_of_block (w:=w) (a:=⟨B,0,none⟩) e).trans h.f0,(World.frozen?_of_block (w:=w) (a:=⟨B,1,none⟩) e).trans h.f1,(World.frozen?_of_block (w:=w) (a:=⟨B,2,none⟩) e).trans h.f2,(World.frozen?_of_block (w:=w) (a:=⟨B,3,none⟩) e).trans h.f3⟩
theorem bJ.set0 {w:World} {B:Nat} {a b c d:Int} (h:bJ w B a b c d) (x:Int):bJ (w.setCell ⟨B,0,none⟩ (.int .i64 x)) B x b c d:=by
 obtain ⟨c0,c1,c2,c3,f0,f1,f2,f3⟩:=h;constructor <;> first|exact World.frozen?_setCell.trans (by assumption)|go_simp
theorem bJ.set1 {w:World} {B:Nat} {a b c d:Int} (h:bJ w B a b c d) (x:Int):bJ (w.setCell ⟨B,1,none⟩ (.int .i64 x)) B a x c d:=by
 obtain ⟨c0,c1,c2,c3,f0,f1,f2,f3⟩:=h;constructor <;> first|exact World.frozen?_setCell.trans (by assumption)|go_simp
theorem bJ.set2 {w:World} {B:Nat} {a b c d:Int} (h:bJ w B a b c d) (x:Int):bJ (w.setCell ⟨B,2,none⟩ (.int .i64 x)) B a b x d:=by
 obtain ⟨c0,c1,c2,c3,f0,f1,f2,f3⟩:=h;constructor <;> first|exact World.frozen?_setCell.trans (by assumption)|go_simp
theorem bJ.set3 {w:World} {B:Nat} {a b c d:Int} (h:bJ w B a b c d) (x:Int):bJ (w.setCell ⟨B,3,none⟩ (.int .i64 x)) B a b c x:=by
 obtain ⟨c0,c1,c2,c3,f0,f1,f2,f3⟩:=h;constructor <;> first|exact World.frozen?_setCell.trans (by assumption)|go_simp
theorem lP (A n:Nat) (w:World) (hA:A<18446744073709551616) (hn:n<64) :
  Calls prog 154 #[.int .u64 A,.int .i64 n] w λe w'=>e=.returned (.bool (A.testBit n))/\w'=w:=by
 have HB:=pC A n hA
 go_enter func154,ntmps154
 go_wp2_with go_in
 go_ret;exact ⟨rfl,rfl⟩
theorem nK {fn:Func} {p:Tmp} {ty:TypeId} (h:fn.results=#[.cell p ty]) (tmps:Array Value) (P:Program) (w:World) :
  (results fn tmps).run P w=((asAddr (tmps.getD p undef)).run P w).andThen λa w₁=>(loadVar ty a).run P w₁:=by
 simp only [results,h]
 simp [Sem.run_bind,Result.andThen]
def kN (s:Nat) (l:List Cpu) (k:Nat):Value:=.agg #[.int .i64 (bh s l 0 k:Nat),.int .i64 (bh s l 1 k:Nat),.int .i64 (bh s l 2 k:Nat),.int .i64 (bh s l 3 k:Nat)]
abbrev pQ:=(.cells #[.int .i64 0,.int .i64 0,.int .i64 0,.int .i64 0] 214:Obj)
theorem kK (A tb b o c:Nat) (l:List Cpu) (w:World) (ht:ba w tb b o c l) (hA:A<18446744073709551616) (hg:Good l) :
  Calls prog 117 #[.pointer (some ⟨tb,0,none⟩),.int .u64 A] w λe w'=>e=.returned (kN A l l.length)/\Below w.heap.size w w':=by
 have Hj:=((Q0 w.heap.size w).alloc (lR) (pQ));have Hf:=Hj.alloc Hj.size (pQ);have Hk:=ht.below Hf;have HC:=qI ht.cells;have hT:=Hk.cell;have Hm:=qI ht.lt;have hl:=ht.len;have HG:=qI hg;have Hg:=qI Hf;clear ht Hk Hj Hf hg
 go_enter func117,ntmps117
 go_wp2
 go_loopw [13] (λi wr=>∃ k:Nat,k<=l.length/\i=.int .i64 k/\bJ wr w.heap.size 0 0 0 0/\bJ wr (w.heap.size+1) (bh A l 0 k:Nat) (bh A l 1 k:Nat) (bh A l 2 k:Nat) (bh A l 3 k:Nat)/\Below w.heap.size w wr) (λi _=>l.length - (intOf i).toNat)
 case atStart=>exact ⟨0,by omega,rfl,(bJ.made _ _ _ _ _ _).alloc _,by have:=bJ.made (w.alloc (pQ)) 214 0 0 0 0;simpa [bh] using this,Hg.out⟩
 case round=>
  obtain ⟨k,hk,rfl,h4,h5,hB⟩:=hrel
  by_cases hlt:k<l.length
  ·obtain ⟨Hh,Hi,Hc⟩:=(HC.out.below Hm.out hB) k hlt;obtain ⟨g0,g3⟩:=HG.out.at hlt;have HI:=qI (lP A k (wr.alloc (.cells #[.int .i64 (l.getD k ad).core,.int .i64 (l.getD k ad).sock,.int .i64 (l.getD k ad).node] 84)) hA (by omega));have He:=hB.alloc hB.size (.cells #[.int .i64 (l.getD k ad).core,.int .i64 (l.getD k ad).sock,.int .i64 (l.getD k ad).node] 84);have Hb:=h4.alloc (.cells #[.int .i64 (l.getD k ad).core,.int .i64 (l.getD k ad).sock,.int .i64 (l.getD k ad).node] 84);have Ha:=h5.alloc (.cells #[.int .i64 (l.getD k ad).core,.int .i64 (l.getD k ad).sock,.int .i64 (l.getD k ad).node] 84);have l0:=qI (nJ A l 0 k);have l1:=qI (nJ A l 1 k);have l2:=qI (nJ A l 2 k);have l3:=qI (nJ A l 3 k);have hN:(l.getD k ad).node=0\/(l.getD k ad).node=1\/(l.getD k ad).node=2\/(l.getD k ad).node=3:=by omega
   rcases two (A.testBit k) with hb|hb
   ·rw [hb] at HI
    rcases hN with hN|hN|hN|hN
    ·have EJ:=qI (nH (l:=l) (j:=0) hb hN);have E1:=qI (fP (s:=A) (l:=l) (k:=k) (j:=1) (by rw [hN];decide));have E2:=qI (fP (s:=A) (l:=l) (k:=k) (j:=2) (by rw [hN];decide));have E3:=qI (fP (s:=A) (l:=l) (k:=k) (j:=3) (by rw [hN];decide));have q0:=Ha.c0;have r0:=Ha.f0;have Hb:=qI Hb;have Ha:=qI Ha;clear hb h4 h5;rw [hN] at Hc HI He Hb Ha q0 r0;clear hN g0 g3;have m0:=l0.out;generalize l.getD k ad=x at *;generalize hcz:bh A l 0 k=z at *
     go_wp2_with (go_at_call 154;refine HI.out.mono ?_;rintro e w' ⟨rfl,rfl⟩)
     go_roundw
     case rel=>
      refine ⟨k+1,by omega,by go_num,Hb.out.set_other (by simp) _,?_,He.setCell (by simp) _⟩;rw [EJ.out,E1.out,E2.out,E3.out]
      have:=Ha.out.set0 ((z:Int)+1)
      simpa using this
     case measure=>simp [intOf];omega
    ·have EJ:=qI (nH (l:=l) (j:=1) hb hN);have E0:=qI (fP (s:=A) (l:=l) (k:=k) (j:=0) (by rw [hN];decide));have E2:=qI (fP (s:=A) (l:=l) (k:=k) (j:=2) (by rw [hN];decide));have E3:=qI (fP (s:=A) (l:=l) (k:=k) (j:=3) (by rw [hN];decide));have q0:=Ha.c1;have r0:=Ha.f1;have Hb:=qI Hb;have Ha:=qI Ha;clear hb h4 h5;rw [hN] at Hc HI He Hb Ha q0 r0;clear hN g0 g3;have m0:=l1.out;generalize l.getD k ad=x at *;generalize hcz:bh A l 1 k=z at *
     go_wp2_with (go_at_call 154;refine HI.out.mono ?_;rintro e w' ⟨rfl,rfl⟩)
     go_roundw
     case rel=>
      refine ⟨k+1,by omega,by go_num,Hb.out.set_other (by simp) _,?_,He.setCell (by simp) _⟩;rw [EJ.out,E0.out,E2.out,E3.out]
      have:=Ha.out.set1 ((z:Int)+1)
      simpa using this
     case measure=>simp [intOf];omega
    ·have EJ:=qI (nH (l:=l) (j:=2) hb hN);have E0:=qI (fP (s:=A) (l:=l) (k:=k) (j:=0) (by rw [hN];decide));have E1:=qI (fP (s:=A) (l:=l) (k:=k) (j:=1) (by rw [hN];decide));have E3:=qI (fP (s:=A) (l:=l) (k:=k) (j:=3) (by rw [hN];decide));have q0:=Ha.c2;have r0:=Ha.f2;have Hb:=qI Hb;have Ha:=qI Ha;clear hb h4 h5;rw [hN] at Hc HI He Hb Ha q0 r0;clear hN g0 g3;have m0:=l2.out;generalize l.getD k ad=x at *;generalize hcz:bh A l 2 k=z at *
     go_wp2_with (go_at_call 154;refine HI.out.mono ?_;rintro e w' ⟨rfl,rfl⟩)
     go_roundw
     case rel=>
      refine ⟨k+1,by omega,by go_num,Hb.out.set_other (by simp) _,?_,He.setCell (by simp) _⟩;rw [EJ.out,E0.out,E1.out,E3.out]
      have:=Ha.out.set2 ((z:Int)+1)
      simpa using this
     case measure=>simp [intOf];omega
    ·have EJ:=qI (nH (l:=l) (j:=3) hb hN);have E0:=qI (fP (s:=A) (l:=l) (k:=k) (j:=0) (by rw [hN];decide));have E1:=qI (fP (s:=A) (l:=l) (k:=k) (j:=1) (by rw [hN];decide));have E2:=qI (fP (s:=A) (l:=l) (k:=k) (j:=2) (by rw [hN];decide));have q0:=Ha.c3;have r0:=Ha.f3;have Hb:=qI Hb;have Ha:=qI Ha;clear hb h4 h5;rw [hN] at Hc HI He Hb Ha q0 r0;clear hN g0 g3;have m0:=l3.out;generalize l.getD k ad=x at *;generalize hcz:bh A l 3 k=z at *
     go_wp2_with (go_at_call 154;refine HI.out.mono ?_;rintro e w' ⟨rfl,rfl⟩)
     go_roundw
     case rel=>
      refine ⟨k+1,by omega,by go_num,Hb.out.set_other (by simp) _,?_,He.setCell (by simp) _⟩;rw [EJ.out,E0.out,E1.out,E2.out]
      have:=Ha.out.set3 ((z:Int)+1)
      simpa using this
     case measure=>simp [intOf];omega
   ·rw [hb] at HI;have E0:=qI (nI (l:=l) (j:=0) hb);have E1:=qI (nI (l:=l) (j:=1) hb);have E2:=qI (nI (l:=l) (j:=2) hb);have E3:=qI (nI (l:=l) (j:=3) hb);have Hb:=qI Hb;have Ha:=qI Ha;clear hb h4 h5 hN;generalize l.getD k ad=x at *
    go_wp2_with (go_at_call 154;refine HI.out.mono ?_;rintro e w' ⟨rfl,rfl⟩)
    go_roundw
    case rel=>exact ⟨k+1,by omega,by go_num,Hb.out,by rw [E0.out,E1.out,E2.out,E3.out];exact Ha.out,He⟩
    case measure=>simp [intOf];omega
  ·have Hl:k=l.length:=by omega
   subst Hl;clear hk hlt;have q0:=h5.c0;have q1:=h5.c1;have q2:=h5.c2;have q3:=h5.c3;have p0:=h4.c0;have p1:=h4.c1;have p2:=h4.c2;have p3:=h4.c3;have r0:=h4.f0;have r1:=h4.f1;have r2:=h4.f2;have r3:=h4.f3;clear h4 h5
   go_wp2_with fail
   (try simp only [Exit.inBlock,Exit.then]);refine bodyPost_ret (v:=kN A l l.length) ?_ rfl ⟨rfl,?_⟩
   ·unfold kN;rw [nK rfl];go_simp
   ·exact (((hB.setCell (lR) _).setCell (lR) _).setCell (lR) _).setCell (lR) _
theorem or8 (s n:Nat) (hs:s<256) (hn:n<8):bits BinOp.or IntKind.u8 (s:Int) (IntKind.u8.wrap (2 ^ n))=((s ||| 2 ^ n:Nat):Int):=by
 have key:∀ (a:Fin 256) (b:Fin 8),bits BinOp.or IntKind.u8 ((a.val:Nat):Int) (IntKind.u8.wrap (2 ^ b.val))=((a.val ||| 2 ^ b.val:Nat):Int):=by decide +kernel
 exact key ⟨s,hs⟩ ⟨n,hn⟩
theorem Bv (s n:Nat) (hs:s<256) (hn:n<8):bits BinOp.or IntKind.u8 (s:Int) (2 ^ n % 256)=((s ||| 2 ^ n:Nat):Int):=by
 have key:∀ (a:Fin 256) (b:Fin 8),bits BinOp.or IntKind.u8 ((a.val:Nat):Int) (2 ^ b.val % 256)=((a.val ||| 2 ^ b.val:Nat):Int):=by decide +kernel
 exact key ⟨s,hs⟩ ⟨n,hn⟩
def eI (l:List Cpu):Nat->Nat
 | 0=>0
 | k+1=>eI l k ||| 2 ^ (l.getD k ad).node.toNat
theorem By (l:List Cpu) (k j:Nat):(eI l k).testBit j=true↔∃ i,i<k/\(l.getD i ad).node.toNat=j:=by
 induction k with
 | zero=>simp [eI]
 | succ k ih=>
  rw [eI,Nat.testBit_or,Bool.or_eq_true,ih,Nat.testBit_two_pow];constructor
  ·rintro (⟨i,hi,h⟩|h)
   ·exact ⟨i,by omega,h⟩
   ·exact ⟨k,by omega,by simpa using h⟩
  ·rintro ⟨i,hi,h⟩
   by_cases e:i=k
   ·subst e;right;simpa using h
   ·left;exact ⟨i,by omega,h⟩
def eX (f:Nat->Bool):Nat->Nat
 | 0=>0
 | k+1=>if f k then eX f k ||| 2 ^ k else eX f k
theorem tI (f:Nat->Bool) (k j:Nat):(eX f k).testBit j=(decide (j<k) && f j):=by
 induction k with
 | zero=>simp [eX]
 | succ k ih=>
  rw [eX]
  by_cases h:f k=true
  ·rw [if_pos h,Nat.testBit_or,ih,Nat.testBit_two_pow]
   by_cases e:j=k
   ·subst e;simp [h]
   ·by_cases h2:j<k
    ·simp [h2,show j<k+1 by omega,show ¬ k=j by omega]
    ·simp [h2,show ¬ j<k+1 by omega,show ¬ k=j by omega]
  ·have h':f k=false:=by simpa using h
   rw [if_neg h,ih]
   by_cases e:j=k
   ·subst e;simp [h']
   ·by_cases h2:j<k
    ·simp [h2,show j<k+1 by omega]
    ·simp [h2,show ¬ j<k+1 by omega]
theorem Bz (s:Nat) (l:List Cpu) (j:Int) (k:Nat):0<bh s l j k↔∃ i,i<k/\s.testBit i=true/\(l.getD i ad).node=j:=by
 induction k with
 | zero=>simp [bh]
 | succ k ih=>
  rw [bh]
  by_cases h:(s.testBit k && decide ((l.getD k ad).node=j))=true
  ·rw [if_pos h];simp only [Bool.and_eq_true,Qp] at h;exact ⟨λ_=>⟨k,by omega,h.1,h.2⟩,λ_=>by omega⟩
  ·rw [if_neg h,ih];constructor
   ·rintro ⟨i,hi,r⟩;exact ⟨i,by omega,r⟩
   ·rintro ⟨i,hi,r⟩
    by_cases e:i=k
    ·subst e;exact absurd (by rw [r.1,r.2];simp) h
    ·exact ⟨i,by omega,r⟩
theorem BA (l:List Cpu) (hg:Good l):eX (λj=>decide (0<bh (ae az l) l j l.length)) 4=eI l l.length:=by
 apply Nat.eq_of_testBit_eq;intro j;rw [tI,Bool.eq_iff_iff,By,Bool.and_eq_true,Qp,Qp,Bz];constructor
 ·rintro ⟨_,i,hi,_,hn⟩;exact ⟨i,hi,by omega⟩
 ·rintro ⟨i,hi,hn⟩
  have:=hg.at hi
  exact ⟨by omega,i,hi,by rw [Ost.pB];simp [az,hi],by omega⟩
theorem BB (f:Nat->Bool) (k:Nat) (hk:k<=4):eX f k<256:=by
 apply Nat.lt_pow_two_of_testBit (n:=8);intro i hi;rw [tI];simp [show ¬ i<k by omega]
theorem tJ (a b c d:Int) (w:World):∀ k:Nat,k<4->∃ x,(Instr.index 214 (.agg #[.int .i64 a,.int .i64 b,.int .i64 c,.int .i64 d]) (.int .i64 k)).run prog w=.ok (.int .i64 x) w/\x=[a,b,c,d].getD k 0:=by
 intro k hk
 have:k=0\/k=1\/k=2\/k=3:=by omega
 rcases this with rfl|rfl|rfl|rfl
 ·exact ⟨a,by kernel_rfl,rfl⟩
 ·exact ⟨b,by kernel_rfl,rfl⟩
 ·exact ⟨c,by kernel_rfl,rfl⟩
 ·exact ⟨d,by kernel_rfl,rfl⟩
theorem pR (tb b o c:Nat) (l:List Cpu) (w:World) (ht:ba w tb b o c l) (hg:Good l) :
  Calls prog 67 #[.pointer (some ⟨tb,0,none⟩)] w λe w'=>e=.returned (.int .u8 (eI l l.length:Nat))/\Below w.heap.size w w':=by
 rw [<- BA l hg];have HT:=qI ht;have HG:=qI hg;have Hc:=Ost.eW az l l.length ht.len;have HA:=qI (gu tb b o c l w ht)
 change ae az l<_ at Hc
 generalize ae az l=A at *;obtain ⟨f,hf⟩:∃ f:Nat->Bool,f=λ(j:Nat)=>decide (0<bh A l j l.length):=⟨_,rfl⟩
 rw [<- hf];have HF:Hid (∀ j:Nat,f j=decide (0<bh A l j l.length)):=λj=>by rw [hf]
 clear ht hg hf
 go_enter func67,ntmps67
 go_wp2_with fail
 refine HA.out.mono ?_;rintro e w1 ⟨rfl,Ha⟩
 go_wp2_with fail
 refine (kK A tb b o c l w1 (HT.out.below Ha) Hc HG.out).mono ?_;rintro e w2 ⟨rfl,He⟩;have hB:=Ha.trans (He.mono Ha.size);have HX:=qI λk hk=>tJ (bh A l 0 l.length:Nat) (bh A l 1 l.length:Nat) (bh A l 2 l.length:Nat) (bh A l 3 l.length:Nat) w2 k hk;clear Ha He Hc;unfold kN
 go_wp2_with fail
 go_loop [3,10] (λt i=>∃ k:Nat,k<=4/\i=.int .i64 k/\t=.int .u8 (eX f k:Nat)) (λ_ i=>4 - (intOf i).toNat)
 case atStart=>exact ⟨0,by omega,rfl,rfl⟩
 case round=>
  obtain ⟨k,hk,rfl,rfl⟩:=hrel
  by_cases hlt:k<4
  ·obtain ⟨x,hx,Hf⟩:=HX.out k hlt;have Hg:x=(bh A l k l.length:Nat):=by
    rw [Hf]
    have:k=0\/k=1\/k=2\/k=3:=by omega
    rcases this with rfl|rfl|rfl|rfl <;> rfl
   have HL:=qI (BB f k (by omega));have Hb:=HF.out k;clear Hf
   by_cases h0:0<bh A l k l.length
   ·have Hi:0<x:=by omega
    have HO:Hid (bits BinOp.or IntKind.u8 (eX f k:Nat) (2 ^ k % 256)=((eX f (k+1):Nat):Int)):=by
     unfold Hid;rw [Bv _ _ HL.out (by omega),eX,if_pos (by rw [Hb];exact Qc h0)]
    clear Hg h0 Hb
    go_wp2_with fail
    go_round
    case rel=>exact ⟨k+1,by omega,by go_num,by rw [<- HO.out]⟩
    case measure=>simp [intOf];omega
   ·have Hi:¬ 0<x:=by omega
    have HO:Hid (eX f k=eX f (k+1)):=by
     unfold Hid;rw [eX,if_neg (by rw [Hb];simpa using h0)]
    clear Hg h0 Hb
    go_wp2_with fail
    go_round
    case rel=>exact ⟨k+1,by omega,by go_num,by rw [<- HO.out]⟩
    case measure=>simp [intOf];omega
  ·have Hh:k=4:=by omega
   subst Hh;clear hk hlt
   go_wp2
   go_ret;exact ⟨rfl,hB⟩

end
section
open RowKit
open Go.Maps (Keyed int_keyed keyOf_int_mk)
open Ost (Cpu ad inB seen)
theorem pS (n m:Int) (w:World):Calls prog 119 #[.int .i64 n,.int .i64 m] w λe w'=>e=.returned (.bool (decide (0<=n) && decide (n<m)))/\w'=w:=by
 rcases two (decide (0<=n)) with h|h
 ·have h1:0<=n:=of_decide_eq_true h;rw [h];clear h
  go_enter func119,ntmps119
  go_wp2
  go_ret;exact ⟨by simp,rfl⟩
 ·have h1:¬ 0<=n:=of_decide_eq_false h;rw [h];clear h
  go_enter func119,ntmps119
  go_wp2
  go_ret;exact ⟨by simp,rfl⟩
theorem BC (x:Cpu) (w:World):Calls prog 69 #[.agg #[.int .i64 x.core,.int .i64 x.sock,.int .i64 x.node]] w λe w'=>e=.returned (.bool (inB x))/\Below w.heap.size w w':=by
 have HB:=qI ((Q0 w.heap.size w).alloc (lR) (nG x));have H1:=qI (pS x.core 64);have H2:=qI (pS x.sock 64);have H3:=qI (pS x.node 4);unfold inB;generalize (decide (0<=x.core) && decide (x.core<64))=b1 at *;generalize (decide (0<=x.sock) && decide (x.sock<64))=b2 at *;generalize (decide (0<=x.node) && decide (x.node<4))=b3 at *;cases b1 <;> cases b2
 case false.false|false.true=>
  all_goals
   go_enter func69,ntmps69
   go_wp2_with fail
   refine (H1.out _).mono ?_;rintro e w' ⟨rfl,rfl⟩
   go_wp2
   go_ret;exact ⟨rfl,HB.out⟩
 case true.false=>
  go_enter func69,ntmps69
  go_wp2_with fail
  refine (H1.out _).mono ?_;rintro e w' ⟨rfl,rfl⟩
  go_wp2_with fail
  refine (H2.out _).mono ?_;rintro e w' ⟨rfl,rfl⟩
  go_wp2
  go_ret;exact ⟨rfl,HB.out⟩
 case true.true=>
  go_enter func69,ntmps69
  go_wp2_with fail
  refine (H1.out _).mono ?_;rintro e w' ⟨rfl,rfl⟩
  go_wp2_with fail
  refine (H2.out _).mono ?_;rintro e w' ⟨rfl,rfl⟩
  go_wp2_with fail
  refine (H3.out _).mono ?_;rintro e w' ⟨rfl,rfl⟩
  go_wp2
  go_ret;exact ⟨by simp,HB.out⟩
def fv (l:List Cpu):List Value:=l.flatMap λx=>[.int .i64 x.core,.int .i64 x.sock,.int .i64 x.node]
theorem tK (l:List Cpu):(fv l).length=l.length*3:=by
 induction l with
 | nil=>rfl
 | cons a r ih=>simp only [fv,List.flatMap_cons,Q2,Qg,List.length_nil] at ih ⊢;omega
theorem tL (l:List Cpu) (k:Nat) (hk:k<l.length):(fv l)[k*3]?=some (.int .i64 (l.getD k ad).core)/\(fv l)[k*3+1]?=some (.int .i64 (l.getD k ad).sock)/\(fv l)[k*3+2]?=some (.int .i64 (l.getD k ad).node):=by
 induction l generalizing k with
 | nil=>simp at hk
 | cons a r ih=>
  cases k with
  | zero=>simp [fv]
  | succ k=>
   have:=ih k (by simpa using hk)
   have e:fv (a :: r)=[.int .i64 a.core,.int .i64 a.sock,.int .i64 a.node]++fv r:=rfl;rw [e,show (k+1)*3=k*3+3 by omega]
   simpa using this
theorem BE {w:World} {b o:Nat} {l:List Cpu} (h:gr w b o l) (j:Nat) (u:Value) (hj:(fv l)[j]?=some u):w.cell? ((⟨b,o,none⟩:Addr).add j)=some u:=by
 have Ha:j<l.length*3:=by rw [<- tK];exact (List.getElem?_eq_some_iff.1 hj).1
 obtain ⟨h0,h1,h2⟩:=h (j / 3) (by omega);obtain ⟨c0,c1,c2⟩:=tL l (j / 3) (by omega);rw [Addr.add_lit]
 have:j=j / 3*3\/j=j / 3*3+1\/j=j / 3*3+2:=by omega
 rcases this with e|e|e
 ·rw [<- e] at c0 h0;rw [h0,<- c0,hj]
 ·rw [<- e] at c1;rw [Nat.add_assoc,<- e] at h1;rw [h1,<- c1,hj]
 ·rw [<- e] at c2;rw [Nat.add_assoc,<- e] at h2;rw [h2,<- c2,hj]
theorem BF (l:List Cpu):∀ u∈fv l,u.oneCell'=true:=by
 intro u hu;simp only [fv,List.mem_flatMap] at hu;obtain ⟨x,_,hx⟩:=hu
 simp at hx
 rcases hx with rfl|rfl|rfl <;> rfl
theorem BG:(prog.info? 84).map (λi=>(i.zero,i.size,i.bytes))=some (some (.agg #[.int .i64 0,.int .i64 0,.int .i64 0]),3,24):=by kernel_rfl
theorem BH (b o n c:Nat) (w:World):Sem.run prog (binOp BinOp.eql 22 (.slice (some ⟨b,o,none⟩) n c) (.slice none 0 0)) w=.ok (.bool false) w:=by kernel_rfl
def BI (w:World) (l:List Cpu) (e:Ending) (w':World):Prop:=∃ g c',e=.returned (.slice (some ⟨g,0,none⟩) l.length c')/\gr w' g 0 l/\g<w'.heap.size/\Below w.heap.size w w'
theorem BJ (b o c:Nat) (l:List Cpu) (w:World) (hc:gr w b o l) (hlb:b<w.heap.size) (h0:0<l.length) (hl:l.length<=64) :
  Calls prog 70 #[.slice (some ⟨b,o,none⟩) l.length c] w λe w'=>BI w l e w':=by
 obtain ⟨i0,hi,Hh,Hj,Hk⟩:=info_parts BG;have Hc:=(Q0 w.heap.size w).alloc (lR) (.cells #[] 84);have HC:=qI (hc.below hlb Hc);have HB:=qI Hc;have Hf:=BH b o l.length c w;clear hc Hc
 go_enter func70,ntmps70
 go_wp2_with (at_builtin;(refine wpList_append_own _ rfl _ _ 22 rfl w.heap.size 84 i0 (.agg #[.int .i64 0,.int .i64 0,.int .i64 0]) 3 24 underlying22 hi Hh Hj Hk rfl (by decide) _ _ _ rfl (World.ownsRow_lit w #[] 0 (lR) (Nat.zero_le _) rfl) ⟨b,o,none⟩ l.length c (fv l) rfl (tK l) (BE HC.out) (BF l) (by unfold maxLen;omega) (by omega) (by simp) ?_);intro v' w1 Ha Hb _)
 rcases Ha.2 with ⟨rfl,h1⟩|⟨g,cap,cur,rfl,hg,Hl,_⟩
 ·omega
 ·have Hg:=(Ha.lt g rfl).2;have He:Hid (gr w1 g 0 l):=by
   intro k hk;obtain ⟨c0,c1,c2⟩:=tL l k hk;rw [<- List.nil_append (fv l)] at c0 c1 c2;refine ⟨?_,?_,?_⟩
   ·rw [Qd,Ha.cellAt (k*3) (by omega)];exact c0
   ·rw [Qd,Ha.cellAt (k*3+1) (by omega)];exact c1
   ·rw [Qd,Ha.cellAt (k*3+2) (by omega)];exact c2
  have Hi:=qI (HB.out.grown Hb (by simp) (λj hj=>by cases hj;exact lR));clear Ha Hb Hl hg;rw [Qd]
  go_wp2
  go_ret;exact ⟨g,cap,rfl,He.out,Hg,Hi.out⟩
end
section
open RowKit Go.ChangeMaps
open Go.Maps (Keyed int_keyed keyOf_int_mk)
open Ost (Cpu ad inB fM cL fault)
def kO:Value->Option (DataW Unit × List MemPlace)
 | .agg ⟨[.int .i64 a,.int .i64 b,.int .i64 c]⟩=>some (.agg [.lit (.int .i64 a),.lit (.int .i64 b),.lit (.int .i64 c)],[])
 | _=>none
def jW (x:Cpu):DataW Unit:=.agg [.lit (.int .i64 x.core),.lit (.int .i64 x.sock),.lit (.int .i64 x.node)]
theorem BK (x:Cpu):kO (.agg #[.int .i64 x.core,.int .i64 x.sock,.int .i64 x.node])=some (jW x,[]):=rfl
theorem BL {v:Value} {x:Cpu} {ps:List MemPlace} (h:kO v=some (jW x,ps)):v=.agg #[.int .i64 x.core,.int .i64 x.sock,.int .i64 x.node]:=by
 unfold kO at h
 split at h
 ·simp only [jW,Option.some.injEq,Prod.mk.injEq,DataW.agg.injEq,List.cons.injEq,DataW.lit.injEq,Lit.int.injEq,true_and,and_true] at h;obtain ⟨⟨rfl,rfl,rfl⟩,_⟩:=h;rfl
 ·cases h
def eJ (w:World) (B n:Nat) (f:Int->Option Cpu):Prop:=
 ∃ D:DataW Unit,w.ownsMap prog 3 kO B n D/\∀ k:Int,0<=k->k<64->Maps.has D (.int .i64 k)=(f k).isSome/\D.atKey (.int .i64 k) (jW ad)=jW ((f k).getD ad)
theorem nL:Keyed prog 3:=int_keyed underlying3
theorem nM {k:Int} (h0:0<=k) (h:k<64):(Lit.int .i64 k).wf=true:=WalkArith.wf_i64 (by omega)
theorem eJ.alloc {w:World} {B n:Nat} {f:Int->Option Cpu} (h:eJ w B n f) (o:Obj):eJ (w.alloc o) B n f:=by
 obtain ⟨D,ho,hk⟩:=h;exact ⟨D,ho.alloc o,hk⟩
theorem eJ.below {w w':World} {B K n:Nat} {f:Int->Option Cpu} (h:eJ w B n f) (hb:Below K w w') (hK:B<K):eJ w' B n f:=by
 obtain ⟨D,⟨es,clock,hh,r⟩,hk⟩:=h;exact ⟨D,⟨es,clock,(hb.block B hK).trans hh,r⟩,hk⟩
theorem eJ.lt {w:World} {B n:Nat} {f:Int->Option Cpu} (h:eJ w B n f):B<w.heap.size:=by
 obtain ⟨D,ho,_⟩:=h;exact ho.lt
theorem eJ.made (w:World):eJ (w.alloc (.map #[] 0)) w.heap.size 0 (λ_=>none):=
 ⟨.map [],World.ownsMap_made w _ _ _,λ_ _ _=>⟨rfl,rfl⟩⟩
theorem BM (w:World):(zeroValue 84).run prog w=.ok (.agg #[.int .i64 0,.int .i64 0,.int .i64 0]) w:=by kernel_rfl
theorem nN {ops:Array Oper} {rest:List Oper} {o:Oper} {a:Act} {Q:Exit->Act->World->Prop} (w:World) (hg:o.guard=none) (m x:Operand) (hop:o.op=Op.lookup 154 m x true)
  (B n:Nat) (f:Int->Option Cpu) (k:Int) (h0:0<=k) (h64:k<64) (hm:a.eval m=.map (some B)) (hx:a.eval x=.int .i64 k) (hM:eJ w B n f) (y:Cpu) (ok:Bool) (hy:(f k).getD ad=y) (hok:(f k).isSome=ok)
  (hK:wpList prog ops Q rest (a.put o.dst (.tuple #[.agg #[.int .i64 y.core,.int .i64 y.sock,.int .i64 y.node],.bool ok])) w) :
  wpList prog ops Q (o :: rest) a w:=by
 obtain ⟨D,ho,hk⟩:=hM;refine wpList_lookup_own_ok w hg m x 154 hop 3 84 nL underlying154 kO (BM w) (jW ad) [] rfl B n D hm ho _ (.int .i64 k) hx (keyOf_int_mk underlying3 (nM h0 h64)) ?_;intro v ps hv;obtain ⟨h1,h2⟩:=hk k h0 h64;rw [h2,hy] at hv;rw [h1,hok,BL hv];exact hK
theorem tM {ops:Array Oper} {rest:List Oper} {o:Oper} {a:Act} {Q:Exit->Act->World->Prop} (w:World) (hg:o.guard=none) (m x v:Operand) (hop:o.op=Op.mapUpdate 154 m x v)
  (B n:Nat) (f:Int->Option Cpu) (k:Int) (h0:0<=k) (h64:k<64) (y:Cpu) (hm:a.eval m=.map (some B)) (hx:a.eval x=.int .i64 k) (hv:a.eval v=.agg #[.int .i64 y.core,.int .i64 y.sock,.int .i64 y.node]) (hM:eJ w B n f) (hn:n<maxLen)
  (hK:∀ w',eJ w' B (n+1) (λj=>if k=j then some y else f j)->w.grownBy w' (some B)->wpList prog ops Q rest (a.put o.dst undef) w') :
  wpList prog ops Q (o :: rest) a w:=by
 obtain ⟨D,ho,hk⟩:=hM;refine wpList_mapUpdate_own w hg m x v 154 hop 3 84 nL underlying154 kO B n D hm ho hn _ _ (.int .i64 k) hx hv (keyOf_int_mk underlying3 (nM h0 h64)) (jW y) [] (BK y) ?_;intro w' He Hc;refine hK w' ⟨_,He,λj j0 j64=>?_⟩ Hc
 by_cases e:k=j
 ·subst e;have Ha:WideAt.IsKeyLit (Lit.int .i64 k):=trivial;rw [Maps.has_put_same ho.isMap Ha,Maps.atKey_put_same ho.isMap Ha]
  simp
 ·have Hb:(Lit.int .i64 j)≠(Lit.int .i64 k):=by simp;omega
  rw [Maps.has_put_other Hb,Maps.atKey_put_other Hb];simp only [if_neg e];exact hk j j0 j64
theorem BN (l:List Cpu) (k:Nat):(λj=>if (l.getD k ad).core=j then some (l.getD k ad) else Ost.seen l k j)=Ost.seen l (k+1):=by
 funext j;rw [Ost.seen]
theorem eK {w:World} {a:Addr} {v:Value} (h:w.cell? a=some v) (o:Obj):(w.alloc o).cell? a=some v:=
 (((Q0 w.heap.size w).alloc (lR) o).cell (Q3 w _ h)).trans h
def fw (w:World) (l:List Cpu) (e:Ending) (w':World):Prop:=
 (fault l=0->∃ tb g c,e=.returned (.tuple #[.pointer (some ⟨tb,0,none⟩),.nilIface])/\ba w' tb g 0 c l)/\(fault l≠0->e=.returned (.tuple #[.pointer none,.iface 121 (.int .i64 (fault l))]))/\Below w.heap.size w w'
theorem fw.bad {w w':World} {l:List Cpu} {f:Int} (hf:fault l=f) (h0:f≠0) (hb:Below w.heap.size w w'):fw w l (.returned (.tuple #[.pointer none,.iface 121 (.int .i64 f)])) w':=
 ⟨λh=>absurd (hf.symm.trans h) h0,λ_=>by rw [hf],hb⟩
theorem fw.good {w w':World} {l:List Cpu} {tb g c:Nat} (hf:fault l=0) (ht:ba w' tb g 0 c l) (hb:Below w.heap.size w w'):fw w l (.returned (.tuple #[.pointer (some ⟨tb,0,none⟩),.nilIface])) w':=
 ⟨λ_=>⟨tb,g,c,rfl,ht⟩,λh=>absurd hf h,hb⟩
theorem BO (ao:Option Addr) (n c:Nat) (l:List Cpu) (w:World) (hl:l.length=n) (hn:n=0\/64<n) :
  Calls prog 35 #[.slice ao n c] w λe w'=>fw w l e w':=by
 have HF:Hid (fault l=2):=by unfold Hid fault;rw [if_pos (by omega)]
 clear hl
 rcases hn with rfl|hn
 ·go_enter func35,ntmps35
  go_wp2
  go_ret2;exact fw.bad HF.out (by decide) (Q0 _ _)
 ·have h0:((n:Int) == 0)=false:=by simp;omega
  go_enter func35,ntmps35
  go_wp2
  go_ret2;exact fw.bad HF.out (by decide) (Q0 _ _)
abbrev lV:=(.cells #[.int .i64 ad.core,.int .i64 ad.sock,.int .i64 ad.node] 84:Obj)
theorem BP (b o c:Nat) (l:List Cpu) (w:World) (hc:gr w b o l) (hlb:b<w.heap.size) (h0:0<l.length) (h64:l.length<=64) :
  Calls prog 35 #[.slice (some ⟨b,o,none⟩) l.length c] w λe w'=>fw w l e w':=by
 have HD:((l.length:Int) == 0)=false:=by rw [Qr];omega
 have HC:=qI hc;have Hn:=qI hlb;have HM:=qI (eJ.made w);have Hv:=qI ((Q0 w.heap.size w).alloc (lR) (.map #[] 0));have HE:=@run_makeMap prog;clear hc hlb
 go_enter func35,ntmps35
 go_wp2
 go_loopw [21] (λi wr=>∃ k:Nat,k<=l.length/\i=.int .i64 k/\Hid (cL l k=0)/\eJ wr w.heap.size k (Ost.seen l k)/\Below w.heap.size w wr) (λi _=>l.length - (intOf i).toNat)
 case atStart=>exact ⟨0,by omega,rfl,rfl,HM.out,Hv.out⟩
 case round=>
  obtain ⟨k,hk,rfl,HF,hM,hB⟩:=hrel
  by_cases hlt:k<l.length
  ·obtain ⟨He,Hc,Hf⟩:=(HC.out.below Hn.out hB) k hlt;have HS:=qI (BN l k);have Hy:=qI λhb=>Ost.tF l k 1 h0 h64 hlt HF.out (Ost.A2 (l:=l) (k:=k) hb) (by decide);have Hz:=qI λhb hc=>Ost.tF l k 3 h0 h64 hlt HF.out (Ost.A3 (l:=l) (k:=k) hb hc) (by decide);have HN:=qI λhb hc=>Ost.A1 (l:=l) (k:=k) HF.out hb hc;have Hx:=qI λh=>Ost.A4 (l:=l) (k:=k) (x:=l.getD k ad) h;have Hs:=qI λy h=>Ost.A5 (l:=l) (k:=k) (x:=l.getD k ad) (y:=y) HF.out h;generalize l.getD k ad=x at *;have Hh:=hB.alloc hB.size (dW x.core x.sock x.node);have Hm:=hM.alloc (dW x.core x.sock x.node);have Ht:=qI (show (wr.alloc (dW x.core x.sock x.node)).cell? ⟨wr.heap.size,0,none⟩=some (.int .i64 x.core)/\(wr.alloc (dW x.core x.sock x.node)).cell? ⟨wr.heap.size,1,none⟩=some (.int .i64 x.sock)/\(wr.alloc (dW x.core x.sock x.node)).cell? ⟨wr.heap.size,2,none⟩=some (.int .i64 x.node) by simp);clear hM
   go_wp2_with fail
   refine (BC x _).mono ?_;rintro e w1 ⟨rfl,hb⟩;have Hb:=Hh.trans (hb.mono Hh.size);have Hg:=Hm.below hb Hm.lt;obtain ⟨p0,p1,p2⟩:=Ht.out;have q0:=(hb.cell (p:=⟨wr.heap.size,0,none⟩) (by simp)).trans p0;have q1:=(hb.cell (p:=⟨wr.heap.size,1,none⟩) (by simp)).trans p1;have q2:=(hb.cell (p:=⟨wr.heap.size,2,none⟩) (by simp)).trans p2;clear p0 p1 p2 Ht Hm Hh hb hB He Hc Hf
   rcases two (inB x) with hi|hi
   ·rw [hi];obtain ⟨g0,g1,_⟩:=(Ost.nF x).1 hi
    rcases hs:Ost.seen l k x.core with _|y
    ·have Hp:Hid (cL l (k+1)=0):=HN.out hi (Hx.out hs);have Hi:=Hb.alloc Hb.size (lV);have Ho:=Hg.alloc (lV);have r0:=eK q0 (lV);have r1:=eK q1 (lV);have r2:=eK q2 (lV);have h1:Hid ((Ost.seen l k x.core).getD ad=ad):=by unfold Hid;rw [hs];rfl
     have h2:Hid ((Ost.seen l k x.core).isSome=false):=by unfold Hid;rw [hs];rfl
     clear q1 q2 hs hi
     go_wp2_with (first
      | (at_lookup;refine nN _ rfl _ _ rfl w.heap.size k (Ost.seen l k) x.core g0 g1 rfl rfl Hg ad false h1.out h2.out ?_)
      | (at_mapUpdate;refine tM _ rfl _ _ _ rfl w.heap.size k (Ost.seen l k) x.core g0 g1 x rfl rfl rfl Ho (by unfold maxLen;omega) ?_;intro w2 Hq Ha))
     go_roundw
     case rel=>exact ⟨k+1,by omega,by go_num,Hp,by rw [<- HS.out];exact Hq,Hi.grown Ha Hi.size (λj hj=>by cases hj;exact lR)⟩
     case measure=>simp [intOf];omega
    ·by_cases hyx:y=x
     ·subst hyx;have Hp:Hid (cL l (k+1)=0):=HN.out hi (by rw [Hs.out y hs];simp);have Hi:=Hb.alloc Hb.size (dW y.core y.sock y.node);have Ho:=Hg.alloc (dW y.core y.sock y.node);have r0:=eK q0 (dW y.core y.sock y.node);have r1:=eK q1 (dW y.core y.sock y.node);have r2:=eK q2 (dW y.core y.sock y.node);have h1:Hid ((Ost.seen l k y.core).getD ad=y):=by unfold Hid;rw [hs];rfl
      have h2:Hid ((Ost.seen l k y.core).isSome=true):=by unfold Hid;rw [hs];rfl
      clear q1 q2 hs hi
      go_wp2_with (first
       | (at_lookup;refine nN _ rfl _ _ rfl w.heap.size k (Ost.seen l k) y.core g0 g1 rfl rfl Hg y true h1.out h2.out ?_)
       | (at_mapUpdate;refine tM _ rfl _ _ _ rfl w.heap.size k (Ost.seen l k) y.core g0 g1 y rfl rfl rfl Ho (by unfold maxLen;omega) ?_;intro w2 Hq Ha))
      go_roundw
      case rel=>exact ⟨k+1,by omega,by go_num,Hp,by rw [<- HS.out];exact Hq,Hi.grown Ha Hi.size (λj hj=>by cases hj;exact lR)⟩
      case measure=>simp [intOf];omega
     ·have hF:Hid (fault l=3):=Hz.out hi (by rw [Hs.out y hs];exact Qc hyx);have HB:y.core=x.core:=by obtain ⟨_,_,_,h⟩:=Ost.tG hs;exact h
      have Hw:(¬ y.sock=x.sock)\/(y.sock=x.sock/\¬ y.node=x.node):=by
       by_cases Hk:y.sock=x.sock
       ·refine .inr ⟨Hk,λhn=>hyx ?_⟩;cases y;cases x;simp_all
       ·exact .inl Hk
      have h1:Hid ((Ost.seen l k x.core).getD ad=y):=by unfold Hid;rw [hs];rfl
      have h2:Hid ((Ost.seen l k x.core).isSome=true):=by unfold Hid;rw [hs];rfl
      rcases Hw with Hk|⟨Hk,HA⟩
      ·have r0:=eK q0 (dW x.core y.sock y.node);have r1:=eK q1 (dW x.core y.sock y.node);have r2:=eK q2 (dW x.core y.sock y.node);clear q1 q2 hs hi hyx
       go_wp2_with (at_lookup;refine nN _ rfl _ _ rfl w.heap.size k (Ost.seen l k) x.core g0 g1 rfl rfl Hg y true h1.out h2.out ?_)
       go_ret2;exact fw.bad hF.out (by decide) (Hb.alloc Hb.size _)
      ·have r0:=eK q0 (.cells #[.int .i64 x.core,.int .i64 x.sock,.int .i64 y.node] 84);have r1:=eK q1 (.cells #[.int .i64 x.core,.int .i64 x.sock,.int .i64 y.node] 84);have r2:=eK q2 (.cells #[.int .i64 x.core,.int .i64 x.sock,.int .i64 y.node] 84);clear q1 q2 hs hi hyx
       go_wp2_with (at_lookup;refine nN _ rfl _ _ rfl w.heap.size k (Ost.seen l k) x.core g0 g1 rfl rfl Hg y true h1.out h2.out ?_)
       go_ret2;exact fw.bad hF.out (by decide) (Hb.alloc Hb.size _)
   ·have hF:Hid (fault l=1):=Hy.out hi;rw [hi];clear hi
    go_wp2
    go_ret2;exact fw.bad hF.out (by decide) Hb
  ·have Hu:k=l.length:=by omega
   have hF:Hid (fault l=0):=Ost.A0 l h0 h64 (by rw [<- Hu];exact HF.out);have HX:=qI (BJ b o c l wr (HC.out.below Hn.out hB) (Q1 Hn.out hB.size) h0 h64);clear Hu hM
   go_wp2_with fail
   refine HX.out.mono ?_;rintro e w1 ⟨g,c',rfl,Hl,Hj,hb⟩;have Hh:=hB.trans (hb.mono hB.size);have Hr:=qI ((Q0 w1.heap.size w1).alloc (lR) (.cells #[.slice (some ⟨g,0,none⟩) l.length c'] 159));have Hl:=qI Hl;clear hb
   go_wp2
   go_ret2;exact fw.good (g:=g) (c:=c') hF.out ⟨by simp,Hl.out.below Hj Hr.out,Q1 Hj Hr.out.size,h64⟩ (Hh.trans (Hr.out.mono Hh.size))
end
section
open RowKit
open Ost (Cpu ad inB clash fM cL fault)
end
section
open RowKit
open Ost (Cpu ad ae fault)
theorem eH.cases {w:World} {ao:Option Addr} {l:List Cpu} {c:Nat} (h:eH w (.slice ao l.length c) l):(l.length=0\/64<l.length)\/∃ b o,ao=some ⟨b,o,none⟩/\gr w b o l/\b<w.heap.size/\0<l.length/\l.length<=64:=by
 by_cases hl:l.length=0\/64<l.length
 ·exact .inl hl
 ·rcases h with ⟨rfl,_⟩|⟨b,o,c',hv,hc⟩
  ·simp at hl
  ·simp only [Value.slice.injEq] at hv;exact .inr ⟨b,o,hv.1,hc,Q3 w _ (hc 0 (by omega)).1,by omega,by omega⟩
theorem tN (ao:Option Addr) (c:Nat) (l:List Cpu) (w:World) (hv:eH w (.slice ao l.length c) l) :
  Calls prog 35 #[.slice ao l.length c] w λe w'=>fw w l e w':=by
 rcases hv.cases with h|⟨b,o,rfl,hc,hlb,h0,h64⟩
 ·exact BO ao l.length c l w rfl h
 ·exact BP b o c l w hc hlb h0 h64
theorem BQ {l:List Cpu} (h:fault l=0):Good l:=by
 intro c hc
 have:=(Ost.nF c).1 ((Ost.A6 h).2.2 c hc)
 omega
end
