import Derived.Test.YtbmmnflgnmjboaaGreatDoorK2
import Derived.ProofKit
import Derived.OpenShut
import Derived.ChangeOld
import Derived.Deep.Strs
import Derived.Deep.Slices
import Derived.Carry
import Derived.JoinedOf
import Derived.JoinedAt
import Derived.Maps.OwnSet
set_option maxRecDepth 100000
set_option maxHeartbeats 16000000
namespace Go.Proofs.YtbmmnflgnmjboaaGreatDoor
section
open RowKit
open Ost (Cpu ae bu af je jf e5)
def fR (w:World) (b o:Nat) (l:List Cpu):Prop:=
 ∀ k,k<l.length->w.cell? ⟨b,o+k*3,none⟩=some (.int .i64 (l.getD k ae).core)/\w.cell? ⟨b,o+k*3+1,none⟩=some (.int .i64 (l.getD k ae).sock)/\w.cell? ⟨b,o+k*3+2,none⟩=some (.int .i64 (l.getD k ae).node)
def eN (w:World) (v:Value) (l:List Cpu):Prop:=
 (l=[]/\∃ ao c,v=.slice ao 0 c)\/∃ b o c,v=.slice (some ⟨b,o,none⟩) l.length c/\fR w b o l
theorem fR.below {w0 w w':World} {b o:Nat} {l:List Cpu} (h:fR w b o l) (hlt:b<w0.heap.size) (hb:Below w0.heap.size w w'):fR w' b o l:=by
 intro k hk;obtain ⟨h1,h2,h3⟩:=h k hk;exact ⟨(hb.cell (p:=⟨b,o+k*3,none⟩) hlt).trans h1,(hb.cell (p:=⟨b,o+k*3+1,none⟩) hlt).trans h2,(hb.cell (p:=⟨b,o+k*3+2,none⟩) hlt).trans h3⟩
theorem eN.below {w w':World} {v:Value} {l:List Cpu} (h:eN w v l) (hb:Below w.heap.size w w'):eN w' v l:=by
 rcases h with h|⟨b,o,c,hv,hc⟩
 ·exact .inl h
 ·refine .inr ⟨b,o,c,hv,λk hk=>?_⟩;obtain ⟨h1,h2,h3⟩:=hc k hk;have hlt:=Q3 w _ h1;exact ⟨(hb.cell (p:=⟨b,o+k*3,none⟩) hlt).trans h1,(hb.cell (p:=⟨b,o+k*3+1,none⟩) hlt).trans h2,(hb.cell (p:=⟨b,o+k*3+2,none⟩) hlt).trans h3⟩
def Good (l:List Cpu):Prop:=∀ c∈l,0<=c.core/\c.core<=63/\0<=c.sock/\c.sock<=63/\0<=c.node/\c.node<=3
theorem Good.at {l:List Cpu} (h:Good l) {k:Nat} (hk:k<l.length):0<=(l.getD k ae).node/\(l.getD k ae).node<=3:=by
 have:l.getD k ae∈l:=by simp [hk]
 have:=h _ this
 exact ⟨this.2.2.2.2.1,this.2.2.2.2.2⟩
def aP (m:Nat) (c:Cpu):Bool:=m.testBit c.node.toNat
theorem qT (m n:Nat) (hm:m<256):(bits BinOp.and IntKind.u8 ((m:Int) / 2 ^ n) 1 == 1)=m.testBit n:=by
 have e:((m:Int) / 2 ^ n)=((m / 2 ^ n:Nat):Int):=by simp
 have hlt:m / 2 ^ n<256:=Nat.lt_of_le_of_lt (Nat.div_le_self _ _) hm;rw [e,Nat.testBit_eq_decide_div_mod_eq];generalize m / 2 ^ n=q at hlt;have key:∀ q:Fin 256,(bits BinOp.and IntKind.u8 ((q.val:Nat):Int) 1 == 1)=decide (q.val % 2=1):=by decide +kernel
 exact key ⟨q,hlt⟩
end
section
open Go.ChangeShapes Go.WideShapes Go.ChangeAt Go.RowKit
open Ost (Cpu ae)
theorem qU:Tryz.prog.cellsOf 84=3:=by kernel_rfl
theorem yC:Tryz.prog.cellsOf 3=1:=by kernel_rfl
instance:Inhabited Cpu:=⟨ae⟩
theorem yD {H:Type} {enc:TypeId × Value->H} {w:World} {base:Nat} {sp:Nat->Bool} {held:Bool} {fuel:Nat} {cs:List Value} {x:DataW H × List MemPlace}
  (h:DataW.trod enc Tryz.prog w base sp held fuel 84 cs=some x):∃ y:Cpu,cs=[.int .i64 y.core,.int .i64 y.sock,.int .i64 y.node]:=by
 obtain ⟨y0,y1,y2,n,_,hl,h0,h1,h2⟩:=Deep.trod_struct3 Tryz.underlying84 h;rw [qU] at hl;rw [yC] at h0 h1 h2
 match cs,hl with
 | [a,b,c],_=>
  obtain ⟨p,e0,_,_⟩:=DataW.trod_int Tryz.underlying3 h0;obtain ⟨q,e1,_,_⟩:=DataW.trod_int Tryz.underlying3 h1;obtain ⟨r,e2,_,_⟩:=DataW.trod_int Tryz.underlying3 h2
  simp at e0 e1 e2
  exact ⟨⟨p,q,r⟩,by rw [e0,e1,e2]⟩
theorem yE {H:Type} {enc:TypeId × Value->H} {W:World} {ao:Option Addr} {len cap:Nat} {d:DataW H} {p:List MemPlace}
  (h:DataW.Trod enc Tryz.prog W 0 (λ_=>true) true 22 (.slice ao len cap) d p):∃ l:List Cpu,l.length=len/\eN W (.slice ao l.length cap) l:=by
 obtain ⟨fuel,hf⟩:=h
 rcases Deep.open_slice Tryz.underlying22 hf with ⟨hcs,_⟩|⟨a,len',cap',m,n,D,Pl,hcs,_,hl,hm,hmm,_,hx⟩
 ·simp [Value.cells] at hcs
  obtain ⟨rfl,rfl,rfl⟩:=hcs;exact ⟨[],rfl,.inl ⟨rfl,none,0,rfl⟩⟩
 ·simp [Value.cells] at hcs
  obtain ⟨rfl,rfl,rfl⟩:=hcs;rw [if_pos rfl] at hmm;subst hmm;rw [qU] at hx;obtain ⟨f,hfx⟩:=Deep.choose_lt (α:=Cpu) (n:=len) (p:=λi y=>W.cell? (a.add (i*3))=some (.int .i64 y.core)/\W.cell? (a.add (i*3+1))=some (.int .i64 y.sock)/\W.cell? (a.add (i*3+2))=some (.int .i64 y.node)) (λi hi=>by
   obtain ⟨cs',h1,h2⟩:=hx i (by omega);obtain ⟨y,rfl⟩:=yD h2;obtain ⟨_,_,hc⟩:=World.cells?_some h1;have e0:=hc 0 (by omega);have e1:=hc 1 (by omega);have e2:=hc 2 (by omega);rw [Deep.add_add] at e0 e1 e2;exact ⟨y,by simpa using e0,by simpa using e1,by simpa using e2⟩)
  refine ⟨(List.range len).map f,by simp,?_⟩
  by_cases hn0:len=0
  ·subst hn0;exact .inl ⟨rfl,_,_,rfl⟩
  ·obtain ⟨b,off,spot⟩:=a;have hc:=(hfx 0 (by omega)).1;have hspot:spot=none:=by simpa [Addr.add] using World.cell?_spot hc
   subst hspot;refine .inr ⟨b,off,_,rfl,λk hk=>?_⟩;have hk':k<len:=by simpa using hk
   obtain ⟨h0,h1,h2⟩:=hfx k hk';rw [Addr.add_lit] at h0 h1 h2;have e:((List.range len).map f).getD k ae=f k:=by simp [hk']
   rw [e];exact ⟨h0,by rw [Nat.add_assoc];exact h1,by rw [Nat.add_assoc];exact h2⟩
end
section
namespace Ost
def inB (c:Cpu):Bool:=decide (0<=c.core) && decide (c.core<64) && (decide (0<=c.sock) && decide (c.sock<64)) && (decide (0<=c.node) && decide (c.node<4))
theorem lP (c:Cpu):inB c=true↔0<=c.core/\c.core<64/\0<=c.sock/\c.sock<64/\0<=c.node/\c.node<4:=by
 simp only [inB,Bool.and_eq_true,Qp];omega
def clash (a c:Cpu):Bool:=decide (a.core=c.core) && decide (a≠c)
def fx (l:List Cpu) (c:Cpu):Nat->Bool
 | 0=>false
 | k+1=>fx l c k || clash (l.getD k ae) c
theorem nQ (l:List Cpu) (c:Cpu) (k:Nat):fx l c k=true↔∃ j,j<k/\clash (l.getD j ae) c=true:=by
 induction k with
 | zero=>simp [fx]
 | succ k ih=>
  rw [fx,Bool.or_eq_true,ih];constructor
  ·rintro (⟨j,hj,h⟩|h)
   ·exact ⟨j,by omega,h⟩
   ·exact ⟨k,by omega,h⟩
  ·rintro ⟨j,hj,h⟩
   by_cases e:j=k
   ·subst e;exact .inr h
   ·exact .inl ⟨j,by omega,h⟩
def gC (l:List Cpu) (i:Nat):Int:=if inB (l.getD i ae) then (if fx l (l.getD i ae) i then 3 else 0) else 1
def cJ (l:List Cpu):Nat->Int
 | 0=>0
 | k+1=>if cJ l k=0 then gC l k else cJ l k
def fault (l:List Cpu):Int:=if l.length=0\/64<l.length then 2 else cJ l l.length
theorem yF (l:List Cpu) (i k:Nat) (f:Int) (hf:f≠0) (h:cJ l i=f):cJ l (i+k)=f:=by
 induction k with
 | zero=>exact h
 | succ k ih=>
  show cJ l ((i+k)+1)=f
  rw [cJ,ih,if_neg hf]
theorem qV (l:List Cpu) (k:Nat) (h:cJ l k=0):∀ j,j<k->gC l j=0:=by
 induction k with
 | zero=>intro j hj;omega
 | succ k ih=>
  rw [cJ] at h
  by_cases h0:cJ l k=0
  ·rw [if_pos h0] at h;intro j hj
   by_cases e:j=k
   ·subst e;exact h
   ·exact ih h0 j (by omega)
  ·rw [if_neg h0] at h;exact absurd h h0
theorem qW (l:List Cpu) (i:Nat) (f:Int) (h0:0<l.length) (h64:l.length<=64) (hi:i<l.length) (hp:cJ l i=0) (ha:gC l i=f) (hf:f≠0):fault l=f:=by
 unfold fault;rw [if_neg (by omega)]
 have:cJ l (i+1)=f:=by rw [cJ,if_pos hp,ha]
 have:=yF l (i+1) (l.length - (i+1)) f hf this
 rwa [show i+1+(l.length - (i+1))=l.length by omega] at this
theorem yG (l:List Cpu) (h0:0<l.length) (h64:l.length<=64) (hp:cJ l l.length=0):fault l=0:=by
 unfold fault;rw [if_neg (by omega)];exact hp
theorem yH {l:List Cpu} {k:Nat} (h:cJ l k=0) (hb:inB (l.getD k ae)=true) (hc:fx l (l.getD k ae) k=false):cJ l (k+1)=0:=by
 rw [cJ,if_pos h,gC,if_pos hb,if_neg (by rw [hc];simp)]
theorem yI {l:List Cpu} {k:Nat} (hb:inB (l.getD k ae)=false):gC l k=1:=by rw [gC,if_neg (by rw [hb];simp)]
theorem yJ {l:List Cpu} {k:Nat} (hb:inB (l.getD k ae)=true) (hc:fx l (l.getD k ae) k=true):gC l k=3:=by
 rw [gC,if_pos hb,if_pos hc]
def seen (l:List Cpu):Nat->Int->Option Cpu
 | 0,_=>none
 | k+1,c=>if (l.getD k ae).core=c then some (l.getD k ae) else seen l k c
theorem qX {l:List Cpu} {k:Nat} {c:Int} {x:Cpu} (h:seen l k c=some x):∃ j,j<k/\l.getD j ae=x/\x.core=c:=by
 induction k with
 | zero=>simp [seen] at h
 | succ k ih=>
  rw [seen] at h
  by_cases e:(l.getD k ae).core=c
  ·rw [if_pos e] at h;simp only [Option.some.injEq] at h;exact ⟨k,by omega,h,by rw [<- h];exact e⟩
  ·rw [if_neg e] at h;obtain ⟨j,hj,r⟩:=ih h;exact ⟨j,by omega,r⟩
theorem seen_none {l:List Cpu} {k:Nat} {c:Int} (h:seen l k c=none):∀ j,j<k->(l.getD j ae).core≠c:=by
 induction k with
 | zero=>intro j hj;omega
 | succ k ih=>
  rw [seen] at h
  by_cases e:(l.getD k ae).core=c
  ·rw [if_pos e] at h;cases h
  ·rw [if_neg e] at h;intro j hj
   by_cases ej:j=k
   ·subst ej;exact e
   ·exact ih h j (by omega)
theorem yK {l:List Cpu} {k:Nat} {x:Cpu} (h:seen l k x.core=none):fx l x k=false:=by
 rw [Bool.eq_false_iff];intro hc;obtain ⟨j,hj,h2⟩:=(nQ l x k).1 hc;simp only [clash,Bool.and_eq_true,Qp] at h2;exact seen_none h j hj h2.1
theorem yL {l:List Cpu} {k:Nat} {x y:Cpu} (hf:cJ l k=0) (h:seen l k x.core=some y):fx l x k=decide (y≠x):=by
 obtain ⟨j,hj,hy,hyc⟩:=qX h;rw [Bool.eq_iff_iff,nQ,Qp];constructor
 ·rintro ⟨i,hi,h2⟩;simp only [clash,Bool.and_eq_true,Qp] at h2;intro e
  by_cases hij:i=j
  ·subst hij;rw [hy] at h2;exact h2.2 e
  ·have key:∀ a b,a<b->b<k->(l.getD a ae).core=(l.getD b ae).core->l.getD a ae=l.getD b ae:=by
    intro a b hab hb hc;have h0:=qV l k hf b hb;unfold gC at h0
    by_cases hB:inB (l.getD b ae)=true
    ·rw [if_pos hB] at h0
     by_cases hC:fx l (l.getD b ae) b=true
     ·rw [if_pos hC] at h0;cases h0
     ·apply Qt;intro hne;exact hC ((nQ _ _ _).2 ⟨a,hab,by simp only [clash,Bool.and_eq_true,Qp];exact ⟨hc,hne⟩⟩)
    ·rw [if_neg hB] at h0;cases h0
   have:l.getD i ae=l.getD j ae:=by
    rcases Nat.lt_or_gt_of_ne hij with q|q
    ·exact key i j q hj (by rw [h2.1,hy,hyc])
    ·exact (key j i q hi (by rw [h2.1,hy,hyc])).symm
   rw [this,hy] at h2;exact h2.2 e
 ·intro hne;exact ⟨j,hj,by simp only [clash,Bool.and_eq_true,Qp];rw [hy];exact ⟨hyc,hne⟩⟩
theorem yM {l:List Cpu} (h:fault l=0):0<l.length/\l.length<=64/\∀ c∈l,inB c=true:=by
 unfold fault at h
 by_cases hl:l.length=0\/64<l.length
 ·rw [if_pos hl] at h;cases h
 ·rw [if_neg hl] at h;refine ⟨by omega,by omega,λc hc=>?_⟩;obtain ⟨i,hi,rfl⟩:=List.getElem_of_mem hc;have h0:=qV l _ h i hi;have e:l.getD i ae=l[i]:=by simp [hi]
  unfold gC at h0;rw [e] at h0
  by_cases hB:inB l[i]=true
  ·exact hB
  ·rw [if_neg hB] at h0;cases h0
end Ost
end
section
open RowKit
theorem m0:Ost.M0 8=6148914691236517205:=by decide +kernel
theorem m1:Ost.M1 8=3689348814741910323:=by decide +kernel
theorem m2:Ost.M2 8=1085102592571150095:=by decide +kernel
theorem fQ (a:Nat) (m:Nat) (ha:a<18446744073709551616) (hm:m<18446744073709551616) (z:Int) (hz:z=(a:Int)):bits BinOp.and IntKind.u64 z (m:Int)=((a &&& m:Nat):Int):=by
 rw [hz];exact bits_and_u64_nat a m ha hm
theorem wrapN (n:Nat) (z:Int) (hz:z=(n:Int)) (h:n<18446744073709551616):IntKind.u64.wrap z=(n:Int):=by
 rw [IntKind.wrap_u64,hz];omega
theorem nF (A:Nat) (hA:A<18446744073709551616):IntKind.u64.wrap (bits BinOp.and IntKind.u64 ((A:Int) / 2) 6148914691236517205+bits BinOp.and IntKind.u64 (A:Int) 6148914691236517205)=((Ost.p1 8 A:Nat):Int)/\Ost.p1 8 A<18446744073709551616:=by
 have e1:=fQ (A / 2) 6148914691236517205 (by omega) (by omega) ((A:Int) / 2) (by omega);have e2:=fQ A 6148914691236517205 hA (by omega) (A:Int) rfl;have l1:A / 2 &&& 6148914691236517205<=6148914691236517205:=Nat.and_le_right;have l2:A &&& 6148914691236517205<=6148914691236517205:=Nat.and_le_right;have hp:Ost.p1 8 A=(A / 2 &&& 6148914691236517205)+(A &&& 6148914691236517205):=by unfold Ost.p1;rw [m0]
 rw [hp];refine ⟨?_,by omega⟩;apply wrapN _ _ _ (by omega);rw [show (6148914691236517205:Int)=((6148914691236517205:Nat):Int) from rfl,e1,e2];omega
theorem nG (x:Nat) (hx:x<18446744073709551616):IntKind.u64.wrap (bits BinOp.and IntKind.u64 ((x:Int) / 4) 3689348814741910323+bits BinOp.and IntKind.u64 (x:Int) 3689348814741910323)=((Ost.p2 8 x:Nat):Int)/\Ost.p2 8 x<=7378697629483820646:=by
 have e1:=fQ (x / 4) 3689348814741910323 (by omega) (by omega) ((x:Int) / 4) (by omega);have e2:=fQ x 3689348814741910323 hx (by omega) (x:Int) rfl;have l1:x / 4 &&& 3689348814741910323<=3689348814741910323:=Nat.and_le_right;have l2:x &&& 3689348814741910323<=3689348814741910323:=Nat.and_le_right;have hp:Ost.p2 8 x=(x / 4 &&& 3689348814741910323)+(x &&& 3689348814741910323):=by unfold Ost.p2;rw [m1]
 rw [hp];refine ⟨?_,by omega⟩;apply wrapN _ _ _ (by omega);rw [show (3689348814741910323:Int)=((3689348814741910323:Nat):Int) from rfl,e1,e2];omega
theorem nH (x:Nat) (hx:x<=7378697629483820646):bits BinOp.and IntKind.u64 (IntKind.u64.wrap ((x:Int) / 16+(x:Int))) 1085102592571150095=((Ost.p3 8 x:Nat):Int):=by
 have hw:=wrapN (x / 16+x) ((x:Int) / 16+(x:Int)) (by omega) (by omega);rw [hw];have hp:Ost.p3 8 x=(x / 16+x) &&& 1085102592571150095:=by unfold Ost.p3;rw [m2]
 rw [hp];exact fQ (x / 16+x) 1085102592571150095 (by omega) (by omega) _ rfl
def aR (a b c d e f g h:Nat):Nat:=a+256*(b+256*(c+256*(d+256*(e+256*(f+256*(g+256*h))))))
theorem ie (a b c d e f g h:Nat) (_ha:a<=64) (_hb:b<=64) (_hc:c<=64) (_hd:d<=64) (_he:e<=64) (_hf:f<=64) (_hg:g<=64) (_hh:h<=64):aR a b c d e f g h<4700000000000000000:=by unfold aR;omega
theorem sh8 (a b c d e f g h:Nat) (_ha:a<=8) (_hb:b<=8) (_hc:c<=8) (_hd:d<=8) (_he:e<=8) (_hf:f<=8) (_hg:g<=8) (_hh:h<=8) :
  aR a b c d e f g h+aR a b c d e f g h / 256=aR (a+b) (b+c) (c+d) (d+e) (e+f) (f+g) (g+h) h:=by
 have:aR a b c d e f g h / 256=b+256*(c+256*(d+256*(e+256*(f+256*(g+256*h))))):=by unfold aR;omega
 rw [this];unfold aR;omega
theorem nI (a b c d e f g h:Nat) (_ha:a<=16) (_hb:b<=16) (_hc:c<=16) (_hd:d<=16) (_he:e<=16) (_hf:f<=16) (_hg:g<=16) (_hh:h<=16) :
  aR a b c d e f g h+aR a b c d e f g h / 65536=aR (a+c) (b+d) (c+e) (d+f) (e+g) (f+h) g h:=by
 have:aR a b c d e f g h / 65536=c+256*(d+256*(e+256*(f+256*(g+256*h)))):=by unfold aR;omega
 rw [this];unfold aR;omega
theorem nJ (a b c d e f g h:Nat) (_ha:a<=32) (_hb:b<=32) (_hc:c<=32) (_hd:d<=32) (_he:e<=32) (_hf:f<=32) (_hg:g<=32) (_hh:h<=32) :
  aR a b c d e f g h+aR a b c d e f g h / 4294967296=aR (a+e) (b+f) (c+g) (d+h) e f g h:=by
 have:aR a b c d e f g h / 4294967296=e+256*(f+256*(g+256*h)):=by unfold aR;omega
 rw [this];unfold aR;omega
theorem nK (a b c d e f g h:Nat) (_ha:a<=64):aR a b c d e f g h % 128=a:=by unfold aR;omega
theorem steps (A:Nat) (hA:A<18446744073709551616):∃ x1 x2 X Y Z V:Nat,
  IntKind.u64.wrap (bits BinOp.and IntKind.u64 ((A:Int) / 2) 6148914691236517205+bits BinOp.and IntKind.u64 (A:Int) 6148914691236517205)=(x1:Int)/\
  IntKind.u64.wrap (bits BinOp.and IntKind.u64 ((x1:Int) / 4) 3689348814741910323+bits BinOp.and IntKind.u64 (x1:Int) 3689348814741910323)=(x2:Int)/\
  bits BinOp.and IntKind.u64 (IntKind.u64.wrap ((x2:Int) / 16+(x2:Int))) 1085102592571150095=(X:Int)/\
  IntKind.u64.wrap ((X:Int)+(X:Int) / 256)=(Y:Int)/\IntKind.u64.wrap ((Y:Int)+(Y:Int) / 65536)=(Z:Int)/\IntKind.u64.wrap ((Z:Int)+(Z:Int) / 4294967296)=(V:Int)/\
  V % 128=(Ost.aI A 64).length/\V<4700000000000000000:=by
 obtain ⟨a,b,c,d,e,f,g,h,ha,hb,hc,hd,he,hf,hg,hh,hX,hS⟩:=Ost.qH A;have h1:=nF A hA;have h2:=nG (Ost.p1 8 A) h1.2;have h3:=nH (Ost.p2 8 (Ost.p1 8 A)) h2.2;have hX2:Ost.p3 8 (Ost.p2 8 (Ost.p1 8 A))=aR a b c d e f g h:=hX;rw [hX2] at h3;have l1:=ie a b c d e f g h (by omega) (by omega) (by omega) (by omega) (by omega) (by omega) (by omega) (by omega);have s1:=sh8 a b c d e f g h ha hb hc hd he hf hg hh;have l2:=ie (a+b) (b+c) (c+d) (d+e) (e+f) (f+g) (g+h) h (by omega) (by omega) (by omega) (by omega) (by omega) (by omega) (by omega) (by omega);have s2:=nI (a+b) (b+c) (c+d) (d+e) (e+f) (f+g) (g+h) h (by omega) (by omega) (by omega) (by omega) (by omega) (by omega) (by omega) (by omega);have l3:=ie (a+b+(c+d)) (b+c+(d+e)) (c+d+(e+f)) (d+e+(f+g)) (e+f+(g+h)) (f+g+h) (g+h) h (by omega) (by omega) (by omega) (by omega) (by omega) (by omega) (by omega) (by omega);have s3:=nJ (a+b+(c+d)) (b+c+(d+e)) (c+d+(e+f)) (d+e+(f+g)) (e+f+(g+h)) (f+g+h) (g+h) h (by omega) (by omega) (by omega) (by omega) (by omega) (by omega) (by omega) (by omega);have l4:=ie (a+b+(c+d)+(e+f+(g+h))) (b+c+(d+e)+(f+g+h)) (c+d+(e+f)+(g+h)) (d+e+(f+g)+h) (e+f+(g+h)) (f+g+h) (g+h) h (by omega) (by omega) (by omega) (by omega) (by omega) (by omega) (by omega) (by omega);refine ⟨_,_,_,aR (a+b) (b+c) (c+d) (d+e) (e+f) (f+g) (g+h) h,aR (a+b+(c+d)) (b+c+(d+e)) (c+d+(e+f)) (d+e+(f+g)) (e+f+(g+h)) (f+g+h) (g+h) h,_,h1.1,h2.1,h3,?_,?_,?_,nK (a+b+(c+d)+(e+f+(g+h))) (b+c+(d+e)+(f+g+h)) (c+d+(e+f)+(g+h)) (d+e+(f+g)+h) (e+f+(g+h)) (f+g+h) (g+h) h (by omega) |>.trans (by rw [hS];omega),l4⟩
 ·exact wrapN _ _ (by rw [<- s1];simp) (by omega)
 ·exact wrapN _ _ (by rw [<- s2];simp) (by omega)
 ·exact wrapN _ _ (by rw [<- s3];simp) (by omega)
theorem nL (A:Nat) (w:World) (hA:A<18446744073709551616) :
  Calls Tryz.prog 44 #[.int .u64 A] w λe w'=>e=.returned (.int .i64 ((Ost.aI A 64).length:Nat))/\w'=w:=by
 obtain ⟨x1,x2,X,Y,Z,V,r1,r2,r3,r4,r5,r6,e,hV⟩:=steps A hA;have HE:=qI e;clear e
 go_enter Tryz.func44,Tryz.ntmps44
 go_wp2
 go_ret;refine ⟨?_,rfl⟩;have e:bits BinOp.and IntKind.i64 (V:Int) 127=((Ost.aI A 64).length:Nat):=by
  rw [i64_and127];have:=HE.out;omega
 exact congrArg (λz=>Ending.returned (.int .i64 z)) e
theorem gD (A:Nat) (w:World) (hA:A<18446744073709551616) :
  Calls Tryz.prog 17 #[.int .u64 A] w λe w'=>e=.returned (.int .i64 ((Ost.aI A 64).length:Nat))/\w'=w:=by
 go_enter Tryz.func17,Tryz.ntmps17
 go_wp2_with fail
 refine (nL A _ hA).mono ?_;rintro e w' ⟨rfl,rfl⟩
 go_wp2
 go_ret;exact ⟨rfl,rfl⟩
end
section
open RowKit
open Ost (Cpu ae bu af je jf e5)
def aD (_:Cpu):Bool:=true
structure aZ (w:World) (tb b o c:Nat) (l:List Cpu):Prop where
 cell:w.cell? ⟨tb,0,none⟩=some (.slice (some ⟨b,o,none⟩) l.length c)
 cells:fR w b o l
 lt:b<w.heap.size
 len:l.length<=64
theorem aZ.tlt {w:World} {tb b o c:Nat} {l:List Cpu} (h:aZ w tb b o c l):tb<w.heap.size:=Q3 w _ h.cell
theorem aZ.below {w w':World} {tb b o c:Nat} {l:List Cpu} (h:aZ w tb b o c l) (hb:Below w.heap.size w w'):aZ w' tb b o c l:=
 ⟨(hb.cell (p:=⟨tb,0,none⟩) h.tlt).trans h.cell,h.cells.below h.lt hb,Q1 h.lt hb.size,h.len⟩
theorem yN (x:Cpu) (w:World) :
  Calls Tryz.prog 72 #[.agg #[.int .i64 x.core,.int .i64 x.sock,.int .i64 x.node]] w λe w'=>e=.returned (.bool (aD x))/\Below w.heap.size w w':=by
 
 go_enter Tryz.func72,Tryz.ntmps72
 go_wp2
 go_ret;exact ⟨rfl,(Q0 _ _).alloc (lR) _⟩
theorem yO (tb b o c:Nat) (l:List Cpu) (w:World) (ht:aZ w tb b o c l) :
  Calls Tryz.prog 71 #[.pointer (some ⟨tb,0,none⟩),.func (.func 72) #[] #[]] w λe w'=>e=.returned (.int .u64 (af aD l:Nat))/\Below w.heap.size w w':=by
 have HC:=qI ht.cells;have hT:=ht.cell;have HLB:=qI ht.lt;have hl:=ht.len;clear ht
 
 go_enter Tryz.func71,Tryz.ntmps71
 go_wp2
 go_loopw [5,13] (λt i wr=>∃ k:Nat,k<=l.length/\i=.int .i64 k/\t=.int .u64 (bu aD l k:Nat)/\Below w.heap.size w wr) (λ_ i _=>l.length - (intOf i).toNat)
 case atStart=>exact ⟨0,by omega,rfl,rfl,Q0 _ _⟩
 case round=>
  obtain ⟨k,hk,rfl,rfl,hB⟩:=hrel
  by_cases hlt:k<l.length
  ·obtain ⟨hcell0,hcell1,hcell2⟩:=(HC.out.below HLB.out hB) k hlt
   
   have HY:=qI (λh=>je (p:=aD) (l:=l) (k:=k) h);have HN:=qI (λh=>jf (p:=aD) (l:=l) (k:=k) h);have HL:=qI (e5 aD l k (by omega));generalize l.getD k ae=x at *;have hB1:=hB.alloc hB.size (.cells #[.int .i64 x.core,.int .i64 x.sock,.int .i64 x.node] 84)
   go_wp2_with fail
   refine (yN x _).mono ?_;rintro e w1 ⟨rfl,hb⟩;have hB2:=hB1.trans (hb.mono hB1.size);clear hB1 hb
   rcases two (aD x) with hb|hb
   ·have HO:Hid (bits BinOp.or IntKind.u64 (bu aD l k:Nat) (IntKind.u64.wrap (2 ^ k))=((bu aD l (k+1):Nat):Int)):=by
     unfold Hid;rw [ku _ _ HL.out (by omega),HY.out hb]
    rw [hb];clear hb
    go_wp2
    go_roundw
    case rel=>exact ⟨k+1,by omega,by go_num,by rw [<- HO.out],hB2⟩
    case measure=>simp [intOf];omega
   ·have HO:Hid (bu aD l k=bu aD l (k+1)):=(HN.out hb).symm;rw [hb];clear hb
    go_wp2
    go_roundw
    case rel=>exact ⟨k+1,by omega,by go_num,by rw [<- HO.out],hB2⟩
    case measure=>simp [intOf];omega
  ·have hkl:k=l.length:=by omega
   have H:Hid (bu aD l k=af aD l):=by unfold Hid;rw [hkl];rfl
   clear hkl
   go_wp2
   go_ret;exact ⟨congrArg (λz:Nat=>Ending.returned (.int .u64 z)) H.out,hB⟩
theorem gE (tb b o c:Nat) (l:List Cpu) (w:World) (ht:aZ w tb b o c l) :
  Calls Tryz.prog 36 #[.pointer (some ⟨tb,0,none⟩)] w λe w'=>e=.returned (.int .u64 (af aD l:Nat))/\Below w.heap.size w w':=by
 
 go_enter Tryz.func36,Tryz.ntmps36
 go_wp2_with fail
 refine (yO tb b o c l w ht).mono ?_;rintro e w1 ⟨rfl,hb⟩
 go_wp2
 go_ret;exact ⟨rfl,hb⟩
theorem yP (x:Cpu) (n:Int) (B:Nat) (w:World) (hn:w.cell? ⟨B,0,none⟩=some (.int .i64 n)) :
  Calls Tryz.prog 248 #[.agg #[.int .i64 x.core,.int .i64 x.sock,.int .i64 x.node],.pointer (some ⟨B,0,none⟩)] w λe w'=>e=.returned (.bool ((λx=>x.core == n) x))/\Below w.heap.size w w':=by
 have hn1:=(((Q0 w.heap.size w).alloc (lR) (.cells #[.int .i64 x.core,.int .i64 x.sock,.int .i64 x.node] 84)).cell (p:=⟨B,0,none⟩) (Q3 w _ hn)).trans hn;clear hn
 go_enter Tryz.func248,Tryz.ntmps248
 go_wp2
 go_ret;exact ⟨rfl,(Q0 _ _).alloc (lR) _⟩
theorem yQ (n:Int) (B tb b o c:Nat) (l:List Cpu) (w:World) (ht:aZ w tb b o c l) (hn:w.cell? ⟨B,0,none⟩=some (.int .i64 n)) :
  Calls Tryz.prog 71 #[.pointer (some ⟨tb,0,none⟩),.func (.func 248) #[] #[.pointer (some ⟨B,0,none⟩)]] w λe w'=>e=.returned (.int .u64 (af (λx=>x.core == n) l:Nat))/\Below w.heap.size w w':=by
 have HC:=qI ht.cells;have hT:=ht.cell;have HLB:=qI ht.lt;have hl:=ht.len;clear ht;have HN0:=qI hn;have HBl:=qI (Q3 w _ hn);clear hn
 go_enter Tryz.func71,Tryz.ntmps71
 go_wp2
 go_loopw [5,13] (λt i wr=>∃ k:Nat,k<=l.length/\i=.int .i64 k/\t=.int .u64 (bu (λx=>x.core == n) l k:Nat)/\Below w.heap.size w wr) (λ_ i _=>l.length - (intOf i).toNat)
 case atStart=>exact ⟨0,by omega,rfl,rfl,Q0 _ _⟩
 case round=>
  obtain ⟨k,hk,rfl,rfl,hB⟩:=hrel
  by_cases hlt:k<l.length
  ·obtain ⟨hcell0,hcell1,hcell2⟩:=(HC.out.below HLB.out hB) k hlt;have hcn:=(hB.cell (p:=⟨B,0,none⟩) HBl.out).trans HN0.out;have hcn1:=qI ((((Q0 wr.heap.size wr).alloc (lR) (.cells #[.int .i64 (l.getD k ae).core,.int .i64 (l.getD k ae).sock,.int .i64 (l.getD k ae).node] 84)).cell (p:=⟨B,0,none⟩) (Q3 wr _ hcn)).trans hcn);clear hcn;have HY:=qI (λh=>je (p:=(λx=>x.core == n)) (l:=l) (k:=k) h);have HN:=qI (λh=>jf (p:=(λx=>x.core == n)) (l:=l) (k:=k) h);have HL:=qI (e5 (λx=>x.core == n) l k (by omega));generalize l.getD k ae=x at *;have hB1:=hB.alloc hB.size (.cells #[.int .i64 x.core,.int .i64 x.sock,.int .i64 x.node] 84)
   go_wp2_with fail
   refine (yP x n B _ hcn1.out).mono ?_;rintro e w1 ⟨rfl,hb⟩;have hB2:=hB1.trans (hb.mono hB1.size);clear hB1 hb
   rcases two ((λx=>x.core == n) x) with hb|hb
   ·have HO:Hid (bits BinOp.or IntKind.u64 (bu (λx=>x.core == n) l k:Nat) (IntKind.u64.wrap (2 ^ k))=((bu (λx=>x.core == n) l (k+1):Nat):Int)):=by
     unfold Hid;rw [ku _ _ HL.out (by omega),HY.out hb]
    rw [hb];clear hb
    go_wp2
    go_roundw
    case rel=>exact ⟨k+1,by omega,by go_num,by rw [<- HO.out],hB2⟩
    case measure=>simp [intOf];omega
   ·have HO:Hid (bu (λx=>x.core == n) l k=bu (λx=>x.core == n) l (k+1)):=(HN.out hb).symm;rw [hb];clear hb
    go_wp2
    go_roundw
    case rel=>exact ⟨k+1,by omega,by go_num,by rw [<- HO.out],hB2⟩
    case measure=>simp [intOf];omega
  ·have hkl:k=l.length:=by omega
   have H:Hid (bu (λx=>x.core == n) l k=af (λx=>x.core == n) l):=by unfold Hid;rw [hkl];rfl
   clear hkl
   go_wp2
   go_ret;exact ⟨congrArg (λz:Nat=>Ending.returned (.int .u64 z)) H.out,hB⟩
theorem qY (tb b o c:Nat) (l:List Cpu) (n:Int) (w:World) (ht:aZ w tb b o c l) :
  Calls Tryz.prog 206 #[.pointer (some ⟨tb,0,none⟩),.int .i64 n] w λe w'=>e=.returned (.int .u64 (af (λx=>x.core == n) l:Nat))/\Below w.heap.size w w':=by
 have hmf:∀ (fn:Fn) (first cap:Array Value) (w:World),(Instr.makeFunc fn first cap).run Tryz.prog w=.ok (.func fn first cap) w:=λ_ _ _ _=>rfl
 have hB0:=(Q0 w.heap.size w).alloc (lR) (.cells #[.int .i64 n] 3);have ht1:=ht.below hB0;have hcn:=qI (show (w.alloc (.cells #[.int .i64 n] 3)).cell? ⟨w.heap.size,0,none⟩=some (.int .i64 n) by simp);clear ht
 go_enter Tryz.func206,Tryz.ntmps206
 go_wp2_with fail
 refine (yQ n w.heap.size tb b o c l _ ht1 hcn.out).mono ?_;rintro e w1 ⟨rfl,hb⟩
 go_wp2
 go_ret;exact ⟨rfl,hB0.trans (hb.mono hB0.size)⟩
theorem yR (x:Cpu) (n:Int) (B:Nat) (w:World) (hn:w.cell? ⟨B,0,none⟩=some (.int .i64 n)) :
  Calls Tryz.prog 247 #[.agg #[.int .i64 x.core,.int .i64 x.sock,.int .i64 x.node],.pointer (some ⟨B,0,none⟩)] w λe w'=>e=.returned (.bool ((λx=>x.sock == n) x))/\Below w.heap.size w w':=by
 have hn1:=(((Q0 w.heap.size w).alloc (lR) (.cells #[.int .i64 x.core,.int .i64 x.sock,.int .i64 x.node] 84)).cell (p:=⟨B,0,none⟩) (Q3 w _ hn)).trans hn;clear hn
 go_enter Tryz.func247,Tryz.ntmps247
 go_wp2
 go_ret;exact ⟨rfl,(Q0 _ _).alloc (lR) _⟩
theorem yS (n:Int) (B tb b o c:Nat) (l:List Cpu) (w:World) (ht:aZ w tb b o c l) (hn:w.cell? ⟨B,0,none⟩=some (.int .i64 n)) :
  Calls Tryz.prog 71 #[.pointer (some ⟨tb,0,none⟩),.func (.func 247) #[] #[.pointer (some ⟨B,0,none⟩)]] w λe w'=>e=.returned (.int .u64 (af (λx=>x.sock == n) l:Nat))/\Below w.heap.size w w':=by
 have HC:=qI ht.cells;have hT:=ht.cell;have HLB:=qI ht.lt;have hl:=ht.len;clear ht;have HN0:=qI hn;have HBl:=qI (Q3 w _ hn);clear hn
 go_enter Tryz.func71,Tryz.ntmps71
 go_wp2
 go_loopw [5,13] (λt i wr=>∃ k:Nat,k<=l.length/\i=.int .i64 k/\t=.int .u64 (bu (λx=>x.sock == n) l k:Nat)/\Below w.heap.size w wr) (λ_ i _=>l.length - (intOf i).toNat)
 case atStart=>exact ⟨0,by omega,rfl,rfl,Q0 _ _⟩
 case round=>
  obtain ⟨k,hk,rfl,rfl,hB⟩:=hrel
  by_cases hlt:k<l.length
  ·obtain ⟨hcell0,hcell1,hcell2⟩:=(HC.out.below HLB.out hB) k hlt;have hcn:=(hB.cell (p:=⟨B,0,none⟩) HBl.out).trans HN0.out;have hcn1:=qI ((((Q0 wr.heap.size wr).alloc (lR) (.cells #[.int .i64 (l.getD k ae).core,.int .i64 (l.getD k ae).sock,.int .i64 (l.getD k ae).node] 84)).cell (p:=⟨B,0,none⟩) (Q3 wr _ hcn)).trans hcn);clear hcn;have HY:=qI (λh=>je (p:=(λx=>x.sock == n)) (l:=l) (k:=k) h);have HN:=qI (λh=>jf (p:=(λx=>x.sock == n)) (l:=l) (k:=k) h);have HL:=qI (e5 (λx=>x.sock == n) l k (by omega));generalize l.getD k ae=x at *;have hB1:=hB.alloc hB.size (.cells #[.int .i64 x.core,.int .i64 x.sock,.int .i64 x.node] 84)
   go_wp2_with fail
   refine (yR x n B _ hcn1.out).mono ?_;rintro e w1 ⟨rfl,hb⟩;have hB2:=hB1.trans (hb.mono hB1.size);clear hB1 hb
   rcases two ((λx=>x.sock == n) x) with hb|hb
   ·have HO:Hid (bits BinOp.or IntKind.u64 (bu (λx=>x.sock == n) l k:Nat) (IntKind.u64.wrap (2 ^ k))=((bu (λx=>x.sock == n) l (k+1):Nat):Int)):=by
     unfold Hid;rw [ku _ _ HL.out (by omega),HY.out hb]
    rw [hb];clear hb
    go_wp2
    go_roundw
    case rel=>exact ⟨k+1,by omega,by go_num,by rw [<- HO.out],hB2⟩
    case measure=>simp [intOf];omega
   ·have HO:Hid (bu (λx=>x.sock == n) l k=bu (λx=>x.sock == n) l (k+1)):=(HN.out hb).symm;rw [hb];clear hb
    go_wp2
    go_roundw
    case rel=>exact ⟨k+1,by omega,by go_num,by rw [<- HO.out],hB2⟩
    case measure=>simp [intOf];omega
  ·have hkl:k=l.length:=by omega
   have H:Hid (bu (λx=>x.sock == n) l k=af (λx=>x.sock == n) l):=by unfold Hid;rw [hkl];rfl
   clear hkl
   go_wp2
   go_ret;exact ⟨congrArg (λz:Nat=>Ending.returned (.int .u64 z)) H.out,hB⟩
theorem yT (tb b o c:Nat) (l:List Cpu) (n:Int) (w:World) (ht:aZ w tb b o c l) :
  Calls Tryz.prog 205 #[.pointer (some ⟨tb,0,none⟩),.int .i64 n] w λe w'=>e=.returned (.int .u64 (af (λx=>x.sock == n) l:Nat))/\Below w.heap.size w w':=by
 have hmf:∀ (fn:Fn) (first cap:Array Value) (w:World),(Instr.makeFunc fn first cap).run Tryz.prog w=.ok (.func fn first cap) w:=λ_ _ _ _=>rfl
 have hB0:=(Q0 w.heap.size w).alloc (lR) (.cells #[.int .i64 n] 3);have ht1:=ht.below hB0;have hcn:=qI (show (w.alloc (.cells #[.int .i64 n] 3)).cell? ⟨w.heap.size,0,none⟩=some (.int .i64 n) by simp);clear ht
 go_enter Tryz.func205,Tryz.ntmps205
 go_wp2_with fail
 refine (yS n w.heap.size tb b o c l _ ht1 hcn.out).mono ?_;rintro e w1 ⟨rfl,hb⟩
 go_wp2
 go_ret;exact ⟨rfl,hB0.trans (hb.mono hB0.size)⟩
theorem yU (x:Cpu) (n:Nat) (B:Nat) (w:World) (hn:w.cell? ⟨B,0,none⟩=some (.int .u8 n)) (g0:0<=x.node) (g3:x.node<=3) (hm:n<256) :
  Calls Tryz.prog 203 #[.agg #[.int .i64 x.core,.int .i64 x.sock,.int .i64 x.node],.pointer (some ⟨B,0,none⟩)] w λe w'=>e=.returned (.bool ((aP n) x))/\Below w.heap.size w w':=by
 have hb8:=qI (qT n x.node.toNat hm);have hn1:=(((Q0 w.heap.size w).alloc (lR) (.cells #[.int .i64 x.core,.int .i64 x.sock,.int .i64 x.node] 84)).cell (p:=⟨B,0,none⟩) (Q3 w _ hn)).trans hn;clear hn
 go_enter Tryz.func203,Tryz.ntmps203
 go_wp2
 go_ret;exact ⟨congrArg (λz=>Ending.returned (.bool z)) hb8.out,(Q0 _ _).alloc (lR) _⟩
theorem yV (n:Nat) (B tb b o c:Nat) (l:List Cpu) (w:World) (ht:aZ w tb b o c l) (hn:w.cell? ⟨B,0,none⟩=some (.int .u8 n)) (hg:Good l) (hm:n<256) :
  Calls Tryz.prog 71 #[.pointer (some ⟨tb,0,none⟩),.func (.func 203) #[] #[.pointer (some ⟨B,0,none⟩)]] w λe w'=>e=.returned (.int .u64 (af (aP n) l:Nat))/\Below w.heap.size w w':=by
 have HC:=qI ht.cells;have hT:=ht.cell;have HLB:=qI ht.lt;have hl:=ht.len;clear ht;have HN0:=qI hn;have HBl:=qI (Q3 w _ hn);have HG:=qI hg;clear hn hg
 go_enter Tryz.func71,Tryz.ntmps71
 go_wp2
 go_loopw [5,13] (λt i wr=>∃ k:Nat,k<=l.length/\i=.int .i64 k/\t=.int .u64 (bu (aP n) l k:Nat)/\Below w.heap.size w wr) (λ_ i _=>l.length - (intOf i).toNat)
 case atStart=>exact ⟨0,by omega,rfl,rfl,Q0 _ _⟩
 case round=>
  obtain ⟨k,hk,rfl,rfl,hB⟩:=hrel
  by_cases hlt:k<l.length
  ·obtain ⟨hcell0,hcell1,hcell2⟩:=(HC.out.below HLB.out hB) k hlt;have hcn:=(hB.cell (p:=⟨B,0,none⟩) HBl.out).trans HN0.out;have hcn1:=qI ((((Q0 wr.heap.size wr).alloc (lR) (.cells #[.int .i64 (l.getD k ae).core,.int .i64 (l.getD k ae).sock,.int .i64 (l.getD k ae).node] 84)).cell (p:=⟨B,0,none⟩) (Q3 wr _ hcn)).trans hcn);clear hcn;obtain ⟨g0,g3⟩:=HG.out.at hlt;have HY:=qI (λh=>je (p:=(aP n)) (l:=l) (k:=k) h);have HN:=qI (λh=>jf (p:=(aP n)) (l:=l) (k:=k) h);have HL:=qI (e5 (aP n) l k (by omega));generalize l.getD k ae=x at *;have hB1:=hB.alloc hB.size (.cells #[.int .i64 x.core,.int .i64 x.sock,.int .i64 x.node] 84)
   go_wp2_with fail
   refine (yU x n B _ hcn1.out g0 g3 hm).mono ?_;rintro e w1 ⟨rfl,hb⟩;have hB2:=hB1.trans (hb.mono hB1.size);clear hB1 hb
   rcases two ((aP n) x) with hb|hb
   ·have HO:Hid (bits BinOp.or IntKind.u64 (bu (aP n) l k:Nat) (IntKind.u64.wrap (2 ^ k))=((bu (aP n) l (k+1):Nat):Int)):=by
     unfold Hid;rw [ku _ _ HL.out (by omega),HY.out hb]
    rw [hb];clear hb
    go_wp2
    go_roundw
    case rel=>exact ⟨k+1,by omega,by go_num,by rw [<- HO.out],hB2⟩
    case measure=>simp [intOf];omega
   ·have HO:Hid (bu (aP n) l k=bu (aP n) l (k+1)):=(HN.out hb).symm;rw [hb];clear hb
    go_wp2
    go_roundw
    case rel=>exact ⟨k+1,by omega,by go_num,by rw [<- HO.out],hB2⟩
    case measure=>simp [intOf];omega
  ·have hkl:k=l.length:=by omega
   have H:Hid (bu (aP n) l k=af (aP n) l):=by unfold Hid;rw [hkl];rfl
   clear hkl
   go_wp2
   go_ret;exact ⟨congrArg (λz:Nat=>Ending.returned (.int .u64 z)) H.out,hB⟩
theorem yW (tb b o c:Nat) (l:List Cpu) (n:Nat) (w:World) (ht:aZ w tb b o c l) (hg:Good l) (hm:n<256) :
  Calls Tryz.prog 164 #[.pointer (some ⟨tb,0,none⟩),.int .u8 n] w λe w'=>e=.returned (.int .u64 (af (aP n) l:Nat))/\Below w.heap.size w w':=by
 have hmf:∀ (fn:Fn) (first cap:Array Value) (w:World),(Instr.makeFunc fn first cap).run Tryz.prog w=.ok (.func fn first cap) w:=λ_ _ _ _=>rfl
 have hB0:=(Q0 w.heap.size w).alloc (lR) (.cells #[.int .u8 n] 43);have ht1:=ht.below hB0;have hcn:=qI (show (w.alloc (.cells #[.int .u8 n] 43)).cell? ⟨w.heap.size,0,none⟩=some (.int .u8 n) by simp);clear ht
 go_enter Tryz.func164,Tryz.ntmps164
 go_wp2_with fail
 refine (yV n w.heap.size tb b o c l _ ht1 hcn.out hg hm).mono ?_;rintro e w1 ⟨rfl,hb⟩
 go_wp2
 go_ret;exact ⟨rfl,hB0.trans (hb.mono hB0.size)⟩
end
section
namespace Ost
def low (f:Cpu->Int) (l:List Cpu) (k:Nat):Nat:=af (λx=>decide (f x<k)) l
def at' (f:Cpu->Int) (l:List Cpu) (k:Nat):Nat:=af (λx=>f x == (k:Int)) l
end Ost
end
section
open RowKit
open Ost (Cpu ae bu af)
def bi (s:Nat) (l:List Cpu) (j:Int):Nat->Nat
 | 0=>0
 | k+1=>if (s.testBit k && decide ((l.getD k ae).node=j))=true then bi s l j k+1 else bi s l j k
theorem lQ {s:Nat} {l:List Cpu} {k:Nat} {j:Int} (h:s.testBit k=true) (hj:(l.getD k ae).node=j):bi s l j (k+1)=bi s l j k+1:=by
 rw [bi,if_pos (by rw [h,hj];simp)]
theorem fy {s:Nat} {l:List Cpu} {k:Nat} {j:Int} (hj:(l.getD k ae).node≠j):bi s l j (k+1)=bi s l j k:=by
 rw [bi,if_neg (by simp only [Q7 hj,Bool.and_false];simp)]
theorem lS {s:Nat} {l:List Cpu} {k:Nat} {j:Int} (h:s.testBit k=false):bi s l j (k+1)=bi s l j k:=by
 rw [bi,if_neg (by rw [h];simp)]
theorem lT (s:Nat) (l:List Cpu) (j:Int) (k:Nat):bi s l j k<=k:=by
 induction k with
 | zero=>exact lR
 | succ k ih=>rw [bi];split <;> omega
structure bK (w:World) (B:Nat) (a b c d:Int):Prop where
 c0:w.cell? ⟨B,0,none⟩=some (.int .i64 a)
 c1:w.cell? ⟨B,1,none⟩=some (.int .i64 b)
 c2:w.cell? ⟨B,2,none⟩=some (.int .i64 c)
 c3:w.cell? ⟨B,3,none⟩=some (.int .i64 d)
 f0:w.frozen? ⟨B,0,none⟩=false
 f1:w.frozen? ⟨B,1,none⟩=false
 f2:w.frozen? ⟨B,2,none⟩=false
 f3:w.frozen? ⟨B,3,none⟩=false
theorem bK.lt {w:World} {B:Nat} {a b c d:Int} (h:bK w B a b c d):B<w.heap.size:=Q3 w _ h.c0
theorem bK.below {w w':World} {B K:Nat} {a b c d:Int} (h:bK w B a b c d) (hb:Below K w w') (hK:B<K):bK w' B a b c d:=
 ⟨(hb.cell (p:=⟨B,0,none⟩) hK).trans h.c0,(hb.cell (p:=⟨B,1,none⟩) hK).trans h.c1,(hb.cell (p:=⟨B,2,none⟩) hK).trans h.c2,(hb.cell (p:=⟨B,3,none⟩) hK).trans h.c3,
  (hb.frozen (p:=⟨B,0,none⟩) hK).trans h.f0,(hb.frozen (p:=⟨B,1,none⟩) hK).trans h.f1,(hb.frozen (p:=⟨B,2,none⟩) hK).trans h.f2,(hb.frozen (p:=⟨B,3,none⟩) hK).trans h.f3⟩
theorem bK.made (w:World) (t:TypeId) (a b c d:Int):bK (w.alloc (.cells #[.int .i64 a,.int .i64 b,.int .i64 c,.int .i64 d] t)) w.heap.size a b c d:=by
 constructor <;> simp
theorem bK.alloc {w:World} {B:Nat} {a b c d:Int} (h:bK w B a b c d) (o:Obj):bK (w.alloc o) B a b c d:=
 h.below ((Q0 _ _).alloc (lR) _) h.lt
theorem bK.set_other {w:World} {B:Nat} {a b c d:Int} (h:bK w B a b c d) {p:Addr} (hp:B≠p.block) (v:Value):bK (w.setCell p v) B a b c d:=by
 have e:(w.setCell p v).heap[B]?=w.heap[B]?:=Below.heap_setCell _ _ _ _ hp;exact ⟨(World.cell?_of_block (w:=w) (a:=⟨B,0,none⟩) e).trans h.c0,(World.cell?_of_block (w:=w) (a:=⟨B,1,none⟩) e).trans h.c1,(World.cell?_of_block (w:=w) (a:=⟨B,2,none⟩) e).trans h.c2,(World.cell?_of_block (w:=w) (a:=⟨B,3,none⟩) e).trans h.c3,
  (World.frozen?_of_block (w:=w) (a:=⟨B,0,none⟩) e).trans h.f0,(World.frozen?_of_block (w:=w) (a:=⟨B,1,none⟩) e).trans h.f1,(World.frozen?_of_block (w:=w) (a:=⟨B,2,none⟩) e).trans h.f2,(World.frozen?_of_block (w:=w) (a:=⟨B,3,none⟩) e).trans h.f3⟩
theorem bK.set0 {w:World} {B:Nat} {a b c d:Int} (h:bK w B a b c d) (x:Int):bK (w.setCell ⟨B,0,none⟩ (.int .i64 x)) B x b c d:=by
 obtain ⟨c0,c1,c2,c3,f0,f1,f2,f3⟩:=h;constructor <;> first|exact World.frozen?_setCell.trans (by assumption)|go_simp
theorem bK.set1 {w:World} {B:Nat} {a b c d:Int} (h:bK w B a b c d) (x:Int):bK (w.setCell ⟨B,1,none⟩ (.int .i64 x)) B a x c d:=by
 obtain ⟨c0,c1,c2,c3,f0,f1,f2,f3⟩:=h;constructor <;> first|exact World.frozen?_setCell.trans (by assumption)|go_simp
theorem bK.set2 {w:World} {B:Nat} {a b c d:Int} (h:bK w B a b c d) (x:Int):bK (w.setCell ⟨B,2,none⟩ (.int .i64 x)) B a b x d:=by
 obtain ⟨c0,c1,c2,c3,f0,f1,f2,f3⟩:=h;constructor <;> first|exact World.frozen?_setCell.trans (by assumption)|go_simp
theorem bK.set3 {w:World} {B:Nat} {a b c d:Int} (h:bK w B a b c d) (x:Int):bK (w.setCell ⟨B,3,none⟩ (.int .i64 x)) B a b c x:=by
 obtain ⟨c0,c1,c2,c3,f0,f1,f2,f3⟩:=h;constructor <;> first|exact World.frozen?_setCell.trans (by assumption)|go_simp
theorem ks (A n:Nat) (w:World) (hA:A<18446744073709551616) (hn:n<64) :
  Calls Tryz.prog 154 #[.int .u64 A,.int .i64 n] w λe w'=>e=.returned (.bool (A.testBit n))/\w'=w:=by
 have HB:=nD A n hA
 go_enter Tryz.func154,Tryz.ntmps154
 go_wp2_with go_in
 go_ret;exact ⟨rfl,rfl⟩
theorem lU {fn:Func} {p:Tmp} {ty:TypeId} (h:fn.results=#[.cell p ty]) (tmps:Array Value) (P:Program) (w:World) :
  (results fn tmps).run P w=((asAddr (tmps.getD p undef)).run P w).andThen λa w₁=>(loadVar ty a).run P w₁:=by
 simp only [results,h]
 simp [Sem.run_bind,Result.andThen]
def jN (s:Nat) (l:List Cpu) (k:Nat):Value:=.agg #[.int .i64 (bi s l 0 k:Nat),.int .i64 (bi s l 1 k:Nat),.int .i64 (bi s l 2 k:Nat),.int .i64 (bi s l 3 k:Nat)]
theorem jK (A tb b o c:Nat) (l:List Cpu) (w:World) (ht:aZ w tb b o c l) (hA:A<18446744073709551616) (hg:Good l) :
  Calls Tryz.prog 117 #[.pointer (some ⟨tb,0,none⟩),.int .u64 A] w λe w'=>e=.returned (jN A l l.length)/\Below w.heap.size w w':=by
 have hB0:=((Q0 w.heap.size w).alloc (lR) (.cells #[.int .i64 0,.int .i64 0,.int .i64 0,.int .i64 0] 214));have hB00:=hB0.alloc hB0.size (.cells #[.int .i64 0,.int .i64 0,.int .i64 0,.int .i64 0] 214);have ht1:=ht.below hB00;have HC:=qI ht.cells;have hT:=ht1.cell;have HLB:=qI ht.lt;have hl:=ht.len;have HG:=qI hg;have HB00:=qI hB00;clear ht ht1 hB0 hB00 hg
 go_enter Tryz.func117,Tryz.ntmps117
 go_wp2
 go_loopw [13] (λi wr=>∃ k:Nat,k<=l.length/\i=.int .i64 k/\bK wr w.heap.size 0 0 0 0/\bK wr (w.heap.size+1) (bi A l 0 k:Nat) (bi A l 1 k:Nat) (bi A l 2 k:Nat) (bi A l 3 k:Nat)/\Below w.heap.size w wr) (λi _=>l.length - (intOf i).toNat)
 case atStart=>exact ⟨0,by omega,rfl,(bK.made _ _ _ _ _ _).alloc _,by have:=bK.made (w.alloc (.cells #[.int .i64 0,.int .i64 0,.int .i64 0,.int .i64 0] 214)) 214 0 0 0 0;simpa [bi] using this,HB00.out⟩
 case round=>
  obtain ⟨k,hk,rfl,h4,h5,hB⟩:=hrel
  by_cases hlt:k<l.length
  ·obtain ⟨hcell0,hcell1,hcell2⟩:=(HC.out.below HLB.out hB) k hlt;obtain ⟨g0,g3⟩:=HG.out.at hlt;have HI:=qI (ks A k (wr.alloc (.cells #[.int .i64 (l.getD k ae).core,.int .i64 (l.getD k ae).sock,.int .i64 (l.getD k ae).node] 84)) hA (by omega));have hB1:=hB.alloc hB.size (.cells #[.int .i64 (l.getD k ae).core,.int .i64 (l.getD k ae).sock,.int .i64 (l.getD k ae).node] 84);have h41:=h4.alloc (.cells #[.int .i64 (l.getD k ae).core,.int .i64 (l.getD k ae).sock,.int .i64 (l.getD k ae).node] 84);have h51:=h5.alloc (.cells #[.int .i64 (l.getD k ae).core,.int .i64 (l.getD k ae).sock,.int .i64 (l.getD k ae).node] 84);have l0:=qI (lT A l 0 k);have l1:=qI (lT A l 1 k);have l2:=qI (lT A l 2 k);have l3:=qI (lT A l 3 k);have hN:(l.getD k ae).node=0\/(l.getD k ae).node=1\/(l.getD k ae).node=2\/(l.getD k ae).node=3:=by omega
   rcases two (A.testBit k) with hb|hb
   ·rw [hb] at HI
    rcases hN with hN|hN|hN|hN
    ·have EJ:=qI (lQ (l:=l) (j:=0) hb hN);have E1:=qI (fy (s:=A) (l:=l) (k:=k) (j:=1) (by rw [hN];decide));have E2:=qI (fy (s:=A) (l:=l) (k:=k) (j:=2) (by rw [hN];decide));have E3:=qI (fy (s:=A) (l:=l) (k:=k) (j:=3) (by rw [hN];decide));have q0:=h51.c0;have r0:=h51.f0;have h41:=qI h41;have h51:=qI h51;clear hb h4 h5;rw [hN] at hcell2 HI hB1 h41 h51 q0 r0;clear hN g0 g3;have m0:=l0.out;generalize l.getD k ae=x at *;generalize hcz:bi A l 0 k=z at *
     go_wp2_with (go_at_call 154;refine HI.out.mono ?_;rintro e w' ⟨rfl,rfl⟩)
     go_roundw
     case rel=>
      refine ⟨k+1,by omega,by go_num,h41.out.set_other (by simp) _,?_,hB1.setCell (by simp) _⟩;rw [EJ.out,E1.out,E2.out,E3.out]
      have:=h51.out.set0 ((z:Int)+1)
      simpa using this
     case measure=>simp [intOf];omega
    ·have EJ:=qI (lQ (l:=l) (j:=1) hb hN);have E0:=qI (fy (s:=A) (l:=l) (k:=k) (j:=0) (by rw [hN];decide));have E2:=qI (fy (s:=A) (l:=l) (k:=k) (j:=2) (by rw [hN];decide));have E3:=qI (fy (s:=A) (l:=l) (k:=k) (j:=3) (by rw [hN];decide));have q0:=h51.c1;have r0:=h51.f1;have h41:=qI h41;have h51:=qI h51;clear hb h4 h5;rw [hN] at hcell2 HI hB1 h41 h51 q0 r0;clear hN g0 g3;have m0:=l1.out;generalize l.getD k ae=x at *;generalize hcz:bi A l 1 k=z at *
     go_wp2_with (go_at_call 154;refine HI.out.mono ?_;rintro e w' ⟨rfl,rfl⟩)
     go_roundw
     case rel=>
      refine ⟨k+1,by omega,by go_num,h41.out.set_other (by simp) _,?_,hB1.setCell (by simp) _⟩;rw [EJ.out,E0.out,E2.out,E3.out]
      have:=h51.out.set1 ((z:Int)+1)
      simpa using this
     case measure=>simp [intOf];omega
    ·have EJ:=qI (lQ (l:=l) (j:=2) hb hN);have E0:=qI (fy (s:=A) (l:=l) (k:=k) (j:=0) (by rw [hN];decide));have E1:=qI (fy (s:=A) (l:=l) (k:=k) (j:=1) (by rw [hN];decide));have E3:=qI (fy (s:=A) (l:=l) (k:=k) (j:=3) (by rw [hN];decide));have q0:=h51.c2;have r0:=h51.f2;have h41:=qI h41;have h51:=qI h51;clear hb h4 h5;rw [hN] at hcell2 HI hB1 h41 h51 q0 r0;clear hN g0 g3;have m0:=l2.out;generalize l.getD k ae=x at *;generalize hcz:bi A l 2 k=z at *
     go_wp2_with (go_at_call 154;refine HI.out.mono ?_;rintro e w' ⟨rfl,rfl⟩)
     go_roundw
     case rel=>
      refine ⟨k+1,by omega,by go_num,h41.out.set_other (by simp) _,?_,hB1.setCell (by simp) _⟩;rw [EJ.out,E0.out,E1.out,E3.out]
      have:=h51.out.set2 ((z:Int)+1)
      simpa using this
     case measure=>simp [intOf];omega
    ·have EJ:=qI (lQ (l:=l) (j:=3) hb hN);have E0:=qI (fy (s:=A) (l:=l) (k:=k) (j:=0) (by rw [hN];decide));have E1:=qI (fy (s:=A) (l:=l) (k:=k) (j:=1) (by rw [hN];decide));have E2:=qI (fy (s:=A) (l:=l) (k:=k) (j:=2) (by rw [hN];decide));have q0:=h51.c3;have r0:=h51.f3;have h41:=qI h41;have h51:=qI h51;clear hb h4 h5;rw [hN] at hcell2 HI hB1 h41 h51 q0 r0;clear hN g0 g3;have m0:=l3.out;generalize l.getD k ae=x at *;generalize hcz:bi A l 3 k=z at *
     go_wp2_with (go_at_call 154;refine HI.out.mono ?_;rintro e w' ⟨rfl,rfl⟩)
     go_roundw
     case rel=>
      refine ⟨k+1,by omega,by go_num,h41.out.set_other (by simp) _,?_,hB1.setCell (by simp) _⟩;rw [EJ.out,E0.out,E1.out,E2.out]
      have:=h51.out.set3 ((z:Int)+1)
      simpa using this
     case measure=>simp [intOf];omega
   ·rw [hb] at HI;have E0:=qI (lS (l:=l) (j:=0) hb);have E1:=qI (lS (l:=l) (j:=1) hb);have E2:=qI (lS (l:=l) (j:=2) hb);have E3:=qI (lS (l:=l) (j:=3) hb);have h41:=qI h41;have h51:=qI h51;clear hb h4 h5 hN;generalize l.getD k ae=x at *
    go_wp2_with (go_at_call 154;refine HI.out.mono ?_;rintro e w' ⟨rfl,rfl⟩)
    go_roundw
    case rel=>exact ⟨k+1,by omega,by go_num,h41.out,by rw [E0.out,E1.out,E2.out,E3.out];exact h51.out,hB1⟩
    case measure=>simp [intOf];omega
  ·have hkl:k=l.length:=by omega
   subst hkl;clear hk hlt;have q0:=h5.c0;have q1:=h5.c1;have q2:=h5.c2;have q3:=h5.c3;have p0:=h4.c0;have p1:=h4.c1;have p2:=h4.c2;have p3:=h4.c3;have r0:=h4.f0;have r1:=h4.f1;have r2:=h4.f2;have r3:=h4.f3;clear h4 h5
   go_wp2_with fail
   (try simp only [Exit.inBlock,Exit.then]);refine bodyPost_ret (v:=jN A l l.length) ?_ rfl ⟨rfl,?_⟩
   ·unfold jN;rw [lU rfl];go_simp
   ·exact (((hB.setCell (lR) _).setCell (lR) _).setCell (lR) _).setCell (lR) _
theorem or8 (s n:Nat) (hs:s<256) (hn:n<8):bits BinOp.or IntKind.u8 (s:Int) (IntKind.u8.wrap (2 ^ n))=((s ||| 2 ^ n:Nat):Int):=by
 have key:∀ (a:Fin 256) (b:Fin 8),bits BinOp.or IntKind.u8 ((a.val:Nat):Int) (IntKind.u8.wrap (2 ^ b.val))=((a.val ||| 2 ^ b.val:Nat):Int):=by decide +kernel
 exact key ⟨s,hs⟩ ⟨n,hn⟩
theorem yX (s n:Nat) (hs:s<256) (hn:n<8):bits BinOp.or IntKind.u8 (s:Int) (2 ^ n % 256)=((s ||| 2 ^ n:Nat):Int):=by
 have key:∀ (a:Fin 256) (b:Fin 8),bits BinOp.or IntKind.u8 ((a.val:Nat):Int) (2 ^ b.val % 256)=((a.val ||| 2 ^ b.val:Nat):Int):=by decide +kernel
 exact key ⟨s,hs⟩ ⟨n,hn⟩
def eC (l:List Cpu):Nat->Nat
 | 0=>0
 | k+1=>eC l k ||| 2 ^ (l.getD k ae).node.toNat
theorem yY (l:List Cpu) (k j:Nat):(eC l k).testBit j=true↔∃ i,i<k/\(l.getD i ae).node.toNat=j:=by
 induction k with
 | zero=>simp [eC]
 | succ k ih=>
  rw [eC,Nat.testBit_or,Bool.or_eq_true,ih,Nat.testBit_two_pow];constructor
  ·rintro (⟨i,hi,h⟩|h)
   ·exact ⟨i,by omega,h⟩
   ·exact ⟨k,by omega,by simpa using h⟩
  ·rintro ⟨i,hi,h⟩
   by_cases e:i=k
   ·subst e;right;simpa using h
   ·left;exact ⟨i,by omega,h⟩
def eO (f:Nat->Bool):Nat->Nat
 | 0=>0
 | k+1=>if f k then eO f k ||| 2 ^ k else eO f k
theorem qZ (f:Nat->Bool) (k j:Nat):(eO f k).testBit j=(decide (j<k) && f j):=by
 induction k with
 | zero=>simp [eO]
 | succ k ih=>
  rw [eO]
  by_cases h:f k=true
  ·rw [if_pos h,Nat.testBit_or,ih,Nat.testBit_two_pow]
   by_cases e:j=k
   ·subst e;simp [h]
   ·by_cases h2:j<k
    ·simp [h2,show j<k+1 by omega,show ¬ k=j by omega]
    ·simp [h2,show ¬ j<k+1 by omega,show ¬ k=j by omega]
  ·have h':f k=false:=by simpa using h
   rw [if_neg h,ih]
   by_cases e:j=k
   ·subst e;simp [h']
   ·by_cases h2:j<k
    ·simp [h2,show j<k+1 by omega]
    ·simp [h2,show ¬ j<k+1 by omega]
theorem yZ (s:Nat) (l:List Cpu) (j:Int) (k:Nat):0<bi s l j k↔∃ i,i<k/\s.testBit i=true/\(l.getD i ae).node=j:=by
 induction k with
 | zero=>simp [bi]
 | succ k ih=>
  rw [bi]
  by_cases h:(s.testBit k && decide ((l.getD k ae).node=j))=true
  ·rw [if_pos h];simp only [Bool.and_eq_true,Qp] at h;exact ⟨λ_=>⟨k,by omega,h.1,h.2⟩,λ_=>by omega⟩
  ·rw [if_neg h,ih];constructor
   ·rintro ⟨i,hi,r⟩;exact ⟨i,by omega,r⟩
   ·rintro ⟨i,hi,r⟩
    by_cases e:i=k
    ·subst e;exact absurd (by rw [r.1,r.2];simp) h
    ·exact ⟨i,by omega,r⟩
theorem y8 (l:List Cpu) (hg:Good l):eO (λj=>decide (0<bi (af aD l) l j l.length)) 4=eC l l.length:=by
 apply Nat.eq_of_testBit_eq;intro j;rw [qZ,Bool.eq_iff_iff,yY,Bool.and_eq_true,Qp,Qp,yZ];constructor
 ·rintro ⟨_,i,hi,_,hn⟩;exact ⟨i,hi,by omega⟩
 ·rintro ⟨i,hi,hn⟩
  have:=hg.at hi
  exact ⟨by omega,i,hi,by rw [Ost.nC];simp [aD,hi],by omega⟩
theorem y9 (f:Nat->Bool) (k:Nat) (hk:k<=4):eO f k<256:=by
 apply Nat.lt_pow_two_of_testBit (n:=8);intro i hi;rw [qZ];simp [show ¬ i<k by omega]
theorem ra (a b c d:Int) (w:World):∀ k:Nat,k<4->∃ x,(Instr.index 214 (.agg #[.int .i64 a,.int .i64 b,.int .i64 c,.int .i64 d]) (.int .i64 k)).run Tryz.prog w=.ok (.int .i64 x) w/\x=[a,b,c,d].getD k 0:=by
 intro k hk
 have:k=0\/k=1\/k=2\/k=3:=by omega
 rcases this with rfl|rfl|rfl|rfl
 ·exact ⟨a,by kernel_rfl,rfl⟩
 ·exact ⟨b,by kernel_rfl,rfl⟩
 ·exact ⟨c,by kernel_rfl,rfl⟩
 ·exact ⟨d,by kernel_rfl,rfl⟩
theorem nR (tb b o c:Nat) (l:List Cpu) (w:World) (ht:aZ w tb b o c l) (hg:Good l) :
  Calls Tryz.prog 67 #[.pointer (some ⟨tb,0,none⟩)] w λe w'=>e=.returned (.int .u8 (eC l l.length:Nat))/\Below w.heap.size w w':=by
 rw [<- y8 l hg];have HT:=qI ht;have HG:=qI hg;have hlA:=Ost.e5 aD l l.length ht.len;have HA:=qI (gE tb b o c l w ht)
 change af aD l<_ at hlA
 generalize af aD l=A at *;obtain ⟨f,hf⟩:∃ f:Nat->Bool,f=λ(j:Nat)=>decide (0<bi A l j l.length):=⟨_,rfl⟩
 rw [<- hf];have HF:Hid (∀ j:Nat,f j=decide (0<bi A l j l.length)):=λj=>by rw [hf]
 clear ht hg hf
 go_enter Tryz.func67,Tryz.ntmps67
 go_wp2_with fail
 refine HA.out.mono ?_;rintro e w1 ⟨rfl,hb1⟩
 go_wp2_with fail
 refine (jK A tb b o c l w1 (HT.out.below hb1) hlA HG.out).mono ?_;rintro e w2 ⟨rfl,hb2⟩;have hB:=hb1.trans (hb2.mono hb1.size);have HX:=qI (λk hk=>ra (bi A l 0 l.length:Nat) (bi A l 1 l.length:Nat) (bi A l 2 l.length:Nat) (bi A l 3 l.length:Nat) w2 k hk);clear hb1 hb2 hlA;unfold jN
 go_wp2_with fail
 go_loop [3,10] (λt i=>∃ k:Nat,k<=4/\i=.int .i64 k/\t=.int .u8 (eO f k:Nat)) (λ_ i=>4 - (intOf i).toNat)
 case atStart=>exact ⟨0,by omega,rfl,rfl⟩
 case round=>
  obtain ⟨k,hk,rfl,rfl⟩:=hrel
  by_cases hlt:k<4
  ·obtain ⟨x,hx,hxe⟩:=HX.out k hlt;have hxk:x=(bi A l k l.length:Nat):=by
    rw [hxe]
    have:k=0\/k=1\/k=2\/k=3:=by omega
    rcases this with rfl|rfl|rfl|rfl <;> rfl
   have HL:=qI (y9 f k (by omega));have hfk:=HF.out k;clear hxe
   by_cases h0:0<bi A l k l.length
   ·have hx0:0<x:=by omega
    have HO:Hid (bits BinOp.or IntKind.u8 (eO f k:Nat) (2 ^ k % 256)=((eO f (k+1):Nat):Int)):=by
     unfold Hid;rw [yX _ _ HL.out (by omega),eO,if_pos (by rw [hfk];exact Qc h0)]
    clear hxk h0 hfk
    go_wp2_with fail
    go_round
    case rel=>exact ⟨k+1,by omega,by go_num,by rw [<- HO.out]⟩
    case measure=>simp [intOf];omega
   ·have hx0:¬ 0<x:=by omega
    have HO:Hid (eO f k=eO f (k+1)):=by
     unfold Hid;rw [eO,if_neg (by rw [hfk];simpa using h0)]
    clear hxk h0 hfk
    go_wp2_with fail
    go_round
    case rel=>exact ⟨k+1,by omega,by go_num,by rw [<- HO.out]⟩
    case measure=>simp [intOf];omega
  ·have hkl:k=4:=by omega
   subst hkl;clear hk hlt
   go_wp2
   go_ret;exact ⟨rfl,hB⟩

end
section
open RowKit
open Go.Maps (Keyed int_keyed keyOf_int_mk)
open Ost (Cpu ae inB seen)
theorem nS (n m:Int) (w:World):Calls Tryz.prog 119 #[.int .i64 n,.int .i64 m] w λe w'=>e=.returned (.bool (decide (0<=n) && decide (n<m)))/\w'=w:=by
 rcases two (decide (0<=n)) with h|h
 ·have h1:0<=n:=of_decide_eq_true h;rw [h];clear h
  go_enter Tryz.func119,Tryz.ntmps119
  go_wp2
  go_ret;exact ⟨by simp,rfl⟩
 ·have h1:¬ 0<=n:=of_decide_eq_false h;rw [h];clear h
  go_enter Tryz.func119,Tryz.ntmps119
  go_wp2
  go_ret;exact ⟨by simp,rfl⟩
theorem za (x:Cpu) (w:World):Calls Tryz.prog 69 #[.agg #[.int .i64 x.core,.int .i64 x.sock,.int .i64 x.node]] w λe w'=>e=.returned (.bool (inB x))/\Below w.heap.size w w':=by
 have HB:=qI ((Q0 w.heap.size w).alloc (lR) (.cells #[.int .i64 x.core,.int .i64 x.sock,.int .i64 x.node] 84));have H1:=qI (nS x.core 64);have H2:=qI (nS x.sock 64);have H3:=qI (nS x.node 4);unfold inB;generalize (decide (0<=x.core) && decide (x.core<64))=b1 at *;generalize (decide (0<=x.sock) && decide (x.sock<64))=b2 at *;generalize (decide (0<=x.node) && decide (x.node<4))=b3 at *;cases b1 <;> cases b2
 case false.false|false.true=>
  all_goals
   go_enter Tryz.func69,Tryz.ntmps69
   go_wp2_with fail
   refine (H1.out _).mono ?_;rintro e w' ⟨rfl,rfl⟩
   go_wp2
   go_ret;exact ⟨rfl,HB.out⟩
 case true.false=>
  go_enter Tryz.func69,Tryz.ntmps69
  go_wp2_with fail
  refine (H1.out _).mono ?_;rintro e w' ⟨rfl,rfl⟩
  go_wp2_with fail
  refine (H2.out _).mono ?_;rintro e w' ⟨rfl,rfl⟩
  go_wp2
  go_ret;exact ⟨rfl,HB.out⟩
 case true.true=>
  go_enter Tryz.func69,Tryz.ntmps69
  go_wp2_with fail
  refine (H1.out _).mono ?_;rintro e w' ⟨rfl,rfl⟩
  go_wp2_with fail
  refine (H2.out _).mono ?_;rintro e w' ⟨rfl,rfl⟩
  go_wp2_with fail
  refine (H3.out _).mono ?_;rintro e w' ⟨rfl,rfl⟩
  go_wp2
  go_ret;exact ⟨by simp,HB.out⟩
def fa (l:List Cpu):List Value:=l.flatMap λx=>[.int .i64 x.core,.int .i64 x.sock,.int .i64 x.node]
theorem re (l:List Cpu):(fa l).length=l.length*3:=by
 induction l with
 | nil=>rfl
 | cons a r ih=>simp only [fa,List.flatMap_cons,Q2,Qg,List.length_nil] at ih ⊢;omega
theorem rf (l:List Cpu) (k:Nat) (hk:k<l.length):(fa l)[k*3]?=some (.int .i64 (l.getD k ae).core)/\(fa l)[k*3+1]?=some (.int .i64 (l.getD k ae).sock)/\(fa l)[k*3+2]?=some (.int .i64 (l.getD k ae).node):=by
 induction l generalizing k with
 | nil=>simp at hk
 | cons a r ih=>
  cases k with
  | zero=>simp [fa]
  | succ k=>
   have:=ih k (by simpa using hk)
   have e:fa (a :: r)=[.int .i64 a.core,.int .i64 a.sock,.int .i64 a.node]++fa r:=rfl;rw [e,show (k+1)*3=k*3+3 by omega]
   simpa using this
theorem zb {w:World} {b o:Nat} {l:List Cpu} (h:fR w b o l) (j:Nat) (u:Value) (hj:(fa l)[j]?=some u):w.cell? ((⟨b,o,none⟩:Addr).add j)=some u:=by
 have hlt:j<l.length*3:=by rw [<- re];exact (List.getElem?_eq_some_iff.1 hj).1
 obtain ⟨h0,h1,h2⟩:=h (j / 3) (by omega);obtain ⟨c0,c1,c2⟩:=rf l (j / 3) (by omega);rw [Addr.add_lit]
 have:j=j / 3*3\/j=j / 3*3+1\/j=j / 3*3+2:=by omega
 rcases this with e|e|e
 ·rw [<- e] at c0 h0;rw [h0,<- c0,hj]
 ·rw [<- e] at c1;rw [Nat.add_assoc,<- e] at h1;rw [h1,<- c1,hj]
 ·rw [<- e] at c2;rw [Nat.add_assoc,<- e] at h2;rw [h2,<- c2,hj]
theorem zc (l:List Cpu):∀ u∈fa l,u.oneCell'=true:=by
 intro u hu;simp only [fa,List.mem_flatMap] at hu;obtain ⟨x,_,hx⟩:=hu
 simp at hx
 rcases hx with rfl|rfl|rfl <;> rfl
theorem ze:(Tryz.prog.info? 84).map (λi=>(i.zero,i.size,i.bytes))=some (some (.agg #[.int .i64 0,.int .i64 0,.int .i64 0]),3,24):=by kernel_rfl
theorem zf (b o n c:Nat) (w:World):Sem.run Tryz.prog (binOp BinOp.eql 22 (.slice (some ⟨b,o,none⟩) n c) (.slice none 0 0)) w=.ok (.bool false) w:=by kernel_rfl
def zg (w:World) (l:List Cpu) (e:Ending) (w':World):Prop:=∃ g c',e=.returned (.slice (some ⟨g,0,none⟩) l.length c')/\fR w' g 0 l/\g<w'.heap.size/\Below w.heap.size w w'
theorem zi (b o c:Nat) (l:List Cpu) (w:World) (hc:fR w b o l) (hlb:b<w.heap.size) (h0:0<l.length) (hl:l.length<=64) :
  Calls Tryz.prog 70 #[.slice (some ⟨b,o,none⟩) l.length c] w λe w'=>zg w l e w':=by
 obtain ⟨i0,hi,hz0,hz1,hz2⟩:=info_parts ze;have hB0:=(Q0 w.heap.size w).alloc (lR) (.cells #[] 84);have HC:=qI (hc.below hlb hB0);have HB:=qI hB0;have hnil:=zf b o l.length c w;clear hc hB0
 go_enter Tryz.func70,Tryz.ntmps70
 go_wp2_with (at_builtin;(refine wpList_append_own _ rfl _ _ 22 rfl w.heap.size 84 i0 (.agg #[.int .i64 0,.int .i64 0,.int .i64 0]) 3 24 Tryz.underlying22 hi hz0 hz1 hz2 rfl (by decide) _ _ _ rfl (World.ownsRow_lit w #[] 0 (lR) (Nat.zero_le _) rfl) ⟨b,o,none⟩ l.length c (fa l) rfl (re l) (zb HC.out) (zc l) (by unfold maxLen;omega) (by omega) (by simp) ?_);intro v' w1 hown' hgrow' _)
 rcases hown'.2 with ⟨rfl,h1⟩|⟨g,cap,cur,rfl,hg,hgc,_⟩
 ·omega
 ·have hlt:=(hown'.lt g rfl).2;have hcl:Hid (fR w1 g 0 l):=by
   intro k hk;obtain ⟨c0,c1,c2⟩:=rf l k hk;rw [<- List.nil_append (fa l)] at c0 c1 c2;refine ⟨?_,?_,?_⟩
   ·rw [Qd,hown'.cellAt (k*3) (by omega)];exact c0
   ·rw [Qd,hown'.cellAt (k*3+1) (by omega)];exact c1
   ·rw [Qd,hown'.cellAt (k*3+2) (by omega)];exact c2
  have hB1:=qI (HB.out.grown hgrow' (by simp) (λj hj=>by cases hj;exact lR));clear hown' hgrow' hgc hg;rw [Qd]
  go_wp2
  go_ret;exact ⟨g,cap,rfl,hcl.out,hlt,hB1.out⟩
end
section
open RowKit Go.ChangeMaps
open Go.Maps (Keyed int_keyed keyOf_int_mk)
open Ost (Cpu ae inB fx cJ fault)
def jO:Value->Option (DataW Unit × List MemPlace)
 | .agg ⟨[.int .i64 a,.int .i64 b,.int .i64 c]⟩=>some (.agg [.lit (.int .i64 a),.lit (.int .i64 b),.lit (.int .i64 c)],[])
 | _=>none
def jh (x:Cpu):DataW Unit:=.agg [.lit (.int .i64 x.core),.lit (.int .i64 x.sock),.lit (.int .i64 x.node)]
theorem zj (x:Cpu):jO (.agg #[.int .i64 x.core,.int .i64 x.sock,.int .i64 x.node])=some (jh x,[]):=rfl
theorem zk {v:Value} {x:Cpu} {ps:List MemPlace} (h:jO v=some (jh x,ps)):v=.agg #[.int .i64 x.core,.int .i64 x.sock,.int .i64 x.node]:=by
 unfold jO at h
 split at h
 ·simp only [jh,Option.some.injEq,Prod.mk.injEq,DataW.agg.injEq,List.cons.injEq,DataW.lit.injEq,Lit.int.injEq,true_and,and_true] at h;obtain ⟨⟨rfl,rfl,rfl⟩,_⟩:=h;rfl
 ·cases h
def eD (w:World) (B n:Nat) (f:Int->Option Cpu):Prop:=
 ∃ D:DataW Unit,w.ownsMap Tryz.prog 3 jO B n D/\∀ k:Int,0<=k->k<64->Maps.has D (.int .i64 k)=(f k).isSome/\D.atKey (.int .i64 k) (jh ae)=jh ((f k).getD ae)
theorem lV:Keyed Tryz.prog 3:=int_keyed Tryz.underlying3
theorem lW {k:Int} (h0:0<=k) (h:k<64):(Lit.int .i64 k).wf=true:=WalkArith.wf_i64 (by omega)
theorem eD.alloc {w:World} {B n:Nat} {f:Int->Option Cpu} (h:eD w B n f) (o:Obj):eD (w.alloc o) B n f:=by
 obtain ⟨D,ho,hk⟩:=h;exact ⟨D,ho.alloc o,hk⟩
theorem eD.below {w w':World} {B K n:Nat} {f:Int->Option Cpu} (h:eD w B n f) (hb:Below K w w') (hK:B<K):eD w' B n f:=by
 obtain ⟨D,⟨es,clock,hh,r⟩,hk⟩:=h;exact ⟨D,⟨es,clock,(hb.block B hK).trans hh,r⟩,hk⟩
theorem eD.lt {w:World} {B n:Nat} {f:Int->Option Cpu} (h:eD w B n f):B<w.heap.size:=by
 obtain ⟨D,ho,_⟩:=h;exact ho.lt
theorem eD.made (w:World):eD (w.alloc (.map #[] 0)) w.heap.size 0 (λ_=>none):=
 ⟨.map [],World.ownsMap_made w _ _ _,λ_ _ _=>⟨rfl,rfl⟩⟩
theorem zl (w:World):(zeroValue 84).run Tryz.prog w=.ok (.agg #[.int .i64 0,.int .i64 0,.int .i64 0]) w:=by kernel_rfl
theorem lX {ops:Array Oper} {rest:List Oper} {o:Oper} {a:Act} {Q:Exit->Act->World->Prop} (w:World) (hg:o.guard=none) (m x:Operand) (hop:o.op=Op.lookup 154 m x true)
  (B n:Nat) (f:Int->Option Cpu) (k:Int) (h0:0<=k) (h64:k<64) (hm:a.eval m=.map (some B)) (hx:a.eval x=.int .i64 k) (hM:eD w B n f) (y:Cpu) (ok:Bool) (hy:(f k).getD ae=y) (hok:(f k).isSome=ok)
  (hK:wpList Tryz.prog ops Q rest (a.put o.dst (.tuple #[.agg #[.int .i64 y.core,.int .i64 y.sock,.int .i64 y.node],.bool ok])) w) :
  wpList Tryz.prog ops Q (o :: rest) a w:=by
 obtain ⟨D,ho,hk⟩:=hM;refine wpList_lookup_own_ok w hg m x 154 hop 3 84 lV Tryz.underlying154 jO (zl w) (jh ae) [] rfl B n D hm ho _ (.int .i64 k) hx (keyOf_int_mk Tryz.underlying3 (lW h0 h64)) ?_;intro v ps hv;obtain ⟨h1,h2⟩:=hk k h0 h64;rw [h2,hy] at hv;rw [h1,hok,zk hv];exact hK
theorem rh {ops:Array Oper} {rest:List Oper} {o:Oper} {a:Act} {Q:Exit->Act->World->Prop} (w:World) (hg:o.guard=none) (m x v:Operand) (hop:o.op=Op.mapUpdate 154 m x v)
  (B n:Nat) (f:Int->Option Cpu) (k:Int) (h0:0<=k) (h64:k<64) (y:Cpu) (hm:a.eval m=.map (some B)) (hx:a.eval x=.int .i64 k) (hv:a.eval v=.agg #[.int .i64 y.core,.int .i64 y.sock,.int .i64 y.node]) (hM:eD w B n f) (hn:n<maxLen)
  (hK:∀ w',eD w' B (n+1) (λj=>if k=j then some y else f j)->w.grownBy w' (some B)->wpList Tryz.prog ops Q rest (a.put o.dst undef) w') :
  wpList Tryz.prog ops Q (o :: rest) a w:=by
 obtain ⟨D,ho,hk⟩:=hM;refine wpList_mapUpdate_own w hg m x v 154 hop 3 84 lV Tryz.underlying154 jO B n D hm ho hn _ _ (.int .i64 k) hx hv (keyOf_int_mk Tryz.underlying3 (lW h0 h64)) (jh y) [] (zj y) ?_;intro w' ho' hgr;refine hK w' ⟨_,ho',λj j0 j64=>?_⟩ hgr
 by_cases e:k=j
 ·subst e;have hkl:WideAt.IsKeyLit (Lit.int .i64 k):=trivial;rw [Maps.has_put_same ho.isMap hkl,Maps.atKey_put_same ho.isMap hkl]
  simp
 ·have hne:(Lit.int .i64 j)≠(Lit.int .i64 k):=by simp;omega
  rw [Maps.has_put_other hne,Maps.atKey_put_other hne];simp only [if_neg e];exact hk j j0 j64
theorem zm (l:List Cpu) (k:Nat):(λj=>if (l.getD k ae).core=j then some (l.getD k ae) else Ost.seen l k j)=Ost.seen l (k+1):=by
 funext j;rw [Ost.seen]
theorem eE {w:World} {a:Addr} {v:Value} (h:w.cell? a=some v) (o:Obj):(w.alloc o).cell? a=some v:=
 (((Q0 w.heap.size w).alloc (lR) o).cell (Q3 w _ h)).trans h
def fg (w:World) (l:List Cpu) (e:Ending) (w':World):Prop:=
 (fault l=0->∃ tb g c,e=.returned (.tuple #[.pointer (some ⟨tb,0,none⟩),.nilIface])/\aZ w' tb g 0 c l)/\(fault l≠0->e=.returned (.tuple #[.pointer none,.iface 121 (.int .i64 (fault l))]))/\Below w.heap.size w w'
theorem fg.bad {w w':World} {l:List Cpu} {f:Int} (hf:fault l=f) (h0:f≠0) (hb:Below w.heap.size w w'):fg w l (.returned (.tuple #[.pointer none,.iface 121 (.int .i64 f)])) w':=
 ⟨λh=>absurd (hf.symm.trans h) h0,λ_=>by rw [hf],hb⟩
theorem fg.good {w w':World} {l:List Cpu} {tb g c:Nat} (hf:fault l=0) (ht:aZ w' tb g 0 c l) (hb:Below w.heap.size w w'):fg w l (.returned (.tuple #[.pointer (some ⟨tb,0,none⟩),.nilIface])) w':=
 ⟨λ_=>⟨tb,g,c,rfl,ht⟩,λh=>absurd hf h,hb⟩
theorem zn (ao:Option Addr) (n c:Nat) (l:List Cpu) (w:World) (hl:l.length=n) (hn:n=0\/64<n) :
  Calls Tryz.prog 35 #[.slice ao n c] w λe w'=>fg w l e w':=by
 have HF:Hid (fault l=2):=by unfold Hid fault;rw [if_pos (by omega)]
 clear hl
 rcases hn with rfl|hn
 ·go_enter Tryz.func35,Tryz.ntmps35
  go_wp2
  go_ret2;exact fg.bad HF.out (by decide) (Q0 _ _)
 ·have h0:((n:Int) == 0)=false:=by simp;omega
  go_enter Tryz.func35,Tryz.ntmps35
  go_wp2
  go_ret2;exact fg.bad HF.out (by decide) (Q0 _ _)
theorem zo (b o c:Nat) (l:List Cpu) (w:World) (hc:fR w b o l) (hlb:b<w.heap.size) (h0:0<l.length) (h64:l.length<=64) :
  Calls Tryz.prog 35 #[.slice (some ⟨b,o,none⟩) l.length c] w λe w'=>fg w l e w':=by
 have hl0:((l.length:Int) == 0)=false:=by rw [Qr];omega
 have HC:=qI hc;have HLB:=qI hlb;have HM:=qI (eD.made w);have HB0:=qI ((Q0 w.heap.size w).alloc (lR) (.map #[] 0));have hmm:=@run_makeMap Tryz.prog;clear hc hlb
 go_enter Tryz.func35,Tryz.ntmps35
 go_wp2
 go_loopw [21] (λi wr=>∃ k:Nat,k<=l.length/\i=.int .i64 k/\Hid (cJ l k=0)/\eD wr w.heap.size k (Ost.seen l k)/\Below w.heap.size w wr) (λi _=>l.length - (intOf i).toNat)
 case atStart=>exact ⟨0,by omega,rfl,rfl,HM.out,HB0.out⟩
 case round=>
  obtain ⟨k,hk,rfl,HF,hM,hB⟩:=hrel
  by_cases hlt:k<l.length
  ·obtain ⟨hcell0,hcell1,hcell2⟩:=(HC.out.below HLB.out hB) k hlt;have HS:=qI (zm l k);have HBd:=qI (λhb=>Ost.qW l k 1 h0 h64 hlt HF.out (Ost.yI (l:=l) (k:=k) hb) (by decide));have HSh:=qI (λhb hc=>Ost.qW l k 3 h0 h64 hlt HF.out (Ost.yJ (l:=l) (k:=k) hb hc) (by decide));have HN:=qI (λhb hc=>Ost.yH (l:=l) (k:=k) HF.out hb hc);have HCn:=qI (λh=>Ost.yK (l:=l) (k:=k) (x:=l.getD k ae) h);have HCs:=qI (λy h=>Ost.yL (l:=l) (k:=k) (x:=l.getD k ae) (y:=y) HF.out h);generalize l.getD k ae=x at *;have hB1:=hB.alloc hB.size (.cells #[.int .i64 x.core,.int .i64 x.sock,.int .i64 x.node] 84);have hM1:=hM.alloc (.cells #[.int .i64 x.core,.int .i64 x.sock,.int .i64 x.node] 84);have hcx:=qI (show (wr.alloc (.cells #[.int .i64 x.core,.int .i64 x.sock,.int .i64 x.node] 84)).cell? ⟨wr.heap.size,0,none⟩=some (.int .i64 x.core)/\(wr.alloc (.cells #[.int .i64 x.core,.int .i64 x.sock,.int .i64 x.node] 84)).cell? ⟨wr.heap.size,1,none⟩=some (.int .i64 x.sock)/\(wr.alloc (.cells #[.int .i64 x.core,.int .i64 x.sock,.int .i64 x.node] 84)).cell? ⟨wr.heap.size,2,none⟩=some (.int .i64 x.node) by simp);clear hM
   go_wp2_with fail
   refine (za x _).mono ?_;rintro e w1 ⟨rfl,hb⟩;have hB2:=hB1.trans (hb.mono hB1.size);have hM2:=hM1.below hb hM1.lt;obtain ⟨p0,p1,p2⟩:=hcx.out;have q0:=(hb.cell (p:=⟨wr.heap.size,0,none⟩) (by simp)).trans p0;have q1:=(hb.cell (p:=⟨wr.heap.size,1,none⟩) (by simp)).trans p1;have q2:=(hb.cell (p:=⟨wr.heap.size,2,none⟩) (by simp)).trans p2;clear p0 p1 p2 hcx hM1 hB1 hb hB hcell0 hcell1 hcell2
   rcases two (inB x) with hi|hi
   ·rw [hi];obtain ⟨g0,g1,_⟩:=(Ost.lP x).1 hi
    rcases hs:Ost.seen l k x.core with _|y
    ·have hNx:Hid (cJ l (k+1)=0):=HN.out hi (HCn.out hs);have hB3:=hB2.alloc hB2.size (.cells #[.int .i64 ae.core,.int .i64 ae.sock,.int .i64 ae.node] 84);have hM3:=hM2.alloc (.cells #[.int .i64 ae.core,.int .i64 ae.sock,.int .i64 ae.node] 84);have r0:=eE q0 (.cells #[.int .i64 ae.core,.int .i64 ae.sock,.int .i64 ae.node] 84);have r1:=eE q1 (.cells #[.int .i64 ae.core,.int .i64 ae.sock,.int .i64 ae.node] 84);have r2:=eE q2 (.cells #[.int .i64 ae.core,.int .i64 ae.sock,.int .i64 ae.node] 84);have h1:Hid ((Ost.seen l k x.core).getD ae=ae):=by unfold Hid;rw [hs];rfl
     have h2:Hid ((Ost.seen l k x.core).isSome=false):=by unfold Hid;rw [hs];rfl
     clear q1 q2 hs hi
     go_wp2_with (first
      | (at_lookup;refine lX _ rfl _ _ rfl w.heap.size k (Ost.seen l k) x.core g0 g1 rfl rfl hM2 ae false h1.out h2.out ?_)
      | (at_mapUpdate;refine rh _ rfl _ _ _ rfl w.heap.size k (Ost.seen l k) x.core g0 g1 x rfl rfl rfl hM3 (by unfold maxLen;omega) ?_;intro w2 hM4 hgrow))
     go_roundw
     case rel=>exact ⟨k+1,by omega,by go_num,hNx,by rw [<- HS.out];exact hM4,hB3.grown hgrow hB3.size (λj hj=>by cases hj;exact lR)⟩
     case measure=>simp [intOf];omega
    ·by_cases hyx:y=x
     ·subst hyx;have hNx:Hid (cJ l (k+1)=0):=HN.out hi (by rw [HCs.out y hs];simp);have hB3:=hB2.alloc hB2.size (.cells #[.int .i64 y.core,.int .i64 y.sock,.int .i64 y.node] 84);have hM3:=hM2.alloc (.cells #[.int .i64 y.core,.int .i64 y.sock,.int .i64 y.node] 84);have r0:=eE q0 (.cells #[.int .i64 y.core,.int .i64 y.sock,.int .i64 y.node] 84);have r1:=eE q1 (.cells #[.int .i64 y.core,.int .i64 y.sock,.int .i64 y.node] 84);have r2:=eE q2 (.cells #[.int .i64 y.core,.int .i64 y.sock,.int .i64 y.node] 84);have h1:Hid ((Ost.seen l k y.core).getD ae=y):=by unfold Hid;rw [hs];rfl
      have h2:Hid ((Ost.seen l k y.core).isSome=true):=by unfold Hid;rw [hs];rfl
      clear q1 q2 hs hi
      go_wp2_with (first
       | (at_lookup;refine lX _ rfl _ _ rfl w.heap.size k (Ost.seen l k) y.core g0 g1 rfl rfl hM2 y true h1.out h2.out ?_)
       | (at_mapUpdate;refine rh _ rfl _ _ _ rfl w.heap.size k (Ost.seen l k) y.core g0 g1 y rfl rfl rfl hM3 (by unfold maxLen;omega) ?_;intro w2 hM4 hgrow))
      go_roundw
      case rel=>exact ⟨k+1,by omega,by go_num,hNx,by rw [<- HS.out];exact hM4,hB3.grown hgrow hB3.size (λj hj=>by cases hj;exact lR)⟩
      case measure=>simp [intOf];omega
     ·have hF:Hid (fault l=3):=HSh.out hi (by rw [HCs.out y hs];exact Qc hyx);have hyc:y.core=x.core:=by obtain ⟨_,_,_,h⟩:=Ost.qX hs;exact h
      have hne:(¬ y.sock=x.sock)\/(y.sock=x.sock/\¬ y.node=x.node):=by
       by_cases hsk:y.sock=x.sock
       ·refine .inr ⟨hsk,λhn=>hyx ?_⟩;cases y;cases x;simp_all
       ·exact .inl hsk
      have h1:Hid ((Ost.seen l k x.core).getD ae=y):=by unfold Hid;rw [hs];rfl
      have h2:Hid ((Ost.seen l k x.core).isSome=true):=by unfold Hid;rw [hs];rfl
      rcases hne with hsk|⟨hsk,hnd⟩
      ·have r0:=eE q0 (.cells #[.int .i64 x.core,.int .i64 y.sock,.int .i64 y.node] 84);have r1:=eE q1 (.cells #[.int .i64 x.core,.int .i64 y.sock,.int .i64 y.node] 84);have r2:=eE q2 (.cells #[.int .i64 x.core,.int .i64 y.sock,.int .i64 y.node] 84);clear q1 q2 hs hi hyx
       go_wp2_with (at_lookup;refine lX _ rfl _ _ rfl w.heap.size k (Ost.seen l k) x.core g0 g1 rfl rfl hM2 y true h1.out h2.out ?_)
       go_ret2;exact fg.bad hF.out (by decide) (hB2.alloc hB2.size _)
      ·have r0:=eE q0 (.cells #[.int .i64 x.core,.int .i64 x.sock,.int .i64 y.node] 84);have r1:=eE q1 (.cells #[.int .i64 x.core,.int .i64 x.sock,.int .i64 y.node] 84);have r2:=eE q2 (.cells #[.int .i64 x.core,.int .i64 x.sock,.int .i64 y.node] 84);clear q1 q2 hs hi hyx
       go_wp2_with (at_lookup;refine lX _ rfl _ _ rfl w.heap.size k (Ost.seen l k) x.core g0 g1 rfl rfl hM2 y true h1.out h2.out ?_)
       go_ret2;exact fg.bad hF.out (by decide) (hB2.alloc hB2.size _)
   ·have hF:Hid (fault l=1):=HBd.out hi;rw [hi];clear hi
    go_wp2
    go_ret2;exact fg.bad hF.out (by decide) hB2
  ·have hkl:k=l.length:=by omega
   have hF:Hid (fault l=0):=Ost.yG l h0 h64 (by rw [<- hkl];exact HF.out);have HX:=qI (zi b o c l wr (HC.out.below HLB.out hB) (Q1 HLB.out hB.size) h0 h64);clear hkl hM
   go_wp2_with fail
   refine HX.out.mono ?_;rintro e w1 ⟨g,c',rfl,hcl,hlt1,hb⟩;have hB1:=hB.trans (hb.mono hB.size);have HBx:=qI ((Q0 w1.heap.size w1).alloc (lR) (.cells #[.slice (some ⟨g,0,none⟩) l.length c'] 159));have hcl:=qI hcl;clear hb
   go_wp2
   go_ret2;exact fg.good (g:=g) (c:=c') hF.out ⟨by simp,hcl.out.below hlt1 HBx.out,Q1 hlt1 HBx.out.size,h64⟩ (hB1.trans (HBx.out.mono hB1.size))
end
section
open RowKit
open Ost (Cpu ae inB clash fx cJ fault)
end
section
open RowKit
open Ost (Cpu ae af fault)
theorem eN.cases {w:World} {ao:Option Addr} {l:List Cpu} {c:Nat} (h:eN w (.slice ao l.length c) l):(l.length=0\/64<l.length)\/∃ b o,ao=some ⟨b,o,none⟩/\fR w b o l/\b<w.heap.size/\0<l.length/\l.length<=64:=by
 by_cases hl:l.length=0\/64<l.length
 ·exact .inl hl
 ·rcases h with ⟨rfl,_⟩|⟨b,o,c',hv,hc⟩
  ·simp at hl
  ·simp only [Value.slice.injEq] at hv;exact .inr ⟨b,o,hv.1,hc,Q3 w _ (hc 0 (by omega)).1,by omega,by omega⟩
theorem zp (ao:Option Addr) (c:Nat) (l:List Cpu) (w:World) (hv:eN w (.slice ao l.length c) l) :
  Calls Tryz.prog 35 #[.slice ao l.length c] w λe w'=>fg w l e w':=by
 rcases hv.cases with h|⟨b,o,rfl,hc,hlb,h0,h64⟩
 ·exact zn ao l.length c l w rfl h
 ·exact zo b o c l w hc hlb h0 h64
theorem zr {l:List Cpu} (h:fault l=0):Good l:=by
 intro c hc
 have:=(Ost.lP c).1 ((Ost.yM h).2.2 c hc)
 omega
end
