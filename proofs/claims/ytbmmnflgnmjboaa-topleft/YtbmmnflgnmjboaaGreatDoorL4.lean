import Derived.Test.YtbmmnflgnmjboaaGreatDoorL2
import Derived.ProofKit
import Derived.OpenShut
import Derived.ChangeOld
import Derived.Deep.Strs
import Derived.Deep.Slices
import Derived.Carry
import Derived.JoinedOf
import Derived.JoinedAt
import Derived.Maps.OwnSet
set_option maxRecDepth 100000
set_option maxHeartbeats 16000000
namespace Go.Proofs.YtbmmnflgnmjboaaGreatDoor
section
open Go.RowKit
open Ost (Cpu ae br af iW iX eZ)
def fM (w:World) (b o:Nat) (l:List Cpu):Prop:=
 ∀ k,k<l.length->w.cell? ⟨b,o+k*3,none⟩=some (.int .i64 (l.getD k ae).core)/\w.cell? ⟨b,o+k*3+1,none⟩=some (.int .i64 (l.getD k ae).sock)/\w.cell? ⟨b,o+k*3+2,none⟩=some (.int .i64 (l.getD k ae).node)
def eM (w:World) (v:Value) (l:List Cpu):Prop:=
 (l=[]/\∃ ao c,v=.slice ao 0 c)\/∃ b o c,v=.slice (some ⟨b,o,none⟩) l.length c/\fM w b o l
theorem fM.below {w0 w w':World} {b o:Nat} {l:List Cpu} (h:fM w b o l) (hlt:b<w0.heap.size) (hb:Below w0.heap.size w w'):fM w' b o l:=by
 intro k hk;obtain ⟨h1,h2,h3⟩:=h k hk;exact ⟨(hb.cell (p:=⟨b,o+k*3,none⟩) hlt).trans h1,(hb.cell (p:=⟨b,o+k*3+1,none⟩) hlt).trans h2,(hb.cell (p:=⟨b,o+k*3+2,none⟩) hlt).trans h3⟩
theorem eM.below {w w':World} {v:Value} {l:List Cpu} (h:eM w v l) (hb:Below w.heap.size w w'):eM w' v l:=by
 rcases h with h|⟨b,o,c,hv,hc⟩
 ·exact .inl h
 ·refine .inr ⟨b,o,c,hv,λk hk=>?_⟩;obtain ⟨h1,h2,h3⟩:=hc k hk;have hlt:=World.block_lt_of_cell? w _ h1;exact ⟨(hb.cell (p:=⟨b,o+k*3,none⟩) hlt).trans h1,(hb.cell (p:=⟨b,o+k*3+1,none⟩) hlt).trans h2,(hb.cell (p:=⟨b,o+k*3+2,none⟩) hlt).trans h3⟩
def Good (l:List Cpu):Prop:=∀ c∈l,0<=c.core/\c.core<=63/\0<=c.sock/\c.sock<=63/\0<=c.node/\c.node<=3
theorem Good.at {l:List Cpu} (h:Good l) {k:Nat} (hk:k<l.length):0<=(l.getD k ae).node/\(l.getD k ae).node<=3:=by
 have:l.getD k ae∈l:=by simp [hk]
 have:=h _ this
 exact ⟨this.2.2.2.2.1,this.2.2.2.2.2⟩
def aQ (m:Nat) (c:Cpu):Bool:=m.testBit c.node.toNat
theorem qA (m n:Nat) (hm:m<256):(bits BinOp.and IntKind.u8 ((m:Int) / 2 ^ n) 1 == 1)=m.testBit n:=by
 have e:((m:Int) / 2 ^ n)=((m / 2 ^ n:Nat):Int):=by simp
 have hlt:m / 2 ^ n<256:=Nat.lt_of_le_of_lt (Nat.div_le_self _ _) hm;rw [e,Nat.testBit_eq_decide_div_mod_eq];generalize m / 2 ^ n=q at hlt;have key:∀ q:Fin 256,(bits BinOp.and IntKind.u8 ((q.val:Nat):Int) 1 == 1)=decide (q.val % 2=1):=by decide +kernel
 exact key ⟨q,hlt⟩
end
section
open Go.ChangeShapes Go.WideShapes Go.ChangeAt Go.RowKit
open Ost (Cpu ae)
theorem qB:Tryz.prog.cellsOf 84=3:=by kernel_rfl
theorem xS:Tryz.prog.cellsOf 3=1:=by kernel_rfl
instance:Inhabited Cpu:=⟨ae⟩
theorem xT {H:Type} {enc:TypeId × Value->H} {w:World} {base:Nat} {sp:Nat->Bool} {held:Bool} {fuel:Nat} {cs:List Value} {x:DataW H × List MemPlace}
  (h:DataW.trod enc Tryz.prog w base sp held fuel 84 cs=some x):∃ y:Cpu,cs=[.int .i64 y.core,.int .i64 y.sock,.int .i64 y.node]:=by
 obtain ⟨y0,y1,y2,n,_,hl,h0,h1,h2⟩:=Deep.trod_struct3 Tryz.underlying84 h;rw [qB] at hl;rw [xS] at h0 h1 h2
 match cs,hl with
 | [a,b,c],_=>
  obtain ⟨p,e0,_,_⟩:=DataW.trod_int Tryz.underlying3 h0;obtain ⟨q,e1,_,_⟩:=DataW.trod_int Tryz.underlying3 h1;obtain ⟨r,e2,_,_⟩:=DataW.trod_int Tryz.underlying3 h2
  simp at e0 e1 e2
  exact ⟨⟨p,q,r⟩,by rw [e0,e1,e2]⟩
theorem xU {H:Type} {enc:TypeId × Value->H} {W:World} {ao:Option Addr} {len cap:Nat} {d:DataW H} {p:List MemPlace}
  (h:DataW.Trod enc Tryz.prog W 0 (λ_=>true) true 22 (.slice ao len cap) d p):∃ l:List Cpu,l.length=len/\eM W (.slice ao l.length cap) l:=by
 obtain ⟨fuel,hf⟩:=h
 rcases Deep.open_slice Tryz.underlying22 hf with ⟨hcs,_⟩|⟨a,len',cap',m,n,D,Pl,hcs,_,hl,hm,hmm,_,hx⟩
 ·simp [Value.cells] at hcs
  obtain ⟨rfl,rfl,rfl⟩:=hcs;exact ⟨[],rfl,.inl ⟨rfl,none,0,rfl⟩⟩
 ·simp [Value.cells] at hcs
  obtain ⟨rfl,rfl,rfl⟩:=hcs;rw [if_pos rfl] at hmm;subst hmm;rw [qB] at hx;obtain ⟨f,hfx⟩:=Deep.choose_lt (α:=Cpu) (n:=len) (p:=λi y=>W.cell? (a.add (i*3))=some (.int .i64 y.core)/\W.cell? (a.add (i*3+1))=some (.int .i64 y.sock)/\W.cell? (a.add (i*3+2))=some (.int .i64 y.node)) (λi hi=>by
   obtain ⟨cs',h1,h2⟩:=hx i (by omega);obtain ⟨y,rfl⟩:=xT h2;obtain ⟨_,_,hc⟩:=World.cells?_some h1;have e0:=hc 0 (by omega);have e1:=hc 1 (by omega);have e2:=hc 2 (by omega);rw [Deep.add_add] at e0 e1 e2;exact ⟨y,by simpa using e0,by simpa using e1,by simpa using e2⟩)
  refine ⟨(List.range len).map f,by simp,?_⟩
  by_cases hn0:len=0
  ·subst hn0;exact .inl ⟨rfl,_,_,rfl⟩
  ·obtain ⟨b,off,spot⟩:=a;have hc:=(hfx 0 (by omega)).1;have hspot:spot=none:=by simpa [Addr.add] using World.cell?_spot hc
   subst hspot;refine .inr ⟨b,off,_,rfl,λk hk=>?_⟩;have hk':k<len:=by simpa using hk
   obtain ⟨h0,h1,h2⟩:=hfx k hk';rw [Addr.add_lit] at h0 h1 h2;have e:((List.range len).map f).getD k ae=f k:=by simp [hk']
   rw [e];exact ⟨h0,by rw [Nat.add_assoc];exact h1,by rw [Nat.add_assoc];exact h2⟩
end
section
namespace Ost
def inB (c:Cpu):Bool:=decide (0<=c.core) && decide (c.core<64) && (decide (0<=c.sock) && decide (c.sock<64)) && (decide (0<=c.node) && decide (c.node<4))
theorem lB (c:Cpu):inB c=true↔0<=c.core/\c.core<64/\0<=c.sock/\c.sock<64/\0<=c.node/\c.node<4:=by
 simp only [inB,Bool.and_eq_true,decide_eq_true_eq];omega
def clash (a c:Cpu):Bool:=decide (a.core=c.core) && decide (a≠c)
def fw (l:List Cpu) (c:Cpu):Nat->Bool
 | 0=>false
 | k+1=>fw l c k || clash (l.getD k ae) c
theorem nz (l:List Cpu) (c:Cpu) (k:Nat):fw l c k=true↔∃ j,j<k/\clash (l.getD j ae) c=true:=by
 induction k with
 | zero=>simp [fw]
 | succ k ih=>
  rw [fw,Bool.or_eq_true,ih];constructor
  ·rintro (⟨j,hj,h⟩|h)
   ·exact ⟨j,by omega,h⟩
   ·exact ⟨k,by omega,h⟩
  ·rintro ⟨j,hj,h⟩
   by_cases e:j=k
   ·subst e;exact .inr h
   ·exact .inl ⟨j,by omega,h⟩
def gz (l:List Cpu) (i:Nat):Int:=if inB (l.getD i ae) then (if fw l (l.getD i ae) i then 3 else 0) else 1
def cH (l:List Cpu):Nat->Int
 | 0=>0
 | k+1=>if cH l k=0 then gz l k else cH l k
def fault (l:List Cpu):Int:=if l.length=0\/64<l.length then 2 else cH l l.length
theorem xV (l:List Cpu) (i k:Nat) (f:Int) (hf:f≠0) (h:cH l i=f):cH l (i+k)=f:=by
 induction k with
 | zero=>exact h
 | succ k ih=>
  show cH l ((i+k)+1)=f
  rw [cH,ih,if_neg hf]
theorem qC (l:List Cpu) (k:Nat) (h:cH l k=0):∀ j,j<k->gz l j=0:=by
 induction k with
 | zero=>intro j hj;omega
 | succ k ih=>
  rw [cH] at h
  by_cases h0:cH l k=0
  ·rw [if_pos h0] at h;intro j hj
   by_cases e:j=k
   ·subst e;exact h
   ·exact ih h0 j (by omega)
  ·rw [if_neg h0] at h;exact absurd h h0
theorem qD (l:List Cpu) (i:Nat) (f:Int) (h0:0<l.length) (h64:l.length<=64) (hi:i<l.length) (hp:cH l i=0) (ha:gz l i=f) (hf:f≠0):fault l=f:=by
 unfold fault;rw [if_neg (by omega)]
 have:cH l (i+1)=f:=by rw [cH,if_pos hp,ha]
 have:=xV l (i+1) (l.length - (i+1)) f hf this
 rwa [show i+1+(l.length - (i+1))=l.length by omega] at this
theorem xW (l:List Cpu) (h0:0<l.length) (h64:l.length<=64) (hp:cH l l.length=0):fault l=0:=by
 unfold fault;rw [if_neg (by omega)];exact hp
theorem xX {l:List Cpu} {k:Nat} (h:cH l k=0) (hb:inB (l.getD k ae)=true) (hc:fw l (l.getD k ae) k=false):cH l (k+1)=0:=by
 rw [cH,if_pos h,gz,if_pos hb,if_neg (by rw [hc];simp)]
theorem xY {l:List Cpu} {k:Nat} (hb:inB (l.getD k ae)=false):gz l k=1:=by rw [gz,if_neg (by rw [hb];simp)]
theorem xZ {l:List Cpu} {k:Nat} (hb:inB (l.getD k ae)=true) (hc:fw l (l.getD k ae) k=true):gz l k=3:=by
 rw [gz,if_pos hb,if_pos hc]
def seen (l:List Cpu):Nat->Int->Option Cpu
 | 0,_=>none
 | k+1,c=>if (l.getD k ae).core=c then some (l.getD k ae) else seen l k c
theorem qE {l:List Cpu} {k:Nat} {c:Int} {x:Cpu} (h:seen l k c=some x):∃ j,j<k/\l.getD j ae=x/\x.core=c:=by
 induction k with
 | zero=>simp [seen] at h
 | succ k ih=>
  rw [seen] at h
  by_cases e:(l.getD k ae).core=c
  ·rw [if_pos e] at h;simp only [Option.some.injEq] at h;exact ⟨k,by omega,h,by rw [<- h];exact e⟩
  ·rw [if_neg e] at h;obtain ⟨j,hj,r⟩:=ih h;exact ⟨j,by omega,r⟩
theorem seen_none {l:List Cpu} {k:Nat} {c:Int} (h:seen l k c=none):∀ j,j<k->(l.getD j ae).core≠c:=by
 induction k with
 | zero=>intro j hj;omega
 | succ k ih=>
  rw [seen] at h
  by_cases e:(l.getD k ae).core=c
  ·rw [if_pos e] at h;cases h
  ·rw [if_neg e] at h;intro j hj
   by_cases ej:j=k
   ·subst ej;exact e
   ·exact ih h j (by omega)
theorem ya {l:List Cpu} {k:Nat} {x:Cpu} (h:seen l k x.core=none):fw l x k=false:=by
 rw [Bool.eq_false_iff];intro hc;obtain ⟨j,hj,h2⟩:=(nz l x k).1 hc;simp only [clash,Bool.and_eq_true,decide_eq_true_eq] at h2;exact seen_none h j hj h2.1
theorem yb {l:List Cpu} {k:Nat} {x y:Cpu} (hf:cH l k=0) (h:seen l k x.core=some y):fw l x k=decide (y≠x):=by
 obtain ⟨j,hj,hy,hyc⟩:=qE h;rw [Bool.eq_iff_iff,nz,decide_eq_true_eq];constructor
 ·rintro ⟨i,hi,h2⟩;simp only [clash,Bool.and_eq_true,decide_eq_true_eq] at h2;intro e
  by_cases hij:i=j
  ·subst hij;rw [hy] at h2;exact h2.2 e
  ·have key:∀ a b,a<b->b<k->(l.getD a ae).core=(l.getD b ae).core->l.getD a ae=l.getD b ae:=by
    intro a b hab hb hc;have h0:=qC l k hf b hb;unfold gz at h0
    by_cases hB:inB (l.getD b ae)=true
    ·rw [if_pos hB] at h0
     by_cases hC:fw l (l.getD b ae) b=true
     ·rw [if_pos hC] at h0;cases h0
     ·apply Classical.byContradiction;intro hne;exact hC ((nz _ _ _).2 ⟨a,hab,by simp only [clash,Bool.and_eq_true,decide_eq_true_eq];exact ⟨hc,hne⟩⟩)
    ·rw [if_neg hB] at h0;cases h0
   have:l.getD i ae=l.getD j ae:=by
    rcases Nat.lt_or_gt_of_ne hij with q|q
    ·exact key i j q hj (by rw [h2.1,hy,hyc])
    ·exact (key j i q hi (by rw [h2.1,hy,hyc])).symm
   rw [this,hy] at h2;exact h2.2 e
 ·intro hne;exact ⟨j,hj,by simp only [clash,Bool.and_eq_true,decide_eq_true_eq];rw [hy];exact ⟨hyc,hne⟩⟩
theorem yc {l:List Cpu} (h:fault l=0):0<l.length/\l.length<=64/\∀ c∈l,inB c=true:=by
 unfold fault at h
 by_cases hl:l.length=0\/64<l.length
 ·rw [if_pos hl] at h;cases h
 ·rw [if_neg hl] at h;refine ⟨by omega,by omega,λc hc=>?_⟩;obtain ⟨i,hi,rfl⟩:=List.getElem_of_mem hc;have h0:=qC l _ h i hi;have e:l.getD i ae=l[i]:=by simp [hi]
  unfold gz at h0;rw [e] at h0
  by_cases hB:inB l[i]=true
  ·exact hB
  ·rw [if_neg hB] at h0;cases h0
end Ost
end
section
open Go.RowKit
theorem m0:Ost.M0 8=6148914691236517205:=by decide +kernel
theorem m1:Ost.M1 8=3689348814741910323:=by decide +kernel
theorem m2:Ost.M2 8=1085102592571150095:=by decide +kernel
theorem fL (a:Nat) (m:Nat) (ha:a<18446744073709551616) (hm:m<18446744073709551616) (z:Int) (hz:z=(a:Int)):bits BinOp.and IntKind.u64 z (m:Int)=((a &&& m:Nat):Int):=by
 rw [hz];exact bits_and_u64_nat a m ha hm
theorem wrapN (n:Nat) (z:Int) (hz:z=(n:Int)) (h:n<18446744073709551616):IntKind.u64.wrap z=(n:Int):=by
 rw [IntKind.wrap_u64,hz];omega
theorem m8 (A:Nat) (hA:A<18446744073709551616):IntKind.u64.wrap (bits BinOp.and IntKind.u64 ((A:Int) / 2) 6148914691236517205+bits BinOp.and IntKind.u64 (A:Int) 6148914691236517205)=((Ost.p1 8 A:Nat):Int)/\Ost.p1 8 A<18446744073709551616:=by
 have e1:=fL (A / 2) 6148914691236517205 (by omega) (by omega) ((A:Int) / 2) (by omega);have e2:=fL A 6148914691236517205 hA (by omega) (A:Int) rfl;have l1:A / 2 &&& 6148914691236517205<=6148914691236517205:=Nat.and_le_right;have l2:A &&& 6148914691236517205<=6148914691236517205:=Nat.and_le_right;have hp:Ost.p1 8 A=(A / 2 &&& 6148914691236517205)+(A &&& 6148914691236517205):=by unfold Ost.p1;rw [m0]
 rw [hp];refine ⟨?_,by omega⟩;apply wrapN _ _ _ (by omega);rw [show (6148914691236517205:Int)=((6148914691236517205:Nat):Int) from rfl,e1,e2];omega
theorem m9 (x:Nat) (hx:x<18446744073709551616):IntKind.u64.wrap (bits BinOp.and IntKind.u64 ((x:Int) / 4) 3689348814741910323+bits BinOp.and IntKind.u64 (x:Int) 3689348814741910323)=((Ost.p2 8 x:Nat):Int)/\Ost.p2 8 x<=7378697629483820646:=by
 have e1:=fL (x / 4) 3689348814741910323 (by omega) (by omega) ((x:Int) / 4) (by omega);have e2:=fL x 3689348814741910323 hx (by omega) (x:Int) rfl;have l1:x / 4 &&& 3689348814741910323<=3689348814741910323:=Nat.and_le_right;have l2:x &&& 3689348814741910323<=3689348814741910323:=Nat.and_le_right;have hp:Ost.p2 8 x=(x / 4 &&& 3689348814741910323)+(x &&& 3689348814741910323):=by unfold Ost.p2;rw [m1]
 rw [hp];refine ⟨?_,by omega⟩;apply wrapN _ _ _ (by omega);rw [show (3689348814741910323:Int)=((3689348814741910323:Nat):Int) from rfl,e1,e2];omega
theorem nh (x:Nat) (hx:x<=7378697629483820646):bits BinOp.and IntKind.u64 (IntKind.u64.wrap ((x:Int) / 16+(x:Int))) 1085102592571150095=((Ost.p3 8 x:Nat):Int):=by
 have hw:=wrapN (x / 16+x) ((x:Int) / 16+(x:Int)) (by omega) (by omega);rw [hw];have hp:Ost.p3 8 x=(x / 16+x) &&& 1085102592571150095:=by unfold Ost.p3;rw [m2]
 rw [hp];exact fL (x / 16+x) 1085102592571150095 (by omega) (by omega) _ rfl
def aS (a b c d e f g h:Nat):Nat:=a+256*(b+256*(c+256*(d+256*(e+256*(f+256*(g+256*h))))))
theorem gY (a b c d e f g h:Nat) (_ha:a<=64) (_hb:b<=64) (_hc:c<=64) (_hd:d<=64) (_he:e<=64) (_hf:f<=64) (_hg:g<=64) (_hh:h<=64):aS a b c d e f g h<4700000000000000000:=by unfold aS;omega
theorem sh8 (a b c d e f g h:Nat) (_ha:a<=8) (_hb:b<=8) (_hc:c<=8) (_hd:d<=8) (_he:e<=8) (_hf:f<=8) (_hg:g<=8) (_hh:h<=8) :
  aS a b c d e f g h+aS a b c d e f g h / 256=aS (a+b) (b+c) (c+d) (d+e) (e+f) (f+g) (g+h) h:=by
 have:aS a b c d e f g h / 256=b+256*(c+256*(d+256*(e+256*(f+256*(g+256*h))))):=by unfold aS;omega
 rw [this];unfold aS;omega
theorem ni (a b c d e f g h:Nat) (_ha:a<=16) (_hb:b<=16) (_hc:c<=16) (_hd:d<=16) (_he:e<=16) (_hf:f<=16) (_hg:g<=16) (_hh:h<=16) :
  aS a b c d e f g h+aS a b c d e f g h / 65536=aS (a+c) (b+d) (c+e) (d+f) (e+g) (f+h) g h:=by
 have:aS a b c d e f g h / 65536=c+256*(d+256*(e+256*(f+256*(g+256*h)))):=by unfold aS;omega
 rw [this];unfold aS;omega
theorem nj (a b c d e f g h:Nat) (_ha:a<=32) (_hb:b<=32) (_hc:c<=32) (_hd:d<=32) (_he:e<=32) (_hf:f<=32) (_hg:g<=32) (_hh:h<=32) :
  aS a b c d e f g h+aS a b c d e f g h / 4294967296=aS (a+e) (b+f) (c+g) (d+h) e f g h:=by
 have:aS a b c d e f g h / 4294967296=e+256*(f+256*(g+256*h)):=by unfold aS;omega
 rw [this];unfold aS;omega
theorem nk (a b c d e f g h:Nat) (_ha:a<=64):aS a b c d e f g h % 128=a:=by unfold aS;omega
theorem steps (A:Nat) (hA:A<18446744073709551616):∃ x1 x2 X Y Z V:Nat,
  IntKind.u64.wrap (bits BinOp.and IntKind.u64 ((A:Int) / 2) 6148914691236517205+bits BinOp.and IntKind.u64 (A:Int) 6148914691236517205)=(x1:Int)/\
  IntKind.u64.wrap (bits BinOp.and IntKind.u64 ((x1:Int) / 4) 3689348814741910323+bits BinOp.and IntKind.u64 (x1:Int) 3689348814741910323)=(x2:Int)/\
  bits BinOp.and IntKind.u64 (IntKind.u64.wrap ((x2:Int) / 16+(x2:Int))) 1085102592571150095=(X:Int)/\
  IntKind.u64.wrap ((X:Int)+(X:Int) / 256)=(Y:Int)/\IntKind.u64.wrap ((Y:Int)+(Y:Int) / 65536)=(Z:Int)/\IntKind.u64.wrap ((Z:Int)+(Z:Int) / 4294967296)=(V:Int)/\
  V % 128=(Ost.aI A 64).length/\V<4700000000000000000:=by
 obtain ⟨a,b,c,d,e,f,g,h,ha,hb,hc,hd,he,hf,hg,hh,hX,hS⟩:=Ost.qm A;have h1:=m8 A hA;have h2:=m9 (Ost.p1 8 A) h1.2;have h3:=nh (Ost.p2 8 (Ost.p1 8 A)) h2.2;have hX2:Ost.p3 8 (Ost.p2 8 (Ost.p1 8 A))=aS a b c d e f g h:=hX;rw [hX2] at h3;have l1:=gY a b c d e f g h (by omega) (by omega) (by omega) (by omega) (by omega) (by omega) (by omega) (by omega);have s1:=sh8 a b c d e f g h ha hb hc hd he hf hg hh;have l2:=gY (a+b) (b+c) (c+d) (d+e) (e+f) (f+g) (g+h) h (by omega) (by omega) (by omega) (by omega) (by omega) (by omega) (by omega) (by omega);have s2:=ni (a+b) (b+c) (c+d) (d+e) (e+f) (f+g) (g+h) h (by omega) (by omega) (by omega) (by omega) (by omega) (by omega) (by omega) (by omega);have l3:=gY (a+b+(c+d)) (b+c+(d+e)) (c+d+(e+f)) (d+e+(f+g)) (e+f+(g+h)) (f+g+h) (g+h) h (by omega) (by omega) (by omega) (by omega) (by omega) (by omega) (by omega) (by omega);have s3:=nj (a+b+(c+d)) (b+c+(d+e)) (c+d+(e+f)) (d+e+(f+g)) (e+f+(g+h)) (f+g+h) (g+h) h (by omega) (by omega) (by omega) (by omega) (by omega) (by omega) (by omega) (by omega);have l4:=gY (a+b+(c+d)+(e+f+(g+h))) (b+c+(d+e)+(f+g+h)) (c+d+(e+f)+(g+h)) (d+e+(f+g)+h) (e+f+(g+h)) (f+g+h) (g+h) h (by omega) (by omega) (by omega) (by omega) (by omega) (by omega) (by omega) (by omega);refine ⟨_,_,_,aS (a+b) (b+c) (c+d) (d+e) (e+f) (f+g) (g+h) h,aS (a+b+(c+d)) (b+c+(d+e)) (c+d+(e+f)) (d+e+(f+g)) (e+f+(g+h)) (f+g+h) (g+h) h,_,h1.1,h2.1,h3,?_,?_,?_,nk (a+b+(c+d)+(e+f+(g+h))) (b+c+(d+e)+(f+g+h)) (c+d+(e+f)+(g+h)) (d+e+(f+g)+h) (e+f+(g+h)) (f+g+h) (g+h) h (by omega) |>.trans (by rw [hS];omega),l4⟩
 ·exact wrapN _ _ (by rw [<- s1];simp) (by omega)
 ·exact wrapN _ _ (by rw [<- s2];simp) (by omega)
 ·exact wrapN _ _ (by rw [<- s3];simp) (by omega)
theorem nl (A:Nat) (w:World) (hA:A<18446744073709551616) :
  Calls Tryz.prog 44 #[.int .u64 A] w λe w'=>e=.returned (.int .i64 ((Ost.aI A 64).length:Nat))/\w'=w:=by
 obtain ⟨x1,x2,X,Y,Z,V,r1,r2,r3,r4,r5,r6,e,hV⟩:=steps A hA;have HE:=qI e;clear e
 go_enter Tryz.func44,Tryz.ntmps44
 go_wp2_with fail
 go_ret;refine ⟨?_,rfl⟩;have e:bits BinOp.and IntKind.i64 (V:Int) 127=((Ost.aI A 64).length:Nat):=by
  rw [i64_and127];have:=HE.out;omega
 exact congrArg (λz=>Ending.returned (.int .i64 z)) e
theorem fO (A:Nat) (w:World) (hA:A<18446744073709551616) :
  Calls Tryz.prog 17 #[.int .u64 A] w λe w'=>e=.returned (.int .i64 ((Ost.aI A 64).length:Nat))/\w'=w:=by
 go_enter Tryz.func17,Tryz.ntmps17
 go_wp2_with fail
 refine (nl A _ hA).mono ?_;rintro e w' ⟨rfl,rfl⟩
 go_wp2_with fail
 go_ret;exact ⟨rfl,rfl⟩
end
section
open Go.RowKit
open Ost (Cpu ae br af iW iX eZ)
def aC (_:Cpu):Bool:=true
structure aY (w:World) (tb b o c:Nat) (l:List Cpu):Prop where
 cell:w.cell? ⟨tb,0,none⟩=some (.slice (some ⟨b,o,none⟩) l.length c)
 cells:fM w b o l
 lt:b<w.heap.size
 len:l.length<=64
theorem aY.tlt {w:World} {tb b o c:Nat} {l:List Cpu} (h:aY w tb b o c l):tb<w.heap.size:=World.block_lt_of_cell? w _ h.cell
theorem aY.below {w w':World} {tb b o c:Nat} {l:List Cpu} (h:aY w tb b o c l) (hb:Below w.heap.size w w'):aY w' tb b o c l:=
 ⟨(hb.cell (p:=⟨tb,0,none⟩) h.tlt).trans h.cell,h.cells.below h.lt hb,Nat.lt_of_lt_of_le h.lt hb.size,h.len⟩
theorem ye (x:Cpu) (w:World) :
  Calls Tryz.prog 72 #[.agg #[.int .i64 x.core,.int .i64 x.sock,.int .i64 x.node]] w λe w'=>e=.returned (.bool (aC x))/\Below w.heap.size w w':=by
 
 go_enter Tryz.func72,Tryz.ntmps72
 go_wp2_with fail
 go_ret;exact ⟨rfl,(Below.refl _ _).alloc (lR) _⟩
theorem yf (tb b o c:Nat) (l:List Cpu) (w:World) (ht:aY w tb b o c l) :
  Calls Tryz.prog 71 #[.pointer (some ⟨tb,0,none⟩),.func (.func 72) #[] #[]] w λe w'=>e=.returned (.int .u64 (af aC l:Nat))/\Below w.heap.size w w':=by
 have HC:=qI ht.cells;have hT:=ht.cell;have HLB:=qI ht.lt;have hl:=ht.len;clear ht
 
 go_enter Tryz.func71,Tryz.ntmps71
 go_wp2_with fail
 go_loopw [5,13] (λt i wr=>∃ k:Nat,k<=l.length/\i=.int .i64 k/\t=.int .u64 (br aC l k:Nat)/\Below w.heap.size w wr) (λ_ i _=>l.length - (intOf i).toNat)
 case atStart=>exact ⟨0,by omega,rfl,rfl,Below.refl _ _⟩
 case round=>
  obtain ⟨k,hk,rfl,rfl,hB⟩:=hrel
  by_cases hlt:k<l.length
  ·obtain ⟨hcell0,hcell1,hcell2⟩:=(HC.out.below HLB.out hB) k hlt
   
   have HY:=qI (λh=>iW (p:=aC) (l:=l) (k:=k) h);have HN:=qI (λh=>iX (p:=aC) (l:=l) (k:=k) h);have HL:=qI (eZ aC l k (by omega));generalize l.getD k ae=x at *;have hB1:=hB.alloc hB.size (.cells #[.int .i64 x.core,.int .i64 x.sock,.int .i64 x.node] 84)
   go_wp2_with fail
   refine (ye x _).mono ?_;rintro e w1 ⟨rfl,hb⟩;have hB2:=hB1.trans (hb.mono hB1.size);clear hB1 hb
   rcases two (aC x) with hb|hb
   ·have HO:Hid (bits BinOp.or IntKind.u64 (br aC l k:Nat) (IntKind.u64.wrap (2 ^ k))=((br aC l (k+1):Nat):Int)):=by
     unfold Hid;rw [kg _ _ HL.out (by omega),HY.out hb]
    rw [hb];clear hb
    go_wp2_with fail
    go_roundw
    case rel=>exact ⟨k+1,by omega,by go_num,by rw [<- HO.out],hB2⟩
    case measure=>simp [intOf];omega
   ·have HO:Hid (br aC l k=br aC l (k+1)):=(HN.out hb).symm;rw [hb];clear hb
    go_wp2_with fail
    go_roundw
    case rel=>exact ⟨k+1,by omega,by go_num,by rw [<- HO.out],hB2⟩
    case measure=>simp [intOf];omega
  ·have hkl:k=l.length:=by omega
   have H:Hid (br aC l k=af aC l):=by unfold Hid;rw [hkl];rfl
   clear hkl
   go_wp2_with fail
   go_ret;exact ⟨congrArg (λz:Nat=>Ending.returned (.int .u64 z)) H.out,hB⟩
theorem gA (tb b o c:Nat) (l:List Cpu) (w:World) (ht:aY w tb b o c l) :
  Calls Tryz.prog 36 #[.pointer (some ⟨tb,0,none⟩)] w λe w'=>e=.returned (.int .u64 (af aC l:Nat))/\Below w.heap.size w w':=by
 
 go_enter Tryz.func36,Tryz.ntmps36
 go_wp2_with fail
 refine (yf tb b o c l w ht).mono ?_;rintro e w1 ⟨rfl,hb⟩
 go_wp2_with fail
 go_ret;exact ⟨rfl,hb⟩
theorem yg (x:Cpu) (n:Int) (B:Nat) (w:World) (hn:w.cell? ⟨B,0,none⟩=some (.int .i64 n)) :
  Calls Tryz.prog 248 #[.agg #[.int .i64 x.core,.int .i64 x.sock,.int .i64 x.node],.pointer (some ⟨B,0,none⟩)] w λe w'=>e=.returned (.bool ((λx=>x.core == n) x))/\Below w.heap.size w w':=by
 have hn1:=(((Below.refl w.heap.size w).alloc (lR) (.cells #[.int .i64 x.core,.int .i64 x.sock,.int .i64 x.node] 84)).cell (p:=⟨B,0,none⟩) (World.block_lt_of_cell? w _ hn)).trans hn;clear hn
 go_enter Tryz.func248,Tryz.ntmps248
 go_wp2_with fail
 go_ret;exact ⟨rfl,(Below.refl _ _).alloc (lR) _⟩
theorem yh (n:Int) (B tb b o c:Nat) (l:List Cpu) (w:World) (ht:aY w tb b o c l) (hn:w.cell? ⟨B,0,none⟩=some (.int .i64 n)) :
  Calls Tryz.prog 71 #[.pointer (some ⟨tb,0,none⟩),.func (.func 248) #[] #[.pointer (some ⟨B,0,none⟩)]] w λe w'=>e=.returned (.int .u64 (af (λx=>x.core == n) l:Nat))/\Below w.heap.size w w':=by
 have HC:=qI ht.cells;have hT:=ht.cell;have HLB:=qI ht.lt;have hl:=ht.len;clear ht;have HN0:=qI hn;have HBl:=qI (World.block_lt_of_cell? w _ hn);clear hn
 go_enter Tryz.func71,Tryz.ntmps71
 go_wp2_with fail
 go_loopw [5,13] (λt i wr=>∃ k:Nat,k<=l.length/\i=.int .i64 k/\t=.int .u64 (br (λx=>x.core == n) l k:Nat)/\Below w.heap.size w wr) (λ_ i _=>l.length - (intOf i).toNat)
 case atStart=>exact ⟨0,by omega,rfl,rfl,Below.refl _ _⟩
 case round=>
  obtain ⟨k,hk,rfl,rfl,hB⟩:=hrel
  by_cases hlt:k<l.length
  ·obtain ⟨hcell0,hcell1,hcell2⟩:=(HC.out.below HLB.out hB) k hlt;have hcn:=(hB.cell (p:=⟨B,0,none⟩) HBl.out).trans HN0.out;have hcn1:=qI ((((Below.refl wr.heap.size wr).alloc (lR) (.cells #[.int .i64 (l.getD k ae).core,.int .i64 (l.getD k ae).sock,.int .i64 (l.getD k ae).node] 84)).cell (p:=⟨B,0,none⟩) (World.block_lt_of_cell? wr _ hcn)).trans hcn);clear hcn;have HY:=qI (λh=>iW (p:=(λx=>x.core == n)) (l:=l) (k:=k) h);have HN:=qI (λh=>iX (p:=(λx=>x.core == n)) (l:=l) (k:=k) h);have HL:=qI (eZ (λx=>x.core == n) l k (by omega));generalize l.getD k ae=x at *;have hB1:=hB.alloc hB.size (.cells #[.int .i64 x.core,.int .i64 x.sock,.int .i64 x.node] 84)
   go_wp2_with fail
   refine (yg x n B _ hcn1.out).mono ?_;rintro e w1 ⟨rfl,hb⟩;have hB2:=hB1.trans (hb.mono hB1.size);clear hB1 hb
   rcases two ((λx=>x.core == n) x) with hb|hb
   ·have HO:Hid (bits BinOp.or IntKind.u64 (br (λx=>x.core == n) l k:Nat) (IntKind.u64.wrap (2 ^ k))=((br (λx=>x.core == n) l (k+1):Nat):Int)):=by
     unfold Hid;rw [kg _ _ HL.out (by omega),HY.out hb]
    rw [hb];clear hb
    go_wp2_with fail
    go_roundw
    case rel=>exact ⟨k+1,by omega,by go_num,by rw [<- HO.out],hB2⟩
    case measure=>simp [intOf];omega
   ·have HO:Hid (br (λx=>x.core == n) l k=br (λx=>x.core == n) l (k+1)):=(HN.out hb).symm;rw [hb];clear hb
    go_wp2_with fail
    go_roundw
    case rel=>exact ⟨k+1,by omega,by go_num,by rw [<- HO.out],hB2⟩
    case measure=>simp [intOf];omega
  ·have hkl:k=l.length:=by omega
   have H:Hid (br (λx=>x.core == n) l k=af (λx=>x.core == n) l):=by unfold Hid;rw [hkl];rfl
   clear hkl
   go_wp2_with fail
   go_ret;exact ⟨congrArg (λz:Nat=>Ending.returned (.int .u64 z)) H.out,hB⟩
theorem qF (tb b o c:Nat) (l:List Cpu) (n:Int) (w:World) (ht:aY w tb b o c l) :
  Calls Tryz.prog 206 #[.pointer (some ⟨tb,0,none⟩),.int .i64 n] w λe w'=>e=.returned (.int .u64 (af (λx=>x.core == n) l:Nat))/\Below w.heap.size w w':=by
 have hmf:∀ (fn:Fn) (first cap:Array Value) (w:World),(Instr.makeFunc fn first cap).run Tryz.prog w=.ok (.func fn first cap) w:=λ_ _ _ _=>rfl
 have hB0:=(Below.refl w.heap.size w).alloc (lR) (.cells #[.int .i64 n] 3);have ht1:=ht.below hB0;have hcn:=qI (show (w.alloc (.cells #[.int .i64 n] 3)).cell? ⟨w.heap.size,0,none⟩=some (.int .i64 n) by simp);clear ht
 go_enter Tryz.func206,Tryz.ntmps206
 go_wp2_with fail
 refine (yh n w.heap.size tb b o c l _ ht1 hcn.out).mono ?_;rintro e w1 ⟨rfl,hb⟩
 go_wp2_with fail
 go_ret;exact ⟨rfl,hB0.trans (hb.mono hB0.size)⟩
theorem yi (x:Cpu) (n:Int) (B:Nat) (w:World) (hn:w.cell? ⟨B,0,none⟩=some (.int .i64 n)) :
  Calls Tryz.prog 247 #[.agg #[.int .i64 x.core,.int .i64 x.sock,.int .i64 x.node],.pointer (some ⟨B,0,none⟩)] w λe w'=>e=.returned (.bool ((λx=>x.sock == n) x))/\Below w.heap.size w w':=by
 have hn1:=(((Below.refl w.heap.size w).alloc (lR) (.cells #[.int .i64 x.core,.int .i64 x.sock,.int .i64 x.node] 84)).cell (p:=⟨B,0,none⟩) (World.block_lt_of_cell? w _ hn)).trans hn;clear hn
 go_enter Tryz.func247,Tryz.ntmps247
 go_wp2_with fail
 go_ret;exact ⟨rfl,(Below.refl _ _).alloc (lR) _⟩
theorem yj (n:Int) (B tb b o c:Nat) (l:List Cpu) (w:World) (ht:aY w tb b o c l) (hn:w.cell? ⟨B,0,none⟩=some (.int .i64 n)) :
  Calls Tryz.prog 71 #[.pointer (some ⟨tb,0,none⟩),.func (.func 247) #[] #[.pointer (some ⟨B,0,none⟩)]] w λe w'=>e=.returned (.int .u64 (af (λx=>x.sock == n) l:Nat))/\Below w.heap.size w w':=by
 have HC:=qI ht.cells;have hT:=ht.cell;have HLB:=qI ht.lt;have hl:=ht.len;clear ht;have HN0:=qI hn;have HBl:=qI (World.block_lt_of_cell? w _ hn);clear hn
 go_enter Tryz.func71,Tryz.ntmps71
 go_wp2_with fail
 go_loopw [5,13] (λt i wr=>∃ k:Nat,k<=l.length/\i=.int .i64 k/\t=.int .u64 (br (λx=>x.sock == n) l k:Nat)/\Below w.heap.size w wr) (λ_ i _=>l.length - (intOf i).toNat)
 case atStart=>exact ⟨0,by omega,rfl,rfl,Below.refl _ _⟩
 case round=>
  obtain ⟨k,hk,rfl,rfl,hB⟩:=hrel
  by_cases hlt:k<l.length
  ·obtain ⟨hcell0,hcell1,hcell2⟩:=(HC.out.below HLB.out hB) k hlt;have hcn:=(hB.cell (p:=⟨B,0,none⟩) HBl.out).trans HN0.out;have hcn1:=qI ((((Below.refl wr.heap.size wr).alloc (lR) (.cells #[.int .i64 (l.getD k ae).core,.int .i64 (l.getD k ae).sock,.int .i64 (l.getD k ae).node] 84)).cell (p:=⟨B,0,none⟩) (World.block_lt_of_cell? wr _ hcn)).trans hcn);clear hcn;have HY:=qI (λh=>iW (p:=(λx=>x.sock == n)) (l:=l) (k:=k) h);have HN:=qI (λh=>iX (p:=(λx=>x.sock == n)) (l:=l) (k:=k) h);have HL:=qI (eZ (λx=>x.sock == n) l k (by omega));generalize l.getD k ae=x at *;have hB1:=hB.alloc hB.size (.cells #[.int .i64 x.core,.int .i64 x.sock,.int .i64 x.node] 84)
   go_wp2_with fail
   refine (yi x n B _ hcn1.out).mono ?_;rintro e w1 ⟨rfl,hb⟩;have hB2:=hB1.trans (hb.mono hB1.size);clear hB1 hb
   rcases two ((λx=>x.sock == n) x) with hb|hb
   ·have HO:Hid (bits BinOp.or IntKind.u64 (br (λx=>x.sock == n) l k:Nat) (IntKind.u64.wrap (2 ^ k))=((br (λx=>x.sock == n) l (k+1):Nat):Int)):=by
     unfold Hid;rw [kg _ _ HL.out (by omega),HY.out hb]
    rw [hb];clear hb
    go_wp2_with fail
    go_roundw
    case rel=>exact ⟨k+1,by omega,by go_num,by rw [<- HO.out],hB2⟩
    case measure=>simp [intOf];omega
   ·have HO:Hid (br (λx=>x.sock == n) l k=br (λx=>x.sock == n) l (k+1)):=(HN.out hb).symm;rw [hb];clear hb
    go_wp2_with fail
    go_roundw
    case rel=>exact ⟨k+1,by omega,by go_num,by rw [<- HO.out],hB2⟩
    case measure=>simp [intOf];omega
  ·have hkl:k=l.length:=by omega
   have H:Hid (br (λx=>x.sock == n) l k=af (λx=>x.sock == n) l):=by unfold Hid;rw [hkl];rfl
   clear hkl
   go_wp2_with fail
   go_ret;exact ⟨congrArg (λz:Nat=>Ending.returned (.int .u64 z)) H.out,hB⟩
theorem yk (tb b o c:Nat) (l:List Cpu) (n:Int) (w:World) (ht:aY w tb b o c l) :
  Calls Tryz.prog 205 #[.pointer (some ⟨tb,0,none⟩),.int .i64 n] w λe w'=>e=.returned (.int .u64 (af (λx=>x.sock == n) l:Nat))/\Below w.heap.size w w':=by
 have hmf:∀ (fn:Fn) (first cap:Array Value) (w:World),(Instr.makeFunc fn first cap).run Tryz.prog w=.ok (.func fn first cap) w:=λ_ _ _ _=>rfl
 have hB0:=(Below.refl w.heap.size w).alloc (lR) (.cells #[.int .i64 n] 3);have ht1:=ht.below hB0;have hcn:=qI (show (w.alloc (.cells #[.int .i64 n] 3)).cell? ⟨w.heap.size,0,none⟩=some (.int .i64 n) by simp);clear ht
 go_enter Tryz.func205,Tryz.ntmps205
 go_wp2_with fail
 refine (yj n w.heap.size tb b o c l _ ht1 hcn.out).mono ?_;rintro e w1 ⟨rfl,hb⟩
 go_wp2_with fail
 go_ret;exact ⟨rfl,hB0.trans (hb.mono hB0.size)⟩
theorem yl (x:Cpu) (n:Nat) (B:Nat) (w:World) (hn:w.cell? ⟨B,0,none⟩=some (.int .u8 n)) (g0:0<=x.node) (g3:x.node<=3) (hm:n<256) :
  Calls Tryz.prog 203 #[.agg #[.int .i64 x.core,.int .i64 x.sock,.int .i64 x.node],.pointer (some ⟨B,0,none⟩)] w λe w'=>e=.returned (.bool ((aQ n) x))/\Below w.heap.size w w':=by
 have hb8:=qI (qA n x.node.toNat hm);have hn1:=(((Below.refl w.heap.size w).alloc (lR) (.cells #[.int .i64 x.core,.int .i64 x.sock,.int .i64 x.node] 84)).cell (p:=⟨B,0,none⟩) (World.block_lt_of_cell? w _ hn)).trans hn;clear hn
 go_enter Tryz.func203,Tryz.ntmps203
 go_wp2_with fail
 go_ret;exact ⟨congrArg (λz=>Ending.returned (.bool z)) hb8.out,(Below.refl _ _).alloc (lR) _⟩
theorem ym (n:Nat) (B tb b o c:Nat) (l:List Cpu) (w:World) (ht:aY w tb b o c l) (hn:w.cell? ⟨B,0,none⟩=some (.int .u8 n)) (hg:Good l) (hm:n<256) :
  Calls Tryz.prog 71 #[.pointer (some ⟨tb,0,none⟩),.func (.func 203) #[] #[.pointer (some ⟨B,0,none⟩)]] w λe w'=>e=.returned (.int .u64 (af (aQ n) l:Nat))/\Below w.heap.size w w':=by
 have HC:=qI ht.cells;have hT:=ht.cell;have HLB:=qI ht.lt;have hl:=ht.len;clear ht;have HN0:=qI hn;have HBl:=qI (World.block_lt_of_cell? w _ hn);have HG:=qI hg;clear hn hg
 go_enter Tryz.func71,Tryz.ntmps71
 go_wp2_with fail
 go_loopw [5,13] (λt i wr=>∃ k:Nat,k<=l.length/\i=.int .i64 k/\t=.int .u64 (br (aQ n) l k:Nat)/\Below w.heap.size w wr) (λ_ i _=>l.length - (intOf i).toNat)
 case atStart=>exact ⟨0,by omega,rfl,rfl,Below.refl _ _⟩
 case round=>
  obtain ⟨k,hk,rfl,rfl,hB⟩:=hrel
  by_cases hlt:k<l.length
  ·obtain ⟨hcell0,hcell1,hcell2⟩:=(HC.out.below HLB.out hB) k hlt;have hcn:=(hB.cell (p:=⟨B,0,none⟩) HBl.out).trans HN0.out;have hcn1:=qI ((((Below.refl wr.heap.size wr).alloc (lR) (.cells #[.int .i64 (l.getD k ae).core,.int .i64 (l.getD k ae).sock,.int .i64 (l.getD k ae).node] 84)).cell (p:=⟨B,0,none⟩) (World.block_lt_of_cell? wr _ hcn)).trans hcn);clear hcn;obtain ⟨g0,g3⟩:=HG.out.at hlt;have HY:=qI (λh=>iW (p:=(aQ n)) (l:=l) (k:=k) h);have HN:=qI (λh=>iX (p:=(aQ n)) (l:=l) (k:=k) h);have HL:=qI (eZ (aQ n) l k (by omega));generalize l.getD k ae=x at *;have hB1:=hB.alloc hB.size (.cells #[.int .i64 x.core,.int .i64 x.sock,.int .i64 x.node] 84)
   go_wp2_with fail
   refine (yl x n B _ hcn1.out g0 g3 hm).mono ?_;rintro e w1 ⟨rfl,hb⟩;have hB2:=hB1.trans (hb.mono hB1.size);clear hB1 hb
   rcases two ((aQ n) x) with hb|hb
   ·have HO:Hid (bits BinOp.or IntKind.u64 (br (aQ n) l k:Nat) (IntKind.u64.wrap (2 ^ k))=((br (aQ n) l (k+1):Nat):Int)):=by
     unfold Hid;rw [kg _ _ HL.out (by omega),HY.out hb]
    rw [hb];clear hb
    go_wp2_with fail
    go_roundw
    case rel=>exact ⟨k+1,by omega,by go_num,by rw [<- HO.out],hB2⟩
    case measure=>simp [intOf];omega
   ·have HO:Hid (br (aQ n) l k=br (aQ n) l (k+1)):=(HN.out hb).symm;rw [hb];clear hb
    go_wp2_with fail
    go_roundw
    case rel=>exact ⟨k+1,by omega,by go_num,by rw [<- HO.out],hB2⟩
    case measure=>simp [intOf];omega
  ·have hkl:k=l.length:=by omega
   have H:Hid (br (aQ n) l k=af (aQ n) l):=by unfold Hid;rw [hkl];rfl
   clear hkl
   go_wp2_with fail
   go_ret;exact ⟨congrArg (λz:Nat=>Ending.returned (.int .u64 z)) H.out,hB⟩
theorem yn (tb b o c:Nat) (l:List Cpu) (n:Nat) (w:World) (ht:aY w tb b o c l) (hg:Good l) (hm:n<256) :
  Calls Tryz.prog 164 #[.pointer (some ⟨tb,0,none⟩),.int .u8 n] w λe w'=>e=.returned (.int .u64 (af (aQ n) l:Nat))/\Below w.heap.size w w':=by
 have hmf:∀ (fn:Fn) (first cap:Array Value) (w:World),(Instr.makeFunc fn first cap).run Tryz.prog w=.ok (.func fn first cap) w:=λ_ _ _ _=>rfl
 have hB0:=(Below.refl w.heap.size w).alloc (lR) (.cells #[.int .u8 n] 43);have ht1:=ht.below hB0;have hcn:=qI (show (w.alloc (.cells #[.int .u8 n] 43)).cell? ⟨w.heap.size,0,none⟩=some (.int .u8 n) by simp);clear ht
 go_enter Tryz.func164,Tryz.ntmps164
 go_wp2_with fail
 refine (ym n w.heap.size tb b o c l _ ht1 hcn.out hg hm).mono ?_;rintro e w1 ⟨rfl,hb⟩
 go_wp2_with fail
 go_ret;exact ⟨rfl,hB0.trans (hb.mono hB0.size)⟩
end
section
namespace Ost
def low (f:Cpu->Int) (l:List Cpu) (k:Nat):Nat:=af (λx=>decide (f x<k)) l
def at' (f:Cpu->Int) (l:List Cpu) (k:Nat):Nat:=af (λx=>f x == (k:Int)) l
end Ost
end
section
open Go.RowKit
open Ost (Cpu ae br af)
def bg (s:Nat) (l:List Cpu) (j:Int):Nat->Nat
 | 0=>0
 | k+1=>if (s.testBit k && decide ((l.getD k ae).node=j))=true then bg s l j k+1 else bg s l j k
theorem lC {s:Nat} {l:List Cpu} {k:Nat} {j:Int} (h:s.testBit k=true) (hj:(l.getD k ae).node=j):bg s l j (k+1)=bg s l j k+1:=by
 rw [bg,if_pos (by rw [h,hj];simp)]
theorem fx {s:Nat} {l:List Cpu} {k:Nat} {j:Int} (hj:(l.getD k ae).node≠j):bg s l j (k+1)=bg s l j k:=by
 rw [bg,if_neg (by simp only [decide_eq_false hj,Bool.and_false];simp)]
theorem lD {s:Nat} {l:List Cpu} {k:Nat} {j:Int} (h:s.testBit k=false):bg s l j (k+1)=bg s l j k:=by
 rw [bg,if_neg (by rw [h];simp)]
theorem lE (s:Nat) (l:List Cpu) (j:Int) (k:Nat):bg s l j k<=k:=by
 induction k with
 | zero=>exact lR
 | succ k ih=>rw [bg];split <;> omega
structure bK (w:World) (B:Nat) (a b c d:Int):Prop where
 c0:w.cell? ⟨B,0,none⟩=some (.int .i64 a)
 c1:w.cell? ⟨B,1,none⟩=some (.int .i64 b)
 c2:w.cell? ⟨B,2,none⟩=some (.int .i64 c)
 c3:w.cell? ⟨B,3,none⟩=some (.int .i64 d)
 f0:w.frozen? ⟨B,0,none⟩=false
 f1:w.frozen? ⟨B,1,none⟩=false
 f2:w.frozen? ⟨B,2,none⟩=false
 f3:w.frozen? ⟨B,3,none⟩=false
theorem bK.lt {w:World} {B:Nat} {a b c d:Int} (h:bK w B a b c d):B<w.heap.size:=World.block_lt_of_cell? w _ h.c0
theorem bK.below {w w':World} {B K:Nat} {a b c d:Int} (h:bK w B a b c d) (hb:Below K w w') (hK:B<K):bK w' B a b c d:=
 ⟨(hb.cell (p:=⟨B,0,none⟩) hK).trans h.c0,(hb.cell (p:=⟨B,1,none⟩) hK).trans h.c1,(hb.cell (p:=⟨B,2,none⟩) hK).trans h.c2,(hb.cell (p:=⟨B,3,none⟩) hK).trans h.c3,
  (hb.frozen (p:=⟨B,0,none⟩) hK).trans h.f0,(hb.frozen (p:=⟨B,1,none⟩) hK).trans h.f1,(hb.frozen (p:=⟨B,2,none⟩) hK).trans h.f2,(hb.frozen (p:=⟨B,3,none⟩) hK).trans h.f3⟩
theorem bK.made (w:World) (t:TypeId) (a b c d:Int):bK (w.alloc (.cells #[.int .i64 a,.int .i64 b,.int .i64 c,.int .i64 d] t)) w.heap.size a b c d:=by
 constructor <;> simp
theorem bK.alloc {w:World} {B:Nat} {a b c d:Int} (h:bK w B a b c d) (o:Obj):bK (w.alloc o) B a b c d:=
 h.below ((Below.refl _ _).alloc (lR) _) h.lt
theorem bK.set_other {w:World} {B:Nat} {a b c d:Int} (h:bK w B a b c d) {p:Addr} (hp:B≠p.block) (v:Value):bK (w.setCell p v) B a b c d:=by
 have e:(w.setCell p v).heap[B]?=w.heap[B]?:=Below.heap_setCell _ _ _ _ hp;exact ⟨(World.cell?_of_block (w:=w) (a:=⟨B,0,none⟩) e).trans h.c0,(World.cell?_of_block (w:=w) (a:=⟨B,1,none⟩) e).trans h.c1,(World.cell?_of_block (w:=w) (a:=⟨B,2,none⟩) e).trans h.c2,(World.cell?_of_block (w:=w) (a:=⟨B,3,none⟩) e).trans h.c3,
  (World.frozen?_of_block (w:=w) (a:=⟨B,0,none⟩) e).trans h.f0,(World.frozen?_of_block (w:=w) (a:=⟨B,1,none⟩) e).trans h.f1,(World.frozen?_of_block (w:=w) (a:=⟨B,2,none⟩) e).trans h.f2,(World.frozen?_of_block (w:=w) (a:=⟨B,3,none⟩) e).trans h.f3⟩
theorem bK.set0 {w:World} {B:Nat} {a b c d:Int} (h:bK w B a b c d) (x:Int):bK (w.setCell ⟨B,0,none⟩ (.int .i64 x)) B x b c d:=by
 obtain ⟨c0,c1,c2,c3,f0,f1,f2,f3⟩:=h;constructor <;> first|exact World.frozen?_setCell.trans (by assumption)|go_simp
theorem bK.set1 {w:World} {B:Nat} {a b c d:Int} (h:bK w B a b c d) (x:Int):bK (w.setCell ⟨B,1,none⟩ (.int .i64 x)) B a x c d:=by
 obtain ⟨c0,c1,c2,c3,f0,f1,f2,f3⟩:=h;constructor <;> first|exact World.frozen?_setCell.trans (by assumption)|go_simp
theorem bK.set2 {w:World} {B:Nat} {a b c d:Int} (h:bK w B a b c d) (x:Int):bK (w.setCell ⟨B,2,none⟩ (.int .i64 x)) B a b x d:=by
 obtain ⟨c0,c1,c2,c3,f0,f1,f2,f3⟩:=h;constructor <;> first|exact World.frozen?_setCell.trans (by assumption)|go_simp
theorem bK.set3 {w:World} {B:Nat} {a b c d:Int} (h:bK w B a b c d) (x:Int):bK (w.setCell ⟨B,3,none⟩ (.int .i64 x)) B a b c x:=by
 obtain ⟨c0,c1,c2,c3,f0,f1,f2,f3⟩:=h;constructor <;> first|exact World.frozen?_setCell.trans (by assumption)|go_simp
theorem ke (A n:Nat) (w:World) (hA:A<18446744073709551616) (hn:n<64) :
  Calls Tryz.prog 154 #[.int .u64 A,.int .i64 n] w λe w'=>e=.returned (.bool (A.testBit n))/\w'=w:=by
 have HB:=m6 A n hA
 go_enter Tryz.func154,Tryz.ntmps154
 go_wp2_with go_in
 go_ret;exact ⟨rfl,rfl⟩
theorem lF {fn:Func} {p:Tmp} {ty:TypeId} (h:fn.results=#[.cell p ty]) (tmps:Array Value) (P:Program) (w:World) :
  (results fn tmps).run P w=((asAddr (tmps.getD p undef)).run P w).andThen λa w₁=>(loadVar ty a).run P w₁:=by
 simp only [results,h]
 simp [Sem.run_bind,Result.andThen]
def jF (s:Nat) (l:List Cpu) (k:Nat):Value:=.agg #[.int .i64 (bg s l 0 k:Nat),.int .i64 (bg s l 1 k:Nat),.int .i64 (bg s l 2 k:Nat),.int .i64 (bg s l 3 k:Nat)]
theorem jC (A tb b o c:Nat) (l:List Cpu) (w:World) (ht:aY w tb b o c l) (hA:A<18446744073709551616) (hg:Good l) :
  Calls Tryz.prog 117 #[.pointer (some ⟨tb,0,none⟩),.int .u64 A] w λe w'=>e=.returned (jF A l l.length)/\Below w.heap.size w w':=by
 have hB0:=((Below.refl w.heap.size w).alloc (lR) (.cells #[.int .i64 0,.int .i64 0,.int .i64 0,.int .i64 0] 214));have hB00:=hB0.alloc hB0.size (.cells #[.int .i64 0,.int .i64 0,.int .i64 0,.int .i64 0] 214);have ht1:=ht.below hB00;have HC:=qI ht.cells;have hT:=ht1.cell;have HLB:=qI ht.lt;have hl:=ht.len;have HG:=qI hg;have HB00:=qI hB00;clear ht ht1 hB0 hB00 hg
 go_enter Tryz.func117,Tryz.ntmps117
 go_wp2_with fail
 go_loopw [13] (λi wr=>∃ k:Nat,k<=l.length/\i=.int .i64 k/\bK wr w.heap.size 0 0 0 0/\bK wr (w.heap.size+1) (bg A l 0 k:Nat) (bg A l 1 k:Nat) (bg A l 2 k:Nat) (bg A l 3 k:Nat)/\Below w.heap.size w wr) (λi _=>l.length - (intOf i).toNat)
 case atStart=>exact ⟨0,by omega,rfl,(bK.made _ _ _ _ _ _).alloc _,by have:=bK.made (w.alloc (.cells #[.int .i64 0,.int .i64 0,.int .i64 0,.int .i64 0] 214)) 214 0 0 0 0;simpa [bg] using this,HB00.out⟩
 case round=>
  obtain ⟨k,hk,rfl,h4,h5,hB⟩:=hrel
  by_cases hlt:k<l.length
  ·obtain ⟨hcell0,hcell1,hcell2⟩:=(HC.out.below HLB.out hB) k hlt;obtain ⟨g0,g3⟩:=HG.out.at hlt;have HI:=qI (ke A k (wr.alloc (.cells #[.int .i64 (l.getD k ae).core,.int .i64 (l.getD k ae).sock,.int .i64 (l.getD k ae).node] 84)) hA (by omega));have hB1:=hB.alloc hB.size (.cells #[.int .i64 (l.getD k ae).core,.int .i64 (l.getD k ae).sock,.int .i64 (l.getD k ae).node] 84);have h41:=h4.alloc (.cells #[.int .i64 (l.getD k ae).core,.int .i64 (l.getD k ae).sock,.int .i64 (l.getD k ae).node] 84);have h51:=h5.alloc (.cells #[.int .i64 (l.getD k ae).core,.int .i64 (l.getD k ae).sock,.int .i64 (l.getD k ae).node] 84);have l0:=qI (lE A l 0 k);have l1:=qI (lE A l 1 k);have l2:=qI (lE A l 2 k);have l3:=qI (lE A l 3 k);have hN:(l.getD k ae).node=0\/(l.getD k ae).node=1\/(l.getD k ae).node=2\/(l.getD k ae).node=3:=by omega
   rcases two (A.testBit k) with hb|hb
   ·rw [hb] at HI
    rcases hN with hN|hN|hN|hN
    ·have EJ:=qI (lC (l:=l) (j:=0) hb hN);have E1:=qI (fx (s:=A) (l:=l) (k:=k) (j:=1) (by rw [hN];decide));have E2:=qI (fx (s:=A) (l:=l) (k:=k) (j:=2) (by rw [hN];decide));have E3:=qI (fx (s:=A) (l:=l) (k:=k) (j:=3) (by rw [hN];decide));have q0:=h51.c0;have r0:=h51.f0;have h41:=qI h41;have h51:=qI h51;clear hb h4 h5;rw [hN] at hcell2 HI hB1 h41 h51 q0 r0;clear hN g0 g3;have m0:=l0.out;generalize l.getD k ae=x at *;generalize hcz:bg A l 0 k=z at *
     go_wp2_with (go_at_call 154;refine HI.out.mono ?_;rintro e w' ⟨rfl,rfl⟩)
     go_roundw
     case rel=>
      refine ⟨k+1,by omega,by go_num,h41.out.set_other (by simp) _,?_,hB1.setCell (by simp) _⟩;rw [EJ.out,E1.out,E2.out,E3.out]
      have:=h51.out.set0 ((z:Int)+1)
      simpa using this
     case measure=>simp [intOf];omega
    ·have EJ:=qI (lC (l:=l) (j:=1) hb hN);have E0:=qI (fx (s:=A) (l:=l) (k:=k) (j:=0) (by rw [hN];decide));have E2:=qI (fx (s:=A) (l:=l) (k:=k) (j:=2) (by rw [hN];decide));have E3:=qI (fx (s:=A) (l:=l) (k:=k) (j:=3) (by rw [hN];decide));have q0:=h51.c1;have r0:=h51.f1;have h41:=qI h41;have h51:=qI h51;clear hb h4 h5;rw [hN] at hcell2 HI hB1 h41 h51 q0 r0;clear hN g0 g3;have m0:=l1.out;generalize l.getD k ae=x at *;generalize hcz:bg A l 1 k=z at *
     go_wp2_with (go_at_call 154;refine HI.out.mono ?_;rintro e w' ⟨rfl,rfl⟩)
     go_roundw
     case rel=>
      refine ⟨k+1,by omega,by go_num,h41.out.set_other (by simp) _,?_,hB1.setCell (by simp) _⟩;rw [EJ.out,E0.out,E2.out,E3.out]
      have:=h51.out.set1 ((z:Int)+1)
      simpa using this
     case measure=>simp [intOf];omega
    ·have EJ:=qI (lC (l:=l) (j:=2) hb hN);have E0:=qI (fx (s:=A) (l:=l) (k:=k) (j:=0) (by rw [hN];decide));have E1:=qI (fx (s:=A) (l:=l) (k:=k) (j:=1) (by rw [hN];decide));have E3:=qI (fx (s:=A) (l:=l) (k:=k) (j:=3) (by rw [hN];decide));have q0:=h51.c2;have r0:=h51.f2;have h41:=qI h41;have h51:=qI h51;clear hb h4 h5;rw [hN] at hcell2 HI hB1 h41 h51 q0 r0;clear hN g0 g3;have m0:=l2.out;generalize l.getD k ae=x at *;generalize hcz:bg A l 2 k=z at *
     go_wp2_with (go_at_call 154;refine HI.out.mono ?_;rintro e w' ⟨rfl,rfl⟩)
     go_roundw
     case rel=>
      refine ⟨k+1,by omega,by go_num,h41.out.set_other (by simp) _,?_,hB1.setCell (by simp) _⟩;rw [EJ.out,E0.out,E1.out,E3.out]
      have:=h51.out.set2 ((z:Int)+1)
      simpa using this
     case measure=>simp [intOf];omega
    ·have EJ:=qI (lC (l:=l) (j:=3) hb hN);have E0:=qI (fx (s:=A) (l:=l) (k:=k) (j:=0) (by rw [hN];decide));have E1:=qI (fx (s:=A) (l:=l) (k:=k) (j:=1) (by rw [hN];decide));have E2:=qI (fx (s:=A) (l:=l) (k:=k) (j:=2) (by rw [hN];decide));have q0:=h51.c3;have r0:=h51.f3;have h41:=qI h41;have h51:=qI h51;clear hb h4 h5;rw [hN] at hcell2 HI hB1 h41 h51 q0 r0;clear hN g0 g3;have m0:=l3.out;generalize l.getD k ae=x at *;generalize hcz:bg A l 3 k=z at *
     go_wp2_with (go_at_call 154;refine HI.out.mono ?_;rintro e w' ⟨rfl,rfl⟩)
     go_roundw
     case rel=>
      refine ⟨k+1,by omega,by go_num,h41.out.set_other (by simp) _,?_,hB1.setCell (by simp) _⟩;rw [EJ.out,E0.out,E1.out,E2.out]
      have:=h51.out.set3 ((z:Int)+1)
      simpa using this
     case measure=>simp [intOf];omega
   ·rw [hb] at HI;have E0:=qI (lD (l:=l) (j:=0) hb);have E1:=qI (lD (l:=l) (j:=1) hb);have E2:=qI (lD (l:=l) (j:=2) hb);have E3:=qI (lD (l:=l) (j:=3) hb);have h41:=qI h41;have h51:=qI h51;clear hb h4 h5 hN;generalize l.getD k ae=x at *
    go_wp2_with (go_at_call 154;refine HI.out.mono ?_;rintro e w' ⟨rfl,rfl⟩)
    go_roundw
    case rel=>exact ⟨k+1,by omega,by go_num,h41.out,by rw [E0.out,E1.out,E2.out,E3.out];exact h51.out,hB1⟩
    case measure=>simp [intOf];omega
  ·have hkl:k=l.length:=by omega
   subst hkl;clear hk hlt;have q0:=h5.c0;have q1:=h5.c1;have q2:=h5.c2;have q3:=h5.c3;have p0:=h4.c0;have p1:=h4.c1;have p2:=h4.c2;have p3:=h4.c3;have r0:=h4.f0;have r1:=h4.f1;have r2:=h4.f2;have r3:=h4.f3;clear h4 h5
   go_wp2_with fail
   (try simp only [Exit.inBlock,Exit.then]);refine bodyPost_ret (v:=jF A l l.length) ?_ rfl ⟨rfl,?_⟩
   ·unfold jF;rw [lF rfl];go_simp
   ·exact (((hB.setCell (lR) _).setCell (lR) _).setCell (lR) _).setCell (lR) _
theorem or8 (s n:Nat) (hs:s<256) (hn:n<8):bits BinOp.or IntKind.u8 (s:Int) (IntKind.u8.wrap (2 ^ n))=((s ||| 2 ^ n:Nat):Int):=by
 have key:∀ (a:Fin 256) (b:Fin 8),bits BinOp.or IntKind.u8 ((a.val:Nat):Int) (IntKind.u8.wrap (2 ^ b.val))=((a.val ||| 2 ^ b.val:Nat):Int):=by decide +kernel
 exact key ⟨s,hs⟩ ⟨n,hn⟩
theorem yo (s n:Nat) (hs:s<256) (hn:n<8):bits BinOp.or IntKind.u8 (s:Int) (2 ^ n % 256)=((s ||| 2 ^ n:Nat):Int):=by
 have key:∀ (a:Fin 256) (b:Fin 8),bits BinOp.or IntKind.u8 ((a.val:Nat):Int) (2 ^ b.val % 256)=((a.val ||| 2 ^ b.val:Nat):Int):=by decide +kernel
 exact key ⟨s,hs⟩ ⟨n,hn⟩
def eA (l:List Cpu):Nat->Nat
 | 0=>0
 | k+1=>eA l k ||| 2 ^ (l.getD k ae).node.toNat
theorem yq (l:List Cpu) (k j:Nat):(eA l k).testBit j=true↔∃ i,i<k/\(l.getD i ae).node.toNat=j:=by
 induction k with
 | zero=>simp [eA]
 | succ k ih=>
  rw [eA,Nat.testBit_or,Bool.or_eq_true,ih,Nat.testBit_two_pow];constructor
  ·rintro (⟨i,hi,h⟩|h)
   ·exact ⟨i,by omega,h⟩
   ·exact ⟨k,by omega,by simpa using h⟩
  ·rintro ⟨i,hi,h⟩
   by_cases e:i=k
   ·subst e;right;simpa using h
   ·left;exact ⟨i,by omega,h⟩
def eN (f:Nat->Bool):Nat->Nat
 | 0=>0
 | k+1=>if f k then eN f k ||| 2 ^ k else eN f k
theorem qG (f:Nat->Bool) (k j:Nat):(eN f k).testBit j=(decide (j<k) && f j):=by
 induction k with
 | zero=>simp [eN]
 | succ k ih=>
  rw [eN]
  by_cases h:f k=true
  ·rw [if_pos h,Nat.testBit_or,ih,Nat.testBit_two_pow]
   by_cases e:j=k
   ·subst e;simp [h]
   ·by_cases h2:j<k
    ·simp [h2,show j<k+1 by omega,show ¬ k=j by omega]
    ·simp [h2,show ¬ j<k+1 by omega,show ¬ k=j by omega]
  ·have h':f k=false:=by simpa using h
   rw [if_neg h,ih]
   by_cases e:j=k
   ·subst e;simp [h']
   ·by_cases h2:j<k
    ·simp [h2,show j<k+1 by omega]
    ·simp [h2,show ¬ j<k+1 by omega]
theorem yr (s:Nat) (l:List Cpu) (j:Int) (k:Nat):0<bg s l j k↔∃ i,i<k/\s.testBit i=true/\(l.getD i ae).node=j:=by
 induction k with
 | zero=>simp [bg]
 | succ k ih=>
  rw [bg]
  by_cases h:(s.testBit k && decide ((l.getD k ae).node=j))=true
  ·rw [if_pos h];simp only [Bool.and_eq_true,decide_eq_true_eq] at h;exact ⟨λ_=>⟨k,by omega,h.1,h.2⟩,λ_=>by omega⟩
  ·rw [if_neg h,ih];constructor
   ·rintro ⟨i,hi,r⟩;exact ⟨i,by omega,r⟩
   ·rintro ⟨i,hi,r⟩
    by_cases e:i=k
    ·subst e;exact absurd (by rw [r.1,r.2];simp) h
    ·exact ⟨i,by omega,r⟩
theorem yt (l:List Cpu) (hg:Good l):eN (λj=>decide (0<bg (af aC l) l j l.length)) 4=eA l l.length:=by
 apply Nat.eq_of_testBit_eq;intro j;rw [qG,Bool.eq_iff_iff,yq,Bool.and_eq_true,decide_eq_true_eq,decide_eq_true_eq,yr];constructor
 ·rintro ⟨_,i,hi,_,hn⟩;exact ⟨i,hi,by omega⟩
 ·rintro ⟨i,hi,hn⟩
  have:=hg.at hi
  exact ⟨by omega,i,hi,by rw [Ost.m5];simp [aC,hi],by omega⟩
theorem yu (f:Nat->Bool) (k:Nat) (hk:k<=4):eN f k<256:=by
 apply Nat.lt_pow_two_of_testBit (n:=8);intro i hi;rw [qG];simp [show ¬ i<k by omega]
theorem qH (a b c d:Int) (w:World):∀ k:Nat,k<4->∃ x,(Instr.index 214 (.agg #[.int .i64 a,.int .i64 b,.int .i64 c,.int .i64 d]) (.int .i64 k)).run Tryz.prog w=.ok (.int .i64 x) w/\x=[a,b,c,d].getD k 0:=by
 intro k hk
 have:k=0\/k=1\/k=2\/k=3:=by omega
 rcases this with rfl|rfl|rfl|rfl
 ·exact ⟨a,by kernel_rfl,rfl⟩
 ·exact ⟨b,by kernel_rfl,rfl⟩
 ·exact ⟨c,by kernel_rfl,rfl⟩
 ·exact ⟨d,by kernel_rfl,rfl⟩
theorem nA (tb b o c:Nat) (l:List Cpu) (w:World) (ht:aY w tb b o c l) (hg:Good l) :
  Calls Tryz.prog 67 #[.pointer (some ⟨tb,0,none⟩)] w λe w'=>e=.returned (.int .u8 (eA l l.length:Nat))/\Below w.heap.size w w':=by
 rw [<- yt l hg];have HT:=qI ht;have HG:=qI hg;have hlA:=Ost.eZ aC l l.length ht.len;have HA:=qI (gA tb b o c l w ht)
 change af aC l<_ at hlA
 generalize af aC l=A at *;obtain ⟨f,hf⟩:∃ f:Nat->Bool,f=λ(j:Nat)=>decide (0<bg A l j l.length):=⟨_,rfl⟩
 rw [<- hf];have HF:Hid (∀ j:Nat,f j=decide (0<bg A l j l.length)):=λj=>by rw [hf]
 clear ht hg hf
 go_enter Tryz.func67,Tryz.ntmps67
 go_wp2_with fail
 refine HA.out.mono ?_;rintro e w1 ⟨rfl,hb1⟩
 go_wp2_with fail
 refine (jC A tb b o c l w1 (HT.out.below hb1) hlA HG.out).mono ?_;rintro e w2 ⟨rfl,hb2⟩;have hB:=hb1.trans (hb2.mono hb1.size);have HX:=qI (λk hk=>qH (bg A l 0 l.length:Nat) (bg A l 1 l.length:Nat) (bg A l 2 l.length:Nat) (bg A l 3 l.length:Nat) w2 k hk);clear hb1 hb2 hlA;unfold jF
 go_wp2_with fail
 go_loop [3,10] (λt i=>∃ k:Nat,k<=4/\i=.int .i64 k/\t=.int .u8 (eN f k:Nat)) (λ_ i=>4 - (intOf i).toNat)
 case atStart=>exact ⟨0,by omega,rfl,rfl⟩
 case round=>
  obtain ⟨k,hk,rfl,rfl⟩:=hrel
  by_cases hlt:k<4
  ·obtain ⟨x,hx,hxe⟩:=HX.out k hlt;have hxk:x=(bg A l k l.length:Nat):=by
    rw [hxe]
    have:k=0\/k=1\/k=2\/k=3:=by omega
    rcases this with rfl|rfl|rfl|rfl <;> rfl
   have HL:=qI (yu f k (by omega));have hfk:=HF.out k;clear hxe
   by_cases h0:0<bg A l k l.length
   ·have hx0:0<x:=by omega
    have HO:Hid (bits BinOp.or IntKind.u8 (eN f k:Nat) (2 ^ k % 256)=((eN f (k+1):Nat):Int)):=by
     unfold Hid;rw [yo _ _ HL.out (by omega),eN,if_pos (by rw [hfk];exact decide_eq_true h0)]
    clear hxk h0 hfk
    go_wp2_with fail
    go_round
    case rel=>exact ⟨k+1,by omega,by go_num,by rw [<- HO.out]⟩
    case measure=>simp [intOf];omega
   ·have hx0:¬ 0<x:=by omega
    have HO:Hid (eN f k=eN f (k+1)):=by
     unfold Hid;rw [eN,if_neg (by rw [hfk];simpa using h0)]
    clear hxk h0 hfk
    go_wp2_with fail
    go_round
    case rel=>exact ⟨k+1,by omega,by go_num,by rw [<- HO.out]⟩
    case measure=>simp [intOf];omega
  ·have hkl:k=4:=by omega
   subst hkl;clear hk hlt
   go_wp2_with fail
   go_ret;exact ⟨rfl,hB⟩

end
section
open Go.RowKit
open Go.Maps (Keyed int_keyed keyOf_int_mk)
open Ost (Cpu ae inB seen)
theorem nB (n m:Int) (w:World):Calls Tryz.prog 119 #[.int .i64 n,.int .i64 m] w λe w'=>e=.returned (.bool (decide (0<=n) && decide (n<m)))/\w'=w:=by
 rcases two (decide (0<=n)) with h|h
 ·have h1:0<=n:=of_decide_eq_true h;rw [h];clear h
  go_enter Tryz.func119,Tryz.ntmps119
  go_wp2_with fail
  go_ret;exact ⟨by simp,rfl⟩
 ·have h1:¬ 0<=n:=of_decide_eq_false h;rw [h];clear h
  go_enter Tryz.func119,Tryz.ntmps119
  go_wp2_with fail
  go_ret;exact ⟨by simp,rfl⟩
theorem yv (x:Cpu) (w:World):Calls Tryz.prog 69 #[.agg #[.int .i64 x.core,.int .i64 x.sock,.int .i64 x.node]] w λe w'=>e=.returned (.bool (inB x))/\Below w.heap.size w w':=by
 have HB:=qI ((Below.refl w.heap.size w).alloc (lR) (.cells #[.int .i64 x.core,.int .i64 x.sock,.int .i64 x.node] 84));have H1:=qI (nB x.core 64);have H2:=qI (nB x.sock 64);have H3:=qI (nB x.node 4);unfold inB;generalize (decide (0<=x.core) && decide (x.core<64))=b1 at *;generalize (decide (0<=x.sock) && decide (x.sock<64))=b2 at *;generalize (decide (0<=x.node) && decide (x.node<4))=b3 at *;cases b1 <;> cases b2
 case false.false|false.true=>
  all_goals
   go_enter Tryz.func69,Tryz.ntmps69
   go_wp2_with fail
   refine (H1.out _).mono ?_;rintro e w' ⟨rfl,rfl⟩
   go_wp2_with fail
   go_ret;exact ⟨rfl,HB.out⟩
 case true.false=>
  go_enter Tryz.func69,Tryz.ntmps69
  go_wp2_with fail
  refine (H1.out _).mono ?_;rintro e w' ⟨rfl,rfl⟩
  go_wp2_with fail
  refine (H2.out _).mono ?_;rintro e w' ⟨rfl,rfl⟩
  go_wp2_with fail
  go_ret;exact ⟨rfl,HB.out⟩
 case true.true=>
  go_enter Tryz.func69,Tryz.ntmps69
  go_wp2_with fail
  refine (H1.out _).mono ?_;rintro e w' ⟨rfl,rfl⟩
  go_wp2_with fail
  refine (H2.out _).mono ?_;rintro e w' ⟨rfl,rfl⟩
  go_wp2_with fail
  refine (H3.out _).mono ?_;rintro e w' ⟨rfl,rfl⟩
  go_wp2_with fail
  go_ret;exact ⟨by simp,HB.out⟩
def e5 (l:List Cpu):List Value:=l.flatMap λx=>[.int .i64 x.core,.int .i64 x.sock,.int .i64 x.node]
theorem qJ (l:List Cpu):(e5 l).length=l.length*3:=by
 induction l with
 | nil=>rfl
 | cons a r ih=>simp only [e5,List.flatMap_cons,List.length_append,List.length_cons,List.length_nil] at ih ⊢;omega
theorem qK (l:List Cpu) (k:Nat) (hk:k<l.length):(e5 l)[k*3]?=some (.int .i64 (l.getD k ae).core)/\(e5 l)[k*3+1]?=some (.int .i64 (l.getD k ae).sock)/\(e5 l)[k*3+2]?=some (.int .i64 (l.getD k ae).node):=by
 induction l generalizing k with
 | nil=>simp at hk
 | cons a r ih=>
  cases k with
  | zero=>simp [e5]
  | succ k=>
   have:=ih k (by simpa using hk)
   have e:e5 (a :: r)=[.int .i64 a.core,.int .i64 a.sock,.int .i64 a.node]++e5 r:=rfl;rw [e,show (k+1)*3=k*3+3 by omega]
   simpa using this
theorem yw {w:World} {b o:Nat} {l:List Cpu} (h:fM w b o l) (j:Nat) (u:Value) (hj:(e5 l)[j]?=some u):w.cell? ((⟨b,o,none⟩:Addr).add j)=some u:=by
 have hlt:j<l.length*3:=by rw [<- qJ];exact (List.getElem?_eq_some_iff.1 hj).1
 obtain ⟨h0,h1,h2⟩:=h (j / 3) (by omega);obtain ⟨c0,c1,c2⟩:=qK l (j / 3) (by omega);rw [Addr.add_lit]
 have:j=j / 3*3\/j=j / 3*3+1\/j=j / 3*3+2:=by omega
 rcases this with e|e|e
 ·rw [<- e] at c0 h0;rw [h0,<- c0,hj]
 ·rw [<- e] at c1;rw [Nat.add_assoc,<- e] at h1;rw [h1,<- c1,hj]
 ·rw [<- e] at c2;rw [Nat.add_assoc,<- e] at h2;rw [h2,<- c2,hj]
theorem yx (l:List Cpu):∀ u∈e5 l,u.oneCell'=true:=by
 intro u hu;simp only [e5,List.mem_flatMap] at hu;obtain ⟨x,_,hx⟩:=hu
 simp at hx
 rcases hx with rfl|rfl|rfl <;> rfl
theorem yy:(Tryz.prog.info? 84).map (λi=>(i.zero,i.size,i.bytes))=some (some (.agg #[.int .i64 0,.int .i64 0,.int .i64 0]),3,24):=by kernel_rfl
theorem yz (b o n c:Nat) (w:World):Sem.run Tryz.prog (binOp BinOp.eql 22 (.slice (some ⟨b,o,none⟩) n c) (.slice none 0 0)) w=.ok (.bool false) w:=by kernel_rfl
def yA (w:World) (l:List Cpu) (e:Ending) (w':World):Prop:=∃ g c',e=.returned (.slice (some ⟨g,0,none⟩) l.length c')/\fM w' g 0 l/\g<w'.heap.size/\Below w.heap.size w w'
theorem yB (b o c:Nat) (l:List Cpu) (w:World) (hc:fM w b o l) (hlb:b<w.heap.size) (h0:0<l.length) (hl:l.length<=64) :
  Calls Tryz.prog 70 #[.slice (some ⟨b,o,none⟩) l.length c] w λe w'=>yA w l e w':=by
 obtain ⟨i0,hi,hz0,hz1,hz2⟩:=info_parts yy;have hB0:=(Below.refl w.heap.size w).alloc (lR) (.cells #[] 84);have HC:=qI (hc.below hlb hB0);have HB:=qI hB0;have hnil:=yz b o l.length c w;clear hc hB0
 go_enter Tryz.func70,Tryz.ntmps70
 go_wp2_with (at_builtin;(refine wpList_append_own _ rfl _ _ 22 rfl w.heap.size 84 i0 (.agg #[.int .i64 0,.int .i64 0,.int .i64 0]) 3 24 Tryz.underlying22 hi hz0 hz1 hz2 rfl (by decide) _ _ _ rfl (World.ownsRow_lit w #[] 0 (lR) (Nat.zero_le _) rfl) ⟨b,o,none⟩ l.length c (e5 l) rfl (qJ l) (yw HC.out) (yx l) (by unfold maxLen;omega) (by omega) (by simp) ?_);intro v' w1 hown' hgrow' _)
 rcases hown'.2 with ⟨rfl,h1⟩|⟨g,cap,cur,rfl,hg,hgc,_⟩
 ·omega
 ·have hlt:=(hown'.lt g rfl).2;have hcl:Hid (fM w1 g 0 l):=by
   intro k hk;obtain ⟨c0,c1,c2⟩:=qK l k hk;rw [<- List.nil_append (e5 l)] at c0 c1 c2;refine ⟨?_,?_,?_⟩
   ·rw [Nat.zero_add,hown'.cellAt (k*3) (by omega)];exact c0
   ·rw [Nat.zero_add,hown'.cellAt (k*3+1) (by omega)];exact c1
   ·rw [Nat.zero_add,hown'.cellAt (k*3+2) (by omega)];exact c2
  have hB1:=qI (HB.out.grown hgrow' (by simp) (λj hj=>by cases hj;exact lR));clear hown' hgrow' hgc hg;rw [Nat.zero_add]
  go_wp2_with fail
  go_ret;exact ⟨g,cap,rfl,hcl.out,hlt,hB1.out⟩
end
section
open Go.RowKit Go.ChangeMaps
open Go.Maps (Keyed int_keyed keyOf_int_mk)
open Ost (Cpu ae inB fw cH fault)
def jG:Value->Option (DataW Unit × List MemPlace)
 | .agg ⟨[.int .i64 a,.int .i64 b,.int .i64 c]⟩=>some (.agg [.lit (.int .i64 a),.lit (.int .i64 b),.lit (.int .i64 c)],[])
 | _=>none
def iZ (x:Cpu):DataW Unit:=.agg [.lit (.int .i64 x.core),.lit (.int .i64 x.sock),.lit (.int .i64 x.node)]
theorem yC (x:Cpu):jG (.agg #[.int .i64 x.core,.int .i64 x.sock,.int .i64 x.node])=some (iZ x,[]):=rfl
theorem yD {v:Value} {x:Cpu} {ps:List MemPlace} (h:jG v=some (iZ x,ps)):v=.agg #[.int .i64 x.core,.int .i64 x.sock,.int .i64 x.node]:=by
 unfold jG at h
 split at h
 ·simp only [iZ,Option.some.injEq,Prod.mk.injEq,DataW.agg.injEq,List.cons.injEq,DataW.lit.injEq,Lit.int.injEq,true_and,and_true] at h;obtain ⟨⟨rfl,rfl,rfl⟩,_⟩:=h;rfl
 ·cases h
def eB (w:World) (B n:Nat) (f:Int->Option Cpu):Prop:=
 ∃ D:DataW Unit,w.ownsMap Tryz.prog 3 jG B n D/\∀ k:Int,0<=k->k<64->Maps.has D (.int .i64 k)=(f k).isSome/\D.atKey (.int .i64 k) (iZ ae)=iZ ((f k).getD ae)
theorem lG:Keyed Tryz.prog 3:=int_keyed Tryz.underlying3
theorem lH {k:Int} (h0:0<=k) (h:k<64):(Lit.int .i64 k).wf=true:=WalkArith.wf_i64 (by omega)
theorem eB.alloc {w:World} {B n:Nat} {f:Int->Option Cpu} (h:eB w B n f) (o:Obj):eB (w.alloc o) B n f:=by
 obtain ⟨D,ho,hk⟩:=h;exact ⟨D,ho.alloc o,hk⟩
theorem eB.below {w w':World} {B K n:Nat} {f:Int->Option Cpu} (h:eB w B n f) (hb:Below K w w') (hK:B<K):eB w' B n f:=by
 obtain ⟨D,⟨es,clock,hh,r⟩,hk⟩:=h;exact ⟨D,⟨es,clock,(hb.block B hK).trans hh,r⟩,hk⟩
theorem eB.lt {w:World} {B n:Nat} {f:Int->Option Cpu} (h:eB w B n f):B<w.heap.size:=by
 obtain ⟨D,ho,_⟩:=h;exact ho.lt
theorem eB.made (w:World):eB (w.alloc (.map #[] 0)) w.heap.size 0 (λ_=>none):=
 ⟨.map [],World.ownsMap_made w _ _ _,λ_ _ _=>⟨rfl,rfl⟩⟩
theorem yE (w:World):(zeroValue 84).run Tryz.prog w=.ok (.agg #[.int .i64 0,.int .i64 0,.int .i64 0]) w:=by kernel_rfl
theorem lI {ops:Array Oper} {rest:List Oper} {o:Oper} {a:Act} {Q:Exit->Act->World->Prop} (w:World) (hg:o.guard=none) (m x:Operand) (hop:o.op=Op.lookup 154 m x true)
  (B n:Nat) (f:Int->Option Cpu) (k:Int) (h0:0<=k) (h64:k<64) (hm:a.eval m=.map (some B)) (hx:a.eval x=.int .i64 k) (hM:eB w B n f) (y:Cpu) (ok:Bool) (hy:(f k).getD ae=y) (hok:(f k).isSome=ok)
  (hK:wpList Tryz.prog ops Q rest (a.put o.dst (.tuple #[.agg #[.int .i64 y.core,.int .i64 y.sock,.int .i64 y.node],.bool ok])) w) :
  wpList Tryz.prog ops Q (o :: rest) a w:=by
 obtain ⟨D,ho,hk⟩:=hM;refine wpList_lookup_own_ok w hg m x 154 hop 3 84 lG Tryz.underlying154 jG (yE w) (iZ ae) [] rfl B n D hm ho _ (.int .i64 k) hx (keyOf_int_mk Tryz.underlying3 (lH h0 h64)) ?_;intro v ps hv;obtain ⟨h1,h2⟩:=hk k h0 h64;rw [h2,hy] at hv;rw [h1,hok,yD hv];exact hK
theorem qL {ops:Array Oper} {rest:List Oper} {o:Oper} {a:Act} {Q:Exit->Act->World->Prop} (w:World) (hg:o.guard=none) (m x v:Operand) (hop:o.op=Op.mapUpdate 154 m x v)
  (B n:Nat) (f:Int->Option Cpu) (k:Int) (h0:0<=k) (h64:k<64) (y:Cpu) (hm:a.eval m=.map (some B)) (hx:a.eval x=.int .i64 k) (hv:a.eval v=.agg #[.int .i64 y.core,.int .i64 y.sock,.int .i64 y.node]) (hM:eB w B n f) (hn:n<maxLen)
  (hK:∀ w',eB w' B (n+1) (λj=>if k=j then some y else f j)->w.grownBy w' (some B)->wpList Tryz.prog ops Q rest (a.put o.dst undef) w') :
  wpList Tryz.prog ops Q (o :: rest) a w:=by
 obtain ⟨D,ho,hk⟩:=hM;refine wpList_mapUpdate_own w hg m x v 154 hop 3 84 lG Tryz.underlying154 jG B n D hm ho hn _ _ (.int .i64 k) hx hv (keyOf_int_mk Tryz.underlying3 (lH h0 h64)) (iZ y) [] (yC y) ?_;intro w' ho' hgr;refine hK w' ⟨_,ho',λj j0 j64=>?_⟩ hgr
 by_cases e:k=j
 ·subst e;have hkl:WideAt.IsKeyLit (Lit.int .i64 k):=trivial;rw [Maps.has_put_same ho.isMap hkl,Maps.atKey_put_same ho.isMap hkl]
  simp
 ·have hne:(Lit.int .i64 j)≠(Lit.int .i64 k):=by simp;omega
  rw [Maps.has_put_other hne,Maps.atKey_put_other hne];simp only [if_neg e];exact hk j j0 j64
theorem yF (l:List Cpu) (k:Nat):(λj=>if (l.getD k ae).core=j then some (l.getD k ae) else Ost.seen l k j)=Ost.seen l (k+1):=by
 funext j;rw [Ost.seen]
theorem eC {w:World} {a:Addr} {v:Value} (h:w.cell? a=some v) (o:Obj):(w.alloc o).cell? a=some v:=
 (((Below.refl w.heap.size w).alloc (lR) o).cell (World.block_lt_of_cell? w _ h)).trans h
def fa (w:World) (l:List Cpu) (e:Ending) (w':World):Prop:=
 (fault l=0->∃ tb g c,e=.returned (.tuple #[.pointer (some ⟨tb,0,none⟩),.nilIface])/\aY w' tb g 0 c l)/\(fault l≠0->e=.returned (.tuple #[.pointer none,.iface 121 (.int .i64 (fault l))]))/\Below w.heap.size w w'
theorem fa.bad {w w':World} {l:List Cpu} {f:Int} (hf:fault l=f) (h0:f≠0) (hb:Below w.heap.size w w'):fa w l (.returned (.tuple #[.pointer none,.iface 121 (.int .i64 f)])) w':=
 ⟨λh=>absurd (hf.symm.trans h) h0,λ_=>by rw [hf],hb⟩
theorem fa.good {w w':World} {l:List Cpu} {tb g c:Nat} (hf:fault l=0) (ht:aY w' tb g 0 c l) (hb:Below w.heap.size w w'):fa w l (.returned (.tuple #[.pointer (some ⟨tb,0,none⟩),.nilIface])) w':=
 ⟨λ_=>⟨tb,g,c,rfl,ht⟩,λh=>absurd hf h,hb⟩
theorem yG (ao:Option Addr) (n c:Nat) (l:List Cpu) (w:World) (hl:l.length=n) (hn:n=0\/64<n) :
  Calls Tryz.prog 35 #[.slice ao n c] w λe w'=>fa w l e w':=by
 have HF:Hid (fault l=2):=by unfold Hid fault;rw [if_pos (by omega)]
 clear hl
 rcases hn with rfl|hn
 ·go_enter Tryz.func35,Tryz.ntmps35
  go_wp2_with fail
  go_ret2;exact fa.bad HF.out (by decide) (Below.refl _ _)
 ·have h0:((n:Int) == 0)=false:=by simp;omega
  go_enter Tryz.func35,Tryz.ntmps35
  go_wp2_with fail
  go_ret2;exact fa.bad HF.out (by decide) (Below.refl _ _)
theorem yH (b o c:Nat) (l:List Cpu) (w:World) (hc:fM w b o l) (hlb:b<w.heap.size) (h0:0<l.length) (h64:l.length<=64) :
  Calls Tryz.prog 35 #[.slice (some ⟨b,o,none⟩) l.length c] w λe w'=>fa w l e w':=by
 have hl0:((l.length:Int) == 0)=false:=by rw [beq_eq_false_iff_ne];omega
 have HC:=qI hc;have HLB:=qI hlb;have HM:=qI (eB.made w);have HB0:=qI ((Below.refl w.heap.size w).alloc (lR) (.map #[] 0));have hmm:=@run_makeMap Tryz.prog;clear hc hlb
 go_enter Tryz.func35,Tryz.ntmps35
 go_wp2_with fail
 go_loopw [21] (λi wr=>∃ k:Nat,k<=l.length/\i=.int .i64 k/\Hid (cH l k=0)/\eB wr w.heap.size k (Ost.seen l k)/\Below w.heap.size w wr) (λi _=>l.length - (intOf i).toNat)
 case atStart=>exact ⟨0,by omega,rfl,rfl,HM.out,HB0.out⟩
 case round=>
  obtain ⟨k,hk,rfl,HF,hM,hB⟩:=hrel
  by_cases hlt:k<l.length
  ·obtain ⟨hcell0,hcell1,hcell2⟩:=(HC.out.below HLB.out hB) k hlt;have HS:=qI (yF l k);have HBd:=qI (λhb=>Ost.qD l k 1 h0 h64 hlt HF.out (Ost.xY (l:=l) (k:=k) hb) (by decide));have HSh:=qI (λhb hc=>Ost.qD l k 3 h0 h64 hlt HF.out (Ost.xZ (l:=l) (k:=k) hb hc) (by decide));have HN:=qI (λhb hc=>Ost.xX (l:=l) (k:=k) HF.out hb hc);have HCn:=qI (λh=>Ost.ya (l:=l) (k:=k) (x:=l.getD k ae) h);have HCs:=qI (λy h=>Ost.yb (l:=l) (k:=k) (x:=l.getD k ae) (y:=y) HF.out h);generalize l.getD k ae=x at *;have hB1:=hB.alloc hB.size (.cells #[.int .i64 x.core,.int .i64 x.sock,.int .i64 x.node] 84);have hM1:=hM.alloc (.cells #[.int .i64 x.core,.int .i64 x.sock,.int .i64 x.node] 84);have hcx:=qI (show (wr.alloc (.cells #[.int .i64 x.core,.int .i64 x.sock,.int .i64 x.node] 84)).cell? ⟨wr.heap.size,0,none⟩=some (.int .i64 x.core)/\(wr.alloc (.cells #[.int .i64 x.core,.int .i64 x.sock,.int .i64 x.node] 84)).cell? ⟨wr.heap.size,1,none⟩=some (.int .i64 x.sock)/\(wr.alloc (.cells #[.int .i64 x.core,.int .i64 x.sock,.int .i64 x.node] 84)).cell? ⟨wr.heap.size,2,none⟩=some (.int .i64 x.node) by simp);clear hM
   go_wp2_with fail
   refine (yv x _).mono ?_;rintro e w1 ⟨rfl,hb⟩;have hB2:=hB1.trans (hb.mono hB1.size);have hM2:=hM1.below hb hM1.lt;obtain ⟨p0,p1,p2⟩:=hcx.out;have q0:=(hb.cell (p:=⟨wr.heap.size,0,none⟩) (by simp)).trans p0;have q1:=(hb.cell (p:=⟨wr.heap.size,1,none⟩) (by simp)).trans p1;have q2:=(hb.cell (p:=⟨wr.heap.size,2,none⟩) (by simp)).trans p2;clear p0 p1 p2 hcx hM1 hB1 hb hB hcell0 hcell1 hcell2
   rcases two (inB x) with hi|hi
   ·rw [hi];obtain ⟨g0,g1,_⟩:=(Ost.lB x).1 hi
    rcases hs:Ost.seen l k x.core with _|y
    ·have hNx:Hid (cH l (k+1)=0):=HN.out hi (HCn.out hs);have hB3:=hB2.alloc hB2.size (.cells #[.int .i64 ae.core,.int .i64 ae.sock,.int .i64 ae.node] 84);have hM3:=hM2.alloc (.cells #[.int .i64 ae.core,.int .i64 ae.sock,.int .i64 ae.node] 84);have r0:=eC q0 (.cells #[.int .i64 ae.core,.int .i64 ae.sock,.int .i64 ae.node] 84);have r1:=eC q1 (.cells #[.int .i64 ae.core,.int .i64 ae.sock,.int .i64 ae.node] 84);have r2:=eC q2 (.cells #[.int .i64 ae.core,.int .i64 ae.sock,.int .i64 ae.node] 84);have h1:Hid ((Ost.seen l k x.core).getD ae=ae):=by unfold Hid;rw [hs];rfl
     have h2:Hid ((Ost.seen l k x.core).isSome=false):=by unfold Hid;rw [hs];rfl
     clear q1 q2 hs hi
     go_wp2_with (first
      | (at_lookup;refine lI _ rfl _ _ rfl w.heap.size k (Ost.seen l k) x.core g0 g1 rfl rfl hM2 ae false h1.out h2.out ?_)
      | (at_mapUpdate;refine qL _ rfl _ _ _ rfl w.heap.size k (Ost.seen l k) x.core g0 g1 x rfl rfl rfl hM3 (by unfold maxLen;omega) ?_;intro w2 hM4 hgrow))
     go_roundw
     case rel=>exact ⟨k+1,by omega,by go_num,hNx,by rw [<- HS.out];exact hM4,hB3.grown hgrow hB3.size (λj hj=>by cases hj;exact lR)⟩
     case measure=>simp [intOf];omega
    ·by_cases hyx:y=x
     ·subst hyx;have hNx:Hid (cH l (k+1)=0):=HN.out hi (by rw [HCs.out y hs];simp);have hB3:=hB2.alloc hB2.size (.cells #[.int .i64 y.core,.int .i64 y.sock,.int .i64 y.node] 84);have hM3:=hM2.alloc (.cells #[.int .i64 y.core,.int .i64 y.sock,.int .i64 y.node] 84);have r0:=eC q0 (.cells #[.int .i64 y.core,.int .i64 y.sock,.int .i64 y.node] 84);have r1:=eC q1 (.cells #[.int .i64 y.core,.int .i64 y.sock,.int .i64 y.node] 84);have r2:=eC q2 (.cells #[.int .i64 y.core,.int .i64 y.sock,.int .i64 y.node] 84);have h1:Hid ((Ost.seen l k y.core).getD ae=y):=by unfold Hid;rw [hs];rfl
      have h2:Hid ((Ost.seen l k y.core).isSome=true):=by unfold Hid;rw [hs];rfl
      clear q1 q2 hs hi
      go_wp2_with (first
       | (at_lookup;refine lI _ rfl _ _ rfl w.heap.size k (Ost.seen l k) y.core g0 g1 rfl rfl hM2 y true h1.out h2.out ?_)
       | (at_mapUpdate;refine qL _ rfl _ _ _ rfl w.heap.size k (Ost.seen l k) y.core g0 g1 y rfl rfl rfl hM3 (by unfold maxLen;omega) ?_;intro w2 hM4 hgrow))
      go_roundw
      case rel=>exact ⟨k+1,by omega,by go_num,hNx,by rw [<- HS.out];exact hM4,hB3.grown hgrow hB3.size (λj hj=>by cases hj;exact lR)⟩
      case measure=>simp [intOf];omega
     ·have hF:Hid (fault l=3):=HSh.out hi (by rw [HCs.out y hs];exact decide_eq_true hyx);have hyc:y.core=x.core:=by obtain ⟨_,_,_,h⟩:=Ost.qE hs;exact h
      have hne:(¬ y.sock=x.sock)\/(y.sock=x.sock/\¬ y.node=x.node):=by
       by_cases hsk:y.sock=x.sock
       ·refine .inr ⟨hsk,λhn=>hyx ?_⟩;cases y;cases x;simp_all
       ·exact .inl hsk
      have h1:Hid ((Ost.seen l k x.core).getD ae=y):=by unfold Hid;rw [hs];rfl
      have h2:Hid ((Ost.seen l k x.core).isSome=true):=by unfold Hid;rw [hs];rfl
      rcases hne with hsk|⟨hsk,hnd⟩
      ·have r0:=eC q0 (.cells #[.int .i64 x.core,.int .i64 y.sock,.int .i64 y.node] 84);have r1:=eC q1 (.cells #[.int .i64 x.core,.int .i64 y.sock,.int .i64 y.node] 84);have r2:=eC q2 (.cells #[.int .i64 x.core,.int .i64 y.sock,.int .i64 y.node] 84);clear q1 q2 hs hi hyx
       go_wp2_with (at_lookup;refine lI _ rfl _ _ rfl w.heap.size k (Ost.seen l k) x.core g0 g1 rfl rfl hM2 y true h1.out h2.out ?_)
       go_ret2;exact fa.bad hF.out (by decide) (hB2.alloc hB2.size _)
      ·have r0:=eC q0 (.cells #[.int .i64 x.core,.int .i64 x.sock,.int .i64 y.node] 84);have r1:=eC q1 (.cells #[.int .i64 x.core,.int .i64 x.sock,.int .i64 y.node] 84);have r2:=eC q2 (.cells #[.int .i64 x.core,.int .i64 x.sock,.int .i64 y.node] 84);clear q1 q2 hs hi hyx
       go_wp2_with (at_lookup;refine lI _ rfl _ _ rfl w.heap.size k (Ost.seen l k) x.core g0 g1 rfl rfl hM2 y true h1.out h2.out ?_)
       go_ret2;exact fa.bad hF.out (by decide) (hB2.alloc hB2.size _)
   ·have hF:Hid (fault l=1):=HBd.out hi;rw [hi];clear hi
    go_wp2_with fail
    go_ret2;exact fa.bad hF.out (by decide) hB2
  ·have hkl:k=l.length:=by omega
   have hF:Hid (fault l=0):=Ost.xW l h0 h64 (by rw [<- hkl];exact HF.out);have HX:=qI (yB b o c l wr (HC.out.below HLB.out hB) (Nat.lt_of_lt_of_le HLB.out hB.size) h0 h64);clear hkl hM
   go_wp2_with fail
   refine HX.out.mono ?_;rintro e w1 ⟨g,c',rfl,hcl,hlt1,hb⟩;have hB1:=hB.trans (hb.mono hB.size);have HBx:=qI ((Below.refl w1.heap.size w1).alloc (lR) (.cells #[.slice (some ⟨g,0,none⟩) l.length c'] 159));have hcl:=qI hcl;clear hb
   go_wp2_with fail
   go_ret2;exact fa.good (g:=g) (c:=c') hF.out ⟨by simp,hcl.out.below hlt1 HBx.out,Nat.lt_of_lt_of_le hlt1 HBx.out.size,h64⟩ (hB1.trans (HBx.out.mono hB1.size))
end
section
open Go.RowKit
open Ost (Cpu ae inB clash fw cH fault)
end
section
open Go.RowKit
open Ost (Cpu ae af fault)
theorem eM.cases {w:World} {ao:Option Addr} {l:List Cpu} {c:Nat} (h:eM w (.slice ao l.length c) l):(l.length=0\/64<l.length)\/∃ b o,ao=some ⟨b,o,none⟩/\fM w b o l/\b<w.heap.size/\0<l.length/\l.length<=64:=by
 by_cases hl:l.length=0\/64<l.length
 ·exact .inl hl
 ·rcases h with ⟨rfl,_⟩|⟨b,o,c',hv,hc⟩
  ·simp at hl
  ·simp only [Value.slice.injEq] at hv;exact .inr ⟨b,o,hv.1,hc,World.block_lt_of_cell? w _ (hc 0 (by omega)).1,by omega,by omega⟩
theorem yI (ao:Option Addr) (c:Nat) (l:List Cpu) (w:World) (hv:eM w (.slice ao l.length c) l) :
  Calls Tryz.prog 35 #[.slice ao l.length c] w λe w'=>fa w l e w':=by
 rcases hv.cases with h|⟨b,o,rfl,hc,hlb,h0,h64⟩
 ·exact yG ao l.length c l w rfl h
 ·exact yH b o c l w hc hlb h0 h64
theorem yJ {l:List Cpu} (h:fault l=0):Good l:=by
 intro c hc
 have:=(Ost.lB c).1 ((Ost.yc h).2.2 c hc)
 omega
end
end Go.Proofs.YtbmmnflgnmjboaaGreatDoor
