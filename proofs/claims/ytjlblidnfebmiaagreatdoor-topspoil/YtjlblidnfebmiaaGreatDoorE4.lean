import Derived.Test.YtjlblidnfebmiaaGreatDoorE2
import Derived.ProofKit
import Derived.OpenShut
import Derived.ChangeOld
import Derived.Deep.Strs
import Derived.Deep.Slices
import Derived.Carry
import Derived.JoinedOf
import Derived.JoinedAt
import Derived.Laws.Bits128
import Derived.Maps.OwnSet
set_option maxRecDepth 100000
set_option maxHeartbeats 16000000
open Go Go.RowKit
open Go.Proofs.Tryz
namespace Go.Proofs.YtjlblidnfebmiaaGreatDoor
variable {B K k n o s tb:Nat} {Q:Exit->Act->World->Prop} {a b c d j:Int} {f:Int->Option ag} {l:List ag} {ops:Array Oper} {rest:List Oper} {v:Value} {w w':World} {x:ag}
def jD (w:World) (b o:Nat) (l:List ag):Prop:=
 ∀ k,k<l.length->w.cell? ⟨b,o+k*3,none⟩=some (.int .i64 (l.getD k ar).core)/\w.cell? ⟨b,o+k*3+1,none⟩=some (.int .i64 (l.getD k ar).sock)/\w.cell? ⟨b,o+k*3+2,none⟩=some (.int .i64 (l.getD k ar).node)
def fX (w:World) (v:Value) (l:List ag):Prop:=
 (l=[]/\∃ ao c,v=.slice ao 0 c)\/∃ b o c,v=.slice (some ⟨b,o,none⟩) l.length c/\jD w b o l
theorem jD.below {d:World} {b:Nat} (h:jD w b o l) (a:b<d) (c:Below d w w'):jD w' b o l:=by
 intro k g;obtain ⟨i,f,e⟩:=h k g;exact ⟨(c.cell (p:=⟨b,o+k*3,none⟩) a).trans i,(c.cell (p:=⟨b,o+k*3+1,none⟩) a).trans f,(c.cell (p:=⟨b,o+k*3+2,none⟩) a).trans e⟩
theorem fX.below (h:fX w v l) (a:Below w w w'):fX w' v l:=by
 rcases h with h|⟨b,o,c,f,j⟩
 ·exact .inl h
 ·refine .inr ⟨b,o,c,f,λk i=>?_⟩;obtain ⟨d,g,e⟩:=j k i;have Ha:=Q3 w _ d;exact ⟨(a.cell (p:=⟨b,o+k*3,none⟩) Ha).trans d,(a.cell (p:=⟨b,o+k*3+1,none⟩) Ha).trans g,(a.cell (p:=⟨b,o+k*3+2,none⟩) Ha).trans e⟩
def Good (l:List ag):Prop:=∀ c∈l,0<=c.core/\c.core<=63/\0<=c.sock/\c.sock<=63/\0<=c.node/\c.node<=3
theorem Good.at (h:Good l) (a:k<l.length):0<=(l.getD k ar).node/\(l.getD k ar).node<=3:=by
 have:l.getD k ar∈l:=by simp [a]
 have:=h _ this
 exact ⟨this.2.2.2.2.1,this.2.2.2.2.2⟩
def bn (m:Nat) (c:ag):Bool:=m.testBit c.node.toNat
theorem yL (m n:Nat) (a:m<256):(bits BinOp.and IntKind.u8 ((m:Int) / 2 ^ n) 1 == 1)=m.testBit n:=by
 have e:((m:Int) / 2 ^ n)=((m / 2 ^ n:Nat):Int):=by simp
 have Ha:m / 2 ^ n<256:=Nat.lt_of_le_of_lt (Nat.div_le_self _ _) a;rw [e,Nat.testBit_eq_decide_div_mod_eq];generalize m / 2 ^ n=q at Ha;have key:∀ q:Fin 256,(bits BinOp.and IntKind.u8 ((q.val:Nat):Int) 1 == 1)=decide (q.val % 2=1):=by decide +kernel
 exact key ⟨q,Ha⟩
section
open Go.ChangeShapes Go.WideShapes Go.ChangeAt Go.RowKit
theorem yM:prog.cellsOf 74=3:=by kernel_rfl
theorem Gu:prog.cellsOf 3=1:=by kernel_rfl
instance:Inhabited ag:=⟨ar⟩
theorem Gv {H:Type} {enc:TypeId × Value->H} {base:Nat} {m:Nat->Bool} {held:Bool} {d:Nat} {cs:List Value} {x:DataW H × List MemPlace}
  (h:DataW.trod enc prog w base m held d 74 cs=some x):∃ y:ag,cs=[.int .i64 y.core,.int .i64 y.sock,.int .i64 y.node]:=by
 obtain ⟨s,t,o,n,_,g,e,i,f⟩:=Deep.trod_struct3 underlying74 h;rw [yM] at g;rw [Gu] at e i f
 match cs,g with
 | [a,b,c],_=>
  obtain ⟨p,k,_,_⟩:=DataW.trod_int underlying3 e;obtain ⟨q,l,_,_⟩:=DataW.trod_int underlying3 i;obtain ⟨r,j,_,_⟩:=DataW.trod_int underlying3 f
  simp at k l j
  exact ⟨⟨p,q,r⟩,by rw [k,l,j]⟩
theorem Gw {H:Type} {enc:TypeId × Value->H} {W:World} {v:Option Addr} {len g:Nat} {d:DataW H} {p:List MemPlace}
  (h:DataW.Trod enc prog W 0 (λ_=>true) true 22 (.slice v len g) d p):∃ l:List ag,l.length=len/\fX W (.slice v l.length g) l:=by
 obtain ⟨s,hf⟩:=h
 rcases Deep.open_slice underlying22 hf with ⟨Hb,_⟩|⟨a,u,w,m,n,D,F,Hb,_,G,I,He,_,z⟩
 ·simp [Value.cells] at Hb
  obtain ⟨rfl,rfl,rfl⟩:=Hb;exact ⟨[],rfl,.inl ⟨rfl,none,0,rfl⟩⟩
 ·simp [Value.cells] at Hb
  obtain ⟨rfl,rfl,rfl⟩:=Hb;rw [if_pos rfl] at He;subst He;rw [yM] at z;obtain ⟨f,Hc⟩:=Deep.choose_lt (α:=ag) (n:=len) (p:=λi y=>W.cell? (a.add (i*3))=some (.int .i64 y.core)/\W.cell? (a.add (i*3+1))=some (.int .i64 y.sock)/\W.cell? (a.add (i*3+2))=some (.int .i64 y.node)) (λi hi=>by
   obtain ⟨C,q,o⟩:=z i (by omega);obtain ⟨y,rfl⟩:=Gv o;obtain ⟨_,_,j⟩:=World.cells?_some q;have A:=j 0 (by omega);have B:=j 1 (by omega);have x:=j 2 (by omega);rw [Deep.add_add] at A B x;exact ⟨y,by simpa using A,by simpa using B,by simpa using x⟩)
  refine ⟨(List.range len).map f,by simp,?_⟩
  by_cases r:len=0
  ·subst r;exact .inl ⟨rfl,_,_,rfl⟩
  ·obtain ⟨b,off,c⟩:=a;have j:=(Hc 0 (by omega)).1;have Ha:c=none:=by simpa [Addr.add] using World.cell?_spot j
   subst Ha;refine .inr ⟨b,off,_,rfl,λk E=>?_⟩;have Hf:k<len:=by simpa using E
   obtain ⟨t,q,o⟩:=Hc k Hf;rw [Addr.add_lit] at t q o;have e:((List.range len).map f).getD k ar=f k:=by simp [Hf]
   rw [e];exact ⟨t,by rw [Nat.add_assoc];exact q,by rw [Nat.add_assoc];exact o⟩
end
def jb (c:ag):Bool:=decide (0<=c.core) && decide (c.core<64) && (decide (0<=c.sock) && decide (c.sock<64)) && (decide (0<=c.node) && decide (c.node<4))
theorem yN (c:ag):jb c=true↔0<=c.core/\c.core<64/\0<=c.sock/\c.sock<64/\0<=c.node/\c.node<4:=by
 simp only [jb,Bool.and_eq_true,Qp];omega
def oC (a c:ag):Bool:=decide (a.core=c.core) && decide (a≠c)
def kQ (l:List ag) (c:ag):Nat->Bool
 | 0=>false
 | k+1=>kQ l c k || oC (l.getD k ar) c
theorem uD (l:List ag) (c:ag) (k:Nat):kQ l c k=true↔∃ j,j<k/\oC (l.getD j ar) c=true:=by induction k <;> grind [kQ]
def ke (l:List ag) (i:Nat):Int:=if jb (l.getD i ar) then (if kQ l (l.getD i ar) i then 3 else 0) else 1
def eO (l:List ag):Nat->Int
 | 0=>0
 | k+1=>if eO l k=0 then ke l k else eO l k
def dO (l:List ag):Int:=if l.length=0\/64<l.length then 2 else eO l l.length
theorem Gx (l:List ag) (i k:Nat) (f:Int) (hf:f≠0) (h:eO l i=f):eO l (i+k)=f:=by induction k <;> grind [eO]
theorem yO (l:List ag) (k:Nat) (h:eO l k=0):∀ j,j<k->ke l j=0:=by induction k <;> grind [eO]
theorem yP (l:List ag) (i:Nat) (f:Int) (d:0<l.length) (a:l.length<=64) (hi:i<l.length) (c:eO l i=0) (b:ke l i=f) (hf:f≠0):dO l=f:=by
 unfold dO;rw [if_neg (by omega)]
 have:eO l (i+1)=f:=by rw [eO,if_pos c,b]
 have:=Gx l (i+1) (l.length - (i+1)) f hf this
 rwa [show i+1+(l.length - (i+1))=l.length by omega] at this
theorem Gy (l:List ag) (c:0<l.length) (b:l.length<=64) (a:eO l l.length=0):dO l=0:=by
 unfold dO;rw [if_neg (by omega)];exact a
theorem Gz (h:eO l k=0) (a:jb (l.getD k ar)=true) (b:kQ l (l.getD k ar) k=false):eO l (k+1)=0:=by
 rw [eO,if_pos h,ke,if_pos a,if_neg (by rw [b];simp)]
theorem GA (a:jb (l.getD k ar)=false):ke l k=1:=by rw [ke,if_neg (by rw [a];simp)]
theorem GB (a:jb (l.getD k ar)=true) (b:kQ l (l.getD k ar) k=true):ke l k=3:=by
 rw [ke,if_pos a,if_pos b]
def dP (l:List ag):Nat->Int->Option ag
 | 0,_=>none
 | k+1,c=>if (l.getD k ar).core=c then some (l.getD k ar) else dP l k c
theorem yQ (h:dP l k c=some x):∃ j,j<k/\l.getD j ar=x/\x.core=c:=by induction k <;> grind [dP,ar]
theorem GC (h:dP l k c=none):∀ j,j<k->(l.getD j ar).core≠c:=by induction k <;> grind [dP,ar]
theorem GD (h:dP l k x.core=none):kQ l x k=false:=by grind [uD,oC,GC]
theorem GE {y:ag} (hf:eO l k=0) (h:dP l k x.core=some y):kQ l x k=decide (y≠x):=by
 obtain ⟨j,n,g,Hb⟩:=yQ h;rw [Bool.eq_iff_iff,uD,Qp];constructor
 ·rintro ⟨i,hi,c⟩;simp only [oC,Bool.and_eq_true,Qp] at c;intro e
  by_cases f:i=j
  ·subst f;rw [g] at c;exact c.2 e
  ·have key_Ost:∀ a b,a<b->b<k->(l.getD a ar).core=(l.getD b ar).core->l.getD a ar=l.getD b ar:=by
    intro a b Hc p r;have d:=yO l k hf b p;unfold ke at d
    by_cases m:jb (l.getD b ar)=true
    ·rw [if_pos m] at d
     by_cases o:kQ l (l.getD b ar) b=true
     ·rw [if_pos o] at d;cases d
     ·apply Qt;intro Ha;exact o ((uD _ _ _).2 ⟨a,Hc,by simp only [oC,Bool.and_eq_true,Qp];exact ⟨r,Ha⟩⟩)
    ·rw [if_neg m] at d;cases d
   have:l.getD i ar=l.getD j ar:=by
    rcases Nat.lt_or_gt_of_ne f with q|q
    ·exact key_Ost i j q n (by rw [c.1,g,Hb])
    ·exact (key_Ost j i q hi (by rw [c.1,g,Hb])).symm
   rw [this,g] at c;exact c.2 e
 ·intro Ha;exact ⟨j,n,by simp only [oC,Bool.and_eq_true,Qp];rw [g];exact ⟨Hb,Ha⟩⟩
theorem GF (h:dO l=0):0<l.length/\l.length<=64/\∀ c∈l,jb c=true:=by
 unfold dO at h
 by_cases b:l.length=0\/64<l.length
 ·rw [if_pos b] at h;cases h
 ·rw [if_neg b] at h;refine ⟨by omega,by omega,λc f=>?_⟩;obtain ⟨i,hi,rfl⟩:=List.getElem_of_mem f;have a:=yO l _ h i hi;have e:l.getD i ar=l[i]:=by simp [hi]
  unfold ke at a;rw [e] at a
  by_cases d:jb l[i]=true
  ·exact d
  ·rw [if_neg d] at a;cases a
theorem m0:lQ 8=6148914691236517205:=by decide +kernel
theorem m1:kO 8=3689348814741910323:=by decide +kernel
theorem m2:oA 8=1085102592571150095:=by decide +kernel
theorem uE (a:Nat) (m:Nat) (c:a<18446744073709551616) (d:m<18446744073709551616) (z:Int) (b:z=(a:Int)):bits BinOp.and IntKind.u64 z (m:Int)=((a &&& m:Nat):Int):=by
 rw [b];exact bits_and_u64_nat a m c d
theorem wrapN (n:Nat) (z:Int) (a:z=(n:Int)) (h:n<18446744073709551616):IntKind.u64.wrap z=(n:Int):=by
 rw [IntKind.wrap_u64,a];omega
theorem GG (A:Nat) (a:A<18446744073709551616):IntKind.u64.wrap (bits BinOp.and IntKind.u64 ((A:Int) / 2) 6148914691236517205+bits BinOp.and IntKind.u64 (A:Int) 6148914691236517205)=((eA 8 A:Nat):Int)/\eA 8 A<18446744073709551616:=by grind [uE,eA,m0,wrapN,Nat.and_le_right]
theorem GH (x:Nat) (a:x<18446744073709551616):IntKind.u64.wrap (bits BinOp.and IntKind.u64 ((x:Int) / 4) 3689348814741910323+bits BinOp.and IntKind.u64 (x:Int) 3689348814741910323)=((eN 8 x:Nat):Int)/\eN 8 x<=7378697629483820646:=by grind [uE,eN,m1,wrapN,Nat.and_le_right]
theorem GI (x:Nat) (a:x<=7378697629483820646):bits BinOp.and IntKind.u64 (IntKind.u64.wrap ((x:Int) / 16+(x:Int))) 1085102592571150095=((kP 8 x:Nat):Int):=by grind [wrapN,kP,m2,uE]
def eP (a b c d e f g h:Nat):Nat:=a+256*(b+256*(c+256*(d+256*(e+256*(f+256*(g+256*h))))))
theorem rJ (a b c d e f g h:Nat) (_ha:a<=64) (_hb:b<=64) (_hc:c<=64) (_hd:d<=64) (_he:e<=64) (_hf:f<=64) (_hg:g<=64) (_hh:h<=64):eP a b c d e f g h<4700000000000000000:=by unfold eP;omega
theorem sh8 (a b c d e f g h:Nat) (_ha:a<=8) (_hb:b<=8) (_hc:c<=8) (_hd:d<=8) (_he:e<=8) (_hf:f<=8) (_hg:g<=8) (_hh:h<=8) :
  eP a b c d e f g h+eP a b c d e f g h / 256=eP (a+b) (b+c) (c+d) (d+e) (e+f) (f+g) (g+h) h:=by grind [eP]
theorem GJ (a b c d e f g h:Nat) (_ha:a<=16) (_hb:b<=16) (_hc:c<=16) (_hd:d<=16) (_he:e<=16) (_hf:f<=16) (_hg:g<=16) (_hh:h<=16) :
  eP a b c d e f g h+eP a b c d e f g h / 65536=eP (a+c) (b+d) (c+e) (d+f) (e+g) (f+h) g h:=by grind [eP]
theorem GK (a b c d e f g h:Nat) (_ha:a<=32) (_hb:b<=32) (_hc:c<=32) (_hd:d<=32) (_he:e<=32) (_hf:f<=32) (_hg:g<=32) (_hh:h<=32) :
  eP a b c d e f g h+eP a b c d e f g h / 4294967296=eP (a+e) (b+f) (c+g) (d+h) e f g h:=by grind [eP]
theorem GL (a b c d e f g h:Nat) (_ha:a<=64):eP a b c d e f g h % 128=a:=by unfold eP;omega
theorem steps (A:Nat) (v:A<18446744073709551616):∃ j i X Y Z V:Nat,
  IntKind.u64.wrap (bits BinOp.and IntKind.u64 ((A:Int) / 2) 6148914691236517205+bits BinOp.and IntKind.u64 (A:Int) 6148914691236517205)=(j:Int)/\
  IntKind.u64.wrap (bits BinOp.and IntKind.u64 ((j:Int) / 4) 3689348814741910323+bits BinOp.and IntKind.u64 (j:Int) 3689348814741910323)=(i:Int)/\
  bits BinOp.and IntKind.u64 (IntKind.u64.wrap ((i:Int) / 16+(i:Int))) 1085102592571150095=(X:Int)/\
  IntKind.u64.wrap ((X:Int)+(X:Int) / 256)=(Y:Int)/\IntKind.u64.wrap ((Y:Int)+(Y:Int) / 65536)=(Z:Int)/\IntKind.u64.wrap ((Z:Int)+(Z:Int) / 4294967296)=(V:Int)/\
  V % 128=(ba A 64).length/\V<4700000000000000000:=by
 obtain ⟨a,b,c,d,e,f,g,h,p,q,r,hd,z,hf,n,t,w,o⟩:=yG A;have l:=GG A v;have k:=GH (eA 8 A) l.2;have m:=GI (eN 8 (eA 8 A)) k.2;have Ha:kP 8 (eN 8 (eA 8 A))=eP a b c d e f g h:=w;rw [Ha] at m;have B:=rJ a b c d e f g h (by omega) (by omega) (by omega) (by omega) (by omega) (by omega) (by omega) (by omega);have x:=sh8 a b c d e f g h p q r hd z hf n t;have C:=rJ (a+b) (b+c) (c+d) (d+e) (e+f) (f+g) (g+h) h (by omega) (by omega) (by omega) (by omega) (by omega) (by omega) (by omega) (by omega);have s:=GJ (a+b) (b+c) (c+d) (d+e) (e+f) (f+g) (g+h) h (by omega) (by omega) (by omega) (by omega) (by omega) (by omega) (by omega) (by omega);have D:=rJ (a+b+(c+d)) (b+c+(d+e)) (c+d+(e+f)) (d+e+(f+g)) (e+f+(g+h)) (f+g+h) (g+h) h (by omega) (by omega) (by omega) (by omega) (by omega) (by omega) (by omega) (by omega);have u:=GK (a+b+(c+d)) (b+c+(d+e)) (c+d+(e+f)) (d+e+(f+g)) (e+f+(g+h)) (f+g+h) (g+h) h (by omega) (by omega) (by omega) (by omega) (by omega) (by omega) (by omega) (by omega);have y:=rJ (a+b+(c+d)+(e+f+(g+h))) (b+c+(d+e)+(f+g+h)) (c+d+(e+f)+(g+h)) (d+e+(f+g)+h) (e+f+(g+h)) (f+g+h) (g+h) h (by omega) (by omega) (by omega) (by omega) (by omega) (by omega) (by omega) (by omega);refine ⟨_,_,_,eP (a+b) (b+c) (c+d) (d+e) (e+f) (f+g) (g+h) h,eP (a+b+(c+d)) (b+c+(d+e)) (c+d+(e+f)) (d+e+(f+g)) (e+f+(g+h)) (f+g+h) (g+h) h,_,l.1,k.1,m,?_,?_,?_,GL (a+b+(c+d)+(e+f+(g+h))) (b+c+(d+e)+(f+g+h)) (c+d+(e+f)+(g+h)) (d+e+(f+g)+h) (e+f+(g+h)) (f+g+h) (g+h) h (by omega) |>.trans (by rw [o];omega),y⟩
 ·exact wrapN _ _ (by rw [<- x];simp) (by omega)
 ·exact wrapN _ _ (by rw [<- s];simp) (by omega)
 ·exact wrapN _ _ (by rw [<- u];simp) (by omega)
theorem GM (A:Nat) (w:World) (b:A<18446744073709551616) :
  Calls prog 77 #[.int .u64 A] w λe w'=>e=.returned (.int .i64 ((ba A 64).length:Nat))/\w'=w:=by
 obtain ⟨k,d,X,Y,Z,V,r1,f,c,g,j,h,e,i⟩:=steps A b;have a:=qI e;clear e
 go_enter func77,ntmps77
 go_wp2
 go_ret;refine ⟨?_,rfl⟩;have e:bits BinOp.and IntKind.i64 (V:Int) 127=((ba A 64).length:Nat):=by
  rw [i64_and127];have:=a.o;omega
 exact congrArg (λz=>Ending.returned (z:Int)) e
theorem jc (A:Nat) (w:World) (a:A<18446744073709551616) :
  Calls prog 39 #[.int .u64 A] w λe w'=>e=.returned (.int .i64 ((ba A 64).length:Nat))/\w'=w:=by
 go_enter func39,ntmps39
 go_wp2_with fail
 refine (GM A _ a).mono ?_;rintro e w' ⟨rfl,rfl⟩
 go_wp2
 go_ret;exact ⟨rfl,rfl⟩
def aT (_:ag):Bool:=true
structure bD (w:World) (tb b o c:Nat) (l:List ag):Prop where
 cell:w.cell? tb=some (.slice (some ⟨b,o,none⟩) l.length c)
 cells:jD w b o l
 lt:b<w
 len:l.length<=64
theorem bD.tlt {b c:Nat} (h:bD w tb b o c l):tb<w:=Q3 w _ h.cell
theorem bD.below {b c:Nat} (h:bD w tb b o c l) (a:Below w w w'):bD w' tb b o c l:=
 ⟨(a.cell (p:=tb) h.tlt).trans h.cell,h.cells.below h.lt a,Q1 h.lt a.size,h.len⟩
theorem GN (x:ag) (w:World) :
  Calls prog 76 #[.agg #[(x.core:Int),(x.sock:Int),(x.node:Int)]] w λe w'=>e=.returned (.bool (aT x))/\Below w w w':=by
 
 go_enter func76,ntmps76
 go_wp2
 go_ret;exact ⟨rfl,(Q0 _ _).alloc (lR) _⟩
abbrev fE:=λ(x0 x1 x2:Int)=>(.cells #[x0,x1,x2] 74:Obj)
theorem GO (m b o c:Nat) (l:List ag) (w:World) (d:bD w m b o c l) :
  Calls prog 75 #[m,.func (.func 76) #[] #[]] w λe w'=>e=.returned (.int .u64 (au aT l:Nat))/\Below w w w':=by
 have n:=qI d.cells;have y:=d.cell;have Hh:=qI d.lt;have u:=d.len;clear d
 
 go_enter func75,ntmps75
 go_wp2
 go_loopw [5,13] (λt i wr=>∃ k:Nat,k<=l.length/\i=.int .i64 k/\t=.int .u64 (cA aT l k:Nat)/\Below w w wr) (λ_ i _=>l.length - (intOf i).toNat)
 case atStart=>exact ⟨0,by omega,rfl,rfl,Q0 _ _⟩
 case round=>
  obtain ⟨k,v,rfl,rfl,f⟩:=hrel
  by_cases g:k<l.length
  ·obtain ⟨He,Ha,Hc⟩:=(n.o.below Hh.o f) k g
   
   have q:=qI λh=>pP (p:=aT) (l:=l) (k:=k) h;have r:=qI λh=>pQ (p:=aT) (l:=l) (k:=k) h;have s:=qI (i8 aT l k (by omega));generalize l.getD k ar=x at *;have Hb:=f.alloc f.size (fE x.core x.sock x.node)
   go_wp2_with fail
   refine (GN x _).mono ?_;rintro e A ⟨rfl,a⟩;have Hf:=Hb.trans (a.mono Hb.size);clear Hb a
   rcases two (aT x) with a|a
   ·have j:Hu (bits BinOp.or IntKind.u64 (cA aT l k:Nat) (IntKind.u64.wrap (2 ^ k))=((cA aT l (k+1):Nat):Int)):=by
     unfold Hu;rw [pU _ _ s.o (by omega),q.o a]
    rw [a];clear a
    go_wp2
    go_roundw
    case rel=>exact ⟨k+1,by omega,by go_num,by rw [<- j.o],Hf⟩
    case measure=>simp [intOf];omega
   ·have j:Hu (cA aT l k=cA aT l (k+1)):=(r.o a).symm;rw [a];clear a
    go_wp2
    go_roundw
    case rel=>exact ⟨k+1,by omega,by go_num,by rw [<- j.o],Hf⟩
    case measure=>simp [intOf];omega
  ·have Hg:k=l.length:=by omega
   have H:Hu (cA aT l k=au aT l):=by unfold Hu;rw [Hg];rfl
   clear Hg
   go_wp2
   go_ret;exact ⟨congrArg (λz:Nat=>Ending.returned (.int .u64 z)) H.o,f⟩
theorem lW (a b o c:Nat) (l:List ag) (w:World) (d:bD w a b o c l) :
  Calls prog 38 #[a] w λe w'=>e=.returned (.int .u64 (au aT l:Nat))/\Below w w w':=by
 
 go_enter func38,ntmps38
 go_wp2_with fail
 refine (GO a b o c l w d).mono ?_;rintro e g ⟨rfl,f⟩
 go_wp2
 go_ret;exact ⟨rfl,f⟩
abbrev rK:=λ(x0:ag)=>(.cells #[(x0.core:Int),(x0.sock:Int),(x0.node:Int)] 74:Obj)
theorem GP (x:ag) (n:Int) (B:Nat) (w:World) (a:w.cell? B=some (.int .i64 n)) :
  Calls prog 261 #[.agg #[(x.core:Int),(x.sock:Int),(x.node:Int)],B] w λe w'=>e=.returned (.bool ((λx=>x.core == n) x))/\Below w w w':=by
 have Ha:=(((Q0 w w).alloc (lR) (rK x)).cell (p:=B) (Q3 w _ a)).trans a;clear a
 go_enter func261,ntmps261
 go_wp2
 go_ret;exact ⟨rfl,(Q0 _ _).alloc (lR) _⟩
theorem GQ (n:Int) (B q b o c:Nat) (l:List ag) (w:World) (d:bD w q b o c l) (j:w.cell? B=some (.int .i64 n)) :
  Calls prog 75 #[q,.func (.func 261) #[] #[.pointer (some ⟨B,0,none⟩)]] w λe w'=>e=.returned (.int .u64 (au (λx=>x.core == n) l:Nat))/\Below w w w':=by
 have r:=qI d.cells;have C:=d.cell;have Hj:=qI d.lt;have y:=d.len;clear d;have Hl:=qI j;have Hk:=qI (Q3 w _ j);clear j
 go_enter func75,ntmps75
 go_wp2
 go_loopw [5,13] (λt i wr=>∃ k:Nat,k<=l.length/\i=.int .i64 k/\t=.int .u64 (cA (λx=>x.core == n) l k:Nat)/\Below w w wr) (λ_ i _=>l.length - (intOf i).toNat)
 case atStart=>exact ⟨0,by omega,rfl,rfl,Q0 _ _⟩
 case round=>
  obtain ⟨k,A,rfl,rfl,f⟩:=hrel
  by_cases g:k<l.length
  ·obtain ⟨Ha,Hb,Hf⟩:=(r.o.below Hj.o f) k g;have Hg:=(f.cell (p:=B) Hk.o).trans Hl.o;have He:=qI ((((Q0 wr wr).alloc (lR) (.cells #[((l.getD k ar).core:Int),((l.getD k ar).sock:Int),((l.getD k ar).node:Int)] 74)).cell (p:=B) (Q3 wr _ Hg)).trans Hg);clear Hg;have s:=qI λh=>pP (p:=(λx=>x.core == n)) (l:=l) (k:=k) h;have u:=qI λh=>pQ (p:=(λx=>x.core == n)) (l:=l) (k:=k) h;have v:=qI (i8 (λx=>x.core == n) l k (by omega));generalize l.getD k ar=x at *;have Hc:=f.alloc f.size (fE x.core x.sock x.node)
   go_wp2_with fail
   refine (GP x n B _ He.o).mono ?_;rintro e D ⟨rfl,a⟩;have Hh:=Hc.trans (a.mono Hc.size);clear Hc a
   rcases two ((λx=>x.core == n) x) with a|a
   ·have m:Hu (bits BinOp.or IntKind.u64 (cA (λx=>x.core == n) l k:Nat) (IntKind.u64.wrap (2 ^ k))=((cA (λx=>x.core == n) l (k+1):Nat):Int)):=by
     unfold Hu;rw [pU _ _ v.o (by omega),s.o a]
    rw [a];clear a
    go_wp2
    go_roundw
    case rel=>exact ⟨k+1,by omega,by go_num,by rw [<- m.o],Hh⟩
    case measure=>simp [intOf];omega
   ·have m:Hu (cA (λx=>x.core == n) l k=cA (λx=>x.core == n) l (k+1)):=(u.o a).symm;rw [a];clear a
    go_wp2
    go_roundw
    case rel=>exact ⟨k+1,by omega,by go_num,by rw [<- m.o],Hh⟩
    case measure=>simp [intOf];omega
  ·have Hi:k=l.length:=by omega
   have H:Hu (cA (λx=>x.core == n) l k=au (λx=>x.core == n) l):=by unfold Hu;rw [Hi];rfl
   clear Hi
   go_wp2
   go_ret;exact ⟨congrArg (λz:Nat=>Ending.returned (.int .u64 z)) H.o,f⟩
theorem yR (a b o c:Nat) (l:List ag) (n:Int) (w:World) (d:bD w a b o c l) :
  Calls prog 213 #[a,n] w λe w'=>e=.returned (.int .u64 (au (λx=>x.core == n) l:Nat))/\Below w w w':=by
 have He:∀ (fn:Fn) (first cap:Array Value) (w:World),(Instr.makeFunc fn first cap).run prog w=.ok (.func fn first cap) w:=λ_ _ _ _=>rfl
 have Ha:=(Q0 w w).alloc (lR) (.cells #[n] 3);have Hc:=d.below Ha;have Hb:=qI (show (w.alloc (.cells #[n] 3)).cell? w=some (.int .i64 n) by simp);clear d
 go_enter func213,ntmps213
 go_wp2_with fail
 refine (GQ n w a b o c l _ Hc Hb.o).mono ?_;rintro e g ⟨rfl,f⟩
 go_wp2
 go_ret;exact ⟨rfl,Ha.trans (f.mono Ha.size)⟩
theorem GR (x:ag) (n:Int) (B:Nat) (w:World) (a:w.cell? B=some (.int .i64 n)) :
  Calls prog 260 #[.agg #[(x.core:Int),(x.sock:Int),(x.node:Int)],B] w λe w'=>e=.returned (.bool ((λx=>x.sock == n) x))/\Below w w w':=by
 have Ha:=(((Q0 w w).alloc (lR) (rK x)).cell (p:=B) (Q3 w _ a)).trans a;clear a
 go_enter func260,ntmps260
 go_wp2
 go_ret;exact ⟨rfl,(Q0 _ _).alloc (lR) _⟩
theorem GS (n:Int) (B q b o c:Nat) (l:List ag) (w:World) (d:bD w q b o c l) (j:w.cell? B=some (.int .i64 n)) :
  Calls prog 75 #[q,.func (.func 260) #[] #[.pointer (some ⟨B,0,none⟩)]] w λe w'=>e=.returned (.int .u64 (au (λx=>x.sock == n) l:Nat))/\Below w w w':=by
 have r:=qI d.cells;have C:=d.cell;have Hj:=qI d.lt;have y:=d.len;clear d;have Hl:=qI j;have Hk:=qI (Q3 w _ j);clear j
 go_enter func75,ntmps75
 go_wp2
 go_loopw [5,13] (λt i wr=>∃ k:Nat,k<=l.length/\i=.int .i64 k/\t=.int .u64 (cA (λx=>x.sock == n) l k:Nat)/\Below w w wr) (λ_ i _=>l.length - (intOf i).toNat)
 case atStart=>exact ⟨0,by omega,rfl,rfl,Q0 _ _⟩
 case round=>
  obtain ⟨k,A,rfl,rfl,f⟩:=hrel
  by_cases g:k<l.length
  ·obtain ⟨Ha,Hb,Hf⟩:=(r.o.below Hj.o f) k g;have Hg:=(f.cell (p:=B) Hk.o).trans Hl.o;have He:=qI ((((Q0 wr wr).alloc (lR) (.cells #[((l.getD k ar).core:Int),((l.getD k ar).sock:Int),((l.getD k ar).node:Int)] 74)).cell (p:=B) (Q3 wr _ Hg)).trans Hg);clear Hg;have s:=qI λh=>pP (p:=(λx=>x.sock == n)) (l:=l) (k:=k) h;have u:=qI λh=>pQ (p:=(λx=>x.sock == n)) (l:=l) (k:=k) h;have v:=qI (i8 (λx=>x.sock == n) l k (by omega));generalize l.getD k ar=x at *;have Hc:=f.alloc f.size (fE x.core x.sock x.node)
   go_wp2_with fail
   refine (GR x n B _ He.o).mono ?_;rintro e D ⟨rfl,a⟩;have Hh:=Hc.trans (a.mono Hc.size);clear Hc a
   rcases two ((λx=>x.sock == n) x) with a|a
   ·have m:Hu (bits BinOp.or IntKind.u64 (cA (λx=>x.sock == n) l k:Nat) (IntKind.u64.wrap (2 ^ k))=((cA (λx=>x.sock == n) l (k+1):Nat):Int)):=by
     unfold Hu;rw [pU _ _ v.o (by omega),s.o a]
    rw [a];clear a
    go_wp2
    go_roundw
    case rel=>exact ⟨k+1,by omega,by go_num,by rw [<- m.o],Hh⟩
    case measure=>simp [intOf];omega
   ·have m:Hu (cA (λx=>x.sock == n) l k=cA (λx=>x.sock == n) l (k+1)):=(u.o a).symm;rw [a];clear a
    go_wp2
    go_roundw
    case rel=>exact ⟨k+1,by omega,by go_num,by rw [<- m.o],Hh⟩
    case measure=>simp [intOf];omega
  ·have Hi:k=l.length:=by omega
   have H:Hu (cA (λx=>x.sock == n) l k=au (λx=>x.sock == n) l):=by unfold Hu;rw [Hi];rfl
   clear Hi
   go_wp2
   go_ret;exact ⟨congrArg (λz:Nat=>Ending.returned (.int .u64 z)) H.o,f⟩
theorem GT (a b o c:Nat) (l:List ag) (n:Int) (w:World) (d:bD w a b o c l) :
  Calls prog 212 #[a,n] w λe w'=>e=.returned (.int .u64 (au (λx=>x.sock == n) l:Nat))/\Below w w w':=by
 have He:∀ (fn:Fn) (first cap:Array Value) (w:World),(Instr.makeFunc fn first cap).run prog w=.ok (.func fn first cap) w:=λ_ _ _ _=>rfl
 have Ha:=(Q0 w w).alloc (lR) (.cells #[n] 3);have Hc:=d.below Ha;have Hb:=qI (show (w.alloc (.cells #[n] 3)).cell? w=some (.int .i64 n) by simp);clear d
 go_enter func212,ntmps212
 go_wp2_with fail
 refine (GS n w a b o c l _ Hc Hb.o).mono ?_;rintro e g ⟨rfl,f⟩
 go_wp2
 go_ret;exact ⟨rfl,Ha.trans (f.mono Ha.size)⟩
theorem GU (x:ag) (n:Nat) (B:Nat) (w:World) (a:w.cell? B=some (.int .u8 n)) (c:0<=x.node) (g3:x.node<=3) (b:n<256) :
  Calls prog 210 #[.agg #[(x.core:Int),(x.sock:Int),(x.node:Int)],B] w λe w'=>e=.returned (.bool ((bn n) x))/\Below w w w':=by
 have Ha:=qI (yL n x.node.toNat b);have Hb:=(((Q0 w w).alloc (lR) (rK x)).cell (p:=B) (Q3 w _ a)).trans a;clear a
 go_enter func210,ntmps210
 go_wp2
 go_ret;exact ⟨congrArg (λz=>Ending.returned (.bool z)) Ha.o,(Q0 _ _).alloc (lR) _⟩
theorem GV (n:Nat) (B r b o c:Nat) (l:List ag) (w:World) (f:bD w r b o c l) (j:w.cell? B=some (.int .u8 n)) (q:Good l) (A:n<256) :
  Calls prog 75 #[r,.func (.func 210) #[] #[.pointer (some ⟨B,0,none⟩)]] w λe w'=>e=.returned (.int .u64 (au (bn n) l:Nat))/\Below w w w':=by
 have u:=qI f.cells;have G:=f.cell;have Hl:=qI f.lt;have E:=f.len;clear f;have Hk:=qI j;have Hj:=qI (Q3 w _ j);have s:=qI q;clear j q
 go_enter func75,ntmps75
 go_wp2
 go_loopw [5,13] (λt i wr=>∃ k:Nat,k<=l.length/\i=.int .i64 k/\t=.int .u64 (cA (bn n) l k:Nat)/\Below w w wr) (λ_ i _=>l.length - (intOf i).toNat)
 case atStart=>exact ⟨0,by omega,rfl,rfl,Q0 _ _⟩
 case round=>
  obtain ⟨k,F,rfl,rfl,g⟩:=hrel
  by_cases d:k<l.length
  ·obtain ⟨Hc,He,Hb⟩:=(u.o.below Hl.o g) k d;have Hg:=(g.cell (p:=B) Hj.o).trans Hk.o;have Ha:=qI ((((Q0 wr wr).alloc (lR) (.cells #[((l.getD k ar).core:Int),((l.getD k ar).sock:Int),((l.getD k ar).node:Int)] 74)).cell (p:=B) (Q3 wr _ Hg)).trans Hg);clear Hg;obtain ⟨C,g3⟩:=s.o.at d;have v:=qI λh=>pP (p:=(bn n)) (l:=l) (k:=k) h;have y:=qI λh=>pQ (p:=(bn n)) (l:=l) (k:=k) h;have D:=qI (i8 (bn n) l k (by omega));generalize l.getD k ar=x at *;have Hf:=g.alloc g.size (fE x.core x.sock x.node)
   go_wp2_with fail
   refine (GU x n B _ Ha.o C g3 A).mono ?_;rintro e I ⟨rfl,a⟩;have Hh:=Hf.trans (a.mono Hf.size);clear Hf a
   rcases two ((bn n) x) with a|a
   ·have m:Hu (bits BinOp.or IntKind.u64 (cA (bn n) l k:Nat) (IntKind.u64.wrap (2 ^ k))=((cA (bn n) l (k+1):Nat):Int)):=by
     unfold Hu;rw [pU _ _ D.o (by omega),v.o a]
    rw [a];clear a
    go_wp2
    go_roundw
    case rel=>exact ⟨k+1,by omega,by go_num,by rw [<- m.o],Hh⟩
    case measure=>simp [intOf];omega
   ·have m:Hu (cA (bn n) l k=cA (bn n) l (k+1)):=(y.o a).symm;rw [a];clear a
    go_wp2
    go_roundw
    case rel=>exact ⟨k+1,by omega,by go_num,by rw [<- m.o],Hh⟩
    case measure=>simp [intOf];omega
  ·have Hi:k=l.length:=by omega
   have H:Hu (cA (bn n) l k=au (bn n) l):=by unfold Hu;rw [Hi];rfl
   clear Hi
   go_wp2
   go_ret;exact ⟨congrArg (λz:Nat=>Ending.returned (.int .u64 z)) H.o,g⟩
theorem GX (a b o c:Nat) (l:List ag) (n:Nat) (w:World) (d:bD w a b o c l) (f:Good l) (h:n<256) :
  Calls prog 168 #[a,.int .u8 n] w λe w'=>e=.returned (.int .u64 (au (bn n) l:Nat))/\Below w w w':=by
 have He:∀ (fn:Fn) (first cap:Array Value) (w:World),(Instr.makeFunc fn first cap).run prog w=.ok (.func fn first cap) w:=λ_ _ _ _=>rfl
 have Ha:=(Q0 w w).alloc (lR) (.cells #[.int .u8 n] 45);have Hc:=d.below Ha;have Hb:=qI (show (w.alloc (.cells #[.int .u8 n] 45)).cell? w=some (.int .u8 n) by simp);clear d
 go_enter func168,ntmps168
 go_wp2_with fail
 refine (GV n w a b o c l _ Hc Hb.o f h).mono ?_;rintro e i ⟨rfl,g⟩
 go_wp2
 go_ret;exact ⟨rfl,Ha.trans (g.mono Ha.size)⟩
def Vq (f:ag->Int) (l:List ag) (k:Nat):Nat:=au (λx=>decide (f x<k)) l
def lX (f:ag->Int) (l:List ag) (k:Nat):Nat:=au (λx=>f x == (k:Int)) l
def b9 (s:Nat) (l:List ag) (j:Int):Nat->Nat
 | 0=>0
 | k+1=>if (s.testBit k && decide ((l.getD k ar).node=j))=true then b9 s l j k+1 else b9 s l j k
theorem rL (h:s.testBit k=true) (a:(l.getD k ar).node=j):b9 s l j (k+1)=b9 s l j k+1:=by
 rw [b9,if_pos (by rw [h,a];simp)]
theorem jd (a:(l.getD k ar).node≠j):b9 s l j (k+1)=b9 s l j k:=by
 rw [b9,if_neg (by simp only [Q7 a,Bool.and_false];simp)]
theorem rM (h:s.testBit k=false):b9 s l j (k+1)=b9 s l j k:=by
 rw [b9,if_neg (by rw [h];simp)]
theorem rN (s:Nat) (l:List ag) (j:Int) (k:Nat):b9 s l j k<=k:=by induction k <;> grind [b9]
structure cE (w:World) (B:Nat) (a b c d:Int):Prop where
 c0:w.cell? B=some (.int .i64 a)
 c1:w.cell? ⟨B,1,none⟩=some (.int .i64 b)
 c2:w.cell? ⟨B,2,none⟩=some (.int .i64 c)
 c3:w.cell? ⟨B,3,none⟩=some (.int .i64 d)
 f0:w.frozen? B=false
 f1:w.frozen? ⟨B,1,none⟩=false
 f2:w.frozen? ⟨B,2,none⟩=false
 f3:w.frozen? ⟨B,3,none⟩=false
theorem cE.lt (h:cE w B a b c d):B<w:=Q3 w _ h.c0
theorem cE.below (h:cE w B a b c d) (e:Below K w w') (f:B<K):cE w' B a b c d:=
 ⟨(e.cell (p:=B) f).trans h.c0,(e.cell (p:=⟨B,1,none⟩) f).trans h.c1,(e.cell (p:=⟨B,2,none⟩) f).trans h.c2,(e.cell (p:=⟨B,3,none⟩) f).trans h.c3,
  (e.frozen (p:=B) f).trans h.f0,(e.frozen (p:=⟨B,1,none⟩) f).trans h.f1,(e.frozen (p:=⟨B,2,none⟩) f).trans h.f2,(e.frozen (p:=⟨B,3,none⟩) f).trans h.f3⟩
theorem cE.made (w:World) (t:TypeId) (a b c d:Int):cE (w.alloc (.cells #[a,b,c,d] t)) w a b c d:=by
 constructor <;> simp
theorem cE.alloc (h:cE w B a b c d) (o:Obj):cE (w.alloc o) B a b c d:=
 h.below ((Q0 _ _).alloc (lR) _) h.lt
theorem cE.set_other (h:cE w B a b c d) {p:Addr} (f:B≠p.block) (v:Value):cE (w.setCell p v) B a b c d:=by
 have e:(w.setCell p v).heap[B]?=w.heap[B]?:=Below.heap_setCell _ _ _ _ f;exact ⟨(World.cell?_of_block (w:=w) (a:=B) e).trans h.c0,(World.cell?_of_block (w:=w) (a:=⟨B,1,none⟩) e).trans h.c1,(World.cell?_of_block (w:=w) (a:=⟨B,2,none⟩) e).trans h.c2,(World.cell?_of_block (w:=w) (a:=⟨B,3,none⟩) e).trans h.c3,
  (World.frozen?_of_block (w:=w) (a:=B) e).trans h.f0,(World.frozen?_of_block (w:=w) (a:=⟨B,1,none⟩) e).trans h.f1,(World.frozen?_of_block (w:=w) (a:=⟨B,2,none⟩) e).trans h.f2,(World.frozen?_of_block (w:=w) (a:=⟨B,3,none⟩) e).trans h.f3⟩
theorem cE.set0 (h:cE w B a b c d) (x:Int):cE (w.setCell B x) B x b c d:=by
 obtain ⟨c0,c1,c2,c3,f0,f1,f2,f3⟩:=h;constructor <;> first|exact World.frozen?_setCell.trans (by assumption)|go_simp
theorem cE.set1 (h:cE w B a b c d) (x:Int):cE (w.setCell ⟨B,1,none⟩ x) B a x c d:=by
 obtain ⟨c0,c1,c2,c3,f0,f1,f2,f3⟩:=h;constructor <;> first|exact World.frozen?_setCell.trans (by assumption)|go_simp
theorem cE.set2 (h:cE w B a b c d) (x:Int):cE (w.setCell ⟨B,2,none⟩ x) B a b x d:=by
 obtain ⟨c0,c1,c2,c3,f0,f1,f2,f3⟩:=h;constructor <;> first|exact World.frozen?_setCell.trans (by assumption)|go_simp
theorem cE.set3 (h:cE w B a b c d) (x:Int):cE (w.setCell ⟨B,3,none⟩ x) B a b c x:=by
 obtain ⟨c0,c1,c2,c3,f0,f1,f2,f3⟩:=h;constructor <;> first|exact World.frozen?_setCell.trans (by assumption)|go_simp
theorem uF (A n:Nat) (w:World) (a:A<18446744073709551616) (c:n<64) :
  Calls prog 148 #[.int .u64 A,(n:Int)] w λe w'=>e=.returned (.bool (A.testBit n))/\w'=w:=by
 have b:=Gf A n a
 go_enter func148,ntmps148
 go_wp2_with go_in
 go_ret;exact ⟨rfl,rfl⟩
theorem rO {fn:Func} {p:Tmp} {b:TypeId} (h:fn.results=#[.cell p b]) (tmps:Array Value) (P:Program) (w:World) :
  (results fn tmps).run P w=((asAddr (tmps.getD p undef)).run P w).andThen λa c=>(loadVar b a).run P c:=by
 simp only [results,h]
 simp [Sem.run_bind,Result.andThen]
def oD (s:Nat) (l:List ag) (k:Nat):Value:=.agg #[.int .i64 (b9 s l 0 k:Nat),.int .i64 (b9 s l 1 k:Nat),.int .i64 (b9 s l 2 k:Nat),.int .i64 (b9 s l 3 k:Nat)]
abbrev uG:=(.cells #[(0:Int),(0:Int),(0:Int),(0:Int)] 202:Obj)
theorem uH (A E b o c:Nat) (l:List ag) (w:World) (y:bD w E b o c l) (L:A<18446744073709551616) (D:Good l) :
  Calls prog 106 #[E,.int .u64 A] w λe w'=>e=.returned (oD A l l.length)/\Below w w w':=by
 have Hg:=((Q0 w w).alloc (lR) (uG));have Hf:=Hg.alloc Hg.size (uG);have Hk:=y.below Hf;have I:=qI y.cells;have X:=Hk.cell;have Hl:=qI y.lt;have V:=y.len;have F:=qI D;have Hi:=qI Hf;clear y Hk Hg Hf D
 go_enter func106,ntmps106
 go_wp2
 go_loopw [13] (λi wr=>∃ k:Nat,k<=l.length/\i=.int .i64 k/\cE wr w 0 0 0 0/\cE wr (w.heap.size+1) (b9 A l 0 k:Nat) (b9 A l 1 k:Nat) (b9 A l 2 k:Nat) (b9 A l 3 k:Nat)/\Below w w wr) (λi _=>l.length - (intOf i).toNat)
 case atStart=>exact ⟨0,by omega,rfl,(cE.made _ _ _ _ _ _).alloc _,by have:=cE.made (w.alloc (uG)) 202 0 0 0 0;simpa [b9] using this,Hi.o⟩
 case round=>
  obtain ⟨k,M,rfl,f,g,B⟩:=hrel
  by_cases n:k<l.length
  ·obtain ⟨Hj,Hh,Hc⟩:=(I.o.below Hl.o B) k n;obtain ⟨C,g3⟩:=F.o.at n;have h:=qI (uF A k (wr.alloc (.cells #[((l.getD k ar).core:Int),((l.getD k ar).sock:Int),((l.getD k ar).node:Int)] 74)) L (by omega));have He:=B.alloc B.size (.cells #[((l.getD k ar).core:Int),((l.getD k ar).sock:Int),((l.getD k ar).node:Int)] 74);have Hb:=f.alloc (.cells #[((l.getD k ar).core:Int),((l.getD k ar).sock:Int),((l.getD k ar).node:Int)] 74);have Ha:=g.alloc (.cells #[((l.getD k ar).core:Int),((l.getD k ar).sock:Int),((l.getD k ar).node:Int)] 74);have H:=qI (rN A l 0 k);have G:=qI (rN A l 1 k);have J:=qI (rN A l 2 k);have K:=qI (rN A l 3 k);have a:(l.getD k ar).node=0\/(l.getD k ar).node=1\/(l.getD k ar).node=2\/(l.getD k ar).node=3:=by omega
   rcases two (A.testBit k) with d|d
   ·rw [d] at h
    rcases a with a|a|a|a
    ·have r:=qI (rL (l:=l) (j:=0) d a);have u:=qI (jd (s:=A) (l:=l) (k:=k) (j:=1) (by rw [a];decide));have t:=qI (jd (s:=A) (l:=l) (k:=k) (j:=2) (by rw [a];decide));have p:=qI (jd (s:=A) (l:=l) (k:=k) (j:=3) (by rw [a];decide));have m:=Ha.c0;have r0:=Ha.f0;have Hb:=qI Hb;have Ha:=qI Ha;clear d f g;rw [a] at Hc h He Hb Ha m r0;clear a C g3;have m0:=H.o;generalize l.getD k ar=x at *;generalize hcz:b9 A l 0 k=z at *
     go_wp2_with (go_at_call 148;refine h.o.mono ?_;rintro e w' ⟨rfl,rfl⟩)
     go_roundw
     case rel=>
      refine ⟨k+1,by omega,by go_num,Hb.o.set_other (by simp) _,?_,He.setCell (by simp) _⟩;rw [r.o,u.o,t.o,p.o]
      have:=Ha.o.set0 ((z:Int)+1)
      simpa using this
     case measure=>simp [intOf];omega
    ·have r:=qI (rL (l:=l) (j:=1) d a);have q:=qI (jd (s:=A) (l:=l) (k:=k) (j:=0) (by rw [a];decide));have t:=qI (jd (s:=A) (l:=l) (k:=k) (j:=2) (by rw [a];decide));have p:=qI (jd (s:=A) (l:=l) (k:=k) (j:=3) (by rw [a];decide));have m:=Ha.c1;have r0:=Ha.f1;have Hb:=qI Hb;have Ha:=qI Ha;clear d f g;rw [a] at Hc h He Hb Ha m r0;clear a C g3;have m0:=G.o;generalize l.getD k ar=x at *;generalize hcz:b9 A l 1 k=z at *
     go_wp2_with (go_at_call 148;refine h.o.mono ?_;rintro e w' ⟨rfl,rfl⟩)
     go_roundw
     case rel=>
      refine ⟨k+1,by omega,by go_num,Hb.o.set_other (by simp) _,?_,He.setCell (by simp) _⟩;rw [r.o,q.o,t.o,p.o]
      have:=Ha.o.set1 ((z:Int)+1)
      simpa using this
     case measure=>simp [intOf];omega
    ·have r:=qI (rL (l:=l) (j:=2) d a);have q:=qI (jd (s:=A) (l:=l) (k:=k) (j:=0) (by rw [a];decide));have u:=qI (jd (s:=A) (l:=l) (k:=k) (j:=1) (by rw [a];decide));have p:=qI (jd (s:=A) (l:=l) (k:=k) (j:=3) (by rw [a];decide));have m:=Ha.c2;have r0:=Ha.f2;have Hb:=qI Hb;have Ha:=qI Ha;clear d f g;rw [a] at Hc h He Hb Ha m r0;clear a C g3;have m0:=J.o;generalize l.getD k ar=x at *;generalize hcz:b9 A l 2 k=z at *
     go_wp2_with (go_at_call 148;refine h.o.mono ?_;rintro e w' ⟨rfl,rfl⟩)
     go_roundw
     case rel=>
      refine ⟨k+1,by omega,by go_num,Hb.o.set_other (by simp) _,?_,He.setCell (by simp) _⟩;rw [r.o,q.o,u.o,p.o]
      have:=Ha.o.set2 ((z:Int)+1)
      simpa using this
     case measure=>simp [intOf];omega
    ·have r:=qI (rL (l:=l) (j:=3) d a);have q:=qI (jd (s:=A) (l:=l) (k:=k) (j:=0) (by rw [a];decide));have u:=qI (jd (s:=A) (l:=l) (k:=k) (j:=1) (by rw [a];decide));have t:=qI (jd (s:=A) (l:=l) (k:=k) (j:=2) (by rw [a];decide));have m:=Ha.c3;have r0:=Ha.f3;have Hb:=qI Hb;have Ha:=qI Ha;clear d f g;rw [a] at Hc h He Hb Ha m r0;clear a C g3;have m0:=K.o;generalize l.getD k ar=x at *;generalize hcz:b9 A l 3 k=z at *
     go_wp2_with (go_at_call 148;refine h.o.mono ?_;rintro e w' ⟨rfl,rfl⟩)
     go_roundw
     case rel=>
      refine ⟨k+1,by omega,by go_num,Hb.o.set_other (by simp) _,?_,He.setCell (by simp) _⟩;rw [r.o,q.o,u.o,t.o]
      have:=Ha.o.set3 ((z:Int)+1)
      simpa using this
     case measure=>simp [intOf];omega
   ·rw [d] at h;have q:=qI (rM (l:=l) (j:=0) d);have u:=qI (rM (l:=l) (j:=1) d);have t:=qI (rM (l:=l) (j:=2) d);have p:=qI (rM (l:=l) (j:=3) d);have Hb:=qI Hb;have Ha:=qI Ha;clear d f g a;generalize l.getD k ar=x at *
    go_wp2_with (go_at_call 148;refine h.o.mono ?_;rintro e w' ⟨rfl,rfl⟩)
    go_roundw
    case rel=>exact ⟨k+1,by omega,by go_num,Hb.o,by rw [q.o,u.o,t.o,p.o];exact Ha.o,He⟩
    case measure=>simp [intOf];omega
  ·have Hm:k=l.length:=by omega
   subst Hm;clear M n;have m:=g.c0;have P:=g.c1;have T:=g.c2;have Q:=g.c3;have O:=f.c0;have R:=f.c1;have N:=f.c2;have W:=f.c3;have r0:=f.f0;have r1:=f.f1;have U:=f.f2;have S:=f.f3;clear f g
   go_wp2_with fail
   (try simp only [Exit.inBlock,Exit.then]);refine bodyPost_ret (v:=oD A l l.length) ?_ rfl ⟨rfl,?_⟩
   ·unfold oD;rw [rO rfl];go_simp
   ·exact (((B.setCell (lR) _).setCell (lR) _).setCell (lR) _).setCell (lR) _
theorem or8 (s n:Nat) (hs:s<256) (c:n<8):bits BinOp.or IntKind.u8 (s:Int) (IntKind.u8.wrap (2 ^ n))=((s ||| 2 ^ n:Nat):Int):=by
 have key:∀ (a:Fin 256) (b:Fin 8),bits BinOp.or IntKind.u8 ((a.val:Nat):Int) (IntKind.u8.wrap (2 ^ b.val))=((a.val ||| 2 ^ b.val:Nat):Int):=by decide +kernel
 exact key ⟨s,hs⟩ ⟨n,c⟩
theorem GY (s n:Nat) (hs:s<256) (c:n<8):bits BinOp.or IntKind.u8 (s:Int) (2 ^ n % 256)=((s ||| 2 ^ n:Nat):Int):=by
 have key:∀ (a:Fin 256) (b:Fin 8),bits BinOp.or IntKind.u8 ((a.val:Nat):Int) (2 ^ b.val % 256)=((a.val ||| 2 ^ b.val:Nat):Int):=by decide +kernel
 exact key ⟨s,hs⟩ ⟨n,c⟩
def gZ (l:List ag):Nat->Nat
 | 0=>0
 | k+1=>gZ l k ||| 2 ^ (l.getD k ar).node.toNat
theorem GZ (l:List ag) (k j:Nat):(gZ l k).testBit j=true↔∃ i,i<k/\(l.getD i ar).node.toNat=j:=by induction k <;> grind [gZ]
def iA (f:Nat->Bool):Nat->Nat
 | 0=>0
 | k+1=>if f k then iA f k ||| 2 ^ k else iA f k
theorem yS (f:Nat->Bool) (k j:Nat):(iA f k).testBit j=(decide (j<k) && f j):=by induction k <;> grind [iA]
theorem G0 (s:Nat) (l:List ag) (j:Int) (k:Nat):0<b9 s l j k↔∃ i,i<k/\s.testBit i=true/\(l.getD i ar).node=j:=by induction k <;> grind [b9,ar]
theorem G3 (l:List ag) (a:Good l):iA (λj=>decide (0<b9 (au aT l) l j l.length)) 4=gZ l l.length:=by
 apply Nat.eq_of_testBit_eq;intro j;rw [yS,Bool.eq_iff_iff,GZ,Bool.and_eq_true,Qp,Qp,G0];constructor
 ·rintro ⟨_,i,hi,_,b⟩;exact ⟨i,hi,by omega⟩
 ·rintro ⟨i,hi,b⟩
  have:=a.at hi
  exact ⟨by omega,i,hi,by rw [ux];simp [aT,hi],by omega⟩
theorem G4 (f:Nat->Bool) (k:Nat) (a:k<=4):iA f k<256:=by
 apply Nat.lt_pow_two_of_testBit (n:=8);intro i hi;rw [yS];simp [show ¬ i<k by omega]
theorem yT (a b c d:Int) (w:World):∀ k:Nat,k<4->∃ x,(Instr.index 202 (.agg #[a,b,c,d]) (k:Int)).run prog w=.ok (x:Int) w/\x=[a,b,c,d].getD k 0:=by
 intro k e
 have:k=0\/k=1\/k=2\/k=3:=by omega
 rcases this with rfl|rfl|rfl|rfl
 ·exact ⟨a,by kernel_rfl,rfl⟩
 ·exact ⟨b,by kernel_rfl,rfl⟩
 ·exact ⟨c,by kernel_rfl,rfl⟩
 ·exact ⟨d,by kernel_rfl,rfl⟩
theorem uI (h b o c:Nat) (l:List ag) (w:World) (d:bD w h b o c l) (m:Good l) :
  Calls prog 62 #[h] w λe w'=>e=.returned (.int .u8 (gZ l l.length:Nat))/\Below w w w':=by
 rw [<- G3 l m];have B:=qI d;have q:=qI m;have Hc:=i8 aT l l.length d.len;have s:=qI (lW h b o c l w d)
 change au aT l<_ at Hc
 generalize au aT l=A at *;obtain ⟨f,hf⟩:∃ f:Nat->Bool,f=λ(j:Nat)=>decide (0<b9 A l j l.length):=⟨_,rfl⟩
 rw [<- hf];have u:Hu (∀ j:Nat,f j=decide (0<b9 A l j l.length)):=λj=>by rw [hf]
 clear d m hf
 go_enter func62,ntmps62
 go_wp2_with fail
 refine s.o.mono ?_;rintro e C ⟨rfl,Ha⟩
 go_wp2_with fail
 refine (uH A h b o c l C (B.o.below Ha) Hc q.o).mono ?_;rintro e z ⟨rfl,He⟩;have r:=Ha.trans (He.mono Ha.size);have v:=qI λk p=>yT (b9 A l 0 l.length:Nat) (b9 A l 1 l.length:Nat) (b9 A l 2 l.length:Nat) (b9 A l 3 l.length:Nat) z k p;clear Ha He Hc;unfold oD
 go_wp2_with fail
 go_loop [3,10] (λt i=>∃ k:Nat,k<=4/\i=.int .i64 k/\t=.int .u8 (iA f k:Nat)) (λ_ i=>4 - (intOf i).toNat)
 case atStart=>exact ⟨0,by omega,rfl,rfl⟩
 case round=>
  obtain ⟨k,p,rfl,rfl⟩:=hrel
  by_cases a:k<4
  ·obtain ⟨x,D,Hf⟩:=v.o k a;have Hg:x=(b9 A l k l.length:Nat):=by
    rw [Hf]
    have:k=0\/k=1\/k=2\/k=3:=by omega
    rcases this with rfl|rfl|rfl|rfl <;> rfl
   have y:=qI (G4 f k (by omega));have Hb:=u.o k;clear Hf
   by_cases g:0<b9 A l k l.length
   ·have Hi:0<x:=by omega
    have n:Hu (bits BinOp.or IntKind.u8 (iA f k:Nat) (2 ^ k % 256)=((iA f (k+1):Nat):Int)):=by
     unfold Hu;rw [GY _ _ y.o (by omega),iA,if_pos (by rw [Hb];exact Qc g)]
    clear Hg g Hb
    go_wp2_with fail
    go_round
    case rel=>exact ⟨k+1,by omega,by go_num,by rw [<- n.o]⟩
    case measure=>simp [intOf];omega
   ·have Hi:¬ 0<x:=by omega
    have n:Hu (iA f k=iA f (k+1)):=by
     unfold Hu;rw [iA,if_neg (by rw [Hb];simpa using g)]
    clear Hg g Hb
    go_wp2_with fail
    go_round
    case rel=>exact ⟨k+1,by omega,by go_num,by rw [<- n.o]⟩
    case measure=>simp [intOf];omega
  ·have Hh:k=4:=by omega
   subst Hh;clear p a
   go_wp2
   go_ret;exact ⟨rfl,r⟩

section
open Go.Maps (Keyed int_keyed keyOf_int_mk)
theorem uJ (n m:Int) (w:World):Calls prog 117 #[n,m] w λe w'=>e=.returned (.bool (decide (0<=n) && decide (n<m)))/\w'=w:=by
 rcases two (decide (0<=n)) with h|h
 ·have a:0<=n:=of_decide_eq_true h;rw [h];clear h
  go_enter func117,ntmps117
  go_wp2
  go_ret;exact ⟨by simp,rfl⟩
 ·have a:¬ 0<=n:=of_decide_eq_false h;rw [h];clear h
  go_enter func117,ntmps117
  go_wp2
  go_ret;exact ⟨by simp,rfl⟩
theorem G5 (x:ag) (w:World):Calls prog 73 #[.agg #[(x.core:Int),(x.sock:Int),(x.node:Int)]] w λe w'=>e=.returned (.bool (jb x))/\Below w w w':=by
 have a:=qI ((Q0 w w).alloc (lR) (rK x));have b:=qI (uJ x.core 64);have c:=qI (uJ x.sock 64);have d:=qI (uJ x.node 4);unfold jb;generalize (decide (0<=x.core) && decide (x.core<64))=b1 at *;generalize (decide (0<=x.sock) && decide (x.sock<64))=b2 at *;generalize (decide (0<=x.node) && decide (x.node<4))=f at *;cases b1 <;> cases b2
 case false.false|false.true=>
  all_goals
   go_enter func73,ntmps73
   go_wp2_with fail
   refine (b.o _).mono ?_;rintro e w' ⟨rfl,rfl⟩
   go_wp2
   go_ret;exact ⟨rfl,a.o⟩
 case true.false=>
  go_enter func73,ntmps73
  go_wp2_with fail
  refine (b.o _).mono ?_;rintro e w' ⟨rfl,rfl⟩
  go_wp2_with fail
  refine (c.o _).mono ?_;rintro e w' ⟨rfl,rfl⟩
  go_wp2
  go_ret;exact ⟨rfl,a.o⟩
 case true.true=>
  go_enter func73,ntmps73
  go_wp2_with fail
  refine (b.o _).mono ?_;rintro e w' ⟨rfl,rfl⟩
  go_wp2_with fail
  refine (c.o _).mono ?_;rintro e w' ⟨rfl,rfl⟩
  go_wp2_with fail
  refine (d.o _).mono ?_;rintro e w' ⟨rfl,rfl⟩
  go_wp2
  go_ret;exact ⟨by simp,a.o⟩
def iB (l:List ag):List Value:=l.flatMap λx=>[.int .i64 x.core,.int .i64 x.sock,.int .i64 x.node]
theorem yU (l:List ag):(iB l).length=l.length*3:=by
 induction l with
 | nil=>rfl
 | cons a r ih=>simp only [iB,List.flatMap_cons,Q2,Qg,List.length_nil] at ih ⊢;omega
theorem yV (l:List ag) (k:Nat) (b:k<l.length):(iB l)[k*3]?=some (.int .i64 (l.getD k ar).core)/\(iB l)[k*3+1]?=some (.int .i64 (l.getD k ar).sock)/\(iB l)[k*3+2]?=some (.int .i64 (l.getD k ar).node):=by
 induction l generalizing k with
 | nil=>simp at b
 | cons a r ih=>
  cases k with
  | zero=>simp [iB]
  | succ k=>
   have:=ih k (by simpa using b)
   have e:iB (a :: r)=[.int .i64 a.core,.int .i64 a.sock,.int .i64 a.node]++iB r:=rfl;rw [e,show (k+1)*3=k*3+3 by omega]
   simpa using this
theorem G6 {b o:Nat} (h:jD w b o l) (j:Nat) (u:Value) (a:(iB l)[j]?=some u):w.cell? ((⟨b,o,none⟩:Addr).add j)=some u:=by
 have Ha:j<l.length*3:=by rw [<- yU];exact (List.getElem?_eq_some_iff.1 a).1
 obtain ⟨c,f,d⟩:=h (j / 3) (by omega);obtain ⟨c0,c1,c2⟩:=yV l (j / 3) (by omega);rw [Addr.add_lit]
 have:j=j / 3*3\/j=j / 3*3+1\/j=j / 3*3+2:=by omega
 rcases this with e|e|e
 ·rw [<- e] at c0 c;rw [c,<- c0,a]
 ·rw [<- e] at c1;rw [Nat.add_assoc,<- e] at f;rw [f,<- c1,a]
 ·rw [<- e] at c2;rw [Nat.add_assoc,<- e] at d;rw [d,<- c2,a]
theorem G7 (l:List ag):∀ u∈iB l,u.oneCell'=true:=by
 intro u a;simp only [iB,List.mem_flatMap] at a;obtain ⟨x,_,b⟩:=a
 simp at b
 rcases b with rfl|rfl|rfl <;> rfl
theorem G8:(prog.info? 74).map (λi=>(i.zero,i.size,i.bytes))=some (some (.agg #[(0:Int),(0:Int),(0:Int)]),3,24):=by kernel_rfl
theorem G9 (b o n c:Nat) (w:World):Sem.run prog (binOp BinOp.eql 22 (.slice (some ⟨b,o,none⟩) n c) (.slice none 0 0)) w=.ok false w:=by kernel_rfl
def Ha (w:World) (l:List ag) (e:Ending) (w':World):Prop:=∃ g c',e=.returned (.slice (some ⟨g,0,none⟩) l.length c')/\jD w' g 0 l/\g<w'.heap.size/\Below w w w'
theorem Hb (b o c:Nat) (l:List ag) (w:World) (f:jD w b o l) (a:b<w) (s:0<l.length) (v:l.length<=64) :
  Calls prog 74 #[.slice (some ⟨b,o,none⟩) l.length c] w λe w'=>Ha w l e w':=by
 obtain ⟨i0,hi,Hi,Hj,Hl⟩:=info_parts G8;have Hf:=(Q0 w w).alloc (lR) (.cells #[] 74);have i:=qI (f.below a Hf);have p:=qI Hf;have Hm:=G9 b o l.length c w;clear f Hf
 go_enter func74,ntmps74
 go_wp2_with (at_builtin;(refine wpList_append_own _ rfl _ _ 22 rfl w 74 i0 (.agg #[(0:Int),(0:Int),(0:Int)]) 3 24 underlying22 hi Hi Hj Hl rfl (by decide) _ _ _ rfl (World.ownsRow_lit w #[] 0 (lR) (Nat.zero_le _) rfl) ⟨b,o,none⟩ l.length c (iB l) rfl (yU l) (G6 i.o) (G7 l) (by unfold maxLen;omega) (by omega) (by simp) ?_);intro t r Hc He _)
 rcases Hc.2 with ⟨rfl,u⟩|⟨g,d,q,rfl,h,Hg,_⟩
 ·omega
 ·have Hn:=(Hc.lt g rfl).2;have Hh:Hu (jD r g 0 l):=by
   intro k n;obtain ⟨c0,c1,c2⟩:=yV l k n;rw [<- List.nil_append (iB l)] at c0 c1 c2;refine ⟨?_,?_,?_⟩
   ·rw [Qd,Hc.cellAt (k*3) (by omega)];exact c0
   ·rw [Qd,Hc.cellAt (k*3+1) (by omega)];exact c1
   ·rw [Qd,Hc.cellAt (k*3+2) (by omega)];exact c2
  have Hk:=qI (p.o.grown He (by simp) (λj m=>by cases m;exact lR));clear Hc He Hg h;rw [Qd]
  go_wp2
  go_ret;exact ⟨g,d,rfl,Hh.o,Hn,Hk.o⟩
end
section
open RowKit Go.ChangeMaps
open Go.Maps (Keyed int_keyed keyOf_int_mk)
def oE:Value->Option (DataW Unit × List MemPlace)
 | .agg ⟨[.int .i64 a,.int .i64 b,.int .i64 c]⟩=>some (.agg [.lit (.int .i64 a),.lit (.int .i64 b),.lit (.int .i64 c)],[])
 | _=>none
def ni (x:ag):DataW Unit:=.agg [.lit (.int .i64 x.core),.lit (.int .i64 x.sock),.lit (.int .i64 x.node)]
theorem Hc (x:ag):oE (.agg #[(x.core:Int),(x.sock:Int),(x.node:Int)])=some (ni x,[]):=rfl
theorem Hd {x:ag} {a:List MemPlace} (h:oE v=some (ni x,a)):v=.agg #[(x.core:Int),(x.sock:Int),(x.node:Int)]:=by
 unfold oE at h
 split at h
 ·simp only [ni,Option.some.injEq,Prod.mk.injEq,DataW.agg.injEq,List.cons.injEq,DataW.lit.injEq,Lit.int.injEq,true_and,and_true] at h;obtain ⟨⟨rfl,rfl,rfl⟩,_⟩:=h;rfl
 ·cases h
def gG (w:World) (B n:Nat) (f:Int->Option ag):Prop:=
 ∃ D:DataW Unit,w.ownsMap prog 3 oE B n D/\∀ k:Int,0<=k->k<64->Maps.has D (.int .i64 k)=(f k).isSome/\D.atKey (.int .i64 k) (ni ar)=ni ((f k).getD ar)
theorem rP:Keyed prog 3:=int_keyed underlying3
theorem rQ {k:Int} (a:0<=k) (h:k<64):(Lit.int .i64 k).wf=true:=WalkArith.wf_i64 (by omega)
theorem gG.alloc (h:gG w B n f) (o:Obj):gG (w.alloc o) B n f:=by
 obtain ⟨D,a,b⟩:=h;exact ⟨D,a.alloc o,b⟩
theorem gG.below (h:gG w B n f) (b:Below K w w') (e:B<K):gG w' B n f:=by
 obtain ⟨D,⟨d,a,g,r⟩,c⟩:=h;exact ⟨D,⟨d,a,(b.block B e).trans g,r⟩,c⟩
theorem gG.lt (h:gG w B n f):B<w.heap.size:=by
 obtain ⟨D,a,_⟩:=h;exact a.lt
theorem gG.made (w:World):gG (w.alloc (.map #[] 0)) w.heap.size 0 (λ_=>none):=
 ⟨.map [],World.ownsMap_made w _ _ _,λ_ _ _=>⟨rfl,rfl⟩⟩
theorem He (w:World):(zeroValue 74).run prog w=.ok (.agg #[(0:Int),(0:Int),(0:Int)]) w:=by kernel_rfl
theorem rR {o:Oper} {a:Act} (w:World) (h:o.guard=none) (m x:Operand) (c:o.op=Op.lookup 163 m x true)
  (B n:Nat) (f:Int->Option ag) (k:Int) (e:0<=k) (b:k<64) (s:a.eval m=.map (some B)) (r:a.eval x=.int .i64 k) (l:gG w B n f) (y:ag) (ok:Bool) (j:(f k).getD ar=y) (d:(f k).isSome=ok)
  (u:wpList prog ops Q rest (a.put o.dst (.tuple #[.agg #[.int .i64 y.core,.int .i64 y.sock,.int .i64 y.node],.bool ok])) w) :
  wpList prog ops Q (o :: rest) a w:=by
 obtain ⟨D,t,p⟩:=l;refine wpList_lookup_own_ok w h m x 163 c 3 74 rP underlying163 oE (He w) (ni ar) [] rfl B n D s t _ (.int .i64 k) r (keyOf_int_mk underlying3 (rQ e b)) ?_;intro v z g;obtain ⟨q,i⟩:=p k e b;rw [i,j] at g;rw [q,d,Hd g];exact u
theorem yW {o:Oper} {a:Act} (w:World) (h:o.guard=none) (m x v:Operand) (b:o.op=Op.mapUpdate 163 m x v)
  (B n:Nat) (f:Int->Option ag) (k:Int) (i:0<=k) (c:k<64) (y:ag) (u:a.eval m=.map (some B)) (t:a.eval x=.int .i64 k) (r:a.eval v=.agg #[.int .i64 y.core,.int .i64 y.sock,.int .i64 y.node]) (l:gG w B n f) (p:n<maxLen)
  (z:∀ w',gG w' B (n+1) (λj=>if k=j then some y else f j)->w.grownBy w' (some B)->wpList prog ops Q rest (a.put o.dst undef) w') :
  wpList prog ops Q (o :: rest) a w:=by
 obtain ⟨D,g,q⟩:=l;refine wpList_mapUpdate_own w h m x v 163 b 3 74 rP underlying163 oE B n D u g p _ _ (.int .i64 k) t r (keyOf_int_mk underlying3 (rQ i c)) (ni y) [] (Hc y) ?_;intro w' He Hf;refine z w' ⟨_,He,λj s d=>?_⟩ Hf
 by_cases e:k=j
 ·subst e;have Ha:WideAt.IsKeyLit (Lit.int .i64 k):=trivial;rw [Maps.has_put_same g.isMap Ha,Maps.atKey_put_same g.isMap Ha]
  simp
 ·have Hb:(Lit.int .i64 j)≠(Lit.int .i64 k):=by simp;omega
  rw [Maps.has_put_other Hb,Maps.atKey_put_other Hb];simp only [if_neg e];exact q j s d
theorem Hf (l:List ag) (k:Nat):(λj=>if (l.getD k ar).core=j then some (l.getD k ar) else dP l k j)=dP l (k+1):=by
 funext j;rw [dP]
theorem gH {a:Addr} (h:w.cell? a=some v) (o:Obj):(w.alloc o).cell? a=some v:=
 (((Q0 w w).alloc (lR) o).cell (Q3 w _ h)).trans h
def iC (w:World) (l:List ag) (e:Ending) (w':World):Prop:=
 (dO l=0->∃ tb g c,e=.returned (.tuple #[.pointer (some ⟨tb,0,none⟩),.nilIface])/\bD w' tb g 0 c l)/\(dO l≠0->e=.returned (.tuple #[.pointer none,.iface 108 (dO l:Int)]))/\Below w w w'
theorem iC.bad {f:Int} (hf:dO l=f) (b:f≠0) (a:Below w w w'):iC w l (.returned (.tuple #[.pointer none,.iface 108 f])) w':=
 ⟨λh=>absurd (hf.symm.trans h) b,λ_=>by rw [hf],a⟩
theorem iC.good {g c:Nat} (hf:dO l=0) (b:bD w' tb g 0 c l) (a:Below w w w'):iC w l (.returned (.tuple #[tb,.nilIface])) w':=
 ⟨λ_=>⟨tb,g,c,rfl,b⟩,λh=>absurd hf h,a⟩
theorem Hg (f:Option Addr) (n c:Nat) (l:List ag) (w:World) (d:l.length=n) (a:n=0\/64<n) :
  Calls prog 37 #[.slice f n c] w λe w'=>iC w l e w':=by
 have b:Hu (dO l=2):=by unfold Hu dO;rw [if_pos (by omega)]
 clear d
 rcases a with rfl|a
 ·go_enter func37,ntmps37
  go_wp2
  go_ret2;exact iC.bad b.o (by decide) (Q0 _ _)
 ·have g:((n:Int) == 0)=false:=by simp;omega
  go_enter func37,ntmps37
  go_wp2
  go_ret2;exact iC.bad b.o (by decide) (Q0 _ _)
abbrev pV:=(.cells #[(ar.core:Int),(ar.sock:Int),(ar.node:Int)] 74:Obj)
theorem Hh (b o c:Nat) (l:List ag) (w:World) (z:jD w b o l) (A:b<w) (C:0<l.length) (f:l.length<=64) :
  Calls prog 37 #[.slice (some ⟨b,o,none⟩) l.length c] w λe w'=>iC w l e w':=by
 have V:((l.length:Int) == 0)=false:=by rw [Qr];omega
 have J:=qI z;have Hv:=qI A;have R:=qI (gG.made w);have O:=qI ((Q0 w w).alloc (lR) (.map #[] 0));have HI:=@run_makeMap prog;clear z A
 go_enter func37,ntmps37
 go_wp2
 go_loopw [21] (λi wr=>∃ k:Nat,k<=l.length/\i=.int .i64 k/\Hu (eO l k=0)/\gG wr w k (dP l k)/\Below w w wr) (λi _=>l.length - (intOf i).toNat)
 case atStart=>exact ⟨0,by omega,rfl,rfl,R.o,O.o⟩
 case round=>
  obtain ⟨k,Z,rfl,B,E,m⟩:=hrel
  by_cases r:k<l.length
  ·obtain ⟨Hi,He,Hg⟩:=(J.o.below Hv.o m) k r;have HS:=qI (Hf l k);have Hz:=qI λa=>yP l k 1 C f r B.o (GA (l:=l) (k:=k) a) (by decide);have Q:=qI λa z=>yP l k 3 C f r B.o (GB (l:=l) (k:=k) a z) (by decide);have K:=qI λa z=>Gz (l:=l) (k:=k) B.o a z;have P:=qI λh=>GD (l:=l) (k:=k) (x:=l.getD k ar) h;have Hw:=qI λy h=>GE (l:=l) (k:=k) (x:=l.getD k ar) (y:=y) B.o h;generalize l.getD k ar=x at *;have Hk:=m.alloc m.size (fE x.core x.sock x.node);have Ho:=E.alloc (fE x.core x.sock x.node);have Hx:=qI (show (wr.alloc (fE x.core x.sock x.node)).cell? wr=some (.int .i64 x.core)/\(wr.alloc (fE x.core x.sock x.node)).cell? ⟨wr,1,none⟩=some (.int .i64 x.sock)/\(wr.alloc (fE x.core x.sock x.node)).cell? ⟨wr,2,none⟩=some (.int .i64 x.node) by simp);clear E
   go_wp2_with fail
   refine (G5 x _).mono ?_;rintro e F ⟨rfl,a⟩;have Hc:=Hk.trans (a.mono Hk.size);have Hj:=Ho.below a Ho.lt;obtain ⟨I,N,M⟩:=Hx.o;have D:=(a.cell (p:=wr.heap.size) (by simp)).trans I;have n:=(a.cell (p:=⟨wr,1,none⟩) (by simp)).trans N;have q:=(a.cell (p:=⟨wr,2,none⟩) (by simp)).trans M;clear I N M Hx Ho Hk a m Hi He Hg
   rcases two (jb x) with hi|hi
   ·rw [hi];obtain ⟨t,g1,_⟩:=(yN x).1 hi
    rcases hs:dP l k x.core with _|y
    ·have Hs:Hu (eO l (k+1)=0):=K.o hi (P.o hs);have Hm:=Hc.alloc Hc.size (pV);have Hr:=Hj.alloc (pV);have r0:=gH D (pV);have r1:=gH n (pV);have H:=gH q (pV);have v:Hu ((dP l k x.core).getD ar=ar):=by unfold Hu;rw [hs];rfl
     have s:Hu ((dP l k x.core).isSome=false):=by unfold Hu;rw [hs];rfl
     clear n q hs hi
     go_wp2_with (first
      | (at_lookup;refine rR _ rfl _ _ rfl w.heap.size k (dP l k) x.core t g1 rfl rfl Hj ar false v.o s.o ?_)
      | (at_mapUpdate;refine yW _ rfl _ _ _ rfl w.heap.size k (dP l k) x.core t g1 x rfl rfl rfl Hr (by unfold maxLen;omega) ?_;intro T Hq Ha))
     go_roundw
     case rel=>exact ⟨k+1,by omega,by go_num,Hs,by rw [<- HS.o];exact Hq,Hm.grown Ha Hm.size (λj G=>by cases G;exact lR)⟩
     case measure=>simp [intOf];omega
    ·by_cases d:y=x
     ·subst d;have Hs:Hu (eO l (k+1)=0):=K.o hi (by rw [Hw.o y hs];simp);have Hm:=Hc.alloc Hc.size (fE y.core y.sock y.node);have Hr:=Hj.alloc (fE y.core y.sock y.node);have r0:=gH D (fE y.core y.sock y.node);have r1:=gH n (fE y.core y.sock y.node);have H:=gH q (fE y.core y.sock y.node);have v:Hu ((dP l k y.core).getD ar=y):=by unfold Hu;rw [hs];rfl
      have s:Hu ((dP l k y.core).isSome=true):=by unfold Hu;rw [hs];rfl
      clear n q hs hi
      go_wp2_with (first
       | (at_lookup;refine rR _ rfl _ _ rfl w.heap.size k (dP l k) y.core t g1 rfl rfl Hj y true v.o s.o ?_)
       | (at_mapUpdate;refine yW _ rfl _ _ _ rfl w.heap.size k (dP l k) y.core t g1 y rfl rfl rfl Hr (by unfold maxLen;omega) ?_;intro T Hq Ha))
      go_roundw
      case rel=>exact ⟨k+1,by omega,by go_num,Hs,by rw [<- HS.o];exact Hq,Hm.grown Ha Hm.size (λj G=>by cases G;exact lR)⟩
      case measure=>simp [intOf];omega
     ·have u:Hu (dO l=3):=Q.o hi (by rw [Hw.o y hs];exact Qc d);have X:y.core=x.core:=by obtain ⟨_,_,_,h⟩:=yQ hs;exact h
      have U:(¬ y.sock=x.sock)\/(y.sock=x.sock/\¬ y.node=x.node):=by
       by_cases Hn:y.sock=x.sock
       ·refine .inr ⟨Hn,λY=>d ?_⟩;cases y;cases x;simp_all
       ·exact .inl Hn
      have v:Hu ((dP l k x.core).getD ar=y):=by unfold Hu;rw [hs];rfl
      have s:Hu ((dP l k x.core).isSome=true):=by unfold Hu;rw [hs];rfl
      rcases U with Hn|⟨Hn,W⟩
      ·have r0:=gH D (fE x.core y.sock y.node);have r1:=gH n (fE x.core y.sock y.node);have H:=gH q (fE x.core y.sock y.node);clear n q hs hi d
       go_wp2_with (at_lookup;refine rR _ rfl _ _ rfl w k (dP l k) x.core t g1 rfl rfl Hj y true v.o s.o ?_)
       go_ret2;exact iC.bad u.o (by decide) (Hc.alloc Hc.size _)
      ·have r0:=gH D (.cells #[(x.core:Int),(x.sock:Int),(y.node:Int)] 74);have r1:=gH n (.cells #[(x.core:Int),(x.sock:Int),(y.node:Int)] 74);have H:=gH q (.cells #[(x.core:Int),(x.sock:Int),(y.node:Int)] 74);clear n q hs hi d
       go_wp2_with (at_lookup;refine rR _ rfl _ _ rfl w k (dP l k) x.core t g1 rfl rfl Hj y true v.o s.o ?_)
       go_ret2;exact iC.bad u.o (by decide) (Hc.alloc Hc.size _)
   ·have u:Hu (dO l=1):=Hz.o hi;rw [hi];clear hi
    go_wp2
    go_ret2;exact iC.bad u.o (by decide) Hc
  ·have Hy:k=l.length:=by omega
   have u:Hu (dO l=0):=Gy l C f (by rw [<- Hy];exact B.o);have S:=qI (Hb b o c l wr (J.o.below Hv.o m) (Q1 Hv.o m.size) C f);clear Hy E
   go_wp2_with fail
   refine S.o.mono ?_;rintro e F ⟨g,L,rfl,Ht,Hl,a⟩;have Hk:=m.trans (a.mono m.size);have Hp:=qI ((Q0 F F).alloc (lR) (.cells #[.slice g l.length L] 168));have Ht:=qI Ht;clear a
   go_wp2
   go_ret2;exact iC.good (g:=g) (c:=L) u.o ⟨by simp,Ht.o.below Hl Hp.o,Q1 Hl Hp.o.size,f⟩ (Hk.trans (Hp.o.mono Hk.size))
end
theorem fX.cases {f:Option Addr} {c:Nat} (h:fX w (.slice f l.length c) l):(l.length=0\/64<l.length)\/∃ b o,f=some ⟨b,o,none⟩/\jD w b o l/\b<w.heap.size/\0<l.length/\l.length<=64:=by
 by_cases a:l.length=0\/64<l.length
 ·exact .inl a
 ·rcases h with ⟨rfl,_⟩|⟨b,o,g,d,e⟩
  ·simp at a
  ·simp only [Value.slice.injEq] at d;exact .inr ⟨b,o,d.1,e,Q3 w _ (e 0 (by omega)).1,by omega,by omega⟩
theorem yX (d:Option Addr) (c:Nat) (l:List ag) (w:World) (i:fX w (.slice d l.length c) l) :
  Calls prog 37 #[.slice d l.length c] w λe w'=>iC w l e w':=by
 rcases i.cases with h|⟨b,o,rfl,j,a,g,f⟩
 ·exact Hg d l.length c l w rfl h
 ·exact Hh b o c l w j a g f
theorem Hi (h:dO l=0):Good l:=by
 intro c a
 have:=(yN c).1 ((GF h).2.2 c a)
 omega
