import Derived.Test.YtjlblidnfebmiaaGreatDoorF2
import Derived.ProofKit
import Derived.OpenShut
import Derived.ChangeOld
import Derived.Deep.Strs
import Derived.Deep.Slices
import Derived.Carry
import Derived.JoinedOf
import Derived.JoinedAt
import Derived.Laws.Bits128
import Derived.Maps.OwnSet
set_option maxRecDepth 100000
set_option maxHeartbeats 16000000
open Go Go.RowKit
open Go.Proofs.Tryz
namespace Go.Proofs.YtjlblidnfebmiaaGreatDoor
variable{B K k n o s tb:Nat}{Q:Exit->Act->World->Prop}{a b c d j:Int}{f:Int->Option ah}{l:List ah}{ops:Array Oper}{rest:List Oper}{v:Value}{w w':World}{x:ah}
def jP (w:World) (b o:Nat) (l:List ah):Prop:=
 ∀k,k<l.length->w.cell? ⟨b,o+k*3,none⟩=some (.int .i64 (l.getD k av).core)/\w.cell? ⟨b,o+k*3+1,none⟩=some (.int .i64 (l.getD k av).sock)/\w.cell? ⟨b,o+k*3+2,none⟩=some (.int .i64 (l.getD k av).node)
def gU (w:World) (v:Value) (l:List ah):Prop:=
 (l=[]/\∃ao c,v=.slice ao 0 c)\/∃b o c,v=.slice (some ⟨b,o,none⟩) l.length c/\jP w b o l
theorem jP.below{d:World}{b:Nat}(h:jP w b o l)(a:b<d)(c:Below d w w'):jP w' b o l:=by
 intro k g;obtain⟨e,f,i⟩:=h k g;exact⟨(c.cell (p:=⟨b,o+k*3,none⟩) a).trans e,(c.cell (p:=⟨b,o+k*3+1,none⟩) a).trans f,(c.cell (p:=⟨b,o+k*3+2,none⟩) a).trans i⟩
theorem gU.below(h:gU w v l)(a:Below w w w'):gU w' v l:=by
 rcases h with h|⟨b,o,c,g,i⟩
 ·exact .inl h
 ·refine .inr ⟨b,o,c,g,λk f=>?_⟩;obtain⟨d,e,j⟩:=i k f;have Ha:=Q3 w _ d;exact⟨(a.cell (p:=⟨b,o+k*3,none⟩) Ha).trans d,(a.cell (p:=⟨b,o+k*3+1,none⟩) Ha).trans e,(a.cell (p:=⟨b,o+k*3+2,none⟩) Ha).trans j⟩
def Good (l:List ah):Prop:=∀c∈l,0<=c.core/\c.core<=63/\0<=c.sock/\c.sock<=63/\0<=c.node/\c.node<=3
theorem Good.at(h:Good l)(a:k<l.length):0<=(l.getD k av).node/\(l.getD k av).node<=3:=by
 have:l.getD k av∈l:=by simp[a]
 have:=h _ this
 exact⟨this.2.2.2.2.1,this.2.2.2.2.2⟩
def br (m:Nat) (c:ah):Bool:=m.testBit c.node.toNat
theorem zg(m n:Nat)(a:m<256):(bits BinOp.and IntKind.u8 ((m:Int) / 2 ^ n) 1 == 1)=m.testBit n:=by
 have e:((m:Int) / 2 ^ n)=((m / 2 ^ n:Nat):Int):=by simp
 have Ha:m / 2 ^ n<256:=Nat.lt_of_le_of_lt (Nat.div_le_self _ _) a;rw[e,Nat.testBit_eq_decide_div_mod_eq];generalize m / 2 ^ n=q at Ha;have key:∀q:Fin 256,(bits BinOp.and IntKind.u8 ((q.val:Nat):Int) 1 == 1)=decide (q.val % 2=1):=by decide +kernel
 exact key ⟨q,Ha⟩
section
open Go.ChangeShapes Go.WideShapes Go.ChangeAt Go.RowKit
theorem zh:prog.cellsOf 74=3:=by kernel_rfl
theorem GY:prog.cellsOf 3=1:=by kernel_rfl
instance:Inhabited ah:=⟨av⟩
theorem GZ{H:Type}{enc:TypeId × Value->H}{base:Nat}{m:Nat->Bool}{held:Bool}{d:Nat}{cs:List Value}{x:DataW H × List MemPlace}
  (h:DataW.trod enc prog w base m held d 74 cs=some x):∃y:ah,cs=[.int .i64 y.core,.int .i64 y.sock,.int .i64 y.node]:=by
 obtain⟨o,t,s,n,_,f,k,j,g⟩:=Deep.trod_struct3 underlying74 h;rw[zh] at f;rw[GY] at k j g
 match cs,f with
 | [a,b,c],_=>
  obtain⟨p,e,_,_⟩:=DataW.trod_int underlying3 k;obtain⟨q,i,_,_⟩:=DataW.trod_int underlying3 j;obtain⟨r,l,_,_⟩:=DataW.trod_int underlying3 g
  simp at e i l
  exact⟨⟨p,q,r⟩,by rw[e,i,l]⟩
theorem G0{H:Type}{enc:TypeId × Value->H}{W:World}{v:Option Addr}{len j:Nat}{d:DataW H}{p:List MemPlace}
  (h:DataW.Trod enc prog W 0 (λ_=>true) true 22 (.slice v len j) d p):∃l:List ah,l.length=len/\gU W (.slice v l.length j) l:=by
 obtain⟨B,hf⟩:=h
 rcases Deep.open_slice underlying22 hf with⟨Hb,_⟩|⟨a,w,z,m,n,D,G,Hb,_,F,I,Hc,_,t⟩
 ·simp[Value.cells] at Hb
  obtain⟨rfl,rfl,rfl⟩:=Hb;exact⟨[],rfl,.inl ⟨rfl,none,0,rfl⟩⟩
 ·simp[Value.cells] at Hb
  obtain⟨rfl,rfl,rfl⟩:=Hb;rw[if_pos rfl] at Hc;subst Hc;rw[zh] at t;obtain⟨f,Hf⟩:=Deep.choose_lt (α:=ah) (n:=len) (p:=λi y=>W.cell? (a.add (i*3))=some (.int .i64 y.core)/\W.cell? (a.add (i*3+1))=some (.int .i64 y.sock)/\W.cell? (a.add (i*3+2))=some (.int .i64 y.node)) (λi hi=>by
   obtain⟨E,o,q⟩:=t i (by omega);obtain⟨y,rfl⟩:=GZ q;obtain⟨_,_,c⟩:=World.cells?_some o;have s:=c 0 (by omega);have x:=c 1 (by omega);have A:=c 2 (by omega);rw[Deep.add_add] at s x A;exact⟨y,by simpa using s,by simpa using x,by simpa using A⟩)
  refine⟨(List.range len).map f,by simp,?_⟩
  by_cases r:len=0
  ·subst r;exact .inl ⟨rfl,_,_,rfl⟩
  ·obtain⟨b,off,g⟩:=a;have c:=(Hf 0 (by omega)).1;have Ha:g=none:=by simpa[Addr.add] using World.cell?_spot c
   subst Ha;refine .inr ⟨b,off,_,rfl,λk C=>?_⟩;have He:k<len:=by simpa using C
   obtain⟨u,o,q⟩:=Hf k He;rw[Addr.add_lit] at u o q;have e:((List.range len).map f).getD k av=f k:=by simp[He]
   rw[e];exact⟨u,by rw[Nat.add_assoc];exact o,by rw[Nat.add_assoc];exact q⟩
end
def jl (c:ah):Bool:=decide (0<=c.core) && decide (c.core<64) && (decide (0<=c.sock) && decide (c.sock<64)) && (decide (0<=c.node) && decide (c.node<4))
theorem zi(c:ah):jl c=true↔0<=c.core/\c.core<64/\0<=c.sock/\c.sock<64/\0<=c.node/\c.node<4:=by
 simp only[jl,Bool.and_eq_true,Qp];omega
def oR (a c:ah):Bool:=decide (a.core=c.core) && decide (a≠c)
def lk (l:List ah) (c:ah):Nat->Bool
 | 0=>false
 | k+1=>lk l c k || oR (l.getD k av) c
theorem uY(l:List ah)(c:ah)(k:Nat):lk l c k=true↔∃j,j<k/\oR (l.getD j av) c=true:=by induction k <;> grind[lk]
def kx (l:List ah) (i:Nat):Int:=if jl (l.getD i av) then (if lk l (l.getD i av) i then 3 else 0) else 1
def eX (l:List ah):Nat->Int
 | 0=>0
 | k+1=>if eX l k=0 then kx l k else eX l k
def dU (l:List ah):Int:=if l.length=0\/64<l.length then 2 else eX l l.length
theorem G3(l:List ah)(i k:Nat)(f:Int)(hf:f≠0)(h:eX l i=f):eX l (i+k)=f:=by induction k <;> grind[eX]
theorem zj(l:List ah)(k:Nat)(h:eX l k=0):∀j,j<k->kx l j=0:=by induction k <;> grind[eX]
theorem zk(l:List ah)(i:Nat)(f:Int)(d:0<l.length)(c:l.length<=64)(hi:i<l.length)(a:eX l i=0)(b:kx l i=f)(hf:f≠0):dU l=f:=by
 unfold dU;rw[if_neg (by omega)]
 have:eX l (i+1)=f:=by rw[eX,if_pos a,b]
 have:=G3 l (i+1) (l.length - (i+1)) f hf this
 rwa [show i+1+(l.length - (i+1))=l.length by omega] at this
theorem G4(l:List ah)(c:0<l.length)(a:l.length<=64)(b:eX l l.length=0):dU l=0:=by
 unfold dU;rw[if_neg (by omega)];exact b
theorem G5(h:eX l k=0)(a:jl (l.getD k av)=true)(b:lk l (l.getD k av) k=false):eX l (k+1)=0:=by
 rw[eX,if_pos h,kx,if_pos a,if_neg (by rw[b];simp)]
theorem G6(a:jl (l.getD k av)=false):kx l k=1:=by rw[kx,if_neg (by rw[a];simp)]
theorem G7(a:jl (l.getD k av)=true)(b:lk l (l.getD k av) k=true):kx l k=3:=by
 rw[kx,if_pos a,if_pos b]
def dV (l:List ah):Nat->Int->Option ah
 | 0,_=>none
 | k+1,c=>if (l.getD k av).core=c then some (l.getD k av) else dV l k c
theorem zl(h:dV l k c=some x):∃j,j<k/\l.getD j av=x/\x.core=c:=by induction k <;> grind[dV,av]
theorem G8(h:dV l k c=none):∀j,j<k->(l.getD j av).core≠c:=by induction k <;> grind[dV,av]
theorem G9(h:dV l k x.core=none):lk l x k=false:=by grind[uY,oR,G8]
theorem Ha{y:ah}(hf:eX l k=0)(h:dV l k x.core=some y):lk l x k=decide (y≠x):=by
 obtain⟨j,n,g,Hc⟩:=zl h;rw[Bool.eq_iff_iff,uY,Qp];constructor
 ·rintro⟨i,hi,c⟩;simp only[oR,Bool.and_eq_true,Qp] at c;intro e
  by_cases f:i=j
  ·subst f;rw[g] at c;exact c.2 e
  ·have key_Ost:∀a b,a<b->b<k->(l.getD a av).core=(l.getD b av).core->l.getD a av=l.getD b av:=by
    intro a b He r p;have d:=zj l k hf b r;unfold kx at d
    by_cases m:jl (l.getD b av)=true
    ·rw[if_pos m] at d
     by_cases o:lk l (l.getD b av) b=true
     ·rw[if_pos o] at d;cases d
     ·apply Qt;intro Hb;exact o ((uY _ _ _).2 ⟨a,He,by simp only[oR,Bool.and_eq_true,Qp];exact⟨p,Hb⟩⟩)
    ·rw[if_neg m] at d;cases d
   have:l.getD i av=l.getD j av:=by
    rcases Nat.lt_or_gt_of_ne f with q|q
    ·exact key_Ost i j q n (by rw[c.1,g,Hc])
    ·exact (key_Ost j i q hi (by rw[c.1,g,Hc])).symm
   rw[this,g] at c;exact c.2 e
 ·intro Hb;exact⟨j,n,by simp only[oR,Bool.and_eq_true,Qp];rw[g];exact⟨Hc,Hb⟩⟩
theorem Hb(h:dU l=0):0<l.length/\l.length<=64/\∀c∈l,jl c=true:=by
 unfold dU at h
 by_cases d:l.length=0\/64<l.length
 ·rw[if_pos d] at h;cases h
 ·rw[if_neg d] at h;refine⟨by omega,by omega,λc f=>?_⟩;obtain⟨i,hi,rfl⟩:=List.getElem_of_mem f;have a:=zj l _ h i hi;have e:l.getD i av=l[i]:=by simp[hi]
  unfold kx at a;rw[e] at a
  by_cases b:jl l[i]=true
  ·exact b
  ·rw[if_neg b] at a;cases a
theorem m0:lZ 8=6148914691236517205:=by decide +kernel
theorem m1:li 8=3689348814741910323:=by decide +kernel
theorem m2:oP 8=1085102592571150095:=by decide +kernel
theorem uZ(a:Nat)(m:Nat)(d:a<18446744073709551616)(c:m<18446744073709551616)(z:Int)(b:z=(a:Int)):bits BinOp.and IntKind.u64 z (m:Int)=((a &&& m:Nat):Int):=by
 rw[b];exact bits_and_u64_nat a m d c
theorem wrapN(n:Nat)(z:Int)(a:z=(n:Int))(h:n<18446744073709551616):IntKind.u64.wrap z=(n:Int):=by
 rw[IntKind.wrap_u64,a];omega
theorem Hc(A:Nat)(a:A<18446744073709551616):IntKind.u64.wrap (bits BinOp.and IntKind.u64 ((A:Int) / 2) 6148914691236517205+bits BinOp.and IntKind.u64 (A:Int) 6148914691236517205)=((eJ 8 A:Nat):Int)/\eJ 8 A<18446744073709551616:=by grind[uZ,eJ,m0,wrapN,Nat.and_le_right]
theorem Hd(x:Nat)(a:x<18446744073709551616):IntKind.u64.wrap (bits BinOp.and IntKind.u64 ((x:Int) / 4) 3689348814741910323+bits BinOp.and IntKind.u64 (x:Int) 3689348814741910323)=((eW 8 x:Nat):Int)/\eW 8 x<=7378697629483820646:=by grind[uZ,eW,m1,wrapN,Nat.and_le_right]
theorem He(x:Nat)(a:x<=7378697629483820646):bits BinOp.and IntKind.u64 (IntKind.u64.wrap ((x:Int) / 16+(x:Int))) 1085102592571150095=((lj 8 x:Nat):Int):=by grind[wrapN,lj,m2,uZ]
def eY (a b c d e f g h:Nat):Nat:=a+256*(b+256*(c+256*(d+256*(e+256*(f+256*(g+256*h))))))
theorem su(a b c d e f g h:Nat)(_ha:a<=64)(_hb:b<=64)(_hc:c<=64)(_hd:d<=64)(_he:e<=64)(_hf:f<=64)(_hg:g<=64)(_hh:h<=64):eY a b c d e f g h<4700000000000000000:=by unfold eY;omega
theorem sh8(a b c d e f g h:Nat)(_ha:a<=8)(_hb:b<=8)(_hc:c<=8)(_hd:d<=8)(_he:e<=8)(_hf:f<=8)(_hg:g<=8)(_hh:h<=8) :
  eY a b c d e f g h+eY a b c d e f g h / 256=eY (a+b) (b+c) (c+d) (d+e) (e+f) (f+g) (g+h) h:=by grind[eY]
theorem Hf(a b c d e f g h:Nat)(_ha:a<=16)(_hb:b<=16)(_hc:c<=16)(_hd:d<=16)(_he:e<=16)(_hf:f<=16)(_hg:g<=16)(_hh:h<=16) :
  eY a b c d e f g h+eY a b c d e f g h / 65536=eY (a+c) (b+d) (c+e) (d+f) (e+g) (f+h) g h:=by grind[eY]
theorem Hg(a b c d e f g h:Nat)(_ha:a<=32)(_hb:b<=32)(_hc:c<=32)(_hd:d<=32)(_he:e<=32)(_hf:f<=32)(_hg:g<=32)(_hh:h<=32) :
  eY a b c d e f g h+eY a b c d e f g h / 4294967296=eY (a+e) (b+f) (c+g) (d+h) e f g h:=by grind[eY]
theorem Hh(a b c d e f g h:Nat)(_ha:a<=64):eY a b c d e f g h % 128=a:=by unfold eY;omega
theorem steps(A:Nat)(n:A<18446744073709551616):∃i j X Y Z V:Nat,
  IntKind.u64.wrap (bits BinOp.and IntKind.u64 ((A:Int) / 2) 6148914691236517205+bits BinOp.and IntKind.u64 (A:Int) 6148914691236517205)=(i:Int)/\
  IntKind.u64.wrap (bits BinOp.and IntKind.u64 ((i:Int) / 4) 3689348814741910323+bits BinOp.and IntKind.u64 (i:Int) 3689348814741910323)=(j:Int)/\
  bits BinOp.and IntKind.u64 (IntKind.u64.wrap ((j:Int) / 16+(j:Int))) 1085102592571150095=(X:Int)/\
  IntKind.u64.wrap ((X:Int)+(X:Int) / 256)=(Y:Int)/\IntKind.u64.wrap ((Y:Int)+(Y:Int) / 65536)=(Z:Int)/\IntKind.u64.wrap ((Z:Int)+(Z:Int) / 4294967296)=(V:Int)/\
  V % 128=(bf A 64).length/\V<4700000000000000000:=by
 obtain⟨a,b,c,d,e,f,g,h,q,r,o,hd,u,hf,v,y,s,t⟩:=za A;have l:=Hc A n;have m:=Hd (eJ 8 A) l.2;have k:=He (eW 8 (eJ 8 A)) m.2;have Ha:lj 8 (eW 8 (eJ 8 A))=eY a b c d e f g h:=s;rw[Ha] at k;have D:=su a b c d e f g h (by omega) (by omega) (by omega) (by omega) (by omega) (by omega) (by omega) (by omega);have z:=sh8 a b c d e f g h q r o hd u hf v y;have B:=su (a+b) (b+c) (c+d) (d+e) (e+f) (f+g) (g+h) h (by omega) (by omega) (by omega) (by omega) (by omega) (by omega) (by omega) (by omega);have x:=Hf (a+b) (b+c) (c+d) (d+e) (e+f) (f+g) (g+h) h (by omega) (by omega) (by omega) (by omega) (by omega) (by omega) (by omega) (by omega);have C:=su (a+b+(c+d)) (b+c+(d+e)) (c+d+(e+f)) (d+e+(f+g)) (e+f+(g+h)) (f+g+h) (g+h) h (by omega) (by omega) (by omega) (by omega) (by omega) (by omega) (by omega) (by omega);have p:=Hg (a+b+(c+d)) (b+c+(d+e)) (c+d+(e+f)) (d+e+(f+g)) (e+f+(g+h)) (f+g+h) (g+h) h (by omega) (by omega) (by omega) (by omega) (by omega) (by omega) (by omega) (by omega);have w:=su (a+b+(c+d)+(e+f+(g+h))) (b+c+(d+e)+(f+g+h)) (c+d+(e+f)+(g+h)) (d+e+(f+g)+h) (e+f+(g+h)) (f+g+h) (g+h) h (by omega) (by omega) (by omega) (by omega) (by omega) (by omega) (by omega) (by omega);refine⟨_,_,_,eY (a+b) (b+c) (c+d) (d+e) (e+f) (f+g) (g+h) h,eY (a+b+(c+d)) (b+c+(d+e)) (c+d+(e+f)) (d+e+(f+g)) (e+f+(g+h)) (f+g+h) (g+h) h,_,l.1,m.1,k,?_,?_,?_,Hh (a+b+(c+d)+(e+f+(g+h))) (b+c+(d+e)+(f+g+h)) (c+d+(e+f)+(g+h)) (d+e+(f+g)+h) (e+f+(g+h)) (f+g+h) (g+h) h (by omega) |>.trans (by rw[t];omega),w⟩
 ·exact wrapN _ _ (by rw[<- z];simp) (by omega)
 ·exact wrapN _ _ (by rw[<- x];simp) (by omega)
 ·exact wrapN _ _ (by rw[<- p];simp) (by omega)
theorem Hi(A:Nat)(w:World)(b:A<18446744073709551616) :
  Calls prog 77 #[.int .u64 A] w λe w'=>e=.returned (.int .i64 ((bf A 64).length:Nat))/\w'=w:=by
 obtain⟨j,g,X,Y,Z,V,r1,c,d,h,i,k,e,f⟩:=steps A b;have a:=qI e;clear e
 go_enter func77,ntmps77
 go_wp2
 go_ret;refine⟨?_,rfl⟩;have e:bits BinOp.and IntKind.i64 (V:Int) 127=((bf A 64).length:Nat):=by
  rw[i64_and127];have:=a.o;omega
 exact congrArg (λz=>Ending.returned (z:Int)) e
theorem ky(A:Nat)(w:World)(a:A<18446744073709551616) :
  Calls prog 39 #[.int .u64 A] w λe w'=>e=.returned (.int .i64 ((bf A 64).length:Nat))/\w'=w:=by
 go_enter func39,ntmps39
 go_wp2_with fail
 refine (Hi A _ a).mono ?_;rintro e w' ⟨rfl,rfl⟩
 go_wp2
 go_ret;exact⟨rfl,rfl⟩
def ba (_:ah):Bool:=true
structure bG (w:World) (tb b o c:Nat) (l:List ah):Prop where
 cell:w.cell? tb=some (.slice (some ⟨b,o,none⟩) l.length c)
 cells:jP w b o l
 lt:b<w
 len:l.length<=64
theorem bG.tlt{b c:Nat}(h:bG w tb b o c l):tb<w:=Q3 w _ h.cell
theorem bG.below{b c:Nat}(h:bG w tb b o c l)(a:Below w w w'):bG w' tb b o c l:=
 ⟨(a.cell (p:=tb) h.tlt).trans h.cell,h.cells.below h.lt a,Q1 h.lt a.size,h.len⟩
theorem Hj(x:ah)(w:World) :
  Calls prog 76 #[.agg #[(x.core:Int),(x.sock:Int),(x.node:Int)]] w λe w'=>e=.returned (.bool (ba x))/\Below w w w':=by
 
 go_enter func76,ntmps76
 go_wp2
 go_ret;exact⟨rfl,(Q0 _ _).alloc (lR) _⟩
abbrev fO:=λ(x0 x1 x2:Int)=>(.cells #[x0,x1,x2] 74:Obj)
theorem Hk(m b o c:Nat)(l:List ah)(w:World)(d:bG w m b o c l) :
  Calls prog 75 #[m,.func (.func 76) #[] #[]] w λe w'=>e=.returned (.int .u64 (az ba l:Nat))/\Below w w w':=by
 have r:=qI d.cells;have v:=d.cell;have Hh:=qI d.lt;have y:=d.len;clear d
 
 go_enter func75,ntmps75
 go_wp2
 go_loopw [5,13] (λt i wr=>∃k:Nat,k<=l.length/\i=.int .i64 k/\t=.int .u64 (cG ba l k:Nat)/\Below w w wr) (λ_ i _=>l.length - (intOf i).toNat)
 case atStart=>exact⟨0,by omega,rfl,rfl,Q0 _ _⟩
 case round=>
  obtain⟨k,A,rfl,rfl,f⟩:=hrel
  by_cases g:k<l.length
  ·obtain⟨Hc,Hb,He⟩:=(r.o.below Hh.o f) k g
   
   have s:=qI λh=>qe (p:=ba) (l:=l) (k:=k) h;have n:=qI λh=>qg (p:=ba) (l:=l) (k:=k) h;have q:=qI (jN ba l k (by omega));generalize l.getD k av=x at *;have Ha:=f.alloc f.size (fO x.core x.sock x.node)
   go_wp2_with fail
   refine (Hj x _).mono ?_;rintro e u ⟨rfl,a⟩;have Hg:=Ha.trans (a.mono Ha.size);clear Ha a
   rcases two (ba x) with a|a
   ·have j:Hu (bits BinOp.or IntKind.u64 (cG ba l k:Nat) (IntKind.u64.wrap (2 ^ k))=((cG ba l (k+1):Nat):Int)):=by
     unfold Hu;rw[qk _ _ q.o (by omega),s.o a]
    rw[a];clear a
    go_wp2
    go_roundw
    case rel=>exact⟨k+1,by omega,by go_num,by rw[<- j.o],Hg⟩
    case measure=>simp[intOf];omega
   ·have j:Hu (cG ba l k=cG ba l (k+1)):=(n.o a).symm;rw[a];clear a
    go_wp2
    go_roundw
    case rel=>exact⟨k+1,by omega,by go_num,by rw[<- j.o],Hg⟩
    case measure=>simp[intOf];omega
  ·have Hf:k=l.length:=by omega
   have H:Hu (cG ba l k=az ba l):=by unfold Hu;rw[Hf];rfl
   clear Hf
   go_wp2
   go_ret;exact⟨congrArg (λz:Nat=>Ending.returned (.int .u64 z)) H.o,f⟩
theorem nB(a b o c:Nat)(l:List ah)(w:World)(f:bG w a b o c l) :
  Calls prog 38 #[a] w λe w'=>e=.returned (.int .u64 (az ba l:Nat))/\Below w w w':=by
 
 go_enter func38,ntmps38
 go_wp2_with fail
 refine (Hk a b o c l w f).mono ?_;rintro e g ⟨rfl,d⟩
 go_wp2
 go_ret;exact⟨rfl,d⟩
abbrev sw:=λ(x0:ah)=>(.cells #[(x0.core:Int),(x0.sock:Int),(x0.node:Int)] 74:Obj)
theorem Hl(x:ah)(n:Int)(B:Nat)(w:World)(a:w.cell? B=some (.int .i64 n)) :
  Calls prog 261 #[.agg #[(x.core:Int),(x.sock:Int),(x.node:Int)],B] w λe w'=>e=.returned (.bool ((λx=>x.core == n) x))/\Below w w w':=by
 have Ha:=(((Q0 w w).alloc (lR) (sw x)).cell (p:=B) (Q3 w _ a)).trans a;clear a
 go_enter func261,ntmps261
 go_wp2
 go_ret;exact⟨rfl,(Q0 _ _).alloc (lR) _⟩
theorem Hm(n:Int)(B q b o c:Nat)(l:List ah)(w:World)(f:bG w q b o c l)(m:w.cell? B=some (.int .i64 n)) :
  Calls prog 75 #[q,.func (.func 261) #[] #[.pointer (some ⟨B,0,none⟩)]] w λe w'=>e=.returned (.int .u64 (az (λx=>x.core == n) l:Nat))/\Below w w w':=by
 have u:=qI f.cells;have A:=f.cell;have Hj:=qI f.lt;have C:=f.len;clear f;have Hk:=qI m;have Hn:=qI (Q3 w _ m);clear m
 go_enter func75,ntmps75
 go_wp2
 go_loopw [5,13] (λt i wr=>∃k:Nat,k<=l.length/\i=.int .i64 k/\t=.int .u64 (cG (λx=>x.core == n) l k:Nat)/\Below w w wr) (λ_ i _=>l.length - (intOf i).toNat)
 case atStart=>exact⟨0,by omega,rfl,rfl,Q0 _ _⟩
 case round=>
  obtain⟨k,D,rfl,rfl,d⟩:=hrel
  by_cases g:k<l.length
  ·obtain⟨Hc,Hb,Hf⟩:=(u.o.below Hj.o d) k g;have Hg:=(d.cell (p:=B) Hn.o).trans Hk.o;have He:=qI ((((Q0 wr wr).alloc (lR) (.cells #[((l.getD k av).core:Int),((l.getD k av).sock:Int),((l.getD k av).node:Int)] 74)).cell (p:=B) (Q3 wr _ Hg)).trans Hg);clear Hg;have v:=qI λh=>qe (p:=(λx=>x.core == n)) (l:=l) (k:=k) h;have r:=qI λh=>qg (p:=(λx=>x.core == n)) (l:=l) (k:=k) h;have s:=qI (jN (λx=>x.core == n) l k (by omega));generalize l.getD k av=x at *;have Ha:=d.alloc d.size (fO x.core x.sock x.node)
   go_wp2_with fail
   refine (Hl x n B _ He.o).mono ?_;rintro e y ⟨rfl,a⟩;have Hi:=Ha.trans (a.mono Ha.size);clear Ha a
   rcases two ((λx=>x.core == n) x) with a|a
   ·have j:Hu (bits BinOp.or IntKind.u64 (cG (λx=>x.core == n) l k:Nat) (IntKind.u64.wrap (2 ^ k))=((cG (λx=>x.core == n) l (k+1):Nat):Int)):=by
     unfold Hu;rw[qk _ _ s.o (by omega),v.o a]
    rw[a];clear a
    go_wp2
    go_roundw
    case rel=>exact⟨k+1,by omega,by go_num,by rw[<- j.o],Hi⟩
    case measure=>simp[intOf];omega
   ·have j:Hu (cG (λx=>x.core == n) l k=cG (λx=>x.core == n) l (k+1)):=(r.o a).symm;rw[a];clear a
    go_wp2
    go_roundw
    case rel=>exact⟨k+1,by omega,by go_num,by rw[<- j.o],Hi⟩
    case measure=>simp[intOf];omega
  ·have Hh:k=l.length:=by omega
   have H:Hu (cG (λx=>x.core == n) l k=az (λx=>x.core == n) l):=by unfold Hu;rw[Hh];rfl
   clear Hh
   go_wp2
   go_ret;exact⟨congrArg (λz:Nat=>Ending.returned (.int .u64 z)) H.o,d⟩
theorem zm(a b o c:Nat)(l:List ah)(n:Int)(w:World)(d:bG w a b o c l) :
  Calls prog 213 #[a,n] w λe w'=>e=.returned (.int .u64 (az (λx=>x.core == n) l:Nat))/\Below w w w':=by
 have He:∀(fn:Fn) (first cap:Array Value) (w:World),(Instr.makeFunc fn first cap).run prog w=.ok (.func fn first cap) w:=λ_ _ _ _=>rfl
 have Ha:=(Q0 w w).alloc (lR) (.cells #[n] 3);have Hb:=d.below Ha;have Hc:=qI (show (w.alloc (.cells #[n] 3)).cell? w=some (.int .i64 n) by simp);clear d
 go_enter func213,ntmps213
 go_wp2_with fail
 refine (Hm n w a b o c l _ Hb Hc.o).mono ?_;rintro e g ⟨rfl,f⟩
 go_wp2
 go_ret;exact⟨rfl,Ha.trans (f.mono Ha.size)⟩
theorem Hn(x:ah)(n:Int)(B:Nat)(w:World)(a:w.cell? B=some (.int .i64 n)) :
  Calls prog 260 #[.agg #[(x.core:Int),(x.sock:Int),(x.node:Int)],B] w λe w'=>e=.returned (.bool ((λx=>x.sock == n) x))/\Below w w w':=by
 have Ha:=(((Q0 w w).alloc (lR) (sw x)).cell (p:=B) (Q3 w _ a)).trans a;clear a
 go_enter func260,ntmps260
 go_wp2
 go_ret;exact⟨rfl,(Q0 _ _).alloc (lR) _⟩
theorem Ho(n:Int)(B q b o c:Nat)(l:List ah)(w:World)(f:bG w q b o c l)(m:w.cell? B=some (.int .i64 n)) :
  Calls prog 75 #[q,.func (.func 260) #[] #[.pointer (some ⟨B,0,none⟩)]] w λe w'=>e=.returned (.int .u64 (az (λx=>x.sock == n) l:Nat))/\Below w w w':=by
 have u:=qI f.cells;have A:=f.cell;have Hj:=qI f.lt;have C:=f.len;clear f;have Hk:=qI m;have Hl:=qI (Q3 w _ m);clear m
 go_enter func75,ntmps75
 go_wp2
 go_loopw [5,13] (λt i wr=>∃k:Nat,k<=l.length/\i=.int .i64 k/\t=.int .u64 (cG (λx=>x.sock == n) l k:Nat)/\Below w w wr) (λ_ i _=>l.length - (intOf i).toNat)
 case atStart=>exact⟨0,by omega,rfl,rfl,Q0 _ _⟩
 case round=>
  obtain⟨k,D,rfl,rfl,d⟩:=hrel
  by_cases g:k<l.length
  ·obtain⟨Hc,Hb,Hf⟩:=(u.o.below Hj.o d) k g;have Hg:=(d.cell (p:=B) Hl.o).trans Hk.o;have He:=qI ((((Q0 wr wr).alloc (lR) (.cells #[((l.getD k av).core:Int),((l.getD k av).sock:Int),((l.getD k av).node:Int)] 74)).cell (p:=B) (Q3 wr _ Hg)).trans Hg);clear Hg;have v:=qI λh=>qe (p:=(λx=>x.sock == n)) (l:=l) (k:=k) h;have r:=qI λh=>qg (p:=(λx=>x.sock == n)) (l:=l) (k:=k) h;have s:=qI (jN (λx=>x.sock == n) l k (by omega));generalize l.getD k av=x at *;have Ha:=d.alloc d.size (fO x.core x.sock x.node)
   go_wp2_with fail
   refine (Hn x n B _ He.o).mono ?_;rintro e y ⟨rfl,a⟩;have Hi:=Ha.trans (a.mono Ha.size);clear Ha a
   rcases two ((λx=>x.sock == n) x) with a|a
   ·have j:Hu (bits BinOp.or IntKind.u64 (cG (λx=>x.sock == n) l k:Nat) (IntKind.u64.wrap (2 ^ k))=((cG (λx=>x.sock == n) l (k+1):Nat):Int)):=by
     unfold Hu;rw[qk _ _ s.o (by omega),v.o a]
    rw[a];clear a
    go_wp2
    go_roundw
    case rel=>exact⟨k+1,by omega,by go_num,by rw[<- j.o],Hi⟩
    case measure=>simp[intOf];omega
   ·have j:Hu (cG (λx=>x.sock == n) l k=cG (λx=>x.sock == n) l (k+1)):=(r.o a).symm;rw[a];clear a
    go_wp2
    go_roundw
    case rel=>exact⟨k+1,by omega,by go_num,by rw[<- j.o],Hi⟩
    case measure=>simp[intOf];omega
  ·have Hh:k=l.length:=by omega
   have H:Hu (cG (λx=>x.sock == n) l k=az (λx=>x.sock == n) l):=by unfold Hu;rw[Hh];rfl
   clear Hh
   go_wp2
   go_ret;exact⟨congrArg (λz:Nat=>Ending.returned (.int .u64 z)) H.o,d⟩
theorem Hq(a b o c:Nat)(l:List ah)(n:Int)(w:World)(d:bG w a b o c l) :
  Calls prog 212 #[a,n] w λe w'=>e=.returned (.int .u64 (az (λx=>x.sock == n) l:Nat))/\Below w w w':=by
 have He:∀(fn:Fn) (first cap:Array Value) (w:World),(Instr.makeFunc fn first cap).run prog w=.ok (.func fn first cap) w:=λ_ _ _ _=>rfl
 have Ha:=(Q0 w w).alloc (lR) (.cells #[n] 3);have Hb:=d.below Ha;have Hc:=qI (show (w.alloc (.cells #[n] 3)).cell? w=some (.int .i64 n) by simp);clear d
 go_enter func212,ntmps212
 go_wp2_with fail
 refine (Ho n w a b o c l _ Hb Hc.o).mono ?_;rintro e g ⟨rfl,f⟩
 go_wp2
 go_ret;exact⟨rfl,Ha.trans (f.mono Ha.size)⟩
theorem Hr(x:ah)(n:Nat)(B:Nat)(w:World)(a:w.cell? B=some (.int .u8 n))(c:0<=x.node)(g3:x.node<=3)(b:n<256) :
  Calls prog 210 #[.agg #[(x.core:Int),(x.sock:Int),(x.node:Int)],B] w λe w'=>e=.returned (.bool ((br n) x))/\Below w w w':=by
 have Ha:=qI (zg n x.node.toNat b);have Hb:=(((Q0 w w).alloc (lR) (sw x)).cell (p:=B) (Q3 w _ a)).trans a;clear a
 go_enter func210,ntmps210
 go_wp2
 go_ret;exact⟨congrArg (λz=>Ending.returned (.bool z)) Ha.o,(Q0 _ _).alloc (lR) _⟩
theorem Hs(n:Nat)(B q b o c:Nat)(l:List ah)(w:World)(g:bG w q b o c l)(m:w.cell? B=some (.int .u8 n))(r:Good l)(C:n<256) :
  Calls prog 75 #[q,.func (.func 210) #[] #[.pointer (some ⟨B,0,none⟩)]] w λe w'=>e=.returned (.int .u64 (az (br n) l:Nat))/\Below w w w':=by
 have A:=qI g.cells;have F:=g.cell;have Hj:=qI g.lt;have G:=g.len;clear g;have Hl:=qI m;have Hk:=qI (Q3 w _ m);have v:=qI r;clear m r
 go_enter func75,ntmps75
 go_wp2
 go_loopw [5,13] (λt i wr=>∃k:Nat,k<=l.length/\i=.int .i64 k/\t=.int .u64 (cG (br n) l k:Nat)/\Below w w wr) (λ_ i _=>l.length - (intOf i).toNat)
 case atStart=>exact⟨0,by omega,rfl,rfl,Q0 _ _⟩
 case round=>
  obtain⟨k,I,rfl,rfl,f⟩:=hrel
  by_cases d:k<l.length
  ·obtain⟨Hb,Hf,He⟩:=(A.o.below Hj.o f) k d;have Hg:=(f.cell (p:=B) Hk.o).trans Hl.o;have Hc:=qI ((((Q0 wr wr).alloc (lR) (.cells #[((l.getD k av).core:Int),((l.getD k av).sock:Int),((l.getD k av).node:Int)] 74)).cell (p:=B) (Q3 wr _ Hg)).trans Hg);clear Hg;obtain⟨u,g3⟩:=v.o.at d;have D:=qI λh=>qe (p:=(br n)) (l:=l) (k:=k) h;have s:=qI λh=>qg (p:=(br n)) (l:=l) (k:=k) h;have y:=qI (jN (br n) l k (by omega));generalize l.getD k av=x at *;have Ha:=f.alloc f.size (fO x.core x.sock x.node)
   go_wp2_with fail
   refine (Hr x n B _ Hc.o u g3 C).mono ?_;rintro e E ⟨rfl,a⟩;have Hi:=Ha.trans (a.mono Ha.size);clear Ha a
   rcases two ((br n) x) with a|a
   ·have j:Hu (bits BinOp.or IntKind.u64 (cG (br n) l k:Nat) (IntKind.u64.wrap (2 ^ k))=((cG (br n) l (k+1):Nat):Int)):=by
     unfold Hu;rw[qk _ _ y.o (by omega),D.o a]
    rw[a];clear a
    go_wp2
    go_roundw
    case rel=>exact⟨k+1,by omega,by go_num,by rw[<- j.o],Hi⟩
    case measure=>simp[intOf];omega
   ·have j:Hu (cG (br n) l k=cG (br n) l (k+1)):=(s.o a).symm;rw[a];clear a
    go_wp2
    go_roundw
    case rel=>exact⟨k+1,by omega,by go_num,by rw[<- j.o],Hi⟩
    case measure=>simp[intOf];omega
  ·have Hh:k=l.length:=by omega
   have H:Hu (cG (br n) l k=az (br n) l):=by unfold Hu;rw[Hh];rfl
   clear Hh
   go_wp2
   go_ret;exact⟨congrArg (λz:Nat=>Ending.returned (.int .u64 z)) H.o,f⟩
theorem Ht(a b o c:Nat)(l:List ah)(n:Nat)(w:World)(d:bG w a b o c l)(f:Good l)(h:n<256) :
  Calls prog 168 #[a,.int .u8 n] w λe w'=>e=.returned (.int .u64 (az (br n) l:Nat))/\Below w w w':=by
 have He:∀(fn:Fn) (first cap:Array Value) (w:World),(Instr.makeFunc fn first cap).run prog w=.ok (.func fn first cap) w:=λ_ _ _ _=>rfl
 have Ha:=(Q0 w w).alloc (lR) (.cells #[.int .u8 n] 45);have Hb:=d.below Ha;have Hc:=qI (show (w.alloc (.cells #[.int .u8 n] 45)).cell? w=some (.int .u8 n) by simp);clear d
 go_enter func168,ntmps168
 go_wp2_with fail
 refine (Hs n w a b o c l _ Hb Hc.o f h).mono ?_;rintro e i ⟨rfl,g⟩
 go_wp2
 go_ret;exact⟨rfl,Ha.trans (g.mono Ha.size)⟩
def WE (f:ah->Int) (l:List ah) (k:Nat):Nat:=az (λx=>decide (f x<k)) l
def md (f:ah->Int) (l:List ah) (k:Nat):Nat:=az (λx=>f x == (k:Int)) l
def cf (s:Nat) (l:List ah) (j:Int):Nat->Nat
 | 0=>0
 | k+1=>if (s.testBit k && decide ((l.getD k av).node=j))=true then cf s l j k+1 else cf s l j k
theorem sx(h:s.testBit k=true)(a:(l.getD k av).node=j):cf s l j (k+1)=cf s l j k+1:=by
 rw[cf,if_pos (by rw[h,a];simp)]
theorem jm(a:(l.getD k av).node≠j):cf s l j (k+1)=cf s l j k:=by
 rw[cf,if_neg (by simp only[Q7 a,Bool.and_false];simp)]
theorem sy(h:s.testBit k=false):cf s l j (k+1)=cf s l j k:=by
 rw[cf,if_neg (by rw[h];simp)]
theorem sA(s:Nat)(l:List ah)(j:Int)(k:Nat):cf s l j k<=k:=by induction k <;> grind[cf]
structure cK (w:World) (B:Nat) (a b c d:Int):Prop where
 c0:w.cell? B=some (.int .i64 a)
 c1:w.cell? ⟨B,1,none⟩=some (.int .i64 b)
 c2:w.cell? ⟨B,2,none⟩=some (.int .i64 c)
 c3:w.cell? ⟨B,3,none⟩=some (.int .i64 d)
 f0:w.frozen? B=false
 f1:w.frozen? ⟨B,1,none⟩=false
 f2:w.frozen? ⟨B,2,none⟩=false
 f3:w.frozen? ⟨B,3,none⟩=false
theorem cK.lt(h:cK w B a b c d):B<w:=Q3 w _ h.c0
theorem cK.below(h:cK w B a b c d)(e:Below K w w')(f:B<K):cK w' B a b c d:=
 ⟨(e.cell (p:=B) f).trans h.c0,(e.cell (p:=⟨B,1,none⟩) f).trans h.c1,(e.cell (p:=⟨B,2,none⟩) f).trans h.c2,(e.cell (p:=⟨B,3,none⟩) f).trans h.c3,
  (e.frozen (p:=B) f).trans h.f0,(e.frozen (p:=⟨B,1,none⟩) f).trans h.f1,(e.frozen (p:=⟨B,2,none⟩) f).trans h.f2,(e.frozen (p:=⟨B,3,none⟩) f).trans h.f3⟩
theorem cK.made(w:World)(t:TypeId)(a b c d:Int):cK (w.alloc (.cells #[a,b,c,d] t)) w a b c d:=by
 constructor <;> simp
theorem cK.alloc(h:cK w B a b c d)(o:Obj):cK (w.alloc o) B a b c d:=
 h.below ((Q0 _ _).alloc (lR) _) h.lt
theorem cK.set_other(h:cK w B a b c d){p:Addr}(f:B≠p.block)(v:Value):cK (w.setCell p v) B a b c d:=by
 have e:(w.setCell p v).heap[B]?=w.heap[B]?:=Below.heap_setCell _ _ _ _ f;exact⟨(World.cell?_of_block (w:=w) (a:=B) e).trans h.c0,(World.cell?_of_block (w:=w) (a:=⟨B,1,none⟩) e).trans h.c1,(World.cell?_of_block (w:=w) (a:=⟨B,2,none⟩) e).trans h.c2,(World.cell?_of_block (w:=w) (a:=⟨B,3,none⟩) e).trans h.c3,
  (World.frozen?_of_block (w:=w) (a:=B) e).trans h.f0,(World.frozen?_of_block (w:=w) (a:=⟨B,1,none⟩) e).trans h.f1,(World.frozen?_of_block (w:=w) (a:=⟨B,2,none⟩) e).trans h.f2,(World.frozen?_of_block (w:=w) (a:=⟨B,3,none⟩) e).trans h.f3⟩
theorem cK.set0(h:cK w B a b c d)(x:Int):cK (w.setCell B x) B x b c d:=by
 obtain⟨c0,c1,c2,c3,f0,f1,f2,f3⟩:=h;constructor <;> first|exact World.frozen?_setCell.trans (by assumption)|go_simp
theorem cK.set1(h:cK w B a b c d)(x:Int):cK (w.setCell ⟨B,1,none⟩ x) B a x c d:=by
 obtain⟨c0,c1,c2,c3,f0,f1,f2,f3⟩:=h;constructor <;> first|exact World.frozen?_setCell.trans (by assumption)|go_simp
theorem cK.set2(h:cK w B a b c d)(x:Int):cK (w.setCell ⟨B,2,none⟩ x) B a b x d:=by
 obtain⟨c0,c1,c2,c3,f0,f1,f2,f3⟩:=h;constructor <;> first|exact World.frozen?_setCell.trans (by assumption)|go_simp
theorem cK.set3(h:cK w B a b c d)(x:Int):cK (w.setCell ⟨B,3,none⟩ x) B a b c x:=by
 obtain⟨c0,c1,c2,c3,f0,f1,f2,f3⟩:=h;constructor <;> first|exact World.frozen?_setCell.trans (by assumption)|go_simp
theorem vd(A n:Nat)(w:World)(a:A<18446744073709551616)(c:n<64) :
  Calls prog 148 #[.int .u64 A,(n:Int)] w λe w'=>e=.returned (.bool (A.testBit n))/\w'=w:=by
 have b:=GJ A n a
 go_enter func148,ntmps148
 go_wp2_with go_in
 go_ret;exact⟨rfl,rfl⟩
theorem sB{fn:Func}{p:Tmp}{b:TypeId}(h:fn.results=#[.cell p b])(tmps:Array Value)(P:Program)(w:World) :
  (results fn tmps).run P w=((asAddr (tmps.getD p undef)).run P w).andThen λa c=>(loadVar b a).run P c:=by
 simp only[results,h]
 simp[Sem.run_bind,Result.andThen]
def oS (s:Nat) (l:List ah) (k:Nat):Value:=.agg #[.int .i64 (cf s l 0 k:Nat),.int .i64 (cf s l 1 k:Nat),.int .i64 (cf s l 2 k:Nat),.int .i64 (cf s l 3 k:Nat)]
abbrev ve:=(.cells #[(0:Int),(0:Int),(0:Int),(0:Int)] 202:Obj)
theorem vi(A D b o c:Nat)(l:List ah)(w:World)(y:bG w D b o c l)(F:A<18446744073709551616)(E:Good l) :
  Calls prog 106 #[D,.int .u64 A] w λe w'=>e=.returned (oS A l l.length)/\Below w w w':=by
 have Hj:=((Q0 w w).alloc (lR) (ve));have Hf:=Hj.alloc Hj.size (ve);have Hk:=y.below Hf;have M:=qI y.cells;have T:=Hk.cell;have Hm:=qI y.lt;have W:=y.len;have H:=qI E;have Hg:=qI Hf;clear y Hk Hj Hf E
 go_enter func106,ntmps106
 go_wp2
 go_loopw [13] (λi wr=>∃k:Nat,k<=l.length/\i=.int .i64 k/\cK wr w 0 0 0 0/\cK wr (w.heap.size+1) (cf A l 0 k:Nat) (cf A l 1 k:Nat) (cf A l 2 k:Nat) (cf A l 3 k:Nat)/\Below w w wr) (λi _=>l.length - (intOf i).toNat)
 case atStart=>exact⟨0,by omega,rfl,(cK.made _ _ _ _ _ _).alloc _,by have:=cK.made (w.alloc (ve)) 202 0 0 0 0;simpa[cf] using this,Hg.o⟩
 case round=>
  obtain⟨k,J,rfl,f,g,C⟩:=hrel
  by_cases n:k<l.length
  ·obtain⟨Hi,Hh,Hb⟩:=(M.o.below Hm.o C) k n;obtain⟨B,g3⟩:=H.o.at n;have h:=qI (vd A k (wr.alloc (.cells #[((l.getD k av).core:Int),((l.getD k av).sock:Int),((l.getD k av).node:Int)] 74)) F (by omega));have He:=C.alloc C.size (.cells #[((l.getD k av).core:Int),((l.getD k av).sock:Int),((l.getD k av).node:Int)] 74);have Hc:=f.alloc (.cells #[((l.getD k av).core:Int),((l.getD k av).sock:Int),((l.getD k av).node:Int)] 74);have Ha:=g.alloc (.cells #[((l.getD k av).core:Int),((l.getD k av).sock:Int),((l.getD k av).node:Int)] 74);have K:=qI (sA A l 0 k);have L:=qI (sA A l 1 k);have G:=qI (sA A l 2 k);have I:=qI (sA A l 3 k);have a:(l.getD k av).node=0\/(l.getD k av).node=1\/(l.getD k av).node=2\/(l.getD k av).node=3:=by omega
   rcases two (A.testBit k) with d|d
   ·rw[d] at h
    rcases a with a|a|a|a
    ·have u:=qI (sx (l:=l) (j:=0) d a);have p:=qI (jm (s:=A) (l:=l) (k:=k) (j:=1) (by rw[a];decide));have t:=qI (jm (s:=A) (l:=l) (k:=k) (j:=2) (by rw[a];decide));have r:=qI (jm (s:=A) (l:=l) (k:=k) (j:=3) (by rw[a];decide));have m:=Ha.c0;have r0:=Ha.f0;have Hc:=qI Hc;have Ha:=qI Ha;clear d f g;rw[a] at Hb h He Hc Ha m r0;clear a B g3;have m0:=K.o;generalize l.getD k av=x at *;generalize hcz:cf A l 0 k=z at *
     go_wp2_with (go_at_call 148;refine h.o.mono ?_;rintro e w' ⟨rfl,rfl⟩)
     go_roundw
     case rel=>
      refine⟨k+1,by omega,by go_num,Hc.o.set_other (by simp) _,?_,He.setCell (by simp) _⟩;rw[u.o,p.o,t.o,r.o]
      have:=Ha.o.set0 ((z:Int)+1)
      simpa using this
     case measure=>simp[intOf];omega
    ·have u:=qI (sx (l:=l) (j:=1) d a);have q:=qI (jm (s:=A) (l:=l) (k:=k) (j:=0) (by rw[a];decide));have t:=qI (jm (s:=A) (l:=l) (k:=k) (j:=2) (by rw[a];decide));have r:=qI (jm (s:=A) (l:=l) (k:=k) (j:=3) (by rw[a];decide));have m:=Ha.c1;have r0:=Ha.f1;have Hc:=qI Hc;have Ha:=qI Ha;clear d f g;rw[a] at Hb h He Hc Ha m r0;clear a B g3;have m0:=L.o;generalize l.getD k av=x at *;generalize hcz:cf A l 1 k=z at *
     go_wp2_with (go_at_call 148;refine h.o.mono ?_;rintro e w' ⟨rfl,rfl⟩)
     go_roundw
     case rel=>
      refine⟨k+1,by omega,by go_num,Hc.o.set_other (by simp) _,?_,He.setCell (by simp) _⟩;rw[u.o,q.o,t.o,r.o]
      have:=Ha.o.set1 ((z:Int)+1)
      simpa using this
     case measure=>simp[intOf];omega
    ·have u:=qI (sx (l:=l) (j:=2) d a);have q:=qI (jm (s:=A) (l:=l) (k:=k) (j:=0) (by rw[a];decide));have p:=qI (jm (s:=A) (l:=l) (k:=k) (j:=1) (by rw[a];decide));have r:=qI (jm (s:=A) (l:=l) (k:=k) (j:=3) (by rw[a];decide));have m:=Ha.c2;have r0:=Ha.f2;have Hc:=qI Hc;have Ha:=qI Ha;clear d f g;rw[a] at Hb h He Hc Ha m r0;clear a B g3;have m0:=G.o;generalize l.getD k av=x at *;generalize hcz:cf A l 2 k=z at *
     go_wp2_with (go_at_call 148;refine h.o.mono ?_;rintro e w' ⟨rfl,rfl⟩)
     go_roundw
     case rel=>
      refine⟨k+1,by omega,by go_num,Hc.o.set_other (by simp) _,?_,He.setCell (by simp) _⟩;rw[u.o,q.o,p.o,r.o]
      have:=Ha.o.set2 ((z:Int)+1)
      simpa using this
     case measure=>simp[intOf];omega
    ·have u:=qI (sx (l:=l) (j:=3) d a);have q:=qI (jm (s:=A) (l:=l) (k:=k) (j:=0) (by rw[a];decide));have p:=qI (jm (s:=A) (l:=l) (k:=k) (j:=1) (by rw[a];decide));have t:=qI (jm (s:=A) (l:=l) (k:=k) (j:=2) (by rw[a];decide));have m:=Ha.c3;have r0:=Ha.f3;have Hc:=qI Hc;have Ha:=qI Ha;clear d f g;rw[a] at Hb h He Hc Ha m r0;clear a B g3;have m0:=I.o;generalize l.getD k av=x at *;generalize hcz:cf A l 3 k=z at *
     go_wp2_with (go_at_call 148;refine h.o.mono ?_;rintro e w' ⟨rfl,rfl⟩)
     go_roundw
     case rel=>
      refine⟨k+1,by omega,by go_num,Hc.o.set_other (by simp) _,?_,He.setCell (by simp) _⟩;rw[u.o,q.o,p.o,t.o]
      have:=Ha.o.set3 ((z:Int)+1)
      simpa using this
     case measure=>simp[intOf];omega
   ·rw[d] at h;have q:=qI (sy (l:=l) (j:=0) d);have p:=qI (sy (l:=l) (j:=1) d);have t:=qI (sy (l:=l) (j:=2) d);have r:=qI (sy (l:=l) (j:=3) d);have Hc:=qI Hc;have Ha:=qI Ha;clear d f g a;generalize l.getD k av=x at *
    go_wp2_with (go_at_call 148;refine h.o.mono ?_;rintro e w' ⟨rfl,rfl⟩)
    go_roundw
    case rel=>exact⟨k+1,by omega,by go_num,Hc.o,by rw[q.o,p.o,t.o,r.o];exact Ha.o,He⟩
    case measure=>simp[intOf];omega
  ·have Hl:k=l.length:=by omega
   subst Hl;clear J n;have m:=g.c0;have S:=g.c1;have X:=g.c2;have R:=g.c3;have U:=f.c0;have P:=f.c1;have V:=f.c2;have Q:=f.c3;have r0:=f.f0;have r1:=f.f1;have N:=f.f2;have O:=f.f3;clear f g
   go_wp2_with fail
   (try simp only[Exit.inBlock,Exit.then]);refine bodyPost_ret (v:=oS A l l.length) ?_ rfl ⟨rfl,?_⟩
   ·unfold oS;rw[sB rfl];go_simp
   ·exact (((C.setCell (lR) _).setCell (lR) _).setCell (lR) _).setCell (lR) _
theorem or8(s n:Nat)(hs:s<256)(c:n<8):bits BinOp.or IntKind.u8 (s:Int) (IntKind.u8.wrap (2 ^ n))=((s ||| 2 ^ n:Nat):Int):=by
 have key:∀(a:Fin 256) (b:Fin 8),bits BinOp.or IntKind.u8 ((a.val:Nat):Int) (IntKind.u8.wrap (2 ^ b.val))=((a.val ||| 2 ^ b.val:Nat):Int):=by decide +kernel
 exact key ⟨s,hs⟩ ⟨n,c⟩
theorem Hv(s n:Nat)(hs:s<256)(c:n<8):bits BinOp.or IntKind.u8 (s:Int) (2 ^ n % 256)=((s ||| 2 ^ n:Nat):Int):=by
 have key:∀(a:Fin 256) (b:Fin 8),bits BinOp.or IntKind.u8 ((a.val:Nat):Int) (2 ^ b.val % 256)=((a.val ||| 2 ^ b.val:Nat):Int):=by decide +kernel
 exact key ⟨s,hs⟩ ⟨n,c⟩
def iu (l:List ah):Nat->Nat
 | 0=>0
 | k+1=>iu l k ||| 2 ^ (l.getD k av).node.toNat
theorem Hw(l:List ah)(k j:Nat):(iu l k).testBit j=true↔∃i,i<k/\(l.getD i av).node.toNat=j:=by induction k <;> grind[iu]
def iP (f:Nat->Bool):Nat->Nat
 | 0=>0
 | k+1=>if f k then iP f k ||| 2 ^ k else iP f k
theorem zn(f:Nat->Bool)(k j:Nat):(iP f k).testBit j=(decide (j<k) && f j):=by induction k <;> grind[iP]
theorem Hx(s:Nat)(l:List ah)(j:Int)(k:Nat):0<cf s l j k↔∃i,i<k/\s.testBit i=true/\(l.getD i av).node=j:=by induction k <;> grind[cf,av]
theorem Hy(l:List ah)(a:Good l):iP (λj=>decide (0<cf (az ba l) l j l.length)) 4=iu l l.length:=by
 apply Nat.eq_of_testBit_eq;intro j;rw[zn,Bool.eq_iff_iff,Hw,Bool.and_eq_true,Qp,Qp,Hx];constructor
 ·rintro⟨_,i,hi,_,b⟩;exact⟨i,hi,by omega⟩
 ·rintro⟨i,hi,b⟩
  have:=a.at hi
  exact⟨by omega,i,hi,by rw[uS];simp[ba,hi],by omega⟩
theorem Hz(f:Nat->Bool)(k:Nat)(a:k<=4):iP f k<256:=by
 apply Nat.lt_pow_two_of_testBit (n:=8);intro i hi;rw[zn];simp[show ¬ i<k by omega]
theorem zo(a b c d:Int)(w:World):∀k:Nat,k<4->∃x,(Instr.index 202 (.agg #[a,b,c,d]) (k:Int)).run prog w=.ok (x:Int) w/\x=[a,b,c,d].getD k 0:=by
 intro k e
 have:k=0\/k=1\/k=2\/k=3:=by omega
 rcases this with rfl|rfl|rfl|rfl
 ·exact⟨a,by kernel_rfl,rfl⟩
 ·exact⟨b,by kernel_rfl,rfl⟩
 ·exact⟨c,by kernel_rfl,rfl⟩
 ·exact⟨d,by kernel_rfl,rfl⟩
theorem vj(d b o c:Nat)(l:List ah)(w:World)(h:bG w d b o c l)(p:Good l) :
  Calls prog 62 #[d] w λe w'=>e=.returned (.int .u8 (iu l l.length:Nat))/\Below w w w':=by
 rw[<- Hy l p];have q:=qI h;have u:=qI p;have Hc:=jN ba l l.length h.len;have s:=qI (nB d b o c l w h)
 change az ba l<_ at Hc
 generalize az ba l=A at *;obtain⟨f,hf⟩:∃f:Nat->Bool,f=λ(j:Nat)=>decide (0<cf A l j l.length):=⟨_,rfl⟩
 rw[<- hf];have C:Hu (∀j:Nat,f j=decide (0<cf A l j l.length)):=λj=>by rw[hf]
 clear h p hf
 go_enter func62,ntmps62
 go_wp2_with fail
 refine s.o.mono ?_;rintro e r ⟨rfl,Hb⟩
 go_wp2_with fail
 refine (vi A d b o c l r (q.o.below Hb) Hc u.o).mono ?_;rintro e z ⟨rfl,Hf⟩;have y:=Hb.trans (Hf.mono Hb.size);have B:=qI λk n=>zo (cf A l 0 l.length:Nat) (cf A l 1 l.length:Nat) (cf A l 2 l.length:Nat) (cf A l 3 l.length:Nat) z k n;clear Hb Hf Hc;unfold oS
 go_wp2_with fail
 go_loop [3,10] (λt i=>∃k:Nat,k<=4/\i=.int .i64 k/\t=.int .u8 (iP f k:Nat)) (λ_ i=>4 - (intOf i).toNat)
 case atStart=>exact⟨0,by omega,rfl,rfl⟩
 case round=>
  obtain⟨k,n,rfl,rfl⟩:=hrel
  by_cases a:k<4
  ·obtain⟨x,D,Hg⟩:=B.o k a;have He:x=(cf A l k l.length:Nat):=by
    rw[Hg]
    have:k=0\/k=1\/k=2\/k=3:=by omega
    rcases this with rfl|rfl|rfl|rfl <;> rfl
   have v:=qI (Hz f k (by omega));have Ha:=C.o k;clear Hg
   by_cases g:0<cf A l k l.length
   ·have Hi:0<x:=by omega
    have m:Hu (bits BinOp.or IntKind.u8 (iP f k:Nat) (2 ^ k % 256)=((iP f (k+1):Nat):Int)):=by
     unfold Hu;rw[Hv _ _ v.o (by omega),iP,if_pos (by rw[Ha];exact Qc g)]
    clear He g Ha
    go_wp2_with fail
    go_round
    case rel=>exact⟨k+1,by omega,by go_num,by rw[<- m.o]⟩
    case measure=>simp[intOf];omega
   ·have Hi:¬ 0<x:=by omega
    have m:Hu (iP f k=iP f (k+1)):=by
     unfold Hu;rw[iP,if_neg (by rw[Ha];simpa using g)]
    clear He g Ha
    go_wp2_with fail
    go_round
    case rel=>exact⟨k+1,by omega,by go_num,by rw[<- m.o]⟩
    case measure=>simp[intOf];omega
  ·have Hh:k=4:=by omega
   subst Hh;clear n a
   go_wp2
   go_ret;exact⟨rfl,y⟩

section
open Go.Maps (Keyed int_keyed keyOf_int_mk)
theorem vk(n m:Int)(w:World):Calls prog 117 #[n,m] w λe w'=>e=.returned (.bool (decide (0<=n) && decide (n<m)))/\w'=w:=by
 rcases two (decide (0<=n)) with h|h
 ·have a:0<=n:=of_decide_eq_true h;rw[h];clear h
  go_enter func117,ntmps117
  go_wp2
  go_ret;exact⟨by simp,rfl⟩
 ·have a:¬ 0<=n:=of_decide_eq_false h;rw[h];clear h
  go_enter func117,ntmps117
  go_wp2
  go_ret;exact⟨by simp,rfl⟩
theorem H7(x:ah)(w:World):Calls prog 73 #[.agg #[(x.core:Int),(x.sock:Int),(x.node:Int)]] w λe w'=>e=.returned (.bool (jl x))/\Below w w w':=by
 have b:=qI ((Q0 w w).alloc (lR) (sw x));have a:=qI (vk x.core 64);have c:=qI (vk x.sock 64);have d:=qI (vk x.node 4);unfold jl;generalize (decide (0<=x.core) && decide (x.core<64))=b1 at *;generalize (decide (0<=x.sock) && decide (x.sock<64))=b2 at *;generalize (decide (0<=x.node) && decide (x.node<4))=f at *;cases b1 <;> cases b2
 case false.false|false.true=>
  all_goals
   go_enter func73,ntmps73
   go_wp2_with fail
   refine (a.o _).mono ?_;rintro e w' ⟨rfl,rfl⟩
   go_wp2
   go_ret;exact⟨rfl,b.o⟩
 case true.false=>
  go_enter func73,ntmps73
  go_wp2_with fail
  refine (a.o _).mono ?_;rintro e w' ⟨rfl,rfl⟩
  go_wp2_with fail
  refine (c.o _).mono ?_;rintro e w' ⟨rfl,rfl⟩
  go_wp2
  go_ret;exact⟨rfl,b.o⟩
 case true.true=>
  go_enter func73,ntmps73
  go_wp2_with fail
  refine (a.o _).mono ?_;rintro e w' ⟨rfl,rfl⟩
  go_wp2_with fail
  refine (c.o _).mono ?_;rintro e w' ⟨rfl,rfl⟩
  go_wp2_with fail
  refine (d.o _).mono ?_;rintro e w' ⟨rfl,rfl⟩
  go_wp2
  go_ret;exact⟨by simp,b.o⟩
def iQ (l:List ah):List Value:=l.flatMap λx=>[.int .i64 x.core,.int .i64 x.sock,.int .i64 x.node]
theorem zp(l:List ah):(iQ l).length=l.length*3:=by
 induction l with
 | nil=>rfl
 | cons a r ih=>simp only[iQ,List.flatMap_cons,Q2,Qg,List.length_nil] at ih ⊢;omega
theorem zr(l:List ah)(k:Nat)(b:k<l.length):(iQ l)[k*3]?=some (.int .i64 (l.getD k av).core)/\(iQ l)[k*3+1]?=some (.int .i64 (l.getD k av).sock)/\(iQ l)[k*3+2]?=some (.int .i64 (l.getD k av).node):=by
 induction l generalizing k with
 | nil=>simp at b
 | cons a r ih=>
  cases k with
  | zero=>simp[iQ]
  | succ k=>
   have:=ih k (by simpa using b)
   have e:iQ (a :: r)=[.int .i64 a.core,.int .i64 a.sock,.int .i64 a.node]++iQ r:=rfl;rw[e,show (k+1)*3=k*3+3 by omega]
   simpa using this
theorem H8{b o:Nat}(h:jP w b o l)(j:Nat)(u:Value)(a:(iQ l)[j]?=some u):w.cell? ((⟨b,o,none⟩:Addr).add j)=some u:=by
 have Ha:j<l.length*3:=by rw[<- zp];exact (List.getElem?_eq_some_iff.1 a).1
 obtain⟨d,c,f⟩:=h (j / 3) (by omega);obtain⟨c0,c1,c2⟩:=zr l (j / 3) (by omega);rw[Addr.add_lit]
 have:j=j / 3*3\/j=j / 3*3+1\/j=j / 3*3+2:=by omega
 rcases this with e|e|e
 ·rw[<- e] at c0 d;rw[d,<- c0,a]
 ·rw[<- e] at c1;rw[Nat.add_assoc,<- e] at c;rw[c,<- c1,a]
 ·rw[<- e] at c2;rw[Nat.add_assoc,<- e] at f;rw[f,<- c2,a]
theorem H9(l:List ah):∀u∈iQ l,u.oneCell'=true:=by
 intro u b;simp only[iQ,List.mem_flatMap] at b;obtain⟨x,_,a⟩:=b
 simp at a
 rcases a with rfl|rfl|rfl <;> rfl
theorem Ia:(prog.info? 74).map (λi=>(i.zero,i.size,i.bytes))=some (some (.agg #[(0:Int),(0:Int),(0:Int)]),3,24):=by kernel_rfl
theorem Ib(b o n c:Nat)(w:World):Sem.run prog (binOp BinOp.eql 22 (.slice (some ⟨b,o,none⟩) n c) (.slice none 0 0)) w=.ok false w:=by kernel_rfl
def Ic (w:World) (l:List ah) (e:Ending) (w':World):Prop:=∃g c',e=.returned (.slice (some ⟨g,0,none⟩) l.length c')/\jP w' g 0 l/\g<w'.heap.size/\Below w w w'
theorem Ie(b o c:Nat)(l:List ah)(w:World)(f:jP w b o l)(a:b<w)(t:0<l.length)(v:l.length<=64) :
  Calls prog 74 #[.slice (some ⟨b,o,none⟩) l.length c] w λe w'=>Ic w l e w':=by
 obtain⟨i0,hi,Hh,Hk,Hg⟩:=info_parts Ia;have Hc:=(Q0 w w).alloc (lR) (.cells #[] 74);have r:=qI (f.below a Hc);have m:=qI Hc;have Hl:=Ib b o l.length c w;clear f Hc
 go_enter func74,ntmps74
 go_wp2_with (at_builtin;(refine wpList_append_own _ rfl _ _ 22 rfl w 74 i0 (.agg #[(0:Int),(0:Int),(0:Int)]) 3 24 underlying22 hi Hh Hk Hg rfl (by decide) _ _ _ rfl (World.ownsRow_lit w #[] 0 (lR) (Nat.zero_le _) rfl) ⟨b,o,none⟩ l.length c (iQ l) rfl (zp l) (H8 r.o) (H9 l) (by unfold maxLen;omega) (by omega) (by simp) ?_);intro u i Ha Hb _)
 rcases Ha.2 with⟨rfl,s⟩|⟨g,d,h,rfl,q,Hf,_⟩
 ·omega
 ·have Hi:=(Ha.lt g rfl).2;have Hj:Hu (jP i g 0 l):=by
   intro k n;obtain⟨c0,c1,c2⟩:=zr l k n;rw[<- List.nil_append (iQ l)] at c0 c1 c2;refine⟨?_,?_,?_⟩
   ·rw[Qd,Ha.cellAt (k*3) (by omega)];exact c0
   ·rw[Qd,Ha.cellAt (k*3+1) (by omega)];exact c1
   ·rw[Qd,Ha.cellAt (k*3+2) (by omega)];exact c2
  have He:=qI (m.o.grown Hb (by simp) (λj p=>by cases p;exact lR));clear Ha Hb Hf q;rw[Qd]
  go_wp2
  go_ret;exact⟨g,d,rfl,Hj.o,Hi,He.o⟩
end
section
open RowKit Go.ChangeMaps
open Go.Maps (Keyed int_keyed keyOf_int_mk)
def oT:Value->Option (DataW Unit × List MemPlace)
 | .agg ⟨[.int .i64 a,.int .i64 b,.int .i64 c]⟩=>some (.agg [.lit (.int .i64 a),.lit (.int .i64 b),.lit (.int .i64 c)],[])
 | _=>none
def nC (x:ah):DataW Unit:=.agg [.lit (.int .i64 x.core),.lit (.int .i64 x.sock),.lit (.int .i64 x.node)]
theorem If(x:ah):oT (.agg #[(x.core:Int),(x.sock:Int),(x.node:Int)])=some (nC x,[]):=rfl
theorem Ig{x:ah}{a:List MemPlace}(h:oT v=some (nC x,a)):v=.agg #[(x.core:Int),(x.sock:Int),(x.node:Int)]:=by
 unfold oT at h
 split at h
 ·simp only[nC,Option.some.injEq,Prod.mk.injEq,DataW.agg.injEq,List.cons.injEq,DataW.lit.injEq,Lit.int.injEq,true_and,and_true] at h;obtain⟨⟨rfl,rfl,rfl⟩,_⟩:=h;rfl
 ·cases h
def gV (w:World) (B n:Nat) (f:Int->Option ah):Prop:=
 ∃D:DataW Unit,w.ownsMap prog 3 oT B n D/\∀k:Int,0<=k->k<64->Maps.has D (.int .i64 k)=(f k).isSome/\D.atKey (.int .i64 k) (nC av)=nC ((f k).getD av)
theorem sC:Keyed prog 3:=int_keyed underlying3
theorem sD{k:Int}(a:0<=k)(h:k<64):(Lit.int .i64 k).wf=true:=WalkArith.wf_i64 (by omega)
theorem gV.alloc(h:gV w B n f)(o:Obj):gV (w.alloc o) B n f:=by
 obtain⟨D,a,b⟩:=h;exact⟨D,a.alloc o,b⟩
theorem gV.below(h:gV w B n f)(c:Below K w w')(e:B<K):gV w' B n f:=by
 obtain⟨D,⟨g,a,d,r⟩,b⟩:=h;exact⟨D,⟨g,a,(c.block B e).trans d,r⟩,b⟩
theorem gV.lt(h:gV w B n f):B<w.heap.size:=by
 obtain⟨D,a,_⟩:=h;exact a.lt
theorem gV.made(w:World):gV (w.alloc (.map #[] 0)) w.heap.size 0 (λ_=>none):=
 ⟨.map [],World.ownsMap_made w _ _ _,λ_ _ _=>⟨rfl,rfl⟩⟩
theorem Ih(w:World):(zeroValue 74).run prog w=.ok (.agg #[(0:Int),(0:Int),(0:Int)]) w:=by kernel_rfl
theorem sE{o:Oper}{a:Act}(w:World)(l:o.guard=none)(m x:Operand)(c:o.op=Op.lookup 163 m x true)
  (B n:Nat) (f:Int->Option ah) (k:Int) (e:0<=k) (b:k<64) (t:a.eval m=.map (some B)) (q:a.eval x=.int .i64 k) (u:gV w B n f) (y:ah) (ok:Bool) (s:(f k).getD av=y) (d:(f k).isSome=ok)
  (j:wpList prog ops Q rest (a.put o.dst (.tuple #[.agg #[.int .i64 y.core,.int .i64 y.sock,.int .i64 y.node],.bool ok])) w) :
  wpList prog ops Q (o :: rest) a w:=by
 obtain⟨D,r,i⟩:=u;refine wpList_lookup_own_ok w l m x 163 c 3 74 sC underlying163 oT (Ih w) (nC av) [] rfl B n D t r _ (.int .i64 k) q (keyOf_int_mk underlying3 (sD e b)) ?_;intro v z g;obtain⟨p,h⟩:=i k e b;rw[h,s] at g;rw[p,d,Ig g];exact j
theorem zt{o:Oper}{a:Act}(w:World)(l:o.guard=none)(m x v:Operand)(c:o.op=Op.mapUpdate 163 m x v)
  (B n:Nat) (f:Int->Option ah) (k:Int) (q:0<=k) (b:k<64) (y:ah) (t:a.eval m=.map (some B)) (p:a.eval x=.int .i64 k) (u:a.eval v=.agg #[.int .i64 y.core,.int .i64 y.sock,.int .i64 y.node]) (z:gV w B n f) (s:n<maxLen)
  (i:∀w',gV w' B (n+1) (λj=>if k=j then some y else f j)->w.grownBy w' (some B)->wpList prog ops Q rest (a.put o.dst undef) w') :
  wpList prog ops Q (o :: rest) a w:=by
 obtain⟨D,d,h⟩:=z;refine wpList_mapUpdate_own w l m x v 163 c 3 74 sC underlying163 oT B n D t d s _ _ (.int .i64 k) p u (keyOf_int_mk underlying3 (sD q b)) (nC y) [] (If y) ?_;intro w' Hc He;refine i w' ⟨_,Hc,λj r g=>?_⟩ He
 by_cases e:k=j
 ·subst e;have Ha:WideAt.IsKeyLit (Lit.int .i64 k):=trivial;rw[Maps.has_put_same d.isMap Ha,Maps.atKey_put_same d.isMap Ha]
  simp
 ·have Hb:(Lit.int .i64 j)≠(Lit.int .i64 k):=by simp;omega
  rw[Maps.has_put_other Hb,Maps.atKey_put_other Hb];simp only[if_neg e];exact h j r g
theorem Ii(l:List ah)(k:Nat):(λj=>if (l.getD k av).core=j then some (l.getD k av) else dV l k j)=dV l (k+1):=by
 funext j;rw[dV]
theorem gW{a:Addr}(h:w.cell? a=some v)(o:Obj):(w.alloc o).cell? a=some v:=
 (((Q0 w w).alloc (lR) o).cell (Q3 w _ h)).trans h
def iR (w:World) (l:List ah) (e:Ending) (w':World):Prop:=
 (dU l=0->∃tb g c,e=.returned (.tuple #[.pointer (some ⟨tb,0,none⟩),.nilIface])/\bG w' tb g 0 c l)/\(dU l≠0->e=.returned (.tuple #[.pointer none,.iface 108 (dU l:Int)]))/\Below w w w'
theorem iR.bad{f:Int}(hf:dU l=f)(a:f≠0)(b:Below w w w'):iR w l (.returned (.tuple #[.pointer none,.iface 108 f])) w':=
 ⟨λh=>absurd (hf.symm.trans h) a,λ_=>by rw[hf],b⟩
theorem iR.good{g c:Nat}(hf:dU l=0)(a:bG w' tb g 0 c l)(b:Below w w w'):iR w l (.returned (.tuple #[tb,.nilIface])) w':=
 ⟨λ_=>⟨tb,g,c,rfl,a⟩,λh=>absurd hf h,b⟩
theorem Ij(d:Option Addr)(n c:Nat)(l:List ah)(w:World)(f:l.length=n)(b:n=0\/64<n) :
  Calls prog 37 #[.slice d n c] w λe w'=>iR w l e w':=by
 have a:Hu (dU l=2):=by unfold Hu dU;rw[if_pos (by omega)]
 clear f
 rcases b with rfl|b
 ·go_enter func37,ntmps37
  go_wp2
  go_ret2;exact iR.bad a.o (by decide) (Q0 _ _)
 ·have g:((n:Int) == 0)=false:=by simp;omega
  go_enter func37,ntmps37
  go_wp2
  go_ret2;exact iR.bad a.o (by decide) (Q0 _ _)
abbrev ql:=(.cells #[(av.core:Int),(av.sock:Int),(av.node:Int)] 74:Obj)
theorem Ik(b o c:Nat)(l:List ah)(w:World)(s:jP w b o l)(B:b<w)(C:0<l.length)(f:l.length<=64) :
  Calls prog 37 #[.slice (some ⟨b,o,none⟩) l.length c] w λe w'=>iR w l e w':=by
 have U:((l.length:Int) == 0)=false:=by rw[Qr];omega
 have L:=qI s;have Hm:=qI B;have P:=qI (gV.made w);have Hx:=qI ((Q0 w w).alloc (lR) (.map #[] 0));have X:=@run_makeMap prog;clear s B
 go_enter func37,ntmps37
 go_wp2
 go_loopw [21] (λi wr=>∃k:Nat,k<=l.length/\i=.int .i64 k/\Hu (eX l k=0)/\gV wr w k (dV l k)/\Below w w wr) (λi _=>l.length - (intOf i).toNat)
 case atStart=>exact⟨0,by omega,rfl,rfl,P.o,Hx.o⟩
 case round=>
  obtain⟨k,V,rfl,A,H,m⟩:=hrel
  by_cases r:k<l.length
  ·obtain⟨Hf,He,Hg⟩:=(L.o.below Hm.o m) k r;have HS:=qI (Ii l k);have Q:=qI λa=>zk l k 1 C f r A.o (G6 (l:=l) (k:=k) a) (by decide);have Hz:=qI λa s=>zk l k 3 C f r A.o (G7 (l:=l) (k:=k) a s) (by decide);have M:=qI λa s=>G5 (l:=l) (k:=k) A.o a s;have O:=qI λh=>G9 (l:=l) (k:=k) (x:=l.getD k av) h;have Ht:=qI λy h=>Ha (l:=l) (k:=k) (x:=l.getD k av) (y:=y) A.o h;generalize l.getD k av=x at *;have Hh:=m.alloc m.size (fO x.core x.sock x.node);have Hq:=H.alloc (fO x.core x.sock x.node);have Hv:=qI (show (wr.alloc (fO x.core x.sock x.node)).cell? wr=some (.int .i64 x.core)/\(wr.alloc (fO x.core x.sock x.node)).cell? ⟨wr,1,none⟩=some (.int .i64 x.sock)/\(wr.alloc (fO x.core x.sock x.node)).cell? ⟨wr,2,none⟩=some (.int .i64 x.node) by simp);clear H
   go_wp2_with fail
   refine (H7 x _).mono ?_;rintro e F ⟨rfl,a⟩;have Hc:=Hh.trans (a.mono Hh.size);have Hi:=Hq.below a Hq.lt;obtain⟨J,N,K⟩:=Hv.o;have D:=(a.cell (p:=wr.heap.size) (by simp)).trans J;have q:=(a.cell (p:=⟨wr,1,none⟩) (by simp)).trans N;have n:=(a.cell (p:=⟨wr,2,none⟩) (by simp)).trans K;clear J N K Hv Hq Hh a m Hf He Hg
   rcases two (jl x) with hi|hi
   ·rw[hi];obtain⟨v,g1,_⟩:=(zi x).1 hi
    rcases hs:dV l k x.core with _|y
    ·have Ho:Hu (eX l (k+1)=0):=M.o hi (O.o hs);have Hj:=Hc.alloc Hc.size (ql);have Hs:=Hi.alloc (ql);have r0:=gW D (ql);have r1:=gW q (ql);have E:=gW n (ql);have z:Hu ((dV l k x.core).getD av=av):=by unfold Hu;rw[hs];rfl
     have u:Hu ((dV l k x.core).isSome=false):=by unfold Hu;rw[hs];rfl
     clear q n hs hi
     go_wp2_with (first
      | (at_lookup;refine sE _ rfl _ _ rfl w.heap.size k (dV l k) x.core v g1 rfl rfl Hi av false z.o u.o ?_)
      | (at_mapUpdate;refine zt _ rfl _ _ _ rfl w.heap.size k (dV l k) x.core v g1 x rfl rfl rfl Hs (by unfold maxLen;omega) ?_;intro R Hr Hb))
     go_roundw
     case rel=>exact⟨k+1,by omega,by go_num,Ho,by rw[<- HS.o];exact Hr,Hj.grown Hb Hj.size (λj G=>by cases G;exact lR)⟩
     case measure=>simp[intOf];omega
    ·by_cases d:y=x
     ·subst d;have Ho:Hu (eX l (k+1)=0):=M.o hi (by rw[Ht.o y hs];simp);have Hj:=Hc.alloc Hc.size (fO y.core y.sock y.node);have Hs:=Hi.alloc (fO y.core y.sock y.node);have r0:=gW D (fO y.core y.sock y.node);have r1:=gW q (fO y.core y.sock y.node);have E:=gW n (fO y.core y.sock y.node);have z:Hu ((dV l k y.core).getD av=y):=by unfold Hu;rw[hs];rfl
      have u:Hu ((dV l k y.core).isSome=true):=by unfold Hu;rw[hs];rfl
      clear q n hs hi
      go_wp2_with (first
       | (at_lookup;refine sE _ rfl _ _ rfl w.heap.size k (dV l k) y.core v g1 rfl rfl Hi y true z.o u.o ?_)
       | (at_mapUpdate;refine zt _ rfl _ _ _ rfl w.heap.size k (dV l k) y.core v g1 y rfl rfl rfl Hs (by unfold maxLen;omega) ?_;intro R Hr Hb))
      go_roundw
      case rel=>exact⟨k+1,by omega,by go_num,Ho,by rw[<- HS.o];exact Hr,Hj.grown Hb Hj.size (λj G=>by cases G;exact lR)⟩
      case measure=>simp[intOf];omega
     ·have t:Hu (dU l=3):=Hz.o hi (by rw[Ht.o y hs];exact Qc d);have T:y.core=x.core:=by obtain⟨_,_,_,h⟩:=zl hs;exact h
      have Hy:(¬ y.sock=x.sock)\/(y.sock=x.sock/\¬ y.node=x.node):=by
       by_cases Hl:y.sock=x.sock
       ·refine .inr ⟨Hl,λW=>d ?_⟩;cases y;cases x;simp_all
       ·exact .inl Hl
      have z:Hu ((dV l k x.core).getD av=y):=by unfold Hu;rw[hs];rfl
      have u:Hu ((dV l k x.core).isSome=true):=by unfold Hu;rw[hs];rfl
      rcases Hy with Hl|⟨Hl,Y⟩
      ·have r0:=gW D (fO x.core y.sock y.node);have r1:=gW q (fO x.core y.sock y.node);have E:=gW n (fO x.core y.sock y.node);clear q n hs hi d
       go_wp2_with (at_lookup;refine sE _ rfl _ _ rfl w k (dV l k) x.core v g1 rfl rfl Hi y true z.o u.o ?_)
       go_ret2;exact iR.bad t.o (by decide) (Hc.alloc Hc.size _)
      ·have r0:=gW D (.cells #[(x.core:Int),(x.sock:Int),(y.node:Int)] 74);have r1:=gW q (.cells #[(x.core:Int),(x.sock:Int),(y.node:Int)] 74);have E:=gW n (.cells #[(x.core:Int),(x.sock:Int),(y.node:Int)] 74);clear q n hs hi d
       go_wp2_with (at_lookup;refine sE _ rfl _ _ rfl w k (dV l k) x.core v g1 rfl rfl Hi y true z.o u.o ?_)
       go_ret2;exact iR.bad t.o (by decide) (Hc.alloc Hc.size _)
   ·have t:Hu (dU l=1):=Q.o hi;rw[hi];clear hi
    go_wp2
    go_ret2;exact iR.bad t.o (by decide) Hc
  ·have Hw:k=l.length:=by omega
   have t:Hu (dU l=0):=G4 l C f (by rw[<- Hw];exact A.o);have S:=qI (Ie b o c l wr (L.o.below Hm.o m) (Q1 Hm.o m.size) C f);clear Hw H
   go_wp2_with fail
   refine S.o.mono ?_;rintro e F ⟨g,I,rfl,Hp,Hk,a⟩;have Hh:=m.trans (a.mono m.size);have Hn:=qI ((Q0 F F).alloc (lR) (.cells #[.slice g l.length I] 168));have Hp:=qI Hp;clear a
   go_wp2
   go_ret2;exact iR.good (g:=g) (c:=I) t.o ⟨by simp,Hp.o.below Hk Hn.o,Q1 Hk Hn.o.size,f⟩ (Hh.trans (Hn.o.mono Hh.size))
end
theorem gU.cases{a:Option Addr}{c:Nat}(h:gU w (.slice a l.length c) l):(l.length=0\/64<l.length)\/∃b o,a=some ⟨b,o,none⟩/\jP w b o l/\b<w.heap.size/\0<l.length/\l.length<=64:=by
 by_cases d:l.length=0\/64<l.length
 ·exact .inl d
 ·rcases h with⟨rfl,_⟩|⟨b,o,g,e,f⟩
  ·simp at d
  ·simp only[Value.slice.injEq] at e;exact .inr ⟨b,o,e.1,f,Q3 w _ (f 0 (by omega)).1,by omega,by omega⟩
theorem Il(d:Option Addr)(c:Nat)(l:List ah)(w:World)(i:gU w (.slice d l.length c) l) :
  Calls prog 37 #[.slice d l.length c] w λe w'=>iR w l e w':=by
 rcases i.cases with h|⟨b,o,rfl,j,a,g,f⟩
 ·exact Ij d l.length c l w rfl h
 ·exact Ik b o c l w j a g f
theorem Im(h:dU l=0):Good l:=by
 intro c a
 have:=(zi c).1 ((Hb h).2.2 c a)
 omega
