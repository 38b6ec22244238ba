import Derived.Test.YtjlblidnfebmiaaGreatDoorY3
import Derived.ProofKit
import Derived.OpenShut
import Derived.ChangeOld
import Derived.Deep.Strs
import Derived.Deep.Slices
import Derived.Carry
import Derived.JoinedOf
import Derived.JoinedAt
import Derived.Laws.Bits128
set_option maxRecDepth 100000
set_option maxHeartbeats 16000000
open Go Go.RowKit
open Go.Proofs.Tryz
namespace Go.Proofs.YtjlblidnfebmiaaGreatDoor
variable{B K k n o s tb:Nat}{Q:Exit->Act->World->Prop}{a b c d j:Int}{f:Int->Option ap}{l:List ap}{ops:Array Oper}{rest:List Oper}{v:Value}{w w':World}{x:ap}
def jZ (c:ap):Bool:=decide (0<=c.core) && decide (c.core<64) && (decide (0<=c.sock) && decide (c.sock<64)) && (decide (0<=c.node) && decide (c.node<4))
theorem Eo(c:ap):jZ c=true↔0<=c.core/\c.core<64/\0<=c.sock/\c.sock<64/\0<=c.node/\c.node<4:=by
 simp only[jZ,Bool.and_eq_true,Qp];omega
def qV (a c:ap):Bool:=decide (a.core=c.core) && decide (a≠c)
def mI (l:List ap) (c:ap):Nat->Bool
 | 0=>false
 | k+1=>mI l c k || qV (l.getD k aA) c
theorem yz(l:List ap)(c:ap)(k:Nat):mI l c k=true↔∃j,j<k/\qV (l.getD j aA) c=true:=by induction k <;> grind[mI]
def lI (l:List ap) (i:Nat):Int:=if jZ (l.getD i aA) then (if mI l (l.getD i aA) i then 3 else 0) else 1
def fY (l:List ap):Nat->Int
 | 0=>0
 | k+1=>if fY l k=0 then lI l k else fY l k
def eC (l:List ap):Int:=if l.length=0\/64<l.length then 2 else fY l l.length
theorem Rp{l:List ap}{i:Nat}(k:Nat)(f:Int)(hf:f≠0)(h:fY l i=f):fY l (i+k)=f:=by induction k <;> grind[fY]
theorem Ep{l:List ap}{k:Nat}(h:fY l k=0):∀j,j<k->lI l j=0:=by induction k <;> grind[fY]
theorem Er{l:List ap}{i:Nat}(f:Int)(d:0<l.length)(c:l.length<=64)(hi:i<l.length)(a:fY l i=0)(b:lI l i=f)(hf:f≠0):eC l=f:=by
 unfold eC;rw[if_neg (by omega)]
 have:fY l (i+1)=f:=by rw[fY,if_pos a,b]
 have:=Rp (l.length - (i+1)) f hf this
 rwa [show i+1+(l.length - (i+1))=l.length by omega] at this
theorem Rq{l:List ap}(b:0<l.length)(a:l.length<=64)(c:fY l l.length=0):eC l=0:=by
 grind[eC]
theorem Rr(h:fY l k=0)(a:jZ (l.getD k aA)=true)(b:mI l (l.getD k aA) k=false):fY l (k+1)=0:=by
 grind[fY,lI]
theorem Rs(a:jZ (l.getD k aA)=false):lI l k=1:=by grind[lI]
theorem Rt(a:jZ (l.getD k aA)=true)(b:mI l (l.getD k aA) k=true):lI l k=3:=by
 grind[lI]
def ew (l:List ap):Nat->Int->Option ap
 | 0,_=>none
 | k+1,c=>if (l.getD k aA).core=c then some (l.getD k aA) else ew l k c
theorem Es(h:ew l k c=some x):∃j,j<k/\l.getD j aA=x/\x.core=c:=by induction k <;> grind[ew,aA]
theorem Ru(h:ew l k c=none):∀j,j<k->(l.getD j aA).core≠c:=by induction k <;> grind[ew,aA]
theorem Rv(h:ew l k x.core=none):mI l x k=false:=by grind[yz,qV,Ru]
theorem Rw{y:ap}(hf:fY l k=0)(h:ew l k x.core=some y):mI l x k=decide (y≠x):=by
 obtain⟨j,p,o,Hc⟩:=Es h;rw[Bool.eq_iff_iff,yz,Qp];constructor
 ·rintro⟨i,hi,d⟩;simp only[qV,Bool.and_eq_true,Qp] at d;intro e
  by_cases c:i=j
  ·grind
  ·have key_Ost:∀a b,a<b->b<k->(l.getD a aA).core=(l.getD b aA).core->l.getD a aA=l.getD b aA:=by
    intro a b Hb n r;have f:=Ep hf b n;unfold lI at f
    by_cases m:jZ (l.getD b aA)=true
    ·rw[if_pos m] at f
     by_cases g:mI l (l.getD b aA) b=true
     ·grind
     ·apply Qt;intro Ha;exact g ((yz _ _ _).2 ⟨a,Hb,by simp_all[qV]⟩)
    ·grind
   have:l.getD i aA=l.getD j aA:=by
    rcases Nat.lt_or_gt_of_ne c with q|q
    ·grind
    ·grind
   rw[this,o] at d;exact d.2 e
 ·intro Ha;exact⟨j,p,by simp_all[qV]⟩
theorem Et(h:eC l=0):0<l.length/\l.length<=64/\∀c∈l,jZ c=true:=by
 unfold eC at h
 by_cases f:l.length=0\/64<l.length
 ·omega
 ·rw[if_neg f] at h;refine⟨by omega,by omega,λc b=>?_⟩;obtain⟨i,hi,rfl⟩:=List.getElem_of_mem b;have a:=Ep h i hi;have e:l.getD i aA=l[i]:=by simp[hi]
  unfold lI at a;rw[e] at a
  by_cases d:jZ l[i]=true
  ·exact d
  ·grind
def kS (w:World) (b o:Nat) (l:List ap):Prop:=
 ∀k,k<l.length->w.cell? ⟨b,o+k*3,none⟩=some (.int .i64 (l.getD k aA).core)/\w.cell? ⟨b,o+k*3+1,none⟩=some (.int .i64 (l.getD k aA).sock)/\w.cell? ⟨b,o+k*3+2,none⟩=some (.int .i64 (l.getD k aA).node)
def fZ (w:World) (v:Value) (l:List ap):Prop:=
 (l=[]/\∃ao c,v=.slice ao 0 c)\/∃b o c,v=.slice (some ⟨b,o,none⟩) l.length c/\kS w b o l
theorem kS.below{d:World}{b:Nat}(h:kS w b o l)(a:b<d)(c:Below d w w'):kS w' b o l:=by
 intro k g;obtain⟨f,i,e⟩:=h k g;exact⟨(c.cell (p:=⟨b,o+k*3,none⟩) a).trans f,(c.cell (p:=⟨b,o+k*3+1,none⟩) a).trans i,(c.cell (p:=⟨b,o+k*3+2,none⟩) a).trans e⟩
theorem fZ.below(h:fZ w v l)(a:Bw w w'):fZ w' v l:=by
 rcases h with h|⟨b,o,c,e,f⟩
 ·exact .inl h
 ·refine .inr ⟨b,o,c,e,λk i=>?_⟩;obtain⟨d,j,g⟩:=f k i;have Ha:=Q3 w _ d;exact⟨(a.cell (p:=⟨b,o+k*3,none⟩) Ha).trans d,(a.cell (p:=⟨b,o+k*3+1,none⟩) Ha).trans j,(a.cell (p:=⟨b,o+k*3+2,none⟩) Ha).trans g⟩
def Good (l:List ap):Prop:=∀c∈l,0<=c.core/\c.core<=63/\0<=c.sock/\c.sock<=63/\0<=c.node/\c.node<=3
theorem Good.at(h:Good l)(a:k<l.length):0<=(l.getD k aA).node/\(l.getD k aA).node<=3:=by
 have:l.getD k aA∈l:=by simp[a]
 have:=h _ this
 exact⟨this.2.2.2.2.1,this.2.2.2.2.2⟩
def bD (m:Nat) (c:ap):Bool:=m.testBit c.node.toNat
theorem Eu(m n:Nat)(a:m<256):(bits BinOp.and IntKind.u8 ((m:Int) / 2 ^ n) 1 == 1)=m.testBit n:=by
 have e:((m:Int) / 2 ^ n)=((m / 2 ^ n:Nat):Int):=by simp
 have Ha:m / 2 ^ n<256:=Nat.lt_of_le_of_lt (Nat.div_le_self _ _) a;rw[e,Nat.testBit_eq_decide_div_mod_eq];generalize m / 2 ^ n=q at Ha;have key:∀q:Fin 256,(bits BinOp.and IntKind.u8 ((q.val:Nat):Int) 1 == 1)=decide (q.val % 2=1):=by decide +kernel
 exact key ⟨q,Ha⟩
section
open Go.ChangeShapes Go.WideShapes Go.ChangeAt Go.RowKit
theorem Ev:prog.cellsOf 74=3:=by kernel_rfl
theorem Rx:prog.cellsOf 3=1:=by kernel_rfl
instance:Inhabited ap:=⟨aA⟩
theorem Ry{H:Type}{enc:TypeId × Value->H}{base:Nat}{m:Nat->Bool}{held:Bool}{d:Nat}{cs:List Value}{x:DataW H × List MemPlace}
  (h:DataW.trod enc prog w base m held d 74 cs=some x):∃y:ap,cs=[.int .i64 y.core,.int .i64 y.sock,.int .i64 y.node]:=by
 obtain⟨t,o,s,n,_,j,f,g,k⟩:=Deep.trod_struct3 underlying74 h;rw[Ev] at j;rw[Rx] at f g k
 match cs,j with
 | [a,b,c],_=>
  obtain⟨p,i,_,_⟩:=DataW.trod_int underlying3 f;obtain⟨q,l,_,_⟩:=DataW.trod_int underlying3 g;obtain⟨r,e,_,_⟩:=DataW.trod_int underlying3 k
  simp at i l e
  exact⟨⟨p,q,r⟩,by rw[i,l,e]⟩
theorem Rz{H:Type}{enc:TypeId × Value->H}{W:World}{z:Option Addr}{len j:Nat}{d:DataW H}{p:List MemPlace}
  (h:DataW.Trod enc prog W 0 (λ_=>true) true 22 (.slice z len j) d p):∃l:List ap,l.length=len/\fZ W (.slice z l.length j) l:=by
 obtain⟨s,hf⟩:=h
 rcases Deep.open_slice underlying22 hf with⟨Hb,_⟩|⟨a,A,u,m,n,D,F,Hb,_,G,I,Hc,_,B⟩
 ·simp[Value.cells] at Hb
  obtain⟨rfl,rfl,rfl⟩:=Hb;exact⟨[],rfl,.inl ⟨rfl,none,0,rfl⟩⟩
 ·simp[Value.cells] at Hb
  obtain⟨rfl,rfl,rfl⟩:=Hb;rw[if_pos rfl] at Hc;subst Hc;rw[Ev] at B;obtain⟨f,He⟩:=Deep.choose_lt (α:=ap) (n:=len) (p:=λi y=>W.cell? (a.add (i*3))=some (.int .i64 y.core)/\W.cell? (a.add (i*3+1))=some (.int .i64 y.sock)/\W.cell? (a.add (i*3+2))=some (.int .i64 y.node)) (λi hi=>by
   obtain⟨E,o,r⟩:=B i (by omega);obtain⟨y,rfl⟩:=Ry r;obtain⟨_,_,c⟩:=World.cells?_some o;have t:=c 0 (by omega);have v:=c 1 (by omega);have w:=c 2 (by omega);rw[Deep.add_add] at t v w;exact⟨y,by simpa using t,by simpa using v,by simpa using w⟩)
  refine⟨(List.range len).map f,by simp,?_⟩
  by_cases q:len=0
  ·subst q;exact .inl ⟨rfl,_,_,rfl⟩
  ·obtain⟨b,off,g⟩:=a;have c:=(He 0 (by omega)).1;have Ha:g=none:=by simpa[Addr.add] using World.cell?_spot c
   subst Ha;refine .inr ⟨b,off,_,rfl,λk C=>?_⟩;have Hf:k<len:=by simpa using C
   obtain⟨x,o,r⟩:=He k Hf;rw[Addr.add_lit] at x o r;have e:((List.range len).map f).getD k aA=f k:=by simp[Hf]
   rw[e];exact⟨x,by omega,by omega⟩
end
theorem m0:m9 8=6148914691236517205:=by decide +kernel
theorem m1:me 8=3689348814741910323:=by decide +kernel
theorem m2:qj 8=1085102592571150095:=by decide +kernel
theorem yA(a:Nat)(m:Nat)(d:a<18446744073709551616)(b:m<18446744073709551616)(z:Int)(c:z=(a:Int)):bits BinOp.and IntKind.u64 z (m:Int)=((a &&& m:Nat):Int):=by
 grind[bits_and_u64_nat]
theorem wrapN(n:Nat)(z:Int)(a:z=(n:Int))(h:n<18446744073709551616):IntKind.u64.wrap z=(n:Int):=by
 grind[IntKind.wrap_u64]
theorem RB(A:Nat)(a:A<18446744073709551616):IntKind.u64.wrap (bits BinOp.and IntKind.u64 ((A:Int) / 2) 6148914691236517205+bits BinOp.and IntKind.u64 (A:Int) 6148914691236517205)=((fj 8 A:Nat):Int)/\fj 8 A<18446744073709551616:=by grind[yA,fj,m0,wrapN,Nat.and_le_right]
theorem RD(x:Nat)(a:x<18446744073709551616):IntKind.u64.wrap (bits BinOp.and IntKind.u64 ((x:Int) / 4) 3689348814741910323+bits BinOp.and IntKind.u64 (x:Int) 3689348814741910323)=((fx 8 x:Nat):Int)/\fx 8 x<=7378697629483820646:=by grind[yA,fx,m1,wrapN,Nat.and_le_right]
theorem RE(x:Nat)(a:x<=7378697629483820646):bits BinOp.and IntKind.u64 (IntKind.u64.wrap ((x:Int) / 16+(x:Int))) 1085102592571150095=((mf 8 x:Nat):Int):=by
 grind[wrapN,mf,m2,yA]
def fM (a b c d e f g h:Nat):Nat:=a+256*(b+256*(c+256*(d+256*(e+256*(f+256*(g+256*h))))))
theorem vf(a b c d e f g h:Nat)(_ha:a<=64)(_hb:b<=64)(_hc:c<=64)(_hd:d<=64)(_he:e<=64)(_hf:f<=64)(_hg:g<=64)(_hh:h<=64):fM a b c d e f g h<4700000000000000000:=by unfold fM;omega
theorem sh8(a b c d e f g h:Nat)(_ha:a<=8)(_hb:b<=8)(_hc:c<=8)(_hd:d<=8)(_he:e<=8)(_hf:f<=8)(_hg:g<=8)(_hh:h<=8) :
  fM a b c d e f g h+fM a b c d e f g h / 256=fM (a+b) (b+c) (c+d) (d+e) (e+f) (f+g) (g+h) h:=by
 grind[fM]
theorem RF(a b c d e f g h:Nat)(_ha:a<=16)(_hb:b<=16)(_hc:c<=16)(_hd:d<=16)(_he:e<=16)(_hf:f<=16)(_hg:g<=16)(_hh:h<=16) :
  fM a b c d e f g h+fM a b c d e f g h / 65536=fM (a+c) (b+d) (c+e) (d+f) (e+g) (f+h) g h:=by
 grind[fM]
theorem RG(a b c d e f g h:Nat)(_ha:a<=32)(_hb:b<=32)(_hc:c<=32)(_hd:d<=32)(_he:e<=32)(_hf:f<=32)(_hg:g<=32)(_hh:h<=32) :
  fM a b c d e f g h+fM a b c d e f g h / 4294967296=fM (a+e) (b+f) (c+g) (d+h) e f g h:=by
 grind[fM]
theorem RH(a b c d e f g h:Nat)(_ha:a<=64):fM a b c d e f g h % 128=a:=by unfold fM;omega
theorem steps(A:Nat)(o:A<18446744073709551616):∃i j X Y Z V:Nat,
  IntKind.u64.wrap (bits BinOp.and IntKind.u64 ((A:Int) / 2) 6148914691236517205+bits BinOp.and IntKind.u64 (A:Int) 6148914691236517205)=(i:Int)/\
  IntKind.u64.wrap (bits BinOp.and IntKind.u64 ((i:Int) / 4) 3689348814741910323+bits BinOp.and IntKind.u64 (i:Int) 3689348814741910323)=(j:Int)/\
  bits BinOp.and IntKind.u64 (IntKind.u64.wrap ((j:Int) / 16+(j:Int))) 1085102592571150095=(X:Int)/\
  IntKind.u64.wrap ((X:Int)+(X:Int) / 256)=(Y:Int)/\IntKind.u64.wrap ((Y:Int)+(Y:Int) / 65536)=(Z:Int)/\IntKind.u64.wrap ((Z:Int)+(Z:Int) / 4294967296)=(V:Int)/\
  V % 128=(bm A 64).length/\V<4700000000000000000:=by
 obtain⟨a,b,c,d,e,f,g,h,q,p,n,hd,u,hf,r,t,w,v⟩:=AO A;have l:=RB A o;have m:=RD (fj 8 A) l.2;have k:=RE (fx 8 (fj 8 A)) m.2;have Ha:mf 8 (fx 8 (fj 8 A))=fM a b c d e f g h:=w;rw[Ha] at k;have x:=vf a b c d e f g h (by omega) (by omega) (by omega) (by omega) (by omega) (by omega) (by omega) (by omega);have s1:=sh8 a b c d e f g h q p n hd u hf r t;have y:=vf (a+b) (b+c) (c+d) (d+e) (e+f) (f+g) (g+h) h (by omega) (by omega) (by omega) (by omega) (by omega) (by omega) (by omega) (by omega);have s2:=RF (a+b) (b+c) (c+d) (d+e) (e+f) (f+g) (g+h) h (by omega) (by omega) (by omega) (by omega) (by omega) (by omega) (by omega) (by omega);have z:=vf (a+b+(c+d)) (b+c+(d+e)) (c+d+(e+f)) (d+e+(f+g)) (e+f+(g+h)) (f+g+h) (g+h) h (by omega) (by omega) (by omega) (by omega) (by omega) (by omega) (by omega) (by omega);have s3:=RG (a+b+(c+d)) (b+c+(d+e)) (c+d+(e+f)) (d+e+(f+g)) (e+f+(g+h)) (f+g+h) (g+h) h (by omega) (by omega) (by omega) (by omega) (by omega) (by omega) (by omega) (by omega);have s:=vf (a+b+(c+d)+(e+f+(g+h))) (b+c+(d+e)+(f+g+h)) (c+d+(e+f)+(g+h)) (d+e+(f+g)+h) (e+f+(g+h)) (f+g+h) (g+h) h (by omega) (by omega) (by omega) (by omega) (by omega) (by omega) (by omega) (by omega);refine⟨_,_,_,fM (a+b) (b+c) (c+d) (d+e) (e+f) (f+g) (g+h) h,fM (a+b+(c+d)) (b+c+(d+e)) (c+d+(e+f)) (d+e+(f+g)) (e+f+(g+h)) (f+g+h) (g+h) h,_,l.1,m.1,k,?_,?_,?_,RH (a+b+(c+d)+(e+f+(g+h))) (b+c+(d+e)+(f+g+h)) (c+d+(e+f)+(g+h)) (d+e+(f+g)+h) (e+f+(g+h)) (f+g+h) (g+h) h (by omega) |>.trans (by rw[v];omega),s⟩
 ·grind[wrapN]
 ·grind[wrapN]
 ·grind[wrapN]
theorem RI(A:Nat){w:World}(a:A<18446744073709551616) :
  CE 77 #[.int .u64 A] w (.int .i64 ((bm A 64).length:Nat)):=by
 obtain⟨j,f,X,Y,Z,V,r1,c,i,k,d,h,e,g⟩:=steps A a;have b:=qI e;clear e
 go_enter func77,ntmps77
 go_wp2
 go_ret;refine⟨?_,rfl⟩;have e:bits BinOp.and IntKind.i64 (V:Int) 127=((bm A 64).length:Nat):=by
  rw[i64_and127];have:=b.o;omega
 exact congrArg (λz=>Ending.returned (z:Int)) e
theorem j7(A:Nat)(w:World)(a:A<18446744073709551616) :
  CE 39 #[.int .u64 A] w (.int .i64 ((bm A 64).length:Nat)):=by
 go_enter func39,ntmps39
 go_wp2
 refine (RI A a).e ?_
 go_wp2
 go_ret;exact⟨rfl,rfl⟩
def nV (f:ap->Int) (l:List ap) (k:Nat):Nat:=aB (λx=>f x == (k:Int)) l
def bh (_:ap):Bool:=true
structure bP (w:World) (tb b o c:Nat) (l:List ap):Prop where
 cell:w.cell? tb=some (.slice (some ⟨b,o,none⟩) l.length c)
 cells:kS w b o l
 lt:b<w
 len:l.length<=64
theorem bP.tlt{b c:Nat}(h:bP w tb b o c l):tb<w:=Q3 w _ h.cell
theorem bP.below{b c:Nat}(h:bP w tb b o c l)(a:Bw w w'):bP w' tb b o c l:=
 ⟨(a.cell (p:=tb) h.tlt).trans h.cell,h.cells.below h.lt a,Q1 h.lt a.size,h.len⟩
theorem RJ(x:ap){w:World} :
  CB 76 #[.agg #[(x.core:Int),(x.sock:Int),(x.node:Int)]] w (.bool (bh x)):=by
 
 go_enter func76,ntmps76
 go_wp2
 go_ret;exact⟨rfl,(Q0 _ _).alloc (lR) _⟩
abbrev gE:=λ(x0 x1 x2:Int)=>(.cells #[x0,x1,x2] 74:Obj)
theorem RK{m b o c:Nat}{l:List ap}{w:World}(d:bP w m b o c l) :
  CB 75 #[m,.func (.func 76) #[] #[]] w (.int .u64 (aB bh l:Nat)):=by
 have n:=qI d.cells;have v:=d.cell;have Hh:=qI d.lt;have u:=d.len;clear d
 
 go_enter func75,ntmps75
 go_wp2
 go_loopw [5,13] (λt i wr=>∃k:Nat,k<=l.length/\i=.int .i64 k/\t=.int .u64 (cS bh l k:Nat)/\Bw w wr) (λ_ i _=>l.length - (intOf i).toNat)
 exact⟨0,by omega,rfl,rfl,Q0 _ _⟩
 ·obtain⟨k,s,rfl,rfl,f⟩:=hrel
  by_cases g:k<l.length
  ·obtain⟨Hb,He,Hc⟩:=(n.o.below Hh f) k g
   
   have r:=qI λh=>rN (p:=bh) (l:=l) (k:=k) h;have q:=qI λh=>rO (p:=bh) (l:=l) (k:=k) h;have A:=qI (jJ bh l k (by omega));generalize l.getD k aA=x at *;have Ha:=f.alloc f.size (gE x.core x.sock x.node)
   go_wp2
   refine (RJ x).m λy a=>?_;have Hg:=Ha.trans (a.mono Ha.size);clear Ha a
   rcases two (bh x) with a|a
   ·have j:Hu (bits BinOp.or IntKind.u64 (cS bh l k:Nat) (IntKind.u64.wrap (2 ^ k))=((cS bh l (k+1):Nat):Int)):=by
     grind[Hu,rP]
    rw[a];clear a
    go_wp2
    go_roundw
    exact⟨k+1,by omega,by go_num,by rw[<- j.o],Hg⟩
    simp[intOf];omega
   ·have j:Hu (cS bh l k=cS bh l (k+1)):=(q.o a).symm;rw[a];clear a
    go_wp2
    go_roundw
    exact⟨k+1,by omega,by go_num,by rw[<- j.o],Hg⟩
    simp[intOf];omega
  ·have Hf:k=l.length:=by omega
   have H:Hu (cS bh l k=aB bh l):=by unfold Hu;rw[Hf];rfl
   clear Hf
   go_wp2
   go_ret;exact⟨congrArg (λz:Nat=>Ending.returned (.int .u64 z)) H,f⟩
theorem nW{a b o c:Nat}{l:List ap}{w:World}(f:bP w a b o c l) :
  CB 38 #[a] w (.int .u64 (aB bh l:Nat)):=by
 
 go_enter func38,ntmps38
 go_wp2
 refine (RK f).m λg d=>?_
 go_wp2
 go_ret;exact⟨rfl,d⟩
abbrev vi:=λ(x0:ap)=>(.cells #[(x0.core:Int),(x0.sock:Int),(x0.node:Int)] 74:Obj)
theorem RL(x:ap){n:Int}{B:Nat}{w:World}(a:w.cell? B=some (.int .i64 n)) :
  CB 261 #[.agg #[(x.core:Int),(x.sock:Int),(x.node:Int)],B] w (.bool ((λx=>x.core == n) x)):=by
 have Ha:=(((Q0 w w).alloc (lR) (vi x)).cell (p:=B) (Q3 w _ a)).trans a;clear a
 go_enter func261,ntmps261
 go_wp2
 go_ret;exact⟨rfl,(Q0 _ _).alloc (lR) _⟩
theorem RM{n:Int}{B q b o c:Nat}{l:List ap}{w:World}(f:bP w q b o c l)(m:w.cell? B=some (.int .i64 n)) :
  CB 75 #[q,.func (.func 261) #[] #[.pointer (some ⟨B,0,none⟩)]] w (.int .u64 (aB (λx=>x.core == n) l:Nat)):=by
 have r:=qI f.cells;have A:=f.cell;have Hj:=qI f.lt;have y:=f.len;clear f;have Hl:=qI m;have Hk:=qI (Q3 w _ m);clear m
 go_enter func75,ntmps75
 go_wp2
 go_loopw [5,13] (λt i wr=>∃k:Nat,k<=l.length/\i=.int .i64 k/\t=.int .u64 (cS (λx=>x.core == n) l k:Nat)/\Bw w wr) (λ_ i _=>l.length - (intOf i).toNat)
 exact⟨0,by omega,rfl,rfl,Q0 _ _⟩
 ·obtain⟨k,v,rfl,rfl,d⟩:=hrel
  by_cases g:k<l.length
  ·obtain⟨Hb,Hg,He⟩:=(r.o.below Hj d) k g;have Hc:=(d.cell (p:=B) Hk).trans Hl;have Hf:=qI ((((Q0 wr wr).alloc (lR) (.cells #[((l.getD k aA).core:Int),((l.getD k aA).sock:Int),((l.getD k aA).node:Int)] 74)).cell (p:=B) (Q3 wr _ Hc)).trans Hc);clear Hc;have u:=qI λh=>rN (p:=(λx=>x.core == n)) (l:=l) (k:=k) h;have s:=qI λh=>rO (p:=(λx=>x.core == n)) (l:=l) (k:=k) h;have D:=qI (jJ (λx=>x.core == n) l k (by omega));generalize l.getD k aA=x at *;have Ha:=d.alloc d.size (gE x.core x.sock x.node)
   go_wp2
   refine (RL x Hf).m λC a=>?_;have Hi:=Ha.trans (a.mono Ha.size);clear Ha a
   rcases two ((λx=>x.core == n) x) with a|a
   ·have j:Hu (bits BinOp.or IntKind.u64 (cS (λx=>x.core == n) l k:Nat) (IntKind.u64.wrap (2 ^ k))=((cS (λx=>x.core == n) l (k+1):Nat):Int)):=by
     grind[Hu,rP]
    rw[a];clear a
    go_wp2
    go_roundw
    exact⟨k+1,by omega,by go_num,by rw[<- j.o],Hi⟩
    simp[intOf];omega
   ·have j:Hu (cS (λx=>x.core == n) l k=cS (λx=>x.core == n) l (k+1)):=(s.o a).symm;rw[a];clear a
    go_wp2
    go_roundw
    exact⟨k+1,by omega,by go_num,by rw[<- j.o],Hi⟩
    simp[intOf];omega
  ·have Hh:k=l.length:=by omega
   have H:Hu (cS (λx=>x.core == n) l k=aB (λx=>x.core == n) l):=by unfold Hu;rw[Hh];rfl
   clear Hh
   go_wp2
   go_ret;exact⟨congrArg (λz:Nat=>Ending.returned (.int .u64 z)) H,d⟩
theorem Ew{a b o c:Nat}{l:List ap}(n:Int){w:World}(d:bP w a b o c l) :
  CB 213 #[a,n] w (.int .u64 (aB (λx=>x.core == n) l:Nat)):=by
 have He:∀(fn:Fn) (first cap:Array Value) (w:World),(Instr.makeFunc fn first cap).run prog w=.ok (.func fn first cap) w:=λ_ _ _ _=>rfl
 have Ha:=(Q0 w w).alloc (lR) (.cells #[n] 3);have Hc:=d.below Ha;have Hb:=qI (show (w.alloc (.cells #[n] 3)).cell? w=some (.int .i64 n) by simp);clear d
 go_enter func213,ntmps213
 go_wp2
 refine (RM Hc Hb).m λg f=>?_
 go_wp2
 go_ret;exact⟨rfl,Ha.trans (f.mono Ha.size)⟩
theorem RN(x:ap){n:Int}{B:Nat}{w:World}(a:w.cell? B=some (.int .i64 n)) :
  CB 260 #[.agg #[(x.core:Int),(x.sock:Int),(x.node:Int)],B] w (.bool ((λx=>x.sock == n) x)):=by
 have Ha:=(((Q0 w w).alloc (lR) (vi x)).cell (p:=B) (Q3 w _ a)).trans a;clear a
 go_enter func260,ntmps260
 go_wp2
 go_ret;exact⟨rfl,(Q0 _ _).alloc (lR) _⟩
theorem RO{n:Int}{B q b o c:Nat}{l:List ap}{w:World}(f:bP w q b o c l)(m:w.cell? B=some (.int .i64 n)) :
  CB 75 #[q,.func (.func 260) #[] #[.pointer (some ⟨B,0,none⟩)]] w (.int .u64 (aB (λx=>x.sock == n) l:Nat)):=by
 have r:=qI f.cells;have A:=f.cell;have Hj:=qI f.lt;have y:=f.len;clear f;have Hl:=qI m;have Hk:=qI (Q3 w _ m);clear m
 go_enter func75,ntmps75
 go_wp2
 go_loopw [5,13] (λt i wr=>∃k:Nat,k<=l.length/\i=.int .i64 k/\t=.int .u64 (cS (λx=>x.sock == n) l k:Nat)/\Bw w wr) (λ_ i _=>l.length - (intOf i).toNat)
 exact⟨0,by omega,rfl,rfl,Q0 _ _⟩
 ·obtain⟨k,v,rfl,rfl,d⟩:=hrel
  by_cases g:k<l.length
  ·obtain⟨Hb,Hg,He⟩:=(r.o.below Hj d) k g;have Hc:=(d.cell (p:=B) Hk).trans Hl;have Hf:=qI ((((Q0 wr wr).alloc (lR) (.cells #[((l.getD k aA).core:Int),((l.getD k aA).sock:Int),((l.getD k aA).node:Int)] 74)).cell (p:=B) (Q3 wr _ Hc)).trans Hc);clear Hc;have u:=qI λh=>rN (p:=(λx=>x.sock == n)) (l:=l) (k:=k) h;have s:=qI λh=>rO (p:=(λx=>x.sock == n)) (l:=l) (k:=k) h;have D:=qI (jJ (λx=>x.sock == n) l k (by omega));generalize l.getD k aA=x at *;have Ha:=d.alloc d.size (gE x.core x.sock x.node)
   go_wp2
   refine (RN x Hf).m λC a=>?_;have Hi:=Ha.trans (a.mono Ha.size);clear Ha a
   rcases two ((λx=>x.sock == n) x) with a|a
   ·have j:Hu (bits BinOp.or IntKind.u64 (cS (λx=>x.sock == n) l k:Nat) (IntKind.u64.wrap (2 ^ k))=((cS (λx=>x.sock == n) l (k+1):Nat):Int)):=by
     grind[Hu,rP]
    rw[a];clear a
    go_wp2
    go_roundw
    exact⟨k+1,by omega,by go_num,by rw[<- j.o],Hi⟩
    simp[intOf];omega
   ·have j:Hu (cS (λx=>x.sock == n) l k=cS (λx=>x.sock == n) l (k+1)):=(s.o a).symm;rw[a];clear a
    go_wp2
    go_roundw
    exact⟨k+1,by omega,by go_num,by rw[<- j.o],Hi⟩
    simp[intOf];omega
  ·have Hh:k=l.length:=by omega
   have H:Hu (cS (λx=>x.sock == n) l k=aB (λx=>x.sock == n) l):=by unfold Hu;rw[Hh];rfl
   clear Hh
   go_wp2
   go_ret;exact⟨congrArg (λz:Nat=>Ending.returned (.int .u64 z)) H,d⟩
theorem RP{a b o c:Nat}{l:List ap}(n:Int){w:World}(d:bP w a b o c l) :
  CB 212 #[a,n] w (.int .u64 (aB (λx=>x.sock == n) l:Nat)):=by
 have He:∀(fn:Fn) (first cap:Array Value) (w:World),(Instr.makeFunc fn first cap).run prog w=.ok (.func fn first cap) w:=λ_ _ _ _=>rfl
 have Ha:=(Q0 w w).alloc (lR) (.cells #[n] 3);have Hc:=d.below Ha;have Hb:=qI (show (w.alloc (.cells #[n] 3)).cell? w=some (.int .i64 n) by simp);clear d
 go_enter func212,ntmps212
 go_wp2
 refine (RO Hc Hb).m λg f=>?_
 go_wp2
 go_ret;exact⟨rfl,Ha.trans (f.mono Ha.size)⟩
theorem RQ(x:ap){n:Nat}{B:Nat}{w:World}(a:w.cell? B=some (.int .u8 n))(c:0<=x.node)(g3:x.node<=3)(b:n<256) :
  CB 210 #[.agg #[(x.core:Int),(x.sock:Int),(x.node:Int)],B] w (.bool ((bD n) x)):=by
 have Ha:=qI (Eu n x.node.toNat b);have Hb:=(((Q0 w w).alloc (lR) (vi x)).cell (p:=B) (Q3 w _ a)).trans a;clear a
 go_enter func210,ntmps210
 go_wp2
 go_ret;exact⟨congrArg (λz=>Ending.returned (.bool z)) Ha,(Q0 _ _).alloc (lR) _⟩
theorem RR{n:Nat}{B r b o c:Nat}{l:List ap}{w:World}(g:bP w r b o c l)(m:w.cell? B=some (.int .u8 n))(q:Good l)(A:n<256) :
  CB 75 #[r,.func (.func 210) #[] #[.pointer (some ⟨B,0,none⟩)]] w (.int .u64 (aB (bD n) l:Nat)):=by
 have u:=qI g.cells;have F:=g.cell;have Hl:=qI g.lt;have E:=g.len;clear g;have Hk:=qI m;have Hj:=qI (Q3 w _ m);have s:=qI q;clear m q
 go_enter func75,ntmps75
 go_wp2
 go_loopw [5,13] (λt i wr=>∃k:Nat,k<=l.length/\i=.int .i64 k/\t=.int .u64 (cS (bD n) l k:Nat)/\Bw w wr) (λ_ i _=>l.length - (intOf i).toNat)
 exact⟨0,by omega,rfl,rfl,Q0 _ _⟩
 ·obtain⟨k,D,rfl,rfl,d⟩:=hrel
  by_cases f:k<l.length
  ·obtain⟨Hb,Hf,He⟩:=(u.o.below Hl d) k f;have Hc:=(d.cell (p:=B) Hj).trans Hk;have Hg:=qI ((((Q0 wr wr).alloc (lR) (.cells #[((l.getD k aA).core:Int),((l.getD k aA).sock:Int),((l.getD k aA).node:Int)] 74)).cell (p:=B) (Q3 wr _ Hc)).trans Hc);clear Hc;obtain⟨v,g3⟩:=s.o.at f;have C:=qI λh=>rN (p:=(bD n)) (l:=l) (k:=k) h;have y:=qI λh=>rO (p:=(bD n)) (l:=l) (k:=k) h;have I:=qI (jJ (bD n) l k (by omega));generalize l.getD k aA=x at *;have Ha:=d.alloc d.size (gE x.core x.sock x.node)
   go_wp2
   refine (RQ x Hg v g3 A).m λG a=>?_;have Hi:=Ha.trans (a.mono Ha.size);clear Ha a
   rcases two ((bD n) x) with a|a
   ·have j:Hu (bits BinOp.or IntKind.u64 (cS (bD n) l k:Nat) (IntKind.u64.wrap (2 ^ k))=((cS (bD n) l (k+1):Nat):Int)):=by
     grind[Hu,rP]
    rw[a];clear a
    go_wp2
    go_roundw
    exact⟨k+1,by omega,by go_num,by rw[<- j.o],Hi⟩
    simp[intOf];omega
   ·have j:Hu (cS (bD n) l k=cS (bD n) l (k+1)):=(y.o a).symm;rw[a];clear a
    go_wp2
    go_roundw
    exact⟨k+1,by omega,by go_num,by rw[<- j.o],Hi⟩
    simp[intOf];omega
  ·have Hh:k=l.length:=by omega
   have H:Hu (cS (bD n) l k=aB (bD n) l):=by unfold Hu;rw[Hh];rfl
   clear Hh
   go_wp2
   go_ret;exact⟨congrArg (λz:Nat=>Ending.returned (.int .u64 z)) H,d⟩
theorem RS{a b o c:Nat}{l:List ap}(n:Nat){w:World}(d:bP w a b o c l)(f:Good l)(h:n<256) :
  CB 168 #[a,.int .u8 n] w (.int .u64 (aB (bD n) l:Nat)):=by
 have He:∀(fn:Fn) (first cap:Array Value) (w:World),(Instr.makeFunc fn first cap).run prog w=.ok (.func fn first cap) w:=λ_ _ _ _=>rfl
 have Ha:=(Q0 w w).alloc (lR) (.cells #[.int .u8 n] 45);have Hc:=d.below Ha;have Hb:=qI (show (w.alloc (.cells #[.int .u8 n] 45)).cell? w=some (.int .u8 n) by simp);clear d
 go_enter func168,ntmps168
 go_wp2
 refine (RR Hc Hb f h).m λi g=>?_
 go_wp2
 go_ret;exact⟨rfl,Ha.trans (g.mono Ha.size)⟩
def cK (s:Nat) (l:List ap) (j:Int):Nat->Nat
 | 0=>0
 | k+1=>if (s.testBit k && decide ((l.getD k aA).node=j))=true then cK s l j k+1 else cK s l j k
theorem vj(h:s.testBit k=true)(a:(l.getD k aA).node=j):cK s l j (k+1)=cK s l j k+1:=by
 grind[cK]
theorem j8(a:(l.getD k aA).node≠j):cK s l j (k+1)=cK s l j k:=by
 simp_all[cK]
theorem vk(h:s.testBit k=false):cK s l j (k+1)=cK s l j k:=by
 grind[cK]
theorem vl(s:Nat)(l:List ap)(j:Int)(k:Nat):cK s l j k<=k:=by induction k <;> grind[cK]
structure cX (w:World) (B:Nat) (a b c d:Int):Prop where
 c0:w.cell? B=some (.int .i64 a)
 c1:w.cell? ⟨B,1,none⟩=some (.int .i64 b)
 c2:w.cell? ⟨B,2,none⟩=some (.int .i64 c)
 c3:w.cell? ⟨B,3,none⟩=some (.int .i64 d)
 f0:w.frozen? B=false
 f1:w.frozen? ⟨B,1,none⟩=false
 f2:w.frozen? ⟨B,2,none⟩=false
 f3:w.frozen? ⟨B,3,none⟩=false
theorem cX.lt(h:cX w B a b c d):B<w:=Q3 w _ h.c0
theorem cX.below(h:cX w B a b c d)(f:Below K w w')(e:B<K):cX w' B a b c d:=
 ⟨(f.cell (p:=B) e).trans h.c0,(f.cell (p:=⟨B,1,none⟩) e).trans h.c1,(f.cell (p:=⟨B,2,none⟩) e).trans h.c2,(f.cell (p:=⟨B,3,none⟩) e).trans h.c3,
  (f.frozen (p:=B) e).trans h.f0,(f.frozen (p:=⟨B,1,none⟩) e).trans h.f1,(f.frozen (p:=⟨B,2,none⟩) e).trans h.f2,(f.frozen (p:=⟨B,3,none⟩) e).trans h.f3⟩
theorem cX.made(w:World)(t:TypeId)(a b c d:Int):cX (w.alloc (.cells #[a,b,c,d] t)) w a b c d:=by
 constructor <;> simp
theorem cX.alloc(h:cX w B a b c d)(o:Obj):cX (w.alloc o) B a b c d:=
 h.below ((Q0 _ _).alloc (lR) _) h.lt
theorem cX.set_other(h:cX w B a b c d){p:Addr}(f:B≠p.block)(v:Value):cX (w.setCell p v) B a b c d:=by
 have e:(w.setCell p v).heap[B]?=w.heap[B]?:=Below.heap_setCell _ _ _ _ f;exact⟨(World.cell?_of_block (w:=w) (a:=B) e).trans h.c0,(World.cell?_of_block (w:=w) (a:=⟨B,1,none⟩) e).trans h.c1,(World.cell?_of_block (w:=w) (a:=⟨B,2,none⟩) e).trans h.c2,(World.cell?_of_block (w:=w) (a:=⟨B,3,none⟩) e).trans h.c3,
  (World.frozen?_of_block (w:=w) (a:=B) e).trans h.f0,(World.frozen?_of_block (w:=w) (a:=⟨B,1,none⟩) e).trans h.f1,(World.frozen?_of_block (w:=w) (a:=⟨B,2,none⟩) e).trans h.f2,(World.frozen?_of_block (w:=w) (a:=⟨B,3,none⟩) e).trans h.f3⟩
theorem cX.set0(h:cX w B a b c d)(x:Int):cX (w.setCell B x) B x b c d:=by
 obtain⟨c0,c1,c2,c3,f0,f1,f2,f3⟩:=h;constructor <;> first|exact World.frozen?_setCell.trans (by assumption)|go_simp
theorem cX.set1(h:cX w B a b c d)(x:Int):cX (w.setCell ⟨B,1,none⟩ x) B a x c d:=by
 obtain⟨c0,c1,c2,c3,f0,f1,f2,f3⟩:=h;constructor <;> first|exact World.frozen?_setCell.trans (by assumption)|go_simp
theorem cX.set2(h:cX w B a b c d)(x:Int):cX (w.setCell ⟨B,2,none⟩ x) B a b x d:=by
 obtain⟨c0,c1,c2,c3,f0,f1,f2,f3⟩:=h;constructor <;> first|exact World.frozen?_setCell.trans (by assumption)|go_simp
theorem cX.set3(h:cX w B a b c d)(x:Int):cX (w.setCell ⟨B,3,none⟩ x) B a b c x:=by
 obtain⟨c0,c1,c2,c3,f0,f1,f2,f3⟩:=h;constructor <;> first|exact World.frozen?_setCell.trans (by assumption)|go_simp
theorem yB(A n:Nat)(w:World)(a:A<18446744073709551616)(b:n<64) :
  Calls prog 148 #[.int .u64 A,(n:Int)] w λe w'=>e=.returned (.bool (A.testBit n))/\w'=w:=by
 have c:=JD A n a
 go_enter func148,ntmps148
 go_wp2_with go_in
 go_ret;exact⟨rfl,rfl⟩
theorem vm{fn:Func}{p:Tmp}{b:TypeId}(h:fn.results=#[.cell p b])(tmps:Array Value)(P:Program)(w:World) :
  (results fn tmps).run P w=((asAddr (tmps.getD p undef)).run P w).andThen λa c=>(loadVar b a).run P c:=by
 simp_all[results]
def qW (s:Nat) (l:List ap) (k:Nat):Value:=.agg #[.int .i64 (cK s l 0 k:Nat),.int .i64 (cK s l 1 k:Nat),.int .i64 (cK s l 2 k:Nat),.int .i64 (cK s l 3 k:Nat)]
abbrev yC:=(.cells #[(0:Int),(0:Int),(0:Int),(0:Int)] 202:Obj)
theorem yD(A:Nat){E b o c:Nat}{l:List ap}{w:World}(y:bP w E b o c l)(H:A<18446744073709551616)(D:Good l) :
  CB 106 #[E,.int .u64 A] w (qW A l l.length):=by
 have Hi:=((Q0 w w).alloc (lR) (yC));have Hf:=Hi.alloc Hi.size (yC);have Hk:=y.below Hf;have J:=qI y.cells;have T:=Hk.cell;have Hl:=qI y.lt;have R:=y.len;have F:=qI D;have Hh:=qI Hf;clear y Hk Hi Hf D
 go_enter func106,ntmps106
 go_wp2
 go_loopw [13] (λi wr=>∃k:Nat,k<=l.length/\i=.int .i64 k/\cX wr w 0 0 0 0/\cX wr (w.heap.size+1) (cK A l 0 k:Nat) (cK A l 1 k:Nat) (cK A l 2 k:Nat) (cK A l 3 k:Nat)/\Bw w wr) (λi _=>l.length - (intOf i).toNat)
 exact⟨0,by omega,rfl,(cX.made _ _ _ _ _ _).alloc _,by have:=cX.made (w.alloc (yC)) 202 0 0 0 0;simpa[cK] using this,Hh⟩
 ·obtain⟨k,K,rfl,f,h,C⟩:=hrel
  by_cases r:k<l.length
  ·obtain⟨Hg,Hj,Hc⟩:=(J.o.below Hl C) k r;obtain⟨B,g3⟩:=F.o.at r;have g:=qI (yB A k (wr.alloc (.cells #[((l.getD k aA).core:Int),((l.getD k aA).sock:Int),((l.getD k aA).node:Int)] 74)) H (by omega));have He:=C.alloc C.size (.cells #[((l.getD k aA).core:Int),((l.getD k aA).sock:Int),((l.getD k aA).node:Int)] 74);have Hb:=f.alloc (.cells #[((l.getD k aA).core:Int),((l.getD k aA).sock:Int),((l.getD k aA).node:Int)] 74);have Ha:=h.alloc (.cells #[((l.getD k aA).core:Int),((l.getD k aA).sock:Int),((l.getD k aA).node:Int)] 74);have G:=qI (vl A l 0 k);have I:=qI (vl A l 1 k);have L:=qI (vl A l 2 k);have M:=qI (vl A l 3 k);have a:(l.getD k aA).node=0\/(l.getD k aA).node=1\/(l.getD k aA).node=2\/(l.getD k aA).node=3:=by omega
   rcases two (A.testBit k) with d|d
   ·rw[d] at g
    rcases a with a|a|a|a
    ·have u:=qI (vj (l:=l) (j:=0) d a);have n:=qI (j8 (s:=A) (l:=l) (k:=k) (j:=1) (by rw[a];decide));have p:=qI (j8 (s:=A) (l:=l) (k:=k) (j:=2) (by rw[a];decide));have t:=qI (j8 (s:=A) (l:=l) (k:=k) (j:=3) (by rw[a];decide));have m:=Ha.c0;have r0:=Ha.f0;have Hb:=qI Hb;have Ha:=qI Ha;clear d f h;rw[a] at Hc g He Hb Ha m r0;clear a B g3;have m0:=G.o;generalize l.getD k aA=x at *;generalize hcz:cK A l 0 k=z at *
     go_wp2_with (go_at_call 148;refine g.o.mono ?_;rintro e w' ⟨rfl,rfl⟩)
     go_roundw
     case rel=>
      refine⟨k+1,by omega,by go_num,Hb.o.set_other (by simp) _,?_,He.setCell (by simp) _⟩;rw[u.o,n.o,p.o,t.o]
      have:=Ha.o.set0 ((z:Int)+1)
      simpa using this
     case measure=>simp[intOf];omega
    ·have u:=qI (vj (l:=l) (j:=1) d a);have q:=qI (j8 (s:=A) (l:=l) (k:=k) (j:=0) (by rw[a];decide));have p:=qI (j8 (s:=A) (l:=l) (k:=k) (j:=2) (by rw[a];decide));have t:=qI (j8 (s:=A) (l:=l) (k:=k) (j:=3) (by rw[a];decide));have m:=Ha.c1;have r0:=Ha.f1;have Hb:=qI Hb;have Ha:=qI Ha;clear d f h;rw[a] at Hc g He Hb Ha m r0;clear a B g3;have m0:=I.o;generalize l.getD k aA=x at *;generalize hcz:cK A l 1 k=z at *
     go_wp2_with (go_at_call 148;refine g.o.mono ?_;rintro e w' ⟨rfl,rfl⟩)
     go_roundw
     case rel=>
      refine⟨k+1,by omega,by go_num,Hb.o.set_other (by simp) _,?_,He.setCell (by simp) _⟩;rw[u.o,q.o,p.o,t.o]
      have:=Ha.o.set1 ((z:Int)+1)
      simpa using this
     case measure=>simp[intOf];omega
    ·have u:=qI (vj (l:=l) (j:=2) d a);have q:=qI (j8 (s:=A) (l:=l) (k:=k) (j:=0) (by rw[a];decide));have n:=qI (j8 (s:=A) (l:=l) (k:=k) (j:=1) (by rw[a];decide));have t:=qI (j8 (s:=A) (l:=l) (k:=k) (j:=3) (by rw[a];decide));have m:=Ha.c2;have r0:=Ha.f2;have Hb:=qI Hb;have Ha:=qI Ha;clear d f h;rw[a] at Hc g He Hb Ha m r0;clear a B g3;have m0:=L.o;generalize l.getD k aA=x at *;generalize hcz:cK A l 2 k=z at *
     go_wp2_with (go_at_call 148;refine g.o.mono ?_;rintro e w' ⟨rfl,rfl⟩)
     go_roundw
     case rel=>
      refine⟨k+1,by omega,by go_num,Hb.o.set_other (by simp) _,?_,He.setCell (by simp) _⟩;rw[u.o,q.o,n.o,t.o]
      have:=Ha.o.set2 ((z:Int)+1)
      simpa using this
     case measure=>simp[intOf];omega
    ·have u:=qI (vj (l:=l) (j:=3) d a);have q:=qI (j8 (s:=A) (l:=l) (k:=k) (j:=0) (by rw[a];decide));have n:=qI (j8 (s:=A) (l:=l) (k:=k) (j:=1) (by rw[a];decide));have p:=qI (j8 (s:=A) (l:=l) (k:=k) (j:=2) (by rw[a];decide));have m:=Ha.c3;have r0:=Ha.f3;have Hb:=qI Hb;have Ha:=qI Ha;clear d f h;rw[a] at Hc g He Hb Ha m r0;clear a B g3;have m0:=M.o;generalize l.getD k aA=x at *;generalize hcz:cK A l 3 k=z at *
     go_wp2_with (go_at_call 148;refine g.o.mono ?_;rintro e w' ⟨rfl,rfl⟩)
     go_roundw
     case rel=>
      refine⟨k+1,by omega,by go_num,Hb.o.set_other (by simp) _,?_,He.setCell (by simp) _⟩;rw[u.o,q.o,n.o,p.o]
      have:=Ha.o.set3 ((z:Int)+1)
      simpa using this
     case measure=>simp[intOf];omega
   ·rw[d] at g;have q:=qI (vk (l:=l) (j:=0) d);have n:=qI (vk (l:=l) (j:=1) d);have p:=qI (vk (l:=l) (j:=2) d);have t:=qI (vk (l:=l) (j:=3) d);have Hb:=qI Hb;have Ha:=qI Ha;clear d f h a;generalize l.getD k aA=x at *
    go_wp2_with (go_at_call 148;refine g.o.mono ?_;rintro e w' ⟨rfl,rfl⟩)
    go_roundw
    exact⟨k+1,by omega,by go_num,Hb,by rw[q.o,n.o,p.o,t.o];exact Ha.o,He⟩
    simp[intOf];omega
  ·have Hm:k=l.length:=by omega
   subst Hm;clear K r;have m:=h.c0;have N:=h.c1;have P:=h.c2;have O:=h.c3;have V:=f.c0;have X:=f.c1;have S:=f.c2;have Q:=f.c3;have r0:=f.f0;have r1:=f.f1;have U:=f.f2;have W:=f.f3;clear f h
   go_wp2
   (try simp only[Exit.inBlock,Exit.then]);refine bodyPost_ret (v:=qW A l l.length) ?_ rfl ⟨rfl,?_⟩
   ·unfold qW;rw[vm rfl];go_simp
   ·exact (((C.setCell (lR) _).setCell (lR) _).setCell (lR) _).setCell (lR) _
theorem or8(s n:Nat)(hs:s<256)(c:n<8):bits BinOp.or IntKind.u8 (s:Int) (IntKind.u8.wrap (2 ^ n))=((s ||| 2 ^ n:Nat):Int):=by
 have key:∀(a:Fin 256) (b:Fin 8),bits BinOp.or IntKind.u8 ((a.val:Nat):Int) (IntKind.u8.wrap (2 ^ b.val))=((a.val ||| 2 ^ b.val:Nat):Int):=by decide +kernel
 exact key ⟨s,hs⟩ ⟨n,c⟩
theorem RT(s n:Nat)(hs:s<256)(c:n<8):bits BinOp.or IntKind.u8 (s:Int) (2 ^ n % 256)=((s ||| 2 ^ n:Nat):Int):=by
 have key:∀(a:Fin 256) (b:Fin 8),bits BinOp.or IntKind.u8 ((a.val:Nat):Int) (2 ^ b.val % 256)=((a.val ||| 2 ^ b.val:Nat):Int):=by decide +kernel
 exact key ⟨s,hs⟩ ⟨n,c⟩
def lJ (l:List ap):Nat->Nat
 | 0=>0
 | k+1=>lJ l k ||| 2 ^ (l.getD k aA).node.toNat
theorem RU(l:List ap)(k j:Nat):(lJ l k).testBit j=true↔∃i,i<k/\(l.getD i aA).node.toNat=j:=by induction k <;> grind[lJ]
def jy (f:Nat->Bool):Nat->Nat
 | 0=>0
 | k+1=>if f k then jy f k ||| 2 ^ k else jy f k
theorem Ex(f:Nat->Bool)(k j:Nat):(jy f k).testBit j=(decide (j<k) && f j):=by induction k <;> grind[jy]
theorem RW(s:Nat)(l:List ap)(j:Int)(k:Nat):0<cK s l j k↔∃i,i<k/\s.testBit i=true/\(l.getD i aA).node=j:=by induction k <;> grind[cK,aA]
theorem RX{l:List ap}(a:Good l):jy (λj=>decide (0<cK (aB bh l) l j l.length)) 4=lJ l l.length:=by
 apply Nat.eq_of_testBit_eq;intro j;rw[Ex,Bool.eq_iff_iff,RU,Bool.and_eq_true,Qp,Qp,RW];constructor
 ·grind
 ·rintro⟨i,hi,b⟩
  have:=a.at hi
  exact⟨by omega,i,hi,by grind[wG,bh],by omega⟩
theorem RY(f:Nat->Bool)(k:Nat)(a:k<=4):jy f k<256:=by
 apply Nat.lt_pow_two_of_testBit (n:=8);intro i hi;rw[Ex];simp[show ¬ i<k by omega]
theorem Ey(a b c d:Int)(w:World):∀k:Nat,k<4->∃x,(Instr.index 202 (.agg #[a,b,c,d]) (k:Int)).run prog w=.ok (x:Int) w/\x=[a,b,c,d].getD k 0:=by
 intro k e
 have:k=0\/k=1\/k=2\/k=3:=by omega
 rcases this with rfl|rfl|rfl|rfl
 ·exact⟨a,by kernel_rfl,rfl⟩
 ·exact⟨b,by kernel_rfl,rfl⟩
 ·exact⟨c,by kernel_rfl,rfl⟩
 ·exact⟨d,by kernel_rfl,rfl⟩
theorem yE{d b o c:Nat}{l:List ap}{w:World}(g:bP w d b o c l)(m:Good l) :
  CB 62 #[d] w (.int .u8 (lJ l l.length:Nat)):=by
 rw[<- RX m];have u:=qI g;have r:=qI m;have Hb:=jJ bh l l.length g.len;have y:=qI (nW g)
 change aB bh l<_ at Hb
 generalize aB bh l=A at *;obtain⟨f,hf⟩:∃f:Nat->Bool,f=λ(j:Nat)=>decide (0<cK A l j l.length):=⟨_,rfl⟩
 rw[<- hf];have z:Hu (∀j:Nat,f j=decide (0<cK A l j l.length)):=λj=>by rw[hf]
 clear g m hf
 go_enter func62,ntmps62
 go_wp2
 refine y.o.m λB Ha=>?_
 go_wp2
 refine (yD A (u.o.below Ha) Hb r).m λv He=>?_;have s:=Ha.trans (He.mono Ha.size);have q:=qI λk h=>Ey (cK A l 0 l.length:Nat) (cK A l 1 l.length:Nat) (cK A l 2 l.length:Nat) (cK A l 3 l.length:Nat) v k h;clear Ha He Hb;unfold qW
 go_wp2
 go_loop [3,10] (λt i=>∃k:Nat,k<=4/\i=.int .i64 k/\t=.int .u8 (jy f k:Nat)) (λ_ i=>4 - (intOf i).toNat)
 exact⟨0,by omega,rfl,rfl⟩
 ·obtain⟨k,h,rfl,rfl⟩:=hrel
  by_cases a:k<4
  ·obtain⟨x,D,Hh⟩:=q.o k a;have Hc:x=(cK A l k l.length:Nat):=by
    grind
   have C:=qI (RY f k (by omega));have Hf:=z.o k;clear Hh
   by_cases p:0<cK A l k l.length
   ·have Hi:0<x:=by omega
    have n:Hu (bits BinOp.or IntKind.u8 (jy f k:Nat) (2 ^ k % 256)=((jy f (k+1):Nat):Int)):=by
     grind[Hu,RT,jy]
    clear Hc p Hf
    go_wp2
    go_round
    exact⟨k+1,by omega,by go_num,by rw[<- n.o]⟩
    simp[intOf];omega
   ·have Hi:¬ 0<x:=by omega
    have n:Hu (jy f k=jy f (k+1)):=by
     grind[Hu,jy]
    clear Hc p Hf
    go_wp2
    go_round
    exact⟨k+1,by omega,by go_num,by rw[<- n.o]⟩
    simp[intOf];omega
  ·have Hg:k=4:=by omega
   subst Hg;clear h a
   go_wp2
   go_ret;exact⟨rfl,s⟩

section
open Go.Maps (Keyed int_keyed keyOf_int_mk)
theorem yF(n m:Int)(w:World):CE 117 #[n,m] w (.bool (decide (0<=n) && decide (n<m))):=by
 rcases two (decide (0<=n)) with h|h
 ·have a:0<=n:=of_decide_eq_true h;rw[h];clear h
  go_enter func117,ntmps117
  go_wp2
  go_ret;exact⟨by simp,rfl⟩
 ·have a:¬ 0<=n:=of_decide_eq_false h;rw[h];clear h
  go_enter func117,ntmps117
  go_wp2
  go_ret;exact⟨by simp,rfl⟩
theorem RZ(x:ap){w:World}:CB 73 #[.agg #[(x.core:Int),(x.sock:Int),(x.node:Int)]] w (.bool (jZ x)):=by
 have b:=qI ((Q0 w w).alloc (lR) (vi x));have a:=qI (yF x.core 64);have c:=qI (yF x.sock 64);have d:=qI (yF x.node 4);unfold jZ;generalize (decide (0<=x.core) && decide (x.core<64))=b1 at *;generalize (decide (0<=x.sock) && decide (x.sock<64))=b2 at *;generalize (decide (0<=x.node) && decide (x.node<4))=f at *;cases b1 <;> cases b2
 case false.false|false.true=>
  all_goals
   go_enter func73,ntmps73
   go_wp2
   refine (a.o _).e ?_
   go_wp2
   go_ret;exact⟨rfl,b⟩
 case true.false=>
  go_enter func73,ntmps73
  go_wp2
  refine (a.o _).e ?_
  go_wp2
  refine (c.o _).e ?_
  go_wp2
  go_ret;exact⟨rfl,b⟩
 case true.true=>
  go_enter func73,ntmps73
  go_wp2
  refine (a.o _).e ?_
  go_wp2
  refine (c.o _).e ?_
  go_wp2
  refine (d.o _).e ?_
  go_wp2
  go_ret;exact⟨by simp,b⟩
def jz (l:List ap):List Value:=l.flatMap λx=>[.int .i64 x.core,.int .i64 x.sock,.int .i64 x.node]
theorem Ez(l:List ap):(jz l).length=l.length*3:=by
 induction l with
 | nil=>rfl
 | cons a r ih=>simp only[jz,List.flatMap_cons,Q2,Qg,List.length_nil] at ih ⊢;omega
theorem EA(l:List ap)(k:Nat)(b:k<l.length):(jz l)[k*3]?=some (.int .i64 (l.getD k aA).core)/\(jz l)[k*3+1]?=some (.int .i64 (l.getD k aA).sock)/\(jz l)[k*3+2]?=some (.int .i64 (l.getD k aA).node):=by
 induction l generalizing k with
 | nil=>simp at b
 | cons a r ih=>
  cases k with
  | zero=>simp[jz]
  | succ k=>
   have:=ih k (by simpa using b)
   have e:jz (a :: r)=[.int .i64 a.core,.int .i64 a.sock,.int .i64 a.node]++jz r:=rfl;rw[e,show (k+1)*3=k*3+3 by omega]
   simpa using this
theorem R0{b o:Nat}(h:kS w b o l)(j:Nat)(u:Value)(f:(jz l)[j]?=some u):w.cell? ((⟨b,o,none⟩:Addr).add j)=some u:=by
 have Ha:j<l.length*3:=by grind[Ez]
 obtain⟨a,c,d⟩:=h (j / 3) (by omega);obtain⟨c0,c1,c2⟩:=EA l (j / 3) (by omega);rw[Addr.add_lit]
 have:j=j / 3*3\/j=j / 3*3+1\/j=j / 3*3+2:=by omega
 rcases this with e|e|e
 ·grind
 ·grind
 ·grind
theorem R6(l:List ap):∀u∈jz l,u.oneCell'=true:=by
 intro u b;simp only[jz,List.mem_flatMap] at b;obtain⟨x,_,a⟩:=b
 simp at a
 rcases a with rfl|rfl|rfl <;> rfl
theorem R7:(prog.info? 74).map (λi=>(i.zero,i.size,i.bytes))=some (some (.agg #[(0:Int),(0:Int),(0:Int)]),3,24):=by kernel_rfl
theorem R8(b o n c:Nat)(w:World):Sem.run prog (binOp BinOp.eql 22 (.slice (some ⟨b,o,none⟩) n c) ()) w=.ok false w:=by kernel_rfl
def R9 (w:World) (l:List ap) (e:Ending) (w':World):Prop:=∃g c',e=.returned (.slice (some ⟨g,0,none⟩) l.length c')/\kS w' g 0 l/\g<w'.heap.size/\Below w w w'
theorem Sa{b o:Nat}(c:Nat){l:List ap}{w:World}(f:kS w b o l)(a:b<w)(t:0<l.length)(v:l.length<=64) :
  Calls pg 74 #[.slice (some ⟨b,o,none⟩) l.length c] w λe w'=>R9 w l e w':=by
 obtain⟨i0,hi,Hi,Hj,Hk⟩:=info_parts R7;have Hc:=(Q0 w w).alloc (lR) (.cells #[] 74);have h:=qI (f.below a Hc);have n:=qI Hc;have Hl:=R8 b o l.length c w;clear f Hc
 go_enter func74,ntmps74
 go_wp2_with (at_builtin;(refine wpList_append_own _ rfl _ _ 22 rfl w 74 i0 (.agg #[(0:Int),(0:Int),(0:Int)]) 3 24 underlying22 hi Hi Hj Hk rfl (by decide) _ _ _ rfl (World.ownsRow_lit w #[] 0 (lR) (Nat.zero_le _) rfl) ⟨b,o,none⟩ l.length c (jz l) rfl (Ez l) (R0 h) (R6 l) (by unfold maxLen;omega) (by omega) (by simp) ?_);intro s q Ha Hb _)
 rcases Ha.2 with⟨rfl,u⟩|⟨g,d,p,rfl,m,Hh,_⟩
 ·omega
 ·have He:=(Ha.lt g rfl).2;have Hg:Hu (kS q g 0 l):=by
   intro k i;obtain⟨c0,c1,c2⟩:=EA l k i;rw[<- List.nil_append (jz l)] at c0 c1 c2;refine⟨?_,?_,?_⟩
   ·rw[Qd,Ha.cellAt (k*3) (by omega)];exact c0
   ·rw[Qd,Ha.cellAt (k*3+1) (by omega)];exact c1
   ·rw[Qd,Ha.cellAt (k*3+2) (by omega)];exact c2
  have Hf:=qI (n.o.grown Hb (by simp) (λj r=>by cases r;exact lR));clear Ha Hb Hh m;rw[Qd]
  go_wp2
  go_ret;exact⟨g,d,rfl,Hg,He,Hf⟩
end
section
open RowKit Go.ChangeMaps
open Go.Maps (Keyed int_keyed keyOf_int_mk)
def qX:Value->Option (DataW Unit × List MemPlace)
 | .agg ⟨[.int .i64 a,.int .i64 b,.int .i64 c]⟩=>some (.agg [.lit (.int .i64 a),.lit (.int .i64 b),.lit (.int .i64 c)],[])
 | _=>none
def pK (x:ap):DataW Unit:=.agg [.lit (.int .i64 x.core),.lit (.int .i64 x.sock),.lit (.int .i64 x.node)]
theorem Sb(x:ap):qX (.agg #[(x.core:Int),(x.sock:Int),(x.node:Int)])=some (pK x,[]):=rfl
theorem Sc{x:ap}{a:List MemPlace}(h:qX v=some (pK x,a)):v=.agg #[(x.core:Int),(x.sock:Int),(x.node:Int)]:=by
 unfold qX at h
 split at h
 ·simp_all[pK]
 ·cases h
def iH (w:World) (B n:Nat) (f:Int->Option ap):Prop:=
 ∃D:DataW Unit,w.ownsMap prog 3 qX B n D/\∀k:Int,0<=k->k<64->Maps.has D (.int .i64 k)=(f k).isSome/\D.atKey (.int .i64 k) (pK aA)=pK ((f k).getD aA)
theorem vo:Keyed prog 3:=int_keyed underlying3
theorem vp{k:Int}(a:0<=k)(h:k<64):(Lit.int .i64 k).wf=true:=WalkArith.wf_i64 (by omega)
theorem iH.alloc(h:iH w B n f)(o:Obj):iH (w.alloc o) B n f:=by
 obtain⟨D,a,b⟩:=h;exact⟨D,a.alloc o,b⟩
theorem iH.below(h:iH w B n f)(c:Below K w w')(b:B<K):iH w' B n f:=by
 obtain⟨D,⟨d,a,g,r⟩,e⟩:=h;exact⟨D,⟨d,a,(c.block B b).trans g,r⟩,e⟩
theorem iH.lt(h:iH w B n f):B<w.heap.size:=by
 obtain⟨D,a,_⟩:=h;exact a.lt
theorem iH.made(w:World):iH (w.alloc (.map #[] 0)) w.heap.size 0 (λ_=>none):=
 ⟨.map [],World.ownsMap_made w _ _ _,λ_ _ _=>⟨rfl,rfl⟩⟩
theorem Se(w:World):(zeroValue 74).run prog w=.ok (.agg #[(0:Int),(0:Int),(0:Int)]) w:=by kernel_rfl
theorem vq{o:Oper}{a:Act}{w:World}(u:o.guard=none){m x:Operand}(d:o.op=Op.lookup 163 m x true)
  {B n:Nat} (f:Int->Option ap) {k:Int} (e:0<=k) (b:k<64) (q:a.eval m=.map (some B)) (r:a.eval x=.int .i64 k) (j:iH w B n f) (y:ap) {ok:Bool} (p:(f k).getD aA=y) (c:(f k).isSome=ok)
  (l:wpList prog ops Q rest (a.put o.dst (.tuple #[.agg #[.int .i64 y.core,.int .i64 y.sock,.int .i64 y.node],.bool ok])) w) :
  wpList prog ops Q (o :: rest) a w:=by
 obtain⟨D,i,s⟩:=j;refine wpList_lookup_own_ok w u m x 163 d 3 74 vo underlying163 qX (Se w) (pK aA) [] rfl B n D q i _ (.int .i64 k) r (keyOf_int_mk underlying3 (vp e b)) ?_;intro v z g;obtain⟨h,t⟩:=s k e b;rw[t,p] at g;rw[h,c,Sc g];exact l
theorem EB{o:Oper}{a:Act}{w:World}(z:o.guard=none){m x v:Operand}(g:o.op=Op.mapUpdate 163 m x v)
  {B n:Nat} (f:Int->Option ap) {k:Int} (i:0<=k) (b:k<64) {y:ap} (s:a.eval m=.map (some B)) (t:a.eval x=.int .i64 k) (q:a.eval v=.agg #[.int .i64 y.core,.int .i64 y.sock,.int .i64 y.node]) (l:iH w B n f) (p:n<maxLen)
  (r:∀w',iH w' B (n+1) (λj=>if k=j then some y else f j)->w.grownBy w' (some B)->wpList prog ops Q rest (a.put o.dst undef) w') :
  wpList prog ops Q (o :: rest) a w:=by
 obtain⟨D,c,h⟩:=l;refine wpList_mapUpdate_own w z m x v 163 g 3 74 vo underlying163 qX B n D s c p _ _ (.int .i64 k) t q (keyOf_int_mk underlying3 (vp i b)) (pK y) [] (Sb y) ?_;intro w' Hc He;refine r w' ⟨_,Hc,λj u d=>?_⟩ He
 by_cases e:k=j
 ·subst e;have Ha:WideAt.IsKeyLit (Lit.int .i64 k):=trivial;rw[Maps.has_put_same c.isMap Ha,Maps.atKey_put_same c.isMap Ha]
  simp
 ·have Hb:(Lit.int .i64 j)≠(Lit.int .i64 k):=by simp;omega
  rw[Maps.has_put_other Hb,Maps.atKey_put_other Hb];simp only[if_neg e];exact h j u d
theorem Sf(l:List ap)(k:Nat):(λj=>if (l.getD k aA).core=j then some (l.getD k aA) else ew l k j)=ew l (k+1):=by
 funext j;rw[ew]
theorem iI{a:Addr}(h:w.cell? a=some v)(o:Obj):(w.alloc o).cell? a=some v:=
 (((Q0 w w).alloc (lR) o).cell (Q3 w _ h)).trans h
def jA (w:World) (l:List ap) (e:Ending) (w':World):Prop:=
 (eC l=0->∃tb g c,e=.returned (.tuple #[.pointer (some ⟨tb,0,none⟩),.nilIface])/\bP w' tb g 0 c l)/\(eC l≠0->e=.returned (.tuple #[.pointer none,.iface 108 (eC l:Int)]))/\Below w w w'
theorem jA.bad{f:Int}(hf:eC l=f)(b:f≠0)(a:Bw w w'):jA w l (.returned (.tuple #[.pointer none,.iface 108 f])) w':=
 ⟨λh=>absurd (hf.symm.trans h) b,λ_=>by rw[hf],a⟩
theorem jA.good{g c:Nat}(hf:eC l=0)(b:bP w' tb g 0 c l)(a:Bw w w'):jA w l (.returned (.tuple #[tb,.nilIface])) w':=
 ⟨λ_=>⟨tb,g,c,rfl,b⟩,λh=>absurd hf h,a⟩
theorem Sg(d:Option Addr)(n c:Nat)(l:List ap)(w:World)(f:l.length=n)(a:n=0\/64<n) :
  Calls pg 37 #[.slice d n c] w λe w'=>jA w l e w':=by
 have b:Hu (eC l=2):=by grind[Hu,eC]
 clear f
 rcases a with rfl|a
 ·go_enter func37,ntmps37
  go_wp2
  go_ret2;exact jA.bad b (by decide) (Q0 _ _)
 ·have g:((n:Int) == 0)=false:=by simp;omega
  go_enter func37,ntmps37
  go_wp2
  go_ret2;exact jA.bad b (by decide) (Q0 _ _)
abbrev sW:=(.cells #[(aA.core:Int),(aA.sock:Int),(aA.node:Int)] 74:Obj)
theorem Sh(b o c:Nat)(l:List ap)(w:World)(t:kS w b o l)(A:b<w)(D:0<l.length)(d:l.length<=64) :
  Calls pg 37 #[.slice (some ⟨b,o,none⟩) l.length c] w λe w'=>jA w l e w':=by
 have W:((l.length:Int) == 0)=false:=by grind
 have H:=qI t;have Hq:=qI A;have Q:=qI (iH.made w);have Hw:=qI ((Q0 w w).alloc (lR) (.map #[] 0));have U:=@run_makeMap prog;clear t A
 go_enter func37,ntmps37
 go_wp2
 go_loopw [21] (λi wr=>∃k:Nat,k<=l.length/\i=.int .i64 k/\Hu (fY l k=0)/\iH wr w k (ew l k)/\Bw w wr) (λi _=>l.length - (intOf i).toNat)
 exact⟨0,by omega,rfl,rfl,Q,Hw⟩
 ·obtain⟨k,T,rfl,B,F,n⟩:=hrel
  by_cases r:k<l.length
  ·obtain⟨He,Hf,Hc⟩:=(H.o.below Hq n) k r;have HS:=qI (Sf l k);have Hz:=qI λa=>Er 1 D d r B (Rs (l:=l) (k:=k) a) (by decide);have O:=qI λa t=>Er 3 D d r B (Rt (l:=l) (k:=k) a t) (by decide);have M:=qI λa t=>Rr (l:=l) (k:=k) B a t;have Hy:=qI λh=>Rv (l:=l) (k:=k) (x:=l.getD k aA) h;have Ht:=qI λy h=>Rw (l:=l) (k:=k) (x:=l.getD k aA) (y:=y) B h;generalize l.getD k aA=x at *;have Hh:=n.alloc n.size (gE x.core x.sock x.node);have Hm:=F.alloc (gE x.core x.sock x.node);have Hv:=qI (show (wr.alloc (gE x.core x.sock x.node)).cell? wr=some (.int .i64 x.core)/\(wr.alloc (gE x.core x.sock x.node)).cell? ⟨wr,1,none⟩=some (.int .i64 x.sock)/\(wr.alloc (gE x.core x.sock x.node)).cell? ⟨wr,2,none⟩=some (.int .i64 x.node) by simp);clear F
   go_wp2
   refine (RZ x).m λE a=>?_;have Hb:=Hh.trans (a.mono Hh.size);have Hg:=Hm.below a Hm.lt;obtain⟨L,K,I⟩:=Hv.o;have C:=(a.cell (p:=wr.heap.size) (by simp)).trans L;have q:=(a.cell (p:=⟨wr,1,none⟩) (by simp)).trans K;have m:=(a.cell (p:=⟨wr,2,none⟩) (by simp)).trans I;clear L K I Hv Hm Hh a n He Hf Hc
   rcases two (jZ x) with hi|hi
   ·rw[hi];obtain⟨u,g1,_⟩:=(Eo x).1 hi
    rcases hs:ew l k x.core with _|y
    ·have Hn:Hu (fY l (k+1)=0):=M.o hi (Hy.o hs);have Hj:=Hb.alloc Hb.size (sW);have Hp:=Hg.alloc (sW);have r0:=iI C (sW);have r1:=iI q (sW);have G:=iI m (sW);have v:Hu ((ew l k x.core).getD aA=aA):=by simp_all
     have s:Hu ((ew l k x.core).isSome=false):=by simp_all
     clear q m hs hi
     go_wp2_with (first
      | (at_lookup;refine vq rfl rfl (ew l k) u g1 rfl rfl Hg aA v s ?_)
      | (at_mapUpdate;refine EB rfl rfl (ew l k) u g1 rfl rfl rfl Hp (by unfold maxLen;omega) ?_;intro R Ho Ha))
     go_roundw
     exact⟨k+1,by omega,by go_num,Hn,by rw[<- HS.o];exact Ho,Hj.grown Ha Hj.size (λj P=>by grind)⟩
     simp[intOf];omega
    ·by_cases f:y=x
     ·subst f;have Hn:=qI (M.o hi (by rw[Ht.o y hs];simp));have Hj:=Hb.alloc Hb.size (gE y.core y.sock y.node);have Hp:=Hg.alloc (gE y.core y.sock y.node);have r0:=iI C (gE y.core y.sock y.node);have r1:=iI q (gE y.core y.sock y.node);have G:=iI m (gE y.core y.sock y.node);have v:Hu ((ew l k y.core).getD aA=y):=by simp_all
      have s:Hu ((ew l k y.core).isSome=true):=by simp_all
      clear q m hs hi
      go_wp2_with (first
       | (at_lookup;refine vq rfl rfl (ew l k) u g1 rfl rfl Hg y v s ?_)
       | (at_mapUpdate;refine EB rfl rfl (ew l k) u g1 rfl rfl rfl Hp (by unfold maxLen;omega) ?_;intro R Ho Ha))
      go_roundw
      exact⟨k+1,by omega,by go_num,Hn,by rw[<- HS.o];exact Ho,Hj.grown Ha Hj.size (λj P=>by grind)⟩
      simp[intOf];omega
     ·have z:Hu (eC l=3):=O.o hi (by rw[Ht.o y hs];exact Qc f);have S:y.core=x.core:=by obtain⟨_,_,_,h⟩:=Es hs;exact h
      have Hx:(¬ y.sock=x.sock)\/(y.sock=x.sock/\¬ y.node=x.node):=by
       by_cases Hk:y.sock=x.sock
       ·refine .inr ⟨Hk,λX=>f ?_⟩;cases y;cases x;simp_all
       ·exact .inl Hk
      have v:Hu ((ew l k x.core).getD aA=y):=by simp_all
      have s:Hu ((ew l k x.core).isSome=true):=by simp_all
      rcases Hx with Hk|⟨Hk,V⟩
      ·have r0:=iI C (gE x.core y.sock y.node);have r1:=iI q (gE x.core y.sock y.node);have G:=iI m (gE x.core y.sock y.node);clear q m hs hi f
       go_wp2_with (at_lookup;refine vq rfl rfl (ew l k) u g1 rfl rfl Hg y v s ?_)
       go_ret2;exact jA.bad z (by decide) (Hb.alloc Hb.size _)
      ·have r0:=iI C (.cells #[(x.core:Int),(x.sock:Int),(y.node:Int)] 74);have r1:=iI q (.cells #[(x.core:Int),(x.sock:Int),(y.node:Int)] 74);have G:=iI m (.cells #[(x.core:Int),(x.sock:Int),(y.node:Int)] 74);clear q m hs hi f
       go_wp2_with (at_lookup;refine vq rfl rfl (ew l k) u g1 rfl rfl Hg y v s ?_)
       go_ret2;exact jA.bad z (by decide) (Hb.alloc Hb.size _)
   ·have z:Hu (eC l=1):=Hz.o hi;rw[hi];clear hi
    go_wp2
    go_ret2;exact jA.bad z (by decide) Hb
  ·have Hs:k=l.length:=by omega
   have z:=qI (Rq D d (by rw[<- Hs];exact B.o));have N:=qI (Sa c (H.o.below Hq n) (Q1 Hq n.size) D d);clear Hs F
   go_wp2
   refine N.o.mono ?_;rintro e E ⟨g,J,rfl,Hr,Hi,a⟩;have Hh:=n.trans (a.mono n.size);have Hl:=qI ((Q0 E E).alloc (lR) (.cells #[.slice g l.length J] 168));have Hr:=qI Hr;clear a
   go_wp2
   go_ret2;exact jA.good (g:=g) (c:=J) z ⟨by simp,Hr.o.below Hi Hl,Q1 Hi Hl.o.size,d⟩ (Hh.trans (Hl.o.mono Hh.size))
end
theorem fZ.cases{e:Option Addr}{c:Nat}(h:fZ w (.slice e l.length c) l):(l.length=0\/64<l.length)\/∃b o,e=some ⟨b,o,none⟩/\kS w b o l/\b<w.heap.size/\0<l.length/\l.length<=64:=by
 by_cases f:l.length=0\/64<l.length
 ·exact .inl f
 ·rcases h with⟨rfl,_⟩|⟨b,o,g,a,d⟩
  ·simp at f
  ·simp only[Value.slice.injEq] at a;exact .inr ⟨b,o,a.1,d,Q3 w _ (d 0 (by omega)).1,by omega,by omega⟩
theorem EC{a:Option Addr}{c:Nat}{l:List ap}{w:World}(d:fZ w (.slice a l.length c) l) :
  Calls pg 37 #[.slice a l.length c] w λe w'=>jA w l e w':=by
 rcases d.cases with h|⟨b,o,rfl,i,f,j,g⟩
 ·grind[Sg]
 ·grind[Sh]
theorem Si(h:eC l=0):Good l:=by
 intro c a
 have:=(Eo c).1 ((Et h).2.2 c a)
 omega
