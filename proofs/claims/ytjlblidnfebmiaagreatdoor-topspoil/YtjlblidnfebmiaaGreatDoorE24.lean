import Derived.Test.YtjlblidnfebmiaaGreatDoorE22
import Derived.Test.YtjlblidnfebmiaaGreatDoorE23
set_option maxRecDepth 100000
set_option maxHeartbeats 16000000
open Go Go.RowKit Go.Shelf
open Go.Proofs.Tryz
namespace Go.Proofs.YtjlblidnfebmiaaGreatDoor
variable {B:Nat} {W:World} {x:RV}
theorem bF {a w:World} (h:Below B a w):Below B a w.drew:=⟨h.os,h.tape,h.output,h.size,h.block⟩
theorem Rr (a b:ByteArray):(a.toList == b.toList)=decide (a=b):=by
 rw [Bool.eq_iff_iff,beq_iff_eq,decide_eq_true_iff,Qs,Qs];exact ⟨λh=>ByteArray.ext (Array.toList_inj.mp h),λh=>by rw [h]⟩
theorem pt (x:ByteArray) (w:World):Calls prog 128 #[x] w λe w'=>e=.returned false/\w'=w:=by
 go_enter func128,ntmps128
 go_wp2
 go_ret;exact ⟨by simp,rfl⟩
theorem xw (x y:ByteArray) (w:World):Calls prog 87 #[x,y] w λe w'=>e=.returned (cz x y:Int)/\w'=w:=by
 have d:Hu (cz x y=if bW x y=true then -1 else if bW y x=true then 1 else 0):=rfl;have Ha:=qI (DL x y);have Hc:=qI (Rk x y);generalize cz x y=T at *
 rcases two (bW x y) with a|a
 ·have c:=qI (d.o.trans (if_pos a));have Hf:Op.bytesLess x.toList y.toList=true:=a;clear d a Ha Hc
  go_enter func87,ntmps87
  go_wp2_with fail
  refine (pt _ _).mono ?_;rintro e f ⟨rfl,rfl⟩
  go_wp2_with fail
  refine (pt _ _).mono ?_;rintro e f ⟨rfl,rfl⟩
  go_wp2
  go_ret;exact ⟨by rw [c.o];rfl,rfl⟩
 ·have Hb:=qI (d.o.trans (if_neg (by rw [a];decide)));have Hf:Op.bytesLess x.toList y.toList=false:=a
  rcases two (bW y x) with b|b
  ·have c:=qI (Hb.o.trans (if_pos b));have Hg:(x.toList == y.toList)=false:=by
    rw [Rr];refine Q7 λe=>?_
    subst e;rw [a] at b;cases b
   clear d Hb a b Ha Hc
   go_enter func87,ntmps87
   go_wp2_with fail
   refine (pt _ _).mono ?_;rintro e f ⟨rfl,rfl⟩
   go_wp2_with fail
   refine (pt _ _).mono ?_;rintro e f ⟨rfl,rfl⟩
   go_wp2
   go_ret;exact ⟨by rw [c.o];rfl,rfl⟩
  ·have c:=qI (Hb.o.trans (if_neg (by rw [b];decide)));have He:x=y:=Ha.o (by rw [a];rfl) (by rw [b];rfl);subst He;clear d Hb a b Ha Hc
   go_enter func87,ntmps87
   go_wp2_with fail
   refine (pt _ _).mono ?_;rintro e f ⟨rfl,rfl⟩
   go_wp2_with fail
   refine (pt _ _).mono ?_;rintro e f ⟨rfl,rfl⟩
   go_wp2
   go_ret;exact ⟨by rw [c.o];rfl,rfl⟩
theorem Rs (a b:Int) (g n:Nat) (w:World) (d:w.cell? g=some (.int .i64 a)) (o:w.cell? ⟨g,1,none⟩=some (.int .i64 b)) :
  Calls prog 86 #[.slice g 2 n] w λe w'=>e=.returned (j8 a b:Int)/\w'=w:=by
 have p:Hu (∀ k:Nat,k<2->∃ v:Int,cl w g k (v:Int)/\(v=if k=0 then a else b)):=by
  intro k q
  have:k=0\/k=1:=by omega
  rcases this with rfl|rfl
  ·exact ⟨a,d,rfl⟩
  ·exact ⟨b,o,rfl⟩
 clear d o
 go_enter func86,ntmps86
 go_wp2_with fail
 go_loop [8] (λi=>∃ k:Nat,k<=2/\i=.int .i64 k/\Hu ((0<k->a=0)/\(1<k->b=0))) (λi=>2 - (intOf i).toNat)
 case atStart=>exact ⟨0,by omega,rfl,⟨λh=>by omega,λh=>by omega⟩⟩
 case round=>
  obtain ⟨k,q,rfl,l⟩:=hrel
  by_cases f:k<2
  ·obtain ⟨v,s,c⟩:=p.o k f;have m:=qI c;clear c
   by_cases d:v=0
   ·subst d;have Ha:Hu ((0<k+1->a=0)/\(1<k+1->b=0)):=by
     obtain ⟨z0,z1⟩:=l.o;have c:=m.o
     have:k=0\/k=1:=by omega
     rcases this with rfl|rfl
     ·simp at c;exact ⟨λ_=>c.symm,λh=>by omega⟩
     ·simp at c;exact ⟨λ_=>z0 (by omega),λ_=>c.symm⟩
    go_wp2_with fail
    go_round
    case rel=>exact ⟨k+1,by omega,by go_num,Ha⟩
    case measure=>simp [intOf];omega
   ·have j:Hu (j8 a b=v):=by
     obtain ⟨z0,z1⟩:=l.o;have c:=m.o
     have:k=0\/k=1:=by omega
     unfold Hu j8
     rcases this with rfl|rfl
     ·simp at c;subst c;rw [if_neg d]
     ·simp at c;subst c;rw [if_pos (z0 (by omega))]
    have r:(v != 0)=true:=by simp [d]
    go_wp2
    go_ret;exact ⟨by rw [j.o];rfl,rfl⟩
  ·have Hb:k=2:=by omega
   subst Hb;have j:Hu (j8 a b=0):=by
    obtain ⟨z0,z1⟩:=l.o;unfold Hu j8;rw [if_pos (z0 (by omega)),z1 (by omega)]
   go_wp2
   go_ret;exact ⟨by rw [j.o];rfl,rfl⟩
def b7 (W:World) (B:Nat) (x:RV):Prop:=W.heap[B]?=some (.cells #[x.pod,x.cont,.int .u64 x.cpus,.slice x.da x.dn x.dc] 129 (0,0))
theorem b7.lt (h:b7 W B x):B<W:=(gS h).1
theorem b7.cells (h:b7 W B x):W.cell? B=some (.string x.pod)/\W.cell? ⟨B,1,none⟩=some (.string x.cont)/\W.cell? ⟨B,2,none⟩=some (.int .u64 x.cpus)/\W.cell? ⟨B,3,none⟩=some (.slice x.da x.dn x.dc):=by
 refine ⟨?_,?_,?_,?_⟩ <;> simp [World.cell?,show W.heap[B]?=_ from h]
abbrev iV:=λ(x0:RV)=>(.cells #[x0.pod,x0.cont,.int .u64 x0.cpus,.slice x0.da x0.dn x0.dc] 129:Obj)
theorem b7.made (w:World) (x:RV):b7 (w.alloc (iV x)) w x:=World.alloc_heap_new w _
theorem b7.below {W':World} (h:b7 W B x) (a:Below W W W'):b7 W' B x:=(a.block B h.lt).trans h
theorem b7.alloc (h:b7 W B x) (o:Obj):b7 (W.alloc o) B x:=h.below ((Q0 _ W).alloc (lR) o)
theorem Rt (w:World) (t:TypeId) (a b:Int):(w.alloc (.cells #[a,b] t)).cell? w=some (.int .i64 a)/\(w.alloc (.cells #[a,b] t)).cell? ⟨w,1,none⟩=some (.int .i64 b):=⟨by simp,by simp⟩
theorem Ru (x y:RV) (w:World):Calls prog 85 #[.agg #[x.pod,x.cont,.int .u64 x.cpus,.slice x.da x.dn x.dc],.agg #[y.pod,y.cont,.int .u64 y.cpus,.slice y.da y.dn y.dc]] w λe w'=>e=.returned (j8 (cz x.pod y.pod) (cz x.cont y.cont):Int)/\Below w w w'/\w.drawn<=w'.drawn:=by
 have Hg:=((Q0 w w).alloc (lR) (iV x)).alloc (by simp) (iV y);have Hf:=qI (bF Hg);have b:=qI (((b7.made w x).alloc (iV y)).below (bF (Q0 _ _)));have f:=(b7.made (w.alloc (iV x)) y).below (bF (Q0 _ _));rw [show (w.alloc (iV x)).heap.size=w.heap.size+1 by simp] at f;have c:=qI f;clear Hg f
 go_enter func85,ntmps85
 go_wp2_with fail
 refine wp_region_held_drew (S:=(λw'=>(cl w' w (0) x.pod/\cl w' w (1) x.cont)/\cl w' (w.heap.size+1) (0) y.pod/\cl w' (w.heap.size+1) (1) y.cont)) (by kernel_rfl) ⟨⟨b.o.cells.1,b.o.cells.2.1⟩,c.o.cells.1,c.o.cells.2.1⟩ λd=>?_;refine tk 0 ?_;refine tk 1 ?_;refine tk 2 ?_;refine tk 3 ?_;refine tk 5 ?_;refine tk 6 ?_;refine tk 7 ?_;refine tk 8 ?_;refine rd 4 λK a=>?_;go_simp
 go_wp2_with fail
 refine (xw _ _ _).mono ?_;rintro e g ⟨rfl,rfl⟩
 go_wp2_with fail
 refine a.o _ _ ⟨⟨b.o.cells.1,b.o.cells.2.1⟩,c.o.cells.1,c.o.cells.2.1⟩ λd=>?_;clear a K;refine rd 9 λK a=>?_;go_simp
 go_wp2_with fail
 refine (xw _ _ _).mono ?_;rintro e g ⟨rfl,rfl⟩
 go_wp2_with fail
 refine a.o _ _ ⟨⟨b.o.cells.1,b.o.cells.2.1⟩,c.o.cells.1,c.o.cells.2.1⟩ λd=>?_;clear a K;have Hb:=qI (b.o.alloc (.cells #[(cz x.pod y.pod:Int),(cz x.cont y.cont:Int)] 3));have Ha:=qI (c.o.alloc (.cells #[(cz x.pod y.pod:Int),(cz x.cont y.cont:Int)] 3));have Hh:=qI (Hf.o.alloc Hf.o.size (.cells #[(cz x.pod y.pod:Int),(cz x.cont y.cont:Int)] 3));have Hc:=Rt (((w.alloc (iV x)).alloc (iV y)).drew) 3 (cz x.pod y.pod) (cz x.cont y.cont);rw [show (((w.alloc (iV x)).alloc (iV y)).drew).heap.size=w.heap.size+1+1 by simp [World.drew]] at Hc;have He:=qI Hc;clear Hc;refine rd 10 λK a=>?_;go_simp
 go_wp2_with fail
 refine a.o _ _ ⟨⟨Hb.o.cells.1,Hb.o.cells.2.1⟩,Ha.o.cells.1,Ha.o.cells.2.1⟩ λd=>?_;clear a K;refine rd 11 λK a=>?_;go_simp
 go_wp2_with fail
 refine (Rs (cz x.pod y.pod) (cz x.cont y.cont) _ _ _ He.o.1 He.o.2).mono ?_;rintro e g ⟨rfl,rfl⟩
 go_wp2_with fail
 refine a.o _ _ ⟨⟨Hb.o.cells.1,Hb.o.cells.2.1⟩,Ha.o.cells.1,Ha.o.cells.2.1⟩ λd=>?_;clear a K;refine tk 12 ?_;refine Qn (by kernel_rfl) ?_ _
 go_wp2
 go_ret;exact ⟨rfl,Hh.o,Nat.le_succ _⟩
end Go.Proofs.YtjlblidnfebmiaaGreatDoor
namespace Go.Proofs
open Go.Shelf
def Tryz.sortRL_ren:Go.Shelf.Ren:=⟨fun|6=>126|15=>161|14=>160|28=>202|29=>203|20=>194|21=>195|22=>196|23=>197|24=>198|25=>199|26=>200|27=>201|46=>253|47=>254|48=>255|49=>256|50=>257|57=>289|n=>n,fun|22=>120|24=>129|25=>182|3=>3|39=>219|0=>0|53=>296|55=>23|4=>4|46=>312|45=>311|50=>134|5=>5|9=>9|66=>357|70=>361|76=>389|77=>390|n=>n,fun|n=>n⟩
theorem Tryz.sortRL:Go.Proofs.SlLaysF0.n6 Tryz.prog Tryz.sortRL_ren:=by
 constructor
 case f6=>exact ⟨Tryz.f126.name,by decide,Tryz.func126.trans (congrArg some (by kernel_rfl))⟩
 case f14=>exact ⟨Tryz.f160.name,by decide,Tryz.func160.trans (congrArg some (by kernel_rfl))⟩
 case f20=>exact ⟨Tryz.f194.name,by decide,Tryz.func194.trans (congrArg some (by kernel_rfl))⟩
 case f21=>exact ⟨Tryz.f195.name,by decide,Tryz.func195.trans (congrArg some (by kernel_rfl))⟩
 case f22=>exact ⟨Tryz.f196.name,by decide,Tryz.func196.trans (congrArg some (by kernel_rfl))⟩
 case f23=>exact ⟨Tryz.f197.name,by decide,Tryz.func197.trans (congrArg some (by kernel_rfl))⟩
 case f24=>exact ⟨Tryz.f198.name,by decide,Tryz.func198.trans (congrArg some (by kernel_rfl))⟩
 case f25=>exact ⟨Tryz.f199.name,by decide,Tryz.func199.trans (congrArg some (by kernel_rfl))⟩
 case f26=>exact ⟨Tryz.f200.name,by decide,Tryz.func200.trans (congrArg some (by kernel_rfl))⟩
 case f27=>exact ⟨Tryz.f201.name,by decide,Tryz.func201.trans (congrArg some (by kernel_rfl))⟩
 case f46=>exact ⟨Tryz.f253.name,by decide,Tryz.func253.trans (congrArg some (by kernel_rfl))⟩
 case f49=>exact ⟨Tryz.f256.name,by decide,Tryz.func256.trans (congrArg some (by kernel_rfl))⟩
 case f50=>exact ⟨Tryz.f257.name,by decide,Tryz.func257.trans (congrArg some (by kernel_rfl))⟩
 case f57=>exact ⟨Tryz.f289.name,by decide,Tryz.func289.trans (congrArg some (by kernel_rfl))⟩
 all_goals intros;kernel_rfl
end Go.Proofs
namespace Go.Proofs.YtjlblidnfebmiaaGreatDoor
variable {B B1 B2 Bd Be Bm K base g k n:Nat} {W a b c w w':World} {qs xs ys:List RV} {x z:RV}
section
open Go.Sort (SWO PermIn SortedIn HoldsK flatK putRowK)
instance:Inhabited RV:=⟨⟨ByteArray.empty,ByteArray.empty,0,none,0,0⟩⟩
def cfR (x y:RV):Int:=j8 (cz x.pod y.pod) (cz x.cont y.cont)
theorem xx (x y:RV):cfR x y<0↔(dG (bW x.pod y.pod)=1\/(dG (bW x.pod y.pod)=0/\dG (bW y.pod x.pod)=0/\dG (bW x.cont y.cont)=1)):=by grind [cfR,j8,cz,dG]
theorem Rv:SWO (ltOf cfR) where
 irrefl a:=by
  refine Q7 ?_;rw [xx]
  have:=xv a.pod
  have:=xv a.cont
  omega
 trans a b c f d:=by
  have f:=of_decide_eq_true f;have d:=of_decide_eq_true d;refine Qc ?_;rw [xx] at *;have e:=lF (bW a.pod c.pod)
  rcases f with f|⟨f,Hc,Hf⟩
  ·rcases d with d|⟨d,Ha,He⟩
   ·exact .inl (tF _ _ _ f d)
   ·rcases e with e|e
    ·have:=mG a.pod c.pod b.pod e Ha
     omega
    ·exact .inl e
  ·rcases d with d|⟨d,Ha,He⟩
   ·rcases e with e|e
    ·have:=mG b.pod a.pod c.pod Hc e
     omega
    ·exact .inl e
   ·exact .inr ⟨mG _ _ _ f d,mG _ _ _ Ha Hc,tF _ _ _ Hf He⟩
 ntrans a b c f d:=by
  have f:=of_decide_eq_false f;have d:=of_decide_eq_false d;refine Q7 ?_;rw [xx] at *;have e:=lF (bW a.pod b.pod);have j:=lF (bW b.pod c.pod);have n:=lF (bW b.pod a.pod);have o:=lF (bW c.pod b.pod);have p:=lF (bW a.cont b.cont);have m:=lF (bW b.cont c.cont);have h:dG (bW a.pod b.pod)=0:=by omega
  have g:dG (bW b.pod c.pod)=0:=by omega
  rintro (i|⟨i,Hb,Hg⟩)
  ·have:=mG a.pod b.pod c.pod h g
   omega
  ·have l:dG (bW b.pod a.pod)=0:=mG b.pod c.pod a.pod g Hb;have k:dG (bW c.pod b.pod)=0:=mG c.pod a.pod b.pod Hb h
   have:=mG a.cont b.cont c.cont (by omega) (by omega)
   omega
theorem Rw {w':World} (f:Below w w w') (hd:w.drawn<=w'.drawn):∃ q os,w'=Go.Sort.grow (w.drewN q) os:=by
 refine ⟨w'.drawn - w.drawn,w'.heap.extract w w',?_⟩;obtain ⟨c,b,a,g,e⟩:=f;have d:w'.heap=w.heap++w'.heap.extract w w':=by
  apply Array.ext_getElem?
  intro i
  by_cases hi:i<w
  ·rw [Array.getElem?_append_left hi];exact e i hi
  ·rw [Array.getElem?_append_right (by omega),Array.getElem?_extract]
   by_cases h:i<w'
   ·rw [if_pos (by omega)]
    congr 1
    omega
   ·rw [if_neg (by omega)];exact Array.getElem?_eq_none (by omega)
 unfold Go.Sort.grow World.drewN;cases w';cases w;simp only at c b a hd d;simp only [World.mk.injEq];exact ⟨d,b,by omega,c,a⟩
theorem DP (w:World) (a off m:Nat) (f:Array RV) (os:Array Obj):w.grownBy (sortWorldK RV.cells 4 w a off m f os) (some a):=by
 refine ⟨rfl,rfl,rfl,?_,λj d b=>?_⟩
 ·simp [sortWorldK,Go.Sort.grow,putRowK,Go.Sort.putRow,Go.Sort.mapBlock,Go.Sort.ahead]
 ·have c:a≠j:=λe=>b (by rw [e])
  simp [sortWorldK,Go.Sort.grow,putRowK,Go.Sort.putRow,Go.Sort.mapBlock,Go.Sort.ahead,Array.getElem?_append,Array.getElem_modify,d,c]
def jv (w:World) (g k:Nat) (x:RV):Prop:=
 (w.cell? ⟨g,k*4,none⟩=some (.string x.pod)/\w.cell? ⟨g,k*4+1,none⟩=some (.string x.cont)/\w.cell? ⟨g,k*4+2,none⟩=some (.int .u64 x.cpus)/\w.cell? ⟨g,k*4+3,none⟩=some (.slice x.da x.dn x.dc))/\
 (w.frozen? ⟨g,k*4,none⟩=false/\w.frozen? ⟨g,k*4+1,none⟩=false/\w.frozen? ⟨g,k*4+2,none⟩=false/\w.frozen? ⟨g,k*4+3,none⟩=false)
def rv (ys:List RV) (k:Nat):RV:=ys.getD k default
def lG (base:Nat) (w:World) (v:Value) (ys:List RV):Prop:=
 ∃ a c,v=.slice a ys.length c/\ys.length<=c/\(0<ys.length->∃ g,a=some ⟨g,0,none⟩/\base<=g/\g<w.heap.size/\∀ k,k<ys.length->jv w g k (rv ys k))
theorem DQ (a:List RV) (k:Nat) (b:k<a.length) (c:Nat) (d:c<4):(a.flatMap RV.cells)[k*4+c]?=(RV.cells (rv a k))[c]?:=by
 induction a generalizing k with
 | nil=>simp at b
 | cons y l ih=>
  rw [List.flatMap_cons];cases k with
  | zero=>
   rw [List.getElem?_append_left (by simp [RV.cells];omega)]
   simp [rv]
  | succ k=>
   rw [List.getElem?_append_right (by simp [RV.cells];omega)];rw [show (k+1)*4+c - (RV.cells y).length=k*4+c by simp [RV.cells];omega];rw [ih k (by simpa using b)]
   simp [rv]
theorem Rx (h:∀ c,c<4->∀ u,(RV.cells x)[c]?=some u->w.cell? ⟨g,k*4+c,none⟩=some u/\w.frozen? ⟨g,k*4+c,none⟩=false):jv w g k x:=by
 obtain ⟨a0,b0⟩:=h 0 (by omega) _ rfl;obtain ⟨b,b1⟩:=h 1 (by omega) _ rfl;obtain ⟨a2,b2⟩:=h 2 (by omega) _ rfl;obtain ⟨a3,a⟩:=h 3 (by omega) _ rfl;exact ⟨⟨a0,b,a2,a3⟩,b0,b1,b2,a⟩
theorem Ry {v:Value} (h:cP base w v ys) (p:0<ys.length):∃ g a,v=.slice (some ⟨g,0,none⟩) ys.length a/\ys.length<=a/\base<=g/\g<w.heap.size/\HoldsK RV.cells 4 w g 0 ys.toArray:=by
 rcases h.2 with ⟨_,q⟩|⟨g,a,f,o,m,c,Ha,Hb,_,l⟩
 ·omega
 ·refine ⟨g,a,o,Ha,m,(gS c).1,λj d=>?_⟩;rw [Go.Sort.size_flatK] at d;rw [Go.Sort.get_flatK _ _ _ _ d];have k:j / 4<ys.length:=by simp at d;omega
  have b:=DQ ys (j / 4) k (j % 4) (by omega);rw [show j / 4*4+j % 4=j by omega,<- l,List.getElem?_take] at b;have e:ys.toArray[j / 4]! = rv ys (j / 4):=by simp [rv,k]
  have i:j % 4<(RV.cells (rv ys (j / 4))).length:=by simp [RV.cells];omega
  rw [Qf i] at b
  split at b
  ·have n:f[j]?=some ((RV.cells (rv ys (j / 4)))[j % 4]):=by simpa using b
   rw [e,List.getElem!_eq_getElem?_getD,Qf i];refine ⟨?_,?_⟩
   ·unfold World.cell?;rw [c];simp [n]
   ·unfold World.frozen?;rw [c];simp
  ·cases b
def nY (ys:List RV):Prop:=ys.Pairwise λx y=>¬ cfR y x<0
theorem Rz (a:List RV) (w:World) (v:Value) (K:Nat) (d:cP K w v a) (F:a.length<=1000) :
  Calls prog 126 #[v,.func (.func 85) #[] #[]] w λe w'=>e=.returned (.tuple #[])/\(∃ n,lG K w' v n/\n.Perm a/\nY n)/\Below K w w':=by
 by_cases r:0<a.length
 ·obtain ⟨g,b,rfl,Hj,Hm,Ha,o⟩:=Ry d r;have Hg:a.toArray.size=a.length:=by simp
  have C:∀ args w,(callFunc 85 args).run prog w=.ok (.enter 85 args) w:=enters_of func85 (by kernel_rfl) rfl;have Hf:CmpLays prog 85 #[] RV.cells 4 cfR g 0 a.toArray.size w:=by
   intro m os G _ x y;exact (Ru x y _).mono λe w' ⟨he,hb,hdr⟩=>⟨he,Rw hb hdr⟩
  have s:∀ x:RV,∀ v∈RV.cells x,v.oneCell'=true:=by
   intro x v f
   simp [RV.cells] at f
   rcases f with rfl|rfl|rfl|rfl <;> rfl
  have He:=AnyQ.slices_SortFunc Tryz.sortRL 4 isAgg129 sizeOf129 RV.cells (λ_=>rfl) s cfR Rv 85 #[] g 0 b a.toArray w C Hf o Ha (by simp;omega)
  change Calls prog 126 _ _ _ at He
  rw [Hg] at He;refine He.mono λe w' ⟨he,d',m,os,hp,hs,hw'⟩=>⟨he,?_,?_⟩
  ·have Hb:d'.size=a.length:=by rw [hp.1,Hg]
   have Hc:=DP w g 0 m d' os;have Hn:HoldsK RV.cells 4 w' g 0 d':=by
    rw [hw'];exact Go.Sort.holdsK_grow _ _ _ _ _ _ _ (by simpa [putRowK,Go.Sort.putRow,Go.Sort.mapBlock,Go.Sort.ahead] using Ha) (Go.Sort.holdsK_putRowK _ _ _ _ _ a.toArray _ (Go.Sort.holdsK_ahead _ _ _ _ _ _ _ o) (by rw [hp.1]))
   refine ⟨d'.toList,⟨_,b,by simp [Hb],by simp [Hb];exact Hj,λ_=>⟨g,rfl,Hm,?_,λk q=>?_⟩⟩,?_,?_⟩
   ·rw [hw'];exact Q1 Ha Hc.size
   ·have Hh:k<d'.size:=by simpa using q
    have e:d'[k]! = rv d'.toList k:=by rw [getElem!_pos d' k Hh];simp [rv,Hh]
    rw [<- e];refine Rx λc B u z=>?_
    have l:=Hn.cell (i:=k) (c:=c) (by omega) B;rw [Qd] at l;have D:(RV.cells d'[k]!)[c]! = u:=by rw [List.getElem!_eq_getElem?_getD,z];rfl
    rw [D] at l;exact l
   ·have:=hp.2.2
    simp only [Array.toList_extract,List.extract_eq_take_drop,List.drop_zero,Nat.sub_zero] at this;rw [List.take_of_length_le (by simp [Hb]),List.take_of_length_le (by simp)] at this
    simpa using this
   ·unfold nY;rw [List.pairwise_iff_getElem];intro i j hi A Hk;have Hi:i<d'.size:=by simpa using hi
    have Hl:j<d'.size:=by simpa using A
    have:=hs i j (Nat.zero_le _) Hk (by omega)
    rw [getElem!_pos d' j Hl,getElem!_pos d' i Hi] at this;have t:=of_decide_eq_false this
    simpa using t
  ·rw [hw'];have Hc:=DP w g 0 m d' os;exact ⟨Hc.os,Hc.tape,Hc.output,Hc.size,λk q=>Hc.block k (by omega) (λe=>by cases e;omega)⟩
 ·have e:a=[]:=Qe (by omega);subst e;have f:∃ p c,v=.slice p 0 c:=by
   rcases d.2 with ⟨f,_⟩|⟨g,b,E,f,_⟩
   ·exact ⟨none,0,f⟩
   ·exact ⟨_,b,f⟩
  obtain ⟨p,c,rfl⟩:=f;have He:=AnyF.slices_SortFunc_none (P:=prog) (ρ:=Tryz.sortRL_ren) { Tryz.sortRL with } p c (.func (.func 85) #[] #[]) w
  change Calls prog 126 _ _ _ at He
  exact He.mono λe w' ⟨he,hw'⟩=>⟨he,⟨[],⟨p,c,rfl,by simp,λh=>by simp at h⟩,List.Perm.refl _,List.Pairwise.nil⟩,by rw [hw'];exact Q0 _ _⟩
end
theorem RB (i b m:Nat) (g:List RV) (w:World) (p:w.cell? i=some (.map b)) (d:bB w b m g) (n:g.length<=1000) :
  Calls prog 83 #[.func (.func 127) #[] #[.pointer (some ⟨i,0,none⟩)],.func (.func 85) #[] #[]] w λe w'=>(∃ v f,e=.returned v/\lG w w' v f/\f.Perm g/\nY f)/\Below w w w':=by
 have l:=qI (Rg i b m g w p d n);clear p d
 go_enter func83,ntmps83
 go_wp2_with fail
 refine l.o.mono ?_;rintro e u ⟨⟨v,s,rfl,h,j⟩,k⟩;have HS:=qI (Rz s u v w j (by rw [h.length_eq];exact n));have r:=qI h;have t:=qI k;obtain ⟨a,c,rfl,_⟩:=j.slice;clear j h k l
 go_wp2_with fail
 refine HS.o.mono ?_;rintro e x ⟨rfl,⟨f,o,Hc,Ha⟩,Hb⟩;have q:=qI o;have Hf:=qI (Hc.trans r.o);have He:=qI Ha;have Hg:=qI (t.o.trans Hb);clear o Hc Ha Hb HS
 go_wp2
 go_ret;exact ⟨⟨_,f,rfl,q.o,Hf.o,He.o⟩,Hg.o⟩
def lH (w:World) (x:RV) (k:Nat):Int:=match x.da with
 | some a=>match w.cell? (a.add k) with
  | some (.int _ n)=>n
  | _=>0
 | none=>0
def aY (w:World) (x:RV):List Int:=(List.range x.dn).map (lH w x)
def bm (w:World) (x:RV):Prop:=0<x.dn->∃ g o,x.da=some ⟨g,o,none⟩/\g<w.heap.size/\∀ k,k<x.dn->w.cell? ⟨g,o+k,none⟩=some (.int .i64 (lH w x k))
theorem tH (h:bm w x) (i:∀ g o,x.da=some ⟨g,o,none⟩->g<w.heap.size->w'.heap[g]?=w.heap[g]?) (hs:w<=w'.heap.size):bm w' x/\aY w' x=aY w x:=by
 by_cases e:0<x.dn
 ·obtain ⟨g,o,c,d,l⟩:=h e;have f:=i g o c d;have hd:∀ k,lH w' x k=lH w x k:=λk=>by
   unfold lH;rw [c]
   simp only
   rw [World.cell?_of_block (w:=w) (w':=w') (a:=(⟨g,o,none⟩:Addr).add k) (by rw [Addr.add_lit];exact f)]
  refine ⟨λ_=>⟨g,o,c,Q1 d hs,λk b=>?_⟩,?_⟩
  ·rw [hd,<- l k b];exact World.cell?_of_block (a:=⟨g,o+k,none⟩) f
  ·unfold aY;refine List.map_congr_left λk _=>hd k
 ·refine ⟨λj=>absurd j e,?_⟩
  have:x.dn=0:=by omega
  simp [aY,this]
theorem bm.below (h:bm w x) (a:Below K w w') (c:∀ g o,x.da=some ⟨g,o,none⟩->g<w.heap.size->g<K):bm w' x/\aY w' x=aY w x:=
 tH h (λg o e b=>a.block g (c g o e b)) a.size
structure Rn where
 pod:ByteArray
 cont:ByteArray
 cpus:Int
 devs:List Int
def aI (w:World) (x:RV):Rn:=⟨x.pod,x.cont,x.cpus,aY w x⟩
def iW (w:World) (x:RV):Prop:=bm w x/\(0<x.dn->∃ g arr z,x.da=some ⟨g,0,none⟩/\w.heap[g]?=some (.cells arr 3 z))
def dT (w w':World):Prop:=w.heap.size<=w'.heap.size/\∀ (k:Nat) (arr:Array Value) (z:Nat × Nat),w.heap[k]?=some (Obj.cells arr 3 z)->w'.heap[k]?=w.heap[k]?
theorem dT.trans (h:dT a b) (k:dT b c):dT a c:=⟨Q5 h.1 k.1,λi d z hi=>by
 have e:=h.2 i d z hi;rw [hi] at e;exact (k.2 i d z e).trans (e.trans hi.symm)⟩
theorem dT.below (h:Below w w w'):dT w w':=⟨h.size,λk _ _ a=>h.block k (gS a).1⟩
theorem dT.grown {b:Nat} (h:w.grownBy w' (some b)) (d:∀ (a:Array Value) (z:Nat × Nat),w.heap[b]?≠some (Obj.cells a 3 z)):dT w w':=
 ⟨h.size,λk a z c=>h.block k (gS c).1 (λe=>by cases e;exact d a z c)⟩
theorem iW.kept (h:iW w x) (i:dT w w'):iW w' x/\aY w' x=aY w x:=by
 by_cases c:0<x.dn
 ·obtain ⟨g,b,z,j,f⟩:=h.2 c;have k:=i.2 g b z f;obtain ⟨a,d⟩:=tH (w':=w') h.1 (λm n e _=>by rw [j] at e;cases e;exact k) i.1;exact ⟨⟨a,λ_=>⟨g,b,z,j,k.trans f⟩⟩,d⟩
 ·obtain ⟨a,d⟩:bm w' x/\aY w' x=aY w x:=⟨λa=>absurd a c,by (have l:x.dn=0:=(by omega));simp [aY,l]⟩;exact ⟨⟨a,λa=>absurd a c⟩,d⟩
def iw (l:List Int):List Value:=l.map (Value.int .i64)
theorem RD:(prog.info? 3).map (λi=>(i.zero,i.size,i.bytes))=some (some (.int .i64 0),1,8):=by kernel_rfl
theorem DR (a:Option Addr) (n c:Nat) (w:World):Sem.run prog (binOp BinOp.eql 46 (.slice a n c) (.slice none 0 0)) w=.ok a.isNone w:=Lib.run_eql_slice_nil w _ _ a n c 0 0 underlying46
theorem RE (w:World) (x:RV):(aY w x).length=x.dn:=by simp [aY]
def kF (K:Nat) (x:RV):Prop:=0<x.dn->∃ g,x.da=some ⟨g,0,none⟩/\K<=g
theorem RF {v:Value} {x:RV} {l:List Int} (q:l.length=x.dn) (h:w.ownsRow base 3 1 v l.length (iw l)):∃ a c,v=.slice a x.dn c/\iW w { x with da:=a,dc:=c }/\aY w { x with da:=a,dc:=c }=l/\kF base { x with da:=a,dc:=c }:=by
 rcases h.2 with ⟨n,u⟩|⟨g,f,e,n,s,m,He,Hc,_,r⟩
 ·have o:x.dn=0:=by omega
  refine ⟨none,0,by rw [n,o],⟨λb=>?_,λb=>?_⟩,?_,λb=>?_⟩
  ·simp only at b;omega
  ·simp only at b;omega
  ·have:l=[]:=Qe (by omega)
   subst this
   simp [aY,o]
  ·simp only at b;omega
 ·have Ha:g<w:=(gS m).1;have p:∀ k,k<x.dn->w.cell? ⟨g,k,none⟩=some (.int .i64 (l.getD k 0)):=λk d=>by
   have j:(iw l)[k]?=some (.int .i64 (l.getD k 0)):=by
    have:k<l.length:=by omega
    simp [iw,this]
   rw [<- r,List.getElem?_take] at j
   split at j
   ·have Hb:e[k]?=some (.int .i64 (l.getD k 0)):=by simpa using j
    unfold World.cell?
    rw [m]
    simp only
    exact Hb
   ·cases j
  have hd:∀ k,k<x.dn->lH w { x with da:=some ⟨g,0,none⟩,dc:=f } k=l.getD k 0:=λk d=>by
   unfold lH
   simp only
   rw [Addr.add_lit,Qd,p k d]
  refine ⟨some ⟨g,0,none⟩,f,by rw [n,q],⟨λ_=>⟨g,0,rfl,Ha,λk d=>?_⟩,λ_=>⟨g,e,_,rfl,m⟩⟩,?_,λ_=>⟨g,rfl,s⟩⟩
  ·rw [Qd,p k d,hd k d]
  ·unfold aY;apply List.ext_getElem
   ·simp [q]
   ·intro i b t;have hi:i<x.dn:=by simpa using b
    simp only [List.getElem_map,List.getElem_range];rw [hd i hi]
    simp [t]
theorem RG (a:Addr) (c:Nat) (l:List Int) (w:World) (f:∀ j u,(iw l)[j]?=some u->w.cell? (a.add j)=some u) (p:l.length<=1000) :
  Calls prog 66 #[.slice (some a) l.length c] w λe w'=>∃ v,e=.returned v/\w'.ownsRow w 3 1 v l.length (iw l)/\Below w w w':=by
 obtain ⟨i0,hi,He,Hf,Hh⟩:=info_parts RD;have i:∀ u∈iw l,u.oneCell'=true:=by
  intro u d
  simp [iw] at d
  obtain ⟨n,_,rfl⟩:=d;rfl
 have k:=qI ((Q0 w w).alloc (lR) (.cells #[] 3));have h:Hu (∀ j u,(iw l)[j]?=some u->(w.alloc (.cells #[] 3)).cell? (a.add j)=some u):=λj u b=>Lib.cell?_alloc_some _ (f j u b)
 have Hi:=DR (some a) l.length c w;have Hc:(iw l).length=l.length:=by simp [iw]
 clear f
 go_enter func66,ntmps66
 go_wp2_with (at_builtin;(refine wpList_append_own _ rfl _ _ 46 rfl w 3 i0 (0:Int) 1 8 underlying46 hi He Hf Hh rfl (by decide) _ _ _ rfl (World.ownsRow_lit w #[] 0 (lR) (Nat.zero_le _) rfl) a l.length c (iw l) rfl (by rw [Hc,Nat.mul_one]) h.o i (by unfold maxLen;omega) (by omega) (by simp) ?_);intro g o Ha Hb _)
 have Hg:=qI (k.o.grown Hb (by simp) (λj b=>by cases b;exact lR));rw [Qd] at Ha;have m:Hu (o.ownsRow w 3 1 g l.length (iw l)):=by simpa [Hu] using Ha
 clear Ha Hb
 go_wp2
 go_ret;exact ⟨_,rfl,m.o,Hg.o⟩
theorem RH (x:RV) (w:World) (h:bm w x) (q:x.dn<=1000) :
  Calls prog 66 #[.slice x.da x.dn x.dc] w λe w'=>∃ a c,e=.returned (.slice a x.dn c)/\iW w' { x with da:=a,dc:=c }/\aY w' { x with da:=a,dc:=c }=aY w x/\kF w { x with da:=a,dc:=c }/\Below w w w':=by
 have Ha:=RE w x
 rcases hda:x.da with _|a
 ·have f:x.dn=0:=by
   rcases Nat.eq_zero_or_pos x.dn with e|e
   ·exact e
   ·obtain ⟨g,o,d,_⟩:=h e;rw [hda] at d;cases d
  have He:=DR none 0 x.dc w;rw [f]
  go_enter func66,ntmps66
  go_wp2
  go_ret;exact ⟨none,0,rfl,⟨λb=>by simp only at b;omega,λb=>by simp only at b;omega⟩,by simp [aY,f],λb=>by simp only at b;omega,Q0 _ _⟩
 ·have i:=RG a x.dc (aY w x) w (λj u k=>by
   have Hb:j<x.dn:=by
    have:=(List.getElem?_eq_some_iff.1 k).1
    simp [iw,Ha] at this
    exact this
   obtain ⟨g,o,d,_,Hc⟩:=h (by omega);rw [hda] at d;cases d;rw [Addr.add_lit,Hc j Hb,<- k]
   simp [iw,aY,Hb]) (by omega)
  rw [Ha] at i;refine i.mono λe w' ⟨v,he,ho,hb⟩=>?_
  obtain ⟨p,m,rfl,b,n,l⟩:=RF (x:=x) Ha (by rw [Ha];exact ho);exact ⟨p,m,he,b,n,l,hb⟩
theorem qV (W:World) (b j:Nat) (v:Value):W.grownBy (W.setCell ⟨b,j,none⟩ v) (some b):=
 ⟨rfl,rfl,rfl,by simp,λk _ a=>Below.heap_setCell _ _ _ k λe=>a (by rw [e])⟩
theorem b7.set0 {x:RV} (h:b7 W B x) (s:ByteArray):b7 (W.setCell B s) B { x with pod:=s }:=by
 obtain ⟨a,b⟩:=gS h
 show (W.heap.modify B _)[B]?=_
 rw [Array.getElem?_eq_getElem (by rw [Array.size_modify];exact a),Array.getElem_modify_self,b];rfl
theorem b7.set1 {x:RV} (h:b7 W B x) (s:ByteArray):b7 (W.setCell ⟨B,1,none⟩ s) B { x with cont:=s }:=by
 obtain ⟨a,b⟩:=gS h
 show (W.heap.modify B _)[B]?=_
 rw [Array.getElem?_eq_getElem (by rw [Array.size_modify];exact a),Array.getElem_modify_self,b];rfl
theorem b7.set2 {x:RV} (h:b7 W B x) (n:Int):b7 (W.setCell ⟨B,2,none⟩ (.int .u64 n)) B { x with cpus:=n }:=by
 obtain ⟨a,b⟩:=gS h
 show (W.heap.modify B _)[B]?=_
 rw [Array.getElem?_eq_getElem (by rw [Array.size_modify];exact a),Array.getElem_modify_self,b];rfl
theorem b7.set3 {x:RV} (h:b7 W B x) (a:Option Addr) (n c:Nat):b7 (W.setCell ⟨B,3,none⟩ (.slice a n c)) B { x with da:=a,dn:=n,dc:=c }:=by
 obtain ⟨Ha,b⟩:=gS h
 show (W.heap.modify B _)[B]?=_
 rw [Array.getElem?_eq_getElem (by rw [Array.size_modify];exact Ha),Array.getElem_modify_self,b];rfl
theorem b7.frozen (h:b7 W B x) (j:Nat):W.frozen? ⟨B,j,none⟩=false:=by simp [World.frozen?,show W.heap[B]?=_ from h]
theorem b7.far (h:b7 W B x) (g j:Nat) (v:Value) (a:B≠g):b7 (W.setCell ⟨g,j,none⟩ v) B x:=(Below.heap_setCell W ⟨g,j,none⟩ v B a).trans h
theorem b7.notInt (h:b7 W B x):∀ (a:Array Value) (z:Nat × Nat),W.heap[B]?≠some (Obj.cells a 3 z):=λa z e=>by
 have:=(show W.heap[B]?=_ from h).symm.trans e
 simp at this
theorem RI {fn:Func} {p:Tmp} {b:TypeId} (h:fn.results=#[.cell p b]) (tmps:Array Value) (P:Program) (w:World) :
  (results fn tmps).run P w=((asAddr (tmps.getD p undef)).run P w).andThen λa c=>(loadVar b a).run P c:=by
 simp only [results,h]
 simp [Sem.run_bind,Result.andThen]
def fill (W:World) (B:Nat) (x:RV):World:=(((W.setCell B x.pod).setCell ⟨B,1,none⟩ x.cont).setCell ⟨B,2,none⟩ (.int .u64 x.cpus)).setCell ⟨B,3,none⟩ (.slice x.da x.dn x.dc)
theorem b7.fill (h:b7 W B z) (x:RV):b7 (fill W B x) B x:=(((h.set0 x.pod).set1 x.cont).set2 x.cpus).set3 x.da x.dn x.dc
theorem dT.fill (h:b7 W B z) (x:RV):dT W (fill W B x):=by
 have a:=h.set0 x.pod;have b:=a.set1 x.cont;have c:=b.set2 x.cpus;exact (((dT.grown (qV W B 0 _) h.notInt).trans (dT.grown (qV _ B 1 _) a.notInt)).trans (dT.grown (qV _ B 2 _) b.notInt)).trans (dT.grown (qV _ B 3 _) c.notInt)
theorem RJ (h:Below K w W) (a:K<=B) (x:RV):Below K w (fill W B x):=
 (((h.setCell (p:=B) a _).setCell (p:=⟨B,1,none⟩) a _).setCell (p:=⟨B,2,none⟩) a _).setCell (p:=⟨B,3,none⟩) a _
abbrev xy:=(.cells #[.string ⟨#[]⟩,.string ⟨#[]⟩,.int .u64 0,.slice none 0 0] 129:Obj)
theorem DS (x:RV) (w:World) (h:bm w x) (t:x.dn<=1000) :
  Calls prog 88 #[.agg #[x.pod,x.cont,.int .u64 x.cpus,.slice x.da x.dn x.dc]] w λe w'=>∃ a c,e=.returned (.agg #[x.pod,x.cont,.int .u64 x.cpus,.slice a x.dn c])/\iW w' { x with da:=a,dc:=c }/\aY w' { x with da:=a,dc:=c }=aY w x/\kF w { x with da:=a,dc:=c }/\Below w w w':=by
 have Hf:=(Q0 w w).alloc (lR) (iV x);have Hh:=Hf.alloc Hf.size (xy);have Hc:=qI Hh;have l:=qI ((b7.made w x).alloc (xy));have d:=b7.made (w.alloc (iV x)) ⟨⟨#[]⟩,⟨#[]⟩,0,none,0,0⟩;rw [World.size_alloc] at d;have i:=qI d;obtain ⟨Hr,Ht⟩:=h.below Hh λ_ _ _ n=>n;have Hm:=qI (RH x _ Hr t);have Hn:=qI Ht;clear Hf Hh d Hr Ht
 go_enter func88,ntmps88
 go_wp2_with fail
 generalize (w.alloc (iV x)).alloc (xy)=H at *;refine Hm.o.mono ?_;rintro e b ⟨a,c,rfl,m,f,Hq,He⟩;have Hp:=qI (show kF w { x with da:=a,dc:=c } from λq=>by
  obtain ⟨g,z,s⟩:=Hq q;exact ⟨g,z,Q5 Hc.o.size s⟩)
 have Hb:=l.o.below He;have Hj:=i.o.below He;have Hy:=qI (Hc.o.trans (He.mono Hc.o.size));have Hx:=qI m;have Hl:=qI (f.trans Hn.o);have E:=Hb.cells;obtain ⟨c0,c1,c2,c3⟩:=E;have f3:=Hb.frozen 3;have Hg:=Hb.set3 a x.dn c;have Ha:=Hj.far w 3 (.slice a x.dn c) (by omega);have Ho:=qI (dT.grown (qV b w 3 (.slice a x.dn c)) Hb.notInt);have Hw:=qI (Hy.o.setCell (p:=⟨w,3,none⟩) (lR) (.slice a x.dn c));clear f m He Hq l i Hm Hn Hb Hj;obtain ⟨u,C,r,y⟩:=Hg.cells;obtain ⟨z0,z1,z2,z3⟩:=Ha.cells;have A:=Ha.frozen 0;have g1:=Ha.frozen 1;have D:=Ha.frozen 2;have g3:=Ha.frozen 3;have o:=qI Hg;have Hi:=qI Ha;clear Hg Ha
 go_wp2_with fail
 clear c0 c1 c2 c3 u C r y z0 z1 z2 z3 A g1 D g3 f3;have j:=Hi.o.fill { x with da:=a,dc:=c };have Hv:=qI (dT.fill Hi.o { x with da:=a,dc:=c });have Hz:=qI (RJ Hw.o (B:=w.heap.size+1) (by omega) { x with da:=a,dc:=c });obtain ⟨J,K,I,G⟩:=j.cells;have k:Hu (fill (b.setCell ⟨w,3,none⟩ (.slice a x.dn c)) (w.heap.size+1) { x with da:=a,dc:=c }=((((b.setCell ⟨w,3,none⟩ (.slice a x.dn c)).setCell (w.heap.size+1:Nat) x.pod).setCell ⟨w.heap.size+1,1,none⟩ x.cont).setCell ⟨w.heap.size+1,2,none⟩ (.int .u64 x.cpus)).setCell ⟨w.heap.size+1,3,none⟩ (.slice a x.dn c)):=rfl;rw [<- k.o];clear j;generalize fill (b.setCell ⟨w,3,none⟩ (.slice a x.dn c)) (w.heap.size+1) { x with da:=a,dc:=c }=F at *;obtain ⟨Hs,Hk⟩:=Hx.o.kept (Ho.o.trans Hv.o);refine bodyPost_ret (v:=.agg #[x.pod,x.cont,.int .u64 x.cpus,.slice a x.dn c]) ?_ rfl ⟨a,c,rfl,Hs,Hk.trans Hl.o,Hp.o,Hz.o⟩;rw [RI rfl];clear Hs Hk Hx Hp Hl Hz Hv Ho k Hi o Hw Hy Hc;go_simp
def fT (w:World) (Be Bd Bm:Nat):Prop:=w.heap[Be]?=some (.cells #[Bd,.map Bm] 151 (0,0))
theorem fT.lt (h:fT w Be Bd Bm):Be<w:=(gS h).1
theorem fT.cells (h:fT w Be Bd Bm):w.cell? Be=some (.pointer (some ⟨Bd,0,none⟩))/\w.cell? ⟨Be,1,none⟩=some (.map Bm):=by
 refine ⟨?_,?_⟩ <;> simp [World.cell?,show w.heap[Be]?=_ from h]
theorem fT.block (h:fT w Be Bd Bm) (a:w'.heap[Be]?=w.heap[Be]?):fT w' Be Bd Bm:=a.trans h
def fm (W:World) (g o:Nat) (x:RV):World:=(((W.setCell ⟨g,o,none⟩ x.pod).setCell ⟨g,o+1,none⟩ x.cont).setCell ⟨g,o+2,none⟩ (.int .u64 x.cpus)).setCell ⟨g,o+3,none⟩ (.slice x.da x.dn x.dc)
theorem tI (W:World) (g o:Nat) (x:RV) (b p:Nat) (h:b≠g\/p<o\/o+3<p):(fm W g o x).cell? ⟨b,p,none⟩=W.cell? ⟨b,p,none⟩:=by
 unfold fm;rw [Qb _ _ _ _ (by simp;omega),Qb _ _ _ _ (by simp;omega),Qb _ _ _ _ (by simp;omega),Qb _ _ _ _ (by simp;omega)]
theorem mH (W:World) (g o:Nat) (x:RV) (a:Addr):(fm W g o x).frozen? a=W.frozen? a:=by
 unfold fm;simp only [World.frozen?_setCell]
def jw (w:World) (g:Nat) (ys:List RV):Prop:=∀ k,k<ys.length->jv w g k (rv ys k)
theorem RK (h:jv W g k z) (x:RV):jv (fm W g (k*4) x) g k x:=by
 obtain ⟨⟨c0,c1,c2,c3⟩,f0,f1,f2,f3⟩:=h;refine ⟨⟨?_,?_,?_,?_⟩,by rw [mH];exact f0,by rw [mH];exact f1,by rw [mH];exact f2,by rw [mH];exact f3⟩
 ·unfold fm;rw [Qb _ _ _ _ (by simp),Qb _ _ _ _ (by simp),Qb _ _ _ _ (by simp),World.cell?_setCell_same' _ _ _ (by rw [c0];rfl)]
 ·unfold fm;rw [Qb _ _ _ _ (by simp),Qb _ _ _ _ (by simp),World.cell?_setCell_same' _ _ _ (by rw [Qb _ _ _ _ (by simp),c1];rfl)]
 ·unfold fm;rw [Qb _ _ _ _ (by simp),World.cell?_setCell_same' _ _ _ (by rw [Qb _ _ _ _ (by simp),Qb _ _ _ _ (by simp),c2];rfl)]
 ·unfold fm;rw [World.cell?_setCell_same' _ _ _ (by rw [Qb _ _ _ _ (by simp),Qb _ _ _ _ (by simp),Qb _ _ _ _ (by simp),c3];rfl)]
theorem xz (a:List RV) (k j:Nat) (x:RV) (b:k<a.length):rv (a.set k x) j=if j=k then x else rv a j:=by grind [rv]
theorem jw.set (h:jw W g ys) (a:k<ys.length) (x:RV):jw (fm W g (k*4) x) g (ys.set k x):=λj b=>by
 rw [xz ys k j x a]
 by_cases e:j=k
 ·subst e;rw [if_pos rfl];exact RK (h j a) x
 ·rw [if_neg e];obtain ⟨⟨c0,c1,c2,c3⟩,f0,f1,f2,f3⟩:=h j (by simpa using b);exact ⟨⟨(tI _ _ _ _ _ _ (by omega)).trans c0,(tI _ _ _ _ _ _ (by omega)).trans c1,(tI _ _ _ _ _ _ (by omega)).trans c2,(tI _ _ _ _ _ _ (by omega)).trans c3⟩,by rw [mH];exact f0,by rw [mH];exact f1,by rw [mH];exact f2,by rw [mH];exact f3⟩
theorem jw.block {W':World} (h:jw W g ys) (b:W'.heap[g]?=W.heap[g]?):jw W' g ys:=λk c=>by
 obtain ⟨⟨c0,c1,c2,c3⟩,f0,f1,f2,f3⟩:=h k c;exact ⟨⟨(World.cell?_of_block (a:=⟨g,k*4,none⟩) b).trans c0,(World.cell?_of_block (a:=⟨g,k*4+1,none⟩) b).trans c1,(World.cell?_of_block (a:=⟨g,k*4+2,none⟩) b).trans c2,(World.cell?_of_block (a:=⟨g,k*4+3,none⟩) b).trans c3⟩,(World.frozen?_of_block (a:=⟨g,k*4,none⟩) b).trans f0,(World.frozen?_of_block (a:=⟨g,k*4+1,none⟩) b).trans f1,(World.frozen?_of_block (a:=⟨g,k*4+2,none⟩) b).trans f2,(World.frozen?_of_block (a:=⟨g,k*4+3,none⟩) b).trans f3⟩
theorem RL (h:Below K w W) (a:K<=g) (o:Nat) (x:RV):Below K w (fm W g o x):=
 (((h.setCell (p:=⟨g,o,none⟩) a _).setCell (p:=⟨g,o+1,none⟩) a _).setCell (p:=⟨g,o+2,none⟩) a _).setCell (p:=⟨g,o+3,none⟩) a _
theorem RM (W:World) (g o:Nat) (x:RV) (b:Nat) (h:b≠g):(fm W g o x).heap[b]?=W.heap[b]?:=by
 unfold fm;rw [Below.heap_setCell _ _ _ b h,Below.heap_setCell _ _ _ b h,Below.heap_setCell _ _ _ b h,Below.heap_setCell _ _ _ b h]
def nZ (g:Nat) (y:RV):Prop:=0<y.dn->∀ g' o',y.da=some ⟨g',o',none⟩->g'≠g
theorem n9 (h:k<ys.length):rv ys k∈ys:=by simp [rv,h]
theorem RN (f:ys.length=qs.length) (h:∀ j,j<qs.length->(rv ys j).pod=(rv qs j).pod/\(rv ys j).cont=(rv qs j).cont) (e:nY qs):nY ys:=by
 unfold nY at *;rw [List.pairwise_iff_getElem] at *;intro i j hi d Hc;have c:=e i j (by omega) (by omega) Hc;have b:=h i (by omega);have a:=h j (by omega);have Ha:i<qs.length:=by omega
 have Hb:j<qs.length:=by omega
 simp [rv,hi,d,Ha,Hb] at b a
 unfold cfR at *;rw [b.1,b.2,a.1,a.2];exact c
theorem xA {y:RV} (h:bm w y) (k:nZ g y) (f:∀ b,b≠g->b<w.heap.size->w'.heap[b]?=w.heap[b]?) (hs:w<=w'.heap.size):bm w' y/\aY w' y=aY w y:=by
 by_cases a:0<y.dn
 ·exact tH h (λc l e d=>f c (k a c l e) d) hs
 ·have j:y.dn=0:=by omega
  exact ⟨λi=>absurd i a,by simp [aY,j]⟩
theorem RO (a:ys.length=qs.length) (h:∀ j,j<qs.length->aI w' (rv ys j)=aI w (rv qs j)):ys.map (aI w')=qs.map (aI w):=by
 apply List.ext_getElem
 ·simp [a]
 ·intro i b c;have hi:i<ys.length:=by simpa using b
  have Ha:i<qs.length:=by omega
  have:=h i Ha
  simp [rv,hi,Ha] at this
  simpa using this
def RP (w:World) (B:Nat) (l:Int) (d:Bool):Prop:=w.heap[B]?=some (.cells #[false,.string ⟨#[]⟩,false,.string ⟨#[]⟩,false,.string ⟨#[]⟩,false,.string ⟨#[]⟩,.slice none 0 0,l,d] 96 (0,0))
def VQ (B:Nat) (w w':World):Prop:=w.grownBy w' (some B)/\w'=w.heap.size
def RQ (l:Int) (d:Bool):Int:=if d=true\/l=0 then l else if 0<l then l - 1 else l
def RR (l:Int) (d:Bool):Bool:=decide (d=true\/l=0)
section
open RowKit Go.Maps
theorem bB.look2 (h:bB w B n xs) (a b:ByteArray) (i:a.size<=7000) (f:b.size<=7000) :
  ∃ y:RV,∀ W:World,W.heap[B]?=w.heap[B]?->(Instr.lookup 149 (.map B) (ju a b) true).run prog W=.ok (.tuple #[y.val,.bool (xs.any λx=>decide (x.pod=a/\x.cont=b))]) W:=by
 obtain ⟨g,o,p⟩:=h.2;have key:∀ W:World,W.heap[B]?=w.heap[B]?->∃ y:RV,(Instr.lookup 149 (.map B) (ju a b) true).run prog W=.ok (.tuple #[y.val,.bool (xs.any λx=>decide (x.pod=a/\x.cont=b))]) W/\(DataW.map g).atKey (fS a b) (.held (RV.val ⟨ByteArray.empty,ByteArray.empty,0,none,0,0⟩))=.held y.val:=by
  intro W e;have Hc:W.ownsMap prog 179 nW B n (.map g):=by
   obtain ⟨k,c,l,r⟩:=o;exact ⟨k,c,e.trans l,r⟩
  obtain ⟨v,q,Ha,m⟩:=Hc.look_ok nX underlying149 (Rb W) (xo _) (qU a b (kE i) (kE f));obtain ⟨y,rfl,d⟩:=DH m;refine ⟨y,by rw [<- h.has p i f];exact Ha,?_⟩;exact congrArg Prod.fst d
 obtain ⟨y,_,d⟩:=key w rfl;refine ⟨y,λW e=>?_⟩;obtain ⟨j,Hb,He⟩:=key W e;rw [He] at d
 have:j=y:=RV.val_inj (by simpa using d)
 rw [this] at Hb;exact Hb
theorem RS (a:Nat) (w:World):Calls prog 27 #[a] w λe w'=>e=.returned (w.heap.size+1:Nat)/\fT w' (w.heap.size+1) a w/\bB w' w 0 []/\Below w w w'/\w'=w.heap.size+2:=by
 have Ha:=@run_makeMap prog;have d:=qI ((bB.made w).block (w':=(w.alloc (.map #[] 0)).alloc (.cells #[a,.map w] 151)) (Below.heap_alloc _ _ _ (by simp)));have b:=World.alloc_heap_new (w.alloc (.map #[] 0)) (.cells #[a,.map w] 151);rw [World.size_alloc] at b;have c:=qI b;clear b
 go_enter func27,ntmps27
 go_wp2
 go_ret;exact ⟨by simp,c.o,d.o,((Q0 _ _).alloc (lR) _).alloc (by simp) _,by simp⟩
structure bQ (B1 B2:Nat) (w w':World):Prop where
 os:w'.os=w.os
 tape:w'.tape=w.tape
 output:w'.output=w.output
 size:w<=w'.heap.size
 block:∀ k,k<w.heap.size->k≠B1->k≠B2->w'.heap[k]?=w.heap[k]?
theorem bQ.refl (B1 B2:Nat) (w:World):bQ B1 B2 w w:=⟨rfl,rfl,rfl,lR,λ_ _ _ _=>rfl⟩
theorem bQ.trans (h:bQ B1 B2 a b) (k:bQ B1 B2 b c):bQ B1 B2 a c:=
 ⟨k.os.trans h.os,k.tape.trans h.tape,k.output.trans h.output,Q5 h.size k.size,λi hi e d=>(k.block i (Q1 hi h.size) e d).trans (h.block i hi e d)⟩
theorem bQ.of_below (h:Below w w w'):bQ B1 B2 w w':=⟨h.os,h.tape,h.output,h.size,λk a _ _=>h.block k a⟩
theorem bQ.of_grown {b:Nat} (h:w.grownBy w' (some b)) (c:b=B1\/b=B2):bQ B1 B2 w w':=⟨h.os,h.tape,h.output,h.size,λk a f d=>h.block k a (λe=>by cases e;rcases c with rfl|rfl <;> contradiction)⟩
theorem bQ.kint (h:bQ B1 B2 w w') (d:∀ (a:Array Value) (z:Nat × Nat),w.heap[B1]?≠some (Obj.cells a 3 z)) (c:∀ (a:Array Value) (z:Nat × Nat),w.heap[B2]?≠some (Obj.cells a 3 z)):dT w w':=
 ⟨h.size,λk a z b=>h.block k (gS b).1 (λe=>by subst e;exact d a z b) (λe=>by subst e;exact c a z b)⟩
theorem bB.isMap (h:bB w B n xs):∃ b a,w.heap[B]?=some (.map b a):=by
 obtain ⟨_,b,⟨c,a,d,_⟩,_⟩:=h;exact ⟨c,a,d⟩
theorem bB.notInt (h:bB w B n xs):∀ (a:Array Value) (z:Nat × Nat),w.heap[B]?≠some (Obj.cells a 3 z):=λa z e=>by
 obtain ⟨d,b,c⟩:=h.isMap;rw [c] at e;cases e
structure Started (w w':World) (Bd Bm n:Nat) (xs:List RV) (x:RV) (l:Int) (d:Bool) (f:Nat):Prop where
 disk:RP w' Bd (RQ l d) (RR l d)
 o:bQ Bd Bm w w'
 no:f≠0->bB w' Bm n xs
 yes:f=0->∃ a c,bB w' Bm (n+1) ({ x with da:=a,dc:=c } :: xs)/\iW w' { x with da:=a,dc:=c }/\aY w' { x with da:=a,dc:=c }=aY w x
theorem od {row:Option Nat} (c:w.grownBy w' row) (a:Addr) (h:a.block<w) (b:some a.block≠row):w'.cell? a=w.cell? a:=Q6 (c.block _ h b)
theorem RT {o:Oper} {a:Act} {N:Act->World->Prop} {Q:Exit->Act->World->Prop} (w:World) (m x v:Operand) (b:o.op=Op.mapUpdate 149 m x v)
  (B n:Nat) (c:List RV) (y:RV) (l:a.eval m=.map B) (k:a.eval x=.agg #[y.pod,y.cont]) (j:a.eval v=.agg #[y.pod,y.cont,.int .u64 y.cpus,.slice y.da y.dn y.dc]) (g:bB w B n c) (f:y.Short) (i:n<1000) (d:(c.any λz=>decide (z.pod=y.pod/\z.cont=y.cont))=false)
  (p:∀ w',bB w' B (n+1) (y :: c)->w.grownBy w' (some B)->w'=w.heap.size->N (a.put o.dst undef) w') :
  o.wp prog a w N Q:=by
 obtain ⟨w',Ha,r1,h,e⟩:=g.put y f i d;unfold ju RV.val at Ha;unfold Oper.wp
 simp [execOp,b,l,k,j,Ha,Result.andThen]
 exact p w' r1 h e
end
