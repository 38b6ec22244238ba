import Derived.Test.YtjlblidnfebmiaaGreatDoorF22
import Derived.Test.YtjlblidnfebmiaaGreatDoorF23
set_option maxRecDepth 100000
set_option maxHeartbeats 16000000
open Go Go.RowKit Go.Shelf
open Go.Proofs.Tryz
namespace Go.Proofs.YtjlblidnfebmiaaGreatDoor
variable{B:Nat}{W:World}{x:RV}
theorem bB{a w:World}(h:Below B a w):Below B a w.drew:=⟨h.os,h.tape,h.output,h.size,h.block⟩
theorem SL(a b:ByteArray):(a.toList == b.toList)=decide (a=b):=by
 rw[Bool.eq_iff_iff,beq_iff_eq,decide_eq_true_iff,Qs,Qs];exact⟨λh=>ByteArray.ext (Array.toList_inj.mp h),λh=>by rw[h]⟩
theorem pK(x:ByteArray)(w:World):Calls prog 128 #[x] w λe w'=>e=.returned false/\w'=w:=by
 go_enter func128,ntmps128
 go_wp2
 go_ret;exact⟨by simp,rfl⟩
theorem xQ(x y:ByteArray)(w:World):Calls prog 87 #[x,y] w λe w'=>e=.returned (bK x y:Int)/\w'=w:=by
 have d:Hu (bK x y=if bo x y=true then -1 else if bo y x=true then 1 else 0):=rfl;have Ha:=qI (ug x y);have Hc:=qI (xJ x y);generalize bK x y=T at *
 rcases two (bo x y) with a|a
 ·have c:=qI (d.o.trans (if_pos a));have He:Op.bytesLess x.toList y.toList=true:=a;clear d a Ha Hc
  go_enter func87,ntmps87
  go_wp2_with fail
  refine (pK _ _).mono ?_;rintro e f ⟨rfl,rfl⟩
  go_wp2_with fail
  refine (pK _ _).mono ?_;rintro e f ⟨rfl,rfl⟩
  go_wp2
  go_ret;exact⟨by rw[c.o];rfl,rfl⟩
 ·have Hb:=qI (d.o.trans (if_neg (by rw[a];decide)));have He:Op.bytesLess x.toList y.toList=false:=a
  rcases two (bo y x) with b|b
  ·have c:=qI (Hb.o.trans (if_pos b));have Hg:(x.toList == y.toList)=false:=by
    rw[SL];refine Q7 λe=>?_
    subst e;rw[a] at b;cases b
   clear d Hb a b Ha Hc
   go_enter func87,ntmps87
   go_wp2_with fail
   refine (pK _ _).mono ?_;rintro e f ⟨rfl,rfl⟩
   go_wp2_with fail
   refine (pK _ _).mono ?_;rintro e f ⟨rfl,rfl⟩
   go_wp2
   go_ret;exact⟨by rw[c.o];rfl,rfl⟩
  ·have c:=qI (Hb.o.trans (if_neg (by rw[b];decide)));have Hf:x=y:=Ha.o (by rw[a];rfl) (by rw[b];rfl);subst Hf;clear d Hb a b Ha Hc
   go_enter func87,ntmps87
   go_wp2_with fail
   refine (pK _ _).mono ?_;rintro e f ⟨rfl,rfl⟩
   go_wp2_with fail
   refine (pK _ _).mono ?_;rintro e f ⟨rfl,rfl⟩
   go_wp2
   go_ret;exact⟨by rw[c.o];rfl,rfl⟩
theorem SN(a b:Int)(g n:Nat)(w:World)(d:w.cell? g=some (.int .i64 a))(o:w.cell? ⟨g,1,none⟩=some (.int .i64 b)) :
  Calls prog 86 #[.slice g 2 n] w λe w'=>e=.returned (dG a b:Int)/\w'=w:=by
 have q:Hu (∀k:Nat,k<2->∃v:Int,cl w g k (v:Int)/\(v=if k=0 then a else b)):=by
  intro k p
  have:k=0\/k=1:=by omega
  rcases this with rfl|rfl
  ·exact⟨a,d,rfl⟩
  ·exact⟨b,o,rfl⟩
 clear d o
 go_enter func86,ntmps86
 go_wp2_with fail
 go_loop [8] (λi=>∃k:Nat,k<=2/\i=.int .i64 k/\Hu ((0<k->a=0)/\(1<k->b=0))) (λi=>2 - (intOf i).toNat)
 case atStart=>exact⟨0,by omega,rfl,⟨λh=>by omega,λh=>by omega⟩⟩
 case round=>
  obtain⟨k,p,rfl,l⟩:=hrel
  by_cases j:k<2
  ·obtain⟨v,r,c⟩:=q.o k j;have m:=qI c;clear c
   by_cases d:v=0
   ·subst d;have Ha:Hu ((0<k+1->a=0)/\(1<k+1->b=0)):=by
     obtain⟨z0,z1⟩:=l.o;have c:=m.o
     have:k=0\/k=1:=by omega
     rcases this with rfl|rfl
     ·simp at c;exact⟨λ_=>c.symm,λh=>by omega⟩
     ·simp at c;exact⟨λ_=>z0 (by omega),λ_=>c.symm⟩
    go_wp2_with fail
    go_round
    case rel=>exact⟨k+1,by omega,by go_num,Ha⟩
    case measure=>simp[intOf];omega
   ·have f:Hu (dG a b=v):=by
     obtain⟨z0,z1⟩:=l.o;have c:=m.o
     have:k=0\/k=1:=by omega
     unfold Hu dG
     rcases this with rfl|rfl
     ·simp at c;subst c;rw[if_neg d]
     ·simp at c;subst c;rw[if_pos (z0 (by omega))]
    have s:(v != 0)=true:=by simp[d]
    go_wp2
    go_ret;exact⟨by rw[f.o];rfl,rfl⟩
  ·have Hb:k=2:=by omega
   subst Hb;have f:Hu (dG a b=0):=by
    obtain⟨z0,z1⟩:=l.o;unfold Hu dG;rw[if_pos (z0 (by omega)),z1 (by omega)]
   go_wp2
   go_ret;exact⟨by rw[f.o];rfl,rfl⟩
def cd (W:World) (B:Nat) (x:RV):Prop:=W.heap[B]?=some (.cells #[x.pod,x.cont,.int .u64 x.cpus,.slice x.da x.dn x.dc] 129 (0,0))
theorem cd.lt(h:cd W B x):B<W:=(gS h).1
theorem cd.cells(h:cd W B x):W.cell? B=some (.string x.pod)/\W.cell? ⟨B,1,none⟩=some (.string x.cont)/\W.cell? ⟨B,2,none⟩=some (.int .u64 x.cpus)/\W.cell? ⟨B,3,none⟩=some (.slice x.da x.dn x.dc):=by
 refine⟨?_,?_,?_,?_⟩ <;> simp[World.cell?,show W.heap[B]?=_ from h]
abbrev jg:=λ(x0:RV)=>(.cells #[x0.pod,x0.cont,.int .u64 x0.cpus,.slice x0.da x0.dn x0.dc] 129:Obj)
theorem cd.made(w:World)(x:RV):cd (w.alloc (jg x)) w x:=World.alloc_heap_new w _
theorem cd.below{W':World}(h:cd W B x)(a:Below W W W'):cd W' B x:=(a.block B h.lt).trans h
theorem cd.alloc(h:cd W B x)(o:Obj):cd (W.alloc o) B x:=h.below ((Q0 _ W).alloc (lR) o)
theorem SO(w:World)(t:TypeId)(a b:Int):(w.alloc (.cells #[a,b] t)).cell? w=some (.int .i64 a)/\(w.alloc (.cells #[a,b] t)).cell? ⟨w,1,none⟩=some (.int .i64 b):=⟨by simp,by simp⟩
theorem SP(x y:RV)(w:World):Calls prog 85 #[.agg #[x.pod,x.cont,.int .u64 x.cpus,.slice x.da x.dn x.dc],.agg #[y.pod,y.cont,.int .u64 y.cpus,.slice y.da y.dn y.dc]] w λe w'=>e=.returned (dG (bK x.pod y.pod) (bK x.cont y.cont):Int)/\Below w w w'/\w.drawn<=w'.drawn:=by
 have Hg:=((Q0 w w).alloc (lR) (jg x)).alloc (by simp) (jg y);have Hf:=qI (bB Hg);have b:=qI (((cd.made w x).alloc (jg y)).below (bB (Q0 _ _)));have f:=(cd.made (w.alloc (jg x)) y).below (bB (Q0 _ _));rw[show (w.alloc (jg x)).heap.size=w.heap.size+1 by simp] at f;have c:=qI f;clear Hg f
 go_enter func85,ntmps85
 go_wp2_with fail
 refine wp_region_held_drew (S:=(λw'=>(cl w' w (0) x.pod/\cl w' w (1) x.cont)/\cl w' (w.heap.size+1) (0) y.pod/\cl w' (w.heap.size+1) (1) y.cont)) (by kernel_rfl) ⟨⟨b.o.cells.1,b.o.cells.2.1⟩,c.o.cells.1,c.o.cells.2.1⟩ λd=>?_;refine tk 0 ?_;refine tk 1 ?_;refine tk 2 ?_;refine tk 3 ?_;refine tk 5 ?_;refine tk 6 ?_;refine tk 7 ?_;refine tk 8 ?_;refine rd 4 λK a=>?_;go_simp
 go_wp2_with fail
 refine (xQ _ _ _).mono ?_;rintro e g ⟨rfl,rfl⟩
 go_wp2_with fail
 refine a.o _ _ ⟨⟨b.o.cells.1,b.o.cells.2.1⟩,c.o.cells.1,c.o.cells.2.1⟩ λd=>?_;clear a K;refine rd 9 λK a=>?_;go_simp
 go_wp2_with fail
 refine (xQ _ _ _).mono ?_;rintro e g ⟨rfl,rfl⟩
 go_wp2_with fail
 refine a.o _ _ ⟨⟨b.o.cells.1,b.o.cells.2.1⟩,c.o.cells.1,c.o.cells.2.1⟩ λd=>?_;clear a K;have Ha:=qI (b.o.alloc (.cells #[(bK x.pod y.pod:Int),(bK x.cont y.cont:Int)] 3));have Hb:=qI (c.o.alloc (.cells #[(bK x.pod y.pod:Int),(bK x.cont y.cont:Int)] 3));have Hh:=qI (Hf.o.alloc Hf.o.size (.cells #[(bK x.pod y.pod:Int),(bK x.cont y.cont:Int)] 3));have Hc:=SO (((w.alloc (jg x)).alloc (jg y)).drew) 3 (bK x.pod y.pod) (bK x.cont y.cont);rw[show (((w.alloc (jg x)).alloc (jg y)).drew).heap.size=w.heap.size+1+1 by simp[World.drew]] at Hc;have He:=qI Hc;clear Hc;refine rd 10 λK a=>?_;go_simp
 go_wp2_with fail
 refine a.o _ _ ⟨⟨Ha.o.cells.1,Ha.o.cells.2.1⟩,Hb.o.cells.1,Hb.o.cells.2.1⟩ λd=>?_;clear a K;refine rd 11 λK a=>?_;go_simp
 go_wp2_with fail
 refine (SN (bK x.pod y.pod) (bK x.cont y.cont) _ _ _ He.o.1 He.o.2).mono ?_;rintro e g ⟨rfl,rfl⟩
 go_wp2_with fail
 refine a.o _ _ ⟨⟨Ha.o.cells.1,Ha.o.cells.2.1⟩,Hb.o.cells.1,Hb.o.cells.2.1⟩ λd=>?_;clear a K;refine tk 12 ?_;refine Qn (by kernel_rfl) ?_ _
 go_wp2
 go_ret;exact⟨rfl,Hh.o,Nat.le_succ _⟩
end Go.Proofs.YtjlblidnfebmiaaGreatDoor
namespace Go.Proofs
open Go.Shelf
def Tryz.sortRL_ren:Go.Shelf.Ren:=⟨fun|6=>126|15=>161|14=>160|28=>202|29=>203|20=>194|21=>195|22=>196|23=>197|24=>198|25=>199|26=>200|27=>201|46=>253|47=>254|48=>255|49=>256|50=>257|57=>289|n=>n,fun|22=>120|24=>129|25=>182|3=>3|39=>219|0=>0|53=>296|55=>23|4=>4|46=>312|45=>311|50=>134|5=>5|9=>9|66=>357|70=>361|76=>389|77=>390|n=>n,fun|n=>n⟩
theorem Tryz.sortRL:Go.Proofs.SlLaysF0.n6 Tryz.prog Tryz.sortRL_ren:=by
 constructor
 case f6=>exact ⟨Tryz.f126.name,by decide,Tryz.func126.trans (congrArg some (by kernel_rfl))⟩
 case f14=>exact ⟨Tryz.f160.name,by decide,Tryz.func160.trans (congrArg some (by kernel_rfl))⟩
 case f20=>exact ⟨Tryz.f194.name,by decide,Tryz.func194.trans (congrArg some (by kernel_rfl))⟩
 case f21=>exact ⟨Tryz.f195.name,by decide,Tryz.func195.trans (congrArg some (by kernel_rfl))⟩
 case f22=>exact ⟨Tryz.f196.name,by decide,Tryz.func196.trans (congrArg some (by kernel_rfl))⟩
 case f23=>exact ⟨Tryz.f197.name,by decide,Tryz.func197.trans (congrArg some (by kernel_rfl))⟩
 case f24=>exact ⟨Tryz.f198.name,by decide,Tryz.func198.trans (congrArg some (by kernel_rfl))⟩
 case f25=>exact ⟨Tryz.f199.name,by decide,Tryz.func199.trans (congrArg some (by kernel_rfl))⟩
 case f26=>exact ⟨Tryz.f200.name,by decide,Tryz.func200.trans (congrArg some (by kernel_rfl))⟩
 case f27=>exact ⟨Tryz.f201.name,by decide,Tryz.func201.trans (congrArg some (by kernel_rfl))⟩
 case f46=>exact ⟨Tryz.f253.name,by decide,Tryz.func253.trans (congrArg some (by kernel_rfl))⟩
 case f49=>exact ⟨Tryz.f256.name,by decide,Tryz.func256.trans (congrArg some (by kernel_rfl))⟩
 case f50=>exact ⟨Tryz.f257.name,by decide,Tryz.func257.trans (congrArg some (by kernel_rfl))⟩
 case f57=>exact ⟨Tryz.f289.name,by decide,Tryz.func289.trans (congrArg some (by kernel_rfl))⟩
 all_goals intros;kernel_rfl
end Go.Proofs
namespace Go.Proofs.YtjlblidnfebmiaaGreatDoor
variable{B B1 B2 Bd Be Bm K base g k n:Nat}{W a b c w w':World}{qs xs ys:List RV}{x z:RV}
section
open Go.Sort (SWO PermIn SortedIn HoldsK flatK putRowK)
instance:Inhabited RV:=⟨⟨ByteArray.empty,ByteArray.empty,0,none,0,0⟩⟩
def cfR (x y:RV):Int:=dG (bK x.pod y.pod) (bK x.cont y.cont)
theorem xR(x y:RV):cfR x y<0↔(dz (bo x.pod y.pod)=1\/(dz (bo x.pod y.pod)=0/\dz (bo y.pod x.pod)=0/\dz (bo x.cont y.cont)=1)):=by grind[cfR,dG,bK,dz]
theorem SQ:SWO (ltOf cfR) where
 irrefl a:=by
  refine Q7 ?_;rw[xR]
  have:=uf a.pod
  have:=uf a.cont
  omega
 trans a b c f d:=by
  have f:=of_decide_eq_true f;have d:=of_decide_eq_true d;refine Qc ?_;rw[xR] at *;have e:=iJ (bo a.pod c.pod)
  rcases f with f|⟨f,Hc,Hf⟩
  ·rcases d with d|⟨d,Ha,Hb⟩
   ·exact .inl (ru _ _ _ f d)
   ·rcases e with e|e
    ·have:=lN a.pod c.pod b.pod e Ha
     omega
    ·exact .inl e
  ·rcases d with d|⟨d,Ha,Hb⟩
   ·rcases e with e|e
    ·have:=lN b.pod a.pod c.pod Hc e
     omega
    ·exact .inl e
   ·exact .inr ⟨lN _ _ _ f d,lN _ _ _ Ha Hc,ru _ _ _ Hf Hb⟩
 ntrans a b c f d:=by
  have f:=of_decide_eq_false f;have d:=of_decide_eq_false d;refine Q7 ?_;rw[xR] at *;have e:=iJ (bo a.pod b.pod);have j:=iJ (bo b.pod c.pod);have m:=iJ (bo b.pod a.pod);have p:=iJ (bo c.pod b.pod);have k:=iJ (bo a.cont b.cont);have n:=iJ (bo b.cont c.cont);have g:dz (bo a.pod b.pod)=0:=by omega
  have h:dz (bo b.pod c.pod)=0:=by omega
  rintro (i|⟨i,He,Hg⟩)
  ·have:=lN a.pod b.pod c.pod g h
   omega
  ·have l:dz (bo b.pod a.pod)=0:=lN b.pod c.pod a.pod h He;have o:dz (bo c.pod b.pod)=0:=lN c.pod a.pod b.pod He g
   have:=lN a.cont b.cont c.cont (by omega) (by omega)
   omega
theorem SR{w':World}(e:Below w w w')(hd:w.drawn<=w'.drawn):∃q os,w'=Go.Sort.grow (w.drewN q) os:=by
 refine⟨w'.drawn - w.drawn,w'.heap.extract w w',?_⟩;obtain⟨b,c,a,g,f⟩:=e;have d:w'.heap=w.heap++w'.heap.extract w w':=by
  apply Array.ext_getElem?
  intro i
  by_cases hi:i<w
  ·rw[Array.getElem?_append_left hi];exact f i hi
  ·rw[Array.getElem?_append_right (by omega),Array.getElem?_extract]
   by_cases h:i<w'
   ·rw[if_pos (by omega)]
    congr 1
    omega
   ·rw[if_neg (by omega)];exact Array.getElem?_eq_none (by omega)
 unfold Go.Sort.grow World.drewN;cases w';cases w;simp only at b c a hd d;simp only[World.mk.injEq];exact⟨d,c,by omega,b,a⟩
theorem Ej(w:World)(blk off m:Nat)(b:Array RV)(os:Array Obj):w.grownBy (sortWorldK RV.cells 4 w blk off m b os) (some blk):=by
 refine⟨rfl,rfl,rfl,?_,λj d a=>?_⟩
 ·simp[sortWorldK,Go.Sort.grow,putRowK,Go.Sort.putRow,Go.Sort.mapBlock,Go.Sort.ahead]
 ·have c:blk≠j:=λe=>a (by rw[e])
  simp[sortWorldK,Go.Sort.grow,putRowK,Go.Sort.putRow,Go.Sort.mapBlock,Go.Sort.ahead,Array.getElem?_append,Array.getElem_modify,d,c]
def jG (w:World) (g k:Nat) (x:RV):Prop:=
 (w.cell? ⟨g,k*4,none⟩=some (.string x.pod)/\w.cell? ⟨g,k*4+1,none⟩=some (.string x.cont)/\w.cell? ⟨g,k*4+2,none⟩=some (.int .u64 x.cpus)/\w.cell? ⟨g,k*4+3,none⟩=some (.slice x.da x.dn x.dc))/\
 (w.frozen? ⟨g,k*4,none⟩=false/\w.frozen? ⟨g,k*4+1,none⟩=false/\w.frozen? ⟨g,k*4+2,none⟩=false/\w.frozen? ⟨g,k*4+3,none⟩=false)
def rv (ys:List RV) (k:Nat):RV:=ys.getD k default
def mT (base:Nat) (w:World) (v:Value) (ys:List RV):Prop:=
 ∃a c,v=.slice a ys.length c/\ys.length<=c/\(0<ys.length->∃g,a=some ⟨g,0,none⟩/\base<=g/\g<w.heap.size/\∀k,k<ys.length->jG w g k (rv ys k))
theorem Ek(a:List RV)(k:Nat)(b:k<a.length)(c:Nat)(d:c<4):(a.flatMap RV.cells)[k*4+c]?=(RV.cells (rv a k))[c]?:=by
 induction a generalizing k with
 | nil=>simp at b
 | cons y l ih=>
  rw[List.flatMap_cons];cases k with
  | zero=>
   rw[List.getElem?_append_left (by simp[RV.cells];omega)]
   simp[rv]
  | succ k=>
   rw[List.getElem?_append_right (by simp[RV.cells];omega)];rw[show (k+1)*4+c - (RV.cells y).length=k*4+c by simp[RV.cells];omega];rw[ih k (by simpa using b)]
   simp[rv]
theorem SS(h:∀c,c<4->∀u,(RV.cells x)[c]?=some u->w.cell? ⟨g,k*4+c,none⟩=some u/\w.frozen? ⟨g,k*4+c,none⟩=false):jG w g k x:=by
 obtain⟨a0,b0⟩:=h 0 (by omega) _ rfl;obtain⟨a,b1⟩:=h 1 (by omega) _ rfl;obtain⟨a2,b2⟩:=h 2 (by omega) _ rfl;obtain⟨a3,b⟩:=h 3 (by omega) _ rfl;exact⟨⟨a0,a,a2,a3⟩,b0,b1,b2,b⟩
theorem SU{v:Value}(h:gj base w v ys)(p:0<ys.length):∃g a,v=.slice (some ⟨g,0,none⟩) ys.length a/\ys.length<=a/\base<=g/\g<w.heap.size/\HoldsK RV.cells 4 w g 0 ys.toArray:=by
 rcases h.2 with⟨_,q⟩|⟨g,a,c,n,m,f,Ha,Hb,_,o⟩
 ·omega
 ·refine⟨g,a,n,Ha,m,(gS f).1,λj d=>?_⟩;rw[Go.Sort.size_flatK] at d;rw[Go.Sort.get_flatK _ _ _ _ d];have k:j / 4<ys.length:=by simp at d;omega
  have b:=Ek ys (j / 4) k (j % 4) (by omega);rw[show j / 4*4+j % 4=j by omega,<- o,List.getElem?_take] at b;have e:ys.toArray[j / 4]! = rv ys (j / 4):=by simp[rv,k]
  have i:j % 4<(RV.cells (rv ys (j / 4))).length:=by simp[RV.cells];omega
  rw[Qf i] at b
  split at b
  ·have l:c[j]?=some ((RV.cells (rv ys (j / 4)))[j % 4]):=by simpa using b
   rw[e,List.getElem!_eq_getElem?_getD,Qf i];refine⟨?_,?_⟩
   ·unfold World.cell?;rw[f];simp[l]
   ·unfold World.frozen?;rw[f];simp
  ·cases b
def oA (ys:List RV):Prop:=ys.Pairwise λx y=>¬ cfR y x<0
theorem SV(a:List RV)(w:World)(v:Value)(K:Nat)(f:gj K w v a)(G:a.length<=1000) :
  Calls prog 126 #[v,.func (.func 85) #[] #[]] w λe w'=>e=.returned (.tuple #[])/\(∃l,mT K w' v l/\l.Perm a/\oA l)/\Below K w w':=by
 by_cases A:0<a.length
 ·obtain⟨g,b,rfl,Hk,Hj,Ha,q⟩:=SU f A;have Hh:a.toArray.size=a.length:=by simp
  have B:∀args w,(callFunc 85 args).run prog w=.ok (.enter 85 args) w:=enters_of func85 (by kernel_rfl) rfl;have Hf:CmpLays prog 85 #[] RV.cells 4 cfR g 0 a.toArray.size w:=by
   intro m os F _ x y;exact (SP x y _).mono λe w' ⟨he,hb,hdr⟩=>⟨he,SR hb hdr⟩
  have z:∀x:RV,∀v∈RV.cells x,v.oneCell'=true:=by
   intro x v d
   simp[RV.cells] at d
   rcases d with rfl|rfl|rfl|rfl <;> rfl
  have He:=AnyQ.slices_SortFunc Tryz.sortRL 4 isAgg129 sizeOf129 RV.cells (λ_=>rfl) z cfR SQ 85 #[] g 0 b a.toArray w B Hf q Ha (by simp;omega)
  change Calls prog 126 _ _ _ at He
  rw[Hh] at He;refine He.mono λe w' ⟨he,d',m,os,hp,hs,hw'⟩=>⟨he,?_,?_⟩
  ·have Hc:d'.size=a.length:=by rw[hp.1,Hh]
   have Hb:=Ej w g 0 m d' os;have Hn:HoldsK RV.cells 4 w' g 0 d':=by
    rw[hw'];exact Go.Sort.holdsK_grow _ _ _ _ _ _ _ (by simpa[putRowK,Go.Sort.putRow,Go.Sort.mapBlock,Go.Sort.ahead] using Ha) (Go.Sort.holdsK_putRowK _ _ _ _ _ a.toArray _ (Go.Sort.holdsK_ahead _ _ _ _ _ _ _ q) (by rw[hp.1]))
   refine⟨d'.toList,⟨_,b,by simp[Hc],by simp[Hc];exact Hk,λ_=>⟨g,rfl,Hj,?_,λk o=>?_⟩⟩,?_,?_⟩
   ·rw[hw'];exact Q1 Ha Hb.size
   ·have Hg:k<d'.size:=by simpa using o
    have e:d'[k]! = rv d'.toList k:=by rw[getElem!_pos d' k Hg];simp[rv,Hg]
    rw[<- e];refine SS λc s u C=>?_
    have n:=Hn.cell (i:=k) (c:=c) (by omega) s;rw[Qd] at n;have E:(RV.cells d'[k]!)[c]! = u:=by rw[List.getElem!_eq_getElem?_getD,C];rfl
    rw[E] at n;exact n
   ·have:=hp.2.2
    simp only[Array.toList_extract,List.extract_eq_take_drop,List.drop_zero,Nat.sub_zero] at this;rw[List.take_of_length_le (by simp[Hc]),List.take_of_length_le (by simp)] at this
    simpa using this
   ·unfold oA;rw[List.pairwise_iff_getElem];intro i j hi D Hm;have Hi:i<d'.size:=by simpa using hi
    have Hl:j<d'.size:=by simpa using D
    have:=hs i j (Nat.zero_le _) Hm (by omega)
    rw[getElem!_pos d' j Hl,getElem!_pos d' i Hi] at this;have t:=of_decide_eq_false this
    simpa using t
  ·rw[hw'];have Hb:=Ej w g 0 m d' os;exact⟨Hb.os,Hb.tape,Hb.output,Hb.size,λk o=>Hb.block k (by omega) (λe=>by cases e;omega)⟩
 ·have e:a=[]:=Qe (by omega);subst e;have d:∃p c,v=.slice p 0 c:=by
   rcases f.2 with⟨d,_⟩|⟨g,b,r,d,_⟩
   ·exact⟨none,0,d⟩
   ·exact⟨_,b,d⟩
  obtain⟨p,c,rfl⟩:=d;have He:=AnyF.slices_SortFunc_none (P:=prog) (ρ:=Tryz.sortRL_ren) { Tryz.sortRL with } p c (.func (.func 85) #[] #[]) w
  change Calls prog 126 _ _ _ at He
  exact He.mono λe w' ⟨he,hw'⟩=>⟨he,⟨[],⟨p,c,rfl,by simp,λh=>by simp at h⟩,List.Perm.refl _,List.Pairwise.nil⟩,by rw[hw'];exact Q0 _ _⟩
end
theorem SW(i b k:Nat)(g:List RV)(w:World)(o:w.cell? i=some (.map b))(d:bF w b k g)(l:g.length<=1000) :
  Calls prog 83 #[.func (.func 127) #[] #[.pointer (some ⟨i,0,none⟩)],.func (.func 85) #[] #[]] w λe w'=>(∃v f,e=.returned v/\mT w w' v f/\f.Perm g/\oA f)/\Below w w w':=by
 have n:=qI (Sa i b k g w o d l);clear o d
 go_enter func83,ntmps83
 go_wp2_with fail
 refine n.o.mono ?_;rintro e r ⟨⟨v,s,rfl,h,j⟩,m⟩;have HS:=qI (SV s r v w j (by rw[h.length_eq];exact l));have u:=qI h;have t:=qI m;obtain⟨a,c,rfl,_⟩:=j.slice;clear j h m n
 go_wp2_with fail
 refine HS.o.mono ?_;rintro e x ⟨rfl,⟨f,p,Ha,Hc⟩,Hb⟩;have q:=qI p;have Hg:=qI (Ha.trans u.o);have He:=qI Hc;have Hf:=qI (t.o.trans Hb);clear p Ha Hc Hb HS
 go_wp2
 go_ret;exact⟨⟨_,f,rfl,q.o,Hg.o,He.o⟩,Hf.o⟩
def lQ (w:World) (x:RV) (k:Nat):Int:=match x.da with
 | some a=>match w.cell? (a.add k) with
  | some (.int _ n)=>n
  | _=>0
 | none=>0
def bm (w:World) (x:RV):List Int:=(List.range x.dn).map (lQ w x)
def ce (w:World) (x:RV):Prop:=0<x.dn->∃g o,x.da=some ⟨g,o,none⟩/\g<w.heap.size/\∀k,k<x.dn->w.cell? ⟨g,o+k,none⟩=some (.int .i64 (lQ w x k))
theorem rD(h:ce w x)(j:∀g o,x.da=some ⟨g,o,none⟩->g<w.heap.size->w'.heap[g]?=w.heap[g]?)(hs:w<=w'.heap.size):ce w' x/\bm w' x=bm w x:=by
 by_cases e:0<x.dn
 ·obtain⟨g,o,b,d,l⟩:=h e;have f:=j g o b d;have hd:∀k,lQ w' x k=lQ w x k:=λk=>by
   unfold lQ;rw[b]
   simp only
   rw[World.cell?_of_block (w:=w) (w':=w') (a:=(⟨g,o,none⟩:Addr).add k) (by rw[Addr.add_lit];exact f)]
  refine⟨λ_=>⟨g,o,b,Q1 d hs,λk c=>?_⟩,?_⟩
  ·rw[hd,<- l k c];exact World.cell?_of_block (a:=⟨g,o+k,none⟩) f
  ·unfold bm;refine List.map_congr_left λk _=>hd k
 ·refine⟨λi=>absurd i e,?_⟩
  have:x.dn=0:=by omega
  simp[bm,this]
theorem ce.below(h:ce w x)(a:Below K w w')(c:∀g o,x.da=some ⟨g,o,none⟩->g<w.heap.size->g<K):ce w' x/\bm w' x=bm w x:=
 rD h (λg o e b=>a.block g (c g o e b)) a.size
structure Rn where
 pod:ByteArray
 cont:ByteArray
 cpus:Int
 devs:List Int
def aW (w:World) (x:RV):Rn:=⟨x.pod,x.cont,x.cpus,bm w x⟩
def gP (w:World) (x:RV):Prop:=ce w x/\(0<x.dn->∃g arr z,x.da=some ⟨g,0,none⟩/\w.heap[g]?=some (.cells arr 3 z))
def dY (w w':World):Prop:=w.heap.size<=w'.heap.size/\∀(k:Nat) (arr:Array Value) (z:Nat × Nat),w.heap[k]?=some (Obj.cells arr 3 z)->w'.heap[k]?=w.heap[k]?
theorem dY.trans(h:dY a b)(k:dY b c):dY a c:=⟨Q5 h.1 k.1,λi d z hi=>by
 have e:=h.2 i d z hi;rw[hi] at e;exact (k.2 i d z e).trans (e.trans hi.symm)⟩
theorem dY.below(h:Below w w w'):dY w w':=⟨h.size,λk _ _ a=>h.block k (gS a).1⟩
theorem dY.grown{b:Nat}(h:w.grownBy w' (some b))(d:∀(a:Array Value) (z:Nat × Nat),w.heap[b]?≠some (Obj.cells a 3 z)):dY w w':=
 ⟨h.size,λk a z c=>h.block k (gS c).1 (λe=>by cases e;exact d a z c)⟩
theorem gP.kept(h:gP w x)(j:dY w w'):gP w' x/\bm w' x=bm w x:=by
 by_cases c:0<x.dn
 ·obtain⟨g,b,z,i,f⟩:=h.2 c;have k:=j.2 g b z f;obtain⟨a,d⟩:=rD (w':=w') h.1 (λm n e _=>by rw[i] at e;cases e;exact k) j.1;exact⟨⟨a,λ_=>⟨g,b,z,i,k.trans f⟩⟩,d⟩
 ·obtain⟨a,d⟩:ce w' x/\bm w' x=bm w x:=⟨λa=>absurd a c,by (have l:x.dn=0:=(by omega));simp[bm,l]⟩;exact⟨⟨a,λa=>absurd a c⟩,d⟩
def iM (l:List Int):List Value:=l.map (Value.int .i64)
theorem SX:(prog.info? 3).map (λi=>(i.zero,i.size,i.bytes))=some (some (.int .i64 0),1,8):=by kernel_rfl
theorem El(a:Option Addr)(n c:Nat)(w:World):Sem.run prog (binOp BinOp.eql 46 (.slice a n c) (.slice none 0 0)) w=.ok a.isNone w:=Lib.run_eql_slice_nil w _ _ a n c 0 0 underlying46
theorem SY(w:World)(x:RV):(bm w x).length=x.dn:=by simp[bm]
def kX (K:Nat) (x:RV):Prop:=0<x.dn->∃g,x.da=some ⟨g,0,none⟩/\K<=g
theorem SZ{v:Value}{x:RV}{l:List Int}(o:l.length=x.dn)(h:w.ownsRow base 3 1 v l.length (iM l)):∃a c,v=.slice a x.dn c/\gP w { x with da:=a,dc:=c }/\bm w { x with da:=a,dc:=c }=l/\kX base { x with da:=a,dc:=c }:=by
 rcases h.2 with⟨n,u⟩|⟨g,f,e,n,s,m,Hc,He,_,t⟩
 ·have q:x.dn=0:=by omega
  refine⟨none,0,by rw[n,q],⟨λb=>?_,λb=>?_⟩,?_,λb=>?_⟩
  ·simp only at b;omega
  ·simp only at b;omega
  ·have:l=[]:=Qe (by omega)
   subst this
   simp[bm,q]
  ·simp only at b;omega
 ·have Ha:g<w:=(gS m).1;have p:∀k,k<x.dn->w.cell? ⟨g,k,none⟩=some (.int .i64 (l.getD k 0)):=λk d=>by
   have j:(iM l)[k]?=some (.int .i64 (l.getD k 0)):=by
    have:k<l.length:=by omega
    simp[iM,this]
   rw[<- t,List.getElem?_take] at j
   split at j
   ·have Hb:e[k]?=some (.int .i64 (l.getD k 0)):=by simpa using j
    unfold World.cell?
    rw[m]
    simp only
    exact Hb
   ·cases j
  have hd:∀k,k<x.dn->lQ w { x with da:=some ⟨g,0,none⟩,dc:=f } k=l.getD k 0:=λk d=>by
   unfold lQ
   simp only
   rw[Addr.add_lit,Qd,p k d]
  refine⟨some ⟨g,0,none⟩,f,by rw[n,o],⟨λ_=>⟨g,0,rfl,Ha,λk d=>?_⟩,λ_=>⟨g,e,_,rfl,m⟩⟩,?_,λ_=>⟨g,rfl,s⟩⟩
  ·rw[Qd,p k d,hd k d]
  ·unfold bm;apply List.ext_getElem
   ·simp[o]
   ·intro i b r;have hi:i<x.dn:=by simpa using b
    simp only[List.getElem_map,List.getElem_range];rw[hd i hi]
    simp[r]
theorem S0(a:Addr)(c:Nat)(l:List Int)(w:World)(f:∀j u,(iM l)[j]?=some u->w.cell? (a.add j)=some u)(p:l.length<=1000) :
  Calls prog 66 #[.slice (some a) l.length c] w λe w'=>∃v,e=.returned v/\w'.ownsRow w 3 1 v l.length (iM l)/\Below w w w':=by
 obtain⟨i0,hi,Hg,Hh,Hf⟩:=info_parts SX;have k:∀u∈iM l,u.oneCell'=true:=by
  intro u d
  simp[iM] at d
  obtain⟨n,_,rfl⟩:=d;rfl
 have m:=qI ((Q0 w w).alloc (lR) (.cells #[] 3));have o:Hu (∀j u,(iM l)[j]?=some u->(w.alloc (.cells #[] 3)).cell? (a.add j)=some u):=λj u b=>Lib.cell?_alloc_some _ (f j u b)
 have Hi:=El (some a) l.length c w;have Hc:(iM l).length=l.length:=by simp[iM]
 clear f
 go_enter func66,ntmps66
 go_wp2_with (at_builtin;(refine wpList_append_own _ rfl _ _ 46 rfl w 3 i0 (0:Int) 1 8 underlying46 hi Hg Hh Hf rfl (by decide) _ _ _ rfl (World.ownsRow_lit w #[] 0 (lR) (Nat.zero_le _) rfl) a l.length c (iM l) rfl (by rw[Hc,Nat.mul_one]) o.o k (by unfold maxLen;omega) (by omega) (by simp) ?_);intro g i Hb Ha _)
 have He:=qI (m.o.grown Ha (by simp) (λj b=>by cases b;exact lR));rw[Qd] at Hb;have h:Hu (i.ownsRow w 3 1 g l.length (iM l)):=by simpa[Hu] using Hb
 clear Hb Ha
 go_wp2
 go_ret;exact⟨_,rfl,h.o,He.o⟩
theorem S2(x:RV)(w:World)(h:ce w x)(q:x.dn<=1000) :
  Calls prog 66 #[.slice x.da x.dn x.dc] w λe w'=>∃a c,e=.returned (.slice a x.dn c)/\gP w' { x with da:=a,dc:=c }/\bm w' { x with da:=a,dc:=c }=bm w x/\kX w { x with da:=a,dc:=c }/\Below w w w':=by
 have Ha:=SY w x
 rcases hda:x.da with _|a
 ·have k:x.dn=0:=by
   rcases Nat.eq_zero_or_pos x.dn with e|e
   ·exact e
   ·obtain⟨g,o,d,_⟩:=h e;rw[hda] at d;cases d
  have He:=El none 0 x.dc w;rw[k]
  go_enter func66,ntmps66
  go_wp2
  go_ret;exact⟨none,0,rfl,⟨λb=>by simp only at b;omega,λb=>by simp only at b;omega⟩,by simp[bm,k],λb=>by simp only at b;omega,Q0 _ _⟩
 ·have i:=S0 a x.dc (bm w x) w (λj u f=>by
   have Hb:j<x.dn:=by
    have:=(List.getElem?_eq_some_iff.1 f).1
    simp[iM,Ha] at this
    exact this
   obtain⟨g,o,d,_,Hc⟩:=h (by omega);rw[hda] at d;cases d;rw[Addr.add_lit,Hc j Hb,<- f]
   simp[iM,bm,Hb]) (by omega)
  rw[Ha] at i;refine i.mono λe w' ⟨v,he,ho,hb⟩=>?_
  obtain⟨p,l,rfl,b,m,n⟩:=SZ (x:=x) Ha (by rw[Ha];exact ho);exact⟨p,l,he,b,m,n,hb⟩
theorem rE(W:World)(b j:Nat)(v:Value):W.grownBy (W.setCell ⟨b,j,none⟩ v) (some b):=
 ⟨rfl,rfl,rfl,by simp,λk _ a=>Below.heap_setCell _ _ _ k λe=>a (by rw[e])⟩
theorem cd.set0{x:RV}(h:cd W B x)(s:ByteArray):cd (W.setCell B s) B { x with pod:=s }:=by
 obtain⟨a,b⟩:=gS h
 show (W.heap.modify B _)[B]?=_
 rw[Array.getElem?_eq_getElem (by rw[Array.size_modify];exact a),Array.getElem_modify_self,b];rfl
theorem cd.set1{x:RV}(h:cd W B x)(s:ByteArray):cd (W.setCell ⟨B,1,none⟩ s) B { x with cont:=s }:=by
 obtain⟨a,b⟩:=gS h
 show (W.heap.modify B _)[B]?=_
 rw[Array.getElem?_eq_getElem (by rw[Array.size_modify];exact a),Array.getElem_modify_self,b];rfl
theorem cd.set2{x:RV}(h:cd W B x)(n:Int):cd (W.setCell ⟨B,2,none⟩ (.int .u64 n)) B { x with cpus:=n }:=by
 obtain⟨a,b⟩:=gS h
 show (W.heap.modify B _)[B]?=_
 rw[Array.getElem?_eq_getElem (by rw[Array.size_modify];exact a),Array.getElem_modify_self,b];rfl
theorem cd.set3{x:RV}(h:cd W B x)(a:Option Addr)(n c:Nat):cd (W.setCell ⟨B,3,none⟩ (.slice a n c)) B { x with da:=a,dn:=n,dc:=c }:=by
 obtain⟨Ha,b⟩:=gS h
 show (W.heap.modify B _)[B]?=_
 rw[Array.getElem?_eq_getElem (by rw[Array.size_modify];exact Ha),Array.getElem_modify_self,b];rfl
theorem cd.frozen(h:cd W B x)(j:Nat):W.frozen? ⟨B,j,none⟩=false:=by simp[World.frozen?,show W.heap[B]?=_ from h]
theorem cd.far(h:cd W B x)(g j:Nat)(v:Value)(a:B≠g):cd (W.setCell ⟨g,j,none⟩ v) B x:=(Below.heap_setCell W ⟨g,j,none⟩ v B a).trans h
theorem cd.notInt(h:cd W B x):∀(a:Array Value) (z:Nat × Nat),W.heap[B]?≠some (Obj.cells a 3 z):=λa z e=>by
 have:=(show W.heap[B]?=_ from h).symm.trans e
 simp at this
theorem S4{fn:Func}{p:Tmp}{b:TypeId}(h:fn.results=#[.cell p b])(tmps:Array Value)(P:Program)(w:World) :
  (results fn tmps).run P w=((asAddr (tmps.getD p undef)).run P w).andThen λa c=>(loadVar b a).run P c:=by
 simp only[results,h]
 simp[Sem.run_bind,Result.andThen]
def fill (W:World) (B:Nat) (x:RV):World:=(((W.setCell B x.pod).setCell ⟨B,1,none⟩ x.cont).setCell ⟨B,2,none⟩ (.int .u64 x.cpus)).setCell ⟨B,3,none⟩ (.slice x.da x.dn x.dc)
theorem cd.fill(h:cd W B z)(x:RV):cd (fill W B x) B x:=(((h.set0 x.pod).set1 x.cont).set2 x.cpus).set3 x.da x.dn x.dc
theorem dY.fill(h:cd W B z)(x:RV):dY W (fill W B x):=by
 have b:=h.set0 x.pod;have a:=b.set1 x.cont;have c:=a.set2 x.cpus;exact (((dY.grown (rE W B 0 _) h.notInt).trans (dY.grown (rE _ B 1 _) b.notInt)).trans (dY.grown (rE _ B 2 _) a.notInt)).trans (dY.grown (rE _ B 3 _) c.notInt)
theorem S5(h:Below K w W)(a:K<=B)(x:RV):Below K w (fill W B x):=
 (((h.setCell (p:=B) a _).setCell (p:=⟨B,1,none⟩) a _).setCell (p:=⟨B,2,none⟩) a _).setCell (p:=⟨B,3,none⟩) a _
abbrev xS:=(.cells #[.string ⟨#[]⟩,.string ⟨#[]⟩,.int .u64 0,.slice none 0 0] 129:Obj)
theorem Em(x:RV)(w:World)(h:ce w x)(D:x.dn<=1000) :
  Calls prog 88 #[.agg #[x.pod,x.cont,.int .u64 x.cpus,.slice x.da x.dn x.dc]] w λe w'=>∃a c,e=.returned (.agg #[x.pod,x.cont,.int .u64 x.cpus,.slice a x.dn c])/\gP w' { x with da:=a,dc:=c }/\bm w' { x with da:=a,dc:=c }=bm w x/\kX w { x with da:=a,dc:=c }/\Below w w w':=by
 have Hf:=(Q0 w w).alloc (lR) (jg x);have Hi:=Hf.alloc Hf.size (xS);have Hc:=qI Hi;have k:=qI ((cd.made w x).alloc (xS));have d:=cd.made (w.alloc (jg x)) ⟨⟨#[]⟩,⟨#[]⟩,0,none,0,0⟩;rw[World.size_alloc] at d;have j:=qI d;obtain⟨Hn,Ht⟩:=h.below Hi λ_ _ _ A=>A;have Hw:=qI (S2 x _ Hn D);have Hs:=qI Ht;clear Hf Hi d Hn Ht
 go_enter func88,ntmps88
 go_wp2_with fail
 generalize (w.alloc (jg x)).alloc (xS)=G at *;refine Hw.o.mono ?_;rintro e b ⟨a,c,rfl,m,Hl,Hk,He⟩;have Ho:=qI (show kX w { x with da:=a,dc:=c } from λt=>by
  obtain⟨g,q,E⟩:=Hk t;exact⟨g,q,Q5 Hc.o.size E⟩)
 have Hb:=k.o.below He;have f:=j.o.below He;have Hy:=qI (Hc.o.trans (He.mono Hc.o.size));have Hp:=qI m;have Hz:=qI (Hl.trans Hs.o);have u:=Hb.cells;obtain⟨c0,c1,c2,c3⟩:=u;have f3:=Hb.frozen 3;have Hg:=Hb.set3 a x.dn c;have Ha:=f.far w 3 (.slice a x.dn c) (by omega);have Hr:=qI (dY.grown (rE b w 3 (.slice a x.dn c)) Hb.notInt);have Hx:=qI (Hy.o.setCell (p:=⟨w,3,none⟩) (lR) (.slice a x.dn c));clear Hl m He Hk k j Hw Hs Hb f;obtain⟨z,s,C,n⟩:=Hg.cells;obtain⟨z0,z1,z2,z3⟩:=Ha.cells;have o:=Ha.frozen 0;have g1:=Ha.frozen 1;have r:=Ha.frozen 2;have g3:=Ha.frozen 3;have y:=qI Hg;have Hh:=qI Ha;clear Hg Ha
 go_wp2_with fail
 clear c0 c1 c2 c3 z s C n z0 z1 z2 z3 o g1 r g3 f3;have i:=Hh.o.fill { x with da:=a,dc:=c };have Hm:=qI (dY.fill Hh.o { x with da:=a,dc:=c });have Hj:=qI (S5 Hx.o (B:=w.heap.size+1) (by omega) { x with da:=a,dc:=c });obtain⟨F,I,J,H⟩:=i.cells;have l:Hu (fill (b.setCell ⟨w,3,none⟩ (.slice a x.dn c)) (w.heap.size+1) { x with da:=a,dc:=c }=((((b.setCell ⟨w,3,none⟩ (.slice a x.dn c)).setCell (w.heap.size+1:Nat) x.pod).setCell ⟨w.heap.size+1,1,none⟩ x.cont).setCell ⟨w.heap.size+1,2,none⟩ (.int .u64 x.cpus)).setCell ⟨w.heap.size+1,3,none⟩ (.slice a x.dn c)):=rfl;rw[<- l.o];clear i;generalize fill (b.setCell ⟨w,3,none⟩ (.slice a x.dn c)) (w.heap.size+1) { x with da:=a,dc:=c }=K at *;obtain⟨Hv,Hq⟩:=Hp.o.kept (Hr.o.trans Hm.o);refine bodyPost_ret (v:=.agg #[x.pod,x.cont,.int .u64 x.cpus,.slice a x.dn c]) ?_ rfl ⟨a,c,rfl,Hv,Hq.trans Hz.o,Ho.o,Hj.o⟩;rw[S4 rfl];clear Hv Hq Hp Ho Hz Hj Hm Hr l Hh y Hx Hy Hc;go_simp
def gk (w:World) (Be Bd Bm:Nat):Prop:=w.heap[Be]?=some (.cells #[Bd,.map Bm] 151 (0,0))
theorem gk.lt(h:gk w Be Bd Bm):Be<w:=(gS h).1
theorem gk.cells(h:gk w Be Bd Bm):w.cell? Be=some (.pointer (some ⟨Bd,0,none⟩))/\w.cell? ⟨Be,1,none⟩=some (.map Bm):=by
 refine⟨?_,?_⟩ <;> simp[World.cell?,show w.heap[Be]?=_ from h]
theorem gk.block(h:gk w Be Bd Bm)(a:w'.heap[Be]?=w.heap[Be]?):gk w' Be Bd Bm:=a.trans h
def fv (W:World) (g o:Nat) (x:RV):World:=(((W.setCell ⟨g,o,none⟩ x.pod).setCell ⟨g,o+1,none⟩ x.cont).setCell ⟨g,o+2,none⟩ (.int .u64 x.cpus)).setCell ⟨g,o+3,none⟩ (.slice x.da x.dn x.dc)
theorem uk(W:World)(g o:Nat)(x:RV)(b p:Nat)(h:b≠g\/p<o\/o+3<p):(fv W g o x).cell? ⟨b,p,none⟩=W.cell? ⟨b,p,none⟩:=by
 unfold fv;rw[Qb _ _ _ _ (by simp;omega),Qb _ _ _ _ (by simp;omega),Qb _ _ _ _ (by simp;omega),Qb _ _ _ _ (by simp;omega)]
theorem mU(W:World)(g o:Nat)(x:RV)(a:Addr):(fv W g o x).frozen? a=W.frozen? a:=by
 unfold fv;simp only[World.frozen?_setCell]
def mW (w:World) (g:Nat) (ys:List RV):Prop:=∀k,k<ys.length->jG w g k (rv ys k)
theorem S6(h:jG W g k z)(x:RV):jG (fv W g (k*4) x) g k x:=by
 obtain⟨⟨c0,c1,c2,c3⟩,f0,f1,f2,f3⟩:=h;refine⟨⟨?_,?_,?_,?_⟩,by rw[mU];exact f0,by rw[mU];exact f1,by rw[mU];exact f2,by rw[mU];exact f3⟩
 ·unfold fv;rw[Qb _ _ _ _ (by simp),Qb _ _ _ _ (by simp),Qb _ _ _ _ (by simp),World.cell?_setCell_same' _ _ _ (by rw[c0];rfl)]
 ·unfold fv;rw[Qb _ _ _ _ (by simp),Qb _ _ _ _ (by simp),World.cell?_setCell_same' _ _ _ (by rw[Qb _ _ _ _ (by simp),c1];rfl)]
 ·unfold fv;rw[Qb _ _ _ _ (by simp),World.cell?_setCell_same' _ _ _ (by rw[Qb _ _ _ _ (by simp),Qb _ _ _ _ (by simp),c2];rfl)]
 ·unfold fv;rw[World.cell?_setCell_same' _ _ _ (by rw[Qb _ _ _ _ (by simp),Qb _ _ _ _ (by simp),Qb _ _ _ _ (by simp),c3];rfl)]
theorem xT(a:List RV)(k j:Nat)(x:RV)(b:k<a.length):rv (a.set k x) j=if j=k then x else rv a j:=by grind[rv]
theorem mW.set(h:mW W g ys)(a:k<ys.length)(x:RV):mW (fv W g (k*4) x) g (ys.set k x):=λj b=>by
 rw[xT ys k j x a]
 by_cases e:j=k
 ·subst e;rw[if_pos rfl];exact S6 (h j a) x
 ·rw[if_neg e];obtain⟨⟨c0,c1,c2,c3⟩,f0,f1,f2,f3⟩:=h j (by simpa using b);exact⟨⟨(uk _ _ _ _ _ _ (by omega)).trans c0,(uk _ _ _ _ _ _ (by omega)).trans c1,(uk _ _ _ _ _ _ (by omega)).trans c2,(uk _ _ _ _ _ _ (by omega)).trans c3⟩,by rw[mU];exact f0,by rw[mU];exact f1,by rw[mU];exact f2,by rw[mU];exact f3⟩
theorem mW.block{W':World}(h:mW W g ys)(b:W'.heap[g]?=W.heap[g]?):mW W' g ys:=λk c=>by
 obtain⟨⟨c0,c1,c2,c3⟩,f0,f1,f2,f3⟩:=h k c;exact⟨⟨(World.cell?_of_block (a:=⟨g,k*4,none⟩) b).trans c0,(World.cell?_of_block (a:=⟨g,k*4+1,none⟩) b).trans c1,(World.cell?_of_block (a:=⟨g,k*4+2,none⟩) b).trans c2,(World.cell?_of_block (a:=⟨g,k*4+3,none⟩) b).trans c3⟩,(World.frozen?_of_block (a:=⟨g,k*4,none⟩) b).trans f0,(World.frozen?_of_block (a:=⟨g,k*4+1,none⟩) b).trans f1,(World.frozen?_of_block (a:=⟨g,k*4+2,none⟩) b).trans f2,(World.frozen?_of_block (a:=⟨g,k*4+3,none⟩) b).trans f3⟩
theorem S7(h:Below K w W)(a:K<=g)(o:Nat)(x:RV):Below K w (fv W g o x):=
 (((h.setCell (p:=⟨g,o,none⟩) a _).setCell (p:=⟨g,o+1,none⟩) a _).setCell (p:=⟨g,o+2,none⟩) a _).setCell (p:=⟨g,o+3,none⟩) a _
theorem S8(W:World)(g o:Nat)(x:RV)(b:Nat)(h:b≠g):(fv W g o x).heap[b]?=W.heap[b]?:=by
 unfold fv;rw[Below.heap_setCell _ _ _ b h,Below.heap_setCell _ _ _ b h,Below.heap_setCell _ _ _ b h,Below.heap_setCell _ _ _ b h]
def oB (g:Nat) (y:RV):Prop:=0<y.dn->∀g' o',y.da=some ⟨g',o',none⟩->g'≠g
theorem xU(h:k<ys.length):rv ys k∈ys:=by simp[rv,h]
theorem S9(f:ys.length=qs.length)(h:∀j,j<qs.length->(rv ys j).pod=(rv qs j).pod/\(rv ys j).cont=(rv qs j).cont)(d:oA qs):oA ys:=by
 unfold oA at *;rw[List.pairwise_iff_getElem] at *;intro i j hi e Hb;have c:=d i j (by omega) (by omega) Hb;have b:=h i (by omega);have a:=h j (by omega);have Hc:i<qs.length:=by omega
 have Ha:j<qs.length:=by omega
 simp[rv,hi,e,Hc,Ha] at b a
 unfold cfR at *;rw[b.1,b.2,a.1,a.2];exact c
theorem xV{y:RV}(h:ce w y)(k:oB g y)(j:∀b,b≠g->b<w.heap.size->w'.heap[b]?=w.heap[b]?)(hs:w<=w'.heap.size):ce w' y/\bm w' y=bm w y:=by
 by_cases c:0<y.dn
 ·exact rD h (λa l e d=>j a (k c a l e) d) hs
 ·have f:y.dn=0:=by omega
  exact⟨λi=>absurd i c,by simp[bm,f]⟩
theorem Ta(b:ys.length=qs.length)(h:∀j,j<qs.length->aW w' (rv ys j)=aW w (rv qs j)):ys.map (aW w')=qs.map (aW w):=by
 apply List.ext_getElem
 ·simp[b]
 ·intro i a c;have hi:i<ys.length:=by simpa using a
  have Ha:i<qs.length:=by omega
  have:=h i Ha
  simp[rv,hi,Ha] at this
  simpa using this
def Tb (w:World) (B:Nat) (l:Int) (d:Bool):Prop:=w.heap[B]?=some (.cells #[false,.string ⟨#[]⟩,false,.string ⟨#[]⟩,false,.string ⟨#[]⟩,false,.string ⟨#[]⟩,.slice none 0 0,l,d] 96 (0,0))
def WT (B:Nat) (w w':World):Prop:=w.grownBy w' (some B)/\w'=w.heap.size
def Tc (l:Int) (d:Bool):Int:=if d=true\/l=0 then l else if 0<l then l - 1 else l
def Td (l:Int) (d:Bool):Bool:=decide (d=true\/l=0)
section
open RowKit Go.Maps
theorem bF.look2(h:bF w B n xs)(a b:ByteArray)(f:a.size<=7000)(g:b.size<=7000) :
  ∃y:RV,∀W:World,W.heap[B]?=w.heap[B]?->(Instr.lookup 149 (.map B) (jF a b) true).run prog W=.ok (.tuple #[y.val,.bool (xs.any λx=>decide (x.pod=a/\x.cont=b))]) W:=by
 obtain⟨i,l,j⟩:=h.2;have key:∀W:World,W.heap[B]?=w.heap[B]?->∃y:RV,(Instr.lookup 149 (.map B) (jF a b) true).run prog W=.ok (.tuple #[y.val,.bool (xs.any λx=>decide (x.pod=a/\x.cont=b))]) W/\(DataW.map i).atKey (gi a b) (.held (RV.val ⟨ByteArray.empty,ByteArray.empty,0,none,0,0⟩))=.held y.val:=by
  intro W e;have He:W.ownsMap prog 179 ov B n (.map i):=by
   obtain⟨k,c,p,r⟩:=l;exact⟨k,c,e.trans p,r⟩
  obtain⟨v,q,Ha,o⟩:=He.look_ok ow underlying149 (R0 W) (xI _) (rr a b (kU f) (kU g));obtain⟨y,rfl,d⟩:=D2 o;refine⟨y,by rw[<- h.has j f g];exact Ha,?_⟩;exact congrArg Prod.fst d
 obtain⟨y,_,d⟩:=key w rfl;refine⟨y,λW e=>?_⟩;obtain⟨m,Hb,Hc⟩:=key W e;rw[Hc] at d
 have:m=y:=RV.val_inj (by simpa using d)
 rw[this] at Hb;exact Hb
theorem Te(a:Nat)(w:World):Calls prog 27 #[a] w λe w'=>e=.returned (w.heap.size+1:Nat)/\gk w' (w.heap.size+1) a w/\bF w' w 0 []/\Below w w w'/\w'=w.heap.size+2:=by
 have Ha:=@run_makeMap prog;have d:=qI ((bF.made w).block (w':=(w.alloc (.map #[] 0)).alloc (.cells #[a,.map w] 151)) (Below.heap_alloc _ _ _ (by simp)));have b:=World.alloc_heap_new (w.alloc (.map #[] 0)) (.cells #[a,.map w] 151);rw[World.size_alloc] at b;have c:=qI b;clear b
 go_enter func27,ntmps27
 go_wp2
 go_ret;exact⟨by simp,c.o,d.o,((Q0 _ _).alloc (lR) _).alloc (by simp) _,by simp⟩
structure bT (B1 B2:Nat) (w w':World):Prop where
 os:w'.os=w.os
 tape:w'.tape=w.tape
 output:w'.output=w.output
 size:w<=w'.heap.size
 block:∀k,k<w.heap.size->k≠B1->k≠B2->w'.heap[k]?=w.heap[k]?
theorem bT.refl(B1 B2:Nat)(w:World):bT B1 B2 w w:=⟨rfl,rfl,rfl,lR,λ_ _ _ _=>rfl⟩
theorem bT.trans(h:bT B1 B2 a b)(k:bT B1 B2 b c):bT B1 B2 a c:=
 ⟨k.os.trans h.os,k.tape.trans h.tape,k.output.trans h.output,Q5 h.size k.size,λi hi d e=>(k.block i (Q1 hi h.size) d e).trans (h.block i hi d e)⟩
theorem bT.of_below(h:Below w w w'):bT B1 B2 w w':=⟨h.os,h.tape,h.output,h.size,λk a _ _=>h.block k a⟩
theorem bT.of_grown{b:Nat}(h:w.grownBy w' (some b))(c:b=B1\/b=B2):bT B1 B2 w w':=⟨h.os,h.tape,h.output,h.size,λk a d f=>h.block k a (λe=>by cases e;rcases c with rfl|rfl <;> contradiction)⟩
theorem bT.kint(h:bT B1 B2 w w')(c:∀(a:Array Value) (z:Nat × Nat),w.heap[B1]?≠some (Obj.cells a 3 z))(d:∀(a:Array Value) (z:Nat × Nat),w.heap[B2]?≠some (Obj.cells a 3 z)):dY w w':=
 ⟨h.size,λk a z b=>h.block k (gS b).1 (λe=>by subst e;exact c a z b) (λe=>by subst e;exact d a z b)⟩
theorem bF.isMap(h:bF w B n xs):∃b a,w.heap[B]?=some (.map b a):=by
 obtain⟨_,b,⟨d,a,c,_⟩,_⟩:=h;exact⟨d,a,c⟩
theorem bF.notInt(h:bF w B n xs):∀(a:Array Value) (z:Nat × Nat),w.heap[B]?≠some (Obj.cells a 3 z):=λa z e=>by
 obtain⟨d,b,c⟩:=h.isMap;rw[c] at e;cases e
structure Started (w w':World) (Bd Bm n:Nat) (xs:List RV) (x:RV) (l:Int) (d:Bool) (f:Nat):Prop where
 disk:Tb w' Bd (Tc l d) (Td l d)
 o:bT Bd Bm w w'
 no:f≠0->bF w' Bm n xs
 yes:f=0->∃a c,bF w' Bm (n+1) ({ x with da:=a,dc:=c } :: xs)/\gP w' { x with da:=a,dc:=c }/\bm w' { x with da:=a,dc:=c }=bm w x
theorem oC{row:Option Nat}(c:w.grownBy w' row)(a:Addr)(h:a.block<w)(b:some a.block≠row):w'.cell? a=w.cell? a:=Q6 (c.block _ h b)
theorem Tf{o:Oper}{a:Act}{N:Act->World->Prop}{Q:Exit->Act->World->Prop}(w:World)(m x v:Operand)(c:o.op=Op.mapUpdate 149 m x v)
  (B n:Nat) (d:List RV) (y:RV) (l:a.eval m=.map B) (h:a.eval x=.agg #[y.pod,y.cont]) (k:a.eval v=.agg #[y.pod,y.cont,.int .u64 y.cpus,.slice y.da y.dn y.dc]) (p:bF w B n d) (i:y.Short) (j:n<1000) (b:(d.any λz=>decide (z.pod=y.pod/\z.cont=y.cont))=false)
  (g:∀w',bF w' B (n+1) (y :: d)->w.grownBy w' (some B)->w'=w.heap.size->N (a.put o.dst undef) w') :
  o.wp prog a w N Q:=by
 obtain⟨w',Ha,r1,e,f⟩:=p.put y i j b;unfold jF RV.val at Ha;unfold Oper.wp
 simp[execOp,c,l,h,k,Ha,Result.andThen]
 exact g w' r1 e f
end
