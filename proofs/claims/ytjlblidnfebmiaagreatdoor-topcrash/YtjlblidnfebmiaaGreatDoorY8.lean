import Derived.Test.YtjlblidnfebmiaaGreatDoorY4
import Derived.Test.YtjlblidnfebmiaaGreatDoorY7
import Derived.Deep.RegionHeld3
import Derived.Laws.EntriesVeiled
import Derived.Shelf.Lay
set_option maxRecDepth 100000
set_option maxHeartbeats 16000000
open Go Go.RowKit Go.Shelf
open Go.Proofs.Tryz
namespace Go.Proofs.YtjlblidnfebmiaaGreatDoor
variable{B:Nat}{W:World}{x:RV}
theorem bO{a w:World}(h:Below B a w):Below B a w.drew:=⟨h.os,h.tape,h.output,h.size,h.block⟩
theorem KI(a b:ByteArray):(a.toList == b.toList)=decide (a=b):=by
 rw[Bool.eq_iff_iff,beq_iff_eq,decide_eq_true_iff,Qs,Qs];exact⟨λh=>ByteArray.ext (Array.toList_inj.mp h),λh=>by rw[h]⟩
theorem qw{x:ByteArray}{w:World}:CE 128 #[x] w false:=by
 go_enter func128,ntmps128
 go_wp2
 go_ret;exact⟨by simp,rfl⟩
theorem wW(x y:ByteArray){w:World}:CE 87 #[x,y] w (bN x y:Int):=by
 have c:Hu (bN x y=if bJ x y=true then -1 else if bJ y x=true then 1 else 0):=rfl;have Ha:=qI (ut x y);have Hc:=qI (wS x y);generalize bN x y=T at *
 rcases two (bJ x y) with a|a
 ·have f:=qI (c.o.trans (if_pos a));have Hf:Op.bytesLess x.toList y.toList=true:=a;clear c a Ha Hc
  go_enter func87,ntmps87
  go_wp2
  refine (qw).e ?_
  go_wp2
  refine (qw).e ?_
  go_wp2
  go_ret;exact⟨by rw[f.o];rfl,rfl⟩
 ·have Hb:=qI (c.o.trans (if_neg (by rw[a];decide)));have Hf:Op.bytesLess x.toList y.toList=false:=a
  rcases two (bJ y x) with b|b
  ·have f:=qI (Hb.o.trans (if_pos b));have Hg:(x.toList == y.toList)=false:=by
    grind[KI]
   clear c Hb a b Ha Hc
   go_enter func87,ntmps87
   go_wp2
   refine (qw).e ?_
   go_wp2
   refine (qw).e ?_
   go_wp2
   go_ret;exact⟨by rw[f.o];rfl,rfl⟩
  ·have f:=qI (Hb.o.trans (if_neg (by rw[b];decide)));have He:=Ha.o (by rw[a];rfl) (by rw[b];rfl);subst He;clear c Hb a b Ha Hc
   go_enter func87,ntmps87
   go_wp2
   refine (qw).e ?_
   go_wp2
   refine (qw).e ?_
   go_wp2
   go_ret;exact⟨by rw[f.o];rfl,rfl⟩
theorem KJ{a b:Int}{g n:Nat}{w:World}(c:w.cell? g=some (.int .i64 a))(l:w.cell? ⟨g,1,none⟩=some (.int .i64 b)) :
  CE 86 #[.slice g 2 n] w (dO a b:Int):=by
 have p:Hu (∀k:Nat,k<2->∃v:Int,cl w g k (v:Int)/\(v=if k=0 then a else b)):=by
  intro k q
  have:k=0\/k=1:=by omega
  rcases this with rfl|rfl
  ·exact⟨a,c,rfl⟩
  ·exact⟨b,l,rfl⟩
 clear c l
 go_enter func86,ntmps86
 go_wp2
 go_loop [8] (λi=>∃k:Nat,k<=2/\i=.int .i64 k/\Hu ((0<k->a=0)/\(1<k->b=0))) (λi=>2 - (intOf i).toNat)
 exact⟨0,by omega,rfl,⟨λh=>by omega,λh=>by omega⟩⟩
 ·obtain⟨k,q,rfl,o⟩:=hrel
  by_cases f:k<2
  ·obtain⟨v,r,j⟩:=p.o k f;have m:=qI j;clear j
   by_cases c:v=0
   ·subst c;have Hb:Hu ((0<k+1->a=0)/\(1<k+1->b=0)):=by
     obtain⟨z0,z1⟩:=o.o;have j:=m.o
     have:k=0\/k=1:=by omega
     rcases this with rfl|rfl
     ·grind
     ·grind
    go_wp2
    go_round
    exact⟨k+1,by omega,by go_num,Hb⟩
    simp[intOf];omega
   ·have d:Hu (dO a b=v):=by
     grind[Hu,dO]
    have s:(v != 0)=true:=by simp[c]
    go_wp2
    go_ret;exact⟨by rw[d.o];rfl,rfl⟩
  ·have Ha:k=2:=by omega
   subst Ha;have d:Hu (dO a b=0):=by
    grind[dO]
   go_wp2
   go_ret;exact⟨by rw[d.o];rfl,rfl⟩
def cz (W:World) (B:Nat) (x:RV):Prop:=W.heap[B]?=some (.cells #[x.pod,x.cont,.int .u64 x.cpus,.slice x.da x.dn x.dc] 129 (0,0))
theorem cz.lt(h:cz W B x):B<W:=(gS h).1
theorem cz.cells(h:cz W B x):W.cell? B=some (.string x.pod)/\W.cell? ⟨B,1,none⟩=some (.string x.cont)/\W.cell? ⟨B,2,none⟩=some (.int .u64 x.cpus)/\W.cell? ⟨B,3,none⟩=some (.slice x.da x.dn x.dc):=by
 refine⟨?_,?_,?_,?_⟩ <;> simp[World.cell?,show W.heap[B]?=_ from h]
abbrev jm:=λ(x0:RV)=>(.cells #[x0.pod,x0.cont,.int .u64 x0.cpus,.slice x0.da x0.dn x0.dc] 129:Obj)
theorem cz.made(w:World)(x:RV):cz (w.alloc (jm x)) w x:=World.alloc_heap_new w _
theorem cz.below{W':World}(h:cz W B x)(a:Bw W W'):cz W' B x:=(a.block B h.lt).trans h
theorem cz.alloc(h:cz W B x)(o:Obj):cz (W.alloc o) B x:=h.below ((Q0 _ W).alloc (lR) o)
theorem KK(w:World)(t:TypeId)(a b:Int):(w.alloc (.cells #[a,b] t)).cell? w=some (.int .i64 a)/\(w.alloc (.cells #[a,b] t)).cell? ⟨w,1,none⟩=some (.int .i64 b):=⟨by simp,by simp⟩
theorem KL(x y:RV){w:World}:Calls pg 85 #[.agg #[x.pod,x.cont,.int .u64 x.cpus,.slice x.da x.dn x.dc],.agg #[y.pod,y.cont,.int .u64 y.cpus,.slice y.da y.dn y.dc]] w λe w'=>e=.returned (dO (bN x.pod y.pod) (bN x.cont y.cont):Int)/\Bw w w'/\w.drawn<=w'.drawn:=by
 have Hf:=((Q0 w w).alloc (lR) (jm x)).alloc (by simp) (jm y);have He:=qI (bO Hf);have b:=qI (((cz.made w x).alloc (jm y)).below (bO (Q0 _ _)));have f:=(cz.made (w.alloc (jm x)) y).below (bO (Q0 _ _));rw[show (w.alloc (jm x)).heap.size=w.heap.size+1 by simp] at f;have c:=qI f;clear Hf f
 go_enter func85,ntmps85
 go_wp2
 refine wp_region_held_drew (S:=(λw'=>(cl w' w (0) x.pod/\cl w' w (1) x.cont)/\cl w' (w.heap.size+1) (0) y.pod/\cl w' (w.heap.size+1) (1) y.cont)) (by kernel_rfl) ⟨⟨b.o.cells.1,b.o.cells.2.1⟩,c.o.cells.1,c.o.cells.2.1⟩ λd=>?_;refine tk 0 ?_;refine tk 1 ?_;refine tk 2 ?_;refine tk 3 ?_;refine tk 5 ?_;refine tk 6 ?_;refine tk 7 ?_;refine tk 8 ?_;refine rd 4 λK a=>?_;go_simp
 go_wp2
 refine (wW _ _).e ?_
 go_wp2
 refine a.o _ _ ⟨⟨b.o.cells.1,b.o.cells.2.1⟩,c.o.cells.1,c.o.cells.2.1⟩ λd=>?_;clear a K;refine rd 9 λK a=>?_;go_simp
 go_wp2
 refine (wW _ _).e ?_
 go_wp2
 refine a.o _ _ ⟨⟨b.o.cells.1,b.o.cells.2.1⟩,c.o.cells.1,c.o.cells.2.1⟩ λd=>?_;clear a K;have Hb:=qI (b.o.alloc (.cells #[(bN x.pod y.pod:Int),(bN x.cont y.cont:Int)] 3));have Ha:=qI (c.o.alloc (.cells #[(bN x.pod y.pod:Int),(bN x.cont y.cont:Int)] 3));have Hh:=qI (He.o.alloc He.o.size (.cells #[(bN x.pod y.pod:Int),(bN x.cont y.cont:Int)] 3));have Hc:=KK (((w.alloc (jm x)).alloc (jm y)).drew) 3 (bN x.pod y.pod) (bN x.cont y.cont);rw[show (((w.alloc (jm x)).alloc (jm y)).drew).heap.size=w.heap.size+1+1 by simp[World.drew]] at Hc;have Hg:=qI Hc;clear Hc;refine rd 10 λK a=>?_;go_simp
 go_wp2
 refine a.o _ _ ⟨⟨Hb.o.cells.1,Hb.o.cells.2.1⟩,Ha.o.cells.1,Ha.o.cells.2.1⟩ λd=>?_;clear a K;refine rd 11 λK a=>?_;go_simp
 go_wp2
 refine (KJ Hg.o.1 Hg.o.2).e ?_
 go_wp2
 refine a.o _ _ ⟨⟨Hb.o.cells.1,Hb.o.cells.2.1⟩,Ha.o.cells.1,Ha.o.cells.2.1⟩ λd=>?_;clear a K;refine tk 12 ?_;refine Qn (by kernel_rfl) ?_ _
 go_wp2
 go_ret;exact⟨rfl,Hh,Nat.le_succ _⟩
end Go.Proofs.YtjlblidnfebmiaaGreatDoor
namespace Go.Proofs
open Go.Shelf
def Tryz.sortRL_ren:Go.Shelf.Ren:=⟨fun|6=>126|15=>161|14=>160|28=>202|29=>203|20=>194|21=>195|22=>196|23=>197|24=>198|25=>199|26=>200|27=>201|46=>253|47=>254|48=>255|49=>256|50=>257|57=>289|n=>n,fun|22=>120|24=>129|25=>182|3=>3|39=>219|0=>0|53=>296|55=>23|4=>4|46=>312|45=>311|50=>134|5=>5|9=>9|66=>357|70=>361|76=>389|77=>390|n=>n,fun|n=>n⟩
theorem Tryz.sortRL:Go.Proofs.SlLaysF0.n6 Tryz.prog Tryz.sortRL_ren:=by
 constructor
 case f6=>exact⟨Tryz.f126.name,by decide,Tryz.func126.trans (congrArg some (by kernel_rfl))⟩
 case f14=>exact⟨Tryz.f160.name,by decide,Tryz.func160.trans (congrArg some (by kernel_rfl))⟩
 case f20=>exact⟨Tryz.f194.name,by decide,Tryz.func194.trans (congrArg some (by kernel_rfl))⟩
 case f21=>exact⟨Tryz.f195.name,by decide,Tryz.func195.trans (congrArg some (by kernel_rfl))⟩
 case f22=>exact⟨Tryz.f196.name,by decide,Tryz.func196.trans (congrArg some (by kernel_rfl))⟩
 case f23=>exact⟨Tryz.f197.name,by decide,Tryz.func197.trans (congrArg some (by kernel_rfl))⟩
 case f24=>exact⟨Tryz.f198.name,by decide,Tryz.func198.trans (congrArg some (by kernel_rfl))⟩
 case f25=>exact⟨Tryz.f199.name,by decide,Tryz.func199.trans (congrArg some (by kernel_rfl))⟩
 case f26=>exact⟨Tryz.f200.name,by decide,Tryz.func200.trans (congrArg some (by kernel_rfl))⟩
 case f27=>exact⟨Tryz.f201.name,by decide,Tryz.func201.trans (congrArg some (by kernel_rfl))⟩
 case f46=>exact⟨Tryz.f253.name,by decide,Tryz.func253.trans (congrArg some (by kernel_rfl))⟩
 case f49=>exact⟨Tryz.f256.name,by decide,Tryz.func256.trans (congrArg some (by kernel_rfl))⟩
 case f50=>exact⟨Tryz.f257.name,by decide,Tryz.func257.trans (congrArg some (by kernel_rfl))⟩
 case f57=>exact⟨Tryz.f289.name,by decide,Tryz.func289.trans (congrArg some (by kernel_rfl))⟩
 all_goals intros;kernel_rfl
end Go.Proofs
namespace Go.Proofs.YtjlblidnfebmiaaGreatDoor
variable{B B1 B2 Bd Be Bm K base g k n:Nat}{W a b c w w':World}{qs xs ys:List RV}{x z:RV}
section
open Go.Sort (SWO PermIn SortedIn HoldsK flatK putRowK)
instance:Inhabited RV:=⟨⟨ByteArray.empty,ByteArray.empty,0,none,0,0⟩⟩
def cfR (x y:RV):Int:=dO (bN x.pod y.pod) (bN x.cont y.cont)
theorem wX(x y:RV):cfR x y<0↔(dW (bJ x.pod y.pod)=1\/(dW (bJ x.pod y.pod)=0/\dW (bJ y.pod x.pod)=0/\dW (bJ x.cont y.cont)=1)):=by
 grind[cfR,dO,bN,dW]
theorem KM:SWO (ltOf cfR) where
 irrefl a:=by
  refine Q7 ?_;rw[wX]
  have:=ur a.pod
  have:=ur a.cont
  omega
 trans a b c d e:=by
  have d:=of_decide_eq_true d;have e:=of_decide_eq_true e;refine Qc ?_;rw[wX] at *;have g:=jO (bJ a.pod c.pod)
  rcases d with d|⟨d,He,Hb⟩
  ·grind[rW,rX]
  ·grind[rX,rW]
 ntrans a b c d e:=by
  have d:=of_decide_eq_false d;have e:=of_decide_eq_false e;refine Q7 ?_;rw[wX] at *;have g:=jO (bJ a.pod b.pod);have j:=jO (bJ b.pod c.pod);have m:=jO (bJ b.pod a.pod);have h:=jO (bJ c.pod b.pod);have k:=jO (bJ a.cont b.cont);have l:=jO (bJ b.cont c.cont);have n:dW (bJ a.pod b.pod)=0:=by omega
  have i:dW (bJ b.pod c.pod)=0:=by omega
  rintro (f|⟨f,Ha,Hc⟩)
  ·grind[rX]
  ·grind[rX]
theorem KN{w':World}(e:Bw w w')(hd:w.drawn<=w'.drawn):∃q os,w'=Go.Sort.grow (w.drewN q) os:=by
 refine⟨w'.drawn - w.drawn,w'.heap.extract w w',?_⟩;obtain⟨b,c,a,g,f⟩:=e;have d:w'.heap=w.heap++w'.heap.extract w w':=by
  grind
 unfold Go.Sort.grow World.drewN;cases w';cases w;simp only at b c a hd d;simp only[World.mk.injEq];exact⟨d,c,by omega,b,a⟩
theorem BM(w:World)(blk off m:Nat)(a:Array RV)(os:Array Obj):w.grownBy (sortWorldK RV.cells 4 w blk off m a os) (some blk):=by
 refine⟨rfl,rfl,rfl,?_,λj c b=>?_⟩
 ·simp[sortWorldK,putRowK]
 ·grind[sortWorldK,Go.Sort.grow,putRowK,Go.Sort.putRow,Go.Sort.mapBlock,Go.Sort.ahead]
def jP (w:World) (g k:Nat) (x:RV):Prop:=
 (w.cell? ⟨g,k*4,none⟩=some (.string x.pod)/\w.cell? ⟨g,k*4+1,none⟩=some (.string x.cont)/\w.cell? ⟨g,k*4+2,none⟩=some (.int .u64 x.cpus)/\w.cell? ⟨g,k*4+3,none⟩=some (.slice x.da x.dn x.dc))/\
 (w.frozen? ⟨g,k*4,none⟩=false/\w.frozen? ⟨g,k*4+1,none⟩=false/\w.frozen? ⟨g,k*4+2,none⟩=false/\w.frozen? ⟨g,k*4+3,none⟩=false)
def rv (ys:List RV) (k:Nat):RV:=ys.getD k default
def mo (base:Nat) (w:World) (v:Value) (ys:List RV):Prop:=
 ∃a c,v=.slice a ys.length c/\ys.length<=c/\(0<ys.length->∃g,a=some ⟨g,0,none⟩/\base<=g/\g<w.heap.size/\∀k,k<ys.length->jP w g k (rv ys k))
theorem BN(a:List RV)(k:Nat)(b:k<a.length)(c:Nat)(d:c<4):(a.flatMap RV.cells)[k*4+c]?=(RV.cells (rv a k))[c]?:=by
 induction a generalizing k with
 | nil=>simp at b
 | cons y l ih=>
  rw[List.flatMap_cons];cases k with
  | zero=>
   rw[List.getElem?_append_left (by simp[RV.cells];omega)]
   simp[rv]
  | succ k=>
   rw[List.getElem?_append_right (by simp[RV.cells];omega)];rw[show (k+1)*4+c - (RV.cells y).length=k*4+c by simp[RV.cells];omega];rw[ih k (by simpa using b)]
   simp[rv]
theorem KO(h:∀c,c<4->∀u,(RV.cells x)[c]?=some u->w.cell? ⟨g,k*4+c,none⟩=some u/\w.frozen? ⟨g,k*4+c,none⟩=false):jP w g k x:=by
 obtain⟨a0,b0⟩:=h 0 (by omega) _ rfl;obtain⟨a,b1⟩:=h 1 (by omega) _ rfl;obtain⟨a2,b2⟩:=h 2 (by omega) _ rfl;obtain⟨a3,b⟩:=h 3 (by omega) _ rfl;exact⟨⟨a0,a,a2,a3⟩,b0,b1,b2,b⟩
theorem KQ{v:Value}(h:dq base w v ys)(p:0<ys.length):∃g a,v=.slice (some ⟨g,0,none⟩) ys.length a/\ys.length<=a/\base<=g/\g<w.heap.size/\HoldsK RV.cells 4 w g 0 ys.toArray:=by
 rcases h.2 with⟨_,q⟩|⟨g,a,c,n,m,d,Ha,Hb,_,o⟩
 ·omega
 ·refine⟨g,a,n,Ha,m,(gS d).1,λj f=>?_⟩;rw[Go.Sort.size_flatK] at f;rw[Go.Sort.get_flatK _ _ _ _ f];have i:j / 4<ys.length:=by simp at f;omega
  have b:=BN ys (j / 4) i (j % 4) (by omega);rw[show j / 4*4+j % 4=j by omega,<- o,List.getElem?_take] at b;have e:ys.toArray[j / 4]! = rv ys (j / 4):=by simp[rv,i]
  have k:j % 4<(RV.cells (rv ys (j / 4))).length:=by simp[RV.cells];omega
  rw[Qf k] at b
  split at b
  ·have l:c[j]?=some ((RV.cells (rv ys (j / 4)))[j % 4]):=by simpa using b
   rw[e,List.getElem!_eq_getElem?_getD,Qf k];refine⟨?_,?_⟩
   ·unfold World.cell?;rw[d];simp[l]
   ·unfold World.frozen?;rw[d];simp
  ·cases b
def o7 (ys:List RV):Prop:=ys.Pairwise λx y=>¬ cfR y x<0
theorem KR{a:List RV}{w:World}{v:Value}{K:Nat}(f:dq K w v a)(F:a.length<=1000) :
  Calls pg 126 #[v,.func (.func 85) #[] #[]] w λe w'=>e=.returned (.tuple #[])/\(∃l,mo K w' v l/\l.Perm a/\o7 l)/\Below K w w':=by
 by_cases A:0<a.length
 ·obtain⟨g,b,rfl,Hi,Hj,He,q⟩:=KQ f A;have Hg:a.toArray.size=a.length:=by simp
  have t:∀args w,(callFunc 85 args).run prog w=.ok (.enter 85 args) w:=enters_of func85 (by kernel_rfl) rfl;have Hf:CmpLays prog 85 #[] RV.cells 4 cfR g 0 a.toArray.size w:=by
   intro m os G _ x y;exact (KL x y).mono λe w' ⟨he,hb,hdr⟩=>⟨he,KN hb hdr⟩
  have B:∀x:RV,∀v∈RV.cells x,v.oneCell'=true:=by
   intro x v d
   simp[RV.cells] at d
   rcases d with rfl|rfl|rfl|rfl <;> rfl
  have Hc:=AnyQ.slices_SortFunc Tryz.sortRL 4 isAgg129 sizeOf129 RV.cells (λ_=>rfl) B cfR KM 85 #[] g 0 b a.toArray w t Hf q He (by simp;omega)
  change Calls pg 126 _ _ _ at Hc
  rw[Hg] at Hc;refine Hc.mono λe w' ⟨he,d',m,os,hp,hs,hw'⟩=>⟨he,?_,?_⟩
  ·have Hb:d'.size=a.length:=by rw[hp.1,Hg]
   have Ha:=BM w g 0 m d' os;have Hm:HoldsK RV.cells 4 w' g 0 d':=by
    rw[hw'];exact Go.Sort.holdsK_grow _ _ _ _ _ _ _ (by grind[putRowK,Go.Sort.putRow,Go.Sort.mapBlock,Go.Sort.ahead]) (Go.Sort.holdsK_putRowK _ _ _ _ _ a.toArray _ (Go.Sort.holdsK_ahead _ _ _ _ _ _ _ q) (by rw[hp.1]))
   refine⟨d'.toList,⟨_,b,by simp[Hb],by simp[Hb];exact Hi,λ_=>⟨g,rfl,Hj,?_,λk o=>?_⟩⟩,?_,?_⟩
   ·rw[hw'];exact Q1 He Ha.size
   ·have Hn:k<d'.size:=by simpa using o
    have e:d'[k]! = rv d'.toList k:=by grind[rv]
    rw[<- e];refine KO λc r u E=>?_
    have n:=Hm.cell (i:=k) (c:=c) (by omega) r;rw[Qd] at n;have z:(RV.cells d'[k]!)[c]! = u:=by grind
    rw[z] at n;exact n
   ·have:=hp.2.2
    simp only[Array.toList_extract,List.extract_eq_take_drop,List.drop_zero,Nat.sub_zero] at this;rw[List.take_of_length_le (by simp[Hb]),List.take_of_length_le (by simp)] at this
    simpa using this
   ·unfold o7;rw[List.pairwise_iff_getElem];intro i j hi D Hl;have Hh:i<d'.size:=by simpa using hi
    have Hk:j<d'.size:=by simpa using D
    have:=hs i j (Nat.zero_le _) Hl (by omega)
    rw[getElem!_pos d' j Hk,getElem!_pos d' i Hh] at this;have s:=of_decide_eq_false this
    simpa using s
  ·rw[hw'];have Ha:=BM w g 0 m d' os;exact⟨Ha.os,Ha.tape,Ha.output,Ha.size,λk o=>Ha.block k (by omega) (λe=>by cases e;omega)⟩
 ·have e:a=[]:=Qe (by omega);subst e;have d:∃p c,v=.slice p 0 c:=by
   rcases f.2 with⟨d,_⟩|⟨g,b,C,d,_⟩
   ·exact⟨none,0,d⟩
   ·exact⟨_,b,d⟩
  obtain⟨p,c,rfl⟩:=d;have Hc:=AnyF.slices_SortFunc_none (P:=prog) (ρ:=Tryz.sortRL_ren) { Tryz.sortRL with } p c (.func (.func 85) #[] #[]) w
  change Calls pg 126 _ _ _ at Hc
  exact Hc.mono λe w' ⟨he,hw'⟩=>⟨he,⟨[],⟨p,c,rfl,by simp,λh=>by simp at h⟩,List.Perm.refl _,List.Pairwise.nil⟩,by grind[Q0]⟩
end
theorem KS{h b n:Nat}{g:List RV}{w:World}(p:w.cell? h=some (.map b))(d:bI w b n g)(k:g.length<=1000) :
  Calls pg 83 #[.func (.func 127) #[] #[.pointer (some ⟨h,0,none⟩)],.func (.func 85) #[] #[]] w λe w'=>(∃v f,e=.returned v/\mo w w' v f/\f.Perm g/\o7 f)/\Bw w w':=by
 have o:=qI (JK h b n g w p d k);clear p d
 go_enter func83,ntmps83
 go_wp2
 refine o.o.mono ?_;rintro e s ⟨⟨v,t,rfl,i,j⟩,m⟩;have HS:=qI (KR j (by rw[i.length_eq];exact k));have r:=qI i;have q:=qI m;obtain⟨a,c,rfl,_⟩:=j.slice;clear j i m o
 go_wp2
 refine HS.o.mono ?_;rintro e x ⟨rfl,⟨f,l,Hb,Hc⟩,Ha⟩;have u:=qI l;have Hf:=qI (Hb.trans r);have Hg:=qI Hc;have He:=qI (q.o.trans Ha);clear l Hb Hc Ha HS
 go_wp2
 go_ret;exact⟨⟨_,f,rfl,u,Hf,Hg⟩,He⟩
def mr (w:World) (x:RV) (k:Nat):Int:=match x.da with
 | some a=>match w.cell? (a.add k) with
  | some (.int _ n)=>n
  | _=>0
 | none=>0
def bj (w:World) (x:RV):List Int:=(List.range x.dn).map (mr w x)
def bB (w:World) (x:RV):Prop:=0<x.dn->∃g o,x.da=some ⟨g,o,none⟩/\g<w.heap.size/\∀k,k<x.dn->w.cell? ⟨g,o+k,none⟩=some (.int .i64 (mr w x k))
theorem rZ(h:bB w x)(j:∀g o,x.da=some ⟨g,o,none⟩->g<w.heap.size->w'.heap[g]?=w.heap[g]?)(hs:w<=w'.heap.size):bB w' x/\bj w' x=bj w x:=by
 by_cases d:0<x.dn
 ·obtain⟨g,o,c,e,f⟩:=h d;have l:=j g o c e;have hd:∀k,mr w' x k=mr w x k:=λk=>by
   unfold mr;rw[c]
   simp only
   rw[World.cell?_of_block (w:=w) (w':=w') (a:=(⟨g,o,none⟩:Addr).add k) (by grind[Addr.add_lit])]
  refine⟨λ_=>⟨g,o,c,Q1 e hs,λk b=>?_⟩,?_⟩
  ·rw[hd,<- f k b];exact World.cell?_of_block (a:=⟨g,o+k,none⟩) l
  ·grind[bj,List.map_congr_left]
 ·refine⟨λi=>absurd i d,?_⟩
  have:x.dn=0:=by omega
  simp[bj,this]
theorem bB.below(h:bB w x)(a:Below K w w')(b:∀g o,x.da=some ⟨g,o,none⟩->g<w.heap.size->g<K):bB w' x/\bj w' x=bj w x:=
 rZ h (λg o e c=>a.block g (b g o e c)) a.size
structure Rn where
 pod:ByteArray
 cont:ByteArray
 cpus:Int
 devs:List Int
def aN (w:World) (x:RV):Rn:=⟨x.pod,x.cont,x.cpus,bj w x⟩
def gA (w:World) (x:RV):Prop:=bB w x/\(0<x.dn->∃g arr z,x.da=some ⟨g,0,none⟩/\w.heap[g]?=some (.cells arr 3 z))
def dY (w w':World):Prop:=w.heap.size<=w'.heap.size/\∀(k:Nat) (arr:Array Value) (z:Nat × Nat),w.heap[k]?=some (Obj.cells arr 3 z)->w'.heap[k]?=w.heap[k]?
theorem dY.trans(h:dY a b)(k:dY b c):dY a c:=⟨Q5 h.1 k.1,λi d z hi=>by
 have e:=h.2 i d z hi;rw[hi] at e;exact (k.2 i d z e).trans (e.trans hi.symm)⟩
theorem dY.below(h:Bw w w'):dY w w':=⟨h.size,λk _ _ a=>h.block k (gS a).1⟩
theorem dY.grown{b:Nat}(h:w.grownBy w' (some b))(d:∀(a:Array Value) (z:Nat × Nat),w.heap[b]?≠some (Obj.cells a 3 z)):dY w w':=
 ⟨h.size,λk a z c=>h.block k (gS c).1 (λe=>by grind)⟩
theorem gA.kept(h:gA w x)(f:dY w w'):gA w' x/\bj w' x=bj w x:=by
 by_cases c:0<x.dn
 ·obtain⟨g,b,z,j,i⟩:=h.2 c;have k:=f.2 g b z i;obtain⟨a,d⟩:=rZ (w':=w') h.1 (λl m e _=>by grind) f.1;exact⟨⟨a,λ_=>⟨g,b,z,j,k.trans i⟩⟩,d⟩
 ·obtain⟨a,d⟩:bB w' x/\bj w' x=bj w x:=⟨λa=>absurd a c,by grind[bj]⟩;exact⟨⟨a,λa=>absurd a c⟩,d⟩
def iW (l:List Int):List Value:=l.map (Value.int .i64)
theorem KT:(prog.info? 3).map (λi=>(i.zero,i.size,i.bytes))=some (some (.int .i64 0),1,8):=by kernel_rfl
theorem BO(a:Option Addr)(n c:Nat)(w:World):Sem.run prog (binOp BinOp.eql 46 (.slice a n c) ()) w=.ok a.isNone w:=Lib.run_eql_slice_nil w _ _ a n c 0 0 underlying46
theorem KU(w:World)(x:RV):(bj w x).length=x.dn:=by simp[bj]
def lA (K:Nat) (x:RV):Prop:=0<x.dn->∃g,x.da=some ⟨g,0,none⟩/\K<=g
theorem KV{v:Value}{x:RV}{l:List Int}(j:l.length=x.dn)(h:w.ownsRow base 3 1 v l.length (iW l)):∃a c,v=.slice a x.dn c/\gA w { x with da:=a,dc:=c }/\bj w { x with da:=a,dc:=c }=l/\lA base { x with da:=a,dc:=c }:=by
 rcases h.2 with⟨f,s⟩|⟨g,d,e,f,p,n,Hc,Hb,_,q⟩
 ·have o:x.dn=0:=by omega
  refine⟨none,0,by rw[f,o],⟨λb=>?_,λb=>?_⟩,?_,λb=>?_⟩
  ·simp only at b;omega
  ·simp only at b;omega
  ·grind[bj]
  ·simp only at b;omega
 ·have Ha:g<w:=(gS n).1;have r:∀k,k<x.dn->w.cell? ⟨g,k,none⟩=some (.int .i64 (l.getD k 0)):=λk m=>by
   have i:(iW l)[k]?=some (.int .i64 (l.getD k 0)):=by
    grind[iW]
   rw[<- q,List.getElem?_take] at i
   split at i
   ·simp_all[World.cell?]
   ·cases i
  have hd:∀k,k<x.dn->mr w { x with da:=some ⟨g,0,none⟩,dc:=d } k=l.getD k 0:=λk m=>by
   simp_all[mr,Addr.add_lit]
  refine⟨some ⟨g,0,none⟩,d,by rw[f,j],⟨λ_=>⟨g,0,rfl,Ha,λk m=>?_⟩,λ_=>⟨g,e,_,rfl,n⟩⟩,?_,λ_=>⟨g,rfl,p⟩⟩
  ·grind
  ·unfold bj;apply List.ext_getElem
   ·simp[j]
   ·grind
theorem KW(a:Addr)(c:Nat){l:List Int}(w:World)(d:∀j u,(iW l)[j]?=some u->w.cell? (a.add j)=some u)(p:l.length<=1000) :
  Calls pg 66 #[.slice (some a) l.length c] w λe w'=>∃v,e=.returned v/\w'.ownsRow w 3 1 v l.length (iW l)/\Bw w w':=by
 obtain⟨i0,hi,Hf,Hg,Hh⟩:=info_parts KT;have g:∀u∈iW l,u.oneCell'=true:=by
  intro u f
  simp[iW] at f
  obtain⟨n,_,rfl⟩:=f;rfl
 have h:=qI ((Q0 w w).alloc (lR) (.cells #[] 3));have i:Hu (∀j u,(iW l)[j]?=some u->(w.alloc (.cells #[] 3)).cell? (a.add j)=some u):=λj u b=>Lib.cell?_alloc_some _ (d j u b)
 have Hi:=BO (some a) l.length c w;have Hc:(iW l).length=l.length:=by simp[iW]
 clear d
 go_enter func66,ntmps66
 go_wp2_with (at_builtin;(refine wpList_append_own _ rfl _ _ 46 rfl w 3 i0 (0:Int) 1 8 underlying46 hi Hf Hg Hh rfl (by decide) _ _ _ rfl (World.ownsRow_lit w #[] 0 (lR) (Nat.zero_le _) rfl) a l.length c (iW l) rfl (by rw[Hc,Nat.mul_one]) i g (by unfold maxLen;omega) (by omega) (by simp) ?_);intro o m Hb Ha _)
 have He:=qI (h.o.grown Ha (by simp) (λj b=>by cases b;exact lR));rw[Qd] at Hb;have k:Hu (m.ownsRow w 3 1 o l.length (iW l)):=by simpa[Hu] using Hb
 clear Hb Ha
 go_wp2
 go_ret;exact⟨_,rfl,k,He⟩
theorem KX{x:RV}{w:World}(h:bB w x)(q:x.dn<=1000) :
  Calls pg 66 #[.slice x.da x.dn x.dc] w λe w'=>∃a c,e=.returned (.slice a x.dn c)/\gA w' { x with da:=a,dc:=c }/\bj w' { x with da:=a,dc:=c }=bj w x/\lA w { x with da:=a,dc:=c }/\Bw w w':=by
 have Ha:=KU w x
 rcases hda:x.da with _|a
 ·have i:x.dn=0:=by
   rcases Nat.eq_zero_or_pos x.dn with e|e
   ·exact e
   ·obtain⟨g,o,d,_⟩:=h e;rw[hda] at d;cases d
  have He:=BO none 0 x.dc w;rw[i]
  go_enter func66,ntmps66
  go_wp2
  go_ret;exact⟨none,0,rfl,⟨λb=>by simp only at b;omega,λb=>by simp only at b;omega⟩,by simp[bj,i],λb=>by simp only at b;omega,Q0 _ _⟩
 ·have f:=KW a x.dc (l:=bj w x) w (λj u p=>by
   have Hb:j<x.dn:=by
    grind[iW]
   obtain⟨g,o,d,_,Hc⟩:=h (by omega);rw[hda] at d;cases d;rw[Addr.add_lit,Hc j Hb,<- p]
   simp[iW,bj,Hb]) (by omega)
  rw[Ha] at f;refine f.mono λe w' ⟨v,he,ho,hb⟩=>?_
  obtain⟨l,m,rfl,b,n,k⟩:=KV (x:=x) Ha (by rw[Ha];exact ho);exact⟨l,m,he,b,n,k,hb⟩
theorem r9(W:World)(b j:Nat)(v:Value):W.grownBy (W.setCell ⟨b,j,none⟩ v) (some b):=
 ⟨rfl,rfl,rfl,by simp,λk _ a=>Below.heap_setCell _ _ _ k λe=>a (by rw[e])⟩
theorem cz.set0{x:RV}(h:cz W B x)(s:ByteArray):cz (W.setCell B s) B { x with pod:=s }:=by
 obtain⟨b,a⟩:=gS h
 show (W.heap.modify B _)[B]?=_
 rw[Array.getElem?_eq_getElem (by grind),Array.getElem_modify_self,a];rfl
theorem cz.set1{x:RV}(h:cz W B x)(s:ByteArray):cz (W.setCell ⟨B,1,none⟩ s) B { x with cont:=s }:=by
 obtain⟨b,a⟩:=gS h
 show (W.heap.modify B _)[B]?=_
 rw[Array.getElem?_eq_getElem (by grind),Array.getElem_modify_self,a];rfl
theorem cz.set2{x:RV}(h:cz W B x)(n:Int):cz (W.setCell ⟨B,2,none⟩ (.int .u64 n)) B { x with cpus:=n }:=by
 obtain⟨b,a⟩:=gS h
 show (W.heap.modify B _)[B]?=_
 rw[Array.getElem?_eq_getElem (by grind),Array.getElem_modify_self,a];rfl
theorem cz.set3{x:RV}(h:cz W B x)(a:Option Addr)(n c:Nat):cz (W.setCell ⟨B,3,none⟩ (.slice a n c)) B { x with da:=a,dn:=n,dc:=c }:=by
 obtain⟨d,b⟩:=gS h
 show (W.heap.modify B _)[B]?=_
 rw[Array.getElem?_eq_getElem (by grind),Array.getElem_modify_self,b];rfl
theorem cz.frozen(h:cz W B x)(j:Nat):W.frozen? ⟨B,j,none⟩=false:=by simp[World.frozen?,show W.heap[B]?=_ from h]
theorem cz.far(h:cz W B x)(g j:Nat)(v:Value)(a:B≠g):cz (W.setCell ⟨g,j,none⟩ v) B x:=(Below.heap_setCell W ⟨g,j,none⟩ v B a).trans h
theorem cz.notInt(h:cz W B x):∀(a:Array Value) (z:Nat × Nat),W.heap[B]?≠some (Obj.cells a 3 z):=λa z e=>by
 have:=(show W.heap[B]?=_ from h).symm.trans e
 simp at this
theorem KY{fn:Func}{p:Tmp}{b:TypeId}(h:fn.results=#[.cell p b])(tmps:Array Value)(P:Program)(w:World) :
  (results fn tmps).run P w=((asAddr (tmps.getD p undef)).run P w).andThen λa c=>(loadVar b a).run P c:=by
 simp_all[results]
def fill (W:World) (B:Nat) (x:RV):World:=(((W.setCell B x.pod).setCell ⟨B,1,none⟩ x.cont).setCell ⟨B,2,none⟩ (.int .u64 x.cpus)).setCell ⟨B,3,none⟩ (.slice x.da x.dn x.dc)
theorem cz.fill(h:cz W B z)(x:RV):cz (fill W B x) B x:=(((h.set0 x.pod).set1 x.cont).set2 x.cpus).set3 x.da x.dn x.dc
theorem dY.fill(h:cz W B z)(x:RV):dY W (fill W B x):=by
 have a:=h.set0 x.pod;have b:=a.set1 x.cont;have c:=b.set2 x.cpus;exact (((dY.grown (r9 W B 0 _) h.notInt).trans (dY.grown (r9 _ B 1 _) a.notInt)).trans (dY.grown (r9 _ B 2 _) b.notInt)).trans (dY.grown (r9 _ B 3 _) c.notInt)
theorem KZ(h:Below K w W)(a:K<=B)(x:RV):Below K w (fill W B x):=
 (((h.setCell (p:=B) a _).setCell (p:=⟨B,1,none⟩) a _).setCell (p:=⟨B,2,none⟩) a _).setCell (p:=⟨B,3,none⟩) a _
abbrev wY:=(.cells #[.string ⟨#[]⟩,.string ⟨#[]⟩,.int .u64 0,.slice none 0 0] 129:Obj)
theorem BP{x:RV}{w:World}(h:bB w x)(E:x.dn<=1000) :
  Calls pg 88 #[.agg #[x.pod,x.cont,.int .u64 x.cpus,.slice x.da x.dn x.dc]] w λe w'=>∃a c,e=.returned (.agg #[x.pod,x.cont,.int .u64 x.cpus,.slice a x.dn c])/\gA w' { x with da:=a,dc:=c }/\bj w' { x with da:=a,dc:=c }=bj w x/\lA w { x with da:=a,dc:=c }/\Bw w w':=by
 have Hf:=(Q0 w w).alloc (lR) (jm x);have Hh:=Hf.alloc Hf.size (wY);have Hc:=qI Hh;have f:=qI ((cz.made w x).alloc (wY));have d:=cz.made (w.alloc (jm x)) ⟨⟨#[]⟩,⟨#[]⟩,0,none,0,0⟩;rw[World.size_alloc] at d;have i:=qI d;obtain⟨Hj,Hr⟩:=h.below Hh λ_ _ _ t=>t;have Hl:=qI (KX Hj E);have l:=qI Hr;clear Hf Hh d Hj Hr
 go_enter func88,ntmps88
 go_wp2
 generalize (w.alloc (jm x)).alloc (wY)=J at *;refine Hl.o.mono ?_;rintro e b ⟨a,c,rfl,k,Hw,Hy,He⟩;have Hp:=qI (show lA w { x with da:=a,dc:=c } from λu=>by
  obtain⟨g,q,y⟩:=Hy u;exact⟨g,q,Q5 Hc.o.size y⟩)
 have Hb:=f.o.below He;have Hv:=i.o.below He;have Hm:=Hc.t He;have Hs:=qI k;have Hz:=qI (Hw.trans l);have A:=Hb.cells;obtain⟨c0,c1,c2,c3⟩:=A;have f3:=Hb.frozen 3;have Hg:=Hb.set3 a x.dn c;have Ha:=Hv.far w 3 (.slice a x.dn c) (by omega);have Hn:=qI (dY.grown (r9 b w 3 (.slice a x.dn c)) Hb.notInt);have Hx:=qI (Hm.o.setCell (p:=⟨w,3,none⟩) (lR) (.slice a x.dn c));clear Hw k He Hy f i Hl l Hb Hv;obtain⟨C,n,s,D⟩:=Hg.cells;obtain⟨z0,z1,z2,z3⟩:=Ha.cells;have r:=Ha.frozen 0;have g1:=Ha.frozen 1;have z:=Ha.frozen 2;have g3:=Ha.frozen 3;have o:=qI Hg;have Hi:=qI Ha;clear Hg Ha
 go_wp2
 clear c0 c1 c2 c3 C n s D z0 z1 z2 z3 r g1 z g3 f3;have j:=Hi.o.fill { x with da:=a,dc:=c };have Ho:=qI (dY.fill Hi { x with da:=a,dc:=c });have Hk:=qI (KZ Hx (B:=w.heap.size+1) (by omega) { x with da:=a,dc:=c });obtain⟨F,I,K,G⟩:=j.cells;have m:Hu (fill (b.setCell ⟨w,3,none⟩ (.slice a x.dn c)) (w.heap.size+1) { x with da:=a,dc:=c }=((((b.setCell ⟨w,3,none⟩ (.slice a x.dn c)).setCell (w.heap.size+1:Nat) x.pod).setCell ⟨w.heap.size+1,1,none⟩ x.cont).setCell ⟨w.heap.size+1,2,none⟩ (.int .u64 x.cpus)).setCell ⟨w.heap.size+1,3,none⟩ (.slice a x.dn c)):=rfl;rw[<- m.o];clear j;generalize fill (b.setCell ⟨w,3,none⟩ (.slice a x.dn c)) (w.heap.size+1) { x with da:=a,dc:=c }=H at *;obtain⟨Hq,Ht⟩:=Hs.o.kept (Hn.o.trans Ho);refine bodyPost_ret (v:=.agg #[x.pod,x.cont,.int .u64 x.cpus,.slice a x.dn c]) ?_ rfl ⟨a,c,rfl,Hq,Ht.trans Hz,Hp,Hk⟩;rw[KY rfl];clear Hq Ht Hs Hp Hz Hk Ho Hn m Hi o Hx Hm Hc;go_simp
def fU (w:World) (Be Bd Bm:Nat):Prop:=w.heap[Be]?=some (.cells #[Bd,.map Bm] 151 (0,0))
theorem fU.lt(h:fU w Be Bd Bm):Be<w:=(gS h).1
theorem fU.cells(h:fU w Be Bd Bm):w.cell? Be=some (.pointer (some ⟨Bd,0,none⟩))/\w.cell? ⟨Be,1,none⟩=some (.map Bm):=by
 refine⟨?_,?_⟩ <;> simp[World.cell?,show w.heap[Be]?=_ from h]
theorem fU.block(h:fU w Be Bd Bm)(a:w'.heap[Be]?=w.heap[Be]?):fU w' Be Bd Bm:=a.trans h
def fD (W:World) (g o:Nat) (x:RV):World:=(((W.setCell ⟨g,o,none⟩ x.pod).setCell ⟨g,o+1,none⟩ x.cont).setCell ⟨g,o+2,none⟩ (.int .u64 x.cpus)).setCell ⟨g,o+3,none⟩ (.slice x.da x.dn x.dc)
theorem uw{W:World}{g o:Nat}{x:RV}{b p:Nat}(h:b≠g\/p<o\/o+3<p):(fD W g o x).cell? ⟨b,p,none⟩=W.cell? ⟨b,p,none⟩:=by
 unfold fD;rw[Qb _ _ _ _ (by simp;omega),Qb _ _ _ _ (by simp;omega),Qb _ _ _ _ (by simp;omega),Qb _ _ _ _ (by simp;omega)]
theorem nA(W:World)(g o:Nat)(x:RV)(a:Addr):(fD W g o x).frozen? a=W.frozen? a:=by
 grind[fD,World.frozen?_setCell]
def jQ (w:World) (g:Nat) (ys:List RV):Prop:=∀k,k<ys.length->jP w g k (rv ys k)
theorem K0(h:jP W g k z)(x:RV):jP (fD W g (k*4) x) g k x:=by
 obtain⟨⟨c0,c1,c2,c3⟩,f0,f1,f2,f3⟩:=h;refine⟨⟨?_,?_,?_,?_⟩,by grind[nA],by grind[nA],by grind[nA],by grind[nA]⟩
 ·simp_all[fD,Qb,World.cell?_setCell_same']
 ·simp_all[fD,Qb,World.cell?_setCell_same']
 ·simp_all[fD,Qb,World.cell?_setCell_same']
 ·simp_all[fD,World.cell?_setCell_same',Qb]
theorem wZ(a:List RV)(k j:Nat)(x:RV)(b:k<a.length):rv (a.set k x) j=if j=k then x else rv a j:=by grind[rv]
theorem jQ.set(h:jQ W g ys)(a:k<ys.length)(x:RV):jQ (fD W g (k*4) x) g (ys.set k x):=λj b=>by
 rw[wZ ys k j x a]
 by_cases e:j=k
 ·subst e;rw[if_pos rfl];exact K0 (h j a) x
 ·rw[if_neg e];obtain⟨⟨c0,c1,c2,c3⟩,f0,f1,f2,f3⟩:=h j (by simpa using b);exact⟨⟨(uw (by omega)).trans c0,(uw (by omega)).trans c1,(uw (by omega)).trans c2,(uw (by omega)).trans c3⟩,by grind[nA],by grind[nA],by grind[nA],by grind[nA]⟩
theorem jQ.block{W':World}(h:jQ W g ys)(b:W'.heap[g]?=W.heap[g]?):jQ W' g ys:=λk c=>by
 obtain⟨⟨c0,c1,c2,c3⟩,f0,f1,f2,f3⟩:=h k c;exact⟨⟨(World.cell?_of_block (a:=⟨g,k*4,none⟩) b).trans c0,(World.cell?_of_block (a:=⟨g,k*4+1,none⟩) b).trans c1,(World.cell?_of_block (a:=⟨g,k*4+2,none⟩) b).trans c2,(World.cell?_of_block (a:=⟨g,k*4+3,none⟩) b).trans c3⟩,(World.frozen?_of_block (a:=⟨g,k*4,none⟩) b).trans f0,(World.frozen?_of_block (a:=⟨g,k*4+1,none⟩) b).trans f1,(World.frozen?_of_block (a:=⟨g,k*4+2,none⟩) b).trans f2,(World.frozen?_of_block (a:=⟨g,k*4+3,none⟩) b).trans f3⟩
theorem K1(h:Below K w W)(a:K<=g)(o:Nat)(x:RV):Below K w (fD W g o x):=
 (((h.setCell (p:=⟨g,o,none⟩) a _).setCell (p:=⟨g,o+1,none⟩) a _).setCell (p:=⟨g,o+2,none⟩) a _).setCell (p:=⟨g,o+3,none⟩) a _
theorem K2(W:World)(g o:Nat)(x:RV)(b:Nat)(h:b≠g):(fD W g o x).heap[b]?=W.heap[b]?:=by
 grind[fD,Below.heap_setCell]
def nB (g:Nat) (y:RV):Prop:=0<y.dn->∀g' o',y.da=some ⟨g',o',none⟩->g'≠g
theorem o8(h:k<ys.length):rv ys k∈ys:=by simp[rv,h]
theorem K6(a:ys.length=qs.length)(h:∀j,j<qs.length->(rv ys j).pod=(rv qs j).pod/\(rv ys j).cont=(rv qs j).cont)(b:o7 qs):o7 ys:=by
 simp_all[o7,List.pairwise_iff_getElem,rv,cfR]
theorem xd{y:RV}(h:bB w y)(i:nB g y)(d:∀b,b≠g->b<w.heap.size->w'.heap[b]?=w.heap[b]?)(hs:w<=w'.heap.size):bB w' y/\bj w' y=bj w y:=by
 by_cases a:0<y.dn
 ·exact rZ h (λc k e l=>d c (i a c k e) l) hs
 ·have j:y.dn=0:=by omega
  exact⟨λf=>absurd f a,by simp[bj,j]⟩
theorem K7(a:ys.length=qs.length)(h:∀j,j<qs.length->aN w' (rv ys j)=aN w (rv qs j)):ys.map (aN w')=qs.map (aN w):=by
 apply List.ext_getElem
 ·simp[a]
 ·simp_all[rv]
def K8 (w:World) (B:Nat) (l:Int) (d:Bool):Prop:=w.heap[B]?=some (.cells #[false,.string ⟨#[]⟩,false,.string ⟨#[]⟩,false,.string ⟨#[]⟩,false,.string ⟨#[]⟩,.slice none 0 0,l,d] 96 (0,0))
def K9 (l:Int) (d:Bool):Int:=if d=true\/l=0 then l else if 0<l then l - 1 else l
def La (l:Int) (d:Bool):Bool:=decide (d=true\/l=0)
section
open RowKit Go.Maps
theorem bI.look2(h:bI w B n xs)(a b:ByteArray)(i:a.size<=7000)(g:b.size<=7000) :
  ∃y:RV,∀W:World,W.heap[B]?=w.heap[B]?->(Instr.lookup 149 (.map B) (jG a b) true).run prog W=.ok (.tuple #[y.val,.bool (xs.any λx=>decide (x.pod=a/\x.cont=b))]) W:=by
 obtain⟨f,l,p⟩:=h.2;have key:∀W:World,W.heap[B]?=w.heap[B]?->∃y:RV,(Instr.lookup 149 (.map B) (jG a b) true).run prog W=.ok (.tuple #[y.val,.bool (xs.any λx=>decide (x.pod=a/\x.cont=b))]) W/\(DataW.map f).atKey (gu a b) (.held (RV.val ⟨ByteArray.empty,ByteArray.empty,0,none,0,0⟩))=.held y.val:=by
  intro W e;have Hc:W.ownsMap prog 179 oJ B n (.map f):=by
   obtain⟨j,c,m,r⟩:=l;exact⟨j,c,e.trans m,r⟩
  obtain⟨v,q,Ha,o⟩:=Hc.look_ok oK underlying149 (IW W) (wo _) (rG a b (ln i) (ln g));obtain⟨y,rfl,d⟩:=At o;refine⟨y,by rw[<- h.has p i g];exact Ha,?_⟩;exact congrArg Prod.fst d
 obtain⟨y,_,d⟩:=key w rfl;refine⟨y,λW e=>?_⟩;obtain⟨k,Hb,He⟩:=key W e;rw[He] at d
 have:k=y:=RV.val_inj (by simpa using d)
 rw[this] at Hb;exact Hb
theorem Lb(a:Nat)(w:World):Calls pg 27 #[.pointer (some ⟨a,0,none⟩)] w λe w'=>e=.returned (w.heap.size+1:Nat)/\fU w' (w.heap.size+1) a w/\bI w' w 0 []/\Bw w w'/\w'=w.heap.size+2:=by
 have Ha:=@run_makeMap prog;have c:=qI ((bI.made w).block (w':=(w.alloc (.map #[] 0)).alloc (.cells #[a,.map w] 151)) (Below.heap_alloc _ _ _ (by simp)));have b:=World.alloc_heap_new (w.alloc (.map #[] 0)) (.cells #[a,.map w] 151);rw[World.size_alloc] at b;have d:=qI b;clear b
 go_enter func27,ntmps27
 go_wp2
 go_ret;exact⟨by simp,d,c,((Q0 _ _).alloc (lR) _).alloc (by simp) _,by simp⟩
structure bL (B1 B2:Nat) (w w':World):Prop where
 os:w'.os=w.os
 tape:w'.tape=w.tape
 output:w'.output=w.output
 size:w<=w'.heap.size
 block:∀k,k<w.heap.size->k≠B1->k≠B2->w'.heap[k]?=w.heap[k]?
theorem bL.refl(B1 B2:Nat)(w:World):bL B1 B2 w w:=⟨rfl,rfl,rfl,lR,λ_ _ _ _=>rfl⟩
theorem bL.trans(h:bL B1 B2 a b)(k:bL B1 B2 b c):bL B1 B2 a c:=
 ⟨k.os.trans h.os,k.tape.trans h.tape,k.output.trans h.output,Q5 h.size k.size,λi hi d e=>(k.block i (Q1 hi h.size) d e).trans (h.block i hi d e)⟩
theorem bL.of_below(h:Bw w w'):bL B1 B2 w w':=⟨h.os,h.tape,h.output,h.size,λk a _ _=>h.block k a⟩
theorem bL.of_grown{b:Nat}(h:w.grownBy w' (some b))(c:b=B1\/b=B2):bL B1 B2 w w':=⟨h.os,h.tape,h.output,h.size,λk a d f=>h.block k a (λe=>by grind)⟩
theorem bL.kint(h:bL B1 B2 w w')(c:∀(a:Array Value) (z:Nat × Nat),w.heap[B1]?≠some (Obj.cells a 3 z))(d:∀(a:Array Value) (z:Nat × Nat),w.heap[B2]?≠some (Obj.cells a 3 z)):dY w w':=
 ⟨h.size,λk a z b=>h.block k (gS b).1 (λe=>by grind) (λe=>by grind)⟩
theorem bI.isMap(h:bI w B n xs):∃b a,w.heap[B]?=some (.map b a):=by
 obtain⟨_,b,⟨c,a,d,_⟩,_⟩:=h;exact⟨c,a,d⟩
theorem bI.notInt(h:bI w B n xs):∀(a:Array Value) (z:Nat × Nat),w.heap[B]?≠some (Obj.cells a 3 z):=λa z e=>by
 obtain⟨d,b,c⟩:=h.isMap;rw[c] at e;cases e
structure Started (w w':World) (Bd Bm n:Nat) (xs:List RV) (x:RV) (l:Int) (d:Bool) (f:Nat):Prop where
 disk:K8 w' Bd (K9 l d) (La l d)
 o:bL Bd Bm w w'
 no:f≠0->bI w' Bm n xs
 yes:f=0->∃a c,bI w' Bm (n+1) ({ x with da:=a,dc:=c } :: xs)/\gA w' { x with da:=a,dc:=c }/\bj w' { x with da:=a,dc:=c }=bj w x
theorem o9{row:Option Nat}(c:w.grownBy w' row)(a:Addr)(h:a.block<w)(b:some a.block≠row):w'.cell? a=w.cell? a:=Q6 (c.block _ h b)
theorem Lc{o:Oper}{a:Act}{N:Act->World->Prop}{Q:Exit->Act->World->Prop}{w:World}{m x v:Operand}(d:o.op=Op.mapUpdate 149 m x v)
  {B n:Nat} {b:List RV} (y:RV) (l:a.eval m=.map B) (p:a.eval x=.agg #[y.pod,y.cont]) (i:a.eval v=.agg #[y.pod,y.cont,.int .u64 y.cpus,.slice y.da y.dn y.dc]) (e:bI w B n b) (k:y.Short) (g:n<1000) (c:(b.any λz=>decide (z.pod=y.pod/\z.cont=y.cont))=false)
  (h:∀w',bI w' B (n+1) (y :: b)->w.grownBy w' (some B)->w'=w.heap.size->N (a.put o.dst undef) w') :
  o.wp prog a w N Q:=by
 obtain⟨w',Ha,r1,f,j⟩:=e.put y k g c;unfold jG RV.val at Ha;unfold Oper.wp
 simp[execOp,d,l,p,i,Ha,Result.andThen]
 exact h w' r1 f j
end
