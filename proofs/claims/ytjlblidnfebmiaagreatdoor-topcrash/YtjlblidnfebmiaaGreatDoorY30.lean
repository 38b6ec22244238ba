import Derived.Test.YtjlblidnfebmiaaGreatDoorY17
import Derived.Test.YtjlblidnfebmiaaGreatDoorY7
import Derived.Shelf.SlicesG.Cmp
import Derived.Ground.SlgcProg
import Derived.RangeFuncNested
import Derived.RangeFuncBound
import Derived.RangeFuncCalls
import Derived.RangeFuncLeaves
import Derived.RangeFuncBox
import Derived.Shelf.Abstract
import Derived.Shelf.RegionOpen
import Derived.OwnWalkIn
import Derived.TacticsInMore
import Derived.LoopNIn
import Derived.LoopIn
import Derived.Maps.OwnIn
import Derived.StringKeys
import Derived.Laws.EntriesVeiled
set_option maxRecDepth 100000
set_option maxHeartbeats 16000000
open Go Go.RowKit Go.Shelf
attribute [local go_sem] Oper.semAt_some
open Go.Proofs.Tryz
namespace Go.Proofs.YtjlblidnfebmiaaGreatDoor
end Go.Proofs.YtjlblidnfebmiaaGreatDoor
namespace Go.Proofs
open Go.Shelf
def Tryz.cmpL2_ren:Go.Shelf.Ren:=⟨fun|5=>153|7=>187|n=>n,fun|22=>3|3=>3|4=>4|n=>n,fun|n=>n⟩
theorem Tryz.cmpL2:Go.Proofs.SlLaysC2.n5 Tryz.prog Tryz.cmpL2_ren:=by
 constructor
 case f5=>exact⟨Tryz.f153.name,by decide,Tryz.func153.trans (congrArg some (by kernel_rfl))⟩
 case f7=>exact⟨Tryz.f187.name,by decide,Tryz.func187.trans (congrArg some (by kernel_rfl))⟩
 all_goals intros;kernel_rfl
end Go.Proofs
namespace Go.Proofs.YtjlblidnfebmiaaGreatDoor
variable{B K b fc mc n:Nat}{W W' w w':World}{l us:List ak}{u:ak}
theorem Gy(x:Int){w:World}:CE 154 #[x] w (ek x:Int):=by
 have a:Hu (ek x=if 0<x then 0 else 1):=rfl;generalize ek x=T at *
 by_cases h:0<x
 ·have b:=qI (a.o.trans (if_pos h));clear a
  go_enter func154,ntmps154
  go_wp2
  go_ret;exact⟨by rw[b.o];rfl,rfl⟩
 ·have b:=qI (a.o.trans (if_neg h));clear a
  go_enter func154,ntmps154
  go_wp2
  go_ret;exact⟨by rw[b.o];rfl,rfl⟩
theorem tw{x y:Int}{w:World}:CE 153 #[x,y] w (Lib.compareInt x y:Int):=by
 have h:=AnyG.cmp_Compare_int Tryz.cmpL2 x y w
 change Calls pg 153 _ _ _ at h
 exact h
theorem rj{x:ByteArray}{w:World}:CE 128 #[x] w false:=by
 go_enter func128,ntmps128
 go_wp2
 go_ret;exact⟨by simp,rfl⟩
theorem VN{x y:ByteArray}{w:World}:CE 87 #[x,y] w (bN x y:Int):=by
 have c:Hu (bN x y=if bJ x y=true then -1 else if bJ y x=true then 1 else 0):=rfl;have Ha:=qI (ut x y);have Hc:=qI (wS x y);generalize bN x y=T at *
 rcases two (bJ x y) with a|a
 ·have f:=qI (c.o.trans (if_pos a));have Hf:Op.bytesLess x.toList y.toList=true:=a;clear c a Ha Hc
  go_enter func87,ntmps87
  go_wp2
  refine (rj).e ?_
  go_wp2
  refine (rj).e ?_
  go_wp2
  go_ret;exact⟨by rw[f.o];rfl,rfl⟩
 ·have Hb:=qI (c.o.trans (if_neg (by rw[a];decide)));have Hf:Op.bytesLess x.toList y.toList=false:=a
  rcases two (bJ y x) with b|b
  ·have f:=qI (Hb.o.trans (if_pos b));have Hg:(x.toList == y.toList)=false:=by
    grind[sK]
   clear c Hb a b Ha Hc
   go_enter func87,ntmps87
   go_wp2
   refine (rj).e ?_
   go_wp2
   refine (rj).e ?_
   go_wp2
   go_ret;exact⟨by rw[f.o];rfl,rfl⟩
  ·have f:=qI (Hb.o.trans (if_neg (by rw[b];decide)));have He:=Ha.o (by rw[a];rfl) (by rw[b];rfl);subst He;clear c Hb a b Ha Hc
   go_enter func87,ntmps87
   go_wp2
   refine (rj).e ?_
   go_wp2
   refine (rj).e ?_
   go_wp2
   go_ret;exact⟨by rw[f.o];rfl,rfl⟩
def or4 (a b c d:Int):Int:=dO a (dO b (dO c d))
theorem VO{a b c d:Int}{g n:Nat}{w:World}(f:w.cell? g=some (.int .i64 a))(p:w.cell? ⟨g,1,none⟩=some (.int .i64 b))(q:w.cell? ⟨g,2,none⟩=some (.int .i64 c))(o:w.cell? ⟨g,3,none⟩=some (.int .i64 d)) :
  CE 86 #[.slice g 4 n] w (or4 a b c d:Int):=by
 have t:Hu (∀k:Nat,k<4->∃v:Int,cl w g k (v:Int)/\(v=if k=0 then a else if k=1 then b else if k=2 then c else d)):=by
  intro k u
  have:k=0\/k=1\/k=2\/k=3:=by omega
  rcases this with rfl|rfl|rfl|rfl
  ·exact⟨a,f,rfl⟩
  ·exact⟨b,p,rfl⟩
  ·exact⟨c,q,rfl⟩
  ·exact⟨d,o,rfl⟩
 clear f p q o
 go_enter func86,ntmps86
 go_wp2
 go_loop [8] (λi=>∃k:Nat,k<=4/\i=.int .i64 k/\Hu ((0<k->a=0)/\(1<k->b=0)/\(2<k->c=0)/\(3<k->d=0))) (λi=>4 - (intOf i).toNat)
 exact⟨0,by omega,rfl,⟨λh=>by omega,λh=>by omega,λh=>by omega,λh=>by omega⟩⟩
 ·obtain⟨k,u,rfl,s⟩:=hrel
  by_cases l:k<4
  ·obtain⟨v,x,m⟩:=t.o k l;have r:=qI m;clear m
   by_cases f:v=0
   ·subst f;have Hb:Hu ((0<k+1->a=0)/\(1<k+1->b=0)/\(2<k+1->c=0)/\(3<k+1->d=0)):=by
     obtain⟨z0,z1,z2,z3⟩:=s.o;have m:=r.o
     have:k=0\/k=1\/k=2\/k=3:=by omega
     rcases this with rfl|rfl|rfl|rfl
     ·grind
     ·grind
     ·grind
     ·grind
    go_wp2
    go_round
    exact⟨k+1,by omega,by go_num,Hb⟩
    simp[intOf];omega
   ·have j:Hu (or4 a b c d=v):=by
     grind[Hu,or4,dO]
    have y:(v != 0)=true:=by simp[f]
    go_wp2
    go_ret;exact⟨by rw[j.o];rfl,rfl⟩
  ·have Ha:k=4:=by omega
   subst Ha;have j:Hu (or4 a b c d=0):=by
    grind[or4,dO]
   go_wp2
   go_ret;exact⟨by rw[j.o];rfl,rfl⟩
theorem VP(p:aj){cv:Value}{w:World}(h:ba w cv p.cs)(g:iy p.cs):Calls pg 41 #[cQ p cv] w λe w'=>e=.returned (.agg #[(de p.cs p.cs.length:Int),(cV p.cs p.cs.length:Int)])/\Bw w w'/\w'.drawn=w.drawn:=by
 obtain⟨l,c,rfl,A,t⟩:=h;have u:=qI t;clear t A;unfold cQ;have Hj:=qI ((((Q0 w w).alloc (lR) (.cells #[p.nm,(p.pr:Int),.slice l p.cs.length c] 49)).alloc (by simp) (.cells #[(0:Int),(0:Int)] 62)).alloc (by simp;omega) (.cells #[(0:Int),(0:Int)] 62));have Hg:Hu (cI (((w.alloc (.cells #[p.nm,(p.pr:Int),.slice l p.cs.length c] 49)).alloc (.cells #[(0:Int),(0:Int)] 62)).alloc (.cells #[(0:Int),(0:Int)] 62)) (w.heap.size+1) 0 0/\cI (((w.alloc (.cells #[p.nm,(p.pr:Int),.slice l p.cs.length c] 49)).alloc (.cells #[(0:Int),(0:Int)] 62)).alloc (.cells #[(0:Int),(0:Int)] 62)) (w.heap.size+1+1) 0 0):=by
  constructor
  ·have:=(cI.made (w.alloc (.cells #[p.nm,(p.pr:Int),.slice l p.cs.length c] 49)) 62 0 0).alloc (.cells #[(0:Int),(0:Int)] 62)
   simpa using this
  ·have:=cI.made ((w.alloc (.cells #[p.nm,(p.pr:Int),.slice l p.cs.length c] 49)).alloc (.cells #[(0:Int),(0:Int)] 62)) 62 0 0
   simpa using this
 generalize p.cs=cs at *;have Hi:=qI g;have Hy:=g.1;clear g
 go_enter func41,ntmps41
 go_wp2
 go_loopw [9] (λi wr=>∃k:Nat,k<=cs.length/\i=.int .i64 k/\Bw w wr/\cI wr (w.heap.size+1) 0 0/\cI wr (w.heap.size+1+1) (de cs k) (cV cs k)/\Hu (wr.drawn=w.drawn)) (λi _=>cs.length - (intOf i).toNat)
 exact⟨0,by omega,rfl,Hj,Hg.o.1,Hg.o.2,rfl⟩
 ·obtain⟨k,q,rfl,f,Hf,Hh,Hn⟩:=hrel
  by_cases j:k<cs.length
  ·obtain⟨b,o,dv,rfl,Ha⟩:=u.o (by omega);have Ha:=Ha.below f;obtain⟨c0,c1,c2,c3,c4,c5⟩:=Ha.at j;have Ht:∃a n e,dv k=.slice a n e:=by
    obtain⟨a,e,y,_⟩:=(Ha.2 k j).2;exact⟨a,_,e,y⟩
   have He:=qI (f.alloc f.size (.cells #[(af cs k).nm,((af cs k).am:Int),((af cs k).ab:Int),((af cs k).cm:Int),((af cs k).cb:Int),dv k] 65));have Hl:=Hf.alloc (.cells #[(af cs k).nm,((af cs k).am:Int),((af cs k).ab:Int),((af cs k).cm:Int),((af cs k).cb:Int),dv k] 65);have Hc:=Hh.alloc (.cells #[(af cs k).nm,((af cs k).am:Int),((af cs k).ab:Int),((af cs k).cm:Int),((af cs k).cb:Int),dv k] 65);have Hb:=lG.made wr (af cs k) (dv k);have Hm:Hu ((wr.alloc (.cells #[(af cs k).nm,((af cs k).am:Int),((af cs k).ab:Int),((af cs k).cm:Int),((af cs k).cb:Int),dv k] 65)).drawn=w.drawn):=Hn.o;have Hs:Hu (de cs (k+1)=de cs k+(af cs k).am):=rfl;have Hq:Hu (cV cs (k+1)=cV cs k+(af cs k).ab):=rfl;obtain⟨m1,m2,_⟩:=Hi.o.2 k j;obtain⟨s1,s2⟩:=qr Hi q;obtain⟨s3,B⟩:=oY Hi q;have Hw:=Hh.lt;clear Ha f Hj Hg;generalize de cs k=M at *;generalize cV cs k=N at *;generalize af cs k=x at *;generalize dv k=d at *;obtain⟨da,dn,dc,rfl⟩:=Ht;generalize hW1:wr.alloc (.cells #[x.nm,(x.am:Int),(x.ab:Int),(x.cm:Int),(x.cb:Int),.slice da dn dc] 65)=z at Hl Hc He Hb Hm;have D:wrap64 (M+x.am)=M+x.am:=by unfold wrap64;omega
   have E:wrap64 (N+x.ab)=N+x.ab:=by unfold wrap64;omega
   have Ho:=qI (dD z ⟨w.heap.size+1+1,0,none⟩ (M+x.am:Int));have Hz:=qI (Hl.kept Ho (by simp));have Hk:=qI (Hc.set0 (M+x.am));have C:=(Ho.o.cell_far ⟨wr,2,none⟩ Hb.1 (by simp;omega)).trans Hb.2.2.2.1;obtain⟨⟨f1,f2⟩,⟨f3,s⟩⟩:=Hc;obtain⟨⟨g1,r⟩,⟨g3,g4⟩⟩:=Hk.o;obtain⟨_,_,b1,_⟩:=Hb
   go_wp2
   have m:=He.o.size;have Hv:=jW He (w.heap.size+1+1) 0 (M+x.am:Int) (by omega) m;refine⟨⟨k+1,by omega,by go_num,jW Hv (w.heap.size+1+1) 1 (N+x.ab:Int) (by omega) (by simpa using m),Hz.o.kept (dD _ ⟨w.heap.size+1+1,1,none⟩ (N+x.ab:Int)) (by simp),?_,Hm⟩,by simp[intOf];omega⟩;rw[Hs.o,Hq.o];exact Hk.o.set1 _
  ·have Hx:k=cs.length:=by omega
   subst Hx;have m:=f.size;have Hr:=qI (jW (jW f (w.heap.size+1) 0 (de cs cs.length:Int) (by omega) m) (w.heap.size+1) 1 (cV cs cs.length:Int) (by omega) (by simpa using m));have Hp:=qI ((Hf.set0 (de cs cs.length)).set1 (cV cs cs.length));obtain⟨⟨f1,f2⟩,⟨f3,s⟩⟩:=Hf;obtain⟨⟨g1,r⟩,⟨g3,g4⟩⟩:=Hh;clear f
   go_wp2
   (try simp only[Exit.inBlock,Exit.then]);refine bodyPost_ret (v:=.agg #[(de cs cs.length:Int),(cV cs cs.length:Int)]) ?_ rfl ⟨rfl,Hr,Hn⟩;obtain⟨⟨g1,r⟩,⟨g3,g4⟩⟩:=Hp.o;rw[uS rfl];clear f1 f2 f3 s;go_simp
def KpB (b Bs:Nat) (W W':World):Prop:=W'.heap[b]?=W.heap[b]?/\W'.heap[Bs]?=W.heap[Bs]?
theorem KpB.refl(b a:Nat)(W:World):KpB b a W W:=⟨rfl,rfl⟩
theorem KpB.trans{a:Nat}{A B C:World}(h:KpB b a A B)(k:KpB b a B C):KpB b a A C:=⟨k.1.trans h.1,k.2.trans h.2⟩
theorem cell_of_block{a:Addr}(h:W'.heap[a.block]?=W.heap[a.block]?):W'.cell? a=W.cell? a:=by
 grind[World.cell?]
def rk (W:World) (b o:Nat) (qs:List aj) (cv:Nat->Value):Prop:=
 ∀k,k<qs.length->W.cell? ⟨b,o+k*3,none⟩=some (.string (aS qs k).nm)/\W.cell? ⟨b,o+k*3+1,none⟩=some (.int .i64 (aS qs k).pr)/\W.cell? ⟨b,o+k*3+2,none⟩=some (cv k)
theorem rk.kept{o:Nat}{d:List aj}{cv:Nat->Value}(h:rk W b o d cv)(c:W'.heap[b]?=W.heap[b]?):rk W' b o d cv:=λk g=>by
 obtain⟨e,f,i⟩:=h k g;exact⟨(cell_of_block (a:=⟨b,o+k*3,none⟩) c).trans e,(cell_of_block (a:=⟨b,o+k*3+1,none⟩) c).trans f,(cell_of_block (a:=⟨b,o+k*3+2,none⟩) c).trans i⟩
theorem VQ{j:Nat}(h:j<n):iV n (n - j)=iV n (n - (j+1))++[j]:=by
 have e:n - j=n - (j+1)+1:=by omega
 rw[e,BK]
 congr 2
 omega
theorem VR{F:Fence}(n:Nat)(z:F.fn 155)(h:F.round=none)(H:1<=n){l g b o q:Nat}{d:List aj}{cv:Nat->Value}(u:d.length<=16)(f:∀k,∃a m c,cv k=.slice a m c)(J r:List Nat->World->Prop)
  (s:∀pre (x:Nat) W,J pre W->pre.length<d.length->YieldAt F (n - 1) prog l #[.int .i64 (x:Int),.agg #[(aS d x).nm,((aS d x).pr:Int),cv x]] W λe W'=>
   (e=.returned true/\J (pre++[x]) W'/\KpB b g W W')\/(e=.returned false/\r (pre++[x]) W'))
  {W:World} (p:W.cell? g=some (.slice (some ⟨b,o,none⟩) d.length q)) (w:rk W b o d cv) (B:J [] W) :
  CallsIn F n prog 155 #[.func (.yield l) #[] #[],g] W λe W'=>(∃v,e=.returned v)/\
   ((∃t,t=iV d.length d.length/\J t W')\/(∃pre,True/\r pre W')):=by
 have Hi:wrap64 ((d.length:Int) - 1)=(d.length:Int) - 1:=by unfold wrap64;omega
 refine callsIn_of_wp func155 rfl z ?_ h;simp only[ntmps155,List.size_toArray,Qg,List.length_nil,Nat.reduceAdd,Nat.reduceSub,Array.replicate_succ,Array.replicate_zero,List.push_toArray,List.append_toArray,List.nil_append,List.cons_append]
 gi_wp2
 gi_loopw [3] (λi wr=>∃j:Nat,j<=d.length/\i=.int .i64 ((j:Int) - 1)/\J (iV d.length (d.length - j)) wr/\KpB b g W wr)
  λi _=>(intOf i+1).toNat
 exact⟨d.length,lR,rfl,by rw[Nat.sub_self];exact B,KpB.refl _ _ _⟩
 ·obtain⟨j,I,rfl,Ha,Hb⟩:=hrel;clear Hi;cases j with
  | zero=>
   rw[show ((0:Nat):Int) - 1=-1 from rfl];have E:=qI Ha;clear Ha
   gi_wp2
   go_end0
   exact⟨⟨_,rfl⟩,.inl ⟨_,rfl,by have:=E.o;rwa [Nat.sub_zero] at this⟩⟩
  | succ j=>
   rw[show ((j+1:Nat):Int) - 1=(j:Int) by omega];have He:j<d.length:=by omega
   obtain⟨c0,c1,c2⟩:=w.kept Hb.1 j He;have Hj:=(cell_of_block (a:=g) Hb.2).trans p;obtain⟨fn,tmps,assign,body,y,C⟩:=s _ j wr Ha (by rw[KF];omega);have D:=qI (VQ He);have A:=qI Hb;have Hk:wrap64 ((j:Int) - 1)=(j:Int) - 1:=by unfold wrap64;omega
   obtain⟨ca,cm,cc,Hf⟩:=f j;rw[Hf] at c2 y;generalize aS d j=x at *;clear Ha Hb s f Hf
   gi_wp2
   refine C.mono ?_;rintro e G (⟨rfl,Hh,Hg⟩|⟨rfl,Hc⟩)
   ·gi_wp2
    go_roundw
    exact⟨j,by omega,rfl,by rw[D.o];exact Hh,A.o.trans Hg⟩
    simp[intOf]
   ·gi_wp2
    refine Qx (results_none rfl _ _ _) rfl ?_;exact⟨⟨_,rfl⟩,.inr ⟨_,trivial,Hc⟩⟩
section
open RowKit Go.ChangeMaps
open Go.Maps (Keyed)
theorem lX:Keyed prog 9:=Go.Maps.string_keyed underlying9
theorem tx(w:World):(zeroValue 3).run prog w=.ok (0:Int) w:=by kernel_rfl
def eR (w:World) (B n:Nat) (us:List ak):Prop:=
 ∃D:DataW Unit,w.ownsMap prog 9 (plainElem prog 3) B n D/\∀s:ByteArray,D.atKey (.string s.data.toList) (.lit (.int .i64 0))=.lit (.int .i64 (cW us s))/\Go.Maps.has D (.string s.data.toList)=us.any λu=>decide (u.kind=s)
theorem eR.alloc(h:eR w B n us)(o:Obj):eR (w.alloc o) B n us:=by
 obtain⟨D,a,b⟩:=h;exact⟨D,a.alloc o,b⟩
theorem eR.below(h:eR w B n us)(c:Below K w w')(b:B<K):eR w' B n us:=by
 obtain⟨D,⟨d,a,f,r⟩,e⟩:=h;exact⟨D,⟨d,a,(c.block B b).trans f,r⟩,e⟩
theorem eR.lt(h:eR w B n us):B<w:=by
 obtain⟨D,a,_⟩:=h;exact a.lt
theorem eR.made(w:World):eR (w.alloc (.map #[] 0)) w 0 []:=
 ⟨.map [],World.ownsMap_made w _ _ _,λ_=>⟨rfl,rfl⟩⟩
theorem Gz{k:Nat}(h:k<us.length):us.take (k+1)=us.take k++[ar us k]:=by
 grind[List.take_add_one,ar]
theorem GA(l:List ak)(u:ak)(s:ByteArray):cW (l++[u]) s=if (l.any λv=>decide (v.kind=s))=true then cW l s else if u.kind=s then u.many else 0:=by
 unfold cW;rw[List.find?_append];cases e:l.find? (λv=>decide (v.kind=s)) with
 | none=>
  have a:(l.any λv=>decide (v.kind=s))=false:=by
   grind
  rw[if_neg (by rw[a];decide)]
  by_cases h:u.kind=s
  ·simp[h]
  ·simp[h]
 | some x=>
  have a:(l.any λv=>decide (v.kind=s))=true:=by
   grind
  rw[if_pos a];rfl
theorem zK{a b:ByteArray}(h:a.data.toList=b.data.toList):a=b:=ByteArray.ext (Array.toList_inj.mp h)
theorem VS(h:(l.any λv=>decide (v.kind=u.kind))=true)(s:ByteArray):cW (l++[u]) s=cW l s/\((l++[u]).any λv=>decide (v.kind=s))=l.any λv=>decide (v.kind=s):=by grind[GA,cW]
theorem eR.put{D:DataW Unit}(c:∀s:ByteArray,D.atKey (.string s.data.toList) (.lit (.int .i64 0))=.lit (.int .i64 (cW l s))/\Go.Maps.has D (.string s.data.toList)=l.any λv=>decide (v.kind=s)){d:World}{f:Nat}(a:d.ownsMap prog 9 (plainElem prog 3) B f D)
  (h:w'.ownsMap prog 9 (plainElem prog 3) B n (D.put (.string u.kind.data.toList) (.lit (.int .i64 u.many)))) (b:(l.any λv=>decide (v.kind=u.kind))=false):eR w' B n (l++[u]):=by
 refine⟨_,h,λs=>?_⟩;rw[GA,List.any_append]
 by_cases e:u.kind=s
 ·subst e;have Ha:WideAt.IsKeyLit (Lit.string u.kind.data.toList):=trivial;rw[Go.Maps.atKey_put_same a.isMap Ha,Go.Maps.has_put_same a.isMap Ha,if_neg (by rw[b];decide),if_pos rfl]
  simp
 ·have Hb:(Lit.string s.data.toList)≠(Lit.string u.kind.data.toList):=by
   grind[zK]
  rw[Go.Maps.atKey_put_other Hb,Go.Maps.has_put_other Hb,(c s).1,(c s).2]
  by_cases g:(l.any λv=>decide (v.kind=s))=true
  ·rw[if_pos g];simp[e]
  ·grind[cW,List.find?_eq_none]
def pS (us:List ak):Prop:=us.length<=20/\o5 us/\∀k,k<us.length->(ar us k).kind.size<=30
theorem VT{v:Value}{us:List ak}{w:World}(h:bC w v us)(hf:pS us):Calls pg 108 #[v] w λe w'=>(∃n,e=.returned (.map w)/\eR w' w n us)/\Bw w w':=by
 obtain⟨G,c,rfl,C,z⟩:=h;have A:=qI z;clear z C;have y:=qI hf;have Hr:=hf.1;clear hf;have Hj:=qI (eR.made w);have Hh:=qI ((Q0 w w).alloc (lR) (.map #[] 0));have Hu:=@run_makeMap prog
 go_enter func108,ntmps108
 go_wp2
 go_loopw [11] (λi wr=>∃k n:Nat,k<=us.length/\n<=k/\i=.int .i64 k/\eR wr w n (us.take k)/\Bw w wr) (λi _=>us.length - (intOf i).toNat)
 exact⟨0,0,by omega,by omega,rfl,Hj,Hh⟩
 ·obtain⟨k,n,E,Hv,rfl,g,f⟩:=hrel;clear Hj Hh
  by_cases a:k<us.length
  ·obtain⟨b,o,rfl,Hl,Hk⟩:=A.o (by omega);obtain⟨q,g1⟩:=Hk k a;have c0:=(f.cell (p:=⟨b,o+k*2,none⟩) Hl).trans q;have c1:=(f.cell (p:=⟨b,o+k*2+1,none⟩) Hl).trans g1;have Hi:=qI (Gz a);have Hw:=y.o.2.2 k a;have Ht:=y.o.2.1 k a;have Hf:=qI (f.alloc f.size (.cells #[(ar us k).kind,((ar us k).many:Int)] 148));have Hm:=g.alloc (.cells #[(ar us k).kind,((ar us k).many:Int)] 148);have He:(wr.alloc (.cells #[(ar us k).kind,((ar us k).many:Int)] 148)).cell? wr.heap.size=some (.string (ar us k).kind):=by simp
   have Hg:(wr.alloc (.cells #[(ar us k).kind,((ar us k).many:Int)] 148)).cell? ⟨wr,1,none⟩=some (.int .i64 (ar us k).many):=by simp
   clear g f Hk q g1;generalize ar us k=x at *;generalize us.take k=L at *;obtain⟨D,l,m⟩:=Hm;have t:=qI m;have Hb:keyOf prog 9 x.kind=some (.string x.kind.data.toList):=Go.WideMaps.keyOf_string_mk underlying9 (by unfold maxLen;omega);have Hn:=qI (show (Lit.int .i64 x.many).wf=true from WalkArith.wf_i64 (by omega));have Ha:=(m x.kind).2
   rcases two (L.any λu=>decide (u.kind=x.kind)) with d|d
   ·rw[d] at Ha;have r:=qI (VS d);clear m d
    go_wp2_with (at_lookup;refine wpList_lookup_own_ok_int _ rfl _ _ 205 rfl 9 3 .i64 lX underlying205 underlying3 (tx _) w n D rfl l _ _ rfl Hb ?_;intro cc _ _;rw[Ha])
    go_roundw
    case rel=>
     refine⟨k+1,n,by omega,by omega,by go_num,?_,Hf⟩;rw[Hi.o];exact⟨D,l,λs=>by rw[(r.o s).1,(r.o s).2];exact t.o s⟩
    case measure=>simp[intOf];omega
   ·rw[d] at Ha;have B:=qI d;clear m d
    go_wp2_with (first|(at_lookup;refine wpList_lookup_own_ok_int _ rfl _ _ 205 rfl 9 3 .i64 lX underlying205 underlying3 (tx _) w n D rfl l _ _ rfl Hb ?_;intro cc _ _;rw[Ha])|(at_mapUpdate;refine wpList_mapUpdate_own _ rfl _ _ _ 205 rfl 9 3 lX underlying205 (plainElem prog 3) w n D rfl l (by unfold maxLen;omega) _ _ _ rfl rfl Hb (.lit (.int .i64 x.many)) [] (plainElem_int underlying3 Hn) ?_;intro F Hq Hc))
    go_roundw
    case rel=>
     refine⟨k+1,n+1,by omega,by omega,by go_num,?_,?_⟩
     ·rw[Hi.o];exact eR.put t l Hq B
     ·exact Hf.o.grown Hc Hf.o.size (λj H=>by grind)
    case measure=>simp[intOf];omega
  ·have Hs:k=us.length:=by omega
   subst Hs;have Ho:=qI f;rw[Qh] at g;have Hp:=qI g;clear f g
   go_wp2
   go_ret;exact⟨⟨n,rfl,Hp⟩,Ho⟩
end
theorem GB(h:eR w B n us)(s:ByteArray)(hs:s.size<=1000):(Instr.lookup 205 (.map B) s false).run prog w=.ok (cW us s:Int) w:=by
 obtain⟨D,b,a⟩:=h;obtain⟨c,Hb,Ha,_⟩:=b.lookup_int (t:=205) lX underlying205 underlying3 (tx w) (Go.WideMaps.keyOf_string_mk underlying9 (s:=s) (by unfold maxLen;omega));rw[(a s).1] at Ha;simp only[DataW.lit.injEq,Lit.int.injEq,true_and] at Ha;rw[Hb,Ha]
abbrev rl:=λ(x0:aj) (x1:Value)=>(.cells #[x0.nm,(x0.pr:Int),x1] 49:Obj)
theorem GC(p:aj){cv:Value}{mc B n:Nat}{us:List ak}{w:World}(h:ba w cv p.cs)(hmi:iy p.cs)(hm:w.cell? mc=some (.map B))(hU:eR w B n us)(ht:o5 us)(hn:p.nm.size<=1000) :
  Calls pg 150 #[cQ p cv,.pointer (some ⟨mc,0,none⟩)] w λe w'=>e=.returned (cW us p.nm - cV p.cs p.cs.length:Int)/\Bw w w'/\w.drawn<=w'.drawn:=by
 have hs:=h.slice;unfold cQ;have Hf:=(Q0 w w).alloc (lR) (rl p cv);have He:=qI (fX Hf);have Hh:=qI ((ig.made w p cv).below (fX (Q0 _ _)));have Hb:=Q3 w _ hm;have Hj:=qI (((fX Hf).cell (p:=mc) Hb).trans hm);have Hg:=qI (hU.below (fX Hf) hU.lt);have Hi:=qI (VP p (h.below He) hmi);have Hu:=wV ht p.nm;have Hr:=oY hmi (lR);unfold cQ at Hi;obtain⟨pa,pn,pc,rfl⟩:=hs;have Hs:=qI hU.lt;clear h Hf hm hU;have Hk:=qI λW (hU:eR W B n us)=>GB hU p.nm hn;generalize de p.cs p.cs.length=SM at *;generalize cV p.cs p.cs.length=SB at *;generalize cW us p.nm=US at *;have e1:wrap64 (US - SB)=US - SB:=by unfold wrap64;omega
 have e2:IntKind.i64.wrap (US - SB)=US - SB:=by rw[IntKind.wrap_i64];omega
 go_enter func150,ntmps150
 go_wp2
 refine wp_region_held_drew (S:=(λw'=>(cl w' w (0) p.nm/\cl w' w (1) (p.pr:Int)/\cl w' w (2) (.slice pa pn pc))/\cl w' mc (0) (.map B)/\eR w' B n us)) (by kernel_rfl) ⟨Hh.o.2,Hj,Hg⟩ λhQ=>?_;refine tk 0 ?_;refine tk 1 ?_;refine tk 2 ?_;refine tk 4 ?_
 refine wpAnyH_take (i := 3) (oi := { dst := some 7, op := Op.lookup 205 (Operand.tmp 4) (Operand.tmp 6) false, type := 3, pos := "evict.go:46", after := #[{ on := 0, ground := Ground.data }, { on := 2, ground := Ground.data }], guard := none }) (v := Value.int .i64 US) rfl (by kernel_rfl) (by kernel_rfl) (by kernel_rfl) (fun _ _ _ h => h) (Or.inl ⟨by rfl, ?h5x3⟩) (by assumption) ?r5x3
 case h5x3=>
  intro w' Ha;(try dsimp only at Ha);have Ht:=Hk.o _ Ha.2.2;go_simp
  first|done|with_reducible rfl|rfl
 (try simp only[Act.put,s1,s2,s3]);refine rd 5 λK hK=>?_;go_simp
 go_wp2
 refine Hi.o.m λw5 ⟨Hc,Hm⟩=>?_;have Hp:=qI (Hh.o.below Hc);have Hq:=qI ((Hc.cell (p:=mc) (Q1 Hb He.o.size)).trans Hj);have Ho:=qI (Hg.o.below Hc Hg.o.lt);have Hl:=He.t Hc;have Hn:=qI (show w.drawn<=w5.drawn by simp_all);clear Hc Hm
 go_wp2
 refine hK.o _ _ ⟨Hp.o.2,Hq,Ho⟩ λhQ=>?_;clear hK K
 refine wpAnyH_take (i := 6) (oi := { dst := some 10, op := Op.field 62 (Operand.tmp 9) 1, type := 3, pos := "evict.go:46", after := #[{ on := 5, ground := Ground.data }], guard := none }) (v := Value.int .i64 SB) rfl (by kernel_rfl) (by kernel_rfl) (by kernel_rfl) (fun _ _ _ h => h) (Or.inl ⟨by rfl, ?h6x6⟩) (by assumption) ?r6x6
 case h6x6=>
  intro w' Ha;(try dsimp only at Ha);go_simp
  first|done|with_reducible rfl|rfl
 (try simp only[Act.put,s1,s2,s3])
 refine wpAnyH_take (i := 7) (oi := { dst := some 11, op := Op.binOp BinOp.sub 3 (Operand.tmp 7) (Operand.tmp 10) 3, type := 3, pos := "evict.go:46", after := #[{ on := 3, ground := Ground.data }, { on := 6, ground := Ground.data }], guard := none }) (v := Value.int .i64 (US - SB)) rfl (by kernel_rfl) (by kernel_rfl) (by kernel_rfl) (fun _ _ _ h => h) (Or.inl ⟨by rfl, ?h7x7⟩) (by assumption) ?r7x7
 case h7x7=>
  intro w' Ha;(try dsimp only at Ha);go_simp
  first|done|with_reducible rfl|rfl
 (try simp only[Act.put,s1,s2,s3]);refine tk 8 ?_;refine Qn (by kernel_rfl) ?_ _
 go_wp2
 go_ret;exact⟨rfl,Hl,Hn⟩
structure mQ (w:World) (mc fc B n:Nat) (us:List ak):Prop where
 m:w.cell? mc=some (.map B)
 f:w.cell? fc=some (.func (.func 150) #[] #[.pointer (some ⟨mc,0,none⟩)])
 u:eR w B n us
theorem mQ.lts(h:mQ w mc fc B n us):mc<w/\fc<w/\B<w:=⟨Q3 w _ h.m,Q3 w _ h.f,h.u.lt⟩
theorem mQ.below(h:mQ w mc fc B n us)(b:Below K w w')(a:mc<K/\fc<K/\B<K):mQ w' mc fc B n us:=
 ⟨(b.cell (p:=mc) a.1).trans h.m,(b.cell (p:=fc) a.2.1).trans h.f,h.u.below b a.2.2⟩
abbrev vO:=λ(x0:aj) (x1:Option Addr) (x2 x3:Nat)=>(.cells #[x0.nm,(x0.pr:Int),.slice x1 x2 x3] 49:Obj)
theorem VU(p q:aj){cp d:Value}{f m B n:Nat}{us:List ak}{w:World}(r:ba w cp p.cs)(i:ba w d q.cs)(E:iy p.cs)(H:iy q.cs)(A:p.nm.size<=1000)(t:q.nm.size<=1000)(b:mQ w f m B n us)(y:o5 us) :
  Calls pg 152 #[cQ p cp,cQ q d,.pointer (some ⟨m,0,none⟩)] w λe w'=>e=.returned (rV (fT us p) (fT us q):Int)/\Bw w w'/\w.drawn<=w'.drawn:=by
 have z:=r.slice;have C:=i.slice;have u:Hu (rV (fT us p) (fT us q)=or4 (Lib.compareInt (ek (cW us p.nm - cV p.cs p.cs.length)) (ek (cW us q.nm - cV q.cs q.cs.length))) (Lib.compareInt p.pr q.pr) (Lib.compareInt (cW us q.nm - cV q.cs q.cs.length) (cW us p.nm - cV p.cs p.cs.length)) (bN p.nm q.nm)):=rfl;have Ht:=((Q0 w w).alloc (lR) (rl p cp)).alloc (by simp) (rl q d);have Hq:=fX Ht;have He:=qI Hq;have Hk:=qI (((ig.made w p cp).alloc (rl q d)).below (fX (Q0 _ _)));have l:=(ig.made (w.alloc (rl p cp)) q d).below (fX (Q0 _ _));rw[show (w.alloc (rl p cp)).heap.size=w.heap.size+1 by simp] at l;have Hj:=qI l;have F:=qI (b.below Hq b.lts);have Hm:=qI λW (hb:Bw w W)=>GC p (cv:=cp) (mc:=f) (B:=B) (n:=n) (us:=us) (w:=W) (r.below hb) E (b.below hb b.lts).m (b.below hb b.lts).u y A;have Hh:=qI λW (hb:Bw w W)=>GC q (cv:=d) (mc:=f) (B:=B) (n:=n) (us:=us) (w:=W) (i.below hb) H (b.below hb b.lts).m (b.below hb b.lts).u y t;have Ho:=qI λW (hb:Bw w W)=>b.below hb b.lts;unfold cQ at Hm Hh ⊢;obtain⟨g,h,s,rfl⟩:=z;obtain⟨o,j,k,rfl⟩:=C;rw[u.o];clear u r i b Ht Hq l;generalize cW us p.nm - cV p.cs p.cs.length=X at *;generalize cW us q.nm - cV q.cs q.cs.length=Y at *;have Hv:Hu (w.drawn<=(((w.alloc (vO p g h s)).alloc (vO q o j k)).drew).drawn):=Nat.le_succ _
 go_enter func152,ntmps152
 go_wp2
 refine wp_region_held_drew (S:=(λw'=>(cl w' w (0) p.nm/\cl w' w (1) (p.pr:Int)/\cl w' w (2) (.slice g h s))/\(cl w' (w.heap.size+1) (0) q.nm/\cl w' (w.heap.size+1) (1) (q.pr:Int)/\cl w' (w.heap.size+1) (2) (.slice o j k))/\cl w' m (0) (.func (.func 150) #[] #[.pointer (some ⟨f,0,none⟩)]))) (by kernel_rfl) ⟨Hk.o.2,Hj.o.2,(Ho.o _ He).f⟩ λhHeld=>?_;refine tk 0 ?_;refine tk 1 ?_;refine tk 3 ?_;refine tk 4 ?_;refine rd 2 λK a=>?_;go_simp
 go_wp2
 refine (Hm.o _ He).m λJ ⟨Hg,Hy⟩=>?_;have Hp:=qI (Hk.o.below Hg);have Hr:=qI (Hj.o.below Hg);have Hc:=He.t Hg;have Hz:=qI (Q5 Hv Hy);clear Hg Hy
 go_wp2
 refine a.o _ _ ⟨Hp.o.2,Hr.o.2,(Ho.o _ Hc).f⟩ λhHeld=>?_;clear a K;refine rd 5 λK a=>?_;go_simp
 go_wp2
 refine (Hh.o _ Hc).m λI ⟨Hf,Hs⟩=>?_;have Hl:=qI (Hp.o.below Hf);have Hi:=qI (Hr.o.below Hf);have Hn:=Hc.t Hf;have Hx:=qI (Q5 Hz Hs);clear Hf Hs
 go_wp2
 refine a.o _ _ ⟨Hl.o.2,Hi.o.2,(Ho.o _ Hn).f⟩ λhHeld=>?_;clear a K;refine tk 6 ?_;refine tk 7 ?_;refine Qn (by kernel_rfl) ?_ _;have Hb:=qI (Hl.o.below (fX (Q0 _ _)));have Ha:=qI (Hi.o.below (fX (Q0 _ _)));have x:=qI (fX Hn);have D:=qI (show w.drawn<=I.drew.drawn from Nat.le_succ_of_le Hx);clear hHeld Hp Hr Hc Hz Hk Hj He F Hm Hh Hl Hi Hn Hx Hv
 go_wp2
 refine wp_region_held_drew (S:=(λw'=>(cl w' w (0) p.nm/\cl w' w (1) (p.pr:Int)/\cl w' w (2) (.slice g h s))/\(cl w' (w.heap.size+1) (0) q.nm/\cl w' (w.heap.size+1) (1) (q.pr:Int)/\cl w' (w.heap.size+1) (2) (.slice o j k)))) (by kernel_rfl) ⟨Hb.o.2,Ha.o.2⟩ λhHeld=>?_;refine tk 0 ?_;refine tk 2 ?_;refine tk 5 ?_;refine tk 6 ?_;refine tk 7 ?_;refine tk 8 ?_;refine tk 10 ?_;refine tk 11 ?_;refine tk 13 ?_;refine tk 14 ?_;refine tk 15 ?_;refine tk 16 ?_;refine rd 1 λK a=>?_;go_simp
 go_wp2
 refine (Gy X).e ?_
 go_wp2
 refine a.o _ _ ⟨Hb.o.2,Ha.o.2⟩ λhHeld=>?_;clear a K;refine rd 3 λK a=>?_;go_simp
 go_wp2
 refine (Gy Y).e ?_
 go_wp2
 refine a.o _ _ ⟨Hb.o.2,Ha.o.2⟩ λhHeld=>?_;clear a K;refine rd 4 λK a=>?_;go_simp
 go_wp2
 refine (tw).e ?_
 go_wp2
 refine a.o _ _ ⟨Hb.o.2,Ha.o.2⟩ λhHeld=>?_;clear a K;refine rd 9 λK a=>?_;go_simp
 go_wp2
 refine (tw).e ?_
 go_wp2
 refine a.o _ _ ⟨Hb.o.2,Ha.o.2⟩ λhHeld=>?_;clear a K;refine rd 12 λK a=>?_;go_simp
 go_wp2
 refine (tw).e ?_
 go_wp2
 refine a.o _ _ ⟨Hb.o.2,Ha.o.2⟩ λhHeld=>?_;clear a K;refine rd 17 λK a=>?_;go_simp
 go_wp2
 refine (VN).e ?_
 go_wp2
 refine a.o _ _ ⟨Hb.o.2,Ha.o.2⟩ λhHeld=>?_;clear a K;have v:=qI (Hb.o.alloc (.cells #[(Lib.compareInt (ek X) (ek Y):Int),(Lib.compareInt p.pr q.pr:Int),(Lib.compareInt Y X:Int),(bN p.nm q.nm:Int)] 3));have Hw:=qI (Ha.o.alloc (.cells #[(Lib.compareInt (ek X) (ek Y):Int),(Lib.compareInt p.pr q.pr:Int),(Lib.compareInt Y X:Int),(bN p.nm q.nm:Int)] 3));have G:=qI (x.o.alloc x.o.size (.cells #[(Lib.compareInt (ek X) (ek Y):Int),(Lib.compareInt p.pr q.pr:Int),(Lib.compareInt Y X:Int),(bN p.nm q.nm:Int)] 3));refine rd 18 λK a=>?_;go_simp
 go_wp2
 refine a.o _ _ ⟨v.o.2,Hw.o.2⟩ λhHeld=>?_;clear a K;refine rd 19 λK a=>?_;go_simp
 go_wp2
 refine (VO (a:=Lib.compareInt (ek X) (ek Y)) (b:=Lib.compareInt p.pr q.pr) (c:=Lib.compareInt Y X) (d:=bN p.nm q.nm) (by simp) (by simp) (by simp) (by simp)).e ?_
 go_wp2
 refine a.o _ _ ⟨v.o.2,Hw.o.2⟩ λhHeld=>?_;clear a K;refine tk 20 ?_;refine Qn (by kernel_rfl) ?_ _
 go_wp2
 go_ret;exact⟨rfl,G,D⟩
end Go.Proofs.YtjlblidnfebmiaaGreatDoor
namespace Go.Proofs
open Go.Shelf
def Tryz.clonePL_ren:Go.Shelf.Ren:=⟨fun|41=>149|n=>n,fun|22=>67|23=>49|4=>4|n=>n,fun|n=>n⟩
theorem Tryz.clonePL:Go.Proofs.SlLaysE0.n41 Tryz.prog Tryz.clonePL_ren:=by
 constructor
 case f41=>exact⟨Tryz.f149.name,by decide,Tryz.func149.trans (congrArg some (by kernel_rfl))⟩
 all_goals intros;kernel_rfl
end Go.Proofs
namespace Go.Proofs.YtjlblidnfebmiaaGreatDoor
variable{ps:List aj}{w:World}
def jf (ps:List aj) (cv:Nat->Value):List (aj × Value):=(List.range ps.length).map λj=>(aS ps j,cv j)
theorem tC(a:List aj)(cv:Nat->Value):(jf a cv).length=a.length:=by simp[jf]
theorem VV(a:List aj)(cv:Nat->Value)(k:Nat)(h:k<(jf a cv).length):(jf a cv)[k]=(aS a k,cv k):=by simp[jf]
theorem VW{b o:Nat}{cv:Nat->Value}(h:oZ w b o ps cv)(j:Nat)(u:Value)(g:(prV (jf ps cv))[j]?=some u):w.cell? ((⟨b,o,none⟩:Addr).add j)=some u:=by
 have Ha:j<ps.length*3:=by
  grind[Ds,tC]
 obtain⟨c,d,f,_⟩:=h.at (k:=j / 3) (by omega);have a:j / 3<(jf ps cv).length:=by rw[tC];omega
 obtain⟨c0,c1,c2⟩:=Dt (jf ps cv) (j / 3) a;rw[VV] at c0 c1 c2;rw[Addr.add_lit]
 have:j=j / 3*3\/j=j / 3*3+1\/j=j / 3*3+2:=by omega
 rcases this with e|e|e
 ·grind
 ·grind
 ·grind
theorem VX{cv:Nat->Value}(h:∀k,k<ps.length->∃a n c,cv k=.slice a n c):∀u∈prV (jf ps cv),u.oneCell'=true:=by
 intro u b;simp only[prV,List.mem_flatMap] at b;obtain⟨x,d,b⟩:=b;simp only[jf,Qk,List.mem_range] at d;obtain⟨k,f,rfl⟩:=d;obtain⟨a,n,c,e⟩:=h k f
 simp[e] at b
 rcases b with rfl|rfl|rfl <;> rfl
theorem VY(a:Option Addr)(n c:Nat)(w:World):Sem.run prog (binOp BinOp.eql 67 (.slice a n c) ()) w=.ok a.isNone w:=Lib.run_eql_slice_nil w _ _ a n c 0 0 underlying67
theorem GD(a:Addr)(c:Nat){l:List (aj × Value)}(w:World)(d:∀j u,(prV l)[j]?=some u->w.cell? (a.add j)=some u)(f:∀u∈prV l,u.oneCell'=true)(n:l.length<=16) :
  Calls pg 149 #[.slice (some a) l.length c] w λe w'=>∃v,e=.returned v/\w'.ownsRow w 49 3 v l.length (prV l)/\Bw w w':=by
 obtain⟨i0,hi,He,Hf,Hg⟩:=Dq OE;have g:=qI ((Q0 w w).alloc (lR) (.cells #[] 49));have h:Hu (∀j u,(prV l)[j]?=some u->(w.alloc (.cells #[] 49)).cell? (a.add j)=some u):=λj u b=>Lib.cell?_alloc_some _ (d j u b)
 have Hh:=VY (some a) l.length c w;clear d
 go_enter func149,ntmps149
 go_wp2_with (at_builtin;(refine wpList_append_own _ rfl _ _ 67 rfl w 49 i0 (.agg #[ByteArray.empty,(0:Int),()]) 3 48 underlying67 hi He Hf Hg rfl (by decide) _ _ _ rfl (World.ownsRow_lit w #[] 0 (lR) (Nat.zero_le _) rfl) a l.length c (prV l) rfl (Ds l) h f (by unfold maxLen;omega) (by omega) (by simp) ?_);intro m k Hb Ha _)
 have Hc:=qI (g.o.grown Ha (by simp) (λj b=>by cases b;exact lR));rw[Qd] at Hb;have i:Hu (k.ownsRow w 49 3 m l.length (prV l)):=by simpa[Hu] using Hb
 clear Hb Ha
 go_wp2
 go_ret;exact⟨_,rfl,i,Hc⟩
theorem VZ{v:Value}{d:List aj}{w:World}(h:iz w v d)(t:d.length<=16) :
  Calls pg 149 #[v] w λe w'=>∃f l,e=.returned f/\w'.ownsRow w 49 3 f l.length (prV l)/\l.map Prod.fst=d/\(∀x∈l,ba w x.2 x.1.cs)/\Bw w w':=by
 obtain⟨q,c,rfl,y,r⟩:=h
 by_cases n:0<d.length
 ·obtain⟨b,o,cv,rfl,Ha⟩:=r n;have m:=GD ⟨b,o,none⟩ c (l:=jf d cv) w (VW Ha) (VX λk i=>(Ha.2 k i).2.slice) (by grind[tC]);rw[tC] at m;refine m.mono λe w' ⟨f,he,ho,hb⟩=>⟨f,jf d cv,he,by grind[tC],?_,?_,hb⟩
  ·unfold jf;rw[List.map_map];exact Kz d
  ·intro x g;simp only[jf,Qk,List.mem_range] at g;obtain⟨k,i,rfl⟩:=g;exact (Ha.2 k i).2
 ·have e:d=[]:=Qe (by omega);subst e
  rcases q with _|a
  ·refine (AnyE.slices_Clone_nil Tryz.clonePL 0 c w).e ?_;exact⟨_,[],rfl,Qw _ _ _ _,rfl,λx g=>by simp at g,Q0 _ _⟩
  ·exact (GD a c (l:=[]) w (λj u s=>by simp[prV] at s) (λu p=>by simp[prV] at p) (by simp)).mono λe w' ⟨f,he,ho,hb⟩=>⟨f,[],he,ho,rfl,λx g=>by simp at g,hb⟩
def txV (l:List ByteArray):List Value:=l.map Value.string
def mR (base:Nat) (w:World) (v:Value) (l:List ByteArray):Prop:=w.ownsRow base 9 1 v l.length (txV l)
theorem mR.below{base:Nat}{w':World}{v:Value}{l:List ByteArray}(h:mR base w v l)(a:Bw w w'):mR base w' v l:=
 World.ownsRow.kept (row:=none) h ⟨a.os,a.tape,a.output,a.size,λj b _=>a.block j b⟩ (by grind)
theorem V6:(prog.info? 9).map (λi=>(i.zero,i.size,i.bytes))=some (some (.string ByteArray.empty),1,16):=by kernel_rfl
theorem V7(w:World)(s:ByteArray)(t:TypeId):∀j u,[Value.string s][j]?=some u->(w.alloc (.cells #[s] t)).cell? ((w.heap.size:Addr).add j)=some u:=by
 simp[Addr.add_lit]
theorem V8{v:Value}{a:List aj}{w:World}(h:iz w v a)(y:a.length<=16):Calls pg 113 #[v] w λe w'=>(∃n,e=.returned n/\mR w w' n (a.map aj.nm))/\Bw w w':=by
 obtain⟨i0,hi,Hs,Hn,Hw⟩:=Dq V6;obtain⟨z,c,rfl,s,p⟩:=h;have q:=qI p;clear p s
 go_enter func113,ntmps113
 go_wp2
 go_loopw [3,8] (λg i wr=>∃k:Nat,k<=a.length/\i=.int .i64 k/\Bw w wr/\mR w wr g ((a.take k).map aj.nm)) (λ_ i _=>a.length - (intOf i).toNat)
 exact⟨0,by omega,rfl,Q0 _ _,Qw _ _ _ _⟩
 ·obtain⟨k,t,rfl,f,j⟩:=hrel
  by_cases l:k<a.length
  ·obtain⟨b,o,cv,rfl,He⟩:=q.o (by omega);have He:=He.below f;obtain⟨c0,c1,c2,Hh⟩:=He.at l;have Hj:=Hh.slice;have Hg:=(Q0 wr wr).alloc (lR) (.cells #[(aS a k).nm,((aS a k).pr:Int),cv k] 49);have Hi:=qI (f.trans (Hg.mono f.size));have Hr:=qI (j.below Hg);have Hk:Hu ((a.take (k+1)).map aj.nm=(a.take k).map aj.nm++[(aS a k).nm]):=by
    grind[Hu,Ku]
   have Ht:=qI (World.ownsRow.lt j);have Hx:((a.take k).map aj.nm).length<=16:=by grind
   clear He Hh Hg f j;generalize (a.take k).map aj.nm=L at *;generalize aS a k=x at *;generalize cv k=d at *;obtain⟨da,dn,dc,rfl⟩:=Hj;have Hf:=qI (Hi.o.alloc Hi.o.size (.cells #[x.nm] 9));have Hp:=qI (Hr.o.below ((Q0 _ _).alloc (lR) (.cells #[x.nm] 9)));have Hc:=V7 (wr.alloc (vO x da dn dc)) x.nm 9;rw[show (wr.alloc (vO x da dn dc)).heap.size=wr.heap.size+1 by simp] at Hc;have Hc:=qI Hc
   go_wp2_with (at_builtin;refine wpList_append_own _ rfl _ _ 105 rfl w 9 i0 ByteArray.empty 1 16 underlying105 hi Hs Hn Hw rfl (by decide) u3 _ _ rfl Hp ⟨_,0,none⟩ 1 1 [.string x.nm] rfl rfl Hc (by intro u m;simp at m;subst m;rfl) (by unfold maxLen;omega) (by omega) Hf.o.size ?_;intro v2 r Hb Ha _)
   have Hm:=qI (Hf.o.grown Ha Hf.o.size λi hi=>(Ht.o i hi).1);have Hv:Hu (mR w r v2 (L++[x.nm])):=by
    grind[mR,txV]
   clear Hb Ha
   go_roundw
   exact⟨k+1,by omega,by go_num,Hm,by rw[Hk.o];exact Hv.o⟩
   simp[intOf];omega
  ·have Ho:k=a.length:=by omega
   subst Ho;have Hq:=qI f;rw[Qh] at j;have Hl:=qI j;clear f j
   go_wp2
   go_ret;exact⟨⟨_,rfl,Hl⟩,Hq⟩
end Go.Proofs.YtjlblidnfebmiaaGreatDoor
namespace Go.Proofs
open Go.Shelf
def Tryz.sortPL_ren:Go.Shelf.Ren:=⟨fun|6=>151|15=>161|14=>186|28=>202|29=>203|20=>233|21=>234|22=>235|23=>236|24=>237|25=>238|26=>239|27=>240|46=>276|47=>254|48=>255|49=>277|50=>278|57=>298|n=>n,fun|22=>67|24=>49|25=>262|3=>3|39=>219|0=>0|53=>296|55=>23|4=>4|46=>312|45=>311|50=>134|5=>5|9=>9|66=>357|70=>361|76=>389|77=>390|n=>n,fun|n=>n⟩
theorem Tryz.sortPL:Go.Proofs.SlLaysF0.n6 Tryz.prog Tryz.sortPL_ren:=by
 constructor
 case f6=>exact⟨Tryz.f151.name,by decide,Tryz.func151.trans (congrArg some (by kernel_rfl))⟩
 case f14=>exact⟨Tryz.f186.name,by decide,Tryz.func186.trans (congrArg some (by kernel_rfl))⟩
 case f20=>exact⟨Tryz.f233.name,by decide,Tryz.func233.trans (congrArg some (by kernel_rfl))⟩
 case f21=>exact⟨Tryz.f234.name,by decide,Tryz.func234.trans (congrArg some (by kernel_rfl))⟩
 case f22=>exact⟨Tryz.f235.name,by decide,Tryz.func235.trans (congrArg some (by kernel_rfl))⟩
 case f23=>exact⟨Tryz.f236.name,by decide,Tryz.func236.trans (congrArg some (by kernel_rfl))⟩
 case f24=>exact⟨Tryz.f237.name,by decide,Tryz.func237.trans (congrArg some (by kernel_rfl))⟩
 case f25=>exact⟨Tryz.f238.name,by decide,Tryz.func238.trans (congrArg some (by kernel_rfl))⟩
 case f26=>exact⟨Tryz.f239.name,by decide,Tryz.func239.trans (congrArg some (by kernel_rfl))⟩
 case f27=>exact⟨Tryz.f240.name,by decide,Tryz.func240.trans (congrArg some (by kernel_rfl))⟩
 case f46=>exact⟨Tryz.f276.name,by decide,Tryz.func276.trans (congrArg some (by kernel_rfl))⟩
 case f49=>exact⟨Tryz.f277.name,by decide,Tryz.func277.trans (congrArg some (by kernel_rfl))⟩
 case f50=>exact⟨Tryz.f278.name,by decide,Tryz.func278.trans (congrArg some (by kernel_rfl))⟩
 case f57=>exact⟨Tryz.f298.name,by decide,Tryz.func298.trans (congrArg some (by kernel_rfl))⟩
 all_goals intros;kernel_rfl
end Go.Proofs
namespace Go.Proofs.YtjlblidnfebmiaaGreatDoor
variable{W0 w:World}{base:Nat}{v:Value}
section
open Go.Sort (SWO PermIn SortedIn HoldsK flatK putRowK)
def OkE (W0:World) (x:aj × Value):Prop:=ba W0 x.2 x.1.cs/\iy x.1.cs/\x.1.nm.size<=1000
abbrev PE (W0:World):={ x:aj × Value // OkE W0 x }
theorem ok0(W0:World):OkE W0 (nr,.slice none 0 0):=⟨⟨none,0,rfl,⟨by simp[nr],by decide⟩,λh=>by simp[nr] at h⟩,Ke,by simp[nr]⟩
instance (W0:World):Inhabited (PE W0):=⟨⟨_,ok0 W0⟩⟩
def ko {W0:World} (x:PE W0):List Value:=[.string x.1.1.nm,.int .i64 x.1.1.pr,x.1.2]
def cfE {W0:World} (us:List ak) (x y:PE W0):Int:=rV (fT us x.1.1) (fT us y.1.1)
theorem ltE(us:List ak)(x y:PE W0):ltOf (cfE us) x y=jN (fT us x.1.1) (fT us y.1.1):=rfl
theorem V9{W0:World}(us:List ak):SWO (ltOf (cfE (W0:=W0) us)) where
 irrefl _:=wU.irrefl _
 trans _ _ _ h1 h2:=wU.trans _ _ _ h1 h2
 ntrans _ _ _ h1 h2:=wU.ntrans _ _ _ h1 h2
theorem Wa{w':World}(e:Bw w w')(hd:w.drawn<=w'.drawn):∃q os,w'=Go.Sort.grow (w.drewN q) os:=by
 refine⟨w'.drawn - w.drawn,w'.heap.extract w w',?_⟩;obtain⟨b,c,a,g,f⟩:=e;have d:w'.heap=w.heap++w'.heap.extract w w':=by
  grind
 unfold Go.Sort.grow World.drewN;cases w';cases w;simp only at b c a hd d;simp only[World.mk.injEq];exact⟨d,c,by omega,b,a⟩
theorem zL(w:World)(blk off m:Nat)(a:Array (PE W0))(os:Array Obj):w.grownBy (sortWorldK ko 3 w blk off m a os) (some blk):=by
 refine⟨rfl,rfl,rfl,?_,λj c b=>?_⟩
 ·simp[sortWorldK,putRowK]
 ·grind[sortWorldK,Go.Sort.grow,putRowK,Go.Sort.putRow,Go.Sort.mapBlock,Go.Sort.ahead]
theorem GE(x:PE W0):(ko x)[0]! = .string x.1.1.nm/\(ko x)[1]! = .int .i64 x.1.1.pr/\(ko x)[2]! = x.1.2:=⟨rfl,rfl,rfl⟩
theorem Wb{g a:Nat}{l:List (aj × Value)}(h:w.ownsRow base 49 3 (.slice g l.length a) l.length (prV l))(d:Array (PE W0))(hd:d.toList.map Subtype.val=l):HoldsK ko 3 w g 0 d/\g<w.heap.size/\base<=g:=by
 rcases h.2 with⟨b,_⟩|⟨y,f,k,b,m,v,Hc,Hb,_,o⟩
 ·cases b
 cases b;have Ha:d.size=l.length:=by rw[<- hd];simp
 refine⟨λj i=>?_,?_,m⟩
 ·rw[Go.Sort.size_flatK] at i;rw[Go.Sort.get_flatK _ _ _ _ i];have n:j / 3<l.length:=by omega
  have e:d[j / 3]!.1=l[j / 3]:=by
   grind
  obtain⟨t,u,s⟩:=Dt l (j / 3) n;have c:(prV l)[j]?=some ((ko d[j / 3]!)[j % 3]!):=by
   obtain⟨q,x,p⟩:=GE d[j / 3]!
   have:j % 3=0\/j % 3=1\/j % 3=2:=by omega
   rcases this with r|r|r
   ·grind
   ·grind
   ·grind
  rw[<- o,List.getElem?_take] at c
  split at c
  ·simp_all[World.cell?,World.frozen?]
  ·cases c
 ·grind
def rm (us:List ak) (ps qs:List aj):Prop:=qs.Perm ps/\uu (qs.map (fT us))
theorem Wc{us:List ak}{W0 w:World}{l:List (aj × Value)}{v:Value}{K t f B n:Nat}(b:w.ownsRow K 49 3 v l.length (prV l))(s:∀x∈l,OkE W0 x)(V:l.length<=16)(z:Bw W0 w)(U:W0.heap.size<=K)
  (A:mQ w t f B n us) (u:t<K/\B<K) (D:∀g,v.ownBlock=some g->f≠g) (O:o5 us) :
  Calls pg 151 #[v,.func (.func 152) #[] #[.pointer (some ⟨f,0,none⟩)]] w λe w'=>e=.returned (.tuple #[])/\(∃E,iz w' v E/\rm us (l.map Prod.fst) E)/\Below K w w':=by
 by_cases S:0<l.length
 ·obtain⟨g,o,rfl,Hu,Ht,Hr,He,_⟩:=Dr b S
  let d:Array (PE W0):=(l.pmap (λx h=>(⟨x,h⟩:PE W0)) s).toArray
  have hd:d.toList.map Subtype.val=l:=by
   show ((l.pmap (λx h=>(⟨x,h⟩:PE W0)) s)).map Subtype.val=l
   rw[List.map_pmap]
   simp
  have Hi:d.size=l.length:=by rw[<- hd];simp
  obtain⟨I,_,_⟩:=Wb b d hd;have M:∀args w,(callFunc 152 args).run prog w=.ok (.enter 152 args) w:=enters_of func152 (by kernel_rfl) rfl;have Hs:=D g rfl;have Hh:CmpLays prog 152 #[f] (ko (W0:=W0)) 3 (cfE us) g 0 d.size w:=by
   intro m os G _ x y;have C:=zL w g 0 m G os;have Hg:=z.trans (below_grown C (K:=W0.heap.size) (by have:=z.size;omega) (λj r=>by cases r;omega));have Hk:=below_grown C (K:=K) (by omega) (λj r=>by cases r;exact Hr);have Hm:mQ (sortWorldK ko 3 w g 0 m G os) t f B n us:=⟨(Hk.cell (p:=t) u.1).trans A.m,(C.cell_far f A.lts.2.1 (by simpa using Hs)).trans A.f,A.u.below Hk u.2⟩;refine (VU x.1.1 y.1.1 (x.2.1.below Hg) (y.2.1.below Hg) x.2.2.1 y.2.2.1 x.2.2.2 y.2.2.2 Hm O).mono λe w' ⟨he,hb,hdr⟩=>⟨he,Wa hb hdr⟩
  have T:∀x:PE W0,∀v∈ko x,v.oneCell'=true:=by
   intro x v q;obtain⟨a,n,c,e⟩:=x.2.1.slice
   simp[ko,e] at q
   rcases q with rfl|rfl|rfl <;> rfl
  have Hb:=AnyQ.slices_SortFunc Tryz.sortPL 3 isAgg49 sizeOf49 (ko (W0:=W0)) (λ_=>rfl) T (cfE us) (V9 us) 152 #[.pointer (some ⟨f,0,none⟩)] g 0 o d w M Hh I He (by omega)
  change Calls pg 151 _ _ _ at Hb
  rw[Hi] at Hb;refine Hb.mono λe w' ⟨he,d',m,os,hp,hs,hw'⟩=>⟨he,?_,?_⟩
  ·have Hf:d'.size=l.length:=by rw[hp.1,Hi]
   have Hl:=zL w g 0 m d' os;have Hg:Bw W0 w':=by rw[hw'];exact z.trans (below_grown Hl (K:=W0.heap.size) (by have:=z.size;omega) (λj r=>by cases r;omega))
   have Hj:HoldsK ko 3 w' g 0 d':=by
    rw[hw'];exact Go.Sort.holdsK_grow _ _ _ _ _ _ _ (by grind[putRowK,Go.Sort.putRow,Go.Sort.mapBlock,Go.Sort.ahead]) (Go.Sort.holdsK_putRowK _ _ _ _ _ d _ (Go.Sort.holdsK_ahead _ _ _ _ _ _ _ I) (by rw[hp.1]))
   have Ha:(d'.toList.map λx=>x.1.1).length=l.length:=by simp[Hf]
   have Hq:∀k,k<l.length->aS (d'.toList.map λx=>x.1.1) k=d'[k]!.1.1:=by
    grind[aS]
   refine⟨d'.toList.map λx=>x.1.1,⟨_,o,by rw[Ha],by rw[Ha];omega,λ_=>⟨g,0,λk=>d'[k]!.1.2,rfl,?_,λk F=>?_⟩⟩,?_,?_⟩
   ·rw[hw'];exact Q1 He Hl.size
   ·rw[Ha] at F;rw[Hq k F];have c0:=(Hj.cell (i:=k) (c:=0) (by omega) (by omega)).1;have c1:=(Hj.cell (i:=k) (c:=1) (by omega) (by omega)).1;have c2:=(Hj.cell (i:=k) (c:=2) (by omega) (by omega)).1;obtain⟨L,Q,R⟩:=GE d'[k]!;rw[L] at c0;rw[Q] at c1;rw[R] at c2;exact⟨⟨c0,c1,c2⟩,(d'[k]!).2.1.below Hg⟩
   ·have Hc:d'.toList.Perm d.toList:=by
     have:=hp.2.2
     simp only[Array.toList_extract,List.extract_eq_take_drop,List.drop_zero,Nat.sub_zero] at this;rw[List.take_of_length_le (by simp[Hf]),List.take_of_length_le (by simp[Hi])] at this;exact this
    have H:=Hc.map λx:PE W0=>x.1.1;have J:d.toList.map (λx:PE W0=>x.1.1)=l.map Prod.fst:=by rw[<- hd,List.map_map];rfl
    rw[J] at H;exact H
   ·unfold uu;rw[List.pairwise_map,List.pairwise_map,List.pairwise_iff_getElem];intro i j hi r Hp;have Ho:i<d'.size:=by simpa using hi
    have Hn:j<d'.size:=by simpa using r
    have:=hs i j (Nat.zero_le _) Hp (by omega)
    rw[getElem!_pos d' j Hn,getElem!_pos d' i Ho,ltE] at this
    simpa using this
  ·grind[below_grown,zL]
 ·have e:l=[]:=Qe (by omega);subst e;have q:∃p c,v=.slice p 0 c:=by
   rcases b.2 with⟨q,_⟩|⟨g,o,N,q,_⟩
   ·exact⟨none,0,q⟩
   ·exact⟨_,o,q⟩
  obtain⟨p,c,rfl⟩:=q;have Hb:=AnyF.slices_SortFunc_none (P:=prog) (ρ:=Tryz.sortPL_ren) { Tryz.sortPL with } p c (.func (.func 152) #[] #[.pointer (some ⟨f,0,none⟩)]) w
  change Calls pg 151 _ _ _ at Hb
  exact Hb.mono λe w' ⟨he,hw'⟩=>⟨he,⟨[],⟨p,c,rfl,by simp,λh=>by simp at h⟩,List.Perm.refl _,List.Pairwise.nil⟩,by grind[Q0]⟩
end
def pT (ps:List aj):Prop:=ps.length<=16/\∀x∈ps,iy x.cs/\x.nm.size<=1000
theorem pT.perm{a b:List aj}(h:pT a)(c:b.Perm a):pT b:=⟨by rw[c.length_eq];exact h.1,λx d=>h.2 x (c.mem_iff.1 d)⟩
theorem Wd{a:Addr}(h:w.cell? a=some v){o:Obj}:(w.alloc o).cell? a=some v:=
 (((Q0 w w).alloc (lR) o).cell (Q3 w _ h)).trans h
abbrev zM:=λ(x0:Nat)=>(.cells #[.func (.func 150) #[] #[.pointer (some ⟨x0,0,none⟩)]] 173:Obj)
theorem We{v:Value}{b:List aj}{B n:Nat}{us:List ak}{w:World}(h:iz w v b)(hf:pT b)(f:eR w B n us)(E:o5 us) :
  Calls pg 109 #[v,.map B] w λe w'=>(∃i d,e=.returned i/\iz w' i d/\rm us b d/\∃a m c,i=.slice a m c/\m<=c)/\Bw w w':=by
 have He:=(Q0 w w).alloc (lR) (.cells #[.map B] 205);have Hp:=qI He;have Hs:=qI (h.below He);have Hh:=qI (f.alloc (.cells #[.map B] 205));have Hv:(w.alloc (.cells #[.map B] 205)).cell? w=some (.map B):=by simp
 have Hz:(w.alloc (.cells #[.map B] 205)).heap.size=w.heap.size+1:=by simp
 have Ho:=f.lt;obtain⟨G,c,rfl,_,_⟩:=h;clear He f
 go_enter func109,ntmps109
 go_wp2
 generalize hW1:w.alloc (.cells #[.map B] 205)=o at *;clear hW1;refine (VZ Hs hf.1).mono ?_;rintro e k ⟨v2,l,rfl,Ha,j,q,Hb⟩;have Hy:=qI Hb;have Hg:=qI Ha;have Hf:l.length<=16:=by have:=hf.1;rw[<- j,Q9] at this;exact this
 have Hw:=qI (show ∀x∈l,OkE o x from λx t=>by
  have Hk:x.1∈b:=by grind
  exact⟨q x t,(hf.2 x.1 Hk).1,(hf.2 x.1 Hk).2⟩)
 have D:=qI j;have Hq:∃a s cc,v2=.slice a s cc/\s<=cc:=by
  rcases Ha.2 with⟨u,_⟩|⟨g,A,C,u,_,_,Hx,_⟩
  ·grind
  ·grind
 have Ht:=qI (show mQ (k.alloc (zM w)) w k B n us from
  ⟨Wd ((Hb.cell (p:=w.heap.size) (by grind)).trans Hv),by simp,(Hh.o.below Hb Hh.o.lt).alloc _⟩)
 have Hj:=qI (Hb.alloc (by have:=Hb.size;omega) (zM w));have Hc:=qI (World.ownsRow.alloc Ha (zM w));have Hm:=qI (World.ownsRow.lt Ha);obtain⟨a2,n2,c2,rfl,Hr⟩:=Hq;clear Ha j q Hb hf Hg
 go_wp2
 refine (Wc Hc Hw Hf Hj (lR) Ht ⟨by omega,by omega⟩ (λg z=>by have:=(Hm.o g z).2;omega) E).mono ?_;rintro e F ⟨rfl,⟨d,r,Hi⟩,Hl⟩;have y:=qI r;have Hn:=qI Hi;have Hu:=qI (Hp.o.trans ((Hj.o.trans Hl).mono (by omega)));clear r Hi Hl
 go_wp2
 go_ret;exact⟨⟨_,d,rfl,y,(by rw[<- D.o];exact Hn.o),_,_,_,rfl,Hr⟩,Hu⟩
def vP (w:World) (v:Value) (l:List ByteArray):Prop:=
 ∃ao c,v=.slice ao l.length c/\l.length<=c/\(0<l.length->∃g,ao=some ⟨g,0,none⟩/\g<w.heap.size/\∀k,k<l.length->w.cell? ⟨g,k,none⟩=some (.string (l.getD k ByteArray.empty)))
theorem mR.read{l:List ByteArray}(h:mR base w v l):vP w v l:=by
 by_cases f:0<l.length
 ·obtain⟨g,a,b,Ha,_,_,Hb,d⟩:=Dr h f;refine⟨_,a,b,Ha,λ_=>⟨g,rfl,Hb,λk e=>?_⟩⟩;refine d k _ ?_
  simp[txV,e]
 ·rcases h.2 with⟨b,i⟩|⟨g,a,c,b,_,_,Ha,_⟩
  ·exact⟨none,0,by grind,by omega,λh=>by omega⟩
  ·exact⟨_,a,b,Ha,λh=>by omega⟩
def Wf (us:List ak) (e:Ending):Prop:=∃b,e=.returned (.bool b)/\(b=true->pS us)
def zN (x:ak):Prop:=x.kind.size<=30/\-1125899906842624<=x.many/\x.many<=1125899906842624
theorem Wg{v:Value}{us:List ak}{w:World}(h:bC w v us):Calls pg 25 #[v] w λe w'=>Wf us e/\w'=w:=by
 obtain⟨y,c,rfl,s,p⟩:=h;have q:=qI p;clear p s
 by_cases g:20<us.length
 ·go_enter func25,ntmps25
  go_wp2
  go_ret;exact⟨⟨_,rfl,λh=>by cases h⟩,rfl⟩
 have Ha:us.length<=20:=by omega
 clear g;have hd:decide (20<(us.length:Int))=false:=Q7 (by omega)
 go_enter func25,ntmps25
 go_wp2
 go_loop [3] (λi=>∃k:Nat,k<=us.length/\i=.int .i64 k/\Hu (∀j,j<k->zN (ar us j))) (λi=>us.length - (intOf i).toNat)
 exact⟨0,by omega,rfl,λj a=>by omega⟩
 ·obtain⟨k,u,rfl,f⟩:=hrel
  by_cases l:k<us.length
  ·obtain⟨b,o,rfl,Hf,Hb⟩:=q.o (by omega);obtain⟨c0,c1⟩:=Hb k l;have r:=qI (λ(t:zN (ar us k))=>(show ∀j,j<k+1->zN (ar us j) from λj a=>by
    by_cases e:j=k
    ·rw[e];exact t
    ·exact f.o j (by omega)))
   clear Hb;generalize ar us k=x at *;have key:30<x.kind.size\/(x.kind.size<=30/\x.many < -1125899906842624)\/(x.kind.size<=30/\-1125899906842624<=x.many/\1125899906842624<x.many)\/(x.kind.size<=30/\-1125899906842624<=x.many/\x.many<=1125899906842624):=by omega
   rcases key with d|⟨d,m⟩|⟨d,m,n⟩|⟨d,m,n⟩
   ·go_wp2
    go_ret;exact⟨⟨_,rfl,λh=>by cases h⟩,rfl⟩
   ·go_wp2
    go_ret;exact⟨⟨_,rfl,λh=>by cases h⟩,rfl⟩
   ·go_wp2
    go_ret;exact⟨⟨_,rfl,λh=>by cases h⟩,rfl⟩
   ·have He:=qI (r.o ⟨d,m,n⟩)
    go_wp2
    go_round
    exact⟨k+1,by omega,by go_num,He⟩
    simp[intOf];omega
  ·have Hc:k=us.length:=by omega
   subst Hc
   go_wp2
   go_ret;exact⟨⟨_,rfl,λ_=>⟨Ha,λj a=>⟨(f.o j a).2.1,(f.o j a).2.2⟩,λj a=>(f.o j a).1⟩⟩,rfl⟩
theorem GF(h l n:Int)(w:World)(c:0<=l)(g:l<1073741824)(o:-17179869184<=h)(a:h<=17179869184)(m:-9223372036854775808<=n)(i:n<=9223372036854775807) :
  CB 110 #[.agg #[h,l],n] w (.agg #[(h+n / 1073741824+(l+n % 1073741824) / 1073741824:Int),((l+n) % 1073741824:Int)]):=by
 have k:=Ax n;have b:=Ax (l+n % 1073741824);have f:wrap64 (l+n % 1073741824)=l+n % 1073741824:=by unfold wrap64;omega
 have j:wrap64 (h+n / 1073741824)=h+n / 1073741824:=by unfold wrap64;omega
 have d:wrap64 (h+n / 1073741824+(l+n % 1073741824) / 1073741824)=h+n / 1073741824+(l+n % 1073741824) / 1073741824:=by unfold wrap64;omega
 go_enter func110,ntmps110
 go_wp2
 (try simp only[Exit.inBlock,Exit.then]);refine bodyPost_ret (v:=.agg #[(h+n / 1073741824+(l+n % 1073741824) / 1073741824:Int),((l+n) % 1073741824:Int)]) ?_ rfl ⟨rfl,?_⟩
 ·rw[uS rfl];clear k b f j d;go_simp
 ·exact ((Q0 _ _).alloc (lR) _).alloc (by simp) _
theorem Wh{a b:Int}{g n:Nat}{w:World}(c:w.cell? g=some (.int .i64 a))(l:w.cell? ⟨g,1,none⟩=some (.int .i64 b)) :
  CE 86 #[.slice g 2 n] w (dO a b:Int):=by
 have p:Hu (∀k:Nat,k<2->∃v:Int,cl w g k (v:Int)/\(v=if k=0 then a else b)):=by
  intro k q
  have:k=0\/k=1:=by omega
  rcases this with rfl|rfl
  ·exact⟨a,c,rfl⟩
  ·exact⟨b,l,rfl⟩
 clear c l
 go_enter func86,ntmps86
 go_wp2
 go_loop [8] (λi=>∃k:Nat,k<=2/\i=.int .i64 k/\Hu ((0<k->a=0)/\(1<k->b=0))) (λi=>2 - (intOf i).toNat)
 exact⟨0,by omega,rfl,⟨λh=>by omega,λh=>by omega⟩⟩
 ·obtain⟨k,q,rfl,o⟩:=hrel
  by_cases f:k<2
  ·obtain⟨v,r,j⟩:=p.o k f;have m:=qI j;clear j
   by_cases c:v=0
   ·subst c;have Hb:Hu ((0<k+1->a=0)/\(1<k+1->b=0)):=by
     obtain⟨z0,z1⟩:=o.o;have j:=m.o
     have:k=0\/k=1:=by omega
     rcases this with rfl|rfl
     ·grind
     ·grind
    go_wp2
    go_round
    exact⟨k+1,by omega,by go_num,Hb⟩
    simp[intOf];omega
   ·have d:Hu (dO a b=v):=by
     grind[Hu,dO]
    have s:(v != 0)=true:=by simp[c]
    go_wp2
    go_ret;exact⟨by rw[d.o];rfl,rfl⟩
  ·have Ha:k=2:=by omega
   subst Ha;have d:Hu (dO a b=0):=by
    grind[dO]
   go_wp2
   go_ret;exact⟨by rw[d.o];rfl,rfl⟩
theorem Wi{h l v b a c:Int}(t:iQ h l v)(t':iQ b a c):dO (Lib.compareInt h b) (Lib.compareInt l a)<=0↔v<=c:=by
 rw[<- t.le t'];unfold dO Lib.compareInt;obtain⟨e,f,d⟩:=t;obtain⟨g1,g,g3⟩:=t'
 repeat' split
 all_goals omega
theorem Wj(h l b a:Int)(w:World):CB 112 #[.agg #[h,l],.agg #[b,a]] w (dO (Lib.compareInt h b) (Lib.compareInt l a):Int):=by
 have Hf:=((Q0 w w).alloc (lR) (.cells #[h,l] 209)).alloc (by simp) (.cells #[b,a] 209);have He:=qI (fX Hf);have d:=qI (((cI.made w 209 h l).alloc (.cells #[b,a] 209)).below (fX (Q0 _ _)));have i:=(cI.made (w.alloc (.cells #[h,l] 209)) 209 b a).below (fX (Q0 _ _));rw[show (w.alloc (.cells #[h,l] 209)).heap.size=w.heap.size+1 by simp] at i;have f:=qI i;clear Hf i
 go_enter func112,ntmps112
 go_wp2
 refine wp_region_held_drew (S:=(λw'=>cl w' w (0) h/\cl w' w (1) l/\cl w' (w.heap.size+1) (0) b/\cl w' (w.heap.size+1) (1) a)) (by kernel_rfl) ⟨d.o.1.1,d.o.2.1,f.o.1.1,f.o.2.1⟩ λg=>?_;refine tk 0 ?_;refine tk 1 ?_;refine tk 2 ?_;refine tk 3 ?_;refine tk 5 ?_;refine tk 6 ?_;refine tk 7 ?_;refine tk 8 ?_;refine rd 4 λK c=>?_;go_simp
 go_wp2
 refine (tw).e ?_
 go_wp2
 refine c.o _ _ ⟨d.o.1.1,d.o.2.1,f.o.1.1,f.o.2.1⟩ λg=>?_;clear c K;refine rd 9 λK c=>?_;go_simp
 go_wp2
 refine (tw).e ?_
 go_wp2
 refine c.o _ _ ⟨d.o.1.1,d.o.2.1,f.o.1.1,f.o.2.1⟩ λg=>?_;clear c K;have Hb:=qI (d.o.alloc (.cells #[(Lib.compareInt h b:Int),(Lib.compareInt l a:Int)] 3));have Ha:=qI (f.o.alloc (.cells #[(Lib.compareInt h b:Int),(Lib.compareInt l a:Int)] 3));have Hh:=qI (He.o.alloc He.o.size (.cells #[(Lib.compareInt h b:Int),(Lib.compareInt l a:Int)] 3));have Hc:=cI.made (((w.alloc (.cells #[h,l] 209)).alloc (.cells #[b,a] 209)).drew) 3 (Lib.compareInt h b) (Lib.compareInt l a);rw[show (((w.alloc (.cells #[h,l] 209)).alloc (.cells #[b,a] 209)).drew).heap.size=w.heap.size+1+1 by simp[World.drew]] at Hc;have Hg:=qI Hc;clear Hc;refine rd 10 λK c=>?_;go_simp
 go_wp2
 refine c.o _ _ ⟨Hb.o.1.1,Hb.o.2.1,Ha.o.1.1,Ha.o.2.1⟩ λg=>?_;clear c K;refine rd 11 λK c=>?_;go_simp
 go_wp2
 refine (Wh Hg.o.1.1 Hg.o.2.1).e ?_
 go_wp2
 refine c.o _ _ ⟨Hb.o.1.1,Hb.o.2.1,Ha.o.1.1,Ha.o.2.1⟩ λg=>?_;clear c K;refine tk 12 ?_;refine Qn (by kernel_rfl) ?_ _
 go_wp2
 go_ret;exact⟨rfl,Hh⟩
