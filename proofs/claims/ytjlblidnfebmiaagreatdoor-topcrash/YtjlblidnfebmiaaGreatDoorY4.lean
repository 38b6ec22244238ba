import Derived.Test.YtjlblidnfebmiaaGreatDoorY3
import Derived.RangeFuncNested
import Derived.RangeFuncBound
import Derived.RangeFuncCalls
import Derived.RangeFuncLeaves
import Derived.RangeFuncBox
import Derived.RangeFuncMany
import Derived.Sort.MapsRangeIn
import Derived.Shelf.Abstract
import Derived.Shelf.RegionOpen
import Derived.OwnWalkIn
import Derived.TacticsInMore
import Derived.LoopNIn
import Derived.LoopIn
import Derived.Maps.OwnIn
import Derived.Maps.AppendAt
set_option maxRecDepth 100000
set_option maxHeartbeats 16000000
open Go Go.RowKit Go.Shelf
attribute [local go_sem] Oper.semAt_some
open Go.Proofs.Tryz
namespace Go.Proofs.YtjlblidnfebmiaaGreatDoor
variable{base:Nat}{w:World}{ys:List RV}
section
open RowKit Shelf Go.Maps
theorem JG{key:Value}{a:Lit}(h:keyOf prog 179 key=some a):∃cs:Array Value,key=.agg cs:=by
 unfold keyOf at h;rw[underlying179] at h;simp only at h
 split at h
 ·rename_i hf
  cases key <;> simp[Value.formed,underlying179] at hf;exact⟨_,rfl⟩
 ·cases h
theorem JH(F:Fence)(n:Nat)(B:F.fn 127)(j:F.round=none)(Q:1<=n)(l u b h:Nat)(d:List RV)(J p:List RV->World->Prop)
  (D:∀pre (x:RV) W,J pre W->pre.length<d.length->YieldAt F (n - 1) prog l #[.agg #[x.pod,x.cont,.int .u64 x.cpus,.slice x.da x.dn x.dc]] W λe W'=>
   (e=.returned true/\J (pre++[x]) W'/\KeepsWalks W W')\/(e=.returned false/\p (pre++[x]) W'))
  (W:World) (i:AbidesFrom W J) (P:W.cell? u=some (.map b)) (a:bI W b h d) (G:J [] W) :
  CallsIn F n prog 127 #[.func (.yield l) #[] #[],u] W λe W'=>(∃v,e=.returned v)/\
   ((∃q,q.Perm d/\J q W')\/(∃pre,True/\p pre W')):=by
 have Hp:=a.keys;obtain⟨M,w,A,o⟩:=a;have Hq:Maps.size (.map w:DataW Value)=d.length:=by rw[Maps.size_eq,o.length_eq,md,Q9]
 refine callsIn_of_wp func127 rfl B ?_ j;simp only[ntmps127,List.size_toArray,Qg,List.length_nil,Nat.reduceAdd,Nat.reduceSub,Array.replicate_succ,Array.replicate_zero,List.push_toArray,List.append_toArray,List.nil_append,List.cons_append]
 gi_wp2_with (first
  | (gi_at_range;refine wpListIn_range_own _ rfl _ 149 rfl 179 129 oK underlying149 _ b h _ rfl A ?_;intro E Hh Hu K)
  | gi_in)
 go_frame
 gi_loopw [4] (λ_ wr=>∃(left:Lit->Bool) (cnt:Nat) (pre:List RV),wr.ranges prog 179 oJ b W h (.map w) left cnt/\pre.length+cnt<=d.length/\Came left d pre/\J pre wr)
  λ_ wr=>wr.rangeLeft b W
 case atStart=>
  exact⟨_,_,[],Hh,by rw[Hq];simp,Came.start o,i [] W E none G Hu (λr e=>by cases e)⟩
 case round=>
  obtain⟨left,cnt,pre,Hf,L,t,Hj⟩:=hrel
  gi_wp2_with (first
   | (gi_at_next;refine wpListIn_next_ranges _ rfl _ rfl 179 oK oJ (λcs:Array Value=>Value.agg cs) RV.val (λkey C z=>JG z) (λv y g=>by grind[At]) b W.heap.size h _ _ _ rfl Hf ?_ ?_)
   | gi_in)
  ·intro H Hv
   gi_wp2
   go_end0
   exact⟨⟨_,rfl⟩,.inl ⟨pre,t.finish Hv,Hj⟩⟩
  ·intro x c C N O m f Hw Ho g Hk He Hl Hr Hx Hg;rw[wo] at g;obtain⟨rfl,rfl⟩:=Prod.mk.inj (Ql g);obtain⟨Hi,_⟩:=t.step o Hp Ho Hk;have Ht:=i pre wr m (some W) Hj Hr (λr e=>by cases e;exact⟨lR,Hf.iter_walk⟩);have Hz:J pre (m.alloc (.cells #[c.pod,c.cont,.int .u64 c.cpus,.slice c.da c.dn c.dc] 129)):=i pre m _ none Ht (World.grownBy_alloc _ _ _) (λr e=>by cases e);have Hb:=He.alloc (.cells #[c.pod,c.cont,.int .u64 c.cpus,.slice c.da c.dn c.dc] 129);obtain⟨fn,tmps,assign,body,s,k⟩:=D pre c _ Hz (by omega);clear Hx g;unfold RV.val at Hg ⊢
   gi_wp2
   refine k.mono ?_;rintro e I (⟨rfl,Hy,Hs⟩|⟨rfl,Hc⟩)
   ·have Ha:=Hb.of_walks Hs;have Hn:=qI Hi;have Hm:=qI Hl;clear Hi Hk Hg s k
    gi_wp2
    go_roundw
    exact⟨_,f,pre++[c],Ha,by simp;omega,Hn,Hy⟩
    rw[Ha.left_eq,Hf.left_eq];exact Hm.o
   ·clear Hg s k
    gi_wp2
    refine Qx (results_none rfl _ _ _) rfl ?_;exact⟨⟨_,rfl⟩,.inr ⟨_,trivial,Hc⟩⟩
theorem JI(m:Option Nat)(w:World) :
  Calls pg 84 #[.map m] w λe w'=>e=.returned (.func (.func 127) #[] #[.pointer (some ⟨w,0,none⟩)])/\w'=w.alloc (.cells #[.map m] 149):=by
 go_enter func84,ntmps84
 go_wp2
 go_ret;exact⟨rfl,rfl⟩
def encR (x:RV):Array Value:=#[.agg #[x.pod,x.cont,.int .u64 x.cpus,.slice x.da x.dn x.dc]]
theorem values_stops(F:Fence)(n:Nat)(q:F.fn 127)(e:F.round=none)(s:1<=n){c b h:Nat}{d:List RV}{w:World}(f:c<w)(r:w.cell? c=some (.map b))(a:bI w b h d) :
  SeqStopsK F n prog 127 #[c] encR KeepsWalks (λo=>o.Perm d) (λ_=>True) d.length w:=λl J k W g j _ m i=>
 JH F n q e s l c b h d J k m W j ((g.cell (p:=c) f).trans r) (a.block (g.block b a.lt)) i
def dq (base:Nat) (w:World) (v:Value) (ys:List RV):Prop:=w.ownsRow base 129 4 v ys.length (ys.flatMap RV.cells)
theorem wI:(prog.info? 129).map (λi=>(i.zero,i.size,i.bytes))=some (some (.agg #[ByteArray.empty,ByteArray.empty,.int .u64 0,()]),4,64):=by kernel_rfl
theorem wJ(w:World)(x:RV)(t:TypeId):∀j u,(RV.cells x)[j]?=some u->(w.alloc (.cells #[x.pod,x.cont,.int .u64 x.cpus,.slice x.da x.dn x.dc] t)).cell? ((w.heap.size:Addr).add j)=some u:=by
 simp[Addr.add_lit,RV.cells]
theorem dq.push{v:Value}{x:RV}(h:w.ownsRow base 129 4 v (ys.length+1) (ys.flatMap RV.cells++RV.cells x)):dq base w v (ys++[x]):=by
 grind[dq]
theorem JJ(f b B:Nat)(j:List RV)(w:World)(F:w.cell? f=some (.map b))(d:bI w b B j)(T:j.length<=1000) :
  Calls pg 159 #[(),.func (.func 127) #[] #[.pointer (some ⟨f,0,none⟩)]] w λe w'=>(∃v m,e=.returned v/\m.Perm j/\dq w w' v m)/\Bw w w':=by
 obtain⟨i0,hi,Hp,Hn,Ht⟩:=info_parts wI;refine (callsIn_wide (n:=3)).1 ?_;refine callsIn_of_wp_marks func159 rfl trivial ?_ rfl;simp only[ntmps159,List.size_toArray,Qg,List.length_nil,Nat.reduceAdd,Nat.reduceSub,Array.replicate_succ,Array.replicate_zero,List.push_toArray,List.append_toArray,List.nil_append,List.cons_append]
 gi_wp2
 have Hg:=Q3 w _ F;have Hi:=qI ((Q0 w w).alloc (lR) (.cells #[()] 120));have Hk:=qI (values_stops Fence.wide (3 - 1) trivial rfl (by omega) (by simp_all[Nat.lt_succ_of_lt]) ((Hi.o.cell (p:=f) Hg).trans F) (d.block (Hi.o.block b d.lt)));have Ho:=qI (Boxed.new w 120 ());have Hz:(w.alloc (.cells #[()] 120)).heap.size=w.heap.size+1:=by simp
 generalize w.alloc (.cells #[()] 120)=A at *;refine wpIn_rangeFunc_ownH (α:=RV) rfl (by omega) (gf:=127) (lb:=#[.pointer (some ⟨f,0,none⟩)]) rfl trivial (enters_of func127 (by kernel_rfl) rfl)
  Hk walksK_t walksK_b (Q0 _ _) (λ_=>rfl)
  (λpre W=>(∃v,Boxed W w 120 v/\W.ownsRow w 129 4 v pre.length (pre.flatMap RV.cells)/\True)/\Bw w W)
  (λ_ _ _=>False)
  (OwnFrom.and (Own.from (holdsRow_own w w 120 129 4 (λpre:List RV=>pre.length) (λpre=>pre.flatMap RV.cells) λ_ _=>True) _) (ownFrom_below (lR) (by omega)))
  (λ_ _ _ _ _ hs _ _=>hs)
  ⟨⟨_,Ho,Qw _ _ _ _,trivial⟩,Hi⟩
  (λx t W=>∃a,A.heap.size<=a/\W.heap[a]?=some (.cells #[x.pod,x.cont,.int .u64 x.cpus,.slice x.da x.dn x.dc] 129 (0,0))/\t={ tmps:=#[Value.slice none 0 0,Value.func (Fn.func 127) #[] #[Value.pointer (some { block:=f,off:=0 })],Value.pointer (some { block:=w.heap.size,off:=0 }),undef,Value.slice none 0 0,.pointer (some ⟨a,0,none⟩),Value.func (Fn.func 127) #[] #[Value.pointer (some { block:=f,off:=0 })],.agg #[x.pod,x.cont,.int .u64 x.cpus,.slice x.da x.dn x.dc],undef,undef,undef,undef,undef],defers:=[] })
  (λx t=>Own.from (λu W W' row hs I y=>by
   obtain⟨a,L,s,G⟩:=hs;refine⟨a,L,(I.block a (gS s).1 λe=>?_).trans s,G⟩;obtain⟨o,q,E⟩:=y a e.symm;rw[s] at q;cases q;cases E) _) ?assign ?body ?done ?stop
 case assign=>
  rintro l pre x W K ⟨⟨v,Hb,Ha,_⟩,c⟩ g;have J:=qI g;clear g;unfold encR
  gi_wp2
  exact J.o _ _ ((KeepsOthers.alloc _ _).from _) (KeepsWalks.alloc _ _) ⟨⟨v,Hb.alloc _,Ha.alloc _,trivial⟩,c.alloc c.size _⟩ ⟨W,by have:=Hb.lt;have:=c.size;omega,World.alloc_heap_new W _,rfl⟩
 case body=>
  rintro l pre x t W P ⟨r,y⟩ ⟨⟨v,Hb,Ha,_⟩,c⟩ ⟨a,Hy,Hf,rfl⟩ Hu;have c0:W.cell? ⟨a,0,none⟩=some (.string x.pod):=by simp[World.cell?,Hf]
  have c1:W.cell? ⟨a,1,none⟩=some (.string x.cont):=by simp[World.cell?,Hf]
  have c2:W.cell? ⟨a,2,none⟩=some (.int .u64 x.cpus):=by simp[World.cell?,Hf]
  have c3:W.cell? ⟨a,3,none⟩=some (.slice x.da x.dn x.dc):=by simp[World.cell?,Hf]
  have Hw:=Hb.cell;have N:=qI (wJ W x 129);have Hc:=qI Ha;have Hs:=qI Hb;have i:=qI c;have Hx:pre.length<=1000:=by omega
  clear Ha Hb c Hf y
  gi_wp2_with (gi_at_builtin;refine wpListIn_append_own _ rfl _ _ 120 rfl w 129 i0 (.agg #[ByteArray.empty,ByteArray.empty,.int .u64 0,()]) 4 64 underlying120 hi Hp Hn Ht rfl (by decide) _ _ _ rfl (Hc.o.alloc _) W 1 1 (RV.cells x) rfl rfl N (by intro u z;simp[RV.cells] at z;rcases z with rfl|rfl|rfl|rfl <;> rfl) (by unfold maxLen;omega) (by omega) (by have:=i.o.size;simp;omega) ?_;intro S Q He Hh _;obtain⟨U,C,rfl⟩:=ownsRow_succ He;obtain⟨Hl,Hr,Hm,Hj,Hq⟩:=Hs.o.appended (by decide) Hc i.o.size (lR) He Hh;have O:=Hl.cell;have Hv:=Hl.frozen)
  exact⟨Hj.from _,⟨Hj.size,λk o H q=>Hj.same k o H (Obj.not_cells_of_walk q)⟩,⟨_,Hr,dq.push Hm⟩,i.o.trans Hq⟩
 case done=>
  rintro D m W R M ⟨⟨v,Hb,Ha,_⟩,c⟩ g;have E:=Hb.cell;have Hc:=qI Ha;have i:=qI c;clear Ha Hb c
  gi_wp2
  refine⟨by simp,.inl ⟨_,_,rfl,run_takeDeferred g,?_⟩⟩;refine⟨_,results_tmp rfl _ _ _,?_⟩;exact⟨⟨v,rfl,m,M,ownsRow_putObj Hc _ g rfl⟩,i.o.trans (belowK_b (w:=w) (lR) _ D _ _ (by omega) g rfl rfl)⟩
 case stop=>exact λ_ _ _ _ _ _ h _=>h.elim
theorem dq.slice{v:Value}(h:dq base w v ys):∃a c,v=.slice a ys.length c/\ys.length<=c:=by
 rcases h.2 with⟨d,i⟩|⟨g,f,b,d,_,_,e,_⟩
 ·grind
 ·grind
theorem JK(h b l:Nat)(f:List RV)(w:World)(m:w.cell? h=some (.map b))(d:bI w b l f)(q:f.length<=1000) :
  Calls pg 125 #[.func (.func 127) #[] #[.pointer (some ⟨h,0,none⟩)]] w λe w'=>(∃v g,e=.returned v/\g.Perm f/\dq w w' v g)/\Bw w w':=by
 have r:=qI (JJ h b l f w m d q);clear m d
 go_enter func125,ntmps125
 go_wp2
 refine r.o.mono ?_;rintro e s ⟨⟨v,g,rfl,j,i⟩,k⟩;have n:=qI i;have p:=qI j;have o:=qI k;obtain⟨a,c,rfl,_⟩:=i.slice;clear i j k
 go_wp2
 go_ret;exact⟨⟨_,g,rfl,p,n⟩,o⟩
end
