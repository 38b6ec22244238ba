import Derived.Test.YtjlblidnfebmiaaGreatDoorE2
import Derived.Maps.OwnSet
import Derived.Maps.Range
import Derived.Maps.Views
import Derived.DeepKeys4
import Derived.RangeFuncNested
import Derived.RangeFuncBound
import Derived.RangeFuncCalls
import Derived.RangeFuncLeaves
import Derived.RangeFuncBox
import Derived.RangeFuncMany
import Derived.Sort.MapsRangeIn
import Derived.Shelf.Abstract
import Derived.Shelf.RegionOpen
import Derived.OwnWalkIn
import Derived.TacticsInMore
import Derived.LoopNIn
import Derived.LoopIn
import Derived.Maps.OwnIn
import Derived.Maps.AppendAt
set_option maxRecDepth 100000
set_option maxHeartbeats 16000000
open Go Go.RowKit Go.Shelf
attribute [local go_sem] Oper.semAt_some
open Go.Proofs.Tryz
namespace Go.Proofs.YtjlblidnfebmiaaGreatDoor
variable {B base n:Nat} {a b:ByteArray} {w:World}
section
open RowKit Go.ChangeMaps Go.Maps
structure RV where
 pod:ByteArray
 cont:ByteArray
 cpus:Int
 da:Option Addr
 dn:Nat
 dc:Nat
def RV.val (x:RV):Value:=.agg #[x.pod,x.cont,.int .u64 x.cpus,.slice x.da x.dn x.dc]
def RV.cells (x:RV):List Value:=[.string x.pod,.string x.cont,.int .u64 x.cpus,.slice x.da x.dn x.dc]
theorem RV.val_inj {x y:RV} (h:x.val=y.val):x=y:=by
 cases x;cases y
 simp [RV.val] at h
 simp [h]
def nW:Value->Option (DataW Value × List MemPlace)
 | .agg ⟨[.string p,.string c,.int .u64 n,.slice a m k]⟩=>some (.held (.agg #[.string p,.string c,.int .u64 n,.slice a m k]),[])
 | _=>none
theorem xo (x:RV):nW x.val=some (.held x.val,[]):=rfl
theorem DH {v:Value} {y:DataW Value × List MemPlace} (h:nW v=some y):∃ x:RV,v=x.val/\y=(.held x.val,[]):=by
 unfold nW at h
 split at h
 ·rename_i p c n a m k
  cases h;exact ⟨⟨p,c,n,a,m,k⟩,rfl,rfl⟩
 ·cases h
def ju (a b:ByteArray):Value:=.agg #[a,b]
def fS (a b:ByteArray):Lit:=.string (keyBytes [.string a.data.toList,.string b.data.toList])
theorem QU:laidOutB prog=true:=by kernel_rfl
theorem DI:(179:TypeId)<prog.types.size:=of_decide_eq_true (by kernel_rfl)
theorem QV:(match prog.underlying 179 with|some (.array _ _)|some (.struct _)=>true|_=>false)=true:=by kernel_rfl
theorem nX:Keyed prog 179:=Keyed.of_law (deep_law_laid QU (m:=2) (by omega) DI (by kernel_rfl) QV)
theorem QW:prog.keyType 179=true:=by kernel_rfl
theorem DJ:prog.cellsOf 179=2:=by kernel_rfl
theorem QX:prog.cellsOf 9=1:=by kernel_rfl
theorem QY {k m:Nat} (h:k<m):∃ n,m=n+1:=⟨m - 1,by omega⟩
theorem qU (a b:ByteArray) (f:a.size<=maxLen) (e:b.size<=maxLen):keyOf prog 179 (ju a b)=some (fS a b):=by
 obtain ⟨n,d⟩:=QY DI;have c:∀ s:ByteArray,s.size<=maxLen->prog.keyLits (n+1) 9 [.string s]=some [.string s.data.toList]:=λs hs=>by
  unfold Program.keyLits;rw [underlying9]
  simp [hs]
 unfold keyOf;simp only [underlying179,ju,QW,Value.formed,DJ,Value.cells];rw [if_pos (by rfl),d];unfold Program.keyLits;rw [underlying179]
 simp [DJ,QX,c a f,c b e,fS]
theorem QZ {c d:ByteArray} (j:a.size<=maxLen) (f:b.size<=maxLen) (i:c.size<=maxLen) (hd:d.size<=maxLen) (h:fS a b=fS c d):a=c/\b=d:=by
 have g:=qU a b j f;have e:=qU c d i hd;rw [<- h] at e
 have:=nX.inj g e
 simp [ju] at this
 exact this
end
section
open RowKit Go.ChangeMaps Go.Maps Go.WideShapes
def RV.key (x:RV):Lit:=fS x.pod x.cont
def RV.Short (x:RV):Prop:=x.pod.size<=7000/\x.cont.size<=7000
theorem kE (h:n<=7000):n<=maxLen:=by unfold maxLen;omega
theorem RV.keyOf {x:RV} (h:x.Short):keyOf prog 179 (ju x.pod x.cont)=some x.key:=qU _ _ (kE h.1) (kE h.2)
theorem RV.key_eq {x:RV} (h:x.Short) (d:a.size<=7000) (c:b.size<=7000):x.key=fS a b↔(x.pod=a/\x.cont=b):=by
 constructor
 ·exact λe=>QZ (kE h.1) (kE h.2) (kE d) (kE c) e
 ·rintro ⟨rfl,rfl⟩;rfl
theorem Ra (a b c d:ByteArray):(fS a b).sameKey (fS c d)=true↔fS a b=fS c d:=by
 constructor
 ·exact WideAt.sameKey_eq
 ·intro e;rw [e];exact WideAt.sameKey_self trivial
def lE (xs:List RV):List (Lit × DataW Value):=xs.map λx=>(x.key,.held x.val)
def bB (w:World) (B n:Nat) (xs:List RV):Prop:=(∀ x∈xs,x.Short)/\∃ es,w.ownsMap prog 179 nW B n (.map es)/\es.Perm (lE xs)
theorem bB.lt {a:List RV} (h:bB w B n a):B<w:=by
 obtain ⟨_,c,b,_⟩:=h;exact b.lt
theorem bB.block {w':World} {b:List RV} (h:bB w B n b) (c:w'.heap[B]?=w.heap[B]?):bB w' B n b:=by
 obtain ⟨hs,e,⟨d,a,g,r⟩,f⟩:=h;exact ⟨hs,e,⟨d,a,c.trans g,r⟩,f⟩
theorem bB.made (w:World):bB (w.alloc (.map #[] 0)) w 0 []:=
 ⟨λx a=>by simp at a,[],World.ownsMap_made w _ _ _,List.Perm.nil⟩
theorem bB.keys {b:List RV} (h:bB w B n b):(b.map RV.key).Nodup:=by
 obtain ⟨hs,d,f,g⟩:=h;obtain ⟨i,e,hd,_⟩:=f.entries nX;cases e;have c:(d.map Prod.fst).Nodup:=List.pairwise_map.2 hd;have a:=(g.map Prod.fst).nodup_iff.1 c;unfold lE at a;rw [List.map_map] at a;exact a
theorem bB.has {e:List RV} (h:bB w B n e) {g:List (Lit × DataW Value)} (j:g.Perm (lE e)) (i:a.size<=7000) (f:b.size<=7000) :
  Maps.has (.map g) (fS a b)=e.any λx=>decide (x.pod=a/\x.cont=b):=by
 rw [Maps.has_eq,Bool.eq_iff_iff,List.any_eq_true,List.any_eq_true];constructor
 ·rintro ⟨p,k,d⟩;obtain ⟨x,c,rfl⟩:=Qk.1 (j.mem_iff.1 k);exact ⟨x,c,Qc ((RV.key_eq (h.1 x c) i f).1 (WideAt.sameKey_eq d))⟩
 ·rintro ⟨x,c,d⟩;refine ⟨(x.key,.held x.val),j.mem_iff.2 (Qk.2 ⟨x,c,rfl⟩),?_⟩;rw [show x.key=fS a b from (RV.key_eq (h.1 x c) i f).2 (of_decide_eq_true d)];exact WideAt.sameKey_self trivial
theorem Rb (w:World):(zeroValue 129).run prog w=.ok (RV.val ⟨ByteArray.empty,ByteArray.empty,0,none,0,0⟩) w:=by kernel_rfl
theorem bB.put {d:List RV} (h:bB w B n d) (x:RV) (b:x.Short) (o:n<1000) (f:(d.any λy=>decide (y.pod=x.pod/\y.cont=x.cont))=false) :
  ∃ w',(Instr.mapUpdate 149 (.map B) (ju x.pod x.cont) x.val).run prog w=.ok () w'/\bB w' B (n+1) (x :: d)/\w.grownBy w' (some B)/\w'=w.heap.size:=by
 obtain ⟨c,l,i⟩:=h.2;obtain ⟨w',Ha,Hb,g⟩:=l.store nX underlying149 (by unfold maxLen;omega) (RV.keyOf b) (xo x);refine ⟨w',Ha,⟨λy a=>?_,putKey x.key (.held x.val) c,Hb,?_⟩,g.grown,?_⟩
 ·rcases List.mem_cons.1 a with rfl|a
  ·exact b
  ·exact h.1 y a
 ·unfold putKey;refine (insert_perm _ _).trans ?_;have hf:c.filter (notKey x.key)=c:=by
   refine List.filter_eq_self.2 λp k=>?_
   obtain ⟨y,a,rfl⟩:=Qk.1 (i.mem_iff.1 k);have Hc:¬ (y.pod=x.pod/\y.cont=x.cont):=of_decide_eq_false (by have:=List.any_eq_false.1 f y a;simpa using this)
   show (!y.key.sameKey x.key)=true
   rw [Bool.not_eq_true'];refine sameKey_ne λe=>Hc ((RV.key_eq (h.1 y a) b.1 b.2).1 e)
  rw [hf];exact List.Perm.cons _ i
 ·obtain ⟨m,c0,j,c1,_,rfl⟩:=g
  simp [setBlock]
theorem bB.drop {c:List RV} (h:bB w B n c) (a b:ByteArray) (g:a.size<=7000) (f:b.size<=7000) (i:TypeId) :
  ∃ w',(Builtin.delete_ #[149,179] i #[.map B,ju a b]).run prog w=.ok (.tuple #[]) w'/\bB w' B n (c.filter λx=>!decide (x.pod=a/\x.cont=b))/\w.grownBy w' (some B)/\w'=w.heap.size:=by
 obtain ⟨k,m,o⟩:=h.2;obtain ⟨w',Ha,Hb,d⟩:=m.drop nX underlying149 (qU a b (kE g) (kE f)) i;refine ⟨w',Ha,⟨λy q=>h.1 y (List.mem_filter.1 q).1,delKey (fS a b) k,Hb,?_⟩,d.grown,?_⟩
 ·unfold delKey;refine (o.filter _).trans ?_;unfold lE;rw [List.filter_map];have Hc:c.filter (notKey (fS a b) ∘ λx:RV=>(x.key,(DataW.held x.val:DataW Value)))=c.filter λx=>!decide (x.pod=a/\x.cont=b):=by
   refine List.filter_congr λx l=>?_
   have e:x.key.sameKey (fS a b)=decide (x.pod=a/\x.cont=b):=by
    rw [Bool.eq_iff_iff,decide_eq_true_iff];exact (Ra _ _ _ _).trans (RV.key_eq (h.1 x l) g f)
   show (!x.key.sameKey (fS a b))=_
   rw [e]
  rw [Hc]
 ·obtain ⟨p,c0,j,c1,_,rfl⟩:=d
  simp [setBlock]
def Came (left:Lit->Bool) (xs pre:List RV):Prop:=∃ rest,xs.Perm (pre++rest)/\(∀ x∈pre,left x.key=false)/\∀ x∈rest,left x.key=true
theorem Came.start {b:List RV} {c:List (Lit × DataW Value)} (d:c.Perm (lE b)):Came (Maps.has (.map c)) b []:=
 ⟨b,by simp,λx a=>by simp at a,λx a=>List.any_eq_true.2 ⟨(x.key,.held x.val),d.mem_iff.2 (Qk.2 ⟨x,a,rfl⟩),WideAt.sameKey_self trivial⟩⟩
theorem Came.finish {left:Lit->Bool} {c a:List RV} (h:Came left c a) (d:∀ f,left f=false):a.Perm c:=by
 obtain ⟨rest,b,_,e⟩:=h
 have:rest=[]:=by
  cases rest with
  | nil=>rfl
  | cons x l=>have:=e x (by simp);rw [d] at this;cases this
 subst this;rw [List.append_nil] at b;exact b.symm
theorem at_mem {c:List (Lit × DataW Value)} {b:Lit} {y:DataW Value} (a:∀ f,(DataW.map c).atKey b f=y):∃ p∈c,p.1=b/\p.2=y:=by
 unfold DataW.atKey at a;simp only at a;cases hf:c.find? (λp=>p.1.sameKey b) with
 | none=>
  rw [hf] at a;have e:=a .nil;have d:=a (.lit .nil);simp only at e d;rw [<- e] at d;cases d
 | some p=>
  rw [hf] at a;exact ⟨p,List.mem_of_find?_eq_some hf,WideAt.sameKey_eq (List.find?_some (p:=λq:Lit × DataW Value=>q.1.sameKey b) hf),a .nil⟩
theorem Came.step {left:Lit->Bool} {g d:List RV} {m:List (Lit × DataW Value)} (h:Came left g d) (u:m.Perm (lE g)) (s:(g.map RV.key).Nodup) {k:Lit} {c:RV} (i:left k=true) (l:∀ q,(DataW.map m).atKey k q=.held c.val) :
  Came (λz=>left z && !z.sameKey k) g (d++[c])/\k=c.key:=by
 obtain ⟨p,r,rfl,Hh⟩:=at_mem l;obtain ⟨x,t,rfl⟩:=Qk.1 (u.mem_iff.1 r);have e:x=c:=RV.val_inj (by simpa using Hh);subst e;obtain ⟨rest,Hb,n,o⟩:=h;have Hc:x∈rest:=by
  rcases Qi.1 (Hb.mem_iff.1 t) with b|b
  ·have:=n x b
   rw [this] at i;cases i
  ·exact b
 obtain ⟨r1,f,rfl⟩:=List.append_of_mem Hc;have Hi:g.Perm ((d++[x])++(r1++f)):=by
  refine Hb.trans ?_;rw [List.append_assoc];exact List.Perm.append_left _ List.perm_middle
 have Hf:((d++(r1++x :: f)).map RV.key).Nodup:=(Hb.map _).nodup_iff.1 s;refine ⟨⟨r1++f,Hi,λy j=>?_,λy j=>?_⟩,rfl⟩
 ·rcases Qi.1 j with b|b
  ·show (left y.key && !y.key.sameKey x.key)=false
   rw [n y b];rfl
  ·simp at b
   subst b
   show (left y.key && !y.key.sameKey y.key)=false
   rw [WideAt.sameKey_self (show WideAt.IsKeyLit y.key from trivial)];simp
 ·have b:y∈r1++x :: f:=by
   rcases Qi.1 j with b|b
   ·exact Qi.2 (.inl b)
   ·exact Qi.2 (.inr (Qv _ b))
  have Hg:y.key≠x.key:=by
   rw [Qj,List.nodup_append] at Hf;have Ha:=Hf.2.1;have He:((x :: (r1++f)).map RV.key).Nodup:=((List.perm_middle (a:=x) (l₁:=r1) (l₂:=f)).map RV.key).nodup_iff.1 Ha;rw [Qq,List.nodup_cons] at He;exact λe=>He.1 (by rw [<- e];exact List.mem_map_of_mem j)
  show (left y.key && !y.key.sameKey x.key)=true
  rw [o y b,sameKey_ne Hg];rfl
end
section
open RowKit Shelf Go.Maps
theorem Rc {key:Value} {a:Lit} (h:keyOf prog 179 key=some a):∃ cs:Array Value,key=.agg cs:=by
 unfold keyOf at h;rw [underlying179] at h;simp only at h
 split at h
 ·rename_i hf
  cases key <;> simp [Value.formed,underlying179] at hf;exact ⟨_,rfl⟩
 ·cases h
theorem Rd (F:Fence) (n:Nat) (E:F.fn 127) (p:F.round=none) (S:1<=n) (l t b j:Nat) (g:List RV) (J z:List RV->World->Prop)
  (I:∀ a (x:RV) W,J a W->a.length<g.length->YieldAt F (n - 1) prog l #[.agg #[x.pod,x.cont,.int .u64 x.cpus,.slice x.da x.dn x.dc]] W λe W'=>
   (e=.returned true/\J (a++[x]) W'/\KeepsWalks W W')\/(e=.returned false/\z (a++[x]) W'))
  (W:World) (m:AbidesFrom W J) (R:W.cell? t=some (.map b)) (d:bB W b j g) (B:J [] W) :
  CallsIn F n prog 127 #[.func (.yield l) #[] #[],t] W λe W'=>(∃ v,e=.returned v)/\
   ((∃ u,u.Perm g/\J u W')\/(∃ a,True/\z a W')):=by
 have Hx:=d.keys;obtain ⟨O,A,G,q⟩:=d;have Ht:Maps.size (.map A:DataW Value)=g.length:=by rw [Maps.size_eq,q.length_eq,lE,Q9]
 refine callsIn_of_wp func127 rfl E ?_ p;simp only [ntmps127,List.size_toArray,Qg,List.length_nil,Nat.reduceAdd,Nat.reduceSub,Array.replicate_succ,Array.replicate_zero,List.push_toArray,List.append_toArray,List.nil_append,List.cons_append]
 gi_wp2_with (first
  | (gi_at_range;refine wpListIn_range_own _ rfl _ 149 rfl 179 129 nX underlying149 _ b j _ rfl G ?_;intro D Hb Hv N)
  | gi_in)
 go_frame
 gi_loopw [4] (λ_ wr=>∃ (left:Lit->Bool) (f:Nat) (a:List RV),wr.ranges prog 179 nW b W j (.map A) left f/\a.length+f<=g.length/\Came left g a/\J a wr)
  λ_ wr=>wr.rangeLeft b W
 case atStart=>
  exact ⟨_,_,[],Hb,by rw [Ht];simp,Came.start q,m [] W D none B Hv (λr e=>by cases e)⟩
 case round=>
  obtain ⟨left,f,a,Hg,M,s,Hj⟩:=hrel
  gi_wp2_with (first
   | (gi_at_next;refine wpListIn_next_ranges _ rfl _ rfl 179 nX nW (λcs:Array Value=>Value.agg cs) RV.val (λkey H K=>Rc K) (λv y i=>by obtain ⟨c,rfl,_⟩:=DH i;exact ⟨c,rfl⟩) b W.heap.size j _ _ _ rfl Hg ?_ ?_)
   | gi_in)
  ·intro T Hn
   gi_wp2
   go_end0
   exact ⟨⟨_,rfl⟩,.inl ⟨a,s.finish Hn,Hj⟩⟩
  ·intro x c H L Q k h Hz Hr i Hi He Hq Hy Hp Hh;rw [xo] at i;obtain ⟨rfl,rfl⟩:=Prod.mk.inj (Ql i);obtain ⟨Hk,_⟩:=s.step q Hx Hr Hi;have Hl:J a k:=m a wr k (some W) Hj Hy (λr e=>by cases e;exact ⟨lR,Hg.iter_walk⟩);have Ho:J a (k.alloc (.cells #[c.pod,c.cont,.int .u64 c.cpus,.slice c.da c.dn c.dc] 129)):=m a k _ none Hl (World.grownBy_alloc _ _ _) (λr e=>by cases e);have Hf:=He.alloc (.cells #[c.pod,c.cont,.int .u64 c.cpus,.slice c.da c.dn c.dc] 129);obtain ⟨fn,tmps,assign,body,w,o⟩:=I a c _ Ho (by omega);clear Hp i;unfold RV.val at Hh ⊢
   gi_wp2
   refine o.mono ?_;rintro e P (⟨rfl,C,Hs⟩|⟨rfl,Hc⟩)
   ·have Ha:=Hf.of_walks Hs;have Hm:=qI Hk;have Hw:=qI Hq;clear Hk Hi Hh w o
    gi_wp2
    go_roundw
    case rel=>exact ⟨_,h,a++[c],Ha,by simp;omega,Hm.o,C⟩
    case measure=>rw [Ha.left_eq,Hg.left_eq];exact Hw.o
   ·clear Hh w o
    gi_wp2
    refine Qx (results_none rfl _ _ _) rfl ?_;exact ⟨⟨_,rfl⟩,.inr ⟨_,trivial,Hc⟩⟩
theorem Re (m:Option Nat) (w:World) :
  Calls prog 84 #[.map m] w λe w'=>e=.returned (.func (.func 127) #[] #[.pointer (some ⟨w,0,none⟩)])/\w'=w.alloc (.cells #[.map m] 149):=by
 go_enter func84,ntmps84
 go_wp2
 go_ret;exact ⟨rfl,rfl⟩
def encR (x:RV):Array Value:=#[.agg #[x.pod,x.cont,.int .u64 x.cpus,.slice x.da x.dn x.dc]]
theorem values_stops (F:Fence) (n:Nat) (r:F.fn 127) (e:F.round=none) (m:1<=n) (c b g:Nat) (d:List RV) (w:World) (f:c<w) (s:w.cell? c=some (.map b)) (a:bB w b g d) :
  SeqStopsK F n prog 127 #[c] encR KeepsWalks (λo=>o.Perm d) (λ_=>True) d.length w:=λl J j W h q _ k i=>
 Rd F n r e m l c b g d J j k W q ((h.cell (p:=c) f).trans s) (a.block (h.block b a.lt)) i
def cP (base:Nat) (w:World) (v:Value) (ys:List RV):Prop:=w.ownsRow base 129 4 v ys.length (ys.flatMap RV.cells)
theorem xq:(prog.info? 129).map (λi=>(i.zero,i.size,i.bytes))=some (some (.agg #[ByteArray.empty,ByteArray.empty,.int .u64 0,.slice none 0 0]),4,64):=by kernel_rfl
theorem xr (w:World) (x:RV) (t:TypeId):∀ j u,(RV.cells x)[j]?=some u->(w.alloc (.cells #[x.pod,x.cont,.int .u64 x.cpus,.slice x.da x.dn x.dc] t)).cell? ((w.heap.size:Addr).add j)=some u:=by
 intro j u a;rw [Addr.add_lit,Qd]
 match j,a with
 | 0,a=>simp [RV.cells] at a;subst a;simp
 | 1,a=>simp [RV.cells] at a;subst a;simp
 | 2,a=>simp [RV.cells] at a;subst a;simp
 | 3,a=>simp [RV.cells] at a;subst a;simp
 | n+4,a=>simp [RV.cells] at a
theorem cP.push {v:Value} {a:List RV} {x:RV} (h:w.ownsRow base 129 4 v (a.length+1) (a.flatMap RV.cells++RV.cells x)):cP base w v (a++[x]):=by
 unfold cP;rw [Q2,List.flatMap_append]
 simpa using h
theorem Rf (g b E:Nat) (s:List RV) (w:World) (F:w.cell? g=some (.map b)) (f:bB w b E s) (U:s.length<=1000) :
  Calls prog 159 #[.slice none 0 0,.func (.func 127) #[] #[.pointer (some ⟨g,0,none⟩)]] w λe w'=>(∃ v m,e=.returned v/\m.Perm s/\cP w w' v m)/\Below w w w':=by
 obtain ⟨i0,hi,Ho,Hp,Hs⟩:=info_parts xq;refine (callsIn_wide (n:=3)).1 ?_;refine callsIn_of_wp_marks func159 rfl trivial ?_ rfl;simp only [ntmps159,List.size_toArray,Qg,List.length_nil,Nat.reduceAdd,Nat.reduceSub,Array.replicate_succ,Array.replicate_zero,List.push_toArray,List.append_toArray,List.nil_append,List.cons_append]
 gi_wp2_with fail
 have He:=Q3 w _ F;have Hi:=qI ((Q0 w w).alloc (lR) (.cells #[.slice none 0 0] 120));have Hj:=qI (values_stops Fence.wide (3 - 1) trivial rfl (by omega) g b E s (w.alloc (.cells #[.slice none 0 0] 120)) (by simp;exact Nat.lt_succ_of_lt He) ((Hi.o.cell (p:=g) He).trans F) (f.block (Hi.o.block b f.lt)));have Ht:=qI (Boxed.new w 120 (.slice none 0 0));have Q:(w.alloc (.cells #[.slice none 0 0] 120)).heap.size=w.heap.size+1:=by simp
 generalize w.alloc (.cells #[.slice none 0 0] 120)=A at *;refine wpIn_rangeFunc_ownH (α:=RV) rfl (by omega) (gf:=127) (lb:=#[.pointer (some ⟨g,0,none⟩)]) rfl trivial (enters_of func127 (by kernel_rfl) rfl)
  Hj.o walksK_t walksK_b (Q0 _ _) (λ_=>rfl)
  (λa W=>(∃ v,Boxed W w 120 v/\W.ownsRow w 129 4 v a.length (a.flatMap RV.cells)/\True)/\Below w w W)
  (λ_ _ _=>False)
  (OwnFrom.and (Own.from (holdsRow_own w w 120 129 4 (λa:List RV=>a.length) (λa=>a.flatMap RV.cells) λ_ _=>True) _) (ownFrom_below (lR) (by omega)))
  (λ_ _ _ _ _ hs _ _=>hs)
  ⟨⟨_,Ht.o,Qw _ _ _ _,trivial⟩,Hi.o⟩
  (λx y W=>∃ c,A.heap.size<=c/\W.heap[c]?=some (.cells #[x.pod,x.cont,.int .u64 x.cpus,.slice x.da x.dn x.dc] 129 (0,0))/\y={ tmps:=#[Value.slice none 0 0,Value.func (Fn.func 127) #[] #[Value.pointer (some { block:=g,off:=0 })],Value.pointer (some { block:=w.heap.size,off:=0 }),undef,Value.slice none 0 0,.pointer (some ⟨c,0,none⟩),Value.func (Fn.func 127) #[] #[Value.pointer (some { block:=g,off:=0 })],.agg #[x.pod,x.cont,.int .u64 x.cpus,.slice x.da x.dn x.dc],undef,undef,undef,undef,undef],defers:=[] })
  (λx y=>Own.from (λu W W' row hs H z=>by
   obtain ⟨c,M,t,N⟩:=hs;refine ⟨c,M,(H.block c (gS t).1 λe=>?_).trans t,N⟩;obtain ⟨o,q,G⟩:=z c e.symm;rw [t] at q;cases q;cases G) _) ?assign ?body ?done ?stop
 case assign=>
  rintro l a x W K ⟨⟨v,Hc,Ha,_⟩,d⟩ i;have L:=qI i;clear i;unfold encR
  gi_wp2_with fail
  exact L.o _ _ ((KeepsOthers.alloc _ _).from _) (KeepsWalks.alloc _ _) ⟨⟨v,Hc.alloc _,Ha.alloc _,trivial⟩,d.alloc d.size _⟩ ⟨W,by have:=Hc.lt;have:=d.size;omega,World.alloc_heap_new W _,rfl⟩
 case body=>
  rintro l a x y W Hx ⟨r,z⟩ ⟨⟨v,Hc,Ha,_⟩,d⟩ ⟨c,Hy,Hg,rfl⟩ Hz;have c0:W.cell? ⟨c,0,none⟩=some (.string x.pod):=by simp [World.cell?,Hg]
  have c1:W.cell? ⟨c,1,none⟩=some (.string x.cont):=by simp [World.cell?,Hg]
  have c2:W.cell? ⟨c,2,none⟩=some (.int .u64 x.cpus):=by simp [World.cell?,Hg]
  have c3:W.cell? ⟨c,3,none⟩=some (.slice x.da x.dn x.dc):=by simp [World.cell?,Hg]
  have R:=Hc.cell;have J:=qI (xr W x 129);have Hb:=qI Ha;have Hr:=qI Hc;have j:=qI d;have Hw:a.length<=1000:=by omega
  clear Ha Hc d Hg z
  gi_wp2_with (gi_at_builtin;refine wpListIn_append_own _ rfl _ _ 120 rfl w 129 i0 (.agg #[ByteArray.empty,ByteArray.empty,.int .u64 0,.slice none 0 0]) 4 64 underlying120 hi Ho Hp Hs rfl (by decide) _ _ _ rfl (Hb.o.alloc _) W 1 1 (RV.cells x) rfl rfl J.o (by intro u B;simp [RV.cells] at B;rcases B with rfl|rfl|rfl|rfl <;> rfl) (by unfold maxLen;omega) (by omega) (by have:=j.o.size;simp;omega) ?_;intro P V Hf Hh _;obtain ⟨X,C,rfl⟩:=ownsRow_succ Hf;obtain ⟨Hl,Hm,Hn,Hk,Hq⟩:=Hr.o.appended (by decide) Hb.o j.o.size (lR) Hf Hh;have T:=Hl.cell;have Hv:=Hl.frozen)
  exact ⟨Hk.from _,⟨Hk.size,λk o O q=>Hk.same k o O (Obj.not_cells_of_walk q)⟩,⟨_,Hm,cP.push Hn⟩,j.o.trans Hq⟩
 case done=>
  rintro D m W S I ⟨⟨v,Hc,Ha,_⟩,d⟩ i;have G:=Hc.cell;have Hb:=qI Ha;have j:=qI d;clear Ha Hc d
  gi_wp2_with fail
  refine ⟨by simp,.inl ⟨_,_,rfl,run_takeDeferred i,?_⟩⟩;refine ⟨_,results_tmp rfl _ _ _,?_⟩;exact ⟨⟨v,rfl,m,I,ownsRow_putObj Hb.o _ i rfl⟩,j.o.trans (belowK_b (w:=w) (lR) _ D _ _ (by omega) i rfl rfl)⟩
 case stop=>exact λ_ _ _ _ _ _ h _=>h.elim
theorem cP.slice {v:Value} {e:List RV} (h:cP base w v e):∃ a c,v=.slice a e.length c/\e.length<=c:=by
 rcases h.2 with ⟨b,i⟩|⟨g,f,j,b,_,_,d,_⟩
 ·exact ⟨none,0,by rw [b,i],by omega⟩
 ·exact ⟨_,f,b,d⟩
theorem Rg (h b l:Nat) (f:List RV) (w:World) (m:w.cell? h=some (.map b)) (d:bB w b l f) (q:f.length<=1000) :
  Calls prog 125 #[.func (.func 127) #[] #[.pointer (some ⟨h,0,none⟩)]] w λe w'=>(∃ v g,e=.returned v/\g.Perm f/\cP w w' v g)/\Below w w w':=by
 have o:=qI (Rf h b l f w m d q);clear m d
 go_enter func125,ntmps125
 go_wp2_with fail
 refine o.o.mono ?_;rintro e s ⟨⟨v,g,rfl,k,i⟩,j⟩;have p:=qI i;have n:=qI k;have r:=qI j;obtain ⟨a,c,rfl,_⟩:=i.slice;clear i k j
 go_wp2
 go_ret;exact ⟨⟨_,g,rfl,n.o,p.o⟩,r.o⟩
end
