import Derived.Test.YtjlblidnfebmiaaGreatDoorF2
import Derived.Maps.OwnSet
import Derived.Maps.Range
import Derived.Maps.Views
import Derived.DeepKeys4
import Derived.RangeFuncNested
import Derived.RangeFuncBound
import Derived.RangeFuncCalls
import Derived.RangeFuncLeaves
import Derived.RangeFuncBox
import Derived.RangeFuncMany
import Derived.Sort.MapsRangeIn
import Derived.Shelf.Abstract
import Derived.Shelf.RegionOpen
import Derived.OwnWalkIn
import Derived.TacticsInMore
import Derived.LoopNIn
import Derived.LoopIn
import Derived.Maps.OwnIn
import Derived.Maps.AppendAt
set_option maxRecDepth 100000
set_option maxHeartbeats 16000000
open Go Go.RowKit Go.Shelf
attribute [local go_sem] Oper.semAt_some
open Go.Proofs.Tryz
namespace Go.Proofs.YtjlblidnfebmiaaGreatDoor
variable{B base n:Nat}{a b:ByteArray}{w:World}
section
open RowKit Go.ChangeMaps Go.Maps
structure RV where
 pod:ByteArray
 cont:ByteArray
 cpus:Int
 da:Option Addr
 dn:Nat
 dc:Nat
def RV.val (x:RV):Value:=.agg #[x.pod,x.cont,.int .u64 x.cpus,.slice x.da x.dn x.dc]
def RV.cells (x:RV):List Value:=[.string x.pod,.string x.cont,.int .u64 x.cpus,.slice x.da x.dn x.dc]
theorem RV.val_inj{x y:RV}(h:x.val=y.val):x=y:=by
 cases x;cases y
 simp[RV.val] at h
 simp[h]
def ov:Value->Option (DataW Value × List MemPlace)
 | .agg ⟨[.string p,.string c,.int .u64 n,.slice a m k]⟩=>some (.held (.agg #[.string p,.string c,.int .u64 n,.slice a m k]),[])
 | _=>none
theorem xI(x:RV):ov x.val=some (.held x.val,[]):=rfl
theorem D2{v:Value}{y:DataW Value × List MemPlace}(h:ov v=some y):∃x:RV,v=x.val/\y=(.held x.val,[]):=by
 unfold ov at h
 split at h
 ·rename_i p c n a m k
  cases h;exact⟨⟨p,c,n,a,m,k⟩,rfl,rfl⟩
 ·cases h
def jF (a b:ByteArray):Value:=.agg #[a,b]
def gi (a b:ByteArray):Lit:=.string (keyBytes [.string a.data.toList,.string b.data.toList])
theorem RS:laidOutB prog=true:=by kernel_rfl
theorem D3:(179:TypeId)<prog.types.size:=of_decide_eq_true (by kernel_rfl)
theorem RT:(match prog.underlying 179 with|some (.array _ _)|some (.struct _)=>true|_=>false)=true:=by kernel_rfl
theorem ow:Keyed prog 179:=Keyed.of_law (deep_law_laid RS (m:=2) (by omega) D3 (by kernel_rfl) RT)
theorem RU:prog.keyType 179=true:=by kernel_rfl
theorem D4:prog.cellsOf 179=2:=by kernel_rfl
theorem RW:prog.cellsOf 9=1:=by kernel_rfl
theorem RX{k m:Nat}(h:k<m):∃n,m=n+1:=⟨m - 1,by omega⟩
theorem rr(a b:ByteArray)(d:a.size<=maxLen)(e:b.size<=maxLen):keyOf prog 179 (jF a b)=some (gi a b):=by
 obtain⟨n,f⟩:=RX D3;have c:∀s:ByteArray,s.size<=maxLen->prog.keyLits (n+1) 9 [.string s]=some [.string s.data.toList]:=λs hs=>by
  unfold Program.keyLits;rw[underlying9]
  simp[hs]
 unfold keyOf;simp only[underlying179,jF,RU,Value.formed,D4,Value.cells];rw[if_pos (by rfl),f];unfold Program.keyLits;rw[underlying179]
 simp[D4,RW,c a d,c b e,gi]
theorem RY{c d:ByteArray}(g:a.size<=maxLen)(i:b.size<=maxLen)(j:c.size<=maxLen)(hd:d.size<=maxLen)(h:gi a b=gi c d):a=c/\b=d:=by
 have f:=rr a b g i;have e:=rr c d j hd;rw[<- h] at e
 have:=ow.inj f e
 simp[jF] at this
 exact this
end
section
open RowKit Go.ChangeMaps Go.Maps Go.WideShapes
def RV.key (x:RV):Lit:=gi x.pod x.cont
def RV.Short (x:RV):Prop:=x.pod.size<=7000/\x.cont.size<=7000
theorem kU(h:n<=7000):n<=maxLen:=by unfold maxLen;omega
theorem RV.keyOf{x:RV}(h:x.Short):keyOf prog 179 (jF x.pod x.cont)=some x.key:=rr _ _ (kU h.1) (kU h.2)
theorem RV.key_eq{x:RV}(h:x.Short)(c:a.size<=7000)(d:b.size<=7000):x.key=gi a b↔(x.pod=a/\x.cont=b):=by
 constructor
 ·exact λe=>RY (kU h.1) (kU h.2) (kU c) (kU d) e
 ·rintro⟨rfl,rfl⟩;rfl
theorem RZ(a b c d:ByteArray):(gi a b).sameKey (gi c d)=true↔gi a b=gi c d:=by
 constructor
 ·exact WideAt.sameKey_eq
 ·intro e;rw[e];exact WideAt.sameKey_self trivial
def mS (xs:List RV):List (Lit × DataW Value):=xs.map λx=>(x.key,.held x.val)
def bF (w:World) (B n:Nat) (xs:List RV):Prop:=(∀x∈xs,x.Short)/\∃es,w.ownsMap prog 179 ov B n (.map es)/\es.Perm (mS xs)
theorem bF.lt{b:List RV}(h:bF w B n b):B<w:=by
 obtain⟨_,c,a,_⟩:=h;exact a.lt
theorem bF.block{w':World}{b:List RV}(h:bF w B n b)(e:w'.heap[B]?=w.heap[B]?):bF w' B n b:=by
 obtain⟨hs,g,⟨d,a,f,r⟩,c⟩:=h;exact⟨hs,g,⟨d,a,e.trans f,r⟩,c⟩
theorem bF.made(w:World):bF (w.alloc (.map #[] 0)) w 0 []:=
 ⟨λx a=>by simp at a,[],World.ownsMap_made w _ _ _,List.Perm.nil⟩
theorem bF.keys{b:List RV}(h:bF w B n b):(b.map RV.key).Nodup:=by
 obtain⟨hs,i,d,g⟩:=h;obtain⟨f,e,hd,_⟩:=d.entries ow;cases e;have c:(i.map Prod.fst).Nodup:=List.pairwise_map.2 hd;have a:=(g.map Prod.fst).nodup_iff.1 c;unfold mS at a;rw[List.map_map] at a;exact a
theorem bF.has{d:List RV}(h:bF w B n d){j:List (Lit × DataW Value)}(g:j.Perm (mS d))(f:a.size<=7000)(i:b.size<=7000) :
  Maps.has (.map j) (gi a b)=d.any λx=>decide (x.pod=a/\x.cont=b):=by
 rw[Maps.has_eq,Bool.eq_iff_iff,List.any_eq_true,List.any_eq_true];constructor
 ·rintro⟨p,k,e⟩;obtain⟨x,c,rfl⟩:=Qk.1 (g.mem_iff.1 k);exact⟨x,c,Qc ((RV.key_eq (h.1 x c) f i).1 (WideAt.sameKey_eq e))⟩
 ·rintro⟨x,c,e⟩;refine⟨(x.key,.held x.val),g.mem_iff.2 (Qk.2 ⟨x,c,rfl⟩),?_⟩;rw[show x.key=gi a b from (RV.key_eq (h.1 x c) f i).2 (of_decide_eq_true e)];exact WideAt.sameKey_self trivial
theorem R0(w:World):(zeroValue 129).run prog w=.ok (RV.val ⟨ByteArray.empty,ByteArray.empty,0,none,0,0⟩) w:=by kernel_rfl
theorem bF.put{d:List RV}(h:bF w B n d)(x:RV)(b:x.Short)(o:n<1000)(c:(d.any λy=>decide (y.pod=x.pod/\y.cont=x.cont))=false) :
  ∃w',(Instr.mapUpdate 149 (.map B) (jF x.pod x.cont) x.val).run prog w=.ok () w'/\bF w' B (n+1) (x :: d)/\w.grownBy w' (some B)/\w'=w.heap.size:=by
 obtain⟨f,m,g⟩:=h.2;obtain⟨w',Ha,Hc,i⟩:=m.store ow underlying149 (by unfold maxLen;omega) (RV.keyOf b) (xI x);refine⟨w',Ha,⟨λy a=>?_,putKey x.key (.held x.val) f,Hc,?_⟩,i.grown,?_⟩
 ·rcases List.mem_cons.1 a with rfl|a
  ·exact b
  ·exact h.1 y a
 ·unfold putKey;refine (insert_perm _ _).trans ?_;have hf:f.filter (notKey x.key)=f:=by
   refine List.filter_eq_self.2 λp k=>?_
   obtain⟨y,a,rfl⟩:=Qk.1 (g.mem_iff.1 k);have Hb:¬ (y.pod=x.pod/\y.cont=x.cont):=of_decide_eq_false (by have:=List.any_eq_false.1 c y a;simpa using this)
   show (!y.key.sameKey x.key)=true
   rw[Bool.not_eq_true'];refine sameKey_ne λe=>Hb ((RV.key_eq (h.1 y a) b.1 b.2).1 e)
  rw[hf];exact List.Perm.cons _ g
 ·obtain⟨l,c0,j,c1,_,rfl⟩:=i
  simp[setBlock]
theorem bF.drop{c:List RV}(h:bF w B n c)(a b:ByteArray)(d:a.size<=7000)(f:b.size<=7000)(g:TypeId) :
  ∃w',(Builtin.delete_ #[149,179] g #[.map B,jF a b]).run prog w=.ok (.tuple #[]) w'/\bF w' B n (c.filter λx=>!decide (x.pod=a/\x.cont=b))/\w.grownBy w' (some B)/\w'=w.heap.size:=by
 obtain⟨q,o,l⟩:=h.2;obtain⟨w',Ha,Hc,i⟩:=o.drop ow underlying149 (rr a b (kU d) (kU f)) g;refine⟨w',Ha,⟨λy p=>h.1 y (List.mem_filter.1 p).1,delKey (gi a b) q,Hc,?_⟩,i.grown,?_⟩
 ·unfold delKey;refine (l.filter _).trans ?_;unfold mS;rw[List.filter_map];have Hb:c.filter (notKey (gi a b) ∘ λx:RV=>(x.key,(DataW.held x.val:DataW Value)))=c.filter λx=>!decide (x.pod=a/\x.cont=b):=by
   refine List.filter_congr λx m=>?_
   have e:x.key.sameKey (gi a b)=decide (x.pod=a/\x.cont=b):=by
    rw[Bool.eq_iff_iff,decide_eq_true_iff];exact (RZ _ _ _ _).trans (RV.key_eq (h.1 x m) d f)
   show (!x.key.sameKey (gi a b))=_
   rw[e]
  rw[Hb]
 ·obtain⟨k,c0,j,c1,_,rfl⟩:=i
  simp[setBlock]
def Came (left:Lit->Bool) (xs pre:List RV):Prop:=∃rest,xs.Perm (pre++rest)/\(∀x∈pre,left x.key=false)/\∀x∈rest,left x.key=true
theorem Came.start{a:List RV}{c:List (Lit × DataW Value)}(d:c.Perm (mS a)):Came (Maps.has (.map c)) a []:=
 ⟨a,by simp,λx b=>by simp at b,λx b=>List.any_eq_true.2 ⟨(x.key,.held x.val),d.mem_iff.2 (Qk.2 ⟨x,b,rfl⟩),WideAt.sameKey_self trivial⟩⟩
theorem Came.finish{left:Lit->Bool}{a pre:List RV}(h:Came left a pre)(d:∀c,left c=false):pre.Perm a:=by
 obtain⟨rest,b,_,e⟩:=h
 have:rest=[]:=by
  cases rest with
  | nil=>rfl
  | cons x l=>have:=e x (by simp);rw[d] at this;cases this
 subst this;rw[List.append_nil] at b;exact b.symm
theorem at_mem{d:List (Lit × DataW Value)}{b:Lit}{y:DataW Value}(a:∀f,(DataW.map d).atKey b f=y):∃p∈d,p.1=b/\p.2=y:=by
 unfold DataW.atKey at a;simp only at a;cases hf:d.find? (λp=>p.1.sameKey b) with
 | none=>
  rw[hf] at a;have e:=a .nil;have c:=a (.lit .nil);simp only at e c;rw[<- e] at c;cases c
 | some p=>
  rw[hf] at a;exact⟨p,List.mem_of_find?_eq_some hf,WideAt.sameKey_eq (List.find?_some (p:=λq:Lit × DataW Value=>q.1.sameKey b) hf),a .nil⟩
theorem Came.step{left:Lit->Bool}{g pre:List RV}{l:List (Lit × DataW Value)}(h:Came left g pre)(q:l.Perm (mS g))(r:(g.map RV.key).Nodup){i:Lit}{c:RV}(f:left i=true)(k:∀t,(DataW.map l).atKey i t=.held c.val) :
  Came (λz=>left z && !z.sameKey i) g (pre++[c])/\i=c.key:=by
 obtain⟨p,n,rfl,Hi⟩:=at_mem k;obtain⟨x,s,rfl⟩:=Qk.1 (q.mem_iff.1 n);have e:x=c:=RV.val_inj (by simpa using Hi);subst e;obtain⟨rest,Ha,m,o⟩:=h;have Hb:x∈rest:=by
  rcases Qi.1 (Ha.mem_iff.1 s) with b|b
  ·have:=m x b
   rw[this] at f;cases f
  ·exact b
 obtain⟨r1,d,rfl⟩:=List.append_of_mem Hb;have Hh:g.Perm ((pre++[x])++(r1++d)):=by
  refine Ha.trans ?_;rw[List.append_assoc];exact List.Perm.append_left _ List.perm_middle
 have Hf:((pre++(r1++x :: d)).map RV.key).Nodup:=(Ha.map _).nodup_iff.1 r;refine⟨⟨r1++d,Hh,λy j=>?_,λy j=>?_⟩,rfl⟩
 ·rcases Qi.1 j with b|b
  ·show (left y.key && !y.key.sameKey x.key)=false
   rw[m y b];rfl
  ·simp at b
   subst b
   show (left y.key && !y.key.sameKey y.key)=false
   rw[WideAt.sameKey_self (show WideAt.IsKeyLit y.key from trivial)];simp
 ·have b:y∈r1++x :: d:=by
   rcases Qi.1 j with b|b
   ·exact Qi.2 (.inl b)
   ·exact Qi.2 (.inr (Qv _ b))
  have Hg:y.key≠x.key:=by
   rw[Qj,List.nodup_append] at Hf;have Hc:=Hf.2.1;have He:((x :: (r1++d)).map RV.key).Nodup:=((List.perm_middle (a:=x) (l₁:=r1) (l₂:=d)).map RV.key).nodup_iff.1 Hc;rw[Qq,List.nodup_cons] at He;exact λe=>He.1 (by rw[<- e];exact List.mem_map_of_mem j)
  show (left y.key && !y.key.sameKey x.key)=true
  rw[o y b,sameKey_ne Hg];rfl
end
section
open RowKit Shelf Go.Maps
theorem R6{key:Value}{a:Lit}(h:keyOf prog 179 key=some a):∃cs:Array Value,key=.agg cs:=by
 unfold keyOf at h;rw[underlying179] at h;simp only at h
 split at h
 ·rename_i hf
  cases key <;> simp[Value.formed,underlying179] at hf;exact⟨_,rfl⟩
 ·cases h
theorem R7(F:Fence)(n:Nat)(C:F.fn 127)(p:F.round=none)(P:1<=n)(l q b i:Nat)(f:List RV)(J u:List RV->World->Prop)
  (E:∀pre (x:RV) W,J pre W->pre.length<f.length->YieldAt F (n - 1) prog l #[.agg #[x.pod,x.cont,.int .u64 x.cpus,.slice x.da x.dn x.dc]] W λe W'=>
   (e=.returned true/\J (pre++[x]) W'/\KeepsWalks W W')\/(e=.returned false/\u (pre++[x]) W'))
  (W:World) (k:AbidesFrom W J) (S:W.cell? q=some (.map b)) (a:bF W b i f) (B:J [] W) :
  CallsIn F n prog 127 #[.func (.yield l) #[] #[],q] W λe W'=>(∃v,e=.returned v)/\
   ((∃z,z.Perm f/\J z W')\/(∃pre,True/\u pre W')):=by
 have Hr:=a.keys;obtain⟨M,t,I,o⟩:=a;have Hy:Maps.size (.map t:DataW Value)=f.length:=by rw[Maps.size_eq,o.length_eq,mS,Q9]
 refine callsIn_of_wp func127 rfl C ?_ p;simp only[ntmps127,List.size_toArray,Qg,List.length_nil,Nat.reduceAdd,Nat.reduceSub,Array.replicate_succ,Array.replicate_zero,List.push_toArray,List.append_toArray,List.nil_append,List.cons_append]
 gi_wp2_with (first
  | (gi_at_range;refine wpListIn_range_own _ rfl _ 149 rfl 179 129 ow underlying149 _ b i _ rfl I ?_;intro A Hh Hx Q)
  | gi_in)
 go_frame
 gi_loopw [4] (λ_ wr=>∃(left:Lit->Bool) (d:Nat) (pre:List RV),wr.ranges prog 179 ov b W i (.map t) left d/\pre.length+d<=f.length/\Came left f pre/\J pre wr)
  λ_ wr=>wr.rangeLeft b W
 case atStart=>
  exact⟨_,_,[],Hh,by rw[Hy];simp,Came.start o,k [] W A none B Hx (λr e=>by cases e)⟩
 case round=>
  obtain⟨left,d,pre,Hb,K,s,Hi⟩:=hrel
  gi_wp2_with (first
   | (gi_at_next;refine wpListIn_next_ranges _ rfl _ rfl 179 ow ov (λcs:Array Value=>Value.agg cs) RV.val (λkey H D=>R6 D) (λv y h=>by obtain⟨c,rfl,_⟩:=D2 h;exact⟨c,rfl⟩) b W.heap.size i _ _ _ rfl Hb ?_ ?_)
   | gi_in)
  ·intro L Ht
   gi_wp2
   go_end0
   exact⟨⟨_,rfl⟩,.inl ⟨pre,s.finish Ht,Hi⟩⟩
  ·intro x c H R O j g Hn Hw h Hk Hf Hv Hl Hp He;rw[xI] at h;obtain⟨rfl,rfl⟩:=Prod.mk.inj (Ql h);obtain⟨Hj,_⟩:=s.step o Hr Hw Hk;have G:J pre j:=k pre wr j (some W) Hi Hl (λr e=>by cases e;exact⟨lR,Hb.iter_walk⟩);have Hz:J pre (j.alloc (.cells #[c.pod,c.cont,.int .u64 c.cpus,.slice c.da c.dn c.dc] 129)):=k pre j _ none G (World.grownBy_alloc _ _ _) (λr e=>by cases e);have Hg:=Hf.alloc (.cells #[c.pod,c.cont,.int .u64 c.cpus,.slice c.da c.dn c.dc] 129);obtain⟨fn,tmps,assign,body,w,m⟩:=E pre c _ Hz (by omega);clear Hp h;unfold RV.val at He ⊢
   gi_wp2
   refine m.mono ?_;rintro e N (⟨rfl,Hs,Hq⟩|⟨rfl,Hc⟩)
   ·have Ha:=Hg.of_walks Hq;have Hm:=qI Hj;have Ho:=qI Hv;clear Hj Hk He w m
    gi_wp2
    go_roundw
    case rel=>exact⟨_,g,pre++[c],Ha,by simp;omega,Hm.o,Hs⟩
    case measure=>rw[Ha.left_eq,Hb.left_eq];exact Ho.o
   ·clear He w m
    gi_wp2
    refine Qx (results_none rfl _ _ _) rfl ?_;exact⟨⟨_,rfl⟩,.inr ⟨_,trivial,Hc⟩⟩
theorem R8(m:Option Nat)(w:World) :
  Calls prog 84 #[.map m] w λe w'=>e=.returned (.func (.func 127) #[] #[.pointer (some ⟨w,0,none⟩)])/\w'=w.alloc (.cells #[.map m] 149):=by
 go_enter func84,ntmps84
 go_wp2
 go_ret;exact⟨rfl,rfl⟩
def encR (x:RV):Array Value:=#[.agg #[x.pod,x.cont,.int .u64 x.cpus,.slice x.da x.dn x.dc]]
theorem values_stops(F:Fence)(n:Nat)(i:F.fn 127)(e:F.round=none)(r:1<=n)(c b g:Nat)(d:List RV)(w:World)(f:c<w)(s:w.cell? c=some (.map b))(a:bF w b g d) :
  SeqStopsK F n prog 127 #[c] encR KeepsWalks (λo=>o.Perm d) (λ_=>True) d.length w:=λl J j W h k _ q m=>
 R7 F n i e r l c b g d J j q W k ((h.cell (p:=c) f).trans s) (a.block (h.block b a.lt)) m
def gj (base:Nat) (w:World) (v:Value) (ys:List RV):Prop:=w.ownsRow base 129 4 v ys.length (ys.flatMap RV.cells)
theorem D5:(prog.info? 129).map (λi=>(i.zero,i.size,i.bytes))=some (some (.agg #[ByteArray.empty,ByteArray.empty,.int .u64 0,.slice none 0 0]),4,64):=by kernel_rfl
theorem D6(w:World)(x:RV)(t:TypeId):∀j u,(RV.cells x)[j]?=some u->(w.alloc (.cells #[x.pod,x.cont,.int .u64 x.cpus,.slice x.da x.dn x.dc] t)).cell? ((w.heap.size:Addr).add j)=some u:=by
 intro j u a;rw[Addr.add_lit,Qd]
 match j,a with
 | 0,a=>simp[RV.cells] at a;subst a;simp
 | 1,a=>simp[RV.cells] at a;subst a;simp
 | 2,a=>simp[RV.cells] at a;subst a;simp
 | 3,a=>simp[RV.cells] at a;subst a;simp
 | n+4,a=>simp[RV.cells] at a
theorem gj.push{v:Value}{a:List RV}{x:RV}(h:w.ownsRow base 129 4 v (a.length+1) (a.flatMap RV.cells++RV.cells x)):gj base w v (a++[x]):=by
 unfold gj;rw[Q2,List.flatMap_append]
 simpa using h
theorem R9(f b z:Nat)(j:List RV)(w:World)(F:w.cell? f=some (.map b))(d:bF w b z j)(U:j.length<=1000) :
  Calls prog 159 #[.slice none 0 0,.func (.func 127) #[] #[.pointer (some ⟨f,0,none⟩)]] w λe w'=>(∃v q,e=.returned v/\q.Perm j/\gj w w' v q)/\Below w w w':=by
 obtain⟨i0,hi,Ho,Hr,Hq⟩:=info_parts D5;refine (callsIn_wide (n:=3)).1 ?_;refine callsIn_of_wp_marks func159 rfl trivial ?_ rfl;simp only[ntmps159,List.size_toArray,Qg,List.length_nil,Nat.reduceAdd,Nat.reduceSub,Array.replicate_succ,Array.replicate_zero,List.push_toArray,List.append_toArray,List.nil_append,List.cons_append]
 gi_wp2_with fail
 have He:=Q3 w _ F;have Hk:=qI ((Q0 w w).alloc (lR) (.cells #[.slice none 0 0] 120));have Hj:=qI (values_stops Fence.wide (3 - 1) trivial rfl (by omega) f b z j (w.alloc (.cells #[.slice none 0 0] 120)) (by simp;exact Nat.lt_succ_of_lt He) ((Hk.o.cell (p:=f) He).trans F) (d.block (Hk.o.block b d.lt)));have Hn:=qI (Boxed.new w 120 (.slice none 0 0));have T:(w.alloc (.cells #[.slice none 0 0] 120)).heap.size=w.heap.size+1:=by simp
 generalize w.alloc (.cells #[.slice none 0 0] 120)=A at *;refine wpIn_rangeFunc_ownH (α:=RV) rfl (by omega) (gf:=127) (lb:=#[.pointer (some ⟨f,0,none⟩)]) rfl trivial (enters_of func127 (by kernel_rfl) rfl)
  Hj.o walksK_t walksK_b (Q0 _ _) (λ_=>rfl)
  (λpre W=>(∃v,Boxed W w 120 v/\W.ownsRow w 129 4 v pre.length (pre.flatMap RV.cells)/\True)/\Below w w W)
  (λ_ _ _=>False)
  (OwnFrom.and (Own.from (holdsRow_own w w 120 129 4 (λpre:List RV=>pre.length) (λpre=>pre.flatMap RV.cells) λ_ _=>True) _) (ownFrom_below (lR) (by omega)))
  (λ_ _ _ _ _ hs _ _=>hs)
  ⟨⟨_,Hn.o,Qw _ _ _ _,trivial⟩,Hk.o⟩
  (λx y W=>∃a,A.heap.size<=a/\W.heap[a]?=some (.cells #[x.pod,x.cont,.int .u64 x.cpus,.slice x.da x.dn x.dc] 129 (0,0))/\y={ tmps:=#[Value.slice none 0 0,Value.func (Fn.func 127) #[] #[Value.pointer (some { block:=f,off:=0 })],Value.pointer (some { block:=w.heap.size,off:=0 }),undef,Value.slice none 0 0,.pointer (some ⟨a,0,none⟩),Value.func (Fn.func 127) #[] #[Value.pointer (some { block:=f,off:=0 })],.agg #[x.pod,x.cont,.int .u64 x.cpus,.slice x.da x.dn x.dc],undef,undef,undef,undef,undef],defers:=[] })
  (λx y=>Own.from (λu W W' row hs N t=>by
   obtain⟨a,M,s,L⟩:=hs;refine⟨a,M,(N.block a (gS s).1 λe=>?_).trans s,L⟩;obtain⟨o,m,B⟩:=t a e.symm;rw[s] at m;cases m;cases B) _) ?assign ?body ?done ?stop
 case assign=>
  rintro l pre x W K ⟨⟨v,Hc,Ha,_⟩,c⟩ g;have G:=qI g;clear g;unfold encR
  gi_wp2_with fail
  exact G.o _ _ ((KeepsOthers.alloc _ _).from _) (KeepsWalks.alloc _ _) ⟨⟨v,Hc.alloc _,Ha.alloc _,trivial⟩,c.alloc c.size _⟩ ⟨W,by have:=Hc.lt;have:=c.size;omega,World.alloc_heap_new W _,rfl⟩
 case body=>
  rintro l pre x y W Hy ⟨r,t⟩ ⟨⟨v,Hc,Ha,_⟩,c⟩ ⟨a,R,Hg,rfl⟩ Hz;have c0:W.cell? ⟨a,0,none⟩=some (.string x.pod):=by simp[World.cell?,Hg]
  have c1:W.cell? ⟨a,1,none⟩=some (.string x.cont):=by simp[World.cell?,Hg]
  have c2:W.cell? ⟨a,2,none⟩=some (.int .u64 x.cpus):=by simp[World.cell?,Hg]
  have c3:W.cell? ⟨a,3,none⟩=some (.slice x.da x.dn x.dc):=by simp[World.cell?,Hg]
  have Hx:=Hc.cell;have J:=qI (D6 W x 129);have Hb:=qI Ha;have Hp:=qI Hc;have i:=qI c;have Hw:pre.length<=1000:=by omega
  clear Ha Hc c Hg t
  gi_wp2_with (gi_at_builtin;refine wpListIn_append_own _ rfl _ _ 120 rfl w 129 i0 (.agg #[ByteArray.empty,ByteArray.empty,.int .u64 0,.slice none 0 0]) 4 64 underlying120 hi Ho Hr Hq rfl (by decide) _ _ _ rfl (Hb.o.alloc _) W 1 1 (RV.cells x) rfl rfl J.o (by intro u C;simp[RV.cells] at C;rcases C with rfl|rfl|rfl|rfl <;> rfl) (by unfold maxLen;omega) (by omega) (by have:=i.o.size;simp;omega) ?_;intro Q O Hf Hh _;obtain⟨S,E,rfl⟩:=ownsRow_succ Hf;obtain⟨Hl,Ht,Hm,Hi,Hs⟩:=Hp.o.appended (by decide) Hb.o i.o.size (lR) Hf Hh;have Hv:=Hl.cell;have P:=Hl.frozen)
  exact⟨Hi.from _,⟨Hi.size,λk o H m=>Hi.same k o H (Obj.not_cells_of_walk m)⟩,⟨_,Ht,gj.push Hm⟩,i.o.trans Hs⟩
 case done=>
  rintro D q W V I ⟨⟨v,Hc,Ha,_⟩,c⟩ g;have B:=Hc.cell;have Hb:=qI Ha;have i:=qI c;clear Ha Hc c
  gi_wp2_with fail
  refine⟨by simp,.inl ⟨_,_,rfl,run_takeDeferred g,?_⟩⟩;refine⟨_,results_tmp rfl _ _ _,?_⟩;exact⟨⟨v,rfl,q,I,ownsRow_putObj Hb.o _ g rfl⟩,i.o.trans (belowK_b (w:=w) (lR) _ D _ _ (by omega) g rfl rfl)⟩
 case stop=>exact λ_ _ _ _ _ _ h _=>h.elim
theorem gj.slice{v:Value}{e:List RV}(h:gj base w v e):∃a c,v=.slice a e.length c/\e.length<=c:=by
 rcases h.2 with⟨f,j⟩|⟨g,d,i,f,_,_,b,_⟩
 ·exact⟨none,0,by rw[f,j],by omega⟩
 ·exact⟨_,d,f,b⟩
theorem Sa(h b k:Nat)(f:List RV)(w:World)(m:w.cell? h=some (.map b))(d:bF w b k f)(n:f.length<=1000) :
  Calls prog 125 #[.func (.func 127) #[] #[.pointer (some ⟨h,0,none⟩)]] w λe w'=>(∃v g,e=.returned v/\g.Perm f/\gj w w' v g)/\Below w w w':=by
 have o:=qI (R9 h b k f w m d n);clear m d
 go_enter func125,ntmps125
 go_wp2_with fail
 refine o.o.mono ?_;rintro e s ⟨⟨v,g,rfl,j,i⟩,l⟩;have r:=qI i;have q:=qI j;have p:=qI l;obtain⟨a,c,rfl,_⟩:=i.slice;clear i j l
 go_wp2
 go_ret;exact⟨⟨_,g,rfl,q.o,r.o⟩,p.o⟩
end
