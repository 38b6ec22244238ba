import Derived.Test.YtbmmnflgnmjboaaGreatDoorA2
import Derived.Maps.OwnSet
import Derived.Maps.Range
import Derived.Maps.Views
import Derived.DeepKeys4
import Derived.RangeFuncMany
import Derived.Sort.MapsRangeIn
import Derived.Maps.AppendAt
set_option maxRecDepth 100000
set_option maxHeartbeats 16000000
namespace Go.Proofs.YtbmmnflgnmjboaaGreatDoor
section
open RowKit Go.ChangeMaps Go.Maps
structure RV where
 pod:ByteArray
 cont:ByteArray
 cpus:Int
 da:Option Addr
 dn:Nat
 dc:Nat
def RV.val (x:RV):Value:=.agg #[.string x.pod,.string x.cont,.int .u64 x.cpus,.slice x.da x.dn x.dc]
def RV.cells (x:RV):List Value:=[.string x.pod,.string x.cont,.int .u64 x.cpus,.slice x.da x.dn x.dc]
theorem RV.val_inj {x y:RV} (h:x.val=y.val):x=y:=by
 cases x;cases y
 simp [RV.val] at h
 simp [h]
def kj:Value->Option (DataW Value × List MemPlace)
 | .agg ⟨[.string p,.string c,.int .u64 n,.slice a m k]⟩=>some (.held (.agg #[.string p,.string c,.int .u64 n,.slice a m k]),[])
 | _=>none
theorem rE (x:RV):kj x.val=some (.held x.val,[]):=rfl
theorem xQ {v:Value} {y:DataW Value × List MemPlace} (h:kj v=some y):∃ x:RV,v=x.val/\y=(.held x.val,[]):=by
 unfold kj at h
 split at h
 ·rename_i p c n a m k
  cases h;exact ⟨⟨p,c,n,a,m,k⟩,rfl,rfl⟩
 ·cases h
def gj (a b:ByteArray):Value:=.agg #[.string a,.string b]
def et (a b:ByteArray):Lit:=.string (keyBytes [.string a.data.toList,.string b.data.toList])
theorem I1:laidOutB Tryz.prog=true:=by kernel_rfl
theorem xR:(166:TypeId)<Tryz.prog.types.size:=of_decide_eq_true (by kernel_rfl)
theorem I2:(match Tryz.prog.underlying 166 with|some (.array _ _)|some (.struct _)=>true|_=>false)=true:=by kernel_rfl
theorem kk:Keyed Tryz.prog 166:=Keyed.of_law (deep_law_laid I1 (m:=2) (by omega) xR (by kernel_rfl) I2)
theorem I3:Tryz.prog.keyType 166=true:=by kernel_rfl
theorem xS:Tryz.prog.cellsOf 166=2:=by kernel_rfl
theorem I4:Tryz.prog.cellsOf 9=1:=by kernel_rfl
theorem I5 {k m:Nat} (h:k<m):∃ n,m=n+1:=⟨m - 1,by omega⟩
theorem mK (a b:ByteArray) (ha:a.size<=maxLen) (hb:b.size<=maxLen):keyOf Tryz.prog 166 (gj a b)=some (et a b):=by
 obtain ⟨n,hn⟩:=I5 xR;have hS:∀ s:ByteArray,s.size<=maxLen->Tryz.prog.keyLits (n+1) 9 [.string s]=some [.string s.data.toList]:=λs hs=>by
  unfold Program.keyLits;rw [Tryz.underlying9]
  simp [hs]
 unfold keyOf;simp only [Tryz.underlying166,gj,I3,Value.formed,xS,Value.cells];rw [if_pos (by rfl),hn];unfold Program.keyLits;rw [Tryz.underlying166]
 simp [xS,I4,hS a ha,hS b hb,et]
theorem I6 {a b c d:ByteArray} (ha:a.size<=maxLen) (hb:b.size<=maxLen) (hc:c.size<=maxLen) (hd:d.size<=maxLen) (h:et a b=et c d):a=c/\b=d:=by
 have h1:=mK a b ha hb;have h2:=mK c d hc hd;rw [<- h] at h2
 have:=kk.inj h1 h2
 simp [gj] at this
 exact this
end
section
open RowKit Go.ChangeMaps Go.Maps Go.WideShapes
def RV.key (x:RV):Lit:=et x.pod x.cont
def RV.Short (x:RV):Prop:=x.pod.size<=7000/\x.cont.size<=7000
theorem iu {n:Nat} (h:n<=7000):n<=maxLen:=by unfold maxLen;omega
theorem RV.keyOf {x:RV} (h:x.Short):keyOf Tryz.prog 166 (gj x.pod x.cont)=some x.key:=mK _ _ (iu h.1) (iu h.2)
theorem RV.key_eq {x:RV} (h:x.Short) {a b:ByteArray} (ha:a.size<=7000) (hb:b.size<=7000):x.key=et a b↔(x.pod=a/\x.cont=b):=by
 constructor
 ·exact λe=>I6 (iu h.1) (iu h.2) (iu ha) (iu hb) e
 ·rintro ⟨rfl,rfl⟩;rfl
theorem I7 (a b c d:ByteArray):(et a b).sameKey (et c d)=true↔et a b=et c d:=by
 constructor
 ·exact WideAt.sameKey_eq
 ·intro e;rw [e];exact WideAt.sameKey_self trivial
def iW (xs:List RV):List (Lit × DataW Value):=xs.map λx=>(x.key,.held x.val)
def aZ (w:World) (B n:Nat) (xs:List RV):Prop:=(∀ x∈xs,x.Short)/\∃ es,w.ownsMap Tryz.prog 166 kj B n (.map es)/\es.Perm (iW xs)
theorem aZ.lt {w:World} {B n:Nat} {xs:List RV} (h:aZ w B n xs):B<w.heap.size:=by
 obtain ⟨_,es,ho,_⟩:=h;exact ho.lt
theorem aZ.block {w w':World} {B n:Nat} {xs:List RV} (h:aZ w B n xs) (hb:w'.heap[B]?=w.heap[B]?):aZ w' B n xs:=by
 obtain ⟨hs,es,⟨ms,clock,hh,r⟩,hp⟩:=h;exact ⟨hs,es,⟨ms,clock,hb.trans hh,r⟩,hp⟩
theorem aZ.made (w:World):aZ (w.alloc (.map #[] 0)) w.heap.size 0 []:=
 ⟨λx hx=>by simp at hx,[],World.ownsMap_made w _ _ _,List.Perm.nil⟩
theorem aZ.keys {w:World} {B n:Nat} {xs:List RV} (h:aZ w B n xs):(xs.map RV.key).Nodup:=by
 obtain ⟨hs,es,ho,he⟩:=h;obtain ⟨es',e,hd,_⟩:=ho.entries kk;cases e;have h1:(es.map Prod.fst).Nodup:=List.pairwise_map.2 hd;have h2:=(he.map Prod.fst).nodup_iff.1 h1;unfold iW at h2;rw [List.map_map] at h2;exact h2
theorem aZ.has {w:World} {B n:Nat} {xs:List RV} (h:aZ w B n xs) {es:List (Lit × DataW Value)} (he:es.Perm (iW xs)) {a b:ByteArray} (ha:a.size<=7000) (hb:b.size<=7000) :
  Maps.has (.map es) (et a b)=xs.any λx=>decide (x.pod=a/\x.cont=b):=by
 rw [Maps.has_eq,Bool.eq_iff_iff,List.any_eq_true,List.any_eq_true];constructor
 ·rintro ⟨p,hp,hk⟩;obtain ⟨x,hx,rfl⟩:=Qk.1 (he.mem_iff.1 hp);exact ⟨x,hx,Qc ((RV.key_eq (h.1 x hx) ha hb).1 (WideAt.sameKey_eq hk))⟩
 ·rintro ⟨x,hx,hk⟩;refine ⟨(x.key,.held x.val),he.mem_iff.2 (Qk.2 ⟨x,hx,rfl⟩),?_⟩;rw [show x.key=et a b from (RV.key_eq (h.1 x hx) ha hb).2 (of_decide_eq_true hk)];exact WideAt.sameKey_self trivial
theorem I8 (w:World):(zeroValue 111).run Tryz.prog w=.ok (RV.val ⟨ByteArray.empty,ByteArray.empty,0,none,0,0⟩) w:=by kernel_rfl
theorem aZ.put {w:World} {B n:Nat} {xs:List RV} (h:aZ w B n xs) (x:RV) (hx:x.Short) (hn:n<1000) (hno:(xs.any λy=>decide (y.pod=x.pod/\y.cont=x.cont))=false) :
  ∃ w',(Instr.mapUpdate 147 (.map (some B)) (gj x.pod x.cont) x.val).run Tryz.prog w=.ok () w'/\aZ w' B (n+1) (x :: xs)/\w.grownBy w' (some B)/\w'.heap.size=w.heap.size:=by
 obtain ⟨es,ho,he⟩:=h.2;obtain ⟨w',Ha,Hc,ht⟩:=ho.store kk Tryz.underlying147 (by unfold maxLen;omega) (RV.keyOf hx) (rE x);refine ⟨w',Ha,⟨λy hy=>?_,putKey x.key (.held x.val) es,Hc,?_⟩,ht.grown,?_⟩
 ·rcases List.mem_cons.1 hy with rfl|hy
  ·exact hx
  ·exact h.1 y hy
 ·unfold putKey;refine (insert_perm _ _).trans ?_;have hf:es.filter (notKey x.key)=es:=by
   refine List.filter_eq_self.2 λp hp=>?_
   obtain ⟨y,hy,rfl⟩:=Qk.1 (he.mem_iff.1 hp);have Hb:¬ (y.pod=x.pod/\y.cont=x.cont):=of_decide_eq_false (by have:=List.any_eq_false.1 hno y hy;simpa using this)
   show (!y.key.sameKey x.key)=true
   rw [Bool.not_eq_true'];refine sameKey_ne λe=>Hb ((RV.key_eq (h.1 y hy) hx.1 hx.2).1 e)
  rw [hf];exact List.Perm.cons _ he
 ·obtain ⟨es0,c0,es1,c1,_,rfl⟩:=ht
  simp [setBlock]
theorem aZ.drop {w:World} {B n:Nat} {xs:List RV} (h:aZ w B n xs) (a b:ByteArray) (ha:a.size<=7000) (hb:b.size<=7000) (ty:TypeId) :
  ∃ w',(Builtin.delete_ #[147,166] ty #[.map (some B),gj a b]).run Tryz.prog w=.ok (.tuple #[]) w'/\aZ w' B n (xs.filter λx=>!decide (x.pod=a/\x.cont=b))/\w.grownBy w' (some B)/\w'.heap.size=w.heap.size:=by
 obtain ⟨es,ho,he⟩:=h.2;obtain ⟨w',Ha,Hc,ht⟩:=ho.drop kk Tryz.underlying147 (mK a b (iu ha) (iu hb)) ty;refine ⟨w',Ha,⟨λy hy=>h.1 y (List.mem_filter.1 hy).1,delKey (et a b) es,Hc,?_⟩,ht.grown,?_⟩
 ·unfold delKey;refine (he.filter _).trans ?_;unfold iW;rw [List.filter_map];have Hb:xs.filter (notKey (et a b) ∘ λx:RV=>(x.key,(DataW.held x.val:DataW Value)))=xs.filter λx=>!decide (x.pod=a/\x.cont=b):=by
   refine List.filter_congr λx hx=>?_
   have e:x.key.sameKey (et a b)=decide (x.pod=a/\x.cont=b):=by
    rw [Bool.eq_iff_iff,decide_eq_true_iff];exact (I7 _ _ _ _).trans (RV.key_eq (h.1 x hx) ha hb)
   show (!x.key.sameKey (et a b))=_
   rw [e]
  rw [Hb]
 ·obtain ⟨es0,c0,es1,c1,_,rfl⟩:=ht
  simp [setBlock]
def Came (left:Lit->Bool) (xs pre:List RV):Prop:=∃ rest,xs.Perm (pre++rest)/\(∀ x∈pre,left x.key=false)/\∀ x∈rest,left x.key=true
theorem Came.start {xs:List RV} {es:List (Lit × DataW Value)} (he:es.Perm (iW xs)):Came (Maps.has (.map es)) xs []:=
 ⟨xs,by simp,λx hx=>by simp at hx,λx hx=>List.any_eq_true.2 ⟨(x.key,.held x.val),he.mem_iff.2 (Qk.2 ⟨x,hx,rfl⟩),WideAt.sameKey_self trivial⟩⟩
theorem Came.finish {left:Lit->Bool} {xs pre:List RV} (h:Came left xs pre) (hl:∀ kl,left kl=false):pre.Perm xs:=by
 obtain ⟨rest,hp,_,hr⟩:=h
 have:rest=[]:=by
  cases rest with
  | nil=>rfl
  | cons x l=>have:=hr x (by simp);rw [hl] at this;cases this
 subst this;rw [List.append_nil] at hp;exact hp.symm
theorem at_mem {es:List (Lit × DataW Value)} {kl:Lit} {y:DataW Value} (hat:∀ zd,(DataW.map es).atKey kl zd=y):∃ p∈es,p.1=kl/\p.2=y:=by
 unfold DataW.atKey at hat;simp only at hat;cases hf:es.find? (λp=>p.1.sameKey kl) with
 | none=>
  rw [hf] at hat;have h1:=hat .nil;have h2:=hat (.lit .nil);simp only at h1 h2;rw [<- h1] at h2;cases h2
 | some p=>
  rw [hf] at hat;exact ⟨p,List.mem_of_find?_eq_some hf,WideAt.sameKey_eq (List.find?_some (p:=λq:Lit × DataW Value=>q.1.sameKey kl) hf),hat .nil⟩
theorem Came.step {left:Lit->Bool} {xs pre:List RV} {es:List (Lit × DataW Value)} (h:Came left xs pre) (he:es.Perm (iW xs)) (hk:(xs.map RV.key).Nodup) {kl:Lit} {c:RV} (hlk:left kl=true) (hat:∀ zd,(DataW.map es).atKey kl zd=.held c.val) :
  Came (λz=>left z && !z.sameKey kl) xs (pre++[c])/\kl=c.key:=by
 obtain ⟨p,hp,rfl,Hh⟩:=at_mem hat;obtain ⟨x,hx,rfl⟩:=Qk.1 (he.mem_iff.1 hp);have e:x=c:=RV.val_inj (by simpa using Hh);subst e;obtain ⟨rest,Hc,h1,h2⟩:=h;have Ha:x∈rest:=by
  rcases Qi.1 (Hc.mem_iff.1 hx) with hm|hm
  ·have:=h1 x hm
   rw [this] at hlk;cases hlk
  ·exact hm
 obtain ⟨r1,r2,rfl⟩:=List.append_of_mem Ha;have Hi:xs.Perm ((pre++[x])++(r1++r2)):=by
  refine Hc.trans ?_;rw [List.append_assoc];exact List.Perm.append_left _ List.perm_middle
 have He:((pre++(r1++x :: r2)).map RV.key).Nodup:=(Hc.map _).nodup_iff.1 hk;refine ⟨⟨r1++r2,Hi,λy hy=>?_,λy hy=>?_⟩,rfl⟩
 ·rcases Qi.1 hy with hm|hm
  ·show (left y.key && !y.key.sameKey x.key)=false
   rw [h1 y hm];rfl
  ·simp at hm
   subst hm
   show (left y.key && !y.key.sameKey y.key)=false
   rw [WideAt.sameKey_self (show WideAt.IsKeyLit y.key from trivial)];simp
 ·have hm:y∈r1++x :: r2:=by
   rcases Qi.1 hy with hm|hm
   ·exact Qi.2 (.inl hm)
   ·exact Qi.2 (.inr (Qv _ hm))
  have Hg:y.key≠x.key:=by
   rw [Qj,List.nodup_append] at He;have Hb:=He.2.1;have Hf:((x :: (r1++r2)).map RV.key).Nodup:=((List.perm_middle (a:=x) (l₁:=r1) (l₂:=r2)).map RV.key).nodup_iff.1 Hb;rw [Qq,List.nodup_cons] at Hf;exact λe=>Hf.1 (by rw [<- e];exact List.mem_map_of_mem hy)
  show (left y.key && !y.key.sameKey x.key)=true
  rw [h2 y hm,sameKey_ne Hg];rfl
end
section
open RowKit Shelf Go.Maps
attribute [local go_sem] Oper.semAt_some
theorem I9 {key:Value} {kl:Lit} (h:keyOf Tryz.prog 166 key=some kl):∃ cs:Array Value,key=.agg cs:=by
 unfold keyOf at h;rw [Tryz.underlying166] at h;simp only at h
 split at h
 ·rename_i hf
  cases key <;> simp [Value.formed,Tryz.underlying166] at hf;exact ⟨_,rfl⟩
 ·cases h
theorem Ja (F:Fence) (n:Nat) (h8:F.fn 122) (hro:F.round=none) (hn:1<=n) (l Bm b nn:Nat) (xs:List RV) (J Jx:List RV->World->Prop)
  (hY:∀ pre (x:RV) W,J pre W->pre.length<xs.length->YieldAt F (n - 1) Tryz.prog l #[.agg #[.string x.pod,.string x.cont,.int .u64 x.cpus,.slice x.da x.dn x.dc]] W λe W'=>
   (e=.returned (.bool true)/\J (pre++[x]) W'/\KeepsWalks W W')\/(e=.returned (.bool false)/\Jx (pre++[x]) W'))
  (W:World) (hJ:AbidesFrom W.heap.size J) (hm:W.cell? ⟨Bm,0,none⟩=some (.map (some b))) (hown:aZ W b nn xs) (h0:J [] W) :
  CallsIn F n Tryz.prog 122 #[.func (.yield l) #[] #[],.pointer (some ⟨Bm,0,none⟩)] W λe W'=>(∃ v,e=.returned v)/\
   ((∃ ys,ys.Perm xs/\J ys W')\/(∃ pre,True/\Jx pre W')):=by
 have Hx:=hown.keys;obtain ⟨HC,es,ho,he⟩:=hown;have Hq:Maps.size (.map es:DataW Value)=xs.length:=by rw [Maps.size_eq,he.length_eq,iW,Q9]
 refine callsIn_of_wp Tryz.func122 rfl h8 ?_ hro;simp only [Tryz.ntmps122,List.size_toArray,Qg,List.length_nil,Nat.reduceAdd,Nat.reduceSub,Array.replicate_succ,Array.replicate_zero,List.push_toArray,List.append_toArray,List.nil_append,List.cons_append]
 gi_wp2_with (first
  | (gi_at_range;refine wpListIn_range_own _ rfl _ 147 rfl 166 111 kk Tryz.underlying147 _ b nn _ rfl ho ?_;intro w0 Hh Hr HD)
  | gi_in)
 go_frame
 gi_loopw [4] (λ_ wr=>∃ (left:Lit->Bool) (cnt:Nat) (pre:List RV),wr.ranges Tryz.prog 166 kj b W.heap.size nn (.map es) left cnt/\pre.length+cnt<=xs.length/\Came left xs pre/\J pre wr)
  (λ_ wr=>wr.rangeLeft b W.heap.size)
 case atStart=>
  exact ⟨_,_,[],Hh,by rw [Hq];simp,Came.start he,hJ [] W w0 none h0 Hr (λr e=>by cases e)⟩
 case round=>
  obtain ⟨left,cnt,pre,Hg,HA,hC,Hj⟩:=hrel
  gi_wp2_with (first
   | (gi_at_next;refine wpListIn_next_ranges _ rfl _ rfl 166 kk kj (λcs:Array Value=>Value.agg cs) RV.val (λkey kl hk=>I9 hk) (λv y hv=>by obtain ⟨c,rfl,_⟩:=xQ hv;exact ⟨c,rfl⟩) b W.heap.size nn _ _ _ rfl Hg ?_ ?_)
   | gi_in)
  ·intro HB Ho
   gi_wp2
   go_end0
   exact ⟨⟨_,rfl⟩,.inl ⟨pre,hC.finish Ho,Hj⟩⟩
  ·intro x c kl yd yp w2 cnt2 Hu Hm hv Hk Hc Hs Hl Hn He;rw [rE] at hv;obtain ⟨rfl,rfl⟩:=Prod.mk.inj (Ql hv);obtain ⟨Hi,_⟩:=hC.step he Hx Hm Hk;have Hw:J pre w2:=hJ pre wr w2 (some W.heap.size) Hj Hl (λr e=>by cases e;exact ⟨lR,Hg.iter_walk⟩);have Hz:J pre (w2.alloc (.cells #[.string c.pod,.string c.cont,.int .u64 c.cpus,.slice c.da c.dn c.dc] 111)):=hJ pre w2 _ none Hw (World.grownBy_alloc _ _ _) (λr e=>by cases e);have Hf:=Hc.alloc (.cells #[.string c.pod,.string c.cont,.int .u64 c.cpus,.slice c.da c.dn c.dc] 111);obtain ⟨fn,tmps,assign,body,hy,hR⟩:=hY pre c _ Hz (by omega);clear Hn hv;unfold RV.val at He ⊢
   gi_wp2
   refine hR.mono ?_;rintro e W3 (⟨rfl,Hv,Ht⟩|⟨rfl,Hb⟩)
   ·have Ha:=Hf.of_walks Ht;have Hy:=qI Hi;have Hp:=qI Hs;clear Hi Hk He hy hR
    gi_wp2
    go_roundw
    case rel=>exact ⟨_,cnt2,pre++[c],Ha,by simp;omega,Hy.out,Hv⟩
    case measure=>rw [Ha.left_eq,Hg.left_eq];exact Hp.out
   ·clear He hy hR
    gi_wp2
    refine Qx (results_none rfl _ _ _) rfl ?_;exact ⟨⟨_,rfl⟩,.inr ⟨_,trivial,Hb⟩⟩
theorem Jb (m:Option Nat) (w:World) :
  Calls Tryz.prog 74 #[.map m] w λe w'=>e=.returned (.func (.func 122) #[] #[.pointer (some ⟨w.heap.size,0,none⟩)])/\w'=w.alloc (.cells #[.map m] 147):=by
 go_enter Tryz.func74,Tryz.ntmps74
 go_wp2
 go_ret;exact ⟨rfl,rfl⟩
def encR (x:RV):Array Value:=#[.agg #[.string x.pod,.string x.cont,.int .u64 x.cpus,.slice x.da x.dn x.dc]]
theorem values_stops (F:Fence) (n:Nat) (h8:F.fn 122) (hro:F.round=none) (hn:1<=n) (Bm b nn:Nat) (xs:List RV) (w:World) (hBm:Bm<w.heap.size) (hm:w.cell? ⟨Bm,0,none⟩=some (.map (some b))) (hown:aZ w b nn xs) :
  SeqStopsK F n Tryz.prog 122 #[.pointer (some ⟨Bm,0,none⟩)] encR KeepsWalks (λys=>ys.Perm xs) (λ_=>True) xs.length w:=λl J Jx W hW hJ _ hY h0=>
 Ja F n h8 hro hn l Bm b nn xs J Jx hY W hJ ((hW.cell (p:=⟨Bm,0,none⟩) hBm).trans hm) (hown.block (hW.block b hown.lt)) h0
def bS (base:Nat) (w:World) (v:Value) (ys:List RV):Prop:=w.ownsRow base 111 4 v ys.length (ys.flatMap RV.cells)
theorem rF:(Tryz.prog.info? 111).map (λi=>(i.zero,i.size,i.bytes))=some (some (.agg #[.string ByteArray.empty,.string ByteArray.empty,.int .u64 0,.slice none 0 0]),4,64):=by kernel_rfl
theorem rG (w:World) (x:RV) (t:TypeId):∀ j u,(RV.cells x)[j]?=some u->(w.alloc (.cells #[.string x.pod,.string x.cont,.int .u64 x.cpus,.slice x.da x.dn x.dc] t)).cell? ((⟨w.heap.size,0,none⟩:Addr).add j)=some u:=by
 intro j u hu;rw [Addr.add_lit,Qd]
 match j,hu with
 | 0,hu=>simp [RV.cells] at hu;subst hu;simp
 | 1,hu=>simp [RV.cells] at hu;subst hu;simp
 | 2,hu=>simp [RV.cells] at hu;subst hu;simp
 | 3,hu=>simp [RV.cells] at hu;subst hu;simp
 | n+4,hu=>simp [RV.cells] at hu
theorem bS.push {base:Nat} {w:World} {v:Value} {ys:List RV} {x:RV} (h:w.ownsRow base 111 4 v (ys.length+1) (ys.flatMap RV.cells++RV.cells x)):bS base w v (ys++[x]):=by
 unfold bS;rw [Q2,List.flatMap_append]
 simpa using h
theorem Jc (Bm b nn:Nat) (xs:List RV) (w:World) (hm:w.cell? ⟨Bm,0,none⟩=some (.map (some b))) (hown:aZ w b nn xs) (hl:xs.length<=1000) :
  Calls Tryz.prog 155 #[.slice none 0 0,.func (.func 122) #[] #[.pointer (some ⟨Bm,0,none⟩)]] w λe w'=>(∃ v ys,e=.returned v/\ys.Perm xs/\bS w.heap.size w' v ys)/\Below w.heap.size w w':=by
 obtain ⟨i0,hi,Hs,Ht,Hn⟩:=info_parts rF;refine (callsIn_wide (n:=3)).1 ?_;refine callsIn_of_wp_marks Tryz.func155 rfl trivial ?_ rfl;simp only [Tryz.ntmps155,List.size_toArray,Qg,List.length_nil,Nat.reduceAdd,Nat.reduceSub,Array.replicate_succ,Array.replicate_zero,List.push_toArray,List.append_toArray,List.nil_append,List.cons_append]
 gi_wp2_with fail
 have Hf:=Q3 w _ hm;have Hi:=qI ((Q0 w.heap.size w).alloc (lR) (.cells #[.slice none 0 0] 105));have Hj:=qI (values_stops Fence.wide (3 - 1) trivial rfl (by omega) Bm b nn xs (w.alloc (.cells #[.slice none 0 0] 105)) (by simp;exact Nat.lt_succ_of_lt Hf) ((Hi.out.cell (p:=⟨Bm,0,none⟩) Hf).trans hm) (hown.block (Hi.out.block b hown.lt)));have Hp:=qI (Boxed.new w 105 (.slice none 0 0));have Hz:(w.alloc (.cells #[.slice none 0 0] 105)).heap.size=w.heap.size+1:=by simp
 generalize w.alloc (.cells #[.slice none 0 0] 105)=A at *;refine wpIn_rangeFunc_ownH (α:=RV) rfl (by omega) (gf:=122) (lb:=#[.pointer (some ⟨Bm,0,none⟩)]) rfl trivial (enters_of Tryz.func122 (by kernel_rfl) rfl)
  Hj.out walksK_t walksK_b (Q0 _ _) (λ_=>rfl)
  (λpre W=>(∃ v,Boxed W w.heap.size 105 v/\W.ownsRow w.heap.size 111 4 v pre.length (pre.flatMap RV.cells)/\True)/\Below w.heap.size w W)
  (λ_ _ _=>False)
  (OwnFrom.and (Own.from (holdsRow_own w.heap.size w.heap.size 105 111 4 (λpre:List RV=>pre.length) (λpre=>pre.flatMap RV.cells) (λ_ _=>True)) _) (ownFrom_below (lR) (by omega)))
  (λ_ _ _ _ _ hs _ _=>hs)
  ⟨⟨_,Hp.out,Qw _ _ _ _,trivial⟩,Hi.out⟩
  (λx a' W=>∃ Bx,A.heap.size<=Bx/\W.heap[Bx]?=some (.cells #[.string x.pod,.string x.cont,.int .u64 x.cpus,.slice x.da x.dn x.dc] 111 (0,0))/\a'={ tmps:=#[Value.slice none 0 0,Value.func (Fn.func 122) #[] #[Value.pointer (some { block:=Bm,off:=0 })],Value.pointer (some { block:=w.heap.size,off:=0 }),undef,Value.slice none 0 0,.pointer (some ⟨Bx,0,none⟩),Value.func (Fn.func 122) #[] #[Value.pointer (some { block:=Bm,off:=0 })],.agg #[.string x.pod,.string x.cont,.int .u64 x.cpus,.slice x.da x.dn x.dc],undef,undef,undef,undef,undef],defers:=[] })
  (λx a'=>Own.from (λu W W' row hs hg hr=>by
   obtain ⟨Bx,h1,h2,h3⟩:=hs;refine ⟨Bx,h1,(hg.block Bx (gS h2).1 (λe=>?_)).trans h2,h3⟩;obtain ⟨o,ho,hc⟩:=hr Bx e.symm;rw [h2] at ho;cases ho;cases hc) _) ?assign ?body ?done ?stop
 case assign=>
  rintro l pre x W K ⟨⟨v,Hc,Ha,_⟩,hB⟩ hK;have HK:=qI hK;clear hK;unfold encR
  gi_wp2_with fail
  exact HK.out _ _ ((KeepsOthers.alloc _ _).from _) (KeepsWalks.alloc _ _) ⟨⟨v,Hc.alloc _,Ha.alloc _,trivial⟩,hB.alloc hB.size _⟩ ⟨W.heap.size,by have:=Hc.lt;have:=hB.size;omega,World.alloc_heap_new W _,rfl⟩
 case body=>
  rintro l pre x a' W Hw ⟨r,hr⟩ ⟨⟨v,Hc,Ha,_⟩,hB⟩ ⟨Bx,HA,Hg,rfl⟩ Hy;have c0:W.cell? ⟨Bx,0,none⟩=some (.string x.pod):=by simp [World.cell?,Hg]
  have c1:W.cell? ⟨Bx,1,none⟩=some (.string x.cont):=by simp [World.cell?,Hg]
  have c2:W.cell? ⟨Bx,2,none⟩=some (.int .u64 x.cpus):=by simp [World.cell?,Hg]
  have c3:W.cell? ⟨Bx,3,none⟩=some (.slice x.da x.dn x.dc):=by simp [World.cell?,Hg]
  have Hu:=Hc.cell;have HN:=qI (rG W x 111);have Hb:=qI Ha;have Hq:=qI Hc;have HB:=qI hB;have HC:pre.length<=1000:=by omega
  clear Ha Hc hB Hg hr
  gi_wp2_with (gi_at_builtin;refine wpListIn_append_own _ rfl _ _ 105 rfl w.heap.size 111 i0 (.agg #[.string ByteArray.empty,.string ByteArray.empty,.int .u64 0,.slice none 0 0]) 4 64 Tryz.underlying105 hi Hs Ht Hn rfl (by decide) _ _ _ rfl (Hb.out.alloc _) ⟨W.heap.size,0,none⟩ 1 1 (RV.cells x) rfl rfl HN.out (by intro u hu;simp [RV.cells] at hu;rcases hu with rfl|rfl|rfl|rfl <;> rfl) (by unfold maxLen;omega) (by omega) (by have:=HB.out.size;simp;omega) ?_;intro v' w1 He Hh _;obtain ⟨g',cap',rfl⟩:=ownsRow_succ He;obtain ⟨Hl,Hm,Ho,Hk,Hr⟩:=Hq.out.appended (by decide) Hb.out HB.out.size (lR) He Hh;have Hv:=Hl.cell;have Hx:=Hl.frozen)
  exact ⟨Hk.from _,⟨Hk.size,λk o hk ho=>Hk.same k o hk (Obj.not_cells_of_walk ho)⟩,⟨_,Hm,bS.push Ho⟩,HB.out.trans Hr⟩
 case done=>
  rintro D ys W hD hp ⟨⟨v,Hc,Ha,_⟩,hB⟩ hK;have hc:=Hc.cell;have Hb:=qI Ha;have HB:=qI hB;clear Ha Hc hB
  gi_wp2_with fail
  refine ⟨by simp,.inl ⟨_,_,rfl,run_takeDeferred hK,?_⟩⟩;refine ⟨_,results_tmp rfl _ _ _,?_⟩;exact ⟨⟨v,rfl,ys,hp,ownsRow_putObj Hb.out _ hK rfl⟩,HB.out.trans (belowK_b (w:=w) (lR) _ D _ _ (by omega) hK rfl rfl)⟩
 case stop=>exact λ_ _ _ _ _ _ h _=>h.elim
theorem bS.slice {base:Nat} {w:World} {v:Value} {ys:List RV} (h:bS base w v ys):∃ a c,v=.slice a ys.length c/\ys.length<=c:=by
 rcases h.2 with ⟨hv,hn⟩|⟨g,cap,cur,hv,_,_,hc1,_⟩
 ·exact ⟨none,0,by rw [hv,hn],by omega⟩
 ·exact ⟨_,cap,hv,hc1⟩
theorem Jd (Bm b nn:Nat) (xs:List RV) (w:World) (hm:w.cell? ⟨Bm,0,none⟩=some (.map (some b))) (hown:aZ w b nn xs) (hl:xs.length<=1000) :
  Calls Tryz.prog 120 #[.func (.func 122) #[] #[.pointer (some ⟨Bm,0,none⟩)]] w λe w'=>(∃ v ys,e=.returned v/\ys.Perm xs/\bS w.heap.size w' v ys)/\Below w.heap.size w w':=by
 have HA:=qI (Jc Bm b nn xs w hm hown hl);clear hm hown
 go_enter Tryz.func120,Tryz.ntmps120
 go_wp2_with fail
 refine HA.out.mono ?_;rintro e w1 ⟨⟨v,ys,rfl,hp,hr⟩,hb⟩;have HR:=qI hr;have HP:=qI hp;have HB:=qI hb;obtain ⟨a,c,rfl,_⟩:=hr.slice;clear hr hp hb
 go_wp2
 go_ret;exact ⟨⟨_,ys,rfl,HP.out,HR.out⟩,HB.out⟩
end
