import Derived.Test.YtbmmnflgnmjboaaGreatDoorR2
import Derived.Maps.OwnSet
import Derived.Maps.Range
import Derived.Maps.Views
import Derived.DeepKeys4
import Derived.RangeFuncMany
import Derived.Sort.MapsRangeIn
import Derived.Maps.AppendAt
set_option maxRecDepth 100000
set_option maxHeartbeats 16000000
namespace Go.Proofs.YtbmmnflgnmjboaaGreatDoor
section
open RowKit Go.ChangeMaps Go.Maps
structure RV where
 pod:ByteArray
 cont:ByteArray
 cpus:Int
 da:Option Addr
 dn:Nat
 dc:Nat
def RV.val (x:RV):Value:=.agg #[.string x.pod,.string x.cont,.int .u64 x.cpus,.slice x.da x.dn x.dc]
def RV.cells (x:RV):List Value:=[.string x.pod,.string x.cont,.int .u64 x.cpus,.slice x.da x.dn x.dc]
theorem RV.val_inj {x y:RV} (h:x.val=y.val):x=y:=by
 cases x;cases y
 simp [RV.val] at h
 simp [h]
def ko:Value->Option (DataW Value × List MemPlace)
 | .agg ⟨[.string p,.string c,.int .u64 n,.slice a m k]⟩=>some (.held (.agg #[.string p,.string c,.int .u64 n,.slice a m k]),[])
 | _=>none
theorem rJ (x:RV):ko x.val=some (.held x.val,[]):=rfl
theorem xQ {v:Value} {y:DataW Value × List MemPlace} (h:ko v=some y):∃ x:RV,v=x.val/\y=(.held x.val,[]):=by
 unfold ko at h
 split at h
 ·rename_i p c n a m k
  cases h;exact ⟨⟨p,c,n,a,m,k⟩,rfl,rfl⟩
 ·cases h
def fZ (a b:ByteArray):Value:=.agg #[.string a,.string b]
def ep (a b:ByteArray):Lit:=.string (keyBytes [.string a.data.toList,.string b.data.toList])
theorem I0:laidOutB Tryz.prog=true:=by kernel_rfl
theorem xR:(166:TypeId)<Tryz.prog.types.size:=of_decide_eq_true (by kernel_rfl)
theorem I1:(match Tryz.prog.underlying 166 with|some (.array _ _)|some (.struct _)=>true|_=>false)=true:=by kernel_rfl
theorem kq:Keyed Tryz.prog 166:=Keyed.of_law (deep_law_laid I0 (m:=2) (by omega) xR (by kernel_rfl) I1)
theorem I2:Tryz.prog.keyType 166=true:=by kernel_rfl
theorem xS:Tryz.prog.cellsOf 166=2:=by kernel_rfl
theorem I3:Tryz.prog.cellsOf 9=1:=by kernel_rfl
theorem I4 {k m:Nat} (h:k<m):∃ n,m=n+1:=⟨m - 1,by omega⟩
theorem mO (a b:ByteArray) (ha:a.size<=maxLen) (hb:b.size<=maxLen):keyOf Tryz.prog 166 (fZ a b)=some (ep a b):=by
 obtain ⟨n,hn⟩:=I4 xR;have hS:∀ s:ByteArray,s.size<=maxLen->Tryz.prog.keyLits (n+1) 9 [.string s]=some [.string s.data.toList]:=λs hs=>by
  unfold Program.keyLits;rw [Tryz.underlying9]
  simp [hs]
 unfold keyOf;simp only [Tryz.underlying166,fZ,I2,Value.formed,xS,Value.cells];rw [if_pos (by rfl),hn];unfold Program.keyLits;rw [Tryz.underlying166]
 simp [xS,I3,hS a ha,hS b hb,ep]
theorem I5 {a b c d:ByteArray} (ha:a.size<=maxLen) (hb:b.size<=maxLen) (hc:c.size<=maxLen) (hd:d.size<=maxLen) (h:ep a b=ep c d):a=c/\b=d:=by
 have h1:=mO a b ha hb;have h2:=mO c d hc hd;rw [<- h] at h2
 have:=kq.inj h1 h2
 simp [fZ] at this
 exact this
end
section
open RowKit Go.ChangeMaps Go.Maps Go.WideShapes
def RV.key (x:RV):Lit:=ep x.pod x.cont
def RV.Short (x:RV):Prop:=x.pod.size<=7000/\x.cont.size<=7000
theorem ik {n:Nat} (h:n<=7000):n<=maxLen:=by unfold maxLen;omega
theorem RV.keyOf {x:RV} (h:x.Short):keyOf Tryz.prog 166 (fZ x.pod x.cont)=some x.key:=mO _ _ (ik h.1) (ik h.2)
theorem RV.key_eq {x:RV} (h:x.Short) {a b:ByteArray} (ha:a.size<=7000) (hb:b.size<=7000):x.key=ep a b↔(x.pod=a/\x.cont=b):=by
 constructor
 ·exact λe=>I5 (ik h.1) (ik h.2) (ik ha) (ik hb) e
 ·rintro ⟨rfl,rfl⟩;rfl
theorem I6 (a b c d:ByteArray):(ep a b).sameKey (ep c d)=true↔ep a b=ep c d:=by
 constructor
 ·exact WideAt.sameKey_eq
 ·intro e;rw [e];exact WideAt.sameKey_self trivial
def iS (xs:List RV):List (Lit × DataW Value):=xs.map λx=>(x.key,.held x.val)
def aZ (w:World) (B n:Nat) (xs:List RV):Prop:=(∀ x∈xs,x.Short)/\∃ es,w.ownsMap Tryz.prog 166 ko B n (.map es)/\es.Perm (iS xs)
theorem aZ.lt {w:World} {B n:Nat} {xs:List RV} (h:aZ w B n xs):B<w.heap.size:=by
 obtain ⟨_,es,ho,_⟩:=h;exact ho.lt
theorem aZ.block {w w':World} {B n:Nat} {xs:List RV} (h:aZ w B n xs) (hb:w'.heap[B]?=w.heap[B]?):aZ w' B n xs:=by
 obtain ⟨hs,es,⟨ms,clock,hh,r⟩,hp⟩:=h;exact ⟨hs,es,⟨ms,clock,hb.trans hh,r⟩,hp⟩
theorem aZ.made (w:World):aZ (w.alloc (.map #[] 0)) w.heap.size 0 []:=
 ⟨λx hx=>by simp at hx,[],World.ownsMap_made w _ _ _,List.Perm.nil⟩
theorem aZ.keys {w:World} {B n:Nat} {xs:List RV} (h:aZ w B n xs):(xs.map RV.key).Nodup:=by
 obtain ⟨hs,es,ho,he⟩:=h;obtain ⟨es',e,hd,_⟩:=ho.entries kq;cases e;have h1:(es.map Prod.fst).Nodup:=List.pairwise_map.2 hd;have h2:=(he.map Prod.fst).nodup_iff.1 h1;unfold iS at h2;rw [List.map_map] at h2;exact h2
theorem aZ.has {w:World} {B n:Nat} {xs:List RV} (h:aZ w B n xs) {es:List (Lit × DataW Value)} (he:es.Perm (iS xs)) {a b:ByteArray} (ha:a.size<=7000) (hb:b.size<=7000) :
  Maps.has (.map es) (ep a b)=xs.any λx=>decide (x.pod=a/\x.cont=b):=by
 rw [Maps.has_eq,Bool.eq_iff_iff,List.any_eq_true,List.any_eq_true];constructor
 ·rintro ⟨p,hp,hk⟩;obtain ⟨x,hx,rfl⟩:=Qk.1 (he.mem_iff.1 hp);exact ⟨x,hx,Qc ((RV.key_eq (h.1 x hx) ha hb).1 (WideAt.sameKey_eq hk))⟩
 ·rintro ⟨x,hx,hk⟩;refine ⟨(x.key,.held x.val),he.mem_iff.2 (Qk.2 ⟨x,hx,rfl⟩),?_⟩;rw [show x.key=ep a b from (RV.key_eq (h.1 x hx) ha hb).2 (of_decide_eq_true hk)];exact WideAt.sameKey_self trivial
theorem I7 (w:World):(zeroValue 111).run Tryz.prog w=.ok (RV.val ⟨ByteArray.empty,ByteArray.empty,0,none,0,0⟩) w:=by kernel_rfl
theorem aZ.put {w:World} {B n:Nat} {xs:List RV} (h:aZ w B n xs) (x:RV) (hx:x.Short) (hn:n<1000) (hno:(xs.any λy=>decide (y.pod=x.pod/\y.cont=x.cont))=false) :
  ∃ w',(Instr.mapUpdate 147 (.map (some B)) (fZ x.pod x.cont) x.val).run Tryz.prog w=.ok () w'/\aZ w' B (n+1) (x :: xs)/\w.grownBy w' (some B)/\w'.heap.size=w.heap.size:=by
 obtain ⟨es,ho,he⟩:=h.2;obtain ⟨w',Ha,Hc,ht⟩:=ho.store kq Tryz.underlying147 (by unfold maxLen;omega) (RV.keyOf hx) (rJ x);refine ⟨w',Ha,⟨λy hy=>?_,putKey x.key (.held x.val) es,Hc,?_⟩,ht.grown,?_⟩
 ·rcases List.mem_cons.1 hy with rfl|hy
  ·exact hx
  ·exact h.1 y hy
 ·unfold putKey;refine (insert_perm _ _).trans ?_;have hf:es.filter (notKey x.key)=es:=by
   refine List.filter_eq_self.2 λp hp=>?_
   obtain ⟨y,hy,rfl⟩:=Qk.1 (he.mem_iff.1 hp);have Hb:¬ (y.pod=x.pod/\y.cont=x.cont):=of_decide_eq_false (by have:=List.any_eq_false.1 hno y hy;simpa using this)
   show (!y.key.sameKey x.key)=true
   rw [Bool.not_eq_true'];refine sameKey_ne λe=>Hb ((RV.key_eq (h.1 y hy) hx.1 hx.2).1 e)
  rw [hf];exact List.Perm.cons _ he
 ·obtain ⟨es0,c0,es1,c1,_,rfl⟩:=ht
  simp [setBlock]
theorem aZ.drop {w:World} {B n:Nat} {xs:List RV} (h:aZ w B n xs) (a b:ByteArray) (ha:a.size<=7000) (hb:b.size<=7000) (ty:TypeId) :
  ∃ w',(Builtin.delete_ #[147,166] ty #[.map (some B),fZ a b]).run Tryz.prog w=.ok (.tuple #[]) w'/\aZ w' B n (xs.filter λx=>!decide (x.pod=a/\x.cont=b))/\w.grownBy w' (some B)/\w'.heap.size=w.heap.size:=by
 obtain ⟨es,ho,he⟩:=h.2;obtain ⟨w',Ha,Hc,ht⟩:=ho.drop kq Tryz.underlying147 (mO a b (ik ha) (ik hb)) ty;refine ⟨w',Ha,⟨λy hy=>h.1 y (List.mem_filter.1 hy).1,delKey (ep a b) es,Hc,?_⟩,ht.grown,?_⟩
 ·unfold delKey;refine (he.filter _).trans ?_;unfold iS;rw [List.filter_map];have Hb:xs.filter (notKey (ep a b) ∘ λx:RV=>(x.key,(DataW.held x.val:DataW Value)))=xs.filter λx=>!decide (x.pod=a/\x.cont=b):=by
   refine List.filter_congr λx hx=>?_
   have e:x.key.sameKey (ep a b)=decide (x.pod=a/\x.cont=b):=by
    rw [Bool.eq_iff_iff,decide_eq_true_iff];exact (I6 _ _ _ _).trans (RV.key_eq (h.1 x hx) ha hb)
   show (!x.key.sameKey (ep a b))=_
   rw [e]
  rw [Hb]
 ·obtain ⟨es0,c0,es1,c1,_,rfl⟩:=ht
  simp [setBlock]
def Came (left:Lit->Bool) (xs pre:List RV):Prop:=∃ rest,xs.Perm (pre++rest)/\(∀ x∈pre,left x.key=false)/\∀ x∈rest,left x.key=true
theorem Came.start {xs:List RV} {es:List (Lit × DataW Value)} (he:es.Perm (iS xs)):Came (Maps.has (.map es)) xs []:=
 ⟨xs,by simp,λx hx=>by simp at hx,λx hx=>List.any_eq_true.2 ⟨(x.key,.held x.val),he.mem_iff.2 (Qk.2 ⟨x,hx,rfl⟩),WideAt.sameKey_self trivial⟩⟩
theorem Came.finish {left:Lit->Bool} {xs pre:List RV} (h:Came left xs pre) (hl:∀ kl,left kl=false):pre.Perm xs:=by
 obtain ⟨rest,hp,_,hr⟩:=h
 have:rest=[]:=by
  cases rest with
  | nil=>rfl
  | cons x l=>have:=hr x (by simp);rw [hl] at this;cases this
 subst this;rw [List.append_nil] at hp;exact hp.symm
theorem at_mem {es:List (Lit × DataW Value)} {kl:Lit} {y:DataW Value} (hat:∀ zd,(DataW.map es).atKey kl zd=y):∃ p∈es,p.1=kl/\p.2=y:=by
 unfold DataW.atKey at hat;simp only at hat;cases hf:es.find? (λp=>p.1.sameKey kl) with
 | none=>
  rw [hf] at hat;have h1:=hat .nil;have h2:=hat (.lit .nil);simp only at h1 h2;rw [<- h1] at h2;cases h2
 | some p=>
  rw [hf] at hat;exact ⟨p,List.mem_of_find?_eq_some hf,WideAt.sameKey_eq (List.find?_some (p:=λq:Lit × DataW Value=>q.1.sameKey kl) hf),hat .nil⟩
theorem Came.step {left:Lit->Bool} {xs pre:List RV} {es:List (Lit × DataW Value)} (h:Came left xs pre) (he:es.Perm (iS xs)) (hk:(xs.map RV.key).Nodup) {kl:Lit} {c:RV} (hlk:left kl=true) (hat:∀ zd,(DataW.map es).atKey kl zd=.held c.val) :
  Came (λz=>left z && !z.sameKey kl) xs (pre++[c])/\kl=c.key:=by
 obtain ⟨p,hp,rfl,Hg⟩:=at_mem hat;obtain ⟨x,hx,rfl⟩:=Qk.1 (he.mem_iff.1 hp);have e:x=c:=RV.val_inj (by simpa using Hg);subst e;obtain ⟨rest,Hb,h1,h2⟩:=h;have Hc:x∈rest:=by
  rcases Qi.1 (Hb.mem_iff.1 hx) with hm|hm
  ·have:=h1 x hm
   rw [this] at hlk;cases hlk
  ·exact hm
 obtain ⟨r1,r2,rfl⟩:=List.append_of_mem Hc;have Hh:xs.Perm ((pre++[x])++(r1++r2)):=by
  refine Hb.trans ?_;rw [List.append_assoc];exact List.Perm.append_left _ List.perm_middle
 have He:((pre++(r1++x :: r2)).map RV.key).Nodup:=(Hb.map _).nodup_iff.1 hk;refine ⟨⟨r1++r2,Hh,λy hy=>?_,λy hy=>?_⟩,rfl⟩
 ·rcases Qi.1 hy with hm|hm
  ·show (left y.key && !y.key.sameKey x.key)=false
   rw [h1 y hm];rfl
  ·simp at hm
   subst hm
   show (left y.key && !y.key.sameKey y.key)=false
   rw [WideAt.sameKey_self (show WideAt.IsKeyLit y.key from trivial)];simp
 ·have hm:y∈r1++x :: r2:=by
   rcases Qi.1 hy with hm|hm
   ·exact Qi.2 (.inl hm)
   ·exact Qi.2 (.inr (Qv _ hm))
  have Hi:y.key≠x.key:=by
   rw [Qj,List.nodup_append] at He;have Ha:=He.2.1;have Hf:((x :: (r1++r2)).map RV.key).Nodup:=((List.perm_middle (a:=x) (l₁:=r1) (l₂:=r2)).map RV.key).nodup_iff.1 Ha;rw [Qq,List.nodup_cons] at Hf;exact λe=>Hf.1 (by rw [<- e];exact List.mem_map_of_mem hy)
  show (left y.key && !y.key.sameKey x.key)=true
  rw [h2 y hm,sameKey_ne Hi];rfl
end
section
open RowKit Shelf Go.Maps
attribute [local go_sem] Oper.semAt_some
theorem I8 {key:Value} {kl:Lit} (h:keyOf Tryz.prog 166 key=some kl):∃ cs:Array Value,key=.agg cs:=by
 unfold keyOf at h;rw [Tryz.underlying166] at h;simp only at h
 split at h
 ·rename_i hf
  cases key <;> simp [Value.formed,Tryz.underlying166] at hf;exact ⟨_,rfl⟩
 ·cases h
theorem I9 (F:Fence) (n:Nat) (h8:F.fn 122) (hro:F.round=none) (hn:1<=n) (l Bm b nn:Nat) (xs:List RV) (J Jx:List RV->World->Prop)
  (hY:∀ pre (x:RV) W,J pre W->pre.length<xs.length->YieldAt F (n - 1) Tryz.prog l #[.agg #[.string x.pod,.string x.cont,.int .u64 x.cpus,.slice x.da x.dn x.dc]] W λe W'=>
   (e=.returned (.bool true)/\J (pre++[x]) W'/\KeepsWalks W W')\/(e=.returned (.bool false)/\Jx (pre++[x]) W'))
  (W:World) (hJ:AbidesFrom W.heap.size J) (hm:W.cell? ⟨Bm,0,none⟩=some (.map (some b))) (hown:aZ W b nn xs) (h0:J [] W) :
  CallsIn F n Tryz.prog 122 #[.func (.yield l) #[] #[],.pointer (some ⟨Bm,0,none⟩)] W λe W'=>(∃ v,e=.returned v)/\
   ((∃ ys,ys.Perm xs/\J ys W')\/(∃ pre,True/\Jx pre W')):=by
 have Hr:=hown.keys;obtain ⟨HC,es,ho,he⟩:=hown;have Hq:Maps.size (.map es:DataW Value)=xs.length:=by rw [Maps.size_eq,he.length_eq,iS,Q9]
 refine callsIn_of_wp Tryz.func122 rfl h8 ?_ hro;simp only [Tryz.ntmps122,List.size_toArray,Qg,List.length_nil,Nat.reduceAdd,Nat.reduceSub,Array.replicate_succ,Array.replicate_zero,List.push_toArray,List.append_toArray,List.nil_append,List.cons_append]
 gi_wp2_with (first
  | (gi_at_range;refine wpListIn_range_own _ rfl _ 147 rfl 166 111 kq Tryz.underlying147 _ b nn _ rfl ho ?_;intro w0 Hb Hl HA)
  | gi_in)
 go_frame
 gi_loopw [4] (λ_ wr=>∃ (left:Lit->Bool) (cnt:Nat) (pre:List RV),wr.ranges Tryz.prog 166 ko b W.heap.size nn (.map es) left cnt/\pre.length+cnt<=xs.length/\Came left xs pre/\J pre wr)
  (λ_ wr=>wr.rangeLeft b W.heap.size)
 case atStart=>
  exact ⟨_,_,[],Hb,by rw [Hq];simp,Came.start he,hJ [] W w0 none h0 Hl (λr e=>by cases e)⟩
 case round=>
  obtain ⟨left,cnt,pre,Hh,HD,hC,Hi⟩:=hrel
  gi_wp2_with (first
   | (gi_at_next;refine wpListIn_next_ranges _ rfl _ rfl 166 kq ko (λcs:Array Value=>Value.agg cs) RV.val (λkey kl hk=>I8 hk) (λv y hv=>by obtain ⟨c,rfl,_⟩:=xQ hv;exact ⟨c,rfl⟩) b W.heap.size nn _ _ _ rfl Hh ?_ ?_)
   | gi_in)
  ·intro HB Ho
   gi_wp2
   go_end0
   exact ⟨⟨_,rfl⟩,.inl ⟨pre,hC.finish Ho,Hi⟩⟩
  ·intro x c kl yd yp w2 cnt2 Hx Hw hv Hj Hg Hv Hm Hz He;rw [rJ] at hv;obtain ⟨rfl,rfl⟩:=Prod.mk.inj (Ql hv);obtain ⟨Hk,_⟩:=hC.step he Hr Hw Hj;have Hy:J pre w2:=hJ pre wr w2 (some W.heap.size) Hi Hm (λr e=>by cases e;exact ⟨lR,Hh.iter_walk⟩);have Hu:J pre (w2.alloc (.cells #[.string c.pod,.string c.cont,.int .u64 c.cpus,.slice c.da c.dn c.dc] 111)):=hJ pre w2 _ none Hy (World.grownBy_alloc _ _ _) (λr e=>by cases e);have Hf:=Hg.alloc (.cells #[.string c.pod,.string c.cont,.int .u64 c.cpus,.slice c.da c.dn c.dc] 111);obtain ⟨fn,tmps,assign,body,hy,hR⟩:=hY pre c _ Hu (by omega);clear Hz hv;unfold RV.val at He ⊢
   gi_wp2
   refine hR.mono ?_;rintro e W3 (⟨rfl,Hs,Hn⟩|⟨rfl,Hc⟩)
   ·have Ha:=Hf.of_walks Hn;have Ht:=qI Hk;have Hp:=qI Hv;clear Hk Hj He hy hR
    gi_wp2
    go_roundw
    case rel=>exact ⟨_,cnt2,pre++[c],Ha,by simp;omega,Ht.out,Hs⟩
    case measure=>rw [Ha.left_eq,Hh.left_eq];exact Hp.out
   ·clear He hy hR
    gi_wp2
    refine Qx (results_none rfl _ _ _) rfl ?_;exact ⟨⟨_,rfl⟩,.inr ⟨_,trivial,Hc⟩⟩
theorem Ja (m:Option Nat) (w:World) :
  Calls Tryz.prog 74 #[.map m] w λe w'=>e=.returned (.func (.func 122) #[] #[.pointer (some ⟨w.heap.size,0,none⟩)])/\w'=w.alloc (.cells #[.map m] 147):=by
 go_enter Tryz.func74,Tryz.ntmps74
 go_wp2
 go_ret;exact ⟨rfl,rfl⟩
def encR (x:RV):Array Value:=#[.agg #[.string x.pod,.string x.cont,.int .u64 x.cpus,.slice x.da x.dn x.dc]]
theorem values_stops (F:Fence) (n:Nat) (h8:F.fn 122) (hro:F.round=none) (hn:1<=n) (Bm b nn:Nat) (xs:List RV) (w:World) (hBm:Bm<w.heap.size) (hm:w.cell? ⟨Bm,0,none⟩=some (.map (some b))) (hown:aZ w b nn xs) :
  SeqStopsK F n Tryz.prog 122 #[.pointer (some ⟨Bm,0,none⟩)] encR KeepsWalks (λys=>ys.Perm xs) (λ_=>True) xs.length w:=λl J Jx W hW hJ _ hY h0=>
 I9 F n h8 hro hn l Bm b nn xs J Jx hY W hJ ((hW.cell (p:=⟨Bm,0,none⟩) hBm).trans hm) (hown.block (hW.block b hown.lt)) h0
def bP (base:Nat) (w:World) (v:Value) (ys:List RV):Prop:=w.ownsRow base 111 4 v ys.length (ys.flatMap RV.cells)
theorem rK:(Tryz.prog.info? 111).map (λi=>(i.zero,i.size,i.bytes))=some (some (.agg #[.string ByteArray.empty,.string ByteArray.empty,.int .u64 0,.slice none 0 0]),4,64):=by kernel_rfl
theorem rL (w:World) (x:RV) (t:TypeId):∀ j u,(RV.cells x)[j]?=some u->(w.alloc (.cells #[.string x.pod,.string x.cont,.int .u64 x.cpus,.slice x.da x.dn x.dc] t)).cell? ((⟨w.heap.size,0,none⟩:Addr).add j)=some u:=by
 intro j u hu;rw [Addr.add_lit,Qd]
 match j,hu with
 | 0,hu=>simp [RV.cells] at hu;subst hu;simp
 | 1,hu=>simp [RV.cells] at hu;subst hu;simp
 | 2,hu=>simp [RV.cells] at hu;subst hu;simp
 | 3,hu=>simp [RV.cells] at hu;subst hu;simp
 | n+4,hu=>simp [RV.cells] at hu
theorem bP.push {base:Nat} {w:World} {v:Value} {ys:List RV} {x:RV} (h:w.ownsRow base 111 4 v (ys.length+1) (ys.flatMap RV.cells++RV.cells x)):bP base w v (ys++[x]):=by
 unfold bP;rw [Q2,List.flatMap_append]
 simpa using h
theorem Jb (Bm b nn:Nat) (xs:List RV) (w:World) (hm:w.cell? ⟨Bm,0,none⟩=some (.map (some b))) (hown:aZ w b nn xs) (hl:xs.length<=1000) :
  Calls Tryz.prog 155 #[.slice none 0 0,.func (.func 122) #[] #[.pointer (some ⟨Bm,0,none⟩)]] w λe w'=>(∃ v ys,e=.returned v/\ys.Perm xs/\bP w.heap.size w' v ys)/\Below w.heap.size w w':=by
 obtain ⟨i0,hi,Hp,Hn,Ho⟩:=info_parts rK;refine (callsIn_wide (n:=3)).1 ?_;refine callsIn_of_wp_marks Tryz.func155 rfl trivial ?_ rfl;simp only [Tryz.ntmps155,List.size_toArray,Qg,List.length_nil,Nat.reduceAdd,Nat.reduceSub,Array.replicate_succ,Array.replicate_zero,List.push_toArray,List.append_toArray,List.nil_append,List.cons_append]
 gi_wp2_with fail
 have He:=Q3 w _ hm;have Hk:=qI ((Q0 w.heap.size w).alloc (lR) (.cells #[.slice none 0 0] 105));have Hj:=qI (values_stops Fence.wide (3 - 1) trivial rfl (by omega) Bm b nn xs (w.alloc (.cells #[.slice none 0 0] 105)) (by simp;exact Nat.lt_succ_of_lt He) ((Hk.out.cell (p:=⟨Bm,0,none⟩) He).trans hm) (hown.block (Hk.out.block b hown.lt)));have Ht:=qI (Boxed.new w 105 (.slice none 0 0));have Hw:(w.alloc (.cells #[.slice none 0 0] 105)).heap.size=w.heap.size+1:=by simp
 generalize w.alloc (.cells #[.slice none 0 0] 105)=A at *;refine wpIn_rangeFunc_ownH (α:=RV) rfl (by omega) (gf:=122) (lb:=#[.pointer (some ⟨Bm,0,none⟩)]) rfl trivial (enters_of Tryz.func122 (by kernel_rfl) rfl)
  Hj.out walksK_t walksK_b (Q0 _ _) (λ_=>rfl)
  (λpre W=>(∃ v,Boxed W w.heap.size 105 v/\W.ownsRow w.heap.size 111 4 v pre.length (pre.flatMap RV.cells)/\True)/\Below w.heap.size w W)
  (λ_ _ _=>False)
  (OwnFrom.and (Own.from (holdsRow_own w.heap.size w.heap.size 105 111 4 (λpre:List RV=>pre.length) (λpre=>pre.flatMap RV.cells) (λ_ _=>True)) _) (ownFrom_below (lR) (by omega)))
  (λ_ _ _ _ _ hs _ _=>hs)
  ⟨⟨_,Ht.out,Qw _ _ _ _,trivial⟩,Hk.out⟩
  (λx a' W=>∃ Bx,A.heap.size<=Bx/\W.heap[Bx]?=some (.cells #[.string x.pod,.string x.cont,.int .u64 x.cpus,.slice x.da x.dn x.dc] 111 (0,0))/\a'={ tmps:=#[Value.slice none 0 0,Value.func (Fn.func 122) #[] #[Value.pointer (some { block:=Bm,off:=0 })],Value.pointer (some { block:=w.heap.size,off:=0 }),undef,Value.slice none 0 0,.pointer (some ⟨Bx,0,none⟩),Value.func (Fn.func 122) #[] #[Value.pointer (some { block:=Bm,off:=0 })],.agg #[.string x.pod,.string x.cont,.int .u64 x.cpus,.slice x.da x.dn x.dc],undef,undef,undef,undef,undef],defers:=[] })
  (λx a'=>Own.from (λu W W' row hs hg hr=>by
   obtain ⟨Bx,h1,h2,h3⟩:=hs;refine ⟨Bx,h1,(hg.block Bx (gS h2).1 (λe=>?_)).trans h2,h3⟩;obtain ⟨o,ho,hc⟩:=hr Bx e.symm;rw [h2] at ho;cases ho;cases hc) _) ?assign ?body ?done ?stop
 case assign=>
  rintro l pre x W K ⟨⟨v,Hc,Ha,_⟩,hB⟩ hK;have HK:=qI hK;clear hK;unfold encR
  gi_wp2_with fail
  exact HK.out _ _ ((KeepsOthers.alloc _ _).from _) (KeepsWalks.alloc _ _) ⟨⟨v,Hc.alloc _,Ha.alloc _,trivial⟩,hB.alloc hB.size _⟩ ⟨W.heap.size,by have:=Hc.lt;have:=hB.size;omega,World.alloc_heap_new W _,rfl⟩
 case body=>
  rintro l pre x a' W Hu ⟨r,hr⟩ ⟨⟨v,Hc,Ha,_⟩,hB⟩ ⟨Bx,Hy,Hh,rfl⟩ Hz;have c0:W.cell? ⟨Bx,0,none⟩=some (.string x.pod):=by simp [World.cell?,Hh]
  have c1:W.cell? ⟨Bx,1,none⟩=some (.string x.cont):=by simp [World.cell?,Hh]
  have c2:W.cell? ⟨Bx,2,none⟩=some (.int .u64 x.cpus):=by simp [World.cell?,Hh]
  have c3:W.cell? ⟨Bx,3,none⟩=some (.slice x.da x.dn x.dc):=by simp [World.cell?,Hh]
  have HA:=Hc.cell;have HN:=qI (rL W x 111);have Hb:=qI Ha;have Hm:=qI Hc;have HB:=qI hB;have Hv:pre.length<=1000:=by omega
  clear Ha Hc hB Hh hr
  gi_wp2_with (gi_at_builtin;refine wpListIn_append_own _ rfl _ _ 105 rfl w.heap.size 111 i0 (.agg #[.string ByteArray.empty,.string ByteArray.empty,.int .u64 0,.slice none 0 0]) 4 64 Tryz.underlying105 hi Hp Hn Ho rfl (by decide) _ _ _ rfl (Hb.out.alloc _) ⟨W.heap.size,0,none⟩ 1 1 (RV.cells x) rfl rfl HN.out (by intro u hu;simp [RV.cells] at hu;rcases hu with rfl|rfl|rfl|rfl <;> rfl) (by unfold maxLen;omega) (by omega) (by have:=HB.out.size;simp;omega) ?_;intro v' w1 Hf Hg _;obtain ⟨g',cap',rfl⟩:=ownsRow_succ Hf;obtain ⟨Hl,Hs,Hq,Hi,Hr⟩:=Hm.out.appended (by decide) Hb.out HB.out.size (lR) Hf Hg;have Hx:=Hl.cell;have HC:=Hl.frozen)
  exact ⟨Hi.from _,⟨Hi.size,λk o hk ho=>Hi.same k o hk (Obj.not_cells_of_walk ho)⟩,⟨_,Hs,bP.push Hq⟩,HB.out.trans Hr⟩
 case done=>
  rintro D ys W hD hp ⟨⟨v,Hc,Ha,_⟩,hB⟩ hK;have hc:=Hc.cell;have Hb:=qI Ha;have HB:=qI hB;clear Ha Hc hB
  gi_wp2_with fail
  refine ⟨by simp,.inl ⟨_,_,rfl,run_takeDeferred hK,?_⟩⟩;refine ⟨_,results_tmp rfl _ _ _,?_⟩;exact ⟨⟨v,rfl,ys,hp,ownsRow_putObj Hb.out _ hK rfl⟩,HB.out.trans (belowK_b (w:=w) (lR) _ D _ _ (by omega) hK rfl rfl)⟩
 case stop=>exact λ_ _ _ _ _ _ h _=>h.elim
theorem bP.slice {base:Nat} {w:World} {v:Value} {ys:List RV} (h:bP base w v ys):∃ a c,v=.slice a ys.length c/\ys.length<=c:=by
 rcases h.2 with ⟨hv,hn⟩|⟨g,cap,cur,hv,_,_,hc1,_⟩
 ·exact ⟨none,0,by rw [hv,hn],by omega⟩
 ·exact ⟨_,cap,hv,hc1⟩
theorem Jc (Bm b nn:Nat) (xs:List RV) (w:World) (hm:w.cell? ⟨Bm,0,none⟩=some (.map (some b))) (hown:aZ w b nn xs) (hl:xs.length<=1000) :
  Calls Tryz.prog 120 #[.func (.func 122) #[] #[.pointer (some ⟨Bm,0,none⟩)]] w λe w'=>(∃ v ys,e=.returned v/\ys.Perm xs/\bP w.heap.size w' v ys)/\Below w.heap.size w w':=by
 have HA:=qI (Jb Bm b nn xs w hm hown hl);clear hm hown
 go_enter Tryz.func120,Tryz.ntmps120
 go_wp2_with fail
 refine HA.out.mono ?_;rintro e w1 ⟨⟨v,ys,rfl,hp,hr⟩,hb⟩;have HR:=qI hr;have HP:=qI hp;have HB:=qI hb;obtain ⟨a,c,rfl,_⟩:=hr.slice;clear hr hp hb
 go_wp2
 go_ret;exact ⟨⟨_,ys,rfl,HP.out,HR.out⟩,HB.out⟩
end
