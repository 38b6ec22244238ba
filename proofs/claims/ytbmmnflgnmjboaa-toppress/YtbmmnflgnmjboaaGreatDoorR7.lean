import Derived.Test.YtbmmnflgnmjboaaGreatDoorR2
import Derived.ProofKit
import Derived.OpenShut
import Derived.ChangeOld
import Derived.Deep.Strs
import Derived.Deep.Slices
import Derived.Carry
import Derived.JoinedOf
import Derived.JoinedAt
import Derived.Deep.AppendLies
import Derived.Shelf.Lay
import Derived.Shelf.Spec.SlicesGrow
import Derived.Sort.OwnSortedInts
import Derived.Ground.NamesProg
import Derived.BigRegion
set_option maxRecDepth 100000
set_option maxHeartbeats 16000000
open Go.Proofs.Tryz
namespace Go.Proofs.YtbmmnflgnmjboaaGreatDoor
section
namespace Dvs
structure Dv where
 kind:ByteArray
 node:Int
 sick:Bool
def dv0:Dv:=⟨ByteArray.empty,0,false⟩
instance:Inhabited Dv:=⟨dv0⟩
def dv (ds:List Dv) (k:Nat):Dv:=ds.getD k dv0
def nth (l:List Int) (k:Nat):Int:=l.getD k 0
theorem uk {l:List Int} {k:Nat} (h:k<l.length):l.take (k+1)=l.take k++[nth l k]:=by
 rw [List.take_add_one,nth,List.getD_eq_getElem?_getD,Qf h];rfl
def sel (p:Nat->Bool) (n:Nat):List Nat:=(List.range n).filter p
theorem kQ {p:Nat->Bool} {n:Nat} (h:p n=true):sel p (n+1)=sel p n++[n]:=by simp [sel,List.range_succ,List.filter_append,h]
theorem gA {p:Nat->Bool} {n:Nat} (h:p n=false):sel p (n+1)=sel p n:=by simp [sel,List.range_succ,List.filter_append,h]
theorem jn {p:Nat->Bool} {n j:Nat}:j∈sel p n↔j<n/\p j=true:=by simp [sel]
theorem p9 (p:Nat->Bool) (n:Nat):(sel p n).Nodup:=List.Pairwise.filter _ (by simpa [List.Nodup] using List.nodup_range (n:=n))
theorem qb (p:Nat->Bool) (n:Nat):(sel p n).Pairwise (· < ·):=List.Pairwise.filter _ List.pairwise_lt_range
theorem kR (p:Nat->Bool) (n:Nat):(sel p n).length<=n:=by simpa [sel] using List.length_filter_le p (List.range n)
theorem nT {p q:Nat->Bool} {n:Nat} (h:∀ j,j<n->p j=q j):sel p n=sel q n:=by
 unfold sel;exact List.filter_congr λj hj=>h j (List.mem_range.1 hj)
def srt (l:List Nat):List Nat:=sel (λj=>decide (j∈l)) 16
def cd (us:Nat->Bool) (l:List Nat) (j:Nat):Bool:=us j || decide (j∈l)
theorem ul (us:Nat->Bool):cd us []=us:=by funext j;simp [cd]
theorem Cw (us:Nat->Bool) (l:List Nat) (i j:Nat):cd us (l++[i]) j=(cd us l j || decide (j=i)):=by
 unfold cd
 by_cases h1:j∈l <;> by_cases h2:j=i <;> simp [h1,h2]
def fits (ds:List Dv) (us:Nat->Bool) (kind:ByteArray) (k:Nat):Bool:=decide ((dv ds k).kind=kind) && !(dv ds k).sick && !us k
def fy (ds:List Dv) (m:Nat) (k:Nat):Bool:=m.testBit (dv ds k).node.toNat
def cB (ds:List Dv) (us:Nat->Bool) (kind:ByteArray) (m:Nat) (k:Nat):Bool:=fits ds us kind k && fy ds m k
def gB (ds:List Dv) (us:Nat->Bool) (kind:ByteArray) (m:Nat) (k:Nat):Bool:=fits ds us kind k && !fy ds m k
def ord (ds:List Dv) (us:Nat->Bool) (kind:ByteArray) (m:Nat):List Nat:=sel (cB ds us kind m) ds.length++sel (gB ds us kind m) ds.length
def bx (ds:List Dv) (us:Nat->Bool) (kind:ByteArray) (m many:Nat):List Nat:=(ord ds us kind m).take many
theorem Cx (f g:Nat->Bool) (n:Nat):(sel (λk=>f k && g k) n).length+(sel (λk=>f k && !g k) n).length=(sel f n).length:=by
 induction n with
 | zero=>rfl
 | succ n ih=>
  cases hf:f n <;> cases hg:g n
  ·rw [gA (by simp [hf]),gA (by simp [hf]),gA hf];exact ih
  ·rw [gA (by simp [hf]),gA (by simp [hf]),gA hf];exact ih
  ·rw [gA (by simp [hg]),kQ (by simp [hf,hg]),kQ hf];simp;omega
  ·rw [kQ (by simp [hf,hg]),gA (by simp [hg]),kQ hf];simp;omega
theorem qd (ds:List Dv) (us:Nat->Bool) (kind:ByteArray) (m:Nat):(ord ds us kind m).length=(sel (fits ds us kind) ds.length).length:=by
 unfold ord;rw [Q2];exact Cx (fits ds us kind) (fy ds m) ds.length
theorem um {ds:List Dv} {us:Nat->Bool} {kind:ByteArray} {m j:Nat}:j∈ord ds us kind m↔j<ds.length/\fits ds us kind j=true:=by
 unfold ord cB gB;rw [Qi,jn,jn];cases fy ds m j <;> simp
theorem Cy (ds:List Dv) (us:Nat->Bool) (kind:ByteArray) (m:Nat):(ord ds us kind m).Nodup:=by
 unfold ord;rw [List.nodup_append];refine ⟨p9 _ _,p9 _ _,?_⟩;intro a ha b hb e;subst e;rw [jn] at ha hb;unfold cB gB at *;cases hn:fy ds m a <;> simp [hn] at ha hb
theorem gV {ds:List Dv} {us:Nat->Bool} {kind:ByteArray} {m many j:Nat} (h:j∈bx ds us kind m many):j<ds.length/\fits ds us kind j=true:=um.1 (List.mem_of_mem_take h)
theorem lY (ds:List Dv) (us:Nat->Bool) (kind:ByteArray) (m many:Nat):(bx ds us kind m many).Nodup:=List.Pairwise.sublist (List.take_sublist _ _) (Cy ds us kind m)
theorem uq {l:List Nat} (h16:∀ j∈l,j<16) {j:Nat}:j∈srt l↔j∈l:=by
 unfold srt;rw [jn];constructor
 ·intro ⟨_,h⟩;simpa using h
 ·intro h;exact ⟨h16 j h,by simpa using h⟩
theorem lZ {l:List Nat} (h16:∀ j∈l,j<16) (hn:l.Nodup):(srt l).Perm l:=by
 refine (List.perm_ext_iff_of_nodup (p9 _ _) hn).2 λj=>?_
 exact uq h16
theorem nU {l:List Nat} (h16:∀ j∈l,j<16) (hn:l.Nodup):(srt l).length=l.length:=(lZ h16 hn).length_eq
theorem Cz {l k:List Int} (hp:l.Perm k) (hl:l.Pairwise (·<=·)) (hk:k.Pairwise (·<=·)):l=k:=
 hp.eq_of_pairwise (λ_ _ _ _ h1 h2=>Int.le_antisymm h1 h2) hl hk
theorem CA {l:List Nat} (h16:∀ j∈l,j<16) (hn:l.Nodup):(l.map (λj:Nat=>(j:Int))).mergeSort (λx y=>decide (x<=y))=(srt l).map (λj:Nat=>(j:Int)):=by
 refine Cz ?_ ?_ ?_
 ·exact (List.mergeSort_perm _ _).trans ((lZ h16 hn).map _).symm
 ·have h:=List.pairwise_mergeSort (le:=λx y:Int=>decide (x<=y)) (λa b c h1 h2=>by simp at *;omega) (λa b=>by simp;omega) (l.map λj:Nat=>(j:Int));exact h.imp (λ{a b} hab=>by simpa using hab)
 ·rw [List.pairwise_map];exact (qb _ _).imp (λ{a b} hab=>by omega)
def first (f:Nat->Nat):Nat->Nat
 | 0=>0
 | k+1=>if first f k=0 then f k else first f k
theorem jo {f:Nat->Nat} {k:Nat} (h:first f k=0) (h2:f k=0):first f (k+1)=0:=by rw [first,if_pos h,h2]
theorem CB {f:Nat->Nat} {k:Nat} (h:first f k≠0) (j:Nat):first f (k+j)=first f k:=by
 induction j with
 | zero=>rfl
 | succ j ih=>rw [<- Nat.add_assoc,first,if_neg (by rw [ih];exact h),ih]
theorem iF {f:Nat->Nat} {k n:Nat} (h:first f k=0) (h2:f k≠0) (hk:k<n):first f n=f k:=by
 have e:first f (k+1)=f k:=by rw [first,if_pos h]
 have:=CB (f:=f) (k:=k+1) (by rw [e];exact h2) (n - (k+1))
 rw [show k+1+(n - (k+1))=n by omega] at this;rw [this,e]
theorem cR {f:Nat->Nat} {n:Nat} (h:first f n=0):∀ k,k<n->f k=0:=by
 induction n with
 | zero=>intro k hk;omega
 | succ n ih=>
  rw [first] at h
  split at h
  ·rename_i h0
   intro k hk
   by_cases e:k=n
   ·subst e;exact h
   ·exact ih h0 k (by omega)
  ·rename_i h0;exact absurd h h0
theorem jY {f:Nat->Nat} {n:Nat} (h:∀ k,k<n->f k=0):first f n=0:=by
 induction n with
 | zero=>rfl
 | succ n ih=>exact jo (ih λk hk=>h k (by omega)) (h n (by omega))
def clF (n:Nat) (us:Nat->Bool) (l:List Int) (k:Nat):Nat:=
 if nth l k<0\/(n:Int)<=nth l k then 1 else if (us (nth l k).toNat || decide (nth l k∈l.take k))=true then 5 else 0
def gvF (n:Nat) (us:Nat->Bool) (l:List Int) (k:Nat):Nat:=
 if nth l k<0\/(n:Int)<=nth l k then 1 else if us (nth l k).toNat=true then 0 else 6
def aL (us:Nat->Bool) (l:List Int) (j:Nat):Bool:=us j || decide ((j:Int)∈l)
def ur (us:Nat->Bool) (l:List Int) (j:Nat):Bool:=us j && !decide ((j:Int)∈l)
theorem ut (us:Nat->Bool):aL us []=us:=by funext j;simp [aL]
theorem uu (us:Nat->Bool) (l:List Int) (x:Int) (h:0<=x) (j:Nat):aL us (l++[x]) j=(aL us l j || decide (j=x.toNat)):=by
 unfold aL;have e:decide ((j:Int)∈l++[x])=(decide ((j:Int)∈l) || decide (j=x.toNat)):=by
  rw [<- Bool.decide_or];apply decide_eq_decide.2;have e2:((j:Int)=x)↔(j=x.toNat):=by omega
  rw [Qi,Qm,e2]
 rw [e,Bool.or_assoc]
def kS (b:UInt8):Bool:=decide (97<=b.toNat) && decide (b.toNat<=122)
def iA (b:UInt8):Bool:=decide (48<=b.toNat/\b.toNat<=57)
def okB (s:ByteArray) (i:Nat):Bool:=kS (s.data.toList.getD i 0) || (iA (s.data.toList.getD i 0) && decide (0<i))
theorem byte_at (s:ByteArray) (k:Nat) (h:k<s.size):s.data.toList.getD k 0=s[k]:=by
 have h2:k<s.data.size:=h;rw [List.getD_eq_getElem?_getD,Array.getElem?_toList,Array.getElem?_eq_getElem h2];rfl
theorem CC (s:ByteArray) (k:Nat) (h:k<s.size):okB s k=(kS s[k] || (iA s[k] && decide (0<k))):=by rw [okB,byte_at s k h]
def cS (f:Nat->Bool):Nat->Bool
 | 0=>true
 | k+1=>cS f k && f k
theorem uw {f:Nat->Bool} {k:Nat} (h:cS f k=true) (h2:f k=true):cS f (k+1)=true:=by rw [cS,h,h2];rfl
theorem ux {f:Nat->Bool} {k n:Nat} (h2:f k=false) (hk:k<n):cS f n=false:=by
 induction n with
 | zero=>omega
 | succ n ih=>
  rw [cS]
  by_cases e:k=n
  ·subst e;rw [h2,Bool.and_false]
  ·rw [ih (by omega),Bool.false_and]
def aX (s:ByteArray):Bool:=decide (0<s.size) && decide (s.size<=8) && cS (okB s) s.size
theorem CD {s:ByteArray} (h:s.size=0):aX s=false:=by simp [aX,h]
theorem CE {s:ByteArray} (h:8<s.size):aX s=false:=by simp [aX];omega
theorem CF {s:ByteArray} (h0:0<s.size) (h8:s.size<=8):aX s=cS (okB s) s.size:=by rw [aX,Qc h0,Qc h8];rfl
def eZ (ds:List Dv) (k:Nat):Nat:=if aX (dv ds k).kind=false then 3 else if (dv ds k).node<0\/3<(dv ds k).node then 1 else 0
def fault (ds:List Dv):Nat:=if 16<ds.length then 2 else first (eZ ds) ds.length
def aW (ds:List Dv):Prop:=ds.length<=16/\∀ k,k<ds.length->0<=(dv ds k).node/\(dv ds k).node<=3
theorem gW {ds:List Dv} (h:fault ds=0):aW ds:=by
 unfold fault at h
 split at h
 ·cases h
 ·refine ⟨by omega,λk hk=>?_⟩
  have:=cR h k hk
  unfold eZ at this
  split at this
  ·cases this
  ·split at this
   ·cases this
   ·omega
def cn (p:Nat->Bool) (ds:List Dv) (x n:Nat):Nat:=(sel (λj=>p j && decide ((dv ds j).node=(x:Int))) n).length
theorem uy (p:Nat->Bool) (ds:List Dv) (x n:Nat):cn p ds x n<=n:=kR _ _
theorem qe {p:Nat->Bool} {ds:List Dv} {n:Nat} (h:p n=false) (x:Nat):cn p ds x (n+1)=cn p ds x n:=by
 unfold cn;rw [gA (by rw [h];rfl)]
theorem qg {p:Nat->Bool} {ds:List Dv} {n:Nat} (h:p n=true) (h0:0<=(dv ds n).node) (x:Nat):cn p ds x (n+1)=cn p ds x n+(if x=(dv ds n).node.toNat then 1 else 0):=by
 unfold cn
 by_cases e:x=(dv ds n).node.toNat
 ·rw [kQ (by rw [h,Qc (by omega)];rfl),if_pos e];simp
 ·rw [gA (by rw [h,Q7 (by omega)];rfl),if_neg e];rfl
def bD (ds:List Dv) (kind:ByteArray) (k:Nat):Bool:=decide ((dv ds k).kind=kind) && !(dv ds k).sick
theorem qh (ds:List Dv) (us:Nat->Bool) (kind:ByteArray) (k:Nat):fits ds us kind k=(bD ds kind k && !us k):=rfl
def bQ (ds:List Dv) (us:Nat->Bool) (kind:ByteArray) (many:Int):Nat:=if many<0 then 1 else if ((sel (fits ds us kind) ds.length).length:Int)<many then 9 else 0
end Dvs
end
section
open Go.ChangeShapes Go.WideShapes Go.ChangeAt Go.RowKit
open Dvs (Dv dv0 dv nth)
def eM (W:World) (v:Value) (N:Nat) (p:List Value->Prop):Prop:=
 ∃ ao len c,v=.slice ao len c/\len<=maxLen/\(0<len->∃ b o,ao=some ⟨b,o,none⟩/\b<W.heap.size/\∀ k,k<len->∃ cs:List Value,cs.length=N/\(∀ j,j<N->W.cell? ⟨b,o+k*N+j,none⟩=cs[j]?)/\p cs)
theorem eM.below {W W':World} {v:Value} {N:Nat} {p q:List Value->Prop} (h:eM W v N p) (hb:Below W.heap.size W W') (hp:∀ cs,p cs->q cs):eM W' v N q:=by
 obtain ⟨ao,len,c,hv,hm,hr⟩:=h;refine ⟨ao,len,c,hv,hm,λh0=>?_⟩;obtain ⟨b,o,ha,Ha,hc⟩:=hr h0;refine ⟨b,o,ha,Q1 Ha hb.size,λk hk=>?_⟩;obtain ⟨cs,hl,Hb,Hc⟩:=hc k hk;exact ⟨cs,hl,λj hj=>(hb.cell (p:=⟨b,o+k*N+j,none⟩) Ha).trans (Hb j hj),hp cs Hc⟩
section
variable {H:Type} {enc:TypeId × Value->H} {P:Program} {W:World}
theorem cT {base:Nat} {spare:Nat->Bool} {held:Bool} {fuel:Nat} {t:TypeId} {cs:List Value} {x:DataW H × List MemPlace} {fs:Array Field} (ht:P.underlying t=some (.struct fs)) (h:DataW.trod enc P W base spare held fuel t cs=some x) (i:Nat) (ty:TypeId) (off N:Nat) (hc:P.cellsOf ty=N) (hf:(fs[i]?).map (λf=>(f.type,f.offset))=some (ty,off)) :
  ∃ n y,DataW.trod enc P W base spare held n ty ((cs.drop off).take N)=some y:=by
 obtain ⟨xs,n,_,_,_,Ha,hx⟩:=DataW.trod_struct ht h;obtain ⟨f,hg,e⟩:=Option.map_eq_some_iff.1 hf;cases e;subst hc;have hi:i<xs.length:=by rw [Ha];exact (gS hg).1
 exact ⟨n,xs[i],by rw [hx i f hg];exact Qf hi⟩
theorem l6 {t e:TypeId} {N fuel:Nat} {v:Value} {x:DataW H × List MemPlace} {p:List Value->Prop} (ht:P.underlying t=some (.slice e)) (hN:P.cellsOf e=N) (h0:0<N)
  (h:DataW.trod enc P W 0 (λ_=>true) true fuel t [v]=some x) (hp:∀ n cs y,cs.length=N->DataW.trod enc P W 0 (λ_=>true) true n e cs=some y->p cs):eM W v N p:=by
 rcases Deep.open_slice ht h with ⟨Ha,_⟩|⟨a,len,cap,m,n,D,Pl,Ha,_,hl,hm,Hg,_,hx⟩
 ·simp at Ha
  subst Ha;exact ⟨none,0,0,rfl,Nat.zero_le _,λh=>by omega⟩
 ·simp at Ha
  subst Ha;rw [if_pos rfl] at Hg;subst Hg;rw [hN] at hx;refine ⟨some a,len,_,rfl,Q5 hl hm,λhpos=>?_⟩;obtain ⟨b,off,spot⟩:=a;obtain ⟨cs0,Hh,_⟩:=hx 0 (by omega);obtain ⟨_,Hf,Hi⟩:=World.cells?_some Hh;have hc:=Hi 0 (by omega);rw [Qf (by omega)] at hc;have He:spot=none:=by simpa [Addr.add] using World.cell?_spot hc
  subst He;refine ⟨b,off,rfl,?_,λk hk=>?_⟩
  ·rw [Deep.add_add,Addr.add_lit] at hc;exact Q3 W _ hc
  ·obtain ⟨cs,h1,h2⟩:=hx k (by omega);obtain ⟨_,Hc,Hb⟩:=World.cells?_some h1;refine ⟨cs,Hc,λj hj=>?_,hp n cs _ Hc h2⟩
   have:=Hb j hj
   rw [Deep.add_add,Addr.add_lit,<- Nat.add_assoc] at this;exact this
end
theorem l7:prog.cellsOf 9=1:=by kernel_rfl
theorem jp:prog.cellsOf 3=1:=by kernel_rfl
theorem CG:prog.cellsOf 4=1:=by kernel_rfl
theorem uz:prog.cellsOf 60=2:=by kernel_rfl
theorem CH:prog.cellsOf 109=2:=by kernel_rfl
theorem CI:prog.cellsOf 77=2:=by kernel_rfl
theorem CJ:prog.cellsOf 63=6:=by kernel_rfl
theorem CK:prog.cellsOf 47=3:=by kernel_rfl
theorem CM:prog.cellsOf 61=1:=by kernel_rfl
theorem uA:prog.cellsOf 45=1:=by kernel_rfl
def CN (cs:List Value):Prop:=∃ x:Int,cs=[.int .i64 x]
def kT (cs:List Value):Prop:=∃ (s:ByteArray) (x:Int),cs=[.string s,.int .i64 x]
def iG (W:World) (cs:List Value):Prop:=∃ (nm:ByteArray) (a b c d:Int) (v:Value),cs=[.string nm,.int .i64 a,.int .i64 b,.int .i64 c,.int .i64 d,v]/\eM W v 2 kT
theorem iG.below {W W':World} {cs:List Value} (h:iG W cs) (hb:Below W.heap.size W W'):iG W' cs:=by
 obtain ⟨nm,a,b,c,d,v,rfl,hv⟩:=h;exact ⟨nm,a,b,c,d,v,rfl,hv.below hb λ_ h=>h⟩
section
variable {H:Type} {enc:TypeId × Value->H} {W:World}
theorem jq {n:Nat} {cs:List Value} {y:DataW H × List MemPlace} (h:DataW.trod enc prog W 0 (λ_=>true) true n 3 cs=some y):CN cs:=by
 obtain ⟨p,e,_,_⟩:=DataW.trod_int underlying3 h;exact ⟨p,e⟩
theorem l8 {n:Nat} {cs:List Value} {y:DataW H × List MemPlace} (h:DataW.trod enc prog W 0 (λ_=>true) true n 9 cs=some y):∃ s:ByteArray,cs=[.string s]:=by
 obtain ⟨p,e,_⟩:=DataW.trod_string underlying9 h;exact ⟨p,e⟩
theorem CO {n:Nat} {cs:List Value} {y:DataW H × List MemPlace} (hl:cs.length=2) (h:DataW.trod enc prog W 0 (λ_=>true) true n 109 cs=some y):kT cs:=by
 obtain ⟨_,_,h0⟩:=cT underlying109 h 0 9 0 _ l7 rfl;obtain ⟨_,_,h1⟩:=cT underlying109 h 1 3 1 _ jp rfl
 match cs,hl with
 | [a,b],_=>
  obtain ⟨s,e0⟩:=l8 h0;obtain ⟨x,e1⟩:=jq h1
  simp at e0 e1
  exact ⟨s,x,by rw [e0,e1]⟩
theorem CP {n:Nat} {cs:List Value} {y:DataW H × List MemPlace} (hl:cs.length=2) (h:DataW.trod enc prog W 0 (λ_=>true) true n 77 cs=some y):kT cs:=by
 obtain ⟨_,_,h0⟩:=cT underlying77 h 0 9 0 _ l7 rfl;obtain ⟨_,_,h1⟩:=cT underlying77 h 1 3 1 _ jp rfl
 match cs,hl with
 | [a,b],_=>
  obtain ⟨s,e0⟩:=l8 h0;obtain ⟨x,e1⟩:=jq h1
  simp at e0 e1
  exact ⟨s,x,by rw [e0,e1]⟩
theorem uB {n:Nat} {cs:List Value} {y:DataW H × List MemPlace} (hl:cs.length=2) (h:DataW.trod enc prog W 0 (λ_=>true) true n 60 cs=some y):∃ a b:Int,cs=[.int .i64 a,.int .i64 b]:=by
 obtain ⟨_,_,h0⟩:=cT underlying60 h 0 3 0 _ jp rfl;obtain ⟨_,_,h1⟩:=cT underlying60 h 1 3 1 _ jp rfl
 match cs,hl with
 | [a,b],_=>
  obtain ⟨s,e0⟩:=jq h0;obtain ⟨x,e1⟩:=jq h1
  simp at e0 e1
  exact ⟨s,x,by rw [e0,e1]⟩
theorem CQ {n:Nat} {cs:List Value} {y:DataW H × List MemPlace} (hl:cs.length=6) (h:DataW.trod enc prog W 0 (λ_=>true) true n 63 cs=some y):iG W cs:=by
 obtain ⟨_,_,h0⟩:=cT underlying63 h 0 9 0 _ l7 rfl;obtain ⟨_,_,h1⟩:=cT underlying63 h 1 60 1 _ uz rfl;obtain ⟨_,_,h2⟩:=cT underlying63 h 2 60 3 _ uz rfl;obtain ⟨_,_,h3⟩:=cT underlying63 h 3 61 5 _ CM rfl
 match cs,hl with
 | [a,b,c,d,e,f],_=>
  obtain ⟨s,e0⟩:=l8 h0;obtain ⟨x1,x2,e1⟩:=uB rfl h1;obtain ⟨x3,x4,e2⟩:=uB rfl h2;have h4:=l6 underlying61 CH (by decide) h3 λ_ _ _ hl h=>CO hl h
  simp at e0 e1 e2
  exact ⟨s,x1,x2,x3,x4,f,by rw [e0,e1.1,e1.2,e2.1,e2.2],h4⟩
theorem CR {n:Nat} {cs:List Value} {y:DataW H × List MemPlace} (hl:cs.length=3) (h:DataW.trod enc prog W 0 (λ_=>true) true n 47 cs=some y):∃ (nm:ByteArray) (pr:Int) (cv:Value),cs=[.string nm,.int .i64 pr,cv]/\eM W cv 6 (iG W):=by
 obtain ⟨_,_,h0⟩:=cT underlying47 h 0 9 0 _ l7 rfl;obtain ⟨_,_,h1⟩:=cT underlying47 h 1 3 1 _ jp rfl;obtain ⟨_,_,h2⟩:=cT underlying47 h 2 45 2 _ uA rfl
 match cs,hl with
 | [a,b,c],_=>
  obtain ⟨s,e0⟩:=l8 h0;obtain ⟨x,e1⟩:=jq h1;have h4:=l6 underlying45 CJ (by decide) h2 λ_ _ _ hl h=>CQ hl h
  simp at e0 e1
  exact ⟨s,x,c,by rw [e0,e1],h4⟩
def uC (cs:List Value):Prop:=∃ d:Dv,cs=[.string d.kind,.int .i64 d.node,.bool d.sick]
theorem CS {n:Nat} {cs:List Value} {y:DataW H × List MemPlace} (hl:cs.length=3) (h:DataW.trod enc prog W 0 (λ_=>true) true n 87 cs=some y):uC cs:=by
 obtain ⟨_,_,h0⟩:=cT underlying87 h 0 9 0 _ l7 rfl;obtain ⟨_,_,h1⟩:=cT underlying87 h 1 3 1 _ jp rfl;obtain ⟨_,_,h2⟩:=cT underlying87 h 2 4 2 _ CG rfl
 match cs,hl with
 | [a,b,c],_=>
  obtain ⟨s,e0⟩:=l8 h0;obtain ⟨x,e1⟩:=jq h1;obtain ⟨q,e2,_⟩:=DataW.trod_bool underlying4 h2
  simp at e0 e1 e2
  exact ⟨⟨s,x,q⟩,by rw [e0,e1,e2]⟩
end
def cU (w:World) (v:Value) (g o:Nat) (ds:List Dv):Prop:=
 ∃ ao c,v=.slice ao ds.length c/\(0<ds.length->ao=some ⟨g,o,none⟩/\g<w.heap.size/\∀ k,k<ds.length->w.cell? ⟨g,o+k*3,none⟩=some (.string (dv ds k).kind)/\w.cell? ⟨g,o+k*3+1,none⟩=some (.int .i64 (dv ds k).node)/\w.cell? ⟨g,o+k*3+2,none⟩=some (.bool (dv ds k).sick))
def fR (w:World) (v:Value) (g o:Nat) (l:List Int):Prop:=
 ∃ ao c,v=.slice ao l.length c/\(0<l.length->ao=some ⟨g,o,none⟩/\g<w.heap.size/\∀ k,k<l.length->w.cell? ⟨g,o+k,none⟩=some (.int .i64 (nth l k)))
theorem CU {W:World} {v:Value} (h:eM W v 3 uC):∃ ds g o,cU W v g o ds/\(0<ds.length->g<W.heap.size):=by
 obtain ⟨ao,len,c,rfl,hm,hr⟩:=h
 by_cases h0:len=0
 ·subst h0;exact ⟨[],0,0,⟨ao,c,rfl,λh=>by simp at h⟩,λh=>by simp at h⟩
 ·obtain ⟨b,o,rfl,Hb,hc⟩:=hr (by omega);obtain ⟨f,hf⟩:=Deep.choose_lt (α:=Dv) (n:=len) (p:=λk d=>W.cell? ⟨b,o+k*3,none⟩=some (.string d.kind)/\W.cell? ⟨b,o+k*3+1,none⟩=some (.int .i64 d.node)/\W.cell? ⟨b,o+k*3+2,none⟩=some (.bool d.sick)) (λk hk=>by
   obtain ⟨cs,_,Ha,d,rfl⟩:=hc k hk;exact ⟨d,Ha 0 (by decide),Ha 1 (by decide),Ha 2 (by decide)⟩)
  refine ⟨(List.range len).map f,b,o,⟨_,c,by simp,λ_=>⟨rfl,Hb,λk hk=>?_⟩⟩,λ_=>Hb⟩;have Hc:k<len:=by simpa using hk
  have e:dv ((List.range len).map f) k=f k:=by simp [dv,Hc]
  rw [e];exact hf k Hc
end
section
open RowKit
open Dvs (Dv dv0 dv nth)
def Ans (e:Ending):Prop:=∃ b,e=.returned (.bool b)
theorem NJ (v:Value) (w:World) (h:eM w v 2 kT):Calls prog 25 #[v] w λe w'=>Ans e/\w'=w:=by
 obtain ⟨ao,len,c,rfl,hm,hr⟩:=h;have HR:=qI hr;clear hr hm
 by_cases h20:20<len
 ·go_enter func25,ntmps25
  go_wp2
  go_ret;exact ⟨⟨_,rfl⟩,rfl⟩
 have Hb:len<=20:=by omega
 clear h20;have hd:decide (20<(len:Int))=false:=Q7 (by omega)
 go_enter func25,ntmps25
 go_wp2_with fail
 go_loop [3] (λi=>∃ k:Nat,k<=len/\i=.int .i64 k) (λi=>len - (intOf i).toNat)
 case atStart=>exact ⟨0,by omega,rfl⟩
 case round=>
  obtain ⟨k,hk,rfl⟩:=hrel
  by_cases hlt:k<len
  ·obtain ⟨b,o,rfl,He,Ha⟩:=HR.out (by omega);obtain ⟨cs,_,hc,s,x,rfl⟩:=Ha k hlt;have c0:w.cell? ⟨b,o+k*2,none⟩=some (.string s):=hc 0 (by decide);have c1:w.cell? ⟨b,o+k*2+1,none⟩=some (.int .i64 x):=hc 1 (by decide);clear hc Ha;have key:30<s.size\/(s.size<=30/\x < -1125899906842624)\/(s.size<=30/\-1125899906842624<=x/\1125899906842624<x)\/(s.size<=30/\-1125899906842624<=x/\x<=1125899906842624):=by omega
   rcases key with h1|⟨h1,h2⟩|⟨h1,h2,h3⟩|⟨h1,h2,h3⟩
   ·go_wp2
    go_ret;exact ⟨⟨_,rfl⟩,rfl⟩
   ·go_wp2
    go_ret;exact ⟨⟨_,rfl⟩,rfl⟩
   ·go_wp2
    go_ret;exact ⟨⟨_,rfl⟩,rfl⟩
   ·go_wp2_with fail
    go_round
    case rel=>exact ⟨k+1,by omega,by go_num⟩
    case measure=>simp [intOf];omega
  ·have Hc:k=len:=by omega
   subst Hc
   go_wp2
   go_ret;exact ⟨⟨_,rfl⟩,rfl⟩
theorem CV (nm:ByteArray) (pr:Int) (cv:Value) (w:World) (h:eM w cv 6 (iG w)):Calls prog 29 #[.agg #[.string nm,.int .i64 pr,cv]] w λe w'=>Ans e/\Below w.heap.size w w':=by
 have Hf:=qI ((Q0 w.heap.size w).alloc (lR) (.cells #[.string nm,.int .i64 pr,cv] 47));have HH:=qI h;obtain ⟨ao,len,c,rfl,hm,_⟩:=h;clear hm
 by_cases h30:30<nm.size
 ·go_enter func29,ntmps29
  go_wp2
  go_ret;exact ⟨⟨_,rfl⟩,Hf.out⟩
 have He:nm.size<=30:=by omega
 clear h30
 by_cases h5:5<len
 ·go_enter func29,ntmps29
  go_wp2
  go_ret;exact ⟨⟨_,rfl⟩,Hf.out⟩
 have Hr:len<=5:=by omega
 have Hs:decide (30<(nm.size:Int))=false:=Q7 (by omega);have Ht:decide (5<(len:Int))=false:=Q7 (by omega);clear h5 He
 go_enter func29,ntmps29
 go_wp2
 go_loopw [3] (λi wr=>∃ k:Nat,k<=len/\i=.int .i64 k/\Below w.heap.size w wr/\wr.cell? ⟨w.heap.size,2,none⟩=some (.slice ao len c)) (λi _=>len - (intOf i).toNat)
 case atStart=>exact ⟨0,by omega,rfl,Hf.out,by simp⟩
 case round=>
  obtain ⟨k,hk,rfl,hB,Hm⟩:=hrel
  by_cases hlt:k<len
  ·obtain ⟨ao',len',c',hv,_,hr⟩:=HH.out.below hB λ_ h=>h.below hB
   cases hv;obtain ⟨b,o,rfl,Hp,Hi⟩:=hr (by omega);obtain ⟨cs,_,hc,cn,x1,x2,x3,x4,dv,rfl,Hg⟩:=Hi k hlt;have c0:wr.cell? ⟨b,o+k*6,none⟩=some (.string cn):=hc 0 (by decide);have c1:wr.cell? ⟨b,o+k*6+1,none⟩=some (.int .i64 x1):=hc 1 (by decide);have c2:wr.cell? ⟨b,o+k*6+2,none⟩=some (.int .i64 x2):=hc 2 (by decide);have c3:wr.cell? ⟨b,o+k*6+3,none⟩=some (.int .i64 x3):=hc 3 (by decide);have c4:wr.cell? ⟨b,o+k*6+4,none⟩=some (.int .i64 x4):=hc 4 (by decide);have c5:wr.cell? ⟨b,o+k*6+5,none⟩=some dv:=hc 5 (by decide);have Ha:=qI (hB.alloc hB.size (.cells #[.string cn,.int .i64 x1,.int .i64 x2,.int .i64 x3,.int .i64 x4,dv] 63));have HD:=qI (Hg.below ((Q0 wr.heap.size wr).alloc (lR) (.cells #[.string cn,.int .i64 x1,.int .i64 x2,.int .i64 x3,.int .i64 x4,dv] 63)) λ_ h=>h);have Hc:=Lib.cell?_alloc_some (.cells #[.string cn,.int .i64 x1,.int .i64 x2,.int .i64 x3,.int .i64 x4,dv] 63) Hm;have Hq:=hB.size;obtain ⟨da,dl,dc,rfl,_,_⟩:=Hg;clear hc Hi hr hB
   by_cases g30:30<cn.size
   ·go_wp2
    go_ret;exact ⟨⟨_,rfl⟩,Ha.out⟩
   have g30':cn.size<=30:=by omega
   clear g30
   by_cases g5:5<dl
   ·go_wp2
    go_ret;exact ⟨⟨_,rfl⟩,Ha.out⟩
   have g5':dl<=5:=by omega
   have e1:decide (30<(cn.size:Int))=false:=Q7 (by omega);have e2:decide (5<(dl:Int))=false:=Q7 (by omega);clear g5 g30'
   go_wp2_with fail
   go_loop [5] (λi=>∃ q:Nat,q<=dl/\i=.int .i64 q) (λi=>dl - (intOf i).toNat)
   case atStart=>exact ⟨0,by omega,rfl⟩
   case round=>
    obtain ⟨q,hq,rfl⟩:=hrel
    by_cases hql:q<dl
    ·obtain ⟨ao2,len2,c2',Ho,_,Hj⟩:=HD.out;cases Ho;obtain ⟨b2,o2,rfl,Hk,Hb⟩:=Hj (by omega);obtain ⟨cs2,_,Hh,s2,y2,rfl⟩:=Hb q hql;have d0:=Hh 0 (by decide);simp only [Nat.add_zero,List.getElem?_cons_zero] at d0;clear Hh Hb Hj
     by_cases k30:30<s2.size
     ·go_wp2
      go_ret;exact ⟨⟨_,rfl⟩,Ha.out⟩
     have k30':s2.size<=30:=by omega
     clear k30
     go_wp2_with fail
     go_round
     case rel=>exact ⟨q+1,by omega,by go_num⟩
     case measure=>simp [intOf];omega
    ·have Hl:q=dl:=by omega
     subst Hl
     go_wp2
     go_roundw
     case rel=>exact ⟨k+1,by omega,by go_num,Ha.out,Hc⟩
     case measure=>simp [intOf];omega
  ·have Hn:k=len:=by omega
   subst Hn;have Ha:=qI hB;clear hB
   go_wp2
   go_ret;exact ⟨⟨_,rfl⟩,Ha.out⟩
end
section
open RowKit
open Dvs (Dv dv0 dv nth kS iA okB cS aX)
theorem nV (x:UInt8) (w:World):Calls prog 85 #[.int .u8 x.toNat] w λe w'=>e=.returned (.bool (kS x))/\w'=w:=by
 unfold kS
 by_cases h1:97<=x.toNat
 all_goals by_cases h2:x.toNat<=122
 ·go_enter func85,ntmps85
  go_wp2
  go_ret;refine ⟨?_,rfl⟩
  simp [h1,h2]
  try omega
 ·go_enter func85,ntmps85
  go_wp2
  go_ret;refine ⟨?_,rfl⟩
  simp [h1,h2]
  try omega
 ·go_enter func85,ntmps85
  go_wp2
  go_ret;refine ⟨?_,rfl⟩
  simp
  try omega
 ·omega
theorem nW (x:UInt8) (w:World):Calls prog 84 #[.int .u8 x.toNat] w λe w'=>(∃ n,e=.returned (.tuple #[.int .i64 n,.bool (iA x)]))/\w'=w:=by
 cases h:iA x
 ·exact (Aj x w h).mono λe w' ⟨he,hw⟩=>⟨⟨_,he⟩,hw⟩
 ·exact (Ai x w h).mono λe w' ⟨he,hw⟩=>⟨⟨_,he⟩,hw⟩
theorem fA (s:ByteArray) (w:World):Calls prog 46 #[.string s] w λe w'=>e=.returned (.bool (aX s))/\w'=w:=by
 by_cases he:s.size=0
 ·have He:s.toList.isEmpty=true:=by rw [Ost.sR];simp [he]
  rw [Dvs.CD he];clear he
  go_enter func46,ntmps46
  go_wp2
  go_ret;exact ⟨rfl,rfl⟩
 have He:s.toList.isEmpty=false:=by rw [Ost.sR];simp [he]
 by_cases h8:8<s.size
 ·rw [Dvs.CE h8]
  go_enter func46,ntmps46
  go_wp2
  go_ret;exact ⟨rfl,rfl⟩
 have Hb:s.size<=8:=by omega
 rw [Dvs.CF (by omega) Hb];clear h8 he
 go_enter func46,ntmps46
 go_wp2_with fail
 go_loop [15] (λi=>∃ k:Nat,k<=s.size/\i=.int .i64 k/\Hid (cS (okB s) k=true)) (λi=>s.size - (intOf i).toNat)
 case atStart=>exact ⟨0,Nat.zero_le _,rfl,rfl⟩
 case round=>
  obtain ⟨k,hk,rfl,HA⟩:=hrel
  by_cases hlt:k<s.size
  ·have HO:=qI (Dvs.CC s k hlt)
   rcases two (kS s[k]) with hl|hl
   ·have HN:Hid (cS (okB s) (k+1)=true):=Dvs.uw HA.out (by rw [HO.out,hl];rfl)
    go_wp2_with fail
    refine (nW _ _).mono ?_;rintro e w1 ⟨⟨n,rfl⟩,rfl⟩
    go_wp2_with fail
    refine (nV _ _).mono ?_;rintro e w1 ⟨rfl,rfl⟩;rw [hl]
    go_wp2_with fail
    go_round
    case rel=>exact ⟨k+1,by omega,by go_num,HN⟩
    case measure=>simp [intOf];omega
   ·rcases two (iA s[k]) with hn|hn
    ·by_cases h0:0<k
     ·have HN:Hid (cS (okB s) (k+1)=true):=Dvs.uw HA.out (by rw [HO.out,hl,hn,Qc h0];rfl)
      go_wp2_with fail
      refine (nW _ _).mono ?_;rintro e w1 ⟨⟨n,rfl⟩,rfl⟩;rw [hn]
      go_wp2_with fail
      refine (nV _ _).mono ?_;rintro e w1 ⟨rfl,rfl⟩;rw [hl]
      go_wp2_with fail
      go_round
      case rel=>exact ⟨k+1,by omega,by go_num,HN⟩
      case measure=>simp [intOf];omega
     ·have HN:Hid (cS (okB s) s.size=false):=Dvs.ux (k:=k) (by rw [HO.out,hl,hn,Q7 h0];rfl) hlt;have Hc:k=0:=by omega
      subst Hc
      go_wp2_with fail
      refine (nW _ _).mono ?_;rintro e w1 ⟨⟨n,rfl⟩,rfl⟩;rw [hn]
      go_wp2_with fail
      refine (nV _ _).mono ?_;rintro e w1 ⟨rfl,rfl⟩;rw [hl]
      go_wp2
      go_ret;exact ⟨congrArg (λb=>Ending.returned (.bool b)) HN.out.symm,rfl⟩
    ·have HN:Hid (cS (okB s) s.size=false):=Dvs.ux (k:=k) (by rw [HO.out,hl,hn];rfl) hlt
     go_wp2_with fail
     refine (nW _ _).mono ?_;rintro e w1 ⟨⟨n,rfl⟩,rfl⟩;rw [hn]
     go_wp2_with fail
     refine (nV _ _).mono ?_;rintro e w1 ⟨rfl,rfl⟩;rw [hl]
     go_wp2
     go_ret;exact ⟨congrArg (λb=>Ending.returned (.bool b)) HN.out.symm,rfl⟩
  ·have Ha:k=s.size:=by omega
   have HN:Hid (cS (okB s) s.size=true):=by rw [<- Ha];exact HA
   clear Ha HA
   go_wp2
   go_ret;exact ⟨congrArg (λb=>Ending.returned (.bool b)) HN.out.symm,rfl⟩
end
section
open RowKit
open Dvs (Dv dv0 dv nth)
structure ak (w:World) (pb db:Nat) (ao:Option Addr) (c:Nat) (ds:List Dv) (us:Nat->Bool):Prop where
 row:w.cell? ⟨pb,0,none⟩=some (.slice ao ds.length c)
 at0:0<ds.length->ao=some ⟨db,0,none⟩/\db≠pb/\db<w.heap.size
 cells:∀ k,k<ds.length->w.cell? ⟨db,k*3,none⟩=some (.string (dv ds k).kind)/\w.cell? ⟨db,k*3+1,none⟩=some (.int .i64 (dv ds k).node)/\w.cell? ⟨db,k*3+2,none⟩=some (.bool (dv ds k).sick)/\w.frozen? ⟨db,k*3+2,none⟩=false
 used:∀ j,j<16->w.cell? ⟨pb,1+j,none⟩=some (.bool (us j))/\w.frozen? ⟨pb,1+j,none⟩=false
theorem ak.lt {w:World} {pb db:Nat} {ao:Option Addr} {c:Nat} {ds:List Dv} {us:Nat->Bool} (h:ak w pb db ao c ds us):pb<w.heap.size:=Q3 w _ h.row
theorem ak.kept {w w':World} {pb db:Nat} {ao:Option Addr} {c:Nat} {ds:List Dv} {us:Nat->Bool} {g:Option Nat} (h:ak w pb db ao c ds us) (hg:w.grownBy w' g) (h1:some pb≠g) (h2:0<ds.length->some db≠g):ak w' pb db ao c ds us:=by
 refine ⟨(hg.cell_far _ h.lt h1).trans h.row,λh0=>⟨(h.at0 h0).1,(h.at0 h0).2.1,Q1 (h.at0 h0).2.2 hg.size⟩,λk hk=>?_,λj hj=>?_⟩
 ·obtain ⟨c1,c2,c3,c4⟩:=h.cells k hk;have h0:0<ds.length:=by omega
  have Ha:=(h.at0 h0).2.2;exact ⟨(hg.cell_far _ Ha (h2 h0)).trans c1,(hg.cell_far _ Ha (h2 h0)).trans c2,(hg.cell_far _ Ha (h2 h0)).trans c3,(hg.frozen_far _ Ha (h2 h0)).trans c4⟩
 ·obtain ⟨c1,c2⟩:=h.used j hj;exact ⟨(hg.cell_far _ h.lt h1).trans c1,(hg.frozen_far _ h.lt h1).trans c2⟩
theorem bL (w:World) (a:Addr) (u:Value):w.grownBy (w.setCell a u) (some a.block):=
 ⟨rfl,rfl,rfl,by simp,λk _ hne=>Below.heap_setCell _ _ _ _ λe=>hne (by rw [e])⟩
theorem dD {w w':World} (h:Below w.heap.size w w') (g:Option Nat):w.grownBy w' g:=⟨h.os,h.tape,h.output,h.size,λk hk _=>h.block k hk⟩
theorem below_grown {w w':World} {g:Option Nat} (h:w.grownBy w' g) {K:Nat} (hK:K<=w.heap.size) (hg:∀ j,g=some j->K<=j):Below K w w':=
 ⟨h.os,h.tape,h.output,h.size,λk hk=>h.block k (by omega) (λe=>by have:=hg k e.symm;omega)⟩
theorem qi (w:World) (g:Option Nat):w.grownBy w g:=⟨rfl,rfl,rfl,lR,λ_ _ _=>rfl⟩
theorem ak.below {w w':World} {pb db:Nat} {ao:Option Addr} {c:Nat} {ds:List Dv} {us:Nat->Bool} (h:ak w pb db ao c ds us) (hb:Below w.heap.size w w'):ak w' pb db ao c ds us:=h.kept (dD hb none) (by simp) (by simp)
theorem ak.drewN {w:World} {pb db:Nat} {ao:Option Addr} {c:Nat} {ds:List Dv} {us:Nat->Bool} (h:ak w pb db ao c ds us) (n:Nat):ak (w.drewN n) pb db ao c ds us:=h.below (below_drewN (Q0 _ w) n)
theorem ak.alloc {w:World} {pb db:Nat} {ao:Option Addr} {c:Nat} {ds:List Dv} {us:Nat->Bool} (h:ak w pb db ao c ds us) (o:Obj):ak (w.alloc o) pb db ao c ds us:=h.below ((Q0 _ w).alloc (lR) o)
theorem ak.set {w:World} {pb db:Nat} {ao:Option Addr} {c:Nat} {ds:List Dv} {us vs:Nat->Bool} (h:ak w pb db ao c ds us) {m:Nat} (hm:m<16) (b:Bool) (hv:∀ j,j<16->vs j=if j=m then b else us j):ak (w.setCell ⟨pb,1+m,none⟩ (.bool b)) pb db ao c ds vs:=by
 have Hb:∀ x,x≠1+m->(⟨pb,1+m,none⟩:Addr)≠⟨pb,x,none⟩:=λx hx e=>by cases e;exact hx rfl
 refine ⟨?_,λh0=>⟨(h.at0 h0).1,(h.at0 h0).2.1,by simpa using (h.at0 h0).2.2⟩,λk hk=>?_,λj hj=>?_⟩
 ·rw [World.cell?_setCell_other (h:=Hb 0 (by omega))];exact h.row
 ·obtain ⟨c1,c2,c3,c4⟩:=h.cells k hk;have h0:0<ds.length:=by omega
  have hd:=(h.at0 h0).2.1;have Ha:=(h.at0 h0).2.2;have hg:=bL w ⟨pb,1+m,none⟩ (.bool b);have hn:some db≠some pb:=by simpa using hd
  exact ⟨(hg.cell_far _ Ha hn).trans c1,(hg.cell_far _ Ha hn).trans c2,(hg.cell_far _ Ha hn).trans c3,(hg.frozen_far _ Ha hn).trans c4⟩
 ·obtain ⟨cj,z⟩:=h.used j hj;obtain ⟨cm,_⟩:=h.used m hm;refine ⟨?_,(World.frozen?_setCell ..).trans z⟩;rw [hv j hj]
  by_cases e:j=m
  ·subst e
   simp
   clear cj hv Hb;go_simp
  ·rw [if_neg e,World.cell?_setCell_other (h:=Hb (1+j) (by omega))];exact cj
theorem fR.kept {w w':World} {v:Value} {g o:Nat} {l:List Int} {r:Option Nat} (h:fR w v g o l) (hg:w.grownBy w' r) (hr:0<l.length->some g≠r):fR w' v g o l:=by
 obtain ⟨ao,c,hv,hc⟩:=h;refine ⟨ao,c,hv,λh0=>?_⟩;obtain ⟨h1,h2,h3⟩:=hc h0;exact ⟨h1,Q1 h2 hg.size,λk hk=>(hg.cell_far _ h2 (hr h0)).trans (h3 k hk)⟩
theorem fR.below {w w':World} {v:Value} {g o:Nat} {l:List Int} (h:fR w v g o l) (hb:Below w.heap.size w w'):fR w' v g o l:=h.kept (dD hb none) (by simp)
theorem cU.below {w w':World} {v:Value} {g o:Nat} {ds:List Dv} (h:cU w v g o ds) (hb:Below w.heap.size w w'):cU w' v g o ds:=by
 obtain ⟨ao,c,hv,hc⟩:=h;refine ⟨ao,c,hv,λh0=>?_⟩;obtain ⟨h1,h2,h3⟩:=hc h0;refine ⟨h1,Q1 h2 hb.size,λk hk=>?_⟩;obtain ⟨c1,c2,c3⟩:=h3 k hk;exact ⟨(hb.cell (p:=⟨g,o+k*3,none⟩) h2).trans c1,(hb.cell (p:=⟨g,o+k*3+1,none⟩) h2).trans c2,(hb.cell (p:=⟨g,o+k*3+2,none⟩) h2).trans c3⟩
def jZ (n:Int) (k:Nat):Bool:=decide (0<=n) && decide (n<(k:Int))
theorem CX (n:Int) (w:World) (pb db:Nat) (ao:Option Addr) (c:Nat) (ds:List Dv) (us:Nat->Bool) (h:ak w pb db ao c ds us) :
  Calls prog 118 #[.pointer (some ⟨pb,0,none⟩),.int .i64 n] w λe w'=>e=.returned (.bool (jZ n ds.length))/\w'=w:=by
 have hr:=h.row;clear h;unfold jZ;generalize ds.length=m at *
 by_cases h1:0<=n
 all_goals by_cases h2:n<m
 all_goals
  go_enter func118,ntmps118
  go_wp2
  go_ret;refine ⟨?_,rfl⟩
  simp [h1,h2]
end
end Go.Proofs.YtbmmnflgnmjboaaGreatDoor
namespace Go.Proofs
open Go.Shelf
shelf_lay_g SlLaysE0.n41 Slgn 41 at Tryz 83 as Tryz.cloneL
shelf_lay_g Lays8.n4 Nm8 4 at Tryz 208 as Tryz.growL
shelf_lay Lays.n189 Nm 189 at Tryz as Tryz.sortL9
end Go.Proofs
namespace Go.Proofs.YtbmmnflgnmjboaaGreatDoor
section
open RowKit
open Dvs (Dv dv0 dv nth)
def ez (l:List Dv):List Value:=l.flatMap λx=>[.string x.kind,.int .i64 x.node,.bool x.sick]
theorem uD (l:List Dv):(ez l).length=l.length*3:=by
 induction l with
 | nil=>rfl
 | cons a r ih=>simp only [ez,List.flatMap_cons,Q2,Qg,List.length_nil] at ih ⊢;omega
theorem uE (l:List Dv) (k:Nat) (hk:k<l.length):(ez l)[k*3]?=some (.string (dv l k).kind)/\(ez l)[k*3+1]?=some (.int .i64 (dv l k).node)/\(ez l)[k*3+2]?=some (.bool (dv l k).sick):=by
 induction l generalizing k with
 | nil=>simp at hk
 | cons a r ih=>
  cases k with
  | zero=>simp [ez,dv]
  | succ k=>
   have:=ih k (by simpa using hk)
   have e:ez (a :: r)=[.string a.kind,.int .i64 a.node,.bool a.sick]++ez r:=rfl;have e2:dv (a :: r) (k+1)=dv r k:=by simp [dv]
   rw [e,e2,show (k+1)*3=k*3+3 by omega]
   simpa using this
theorem CY {w:World} {b o:Nat} {l:List Dv} (h:∀ k,k<l.length->w.cell? ⟨b,o+k*3,none⟩=some (.string (dv l k).kind)/\w.cell? ⟨b,o+k*3+1,none⟩=some (.int .i64 (dv l k).node)/\w.cell? ⟨b,o+k*3+2,none⟩=some (.bool (dv l k).sick)) (j:Nat) (u:Value) (hj:(ez l)[j]?=some u):w.cell? ((⟨b,o,none⟩:Addr).add j)=some u:=by
 have Ha:j<l.length*3:=by rw [<- uD];exact (List.getElem?_eq_some_iff.1 hj).1
 obtain ⟨h0,h1,h2⟩:=h (j / 3) (by omega);obtain ⟨c0,c1,c2⟩:=uE l (j / 3) (by omega);rw [Addr.add_lit]
 have:j=j / 3*3\/j=j / 3*3+1\/j=j / 3*3+2:=by omega
 rcases this with e|e|e
 ·rw [<- e] at c0 h0;rw [h0,<- c0,hj]
 ·rw [<- e] at c1;rw [Nat.add_assoc,<- e] at h1;rw [h1,<- c1,hj]
 ·rw [<- e] at c2;rw [Nat.add_assoc,<- e] at h2;rw [h2,<- c2,hj]
theorem CZ (l:List Dv):∀ u∈ez l,u.oneCell'=true:=by
 intro u hu;simp only [ez,List.mem_flatMap] at hu;obtain ⟨x,_,hx⟩:=hu
 simp at hx
 rcases hx with rfl|rfl|rfl <;> rfl
theorem C0:(prog.info? 87).map (λi=>(i.zero,i.size,i.bytes))=some (some (.agg #[.string ByteArray.empty,.int .i64 0,.bool false]),3,32):=by kernel_rfl
theorem C5 (ao:Option Addr) (n c:Nat) (w:World):Sem.run prog (binOp BinOp.eql 25 (.slice ao n c) (.slice none 0 0)) w=.ok (.bool ao.isNone) w:=Lib.run_eql_slice_nil w _ _ ao n c 0 0 underlying25
def gC (B:Nat) (w:World) (v:Value) (ds:List Dv):Prop:=
 ∃ ao c g,v=.slice ao ds.length c/\(0<ds.length->ao=some ⟨g,0,none⟩/\B<=g/\g<w.heap.size)/\
  ∀ k,k<ds.length->w.cell? ⟨g,k*3,none⟩=some (.string (dv ds k).kind)/\w.cell? ⟨g,k*3+1,none⟩=some (.int .i64 (dv ds k).node)/\w.cell? ⟨g,k*3+2,none⟩=some (.bool (dv ds k).sick)/\w.frozen? ⟨g,k*3+2,none⟩=false
theorem gC.of_own {B:Nat} {w:World} {v:Value} {ds:List Dv} (h:w.ownsRow B 87 3 v ds.length (ez ds)):gC B w v ds:=by
 rcases h.2 with ⟨rfl,h1⟩|⟨g,cap,cur,rfl,hg,Ha,_⟩
 ·exact ⟨none,0,0,by rw [h1],λh0=>by omega,λk hk=>by omega⟩
 ·refine ⟨_,cap,g,rfl,λ_=>⟨rfl,hg,(gS Ha).1⟩,λk hk=>?_⟩;obtain ⟨c0,c1,c2⟩:=uE ds k hk;refine ⟨?_,?_,?_,by simp [World.frozen?,Ha]⟩
  ·rw [h.cellAt (k*3) (by omega)];exact c0
  ·rw [h.cellAt (k*3+1) (by omega)];exact c1
  ·rw [h.cellAt (k*3+2) (by omega)];exact c2
theorem uF (a:Addr) (c:Nat) (l:List Dv) (w:World) (hc:∀ j u,(ez l)[j]?=some u->w.cell? (a.add j)=some u) (hl:l.length<=16) :
  Calls prog 83 #[.slice (some a) l.length c] w λe w'=>∃ v,e=.returned v/\gC w.heap.size w' v l/\Below w.heap.size w w':=by
 obtain ⟨i0,hi,He,Hg,Hh⟩:=info_parts C0;have HB:=qI ((Q0 w.heap.size w).alloc (lR) (.cells #[] 87));have HC:Hid (∀ j u,(ez l)[j]?=some u->(w.alloc (.cells #[] 87)).cell? (a.add j)=some u):=λj u hj=>Lib.cell?_alloc_some _ (hc j u hj)
 have Hc:=C5 (some a) l.length c w;clear hc
 go_enter func83,ntmps83
 go_wp2_with (at_builtin;(refine wpList_append_own _ rfl _ _ 25 rfl w.heap.size 87 i0 (.agg #[.string ByteArray.empty,.int .i64 0,.bool false]) 3 32 underlying25 hi He Hg Hh rfl (by decide) _ _ _ rfl (World.ownsRow_lit w #[] 0 (lR) (Nat.zero_le _) rfl) a l.length c (ez l) rfl (uD l) HC.out (CZ l) (by unfold maxLen;omega) (by omega) (by simp) ?_);intro v' w1 Hb Ha _)
 have Hf:=qI (HB.out.grown Ha (by simp) (λj hj=>by cases hj;exact lR));rw [Qd] at Hb;have hD:Hid (gC w.heap.size w1 v' l):=gC.of_own (by simpa using Hb);clear Hb Ha
 go_wp2
 go_ret;exact ⟨_,rfl,hD.out,Hf.out⟩
theorem uG (v:Value) (b o:Nat) (l:List Dv) (w:World) (hv:cU w v b o l) (hl:l.length<=16) :
  Calls prog 83 #[v] w λe w'=>∃ v,e=.returned v/\gC w.heap.size w' v l/\Below w.heap.size w w':=by
 obtain ⟨ao,c,rfl,hc⟩:=hv
 by_cases h0:0<l.length
 ·obtain ⟨rfl,Hc,Hb⟩:=hc h0;exact uF ⟨b,o,none⟩ c l w (CY Hb) hl
 ·have Ha:l=[]:=Qe (by omega);subst Ha
  rcases ao with _|a
  ·refine (AnyE.slices_Clone_nil Tryz.cloneL 0 c w).mono ?_;rintro e w' ⟨rfl,rfl⟩;exact ⟨_,rfl,⟨none,0,0,rfl,λh=>by simp at h,λk hk=>by simp at hk⟩,Q0 _ _⟩
  ·exact uF a c [] w (λj u hj=>by simp [ez] at hj) (by simp)
end
section
open RowKit
open Dvs (Dv dv0 dv nth fault eZ first aX)
def nX (w:World) (ds:List Dv) (p:Value) (w':World):Prop:=
 ∃ pb db ao c,p=.pointer (some ⟨pb,0,none⟩)/\ak w' pb db ao c ds (λ_=>false)/\w.heap.size<=pb/\(0<ds.length->w.heap.size<=db)
theorem C6 {ds:List Dv} (h:ds.length<=16):fault ds=first (eZ ds) ds.length:=by rw [fault,if_neg (by omega)]
theorem C7 {ds:List Dv} {k:Nat} (h:aX (dv ds k).kind=false):eZ ds k=3:=by rw [eZ,if_pos h]
theorem C8 {ds:List Dv} {k:Nat} (h:aX (dv ds k).kind=true) (h2:(dv ds k).node<0\/3<(dv ds k).node):eZ ds k=1:=by rw [eZ,if_neg (by rw [h];simp),if_pos h2]
theorem C9 {ds:List Dv} {k:Nat} (h:aX (dv ds k).kind=true) (h2:0<=(dv ds k).node) (h3:(dv ds k).node<=3):eZ ds k=0:=by rw [eZ,if_neg (by rw [h];simp),if_neg (by omega)]
abbrev uH:=λ(x0:Value) (x1:TypeId)=>(.cells #[x0,.bool false,.bool false,.bool false,.bool false,.bool false,.bool false,.bool false,.bool false,.bool false,.bool false,.bool false,.bool false,.bool false,.bool false,.bool false,.bool false] x1:Obj)
theorem ak.made {B:Nat} {w:World} {v:Value} {ds:List Dv} (h:gC B w v ds) (t:TypeId):∃ db ao c,ak (w.alloc (uH v t)) w.heap.size db ao c ds (λ_=>false)/\(0<ds.length->B<=db):=by
 obtain ⟨ao,c,g,rfl,h0,hc⟩:=h;refine ⟨g,ao,c,⟨by simp,λhp=>⟨(h0 hp).1,Nat.ne_of_lt (h0 hp).2.2,by have:=(h0 hp).2.2;simp;omega⟩,λk hk=>?_,λj hj=>?_⟩,λhp=>(h0 hp).2.1⟩
 ·have Ha:=(h0 (by omega)).2.2;obtain ⟨c0,c1,c2,c3⟩:=hc k hk;have hb:=(Q0 w.heap.size w).alloc (lR) (.cells #[.slice ao ds.length c,.bool false,.bool false,.bool false,.bool false,.bool false,.bool false,.bool false,.bool false,.bool false,.bool false,.bool false,.bool false,.bool false,.bool false,.bool false,.bool false] t);exact ⟨(hb.cell (p:=⟨g,k*3,none⟩) Ha).trans c0,(hb.cell (p:=⟨g,k*3+1,none⟩) Ha).trans c1,(hb.cell (p:=⟨g,k*3+2,none⟩) Ha).trans c2,(hb.frozen (p:=⟨g,k*3+2,none⟩) Ha).trans c3⟩
 ·have:j=0\/j=1\/j=2\/j=3\/j=4\/j=5\/j=6\/j=7\/j=8\/j=9\/j=10\/j=11\/j=12\/j=13\/j=14\/j=15:=by omega
  rcases this with rfl|rfl|rfl|rfl|rfl|rfl|rfl|rfl|rfl|rfl|rfl|rfl|rfl|rfl|rfl|rfl <;> exact ⟨by simp,by simp⟩
theorem nX.of {w w1:World} {v:Value} {ds:List Dv} {B:Nat} (h:gC B w1 v ds) (hB:w.heap.size<=B) (hs:w.heap.size<=w1.heap.size) (t:TypeId):nX w ds (.pointer (some ⟨w1.heap.size,0,none⟩)) (w1.alloc (uH v t)):=by
 obtain ⟨db,ao,c,hp,hdb⟩:=ak.made h t;exact ⟨_,db,ao,c,rfl,hp,hs,λh0=>Q5 hB (hdb h0)⟩
theorem Da (ao:Option Addr) (n c:Nat) (w:World) (h:16<n):Calls prog 66 #[.slice ao n c] w λe w'=>e=.returned (.tuple #[.pointer none,.iface 121 (.int .i64 2)])/\w'=w:=by
 go_enter func66,ntmps66
 go_wp2
 go_ret2;exact ⟨rfl,rfl⟩
def j7 (w:World) (ds:List Dv) (bad:Nat->Value) (e:Ending) (w':World):Prop:=
 (fault ds=0->∃ p,e=.returned (.tuple #[p,bad 0])/\nX w ds p w')/\(fault ds≠0->e=.returned (.tuple #[.pointer none,bad (fault ds)]))/\Below w.heap.size w w'
theorem j7.wrong {w w':World} {ds:List Dv} {bad:Nat->Value} {n:Nat} {e:Ending} (hf:fault ds=n) (hn:n≠0) (he:e=.returned (.tuple #[.pointer none,bad n])) (hb:Below w.heap.size w w'):j7 w ds bad e w':=
 ⟨λh=>by omega,λ_=>by rw [hf,he],hb⟩
theorem Db (ao:Option Addr) (c b o:Nat) (ds:List Dv) (w:World) (hd:cU w (.slice ao ds.length c) b o ds) (h:ds.length<=16):Calls prog 66 #[.slice ao ds.length c] w λe w'=>j7 w ds (λn=>au n) e w':=by
 have HD:=qI hd;have HF:=qI (C6 h);clear hd
 go_enter func66,ntmps66
 go_wp2
 go_loopw [12] (λi wr=>∃ k:Nat,k<=ds.length/\i=.int .i64 k/\Hid (first (eZ ds) k=0)/\Below w.heap.size w wr) (λi _=>ds.length - (intOf i).toNat)
 case atStart=>exact ⟨0,by omega,rfl,rfl,Q0 _ _⟩
 case round=>
  obtain ⟨k,hk,rfl,HK,hB⟩:=hrel
  by_cases hlt:k<ds.length
  ·obtain ⟨ao',c',hv,Hc⟩:=HD.out.below hB;obtain ⟨rfl,Hk,Hc⟩:=Hc (by omega);cases hv;obtain ⟨c0,c1,c2⟩:=Hc k hlt;have He:=qI λhh=>C7 (ds:=ds) (k:=k) hh;have Hf:=qI λhh h2=>C8 (ds:=ds) (k:=k) hh h2;have Hb:=qI λhh h2 h3=>C9 (ds:=ds) (k:=k) hh h2 h3;have HW:=qI λn hn=>(HF.out.trans (Dvs.iF (n:=ds.length) HK.out (by rw [hn];simp) hlt)).trans (hn:eZ ds k=n+1);clear Hc;generalize dv ds k=x at *;have Ha:=hB.alloc hB.size (.cells #[.string x.kind,.int .i64 x.node,.bool x.sick] 87)
   rcases two (aX x.kind) with hn|hn
   ·have key:(x.node<0\/(0<=x.node/\4<=x.node))\/(0<=x.node/\x.node<4):=by omega
    rcases key with hx|⟨h1,h2⟩
    ·have HE:=qI (HW.out 0 (Hf.out hn (by omega)));clear He Hf Hb HW
     rcases hx with h1|⟨h1,h2⟩
     all_goals
      go_wp2_with fail
      refine (fA _ _).mono ?_;rintro e w1 ⟨rfl,rfl⟩;rw [hn]
      go_wp2
      go_ret2;exact j7.wrong HE.out (by decide) rfl Ha
    ·have HE:Hid (first (eZ ds) (k+1)=0):=Dvs.jo HK.out (Hb.out hn (by omega) (by omega));clear He Hf Hb HW
     go_wp2_with fail
     refine (fA _ _).mono ?_;rintro e w1 ⟨rfl,rfl⟩;rw [hn]
     go_wp2
     go_roundw
     case rel=>exact ⟨k+1,by omega,by go_num,HE,Ha⟩
     case measure=>simp [intOf];omega
   ·have HE:=qI (HW.out 2 (He.out hn));clear He Hf Hb HW
    go_wp2_with fail
    refine (fA _ _).mono ?_;rintro e w1 ⟨rfl,rfl⟩;rw [hn]
    go_wp2
    go_ret2;exact j7.wrong HE.out (by decide) rfl Ha
  ·have Hg:k=ds.length:=by omega
   have HE:Hid (fault ds=0):=by rw [<- Hg] at HF;exact HF.out.trans HK.out
   have Hh:=qI (HD.out.below hB);clear Hg HK
   go_wp2_with fail
   refine (uG _ b o ds _ Hh.out h).mono ?_;rintro e w1 ⟨v,rfl,hv,hb⟩;have Ha:=hB.trans (hb.mono hB.size);have Hi:=qI (nX.of (w:=w) hv hB.size Ha.size 177);have Hj:=qI (Ha.alloc Ha.size (.cells #[v,.bool false,.bool false,.bool false,.bool false,.bool false,.bool false,.bool false,.bool false,.bool false,.bool false,.bool false,.bool false,.bool false,.bool false,.bool false,.bool false] 177));obtain ⟨ao2,c2,g2,rfl,_,_⟩:=hv;clear hb Ha
   go_wp2
   go_ret2;exact ⟨λ_=>⟨_,rfl,Hi.out⟩,λhh=>absurd HE.out hh,Hj.out⟩
theorem uI (v:Value) (b o:Nat) (ds:List Dv) (w:World) (hd:cU w v b o ds):Calls prog 66 #[v] w λe w'=>j7 w ds (λn=>au n) e w':=by
 have Ha:=hd;obtain ⟨ao,c,rfl,_⟩:=hd
 by_cases h:ds.length<=16
 ·exact Db ao c b o ds w Ha h
 ·refine (Da ao ds.length c w (by omega)).mono ?_;rintro e w' ⟨rfl,rfl⟩;exact j7.wrong (n:=2) (by rw [fault,if_pos (by omega)]) (by decide) rfl (Q0 _ _)
end
section
open RowKit
open Dvs (Dv dv0 dv nth cn fits bD aW)
def dr (w:World) (T:Nat) (f:Nat->Nat):Prop:=∀ j,j<4->w.cell? ⟨T,j,none⟩=some (.int .i64 (f j:Nat))/\w.frozen? ⟨T,j,none⟩=false
theorem dr.lt {w:World} {T:Nat} {f:Nat->Nat} (h:dr w T f):T<w.heap.size:=Q3 w _ (h 0 (by decide)).1
theorem dr.kept {w w':World} {T:Nat} {f:Nat->Nat} {g:Option Nat} (h:dr w T f) (hg:w.grownBy w' g) (hne:some T≠g):dr w' T f:=λj hj=>
 ⟨(hg.cell_far _ h.lt hne).trans (h j hj).1,(hg.frozen_far _ h.lt hne).trans (h j hj).2⟩
theorem dr.below {w w':World} {T:Nat} {f:Nat->Nat} (h:dr w T f) (hb:Below w.heap.size w w'):dr w' T f:=h.kept (dD hb none) (by simp)
theorem dr.alloc {w:World} {T:Nat} {f:Nat->Nat} (h:dr w T f) (o:Obj):dr (w.alloc o) T f:=h.below ((Q0 _ w).alloc (lR) o)
theorem dr.made (w:World) (t:TypeId) (f:Nat->Nat) (hf:∀ j,f j=0):dr (w.alloc (.cells #[.int .i64 0,.int .i64 0,.int .i64 0,.int .i64 0] t)) w.heap.size f:=by
 intro j hj;rw [hf j]
 have:j=0\/j=1\/j=2\/j=3:=by omega
 rcases this with rfl|rfl|rfl|rfl <;> exact ⟨by simp,by simp⟩
theorem dr.set {w:World} {T:Nat} {f g:Nat->Nat} (h:dr w T f) {m:Nat} (hm:m<4) {n:Int} (hn:n=(f m:Nat)+1) (hg:∀ j,g j=f j+if j=m then 1 else 0):dr (w.setCell ⟨T,m,none⟩ (.int .i64 n)) T g:=by
 subst hn;intro j hj;obtain ⟨c,z⟩:=h j hj;obtain ⟨cm,_⟩:=h m hm;refine ⟨?_,(World.frozen?_setCell ..).trans z⟩;rw [hg j]
 by_cases e:j=m
 ·subst e;rw [if_pos rfl];have e2:(((f j+1:Nat)):Int)=((f j:Nat):Int)+1:=by omega
  rw [e2];clear c hg e2;go_simp
 ·rw [if_neg e,Nat.add_zero];have Ha:(⟨T,m,none⟩:Addr)≠⟨T,j,none⟩:=by intro h;cases h;exact e rfl
  rw [World.cell?_setCell_other (h:=Ha)];exact c
theorem uJ {a b:ByteArray} (h:¬ a=b):¬ a.toList=b.toList:=by
 rw [Qs,Qs];exact λe=>h (Go.WideShapes.bytes_inj e)
theorem uK (p:Nat->Bool) (ds:List Dv) (x:Nat):cn p ds x 0=0:=rfl
def qj (f:Nat->Nat):Value:=.agg #[.int .i64 (f 0:Nat),.int .i64 (f 1:Nat),.int .i64 (f 2:Nat),.int .i64 (f 3:Nat)]
structure eA (w wr:World) (pb db:Nat) (ao:Option Addr) (c:Nat) (ds:List Dv) (us:Nat->Bool) (kind:ByteArray) (F A k:Nat):Prop where
 pool:ak wr pb db ao c ds us
 free:dr wr F (λx=>cn (fits ds us kind) ds x k)
 all:dr wr A (λx=>cn (bD ds kind) ds x k)
 below:Below w.heap.size w wr
theorem eA.alloc {w wr:World} {pb db:Nat} {ao:Option Addr} {c:Nat} {ds:List Dv} {us:Nat->Bool} {kind:ByteArray} {F A k:Nat} (h:eA w wr pb db ao c ds us kind F A k) (o:Obj):eA w (wr.alloc o) pb db ao c ds us kind F A k:=
 ⟨h.pool.alloc o,h.free.alloc o,h.all.alloc o,h.below.alloc h.below.size o⟩
theorem eA.mid {w wr:World} {pb db:Nat} {ao:Option Addr} {c:Nat} {ds:List Dv} {us:Nat->Bool} {kind:ByteArray} {F A k m D:Nat} {n z:Int} (h:eA w wr pb db ao c ds us kind F A k) (hk:k<16) (hm:m<4) (hD:wr.cell? ⟨D,1,none⟩=some (.int .i64 z)) (hFA:F≠A) (hpA:pb≠A) (hDA:D≠A) :
  (wr.setCell ⟨A,m,none⟩ (.int .i64 n)).cell? ⟨pb,1+k,none⟩=some (.bool (us k))/\(wr.setCell ⟨A,m,none⟩ (.int .i64 n)).cell? ⟨F,m,none⟩=some (.int .i64 (cn (fits ds us kind) ds m k:Nat))/\(wr.setCell ⟨A,m,none⟩ (.int .i64 n)).frozen? ⟨F,m,none⟩=false/\(wr.setCell ⟨A,m,none⟩ (.int .i64 n)).cell? ⟨D,1,none⟩=some (.int .i64 z):=by
 have hg:=bL wr ⟨A,m,none⟩ (.int .i64 n);exact ⟨(hg.cell_far _ h.pool.lt (by simpa using hpA)).trans (h.pool.used k hk).1,(hg.cell_far _ h.free.lt (by simpa using hFA)).trans (h.free m hm).1,(hg.frozen_far _ h.free.lt (by simpa using hFA)).trans (h.free m hm).2,(hg.cell_far _ (Q3 _ _ hD) (by simpa using hDA)).trans hD⟩
theorem eA.no {w wr:World} {pb db:Nat} {ao:Option Addr} {c:Nat} {ds:List Dv} {us:Nat->Bool} {kind:ByteArray} {F A k:Nat} (h:eA w wr pb db ao c ds us kind F A k) (hk:bD ds kind k=false):eA w wr pb db ao c ds us kind F A (k+1):=by
 refine ⟨h.pool,?_,?_,h.below⟩
 ·have:(λx=>cn (fits ds us kind) ds x (k+1))=λx=>cn (fits ds us kind) ds x k:=by funext x;exact Dvs.qe (by rw [Dvs.qh,hk];rfl) x
  rw [this];exact h.free
 ·have:(λx=>cn (bD ds kind) ds x (k+1))=λx=>cn (bD ds kind) ds x k:=by funext x;exact Dvs.qe hk x
  rw [this];exact h.all
theorem eA.one {w wr:World} {pb db:Nat} {ao:Option Addr} {c:Nat} {ds:List Dv} {us:Nat->Bool} {kind:ByteArray} {F A k m:Nat} {n:Int} (h:eA w wr pb db ao c ds us kind F A k) (hk:bD ds kind k=true) (hu:us k=true) (hm:m<4) (hx:(dv ds k).node=(m:Int)) (hA:w.heap.size<=A) (hFA:F≠A) (hp:pb<w.heap.size) (hd:0<ds.length->db<w.heap.size) (hn:n=(cn (bD ds kind) ds m k:Nat)+1) :
  eA w (wr.setCell ⟨A,m,none⟩ (.int .i64 n)) pb db ao c ds us kind F A (k+1):=by
 have hg:=bL wr ⟨A,m,none⟩ (.int .i64 n);refine ⟨h.pool.kept hg (by simp;omega) (λh0=>by have:=hd h0;simp;omega),?_,?_,h.below.setCell hA _⟩
 ·have:(λx=>cn (fits ds us kind) ds x (k+1))=λx=>cn (fits ds us kind) ds x k:=by funext x;exact Dvs.qe (by rw [Dvs.qh,hk,hu];rfl) x
  rw [this];exact h.free.kept hg (by simpa using hFA)
 ·refine h.all.set hm hn λj=>?_;rw [Dvs.qg hk (by omega)]
  congr 2
  have:(dv ds k).node.toNat=m:=by omega
  rw [this]
theorem eA.both {w wr:World} {pb db:Nat} {ao:Option Addr} {c:Nat} {ds:List Dv} {us:Nat->Bool} {kind:ByteArray} {F A k m:Nat} {n n2:Int} (h:eA w wr pb db ao c ds us kind F A k) (hk:bD ds kind k=true) (hu:us k=false) (hm:m<4) (hx:(dv ds k).node=(m:Int)) (hF:w.heap.size<=F) (hA:w.heap.size<=A) (hFA:F≠A) (hp:pb<w.heap.size) (hd:0<ds.length->db<w.heap.size) (hn:n=(cn (bD ds kind) ds m k:Nat)+1) (hn2:n2=(cn (fits ds us kind) ds m k:Nat)+1) :
  eA w ((wr.setCell ⟨A,m,none⟩ (.int .i64 n)).setCell ⟨F,m,none⟩ (.int .i64 n2)) pb db ao c ds us kind F A (k+1):=by
 have hg:=bL wr ⟨A,m,none⟩ (.int .i64 n);have Ha:=bL (wr.setCell ⟨A,m,none⟩ (.int .i64 n)) ⟨F,m,none⟩ (.int .i64 n2);refine ⟨(h.pool.kept hg (by simp;omega) (λh0=>by have:=hd h0;simp;omega)).kept Ha (by simp;omega) (λh0=>by have:=hd h0;simp;omega),?_,?_,(h.below.setCell hA _).setCell hF _⟩
 ·refine (h.free.kept hg (by simpa using hFA)).set hm hn2 λj=>?_;rw [Dvs.qg (by rw [Dvs.qh,hk,hu];rfl) (by omega)]
  congr 2
  have:(dv ds k).node.toNat=m:=by omega
  rw [this]
 ·refine (h.all.set hm hn λj=>?_).kept Ha (by simpa using λe=>hFA e.symm);rw [Dvs.qg hk (by omega)]
  congr 2
  have:(dv ds k).node.toNat=m:=by omega
  rw [this]
theorem Dc {fn:Func} {p q:Tmp} {ty:TypeId} (h:fn.results=#[.cell p ty,.cell q ty]) (tmps:Array Value) (P:Program) (w:World) :
  (results fn tmps).run P w =
   ((asAddr (tmps.getD p undef)).run P w).andThen λa w₁=>((loadVar ty a).run P w₁).andThen λv w₂=>((asAddr (tmps.getD q undef)).run P w₂).andThen λb w₃=>((loadVar ty b).run P w₃).andThen λu w₄=>.ok (.tuple #[v,u]) w₄:=by
 simp only [results,h]
 simp [Sem.run_bind,Result.andThen]
theorem uL {B:Nat} {a w:World} (h:Below B a w):Below B a w.drew:=⟨h.os,h.tape,h.output,h.size,h.block⟩
abbrev qk:=(.cells #[.int .i64 0,.int .i64 0,.int .i64 0,.int .i64 0] 214:Obj)
theorem Dd (kind:ByteArray) (w:World) (pb db:Nat) (ao:Option Addr) (c:Nat) (ds:List Dv) (us:Nat->Bool) (h:ak w pb db ao c ds us) (hN:aW ds) :
  Calls prog 163 #[.pointer (some ⟨pb,0,none⟩),.string kind] w λe w'=>e=.returned (.tuple #[qj λx=>cn (fits ds us kind) ds x ds.length,qj λx=>cn (bD ds kind) ds x ds.length])/\Below w.heap.size w w':=by
 have hp:=h.lt;have hd:0<ds.length->db<w.heap.size:=λh0=>(h.at0 h0).2.2
 have Hl:Hid (eA w ((w.alloc (qk)).alloc (qk)) pb db ao c ds us kind w.heap.size (w.heap.size+1) 0):=
  ⟨(h.alloc _).alloc _,(dr.made w _ _ λj=>uK _ _ _).alloc _,by have:=dr.made (w.alloc (qk)) 214 (λx=>cn (bD ds kind) ds x 0) λj=>uK _ _ _;simpa using this,((Q0 w.heap.size w).alloc (lR) _).alloc (by simp) _⟩
 have Hk:=Hl.out.pool.row;have HN:=qI hN;have HP:=qI (And.intro hp hd);clear h hp hd
 go_enter func163,ntmps163
 go_wp2
 go_loopw [13] (λi wr=>∃ k:Nat,k<=ds.length/\i=.int .i64 k/\eA w wr pb db ao c ds us kind w.heap.size (w.heap.size+1) k) (λi _=>ds.length - (intOf i).toNat)
 case atStart=>exact ⟨0,by omega,rfl,Hl.out⟩
 case round=>
  obtain ⟨k,hk,rfl,hC⟩:=hrel
  by_cases hlt:k<ds.length
  ·have Hi:k<16:=by have:=HN.out.1;omega
   obtain ⟨rfl,Hp,_⟩:=hC.pool.at0 (by omega);obtain ⟨c0,c1,c2,_⟩:=hC.pool.cells k hlt;obtain ⟨n0,n3⟩:=HN.out.2 k hlt;obtain ⟨m,hm⟩:=Int.eq_ofNat_of_zero_le n0;have Hh:m<4:=by omega
   have Hc:=qI (hC.alloc (.cells #[.string (dv ds k).kind,.int .i64 (dv ds k).node,.bool (dv ds k).sick] 87));have Hg:=qI λhh=>Hc.out.no hh;have Hb:=qI λhh hu n hn=>Hc.out.one (m:=m) (n:=n) hh hu Hh hm (Nat.le_succ _) (by omega) HP.out.1 HP.out.2 hn;have Ha:=qI λhh hu n n2 hn hn2=>Hc.out.both (m:=m) (n:=n) (n2:=n2) hh hu Hh hm (lR) (Nat.le_succ _) (by omega) HP.out.1 HP.out.2 hn hn2;have Hf:bD ds kind k=(decide ((dv ds k).kind=kind) && !(dv ds k).sick):=rfl;have hu:=(Hc.out.pool.used k Hi).1;have hf:_=some (Value.int .i64 (cn (fits ds us kind) ds m k:Nat)):=(Hc.out.free m Hh).1;have ha:_=some (Value.int .i64 (cn (bD ds kind) ds m k:Nat)):=(Hc.out.all m Hh).1;have Hm:=(Hc.out.all m Hh).2;have hM:=qI (Hc.out.mid (m:=m) (D:=wr.heap.size) (z:=(dv ds k).node) (n:=(cn (bD ds kind) ds m k:Nat)+1) Hi Hh (by simp) (by omega) (by have:=HP.out.1;omega) (show wr.heap.size≠w.heap.size+1 by have:=hC.all.lt;omega));have qf:=Dvs.uy (fits ds us kind) ds m k;have qa:=Dvs.uy (bD ds kind) ds m k;clear hC;rw [hm] at c1 Hc Hg Hb Ha hu hf ha Hm hM;generalize cn (fits ds us kind) ds m k=nf at *;generalize cn (bD ds kind) ds m k=na at *;generalize (dv ds k).kind=xk at *;generalize (dv ds k).sick=xs at *
   by_cases hkk:xk=kind
   ·subst hkk
    rcases two xs with hs|hs
    ·subst hs;have HE:=Hg.out (by rw [Hf];simp);clear Hg Hb Ha Hf
     go_wp2
     go_roundw
     case rel=>exact ⟨k+1,by omega,by go_num,HE⟩
     case measure=>simp [intOf];omega
    ·subst hs;have Hj:bD ds xk k=true:=by rw [Hf];simp
     rcases two (us k) with He|He
     ·have HE:=qI λn hn=>Hb.out Hj He n hn;obtain ⟨e1,e2,e3,e4⟩:=hM.out;rw [He] at e1;clear Hg Hb Ha Hf Hj He hu hM
      go_wp2
      go_roundw
      case rel=>exact ⟨k+1,by omega,by go_num,HE.out _ (by go_num)⟩
      case measure=>simp [intOf];omega
     ·have HE:=qI λn n2 hn hn2=>Ha.out Hj He n n2 hn hn2;obtain ⟨e1,e2,e3,e4⟩:=hM.out;rw [He] at e1;clear Hg Hb Ha Hf Hj He hu hM
      go_wp2
      go_roundw
      case rel=>exact ⟨k+1,by omega,by go_num,HE.out _ _ (by go_num) (by go_num)⟩
      case measure=>simp [intOf];omega
   ·have HE:=Hg.out (by rw [Hf,Q7 hkk];rfl);have Hn:=uJ hkk;clear hkk Hg Hb Ha Hf
    go_wp2
    go_roundw
    case rel=>exact ⟨k+1,by omega,by go_num,HE⟩
    case measure=>simp [intOf];omega
  ·have Ho:k=ds.length:=by omega
   subst Ho;have f0:_=some (Value.int .i64 (cn (fits ds us kind) ds 0 ds.length:Nat)):=(hC.free 0 (by decide)).1;have f1:_=some (Value.int .i64 (cn (fits ds us kind) ds 1 ds.length:Nat)):=(hC.free 1 (by decide)).1;have f2:_=some (Value.int .i64 (cn (fits ds us kind) ds 2 ds.length:Nat)):=(hC.free 2 (by decide)).1;have f3:_=some (Value.int .i64 (cn (fits ds us kind) ds 3 ds.length:Nat)):=(hC.free 3 (by decide)).1;have a0:_=some (Value.int .i64 (cn (bD ds kind) ds 0 ds.length:Nat)):=(hC.all 0 (by decide)).1;have a1:_=some (Value.int .i64 (cn (bD ds kind) ds 1 ds.length:Nat)):=(hC.all 1 (by decide)).1;have a2:_=some (Value.int .i64 (cn (bD ds kind) ds 2 ds.length:Nat)):=(hC.all 2 (by decide)).1;have a3:_=some (Value.int .i64 (cn (bD ds kind) ds 3 ds.length:Nat)):=(hC.all 3 (by decide)).1;have z0:=(hC.free 0 (by decide)).2;have z1:=(hC.free 1 (by decide)).2;have z2:=(hC.free 2 (by decide)).2;have z3:=(hC.free 3 (by decide)).2;have y0:=(hC.all 0 (by decide)).2;have y1:=(hC.all 1 (by decide)).2;have y2:=(hC.all 2 (by decide)).2;have y3:=(hC.all 3 (by decide)).2;have hB:=qI hC.below;clear hC Hl HN HP hN Hk;obtain ⟨n0,en0⟩:∃ x,cn (fits ds us kind) ds 0 ds.length=x:=⟨_,rfl⟩;rw [en0] at f0;obtain ⟨n1,en1⟩:∃ x,cn (fits ds us kind) ds 1 ds.length=x:=⟨_,rfl⟩;rw [en1] at f1;obtain ⟨n2,en2⟩:∃ x,cn (fits ds us kind) ds 2 ds.length=x:=⟨_,rfl⟩;rw [en2] at f2;obtain ⟨n3,en3⟩:∃ x,cn (fits ds us kind) ds 3 ds.length=x:=⟨_,rfl⟩;rw [en3] at f3;obtain ⟨m0,em0⟩:∃ x,cn (bD ds kind) ds 0 ds.length=x:=⟨_,rfl⟩;rw [em0] at a0;obtain ⟨m1,em1⟩:∃ x,cn (bD ds kind) ds 1 ds.length=x:=⟨_,rfl⟩;rw [em1] at a1;obtain ⟨m2,em2⟩:∃ x,cn (bD ds kind) ds 2 ds.length=x:=⟨_,rfl⟩;rw [em2] at a2;obtain ⟨m3,em3⟩:∃ x,cn (bD ds kind) ds 3 ds.length=x:=⟨_,rfl⟩;rw [em3] at a3;have HE:=qI (And.intro (And.intro en0 (And.intro en1 (And.intro en2 en3))) (And.intro em0 (And.intro em1 (And.intro em2 em3))));clear en0 en1 en2 en3 em0 em1 em2 em3
   go_wp2_with fail
   go_region
   go_wp2_with fail
   refine bodyPost_ret (v:=.tuple #[.agg #[.int .i64 n0,.int .i64 n1,.int .i64 n2,.int .i64 n3],.agg #[.int .i64 m0,.int .i64 m1,.int .i64 m2,.int .i64 m3]]) ?_ rfl ⟨?_,?_⟩
   ·rw [Dc rfl];go_simp
   ·obtain ⟨⟨q0,q1,q2,q3⟩,r0,r1,r2,r3⟩:=HE.out;subst q0 q1 q2 q3 r0 r1 r2 r3;rfl
   ·exact uL (((((((((hB.out.setCell (lR) _).setCell (lR) _).setCell (lR) _).setCell (lR) _).setCell (Nat.le_succ _) _).setCell (Nat.le_succ _) _).setCell (Nat.le_succ _) _).setCell (Nat.le_succ _) _))
end
section
open RowKit
open Dvs (Dv dv0 dv nth fits fy cB sel aW)
theorem De (m n:Nat) (hm:m<256):(bits BinOp.and IntKind.u8 ((m:Int) / 2 ^ n) 1 == 1)=m.testBit n:=by
 have e:((m:Int) / 2 ^ n)=((m / 2 ^ n:Nat):Int):=by simp
 have Ha:m / 2 ^ n<256:=Nat.lt_of_le_of_lt (Nat.div_le_self _ _) hm;rw [e,Nat.testBit_eq_decide_div_mod_eq];generalize m / 2 ^ n=q at Ha;have key:∀ q:Fin 256,(bits BinOp.and IntKind.u8 ((q.val:Nat):Int) 1 == 1)=decide (q.val % 2=1):=by decide +kernel
 exact key ⟨q,Ha⟩
theorem ql:(prog.info? 3).map (λi=>(i.zero,i.size,i.bytes))=some (some (.int .i64 0),1,8):=by kernel_rfl
def bF (l:List Nat):List Value:=l.map λ(n:Nat)=>Value.int .i64 (n:Int)
theorem Df (l:List Nat) (n:Nat):bF (l++[n])=bF l++[.int .i64 n]:=by simp [bF]
theorem l9 (l:List Nat):(bF l).length=l.length:=by simp [bF]
def ints (l:List Nat):List Int:=l.map λ(n:Nat)=>(n:Int)
theorem md (l:List Nat):(ints l).length=l.length:=by simp [ints]
def Row (w:World) (B:Nat) (v:Value) (l:List Nat):Prop:=w.ownsRow B 3 1 v l.length (bF l)
theorem Dg {ds:List Dv} {us:Nat->Bool} {kind:ByteArray} {k:Nat} (h:¬ (dv ds k).kind=kind):fits ds us kind k=false:=by rw [fits,Q7 h];rfl
theorem Dh {ds:List Dv} {us:Nat->Bool} {kind:ByteArray} {k:Nat} (h:(dv ds k).sick=true):fits ds us kind k=false:=by rw [fits,h];simp
theorem Di {ds:List Dv} {us:Nat->Bool} {kind:ByteArray} {k:Nat} (h:us k=true):fits ds us kind k=false:=by rw [fits,h];simp
theorem Dj {ds:List Dv} {us:Nat->Bool} {kind:ByteArray} {k:Nat} (h:(dv ds k).kind=kind) (h2:(dv ds k).sick=false) (h3:us k=false):fits ds us kind k=true:=by rw [fits,h2,h3,Qc h];rfl
theorem uM {ds:List Dv} {us:Nat->Bool} {kind:ByteArray} {m k:Nat} {b:Bool} (h:fits ds us kind k=true) (hb:fy ds m k=b):cB ds us kind m k=b:=by rw [cB,h,hb];rfl
theorem qm {ds:List Dv} {us:Nat->Bool} {kind:ByteArray} {m k:Nat} (h:fits ds us kind k=false):cB ds us kind m k=false:=by rw [cB,h];rfl
theorem Dl (w:World) (o:Obj) (x:Value) (t:TypeId):∀ j u,[x][j]?=some u->((w.alloc o).alloc (.cells #[x] t)).cell? ((⟨w.heap.size+1,0,none⟩:Addr).add j)=some u:=by
 have h:=cell_one_new (w.alloc o) x t
 rwa [show (w.alloc o).heap.size=w.heap.size+1 by simp] at h
theorem uN (kind:ByteArray) (M:Nat) (w:World) (pb db:Nat) (ao:Option Addr) (c:Nat) (ds:List Dv) (us:Nat->Bool) (h:ak w pb db ao c ds us) (hN:aW ds) (hM:M<256) :
  Calls prog 167 #[.pointer (some ⟨pb,0,none⟩),.string kind,.int .u8 M] w λe w'=>∃ v,e=.returned v/\Row w' w.heap.size v (sel (cB ds us kind M) ds.length)/\Below w.heap.size w w':=by
 obtain ⟨i0,hi,Ho,Hr,Hn⟩:=info_parts ql;have Hq:=h.row;have HN:=qI hN;have HP:=qI h;clear h hN
 go_enter func167,ntmps167
 go_wp2
 go_loopw [7,15] (λv i wr=>∃ k:Nat,k<=ds.length/\i=.int .i64 k/\Row wr w.heap.size v (sel (cB ds us kind M) k)/\ak wr pb db ao c ds us/\Below w.heap.size w wr) (λ_ i _=>ds.length - (intOf i).toNat)
 case atStart=>exact ⟨0,by omega,rfl,Qw _ _ _ _,HP.out,Q0 _ _⟩
 case round=>
  obtain ⟨k,hk,rfl,hr,hP,hB⟩:=hrel
  by_cases hlt:k<ds.length
  ·have Hm:k<16:=by have:=HN.out.1;omega
   obtain ⟨rfl,Hv,_⟩:=hP.at0 (by omega);obtain ⟨c0,c1,c2,_⟩:=hP.cells k hlt;obtain ⟨n0,n3⟩:=HN.out.2 k hlt;obtain ⟨m,hm⟩:=Int.eq_ofNat_of_zero_le n0;have Ht:m<4:=by omega
   have H1:=qI λhh=>Dg (us:=us) (kind:=kind) (k:=k) (ds:=ds) hh;have H2:=qI λhh=>Dh (us:=us) (kind:=kind) (k:=k) (ds:=ds) hh;have H4:=qI λh1 h2 h3=>Dj (us:=us) (kind:=kind) (k:=k) (ds:=ds) h1 h2 h3;have Hl:Hid (fy ds M k=M.testBit m):=by unfold Hid fy;rw [hm];rfl
   have He:=qI λhh=>Dvs.gA (p:=cB ds us kind M) (n:=k) hh;have Hh:=qI λhh=>Dvs.kQ (p:=cB ds us kind M) (n:=k) hh;have Hu:=Dvs.kR (cB ds us kind M) k;rw [hm] at c1;generalize (dv ds k).kind=xk at *;generalize (dv ds k).sick=xs at *;have Hc:=qI (hB.alloc hB.size (.cells #[.string xk,.int .i64 m,.bool xs] 87));have Hg:=qI (hP.alloc (.cells #[.string xk,.int .i64 m,.bool xs] 87));have Hb:=qI (hr.alloc (.cells #[.string xk,.int .i64 m,.bool xs] 87));have hu:=(Hg.out.used k Hm).1;have Hw:=hB.size;clear hr hP hB
   by_cases hkk:xk=kind
   ·subst hkk
    rcases two xs with hs|hs
    ·subst hs;have HS:Hid (sel (cB ds us xk M) (k+1)=_):=He.out (qm (H2.out rfl));clear H1 H2 H4 He Hh
     go_wp2
     go_roundw
     case rel=>exact ⟨k+1,by omega,by go_num,by rw [HS.out];exact Hb.out,Hg.out,Hc.out⟩
     case measure=>simp [intOf];omega
    ·subst hs
     rcases two (us k) with Hf|Hf
     ·have HS:Hid (sel (cB ds us xk M) (k+1)=_):=He.out (qm (Di Hf));rw [Hf] at hu;clear H1 H2 H4 He Hh Hf
      go_wp2
      go_roundw
      case rel=>exact ⟨k+1,by omega,by go_num,by rw [HS.out];exact Hb.out,Hg.out,Hc.out⟩
      case measure=>simp [intOf];omega
     ·have Hk:=H4.out rfl rfl Hf;rw [Hf] at hu;have Hj:=De M m hM
      rcases two (M.testBit m) with hb|hb
      ·have HS:Hid (sel (cB ds us xk M) (k+1)=_):=Hh.out (uM Hk (Hl.out.trans hb));rw [hb] at Hj;clear H1 H2 H4 He Hh Hf Hk Hl hb
       go_wp2_with (at_builtin;refine wpList_append_own _ rfl _ _ 44 rfl w.heap.size 3 i0 (.int .i64 0) 1 8 underlying44 hi Ho Hr Hn rfl (by decide) _ _ _ rfl (Hb.out.alloc _) ⟨_,0,none⟩ 1 1 [.int .i64 k] rfl rfl (Dl _ _ _ _) (ints_oneCell .i64 [(k:Int)]) (by unfold maxLen;omega) (by omega) (by simp;omega) ?_;intro v' w1 Hi Ha _)
       go_roundw
       case rel=>
        refine ⟨k+1,by omega,by go_num,?_,?_,?_⟩
        ·rw [HS.out,Row,Df,Q2];exact Hi
        ·refine (Hg.out.alloc _).kept Ha (λe=>?_) λh0 e=>?_
         ·have:=(Hb.out.lt pb e.symm).1;have:=HP.out.lt;omega
         ·have:=(Hb.out.lt db e.symm).1;have:=(HP.out.at0 h0).2.2;omega
        ·exact (Hc.out.alloc Hc.out.size _).grown Ha (by have:=Hc.out.size;simp at this ⊢;omega) λj hj=>(Hb.out.lt j hj).1
       case measure=>simp [intOf];omega
      ·have HS:Hid (sel (cB ds us xk M) (k+1)=_):=He.out (uM Hk (Hl.out.trans hb));rw [hb] at Hj;clear H1 H2 H4 He Hh Hf Hk Hl hb
       go_wp2
       go_roundw
       case rel=>exact ⟨k+1,by omega,by go_num,by rw [HS.out];exact Hb.out,Hg.out,Hc.out⟩
       case measure=>simp [intOf];omega
   ·have HS:Hid (sel (cB ds us kind M) (k+1)=_):=He.out (qm (H1.out hkk));have Hp:=uJ hkk;clear H1 H2 H4 He Hh hkk
    go_wp2
    go_roundw
    case rel=>exact ⟨k+1,by omega,by go_num,by rw [HS.out];exact Hb.out,Hg.out,Hc.out⟩
    case measure=>simp [intOf];omega
  ·have Hs:k=ds.length:=by omega
   subst Hs;have Hb:=qI hr;have Hc:=qI hB;clear hr hB hP
   go_wp2
   go_ret;exact ⟨_,rfl,Hb.out,Hc.out⟩
end
section
open RowKit
open Dvs (Dv dv0 dv nth first clF gvF aL ur aW)
def bR (u:World) (T:Nat) (f:Nat->Bool):Prop:=∀ j,j<16->u.cell? ⟨T,j,none⟩=some (.bool (f j))/\u.frozen? ⟨T,j,none⟩=false
theorem bR.lt {u:World} {T:Nat} {f:Nat->Bool} (h:bR u T f):T<u.heap.size:=Q3 u _ (h 0 (by decide)).1
theorem bR.kept {w w':World} {T:Nat} {f:Nat->Bool} {g:Option Nat} (h:bR w T f) (hg:w.grownBy w' g) (hne:some T≠g):bR w' T f:=λj hj=>
 ⟨(hg.cell_far _ h.lt hne).trans (h j hj).1,(hg.frozen_far _ h.lt hne).trans (h j hj).2⟩
theorem bR.below {w w':World} {T:Nat} {f:Nat->Bool} (h:bR w T f) (hb:Below w.heap.size w w'):bR w' T f:=h.kept (dD hb none) (by simp)
abbrev me (f:Nat->Bool):Array Value:=#[.bool (f 0),.bool (f 1),.bool (f 2),.bool (f 3),.bool (f 4),.bool (f 5),.bool (f 6),.bool (f 7),.bool (f 8),.bool (f 9),.bool (f 10),.bool (f 11),.bool (f 12),.bool (f 13),.bool (f 14),.bool (f 15)]
theorem bR.made (u:World) (t:TypeId) (f:Nat->Bool):bR (u.alloc (.cells (me f) t)) u.heap.size f:=by
 intro j hj
 have:j=0\/j=1\/j=2\/j=3\/j=4\/j=5\/j=6\/j=7\/j=8\/j=9\/j=10\/j=11\/j=12\/j=13\/j=14\/j=15:=by omega
 rcases this with rfl|rfl|rfl|rfl|rfl|rfl|rfl|rfl|rfl|rfl|rfl|rfl|rfl|rfl|rfl|rfl <;> exact ⟨by simp,by simp⟩
theorem bR.set {u:World} {T:Nat} {f g:Nat->Bool} (h:bR u T f) {m:Nat} (hm:m<16) (b:Bool) (hg:∀ j,j<16->g j=if j=m then b else f j):bR (u.setCell ⟨T,m,none⟩ (.bool b)) T g:=by
 intro j hj;obtain ⟨c,z⟩:=h j hj;obtain ⟨cm,_⟩:=h m hm;refine ⟨?_,(World.frozen?_setCell ..).trans z⟩;rw [hg j hj]
 by_cases e:j=m
 ·subst e
  simp
  clear c hg;go_simp
 ·rw [if_neg e];have Ha:(⟨T,m,none⟩:Addr)≠⟨T,j,none⟩:=by intro h;cases h;exact e rfl
  rw [World.cell?_setCell_other (h:=Ha)];exact c
def mf (w:World) (pb:Nat) (f:Nat->Bool):Nat->World
 | 0=>w
 | k+1=>(mf w pb f k).setCell ⟨pb,1+k,none⟩ (.bool (f k))
theorem Dm {w:World} {pb db:Nat} {ao:Option Addr} {c:Nat} {ds:List Dv} {us:Nat->Bool} (h:ak w pb db ao c ds us) (f:Nat->Bool) (k:Nat) (hk:k<=16):ak (mf w pb f k) pb db ao c ds (λj=>if j<k then f j else us j):=by
 induction k with
 | zero=>simpa [mf] using h
 | succ k ih=>
  refine (ih (by omega)).set (by omega) (f k) λj _=>?_
  by_cases e:j=k
  ·subst e;rw [if_pos (by omega),if_pos rfl]
  ·by_cases e2:j<k
   ·rw [if_pos (by omega),if_neg e,if_pos e2]
   ·rw [if_neg (by omega),if_neg e,if_neg e2]
theorem Dn (w:World) (pb:Nat) (f:Nat->Bool) (k:Nat):w.grownBy (mf w pb f k) (some pb):=by
 induction k with
 | zero=>exact qi _ _
 | succ k ih=>exact ih.trans (bL _ _ _)
theorem ak.congr {w:World} {pb db:Nat} {ao:Option Addr} {c:Nat} {ds:List Dv} {us vs:Nat->Bool} (h:ak w pb db ao c ds us) (e:∀ j,j<16->vs j=us j):ak w pb db ao c ds vs:=
 ⟨h.row,h.at0,h.cells,λj hj=>by rw [e j hj];exact h.used j hj⟩
theorem Do {w:World} {pb db:Nat} {ao:Option Addr} {c:Nat} {ds:List Dv} {us:Nat->Bool} (h:ak w pb db ao c ds us) (f:Nat->Bool):ak (mf w pb f 16) pb db ao c ds f:=
 (Dm h f 16 (lR)).congr (λj hj=>by rw [if_pos hj])
theorem Dp {n:Nat} {us:Nat->Bool} {l:List Int} {k:Nat} (h:jZ (nth l k) n=false):clF n us l k=1:=by
 rw [clF,if_pos]
 simp [jZ] at h
 omega
theorem nF {x:Int} {n:Nat} (h:jZ x n=true):∃ m:Nat,x=(m:Int)/\m<n:=by
 simp [jZ] at h
 exact ⟨x.toNat,by omega,by omega⟩
theorem Dq {n:Nat} {us:Nat->Bool} {l:List Int} {k m:Nat} (h:nth l k=(m:Int)) (hm:m<n) (hc:aL us (l.take k) m=true):clF n us l k=5:=by
 rw [clF,h,if_neg (by omega),if_pos];exact hc
theorem Dr {n:Nat} {us:Nat->Bool} {l:List Int} {k m:Nat} (h:nth l k=(m:Int)) (hm:m<n) (hc:aL us (l.take k) m=false):clF n us l k=0:=by
 rw [clF,h,if_neg (by omega),if_neg];rw [show (us (m:Int).toNat || decide ((m:Int)∈l.take k))=aL us (l.take k) m from rfl,hc]
 simp
theorem Ds {us:Nat->Bool} {l:List Int} {k m:Nat} (hk:k<l.length) (h:nth l k=(m:Int)) (j:Nat):aL us (l.take (k+1)) j=if j=m then true else aL us (l.take k) j:=by
 rw [Dvs.uk hk,h,Dvs.uu _ _ _ (by omega)]
 by_cases e:j=m
 ·subst e;simp
 ·rw [if_neg e,Q7 (by omega),Bool.or_false]
def iH (n:Nat) (us:Nat->Bool) (l:List Int):Nat->Bool:=if first (clF n us l) l.length=0 then aL us l else us
end
