import Derived.Test.YtbmmnflgnmjboaaGreatDoorK2
import Derived.ProofKit
import Derived.OpenShut
import Derived.ChangeOld
import Derived.Deep.Strs
import Derived.Deep.Slices
import Derived.Carry
import Derived.JoinedOf
import Derived.JoinedAt
import Derived.Deep.AppendLies
import Derived.Shelf.Lay
import Derived.Shelf.Spec.SlicesGrow
import Derived.Sort.OwnSortedInts
import Derived.Ground.NamesProg
import Derived.BigRegion
set_option maxRecDepth 100000
set_option maxHeartbeats 16000000
namespace Go.Proofs.YtbmmnflgnmjboaaGreatDoor
section
namespace Dvs
structure Dv where
 kind:ByteArray
 node:Int
 sick:Bool
def dv0:Dv:=⟨ByteArray.empty,0,false⟩
instance:Inhabited Dv:=⟨dv0⟩
def dv (ds:List Dv) (k:Nat):Dv:=ds.getD k dv0
def nth (l:List Int) (k:Nat):Int:=l.getD k 0
theorem Ad {l:List Int} {k:Nat} (h:k<l.length):l.take (k+1)=l.take k++[nth l k]:=by
 rw [List.take_add_one,nth,List.getD_eq_getElem?_getD,Qf h];rfl
def sel (p:Nat->Bool) (n:Nat):List Nat:=(List.range n).filter p
theorem jQ {p:Nat->Bool} {n:Nat} (h:p n=true):sel p (n+1)=sel p n++[n]:=by simp [sel,List.range_succ,List.filter_append,h]
theorem fT {p:Nat->Bool} {n:Nat} (h:p n=false):sel p (n+1)=sel p n:=by simp [sel,List.range_succ,List.filter_append,h]
theorem gG {p:Nat->Bool} {n j:Nat}:j∈sel p n↔j<n/\p j=true:=by simp [sel]
theorem oe (p:Nat->Bool) (n:Nat):(sel p n).Nodup:=List.Pairwise.filter _ (by simpa [List.Nodup] using List.nodup_range (n:=n))
theorem oj (p:Nat->Bool) (n:Nat):(sel p n).Pairwise (· < ·):=List.Pairwise.filter _ List.pairwise_lt_range
theorem jR (p:Nat->Bool) (n:Nat):(sel p n).length<=n:=by simpa [sel] using List.length_filter_le p (List.range n)
theorem l9 {p q:Nat->Bool} {n:Nat} (h:∀ j,j<n->p j=q j):sel p n=sel q n:=by
 unfold sel;exact List.filter_congr (λj hj=>h j (List.mem_range.1 hj))
def srt (l:List Nat):List Nat:=sel (λj=>decide (j∈l)) 16
def b8 (us:Nat->Bool) (l:List Nat) (j:Nat):Bool:=us j || decide (j∈l)
theorem rE (us:Nat->Bool):b8 us []=us:=by funext j;simp [b8]
theorem Ae (us:Nat->Bool) (l:List Nat) (i j:Nat):b8 us (l++[i]) j=(b8 us l j || decide (j=i)):=by
 unfold b8
 by_cases h1:j∈l <;> by_cases h2:j=i <;> simp [h1,h2]
def fits (ds:List Dv) (us:Nat->Bool) (kind:ByteArray) (k:Nat):Bool:=decide ((dv ds k).kind=kind) && !(dv ds k).sick && !us k
def fi (ds:List Dv) (m:Nat) (k:Nat):Bool:=m.testBit (dv ds k).node.toNat
def cA (ds:List Dv) (us:Nat->Bool) (kind:ByteArray) (m:Nat) (k:Nat):Bool:=fits ds us kind k && fi ds m k
def fU (ds:List Dv) (us:Nat->Bool) (kind:ByteArray) (m:Nat) (k:Nat):Bool:=fits ds us kind k && !fi ds m k
def ord (ds:List Dv) (us:Nat->Bool) (kind:ByteArray) (m:Nat):List Nat:=sel (cA ds us kind m) ds.length++sel (fU ds us kind m) ds.length
def bA (ds:List Dv) (us:Nat->Bool) (kind:ByteArray) (m many:Nat):List Nat:=(ord ds us kind m).take many
theorem Af (f g:Nat->Bool) (n:Nat):(sel (λk=>f k && g k) n).length+(sel (λk=>f k && !g k) n).length=(sel f n).length:=by
 induction n with
 | zero=>rfl
 | succ n ih=>
  cases hf:f n <;> cases hg:g n
  ·rw [fT (by simp [hf]),fT (by simp [hf]),fT hf];exact ih
  ·rw [fT (by simp [hf]),fT (by simp [hf]),fT hf];exact ih
  ·rw [fT (by simp [hg]),jQ (by simp [hf,hg]),jQ hf];simp;omega
  ·rw [jQ (by simp [hf,hg]),fT (by simp [hg]),jQ hf];simp;omega
theorem ol (ds:List Dv) (us:Nat->Bool) (kind:ByteArray) (m:Nat):(ord ds us kind m).length=(sel (fits ds us kind) ds.length).length:=by
 unfold ord;rw [Q2];exact Af (fits ds us kind) (fi ds m) ds.length
theorem rF {ds:List Dv} {us:Nat->Bool} {kind:ByteArray} {m j:Nat}:j∈ord ds us kind m↔j<ds.length/\fits ds us kind j=true:=by
 unfold ord cA fU;rw [Qi,gG,gG];cases fi ds m j <;> simp
theorem Ag (ds:List Dv) (us:Nat->Bool) (kind:ByteArray) (m:Nat):(ord ds us kind m).Nodup:=by
 unfold ord;rw [List.nodup_append];refine ⟨oe _ _,oe _ _,?_⟩;intro a ha b hb e;subst e;rw [gG] at ha hb;unfold cA fU at *;cases hn:fi ds m a <;> simp [hn] at ha hb
theorem fV {ds:List Dv} {us:Nat->Bool} {kind:ByteArray} {m many j:Nat} (h:j∈bA ds us kind m many):j<ds.length/\fits ds us kind j=true:=rF.1 (List.mem_of_mem_take h)
theorem kC (ds:List Dv) (us:Nat->Bool) (kind:ByteArray) (m many:Nat):(bA ds us kind m many).Nodup:=List.Pairwise.sublist (List.take_sublist _ _) (Ag ds us kind m)
theorem rG {l:List Nat} (h16:∀ j∈l,j<16) {j:Nat}:j∈srt l↔j∈l:=by
 unfold srt;rw [gG];constructor
 ·intro ⟨_,h⟩;simpa using h
 ·intro h;exact ⟨h16 j h,by simpa using h⟩
theorem kD {l:List Nat} (h16:∀ j∈l,j<16) (hn:l.Nodup):(srt l).Perm l:=by
 refine (List.perm_ext_iff_of_nodup (oe _ _) hn).2 λj=>?_
 exact rG h16
theorem md {l:List Nat} (h16:∀ j∈l,j<16) (hn:l.Nodup):(srt l).length=l.length:=(kD h16 hn).length_eq
theorem Ah {l k:List Int} (hp:l.Perm k) (hl:l.Pairwise (·<=·)) (hk:k.Pairwise (·<=·)):l=k:=
 hp.eq_of_pairwise (λ_ _ _ _ h1 h2=>Int.le_antisymm h1 h2) hl hk
theorem Ai {l:List Nat} (h16:∀ j∈l,j<16) (hn:l.Nodup):(l.map (λj:Nat=>(j:Int))).mergeSort (λx y=>decide (x<=y))=(srt l).map (λj:Nat=>(j:Int)):=by
 refine Ah ?_ ?_ ?_
 ·exact (List.mergeSort_perm _ _).trans ((kD h16 hn).map _).symm
 ·have h:=List.pairwise_mergeSort (le:=λx y:Int=>decide (x<=y)) (λa b c h1 h2=>by simp at *;omega) (λa b=>by simp;omega) (l.map (λj:Nat=>(j:Int)));exact h.imp (λ{a b} hab=>by simpa using hab)
 ·rw [List.pairwise_map];exact (oj _ _).imp (λ{a b} hab=>by omega)
def first (f:Nat->Nat):Nat->Nat
 | 0=>0
 | k+1=>if first f k=0 then f k else first f k
theorem iM {f:Nat->Nat} {k:Nat} (h:first f k=0) (h2:f k=0):first f (k+1)=0:=by rw [first,if_pos h,h2]
theorem Aj {f:Nat->Nat} {k:Nat} (h:first f k≠0) (j:Nat):first f (k+j)=first f k:=by
 induction j with
 | zero=>rfl
 | succ j ih=>rw [<- Nat.add_assoc,first,if_neg (by rw [ih];exact h),ih]
theorem ij {f:Nat->Nat} {k n:Nat} (h:first f k=0) (h2:f k≠0) (hk:k<n):first f n=f k:=by
 have e:first f (k+1)=f k:=by rw [first,if_pos h]
 have:=Aj (f:=f) (k:=k+1) (by rw [e];exact h2) (n - (k+1))
 rw [show k+1+(n - (k+1))=n by omega] at this;rw [this,e]
theorem cO {f:Nat->Nat} {n:Nat} (h:first f n=0):∀ k,k<n->f k=0:=by
 induction n with
 | zero=>intro k hk;omega
 | succ n ih=>
  rw [first] at h
  split at h
  ·rename_i h0
   intro k hk
   by_cases e:k=n
   ·subst e;exact h
   ·exact ih h0 k (by omega)
  ·rename_i h0;exact absurd h h0
theorem jj {f:Nat->Nat} {n:Nat} (h:∀ k,k<n->f k=0):first f n=0:=by
 induction n with
 | zero=>rfl
 | succ n ih=>exact iM (ih (λk hk=>h k (by omega))) (h n (by omega))
theorem Ak {f g:Nat->Nat} {n:Nat} (h:∀ k,k<n->f k=g k):first f n=first g n:=by
 induction n with
 | zero=>rfl
 | succ n ih=>rw [first,first,ih (λk hk=>h k (by omega)),h n (by omega)]
def clF (n:Nat) (us:Nat->Bool) (l:List Int) (k:Nat):Nat:=
 if nth l k<0\/(n:Int)<=nth l k then 1 else if (us (nth l k).toNat || decide (nth l k∈l.take k))=true then 5 else 0
def gvF (n:Nat) (us:Nat->Bool) (l:List Int) (k:Nat):Nat:=
 if nth l k<0\/(n:Int)<=nth l k then 1 else if us (nth l k).toNat=true then 0 else 6
def bF (us:Nat->Bool) (l:List Int) (j:Nat):Bool:=us j || decide ((j:Int)∈l)
def rH (us:Nat->Bool) (l:List Int) (j:Nat):Bool:=us j && !decide ((j:Int)∈l)
theorem Al (us:Nat->Bool):bF us []=us:=by funext j;simp [bF]
theorem Am (us:Nat->Bool) (l:List Int) (x:Int) (h:0<=x) (j:Nat):bF us (l++[x]) j=(bF us l j || decide (j=x.toNat)):=by
 unfold bF;have e:decide ((j:Int)∈l++[x])=(decide ((j:Int)∈l) || decide (j=x.toNat)):=by
  rw [<- Bool.decide_or];apply decide_eq_decide.2;have e2:((j:Int)=x)↔(j=x.toNat):=by omega
  rw [Qi,Qm,e2]
 rw [e,Bool.or_assoc]
def jS (b:UInt8):Bool:=decide (97<=b.toNat) && decide (b.toNat<=122)
def g9 (b:UInt8):Bool:=decide (48<=b.toNat/\b.toNat<=57)
def okB (s:ByteArray) (i:Nat):Bool:=jS (s.data.toList.getD i 0) || (g9 (s.data.toList.getD i 0) && decide (0<i))
theorem byte_at (s:ByteArray) (k:Nat) (h:k<s.size):s.data.toList.getD k 0=s[k]:=by
 have h2:k<s.data.size:=h;rw [List.getD_eq_getElem?_getD,Array.getElem?_toList,Array.getElem?_eq_getElem h2];rfl
theorem An (s:ByteArray) (k:Nat) (h:k<s.size):okB s k=(jS s[k] || (g9 s[k] && decide (0<k))):=by rw [okB,byte_at s k h]
def cP (f:Nat->Bool):Nat->Bool
 | 0=>true
 | k+1=>cP f k && f k
theorem rI {f:Nat->Bool} {k:Nat} (h:cP f k=true) (h2:f k=true):cP f (k+1)=true:=by rw [cP,h,h2];rfl
theorem rJ {f:Nat->Bool} {k n:Nat} (h2:f k=false) (hk:k<n):cP f n=false:=by
 induction n with
 | zero=>omega
 | succ n ih=>
  rw [cP]
  by_cases e:k=n
  ·subst e;rw [h2,Bool.and_false]
  ·rw [ih (by omega),Bool.false_and]
def aS (s:ByteArray):Bool:=decide (0<s.size) && decide (s.size<=8) && cP (okB s) s.size
theorem Ao {s:ByteArray} (h:s.size=0):aS s=false:=by simp [aS,h]
theorem Ap {s:ByteArray} (h:8<s.size):aS s=false:=by simp [aS];omega
theorem Aq {s:ByteArray} (h0:0<s.size) (h8:s.size<=8):aS s=cP (okB s) s.size:=by rw [aS,Qc h0,Qc h8];rfl
def eG (ds:List Dv) (k:Nat):Nat:=if aS (dv ds k).kind=false then 3 else if (dv ds k).node<0\/3<(dv ds k).node then 1 else 0
def fault (ds:List Dv):Nat:=if 16<ds.length then 2 else first (eG ds) ds.length
def aT (ds:List Dv):Prop:=ds.length<=16/\∀ k,k<ds.length->0<=(dv ds k).node/\(dv ds k).node<=3
theorem gH {ds:List Dv} (h:fault ds=0):aT ds:=by
 unfold fault at h
 split at h
 ·cases h
 ·refine ⟨by omega,λk hk=>?_⟩
  have:=cO h k hk
  unfold eG at this
  split at this
  ·cases this
  ·split at this
   ·cases this
   ·omega
def cn (p:Nat->Bool) (ds:List Dv) (x n:Nat):Nat:=(sel (λj=>p j && decide ((dv ds j).node=(x:Int))) n).length
theorem rK (p:Nat->Bool) (ds:List Dv) (x n:Nat):cn p ds x n<=n:=jR _ _
theorem om {p:Nat->Bool} {ds:List Dv} {n:Nat} (h:p n=false) (x:Nat):cn p ds x (n+1)=cn p ds x n:=by
 unfold cn;rw [fT (by rw [h];rfl)]
theorem oq {p:Nat->Bool} {ds:List Dv} {n:Nat} (h:p n=true) (h0:0<=(dv ds n).node) (x:Nat):cn p ds x (n+1)=cn p ds x n+(if x=(dv ds n).node.toNat then 1 else 0):=by
 unfold cn
 by_cases e:x=(dv ds n).node.toNat
 ·rw [jQ (by rw [h,Qc (by omega)];rfl),if_pos e];simp
 ·rw [fT (by rw [h,Q7 (by omega)];rfl),if_neg e];rfl
def bD (ds:List Dv) (kind:ByteArray) (k:Nat):Bool:=decide ((dv ds k).kind=kind) && !(dv ds k).sick
theorem ot (ds:List Dv) (us:Nat->Bool) (kind:ByteArray) (k:Nat):fits ds us kind k=(bD ds kind k && !us k):=rfl
def bP (ds:List Dv) (us:Nat->Bool) (kind:ByteArray) (many:Int):Nat:=if many<0 then 1 else if ((sel (fits ds us kind) ds.length).length:Int)<many then 9 else 0
def sicken (ds:List Dv) (n:Nat) (on:Bool):List Dv:=ds.set n ⟨(dv ds n).kind,(dv ds n).node,on⟩
theorem kE (ds:List Dv) (n:Nat) (on:Bool):(sicken ds n on).length=ds.length:=by simp [sicken]
theorem ou {ds:List Dv} {n:Nat} (h:n<ds.length) (on:Bool) (k:Nat):dv (sicken ds n on) k=if k=n then ⟨(dv ds n).kind,(dv ds n).node,on⟩ else dv ds k:=by
 unfold sicken;rw [dv,List.getD_eq_getElem?_getD,List.getElem?_set]
 by_cases e:n=k
 ·subst e;simp [h]
 ·rw [if_neg e,if_neg (λh=>e h.symm)];rfl
theorem Ar {ds:List Dv} (hN:aT ds) {n:Nat} (h:n<ds.length) (on:Bool):aT (sicken ds n on):=by
 refine ⟨by rw [kE];exact hN.1,λk hk=>?_⟩;rw [kE] at hk;rw [ou h]
 split
 ·exact hN.2 n h
 ·exact hN.2 k hk
end Dvs
end
section
open Go.ChangeShapes Go.WideShapes Go.ChangeAt Go.RowKit
open Dvs (Dv dv0 dv nth)
def dr (W:World) (v:Value) (N:Nat) (p:List Value->Prop):Prop:=
 ∃ ao len c,v=.slice ao len c/\len<=maxLen/\(0<len->∃ b o,ao=some ⟨b,o,none⟩/\b<W.heap.size/\∀ k,k<len->∃ cs:List Value,cs.length=N/\(∀ j,j<N->W.cell? ⟨b,o+k*N+j,none⟩=cs[j]?)/\p cs)
theorem dr.below {W W':World} {v:Value} {N:Nat} {p q:List Value->Prop} (h:dr W v N p) (hb:Below W.heap.size W W') (hp:∀ cs,p cs->q cs):dr W' v N q:=by
 obtain ⟨ao,len,c,hv,hm,hr⟩:=h;refine ⟨ao,len,c,hv,hm,λh0=>?_⟩;obtain ⟨b,o,ha,hlt,hc⟩:=hr h0;refine ⟨b,o,ha,Q1 hlt hb.size,λk hk=>?_⟩;obtain ⟨cs,hl,hcs,hpc⟩:=hc k hk;exact ⟨cs,hl,λj hj=>(hb.cell (p:=⟨b,o+k*N+j,none⟩) hlt).trans (hcs j hj),hp cs hpc⟩
section
variable {H:Type} {enc:TypeId × Value->H} {P:Program} {W:World}
theorem bM {base:Nat} {spare:Nat->Bool} {held:Bool} {fuel:Nat} {t:TypeId} {cs:List Value} {x:DataW H × List MemPlace} {fs:Array Field} (ht:P.underlying t=some (.struct fs)) (h:DataW.trod enc P W base spare held fuel t cs=some x) (i:Nat) (ty:TypeId) (off N:Nat) (hc:P.cellsOf ty=N) (hf:(fs[i]?).map (λf=>(f.type,f.offset))=some (ty,off)) :
  ∃ n y,DataW.trod enc P W base spare held n ty ((cs.drop off).take N)=some y:=by
 obtain ⟨xs,n,_,_,_,hlen,hx⟩:=DataW.trod_struct ht h;obtain ⟨f,hg,e⟩:=Option.map_eq_some_iff.1 hf;cases e;subst hc;have hi:i<xs.length:=by rw [hlen];exact (gS hg).1
 exact ⟨n,xs[i],by rw [hx i f hg];exact Qf hi⟩
theorem jk {t e:TypeId} {N fuel:Nat} {v:Value} {x:DataW H × List MemPlace} {p:List Value->Prop} (ht:P.underlying t=some (.slice e)) (hN:P.cellsOf e=N) (h0:0<N)
  (h:DataW.trod enc P W 0 (λ_=>true) true fuel t [v]=some x) (hp:∀ n cs y,cs.length=N->DataW.trod enc P W 0 (λ_=>true) true n e cs=some y->p cs):dr W v N p:=by
 rcases Deep.open_slice ht h with ⟨hcs,_⟩|⟨a,len,cap,m,n,D,Pl,hcs,_,hl,hm,hmm,_,hx⟩
 ·simp at hcs
  subst hcs;exact ⟨none,0,0,rfl,Nat.zero_le _,λh=>by omega⟩
 ·simp at hcs
  subst hcs;rw [if_pos rfl] at hmm;subst hmm;rw [hN] at hx;refine ⟨some a,len,_,rfl,Q5 hl hm,λhpos=>?_⟩;obtain ⟨b,off,spot⟩:=a;obtain ⟨cs0,h10,_⟩:=hx 0 (by omega);obtain ⟨_,hlen0,hc0⟩:=World.cells?_some h10;have hc:=hc0 0 (by omega);rw [Qf (by omega)] at hc;have hspot:spot=none:=by simpa [Addr.add] using World.cell?_spot hc
  subst hspot;refine ⟨b,off,rfl,?_,λk hk=>?_⟩
  ·rw [Deep.add_add,Addr.add_lit] at hc;exact Q3 W _ hc
  ·obtain ⟨cs,h1,h2⟩:=hx k (by omega);obtain ⟨_,hlen,hcell⟩:=World.cells?_some h1;refine ⟨cs,hlen,λj hj=>?_,hp n cs _ hlen h2⟩
   have:=hcell j hj
   rw [Deep.add_add,Addr.add_lit,<- Nat.add_assoc] at this;exact this
end
theorem jl:Tryz.prog.cellsOf 9=1:=by kernel_rfl
theorem fB:Tryz.prog.cellsOf 3=1:=by kernel_rfl
theorem As:Tryz.prog.cellsOf 4=1:=by kernel_rfl
theorem At:Tryz.prog.cellsOf 43=1:=by kernel_rfl
theorem rL:Tryz.prog.cellsOf 60=2:=by kernel_rfl
theorem Au:Tryz.prog.cellsOf 109=2:=by kernel_rfl
theorem rM:Tryz.prog.cellsOf 77=2:=by kernel_rfl
theorem Av:Tryz.prog.cellsOf 63=6:=by kernel_rfl
theorem rN:Tryz.prog.cellsOf 47=3:=by kernel_rfl
theorem Aw:Tryz.prog.cellsOf 50=10:=by kernel_rfl
theorem Ax:Tryz.prog.cellsOf 44=1:=by kernel_rfl
theorem Ay:Tryz.prog.cellsOf 61=1:=by kernel_rfl
theorem rO:Tryz.prog.cellsOf 45=1:=by kernel_rfl
theorem rP:Tryz.prog.cellsOf 48=1:=by kernel_rfl
def ov (cs:List Value):Prop:=∃ x:Int,cs=[.int .i64 x]
def jm (cs:List Value):Prop:=∃ (s:ByteArray) (x:Int),cs=[.string s,.int .i64 x]
def gI (W:World) (cs:List Value):Prop:=∃ (nm:ByteArray) (a b c d:Int) (v:Value),cs=[.string nm,.int .i64 a,.int .i64 b,.int .i64 c,.int .i64 d,v]/\dr W v 2 jm
def Az (W:World) (cs:List Value):Prop:=∃ (kind s:ByteArray) (a b:Int) (m:Nat) (lv:Value) (nm:ByteArray) (pr:Int) (cv uv:Value),
 cs=[.string kind,.string s,.int .i64 a,.int .i64 b,.int .u8 m,lv,.string nm,.int .i64 pr,cv,uv]/\m<256/\dr W lv 1 ov/\dr W cv 6 (gI W)/\dr W uv 2 jm
theorem gI.below {W W':World} {cs:List Value} (h:gI W cs) (hb:Below W.heap.size W W'):gI W' cs:=by
 obtain ⟨nm,a,b,c,d,v,rfl,hv⟩:=h;exact ⟨nm,a,b,c,d,v,rfl,hv.below hb λ_ h=>h⟩
section
variable {H:Type} {enc:TypeId × Value->H} {W:World}
theorem fW {n:Nat} {cs:List Value} {y:DataW H × List MemPlace} (h:DataW.trod enc Tryz.prog W 0 (λ_=>true) true n 3 cs=some y):ov cs:=by
 obtain ⟨p,e,_,_⟩:=DataW.trod_int Tryz.underlying3 h;exact ⟨p,e⟩
theorem jn {n:Nat} {cs:List Value} {y:DataW H × List MemPlace} (h:DataW.trod enc Tryz.prog W 0 (λ_=>true) true n 9 cs=some y):∃ s:ByteArray,cs=[.string s]:=by
 obtain ⟨p,e,_⟩:=DataW.trod_string Tryz.underlying9 h;exact ⟨p,e⟩
theorem AA {n:Nat} {v:Value} {y:DataW H × List MemPlace} (h:DataW.trod enc Tryz.prog W 0 (λ_=>true) true n 44 [v]=some y):dr W v 1 ov:=
 jk Tryz.underlying44 fB (by decide) h λ_ _ _ _ h=>fW h
theorem AC {n:Nat} {cs:List Value} {y:DataW H × List MemPlace} (hl:cs.length=2) (h:DataW.trod enc Tryz.prog W 0 (λ_=>true) true n 109 cs=some y):jm cs:=by
 obtain ⟨_,_,h0⟩:=bM Tryz.underlying109 h 0 9 0 _ jl rfl;obtain ⟨_,_,h1⟩:=bM Tryz.underlying109 h 1 3 1 _ fB rfl
 match cs,hl with
 | [a,b],_=>
  obtain ⟨s,e0⟩:=jn h0;obtain ⟨x,e1⟩:=fW h1
  simp at e0 e1
  exact ⟨s,x,by rw [e0,e1]⟩
theorem rQ {n:Nat} {cs:List Value} {y:DataW H × List MemPlace} (hl:cs.length=2) (h:DataW.trod enc Tryz.prog W 0 (λ_=>true) true n 77 cs=some y):jm cs:=by
 obtain ⟨_,_,h0⟩:=bM Tryz.underlying77 h 0 9 0 _ jl rfl;obtain ⟨_,_,h1⟩:=bM Tryz.underlying77 h 1 3 1 _ fB rfl
 match cs,hl with
 | [a,b],_=>
  obtain ⟨s,e0⟩:=jn h0;obtain ⟨x,e1⟩:=fW h1
  simp at e0 e1
  exact ⟨s,x,by rw [e0,e1]⟩
theorem rR {n:Nat} {cs:List Value} {y:DataW H × List MemPlace} (hl:cs.length=2) (h:DataW.trod enc Tryz.prog W 0 (λ_=>true) true n 60 cs=some y):∃ a b:Int,cs=[.int .i64 a,.int .i64 b]:=by
 obtain ⟨_,_,h0⟩:=bM Tryz.underlying60 h 0 3 0 _ fB rfl;obtain ⟨_,_,h1⟩:=bM Tryz.underlying60 h 1 3 1 _ fB rfl
 match cs,hl with
 | [a,b],_=>
  obtain ⟨s,e0⟩:=fW h0;obtain ⟨x,e1⟩:=fW h1
  simp at e0 e1
  exact ⟨s,x,by rw [e0,e1]⟩
theorem AD {n:Nat} {cs:List Value} {y:DataW H × List MemPlace} (hl:cs.length=6) (h:DataW.trod enc Tryz.prog W 0 (λ_=>true) true n 63 cs=some y):gI W cs:=by
 obtain ⟨_,_,h0⟩:=bM Tryz.underlying63 h 0 9 0 _ jl rfl;obtain ⟨_,_,h1⟩:=bM Tryz.underlying63 h 1 60 1 _ rL rfl;obtain ⟨_,_,h2⟩:=bM Tryz.underlying63 h 2 60 3 _ rL rfl;obtain ⟨_,_,h3⟩:=bM Tryz.underlying63 h 3 61 5 _ Ay rfl
 match cs,hl with
 | [a,b,c,d,e,f],_=>
  obtain ⟨s,e0⟩:=jn h0;obtain ⟨x1,x2,e1⟩:=rR rfl h1;obtain ⟨x3,x4,e2⟩:=rR rfl h2;have h4:=jk Tryz.underlying61 Au (by decide) h3 λ_ _ _ hl h=>AC hl h
  simp at e0 e1 e2
  exact ⟨s,x1,x2,x3,x4,f,by rw [e0,e1.1,e1.2,e2.1,e2.2],h4⟩
theorem rS {n:Nat} {cs:List Value} {y:DataW H × List MemPlace} (hl:cs.length=3) (h:DataW.trod enc Tryz.prog W 0 (λ_=>true) true n 47 cs=some y):∃ (nm:ByteArray) (pr:Int) (cv:Value),cs=[.string nm,.int .i64 pr,cv]/\dr W cv 6 (gI W):=by
 obtain ⟨_,_,h0⟩:=bM Tryz.underlying47 h 0 9 0 _ jl rfl;obtain ⟨_,_,h1⟩:=bM Tryz.underlying47 h 1 3 1 _ fB rfl;obtain ⟨_,_,h2⟩:=bM Tryz.underlying47 h 2 45 2 _ rO rfl
 match cs,hl with
 | [a,b,c],_=>
  obtain ⟨s,e0⟩:=jn h0;obtain ⟨x,e1⟩:=fW h1;have h4:=jk Tryz.underlying45 Av (by decide) h2 λ_ _ _ hl h=>AD hl h
  simp at e0 e1
  exact ⟨s,x,c,by rw [e0,e1],h4⟩
theorem AE {n:Nat} {cs:List Value} {y:DataW H × List MemPlace} (hl:cs.length=10) (h:DataW.trod enc Tryz.prog W 0 (λ_=>true) true n 50 cs=some y):Az W cs:=by
 obtain ⟨_,_,h0⟩:=bM Tryz.underlying50 h 0 9 0 _ jl rfl;obtain ⟨_,_,h1⟩:=bM Tryz.underlying50 h 1 9 1 _ jl rfl;obtain ⟨_,_,h2⟩:=bM Tryz.underlying50 h 2 3 2 _ fB rfl;obtain ⟨_,_,h3⟩:=bM Tryz.underlying50 h 3 3 3 _ fB rfl;obtain ⟨_,_,h4⟩:=bM Tryz.underlying50 h 4 43 4 _ At rfl;obtain ⟨_,_,h5⟩:=bM Tryz.underlying50 h 5 44 5 _ Ax rfl;obtain ⟨_,_,h6⟩:=bM Tryz.underlying50 h 6 47 6 _ rN rfl;obtain ⟨_,_,h7⟩:=bM Tryz.underlying50 h 7 48 9 _ rP rfl
 match cs,hl with
 | [z0,z1,z2,z3,z4,z5,z6,z7,z8,z9],_=>
  obtain ⟨s0,e0⟩:=jn h0;obtain ⟨s1,e1⟩:=jn h1;obtain ⟨x2,e2⟩:=fW h2;obtain ⟨x3,e3⟩:=fW h3;obtain ⟨x4,e4,_,hwf⟩:=DataW.trod_int Tryz.underlying43 h4;have hm:0<=x4/\x4<=255:=bounds_u8 hwf;obtain ⟨M,rfl⟩:=Int.eq_ofNat_of_zero_le hm.1;have r5:=AA h5;obtain ⟨nm,pr,cv,e6,r6⟩:=rS rfl h6;have r7:=jk Tryz.underlying48 rM (by decide) h7 λ_ _ _ hl h=>rQ hl h
  simp at e0 e1 e2 e3 e4 e6
  obtain ⟨e6,e7,e8⟩:=e6;exact ⟨s0,s1,x2,x3,M,z5,nm,pr,cv,z9,by rw [e0,e1,e2,e3,e4,e6,e7,e8],by omega,r5,r6,r7⟩
def rT (cs:List Value):Prop:=∃ d:Dv,cs=[.string d.kind,.int .i64 d.node,.bool d.sick]
theorem AF {n:Nat} {cs:List Value} {y:DataW H × List MemPlace} (hl:cs.length=3) (h:DataW.trod enc Tryz.prog W 0 (λ_=>true) true n 87 cs=some y):rT cs:=by
 obtain ⟨_,_,h0⟩:=bM Tryz.underlying87 h 0 9 0 _ jl rfl;obtain ⟨_,_,h1⟩:=bM Tryz.underlying87 h 1 3 1 _ fB rfl;obtain ⟨_,_,h2⟩:=bM Tryz.underlying87 h 2 4 2 _ As rfl
 match cs,hl with
 | [a,b,c],_=>
  obtain ⟨s,e0⟩:=jn h0;obtain ⟨x,e1⟩:=fW h1;obtain ⟨q,e2,_⟩:=DataW.trod_bool Tryz.underlying4 h2
  simp at e0 e1 e2
  exact ⟨⟨s,x,q⟩,by rw [e0,e1,e2]⟩
end
def bS (w:World) (v:Value) (g o:Nat) (ds:List Dv):Prop:=
 ∃ ao c,v=.slice ao ds.length c/\(0<ds.length->ao=some ⟨g,o,none⟩/\g<w.heap.size/\∀ k,k<ds.length->w.cell? ⟨g,o+k*3,none⟩=some (.string (dv ds k).kind)/\w.cell? ⟨g,o+k*3+1,none⟩=some (.int .i64 (dv ds k).node)/\w.cell? ⟨g,o+k*3+2,none⟩=some (.bool (dv ds k).sick))
def fC (w:World) (v:Value) (g o:Nat) (l:List Int):Prop:=
 ∃ ao c,v=.slice ao l.length c/\(0<l.length->ao=some ⟨g,o,none⟩/\g<w.heap.size/\∀ k,k<l.length->w.cell? ⟨g,o+k,none⟩=some (.int .i64 (nth l k)))
theorem AG {W:World} {v:Value} (h:dr W v 3 rT):∃ ds g o,bS W v g o ds/\(0<ds.length->g<W.heap.size):=by
 obtain ⟨ao,len,c,rfl,hm,hr⟩:=h
 by_cases h0:len=0
 ·subst h0;exact ⟨[],0,0,⟨ao,c,rfl,λh=>by simp at h⟩,λh=>by simp at h⟩
 ·obtain ⟨b,o,rfl,hlt,hc⟩:=hr (by omega);obtain ⟨f,hf⟩:=Deep.choose_lt (α:=Dv) (n:=len) (p:=λk d=>W.cell? ⟨b,o+k*3,none⟩=some (.string d.kind)/\W.cell? ⟨b,o+k*3+1,none⟩=some (.int .i64 d.node)/\W.cell? ⟨b,o+k*3+2,none⟩=some (.bool d.sick)) (λk hk=>by
   obtain ⟨cs,_,hcs,d,rfl⟩:=hc k hk;exact ⟨d,hcs 0 (by decide),hcs 1 (by decide),hcs 2 (by decide)⟩)
  refine ⟨(List.range len).map f,b,o,⟨_,c,by simp,λ_=>⟨rfl,hlt,λk hk=>?_⟩⟩,λ_=>hlt⟩;have hk':k<len:=by simpa using hk
  have e:dv ((List.range len).map f) k=f k:=by simp [dv,hk']
  rw [e];exact hf k hk'
end
section
open RowKit
open Dvs (Dv dv0 dv nth)
def Ans (e:Ending):Prop:=∃ b,e=.returned (.bool b)
theorem LA (v:Value) (w:World) (h:dr w v 2 jm):Calls Tryz.prog 25 #[v] w λe w'=>Ans e/\w'=w:=by
 obtain ⟨ao,len,c,rfl,hm,hr⟩:=h;have HR:=qI hr;clear hr hm
 by_cases h20:20<len
 ·go_enter Tryz.func25,Tryz.ntmps25
  go_wp2
  go_ret;exact ⟨⟨_,rfl⟩,rfl⟩
 have h20':len<=20:=by omega
 clear h20;have hd:decide (20<(len:Int))=false:=Q7 (by omega)
 go_enter Tryz.func25,Tryz.ntmps25
 go_wp2_with fail
 go_loop [3] (λi=>∃ k:Nat,k<=len/\i=.int .i64 k) (λi=>len - (intOf i).toNat)
 case atStart=>exact ⟨0,by omega,rfl⟩
 case round=>
  obtain ⟨k,hk,rfl⟩:=hrel
  by_cases hlt:k<len
  ·obtain ⟨b,o,rfl,hlb,hcs⟩:=HR.out (by omega);obtain ⟨cs,_,hc,s,x,rfl⟩:=hcs k hlt;have c0:w.cell? ⟨b,o+k*2,none⟩=some (.string s):=hc 0 (by decide);have c1:w.cell? ⟨b,o+k*2+1,none⟩=some (.int .i64 x):=hc 1 (by decide);clear hc hcs;have key:30<s.size\/(s.size<=30/\x < -1125899906842624)\/(s.size<=30/\-1125899906842624<=x/\1125899906842624<x)\/(s.size<=30/\-1125899906842624<=x/\x<=1125899906842624):=by omega
   rcases key with h1|⟨h1,h2⟩|⟨h1,h2,h3⟩|⟨h1,h2,h3⟩
   ·go_wp2
    go_ret;exact ⟨⟨_,rfl⟩,rfl⟩
   ·go_wp2
    go_ret;exact ⟨⟨_,rfl⟩,rfl⟩
   ·go_wp2
    go_ret;exact ⟨⟨_,rfl⟩,rfl⟩
   ·go_wp2_with fail
    go_round
    case rel=>exact ⟨k+1,by omega,by go_num⟩
    case measure=>simp [intOf];omega
  ·have hke:k=len:=by omega
   subst hke
   go_wp2
   go_ret;exact ⟨⟨_,rfl⟩,rfl⟩
theorem AH (nm:ByteArray) (pr:Int) (cv:Value) (w:World) (h:dr w cv 6 (gI w)):Calls Tryz.prog 29 #[.agg #[.string nm,.int .i64 pr,cv]] w λe w'=>Ans e/\Below w.heap.size w w':=by
 have HB0:=qI ((Q0 w.heap.size w).alloc (lR) (.cells #[.string nm,.int .i64 pr,cv] 47));have HH:=qI h;obtain ⟨ao,len,c,rfl,hm,_⟩:=h;clear hm
 by_cases h30:30<nm.size
 ·go_enter Tryz.func29,Tryz.ntmps29
  go_wp2
  go_ret;exact ⟨⟨_,rfl⟩,HB0.out⟩
 have h30':nm.size<=30:=by omega
 clear h30
 by_cases h5:5<len
 ·go_enter Tryz.func29,Tryz.ntmps29
  go_wp2
  go_ret;exact ⟨⟨_,rfl⟩,HB0.out⟩
 have h5':len<=5:=by omega
 have hd1:decide (30<(nm.size:Int))=false:=Q7 (by omega);have hd2:decide (5<(len:Int))=false:=Q7 (by omega);clear h5 h30'
 go_enter Tryz.func29,Tryz.ntmps29
 go_wp2
 go_loopw [3] (λi wr=>∃ k:Nat,k<=len/\i=.int .i64 k/\Below w.heap.size w wr/\wr.cell? ⟨w.heap.size,2,none⟩=some (.slice ao len c)) (λi _=>len - (intOf i).toNat)
 case atStart=>exact ⟨0,by omega,rfl,HB0.out,by simp⟩
 case round=>
  obtain ⟨k,hk,rfl,hB,hcv⟩:=hrel
  by_cases hlt:k<len
  ·obtain ⟨ao',len',c',hv,_,hr⟩:=HH.out.below hB λ_ h=>h.below hB
   cases hv;obtain ⟨b,o,rfl,hlb,hcs⟩:=hr (by omega);obtain ⟨cs,_,hc,cn,x1,x2,x3,x4,dv,rfl,hdv⟩:=hcs k hlt;have c0:wr.cell? ⟨b,o+k*6,none⟩=some (.string cn):=hc 0 (by decide);have c1:wr.cell? ⟨b,o+k*6+1,none⟩=some (.int .i64 x1):=hc 1 (by decide);have c2:wr.cell? ⟨b,o+k*6+2,none⟩=some (.int .i64 x2):=hc 2 (by decide);have c3:wr.cell? ⟨b,o+k*6+3,none⟩=some (.int .i64 x3):=hc 3 (by decide);have c4:wr.cell? ⟨b,o+k*6+4,none⟩=some (.int .i64 x4):=hc 4 (by decide);have c5:wr.cell? ⟨b,o+k*6+5,none⟩=some dv:=hc 5 (by decide);have hB1:=qI (hB.alloc hB.size (.cells #[.string cn,.int .i64 x1,.int .i64 x2,.int .i64 x3,.int .i64 x4,dv] 63));have HD:=qI (hdv.below ((Q0 wr.heap.size wr).alloc (lR) (.cells #[.string cn,.int .i64 x1,.int .i64 x2,.int .i64 x3,.int .i64 x4,dv] 63)) λ_ h=>h);have hcv1:=Lib.cell?_alloc_some (.cells #[.string cn,.int .i64 x1,.int .i64 x2,.int .i64 x3,.int .i64 x4,dv] 63) hcv;have hsz:=hB.size;obtain ⟨da,dl,dc,rfl,_,_⟩:=hdv;clear hc hcs hr hB
   by_cases g30:30<cn.size
   ·go_wp2
    go_ret;exact ⟨⟨_,rfl⟩,hB1.out⟩
   have g30':cn.size<=30:=by omega
   clear g30
   by_cases g5:5<dl
   ·go_wp2
    go_ret;exact ⟨⟨_,rfl⟩,hB1.out⟩
   have g5':dl<=5:=by omega
   have e1:decide (30<(cn.size:Int))=false:=Q7 (by omega);have e2:decide (5<(dl:Int))=false:=Q7 (by omega);clear g5 g30'
   go_wp2_with fail
   go_loop [5] (λi=>∃ q:Nat,q<=dl/\i=.int .i64 q) (λi=>dl - (intOf i).toNat)
   case atStart=>exact ⟨0,by omega,rfl⟩
   case round=>
    obtain ⟨q,hq,rfl⟩:=hrel
    by_cases hql:q<dl
    ·obtain ⟨ao2,len2,c2',hv2,_,hr2⟩:=HD.out;cases hv2;obtain ⟨b2,o2,rfl,hlb2,hcs2⟩:=hr2 (by omega);obtain ⟨cs2,_,hc2,s2,y2,rfl⟩:=hcs2 q hql;have d0:=hc2 0 (by decide);simp only [Nat.add_zero,List.getElem?_cons_zero] at d0;clear hc2 hcs2 hr2
     by_cases k30:30<s2.size
     ·go_wp2
      go_ret;exact ⟨⟨_,rfl⟩,hB1.out⟩
     have k30':s2.size<=30:=by omega
     clear k30
     go_wp2_with fail
     go_round
     case rel=>exact ⟨q+1,by omega,by go_num⟩
     case measure=>simp [intOf];omega
    ·have hqe:q=dl:=by omega
     subst hqe
     go_wp2
     go_roundw
     case rel=>exact ⟨k+1,by omega,by go_num,hB1.out,hcv1⟩
     case measure=>simp [intOf];omega
  ·have hke:k=len:=by omega
   subst hke;have hB1:=qI hB;clear hB
   go_wp2
   go_ret;exact ⟨⟨_,rfl⟩,hB1.out⟩
end
section
open RowKit
open Dvs (Dv dv0 dv nth jS g9 okB cP aS)
theorem me (x:UInt8) (w:World):Calls Tryz.prog 85 #[.int .u8 x.toNat] w λe w'=>e=.returned (.bool (jS x))/\w'=w:=by
 unfold jS
 by_cases h1:97<=x.toNat
 all_goals by_cases h2:x.toNat<=122
 ·go_enter Tryz.func85,Tryz.ntmps85
  go_wp2
  go_ret;refine ⟨?_,rfl⟩
  simp [h1,h2]
  try omega
 ·go_enter Tryz.func85,Tryz.ntmps85
  go_wp2
  go_ret;refine ⟨?_,rfl⟩
  simp [h1,h2]
  try omega
 ·go_enter Tryz.func85,Tryz.ntmps85
  go_wp2
  go_ret;refine ⟨?_,rfl⟩
  simp
  try omega
 ·omega
theorem mf (x:UInt8) (w:World):Calls Tryz.prog 84 #[.int .u8 x.toNat] w λe w'=>(∃ n,e=.returned (.tuple #[.int .i64 n,.bool (g9 x)]))/\w'=w:=by
 cases h:g9 x
 ·exact (xM x w h).mono λe w' ⟨he,hw⟩=>⟨⟨_,he⟩,hw⟩
 ·exact (xL x w h).mono λe w' ⟨he,hw⟩=>⟨⟨_,he⟩,hw⟩
theorem fj (s:ByteArray) (w:World):Calls Tryz.prog 46 #[.string s] w λe w'=>e=.returned (.bool (aS s))/\w'=w:=by
 by_cases he:s.size=0
 ·have hem:s.toList.isEmpty=true:=by rw [Ost.qy];simp [he]
  rw [Dvs.Ao he];clear he
  go_enter Tryz.func46,Tryz.ntmps46
  go_wp2
  go_ret;exact ⟨rfl,rfl⟩
 have hem:s.toList.isEmpty=false:=by rw [Ost.qy];simp [he]
 by_cases h8:8<s.size
 ·rw [Dvs.Ap h8]
  go_enter Tryz.func46,Tryz.ntmps46
  go_wp2
  go_ret;exact ⟨rfl,rfl⟩
 have h8':s.size<=8:=by omega
 rw [Dvs.Aq (by omega) h8'];clear h8 he
 go_enter Tryz.func46,Tryz.ntmps46
 go_wp2_with fail
 go_loop [15] (λi=>∃ k:Nat,k<=s.size/\i=.int .i64 k/\Hid (cP (okB s) k=true)) (λi=>s.size - (intOf i).toNat)
 case atStart=>exact ⟨0,Nat.zero_le _,rfl,rfl⟩
 case round=>
  obtain ⟨k,hk,rfl,HA⟩:=hrel
  by_cases hlt:k<s.size
  ·have HO:=qI (Dvs.An s k hlt)
   rcases two (jS s[k]) with hl|hl
   ·have HN:Hid (cP (okB s) (k+1)=true):=Dvs.rI HA.out (by rw [HO.out,hl];rfl)
    go_wp2_with fail
    refine (mf _ _).mono ?_;rintro e w1 ⟨⟨n,rfl⟩,rfl⟩
    go_wp2_with fail
    refine (me _ _).mono ?_;rintro e w1 ⟨rfl,rfl⟩;rw [hl]
    go_wp2_with fail
    go_round
    case rel=>exact ⟨k+1,by omega,by go_num,HN⟩
    case measure=>simp [intOf];omega
   ·rcases two (g9 s[k]) with hn|hn
    ·by_cases h0:0<k
     ·have HN:Hid (cP (okB s) (k+1)=true):=Dvs.rI HA.out (by rw [HO.out,hl,hn,Qc h0];rfl)
      go_wp2_with fail
      refine (mf _ _).mono ?_;rintro e w1 ⟨⟨n,rfl⟩,rfl⟩;rw [hn]
      go_wp2_with fail
      refine (me _ _).mono ?_;rintro e w1 ⟨rfl,rfl⟩;rw [hl]
      go_wp2_with fail
      go_round
      case rel=>exact ⟨k+1,by omega,by go_num,HN⟩
      case measure=>simp [intOf];omega
     ·have HN:Hid (cP (okB s) s.size=false):=Dvs.rJ (k:=k) (by rw [HO.out,hl,hn,Q7 h0];rfl) hlt;have hk0:k=0:=by omega
      subst hk0
      go_wp2_with fail
      refine (mf _ _).mono ?_;rintro e w1 ⟨⟨n,rfl⟩,rfl⟩;rw [hn]
      go_wp2_with fail
      refine (me _ _).mono ?_;rintro e w1 ⟨rfl,rfl⟩;rw [hl]
      go_wp2
      go_ret;exact ⟨congrArg (λb=>Ending.returned (.bool b)) HN.out.symm,rfl⟩
    ·have HN:Hid (cP (okB s) s.size=false):=Dvs.rJ (k:=k) (by rw [HO.out,hl,hn];rfl) hlt
     go_wp2_with fail
     refine (mf _ _).mono ?_;rintro e w1 ⟨⟨n,rfl⟩,rfl⟩;rw [hn]
     go_wp2_with fail
     refine (me _ _).mono ?_;rintro e w1 ⟨rfl,rfl⟩;rw [hl]
     go_wp2
     go_ret;exact ⟨congrArg (λb=>Ending.returned (.bool b)) HN.out.symm,rfl⟩
  ·have hke:k=s.size:=by omega
   have HN:Hid (cP (okB s) s.size=true):=by rw [<- hke];exact HA
   clear hke HA
   go_wp2
   go_ret;exact ⟨congrArg (λb=>Ending.returned (.bool b)) HN.out.symm,rfl⟩
end
section
open RowKit
open Dvs (Dv dv0 dv nth)
structure ap (w:World) (pb db:Nat) (ao:Option Addr) (c:Nat) (ds:List Dv) (us:Nat->Bool):Prop where
 row:w.cell? ⟨pb,0,none⟩=some (.slice ao ds.length c)
 at0:0<ds.length->ao=some ⟨db,0,none⟩/\db≠pb/\db<w.heap.size
 cells:∀ k,k<ds.length->w.cell? ⟨db,k*3,none⟩=some (.string (dv ds k).kind)/\w.cell? ⟨db,k*3+1,none⟩=some (.int .i64 (dv ds k).node)/\w.cell? ⟨db,k*3+2,none⟩=some (.bool (dv ds k).sick)/\w.frozen? ⟨db,k*3+2,none⟩=false
 used:∀ j,j<16->w.cell? ⟨pb,1+j,none⟩=some (.bool (us j))/\w.frozen? ⟨pb,1+j,none⟩=false
theorem ap.lt {w:World} {pb db:Nat} {ao:Option Addr} {c:Nat} {ds:List Dv} {us:Nat->Bool} (h:ap w pb db ao c ds us):pb<w.heap.size:=Q3 w _ h.row
theorem ap.kept {w w':World} {pb db:Nat} {ao:Option Addr} {c:Nat} {ds:List Dv} {us:Nat->Bool} {g:Option Nat} (h:ap w pb db ao c ds us) (hg:w.grownBy w' g) (h1:some pb≠g) (h2:0<ds.length->some db≠g):ap w' pb db ao c ds us:=by
 refine ⟨(hg.cell_far _ h.lt h1).trans h.row,λh0=>⟨(h.at0 h0).1,(h.at0 h0).2.1,Q1 (h.at0 h0).2.2 hg.size⟩,λk hk=>?_,λj hj=>?_⟩
 ·obtain ⟨c1,c2,c3,c4⟩:=h.cells k hk;have h0:0<ds.length:=by omega
  have hlt:=(h.at0 h0).2.2;exact ⟨(hg.cell_far _ hlt (h2 h0)).trans c1,(hg.cell_far _ hlt (h2 h0)).trans c2,(hg.cell_far _ hlt (h2 h0)).trans c3,(hg.frozen_far _ hlt (h2 h0)).trans c4⟩
 ·obtain ⟨c1,c2⟩:=h.used j hj;exact ⟨(hg.cell_far _ h.lt h1).trans c1,(hg.frozen_far _ h.lt h1).trans c2⟩
theorem bL (w:World) (a:Addr) (u:Value):w.grownBy (w.setCell a u) (some a.block):=
 ⟨rfl,rfl,rfl,by simp,λk _ hne=>Below.heap_setCell _ _ _ _ (λe=>hne (by rw [e]))⟩
theorem dF {w w':World} (h:Below w.heap.size w w') (g:Option Nat):w.grownBy w' g:=⟨h.os,h.tape,h.output,h.size,λk hk _=>h.block k hk⟩
theorem below_grown {w w':World} {g:Option Nat} (h:w.grownBy w' g) {K:Nat} (hK:K<=w.heap.size) (hg:∀ j,g=some j->K<=j):Below K w w':=
 ⟨h.os,h.tape,h.output,h.size,λk hk=>h.block k (by omega) (λe=>by have:=hg k e.symm;omega)⟩
theorem ow (w:World) (g:Option Nat):w.grownBy w g:=⟨rfl,rfl,rfl,lR,λ_ _ _=>rfl⟩
theorem ap.below {w w':World} {pb db:Nat} {ao:Option Addr} {c:Nat} {ds:List Dv} {us:Nat->Bool} (h:ap w pb db ao c ds us) (hb:Below w.heap.size w w'):ap w' pb db ao c ds us:=h.kept (dF hb none) (by simp) (by simp)
theorem ap.drewN {w:World} {pb db:Nat} {ao:Option Addr} {c:Nat} {ds:List Dv} {us:Nat->Bool} (h:ap w pb db ao c ds us) (n:Nat):ap (w.drewN n) pb db ao c ds us:=h.below (below_drewN (Q0 _ w) n)
theorem ap.alloc {w:World} {pb db:Nat} {ao:Option Addr} {c:Nat} {ds:List Dv} {us:Nat->Bool} (h:ap w pb db ao c ds us) (o:Obj):ap (w.alloc o) pb db ao c ds us:=h.below ((Q0 _ w).alloc (lR) o)
theorem ap.set {w:World} {pb db:Nat} {ao:Option Addr} {c:Nat} {ds:List Dv} {us vs:Nat->Bool} (h:ap w pb db ao c ds us) {m:Nat} (hm:m<16) (b:Bool) (hv:∀ j,j<16->vs j=if j=m then b else us j):ap (w.setCell ⟨pb,1+m,none⟩ (.bool b)) pb db ao c ds vs:=by
 have hne:∀ x,x≠1+m->(⟨pb,1+m,none⟩:Addr)≠⟨pb,x,none⟩:=λx hx e=>by cases e;exact hx rfl
 refine ⟨?_,λh0=>⟨(h.at0 h0).1,(h.at0 h0).2.1,by simpa using (h.at0 h0).2.2⟩,λk hk=>?_,λj hj=>?_⟩
 ·rw [World.cell?_setCell_other (h:=hne 0 (by omega))];exact h.row
 ·obtain ⟨c1,c2,c3,c4⟩:=h.cells k hk;have h0:0<ds.length:=by omega
  have hd:=(h.at0 h0).2.1;have hlt:=(h.at0 h0).2.2;have hg:=bL w ⟨pb,1+m,none⟩ (.bool b);have hn:some db≠some pb:=by simpa using hd
  exact ⟨(hg.cell_far _ hlt hn).trans c1,(hg.cell_far _ hlt hn).trans c2,(hg.cell_far _ hlt hn).trans c3,(hg.frozen_far _ hlt hn).trans c4⟩
 ·obtain ⟨cj,z⟩:=h.used j hj;obtain ⟨cm,_⟩:=h.used m hm;refine ⟨?_,(World.frozen?_setCell ..).trans z⟩;rw [hv j hj]
  by_cases e:j=m
  ·subst e
   simp
   clear cj hv hne;go_simp
  ·rw [if_neg e,World.cell?_setCell_other (h:=hne (1+j) (by omega))];exact cj
theorem ap.sicken {w:World} {pb db:Nat} {ao:Option Addr} {c:Nat} {ds:List Dv} {us:Nat->Bool} (h:ap w pb db ao c ds us) {n:Nat} (hn:n<ds.length) (b:Bool):ap (w.setCell ⟨db,n*3+2,none⟩ (.bool b)) pb db ao c (Dvs.sicken ds n b) us:=by
 have h0:0<ds.length:=by omega
 obtain ⟨ha,hd,hlt⟩:=h.at0 h0;have hg:=bL w ⟨db,n*3+2,none⟩ (.bool b);have hnp:some pb≠some db:=by simpa using λe=>hd e.symm
 have hne:∀ x,x≠n*3+2->(⟨db,n*3+2,none⟩:Addr)≠⟨db,x,none⟩:=λx hx e=>by cases e;exact hx rfl
 refine ⟨?_,λ_=>⟨ha,hd,by simpa using hlt⟩,λk hk=>?_,λj hj=>?_⟩
 ·rw [Dvs.kE];exact (hg.cell_far _ h.lt hnp).trans h.row
 ·rw [Dvs.kE] at hk;obtain ⟨c1,c2,c3,c4⟩:=h.cells k hk;rw [Dvs.ou hn];refine ⟨?_,?_,?_,(World.frozen?_setCell ..).trans c4⟩
  ·rw [World.cell?_setCell_other (h:=hne _ (by omega)),c1];split
   ·rename_i e;rw [e]
   ·rfl
  ·rw [World.cell?_setCell_other (h:=hne _ (by omega)),c2];split
   ·rename_i e;rw [e]
   ·rfl
  ·by_cases e:k=n
   ·subst e
    simp
    clear hne hg;go_simp
   ·rw [if_neg e,World.cell?_setCell_other (h:=hne _ (by omega)),c3]
 ·obtain ⟨c1,c2⟩:=h.used j hj;exact ⟨(hg.cell_far _ h.lt hnp).trans c1,(hg.frozen_far _ h.lt hnp).trans c2⟩
theorem fC.kept {w w':World} {v:Value} {g o:Nat} {l:List Int} {r:Option Nat} (h:fC w v g o l) (hg:w.grownBy w' r) (hr:0<l.length->some g≠r):fC w' v g o l:=by
 obtain ⟨ao,c,hv,hc⟩:=h;refine ⟨ao,c,hv,λh0=>?_⟩;obtain ⟨h1,h2,h3⟩:=hc h0;exact ⟨h1,Q1 h2 hg.size,λk hk=>(hg.cell_far _ h2 (hr h0)).trans (h3 k hk)⟩
theorem fC.below {w w':World} {v:Value} {g o:Nat} {l:List Int} (h:fC w v g o l) (hb:Below w.heap.size w w'):fC w' v g o l:=h.kept (dF hb none) (by simp)
theorem bS.below {w w':World} {v:Value} {g o:Nat} {ds:List Dv} (h:bS w v g o ds) (hb:Below w.heap.size w w'):bS w' v g o ds:=by
 obtain ⟨ao,c,hv,hc⟩:=h;refine ⟨ao,c,hv,λh0=>?_⟩;obtain ⟨h1,h2,h3⟩:=hc h0;refine ⟨h1,Q1 h2 hb.size,λk hk=>?_⟩;obtain ⟨c1,c2,c3⟩:=h3 k hk;exact ⟨(hb.cell (p:=⟨g,o+k*3,none⟩) h2).trans c1,(hb.cell (p:=⟨g,o+k*3+1,none⟩) h2).trans c2,(hb.cell (p:=⟨g,o+k*3+2,none⟩) h2).trans c3⟩
def fD (n:Int) (k:Nat):Bool:=decide (0<=n) && decide (n<(k:Int))
theorem ox (n:Int) (w:World) (pb db:Nat) (ao:Option Addr) (c:Nat) (ds:List Dv) (us:Nat->Bool) (h:ap w pb db ao c ds us) :
  Calls Tryz.prog 118 #[.pointer (some ⟨pb,0,none⟩),.int .i64 n] w λe w'=>e=.returned (.bool (fD n ds.length))/\w'=w:=by
 have hr:=h.row;clear h;unfold fD;generalize ds.length=m at *
 by_cases h1:0<=n
 all_goals by_cases h2:n<m
 all_goals
  go_enter Tryz.func118,Tryz.ntmps118
  go_wp2
  go_ret;refine ⟨?_,rfl⟩
  simp [h1,h2]
theorem AI (n:Int) (on:Bool) (w:World) (pb db:Nat) (ao:Option Addr) (c:Nat) (ds:List Dv) (us:Nat->Bool) (h:ap w pb db ao c ds us) (hb:fD n ds.length=false) :
  Calls Tryz.prog 68 #[.pointer (some ⟨pb,0,none⟩),.int .i64 n,.bool on] w λe w'=>e=.returned (.iface 121 (.int .i64 1))/\w'=w:=by
 have HH:=qI (ox n w pb db ao c ds us h);rw [hb] at HH;clear hb h
 go_enter Tryz.func68,Tryz.ntmps68
 go_wp2_with fail
 refine HH.out.mono ?_;rintro e w1 ⟨rfl,rfl⟩
 go_wp2
 go_ret;exact ⟨rfl,rfl⟩
theorem AJ (n:Nat) (on:Bool) (w:World) (pb db:Nat) (ao:Option Addr) (c:Nat) (ds:List Dv) (us:Nat->Bool) (h:ap w pb db ao c ds us) (hn:n<ds.length) :
  Calls Tryz.prog 68 #[.pointer (some ⟨pb,0,none⟩),.int .i64 n,.bool on] w λe w'=>e=.returned .nilIface/\w'=w.setCell ⟨db,n*3+2,none⟩ (.bool on):=by
 have HH:=qI (ox n w pb db ao c ds us h);have hb:fD n ds.length=true:=by simp [fD];omega
 rw [hb] at HH;obtain ⟨rfl,_,_⟩:=h.at0 (by omega);have hr:=h.row;obtain ⟨_,_,c2,c3⟩:=h.cells n hn;clear hb h
 go_enter Tryz.func68,Tryz.ntmps68
 go_wp2_with fail
 refine HH.out.mono ?_;rintro e w1 ⟨rfl,rfl⟩
 go_wp2
 go_ret;exact ⟨rfl,rfl⟩
end
end Go.Proofs.YtbmmnflgnmjboaaGreatDoor
namespace Go.Proofs
open Go.Shelf
shelf_lay_g SlLaysE0.n41 Slgn 41 at Tryz 83 as Tryz.cloneL
shelf_lay_g Lays8.n4 Nm8 4 at Tryz 208 as Tryz.growL
shelf_lay Lays.n189 Nm 189 at Tryz as Tryz.sortL9
end Go.Proofs
namespace Go.Proofs.YtbmmnflgnmjboaaGreatDoor
section
open RowKit
open Dvs (Dv dv0 dv nth)
def em (l:List Dv):List Value:=l.flatMap λx=>[.string x.kind,.int .i64 x.node,.bool x.sick]
theorem rU (l:List Dv):(em l).length=l.length*3:=by
 induction l with
 | nil=>rfl
 | cons a r ih=>simp only [em,List.flatMap_cons,Q2,Qg,List.length_nil] at ih ⊢;omega
theorem rV (l:List Dv) (k:Nat) (hk:k<l.length):(em l)[k*3]?=some (.string (dv l k).kind)/\(em l)[k*3+1]?=some (.int .i64 (dv l k).node)/\(em l)[k*3+2]?=some (.bool (dv l k).sick):=by
 induction l generalizing k with
 | nil=>simp at hk
 | cons a r ih=>
  cases k with
  | zero=>simp [em,dv]
  | succ k=>
   have:=ih k (by simpa using hk)
   have e:em (a :: r)=[.string a.kind,.int .i64 a.node,.bool a.sick]++em r:=rfl;have e2:dv (a :: r) (k+1)=dv r k:=by simp [dv]
   rw [e,e2,show (k+1)*3=k*3+3 by omega]
   simpa using this
theorem AK {w:World} {b o:Nat} {l:List Dv} (h:∀ k,k<l.length->w.cell? ⟨b,o+k*3,none⟩=some (.string (dv l k).kind)/\w.cell? ⟨b,o+k*3+1,none⟩=some (.int .i64 (dv l k).node)/\w.cell? ⟨b,o+k*3+2,none⟩=some (.bool (dv l k).sick)) (j:Nat) (u:Value) (hj:(em l)[j]?=some u):w.cell? ((⟨b,o,none⟩:Addr).add j)=some u:=by
 have hlt:j<l.length*3:=by rw [<- rU];exact (List.getElem?_eq_some_iff.1 hj).1
 obtain ⟨h0,h1,h2⟩:=h (j / 3) (by omega);obtain ⟨c0,c1,c2⟩:=rV l (j / 3) (by omega);rw [Addr.add_lit]
 have:j=j / 3*3\/j=j / 3*3+1\/j=j / 3*3+2:=by omega
 rcases this with e|e|e
 ·rw [<- e] at c0 h0;rw [h0,<- c0,hj]
 ·rw [<- e] at c1;rw [Nat.add_assoc,<- e] at h1;rw [h1,<- c1,hj]
 ·rw [<- e] at c2;rw [Nat.add_assoc,<- e] at h2;rw [h2,<- c2,hj]
theorem AL (l:List Dv):∀ u∈em l,u.oneCell'=true:=by
 intro u hu;simp only [em,List.mem_flatMap] at hu;obtain ⟨x,_,hx⟩:=hu
 simp at hx
 rcases hx with rfl|rfl|rfl <;> rfl
theorem AM:(Tryz.prog.info? 87).map (λi=>(i.zero,i.size,i.bytes))=some (some (.agg #[.string ByteArray.empty,.int .i64 0,.bool false]),3,32):=by kernel_rfl
theorem AN (ao:Option Addr) (n c:Nat) (w:World):Sem.run Tryz.prog (binOp BinOp.eql 25 (.slice ao n c) (.slice none 0 0)) w=.ok (.bool ao.isNone) w:=Lib.run_eql_slice_nil w _ _ ao n c 0 0 Tryz.underlying25
def fX (B:Nat) (w:World) (v:Value) (ds:List Dv):Prop:=
 ∃ ao c g,v=.slice ao ds.length c/\(0<ds.length->ao=some ⟨g,0,none⟩/\B<=g/\g<w.heap.size)/\
  ∀ k,k<ds.length->w.cell? ⟨g,k*3,none⟩=some (.string (dv ds k).kind)/\w.cell? ⟨g,k*3+1,none⟩=some (.int .i64 (dv ds k).node)/\w.cell? ⟨g,k*3+2,none⟩=some (.bool (dv ds k).sick)/\w.frozen? ⟨g,k*3+2,none⟩=false
theorem fX.of_own {B:Nat} {w:World} {v:Value} {ds:List Dv} (h:w.ownsRow B 87 3 v ds.length (em ds)):fX B w v ds:=by
 rcases h.2 with ⟨rfl,h1⟩|⟨g,cap,cur,rfl,hg,hgc,_⟩
 ·exact ⟨none,0,0,by rw [h1],λh0=>by omega,λk hk=>by omega⟩
 ·refine ⟨_,cap,g,rfl,λ_=>⟨rfl,hg,(gS hgc).1⟩,λk hk=>?_⟩;obtain ⟨c0,c1,c2⟩:=rV ds k hk;refine ⟨?_,?_,?_,by simp [World.frozen?,hgc]⟩
  ·rw [h.cellAt (k*3) (by omega)];exact c0
  ·rw [h.cellAt (k*3+1) (by omega)];exact c1
  ·rw [h.cellAt (k*3+2) (by omega)];exact c2
theorem rW (a:Addr) (c:Nat) (l:List Dv) (w:World) (hc:∀ j u,(em l)[j]?=some u->w.cell? (a.add j)=some u) (hl:l.length<=16) :
  Calls Tryz.prog 83 #[.slice (some a) l.length c] w λe w'=>∃ v,e=.returned v/\fX w.heap.size w' v l/\Below w.heap.size w w':=by
 obtain ⟨i0,hi,hz0,hz1,hz2⟩:=info_parts AM;have HB:=qI ((Q0 w.heap.size w).alloc (lR) (.cells #[] 87));have HC:Hid (∀ j u,(em l)[j]?=some u->(w.alloc (.cells #[] 87)).cell? (a.add j)=some u):=λj u hj=>Lib.cell?_alloc_some _ (hc j u hj)
 have hnil:=AN (some a) l.length c w;clear hc
 go_enter Tryz.func83,Tryz.ntmps83
 go_wp2_with (at_builtin;(refine wpList_append_own _ rfl _ _ 25 rfl w.heap.size 87 i0 (.agg #[.string ByteArray.empty,.int .i64 0,.bool false]) 3 32 Tryz.underlying25 hi hz0 hz1 hz2 rfl (by decide) _ _ _ rfl (World.ownsRow_lit w #[] 0 (lR) (Nat.zero_le _) rfl) a l.length c (em l) rfl (rU l) HC.out (AL l) (by unfold maxLen;omega) (by omega) (by simp) ?_);intro v' w1 hown' hgrow' _)
 have hB1:=qI (HB.out.grown hgrow' (by simp) (λj hj=>by cases hj;exact lR));rw [Qd] at hown';have hD:Hid (fX w.heap.size w1 v' l):=fX.of_own (by simpa using hown');clear hown' hgrow'
 go_wp2
 go_ret;exact ⟨_,rfl,hD.out,hB1.out⟩
theorem rX (v:Value) (b o:Nat) (l:List Dv) (w:World) (hv:bS w v b o l) (hl:l.length<=16) :
  Calls Tryz.prog 83 #[v] w λe w'=>∃ v,e=.returned v/\fX w.heap.size w' v l/\Below w.heap.size w w':=by
 obtain ⟨ao,c,rfl,hc⟩:=hv
 by_cases h0:0<l.length
 ·obtain ⟨rfl,hlt,hcs⟩:=hc h0;exact rW ⟨b,o,none⟩ c l w (AK hcs) hl
 ·have hl0:l=[]:=Qe (by omega);subst hl0
  rcases ao with _|a
  ·refine (AnyE.slices_Clone_nil Tryz.cloneL 0 c w).mono ?_;rintro e w' ⟨rfl,rfl⟩;exact ⟨_,rfl,⟨none,0,0,rfl,λh=>by simp at h,λk hk=>by simp at hk⟩,Q0 _ _⟩
  ·exact rW a c [] w (λj u hj=>by simp [em] at hj) (by simp)
end
section
open RowKit
open Dvs (Dv dv0 dv nth fault eG first aS)
def mg (w:World) (ds:List Dv) (p:Value) (w':World):Prop:=
 ∃ pb db ao c,p=.pointer (some ⟨pb,0,none⟩)/\ap w' pb db ao c ds (λ_=>false)/\w.heap.size<=pb/\(0<ds.length->w.heap.size<=db)
theorem AO {ds:List Dv} (h:ds.length<=16):fault ds=first (eG ds) ds.length:=by rw [fault,if_neg (by omega)]
theorem AP {ds:List Dv} {k:Nat} (h:aS (dv ds k).kind=false):eG ds k=3:=by rw [eG,if_pos h]
theorem AQ {ds:List Dv} {k:Nat} (h:aS (dv ds k).kind=true) (h2:(dv ds k).node<0\/3<(dv ds k).node):eG ds k=1:=by rw [eG,if_neg (by rw [h];simp),if_pos h2]
theorem AR {ds:List Dv} {k:Nat} (h:aS (dv ds k).kind=true) (h2:0<=(dv ds k).node) (h3:(dv ds k).node<=3):eG ds k=0:=by rw [eG,if_neg (by rw [h];simp),if_neg (by omega)]
theorem ap.made {B:Nat} {w:World} {v:Value} {ds:List Dv} (h:fX B w v ds) (t:TypeId):∃ db ao c,ap (w.alloc (.cells #[v,.bool false,.bool false,.bool false,.bool false,.bool false,.bool false,.bool false,.bool false,.bool false,.bool false,.bool false,.bool false,.bool false,.bool false,.bool false,.bool false] t)) w.heap.size db ao c ds (λ_=>false)/\(0<ds.length->B<=db):=by
 obtain ⟨ao,c,g,rfl,h0,hc⟩:=h;refine ⟨g,ao,c,⟨by simp,λhp=>⟨(h0 hp).1,Nat.ne_of_lt (h0 hp).2.2,by have:=(h0 hp).2.2;simp;omega⟩,λk hk=>?_,λj hj=>?_⟩,λhp=>(h0 hp).2.1⟩
 ·have hlt:=(h0 (by omega)).2.2;obtain ⟨c0,c1,c2,c3⟩:=hc k hk;have hb:=(Q0 w.heap.size w).alloc (lR) (.cells #[.slice ao ds.length c,.bool false,.bool false,.bool false,.bool false,.bool false,.bool false,.bool false,.bool false,.bool false,.bool false,.bool false,.bool false,.bool false,.bool false,.bool false,.bool false] t);exact ⟨(hb.cell (p:=⟨g,k*3,none⟩) hlt).trans c0,(hb.cell (p:=⟨g,k*3+1,none⟩) hlt).trans c1,(hb.cell (p:=⟨g,k*3+2,none⟩) hlt).trans c2,(hb.frozen (p:=⟨g,k*3+2,none⟩) hlt).trans c3⟩
 ·have:j=0\/j=1\/j=2\/j=3\/j=4\/j=5\/j=6\/j=7\/j=8\/j=9\/j=10\/j=11\/j=12\/j=13\/j=14\/j=15:=by omega
  rcases this with rfl|rfl|rfl|rfl|rfl|rfl|rfl|rfl|rfl|rfl|rfl|rfl|rfl|rfl|rfl|rfl <;> exact ⟨by simp,by simp⟩
theorem mg.of {w w1:World} {v:Value} {ds:List Dv} {B:Nat} (h:fX B w1 v ds) (hB:w.heap.size<=B) (hs:w.heap.size<=w1.heap.size) (t:TypeId):mg w ds (.pointer (some ⟨w1.heap.size,0,none⟩)) (w1.alloc (.cells #[v,.bool false,.bool false,.bool false,.bool false,.bool false,.bool false,.bool false,.bool false,.bool false,.bool false,.bool false,.bool false,.bool false,.bool false,.bool false,.bool false] t)):=by
 obtain ⟨db,ao,c,hp,hdb⟩:=ap.made h t;exact ⟨_,db,ao,c,rfl,hp,hs,λh0=>Q5 hB (hdb h0)⟩
theorem AS (ao:Option Addr) (n c:Nat) (w:World) (h:16<n):Calls Tryz.prog 66 #[.slice ao n c] w λe w'=>e=.returned (.tuple #[.pointer none,.iface 121 (.int .i64 2)])/\w'=w:=by
 go_enter Tryz.func66,Tryz.ntmps66
 go_wp2
 go_ret2;exact ⟨rfl,rfl⟩
def jo (w:World) (ds:List Dv) (bad:Nat->Value) (e:Ending) (w':World):Prop:=
 (fault ds=0->∃ p,e=.returned (.tuple #[p,bad 0])/\mg w ds p w')/\(fault ds≠0->e=.returned (.tuple #[.pointer none,bad (fault ds)]))/\Below w.heap.size w w'
theorem jo.wrong {w w':World} {ds:List Dv} {bad:Nat->Value} {n:Nat} {e:Ending} (hf:fault ds=n) (hn:n≠0) (he:e=.returned (.tuple #[.pointer none,bad n])) (hb:Below w.heap.size w w'):jo w ds bad e w':=
 ⟨λh=>by omega,λ_=>by rw [hf,he],hb⟩
theorem AT (ao:Option Addr) (c b o:Nat) (ds:List Dv) (w:World) (hd:bS w (.slice ao ds.length c) b o ds) (h:ds.length<=16):Calls Tryz.prog 66 #[.slice ao ds.length c] w λe w'=>jo w ds (λn=>ak n) e w':=by
 have HD:=qI hd;have HF:=qI (AO h);clear hd
 go_enter Tryz.func66,Tryz.ntmps66
 go_wp2
 go_loopw [12] (λi wr=>∃ k:Nat,k<=ds.length/\i=.int .i64 k/\Hid (first (eG ds) k=0)/\Below w.heap.size w wr) (λi _=>ds.length - (intOf i).toNat)
 case atStart=>exact ⟨0,by omega,rfl,rfl,Q0 _ _⟩
 case round=>
  obtain ⟨k,hk,rfl,HK,hB⟩:=hrel
  by_cases hlt:k<ds.length
  ·obtain ⟨ao',c',hv,hcs⟩:=HD.out.below hB;obtain ⟨rfl,hlb,hcs⟩:=hcs (by omega);cases hv;obtain ⟨c0,c1,c2⟩:=hcs k hlt;have HN1:=qI (λhh=>AP (ds:=ds) (k:=k) hh);have HN2:=qI (λhh h2=>AQ (ds:=ds) (k:=k) hh h2);have HN3:=qI (λhh h2 h3=>AR (ds:=ds) (k:=k) hh h2 h3);have HW:=qI (λn hn=>(HF.out.trans (Dvs.ij (n:=ds.length) HK.out (by rw [hn];simp) hlt)).trans (hn:eG ds k=n+1));clear hcs;generalize dv ds k=x at *;have hB1:=hB.alloc hB.size (.cells #[.string x.kind,.int .i64 x.node,.bool x.sick] 87)
   rcases two (aS x.kind) with hn|hn
   ·have key:(x.node<0\/(0<=x.node/\4<=x.node))\/(0<=x.node/\x.node<4):=by omega
    rcases key with hx|⟨h1,h2⟩
    ·have HE:=qI (HW.out 0 (HN2.out hn (by omega)));clear HN1 HN2 HN3 HW
     rcases hx with h1|⟨h1,h2⟩
     all_goals
      go_wp2_with fail
      refine (fj _ _).mono ?_;rintro e w1 ⟨rfl,rfl⟩;rw [hn]
      go_wp2
      go_ret2;exact jo.wrong HE.out (by decide) rfl hB1
    ·have HE:Hid (first (eG ds) (k+1)=0):=Dvs.iM HK.out (HN3.out hn (by omega) (by omega));clear HN1 HN2 HN3 HW
     go_wp2_with fail
     refine (fj _ _).mono ?_;rintro e w1 ⟨rfl,rfl⟩;rw [hn]
     go_wp2
     go_roundw
     case rel=>exact ⟨k+1,by omega,by go_num,HE,hB1⟩
     case measure=>simp [intOf];omega
   ·have HE:=qI (HW.out 2 (HN1.out hn));clear HN1 HN2 HN3 HW
    go_wp2_with fail
    refine (fj _ _).mono ?_;rintro e w1 ⟨rfl,rfl⟩;rw [hn]
    go_wp2
    go_ret2;exact jo.wrong HE.out (by decide) rfl hB1
  ·have hke:k=ds.length:=by omega
   have HE:Hid (fault ds=0):=by rw [<- hke] at HF;exact HF.out.trans HK.out
   have HD2:=qI (HD.out.below hB);clear hke HK
   go_wp2_with fail
   refine (rX _ b o ds _ HD2.out h).mono ?_;rintro e w1 ⟨v,rfl,hv,hb⟩;have hB1:=hB.trans (hb.mono hB.size);have HNP:=qI (mg.of (w:=w) hv hB.size hB1.size 177);have hB2:=qI (hB1.alloc hB1.size (.cells #[v,.bool false,.bool false,.bool false,.bool false,.bool false,.bool false,.bool false,.bool false,.bool false,.bool false,.bool false,.bool false,.bool false,.bool false,.bool false,.bool false] 177));obtain ⟨ao2,c2,g2,rfl,_,_⟩:=hv;clear hb hB1
   go_wp2
   go_ret2;exact ⟨λ_=>⟨_,rfl,HNP.out⟩,λhh=>absurd HE.out hh,hB2.out⟩
theorem rY (v:Value) (b o:Nat) (ds:List Dv) (w:World) (hd:bS w v b o ds):Calls Tryz.prog 66 #[v] w λe w'=>jo w ds (λn=>ak n) e w':=by
 have hd':=hd;obtain ⟨ao,c,rfl,_⟩:=hd
 by_cases h:ds.length<=16
 ·exact AT ao c b o ds w hd' h
 ·refine (AS ao ds.length c w (by omega)).mono ?_;rintro e w' ⟨rfl,rfl⟩;exact jo.wrong (n:=2) (by rw [fault,if_pos (by omega)]) (by decide) rfl (Q0 _ _)
end
section
open RowKit
open Dvs (Dv dv0 dv nth cn fits bD aT)
def di (w:World) (T:Nat) (f:Nat->Nat):Prop:=∀ j,j<4->w.cell? ⟨T,j,none⟩=some (.int .i64 (f j:Nat))/\w.frozen? ⟨T,j,none⟩=false
theorem di.lt {w:World} {T:Nat} {f:Nat->Nat} (h:di w T f):T<w.heap.size:=Q3 w _ (h 0 (by decide)).1
theorem di.kept {w w':World} {T:Nat} {f:Nat->Nat} {g:Option Nat} (h:di w T f) (hg:w.grownBy w' g) (hne:some T≠g):di w' T f:=λj hj=>
 ⟨(hg.cell_far _ h.lt hne).trans (h j hj).1,(hg.frozen_far _ h.lt hne).trans (h j hj).2⟩
theorem di.below {w w':World} {T:Nat} {f:Nat->Nat} (h:di w T f) (hb:Below w.heap.size w w'):di w' T f:=h.kept (dF hb none) (by simp)
theorem di.alloc {w:World} {T:Nat} {f:Nat->Nat} (h:di w T f) (o:Obj):di (w.alloc o) T f:=h.below ((Q0 _ w).alloc (lR) o)
theorem di.made (w:World) (t:TypeId) (f:Nat->Nat) (hf:∀ j,f j=0):di (w.alloc (.cells #[.int .i64 0,.int .i64 0,.int .i64 0,.int .i64 0] t)) w.heap.size f:=by
 intro j hj;rw [hf j]
 have:j=0\/j=1\/j=2\/j=3:=by omega
 rcases this with rfl|rfl|rfl|rfl <;> exact ⟨by simp,by simp⟩
theorem di.set {w:World} {T:Nat} {f g:Nat->Nat} (h:di w T f) {m:Nat} (hm:m<4) {n:Int} (hn:n=(f m:Nat)+1) (hg:∀ j,g j=f j+if j=m then 1 else 0):di (w.setCell ⟨T,m,none⟩ (.int .i64 n)) T g:=by
 subst hn;intro j hj;obtain ⟨c,z⟩:=h j hj;obtain ⟨cm,_⟩:=h m hm;refine ⟨?_,(World.frozen?_setCell ..).trans z⟩;rw [hg j]
 by_cases e:j=m
 ·subst e;rw [if_pos rfl];have e2:(((f j+1:Nat)):Int)=((f j:Nat):Int)+1:=by omega
  rw [e2];clear c hg e2;go_simp
 ·rw [if_neg e,Nat.add_zero];have hne:(⟨T,m,none⟩:Addr)≠⟨T,j,none⟩:=by intro h;cases h;exact e rfl
  rw [World.cell?_setCell_other (h:=hne)];exact c
theorem rZ {a b:ByteArray} (h:¬ a=b):¬ a.toList=b.toList:=by
 rw [Qs,Qs];exact λe=>h (Go.WideShapes.bytes_inj e)
theorem r9 (p:Nat->Bool) (ds:List Dv) (x:Nat):cn p ds x 0=0:=rfl
def oy (f:Nat->Nat):Value:=.agg #[.int .i64 (f 0:Nat),.int .i64 (f 1:Nat),.int .i64 (f 2:Nat),.int .i64 (f 3:Nat)]
structure er (w wr:World) (pb db:Nat) (ao:Option Addr) (c:Nat) (ds:List Dv) (us:Nat->Bool) (kind:ByteArray) (F A k:Nat):Prop where
 pool:ap wr pb db ao c ds us
 free:di wr F (λx=>cn (fits ds us kind) ds x k)
 all:di wr A (λx=>cn (bD ds kind) ds x k)
 below:Below w.heap.size w wr
theorem er.alloc {w wr:World} {pb db:Nat} {ao:Option Addr} {c:Nat} {ds:List Dv} {us:Nat->Bool} {kind:ByteArray} {F A k:Nat} (h:er w wr pb db ao c ds us kind F A k) (o:Obj):er w (wr.alloc o) pb db ao c ds us kind F A k:=
 ⟨h.pool.alloc o,h.free.alloc o,h.all.alloc o,h.below.alloc h.below.size o⟩
theorem er.mid {w wr:World} {pb db:Nat} {ao:Option Addr} {c:Nat} {ds:List Dv} {us:Nat->Bool} {kind:ByteArray} {F A k m D:Nat} {n z:Int} (h:er w wr pb db ao c ds us kind F A k) (hk:k<16) (hm:m<4) (hD:wr.cell? ⟨D,1,none⟩=some (.int .i64 z)) (hFA:F≠A) (hpA:pb≠A) (hDA:D≠A) :
  (wr.setCell ⟨A,m,none⟩ (.int .i64 n)).cell? ⟨pb,1+k,none⟩=some (.bool (us k))/\(wr.setCell ⟨A,m,none⟩ (.int .i64 n)).cell? ⟨F,m,none⟩=some (.int .i64 (cn (fits ds us kind) ds m k:Nat))/\(wr.setCell ⟨A,m,none⟩ (.int .i64 n)).frozen? ⟨F,m,none⟩=false/\(wr.setCell ⟨A,m,none⟩ (.int .i64 n)).cell? ⟨D,1,none⟩=some (.int .i64 z):=by
 have hg:=bL wr ⟨A,m,none⟩ (.int .i64 n);exact ⟨(hg.cell_far _ h.pool.lt (by simpa using hpA)).trans (h.pool.used k hk).1,(hg.cell_far _ h.free.lt (by simpa using hFA)).trans (h.free m hm).1,(hg.frozen_far _ h.free.lt (by simpa using hFA)).trans (h.free m hm).2,(hg.cell_far _ (Q3 _ _ hD) (by simpa using hDA)).trans hD⟩
theorem er.no {w wr:World} {pb db:Nat} {ao:Option Addr} {c:Nat} {ds:List Dv} {us:Nat->Bool} {kind:ByteArray} {F A k:Nat} (h:er w wr pb db ao c ds us kind F A k) (hk:bD ds kind k=false):er w wr pb db ao c ds us kind F A (k+1):=by
 refine ⟨h.pool,?_,?_,h.below⟩
 ·have:(λx=>cn (fits ds us kind) ds x (k+1))=λx=>cn (fits ds us kind) ds x k:=by funext x;exact Dvs.om (by rw [Dvs.ot,hk];rfl) x
  rw [this];exact h.free
 ·have:(λx=>cn (bD ds kind) ds x (k+1))=λx=>cn (bD ds kind) ds x k:=by funext x;exact Dvs.om hk x
  rw [this];exact h.all
theorem er.one {w wr:World} {pb db:Nat} {ao:Option Addr} {c:Nat} {ds:List Dv} {us:Nat->Bool} {kind:ByteArray} {F A k m:Nat} {n:Int} (h:er w wr pb db ao c ds us kind F A k) (hk:bD ds kind k=true) (hu:us k=true) (hm:m<4) (hx:(dv ds k).node=(m:Int)) (hA:w.heap.size<=A) (hFA:F≠A) (hp:pb<w.heap.size) (hd:0<ds.length->db<w.heap.size) (hn:n=(cn (bD ds kind) ds m k:Nat)+1) :
  er w (wr.setCell ⟨A,m,none⟩ (.int .i64 n)) pb db ao c ds us kind F A (k+1):=by
 have hg:=bL wr ⟨A,m,none⟩ (.int .i64 n);refine ⟨h.pool.kept hg (by simp;omega) (λh0=>by have:=hd h0;simp;omega),?_,?_,h.below.setCell hA _⟩
 ·have:(λx=>cn (fits ds us kind) ds x (k+1))=λx=>cn (fits ds us kind) ds x k:=by funext x;exact Dvs.om (by rw [Dvs.ot,hk,hu];rfl) x
  rw [this];exact h.free.kept hg (by simpa using hFA)
 ·refine h.all.set hm hn (λj=>?_);rw [Dvs.oq hk (by omega)]
  congr 2
  have:(dv ds k).node.toNat=m:=by omega
  rw [this]
theorem er.both {w wr:World} {pb db:Nat} {ao:Option Addr} {c:Nat} {ds:List Dv} {us:Nat->Bool} {kind:ByteArray} {F A k m:Nat} {n n2:Int} (h:er w wr pb db ao c ds us kind F A k) (hk:bD ds kind k=true) (hu:us k=false) (hm:m<4) (hx:(dv ds k).node=(m:Int)) (hF:w.heap.size<=F) (hA:w.heap.size<=A) (hFA:F≠A) (hp:pb<w.heap.size) (hd:0<ds.length->db<w.heap.size) (hn:n=(cn (bD ds kind) ds m k:Nat)+1) (hn2:n2=(cn (fits ds us kind) ds m k:Nat)+1) :
  er w ((wr.setCell ⟨A,m,none⟩ (.int .i64 n)).setCell ⟨F,m,none⟩ (.int .i64 n2)) pb db ao c ds us kind F A (k+1):=by
 have hg:=bL wr ⟨A,m,none⟩ (.int .i64 n);have hg2:=bL (wr.setCell ⟨A,m,none⟩ (.int .i64 n)) ⟨F,m,none⟩ (.int .i64 n2);refine ⟨(h.pool.kept hg (by simp;omega) (λh0=>by have:=hd h0;simp;omega)).kept hg2 (by simp;omega) (λh0=>by have:=hd h0;simp;omega),?_,?_,(h.below.setCell hA _).setCell hF _⟩
 ·refine (h.free.kept hg (by simpa using hFA)).set hm hn2 (λj=>?_);rw [Dvs.oq (by rw [Dvs.ot,hk,hu];rfl) (by omega)]
  congr 2
  have:(dv ds k).node.toNat=m:=by omega
  rw [this]
 ·refine (h.all.set hm hn (λj=>?_)).kept hg2 (by simpa using λe=>hFA e.symm);rw [Dvs.oq hk (by omega)]
  congr 2
  have:(dv ds k).node.toNat=m:=by omega
  rw [this]
theorem AU {fn:Func} {p q:Tmp} {ty:TypeId} (h:fn.results=#[.cell p ty,.cell q ty]) (tmps:Array Value) (P:Program) (w:World) :
  (results fn tmps).run P w =
   ((asAddr (tmps.getD p undef)).run P w).andThen λa w₁=>((loadVar ty a).run P w₁).andThen λv w₂=>((asAddr (tmps.getD q undef)).run P w₂).andThen λb w₃=>((loadVar ty b).run P w₃).andThen λu w₄=>.ok (.tuple #[v,u]) w₄:=by
 simp only [results,h]
 simp [Sem.run_bind,Result.andThen]
theorem sd {B:Nat} {a w:World} (h:Below B a w):Below B a w.drew:=⟨h.os,h.tape,h.output,h.size,h.block⟩
theorem AV (kind:ByteArray) (w:World) (pb db:Nat) (ao:Option Addr) (c:Nat) (ds:List Dv) (us:Nat->Bool) (h:ap w pb db ao c ds us) (hN:aT ds) :
  Calls Tryz.prog 163 #[.pointer (some ⟨pb,0,none⟩),.string kind] w λe w'=>e=.returned (.tuple #[oy (λx=>cn (fits ds us kind) ds x ds.length),oy (λx=>cn (bD ds kind) ds x ds.length)])/\Below w.heap.size w w':=by
 have hp:=h.lt;have hd:0<ds.length->db<w.heap.size:=λh0=>(h.at0 h0).2.2
 have HC0:Hid (er w ((w.alloc (.cells #[.int .i64 0,.int .i64 0,.int .i64 0,.int .i64 0] 214)).alloc (.cells #[.int .i64 0,.int .i64 0,.int .i64 0,.int .i64 0] 214)) pb db ao c ds us kind w.heap.size (w.heap.size+1) 0):=
  ⟨(h.alloc _).alloc _,(di.made w _ _ (λj=>r9 _ _ _)).alloc _,by have:=di.made (w.alloc (.cells #[.int .i64 0,.int .i64 0,.int .i64 0,.int .i64 0] 214)) 214 (λx=>cn (bD ds kind) ds x 0) (λj=>r9 _ _ _);simpa using this,((Q0 w.heap.size w).alloc (lR) _).alloc (by simp) _⟩
 have hrow:=HC0.out.pool.row;have HN:=qI hN;have HP:=qI (And.intro hp hd);clear h hp hd
 go_enter Tryz.func163,Tryz.ntmps163
 go_wp2
 go_loopw [13] (λi wr=>∃ k:Nat,k<=ds.length/\i=.int .i64 k/\er w wr pb db ao c ds us kind w.heap.size (w.heap.size+1) k) (λi _=>ds.length - (intOf i).toNat)
 case atStart=>exact ⟨0,by omega,rfl,HC0.out⟩
 case round=>
  obtain ⟨k,hk,rfl,hC⟩:=hrel
  by_cases hlt:k<ds.length
  ·have hk16:k<16:=by have:=HN.out.1;omega
   obtain ⟨rfl,hdp,_⟩:=hC.pool.at0 (by omega);obtain ⟨c0,c1,c2,_⟩:=hC.pool.cells k hlt;obtain ⟨n0,n3⟩:=HN.out.2 k hlt;obtain ⟨m,hm⟩:=Int.eq_ofNat_of_zero_le n0;have hm4:m<4:=by omega
   have hC1:=qI (hC.alloc (.cells #[.string (dv ds k).kind,.int .i64 (dv ds k).node,.bool (dv ds k).sick] 87));have HNo:=qI (λhh=>hC1.out.no hh);have HOne:=qI (λhh hu n hn=>hC1.out.one (m:=m) (n:=n) hh hu hm4 hm (Nat.le_succ _) (by omega) HP.out.1 HP.out.2 hn);have HBoth:=qI (λhh hu n n2 hn hn2=>hC1.out.both (m:=m) (n:=n) (n2:=n2) hh hu hm4 hm (lR) (Nat.le_succ _) (by omega) HP.out.1 HP.out.2 hn hn2);have hKP:bD ds kind k=(decide ((dv ds k).kind=kind) && !(dv ds k).sick):=rfl;have hu:=(hC1.out.pool.used k hk16).1;have hf:_=some (Value.int .i64 (cn (fits ds us kind) ds m k:Nat)):=(hC1.out.free m hm4).1;have ha:_=some (Value.int .i64 (cn (bD ds kind) ds m k:Nat)):=(hC1.out.all m hm4).1;have haz:=(hC1.out.all m hm4).2;have hM:=qI (hC1.out.mid (m:=m) (D:=wr.heap.size) (z:=(dv ds k).node) (n:=(cn (bD ds kind) ds m k:Nat)+1) hk16 hm4 (by simp) (by omega) (by have:=HP.out.1;omega) (show wr.heap.size≠w.heap.size+1 by have:=hC.all.lt;omega));have qf:=Dvs.rK (fits ds us kind) ds m k;have qa:=Dvs.rK (bD ds kind) ds m k;clear hC;rw [hm] at c1 hC1 HNo HOne HBoth hu hf ha haz hM;generalize cn (fits ds us kind) ds m k=nf at *;generalize cn (bD ds kind) ds m k=na at *;generalize (dv ds k).kind=xk at *;generalize (dv ds k).sick=xs at *
   by_cases hkk:xk=kind
   ·subst hkk
    rcases two xs with hs|hs
    ·subst hs;have HE:=HNo.out (by rw [hKP];simp);clear HNo HOne HBoth hKP
     go_wp2
     go_roundw
     case rel=>exact ⟨k+1,by omega,by go_num,HE⟩
     case measure=>simp [intOf];omega
    ·subst hs;have hkp:bD ds xk k=true:=by rw [hKP];simp
     rcases two (us k) with hus|hus
     ·have HE:=qI (λn hn=>HOne.out hkp hus n hn);obtain ⟨e1,e2,e3,e4⟩:=hM.out;rw [hus] at e1;clear HNo HOne HBoth hKP hkp hus hu hM
      go_wp2
      go_roundw
      case rel=>exact ⟨k+1,by omega,by go_num,HE.out _ (by go_num)⟩
      case measure=>simp [intOf];omega
     ·have HE:=qI (λn n2 hn hn2=>HBoth.out hkp hus n n2 hn hn2);obtain ⟨e1,e2,e3,e4⟩:=hM.out;rw [hus] at e1;clear HNo HOne HBoth hKP hkp hus hu hM
      go_wp2
      go_roundw
      case rel=>exact ⟨k+1,by omega,by go_num,HE.out _ _ (by go_num) (by go_num)⟩
      case measure=>simp [intOf];omega
   ·have HE:=HNo.out (by rw [hKP,Q7 hkk];rfl);have hkk2:=rZ hkk;clear hkk HNo HOne HBoth hKP
    go_wp2
    go_roundw
    case rel=>exact ⟨k+1,by omega,by go_num,HE⟩
    case measure=>simp [intOf];omega
  ·have hke:k=ds.length:=by omega
   subst hke;have f0:_=some (Value.int .i64 (cn (fits ds us kind) ds 0 ds.length:Nat)):=(hC.free 0 (by decide)).1;have f1:_=some (Value.int .i64 (cn (fits ds us kind) ds 1 ds.length:Nat)):=(hC.free 1 (by decide)).1;have f2:_=some (Value.int .i64 (cn (fits ds us kind) ds 2 ds.length:Nat)):=(hC.free 2 (by decide)).1;have f3:_=some (Value.int .i64 (cn (fits ds us kind) ds 3 ds.length:Nat)):=(hC.free 3 (by decide)).1;have a0:_=some (Value.int .i64 (cn (bD ds kind) ds 0 ds.length:Nat)):=(hC.all 0 (by decide)).1;have a1:_=some (Value.int .i64 (cn (bD ds kind) ds 1 ds.length:Nat)):=(hC.all 1 (by decide)).1;have a2:_=some (Value.int .i64 (cn (bD ds kind) ds 2 ds.length:Nat)):=(hC.all 2 (by decide)).1;have a3:_=some (Value.int .i64 (cn (bD ds kind) ds 3 ds.length:Nat)):=(hC.all 3 (by decide)).1;have z0:=(hC.free 0 (by decide)).2;have z1:=(hC.free 1 (by decide)).2;have z2:=(hC.free 2 (by decide)).2;have z3:=(hC.free 3 (by decide)).2;have y0:=(hC.all 0 (by decide)).2;have y1:=(hC.all 1 (by decide)).2;have y2:=(hC.all 2 (by decide)).2;have y3:=(hC.all 3 (by decide)).2;have hB:=qI hC.below;clear hC HC0 HN HP hN hrow;obtain ⟨n0,en0⟩:∃ x,cn (fits ds us kind) ds 0 ds.length=x:=⟨_,rfl⟩;rw [en0] at f0;obtain ⟨n1,en1⟩:∃ x,cn (fits ds us kind) ds 1 ds.length=x:=⟨_,rfl⟩;rw [en1] at f1;obtain ⟨n2,en2⟩:∃ x,cn (fits ds us kind) ds 2 ds.length=x:=⟨_,rfl⟩;rw [en2] at f2;obtain ⟨n3,en3⟩:∃ x,cn (fits ds us kind) ds 3 ds.length=x:=⟨_,rfl⟩;rw [en3] at f3;obtain ⟨m0,em0⟩:∃ x,cn (bD ds kind) ds 0 ds.length=x:=⟨_,rfl⟩;rw [em0] at a0;obtain ⟨m1,em1⟩:∃ x,cn (bD ds kind) ds 1 ds.length=x:=⟨_,rfl⟩;rw [em1] at a1;obtain ⟨m2,em2⟩:∃ x,cn (bD ds kind) ds 2 ds.length=x:=⟨_,rfl⟩;rw [em2] at a2;obtain ⟨m3,em3⟩:∃ x,cn (bD ds kind) ds 3 ds.length=x:=⟨_,rfl⟩;rw [em3] at a3;have HE:=qI (And.intro (And.intro en0 (And.intro en1 (And.intro en2 en3))) (And.intro em0 (And.intro em1 (And.intro em2 em3))));clear en0 en1 en2 en3 em0 em1 em2 em3
   go_wp2_with fail
   go_region
   go_wp2_with fail
   refine bodyPost_ret (v:=.tuple #[.agg #[.int .i64 n0,.int .i64 n1,.int .i64 n2,.int .i64 n3],.agg #[.int .i64 m0,.int .i64 m1,.int .i64 m2,.int .i64 m3]]) ?_ rfl ⟨?_,?_⟩
   ·rw [AU rfl];go_simp
   ·obtain ⟨⟨q0,q1,q2,q3⟩,r0,r1,r2,r3⟩:=HE.out;subst q0 q1 q2 q3 r0 r1 r2 r3;rfl
   ·exact sd (((((((((hB.out.setCell (lR) _).setCell (lR) _).setCell (lR) _).setCell (lR) _).setCell (Nat.le_succ _) _).setCell (Nat.le_succ _) _).setCell (Nat.le_succ _) _).setCell (Nat.le_succ _) _))
end
section
open RowKit
open Dvs (Dv dv0 dv nth fits fi cA sel aT)
theorem AW (m n:Nat) (hm:m<256):(bits BinOp.and IntKind.u8 ((m:Int) / 2 ^ n) 1 == 1)=m.testBit n:=by
 have e:((m:Int) / 2 ^ n)=((m / 2 ^ n:Nat):Int):=by simp
 have hlt:m / 2 ^ n<256:=Nat.lt_of_le_of_lt (Nat.div_le_self _ _) hm;rw [e,Nat.testBit_eq_decide_div_mod_eq];generalize m / 2 ^ n=q at hlt;have key:∀ q:Fin 256,(bits BinOp.and IntKind.u8 ((q.val:Nat):Int) 1 == 1)=decide (q.val % 2=1):=by decide +kernel
 exact key ⟨q,hlt⟩
theorem oz:(Tryz.prog.info? 3).map (λi=>(i.zero,i.size,i.bytes))=some (some (.int .i64 0),1,8):=by kernel_rfl
def bG (l:List Nat):List Value:=l.map λ(n:Nat)=>Value.int .i64 (n:Int)
theorem AX (l:List Nat) (n:Nat):bG (l++[n])=bG l++[.int .i64 n]:=by simp [bG]
theorem kF (l:List Nat):(bG l).length=l.length:=by simp [bG]
def ints (l:List Nat):List Int:=l.map λ(n:Nat)=>(n:Int)
theorem kG (l:List Nat):(ints l).length=l.length:=by simp [ints]
def Row (w:World) (B:Nat) (v:Value) (l:List Nat):Prop:=w.ownsRow B 3 1 v l.length (bG l)
theorem AY {ds:List Dv} {us:Nat->Bool} {kind:ByteArray} {k:Nat} (h:¬ (dv ds k).kind=kind):fits ds us kind k=false:=by rw [fits,Q7 h];rfl
theorem AZ {ds:List Dv} {us:Nat->Bool} {kind:ByteArray} {k:Nat} (h:(dv ds k).sick=true):fits ds us kind k=false:=by rw [fits,h];simp
theorem A0 {ds:List Dv} {us:Nat->Bool} {kind:ByteArray} {k:Nat} (h:us k=true):fits ds us kind k=false:=by rw [fits,h];simp
theorem A1 {ds:List Dv} {us:Nat->Bool} {kind:ByteArray} {k:Nat} (h:(dv ds k).kind=kind) (h2:(dv ds k).sick=false) (h3:us k=false):fits ds us kind k=true:=by rw [fits,h2,h3,Qc h];rfl
theorem se {ds:List Dv} {us:Nat->Bool} {kind:ByteArray} {m k:Nat} {b:Bool} (h:fits ds us kind k=true) (hb:fi ds m k=b):cA ds us kind m k=b:=by rw [cA,h,hb];rfl
theorem oA {ds:List Dv} {us:Nat->Bool} {kind:ByteArray} {m k:Nat} (h:fits ds us kind k=false):cA ds us kind m k=false:=by rw [cA,h];rfl
theorem A2 (w:World) (o:Obj) (x:Value) (t:TypeId):∀ j u,[x][j]?=some u->((w.alloc o).alloc (.cells #[x] t)).cell? ((⟨w.heap.size+1,0,none⟩:Addr).add j)=some u:=by
 have h:=cell_one_new (w.alloc o) x t
 rwa [show (w.alloc o).heap.size=w.heap.size+1 by simp] at h
theorem sg (kind:ByteArray) (M:Nat) (w:World) (pb db:Nat) (ao:Option Addr) (c:Nat) (ds:List Dv) (us:Nat->Bool) (h:ap w pb db ao c ds us) (hN:aT ds) (hM:M<256) :
  Calls Tryz.prog 167 #[.pointer (some ⟨pb,0,none⟩),.string kind,.int .u8 M] w λe w'=>∃ v,e=.returned v/\Row w' w.heap.size v (sel (cA ds us kind M) ds.length)/\Below w.heap.size w w':=by
 obtain ⟨i0,hi,hz0,hz1,hz2⟩:=info_parts oz;have hrow:=h.row;have HN:=qI hN;have HP:=qI h;clear h hN
 go_enter Tryz.func167,Tryz.ntmps167
 go_wp2
 go_loopw [7,15] (λv i wr=>∃ k:Nat,k<=ds.length/\i=.int .i64 k/\Row wr w.heap.size v (sel (cA ds us kind M) k)/\ap wr pb db ao c ds us/\Below w.heap.size w wr) (λ_ i _=>ds.length - (intOf i).toNat)
 case atStart=>exact ⟨0,by omega,rfl,Qw _ _ _ _,HP.out,Q0 _ _⟩
 case round=>
  obtain ⟨k,hk,rfl,hr,hP,hB⟩:=hrel
  by_cases hlt:k<ds.length
  ·have hk16:k<16:=by have:=HN.out.1;omega
   obtain ⟨rfl,hdp,_⟩:=hP.at0 (by omega);obtain ⟨c0,c1,c2,_⟩:=hP.cells k hlt;obtain ⟨n0,n3⟩:=HN.out.2 k hlt;obtain ⟨m,hm⟩:=Int.eq_ofNat_of_zero_le n0;have hm4:m<4:=by omega
   have H1:=qI (λhh=>AY (us:=us) (kind:=kind) (k:=k) (ds:=ds) hh);have H2:=qI (λhh=>AZ (us:=us) (kind:=kind) (k:=k) (ds:=ds) hh);have H4:=qI (λh1 h2 h3=>A1 (us:=us) (kind:=kind) (k:=k) (ds:=ds) h1 h2 h3);have HNr:Hid (fi ds M k=M.testBit m):=by unfold Hid fi;rw [hm];rfl
   have hS0:=qI (λhh=>Dvs.fT (p:=cA ds us kind M) (n:=k) hh);have hS1:=qI (λhh=>Dvs.jQ (p:=cA ds us kind M) (n:=k) hh);have hsl:=Dvs.jR (cA ds us kind M) k;rw [hm] at c1;generalize (dv ds k).kind=xk at *;generalize (dv ds k).sick=xs at *;have hB1:=qI (hB.alloc hB.size (.cells #[.string xk,.int .i64 m,.bool xs] 87));have hP1:=qI (hP.alloc (.cells #[.string xk,.int .i64 m,.bool xs] 87));have hr1:=qI (hr.alloc (.cells #[.string xk,.int .i64 m,.bool xs] 87));have hu:=(hP1.out.used k hk16).1;have hsz:=hB.size;clear hr hP hB
   by_cases hkk:xk=kind
   ·subst hkk
    rcases two xs with hs|hs
    ·subst hs;have HS:Hid (sel (cA ds us xk M) (k+1)=_):=hS0.out (oA (H2.out rfl));clear H1 H2 H4 hS0 hS1
     go_wp2
     go_roundw
     case rel=>exact ⟨k+1,by omega,by go_num,by rw [HS.out];exact hr1.out,hP1.out,hB1.out⟩
     case measure=>simp [intOf];omega
    ·subst hs
     rcases two (us k) with hus|hus
     ·have HS:Hid (sel (cA ds us xk M) (k+1)=_):=hS0.out (oA (A0 hus));rw [hus] at hu;clear H1 H2 H4 hS0 hS1 hus
      go_wp2
      go_roundw
      case rel=>exact ⟨k+1,by omega,by go_num,by rw [HS.out];exact hr1.out,hP1.out,hB1.out⟩
      case measure=>simp [intOf];omega
     ·have hft:=H4.out rfl rfl hus;rw [hus] at hu;have hbit:=AW M m hM
      rcases two (M.testBit m) with hb|hb
      ·have HS:Hid (sel (cA ds us xk M) (k+1)=_):=hS1.out (se hft (HNr.out.trans hb));rw [hb] at hbit;clear H1 H2 H4 hS0 hS1 hus hft HNr hb
       go_wp2_with (at_builtin;refine wpList_append_own _ rfl _ _ 44 rfl w.heap.size 3 i0 (.int .i64 0) 1 8 Tryz.underlying44 hi hz0 hz1 hz2 rfl (by decide) _ _ _ rfl (hr1.out.alloc _) ⟨_,0,none⟩ 1 1 [.int .i64 k] rfl rfl (A2 _ _ _ _) (ints_oneCell .i64 [(k:Int)]) (by unfold maxLen;omega) (by omega) (by simp;omega) ?_;intro v' w1 hown' hgrow' _)
       go_roundw
       case rel=>
        refine ⟨k+1,by omega,by go_num,?_,?_,?_⟩
        ·rw [HS.out,Row,AX,Q2];exact hown'
        ·refine (hP1.out.alloc _).kept hgrow' (λe=>?_) (λh0 e=>?_)
         ·have:=(hr1.out.lt pb e.symm).1;have:=HP.out.lt;omega
         ·have:=(hr1.out.lt db e.symm).1;have:=(HP.out.at0 h0).2.2;omega
        ·exact (hB1.out.alloc hB1.out.size _).grown hgrow' (by have:=hB1.out.size;simp at this ⊢;omega) (λj hj=>(hr1.out.lt j hj).1)
       case measure=>simp [intOf];omega
      ·have HS:Hid (sel (cA ds us xk M) (k+1)=_):=hS0.out (se hft (HNr.out.trans hb));rw [hb] at hbit;clear H1 H2 H4 hS0 hS1 hus hft HNr hb
       go_wp2
       go_roundw
       case rel=>exact ⟨k+1,by omega,by go_num,by rw [HS.out];exact hr1.out,hP1.out,hB1.out⟩
       case measure=>simp [intOf];omega
   ·have HS:Hid (sel (cA ds us kind M) (k+1)=_):=hS0.out (oA (H1.out hkk));have hkk2:=rZ hkk;clear H1 H2 H4 hS0 hS1 hkk
    go_wp2
    go_roundw
    case rel=>exact ⟨k+1,by omega,by go_num,by rw [HS.out];exact hr1.out,hP1.out,hB1.out⟩
    case measure=>simp [intOf];omega
  ·have hke:k=ds.length:=by omega
   subst hke;have hr1:=qI hr;have hB1:=qI hB;clear hr hB hP
   go_wp2
   go_ret;exact ⟨_,rfl,hr1.out,hB1.out⟩
end
section
open RowKit
open Dvs (Dv dv0 dv nth first clF gvF bF rH aT)
def iN (u:World) (T:Nat) (f:Nat->Bool):Prop:=∀ j,j<16->u.cell? ⟨T,j,none⟩=some (.bool (f j))/\u.frozen? ⟨T,j,none⟩=false
abbrev kH (f:Nat->Bool):Array Value:=#[.bool (f 0),.bool (f 1),.bool (f 2),.bool (f 3),.bool (f 4),.bool (f 5),.bool (f 6),.bool (f 7),.bool (f 8),.bool (f 9),.bool (f 10),.bool (f 11),.bool (f 12),.bool (f 13),.bool (f 14),.bool (f 15)]
theorem iN.made (u:World) (t:TypeId) (f:Nat->Bool):iN (u.alloc (.cells (kH f) t)) u.heap.size f:=by
 intro j hj
 have:j=0\/j=1\/j=2\/j=3\/j=4\/j=5\/j=6\/j=7\/j=8\/j=9\/j=10\/j=11\/j=12\/j=13\/j=14\/j=15:=by omega
 rcases this with rfl|rfl|rfl|rfl|rfl|rfl|rfl|rfl|rfl|rfl|rfl|rfl|rfl|rfl|rfl|rfl <;> exact ⟨by simp,by simp⟩
theorem iN.set {u:World} {T:Nat} {f g:Nat->Bool} (h:iN u T f) {m:Nat} (hm:m<16) (b:Bool) (hg:∀ j,j<16->g j=if j=m then b else f j):iN (u.setCell ⟨T,m,none⟩ (.bool b)) T g:=by
 intro j hj;obtain ⟨c,z⟩:=h j hj;obtain ⟨cm,_⟩:=h m hm;refine ⟨?_,(World.frozen?_setCell ..).trans z⟩;rw [hg j hj]
 by_cases e:j=m
 ·subst e
  simp
  clear c hg;go_simp
 ·rw [if_neg e];have hne:(⟨T,m,none⟩:Addr)≠⟨T,j,none⟩:=by intro h;cases h;exact e rfl
  rw [World.cell?_setCell_other (h:=hne)];exact c
def kI (w:World) (pb:Nat) (f:Nat->Bool):Nat->World
 | 0=>w
 | k+1=>(kI w pb f k).setCell ⟨pb,1+k,none⟩ (.bool (f k))
theorem A3 {w:World} {pb db:Nat} {ao:Option Addr} {c:Nat} {ds:List Dv} {us:Nat->Bool} (h:ap w pb db ao c ds us) (f:Nat->Bool) (k:Nat) (hk:k<=16):ap (kI w pb f k) pb db ao c ds (λj=>if j<k then f j else us j):=by
 induction k with
 | zero=>simpa [kI] using h
 | succ k ih=>
  refine (ih (by omega)).set (by omega) (f k) (λj _=>?_)
  by_cases e:j=k
  ·subst e;rw [if_pos (by omega),if_pos rfl]
  ·by_cases e2:j<k
   ·rw [if_pos (by omega),if_neg e,if_pos e2]
   ·rw [if_neg (by omega),if_neg e,if_neg e2]
theorem A4 (w:World) (pb:Nat) (f:Nat->Bool) (k:Nat):w.grownBy (kI w pb f k) (some pb):=by
 induction k with
 | zero=>exact ow _ _
 | succ k ih=>exact ih.trans (bL _ _ _)
theorem ap.congr {w:World} {pb db:Nat} {ao:Option Addr} {c:Nat} {ds:List Dv} {us vs:Nat->Bool} (h:ap w pb db ao c ds us) (e:∀ j,j<16->vs j=us j):ap w pb db ao c ds vs:=
 ⟨h.row,h.at0,h.cells,λj hj=>by rw [e j hj];exact h.used j hj⟩
theorem A5 {w:World} {pb db:Nat} {ao:Option Addr} {c:Nat} {ds:List Dv} {us:Nat->Bool} (h:ap w pb db ao c ds us) (f:Nat->Bool):ap (kI w pb f 16) pb db ao c ds f:=
 (A3 h f 16 (lR)).congr (λj hj=>by rw [if_pos hj])
theorem A6 {n:Nat} {us:Nat->Bool} {l:List Int} {k:Nat} (h:fD (nth l k) n=false):clF n us l k=1:=by
 rw [clF,if_pos]
 simp [fD] at h
 omega
theorem lP {x:Int} {n:Nat} (h:fD x n=true):∃ m:Nat,x=(m:Int)/\m<n:=by
 simp [fD] at h
 exact ⟨x.toNat,by omega,by omega⟩
theorem A7 {n:Nat} {us:Nat->Bool} {l:List Int} {k m:Nat} (h:nth l k=(m:Int)) (hm:m<n) (hc:bF us (l.take k) m=true):clF n us l k=5:=by
 rw [clF,h,if_neg (by omega),if_pos];exact hc
theorem A8 {n:Nat} {us:Nat->Bool} {l:List Int} {k m:Nat} (h:nth l k=(m:Int)) (hm:m<n) (hc:bF us (l.take k) m=false):clF n us l k=0:=by
 rw [clF,h,if_neg (by omega),if_neg];rw [show (us (m:Int).toNat || decide ((m:Int)∈l.take k))=bF us (l.take k) m from rfl,hc]
 simp
theorem A9 {us:Nat->Bool} {l:List Int} {k m:Nat} (hk:k<l.length) (h:nth l k=(m:Int)) (j:Nat):bF us (l.take (k+1)) j=if j=m then true else bF us (l.take k) j:=by
 rw [Dvs.Ad hk,h,Dvs.Am _ _ _ (by omega)]
 by_cases e:j=m
 ·subst e;simp
 ·rw [if_neg e,Q7 (by omega),Bool.or_false]
def ik (n:Nat) (us:Nat->Bool) (l:List Int):Nat->Bool:=if first (clF n us l) l.length=0 then bF us l else us
end
