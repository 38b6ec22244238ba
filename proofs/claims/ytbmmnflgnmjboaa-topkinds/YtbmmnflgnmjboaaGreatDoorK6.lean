import Derived.Test.YtbmmnflgnmjboaaGreatDoorK5
import Derived.Deep.SlicePairs
import Derived.Laws.IdiomArrays
set_option maxRecDepth 100000
set_option maxHeartbeats 16000000
namespace Go.Proofs.YtbmmnflgnmjboaaGreatDoor
section
namespace Ost
abbrev Hi:=Nat × Bool
structure Wi where
 any:Bool
 hs:List Hi
def wi0:Wi:=⟨false,[]⟩
def bet (a b:Hi):Bool:=if a.2 != b.2 then a.2 else if pop8 a.1 != pop8 b.1 then decide (pop8 a.1<pop8 b.1) else decide (a.1<b.1)
def key (a:Hi):Nat:=(if a.2 then 0 else 4096)+pop8 a.1*256+a.1
theorem zH (a b:Hi) (ha:a.1<256) (hb:b.1<256):bet a b=decide (key a<key b):=by
 obtain ⟨m,g⟩:=a;obtain ⟨n,f⟩:=b;have h1:=iJ m;have h2:=iJ n;simp only at ha hb;unfold bet key
 by_cases hp:pop8 m=pop8 n
 ·cases g <;> cases f <;> simp [hp] <;> omega
 ·have hp':(pop8 m != pop8 n)=true:=by simpa using hp
  cases g <;> cases f <;> simp [hp] <;> omega
def dh (L:List Hi) (b0:Hi):Nat->Hi
 | 0=>b0
 | k+1=>if bet (L.getD k (0,false)) (dh L b0 k) then L.getD k (0,false) else dh L b0 k
def rn (L:List Hi) (b0:Hi):Hi:=dh L b0 L.length
def Low (L:List Hi):Prop:=∀ x,x∈L->x.1<256
theorem dO {α:Type} (L:List α) (d:α) (k:Nat) (h:k<L.length):L.getD k d∈L:=by simp [h]
theorem l6 {α:Type} {L:List α} (d:α) {x:α} (h:x∈L):∃ k,k<L.length/\L.getD k d=x:=by
 obtain ⟨k,hk,he⟩:=List.getElem_of_mem h;exact ⟨k,hk,by simp [hk,he]⟩
theorem zI (L:List Hi) (b0:Hi) (hL:Low L) (h0:b0.1<256) (k:Nat) (hk:k<=L.length) :
  (dh L b0 k=b0\/dh L b0 k∈L)/\(dh L b0 k).1<256/\key (dh L b0 k)<=key b0/\∀ j,j<k->key (dh L b0 k)<=key (L.getD j (0,false)):=by
 induction k with
 | zero=>exact ⟨.inl rfl,h0,lR,λj hj=>by omega⟩
 | succ k ih=>
  obtain ⟨h1,h2,h3,h4⟩:=ih (by omega);have hm:=dO L (0,false) k (by omega);have hx:=hL _ hm;rw [dh];generalize hz:L.getD k (0,false)=x at *;have hbk:=zH x (dh L b0 k) hx h2
  by_cases hb:bet x (dh L b0 k)=true
  ·rw [if_pos hb];rw [hb] at hbk;have hlt:=of_decide_eq_true hbk.symm;refine ⟨.inr hm,hx,by omega,λj hj=>?_⟩
   by_cases e:j=k
   ·subst e;rw [hz];exact lR
   ·have:=h4 j (by omega);omega
  ·rw [if_neg hb];have hb':bet x (dh L b0 k)=false:=by simpa using hb
   rw [hb'] at hbk;have hge:=of_decide_eq_false hbk.symm;refine ⟨h1,h2,h3,λj hj=>?_⟩
   by_cases e:j=k
   ·subst e;rw [hz];omega
   ·exact h4 j (by omega)
theorem ro {L:List Hi} {b0:Hi} (hL:Low L) (h0:b0.1<256) (k:Nat) (hk:k<=L.length):(dh L b0 k).1<256:=(zI L b0 hL h0 k hk).2.1
def okH (pol:Int) (h:Hi):Bool:=decide (pol<3) || (h.2 && decide (pop8 h.1=1))
def cho (pol:Int) (nodes:Nat) (w:Wi):List Hi:=if w.any then [(nodes,true)] else if (w.hs.filter (okH pol)).length=0 then [(nodes,false)] else w.hs.filter (okH pol)
def com (a c:Hi):Hi:=(a.1 &&& c.1,a.2 && c.2)
def ji (pol:Int) (nodes:Nat) (ws:List Wi):Nat->Hi->Prop
 | 0,h=>h=(nodes,true)
 | k+1,h=>h.1≠0/\∃ a c,ji pol nodes ws k a/\c∈cho pol nodes (ws.getD k wi0)/\h=com a c
theorem zJ {a c:Hi} {nodes:Nat} (h:a.1 &&& nodes=a.1):(com a c).1 &&& nodes=(com a c).1:=by
 show (a.1 &&& c.1) &&& nodes=a.1 &&& c.1
 rw [Nat.and_assoc,Nat.and_comm c.1,<- Nat.and_assoc,h]
theorem nV {pol:Int} {nodes:Nat} {ws:List Wi} {k:Nat} {h:Hi} (hr:ji pol nodes ws k h):h.1 &&& nodes=h.1:=by
 induction k generalizing h with
 | zero=>rw [show h=(nodes,true) from hr];exact Nat.and_self _
 | succ k ih=>
  obtain ⟨_,a,c,ha,_,rfl⟩:=hr;exact zJ (ih ha)
theorem zK {pol:Int} {nodes:Nat} {ws:List Wi} {k:Nat} {h:Hi} (hn:nodes<256) (hr:ji pol nodes ws k h):h.1<256:=by
 rw [<- nV hr];exact Nat.lt_of_le_of_lt Nat.and_le_right hn
def iL (pol:Int) (nodes:Nat) (ws:List Wi) (k:Nat) (L:List Hi):Prop:=∀ x,x∈L↔ji pol nodes ws k x
theorem iL.low {pol:Int} {nodes:Nat} {ws:List Wi} {k:Nat} {L:List Hi} (h:iL pol nodes ws k L) (hn:nodes<256):Low L:=λx hx=>zK hn ((h x).1 hx)
def within (nodes:Nat) (h:Hi):Hi:=(h.1 &&& nodes,h.2)
theorem rp {a c:Hi} {nodes:Nat} (h:a.1 &&& nodes=a.1):com a (within nodes c)=com a c:=by
 unfold com within
 show (a.1 &&& (c.1 &&& nodes),a.2 && c.2)=_
 rw [Nat.and_comm c.1,<- Nat.and_assoc,h]
def dP (l:List Hi) (h:Hi):List Hi:=if h∈l then l else l++[h]
theorem rq (l:List Hi) (h x:Hi):x∈dP l h↔x∈l\/x=h:=by
 unfold dP
 split
 ·rename_i hm
  constructor
  ·exact .inl
  ·rintro (h1|rfl)
   ·exact h1
   ·exact hm
 ·simp
theorem rr (l:List Hi) (h:Hi):(dP l h).length<=l.length+1:=by
 unfold dP
 split
 ·omega
 ·simp
def cD (pol:Int) (nodes:Nat) (hs:List Hi):Nat->List Hi
 | 0=>[]
 | k+1=>if okH pol (hs.getD k (0,false)) then dP (cD pol nodes hs k) (within nodes (hs.getD k (0,false))) else cD pol nodes hs k
theorem rt (pol:Int) (nodes:Nat) (hs:List Hi) (k:Nat):(cD pol nodes hs k).length<=k:=by
 induction k with
 | zero=>exact lR
 | succ k ih=>
  rw [cD]
  split
  ·exact Q5 (rr _ _) (by omega)
  ·omega
theorem zL (pol:Int) (nodes:Nat) (hs:List Hi) (k:Nat) (x:Hi):x∈cD pol nodes hs k↔∃ j,j<k/\okH pol (hs.getD j (0,false))=true/\x=within nodes (hs.getD j (0,false)):=by
 induction k with
 | zero=>simp [cD]
 | succ k ih=>
  rw [cD]
  split
  ·rename_i h
   rw [rq,ih];constructor
   ·rintro (⟨j,hj,h1,h2⟩|h1)
    ·exact ⟨j,by omega,h1,h2⟩
    ·exact ⟨k,by omega,h,h1⟩
   ·rintro ⟨j,hj,h1,h2⟩
    by_cases e:j=k
    ·subst e;exact .inr h2
    ·exact .inl ⟨j,by omega,h1,h2⟩
  ·rename_i h
   rw [ih];constructor
   ·rintro ⟨j,hj,h1,h2⟩;exact ⟨j,by omega,h1,h2⟩
   ·rintro ⟨j,hj,h1,h2⟩
    by_cases e:j=k
    ·subst e;exact absurd h1 h
    ·exact ⟨j,by omega,h1,h2⟩
def dQ (pol:Int) (nodes:Nat) (w:Wi):List Hi:=if w.any then [(nodes,true)] else if (cD pol nodes w.hs w.hs.length).length=0 then [(nodes,false)] else cD pol nodes w.hs w.hs.length
theorem nW (pol:Int) (nodes:Nat) (hs:List Hi) (x:Hi):x∈cD pol nodes hs hs.length↔∃ c,c∈hs.filter (okH pol)/\x=within nodes c:=by
 rw [zL];constructor
 ·rintro ⟨j,hj,h1,h2⟩;exact ⟨_,List.mem_filter.2 ⟨dO _ _ _ hj,h1⟩,h2⟩
 ·rintro ⟨c,hc,h2⟩;rw [List.mem_filter] at hc;obtain ⟨j,hj,rfl⟩:=l6 (0,false) hc.1;exact ⟨j,hj,hc.2,h2⟩
theorem ru {α:Type} (l:List α):l.length=0↔∀ x,x ∉ l:=by
 cases l with
 | nil=>simp
 | cons a r=>
  constructor
  ·intro h;simp at h
  ·intro h;exact absurd List.mem_cons_self (h a)
theorem nX (pol:Int) (nodes:Nat) (w:Wi) (x:Hi):x∈dQ pol nodes w↔∃ c,c∈cho pol nodes w/\x=within nodes c:=by
 unfold dQ cho;cases w.any
 ·have e:(cD pol nodes w.hs w.hs.length).length=0↔(w.hs.filter (okH pol)).length=0:=by
   rw [ru,ru];constructor
   ·intro h x hx;exact h (within nodes x) ((nW ..).2 ⟨x,hx,rfl⟩)
   ·intro h x hx;obtain ⟨c,hc,_⟩:=(nW ..).1 hx;exact h c hc
  simp only [Bool.false_eq_true,if_false]
  by_cases h:(w.hs.filter (okH pol)).length=0
  ·rw [if_pos h,if_pos (e.2 h)]
   simp [within]
  ·rw [if_neg h,if_neg (λh'=>h (e.1 h'))];exact nW ..
 ·simp [within]
theorem rx (pol:Int) (nodes:Nat) (w:Wi) (h:w.hs.length<=16):(dQ pol nodes w).length<=16:=by
 unfold dQ
 split
 ·simp
 ·split
  ·simp
  ·exact Q5 (rt ..) h
def dp (c:Hi) (W:List Hi) (N:List Hi):Nat->List Hi
 | 0=>N
 | j+1=>if (com (W.getD j (0,false)) c).1=0 then dp c W N j else dP (dp c W N j) (com (W.getD j (0,false)) c)
def eF (C W:List Hi):Nat->List Hi
 | 0=>[]
 | i+1=>dp (C.getD i (0,false)) W (eF C W i) W.length
theorem ry (c:Hi) (W N:List Hi) (j:Nat):(dp c W N j).length<=N.length+j:=by
 induction j with
 | zero=>exact lR
 | succ j ih=>
  rw [dp]
  split
  ·omega
  ·exact Q5 (rr _ _) (by omega)
theorem rz (C W:List Hi) (i:Nat):(eF C W i).length<=i*W.length:=by
 induction i with
 | zero=>simp [eF]
 | succ i ih=>
  rw [eF,Nat.succ_mul];exact Q5 (ry ..) (by omega)
theorem zM (c:Hi) (W N:List Hi) (j:Nat) (x:Hi):x∈dp c W N j↔x∈N\/∃ i,i<j/\x.1≠0/\x=com (W.getD i (0,false)) c:=by
 induction j with
 | zero=>simp [dp]
 | succ j ih=>
  rw [dp]
  split
  ·rename_i h
   rw [ih];constructor
   ·rintro (h1|⟨i,hi,h1⟩)
    ·exact .inl h1
    ·exact .inr ⟨i,by omega,h1⟩
   ·rintro (h1|⟨i,hi,h1,h2⟩)
    ·exact .inl h1
    ·by_cases e:i=j
     ·subst e;rw [<- h2] at h;exact absurd h h1
     ·exact .inr ⟨i,by omega,h1,h2⟩
  ·rename_i h
   rw [rq,ih];constructor
   ·rintro ((h1|⟨i,hi,h1⟩)|rfl)
    ·exact .inl h1
    ·exact .inr ⟨i,by omega,h1⟩
    ·exact .inr ⟨j,by omega,h,rfl⟩
   ·rintro (h1|⟨i,hi,h1,h2⟩)
    ·exact .inl (.inl h1)
    ·by_cases e:i=j
     ·subst e;exact .inr h2
     ·exact .inl (.inr ⟨i,by omega,h1,h2⟩)
theorem zN (C W:List Hi) (i:Nat) (x:Hi):x∈eF C W i↔x.1≠0/\∃ k,k<i/\∃ a,a∈W/\x=com a (C.getD k (0,false)):=by
 induction i with
 | zero=>simp [eF]
 | succ i ih=>
  rw [eF,zM,ih];constructor
  ·rintro (⟨h0,k,hk,a,ha,h1⟩|⟨j,hj,h0,h1⟩)
   ·exact ⟨h0,k,by omega,a,ha,h1⟩
   ·exact ⟨h0,i,by omega,_,dO _ _ _ hj,h1⟩
  ·rintro ⟨h0,k,hk,a,ha,h1⟩
   by_cases e:k=i
   ·subst e;obtain ⟨j,hj,rfl⟩:=l6 (0,false) ha;exact .inr ⟨j,hj,h0,h1⟩
   ·exact .inl ⟨h0,k,by omega,a,ha,h1⟩
def dq (pol:Int) (nodes:Nat) (ws:List Wi):Nat->List Hi
 | 0=>[(nodes,true)]
 | k+1=>eF (dQ pol nodes (ws.getD k wi0)) (dq pol nodes ws k) (dQ pol nodes (ws.getD k wi0)).length
theorem kz (pol:Int) (nodes:Nat) (ws:List Wi) (k:Nat):iL pol nodes ws k (dq pol nodes ws k):=by
 induction k with
 | zero=>intro x;simp [dq,ji]
 | succ k ih=>
  intro x;rw [dq,zN,ji];constructor
  ·rintro ⟨h0,j,hj,a,ha,h1⟩;obtain ⟨c,hc,h2⟩:=(nX ..).1 (dO _ (0,false) _ hj);refine ⟨h0,a,c,(ih a).1 ha,hc,?_⟩;rw [h1,h2,rp (nV ((ih a).1 ha))]
  ·rintro ⟨h0,a,c,ha,hc,h1⟩;obtain ⟨j,hj,h2⟩:=l6 (0,false) ((nX ..).2 ⟨c,hc,rfl⟩);refine ⟨h0,j,hj,a,(ih a).2 ha,?_⟩;rw [h2,rp (nV ha),h1]
theorem rA (k:Nat) (h:k<=4):16 ^ k<=65536:=by
 have:k=0\/k=1\/k=2\/k=3\/k=4:=by omega
 rcases this with rfl|rfl|rfl|rfl|rfl <;> decide
theorem rB (pol:Int) (nodes:Nat) (ws:List Wi) (hw:∀ w,w∈ws->w.hs.length<=16) (k:Nat) (hk:k<=ws.length):(dq pol nodes ws k).length<=16 ^ k:=by
 induction k with
 | zero=>simp [dq]
 | succ k ih=>
  rw [dq];have h1:=rz (dQ pol nodes (ws.getD k wi0)) (dq pol nodes ws k) (dQ pol nodes (ws.getD k wi0)).length;have h2:=rx pol nodes (ws.getD k wi0) (hw _ (dO _ _ _ (by omega)));have h3:=Nat.mul_le_mul h2 (ih (by omega));rw [Nat.pow_succ];omega
def told (pol:Int) (nodes:Nat) (ws:List Wi):Hi:=rn (dq pol nodes ws ws.length) (nodes,false)
theorem zO (pol:Int) (nodes:Nat) (ws:List Wi) (hn:nodes<256):(told pol nodes ws).1<256:=ro (iL.low (kz pol nodes ws ws.length) hn) hn _ (lR)
end Ost
end
section
open Go.ChangeShapes Go.WideShapes Go.ChangeAt Go.RowKit
open Ost (N4 Hi Wi wi0 Low)
theorem bo.form {w:World} {v:Value} {l:List Hi} (h:bo w v l):∃ ao c,v=.slice ao l.length c/\(0<l.length->∃ b o,ao=some ⟨b,o,none⟩/\b<w.heap.size/\∀ k,k<l.length->w.cell? ⟨b,o+k*2,none⟩=some (.int .u8 ((l.getD k (0,false)).1:Nat))/\w.cell? ⟨b,o+k*2+1,none⟩=some (.bool (l.getD k (0,false)).2)):=by
 rcases h with ⟨rfl,ao,c,rfl⟩|⟨b,o,c,rfl,hlt,hc⟩
 ·exact ⟨ao,c,rfl,λh=>by simp at h⟩
 ·exact ⟨_,c,rfl,λ_=>⟨b,o,rfl,hlt,hc⟩⟩
def fA (w:World) (v:Value) (ws:List Wi):Prop:=
 (ws=[]/\∃ ao c,v=.slice ao 0 c)\/∃ b o c,v=.slice (some ⟨b,o,none⟩) ws.length c/\b<w.heap.size/\∀ k,k<ws.length->w.cell? ⟨b,o+k*2,none⟩=some (.bool (ws.getD k wi0).any)/\∃ u,w.cell? ⟨b,o+k*2+1,none⟩=some u/\bo w u (ws.getD k wi0).hs
theorem fA.below {w w':World} {v:Value} {ws:List Wi} (h:fA w v ws) (hb:Below w.heap.size w w'):fA w' v ws:=by
 rcases h with h|⟨b,o,c,hv,hlt,hc⟩
 ·exact .inl h
 ·refine .inr ⟨b,o,c,hv,Q1 hlt hb.size,λk hk=>?_⟩;obtain ⟨h1,u,h2,h3⟩:=hc k hk;exact ⟨(hb.cell (p:=⟨b,o+k*2,none⟩) hlt).trans h1,u,(hb.cell (p:=⟨b,o+k*2+1,none⟩) hlt).trans h2,h3.below hb⟩
theorem fA.form {w:World} {v:Value} {ws:List Wi} (h:fA w v ws):∃ ao c,v=.slice ao ws.length c/\(0<ws.length->∃ b o,ao=some ⟨b,o,none⟩/\b<w.heap.size/\∀ k,k<ws.length->w.cell? ⟨b,o+k*2,none⟩=some (.bool (ws.getD k wi0).any)/\∃ u,w.cell? ⟨b,o+k*2+1,none⟩=some u/\bo w u (ws.getD k wi0).hs):=by
 rcases h with ⟨rfl,ao,c,rfl⟩|⟨b,o,c,rfl,hlt,hc⟩
 ·exact ⟨ao,c,rfl,λh=>by simp at h⟩
 ·exact ⟨_,c,rfl,λ_=>⟨b,o,rfl,hlt,hc⟩⟩
instance:Inhabited Wi:=⟨wi0⟩
end
section
open RowKit
open Ost (Hi Wi wi0 Low dP bet pop8)
abbrev vH (h:Hi):Value:=.agg #[.int .u8 (h.1:Nat),.bool h.2]
def Found (l:List Hi) (h:Hi) (e:Ending):Prop:=(h∈l/\∃ r:Nat,e=.returned (.int .i64 r))\/(h ∉ l/\e=.returned (.int .i64 (-1)))
theorem zP (v:Value) (l:List Hi) (h:Hi) (w:World) (hv:bo w v l) (hl:l.length<=4000000) :
  Calls Tryz.prog 279 #[v,vH h] w λe w'=>Found l h e/\Below w.heap.size w w':=by
 obtain ⟨ao,c,rfl,hc⟩:=hv.form;have HC:=qI hc;clear hc hv;unfold vH;obtain ⟨p,g⟩:=h;have hX:Hid (Below w.heap.size w (w.alloc (.cells #[.int .u8 (p:Nat),.bool g] 223))):=(Q0 _ _).alloc (lR) _;have hY:=qI (show (w.alloc (.cells #[.int .u8 (p:Nat),.bool g] 223)).cell? ⟨w.heap.size,0,none⟩=some (.int .u8 (p:Nat))/\(w.alloc (.cells #[.int .u8 (p:Nat),.bool g] 223)).cell? ⟨w.heap.size,1,none⟩=some (.bool g) by simp)
 go_enter Tryz.func279,Tryz.ntmps279
 go_wp2
 go_loopw [8] (λi wr=>∃ k:Nat,k<=l.length/\i=.int .i64 k/\Hid (∀ j,j<k->l.getD j (0,false)≠(p,g))/\Hid (Below (w.heap.size+1) (w.alloc (.cells #[.int .u8 (p:Nat),.bool g] 223)) wr)) (λi _=>l.length - (intOf i).toNat)
 case atStart=>exact ⟨0,by omega,rfl,λj hj=>by omega,Q0 _ _⟩
 case round=>
  obtain ⟨k,hk,rfl,HN,HB⟩:=hrel
  by_cases hlt:k<l.length
  ·obtain ⟨b,o,rfl,hb,hcs⟩:=HC.out (by omega);have hB:=HB.out;have hx:=qI (Ost.dO l (0,false) k hlt);have hN:Hid (∀ x,l.getD k (0,false)=x->x≠(p,g)->∀ j,j<k+1->l.getD j (0,false)≠(p,g)):=by
    intro x hx hne j hj
    by_cases e:j=k
    ·subst e;rw [hx];exact hne
    ·exact HN.out j (by omega)
   have c0:=((hB.cell (p:=⟨b,o+k*2,none⟩) (by show b<w.heap.size+1;omega)).trans (hX.out.cell (p:=⟨b,o+k*2,none⟩) hb)).trans (hcs k hlt).1;have c1:=((hB.cell (p:=⟨b,o+k*2+1,none⟩) (by show b<w.heap.size+1;omega)).trans (hX.out.cell (p:=⟨b,o+k*2+1,none⟩) hb)).trans (hcs k hlt).2;have d0:=(hB.cell (p:=⟨w.heap.size,0,none⟩) (by show w.heap.size<w.heap.size+1;omega)).trans hY.out.1;have d1:=(hB.cell (p:=⟨w.heap.size,1,none⟩) (by show w.heap.size<w.heap.size+1;omega)).trans hY.out.2;clear hB hcs HN;generalize hz:l.getD k (0,false)=x at *;have hN:=qI (hN.out x rfl);obtain ⟨q,f⟩:=x;simp only at c0 c1;have hz:=qI hz
   by_cases hq:p=q
   ·rcases two (g == f) with hf|hf
    ·have:g=f:=by simpa using hf
     subst this;subst hq;clear hf
     go_wp2
     go_quiet (fail)
     go_wp2
     go_ret;exact ⟨.inl ⟨hx.out,k,rfl⟩,hX.out.trans (below_drewN (HB.out.mono (by omega)) _)⟩
    ·subst hq
     go_wp2
     go_quiet (fail)
     go_wp2
     go_roundw
     case rel=>exact ⟨k+1,by omega,by go_num,hN.out (by intro h;simp at h;rw [h] at hf;simp at hf),below_drewN HB.out _⟩
     case measure=>simp [intOf];omega
   ·have hf:((p:Int) == (q:Int))=false:=by rw [Qr];omega
    go_wp2
    go_quiet (fail)
    go_wp2
    go_roundw
    case rel=>exact ⟨k+1,by omega,by go_num,hN.out (by intro h;simp at h;exact hq h.1.symm),below_drewN HB.out _⟩
    case measure=>simp [intOf];omega
  ·have hkl:k=l.length:=by omega
   subst hkl;have hno:Hid ((p,g) ∉ l):=by
    intro hm;obtain ⟨j,hj,he⟩:=Ost.l6 (0,false) hm;exact HN.out j hj he
   go_wp2
   go_ret;exact ⟨.inr ⟨hno.out,rfl⟩,hX.out.trans (HB.out.mono (by omega))⟩
theorem zQ (v:Value) (l:List Hi) (h:Hi) (w:World) (hv:bo w v l) (hl:l.length<=4000000) :
  Calls Tryz.prog 245 #[v,vH h] w λe w'=>e=.returned (.bool (decide (h∈l)))/\Below w.heap.size w w':=by
 obtain ⟨p,g⟩:=h;have hX:Hid (Below w.heap.size w (w.alloc (.cells #[.int .u8 (p:Nat),.bool g] 223))):=(Q0 _ _).alloc (lR) _;have HI:=qI (zP v l (p,g) (w.alloc (.cells #[.int .u8 (p:Nat),.bool g] 223)) (hv.below hX.out) hl);obtain ⟨ao,c,rfl,_⟩:=hv.form;clear hv;unfold vH at *
 go_enter Tryz.func245,Tryz.ntmps245
 go_wp2_with fail
 refine HI.out.mono ?_;rintro e w1 ⟨hf,hb⟩;have hB:=qI (hX.out.trans (hb.mono (by simp)));clear hb
 rcases hf with ⟨hm,r,rfl⟩|⟨hm,rfl⟩
 ·have hm:=qI hm
  go_wp2
  go_ret;exact ⟨congrArg (λb=>Ending.returned (.bool b)) (Qc hm.out).symm,hB.out⟩
 ·have hm:=qI hm
  go_wp2
  go_ret;exact ⟨congrArg (λb=>Ending.returned (.bool b)) (Q7 hm.out).symm,hB.out⟩
def zR (base:Nat) (w:World) (l:List Hi) (e:Ending) (w':World):Prop:=∃ v,e=.returned v/\w'.ownsRow base 223 2 v l.length (dE l)/\Below base w w'
def zS (base:Nat) (v0:Value) (w:World) (l:List Hi) (e:Ending) (w':World):Prop:=∃ v,e=.returned v/\w'.ownsRow base 223 2 v l.length (dE l)/\Below base w w'/\∀ b,b<w.heap.size->some b≠v0.ownBlock->w'.heap[b]?=w.heap[b]?/\some b≠v.ownBlock
theorem nY (base:Nat) (v:Value) (l:List Hi) (h:Hi) (w:World) (hv:w.ownsRow base 223 2 v l.length (dE l)) (hl:l.length<=4000000) (hbase:base<=w.heap.size) :
  Calls Tryz.prog 198 #[v,vH h] w λe w'=>zS base v w (dP l h) e w':=by
 obtain ⟨p,g⟩:=h;have hX:Hid (Below w.heap.size w (w.alloc (.cells #[.int .u8 (p:Nat),.bool g] 223))):=(Q0 _ _).alloc (lR) _;have HI:=qI (zQ v l (p,g) (w.alloc (.cells #[.int .u8 (p:Nat),.bool g] 223)) ((bo.of_row hv).below hX.out) hl);have HV:=qI (ky hv hX.out);have HVl:=qI hv.lt;obtain ⟨ao,c,rfl⟩:=fS hv;have hY:=qI (show (w.alloc (.cells #[.int .u8 (p:Nat),.bool g] 223)).cell? ⟨w.heap.size,0,none⟩=some (.int .u8 (p:Nat))/\(w.alloc (.cells #[.int .u8 (p:Nat),.bool g] 223)).cell? ⟨w.heap.size,1,none⟩=some (.bool g) by simp);clear hv;unfold vH at *;obtain ⟨i0,hi,hz0,hz1,hz2⟩:=info_parts rk
 go_enter Tryz.func198,Tryz.ntmps198
 go_wp2_with fail
 refine HI.out.mono ?_;rintro e w1 ⟨rfl,hb⟩;have hB:=qI (hX.out.trans (hb.mono (by simp)));have HV1:=qI (ky HV.out hb);have d0:=(hb.cell (p:=⟨w.heap.size,0,none⟩) (by simp)).trans hY.out.1;have d1:=(hb.cell (p:=⟨w.heap.size,1,none⟩) (by simp)).trans hY.out.2;have hsz:Hid (w.heap.size+1<=w1.heap.size):=Q5 (by simp) hb.size;clear hb HI HV hX hY
 by_cases hm:(p,g)∈l
 ·rw [Qc hm];have hw:Hid (dP l (p,g)=l):=by unfold Hid dP;rw [if_pos hm]
  clear hm
  go_wp2
  go_ret;exact ⟨_,rfl,by rw [hw.out];exact HV1.out,hB.out.mono hbase,λb hb hne=>⟨hB.out.block b hb,hne⟩⟩
 ·rw [Q7 hm];have hw:Hid (dP l (p,g)=l++[(p,g)]):=by unfold Hid dP;rw [if_neg hm]
  clear hm;have hs2:=hsz.out
  go_wp2_with (at_builtin;refine wpList_append_lies _ rfl _ _ 266 rfl base 223 i0 (.agg #[.int .u8 0,.bool false]) 2 2 Tryz.underlying266 hi hz0 hz1 hz2 rfl (by decide) _ _ _ rfl (HV1.out.alloc _) ⟨_,0,none⟩ 1 1 [.int .u8 p,.bool g] rfl rfl (by intro j u hj;match j,hj with|0,hj=>(simp at hj;subst hj;simp [Addr.add])|1,hj=>(simp at hj;subst hj;simp [Addr.add])) (by intro u hu;simp at hu;rcases hu with rfl|rfl <;> rfl) (by decide) (by unfold maxLen;omega) (by omega) (by simp;omega) _ rfl ?_;intro g' cap' w2 hown' hgrow' hat' hlt')
  go_ret;refine ⟨_,rfl,by rw [hw.out,lY,Q2];exact hown',?_,λb hb hne=>⟨?_,?_⟩⟩
  ·exact ((hB.out.mono hbase).alloc (by omega) _).grown hgrow' (by simp;omega) (λj hj=>(HV1.out.lt j hj).1)
  ·rw [hgrow'.block b (by simp;omega) hne,heap_alloc_old _ _ (by omega)];exact hB.out.block b hb
  ·intro he;have he':b=g':=by simpa [Value.ownBlock] using he
   subst he'
   rcases hat' with h|h
   ·exact hne h.symm
   ·simp at h;omega
theorem zT (base:Nat) (v:Value) (l:List Hi) (h:Hi) (w:World) (hv:w.ownsRow base 223 2 v l.length (dE l)) (hl:l.length<=4000000) (hbase:base<=w.heap.size) :
  Calls Tryz.prog 198 #[v,vH h] w λe w'=>zR base w (dP l h) e w':=
 (nY base v l h w hv hl hbase).mono λ_ _ ⟨v',he,hr,hb,_⟩=>⟨v',he,hr,hb⟩
theorem zU (a b:Hi) (w:World) (ha:a.1<256) (hb:b.1<256) :
  Calls Tryz.prog 161 #[vH a,vH b] w λe w'=>e=.returned (.bool (bet a b))/\Below w.heap.size w w':=by
 obtain ⟨m,g⟩:=a;obtain ⟨n,f⟩:=b;simp only at ha hb;unfold vH;have HB:Hid (Below w.heap.size w ((w.alloc (.cells #[.int .u8 (m:Nat),.bool g] 223)).alloc (.cells #[.int .u8 (n:Nat),.bool f] 223))):=((Q0 _ _).alloc (lR) _).alloc (by simp) _;have HP:=qI (λw=>kx m w ha);have HQ:=qI (λw=>kx n w hb);obtain ⟨r,hr⟩:∃ r,r=bet (m,g) (n,f):=⟨_,rfl⟩;rw [<- hr];have HR:=qI hr;clear hr
 go_enter Tryz.func161,Tryz.ntmps161
 rcases two (g != f) with hgf|hgf
 ·have hR:Hid (g=r):=by unfold Hid;rw [HR.out];unfold bet;rw [if_pos hgf]
  have hgf2:(!g == f)=true:=hgf;clear hgf
  go_wp2
  go_ret;exact ⟨congrArg (λb=>Ending.returned (.bool b)) hR.out,HB.out⟩
 ·have hgf2:(!g == f)=false:=hgf;have hp8:=Ost.iJ m;have hq8:=Ost.iJ n
  go_wp2_with fail
  have k0:((w.alloc (.cells #[.int .u8 (m:Nat),.bool g] 223)).alloc (.cells #[.int .u8 (n:Nat),.bool f] 223)).cell? ⟨w.heap.size,0,none⟩=some (.int .u8 (m:Nat)):=by go_simp
  have k1:((w.alloc (.cells #[.int .u8 (m:Nat),.bool g] 223)).alloc (.cells #[.int .u8 (n:Nat),.bool f] 223)).cell? ⟨w.heap.size+1,0,none⟩=some (.int .u8 (n:Nat)):=by go_simp
  generalize ((w.alloc (.cells #[.int .u8 (m:Nat),.bool g] 223)).alloc (.cells #[.int .u8 (n:Nat),.bool f] 223))=W at *
  by_cases hpq:pop8 m=pop8 n
  ·have hR:Hid (decide (m<n)=r):=by
    unfold Hid;rw [HR.out];unfold bet;rw [if_neg (by rw [hgf];simp),if_neg (by simp [hpq])]
   have hpq2:((pop8 m:Int) == (pop8 n:Int))=true:=by rw [beq_iff_eq];omega
   clear hgf hpq HR;generalize pop8 m=x at *;generalize pop8 n=y at *
   go_region_with (go_at_call 199;go_loud (first|(refine (HP.out _).mono ?_;rintro e w5 ⟨rfl,hw5⟩;subst w5)|(refine (HQ.out _).mono ?_;rintro e w5 ⟨rfl,hw5⟩;subst w5)))
   all_goals
    go_wp2
    go_ret;exact ⟨congrArg (λb=>Ending.returned (.bool b)) hR.out,below_drewN HB.out _⟩
  ·have hR:Hid (decide (pop8 m<pop8 n)=r):=by
    unfold Hid;rw [HR.out];unfold bet;rw [if_neg (by rw [hgf];simp),if_pos (by simpa using hpq)]
   have hpq2:((pop8 m:Int) == (pop8 n:Int))=false:=by rw [Qr];omega
   clear hgf hpq HR;generalize pop8 m=x at *;generalize pop8 n=y at *
   go_region_with (go_at_call 199;go_loud (first|(refine (HP.out _).mono ?_;rintro e w5 ⟨rfl,hw5⟩;subst w5)|(refine (HQ.out _).mono ?_;rintro e w5 ⟨rfl,hw5⟩;subst w5)))
   all_goals
    go_wp2_with fail
    go_region_with (go_at_call 199;go_loud (first|(refine (HP.out _).mono ?_;rintro e w5 ⟨rfl,hw5⟩;subst w5)|(refine (HQ.out _).mono ?_;rintro e w5 ⟨rfl,hw5⟩;subst w5)))
    all_goals
     go_wp2
     go_ret;exact ⟨congrArg (λb=>Ending.returned (.bool b)) hR.out,below_drewN (below_drewN HB.out _) _⟩
end
section
open RowKit
open Ost (Hi Wi wi0 Low dP bet pop8 cD dQ okH within)
def nZ (w:World) (l:List Hi) (e:Ending) (w':World):Prop:=∃ v,e=.returned v/\bo w' v l/\Below w.heap.size w w'
theorem rC (a b:Nat) (ha:a<256) (hb:b<256):bits BinOp.and IntKind.u8 (a:Int) (b:Int)=((a &&& b:Nat):Int):=by
 have hx:a &&& b<2 ^ 8:=Nat.and_lt_two_pow _ (by omega);have h1:(BitVec.ofInt 8 (a:Int)).toNat=a:=by
  rw [BitVec.ofInt_natCast,BitVec.toNat_ofNat];exact Nat.mod_eq_of_lt (by omega)
 have h2:(BitVec.ofInt 8 (b:Int)).toNat=b:=by
  rw [BitVec.ofInt_natCast,BitVec.toNat_ofNat];exact Nat.mod_eq_of_lt (by omega)
 show IntKind.u8.wrap ((BitVec.ofInt 8 (a:Int) &&& BitVec.ofInt 8 (b:Int)).toNat:Int)=_
 rw [BitVec.toNat_and,h1,h2]
 show ((a &&& b:Nat):Int) % 256=_
 omega
theorem n7 (w:World) (m:Nat) (g:Bool) (t:TypeId):bo (w.alloc (.cells #[.int .u8 (m:Nat),.bool g] t)) (.slice (some ⟨w.heap.size,0,none⟩) 1 1) [(m,g)]:=
 .inr ⟨w.heap.size,0,1,rfl,by simp,λk hk=>by
  have:k=0:=by simpa using hk
  subst this;exact ⟨by simp,by simp⟩⟩
theorem zV (pol:Int) (nodes:Nat) (v:Value) (w:World) (ao:Option Addr) (n c:Nat) (hv:v=.slice ao n c) :
  Calls Tryz.prog 197 #[.int .i64 pol,.int .u8 nodes,.agg #[.bool true,v]] w λe w'=>nZ w [(nodes,true)] e w':=by
 subst hv;have HB:Hid (Below w.heap.size w ((w.alloc (.cells #[.bool true,.slice ao n c] 270)).alloc (.cells #[.int .u8 (nodes:Nat),.bool true] 223))):=((Q0 _ _).alloc (lR) _).alloc (by simp) _;have HO:=n7 (w.alloc (.cells #[.bool true,.slice ao n c] 270)) nodes true 223;simp only [World.size_alloc] at HO;have HO:=qI HO
 go_enter Tryz.func197,Tryz.ntmps197
 go_wp2
 go_ret;exact ⟨_,rfl,HO.out,HB.out⟩
theorem zW (pol:Int) (nodes:Nat) (v:Value) (hs:List Hi) (w:World) (hv:bo w v hs) (hlow:Low hs) (hl:hs.length<=16) (hn:nodes<256) (hp:0<=pol/\pol<=3) :
  Calls Tryz.prog 197 #[.int .i64 pol,.int .u8 nodes,.agg #[.bool false,v]] w λe w'=>nZ w (dQ pol nodes ⟨false,hs⟩) e w':=by
 obtain ⟨ao,c,rfl,hc⟩:=hv.form;have HC:=qI hc;clear hc hv;have HX:Hid (Below w.heap.size w (w.alloc (.cells #[.bool false,.slice ao hs.length c] 270))):=(Q0 _ _).alloc (lR) _;have HLo:=qI hlow;clear hlow
 go_enter Tryz.func197,Tryz.ntmps197
 go_wp2_with fail
 have HO2:=qI λ(w:World)=>n7 w nodes false 223
 go_loopw [7,18] (λl i wr=>∃ k:Nat,k<=hs.length/\i=.int .i64 k/\Hid (wr.ownsRow (w.heap.size+1) 223 2 l (cD pol nodes hs k).length (dE (cD pol nodes hs k)))/\Hid (Below (w.heap.size+1) (w.alloc (.cells #[.bool false,.slice ao hs.length c] 270)) wr)/\w.heap.size+1<=wr.heap.size) (λ_ i _=>hs.length - (intOf i).toNat)
 case atStart=>exact ⟨0,by omega,rfl,Qw _ _ _ _,Q0 _ _,by simp⟩
 case round=>
  obtain ⟨k,hk,rfl,HR,HB,hsz⟩:=hrel;have hcl:=Ost.rt pol nodes hs k
  by_cases hlt:k<hs.length
  ·obtain ⟨b,o,rfl,hb,hcs⟩:=HC.out (by omega);obtain ⟨c0,c1⟩:=hcs k hlt
   replace c0:=((HB.out.cell (p:=⟨b,o+k*2,none⟩) (by show b<w.heap.size+1;omega)).trans (HX.out.cell (p:=⟨b,o+k*2,none⟩) hb)).trans c0
   replace c1:=((HB.out.cell (p:=⟨b,o+k*2+1,none⟩) (by show b<w.heap.size+1;omega)).trans (HX.out.cell (p:=⟨b,o+k*2+1,none⟩) hb)).trans c1
   have hx:=HLo.out _ (Ost.dO hs (0,false) k hlt);have hSt:cD pol nodes hs (k+1)=if okH pol (hs.getD k (0,false)) then dP (cD pol nodes hs k) (within nodes (hs.getD k (0,false))) else cD pol nodes hs k:=rfl
   have HSt:=qI hSt;clear hSt hcs;generalize hs.getD k (0,false)=x at *;obtain ⟨m,g⟩:=x;simp only at c0 c1 hx;have HP:=qI (λw=>kx m w hx);have hp8:=Ost.iJ m;have hand:=rC m nodes hx hn;have HBa:=qI (HB.out.alloc hsz (.cells #[.int .u8 (m:Nat),.bool g] 223));have HRa:=qI (HR.out.alloc (.cells #[.int .u8 (m:Nat),.bool g] 223));have HW:=qI λv'=>zT (w.heap.size+1) v' (cD pol nodes hs k) (within nodes (m,g)) (wr.alloc (.cells #[.int .u8 (m:Nat),.bool g] 223))
   unfold vH within at HW;obtain ⟨ao2,c2,rfl⟩:=fS HR.out
   rcases two (decide (pol=3)) with hpol|hpol
   ·have hpol:=of_decide_eq_true hpol;subst hpol
    rcases two g with hg|hg
    ·subst hg
     by_cases hpm:pop8 m=1
     ·have hok:Hid (okH 3 (m,true)=true):=by unfold Hid okH;simp [hpm]
      have hpm2:((pop8 m:Int) == 1)=true:=by rw [beq_iff_eq];omega
      clear hpm;generalize pop8 m=p at *
      go_wp2_with fail
      refine (HP.out _).mono ?_;rintro e w5 ⟨rfl,hw5⟩;subst w5
      go_wp2_with fail
      refine (HW.out _ HRa.out (by omega) (by simp;omega)).mono ?_;rintro e w2 ⟨v2,rfl,hr2,hb2⟩;have HR2:=qI hr2;have HB2:=qI (HBa.out.trans hb2);have hsz2:w.heap.size+1<=w2.heap.size:=Q5 (by simp;omega) hb2.size;obtain ⟨ao3,c3,rfl⟩:=fS HR2.out;clear hr2 hb2 HW HRa HBa HR HB c0 c1
      go_wp2
      go_roundw
      case rel=>exact ⟨k+1,by omega,by go_num,by rw [HSt.out,if_pos hok.out];exact HR2.out,HB2.out,hsz2⟩
      case measure=>simp [intOf];omega
     ·have hok:Hid (¬ okH 3 (m,true)=true):=by unfold Hid okH;simp [hpm]
      have hpm2:((pop8 m:Int) == 1)=false:=by rw [Qr];omega
      clear hpm;generalize pop8 m=p at *
      go_wp2_with fail
      refine (HP.out _).mono ?_;rintro e w5 ⟨rfl,hw5⟩;subst w5
      go_wp2
      go_roundw
      case rel=>exact ⟨k+1,by omega,by go_num,by rw [HSt.out,if_neg hok.out];exact HRa.out,HBa.out,by simp;omega⟩
      case measure=>simp [intOf];omega
    ·subst hg;have hok:Hid (¬ okH 3 (m,false)=true):=by unfold Hid okH;simp
     go_wp2
     go_roundw
     case rel=>exact ⟨k+1,by omega,by go_num,by rw [HSt.out,if_neg hok.out];exact HRa.out,HBa.out,by simp;omega⟩
     case measure=>simp [intOf];omega
   ·have hpol:=of_decide_eq_false hpol;have hok:Hid (okH pol (m,g)=true):=by unfold Hid okH;rw [Qc (by omega)];rfl
    have hpol2:(pol == 3)=false:=by rw [Qr];exact hpol
    go_wp2_with fail
    refine (HW.out _ HRa.out (by omega) (by simp;omega)).mono ?_;rintro e w2 ⟨v2,rfl,hr2,hb2⟩;have HR2:=qI hr2;have HB2:=qI (HBa.out.trans hb2);have hsz2:w.heap.size+1<=w2.heap.size:=Q5 (by simp;omega) hb2.size;obtain ⟨ao3,c3,rfl⟩:=fS HR2.out;clear hr2 hb2 HW HRa HBa HR HB c0 c1
    go_wp2
    go_roundw
    case rel=>exact ⟨k+1,by omega,by go_num,by rw [HSt.out,if_pos hok.out];exact HR2.out,HB2.out,hsz2⟩
    case measure=>simp [intOf];omega
  ·have hkl:k=hs.length:=by omega
   subst hkl;have hEq:dQ pol nodes ⟨false,hs⟩=if (cD pol nodes hs hs.length).length=0 then [(nodes,false)] else cD pol nodes hs hs.length:=rfl
   obtain ⟨ao2,c2,rfl⟩:=fS HR.out;have HBe:=qI (HX.out.trans (HB.out.mono (by omega)));have hsz':w.heap.size<=wr.heap.size:=by omega
   by_cases h0:(cD pol nodes hs hs.length).length=0
   ·rw [if_pos h0] at hEq;have hEq:=qI hEq;have HH:=qI (HO2.out wr)
    go_wp2
    go_ret;exact ⟨_,rfl,by rw [hEq.out];exact HH.out,HBe.out.alloc hsz' _⟩
   ·rw [if_neg h0] at hEq;have hEq:=qI hEq;have h0':((((cD pol nodes hs hs.length).length:Nat):Int) == 0)=false:=by rw [Qr];omega
    have HH:=qI (bo.of_row HR.out);generalize cD pol nodes hs hs.length=l at *
    go_wp2
    go_ret;exact ⟨_,rfl,by rw [hEq.out];exact HH.out,HBe.out⟩
theorem zX (pol:Int) (nodes:Nat) (any:Bool) (v:Value) (hs:List Hi) (w:World) (hv:bo w v hs) (hlow:Low hs) (hl:hs.length<=16) (hn:nodes<256) (hp:0<=pol/\pol<=3) :
  Calls Tryz.prog 197 #[.int .i64 pol,.int .u8 nodes,.agg #[.bool any,v]] w λe w'=>nZ w (dQ pol nodes ⟨any,hs⟩) e w':=by
 cases any
 ·exact zW pol nodes v hs w hv hlow hl hn hp
 ·obtain ⟨ao,c,hv',_⟩:=hv.form;exact zV pol nodes v w ao _ c hv'
end
section
open RowKit
open Ost (Hi Wi wi0 Low dP bet pop8 cD dQ okH within dp eF dq com)
def n9 (ws:List Wi):Prop:=∀ y,y∈ws->Low y.hs/\y.hs.length<=16
theorem od (pol:Int) (nodes:Nat) (y:Wi) (hn:nodes<256):Low (dQ pol nodes y):=λx hx=>by
 obtain ⟨c,_,rfl⟩:=(Ost.nX ..).1 hx;exact Nat.lt_of_le_of_lt Nat.and_le_right hn
theorem l7 {w w':World} {b o:Nat} {v:Value} (h:w'.heap[b]?=w.heap[b]?) (hc:w.cell? ⟨b,o,none⟩=some v):w'.cell? ⟨b,o,none⟩=some v:=(World.cell?_of_block (w:=w) (a:=⟨b,o,none⟩) h).trans hc
def zY (w:World) (l:List Hi) (e:Ending) (w':World):Prop:=∃ v,e=.returned v/\bo w' v l/\Below w.heap.size w w'/\∀ b o n c,v=.slice (some ⟨b,o,none⟩) n c->w.heap.size<=b
theorem zZ (pol:Int) (nodes:Nat) (v:Value) (ws:List Wi) (w:World) (hv:fA w v ws) (hw:n9 ws) (hl:ws.length<=4) (hn:nodes<256) (hp:0<=pol/\pol<=3) :
  Calls Tryz.prog 160 #[.int .i64 pol,.int .u8 nodes,v] w λe w'=>zY w (dq pol nodes ws ws.length) e w':=by
 have HV:=qI hv;obtain ⟨ao,c,rfl,_⟩:=hv.form;have HLi:=qI hw;clear hv hw
 go_enter Tryz.func160,Tryz.ntmps160
 go_wp2_with fail
 have HO0:=qI (n7 w nodes true 223);have HB0:Hid (Below w.heap.size w (w.alloc (.cells #[.int .u8 (nodes:Nat),.bool true] 223))):=(Q0 _ _).alloc (lR) _
 go_loopw [7,21] (λvW i wr=>∃ k:Nat,k<=ws.length/\i=.int .i64 k/\Hid (bo wr vW (dq pol nodes ws k))/\Hid (Below w.heap.size w wr)/\Hid (∀ b o n c,vW=.slice (some ⟨b,o,none⟩) n c->w.heap.size<=b)) (λ_ i _=>ws.length - (intOf i).toNat)
 case atStart=>exact ⟨0,by omega,rfl,HO0.out,HB0.out,λb o n c h=>by cases h;exact lR⟩
 case round=>
  obtain ⟨k,hk,rfl,HW,HB,HFr⟩:=hrel;clear HO0 HB0;have hlenW:=Ost.rB pol nodes ws (λy hy=>(HLi.out y hy).2) k hk;have hpow:=Ost.rA k (by omega)
  by_cases hlt:k<ws.length
  ·obtain ⟨ao',c',hv',hcs⟩:=(HV.out.below HB.out).form;obtain ⟨rfl,rfl⟩:ao=ao'/\c=c':=by simpa using hv'
   obtain ⟨b,o,rfl,hbl,hcs⟩:=hcs (by omega);obtain ⟨c0,u,c1,hu⟩:=hcs k hlt;have hy:=HLi.out _ (Ost.dO ws wi0 k hlt);have HNx:Hid (dq pol nodes ws (k+1)=eF (dQ pol nodes (ws.getD k wi0)) (dq pol nodes ws k) (dQ pol nodes (ws.getD k wi0)).length):=rfl;clear hcs hv';generalize ws.getD k wi0=y at *;obtain ⟨any,hs⟩:=y;simp only at c0 c1 hu hy;have HLw:=qI (Ost.iL.low (Ost.kz pol nodes ws k) hn);have HLw:=qI (Ost.iL.low (Ost.kz pol nodes ws k) hn);have HLw:=qI (Ost.iL.low (Ost.kz pol nodes ws k) hn);generalize dq pol nodes ws k=W at *;have hCl:=Ost.rx pol nodes ⟨any,hs⟩ hy.2;have HLc:=qI (od pol nodes ⟨any,hs⟩ hn);have HLc:=qI (od pol nodes ⟨any,hs⟩ hn);have HLc:=qI (od pol nodes ⟨any,hs⟩ hn);obtain ⟨ao2,c2,rfl,_⟩:=hu.form;have HX:=qI ((Q0 wr.heap.size wr).alloc (lR) (.cells #[.bool any,.slice ao2 hs.length c2] 270));have HCh:=qI (zX pol nodes any (.slice ao2 hs.length c2) hs (wr.alloc (.cells #[.bool any,.slice ao2 hs.length c2] 270)) (hu.below HX.out) hy.1 hy.2 hn hp);have HWa:=qI (HW.out.below HX.out);have HBa:=qI (HB.out.trans (HX.out.mono HB.out.size));have HWl:=qI (bo.form HW.out);obtain ⟨aw,cw,rfl,_⟩:=bo.form HW.out;clear hu hy HW HB
   go_wp2_with fail
   refine HCh.out.mono ?_;rintro e w2 ⟨vC,rfl,hC,hb2⟩;have HW2:=qI (HWa.out.below hb2);have HB2:=qI (HBa.out.trans (hb2.mono HBa.out.size));have HC:=qI hC;generalize dQ pol nodes ⟨any,hs⟩=C at *;obtain ⟨ac,cc,rfl,_⟩:=hC.form;clear hC hb2 HWa HBa HCh HX c0 c1
   go_wp2_with fail
   generalize hB2:w2.heap.size=B at *
   go_loopw [10,30] (λvN i wq=>∃ i':Nat,i'<=C.length/\i=.int .i64 i'/\Hid (wq.ownsRow B 223 2 vN (eF C W i').length (dE (eF C W i')))/\Hid (Below B w2 wq)) (λ_ i _=>C.length - (intOf i).toNat)
   case atStart=>exact ⟨0,by omega,rfl,Qw _ _ _ _,Q0 _ _⟩
   case round=>
    obtain ⟨i',hi,rfl,HR,HBq⟩:=hrel;have hszq:B<=wr.heap.size:=Q5 (Nat.le_of_eq hB2.symm) HBq.out.size;have hNl:=Ost.rz C W i';have hml:i'*W.length<=16*65536:=Nat.mul_le_mul (by omega) (by omega);have HStep:Hid (eF C W (i'+1)=dp (C.getD i' (0,false)) W (eF C W i') W.length):=rfl;obtain ⟨an0,cn0,rfl⟩:=fS HR.out
    by_cases hit:i'<C.length
    ·obtain ⟨ac',cc',hv',hcs⟩:=(HC.out.below (by rw [hB2];exact HBq.out)).form;obtain ⟨rfl,rfl⟩:ac=ac'/\cc=cc':=by simpa using hv'
     obtain ⟨b3,o3,rfl,hbl3,hcs⟩:=hcs (by omega);obtain ⟨d0,d1⟩:=hcs i' hit;have hm:=HLc.out _ (Ost.dO C (0,false) i' hit);clear hcs hv';generalize C.getD i' (0,false)=x at *;obtain ⟨m,g⟩:=x;simp only at d0 d1 hm;generalize eF C W i'=N at *;have HRa:=qI (HR.out.alloc (.cells #[.int .u8 (m:Nat),.bool g] 223));have HBa:=qI (HBq.out.alloc hszq (.cells #[.int .u8 (m:Nat),.bool g] 223));have HLn:=qI (HR.out.lt);have hL0:(wr.alloc (.cells #[.int .u8 (m:Nat),.bool g] 223)).cell? ⟨wr.heap.size,0,none⟩=some (.int .u8 (m:Nat)):=by simp
     have hL1:(wr.alloc (.cells #[.int .u8 (m:Nat),.bool g] 223)).cell? ⟨wr.heap.size,1,none⟩=some (.bool g):=by simp
     have hL0:=qI hL0;have hL1:=qI hL1;clear HR HBq
     go_wp2_with fail
     generalize hLL:wr.heap.size=L at *
     go_loopw [10,36] (λvN i wx=>∃ (j:Nat) (vv:Value),j<=W.length/\i=.int .i64 j/\vN=vv/\Hid (wx.ownsRow B 223 2 vv (dp (m,g) W N j).length (dE (dp (m,g) W N j)))/\Hid (Below B w2 wx)/\wx.cell? ⟨L,0,none⟩=some (.int .u8 (m:Nat))/\wx.cell? ⟨L,1,none⟩=some (.bool g)/\Hid (some L≠vv.ownBlock)) (λ_ i _=>W.length - (intOf i).toNat)
     case atStart=>exact ⟨0,_,by omega,rfl,rfl,HRa.out,HBa.out,hL0.out,hL1.out,λh=>by have:=(HLn.out L h.symm).2;omega⟩
     case round=>
      obtain ⟨j,vv,hj,rfl,rfl,HRx,HBx,l0,l1,HOwn⟩:=hrel;clear HRa HBa hL0 hL1 HLn hLL;have hszx:B<=wr.heap.size:=Q5 (Nat.le_of_eq hB2.symm) HBx.out.size;have hLx:=Q3 _ _ l0;have hnl2:=Ost.ry (m,g) W N j;obtain ⟨an,cn,rfl⟩:=fS HRx.out
      by_cases hjt:j<W.length
      ·obtain ⟨aw',cw',hv',hcs⟩:=(HW2.out.below (by rw [hB2];exact HBx.out)).form;obtain ⟨rfl,rfl⟩:aw=aw'/\cw=cw':=by simpa using hv'
       obtain ⟨b4,o4,rfl,hbl4,hcs⟩:=hcs (by omega);obtain ⟨q0,q1⟩:=hcs j hjt;have hpp:=HLw.out _ (Ost.dO W (0,false) j hjt);have HStp:dp (m,g) W N (j+1)=if (Ost.com (W.getD j (0,false)) (m,g)).1=0 then dp (m,g) W N j else dP (dp (m,g) W N j) (Ost.com (W.getD j (0,false)) (m,g)):=rfl
       clear hcs hv';generalize W.getD j (0,false)=z at *;obtain ⟨p,f⟩:=z;simp only at q0 q1 hpp;have hand:=rC p m hpp hm
       rcases two f with hf|hf
       ·subst hf;have HCo:Hid (Ost.com (p,true) (m,g)=(p &&& m,g)):=by cases g <;> rfl
        rw [HCo.out] at HStp;have HWi:=qI (nY B (.slice an (dp (m,g) W N j).length cn) (dp (m,g) W N j) (p &&& m,g) ((wr.alloc (.cells #[.int .u8 (p:Nat),.bool true] 223)).alloc (.cells #[.int .u8 ((p &&& m:Nat):Int),.bool g] 223)) ((HRx.out.alloc _).alloc _) (by omega) (by simp;omega));unfold vH at HWi;have HBx2:=qI ((HBx.out.alloc hszx (.cells #[.int .u8 (p:Nat),.bool true] 223)).alloc (by simp;omega) (.cells #[.int .u8 ((p &&& m:Nat):Int),.bool g] 223));have HRx2:=qI ((HRx.out.alloc (.cells #[.int .u8 (p:Nat),.bool true] 223)).alloc (.cells #[.int .u8 ((p &&& m:Nat):Int),.bool g] 223));have z0:=eP l0 (.cells #[.int .u8 (p:Nat),.bool true] 223);have z1:=eP l1 (.cells #[.int .u8 (p:Nat),.bool true] 223);have zz0:=eP z0 (.cells #[.int .u8 ((p &&& m:Nat):Int),.bool g] 223);have zz1:=eP z1 (.cells #[.int .u8 ((p &&& m:Nat):Int),.bool g] 223)
        by_cases hz:p &&& m=0
        ·have hz0:((p &&& m:Nat):Int)=0:=by omega
         rw [if_pos hz] at HStp;have HStp:=qI HStp;rw [hz0] at HBx2 HRx2 zz0 zz1 hand;clear hz hz0 HWi
         go_wp2
         go_roundw
         case rel=>exact ⟨j+1,_,by omega,by go_num,rfl,by rw [HStp.out];exact HRx2.out,HBx2.out,zz0,zz1,HOwn.out⟩
         case measure=>simp [intOf];omega
        ·have hz2:(((p &&& m:Nat):Int) == 0)=false:=by rw [Qr];omega
         rw [if_neg hz] at HStp;have HStp:=qI HStp;have hz:=qI hz;generalize p &&& m=pm at *
         go_wp2_with fail
         refine HWi.out.mono ?_;rintro e w5 ⟨v5,rfl,hr5,hb5,hfar⟩;have HR5:=qI hr5;have HB5:=qI (HBx2.out.trans hb5);have hLs:L<((wr.alloc (.cells #[.int .u8 (p:Nat),.bool true] 223)).alloc (.cells #[.int .u8 (pm:Int),.bool g] 223)).heap.size:=by simp;omega
         have y0:=l7 (hfar L hLs HOwn.out).1 zz0;have y1:=l7 (hfar L hLs HOwn.out).1 zz1;have HOwn5:=qI (hfar L hLs HOwn.out).2;obtain ⟨a5,c5,rfl⟩:=fS HR5.out;clear hr5 hb5 hfar hLs HWi zz0 zz1 z0 z1 l0 l1 HBx2 HRx2
         go_wp2
         go_roundw
         case rel=>exact ⟨j+1,_,by omega,by go_num,rfl,by rw [HStp.out];exact HR5.out,HB5.out,y0,y1,HOwn5.out⟩
         case measure=>simp [intOf];omega
       ·subst hf;have HCo:Hid (Ost.com (p,false) (m,g)=(p &&& m,false)):=by rfl
        rw [HCo.out] at HStp;have HWi:=qI (nY B (.slice an (dp (m,g) W N j).length cn) (dp (m,g) W N j) (p &&& m,false) ((wr.alloc (.cells #[.int .u8 (p:Nat),.bool false] 223)).alloc (.cells #[.int .u8 ((p &&& m:Nat):Int),.bool false] 223)) ((HRx.out.alloc _).alloc _) (by omega) (by simp;omega));unfold vH at HWi;have HBx2:=qI ((HBx.out.alloc hszx (.cells #[.int .u8 (p:Nat),.bool false] 223)).alloc (by simp;omega) (.cells #[.int .u8 ((p &&& m:Nat):Int),.bool false] 223));have HRx2:=qI ((HRx.out.alloc (.cells #[.int .u8 (p:Nat),.bool false] 223)).alloc (.cells #[.int .u8 ((p &&& m:Nat):Int),.bool false] 223));have z0:=eP l0 (.cells #[.int .u8 (p:Nat),.bool false] 223);have z1:=eP l1 (.cells #[.int .u8 (p:Nat),.bool false] 223);have zz0:=eP z0 (.cells #[.int .u8 ((p &&& m:Nat):Int),.bool false] 223);have zz1:=eP z1 (.cells #[.int .u8 ((p &&& m:Nat):Int),.bool false] 223)
        by_cases hz:p &&& m=0
        ·have hz0:((p &&& m:Nat):Int)=0:=by omega
         rw [if_pos hz] at HStp;have HStp:=qI HStp;rw [hz0] at HBx2 HRx2 zz0 zz1 hand;clear hz hz0 HWi
         go_wp2
         go_roundw
         case rel=>exact ⟨j+1,_,by omega,by go_num,rfl,by rw [HStp.out];exact HRx2.out,HBx2.out,zz0,zz1,HOwn.out⟩
         case measure=>simp [intOf];omega
        ·have hz2:(((p &&& m:Nat):Int) == 0)=false:=by rw [Qr];omega
         rw [if_neg hz] at HStp;have HStp:=qI HStp;have hz:=qI hz;generalize p &&& m=pm at *
         go_wp2_with fail
         refine HWi.out.mono ?_;rintro e w5 ⟨v5,rfl,hr5,hb5,hfar⟩;have HR5:=qI hr5;have HB5:=qI (HBx2.out.trans hb5);have hLs:L<((wr.alloc (.cells #[.int .u8 (p:Nat),.bool false] 223)).alloc (.cells #[.int .u8 (pm:Int),.bool false] 223)).heap.size:=by simp;omega
         have y0:=l7 (hfar L hLs HOwn.out).1 zz0;have y1:=l7 (hfar L hLs HOwn.out).1 zz1;have HOwn5:=qI (hfar L hLs HOwn.out).2;obtain ⟨a5,c5,rfl⟩:=fS HR5.out;clear hr5 hb5 hfar hLs HWi zz0 zz1 z0 z1 l0 l1 HBx2 HRx2
         go_wp2
         go_roundw
         case rel=>exact ⟨j+1,_,by omega,by go_num,rfl,by rw [HStp.out];exact HR5.out,HB5.out,y0,y1,HOwn5.out⟩
         case measure=>simp [intOf];omega
      ·have hjl:j=W.length:=by omega
       subst hjl
       go_wp2
       go_roundw
       case rel=>exact ⟨i'+1,by omega,by go_num,by rw [HStep.out];exact HRx.out,HBx.out⟩
       case measure=>simp [intOf];omega
    ·have hil:i'=C.length:=by omega
     subst hil;have HH:=qI (bo.of_row HR.out);have hBs:w.heap.size<=B:=by rw [<- hB2];exact HB2.out.size
     have HBf:=qI (HB2.out.trans (HBq.out.mono hBs));have HFr2:=qI (rm HR.out hBs)
     go_wp2
     go_roundw
     case rel=>exact ⟨k+1,by omega,by go_num,by rw [HNx.out];exact HH.out,HBf.out,HFr2.out⟩
     case measure=>simp [intOf];omega
  ·have hkl:k=ws.length:=by omega
   subst hkl;obtain ⟨aw,cw,rfl,_⟩:=bo.form HW.out
   go_wp2
   go_ret;exact ⟨_,rfl,HW.out,HB.out,HFr.out⟩
end
section
open RowKit
open Ost (Hi Wi wi0 Low bet pop8 dq dh rn told)
theorem l8 {fn:Func} {p u t:Tmp} {ty:TypeId} (h:fn.results=#[.cell p ty,.tmp u,.tmp t]) (tmps:Array Value) (P:Program) (w:World) :
  (results fn tmps).run P w =
   ((asAddr (tmps.getD p undef)).run P w).andThen λa w₁=>((loadVar ty a).run P w₁).andThen λv w₂=>.ok (.tuple #[v,tmps.getD u undef,tmps.getD t undef]) w₂:=by
 simp only [results,h]
 simp [Sem.run_bind,Result.andThen]
theorem rD {nodes:Nat} (h:nodes<=15):bits BinOp.andNot IntKind.u8 (nodes:Int) 15=0:=by
 have key:∀ (x:Fin 16),bits BinOp.andNot IntKind.u8 ((x.val:Nat):Int) 15=0:=by decide +kernel
 exact key ⟨nodes,by omega⟩
theorem Aa (nodes:Nat) (ao:Option Addr) (n c:Nat) (w:World) (hn:1<=nodes/\nodes<=15) (hl:n<=4) :
  Calls Tryz.prog 126 #[.int .i64 0,.int .u8 nodes,.slice ao n c] w λe w'=>e=.returned (.tuple #[vH (nodes,true),.bool true,.nilIface])/\Below w.heap.size w w':=by
 have HB:Hid (Below w.heap.size w (w.alloc (.cells #[.int .u8 0,.bool false] 223))):=(Q0 _ _).alloc (lR) _;unfold vH;have hnot:=rD hn.2;have h4:((nodes:Int) == 0)=false:=by rw [Qr];omega
 go_enter Tryz.func126,Tryz.ntmps126
 go_wp2_with fail
 (try simp only [Exit.inBlock,Exit.then]);refine bodyPost_ret (v:=.tuple #[.agg #[.int .u8 nodes,.bool true],.bool true,.nilIface]) ?_ rfl ⟨rfl,?_⟩
 ·rw [l8 rfl];go_simp
 ·first
   | exact HB.out
   | exact (Q0 _ _).alloc (lR) _
   | exact (HB.out.setCell (lR) _).setCell (lR) _
structure gF (u:World) (N:Nat) (h:Hi):Prop where
 c00:u.cell? ⟨N,0,none⟩=some (.int .u8 0)
 c01:u.cell? ⟨N,1,none⟩=some (.bool false)
 c10:u.cell? ⟨N+1,0,none⟩=some (.int .u8 (h.1:Nat))
 c11:u.cell? ⟨N+1,1,none⟩=some (.bool h.2)
 f00:u.frozen? ⟨N,0,none⟩=false
 f01:u.frozen? ⟨N,1,none⟩=false
 f10:u.frozen? ⟨N+1,0,none⟩=false
 f11:u.frozen? ⟨N+1,1,none⟩=false
theorem gF.lt {u:World} {N:Nat} {h:Hi} (e:gF u N h):N+1<u.heap.size:=Q3 u _ e.c10
theorem gF.below {u u':World} {N K:Nat} {h:Hi} (e:gF u N h) (hb:Below K u u') (hK:N+2<=K):gF u' N h:=
 ⟨(hb.cell (p:=⟨N,0,none⟩) (by show N<K;omega)).trans e.c00,(hb.cell (p:=⟨N,1,none⟩) (by show N<K;omega)).trans e.c01,(hb.cell (p:=⟨N+1,0,none⟩) (by show N+1<K;omega)).trans e.c10,(hb.cell (p:=⟨N+1,1,none⟩) (by show N+1<K;omega)).trans e.c11,
  (hb.frozen (p:=⟨N,0,none⟩) (by show N<K;omega)).trans e.f00,(hb.frozen (p:=⟨N,1,none⟩) (by show N<K;omega)).trans e.f01,(hb.frozen (p:=⟨N+1,0,none⟩) (by show N+1<K;omega)).trans e.f10,(hb.frozen (p:=⟨N+1,1,none⟩) (by show N+1<K;omega)).trans e.f11⟩
theorem gF.set {u:World} {N:Nat} {h:Hi} (e:gF u N h) (m:Nat) (g:Bool):gF ((u.setCell ⟨N+1,0,none⟩ (.int .u8 (m:Nat))).setCell ⟨N+1,1,none⟩ (.bool g)) N (m,g):=by
 obtain ⟨c00,c01,c10,c11,f00,f01,f10,f11⟩:=e;refine ⟨?_,?_,?_,?_,?_,?_,?_,?_⟩ <;> go_simp
theorem bo.set {w:World} {v:Value} {l:List Hi} {N:Nat} (h:bo w v l) (hfr:∀ b o n c,v=.slice (some ⟨b,o,none⟩) n c->N+2<=b) (x y:Value):bo ((w.setCell ⟨N+1,0,none⟩ x).setCell ⟨N+1,1,none⟩ y) v l:=by
 rcases h with h|⟨b,o,c',hv,hlt,hc⟩
 ·exact .inl h
 ·have hb:=hfr b o _ _ hv;refine .inr ⟨b,o,c',hv,by simpa using hlt,λk hk=>?_⟩;have e1:((w.setCell ⟨N+1,0,none⟩ x).setCell ⟨N+1,1,none⟩ y).heap[b]?=w.heap[b]?:=by
   rw [Below.heap_setCell _ _ _ _ (by show b≠N+1;omega),Below.heap_setCell _ _ _ _ (by show b≠N+1;omega)]
  exact ⟨(World.cell?_of_block (w:=w) (a:=⟨b,o+k*2,none⟩) e1).trans (hc k hk).1,(World.cell?_of_block (w:=w) (a:=⟨b,o+k*2+1,none⟩) e1).trans (hc k hk).2⟩
theorem Ab (pol:Int) (nodes:Nat) (v:Value) (ws:List Wi) (w:World) (hv:fA w v ws) (hw:n9 ws) (hl:ws.length<=4) (hn:1<=nodes/\nodes<=15) (hp:1<=pol/\pol<=3) :
  Calls Tryz.prog 126 #[.int .i64 pol,.int .u8 nodes,v] w λe w'=>e=.returned (.tuple #[vH (told pol nodes ws),.bool ((told pol nodes ws).2 || decide (pol=1)),.nilIface])/\Below w.heap.size w w':=by
 have HX:Hid (Below w.heap.size w ((w.alloc (.cells #[.int .u8 0,.bool false] 223)).alloc (.cells #[.int .u8 (nodes:Nat),.bool false] 223))):=((Q0 _ _).alloc (lR) _).alloc (by simp) _;have HO:=qI (zZ pol nodes v ws ((w.alloc (.cells #[.int .u8 0,.bool false] 223)).alloc (.cells #[.int .u8 (nodes:Nat),.bool false] 223)) (hv.below HX.out) hw hl (by omega) (by omega));have HLw:=qI (Ost.iL.low (Ost.kz pol nodes ws ws.length) (show nodes<256 by omega));have hTo:Hid (told pol nodes ws=dh (dq pol nodes ws ws.length) (nodes,false) (dq pol nodes ws ws.length).length):=rfl;have hlenW:=Ost.rB pol nodes ws (λy hy=>(hw y hy).2) ws.length (lR);have hpow:=Ost.rA ws.length hl;generalize told pol nodes ws=T at *;generalize dq pol nodes ws ws.length=W at *;obtain ⟨ao,c,rfl,_⟩:=hv.form;clear hv hw;have hnot:=rD hn.2;have h4:((nodes:Int) == 0)=false:=by rw [Qr];omega
 obtain ⟨hp1,hp2⟩:=hp;have hp0:0<=pol:=by omega
 have hp3:(pol == 0)=false:=by rw [Qr];omega
 have HE0:Hid (gF ((w.alloc (.cells #[.int .u8 0,.bool false] 223)).alloc (.cells #[.int .u8 (nodes:Nat),.bool false] 223)) w.heap.size (nodes,false)):=by
  refine ⟨?_,?_,?_,?_,?_,?_,?_,?_⟩ <;> go_simp
 unfold vH at *
 go_enter Tryz.func126,Tryz.ntmps126
 go_wp2_with fail
 refine HO.out.mono ?_;rintro e w2 ⟨vC,rfl,hC,hb2,hfr⟩;have HB:=qI (HX.out.trans (hb2.mono (by simp;omega)));have HE:=qI (HE0.out.below hb2 (by simp));have HC:=qI hC;have HFr:Hid (∀ b o n c,vC=.slice (some ⟨b,o,none⟩) n c->w.heap.size+2<=b):=λb o n c h=>Q5 (by simp) (hfr b o n c h)
 obtain ⟨ac,cc,rfl,_⟩:=hC.form;clear hC hb2 HE0 HO HX hfr
 go_wp2
 go_loopw [45] (λi wr=>∃ k:Nat,k<=W.length/\i=.int .i64 k/\Hid (gF wr w.heap.size (dh W (nodes,false) k))/\Hid (bo wr (.slice ac W.length cc) W)/\Hid (Below w.heap.size w wr)) (λi _=>W.length - (intOf i).toNat)
 case atStart=>exact ⟨0,by omega,rfl,HE.out,HC.out,HB.out⟩
 case round=>
  obtain ⟨k,hk,rfl,HEr,HCr,HBr⟩:=hrel;clear HE HC HB;have hb256:=Ost.ro HLw.out (show ((nodes,false):Hi).1<256 by show nodes<256;omega) k hk
  by_cases hlt:k<W.length
  ·obtain ⟨ac',cc',hv',hcs⟩:=HCr.out.form;obtain ⟨rfl,rfl⟩:ac=ac'/\cc=cc':=by simpa using hv'
   obtain ⟨b,o,rfl,hbl,hcs⟩:=hcs (by omega);obtain ⟨c0,c1⟩:=hcs k hlt;have hx:=HLw.out _ (Ost.dO W (0,false) k hlt);have HSt:dh W (nodes,false) (k+1)=if bet (W.getD k (0,false)) (dh W (nodes,false) k) then W.getD k (0,false) else dh W (nodes,false) k:=rfl
   clear hcs hv';generalize W.getD k (0,false)=x at *;generalize dh W (nodes,false) k=y at *;obtain ⟨m,g⟩:=x;obtain ⟨p,f⟩:=y;simp only at c0 c1 hx hb256;have HX:=qI ((Q0 wr.heap.size wr).alloc (lR) (.cells #[.int .u8 (m:Nat),.bool g] 223));have HEa:=qI (HEr.out.below HX.out HEr.out.lt);have HCa:=qI (HCr.out.below HX.out);have HBa:=qI (HBr.out.trans (HX.out.mono HBr.out.size));have hNw:=HEr.out.lt;have e0:=HEa.out.c10;have e1:=HEa.out.c11;simp only at e0 e1;have HBt:=qI (zU (m,g) (p,f) (wr.alloc (.cells #[.int .u8 (m:Nat),.bool g] 223)) hx hb256);have hL0:(wr.alloc (.cells #[.int .u8 (m:Nat),.bool g] 223)).cell? ⟨wr.heap.size,0,none⟩=some (.int .u8 (m:Nat)):=by simp
   have hL1:(wr.alloc (.cells #[.int .u8 (m:Nat),.bool g] 223)).cell? ⟨wr.heap.size,1,none⟩=some (.bool g):=by simp
   have hL0:=qI hL0;have hL1:=qI hL1;unfold vH at HBt;clear HEr HCr HBr
   go_wp2_with fail
   refine HBt.out.mono ?_;rintro e w5 ⟨rfl,hb5⟩;have HE5:=qI (HEa.out.below hb5 HEa.out.lt);have HC5:=qI (HCa.out.below hb5);have HB5:=qI (HBa.out.trans (hb5.mono HBa.out.size));have l0:=(hb5.cell (p:=⟨wr.heap.size,0,none⟩) (by simp)).trans hL0.out;have l1:=(hb5.cell (p:=⟨wr.heap.size,1,none⟩) (by simp)).trans hL1.out;clear hb5 HBt hL0 hL1 HEa HCa HBa HX c0 c1 e0 e1
   rcases two (bet (m,g) (p,f)) with hbt|hbt
   ·rw [hbt] at HSt ⊢;rw [if_pos rfl] at HSt;have HSt:=qI HSt;have HES:=qI (HE5.out.set m g);have HCS:=qI (HC5.out.set HFr.out (.int .u8 (m:Nat)) (.bool g));have HBS:=qI ((HB5.out.setCell (p:=⟨w.heap.size+1,0,none⟩) (by show w.heap.size<=w.heap.size+1;omega) (.int .u8 (m:Nat))).setCell (p:=⟨w.heap.size+1,1,none⟩) (by show w.heap.size<=w.heap.size+1;omega) (.bool g));have e0:=HE5.out.c10;have e1:=HE5.out.c11;have f0:=HE5.out.f10;have f1:=HE5.out.f11;simp only at e0 e1
    go_wp2
    go_roundw
    case rel=>exact ⟨k+1,by omega,by go_num,by rw [HSt.out];exact HES.out,HCS.out,HBS.out⟩
    case measure=>simp [intOf];omega
   ·rw [hbt] at HSt ⊢;rw [if_neg (by decide)] at HSt;have HSt:=qI HSt
    go_wp2
    go_roundw
    case rel=>exact ⟨k+1,by omega,by go_num,by rw [HSt.out];exact HE5.out,HC5.out,HB5.out⟩
    case measure=>simp [intOf];omega
  ·have hkl:k=W.length:=by omega
   subst hkl;rw [<- hTo.out] at HEr hb256;obtain ⟨p,f⟩:=T;have e0:=HEr.out.c10;have e1:=HEr.out.c11;have d0:=HEr.out.c00;have d1:=HEr.out.c01;have f0:=HEr.out.f00;have f1:=HEr.out.f01;simp only at e0 e1;have HBE:=qI ((HBr.out.setCell (p:=⟨w.heap.size,0,none⟩) (lR) (.int .u8 (p:Nat))).setCell (p:=⟨w.heap.size,1,none⟩) (lR) (.bool f))
   rcases two f with hf|hf
   ·subst hf
    go_wp2_with fail
    (try simp only [Exit.inBlock,Exit.then]);refine bodyPost_ret (v:=.tuple #[.agg #[.int .u8 (p:Nat),.bool true],.bool true,.nilIface]) ?_ rfl ⟨rfl,HBE.out⟩;rw [l8 rfl];go_simp
   ·subst hf
    by_cases hq:pol=1
    ·have hd:Hid (decide (pol=1)=true):=Qc hq;have hq2:(pol == 1)=true:=by rw [beq_iff_eq];exact hq
     clear hq
     go_wp2_with fail
     (try simp only [Exit.inBlock,Exit.then]);refine bodyPost_ret (v:=.tuple #[.agg #[.int .u8 (p:Nat),.bool false],.bool true,.nilIface]) ?_ rfl ⟨by rw [hd.out],HBE.out⟩;rw [l8 rfl];go_simp
    ·have hd:Hid (decide (pol=1)=false):=Q7 hq;have hq2:(pol == 1)=false:=by rw [Qr];exact hq
     clear hq
     go_wp2_with fail
     (try simp only [Exit.inBlock,Exit.then]);refine bodyPost_ret (v:=.tuple #[.agg #[.int .u8 (p:Nat),.bool false],.bool false,.nilIface]) ?_ rfl ⟨by rw [hd.out],HBE.out⟩;rw [l8 rfl];go_simp
end
