import Derived.Test.YtbmmnflgnmjboaaGreatDoorA5
import Derived.Deep.SlicePairs
import Derived.Laws.IdiomArrays
set_option maxRecDepth 100000
set_option maxHeartbeats 16000000
namespace Go.Proofs.YtbmmnflgnmjboaaGreatDoor
section
namespace Ost
abbrev Hi:=Nat × Bool
structure Wi where
 any:Bool
 hs:List Hi
def wi0:Wi:=⟨false,[]⟩
def bet (a b:Hi):Bool:=if a.2 != b.2 then a.2 else if pop8 a.1 != pop8 b.1 then decide (pop8 a.1<pop8 b.1) else decide (a.1<b.1)
def key (a:Hi):Nat:=(if a.2 then 0 else 4096)+pop8 a.1*256+a.1
theorem B8 (a b:Hi) (ha:a.1<256) (hb:b.1<256):bet a b=decide (key a<key b):=by
 obtain ⟨m,g⟩:=a;obtain ⟨n,f⟩:=b;have h1:=jp m;have h2:=jp n;simp only at ha hb;unfold bet key
 by_cases hp:pop8 m=pop8 n
 ·cases g <;> cases f <;> simp [hp] <;> omega
 ·have Ha:(pop8 m != pop8 n)=true:=by simpa using hp
  cases g <;> cases f <;> simp [hp] <;> omega
def dq (L:List Hi) (b0:Hi):Nat->Hi
 | 0=>b0
 | k+1=>if bet (L.getD k (0,false)) (dq L b0 k) then L.getD k (0,false) else dq L b0 k
def tP (L:List Hi) (b0:Hi):Hi:=dq L b0 L.length
def Low (L:List Hi):Prop:=∀ x,x∈L->x.1<256
theorem dY {α:Type} (L:List α) (d:α) (k:Nat) (h:k<L.length):L.getD k d∈L:=by simp [h]
theorem nQ {α:Type} {L:List α} (d:α) {x:α} (h:x∈L):∃ k,k<L.length/\L.getD k d=x:=by
 obtain ⟨k,hk,he⟩:=List.getElem_of_mem h;exact ⟨k,hk,by simp [hk,he]⟩
theorem B9 (L:List Hi) (b0:Hi) (hL:Low L) (h0:b0.1<256) (k:Nat) (hk:k<=L.length) :
  (dq L b0 k=b0\/dq L b0 k∈L)/\(dq L b0 k).1<256/\key (dq L b0 k)<=key b0/\∀ j,j<k->key (dq L b0 k)<=key (L.getD j (0,false)):=by
 induction k with
 | zero=>exact ⟨.inl rfl,h0,lR,λj hj=>by omega⟩
 | succ k ih=>
  obtain ⟨h1,h2,h3,h4⟩:=ih (by omega);have hm:=dY L (0,false) k (by omega);have hx:=hL _ hm;rw [dq];generalize hz:L.getD k (0,false)=x at *;have Ha:=B8 x (dq L b0 k) hx h2
  by_cases hb:bet x (dq L b0 k)=true
  ·rw [if_pos hb];rw [hb] at Ha;have He:=of_decide_eq_true Ha.symm;refine ⟨.inr hm,hx,by omega,λj hj=>?_⟩
   by_cases e:j=k
   ·subst e;rw [hz];exact lR
   ·have:=h4 j (by omega);omega
  ·rw [if_neg hb];have Hb:bet x (dq L b0 k)=false:=by simpa using hb
   rw [Hb] at Ha;have Hc:=of_decide_eq_false Ha.symm;refine ⟨h1,h2,h3,λj hj=>?_⟩
   by_cases e:j=k
   ·subst e;rw [hz];omega
   ·exact h4 j (by omega)
theorem tQ {L:List Hi} {b0:Hi} (hL:Low L) (h0:b0.1<256) (k:Nat) (hk:k<=L.length):(dq L b0 k).1<256:=(B9 L b0 hL h0 k hk).2.1
def okH (pol:Int) (h:Hi):Bool:=decide (pol<3) || (h.2 && decide (pop8 h.1=1))
def cho (pol:Int) (nodes:Nat) (w:Wi):List Hi:=if w.any then [(nodes,true)] else if (w.hs.filter (okH pol)).length=0 then [(nodes,false)] else w.hs.filter (okH pol)
def com (a c:Hi):Hi:=(a.1 &&& c.1,a.2 && c.2)
def jY (pol:Int) (nodes:Nat) (ws:List Wi):Nat->Hi->Prop
 | 0,h=>h=(nodes,true)
 | k+1,h=>h.1≠0/\∃ a c,jY pol nodes ws k a/\c∈cho pol nodes (ws.getD k wi0)/\h=com a c
theorem Ca {a c:Hi} {nodes:Nat} (h:a.1 &&& nodes=a.1):(com a c).1 &&& nodes=(com a c).1:=by
 show (a.1 &&& c.1) &&& nodes=a.1 &&& c.1
 rw [Nat.and_assoc,Nat.and_comm c.1,<- Nat.and_assoc,h]
theorem pP {pol:Int} {nodes:Nat} {ws:List Wi} {k:Nat} {h:Hi} (hr:jY pol nodes ws k h):h.1 &&& nodes=h.1:=by
 induction k generalizing h with
 | zero=>rw [show h=(nodes,true) from hr];exact Nat.and_self _
 | succ k ih=>
  obtain ⟨_,a,c,ha,_,rfl⟩:=hr;exact Ca (ih ha)
theorem Cb {pol:Int} {nodes:Nat} {ws:List Wi} {k:Nat} {h:Hi} (hn:nodes<256) (hr:jY pol nodes ws k h):h.1<256:=by
 rw [<- pP hr];exact Nat.lt_of_le_of_lt Nat.and_le_right hn
def jr (pol:Int) (nodes:Nat) (ws:List Wi) (k:Nat) (L:List Hi):Prop:=∀ x,x∈L↔jY pol nodes ws k x
theorem jr.low {pol:Int} {nodes:Nat} {ws:List Wi} {k:Nat} {L:List Hi} (h:jr pol nodes ws k L) (hn:nodes<256):Low L:=λx hx=>Cb hn ((h x).1 hx)
def within (nodes:Nat) (h:Hi):Hi:=(h.1 &&& nodes,h.2)
theorem tR {a c:Hi} {nodes:Nat} (h:a.1 &&& nodes=a.1):com a (within nodes c)=com a c:=by
 unfold com within
 show (a.1 &&& (c.1 &&& nodes),a.2 && c.2)=_
 rw [Nat.and_comm c.1,<- Nat.and_assoc,h]
def dZ (l:List Hi) (h:Hi):List Hi:=if h∈l then l else l++[h]
theorem tS (l:List Hi) (h x:Hi):x∈dZ l h↔x∈l\/x=h:=by
 unfold dZ
 split
 ·rename_i hm
  constructor
  ·exact .inl
  ·rintro (h1|rfl)
   ·exact h1
   ·exact hm
 ·simp
theorem tT (l:List Hi) (h:Hi):(dZ l h).length<=l.length+1:=by
 unfold dZ
 split
 ·omega
 ·simp
def cI (pol:Int) (nodes:Nat) (hs:List Hi):Nat->List Hi
 | 0=>[]
 | k+1=>if okH pol (hs.getD k (0,false)) then dZ (cI pol nodes hs k) (within nodes (hs.getD k (0,false))) else cI pol nodes hs k
theorem tU (pol:Int) (nodes:Nat) (hs:List Hi) (k:Nat):(cI pol nodes hs k).length<=k:=by
 induction k with
 | zero=>exact lR
 | succ k ih=>
  rw [cI]
  split
  ·exact Q5 (tT _ _) (by omega)
  ·omega
theorem Cc (pol:Int) (nodes:Nat) (hs:List Hi) (k:Nat) (x:Hi):x∈cI pol nodes hs k↔∃ j,j<k/\okH pol (hs.getD j (0,false))=true/\x=within nodes (hs.getD j (0,false)):=by
 induction k with
 | zero=>simp [cI]
 | succ k ih=>
  rw [cI]
  split
  ·rename_i h
   rw [tS,ih];constructor
   ·rintro (⟨j,hj,h1,h2⟩|h1)
    ·exact ⟨j,by omega,h1,h2⟩
    ·exact ⟨k,by omega,h,h1⟩
   ·rintro ⟨j,hj,h1,h2⟩
    by_cases e:j=k
    ·subst e;exact .inr h2
    ·exact .inl ⟨j,by omega,h1,h2⟩
  ·rename_i h
   rw [ih];constructor
   ·rintro ⟨j,hj,h1,h2⟩;exact ⟨j,by omega,h1,h2⟩
   ·rintro ⟨j,hj,h1,h2⟩
    by_cases e:j=k
    ·subst e;exact absurd h1 h
    ·exact ⟨j,by omega,h1,h2⟩
def ed (pol:Int) (nodes:Nat) (w:Wi):List Hi:=if w.any then [(nodes,true)] else if (cI pol nodes w.hs w.hs.length).length=0 then [(nodes,false)] else cI pol nodes w.hs w.hs.length
theorem pQ (pol:Int) (nodes:Nat) (hs:List Hi) (x:Hi):x∈cI pol nodes hs hs.length↔∃ c,c∈hs.filter (okH pol)/\x=within nodes c:=by
 rw [Cc];constructor
 ·rintro ⟨j,hj,h1,h2⟩;exact ⟨_,List.mem_filter.2 ⟨dY _ _ _ hj,h1⟩,h2⟩
 ·rintro ⟨c,hc,h2⟩;rw [List.mem_filter] at hc;obtain ⟨j,hj,rfl⟩:=nQ (0,false) hc.1;exact ⟨j,hj,hc.2,h2⟩
theorem tV {α:Type} (l:List α):l.length=0↔∀ x,x ∉ l:=by
 cases l with
 | nil=>simp
 | cons a r=>
  constructor
  ·intro h;simp at h
  ·intro h;exact absurd List.mem_cons_self (h a)
theorem pR (pol:Int) (nodes:Nat) (w:Wi) (x:Hi):x∈ed pol nodes w↔∃ c,c∈cho pol nodes w/\x=within nodes c:=by
 unfold ed cho;cases w.any
 ·have e:(cI pol nodes w.hs w.hs.length).length=0↔(w.hs.filter (okH pol)).length=0:=by
   rw [tV,tV];constructor
   ·intro h x hx;exact h (within nodes x) ((pQ ..).2 ⟨x,hx,rfl⟩)
   ·intro h x hx;obtain ⟨c,hc,_⟩:=(pQ ..).1 hx;exact h c hc
  simp only [Bool.false_eq_true,if_false]
  by_cases h:(w.hs.filter (okH pol)).length=0
  ·rw [if_pos h,if_pos (e.2 h)]
   simp [within]
  ·rw [if_neg h,if_neg (λh'=>h (e.1 h'))];exact pQ ..
 ·simp [within]
theorem tW (pol:Int) (nodes:Nat) (w:Wi) (h:w.hs.length<=16):(ed pol nodes w).length<=16:=by
 unfold ed
 split
 ·simp
 ·split
  ·simp
  ·exact Q5 (tU ..) h
def dA (c:Hi) (W:List Hi) (N:List Hi):Nat->List Hi
 | 0=>N
 | j+1=>if (com (W.getD j (0,false)) c).1=0 then dA c W N j else dZ (dA c W N j) (com (W.getD j (0,false)) c)
def eQ (C W:List Hi):Nat->List Hi
 | 0=>[]
 | i+1=>dA (C.getD i (0,false)) W (eQ C W i) W.length
theorem tX (c:Hi) (W N:List Hi) (j:Nat):(dA c W N j).length<=N.length+j:=by
 induction j with
 | zero=>exact lR
 | succ j ih=>
  rw [dA]
  split
  ·omega
  ·exact Q5 (tT _ _) (by omega)
theorem tY (C W:List Hi) (i:Nat):(eQ C W i).length<=i*W.length:=by
 induction i with
 | zero=>simp [eQ]
 | succ i ih=>
  rw [eQ,Nat.succ_mul];exact Q5 (tX ..) (by omega)
theorem Cd (c:Hi) (W N:List Hi) (j:Nat) (x:Hi):x∈dA c W N j↔x∈N\/∃ i,i<j/\x.1≠0/\x=com (W.getD i (0,false)) c:=by
 induction j with
 | zero=>simp [dA]
 | succ j ih=>
  rw [dA]
  split
  ·rename_i h
   rw [ih];constructor
   ·rintro (h1|⟨i,hi,h1⟩)
    ·exact .inl h1
    ·exact .inr ⟨i,by omega,h1⟩
   ·rintro (h1|⟨i,hi,h1,h2⟩)
    ·exact .inl h1
    ·by_cases e:i=j
     ·subst e;rw [<- h2] at h;exact absurd h h1
     ·exact .inr ⟨i,by omega,h1,h2⟩
  ·rename_i h
   rw [tS,ih];constructor
   ·rintro ((h1|⟨i,hi,h1⟩)|rfl)
    ·exact .inl h1
    ·exact .inr ⟨i,by omega,h1⟩
    ·exact .inr ⟨j,by omega,h,rfl⟩
   ·rintro (h1|⟨i,hi,h1,h2⟩)
    ·exact .inl (.inl h1)
    ·by_cases e:i=j
     ·subst e;exact .inr h2
     ·exact .inl (.inr ⟨i,by omega,h1,h2⟩)
theorem Ce (C W:List Hi) (i:Nat) (x:Hi):x∈eQ C W i↔x.1≠0/\∃ k,k<i/\∃ a,a∈W/\x=com a (C.getD k (0,false)):=by
 induction i with
 | zero=>simp [eQ]
 | succ i ih=>
  rw [eQ,Cd,ih];constructor
  ·rintro (⟨h0,k,hk,a,ha,h1⟩|⟨j,hj,h0,h1⟩)
   ·exact ⟨h0,k,by omega,a,ha,h1⟩
   ·exact ⟨h0,i,by omega,_,dY _ _ _ hj,h1⟩
  ·rintro ⟨h0,k,hk,a,ha,h1⟩
   by_cases e:k=i
   ·subst e;obtain ⟨j,hj,rfl⟩:=nQ (0,false) ha;exact .inr ⟨j,hj,h0,h1⟩
   ·exact .inl ⟨h0,k,by omega,a,ha,h1⟩
def dB (pol:Int) (nodes:Nat) (ws:List Wi):Nat->List Hi
 | 0=>[(nodes,true)]
 | k+1=>eQ (ed pol nodes (ws.getD k wi0)) (dB pol nodes ws k) (ed pol nodes (ws.getD k wi0)).length
theorem lW (pol:Int) (nodes:Nat) (ws:List Wi) (k:Nat):jr pol nodes ws k (dB pol nodes ws k):=by
 induction k with
 | zero=>intro x;simp [dB,jY]
 | succ k ih=>
  intro x;rw [dB,Ce,jY];constructor
  ·rintro ⟨h0,j,hj,a,ha,h1⟩;obtain ⟨c,hc,h2⟩:=(pR ..).1 (dY _ (0,false) _ hj);refine ⟨h0,a,c,(ih a).1 ha,hc,?_⟩;rw [h1,h2,tR (pP ((ih a).1 ha))]
  ·rintro ⟨h0,a,c,ha,hc,h1⟩;obtain ⟨j,hj,h2⟩:=nQ (0,false) ((pR ..).2 ⟨c,hc,rfl⟩);refine ⟨h0,j,hj,a,(ih a).2 ha,?_⟩;rw [h2,tR (pP ha),h1]
theorem tZ (k:Nat) (h:k<=4):16 ^ k<=65536:=by
 have:k=0\/k=1\/k=2\/k=3\/k=4:=by omega
 rcases this with rfl|rfl|rfl|rfl|rfl <;> decide
theorem ub (pol:Int) (nodes:Nat) (ws:List Wi) (hw:∀ w,w∈ws->w.hs.length<=16) (k:Nat) (hk:k<=ws.length):(dB pol nodes ws k).length<=16 ^ k:=by
 induction k with
 | zero=>simp [dB]
 | succ k ih=>
  rw [dB];have h1:=tY (ed pol nodes (ws.getD k wi0)) (dB pol nodes ws k) (ed pol nodes (ws.getD k wi0)).length;have h2:=tW pol nodes (ws.getD k wi0) (hw _ (dY _ _ _ (by omega)));have h3:=Nat.mul_le_mul h2 (ih (by omega));rw [Nat.pow_succ];omega
def told (pol:Int) (nodes:Nat) (ws:List Wi):Hi:=tP (dB pol nodes ws ws.length) (nodes,false)
theorem Cg (pol:Int) (nodes:Nat) (ws:List Wi) (hn:nodes<256):(told pol nodes ws).1<256:=tQ (jr.low (lW pol nodes ws ws.length) hn) hn _ (lR)
end Ost
end
section
open Go.ChangeShapes Go.WideShapes Go.ChangeAt Go.RowKit
open Ost (N4 Hi Wi wi0 Low)
theorem br.form {w:World} {v:Value} {l:List Hi} (h:br w v l):∃ ao c,v=.slice ao l.length c/\(0<l.length->∃ b o,ao=some ⟨b,o,none⟩/\b<w.heap.size/\∀ k,k<l.length->w.cell? ⟨b,o+k*2,none⟩=some (.int .u8 ((l.getD k (0,false)).1:Nat))/\w.cell? ⟨b,o+k*2+1,none⟩=some (.bool (l.getD k (0,false)).2)):=by
 rcases h with ⟨rfl,ao,c,rfl⟩|⟨b,o,c,rfl,Ha,hc⟩
 ·exact ⟨ao,c,rfl,λh=>by simp at h⟩
 ·exact ⟨_,c,rfl,λ_=>⟨b,o,rfl,Ha,hc⟩⟩
def fR (w:World) (v:Value) (ws:List Wi):Prop:=
 (ws=[]/\∃ ao c,v=.slice ao 0 c)\/∃ b o c,v=.slice (some ⟨b,o,none⟩) ws.length c/\b<w.heap.size/\∀ k,k<ws.length->w.cell? ⟨b,o+k*2,none⟩=some (.bool (ws.getD k wi0).any)/\∃ u,w.cell? ⟨b,o+k*2+1,none⟩=some u/\br w u (ws.getD k wi0).hs
theorem fR.below {w w':World} {v:Value} {ws:List Wi} (h:fR w v ws) (hb:Below w.heap.size w w'):fR w' v ws:=by
 rcases h with h|⟨b,o,c,hv,Ha,hc⟩
 ·exact .inl h
 ·refine .inr ⟨b,o,c,hv,Q1 Ha hb.size,λk hk=>?_⟩;obtain ⟨h1,u,h2,h3⟩:=hc k hk;exact ⟨(hb.cell (p:=⟨b,o+k*2,none⟩) Ha).trans h1,u,(hb.cell (p:=⟨b,o+k*2+1,none⟩) Ha).trans h2,h3.below hb⟩
theorem fR.form {w:World} {v:Value} {ws:List Wi} (h:fR w v ws):∃ ao c,v=.slice ao ws.length c/\(0<ws.length->∃ b o,ao=some ⟨b,o,none⟩/\b<w.heap.size/\∀ k,k<ws.length->w.cell? ⟨b,o+k*2,none⟩=some (.bool (ws.getD k wi0).any)/\∃ u,w.cell? ⟨b,o+k*2+1,none⟩=some u/\br w u (ws.getD k wi0).hs):=by
 rcases h with ⟨rfl,ao,c,rfl⟩|⟨b,o,c,rfl,Ha,hc⟩
 ·exact ⟨ao,c,rfl,λh=>by simp at h⟩
 ·exact ⟨_,c,rfl,λ_=>⟨b,o,rfl,Ha,hc⟩⟩
instance:Inhabited Wi:=⟨wi0⟩
end
section
open RowKit
open Ost (Hi Wi wi0 Low dZ bet pop8)
abbrev vH (h:Hi):Value:=.agg #[.int .u8 (h.1:Nat),.bool h.2]
def Found (l:List Hi) (h:Hi) (e:Ending):Prop:=(h∈l/\∃ r:Nat,e=.returned (.int .i64 r))\/(h ∉ l/\e=.returned (.int .i64 (-1)))
theorem Ch (v:Value) (l:List Hi) (h:Hi) (w:World) (hv:br w v l) (hl:l.length<=4000000) :
  Calls Tryz.prog 279 #[v,vH h] w λe w'=>Found l h e/\Below w.heap.size w w':=by
 obtain ⟨ao,c,rfl,hc⟩:=hv.form;have HC:=qI hc;clear hc hv;unfold vH;obtain ⟨p,g⟩:=h;have hX:Hid (Below w.heap.size w (w.alloc (.cells #[.int .u8 (p:Nat),.bool g] 223))):=(Q0 _ _).alloc (lR) _;have hY:=qI (show (w.alloc (.cells #[.int .u8 (p:Nat),.bool g] 223)).cell? ⟨w.heap.size,0,none⟩=some (.int .u8 (p:Nat))/\(w.alloc (.cells #[.int .u8 (p:Nat),.bool g] 223)).cell? ⟨w.heap.size,1,none⟩=some (.bool g) by simp)
 go_enter Tryz.func279,Tryz.ntmps279
 go_wp2
 go_loopw [8] (λi wr=>∃ k:Nat,k<=l.length/\i=.int .i64 k/\Hid (∀ j,j<k->l.getD j (0,false)≠(p,g))/\Hid (Below (w.heap.size+1) (w.alloc (.cells #[.int .u8 (p:Nat),.bool g] 223)) wr)) (λi _=>l.length - (intOf i).toNat)
 case atStart=>exact ⟨0,by omega,rfl,λj hj=>by omega,Q0 _ _⟩
 case round=>
  obtain ⟨k,hk,rfl,HN,HB⟩:=hrel
  by_cases hlt:k<l.length
  ·obtain ⟨b,o,rfl,hb,Ha⟩:=HC.out (by omega);have hB:=HB.out;have hx:=qI (Ost.dY l (0,false) k hlt);have hN:Hid (∀ x,l.getD k (0,false)=x->x≠(p,g)->∀ j,j<k+1->l.getD j (0,false)≠(p,g)):=by
    intro x hx Hb j hj
    by_cases e:j=k
    ·subst e;rw [hx];exact Hb
    ·exact HN.out j (by omega)
   have c0:=((hB.cell (p:=⟨b,o+k*2,none⟩) (by show b<w.heap.size+1;omega)).trans (hX.out.cell (p:=⟨b,o+k*2,none⟩) hb)).trans (Ha k hlt).1;have c1:=((hB.cell (p:=⟨b,o+k*2+1,none⟩) (by show b<w.heap.size+1;omega)).trans (hX.out.cell (p:=⟨b,o+k*2+1,none⟩) hb)).trans (Ha k hlt).2;have d0:=(hB.cell (p:=⟨w.heap.size,0,none⟩) (by show w.heap.size<w.heap.size+1;omega)).trans hY.out.1;have d1:=(hB.cell (p:=⟨w.heap.size,1,none⟩) (by show w.heap.size<w.heap.size+1;omega)).trans hY.out.2;clear hB Ha HN;generalize hz:l.getD k (0,false)=x at *;have hN:=qI (hN.out x rfl);obtain ⟨q,f⟩:=x;simp only at c0 c1;have hz:=qI hz
   by_cases hq:p=q
   ·rcases two (g == f) with hf|hf
    ·have:g=f:=by simpa using hf
     subst this;subst hq;clear hf
     go_wp2
     go_quiet (fail)
     go_wp2
     go_ret;exact ⟨.inl ⟨hx.out,k,rfl⟩,hX.out.trans (below_drewN (HB.out.mono (by omega)) _)⟩
    ·subst hq
     go_wp2
     go_quiet (fail)
     go_wp2
     go_roundw
     case rel=>exact ⟨k+1,by omega,by go_num,hN.out (by intro h;simp at h;rw [h] at hf;simp at hf),below_drewN HB.out _⟩
     case measure=>simp [intOf];omega
   ·have hf:((p:Int) == (q:Int))=false:=by rw [Qr];omega
    go_wp2
    go_quiet (fail)
    go_wp2
    go_roundw
    case rel=>exact ⟨k+1,by omega,by go_num,hN.out (by intro h;simp at h;exact hq h.1.symm),below_drewN HB.out _⟩
    case measure=>simp [intOf];omega
  ·have He:k=l.length:=by omega
   subst He;have Hc:Hid ((p,g) ∉ l):=by
    intro hm;obtain ⟨j,hj,he⟩:=Ost.nQ (0,false) hm;exact HN.out j hj he
   go_wp2
   go_ret;exact ⟨.inr ⟨Hc.out,rfl⟩,hX.out.trans (HB.out.mono (by omega))⟩
theorem Ci (v:Value) (l:List Hi) (h:Hi) (w:World) (hv:br w v l) (hl:l.length<=4000000) :
  Calls Tryz.prog 245 #[v,vH h] w λe w'=>e=.returned (.bool (decide (h∈l)))/\Below w.heap.size w w':=by
 obtain ⟨p,g⟩:=h;have hX:Hid (Below w.heap.size w (w.alloc (.cells #[.int .u8 (p:Nat),.bool g] 223))):=(Q0 _ _).alloc (lR) _;have HI:=qI (Ch v l (p,g) (w.alloc (.cells #[.int .u8 (p:Nat),.bool g] 223)) (hv.below hX.out) hl);obtain ⟨ao,c,rfl,_⟩:=hv.form;clear hv;unfold vH at *
 go_enter Tryz.func245,Tryz.ntmps245
 go_wp2_with fail
 refine HI.out.mono ?_;rintro e w1 ⟨hf,hb⟩;have hB:=qI (hX.out.trans (hb.mono (by simp)));clear hb
 rcases hf with ⟨hm,r,rfl⟩|⟨hm,rfl⟩
 ·have hm:=qI hm
  go_wp2
  go_ret;exact ⟨congrArg (λb=>Ending.returned (.bool b)) (Qc hm.out).symm,hB.out⟩
 ·have hm:=qI hm
  go_wp2
  go_ret;exact ⟨congrArg (λb=>Ending.returned (.bool b)) (Q7 hm.out).symm,hB.out⟩
def Cj (base:Nat) (w:World) (l:List Hi) (e:Ending) (w':World):Prop:=∃ v,e=.returned v/\w'.ownsRow base 223 2 v l.length (dM l)/\Below base w w'
def Ck (base:Nat) (v0:Value) (w:World) (l:List Hi) (e:Ending) (w':World):Prop:=∃ v,e=.returned v/\w'.ownsRow base 223 2 v l.length (dM l)/\Below base w w'/\∀ b,b<w.heap.size->some b≠v0.ownBlock->w'.heap[b]?=w.heap[b]?/\some b≠v.ownBlock
theorem pS (base:Nat) (v:Value) (l:List Hi) (h:Hi) (w:World) (hv:w.ownsRow base 223 2 v l.length (dM l)) (hl:l.length<=4000000) (hbase:base<=w.heap.size) :
  Calls Tryz.prog 198 #[v,vH h] w λe w'=>Ck base v w (dZ l h) e w':=by
 obtain ⟨p,g⟩:=h;have hX:Hid (Below w.heap.size w (w.alloc (.cells #[.int .u8 (p:Nat),.bool g] 223))):=(Q0 _ _).alloc (lR) _;have HI:=qI (Ci v l (p,g) (w.alloc (.cells #[.int .u8 (p:Nat),.bool g] 223)) ((br.of_row hv).below hX.out) hl);have HV:=qI (iL hv hX.out);have Hn:=qI hv.lt;obtain ⟨ao,c,rfl⟩:=gD hv;have hY:=qI (show (w.alloc (.cells #[.int .u8 (p:Nat),.bool g] 223)).cell? ⟨w.heap.size,0,none⟩=some (.int .u8 (p:Nat))/\(w.alloc (.cells #[.int .u8 (p:Nat),.bool g] 223)).cell? ⟨w.heap.size,1,none⟩=some (.bool g) by simp);clear hv;unfold vH at *;obtain ⟨i0,hi,Hg,Hk,Hf⟩:=info_parts tM
 go_enter Tryz.func198,Tryz.ntmps198
 go_wp2_with fail
 refine HI.out.mono ?_;rintro e w1 ⟨rfl,hb⟩;have hB:=qI (hX.out.trans (hb.mono (by simp)));have He:=qI (iL HV.out hb);have d0:=(hb.cell (p:=⟨w.heap.size,0,none⟩) (by simp)).trans hY.out.1;have d1:=(hb.cell (p:=⟨w.heap.size,1,none⟩) (by simp)).trans hY.out.2;have Hh:Hid (w.heap.size+1<=w1.heap.size):=Q5 (by simp) hb.size;clear hb HI HV hX hY
 by_cases hm:(p,g)∈l
 ·rw [Qc hm];have hw:Hid (dZ l (p,g)=l):=by unfold Hid dZ;rw [if_pos hm]
  clear hm
  go_wp2
  go_ret;exact ⟨_,rfl,by rw [hw.out];exact He.out,hB.out.mono hbase,λb hb hne=>⟨hB.out.block b hb,hne⟩⟩
 ·rw [Q7 hm];have hw:Hid (dZ l (p,g)=l++[(p,g)]):=by unfold Hid dZ;rw [if_neg hm]
  clear hm;have Hm:=Hh.out
  go_wp2_with (at_builtin;refine wpList_append_lies _ rfl _ _ 266 rfl base 223 i0 (.agg #[.int .u8 0,.bool false]) 2 2 Tryz.underlying266 hi Hg Hk Hf rfl (by decide) _ _ _ rfl (He.out.alloc _) ⟨_,0,none⟩ 1 1 [.int .u8 p,.bool g] rfl rfl (by intro j u hj;match j,hj with|0,hj=>(simp at hj;subst hj;simp [Addr.add])|1,hj=>(simp at hj;subst hj;simp [Addr.add])) (by intro u hu;simp at hu;rcases hu with rfl|rfl <;> rfl) (by decide) (by unfold maxLen;omega) (by omega) (by simp;omega) _ rfl ?_;intro g' cap' w2 Hb Ha Hc Hj)
  go_ret;refine ⟨_,rfl,by rw [hw.out,nO,Q2];exact Hb,?_,λb hb hne=>⟨?_,?_⟩⟩
  ·exact ((hB.out.mono hbase).alloc (by omega) _).grown Ha (by simp;omega) (λj hj=>(He.out.lt j hj).1)
  ·rw [Ha.block b (by simp;omega) hne,heap_alloc_old _ _ (by omega)];exact hB.out.block b hb
  ·intro he;have Hl:b=g':=by simpa [Value.ownBlock] using he
   subst Hl
   rcases Hc with h|h
   ·exact hne h.symm
   ·simp at h;omega
theorem Cm (base:Nat) (v:Value) (l:List Hi) (h:Hi) (w:World) (hv:w.ownsRow base 223 2 v l.length (dM l)) (hl:l.length<=4000000) (hbase:base<=w.heap.size) :
  Calls Tryz.prog 198 #[v,vH h] w λe w'=>Cj base w (dZ l h) e w':=
 (pS base v l h w hv hl hbase).mono λ_ _ ⟨v',he,hr,hb,_⟩=>⟨v',he,hr,hb⟩
theorem Cn (a b:Hi) (w:World) (ha:a.1<256) (hb:b.1<256) :
  Calls Tryz.prog 161 #[vH a,vH b] w λe w'=>e=.returned (.bool (bet a b))/\Below w.heap.size w w':=by
 obtain ⟨m,g⟩:=a;obtain ⟨n,f⟩:=b;simp only at ha hb;unfold vH;have HB:Hid (Below w.heap.size w ((w.alloc (.cells #[.int .u8 (m:Nat),.bool g] 223)).alloc (.cells #[.int .u8 (n:Nat),.bool f] 223))):=((Q0 _ _).alloc (lR) _).alloc (by simp) _;have HP:=qI (λw=>lV m w ha);have HQ:=qI (λw=>lV n w hb);obtain ⟨r,hr⟩:∃ r,r=bet (m,g) (n,f):=⟨_,rfl⟩;rw [<- hr];have HR:=qI hr;clear hr
 go_enter Tryz.func161,Tryz.ntmps161
 rcases two (g != f) with Ha|Ha
 ·have hR:Hid (g=r):=by unfold Hid;rw [HR.out];unfold bet;rw [if_pos Ha]
  have He:(!g == f)=true:=Ha;clear Ha
  go_wp2
  go_ret;exact ⟨congrArg (λb=>Ending.returned (.bool b)) hR.out,HB.out⟩
 ·have He:(!g == f)=false:=Ha;have Hg:=Ost.jp m;have Hf:=Ost.jp n
  go_wp2_with fail
  have k0:((w.alloc (.cells #[.int .u8 (m:Nat),.bool g] 223)).alloc (.cells #[.int .u8 (n:Nat),.bool f] 223)).cell? ⟨w.heap.size,0,none⟩=some (.int .u8 (m:Nat)):=by go_simp
  have k1:((w.alloc (.cells #[.int .u8 (m:Nat),.bool g] 223)).alloc (.cells #[.int .u8 (n:Nat),.bool f] 223)).cell? ⟨w.heap.size+1,0,none⟩=some (.int .u8 (n:Nat)):=by go_simp
  generalize ((w.alloc (.cells #[.int .u8 (m:Nat),.bool g] 223)).alloc (.cells #[.int .u8 (n:Nat),.bool f] 223))=W at *
  by_cases hpq:pop8 m=pop8 n
  ·have hR:Hid (decide (m<n)=r):=by
    unfold Hid;rw [HR.out];unfold bet;rw [if_neg (by rw [Ha];simp),if_neg (by simp [hpq])]
   have Hc:((pop8 m:Int) == (pop8 n:Int))=true:=by rw [beq_iff_eq];omega
   clear Ha hpq HR;generalize pop8 m=x at *;generalize pop8 n=y at *
   go_region_with (go_at_call 199;go_loud (first|(refine (HP.out _).mono ?_;rintro e w5 ⟨rfl,Hb⟩;subst w5)|(refine (HQ.out _).mono ?_;rintro e w5 ⟨rfl,Hb⟩;subst w5)))
   all_goals
    go_wp2
    go_ret;exact ⟨congrArg (λb=>Ending.returned (.bool b)) hR.out,below_drewN HB.out _⟩
  ·have hR:Hid (decide (pop8 m<pop8 n)=r):=by
    unfold Hid;rw [HR.out];unfold bet;rw [if_neg (by rw [Ha];simp),if_pos (by simpa using hpq)]
   have Hc:((pop8 m:Int) == (pop8 n:Int))=false:=by rw [Qr];omega
   clear Ha hpq HR;generalize pop8 m=x at *;generalize pop8 n=y at *
   go_region_with (go_at_call 199;go_loud (first|(refine (HP.out _).mono ?_;rintro e w5 ⟨rfl,Hb⟩;subst w5)|(refine (HQ.out _).mono ?_;rintro e w5 ⟨rfl,Hb⟩;subst w5)))
   all_goals
    go_wp2_with fail
    go_region_with (go_at_call 199;go_loud (first|(refine (HP.out _).mono ?_;rintro e w5 ⟨rfl,Hb⟩;subst w5)|(refine (HQ.out _).mono ?_;rintro e w5 ⟨rfl,Hb⟩;subst w5)))
    all_goals
     go_wp2
     go_ret;exact ⟨congrArg (λb=>Ending.returned (.bool b)) hR.out,below_drewN (below_drewN HB.out _) _⟩
end
section
open RowKit
open Ost (Hi Wi wi0 Low dZ bet pop8 cI ed okH within)
def pT (w:World) (l:List Hi) (e:Ending) (w':World):Prop:=∃ v,e=.returned v/\br w' v l/\Below w.heap.size w w'
theorem ud (a b:Nat) (ha:a<256) (hb:b<256):bits BinOp.and IntKind.u8 (a:Int) (b:Int)=((a &&& b:Nat):Int):=by
 have hx:a &&& b<2 ^ 8:=Nat.and_lt_two_pow _ (by omega);have h1:(BitVec.ofInt 8 (a:Int)).toNat=a:=by
  rw [BitVec.ofInt_natCast,BitVec.toNat_ofNat];exact Nat.mod_eq_of_lt (by omega)
 have h2:(BitVec.ofInt 8 (b:Int)).toNat=b:=by
  rw [BitVec.ofInt_natCast,BitVec.toNat_ofNat];exact Nat.mod_eq_of_lt (by omega)
 show IntKind.u8.wrap ((BitVec.ofInt 8 (a:Int) &&& BitVec.ofInt 8 (b:Int)).toNat:Int)=_
 rw [BitVec.toNat_and,h1,h2]
 show ((a &&& b:Nat):Int) % 256=_
 omega
theorem pU (w:World) (m:Nat) (g:Bool) (t:TypeId):br (w.alloc (.cells #[.int .u8 (m:Nat),.bool g] t)) (.slice (some ⟨w.heap.size,0,none⟩) 1 1) [(m,g)]:=
 .inr ⟨w.heap.size,0,1,rfl,by simp,λk hk=>by
  have:k=0:=by simpa using hk
  subst this;exact ⟨by simp,by simp⟩⟩
theorem Co (pol:Int) (nodes:Nat) (v:Value) (w:World) (ao:Option Addr) (n c:Nat) (hv:v=.slice ao n c) :
  Calls Tryz.prog 197 #[.int .i64 pol,.int .u8 nodes,.agg #[.bool true,v]] w λe w'=>pT w [(nodes,true)] e w':=by
 subst hv;have HB:Hid (Below w.heap.size w ((w.alloc (.cells #[.bool true,.slice ao n c] 270)).alloc (.cells #[.int .u8 (nodes:Nat),.bool true] 223))):=((Q0 _ _).alloc (lR) _).alloc (by simp) _;have HO:=pU (w.alloc (.cells #[.bool true,.slice ao n c] 270)) nodes true 223;simp only [World.size_alloc] at HO;have HO:=qI HO
 go_enter Tryz.func197,Tryz.ntmps197
 go_wp2
 go_ret;exact ⟨_,rfl,HO.out,HB.out⟩
theorem Cp (pol:Int) (nodes:Nat) (v:Value) (hs:List Hi) (w:World) (hv:br w v hs) (hlow:Low hs) (hl:hs.length<=16) (hn:nodes<256) (hp:0<=pol/\pol<=3) :
  Calls Tryz.prog 197 #[.int .i64 pol,.int .u8 nodes,.agg #[.bool false,v]] w λe w'=>pT w (ed pol nodes ⟨false,hs⟩) e w':=by
 obtain ⟨ao,c,rfl,hc⟩:=hv.form;have HC:=qI hc;clear hc hv;have HX:Hid (Below w.heap.size w (w.alloc (.cells #[.bool false,.slice ao hs.length c] 270))):=(Q0 _ _).alloc (lR) _;have Hx:=qI hlow;clear hlow
 go_enter Tryz.func197,Tryz.ntmps197
 go_wp2_with fail
 have Hu:=qI λ(w:World)=>pU w nodes false 223
 go_loopw [7,18] (λl i wr=>∃ k:Nat,k<=hs.length/\i=.int .i64 k/\Hid (wr.ownsRow (w.heap.size+1) 223 2 l (cI pol nodes hs k).length (dM (cI pol nodes hs k)))/\Hid (Below (w.heap.size+1) (w.alloc (.cells #[.bool false,.slice ao hs.length c] 270)) wr)/\w.heap.size+1<=wr.heap.size) (λ_ i _=>hs.length - (intOf i).toNat)
 case atStart=>exact ⟨0,by omega,rfl,Qw _ _ _ _,Q0 _ _,by simp⟩
 case round=>
  obtain ⟨k,hk,rfl,HR,HB,Ht⟩:=hrel;have HD:=Ost.tU pol nodes hs k
  by_cases hlt:k<hs.length
  ·obtain ⟨b,o,rfl,hb,Hq⟩:=HC.out (by omega);obtain ⟨c0,c1⟩:=Hq k hlt
   replace c0:=((HB.out.cell (p:=⟨b,o+k*2,none⟩) (by show b<w.heap.size+1;omega)).trans (HX.out.cell (p:=⟨b,o+k*2,none⟩) hb)).trans c0
   replace c1:=((HB.out.cell (p:=⟨b,o+k*2+1,none⟩) (by show b<w.heap.size+1;omega)).trans (HX.out.cell (p:=⟨b,o+k*2+1,none⟩) hb)).trans c1
   have hx:=Hx.out _ (Ost.dY hs (0,false) k hlt);have Hs:cI pol nodes hs (k+1)=if okH pol (hs.getD k (0,false)) then dZ (cI pol nodes hs k) (within nodes (hs.getD k (0,false))) else cI pol nodes hs k:=rfl
   have Hl:=qI Hs;clear Hs Hq;generalize hs.getD k (0,false)=x at *;obtain ⟨m,g⟩:=x;simp only at c0 c1 hx;have HP:=qI (λw=>lV m w hx);have Hz:=Ost.jp m;have Hy:=ud m nodes hx hn;have Hg:=qI (HB.out.alloc Ht (.cells #[.int .u8 (m:Nat),.bool g] 223));have Hh:=qI (HR.out.alloc (.cells #[.int .u8 (m:Nat),.bool g] 223));have HW:=qI λv'=>Cm (w.heap.size+1) v' (cI pol nodes hs k) (within nodes (m,g)) (wr.alloc (.cells #[.int .u8 (m:Nat),.bool g] 223))
   unfold vH within at HW;obtain ⟨ao2,c2,rfl⟩:=gD HR.out
   rcases two (decide (pol=3)) with Ha|Ha
   ·have Ha:=of_decide_eq_true Ha;subst Ha
    rcases two g with hg|hg
    ·subst hg
     by_cases hpm:pop8 m=1
     ·have He:Hid (okH 3 (m,true)=true):=by unfold Hid okH;simp [hpm]
      have Ho:((pop8 m:Int) == 1)=true:=by rw [beq_iff_eq];omega
      clear hpm;generalize pop8 m=p at *
      go_wp2_with fail
      refine (HP.out _).mono ?_;rintro e w5 ⟨rfl,Hw⟩;subst w5
      go_wp2_with fail
      refine (HW.out _ Hh.out (by omega) (by simp;omega)).mono ?_;rintro e w2 ⟨v2,rfl,Hj,Hc⟩;have Hk:=qI Hj;have Hn:=qI (Hg.out.trans Hc);have Hf:w.heap.size+1<=w2.heap.size:=Q5 (by simp;omega) Hc.size;obtain ⟨ao3,c3,rfl⟩:=gD Hk.out;clear Hj Hc HW Hh Hg HR HB c0 c1
      go_wp2
      go_roundw
      case rel=>exact ⟨k+1,by omega,by go_num,by rw [Hl.out,if_pos He.out];exact Hk.out,Hn.out,Hf⟩
      case measure=>simp [intOf];omega
     ·have He:Hid (¬ okH 3 (m,true)=true):=by unfold Hid okH;simp [hpm]
      have Ho:((pop8 m:Int) == 1)=false:=by rw [Qr];omega
      clear hpm;generalize pop8 m=p at *
      go_wp2_with fail
      refine (HP.out _).mono ?_;rintro e w5 ⟨rfl,Hw⟩;subst w5
      go_wp2
      go_roundw
      case rel=>exact ⟨k+1,by omega,by go_num,by rw [Hl.out,if_neg He.out];exact Hh.out,Hg.out,by simp;omega⟩
      case measure=>simp [intOf];omega
    ·subst hg;have He:Hid (¬ okH 3 (m,false)=true):=by unfold Hid okH;simp
     go_wp2
     go_roundw
     case rel=>exact ⟨k+1,by omega,by go_num,by rw [Hl.out,if_neg He.out];exact Hh.out,Hg.out,by simp;omega⟩
     case measure=>simp [intOf];omega
   ·have Ha:=of_decide_eq_false Ha;have He:Hid (okH pol (m,g)=true):=by unfold Hid okH;rw [Qc (by omega)];rfl
    have Hr:(pol == 3)=false:=by rw [Qr];exact Ha
    go_wp2_with fail
    refine (HW.out _ Hh.out (by omega) (by simp;omega)).mono ?_;rintro e w2 ⟨v2,rfl,Hj,Hc⟩;have Hk:=qI Hj;have Hn:=qI (Hg.out.trans Hc);have Hf:w.heap.size+1<=w2.heap.size:=Q5 (by simp;omega) Hc.size;obtain ⟨ao3,c3,rfl⟩:=gD Hk.out;clear Hj Hc HW Hh Hg HR HB c0 c1
    go_wp2
    go_roundw
    case rel=>exact ⟨k+1,by omega,by go_num,by rw [Hl.out,if_pos He.out];exact Hk.out,Hn.out,Hf⟩
    case measure=>simp [intOf];omega
  ·have Hv:k=hs.length:=by omega
   subst Hv;have Hb:ed pol nodes ⟨false,hs⟩=if (cI pol nodes hs hs.length).length=0 then [(nodes,false)] else cI pol nodes hs hs.length:=rfl
   obtain ⟨ao2,c2,rfl⟩:=gD HR.out;have Hp:=qI (HX.out.trans (HB.out.mono (by omega)));have Hm:w.heap.size<=wr.heap.size:=by omega
   by_cases h0:(cI pol nodes hs hs.length).length=0
   ·rw [if_pos h0] at Hb;have Hb:=qI Hb;have HH:=qI (Hu.out wr)
    go_wp2
    go_ret;exact ⟨_,rfl,by rw [Hb.out];exact HH.out,Hp.out.alloc Hm _⟩
   ·rw [if_neg h0] at Hb;have Hb:=qI Hb;have HA:((((cI pol nodes hs hs.length).length:Nat):Int) == 0)=false:=by rw [Qr];omega
    have HH:=qI (br.of_row HR.out);generalize cI pol nodes hs hs.length=l at *
    go_wp2
    go_ret;exact ⟨_,rfl,by rw [Hb.out];exact HH.out,Hp.out⟩
theorem Cq (pol:Int) (nodes:Nat) (any:Bool) (v:Value) (hs:List Hi) (w:World) (hv:br w v hs) (hlow:Low hs) (hl:hs.length<=16) (hn:nodes<256) (hp:0<=pol/\pol<=3) :
  Calls Tryz.prog 197 #[.int .i64 pol,.int .u8 nodes,.agg #[.bool any,v]] w λe w'=>pT w (ed pol nodes ⟨any,hs⟩) e w':=by
 cases any
 ·exact Cp pol nodes v hs w hv hlow hl hn hp
 ·obtain ⟨ao,c,Ha,_⟩:=hv.form;exact Co pol nodes v w ao _ c Ha
end
section
open RowKit
open Ost (Hi Wi wi0 Low dZ bet pop8 cI ed okH within dA eQ dB com)
def pV (ws:List Wi):Prop:=∀ y,y∈ws->Low y.hs/\y.hs.length<=16
theorem pW (pol:Int) (nodes:Nat) (y:Wi) (hn:nodes<256):Low (ed pol nodes y):=λx hx=>by
 obtain ⟨c,_,rfl⟩:=(Ost.pR ..).1 hx;exact Nat.lt_of_le_of_lt Nat.and_le_right hn
theorem nR {w w':World} {b o:Nat} {v:Value} (h:w'.heap[b]?=w.heap[b]?) (hc:w.cell? ⟨b,o,none⟩=some v):w'.cell? ⟨b,o,none⟩=some v:=(World.cell?_of_block (w:=w) (a:=⟨b,o,none⟩) h).trans hc
def Cr (w:World) (l:List Hi) (e:Ending) (w':World):Prop:=∃ v,e=.returned v/\br w' v l/\Below w.heap.size w w'/\∀ b o n c,v=.slice (some ⟨b,o,none⟩) n c->w.heap.size<=b
theorem Cs (pol:Int) (nodes:Nat) (v:Value) (ws:List Wi) (w:World) (hv:fR w v ws) (hw:pV ws) (hl:ws.length<=4) (hn:nodes<256) (hp:0<=pol/\pol<=3) :
  Calls Tryz.prog 160 #[.int .i64 pol,.int .u8 nodes,v] w λe w'=>Cr w (dB pol nodes ws ws.length) e w':=by
 have HV:=qI hv;obtain ⟨ao,c,rfl,_⟩:=hv.form;have HJ:=qI hw;clear hv hw
 go_enter Tryz.func160,Tryz.ntmps160
 go_wp2_with fail
 have HT:=qI (pU w nodes true 223);have HL:Hid (Below w.heap.size w (w.alloc (.cells #[.int .u8 (nodes:Nat),.bool true] 223))):=(Q0 _ _).alloc (lR) _
 go_loopw [7,21] (λvW i wr=>∃ k:Nat,k<=ws.length/\i=.int .i64 k/\Hid (br wr vW (dB pol nodes ws k))/\Hid (Below w.heap.size w wr)/\Hid (∀ b o n c,vW=.slice (some ⟨b,o,none⟩) n c->w.heap.size<=b)) (λ_ i _=>ws.length - (intOf i).toNat)
 case atStart=>exact ⟨0,by omega,rfl,HT.out,HL.out,λb o n c h=>by cases h;exact lR⟩
 case round=>
  obtain ⟨k,hk,rfl,HW,HB,H8⟩:=hrel;clear HT HL;have HQ:=Ost.ub pol nodes ws (λy hy=>(HJ.out y hy).2) k hk;have H2:=Ost.tZ k (by omega)
  by_cases hlt:k<ws.length
  ·obtain ⟨ao',c',Hk,Hg⟩:=(HV.out.below HB.out).form;obtain ⟨rfl,rfl⟩:ao=ao'/\c=c':=by simpa using Hk
   obtain ⟨b,o,rfl,he,Hg⟩:=Hg (by omega);obtain ⟨c0,u,c1,hu⟩:=Hg k hlt;have hy:=HJ.out _ (Ost.dY ws wi0 k hlt);have H3:Hid (dB pol nodes ws (k+1)=eQ (ed pol nodes (ws.getD k wi0)) (dB pol nodes ws k) (ed pol nodes (ws.getD k wi0)).length):=rfl;clear Hg Hk;generalize ws.getD k wi0=y at *;obtain ⟨any,hs⟩:=y;simp only at c0 c1 hu hy;have Hz:=qI (Ost.jr.low (Ost.lW pol nodes ws k) hn);have Hz:=qI (Ost.jr.low (Ost.lW pol nodes ws k) hn);have Hz:=qI (Ost.jr.low (Ost.lW pol nodes ws k) hn);generalize dB pol nodes ws k=W at *;have H9:=Ost.tW pol nodes ⟨any,hs⟩ hy.2;have HG:=qI (pW pol nodes ⟨any,hs⟩ hn);have HG:=qI (pW pol nodes ⟨any,hs⟩ hn);have HG:=qI (pW pol nodes ⟨any,hs⟩ hn);obtain ⟨ao2,c2,rfl,_⟩:=hu.form;have HX:=qI ((Q0 wr.heap.size wr).alloc (lR) (.cells #[.bool any,.slice ao2 hs.length c2] 270));have HP:=qI (Cq pol nodes any (.slice ao2 hs.length c2) hs (wr.alloc (.cells #[.bool any,.slice ao2 hs.length c2] 270)) (hu.below HX.out) hy.1 hy.2 hn hp);have HN:=qI (HW.out.below HX.out);have Hl:=qI (HB.out.trans (HX.out.mono HB.out.size));have hb:=qI (br.form HW.out);obtain ⟨aw,cw,rfl,_⟩:=br.form HW.out;clear hu hy HW HB
   go_wp2_with fail
   refine HP.out.mono ?_;rintro e w2 ⟨vC,rfl,hC,HA⟩;have HZ:=qI (HN.out.below HA);have HK:=qI (Hl.out.trans (HA.mono Hl.out.size));have HC:=qI hC;generalize ed pol nodes ⟨any,hs⟩=C at *;obtain ⟨ac,cc,rfl,_⟩:=hC.form;clear hC HA HN Hl HP HX c0 c1
   go_wp2_with fail
   generalize hB2:w2.heap.size=B at *
   go_loopw [10,30] (λvN i wq=>∃ i':Nat,i'<=C.length/\i=.int .i64 i'/\Hid (wq.ownsRow B 223 2 vN (eQ C W i').length (dM (eQ C W i')))/\Hid (Below B w2 wq)) (λ_ i _=>C.length - (intOf i).toNat)
   case atStart=>exact ⟨0,by omega,rfl,Qw _ _ _ _,Q0 _ _⟩
   case round=>
    obtain ⟨i',hi,rfl,HR,Hq⟩:=hrel;have HE:B<=wr.heap.size:=Q5 (Nat.le_of_eq hB2.symm) Hq.out.size;have hg:=Ost.tY C W i';have ha:i'*W.length<=16*65536:=Nat.mul_le_mul (by omega) (by omega);have Hp:Hid (eQ C W (i'+1)=dA (C.getD i' (0,false)) W (eQ C W i') W.length):=rfl;obtain ⟨an0,cn0,rfl⟩:=gD HR.out
    by_cases hit:i'<C.length
    ·obtain ⟨ac',cc',Hk,Hg⟩:=(HC.out.below (by rw [hB2];exact Hq.out)).form;obtain ⟨rfl,rfl⟩:ac=ac'/\cc=cc':=by simpa using Hk
     obtain ⟨b3,o3,rfl,H5,Hg⟩:=Hg (by omega);obtain ⟨d0,d1⟩:=Hg i' hit;have hm:=HG.out _ (Ost.dY C (0,false) i' hit);clear Hg Hk;generalize C.getD i' (0,false)=x at *;obtain ⟨m,g⟩:=x;simp only at d0 d1 hm;generalize eQ C W i'=N at *;have HS:=qI (HR.out.alloc (.cells #[.int .u8 (m:Nat),.bool g] 223));have Hl:=qI (Hq.out.alloc HE (.cells #[.int .u8 (m:Nat),.bool g] 223));have HI:=qI (HR.out.lt);have Hx:(wr.alloc (.cells #[.int .u8 (m:Nat),.bool g] 223)).cell? ⟨wr.heap.size,0,none⟩=some (.int .u8 (m:Nat)):=by simp
     have Hw:(wr.alloc (.cells #[.int .u8 (m:Nat),.bool g] 223)).cell? ⟨wr.heap.size,1,none⟩=some (.bool g):=by simp
     have Hx:=qI Hx;have Hw:=qI Hw;clear HR Hq
     go_wp2_with fail
     generalize hLL:wr.heap.size=L at *
     go_loopw [10,36] (λvN i wx=>∃ (j:Nat) (vv:Value),j<=W.length/\i=.int .i64 j/\vN=vv/\Hid (wx.ownsRow B 223 2 vv (dA (m,g) W N j).length (dM (dA (m,g) W N j)))/\Hid (Below B w2 wx)/\wx.cell? ⟨L,0,none⟩=some (.int .u8 (m:Nat))/\wx.cell? ⟨L,1,none⟩=some (.bool g)/\Hid (some L≠vv.ownBlock)) (λ_ i _=>W.length - (intOf i).toNat)
     case atStart=>exact ⟨0,_,by omega,rfl,rfl,HS.out,Hl.out,Hx.out,Hw.out,λh=>by have:=(HI.out L h.symm).2;omega⟩
     case round=>
      obtain ⟨j,vv,hj,rfl,rfl,Hm,Hn,l0,l1,He⟩:=hrel;clear HS Hl Hx Hw HI hLL;have Hs:B<=wr.heap.size:=Q5 (Nat.le_of_eq hB2.symm) Hn.out.size;have hc:=Q3 _ _ l0;have H7:=Ost.tX (m,g) W N j;obtain ⟨an,cn,rfl⟩:=gD Hm.out
      by_cases hjt:j<W.length
      ·obtain ⟨aw',cw',Hk,Hg⟩:=(HZ.out.below (by rw [hB2];exact Hn.out)).form;obtain ⟨rfl,rfl⟩:aw=aw'/\cw=cw':=by simpa using Hk
       obtain ⟨b4,o4,rfl,H0,Hg⟩:=Hg (by omega);obtain ⟨q0,q1⟩:=Hg j hjt;have HO:=Hz.out _ (Ost.dY W (0,false) j hjt);have Ha:dA (m,g) W N (j+1)=if (Ost.com (W.getD j (0,false)) (m,g)).1=0 then dA (m,g) W N j else dZ (dA (m,g) W N j) (Ost.com (W.getD j (0,false)) (m,g)):=rfl
       clear Hg Hk;generalize W.getD j (0,false)=z at *;obtain ⟨p,f⟩:=z;simp only at q0 q1 HO;have Hu:=ud p m HO hm
       rcases two f with hf|hf
       ·subst hf;have HD:Hid (Ost.com (p,true) (m,g)=(p &&& m,g)):=by cases g <;> rfl
        rw [HD.out] at Ha;have Hi:=qI (pS B (.slice an (dA (m,g) W N j).length cn) (dA (m,g) W N j) (p &&& m,g) ((wr.alloc (.cells #[.int .u8 (p:Nat),.bool true] 223)).alloc (.cells #[.int .u8 ((p &&& m:Nat):Int),.bool g] 223)) ((Hm.out.alloc _).alloc _) (by omega) (by simp;omega));unfold vH at Hi;have Hb:=qI ((Hn.out.alloc Hs (.cells #[.int .u8 (p:Nat),.bool true] 223)).alloc (by simp;omega) (.cells #[.int .u8 ((p &&& m:Nat):Int),.bool g] 223));have Hf:=qI ((Hm.out.alloc (.cells #[.int .u8 (p:Nat),.bool true] 223)).alloc (.cells #[.int .u8 ((p &&& m:Nat):Int),.bool g] 223));have z0:=fa l0 (.cells #[.int .u8 (p:Nat),.bool true] 223);have z1:=fa l1 (.cells #[.int .u8 (p:Nat),.bool true] 223);have zz0:=fa z0 (.cells #[.int .u8 ((p &&& m:Nat):Int),.bool g] 223);have zz1:=fa z1 (.cells #[.int .u8 ((p &&& m:Nat):Int),.bool g] 223)
        by_cases hz:p &&& m=0
        ·have Hr:((p &&& m:Nat):Int)=0:=by omega
         rw [if_pos hz] at Ha;have Ha:=qI Ha;rw [Hr] at Hb Hf zz0 zz1 Hu;clear hz Hr Hi
         go_wp2
         go_roundw
         case rel=>exact ⟨j+1,_,by omega,by go_num,rfl,by rw [Ha.out];exact Hf.out,Hb.out,zz0,zz1,He.out⟩
         case measure=>simp [intOf];omega
        ·have HU:(((p &&& m:Nat):Int) == 0)=false:=by rw [Qr];omega
         rw [if_neg hz] at Ha;have Ha:=qI Ha;have hz:=qI hz;generalize p &&& m=pm at *
         go_wp2_with fail
         refine Hi.out.mono ?_;rintro e w5 ⟨v5,rfl,Ht,Ho,Hc⟩;have Hv:=qI Ht;have Hy:=qI (Hb.out.trans Ho);have Hj:L<((wr.alloc (.cells #[.int .u8 (p:Nat),.bool true] 223)).alloc (.cells #[.int .u8 (pm:Int),.bool g] 223)).heap.size:=by simp;omega
         have y0:=nR (Hc L Hj He.out).1 zz0;have y1:=nR (Hc L Hj He.out).1 zz1;have Hh:=qI (Hc L Hj He.out).2;obtain ⟨a5,c5,rfl⟩:=gD Hv.out;clear Ht Ho Hc Hj Hi zz0 zz1 z0 z1 l0 l1 Hb Hf
         go_wp2
         go_roundw
         case rel=>exact ⟨j+1,_,by omega,by go_num,rfl,by rw [Ha.out];exact Hv.out,Hy.out,y0,y1,Hh.out⟩
         case measure=>simp [intOf];omega
       ·subst hf;have HD:Hid (Ost.com (p,false) (m,g)=(p &&& m,false)):=by rfl
        rw [HD.out] at Ha;have Hi:=qI (pS B (.slice an (dA (m,g) W N j).length cn) (dA (m,g) W N j) (p &&& m,false) ((wr.alloc (.cells #[.int .u8 (p:Nat),.bool false] 223)).alloc (.cells #[.int .u8 ((p &&& m:Nat):Int),.bool false] 223)) ((Hm.out.alloc _).alloc _) (by omega) (by simp;omega));unfold vH at Hi;have Hb:=qI ((Hn.out.alloc Hs (.cells #[.int .u8 (p:Nat),.bool false] 223)).alloc (by simp;omega) (.cells #[.int .u8 ((p &&& m:Nat):Int),.bool false] 223));have Hf:=qI ((Hm.out.alloc (.cells #[.int .u8 (p:Nat),.bool false] 223)).alloc (.cells #[.int .u8 ((p &&& m:Nat):Int),.bool false] 223));have z0:=fa l0 (.cells #[.int .u8 (p:Nat),.bool false] 223);have z1:=fa l1 (.cells #[.int .u8 (p:Nat),.bool false] 223);have zz0:=fa z0 (.cells #[.int .u8 ((p &&& m:Nat):Int),.bool false] 223);have zz1:=fa z1 (.cells #[.int .u8 ((p &&& m:Nat):Int),.bool false] 223)
        by_cases hz:p &&& m=0
        ·have Hr:((p &&& m:Nat):Int)=0:=by omega
         rw [if_pos hz] at Ha;have Ha:=qI Ha;rw [Hr] at Hb Hf zz0 zz1 Hu;clear hz Hr Hi
         go_wp2
         go_roundw
         case rel=>exact ⟨j+1,_,by omega,by go_num,rfl,by rw [Ha.out];exact Hf.out,Hb.out,zz0,zz1,He.out⟩
         case measure=>simp [intOf];omega
        ·have HU:(((p &&& m:Nat):Int) == 0)=false:=by rw [Qr];omega
         rw [if_neg hz] at Ha;have Ha:=qI Ha;have hz:=qI hz;generalize p &&& m=pm at *
         go_wp2_with fail
         refine Hi.out.mono ?_;rintro e w5 ⟨v5,rfl,Ht,Ho,Hc⟩;have Hv:=qI Ht;have Hy:=qI (Hb.out.trans Ho);have Hj:L<((wr.alloc (.cells #[.int .u8 (p:Nat),.bool false] 223)).alloc (.cells #[.int .u8 (pm:Int),.bool false] 223)).heap.size:=by simp;omega
         have y0:=nR (Hc L Hj He.out).1 zz0;have y1:=nR (Hc L Hj He.out).1 zz1;have Hh:=qI (Hc L Hj He.out).2;obtain ⟨a5,c5,rfl⟩:=gD Hv.out;clear Ht Ho Hc Hj Hi zz0 zz1 z0 z1 l0 l1 Hb Hf
         go_wp2
         go_roundw
         case rel=>exact ⟨j+1,_,by omega,by go_num,rfl,by rw [Ha.out];exact Hv.out,Hy.out,y0,y1,Hh.out⟩
         case measure=>simp [intOf];omega
      ·have HY:j=W.length:=by omega
       subst HY
       go_wp2
       go_roundw
       case rel=>exact ⟨i'+1,by omega,by go_num,by rw [Hp.out];exact Hm.out,Hn.out⟩
       case measure=>simp [intOf];omega
    ·have H6:i'=C.length:=by omega
     subst H6;have HH:=qI (br.of_row HR.out);have HM:w.heap.size<=B:=by rw [<- hB2];exact HK.out.size
     have H4:=qI (HK.out.trans (Hq.out.mono HM));have HF:=qI (tO HR.out HM)
     go_wp2
     go_roundw
     case rel=>exact ⟨k+1,by omega,by go_num,by rw [H3.out];exact HH.out,H4.out,HF.out⟩
     case measure=>simp [intOf];omega
  ·have H1:k=ws.length:=by omega
   subst H1;obtain ⟨aw,cw,rfl,_⟩:=br.form HW.out
   go_wp2
   go_ret;exact ⟨_,rfl,HW.out,HB.out,H8.out⟩
end
section
open RowKit
open Ost (Hi Wi wi0 Low bet pop8 dB dq tP told)
theorem nS {fn:Func} {p u t:Tmp} {ty:TypeId} (h:fn.results=#[.cell p ty,.tmp u,.tmp t]) (tmps:Array Value) (P:Program) (w:World) :
  (results fn tmps).run P w =
   ((asAddr (tmps.getD p undef)).run P w).andThen λa w₁=>((loadVar ty a).run P w₁).andThen λv w₂=>.ok (.tuple #[v,tmps.getD u undef,tmps.getD t undef]) w₂:=by
 simp only [results,h]
 simp [Sem.run_bind,Result.andThen]
theorem ue {nodes:Nat} (h:nodes<=15):bits BinOp.andNot IntKind.u8 (nodes:Int) 15=0:=by
 have key:∀ (x:Fin 16),bits BinOp.andNot IntKind.u8 ((x.val:Nat):Int) 15=0:=by decide +kernel
 exact key ⟨nodes,by omega⟩
theorem Cu (nodes:Nat) (ao:Option Addr) (n c:Nat) (w:World) (hn:1<=nodes/\nodes<=15) (hl:n<=4) :
  Calls Tryz.prog 126 #[.int .i64 0,.int .u8 nodes,.slice ao n c] w λe w'=>e=.returned (.tuple #[vH (nodes,true),.bool true,.nilIface])/\Below w.heap.size w w':=by
 have HB:Hid (Below w.heap.size w (w.alloc (.cells #[.int .u8 0,.bool false] 223))):=(Q0 _ _).alloc (lR) _;unfold vH;have Ha:=ue hn.2;have h4:((nodes:Int) == 0)=false:=by rw [Qr];omega
 go_enter Tryz.func126,Tryz.ntmps126
 go_wp2_with fail
 (try simp only [Exit.inBlock,Exit.then]);refine bodyPost_ret (v:=.tuple #[.agg #[.int .u8 nodes,.bool true],.bool true,.nilIface]) ?_ rfl ⟨rfl,?_⟩
 ·rw [nS rfl];go_simp
 ·first
   | exact HB.out
   | exact (Q0 _ _).alloc (lR) _
   | exact (HB.out.setCell (lR) _).setCell (lR) _
structure g7 (u:World) (N:Nat) (h:Hi):Prop where
 c00:u.cell? ⟨N,0,none⟩=some (.int .u8 0)
 c01:u.cell? ⟨N,1,none⟩=some (.bool false)
 c10:u.cell? ⟨N+1,0,none⟩=some (.int .u8 (h.1:Nat))
 c11:u.cell? ⟨N+1,1,none⟩=some (.bool h.2)
 f00:u.frozen? ⟨N,0,none⟩=false
 f01:u.frozen? ⟨N,1,none⟩=false
 f10:u.frozen? ⟨N+1,0,none⟩=false
 f11:u.frozen? ⟨N+1,1,none⟩=false
theorem g7.lt {u:World} {N:Nat} {h:Hi} (e:g7 u N h):N+1<u.heap.size:=Q3 u _ e.c10
theorem g7.below {u u':World} {N K:Nat} {h:Hi} (e:g7 u N h) (hb:Below K u u') (hK:N+2<=K):g7 u' N h:=
 ⟨(hb.cell (p:=⟨N,0,none⟩) (by show N<K;omega)).trans e.c00,(hb.cell (p:=⟨N,1,none⟩) (by show N<K;omega)).trans e.c01,(hb.cell (p:=⟨N+1,0,none⟩) (by show N+1<K;omega)).trans e.c10,(hb.cell (p:=⟨N+1,1,none⟩) (by show N+1<K;omega)).trans e.c11,
  (hb.frozen (p:=⟨N,0,none⟩) (by show N<K;omega)).trans e.f00,(hb.frozen (p:=⟨N,1,none⟩) (by show N<K;omega)).trans e.f01,(hb.frozen (p:=⟨N+1,0,none⟩) (by show N+1<K;omega)).trans e.f10,(hb.frozen (p:=⟨N+1,1,none⟩) (by show N+1<K;omega)).trans e.f11⟩
theorem g7.set {u:World} {N:Nat} {h:Hi} (e:g7 u N h) (m:Nat) (g:Bool):g7 ((u.setCell ⟨N+1,0,none⟩ (.int .u8 (m:Nat))).setCell ⟨N+1,1,none⟩ (.bool g)) N (m,g):=by
 obtain ⟨c00,c01,c10,c11,f00,f01,f10,f11⟩:=e;refine ⟨?_,?_,?_,?_,?_,?_,?_,?_⟩ <;> go_simp
theorem br.set {w:World} {v:Value} {l:List Hi} {N:Nat} (h:br w v l) (hfr:∀ b o n c,v=.slice (some ⟨b,o,none⟩) n c->N+2<=b) (x y:Value):br ((w.setCell ⟨N+1,0,none⟩ x).setCell ⟨N+1,1,none⟩ y) v l:=by
 rcases h with h|⟨b,o,c',hv,Ha,hc⟩
 ·exact .inl h
 ·have hb:=hfr b o _ _ hv;refine .inr ⟨b,o,c',hv,by simpa using Ha,λk hk=>?_⟩;have e1:((w.setCell ⟨N+1,0,none⟩ x).setCell ⟨N+1,1,none⟩ y).heap[b]?=w.heap[b]?:=by
   rw [Below.heap_setCell _ _ _ _ (by show b≠N+1;omega),Below.heap_setCell _ _ _ _ (by show b≠N+1;omega)]
  exact ⟨(World.cell?_of_block (w:=w) (a:=⟨b,o+k*2,none⟩) e1).trans (hc k hk).1,(World.cell?_of_block (w:=w) (a:=⟨b,o+k*2+1,none⟩) e1).trans (hc k hk).2⟩
theorem Cv (pol:Int) (nodes:Nat) (v:Value) (ws:List Wi) (w:World) (hv:fR w v ws) (hw:pV ws) (hl:ws.length<=4) (hn:1<=nodes/\nodes<=15) (hp:1<=pol/\pol<=3) :
  Calls Tryz.prog 126 #[.int .i64 pol,.int .u8 nodes,v] w λe w'=>e=.returned (.tuple #[vH (told pol nodes ws),.bool ((told pol nodes ws).2 || decide (pol=1)),.nilIface])/\Below w.heap.size w w':=by
 have HX:Hid (Below w.heap.size w ((w.alloc (.cells #[.int .u8 0,.bool false] 223)).alloc (.cells #[.int .u8 (nodes:Nat),.bool false] 223))):=((Q0 _ _).alloc (lR) _).alloc (by simp) _;have HO:=qI (Cs pol nodes v ws ((w.alloc (.cells #[.int .u8 0,.bool false] 223)).alloc (.cells #[.int .u8 (nodes:Nat),.bool false] 223)) (hv.below HX.out) hw hl (by omega) (by omega));have Hu:=qI (Ost.jr.low (Ost.lW pol nodes ws ws.length) (show nodes<256 by omega));have HJ:Hid (told pol nodes ws=dq (dB pol nodes ws ws.length) (nodes,false) (dB pol nodes ws ws.length).length):=rfl;have Hy:=Ost.ub pol nodes ws (λy hy=>(hw y hy).2) ws.length (lR);have HF:=Ost.tZ ws.length hl;generalize told pol nodes ws=T at *;generalize dB pol nodes ws ws.length=W at *;obtain ⟨ao,c,rfl,_⟩:=hv.form;clear hv hw;have HH:=ue hn.2;have h4:((nodes:Int) == 0)=false:=by rw [Qr];omega
 obtain ⟨HP,HS⟩:=hp;have HM:0<=pol:=by omega
 have HQ:(pol == 0)=false:=by rw [Qr];omega
 have Hx:Hid (g7 ((w.alloc (.cells #[.int .u8 0,.bool false] 223)).alloc (.cells #[.int .u8 (nodes:Nat),.bool false] 223)) w.heap.size (nodes,false)):=by
  refine ⟨?_,?_,?_,?_,?_,?_,?_,?_⟩ <;> go_simp
 unfold vH at *
 go_enter Tryz.func126,Tryz.ntmps126
 go_wp2_with fail
 refine HO.out.mono ?_;rintro e w2 ⟨vC,rfl,hC,Hp,Ht⟩;have HB:=qI (HX.out.trans (Hp.mono (by simp;omega)));have HE:=qI (Hx.out.below Hp (by simp));have HC:=qI hC;have HL:Hid (∀ b o n c,vC=.slice (some ⟨b,o,none⟩) n c->w.heap.size+2<=b):=λb o n c h=>Q5 (by simp) (Ht b o n c h)
 obtain ⟨ac,cc,rfl,_⟩:=hC.form;clear hC Hp Hx HO HX Ht
 go_wp2
 go_loopw [45] (λi wr=>∃ k:Nat,k<=W.length/\i=.int .i64 k/\Hid (g7 wr w.heap.size (dq W (nodes,false) k))/\Hid (br wr (.slice ac W.length cc) W)/\Hid (Below w.heap.size w wr)) (λi _=>W.length - (intOf i).toNat)
 case atStart=>exact ⟨0,by omega,rfl,HE.out,HC.out,HB.out⟩
 case round=>
  obtain ⟨k,hk,rfl,Ha,Ho,Hk⟩:=hrel;clear HE HC HB;have Hb:=Ost.tQ Hu.out (show ((nodes,false):Hi).1<256 by show nodes<256;omega) k hk
  by_cases hlt:k<W.length
  ·obtain ⟨ac',cc',Hw,Hj⟩:=Ho.out.form;obtain ⟨rfl,rfl⟩:ac=ac'/\cc=cc':=by simpa using Hw
   obtain ⟨b,o,rfl,HR,Hj⟩:=Hj (by omega);obtain ⟨c0,c1⟩:=Hj k hlt;have hx:=Hu.out _ (Ost.dY W (0,false) k hlt);have Hc:dq W (nodes,false) (k+1)=if bet (W.getD k (0,false)) (dq W (nodes,false) k) then W.getD k (0,false) else dq W (nodes,false) k:=rfl
   clear Hj Hw;generalize W.getD k (0,false)=x at *;generalize dq W (nodes,false) k=y at *;obtain ⟨m,g⟩:=x;obtain ⟨p,f⟩:=y;simp only at c0 c1 hx Hb;have HX:=qI ((Q0 wr.heap.size wr).alloc (lR) (.cells #[.int .u8 (m:Nat),.bool g] 223));have Hg:=qI (Ha.out.below HX.out Ha.out.lt);have Hz:=qI (Ho.out.below HX.out);have Hr:=qI (Hk.out.trans (HX.out.mono Hk.out.size));have HN:=Ha.out.lt;have e0:=Hg.out.c10;have e1:=Hg.out.c11;simp only at e0 e1;have Hq:=qI (Cn (m,g) (p,f) (wr.alloc (.cells #[.int .u8 (m:Nat),.bool g] 223)) hx Hb);have Hl:(wr.alloc (.cells #[.int .u8 (m:Nat),.bool g] 223)).cell? ⟨wr.heap.size,0,none⟩=some (.int .u8 (m:Nat)):=by simp
   have Hh:(wr.alloc (.cells #[.int .u8 (m:Nat),.bool g] 223)).cell? ⟨wr.heap.size,1,none⟩=some (.bool g):=by simp
   have Hl:=qI Hl;have Hh:=qI Hh;unfold vH at Hq;clear Ha Ho Hk
   go_wp2_with fail
   refine Hq.out.mono ?_;rintro e w5 ⟨rfl,He⟩;have Hf:=qI (Hg.out.below He Hg.out.lt);have Hv:=qI (Hz.out.below He);have Hs:=qI (Hr.out.trans (He.mono Hr.out.size));have l0:=(He.cell (p:=⟨wr.heap.size,0,none⟩) (by simp)).trans Hl.out;have l1:=(He.cell (p:=⟨wr.heap.size,1,none⟩) (by simp)).trans Hh.out;clear He Hq Hl Hh Hg Hz Hr HX c0 c1 e0 e1
   rcases two (bet (m,g) (p,f)) with Hn|Hn
   ·rw [Hn] at Hc ⊢;rw [if_pos rfl] at Hc;have Hc:=qI Hc;have HI:=qI (Hf.out.set m g);have HA:=qI (Hv.out.set HL.out (.int .u8 (m:Nat)) (.bool g));have HG:=qI ((Hs.out.setCell (p:=⟨w.heap.size+1,0,none⟩) (by show w.heap.size<=w.heap.size+1;omega) (.int .u8 (m:Nat))).setCell (p:=⟨w.heap.size+1,1,none⟩) (by show w.heap.size<=w.heap.size+1;omega) (.bool g));have e0:=Hf.out.c10;have e1:=Hf.out.c11;have f0:=Hf.out.f10;have f1:=Hf.out.f11;simp only at e0 e1
    go_wp2
    go_roundw
    case rel=>exact ⟨k+1,by omega,by go_num,by rw [Hc.out];exact HI.out,HA.out,HG.out⟩
    case measure=>simp [intOf];omega
   ·rw [Hn] at Hc ⊢;rw [if_neg (by decide)] at Hc;have Hc:=qI Hc
    go_wp2
    go_roundw
    case rel=>exact ⟨k+1,by omega,by go_num,by rw [Hc.out];exact Hf.out,Hv.out,Hs.out⟩
    case measure=>simp [intOf];omega
  ·have HD:k=W.length:=by omega
   subst HD;rw [<- HJ.out] at Ha Hb;obtain ⟨p,f⟩:=T;have e0:=Ha.out.c10;have e1:=Ha.out.c11;have d0:=Ha.out.c00;have d1:=Ha.out.c01;have f0:=Ha.out.f00;have f1:=Ha.out.f01;simp only at e0 e1;have Hm:=qI ((Hk.out.setCell (p:=⟨w.heap.size,0,none⟩) (lR) (.int .u8 (p:Nat))).setCell (p:=⟨w.heap.size,1,none⟩) (lR) (.bool f))
   rcases two f with hf|hf
   ·subst hf
    go_wp2_with fail
    (try simp only [Exit.inBlock,Exit.then]);refine bodyPost_ret (v:=.tuple #[.agg #[.int .u8 (p:Nat),.bool true],.bool true,.nilIface]) ?_ rfl ⟨rfl,Hm.out⟩;rw [nS rfl];go_simp
   ·subst hf
    by_cases hq:pol=1
    ·have hd:Hid (decide (pol=1)=true):=Qc hq;have HK:(pol == 1)=true:=by rw [beq_iff_eq];exact hq
     clear hq
     go_wp2_with fail
     (try simp only [Exit.inBlock,Exit.then]);refine bodyPost_ret (v:=.tuple #[.agg #[.int .u8 (p:Nat),.bool false],.bool true,.nilIface]) ?_ rfl ⟨by rw [hd.out],Hm.out⟩;rw [nS rfl];go_simp
    ·have hd:Hid (decide (pol=1)=false):=Q7 hq;have HK:(pol == 1)=false:=by rw [Qr];exact hq
     clear hq
     go_wp2_with fail
     (try simp only [Exit.inBlock,Exit.then]);refine bodyPost_ret (v:=.tuple #[.agg #[.int .u8 (p:Nat),.bool false],.bool false,.nilIface]) ?_ rfl ⟨by rw [hd.out],Hm.out⟩;rw [nS rfl];go_simp
end
