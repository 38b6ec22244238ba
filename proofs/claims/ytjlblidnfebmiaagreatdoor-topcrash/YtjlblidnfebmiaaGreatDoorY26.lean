import Derived.Test.YtjlblidnfebmiaaGreatDoorY25
import Derived.Deep.SlicePairs
import Derived.Laws.IdiomArrays
set_option maxRecDepth 100000
set_option maxHeartbeats 16000000
open Go Go.RowKit
open Go.Proofs.Tryz
namespace Go.Proofs.YtjlblidnfebmiaaGreatDoor
variable{N k nodes:Nat}{pol:Int}{u w w':World}{v:Value}
abbrev aK:=Nat × Bool
structure cY where
 any:Bool
 hs:List aK
def im:cY:=⟨false,[]⟩
def kX (a b:aK):Bool:=if a.2 != b.2 then a.2 else if cE a.1 != cE b.1 then decide (cE a.1<cE b.1) else decide (a.1<b.1)
def key_Ost (a:aK):Nat:=(if a.2 then 0 else 4096)+cE a.1*256+a.1
theorem Tw(a b:aK)(d:a.1<256)(c:b.1<256):kX a b=decide (key_Ost a<key_Ost b):=by grind[pL,kX,key_Ost,cE]
def gh (L:List aK) (b0:aK):Nat->aK
 | 0=>b0
 | k+1=>if kX (L.getD k (0,false)) (gh L b0 k) then L.getD k (0,false) else gh L b0 k
def Tx (L:List aK) (b0:aK):aK:=gh L b0 L.length
def om (L:List aK):Prop:=∀x,x∈L->x.1<256
theorem iM{α:Type}(L:List α)(d:α)(k:Nat)(h:k<L.length):L.getD k d∈L:=by simp[h]
theorem vE{α:Type}{L:List α}(d:α){x:α}(h:x∈L):∃k,k<L.length/\L.getD k d=x:=by
 obtain⟨k,a,b⟩:=List.getElem_of_mem h;exact⟨k,a,by simp[a,b]⟩
theorem Ty{L:List aK}(b0:aK)(b:om L)(a:b0.1<256)(k:Nat)(h:k<=L.length) :
  (gh L b0 k=b0\/gh L b0 k∈L)/\(gh L b0 k).1<256/\key_Ost (gh L b0 k)<=key_Ost b0/\∀j,j<k->key_Ost (gh L b0 k)<=key_Ost (L.getD j (0,false)):=by
 induction k with
 | zero=>exact⟨.inl rfl,a,lR,λj m=>by omega⟩
 | succ k ih=>
  obtain⟨i,e,g,l⟩:=ih (by omega);have c:=iM L (0,false) k (by omega);have d:=b _ c;rw[gh];generalize hz:L.getD k (0,false)=x at *;have Ha:=Tw x (gh L b0 k) d e
  by_cases f:kX x (gh L b0 k)=true
  ·grind
  ·grind
theorem E6{L:List aK}{b0:aK}(a:om L)(c:b0.1<256)(k:Nat)(b:k<=L.length):(gh L b0 k).1<256:=(Ty b0 a c k b).2.1
def ip (pol:Int) (h:aK):Bool:=decide (pol<3) || (h.2 && decide (cE h.1=1))
def yY (pol:Int) (nodes:Nat) (w:cY):List aK:=if w.any then [(nodes,true)] else if (w.hs.filter (ip pol)).length=0 then [(nodes,false)] else w.hs.filter (ip pol)
def jd (a c:aK):aK:=(a.1 &&& c.1,a.2 && c.2)
def rb (pol:Int) (nodes:Nat) (ws:List cY):Nat->aK->Prop
 | 0,h=>h=(nodes,true)
 | k+1,h=>h.1≠0/\∃a c,rb pol nodes ws k a/\c∈yY pol nodes (ws.getD k im)/\h=jd a c
theorem Tz{a c:aK}(h:a.1 &&& nodes=a.1):(jd a c).1 &&& nodes=(jd a c).1:=by
 show (a.1 &&& c.1) &&& nodes=a.1 &&& c.1
 rw[Nat.and_assoc,Nat.and_comm c.1,<- Nat.and_assoc,h]
theorem yZ{ws:List cY}{h:aK}(b:rb pol nodes ws k h):h.1 &&& nodes=h.1:=by
 induction k generalizing h with
 | zero=>rw[show h=(nodes,true) from b];exact Nat.and_self _
 | succ k ih=>
  obtain⟨_,a,c,d,_,rfl⟩:=b;exact Tz (ih d)
theorem TA{ws:List cY}{h:aK}(a:nodes<256)(b:rb pol nodes ws k h):h.1<256:=by
 rw[<- yZ b];exact Nat.lt_of_le_of_lt Nat.and_le_right a
def oq (pol:Int) (nodes:Nat) (ws:List cY) (k:Nat) (L:List aK):Prop:=∀x,x∈L↔rb pol nodes ws k x
theorem oq.low{ws:List cY}{L:List aK}(h:oq pol nodes ws k L)(b:nodes<256):om L:=λx a=>TA b ((h x).1 a)
def kb (nodes:Nat) (h:aK):aK:=(h.1 &&& nodes,h.2)
theorem E7{a c:aK}(h:a.1 &&& nodes=a.1):jd a (kb nodes c)=jd a c:=by
 grind[jd,kb]
def je (l:List aK) (h:aK):List aK:=if h∈l then l else l++[h]
theorem E8(l:List aK)(h x:aK):x∈je l h↔x∈l\/x=h:=by
 grind[je]
theorem E9(l:List aK)(h:aK):(je l h).length<=l.length+1:=by
 grind[je]
def eZ (pol:Int) (nodes:Nat) (hs:List aK):Nat->List aK
 | 0=>[]
 | k+1=>if ip pol (hs.getD k (0,false)) then je (eZ pol nodes hs k) (kb nodes (hs.getD k (0,false))) else eZ pol nodes hs k
theorem Fa(pol:Int)(nodes:Nat)(hs:List aK)(k:Nat):(eZ pol nodes hs k).length<=k:=by induction k <;> grind[eZ,E9]
theorem TB(pol:Int)(nodes:Nat)(hs:List aK)(k:Nat)(x:aK):x∈eZ pol nodes hs k↔∃j,j<k/\ip pol (hs.getD j (0,false))=true/\x=kb nodes (hs.getD j (0,false)):=by induction k <;> grind[eZ,E8]
def iN (pol:Int) (nodes:Nat) (w:cY):List aK:=if w.any then [(nodes,true)] else if (eZ pol nodes w.hs w.hs.length).length=0 then [(nodes,false)] else eZ pol nodes w.hs w.hs.length
theorem y8(pol:Int)(nodes:Nat)(hs:List aK)(x:aK):x∈eZ pol nodes hs hs.length↔∃c,c∈hs.filter (ip pol)/\x=kb nodes c:=by
 rw[TB];constructor
 ·grind
 ·rintro⟨c,a,b⟩;rw[List.mem_filter] at a;obtain⟨j,d,rfl⟩:=vE (0,false) a.1;exact⟨j,d,a.2,b⟩
theorem Fb{α:Type}(l:List α):l.length=0↔∀x,x ∉ l:=by
 cases l with
 | nil=>simp
 | cons a r=>
  constructor
  ·intro h;simp at h
  ·grind[List.mem_cons_self]
theorem y9(pol:Int)(nodes:Nat)(w:cY)(x:aK):x∈iN pol nodes w↔∃c,c∈yY pol nodes w/\x=kb nodes c:=by
 unfold iN yY;cases w.any
 ·have e:(eZ pol nodes w.hs w.hs.length).length=0↔(w.hs.filter (ip pol)).length=0:=by
   rw[Fb,Fb];constructor
   ·intro h x a;exact h (kb nodes x) ((y8 ..).2 ⟨x,a,rfl⟩)
   ·grind[y8]
  simp only[Bool.false_eq_true,if_false]
  by_cases h:(w.hs.filter (ip pol)).length=0
  ·grind[kb]
  ·grind[y8]
 ·simp[kb]
theorem Fc(pol:Int)(nodes:Nat)(w:cY)(h:w.hs.length<=16):(iN pol nodes w).length<=16:=by
 grind[iN,Fa]
def gK (c:aK) (W:List aK) (N:List aK):Nat->List aK
 | 0=>N
 | j+1=>if (jd (W.getD j (0,false)) c).1=0 then gK c W N j else je (gK c W N j) (jd (W.getD j (0,false)) c)
def jC (C W:List aK):Nat->List aK
 | 0=>[]
 | i+1=>gK (C.getD i (0,false)) W (jC C W i) W.length
theorem Fd(c:aK)(W N:List aK)(j:Nat):(gK c W N j).length<=N.length+j:=by induction j <;> grind[gK,E9]
theorem Fe(C W:List aK)(i:Nat):(jC C W i).length<=i*W.length:=by induction i <;> grind[jC,Fd]
theorem TC(c:aK)(W N:List aK)(j:Nat)(x:aK):x∈gK c W N j↔x∈N\/∃i,i<j/\x.1≠0/\x=jd (W.getD i (0,false)) c:=by induction j <;> grind[gK,E8]
theorem TD(C W:List aK)(i:Nat)(x:aK):x∈jC C W i↔x.1≠0/\∃k,k<i/\∃a,a∈W/\x=jd a (C.getD k (0,false)):=by
 induction i with
 | zero=>simp[jC]
 | succ i ih=>
  rw[jC,TC,ih];constructor
  ·grind
  ·rintro⟨b,k,g,a,d,c⟩
   by_cases e:k=i
   ·subst e;obtain⟨j,f,rfl⟩:=vE (0,false) d;exact .inr ⟨j,f,b,c⟩
   ·grind
def gL (pol:Int) (nodes:Nat) (ws:List cY):Nat->List aK
 | 0=>[(nodes,true)]
 | k+1=>jC (iN pol nodes (ws.getD k im)) (gL pol nodes ws k) (iN pol nodes (ws.getD k im)).length
theorem td(pol:Int)(nodes:Nat)(ws:List cY)(k:Nat):oq pol nodes ws k (gL pol nodes ws k):=by
 induction k with
 | zero=>intro x;simp[gL,rb]
 | succ k ih=>
  intro x;rw[gL,TD,rb];constructor
  ·rintro⟨e,j,h,a,b,f⟩;obtain⟨c,d,g⟩:=(y9 ..).1 (iM _ (0,false) _ h);refine⟨e,a,c,(ih a).1 b,d,?_⟩;rw[f,g,E7 (yZ ((ih a).1 b))]
  ·rintro⟨e,a,c,b,d,f⟩;obtain⟨j,h,g⟩:=vE (0,false) ((y9 ..).2 ⟨c,d,rfl⟩);refine⟨e,j,h,a,(ih a).2 b,?_⟩;rw[g,E7 (yZ b),f]
theorem Ff(k:Nat)(h:k<=4):16 ^ k<=65536:=by
 have:k=0\/k=1\/k=2\/k=3\/k=4:=by omega
 rcases this with rfl|rfl|rfl|rfl|rfl <;> decide
theorem Fg(pol:Int)(nodes:Nat)(ws:List cY)(a:∀w,w∈ws->w.hs.length<=16)(k:Nat)(e:k<=ws.length):(gL pol nodes ws k).length<=16 ^ k:=by
 induction k with
 | zero=>simp[gL]
 | succ k ih=>
  rw[gL];have d:=Fe (iN pol nodes (ws.getD k im)) (gL pol nodes ws k) (iN pol nodes (ws.getD k im)).length;have b:=Fc pol nodes (ws.getD k im) (a _ (iM _ _ _ (by omega)));have c:=Nat.mul_le_mul b (ih (by omega));rw[Nat.pow_succ];omega
def ot (pol:Int) (nodes:Nat) (ws:List cY):aK:=Tx (gL pol nodes ws ws.length) (nodes,false)
theorem TE{pol:Int}{nodes:Nat}{ws:List cY}(a:nodes<256):(ot pol nodes ws).1<256:=E6 (oq.low (td pol nodes ws ws.length) a) a _ (lR)
section
open Go.ChangeShapes Go.WideShapes Go.ChangeAt Go.RowKit
theorem cL.form{v:Value}{l:List aK}(h:cL w v l):∃a c,v=.slice a l.length c/\(0<l.length->∃b o,a=some ⟨b,o,none⟩/\b<w.heap.size/\∀k,k<l.length->w.cell? ⟨b,o+k*2,none⟩=some (.int .u8 ((l.getD k (0,false)).1:Nat))/\w.cell? ⟨b,o+k*2+1,none⟩=some (.bool (l.getD k (0,false)).2)):=by cases h <;> grind
def kf (w:World) (v:Value) (ws:List cY):Prop:=
 (ws=[]/\∃ao c,v=.slice ao 0 c)\/∃b o c,v=.slice (some ⟨b,o,none⟩) ws.length c/\b<w.heap.size/\∀k,k<ws.length->w.cell? ⟨b,o+k*2,none⟩=some (.bool (ws.getD k im).any)/\∃u,w.cell? ⟨b,o+k*2+1,none⟩=some u/\cL w u (ws.getD k im).hs
theorem kf.below{ws:List cY}(h:kf w v ws)(a:Bw w w'):kf w' v ws:=by
 rcases h with h|⟨b,o,c,d,Ha,e⟩
 ·exact .inl h
 ·refine .inr ⟨b,o,c,d,Q1 Ha a.size,λk i=>?_⟩;obtain⟨g,u,j,f⟩:=e k i;exact⟨(a.cell (p:=⟨b,o+k*2,none⟩) Ha).trans g,u,(a.cell (p:=⟨b,o+k*2+1,none⟩) Ha).trans j,f.below a⟩
theorem kf.form{v:Value}{ws:List cY}(h:kf w v ws):∃a c,v=.slice a ws.length c/\(0<ws.length->∃b o,a=some ⟨b,o,none⟩/\b<w.heap.size/\∀k,k<ws.length->w.cell? ⟨b,o+k*2,none⟩=some (.bool (ws.getD k im).any)/\∃u,w.cell? ⟨b,o+k*2+1,none⟩=some u/\cL w u (ws.getD k im).hs):=by cases h <;> grind
instance:Inhabited cY:=⟨im⟩
end
abbrev vH (h:aK):Value:=.agg #[.int .u8 (h.1:Nat),h.2]
def Found (l:List aK) (h:aK) (e:Ending):Prop:=(h∈l/\∃r:Nat,e=.returned (r:Int))\/(h ∉ l/\e=.returned (-1:Int))
theorem TF{v:Value}{l:List aK}(h:aK){w:World}(A:cL w v l)(J:l.length<=4000000) :
  Calls pg 290 #[v,vH h] w λe w'=>Found l h e/\Bw w w':=by
 obtain⟨L,c,rfl,u⟩:=A.form;have E:=qI u;clear u A;unfold vH;obtain⟨p,g⟩:=h;have r:Hu (Bw w (w.alloc (.cells #[.int .u8 (p:Nat),g] 231))):=(Q0 _ _).alloc (lR) _;have B:=qI (show (w.alloc (.cells #[.int .u8 (p:Nat),g] 231)).cell? w=some (.int .u8 (p:Nat))/\(w.alloc (.cells #[.int .u8 (p:Nat),g] 231)).cell? ⟨w,1,none⟩=some (.bool g) by simp)
 go_enter func290,ntmps290
 go_wp2
 go_loopw [8] (λi wr=>∃k:Nat,k<=l.length/\i=.int .i64 k/\Hu (∀j,j<k->l.getD j (0,false)≠(p,g))/\Hu (Below (w.heap.size+1) (w.alloc (.cells #[.int .u8 (p:Nat),g] 231)) wr)) (λi _=>l.length - (intOf i).toNat)
 exact⟨0,by omega,rfl,λj t=>by omega,Q0 _ _⟩
 ·obtain⟨k,I,rfl,s,m⟩:=hrel
  by_cases a:k<l.length
  ·obtain⟨b,o,rfl,z,Ha⟩:=E.o (by omega);have d:=m.o;have C:=qI (iM l (0,false) k a);have n:Hu (∀x,l.getD k (0,false)=x->x≠(p,g)->∀j,j<k+1->l.getD j (0,false)≠(p,g)):=by
    intro x C He j t
    by_cases e:j=k
    ·grind
    ·exact s.o j (by omega)
   have c0:=((d.cell (p:=⟨b,o+k*2,none⟩) (by grind)).trans (r.o.cell (p:=⟨b,o+k*2,none⟩) z)).trans (Ha k a).1;have c1:=((d.cell (p:=⟨b,o+k*2+1,none⟩) (by grind)).trans (r.o.cell (p:=⟨b,o+k*2+1,none⟩) z)).trans (Ha k a).2;have K:=(d.cell (p:=w.heap.size) (by simp)).trans B.o.1;have H:=(d.cell (p:=⟨w,1,none⟩) (by simp)).trans B.o.2;clear d Ha s;generalize D:l.getD k (0,false)=x at *;have n:=qI (n.o x rfl);obtain⟨q,f⟩:=x;simp only at c0 c1;have D:=qI D
   by_cases y:p=q
   ·rcases two (g == f) with hf|hf
    ·have:g=f:=by simpa using hf
     subst this;subst y;clear hf
     go_wp2
     go_quiet (fail)
     go_wp2
     go_ret;exact⟨.inl ⟨C,k,rfl⟩,r.o.trans (below_drewN (m.o.mono (by omega)) _)⟩
    ·subst y
     go_wp2
     go_quiet (fail)
     go_wp2
     go_roundw
     exact⟨k+1,by omega,by go_num,n.o (by grind),below_drewN m _⟩
     simp[intOf];omega
   ·have hf:((p:Int) == (q:Int))=false:=by grind
    go_wp2
    go_quiet (fail)
    go_wp2
    go_roundw
    exact⟨k+1,by omega,by go_num,n.o (by grind),below_drewN m _⟩
    simp[intOf];omega
  ·have Hb:k=l.length:=by omega
   subst Hb;have Hc:Hu ((p,g) ∉ l):=by
    intro G;obtain⟨j,t,F⟩:=vE (0,false) G;exact s.o j t F
   go_wp2
   go_ret;exact⟨.inr ⟨Hc,rfl⟩,r.o.trans (m.o.mono (by omega))⟩
theorem TG{v:Value}{l:List aK}(h:aK){w:World}(d:cL w v l)(k:l.length<=4000000) :
  CB 258 #[v,vH h] w (.bool (decide (h∈l))):=by
 obtain⟨p,g⟩:=h;have j:Hu (Bw w (w.alloc (.cells #[.int .u8 (p:Nat),g] 231))):=(Q0 _ _).alloc (lR) _;have m:=qI (TF (v:=v) (l:=l) (p,g) (w:=w.alloc (.cells #[.int .u8 (p:Nat),g] 231)) (d.below j.o) k);obtain⟨n,c,rfl,_⟩:=d.form;clear d;unfold vH at *
 go_enter func258,ntmps258
 go_wp2
 refine m.o.mono ?_;rintro e o ⟨hf,i⟩;have f:=qI (j.o.trans (i.mono (by simp)));clear i
 rcases hf with⟨a,r,rfl⟩|⟨a,rfl⟩
 ·have a:=qI a
  go_wp2
  go_ret;exact⟨congrArg (λb=>Ending.returned (.bool b)) (Qc a.o).symm,f.o⟩
 ·have a:=qI a
  go_wp2
  go_ret;exact⟨congrArg (λb=>Ending.returned (.bool b)) (Q7 a.o).symm,f.o⟩
def TH (base:Nat) (w:World) (l:List aK) (e:Ending) (w':World):Prop:=∃v,e=.returned v/\w'.ownsRow base 231 2 v l.length (gJ l)/\Below base w w'
def TI (base:Nat) (v0:Value) (w:World) (l:List aK) (e:Ending) (w':World):Prop:=∃v,e=.returned v/\w'.ownsRow base 231 2 v l.length (gJ l)/\Below base w w'/\∀b,b<w.heap.size->some b≠v0.ownBlock->w'.heap[b]?=w.heap[b]?/\some b≠v.ownBlock
theorem za{base:Nat}{v:Value}{l:List aK}(h:aK)(w:World)(k:w.ownsRow base 231 2 v l.length (gJ l))(z:l.length<=4000000)(a:base<=w) :
  Calls pg 205 #[v,vH h] w λe w'=>TI base v w (je l h) e w':=by
 obtain⟨p,g⟩:=h;have n:Hu (Bw w (w.alloc (.cells #[.int .u8 (p:Nat),g] 231))):=(Q0 _ _).alloc (lR) _;have y:=qI (TG (p,g) ((cL.of_row k).below n) z);have x:=qI (mL k n);have Hl:=qI k.lt;obtain⟨G,c,rfl⟩:=kW k;have r:=qI (show (w.alloc (.cells #[.int .u8 (p:Nat),g] 231)).cell? w=some (.int .u8 (p:Nat))/\(w.alloc (.cells #[.int .u8 (p:Nat),g] 231)).cell? ⟨w,1,none⟩=some (.bool g) by simp);clear k;unfold vH at *;obtain⟨i0,hi,Hh,Hj,Hk⟩:=info_parts EZ
 go_enter func205,ntmps205
 go_wp2
 refine y.o.m λA d=>?_;have m:=qI (n.o.trans (d.mono (by simp)));have He:=qI (mL x d);have E:=(d.cell (p:=w.heap.size) (by simp)).trans r.o.1;have C:=(d.cell (p:=⟨w,1,none⟩) (by simp)).trans r.o.2;have Hf:Hu (w+1<=A.heap.size):=Q5 (by simp) d.size;clear d y x n r
 by_cases o:(p,g)∈l
 ·rw[Qc o];have q:Hu (je l (p,g)=l):=by grind[Hu,je]
  clear o
  go_wp2
  go_ret;exact⟨_,rfl,by rw[q.o];exact He.o,m.o.mono a,λb d f=>⟨m.o.block b d,f⟩⟩
 ·rw[Q7 o];have q:Hu (je l (p,g)=l++[(p,g)]):=by grind[Hu,je]
  clear o;have Hm:=Hf.o
  go_wp2_with (at_builtin;refine wpList_append_lies _ rfl _ _ 275 rfl base 231 i0 (.agg #[.int .u8 0,false]) 2 2 underlying275 hi Hh Hj Hk rfl (by decide) _ _ _ rfl (He.o.alloc _) _ 1 1 [.int .u8 p,.bool g] rfl rfl (by intro j u i;match j,i with|0,i=>(simp at i;subst i;simp[Addr.add])|1,i=>(simp at i;subst i;simp[Addr.add])) (by intro u s;simp at s;rcases s with rfl|rfl <;> rfl) (by decide) (by unfold maxLen;omega) (by omega) (by simp;omega) _ rfl ?_;intro B t D Hb Ha Hc Hi)
  go_ret;refine⟨_,rfl,by rw[q.o,vB,Q2];exact Hb,?_,λb d f=>⟨?_,?_⟩⟩
  ·exact ((m.o.mono a).alloc (by omega) _).grown Ha (by simp;omega) λj i=>(He.o.lt j i).1
  ·rw[Ha.block b (by simp;omega) f,heap_alloc_old _ _ (by omega)];exact m.o.block b d
  ·intro F;have Hg:b=B:=by simp_all[Value.ownBlock]
   subst Hg
   rcases Hc with h|h
   ·exact f h.symm
   ·simp at h;omega
theorem TJ{base:Nat}{v:Value}{l:List aK}(h:aK)(w:World)(b:w.ownsRow base 231 2 v l.length (gJ l))(c:l.length<=4000000)(a:base<=w) :
  Calls pg 205 #[v,vH h] w λe w'=>TH base w (je l h) e w':=
 (za h w b c a).mono λ_ _ ⟨v',he,hr,hb,_⟩=>⟨v',he,hr,hb⟩
theorem TK(a b:aK)(w:World)(q:a.1<256)(p:b.1<256) :
  CB 165 #[vH a,vH b] w (.bool (kX a b)):=by
 obtain⟨m,g⟩:=a;obtain⟨n,f⟩:=b;simp only at q p;unfold vH;have j:Hu (Bw w ((w.alloc (.cells #[.int .u8 (m:Nat),g] 231)).alloc (.cells #[.int .u8 (n:Nat),f] 231))):=((Q0 _ _).alloc (lR) _).alloc (by simp) _;have k:=qI λw=>sZ m w q;have o:=qI λw=>sZ n w p;obtain⟨r,l⟩:∃r,r=kX (m,g) (n,f):=⟨_,rfl⟩;rw[<- l];have h:=qI l;clear l
 go_enter func165,ntmps165
 rcases two (g != f) with Ha|Ha
 ·have i:Hu (g=r):=by unfold Hu;rw[h.o];unfold kX;rw[if_pos Ha]
  have He:(!g == f)=true:=Ha;clear Ha
  go_wp2
  go_ret;exact⟨congrArg (λb=>Ending.returned (.bool b)) i,j⟩
 ·have He:(!g == f)=false:=Ha;have Hf:=pL m;have Hg:=pL n
  go_wp2
  have s:((w.alloc (.cells #[.int .u8 (m:Nat),g] 231)).alloc (.cells #[.int .u8 (n:Nat),f] 231)).cell? w=some (.int .u8 (m:Nat)):=by go_simp
  have t:((w.alloc (.cells #[.int .u8 (m:Nat),g] 231)).alloc (.cells #[.int .u8 (n:Nat),f] 231)).cell? (w.heap.size+1:Nat)=some (.int .u8 (n:Nat)):=by go_simp
  generalize ((w.alloc (.cells #[.int .u8 (m:Nat),g] 231)).alloc (.cells #[.int .u8 (n:Nat),f] 231))=W at *
  by_cases d:cE m=cE n
  ·have i:Hu (decide (m<n)=r):=by
    unfold Hu;rw[h.o];unfold kX;rw[if_neg (by rw[Ha];simp),if_neg (by simp[d])]
   have Hc:((cE m:Int) == (cE n:Int))=true:=by rw[beq_iff_eq];omega
   clear Ha d h;generalize cE m=x at *;generalize cE n=y at *
   go_region_with (go_at_call 206;go_loud (first|(refine (k.o _).m λc Hb=>?_;subst c)|(refine (o.o _).m λc Hb=>?_;subst c)))
   all_goals
    go_wp2
    go_ret;exact⟨congrArg (λb=>Ending.returned (.bool b)) i,below_drewN j _⟩
  ·have i:Hu (decide (cE m<cE n)=r):=by
    unfold Hu;rw[h.o];unfold kX;rw[if_neg (by rw[Ha];simp),if_pos (by simpa using d)]
   have Hc:((cE m:Int) == (cE n:Int))=false:=by rw[Qr];omega
   clear Ha d h;generalize cE m=x at *;generalize cE n=y at *
   go_region_with (go_at_call 206;go_loud (first|(refine (k.o _).m λc Hb=>?_;subst c)|(refine (o.o _).m λc Hb=>?_;subst c)))
   all_goals
    go_wp2
    go_region_with (go_at_call 206;go_loud (first|(refine (k.o _).m λc Hb=>?_;subst c)|(refine (o.o _).m λc Hb=>?_;subst c)))
    all_goals
     go_wp2
     go_ret;exact⟨congrArg (λb=>Ending.returned (.bool b)) i,below_drewN (below_drewN j _) _⟩
def zb (w:World) (l:List aK) (e:Ending) (w':World):Prop:=∃v,e=.returned v/\cL w' v l/\Below w w w'
theorem Fh(a b:Nat)(g:a<256)(e:b<256):bits BinOp.and IntKind.u8 (a:Int) (b:Int)=((a &&& b:Nat):Int):=by
 have f:a &&& b<2 ^ 8:=Nat.and_lt_two_pow _ (by omega);have c:(BitVec.ofInt 8 (a:Int)).toNat=a:=by
  grind
 have d:(BitVec.ofInt 8 (b:Int)).toNat=b:=by
  grind
 show IntKind.u8.wrap ((BitVec.ofInt 8 (a:Int) &&& BitVec.ofInt 8 (b:Int)).toNat:Int)=_
 rw[BitVec.toNat_and,c,d]
 show ((a &&& b:Nat):Int) % 256=_
 omega
theorem zc(w:World)(m:Nat)(g:Bool)(t:TypeId):cL (w.alloc (.cells #[.int .u8 (m:Nat),g] t)) (.slice w 1 1) [(m,g)]:=
 .inr ⟨w,0,1,rfl,by simp,λk a=>by
  simp_all⟩
theorem TL(pol:Int)(nodes:Nat)(v:Value)(w:World){b:Option Addr}{n c:Nat}(d:v=.slice b n c) :
  Calls pg 204 #[.int .i64 pol,.int .u8 nodes,.agg #[true,v]] w λe w'=>zb w [(nodes,true)] e w':=by
 subst d;have f:Hu (Bw w ((w.alloc (.cells #[true,.slice b n c] 279)).alloc (.cells #[.int .u8 (nodes:Nat),true] 231))):=((Q0 _ _).alloc (lR) _).alloc (by simp) _;have a:=zc (w.alloc (.cells #[true,.slice b n c] 279)) nodes true 231;simp only[World.size_alloc] at a;have a:=qI a
 go_enter func204,ntmps204
 go_wp2
 go_ret;exact⟨_,rfl,a,f⟩
theorem TM(pol:Int)(nodes:Nat)(v:Value)(hs:List aK)(w:World)(C:cL w v hs)(a:om hs)(O:hs.length<=16)(J:nodes<256)(N:0<=pol/\pol<=3) :
  Calls pg 204 #[.int .i64 pol,.int .u8 nodes,.agg #[false,v]] w λe w'=>zb w (iN pol nodes ⟨false,hs⟩) e w':=by
 obtain⟨G,c,rfl,D⟩:=C.form;have H:=qI D;clear D C;have q:Hu (Bw w (w.alloc (.cells #[false,.slice G hs.length c] 279))):=(Q0 _ _).alloc (lR) _;have Hv:=qI a;clear a
 go_enter func204,ntmps204
 go_wp2
 have Ht:=qI λ(w:World)=>zc w nodes false 231
 go_loopw [7,18] (λl i wr=>∃k:Nat,k<=hs.length/\i=.int .i64 k/\Hu (wr.ownsRow (w.heap.size+1) 231 2 l (eZ pol nodes hs k).length (gJ (eZ pol nodes hs k)))/\Hu (Below (w.heap.size+1) (w.alloc (.cells #[false,.slice G hs.length c] 279)) wr)/\w+1<=wr.heap.size) (λ_ i _=>hs.length - (intOf i).toNat)
 exact⟨0,by omega,rfl,Qw _ _ _ _,Q0 _ _,by simp⟩
 ·obtain⟨k,K,rfl,d,f,Hy⟩:=hrel;have M:=Fa pol nodes hs k
  by_cases n:k<hs.length
  ·obtain⟨b,o,rfl,B,Hq⟩:=H.o (by omega);obtain⟨c0,c1⟩:=Hq k n
   replace c0:=((f.o.cell (p:=⟨b,o+k*2,none⟩) (by grind)).trans (q.o.cell (p:=⟨b,o+k*2,none⟩) B)).trans c0
   replace c1:=((f.o.cell (p:=⟨b,o+k*2+1,none⟩) (by grind)).trans (q.o.cell (p:=⟨b,o+k*2+1,none⟩) B)).trans c1
   have A:=Hv.o _ (iM hs (0,false) k n);have Ho:eZ pol nodes hs (k+1)=if ip pol (hs.getD k (0,false)) then je (eZ pol nodes hs k) (kb nodes (hs.getD k (0,false))) else eZ pol nodes hs k:=rfl
   have Hk:=qI Ho;clear Ho Hq;generalize hs.getD k (0,false)=x at *;obtain⟨m,g⟩:=x;simp only at c0 c1 A;have F:=qI λw=>sZ m w A;have Hz:=pL m;have Hx:=Fh m nodes A J;have Hh:=qI (f.o.alloc Hy (.cells #[.int .u8 (m:Nat),g] 231));have Hg:=qI (d.o.alloc (.cells #[.int .u8 (m:Nat),g] 231));have h:=qI λI=>TJ (base:=w.heap.size+1) (v:=I) (l:=eZ pol nodes hs k) (kb nodes (m,g)) (wr.alloc (.cells #[.int .u8 (m:Nat),g] 231))
   unfold vH kb at h;obtain⟨r,c2,rfl⟩:=kW d
   rcases two (decide (pol=3)) with Ha|Ha
   ·have Ha:=of_decide_eq_true Ha;subst Ha
    rcases two g with s|s
    ·subst s
     by_cases j:cE m=1
     ·have He:Hu (ip 3 (m,true)=true):=by grind[Hu,ip]
      have Hn:((cE m:Int) == 1)=true:=by rw[beq_iff_eq];omega
      clear j;generalize cE m=p at *
      go_wp2
      refine (F.o _).m λt Hw=>?_;subst t
      go_wp2
      refine (h.o _ Hg (by omega) (by simp;omega)).mono ?_;rintro e z ⟨v2,rfl,Hi,Hf⟩;have Hj:=qI Hi;have Hm:=qI (Hh.o.trans Hf);have Hc:w+1<=z.heap.size:=Q5 (by simp;omega) Hf.size;obtain⟨u,c3,rfl⟩:=kW Hj;clear Hi Hf h Hg Hh d f c0 c1
      go_wp2
      go_roundw
      exact⟨k+1,by omega,by go_num,by rw[Hk.o,if_pos He.o];exact Hj.o,Hm,Hc⟩
      simp[intOf];omega
     ·have He:Hu (¬ ip 3 (m,true)=true):=by grind[Hu,ip]
      have Hn:((cE m:Int) == 1)=false:=by grind
      clear j;generalize cE m=p at *
      go_wp2
      refine (F.o _).m λt Hw=>?_;subst t
      go_wp2
      go_roundw
      exact⟨k+1,by omega,by go_num,by rw[Hk.o,if_neg He.o];exact Hg.o,Hh,by simp;omega⟩
      simp[intOf];omega
    ·subst s;have He:Hu (¬ ip 3 (m,false)=true):=by unfold Hu ip;simp
     go_wp2
     go_roundw
     exact⟨k+1,by omega,by go_num,by rw[Hk.o,if_neg He.o];exact Hg.o,Hh,by simp;omega⟩
     simp[intOf];omega
   ·have Ha:=of_decide_eq_false Ha;have He:Hu (ip pol (m,g)=true):=by grind[Hu,ip]
    have Hp:(pol == 3)=false:=by omega
    go_wp2
    refine (h.o _ Hg (by omega) (by simp;omega)).mono ?_;rintro e z ⟨v2,rfl,Hi,Hf⟩;have Hj:=qI Hi;have Hm:=qI (Hh.o.trans Hf);have Hc:w+1<=z.heap.size:=Q5 (by simp;omega) Hf.size;obtain⟨u,c3,rfl⟩:=kW Hj;clear Hi Hf h Hg Hh d f c0 c1
    go_wp2
    go_roundw
    exact⟨k+1,by omega,by go_num,by rw[Hk.o,if_pos He.o];exact Hj.o,Hm,Hc⟩
    simp[intOf];omega
  ·have Hs:k=hs.length:=by omega
   subst Hs;have Hb:iN pol nodes ⟨false,hs⟩=if (eZ pol nodes hs hs.length).length=0 then [(nodes,false)] else eZ pol nodes hs hs.length:=rfl
   obtain⟨r,c2,rfl⟩:=kW d;have Hr:=qI (q.o.trans (f.o.mono (by omega)));have Hl:w<=wr.heap.size:=by omega
   by_cases E:(eZ pol nodes hs hs.length).length=0
   ·rw[if_pos E] at Hb;have Hb:=qI Hb;have y:=qI (Ht.o wr)
    go_wp2
    go_ret;exact⟨_,rfl,by rw[Hb.o];exact y.o,Hr.o.alloc Hl _⟩
   ·rw[if_neg E] at Hb;have Hb:=qI Hb;have L:((((eZ pol nodes hs hs.length).length:Nat):Int) == 0)=false:=by grind
    have y:=qI (cL.of_row d);generalize eZ pol nodes hs hs.length=l at *
    go_wp2
    go_ret;exact⟨_,rfl,by rw[Hb.o];exact y.o,Hr⟩
theorem TN(pol:Int)(nodes:Nat)(any:Bool){v:Value}{hs:List aK}{w:World}(b:cL w v hs)(a:om hs)(g:hs.length<=16)(h:nodes<256)(f:0<=pol/\pol<=3) :
  Calls pg 204 #[.int .i64 pol,.int .u8 nodes,.agg #[any,v]] w λe w'=>zb w (iN pol nodes ⟨any,hs⟩) e w':=by
 cases any
 ·grind[TM]
 ·obtain⟨d,c,Ha,_⟩:=b.form;exact TL pol nodes v w Ha
def ze (ws:List cY):Prop:=∀y,y∈ws->om y.hs/\y.hs.length<=16
theorem zf(pol:Int)(nodes:Nat)(y:cY)(b:nodes<256):om (iN pol nodes y):=λx a=>by
 obtain⟨c,_,rfl⟩:=(y9 ..).1 a;exact Nat.lt_of_le_of_lt Nat.and_le_right b
theorem vF{b o:Nat}(h:w'.heap[b]?=w.heap[b]?)(c:w.cell? ⟨b,o,none⟩=some v):w'.cell? ⟨b,o,none⟩=some v:=(World.cell?_of_block (w:=w) (a:=⟨b,o,none⟩) h).trans c
def TO (w:World) (l:List aK) (e:Ending) (w':World):Prop:=∃v,e=.returned v/\cL w' v l/\Below w w w'/\∀b o n c,v=.slice (some ⟨b,o,none⟩) n c->w.heap.size<=b
theorem TP(pol:Int)(nodes:Nat){v:Value}{ws:List cY}{w:World}(T:kf w v ws)(hw:ze ws)(hl:ws.length<=4)(t:nodes<256)(hp:0<=pol/\pol<=3) :
  Calls pg 164 #[.int .i64 pol,.int .u8 nodes,v] w λe w'=>TO w (gL pol nodes ws ws.length) e w':=by
 have HV:=qI T;obtain⟨ao,c,rfl,_⟩:=T.form;have HU:=qI hw;clear T hw
 go_enter func164,ntmps164
 go_wp2
 have HK:=qI (zc w nodes true 231);have HJ:Hu (Bw w (w.alloc (.cells #[.int .u8 (nodes:Nat),true] 231))):=(Q0 _ _).alloc (lR) _
 go_loopw [7,21] (λvW i wr=>∃k:Nat,k<=ws.length/\i=.int .i64 k/\Hu (cL wr vW (gL pol nodes ws k))/\Hu (Bw w wr)/\Hu (∀b o n c,vW=.slice (some ⟨b,o,none⟩) n c->w.heap.size<=b)) (λ_ i _=>ws.length - (intOf i).toNat)
 exact⟨0,by omega,rfl,HK.o,HJ.o,λb o n c h=>by grind⟩
 ·obtain⟨k,hk,rfl,D,H,H6⟩:=hrel;clear HK HJ;have HM:=Fg pol nodes ws (λy s=>(HU.o y s).2) k hk;have HY:=Ff k (by omega)
  by_cases G:k<ws.length
  ·obtain⟨hq,c',Hk,Hg⟩:=(HV.o.below H.o).form;obtain⟨rfl,rfl⟩:ao=hq/\c=c':=by simpa using Hk
   obtain⟨b,o,rfl,ha,Hg⟩:=Hg (by omega);obtain⟨c0,u,c1,O⟩:=Hg k G;have s:=HU.o _ (iM ws im k G);have H5:Hu (gL pol nodes ws (k+1)=jC (iN pol nodes (ws.getD k im)) (gL pol nodes ws k) (iN pol nodes (ws.getD k im)).length):=rfl;clear Hg Hk;generalize ws.getD k im=y at *;obtain⟨any,hs⟩:=y;simp only at c0 c1 O s;have S:=qI (oq.low (td pol nodes ws k) t);have S:=qI (oq.low (td pol nodes ws k) t);have S:=qI (oq.low (td pol nodes ws k) t);generalize gL pol nodes ws k=W at *;have hg:=Fc pol nodes ⟨any,hs⟩ s.2;have U:=qI (zf pol nodes ⟨any,hs⟩ t);have U:=qI (zf pol nodes ⟨any,hs⟩ t);have U:=qI (zf pol nodes ⟨any,hs⟩ t);obtain⟨r,c2,rfl,_⟩:=O.form;have K:=qI ((Q0 wr wr).alloc (lR) (.cells #[any,.slice r hs.length c2] 279));have HP:=qI (TN pol nodes any (O.below K.o) s.1 s.2 t hp);have HN:=qI (D.o.below K.o);have Hm:=H.t K.o;have hh:=qI (cL.form D.o);obtain⟨aw,cw,rfl,_⟩:=cL.form D.o;clear O s D H
   go_wp2
   refine HP.o.mono ?_;rintro e R ⟨vC,rfl,hC,HI⟩;have H3:=qI (HN.o.below HI);have HQ:=Hm.t HI;have HC:=qI hC;generalize iN pol nodes ⟨any,hs⟩=C at *;obtain⟨ac,cc,rfl,_⟩:=hC.form;clear hC HI HN Hm HP K c0 c1
   go_wp2
   generalize hB2:R.heap.size=B at *
   go_loopw [10,30] (λvN i wq=>∃l:Nat,l<=C.length/\i=.int .i64 l/\Hu (wq.ownsRow B 231 2 vN (jC C W l).length (gJ (jC C W l)))/\Hu (Below B R wq)) (λ_ i _=>C.length - (intOf i).toNat)
   exact⟨0,by omega,rfl,Qw _ _ _ _,Q0 _ _⟩
   ·obtain⟨l,hi,rfl,A,Hq⟩:=hrel;have HA:=Q5 (Nat.le_of_eq hB2.symm) Hq.o.size;have hb:=Fe C W l;have he:l*W.length<=16*65536:=Nat.mul_le_mul (by omega) (by omega);have Hw:Hu (jC C W (l+1)=gK (C.getD l (0,false)) W (jC C W l) W.length):=rfl;obtain⟨ht,hr,rfl⟩:=kW A.o
    by_cases F:l<C.length
    ·obtain⟨Y,Z,Hk,Hg⟩:=(HC.o.below (show Below _ _ _ by rw[hB2];exact Hq.o)).form;obtain⟨rfl,rfl⟩:ac=Y/\cc=Z:=by simpa using Hk
     obtain⟨b3,o3,rfl,H2,Hg⟩:=Hg (by omega);obtain⟨d0,d1⟩:=Hg l F;have hm:=U.o _ (iM C (0,false) l F);clear Hg Hk;generalize C.getD l (0,false)=x at *;obtain⟨m,g⟩:=x;simp only at d0 d1 hm;generalize jC C W l=N at *;have HL:=qI (A.o.alloc (.cells #[.int .u8 (m:Nat),g] 231));have Hm:=qI (Hq.o.alloc HA (.cells #[.int .u8 (m:Nat),g] 231));have HS:=qI (A.o.lt);have Hy:(wr.alloc (.cells #[.int .u8 (m:Nat),g] 231)).cell? wr.heap.size=some (.int .u8 (m:Nat)):=by simp
     have Hx:(wr.alloc (.cells #[.int .u8 (m:Nat),g] 231)).cell? ⟨wr,1,none⟩=some (.bool g):=by simp
     have Hy:=qI Hy;have Hx:=qI Hx;clear A Hq
     go_wp2
     generalize hLL:wr.heap.size=L at *
     go_loopw [10,36] (λvN i M=>∃(j:Nat) (J:Value),j<=W.length/\i=.int .i64 j/\vN=J/\Hu (M.ownsRow B 231 2 J (gK (m,g) W N j).length (gJ (gK (m,g) W N j)))/\Hu (Below B R M)/\M.cell? L=some (.int .u8 (m:Nat))/\M.cell? ⟨L,1,none⟩=some (.bool g)/\Hu (some L≠J.ownBlock)) (λ_ i _=>W.length - (intOf i).toNat)
     exact⟨0,_,by omega,rfl,rfl,HL.o,Hm.o,Hy.o,Hx.o,λh=>by have:=(HS.o L h.symm).2;omega⟩
     ·obtain⟨j,J,hj,rfl,rfl,Hl,Ho,E,P,He⟩:=hrel;clear HL Hm Hy Hx HS hLL;have Hs:=Q5 (Nat.le_of_eq hB2.symm) Ho.o.size;have hc:=Q3 _ _ E;have HZ:=Fd (m,g) W N j;obtain⟨an,cn,rfl⟩:=kW Hl.o
      by_cases I:j<W.length
      ·obtain⟨X,ho,Hk,Hg⟩:=(H3.o.below (show Below _ _ _ by rw[hB2];exact Ho.o)).form;obtain⟨rfl,rfl⟩:aw=X/\cw=ho:=by simpa using Hk
       obtain⟨b4,o4,rfl,H8,Hg⟩:=Hg (by omega);obtain⟨q0,q1⟩:=Hg j I;have HT:=S.o _ (iM W (0,false) j I);have Ha:gK (m,g) W N (j+1)=if (jd (W.getD j (0,false)) (m,g)).1=0 then gK (m,g) W N j else je (gK (m,g) W N j) (jd (W.getD j (0,false)) (m,g)):=rfl
       clear Hg Hk;generalize W.getD j (0,false)=z at *;obtain⟨p,f⟩:=z;simp only at q0 q1 HT;have Hv:=Fh p m HT hm
       rcases two f with hf|hf
       ·subst hf;have Hz:Hu (jd (p,true) (m,g)=(p &&& m,g)):=by cases g <;> rfl
        rw[Hz.o] at Ha;have Hj:=qI (za (p &&& m,g) ((wr.alloc (.cells #[.int .u8 (p:Nat),true] 231)).alloc (.cells #[.int .u8 ((p &&& m:Nat):Int),g] 231)) ((Hl.o.alloc _).alloc _) (by omega) (by simp;omega));unfold vH at Hj;have Hc:=qI ((Ho.o.alloc Hs (.cells #[.int .u8 (p:Nat),true] 231)).alloc (by simp;omega) (.cells #[.int .u8 ((p &&& m:Nat):Int),g] 231));have Hf:=qI ((Hl.o.alloc (.cells #[.int .u8 (p:Nat),true] 231)).alloc (.cells #[.int .u8 ((p &&& m:Nat):Int),g] 231));have z0:=jc E (.cells #[.int .u8 (p:Nat),true] 231);have z1:=jc P (.cells #[.int .u8 (p:Nat),true] 231);have a:=jc z0 (.cells #[.int .u8 ((p &&& m:Nat):Int),g] 231);have d:=jc z1 (.cells #[.int .u8 ((p &&& m:Nat):Int),g] 231)
        by_cases q:p &&& m=0
        ·have Hn:((p &&& m:Nat):Int)=0:=by omega
         rw[if_pos q] at Ha;have Ha:=qI Ha;rw[Hn] at Hc Hf a d Hv;clear q Hn Hj
         go_wp2
         go_roundw
         exact⟨j+1,_,by omega,by go_num,rfl,by rw[Ha.o];exact Hf.o,Hc.o,a,d,He.o⟩
         simp[intOf];omega
        ·have H9:(((p &&& m:Nat):Int) == 0)=false:=by rw[Qr];omega
         rw[if_neg q] at Ha;have Ha:=qI Ha;have q:=qI q;generalize p &&& m=pm at *
         go_wp2
         refine Hj.o.mono ?_;rintro e w5 ⟨v5,rfl,Hp,Ht,Hb⟩;have Hr:=qI Hp;have HD:=qI (Hc.o.trans Ht);have Hi:L<((wr.alloc (.cells #[.int .u8 (p:Nat),true] 231)).alloc (.cells #[.int .u8 (pm:Int),g] 231)).heap.size:=by simp;omega
         have Q:=vF (Hb L Hi He.o).1 a;have V:=vF (Hb L Hi He.o).1 d;have Hh:=qI (Hb L Hi He.o).2;obtain⟨a5,c5,rfl⟩:=kW Hr.o;clear Hp Ht Hb Hi Hj a d z0 z1 E P Hc Hf
         go_wp2
         go_roundw
         exact⟨j+1,_,by omega,by go_num,rfl,by rw[Ha.o];exact Hr.o,HD.o,Q,V,Hh.o⟩
         simp[intOf];omega
       ·subst hf;have Hz:Hu (jd (p,false) (m,g)=(p &&& m,false)):=by rfl
        rw[Hz.o] at Ha;have Hj:=qI (za (p &&& m,false) ((wr.alloc (.cells #[.int .u8 (p:Nat),false] 231)).alloc (.cells #[.int .u8 ((p &&& m:Nat):Int),false] 231)) ((Hl.o.alloc _).alloc _) (by omega) (by simp;omega));unfold vH at Hj;have Hc:=qI ((Ho.o.alloc Hs (.cells #[.int .u8 (p:Nat),false] 231)).alloc (by simp;omega) (.cells #[.int .u8 ((p &&& m:Nat):Int),false] 231));have Hf:=qI ((Hl.o.alloc (.cells #[.int .u8 (p:Nat),false] 231)).alloc (.cells #[.int .u8 ((p &&& m:Nat):Int),false] 231));have z0:=jc E (.cells #[.int .u8 (p:Nat),false] 231);have z1:=jc P (.cells #[.int .u8 (p:Nat),false] 231);have a:=jc z0 (.cells #[.int .u8 ((p &&& m:Nat):Int),false] 231);have d:=jc z1 (.cells #[.int .u8 ((p &&& m:Nat):Int),false] 231)
        by_cases q:p &&& m=0
        ·have Hn:((p &&& m:Nat):Int)=0:=by omega
         rw[if_pos q] at Ha;have Ha:=qI Ha;rw[Hn] at Hc Hf a d Hv;clear q Hn Hj
         go_wp2
         go_roundw
         exact⟨j+1,_,by omega,by go_num,rfl,by rw[Ha.o];exact Hf.o,Hc.o,a,d,He.o⟩
         simp[intOf];omega
        ·have H9:(((p &&& m:Nat):Int) == 0)=false:=by rw[Qr];omega
         rw[if_neg q] at Ha;have Ha:=qI Ha;have q:=qI q;generalize p &&& m=pm at *
         go_wp2
         refine Hj.o.mono ?_;rintro e w5 ⟨v5,rfl,Hp,Ht,Hb⟩;have Hr:=qI Hp;have HD:=qI (Hc.o.trans Ht);have Hi:L<((wr.alloc (.cells #[.int .u8 (p:Nat),false] 231)).alloc (.cells #[.int .u8 (pm:Int),false] 231)).heap.size:=by simp;omega
         have Q:=vF (Hb L Hi He.o).1 a;have V:=vF (Hb L Hi He.o).1 d;have Hh:=qI (Hb L Hi He.o).2;obtain⟨a5,c5,rfl⟩:=kW Hr.o;clear Hp Ht Hb Hi Hj a d z0 z1 E P Hc Hf
         go_wp2
         go_roundw
         exact⟨j+1,_,by omega,by go_num,rfl,by rw[Ha.o];exact Hr.o,HD.o,Q,V,Hh.o⟩
         simp[intOf];omega
      ·have H7:j=W.length:=by omega
       subst H7
       go_wp2
       go_roundw
       exact⟨l+1,by omega,by go_num,by rw[Hw.o];exact Hl.o,Ho.o⟩
       simp[intOf];omega
    ·have H0:l=C.length:=by omega
     subst H0;have HH:=qI (cL.of_row A.o);have HO:w.heap.size<=B:=by rw[<- hB2];exact HQ.o.size
     have H4:=qI (HQ.o.trans (Hq.o.mono HO));have HE:=qI (E5 A.o HO)
     go_wp2
     go_roundw
     exact⟨k+1,by omega,by go_num,by rw[H5.o];exact HH.o,H4.o,HE.o⟩
     simp[intOf];omega
  ·have H1:k=ws.length:=by omega
   subst H1;obtain⟨aw,cw,rfl,_⟩:=cL.form D.o
   go_wp2
   go_ret;exact⟨_,rfl,D.o,H.o,H6.o⟩
theorem vG{fn:Func}{p u t:Tmp}{b:TypeId}(h:fn.results=#[.cell p b,.tmp u,.tmp t])(tmps:Array Value)(P:Program)(w:World) :
  (results fn tmps).run P w =
   ((asAddr (tmps.getD p undef)).run P w).andThen λa d=>((loadVar b a).run P d).andThen λv c=>.ok (.tuple #[v,tmps.getD u undef,tmps.getD t undef]) c:=by
 simp_all[results]
theorem Fi{nodes:Nat}(h:nodes<=15):bits BinOp.andNot IntKind.u8 (nodes:Int) 15=0:=by
 have key:∀(x:Fin 16),bits BinOp.andNot IntKind.u8 ((x.val:Nat):Int) 15=0:=by decide +kernel
 exact key ⟨nodes,by omega⟩
theorem TQ(nodes:Nat)(b:Option Addr){n:Nat}(c:Nat)(w:World)(d:1<=nodes/\nodes<=15)(f:n<=4) :
  CB 130 #[(0:Int),.int .u8 nodes,.slice b n c] w (.tuple #[vH (nodes,true),true,.nilIface]):=by
 have a:Hu (Bw w (w.alloc (.cells #[.int .u8 0,false] 231))):=(Q0 _ _).alloc (lR) _;unfold vH;have Ha:=Fi d.2;have g:((nodes:Int) == 0)=false:=by grind
 go_enter func130,ntmps130
 go_wp2
 (try simp only[Exit.inBlock,Exit.then]);refine bodyPost_ret (v:=.tuple #[.agg #[.int .u8 nodes,true],true,.nilIface]) ?_ rfl ⟨rfl,?_⟩
 ·rw[vG rfl];go_simp
 ·first
   | exact a.o
   | exact (Q0 _ _).alloc (lR) _
   | exact (a.o.setCell (lR) _).setCell (lR) _
structure lM (u:World) (N:Nat) (h:aK):Prop where
 c00:u.cell? N=some (.int .u8 0)
 c01:u.cell? ⟨N,1,none⟩=some (.bool false)
 c10:u.cell? (N+1:Nat)=some (.int .u8 (h.1:Nat))
 c11:u.cell? ⟨N+1,1,none⟩=some (.bool h.2)
 f00:u.frozen? N=false
 f01:u.frozen? ⟨N,1,none⟩=false
 f10:u.frozen? (N+1:Nat)=false
 f11:u.frozen? ⟨N+1,1,none⟩=false
theorem lM.lt{h:aK}(e:lM u N h):N+1<u:=Q3 u _ e.c10
theorem lM.below{b:World}{K:Nat}{h:aK}(e:lM u N h)(a:Below K u b)(c:N+2<=K):lM b N h:=
 ⟨(a.cell (p:=N) (by show N<K;omega)).trans e.c00,(a.cell (p:=⟨N,1,none⟩) (by show N<K;omega)).trans e.c01,(a.cell (p:=⟨N+1,0,none⟩) (by show N+1<K;omega)).trans e.c10,(a.cell (p:=⟨N+1,1,none⟩) (by show N+1<K;omega)).trans e.c11,
  (a.frozen (p:=N) (by show N<K;omega)).trans e.f00,(a.frozen (p:=⟨N,1,none⟩) (by show N<K;omega)).trans e.f01,(a.frozen (p:=⟨N+1,0,none⟩) (by show N+1<K;omega)).trans e.f10,(a.frozen (p:=⟨N+1,1,none⟩) (by show N+1<K;omega)).trans e.f11⟩
theorem lM.set{h:aK}(e:lM u N h)(m:Nat)(g:Bool):lM ((u.setCell (N+1:Nat) (.int .u8 (m:Nat))).setCell ⟨N+1,1,none⟩ g) N (m,g):=by
 obtain⟨c00,c01,c10,c11,f00,f01,f10,f11⟩:=e;refine⟨?_,?_,?_,?_,?_,?_,?_,?_⟩ <;> go_simp
theorem cL.set{v:Value}{l:List aK}(h:cL w v l)(d:∀b o n c,v=.slice (some ⟨b,o,none⟩) n c->N+2<=b)(x y:Value):cL ((w.setCell (N+1:Nat) x).setCell ⟨N+1,1,none⟩ y) v l:=by
 rcases h with h|⟨b,o,j,e,Ha,f⟩
 ·exact .inl h
 ·have m:=d b o _ _ e;refine .inr ⟨b,o,j,e,by simpa using Ha,λk g=>?_⟩;have i:((w.setCell (N+1:Nat) x).setCell ⟨N+1,1,none⟩ y).heap[b]?=w.heap[b]?:=by
   grind[Below.heap_setCell]
  exact⟨(World.cell?_of_block (w:=w) (a:=⟨b,o+k*2,none⟩) i).trans (f k g).1,(World.cell?_of_block (w:=w) (a:=⟨b,o+k*2+1,none⟩) i).trans (f k g).2⟩
theorem TR(pol:Int)(nodes:Nat)(v:Value)(ws:List cY)(w:World)(t:kf w v ws)(z:ze ws)(D:ws.length<=4)(Q:1<=nodes/\nodes<=15)(O:1<=pol/\pol<=3) :
  CB 130 #[pol,.int .u8 nodes,v] w (.tuple #[vH (ot pol nodes ws),.bool ((ot pol nodes ws).2 || decide (pol=1)),.nilIface]):=by
 have a:Hu (Bw w ((w.alloc (.cells #[.int .u8 0,false] 231)).alloc (.cells #[.int .u8 (nodes:Nat),false] 231))):=((Q0 _ _).alloc (lR) _).alloc (by simp) _;have E:=qI (TP pol nodes (t.below a) z D (by omega) (by omega));have Hx:=qI (oq.low (td pol nodes ws ws.length) (show nodes<256 by omega));have L:Hu (ot pol nodes ws=gh (gL pol nodes ws ws.length) (nodes,false) (gL pol nodes ws ws.length).length):=rfl;have Ht:=Fg pol nodes ws (λy G=>(z y G).2) ws.length (lR);have U:=Ff ws.length D;generalize ot pol nodes ws=T at *;generalize gL pol nodes ws ws.length=W at *;obtain⟨ao,c,rfl,_⟩:=t.form;clear t z;have Z:=Fi Q.2;have h4:((nodes:Int) == 0)=false:=by grind
 obtain⟨R,HN⟩:=O;have HS:0<=pol:=by omega
 have HM:(pol == 0)=false:=by grind
 have Hs:Hu (lM ((w.alloc (.cells #[.int .u8 0,false] 231)).alloc (.cells #[.int .u8 (nodes:Nat),false] 231)) w (nodes,false)):=by
  refine⟨?_,?_,?_,?_,?_,?_,?_,?_⟩ <;> go_simp
 unfold vH at *
 go_enter func130,ntmps130
 go_wp2
 refine E.o.mono ?_;rintro e w2 ⟨I,rfl,u,Hp,Hy⟩;have C:=qI (a.o.trans (Hp.mono (by simp;omega)));have A:=qI (Hs.o.below Hp (by simp));have B:=qI u;have N:Hu (∀b o n c,I=.slice (some ⟨b,o,none⟩) n c->w.heap.size+2<=b):=λb o n c h=>Q5 (by simp) (Hy b o n c h)
 obtain⟨ac,cc,rfl,_⟩:=u.form;clear u Hp Hs E a Hy
 go_wp2
 go_loopw [45] (λi wr=>∃k:Nat,k<=W.length/\i=.int .i64 k/\Hu (lM wr w (gh W (nodes,false) k))/\Hu (cL wr (.slice ac W.length cc) W)/\Hu (Bw w wr)) (λi _=>W.length - (intOf i).toNat)
 exact⟨0,by omega,rfl,A,B,C⟩
 ·obtain⟨k,H,rfl,Ha,Hm,Hj⟩:=hrel;clear A B C;have Hb:=E6 Hx (show ((nodes,false):aK).1<256 by show nodes<256;omega) k H
  by_cases l:k<W.length
  ·obtain⟨r,s,Hz,Hi⟩:=Hm.o.form;obtain⟨rfl,rfl⟩:ac=r/\cc=s:=by simpa using Hz
   obtain⟨b,o,rfl,HP,Hi⟩:=Hi (by omega);obtain⟨c0,c1⟩:=Hi k l;have F:=Hx.o _ (iM W (0,false) k l);have Hc:gh W (nodes,false) (k+1)=if kX (W.getD k (0,false)) (gh W (nodes,false) k) then W.getD k (0,false) else gh W (nodes,false) k:=rfl
   clear Hi Hz;generalize W.getD k (0,false)=x at *;generalize gh W (nodes,false) k=y at *;obtain⟨m,g⟩:=x;obtain⟨p,f⟩:=y;simp only at c0 c1 F Hb;have a:=qI ((Q0 wr wr).alloc (lR) (.cells #[.int .u8 (m:Nat),g] 231));have Hf:=qI (Ha.o.below a Ha.o.lt);have Hv:=qI (Hm.o.below a);have Hn:=Hj.t a;have HQ:=Ha.o.lt;have d:=Hf.o.c10;have j:=Hf.o.c11;simp only at d j;have Hq:=qI (TK (m,g) (p,f) (wr.alloc (.cells #[.int .u8 (m:Nat),g] 231)) F Hb);have Hk:(wr.alloc (.cells #[.int .u8 (m:Nat),g] 231)).cell? wr=some (.int .u8 (m:Nat)):=by simp
   have Hh:(wr.alloc (.cells #[.int .u8 (m:Nat),g] 231)).cell? ⟨wr,1,none⟩=some (.bool g):=by simp
   have Hk:=qI Hk;have Hh:=qI Hh;unfold vH at Hq;clear Ha Hm Hj
   go_wp2
   refine Hq.o.m λV He=>?_;have Hg:=qI (Hf.o.below He Hf.o.lt);have Hw:=qI (Hv.o.below He);have Hr:=Hn.t He;have S:=(He.cell (p:=wr.heap.size) (by simp)).trans Hk;have l1:=(He.cell (p:=⟨wr,1,none⟩) (by simp)).trans Hh;clear He Hq Hk Hh Hf Hv Hn a c0 c1 d j
   rcases two (kX (m,g) (p,f)) with Ho|Ho
   ·rw[Ho] at Hc ⊢;rw[if_pos rfl] at Hc;have Hc:=qI Hc;have X:=qI (Hg.o.set m g);have K:=qI (Hw.o.set N (.int .u8 (m:Nat)) g);have M:=qI ((Hr.o.setCell (p:=⟨w.heap.size+1,0,none⟩) (by simp) (.int .u8 (m:Nat))).setCell (p:=⟨w.heap.size+1,1,none⟩) (by simp) g);have d:=Hg.o.c10;have j:=Hg.o.c11;have f0:=Hg.o.f10;have f1:=Hg.o.f11;simp only at d j
    go_wp2
    go_roundw
    exact⟨k+1,by omega,by go_num,by grind,K,M⟩
    simp[intOf];omega
   ·rw[Ho] at Hc ⊢;rw[if_neg (by decide)] at Hc;have Hc:=qI Hc
    go_wp2
    go_roundw
    exact⟨k+1,by omega,by go_num,by grind,Hw,Hr⟩
    simp[intOf];omega
  ·have P:k=W.length:=by omega
   subst P;rw[<- L.o] at Ha Hb;obtain⟨p,f⟩:=T;have d:=Ha.o.c10;have j:=Ha.o.c11;have d0:=Ha.o.c00;have Y:=Ha.o.c01;have f0:=Ha.o.f00;have f1:=Ha.o.f01;simp only at d j;have Hl:=qI ((Hj.o.setCell (p:=w.heap.size) (lR) (.int .u8 (p:Nat))).setCell (p:=⟨w,1,none⟩) (lR) f)
   rcases two f with hf|hf
   ·subst hf
    go_wp2
    (try simp only[Exit.inBlock,Exit.then]);refine bodyPost_ret (v:=.tuple #[.agg #[.int .u8 (p:Nat),true],true,.nilIface]) ?_ rfl ⟨rfl,Hl⟩;rw[vG rfl];go_simp
   ·subst hf
    by_cases q:pol=1
    ·have hd:Hu (decide (pol=1)=true):=Qc q;have J:(pol == 1)=true:=by grind
     clear q
     go_wp2
     (try simp only[Exit.inBlock,Exit.then]);refine bodyPost_ret (v:=.tuple #[.agg #[.int .u8 (p:Nat),false],true,.nilIface]) ?_ rfl ⟨by rw[hd.o],Hl⟩;rw[vG rfl];go_simp
    ·have hd:Hu (decide (pol=1)=false):=Q7 q;have J:(pol == 1)=false:=by grind
     clear q
     go_wp2
     (try simp only[Exit.inBlock,Exit.then]);refine bodyPost_ret (v:=.tuple #[.agg #[.int .u8 (p:Nat),false],false,.nilIface]) ?_ rfl ⟨by rw[hd.o],Hl⟩;rw[vG rfl];go_simp
