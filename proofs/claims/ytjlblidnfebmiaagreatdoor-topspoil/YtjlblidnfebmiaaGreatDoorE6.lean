import Derived.Test.YtjlblidnfebmiaaGreatDoorE5
import Derived.Deep.SlicePairs
import Derived.Laws.IdiomArrays
set_option maxRecDepth 100000
set_option maxHeartbeats 16000000
open Go Go.RowKit
open Go.Proofs.Tryz
namespace Go.Proofs.YtjlblidnfebmiaaGreatDoor
variable {N k nodes:Nat} {pol:Int} {u w w':World} {v:Value}
abbrev aH:=Nat × Bool
structure cG where
 any:Bool
 hs:List aH
def fY:cG:=⟨false,[]⟩
def je (a b:aH):Bool:=if a.2 != b.2 then a.2 else if bY a.1 != bY b.1 then decide (bY a.1<bY b.1) else decide (a.1<b.1)
def key_Ost (a:aH):Nat:=(if a.2 then 0 else 4096)+bY a.1*256+a.1
theorem Hy (a b:aH) (d:a.1<256) (c:b.1<256):je a b=decide (key_Ost a<key_Ost b):=by grind [m8,je,key_Ost,bY]
def eQ (L:List aH) (b0:aH):Nat->aH
 | 0=>b0
 | k+1=>if je (L.getD k (0,false)) (eQ L b0 k) then L.getD k (0,false) else eQ L b0 k
def Hz (L:List aH) (b0:aH):aH:=eQ L b0 L.length
def lZ (L:List aH):Prop:=∀ x,x∈L->x.1<256
theorem fF {α:Type} (L:List α) (d:α) (k:Nat) (h:k<L.length):L.getD k d∈L:=by simp [h]
theorem rU {α:Type} {L:List α} (d:α) {x:α} (h:x∈L):∃ k,k<L.length/\L.getD k d=x:=by
 obtain ⟨k,a,b⟩:=List.getElem_of_mem h;exact ⟨k,a,by simp [a,b]⟩
theorem H7 (L:List aH) (b0:aH) (m:lZ L) (i:b0.1<256) (k:Nat) (n:k<=L.length) :
  (eQ L b0 k=b0\/eQ L b0 k∈L)/\(eQ L b0 k).1<256/\key_Ost (eQ L b0 k)<=key_Ost b0/\∀ j,j<k->key_Ost (eQ L b0 k)<=key_Ost (L.getD j (0,false)):=by
 induction k with
 | zero=>exact ⟨.inl rfl,i,lR,λj d=>by omega⟩
 | succ k ih=>
  obtain ⟨l,c,h,b⟩:=ih (by omega);have g:=fF L (0,false) k (by omega);have f:=m _ g;rw [eQ];generalize hz:L.getD k (0,false)=x at *;have Ha:=Hy x (eQ L b0 k) f c
  by_cases a:je x (eQ L b0 k)=true
  ·rw [if_pos a];rw [a] at Ha;have He:=of_decide_eq_true Ha.symm;refine ⟨.inr g,f,by omega,λj d=>?_⟩
   by_cases e:j=k
   ·subst e;rw [hz];exact lR
   ·have:=b j (by omega);omega
  ·rw [if_neg a];have Hb:je x (eQ L b0 k)=false:=by simpa using a
   rw [Hb] at Ha;have Hc:=of_decide_eq_false Ha.symm;refine ⟨l,c,h,λj d=>?_⟩
   by_cases e:j=k
   ·subst e;rw [hz];omega
   ·exact b j (by omega)
theorem zb {L:List aH} {b0:aH} (c:lZ L) (a:b0.1<256) (k:Nat) (b:k<=L.length):(eQ L b0 k).1<256:=(H7 L b0 c a k b).2.1
def fZ (pol:Int) (h:aH):Bool:=decide (pol<3) || (h.2 && decide (bY h.1=1))
def uM (pol:Int) (nodes:Nat) (w:cG):List aH:=if w.any then [(nodes,true)] else if (w.hs.filter (fZ pol)).length=0 then [(nodes,false)] else w.hs.filter (fZ pol)
def hU (a c:aH):aH:=(a.1 &&& c.1,a.2 && c.2)
def oG (pol:Int) (nodes:Nat) (ws:List cG):Nat->aH->Prop
 | 0,h=>h=(nodes,true)
 | k+1,h=>h.1≠0/\∃ a c,oG pol nodes ws k a/\c∈uM pol nodes (ws.getD k fY)/\h=hU a c
theorem H8 {a c:aH} (h:a.1 &&& nodes=a.1):(hU a c).1 &&& nodes=(hU a c).1:=by
 show (a.1 &&& c.1) &&& nodes=a.1 &&& c.1
 rw [Nat.and_assoc,Nat.and_comm c.1,<- Nat.and_assoc,h]
theorem uN {ws:List cG} {h:aH} (b:oG pol nodes ws k h):h.1 &&& nodes=h.1:=by
 induction k generalizing h with
 | zero=>rw [show h=(nodes,true) from b];exact Nat.and_self _
 | succ k ih=>
  obtain ⟨_,a,c,d,_,rfl⟩:=b;exact H8 (ih d)
theorem H9 {ws:List cG} {h:aH} (a:nodes<256) (b:oG pol nodes ws k h):h.1<256:=by
 rw [<- uN b];exact Nat.lt_of_le_of_lt Nat.and_le_right a
def l6 (pol:Int) (nodes:Nat) (ws:List cG) (k:Nat) (L:List aH):Prop:=∀ x,x∈L↔oG pol nodes ws k x
theorem l6.low {ws:List cG} {L:List aH} (h:l6 pol nodes ws k L) (b:nodes<256):lZ L:=λx a=>H9 b ((h x).1 a)
def jf (nodes:Nat) (h:aH):aH:=(h.1 &&& nodes,h.2)
theorem zc {a c:aH} (h:a.1 &&& nodes=a.1):hU a (jf nodes c)=hU a c:=by grind [hU,jf]
def ie (l:List aH) (h:aH):List aH:=if h∈l then l else l++[h]
theorem ze (l:List aH) (h x:aH):x∈ie l h↔x∈l\/x=h:=by grind [ie]
theorem zf (l:List aH) (h:aH):(ie l h).length<=l.length+1:=by
 unfold ie
 split
 ·omega
 ·simp
def er (pol:Int) (nodes:Nat) (hs:List aH):Nat->List aH
 | 0=>[]
 | k+1=>if fZ pol (hs.getD k (0,false)) then ie (er pol nodes hs k) (jf nodes (hs.getD k (0,false))) else er pol nodes hs k
theorem zg (pol:Int) (nodes:Nat) (hs:List aH) (k:Nat):(er pol nodes hs k).length<=k:=by induction k <;> grind [er,zf]
theorem Ia (pol:Int) (nodes:Nat) (hs:List aH) (k:Nat) (x:aH):x∈er pol nodes hs k↔∃ j,j<k/\fZ pol (hs.getD j (0,false))=true/\x=jf nodes (hs.getD j (0,false)):=by induction k <;> grind [er,ze]
def gI (pol:Int) (nodes:Nat) (w:cG):List aH:=if w.any then [(nodes,true)] else if (er pol nodes w.hs w.hs.length).length=0 then [(nodes,false)] else er pol nodes w.hs w.hs.length
theorem uO (pol:Int) (nodes:Nat) (hs:List aH) (x:aH):x∈er pol nodes hs hs.length↔∃ c,c∈hs.filter (fZ pol)/\x=jf nodes c:=by
 rw [Ia];constructor
 ·rintro ⟨j,b,e,a⟩;exact ⟨_,List.mem_filter.2 ⟨fF _ _ _ b,e⟩,a⟩
 ·rintro ⟨c,d,a⟩;rw [List.mem_filter] at d;obtain ⟨j,b,rfl⟩:=rU (0,false) d.1;exact ⟨j,b,d.2,a⟩
theorem zh {α:Type} (l:List α):l.length=0↔∀ x,x ∉ l:=by
 cases l with
 | nil=>simp
 | cons a r=>
  constructor
  ·intro h;simp at h
  ·intro h;exact absurd List.mem_cons_self (h a)
theorem uP (pol:Int) (nodes:Nat) (w:cG) (x:aH):x∈gI pol nodes w↔∃ c,c∈uM pol nodes w/\x=jf nodes c:=by
 unfold gI uM;cases w.any
 ·have e:(er pol nodes w.hs w.hs.length).length=0↔(w.hs.filter (fZ pol)).length=0:=by
   rw [zh,zh];constructor
   ·intro h x a;exact h (jf nodes x) ((uO ..).2 ⟨x,a,rfl⟩)
   ·intro h x a;obtain ⟨c,d,_⟩:=(uO ..).1 a;exact h c d
  simp only [Bool.false_eq_true,if_false]
  by_cases h:(w.hs.filter (fZ pol)).length=0
  ·rw [if_pos h,if_pos (e.2 h)]
   simp [jf]
  ·rw [if_neg h,if_neg λb=>h (e.1 b)];exact uO ..
 ·simp [jf]
theorem zi (pol:Int) (nodes:Nat) (w:cG) (h:w.hs.length<=16):(gI pol nodes w).length<=16:=by grind [gI,zg]
def fG (c:aH) (W:List aH) (N:List aH):Nat->List aH
 | 0=>N
 | j+1=>if (hU (W.getD j (0,false)) c).1=0 then fG c W N j else ie (fG c W N j) (hU (W.getD j (0,false)) c)
def iE (C W:List aH):Nat->List aH
 | 0=>[]
 | i+1=>fG (C.getD i (0,false)) W (iE C W i) W.length
theorem zj (c:aH) (W N:List aH) (j:Nat):(fG c W N j).length<=N.length+j:=by induction j <;> grind [fG,zf]
theorem zk (C W:List aH) (i:Nat):(iE C W i).length<=i*W.length:=by induction i <;> grind [iE,zj]
theorem Ib (c:aH) (W N:List aH) (j:Nat) (x:aH):x∈fG c W N j↔x∈N\/∃ i,i<j/\x.1≠0/\x=hU (W.getD i (0,false)) c:=by induction j <;> grind [fG,ze]
theorem Ic (C W:List aH) (i:Nat) (x:aH):x∈iE C W i↔x.1≠0/\∃ k,k<i/\∃ a,a∈W/\x=hU a (C.getD k (0,false)):=by
 induction i with
 | zero=>simp [iE]
 | succ i ih=>
  rw [iE,Ib,ih];constructor
  ·rintro (⟨b,k,g,a,d,c⟩|⟨j,f,b,c⟩)
   ·exact ⟨b,k,by omega,a,d,c⟩
   ·exact ⟨b,i,by omega,_,fF _ _ _ f,c⟩
  ·rintro ⟨b,k,g,a,d,c⟩
   by_cases e:k=i
   ·subst e;obtain ⟨j,f,rfl⟩:=rU (0,false) d;exact .inr ⟨j,f,b,c⟩
   ·exact .inl ⟨b,k,by omega,a,d,c⟩
def fH (pol:Int) (nodes:Nat) (ws:List cG):Nat->List aH
 | 0=>[(nodes,true)]
 | k+1=>iE (gI pol nodes (ws.getD k fY)) (fH pol nodes ws k) (gI pol nodes (ws.getD k fY)).length
theorem pX (pol:Int) (nodes:Nat) (ws:List cG) (k:Nat):l6 pol nodes ws k (fH pol nodes ws k):=by
 induction k with
 | zero=>intro x;simp [fH,oG]
 | succ k ih=>
  intro x;rw [fH,Ic,oG];constructor
  ·rintro ⟨d,j,g,a,b,f⟩;obtain ⟨c,h,e⟩:=(uP ..).1 (fF _ (0,false) _ g);refine ⟨d,a,c,(ih a).1 b,h,?_⟩;rw [f,e,zc (uN ((ih a).1 b))]
  ·rintro ⟨d,a,c,b,h,f⟩;obtain ⟨j,g,e⟩:=rU (0,false) ((uP ..).2 ⟨c,h,rfl⟩);refine ⟨d,j,g,a,(ih a).2 b,?_⟩;rw [e,zc (uN b),f]
theorem zl (k:Nat) (h:k<=4):16 ^ k<=65536:=by
 have:k=0\/k=1\/k=2\/k=3\/k=4:=by omega
 rcases this with rfl|rfl|rfl|rfl|rfl <;> decide
theorem zm (pol:Int) (nodes:Nat) (ws:List cG) (a:∀ w,w∈ws->w.hs.length<=16) (k:Nat) (d:k<=ws.length):(fH pol nodes ws k).length<=16 ^ k:=by
 induction k with
 | zero=>simp [fH]
 | succ k ih=>
  rw [fH];have e:=zk (gI pol nodes (ws.getD k fY)) (fH pol nodes ws k) (gI pol nodes (ws.getD k fY)).length;have b:=zi pol nodes (ws.getD k fY) (a _ (fF _ _ _ (by omega)));have c:=Nat.mul_le_mul b (ih (by omega));rw [Nat.pow_succ];omega
def l7 (pol:Int) (nodes:Nat) (ws:List cG):aH:=Hz (fH pol nodes ws ws.length) (nodes,false)
theorem Ie (pol:Int) (nodes:Nat) (ws:List cG) (a:nodes<256):(l7 pol nodes ws).1<256:=zb (l6.low (pX pol nodes ws ws.length) a) a _ (lR)
section
open Go.ChangeShapes Go.WideShapes Go.ChangeAt Go.RowKit
theorem cd.form {v:Value} {l:List aH} (h:cd w v l):∃ a c,v=.slice a l.length c/\(0<l.length->∃ b o,a=some ⟨b,o,none⟩/\b<w.heap.size/\∀ k,k<l.length->w.cell? ⟨b,o+k*2,none⟩=some (.int .u8 ((l.getD k (0,false)).1:Nat))/\w.cell? ⟨b,o+k*2+1,none⟩=some (.bool (l.getD k (0,false)).2)):=by cases h <;> grind
def jg (w:World) (v:Value) (ws:List cG):Prop:=
 (ws=[]/\∃ ao c,v=.slice ao 0 c)\/∃ b o c,v=.slice (some ⟨b,o,none⟩) ws.length c/\b<w.heap.size/\∀ k,k<ws.length->w.cell? ⟨b,o+k*2,none⟩=some (.bool (ws.getD k fY).any)/\∃ u,w.cell? ⟨b,o+k*2+1,none⟩=some u/\cd w u (ws.getD k fY).hs
theorem jg.below {ws:List cG} (h:jg w v ws) (a:Below w w w'):jg w' v ws:=by
 rcases h with h|⟨b,o,c,e,Ha,j⟩
 ·exact .inl h
 ·refine .inr ⟨b,o,c,e,Q1 Ha a.size,λk i=>?_⟩;obtain ⟨g,u,f,d⟩:=j k i;exact ⟨(a.cell (p:=⟨b,o+k*2,none⟩) Ha).trans g,u,(a.cell (p:=⟨b,o+k*2+1,none⟩) Ha).trans f,d.below a⟩
theorem jg.form {v:Value} {ws:List cG} (h:jg w v ws):∃ a c,v=.slice a ws.length c/\(0<ws.length->∃ b o,a=some ⟨b,o,none⟩/\b<w.heap.size/\∀ k,k<ws.length->w.cell? ⟨b,o+k*2,none⟩=some (.bool (ws.getD k fY).any)/\∃ u,w.cell? ⟨b,o+k*2+1,none⟩=some u/\cd w u (ws.getD k fY).hs):=by cases h <;> grind
instance:Inhabited cG:=⟨fY⟩
end
abbrev vH (h:aH):Value:=.agg #[.int .u8 (h.1:Nat),h.2]
def Found (l:List aH) (h:aH) (e:Ending):Prop:=(h∈l/\∃ r:Nat,e=.returned (r:Int))\/(h ∉ l/\e=.returned (-1:Int))
theorem If (v:Value) (l:List aH) (h:aH) (w:World) (D:cd w v l) (K:l.length<=4000000) :
  Calls prog 290 #[v,vH h] w λe w'=>Found l h e/\Below w w w':=by
 obtain ⟨J,c,rfl,C⟩:=D.form;have E:=qI C;clear C D;unfold vH;obtain ⟨p,g⟩:=h;have n:Hu (Below w w (w.alloc (.cells #[.int .u8 (p:Nat),g] 231))):=(Q0 _ _).alloc (lR) _;have B:=qI (show (w.alloc (.cells #[.int .u8 (p:Nat),g] 231)).cell? w=some (.int .u8 (p:Nat))/\(w.alloc (.cells #[.int .u8 (p:Nat),g] 231)).cell? ⟨w,1,none⟩=some (.bool g) by simp)
 go_enter func290,ntmps290
 go_wp2
 go_loopw [8] (λi wr=>∃ k:Nat,k<=l.length/\i=.int .i64 k/\Hu (∀ j,j<k->l.getD j (0,false)≠(p,g))/\Hu (Below (w.heap.size+1) (w.alloc (.cells #[.int .u8 (p:Nat),g] 231)) wr)) (λi _=>l.length - (intOf i).toNat)
 case atStart=>exact ⟨0,by omega,rfl,λj t=>by omega,Q0 _ _⟩
 case round=>
  obtain ⟨k,L,rfl,s,m⟩:=hrel
  by_cases a:k<l.length
  ·obtain ⟨b,o,rfl,A,Ha⟩:=E.o (by omega);have d:=m.o;have y:=qI (fF l (0,false) k a);have r:Hu (∀ x,l.getD k (0,false)=x->x≠(p,g)->∀ j,j<k+1->l.getD j (0,false)≠(p,g)):=by
    intro x y Hc j t
    by_cases e:j=k
    ·subst e;rw [y];exact Hc
    ·exact s.o j (by omega)
   have c0:=((d.cell (p:=⟨b,o+k*2,none⟩) (by show b<w+1;omega)).trans (n.o.cell (p:=⟨b,o+k*2,none⟩) A)).trans (Ha k a).1;have c1:=((d.cell (p:=⟨b,o+k*2+1,none⟩) (by show b<w+1;omega)).trans (n.o.cell (p:=⟨b,o+k*2+1,none⟩) A)).trans (Ha k a).2;have H:=(d.cell (p:=w.heap.size) (by show w<w.heap.size+1;omega)).trans B.o.1;have I:=(d.cell (p:=⟨w,1,none⟩) (by show w<w.heap.size+1;omega)).trans B.o.2;clear d Ha s;generalize z:l.getD k (0,false)=x at *;have r:=qI (r.o x rfl);obtain ⟨q,f⟩:=x;simp only at c0 c1;have z:=qI z
   by_cases u:p=q
   ·rcases two (g == f) with hf|hf
    ·have:g=f:=by simpa using hf
     subst this;subst u;clear hf
     go_wp2
     go_quiet (fail)
     go_wp2
     go_ret;exact ⟨.inl ⟨y.o,k,rfl⟩,n.o.trans (below_drewN (m.o.mono (by omega)) _)⟩
    ·subst u
     go_wp2
     go_quiet (fail)
     go_wp2
     go_roundw
     case rel=>exact ⟨k+1,by omega,by go_num,r.o (by intro h;simp at h;rw [h] at hf;simp at hf),below_drewN m.o _⟩
     case measure=>simp [intOf];omega
   ·have hf:((p:Int) == (q:Int))=false:=by rw [Qr];omega
    go_wp2
    go_quiet (fail)
    go_wp2
    go_roundw
    case rel=>exact ⟨k+1,by omega,by go_num,r.o (by intro h;simp at h;exact u h.1.symm),below_drewN m.o _⟩
    case measure=>simp [intOf];omega
  ·have Hb:k=l.length:=by omega
   subst Hb;have He:Hu ((p,g) ∉ l):=by
    intro G;obtain ⟨j,t,F⟩:=rU (0,false) G;exact s.o j t F
   go_wp2
   go_ret;exact ⟨.inr ⟨He.o,rfl⟩,n.o.trans (m.o.mono (by omega))⟩
theorem Ig (v:Value) (l:List aH) (h:aH) (w:World) (d:cd w v l) (k:l.length<=4000000) :
  Calls prog 258 #[v,vH h] w λe w'=>e=.returned (.bool (decide (h∈l)))/\Below w w w':=by
 obtain ⟨p,g⟩:=h;have j:Hu (Below w w (w.alloc (.cells #[.int .u8 (p:Nat),g] 231))):=(Q0 _ _).alloc (lR) _;have m:=qI (If v l (p,g) (w.alloc (.cells #[.int .u8 (p:Nat),g] 231)) (d.below j.o) k);obtain ⟨n,c,rfl,_⟩:=d.form;clear d;unfold vH at *
 go_enter func258,ntmps258
 go_wp2_with fail
 refine m.o.mono ?_;rintro e o ⟨hf,i⟩;have f:=qI (j.o.trans (i.mono (by simp)));clear i
 rcases hf with ⟨a,r,rfl⟩|⟨a,rfl⟩
 ·have a:=qI a
  go_wp2
  go_ret;exact ⟨congrArg (λb=>Ending.returned (.bool b)) (Qc a.o).symm,f.o⟩
 ·have a:=qI a
  go_wp2
  go_ret;exact ⟨congrArg (λb=>Ending.returned (.bool b)) (Q7 a.o).symm,f.o⟩
def Ih (base:Nat) (w:World) (l:List aH) (e:Ending) (w':World):Prop:=∃ v,e=.returned v/\w'.ownsRow base 231 2 v l.length (fu l)/\Below base w w'
def Ii (base:Nat) (v0:Value) (w:World) (l:List aH) (e:Ending) (w':World):Prop:=∃ v,e=.returned v/\w'.ownsRow base 231 2 v l.length (fu l)/\Below base w w'/\∀ b,b<w.heap.size->some b≠v0.ownBlock->w'.heap[b]?=w.heap[b]?/\some b≠v.ownBlock
theorem uQ (base:Nat) (v:Value) (l:List aH) (h:aH) (w:World) (m:w.ownsRow base 231 2 v l.length (fu l)) (z:l.length<=4000000) (a:base<=w) :
  Calls prog 205 #[v,vH h] w λe w'=>Ii base v w (ie l h) e w':=by
 obtain ⟨p,g⟩:=h;have o:Hu (Below w w (w.alloc (.cells #[.int .u8 (p:Nat),g] 231))):=(Q0 _ _).alloc (lR) _;have y:=qI (Ig v l (p,g) (w.alloc (.cells #[.int .u8 (p:Nat),g] 231)) ((cd.of_row m).below o.o) z);have s:=qI (kR m o.o);have Hm:=qI m.lt;obtain ⟨F,c,rfl⟩:=jE m;have r:=qI (show (w.alloc (.cells #[.int .u8 (p:Nat),g] 231)).cell? w=some (.int .u8 (p:Nat))/\(w.alloc (.cells #[.int .u8 (p:Nat),g] 231)).cell? ⟨w,1,none⟩=some (.bool g) by simp);clear m;unfold vH at *;obtain ⟨i0,hi,Hh,Hi,Hj⟩:=info_parts y8
 go_enter func205,ntmps205
 go_wp2_with fail
 refine y.o.mono ?_;rintro e B ⟨rfl,d⟩;have n:=qI (o.o.trans (d.mono (by simp)));have He:=qI (kR s.o d);have D:=(d.cell (p:=w.heap.size) (by simp)).trans r.o.1;have E:=(d.cell (p:=⟨w,1,none⟩) (by simp)).trans r.o.2;have Hf:Hu (w+1<=B.heap.size):=Q5 (by simp) d.size;clear d y s o r
 by_cases k:(p,g)∈l
 ·rw [Qc k];have q:Hu (ie l (p,g)=l):=by unfold Hu ie;rw [if_pos k]
  clear k
  go_wp2
  go_ret;exact ⟨_,rfl,by rw [q.o];exact He.o,n.o.mono a,λb d f=>⟨n.o.block b d,f⟩⟩
 ·rw [Q7 k];have q:Hu (ie l (p,g)=l++[(p,g)]):=by unfold Hu ie;rw [if_neg k]
  clear k;have Hl:=Hf.o
  go_wp2_with (at_builtin;refine wpList_append_lies _ rfl _ _ 275 rfl base 231 i0 (.agg #[.int .u8 0,false]) 2 2 underlying275 hi Hh Hi Hj rfl (by decide) _ _ _ rfl (He.o.alloc _) _ 1 1 [.int .u8 p,.bool g] rfl rfl (by intro j u i;match j,i with|0,i=>(simp at i;subst i;simp [Addr.add])|1,i=>(simp at i;subst i;simp [Addr.add])) (by intro u t;simp at t;rcases t with rfl|rfl <;> rfl) (by decide) (by unfold maxLen;omega) (by omega) (by simp;omega) _ rfl ?_;intro C x G Hb Ha Hc Hg)
  go_ret;refine ⟨_,rfl,by rw [q.o,rS,Q2];exact Hb,?_,λb d f=>⟨?_,?_⟩⟩
  ·exact ((n.o.mono a).alloc (by omega) _).grown Ha (by simp;omega) λj i=>(He.o.lt j i).1
  ·rw [Ha.block b (by simp;omega) f,heap_alloc_old _ _ (by omega)];exact n.o.block b d
  ·intro A;have Hk:b=C:=by simpa [Value.ownBlock] using A
   subst Hk
   rcases Hc with h|h
   ·exact f h.symm
   ·simp at h;omega
theorem Ij (base:Nat) (v:Value) (l:List aH) (h:aH) (w:World) (c:w.ownsRow base 231 2 v l.length (fu l)) (b:l.length<=4000000) (a:base<=w) :
  Calls prog 205 #[v,vH h] w λe w'=>Ih base w (ie l h) e w':=
 (uQ base v l h w c b a).mono λ_ _ ⟨v',he,hr,hb,_⟩=>⟨v',he,hr,hb⟩
theorem Ik (a b:aH) (w:World) (q:a.1<256) (p:b.1<256) :
  Calls prog 165 #[vH a,vH b] w λe w'=>e=.returned (.bool (je a b))/\Below w w w':=by
 obtain ⟨m,g⟩:=a;obtain ⟨n,f⟩:=b;simp only at q p;unfold vH;have l:Hu (Below w w ((w.alloc (.cells #[.int .u8 (m:Nat),g] 231)).alloc (.cells #[.int .u8 (n:Nat),f] 231))):=((Q0 _ _).alloc (lR) _).alloc (by simp) _;have k:=qI λw=>pW m w q;have j:=qI λw=>pW n w p;obtain ⟨r,o⟩:∃ r,r=je (m,g) (n,f):=⟨_,rfl⟩;rw [<- o];have i:=qI o;clear o
 go_enter func165,ntmps165
 rcases two (g != f) with Ha|Ha
 ·have h:Hu (g=r):=by unfold Hu;rw [i.o];unfold je;rw [if_pos Ha]
  have He:(!g == f)=true:=Ha;clear Ha
  go_wp2
  go_ret;exact ⟨congrArg (λb=>Ending.returned (.bool b)) h.o,l.o⟩
 ·have He:(!g == f)=false:=Ha;have Hf:=m8 m;have Hg:=m8 n
  go_wp2_with fail
  have t:((w.alloc (.cells #[.int .u8 (m:Nat),g] 231)).alloc (.cells #[.int .u8 (n:Nat),f] 231)).cell? w=some (.int .u8 (m:Nat)):=by go_simp
  have s:((w.alloc (.cells #[.int .u8 (m:Nat),g] 231)).alloc (.cells #[.int .u8 (n:Nat),f] 231)).cell? (w.heap.size+1:Nat)=some (.int .u8 (n:Nat)):=by go_simp
  generalize ((w.alloc (.cells #[.int .u8 (m:Nat),g] 231)).alloc (.cells #[.int .u8 (n:Nat),f] 231))=W at *
  by_cases d:bY m=bY n
  ·have h:Hu (decide (m<n)=r):=by
    unfold Hu;rw [i.o];unfold je;rw [if_neg (by rw [Ha];simp),if_neg (by simp [d])]
   have Hc:((bY m:Int) == (bY n:Int))=true:=by rw [beq_iff_eq];omega
   clear Ha d i;generalize bY m=x at *;generalize bY n=y at *
   go_region_with (go_at_call 206;go_loud (first|(refine (k.o _).mono ?_;rintro e c ⟨rfl,Hb⟩;subst c)|(refine (j.o _).mono ?_;rintro e c ⟨rfl,Hb⟩;subst c)))
   all_goals
    go_wp2
    go_ret;exact ⟨congrArg (λb=>Ending.returned (.bool b)) h.o,below_drewN l.o _⟩
  ·have h:Hu (decide (bY m<bY n)=r):=by
    unfold Hu;rw [i.o];unfold je;rw [if_neg (by rw [Ha];simp),if_pos (by simpa using d)]
   have Hc:((bY m:Int) == (bY n:Int))=false:=by rw [Qr];omega
   clear Ha d i;generalize bY m=x at *;generalize bY n=y at *
   go_region_with (go_at_call 206;go_loud (first|(refine (k.o _).mono ?_;rintro e c ⟨rfl,Hb⟩;subst c)|(refine (j.o _).mono ?_;rintro e c ⟨rfl,Hb⟩;subst c)))
   all_goals
    go_wp2_with fail
    go_region_with (go_at_call 206;go_loud (first|(refine (k.o _).mono ?_;rintro e c ⟨rfl,Hb⟩;subst c)|(refine (j.o _).mono ?_;rintro e c ⟨rfl,Hb⟩;subst c)))
    all_goals
     go_wp2
     go_ret;exact ⟨congrArg (λb=>Ending.returned (.bool b)) h.o,below_drewN (below_drewN l.o _) _⟩
def uR (w:World) (l:List aH) (e:Ending) (w':World):Prop:=∃ v,e=.returned v/\cd w' v l/\Below w w w'
theorem zn (a b:Nat) (f:a<256) (g:b<256):bits BinOp.and IntKind.u8 (a:Int) (b:Int)=((a &&& b:Nat):Int):=by
 have e:a &&& b<2 ^ 8:=Nat.and_lt_two_pow _ (by omega);have d:(BitVec.ofInt 8 (a:Int)).toNat=a:=by
  rw [BitVec.ofInt_natCast,BitVec.toNat_ofNat];exact Nat.mod_eq_of_lt (by omega)
 have c:(BitVec.ofInt 8 (b:Int)).toNat=b:=by
  rw [BitVec.ofInt_natCast,BitVec.toNat_ofNat];exact Nat.mod_eq_of_lt (by omega)
 show IntKind.u8.wrap ((BitVec.ofInt 8 (a:Int) &&& BitVec.ofInt 8 (b:Int)).toNat:Int)=_
 rw [BitVec.toNat_and,d,c]
 show ((a &&& b:Nat):Int) % 256=_
 omega
theorem uS (w:World) (m:Nat) (g:Bool) (t:TypeId):cd (w.alloc (.cells #[.int .u8 (m:Nat),g] t)) (.slice w 1 1) [(m,g)]:=
 .inr ⟨w,0,1,rfl,by simp,λk a=>by
  have:k=0:=by simpa using a
  subst this;exact ⟨by simp,by simp⟩⟩
theorem Il (pol:Int) (nodes:Nat) (v:Value) (w:World) (b:Option Addr) (n c:Nat) (d:v=.slice b n c) :
  Calls prog 204 #[pol,.int .u8 nodes,.agg #[true,v]] w λe w'=>uR w [(nodes,true)] e w':=by
 subst d;have f:Hu (Below w w ((w.alloc (.cells #[true,.slice b n c] 279)).alloc (.cells #[.int .u8 (nodes:Nat),true] 231))):=((Q0 _ _).alloc (lR) _).alloc (by simp) _;have a:=uS (w.alloc (.cells #[true,.slice b n c] 279)) nodes true 231;simp only [World.size_alloc] at a;have a:=qI a
 go_enter func204,ntmps204
 go_wp2
 go_ret;exact ⟨_,rfl,a.o,f.o⟩
theorem Im (pol:Int) (nodes:Nat) (v:Value) (hs:List aH) (w:World) (G:cd w v hs) (d:lZ hs) (N:hs.length<=16) (J:nodes<256) (L:0<=pol/\pol<=3) :
  Calls prog 204 #[pol,.int .u8 nodes,.agg #[false,v]] w λe w'=>uR w (gI pol nodes ⟨false,hs⟩) e w':=by
 obtain ⟨F,c,rfl,E⟩:=G.form;have I:=qI E;clear E G;have t:Hu (Below w w (w.alloc (.cells #[false,.slice F hs.length c] 279))):=(Q0 _ _).alloc (lR) _;have Hv:=qI d;clear d
 go_enter func204,ntmps204
 go_wp2_with fail
 have Ht:=qI λ(w:World)=>uS w nodes false 231
 go_loopw [7,18] (λl i wr=>∃ k:Nat,k<=hs.length/\i=.int .i64 k/\Hu (wr.ownsRow (w.heap.size+1) 231 2 l (er pol nodes hs k).length (fu (er pol nodes hs k)))/\Hu (Below (w.heap.size+1) (w.alloc (.cells #[false,.slice F hs.length c] 279)) wr)/\w+1<=wr.heap.size) (λ_ i _=>hs.length - (intOf i).toNat)
 case atStart=>exact ⟨0,by omega,rfl,Qw _ _ _ _,Q0 _ _,by simp⟩
 case round=>
  obtain ⟨k,O,rfl,f,h,Hw⟩:=hrel;have K:=zg pol nodes hs k
  by_cases n:k<hs.length
  ·obtain ⟨b,o,rfl,C,Ho⟩:=I.o (by omega);obtain ⟨c0,c1⟩:=Ho k n
   replace c0:=((h.o.cell (p:=⟨b,o+k*2,none⟩) (by show b<w+1;omega)).trans (t.o.cell (p:=⟨b,o+k*2,none⟩) C)).trans c0
   replace c1:=((h.o.cell (p:=⟨b,o+k*2+1,none⟩) (by show b<w+1;omega)).trans (t.o.cell (p:=⟨b,o+k*2+1,none⟩) C)).trans c1
   have u:=Hv.o _ (fF hs (0,false) k n);have Hp:er pol nodes hs (k+1)=if fZ pol (hs.getD k (0,false)) then ie (er pol nodes hs k) (jf nodes (hs.getD k (0,false))) else er pol nodes hs k:=rfl
   have Hk:=qI Hp;clear Hp Ho;generalize hs.getD k (0,false)=x at *;obtain ⟨m,g⟩:=x;simp only at c0 c1 u;have D:=qI λw=>pW m w u;have Hz:=m8 m;have Hs:=zn m nodes u J;have Hh:=qI (h.o.alloc Hw (.cells #[.int .u8 (m:Nat),g] 231));have Hg:=qI (f.o.alloc (.cells #[.int .u8 (m:Nat),g] 231));have j:=qI λH=>Ij (w.heap.size+1) H (er pol nodes hs k) (jf nodes (m,g)) (wr.alloc (.cells #[.int .u8 (m:Nat),g] 231))
   unfold vH jf at j;obtain ⟨y,c2,rfl⟩:=jE f.o
   rcases two (decide (pol=3)) with Ha|Ha
   ·have Ha:=of_decide_eq_true Ha;subst Ha
    rcases two g with q|q
    ·subst q
     by_cases a:bY m=1
     ·have Hf:Hu (fZ 3 (m,true)=true):=by unfold Hu fZ;simp [a]
      have Hl:((bY m:Int) == 1)=true:=by rw [beq_iff_eq];omega
      clear a;generalize bY m=p at *
      go_wp2_with fail
      refine (D.o _).mono ?_;rintro e A ⟨rfl,Hy⟩;subst A
      go_wp2_with fail
      refine (j.o _ Hg.o (by omega) (by simp;omega)).mono ?_;rintro e z ⟨v2,rfl,Hi,He⟩;have Hj:=qI Hi;have Hn:=qI (Hh.o.trans He);have Hc:w+1<=z.heap.size:=Q5 (by simp;omega) He.size;obtain ⟨r,c3,rfl⟩:=jE Hj.o;clear Hi He j Hg Hh f h c0 c1
      go_wp2
      go_roundw
      case rel=>exact ⟨k+1,by omega,by go_num,by rw [Hk.o,if_pos Hf.o];exact Hj.o,Hn.o,Hc⟩
      case measure=>simp [intOf];omega
     ·have Hf:Hu (¬ fZ 3 (m,true)=true):=by unfold Hu fZ;simp [a]
      have Hl:((bY m:Int) == 1)=false:=by rw [Qr];omega
      clear a;generalize bY m=p at *
      go_wp2_with fail
      refine (D.o _).mono ?_;rintro e A ⟨rfl,Hy⟩;subst A
      go_wp2
      go_roundw
      case rel=>exact ⟨k+1,by omega,by go_num,by rw [Hk.o,if_neg Hf.o];exact Hg.o,Hh.o,by simp;omega⟩
      case measure=>simp [intOf];omega
    ·subst q;have Hf:Hu (¬ fZ 3 (m,false)=true):=by unfold Hu fZ;simp
     go_wp2
     go_roundw
     case rel=>exact ⟨k+1,by omega,by go_num,by rw [Hk.o,if_neg Hf.o];exact Hg.o,Hh.o,by simp;omega⟩
     case measure=>simp [intOf];omega
   ·have Ha:=of_decide_eq_false Ha;have Hf:Hu (fZ pol (m,g)=true):=by unfold Hu fZ;rw [Qc (by omega)];rfl
    have Hq:(pol == 3)=false:=by rw [Qr];exact Ha
    go_wp2_with fail
    refine (j.o _ Hg.o (by omega) (by simp;omega)).mono ?_;rintro e z ⟨v2,rfl,Hi,He⟩;have Hj:=qI Hi;have Hn:=qI (Hh.o.trans He);have Hc:w+1<=z.heap.size:=Q5 (by simp;omega) He.size;obtain ⟨r,c3,rfl⟩:=jE Hj.o;clear Hi He j Hg Hh f h c0 c1
    go_wp2
    go_roundw
    case rel=>exact ⟨k+1,by omega,by go_num,by rw [Hk.o,if_pos Hf.o];exact Hj.o,Hn.o,Hc⟩
    case measure=>simp [intOf];omega
  ·have Hx:k=hs.length:=by omega
   subst Hx;have Hb:gI pol nodes ⟨false,hs⟩=if (er pol nodes hs hs.length).length=0 then [(nodes,false)] else er pol nodes hs hs.length:=rfl
   obtain ⟨y,c2,rfl⟩:=jE f.o;have Hr:=qI (t.o.trans (h.o.mono (by omega)));have Hm:w<=wr.heap.size:=by omega
   by_cases B:(er pol nodes hs hs.length).length=0
   ·rw [if_pos B] at Hb;have Hb:=qI Hb;have s:=qI (Ht.o wr)
    go_wp2
    go_ret;exact ⟨_,rfl,by rw [Hb.o];exact s.o,Hr.o.alloc Hm _⟩
   ·rw [if_neg B] at Hb;have Hb:=qI Hb;have M:((((er pol nodes hs hs.length).length:Nat):Int) == 0)=false:=by rw [Qr];omega
    have s:=qI (cd.of_row f.o);generalize er pol nodes hs hs.length=l at *
    go_wp2
    go_ret;exact ⟨_,rfl,by rw [Hb.o];exact s.o,Hr.o⟩
theorem Io (pol:Int) (nodes:Nat) (any:Bool) (v:Value) (hs:List aH) (w:World) (b:cd w v hs) (a:lZ hs) (f:hs.length<=16) (d:nodes<256) (h:0<=pol/\pol<=3) :
  Calls prog 204 #[pol,.int .u8 nodes,.agg #[any,v]] w λe w'=>uR w (gI pol nodes ⟨any,hs⟩) e w':=by
 cases any
 ·exact Im pol nodes v hs w b a f d h
 ·obtain ⟨g,c,Ha,_⟩:=b.form;exact Il pol nodes v w g _ c Ha
def uT (ws:List cG):Prop:=∀ y,y∈ws->lZ y.hs/\y.hs.length<=16
theorem uU (pol:Int) (nodes:Nat) (y:cG) (b:nodes<256):lZ (gI pol nodes y):=λx a=>by
 obtain ⟨c,_,rfl⟩:=(uP ..).1 a;exact Nat.lt_of_le_of_lt Nat.and_le_right b
theorem rV {b o:Nat} (h:w'.heap[b]?=w.heap[b]?) (c:w.cell? ⟨b,o,none⟩=some v):w'.cell? ⟨b,o,none⟩=some v:=(World.cell?_of_block (w:=w) (a:=⟨b,o,none⟩) h).trans c
def Ip (w:World) (l:List aH) (e:Ending) (w':World):Prop:=∃ v,e=.returned v/\cd w' v l/\Below w w w'/\∀ b o n c,v=.slice (some ⟨b,o,none⟩) n c->w.heap.size<=b
theorem Iq (pol:Int) (nodes:Nat) (v:Value) (ws:List cG) (w:World) (hv:jg w v ws) (hw:uT ws) (hl:ws.length<=4) (s:nodes<256) (hp:0<=pol/\pol<=3) :
  Calls prog 164 #[pol,.int .u8 nodes,v] w λe w'=>Ip w (fH pol nodes ws ws.length) e w':=by
 have HV:=qI hv;obtain ⟨ao,c,rfl,_⟩:=hv.form;have HT:=qI hw;clear hv hw
 go_enter func164,ntmps164
 go_wp2_with fail
 have HQ:=qI (uS w nodes true 231);have HS:Hu (Below w w (w.alloc (.cells #[.int .u8 (nodes:Nat),true] 231))):=(Q0 _ _).alloc (lR) _
 go_loopw [7,21] (λvW i wr=>∃ k:Nat,k<=ws.length/\i=.int .i64 k/\Hu (cd wr vW (fH pol nodes ws k))/\Hu (Below w w wr)/\Hu (∀ b o n c,vW=.slice (some ⟨b,o,none⟩) n c->w.heap.size<=b)) (λ_ i _=>ws.length - (intOf i).toNat)
 case atStart=>exact ⟨0,by omega,rfl,HQ.o,HS.o,λb o n c h=>by cases h;exact lR⟩
 case round=>
  obtain ⟨k,hk,rfl,D,G,H1⟩:=hrel;clear HQ HS;have HJ:=zm pol nodes ws (λy r=>(HT.o y r).2) k hk;have H4:=zl k (by omega)
  by_cases E:k<ws.length
  ·obtain ⟨ho,c',Hk,Hg⟩:=(HV.o.below G.o).form;obtain ⟨rfl,rfl⟩:ao=ho/\c=c':=by simpa using Hk
   obtain ⟨b,o,rfl,hg,Hg⟩:=Hg (by omega);obtain ⟨c0,u,c1,J⟩:=Hg k E;have r:=HT.o _ (fF ws fY k E);have H2:Hu (fH pol nodes ws (k+1)=iE (gI pol nodes (ws.getD k fY)) (fH pol nodes ws k) (gI pol nodes (ws.getD k fY)).length):=rfl;clear Hg Hk;generalize ws.getD k fY=y at *;obtain ⟨any,hs⟩:=y;simp only at c0 c1 J r;have V:=qI (l6.low (pX pol nodes ws k) s);have V:=qI (l6.low (pX pol nodes ws k) s);have V:=qI (l6.low (pX pol nodes ws k) s);generalize fH pol nodes ws k=W at *;have hc:=zi pol nodes ⟨any,hs⟩ r.2;have Q:=qI (uU pol nodes ⟨any,hs⟩ s);have Q:=qI (uU pol nodes ⟨any,hs⟩ s);have Q:=qI (uU pol nodes ⟨any,hs⟩ s);obtain ⟨t,c2,rfl,_⟩:=J.form;have K:=qI ((Q0 wr wr).alloc (lR) (.cells #[any,.slice t hs.length c2] 279));have HM:=qI (Io pol nodes any (.slice t hs.length c2) hs (wr.alloc (.cells #[any,.slice t hs.length c2] 279)) (J.below K.o) r.1 r.2 s hp);have HK:=qI (D.o.below K.o);have Hl:=qI (G.o.trans (K.o.mono G.o.size));have hb:=qI (cd.form D.o);obtain ⟨aw,cw,rfl,_⟩:=cd.form D.o;clear J r D G
   go_wp2_with fail
   refine HM.o.mono ?_;rintro e w2 ⟨vC,rfl,hC,U⟩;have H3:=qI (HK.o.below U);have HP:=qI (Hl.o.trans (U.mono Hl.o.size));have HC:=qI hC;generalize gI pol nodes ⟨any,hs⟩=C at *;obtain ⟨ac,cc,rfl,_⟩:=hC.form;clear hC U HK Hl HM K c0 c1
   go_wp2_with fail
   generalize hB2:w2.heap.size=B at *
   go_loopw [10,30] (λvN i wq=>∃ l:Nat,l<=C.length/\i=.int .i64 l/\Hu (wq.ownsRow B 231 2 vN (iE C W l).length (fu (iE C W l)))/\Hu (Below B w2 wq)) (λ_ i _=>C.length - (intOf i).toNat)
   case atStart=>exact ⟨0,by omega,rfl,Qw _ _ _ _,Q0 _ _⟩
   case round=>
    obtain ⟨l,hi,rfl,A,Hp⟩:=hrel;have Hz:B<=wr.heap.size:=Q5 (Nat.le_of_eq hB2.symm) Hp.o.size;have hh:=zk C W l;have ha:l*W.length<=16*65536:=Nat.mul_le_mul (by omega) (by omega);have Hq:Hu (iE C W (l+1)=fG (C.getD l (0,false)) W (iE C W l) W.length):=rfl;obtain ⟨hr,ht,rfl⟩:=jE A.o
    by_cases F:l<C.length
    ·obtain ⟨hq,T,Hk,Hg⟩:=(HC.o.below (by rw [hB2];exact Hp.o)).form;obtain ⟨rfl,rfl⟩:ac=hq/\cc=T:=by simpa using Hk
     obtain ⟨b3,o3,rfl,H8,Hg⟩:=Hg (by omega);obtain ⟨d0,d1⟩:=Hg l F;have hm:=Q.o _ (fF C (0,false) l F);clear Hg Hk;generalize C.getD l (0,false)=x at *;obtain ⟨m,g⟩:=x;simp only at d0 d1 hm;generalize iE C W l=N at *;have HN:=qI (A.o.alloc (.cells #[.int .u8 (m:Nat),g] 231));have Hl:=qI (Hp.o.alloc Hz (.cells #[.int .u8 (m:Nat),g] 231));have HO:=qI (A.o.lt);have Hx:(wr.alloc (.cells #[.int .u8 (m:Nat),g] 231)).cell? wr.heap.size=some (.int .u8 (m:Nat)):=by simp
     have Hy:(wr.alloc (.cells #[.int .u8 (m:Nat),g] 231)).cell? ⟨wr,1,none⟩=some (.bool g):=by simp
     have Hx:=qI Hx;have Hy:=qI Hy;clear A Hp
     go_wp2_with fail
     generalize hLL:wr.heap.size=L at *
     go_loopw [10,36] (λvN i M=>∃ (j:Nat) (P:Value),j<=W.length/\i=.int .i64 j/\vN=P/\Hu (M.ownsRow B 231 2 P (fG (m,g) W N j).length (fu (fG (m,g) W N j)))/\Hu (Below B w2 M)/\M.cell? L=some (.int .u8 (m:Nat))/\M.cell? ⟨L,1,none⟩=some (.bool g)/\Hu (some L≠P.ownBlock)) (λ_ i _=>W.length - (intOf i).toNat)
     case atStart=>exact ⟨0,_,by omega,rfl,rfl,HN.o,Hl.o,Hx.o,Hy.o,λh=>by have:=(HO.o L h.symm).2;omega⟩
     case round=>
      obtain ⟨j,P,hj,rfl,rfl,Hm,Hw,H,O,He⟩:=hrel;clear HN Hl Hx Hy HO hLL;have Hv:B<=wr.heap.size:=Q5 (Nat.le_of_eq hB2.symm) Hw.o.size;have he:=Q3 _ _ H;have H5:=zj (m,g) W N j;obtain ⟨an,cn,rfl⟩:=jE Hm.o
      by_cases I:j<W.length
      ·obtain ⟨X,Y,Hk,Hg⟩:=(H3.o.below (by rw [hB2];exact Hw.o)).form;obtain ⟨rfl,rfl⟩:aw=X/\cw=Y:=by simpa using Hk
       obtain ⟨b4,o4,rfl,H0,Hg⟩:=Hg (by omega);obtain ⟨q0,q1⟩:=Hg j I;have HU:=V.o _ (fF W (0,false) j I);have Ha:fG (m,g) W N (j+1)=if (hU (W.getD j (0,false)) (m,g)).1=0 then fG (m,g) W N j else ie (fG (m,g) W N j) (hU (W.getD j (0,false)) (m,g)):=rfl
       clear Hg Hk;generalize W.getD j (0,false)=z at *;obtain ⟨p,f⟩:=z;simp only at q0 q1 HU;have Ho:=zn p m HU hm
       rcases two f with hf|hf
       ·subst hf;have HA:Hu (hU (p,true) (m,g)=(p &&& m,g)):=by cases g <;> rfl
        rw [HA.o] at Ha;have Hj:=qI (uQ B (.slice an (fG (m,g) W N j).length cn) (fG (m,g) W N j) (p &&& m,g) ((wr.alloc (.cells #[.int .u8 (p:Nat),true] 231)).alloc (.cells #[.int .u8 ((p &&& m:Nat):Int),g] 231)) ((Hm.o.alloc _).alloc _) (by omega) (by simp;omega));unfold vH at Hj;have Hc:=qI ((Hw.o.alloc Hv (.cells #[.int .u8 (p:Nat),true] 231)).alloc (by simp;omega) (.cells #[.int .u8 ((p &&& m:Nat):Int),g] 231));have Hf:=qI ((Hm.o.alloc (.cells #[.int .u8 (p:Nat),true] 231)).alloc (.cells #[.int .u8 ((p &&& m:Nat):Int),g] 231));have z0:=g9 H (.cells #[.int .u8 (p:Nat),true] 231);have z1:=g9 O (.cells #[.int .u8 (p:Nat),true] 231);have d:=g9 z0 (.cells #[.int .u8 ((p &&& m:Nat):Int),g] 231);have a:=g9 z1 (.cells #[.int .u8 ((p &&& m:Nat):Int),g] 231)
        by_cases q:p &&& m=0
        ·have Ht:((p &&& m:Nat):Int)=0:=by omega
         rw [if_pos q] at Ha;have Ha:=qI Ha;rw [Ht] at Hc Hf d a Ho;clear q Ht Hj
         go_wp2
         go_roundw
         case rel=>exact ⟨j+1,_,by omega,by go_num,rfl,by rw [Ha.o];exact Hf.o,Hc.o,d,a,He.o⟩
         case measure=>simp [intOf];omega
        ·have H9:(((p &&& m:Nat):Int) == 0)=false:=by rw [Qr];omega
         rw [if_neg q] at Ha;have Ha:=qI Ha;have q:=qI q;generalize p &&& m=Z at *
         go_wp2_with fail
         refine Hj.o.mono ?_;rintro e w5 ⟨v5,rfl,Hs,Hn,Hb⟩;have Hr:=qI Hs;have S:=qI (Hc.o.trans Hn);have Hi:L<((wr.alloc (.cells #[.int .u8 (p:Nat),true] 231)).alloc (.cells #[.int .u8 (Z:Int),g] 231)).heap.size:=by simp;omega
         have R:=rV (Hb L Hi He.o).1 d;have y1:=rV (Hb L Hi He.o).1 a;have Hh:=qI (Hb L Hi He.o).2;obtain ⟨a5,c5,rfl⟩:=jE Hr.o;clear Hs Hn Hb Hi Hj d a z0 z1 H O Hc Hf
         go_wp2
         go_roundw
         case rel=>exact ⟨j+1,_,by omega,by go_num,rfl,by rw [Ha.o];exact Hr.o,S.o,R,y1,Hh.o⟩
         case measure=>simp [intOf];omega
       ·subst hf;have HA:Hu (hU (p,false) (m,g)=(p &&& m,false)):=by rfl
        rw [HA.o] at Ha;have Hj:=qI (uQ B (.slice an (fG (m,g) W N j).length cn) (fG (m,g) W N j) (p &&& m,false) ((wr.alloc (.cells #[.int .u8 (p:Nat),false] 231)).alloc (.cells #[.int .u8 ((p &&& m:Nat):Int),false] 231)) ((Hm.o.alloc _).alloc _) (by omega) (by simp;omega));unfold vH at Hj;have Hc:=qI ((Hw.o.alloc Hv (.cells #[.int .u8 (p:Nat),false] 231)).alloc (by simp;omega) (.cells #[.int .u8 ((p &&& m:Nat):Int),false] 231));have Hf:=qI ((Hm.o.alloc (.cells #[.int .u8 (p:Nat),false] 231)).alloc (.cells #[.int .u8 ((p &&& m:Nat):Int),false] 231));have z0:=g9 H (.cells #[.int .u8 (p:Nat),false] 231);have z1:=g9 O (.cells #[.int .u8 (p:Nat),false] 231);have d:=g9 z0 (.cells #[.int .u8 ((p &&& m:Nat):Int),false] 231);have a:=g9 z1 (.cells #[.int .u8 ((p &&& m:Nat):Int),false] 231)
        by_cases q:p &&& m=0
        ·have Ht:((p &&& m:Nat):Int)=0:=by omega
         rw [if_pos q] at Ha;have Ha:=qI Ha;rw [Ht] at Hc Hf d a Ho;clear q Ht Hj
         go_wp2
         go_roundw
         case rel=>exact ⟨j+1,_,by omega,by go_num,rfl,by rw [Ha.o];exact Hf.o,Hc.o,d,a,He.o⟩
         case measure=>simp [intOf];omega
        ·have H9:(((p &&& m:Nat):Int) == 0)=false:=by rw [Qr];omega
         rw [if_neg q] at Ha;have Ha:=qI Ha;have q:=qI q;generalize p &&& m=Z at *
         go_wp2_with fail
         refine Hj.o.mono ?_;rintro e w5 ⟨v5,rfl,Hs,Hn,Hb⟩;have Hr:=qI Hs;have S:=qI (Hc.o.trans Hn);have Hi:L<((wr.alloc (.cells #[.int .u8 (p:Nat),false] 231)).alloc (.cells #[.int .u8 (Z:Int),false] 231)).heap.size:=by simp;omega
         have R:=rV (Hb L Hi He.o).1 d;have y1:=rV (Hb L Hi He.o).1 a;have Hh:=qI (Hb L Hi He.o).2;obtain ⟨a5,c5,rfl⟩:=jE Hr.o;clear Hs Hn Hb Hi Hj d a z0 z1 H O Hc Hf
         go_wp2
         go_roundw
         case rel=>exact ⟨j+1,_,by omega,by go_num,rfl,by rw [Ha.o];exact Hr.o,S.o,R,y1,Hh.o⟩
         case measure=>simp [intOf];omega
      ·have HY:j=W.length:=by omega
       subst HY
       go_wp2
       go_roundw
       case rel=>exact ⟨l+1,by omega,by go_num,by rw [Hq.o];exact Hm.o,Hw.o⟩
       case measure=>simp [intOf];omega
    ·have HZ:l=C.length:=by omega
     subst HZ;have HH:=qI (cd.of_row A.o);have HL:w.heap.size<=B:=by rw [<- hB2];exact HP.o.size
     have H6:=qI (HP.o.trans (Hp.o.mono HL));have HI:=qI (za A.o HL)
     go_wp2
     go_roundw
     case rel=>exact ⟨k+1,by omega,by go_num,by rw [H2.o];exact HH.o,H6.o,HI.o⟩
     case measure=>simp [intOf];omega
  ·have H7:k=ws.length:=by omega
   subst H7;obtain ⟨aw,cw,rfl,_⟩:=cd.form D.o
   go_wp2
   go_ret;exact ⟨_,rfl,D.o,G.o,H1.o⟩
theorem rW {fn:Func} {p u t:Tmp} {b:TypeId} (h:fn.results=#[.cell p b,.tmp u,.tmp t]) (tmps:Array Value) (P:Program) (w:World) :
  (results fn tmps).run P w =
   ((asAddr (tmps.getD p undef)).run P w).andThen λa d=>((loadVar b a).run P d).andThen λv c=>.ok (.tuple #[v,tmps.getD u undef,tmps.getD t undef]) c:=by
 simp only [results,h]
 simp [Sem.run_bind,Result.andThen]
theorem zo {nodes:Nat} (h:nodes<=15):bits BinOp.andNot IntKind.u8 (nodes:Int) 15=0:=by
 have key:∀ (x:Fin 16),bits BinOp.andNot IntKind.u8 ((x.val:Nat):Int) 15=0:=by decide +kernel
 exact key ⟨nodes,by omega⟩
theorem Ir (nodes:Nat) (d:Option Addr) (n c:Nat) (w:World) (b:1<=nodes/\nodes<=15) (g:n<=4) :
  Calls prog 130 #[(0:Int),.int .u8 nodes,.slice d n c] w λe w'=>e=.returned (.tuple #[vH (nodes,true),true,.nilIface])/\Below w w w':=by
 have a:Hu (Below w w (w.alloc (.cells #[.int .u8 0,false] 231))):=(Q0 _ _).alloc (lR) _;unfold vH;have Ha:=zo b.2;have f:((nodes:Int) == 0)=false:=by rw [Qr];omega
 go_enter func130,ntmps130
 go_wp2_with fail
 (try simp only [Exit.inBlock,Exit.then]);refine bodyPost_ret (v:=.tuple #[.agg #[.int .u8 nodes,true],true,.nilIface]) ?_ rfl ⟨rfl,?_⟩
 ·rw [rW rfl];go_simp
 ·first
   | exact a.o
   | exact (Q0 _ _).alloc (lR) _
   | exact (a.o.setCell (lR) _).setCell (lR) _
structure kf (u:World) (N:Nat) (h:aH):Prop where
 c00:u.cell? N=some (.int .u8 0)
 c01:u.cell? ⟨N,1,none⟩=some (.bool false)
 c10:u.cell? (N+1:Nat)=some (.int .u8 (h.1:Nat))
 c11:u.cell? ⟨N+1,1,none⟩=some (.bool h.2)
 f00:u.frozen? N=false
 f01:u.frozen? ⟨N,1,none⟩=false
 f10:u.frozen? (N+1:Nat)=false
 f11:u.frozen? ⟨N+1,1,none⟩=false
theorem kf.lt {h:aH} (e:kf u N h):N+1<u:=Q3 u _ e.c10
theorem kf.below {b:World} {K:Nat} {h:aH} (e:kf u N h) (a:Below K u b) (c:N+2<=K):kf b N h:=
 ⟨(a.cell (p:=N) (by show N<K;omega)).trans e.c00,(a.cell (p:=⟨N,1,none⟩) (by show N<K;omega)).trans e.c01,(a.cell (p:=⟨N+1,0,none⟩) (by show N+1<K;omega)).trans e.c10,(a.cell (p:=⟨N+1,1,none⟩) (by show N+1<K;omega)).trans e.c11,
  (a.frozen (p:=N) (by show N<K;omega)).trans e.f00,(a.frozen (p:=⟨N,1,none⟩) (by show N<K;omega)).trans e.f01,(a.frozen (p:=⟨N+1,0,none⟩) (by show N+1<K;omega)).trans e.f10,(a.frozen (p:=⟨N+1,1,none⟩) (by show N+1<K;omega)).trans e.f11⟩
theorem kf.set {h:aH} (e:kf u N h) (m:Nat) (g:Bool):kf ((u.setCell (N+1:Nat) (.int .u8 (m:Nat))).setCell ⟨N+1,1,none⟩ g) N (m,g):=by
 obtain ⟨c00,c01,c10,c11,f00,f01,f10,f11⟩:=e;refine ⟨?_,?_,?_,?_,?_,?_,?_,?_⟩ <;> go_simp
theorem cd.set {v:Value} {l:List aH} (h:cd w v l) (d:∀ b o n c,v=.slice (some ⟨b,o,none⟩) n c->N+2<=b) (x y:Value):cd ((w.setCell (N+1:Nat) x).setCell ⟨N+1,1,none⟩ y) v l:=by
 rcases h with h|⟨b,o,j,e,Ha,g⟩
 ·exact .inl h
 ·have m:=d b o _ _ e;refine .inr ⟨b,o,j,e,by simpa using Ha,λk f=>?_⟩;have i:((w.setCell (N+1:Nat) x).setCell ⟨N+1,1,none⟩ y).heap[b]?=w.heap[b]?:=by
   rw [Below.heap_setCell _ _ _ _ (by show b≠N+1;omega),Below.heap_setCell _ _ _ _ (by show b≠N+1;omega)]
  exact ⟨(World.cell?_of_block (w:=w) (a:=⟨b,o+k*2,none⟩) i).trans (g k f).1,(World.cell?_of_block (w:=w) (a:=⟨b,o+k*2+1,none⟩) i).trans (g k f).2⟩
theorem Is (pol:Int) (nodes:Nat) (v:Value) (ws:List cG) (w:World) (u:jg w v ws) (r:uT ws) (C:ws.length<=4) (O:1<=nodes/\nodes<=15) (I:1<=pol/\pol<=3) :
  Calls prog 130 #[pol,.int .u8 nodes,v] w λe w'=>e=.returned (.tuple #[vH (l7 pol nodes ws),.bool ((l7 pol nodes ws).2 || decide (pol=1)),.nilIface])/\Below w w w':=by
 have a:Hu (Below w w ((w.alloc (.cells #[.int .u8 0,false] 231)).alloc (.cells #[.int .u8 (nodes:Nat),false] 231))):=((Q0 _ _).alloc (lR) _).alloc (by simp) _;have E:=qI (Iq pol nodes v ws ((w.alloc (.cells #[.int .u8 0,false] 231)).alloc (.cells #[.int .u8 (nodes:Nat),false] 231)) (u.below a.o) r C (by omega) (by omega));have Hv:=qI (l6.low (pX pol nodes ws ws.length) (show nodes<256 by omega));have G:Hu (l7 pol nodes ws=eQ (fH pol nodes ws ws.length) (nodes,false) (fH pol nodes ws ws.length).length):=rfl;have Hr:=zm pol nodes ws (λy M=>(r y M).2) ws.length (lR);have Y:=zl ws.length C;generalize l7 pol nodes ws=T at *;generalize fH pol nodes ws ws.length=W at *;obtain ⟨ao,c,rfl,_⟩:=u.form;clear u r;have HI:=zo O.2;have Z:((nodes:Int) == 0)=false:=by rw [Qr];omega
 obtain ⟨V,U⟩:=I;have HS:0<=pol:=by omega
 have X:(pol == 0)=false:=by rw [Qr];omega
 have Ht:Hu (kf ((w.alloc (.cells #[.int .u8 0,false] 231)).alloc (.cells #[.int .u8 (nodes:Nat),false] 231)) w (nodes,false)):=by
  refine ⟨?_,?_,?_,?_,?_,?_,?_,?_⟩ <;> go_simp
 unfold vH at *
 go_enter func130,ntmps130
 go_wp2_with fail
 refine E.o.mono ?_;rintro e w2 ⟨K,rfl,s,Ho,Hy⟩;have F:=qI (a.o.trans (Ho.mono (by simp;omega)));have A:=qI (Ht.o.below Ho (by simp));have B:=qI s;have P:Hu (∀ b o n c,K=.slice (some ⟨b,o,none⟩) n c->w.heap.size+2<=b):=λb o n c h=>Q5 (by simp) (Hy b o n c h)
 obtain ⟨ac,cc,rfl,_⟩:=s.form;clear s Ho Ht E a Hy
 go_wp2
 go_loopw [45] (λi wr=>∃ k:Nat,k<=W.length/\i=.int .i64 k/\Hu (kf wr w (eQ W (nodes,false) k))/\Hu (cd wr (.slice ac W.length cc) W)/\Hu (Below w w wr)) (λi _=>W.length - (intOf i).toNat)
 case atStart=>exact ⟨0,by omega,rfl,A.o,B.o,F.o⟩
 case round=>
  obtain ⟨k,R,rfl,Hb,Hp,Hj⟩:=hrel;clear A B F;have Ha:=zb Hv.o (show ((nodes,false):aH).1<256 by show nodes<256;omega) k R
  by_cases q:k<W.length
  ·obtain ⟨t,z,Hz,Hh⟩:=Hp.o.form;obtain ⟨rfl,rfl⟩:ac=t/\cc=z:=by simpa using Hz
   obtain ⟨b,o,rfl,HP,Hh⟩:=Hh (by omega);obtain ⟨c0,c1⟩:=Hh k q;have D:=Hv.o _ (fF W (0,false) k q);have Hc:eQ W (nodes,false) (k+1)=if je (W.getD k (0,false)) (eQ W (nodes,false) k) then W.getD k (0,false) else eQ W (nodes,false) k:=rfl
   clear Hh Hz;generalize W.getD k (0,false)=x at *;generalize eQ W (nodes,false) k=y at *;obtain ⟨m,g⟩:=x;obtain ⟨p,f⟩:=y;simp only at c0 c1 D Ha;have a:=qI ((Q0 wr wr).alloc (lR) (.cells #[.int .u8 (m:Nat),g] 231));have Hg:=qI (Hb.o.below a.o Hb.o.lt);have Hw:=qI (Hp.o.below a.o);have Hl:=qI (Hj.o.trans (a.o.mono Hj.o.size));have HQ:=Hb.o.lt;have d:=Hg.o.c10;have l:=Hg.o.c11;simp only at d l;have Hm:=qI (Ik (m,g) (p,f) (wr.alloc (.cells #[.int .u8 (m:Nat),g] 231)) D Ha);have Hi:(wr.alloc (.cells #[.int .u8 (m:Nat),g] 231)).cell? wr=some (.int .u8 (m:Nat)):=by simp
   have Hk:(wr.alloc (.cells #[.int .u8 (m:Nat),g] 231)).cell? ⟨wr,1,none⟩=some (.bool g):=by simp
   have Hi:=qI Hi;have Hk:=qI Hk;unfold vH at Hm;clear Hb Hp Hj
   go_wp2_with fail
   refine Hm.o.mono ?_;rintro e w5 ⟨rfl,He⟩;have Hf:=qI (Hg.o.below He Hg.o.lt);have Hs:=qI (Hw.o.below He);have Hx:=qI (Hl.o.trans (He.mono Hl.o.size));have S:=(He.cell (p:=wr.heap.size) (by simp)).trans Hi.o;have l1:=(He.cell (p:=⟨wr,1,none⟩) (by simp)).trans Hk.o;clear He Hm Hi Hk Hg Hw Hl a c0 c1 d l
   rcases two (je (m,g) (p,f)) with Hn|Hn
   ·rw [Hn] at Hc ⊢;rw [if_pos rfl] at Hc;have Hc:=qI Hc;have H:=qI (Hf.o.set m g);have L:=qI (Hs.o.set P.o (.int .u8 (m:Nat)) g);have N:=qI ((Hx.o.setCell (p:=⟨w.heap.size+1,0,none⟩) (by show w<=w.heap.size+1;omega) (.int .u8 (m:Nat))).setCell (p:=⟨w.heap.size+1,1,none⟩) (by show w<=w.heap.size+1;omega) g);have d:=Hf.o.c10;have l:=Hf.o.c11;have f0:=Hf.o.f10;have f1:=Hf.o.f11;simp only at d l
    go_wp2
    go_roundw
    case rel=>exact ⟨k+1,by omega,by go_num,by rw [Hc.o];exact H.o,L.o,N.o⟩
    case measure=>simp [intOf];omega
   ·rw [Hn] at Hc ⊢;rw [if_neg (by decide)] at Hc;have Hc:=qI Hc
    go_wp2
    go_roundw
    case rel=>exact ⟨k+1,by omega,by go_num,by rw [Hc.o];exact Hf.o,Hs.o,Hx.o⟩
    case measure=>simp [intOf];omega
  ·have Q:k=W.length:=by omega
   subst Q;rw [<- G.o] at Hb Ha;obtain ⟨p,f⟩:=T;have d:=Hb.o.c10;have l:=Hb.o.c11;have d0:=Hb.o.c00;have d1:=Hb.o.c01;have f0:=Hb.o.f00;have f1:=Hb.o.f01;simp only at d l;have Hq:=qI ((Hj.o.setCell (p:=w.heap.size) (lR) (.int .u8 (p:Nat))).setCell (p:=⟨w,1,none⟩) (lR) f)
   rcases two f with hf|hf
   ·subst hf
    go_wp2_with fail
    (try simp only [Exit.inBlock,Exit.then]);refine bodyPost_ret (v:=.tuple #[.agg #[.int .u8 (p:Nat),true],true,.nilIface]) ?_ rfl ⟨rfl,Hq.o⟩;rw [rW rfl];go_simp
   ·subst hf
    by_cases j:pol=1
    ·have hd:Hu (decide (pol=1)=true):=Qc j;have J:(pol == 1)=true:=by rw [beq_iff_eq];exact j
     clear j
     go_wp2_with fail
     (try simp only [Exit.inBlock,Exit.then]);refine bodyPost_ret (v:=.tuple #[.agg #[.int .u8 (p:Nat),false],true,.nilIface]) ?_ rfl ⟨by rw [hd.o],Hq.o⟩;rw [rW rfl];go_simp
    ·have hd:Hu (decide (pol=1)=false):=Q7 j;have J:(pol == 1)=false:=by rw [Qr];exact j
     clear j
     go_wp2_with fail
     (try simp only [Exit.inBlock,Exit.then]);refine bodyPost_ret (v:=.tuple #[.agg #[.int .u8 (p:Nat),false],false,.nilIface]) ?_ rfl ⟨by rw [hd.o],Hq.o⟩;rw [rW rfl];go_simp
