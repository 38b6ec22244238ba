import Derived.Test.YtjlblidnfebmiaaGreatDoorF5
import Derived.Deep.SlicePairs
import Derived.Laws.IdiomArrays
set_option maxRecDepth 100000
set_option maxHeartbeats 16000000
open Go Go.RowKit
open Go.Proofs.Tryz
namespace Go.Proofs.YtjlblidnfebmiaaGreatDoor
variable{N k nodes:Nat}{pol:Int}{u w w':World}{v:Value}
abbrev aK:=Nat × Bool
structure cL where
 any:Bool
 hs:List aK
def gu:cL:=⟨false,[]⟩
def jn (a b:aK):Bool:=if a.2 != b.2 then a.2 else if b6 a.1 != b6 b.1 then decide (b6 a.1<b6 b.1) else decide (a.1<b.1)
def key_Ost (a:aK):Nat:=(if a.2 then 0 else 4096)+b6 a.1*256+a.1
theorem IC(a b:aK)(c:a.1<256)(d:b.1<256):jn a b=decide (key_Ost a<key_Ost b):=by grind[ny,jn,key_Ost,b6]
def eZ (L:List aK) (b0:aK):Nat->aK
 | 0=>b0
 | k+1=>if jn (L.getD k (0,false)) (eZ L b0 k) then L.getD k (0,false) else eZ L b0 k
def ID (L:List aK) (b0:aK):aK:=eZ L b0 L.length
def mf (L:List aK):Prop:=∀x,x∈L->x.1<256
theorem fP{α:Type}(L:List α)(d:α)(k:Nat)(h:k<L.length):L.getD k d∈L:=by simp[h]
theorem sH{α:Type}{L:List α}(d:α){x:α}(h:x∈L):∃k,k<L.length/\L.getD k d=x:=by
 obtain⟨k,a,b⟩:=List.getElem_of_mem h;exact⟨k,a,by simp[a,b]⟩
theorem IE(L:List aK)(b0:aK)(l:mf L)(m:b0.1<256)(k:Nat)(n:k<=L.length) :
  (eZ L b0 k=b0\/eZ L b0 k∈L)/\(eZ L b0 k).1<256/\key_Ost (eZ L b0 k)<=key_Ost b0/\∀j,j<k->key_Ost (eZ L b0 k)<=key_Ost (L.getD j (0,false)):=by
 induction k with
 | zero=>exact⟨.inl rfl,m,lR,λj c=>by omega⟩
 | succ k ih=>
  obtain⟨i,b,h,g⟩:=ih (by omega);have f:=fP L (0,false) k (by omega);have d:=l _ f;rw[eZ];generalize hz:L.getD k (0,false)=x at *;have Ha:=IC x (eZ L b0 k) d b
  by_cases a:jn x (eZ L b0 k)=true
  ·rw[if_pos a];rw[a] at Ha;have Hc:=of_decide_eq_true Ha.symm;refine⟨.inr f,d,by omega,λj c=>?_⟩
   by_cases e:j=k
   ·subst e;rw[hz];exact lR
   ·have:=g j (by omega);omega
  ·rw[if_neg a];have Hb:jn x (eZ L b0 k)=false:=by simpa using a
   rw[Hb] at Ha;have He:=of_decide_eq_false Ha.symm;refine⟨i,b,h,λj c=>?_⟩
   by_cases e:j=k
   ·subst e;rw[hz];omega
   ·exact g j (by omega)
theorem zA{L:List aK}{b0:aK}(a:mf L)(b:b0.1<256)(k:Nat)(c:k<=L.length):(eZ L b0 k).1<256:=(IE L b0 a b k c).2.1
def gw (pol:Int) (h:aK):Bool:=decide (pol<3) || (h.2 && decide (b6 h.1=1))
def vo (pol:Int) (nodes:Nat) (w:cL):List aK:=if w.any then [(nodes,true)] else if (w.hs.filter (gw pol)).length=0 then [(nodes,false)] else w.hs.filter (gw pol)
def iw (a c:aK):aK:=(a.1 &&& c.1,a.2 && c.2)
def oV (pol:Int) (nodes:Nat) (ws:List cL):Nat->aK->Prop
 | 0,h=>h=(nodes,true)
 | k+1,h=>h.1≠0/\∃a c,oV pol nodes ws k a/\c∈vo pol nodes (ws.getD k gu)/\h=iw a c
theorem IF{a c:aK}(h:a.1 &&& nodes=a.1):(iw a c).1 &&& nodes=(iw a c).1:=by
 show (a.1 &&& c.1) &&& nodes=a.1 &&& c.1
 rw[Nat.and_assoc,Nat.and_comm c.1,<- Nat.and_assoc,h]
theorem vp{ws:List cL}{h:aK}(b:oV pol nodes ws k h):h.1 &&& nodes=h.1:=by
 induction k generalizing h with
 | zero=>rw[show h=(nodes,true) from b];exact Nat.and_self _
 | succ k ih=>
  obtain⟨_,a,c,d,_,rfl⟩:=b;exact IF (ih d)
theorem IG{ws:List cL}{h:aK}(b:nodes<256)(a:oV pol nodes ws k h):h.1<256:=by
 rw[<- vp a];exact Nat.lt_of_le_of_lt Nat.and_le_right b
def mg (pol:Int) (nodes:Nat) (ws:List cL) (k:Nat) (L:List aK):Prop:=∀x,x∈L↔oV pol nodes ws k x
theorem mg.low{ws:List cL}{L:List aK}(h:mg pol nodes ws k L)(a:nodes<256):mf L:=λx b=>IG a ((h x).1 b)
def jo (nodes:Nat) (h:aK):aK:=(h.1 &&& nodes,h.2)
theorem zB{a c:aK}(h:a.1 &&& nodes=a.1):iw a (jo nodes c)=iw a c:=by grind[iw,jo]
def ix (l:List aK) (h:aK):List aK:=if h∈l then l else l++[h]
theorem zC(l:List aK)(h x:aK):x∈ix l h↔x∈l\/x=h:=by grind[ix]
theorem zD(l:List aK)(h:aK):(ix l h).length<=l.length+1:=by
 unfold ix
 split
 ·omega
 ·simp
def eC (pol:Int) (nodes:Nat) (hs:List aK):Nat->List aK
 | 0=>[]
 | k+1=>if gw pol (hs.getD k (0,false)) then ix (eC pol nodes hs k) (jo nodes (hs.getD k (0,false))) else eC pol nodes hs k
theorem zE(pol:Int)(nodes:Nat)(hs:List aK)(k:Nat):(eC pol nodes hs k).length<=k:=by induction k <;> grind[eC,zD]
theorem IH(pol:Int)(nodes:Nat)(hs:List aK)(k:Nat)(x:aK):x∈eC pol nodes hs k↔∃j,j<k/\gw pol (hs.getD j (0,false))=true/\x=jo nodes (hs.getD j (0,false)):=by induction k <;> grind[eC,zC]
def gX (pol:Int) (nodes:Nat) (w:cL):List aK:=if w.any then [(nodes,true)] else if (eC pol nodes w.hs w.hs.length).length=0 then [(nodes,false)] else eC pol nodes w.hs w.hs.length
theorem vq(pol:Int)(nodes:Nat)(hs:List aK)(x:aK):x∈eC pol nodes hs hs.length↔∃c,c∈hs.filter (gw pol)/\x=jo nodes c:=by
 rw[IH];constructor
 ·rintro⟨j,b,e,a⟩;exact⟨_,List.mem_filter.2 ⟨fP _ _ _ b,e⟩,a⟩
 ·rintro⟨c,d,a⟩;rw[List.mem_filter] at d;obtain⟨j,b,rfl⟩:=sH (0,false) d.1;exact⟨j,b,d.2,a⟩
theorem zF{α:Type}(l:List α):l.length=0↔∀x,x ∉ l:=by
 cases l with
 | nil=>simp
 | cons a r=>
  constructor
  ·intro h;simp at h
  ·intro h;exact absurd List.mem_cons_self (h a)
theorem vr(pol:Int)(nodes:Nat)(w:cL)(x:aK):x∈gX pol nodes w↔∃c,c∈vo pol nodes w/\x=jo nodes c:=by
 unfold gX vo;cases w.any
 ·have e:(eC pol nodes w.hs w.hs.length).length=0↔(w.hs.filter (gw pol)).length=0:=by
   rw[zF,zF];constructor
   ·intro h x a;exact h (jo nodes x) ((vq ..).2 ⟨x,a,rfl⟩)
   ·intro h x a;obtain⟨c,d,_⟩:=(vq ..).1 a;exact h c d
  simp only[Bool.false_eq_true,if_false]
  by_cases h:(w.hs.filter (gw pol)).length=0
  ·rw[if_pos h,if_pos (e.2 h)]
   simp[jo]
  ·rw[if_neg h,if_neg λb=>h (e.1 b)];exact vq ..
 ·simp[jo]
theorem zG(pol:Int)(nodes:Nat)(w:cL)(h:w.hs.length<=16):(gX pol nodes w).length<=16:=by grind[gX,zE]
def fQ (c:aK) (W:List aK) (N:List aK):Nat->List aK
 | 0=>N
 | j+1=>if (iw (W.getD j (0,false)) c).1=0 then fQ c W N j else ix (fQ c W N j) (iw (W.getD j (0,false)) c)
def iT (C W:List aK):Nat->List aK
 | 0=>[]
 | i+1=>fQ (C.getD i (0,false)) W (iT C W i) W.length
theorem zH(c:aK)(W N:List aK)(j:Nat):(fQ c W N j).length<=N.length+j:=by induction j <;> grind[fQ,zD]
theorem zI(C W:List aK)(i:Nat):(iT C W i).length<=i*W.length:=by induction i <;> grind[iT,zH]
theorem II(c:aK)(W N:List aK)(j:Nat)(x:aK):x∈fQ c W N j↔x∈N\/∃i,i<j/\x.1≠0/\x=iw (W.getD i (0,false)) c:=by induction j <;> grind[fQ,zC]
theorem IJ(C W:List aK)(i:Nat)(x:aK):x∈iT C W i↔x.1≠0/\∃k,k<i/\∃a,a∈W/\x=iw a (C.getD k (0,false)):=by
 induction i with
 | zero=>simp[iT]
 | succ i ih=>
  rw[iT,II,ih];constructor
  ·rintro (⟨c,k,g,a,d,b⟩|⟨j,f,c,b⟩)
   ·exact⟨c,k,by omega,a,d,b⟩
   ·exact⟨c,i,by omega,_,fP _ _ _ f,b⟩
  ·rintro⟨c,k,g,a,d,b⟩
   by_cases e:k=i
   ·subst e;obtain⟨j,f,rfl⟩:=sH (0,false) d;exact .inr ⟨j,f,c,b⟩
   ·exact .inl ⟨c,k,by omega,a,d,b⟩
def fR (pol:Int) (nodes:Nat) (ws:List cL):Nat->List aK
 | 0=>[(nodes,true)]
 | k+1=>iT (gX pol nodes (ws.getD k gu)) (fR pol nodes ws k) (gX pol nodes (ws.getD k gu)).length
theorem qq(pol:Int)(nodes:Nat)(ws:List cL)(k:Nat):mg pol nodes ws k (fR pol nodes ws k):=by
 induction k with
 | zero=>intro x;simp[fR,oV]
 | succ k ih=>
  intro x;rw[fR,IJ,oV];constructor
  ·rintro⟨e,j,g,a,b,d⟩;obtain⟨c,h,f⟩:=(vr ..).1 (fP _ (0,false) _ g);refine⟨e,a,c,(ih a).1 b,h,?_⟩;rw[d,f,zB (vp ((ih a).1 b))]
  ·rintro⟨e,a,c,b,h,d⟩;obtain⟨j,g,f⟩:=sH (0,false) ((vr ..).2 ⟨c,h,rfl⟩);refine⟨e,j,g,a,(ih a).2 b,?_⟩;rw[f,zB (vp b),d]
theorem zJ(k:Nat)(h:k<=4):16 ^ k<=65536:=by
 have:k=0\/k=1\/k=2\/k=3\/k=4:=by omega
 rcases this with rfl|rfl|rfl|rfl|rfl <;> decide
theorem zK(pol:Int)(nodes:Nat)(ws:List cL)(a:∀w,w∈ws->w.hs.length<=16)(k:Nat)(d:k<=ws.length):(fR pol nodes ws k).length<=16 ^ k:=by
 induction k with
 | zero=>simp[fR]
 | succ k ih=>
  rw[fR];have c:=zI (gX pol nodes (ws.getD k gu)) (fR pol nodes ws k) (gX pol nodes (ws.getD k gu)).length;have b:=zG pol nodes (ws.getD k gu) (a _ (fP _ _ _ (by omega)));have e:=Nat.mul_le_mul b (ih (by omega));rw[Nat.pow_succ];omega
def mh (pol:Int) (nodes:Nat) (ws:List cL):aK:=ID (fR pol nodes ws ws.length) (nodes,false)
theorem IK(pol:Int)(nodes:Nat)(ws:List cL)(a:nodes<256):(mh pol nodes ws).1<256:=zA (mg.low (qq pol nodes ws ws.length) a) a _ (lR)
section
open Go.ChangeShapes Go.WideShapes Go.ChangeAt Go.RowKit
theorem ci.form{v:Value}{l:List aK}(h:ci w v l):∃a c,v=.slice a l.length c/\(0<l.length->∃b o,a=some ⟨b,o,none⟩/\b<w.heap.size/\∀k,k<l.length->w.cell? ⟨b,o+k*2,none⟩=some (.int .u8 ((l.getD k (0,false)).1:Nat))/\w.cell? ⟨b,o+k*2+1,none⟩=some (.bool (l.getD k (0,false)).2)):=by cases h <;> grind
def jp (w:World) (v:Value) (ws:List cL):Prop:=
 (ws=[]/\∃ao c,v=.slice ao 0 c)\/∃b o c,v=.slice (some ⟨b,o,none⟩) ws.length c/\b<w.heap.size/\∀k,k<ws.length->w.cell? ⟨b,o+k*2,none⟩=some (.bool (ws.getD k gu).any)/\∃u,w.cell? ⟨b,o+k*2+1,none⟩=some u/\ci w u (ws.getD k gu).hs
theorem jp.below{ws:List cL}(h:jp w v ws)(a:Below w w w'):jp w' v ws:=by
 rcases h with h|⟨b,o,c,g,Ha,i⟩
 ·exact .inl h
 ·refine .inr ⟨b,o,c,g,Q1 Ha a.size,λk f=>?_⟩;obtain⟨d,u,e,j⟩:=i k f;exact⟨(a.cell (p:=⟨b,o+k*2,none⟩) Ha).trans d,u,(a.cell (p:=⟨b,o+k*2+1,none⟩) Ha).trans e,j.below a⟩
theorem jp.form{v:Value}{ws:List cL}(h:jp w v ws):∃a c,v=.slice a ws.length c/\(0<ws.length->∃b o,a=some ⟨b,o,none⟩/\b<w.heap.size/\∀k,k<ws.length->w.cell? ⟨b,o+k*2,none⟩=some (.bool (ws.getD k gu).any)/\∃u,w.cell? ⟨b,o+k*2+1,none⟩=some u/\ci w u (ws.getD k gu).hs):=by cases h <;> grind
instance:Inhabited cL:=⟨gu⟩
end
abbrev vH (h:aK):Value:=.agg #[.int .u8 (h.1:Nat),h.2]
def Found (l:List aK) (h:aK) (e:Ending):Prop:=(h∈l/\∃r:Nat,e=.returned (r:Int))\/(h ∉ l/\e=.returned (-1:Int))
theorem IL(v:Value)(l:List aK)(h:aK)(w:World)(B:ci w v l)(K:l.length<=4000000) :
  Calls prog 290 #[v,vH h] w λe w'=>Found l h e/\Below w w w':=by
 obtain⟨I,c,rfl,z⟩:=B.form;have F:=qI z;clear z B;unfold vH;obtain⟨p,g⟩:=h;have r:Hu (Below w w (w.alloc (.cells #[.int .u8 (p:Nat),g] 231))):=(Q0 _ _).alloc (lR) _;have D:=qI (show (w.alloc (.cells #[.int .u8 (p:Nat),g] 231)).cell? w=some (.int .u8 (p:Nat))/\(w.alloc (.cells #[.int .u8 (p:Nat),g] 231)).cell? ⟨w,1,none⟩=some (.bool g) by simp)
 go_enter func290,ntmps290
 go_wp2
 go_loopw [8] (λi wr=>∃k:Nat,k<=l.length/\i=.int .i64 k/\Hu (∀j,j<k->l.getD j (0,false)≠(p,g))/\Hu (Below (w.heap.size+1) (w.alloc (.cells #[.int .u8 (p:Nat),g] 231)) wr)) (λi _=>l.length - (intOf i).toNat)
 case atStart=>exact⟨0,by omega,rfl,λj u=>by omega,Q0 _ _⟩
 case round=>
  obtain⟨k,J,rfl,s,d⟩:=hrel
  by_cases a:k<l.length
  ·obtain⟨b,o,rfl,A,Ha⟩:=F.o (by omega);have m:=d.o;have t:=qI (fP l (0,false) k a);have n:Hu (∀x,l.getD k (0,false)=x->x≠(p,g)->∀j,j<k+1->l.getD j (0,false)≠(p,g)):=by
    intro x t Hc j u
    by_cases e:j=k
    ·subst e;rw[t];exact Hc
    ·exact s.o j (by omega)
   have c0:=((m.cell (p:=⟨b,o+k*2,none⟩) (by show b<w+1;omega)).trans (r.o.cell (p:=⟨b,o+k*2,none⟩) A)).trans (Ha k a).1;have c1:=((m.cell (p:=⟨b,o+k*2+1,none⟩) (by show b<w+1;omega)).trans (r.o.cell (p:=⟨b,o+k*2+1,none⟩) A)).trans (Ha k a).2;have L:=(m.cell (p:=w.heap.size) (by show w<w.heap.size+1;omega)).trans D.o.1;have H:=(m.cell (p:=⟨w,1,none⟩) (by show w<w.heap.size+1;omega)).trans D.o.2;clear m Ha s;generalize C:l.getD k (0,false)=x at *;have n:=qI (n.o x rfl);obtain⟨q,f⟩:=x;simp only at c0 c1;have C:=qI C
   by_cases y:p=q
   ·rcases two (g == f) with hf|hf
    ·have:g=f:=by simpa using hf
     subst this;subst y;clear hf
     go_wp2
     go_quiet (fail)
     go_wp2
     go_ret;exact⟨.inl ⟨t.o,k,rfl⟩,r.o.trans (below_drewN (d.o.mono (by omega)) _)⟩
    ·subst y
     go_wp2
     go_quiet (fail)
     go_wp2
     go_roundw
     case rel=>exact⟨k+1,by omega,by go_num,n.o (by intro h;simp at h;rw[h] at hf;simp at hf),below_drewN d.o _⟩
     case measure=>simp[intOf];omega
   ·have hf:((p:Int) == (q:Int))=false:=by rw[Qr];omega
    go_wp2
    go_quiet (fail)
    go_wp2
    go_roundw
    case rel=>exact⟨k+1,by omega,by go_num,n.o (by intro h;simp at h;exact y h.1.symm),below_drewN d.o _⟩
    case measure=>simp[intOf];omega
  ·have Hb:k=l.length:=by omega
   subst Hb;have He:Hu ((p,g) ∉ l):=by
    intro G;obtain⟨j,u,E⟩:=sH (0,false) G;exact s.o j u E
   go_wp2
   go_ret;exact⟨.inr ⟨He.o,rfl⟩,r.o.trans (d.o.mono (by omega))⟩
theorem IM(v:Value)(l:List aK)(h:aK)(w:World)(d:ci w v l)(k:l.length<=4000000) :
  Calls prog 258 #[v,vH h] w λe w'=>e=.returned (.bool (decide (h∈l)))/\Below w w w':=by
 obtain⟨p,g⟩:=h;have j:Hu (Below w w (w.alloc (.cells #[.int .u8 (p:Nat),g] 231))):=(Q0 _ _).alloc (lR) _;have m:=qI (IL v l (p,g) (w.alloc (.cells #[.int .u8 (p:Nat),g] 231)) (d.below j.o) k);obtain⟨o,c,rfl,_⟩:=d.form;clear d;unfold vH at *
 go_enter func258,ntmps258
 go_wp2_with fail
 refine m.o.mono ?_;rintro e n ⟨hf,i⟩;have f:=qI (j.o.trans (i.mono (by simp)));clear i
 rcases hf with⟨a,r,rfl⟩|⟨a,rfl⟩
 ·have a:=qI a
  go_wp2
  go_ret;exact⟨congrArg (λb=>Ending.returned (.bool b)) (Qc a.o).symm,f.o⟩
 ·have a:=qI a
  go_wp2
  go_ret;exact⟨congrArg (λb=>Ending.returned (.bool b)) (Q7 a.o).symm,f.o⟩
def IN (base:Nat) (w:World) (l:List aK) (e:Ending) (w':World):Prop:=∃v,e=.returned v/\w'.ownsRow base 231 2 v l.length (fy l)/\Below base w w'
def IP (base:Nat) (v0:Value) (w:World) (l:List aK) (e:Ending) (w':World):Prop:=∃v,e=.returned v/\w'.ownsRow base 231 2 v l.length (fy l)/\Below base w w'/\∀b,b<w.heap.size->some b≠v0.ownBlock->w'.heap[b]?=w.heap[b]?/\some b≠v.ownBlock
theorem vt(base:Nat)(v:Value)(l:List aK)(h:aK)(w:World)(m:w.ownsRow base 231 2 v l.length (fy l))(B:l.length<=4000000)(a:base<=w) :
  Calls prog 205 #[v,vH h] w λe w'=>IP base v w (ix l h) e w':=by
 obtain⟨p,g⟩:=h;have n:Hu (Below w w (w.alloc (.cells #[.int .u8 (p:Nat),g] 231))):=(Q0 _ _).alloc (lR) _;have s:=qI (IM v l (p,g) (w.alloc (.cells #[.int .u8 (p:Nat),g] 231)) ((ci.of_row m).below n.o) B);have x:=qI (qo m n.o);have Hl:=qI m.lt;obtain⟨E,c,rfl⟩:=jQ m;have r:=qI (show (w.alloc (.cells #[.int .u8 (p:Nat),g] 231)).cell? w=some (.int .u8 (p:Nat))/\(w.alloc (.cells #[.int .u8 (p:Nat),g] 231)).cell? ⟨w,1,none⟩=some (.bool g) by simp);clear m;unfold vH at *;obtain⟨i0,hi,Hh,Hi,Hg⟩:=info_parts zw
 go_enter func205,ntmps205
 go_wp2_with fail
 refine s.o.mono ?_;rintro e A ⟨rfl,d⟩;have o:=qI (n.o.trans (d.mono (by simp)));have He:=qI (qo x.o d);have G:=(d.cell (p:=w.heap.size) (by simp)).trans r.o.1;have D:=(d.cell (p:=⟨w,1,none⟩) (by simp)).trans r.o.2;have Hk:Hu (w+1<=A.heap.size):=Q5 (by simp) d.size;clear d s x n r
 by_cases k:(p,g)∈l
 ·rw[Qc k];have q:Hu (ix l (p,g)=l):=by unfold Hu ix;rw[if_pos k]
  clear k
  go_wp2
  go_ret;exact⟨_,rfl,by rw[q.o];exact He.o,o.o.mono a,λb d f=>⟨o.o.block b d,f⟩⟩
 ·rw[Q7 k];have q:Hu (ix l (p,g)=l++[(p,g)]):=by unfold Hu ix;rw[if_neg k]
  clear k;have Hm:=Hk.o
  go_wp2_with (at_builtin;refine wpList_append_lies _ rfl _ _ 275 rfl base 231 i0 (.agg #[.int .u8 0,false]) 2 2 underlying275 hi Hh Hi Hg rfl (by decide) _ _ _ rfl (He.o.alloc _) _ 1 1 [.int .u8 p,.bool g] rfl rfl (by intro j u i;match j,i with|0,i=>(simp at i;subst i;simp[Addr.add])|1,i=>(simp at i;subst i;simp[Addr.add])) (by intro u t;simp at t;rcases t with rfl|rfl <;> rfl) (by decide) (by unfold maxLen;omega) (by omega) (by simp;omega) _ rfl ?_;intro z y F Hb Ha Hc Hf)
  go_ret;refine⟨_,rfl,by rw[q.o,sF,Q2];exact Hb,?_,λb d f=>⟨?_,?_⟩⟩
  ·exact ((o.o.mono a).alloc (by omega) _).grown Ha (by simp;omega) λj i=>(He.o.lt j i).1
  ·rw[Ha.block b (by simp;omega) f,heap_alloc_old _ _ (by omega)];exact o.o.block b d
  ·intro C;have Hj:b=z:=by simpa[Value.ownBlock] using C
   subst Hj
   rcases Hc with h|h
   ·exact f h.symm
   ·simp at h;omega
theorem IQ(base:Nat)(v:Value)(l:List aK)(h:aK)(w:World)(c:w.ownsRow base 231 2 v l.length (fy l))(b:l.length<=4000000)(a:base<=w) :
  Calls prog 205 #[v,vH h] w λe w'=>IN base w (ix l h) e w':=
 (vt base v l h w c b a).mono λ_ _ ⟨v',he,hr,hb,_⟩=>⟨v',he,hr,hb⟩
theorem IR(a b:aK)(w:World)(p:a.1<256)(q:b.1<256) :
  Calls prog 165 #[vH a,vH b] w λe w'=>e=.returned (.bool (jn a b))/\Below w w w':=by
 obtain⟨m,g⟩:=a;obtain⟨n,f⟩:=b;simp only at p q;unfold vH;have k:Hu (Below w w ((w.alloc (.cells #[.int .u8 (m:Nat),g] 231)).alloc (.cells #[.int .u8 (n:Nat),f] 231))):=((Q0 _ _).alloc (lR) _).alloc (by simp) _;have l:=qI λw=>qm m w p;have j:=qI λw=>qm n w q;obtain⟨r,o⟩:∃r,r=jn (m,g) (n,f):=⟨_,rfl⟩;rw[<- o];have i:=qI o;clear o
 go_enter func165,ntmps165
 rcases two (g != f) with Ha|Ha
 ·have h:Hu (g=r):=by unfold Hu;rw[i.o];unfold jn;rw[if_pos Ha]
  have He:(!g == f)=true:=Ha;clear Ha
  go_wp2
  go_ret;exact⟨congrArg (λb=>Ending.returned (.bool b)) h.o,k.o⟩
 ·have He:(!g == f)=false:=Ha;have Hf:=ny m;have Hg:=ny n
  go_wp2_with fail
  have t:((w.alloc (.cells #[.int .u8 (m:Nat),g] 231)).alloc (.cells #[.int .u8 (n:Nat),f] 231)).cell? w=some (.int .u8 (m:Nat)):=by go_simp
  have s:((w.alloc (.cells #[.int .u8 (m:Nat),g] 231)).alloc (.cells #[.int .u8 (n:Nat),f] 231)).cell? (w.heap.size+1:Nat)=some (.int .u8 (n:Nat)):=by go_simp
  generalize ((w.alloc (.cells #[.int .u8 (m:Nat),g] 231)).alloc (.cells #[.int .u8 (n:Nat),f] 231))=W at *
  by_cases d:b6 m=b6 n
  ·have h:Hu (decide (m<n)=r):=by
    unfold Hu;rw[i.o];unfold jn;rw[if_neg (by rw[Ha];simp),if_neg (by simp[d])]
   have Hc:((b6 m:Int) == (b6 n:Int))=true:=by rw[beq_iff_eq];omega
   clear Ha d i;generalize b6 m=x at *;generalize b6 n=y at *
   go_region_with (go_at_call 206;go_loud (first|(refine (l.o _).mono ?_;rintro e c ⟨rfl,Hb⟩;subst c)|(refine (j.o _).mono ?_;rintro e c ⟨rfl,Hb⟩;subst c)))
   all_goals
    go_wp2
    go_ret;exact⟨congrArg (λb=>Ending.returned (.bool b)) h.o,below_drewN k.o _⟩
  ·have h:Hu (decide (b6 m<b6 n)=r):=by
    unfold Hu;rw[i.o];unfold jn;rw[if_neg (by rw[Ha];simp),if_pos (by simpa using d)]
   have Hc:((b6 m:Int) == (b6 n:Int))=false:=by rw[Qr];omega
   clear Ha d i;generalize b6 m=x at *;generalize b6 n=y at *
   go_region_with (go_at_call 206;go_loud (first|(refine (l.o _).mono ?_;rintro e c ⟨rfl,Hb⟩;subst c)|(refine (j.o _).mono ?_;rintro e c ⟨rfl,Hb⟩;subst c)))
   all_goals
    go_wp2_with fail
    go_region_with (go_at_call 206;go_loud (first|(refine (l.o _).mono ?_;rintro e c ⟨rfl,Hb⟩;subst c)|(refine (j.o _).mono ?_;rintro e c ⟨rfl,Hb⟩;subst c)))
    all_goals
     go_wp2
     go_ret;exact⟨congrArg (λb=>Ending.returned (.bool b)) h.o,below_drewN (below_drewN k.o _) _⟩
def vu (w:World) (l:List aK) (e:Ending) (w':World):Prop:=∃v,e=.returned v/\ci w' v l/\Below w w w'
theorem zL(a b:Nat)(f:a<256)(g:b<256):bits BinOp.and IntKind.u8 (a:Int) (b:Int)=((a &&& b:Nat):Int):=by
 have e:a &&& b<2 ^ 8:=Nat.and_lt_two_pow _ (by omega);have c:(BitVec.ofInt 8 (a:Int)).toNat=a:=by
  rw[BitVec.ofInt_natCast,BitVec.toNat_ofNat];exact Nat.mod_eq_of_lt (by omega)
 have d:(BitVec.ofInt 8 (b:Int)).toNat=b:=by
  rw[BitVec.ofInt_natCast,BitVec.toNat_ofNat];exact Nat.mod_eq_of_lt (by omega)
 show IntKind.u8.wrap ((BitVec.ofInt 8 (a:Int) &&& BitVec.ofInt 8 (b:Int)).toNat:Int)=_
 rw[BitVec.toNat_and,c,d]
 show ((a &&& b:Nat):Int) % 256=_
 omega
theorem vw(w:World)(m:Nat)(g:Bool)(t:TypeId):ci (w.alloc (.cells #[.int .u8 (m:Nat),g] t)) (.slice w 1 1) [(m,g)]:=
 .inr ⟨w,0,1,rfl,by simp,λk a=>by
  have:k=0:=by simpa using a
  subst this;exact⟨by simp,by simp⟩⟩
theorem IS(pol:Int)(nodes:Nat)(v:Value)(w:World)(b:Option Addr)(n c:Nat)(f:v=.slice b n c) :
  Calls prog 204 #[pol,.int .u8 nodes,.agg #[true,v]] w λe w'=>vu w [(nodes,true)] e w':=by
 subst f;have d:Hu (Below w w ((w.alloc (.cells #[true,.slice b n c] 279)).alloc (.cells #[.int .u8 (nodes:Nat),true] 231))):=((Q0 _ _).alloc (lR) _).alloc (by simp) _;have a:=vw (w.alloc (.cells #[true,.slice b n c] 279)) nodes true 231;simp only[World.size_alloc] at a;have a:=qI a
 go_enter func204,ntmps204
 go_wp2
 go_ret;exact⟨_,rfl,a.o,d.o⟩
theorem IT(pol:Int)(nodes:Nat)(v:Value)(hs:List aK)(w:World)(G:ci w v hs)(d:mf hs)(O:hs.length<=16)(I:nodes<256)(N:0<=pol/\pol<=3) :
  Calls prog 204 #[pol,.int .u8 nodes,.agg #[false,v]] w λe w'=>vu w (gX pol nodes ⟨false,hs⟩) e w':=by
 obtain⟨C,c,rfl,B⟩:=G.form;have J:=qI B;clear B G;have y:Hu (Below w w (w.alloc (.cells #[false,.slice C hs.length c] 279))):=(Q0 _ _).alloc (lR) _;have Hv:=qI d;clear d
 go_enter func204,ntmps204
 go_wp2_with fail
 have Hy:=qI λ(w:World)=>vw w nodes false 231
 go_loopw [7,18] (λl i wr=>∃k:Nat,k<=hs.length/\i=.int .i64 k/\Hu (wr.ownsRow (w.heap.size+1) 231 2 l (eC pol nodes hs k).length (fy (eC pol nodes hs k)))/\Hu (Below (w.heap.size+1) (w.alloc (.cells #[false,.slice C hs.length c] 279)) wr)/\w+1<=wr.heap.size) (λ_ i _=>hs.length - (intOf i).toNat)
 case atStart=>exact⟨0,by omega,rfl,Qw _ _ _ _,Q0 _ _,by simp⟩
 case round=>
  obtain⟨k,M,rfl,h,f,Hw⟩:=hrel;have K:=zE pol nodes hs k
  by_cases n:k<hs.length
  ·obtain⟨b,o,rfl,E,Hp⟩:=J.o (by omega);obtain⟨c0,c1⟩:=Hp k n
   replace c0:=((f.o.cell (p:=⟨b,o+k*2,none⟩) (by show b<w+1;omega)).trans (y.o.cell (p:=⟨b,o+k*2,none⟩) E)).trans c0
   replace c1:=((f.o.cell (p:=⟨b,o+k*2+1,none⟩) (by show b<w+1;omega)).trans (y.o.cell (p:=⟨b,o+k*2+1,none⟩) E)).trans c1
   have s:=Hv.o _ (fP hs (0,false) k n);have Hr:eC pol nodes hs (k+1)=if gw pol (hs.getD k (0,false)) then ix (eC pol nodes hs k) (jo nodes (hs.getD k (0,false))) else eC pol nodes hs k:=rfl
   have Hk:=qI Hr;clear Hr Hp;generalize hs.getD k (0,false)=x at *;obtain⟨m,g⟩:=x;simp only at c0 c1 s;have F:=qI λw=>qm m w s;have Hz:=ny m;have Ht:=zL m nodes s I;have Hh:=qI (f.o.alloc Hw (.cells #[.int .u8 (m:Nat),g] 231));have Hg:=qI (h.o.alloc (.cells #[.int .u8 (m:Nat),g] 231));have j:=qI λH=>IQ (w.heap.size+1) H (eC pol nodes hs k) (jo nodes (m,g)) (wr.alloc (.cells #[.int .u8 (m:Nat),g] 231))
   unfold vH jo at j;obtain⟨A,c2,rfl⟩:=jQ h.o
   rcases two (decide (pol=3)) with Ha|Ha
   ·have Ha:=of_decide_eq_true Ha;subst Ha
    rcases two g with z|z
    ·subst z
     by_cases a:b6 m=1
     ·have Hc:Hu (gw 3 (m,true)=true):=by unfold Hu gw;simp[a]
      have Hm:((b6 m:Int) == 1)=true:=by rw[beq_iff_eq];omega
      clear a;generalize b6 m=p at *
      go_wp2_with fail
      refine (F.o _).mono ?_;rintro e q ⟨rfl,Hs⟩;subst q
      go_wp2_with fail
      refine (j.o _ Hg.o (by omega) (by simp;omega)).mono ?_;rintro e t ⟨v2,rfl,Hi,Hf⟩;have Hj:=qI Hi;have Hl:=qI (Hh.o.trans Hf);have He:w+1<=t.heap.size:=Q5 (by simp;omega) Hf.size;obtain⟨r,c3,rfl⟩:=jQ Hj.o;clear Hi Hf j Hg Hh h f c0 c1
      go_wp2
      go_roundw
      case rel=>exact⟨k+1,by omega,by go_num,by rw[Hk.o,if_pos Hc.o];exact Hj.o,Hl.o,He⟩
      case measure=>simp[intOf];omega
     ·have Hc:Hu (¬ gw 3 (m,true)=true):=by unfold Hu gw;simp[a]
      have Hm:((b6 m:Int) == 1)=false:=by rw[Qr];omega
      clear a;generalize b6 m=p at *
      go_wp2_with fail
      refine (F.o _).mono ?_;rintro e q ⟨rfl,Hs⟩;subst q
      go_wp2
      go_roundw
      case rel=>exact⟨k+1,by omega,by go_num,by rw[Hk.o,if_neg Hc.o];exact Hg.o,Hh.o,by simp;omega⟩
      case measure=>simp[intOf];omega
    ·subst z;have Hc:Hu (¬ gw 3 (m,false)=true):=by unfold Hu gw;simp
     go_wp2
     go_roundw
     case rel=>exact⟨k+1,by omega,by go_num,by rw[Hk.o,if_neg Hc.o];exact Hg.o,Hh.o,by simp;omega⟩
     case measure=>simp[intOf];omega
   ·have Ha:=of_decide_eq_false Ha;have Hc:Hu (gw pol (m,g)=true):=by unfold Hu gw;rw[Qc (by omega)];rfl
    have Hq:(pol == 3)=false:=by rw[Qr];exact Ha
    go_wp2_with fail
    refine (j.o _ Hg.o (by omega) (by simp;omega)).mono ?_;rintro e t ⟨v2,rfl,Hi,Hf⟩;have Hj:=qI Hi;have Hl:=qI (Hh.o.trans Hf);have He:w+1<=t.heap.size:=Q5 (by simp;omega) Hf.size;obtain⟨r,c3,rfl⟩:=jQ Hj.o;clear Hi Hf j Hg Hh h f c0 c1
    go_wp2
    go_roundw
    case rel=>exact⟨k+1,by omega,by go_num,by rw[Hk.o,if_pos Hc.o];exact Hj.o,Hl.o,He⟩
    case measure=>simp[intOf];omega
  ·have Hx:k=hs.length:=by omega
   subst Hx;have Hb:gX pol nodes ⟨false,hs⟩=if (eC pol nodes hs hs.length).length=0 then [(nodes,false)] else eC pol nodes hs hs.length:=rfl
   obtain⟨A,c2,rfl⟩:=jQ h.o;have Ho:=qI (y.o.trans (f.o.mono (by omega)));have Hn:w<=wr.heap.size:=by omega
   by_cases D:(eC pol nodes hs hs.length).length=0
   ·rw[if_pos D] at Hb;have Hb:=qI Hb;have u:=qI (Hy.o wr)
    go_wp2
    go_ret;exact⟨_,rfl,by rw[Hb.o];exact u.o,Ho.o.alloc Hn _⟩
   ·rw[if_neg D] at Hb;have Hb:=qI Hb;have L:((((eC pol nodes hs hs.length).length:Nat):Int) == 0)=false:=by rw[Qr];omega
    have u:=qI (ci.of_row h.o);generalize eC pol nodes hs hs.length=l at *
    go_wp2
    go_ret;exact⟨_,rfl,by rw[Hb.o];exact u.o,Ho.o⟩
theorem IU(pol:Int)(nodes:Nat)(any:Bool)(v:Value)(hs:List aK)(w:World)(b:ci w v hs)(a:mf hs)(g:hs.length<=16)(h:nodes<256)(d:0<=pol/\pol<=3) :
  Calls prog 204 #[pol,.int .u8 nodes,.agg #[any,v]] w λe w'=>vu w (gX pol nodes ⟨any,hs⟩) e w':=by
 cases any
 ·exact IT pol nodes v hs w b a g h d
 ·obtain⟨f,c,Ha,_⟩:=b.form;exact IS pol nodes v w f _ c Ha
def vx (ws:List cL):Prop:=∀y,y∈ws->mf y.hs/\y.hs.length<=16
theorem vy(pol:Int)(nodes:Nat)(y:cL)(a:nodes<256):mf (gX pol nodes y):=λx b=>by
 obtain⟨c,_,rfl⟩:=(vr ..).1 b;exact Nat.lt_of_le_of_lt Nat.and_le_right a
theorem sI{b o:Nat}(h:w'.heap[b]?=w.heap[b]?)(c:w.cell? ⟨b,o,none⟩=some v):w'.cell? ⟨b,o,none⟩=some v:=(World.cell?_of_block (w:=w) (a:=⟨b,o,none⟩) h).trans c
def IV (w:World) (l:List aK) (e:Ending) (w':World):Prop:=∃v,e=.returned v/\ci w' v l/\Below w w w'/\∀b o n c,v=.slice (some ⟨b,o,none⟩) n c->w.heap.size<=b
theorem IW(pol:Int)(nodes:Nat)(v:Value)(ws:List cL)(w:World)(S:jp w v ws)(hw:vx ws)(hl:ws.length<=4)(r:nodes<256)(hp:0<=pol/\pol<=3) :
  Calls prog 164 #[pol,.int .u8 nodes,v] w λe w'=>IV w (fR pol nodes ws ws.length) e w':=by
 have HV:=qI S;obtain⟨ao,c,rfl,_⟩:=S.form;have HJ:=qI hw;clear S hw
 go_enter func164,ntmps164
 go_wp2_with fail
 have HP:=qI (vw w nodes true 231);have HQ:Hu (Below w w (w.alloc (.cells #[.int .u8 (nodes:Nat),true] 231))):=(Q0 _ _).alloc (lR) _
 go_loopw [7,21] (λvW i wr=>∃k:Nat,k<=ws.length/\i=.int .i64 k/\Hu (ci wr vW (fR pol nodes ws k))/\Hu (Below w w wr)/\Hu (∀b o n c,vW=.slice (some ⟨b,o,none⟩) n c->w.heap.size<=b)) (λ_ i _=>ws.length - (intOf i).toNat)
 case atStart=>exact⟨0,by omega,rfl,HP.o,HQ.o,λb o n c h=>by cases h;exact lR⟩
 case round=>
  obtain⟨k,hk,rfl,A,E,H9⟩:=hrel;clear HP HQ;have HL:=zK pol nodes ws (λy s=>(HJ.o y s).2) k hk;have H6:=zJ k (by omega)
  by_cases I:k<ws.length
  ·obtain⟨Y,c',Hk,Hg⟩:=(HV.o.below E.o).form;obtain⟨rfl,rfl⟩:ao=Y/\c=c':=by simpa using Hk
   obtain⟨b,o,rfl,hg,Hg⟩:=Hg (by omega);obtain⟨c0,u,c1,K⟩:=Hg k I;have s:=HJ.o _ (fP ws gu k I);have H3:Hu (fR pol nodes ws (k+1)=iT (gX pol nodes (ws.getD k gu)) (fR pol nodes ws k) (gX pol nodes (ws.getD k gu)).length):=rfl;clear Hg Hk;generalize ws.getD k gu=y at *;obtain⟨any,hs⟩:=y;simp only at c0 c1 K s;have Q:=qI (mg.low (qq pol nodes ws k) r);have Q:=qI (mg.low (qq pol nodes ws k) r);have Q:=qI (mg.low (qq pol nodes ws k) r);generalize fR pol nodes ws k=W at *;have he:=zG pol nodes ⟨any,hs⟩ s.2;have HE:=qI (vy pol nodes ⟨any,hs⟩ r);have HE:=qI (vy pol nodes ⟨any,hs⟩ r);have HE:=qI (vy pol nodes ⟨any,hs⟩ r);obtain⟨t,c2,rfl,_⟩:=K.form;have J:=qI ((Q0 wr wr).alloc (lR) (.cells #[any,.slice t hs.length c2] 279));have HK:=qI (IU pol nodes any (.slice t hs.length c2) hs (wr.alloc (.cells #[any,.slice t hs.length c2] 279)) (K.below J.o) s.1 s.2 r hp);have HS:=qI (A.o.below J.o);have Hl:=qI (E.o.trans (J.o.mono E.o.size));have hb:=qI (ci.form A.o);obtain⟨aw,cw,rfl,_⟩:=ci.form A.o;clear K s A E
   go_wp2_with fail
   refine HK.o.mono ?_;rintro e T ⟨vC,rfl,hC,HI⟩;have HZ:=qI (HS.o.below HI);have HM:=qI (Hl.o.trans (HI.mono Hl.o.size));have HC:=qI hC;generalize gX pol nodes ⟨any,hs⟩=C at *;obtain⟨ac,cc,rfl,_⟩:=hC.form;clear hC HI HS Hl HK J c0 c1
   go_wp2_with fail
   generalize hB2:T.heap.size=B at *
   go_loopw [10,30] (λU i wq=>∃l:Nat,l<=C.length/\i=.int .i64 l/\Hu (wq.ownsRow B 231 2 U (iT C W l).length (fy (iT C W l)))/\Hu (Below B T wq)) (λ_ i _=>C.length - (intOf i).toNat)
   case atStart=>exact⟨0,by omega,rfl,Qw _ _ _ _,Q0 _ _⟩
   case round=>
    obtain⟨l,hi,rfl,D,Hw⟩:=hrel;have HD:B<=wr.heap.size:=Q5 (Nat.le_of_eq hB2.symm) Hw.o.size;have hc:=zI C W l;have ha:l*W.length<=16*65536:=Nat.mul_le_mul (by omega) (by omega);have Hq:Hu (iT C W (l+1)=fQ (C.getD l (0,false)) W (iT C W l) W.length):=rfl;obtain⟨ht,hx,rfl⟩:=jQ D.o
    by_cases F:l<C.length
    ·obtain⟨hr,hq,Hk,Hg⟩:=(HC.o.below (by rw[hB2];exact Hw.o)).form;obtain⟨rfl,rfl⟩:ac=hr/\cc=hq:=by simpa using Hk
     obtain⟨b3,o3,rfl,H5,Hg⟩:=Hg (by omega);obtain⟨d0,d1⟩:=Hg l F;have hm:=HE.o _ (fP C (0,false) l F);clear Hg Hk;generalize C.getD l (0,false)=x at *;obtain⟨m,g⟩:=x;simp only at d0 d1 hm;generalize iT C W l=N at *;have HN:=qI (D.o.alloc (.cells #[.int .u8 (m:Nat),g] 231));have Hl:=qI (Hw.o.alloc HD (.cells #[.int .u8 (m:Nat),g] 231));have HT:=qI (D.o.lt);have Hx:(wr.alloc (.cells #[.int .u8 (m:Nat),g] 231)).cell? wr.heap.size=some (.int .u8 (m:Nat)):=by simp
     have Hy:(wr.alloc (.cells #[.int .u8 (m:Nat),g] 231)).cell? ⟨wr,1,none⟩=some (.bool g):=by simp
     have Hx:=qI Hx;have Hy:=qI Hy;clear D Hw
     go_wp2_with fail
     generalize hLL:wr.heap.size=L at *
     go_loopw [10,36] (λU i M=>∃(j:Nat) (P:Value),j<=W.length/\i=.int .i64 j/\U=P/\Hu (M.ownsRow B 231 2 P (fQ (m,g) W N j).length (fy (fQ (m,g) W N j)))/\Hu (Below B T M)/\M.cell? L=some (.int .u8 (m:Nat))/\M.cell? ⟨L,1,none⟩=some (.bool g)/\Hu (some L≠P.ownBlock)) (λ_ i _=>W.length - (intOf i).toNat)
     case atStart=>exact⟨0,_,by omega,rfl,rfl,HN.o,Hl.o,Hx.o,Hy.o,λh=>by have:=(HT.o L h.symm).2;omega⟩
     case round=>
      obtain⟨j,P,hj,rfl,rfl,Hm,Ho,G,O,He⟩:=hrel;clear HN Hl Hx Hy HT hLL;have Ht:B<=wr.heap.size:=Q5 (Nat.le_of_eq hB2.symm) Ho.o.size;have hh:=Q3 _ _ G;have H8:=zH (m,g) W N j;obtain⟨an,cn,rfl⟩:=jQ Hm.o
      by_cases H:j<W.length
      ·obtain⟨ho,R,Hk,Hg⟩:=(HZ.o.below (by rw[hB2];exact Ho.o)).form;obtain⟨rfl,rfl⟩:aw=ho/\cw=R:=by simpa using Hk
       obtain⟨b4,o4,rfl,HY,Hg⟩:=Hg (by omega);obtain⟨q0,q1⟩:=Hg j H;have HO:=Q.o _ (fP W (0,false) j H);have Ha:fQ (m,g) W N (j+1)=if (iw (W.getD j (0,false)) (m,g)).1=0 then fQ (m,g) W N j else ix (fQ (m,g) W N j) (iw (W.getD j (0,false)) (m,g)):=rfl
       clear Hg Hk;generalize W.getD j (0,false)=z at *;obtain⟨p,f⟩:=z;simp only at q0 q1 HO;have Hp:=zL p m HO hm
       rcases two f with hf|hf
       ·subst hf;have Z:Hu (iw (p,true) (m,g)=(p &&& m,g)):=by cases g <;> rfl
        rw[Z.o] at Ha;have Hi:=qI (vt B (.slice an (fQ (m,g) W N j).length cn) (fQ (m,g) W N j) (p &&& m,g) ((wr.alloc (.cells #[.int .u8 (p:Nat),true] 231)).alloc (.cells #[.int .u8 ((p &&& m:Nat):Int),g] 231)) ((Hm.o.alloc _).alloc _) (by omega) (by simp;omega));unfold vH at Hi;have Hb:=qI ((Ho.o.alloc Ht (.cells #[.int .u8 (p:Nat),true] 231)).alloc (by simp;omega) (.cells #[.int .u8 ((p &&& m:Nat):Int),g] 231));have Hf:=qI ((Hm.o.alloc (.cells #[.int .u8 (p:Nat),true] 231)).alloc (.cells #[.int .u8 ((p &&& m:Nat):Int),g] 231));have z0:=iv G (.cells #[.int .u8 (p:Nat),true] 231);have z1:=iv O (.cells #[.int .u8 (p:Nat),true] 231);have a:=iv z0 (.cells #[.int .u8 ((p &&& m:Nat):Int),g] 231);have d:=iv z1 (.cells #[.int .u8 ((p &&& m:Nat):Int),g] 231)
        by_cases q:p &&& m=0
        ·have Hs:((p &&& m:Nat):Int)=0:=by omega
         rw[if_pos q] at Ha;have Ha:=qI Ha;rw[Hs] at Hb Hf a d Hp;clear q Hs Hi
         go_wp2
         go_roundw
         case rel=>exact⟨j+1,_,by omega,by go_num,rfl,by rw[Ha.o];exact Hf.o,Hb.o,a,d,He.o⟩
         case measure=>simp[intOf];omega
        ·have H7:(((p &&& m:Nat):Int) == 0)=false:=by rw[Qr];omega
         rw[if_neg q] at Ha;have Ha:=qI Ha;have q:=qI q;generalize p &&& m=pm at *
         go_wp2_with fail
         refine Hi.o.mono ?_;rintro e w5 ⟨v5,rfl,Hr,Hn,Hc⟩;have Hv:=qI Hr;have Hz:=qI (Hb.o.trans Hn);have Hj:L<((wr.alloc (.cells #[.int .u8 (p:Nat),true] 231)).alloc (.cells #[.int .u8 (pm:Int),g] 231)).heap.size:=by simp;omega
         have X:=sI (Hc L Hj He.o).1 a;have V:=sI (Hc L Hj He.o).1 d;have Hh:=qI (Hc L Hj He.o).2;obtain⟨a5,c5,rfl⟩:=jQ Hv.o;clear Hr Hn Hc Hj Hi a d z0 z1 G O Hb Hf
         go_wp2
         go_roundw
         case rel=>exact⟨j+1,_,by omega,by go_num,rfl,by rw[Ha.o];exact Hv.o,Hz.o,X,V,Hh.o⟩
         case measure=>simp[intOf];omega
       ·subst hf;have Z:Hu (iw (p,false) (m,g)=(p &&& m,false)):=by rfl
        rw[Z.o] at Ha;have Hi:=qI (vt B (.slice an (fQ (m,g) W N j).length cn) (fQ (m,g) W N j) (p &&& m,false) ((wr.alloc (.cells #[.int .u8 (p:Nat),false] 231)).alloc (.cells #[.int .u8 ((p &&& m:Nat):Int),false] 231)) ((Hm.o.alloc _).alloc _) (by omega) (by simp;omega));unfold vH at Hi;have Hb:=qI ((Ho.o.alloc Ht (.cells #[.int .u8 (p:Nat),false] 231)).alloc (by simp;omega) (.cells #[.int .u8 ((p &&& m:Nat):Int),false] 231));have Hf:=qI ((Hm.o.alloc (.cells #[.int .u8 (p:Nat),false] 231)).alloc (.cells #[.int .u8 ((p &&& m:Nat):Int),false] 231));have z0:=iv G (.cells #[.int .u8 (p:Nat),false] 231);have z1:=iv O (.cells #[.int .u8 (p:Nat),false] 231);have a:=iv z0 (.cells #[.int .u8 ((p &&& m:Nat):Int),false] 231);have d:=iv z1 (.cells #[.int .u8 ((p &&& m:Nat):Int),false] 231)
        by_cases q:p &&& m=0
        ·have Hs:((p &&& m:Nat):Int)=0:=by omega
         rw[if_pos q] at Ha;have Ha:=qI Ha;rw[Hs] at Hb Hf a d Hp;clear q Hs Hi
         go_wp2
         go_roundw
         case rel=>exact⟨j+1,_,by omega,by go_num,rfl,by rw[Ha.o];exact Hf.o,Hb.o,a,d,He.o⟩
         case measure=>simp[intOf];omega
        ·have H7:(((p &&& m:Nat):Int) == 0)=false:=by rw[Qr];omega
         rw[if_neg q] at Ha;have Ha:=qI Ha;have q:=qI q;generalize p &&& m=pm at *
         go_wp2_with fail
         refine Hi.o.mono ?_;rintro e w5 ⟨v5,rfl,Hr,Hn,Hc⟩;have Hv:=qI Hr;have Hz:=qI (Hb.o.trans Hn);have Hj:L<((wr.alloc (.cells #[.int .u8 (p:Nat),false] 231)).alloc (.cells #[.int .u8 (pm:Int),false] 231)).heap.size:=by simp;omega
         have X:=sI (Hc L Hj He.o).1 a;have V:=sI (Hc L Hj He.o).1 d;have Hh:=qI (Hc L Hj He.o).2;obtain⟨a5,c5,rfl⟩:=jQ Hv.o;clear Hr Hn Hc Hj Hi a d z0 z1 G O Hb Hf
         go_wp2
         go_roundw
         case rel=>exact⟨j+1,_,by omega,by go_num,rfl,by rw[Ha.o];exact Hv.o,Hz.o,X,V,Hh.o⟩
         case measure=>simp[intOf];omega
      ·have H4:j=W.length:=by omega
       subst H4
       go_wp2
       go_roundw
       case rel=>exact⟨l+1,by omega,by go_num,by rw[Hq.o];exact Hm.o,Ho.o⟩
       case measure=>simp[intOf];omega
    ·have H2:l=C.length:=by omega
     subst H2;have HH:=qI (ci.of_row D.o);have HU:w.heap.size<=B:=by rw[<- hB2];exact HM.o.size
     have H0:=qI (HM.o.trans (Hw.o.mono HU));have HA:=qI (zy D.o HU)
     go_wp2
     go_roundw
     case rel=>exact⟨k+1,by omega,by go_num,by rw[H3.o];exact HH.o,H0.o,HA.o⟩
     case measure=>simp[intOf];omega
  ·have H1:k=ws.length:=by omega
   subst H1;obtain⟨aw,cw,rfl,_⟩:=ci.form A.o
   go_wp2
   go_ret;exact⟨_,rfl,A.o,E.o,H9.o⟩
theorem sJ{fn:Func}{p u t:Tmp}{b:TypeId}(h:fn.results=#[.cell p b,.tmp u,.tmp t])(tmps:Array Value)(P:Program)(w:World) :
  (results fn tmps).run P w =
   ((asAddr (tmps.getD p undef)).run P w).andThen λa d=>((loadVar b a).run P d).andThen λv c=>.ok (.tuple #[v,tmps.getD u undef,tmps.getD t undef]) c:=by
 simp only[results,h]
 simp[Sem.run_bind,Result.andThen]
theorem zM{nodes:Nat}(h:nodes<=15):bits BinOp.andNot IntKind.u8 (nodes:Int) 15=0:=by
 have key:∀(x:Fin 16),bits BinOp.andNot IntKind.u8 ((x.val:Nat):Int) 15=0:=by decide +kernel
 exact key ⟨nodes,by omega⟩
theorem IX(nodes:Nat)(b:Option Addr)(n c:Nat)(w:World)(d:1<=nodes/\nodes<=15)(f:n<=4) :
  Calls prog 130 #[(0:Int),.int .u8 nodes,.slice b n c] w λe w'=>e=.returned (.tuple #[vH (nodes,true),true,.nilIface])/\Below w w w':=by
 have a:Hu (Below w w (w.alloc (.cells #[.int .u8 0,false] 231))):=(Q0 _ _).alloc (lR) _;unfold vH;have Ha:=zM d.2;have g:((nodes:Int) == 0)=false:=by rw[Qr];omega
 go_enter func130,ntmps130
 go_wp2_with fail
 (try simp only[Exit.inBlock,Exit.then]);refine bodyPost_ret (v:=.tuple #[.agg #[.int .u8 nodes,true],true,.nilIface]) ?_ rfl ⟨rfl,?_⟩
 ·rw[sJ rfl];go_simp
 ·first
   | exact a.o
   | exact (Q0 _ _).alloc (lR) _
   | exact (a.o.setCell (lR) _).setCell (lR) _
structure kz (u:World) (N:Nat) (h:aK):Prop where
 c00:u.cell? N=some (.int .u8 0)
 c01:u.cell? ⟨N,1,none⟩=some (.bool false)
 c10:u.cell? (N+1:Nat)=some (.int .u8 (h.1:Nat))
 c11:u.cell? ⟨N+1,1,none⟩=some (.bool h.2)
 f00:u.frozen? N=false
 f01:u.frozen? ⟨N,1,none⟩=false
 f10:u.frozen? (N+1:Nat)=false
 f11:u.frozen? ⟨N+1,1,none⟩=false
theorem kz.lt{h:aK}(e:kz u N h):N+1<u:=Q3 u _ e.c10
theorem kz.below{b:World}{K:Nat}{h:aK}(e:kz u N h)(a:Below K u b)(c:N+2<=K):kz b N h:=
 ⟨(a.cell (p:=N) (by show N<K;omega)).trans e.c00,(a.cell (p:=⟨N,1,none⟩) (by show N<K;omega)).trans e.c01,(a.cell (p:=⟨N+1,0,none⟩) (by show N+1<K;omega)).trans e.c10,(a.cell (p:=⟨N+1,1,none⟩) (by show N+1<K;omega)).trans e.c11,
  (a.frozen (p:=N) (by show N<K;omega)).trans e.f00,(a.frozen (p:=⟨N,1,none⟩) (by show N<K;omega)).trans e.f01,(a.frozen (p:=⟨N+1,0,none⟩) (by show N+1<K;omega)).trans e.f10,(a.frozen (p:=⟨N+1,1,none⟩) (by show N+1<K;omega)).trans e.f11⟩
theorem kz.set{h:aK}(e:kz u N h)(m:Nat)(g:Bool):kz ((u.setCell (N+1:Nat) (.int .u8 (m:Nat))).setCell ⟨N+1,1,none⟩ g) N (m,g):=by
 obtain⟨c00,c01,c10,c11,f00,f01,f10,f11⟩:=e;refine⟨?_,?_,?_,?_,?_,?_,?_,?_⟩ <;> go_simp
theorem ci.set{v:Value}{l:List aK}(h:ci w v l)(d:∀b o n c,v=.slice (some ⟨b,o,none⟩) n c->N+2<=b)(x y:Value):ci ((w.setCell (N+1:Nat) x).setCell ⟨N+1,1,none⟩ y) v l:=by
 rcases h with h|⟨b,o,j,f,Ha,g⟩
 ·exact .inl h
 ·have m:=d b o _ _ f;refine .inr ⟨b,o,j,f,by simpa using Ha,λk e=>?_⟩;have i:((w.setCell (N+1:Nat) x).setCell ⟨N+1,1,none⟩ y).heap[b]?=w.heap[b]?:=by
   rw[Below.heap_setCell _ _ _ _ (by show b≠N+1;omega),Below.heap_setCell _ _ _ _ (by show b≠N+1;omega)]
  exact⟨(World.cell?_of_block (w:=w) (a:=⟨b,o+k*2,none⟩) i).trans (g k e).1,(World.cell?_of_block (w:=w) (a:=⟨b,o+k*2+1,none⟩) i).trans (g k e).2⟩
theorem IY(pol:Int)(nodes:Nat)(v:Value)(ws:List cL)(w:World)(u:jp w v ws)(r:vx ws)(F:ws.length<=4)(N:1<=nodes/\nodes<=15)(P:1<=pol/\pol<=3) :
  Calls prog 130 #[pol,.int .u8 nodes,v] w λe w'=>e=.returned (.tuple #[vH (mh pol nodes ws),.bool ((mh pol nodes ws).2 || decide (pol=1)),.nilIface])/\Below w w w':=by
 have a:Hu (Below w w ((w.alloc (.cells #[.int .u8 0,false] 231)).alloc (.cells #[.int .u8 (nodes:Nat),false] 231))):=((Q0 _ _).alloc (lR) _).alloc (by simp) _;have A:=qI (IW pol nodes v ws ((w.alloc (.cells #[.int .u8 0,false] 231)).alloc (.cells #[.int .u8 (nodes:Nat),false] 231)) (u.below a.o) r F (by omega) (by omega));have Hy:=qI (mg.low (qq pol nodes ws ws.length) (show nodes<256 by omega));have G:Hu (mh pol nodes ws=eZ (fR pol nodes ws ws.length) (nodes,false) (fR pol nodes ws ws.length).length):=rfl;have Hs:=zK pol nodes ws (λy Q=>(r y Q).2) ws.length (lR);have HH:=zJ ws.length F;generalize mh pol nodes ws=T at *;generalize fR pol nodes ws ws.length=W at *;obtain⟨V,c,rfl,_⟩:=u.form;clear u r;have S:=zM N.2;have h4:((nodes:Int) == 0)=false:=by rw[Qr];omega
 obtain⟨HS,HN⟩:=P;have Y:0<=pol:=by omega
 have X:(pol == 0)=false:=by rw[Qr];omega
 have Hw:Hu (kz ((w.alloc (.cells #[.int .u8 0,false] 231)).alloc (.cells #[.int .u8 (nodes:Nat),false] 231)) w (nodes,false)):=by
  refine⟨?_,?_,?_,?_,?_,?_,?_,?_⟩ <;> go_simp
 unfold vH at *
 go_enter func130,ntmps130
 go_wp2_with fail
 refine A.o.mono ?_;rintro e w2 ⟨O,rfl,s,Hp,Hv⟩;have B:=qI (a.o.trans (Hp.mono (by simp;omega)));have E:=qI (Hw.o.below Hp (by simp));have C:=qI s;have J:Hu (∀b o n c,O=.slice (some ⟨b,o,none⟩) n c->w.heap.size+2<=b):=λb o n c h=>Q5 (by simp) (Hv b o n c h)
 obtain⟨ac,cc,rfl,_⟩:=s.form;clear s Hp Hw A a Hv
 go_wp2
 go_loopw [45] (λi wr=>∃k:Nat,k<=W.length/\i=.int .i64 k/\Hu (kz wr w (eZ W (nodes,false) k))/\Hu (ci wr (.slice ac W.length cc) W)/\Hu (Below w w wr)) (λi _=>W.length - (intOf i).toNat)
 case atStart=>exact⟨0,by omega,rfl,E.o,C.o,B.o⟩
 case round=>
  obtain⟨k,L,rfl,Hb,Hl,Hi⟩:=hrel;clear E C B;have Ha:=zA Hy.o (show ((nodes,false):aK).1<256 by show nodes<256;omega) k L
  by_cases q:k<W.length
  ·obtain⟨z,t,Hz,Hh⟩:=Hl.o.form;obtain⟨rfl,rfl⟩:ac=z/\cc=t:=by simpa using Hz
   obtain⟨b,o,rfl,Z,Hh⟩:=Hh (by omega);obtain⟨c0,c1⟩:=Hh k q;have D:=Hy.o _ (fP W (0,false) k q);have Hc:eZ W (nodes,false) (k+1)=if jn (W.getD k (0,false)) (eZ W (nodes,false) k) then W.getD k (0,false) else eZ W (nodes,false) k:=rfl
   clear Hh Hz;generalize W.getD k (0,false)=x at *;generalize eZ W (nodes,false) k=y at *;obtain⟨m,g⟩:=x;obtain⟨p,f⟩:=y;simp only at c0 c1 D Ha;have a:=qI ((Q0 wr wr).alloc (lR) (.cells #[.int .u8 (m:Nat),g] 231));have Hg:=qI (Hb.o.below a.o Hb.o.lt);have Hx:=qI (Hl.o.below a.o);have Hn:=qI (Hi.o.trans (a.o.mono Hi.o.size));have HP:=Hb.o.lt;have d:=Hg.o.c10;have l:=Hg.o.c11;simp only at d l;have Hq:=qI (IR (m,g) (p,f) (wr.alloc (.cells #[.int .u8 (m:Nat),g] 231)) D Ha);have Hj:(wr.alloc (.cells #[.int .u8 (m:Nat),g] 231)).cell? wr=some (.int .u8 (m:Nat)):=by simp
   have Hk:(wr.alloc (.cells #[.int .u8 (m:Nat),g] 231)).cell? ⟨wr,1,none⟩=some (.bool g):=by simp
   have Hj:=qI Hj;have Hk:=qI Hk;unfold vH at Hq;clear Hb Hl Hi
   go_wp2_with fail
   refine Hq.o.mono ?_;rintro e w5 ⟨rfl,He⟩;have Hf:=qI (Hg.o.below He Hg.o.lt);have Ht:=qI (Hx.o.below He);have Hr:=qI (Hn.o.trans (He.mono Hn.o.size));have l0:=(He.cell (p:=wr.heap.size) (by simp)).trans Hj.o;have l1:=(He.cell (p:=⟨wr,1,none⟩) (by simp)).trans Hk.o;clear He Hq Hj Hk Hg Hx Hn a c0 c1 d l
   rcases two (jn (m,g) (p,f)) with Ho|Ho
   ·rw[Ho] at Hc ⊢;rw[if_pos rfl] at Hc;have Hc:=qI Hc;have I:=qI (Hf.o.set m g);have K:=qI (Ht.o.set J.o (.int .u8 (m:Nat)) g);have R:=qI ((Hr.o.setCell (p:=⟨w.heap.size+1,0,none⟩) (by show w<=w.heap.size+1;omega) (.int .u8 (m:Nat))).setCell (p:=⟨w.heap.size+1,1,none⟩) (by show w<=w.heap.size+1;omega) g);have d:=Hf.o.c10;have l:=Hf.o.c11;have f0:=Hf.o.f10;have f1:=Hf.o.f11;simp only at d l
    go_wp2
    go_roundw
    case rel=>exact⟨k+1,by omega,by go_num,by rw[Hc.o];exact I.o,K.o,R.o⟩
    case measure=>simp[intOf];omega
   ·rw[Ho] at Hc ⊢;rw[if_neg (by decide)] at Hc;have Hc:=qI Hc
    go_wp2
    go_roundw
    case rel=>exact⟨k+1,by omega,by go_num,by rw[Hc.o];exact Hf.o,Ht.o,Hr.o⟩
    case measure=>simp[intOf];omega
  ·have M:k=W.length:=by omega
   subst M;rw[<- G.o] at Hb Ha;obtain⟨p,f⟩:=T;have d:=Hb.o.c10;have l:=Hb.o.c11;have d0:=Hb.o.c00;have U:=Hb.o.c01;have f0:=Hb.o.f00;have f1:=Hb.o.f01;simp only at d l;have Hm:=qI ((Hi.o.setCell (p:=w.heap.size) (lR) (.int .u8 (p:Nat))).setCell (p:=⟨w,1,none⟩) (lR) f)
   rcases two f with hf|hf
   ·subst hf
    go_wp2_with fail
    (try simp only[Exit.inBlock,Exit.then]);refine bodyPost_ret (v:=.tuple #[.agg #[.int .u8 (p:Nat),true],true,.nilIface]) ?_ rfl ⟨rfl,Hm.o⟩;rw[sJ rfl];go_simp
   ·subst hf
    by_cases j:pol=1
    ·have hd:Hu (decide (pol=1)=true):=Qc j;have H:(pol == 1)=true:=by rw[beq_iff_eq];exact j
     clear j
     go_wp2_with fail
     (try simp only[Exit.inBlock,Exit.then]);refine bodyPost_ret (v:=.tuple #[.agg #[.int .u8 (p:Nat),false],true,.nilIface]) ?_ rfl ⟨by rw[hd.o],Hm.o⟩;rw[sJ rfl];go_simp
    ·have hd:Hu (decide (pol=1)=false):=Q7 j;have H:(pol == 1)=false:=by rw[Qr];exact j
     clear j
     go_wp2_with fail
     (try simp only[Exit.inBlock,Exit.then]);refine bodyPost_ret (v:=.tuple #[.agg #[.int .u8 (p:Nat),false],false,.nilIface]) ?_ rfl ⟨by rw[hd.o],Hm.o⟩;rw[sJ rfl];go_simp
