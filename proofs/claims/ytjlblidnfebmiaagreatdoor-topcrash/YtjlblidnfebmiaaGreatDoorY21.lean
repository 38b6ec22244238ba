import Derived.Test.YtjlblidnfebmiaaGreatDoorY20
set_option maxRecDepth 100000
set_option maxHeartbeats 16000000
open Go Go.RowKit Go.Shelf
attribute [local go_sem] Oper.semAt_some
open Go.Proofs.Tryz
namespace Go.Proofs.YtjlblidnfebmiaaGreatDoor
variable{M:Nat->Prop}{N N' b cap g n sz:Nat}{W W':World}{dv:Nat->Value}{f:Nat->List Value}
theorem D7(a:Option Addr)(n c:Nat)(w:World):Sem.run prog (binOp .eql 63 (.slice a n c) ()) w=.ok a.isNone w:=Lib.run_eql_slice_nil w _ _ a n c 0 0 underlying63
theorem QX(a:Addr)(n c:Nat)(cs:List Value)(w:World)(b:cs.length=n*2)(f:∀j u,cs[j]?=some u->w.cell? (a.add j)=some u)(g:∀u∈cs,u.oneCell'=true)(p:n<=1000) :
  Calls pg 64 #[.slice (some a) n c] w λe w'=>∃v,e=.returned v/\w'.ownsRow w 127 2 v n cs/\Bw w w':=by
 obtain⟨i0,hi,Hf,Hg,Hh⟩:=info_parts C5;have h:=qI ((Q0 w w).alloc (lR) (.cells #[] 127));have k:Hu (∀j u,cs[j]?=some u->(w.alloc (.cells #[] 127)).cell? (a.add j)=some u):=λj u d=>Lib.cell?_alloc_some _ (f j u d)
 have i:=qI g;have Hc:=qI b;have Hi:=D7 (some a) n c w;clear f g b
 go_enter func64,ntmps64
 go_wp2_with (at_builtin;(refine wpList_append_own _ rfl _ _ 63 rfl w 127 i0 (.agg #[ByteArray.empty,(0:Int)]) 2 24 underlying63 hi Hf Hg Hh rfl (by decide) _ _ _ rfl (World.ownsRow_lit w #[] 0 (lR) (Nat.zero_le _) rfl) a n c cs rfl Hc k i (by unfold maxLen;omega) (by omega) (by simp) ?_;intro m l Hb Ha _))
 have He:=qI (h.o.grown Ha (by simp) (λj d=>by cases d;exact lR));rw[Qd] at Hb;have o:=qI (show l.ownsRow w 127 2 m n cs by simpa using Hb);clear Hb Ha
 go_wp2
 go_ret;exact⟨_,rfl,o,He⟩
theorem QY{n c:Nat}{w:World}:CE 64 #[.slice none n c] w ():=by
 have a:=D7 none n c w
 go_enter func64,ntmps64
 go_wp2
 go_ret;exact⟨rfl,rfl⟩
theorem D8(a:Option Addr)(n c:Nat)(w:World):Sem.run prog (binOp .eql 47 (.slice a n c) ()) w=.ok a.isNone w:=Lib.run_eql_slice_nil w _ _ a n c 0 0 underlying47
theorem D9(a:Addr)(n c:Nat)(cs:List Value)(w:World)(b:cs.length=n*6)(f:∀j u,cs[j]?=some u->w.cell? (a.add j)=some u)(g:∀u∈cs,u.oneCell'=true)(p:n<=1000) :
  Calls pg 63 #[.slice (some a) n c] w λe w'=>∃v,e=.returned v/\w'.ownsRow w 65 6 v n cs/\Bw w w':=by
 obtain⟨i0,hi,Hf,Hg,Hh⟩:=info_parts DM;have h:=qI ((Q0 w w).alloc (lR) (.cells #[] 65));have k:Hu (∀j u,cs[j]?=some u->(w.alloc (.cells #[] 65)).cell? (a.add j)=some u):=λj u d=>Lib.cell?_alloc_some _ (f j u d)
 have i:=qI g;have Hc:=qI b;have Hi:=D8 (some a) n c w;clear f g b
 go_enter func63,ntmps63
 go_wp2_with (at_builtin;(refine wpList_append_own _ rfl _ _ 47 rfl w 65 i0 (.agg #[ByteArray.empty,(0:Int),(0:Int),(0:Int),(0:Int),()]) 6 72 underlying47 hi Hf Hg Hh rfl (by decide) _ _ _ rfl (World.ownsRow_lit w #[] 0 (lR) (Nat.zero_le _) rfl) a n c cs rfl Hc k i (by unfold maxLen;omega) (by omega) (by simp) ?_;intro m l Hb Ha _))
 have He:=qI (h.o.grown Ha (by simp) (λj d=>by cases d;exact lR));rw[Qd] at Hb;have o:=qI (show l.ownsRow w 65 6 m n cs by simpa using Hb);clear Hb Ha
 go_wp2
 go_ret;exact⟨_,rfl,o,He⟩
theorem QZ{n c:Nat}{w:World}:CE 63 #[.slice none n c] w ():=by
 have a:=D8 none n c w
 go_enter func63,ntmps63
 go_wp2
 go_ret;exact⟨rfl,rfl⟩
theorem Ea(a:Option Addr)(n c:Nat)(w:World):Sem.run prog (binOp .eql 99 (.slice a n c) ()) w=.ok a.isNone w:=Lib.run_eql_slice_nil w _ _ a n c 0 0 underlying99
theorem Eb(a:Addr)(n c:Nat)(cs:List Value)(w:World)(b:cs.length=n*2)(f:∀j u,cs[j]?=some u->w.cell? (a.add j)=some u)(g:∀u∈cs,u.oneCell'=true)(p:n<=1000) :
  Calls pg 65 #[.slice (some a) n c] w λe w'=>∃v,e=.returned v/\w'.ownsRow w 123 2 v n cs/\Bw w w':=by
 obtain⟨i0,hi,Hf,Hg,Hh⟩:=info_parts DN;have h:=qI ((Q0 w w).alloc (lR) (.cells #[] 123));have k:Hu (∀j u,cs[j]?=some u->(w.alloc (.cells #[] 123)).cell? (a.add j)=some u):=λj u d=>Lib.cell?_alloc_some _ (f j u d)
 have i:=qI g;have Hc:=qI b;have Hi:=Ea (some a) n c w;clear f g b
 go_enter func65,ntmps65
 go_wp2_with (at_builtin;(refine wpList_append_own _ rfl _ _ 99 rfl w 123 i0 (.agg #[.int .u64 0,()]) 2 32 underlying99 hi Hf Hg Hh rfl (by decide) _ _ _ rfl (World.ownsRow_lit w #[] 0 (lR) (Nat.zero_le _) rfl) a n c cs rfl Hc k i (by unfold maxLen;omega) (by omega) (by simp) ?_;intro m l Hb Ha _))
 have He:=qI (h.o.grown Ha (by simp) (λj d=>by cases d;exact lR));rw[Qd] at Hb;have o:=qI (show l.ownsRow w 123 2 m n cs by simpa using Hb);clear Hb Ha
 go_wp2
 go_ret;exact⟨_,rfl,o,He⟩
theorem Q8{n c:Nat}{w:World}:CE 65 #[.slice none n c] w ():=by
 have a:=Ea none n c w
 go_enter func65,ntmps65
 go_wp2
 go_ret;exact⟨rfl,rfl⟩
theorem Ec(a:Option Addr)(n c:Nat)(w:World):Sem.run prog (binOp .eql 43 (.slice a n c) ()) w=.ok a.isNone w:=Lib.run_eql_slice_nil w _ _ a n c 0 0 underlying43
theorem Ed(a:Addr)(n c:Nat)(cs:List Value)(w:World)(b:cs.length=n*4)(f:∀j u,cs[j]?=some u->w.cell? (a.add j)=some u)(g:∀u∈cs,u.oneCell'=true)(p:n<=1000) :
  Calls pg 55 #[.slice (some a) n c] w λe w'=>∃v,e=.returned v/\w'.ownsRow w 101 4 v n cs/\Bw w w':=by
 obtain⟨i0,hi,Hf,Hg,Hh⟩:=info_parts DT;have h:=qI ((Q0 w w).alloc (lR) (.cells #[] 101));have k:Hu (∀j u,cs[j]?=some u->(w.alloc (.cells #[] 101)).cell? (a.add j)=some u):=λj u d=>Lib.cell?_alloc_some _ (f j u d)
 have i:=qI g;have Hc:=qI b;have Hi:=Ec (some a) n c w;clear f g b
 go_enter func55,ntmps55
 go_wp2_with (at_builtin;(refine wpList_append_own _ rfl _ _ 43 rfl w 101 i0 (.agg #[ByteArray.empty,(0:Int),(),()]) 4 72 underlying43 hi Hf Hg Hh rfl (by decide) _ _ _ rfl (World.ownsRow_lit w #[] 0 (lR) (Nat.zero_le _) rfl) a n c cs rfl Hc k i (by unfold maxLen;omega) (by omega) (by simp) ?_;intro m l Hb Ha _))
 have He:=qI (h.o.grown Ha (by simp) (λj d=>by cases d;exact lR));rw[Qd] at Hb;have o:=qI (show l.ownsRow w 101 4 m n cs by simpa using Hb);clear Hb Ha
 go_wp2
 go_ret;exact⟨_,rfl,o,He⟩
theorem Ra{n c:Nat}{w:World}:CE 55 #[.slice none n c] w ():=by
 have a:=Ec none n c w
 go_enter func55,ntmps55
 go_wp2
 go_ret;exact⟨rfl,rfl⟩
theorem Ee(a:Option Addr)(n c:Nat)(w:World):Sem.run prog (binOp .eql 46 (.slice a n c) ()) w=.ok a.isNone w:=Lib.run_eql_slice_nil w _ _ a n c 0 0 underlying46
theorem Rb(a:Addr)(n c:Nat)(cs:List Value)(w:World)(b:cs.length=n*1)(f:∀j u,cs[j]?=some u->w.cell? (a.add j)=some u)(g:∀u∈cs,u.oneCell'=true)(p:n<=1000) :
  Calls pg 66 #[.slice (some a) n c] w λe w'=>∃v,e=.returned v/\w'.ownsRow w 3 1 v n cs/\Bw w w':=by
 obtain⟨i0,hi,Hf,Hg,Hh⟩:=info_parts xN;have h:=qI ((Q0 w w).alloc (lR) (.cells #[] 3));have k:Hu (∀j u,cs[j]?=some u->(w.alloc (.cells #[] 3)).cell? (a.add j)=some u):=λj u d=>Lib.cell?_alloc_some _ (f j u d)
 have i:=qI g;have Hc:=qI b;have Hi:=Ee (some a) n c w;clear f g b
 go_enter func66,ntmps66
 go_wp2_with (at_builtin;(refine wpList_append_own _ rfl _ _ 46 rfl w 3 i0 (0:Int) 1 8 underlying46 hi Hf Hg Hh rfl (by decide) _ _ _ rfl (World.ownsRow_lit w #[] 0 (lR) (Nat.zero_le _) rfl) a n c cs rfl Hc k i (by unfold maxLen;omega) (by omega) (by simp) ?_;intro m l Hb Ha _))
 have He:=qI (h.o.grown Ha (by simp) (λj d=>by cases d;exact lR));rw[Qd] at Hb;have o:=qI (show l.ownsRow w 3 1 m n cs by simpa using Hb);clear Hb Ha
 go_wp2
 go_ret;exact⟨_,rfl,o,He⟩
theorem Rc{n c:Nat}{w:World}:CE 66 #[.slice none n c] w ():=by
 have a:=Ee none n c w
 go_enter func66,ntmps66
 go_wp2
 go_ret;exact⟨rfl,rfl⟩
def iG (x:aj × Value):List Value:=[.string x.1.nm,.int .i64 x.1.pr,x.2]
def rowP (l:List (aj × Value)):List Value:=l.flatMap iG
theorem yt(l:List (aj × Value))(p:aj × Value):rowP (l++[p])=rowP l++iG p:=by simp[rowP]
def Ef (W:World) (base:Nat) (v:Value) (ps:List aj):Prop:=∃l:List (aj × Value),l.map Prod.fst=ps/\W.ownsRow base 49 3 v l.length (rowP l)/\∀x∈l,ba W x.2 x.1.cs
theorem yv:(prog.info? 49).map (λi=>(i.zero,i.size,i.bytes))=some (some (.agg #[ByteArray.empty,(0:Int),()]),3,48):=by kernel_rfl
theorem vd(w:World)(nm:ByteArray)(pr:Int)(cv:Value)(t:TypeId):∀j u,(iG (⟨nm,pr,[]⟩,cv))[j]?=some u->(w.alloc (.cells #[nm,pr,cv] t)).cell? ((w.heap.size:Addr).add j)=some u:=by
 simp[Addr.add_lit,iG]
theorem yw(nm:ByteArray)(pr:Int)(a:Option Addr)(n c:Nat):∀u∈iG (⟨nm,pr,[]⟩,.slice a n c),u.oneCell'=true:=by
 intro u b
 simp[iG] at b
 rcases b with rfl|rfl|rfl <;> rfl
abbrev qS:=λ(x0:ByteArray) (x1:Int) (x2:Option Addr) (x3 x4:Nat) (x5:Option Addr) (x6 x7:Nat)=>(.cells #[x0,x1,.slice x2 x3 x4,.slice x5 x6 x7] 101:Obj)
theorem Eg{v:Value}{hs:List ae}{w:World}(h:bf w v hs)(Q:hs.length<=100):Calls pg 51 #[v] w λe w'=>∃r,e=.returned r/\Ef w' w r (hs.map ae.pod)/\Bw w w':=by
 obtain⟨i0,hi,Ht,Hw,F⟩:=info_parts yv;obtain⟨R,c,rfl,K,A⟩:=h;unfold maxLen at K;have B:=qI A;clear A
 go_enter func51,ntmps51
 go_wp2
 go_loopw [3,8] (λH i wr=>∃(k:Nat) (l:List (aj × Value)),k<=hs.length/\i=.int .i64 k/\l.length=k/\l.map Prod.fst=(hs.take k).map ae.pod/\wr.ownsRow w 49 3 H l.length (rowP l)/\(∀x∈l,ba w x.2 x.1.cs)/\Bw w wr) (λ_ i _=>hs.length - (intOf i).toNat)
 exact⟨0,[],by omega,rfl,rfl,rfl,Qw _ _ _ _,λx s=>(List.not_mem_nil s).elim,Q0 _ _⟩
 ·obtain⟨k,l,N,rfl,Ho,Hi,Ha,Hp,p⟩:=hrel;have Hv:=qI Ho;have Hk:=qI Hi;have Hn:=qI Hp;have q:=qI p;have M:l.length<=100:=by omega
  have O:=p.size;clear Ho Hi Hp
  by_cases g:k<hs.length
  ·obtain⟨b,o,cv,J,rfl,Hj⟩:=B.o (by omega);obtain⟨C,I,z,u⟩:=((Hj.below p).2 k g).1;have He:=(Hj.2 k g).2.1;have Hl:Hu ((hs.take (k+1)).map ae.pod=(hs.take k).map ae.pod++[(ah hs k).pod]):=by
    grind[Qa,ah]
   have Hf:=qI He;obtain⟨ca,cc,Hq,_,_⟩:=id He;rw[Hq] at z Hf;obtain⟨ga,gc,Hm,_,_⟩:=id (Hj.2 k g).2.2;rw[Hm] at u;clear Hj He p Hq Hm;generalize ah hs k=x at *;obtain⟨⟨f,d,a⟩,m⟩:=x;dsimp only at C I z u Hf Hl;obtain⟨L,vc,E⟩:=fI Ha;subst E;have t:=(Q0 wr wr).alloc (lR) (qS f d ca a.length cc ga m.length gc);have Hb:=Ha.alloc (qS f d ca a.length cc ga m.length gc);have Hs:=q.t t;have Hz:w.heap.size<=(wr.alloc (qS f d ca a.length cc ga m.length gc)).heap.size:=by simp;omega
   have Hg:=vd (wr.alloc (qS f d ca a.length cc ga m.length gc)) f d (.slice ca a.length cc) 49;rw[show (wr.alloc (qS f d ca a.length cc ga m.length gc)).heap.size=wr.heap.size+1 by simp] at Hg;have Hr:=qI Hg;have Hy:w.heap.size<=((wr.alloc (qS f d ca a.length cc ga m.length gc)).alloc (.cells #[f,(d:Int),.slice ca a.length cc] 49)).heap.size:=by simp;omega
   clear t Hg Ha
   go_wp2_with (at_builtin;refine wpList_append_own _ rfl _ _ 67 rfl w 49 i0 _ 3 48 underlying67 hi Ht Hw F rfl (by decide) _ _ _ rfl (Hb.alloc _) ⟨_,0,none⟩ 1 1 (iG (⟨f,d,[]⟩,.slice ca a.length cc)) rfl rfl Hr (yw f d ca a.length cc) (by unfold maxLen;omega) (by omega) Hy ?_;intro r P Hh Hc _)
   go_roundw
   case rel=>
    refine⟨k+1,l++[(⟨f,d,a⟩,.slice ca a.length cc)],by omega,by go_num,by rw[Q2,Hv.o];rfl,by rw[Qj,Hk.o,Hl.o];rfl,?_,λy n=>?_,?_⟩
    ·rw[yt,Q2];exact Hh
    ·rcases Qi.1 n with n|n
     ·exact Hn.o y n
     ·rw[Qm.1 n];exact Hf.o
    ·exact (Hs.o.alloc Hz _).grown Hc (by simp;omega) λj G=>(Hb.lt j G).1
   case measure=>simp[intOf];omega
  ·have Hx:k=hs.length:=by omega
   have D:Hu (l.map Prod.fst=hs.map ae.pod):=by grind
   clear Hx
   go_wp2
   go_ret;exact⟨_,rfl,⟨l,D,Ha,λx s=>(Hn.o x s).below q⟩,q⟩
structure eX (W:World) (N g sz n:Nat) (f:Nat->List Value):Prop where
 base:N<=g
 lt:g<W
 cell:∀k,k<n->∀j,j<sz->W.cell? ⟨g,k*sz+j,none⟩=(f k)[j]?
 free:∀j,W.frozen? ⟨g,j,none⟩=false
theorem nU(hf:∀k,(f k).length=sz)(n:Nat):((List.range n).flatMap f).length=n*sz:=by
 induction n with
 | zero=>simp
 | succ n ih=>rw[List.range_succ,List.flatMap_append,Q2,ih];simp[hf,Nat.succ_mul]
theorem sS(hf:∀k,(f k).length=sz)(n:Nat){k j:Nat}(a:k<n)(b:j<sz):((List.range n).flatMap f)[k*sz+j]?=(f k)[j]?:=by
 induction n with
 | zero=>omega
 | succ n ih=>
  rw[List.range_succ,List.flatMap_append]
  by_cases h:k<n
  ·grind
  ·have:k=n:=by omega
   subst this;rw[List.getElem?_append_right (by grind[nU]),nU hf]
   simp
theorem sT(g:0<sz)(hf:∀k,(f k).length=sz){w:World}{o:Nat}(h:∀k,k<n->∀j,j<sz->w.cell? ⟨b,o+k*sz+j,none⟩=(f k)[j]?):∀j u,((List.range n).flatMap f)[j]?=some u->w.cell? ((⟨b,o,none⟩:Addr).add j)=some u:=by
 intro j u a;have i:j<n*sz:=by
  grind[nU]
 have c:j / sz<n:=Nat.div_lt_of_lt_mul (by grind);have d:j % sz<sz:=Nat.mod_lt _ g;have e:j / sz*sz+j % sz=j:=by grind[Nat.div_add_mod]
 rw[<- e,sS hf n c d] at a;rw[Addr.add_lit,<- e,<- Nat.add_assoc,h _ c _ d];exact a
theorem sU(h:∀k,k<n->∀u∈f k,u.oneCell'=true):∀u∈(List.range n).flatMap f,u.oneCell'=true:=by
 grind
theorem qT{base:Nat}{e:TypeId}{v:Value}{c:List Value}(h:W.ownsRow base e sz v n c)(hf:∀k,k<n->∀j,j<sz->c[k*sz+j]?=(f k)[j]?) :
  ∃d a,v=.slice d n a/\(n<=a/\a<=maxLen)/\(0<n->∃g,d=some ⟨g,0,none⟩/\eX W base g sz n f):=by
 rcases h.2 with⟨rfl,rfl⟩|⟨g,a,m,rfl,o,b,Ha,Hb,Hc,p⟩
 ·grind
 ·refine⟨_,a,rfl,⟨Ha,Hb⟩,λ_=>⟨g,rfl,o,(gS b).1,λk i j q=>?_,λj=>by simp[World.frozen?,b]⟩⟩;rw[<- hf k i j q,<- p,List.getElem?_take];have l:k*sz+j<n*sz:=by
   have:(k+1)*sz<=n*sz:=Nat.mul_le_mul_right _ i
   rw[Nat.succ_mul] at this;omega
  rw[if_pos l]
  simp[World.cell?,b]
theorem eX.keep(h:eX W N g sz n f)(b:W'.heap[g]?=W.heap[g]?)(hs:W<=W'.heap.size):eX W' N g sz n f:=
 ⟨h.base,Q1 h.lt hs,λk c j d=>(World.cell?_of_block (a:=⟨g,k*sz+j,none⟩) b).trans (h.cell k c j d),λj=>by
  have:=h.free j
  simp only[World.frozen?] at this ⊢;rw[b];exact this⟩
theorem eX.below(h:eX W N g sz n f)(a:Bw W W'):eX W' N g sz n f:=h.keep (a.block g h.lt) a.size
theorem eX.set(h:eX W N g sz n f)(k j:Nat)(p:k<n)(s:j<sz)(v:Value)(e:Nat->List Value)(l:∀i,i<n->i≠k->e i=f i)(r:∀i,i<sz->(e k)[i]?=if i=j then some v else (f k)[i]?)(o:(f k).length=sz):eX (W.setCell ⟨g,k*sz+j,none⟩ v) N g sz n e:=by
 have Ha:W.cell? ⟨g,k*sz+j,none⟩≠none:=by
  rw[h.cell k p j s,Qf (by omega)];simp
 have Hb:(W.setCell ⟨g,k*sz+j,none⟩ v).heap.size=W.heap.size:=by simp
 refine⟨h.base,by rw[Hb];exact h.lt,λi hi q d=>?_,λq=>by rw[World.frozen?_setCell];exact h.free q⟩
 by_cases a:i=k
 ·subst a;rw[r q d]
  by_cases c:q=j
  ·subst c;rw[if_pos rfl];obtain⟨u,m⟩:∃u,W.cell? ⟨g,i*sz+q,none⟩=some u:=Option.ne_none_iff_exists'.1 Ha;exact World.cell?_setCell_same _ _ _ m
  ·rw[if_neg c,<- h.cell i hi q d];exact Qb _ _ _ _ (by simp)
 ·rw[l i hi a,<- h.cell i hi q d];refine Qb _ _ _ _ ?_;simp only[ne_eq,Addr.mk.injEq,true_and,and_true];have b:i<k\/k<i:=by omega
  rcases b with b|b
  ·have:(i+1)*sz<=k*sz:=Nat.mul_le_mul_right _ b
   rw[Nat.succ_mul] at this;omega
  ·have:(k+1)*sz<=i*sz:=Nat.mul_le_mul_right _ b
   rw[Nat.succ_mul] at this;omega
noncomputable abbrev fresh (N:Nat) (W:World):World:=av (λj=>j<N) W
theorem kR{o:Nat}(h:N<=b):(fresh N W).cell? ⟨b,o,none⟩=W.cell? ⟨b,o,none⟩:=World.cell?_of_block (a:=⟨b,o,none⟩) (cH (λk=>by grind))
theorem qU(h:∀j,N<=j->j<W.heap.size->W'.heap[j]?=W.heap[j]?)(hs:W<=W'.heap.size)(f:N'<=N):aR (fresh N W) (fresh N' W'):=by
 refine⟨by grind[cC],λb o v e=>?_⟩;have c:=eB e;have d:b<W.heap.size:=by have:=Q3 _ ⟨b,o,none⟩ e;rw[cC] at this;exact this
 have Ha:N<=b:=by simpa using c
 rw[kR Ha] at e;rw[kR (by omega)];exact (World.cell?_of_block (a:=⟨b,o,none⟩) (h b Ha d)).trans e
theorem bF{M':Nat->Prop}(h:∀j,j<W.heap.size->¬ M j->¬ M' j/\W'.heap[j]?=W.heap[j]?)(hs:W<=W'.heap.size):aR (av M W) (av M' W'):=by
 refine⟨by grind[cC],λb o v e=>?_⟩;have c:=eB e;have d:b<W.heap.size:=by have:=Q3 _ ⟨b,o,none⟩ e;rw[cC] at this;exact this
 obtain⟨g,i⟩:=h b d c;have f:(av M' W').heap[b]?=(av M W).heap[b]?:=by grind[cH]
 exact (World.cell?_of_block (a:=⟨b,o,none⟩) f).trans e
theorem Eh(h:Bw W W')(a:N'<=N):aR (fresh N W) (fresh N' W'):=qU (λj _ b=>h.block j b) h.size a
theorem Ei{N:Nat}{W:World}:aR (fresh N W) W:=df
theorem Rd(h:∀j,M j->j<N):aR (fresh N W) (av M W):=by
 refine⟨by simp[cC],λb o v e=>?_⟩;have d:=eB e;have c:(av M W).heap[b]?=(fresh N W).heap[b]?:=by grind[cH]
 exact (World.cell?_of_block (a:=⟨b,o,none⟩) c).trans e
theorem Re{ds:List ak}(h:eX W N g 2 n (λk=>[.string (ar ds k).kind,.int .i64 (ar ds k).many]))(b:n=ds.length)(c:ds.length<=maxLen):bC (fresh N W) (.slice g n cap) ds:=by
 subst b;refine⟨_,_,rfl,c,λ_=>⟨g,0,rfl,by rw[cC];exact h.lt,λk a=>?_⟩⟩;rw[kR h.base,kR h.base,Qd];exact⟨h.cell k a 0 (by decide),h.cell k a 1 (by decide)⟩
theorem Ej(W:World)(a:Option Addr)(c:Nat):bC W (.slice a 0 c) []:=⟨a,c,rfl,Nat.zero_le _,λh=>absurd h (Nat.lt_irrefl 0)⟩
theorem Rf{cs:List aF}(h:eX W N g 6 n (λk=>eu (af cs k) (dv k)))(c:n=cs.length)(b:n<=cap/\cap<=maxLen)(ah:∀k,k<n->bC (fresh N W) (dv k) (af cs k).ds):ba (fresh N W) (.slice g n cap) cs:=by
 subst c;refine⟨_,_,rfl,b,λ_=>⟨g,0,dv,rfl,by rw[cC];exact h.lt,λk a=>⟨λj d=>?_,ah k a⟩⟩⟩;rw[kR h.base,Qd];exact h.cell k a j d
theorem Rg{a:List Int}(h:eX W N g 1 n (λk=>[.int .i64 (a.getD k 0)]))(b:n=a.length)(c:n<=cap/\cap<=maxLen):bK (fresh N W) (.slice g n cap) a:=by
 subst b;refine⟨_,_,rfl,c,λ_=>⟨g,0,rfl,by rw[cC];exact h.lt,λk d=>?_⟩⟩;rw[kR h.base,Qd]
 simpa using h.cell k d 0 (by decide)
theorem Rh{gs:List aX}(h:eX W N g 2 n (λk=>[.int .u64 (aG gs k).cp,dv k]))(b:n=gs.length)(c:n<=cap/\cap<=maxLen)(ah:∀k,k<n->(aG gs k).cp<18446744073709551616/\bK (fresh N W) (dv k) (aG gs k).dv):ce (fresh N W) (.slice g n cap) gs:=by
 subst b;refine⟨_,_,rfl,c,λ_=>⟨g,0,dv,rfl,by rw[cC];exact h.lt,λk a=>⟨⟨?_,?_,(ah k a).1⟩,(ah k a).2⟩⟩⟩
 ·rw[kR h.base,Qd];exact h.cell k a 0 (by decide)
 ·rw[kR h.base,Qd];exact h.cell k a 1 (by decide)
theorem Ri{v:Value}{ds:List ak}{w:World}(h:bC w v ds)(q:ds.length<=1000):Calls pg 64 #[v] w λe w'=>∃d c,e=.returned (.slice d ds.length c)/\bC (fresh w w') (.slice d ds.length c) ds/\Bw w w':=by
 obtain⟨d,c,rfl,x,r⟩:=h;cases d with
 | none=>
  refine (QY).e ?_;have g:ds.length=0:=by
   grind
  have:ds=[]:=List.length_eq_zero_iff.1 g
  subst this;exact⟨none,0,rfl,Ej _ _ _,Q0 _ _⟩
 | some a=>
  refine (QX a ds.length c ((List.range ds.length).flatMap λk=>[.string (ar ds k).kind,.int .i64 (ar ds k).many]) w (nU (by intro _;rfl) _) ?_ (sU λk _ u l=>?_) q).mono ?_
  ·intro j u l
   by_cases g:0<ds.length
   ·obtain⟨b,o,n,_,t⟩:=r g;cases n;exact sT (sz:=2) (by decide) (by intro _;rfl) (λk p i hi=>by
     grind) j u l
   ·grind
  ·simp at l
   rcases l with rfl|rfl <;> rfl
  ·rintro e w' ⟨u,rfl,Ha,n⟩;obtain⟨d,m,rfl,Hb,y⟩:=qT (f:=λk=>[.string (ar ds k).kind,.int .i64 (ar ds k).many]) Ha λk p j s=>sS (by intro _;rfl) _ p s;refine⟨d,m,rfl,?_,n⟩
   by_cases g:0<ds.length
   ·grind[Re]
   ·grind[Ej]
theorem Rj{v:Value}{d:List Int}{w:World}(h:bK w v d)(r:d.length<=1000):Calls pg 66 #[v] w λe w'=>∃g c,e=.returned (.slice g d.length c)/\bK (fresh w w') (.slice g d.length c) d/\Bw w w':=by
 obtain⟨g,c,rfl,y,s⟩:=h;cases g with
 | none=>
  refine (Rc).e ?_;have l:d.length=0:=by
   grind
  have:d=[]:=List.length_eq_zero_iff.1 l
  subst this;exact⟨none,0,rfl,⟨none,0,rfl,⟨lR,Nat.zero_le _⟩,λh=>absurd h (Nat.lt_irrefl 0)⟩,Q0 _ _⟩
 | some a=>
  refine (Rb a d.length c ((List.range d.length).flatMap λk=>[.int .i64 (d.getD k 0)]) w (nU (by intro _;rfl) _) ?_ (sU λk _ u m=>?_) r).mono ?_
  ·intro j u m
   by_cases l:0<d.length
   ·obtain⟨b,o,p,_,x⟩:=s l;cases p;exact sT (sz:=1) (by decide) (by intro _;rfl) (λk q i hi=>by
     grind) j u m
   ·grind
  ·simp at m
   rcases m with rfl;rfl
  ·rintro e w' ⟨u,rfl,Ha,p⟩;obtain⟨g,n,rfl,Hb,z⟩:=qT (f:=λk=>[.int .i64 (d.getD k 0)]) Ha λk q j t=>sS (by intro _;rfl) _ q t;refine⟨g,n,rfl,?_,p⟩
   by_cases l:0<d.length
   ·grind[Rg]
   ·have:d=[]:=List.length_eq_zero_iff.1 (by omega)
    subst this;exact⟨_,_,rfl,Hb,λh=>absurd h (Nat.lt_irrefl 0)⟩
theorem Rk{v:Value}{cs:List aF}{w W0:World}(h:ba W0 v cs)(l:aR W0 w)(x:cs.length<=1000):Calls pg 63 #[v] w λe w'=>∃m c,e=.returned (.slice m cs.length c)/\(cs.length<=c/\c<=maxLen)/\(0<cs.length->∃(g:Nat) (dv:Nat->Value),m=some ⟨g,0,none⟩/\eX w' w g 6 cs.length (λk=>eu (af cs k) (dv k))/\∀k,k<cs.length->bC W0 (dv k) (af cs k).ds)/\Bw w w':=by
 obtain⟨m,c,rfl,E,C⟩:=h;cases m with
 | none=>
  refine (QZ).e ?_;have r:cs.length=0:=by
   grind
  rw[r];exact⟨none,0,rfl,⟨lR,Nat.zero_le _⟩,λh=>by omega,Q0 _ _⟩
 | some a=>
  by_cases r:0<cs.length
  ·obtain⟨b,o,dv,q,s⟩:=C r;cases q;refine (D9 ⟨b,o,none⟩ cs.length c ((List.range cs.length).flatMap λk=>eu (af cs k) (dv k)) w (nU (by intro _;rfl) _) (sT (sz:=6) (by decide) (by intro _;rfl) (λk d i hi=>by
     have y:i<(eu (af cs k) (dv k)).length:=hi;rw[Qf y];exact l.cell _ _ _ (((s.2 k d).1 i hi).trans (Qf y)))) (sU λk d u n=>?_) x).mono ?_
   ·obtain⟨D,nc,A,_⟩:=(s.2 k d).2;rw[A] at n
    simp[eu] at n
    rcases n with rfl|rfl|rfl|rfl|rfl|rfl <;> rfl
   ·rintro e w' ⟨u,rfl,Ha,q⟩;obtain⟨m,p,rfl,Hb,t⟩:=qT (f:=λk=>eu (af cs k) (dv k)) Ha λk d j z=>sS (by intro _;rfl) _ d z;refine⟨m,p,rfl,Hb,λ_=>?_,q⟩;obtain⟨g,rfl,B⟩:=t r;exact⟨g,dv,rfl,B,λk d=>(s.2 k d).2⟩
  ·refine (D9 a cs.length c [] w (by grind) (λj u n=>by simp at n) (λu n=>(List.not_mem_nil n).elim) x).mono ?_;rintro e w' ⟨u,rfl,Ha,q⟩;obtain⟨m,p,rfl,Hb,t⟩:=qT (f:=λ_=>[]) Ha (λk d j z=>by omega);exact⟨m,p,rfl,Hb,λh=>absurd h r,q⟩
theorem Rl{v:Value}{gs:List aX}{w W0:World}(h:ce W0 v gs)(l:aR W0 w)(x:gs.length<=1000):Calls pg 65 #[v] w λe w'=>∃m c,e=.returned (.slice m gs.length c)/\(gs.length<=c/\c<=maxLen)/\(0<gs.length->∃(g:Nat) (dv:Nat->Value),m=some ⟨g,0,none⟩/\eX w' w g 2 gs.length (λk=>[.int .u64 (aG gs k).cp,dv k])/\∀k,k<gs.length->(aG gs k).cp<18446744073709551616/\bK W0 (dv k) (aG gs k).dv)/\Bw w w':=by
 obtain⟨m,c,rfl,D,B⟩:=h;cases m with
 | none=>
  refine (Q8).e ?_;have s:gs.length=0:=by
   grind
  rw[s];exact⟨none,0,rfl,⟨lR,Nat.zero_le _⟩,λh=>by omega,Q0 _ _⟩
 | some a=>
  by_cases s:0<gs.length
  ·obtain⟨b,o,dv,r,q⟩:=B s;cases r;refine (Eb ⟨b,o,none⟩ gs.length c ((List.range gs.length).flatMap λk=>[.int .u64 (aG gs k).cp,dv k]) w (nU (by intro _;rfl) _) (sT (sz:=2) (by decide) (by intro _;rfl) (λk d i hi=>by
     match i,hi with
     | 0,_=>exact l.cell _ _ _ (q.2 k d).1.1
     | 1,_=>exact l.cell _ _ _ (q.2 k d).1.2.1)) (sU λk d u n=>?_) x).mono ?_
   ·obtain⟨C,nc,z,_⟩:=(q.2 k d).2;rw[z] at n
    simp at n
    rcases n with rfl|rfl <;> rfl
   ·rintro e w' ⟨u,rfl,Ha,r⟩;obtain⟨m,p,rfl,Hb,t⟩:=qT (f:=λk=>[.int .u64 (aG gs k).cp,dv k]) Ha λk d j y=>sS (by intro _;rfl) _ d y;refine⟨m,p,rfl,Hb,λ_=>?_,r⟩;obtain⟨g,rfl,A⟩:=t s;exact⟨g,dv,rfl,A,λk d=>⟨(q.2 k d).1.2.2,(q.2 k d).2⟩⟩
  ·refine (Eb a gs.length c [] w (by grind) (λj u n=>by simp at n) (λu n=>(List.not_mem_nil n).elim) x).mono ?_;rintro e w' ⟨u,rfl,Ha,r⟩;obtain⟨m,p,rfl,Hb,t⟩:=qT (f:=λ_=>[]) Ha (λk d j y=>by omega);exact⟨m,p,rfl,Hb,λh=>absurd h s,r⟩
def ve (h:ae) (cv gvv:Value):List Value:=[.string h.pod.nm,.int .i64 h.pod.pr,cv,gvv]
theorem Ek{v:Value}{hs:List ae}{w W0:World}(h:bf W0 v hs)(l:aR W0 w)(p:hs.length<=1000):Calls pg 55 #[v] w λe w'=>∃(u:Value) (cv d:Nat->Value),e=.returned u/\w'.ownsRow w 101 4 u hs.length ((List.range hs.length).flatMap λk=>ve (ah hs k) (cv k) (d k))/\(∀k,k<hs.length->ba W0 (cv k) (ah hs k).pod.cs/\ce W0 (d k) (ah hs k).gs)/\Bw w w':=by
 obtain⟨r,c,rfl,z,s⟩:=h;cases r with
 | none=>
  refine (Ra).e ?_;have j:hs.length=0:=by
   grind
  rw[j];exact⟨_,λ_=>.nilIface,λ_=>.nilIface,rfl,⟨rfl,.inl ⟨rfl,rfl⟩⟩,λk f=>by omega,Q0 _ _⟩
 | some a=>
  by_cases j:0<hs.length
  ·obtain⟨b,o,cv,d,n,g⟩:=s j;cases n;refine (Ed ⟨b,o,none⟩ hs.length c ((List.range hs.length).flatMap λk=>ve (ah hs k) (cv k) (d k)) w (nU (by intro _;rfl) _) (sT (sz:=4) (by decide) (by intro _;rfl) (λk f i hi=>by
     match i,hi with
     | 0,_=>exact l.cell _ _ _ (g.2 k f).1.1
     | 1,_=>exact l.cell _ _ _ (g.2 k f).1.2.1
     | 2,_=>exact l.cell _ _ _ (g.2 k f).1.2.2.1
     | 3,_=>exact l.cell _ _ _ (g.2 k f).1.2.2.2)) (sU λk f u m=>?_) p).mono ?_
   ·obtain⟨y,nc,q,_⟩:=(g.2 k f).2.1;obtain⟨t,x,Hb,_⟩:=(g.2 k f).2.2;rw[q,Hb] at m
    simp[ve] at m
    rcases m with rfl|rfl|rfl|rfl <;> rfl
   ·rintro e w' ⟨u,rfl,Ha,n⟩;exact⟨u,cv,d,rfl,Ha,λk f=>(g.2 k f).2,n⟩
  ·simp_all[Ed]
theorem Rm{v:Value}{gs:List aX}{w:World}(h:ce w v gs)(M:gs.length<=1000)(q:∀k,k<gs.length->(aG gs k).dv.length<=1000):Calls pg 30 #[v] w λe w'=>∃o c,e=.returned (.slice o gs.length c)/\ce (fresh w w') (.slice o gs.length c) gs/\Bw w w':=by
 have Hp:=qI (Rl h (aR.refl _) M);have E:=qI q;obtain⟨L,c0,rfl,C,_⟩:=h;clear C q
 go_enter func30,ntmps30
 go_wp2
 refine Hp.o.mono ?_;rintro e Q ⟨o,c,rfl,Hk,D,Hi⟩;have Hj:=qI Hk;obtain⟨g,dv,Hs⟩:∃(g:Nat) (dv:Nat->Value),0<gs.length->o=some ⟨g,0,none⟩/\eX Q w g 2 gs.length (λk=>[.int .u64 (aG gs k).cp,dv k])/\∀k,k<gs.length->(aG gs k).cp<18446744073709551616/\bK w (dv k) (aG gs k).dv:=by
  by_cases x:0<gs.length
  ·simp_all
  ·simp_all
 have z:=qI Hs;have Hy:=qI Hi;clear Hk D Hs Hi Hp
 go_wp2
 go_loopw [9] (λi wr=>∃(k:Nat) (m:Nat->Value),k<=gs.length/\i=.int .i64 k/\Bw w wr/\Hu (0<gs.length->eX wr w g 2 gs.length (λj=>[.int .u64 (aG gs j).cp,m j]))/\Hu (∀j,j<k->bK (av (λb=>b<w.heap.size\/b=g) wr) (m j) (aG gs j).dv)/\Hu (∀j,k<=j->m j=dv j)) (λi _=>gs.length - (intOf i).toNat)
 exact⟨0,dv,by omega,rfl,Hy,λh=>(z.o h).2.1,λj r=>by omega,λj _=>rfl⟩
 ·obtain⟨k,m,S,rfl,f,Hh,Hf,He⟩:=hrel;have A:=qI f
  by_cases a:k<gs.length
  ·obtain⟨rfl,_,Hl⟩:=z.o (by omega);have Hb:=Hh.o (by omega);have R:cl wr g (k*2) (.int .u64 (aG gs k).cp):=Hb.cell k a 0 (by decide);have K:cl wr g (k*2+1) (dv k):=by rw[<- He.o k (lR)];exact Hb.cell k a 1 (by decide)
   have Hc:=(Hl k a).2;obtain⟨u,t,Hx,_⟩:=id Hc;rw[Hx] at K Hc;have y:=f.alloc f.size (.cells #[.int .u64 (aG gs k).cp,.slice u (aG gs k).dv.length t] 123);have H:(wr.alloc (.cells #[.int .u64 (aG gs k).cp,.slice u (aG gs k).dv.length t] 123)).heap.size=wr.heap.size+1:=by simp
   have Hw:=qI (Rj (Hc.below y) (E.o k a));have U:=qI y;have X:=Hb.lt;have P:=Hb.base;have G:=f.size;have Hv:(k:Int)<(gs.length:Int):=by omega
   clear Hb Hl Hc f Hx y;generalize hcp:(aG gs k).cp=cp at *;have Z:=qI hcp;have V:Hu ((aG gs k).dv=(aG gs k).dv):=rfl;clear hcp;generalize hxs:(aG gs k).dv=d at *;have I:=qI hxs;clear hxs
   go_wp2
   refine Hw.o.mono ?_;rintro e n ⟨l,nc,rfl,Hq,Hg⟩;have Hn:=((Q0 wr wr).alloc (lR) _).trans (Hg.mono (by simp));have Ha:=(Hh.o (by omega)).below Hn;have W:cl n g (k*2+1) (m k):=Ha.cell k a 1 (by decide);have f1:=Ha.free (k*2+1);have Ht:=qI Hn;have Hz:=qI Hq;have N:=qI Ha;have Y:wr+1<=n.heap.size:=by have:=Hg.size;simp at this;omega
   clear Hq Hg Hn Ha Hw
   go_wp2
   have Hr:Hu (∀b,b≠g->(n.setCell ⟨g,k*2+1,none⟩ (.slice l d.length nc)).heap[b]?=n.heap[b]?):=λb f=>set_other f
   have Hm:(n.setCell ⟨g,k*2+1,none⟩ (.slice l d.length nc)).heap.size=n.heap.size:=by simp
   have O:=qI (N.o.set k 1 a (by decide) (.slice l d.length nc) (λj=>[.int .u64 (aG gs j).cp,if j=k then .slice l d.length nc else m j]) (λi _ hi=>by simp[hi]) (λi hi=>by
    grind) rfl)
   have B:=qI ((A.o.trans (Ht.o.mono G)).setCell (p:=⟨g,k*2+1,none⟩) P (.slice l d.length nc));generalize n.setCell ⟨g,k*2+1,none⟩ (.slice l d.length nc)=T at *
   go_roundw
   case rel=>
    refine⟨k+1,λj=>if j=k then .slice l d.length nc else m j,by omega,by go_num,B,λ_=>O.o,λj r=>?_,λj r=>?_⟩
    ·by_cases s:j=k
     ·subst s;dsimp only;rw[if_pos rfl,I.o];refine Hz.o.le (bF (λb Hi Hg=>?_) (by omega));rw[H] at Hg;exact⟨by omega,Hr.o b (by omega)⟩
     ·dsimp only;rw[if_neg s];refine (Hf.o j (by omega)).le (bF (λb Hi Hg=>⟨Hg,?_⟩) (by rw[Hm];omega));rw[Hr.o b (by omega)];exact Ht.o.block b Hi
    ·dsimp only;rw[if_neg (by omega)];exact He.o j (by omega)
   case measure=>simp[intOf];omega
  ·have F:k=gs.length:=by omega
   subst F;have Ho:Hu (ce (fresh w wr) (.slice o gs.length c) gs):=by
    unfold Hu
    by_cases x:0<gs.length
    ·obtain⟨J,_,Hl⟩:=z.o x;rw[J];exact Rh (Hh.o x) rfl Hj λj r=>⟨(Hl j r).1,(Hf.o j r).le (bF (λb _ Hg=>⟨by omega,rfl⟩) (lR))⟩
    ·exact⟨o,c,rfl,Hj,λh=>absurd h x⟩
   go_wp2
   go_ret;exact⟨o,c,rfl,Ho,A⟩
