import Derived.Test.YtjlblidnfebmiaaGreatDoorY19
import Derived.Test.YtjlblidnfebmiaaGreatDoorY10
set_option maxRecDepth 100000
set_option maxHeartbeats 16000000
open Go Go.RowKit Go.Shelf
attribute [local go_sem] Oper.semAt_some
open Go.Proofs.Tryz
namespace Go.Proofs.YtjlblidnfebmiaaGreatDoor
variable{A W W' W6 X w:World}{B base cap g gcap k m:Nat}{K:Nat->Prop}{b:aZ}{d:Bool}{dv nv v v0 v1:Value}{dvs:List Int}{el:List Hp}{hs:List ae}{l:Int}{la la':Hp}{o:Obj}{t:ByteArray}{wl:List (List (List UInt8))}{ws:List (List UInt8)}
theorem DS(h:g7 W base v el la)(c:Apart K W W')(e:∀j,K j->j<base):g7 W' base v el la:=by
 have d:∀j,base<=j->¬ K j:=λj a f=>by have:=e j f;omega
 have Ha:∀p,g6 W base (cf base v la) p->g6 W' base (cf base v la) p:=λp b=>
  b.apart c (λj a=>d j a.1) (λj _ a=>a) (λj a=>d j (b.rc.lt j a).1) λj a=>d j (b.rg.lt j a).1
 exact⟨kM h.row c λj a=>d j (h.row.lt j a).1,λp b=>⟨Ha p (h.hel p b).1,(h.hel p b).2⟩,Ha _ h.hla,h.vc,h.vg,h.cg⟩
def jY (W:World) (base:Nat) (v:Value) (hs:List ae):Prop:=(hs=[]/\v=.slice none 0 0)\/∃el la,g7 W base v el la/\hs=(el++[la]).map Hp.hd
theorem jY.apart(h:jY W base v hs)(a:Apart K W W')(b:∀j,K j->j<base):jY W' base v hs:=by
 rcases h with h|⟨c,la,h,e⟩
 ·exact .inl h
 ·exact .inr ⟨c,la,DS h a b,e⟩
theorem jY.plain(h:jY W base v hs):bf W v hs:=by
 rcases h with⟨rfl,rfl⟩|⟨a,la,h,rfl⟩
 ·exact⟨none,0,rfl,⟨lR,by unfold maxLen;omega⟩,λh=>by simp at h⟩
 ·exact h.plain
theorem jY.slice{v:Value}(h:jY W base v hs):∃a c,v=.slice a hs.length c:=by
 rcases h with⟨rfl,rfl⟩|⟨d,la,h,rfl⟩
 ·simp
 ·obtain⟨a,c,b,_⟩:=qK h.row;exact⟨a,c,by rw[b];simp⟩
theorem PG(w:World)(nm:ByteArray)(pr:Int)(t:TypeId):∀j u,(fJ ⟨nm,pr,[],[],(),.slice none 0 0⟩)[j]?=some u->(w.alloc (.cells #[nm,pr,(),()] t)).cell? ((w.heap.size:Addr).add j)=some u:=by
 simp[Addr.add_lit,fJ]
theorem PH(nm:ByteArray)(pr:Int):∀u∈fJ ⟨nm,pr,[],[],(),.slice none 0 0⟩,u.oneCell'=true:=by
 intro u a
 simp[fJ] at a
 rcases a with rfl|rfl|rfl <;> rfl
theorem DT:(prog.info? 101).map (λi=>(i.zero,i.size,i.bytes))=some (some (.agg #[ByteArray.empty,(0:Int),(),()]),4,72):=by kernel_rfl
theorem jY.push(h:jY W base v hs):∃f,W.ownsRow base 101 4 v hs.length f/\∀(o:Obj) (b:World) (a:Value) (nm:ByteArray) (pr:Int),(W.alloc o).grownBy b v.ownBlock->b.ownsRow base 101 4 a (hs.length+1) (f++fJ ⟨nm,pr,[],[],(),.slice none 0 0⟩)->(a.ownBlock=v.ownBlock\/a.ownBlock=some (W.alloc o).heap.size)->jY b base a (hs++[⟨⟨nm,pr,[]⟩,[]⟩]):=by
 rcases h with⟨rfl,rfl⟩|⟨d,la,h,rfl⟩
 ·exact⟨[],Qw _ _ _ _,λo b a nm pr _ e _=>.inr ⟨[],_,NB (by simpa using e),rfl⟩⟩
 ·refine⟨kL (d++[la]),by simpa using h.row,λo b a nm pr g e c=>.inr ⟨d++[la],_,NA h g (by simpa using e) c,?_⟩⟩;rw[List.map_append (l₁:=d++[la])];rfl
structure sQ (w A:World) (wl:List (List (List UInt8))) (k:Nat) (W:World):Prop where
 le:k<=wl.length
 b0:Boxed W w 43 (.slice none 0 0)
 b1:Boxed W (w.heap.size+1) 4 false
 held:∃v hs,Boxed W (w.heap.size+1+1) 43 v/\jY W (A.heap.size+2) v hs/\fp cB cP [] (wl.take k)=some hs/\hs.length<=k/\∀h∈hs,h.pod.cs.length<=k/\h.gs.length<=k
 below:Below w w W
theorem sQ.apart{B C:World}(h:sQ w A wl k B)(m:A=w.heap.size+1+1+1+1)(a:Apart (λj=>j=w.heap.size+1+1+1\/j=A.heap.size+1) B C):sQ w A wl k C:=by
 obtain⟨c,g,b,⟨v,hs,d,i,e⟩,f⟩:=h;exact⟨c,a.boxed g (by omega),a.boxed b (by omega),⟨v,hs,a.boxed d (by omega),i.apart a (λj l=>by omega),e⟩,a.below f (lR) (λj l=>by omega)⟩
theorem PI(a:k<wl.length)(h:fp cB cP [] (wl.take k)=some hs):fp cB cP [] (wl.take (k+1))=fW cB cP hs (wl.getD k []):=by
 grind[Qa,uC,fp]
theorem PJ(a:k<wl.length)(h:fp cB cP [] (wl.take k)=some hs)(b:fW cB cP hs (wl.getD k [])=none):fp cB cP [] wl=none:=by
 grind[List.take_append_drop,uC,List.drop_eq_getElem_cons,fp]
theorem PK{nm:ByteArray}{pr:Int}(h:∀h∈hs,h.pod.cs.length<=k/\h.gs.length<=k):∀h∈hs++[⟨⟨nm,pr,[]⟩,[]⟩],h.pod.cs.length<=k+1/\h.gs.length<=k+1:=by
 grind
theorem DU{n:Nat}(h:g7 W base (.slice m n cap) el la){j:Nat}(b:j<4):W.cell? ⟨m,el.length*4+j,none⟩=(fJ la)[j]?:=by
 obtain⟨g,c,a,_,_,_,_,Ha⟩:=sF h.row (by omega);cases a;rw[Ha _ (by omega)]
 have:=sE fJ 4 (λx=>rfl) (el++[la]) el.length j (by simp) b
 rw[show kL (el++[la])=(el++[la]).flatMap fJ from rfl,this]
 simp
theorem PM{c:aF}{g:aX}(h:la'.hd=uB la.hd c g):lC ((el++[la]).map Hp.hd) c g=(el++[la']).map Hp.hd:=by
 grind[B8]
theorem PN(c:la'.cl.length=la.cl.length+1)(d:la'.gl.length=la.gl.length+1)(h:∀h∈(el++[la]).map Hp.hd,h.pod.cs.length<=k/\h.gs.length<=k):∀h∈(el++[la']).map Hp.hd,h.pod.cs.length<=k+1/\h.gs.length<=k+1:=by
 intro x a;rw[Qj,List.map_singleton] at a h
 rcases Qi.1 a with a|a
 ·grind
 ·rw[Qm.1 a];have b:=h la.hd (by simp);simp only[Hp.hd,Q9] at b ⊢;omega
theorem PO{d:Nat}{la:Hp}{c:aF}{cv:Value}(h:g7 W base (.slice m (el.length+1) cap) el la)(p:kJ W (cf base (.slice m (el.length+1) cap) la) nv c.ds)
  (ah:js W (cf base (.slice m (el.length+1) cap) la) dv dvs) (l:la.cv=cv) (n:(W.alloc o).grownBy W6 cv.ownBlock) (q:W6.ownsRow base 65 6 (.slice g (la.cl.length+1) gcap) (la.cl.length+1) (py la.cl++kK (c,nv)))
  (f:cv.ownBlock=some g\/g=(W.alloc o).heap.size) (k:cf base (.slice m (el.length+1) cap) la d) (i:d<W) :
  ∃a:Hp,a={ la with cl:=la.cl++[(c,nv)],cv:=.slice g (la.cl.length+1) gcap }/\g7 (W6.setCell ⟨m,el.length*4+2,none⟩ (.slice g (la.cl.length+1) gcap)) base (.slice m (el.length+1) cap) el a/\
   js (W6.setCell ⟨m,el.length*4+2,none⟩ (.slice g (la.cl.length+1) gcap)) (cf base (.slice m (el.length+1) cap) a) dv dvs/\
   Apart (λj=>base<=j) W (W6.setCell ⟨m,el.length*4+2,none⟩ (.slice g (la.cl.length+1) gcap))/\(W6.setCell ⟨m,el.length*4+2,none⟩ (.slice g (la.cl.length+1) gcap)).heap[d]?=W.heap[d]?:=by
 subst l;have Hb:(Value.slice g (la.cl.length+1) gcap).ownBlock=la.cv.ownBlock\/(Value.slice g (la.cl.length+1) gcap).ownBlock=some (W.alloc o).heap.size:=by
  rcases f with e|e
  ·exact .inl e.symm
  ·exact .inr (by rw[<- e];rfl)
 have He:(W.alloc o).heap.size=W.heap.size+1:=by simp
 have r:=h.row.lt m rfl;have Ha:Apart (λj=>la.cv.ownBlock=some j\/j=m) W (W6.setCell ⟨m,el.length*4+2,none⟩ (.slice g (la.cl.length+1) gcap)):=((pA n).wide λ_=>.inl).trans (Apart.setCell (.inr rfl) _ _ _);have Hc:∀j,cf base (.slice m (el.length+1) cap) la j->¬ (la.cv.ownBlock=some j\/j=m):=λj hf b=>by
  rcases b with b|rfl
  ·exact hf.2.2.1 b
  ·exact hf.2.1 rfl
 refine⟨_,rfl,NC rfl h p n q Hb,ah.apart Ha Hc λj s hf=>⟨hf.1,hf.2.1,λe=>?_,hf.2.2.2⟩,Ha.wide λj b=>?_,Ha.block d i (Hc d k)⟩
 ·grind
 ·rcases b with b|rfl
  ·exact (h.hla.rc.lt j b).1
  ·exact r.1
theorem PP{cp:Nat}{la a:Hp}{c:aF}{u cv:Value}(hla:a={ la with cl:=la.cl++[(c,nv)],cv:=u })(h:g7 W base (.slice m (el.length+1) cap) el a)
  (ah:js W (cf base (.slice m (el.length+1) cap) a) dv dvs) (i:cp<18446744073709551616) (f:a.gv=cv) (p:(W.alloc o).grownBy W6 cv.ownBlock) (r:W6.ownsRow base 123 2 (.slice g (la.gl.length+1) gcap) (la.gl.length+1) (pz la.gl++jV (⟨cp,dvs⟩,dv)))
  (b:cv.ownBlock=some g\/g=(W.alloc o).heap.size) (l:hs=(el++[la]).map Hp.hd) (d:∀h∈hs,h.pod.cs.length<=k/\h.gs.length<=k) :
  jY (W6.setCell ⟨m,el.length*4+3,none⟩ (.slice g (la.gl.length+1) gcap)) base (.slice m (el.length+1) cap) (lC hs c ⟨cp,dvs⟩)/\(lC hs c ⟨cp,dvs⟩).length=el.length+1/\(∀h∈lC hs c ⟨cp,dvs⟩,h.pod.cs.length<=k+1/\h.gs.length<=k+1)/\
   Apart (λj=>base<=j) W (W6.setCell ⟨m,el.length*4+3,none⟩ (.slice g (la.gl.length+1) gcap)):=by
 subst f;subst hla;subst l;have Hb:(Value.slice g (la.gl.length+1) gcap).ownBlock=la.gv.ownBlock\/(Value.slice g (la.gl.length+1) gcap).ownBlock=some (W.alloc o).heap.size:=by
  rcases b with e|e
  ·exact .inl e.symm
  ·exact .inr (by rw[<- e];rfl)
 have s:=h.row.lt m rfl;have Hc:Apart (λj=>la.gv.ownBlock=some j\/j=m) W (W6.setCell ⟨m,el.length*4+3,none⟩ (.slice g (la.gl.length+1) gcap)):=((pA p).wide λ_=>.inl).trans (Apart.setCell (.inr rfl) _ _ _);have q:=ND (c:=⟨cp,dvs⟩) rfl h ah i p r Hb;have Ha:lC ((el++[la]).map Hp.hd) c ⟨cp,dvs⟩=(el++[({ la with cl:=la.cl++[(c,nv)],cv:=u,gl:=la.gl++[(⟨cp,dvs⟩,dv)],gv:=.slice g (la.gl.length+1) gcap }:Hp)]).map Hp.hd:=PM (by simp[Hp.hd,uB]);refine⟨.inr ⟨el,_,q,Ha⟩,by rw[Ha];simp,by rw[Ha];exact PN (by simp) (by simp) d,Hc.wide λj n=>?_⟩
 rcases n with n|rfl
 ·exact (h.hla.rg.lt j n).1
 ·exact s.1
theorem Apart.masked(M:Nat->Prop)(W:World):Apart M W (av M W):=⟨rfl,rfl,rfl,by simp[cC],λ_ _ h=>cH h⟩
def PR (w:World) (t:List UInt8) (e:Ending) (w':World):Prop:=
 ∃v,e=.returned (.tuple #[v,.bool (iB t).isSome])/\(∀hs,iB t=some hs->bf (av (λj=>j<w.heap.size) w') v hs)/\(∃a n c,v=.slice a n c)/\Below w w w'
def PU (w:World) (t:List UInt8) (e:Ending) (w':World):Prop:=
 ∃v,e=.returned (.tuple #[v,.bool (iB t).isSome])/\(∀hs,iB t=some hs->bf w' v hs)/\(∃a n c,v=.slice a n c)/\Below w w w'
theorem PV{t:List UInt8}(a:k<(dM t).length):∃b:k<(iD t).length,(iD t)[k]=#[Value.string ⟨((dM t).getD k []).toArray⟩]:=⟨by rw[xt];exact a,by simp[iD,a]⟩
theorem PX(t:List UInt8):∀x∈dM t,x.length<=t.length+1:=by
 intro x a;unfold dM at a
 rcases Qi.1 a with a|a
 ·obtain⟨y,b,rfl⟩:=Qk.1 a
  have:=qH 10 t y ((List.dropLast_sublist _).subset b)
  simp;omega
 ·split at a
  ·simp at a
  ·have Ha:=qh 10 t;simp only[Qm] at a;rw[a,List.getLastD_eq_getLast?,List.getLast?_eq_some_getLast Ha,Option.getD_some]
   have:=qH 10 t _ (List.getLast_mem Ha)
   omega
theorem PY(t:List UInt8):(dM t).length<=t.length+1:=by
 grind[dM,uN,aP]
theorem PZ(x:List UInt8):(Lib.trimSuffix x [10]).length<=x.length:=Mn x [10]
theorem P0(x:List UInt8):((ByteArray.mk x.toArray).toList == [112,111,100])=decide (x=[112,111,100]):=by
 grind[Qs]
theorem P2(x:List UInt8):((ByteArray.mk x.toArray).toList == [99,111,110,116])=decide (x=[99,111,110,116]):=by
 grind[Qs]
theorem uW(a:¬ jR ws=true)(b:pi ws=true->¬ 0<hs.length):fW cB cP hs ws=none:=by
 grind[fW]
theorem DV(b:au ws 0=[112,111,100])(a:ws.length=3):jR ws=true:=by simp[jR,b,a]
theorem P3(b:au ws 0=[112,111,100])(a:ws.length=3)(c:gOf (au ws 2)=false):fW cB cP hs ws=none:=by
 grind[fW,DV,qJ]
theorem P4(b:au ws 0=[112,111,100])(a:ws.length=3)(c:gOf (au ws 2)=true):fW cB cP hs ws=some (hs++[⟨⟨⟨(au ws 1).toArray⟩,nOf (au ws 2),[]⟩,[]⟩]):=by
 unfold fW;rw[if_pos (DV b a),qJ,c];rfl
theorem P5(l:List (List UInt8)):∀a:Nat,a<18446744073709551616->(m8 a l).1<18446744073709551616:=by
 induction l with
 | nil=>intro a h;exact h
 | cons x r ih=>
  intro a h;unfold m8;cases hs:iR x with
  | none=>show (0:Nat)<_;omega
  | some p=>
   obtain⟨f,u⟩:=p;have hle:=CR f u hs;dsimp only
   split
   ·omega
   ·exact ih _ (Nat.or_lt_two_pow (n:=64) h (CS _ _ (by omega)))
theorem P7{l:List UInt8}:gZ l<18446744073709551616:=by
 grind[gZ,ef,P5]
theorem DW(h:okC ws=true):(gOf (au ws 2)=true/\gOf (au ws 3)=true)/\(gOf (au ws 4)=true/\gOf (au ws 5)=true)/\(∃ds,cG cP (au ws 6)=some ds)/\kI (au ws 7)=true/\∃a,cG cB (au ws 8)=some a:=by
 simp_all[okC,Option.isSome_iff_exists]
theorem P9{ds:List ak}{a:List Int}(h:okC ws=true)(b:cG cP (au ws 6)=some ds)(c:cG cB (au ws 8)=some a) :
  qA cB cP ws=some (⟨⟨(au ws 1).toArray⟩,nOf (au ws 2),nOf (au ws 3),nOf (au ws 4),nOf (au ws 5),ds⟩,⟨gZ (au ws 7),a⟩):=by
 grind[DW,qA,qJ,CV]
theorem Qy(h:okC ws=false):qA cB cP ws=none:=by
 grind[qA,okC,CV,gOf,cB]
theorem DX(b:au ws 0=[99,111,110,116])(a:ws.length=9):pi ws=true/\jR ws=false:=by grind[pi,jR]
theorem Qz(b:au ws 0=[99,111,110,116])(a:ws.length=9)(c:okC ws=false):fW cB cP hs ws=none:=by
 simp_all[DX,fW,Qy]
theorem QA(f:au ws 0=[99,111,110,116])(g:ws.length=9)(b:okC ws=true)(d:0<hs.length):∃ds a,cG cP (au ws 6)=some ds/\cG cB (au ws 8)=some a/\gZ (au ws 7)<18446744073709551616/\
  fW cB cP hs ws=some (lC hs ⟨⟨(au ws 1).toArray⟩,nOf (au ws 2),nOf (au ws 3),nOf (au ws 4),nOf (au ws 5),ds⟩ ⟨gZ (au ws 7),a⟩):=by
 obtain⟨e,h⟩:=DX f g;obtain⟨_,_,⟨ds,ah⟩,_,⟨a,c⟩⟩:=DW b;refine⟨ds,a,ah,c,P7,?_⟩;unfold fW;rw[if_neg (by rw[h];simp),if_pos ⟨e,d⟩,P9 b ah c];rfl
theorem qP{p q:Nat}{s z:TypeId}(a:Apart (λ_=>False) w X)(c:Boxed w p s v0)(b:Boxed w q z v1):X.cell? p=some v0/\X.frozen? p=false/\X.cell? q=some v1/\X.frozen? q=false:=⟨(a.boxed c id).cell,(a.boxed c id).frozen,(a.boxed b id).cell,(a.boxed b id).frozen⟩
theorem qQ{d:World}{t:List UInt8}{a:Act}(b:Apart (λ_=>False) d X)(e:Boxed d w 43 v0)(f:Boxed d (w.heap.size+1) 4 v1)(i:Bw w d)(g:A+2<=d.heap.size)(o:A=w.heap.size+1+1+1+1)(m:iB t=none) :
  B6 (λj=>j=w.heap.size+1+1+1) A (λW=>sQ w A wl k W) (λc W=>c=Code.ret/\Boxed W w 43 ()/\Boxed W (w.heap.size+1) 4 false/\Bw w W/\iB t=none) d Exit.ret a ((X.setCell w ()).setCell (w.heap.size+1:Nat) false):=by
 have l:=b.boxed e id;have g1:=b.boxed f id;have Ha:=((b.wide (K':=λj=>j=w.heap.size\/j=w.heap.size+1) λ_ h=>h.elim).trans (Apart.setCell (.inl rfl) X 0 (Value.slice none 0 0))).trans (Apart.setCell (.inr rfl) _ 0 (Value.bool false));exact⟨λj n=>Ha.block j (by omega) (by omega),rfl,(Apart.setCell (K:=λj=>j=w.heap.size+1) rfl _ 0 _).boxed (l.set _) (by omega),((Apart.setCell (K:=λj=>j=w.heap.size) rfl _ 0 _).boxed g1 (by omega)).set _,Ha.below i (lR) (λj n=>by omega),m⟩
abbrev jx:=λ(x0:ByteArray) (x1 x2 x3 x4:Int) (x5:Option Addr) (x6 x7:Nat)=>(.cells #[x0,x1,x2,x3,x4,.slice x5 x6 x7] 65:Obj)
abbrev ii:=λ(x0:ByteArray) (x1:Int)=>(.cells #[x0,x1,.slice none 0 0] 49:Obj)
abbrev yl:=λ(x0:ByteArray) (x1:Int)=>(.cells #[x0,x1,.slice none 0 0,.slice none 0 0] 101:Obj)
theorem DY(t:List UInt8){w:World}(ht:t.length<=7000)(hm:dH w) :
  Calls pg 157 #[.string ⟨t.toArray⟩] w (PR w t):=by
 obtain⟨i0,hi,JV,JF,JA⟩:=info_parts DT;have x0:=((Boxed.new w 43 ()).alloc (.cells #[false] 4)).alloc (.cells #[()] 43);have x1:=(Boxed.new (w.alloc (.cells #[()] 43)) 4 false).alloc (.cells #[()] 43);have x2:=Boxed.new ((w.alloc (.cells #[()] 43)).alloc (.cells #[false] 4)) 43 ();simp only[World.size_alloc] at x1 x2;have hF:=qI ((((Q0 w w).alloc (lR) (.cells #[()] 43)).alloc (by simp) (.cells #[false] 4)).alloc (by simp;omega) (.cells #[()] 43));have Jq:(((w.alloc (.cells #[()] 43)).alloc (.cells #[false] 4)).alloc (.cells #[()] 43)).heap.size=w.heap.size+1+1+1:=by simp
 have X0:=qI x0;have X1:=qI x1;have X2:=qI x2;have HM:=qI hm;clear x0 x1 x2 hm;refine (callsIn_wide (n:=3)).1 ?_;refine callsIn_of_wp_marks func157 rfl trivial ?_ rfl;simp only[ntmps157,List.size_toArray,Qg,List.length_nil,Nat.reduceAdd,Nat.reduceSub,Array.replicate_succ,Array.replicate_zero,List.push_toArray,List.append_toArray,List.nil_append,List.cons_append]
 gi_wp2
 generalize (((w.alloc (.cells #[()] 43)).alloc (.cells #[false] 4)).alloc (.cells #[()] 43))=V at *;refine⟨trivial,(callsIn_wide.2 (LX V)).mono ?_⟩;rintro e A0 ⟨rfl,rfl⟩;have Jf:=Boxed.new V 9 (.string ⟨t.toArray⟩);have HX:=(Q0 V V).alloc (lR) (.cells #[.string ⟨t.toArray⟩] 9);have Hg:(V.alloc (.cells #[.string ⟨t.toArray⟩] 9)).heap.size=V.heap.size+1:=by simp
 generalize V.alloc (.cells #[.string ⟨t.toArray⟩] 9)=A at *;have JB:=hF.t HX;have j6:=qI (show Boxed A _ _ _ from (HX.block _ X0.o.lt).trans X0.o);have ZQ:=qI (show Boxed A _ _ _ from (HX.block _ X1.o.lt).trans X1.o);have In:=qI (show Boxed A _ _ _ from (HX.block _ X2.o.lt).trans X2.o);have He:=LY 2 (by omega) (h:=V.heap.size) t (w:=A) Jf (by omega);rw[Jq] at Hg He ⊢;clear HX X0 X1 X2 hF Jf Jq;have hY:=qI (PF t);have hr:=qI (PX t);have Jh:=qI (PY t);have hz:Hu (∀k,(H:k<(dM t).length)->∃JL:k<(iD t).length,(iD t)[k]=#[Value.string ⟨((dM t).getD k []).toArray⟩]):=λk H=>PV H
 have hH:=qI (xt t);have hh:Hu (∀x∈iD t,x.size=1):=by
  intro x G;obtain⟨y,_,rfl⟩:=Qk.1 G;rfl
 have hw:Hu (∀k,k<(dM t).length->(nS t).getD k []=aP 32 (Lib.trimSuffix ((dM t).getD k []) [10])):=λk H=>by simp[nS,H]
 have H6:Hu ((nS t).length=(dM t).length):=by unfold Hu nS;simp
 generalize nS t=wl at *;generalize hxs:dM t=O at *;clear hxs
 gi_wp2
 refine xo rfl (by omega) (gf:=243) rfl trivial (enters_of func243 (by kernel_rfl) rfl) (K:=λj=>j=w.heap.size+1+1+1) (ts:=iD t) (λj i=>by omega) He hh.o
  (λk W=>sQ w A wl k W) (λc W=>c=.ret/\Boxed W w 43 ()/\Boxed W (w.heap.size+1) 4 false/\Bw w W/\iB t=none)
  (λk B C hi Hc=>hi.apart Hg Hc) (λc B C G Hc=>⟨G.1,Hc.boxed G.2.1 (by omega),Hc.boxed G.2.2.1 (by omega),Hc.below G.2.2.2.1 (lR) (λj i=>by omega),G.2.2.2.2⟩)
  ⟨Nat.zero_le _,j6.o,ZQ.o,⟨_,[],In.o,.inl ⟨rfl,rfl⟩,rfl,lR,by simp⟩,JB.o⟩
  (λk=>{ tmps:=List.toArray (Value.string ⟨t.toArray⟩ :: undef :: Value.pointer (some ⟨w,0,none⟩) :: Value.pointer (some ⟨w.heap.size+1,0,none⟩) :: Value.pointer (some ⟨w.heap.size+1+1,0,none⟩) :: Value.string ⟨(O.getD k []).toArray⟩ :: undef :: undef :: undef :: undef :: undef :: undef :: undef :: Value.string ⟨t.toArray⟩ :: Value.func (Fn.func 243) #[] #[Value.pointer (some ⟨w.heap.size+1+1+1,0,none⟩)] :: Value.string ⟨(O.getD k []).toArray⟩ :: undef :: undef :: undef :: undef :: undef :: undef :: undef :: undef :: undef :: undef :: undef :: undef :: undef :: undef :: undef :: undef :: undef :: undef :: undef :: undef :: undef :: undef :: undef :: undef :: undef :: undef :: undef :: undef :: undef :: undef :: undef :: undef :: undef :: undef :: undef :: undef :: undef :: undef :: undef :: undef :: undef :: undef :: undef :: undef :: undef :: undef :: undef :: undef :: undef :: undef :: undef :: undef :: undef :: undef :: undef :: undef :: undef :: undef :: undef :: undef :: undef :: undef :: undef :: undef :: undef :: undef :: undef :: undef :: undef :: undef :: undef :: undef :: undef :: undef :: undef :: undef :: []),defers:=[] }) ?assign ?body ?done ?stop
 case assign=>
  intro l k H W R hR;rw[hH.o] at H;obtain⟨JL,e⟩:=hz.o k H;rw[e];clear e;generalize O.getD k []=x at *
  gi_wp2
  exact hR
 case body=>
  intro l k W H h9 hI;rw[hH.o] at H;obtain⟨hle,HP,HL,⟨v,hs,Hi,U,Z,H9,Jr⟩,Hm⟩:=hI;have h8:=qI Jr;clear Jr;have Js:O.getD k []∈O:=by simp[H]
  have JI:=hr.o _ Js;have J1:=Jh.o;have JM:=PZ (O.getD k []);have he:=qI (PI (by rw[H6.o];exact H) Z);have Hy:Hu (fW cB cP hs (wl.getD k [])=none->iB t=none):=λL=>by rw[hY.o];exact PJ (by rw[H6.o];exact H) Z L
  rw[hw.o k H] at he Hy;generalize O.getD k []=x at *;have hO:=qI (Tryz.strings_TrimSuffix ⟨x.toArray⟩ ⟨#[10]⟩ W (by show x.length<=_;omega));rw[show (ByteArray.mk x.toArray).data.toList=x by simp,show (ByteArray.mk #[10]).data.toList=[10] from rfl] at hO;generalize Lib.trimSuffix x [10]=tr at *;have Jn:=qI (Py tr (w:=W) (by omega) (HM.o.below Hm));have hP:=List.length_pos_iff.2 (qh 32 tr);have hE:Hu (∀y∈aP 32 tr,y.length<=10000):=λy hy=>by have:=qH 32 tr y hy;omega
  generalize aP 32 tr=ws at *;have Hj:=qI HP;have Hk:=qI HL;have HK:=qI Hi;have ho:=qI U;have Hb:=qI Hm;have Hx:=qI h9;clear Z He hz hh hr Jh hw hY Js JI JM;obtain⟨N,vc,hv⟩:=U.slice;subst hv;clear HP HL Hi U Hm hle
  gi_wp2
  refine⟨trivial,(CallsIn.inRound l (callsIn_wide.2 hO.o)).mono ?_⟩;rintro e M ⟨rfl,JD⟩;subst JD
  gi_wp2
  refine⟨trivial,(CallsIn.inRound l (callsIn_wide.2 Jn.o)).mono ?_⟩;rintro e W1 ⟨rfl,hL,hU⟩;have Ha:Apart (λ_=>False) M W1:=Apart.of_below hU;have s0:=hL.2 0 hP;have ha:=qI hL;have Jt:=qI hU;clear hL hU Jn hO;have q0:=P0 (au ws 0);have X:=P2 (au ws 0)
  by_cases T:au ws 0=[112,111,100]
  ·rw[Qc T] at q0;have Ix:decide (au ws 0=[99,111,110,116])=false:=Q7 (by rw[T];decide);rw[Ix] at X
   by_cases u:ws.length=3
   ·rcases two (gOf (au ws 2)) with hg|hg
    ·skip
     have hW:=qI (he.o.trans (P4 T u hg));have HG:=qI (DC (b:=M.heap.size) ws.length (ws:=ws) (w:=W1) ha.o u hE.o);rw[hg] at HG;rw[u] at HG;generalize hnm:ByteArray.mk (au ws 1).toArray=nm at *;generalize nOf (au ws 2)=pr at *
     gi_wp2
     refine⟨trivial,(CallsIn.inRound l (callsIn_wide.2 HG.o)).mono ?_⟩;rintro e d ⟨rfl,Hi⟩;have Hh:Apart (λ_=>False) M (d.alloc (ii nm pr)):=(Ha.trans (Apart.of_below Hi)).trans (Apart.alloc _ _ _);have p0:(d.alloc (ii nm pr)).cell? d=some (.string nm):=by simp
     have p1:(d.alloc (ii nm pr)).cell? ⟨d,1,none⟩=some (.int .i64 pr):=by simp
     have p2:(d.alloc (ii nm pr)).cell? ⟨d,2,none⟩=some ():=by simp
     have Jo:A.heap.size+2<=(d.alloc (ii nm pr)).heap.size:=Q5 h9 Hh.size;clear Hi s0 q0 X;have I:=Hh.boxed HK.o id;have c2:=I.cell;have H0:=ho.o.apart Hh λj i=>i.elim;obtain⟨ys,H2,Hw⟩:=H0.push;have JU:=qI Hw;have J4:hs.length+1<=10000:=by omega
     have HJ:=PG (d.alloc (ii nm pr)) nm pr 101;rw[show (d.alloc (ii nm pr)).heap.size=d.heap.size+1 by simp] at HJ;have Jw:=qI HJ;clear HJ;have JQ:A.heap.size+2<=((d.alloc (ii nm pr)).alloc (yl nm pr)).heap.size:=Q5 Jo (((Q0 _ (d.alloc (ii nm pr))).alloc (lR) _).size);clear Hw H0;generalize hhn:hs.length=L at *
     gi_wp2_with (gi_at_builtin;refine wpListIn_append_own_at _ rfl _ _ 43 rfl (A.heap.size+2) 101 i0 _ 4 72 underlying43 hi JV JF JA rfl (by decide) _ _ _ rfl (H2.alloc _) ⟨_,0,none⟩ 1 1 (fJ ⟨nm,pr,[],[],(),.slice none 0 0⟩) rfl rfl Jw.o (PH nm pr) (by unfold maxLen;omega) (by omega) JQ ?_;intro v' W4 Hv Ho _ H7;obtain⟨f,nc,rfl⟩:=fI Hv;have Jc:((d.alloc (ii nm pr)).alloc (yl nm pr)).grownBy W4 (Value.slice N L vc).ownBlock:=Ho;have hZ:(Value.slice f (L+1) nc).ownBlock=(Value.slice N L vc).ownBlock\/(Value.slice f (L+1) nc).ownBlock=some ((d.alloc (ii nm pr)).alloc (yl nm pr)).heap.size:=H7;clear Ho H7;have HW:=xO H2 Jc;have g4:=HW.boxed I (by omega);have c4:=g4.cell;have f4:=g4.frozen)
     have Hc:Apart (λj=>A.heap.size+2<=j\/j=w.heap.size+1+1) M (W4.setCell ⟨w.heap.size+1+1,0,none⟩ (.slice f (L+1) nc)):=(((Hh.wide λ_ h=>h.elim).trans (HW.wide λ_=>.inl))).trans (Apart.setCell (.inr rfl) _ _ _);have JN:=Hx.o;refine⟨λj i=>Hc.block j (by omega) (by omega),by rw[H6.o];omega,Hc.boxed Hj.o (by omega),Hc.boxed Hk.o (by omega),⟨_,_,g4.set _,(JU.o _ _ _ nm pr Jc Hv hZ).apart (Apart.setCell (K:=λj=>j=w.heap.size+1+1) rfl W4 0 _) (λj i=>by omega),hW.o,by grind,PK h8.o⟩,Hc.below Hb.o (lR) (λj i=>by omega)⟩
    ·skip
     have Hq:=qI (Hy.o (P3 T u hg));have HG:=qI (DC (b:=M.heap.size) ws.length (ws:=ws) (w:=W1) ha.o u hE.o);rw[hg] at HG;rw[u] at HG;generalize hnm:ByteArray.mk (au ws 1).toArray=nm at *;generalize nOf (au ws 2)=pr at *
     gi_wp2
     refine⟨trivial,(CallsIn.inRound l (callsIn_wide.2 HG.o)).mono ?_⟩;rintro e d ⟨rfl,Hi⟩;have Hh:Apart (λ_=>False) M (d.alloc (ii nm pr)):=(Ha.trans (Apart.of_below Hi)).trans (Apart.alloc _ _ _);have p0:(d.alloc (ii nm pr)).cell? d=some (.string nm):=by simp
     have p1:(d.alloc (ii nm pr)).cell? ⟨d,1,none⟩=some (.int .i64 pr):=by simp
     have p2:(d.alloc (ii nm pr)).cell? ⟨d,2,none⟩=some ():=by simp
     have Jo:A.heap.size+2<=(d.alloc (ii nm pr)).heap.size:=Q5 h9 Hh.size;clear Hi s0 q0 X;obtain⟨c0,f0,c1,f1⟩:=qP Hh Hj.o Hk.o
     gi_wp2
     exact qQ Hh Hj.o Hk.o Hb.o Hx.o Hg Hq.o
   ·have JS:((ws.length:Int) == 3)=false:=by simp;omega
    have Hq:=qI (Hy.o (uW (by simp[jR,u]) (λh=>by grind[pi])));obtain⟨c0,f0,c1,f1⟩:=qP Ha Hj.o Hk.o
    gi_wp2
    exact qQ Ha Hj.o Hk.o Hb.o Hx.o Hg Hq.o
  ·rw[Q7 T] at q0
   by_cases hc:au ws 0=[99,111,110,116]
   ·rw[Qc hc] at X
    by_cases E:ws.length=9
    ·by_cases h0:0<hs.length
     ·rcases two (okC ws) with H4|H4
      ·skip
       obtain⟨ds,j1,Je,H3,JX,Ht⟩:=QA hc E H4 h0;have hW:=qI (he.o.trans Ht);clear Ht;have Hn:=qI (DI (b:=M.heap.size) ws.length (ws:=ws) (w:=W1) ha.o E hE.o (HM.o.below (Hb.o.trans (Jt.o.mono Hb.o.size))));unfold yi at Hn;rw[H4] at Hn;rw[E] at Hn;have I:=Ha.boxed HK.o id;have c2:=I.cell;rw[Je] at Hn;rw[H3] at Hn;generalize ByteArray.mk (au ws 1).toArray=nm at *;generalize nOf (au ws 2)=n2 at *;generalize nOf (au ws 3)=o at *;generalize nOf (au ws 4)=p at *;generalize nOf (au ws 5)=q at *;generalize gZ (au ws 7)=cp at *
       gi_wp2
       refine⟨trivial,(CallsIn.inRound l (callsIn_wide.2 Hn.o)).mono ?_⟩;rintro e d ⟨nv,dv,rfl,hf,hB,⟨f,s,nc,rfl,hC⟩,⟨z,r,D,rfl,hu⟩,Hi⟩;have Hl:Apart (λ_=>False) M ((d.alloc (jx nm n2 o p q f s nc)).alloc (.cells #[.int .u64 cp,.slice z r D] 123)):=((Ha.trans (Apart.of_below Hi)).trans (Apart.alloc _ _ _)).trans (Apart.alloc _ _ _);clear s0 q0 X I c2;have Jv:=qI (hf ds rfl);have JP:=qI (hB j1 rfl);have JJ:=qI hC;have JY:=qI hu;have h2:=qI Hi;clear hf hB hC hu Hi;have g4:=Hl.boxed HK.o id
       rcases ho.o with⟨h1,_⟩|⟨J,la,Y,He⟩
       ·grind
       have HZ:hs.length=J.length+1:=by rw[He];simp
       have Jj:=qI He;clear He;have Ju:Hu (la.cl.length<=100000/\la.gl.length<=100000):=by
        have S:=h8.o la.hd (by rw[Jj.o];simp);simp only[Hp.hd,Q9] at S;exact⟨by omega,by omega⟩
       have Jm:=qI H9;clear H9 he Hy Hn h0 Je H3;generalize hs.length=L at *;subst HZ;obtain⟨m,Z1,hv,J3,J2,h7,Jx,_⟩:=sF Y.row (by omega);cases hv;have hq:=DS Y Hl λj i=>i.elim;have HQ:=qI hq;obtain⟨ca,cc,hA,_,_⟩:=qK Y.hla.rc;obtain⟨ga,gc,JH,_,_⟩:=qK Y.hla.rg;have HD:=Q1 h7 Hl.size;have JG:=Ha.size;have JZ:=h2.o.size;have hM:Hu (∀b,W1.heap.size<=b->cf (A.heap.size+2) (.slice m (J.length+1) vc) la b):=λb S=>⟨by omega,λe=>by have e2:some m=some b:=e;injection e2 with e2;omega,λe=>by have:=(Y.hla.rc.lt b e).2;omega,λe=>by have:=(Y.hla.rg.lt b e).2;omega⟩
       have HI:Bw d ((d.alloc (jx nm n2 o p q f s nc)).alloc (.cells #[.int .u64 cp,.slice z r D] 123)):=((Q0 _ _).alloc (lR) _).alloc (by simp) _;have Jy:=qI (kJ.of (Q:=cf (A.heap.size+2) (.slice m (J.length+1) vc) la) (Jv.o.below HI) ⟨_,_,_,rfl,JJ.o⟩ λb S _=>hM.o b S);have JC:=qI (js.of (Q:=cf (A.heap.size+2) (.slice m (J.length+1) vc) la) (JP.o.below HI) ⟨_,_,_,rfl,JY.o⟩ λb S _=>hM.o b S);have r2:((d.alloc (jx nm n2 o p q f s nc)).alloc (.cells #[.int .u64 cp,.slice z r D] 123)).cell? ⟨m,J.length*4+2,none⟩=some la.cv:=DU hq (j:=2) (by omega);have j2:=hq.row.frozenAt (J.length*4+2);rw[hA] at r2;have c4:=g4.cell;have e0:((d.alloc (jx nm n2 o p q f s nc)).alloc (.cells #[.int .u64 cp,.slice z r D] 123)).cell? d=some (.string nm):=by simp
       have e1:((d.alloc (jx nm n2 o p q f s nc)).alloc (.cells #[.int .u64 cp,.slice z r D] 123)).cell? ⟨d,1,none⟩=some (.int .i64 n2):=by simp
       have e2:((d.alloc (jx nm n2 o p q f s nc)).alloc (.cells #[.int .u64 cp,.slice z r D] 123)).cell? ⟨d,2,none⟩=some (.int .i64 o):=by simp
       have e3:((d.alloc (jx nm n2 o p q f s nc)).alloc (.cells #[.int .u64 cp,.slice z r D] 123)).cell? ⟨d,3,none⟩=some (.int .i64 p):=by simp
       have e4:((d.alloc (jx nm n2 o p q f s nc)).alloc (.cells #[.int .u64 cp,.slice z r D] 123)).cell? ⟨d,4,none⟩=some (.int .i64 q):=by simp
       have e5:((d.alloc (jx nm n2 o p q f s nc)).alloc (.cells #[.int .u64 cp,.slice z r D] 123)).cell? ⟨d,5,none⟩=some (.slice f s nc):=by simp
       have Jb:=hq.hla.rc;rw[hA] at Jb;have hJ:=qI Jb;have HT:(Value.slice ca la.cl.length cc).ownBlock≠some m:=λe=>Y.vc m (by rw[hA];exact e) rfl
       have HU:=Ju.o.1;have Ji:=qI (Q5 Jx (Nat.le_of_lt HD));have J0:wrap64 ((J.length:Nat):Int)=J.length:=by have:=Jm.o;unfold wrap64;omega
       clear Jb HI hq
       gi_wp2
       refine Cj (Pw (c:=⟨nm,n2,o,p,q,ds⟩) (base:=A.heap.size+2) ((d.alloc (jx nm n2 o p q f s nc)).alloc (.cells #[.int .u64 cp,.slice z r D] 123)) r2 j2 e0 e1 e2 e3 e4 e5 hJ.o Ji.o HU HD HT) ?_;rintro _ W5 ⟨F,rfl,g,j5,W6,rfl,Jl,Jg,H1⟩;dsimp only;have Hz:cf (A.heap.size+2) (.slice m (J.length+1) vc) la (d.heap.size+1):=hM.o _ (by omega);obtain⟨P,HA,HO,Jp,Hr,HF⟩:=PO HQ.o Jy.o JC.o hA Jg Jl H1 Hz (by simp);have e6:((d.alloc (jx nm n2 o p q f s nc)).alloc (.cells #[.int .u64 cp,.slice z r D] 123)).cell? (d.heap.size+1:Nat)=some (.int .u64 cp):=by simp
       have e7:((d.alloc (jx nm n2 o p q f s nc)).alloc (.cells #[.int .u64 cp,.slice z r D] 123)).cell? ⟨d.heap.size+1,1,none⟩=some (.slice z r D):=by simp
       replace e6:=(World.cell?_of_block (a:=⟨d.heap.size+1,0,none⟩) HF).trans e6
       replace e7:=(World.cell?_of_block (a:=⟨d.heap.size+1,1,none⟩) HF).trans e7
       have Hs:P.gv=.slice ga la.gl.length gc:=by rw[HA];exact JH
       have hT:P.gl=la.gl:=by rw[HA]
       have JT:=qI HO;have JE:=qI Jp;have hG:=qI (Hl.wide (K':=λj=>A.heap.size+2<=j) (λ_ h=>h.elim) |>.trans Hr);have hX:=Q1 HD Hr.size;have r3:=DU HO (j:=3) (by omega);have j0:(fJ P)[3]?=some P.gv:=rfl;rw[j0,Hs] at r3;have j3:=HO.row.frozenAt (J.length*4+3);have hN:=HO.hla.rg;rw[hT,Hs] at hN;have JO:=qI hN;have h6:(Value.slice ga la.gl.length gc).ownBlock≠some m:=λe=>HO.vg m (by rw[Hs];exact e) rfl
       have h3:=Ju.o.2;have Ja:=qI (Q5 Ji.o Hr.size);clear HO Jp Hr HF hN Jl Jg H1 r2 j2 e0 e1 e2 e3 e4 e5 j0 HT HU Hz;generalize World.setCell W6 ⟨m,J.length*4+2,none⟩ (.slice g (la.cl.length+1) j5)=W5 at *
       gi_wp2
       refine Cj (Px (c:=⟨cp,j1⟩) (base:=A.heap.size+2) W5 r3 j3 e6 e7 JO.o Ja.o h3 hX h6) ?_;rintro _ W7 ⟨F2,rfl,I,j4,W8,rfl,Jk,Jd,HR⟩;dsimp only;obtain⟨H8,HY,HV,H5⟩:=PP HA JT.o JE.o JX Hs Jd Jk HR Jj.o h8.o;have hK:=qI H8;have hS:=qI HV;have Hc:Apart (λj=>A.heap.size+2<=j) M _:=hG.o.trans H5;clear H8 HV Jk Jd HR r3 j3 e6 e7 H5;generalize World.setCell W8 ⟨m,J.length*4+3,none⟩ (.slice I (la.gl.length+1) j4)=W9 at *
       gi_wp2
       have JN:=Hx.o;refine⟨λj i=>Hc.block j (by omega) (by omega),by rw[H6.o];omega,Hc.boxed Hj.o (by omega),Hc.boxed Hk.o (by omega),⟨_,_,Hc.boxed HK.o (by omega),hK.o,hW.o,by rw[HY];exact Nat.le_succ_of_le Jm.o,hS.o⟩,Hc.below Hb.o (lR) (λj i=>by omega)⟩
      ·skip
       have Hq:=qI (Hy.o (Qz hc E H4));have Hn:=qI (DI (b:=M.heap.size) ws.length (ws:=ws) (w:=W1) ha.o E hE.o (HM.o.below (Hb.o.trans (Jt.o.mono Hb.o.size))));unfold yi at Hn;rw[H4] at Hn;rw[E] at Hn;have I:=Ha.boxed HK.o id;have c2:=I.cell;generalize ByteArray.mk (au ws 1).toArray=nm at *;generalize nOf (au ws 2)=n2 at *;generalize nOf (au ws 3)=o at *;generalize nOf (au ws 4)=p at *;generalize nOf (au ws 5)=q at *;generalize gZ (au ws 7)=cp at *
       gi_wp2
       refine⟨trivial,(CallsIn.inRound l (callsIn_wide.2 Hn.o)).mono ?_⟩;rintro e d ⟨nv,dv,rfl,hf,hB,⟨f,s,nc,rfl,hC⟩,⟨z,r,D,rfl,hu⟩,Hi⟩;have Hl:Apart (λ_=>False) M ((d.alloc (jx nm n2 o p q f s nc)).alloc (.cells #[.int .u64 cp,.slice z r D] 123)):=((Ha.trans (Apart.of_below Hi)).trans (Apart.alloc _ _ _)).trans (Apart.alloc _ _ _);clear s0 q0 X I c2;obtain⟨c0,f0,c1,f1⟩:=qP Hl Hj.o Hk.o;clear hf hB hC hu Hi
       gi_wp2
       exact qQ Hl Hj.o Hk.o Hb.o Hx.o Hg Hq.o
     ·have JK:hs.length=0:=by omega
      have Hq:=qI (Hy.o (uW (by simp[jR,T]) λ_=>h0));have I:=Ha.boxed HK.o id;have c2:=I.cell;rw[JK] at c2 I;obtain⟨c0,f0,c1,f1⟩:=qP Ha Hj.o Hk.o
      gi_wp2
      exact qQ Ha Hj.o Hk.o Hb.o Hx.o Hg Hq.o
    ·have JR:((ws.length:Int) == 9)=false:=by simp;omega
     have Hq:=qI (Hy.o (uW (by simp[jR,T]) (λh=>by grind[pi])));obtain⟨c0,f0,c1,f1⟩:=qP Ha Hj.o Hk.o
     gi_wp2
     exact qQ Ha Hj.o Hk.o Hb.o Hx.o Hg Hq.o
   ·rw[Q7 hc] at X;have Hq:=qI (Hy.o (uW (by simp[jR,T]) (λh=>by grind[pi])));obtain⟨c0,f0,c1,f1⟩:=qP Ha Hj.o Hk.o
    gi_wp2
    exact qQ Ha Hj.o Hk.o Hb.o Hx.o Hg Hq.o
 case done=>
  intro W hI hD;rw[hH.o,<- H6.o] at hI;obtain⟨_,HP,HL,⟨v,hs,Hi,U,Z,_⟩,Hm⟩:=hI;rw[Qh] at Z;have HS:=qI (hY.o.trans Z);have ho:=qI U;have c2:=Hi.cell;have c1:=HL.cell;have c0:=HP.cell;have f1:=HL.frozen;have f0:=HP.frozen;have Hb:=qI Hm;have Hj:=qI HP;have Hk:=qI HL;obtain⟨N,vc,rfl⟩:=U.slice;clear Hm U He hz hh Z hr hw;generalize hs.length=hl at *
  gi_wp2
  have Hc:Apart (λj=>j=w.heap.size\/j=w.heap.size+1) W ((W.setCell w (.slice N hl vc)).setCell (w.heap.size+1:Nat) true):=(Apart.setCell (.inl rfl) _ _ _).trans (Apart.setCell (.inr rfl) _ _ _);have d0:=(Apart.setCell (K:=λj=>j=w.heap.size+1) rfl _ 0 true).boxed (Hj.o.set (.slice N hl vc)) (by omega);have d1:=((Apart.setCell (K:=λj=>j=w.heap.size) rfl W 0 (.slice N hl vc)).boxed Hk.o (by omega)).set true;have JW:=(Hc.block A (gS hD).1 (by omega)).trans hD;generalize (W.setCell w (.slice N hl vc)).setCell (w.heap.size+1:Nat) true=W5 at *;have Hf:Apart (λj=>j=A.heap.size) W5 (W5.putObj A (.deferred none)):=Apart.putObj (K:=λj=>j=A.heap.size) rfl _ _;have e1:=(Hf.boxed d0 (by omega)).cell;have e2:=(Hf.boxed d1 (by omega)).cell;have Jz:=qI (((ho.o.apart Hc (λj i=>by omega)).apart Hf (λj i=>by omega)).apart (Apart.masked (λj=>j<w.heap.size) _) (λj i=>by omega)).plain;have hV:=qI (Hf.below (Hc.below Hb.o (lR) (λj i=>by omega)) (lR) (λj i=>by omega));refine⟨by simp,.inl ⟨_,_,rfl,run_takeDeferred JW,?_⟩⟩;refine⟨.tuple #[.slice N hl vc,true],?_,.slice N hl vc,by rw[HS.o];rfl,λO G=>?_,⟨_,_,_,rfl⟩,hV.o⟩
  ·generalize W5.putObj A (Obj.deferred none)=W6 at *;rw[nO rfl];go_simp
  ·rw[HS.o] at G;cases G;exact Jz.o
 case stop=>
  rintro c W ⟨rfl,h4,h5,S,L⟩ hD;have c1:=h4.cell;have c2:=h5.cell;have HN:=qI L;have HB:=qI S;clear L S He hz hh hr hw
  gi_wp2
  have Hf:Apart (λj=>j=A.heap.size) W (W.putObj A (.deferred none)):=Apart.putObj (K:=λj=>j=A.heap.size) rfl _ _;have e1:=(Hf.boxed h4 (by omega)).cell;have e2:=(Hf.boxed h5 (by omega)).cell;have hV:=qI (Hf.below HB.o (lR) (λj i=>by omega));refine⟨by simp,.inl ⟨_,_,rfl,run_takeDeferred hD,?_⟩⟩;refine⟨.tuple #[(),false],?_,(),by rw[HN.o];rfl,λO G=>?_,⟨_,_,_,rfl⟩,hV.o⟩
  ·generalize W.putObj A (Obj.deferred none)=W6 at *;rw[nO rfl];go_simp
  ·rw[HN.o] at G;cases G
theorem QB(t:List UInt8){w:World}(c:t.length<=7000)(b:dH w):Calls pg 157 #[.string ⟨t.toArray⟩] w (PU w t):=
 (DY t c b).mono λ_ _ ⟨v,he,h,hs,hb⟩=>⟨v,he,λl a=>(h l a).le (df),hs,hb⟩
def gD:aZ:=[115,117,109,32]
def kQ (t:aZ):Int:=Lib.lastIndex t gD
def fL (t:aZ):Option aZ:=if 0<=kQ t then if t.drop (kQ t).toNat=dZ (t.take (kQ t).toNat) then some (t.take (kQ t).toNat) else none else none
def pI (t:aZ):aZ:=if 0<=kQ t then t.take (kQ t).toNat else []
theorem DZ(t:aZ)(j:Nat):Lib.occAt t gD j=true↔(t.drop j).take 4=gD:=by
 unfold Lib.occAt;rw[List.isPrefixOf_iff_prefix,List.prefix_iff_eq_take];exact⟨λh=>h.symm,λh=>h.symm⟩
theorem D0(t:aZ):(kQ t=-1/\∀j,(t.drop j).take 4≠gD)\/∃i:Nat,kQ t=i/\i+4<=t.length/\(t.drop i).take 4=gD/\∀j,i<j->(t.drop j).take 4≠gD:=by
 have Ha:∀j,t.length<j+4->(t.drop j).take 4≠gD:=λj d e=>by
  have:=congrArg List.length e
  simp[gD] at this
  omega
 unfold kQ Lib.lastIndex
 by_cases b:gD.length<=t.length
 ·rw[if_pos b];have Hb:4<=t.length:=b
  rcases Lib.lastOcc_spec t gD (t.length - gD.length+1) with⟨a,c⟩|⟨i,a,c,f,g⟩
  ·refine .inl ⟨a,λj=>?_⟩
   by_cases d:t.length<j+4
   ·exact Ha j d
   ·have:=c j (by show j<t.length - 4+1;omega)
    exact λe=>by grind[DZ]
  ·grind[DZ]
 ·grind
theorem QC{t:aZ}(h:fL t=some b):t=b++dZ b:=by
 grind[fL,List.take_append_drop]
theorem QD(b:aZ)(k:Nat):0<k->((dZ b).drop k).take 4≠gD:=by
 intro c e;have Ha:(115:UInt8)∈(dZ b).drop k:=by
  grind[gD,List.mem_of_mem_take]
 have a:(115:UInt8)∈(dZ b).drop 1:=by
  obtain⟨j,rfl⟩:∃j,k=1+j:=⟨k - 1,by omega⟩;rw[<- List.drop_drop] at Ha;exact List.mem_of_mem_drop Ha
 unfold dZ at a
 simp at a
 exact qi _ 115 (by decide) a
theorem QE(b:aZ):kQ (b++dZ b)=b.length:=by
 have Ha:((b++dZ b).drop b.length).take 4=gD:=by
  grind[dZ,gD]
 rcases D0 (b++dZ b) with⟨_,h⟩|⟨i,c,e,a,d⟩
 ·exact absurd Ha (h _)
 ·rw[c]
  rcases Nat.lt_trichotomy i b.length with h|h|h
  ·grind
  ·rw[h]
  ·exfalso
   obtain⟨j,rfl⟩:∃j,i=b.length+j:=⟨i - b.length,by omega⟩;rw[<- List.drop_drop,List.drop_left] at a;exact QD b j (by omega) a
theorem QF(b:aZ):fL (b++dZ b)=some b:=by
 simp[fL,QE]
theorem QG{t:aZ}(h:fL t=some b):pI t=b:=by
 grind[fL,pI]
theorem QH{t:aZ}(h:fL t=some b):b.length<=t.length:=by rw[QC h];simp
theorem QI(t:List UInt8){w:World}(o:t.length<=1000000)(a:cJ w):Calls prog 156 #[.string ⟨t.toArray⟩] w λe w'=>
  e=.returned (.tuple #[.string ⟨(pI t).toArray⟩,.bool (fL t).isSome])/\Bw w w':=by
 have k:=qI a;have Ha:=qI (Tryz.strings_LastIndex ⟨t.toArray⟩ ⟨#[115,117,109,32]⟩ (by grind[ByteArray.size]) w);rw[show (ByteArray.mk t.toArray).data.toList=t by simp,show (ByteArray.mk #[115,117,109,32]).data.toList=gD from rfl,show Lib.lastIndex t gD=kQ t from rfl] at Ha
 rcases D0 t with⟨b,f⟩|⟨i,b,f,j,m⟩
 ·have c:Hu (fL t=none):=by
   grind[fL]
  have Hc:Hu (pI t=[]):=by grind[pI]
  rw[b] at Ha;clear b f a
  go_enter func156,ntmps156
  go_wp2_with fail
  refine Ha.o.mono ?_;rintro e d ⟨rfl,rfl⟩
  go_wp2
  go_ret2;exact⟨by rw[c.o,Hc.o];rfl,Q0 _ _⟩
 ·have c:Hu (fL t=if t.drop i=dZ (t.take i) then some (t.take i) else none):=by
   grind[fL]
  rw[b] at Ha;have Hh:Hu ((ByteArray.mk t.toArray).extract 0 i=⟨(t.take i).toArray⟩):=by unfold Hu;apply ByteArray.ext;simp
  have Hf:Hu ((ByteArray.mk t.toArray).extract i t.length=⟨(t.drop i).toArray⟩):=by unfold Hu;apply ByteArray.ext;simp;exact List.take_of_length_le (by simp)
  have Hi:(decide ((i:Int)<0))=false:=by simp
  have hle:i<=t.length:=by omega
  have Hc:Hu (pI t=t.take i):=by grind[pI]
  have Hg:Hu ((t.drop i == dZ (t.take i))=(fL t).isSome):=by
   grind[Hu]
  clear b f j m a c
  go_enter func156,ntmps156
  go_wp2_with fail
  refine Ha.o.mono ?_;rintro e d ⟨rfl,rfl⟩
  go_wp2_with fail
  refine wp_region_held_drew (S:=(λ_=>True)) (by kernel_rfl) trivial λl=>?_;refine tk 0 ?_;refine tk 1 ?_;refine tk 2 ?_;refine tk 3 ?_;refine tk 4 ?_;refine tk 5 ?_;refine tk 6 ?_;refine tk 7 ?_;refine tk 8 ?_;refine rd 9 λK h=>?_;go_simp
  go_wp2_with fail
  rw[Hh.o,Hf.o];have Hb:=qI (jX (Q0 d d));refine (CA (t.take i) (by simp;omega) (k.o.below Hb).1).mono ?_;rintro e n ⟨rfl,g⟩;have He:=Hb.t g;clear g
  go_wp2_with fail
  refine h.k trivial λl=>?_;refine tk 10 ?_;refine tk 11 ?_;refine tk 12 ?_;refine Qn (by kernel_rfl) ?_ _
  go_wp2
  go_ret2;exact⟨by rw[Hc.o,<- Hg.o];rfl,He⟩
def iF (t:aZ):Nat × List ae:=
 if 6000<t.length then (2,[]) else
 match fL t with
 | none=>(12,[])
 | some b=>match iB b with
  | none=>(4,[])
  | some hs=>if bS hs=0/\bw hs=t then (0,hs) else (4,[])
theorem QJ{t:aZ}(h:6000<t.length):iF t=(2,[]):=if_pos h
theorem QK{t:aZ}(h:¬ 6000<t.length)(a:fL t=none):iF t=(12,[]):=by
 grind[iF]
theorem QL{t:aZ}(h:¬ 6000<t.length)(a:fL t=some b)(c:iB b=none):iF t=(4,[]):=by
 grind[iF]
theorem D1{t:aZ}(h:¬ 6000<t.length)(a:fL t=some b)(c:iB b=some hs):iF t=if bS hs=0/\bw hs=t then (0,hs) else (4,[]):=by
 grind[iF]
theorem QM(e:nE hs)(hf:bS hs=0)(a:(bw hs).length<=6000):iF (bw hs)=(0,hs):=by grind[fL,bw,dL,QF,D1,LQ]
def QN (w:World) (t:List UInt8) (e:Ending) (w':World):Prop:=
 ∃v,e=.returned (.tuple #[v,aD ((iF t).1:Nat)])/\bf (av (λj=>j<w.heap.size) w') v (iF t).2/\Below w w w'
theorem pJ{w:World}:bf w () []:=⟨none,0,rfl,⟨lR,by unfold maxLen;omega⟩,λh=>by simp at h⟩
theorem QO(t:List UInt8){w:World}(y:t.length<=1000000)(f:cJ w)(s:dH w):Calls pg 116 #[.string ⟨t.toArray⟩] w (QN w t):=by
 have k:=qI f;have r:=qI s;clear f s
 by_cases i:6000<t.length
 ·have d:=qI (QJ i);have u:decide ((6000:Int)<(t.length:Int))=true:=by simp;omega
  go_enter func116,ntmps116
  go_wp2
  go_ret2;exact⟨_,by rw[d.o];rfl,by rw[d.o];exact pJ,Q0 _ _⟩
 ·have u:decide ((6000:Int)<(t.length:Int))=false:=by simp;omega
  have Hf:=qI (QI t y k);cases h1:fL t with
  | none=>
   have d:=qI (QK i h1);rw[h1] at Hf;clear h1
   go_enter func116,ntmps116
   go_wp2
   refine Hf.o.m λm He=>?_;have Hb:=qI He;clear He
   go_wp2
   go_ret2;exact⟨_,by rw[d.o];rfl,by rw[d.o];exact pJ,Hb⟩
  | some b=>
   rw[QG h1,h1] at Hf;have Hs:=QH h1;cases h2:iB b with
   | none=>
    have d:=qI (QL i h1 h2);clear h1;have Hj:Hu (∀W,dH W->Calls pg 157 #[.string ⟨b.toArray⟩] W λe w'=>∃a n c,e=.returned (.tuple #[.slice a n c,false])/\Bw W w'):=λW p=>(QB b (by omega) p).mono (by
     rintro e w' ⟨v,rfl,_,⟨a,n,c,rfl⟩,o⟩;exact⟨a,n,c,by rw[h2];rfl,o⟩)
    clear h2
    go_enter func116,ntmps116
    go_wp2
    refine Hf.o.m λm He=>?_;have Hb:=qI He;clear He
    go_wp2
    refine (Hj.o m (r.o.below Hb)).mono ?_;rintro e l ⟨a,n,c,rfl,Hi⟩;have Ha:=Hb.t Hi;clear Hi
    go_wp2
    go_ret2;exact⟨_,by rw[d.o];rfl,by rw[d.o];exact pJ,Ha⟩
   | some hs=>
    have d:=qI (D1 i h1 h2);clear h1;have Hj:Hu (∀W,dH W->Calls pg 157 #[.string ⟨b.toArray⟩] W λe w'=>∃a n c,e=.returned (.tuple #[.slice a n c,true])/\bf (av (λj=>j<W.heap.size) w') (.slice a n c) hs/\Bw W w'):=λW p=>(DY b (by omega) p).mono (by
     rintro e w' ⟨v,rfl,h,⟨a,n,c,rfl⟩,o⟩;exact⟨a,n,c,by rw[h2];rfl,h hs h2,o⟩)
    clear h2
    go_enter func116,ntmps116
    go_wp2
    refine Hf.o.m λm He=>?_;have Hb:=qI He;clear He
    go_wp2
    refine (Hj.o m (r.o.below Hb)).mono ?_;rintro e l ⟨a,n,c,rfl,Hm,Hi⟩;have Ha:=Hb.t Hi;have Ho:=qI Hm;have Hk:=qI (Hm.le (df));have Hq:=Hb.o.size;clear Hi Hm Hj Hf
    by_cases hf:bS hs=0
    ·have Hh:Hu (jv hs=.tuple #[.string ⟨(bw hs).toArray⟩,.nilIface]):=by grind[Hu,jv]
     by_cases g:bw hs=t
     ·rw[if_pos ⟨hf,g⟩] at d;rw[g] at Hh;clear hf g
      go_wp2
      refine (uV Hk (k.o.below Ha)).m λq Hc=>?_;have Hg:=Ha.t Hc;have Hl:=qI (Ho.o.le (po (M':=λj=>j<w.heap.size) (Apart.of_below Hc) (λj _ z=>by omega)));clear Hc;rw[Hh.o]
      go_wp2
      go_ret2;exact⟨_,by rw[d.o];rfl,by rw[d.o];exact Hl.o,Hg⟩
     ·rw[if_neg λh=>g h.2] at d;have Hr:(bw hs == t)=false:=by simpa using g
      have Hp:(bw hs != t)=true:=by simpa using g
      generalize bw hs=x at *;clear hf g
      go_wp2
      refine (uV Hk (k.o.below Ha)).m λq Hc=>?_;have Hg:=Ha.t Hc;clear Hc;rw[Hh.o]
      go_wp2
      go_ret2;exact⟨_,by rw[d.o];rfl,by rw[d.o];exact pJ,Hg⟩
    ·rw[if_neg λh=>hf h.1] at d;have Hh:Hu (jv hs=.tuple #[.string ⟨#[]⟩,aD (bS hs:Nat)]):=by grind[Hu,jv]
     have Hn:=qI (eW hf);clear hf
     go_wp2
     refine (uV Hk (k.o.below Ha)).m λq Hc=>?_;have Hg:=Ha.t Hc;clear Hc;rw[Hh.o,Hn.o]
     go_wp2
     go_ret2;exact⟨_,by rw[d.o];rfl,by rw[d.o];exact pJ,Hg⟩
structure Dk where
 n:Sd
 k:Sd
 wt:Option Chg
 l:Int
 d:Bool
def bu (W:World) (B:Nat) (s:Dk):Prop:=(-9223372036854775808<=s.l/\s.l<=9223372036854775807)/\∃v,aQ W B s.n s.k v s.l s.d/\
 match s.wt with
 | none=>v=.slice none 0 0
 | some c=>∃g cap,v=.slice (some ⟨g,0,none⟩) 1 cap/\1<=cap/\g≠B/\jS W g c.wr c.bs
theorem bu.lt{s:Dk}(h:bu W B s):B<W:=by
 obtain⟨_,v,h,_⟩:=h;exact h.lt
theorem bu.below{s:Dk}(h:bu W B s)(d:Bw W W'):bu W' B s:=by
 obtain⟨j,v,f,a⟩:=h;refine⟨j,v,f.block (d.block B f.lt),?_⟩;cases hw:s.wt with
 | none=>rw[hw] at a;exact a
 | some c=>
  rw[hw] at a;obtain⟨g,b,e,i,k,Ha⟩:=a;exact⟨g,b,e,i,k,Ha.block (d.block g Ha.1)⟩
theorem QP{d w':World}(a:Below base d w)(b:w.grownBy w' (some B))(h:base<=B)(g:base<=w):Below base d w':=
 ⟨b.os.trans a.os,b.tape.trans a.tape,b.output.trans a.output,Q5 a.size b.size,λj f=>by
  by_cases c:j<w.heap.size
  ·exact (b.block j c (λe=>by grind)).trans (a.block j f)
  ·omega⟩
def Dk.fresh:Dk:=⟨⟨false,⟨#[]⟩,false,⟨#[]⟩⟩,⟨false,⟨#[]⟩,false,⟨#[]⟩⟩,none,-1,false⟩
theorem QQ(w:World):Calls pg 26 #[] w λe w'=>e=.returned w/\bu w' w Dk.fresh/\Bw w w':=by
 go_enter func26,ntmps26
 go_wp2
 go_ret;exact⟨rfl,⟨⟨by decide,by decide⟩,_,World.alloc_heap_new w _,rfl⟩,(Q0 _ _).alloc (lR) _⟩
theorem bu.only{s a:Dk}(h:bu W B s)(m:W.grownBy W' (some B))(j:a.wt=s.wt)(l:-9223372036854775808<=a.l/\a.l<=9223372036854775807)(ah:∀v,aQ W B s.n s.k v s.l s.d->aQ W' B a.n a.k v a.l a.d):bu W' B a:=by
 obtain⟨_,v,k,b⟩:=h;refine⟨l,v,ah v k,?_⟩;rw[j];cases hw:s.wt with
 | none=>rw[hw] at b;exact b
 | some c=>
  rw[hw] at b;obtain⟨g,d,e,i,f,Ha⟩:=b;exact⟨g,d,e,i,f,Ha.block (m.block g Ha.1 λe=>f (by injection e with e))⟩
def Dk.restartK (s:Dk) (keep torn:Int):Sd:=
 match s.wt with
 | none=>s.k
 | some c=>if 1<=keep then c.on s.k else if 0<torn/\c.wr=true then Chg.on ⟨true,c.bs.extract 0 (min torn c.bs.size).toNat⟩ s.k else s.k
def Dk.restart (s:Dk) (keep torn:Int):Dk:=⟨s.restartK keep torn,s.restartK keep torn,none,-1,false⟩
theorem QR{B:Nat}{s:Dk}(keep a:Int){w:World}(h:bu w B s):Calls pg 15 #[.pointer (some ⟨B,0,none⟩),.int .i64 keep,.int .i64 a] w λe w'=>e=.returned (.tuple #[])/\bu w' B (s.restart keep a)/\w.grownBy w' (some B):=by
 obtain⟨t,v,i,p⟩:=h;obtain⟨n,k,wt,l,d⟩:=s;have j:-9223372036854775808<=(-1:Int)/\(-1:Int)<=9223372036854775807:=⟨by decide,by decide⟩;cases wt with
 | none=>
  dsimp only at i p;subst p;refine (Me keep a i).m λw' ⟨ah,b⟩=>?_;exact⟨rfl,⟨j,_,ah,rfl⟩,b.1⟩
 | some c=>
  obtain⟨g,f,rfl,o,r,Ha⟩:=p;dsimp only at i Ha
  by_cases m:1<=keep
  ·refine (Mv keep a i Ha o m).m λw' ⟨ah,b⟩=>?_;refine⟨rfl,⟨j,_,?_,rfl⟩,b⟩
   simpa[Dk.restart,Dk.restartK,m] using ah
  ·by_cases q:0<a/\c.wr=true
   ·obtain⟨Hb,Hc⟩:=q;rw[Hc] at Ha;refine (Mw keep a i Ha o r (by omega) Hb).m λw' ⟨ah,b⟩=>?_;refine⟨rfl,⟨j,_,?_,rfl⟩,b⟩
    simpa only[Dk.restart,Dk.restartK,if_neg m,if_pos (show 0<a/\c.wr=true from⟨Hb,Hc⟩)] using ah
   ·refine (Mu keep a i Ha o (by omega) ?_).mono ?_
    ·grind
    ·rintro e w' ⟨rfl,ah,b⟩;refine⟨rfl,⟨j,_,?_,rfl⟩,b.1⟩
     simpa only[Dk.restart,Dk.restartK,if_neg m,if_neg q] using ah
theorem ym{B:Nat}{s:Dk}(m:Int){w:World}(h:bu w B s)(g:-9223372036854775808<=m/\m<=9223372036854775807):Calls pg 11 #[.pointer (some ⟨B,0,none⟩),.int .i64 m] w λe w'=>e=.returned (.tuple #[])/\bu w' B { s with l:=m }/\w.grownBy w' (some B):=by
 obtain⟨f,v,b,i⟩:=h;refine (Lf m b).m λw' ⟨ah,d⟩=>?_;refine⟨rfl,bu.only (s:=s) ⟨f,v,b,i⟩ d.1 rfl g λv2 c=>?_,d.1⟩;have j:=b.rest.1;have a:=c.rest.1
 have:v2=v:=by rw[j] at a;injection a with a;exact a.symm
 subst this;exact ah
theorem QS(w:World)(j:Int):Sem.run prog (binOp .eql 40 .nilIface (.iface 108 j)) w=.ok false w:=by
 rfl
theorem D2(w:World)(i j:Int):Sem.run prog (binOp .eql 40 (.iface 108 i) (.iface 108 j)) w=.ok (.bool (i == j)) w:=by
 rfl
def Dk.load (s:Dk):Nat × List ae:=if s.d=true then (11,[]) else if s.n.ft=true then iF s.n.fb.data.toList else (0,[])
def D3 (w:World) (s:Dk) (e:Ending) (w':World):Prop:=∃v,e=.returned (.tuple #[v,aD ((s.load.1:Nat):Int)])/\bf (av (λj=>j<w.heap.size) w') v s.load.2/\Below w w w'
theorem QT{B:Nat}{s:Dk}{w:World}(h:bu w B s)(hs:s.n.fb.data.toList.length<=1000000)(l:cJ w)(k:dH w):Calls pg 71 #[.pointer (some ⟨B,0,none⟩)] w (D3 w s):=by
 obtain⟨_,v,c,_⟩:=h;have a:=qI (Le c);clear c;unfold xe at a
 by_cases ah:s.d=true
 ·have b:Hu (s.load=(11,[])):=by grind[Hu,Dk.load]
  rw[if_pos ah] at a
  go_enter func71,ntmps71
  go_wp2
  refine a.o.e ?_
  go_wp2
  rw[D2]
  go_wp2
  go_ret2;exact⟨_,by rw[b.o];rfl,by rw[b.o];exact pJ,Q0 _ _⟩
 ·rw[if_neg ah] at a
  by_cases hf:s.n.ft=true
  ·have b:Hu (s.load=iF s.n.fb.data.toList):=by grind[Hu,Dk.load]
   rw[if_pos hf] at a;have d:=qI (QO s.n.fb.data.toList hs l k);rw[show (ByteArray.mk s.n.fb.data.toList.toArray)=s.n.fb by simp] at d;generalize s.n.fb=fb at *
   go_enter func71,ntmps71
   go_wp2
   refine a.o.e ?_
   go_wp2
   rw[QS]
   go_wp2
   refine d.o.mono ?_;rintro e n ⟨u,rfl,f,g⟩;have m:=qI f;have j:=qI g;clear f g
   go_wp2
   go_ret2;exact⟨u,by rw[b.o];rfl,by rw[b.o];exact m.o,j⟩
  ·have b:Hu (s.load=(0,[])):=by grind[Hu,Dk.load]
   rw[if_neg hf] at a
   go_enter func71,ntmps71
   go_wp2
   refine a.o.e ?_
   go_wp2
   rw[D2]
   go_wp2
   go_ret2;exact⟨_,by rw[b.o];rfl,by rw[b.o];exact pJ,Q0 _ _⟩
def Dk.fall (s:Dk):Dk:={ s with l:=bn s.l s.d,d:=true }
def Dk.apply (s:Dk) (c:Chg):Nat × Dk:=if cN s.l s.d=0 then (0,⟨c.on s.n,s.k,some c,bn s.l s.d,false⟩) else (11,s.fall)
def Dk.sync (s:Dk):Nat × Dk:=if cN s.l s.d=0 then (0,⟨s.n,s.n,none,bn s.l s.d,false⟩) else (11,s.fall)
def Dk.write (s:Dk) (t:ByteArray):Nat × Dk:=if 6000<t.size then (2,s) else s.apply ⟨true,t⟩
theorem uX(h:-9223372036854775808<=l/\l<=9223372036854775807):-9223372036854775808<=bn l d/\bn l d<=9223372036854775807:=by
 grind[bn]
theorem yo(h:cN l d≠0):cN l d=11/\fE l d=true:=by
 grind[su]
theorem bu.fall{s:Dk}(h:bu W B s)(a:W.grownBy W' (some B))(ah:∀v,aQ W B s.n s.k v s.l s.d->aQ W' B s.n s.k v (bn s.l s.d) true):bu W' B s.fall:=
 h.only a rfl (uX h.1) ah
theorem bu.waits{n k:Sd}{l:Int}{c:Chg}(i:B<W)(e:-9223372036854775808<=l/\l<=9223372036854775807)(h:uE W W' B n k l c.wr c.bs):bu W' B ⟨n,k,some c,l,false⟩:=by
 obtain⟨g,a,d,⟨j,b⟩,f⟩:=h;exact⟨e,_,d,g,a,rfl,b,by omega,f⟩
theorem bu.val{s:Dk}(h:bu W B s):∃v,aQ W B s.n s.k v s.l s.d/\(∀v2,aQ W B s.n s.k v2 s.l s.d->v2=v)/\(s.wt=none->v=.slice none 0 0):=by
 obtain⟨_,v,c,d⟩:=h;refine⟨v,c,λv2 b=>?_,λe=>?_⟩
 ·have f:=c.rest.1;have a:=b.rest.1;rw[f] at a;injection a with a;exact a.symm
 ·rw[e] at d;exact d
theorem D4{B:Nat}{s:Dk}{w:World}(h:bu w B s):Calls pg 70 #[.pointer (some ⟨B,0,none⟩)] w λe w'=>e=.returned (aD (s.sync.1:Nat))/\bu w' B s.sync.2/\w.grownBy w' (some B):=by
 obtain⟨v,d,j,i⟩:=h.val;refine (LZ d h.1).mono ?_
 by_cases c:cN s.l s.d=0
 ·have Ha:s.sync=(0,⟨s.n,s.n,none,bn s.l s.d,false⟩):=by grind[Dk.sync]
  have b:fE s.l s.d=false:=by
   grind[su]
  rw[Ha,c,if_pos rfl,if_pos rfl,b];rintro e w' ⟨rfl,ah,a⟩;exact⟨rfl,⟨uX h.1,_,ah,rfl⟩,a.1⟩
 ·have Ha:s.sync=(11,s.fall):=by grind[Dk.sync]
  obtain⟨f,b⟩:=yo c;rw[Ha,f,if_neg (by decide),if_neg (by decide),b];rintro e w' ⟨rfl,ah,a⟩;exact⟨rfl,h.fall a.1 (λv2 g=>by grind),a.1⟩
theorem QU{B:Nat}{s:Dk}{w:World}(h:bu w B s)(f:s.n.dt=true)(i:s.wt=none):Calls pg 98 #[.pointer (some ⟨B,0,none⟩)] w λe w'=>e=.returned (aD ((s.apply ⟨false,⟨#[]⟩⟩).1:Nat))/\bu w' B (s.apply ⟨false,⟨#[]⟩⟩).2/\w.grownBy w' (some B):=by
 obtain⟨v,b,k,g⟩:=h.val
 by_cases d:cN s.l s.d=0
 ·have Ha:s.apply ⟨false,⟨#[]⟩⟩=(0,⟨Chg.on ⟨false,⟨#[]⟩⟩ s.n,s.k,some ⟨false,⟨#[]⟩⟩,bn s.l s.d,false⟩):=by grind[Dk.apply]
  rw[Ha];have Hb:=b;rw[g i] at Hb;refine (Mb Hb h.1 d f).m λw' ⟨ah,a⟩=>?_;exact⟨rfl,bu.waits (c:=⟨false,⟨#[]⟩⟩) b.lt (uX h.1) ah,a⟩
 ·have Ha:s.apply ⟨false,⟨#[]⟩⟩=(11,s.fall):=by grind[Dk.apply]
  rw[Ha];refine (Mc b h.1 (yo d).1 f).m λw' ⟨ah,a⟩=>?_;exact⟨rfl,h.fall a (λv2 j=>by grind),a⟩
theorem QV{B:Nat}{s:Dk}(t:ByteArray){w:World}(h:bu w B s)(k:s.wt=none\/s.d=true)(j:t.size<=maxLen):Calls pg 97 #[.pointer (some ⟨B,0,none⟩),.string t] w λe w'=>e=.returned (aD ((s.write t).1:Nat))/\bu w' B (s.write t).2/\w.grownBy w' (some B):=by
 obtain⟨v,b,l,g⟩:=h.val
 by_cases d:6000<t.size
 ·have Ha:s.write t=(2,s):=if_pos d;rw[Ha];refine (L8 B t w d j).e ?_;exact⟨rfl,h,⟨rfl,rfl,rfl,lR,λ_ _ _=>rfl⟩⟩
 ·have He:s.write t=s.apply ⟨true,t⟩:=if_neg d
  by_cases f:cN s.l s.d=0
  ·have Ha:s.write t=(0,⟨Chg.on ⟨true,t⟩ s.n,s.k,some ⟨true,t⟩,bn s.l s.d,false⟩):=by grind[Dk.apply]
   rw[Ha];have Hc:s.wt=none:=by
    grind[cN]
   have Hb:=b;rw[g Hc] at Hb;refine (L9 t Hb h.1 f (by omega)).m λw' ⟨ah,a⟩=>?_;exact⟨rfl,bu.waits (c:=⟨true,t⟩) b.lt (uX h.1) ah,a⟩
  ·have Ha:s.write t=(11,s.fall):=by grind[Dk.apply]
   rw[Ha];refine (Ma t b h.1 (yo f).1 (by omega)).m λw' ⟨ah,a⟩=>?_;exact⟨rfl,h.fall a (λv2 i=>by grind),a⟩
def Dk.act (t:ByteArray) (k:Nat) (s:Dk):Nat × Dk:=if k=0 then s.write t else if k=2 then s.apply ⟨false,⟨#[]⟩⟩ else s.sync
def Dk.run (s:Dk) (t:ByteArray):Nat->Dk
 | 0=>s
 | k+1=>(Dk.act t k (Dk.run s t k)).2
def Dk.err (s:Dk) (t:ByteArray) (k:Nat):Nat:=(Dk.act t k (s.run t k)).1
def Dk.from (s:Dk) (t:ByteArray) (k:Nat):Nat × Dk:=
 if k<4 then if s.err t k≠0 then (s.err t k,s.run t (k+1)) else Dk.from s t (k+1) else (0,s.run t k)
termination_by 4 - k
theorem Dk.from_no{s:Dk}(a:k<4)(h:s.err t k≠0):s.from t k=(s.err t k,s.run t (k+1)):=by grind[Dk.from]
theorem Dk.from_yes{s:Dk}(a:k<4)(h:s.err t k=0):s.from t k=s.from t (k+1):=by grind[Dk.from]
theorem Dk.from_end{s:Dk}:s.from t 4=(0,s.run t 4):=by grind[Dk.from]
def Dk.save (s:Dk) (hs:List ae):Nat × Dk:=if bS hs=0 then s.from ⟨(bw hs).toArray⟩ 0 else (bS hs,s)
theorem uY{s:Dk}{k:Nat}(h:(Dk.act t k s).1=0):(Dk.act t k s).2=(if k=0 then ⟨Chg.on ⟨true,t⟩ s.n,s.k,some ⟨true,t⟩,bn s.l s.d,false⟩ else if k=2 then ⟨Chg.on ⟨false,⟨#[]⟩⟩ s.n,s.k,some ⟨false,⟨#[]⟩⟩,bn s.l s.d,false⟩ else ⟨s.n,s.n,none,bn s.l s.d,false⟩):=by
 grind[Dk.act,Dk.write,Dk.apply,Dk.sync]
theorem yq{s:Dk}(a:s.err t 0=0):s.run t 1=⟨Chg.on ⟨true,t⟩ s.n,s.k,some ⟨true,t⟩,bn s.l s.d,false⟩:=uY (k:=0) a
theorem sR{s:Dk}(a:s.err t 0=0)(b:s.err t 1=0):s.run t 2=⟨Chg.on ⟨true,t⟩ s.n,Chg.on ⟨true,t⟩ s.n,none,bn (bn s.l s.d) false,false⟩:=by
 refine (uY (k:=1) b).trans ?_;rw[if_neg (by decide),if_neg (by decide),yq a]
theorem yr{s:Dk}{t:ByteArray}(a:s.err t 0=0)(b:s.err t 1=0)(c:s.err t 2=0):s.run t 3=⟨⟨true,t,false,⟨#[]⟩⟩,Chg.on ⟨true,t⟩ s.n,some ⟨false,⟨#[]⟩⟩,bn (bn (bn s.l s.d) false) false,false⟩:=by
 refine (uY (k:=2) c).trans ?_;rw[if_neg (by decide),if_pos rfl,sR a b];rfl
theorem D5{s:Dk}{t:ByteArray}(b:s.err t 0=0)(c:s.err t 1=0)(d:s.err t 2=0)(a:s.err t 3=0):s.run t 4=⟨⟨true,t,false,⟨#[]⟩⟩,⟨true,t,false,⟨#[]⟩⟩,none,bn (bn (bn (bn s.l s.d) false) false) false,false⟩:=by
 refine (uY (k:=3) a).trans ?_;rw[if_neg (by decide),if_neg (by decide),yr b c d]
theorem qR{a b:World}{r:Option Nat}(h:Bw a b):a.grownBy b r:=⟨h.os,h.tape,h.output,h.size,λk c _=>h.block k c⟩
theorem QW{B b1 b2:Nat}{s:Dk}{t:ByteArray}{w:World}(h:bu w B s)(c:s.wt=none\/s.d=true)(i:t.size<=maxLen)(c1:w.cell? b1=some (.pointer (some ⟨B,0,none⟩)))(c2:w.cell? b2=some (.string t)) :
  Calls pg 96 #[.pointer (some ⟨b1,0,none⟩),.pointer (some ⟨b2,0,none⟩)] w λe w'=>e=.returned (aD ((s.write t).1:Nat))/\bu w' B (s.write t).2/\w.grownBy w' (some B):=by
 have d:=qI (QV t h c i);clear h c
 go_enter func96,ntmps96
 go_wp2
 refine d.o.m λj ⟨a,b⟩=>?_;have f:=qI a;have g:=qI b;clear a b d
 go_wp2
 go_ret;exact⟨rfl,f,g⟩
theorem Dk.from_upto{s:Dk}:∀ {k:Nat},k<=4->(∀j,j<k->s.err t j=0)->s.from t 0=s.from t k
 | 0,_,_=>rfl
 | k+1,hk,h=>(Dk.from_upto (by omega) λj a=>h j (by omega)).trans (Dk.from_yes (by omega) (h k (by omega)))
theorem uZ(k:Nat):(k=0/\aD ((k:Nat):Int)=.nilIface)\/(k≠0/\aD ((k:Nat):Int)=.iface 108 (k:Int)):=by
 by_cases h:k=0
 ·subst h;exact .inl ⟨rfl,rfl⟩
 ·grind[eW]
abbrev nT:=λ(x0 x1 x2:Nat)=>(.cells #[.func (.func 96) #[] #[.pointer (some ⟨x0,0,none⟩),.pointer (some ⟨x1,0,none⟩)],.func (.func 70) #[.pointer (some ⟨x2,0,none⟩)] #[],.func (.func 98) #[.pointer (some ⟨x2,0,none⟩)] #[],.func (.func 70) #[.pointer (some ⟨x2,0,none⟩)] #[]] 114:Obj)
theorem D6{B:Nat}{s:Dk}{v:Value}{hs:List ae}{w:World}(h:bu w B s)(L:s.wt=none\/s.d=true)(H:bf w v hs)(K:cJ w):Calls pg 56 #[.pointer (some ⟨B,0,none⟩),v] w λe w'=>e=.returned (aD ((s.save hs).1:Nat))/\bu w' B (s.save hs).2/\w.grownBy w' (some B):=by
 have Hf:=qI ((Q0 w w).alloc (lR) (.cells #[B] 32));have Ho:=qI (uV (H.below Hf) (K.below Hf));have J:=qI h;have N:=qI h.lt;have cb:(w.alloc (.cells #[B] 32)).cell? w=some (.pointer (some ⟨B,0,none⟩)):=by simp
 have Hq:(w.alloc (.cells #[B] 32)).heap.size=w.heap.size+1:=by simp
 have Hh:=H.cps;obtain⟨R,vc,rfl,T,_⟩:=H;clear h K
 by_cases hf:bS hs=0
 ·have Hr:Hu (jv hs=.tuple #[.string ⟨(bw hs).toArray⟩,.nilIface]):=by grind[Hu,jv]
  have Hb:Hu (s.save hs=s.from ⟨(bw hs).toArray⟩ 0):=by grind[Hu,Dk.save]
  have Hz:Hu ((ByteArray.mk (bw hs).toArray).size<=maxLen):=by
   grind[Ln,si,sj,Hu,maxLen,ByteArray.size,bw]
  rw[Hr.o] at Ho;clear Hr hf Hh;generalize ByteArray.mk (bw hs).toArray=t at *
  go_enter func56,ntmps56
  go_wp2
  generalize w.alloc (.cells #[B] 32)=A at *;refine Ho.o.m λb Hi=>?_;have Hm:=Hf.t Hi;have C:=(Hi.cell (p:=w.heap.size) (by grind)).trans cb;have Ht:w<b.heap.size:=Q1 (by omega) Hi.size;clear Hi cb Ho Hq Hf;have Hn:=qI (Hm.o.alloc Hm.o.size (.cells #[t] 9));have y:(b.alloc (.cells #[t] 9)).cell? w=some (.pointer (some ⟨B,0,none⟩)):=(((Q0 b b).alloc (lR) _).cell (p:=w.heap.size) Ht).trans C;have F:(b.alloc (.cells #[t] 9)).cell? b=some (.string t):=by simp
  have Hs:(b.alloc (.cells #[t] 9)).heap.size=b.heap.size+1:=by simp
  clear C
  go_wp2
  have Hl:=qI (Hn.o.alloc Hn.o.size (nT w b B));have Hj:=(Q0 _ (b.alloc (.cells #[t] 9))).alloc (lR) (nT w b B);have E:=(Hj.cell (p:=w.heap.size) (by grind)).trans y;have z:=(Hj.cell (p:=b.heap.size) (by simp)).trans F;have f0:((b.alloc (.cells #[t] 9)).alloc (nT w b B)).cell? (b.heap.size+1:Nat)=some (.func (.func 96) #[] #[.pointer (some ⟨w,0,none⟩),.pointer (some ⟨b,0,none⟩)]):=by simp
  have f1:((b.alloc (.cells #[t] 9)).alloc (nT w b B)).cell? ⟨b.heap.size+1,1,none⟩=some (.func (.func 70) #[.pointer (some ⟨B,0,none⟩)] #[]):=by simp
  have f2:((b.alloc (.cells #[t] 9)).alloc (nT w b B)).cell? ⟨b.heap.size+1,2,none⟩=some (.func (.func 98) #[.pointer (some ⟨B,0,none⟩)] #[]):=by simp
  have f3:((b.alloc (.cells #[t] 9)).alloc (nT w b B)).cell? ⟨b.heap.size+1,3,none⟩=some (.func (.func 70) #[.pointer (some ⟨B,0,none⟩)] #[]):=by simp
  have Hx:((b.alloc (.cells #[t] 9)).alloc (nT w b B)).heap.size=b.heap.size+1+1:=by simp
  have Hy:=qI (J.o.below Hl);clear Hj y F Hn Hs Hm;generalize ((b.alloc (.cells #[t] 9)).alloc (nT w b B))=I at *;have Q:=N.o;have D:Hu (∀wr:World,I.grownBy wr (some B)->wr.cell? w=some (.pointer (some ⟨B,0,none⟩))/\wr.cell? b=some (.string t)/\wr.cell? (b.heap.size+1:Nat)=some (.func (.func 96) #[] #[.pointer (some ⟨w,0,none⟩),.pointer (some ⟨b,0,none⟩)])/\wr.cell? ⟨b.heap.size+1,1,none⟩=some (.func (.func 70) #[.pointer (some ⟨B,0,none⟩)] #[])/\wr.cell? ⟨b.heap.size+1,2,none⟩=some (.func (.func 98) #[.pointer (some ⟨B,0,none⟩)] #[])/\wr.cell? ⟨b.heap.size+1,3,none⟩=some (.func (.func 70) #[.pointer (some ⟨B,0,none⟩)] #[])):=λwr r=>
   have O:=λj=>World.cell?_of_block (a:=⟨w,j,none⟩) (r.block w (by omega) (λe=>by injection e;omega))
   have P:=λj=>World.cell?_of_block (a:=⟨b,j,none⟩) (r.block b (by omega) (λe=>by injection e;omega))
   have G:=λj=>World.cell?_of_block (a:=⟨b.heap.size+1,j,none⟩) (r.block (b.heap.size+1) (by omega) (λe=>by injection e;omega))
   ⟨(O 0).trans E,(P 0).trans z,(G 0).trans f0,(G 1).trans f1,(G 2).trans f2,(G 3).trans f3⟩
  clear E z f0 f1 f2 f3;have M:=qI L;clear L
  go_loopw [29] (λi wr=>∃k:Nat,k<=4/\i=.int .i64 k/\(∀j,j<k->s.err t j=0)/\bu wr B (s.run t k)/\I.grownBy wr (some B)) (λi _=>4 - (intOf i).toNat)
  exact⟨0,by omega,rfl,λj x=>by omega,Hy,⟨rfl,rfl,rfl,lR,λ_ _ _=>rfl⟩⟩
  ·obtain⟨k,S,rfl,Hg,Hw,r⟩:=hrel;have Hc:=qI Hg;have Hp:=qI Hw;have He:=qI r;obtain⟨q,o,V,g1,U,g3⟩:=D.o wr r;clear Hg Hw r;have Hk:k=0\/k=1\/k=2\/k=3\/k=4:=by omega
   rcases Hk with rfl|rfl|rfl|rfl|rfl
   ·have c:Hu (Calls pg 96 #[.pointer (some ⟨w,0,none⟩),.pointer (some ⟨b,0,none⟩)] wr λe w'=>e=.returned (aD ((s.err t 0:Nat):Int))/\bu w' B (s.run t (0+1))/\wr.grownBy w' (some B)):=QW Hp M Hz q o;clear D q o
    rcases uZ (s.err t 0) with⟨n,f⟩|⟨n,f⟩
    ·rw[f] at c;clear f
     go_wp2
     refine c.o.m λu ⟨d,g⟩=>?_;have l:=qI d;have m:=qI (dC He g);clear d g c
     go_wp2
     go_roundw
     exact⟨0+1,by omega,by go_num,λj x=>by grind,l,m⟩
     simp[intOf]
    ·rw[f] at c
     go_wp2
     refine c.o.m λu ⟨d,g⟩=>?_;have l:=qI d;have m:=qI (dC He g);clear d g c
     go_wp2
     go_ret;have Ha:=(Dk.from_upto (by omega) Hc).trans (Dk.from_no (by omega) n);exact⟨by rw[Hb.o,Ha,f];rfl,by rw[Hb.o,Ha];exact l.o,dC (qR Hl) m⟩
   ·have c:Hu (Calls pg 70 #[.pointer (some ⟨B,0,none⟩)] wr λe w'=>e=.returned (aD ((s.err t 1:Nat):Int))/\bu w' B (s.run t (1+1))/\wr.grownBy w' (some B)):=D4 Hp;clear D q o
    rcases uZ (s.err t 1) with⟨n,f⟩|⟨n,f⟩
    ·rw[f] at c;clear f
     go_wp2
     refine c.o.m λu ⟨d,g⟩=>?_;have l:=qI d;have m:=qI (dC He g);clear d g c
     go_wp2
     go_roundw
     exact⟨1+1,by omega,by go_num,λj x=>by rcases Nat.lt_succ_iff_lt_or_eq.1 x with h|h;exact Hc.o j h;rw[h];exact n,l,m⟩
     simp[intOf]
    ·rw[f] at c
     go_wp2
     refine c.o.m λu ⟨d,g⟩=>?_;have l:=qI d;have m:=qI (dC He g);clear d g c
     go_wp2
     go_ret;have Ha:=(Dk.from_upto (by omega) Hc).trans (Dk.from_no (by omega) n);exact⟨by rw[Hb.o,Ha,f];rfl,by rw[Hb.o,Ha];exact l.o,dC (qR Hl) m⟩
   ·have c:Hu (Calls pg 98 #[.pointer (some ⟨B,0,none⟩)] wr λe w'=>e=.returned (aD ((s.err t 2:Nat):Int))/\bu w' B (s.run t (2+1))/\wr.grownBy w' (some B)):=QU Hp (by rw[sR (Hc.o 0 (by omega)) (Hc.o 1 (by omega))];rfl) (by rw[sR (Hc.o 0 (by omega)) (Hc.o 1 (by omega))]);clear D q o
    rcases uZ (s.err t 2) with⟨n,f⟩|⟨n,f⟩
    ·rw[f] at c;clear f
     go_wp2
     refine c.o.m λu ⟨d,g⟩=>?_;have l:=qI d;have m:=qI (dC He g);clear d g c
     go_wp2
     go_roundw
     exact⟨2+1,by omega,by go_num,λj x=>by rcases Nat.lt_succ_iff_lt_or_eq.1 x with h|h;exact Hc.o j h;rw[h];exact n,l,m⟩
     simp[intOf]
    ·rw[f] at c
     go_wp2
     refine c.o.m λu ⟨d,g⟩=>?_;have l:=qI d;have m:=qI (dC He g);clear d g c
     go_wp2
     go_ret;have Ha:=(Dk.from_upto (by omega) Hc).trans (Dk.from_no (by omega) n);exact⟨by rw[Hb.o,Ha,f];rfl,by rw[Hb.o,Ha];exact l.o,dC (qR Hl) m⟩
   ·have c:Hu (Calls pg 70 #[.pointer (some ⟨B,0,none⟩)] wr λe w'=>e=.returned (aD ((s.err t 3:Nat):Int))/\bu w' B (s.run t (3+1))/\wr.grownBy w' (some B)):=D4 Hp;clear D q o
    rcases uZ (s.err t 3) with⟨n,f⟩|⟨n,f⟩
    ·rw[f] at c;clear f
     go_wp2
     refine c.o.m λu ⟨d,g⟩=>?_;have l:=qI d;have m:=qI (dC He g);clear d g c
     go_wp2
     go_roundw
     exact⟨3+1,by omega,by go_num,λj x=>by rcases Nat.lt_succ_iff_lt_or_eq.1 x with h|h;exact Hc.o j h;rw[h];exact n,l,m⟩
     simp[intOf]
    ·rw[f] at c
     go_wp2
     refine c.o.m λu ⟨d,g⟩=>?_;have l:=qI d;have m:=qI (dC He g);clear d g c
     go_wp2
     go_ret;have Ha:=(Dk.from_upto (by omega) Hc).trans (Dk.from_no (by omega) n);exact⟨by rw[Hb.o,Ha,f];rfl,by rw[Hb.o,Ha];exact l.o,dC (qR Hl) m⟩
   ·go_wp2
    go_ret;have Ha:=(Dk.from_upto (by omega) Hc).trans Dk.from_end;exact⟨by rw[Hb.o,Ha];rfl,by rw[Hb.o,Ha];exact Hp.o,dC (qR Hl) He⟩
 ·have Hr:Hu (jv hs=.tuple #[.string ⟨#[]⟩,aD (bS hs:Nat)]):=by grind[Hu,jv]
  have Hv:=qI (eW hf);have Hb:Hu (s.save hs=(bS hs,s)):=by grind[Hu,Dk.save]
  rw[Hr.o,Hv.o] at Ho;clear Hr hf Hh
  go_enter func56,ntmps56
  go_wp2
  generalize w.alloc (.cells #[B] 32)=A at *;refine Ho.o.m λb Hi=>?_;have Hm:=Hf.t Hi;have Hn:=qI (Hm.o.alloc Hm.o.size (.cells #[.string ⟨#[]⟩] 9));clear Hi cb Ho Hq Hf
  go_wp2
  go_ret;exact⟨by rw[Hb.o,Hv.o];rfl,by rw[Hb.o];exact J.o.below Hn,qR Hn⟩
