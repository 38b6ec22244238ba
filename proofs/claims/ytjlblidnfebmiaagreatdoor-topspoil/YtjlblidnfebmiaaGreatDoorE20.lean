import Derived.Test.YtjlblidnfebmiaaGreatDoorE19
import Derived.Test.YtjlblidnfebmiaaGreatDoorE13
set_option maxRecDepth 100000
set_option maxHeartbeats 16000000
open Go Go.RowKit Go.Shelf
attribute [local go_sem] Oper.semAt_some
open Go.Proofs.Tryz
namespace Go.Proofs.YtjlblidnfebmiaaGreatDoor
variable {A W W' W6 X w:World} {B base cap g gcap k m:Nat} {K:Nat->Prop} {b t:aR} {d:Bool} {dv nv v v0 v1:Value} {dvs:List Int} {el:List Hp} {hs:List ad} {l:Int} {la la':Hp} {o:Obj} {wl:List (List (List UInt8))} {ws:List (List UInt8)}
theorem CR (h:gA W base v el la) (c:Apart K W W') (f:∀ j,K j->j<base):gA W' base v el la:=by
 have d:∀ j,base<=j->¬ K j:=λj a e=>by have:=f j e;omega
 have Ha:∀ p,gw W base (bV base v la) p->gw W' base (bV base v la) p:=λp b=>
  b.apart c (λj a=>d j a.1) (λj _ a=>a) (λj a=>d j (b.rc.lt j a).1) λj a=>d j (b.rg.lt j a).1
 exact ⟨jV h.row c λj a=>d j (h.row.lt j a).1,λp b=>⟨Ha p (h.hel p b).1,(h.hel p b).2⟩,Ha _ h.hla,h.vc,h.vg,h.cg⟩
def js (W:World) (base:Nat) (v:Value) (hs:List ad):Prop:=(hs=[]/\v=.slice none 0 0)\/∃ el la,gA W base v el la/\hs=(el++[la]).map Hp.hd
theorem js.apart (h:js W base v hs) (a:Apart K W W') (b:∀ j,K j->j<base):js W' base v hs:=by
 rcases h with h|⟨c,la,h,e⟩
 ·exact .inl h
 ·exact .inr ⟨c,la,CR h a b,e⟩
theorem js.plain (h:js W base v hs):aX W v hs:=by
 rcases h with ⟨rfl,rfl⟩|⟨a,la,h,rfl⟩
 ·exact ⟨none,0,rfl,⟨lR,by unfold maxLen;omega⟩,λh=>by simp at h⟩
 ·exact h.plain
theorem js.slice {v:Value} (h:js W base v hs):∃ a c,v=.slice a hs.length c:=by
 rcases h with ⟨rfl,rfl⟩|⟨d,la,h,rfl⟩
 ·exact ⟨none,0,rfl⟩
 ·obtain ⟨a,c,b,_⟩:=o8 h.row;exact ⟨a,c,by rw [b];simp⟩
theorem O9 (w:World) (nm:ByteArray) (pr:Int) (t:TypeId):∀ j u,(fk ⟨nm,pr,[],[],.slice none 0 0,.slice none 0 0⟩)[j]?=some u->(w.alloc (.cells #[nm,pr,.slice none 0 0,.slice none 0 0] t)).cell? ((w.heap.size:Addr).add j)=some u:=by simp_all [Addr.add_lit,fk]
theorem Pa (nm:ByteArray) (pr:Int):∀ u∈fk ⟨nm,pr,[],[],.slice none 0 0,.slice none 0 0⟩,u.oneCell'=true:=by
 intro u a
 simp [fk] at a
 rcases a with rfl|rfl|rfl <;> rfl
theorem CS:(prog.info? 101).map (λi=>(i.zero,i.size,i.bytes))=some (some (.agg #[ByteArray.empty,(0:Int),.slice none 0 0,.slice none 0 0]),4,72):=by kernel_rfl
theorem js.push (h:js W base v hs):∃ f,W.ownsRow base 101 4 v hs.length f/\∀ (o:Obj) (b:World) (a:Value) (nm:ByteArray) (pr:Int),(W.alloc o).grownBy b v.ownBlock->b.ownsRow base 101 4 a (hs.length+1) (f++fk ⟨nm,pr,[],[],.slice none 0 0,.slice none 0 0⟩)->(a.ownBlock=v.ownBlock\/a.ownBlock=some (W.alloc o).heap.size)->js b base a (hs++[⟨⟨nm,pr,[]⟩,[]⟩]):=by
 rcases h with ⟨rfl,rfl⟩|⟨d,la,h,rfl⟩
 ·exact ⟨[],Qw _ _ _ _,λo b a nm pr _ c _=>.inr ⟨[],_,OI (by simpa using c),rfl⟩⟩
 ·refine ⟨iS (d++[la]),by simpa using h.row,λo b a nm pr g c e=>.inr ⟨d++[la],_,OH h g (by simpa using c) e,?_⟩⟩;rw [List.map_append (l₁:=d++[la])];rfl
structure qO (w A:World) (wl:List (List (List UInt8))) (k:Nat) (W:World):Prop where
 le:k<=wl.length
 b0:Boxed W w 43 (.slice none 0 0)
 b1:Boxed W (w.heap.size+1) 4 false
 held:∃ v hs,Boxed W (w.heap.size+1+1) 43 v/\js W (A.heap.size+2) v hs/\eG bT ce [] (wl.take k)=some hs/\hs.length<=k/\∀ h∈hs,h.pod.cs.length<=k/\h.gs.length<=k
 below:Below w w W
theorem qO.apart {B C:World} (h:qO w A wl k B) (m:A=w.heap.size+1+1+1+1) (a:Apart (λj=>j=w.heap.size+1+1+1\/j=A.heap.size+1) B C):qO w A wl k C:=by
 obtain ⟨e,d,c,⟨v,hs,b,i,l⟩,f⟩:=h;exact ⟨e,a.boxed d (by omega),a.boxed c (by omega),⟨v,hs,a.boxed b (by omega),i.apart a (λj g=>by omega),l⟩,a.below f (lR) (λj g=>by omega)⟩
theorem Pb (a:k<wl.length) (h:eG bT ce [] (wl.take k)=some hs):eG bT ce [] (wl.take (k+1))=eX bT ce hs (wl.getD k []):=by
 rw [Qa a,sO,h,Option.bind_some,show wl.getD k []=wl[k] by simp [a]];unfold eG;cases eX bT ce hs wl[k] <;> rfl
theorem Pc (a:k<wl.length) (h:eG bT ce [] (wl.take k)=some hs) (b:eX bT ce hs (wl.getD k [])=none):eG bT ce [] wl=none:=by
 rw [<- List.take_append_drop k wl,sO,h,Option.bind_some,List.drop_eq_getElem_cons a,eG,<- show wl.getD k []=wl[k] by simp [a],b]
theorem Pd {nm:ByteArray} {pr:Int} (h:∀ h∈hs,h.pod.cs.length<=k/\h.gs.length<=k):∀ h∈hs++[⟨⟨nm,pr,[]⟩,[]⟩],h.pod.cs.length<=k+1/\h.gs.length<=k+1:=by grind
theorem CU {n:Nat} (h:gA W base (.slice m n cap) el la) {j:Nat} (b:j<4):W.cell? ⟨m,el.length*4+j,none⟩=(fk la)[j]?:=by
 obtain ⟨g,c,a,_,_,_,_,Ha⟩:=qK h.row (by omega);cases a;rw [Ha _ (by omega)]
 have:=qJ fk 4 (λx=>rfl) (el++[la]) el.length j (by simp) b
 rw [show iS (el++[la])=(el++[la]).flatMap fk from rfl,this]
 simp
theorem Pe {c:aA} {g:aP} (h:la'.hd=sN la.hd c g):kq ((el++[la]).map Hp.hd) c g=(el++[la']).map Hp.hd:=by grind [AU]
theorem Pf (d:la'.cl.length=la.cl.length+1) (c:la'.gl.length=la.gl.length+1) (h:∀ h∈(el++[la]).map Hp.hd,h.pod.cs.length<=k/\h.gs.length<=k):∀ h∈(el++[la']).map Hp.hd,h.pod.cs.length<=k+1/\h.gs.length<=k+1:=by
 intro x a;rw [Qj,List.map_singleton] at a h
 rcases Qi.1 a with a|a
 ·have:=h x (List.mem_append_left _ a);omega
 ·rw [Qm.1 a];have b:=h la.hd (by simp);simp only [Hp.hd,Q9] at b ⊢;omega
theorem Pg {d:Nat} {la:Hp} {c:aA} {cv:Value} (h:gA W base (.slice m (el.length+1) cap) el la) (r:jT W (bV base (.slice m (el.length+1) cap) la) nv c.ds)
  (af:iR W (bV base (.slice m (el.length+1) cap) la) dv dvs) (f:la.cv=cv) (p:(W.alloc o).grownBy W6 cv.ownBlock) (t:W6.ownsRow base 65 6 (.slice g (la.cl.length+1) gcap) (la.cl.length+1) (nR la.cl++jU (c,nv)))
  (k:cv.ownBlock=some g\/g=(W.alloc o).heap.size) (i:bV base (.slice m (el.length+1) cap) la d) (l:d<W) :
  ∃ b:Hp,b={ la with cl:=la.cl++[(c,nv)],cv:=.slice g (la.cl.length+1) gcap }/\gA (W6.setCell ⟨m,el.length*4+2,none⟩ (.slice g (la.cl.length+1) gcap)) base (.slice m (el.length+1) cap) el b/\
   iR (W6.setCell ⟨m,el.length*4+2,none⟩ (.slice g (la.cl.length+1) gcap)) (bV base (.slice m (el.length+1) cap) b) dv dvs/\
   Apart (λj=>base<=j) W (W6.setCell ⟨m,el.length*4+2,none⟩ (.slice g (la.cl.length+1) gcap))/\(W6.setCell ⟨m,el.length*4+2,none⟩ (.slice g (la.cl.length+1) gcap)).heap[d]?=W.heap[d]?:=by
 subst f;have Ha:(Value.slice g (la.cl.length+1) gcap).ownBlock=la.cv.ownBlock\/(Value.slice g (la.cl.length+1) gcap).ownBlock=some (W.alloc o).heap.size:=by
  rcases k with e|e
  ·exact .inl e.symm
  ·exact .inr (by rw [<- e];rfl)
 have He:(W.alloc o).heap.size=W.heap.size+1:=by simp
 have s:=h.row.lt m rfl;have Hb:Apart (λj=>la.cv.ownBlock=some j\/j=m) W (W6.setCell ⟨m,el.length*4+2,none⟩ (.slice g (la.cl.length+1) gcap)):=((nT p).wide λ_=>.inl).trans (Apart.setCell (.inr rfl) _ _ _);have Hc:∀ j,bV base (.slice m (el.length+1) cap) la j->¬ (la.cv.ownBlock=some j\/j=m):=λj hf a=>by
  rcases a with a|rfl
  ·exact hf.2.2.1 a
  ·exact hf.2.1 rfl
 refine ⟨_,rfl,OJ rfl h r p t Ha,af.apart Hb Hc λj u hf=>⟨hf.1,hf.2.1,λe=>?_,hf.2.2.2⟩,Hb.wide λj a=>?_,Hb.block d l (Hc d i)⟩
 ·rcases Ha with n|n
  ·exact hf.2.2.1 (by rw [<- n];exact e)
  ·have q:some (W.alloc o).heap.size=some j:=n.symm.trans e;injection q with q;omega
 ·rcases a with a|rfl
  ·exact (h.hla.rc.lt j a).1
  ·exact s.1
theorem Ph {cp:Nat} {la a:Hp} {c:aA} {u cv:Value} (hla:a={ la with cl:=la.cl++[(c,nv)],cv:=u }) (h:gA W base (.slice m (el.length+1) cap) el a)
  (af:iR W (bV base (.slice m (el.length+1) cap) a) dv dvs) (i:cp<18446744073709551616) (b:a.gv=cv) (p:(W.alloc o).grownBy W6 cv.ownBlock) (s:W6.ownsRow base 123 2 (.slice g (la.gl.length+1) gcap) (la.gl.length+1) (nS la.gl++jr (⟨cp,dvs⟩,dv)))
  (f:cv.ownBlock=some g\/g=(W.alloc o).heap.size) (l:hs=(el++[la]).map Hp.hd) (d:∀ h∈hs,h.pod.cs.length<=k/\h.gs.length<=k) :
  js (W6.setCell ⟨m,el.length*4+3,none⟩ (.slice g (la.gl.length+1) gcap)) base (.slice m (el.length+1) cap) (kq hs c ⟨cp,dvs⟩)/\(kq hs c ⟨cp,dvs⟩).length=el.length+1/\(∀ h∈kq hs c ⟨cp,dvs⟩,h.pod.cs.length<=k+1/\h.gs.length<=k+1)/\
   Apart (λj=>base<=j) W (W6.setCell ⟨m,el.length*4+3,none⟩ (.slice g (la.gl.length+1) gcap)):=by
 subst b;subst hla;subst l;have Hb:(Value.slice g (la.gl.length+1) gcap).ownBlock=la.gv.ownBlock\/(Value.slice g (la.gl.length+1) gcap).ownBlock=some (W.alloc o).heap.size:=by
  rcases f with e|e
  ·exact .inl e.symm
  ·exact .inr (by rw [<- e];rfl)
 have r:=h.row.lt m rfl;have Hc:Apart (λj=>la.gv.ownBlock=some j\/j=m) W (W6.setCell ⟨m,el.length*4+3,none⟩ (.slice g (la.gl.length+1) gcap)):=((nT p).wide λ_=>.inl).trans (Apart.setCell (.inr rfl) _ _ _);have q:=OK (c:=⟨cp,dvs⟩) rfl h af i p s Hb;have Ha:kq ((el++[la]).map Hp.hd) c ⟨cp,dvs⟩=(el++[({ la with cl:=la.cl++[(c,nv)],cv:=u,gl:=la.gl++[(⟨cp,dvs⟩,dv)],gv:=.slice g (la.gl.length+1) gcap }:Hp)]).map Hp.hd:=Pe (by simp [Hp.hd,sN]);refine ⟨.inr ⟨el,_,q,Ha⟩,by rw [Ha];simp,by rw [Ha];exact Pf (by simp) (by simp) d,Hc.wide λj n=>?_⟩
 rcases n with n|rfl
 ·exact (h.hla.rg.lt j n).1
 ·exact r.1
theorem Apart.masked (M:Nat->Prop) (W:World):Apart M W (av M W):=⟨rfl,rfl,rfl,by rw [cC];exact lR,λ_ _ h=>cZ h⟩
def Pi (w:World) (t:List UInt8) (e:Ending) (w':World):Prop:=
 ∃ v,e=.returned (.tuple #[v,.bool (gp t).isSome])/\(∀ hs,gp t=some hs->aX (av (λj=>j<w.heap.size) w') v hs)/\(∃ a n c,v=.slice a n c)/\Below w w w'
def Pj (w:World) (t:List UInt8) (e:Ending) (w':World):Prop:=
 ∃ v,e=.returned (.tuple #[v,.bool (gp t).isSome])/\(∀ hs,gp t=some hs->aX w' v hs)/\(∃ a n c,v=.slice a n c)/\Below w w w'
theorem Pk {t:List UInt8} (a:k<(cY t).length):∃ b:k<(gq t).length,(gq t)[k]=#[Value.string ⟨((cY t).getD k []).toArray⟩]:=⟨by rw [vU];exact a,by simp [gq,a]⟩
theorem Pm (t:List UInt8):∀ x∈cY t,x.length<=t.length+1:=by
 intro x a;unfold cY at a
 rcases Qi.1 a with a|a
 ·obtain ⟨y,b,rfl⟩:=Qk.1 a
  have:=oZ 10 t y ((List.dropLast_sublist _).subset b)
  simp;omega
 ·split at a
  ·simp at a
  ·have Ha:=m7 10 t;simp only [Qm] at a;rw [a,List.getLastD_eq_getLast?,List.getLast?_eq_some_getLast Ha,Option.getD_some]
   have:=oZ 10 t _ (List.getLast_mem Ha)
   omega
theorem Pn (t:List UInt8):(cY t).length<=t.length+1:=by grind [cY,ti,aG,m7]
theorem Po (x:List UInt8):(Lib.trimSuffix x [10]).length<=x.length:=MW x [10]
theorem Pp (x:List UInt8):((ByteArray.mk x.toArray).toList == [112,111,100])=decide (x=[112,111,100]):=by
 rw [Qs]
 by_cases h:x=[112,111,100] <;> simp [h]
theorem Pq (x:List UInt8):((ByteArray.mk x.toArray).toList == [99,111,110,116])=decide (x=[99,111,110,116]):=by
 rw [Qs]
 by_cases h:x=[99,111,110,116] <;> simp [h]
theorem tn (b:¬ jl ws=true) (a:nE ws=true->¬ 0<hs.length):eX bT ce hs ws=none:=by
 unfold eX;rw [if_neg b,if_neg λh=>a h.1 h.2]
theorem CV (b:aj ws 0=[112,111,100]) (a:ws.length=3):jl ws=true:=by simp [jl,b,a]
theorem Pr (c:aj ws 0=[112,111,100]) (b:ws.length=3) (a:gOf (aj ws 2)=false):eX bT ce hs ws=none:=by
 unfold eX;rw [if_pos (CV c b),kC,a];rfl
theorem Ps (c:aj ws 0=[112,111,100]) (b:ws.length=3) (a:gOf (aj ws 2)=true):eX bT ce hs ws=some (hs++[⟨⟨⟨(aj ws 1).toArray⟩,nOf (aj ws 2),[]⟩,[]⟩]):=by
 unfold eX;rw [if_pos (CV c b),kC,a];rfl
theorem Pt (l:List (List UInt8)):∀ a:Nat,a<18446744073709551616->(lP a l).1<18446744073709551616:=by
 induction l with
 | nil=>intro a h;exact h
 | cons x r ih=>
  intro a h;unfold lP;cases hs:gW x with
  | none=>show (0:Nat)<_;omega
  | some p=>
   obtain ⟨f,u⟩:=p;have hle:=Ci x f u hs;dsimp only
   split
   ·show (0:Nat)<_;omega
   ·exact ih _ (Nat.or_lt_two_pow (n:=64) h (Cj _ _ (by omega)))
theorem Pu (l:List UInt8):gu l<18446744073709551616:=by grind [gu,dC,Pt]
theorem CX (h:okC ws=true):(gOf (aj ws 2)=true/\gOf (aj ws 3)=true)/\(gOf (aj ws 4)=true/\gOf (aj ws 5)=true)/\(∃ ds,bS ce (aj ws 6)=some ds)/\jp (aj ws 7)=true/\∃ e,bS bT (aj ws 8)=some e:=by
 simp only [okC,Bool.and_eq_true] at h;obtain ⟨⟨⟨⟨f,d⟩,c⟩,b⟩,a⟩:=h;exact ⟨f,d,Option.isSome_iff_exists.1 c,b,Option.isSome_iff_exists.1 a⟩
theorem Pv {ds:List ai} {a:List Int} (h:okC ws=true) (c:bS ce (aj ws 6)=some ds) (b:bS bT (aj ws 8)=some a) :
  oS bT ce ws=some (⟨⟨(aj ws 1).toArray⟩,nOf (aj ws 2),nOf (aj ws 3),nOf (aj ws 4),nOf (aj ws 5),ds⟩,⟨gu (aj ws 7),a⟩):=by grind [CX,oS,kC,Cl]
theorem Pw (h:okC ws=false):oS bT ce ws=none:=by
 unfold oS;unfold okC at h;rw [kC,kC,kC,kC,Cl];cases g2:gOf (aj ws 2) <;> cases g3:gOf (aj ws 3) <;> cases g4:gOf (aj ws 4) <;> cases g5:gOf (aj ws 5) <;> cases g7:jp (aj ws 7) <;> cases g6:bS ce (aj ws 6) <;> cases g8:bS bT (aj ws 8) <;> first|rfl|(simp [g2,g3,g4,g5,g6,g7,g8] at h)
theorem CY (b:aj ws 0=[99,111,110,116]) (a:ws.length=9):nE ws=true/\jl ws=false:=by simp [nE,jl,b,a]
theorem Px (d:aj ws 0=[99,111,110,116]) (a:ws.length=9) (b:okC ws=false):eX bT ce hs ws=none:=by
 obtain ⟨e,c⟩:=CY d a;unfold eX;rw [if_neg (by rw [c];simp),Pw b]
 split <;> rfl
theorem Py (h:aj ws 0=[99,111,110,116]) (d:ws.length=9) (c:okC ws=true) (e:0<hs.length):∃ ds a,bS ce (aj ws 6)=some ds/\bS bT (aj ws 8)=some a/\gu (aj ws 7)<18446744073709551616/\
  eX bT ce hs ws=some (kq hs ⟨⟨(aj ws 1).toArray⟩,nOf (aj ws 2),nOf (aj ws 3),nOf (aj ws 4),nOf (aj ws 5),ds⟩ ⟨gu (aj ws 7),a⟩):=by
 obtain ⟨g,f⟩:=CY h d;obtain ⟨_,_,⟨ds,af⟩,_,⟨a,b⟩⟩:=CX c;refine ⟨ds,a,af,b,Pu _,?_⟩;unfold eX;rw [if_neg (by rw [f];simp),if_pos ⟨g,e⟩,Pv c af b];rfl
theorem pd {p q:Nat} {s z:TypeId} (a:Apart (λ_=>False) w X) (c:Boxed w p s v0) (b:Boxed w q z v1):X.cell? p=some v0/\X.frozen? p=false/\X.cell? q=some v1/\X.frozen? q=false:=⟨(a.boxed c id).cell,(a.boxed c id).frozen,(a.boxed b id).cell,(a.boxed b id).frozen⟩
theorem pf {d:World} {t:List UInt8} {a:Act} (b:Apart (λ_=>False) d X) (f:Boxed d w 43 v0) (m:Boxed d (w.heap.size+1) 4 v1) (g:Below w w d) (n:A+2<=d.heap.size) (o:A=w.heap.size+1+1+1+1) (l:gp t=none) :
  AS (λj=>j=w.heap.size+1+1+1) A (λW=>qO w A wl k W) (λc W=>c=Code.ret/\Boxed W w 43 (.slice none 0 0)/\Boxed W (w.heap.size+1) 4 false/\Below w w W/\gp t=none) d Exit.ret a ((X.setCell w (.slice none 0 0)).setCell (w.heap.size+1:Nat) false):=by
 have e:=b.boxed f id;have g1:=b.boxed m id;have Ha:=((b.wide (K':=λj=>j=w.heap.size\/j=w.heap.size+1) λ_ h=>h.elim).trans (Apart.setCell (.inl rfl) X 0 (Value.slice none 0 0))).trans (Apart.setCell (.inr rfl) _ 0 (Value.bool false));exact ⟨λj i=>Ha.block j (by omega) (by omega),rfl,(Apart.setCell (K:=λj=>j=w.heap.size+1) rfl _ 0 _).boxed (e.set _) (by omega),((Apart.setCell (K:=λj=>j=w.heap.size) rfl _ 0 _).boxed g1 (by omega)).set _,Ha.below g (lR) (λj i=>by omega),l⟩
abbrev iu:=λ(x0:ByteArray) (x1 x2 x3 x4:Int) (x5:Option Addr) (x6 x7:Nat)=>(.cells #[x0,x1,x2,x3,x4,.slice x5 x6 x7] 65:Obj)
abbrev gB:=λ(x0:ByteArray) (x1:Int)=>(.cells #[x0,x1,.slice none 0 0] 49:Obj)
abbrev wY:=λ(x0:ByteArray) (x1:Int)=>(.cells #[x0,x1,.slice none 0 0,.slice none 0 0] 101:Obj)
theorem CZ (t:List UInt8) (w:World) (ht:t.length<=7000) (hm:cO w) :
  Calls prog 157 #[.string ⟨t.toArray⟩] w (Pi w t):=by
 obtain ⟨i0,hi,JA,Jw,JH⟩:=info_parts CS;have x0:=((Boxed.new w 43 (.slice none 0 0)).alloc (.cells #[false] 4)).alloc (.cells #[.slice none 0 0] 43);have x1:=(Boxed.new (w.alloc (.cells #[.slice none 0 0] 43)) 4 false).alloc (.cells #[.slice none 0 0] 43);have x2:=Boxed.new ((w.alloc (.cells #[.slice none 0 0] 43)).alloc (.cells #[false] 4)) 43 (.slice none 0 0);simp only [World.size_alloc] at x1 x2;have Ja:=qI ((((Q0 w w).alloc (lR) (.cells #[.slice none 0 0] 43)).alloc (by simp) (.cells #[false] 4)).alloc (by simp;omega) (.cells #[.slice none 0 0] 43));have Jf:(((w.alloc (.cells #[.slice none 0 0] 43)).alloc (.cells #[false] 4)).alloc (.cells #[.slice none 0 0] 43)).heap.size=w.heap.size+1+1+1:=by simp
 have X0:=qI x0;have X1:=qI x1;have X2:=qI x2;have HM:=qI hm;clear x0 x1 x2 hm;refine (callsIn_wide (n:=3)).1 ?_;refine callsIn_of_wp_marks func157 rfl trivial ?_ rfl;simp only [ntmps157,List.size_toArray,Qg,List.length_nil,Nat.reduceAdd,Nat.reduceSub,Array.replicate_succ,Array.replicate_zero,List.push_toArray,List.append_toArray,List.nil_append,List.cons_append]
 gi_wp2_with fail
 generalize (((w.alloc (.cells #[.slice none 0 0] 43)).alloc (.cells #[false] 4)).alloc (.cells #[.slice none 0 0] 43))=V at *;refine ⟨trivial,(callsIn_wide.2 (LL _ V)).mono ?_⟩;rintro e A0 ⟨rfl,rfl⟩;have Je:=Boxed.new V 9 (.string ⟨t.toArray⟩);have H6:=(Q0 V V).alloc (lR) (.cells #[.string ⟨t.toArray⟩] 9);have Hh:(V.alloc (.cells #[.string ⟨t.toArray⟩] 9)).heap.size=V.heap.size+1:=by simp
 generalize V.alloc (.cells #[.string ⟨t.toArray⟩] 9)=A at *;have JE:=qI (Ja.o.trans (H6.mono Ja.o.size));have j5:=qI (show Boxed A _ _ _ from (H6.block _ X0.o.lt).trans X0.o);have Za:=qI (show Boxed A _ _ _ from (H6.block _ X1.o.lt).trans X1.o);have j6:=qI (show Boxed A _ _ _ from (H6.block _ X2.o.lt).trans X2.o);have He:=LM 2 (by omega) V t A Je (by omega);rw [Jf] at Hh He ⊢;clear H6 X0 X1 X2 Ja Je Jf;have h6:=qI (O8 t);have ho:=qI (Pm t);have Jg:=qI (Pn t);have hE:Hu (∀ k,(I:k<(cY t).length)->∃ JD:k<(gq t).length,(gq t)[k]=#[Value.string ⟨((cY t).getD k []).toArray⟩]):=λk I=>Pk I
 have hJ:Hu ((gq t).length=(cY t).length):=vU t;have hC:Hu (∀ x∈gq t,x.size=1):=by
  intro x G;obtain ⟨y,_,rfl⟩:=Qk.1 G;rfl
 have hw:Hu (∀ k,k<(cY t).length->(mF t).getD k []=aG 32 (Lib.trimSuffix ((cY t).getD k []) [10])):=λk I=>by simp [mF,I]
 have H5:Hu ((mF t).length=(cY t).length):=by unfold Hu mF;simp
 generalize mF t=wl at *;generalize hxs:cY t=P at *;clear hxs
 gi_wp2_with fail
 refine vR rfl (by omega) (gf:=243) rfl trivial (enters_of func243 (by kernel_rfl) rfl) (K:=λj=>j=w.heap.size+1+1+1) (ts:=gq t) (λj r=>by omega) He hC.o
  (λk W=>qO w A wl k W) (λc W=>c=.ret/\Boxed W w 43 (.slice none 0 0)/\Boxed W (w.heap.size+1) 4 false/\Below w w W/\gp t=none)
  (λk B C hi Hc=>hi.apart Hh Hc) (λc B C G Hc=>⟨G.1,Hc.boxed G.2.1 (by omega),Hc.boxed G.2.2.1 (by omega),Hc.below G.2.2.2.1 (lR) (λj r=>by omega),G.2.2.2.2⟩)
  ⟨Nat.zero_le _,j5.o,Za.o,⟨_,[],j6.o,.inl ⟨rfl,rfl⟩,rfl,lR,by simp⟩,JE.o⟩
  (λk=>{ tmps:=List.toArray (Value.string ⟨t.toArray⟩ :: undef :: Value.pointer (some ⟨w,0,none⟩) :: Value.pointer (some ⟨w.heap.size+1,0,none⟩) :: Value.pointer (some ⟨w.heap.size+1+1,0,none⟩) :: Value.string ⟨(P.getD k []).toArray⟩ :: undef :: undef :: undef :: undef :: undef :: undef :: undef :: Value.string ⟨t.toArray⟩ :: Value.func (Fn.func 243) #[] #[Value.pointer (some ⟨w.heap.size+1+1+1,0,none⟩)] :: Value.string ⟨(P.getD k []).toArray⟩ :: undef :: undef :: undef :: undef :: undef :: undef :: undef :: undef :: undef :: undef :: undef :: undef :: undef :: undef :: undef :: undef :: undef :: undef :: undef :: undef :: undef :: undef :: undef :: undef :: undef :: undef :: undef :: undef :: undef :: undef :: undef :: undef :: undef :: undef :: undef :: undef :: undef :: undef :: undef :: undef :: undef :: undef :: undef :: undef :: undef :: undef :: undef :: undef :: undef :: undef :: undef :: undef :: undef :: undef :: undef :: undef :: undef :: undef :: undef :: undef :: undef :: undef :: undef :: undef :: undef :: undef :: undef :: undef :: undef :: undef :: undef :: undef :: undef :: undef :: undef :: undef :: []),defers:=[] }) ?assign ?body ?done ?stop
 case assign=>
  intro l k I W R hR;rw [hJ.o] at I;obtain ⟨JD,e⟩:=hE.o k I;rw [e];clear e;generalize P.getD k []=x at *
  gi_wp2_with fail
  exact hR
 case body=>
  intro l k W I hP hI;rw [hJ.o] at I;obtain ⟨hle,HK,HO,⟨v,hs,Hi,X,HD,HR,Jh⟩,Hm⟩:=hI;have h2:=qI Jh;clear Jh;have Jk:P.getD k []∈P:=by simp [I]
  have JV:=ho.o _ Jk;have J3:=Jg.o;have Jy:=Po (P.getD k []);have hB:=qI (Pb (by rw [H5.o];exact I) HD);have Hx:Hu (eX bT ce hs (wl.getD k [])=none->gp t=none):=λM=>by rw [h6.o];exact Pc (by rw [H5.o];exact I) HD M
  rw [hw.o k I] at hB Hx;generalize P.getD k []=x at *;have hO:=qI (Tryz.strings_TrimSuffix ⟨x.toArray⟩ ⟨#[10]⟩ W (by show x.length<=_;omega));rw [show (ByteArray.mk x.toArray).data.toList=x by simp,show (ByteArray.mk #[10]).data.toList=[10] from rfl] at hO;generalize Lib.trimSuffix x [10]=tr at *;have Jm:=qI (O3 tr W (by omega) (HM.o.below Hm));have hY:0<(aG 32 tr).length:=List.length_pos_iff.2 (m7 32 tr);have hf:Hu (∀ y∈aG 32 tr,y.length<=10000):=λy hy=>by have:=oZ 32 tr y hy;omega
  generalize aG 32 tr=ws at *;have Hj:=qI HK;have Hk:=qI HO;have HL:=qI Hi;have hu:=qI X;have Hb:=qI Hm;have Hz:=qI hP;clear HD He hE hC ho Jg hw h6 Jk JV Jy;obtain ⟨O,vc,hv⟩:=X.slice;subst hv;clear HK HO Hi X Hm hle
  gi_wp2_with fail
  refine ⟨trivial,(CallsIn.inRound l (callsIn_wide.2 hO.o)).mono ?_⟩;rintro e J ⟨rfl,JX⟩;subst JX
  gi_wp2_with fail
  refine ⟨trivial,(CallsIn.inRound l (callsIn_wide.2 Jm.o)).mono ?_⟩;rintro e U ⟨rfl,hW,hK⟩;have Ha:Apart (λ_=>False) J U:=Apart.of_below hK;have s0:=hW.2 0 hY;have hA:=qI hW;have Jr:=qI hK;clear hW hK Jm hO;have q0:=Pp (aj ws 0);have Z:=Pq (aj ws 0)
  by_cases T:aj ws 0=[112,111,100]
  ·rw [Qc T] at q0;have In:decide (aj ws 0=[99,111,110,116])=false:=Q7 (by rw [T];decide);rw [In] at Z
   by_cases E:ws.length=3
   ·rcases two (gOf (aj ws 2)) with hg|hg
    ·skip
     have hT:=qI (hB.o.trans (Ps T E hg));have HF:=qI (Cy J ws.length ws U hA.o E hf.o);rw [hg] at HF;rw [E] at HF;generalize hnm:ByteArray.mk (aj ws 1).toArray=nm at *;generalize nOf (aj ws 2)=pr at *
     gi_wp2_with fail
     refine ⟨trivial,(CallsIn.inRound l (callsIn_wide.2 HF.o)).mono ?_⟩;rintro e d ⟨rfl,Hi⟩;have Hg:Apart (λ_=>False) J (d.alloc (gB nm pr)):=(Ha.trans (Apart.of_below Hi)).trans (Apart.alloc _ _ _);have p0:(d.alloc (gB nm pr)).cell? d=some (.string nm):=by simp
     have p1:(d.alloc (gB nm pr)).cell? ⟨d,1,none⟩=some (.int .i64 pr):=by simp
     have p2:(d.alloc (gB nm pr)).cell? ⟨d,2,none⟩=some (.slice none 0 0):=by simp
     have Ji:A.heap.size+2<=(d.alloc (gB nm pr)).heap.size:=Q5 hP Hg.size;clear Hi s0 q0 Z;have H:=Hg.boxed HL.o id;have c2:=H.cell;have HY:=hu.o.apart Hg λj r=>r.elim;obtain ⟨ys,H2,Hw⟩:=HY.push;have JS:=qI Hw;have J1:hs.length+1<=10000:=by omega
     have HJ:=O9 (d.alloc (gB nm pr)) nm pr 101;rw [show (d.alloc (gB nm pr)).heap.size=d.heap.size+1 by simp] at HJ;have JM:=qI HJ;clear HJ;have JP:A.heap.size+2<=((d.alloc (gB nm pr)).alloc (wY nm pr)).heap.size:=Q5 Ji (((Q0 _ (d.alloc (gB nm pr))).alloc (lR) _).size);clear Hw HY;generalize hhn:hs.length=M at *
     gi_wp2_with (gi_at_builtin;refine wpListIn_append_own_at _ rfl _ _ 43 rfl (A.heap.size+2) 101 i0 _ 4 72 underlying43 hi JA Jw JH rfl (by decide) _ _ _ rfl (H2.alloc _) ⟨_,0,none⟩ 1 1 (fk ⟨nm,pr,[],[],.slice none 0 0,.slice none 0 0⟩) rfl rfl JM.o (Pa nm pr) (by unfold maxLen;omega) (by omega) JP ?_;intro v' W4 Hv Ho _ HV;obtain ⟨f,nc,rfl⟩:=fj Hv;have Jn:((d.alloc (gB nm pr)).alloc (wY nm pr)).grownBy W4 (Value.slice O M vc).ownBlock:=Ho;have hV:(Value.slice f (M+1) nc).ownBlock=(Value.slice O M vc).ownBlock\/(Value.slice f (M+1) nc).ownBlock=some ((d.alloc (gB nm pr)).alloc (wY nm pr)).heap.size:=HV;clear Ho HV;have HZ:=wT H2 Jn;have g4:=HZ.boxed H (by omega);have c4:=g4.cell;have f4:=g4.frozen)
     have Hc:Apart (λj=>A.heap.size+2<=j\/j=w.heap.size+1+1) J (W4.setCell ⟨w.heap.size+1+1,0,none⟩ (.slice f (M+1) nc)):=(((Hg.wide λ_ h=>h.elim).trans (HZ.wide λ_=>.inl))).trans (Apart.setCell (.inr rfl) _ _ _);have JT:=Hz.o;refine ⟨λj r=>Hc.block j (by omega) (by omega),by rw [H5.o];omega,Hc.boxed Hj.o (by omega),Hc.boxed Hk.o (by omega),⟨_,_,g4.set _,(JS.o _ _ _ nm pr Jn Hv hV).apart (Apart.setCell (K:=λj=>j=w.heap.size+1+1) rfl W4 0 _) (λj r=>by omega),hT.o,by rw [Q2,hhn];simp;omega,Pd h2.o⟩,Hc.below Hb.o (lR) (λj r=>by omega)⟩
    ·skip
     have Hq:=qI (Hx.o (Pr T E hg));have HF:=qI (Cy J ws.length ws U hA.o E hf.o);rw [hg] at HF;rw [E] at HF;generalize hnm:ByteArray.mk (aj ws 1).toArray=nm at *;generalize nOf (aj ws 2)=pr at *
     gi_wp2_with fail
     refine ⟨trivial,(CallsIn.inRound l (callsIn_wide.2 HF.o)).mono ?_⟩;rintro e d ⟨rfl,Hi⟩;have Hg:Apart (λ_=>False) J (d.alloc (gB nm pr)):=(Ha.trans (Apart.of_below Hi)).trans (Apart.alloc _ _ _);have p0:(d.alloc (gB nm pr)).cell? d=some (.string nm):=by simp
     have p1:(d.alloc (gB nm pr)).cell? ⟨d,1,none⟩=some (.int .i64 pr):=by simp
     have p2:(d.alloc (gB nm pr)).cell? ⟨d,2,none⟩=some (.slice none 0 0):=by simp
     have Ji:A.heap.size+2<=(d.alloc (gB nm pr)).heap.size:=Q5 hP Hg.size;clear Hi s0 q0 Z;obtain ⟨c0,f0,c1,f1⟩:=pd Hg Hj.o Hk.o
     gi_wp2_with fail
     exact pf Hg Hj.o Hk.o Hb.o Hz.o Hh Hq.o
   ·have Jz:((ws.length:Int) == 3)=false:=by simp;omega
    have Hq:=qI (Hx.o (tn (by simp [jl,E]) (λh=>by simp [nE,T] at h)));obtain ⟨c0,f0,c1,f1⟩:=pd Ha Hj.o Hk.o
    gi_wp2_with fail
    exact pf Ha Hj.o Hk.o Hb.o Hz.o Hh Hq.o
  ·rw [Q7 T] at q0
   by_cases hc:aj ws 0=[99,111,110,116]
   ·rw [Qc hc] at Z
    by_cases D:ws.length=9
    ·by_cases h0:0<hs.length
     ·rcases two (okC ws) with H9|H9
      ·skip
       obtain ⟨ds,j4,Jq,H3,JI,Hy⟩:=Py hc D H9 h0;have hT:=qI (hB.o.trans Hy);clear Hy;have Hn:=qI (CG J ws.length ws U hA.o D hf.o (HM.o.below (Hb.o.trans (Jr.o.mono Hb.o.size))));unfold wW at Hn;rw [H9] at Hn;rw [D] at Hn;have H:=Ha.boxed HL.o id;have c2:=H.cell;rw [Jq] at Hn;rw [H3] at Hn;generalize ByteArray.mk (aj ws 1).toArray=nm at *;generalize nOf (aj ws 2)=n2 at *;generalize nOf (aj ws 3)=p at *;generalize nOf (aj ws 4)=i at *;generalize nOf (aj ws 5)=o at *;generalize gu (aj ws 7)=cp at *
       gi_wp2_with fail
       refine ⟨trivial,(CallsIn.inRound l (callsIn_wide.2 Hn.o)).mono ?_⟩;rintro e d ⟨nv,dv,rfl,ha,hh,⟨f,q,nc,rfl,he⟩,⟨s,z,u,rfl,hz⟩,Hi⟩;have Hl:Apart (λ_=>False) J ((d.alloc (iu nm n2 p i o f q nc)).alloc (.cells #[.int .u64 cp,.slice s z u] 123)):=((Ha.trans (Apart.of_below Hi)).trans (Apart.alloc _ _ _)).trans (Apart.alloc _ _ _);clear s0 q0 Z H c2;have JF:=qI (ha ds rfl);have JL:=qI (hh j4 rfl);have JB:=qI he;have JW:=qI hz;have hS:=qI Hi;clear ha hh he hz Hi;have g4:=Hl.boxed HL.o id
       rcases hu.o with ⟨h1,_⟩|⟨L,la,Y,He⟩
       ·rw [h1] at h0;simp at h0
       have H1:hs.length=L.length+1:=by rw [He];simp
       have Ju:=qI He;clear He;have Jc:Hu (la.cl.length<=100000/\la.gl.length<=100000):=by
        have N:=h2.o la.hd (by rw [Ju.o];simp);simp only [Hp.hd,Q9] at N;exact ⟨by omega,by omega⟩
       have Jd:=qI HR;clear HR hB Hx Hn h0 Jq H3;generalize hs.length=M at *;subst H1;obtain ⟨m,Zb,hv,J0,JZ,hM,JQ,_⟩:=qK Y.row (by omega);cases hv;have hq:=CR Y Hl λj r=>r.elim;have HQ:=qI hq;obtain ⟨ca,cc,hr,_,_⟩:=o8 Y.hla.rc;obtain ⟨ga,gc,JC,_,_⟩:=o8 Y.hla.rg;have HH:=Q1 hM Hl.size;have Jx:J<=U.heap.size:=Ha.size;have J2:U<=d.heap.size:=hS.o.size;have h9:Hu (∀ b,U.heap.size<=b->bV (A.heap.size+2) (.slice m (L.length+1) vc) la b):=λb N=>⟨by omega,λe=>by have e2:some m=some b:=e;injection e2 with e2;omega,λe=>by have:=(Y.hla.rc.lt b e).2;omega,λe=>by have:=(Y.hla.rg.lt b e).2;omega⟩
       have HA:Below d d ((d.alloc (iu nm n2 p i o f q nc)).alloc (.cells #[.int .u64 cp,.slice s z u] 123)):=((Q0 _ _).alloc (lR) _).alloc (by simp) _;have JR:=qI (jT.of (Q:=bV (A.heap.size+2) (.slice m (L.length+1) vc) la) (JF.o.below HA) ⟨_,_,_,rfl,JB.o⟩ λb N _=>h9.o b N);have JG:=qI (iR.of (Q:=bV (A.heap.size+2) (.slice m (L.length+1) vc) la) (JL.o.below HA) ⟨_,_,_,rfl,JW.o⟩ λb N _=>h9.o b N);have r2:((d.alloc (iu nm n2 p i o f q nc)).alloc (.cells #[.int .u64 cp,.slice s z u] 123)).cell? ⟨m,L.length*4+2,none⟩=some la.cv:=CU hq (j:=2) (by omega);have j0:=hq.row.frozenAt (L.length*4+2);rw [hr] at r2;have c4:=g4.cell;have e0:((d.alloc (iu nm n2 p i o f q nc)).alloc (.cells #[.int .u64 cp,.slice s z u] 123)).cell? d=some (.string nm):=by simp
       have e1:((d.alloc (iu nm n2 p i o f q nc)).alloc (.cells #[.int .u64 cp,.slice s z u] 123)).cell? ⟨d,1,none⟩=some (.int .i64 n2):=by simp
       have e2:((d.alloc (iu nm n2 p i o f q nc)).alloc (.cells #[.int .u64 cp,.slice s z u] 123)).cell? ⟨d,2,none⟩=some (.int .i64 p):=by simp
       have e3:((d.alloc (iu nm n2 p i o f q nc)).alloc (.cells #[.int .u64 cp,.slice s z u] 123)).cell? ⟨d,3,none⟩=some (.int .i64 i):=by simp
       have e4:((d.alloc (iu nm n2 p i o f q nc)).alloc (.cells #[.int .u64 cp,.slice s z u] 123)).cell? ⟨d,4,none⟩=some (.int .i64 o):=by simp
       have e5:((d.alloc (iu nm n2 p i o f q nc)).alloc (.cells #[.int .u64 cp,.slice s z u] 123)).cell? ⟨d,5,none⟩=some (.slice f q nc):=by simp
       have h3:=hq.hla.rc;rw [hr] at h3;have hL:=qI h3;have H8:(Value.slice ca la.cl.length cc).ownBlock≠some m:=λe=>Y.vc m (by rw [hr];exact e) rfl
       have H0:la.cl.length<=100000:=Jc.o.1;have Jt:Hu (A.heap.size+2<=((d.alloc (iu nm n2 p i o f q nc)).alloc (.cells #[.int .u64 cp,.slice s z u] 123)).heap.size):=Q5 JQ (Nat.le_of_lt HH);have J4:wrap64 ((L.length:Nat):Int)=L.length:=by have:=Jd.o;unfold wrap64;omega
       clear h3 HA hq
       gi_wp2_with fail
       refine A6 (OZ (c:=⟨nm,n2,p,i,o,ds⟩) (base:=A.heap.size+2) ((d.alloc (iu nm n2 p i o f q nc)).alloc (.cells #[.int .u64 cp,.slice s z u] 123)) r2 j0 e0 e1 e2 e3 e4 e5 hL.o Jt.o H0 HH H8) ?_;rintro _ W5 ⟨F,rfl,g,Ix,W6,rfl,Js,Jj,H4⟩;dsimp only;have Ht:bV (A.heap.size+2) (.slice m (L.length+1) vc) la (d.heap.size+1):=h9.o _ (by omega);obtain ⟨S,HI,HP,Jp,Hr,HG⟩:=Pg HQ.o JR.o JG.o hr Jj Js H4 Ht (by simp);have e6:((d.alloc (iu nm n2 p i o f q nc)).alloc (.cells #[.int .u64 cp,.slice s z u] 123)).cell? (d.heap.size+1:Nat)=some (.int .u64 cp):=by simp
       have e7:((d.alloc (iu nm n2 p i o f q nc)).alloc (.cells #[.int .u64 cp,.slice s z u] 123)).cell? ⟨d.heap.size+1,1,none⟩=some (.slice s z u):=by simp
       replace e6:=(World.cell?_of_block (a:=⟨d.heap.size+1,0,none⟩) HG).trans e6
       replace e7:=(World.cell?_of_block (a:=⟨d.heap.size+1,1,none⟩) HG).trans e7
       have Hs:S.gv=.slice ga la.gl.length gc:=by rw [HI];exact JC
       have hF:S.gl=la.gl:=by rw [HI]
       have JN:=qI HP;have JJ:=qI Jp;have hX:=qI (Hl.wide (K':=λj=>A.heap.size+2<=j) (λ_ h=>h.elim) |>.trans Hr);have hH:=Q1 HH Hr.size;have r3:=CU HP (j:=3) (by omega);have j1:(fk S)[3]?=some S.gv:=rfl;rw [j1,Hs] at r3;have j3:=HP.row.frozenAt (L.length*4+3);have h7:=HP.hla.rg;rw [hF,Hs] at h7;have JK:=qI h7;have h8:(Value.slice ga la.gl.length gc).ownBlock≠some m:=λe=>HP.vg m (by rw [Hs];exact e) rfl
       have Jb:la.gl.length<=100000:=Jc.o.2;have hZ:=qI (Q5 Jt.o Hr.size);clear HP Jp Hr HG h7 Js Jj H4 r2 j0 e0 e1 e2 e3 e4 e5 j1 H8 H0 Ht;generalize World.setCell W6 ⟨m,L.length*4+2,none⟩ (.slice g (la.cl.length+1) Ix)=W5 at *
       gi_wp2_with fail
       refine A6 (O0 (c:=⟨cp,j4⟩) (base:=A.heap.size+2) W5 r3 j3 e6 e7 JK.o hZ.o Jb hH h8) ?_;rintro _ W7 ⟨F2,rfl,H,j2,W8,rfl,Jo,Jl,H7⟩;dsimp only;obtain ⟨HX,HU,HT,HW⟩:=Ph HI JN.o JJ.o JI Hs Jl Jo H7 Ju.o h2.o;have hG:=qI HX;have hU:=qI HT;have Hc:Apart (λj=>A.heap.size+2<=j) J _:=hX.o.trans HW;clear HX HT Jo Jl H7 r3 j3 e6 e7 HW;generalize World.setCell W8 ⟨m,L.length*4+3,none⟩ (.slice H (la.gl.length+1) j2)=W9 at *
       gi_wp2_with fail
       have JT:=Hz.o;refine ⟨λj r=>Hc.block j (by omega) (by omega),by rw [H5.o];omega,Hc.boxed Hj.o (by omega),Hc.boxed Hk.o (by omega),⟨_,_,Hc.boxed HL.o (by omega),hG.o,hT.o,by rw [HU];exact Nat.le_succ_of_le Jd.o,hU.o⟩,Hc.below Hb.o (lR) (λj r=>by omega)⟩
      ·skip
       have Hq:=qI (Hx.o (Px hc D H9));have Hn:=qI (CG J ws.length ws U hA.o D hf.o (HM.o.below (Hb.o.trans (Jr.o.mono Hb.o.size))));unfold wW at Hn;rw [H9] at Hn;rw [D] at Hn;have H:=Ha.boxed HL.o id;have c2:=H.cell;generalize ByteArray.mk (aj ws 1).toArray=nm at *;generalize nOf (aj ws 2)=n2 at *;generalize nOf (aj ws 3)=p at *;generalize nOf (aj ws 4)=i at *;generalize nOf (aj ws 5)=o at *;generalize gu (aj ws 7)=cp at *
       gi_wp2_with fail
       refine ⟨trivial,(CallsIn.inRound l (callsIn_wide.2 Hn.o)).mono ?_⟩;rintro e d ⟨nv,dv,rfl,ha,hh,⟨f,q,nc,rfl,he⟩,⟨s,z,u,rfl,hz⟩,Hi⟩;have Hl:Apart (λ_=>False) J ((d.alloc (iu nm n2 p i o f q nc)).alloc (.cells #[.int .u64 cp,.slice s z u] 123)):=((Ha.trans (Apart.of_below Hi)).trans (Apart.alloc _ _ _)).trans (Apart.alloc _ _ _);clear s0 q0 Z H c2;obtain ⟨c0,f0,c1,f1⟩:=pd Hl Hj.o Hk.o;clear ha hh he hz Hi
       gi_wp2_with fail
       exact pf Hl Hj.o Hk.o Hb.o Hz.o Hh Hq.o
     ·have JY:hs.length=0:=by omega
      have Hq:=qI (Hx.o (tn (by simp [jl,T]) λ_=>h0));have H:=Ha.boxed HL.o id;have c2:=H.cell;rw [JY] at c2 H;obtain ⟨c0,f0,c1,f1⟩:=pd Ha Hj.o Hk.o
      gi_wp2_with fail
      exact pf Ha Hj.o Hk.o Hb.o Hz.o Hh Hq.o
    ·have JU:((ws.length:Int) == 9)=false:=by simp;omega
     have Hq:=qI (Hx.o (tn (by simp [jl,T]) (λh=>by simp [nE,D] at h)));obtain ⟨c0,f0,c1,f1⟩:=pd Ha Hj.o Hk.o
     gi_wp2_with fail
     exact pf Ha Hj.o Hk.o Hb.o Hz.o Hh Hq.o
   ·rw [Q7 hc] at Z;have Hq:=qI (Hx.o (tn (by simp [jl,T]) (λh=>by simp [nE,hc] at h)));obtain ⟨c0,f0,c1,f1⟩:=pd Ha Hj.o Hk.o
    gi_wp2_with fail
    exact pf Ha Hj.o Hk.o Hb.o Hz.o Hh Hq.o
 case done=>
  intro W hI hD;rw [hJ.o,<- H5.o] at hI;obtain ⟨_,HK,HO,⟨v,hs,Hi,X,HD,_⟩,Hm⟩:=hI;rw [Qh] at HD;have HS:=qI (h6.o.trans HD);have hu:=qI X;have c2:=Hi.cell;have c1:=HO.cell;have c0:=HK.cell;have f1:=HO.frozen;have f0:=HK.frozen;have Hb:=qI Hm;have Hj:=qI HK;have Hk:=qI HO;obtain ⟨O,vc,rfl⟩:=X.slice;clear Hm X He hE hC HD ho hw;generalize hs.length=hl at *
  gi_wp2_with fail
  have Hc:Apart (λj=>j=w.heap.size\/j=w.heap.size+1) W ((W.setCell w (.slice O hl vc)).setCell (w.heap.size+1:Nat) true):=(Apart.setCell (.inl rfl) _ _ _).trans (Apart.setCell (.inr rfl) _ _ _);have d0:=(Apart.setCell (K:=λj=>j=w.heap.size+1) rfl _ 0 true).boxed (Hj.o.set (.slice O hl vc)) (by omega);have d1:=((Apart.setCell (K:=λj=>j=w.heap.size) rfl W 0 (.slice O hl vc)).boxed Hk.o (by omega)).set true;have Jv:=(Hc.block A (gS hD).1 (by omega)).trans hD;generalize (W.setCell w (.slice O hl vc)).setCell (w.heap.size+1:Nat) true=W5 at *;have Hf:Apart (λj=>j=A.heap.size) W5 (W5.putObj A (.deferred none)):=Apart.putObj (K:=λj=>j=A.heap.size) rfl _ _;have e1:=(Hf.boxed d0 (by omega)).cell;have e2:=(Hf.boxed d1 (by omega)).cell;have JO:=qI (((hu.o.apart Hc (λj r=>by omega)).apart Hf (λj r=>by omega)).apart (Apart.masked (λj=>j<w.heap.size) _) (λj r=>by omega)).plain;have hN:=qI (Hf.below (Hc.below Hb.o (lR) (λj r=>by omega)) (lR) (λj r=>by omega));refine ⟨by simp,.inl ⟨_,_,rfl,run_takeDeferred Jv,?_⟩⟩;refine ⟨.tuple #[.slice O hl vc,true],?_,.slice O hl vc,by rw [HS.o];rfl,λP G=>?_,⟨_,_,_,rfl⟩,hN.o⟩
  ·generalize W5.putObj A (Obj.deferred none)=W6 at *;rw [mC rfl];go_simp
  ·rw [HS.o] at G;cases G;exact JO.o
 case stop=>
  rintro c W ⟨rfl,h4,h5,N,M⟩ hD;have c1:=h4.cell;have c2:=h5.cell;have HN:=qI M;have HB:=qI N;clear M N He hE hC ho hw
  gi_wp2_with fail
  have Hf:Apart (λj=>j=A.heap.size) W (W.putObj A (.deferred none)):=Apart.putObj (K:=λj=>j=A.heap.size) rfl _ _;have e1:=(Hf.boxed h4 (by omega)).cell;have e2:=(Hf.boxed h5 (by omega)).cell;have hN:=qI (Hf.below HB.o (lR) (λj r=>by omega));refine ⟨by simp,.inl ⟨_,_,rfl,run_takeDeferred hD,?_⟩⟩;refine ⟨.tuple #[.slice none 0 0,false],?_,.slice none 0 0,by rw [HN.o];rfl,λP G=>?_,⟨_,_,_,rfl⟩,hN.o⟩
  ·generalize W.putObj A (Obj.deferred none)=W6 at *;rw [mC rfl];go_simp
  ·rw [HN.o] at G;cases G
theorem Pz (t:List UInt8) (w:World) (a:t.length<=7000) (c:cO w):Calls prog 157 #[.string ⟨t.toArray⟩] w (Pj w t):=
 (CZ t w a c).mono λ_ _ ⟨v,he,h,hs,hb⟩=>⟨v,he,λl b=>(h l b).le (dm _ _),hs,hb⟩
def fQ:aR:=[115,117,109,32]
def jY (t:aR):Int:=Lib.lastIndex t fQ
def eJ (t:aR):Option aR:=if 0<=jY t then if t.drop (jY t).toNat=di (t.take (jY t).toNat) then some (t.take (jY t).toNat) else none else none
def nV (t:aR):aR:=if 0<=jY t then t.take (jY t).toNat else []
theorem wZ (t:aR) (j:Nat):Lib.occAt t fQ j=true↔(t.drop j).take 4=fQ:=by
 unfold Lib.occAt;rw [List.isPrefixOf_iff_prefix,List.prefix_iff_eq_take];exact ⟨λh=>h.symm,λh=>h.symm⟩
theorem C0 (t:aR):(jY t=-1/\∀ j,(t.drop j).take 4≠fQ)\/∃ i:Nat,jY t=i/\i+4<=t.length/\(t.drop i).take 4=fQ/\∀ j,i<j->(t.drop j).take 4≠fQ:=by
 have Ha:∀ j,t.length<j+4->(t.drop j).take 4≠fQ:=λj b e=>by
  have:=congrArg List.length e
  simp [fQ] at this
  omega
 unfold jY Lib.lastIndex
 by_cases a:fQ.length<=t.length
 ·rw [if_pos a];have Hc:4<=t.length:=a
  rcases Lib.lastOcc_spec t fQ (t.length - fQ.length+1) with ⟨d,c⟩|⟨i,d,c,k,g⟩
  ·refine .inl ⟨d,λj=>?_⟩
   by_cases b:t.length<j+4
   ·exact Ha j b
   ·have:=c j (by show j<t.length - 4+1;omega)
    exact λe=>by rw [(wZ t j).2 e] at this;cases this
  ·have Hb:i<t.length - 4+1:=d;refine .inr ⟨i,c,by omega,?_,λj b=>?_⟩
   ·exact (wZ t i).1 k
   ·by_cases f:t.length<j+4
    ·exact Ha j f
    ·have:=g j b (by show j<t.length - 4+1;omega)
     exact λe=>by rw [(wZ t j).2 e] at this;cases this
 ·rw [if_neg a];refine .inl ⟨rfl,λj=>Ha j ?_⟩
  have:t.length<4:=by have h:¬ 4<=t.length:=a;omega
  omega
theorem PA (h:eJ t=some b):t=b++di b:=by grind [eJ,List.take_append_drop]
theorem PB (b:aR) (k:Nat):0<k->((di b).drop k).take 4≠fQ:=by
 intro c e;have Ha:(115:UInt8)∈(di b).drop k:=by
  have:(115:UInt8)∈((di b).drop k).take 4:=by rw [e];simp [fQ]
  exact List.mem_of_mem_take this
 have a:(115:UInt8)∈(di b).drop 1:=by
  obtain ⟨j,rfl⟩:∃ j,k=1+j:=⟨k - 1,by omega⟩;rw [<- List.drop_drop] at Ha;exact List.mem_of_mem_drop Ha
 unfold di at a
 simp at a
 exact oz _ 115 (by decide) a
theorem PC (b:aR):jY (b++di b)=b.length:=by
 have Ha:((b++di b).drop b.length).take 4=fQ:=by
  rw [List.drop_left];unfold di fQ
  simp
 rcases C0 (b++di b) with ⟨_,h⟩|⟨i,d,e,a,c⟩
 ·exact absurd Ha (h _)
 ·rw [d]
  rcases Nat.lt_trichotomy i b.length with h|h|h
  ·exact absurd Ha (c _ h)
  ·rw [h]
  ·exfalso
   obtain ⟨j,rfl⟩:∃ j,i=b.length+j:=⟨i - b.length,by omega⟩;rw [<- List.drop_drop,List.drop_left] at a;exact PB b j (by omega) a
theorem PD (b:aR):eJ (b++di b)=some b:=by
 unfold eJ;rw [PC]
 simp
theorem PF (h:eJ t=some b):nV t=b:=by grind [eJ,nV]
theorem PG (h:eJ t=some b):b.length<=t.length:=by rw [PA h];simp
theorem PH (t:List UInt8) (w:World) (o:t.length<=1000000) (a:cD w):Calls prog 156 #[.string ⟨t.toArray⟩] w λe w'=>
  e=.returned (.tuple #[.string ⟨(nV t).toArray⟩,.bool (eJ t).isSome])/\Below w w w':=by
 have n:=qI a;have Ha:=qI (Tryz.strings_LastIndex ⟨t.toArray⟩ ⟨#[115,117,109,32]⟩ (by simp [ByteArray.size];omega) w);rw [show (ByteArray.mk t.toArray).data.toList=t by simp,show (ByteArray.mk #[115,117,109,32]).data.toList=fQ from rfl,show Lib.lastIndex t fQ=jY t from rfl] at Ha
 rcases C0 t with ⟨b,d⟩|⟨i,b,d,l,k⟩
 ·have c:Hu (eJ t=none):=by
   unfold Hu eJ;rw [b];rfl
  have Hc:Hu (nV t=[]):=by unfold Hu nV;rw [b];rfl
  rw [b] at Ha;clear b d a
  go_enter func156,ntmps156
  go_wp2_with fail
  refine Ha.o.mono ?_;rintro e f ⟨rfl,rfl⟩
  go_wp2
  go_ret2;exact ⟨by rw [c.o,Hc.o];rfl,Q0 _ _⟩
 ·have c:Hu (eJ t=if t.drop i=di (t.take i) then some (t.take i) else none):=by
   unfold Hu eJ;rw [b,if_pos (by omega)];rfl
  rw [b] at Ha;have Hg:Hu ((ByteArray.mk t.toArray).extract 0 i=⟨(t.take i).toArray⟩):=by unfold Hu;apply ByteArray.ext;simp
  have Hh:Hu ((ByteArray.mk t.toArray).extract i t.length=⟨(t.drop i).toArray⟩):=by unfold Hu;apply ByteArray.ext;simp;exact List.take_of_length_le (by simp)
  have Hi:(decide ((i:Int)<0))=false:=by simp
  have hle:i<=t.length:=by omega
  have Hc:Hu (nV t=t.take i):=by unfold Hu nV;rw [b,if_pos (by omega)];rfl
  have Hf:Hu ((t.drop i == di (t.take i))=(eJ t).isSome):=by
   unfold Hu;rw [c.o]
   by_cases h:t.drop i=di (t.take i)
   ·rw [h];simp
   ·rw [if_neg h]
    simpa using h
  clear b d l k a c
  go_enter func156,ntmps156
  go_wp2_with fail
  refine Ha.o.mono ?_;rintro e f ⟨rfl,rfl⟩
  go_wp2_with fail
  refine wp_region_held_drew (S:=(λ_=>True)) (by kernel_rfl) trivial λm=>?_;refine tk 0 ?_;refine tk 1 ?_;refine tk 2 ?_;refine tk 3 ?_;refine tk 4 ?_;refine tk 5 ?_;refine tk 6 ?_;refine tk 7 ?_;refine tk 8 ?_;refine rd 9 λK j=>?_;go_simp
  go_wp2_with fail
  rw [Hg.o,Hh.o];have Hb:=qI (jq (Q0 f f));refine (BZ (t.take i) _ (by simp;omega) (n.o.below Hb.o).1).mono ?_;rintro e p ⟨rfl,g⟩;have He:=qI (Hb.o.trans (g.mono Hb.o.size));clear g
  go_wp2_with fail
  refine j.o _ _ trivial λm=>?_;clear j K;refine tk 10 ?_;refine tk 11 ?_;refine tk 12 ?_;refine Qn (by kernel_rfl) ?_ _
  go_wp2
  go_ret2;exact ⟨by rw [Hc.o,<- Hf.o];rfl,He.o⟩
def fA (t:aR):Nat × List ad:=
 if 6000<t.length then (2,[]) else
 match eJ t with
 | none=>(12,[])
 | some b=>match gp b with
  | none=>(4,[])
  | some hs=>if bt hs=0/\bi hs=t then (0,hs) else (4,[])
theorem C5 (h:6000<t.length):fA t=(2,[]):=if_pos h
theorem C6 (h:¬ 6000<t.length) (a:eJ t=none):fA t=(12,[]):=by
 unfold fA;rw [if_neg h,a]
theorem C7 (h:¬ 6000<t.length) (c:eJ t=some b) (a:gp b=none):fA t=(4,[]):=by
 unfold fA;rw [if_neg h,c];dsimp only;rw [a]
theorem w9 (h:¬ 6000<t.length) (c:eJ t=some b) (a:gp b=some hs):fA t=if bt hs=0/\bi hs=t then (0,hs) else (4,[]):=by
 unfold fA;rw [if_neg h,c];dsimp only;rw [a]
theorem PI (e:li hs) (hf:bt hs=0) (a:(bi hs).length<=6000):fA (bi hs)=(0,hs):=by grind [eJ,bi,cX,PD,w9,Lp]
theorem C8 (h:(fA t).1=0):bt (fA t).2=0/\bi (fA t).2=t/\t.length<=6000:=by
 by_cases a:6000<t.length
 ·rw [C5 a] at h;cases h
 ·cases h1:eJ t with
  | none=>rw [C6 a h1] at h;cases h
  | some b=>
   cases h2:gp b with
   | none=>rw [C7 a h1 h2] at h;cases h
   | some hs=>
    rw [w9 a h1 h2] at h ⊢
    by_cases c:bt hs=0/\bi hs=t
    ·rw [if_pos c];exact ⟨c.1,c.2,by omega⟩
    ·rw [if_neg c] at h;cases h
def VC (w:World) (t:List UInt8) (e:Ending) (w':World):Prop:=
 ∃ v,e=.returned (.tuple #[v,aL ((fA t).1:Nat)])/\aX w' v (fA t).2/\Below w w w'
def PJ (w:World) (t:List UInt8) (e:Ending) (w':World):Prop:=
 ∃ v,e=.returned (.tuple #[v,aL ((fA t).1:Nat)])/\aX (av (λj=>j<w.heap.size) w') v (fA t).2/\Below w w w'
theorem jZ (w:World):aX w (.slice none 0 0) []:=⟨none,0,rfl,⟨lR,by unfold maxLen;omega⟩,λh=>by simp at h⟩
theorem PK (t:List UInt8) (w:World) (u:t.length<=1000000) (f:cD w) (r:cO w):Calls prog 116 #[.string ⟨t.toArray⟩] w (PJ w t):=by
 have l:=qI f;have s:=qI r;clear f r
 by_cases i:6000<t.length
 ·have d:=qI (C5 i);have y:decide ((6000:Int)<(t.length:Int))=true:=by simp;omega
  go_enter func116,ntmps116
  go_wp2
  go_ret2;exact ⟨_,by rw [d.o];rfl,by rw [d.o];exact jZ _,Q0 _ _⟩
 ·have y:decide ((6000:Int)<(t.length:Int))=false:=by simp;omega
  have Hf:=qI (PH t w u l.o);cases h1:eJ t with
  | none=>
   have d:=qI (C6 i h1);rw [h1] at Hf;clear h1
   go_enter func116,ntmps116
   go_wp2_with fail
   refine Hf.o.mono ?_;rintro e m ⟨rfl,He⟩;have Hb:=qI He;clear He
   go_wp2
   go_ret2;exact ⟨_,by rw [d.o];rfl,by rw [d.o];exact jZ _,Hb.o⟩
  | some b=>
   rw [PF h1,h1] at Hf;have Hr:b.length<=t.length:=PG h1;cases h2:gp b with
   | none=>
    have d:=qI (C7 i h1 h2);clear h1;have Hj:Hu (∀ W,cO W->Calls prog 157 #[.string ⟨b.toArray⟩] W λe w'=>∃ a n c,e=.returned (.tuple #[.slice a n c,false])/\Below W.heap.size W w'):=λW o=>(Pz b W (by omega) o).mono (by
     rintro e w' ⟨v,rfl,_,⟨a,n,c,rfl⟩,p⟩;exact ⟨a,n,c,by rw [h2];rfl,p⟩)
    clear h2
    go_enter func116,ntmps116
    go_wp2_with fail
    refine Hf.o.mono ?_;rintro e m ⟨rfl,He⟩;have Hb:=qI He;clear He
    go_wp2_with fail
    refine (Hj.o m (s.o.below Hb.o)).mono ?_;rintro e k ⟨a,n,c,rfl,Hg⟩;have Ha:=qI (Hb.o.trans (Hg.mono Hb.o.size));clear Hg
    go_wp2
    go_ret2;exact ⟨_,by rw [d.o];rfl,by rw [d.o];exact jZ _,Ha.o⟩
   | some hs=>
    have d:=qI (w9 i h1 h2);clear h1;have Hj:Hu (∀ W,cO W->Calls prog 157 #[.string ⟨b.toArray⟩] W λe w'=>∃ a n c,e=.returned (.tuple #[.slice a n c,true])/\aX (av (λj=>j<W.heap.size) w') (.slice a n c) hs/\Below W.heap.size W w'):=λW o=>(CZ b W (by omega) o).mono (by
     rintro e w' ⟨v,rfl,h,⟨a,n,c,rfl⟩,p⟩;exact ⟨a,n,c,by rw [h2];rfl,h hs h2,p⟩)
    clear h2
    go_enter func116,ntmps116
    go_wp2_with fail
    refine Hf.o.mono ?_;rintro e m ⟨rfl,He⟩;have Hb:=qI He;clear He
    go_wp2_with fail
    refine (Hj.o m (s.o.below Hb.o)).mono ?_;rintro e k ⟨a,n,c,rfl,Hk,Hg⟩;have Ha:=qI (Hb.o.trans (Hg.mono Hb.o.size));have Hp:=qI Hk;have Hm:=qI (Hk.le (dm _ _));have Hq:=Hb.o.size;clear Hg Hk Hj Hf
    by_cases hf:bt hs=0
    ·have Hi:Hu (iQ hs=.tuple #[.string ⟨(bi hs).toArray⟩,.nilIface]):=by unfold Hu iQ;rw [if_pos hf]
     by_cases g:bi hs=t
     ·rw [if_pos ⟨hf,g⟩] at d;rw [g] at Hi;clear hf g
      go_wp2_with fail
      refine (tl _ hs k Hm.o (l.o.below Ha.o)).mono ?_;rintro e q ⟨rfl,Hc⟩;have Hh:=qI (Ha.o.trans (Hc.mono Ha.o.size));have Hl:=qI (Hp.o.le (nI (M':=λj=>j<w.heap.size) (Apart.of_below Hc) (λj _ z=>by omega)));clear Hc;rw [Hi.o]
      go_wp2
      go_ret2;exact ⟨_,by rw [d.o];rfl,by rw [d.o];exact Hl.o,Hh.o⟩
     ·rw [if_neg λh=>g h.2] at d;have Hs:(bi hs == t)=false:=by simpa using g
      have Ho:(bi hs != t)=true:=by simpa using g
      generalize bi hs=x at *;clear hf g
      go_wp2_with fail
      refine (tl _ hs k Hm.o (l.o.below Ha.o)).mono ?_;rintro e q ⟨rfl,Hc⟩;have Hh:=qI (Ha.o.trans (Hc.mono Ha.o.size));clear Hc;rw [Hi.o]
      go_wp2
      go_ret2;exact ⟨_,by rw [d.o];rfl,by rw [d.o];exact jZ _,Hh.o⟩
    ·rw [if_neg λh=>hf h.1] at d;have Hi:Hu (iQ hs=.tuple #[.string ⟨#[]⟩,aL (bt hs:Nat)]):=by unfold Hu iQ;rw [if_neg hf]
     have Hn:=qI (eV hf);clear hf
     go_wp2_with fail
     refine (tl _ hs k Hm.o (l.o.below Ha.o)).mono ?_;rintro e q ⟨rfl,Hc⟩;have Hh:=qI (Ha.o.trans (Hc.mono Ha.o.size));clear Hc;rw [Hi.o,Hn.o]
     go_wp2
     go_ret2;exact ⟨_,by rw [d.o];rfl,by rw [d.o];exact jZ _,Hh.o⟩
structure Dk where
 n:Sd
 k:Sd
 wt:Option Chg
 l:Int
 d:Bool
def bj (W:World) (B:Nat) (s:Dk):Prop:=(-9223372036854775808<=s.l/\s.l<=9223372036854775807)/\∃ v,aQ W B s.n s.k v s.l s.d/\
 match s.wt with
 | none=>v=.slice none 0 0
 | some c=>∃ g cap,v=.slice (some ⟨g,0,none⟩) 1 cap/\1<=cap/\g≠B/\kz W g c.wr c.bs
theorem bj.lt {s:Dk} (h:bj W B s):B<W:=by
 obtain ⟨_,v,h,_⟩:=h;exact h.lt
theorem bj.below {s:Dk} (h:bj W B s) (d:Below W W W'):bj W' B s:=by
 obtain ⟨j,v,f,a⟩:=h;refine ⟨j,v,f.block (d.block B f.lt),?_⟩;cases hw:s.wt with
 | none=>rw [hw] at a;exact a
 | some c=>
  rw [hw] at a;obtain ⟨g,b,e,k,i,Ha⟩:=a;exact ⟨g,b,e,k,i,Ha.block (d.block g Ha.1)⟩
theorem C9 {d w':World} (b:Below base d w) (a:w.grownBy w' (some B)) (h:base<=B) (g:base<=w):Below base d w':=
 ⟨a.os.trans b.os,a.tape.trans b.tape,a.output.trans b.output,Q5 b.size a.size,λj f=>by
  by_cases c:j<w.heap.size
  ·exact (a.block j c (λe=>by injection e with e;omega)).trans (b.block j f)
  ·omega⟩
def Dk.fresh:Dk:=⟨⟨false,⟨#[]⟩,false,⟨#[]⟩⟩,⟨false,⟨#[]⟩,false,⟨#[]⟩⟩,none,-1,false⟩
theorem PM (w:World):Calls prog 26 #[] w λe w'=>e=.returned w/\bj w' w Dk.fresh/\Below w w w':=by
 go_enter func26,ntmps26
 go_wp2
 go_ret;exact ⟨rfl,⟨⟨by decide,by decide⟩,_,World.alloc_heap_new w _,rfl⟩,(Q0 _ _).alloc (lR) _⟩
theorem bj.only {s a:Dk} (h:bj W B s) (j:W.grownBy W' (some B)) (m:a.wt=s.wt) (i:-9223372036854775808<=a.l/\a.l<=9223372036854775807) (af:∀ v,aQ W B s.n s.k v s.l s.d->aQ W' B a.n a.k v a.l a.d):bj W' B a:=by
 obtain ⟨_,v,k,b⟩:=h;refine ⟨i,v,af v k,?_⟩;rw [m];cases hw:s.wt with
 | none=>rw [hw] at b;exact b
 | some c=>
  rw [hw] at b;obtain ⟨g,d,e,l,f,Ha⟩:=b;exact ⟨g,d,e,l,f,Ha.block (j.block g Ha.1 λe=>f (by injection e with e))⟩
theorem PN (w:World) (j:Int):Sem.run prog (binOp .eql 40 .nilIface (.iface 108 j)) w=.ok false w:=by
 rfl
theorem Da (w:World) (i j:Int):Sem.run prog (binOp .eql 40 (.iface 108 i) (.iface 108 j)) w=.ok (.bool (i == j)) w:=by
 rfl
def Dk.load (s:Dk):Nat × List ad:=if s.d=true then (11,[]) else if s.n.ft=true then fA s.n.fb.data.toList else (0,[])
def xd (w:World) (s:Dk) (e:Ending) (w':World):Prop:=∃ v,e=.returned (.tuple #[v,aL ((s.load.1:Nat):Int)])/\aX (av (λj=>j<w.heap.size) w') v s.load.2/\Below w w w'
theorem Db (B:Nat) (s:Dk) (w:World) (h:bj w B s) (hs:s.n.fb.data.toList.length<=1000000) (j:cD w) (m:cO w):Calls prog 71 #[B] w (xd w s):=by
 obtain ⟨_,v,g,_⟩:=h;have b:=qI (LO B s.n s.k v s.l s.d w g);clear g;unfold vY at b
 by_cases af:s.d=true
 ·have a:Hu (s.load=(11,[])):=by unfold Hu Dk.load;rw [if_pos af]
  rw [if_pos af] at b
  go_enter func71,ntmps71
  go_wp2_with fail
  refine b.o.mono ?_;rintro e i ⟨rfl,rfl⟩
  go_wp2_with fail
  rw [Da]
  go_wp2
  go_ret2;exact ⟨_,by rw [a.o];rfl,by rw [a.o];exact jZ _,Q0 _ _⟩
 ·rw [if_neg af] at b
  by_cases hf:s.n.ft=true
  ·have a:Hu (s.load=fA s.n.fb.data.toList):=by unfold Hu Dk.load;rw [if_neg af,if_pos hf]
   rw [if_pos hf] at b;have d:=qI (PK s.n.fb.data.toList w hs j m);rw [show (ByteArray.mk s.n.fb.data.toList.toArray)=s.n.fb by simp] at d;generalize s.n.fb=fb at *
   go_enter func71,ntmps71
   go_wp2_with fail
   refine b.o.mono ?_;rintro e i ⟨rfl,rfl⟩
   go_wp2_with fail
   rw [PN]
   go_wp2_with fail
   refine d.o.mono ?_;rintro e n ⟨u,rfl,f,c⟩;have k:=qI f;have l:=qI c;clear f c
   go_wp2
   go_ret2;exact ⟨u,by rw [a.o];rfl,by rw [a.o];exact k.o,l.o⟩
  ·have a:Hu (s.load=(0,[])):=by unfold Hu Dk.load;rw [if_neg af,if_neg hf]
   rw [if_neg hf] at b
   go_enter func71,ntmps71
   go_wp2_with fail
   refine b.o.mono ?_;rintro e i ⟨rfl,rfl⟩
   go_wp2_with fail
   rw [Da]
   go_wp2
   go_ret2;exact ⟨_,by rw [a.o];rfl,by rw [a.o];exact jZ _,Q0 _ _⟩
def Dk.fall (s:Dk):Dk:={ s with l:=bu s.l s.d,d:=true }
def Dk.apply (s:Dk) (c:Chg):Nat × Dk:=if cf s.l s.d=0 then (0,⟨c.on s.n,s.k,some c,bu s.l s.d,false⟩) else (11,s.fall)
def Dk.sync (s:Dk):Nat × Dk:=if cf s.l s.d=0 then (0,⟨s.n,s.n,none,bu s.l s.d,false⟩) else (11,s.fall)
def Dk.write (s:Dk) (t:ByteArray):Nat × Dk:=if 6000<t.size then (2,s) else s.apply ⟨true,t⟩
theorem tt (h:-9223372036854775808<=l/\l<=9223372036854775807):-9223372036854775808<=bu l d/\bu l d<=9223372036854775807:=by
 unfold bu
 split
 ·exact h
 ·split <;> omega
theorem xe (h:cf l d≠0):cf l d=11/\fM l d=true:=by
 rcases qv l d with a|a
 ·exact a
 ·exact absurd a.1 h
theorem bj.fall {s:Dk} (h:bj W B s) (a:W.grownBy W' (some B)) (af:∀ v,aQ W B s.n s.k v s.l s.d->aQ W' B s.n s.k v (bu s.l s.d) true):bj W' B s.fall:=
 h.only a rfl (tt h.1) af
theorem bj.waits {n k:Sd} {l:Int} {c:Chg} (i:B<W) (d:-9223372036854775808<=l/\l<=9223372036854775807) (h:sY W W' B n k l c.wr c.bs):bj W' B ⟨n,k,some c,l,false⟩:=by
 obtain ⟨g,a,f,⟨j,e⟩,b⟩:=h;exact ⟨d,_,f,g,a,rfl,e,by omega,b⟩
theorem bj.val {s:Dk} (h:bj W B s):∃ v,aQ W B s.n s.k v s.l s.d/\(∀ v2,aQ W B s.n s.k v2 s.l s.d->v2=v)/\(s.wt=none->v=.slice none 0 0):=by
 obtain ⟨_,v,d,c⟩:=h;refine ⟨v,d,λv2 b=>?_,λe=>?_⟩
 ·have f:=d.rest.1;have a:=b.rest.1;rw [f] at a;injection a with a;exact a.symm
 ·rw [e] at c;exact c
theorem Dc (B:Nat) (s:Dk) (w:World) (h:bj w B s):Calls prog 70 #[B] w λe w'=>e=.returned (aL (s.sync.1:Nat))/\bj w' B s.sync.2/\w.grownBy w' (some B):=by
 obtain ⟨v,j,g,k⟩:=h.val;refine (LP B s.n s.k v s.l s.d w j h.1).mono ?_
 by_cases a:cf s.l s.d=0
 ·have Ha:s.sync=(0,⟨s.n,s.n,none,bu s.l s.d,false⟩):=by unfold Dk.sync;rw [if_pos a]
  have f:fM s.l s.d=false:=by
   rcases qv s.l s.d with b|b
   ·rw [a] at b;exact absurd b.1 (by decide)
   ·exact b.2
  rw [Ha,a,if_pos rfl,if_pos rfl,f];rintro e w' ⟨rfl,af,c⟩;exact ⟨rfl,⟨tt h.1,_,af,rfl⟩,c.1⟩
 ·have Ha:s.sync=(11,s.fall):=by unfold Dk.sync;rw [if_neg a]
  obtain ⟨i,f⟩:=xe a;rw [Ha,i,if_neg (by decide),if_neg (by decide),f];rintro e w' ⟨rfl,af,c⟩;exact ⟨rfl,h.fall c.1 (λv2 d=>by rw [g v2 d];exact af),c.1⟩
theorem PO (B:Nat) (s:Dk) (w:World) (h:bj w B s) (g:s.n.dt=true) (k:s.wt=none):Calls prog 98 #[B] w λe w'=>e=.returned (aL ((s.apply ⟨false,⟨#[]⟩⟩).1:Nat))/\bj w' B (s.apply ⟨false,⟨#[]⟩⟩).2/\w.grownBy w' (some B):=by
 obtain ⟨v,f,j,i⟩:=h.val
 by_cases a:cf s.l s.d=0
 ·have Ha:s.apply ⟨false,⟨#[]⟩⟩=(0,⟨Chg.on ⟨false,⟨#[]⟩⟩ s.n,s.k,some ⟨false,⟨#[]⟩⟩,bu s.l s.d,false⟩):=by unfold Dk.apply;rw [if_pos a]
  rw [Ha];have Hb:=f;rw [i k] at Hb;refine (Nf B s.n s.k s.l s.d w Hb h.1 a g).mono ?_;rintro e w' ⟨rfl,af,b⟩;exact ⟨rfl,bj.waits (c:=⟨false,⟨#[]⟩⟩) f.lt (tt h.1) af,b⟩
 ·have Ha:s.apply ⟨false,⟨#[]⟩⟩=(11,s.fall):=by unfold Dk.apply;rw [if_neg a]
  rw [Ha];refine (Ng B s.n s.k v s.l s.d w f h.1 (xe a).1 g).mono ?_;rintro e w' ⟨rfl,af,b⟩;exact ⟨rfl,h.fall b (λv2 d=>by rw [j v2 d];exact af),b⟩
theorem PP (B:Nat) (s:Dk) (t:ByteArray) (w:World) (h:bj w B s) (b:s.wt=none\/s.d=true) (j:t.size<=maxLen):Calls prog 97 #[B,t] w λe w'=>e=.returned (aL ((s.write t).1:Nat))/\bj w' B (s.write t).2/\w.grownBy w' (some B):=by
 obtain ⟨v,i,l,k⟩:=h.val
 by_cases g:6000<t.size
 ·have Ha:s.write t=(2,s):=if_pos g;rw [Ha];refine (Nb B t w g j).mono ?_;rintro e w' ⟨rfl,rfl⟩;exact ⟨rfl,h,⟨rfl,rfl,rfl,lR,λ_ _ _=>rfl⟩⟩
 ·have Hb:s.write t=s.apply ⟨true,t⟩:=if_neg g
  by_cases a:cf s.l s.d=0
  ·have Ha:s.write t=(0,⟨Chg.on ⟨true,t⟩ s.n,s.k,some ⟨true,t⟩,bu s.l s.d,false⟩):=by rw [Hb];unfold Dk.apply;rw [if_pos a]
   rw [Ha];have He:s.wt=none:=by
    rcases b with b|b
    ·exact b
    ·unfold cf at a;rw [if_pos (.inl b)] at a;cases a
   have Hc:=i;rw [k He] at Hc;refine (Nc B s.n s.k s.l s.d t w Hc h.1 a (by omega)).mono ?_;rintro e w' ⟨rfl,af,d⟩;exact ⟨rfl,bj.waits (c:=⟨true,t⟩) i.lt (tt h.1) af,d⟩
  ·have Ha:s.write t=(11,s.fall):=by rw [Hb];unfold Dk.apply;rw [if_neg a]
   rw [Ha];refine (Nd B s.n s.k v s.l s.d t w i h.1 (xe a).1 (by omega)).mono ?_;rintro e w' ⟨rfl,af,d⟩;exact ⟨rfl,h.fall d (λv2 f=>by rw [l v2 f];exact af),d⟩
def Dk.act (t:ByteArray) (k:Nat) (s:Dk):Nat × Dk:=if k=0 then s.write t else if k=2 then s.apply ⟨false,⟨#[]⟩⟩ else s.sync
def Dk.run (s:Dk) (t:ByteArray):Nat->Dk
 | 0=>s
 | k+1=>(Dk.act t k (Dk.run s t k)).2
def Dk.err (s:Dk) (t:ByteArray) (k:Nat):Nat:=(Dk.act t k (s.run t k)).1
def Dk.from (s:Dk) (t:ByteArray) (k:Nat):Nat × Dk:=
 if k<4 then if s.err t k≠0 then (s.err t k,s.run t (k+1)) else Dk.from s t (k+1) else (0,s.run t k)
termination_by 4 - k
theorem Dk.from_no {s:Dk} {t:ByteArray} (a:k<4) (h:s.err t k≠0):s.from t k=(s.err t k,s.run t (k+1)):=by rw [Dk.from,if_pos a,if_pos h]
theorem Dk.from_yes {s:Dk} {t:ByteArray} (a:k<4) (h:s.err t k=0):s.from t k=s.from t (k+1):=by rw [Dk.from,if_pos a,if_neg (by simp [h])]
theorem Dk.from_end {s:Dk} {t:ByteArray}:s.from t 4=(0,s.run t 4):=by rw [Dk.from,if_neg (by decide)]
def Dk.save (s:Dk) (hs:List ad):Nat × Dk:=if bt hs=0 then s.from ⟨(bi hs).toArray⟩ 0 else (bt hs,s)
theorem tu {s:Dk} {t:ByteArray} {k:Nat} (h:(Dk.act t k s).1=0):(Dk.act t k s).2=(if k=0 then ⟨Chg.on ⟨true,t⟩ s.n,s.k,some ⟨true,t⟩,bu s.l s.d,false⟩ else if k=2 then ⟨Chg.on ⟨false,⟨#[]⟩⟩ s.n,s.k,some ⟨false,⟨#[]⟩⟩,bu s.l s.d,false⟩ else ⟨s.n,s.n,none,bu s.l s.d,false⟩):=by grind [Dk.act,Dk.write,Dk.apply,Dk.sync]
theorem Dd {s:Dk} {t:ByteArray} (a:s.err t 0=0):s.run t 1=⟨Chg.on ⟨true,t⟩ s.n,s.k,some ⟨true,t⟩,bu s.l s.d,false⟩:=tu (k:=0) a
theorem tv {s:Dk} {t:ByteArray} (a:s.err t 0=0) (b:s.err t 1=0):s.run t 2=⟨Chg.on ⟨true,t⟩ s.n,Chg.on ⟨true,t⟩ s.n,none,bu (bu s.l s.d) false,false⟩:=by
 refine (tu (k:=1) b).trans ?_;rw [if_neg (by decide),if_neg (by decide),Dd a]
theorem De {s:Dk} {t:ByteArray} (a:s.err t 0=0) (c:s.err t 1=0) (b:s.err t 2=0):s.run t 3=⟨⟨true,t,false,⟨#[]⟩⟩,Chg.on ⟨true,t⟩ s.n,some ⟨false,⟨#[]⟩⟩,bu (bu (bu s.l s.d) false) false,false⟩:=by
 refine (tu (k:=2) b).trans ?_;rw [if_neg (by decide),if_pos rfl,tv a c];rfl
theorem Df {s:Dk} {t:ByteArray} (b:s.err t 0=0) (d:s.err t 1=0) (c:s.err t 2=0) (a:s.err t 3=0):s.run t 4=⟨⟨true,t,false,⟨#[]⟩⟩,⟨true,t,false,⟨#[]⟩⟩,none,bu (bu (bu (bu s.l s.d) false) false) false,false⟩:=by
 refine (tu (k:=3) a).trans ?_;rw [if_neg (by decide),if_neg (by decide),De b d c]
