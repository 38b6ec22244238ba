import Derived.Test.YtbmmnflgnmjboaaGreatDoorL11
import Derived.Sort.Walk0
set_option maxRecDepth 100000
set_option maxHeartbeats 16000000
namespace Go.Proofs.YtbmmnflgnmjboaaGreatDoor
section
namespace Ol
open Ost (Cpu af cnt dif)
open Dvs (Dv dv)
open Qos (Nd Ct Pd ct aF)
open Sv (Gv Hd gv hd)
def mv (cs:List Ct):Prop:=∀ c∈cs,(∀ n∈c.ds,n.many≠0)/\c.ds.Pairwise λa b=>a.kind≠b.kind
def gr (cs:List Ct) (gs:List Gv) (i:Nat):Cl:=⟨gv gs i,aF cs (ct cs i).am,(ct cs i).ds⟩
theorem kR (m:Mc) (s:Sk) (cs:List Ct):∀ k,(bi m s cs k).1=0->(bi m s cs k).2.1.length=k:=by
 intro k
 induction k with
 | zero=>intro _;rfl
 | succ k ih=>
  intro h;rw [bi] at h ⊢
  by_cases h0:(bi m s cs k).1=0
  ·rw [if_pos h0] at h ⊢;unfold iN at h ⊢
   by_cases hg:(aZ m (bi m s cs k).2.2 (aF cs (ct cs k).am) (ct cs k).ds).1=0
   ·rw [if_pos hg];rw [List.length_append,ih h0];rfl
   ·rw [if_neg hg] at h;exact absurd h hg
  ·rw [if_neg h0] at h;exact absurd h h0
theorem oX {m:Mc} {s:Sk} {cs:List Ct} (h16:s.ds.length<=16) (hc:mv cs):∀ k,k<=cs.length->(bi m s cs k).1=0->bN s ((List.range k).map (gr cs (bi m s cs k).2.1))=some (bi m s cs k).2.2/\(bi m s cs k).2.2.ds=s.ds:=by
 intro k
 induction k with
 | zero=>intro _ _;exact ⟨rfl,rfl⟩
 | succ k ih=>
  intro hk h;have hl:=kR m s cs k;rw [bi] at h ⊢
  by_cases h0:(bi m s cs k).1=0
  ·rw [if_pos h0] at h ⊢;obtain ⟨i1,i2⟩:=ih (by omega) h0;have hlen:=hl h0;generalize (bi m s cs k).2.1=gs at *;generalize (bi m s cs k).2.2=s' at *;unfold iN at h ⊢
   by_cases hg:(aZ m s' (aF cs (ct cs k).am) (ct cs k).ds).1=0
   ·rw [if_pos hg];have hm:ct cs k∈cs:=Sv.jk (by omega);have hcl:=D9 (m:=m) (s:=s') (own:=aF cs (ct cs k).am) (ns:=(ct cs k).ds) (by rw [i2];exact h16) (hc _ hm).1 (hc _ hm).2 hg;refine ⟨?_,i2⟩;generalize aZ m s' (aF cs (ct cs k).am) (ct cs k).ds=g at *;dsimp only;rw [List.range_succ,List.map_append,kN];have e1:(List.range k).map (gr cs (gs++[g.2.1]))=(List.range k).map (gr cs gs):=by
     refine List.map_congr_left λi hi=>?_
     have hi':i<gs.length:=by rw [hlen];exact List.mem_range.1 hi
     unfold gr
     congr 1
     simp [gv,List.getElem?_append_left hi']
    rw [e1,i1,Option.bind_some,List.map_singleton,bN];have e2:gr cs (gs++[g.2.1]) k=⟨g.2.1,aF cs (ct cs k).am,(ct cs k).ds⟩:=by
     unfold gr
     congr 1
     simp [gv,<- hlen]
    rw [e2,hcl];rfl
   ·rw [if_neg hg] at h;exact absurd h hg
  ·rw [if_neg h0] at h;exact absurd h h0
theorem tJ {m:Mc} {ds:List Dv} {hs hs':List Hd} {s:Sk} {p:Pd} (hl:left m ds hs=some s) (h16:s.ds.length<=16) (hc:mv p.cs) (hg:(give m s p).1=0) (hp:(hs++[(⟨p,(give m s p).2⟩:Hd)]).Perm hs') :
  left m ds hs'=some (bi m s p.cs p.cs.length).2.2:=by
 refine tu hp (DK hl ?_);have h:=(oX h16 hc p.cs.length (lR) hg).1;have hlen:=kR m s p.cs p.cs.length hg;unfold gk
 show bN s ((List.range (give m s p).2.length).map (gr p.cs (give m s p).2))=_
 have e:(give m s p).2.length=p.cs.length:=hlen;rw [e];exact h
theorem Ea {m:Mc} {ds:List Dv} {hs hs':List Hd} {s:Sk} (h:left m ds hs=some s) (hsub:hs'.Sublist hs):∃ s',left m ds hs'=some s':=by
 obtain ⟨rest,hp⟩:=hsub.exists_perm_append;have h2:=tu hp h;unfold left at h2 ⊢
 split at h2
 ·rename_i h0
  rw [if_pos h0];rw [jR _ _ _ (lR),List.take_length] at h2 ⊢;rw [fp,List.flatMap_append,kN] at h2;obtain ⟨s1,e1,_⟩:=Option.bind_eq_some_iff.1 h2;exact ⟨s1,e1⟩
 ·cases h2
theorem jU {m:Mc} {ds:List Dv} (h:Dvs.fault ds=0):left m ds []=some ⟨m.op,ds,λ_=>false⟩:=by
 unfold left;rw [if_pos h];rfl
theorem Eb {s s':Sk}:∀ {l:List Cl},bN s l=some s'->s'.ds=s.ds:=by
 intro l
 induction l generalizing s with
 | nil=>intro h;injection h with h;rw [h]
 | cons x r ih=>
  intro h;rw [bN] at h;obtain ⟨s1,e1,e2⟩:=Option.bind_eq_some_iff.1 h;rw [ih e2,mr e1]
theorem gN {m:Mc} {ds:List Dv} {hs:List Hd} {s:Sk} (h:left m ds hs=some s):s.ds=ds:=by
 unfold left at h
 split at h
 ·rw [jR _ _ _ (lR),List.take_length] at h;exact Eb h
 ·cases h
end Ol
end
section
namespace Ol
open Ost (Cpu Wi af cnt dif aM told)
open Dvs (Dv dv fits bC bR srt cf sel lO gC)
open Qos (Nd Ct Pd ct aF)
open Sv (Gv Hd gv hd)
theorem Ec {ds:List Dv} {us us':Nat->Bool} {kind:ByteArray} {many:Int} (h:∀ j,(dv ds j).kind=kind->us j=us' j):bR ds us kind many=bR ds us' kind many:=by
 have e:sel (fits ds us kind) ds.length=sel (fits ds us' kind) ds.length:=lO λj _=>by
  unfold fits
  by_cases hk:(dv ds j).kind=kind
  ·rw [h j hk]
  ·simp [hk]
 unfold bR;rw [e]
theorem Ed {ds:List Dv} (on on':Nat):∀ (ns:List Nd) (us us':Nat->Bool) (out out':List Nat),ns.Pairwise (λa b=>a.kind≠b.kind)->(∀ n∈ns,∀ j,(dv ds j).kind=n.kind->us j=us' j)->(bU ds on ns us out).1=(bU ds on' ns us' out').1:=by
 intro ns
 induction ns with
 | nil=>intro us us' out out' _ _;rfl
 | cons n r ih=>
  intro us us' out out' hp h;obtain ⟨h1,h2⟩:=List.pairwise_cons.1 hp;have e:=Ec (many:=n.many) (h n (List.mem_cons_self ..));rw [bU,bU,<- e]
  by_cases hf:bR ds us n.kind n.many=0
  ·rw [if_pos hf,if_pos hf];refine ih _ _ _ _ h2 λx hx j hj=>?_
   have hno:∀ (u:Nat->Bool) (o:Nat),j ∉ bC ds u n.kind o n.many.toNat:=λu o hm=>by
    have h3:=(gC hm).2;simp only [fits,Bool.and_eq_true,decide_eq_true_eq] at h3;exact h1 x hx (h3.1.1.symm.trans hj)
   unfold cf;rw [h x (List.mem_cons_of_mem _ hx) j hj,decide_eq_false (hno us on),decide_eq_false (hno us' on')]
  ·rw [if_neg hf,if_neg hf]
theorem Ee (l:List Cpu) (F:Nat) (L:Int) (on on':Nat):(aM l F L on).2=(aM l F L on').2:=by
 unfold aM
 split
 ·rfl
 ·split <;> rfl
theorem Ef {m:Mc} {s:Sk} {own:Int} {ns:List Nd} (hp:ns.Pairwise λa b=>a.kind≠b.kind):(aZ m s own ns).1=0↔(place m (b9 m s own ns)).2=true/\(aM m.l s.cp own 0).2=0/\(bU s.ds 0 ns s.us []).1=0:=by
 unfold aZ;dsimp only;generalize hpl:place m (b9 m s own ns)=pl;rw [Ee m.l s.cp own 0 (af (λc=>pl.1.1.testBit c.node.toNat) m.l),Ed 0 pl.1.1 ns s.us s.us [] [] hp (λ_ _ _ _=>rfl)];have h4:=tI m.l s.cp own (af (λc=>pl.1.1.testBit c.node.toNat) m.l)
 by_cases h1:pl.2=false
 ·rw [if_pos h1];constructor
  ·intro h;cases h
  ·intro h;rw [h1] at h;cases h.1
 ·rw [if_neg h1];rw [Bool.not_eq_false] at h1
  by_cases h2:(aM m.l s.cp own (af (λc=>pl.1.1.testBit c.node.toNat) m.l)).2≠0
  ·rw [if_pos h2];constructor
   ·intro h;dsimp only at h;omega
   ·intro h;exact absurd h.2.1 h2
  ·rw [if_neg h2]
   by_cases h3:(bU s.ds pl.1.1 ns s.us []).1≠0
   ·rw [if_pos h3];constructor
    ·intro h;exact absurd h h3
    ·intro h;exact absurd h.2.2 h3
   ·rw [if_neg h3];exact ⟨λ_=>⟨h1,by omega,by omega⟩,λ_=>rfl⟩
end Ol
end
section
namespace Ol
open Dvs (first cV i8)
open Qos (Pd ah leS)
open Sv (Gv Hd gv hd az gH dr jj gsF jl)
def cJ (a b:ByteArray):Prop:=a.toList<b.toList
theorem mw (a:ByteArray):¬ cJ a a:=List.lt_irrefl _
theorem kS {a b c:ByteArray} (h:cJ a b) (k:cJ b c):cJ a c:=List.lt_trans h k
theorem oY {a b:ByteArray} (h:a≠b):cJ a b\/cJ b a:=by
 unfold cJ
 by_cases h1:a.toList<b.toList
 ·exact .inl h1
 ·by_cases h2:b.toList<a.toList
  ·exact .inr h2
  ·exfalso
   have e:a.toList=b.toList:=List.le_antisymm h2 h1;rw [ByteArray.toList_eq,ByteArray.toList_eq] at e;exact h (ByteArray.ext (Array.toList_inj.1 e))
theorem oZ {a b:ByteArray}:leS a b=false↔cJ b a:=by
 unfold leS cJ;rw [Go.Proofs.bytesLess_eq,Bool.or_eq_false_iff,decide_eq_false_iff_not,beq_eq_false_iff_ne];constructor
 ·rintro ⟨h1,h2⟩
  have:a≠b:=λe=>h2 (by rw [e])
  rcases oY this with h|h
  ·exact absurd h h1
  ·exact h
 ·intro h;exact ⟨λk=>List.lt_irrefl _ (List.lt_trans h k),λe=>by rw [e] at h;exact List.lt_irrefl _ h⟩
def gO (hs:List Hd):Prop:=hs.Pairwise λa b=>cJ a.pod.nm b.pod.nm
theorem o5 {hs:List Hd} {i:Nat} (h:i+1<hs.length):jj hs (i+1)=false↔cJ (hs[i]'(by omega)).pod.nm hs[i+1].pod.nm:=by
 unfold jj;rw [decide_eq_true (by omega),Bool.true_and,oZ];have e1:hd hs (i+1)=hs[i+1]:=by simp [hd,h]
 have e2:hd hs (i+1 - 1)=hs[i]'(by omega):=by simp [hd,show i<hs.length by omega]
 rw [e1,e2]
theorem tK {hs:List Hd}:gO hs↔∀ i,i<hs.length->jj hs i=false:=by
 constructor
 ·intro h i hi;cases i with
  | zero=>rfl
  | succ i=>exact (o5 hi).2 (List.pairwise_iff_getElem.1 h i (i+1) (by omega) hi (by omega))
 ·intro h;have key:∀ d i (hi:i+d+1<hs.length),cJ (hs[i]'(by omega)).pod.nm hs[i+d+1].pod.nm:=by
   intro d
   induction d with
   | zero=>intro i hi;exact (o5 hi).1 (h _ hi)
   | succ d ih=>
    intro i hi;exact kS (ih i (by omega)) ((o5 hi).1 (h _ hi))
  refine List.pairwise_iff_getElem.2 λi j hi hj hij=>?_
  obtain ⟨d,rfl⟩:∃ d,j=i+d+1:=⟨j - i - 1,by omega⟩;exact key d i hj
theorem bX {hs:List Hd}:az hs=0↔hs.length<=12/\(∀ h∈hs,ah h.pod=0/\h.gs.length=h.pod.cs.length/\gsF h.gs=0)/\gO hs:=by
 unfold az
 by_cases h12:12<hs.length
 ·rw [if_pos h12];exact ⟨λh=>(by cases h),λh=>(by omega)⟩
 ·rw [if_neg h12];have one:∀ (h:Hd) (b:Bool),dr h b=0↔ah h.pod=0/\b=false/\h.gs.length=h.pod.cs.length/\gsF h.gs=0:=by
   intro h b;unfold dr
   by_cases h1:ah h.pod≠0
   ·rw [if_pos h1];exact ⟨λe=>absurd e h1,λe=>e.1⟩
   ·rw [if_neg h1]
    by_cases h2:b=true\/h.gs.length≠h.pod.cs.length
    ·rw [if_pos h2];refine ⟨λe=>(by cases e),λe=>?_⟩
     rcases h2 with h2|h2
     ·rw [e.2.1] at h2;cases h2
     ·exact absurd e.2.2.1 h2
    ·rw [if_neg h2];have h3:b=false/\h.gs.length=h.pod.cs.length:=⟨Bool.not_eq_true _ ▸ λe=>h2 (.inl e),Classical.byContradiction λe=>h2 (.inr e)⟩;exact ⟨λe=>⟨by omega,h3.1,h3.2,e⟩,λe=>e.2.2.2⟩
  constructor
  ·intro h;have hall:=cV h;refine ⟨by omega,λx hx=>?_,tK.2 λi hi=>((one _ _).1 (hall i hi)).2.1⟩;obtain ⟨k,hk,rfl⟩:=Sv.mf hx
   have:=(one _ _).1 (hall k hk)
   exact ⟨this.1,this.2.2.1,this.2.2.2⟩
  ·rintro ⟨_,h1,h2⟩;refine i8 λk hk=>?_
   have:=h1 _ (jl hk)
   exact (one _ _).2 ⟨this.1,tK.1 h2 k hk,this.2.1,this.2.2⟩
def bY (hs:List Hd) (nm:ByteArray):Nat:=hs.countP λh=>decide (h.pod.nm.toList<nm.toList)
def bz (hs:List Hd) (x:Hd):List Hd:=hs.take (bY hs x.pod.nm)++x :: hs.drop (bY hs x.pod.nm)
theorem insert_perm (hs:List Hd) (x:Hd):(hs++[x]).Perm (bz hs x):=by
 unfold bz;have h1:(hs++[x]).Perm (x :: hs):=List.perm_append_singleton x hs;have h2:(x :: hs).Perm (x :: (hs.take (bY hs x.pod.nm)++hs.drop (bY hs x.pod.nm))):=by rw [List.take_append_drop]
 exact h1.trans (h2.trans List.perm_middle.symm)
theorem Eg {hs:List Hd} (h:gO hs) (nm:ByteArray):(∀ y∈hs.take (bY hs nm),cJ y.pod.nm nm)/\∀ y∈hs.drop (bY hs nm),¬ cJ y.pod.nm nm:=by
 induction hs with
 | nil=>exact ⟨λy hy=>by simp [bY] at hy,λy hy=>by simp [bY] at hy⟩
 | cons x r ih=>
  obtain ⟨h1,h2⟩:=List.pairwise_cons.1 h;obtain ⟨i1,i2⟩:=ih h2
  by_cases hx:x.pod.nm.toList<nm.toList
  ·have e:bY (x :: r) nm=bY r nm+1:=by unfold bY;rw [List.countP_cons_of_pos (by simpa using hx)]
   rw [e,List.take_succ_cons,List.drop_succ_cons];refine ⟨λy hy=>?_,i2⟩
   rcases List.mem_cons.1 hy with rfl|hy
   ·exact hx
   ·exact i1 y hy
  ·have hr:∀ y∈r,¬ cJ y.pod.nm nm:=λy hy hn=>hx (kS (h1 y hy) hn)
   have e:bY (x :: r) nm=0:=by
    unfold bY;rw [List.countP_eq_zero];intro y hy
    rcases List.mem_cons.1 hy with rfl|hy
    ·simpa using hx
    ·have:=hr y hy;unfold cJ at this;simpa using this
   rw [e];refine ⟨λy hy=>by simp at hy,λy hy=>?_⟩;rw [List.drop_zero] at hy
   rcases List.mem_cons.1 hy with rfl|hy
   ·exact hx
   ·exact hr y hy
theorem tL {hs:List Hd} {x:Hd} (h:gO hs) (hn:∀ y∈hs,y.pod.nm≠x.pod.nm):gO (bz hs x):=by
 obtain ⟨h1,h2⟩:=Eg h x.pod.nm;have hsub:=h;unfold gO bz at *;rw [<- List.take_append_drop (bY hs x.pod.nm) hs,List.pairwise_append] at hsub;obtain ⟨p1,p2,p3⟩:=hsub;have hgt:∀ y∈hs.drop (bY hs x.pod.nm),cJ x.pod.nm y.pod.nm:=λy hy=>by
  rcases oY (hn y (List.mem_of_mem_drop hy)) with k|k
  ·exact absurd k (h2 y hy)
  ·exact k
 rw [List.pairwise_append,List.pairwise_cons];refine ⟨p1,⟨hgt,p2⟩,λa ha b hb=>?_⟩
 rcases List.mem_cons.1 hb with rfl|hb
 ·exact h1 a ha
 ·exact p3 a ha b hb
end Ol
end
section
namespace Ol
open Ost (Cpu)
open Dvs (Dv dv first cV i8 srt nN jJ i7)
open Qos (Nd Ct Pd nd ct ah leS dP bT aF)
open Sv (Gv Hd gv hd az gsF b8 ew aE)
theorem Eh {new:List Nat}:b8 (ci (srt new))=0:=by
 have hlen:(ci (srt new)).length=(srt new).length:=by simp [ci]
 have h16:(srt new).length<=16:=jJ _ 16;unfold b8;rw [if_neg (by omega)];refine i8 λk hk=>?_
 have hk':k<(srt new).length:=by omega
 have e:∀ i (hi:i<(srt new).length),(ci (srt new)).getD i 0=((srt new)[i]:Int):=λi hi=>by simp [ci,hi]
 unfold ew;rw [if_neg];rw [e k hk'];have h1:(srt new)[k]<16:=(i7.1 (List.getElem_mem hk')).1;intro h
 rcases h with h|h|⟨h0,h⟩
 ·omega
 ·omega
 ·rw [e (k - 1) (by omega)] at h
  have:=List.pairwise_iff_getElem.1 (nN (λj=>decide (j∈new)) 16) (k - 1) k (by show k - 1<(srt new).length;omega) hk' (by omega)
  have h2:(srt new)[k - 1]<(srt new)[k]:=this;omega
theorem Ei {m:Mc} {s:Sk} {own:Int} {ns:List Nd}:b8 (aZ m s own ns).2.1.dv=0:=by
 unfold aZ;dsimp only
 split
 ·rfl
 ·split
  ·rfl
  ·split
   ·rfl
   ·exact Eh
theorem o6 {m:Mc} {s:Sk} {cs:List Ct}:∀ k,∀ g∈(bi m s cs k).2.1,b8 g.dv=0:=by
 intro k
 induction k with
 | zero=>intro g hg;cases hg
 | succ k ih=>
  rw [bi]
  split
  ·unfold iN
   split
   ·intro g hg
    rcases List.mem_append.1 hg with hg|hg
    ·exact ih g hg
    ·rw [List.mem_singleton.1 hg];exact Ei
   ·intro g hg;cases hg
  ·exact ih
theorem o7 {gs:List Gv} (h:∀ g∈gs,b8 g.dv=0):gsF gs=0:=i8 λ_ hk=>h _ (Sv.oC hk)
theorem Ej {ds:List Nd} (h:first (dP ds) ds.length=0):(∀ n∈ds,n.many≠0)/\ds.Pairwise λa b=>a.kind≠b.kind:=by
 have ha:=cV h;have facts:∀ k,k<ds.length->1<=(nd ds k).many/\(0<k->leS (nd ds k).kind (nd ds (k - 1)).kind=false):=λk hk=>by
  have:=ha k hk
  unfold dP at this
  split at this
  ·cases this
  ·rename_i h1
   split at this
   ·cases this
   ·rename_i h2
    refine ⟨by omega,λh0=>?_⟩;cases e:leS (nd ds k).kind (nd ds (k - 1)).kind with
    | false=>rfl
    | true=>exact absurd (.inr ⟨h0,e⟩) h1
 constructor
 ·intro n hn;obtain ⟨k,hk,rfl⟩:=Sv.sE hn
  have:=(facts k hk).1
  omega
 ·have e:∀ i (hi:i<ds.length),nd ds i=ds[i]:=λi hi=>by simp [nd,hi]
  have key:∀ d i (hi:i+d+1<ds.length),cJ (ds[i]'(by omega)).kind ds[i+d+1].kind:=by
   intro d
   induction d with
   | zero=>
    intro i hi
    have:=oZ.1 ((facts (i+1) hi).2 (by omega))
    rw [e (i+1) hi,show i+1 - 1=i by omega,e i (by omega)] at this;exact this
   | succ d ih=>
    intro i hi
    have:=oZ.1 ((facts (i+(d+1)+1) hi).2 (by omega))
    rw [e _ hi,show i+(d+1)+1 - 1=i+d+1 by omega,e (i+d+1) (by omega)] at this;exact kS (ih i (by omega)) this
  refine List.pairwise_iff_getElem.2 λi j hi hj hij heq=>?_
  obtain ⟨d,rfl⟩:∃ d,j=i+d+1:=⟨j - i - 1,by omega⟩
  have:=key d i hj
  rw [heq] at this;exact mw _ this
theorem mx {p:Pd} (h:ah p=0):mv p.cs:=by
 intro c hc;obtain ⟨k,hk,rfl⟩:=Sv.sF hc;unfold ah at h
 split at h
 ·cases h
 ·split at h
  ·cases h
  ·split at h
   ·cases h
   ·have:=cV h k hk
    unfold bT at this
    repeat' (split at this;· cases this)
    exact Ej this
structure St where
 m:Mc
 ds:List Dv
 hs:List Hd
structure Inv (t:St):Prop where
 devs:Dvs.fault t.ds=0
 held:az t.hs=0
 left:∃ s,left t.m t.ds t.hs=some s
open Classical in
noncomputable def aK (t:St) (p:Pd):Nat × List Hd:=
 if ah p≠0 then (ah p,t.hs) else
 if ∃ h∈t.hs,h.pod.nm=p.nm then (5,t.hs) else
 if 12<=t.hs.length then (2,t.hs) else
 if room t.m (t.hs.map Hd.pod++[p])=false then (7,t.hs) else
 if (give t.m ((left t.m t.ds t.hs).getD ⟨0,[],λ_=>false⟩) p).1≠0 then ((give t.m ((left t.m t.ds t.hs).getD ⟨0,[],λ_=>false⟩) p).1,t.hs) else
 if 6000<(aE (bz t.hs ⟨p,(give t.m ((left t.m t.ds t.hs).getD ⟨0,[],λ_=>false⟩) p).2⟩)).length then (2,t.hs) else
 (0,bz t.hs ⟨p,(give t.m ((left t.m t.ds t.hs).getD ⟨0,[],λ_=>false⟩) p).2⟩)
theorem Ek {t:St} (h:Inv t) (p:Pd):Inv { t with hs:=(aK t p).2 }:=by
 unfold aK;obtain ⟨s,hs⟩:=h.left;rw [hs,Option.getD_some]
 split
 ·exact h
 rename_i h1
 split
 ·exact h
 rename_i h2
 split
 ·exact h
 rename_i h3
 split
 ·exact h
 split
 ·exact h
 rename_i h5
 split
 ·exact h
 have hp:ah p=0:=by omega
 have hg:(give t.m s p).1=0:=by omega
 have hds:s.ds.length<=16:=by rw [gN hs];exact (Dvs.iF h.devs).1
 obtain ⟨a1,a2,a3⟩:=bX.1 h.held;have hlen:(give t.m s p).2.length=p.cs.length:=kR t.m s p.cs p.cs.length hg;have hperm:=insert_perm t.hs ⟨p,(give t.m s p).2⟩;refine ⟨h.devs,bX.2 ⟨?_,λx hx=>?_,tL a3 λy hy e=>h2 ⟨y,hy,e⟩⟩,⟨_,tJ hs hds (mx hp) hg hperm⟩⟩
 ·show (bz t.hs ⟨p,(give t.m s p).2⟩).length<=12
  rw [<- hperm.length_eq,List.length_append,List.length_singleton];omega
 ·rcases List.mem_append.1 (hperm.mem_iff.2 hx) with hx|hx
  ·exact a2 x hx
  ·rw [List.mem_singleton.1 hx];exact ⟨hp,hlen,o7 (o6 p.cs.length)⟩
end Ol
end
section
namespace Ol
open Dvs (Dv dv)
open Qos (Nd Ct Pd ct ah aF)
open Sv (Gv Hd gv hd az aE body OkL OkH)
theorem El {h:Hd} (hf:az [h]=0) (hc:∀ g∈h.gs,g.cp<18446744073709551616) (h1:h.pod.cs.length=1):(aE [h]).length<=6000:=by
 have ok:OkL [h]:=Sv.oD hf (λx hx g hg=>by rw [List.mem_singleton.1 hx] at hg;exact hc g hg);have oh:OkH h:=ok.2 h (List.mem_singleton.2 rfl);have a:=Sv.oG oh.1;have b:=Sv.oH oh 1 (by omega);have c:=Sv.kE (body [h]);have e:body [h]=[]++(Sv.fF h.pod++Sv.dI h h.pod.cs.length):=rfl;have e2:(body [h]).length=(Sv.fF h.pod).length+(Sv.dI h 1).length:=by rw [e,h1];simp
 have d:aE [h]=body [h]++Sv.cN (body [h]):=rfl;rw [d,List.length_append];omega
theorem tM {a b:Nat} (h:a &&& b=a) (hb:b<18446744073709551616):a<18446744073709551616:=by
 rw [<- h];exact Nat.lt_of_le_of_lt Nat.and_le_right hb
end Ol
end
section
namespace Ol
open Ost (Cpu af cnt dif aM aI)
open Dvs (Dv dv)
open Qos (Nd Ct Pd ct ah aF aO sumTo dQ)
open Sv (Gv Hd gv hd az)
def owns (l:List Cl):Int:=(l.map Cl.own).sum
theorem tN:∀ {l:List Cl} {s s':Sk},bN s l=some s'->(cnt s'.cp:Int)+owns l=cnt s.cp/\(s'.cp &&& s.cp=s'.cp):=by
 intro l
 induction l with
 | nil=>intro s s' h;injection h with h;subst h;exact ⟨by simp [owns],Nat.and_self _⟩
 | cons x r ih=>
  intro s s' h;rw [bN] at h;obtain ⟨s1,e1,e2⟩:=Option.bind_eq_some_iff.1 h;obtain ⟨a1,a2⟩:=ih e2;obtain ⟨b1,b2,rfl⟩:=gL.1 e1;have hd:=Ost.nZ b2.1;have hx:=b1.1;have e3:(ex s x).cp=dif s.cp x.g.cp:=rfl;rw [e3] at a1 a2;refine ⟨?_,?_⟩
  ·unfold owns at a1 ⊢;rw [List.map_cons,List.sum_cons];omega
  ·apply Nat.eq_of_testBit_eq;intro i;have e:=congrArg (λn=>Nat.testBit n i) a2;simp only [Nat.testBit_and,Ost.eP] at e ⊢;cases h1:s'.cp.testBit i <;> cases h2:s.cp.testBit i <;> simp_all
theorem o8 (a b:List Cl):owns (a++b)=owns a+owns b:=by unfold owns;rw [List.map_append,List.sum_append]
theorem o9 {cs:List Ct} {am:Int} (h:0<=am):0<=aF cs am/\1000*aF cs am<=am:=by
 unfold aF
 split <;> omega
def eT (cs:List Ct):Nat->Int
 | 0=>0
 | k+1=>eT cs k+aF cs (ct cs k).am
theorem tO {cs:List Ct} (h:∀ c∈cs,0<=c.am):∀ k,k<=cs.length->0<=eT cs k/\1000*eT cs k<=aO cs k:=by
 intro k
 induction k with
 | zero=>intro _;exact ⟨Int.le_refl _,Int.le_refl _⟩
 | succ k ih=>
  intro hk;have h1:=ih (by omega);have h2:=o9 (cs:=cs) (h _ (Sv.jk (show k<cs.length by omega)));have e:aO cs (k+1)=aO cs k+(ct cs k).am:=rfl;rw [eT,e];omega
theorem Em {cs:List Ct} (h:∀ c∈cs,0<=c.am) {k n:Nat} (hk:k<=n) (hn:n<=cs.length):eT cs k<=eT cs n:=by
 induction n with
 | zero=>
  obtain rfl:k=0:=by omega
  exact Int.le_refl _
 | succ n ih=>
  by_cases e:k=n+1
  ·rw [e];exact Int.le_refl _
  ·have h1:=ih (by omega) (by omega);have h2:=o9 (cs:=cs) (h _ (Sv.jk (show n<cs.length by omega)));rw [eT];omega
theorem tP (cs:List Ct) (gs:List Gv):∀ k,owns ((List.range k).map (gr cs gs))=eT cs k:=by
 intro k
 induction k with
 | zero=>rfl
 | succ k ih=>
  rw [List.range_succ,List.map_append,o8,ih,eT]
  simp [owns,gr]
theorem tQ {h:Hd} (hl:h.gs.length=h.pod.cs.length):owns (gk h)=eT h.pod.cs h.pod.cs.length:=by
 unfold gk;rw [hl];exact tP h.pod.cs h.gs h.pod.cs.length
theorem kT {p:Pd} (h:ah p=0):∀ c∈p.cs,0<=c.am:=λc hc=>(((Sv.fG h).2.2.2) c hc).2.1.1
theorem En {hs:List Hd} (h:∀ x∈hs,ah x.pod=0/\x.gs.length=x.pod.cs.length):0<=owns (fp hs)/\1000*owns (fp hs)<=bI (hs.map Hd.pod):=by
 induction hs with
 | nil=>exact ⟨Int.le_refl _,Int.le_refl _⟩
 | cons x r ih=>
  have h1:=ih λy hy=>h y (List.mem_cons_of_mem _ hy)
  have h2:=h x (List.mem_cons_self ..);have h3:=tO (kT h2.1) x.pod.cs.length (lR);have e1:fp (x :: r)=gk x++fp r:=rfl;rw [e1,o8,tQ h2.2];have e2:bI ((x :: r).map Hd.pod)=aO x.pod.cs x.pod.cs.length+bI (r.map Hd.pod):=by unfold bI;simp
  rw [e2];omega
theorem Eo (a b:List Pd):bI (a++b)=bI a+bI b:=by unfold bI;rw [List.map_append,List.sum_append]
theorem tR {m:Mc} {ds:List Dv} {hs:List Hd} {s:Sk} (h:left m ds hs=some s):(cnt s.cp:Int)+owns (fp hs)=cnt m.op/\s.cp &&& m.op=s.cp:=by
 unfold left at h
 split at h
 ·rw [jR _ _ _ (lR),List.take_length] at h;exact tN h
 ·cases h
theorem Ep {l:List Cpu} {F:Nat} {L:Int} {on:Nat} (h0:0<=L) (h64:cnt F<=64) (hc:L<=cnt F) (hin:F &&& af (λ_=>true) l=F):(aM l F L on).2=0:=by
 rw [Ost.rU on h0 (by omega) hin hc]
theorem Er {m:Mc} {ds:List Dv} {hs:List Hd} {s:Sk} {p:Pd} (hpol:m.pol=0) (hop:m.op &&& af (λ_=>true) m.l=m.op) (h64:∀ A:Nat,cnt A<=64) (hl:left m ds hs=some s) (hdl:ds.length<=16) (hh:∀ x∈hs,ah x.pod=0/\x.gs.length=x.pod.cs.length) (hp:ah p=0)
  (hno:∀ c∈p.cs,c.ds=[]) (hr:room m (hs.map Hd.pod++[p])=true):(give m s p).1=0:=by
 obtain ⟨c1,c2⟩:=tR hl;obtain ⟨o1,o2⟩:=En hh;have hsum:bI (hs.map Hd.pod++[p])<=1000*(cnt m.op:Int):=by
  unfold room at hr;rw [Bool.and_eq_true,decide_eq_true_eq] at hr;exact hr.1
 rw [Eo] at hsum;have e1:bI [p]=aO p.cs p.cs.length:=by unfold bI;simp
 rw [e1] at hsum;have hpo:=tO (kT hp) p.cs.length (lR);have hfit:eT p.cs p.cs.length<=cnt s.cp:=by omega
 have hsds:s.ds.length<=16:=by rw [gN hl];exact hdl
 have hsub:s.cp &&& af (λ_=>true) m.l=s.cp:=by
  rw [<- c2,Nat.and_assoc,hop]
 have key:∀ k,k<=p.cs.length->(bi m s p.cs k).1=0:=by
  intro k
  induction k with
  | zero=>intro _;rfl
  | succ k ih=>
   intro hk;have h0:=ih (by omega);obtain ⟨g1,g2⟩:=oX (m:=m) hsds (mx hp) k (by omega) h0;obtain ⟨d1,d2⟩:=tN g1;rw [tP] at d1;rw [bi,if_pos h0];generalize (bi m s p.cs k).2.1=gs at *;generalize (bi m s p.cs k).2.2=s' at *;have hm:ct p.cs k∈p.cs:=Sv.jk (by omega);have hds:=hno _ hm;have hmono:=Em (kT hp) (k:=k+1) (n:=p.cs.length) hk (lR);have hown:=o9 (cs:=p.cs) (kT hp _ hm);rw [eT] at hmono;have hsub':s'.cp &&& af (λ_=>true) m.l=s'.cp:=by rw [<- d2,Nat.and_assoc,hsub]
   have hgo:(aZ m s' (aF p.cs (ct p.cs k).am) (ct p.cs k).ds).1=0:=by
    rw [hds,Ef List.Pairwise.nil];refine ⟨?_,Ep hown.1 (h64 _) (by omega) hsub',rfl⟩;unfold place;rw [if_pos hpol]
   unfold iN;rw [if_pos hgo]
 exact key p.cs.length (lR)
end Ol
end
section
namespace Ol
open Qos (Pd ah)
open Sv (Gv Hd az)
def eU (hs:List Hd) (nm:ByteArray):List Hd:=hs.filter λh=>decide (h.pod.nm≠nm)
theorem Es {hs:List Hd} {x:Hd} (hn:∀ y∈hs,y.pod.nm≠x.pod.nm):eU (bz hs x) x.pod.nm=hs:=by
 unfold eU bz;rw [List.filter_append,List.filter_cons_of_neg (by simp)];have h1:(hs.take (bY hs x.pod.nm)).filter (λh=>decide (h.pod.nm≠x.pod.nm))=hs.take (bY hs x.pod.nm):=List.filter_eq_self.2 λy hy=>by simpa using hn y (List.mem_of_mem_take hy)
 have h2:(hs.drop (bY hs x.pod.nm)).filter (λh=>decide (h.pod.nm≠x.pod.nm))=hs.drop (bY hs x.pod.nm):=List.filter_eq_self.2 λy hy=>by simpa using hn y (List.mem_of_mem_drop hy)
 rw [h1,h2,List.take_append_drop]
theorem pe (hs:List Hd) (nm:ByteArray):(eU hs nm).Sublist hs:=List.filter_sublist
theorem pf {hs hs':List Hd} (h:az hs=0) (hs2:hs'.Sublist hs):az hs'=0:=by
 obtain ⟨a,b,c⟩:=bX.1 h;exact bX.2 ⟨Nat.le_trans hs2.length_le a,λx hx=>b x (hs2.subset hx),List.Pairwise.sublist hs2 c⟩
theorem tS {t:St} {p:Pd} (h:(aK t p).1=0):eU (aK t p).2 p.nm=t.hs:=by
 unfold aK at h ⊢
 split
 ·rename_i h1;rw [if_pos h1] at h;exact absurd h h1
 ·rename_i h1
  rw [if_neg h1] at h
  split
  ·rename_i h2;rw [if_pos h2] at h;cases h
  ·rename_i h2
   rw [if_neg h2] at h
   split
   ·rename_i h3;rw [if_pos h3] at h;cases h
   ·rename_i h3
    rw [if_neg h3] at h
    split
    ·rename_i h4;rw [if_pos h4] at h;cases h
    ·rename_i h4
     rw [if_neg h4] at h
     split
     ·rename_i h5;rw [if_pos h5] at h;exact absurd h h5
     ·rename_i h5
      rw [if_neg h5] at h
      split
      ·rename_i h6;rw [if_pos h6] at h;cases h
      ·exact Es (x:=⟨p,_⟩) λy hy e=>h2 ⟨y,hy,e⟩
end Ol
end
section
open Go.RowKit Go.Shelf
open Qos (Nd Ct Pd nd ct pd aO aV bP)
open Sv (Gv Hd gv hd)
attribute [local go_sem] Oper.semAt_some
theorem ap {W:World} {B:Nat} {cs:Array Value} {t:TypeId} (h:W.heap[B]?=some (.cells cs t (0,0))) (j:Nat):W.frozen? ⟨B,j,none⟩=false:=by simp [World.frozen?,h]
theorem aH (W:World) (o:Obj) {n:Nat} (hn:n=W.heap.size):(W.alloc o).heap[n]?=some o:=by subst hn;exact heap_alloc_new W o
theorem bA {W:World} {n:Nat} {x:Obj} (h:W.heap[n]?=some x) (o:Obj):(W.alloc o).heap[n]?=some x:=(Below.heap_alloc _ _ _ (gS h).1).trans h
theorem tT {ps:List Pd} {k:Nat} (h:k<ps.length):Ol.bI (ps.take (k+1))=Ol.bI (ps.take k)+aO (pd ps k).cs (pd ps k).cs.length:=by
 unfold Ol.bI;rw [List.take_succ_eq_append_getElem h,List.map_append,List.sum_append];simp [pd,h]
theorem tU {ps:List Pd} {k:Nat} (h:k<ps.length):Ol.cQ (ps.take (k+1))=Ol.cQ (ps.take k)+aV (pd ps k).cs (pd ps k).cs.length:=by
 unfold Ol.cQ;rw [List.take_succ_eq_append_getElem h,List.map_append,List.sum_append];simp [pd,h]
theorem ph (tp:Value) (op nd:Nat) (nb pol:Int) (v:Value) (ps:List Pd) (w:World) (h:et w v ps) (hl:ps.length<=100) (hmi:∀ p∈ps,bP p.cs) (hop:op<18446744073709551616)
  (hb:∀ k,k<=ps.length->(0<=Ol.bI (ps.take k)/\Ol.bI (ps.take k)<=1000000000000000000)/\0<=Ol.cQ (ps.take k)/\Ol.cQ (ps.take k)<=1000000000000000000) :
  Calls Tryz.prog 50 #[.agg #[tp,.int .u64 op,.int .u8 nd,.int .i64 nb,.int .i64 pol],v] w λe w'=>e=.returned (.bool (decide (Ol.bI ps<=1000*(Ost.cnt op:Int)) && decide (Ol.cQ ps<=nb)))/\Below w.heap.size w w':=by
 have HMI:=qI hmi;have HBD:=qI hb;obtain ⟨ao,c,rfl,hm,hr⟩:=h;unfold maxLen at hm;have HR:=qI hr;have sz:((w.alloc (.cells #[tp,.int .u64 op,.int .u8 nd,.int .i64 nb,.int .i64 pol] 95)).alloc (.cells #[.int .i64 0,.int .i64 0] 60)).heap.size=w.heap.size+2:=by simp
 have HU1:=qI (aH (w.alloc (.cells #[tp,.int .u64 op,.int .u8 nd,.int .i64 nb,.int .i64 pol] 95)) (.cells #[.int .i64 0,.int .i64 0] 60) (n:=w.heap.size+1) (by simp));have HU0:=qI (bA (aH w (.cells #[tp,.int .u64 op,.int .u8 nd,.int .i64 nb,.int .i64 pol] 95) rfl) (.cells #[.int .i64 0,.int .i64 0] 60));have HBU:=qI (((Below.refl w.heap.size w).alloc (lR) (.cells #[tp,.int .u64 op,.int .u8 nd,.int .i64 nb,.int .i64 pol] 95)).alloc (by simp) (.cells #[.int .i64 0,.int .i64 0] 60));clear hmi hb hr
 go_enter Tryz.func50,Tryz.ntmps50
 go_wp2_with fail
 generalize ((w.alloc (.cells #[tp,.int .u64 op,.int .u8 nd,.int .i64 nb,.int .i64 pol] 95)).alloc (.cells #[.int .i64 0,.int .i64 0] 60))=U at *;generalize HB:w.heap.size=B at *
 go_loopw [11] (λi wr=>∃ k:Nat,k<=ps.length/\i=.int .i64 k/\wr.heap[B+1]?=some (.cells #[.int .i64 (Ol.bI (ps.take k)),.int .i64 (Ol.cQ (ps.take k))] 60 (0,0))/\Apart (λj=>j=B+1) U wr) (λi _=>ps.length - (intOf i).toNat)
 case atStart=>exact ⟨0,by omega,rfl,HU1.out,Apart.refl _ _⟩
 case round=>
  obtain ⟨k,hk,rfl,hs1,hab⟩:=hrel;have hsz:=hab.size;have HAB:=qI hab;have hbk:=HBD.out k hk;have hbel:=hab.below HBU.out (Nat.le_of_eq HB.symm) (λj hj=>by omega);have HBEL:=qI hbel
  by_cases hlt:k<ps.length
  ·obtain ⟨bb,o,cv,rfl,hin⟩:=HR.out (by omega);have hbel':Below w.heap.size w wr:=by rw [HB];exact hbel
   obtain ⟨x0,x1,x2⟩:=((hin.below hbel').2 k hlt).1;have hcon:=((hin.below hbel').2 k hlt).2;have hmk:=HMI.out (pd ps k) (by simp [pd,hlt]);have HSM:=qI (tT hlt);have HSB:=qI (tU hlt);have hb2:=HBD.out (k+1) hlt;rw [HSM.out,HSB.out] at hb2;obtain ⟨ca,cc,hcv,_,_⟩:=id hcon;rw [hcv] at x2 hcon;have HPA:=qI ((Below.refl wr.heap.size wr).alloc (lR) (.cells #[.string (pd ps k).nm,.int .i64 (pd ps k).pr,.slice ca (pd ps k).cs.length cc] 47));have HSU:=qI (B4 (pd ps k) (.slice ca (pd ps k).cs.length cc) (wr.alloc (.cells #[.string (pd ps k).nm,.int .i64 (pd ps k).pr,.slice ca (pd ps k).cs.length cc] 47)) (hcon.below HPA.out) hmk);unfold bQ at HSU;have HS1:=qI hs1;clear hin hcon hmk hbel hbel' hs1 hab hcv;generalize aO (pd ps k).cs (pd ps k).cs.length=xm at *;generalize aV (pd ps k).cs (pd ps k).cs.length=xb at *;generalize Ol.bI (ps.take k)=sm at *;generalize Ol.cQ (ps.take k)=sb at *;generalize pd ps k=p at *;obtain ⟨pn,pp,pc⟩:=p;dsimp only at x0 x1 x2 HSU HPA
   go_wp2_with fail
   refine HSU.out.mono ?_;rintro e W1 ⟨rfl,hb1⟩;have hW1:=HPA.out.trans (hb1.mono HPA.out.size);have hA2:=(Below.refl W1.heap.size W1).alloc (lR) (.cells #[.int .i64 xm,.int .i64 xb] 60);have hs2:=bA ((hW1.block (B+1) (by omega)).trans HS1.out) (.cells #[.int .i64 xm,.int .i64 xb] 60);have y0:(W1.alloc (.cells #[.int .i64 xm,.int .i64 xb] 60)).cell? ⟨B+1,0,none⟩=some (.int .i64 sm):=ad hs2 0;have y1:(W1.alloc (.cells #[.int .i64 xm,.int .i64 xb] 60)).cell? ⟨B+1,1,none⟩=some (.int .i64 sb):=ad hs2 1;have f0:=ap hs2 0;have f1:=ap hs2 1;have z0:(W1.alloc (.cells #[.int .i64 xm,.int .i64 xb] 60)).cell? ⟨W1.heap.size,0,none⟩=some (.int .i64 xm):=by simp
   have z1:(W1.alloc (.cells #[.int .i64 xm,.int .i64 xb] 60)).cell? ⟨W1.heap.size,1,none⟩=some (.int .i64 xb):=by simp
   have hne:W1.heap.size≠B+1:=by have:=hW1.size;omega
   have HAX:=qI (HAB.out.trans (Apart.of_below (hW1.trans (hA2.mono hW1.size))));have HS2:=qI hs2;clear hs2 hb1 hA2 hW1
   go_wp2_with fail
   go_roundw
   case rel=>exact ⟨k+1,by omega,by go_num,by rw [HSM.out,HSB.out];exact aj (aj HS2.out 0 _) 1 _,(HAX.out.trans (Apart.setCell (K:=λj=>j=B+1) rfl _ _ _)).trans (Apart.setCell (K:=λj=>j=B+1) rfl _ _ _)⟩
   case measure=>simp [intOf];omega
  ·have hke:k=ps.length:=by omega
   subst hke;rw [List.take_length] at hs1 hbk;have hs0:=(HAB.out.block B (by omega) (by omega)).trans HU0.out;have q0:wr.cell? ⟨B+1,0,none⟩=some (.int .i64 (Ol.bI ps)):=ad hs1 0;have q1:wr.cell? ⟨B+1,1,none⟩=some (.int .i64 (Ol.cQ ps)):=ad hs1 1;have q2:wr.cell? ⟨B,1,none⟩=some (.int .u64 op):=ad hs0 1;have q3:wr.cell? ⟨B,3,none⟩=some (.int .i64 nb):=ad hs0 3;have h64:Ost.cnt op<=64:=S1.jB op 64;clear hs1 hs0 hab;obtain ⟨sm,hsm⟩:∃ x,x=Ol.bI ps:=⟨_,rfl⟩;obtain ⟨sb,hsb⟩:∃ x,x=Ol.cQ ps:=⟨_,rfl⟩;rw [<- hsm] at q0 hbk;rw [<- hsb] at q1 hbk;have HSM:=qI hsm;have HSB:=qI hsb;clear hsm hsb;have HCT:=qI (S1.jC op);have hcnt:(Ost.aI op 64).length=Ost.cnt op:=rfl;rw [hcnt] at HCT;clear hcnt;obtain ⟨ct0,hct0⟩:∃ x,x=Ost.cnt op:=⟨_,rfl⟩;rw [<- hct0] at HCT h64;have HC0:=qI hct0;clear hct0;have HBL:Hid (Below w.heap.size w wr):=by unfold Hid;rw [HB];exact HBEL.out
   by_cases h1:sm<=1000*(ct0:Int)
   ·have h1d:decide (sm<=1000*(ct0:Int))=true:=decide_eq_true h1
    go_wp2_with fail
    go_quiet (exact Calls.quiet_of_same (HCT.out _ hop))
    go_wp2_with fail
    go_ret;exact ⟨by rw [<- HSM.out,<- HSB.out,<- HC0.out,h1d];rfl,below_drewN HBL.out nq⟩
   ·have h1d:decide (sm<=1000*(ct0:Int))=false:=decide_eq_false h1
    go_wp2_with fail
    go_quiet (exact Calls.quiet_of_same (HCT.out _ hop))
    go_wp2_with fail
    go_ret;exact ⟨by rw [<- HSM.out,<- HSB.out,<- HC0.out,h1d];rfl,below_drewN HBL.out nq⟩
end
section
namespace Ol
open Qos (Nd Ct Pd ct ah bT fW)
open Sv (Gv Hd gv hd az)
section
variable {α β:Type} (nm:α->β)
theorem tV {l:List α} (h:(l.map nm).Nodup) {a b:α} (ha:a∈l) (hb:b∈l) (e:nm a=nm b):a=b:=by
 obtain ⟨i,hi,rfl⟩:=List.getElem_of_mem ha;obtain ⟨j,hj,rfl⟩:=List.getElem_of_mem hb;have h2:=h;unfold List.Nodup at h2;rw [List.pairwise_map,List.pairwise_iff_getElem] at h2
 have:i=j:=by
  rcases Nat.lt_trichotomy i j with k|k|k
  ·exact absurd e (h2 i j hi hj k)
  ·exact k
  ·exact absurd e.symm (h2 j i hj hi k)
 subst this;rfl
theorem tW {l:List α} (h:(l.map nm).Nodup):l.Nodup:=by
 unfold List.Nodup at *;rw [List.pairwise_map] at h;exact h.imp λhab e=>hab (by rw [e])
theorem Et {runs wanted:List α} {k:Nat} (hk:k<runs.length) (hd:(runs.map nm).Nodup) (hw:runs[k] ∉ wanted) (a:α):(a∈runs/\(a∈wanted\/a∈runs.drop (k+1)))↔(a∈runs/\(a∈wanted\/a∈runs.drop k))/\nm a≠nm runs[k]:=by
 have e:runs.drop k=runs[k] :: runs.drop (k+1):=List.drop_eq_getElem_cons hk;have hnd:runs.Nodup:=tW nm hd;constructor
 ·rintro ⟨h1,h2⟩;refine ⟨⟨h1,h2.imp id λh=>by rw [e];exact List.mem_cons_of_mem _ h⟩,λen=>?_⟩;have ea:=tV nm hd h1 (List.getElem_mem hk) en;subst ea
  rcases h2 with h2|h2
  ·exact hw h2
  ·have:=(hnd.sublist (List.drop_sublist k runs))
   rw [e] at this;exact (List.nodup_cons.1 this).1 h2
 ·rintro ⟨⟨h1,h2⟩,h3⟩;refine ⟨h1,h2.imp id λh=>?_⟩;rw [e] at h
  rcases List.mem_cons.1 h with rfl|h
  ·exact absurd rfl h3
  ·exact h
theorem Eu {runs wanted:List α} {k:Nat} (hk:k<runs.length) (hw:runs[k]∈wanted) (a:α):(a∈runs/\(a∈wanted\/a∈runs.drop (k+1)))↔(a∈runs/\(a∈wanted\/a∈runs.drop k)):=by
 have e:runs.drop k=runs[k] :: runs.drop (k+1):=List.drop_eq_getElem_cons hk;rw [e];constructor
 ·rintro ⟨h1,h2⟩;exact ⟨h1,h2.imp id λh=>List.mem_cons_of_mem _ h⟩
 ·rintro ⟨h1,h2⟩;refine ⟨h1,?_⟩
  rcases h2 with h2|h2
  ·exact .inl h2
  ·rcases List.mem_cons.1 h2 with rfl|h2
   ·exact .inl hw
   ·exact .inr h2
theorem Ev {runs wanted:List α} (a:α):(a∈runs/\(a∈wanted\/a∈runs.drop runs.length))↔(a∈wanted/\(a∈runs\/a∈wanted.take 0)):=by
 simp [and_comm]
theorem tX {runs wanted:List α} {k:Nat} (hk:k<wanted.length) (a:α):(a∈wanted/\(a∈runs\/a∈wanted.take (k+1)))↔(a∈wanted/\(a∈runs\/a∈wanted.take k))\/a=wanted[k]:=by
 rw [List.take_succ_eq_append_getElem hk,List.mem_append,List.mem_singleton];constructor
 ·rintro ⟨h1,h2|h2|h2⟩
  ·exact .inl ⟨h1,.inl h2⟩
  ·exact .inl ⟨h1,.inr h2⟩
  ·exact .inr h2
 ·rintro (⟨h1,h2⟩|rfl)
  ·exact ⟨h1,h2.imp id .inl⟩
  ·exact ⟨List.getElem_mem hk,.inr (.inr rfl)⟩
theorem Ew {runs wanted:List α} {k:Nat} (hk:k<wanted.length) (hw:wanted[k]∈runs) (a:α):(a∈wanted/\(a∈runs\/a∈wanted.take (k+1)))↔(a∈wanted/\(a∈runs\/a∈wanted.take k)):=by
 rw [tX hk];constructor
 ·rintro (h|rfl)
  ·exact h
  ·exact ⟨List.getElem_mem hk,.inl hw⟩
 ·exact .inl
theorem Ex {runs wanted:List α} {k:Nat} (hk:k<wanted.length) (hd:(wanted.map nm).Nodup) (hw:wanted[k] ∉ runs) (a:α) (h:a∈wanted/\(a∈runs\/a∈wanted.take k)):nm a≠nm wanted[k]:=by
 intro en;have ea:=tV nm hd h.1 (List.getElem_mem hk) en;subst ea
 rcases h.2 with h2|h2
 ·exact hw h2
 ·have hnd:wanted.Nodup:=tW nm hd
  have:=(hnd.sublist (List.take_sublist (k+1) wanted))
  rw [List.take_succ_eq_append_getElem hk,List.nodup_append] at this;exact this.2.2 _ h2 _ (List.mem_singleton.2 rfl) rfl
theorem step_end {runs wanted:List α} (a:α):(a∈wanted/\(a∈runs\/a∈wanted.take wanted.length))↔a∈wanted:=by
 rw [List.take_length];exact ⟨λh=>h.1,λh=>⟨h,.inr h⟩⟩
end
theorem pi {xs:List Int} (h:Sv.b8 xs=0):xs.length<=16:=by
 unfold Sv.b8 at h
 split at h
 ·cases h
 ·omega
theorem Ey {p:Pd} (h:ah p=0) {i j:Nat} (hj:j<p.cs.length) (hij:i<j):(ct p.cs i).nm≠(ct p.cs j).nm:=by
 obtain ⟨_,_,_,h4⟩:=Qos.kw h
 have:=Dvs.cV h4 j hj
 unfold bT at this
 split at this
 ·cases this
 ·split at this
  ·cases this
  ·rename_i h2
   intro e;refine h2 ?_;unfold fW;rw [List.any_eq_true];refine ⟨ct p.cs i,?_,decide_eq_true e⟩;have hi:i<p.cs.length:=by omega
   rw [List.mem_take_iff_getElem];exact ⟨i,by omega,by simp [ct,hi]⟩
end Ol
end
section
namespace Ol
open Ost (Cpu af dif ae)
open Dvs (Dv dv)
def dx (l:List Cpu):Nat->Nat
 | 0=>0
 | k+1=>dx l k ||| 2 ^ (l.getD k ae).node.toNat
def dK (a:Nat) (ds:List Dv):Nat->Nat
 | 0=>a
 | k+1=>dK a ds k ||| 2 ^ (dv ds k).node.toNat
structure Cf where
 l:List Cpu
 keep:Nat
 nb:Int
 pol:Int
 ds:List Dv
def bZ (c:Cf):Int:=
 if Ost.fault c.l≠0 then Ost.fault c.l
 else if ¬ (c.keep &&& af (λ_=>true) c.l=c.keep)\/¬ (0<=c.nb/\c.nb<=1125899906842624)\/¬ (0<=c.pol/\c.pol<=3) then 1
 else (Dvs.fault c.ds:Nat)
def cK (c:Cf):Mc:=⟨c.l,dif (af (λ_=>true) c.l) c.keep,dK (dx c.l c.l.length) c.ds c.ds.length,c.nb,c.pol⟩
theorem tY {x:Int} (h0:0<=x) (h3:x<=3):2 ^ x.toNat<16/\1<=2 ^ x.toNat:=by
 have:x.toNat=0\/x.toNat=1\/x.toNat=2\/x.toNat=3:=by omega
 rcases this with h|h|h|h <;> rw [h] <;> decide
theorem tZ {a b:Nat} (ha:a<16) (hb:b<16):a ||| b<16:=Nat.or_lt_two_pow (n:=4) ha hb
theorem ub {l:List Cpu} (h:∀ k,k<l.length->0<=(l.getD k ae).node/\(l.getD k ae).node<=3):∀ k,k<=l.length->dx l k<16/\(0<k->1<=dx l k):=by
 intro k
 induction k with
 | zero=>intro _;exact ⟨Nat.zero_lt_succ 15,λh=>by omega⟩
 | succ k ih=>
  intro hk;have h1:=ih (by omega);have h2:=tY (h k (by omega)).1 (h k (by omega)).2;rw [dx];exact ⟨tZ h1.1 h2.1,λ_=>Nat.le_trans h2.2 Nat.right_le_or⟩
theorem Ez {a:Nat} {ds:List Dv} (ha:a<16) (h1:1<=a) (h:∀ k,k<ds.length->0<=(dv ds k).node/\(dv ds k).node<=3):∀ k,k<=ds.length->dK a ds k<16/\1<=dK a ds k:=by
 intro k
 induction k with
 | zero=>intro _;exact ⟨ha,h1⟩
 | succ k ih=>
  intro hk;have h1:=ih (by omega);have h2:=tY (h k (by omega)).1 (h k (by omega)).2;rw [dK];exact ⟨tZ h1.1 h2.1,Nat.le_trans h1.2 Nat.left_le_or⟩
end Ol
end
section
namespace Ol
open Qos (Pd ah ct)
open Sv (Gv Hd hd az aE body ev eR fF gG dI cN fk gv)
theorem EA (hs:List Hd):∀ k,k<=hs.length->ev hs k=((hs.take k).map eR).flatten:=by
 intro k
 induction k with
 | zero=>intro _;simp [ev]
 | succ k ih=>
  intro hk;rw [ev,ih (by omega),List.take_succ_eq_append_getElem (by omega),List.map_append,List.flatten_append]
  simp [hd,show k<hs.length by omega]
theorem ud (hs:List Hd):body hs=(hs.map eR).flatten:=by
 unfold body;rw [EA _ _ (lR),List.take_length]
theorem ue (c:UInt8) (x:List UInt8):∀ (xs:List (List UInt8)),x.length+xs.length<=(Lib.join (x :: xs) [c]).length:=by
 have key:∀ (r:List (List UInt8)),x.length+r.length<=(Lib.join (x :: r.reverse) [c]).length:=by
  intro r
  induction r with
  | nil=>have:=Ost.mZ [] x [c];simp at this;simp [this]
  | cons y r ih=>
   rw [List.reverse_cons,<- List.cons_append,Ost.mZ,if_neg (by simp)];simp only [List.length_append,List.length_cons,List.length_nil];omega
 intro xs
 have:=key xs.reverse
 rw [List.reverse_reverse,List.length_reverse] at this;exact this
theorem EB (c:Qos.Ct) (g:Gv):13<=(gG c g).length:=by
 unfold gG fk
 have:=ue 32 [99,111,110,116] ([c.nm.data.toList,Sv.dec c.am,Sv.dec c.ab,Sv.dec c.cm,Sv.dec c.cb,Sv.fZ c.ds]++Sv.cX g)
 rw [<- List.cons_append] at this;simp only [List.length_append,List.length_cons,List.length_nil,Sv.cX] at this ⊢;unfold Sv.dH;simp only [List.cons_append,List.nil_append] at this ⊢;omega
theorem EC (p:Pd):6<=(fF p).length:=by
 unfold fF fk
 have:=ue 32 [112,111,100] [p.nm.data.toList,Sv.dec p.pr]
 simp only [List.length_append,List.length_cons,List.length_nil] at this ⊢;unfold Sv.fj;omega
theorem ED {h:Hd} (e:1<=h.pod.cs.length):19<=(eR h).length:=by
 have h1:=EC h.pod;unfold eR;have h2:13<=(dI h h.pod.cs.length).length:=by
  have h3:∀ k,1<=k->13<=(dI h k).length:=by
   intro k hk
   match k,hk with
   | k+1,_=>
    rw [dI,List.length_append]
    have:=EB (ct h.pod.cs k) (gv h.gs k)
    omega
  exact h3 _ e
 rw [List.length_append];omega
theorem EE {hs hs':List Hd} (h:hs'.Sublist hs) (he:∀ x∈hs,1<=x.pod.cs.length):(body hs').length+19*(hs.length - hs'.length)<=(body hs).length:=by
 rw [ud,ud]
 induction h with
 | slnil=>simp
 | @cons l1 l2 a hsub ih=>
  have h1:=ih (λx hx=>he x (List.mem_cons_of_mem _ hx));have h2:=ED (he a List.mem_cons_self);have h3:=hsub.length_le;simp only [List.map_cons,List.flatten_cons,List.length_append,List.length_cons] at h1 ⊢;omega
 | @cons_cons l1 l2 a hsub ih=>
  have h1:=ih (λx hx=>he x (List.mem_cons_of_mem _ hx));simp only [List.map_cons,List.flatten_cons,List.length_append,List.length_cons] at h1 ⊢;omega
theorem EF (b:List UInt8):6<=(cN b).length:=by
 have:1<=(Lib.decDigits (Sv.fnv b)).length:=by rw [Lib.decDigits_length];exact Lib.nDigits_pos _
 simp only [cN,List.length_append,List.length_cons,List.length_nil];omega
theorem EG {hs hs':List Hd} (h:hs'.Sublist hs) (he:∀ x∈hs,1<=x.pod.cs.length) (hl:(aE hs).length<=6000):(aE hs').length<=6000:=by
 by_cases e:hs'.length=hs.length
 ·rw [h.eq_of_length e];exact hl
 ·have h1:=EE h he;have h2:=h.length_le;have h3:=EF (body hs);have h4:=Sv.kE (body hs');unfold aE at hl ⊢;rw [List.length_append] at hl ⊢;omega
theorem EH {hs:List Hd} (h:az hs=0):∀ x∈hs,1<=x.pod.cs.length:=by
 obtain ⟨a,b,c⟩:=bX.1 h;intro x hx;exact (Qos.kw (b x hx).1).2.2.1.1
end Ol
end
section
open Go.ChangeShapes Go.WideShapes Go.ChangeAt Go.RowKit
open Ost (Cpu ae)
open Dvs (Dv dv)
open Qos (Pd)
def jp (c:Ol.Cf) (v1 v2:Value):Value:=.agg #[v1,.int .u64 (c.keep:Nat),.int .i64 c.nb,v2,.int .i64 c.pol]
theorem EI:Tryz.prog.cellsOf 27=5:=by kernel_rfl
theorem EK:Tryz.prog.cellsOf 22=1:=by kernel_rfl
theorem EL:Tryz.prog.cellsOf 25=1:=by kernel_rfl
theorem EM:Tryz.prog.cellsOf 24=1:=by kernel_rfl
theorem EN:Tryz.prog.cellsOf 87=3:=by kernel_rfl
theorem EO {H:Type} {enc:TypeId × Value->H} {W:World} {base:Nat} {v:Value} {d:DataW H} {p:List MemPlace}
  (hv:Value.okWide Tryz.prog W .any base 27 v) (h:DataW.Trod enc Tryz.prog W 0 (λ_=>true) true 27 v d p):∃ (c:Ol.Cf) (v1 v2:Value) (g o:Nat),v=jp c v1 v2/\eM W v1 c.l/\cW W v2 g o c.ds/\c.keep<18446744073709551616:=by
 obtain ⟨cs,rfl,hsz,_⟩:∃ cs,v=.agg cs/\cs.size=Tryz.prog.cellsOf 27/\Row.okWide Tryz.prog W .any base 27 cs:=by
  simpa [Value.okWide,Tryz.underlying27] using hv
 rw [EI] at hsz;obtain ⟨l⟩:=cs;obtain ⟨fuel,hf⟩:=h;have hf:DataW.trod enc Tryz.prog W 0 (λ_=>true) true fuel 27 l=some (d,p):=hf;obtain ⟨n0,y0,h0⟩:=bM Tryz.underlying27 hf 0 22 0 _ EK rfl;obtain ⟨n1,y1,h1⟩:=bM Tryz.underlying27 hf 1 24 1 _ EM rfl;obtain ⟨n2,y2,h2⟩:=bM Tryz.underlying27 hf 2 3 2 _ fA rfl;obtain ⟨n3,y3,h3⟩:=bM Tryz.underlying27 hf 3 25 3 _ EL rfl;obtain ⟨n4,y4,h4⟩:=bM Tryz.underlying27 hf 4 3 4 _ fA rfl;clear hf;have hl:l.length=5:=by simpa using hsz
 match l,hl with
 | [a,b,c,e,f],_=>
  obtain ⟨k,e1,_,hwf⟩:=DataW.trod_int Tryz.underlying24 h1;obtain ⟨x2,e2⟩:=fS h2;obtain ⟨x4,e4⟩:=fS h4;have r3:=ja Tryz.underlying25 EN (by decide) h3 λ_ _ _ hl h=>zU hl h
  simp at e1 e2 e4
  obtain ⟨ds,g,o,hds,_⟩:=zV r3;have h0':DataW.trod enc Tryz.prog W 0 (λ_=>true) true n0 22 [a]=some y0:=h0;obtain ⟨ao,len,cap,ha⟩:∃ ao len cap,a=.slice ao len cap:=by
   rcases Deep.open_slice Tryz.underlying22 h0' with ⟨hcs,_⟩|⟨q,len',cap',m,n,D,Pl,hcs,_⟩
   ·simp at hcs;exact ⟨_,_,_,hcs⟩
   ·simp at hcs;exact ⟨_,_,_,hcs⟩
  subst ha;obtain ⟨cl,hcl,hcp⟩:=xU (d:=y0.1) (p:=y0.2) ⟨n0,h0'⟩;subst hcl;have hr:0<=k/\k<=18446744073709551615:=bounds_u64 hwf;refine ⟨⟨cl,k.toNat,x2,x4,ds⟩,_,_,g,o,?_,hcp,hds,by show k.toNat<_;omega⟩;have hkk:((k.toNat:Nat):Int)=k:=by omega
  unfold jp;rw [e1,e2,e4]
  show _=Value.agg #[_,.int .u64 ((k.toNat:Nat):Int),_,_,_]
  rw [hkk]
end
section
namespace Ol
open Ost (Cpu af dif ae)
open Dvs (Dv dv)
open Qos (Nd Ct Pd ct ah aF)
open Sv (Gv Hd gv hd az aE body OkL OkH)
theorem EP {m:Mc} {ds:List Dv} {p:Pd} (hop:m.op<18446744073709551616) (hd:Dvs.fault ds=0) (h1:p.cs.length=1) (hp:ah p=0) (hro:room m [p]=true) (hg:(give m ⟨m.op,ds,λ_=>false⟩ p).1=0):(aK ⟨m,ds,[]⟩ p).1=0:=by
 have hl:left m ds []=some ⟨m.op,ds,λ_=>false⟩:=jU hd;unfold aK;dsimp only;rw [hl,Option.getD_some];have hex:¬ ∃ x∈([]:List Hd),x.pod.nm=p.nm:=λ⟨x,hx,_⟩=>by cases hx
 have hro2:¬ room m (([]:List Hd).map Hd.pod++[p])=false:=λe=>by
  have e2:room m [p]=false:=e;rw [hro] at e2;cases e2
 rw [if_neg (by omega),if_neg hex,if_neg (by simp),if_neg hro2,if_neg (by omega)];have hn:mv p.cs:=mx (by omega);have hds:(⟨m.op,ds,λ_=>false⟩:Sk).ds.length<=16:=(Dvs.iF hd).1;have hlen:(give m ⟨m.op,ds,λ_=>false⟩ p).2.length=p.cs.length:=kR _ _ p.cs p.cs.length hg;have hcl:=(oX (m:=m) hds hn p.cs.length (lR) hg).1;have hins:bz [] (⟨p,(give m ⟨m.op,ds,λ_=>false⟩ p).2⟩:Hd)=[⟨p,(give m ⟨m.op,ds,λ_=>false⟩ p).2⟩]:=rfl;have hhf:az [(⟨p,(give m ⟨m.op,ds,λ_=>false⟩ p).2⟩:Hd)]=0:=by
  refine bX.2 ⟨by simp,λx hx=>?_,List.pairwise_singleton _ _⟩;rw [List.mem_singleton.1 hx];exact ⟨hp,hlen,o7 (o6 p.cs.length)⟩
 have hcp:∀ g∈(give m ⟨m.op,ds,λ_=>false⟩ p).2,g.cp<18446744073709551616:=by
  intro g hg2;rw [h1] at hcl;obtain ⟨k,hk,rfl⟩:=Sv.oB hg2;have hk0:k=0:=by omega
  subst hk0;have e:(List.range 1).map (gr p.cs (bi m ⟨m.op,ds,λ_=>false⟩ p.cs 1).2.1)=[gr p.cs (bi m ⟨m.op,ds,λ_=>false⟩ p.cs 1).2.1 0]:=rfl;rw [e,bN] at hcl;obtain ⟨s1,e1,_⟩:=Option.bind_eq_some_iff.1 hcl
  have:=(gL.1 e1).2.1.1
  unfold give;rw [h1];exact tM this hop
 rw [hins,if_neg (by have:=El hhf hcp h1;omega)]
theorem uf {t:St} {p:Pd} (h0:(aK t p).1=0):(aK t p).2.length=t.hs.length+1:=by
 unfold aK at h0 ⊢
 split
 ·rename_i h1;rw [if_pos h1] at h0;exact absurd h0 h1
 ·rename_i h1
  rw [if_neg h1] at h0
  split
  ·rename_i h2;rw [if_pos h2] at h0;cases h0
  ·rename_i h2
   rw [if_neg h2] at h0
   split
   ·rename_i h3;rw [if_pos h3] at h0;cases h0
   ·rename_i h3
    rw [if_neg h3] at h0
    split
    ·rename_i h4;rw [if_pos h4] at h0;cases h0
    ·rename_i h4
     rw [if_neg h4] at h0
     split
     ·rename_i h5;rw [if_pos h5] at h0;exact absurd h0 h5
     ·rename_i h5
      rw [if_neg h5] at h0
      split
      ·rename_i h6;rw [if_pos h6] at h0;cases h0
      ·unfold bz;simp;omega
theorem ug (A:Nat):Ost.cnt A<=64:=by
 unfold Ost.cnt Ost.aI;exact Nat.le_trans (List.length_filter_le _ _) (by simp)
def wC:Cf:=⟨[⟨0,0,0⟩],0,9,0,[]⟩
def wP:Pd:=⟨⟨#[97]⟩,0,[⟨⟨#[120]⟩,0,0,0,0,[]⟩]⟩
theorem EQ:bZ wC=0:=by decide
theorem uh:ah wP=0:=by decide
theorem ui:room (cK wC) [wP]=true:=by decide
theorem ER:(aK ⟨cK wC,[],[]⟩ wP).1=0:=by
 refine EP (by decide) (by decide) rfl uh ui ?_;exact Er (hs:=[]) rfl (by decide) ug (jU (by decide)) (by decide) (λx hx=>by cases hx) uh (λc hc=>by rw [List.mem_singleton.1 hc]) ui
end Ol
end
section
namespace Ol
open Ost (Cpu Wi af cnt dif aM)
open Dvs (Dv dv)
open Qos (Nd Ct Pd ct ah aF aO aV)
open Sv (Gv Hd gv hd az gsF aE)
def zh (p:Pd):Hd:=⟨p,List.replicate p.cs.length ⟨0,[]⟩⟩
def ES (m:Mc):Bool:=(place m [⟨true,[]⟩]).2
theorem ET {a b:List Pd} (h:a.Sublist b) (hp:∀ p∈b,ah p=0):bI a<=bI b/\cQ a<=cQ b:=by
 induction h with
 | slnil=>exact ⟨Int.le_refl _,Int.le_refl _⟩
 | @cons l1 l2 x hs ih=>
  have h1:=ih λp hq=>hp p (List.mem_cons_of_mem _ hq)
  have m:=Qos.jh (hp x List.mem_cons_self);have a1:=Qos.l9 m (lR);have a2:=Qos.kx m (lR);unfold bI cQ at *;rw [List.map_cons,List.map_cons,List.sum_cons,List.sum_cons];omega
 | @cons_cons l1 l2 x hs ih=>
  have h1:=ih λp hq=>hp p (List.mem_cons_of_mem _ hq)
  unfold bI cQ at *;rw [List.map_cons,List.map_cons,List.map_cons,List.map_cons,List.sum_cons,List.sum_cons,List.sum_cons,List.sum_cons];omega
theorem uj {a b:List Int} (h:a.Perm b):a.sum=b.sum:=by
 induction h with
 | nil=>rfl
 | cons x _ ih=>rw [List.sum_cons,List.sum_cons,ih]
 | swap x y l=>simp only [List.sum_cons];omega
 | trans _ _ i1 i2=>exact i1.trans i2
theorem EU {m:Mc} {a b:List Pd} (h:a.Perm b):room m a=room m b:=by
 unfold room bI cQ;rw [uj (h.map _),uj (h.map _)]
theorem EV {m:Mc} {a b:List Pd} (h:a.Sublist b) (hp:∀ p∈b,ah p=0) (hb:room m b=true):room m a=true:=by
 have:=ET h hp
 unfold room at *;rw [Bool.and_eq_true,decide_eq_true_eq,decide_eq_true_eq] at *;omega
structure Came (t:St) (l:List Pd):Prop where
 perm:t.hs.Perm (l.map zh)
 good:l≠[]->room t.m l=true/\ES t.m=true/\(aE t.hs).length<=6000
end Ol
end
section
namespace Ol
open Ost (Cpu N4 Wi Hi af cnt dif aM told gy i6 okH cho com wi0 pop8 cU sumTo bJ cL ae bO)
open Dvs (Dv dv fits bC bR srt cf sel lO i7 gC fh cr fR ord cn)
open Qos (Nd Ct Pd ct ah aF)
open Sv (Gv Hd gv hd)
end Ol
end
section
namespace Ol
open Dvs (Dv dv nth)
open Sv (Gv Hd gv hd)
end Ol
end
section
namespace Ol
open Ost (Cpu af cnt dif aM)
open Dvs (Dv dv bR)
open Qos (Nd Ct Pd ct ah aF)
open Sv (Gv Hd gv hd aE)
end Ol
end
section
namespace Ol
open Ost (Cpu af cnt dif)
open Dvs (Dv dv)
open Qos (Nd Ct Pd ct ah aF aO aV)
open Sv (Gv Hd gv hd az gsF aE)
def eH (cs:List Ct):Nat->Int
 | 0=>0
 | k+1=>eH cs k+(if aF cs (ct cs k).am=0 then (ct cs k).am else 0)
theorem EW {cs:List Ct} {am:Int} (h:0<=am):(if aF cs am=0 then am else 0)+1000*aF cs am=am:=by
 unfold aF
 split <;> split <;> omega
theorem EX {cs:List Ct} (h:∀ c∈cs,0<=c.am):∀ k,k<=cs.length->eH cs k+1000*eT cs k=aO cs k:=by
 intro k
 induction k with
 | zero=>intro _;rfl
 | succ k ih=>
  intro hk;have h1:=ih (by omega);have h2:=EW (cs:=cs) (h _ (Sv.jk (show k<cs.length by omega)));have e:aO cs (k+1)=aO cs k+(ct cs k).am:=rfl;rw [eH,eT,e];omega
def fq (hs:List Hd):Int:=(hs.map λh=>eH h.pod.cs h.pod.cs.length).sum
theorem EY {hs:List Hd} (h:∀ x∈hs,ah x.pod=0/\x.gs.length=x.pod.cs.length):fq hs+1000*owns (fp hs)=bI (hs.map Hd.pod):=by
 induction hs with
 | nil=>rfl
 | cons x r ih=>
  have h1:=ih λy hy=>h y (List.mem_cons_of_mem _ hy)
  obtain ⟨hp,hl⟩:=h x List.mem_cons_self;have h2:=EX (kT hp) x.pod.cs.length (lR);have e1:fp (x :: r)=gk x++fp r:=rfl;rw [e1,o8,tQ hl];unfold fq bI at *;rw [List.map_cons,List.map_cons,List.map_cons,List.sum_cons,List.sum_cons];omega
theorem EZ {t:St} {s:Sk} (h:Inv t) (hr:room t.m (t.hs.map Hd.pod)=true) (hs:left t.m t.ds t.hs=some s):fq t.hs<=1000*(cnt s.cp:Int):=by
 obtain ⟨_,a2,_⟩:=bX.1 h.held;have h1:=EY λx hx=>⟨(a2 x hx).1,(a2 x hx).2.1⟩
 have h2:=(tR hs).1;unfold room at hr;rw [Bool.and_eq_true,decide_eq_true_eq] at hr;omega
theorem uk {cs:List Ct} (hm:Qos.bP cs):∀ k,k<=cs.length->0<=eH cs k/\eH cs k<=1000000*k:=by
 intro k
 induction k with
 | zero=>intro _;exact ⟨Int.le_refl _,Int.le_refl _⟩
 | succ k ih=>
  intro hk;have h1:=ih (by omega);have h2:=(hm.2 k (by omega)).1;rw [eH]
  split <;> omega
theorem ul {hs:List Hd} {k:Nat} (h:k<hs.length):fq (hs.take (k+1))=fq (hs.take k)+eH (hd hs k).pod.cs (hd hs k).pod.cs.length:=by
 unfold fq;rw [List.take_succ_eq_append_getElem h,List.map_append,List.sum_append];simp [hd,h]
theorem um {hs:List Hd} (h:∀ x∈hs,ah x.pod=0) (hl:hs.length<=12):∀ k,k<=hs.length->0<=fq (hs.take k)/\fq (hs.take k)<=3000000*k:=by
 intro k
 induction k with
 | zero=>intro _;exact ⟨Int.le_refl _,Int.le_refl _⟩
 | succ k ih=>
  intro hk;have h1:=ih (by omega);have m:=Qos.jh (h _ (Sv.jl (show k<hs.length by omega)));have h2:=uk m _ (lR);have h3:=m.1;rw [ul (by omega)];omega
theorem my {t:St} {p:Pd} (hr:room t.m (t.hs.map Hd.pod)=true):room t.m ((aK t p).2.map Hd.pod)=true:=by
 unfold aK
 split
 ·exact hr
 split
 ·exact hr
 split
 ·exact hr
 split
 ·exact hr
 rename_i h4
 split
 ·exact hr
 split
 ·exact hr
 have h4':room t.m (t.hs.map Hd.pod++[p])=true:=by simpa using h4
 have hp:=(insert_perm t.hs ⟨p,(give t.m ((left t.m t.ds t.hs).getD ⟨0,[],λ_=>false⟩) p).2⟩).map Hd.pod;rw [List.map_append] at hp;rw [<- EU hp];exact h4'
theorem E4 {t:St} {hs:List Hd} (h:Inv t) (hs':hs.Sublist t.hs) (hr:room t.m (t.hs.map Hd.pod)=true):room t.m (hs.map Hd.pod)=true:=by
 obtain ⟨_,a2,_⟩:=bX.1 h.held;refine EV (hs'.map Hd.pod) (λp hp=>?_) hr;obtain ⟨x,hx,rfl⟩:=List.mem_map.1 hp;exact (a2 x hx).1
def Alike (ds ds':List Dv):Prop:=ds'.length=ds.length/\∀ j,(dv ds' j).kind=(dv ds j).kind/\(dv ds' j).node=(dv ds j).node
theorem alike_refl (ds:List Dv):Alike ds ds:=⟨rfl,λ_=>⟨rfl,rfl⟩⟩
theorem uo {ds:List Dv} {n:Nat} (h:n<ds.length) (b:Bool):Alike ds (Dvs.sicken ds n b):=⟨Dvs.kq ds n b,λj=>by
 rw [Dvs.nS h]
 split
 ·rename_i e;rw [e];exact ⟨rfl,rfl⟩
 ·exact ⟨rfl,rfl⟩⟩
theorem uq {ds ds':List Dv} (h:Alike ds ds'):Dvs.fault ds'=Dvs.fault ds:=by
 unfold Dvs.fault;rw [h.1]
 split
 ·rfl
 ·refine Dvs.zA λk _=>?_
  unfold Dvs.eE;rw [(h.2 k).1,(h.2 k).2]
theorem E5 {ds ds':List Dv} (h:Alike ds ds'):cO ds'=cO ds:=by
 funext m j
 unfold cO;rw [(h.2 _).1]
def jV (s:Sk) (ds':List Dv):Sk:=⟨s.cp,ds',s.us⟩
theorem E6 {ds ds':List Dv} (h:Alike ds ds') {x:Cl} (hx:kL ds x):kL ds' x:=by
 obtain ⟨h1,h2,h3⟩:=hx;refine ⟨h1,?_,λk hk=>?_⟩
 ·unfold gK at *;rw [E5 h];exact h2
 ·rw [h.1];exact h3 k hk
theorem E7 {ds':List Dv}:∀ {l:List Cl} {s s':Sk},Alike s.ds ds'->bN s l=some s'->bN (jV s ds') l=some (jV s' ds'):=by
 intro l
 induction l with
 | nil=>intro s s' _ h;rw [bN] at h;injection h with h;rw [h];rfl
 | cons x r ih=>
  intro s s' ha h;rw [bN] at h ⊢;obtain ⟨s1,h1,h2⟩:=Option.bind_eq_some_iff.1 h;obtain ⟨a1,a2,a3⟩:=gL.1 h1;have e:cP (jV s ds') x.g x.own x.ns=some (jV s1 ds'):=gL.2 ⟨E6 ha a1,a2,by rw [a3];rfl⟩;rw [e,Option.bind_some];exact ih (by rw [mr h1];exact ha) h2
theorem ur {m:Mc} {ds ds':List Dv} {hs:List Hd} {s:Sk} (ha:Alike ds ds') (h:left m ds hs=some s):left m ds' hs=some (jV s ds'):=by
 unfold left at *;rw [uq ha]
 split at h
 ·rename_i hf
  rw [if_pos hf];rw [jR _ _ _ (lR),List.take_length] at *;exact E7 (s:=⟨m.op,ds,λ_=>false⟩) ha h
 ·cases h
theorem E8 {t:St} {ds':List Dv} (h:Inv t) (ha:Alike t.ds ds'):Inv { t with ds:=ds' }:=by
 obtain ⟨s,hs⟩:=h.left;exact ⟨(uq ha).trans h.devs,h.held,_,ur ha hs⟩
end Ol
end
end Go.Proofs.YtbmmnflgnmjboaaGreatDoor
