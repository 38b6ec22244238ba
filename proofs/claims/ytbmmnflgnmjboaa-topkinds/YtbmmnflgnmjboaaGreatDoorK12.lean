import Derived.Test.YtbmmnflgnmjboaaGreatDoorK11
import Derived.Sort.Walk0
set_option maxRecDepth 100000
set_option maxHeartbeats 16000000
namespace Go.Proofs.YtbmmnflgnmjboaaGreatDoor
section
namespace Ol
open Ost (Cpu Wi af cnt dif aN told)
open Dvs (Dv dv fits bA bP srt b8 sel l9 fV)
open Qos (Nd Ct Pd ct aH)
open Sv (Gv Hd gv hd)
theorem EK {ds:List Dv} {us us':Nat->Bool} {kind:ByteArray} {many:Int} (h:∀ j,(dv ds j).kind=kind->us j=us' j):bP ds us kind many=bP ds us' kind many:=by
 have e:sel (fits ds us kind) ds.length=sel (fits ds us' kind) ds.length:=l9 λj _=>by
  unfold fits
  by_cases hk:(dv ds j).kind=kind
  ·rw [h j hk]
  ·simp [hk]
 unfold bP;rw [e]
theorem EL {ds:List Dv} (on on':Nat):∀ (ns:List Nd) (us us':Nat->Bool) (out out':List Nat),ns.Pairwise (λa b=>a.kind≠b.kind)->(∀ n∈ns,∀ j,(dv ds j).kind=n.kind->us j=us' j)->(bR ds on ns us out).1=(bR ds on' ns us' out').1:=by
 intro ns
 induction ns with
 | nil=>intro us us' out out' _ _;rfl
 | cons n r ih=>
  intro us us' out out' hp h;obtain ⟨h1,h2⟩:=List.pairwise_cons.1 hp;have e:=EK (many:=n.many) (h n (List.mem_cons_self ..));rw [bR,bR,<- e]
  by_cases hf:bP ds us n.kind n.many=0
  ·rw [if_pos hf,if_pos hf];refine ih _ _ _ _ h2 λx hx j hj=>?_
   have hno:∀ (u:Nat->Bool) (o:Nat),j ∉ bA ds u n.kind o n.many.toNat:=λu o hm=>by
    have h3:=(fV hm).2;simp only [fits,Bool.and_eq_true,Qp] at h3;exact h1 x hx (h3.1.1.symm.trans hj)
   unfold b8;rw [h x (Qv _ hx) j hj,Q7 (hno us on),Q7 (hno us' on')]
  ·rw [if_neg hf,if_neg hf]
theorem EM (l:List Cpu) (F:Nat) (L:Int) (on on':Nat):(aN l F L on).2=(aN l F L on').2:=by
 unfold aN
 split
 ·rfl
 ·split <;> rfl
theorem EN {m:Mc} {s:Sk} {own:Int} {ns:List Nd} (hp:ns.Pairwise λa b=>a.kind≠b.kind):(aY m s own ns).1=0↔(place m (ce m s own ns)).2=true/\(aN m.l s.cp own 0).2=0/\(bR s.ds 0 ns s.us []).1=0:=by
 unfold aY;dsimp only;generalize hpl:place m (ce m s own ns)=pl;rw [EM m.l s.cp own 0 (af (λc=>pl.1.1.testBit c.node.toNat) m.l),EL 0 pl.1.1 ns s.us s.us [] [] hp (λ_ _ _ _=>rfl)];have h4:=ug m.l s.cp own (af (λc=>pl.1.1.testBit c.node.toNat) m.l)
 by_cases h1:pl.2=false
 ·rw [if_pos h1];constructor
  ·intro h;cases h
  ·intro h;rw [h1] at h;cases h.1
 ·rw [if_neg h1];rw [Bool.not_eq_false] at h1
  by_cases h2:(aN m.l s.cp own (af (λc=>pl.1.1.testBit c.node.toNat) m.l)).2≠0
  ·rw [if_pos h2];constructor
   ·intro h;dsimp only at h;omega
   ·intro h;exact absurd h.2.1 h2
  ·rw [if_neg h2]
   by_cases h3:(bR s.ds pl.1.1 ns s.us []).1≠0
   ·rw [if_pos h3];constructor
    ·intro h;exact absurd h h3
    ·intro h;exact absurd h.2.2 h3
   ·rw [if_neg h3];exact ⟨λ_=>⟨h1,by omega,by omega⟩,λ_=>rfl⟩
end Ol
end
section
open RowKit Shelf
open Qos (Nd Ct Pd nd ct pd)
open Sv (Gv Hd gv hd)
attribute [local go_sem] Oper.semAt_some
theorem EO (v:Value) (gs:List Gv) (w:World) (h:bl w v gs) (hl:gs.length<=1000) (hdl:∀ k,k<gs.length->(gv gs k).dv.length<=1000):Calls Tryz.prog 42 #[v] w λe w'=>∃ ao c,e=.returned (.slice ao gs.length c)/\bl (fresh w.heap.size w') (.slice ao gs.length c) gs/\Below w.heap.size w w':=by
 have HCL:=qI (Ey v gs w w h (aB.refl _) hl);have HDL:=qI hdl;obtain ⟨ao0,c0,rfl,hm0,_⟩:=h;clear hm0 hdl
 go_enter Tryz.func42,Tryz.ntmps42
 go_wp2_with fail
 refine HCL.out.mono ?_;rintro e W1 ⟨ao,c,rfl,hcap,hg,hb1⟩;have HCAP:=qI hcap;obtain ⟨g,dv,hg2⟩:∃ (g:Nat) (dv:Nat->Value),0<gs.length->ao=some ⟨g,0,none⟩/\cZ W1 w.heap.size g 2 gs.length (λk=>[.int .u64 (gv gs k).cp,dv k])/\∀ k,k<gs.length->(gv gs k).cp<18446744073709551616/\bj w (dv k) (gv gs k).dv:=by
  by_cases h0:0<gs.length
  ·obtain ⟨g,dv,hh⟩:=hg h0;exact ⟨g,dv,λ_=>hh⟩
  ·exact ⟨0,λ_=>.nilIface,λh=>absurd h h0⟩
 have HG:=qI hg2;have HB1:=qI hb1;clear hcap hg hg2 hb1 HCL
 go_wp2
 go_loopw [9] (λi wr=>∃ (k:Nat) (dw:Nat->Value),k<=gs.length/\i=.int .i64 k/\Below w.heap.size w wr/\Hid (0<gs.length->cZ wr w.heap.size g 2 gs.length (λj=>[.int .u64 (gv gs j).cp,dw j]))/\Hid (∀ j,j<k->bj (ag (λb=>b<w.heap.size\/b=g) wr) (dw j) (gv gs j).dv)/\Hid (∀ j,k<=j->dw j=dv j)) (λi _=>gs.length - (intOf i).toNat)
 case atStart=>exact ⟨0,dv,by omega,rfl,HB1.out,λh=>(HG.out h).2.1,λj hj=>by omega,λj _=>rfl⟩
 case round=>
  obtain ⟨k,dw,hk,rfl,hb,HROW,HDONE,HREST⟩:=hrel;have HB:=qI hb
  by_cases hlt:k<gs.length
  ·obtain ⟨rfl,_,hin⟩:=HG.out (by omega);have hrow:=HROW.out (by omega);have x0:wr.cell? ⟨g,k*2,none⟩=some (.int .u64 (gv gs k).cp):=hrow.cell k hlt 0 (by decide);have x1:wr.cell? ⟨g,k*2+1,none⟩=some (dv k):=by rw [<- HREST.out k (lR)];exact hrow.cell k hlt 1 (by decide)
   have hint:=(hin k hlt).2;obtain ⟨ia,ic,hdv,_⟩:=id hint;rw [hdv] at x1 hint;have hA:=hb.alloc hb.size (.cells #[.int .u64 (gv gs k).cp,.slice ia (gv gs k).dv.length ic] 69);have hsA:(wr.alloc (.cells #[.int .u64 (gv gs k).cp,.slice ia (gv gs k).dv.length ic] 69)).heap.size=wr.heap.size+1:=by simp
   have HCI:=qI (Ew (.slice ia (gv gs k).dv.length ic) (gv gs k).dv (wr.alloc (.cells #[.int .u64 (gv gs k).cp,.slice ia (gv gs k).dv.length ic] 69)) (hint.below hA) (HDL.out k hlt));have HA:=qI hA;have hgl:=hrow.lt;have hgN:=hrow.base;have hsz:=hb.size;have hk100:(k:Int)<(gs.length:Int):=by omega
   clear hrow hin hint hb hdv hA;generalize hcp:(gv gs k).cp=cp at *;have HCP:=qI hcp;have HDVL:Hid ((gv gs k).dv=(gv gs k).dv):=rfl;clear hcp;generalize hxs:(gv gs k).dv=xs at *;have HXS:=qI hxs;clear hxs
   go_wp2_with fail
   refine HCI.out.mono ?_;rintro e W2 ⟨na,nc,rfl,hni,hb2⟩;have hW2:Below wr.heap.size wr W2:=((Q0 wr.heap.size wr).alloc (lR) _).trans (hb2.mono (by simp));have hrow2:=(HROW.out (by omega)).below hW2;have y1:W2.cell? ⟨g,k*2+1,none⟩=some (dw k):=hrow2.cell k hlt 1 (by decide);have f1:=hrow2.free (k*2+1);have HW2:=qI hW2;have HNI:=qI hni;have HR2:=qI hrow2;have hs2:wr.heap.size+1<=W2.heap.size:=by have:=hb2.size;simp at this;omega
   clear hni hb2 hW2 hrow2 HCI
   go_wp2_with fail
   have HSB:Hid (∀ b,b≠g->(W2.setCell ⟨g,k*2+1,none⟩ (.slice na xs.length nc)).heap[b]?=W2.heap[b]?):=λb hb=>set_other hb
   have hszS:(W2.setCell ⟨g,k*2+1,none⟩ (.slice na xs.length nc)).heap.size=W2.heap.size:=by simp
   have HNR:=qI (HR2.out.set k 1 hlt (by decide) (.slice na xs.length nc) (λj=>[.int .u64 (gv gs j).cp,if j=k then .slice na xs.length nc else dw j]) (λi _ hi=>by simp [hi]) (λi hi=>by
    match i,hi with
    | 0,_=>simp
    | 1,_=>simp) rfl)
   have HBN:=qI ((HB.out.trans (HW2.out.mono hsz)).setCell (p:=⟨g,k*2+1,none⟩) hgN (.slice na xs.length nc));generalize W2.setCell ⟨g,k*2+1,none⟩ (.slice na xs.length nc)=W3 at *
   go_roundw
   case rel=>
    refine ⟨k+1,λj=>if j=k then .slice na xs.length nc else dw j,by omega,by go_num,HBN.out,λ_=>HNR.out,λj hj=>?_,λj hj=>?_⟩
    ·by_cases hjk:j=k
     ·subst hjk;dsimp only;rw [if_pos rfl,HXS.out];refine HNI.out.le (bg (λb hb1 hb2=>?_) (by rw [hszS];exact lR));rw [hsA] at hb2;exact ⟨by omega,HSB.out b (by omega)⟩
     ·dsimp only;rw [if_neg hjk];refine (HDONE.out j (by omega)).le (bg (λb hb1 hb2=>⟨hb2,?_⟩) (by rw [hszS];omega));rw [HSB.out b (by omega)];exact HW2.out.block b hb1
    ·dsimp only;rw [if_neg (by omega)];exact HREST.out j (by omega)
   case measure=>simp [intOf];omega
  ·have hke:k=gs.length:=by omega
   subst hke;have HFIN:Hid (bl (fresh w.heap.size wr) (.slice ao gs.length c) gs):=by
    unfold Hid
    by_cases h0:0<gs.length
    ·obtain ⟨ha,_,hin⟩:=HG.out h0;rw [ha];exact Eu (HROW.out h0) rfl HCAP.out (λj hj=>⟨(hin j hj).1,(HDONE.out j hj).le (bg (λb _ hb2=>⟨by omega,rfl⟩) (lR))⟩)
    ·exact ⟨ao,c,rfl,HCAP.out,λh=>absurd h h0⟩
   go_wp2
   go_ret;exact ⟨ao,c,rfl,HFIN.out,HB.out⟩
end
section
namespace Ol
open Dvs (first cO jj)
open Qos (Pd ah leS)
open Sv (Gv Hd gv hd az gM du js gsF jU)
def cL (a b:ByteArray):Prop:=a.toList<b.toList
theorem mL (a:ByteArray):¬ cL a a:=List.lt_irrefl _
theorem li {a b c:ByteArray} (h:cL a b) (k:cL b c):cL a c:=List.lt_trans h k
theorem pt {a b:ByteArray} (h:a≠b):cL a b\/cL b a:=by
 unfold cL
 by_cases h1:a.toList<b.toList
 ·exact .inl h1
 ·by_cases h2:b.toList<a.toList
  ·exact .inr h2
  ·exfalso
   have e:a.toList=b.toList:=List.le_antisymm h2 h1;rw [Qs,Qs] at e;exact h (ByteArray.ext (Array.toList_inj.1 e))
theorem pu {a b:ByteArray}:leS a b=false↔cL b a:=by
 unfold leS cL;rw [Go.Proofs.bytesLess_eq,Bool.or_eq_false_iff,decide_eq_false_iff_not,Qr];constructor
 ·rintro ⟨h1,h2⟩
  have:a≠b:=λe=>h2 (by rw [e])
  rcases pt this with h|h
  ·exact absurd h h1
  ·exact h
 ·intro h;exact ⟨λk=>List.lt_irrefl _ (List.lt_trans h k),λe=>by rw [e] at h;exact List.lt_irrefl _ h⟩
def gR (hs:List Hd):Prop:=hs.Pairwise λa b=>cL a.pod.nm b.pod.nm
theorem pw {hs:List Hd} {i:Nat} (h:i+1<hs.length):js hs (i+1)=false↔cL (hs[i]'(by omega)).pod.nm hs[i+1].pod.nm:=by
 unfold js;rw [Qc (by omega),Bool.true_and,pu];have e1:hd hs (i+1)=hs[i+1]:=by simp [hd,h]
 have e2:hd hs (i+1 - 1)=hs[i]'(by omega):=by simp [hd,show i<hs.length by omega]
 rw [e1,e2]
theorem ui {hs:List Hd}:gR hs↔∀ i,i<hs.length->js hs i=false:=by
 constructor
 ·intro h i hi;cases i with
  | zero=>rfl
  | succ i=>exact (pw hi).2 (List.pairwise_iff_getElem.1 h i (i+1) (by omega) hi (by omega))
 ·intro h;have key:∀ d i (hi:i+d+1<hs.length),cL (hs[i]'(by omega)).pod.nm hs[i+d+1].pod.nm:=by
   intro d
   induction d with
   | zero=>intro i hi;exact (pw hi).1 (h _ hi)
   | succ d ih=>
    intro i hi;exact li (ih i (by omega)) ((pw hi).1 (h _ hi))
  refine List.pairwise_iff_getElem.2 λi j hi hj hij=>?_
  obtain ⟨d,rfl⟩:∃ d,j=i+d+1:=⟨j - i - 1,by omega⟩;exact key d i hj
theorem bW {hs:List Hd}:az hs=0↔hs.length<=12/\(∀ h∈hs,ah h.pod=0/\h.gs.length=h.pod.cs.length/\gsF h.gs=0)/\gR hs:=by
 unfold az
 by_cases h12:12<hs.length
 ·rw [if_pos h12];exact ⟨λh=>(by cases h),λh=>(by omega)⟩
 ·rw [if_neg h12];have one:∀ (h:Hd) (b:Bool),du h b=0↔ah h.pod=0/\b=false/\h.gs.length=h.pod.cs.length/\gsF h.gs=0:=by
   intro h b;unfold du
   by_cases h1:ah h.pod≠0
   ·rw [if_pos h1];exact ⟨λe=>absurd e h1,λe=>e.1⟩
   ·rw [if_neg h1]
    by_cases h2:b=true\/h.gs.length≠h.pod.cs.length
    ·rw [if_pos h2];refine ⟨λe=>(by cases e),λe=>?_⟩
     rcases h2 with h2|h2
     ·rw [e.2.1] at h2;cases h2
     ·exact absurd e.2.2.1 h2
    ·rw [if_neg h2];have h3:b=false/\h.gs.length=h.pod.cs.length:=⟨Bool.not_eq_true _ ▸ λe=>h2 (.inl e),Qt λe=>h2 (.inr e)⟩;exact ⟨λe=>⟨by omega,h3.1,h3.2,e⟩,λe=>e.2.2.2⟩
  constructor
  ·intro h;have hall:=cO h;refine ⟨by omega,λx hx=>?_,ui.2 λi hi=>((one _ _).1 (hall i hi)).2.1⟩;obtain ⟨k,hk,rfl⟩:=Sv.mA hx
   have:=(one _ _).1 (hall k hk)
   exact ⟨this.1,this.2.2.1,this.2.2.2⟩
  ·rintro ⟨_,h1,h2⟩;refine jj λk hk=>?_
   have:=h1 _ (jU hk)
   exact (one _ _).2 ⟨this.1,ui.1 h2 k hk,this.2.1,this.2.2⟩
def bZ (hs:List Hd) (nm:ByteArray):Nat:=hs.countP λh=>decide (h.pod.nm.toList<nm.toList)
def bB (hs:List Hd) (x:Hd):List Hd:=hs.take (bZ hs x.pod.nm)++x :: hs.drop (bZ hs x.pod.nm)
theorem insert_perm (hs:List Hd) (x:Hd):(hs++[x]).Perm (bB hs x):=by
 unfold bB;have h1:(hs++[x]).Perm (x :: hs):=List.perm_append_singleton x hs;have h2:(x :: hs).Perm (x :: (hs.take (bZ hs x.pod.nm)++hs.drop (bZ hs x.pod.nm))):=by rw [List.take_append_drop]
 exact h1.trans (h2.trans List.perm_middle.symm)
theorem EP {hs:List Hd} (h:gR hs) (nm:ByteArray):(∀ y∈hs.take (bZ hs nm),cL y.pod.nm nm)/\∀ y∈hs.drop (bZ hs nm),¬ cL y.pod.nm nm:=by
 induction hs with
 | nil=>exact ⟨λy hy=>by simp [bZ] at hy,λy hy=>by simp [bZ] at hy⟩
 | cons x r ih=>
  obtain ⟨h1,h2⟩:=List.pairwise_cons.1 h;obtain ⟨i1,i2⟩:=ih h2
  by_cases hx:x.pod.nm.toList<nm.toList
  ·have e:bZ (x :: r) nm=bZ r nm+1:=by unfold bZ;rw [List.countP_cons_of_pos (by simpa using hx)]
   rw [e,List.take_succ_cons,List.drop_succ_cons];refine ⟨λy hy=>?_,i2⟩
   rcases List.mem_cons.1 hy with rfl|hy
   ·exact hx
   ·exact i1 y hy
  ·have hr:∀ y∈r,¬ cL y.pod.nm nm:=λy hy hn=>hx (li (h1 y hy) hn)
   have e:bZ (x :: r) nm=0:=by
    unfold bZ;rw [List.countP_eq_zero];intro y hy
    rcases List.mem_cons.1 hy with rfl|hy
    ·simpa using hx
    ·have:=hr y hy;unfold cL at this;simpa using this
   rw [e];refine ⟨λy hy=>by simp at hy,λy hy=>?_⟩;rw [List.drop_zero] at hy
   rcases List.mem_cons.1 hy with rfl|hy
   ·exact hx
   ·exact hr y hy
theorem uj {hs:List Hd} {x:Hd} (h:gR hs) (hn:∀ y∈hs,y.pod.nm≠x.pod.nm):gR (bB hs x):=by
 obtain ⟨h1,h2⟩:=EP h x.pod.nm;have hsub:=h;unfold gR bB at *;rw [<- List.take_append_drop (bZ hs x.pod.nm) hs,List.pairwise_append] at hsub;obtain ⟨p1,p2,p3⟩:=hsub;have hgt:∀ y∈hs.drop (bZ hs x.pod.nm),cL x.pod.nm y.pod.nm:=λy hy=>by
  rcases pt (hn y (List.mem_of_mem_drop hy)) with k|k
  ·exact absurd k (h2 y hy)
  ·exact k
 rw [List.pairwise_append,List.pairwise_cons];refine ⟨p1,⟨hgt,p2⟩,λa ha b hb=>?_⟩
 rcases List.mem_cons.1 hb with rfl|hb
 ·exact h1 a ha
 ·exact p3 a ha b hb
end Ol
end
section
namespace Ol
open Ost (Cpu)
open Dvs (Dv dv first cO jj srt oj jR gG)
open Qos (Nd Ct Pd nd ct ah leS dS bV aH)
open Sv (Gv Hd gv hd az gsF cd ex aF)
theorem EQ {new:List Nat}:cd (cu (srt new))=0:=by
 have hlen:(cu (srt new)).length=(srt new).length:=by simp [cu]
 have h16:(srt new).length<=16:=jR _ 16;unfold cd;rw [if_neg (by omega)];refine jj λk hk=>?_
 have hk':k<(srt new).length:=by omega
 have e:∀ i (hi:i<(srt new).length),(cu (srt new)).getD i 0=((srt new)[i]:Int):=λi hi=>by simp [cu,hi]
 unfold ex;rw [if_neg];rw [e k hk'];have h1:(srt new)[k]<16:=(gG.1 (List.getElem_mem hk')).1;intro h
 rcases h with h|h|⟨h0,h⟩
 ·omega
 ·omega
 ·rw [e (k - 1) (by omega)] at h
  have:=List.pairwise_iff_getElem.1 (oj (λj=>decide (j∈new)) 16) (k - 1) k (by show k - 1<(srt new).length;omega) hk' (by omega)
  have h2:(srt new)[k - 1]<(srt new)[k]:=this;omega
theorem ER {m:Mc} {s:Sk} {own:Int} {ns:List Nd}:cd (aY m s own ns).2.1.dv=0:=by
 unfold aY;dsimp only
 split
 ·rfl
 ·split
  ·rfl
  ·split
   ·rfl
   ·exact EQ
theorem px {m:Mc} {s:Sk} {cs:List Ct}:∀ k,∀ g∈(a6 m s cs k).2.1,cd g.dv=0:=by
 intro k
 induction k with
 | zero=>intro g hg;cases hg
 | succ k ih=>
  rw [a6]
  split
  ·unfold iq
   split
   ·intro g hg
    rcases Qi.1 hg with hg|hg
    ·exact ih g hg
    ·rw [Qm.1 hg];exact ER
   ·intro g hg;cases hg
  ·exact ih
theorem py {gs:List Gv} (h:∀ g∈gs,cd g.dv=0):gsF gs=0:=jj λ_ hk=>h _ (Sv.kR hk)
theorem ES {ds:List Nd} (h:first (dS ds) ds.length=0):(∀ n∈ds,n.many≠0)/\ds.Pairwise λa b=>a.kind≠b.kind:=by
 have ha:=cO h;have facts:∀ k,k<ds.length->1<=(nd ds k).many/\(0<k->leS (nd ds k).kind (nd ds (k - 1)).kind=false):=λk hk=>by
  have:=ha k hk
  unfold dS at this
  split at this
  ·cases this
  ·rename_i h1
   split at this
   ·cases this
   ·rename_i h2
    refine ⟨by omega,λh0=>?_⟩;cases e:leS (nd ds k).kind (nd ds (k - 1)).kind with
    | false=>rfl
    | true=>exact absurd (.inr ⟨h0,e⟩) h1
 constructor
 ·intro n hn;obtain ⟨k,hk,rfl⟩:=Sv.sX hn
  have:=(facts k hk).1
  omega
 ·have e:∀ i (hi:i<ds.length),nd ds i=ds[i]:=λi hi=>by simp [nd,hi]
  have key:∀ d i (hi:i+d+1<ds.length),cL (ds[i]'(by omega)).kind ds[i+d+1].kind:=by
   intro d
   induction d with
   | zero=>
    intro i hi
    have:=pu.1 ((facts (i+1) hi).2 (by omega))
    rw [e (i+1) hi,show i+1 - 1=i by omega,e i (by omega)] at this;exact this
   | succ d ih=>
    intro i hi
    have:=pu.1 ((facts (i+(d+1)+1) hi).2 (by omega))
    rw [e _ hi,show i+(d+1)+1 - 1=i+d+1 by omega,e (i+d+1) (by omega)] at this;exact li (ih i (by omega)) this
  refine List.pairwise_iff_getElem.2 λi j hi hj hij heq=>?_
  obtain ⟨d,rfl⟩:∃ d,j=i+d+1:=⟨j - i - 1,by omega⟩
  have:=key d i hj
  rw [heq] at this;exact mL _ this
theorem j7 {p:Pd} (h:ah p=0):mK p.cs:=by
 intro c hc;obtain ⟨k,hk,rfl⟩:=Sv.sY hc;unfold ah at h
 split at h
 ·cases h
 ·split at h
  ·cases h
  ·split at h
   ·cases h
   ·have:=cO h k hk
    unfold bV at this
    repeat' (split at this;· cases this)
    exact ES this
structure St where
 m:Mc
 ds:List Dv
 hs:List Hd
structure Inv (t:St):Prop where
 devs:Dvs.fault t.ds=0
 held:az t.hs=0
 left:∃ s,left t.m t.ds t.hs=some s
open Classical in
noncomputable def aJ (t:St) (p:Pd):Nat × List Hd:=
 if ah p≠0 then (ah p,t.hs) else
 if ∃ h∈t.hs,h.pod.nm=p.nm then (5,t.hs) else
 if 12<=t.hs.length then (2,t.hs) else
 if room t.m (t.hs.map Hd.pod++[p])=false then (7,t.hs) else
 if (give t.m ((left t.m t.ds t.hs).getD ⟨0,[],λ_=>false⟩) p).1≠0 then ((give t.m ((left t.m t.ds t.hs).getD ⟨0,[],λ_=>false⟩) p).1,t.hs) else
 if 6000<(aF (bB t.hs ⟨p,(give t.m ((left t.m t.ds t.hs).getD ⟨0,[],λ_=>false⟩) p).2⟩)).length then (2,t.hs) else
 (0,bB t.hs ⟨p,(give t.m ((left t.m t.ds t.hs).getD ⟨0,[],λ_=>false⟩) p).2⟩)
theorem ET {t:St} (h:Inv t) (p:Pd):Inv { t with hs:=(aJ t p).2 }:=by
 unfold aJ;obtain ⟨s,hs⟩:=h.left;rw [hs,Option.getD_some]
 split
 ·exact h
 rename_i h1
 split
 ·exact h
 rename_i h2
 split
 ·exact h
 rename_i h3
 split
 ·exact h
 split
 ·exact h
 rename_i h5
 split
 ·exact h
 have hp:ah p=0:=by omega
 have hg:(give t.m s p).1=0:=by omega
 have hds:s.ds.length<=16:=by rw [fI hs];exact (Dvs.gH h.devs).1
 obtain ⟨a1,a2,a3⟩:=bW.1 h.held;have hlen:(give t.m s p).2.length=p.cs.length:=lh t.m s p.cs p.cs.length hg;have hperm:=insert_perm t.hs ⟨p,(give t.m s p).2⟩;refine ⟨h.devs,bW.2 ⟨?_,λx hx=>?_,uj a3 λy hy e=>h2 ⟨y,hy,e⟩⟩,⟨_,uh hs hds (j7 hp) hg hperm⟩⟩
 ·show (bB t.hs ⟨p,(give t.m s p).2⟩).length<=12
  rw [<- hperm.length_eq,Q2,List.length_singleton];omega
 ·rcases Qi.1 (hperm.mem_iff.2 hx) with hx|hx
  ·exact a2 x hx
  ·rw [Qm.1 hx];exact ⟨hp,hlen,py (px p.cs.length)⟩
end Ol
end
section
namespace Ol
open Dvs (Dv dv)
open Qos (Nd Ct Pd ct ah aH)
open Sv (Gv Hd gv hd az aF body OkL OkH)
theorem EU {h:Hd} (hf:az [h]=0) (hc:∀ g∈h.gs,g.cp<18446744073709551616) (h1:h.pod.cs.length=1):(aF [h]).length<=6000:=by
 have ok:OkL [h]:=Sv.oR hf (λx hx g hg=>by rw [Qm.1 hx] at hg;exact hc g hg);have oh:OkH h:=ok.2 h (Qm.2 rfl);have a:=Sv.oU oh.1;have b:=Sv.oV oh 1 (by omega);have c:=Sv.kS (body [h]);have e:body [h]=[]++(Sv.fG h.pod++Sv.dL h h.pod.cs.length):=rfl;have e2:(body [h]).length=(Sv.fG h.pod).length+(Sv.dL h 1).length:=by rw [e,h1];simp
 have d:aF [h]=body [h]++Sv.cQ (body [h]):=rfl;rw [d,Q2];omega
theorem uk {a b:Nat} (h:a &&& b=a) (hb:b<18446744073709551616):a<18446744073709551616:=by
 rw [<- h];exact Nat.lt_of_le_of_lt Nat.and_le_right hb
end Ol
end
section
namespace Ol
open Ost (Cpu af cnt dif aN aI)
open Dvs (Dv dv)
open Qos (Nd Ct Pd ct ah aH aU sumTo dT)
open Sv (Gv Hd gv hd az)
def owns (l:List Cl):Int:=(l.map Cl.own).sum
theorem ul:∀ {l:List Cl} {s s':Sk},bI s l=some s'->(cnt s'.cp:Int)+owns l=cnt s.cp/\(s'.cp &&& s.cp=s'.cp):=by
 intro l
 induction l with
 | nil=>intro s s' h;injection h with h;subst h;exact ⟨by simp [owns],Nat.and_self _⟩
 | cons x r ih=>
  intro s s' h;rw [bI] at h;obtain ⟨s1,e1,e2⟩:=Option.bind_eq_some_iff.1 h;obtain ⟨a1,a2⟩:=ih e2;obtain ⟨b1,b2,rfl⟩:=gw.1 e1;have hd:=Ost.oB b2.1;have hx:=b1.1;have e3:(ey s x).cp=dif s.cp x.g.cp:=rfl;rw [e3] at a1 a2;refine ⟨?_,?_⟩
  ·unfold owns at a1 ⊢;rw [Qq,List.sum_cons];omega
  ·apply Nat.eq_of_testBit_eq;intro i;have e:=congrArg (λn=>Nat.testBit n i) a2;simp only [Nat.testBit_and,Ost.eQ] at e ⊢;cases h1:s'.cp.testBit i <;> cases h2:s.cp.testBit i <;> simp_all
theorem um (a b:List Cl):owns (a++b)=owns a+owns b:=by unfold owns;rw [Qj,List.sum_append]
theorem pz {cs:List Ct} {am:Int} (h:0<=am):0<=aH cs am/\1000*aH cs am<=am:=by
 unfold aH
 split <;> omega
def fJ (cs:List Ct):Nat->Int
 | 0=>0
 | k+1=>fJ cs k+aH cs (ct cs k).am
theorem uo {cs:List Ct} (h:∀ c∈cs,0<=c.am):∀ k,k<=cs.length->0<=fJ cs k/\1000*fJ cs k<=aU cs k:=by
 intro k
 induction k with
 | zero=>intro _;exact ⟨Int.le_refl _,Int.le_refl _⟩
 | succ k ih=>
  intro hk;have h1:=ih (by omega);have h2:=pz (cs:=cs) (h _ (Sv.iU (show k<cs.length by omega)));have e:aU cs (k+1)=aU cs k+(ct cs k).am:=rfl;rw [fJ,e];omega
theorem EV {cs:List Ct} (h:∀ c∈cs,0<=c.am) {k n:Nat} (hk:k<=n) (hn:n<=cs.length):fJ cs k<=fJ cs n:=by
 induction n with
 | zero=>
  obtain rfl:k=0:=by omega
  exact Int.le_refl _
 | succ n ih=>
  by_cases e:k=n+1
  ·rw [e];exact Int.le_refl _
  ·have h1:=ih (by omega) (by omega);have h2:=pz (cs:=cs) (h _ (Sv.iU (show n<cs.length by omega)));rw [fJ];omega
theorem uq (cs:List Ct) (gs:List Gv):∀ k,owns ((List.range k).map (gz cs gs))=fJ cs k:=by
 intro k
 induction k with
 | zero=>rfl
 | succ k ih=>
  rw [List.range_succ,Qj,um,ih,fJ]
  simp [owns,gz]
theorem EW {h:Hd} (hl:h.gs.length=h.pod.cs.length):owns (gP h)=fJ h.pod.cs h.pod.cs.length:=by
 unfold gP;rw [hl];exact uq h.pod.cs h.gs h.pod.cs.length
theorem mM {p:Pd} (h:ah p=0):∀ c∈p.cs,0<=c.am:=λc hc=>(((Sv.fm h).2.2.2) c hc).2.1.1
theorem EX {hs:List Hd} (h:∀ x∈hs,ah x.pod=0/\x.gs.length=x.pod.cs.length):0<=owns (fH hs)/\1000*owns (fH hs)<=bN (hs.map Hd.pod):=by
 induction hs with
 | nil=>exact ⟨Int.le_refl _,Int.le_refl _⟩
 | cons x r ih=>
  have h1:=ih λy hy=>h y (Qv _ hy)
  have h2:=h x (List.mem_cons_self ..);have h3:=uo (mM h2.1) x.pod.cs.length (lR);have e1:fH (x :: r)=gP x++fH r:=rfl;rw [e1,um,EW h2.2];have e2:bN ((x :: r).map Hd.pod)=aU x.pod.cs x.pod.cs.length+bN (r.map Hd.pod):=by unfold bN;simp
  rw [e2];omega
theorem EY (a b:List Pd):bN (a++b)=bN a+bN b:=by unfold bN;rw [Qj,List.sum_append]
theorem EZ {m:Mc} {ds:List Dv} {hs:List Hd} {s:Sk} (h:left m ds hs=some s):(cnt s.cp:Int)+owns (fH hs)=cnt m.op/\s.cp &&& m.op=s.cp:=by
 unfold left at h
 split at h
 ·rw [iV _ _ _ (lR),Qh] at h;exact ul h
 ·cases h
theorem E4 {l:List Cpu} {F:Nat} {L:Int} {on:Nat} (h0:0<=L) (h64:cnt F<=64) (hc:L<=cnt F) (hin:F &&& af (λ_=>true) l=F):(aN l F L on).2=0:=by
 rw [Ost.sA on h0 (by omega) hin hc]
theorem E5 {m:Mc} {ds:List Dv} {hs:List Hd} {s:Sk} {p:Pd} (hpol:m.pol=0) (hop:m.op &&& af (λ_=>true) m.l=m.op) (h64:∀ A:Nat,cnt A<=64) (hl:left m ds hs=some s) (hdl:ds.length<=16) (hh:∀ x∈hs,ah x.pod=0/\x.gs.length=x.pod.cs.length) (hp:ah p=0)
  (hno:∀ c∈p.cs,c.ds=[]) (hr:room m (hs.map Hd.pod++[p])=true):(give m s p).1=0:=by
 obtain ⟨c1,c2⟩:=EZ hl;obtain ⟨o1,o2⟩:=EX hh;have hsum:bN (hs.map Hd.pod++[p])<=1000*(cnt m.op:Int):=by
  unfold room at hr;rw [Bool.and_eq_true,Qp] at hr;exact hr.1
 rw [EY] at hsum;have e1:bN [p]=aU p.cs p.cs.length:=by unfold bN;simp
 rw [e1] at hsum;have hpo:=uo (mM hp) p.cs.length (lR);have hfit:fJ p.cs p.cs.length<=cnt s.cp:=by omega
 have hsds:s.ds.length<=16:=by rw [fI hl];exact hdl
 have hsub:s.cp &&& af (λ_=>true) m.l=s.cp:=by
  rw [<- c2,Nat.and_assoc,hop]
 have key:∀ k,k<=p.cs.length->(a6 m s p.cs k).1=0:=by
  intro k
  induction k with
  | zero=>intro _;rfl
  | succ k ih=>
   intro hk;have h0:=ih (by omega);obtain ⟨g1,g2⟩:=pq (m:=m) hsds (j7 hp) k (by omega) h0;obtain ⟨d1,d2⟩:=ul g1;rw [uq] at d1;rw [a6,if_pos h0];generalize (a6 m s p.cs k).2.1=gs at *;generalize (a6 m s p.cs k).2.2=s' at *;have hm:ct p.cs k∈p.cs:=Sv.iU (by omega);have hds:=hno _ hm;have hmono:=EV (mM hp) (k:=k+1) (n:=p.cs.length) hk (lR);have hown:=pz (cs:=p.cs) (mM hp _ hm);rw [fJ] at hmono;have hsub':s'.cp &&& af (λ_=>true) m.l=s'.cp:=by rw [<- d2,Nat.and_assoc,hsub]
   have hgo:(aY m s' (aH p.cs (ct p.cs k).am) (ct p.cs k).ds).1=0:=by
    rw [hds,EN List.Pairwise.nil];refine ⟨?_,E4 hown.1 (h64 _) (by omega) hsub',rfl⟩;unfold place;rw [if_pos hpol]
   unfold iq;rw [if_pos hgo]
 exact key p.cs.length (lR)
end Ol
end
section
namespace Ol
open Qos (Pd ah)
open Sv (Gv Hd az)
def eU (hs:List Hd) (nm:ByteArray):List Hd:=hs.filter λh=>decide (h.pod.nm≠nm)
theorem E6 {hs:List Hd} {x:Hd} (hn:∀ y∈hs,y.pod.nm≠x.pod.nm):eU (bB hs x) x.pod.nm=hs:=by
 unfold eU bB;rw [List.filter_append,List.filter_cons_of_neg (by simp)];have h1:(hs.take (bZ hs x.pod.nm)).filter (λh=>decide (h.pod.nm≠x.pod.nm))=hs.take (bZ hs x.pod.nm):=List.filter_eq_self.2 λy hy=>by simpa using hn y (List.mem_of_mem_take hy)
 have h2:(hs.drop (bZ hs x.pod.nm)).filter (λh=>decide (h.pod.nm≠x.pod.nm))=hs.drop (bZ hs x.pod.nm):=List.filter_eq_self.2 λy hy=>by simpa using hn y (List.mem_of_mem_drop hy)
 rw [h1,h2,List.take_append_drop]
theorem pA (hs:List Hd) (nm:ByteArray):(eU hs nm).Sublist hs:=List.filter_sublist
theorem pB {hs hs':List Hd} (h:az hs=0) (hs2:hs'.Sublist hs):az hs'=0:=by
 obtain ⟨a,b,c⟩:=bW.1 h;exact bW.2 ⟨Q5 hs2.length_le a,λx hx=>b x (hs2.subset hx),List.Pairwise.sublist hs2 c⟩
theorem ur {t:St} {p:Pd} (h:(aJ t p).1=0):eU (aJ t p).2 p.nm=t.hs:=by
 unfold aJ at h ⊢
 split
 ·rename_i h1;rw [if_pos h1] at h;exact absurd h h1
 ·rename_i h1
  rw [if_neg h1] at h
  split
  ·rename_i h2;rw [if_pos h2] at h;cases h
  ·rename_i h2
   rw [if_neg h2] at h
   split
   ·rename_i h3;rw [if_pos h3] at h;cases h
   ·rename_i h3
    rw [if_neg h3] at h
    split
    ·rename_i h4;rw [if_pos h4] at h;cases h
    ·rename_i h4
     rw [if_neg h4] at h
     split
     ·rename_i h5;rw [if_pos h5] at h;exact absurd h h5
     ·rename_i h5
      rw [if_neg h5] at h
      split
      ·rename_i h6;rw [if_pos h6] at h;cases h
      ·exact E6 (x:=⟨p,_⟩) λy hy e=>h2 ⟨y,hy,e⟩
end Ol
end
section
open RowKit Shelf
open Qos (Nd Ct Pd nd ct pd aU aV bT)
open Sv (Gv Hd gv hd)
attribute [local go_sem] Oper.semAt_some
theorem aq {W:World} {B:Nat} {cs:Array Value} {t:TypeId} (h:W.heap[B]?=some (.cells cs t (0,0))) (j:Nat):W.frozen? ⟨B,j,none⟩=false:=by simp [World.frozen?,h]
theorem aG (W:World) (o:Obj) {n:Nat} (hn:n=W.heap.size):(W.alloc o).heap[n]?=some o:=by subst hn;exact heap_alloc_new W o
theorem bx {W:World} {n:Nat} {x:Obj} (h:W.heap[n]?=some x) (o:Obj):(W.alloc o).heap[n]?=some x:=(Below.heap_alloc _ _ _ (gS h).1).trans h
theorem ut {ps:List Pd} {k:Nat} (h:k<ps.length):Ol.bN (ps.take (k+1))=Ol.bN (ps.take k)+aU (pd ps k).cs (pd ps k).cs.length:=by
 unfold Ol.bN;rw [Qa h,Qj,List.sum_append];simp [pd,h]
theorem uu {ps:List Pd} {k:Nat} (h:k<ps.length):Ol.cT (ps.take (k+1))=Ol.cT (ps.take k)+aV (pd ps k).cs (pd ps k).cs.length:=by
 unfold Ol.cT;rw [Qa h,Qj,List.sum_append];simp [pd,h]
theorem pC (tp:Value) (op nd:Nat) (nb pol:Int) (v:Value) (ps:List Pd) (w:World) (h:eu w v ps) (hl:ps.length<=100) (hmi:∀ p∈ps,bT p.cs) (hop:op<18446744073709551616)
  (hb:∀ k,k<=ps.length->(0<=Ol.bN (ps.take k)/\Ol.bN (ps.take k)<=1000000000000000000)/\0<=Ol.cT (ps.take k)/\Ol.cT (ps.take k)<=1000000000000000000) :
  Calls Tryz.prog 50 #[.agg #[tp,.int .u64 op,.int .u8 nd,.int .i64 nb,.int .i64 pol],v] w λe w'=>e=.returned (.bool (decide (Ol.bN ps<=1000*(Ost.cnt op:Int)) && decide (Ol.cT ps<=nb)))/\Below w.heap.size w w':=by
 have HMI:=qI hmi;have HBD:=qI hb;obtain ⟨ao,c,rfl,hm,hr⟩:=h;unfold maxLen at hm;have HR:=qI hr;have sz:((w.alloc (.cells #[tp,.int .u64 op,.int .u8 nd,.int .i64 nb,.int .i64 pol] 95)).alloc (.cells #[.int .i64 0,.int .i64 0] 60)).heap.size=w.heap.size+2:=by simp
 have HU1:=qI (aG (w.alloc (.cells #[tp,.int .u64 op,.int .u8 nd,.int .i64 nb,.int .i64 pol] 95)) (.cells #[.int .i64 0,.int .i64 0] 60) (n:=w.heap.size+1) (by simp));have HU0:=qI (bx (aG w (.cells #[tp,.int .u64 op,.int .u8 nd,.int .i64 nb,.int .i64 pol] 95) rfl) (.cells #[.int .i64 0,.int .i64 0] 60));have HBU:=qI (((Q0 w.heap.size w).alloc (lR) (.cells #[tp,.int .u64 op,.int .u8 nd,.int .i64 nb,.int .i64 pol] 95)).alloc (by simp) (.cells #[.int .i64 0,.int .i64 0] 60));clear hmi hb hr
 go_enter Tryz.func50,Tryz.ntmps50
 go_wp2_with fail
 generalize ((w.alloc (.cells #[tp,.int .u64 op,.int .u8 nd,.int .i64 nb,.int .i64 pol] 95)).alloc (.cells #[.int .i64 0,.int .i64 0] 60))=U at *;generalize HB:w.heap.size=B at *
 go_loopw [11] (λi wr=>∃ k:Nat,k<=ps.length/\i=.int .i64 k/\wr.heap[B+1]?=some (.cells #[.int .i64 (Ol.bN (ps.take k)),.int .i64 (Ol.cT (ps.take k))] 60 (0,0))/\Apart (λj=>j=B+1) U wr) (λi _=>ps.length - (intOf i).toNat)
 case atStart=>exact ⟨0,by omega,rfl,HU1.out,Apart.refl _ _⟩
 case round=>
  obtain ⟨k,hk,rfl,hs1,hab⟩:=hrel;have hsz:=hab.size;have HAB:=qI hab;have hbk:=HBD.out k hk;have hbel:=hab.below HBU.out (Nat.le_of_eq HB.symm) (λj hj=>by omega);have HBEL:=qI hbel
  by_cases hlt:k<ps.length
  ·obtain ⟨bb,o,cv,rfl,hin⟩:=HR.out (by omega);have hbel':Below w.heap.size w wr:=by rw [HB];exact hbel
   obtain ⟨x0,x1,x2⟩:=((hin.below hbel').2 k hlt).1;have hcon:=((hin.below hbel').2 k hlt).2;have hmk:=HMI.out (pd ps k) (by simp [pd,hlt]);have HSM:=qI (ut hlt);have HSB:=qI (uu hlt);have hb2:=HBD.out (k+1) hlt;rw [HSM.out,HSB.out] at hb2;obtain ⟨ca,cc,hcv,_,_⟩:=id hcon;rw [hcv] at x2 hcon;have HPA:=qI ((Q0 wr.heap.size wr).alloc (lR) (.cells #[.string (pd ps k).nm,.int .i64 (pd ps k).pr,.slice ca (pd ps k).cs.length cc] 47));have HSU:=qI (CH (pd ps k) (.slice ca (pd ps k).cs.length cc) (wr.alloc (.cells #[.string (pd ps k).nm,.int .i64 (pd ps k).pr,.slice ca (pd ps k).cs.length cc] 47)) (hcon.below HPA.out) hmk);unfold bQ at HSU;have HS1:=qI hs1;clear hin hcon hmk hbel hbel' hs1 hab hcv;generalize aU (pd ps k).cs (pd ps k).cs.length=xm at *;generalize aV (pd ps k).cs (pd ps k).cs.length=xb at *;generalize Ol.bN (ps.take k)=sm at *;generalize Ol.cT (ps.take k)=sb at *;generalize pd ps k=p at *;obtain ⟨pn,pp,pc⟩:=p;dsimp only at x0 x1 x2 HSU HPA
   go_wp2_with fail
   refine HSU.out.mono ?_;rintro e W1 ⟨rfl,hb1⟩;have hW1:=HPA.out.trans (hb1.mono HPA.out.size);have hA2:=(Q0 W1.heap.size W1).alloc (lR) (.cells #[.int .i64 xm,.int .i64 xb] 60);have hs2:=bx ((hW1.block (B+1) (by omega)).trans HS1.out) (.cells #[.int .i64 xm,.int .i64 xb] 60);have y0:(W1.alloc (.cells #[.int .i64 xm,.int .i64 xb] 60)).cell? ⟨B+1,0,none⟩=some (.int .i64 sm):=ad hs2 0;have y1:(W1.alloc (.cells #[.int .i64 xm,.int .i64 xb] 60)).cell? ⟨B+1,1,none⟩=some (.int .i64 sb):=ad hs2 1;have f0:=aq hs2 0;have f1:=aq hs2 1;have z0:(W1.alloc (.cells #[.int .i64 xm,.int .i64 xb] 60)).cell? ⟨W1.heap.size,0,none⟩=some (.int .i64 xm):=by simp
   have z1:(W1.alloc (.cells #[.int .i64 xm,.int .i64 xb] 60)).cell? ⟨W1.heap.size,1,none⟩=some (.int .i64 xb):=by simp
   have hne:W1.heap.size≠B+1:=by have:=hW1.size;omega
   have HAX:=qI (HAB.out.trans (Apart.of_below (hW1.trans (hA2.mono hW1.size))));have HS2:=qI hs2;clear hs2 hb1 hA2 hW1
   go_wp2
   go_roundw
   case rel=>exact ⟨k+1,by omega,by go_num,by rw [HSM.out,HSB.out];exact aj (aj HS2.out 0 _) 1 _,(HAX.out.trans (Apart.setCell (K:=λj=>j=B+1) rfl _ _ _)).trans (Apart.setCell (K:=λj=>j=B+1) rfl _ _ _)⟩
   case measure=>simp [intOf];omega
  ·have hke:k=ps.length:=by omega
   subst hke;rw [Qh] at hs1 hbk;have hs0:=(HAB.out.block B (by omega) (by omega)).trans HU0.out;have q0:wr.cell? ⟨B+1,0,none⟩=some (.int .i64 (Ol.bN ps)):=ad hs1 0;have q1:wr.cell? ⟨B+1,1,none⟩=some (.int .i64 (Ol.cT ps)):=ad hs1 1;have q2:wr.cell? ⟨B,1,none⟩=some (.int .u64 op):=ad hs0 1;have q3:wr.cell? ⟨B,3,none⟩=some (.int .i64 nb):=ad hs0 3;have h64:Ost.cnt op<=64:=S1.jJ op 64;clear hs1 hs0 hab;obtain ⟨sm,hsm⟩:∃ x,x=Ol.bN ps:=⟨_,rfl⟩;obtain ⟨sb,hsb⟩:∃ x,x=Ol.cT ps:=⟨_,rfl⟩;rw [<- hsm] at q0 hbk;rw [<- hsb] at q1 hbk;have HSM:=qI hsm;have HSB:=qI hsb;clear hsm hsb;have HCT:=qI (S1.jK op);have hcnt:(Ost.aI op 64).length=Ost.cnt op:=rfl;rw [hcnt] at HCT;clear hcnt;obtain ⟨ct0,hct0⟩:∃ x,x=Ost.cnt op:=⟨_,rfl⟩;rw [<- hct0] at HCT h64;have HC0:=qI hct0;clear hct0;have HBL:Hid (Below w.heap.size w wr):=by unfold Hid;rw [HB];exact HBEL.out
   by_cases h1:sm<=1000*(ct0:Int)
   ·have h1d:decide (sm<=1000*(ct0:Int))=true:=Qc h1
    go_wp2
    go_quiet (exact Calls.quiet_of_same (HCT.out _ hop))
    go_wp2
    go_ret;exact ⟨by rw [<- HSM.out,<- HSB.out,<- HC0.out,h1d];rfl,below_drewN HBL.out nq⟩
   ·have h1d:decide (sm<=1000*(ct0:Int))=false:=Q7 h1
    go_wp2
    go_quiet (exact Calls.quiet_of_same (HCT.out _ hop))
    go_wp2
    go_ret;exact ⟨by rw [<- HSM.out,<- HSB.out,<- HC0.out,h1d];rfl,below_drewN HBL.out nq⟩
end
section
namespace Ol
open Qos (Nd Ct Pd ct ah bV gh)
open Sv (Gv Hd gv hd az)
section
variable {α β:Type} (nm:α->β)
theorem uw {l:List α} (h:(l.map nm).Nodup) {a b:α} (ha:a∈l) (hb:b∈l) (e:nm a=nm b):a=b:=by
 obtain ⟨i,hi,rfl⟩:=List.getElem_of_mem ha;obtain ⟨j,hj,rfl⟩:=List.getElem_of_mem hb;have h2:=h;unfold List.Nodup at h2;rw [List.pairwise_map,List.pairwise_iff_getElem] at h2
 have:i=j:=by
  rcases Nat.lt_trichotomy i j with k|k|k
  ·exact absurd e (h2 i j hi hj k)
  ·exact k
  ·exact absurd e.symm (h2 j i hj hi k)
 subst this;rfl
theorem ux {l:List α} (h:(l.map nm).Nodup):l.Nodup:=by
 unfold List.Nodup at *;rw [List.pairwise_map] at h;exact h.imp λhab e=>hab (by rw [e])
theorem E7 {runs wanted:List α} {k:Nat} (hk:k<runs.length) (hd:(runs.map nm).Nodup) (hw:runs[k] ∉ wanted) (a:α):(a∈runs/\(a∈wanted\/a∈runs.drop (k+1)))↔(a∈runs/\(a∈wanted\/a∈runs.drop k))/\nm a≠nm runs[k]:=by
 have e:runs.drop k=runs[k] :: runs.drop (k+1):=List.drop_eq_getElem_cons hk;have hnd:runs.Nodup:=ux nm hd;constructor
 ·rintro ⟨h1,h2⟩;refine ⟨⟨h1,h2.imp id λh=>by rw [e];exact Qv _ h⟩,λen=>?_⟩;have ea:=uw nm hd h1 (List.getElem_mem hk) en;subst ea
  rcases h2 with h2|h2
  ·exact hw h2
  ·have:=(hnd.sublist (List.drop_sublist k runs))
   rw [e] at this;exact (List.nodup_cons.1 this).1 h2
 ·rintro ⟨⟨h1,h2⟩,h3⟩;refine ⟨h1,h2.imp id λh=>?_⟩;rw [e] at h
  rcases List.mem_cons.1 h with rfl|h
  ·exact absurd rfl h3
  ·exact h
theorem E8 {runs wanted:List α} {k:Nat} (hk:k<runs.length) (hw:runs[k]∈wanted) (a:α):(a∈runs/\(a∈wanted\/a∈runs.drop (k+1)))↔(a∈runs/\(a∈wanted\/a∈runs.drop k)):=by
 have e:runs.drop k=runs[k] :: runs.drop (k+1):=List.drop_eq_getElem_cons hk;rw [e];constructor
 ·rintro ⟨h1,h2⟩;exact ⟨h1,h2.imp id λh=>Qv _ h⟩
 ·rintro ⟨h1,h2⟩;refine ⟨h1,?_⟩
  rcases h2 with h2|h2
  ·exact .inl h2
  ·rcases List.mem_cons.1 h2 with rfl|h2
   ·exact .inl hw
   ·exact .inr h2
theorem E9 {runs wanted:List α} (a:α):(a∈runs/\(a∈wanted\/a∈runs.drop runs.length))↔(a∈wanted/\(a∈runs\/a∈wanted.take 0)):=by
 simp [and_comm]
theorem uy {runs wanted:List α} {k:Nat} (hk:k<wanted.length) (a:α):(a∈wanted/\(a∈runs\/a∈wanted.take (k+1)))↔(a∈wanted/\(a∈runs\/a∈wanted.take k))\/a=wanted[k]:=by
 rw [Qa hk,Qi,Qm];constructor
 ·rintro ⟨h1,h2|h2|h2⟩
  ·exact .inl ⟨h1,.inl h2⟩
  ·exact .inl ⟨h1,.inr h2⟩
  ·exact .inr h2
 ·rintro (⟨h1,h2⟩|rfl)
  ·exact ⟨h1,h2.imp id .inl⟩
  ·exact ⟨List.getElem_mem hk,.inr (.inr rfl)⟩
theorem Fa {runs wanted:List α} {k:Nat} (hk:k<wanted.length) (hw:wanted[k]∈runs) (a:α):(a∈wanted/\(a∈runs\/a∈wanted.take (k+1)))↔(a∈wanted/\(a∈runs\/a∈wanted.take k)):=by
 rw [uy hk];constructor
 ·rintro (h|rfl)
  ·exact h
  ·exact ⟨List.getElem_mem hk,.inl hw⟩
 ·exact .inl
theorem Fb {runs wanted:List α} {k:Nat} (hk:k<wanted.length) (hd:(wanted.map nm).Nodup) (hw:wanted[k] ∉ runs) (a:α) (h:a∈wanted/\(a∈runs\/a∈wanted.take k)):nm a≠nm wanted[k]:=by
 intro en;have ea:=uw nm hd h.1 (List.getElem_mem hk) en;subst ea
 rcases h.2 with h2|h2
 ·exact hw h2
 ·have hnd:wanted.Nodup:=ux nm hd
  have:=(hnd.sublist (List.take_sublist (k+1) wanted))
  rw [Qa hk,List.nodup_append] at this;exact this.2.2 _ h2 _ (Qm.2 rfl) rfl
theorem step_end {runs wanted:List α} (a:α):(a∈wanted/\(a∈runs\/a∈wanted.take wanted.length))↔a∈wanted:=by
 rw [Qh];exact ⟨λh=>h.1,λh=>⟨h,.inr h⟩⟩
end
theorem pD {xs:List Int} (h:Sv.cd xs=0):xs.length<=16:=by
 unfold Sv.cd at h
 split at h
 ·cases h
 ·omega
theorem Fc {p:Pd} (h:ah p=0) {i j:Nat} (hj:j<p.cs.length) (hij:i<j):(ct p.cs i).nm≠(ct p.cs j).nm:=by
 obtain ⟨_,_,_,h4⟩:=Qos.kK h
 have:=Dvs.cO h4 j hj
 unfold bV at this
 split at this
 ·cases this
 ·split at this
  ·cases this
  ·rename_i h2
   intro e;refine h2 ?_;unfold gh;rw [List.any_eq_true];refine ⟨ct p.cs i,?_,Qc e⟩;have hi:i<p.cs.length:=by omega
   rw [List.mem_take_iff_getElem];exact ⟨i,by omega,by simp [ct,hi]⟩
end Ol
end
section
namespace Ol
open Ost (Cpu af dif ae)
open Dvs (Dv dv)
def dz (l:List Cpu):Nat->Nat
 | 0=>0
 | k+1=>dz l k ||| 2 ^ (l.getD k ae).node.toNat
def dN (a:Nat) (ds:List Dv):Nat->Nat
 | 0=>a
 | k+1=>dN a ds k ||| 2 ^ (dv ds k).node.toNat
structure Cf where
 l:List Cpu
 keep:Nat
 nb:Int
 pol:Int
 ds:List Dv
def b6 (c:Cf):Int:=
 if Ost.fault c.l≠0 then Ost.fault c.l
 else if ¬ (c.keep &&& af (λ_=>true) c.l=c.keep)\/¬ (0<=c.nb/\c.nb<=1125899906842624)\/¬ (0<=c.pol/\c.pol<=3) then 1
 else (Dvs.fault c.ds:Nat)
def cM (c:Cf):Mc:=⟨c.l,dif (af (λ_=>true) c.l) c.keep,dN (dz c.l c.l.length) c.ds c.ds.length,c.nb,c.pol⟩
theorem uz {x:Int} (h0:0<=x) (h3:x<=3):2 ^ x.toNat<16/\1<=2 ^ x.toNat:=by
 have:x.toNat=0\/x.toNat=1\/x.toNat=2\/x.toNat=3:=by omega
 rcases this with h|h|h|h <;> rw [h] <;> decide
theorem uA {a b:Nat} (ha:a<16) (hb:b<16):a ||| b<16:=Nat.or_lt_two_pow (n:=4) ha hb
theorem uB {l:List Cpu} (h:∀ k,k<l.length->0<=(l.getD k ae).node/\(l.getD k ae).node<=3):∀ k,k<=l.length->dz l k<16/\(0<k->1<=dz l k):=by
 intro k
 induction k with
 | zero=>intro _;exact ⟨Nat.zero_lt_succ 15,λh=>by omega⟩
 | succ k ih=>
  intro hk;have h1:=ih (by omega);have h2:=uz (h k (by omega)).1 (h k (by omega)).2;rw [dz];exact ⟨uA h1.1 h2.1,λ_=>Q5 h2.2 Nat.right_le_or⟩
theorem Fd {a:Nat} {ds:List Dv} (ha:a<16) (h1:1<=a) (h:∀ k,k<ds.length->0<=(dv ds k).node/\(dv ds k).node<=3):∀ k,k<=ds.length->dN a ds k<16/\1<=dN a ds k:=by
 intro k
 induction k with
 | zero=>intro _;exact ⟨ha,h1⟩
 | succ k ih=>
  intro hk;have h1:=ih (by omega);have h2:=uz (h k (by omega)).1 (h k (by omega)).2;rw [dN];exact ⟨uA h1.1 h2.1,Q5 h1.2 Nat.left_le_or⟩
end Ol
end
section
namespace Ol
open Qos (Pd ah ct)
open Sv (Gv Hd hd az aF body ew eS fG gL dL cQ fl gv)
theorem Fe (hs:List Hd):∀ k,k<=hs.length->ew hs k=((hs.take k).map eS).flatten:=by
 intro k
 induction k with
 | zero=>intro _;simp [ew]
 | succ k ih=>
  intro hk;rw [ew,ih (by omega),Qa (by omega),Qj,List.flatten_append]
  simp [hd,show k<hs.length by omega]
theorem uC (hs:List Hd):body hs=(hs.map eS).flatten:=by
 unfold body;rw [Fe _ _ (lR),Qh]
theorem uD (c:UInt8) (x:List UInt8):∀ (xs:List (List UInt8)),x.length+xs.length<=(Lib.join (x :: xs) [c]).length:=by
 have key:∀ (r:List (List UInt8)),x.length+r.length<=(Lib.join (x :: r.reverse) [c]).length:=by
  intro r
  induction r with
  | nil=>have:=Ost.nB [] x [c];simp at this;simp [this]
  | cons y r ih=>
   rw [List.reverse_cons,<- List.cons_append,Ost.nB,if_neg (by simp)];simp only [Q2,Qg,List.length_nil];omega
 intro xs
 have:=key xs.reverse
 rw [List.reverse_reverse,List.length_reverse] at this;exact this
theorem Ff (c:Qos.Ct) (g:Gv):13<=(gL c g).length:=by
 unfold gL fl
 have:=uD 32 [99,111,110,116] ([c.nm.data.toList,Sv.dec c.am,Sv.dec c.ab,Sv.dec c.cm,Sv.dec c.cb,Sv.gk c.ds]++Sv.cY g)
 rw [<- List.cons_append] at this;simp only [Q2,Qg,List.length_nil,Sv.cY] at this ⊢;unfold Sv.dK;simp only [List.cons_append,List.nil_append] at this ⊢;omega
theorem Fg (p:Pd):6<=(fG p).length:=by
 unfold fG fl
 have:=uD 32 [112,111,100] [p.nm.data.toList,Sv.dec p.pr]
 simp only [Q2,Qg,List.length_nil] at this ⊢;unfold Sv.fk;omega
theorem Fh {h:Hd} (e:1<=h.pod.cs.length):19<=(eS h).length:=by
 have h1:=Fg h.pod;unfold eS;have h2:13<=(dL h h.pod.cs.length).length:=by
  have h3:∀ k,1<=k->13<=(dL h k).length:=by
   intro k hk
   match k,hk with
   | k+1,_=>
    rw [dL,Q2]
    have:=Ff (ct h.pod.cs k) (gv h.gs k)
    omega
  exact h3 _ e
 rw [Q2];omega
theorem Fi {hs hs':List Hd} (h:hs'.Sublist hs) (he:∀ x∈hs,1<=x.pod.cs.length):(body hs').length+19*(hs.length - hs'.length)<=(body hs).length:=by
 rw [uC,uC]
 induction h with
 | slnil=>simp
 | @cons l1 l2 a hsub ih=>
  have h1:=ih (λx hx=>he x (Qv _ hx));have h2:=Fh (he a List.mem_cons_self);have h3:=hsub.length_le;simp only [Qq,List.flatten_cons,Q2,Qg] at h1 ⊢;omega
 | @cons_cons l1 l2 a hsub ih=>
  have h1:=ih (λx hx=>he x (Qv _ hx));simp only [Qq,List.flatten_cons,Q2,Qg] at h1 ⊢;omega
theorem Fj (b:List UInt8):6<=(cQ b).length:=by
 have:1<=(Lib.decDigits (Sv.fnv b)).length:=by rw [Lib.decDigits_length];exact Lib.nDigits_pos _
 simp only [cQ,Q2,Qg,List.length_nil];omega
theorem Fk {hs hs':List Hd} (h:hs'.Sublist hs) (he:∀ x∈hs,1<=x.pod.cs.length) (hl:(aF hs).length<=6000):(aF hs').length<=6000:=by
 by_cases e:hs'.length=hs.length
 ·rw [h.eq_of_length e];exact hl
 ·have h1:=Fi h he;have h2:=h.length_le;have h3:=Fj (body hs);have h4:=Sv.kS (body hs');unfold aF at hl ⊢;rw [Q2] at hl ⊢;omega
theorem Fl {hs:List Hd} (h:az hs=0):∀ x∈hs,1<=x.pod.cs.length:=by
 obtain ⟨a,b,c⟩:=bW.1 h;intro x hx;exact (Qos.kK (b x hx).1).2.2.1.1
end Ol
end
section
open Go.ChangeShapes Go.WideShapes Go.ChangeAt Go.RowKit
open Ost (Cpu ae)
open Dvs (Dv dv)
open Qos (Pd)
def jw (c:Ol.Cf) (v1 v2:Value):Value:=.agg #[v1,.int .u64 (c.keep:Nat),.int .i64 c.nb,v2,.int .i64 c.pol]
theorem Fm:Tryz.prog.cellsOf 27=5:=by kernel_rfl
theorem Fo:Tryz.prog.cellsOf 22=1:=by kernel_rfl
theorem Fp:Tryz.prog.cellsOf 25=1:=by kernel_rfl
theorem Fq:Tryz.prog.cellsOf 24=1:=by kernel_rfl
theorem Fr:Tryz.prog.cellsOf 87=3:=by kernel_rfl
theorem Fs {H:Type} {enc:TypeId × Value->H} {W:World} {base:Nat} {v:Value} {d:DataW H} {p:List MemPlace}
  (hv:Value.okWide Tryz.prog W .any base 27 v) (h:DataW.Trod enc Tryz.prog W 0 (λ_=>true) true 27 v d p):∃ (c:Ol.Cf) (v1 v2:Value) (g o:Nat),v=jw c v1 v2/\eN W v1 c.l/\bS W v2 g o c.ds/\c.keep<18446744073709551616:=by
 obtain ⟨cs,rfl,hsz,_⟩:∃ cs,v=.agg cs/\cs.size=Tryz.prog.cellsOf 27/\Row.okWide Tryz.prog W .any base 27 cs:=by
  simpa [Value.okWide,Tryz.underlying27] using hv
 rw [Fm] at hsz;obtain ⟨l⟩:=cs;obtain ⟨fuel,hf⟩:=h;have hf:DataW.trod enc Tryz.prog W 0 (λ_=>true) true fuel 27 l=some (d,p):=hf;obtain ⟨n0,y0,h0⟩:=bM Tryz.underlying27 hf 0 22 0 _ Fo rfl;obtain ⟨n1,y1,h1⟩:=bM Tryz.underlying27 hf 1 24 1 _ Fq rfl;obtain ⟨n2,y2,h2⟩:=bM Tryz.underlying27 hf 2 3 2 _ fB rfl;obtain ⟨n3,y3,h3⟩:=bM Tryz.underlying27 hf 3 25 3 _ Fp rfl;obtain ⟨n4,y4,h4⟩:=bM Tryz.underlying27 hf 4 3 4 _ fB rfl;clear hf;have hl:l.length=5:=by simpa using hsz
 match l,hl with
 | [a,b,c,e,f],_=>
  obtain ⟨k,e1,_,hwf⟩:=DataW.trod_int Tryz.underlying24 h1;obtain ⟨x2,e2⟩:=fW h2;obtain ⟨x4,e4⟩:=fW h4;have r3:=jk Tryz.underlying25 Fr (by decide) h3 λ_ _ _ hl h=>AF hl h
  simp at e1 e2 e4
  obtain ⟨ds,g,o,hds,_⟩:=AG r3;have h0':DataW.trod enc Tryz.prog W 0 (λ_=>true) true n0 22 [a]=some y0:=h0;obtain ⟨ao,len,cap,ha⟩:∃ ao len cap,a=.slice ao len cap:=by
   rcases Deep.open_slice Tryz.underlying22 h0' with ⟨hcs,_⟩|⟨q,len',cap',m,n,D,Pl,hcs,_⟩
   ·simp at hcs;exact ⟨_,_,_,hcs⟩
   ·simp at hcs;exact ⟨_,_,_,hcs⟩
  subst ha;obtain ⟨cl,hcl,hcp⟩:=yE (d:=y0.1) (p:=y0.2) ⟨n0,h0'⟩;subst hcl;have hr:0<=k/\k<=18446744073709551615:=bounds_u64 hwf;refine ⟨⟨cl,k.toNat,x2,x4,ds⟩,_,_,g,o,?_,hcp,hds,by show k.toNat<_;omega⟩;have hkk:((k.toNat:Nat):Int)=k:=by omega
  unfold jw;rw [e1,e2,e4]
  show _=Value.agg #[_,.int .u64 ((k.toNat:Nat):Int),_,_,_]
  rw [hkk]
end
section
namespace Ol
open Ost (Cpu af dif ae)
open Dvs (Dv dv)
open Qos (Nd Ct Pd ct ah aH)
open Sv (Gv Hd gv hd az aF body OkL OkH)
theorem Ft {m:Mc} {ds:List Dv} {p:Pd} (hop:m.op<18446744073709551616) (hd:Dvs.fault ds=0) (h1:p.cs.length=1) (hp:ah p=0) (hro:room m [p]=true) (hg:(give m ⟨m.op,ds,λ_=>false⟩ p).1=0):(aJ ⟨m,ds,[]⟩ p).1=0:=by
 have hl:left m ds []=some ⟨m.op,ds,λ_=>false⟩:=j6 hd;unfold aJ;dsimp only;rw [hl,Option.getD_some];have hex:¬ ∃ x∈([]:List Hd),x.pod.nm=p.nm:=λ⟨x,hx,_⟩=>by cases hx
 have hro2:¬ room m (([]:List Hd).map Hd.pod++[p])=false:=λe=>by
  have e2:room m [p]=false:=e;rw [hro] at e2;cases e2
 rw [if_neg (by omega),if_neg hex,if_neg (by simp),if_neg hro2,if_neg (by omega)];have hn:mK p.cs:=j7 (by omega);have hds:(⟨m.op,ds,λ_=>false⟩:Sk).ds.length<=16:=(Dvs.gH hd).1;have hlen:(give m ⟨m.op,ds,λ_=>false⟩ p).2.length=p.cs.length:=lh _ _ p.cs p.cs.length hg;have hcl:=(pq (m:=m) hds hn p.cs.length (lR) hg).1;have hins:bB [] (⟨p,(give m ⟨m.op,ds,λ_=>false⟩ p).2⟩:Hd)=[⟨p,(give m ⟨m.op,ds,λ_=>false⟩ p).2⟩]:=rfl;have hhf:az [(⟨p,(give m ⟨m.op,ds,λ_=>false⟩ p).2⟩:Hd)]=0:=by
  refine bW.2 ⟨by simp,λx hx=>?_,List.pairwise_singleton _ _⟩;rw [Qm.1 hx];exact ⟨hp,hlen,py (px p.cs.length)⟩
 have hcp:∀ g∈(give m ⟨m.op,ds,λ_=>false⟩ p).2,g.cp<18446744073709551616:=by
  intro g hg2;rw [h1] at hcl;obtain ⟨k,hk,rfl⟩:=Sv.kQ hg2;have hk0:k=0:=by omega
  subst hk0;have e:(List.range 1).map (gz p.cs (a6 m ⟨m.op,ds,λ_=>false⟩ p.cs 1).2.1)=[gz p.cs (a6 m ⟨m.op,ds,λ_=>false⟩ p.cs 1).2.1 0]:=rfl;rw [e,bI] at hcl;obtain ⟨s1,e1,_⟩:=Option.bind_eq_some_iff.1 hcl
  have:=(gw.1 e1).2.1.1
  unfold give;rw [h1];exact uk this hop
 rw [hins,if_neg (by have:=EU hhf hcp h1;omega)]
theorem uE {t:St} {p:Pd} (h0:(aJ t p).1=0):(aJ t p).2.length=t.hs.length+1:=by
 unfold aJ at h0 ⊢
 split
 ·rename_i h1;rw [if_pos h1] at h0;exact absurd h0 h1
 ·rename_i h1
  rw [if_neg h1] at h0
  split
  ·rename_i h2;rw [if_pos h2] at h0;cases h0
  ·rename_i h2
   rw [if_neg h2] at h0
   split
   ·rename_i h3;rw [if_pos h3] at h0;cases h0
   ·rename_i h3
    rw [if_neg h3] at h0
    split
    ·rename_i h4;rw [if_pos h4] at h0;cases h0
    ·rename_i h4
     rw [if_neg h4] at h0
     split
     ·rename_i h5;rw [if_pos h5] at h0;exact absurd h0 h5
     ·rename_i h5
      rw [if_neg h5] at h0
      split
      ·rename_i h6;rw [if_pos h6] at h0;cases h0
      ·unfold bB;simp;omega
theorem Fu (A:Nat):Ost.cnt A<=64:=by
 unfold Ost.cnt Ost.aI;exact Q5 (List.length_filter_le _ _) (by simp)
def wC:Cf:=⟨[⟨0,0,0⟩],0,9,0,[]⟩
def wP:Pd:=⟨⟨#[97]⟩,0,[⟨⟨#[120]⟩,0,0,0,0,[]⟩]⟩
theorem Fv:b6 wC=0:=by decide
theorem uF:ah wP=0:=by decide
theorem uG:room (cM wC) [wP]=true:=by decide
theorem Fw:(aJ ⟨cM wC,[],[]⟩ wP).1=0:=by
 refine Ft (by decide) (by decide) rfl uF uG ?_;exact E5 (hs:=[]) rfl (by decide) Fu (j6 (by decide)) (by decide) (λx hx=>by cases hx) uF (λc hc=>by rw [Qm.1 hc]) uG
end Ol
end
section
namespace Ol
open Ost (Cpu Wi af cnt dif aN)
open Dvs (Dv dv)
open Qos (Nd Ct Pd ct ah aH aU aV)
open Sv (Gv Hd gv hd az gsF aF)
def zh (p:Pd):Hd:=⟨p,List.replicate p.cs.length ⟨0,[]⟩⟩
def Fx (m:Mc):Bool:=(place m [⟨true,[]⟩]).2
theorem Fy {a b:List Pd} (h:a.Sublist b) (hp:∀ p∈b,ah p=0):bN a<=bN b/\cT a<=cT b:=by
 induction h with
 | slnil=>exact ⟨Int.le_refl _,Int.le_refl _⟩
 | @cons l1 l2 x hs ih=>
  have h1:=ih λp hq=>hp p (Qv _ hq)
  have m:=Qos.kL (hp x List.mem_cons_self);have a1:=Qos.mw m (lR);have a2:=Qos.kM m (lR);unfold bN cT at *;rw [Qq,Qq,List.sum_cons,List.sum_cons];omega
 | @cons_cons l1 l2 x hs ih=>
  have h1:=ih λp hq=>hp p (Qv _ hq)
  unfold bN cT at *;rw [Qq,Qq,Qq,Qq,List.sum_cons,List.sum_cons,List.sum_cons,List.sum_cons];omega
theorem uH {a b:List Int} (h:a.Perm b):a.sum=b.sum:=by
 induction h with
 | nil=>rfl
 | cons x _ ih=>rw [List.sum_cons,List.sum_cons,ih]
 | swap x y l=>simp only [List.sum_cons];omega
 | trans _ _ i1 i2=>exact i1.trans i2
theorem Fz {m:Mc} {a b:List Pd} (h:a.Perm b):room m a=room m b:=by
 unfold room bN cT;rw [uH (h.map _),uH (h.map _)]
theorem FA {m:Mc} {a b:List Pd} (h:a.Sublist b) (hp:∀ p∈b,ah p=0) (hb:room m b=true):room m a=true:=by
 have:=Fy h hp
 unfold room at *;rw [Bool.and_eq_true,Qp,Qp] at *;omega
structure Came (t:St) (l:List Pd):Prop where
 perm:t.hs.Perm (l.map zh)
 good:l≠[]->room t.m l=true/\Fx t.m=true/\(aF t.hs).length<=6000
end Ol
end
section
namespace Ol
open Ost (Cpu N4 Wi Hi af cnt dif aN told eB ji okH cho com wi0 pop8 cX sumTo bJ cN ae bO)
open Dvs (Dv dv fits bA bP srt b8 sel l9 gG fV fi cA fU ord cn)
open Qos (Nd Ct Pd ct ah aH)
open Sv (Gv Hd gv hd)
end Ol
end
section
namespace Ol
open Dvs (Dv dv nth)
open Sv (Gv Hd gv hd)
theorem uI:∀ {l:List Cl} {s s':Sk},bI s l=some s'->∀ x∈l,j3 s.ds x:=by
 intro l
 induction l with
 | nil=>intro s s' _ x hx;cases hx
 | cons y r ih=>
  intro s s' h x hx;rw [bI] at h;obtain ⟨s1,e1,e2⟩:=Option.bind_eq_some_iff.1 h;obtain ⟨b1,b2,rfl⟩:=gw.1 e1
  rcases List.mem_cons.1 hx with rfl|hx
  ·exact b1
  ·exact ih e2 x hx
theorem FB {m:Mc} {ds:List Dv} {hs:List Hd} {s:Sk} (h:left m ds hs=some s):∀ x∈hs,∀ g∈x.gs,∀ k,k<g.dv.length->0<=nth g.dv k/\nth g.dv k<ds.length:=by
 intro x hx g hg k hk;unfold left at h
 split at h
 ·rw [iV _ _ _ (lR),Qh] at h;obtain ⟨j,hj,rfl⟩:=Sv.kQ hg;have hm:(⟨gv x.gs j,Qos.aH x.pod.cs (Qos.ct x.pod.cs j).am,(Qos.ct x.pod.cs j).ds⟩:Cl)∈fH hs:=List.mem_flatMap.2 ⟨x,hx,Qk.2 ⟨j,List.mem_range.2 hj,rfl⟩⟩
  have:=(uI h _ hm).2.2 k hk
  exact ⟨this.1,this.2.1⟩
 ·cases h
end Ol
end
section
namespace Ol
open Ost (Cpu af cnt dif aN)
open Dvs (Dv dv bP)
open Qos (Nd Ct Pd ct ah aH)
open Sv (Gv Hd gv hd aF)
end Ol
end
section
namespace Ol
open Ost (Cpu af cnt dif)
open Dvs (Dv dv)
open Qos (Nd Ct Pd ct ah aH aU aV)
open Sv (Gv Hd gv hd az gsF aF)
theorem mN {t:St} {p:Pd} (hr:room t.m (t.hs.map Hd.pod)=true):room t.m ((aJ t p).2.map Hd.pod)=true:=by
 unfold aJ
 split
 ·exact hr
 split
 ·exact hr
 split
 ·exact hr
 split
 ·exact hr
 rename_i h4
 split
 ·exact hr
 split
 ·exact hr
 have h4':room t.m (t.hs.map Hd.pod++[p])=true:=by simpa using h4
 have hp:=(insert_perm t.hs ⟨p,(give t.m ((left t.m t.ds t.hs).getD ⟨0,[],λ_=>false⟩) p).2⟩).map Hd.pod;rw [Qj] at hp;rw [<- Fz hp];exact h4'
theorem FC {t:St} {hs:List Hd} (h:Inv t) (hs':hs.Sublist t.hs) (hr:room t.m (t.hs.map Hd.pod)=true):room t.m (hs.map Hd.pod)=true:=by
 obtain ⟨_,a2,_⟩:=bW.1 h.held;refine FA (hs'.map Hd.pod) (λp hp=>?_) hr;obtain ⟨x,hx,rfl⟩:=Qk.1 hp;exact (a2 x hx).1
def Alike (ds ds':List Dv):Prop:=ds'.length=ds.length/\∀ j,(dv ds' j).kind=(dv ds j).kind/\(dv ds' j).node=(dv ds j).node
theorem alike_refl (ds:List Dv):Alike ds ds:=⟨rfl,λ_=>⟨rfl,rfl⟩⟩
theorem uJ {ds:List Dv} {n:Nat} (h:n<ds.length) (b:Bool):Alike ds (Dvs.sicken ds n b):=⟨Dvs.kE ds n b,λj=>by
 rw [Dvs.ou h]
 split
 ·rename_i e;rw [e];exact ⟨rfl,rfl⟩
 ·exact ⟨rfl,rfl⟩⟩
theorem uK {ds ds':List Dv} (h:Alike ds ds'):Dvs.fault ds'=Dvs.fault ds:=by
 unfold Dvs.fault;rw [h.1]
 split
 ·rfl
 ·refine Dvs.Ak λk _=>?_
  unfold Dvs.eG;rw [(h.2 k).1,(h.2 k).2]
theorem FD {ds ds':List Dv} (h:Alike ds ds'):cR ds'=cR ds:=by
 funext m j
 unfold cR;rw [(h.2 _).1]
def j8 (s:Sk) (ds':List Dv):Sk:=⟨s.cp,ds',s.us⟩
theorem FE {ds ds':List Dv} (h:Alike ds ds') {x:Cl} (hx:j3 ds x):j3 ds' x:=by
 obtain ⟨h1,h2,h3⟩:=hx;refine ⟨h1,?_,λk hk=>?_⟩
 ·unfold gr at *;rw [FD h];exact h2
 ·rw [h.1];exact h3 k hk
theorem FF {ds':List Dv}:∀ {l:List Cl} {s s':Sk},Alike s.ds ds'->bI s l=some s'->bI (j8 s ds') l=some (j8 s' ds'):=by
 intro l
 induction l with
 | nil=>intro s s' _ h;rw [bI] at h;injection h with h;rw [h];rfl
 | cons x r ih=>
  intro s s' ha h;rw [bI] at h ⊢;obtain ⟨s1,h1,h2⟩:=Option.bind_eq_some_iff.1 h;obtain ⟨a1,a2,a3⟩:=gw.1 h1;have e:cS (j8 s ds') x.g x.own x.ns=some (j8 s1 ds'):=gw.2 ⟨FE ha a1,a2,by rw [a3];rfl⟩;rw [e,Option.bind_some];exact ih (by rw [mI h1];exact ha) h2
theorem uL {m:Mc} {ds ds':List Dv} {hs:List Hd} {s:Sk} (ha:Alike ds ds') (h:left m ds hs=some s):left m ds' hs=some (j8 s ds'):=by
 unfold left at *;rw [uK ha]
 split at h
 ·rename_i hf
  rw [if_pos hf];rw [iV _ _ _ (lR),Qh] at *;exact FF (s:=⟨m.op,ds,λ_=>false⟩) ha h
 ·cases h
theorem FG {t:St} {ds':List Dv} (h:Inv t) (ha:Alike t.ds ds'):Inv { t with ds:=ds' }:=by
 obtain ⟨s,hs⟩:=h.left;exact ⟨(uK ha).trans h.devs,h.held,_,uL ha hs⟩
end Ol
end
section
namespace Ol
open Dvs (Dv dv bA srt bP b8 gG)
open Qos (Nd Ct Pd ct ah aH)
open Sv (Gv Hd gv hd az gsF aF)
def lj (b:Bool):Int:=if b then 1 else 0
theorem FH {k:ByteArray}:∀ {ns:List Nd},(∀ n∈ns,n.kind≠k)->(ns.map λn=>lj (decide (k=n.kind))).sum=0:=by
 intro ns
 induction ns with
 | nil=>intro _;rfl
 | cons n r ih=>
  intro h;have e:decide (k=n.kind)=false:=Q7 λe=>h n List.mem_cons_self e.symm
  rw [Qq,List.sum_cons,ih λx hx=>h x (Qv _ hx),e];rfl
theorem FI {k:ByteArray}:∀ {ns:List Nd},ns.Pairwise (λa b=>a.kind≠b.kind)->(∃ n∈ns,n.kind=k)->(ns.map λn=>lj (decide (k=n.kind))).sum=1:=by
 intro ns
 induction ns with
 | nil=>intro _ h;obtain ⟨n,hn,_⟩:=h;cases hn
 | cons n r ih=>
  intro hp h;obtain ⟨h1,h2⟩:=List.pairwise_cons.1 hp;rw [Qq,List.sum_cons]
  by_cases e:n.kind=k
  ·rw [FH λx hx e2=>h1 x hx (e.trans e2.symm),Qc e.symm];rfl
  ·have e':decide (k=n.kind)=false:=Q7 λx=>e x.symm
   rw [ih h2 (by
    obtain ⟨x,hx,hk⟩:=h
    rcases List.mem_cons.1 hx with rfl|hx
    ·exact absurd hk e
    ·exact ⟨x,hx,hk⟩),e']
   rfl
theorem FJ (ds:List Dv) (k:ByteArray) (j:Int) (r:List Int):(cr ds k (j :: r):Int)=(cr ds k r:Nat)+lj (decide ((dv ds j.toNat).kind=k)):=by
 unfold cr lj;rw [List.countP_cons]
 split <;> simp_all
theorem FK (ns:List Nd) (f g:Nd->Int):(ns.map λn=>f n+g n).sum=(ns.map f).sum+(ns.map g).sum:=by
 induction ns with
 | nil=>rfl
 | cons n r ih=>rw [Qq,Qq,Qq,List.sum_cons,List.sum_cons,List.sum_cons,ih];omega
theorem FL {ds:List Dv} {ns:List Nd} (hp:ns.Pairwise λa b=>a.kind≠b.kind):∀ {l:List Int},(∀ j∈l,∃ n∈ns,n.kind=(dv ds j.toNat).kind)->(ns.map λn=>(cr ds n.kind l:Int)).sum=l.length:=by
 intro l
 induction l with
 | nil=>
  intro _
  have:∀ ns:List Nd,(ns.map λn=>(cr ds n.kind []:Int)).sum=0:=λns=>by
   induction ns with
   | nil=>rfl
   | cons n r ih=>rw [Qq,List.sum_cons,ih];rfl
  rw [this];rfl
 | cons j r ih=>
  intro h;have e:(ns.map λn=>(cr ds n.kind (j :: r):Int))=ns.map λn=>(cr ds n.kind r:Int)+lj (decide ((dv ds j.toNat).kind=n.kind)):=List.map_congr_left λn _=>FJ ds n.kind j r
  rw [e,FK,ih λx hx=>h x (Qv _ hx),FI hp (h j List.mem_cons_self),Qg];omega
theorem FM {ds:List Dv} {l:List Int} {ns:List Nd} (hm:∀ n∈ns,n.many≠0) (hp:ns.Pairwise λa b=>a.kind≠b.kind) (h:gr ds l ns):(∀ n∈ns,(cr ds n.kind l:Int)=n.many)/\(ns.map Nd.many).sum=l.length:=by
 have hk:=(tV hm).1 h;have h1:∀ n∈ns,(cr ds n.kind l:Int)=n.many:=λn hn=>by
  have e:=hk n.kind;have e2:dx ns n.kind=some n.many:=tW ns _ n hn hp;rw [e2,Option.getD_some] at e;exact e.symm
 refine ⟨h1,?_⟩;rw [<- FL (ds:=ds) hp (l:=l) λj hj=>Qt λhc=>?_]
 ·exact congrArg List.sum (List.map_congr_left λn hn=>(h1 n hn).symm)
 ·have e:=hk (dv ds j.toNat).kind;have e2:dx ns (dv ds j.toNat).kind=none:=pk ns _ _ λn hn e=>hc ⟨n,hn,e⟩
  rw [e2] at e;have hpos:0<cr ds (dv ds j.toNat).kind l:=List.countP_pos_iff.2 ⟨j,hj,by simp⟩;have e':(0:Int)=(cr ds (dv ds j.toNat).kind l:Nat):=e;omega
def j9 (ds:List Dv) (ns:List Nd) (l:List Int):Prop:=(∀ n∈ns,(cr ds n.kind l:Int)=n.many)/\(ns.map Nd.many).sum=l.length
theorem FN {ds ds':List Dv} (h:Alike ds ds') (k:ByteArray) (l:List Int):cr ds' k l=cr ds k l:=by
 unfold cr
 congr 1
 funext j
 rw [(h.2 _).1]
theorem FO {t:St} {ds:List Dv} (h:Inv t) (ha:Alike ds t.ds):∀ x∈t.hs,∀ j,j<x.gs.length->j9 ds (ct x.pod.cs j).ds (gv x.gs j).dv:=by
 obtain ⟨s,hs⟩:=h.left;obtain ⟨_,a2,_⟩:=bW.1 h.held;unfold left at hs
 split at hs
 ·rw [iV _ _ _ (lR),Qh] at hs;intro x hx j hj;obtain ⟨b1,b2,_⟩:=a2 x hx;have hcl:(⟨gv x.gs j,aH x.pod.cs (ct x.pod.cs j).am,(ct x.pod.cs j).ds⟩:Cl)∈fH t.hs:=List.mem_flatMap.2 ⟨x,hx,Qk.2 ⟨j,List.mem_range.2 hj,rfl⟩⟩;obtain ⟨_,hju,_⟩:=uI hs _ hcl;have hn:=j7 b1 _ (Sv.iU (show j<x.pod.cs.length by omega))
  have:=FM hn.1 hn.2 hju
  refine ⟨λn hm=>?_,this.2⟩;rw [<- this.1 n hm];exact congrArg (λz:Nat=>(z:Int)) (FN ha n.kind _).symm
 ·cases hs
def fq (ds:List Dv) (j:Nat):Prop:=(dv ds j).sick=false
theorem FP {ds:List Dv} (on:Nat):∀ (ns:List Nd) (us:Nat->Bool) (out:List Nat),(∀ j∈out,fq ds j)->∀ j∈(bR ds on ns us out).2.2,fq ds j:=by
 intro ns
 induction ns with
 | nil=>intro us out h j hj;exact h j hj
 | cons n r ih=>
  intro us out h;rw [bR]
  split
  ·refine ih _ _ λj hj=>?_
   rcases Qi.1 hj with hj|hj
   ·exact h j hj
   ·have hj2:=(gG.1 hj).2
    have:=(Dvs.fV (of_decide_eq_true hj2)).2
    unfold Dvs.fits at this;unfold fq;cases e:(dv ds j).sick with
    | false=>rfl
    | true=>rw [e] at this;simp at this
  ·exact h
theorem FQ {m:Mc} {s:Sk} {own:Int} {ns:List Nd}:∀ j∈(aY m s own ns).2.1.dv,fq s.ds j.toNat:=by
 unfold aY;dsimp only
 split
 ·intro j hj;cases hj
 ·split
  ·intro j hj;cases hj
  ·split
   ·intro j hj;cases hj
   ·intro j hj;obtain ⟨k,hk,rfl⟩:=Qk.1 hj;have hk2:=of_decide_eq_true (gG.1 hk).2;exact FP _ _ _ _ (λ_ h=>by cases h) k hk2
theorem FR {m:Mc} {s:Sk} {cs:List Ct}:∀ k,(a6 m s cs k).2.2.ds=s.ds/\∀ g∈(a6 m s cs k).2.1,∀ j∈g.dv,fq s.ds j.toNat:=by
 intro k
 induction k with
 | zero=>exact ⟨rfl,λg hg=>by cases hg⟩
 | succ k ih=>
  rw [a6]
  split
  ·unfold iq
   split
   ·refine ⟨ih.1,λg hg=>?_⟩
    rcases Qi.1 hg with hg|hg
    ·exact ih.2 g hg
    ·rw [Qm.1 hg]
     have:=FQ (m:=m) (s:=(a6 m s cs k).2.2) (own:=aH cs (ct cs k).am) (ns:=(ct cs k).ds)
     rw [ih.1] at this;exact this
   ·exact ⟨ih.1,λg hg=>by cases hg⟩
  ·exact ih
theorem FS {t:St} {p:Pd} (h:Inv t) (h0:(aJ t p).1=0):∀ x∈(aJ t p).2,x.pod.nm=p.nm->∀ g∈x.gs,∀ j∈g.dv,fq t.ds j.toNat:=by
 obtain ⟨s,hs⟩:=h.left;unfold aJ at h0 ⊢;rw [hs,Option.getD_some] at h0;rw [hs,Option.getD_some]
 split at h0
 ·rename_i h1;exact absurd h0 h1
 split at h0
 ·cases h0
 rename_i h1 h2
 split at h0
 ·cases h0
 rename_i h3
 split at h0
 ·cases h0
 rename_i h4
 split at h0
 ·rename_i h5;exact absurd h0 h5
 rename_i h5
 split at h0
 ·cases h0
 rename_i h6
 rw [if_neg h1,if_neg h2,if_neg h3,if_neg h4,if_neg h5,if_neg h6];intro x hx hn g hg j hj
 rcases Qi.1 ((insert_perm t.hs ⟨p,(give t.m s p).2⟩).mem_iff.2 hx) with hx|hx
 ·exact absurd ⟨x,hx,hn⟩ h2
 ·rw [Qm.1 hx] at hg
  have:=(FR (m:=t.m) (s:=s) (cs:=p.cs) p.cs.length).2 g hg j hj
  rw [fI hs] at this;exact this
end Ol
end
