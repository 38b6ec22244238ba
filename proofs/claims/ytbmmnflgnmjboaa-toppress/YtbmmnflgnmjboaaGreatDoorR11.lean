import Derived.Test.YtbmmnflgnmjboaaGreatDoorR8
import Derived.Test.YtbmmnflgnmjboaaGreatDoorR6
import Derived.Test.YtbmmnflgnmjboaaGreatDoorR10
import Derived.Shelf.Spec.SlicesInsertGrow
import Derived.Sort.Walk0
set_option maxRecDepth 100000
set_option maxHeartbeats 16000000
open Go.Proofs.Tryz
namespace Go.Proofs.YtbmmnflgnmjboaaGreatDoor
section
namespace Ol
open Ost (Cpu N4 Wi Hi ae cnt dif aN told eG)
open Dvs (Dv dv fits bD cn bx bQ srt cd clF aL first)
open Qos (Nd Ct Pd ct aA aO aP af)
open Sv (Gv Hd gv hd)
structure Mc where
 l:List Cpu
 op:Nat
 nd:Nat
 nb:Int
 pol:Int
structure Sk where
 cp:Nat
 ds:List Dv
 us:Nat->Bool
def onNode (A:Nat) (l:List Cpu) (x:Nat):Nat:=((List.range l.length).filter λk=>A.testBit k && decide ((l.getD k Ost.ad).node=(x:Int))).length
def bu (A:Nat) (l:List Cpu):N4:=⟨onNode A l 0,onNode A l 1,onNode A l 2,onNode A l 3⟩
def iM (p:Nat->Bool) (ds:List Dv):N4:=⟨cn p ds 0 ds.length,cn p ds 1 ds.length,cn p ds 2 ds.length,cn p ds 3 ds.length⟩
def b7 (free all:N4) (nd:Nat) (many:Int):Wi:=if many<=0 then ⟨true,[]⟩ else ⟨false,eG free all nd many⟩
def cf (m:Mc) (s:Sk) (own:Int) (ns:List Nd):List Wi:=
 b7 (bu s.cp m.l) (bu m.op m.l) m.nd own :: ns.map λn=>b7 (iM (fits s.ds s.us n.kind) s.ds) (iM (bD s.ds n.kind) s.ds) m.nd n.many
def place (m:Mc) (ws:List Wi):Hi × Bool:=if m.pol=0 then ((m.nd,true),true) else (told m.pol m.nd ws,(told m.pol m.nd ws).2 || decide (m.pol=1))
def bY (ds:List Dv) (on:Nat):List Nd->(Nat->Bool)->List Nat->Nat × (Nat->Bool) × List Nat
 | [],us,out=>(0,us,out)
 | n :: r,us,out=>if bQ ds us n.kind n.many=0 then bY ds on r (cd us (bx ds us n.kind on n.many.toNat)) (out++srt (bx ds us n.kind on n.many.toNat)) else (bQ ds us n.kind n.many,us,out)
def bc (m:Mc) (s:Sk) (own:Int) (ns:List Nd):Nat × Gv × (Nat->Bool):=
 let p:=place m (cf m s own ns)
 if p.2=false then (10,⟨0,[]⟩,s.us) else
 let t:=aN m.l s.cp own (ae (λc=>p.1.1.testBit c.node.toNat) m.l)
 if t.2≠0 then (t.2.toNat,⟨0,[]⟩,s.us) else
 let d:=bY s.ds p.1.1 ns s.us []
 if d.1≠0 then (d.1,⟨0,[]⟩,d.2.1) else (0,⟨t.1,(srt d.2.2).map λ(k:Nat)=>(k:Int)⟩,d.2.1)
def jA (m:Mc) (cs:List Ct) (k:Nat) (gs:List Gv) (s:Sk):Nat × List Gv × Sk:=
 if (bc m s (aA cs (ct cs k).am) (ct cs k).ds).1=0 then (0,gs++[(bc m s (aA cs (ct cs k).am) (ct cs k).ds).2.1],⟨dif s.cp (bc m s (aA cs (ct cs k).am) (ct cs k).ds).2.1.cp,s.ds,(bc m s (aA cs (ct cs k).am) (ct cs k).ds).2.2⟩)
 else ((bc m s (aA cs (ct cs k).am) (ct cs k).ds).1,[],⟨s.cp,s.ds,(bc m s (aA cs (ct cs k).am) (ct cs k).ds).2.2⟩)
def bi (m:Mc) (s:Sk) (cs:List Ct):Nat->Nat × List Gv × Sk
 | 0=>(0,[],s)
 | k+1=>
  if (bi m s cs k).1=0 then jA m cs k (bi m s cs k).2.1 (bi m s cs k).2.2 else bi m s cs k
def give (m:Mc) (s:Sk) (p:Pd):Nat × List Gv:=((bi m s p.cs p.cs.length).1,(bi m s p.cs p.cs.length).2.1)
def cJ (m:ByteArray->Option Int) (k:ByteArray) (v:Option Int):ByteArray->Option Int:=λx=>if x=k then v else m x
def dF (ns:List Nd):ByteArray->Option Int:=ns.foldl (λm n=>cJ m n.kind (some n.many)) λ_=>none
def dG (ds:List Dv) (m:ByteArray->Option Int) (j:Int):ByteArray->Option Int:=
 let k:=(dv ds j.toNat).kind
 let v:=(m k).getD 0 - 1
 cJ m k (if v=0 then none else some v)
def ie (ds:List Dv) (l:List Int) (ns:List Nd):Prop:=∀ k,l.foldl (dG ds) (dF ns) k=none
open Classical in
noncomputable def dh (s:Sk) (g:Gv) (own:Int) (ns:List Nd):Option Sk:=
 if g.cp &&& s.cp=g.cp/\(cnt g.cp:Int)=own/\first (clF s.ds.length s.us g.dv) g.dv.length=0 then
  if ie s.ds g.dv ns then some ⟨dif s.cp g.cp,s.ds,aL s.us g.dv⟩ else none
 else none
noncomputable def dT (s:Sk) (h:Hd):Nat->Option Sk
 | 0=>some s
 | k+1=>(dT s h k).bind λs'=>dh s' (gv h.gs k) (aA h.pod.cs (ct h.pod.cs k).am) (ct h.pod.cs k).ds
noncomputable def bM (s:Sk) (hs:List Hd):Nat->Option Sk
 | 0=>some s
 | k+1=>(bM s hs k).bind λs'=>dT s' (hd hs k) (hd hs k).gs.length
noncomputable def left (m:Mc) (ds:List Dv) (hs:List Hd):Option Sk:=if Dvs.fault ds=0 then bM ⟨m.op,ds,λ_=>false⟩ hs hs.length else none
def aY (ps:List Pd):Int:=(ps.map λp=>aO p.cs p.cs.length).sum
def bA (ps:List Pd):Int:=(ps.map λp=>aP p.cs p.cs.length).sum
def room (m:Mc) (ps:List Pd):Bool:=decide (aY ps<=1000*(cnt m.op:Int)) && decide (bA ps<=m.nb)
end Ol
end
section
open RowKit
open Qos (Nd Ct Pd nd ct pd)
open Sv (Gv Hd gv hd)
structure aq (W W':World):Prop where
 size:W.heap.size<=W'.heap.size
 cell:∀ (b o:Nat) (v:Value),W.cell? ⟨b,o,none⟩=some v->W'.cell? ⟨b,o,none⟩=some v
theorem aq.refl (W:World):aq W W:=⟨lR,λ_ _ _ h=>h⟩
theorem aq.trans {A B C:World} (h:aq A B) (k:aq B C):aq A C:=⟨Q5 h.size k.size,λb o v e=>k.cell b o v (h.cell b o v e)⟩
theorem aq.of_below {W W':World} (h:Below W.heap.size W W'):aq W W':=
 ⟨h.size,λb o _ e=>(h.cell (p:=⟨b,o,none⟩) (Q3 W ⟨b,o,none⟩ e)).trans e⟩
theorem bt.le {W W':World} {v:Value} {xs:List Int} (h:bt W v xs) (l:aq W W'):bt W' v xs:=by
 obtain ⟨ao,c,hv,hc,hr⟩:=h;refine ⟨ao,c,hv,hc,λh0=>?_⟩;obtain ⟨b,o,ha,hlt,hcs⟩:=hr h0;exact ⟨b,o,ha,Q1 hlt l.size,λk hk=>l.cell _ _ _ (hcs k hk)⟩
theorem be.le {W W':World} {v:Value} {ds:List Nd} (h:be W v ds) (l:aq W W'):be W' v ds:=by
 obtain ⟨ao,c,hv,hc,hr⟩:=h;refine ⟨ao,c,hv,hc,λh0=>?_⟩;obtain ⟨b,o,ha,hlt,hcs⟩:=hr h0;exact ⟨b,o,ha,Q1 hlt l.size,λk hk=>⟨l.cell _ _ _ (hcs k hk).1,l.cell _ _ _ (hcs k hk).2⟩⟩
theorem aE.le {W W':World} {v:Value} {cs:List Ct} (h:aE W v cs) (l:aq W W'):aE W' v cs:=by
 obtain ⟨ao,c,hv,hc,hr⟩:=h;refine ⟨ao,c,hv,hc,λh0=>?_⟩;obtain ⟨b,o,dv,ha,Hb,Ha⟩:=hr h0;refine ⟨b,o,dv,ha,Q1 Hb l.size,λk hk=>⟨λj hj=>?_,(Ha k hk).2.le l⟩⟩;have h6:j<(cH (ct cs k) (dv k)).length:=hj;rw [Qf h6];exact l.cell _ _ _ (((Ha k hk).1 j hj).trans (Qf h6))
theorem bz.le {W W':World} {v:Value} {gs:List Gv} (h:bz W v gs) (l:aq W W'):bz W' v gs:=by
 obtain ⟨ao,c,hv,hc,hr⟩:=h;refine ⟨ao,c,hv,hc,λh0=>?_⟩;obtain ⟨b,o,dv,ha,Hb,Ha⟩:=hr h0;exact ⟨b,o,dv,ha,Q1 Hb l.size,λk hk=>⟨⟨l.cell _ _ _ (Ha k hk).1.1,l.cell _ _ _ (Ha k hk).1.2.1,(Ha k hk).1.2.2⟩,(Ha k hk).2.le l⟩⟩
theorem aJ.le {W W':World} {v:Value} {hs:List Hd} (h:aJ W v hs) (l:aq W W'):aJ W' v hs:=by
 obtain ⟨ao,c,hv,hc,hr⟩:=h;refine ⟨ao,c,hv,hc,λh0=>?_⟩;obtain ⟨b,o,cv,gvv,ha,Hb,Ha⟩:=hr h0;exact ⟨b,o,cv,gvv,ha,Q1 Hb l.size,λk hk=>⟨⟨l.cell _ _ _ (Ha k hk).1.1,l.cell _ _ _ (Ha k hk).1.2.1,l.cell _ _ _ (Ha k hk).1.2.2.1,l.cell _ _ _ (Ha k hk).1.2.2.2⟩,(Ha k hk).2.1.le l,(Ha k hk).2.2.le l⟩⟩
open Classical in
noncomputable def ag (M:Nat->Prop) (W:World):World:={ W with heap:=W.heap.mapIdx λj o=>if M j then .cells #[] 0 (0,0) else o }
theorem bH (M:Nat->Prop) (W:World):(ag M W).heap.size=W.heap.size:=by simp [ag]
theorem FI {M:Nat->Prop} {W:World} {j:Nat} (h:M j) (hl:j<W.heap.size):(ag M W).heap[j]?=some (.cells #[] 0 (0,0)):=by
 simp [ag,Array.getElem?_mapIdx,Array.getElem?_eq_getElem hl,h]
theorem bZ {M:Nat->Prop} {W:World} {j:Nat} (h:¬ M j):(ag M W).heap[j]?=W.heap[j]?:=by
 simp only [ag,Array.getElem?_mapIdx];cases W.heap[j]? with
 | none=>rfl
 | some o=>simp [h]
theorem eP {M:Nat->Prop} {W:World} {b o:Nat} {v:Value} (h:(ag M W).cell? ⟨b,o,none⟩=some v):¬ M b:=λhm=>by
 have hl:=Q3 _ ⟨b,o,none⟩ h;have hl2:b<W.heap.size:=by rw [bH] at hl;exact hl
 simp [World.cell?,FI hm hl2] at h
theorem k9 {M M':Nat->Prop} {W W':World} (h:Apart M W W') (hm:∀ j,j<W.heap.size->M' j->M j):aq (ag M W) (ag M' W'):=by
 refine ⟨by rw [bH,bH];exact h.size,λb o v e=>?_⟩;have hb:=eP e;have hl:b<W.heap.size:=by have:=Q3 _ ⟨b,o,none⟩ e;rw [bH] at this;exact this
 have e1:(ag M' W').heap[b]?=(ag M W).heap[b]?:=by
  rw [bZ λk=>hb (hm b hl k),bZ hb];exact h.block b hl hb
 exact (World.cell?_of_block (a:=⟨b,o,none⟩) e1).trans e
theorem cC (M:Nat->Prop) (W:World):aq (ag M W) W:=by
 refine ⟨by rw [bH];exact lR,λb o v e=>?_⟩;exact (World.cell?_of_block (a:=⟨b,o,none⟩) (bZ (eP e)).symm).trans e
theorem mx {M:Nat->Prop} {N:Nat} {w W:World} (h:Below N w W) (hN:w.heap.size=N) (hM:∀ j,M j->N<=j):aq w (ag M W):=by
 refine ⟨by rw [bH];exact h.size,λb o v e=>?_⟩;have hl:b<N:=by rw [<- hN];exact Q3 w ⟨b,o,none⟩ e
 have e1:(ag M W).heap[b]?=w.heap[b]?:=by
  rw [bZ (λk=>by have:=hM b k;omega)];exact h.block b hl
 exact (World.cell?_of_block (a:=⟨b,o,none⟩) e1).trans e
end
section
open RowKit Shelf
open Qos (Nd Ct Pd nd ct pd)
open Sv (Gv Hd gv hd)
attribute [local go_sem] Oper.semAt_some
def dH (x:Pd × Value):List Value:=[.string x.1.nm,.int .i64 x.1.pr,x.2]
def rowP (l:List (Pd × Value)):List Value:=l.flatMap dH
theorem oC (l:List (Pd × Value)) (p:Pd × Value):rowP (l++[p])=rowP l++dH p:=by simp [rowP]
def v7 (W:World) (base:Nat) (v:Value) (ps:List Pd):Prop:=∃ l:List (Pd × Value),l.map Prod.fst=ps/\W.ownsRow base 47 3 v l.length (rowP l)/\∀ x∈l,aE W x.2 x.1.cs
theorem qZ:(prog.info? 47).map (λi=>(i.zero,i.size,i.bytes))=some (some (.agg #[.string ByteArray.empty,.int .i64 0,.slice none 0 0]),3,48):=by kernel_rfl
theorem oD (w:World) (nm:ByteArray) (pr:Int) (cv:Value) (t:TypeId):∀ j u,(dH (⟨nm,pr,[]⟩,cv))[j]?=some u->(w.alloc (.cells #[.string nm,.int .i64 pr,cv] t)).cell? ((⟨w.heap.size,0,none⟩:Addr).add j)=some u:=by
 intro j u hu;rw [Addr.add_lit,Qd]
 match j,hu with
 | 0,hu=>simp [dH] at hu;subst hu;simp
 | 1,hu=>simp [dH] at hu;subst hu;simp
 | 2,hu=>simp [dH] at hu;subst hu;simp
 | j+3,hu=>simp [dH] at hu
theorem oE (nm:ByteArray) (pr:Int) (a:Option Addr) (n c:Nat):∀ u∈dH (⟨nm,pr,[]⟩,.slice a n c),u.oneCell'=true:=by
 intro u hu
 simp [dH] at hu
 rcases hu with rfl|rfl|rfl <;> rfl
abbrev ld:=λ(x0:ByteArray) (x1:Int) (x2:Option Addr) (x3 x4:Nat) (x5:Option Addr) (x6 x7:Nat)=>(.cells #[.string x0,.int .i64 x1,.slice x2 x3 x4,.slice x5 x6 x7] 57:Obj)
theorem wb (v:Value) (hs:List Hd) (w:World) (h:aJ w v hs) (hl:hs.length<=100):Calls prog 51 #[v] w λe w'=>∃ v',e=.returned v'/\v7 w' w.heap.size v' (hs.map Hd.pod)/\Below w.heap.size w w':=by
 obtain ⟨i0,hi,Hv,Hx,Hu⟩:=info_parts qZ;obtain ⟨ao,c,rfl,hm,hr⟩:=h;unfold maxLen at hm;have HR:=qI hr;clear hr
 go_enter func51,ntmps51
 go_wp2
 go_loopw [3,8] (λpv i wr=>∃ (k:Nat) (l:List (Pd × Value)),k<=hs.length/\i=.int .i64 k/\l.length=k/\l.map Prod.fst=(hs.take k).map Hd.pod/\wr.ownsRow w.heap.size 47 3 pv l.length (rowP l)/\(∀ x∈l,aE w x.2 x.1.cs)/\Below w.heap.size w wr) (λ_ i _=>hs.length - (intOf i).toNat)
 case atStart=>exact ⟨0,[],by omega,rfl,rfl,rfl,Qw _ _ _ _,λx hx=>(List.not_mem_nil hx).elim,Q0 _ _⟩
 case round=>
  obtain ⟨k,l,hk,rfl,Hn,Hj,Ha,Hm,hb⟩:=hrel;have Hs:=qI Hn;have Hi:=qI Hj;have Hp:=qI Hm;have HB:=qI hb;have HA:l.length<=100:=by omega
  have HC:=hb.size;clear Hn Hj Hm
  by_cases hlt:k<hs.length
  ·obtain ⟨b,o,cv,gvv,rfl,Hk⟩:=HR.out (by omega);obtain ⟨x0,x1,x2,x3⟩:=((Hk.below hb).2 k hlt).1;have Hc:=(Hk.2 k hlt).2.1;have Ho:Hid ((hs.take (k+1)).map Hd.pod=(hs.take k).map Hd.pod++[(hd hs k).pod]):=by
    unfold Hid;rw [Qa hlt,Qj];simp [hd,hlt]
   have He:=qI Hc;obtain ⟨ca,cc,Hl,_,_⟩:=id Hc;rw [Hl] at x2 He;obtain ⟨ga,gc,Hq,_,_⟩:=id (Hk.2 k hlt).2.2;rw [Hq] at x3;clear Hk Hc hb Hl Hq;generalize hd hs k=x at *;obtain ⟨⟨xn,xp,xc⟩,xg⟩:=x;dsimp only at x0 x1 x2 x3 He Ho;obtain ⟨va,vc,hv⟩:=fF Ha;subst hv;have hA:=(Q0 wr.heap.size wr).alloc (lR) (ld xn xp ca xc.length cc ga xg.length gc);have Hb:=Ha.alloc (ld xn xp ca xc.length cc ga xg.length gc);have Hy:=qI (HB.out.trans (hA.mono HB.out.size));have Ht:w.heap.size<=(wr.alloc (ld xn xp ca xc.length cc ga xg.length gc)).heap.size:=by simp;omega
   have Hf:=oD (wr.alloc (ld xn xp ca xc.length cc ga xg.length gc)) xn xp (.slice ca xc.length cc) 47;rw [show (wr.alloc (ld xn xp ca xc.length cc ga xg.length gc)).heap.size=wr.heap.size+1 by simp] at Hf;have Hz:=qI Hf;have Hw:w.heap.size<=((wr.alloc (ld xn xp ca xc.length cc ga xg.length gc)).alloc (.cells #[.string xn,.int .i64 xp,.slice ca xc.length cc] 47)).heap.size:=by simp;omega
   clear hA Hf Ha
   go_wp2_with (at_builtin;refine wpList_append_own _ rfl _ _ 70 rfl w.heap.size 47 i0 _ 3 48 underlying70 hi Hv Hx Hu rfl (by decide) _ _ _ rfl (Hb.alloc _) ⟨_,0,none⟩ 1 1 (dH (⟨xn,xp,[]⟩,.slice ca xc.length cc)) rfl rfl Hz.out (oE xn xp ca xc.length cc) (by unfold maxLen;omega) (by omega) Hw ?_;intro v' W2 Hh Hg _)
   go_roundw
   case rel=>
    refine ⟨k+1,l++[(⟨xn,xp,xc⟩,.slice ca xc.length cc)],by omega,by go_num,by rw [Q2,Hs.out];rfl,by rw [Qj,Hi.out,Ho.out];rfl,?_,λy hy=>?_,?_⟩
    ·rw [oC,Q2];exact Hh
    ·rcases Qi.1 hy with hy|hy
     ·exact Hp.out y hy
     ·rw [Qm.1 hy];exact He.out
    ·exact (Hy.out.alloc Ht _).grown Hg (by simp;omega) λj hj=>(Hb.lt j hj).1
   case measure=>simp [intOf];omega
  ·have Hr:k=hs.length:=by omega
   have HE:Hid (l.map Prod.fst=hs.map Hd.pod):=by unfold Hid;rw [Hi.out,Hr,Qh]
   clear Hr
   go_wp2
   go_ret;exact ⟨_,rfl,⟨l,HE.out,Ha,λx hx=>(Hp.out x hx).below HB.out⟩,HB.out⟩
end
section
open RowKit Shelf Go.Lib
attribute [local go_sem] Oper.semAt_some
theorem FJ:(prog.info? 57).map (λi=>(i.zero,i.size,i.bytes))=some (some (.agg #[.string ByteArray.empty,.int .i64 0,.slice none 0 0,.slice none 0 0]),4,72):=by kernel_rfl
theorem FK:(prog.info? 57).map (·.size)=some 4:=by kernel_rfl
theorem oF (w:World) (ty:TypeId) (b o dLen dCap:Nat) (a:Addr) (sLen sCap:Nat) (cs:List Value) (hn:cs.length=Nat.min sLen dLen*4)
  (hsrc:∀ j v,cs[j]?=some v->w.cell? (a.add j)=some v) (hc:∀ j,j<cs.length->(w.cell? ⟨b,o+j,none⟩).isSome=true) (hf:∀ j,j<cs.length->w.frozen? ⟨b,o+j,none⟩=false) (h1:∀ v∈cs,v.oneCell'=true) :
  (Builtin.copy_ #[53,53] ty #[.slice (some ⟨b,o,none⟩) dLen dCap,.slice (some a) sLen sCap]).run prog w=.ok (goInt (Nat.min sLen dLen)) (w.setCells b o cs):=by
 have hl:=run_loadCells_list (P:=prog) w a cs hsrc;have Ha:=run_storeCells_cells (P:=prog) b o cs 0 w (by simpa using hc) (by simpa using hf) h1;have hs:=FK;cases hq:prog.info? 57 with
 | none=>rw [hq] at hs;cases hs
 | some i=>
  have hi:i.size=4:=by rw [hq] at hs;simpa using hs
  rw [hn] at hl
  simp [Builtin.copy_,run_underlying underlying53,Builtin.lenOf,Builtin.firstCells,sizeOf,typeInfo,hq,hi,hl,Ha]
theorem FL (b n c i vb voff vc:Nat) (cs vs:List Value) (w:World) (hi:i<n) (hroom:n+1<=c) (hc63:c<=9223372036854775807) (hvb:vb≠b)
  (hcl:cs.length=n*4) (hvl:vs.length=4)
  (hcs:∀ j v,cs[j]?=some v->w.cell? ⟨b,j,none⟩=some v) (hsp:∀ j,j<(n+1)*4->(w.cell? ⟨b,j,none⟩).isSome=true) (hfz:∀ j,w.frozen? ⟨b,j,none⟩=false)
  (hvs:∀ j v,vs[j]?=some v->w.cell? ⟨vb,voff+j,none⟩=some v) (h1c:∀ v∈cs,v.oneCell'=true) (h1v:∀ v∈vs,v.oneCell'=true)
  (tA tB:TypeId) (kA kB:Nat) (hsa:w.shape? vb=some (tA,kA)) (hsb:w.shape? b=some (tB,kB)) (hkB:kB≠0) (hfa:w.frozen? ⟨vb,voff,none⟩=false) (hfe:w.frozen? ⟨vb,kA,none⟩=false) :
  Calls prog 54 #[.slice (some ⟨b,0,none⟩) n c,.int .i64 i,.slice (some ⟨vb,voff,none⟩) 1 vc] w λe w'=>
   e=.returned (.slice (some ⟨b,0,none⟩) (n+1) c)/\w'=(w.drew.setCells b ((i+1)*4) (cs.drop (i*4))).setCells b (i*4) vs:=by
 have Hp:¬ ((i:Int)=(n:Int)):=by omega
 have Hg:∀ lb cb,(callFunc 95 #[.slice (some ⟨vb,voff,none⟩) 1 vc,.slice (some ⟨b,(i+1)*4,none⟩) lb cb]).run prog w=.ok (.value (.bool false)) w:=λlb cb=>by
  rw [run_callFunc_extern func95 (by kernel_rfl) (by kernel_rfl) (by kernel_rfl) (e:=Extern.SlicesOverlaps.overlaps #[53,53] #[4]) (by kernel_rfl),
   Lib.run_overlaps_apart w 53 4 57 underlying53 4 sizeOf57 ⟨vb,voff,none⟩ ⟨b,(i+1)*4,none⟩ 1 vc lb cb hvb tA tB kA kB hsa hsb hkB hfa hfe]
  rfl
 have He:(cs.drop (i*4)).length=(n - i)*4:=by rw [List.length_drop,hcl];omega
 have Hc:∀ ty dc sc,(Builtin.copy_ #[53,53] ty #[.slice (some ⟨b,(i+1)*4,none⟩) (n - i) dc,.slice (some ⟨b,i*4,none⟩) (n+1 - i) sc]).run prog w.drew=.ok (goInt (Nat.min (n+1 - i) (n - i))) (w.drew.setCells b ((i+1)*4) (cs.drop (i*4))):=λty dc sc=>
  oF w.drew ty b ((i+1)*4) (n - i) dc ⟨b,i*4,none⟩ (n+1 - i) sc (cs.drop (i*4)) (by rw [He];simp only [Nat.min_def];split <;> omega)
   (λj v hj=>by rw [Addr.add_lit];exact hcs (i*4+j) v (by rwa [List.getElem?_drop] at hj))
   (λj hj=>hsp _ (by omega)) (λj hj=>hfz _) λv hv=>h1c v (List.mem_of_mem_drop hv)
 obtain ⟨W1,Ha⟩:∃ W1,W1=w.drew.setCells b ((i+1)*4) (cs.drop (i*4)):=⟨_,rfl⟩;have Hb:∀ k,k<(n+1)*4->(W1.cell? ⟨b,k,none⟩).isSome=true:=λk hk=>by
  rw [Ha];exact isSome_setCells b (cs.drop (i*4)) ((i+1)*4) w.drew (λj hj=>hsp _ (by rw [He] at hj;omega)) k (hsp k hk)
 have Hf:∀ (W:World),(∀ x,W.cell? x=W1.cell? x)->(∀ x,W.frozen? x=W1.frozen? x)->∀ ty dc,(Builtin.copy_ #[53,53] ty #[.slice (some ⟨b,i*4,none⟩) (n+1 - i) dc,.slice (some ⟨vb,voff,none⟩) 1 vc]).run prog W=.ok (goInt (Nat.min 1 (n+1 - i))) (W.setCells b (i*4) vs):=λW hWc hWf ty dc=>
  oF W ty b (i*4) (n+1 - i) dc ⟨vb,voff,none⟩ 1 vc vs (by rw [hvl];simp only [Nat.min_def];split <;> omega)
   (λj v hj=>by
    rw [Addr.add_lit,hWc,Ha,World.cell?_setCells_out b _ _ _ _ λh _=>absurd h hvb];exact hvs j v hj)
   (λj hj=>by rw [hWc];exact Hb _ (by omega)) (λj hj=>by rw [hWf,Ha,World.frozen?_setCells];exact hfz _) h1v
 rw [<- Ha] at Hc;have Hk:i<=n:=by omega
 have Hm:((i:Int)+1).toNat=i+1:=by omega
 have Hl:¬ (c=i+1):=by omega
 have Hn:(i:Int)<=(n:Int)+1:=by omega
 have Hi:¬ (c=i):=by omega
 have mixed:prog.follows .mixedOrders=true:=by kernel_rfl
 have Hh:IntKind.i64.wrap ((i:Int)+1)=(i:Int)+1:=by rw [IntKind.wrap_i64];omega
 have Hj:(0:Int)<=(i:Int)+1:=by omega
 have Ho:(i:Int)+1<=(n:Int)+1:=by omega
 clear hcs hsp hvs Hb He hcl
 go_enter func54,ntmps54
 go_wp2_with (simp only [Hg])
 go_region_law_o (refine step_copy_runI rfl _ _ 53 53 rfl _ _ (by simp [Act.eval,Act.put]) (by simp [Act.eval,Act.put]) (Hc _ _ _) ?_)
 go_wp2_with (at_builtin;refine wpList_copy_runI _ rfl _ _ 53 53 rfl _ _ rfl rfl (Hf _ (λ_=>rfl) (λ_=>rfl) _ _) ?_)
 go_ret
 first|exact ⟨rfl,rfl⟩|exact ⟨rfl,by rw [Ha]⟩
end
section
namespace Ol
open Ost (Cpu ae cnt dif)
open Dvs (Dv dv clF aL first nth cR jY)
open Qos (Nd Ct Pd ct aA)
open Sv (Gv Hd gv hd)
structure Cl where
 g:Gv
 own:Int
 ns:List Nd
def oG (ds:List Dv) (x:Cl):Prop:=(cnt x.g.cp:Int)=x.own/\ie ds x.g.dv x.ns/\(∀ k,k<x.g.dv.length->0<=nth x.g.dv k/\nth x.g.dv k<ds.length/\nth x.g.dv k ∉ x.g.dv.take k)
def my (s:Sk) (x:Cl):Prop:=x.g.cp &&& s.cp=x.g.cp/\∀ k,k<x.g.dv.length->s.us (nth x.g.dv k).toNat=false
def ek (s:Sk) (x:Cl):Sk:=⟨dif s.cp x.g.cp,s.ds,aL s.us x.g.dv⟩
theorem re {n:Nat} {us:Nat->Bool} {l:List Int} {k:Nat}:clF n us l k=0↔(0<=nth l k/\nth l k<n/\nth l k ∉ l.take k)/\us (nth l k).toNat=false:=by
 unfold clF
 by_cases h1:nth l k<0\/(n:Int)<=nth l k
 ·rw [if_pos h1];constructor
  ·intro h;cases h
  ·rintro ⟨⟨a,b,_⟩,_⟩;omega
 ·rw [if_neg h1]
  by_cases h2:(us (nth l k).toNat || decide (nth l k∈l.take k))=true
  ·rw [if_pos h2];constructor
   ·intro h;cases h
   ·rintro ⟨⟨_,_,c⟩,d⟩;rw [d,Bool.false_or,Qp] at h2;exact absurd h2 c
  ·rw [if_neg h2];rw [Bool.not_eq_true,Bool.or_eq_false_iff,decide_eq_false_iff_not] at h2;exact ⟨λ_=>⟨⟨by omega,by omega,h2.2⟩,h2.1⟩,λ_=>rfl⟩
theorem ig {s s':Sk} {x:Cl}:dh s x.g x.own x.ns=some s'↔oG s.ds x/\my s x/\s'=ek s x:=by
 unfold dh
 by_cases h:x.g.cp &&& s.cp=x.g.cp/\(cnt x.g.cp:Int)=x.own/\first (clF s.ds.length s.us x.g.dv) x.g.dv.length=0
 ·rw [if_pos h];obtain ⟨h1,h2,h3⟩:=h;have h4:=cR h3
  by_cases hj:ie s.ds x.g.dv x.ns
  ·rw [if_pos hj];constructor
   ·intro e;injection e with e
    exact ⟨⟨h2,hj,λk hk=>(re.1 (h4 k hk)).1⟩,⟨h1,λk hk=>(re.1 (h4 k hk)).2⟩,e.symm⟩
   ·rintro ⟨_,_,rfl⟩;rfl
  ·rw [if_neg hj];exact ⟨λe=>(by cases e),λe=>absurd e.1.2.1 hj⟩
 ·rw [if_neg h];constructor
  ·intro e;cases e
  ·rintro ⟨⟨a,b,c⟩,⟨d,e⟩,_⟩;exact absurd ⟨d,a,jY λk hk=>re.2 ⟨c k hk,e k hk⟩⟩ h
theorem FM {l:List Int} {k:Nat} (h:k<l.length):nth l k∈l:=by simp [nth,h]
theorem FN {l:List Int} {x:Int} (h:x∈l):∃ k,k<l.length/\nth l k=x:=by
 obtain ⟨k,hk,e⟩:=List.getElem_of_mem h;exact ⟨k,hk,by simp [nth,hk,e]⟩
theorem rf {us:Nat->Bool} {l:List Int} {j:Nat}:aL us l j=false↔us j=false/\(j:Int) ∉ l:=by
 unfold aL;simp
theorem FO {s:Sk} {x y:Cl} (hx:oG s.ds x) (hy:oG s.ds y) (h1:my s x) (h2:my (ek s x) y):my s y/\my (ek s y) x:=by
 have hb:∀ i,y.g.cp.testBit i=true->s.cp.testBit i=true/\x.g.cp.testBit i=false:=λi hi=>by
  have e:=congrArg (λn=>Nat.testBit n i) h2.1;simp only [ek,Nat.testBit_and,Ost.e7,hi,Bool.true_and] at e;cases hs:s.cp.testBit i <;> cases hx:x.g.cp.testBit i <;> simp_all
 have Ha:∀ i,x.g.cp.testBit i=true->s.cp.testBit i=true:=λi hi=>by
  have e:=congrArg (λn=>Nat.testBit n i) h1.1
  simpa [Nat.testBit_and,hi] using e
 have hd:∀ k,k<y.g.dv.length->s.us (nth y.g.dv k).toNat=false/\nth y.g.dv k ∉ x.g.dv:=λk hk=>by
  have e:=rf.1 (h2.2 k hk);have h0:=(hy.2.2 k hk).1;rw [Int.toNat_of_nonneg h0] at e;exact e
 refine ⟨⟨?_,λk hk=>(hd k hk).1⟩,?_,λk hk=>?_⟩
 ·apply Nat.eq_of_testBit_eq;intro i;rw [Nat.testBit_and];cases hi:y.g.cp.testBit i with
  | false=>rfl
  | true=>rw [(hb i hi).1];rfl
 ·apply Nat.eq_of_testBit_eq;intro i;simp only [ek,Nat.testBit_and,Ost.e7];cases hi:x.g.cp.testBit i with
  | false=>rfl
  | true=>
   rw [Ha i hi];cases hj:y.g.cp.testBit i with
   | false=>rfl
   | true=>rw [(hb i hj).2] at hi;cases hi
 ·refine rf.2 ⟨h1.2 k hk,λhm=>?_⟩;have h0:=(hx.2.2 k hk).1;rw [Int.toNat_of_nonneg h0] at hm;obtain ⟨j,hj,e⟩:=FN hm;exact (hd j hj).2 (by rw [e];exact FM hk)
theorem FP (s:Sk) (x y:Cl):ek (ek s x) y=ek (ek s y) x:=by
 unfold ek
 congr 1
 ·apply Nat.eq_of_testBit_eq;intro i;simp only [Ost.e7];cases s.cp.testBit i <;> cases x.g.cp.testBit i <;> cases y.g.cp.testBit i <;> rfl
 ·funext j
  unfold aL;rw [Bool.or_assoc,Bool.or_assoc,Bool.or_comm (decide _) (decide _)]
noncomputable def bS (s:Sk):List Cl->Option Sk
 | []=>some s
 | x :: r=>(dh s x.g x.own x.ns).bind λs'=>bS s' r
theorem mz (a b:List Cl):∀ s,bS s (a++b)=(bS s a).bind λs'=>bS s' b:=by
 induction a with
 | nil=>intro s;rfl
 | cons x r ih=>
  intro s;rw [List.cons_append,bS,bS,Option.bind_assoc]
  congr 1
  funext s'
  exact ih s'
theorem rh {s s':Sk} {x:Cl} (h:dh s x.g x.own x.ns=some s'):s'.ds=s.ds:=by
 rw [(ig.1 h).2.2];rfl
theorem FQ {a b:List Cl} (h:a.Perm b):∀ {s s':Sk},bS s a=some s'->bS s b=some s':=by
 induction h with
 | nil=>intro s s' e;exact e
 | cons x _ ih=>
  intro s s' e;rw [bS] at e ⊢;obtain ⟨s1,h1,h2⟩:=Option.bind_eq_some_iff.1 e;rw [h1,Option.bind_some];exact ih h2
 | swap x y l=>
  intro s s' e;rw [bS] at e;obtain ⟨s1,h1,h2⟩:=Option.bind_eq_some_iff.1 e;rw [bS] at h2;obtain ⟨s2,h3,h4⟩:=Option.bind_eq_some_iff.1 h2;obtain ⟨a1,a2,rfl⟩:=ig.1 h1;obtain ⟨b1,b2,rfl⟩:=ig.1 h3;obtain ⟨c1,c2⟩:=FO a1 b1 a2 b2;have d1:dh s x.g x.own x.ns=some (ek s x):=ig.2 ⟨b1,c1,rfl⟩;have d2:dh (ek s x) y.g y.own y.ns=some (ek (ek s x) y):=ig.2 ⟨a1,c2,rfl⟩;rw [bS,d1,Option.bind_some,bS,d2,Option.bind_some,FP];exact h4
 | trans _ _ ih1 ih2=>intro s s' e;exact ih2 (ih1 e)
def ii (h:Hd):List Cl:=(List.range h.gs.length).map λk=>⟨gv h.gs k,aA h.pod.cs (ct h.pod.cs k).am,(ct h.pod.cs k).ds⟩
def gK (hs:List Hd):List Cl:=hs.flatMap ii
theorem we (h:Hd) (s:Sk):∀ k,dT s h k=bS s ((List.range k).map λk=>⟨gv h.gs k,aA h.pod.cs (ct h.pod.cs k).am,(ct h.pod.cs k).ds⟩):=by
 intro k
 induction k with
 | zero=>rfl
 | succ k ih=>
  rw [dT,ih,List.range_succ,Qj,mz]
  congr 1
  funext s'
  rw [List.map_singleton,bS];cases dh s' (gv h.gs k) (aA h.pod.cs (ct h.pod.cs k).am) (ct h.pod.cs k).ds <;> rfl
theorem kg (hs:List Hd) (s:Sk):∀ k,k<=hs.length->bM s hs k=bS s (gK (hs.take k)):=by
 intro k
 induction k with
 | zero=>intro _;rfl
 | succ k ih=>
  intro hk;have Ha:k<hs.length:=hk;rw [bM,ih (by omega),Qa Ha]
  show _=bS s ((hs.take k++[hs[k]]).flatMap ii)
  rw [List.flatMap_append,mz]
  show (bS s (gK (hs.take k))).bind _=(bS s (gK (hs.take k))).bind _
  congr 1
  funext s'
  rw [we];have e:hd hs k=hs[k]:=by simp [hd,Ha]
  rw [e]
  simp [ii]
theorem wh {m:Mc} {ds:List Dv} {hs hs':List Hd} {s:Sk} (hp:hs.Perm hs') (h:left m ds hs=some s):left m ds hs'=some s:=by
 unfold left at h ⊢
 split at h
 ·rename_i h0
  rw [if_pos h0];rw [kg _ _ _ (lR),Qh] at h ⊢;exact FQ (hp.flatMap_right ii) h
 ·cases h
theorem FR {m:Mc} {ds:List Dv} {hs:List Hd} {x:Hd} {s s':Sk} (h:left m ds hs=some s) (h2:bS s (ii x)=some s'):left m ds (hs++[x])=some s':=by
 unfold left at h ⊢
 split at h
 ·rename_i h0
  rw [if_pos h0];rw [kg _ _ _ (lR),Qh] at h ⊢;rw [gK,List.flatMap_append,mz];have h':bS ⟨m.op,ds,λ_=>false⟩ (hs.flatMap ii)=some s:=h;rw [h',Option.bind_some]
  simpa using h2
 ·cases h
end Ol
end
section
open RowKit Shelf Go.Lib
attribute [local go_sem] Oper.semAt_some
abbrev em:Value:=.agg #[.string ByteArray.empty,.int .i64 0,.slice none 0 0,.slice none 0 0]
theorem FS (b n c i vb voff vc:Nat) (cs vs:List Value) (w:World) (hi:i<n) (hnc:n<=c) (hroom:c<n+1) (hbig:n<=100)
  (hcl:cs.length=n*4) (hvl:vs.length=4)
  (hcs:∀ j v,cs[j]?=some v->w.cell? ⟨b,j,none⟩=some v)
  (hvs:∀ j v,vs[j]?=some v->w.cell? ⟨vb,voff+j,none⟩=some v) (h1c:∀ v∈cs,v.oneCell'=true) (h1v:∀ v∈vs,v.oneCell'=true) :
  Calls prog 54 #[.slice (some ⟨b,0,none⟩) n c,.int .i64 i,.slice (some ⟨vb,voff,none⟩) 1 vc] w λe w'=>
   ∃ G,n+1<=G/\G<=maxLen/\e=.returned (.slice (some ⟨w.heap.size,0,none⟩) (n+1) G)/\
   w'=(((w.alloc (.cells ((cs.take (i*4)).toArray++Builtin.zeroCells em.cells (n+1 - i)++Builtin.zeroCells em.cells (G - (n+1))) 57)).drew.setCells w.heap.size (i*4) vs).drew).setCells w.heap.size ((i+1)*4) (cs.drop (i*4)):=by
 obtain ⟨i0,Hr,Ho,Hs,Hl⟩:=info_parts FJ;have HH:¬ ((i:Int)=(n:Int)):=by omega
 have HF:(c:Int)<(n:Int)+1:=by omega
 have Ht:b<w.heap.size:=block_lt_of_cell (hcs 0 _ (Qf (by omega)));have HA:vb<w.heap.size:=block_lt_of_cell (hvs 0 _ (Qf (by omega)));have Hm:(n:Int)+1 - (i:Int)=((n+1 - i:Nat):Int):=by omega
 have Hj:i+(n+1 - i)=n+1:=by omega
 have Hg:(Builtin.firstCells i0.size i (.slice (some ⟨b,0,none⟩) i c)).run prog w.drew=.ok (cs.take (i*4)).toArray w.drew:=by
  rw [Hs];exact run_firstCells_some w.drew 4 i ⟨b,0,none⟩ i c (cs.take (i*4)) (by rw [Qu];omega) (λj v hj=>by
   rw [Addr.add_lit];rw [List.getElem?_take] at hj
   split at hj
   ·rw [Qd];exact hcs j v hj
   ·cases hj)
 have Ha:Builtin.nextslicecap (n+1) c*i0.bytes<=281474976710656:=by rw [Hl];exact growslice_fits hroom (by omega)
 have Hi:∀ ty,(Builtin.append_ #[53,3] ty #[.slice (some ⟨b,0,none⟩) i c,.int .i64 ((n:Int)+1 - (i:Int))]).run prog w =
   .ok (.slice (some ⟨w.heap.size,0,none⟩) (n+1) (grownCap w (n+1) c 57)) (w.drew.alloc (.cells ((cs.take (i*4)).toArray++Builtin.zeroCells em.cells (n+1 - i)++Builtin.zeroCells em.cells (grownCap w (n+1) c 57 - (n+1))) 57)):=λty=>by
  have h:=Lib.run_append_grow_zeros w 53 3 ty 57 i0 _ .i64 .i64 underlying53 underlying3 Hr Ho (some ⟨b,0,none⟩) i c (cs.take (i*4)) Hg (n+1 - i) (by omega) (by omega) (by omega) (by omega) (by rw [Hl];omega) (by rw [Hj];exact Ha);rw [Hj] at h;rw [Hm];exact h
 have Hf:n+1<=grownCap w (n+1) c 57:=grownCap_ge w _ _ _;have Hc:grownCap w (n+1) c 57<=maxLen:=grownCap_le_maxLen w (n+1) c 57 (by unfold maxLen;omega);obtain ⟨G,hG⟩:∃ G,G=grownCap w (n+1) c 57:=⟨_,rfl⟩;rw [<- hG] at Hi Hf Hc;refine Calls.mono (R:=λe w'=>e=.returned (.slice (some ⟨w.heap.size,0,none⟩) (n+1) G)/\w'=(((w.alloc (.cells ((cs.take (i*4)).toArray++Builtin.zeroCells em.cells (n+1 - i)++Builtin.zeroCells em.cells (G - (n+1))) 57)).drew.setCells w.heap.size (i*4) vs).drew).setCells w.heap.size ((i+1)*4) (cs.drop (i*4))) ?_ λe w' h=>⟨G,Hf,Hc,h.1,h.2⟩;obtain ⟨ROW,Hb⟩:∃ ROW:Array Value,ROW=(cs.take (i*4)).toArray++Builtin.zeroCells em.cells (n+1 - i)++Builtin.zeroCells em.cells (G - (n+1)):=⟨_,rfl⟩;rw [<- Hb] at Hi ⊢;have Hz:(n+1)*4<=ROW.size:=by
  rw [Hb];have HE:em.cells.size=4:=rfl;simp only [Array.size_append,List.size_toArray,Qu,Builtin.zeroCells,Array.size_map,Array.size_range,HE,hcl];omega
 have Hn:G<=9223372036854775807:=by unfold maxLen at Hc;omega
 obtain ⟨W1,He⟩:∃ W1,W1=w.drew.alloc (.cells ROW 57):=⟨_,rfl⟩;rw [<- He] at Hi;have hN:∀ j,j<(n+1)*4->(W1.cell? ⟨w.heap.size,j,none⟩).isSome=true:=λj hj=>by
  rw [He,World.cell?_alloc_at (w:=w.drew) ROW _ w.heap.size j rfl,Array.getElem?_eq_getElem (by omega)];rfl
 have Hp:∀ j,W1.frozen? ⟨w.heap.size,j,none⟩=false:=λj=>by rw [He];exact World.frozen?_alloc_at (w:=w.drew) ROW _ w.heap.size j rfl
 have Hy:∀ j v,w.cell? ⟨b,j,none⟩=some v->W1.cell? ⟨b,j,none⟩=some v:=λj v h=>by rw [He,World.cell?_alloc_past (w:=w.drew) _ b j Ht];exact h
 have Hu:∀ j v,w.cell? ⟨vb,j,none⟩=some v->W1.cell? ⟨vb,j,none⟩=some v:=λj v h=>by rw [He,World.cell?_alloc_past (w:=w.drew) _ vb j HA];exact h
 have Hk:∀ (W:World),(∀ x,W.cell? x=W1.cell? x)->(∀ x,W.frozen? x=W1.frozen? x)->∀ ty dc,(Builtin.copy_ #[53,53] ty #[.slice (some ⟨w.heap.size,i*4,none⟩) (n+1 - i) dc,.slice (some ⟨vb,voff,none⟩) 1 vc]).run prog W=.ok (goInt (Nat.min 1 (n+1 - i))) (W.setCells w.heap.size (i*4) vs):=λW hWc hWf ty dc=>
  oF W ty w.heap.size (i*4) (n+1 - i) dc ⟨vb,voff,none⟩ 1 vc vs (by rw [hvl];simp only [Nat.min_def];split <;> omega)
   (λj v hj=>by rw [Addr.add_lit,hWc];exact Hu _ v (hvs j v hj))
   (λj hj=>by rw [hWc];exact hN _ (by omega)) (λj hj=>by rw [hWf];exact Hp _) h1v
 have HJ:¬ (G=i):=by omega
 have Hv:¬ (G=i+1):=by omega
 have HK:¬ (c=i):=by omega
 have Hx:b≠w.heap.size:=by omega
 have Hq:(cs.drop (i*4)).length=(n - i)*4:=by rw [List.length_drop,hcl];omega
 have Hh:∀ (W:World),(∀ x,W.cell? x=(W1.setCells w.heap.size (i*4) vs).cell? x)->(∀ x,W.frozen? x=(W1.setCells w.heap.size (i*4) vs).frozen? x)->∀ ty dc sc,(Builtin.copy_ #[53,53] ty #[.slice (some ⟨w.heap.size,(i+1)*4,none⟩) (n - i) dc,.slice (some ⟨b,i*4,none⟩) (n - i) sc]).run prog W=.ok (goInt (Nat.min (n - i) (n - i))) (W.setCells w.heap.size ((i+1)*4) (cs.drop (i*4))):=λW hWc hWf ty dc sc=>
  oF W ty w.heap.size ((i+1)*4) (n - i) dc ⟨b,i*4,none⟩ (n - i) sc (cs.drop (i*4)) (by rw [Hq];simp only [Nat.min_def];split <;> omega)
   (λj v hj=>by
    rw [Addr.add_lit,hWc,World.cell?_setCells_out _ _ _ _ _ λh _=>absurd h Hx];exact Hy _ v (hcs (i*4+j) v (by rwa [List.getElem?_drop] at hj)))
   (λj hj=>by rw [hWc];exact isSome_setCells w.heap.size vs (i*4) W1 (λt ht=>hN _ (by omega)) _ (hN _ (by rw [Hq] at hj;omega)))
   (λj hj=>by rw [hWf,World.frozen?_setCells];exact Hp _) λv hv=>h1c v (List.mem_of_mem_drop hv)
 subst He;have Hw:∀ x,((w.alloc (.cells ROW 57)).drew).cell? x=(w.drew.alloc (.cells ROW 57)).cell? x:=λx=>rfl
 have HD:∀ x,((w.alloc (.cells ROW 57)).drew).frozen? x=(w.drew.alloc (.cells ROW 57)).frozen? x:=λx=>rfl
 have HC:∀ x,(((w.alloc (.cells ROW 57)).drew.setCells w.heap.size (i*4) vs).drew).cell? x=((w.drew.alloc (.cells ROW 57)).setCells w.heap.size (i*4) vs).cell? x:=λx=>rfl
 have HB:∀ x,(((w.alloc (.cells ROW 57)).drew.setCells w.heap.size (i*4) vs).drew).frozen? x=((w.drew.alloc (.cells ROW 57)).setCells w.heap.size (i*4) vs).frozen? x:=λx=>rfl
 have HI:IntKind.i64.wrap ((i:Int)+1)=(i:Int)+1:=by rw [IntKind.wrap_i64];omega
 have HM:(0:Int)<=(i:Int)+1:=by omega
 have HN:i<=n:=by omega
 have HG:((i:Int)+1).toNat=i+1:=by omega
 have HO:(i:Int)<=(n:Int):=by omega
 have HL:(i:Int)+1<=(n:Int)+1:=by omega
 have mixed:prog.follows .mixedOrders=true:=by kernel_rfl
 clear Hm Hj Hg Hb hG Hz hcs hvs Ha Hr Ho Hs Hl
 go_enter func54,ntmps54
 go_wp2_with (first
  | (at_builtin;refine Lib.wpList_append_run _ rfl _ _ _ _ rfl _ _ rfl rfl _ _ (Hi _) ?_)
  | (at_builtin;refine wpList_copy_runI _ rfl _ _ 53 53 rfl _ _ rfl rfl (Hk _ Hw HD _ _) ?_)
  | (at_builtin;refine wpList_copy_runI _ rfl _ _ 53 53 rfl _ _ rfl rfl (Hh _ (λ_=>rfl) (λ_=>rfl) _ _ _) ?_))
 go_region_law_o (refine step_copy_runI rfl _ _ 53 53 rfl (.slice (some ⟨w.heap.size,(i+1)*4,none⟩) (n - i) (G - (i+1))) (.slice (some ⟨b,i*4,none⟩) (n - i) (c - i)) (by simp [Act.eval,Act.put]) (by simp [Act.eval,Act.put]) (Hh _ HC HB 3 (G - (i+1)) (c - i)) ?_)
 go_wp2
 go_ret;exact ⟨rfl,rfl⟩
end
section
namespace Ol
open Dvs (Dv dv)
open Qos (Nd)
def cW (ds:List Dv) (k:ByteArray) (l:List Int):Nat:=l.countP λj=>decide ((dv ds j.toNat).kind=k)
def ij (m:ByteArray->Option Int):Prop:=∀ k,m k≠some 0
theorem FT {m:ByteArray->Option Int} (h:ij m) (k:ByteArray):m k=none↔(m k).getD 0=0:=by
 cases e:m k with
 | none=>simp
 | some v=>
  have:=h k
  rw [e] at this;constructor
  ·intro h;cases h
  ·intro h;exact absurd (congrArg some h) this
theorem wi {m:ByteArray->Option Int} (h:ij m) (k:ByteArray) {v:Option Int} (hv:v≠some 0):ij (cJ m k v):=by
 intro x;unfold cJ
 split
 ·exact hv
 ·exact h x
theorem FU (ds:List Dv) {m:ByteArray->Option Int} (h:ij m) (j:Int):ij (dG ds m j):=by
 unfold dG;refine wi h _ ?_
 split
 ·exact λe=>by cases e
 ·rename_i h0;exact λe=>h0 (Ql e)
theorem FV (ds:List Dv) (m:ByteArray->Option Int) (j:Int) (k:ByteArray):(dG ds m j k).getD 0=(m k).getD 0 - (if (dv ds j.toNat).kind=k then 1 else 0):=by
 unfold dG cJ
 by_cases h:k=(dv ds j.toNat).kind
 ·rw [if_pos h,if_pos h.symm,<- h]
  split
  ·rename_i h0;rw [h0];rfl
  ·rfl
 ·rw [if_neg h,if_neg λe=>h e.symm,Int.sub_zero]
theorem FW (ds:List Dv) (k:ByteArray):∀ (l:List Int) (m:ByteArray->Option Int),ij m->ij (l.foldl (dG ds) m)/\(l.foldl (dG ds) m k).getD 0=(m k).getD 0 - (cW ds k l:Nat):=by
 intro l
 induction l with
 | nil=>intro m h;exact ⟨h,by simp [cW]⟩
 | cons j r ih=>
  intro m h;obtain ⟨h1,h2⟩:=ih (dG ds m j) (FU ds h j);refine ⟨h1,?_⟩;rw [List.foldl_cons,h2,FV];unfold cW;rw [List.countP_cons]
  by_cases hk:(dv ds j.toNat).kind=k
  ·simp [hk];omega
  ·simp [hk]
theorem FX (ns:List Nd) (h:∀ n∈ns,n.many≠0):∀ m,ij m->ij (ns.foldl (λm n=>cJ m n.kind (some n.many)) m):=by
 induction ns with
 | nil=>intro m hm;exact hm
 | cons n r ih=>
  intro m hm;rw [List.foldl_cons];exact ih (λx hx=>h x (Qv _ hx)) _ (wi hm _ λe=>h n (List.mem_cons_self ..) (Ql e))
theorem wj {ds:List Dv} {l:List Int} {ns:List Nd} (h:∀ n∈ns,n.many≠0):ie ds l ns↔∀ k,(dF ns k).getD 0=(cW ds k l:Nat):=by
 have hn:ij (dF ns):=FX ns h _ (λ_ e=>by cases e);unfold ie;refine forall_congr' λk=>?_
 obtain ⟨h1,h2⟩:=FW ds k l (dF ns) hn;rw [FT h1,h2];omega
theorem ri:∀ (ns:List Nd) (m:ByteArray->Option Int) (k:ByteArray),(∀ n∈ns,n.kind≠k)->ns.foldl (λm n=>cJ m n.kind (some n.many)) m k=m k:=by
 intro ns
 induction ns with
 | nil=>intro m k _;rfl
 | cons n r ih=>
  intro m k h;rw [List.foldl_cons,ih _ k λx hx=>h x (Qv _ hx)];unfold cJ;rw [if_neg λe=>h n (List.mem_cons_self ..) e.symm]
theorem wk:∀ (ns:List Nd) (m:ByteArray->Option Int) (n:Nd),n∈ns->ns.Pairwise (λa b=>a.kind≠b.kind)->ns.foldl (λm n=>cJ m n.kind (some n.many)) m n.kind=some n.many:=by
 intro ns
 induction ns with
 | nil=>intro m n h;cases h
 | cons x r ih=>
  intro m n h hp;rw [List.foldl_cons];obtain ⟨h1,h2⟩:=List.pairwise_cons.1 hp
  rcases List.mem_cons.1 h with rfl|h
  ·rw [ri r _ n.kind λy hy e=>h1 y hy e.symm];unfold cJ;rw [if_pos rfl]
  ·exact ih _ n h h2
end Ol
end
section
namespace Ol
open Ost (Cpu Wi ae cnt dif aN)
open Dvs (Dv dv fits bx bQ srt cd aL nth sel gV lY lZ uq qd)
open Qos (Nd Ct Pd ct aA)
open Sv (Gv Hd gv hd)
theorem wm {l:List Cpu} {F:Nat} {L:Int} {on:Nat} (h:(aN l F L on).2=0):(cnt (aN l F L on).1:Int)=L/\(aN l F L on).1 &&& F=(aN l F L on).1:=by
 unfold aN at h ⊢
 split
 ·rename_i h1;rw [if_pos h1] at h;cases h
 ·rename_i h1
  rw [if_neg h1] at h
  split
  ·rename_i h2;rw [if_pos h2] at h;cases h
  ·rename_i h2
   have:=Ost.DH (l:=l) (F:=F) (L:=L) on (by omega) (by omega) _ rfl
   exact ⟨this.1,this.2.1⟩
def gL (ds:List Dv) (k:ByteArray) (l:List Nat):Nat:=l.countP λj=>decide ((dv ds j).kind=k)
def iN (k:ByteArray) (ns:List Nd):Int:=(ns.map λn=>if n.kind=k then n.many else 0).sum
theorem wn {ds:List Dv} {us:Nat->Bool} {kind:ByteArray} {m:Nat} {many:Int} (h:bQ ds us kind many=0):((bx ds us kind m many.toNat).length:Int)=many:=by
 unfold bQ at h
 split at h
 ·cases h
 ·split at h
  ·cases h
  ·unfold bx;rw [Qu,qd];omega
theorem FY {ds:List Dv} {us:Nat->Bool} {kind:ByteArray} {m n:Nat} (k:ByteArray):gL ds k (bx ds us kind m n)=if kind=k then (bx ds us kind m n).length else 0:=by
 unfold gL
 by_cases hk:kind=k
 ·rw [if_pos hk,List.countP_eq_length];intro j hj;have h:=(gV hj).2;simp only [fits,Bool.and_eq_true,Qp] at h
  simp [h.1.1,hk]
 ·rw [if_neg hk,List.countP_eq_zero];intro j hj;have h:=(gV hj).2;simp only [fits,Bool.and_eq_true,Qp] at h
  simp [h.1.1,hk]
structure FZ (ds:List Dv) (ns:List Nd) (us us':Nat->Bool) (new:List Nat):Prop where
 nodup:new.Nodup
 free:∀ j∈new,j<ds.length/\us j=false
 used:∀ j,us' j=(us j || decide (j∈new))
 kinds:∀ k,(gL ds k new:Int)=iN k ns
theorem wo {ds:List Dv} (h16:ds.length<=16) (on:Nat):∀ (ns:List Nd) (us:Nat->Bool) (out:List Nat),(bY ds on ns us out).1=0->∃ new,(bY ds on ns us out).2.2=out++new/\FZ ds ns us (bY ds on ns us out).2.1 new:=by
 intro ns
 induction ns with
 | nil=>intro us out _;exact ⟨[],by simp [bY],⟨List.nodup_nil,λ_ h=>(List.not_mem_nil h).elim,λj=>by simp [bY],λk=>by simp [gL,iN]⟩⟩
 | cons n r ih=>
  intro us out h;rw [bY] at h ⊢
  by_cases hf:bQ ds us n.kind n.many=0
  ·rw [if_pos hf] at h ⊢;obtain ⟨new,e,t⟩:=ih _ _ h;have Ha:∀ j∈bx ds us n.kind on n.many.toNat,j<16:=λj hj=>by have:=(gV hj).1;omega
   have hp:=lZ Ha (lY ds us n.kind on n.many.toNat);refine ⟨srt (bx ds us n.kind on n.many.toNat)++new,by rw [e,List.append_assoc],⟨?_,?_,?_,?_⟩⟩
   ·rw [List.nodup_append];refine ⟨hp.nodup_iff.2 (lY ds us n.kind on n.many.toNat),t.nodup,λa ha b hb e2=>?_⟩;subst e2;have h1:=(t.free a hb).2;unfold cd at h1;rw [Bool.or_eq_false_iff,decide_eq_false_iff_not] at h1;exact h1.2 (hp.mem_iff.1 ha)
   ·intro j hj
    rcases Qi.1 hj with hj|hj
    ·have h1:=gV (hp.mem_iff.1 hj);refine ⟨h1.1,?_⟩;have h2:=h1.2;simp only [fits,Bool.and_eq_true,Bool.not_eq_true'] at h2;exact h2.2
    ·have h1:=t.free j hj;refine ⟨h1.1,?_⟩;have h2:=h1.2;unfold cd at h2;rw [Bool.or_eq_false_iff] at h2;exact h2.1
   ·intro j;rw [t.used j];unfold cd;rw [Bool.or_assoc]
    congr 1
    rw [<- Bool.decide_or];apply decide_eq_decide.2;rw [Qi,hp.mem_iff]
   ·intro k;unfold gL;rw [List.countP_append,hp.countP_eq];have h1:=FY (ds:=ds) (us:=us) (kind:=n.kind) (m:=on) (n:=n.many.toNat) k;unfold gL at h1;rw [h1];have h2:=t.kinds k;unfold gL at h2;have h3:=wn (m:=on) hf;unfold iN;rw [Qq,List.sum_cons];unfold iN at h2
    by_cases hk:n.kind=k
    ·rw [if_pos hk,if_pos hk];omega
    ·rw [if_neg hk,if_neg hk];omega
  ·rw [if_neg hf] at h;exact absurd h hf
theorem wu {α:Type} (l:List α):(l.map λ_=>(0:Int)).sum=0:=by
 induction l with
 | nil=>rfl
 | cons x r ih=>rw [Qq,List.sum_cons,ih];rfl
theorem F8 {ns:List Nd} (hp:ns.Pairwise λa b=>a.kind≠b.kind) (k:ByteArray):iN k ns=(dF ns k).getD 0:=by
 by_cases h:∃ n∈ns,n.kind=k
 ·obtain ⟨n,hn,rfl⟩:=h;unfold dF;rw [wk ns _ n hn hp]
  show iN n.kind ns=n.many
  induction ns with
  | nil=>cases hn
  | cons x r ih=>
   obtain ⟨h1,h2⟩:=List.pairwise_cons.1 hp;unfold iN;rw [Qq,List.sum_cons]
   rcases List.mem_cons.1 hn with rfl|hn
   ·rw [if_pos rfl]
    have:(r.map λy=>if y.kind=n.kind then y.many else 0).sum=0:=by
     have:(r.map λy=>if y.kind=n.kind then y.many else 0)=r.map λ_=>(0:Int):=List.map_congr_left λy hy=>by rw [if_neg λe=>h1 y hy e.symm]
     rw [this];exact wu r
    rw [this];omega
   ·rw [if_neg (h1 n hn)]
    have:=ih h2 hn
    unfold iN at this;rw [this];omega
 ·have h':∀ n∈ns,n.kind≠k:=λn hn e=>h ⟨n,hn,e⟩
  unfold dF;rw [ri ns _ k h'];unfold iN
  have:(ns.map λn=>if n.kind=k then n.many else 0)=ns.map λ_=>(0:Int):=List.map_congr_left λy hy=>by rw [if_neg (h' y hy)]
  rw [this];exact wu ns
def cu (l:List Nat):List Int:=l.map λ(k:Nat)=>(k:Int)
theorem F9 (ds:List Dv) (k:ByteArray) (l:List Nat):cW ds k (cu l)=gL ds k l:=by
 unfold cW gL cu;rw [List.countP_map];rfl
theorem Ga {l:List Nat} {j:Nat}:(j:Int)∈cu l↔j∈l:=by
 unfold cu;rw [Qk];constructor
 ·rintro ⟨x,hx,e⟩;have h:x=j:=by omega
  rw [h] at hx;exact hx
 ·exact λh=>⟨j,h,rfl⟩
theorem rj {l:List Nat} {k:Nat} (h:k<l.length):nth (cu l) k=(l[k]:Int):=by simp [nth,cu,h]
theorem Gb {l:List Int} (h:l.Nodup) {k:Nat} (hk:k<l.length):nth l k ∉ l.take k:=by
 intro hm;have e:nth l k=l[k]:=by simp [nth,hk]
 rw [e] at hm;rw [<- List.take_append_drop k l,List.nodup_append] at h;exact h.2.2 _ hm _ (by rw [List.drop_eq_getElem_cons hk];exact List.mem_cons_self ..) rfl
theorem Gc {l:List Nat} (h:l.Nodup):(cu l).Nodup:=by
 unfold cu;rw [List.nodup_iff_pairwise_ne] at h ⊢;rw [List.pairwise_map];exact h.imp λhne e=>hne (by omega)
theorem wv (l:List Cpu) (F:Nat) (L:Int) (on:Nat):(aN l F L on).2=0\/(aN l F L on).2=1\/(aN l F L on).2=8:=by
 unfold aN
 split
 ·exact .inr (.inl rfl)
 ·split
  ·exact .inr (.inr rfl)
  ·exact .inl rfl
theorem Gd {m:Mc} {s:Sk} {own:Int} {ns:List Nd} (h16:s.ds.length<=16) (hn:∀ n∈ns,n.many≠0) (hp:ns.Pairwise λa b=>a.kind≠b.kind) (h:(bc m s own ns).1=0) :
  dh s (bc m s own ns).2.1 own ns=some ⟨dif s.cp (bc m s own ns).2.1.cp,s.ds,(bc m s own ns).2.2⟩:=by
 unfold bc at h ⊢;dsimp only at h ⊢
 split
 ·rename_i h1;rw [if_pos h1] at h;cases h
 ·rename_i h1
  rw [if_neg h1] at h
  split
  ·rename_i h2;rw [if_pos h2] at h;exfalso;have h4:=wv m.l s.cp own (ae (λc=>(place m (cf m s own ns)).1.1.testBit c.node.toNat) m.l);dsimp only at h;omega
  ·rename_i h2
   rw [if_neg h2] at h
   split
   ·rename_i h3;rw [if_pos h3] at h;exact absurd h h3
   ·rename_i h3
    have hd:(bY s.ds (place m (cf m s own ns)).1.1 ns s.us []).1=0:=by omega
    obtain ⟨new,e,t⟩:=wo h16 _ ns s.us [] hd;have ht:=wm (show (aN m.l s.cp own (ae (λc=>(place m (cf m s own ns)).1.1.testBit c.node.toNat) m.l)).2=0 by omega);generalize (aN m.l s.cp own (ae (λc=>(place m (cf m s own ns)).1.1.testBit c.node.toNat) m.l)).1=cp at *;generalize (bY s.ds (place m (cf m s own ns)).1.1 ns s.us []).2.1=us' at *;rw [e,List.nil_append];have Hc:∀ j∈new,j<16:=λj hj=>by have:=(t.free j hj).1;omega
    have Hb:=lZ Hc t.nodup;have key:dh s (⟨⟨cp,cu (srt new)⟩,own,ns⟩:Cl).g own ns=some (ek s ⟨⟨cp,cu (srt new)⟩,own,ns⟩):=by
     refine (ig (x:=⟨⟨cp,cu (srt new)⟩,own,ns⟩)).2 ⟨⟨ht.1,?_,λk hk=>?_⟩,⟨ht.2,λk hk=>?_⟩,rfl⟩
     ·refine (wj hn).2 λk=>?_
      rw [<- F8 hp,<- t.kinds k]
      show ((gL s.ds k new:Nat):Int)=((cW s.ds k (cu (srt new)):Nat):Int)
      rw [F9];unfold gL;rw [Hb.countP_eq]
     ·have Ha:k<(srt new).length:=by simpa [cu] using hk
      show 0<=nth (cu (srt new)) k/\nth (cu (srt new)) k<(s.ds.length:Int)/\nth (cu (srt new)) k ∉ (cu (srt new)).take k
      refine ⟨?_,?_,Gb (Gc (Hb.nodup_iff.2 t.nodup)) hk⟩
      ·rw [rj Ha];omega
      ·rw [rj Ha]
       have:=(t.free _ (Hb.mem_iff.1 (List.getElem_mem Ha))).1
       omega
     ·have Ha:k<(srt new).length:=by simpa [cu] using hk
      show s.us (nth (cu (srt new)) k).toNat=false
      rw [rj Ha,Int.toNat_natCast];exact (t.free _ (Hb.mem_iff.1 (List.getElem_mem Ha))).2
    have eus:aL s.us (cu (srt new))=us':=by
     funext j
     rw [t.used j];unfold aL
     congr 1
     apply decide_eq_decide.2;rw [Ga,Hb.mem_iff]
    show dh s ⟨cp,cu (srt new)⟩ own ns=some ⟨dif s.cp cp,s.ds,us'⟩
    rw [<- eus];exact key
end Ol
end
section
namespace Ol
open Ost (Cpu ae cnt dif)
open Dvs (Dv dv)
open Qos (Nd Ct Pd ct aA)
open Sv (Gv Hd gv hd)
def oH (cs:List Ct):Prop:=∀ c∈cs,(∀ n∈c.ds,n.many≠0)/\c.ds.Pairwise λa b=>a.kind≠b.kind
def gM (cs:List Ct) (gs:List Gv) (i:Nat):Cl:=⟨gv gs i,aA cs (ct cs i).am,(ct cs i).ds⟩
theorem mA (m:Mc) (s:Sk) (cs:List Ct):∀ k,(bi m s cs k).1=0->(bi m s cs k).2.1.length=k:=by
 intro k
 induction k with
 | zero=>intro _;rfl
 | succ k ih=>
  intro h;rw [bi] at h ⊢
  by_cases h0:(bi m s cs k).1=0
  ·rw [if_pos h0] at h ⊢;unfold jA at h ⊢
   by_cases hg:(bc m (bi m s cs k).2.2 (aA cs (ct cs k).am) (ct cs k).ds).1=0
   ·rw [if_pos hg];rw [Q2,ih h0];rfl
   ·rw [if_neg hg] at h;exact absurd h hg
  ·rw [if_neg h0] at h;exact absurd h h0
theorem rk {m:Mc} {s:Sk} {cs:List Ct} (h16:s.ds.length<=16) (hc:oH cs):∀ k,k<=cs.length->(bi m s cs k).1=0->bS s ((List.range k).map (gM cs (bi m s cs k).2.1))=some (bi m s cs k).2.2/\(bi m s cs k).2.2.ds=s.ds:=by
 intro k
 induction k with
 | zero=>intro _ _;exact ⟨rfl,rfl⟩
 | succ k ih=>
  intro hk h;have hl:=mA m s cs k;rw [bi] at h ⊢
  by_cases h0:(bi m s cs k).1=0
  ·rw [if_pos h0] at h ⊢;obtain ⟨i1,i2⟩:=ih (by omega) h0;have Ha:=hl h0;generalize (bi m s cs k).2.1=gs at *;generalize (bi m s cs k).2.2=s' at *;unfold jA at h ⊢
   by_cases hg:(bc m s' (aA cs (ct cs k).am) (ct cs k).ds).1=0
   ·rw [if_pos hg];have hm:ct cs k∈cs:=Sv.jy (by omega);have Hc:=Gd (m:=m) (s:=s') (own:=aA cs (ct cs k).am) (ns:=(ct cs k).ds) (by rw [i2];exact h16) (hc _ hm).1 (hc _ hm).2 hg;refine ⟨?_,i2⟩;generalize bc m s' (aA cs (ct cs k).am) (ct cs k).ds=g at *;dsimp only;rw [List.range_succ,Qj,mz];have e1:(List.range k).map (gM cs (gs++[g.2.1]))=(List.range k).map (gM cs gs):=by
     refine List.map_congr_left λi hi=>?_
     have Hb:i<gs.length:=by rw [Ha];exact List.mem_range.1 hi
     unfold gM
     congr 1
     simp [gv,List.getElem?_append_left Hb]
    rw [e1,i1,Option.bind_some,List.map_singleton,bS];have e2:gM cs (gs++[g.2.1]) k=⟨g.2.1,aA cs (ct cs k).am,(ct cs k).ds⟩:=by
     unfold gM
     congr 1
     simp [gv,<- Ha]
    rw [e2,Hc];rfl
   ·rw [if_neg hg] at h;exact absurd h hg
  ·rw [if_neg h0] at h;exact absurd h h0
theorem ww {m:Mc} {ds:List Dv} {hs hs':List Hd} {s:Sk} {p:Pd} (hl:left m ds hs=some s) (h16:s.ds.length<=16) (hc:oH p.cs) (hg:(give m s p).1=0) (hp:(hs++[(⟨p,(give m s p).2⟩:Hd)]).Perm hs') :
  left m ds hs'=some (bi m s p.cs p.cs.length).2.2:=by
 refine wh hp (FR hl ?_);have h:=(rk h16 hc p.cs.length (lR) hg).1;have Ha:=mA m s p.cs p.cs.length hg;unfold ii
 show bS s ((List.range (give m s p).2.length).map (gM p.cs (give m s p).2))=_
 have e:(give m s p).2.length=p.cs.length:=Ha;rw [e];exact h
theorem Ge {m:Mc} {ds:List Dv} {hs hs':List Hd} {s:Sk} (h:left m ds hs=some s) (hsub:hs'.Sublist hs):∃ s',left m ds hs'=some s':=by
 obtain ⟨rest,hp⟩:=hsub.exists_perm_append;have h2:=wh hp h;unfold left at h2 ⊢
 split at h2
 ·rename_i h0
  rw [if_pos h0];rw [kg _ _ _ (lR),Qh] at h2 ⊢;rw [gK,List.flatMap_append,mz] at h2;obtain ⟨s1,e1,_⟩:=Option.bind_eq_some_iff.1 h2;exact ⟨s1,e1⟩
 ·cases h2
theorem lg {m:Mc} {ds:List Dv} (h:Dvs.fault ds=0):left m ds []=some ⟨m.op,ds,λ_=>false⟩:=by
 unfold left;rw [if_pos h];rfl
theorem rl {s s':Sk}:∀ {l:List Cl},bS s l=some s'->s'.ds=s.ds:=by
 intro l
 induction l generalizing s with
 | nil=>intro h;injection h with h;rw [h]
 | cons x r ih=>
  intro h;rw [bS] at h;obtain ⟨s1,e1,e2⟩:=Option.bind_eq_some_iff.1 h;rw [ih e2,rh e1]
theorem iO {m:Mc} {ds:List Dv} {hs:List Hd} {s:Sk} (h:left m ds hs=some s):s.ds=ds:=by
 unfold left at h
 split at h
 ·rw [kg _ _ _ (lR),Qh] at h;exact rl h
 ·cases h
end Ol
end
section
namespace Ol
open Ost (Cpu Wi ae cnt dif aN told)
open Dvs (Dv dv fits bx bQ srt cd sel nT gV)
open Qos (Nd Ct Pd ct aA)
open Sv (Gv Hd gv hd)
theorem Gf {ds:List Dv} {us us':Nat->Bool} {kind:ByteArray} {many:Int} (h:∀ j,(dv ds j).kind=kind->us j=us' j):bQ ds us kind many=bQ ds us' kind many:=by
 have e:sel (fits ds us kind) ds.length=sel (fits ds us' kind) ds.length:=nT λj _=>by
  unfold fits
  by_cases hk:(dv ds j).kind=kind
  ·rw [h j hk]
  ·simp [hk]
 unfold bQ;rw [e]
theorem Gg {ds:List Dv} (on on':Nat):∀ (ns:List Nd) (us us':Nat->Bool) (out out':List Nat),ns.Pairwise (λa b=>a.kind≠b.kind)->(∀ n∈ns,∀ j,(dv ds j).kind=n.kind->us j=us' j)->(bY ds on ns us out).1=(bY ds on' ns us' out').1:=by
 intro ns
 induction ns with
 | nil=>intro us us' out out' _ _;rfl
 | cons n r ih=>
  intro us us' out out' hp h;obtain ⟨h1,h2⟩:=List.pairwise_cons.1 hp;have e:=Gf (many:=n.many) (h n (List.mem_cons_self ..));rw [bY,bY,<- e]
  by_cases hf:bQ ds us n.kind n.many=0
  ·rw [if_pos hf,if_pos hf];refine ih _ _ _ _ h2 λx hx j hj=>?_
   have Ha:∀ (u:Nat->Bool) (o:Nat),j ∉ bx ds u n.kind o n.many.toNat:=λu o hm=>by
    have h3:=(gV hm).2;simp only [fits,Bool.and_eq_true,Qp] at h3;exact h1 x hx (h3.1.1.symm.trans hj)
   unfold cd;rw [h x (Qv _ hx) j hj,Q7 (Ha us on),Q7 (Ha us' on')]
  ·rw [if_neg hf,if_neg hf]
theorem Gh (l:List Cpu) (F:Nat) (L:Int) (on on':Nat):(aN l F L on).2=(aN l F L on').2:=by
 unfold aN
 split
 ·rfl
 ·split <;> rfl
theorem Gi {m:Mc} {s:Sk} {own:Int} {ns:List Nd} (hp:ns.Pairwise λa b=>a.kind≠b.kind):(bc m s own ns).1=0↔(place m (cf m s own ns)).2=true/\(aN m.l s.cp own 0).2=0/\(bY s.ds 0 ns s.us []).1=0:=by
 unfold bc;dsimp only;generalize hpl:place m (cf m s own ns)=pl;rw [Gh m.l s.cp own 0 (ae (λc=>pl.1.1.testBit c.node.toNat) m.l),Gg 0 pl.1.1 ns s.us s.us [] [] hp λ_ _ _ _=>rfl];have h4:=wv m.l s.cp own (ae (λc=>pl.1.1.testBit c.node.toNat) m.l)
 by_cases h1:pl.2=false
 ·rw [if_pos h1];constructor
  ·intro h;cases h
  ·intro h;rw [h1] at h;cases h.1
 ·rw [if_neg h1];rw [Bool.not_eq_false] at h1
  by_cases h2:(aN m.l s.cp own (ae (λc=>pl.1.1.testBit c.node.toNat) m.l)).2≠0
  ·rw [if_pos h2];constructor
   ·intro h;dsimp only at h;omega
   ·intro h;exact absurd h.2.1 h2
  ·rw [if_neg h2]
   by_cases h3:(bY s.ds pl.1.1 ns s.us []).1≠0
   ·rw [if_pos h3];constructor
    ·intro h;exact absurd h h3
    ·intro h;exact absurd h.2.2 h3
   ·rw [if_neg h3];exact ⟨λ_=>⟨h1,by omega,by omega⟩,λ_=>rfl⟩
end Ol
end
section
namespace Ol
open Dvs (first cR jY)
open Qos (Pd af leS)
open Sv (Gv Hd gv hd aB g7 dE jx gsF kb)
def cN (a b:ByteArray):Prop:=a.toList<b.toList
theorem mB (a:ByteArray):¬ cN a a:=List.lt_irrefl _
theorem mC {a b c:ByteArray} (h:cN a b) (k:cN b c):cN a c:=List.lt_trans h k
theorem rm {a b:ByteArray} (h:a≠b):cN a b\/cN b a:=by
 unfold cN
 by_cases h1:a.toList<b.toList
 ·exact .inl h1
 ·by_cases h2:b.toList<a.toList
  ·exact .inr h2
  ·exfalso
   have e:a.toList=b.toList:=List.le_antisymm h2 h1;rw [Qs,Qs] at e;exact h (ByteArray.ext (Array.toList_inj.1 e))
theorem rn {a b:ByteArray}:leS a b=false↔cN b a:=by
 unfold leS cN;rw [Go.Proofs.bytesLess_eq,Bool.or_eq_false_iff,decide_eq_false_iff_not,Qr];constructor
 ·rintro ⟨h1,h2⟩
  have:a≠b:=λe=>h2 (by rw [e])
  rcases rm this with h|h
  ·exact absurd h h1
  ·exact h
 ·intro h;exact ⟨λk=>List.lt_irrefl _ (List.lt_trans h k),λe=>by rw [e] at h;exact List.lt_irrefl _ h⟩
def gN (hs:List Hd):Prop:=hs.Pairwise λa b=>cN a.pod.nm b.pod.nm
theorem ro {hs:List Hd} {i:Nat} (h:i+1<hs.length):jx hs (i+1)=false↔cN (hs[i]'(by omega)).pod.nm hs[i+1].pod.nm:=by
 unfold jx;rw [Qc (by omega),Bool.true_and,rn];have e1:hd hs (i+1)=hs[i+1]:=by simp [hd,h]
 have e2:hd hs (i+1 - 1)=hs[i]'(by omega):=by simp [hd,show i<hs.length by omega]
 rw [e1,e2]
theorem rq {hs:List Hd}:gN hs↔∀ i,i<hs.length->jx hs i=false:=by
 constructor
 ·intro h i hi;cases i with
  | zero=>rfl
  | succ i=>exact (ro hi).2 (List.pairwise_iff_getElem.1 h i (i+1) (by omega) hi (by omega))
 ·intro h;have key:∀ d i (hi:i+d+1<hs.length),cN (hs[i]'(by omega)).pod.nm hs[i+d+1].pod.nm:=by
   intro d
   induction d with
   | zero=>intro i hi;exact (ro hi).1 (h _ hi)
   | succ d ih=>
    intro i hi;exact mC (ih i (by omega)) ((ro hi).1 (h _ hi))
  refine List.pairwise_iff_getElem.2 λi j hi hj hij=>?_
  obtain ⟨d,rfl⟩:∃ d,j=i+d+1:=⟨j - i - 1,by omega⟩;exact key d i hj
theorem bO {hs:List Hd}:aB hs=0↔hs.length<=12/\(∀ h∈hs,af h.pod=0/\h.gs.length=h.pod.cs.length/\gsF h.gs=0)/\gN hs:=by
 unfold aB
 by_cases h12:12<hs.length
 ·rw [if_pos h12];exact ⟨λh=>(by cases h),λh=>(by omega)⟩
 ·rw [if_neg h12];have one:∀ (h:Hd) (b:Bool),dE h b=0↔af h.pod=0/\b=false/\h.gs.length=h.pod.cs.length/\gsF h.gs=0:=by
   intro h b;unfold dE
   by_cases h1:af h.pod≠0
   ·rw [if_pos h1];exact ⟨λe=>absurd e h1,λe=>e.1⟩
   ·rw [if_neg h1]
    by_cases h2:b=true\/h.gs.length≠h.pod.cs.length
    ·rw [if_pos h2];refine ⟨λe=>(by cases e),λe=>?_⟩
     rcases h2 with h2|h2
     ·rw [e.2.1] at h2;cases h2
     ·exact absurd e.2.2.1 h2
    ·rw [if_neg h2];have h3:b=false/\h.gs.length=h.pod.cs.length:=⟨Bool.not_eq_true _ ▸ λe=>h2 (.inl e),Qt λe=>h2 (.inr e)⟩;exact ⟨λe=>⟨by omega,h3.1,h3.2,e⟩,λe=>e.2.2.2⟩
  constructor
  ·intro h;have Ha:=cR h;refine ⟨by omega,λx hx=>?_,rq.2 λi hi=>((one _ _).1 (Ha i hi)).2.1⟩;obtain ⟨k,hk,rfl⟩:=Sv.oy hx
   have:=(one _ _).1 (Ha k hk)
   exact ⟨this.1,this.2.2.1,this.2.2.2⟩
  ·rintro ⟨_,h1,h2⟩;refine jY λk hk=>?_
   have:=h1 _ (kb hk)
   exact (one _ _).2 ⟨this.1,rq.1 h2 k hk,this.2.1,this.2.2⟩
def b8 (hs:List Hd) (nm:ByteArray):Nat:=hs.countP λh=>decide (h.pod.nm.toList<nm.toList)
def bB (hs:List Hd) (x:Hd):List Hd:=hs.take (b8 hs x.pod.nm)++x :: hs.drop (b8 hs x.pod.nm)
theorem insert_perm (hs:List Hd) (x:Hd):(hs++[x]).Perm (bB hs x):=by
 unfold bB;have h1:(hs++[x]).Perm (x :: hs):=List.perm_append_singleton x hs;have h2:(x :: hs).Perm (x :: (hs.take (b8 hs x.pod.nm)++hs.drop (b8 hs x.pod.nm))):=by rw [List.take_append_drop]
 exact h1.trans (h2.trans List.perm_middle.symm)
theorem Gj {hs:List Hd} (h:gN hs) (nm:ByteArray):(∀ y∈hs.take (b8 hs nm),cN y.pod.nm nm)/\∀ y∈hs.drop (b8 hs nm),¬ cN y.pod.nm nm:=by
 induction hs with
 | nil=>exact ⟨λy hy=>by simp [b8] at hy,λy hy=>by simp [b8] at hy⟩
 | cons x r ih=>
  obtain ⟨h1,h2⟩:=List.pairwise_cons.1 h;obtain ⟨i1,i2⟩:=ih h2
  by_cases hx:x.pod.nm.toList<nm.toList
  ·have e:b8 (x :: r) nm=b8 r nm+1:=by unfold b8;rw [List.countP_cons_of_pos (by simpa using hx)]
   rw [e,List.take_succ_cons,List.drop_succ_cons];refine ⟨λy hy=>?_,i2⟩
   rcases List.mem_cons.1 hy with rfl|hy
   ·exact hx
   ·exact i1 y hy
  ·have hr:∀ y∈r,¬ cN y.pod.nm nm:=λy hy hn=>hx (mC (h1 y hy) hn)
   have e:b8 (x :: r) nm=0:=by
    unfold b8;rw [List.countP_eq_zero];intro y hy
    rcases List.mem_cons.1 hy with rfl|hy
    ·simpa using hx
    ·have:=hr y hy;unfold cN at this;simpa using this
   rw [e];refine ⟨λy hy=>by simp at hy,λy hy=>?_⟩;rw [List.drop_zero] at hy
   rcases List.mem_cons.1 hy with rfl|hy
   ·exact hx
   ·exact hr y hy
theorem wy {hs:List Hd} {x:Hd} (h:gN hs) (hn:∀ y∈hs,y.pod.nm≠x.pod.nm):gN (bB hs x):=by
 obtain ⟨h1,h2⟩:=Gj h x.pod.nm;have Ha:=h;unfold gN bB at *;rw [<- List.take_append_drop (b8 hs x.pod.nm) hs,List.pairwise_append] at Ha;obtain ⟨p1,p2,p3⟩:=Ha;have Hb:∀ y∈hs.drop (b8 hs x.pod.nm),cN x.pod.nm y.pod.nm:=λy hy=>by
  rcases rm (hn y (List.mem_of_mem_drop hy)) with k|k
  ·exact absurd k (h2 y hy)
  ·exact k
 rw [List.pairwise_append,List.pairwise_cons];refine ⟨p1,⟨Hb,p2⟩,λa ha b hb=>?_⟩
 rcases List.mem_cons.1 hb with rfl|hb
 ·exact h1 a ha
 ·exact p3 a ha b hb
end Ol
end
section
namespace Ol
open Ost (Cpu)
open Dvs (Dv dv first cR jY srt qb kR jn)
open Qos (Nd Ct Pd nd ct af leS ee bX aA)
open Sv (Gv Hd gv hd aB gsF ce eE aF)
theorem Gk {new:List Nat}:ce (cu (srt new))=0:=by
 have Hb:(cu (srt new)).length=(srt new).length:=by simp [cu]
 have Hc:(srt new).length<=16:=kR _ 16;unfold ce;rw [if_neg (by omega)];refine jY λk hk=>?_
 have Ha:k<(srt new).length:=by omega
 have e:∀ i (hi:i<(srt new).length),(cu (srt new)).getD i 0=((srt new)[i]:Int):=λi hi=>by simp [cu,hi]
 unfold eE;rw [if_neg];rw [e k Ha];have h1:(srt new)[k]<16:=(jn.1 (List.getElem_mem Ha)).1;intro h
 rcases h with h|h|⟨h0,h⟩
 ·omega
 ·omega
 ·rw [e (k - 1) (by omega)] at h
  have:=List.pairwise_iff_getElem.1 (qb (λj=>decide (j∈new)) 16) (k - 1) k (by show k - 1<(srt new).length;omega) Ha (by omega)
  have h2:(srt new)[k - 1]<(srt new)[k]:=this;omega
theorem Gl {m:Mc} {s:Sk} {own:Int} {ns:List Nd}:ce (bc m s own ns).2.1.dv=0:=by
 unfold bc;dsimp only
 split
 ·rfl
 ·split
  ·rfl
  ·split
   ·rfl
   ·exact Gk
theorem rr {m:Mc} {s:Sk} {cs:List Ct}:∀ k,∀ g∈(bi m s cs k).2.1,ce g.dv=0:=by
 intro k
 induction k with
 | zero=>intro g hg;cases hg
 | succ k ih=>
  rw [bi]
  split
  ·unfold jA
   split
   ·intro g hg
    rcases Qi.1 hg with hg|hg
    ·exact ih g hg
    ·rw [Qm.1 hg];exact Gl
   ·intro g hg;cases hg
  ·exact ih
theorem rt {gs:List Gv} (h:∀ g∈gs,ce g.dv=0):gsF gs=0:=jY λ_ hk=>h _ (Sv.oz hk)
theorem Gm {ds:List Nd} (h:first (ee ds) ds.length=0):(∀ n∈ds,n.many≠0)/\ds.Pairwise λa b=>a.kind≠b.kind:=by
 have ha:=cR h;have facts:∀ k,k<ds.length->1<=(nd ds k).many/\(0<k->leS (nd ds k).kind (nd ds (k - 1)).kind=false):=λk hk=>by
  have:=ha k hk
  unfold ee at this
  split at this
  ·cases this
  ·rename_i h1
   split at this
   ·cases this
   ·rename_i h2
    refine ⟨by omega,λh0=>?_⟩;cases e:leS (nd ds k).kind (nd ds (k - 1)).kind with
    | false=>rfl
    | true=>exact absurd (.inr ⟨h0,e⟩) h1
 constructor
 ·intro n hn;obtain ⟨k,hk,rfl⟩:=Sv.vD hn
  have:=(facts k hk).1
  omega
 ·have e:∀ i (hi:i<ds.length),nd ds i=ds[i]:=λi hi=>by simp [nd,hi]
  have key:∀ d i (hi:i+d+1<ds.length),cN (ds[i]'(by omega)).kind ds[i+d+1].kind:=by
   intro d
   induction d with
   | zero=>
    intro i hi
    have:=rn.1 ((facts (i+1) hi).2 (by omega))
    rw [e (i+1) hi,show i+1 - 1=i by omega,e i (by omega)] at this;exact this
   | succ d ih=>
    intro i hi
    have:=rn.1 ((facts (i+(d+1)+1) hi).2 (by omega))
    rw [e _ hi,show i+(d+1)+1 - 1=i+d+1 by omega,e (i+d+1) (by omega)] at this;exact mC (ih i (by omega)) this
  refine List.pairwise_iff_getElem.2 λi j hi hj hij heq=>?_
  obtain ⟨d,rfl⟩:∃ d,j=i+d+1:=⟨j - i - 1,by omega⟩
  have:=key d i hj
  rw [heq] at this;exact mB _ this
theorem lh {p:Pd} (h:af p=0):oH p.cs:=by
 intro c hc;obtain ⟨k,hk,rfl⟩:=Sv.vE hc;unfold af at h
 split at h
 ·cases h
 ·split at h
  ·cases h
  ·split at h
   ·cases h
   ·have:=cR h k hk
    unfold bX at this
    repeat' (split at this;· cases this)
    exact Gm this
structure St where
 m:Mc
 ds:List Dv
 hs:List Hd
structure Inv (t:St):Prop where
 devs:Dvs.fault t.ds=0
 held:aB t.hs=0
 left:∃ s,left t.m t.ds t.hs=some s
open Classical in
noncomputable def aR (t:St) (p:Pd):Nat × List Hd:=
 if af p≠0 then (af p,t.hs) else
 if ∃ h∈t.hs,h.pod.nm=p.nm then (5,t.hs) else
 if 12<=t.hs.length then (2,t.hs) else
 if room t.m (t.hs.map Hd.pod++[p])=false then (7,t.hs) else
 if (give t.m ((left t.m t.ds t.hs).getD ⟨0,[],λ_=>false⟩) p).1≠0 then ((give t.m ((left t.m t.ds t.hs).getD ⟨0,[],λ_=>false⟩) p).1,t.hs) else
 if 6000<(aF (bB t.hs ⟨p,(give t.m ((left t.m t.ds t.hs).getD ⟨0,[],λ_=>false⟩) p).2⟩)).length then (2,t.hs) else
 (0,bB t.hs ⟨p,(give t.m ((left t.m t.ds t.hs).getD ⟨0,[],λ_=>false⟩) p).2⟩)
theorem Gn {t:St} (h:Inv t) (p:Pd):Inv { t with hs:=(aR t p).2 }:=by
 unfold aR;obtain ⟨s,hs⟩:=h.left;rw [hs,Option.getD_some]
 split
 ·exact h
 rename_i h1
 split
 ·exact h
 rename_i h2
 split
 ·exact h
 rename_i h3
 split
 ·exact h
 split
 ·exact h
 rename_i h5
 split
 ·exact h
 have hp:af p=0:=by omega
 have hg:(give t.m s p).1=0:=by omega
 have Hc:s.ds.length<=16:=by rw [iO hs];exact (Dvs.gW h.devs).1
 obtain ⟨a1,a2,a3⟩:=bO.1 h.held;have Hb:(give t.m s p).2.length=p.cs.length:=mA t.m s p.cs p.cs.length hg;have Ha:=insert_perm t.hs ⟨p,(give t.m s p).2⟩;refine ⟨h.devs,bO.2 ⟨?_,λx hx=>?_,wy a3 λy hy e=>h2 ⟨y,hy,e⟩⟩,⟨_,ww hs Hc (lh hp) hg Ha⟩⟩
 ·show (bB t.hs ⟨p,(give t.m s p).2⟩).length<=12
  rw [<- Ha.length_eq,Q2,List.length_singleton];omega
 ·rcases Qi.1 (Ha.mem_iff.2 hx) with hx|hx
  ·exact a2 x hx
  ·rw [Qm.1 hx];exact ⟨hp,Hb,rt (rr p.cs.length)⟩
end Ol
end
section
namespace Ol
open Dvs (Dv dv)
open Qos (Nd Ct Pd ct af aA)
open Sv (Gv Hd gv hd aB aF body OkL OkH)
theorem Gq {h:Hd} (hf:aB [h]=0) (hc:∀ g∈h.gs,g.cp<18446744073709551616) (h1:h.pod.cs.length=1):(aF [h]).length<=6000:=by
 have ok:OkL [h]:=Sv.qK hf (λx hx g hg=>by rw [Qm.1 hx] at hg;exact hc g hg);have oh:OkH h:=ok.2 h (Qm.2 rfl);have a:=Sv.qN oh.1;have b:=Sv.qO oh 1 (by omega);have c:=Sv.mr (body [h]);have e:body [h]=[]++(Sv.fV h.pod++Sv.dR h h.pod.cs.length):=rfl;have e2:(body [h]).length=(Sv.fV h.pod).length+(Sv.dR h 1).length:=by rw [e,h1];simp
 have d:aF [h]=body [h]++Sv.cV (body [h]):=rfl;rw [d,Q2];omega
theorem wA {a b:Nat} (h:a &&& b=a) (hb:b<18446744073709551616):a<18446744073709551616:=by
 rw [<- h];exact Nat.lt_of_le_of_lt Nat.and_le_right hb
end Ol
end
section
namespace Ol
open Ost (Cpu ae cnt dif aN aI)
open Dvs (Dv dv)
open Qos (Nd Ct Pd ct af aA aO sumTo ef)
open Sv (Gv Hd gv hd aB)
def owns (l:List Cl):Int:=(l.map Cl.own).sum
theorem wB:∀ {l:List Cl} {s s':Sk},bS s l=some s'->(cnt s'.cp:Int)+owns l=cnt s.cp/\(s'.cp &&& s.cp=s'.cp):=by
 intro l
 induction l with
 | nil=>intro s s' h;injection h with h;subst h;exact ⟨by simp [owns],Nat.and_self _⟩
 | cons x r ih=>
  intro s s' h;rw [bS] at h;obtain ⟨s1,e1,e2⟩:=Option.bind_eq_some_iff.1 h;obtain ⟨a1,a2⟩:=ih e2;obtain ⟨b1,b2,rfl⟩:=ig.1 e1;have hd:=Ost.qo b2.1;have hx:=b1.1;have e3:(ek s x).cp=dif s.cp x.g.cp:=rfl;rw [e3] at a1 a2;refine ⟨?_,?_⟩
  ·unfold owns at a1 ⊢;rw [Qq,List.sum_cons];omega
  ·apply Nat.eq_of_testBit_eq;intro i;have e:=congrArg (λn=>Nat.testBit n i) a2;simp only [Nat.testBit_and,Ost.e7] at e ⊢;cases h1:s'.cp.testBit i <;> cases h2:s.cp.testBit i <;> simp_all
theorem wD (a b:List Cl):owns (a++b)=owns a+owns b:=by unfold owns;rw [Qj,List.sum_append]
theorem ru {cs:List Ct} {am:Int} (h:0<=am):0<=aA cs am/\1000*aA cs am<=am:=by
 unfold aA
 split <;> omega
def fW (cs:List Ct):Nat->Int
 | 0=>0
 | k+1=>fW cs k+aA cs (ct cs k).am
theorem wE {cs:List Ct} (h:∀ c∈cs,0<=c.am):∀ k,k<=cs.length->0<=fW cs k/\1000*fW cs k<=aO cs k:=by
 intro k
 induction k with
 | zero=>intro _;exact ⟨Int.le_refl _,Int.le_refl _⟩
 | succ k ih=>
  intro hk;have h1:=ih (by omega);have h2:=ru (cs:=cs) (h _ (Sv.jy (show k<cs.length by omega)));have e:aO cs (k+1)=aO cs k+(ct cs k).am:=rfl;rw [fW,e];omega
theorem Gr {cs:List Ct} (h:∀ c∈cs,0<=c.am) {k n:Nat} (hk:k<=n) (hn:n<=cs.length):fW cs k<=fW cs n:=by
 induction n with
 | zero=>
  obtain rfl:k=0:=by omega
  exact Int.le_refl _
 | succ n ih=>
  by_cases e:k=n+1
  ·rw [e];exact Int.le_refl _
  ·have h1:=ih (by omega) (by omega);have h2:=ru (cs:=cs) (h _ (Sv.jy (show n<cs.length by omega)));rw [fW];omega
theorem wF (cs:List Ct) (gs:List Gv):∀ k,owns ((List.range k).map (gM cs gs))=fW cs k:=by
 intro k
 induction k with
 | zero=>rfl
 | succ k ih=>
  rw [List.range_succ,Qj,wD,ih,fW]
  simp [owns,gM]
theorem Gs {h:Hd} (hl:h.gs.length=h.pod.cs.length):owns (ii h)=fW h.pod.cs h.pod.cs.length:=by
 unfold ii;rw [hl];exact wF h.pod.cs h.gs h.pod.cs.length
theorem oI {p:Pd} (h:af p=0):∀ c∈p.cs,0<=c.am:=λc hc=>(((Sv.fD h).2.2.2) c hc).2.1.1
theorem Gt {hs:List Hd} (h:∀ x∈hs,af x.pod=0/\x.gs.length=x.pod.cs.length):0<=owns (gK hs)/\1000*owns (gK hs)<=aY (hs.map Hd.pod):=by
 induction hs with
 | nil=>exact ⟨Int.le_refl _,Int.le_refl _⟩
 | cons x r ih=>
  have h1:=ih λy hy=>h y (Qv _ hy)
  have h2:=h x (List.mem_cons_self ..);have h3:=wE (oI h2.1) x.pod.cs.length (lR);have e1:gK (x :: r)=ii x++gK r:=rfl;rw [e1,wD,Gs h2.2];have e2:aY ((x :: r).map Hd.pod)=aO x.pod.cs x.pod.cs.length+aY (r.map Hd.pod):=by unfold aY;simp
  rw [e2];omega
theorem Gu (a b:List Pd):aY (a++b)=aY a+aY b:=by unfold aY;rw [Qj,List.sum_append]
theorem Gw {m:Mc} {ds:List Dv} {hs:List Hd} {s:Sk} (h:left m ds hs=some s):(cnt s.cp:Int)+owns (gK hs)=cnt m.op/\s.cp &&& m.op=s.cp:=by
 unfold left at h
 split at h
 ·rw [kg _ _ _ (lR),Qh] at h;exact wB h
 ·cases h
theorem Gx {l:List Cpu} {F:Nat} {L:Int} {on:Nat} (h0:0<=L) (h64:cnt F<=64) (hc:L<=cnt F) (hin:F &&& ae (λ_=>true) l=F):(aN l F L on).2=0:=by
 rw [Ost.uW on h0 (by omega) hin hc]
theorem Gy {m:Mc} {ds:List Dv} {hs:List Hd} {s:Sk} {p:Pd} (hpol:m.pol=0) (hop:m.op &&& ae (λ_=>true) m.l=m.op) (h64:∀ A:Nat,cnt A<=64) (hl:left m ds hs=some s) (hdl:ds.length<=16) (hh:∀ x∈hs,af x.pod=0/\x.gs.length=x.pod.cs.length) (hp:af p=0)
  (hno:∀ c∈p.cs,c.ds=[]) (hr:room m (hs.map Hd.pod++[p])=true):(give m s p).1=0:=by
 obtain ⟨c1,c2⟩:=Gw hl;obtain ⟨o1,o2⟩:=Gt hh;have Ha:aY (hs.map Hd.pod++[p])<=1000*(cnt m.op:Int):=by
  unfold room at hr;rw [Bool.and_eq_true,Qp] at hr;exact hr.1
 rw [Gu] at Ha;have e1:aY [p]=aO p.cs p.cs.length:=by unfold aY;simp
 rw [e1] at Ha;have Hk:=wE (oI hp) p.cs.length (lR);have Hh:fW p.cs p.cs.length<=cnt s.cp:=by omega
 have Hf:s.ds.length<=16:=by rw [iO hl];exact hdl
 have Hg:s.cp &&& ae (λ_=>true) m.l=s.cp:=by
  rw [<- c2,Nat.and_assoc,hop]
 have key:∀ k,k<=p.cs.length->(bi m s p.cs k).1=0:=by
  intro k
  induction k with
  | zero=>intro _;rfl
  | succ k ih=>
   intro hk;have h0:=ih (by omega);obtain ⟨g1,g2⟩:=rk (m:=m) Hf (lh hp) k (by omega) h0;obtain ⟨d1,d2⟩:=wB g1;rw [wF] at d1;rw [bi,if_pos h0];generalize (bi m s p.cs k).2.1=gs at *;generalize (bi m s p.cs k).2.2=s' at *;have hm:ct p.cs k∈p.cs:=Sv.jy (by omega);have Hi:=hno _ hm;have Hc:=Gr (oI hp) (k:=k+1) (n:=p.cs.length) hk (lR);have He:=ru (cs:=p.cs) (oI hp _ hm);rw [fW] at Hc;have Hb:s'.cp &&& ae (λ_=>true) m.l=s'.cp:=by rw [<- d2,Nat.and_assoc,Hg]
   have Hj:(bc m s' (aA p.cs (ct p.cs k).am) (ct p.cs k).ds).1=0:=by
    rw [Hi,Gi List.Pairwise.nil];refine ⟨?_,Gx He.1 (h64 _) (by omega) Hb,rfl⟩;unfold place;rw [if_pos hpol]
   unfold jA;rw [if_pos Hj]
 exact key p.cs.length (lR)
end Ol
end
section
namespace Ol
open Qos (Pd af)
open Sv (Gv Hd aB)
def eQ (hs:List Hd) (nm:ByteArray):List Hd:=hs.filter λh=>decide (h.pod.nm≠nm)
theorem Gz {hs:List Hd} {x:Hd} (hn:∀ y∈hs,y.pod.nm≠x.pod.nm):eQ (bB hs x) x.pod.nm=hs:=by
 unfold eQ bB;rw [List.filter_append,List.filter_cons_of_neg (by simp)];have h1:(hs.take (b8 hs x.pod.nm)).filter (λh=>decide (h.pod.nm≠x.pod.nm))=hs.take (b8 hs x.pod.nm):=List.filter_eq_self.2 λy hy=>by simpa using hn y (List.mem_of_mem_take hy)
 have h2:(hs.drop (b8 hs x.pod.nm)).filter (λh=>decide (h.pod.nm≠x.pod.nm))=hs.drop (b8 hs x.pod.nm):=List.filter_eq_self.2 λy hy=>by simpa using hn y (List.mem_of_mem_drop hy)
 rw [h1,h2,List.take_append_drop]
theorem wG (hs:List Hd) (nm:ByteArray):(eQ hs nm).Sublist hs:=List.filter_sublist
theorem rx {hs hs':List Hd} (h:aB hs=0) (hs2:hs'.Sublist hs):aB hs'=0:=by
 obtain ⟨a,b,c⟩:=bO.1 h;exact bO.2 ⟨Q5 hs2.length_le a,λx hx=>b x (hs2.subset hx),List.Pairwise.sublist hs2 c⟩
theorem wH {t:St} {p:Pd} (h:(aR t p).1=0):eQ (aR t p).2 p.nm=t.hs:=by
 unfold aR at h ⊢
 split
 ·rename_i h1;rw [if_pos h1] at h;exact absurd h h1
 ·rename_i h1
  rw [if_neg h1] at h
  split
  ·rename_i h2;rw [if_pos h2] at h;cases h
  ·rename_i h2
   rw [if_neg h2] at h
   split
   ·rename_i h3;rw [if_pos h3] at h;cases h
   ·rename_i h3
    rw [if_neg h3] at h
    split
    ·rename_i h4;rw [if_pos h4] at h;cases h
    ·rename_i h4
     rw [if_neg h4] at h
     split
     ·rename_i h5;rw [if_pos h5] at h;exact absurd h h5
     ·rename_i h5
      rw [if_neg h5] at h
      split
      ·rename_i h6;rw [if_pos h6] at h;cases h
      ·exact Gz (x:=⟨p,_⟩) λy hy e=>h2 ⟨y,hy,e⟩
end Ol
end
section
namespace Ol
open Qos (Nd Ct Pd ct af bX gF)
open Sv (Gv Hd gv hd aB)
section
variable {α β:Type} (nm:α->β)
theorem wI {l:List α} (h:(l.map nm).Nodup) {a b:α} (ha:a∈l) (hb:b∈l) (e:nm a=nm b):a=b:=by
 obtain ⟨i,hi,rfl⟩:=List.getElem_of_mem ha;obtain ⟨j,hj,rfl⟩:=List.getElem_of_mem hb;have h2:=h;unfold List.Nodup at h2;rw [List.pairwise_map,List.pairwise_iff_getElem] at h2
 have:i=j:=by
  rcases Nat.lt_trichotomy i j with k|k|k
  ·exact absurd e (h2 i j hi hj k)
  ·exact k
  ·exact absurd e.symm (h2 j i hj hi k)
 subst this;rfl
theorem mD {l:List α} (h:(l.map nm).Nodup):l.Nodup:=by
 unfold List.Nodup at *;rw [List.pairwise_map] at h;exact h.imp λhab e=>hab (by rw [e])
theorem GA {runs wanted:List α} {k:Nat} (hk:k<runs.length) (hd:(runs.map nm).Nodup) (hw:runs[k] ∉ wanted) (a:α):(a∈runs/\(a∈wanted\/a∈runs.drop (k+1)))↔(a∈runs/\(a∈wanted\/a∈runs.drop k))/\nm a≠nm runs[k]:=by
 have e:runs.drop k=runs[k] :: runs.drop (k+1):=List.drop_eq_getElem_cons hk;have Ha:runs.Nodup:=mD nm hd;constructor
 ·rintro ⟨h1,h2⟩;refine ⟨⟨h1,h2.imp id λh=>by rw [e];exact Qv _ h⟩,λen=>?_⟩;have ea:=wI nm hd h1 (List.getElem_mem hk) en;subst ea
  rcases h2 with h2|h2
  ·exact hw h2
  ·have:=(Ha.sublist (List.drop_sublist k runs))
   rw [e] at this;exact (List.nodup_cons.1 this).1 h2
 ·rintro ⟨⟨h1,h2⟩,h3⟩;refine ⟨h1,h2.imp id λh=>?_⟩;rw [e] at h
  rcases List.mem_cons.1 h with rfl|h
  ·exact absurd rfl h3
  ·exact h
theorem GB {runs wanted:List α} {k:Nat} (hk:k<runs.length) (hw:runs[k]∈wanted) (a:α):(a∈runs/\(a∈wanted\/a∈runs.drop (k+1)))↔(a∈runs/\(a∈wanted\/a∈runs.drop k)):=by
 have e:runs.drop k=runs[k] :: runs.drop (k+1):=List.drop_eq_getElem_cons hk;rw [e];constructor
 ·rintro ⟨h1,h2⟩;exact ⟨h1,h2.imp id λh=>Qv _ h⟩
 ·rintro ⟨h1,h2⟩;refine ⟨h1,?_⟩
  rcases h2 with h2|h2
  ·exact .inl h2
  ·rcases List.mem_cons.1 h2 with rfl|h2
   ·exact .inl hw
   ·exact .inr h2
theorem GC {runs wanted:List α} (a:α):(a∈runs/\(a∈wanted\/a∈runs.drop runs.length))↔(a∈wanted/\(a∈runs\/a∈wanted.take 0)):=by
 simp [and_comm]
theorem wJ {runs wanted:List α} {k:Nat} (hk:k<wanted.length) (a:α):(a∈wanted/\(a∈runs\/a∈wanted.take (k+1)))↔(a∈wanted/\(a∈runs\/a∈wanted.take k))\/a=wanted[k]:=by
 rw [Qa hk,Qi,Qm];constructor
 ·rintro ⟨h1,h2|h2|h2⟩
  ·exact .inl ⟨h1,.inl h2⟩
  ·exact .inl ⟨h1,.inr h2⟩
  ·exact .inr h2
 ·rintro (⟨h1,h2⟩|rfl)
  ·exact ⟨h1,h2.imp id .inl⟩
  ·exact ⟨List.getElem_mem hk,.inr (.inr rfl)⟩
theorem GD {runs wanted:List α} {k:Nat} (hk:k<wanted.length) (hw:wanted[k]∈runs) (a:α):(a∈wanted/\(a∈runs\/a∈wanted.take (k+1)))↔(a∈wanted/\(a∈runs\/a∈wanted.take k)):=by
 rw [wJ hk];constructor
 ·rintro (h|rfl)
  ·exact h
  ·exact ⟨List.getElem_mem hk,.inl hw⟩
 ·exact .inl
theorem GE {runs wanted:List α} {k:Nat} (hk:k<wanted.length) (hd:(wanted.map nm).Nodup) (hw:wanted[k] ∉ runs) (a:α) (h:a∈wanted/\(a∈runs\/a∈wanted.take k)):nm a≠nm wanted[k]:=by
 intro en;have ea:=wI nm hd h.1 (List.getElem_mem hk) en;subst ea
 rcases h.2 with h2|h2
 ·exact hw h2
 ·have Ha:wanted.Nodup:=mD nm hd
  have:=(Ha.sublist (List.take_sublist (k+1) wanted))
  rw [Qa hk,List.nodup_append] at this;exact this.2.2 _ h2 _ (Qm.2 rfl) rfl
theorem step_end {runs wanted:List α} (a:α):(a∈wanted/\(a∈runs\/a∈wanted.take wanted.length))↔a∈wanted:=by
 rw [Qh];exact ⟨λh=>h.1,λh=>⟨h,.inr h⟩⟩
end
theorem ry {xs:List Int} (h:Sv.ce xs=0):xs.length<=16:=by
 unfold Sv.ce at h
 split at h
 ·cases h
 ·omega
theorem GF {p:Pd} (h:af p=0) {i j:Nat} (hj:j<p.cs.length) (hij:i<j):(ct p.cs i).nm≠(ct p.cs j).nm:=by
 obtain ⟨_,_,_,h4⟩:=Qos.mh h
 have:=Dvs.cR h4 j hj
 unfold bX at this
 split at this
 ·cases this
 ·split at this
  ·cases this
  ·rename_i h2
   intro e;refine h2 ?_;unfold gF;rw [List.any_eq_true];refine ⟨ct p.cs i,?_,Qc e⟩;have hi:i<p.cs.length:=by omega
   rw [List.mem_take_iff_getElem];exact ⟨i,by omega,by simp [ct,hi]⟩
end Ol
end
