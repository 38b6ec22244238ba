import Derived.Test.YtbmmnflgnmjboaaGreatDoorK8
import Derived.Test.YtbmmnflgnmjboaaGreatDoorK6
import Derived.Test.YtbmmnflgnmjboaaGreatDoorK10
import Derived.Shelf.Spec.SlicesInsertGrow
set_option maxRecDepth 100000
set_option maxHeartbeats 16000000
namespace Go.Proofs.YtbmmnflgnmjboaaGreatDoor
section
namespace Ol
open Ost (Cpu N4 Wi Hi af cnt dif aN told eB)
open Dvs (Dv dv fits bD cn bA bP srt b8 clF bF first)
open Qos (Nd Ct Pd ct aH aU aV ah)
open Sv (Gv Hd gv hd)
structure Mc where
 l:List Cpu
 op:Nat
 nd:Nat
 nb:Int
 pol:Int
structure Sk where
 cp:Nat
 ds:List Dv
 us:Nat->Bool
def onNode (A:Nat) (l:List Cpu) (x:Nat):Nat:=((List.range l.length).filter λk=>A.testBit k && decide ((l.getD k Ost.ae).node=(x:Int))).length
def bv (A:Nat) (l:List Cpu):N4:=⟨onNode A l 0,onNode A l 1,onNode A l 2,onNode A l 3⟩
def ip (p:Nat->Bool) (ds:List Dv):N4:=⟨cn p ds 0 ds.length,cn p ds 1 ds.length,cn p ds 2 ds.length,cn p ds 3 ds.length⟩
def bY (free all:N4) (nd:Nat) (many:Int):Wi:=if many<=0 then ⟨true,[]⟩ else ⟨false,eB free all nd many⟩
def ce (m:Mc) (s:Sk) (own:Int) (ns:List Nd):List Wi:=
 bY (bv s.cp m.l) (bv m.op m.l) m.nd own :: ns.map λn=>bY (ip (fits s.ds s.us n.kind) s.ds) (ip (bD s.ds n.kind) s.ds) m.nd n.many
def place (m:Mc) (ws:List Wi):Hi × Bool:=if m.pol=0 then ((m.nd,true),true) else (told m.pol m.nd ws,(told m.pol m.nd ws).2 || decide (m.pol=1))
def bR (ds:List Dv) (on:Nat):List Nd->(Nat->Bool)->List Nat->Nat × (Nat->Bool) × List Nat
 | [],us,out=>(0,us,out)
 | n :: r,us,out=>if bP ds us n.kind n.many=0 then bR ds on r (b8 us (bA ds us n.kind on n.many.toNat)) (out++srt (bA ds us n.kind on n.many.toNat)) else (bP ds us n.kind n.many,us,out)
def aY (m:Mc) (s:Sk) (own:Int) (ns:List Nd):Nat × Gv × (Nat->Bool):=
 let p:=place m (ce m s own ns)
 if p.2=false then (10,⟨0,[]⟩,s.us) else
 let t:=aN m.l s.cp own (af (λc=>p.1.1.testBit c.node.toNat) m.l)
 if t.2≠0 then (t.2.toNat,⟨0,[]⟩,s.us) else
 let d:=bR s.ds p.1.1 ns s.us []
 if d.1≠0 then (d.1,⟨0,[]⟩,d.2.1) else (0,⟨t.1,(srt d.2.2).map λ(k:Nat)=>(k:Int)⟩,d.2.1)
def iq (m:Mc) (cs:List Ct) (k:Nat) (gs:List Gv) (s:Sk):Nat × List Gv × Sk:=
 if (aY m s (aH cs (ct cs k).am) (ct cs k).ds).1=0 then (0,gs++[(aY m s (aH cs (ct cs k).am) (ct cs k).ds).2.1],⟨dif s.cp (aY m s (aH cs (ct cs k).am) (ct cs k).ds).2.1.cp,s.ds,(aY m s (aH cs (ct cs k).am) (ct cs k).ds).2.2⟩)
 else ((aY m s (aH cs (ct cs k).am) (ct cs k).ds).1,[],⟨s.cp,s.ds,(aY m s (aH cs (ct cs k).am) (ct cs k).ds).2.2⟩)
def a6 (m:Mc) (s:Sk) (cs:List Ct):Nat->Nat × List Gv × Sk
 | 0=>(0,[],s)
 | k+1=>
  if (a6 m s cs k).1=0 then iq m cs k (a6 m s cs k).2.1 (a6 m s cs k).2.2 else a6 m s cs k
def give (m:Mc) (s:Sk) (p:Pd):Nat × List Gv:=((a6 m s p.cs p.cs.length).1,(a6 m s p.cs p.cs.length).2.1)
def cH (m:ByteArray->Option Int) (k:ByteArray) (v:Option Int):ByteArray->Option Int:=λx=>if x=k then v else m x
def dx (ns:List Nd):ByteArray->Option Int:=ns.foldl (λm n=>cH m n.kind (some n.many)) λ_=>none
def cR (ds:List Dv) (m:ByteArray->Option Int) (j:Int):ByteArray->Option Int:=
 let k:=(dv ds j.toNat).kind
 let v:=(m k).getD 0 - 1
 cH m k (if v=0 then none else some v)
def gr (ds:List Dv) (l:List Int) (ns:List Nd):Prop:=∀ k,l.foldl (cR ds) (dx ns) k=none
open Classical in
noncomputable def cS (s:Sk) (g:Gv) (own:Int) (ns:List Nd):Option Sk:=
 if g.cp &&& s.cp=g.cp/\(cnt g.cp:Int)=own/\first (clF s.ds.length s.us g.dv) g.dv.length=0 then
  if gr s.ds g.dv ns then some ⟨dif s.cp g.cp,s.ds,bF s.us g.dv⟩ else none
 else none
noncomputable def gu (s:Sk) (h:Hd):Nat->Option Sk
 | 0=>some s
 | k+1=>(gu s h k).bind λs'=>cS s' (gv h.gs k) (aH h.pod.cs (ct h.pod.cs k).am) (ct h.pod.cs k).ds
noncomputable def cE (s:Sk) (hs:List Hd):Nat->Option Sk
 | 0=>some s
 | k+1=>(cE s hs k).bind λs'=>gu s' (hd hs k) (hd hs k).gs.length
noncomputable def left (m:Mc) (ds:List Dv) (hs:List Hd):Option Sk:=if Dvs.fault ds=0 then cE ⟨m.op,ds,λ_=>false⟩ hs hs.length else none
def bN (ps:List Pd):Int:=(ps.map λp=>aU p.cs p.cs.length).sum
def cT (ps:List Pd):Int:=(ps.map λp=>aV p.cs p.cs.length).sum
def room (m:Mc) (ps:List Pd):Bool:=decide (bN ps<=1000*(cnt m.op:Int)) && decide (cT ps<=m.nb)
end Ol
end
section
open RowKit
open Qos (Nd Ct Pd nd ct pd)
open Sv (Gv Hd gv hd)
structure aB (W W':World):Prop where
 size:W.heap.size<=W'.heap.size
 cell:∀ (b o:Nat) (v:Value),W.cell? ⟨b,o,none⟩=some v->W'.cell? ⟨b,o,none⟩=some v
theorem aB.refl (W:World):aB W W:=⟨lR,λ_ _ _ h=>h⟩
theorem aB.trans {A B C:World} (h:aB A B) (k:aB B C):aB A C:=⟨Q5 h.size k.size,λb o v e=>k.cell b o v (h.cell b o v e)⟩
theorem aB.of_below {W W':World} (h:Below W.heap.size W W'):aB W W':=
 ⟨h.size,λb o _ e=>(h.cell (p:=⟨b,o,none⟩) (Q3 W ⟨b,o,none⟩ e)).trans e⟩
theorem bj.le {W W':World} {v:Value} {xs:List Int} (h:bj W v xs) (l:aB W W'):bj W' v xs:=by
 obtain ⟨ao,c,hv,hc,hr⟩:=h;refine ⟨ao,c,hv,hc,λh0=>?_⟩;obtain ⟨b,o,ha,hlt,hcs⟩:=hr h0;exact ⟨b,o,ha,Q1 hlt l.size,λk hk=>l.cell _ _ _ (hcs k hk)⟩
theorem bc.le {W W':World} {v:Value} {ds:List Nd} (h:bc W v ds) (l:aB W W'):bc W' v ds:=by
 obtain ⟨ao,c,hv,hc,hr⟩:=h;refine ⟨ao,c,hv,hc,λh0=>?_⟩;obtain ⟨b,o,ha,hlt,hcs⟩:=hr h0;exact ⟨b,o,ha,Q1 hlt l.size,λk hk=>⟨l.cell _ _ _ (hcs k hk).1,l.cell _ _ _ (hcs k hk).2⟩⟩
theorem aE.le {W W':World} {v:Value} {cs:List Ct} (h:aE W v cs) (l:aB W W'):aE W' v cs:=by
 obtain ⟨ao,c,hv,hc,hr⟩:=h;refine ⟨ao,c,hv,hc,λh0=>?_⟩;obtain ⟨b,o,dv,ha,hlt,hcs⟩:=hr h0;refine ⟨b,o,dv,ha,Q1 hlt l.size,λk hk=>⟨λj hj=>?_,(hcs k hk).2.le l⟩⟩;have h6:j<(b9 (ct cs k) (dv k)).length:=hj;rw [Qf h6];exact l.cell _ _ _ (((hcs k hk).1 j hj).trans (Qf h6))
theorem bl.le {W W':World} {v:Value} {gs:List Gv} (h:bl W v gs) (l:aB W W'):bl W' v gs:=by
 obtain ⟨ao,c,hv,hc,hr⟩:=h;refine ⟨ao,c,hv,hc,λh0=>?_⟩;obtain ⟨b,o,dv,ha,hlt,hcs⟩:=hr h0;exact ⟨b,o,dv,ha,Q1 hlt l.size,λk hk=>⟨⟨l.cell _ _ _ (hcs k hk).1.1,l.cell _ _ _ (hcs k hk).1.2.1,(hcs k hk).1.2.2⟩,(hcs k hk).2.le l⟩⟩
theorem aM.le {W W':World} {v:Value} {hs:List Hd} (h:aM W v hs) (l:aB W W'):aM W' v hs:=by
 obtain ⟨ao,c,hv,hc,hr⟩:=h;refine ⟨ao,c,hv,hc,λh0=>?_⟩;obtain ⟨b,o,cv,gvv,ha,hlt,hcs⟩:=hr h0;exact ⟨b,o,cv,gvv,ha,Q1 hlt l.size,λk hk=>⟨⟨l.cell _ _ _ (hcs k hk).1.1,l.cell _ _ _ (hcs k hk).1.2.1,l.cell _ _ _ (hcs k hk).1.2.2.1,l.cell _ _ _ (hcs k hk).1.2.2.2⟩,(hcs k hk).2.1.le l,(hcs k hk).2.2.le l⟩⟩
open Classical in
noncomputable def ag (M:Nat->Prop) (W:World):World:={ W with heap:=W.heap.mapIdx λj o=>if M j then .cells #[] 0 (0,0) else o }
theorem bw (M:Nat->Prop) (W:World):(ag M W).heap.size=W.heap.size:=by simp [ag]
theorem DZ {M:Nat->Prop} {W:World} {j:Nat} (h:M j) (hl:j<W.heap.size):(ag M W).heap[j]?=some (.cells #[] 0 (0,0)):=by
 simp [ag,Array.getElem?_mapIdx,Array.getElem?_eq_getElem hl,h]
theorem bH {M:Nat->Prop} {W:World} {j:Nat} (h:¬ M j):(ag M W).heap[j]?=W.heap[j]?:=by
 simp only [ag,Array.getElem?_mapIdx];cases W.heap[j]? with
 | none=>rfl
 | some o=>simp [h]
theorem dV {M:Nat->Prop} {W:World} {b o:Nat} {v:Value} (h:(ag M W).cell? ⟨b,o,none⟩=some v):¬ M b:=λhm=>by
 have hl:=Q3 _ ⟨b,o,none⟩ h;have hl2:b<W.heap.size:=by rw [bw] at hl;exact hl
 simp [World.cell?,DZ hm hl2] at h
theorem kX {M M':Nat->Prop} {W W':World} (h:Apart M W W') (hm:∀ j,j<W.heap.size->M' j->M j):aB (ag M W) (ag M' W'):=by
 refine ⟨by rw [bw,bw];exact h.size,λb o v e=>?_⟩;have hb:=dV e;have hl:b<W.heap.size:=by have:=Q3 _ ⟨b,o,none⟩ e;rw [bw] at this;exact this
 have e1:(ag M' W').heap[b]?=(ag M W).heap[b]?:=by
  rw [bH (λk=>hb (hm b hl k)),bH hb];exact h.block b hl hb
 exact (World.cell?_of_block (a:=⟨b,o,none⟩) e1).trans e
theorem ci (M:Nat->Prop) (W:World):aB (ag M W) W:=by
 refine ⟨by rw [bw];exact lR,λb o v e=>?_⟩;exact (World.cell?_of_block (a:=⟨b,o,none⟩) (bH (dV e)).symm).trans e
theorem kY {M:Nat->Prop} {N:Nat} {w W:World} (h:Below N w W) (hN:w.heap.size=N) (hM:∀ j,M j->N<=j):aB w (ag M W):=by
 refine ⟨by rw [bw];exact h.size,λb o v e=>?_⟩;have hl:b<N:=by rw [<- hN];exact Q3 w ⟨b,o,none⟩ e
 have e1:(ag M W).heap[b]?=w.heap[b]?:=by
  rw [bH (λk=>by have:=hM b k;omega)];exact h.block b hl
 exact (World.cell?_of_block (a:=⟨b,o,none⟩) e1).trans e
end
section
open RowKit Shelf
open Ost (dD)
open Qos (Nd Ct Pd nd ct pd)
open Sv (Gv Hd gv hd wd)
open S1 (Mx)
attribute [local go_sem] Oper.semAt_some
def LE (W:World) (base:Nat) (v:Value) (hs:List Hd):Prop:=(hs=[]/\v=.slice none 0 0)\/∃ el la,DW W base v el la/\hs=(el++[la]).map Hp.hd
theorem D0:(Tryz.prog.info? 57).map (λi=>(i.zero,i.size,i.bytes))=some (some (.agg #[.string ByteArray.empty,.int .i64 0,.slice none 0 0,.slice none 0 0]),4,72):=by kernel_rfl
end
section
open RowKit Shelf
open Qos (Nd Ct Pd nd ct pd)
open Sv (Gv Hd gv hd wd Tx cQ aF az body kT)
open S1 (Mx)
namespace Sv
def D1:Tx:=[115,117,109,32]
def mD (t:Tx):Int:=Lib.lastIndex t D1
def D2 (t:Tx):Option Tx:=if 0<=mD t then if t.drop (mD t).toNat=cQ (t.take (mD t).toNat) then some (t.take (mD t).toNat) else none else none
end Sv
end
section
open RowKit Shelf
open Qos (Nd Ct Pd nd ct pd)
open Sv (Gv Hd gv hd)
attribute [local go_sem] Oper.semAt_some
def dy (x:Pd × Value):List Value:=[.string x.1.nm,.int .i64 x.1.pr,x.2]
def rowP (l:List (Pd × Value)):List Value:=l.flatMap dy
theorem mE (l:List (Pd × Value)) (p:Pd × Value):rowP (l++[p])=rowP l++dy p:=by simp [rowP]
def tI (W:World) (base:Nat) (v:Value) (ps:List Pd):Prop:=∃ l:List (Pd × Value),l.map Prod.fst=ps/\W.ownsRow base 47 3 v l.length (rowP l)/\∀ x∈l,aE W x.2 x.1.cs
theorem pi:(Tryz.prog.info? 47).map (λi=>(i.zero,i.size,i.bytes))=some (some (.agg #[.string ByteArray.empty,.int .i64 0,.slice none 0 0]),3,48):=by kernel_rfl
theorem mF (w:World) (nm:ByteArray) (pr:Int) (cv:Value) (t:TypeId):∀ j u,(dy (⟨nm,pr,[]⟩,cv))[j]?=some u->(w.alloc (.cells #[.string nm,.int .i64 pr,cv] t)).cell? ((⟨w.heap.size,0,none⟩:Addr).add j)=some u:=by
 intro j u hu;rw [Addr.add_lit,Qd]
 match j,hu with
 | 0,hu=>simp [dy] at hu;subst hu;simp
 | 1,hu=>simp [dy] at hu;subst hu;simp
 | 2,hu=>simp [dy] at hu;subst hu;simp
 | j+3,hu=>simp [dy] at hu
theorem mG (nm:ByteArray) (pr:Int) (a:Option Addr) (n c:Nat):∀ u∈dy (⟨nm,pr,[]⟩,.slice a n c),u.oneCell'=true:=by
 intro u hu
 simp [dy] at hu
 rcases hu with rfl|rfl|rfl <;> rfl
theorem tJ (v:Value) (hs:List Hd) (w:World) (h:aM w v hs) (hl:hs.length<=100):Calls Tryz.prog 51 #[v] w λe w'=>∃ v',e=.returned v'/\tI w' w.heap.size v' (hs.map Hd.pod)/\Below w.heap.size w w':=by
 obtain ⟨i0,hi,hz0,hz1,hz2⟩:=info_parts pi;obtain ⟨ao,c,rfl,hm,hr⟩:=h;unfold maxLen at hm;have HR:=qI hr;clear hr
 go_enter Tryz.func51,Tryz.ntmps51
 go_wp2
 go_loopw [3,8] (λpv i wr=>∃ (k:Nat) (l:List (Pd × Value)),k<=hs.length/\i=.int .i64 k/\l.length=k/\l.map Prod.fst=(hs.take k).map Hd.pod/\wr.ownsRow w.heap.size 47 3 pv l.length (rowP l)/\(∀ x∈l,aE w x.2 x.1.cs)/\Below w.heap.size w wr) (λ_ i _=>hs.length - (intOf i).toNat)
 case atStart=>exact ⟨0,[],by omega,rfl,rfl,rfl,Qw _ _ _ _,λx hx=>(List.not_mem_nil hx).elim,Q0 _ _⟩
 case round=>
  obtain ⟨k,l,hk,rfl,hlk,hmap,hrow,hcs,hb⟩:=hrel;have HLK:=qI hlk;have HMAP:=qI hmap;have HCS:=qI hcs;have HB:=qI hb;have hln:l.length<=100:=by omega
  have hsz:=hb.size;clear hlk hmap hcs
  by_cases hlt:k<hs.length
  ·obtain ⟨b,o,cv,gvv,rfl,hin⟩:=HR.out (by omega);obtain ⟨x0,x1,x2,x3⟩:=((hin.below hb).2 k hlt).1;have hcon:=(hin.2 k hlt).2.1;have HTK:Hid ((hs.take (k+1)).map Hd.pod=(hs.take k).map Hd.pod++[(hd hs k).pod]):=by
    unfold Hid;rw [Qa hlt,Qj];simp [hd,hlt]
   have HCON:=qI hcon;obtain ⟨ca,cc,hcv,_,_⟩:=id hcon;rw [hcv] at x2 HCON;obtain ⟨ga,gc,hgv,_,_⟩:=id (hin.2 k hlt).2.2;rw [hgv] at x3;clear hin hcon hb hcv hgv;generalize hd hs k=x at *;obtain ⟨⟨xn,xp,xc⟩,xg⟩:=x;dsimp only at x0 x1 x2 x3 HCON HTK;obtain ⟨va,vc,hv⟩:=gO hrow;subst hv;have hA:=(Q0 wr.heap.size wr).alloc (lR) (.cells #[.string xn,.int .i64 xp,.slice ca xc.length cc,.slice ga xg.length gc] 57);have hrow2:=hrow.alloc (.cells #[.string xn,.int .i64 xp,.slice ca xc.length cc,.slice ga xg.length gc] 57);have HBA:=qI (HB.out.trans (hA.mono HB.out.size));have hsA:w.heap.size<=(wr.alloc (.cells #[.string xn,.int .i64 xp,.slice ca xc.length cc,.slice ga xg.length gc] 57)).heap.size:=by simp;omega
   have hnew:=mF (wr.alloc (.cells #[.string xn,.int .i64 xp,.slice ca xc.length cc,.slice ga xg.length gc] 57)) xn xp (.slice ca xc.length cc) 47;rw [show (wr.alloc (.cells #[.string xn,.int .i64 xp,.slice ca xc.length cc,.slice ga xg.length gc] 57)).heap.size=wr.heap.size+1 by simp] at hnew;have HNW:=qI hnew;have hbs:w.heap.size<=((wr.alloc (.cells #[.string xn,.int .i64 xp,.slice ca xc.length cc,.slice ga xg.length gc] 57)).alloc (.cells #[.string xn,.int .i64 xp,.slice ca xc.length cc] 47)).heap.size:=by simp;omega
   clear hA hnew hrow
   go_wp2_with (at_builtin;refine wpList_append_own _ rfl _ _ 70 rfl w.heap.size 47 i0 _ 3 48 Tryz.underlying70 hi hz0 hz1 hz2 rfl (by decide) _ _ _ rfl (hrow2.alloc _) ⟨_,0,none⟩ 1 1 (dy (⟨xn,xp,[]⟩,.slice ca xc.length cc)) rfl rfl HNW.out (mG xn xp ca xc.length cc) (by unfold maxLen;omega) (by omega) hbs ?_;intro v' W2 hown' hgrow' _)
   go_roundw
   case rel=>
    refine ⟨k+1,l++[(⟨xn,xp,xc⟩,.slice ca xc.length cc)],by omega,by go_num,by rw [Q2,HLK.out];rfl,by rw [Qj,HMAP.out,HTK.out];rfl,?_,λy hy=>?_,?_⟩
    ·rw [mE,Q2];exact hown'
    ·rcases Qi.1 hy with hy|hy
     ·exact HCS.out y hy
     ·rw [Qm.1 hy];exact HCON.out
    ·exact (HBA.out.alloc hsA _).grown hgrow' (by simp;omega) (λj hj=>(hrow2.lt j hj).1)
   case measure=>simp [intOf];omega
  ·have hke:k=hs.length:=by omega
   have HE:Hid (l.map Prod.fst=hs.map Hd.pod):=by unfold Hid;rw [HMAP.out,hke,Qh]
   clear hke
   go_wp2
   go_ret;exact ⟨_,rfl,⟨l,HE.out,hrow,λx hx=>(HCS.out x hx).below HB.out⟩,HB.out⟩
end
section
open RowKit Shelf Go.Lib
attribute [local go_sem] Oper.semAt_some
theorem D3:(Tryz.prog.info? 57).map (λi=>(i.zero,i.size,i.bytes))=some (some (.agg #[.string ByteArray.empty,.int .i64 0,.slice none 0 0,.slice none 0 0]),4,72):=by kernel_rfl
theorem D4:(Tryz.prog.info? 57).map (·.size)=some 4:=by kernel_rfl
theorem mH (w:World) (ty:TypeId) (b o dLen dCap:Nat) (a:Addr) (sLen sCap:Nat) (cs:List Value) (hn:cs.length=Nat.min sLen dLen*4)
  (hsrc:∀ j v,cs[j]?=some v->w.cell? (a.add j)=some v) (hc:∀ j,j<cs.length->(w.cell? ⟨b,o+j,none⟩).isSome=true) (hf:∀ j,j<cs.length->w.frozen? ⟨b,o+j,none⟩=false) (h1:∀ v∈cs,v.oneCell'=true) :
  (Builtin.copy_ #[53,53] ty #[.slice (some ⟨b,o,none⟩) dLen dCap,.slice (some a) sLen sCap]).run Tryz.prog w=.ok (goInt (Nat.min sLen dLen)) (w.setCells b o cs):=by
 have hl:=run_loadCells_list (P:=Tryz.prog) w a cs hsrc;have hst:=run_storeCells_cells (P:=Tryz.prog) b o cs 0 w (by simpa using hc) (by simpa using hf) h1;have hs:=D4;cases hq:Tryz.prog.info? 57 with
 | none=>rw [hq] at hs;cases hs
 | some i=>
  have hi:i.size=4:=by rw [hq] at hs;simpa using hs
  rw [hn] at hl
  simp [Builtin.copy_,run_underlying Tryz.underlying53,Builtin.lenOf,Builtin.firstCells,sizeOf,typeInfo,hq,hi,hl,hst]
theorem D5 (b n c i vb voff vc:Nat) (cs vs:List Value) (w:World) (hi:i<n) (hroom:n+1<=c) (hc63:c<=9223372036854775807) (hvb:vb≠b)
  (hcl:cs.length=n*4) (hvl:vs.length=4)
  (hcs:∀ j v,cs[j]?=some v->w.cell? ⟨b,j,none⟩=some v) (hsp:∀ j,j<(n+1)*4->(w.cell? ⟨b,j,none⟩).isSome=true) (hfz:∀ j,w.frozen? ⟨b,j,none⟩=false)
  (hvs:∀ j v,vs[j]?=some v->w.cell? ⟨vb,voff+j,none⟩=some v) (h1c:∀ v∈cs,v.oneCell'=true) (h1v:∀ v∈vs,v.oneCell'=true)
  (tA tB:TypeId) (kA kB:Nat) (hsa:w.shape? vb=some (tA,kA)) (hsb:w.shape? b=some (tB,kB)) (hkB:kB≠0) (hfa:w.frozen? ⟨vb,voff,none⟩=false) (hfe:w.frozen? ⟨vb,kA,none⟩=false) :
  Calls Tryz.prog 54 #[.slice (some ⟨b,0,none⟩) n c,.int .i64 i,.slice (some ⟨vb,voff,none⟩) 1 vc] w λe w'=>
   e=.returned (.slice (some ⟨b,0,none⟩) (n+1) c)/\w'=(w.drew.setCells b ((i+1)*4) (cs.drop (i*4))).setCells b (i*4) vs:=by
 have hz2:¬ ((i:Int)=(n:Int)):=by omega
 have hov:∀ lb cb,(callFunc 95 #[.slice (some ⟨vb,voff,none⟩) 1 vc,.slice (some ⟨b,(i+1)*4,none⟩) lb cb]).run Tryz.prog w=.ok (.value (.bool false)) w:=λlb cb=>by
  rw [run_callFunc_extern Tryz.func95 (by kernel_rfl) (by kernel_rfl) (by kernel_rfl) (e:=Extern.SlicesOverlaps.overlaps #[53,53] #[4]) (by kernel_rfl),
   Lib.run_overlaps_apart w 53 4 57 Tryz.underlying53 4 Tryz.sizeOf57 ⟨vb,voff,none⟩ ⟨b,(i+1)*4,none⟩ 1 vc lb cb hvb tA tB kA kB hsa hsb hkB hfa hfe]
  rfl
 have hdl:(cs.drop (i*4)).length=(n - i)*4:=by rw [List.length_drop,hcl];omega
 have hcp1:∀ ty dc sc,(Builtin.copy_ #[53,53] ty #[.slice (some ⟨b,(i+1)*4,none⟩) (n - i) dc,.slice (some ⟨b,i*4,none⟩) (n+1 - i) sc]).run Tryz.prog w.drew=.ok (goInt (Nat.min (n+1 - i) (n - i))) (w.drew.setCells b ((i+1)*4) (cs.drop (i*4))):=λty dc sc=>
  mH w.drew ty b ((i+1)*4) (n - i) dc ⟨b,i*4,none⟩ (n+1 - i) sc (cs.drop (i*4)) (by rw [hdl];simp only [Nat.min_def];split <;> omega)
   (λj v hj=>by rw [Addr.add_lit];exact hcs (i*4+j) v (by rwa [List.getElem?_drop] at hj))
   (λj hj=>hsp _ (by omega)) (λj hj=>hfz _) (λv hv=>h1c v (List.mem_of_mem_drop hv))
 obtain ⟨W1,hW1⟩:∃ W1,W1=w.drew.setCells b ((i+1)*4) (cs.drop (i*4)):=⟨_,rfl⟩;have hsp1:∀ k,k<(n+1)*4->(W1.cell? ⟨b,k,none⟩).isSome=true:=λk hk=>by
  rw [hW1];exact isSome_setCells b (cs.drop (i*4)) ((i+1)*4) w.drew (λj hj=>hsp _ (by rw [hdl] at hj;omega)) k (hsp k hk)
 have hcp2:∀ (W:World),(∀ x,W.cell? x=W1.cell? x)->(∀ x,W.frozen? x=W1.frozen? x)->∀ ty dc,(Builtin.copy_ #[53,53] ty #[.slice (some ⟨b,i*4,none⟩) (n+1 - i) dc,.slice (some ⟨vb,voff,none⟩) 1 vc]).run Tryz.prog W=.ok (goInt (Nat.min 1 (n+1 - i))) (W.setCells b (i*4) vs):=λW hWc hWf ty dc=>
  mH W ty b (i*4) (n+1 - i) dc ⟨vb,voff,none⟩ 1 vc vs (by rw [hvl];simp only [Nat.min_def];split <;> omega)
   (λj v hj=>by
    rw [Addr.add_lit,hWc,hW1,World.cell?_setCells_out b _ _ _ _ (λh _=>absurd h hvb)];exact hvs j v hj)
   (λj hj=>by rw [hWc];exact hsp1 _ (by omega)) (λj hj=>by rw [hWf,hW1,World.frozen?_setCells];exact hfz _) h1v
 rw [<- hW1] at hcp1;have hin:i<=n:=by omega
 have htn:((i:Int)+1).toNat=i+1:=by omega
 have hb2:¬ (c=i+1):=by omega
 have hb3:(i:Int)<=(n:Int)+1:=by omega
 have hb4:¬ (c=i):=by omega
 have mixed:Tryz.prog.follows .mixedOrders=true:=by kernel_rfl
 have hw1:IntKind.i64.wrap ((i:Int)+1)=(i:Int)+1:=by rw [IntKind.wrap_i64];omega
 have hb1:(0:Int)<=(i:Int)+1:=by omega
 have hb5:(i:Int)+1<=(n:Int)+1:=by omega
 clear hcs hsp hvs hsp1 hdl hcl
 go_enter Tryz.func54,Tryz.ntmps54
 go_wp2_with (simp only [hov])
 go_region_law_o (refine step_copy_runI rfl _ _ 53 53 rfl _ _ (by simp [Act.eval,Act.put]) (by simp [Act.eval,Act.put]) (hcp1 _ _ _) ?_)
 go_wp2_with (at_builtin;refine wpList_copy_runI _ rfl _ _ 53 53 rfl _ _ rfl rfl (hcp2 _ (λ_=>rfl) (λ_=>rfl) _ _) ?_)
 go_ret
 first|exact ⟨rfl,rfl⟩|exact ⟨rfl,by rw [hW1]⟩
end
section
namespace Ol
open Ost (Cpu af cnt dif)
open Dvs (Dv dv clF bF first nth cO jj)
open Qos (Nd Ct Pd ct aH)
open Sv (Gv Hd gv hd)
structure Cl where
 g:Gv
 own:Int
 ns:List Nd
def j3 (ds:List Dv) (x:Cl):Prop:=(cnt x.g.cp:Int)=x.own/\gr ds x.g.dv x.ns/\(∀ k,k<x.g.dv.length->0<=nth x.g.dv k/\nth x.g.dv k<ds.length/\nth x.g.dv k ∉ x.g.dv.take k)
def kZ (s:Sk) (x:Cl):Prop:=x.g.cp &&& s.cp=x.g.cp/\∀ k,k<x.g.dv.length->s.us (nth x.g.dv k).toNat=false
def ey (s:Sk) (x:Cl):Sk:=⟨dif s.cp x.g.cp,s.ds,bF s.us x.g.dv⟩
theorem pj {n:Nat} {us:Nat->Bool} {l:List Int} {k:Nat}:clF n us l k=0↔(0<=nth l k/\nth l k<n/\nth l k ∉ l.take k)/\us (nth l k).toNat=false:=by
 unfold clF
 by_cases h1:nth l k<0\/(n:Int)<=nth l k
 ·rw [if_pos h1];constructor
  ·intro h;cases h
  ·rintro ⟨⟨a,b,_⟩,_⟩;omega
 ·rw [if_neg h1]
  by_cases h2:(us (nth l k).toNat || decide (nth l k∈l.take k))=true
  ·rw [if_pos h2];constructor
   ·intro h;cases h
   ·rintro ⟨⟨_,_,c⟩,d⟩;rw [d,Bool.false_or,Qp] at h2;exact absurd h2 c
  ·rw [if_neg h2];rw [Bool.not_eq_true,Bool.or_eq_false_iff,decide_eq_false_iff_not] at h2;exact ⟨λ_=>⟨⟨by omega,by omega,h2.2⟩,h2.1⟩,λ_=>rfl⟩
theorem gw {s s':Sk} {x:Cl}:cS s x.g x.own x.ns=some s'↔j3 s.ds x/\kZ s x/\s'=ey s x:=by
 unfold cS
 by_cases h:x.g.cp &&& s.cp=x.g.cp/\(cnt x.g.cp:Int)=x.own/\first (clF s.ds.length s.us x.g.dv) x.g.dv.length=0
 ·rw [if_pos h];obtain ⟨h1,h2,h3⟩:=h;have h4:=cO h3
  by_cases hj:gr s.ds x.g.dv x.ns
  ·rw [if_pos hj];constructor
   ·intro e;injection e with e
    exact ⟨⟨h2,hj,λk hk=>(pj.1 (h4 k hk)).1⟩,⟨h1,λk hk=>(pj.1 (h4 k hk)).2⟩,e.symm⟩
   ·rintro ⟨_,_,rfl⟩;rfl
  ·rw [if_neg hj];exact ⟨λe=>(by cases e),λe=>absurd e.1.2.1 hj⟩
 ·rw [if_neg h];constructor
  ·intro e;cases e
  ·rintro ⟨⟨a,b,c⟩,⟨d,e⟩,_⟩;exact absurd ⟨d,a,jj λk hk=>pj.2 ⟨c k hk,e k hk⟩⟩ h
theorem D6 {l:List Int} {k:Nat} (h:k<l.length):nth l k∈l:=by simp [nth,h]
theorem D7 {l:List Int} {x:Int} (h:x∈l):∃ k,k<l.length/\nth l k=x:=by
 obtain ⟨k,hk,e⟩:=List.getElem_of_mem h;exact ⟨k,hk,by simp [nth,hk,e]⟩
theorem tK {us:Nat->Bool} {l:List Int} {j:Nat}:bF us l j=false↔us j=false/\(j:Int) ∉ l:=by
 unfold bF;simp
theorem D8 {s:Sk} {x y:Cl} (hx:j3 s.ds x) (hy:j3 s.ds y) (h1:kZ s x) (h2:kZ (ey s x) y):kZ s y/\kZ (ey s y) x:=by
 have hb:∀ i,y.g.cp.testBit i=true->s.cp.testBit i=true/\x.g.cp.testBit i=false:=λi hi=>by
  have e:=congrArg (λn=>Nat.testBit n i) h2.1;simp only [ey,Nat.testBit_and,Ost.eQ,hi,Bool.true_and] at e;cases hs:s.cp.testBit i <;> cases hx:x.g.cp.testBit i <;> simp_all
 have hxb:∀ i,x.g.cp.testBit i=true->s.cp.testBit i=true:=λi hi=>by
  have e:=congrArg (λn=>Nat.testBit n i) h1.1
  simpa [Nat.testBit_and,hi] using e
 have hd:∀ k,k<y.g.dv.length->s.us (nth y.g.dv k).toNat=false/\nth y.g.dv k ∉ x.g.dv:=λk hk=>by
  have e:=tK.1 (h2.2 k hk);have h0:=(hy.2.2 k hk).1;rw [Int.toNat_of_nonneg h0] at e;exact e
 refine ⟨⟨?_,λk hk=>(hd k hk).1⟩,?_,λk hk=>?_⟩
 ·apply Nat.eq_of_testBit_eq;intro i;rw [Nat.testBit_and];cases hi:y.g.cp.testBit i with
  | false=>rfl
  | true=>rw [(hb i hi).1];rfl
 ·apply Nat.eq_of_testBit_eq;intro i;simp only [ey,Nat.testBit_and,Ost.eQ];cases hi:x.g.cp.testBit i with
  | false=>rfl
  | true=>
   rw [hxb i hi];cases hj:y.g.cp.testBit i with
   | false=>rfl
   | true=>rw [(hb i hj).2] at hi;cases hi
 ·refine tK.2 ⟨h1.2 k hk,λhm=>?_⟩;have h0:=(hx.2.2 k hk).1;rw [Int.toNat_of_nonneg h0] at hm;obtain ⟨j,hj,e⟩:=D7 hm;exact (hd j hj).2 (by rw [e];exact D6 hk)
theorem D9 (s:Sk) (x y:Cl):ey (ey s x) y=ey (ey s y) x:=by
 unfold ey
 congr 1
 ·apply Nat.eq_of_testBit_eq;intro i;simp only [Ost.eQ];cases s.cp.testBit i <;> cases x.g.cp.testBit i <;> cases y.g.cp.testBit i <;> rfl
 ·funext j
  unfold bF;rw [Bool.or_assoc,Bool.or_assoc,Bool.or_comm (decide _) (decide _)]
noncomputable def bI (s:Sk):List Cl->Option Sk
 | []=>some s
 | x :: r=>(cS s x.g x.own x.ns).bind λs'=>bI s' r
theorem k9 (a b:List Cl):∀ s,bI s (a++b)=(bI s a).bind λs'=>bI s' b:=by
 induction a with
 | nil=>intro s;rfl
 | cons x r ih=>
  intro s;rw [List.cons_append,bI,bI,Option.bind_assoc]
  congr 1
  funext s'
  exact ih s'
theorem mI {s s':Sk} {x:Cl} (h:cS s x.g x.own x.ns=some s'):s'.ds=s.ds:=by
 rw [(gw.1 h).2.2];rfl
theorem Ea {a b:List Cl} (h:a.Perm b):∀ {s s':Sk},bI s a=some s'->bI s b=some s':=by
 induction h with
 | nil=>intro s s' e;exact e
 | cons x _ ih=>
  intro s s' e;rw [bI] at e ⊢;obtain ⟨s1,h1,h2⟩:=Option.bind_eq_some_iff.1 e;rw [h1,Option.bind_some];exact ih h2
 | swap x y l=>
  intro s s' e;rw [bI] at e;obtain ⟨s1,h1,h2⟩:=Option.bind_eq_some_iff.1 e;rw [bI] at h2;obtain ⟨s2,h3,h4⟩:=Option.bind_eq_some_iff.1 h2;obtain ⟨a1,a2,rfl⟩:=gw.1 h1;obtain ⟨b1,b2,rfl⟩:=gw.1 h3;obtain ⟨c1,c2⟩:=D8 a1 b1 a2 b2;have d1:cS s x.g x.own x.ns=some (ey s x):=gw.2 ⟨b1,c1,rfl⟩;have d2:cS (ey s x) y.g y.own y.ns=some (ey (ey s x) y):=gw.2 ⟨a1,c2,rfl⟩;rw [bI,d1,Option.bind_some,bI,d2,Option.bind_some,D9];exact h4
 | trans _ _ ih1 ih2=>intro s s' e;exact ih2 (ih1 e)
def gP (h:Hd):List Cl:=(List.range h.gs.length).map λk=>⟨gv h.gs k,aH h.pod.cs (ct h.pod.cs k).am,(ct h.pod.cs k).ds⟩
def fH (hs:List Hd):List Cl:=hs.flatMap gP
theorem Eb (h:Hd) (s:Sk):∀ k,gu s h k=bI s ((List.range k).map λk=>⟨gv h.gs k,aH h.pod.cs (ct h.pod.cs k).am,(ct h.pod.cs k).ds⟩):=by
 intro k
 induction k with
 | zero=>rfl
 | succ k ih=>
  rw [gu,ih,List.range_succ,Qj,k9]
  congr 1
  funext s'
  rw [List.map_singleton,bI];cases cS s' (gv h.gs k) (aH h.pod.cs (ct h.pod.cs k).am) (ct h.pod.cs k).ds <;> rfl
theorem iV (hs:List Hd) (s:Sk):∀ k,k<=hs.length->cE s hs k=bI s (fH (hs.take k)):=by
 intro k
 induction k with
 | zero=>intro _;rfl
 | succ k ih=>
  intro hk;have hk':k<hs.length:=hk;rw [cE,ih (by omega),Qa hk']
  show _=bI s ((hs.take k++[hs[k]]).flatMap gP)
  rw [List.flatMap_append,k9]
  show (bI s (fH (hs.take k))).bind _=(bI s (fH (hs.take k))).bind _
  congr 1
  funext s'
  rw [Eb];have e:hd hs k=hs[k]:=by simp [hd,hk']
  rw [e]
  simp [gP]
theorem tL {m:Mc} {ds:List Dv} {hs hs':List Hd} {s:Sk} (hp:hs.Perm hs') (h:left m ds hs=some s):left m ds hs'=some s:=by
 unfold left at h ⊢
 split at h
 ·rename_i h0
  rw [if_pos h0];rw [iV _ _ _ (lR),Qh] at h ⊢;exact Ea (hp.flatMap_right gP) h
 ·cases h
theorem Ec {m:Mc} {ds:List Dv} {hs:List Hd} {x:Hd} {s s':Sk} (h:left m ds hs=some s) (h2:bI s (gP x)=some s'):left m ds (hs++[x])=some s':=by
 unfold left at h ⊢
 split at h
 ·rename_i h0
  rw [if_pos h0];rw [iV _ _ _ (lR),Qh] at h ⊢;rw [fH,List.flatMap_append,k9];have h':bI ⟨m.op,ds,λ_=>false⟩ (hs.flatMap gP)=some s:=h;rw [h',Option.bind_some]
  simpa using h2
 ·cases h
end Ol
end
section
open RowKit Shelf
attribute [local go_sem] Oper.semAt_some
theorem tM (a:Option Addr) (n c:Nat) (w:World):Sem.run Tryz.prog (binOp .eql 61 (.slice a n c) (.slice none 0 0)) w=.ok (.bool a.isNone) w:=Lib.run_eql_slice_nil w _ _ a n c 0 0 Tryz.underlying61
theorem Ed (a:Addr) (n c:Nat) (cs:List Value) (w:World) (hlen:cs.length=n*2) (hc:∀ j u,cs[j]?=some u->w.cell? (a.add j)=some u) (h1:∀ u∈cs,u.oneCell'=true) (hl:n<=1000) :
  Calls Tryz.prog 80 #[.slice (some a) n c] w λe w'=>∃ v,e=.returned v/\w'.ownsRow w.heap.size 109 2 v n cs/\Below w.heap.size w w':=by
 obtain ⟨i0,hi,hz0,hz1,hz2⟩:=info_parts DM;have HB:=qI ((Q0 w.heap.size w).alloc (lR) (.cells #[] 109));have HC:Hid (∀ j u,cs[j]?=some u->(w.alloc (.cells #[] 109)).cell? (a.add j)=some u):=λj u hj=>Lib.cell?_alloc_some _ (hc j u hj)
 have H1:=qI h1;have HLEN:=qI hlen;have hnil:=tM (some a) n c w;clear hc h1 hlen
 go_enter Tryz.func80,Tryz.ntmps80
 go_wp2_with (at_builtin;(refine wpList_append_own _ rfl _ _ 61 rfl w.heap.size 109 i0 (.agg #[.string ByteArray.empty,.int .i64 0]) 2 24 Tryz.underlying61 hi hz0 hz1 hz2 rfl (by decide) _ _ _ rfl (World.ownsRow_lit w #[] 0 (lR) (Nat.zero_le _) rfl) a n c cs rfl HLEN.out HC.out H1.out (by unfold maxLen;omega) (by omega) (by simp) ?_;intro v' w1 hown' hgrow' _))
 have hB1:=qI (HB.out.grown hgrow' (by simp) (λj hj=>by cases hj;exact lR));rw [Qd] at hown';have HO:=qI (show w1.ownsRow w.heap.size 109 2 v' n cs by simpa using hown');clear hown' hgrow'
 go_wp2
 go_ret;exact ⟨_,rfl,HO.out,hB1.out⟩
theorem Ee (n c:Nat) (w:World):Calls Tryz.prog 80 #[.slice none n c] w λe w'=>e=.returned (.slice none 0 0)/\w'=w:=by
 have hnil:=tM none n c w
 go_enter Tryz.func80,Tryz.ntmps80
 go_wp2
 go_ret;exact ⟨rfl,rfl⟩
theorem tN (a:Option Addr) (n c:Nat) (w:World):Sem.run Tryz.prog (binOp .eql 45 (.slice a n c) (.slice none 0 0)) w=.ok (.bool a.isNone) w:=Lib.run_eql_slice_nil w _ _ a n c 0 0 Tryz.underlying45
theorem tO (a:Addr) (n c:Nat) (cs:List Value) (w:World) (hlen:cs.length=n*6) (hc:∀ j u,cs[j]?=some u->w.cell? (a.add j)=some u) (h1:∀ u∈cs,u.oneCell'=true) (hl:n<=1000) :
  Calls Tryz.prog 79 #[.slice (some a) n c] w λe w'=>∃ v,e=.returned v/\w'.ownsRow w.heap.size 63 6 v n cs/\Below w.heap.size w w':=by
 obtain ⟨i0,hi,hz0,hz1,hz2⟩:=info_parts DX;have HB:=qI ((Q0 w.heap.size w).alloc (lR) (.cells #[] 63));have HC:Hid (∀ j u,cs[j]?=some u->(w.alloc (.cells #[] 63)).cell? (a.add j)=some u):=λj u hj=>Lib.cell?_alloc_some _ (hc j u hj)
 have H1:=qI h1;have HLEN:=qI hlen;have hnil:=tN (some a) n c w;clear hc h1 hlen
 go_enter Tryz.func79,Tryz.ntmps79
 go_wp2_with (at_builtin;(refine wpList_append_own _ rfl _ _ 45 rfl w.heap.size 63 i0 (.agg #[.string ByteArray.empty,.int .i64 0,.int .i64 0,.int .i64 0,.int .i64 0,.slice none 0 0]) 6 72 Tryz.underlying45 hi hz0 hz1 hz2 rfl (by decide) _ _ _ rfl (World.ownsRow_lit w #[] 0 (lR) (Nat.zero_le _) rfl) a n c cs rfl HLEN.out HC.out H1.out (by unfold maxLen;omega) (by omega) (by simp) ?_;intro v' w1 hown' hgrow' _))
 have hB1:=qI (HB.out.grown hgrow' (by simp) (λj hj=>by cases hj;exact lR));rw [Qd] at hown';have HO:=qI (show w1.ownsRow w.heap.size 63 6 v' n cs by simpa using hown');clear hown' hgrow'
 go_wp2
 go_ret;exact ⟨_,rfl,HO.out,hB1.out⟩
theorem Ef (n c:Nat) (w:World):Calls Tryz.prog 79 #[.slice none n c] w λe w'=>e=.returned (.slice none 0 0)/\w'=w:=by
 have hnil:=tN none n c w
 go_enter Tryz.func79,Tryz.ntmps79
 go_wp2
 go_ret;exact ⟨rfl,rfl⟩
theorem tP (a:Option Addr) (n c:Nat) (w:World):Sem.run Tryz.prog (binOp .eql 55 (.slice a n c) (.slice none 0 0)) w=.ok (.bool a.isNone) w:=Lib.run_eql_slice_nil w _ _ a n c 0 0 Tryz.underlying55
theorem tQ (a:Addr) (n c:Nat) (cs:List Value) (w:World) (hlen:cs.length=n*2) (hc:∀ j u,cs[j]?=some u->w.cell? (a.add j)=some u) (h1:∀ u∈cs,u.oneCell'=true) (hl:n<=1000) :
  Calls Tryz.prog 81 #[.slice (some a) n c] w λe w'=>∃ v,e=.returned v/\w'.ownsRow w.heap.size 69 2 v n cs/\Below w.heap.size w w':=by
 obtain ⟨i0,hi,hz0,hz1,hz2⟩:=info_parts DY;have HB:=qI ((Q0 w.heap.size w).alloc (lR) (.cells #[] 69));have HC:Hid (∀ j u,cs[j]?=some u->(w.alloc (.cells #[] 69)).cell? (a.add j)=some u):=λj u hj=>Lib.cell?_alloc_some _ (hc j u hj)
 have H1:=qI h1;have HLEN:=qI hlen;have hnil:=tP (some a) n c w;clear hc h1 hlen
 go_enter Tryz.func81,Tryz.ntmps81
 go_wp2_with (at_builtin;(refine wpList_append_own _ rfl _ _ 55 rfl w.heap.size 69 i0 (.agg #[.int .u64 0,.slice none 0 0]) 2 32 Tryz.underlying55 hi hz0 hz1 hz2 rfl (by decide) _ _ _ rfl (World.ownsRow_lit w #[] 0 (lR) (Nat.zero_le _) rfl) a n c cs rfl HLEN.out HC.out H1.out (by unfold maxLen;omega) (by omega) (by simp) ?_;intro v' w1 hown' hgrow' _))
 have hB1:=qI (HB.out.grown hgrow' (by simp) (λj hj=>by cases hj;exact lR));rw [Qd] at hown';have HO:=qI (show w1.ownsRow w.heap.size 69 2 v' n cs by simpa using hown');clear hown' hgrow'
 go_wp2
 go_ret;exact ⟨_,rfl,HO.out,hB1.out⟩
theorem Eg (n c:Nat) (w:World):Calls Tryz.prog 81 #[.slice none n c] w λe w'=>e=.returned (.slice none 0 0)/\w'=w:=by
 have hnil:=tP none n c w
 go_enter Tryz.func81,Tryz.ntmps81
 go_wp2
 go_ret;exact ⟨rfl,rfl⟩
theorem tR (a:Option Addr) (n c:Nat) (w:World):Sem.run Tryz.prog (binOp .eql 53 (.slice a n c) (.slice none 0 0)) w=.ok (.bool a.isNone) w:=Lib.run_eql_slice_nil w _ _ a n c 0 0 Tryz.underlying53
theorem tS (a:Addr) (n c:Nat) (cs:List Value) (w:World) (hlen:cs.length=n*4) (hc:∀ j u,cs[j]?=some u->w.cell? (a.add j)=some u) (h1:∀ u∈cs,u.oneCell'=true) (hl:n<=1000) :
  Calls Tryz.prog 55 #[.slice (some a) n c] w λe w'=>∃ v,e=.returned v/\w'.ownsRow w.heap.size 57 4 v n cs/\Below w.heap.size w w':=by
 obtain ⟨i0,hi,hz0,hz1,hz2⟩:=info_parts D0;have HB:=qI ((Q0 w.heap.size w).alloc (lR) (.cells #[] 57));have HC:Hid (∀ j u,cs[j]?=some u->(w.alloc (.cells #[] 57)).cell? (a.add j)=some u):=λj u hj=>Lib.cell?_alloc_some _ (hc j u hj)
 have H1:=qI h1;have HLEN:=qI hlen;have hnil:=tR (some a) n c w;clear hc h1 hlen
 go_enter Tryz.func55,Tryz.ntmps55
 go_wp2_with (at_builtin;(refine wpList_append_own _ rfl _ _ 53 rfl w.heap.size 57 i0 (.agg #[.string ByteArray.empty,.int .i64 0,.slice none 0 0,.slice none 0 0]) 4 72 Tryz.underlying53 hi hz0 hz1 hz2 rfl (by decide) _ _ _ rfl (World.ownsRow_lit w #[] 0 (lR) (Nat.zero_le _) rfl) a n c cs rfl HLEN.out HC.out H1.out (by unfold maxLen;omega) (by omega) (by simp) ?_;intro v' w1 hown' hgrow' _))
 have hB1:=qI (HB.out.grown hgrow' (by simp) (λj hj=>by cases hj;exact lR));rw [Qd] at hown';have HO:=qI (show w1.ownsRow w.heap.size 57 4 v' n cs by simpa using hown');clear hown' hgrow'
 go_wp2
 go_ret;exact ⟨_,rfl,HO.out,hB1.out⟩
theorem Eh (n c:Nat) (w:World):Calls Tryz.prog 55 #[.slice none n c] w λe w'=>e=.returned (.slice none 0 0)/\w'=w:=by
 have hnil:=tR none n c w
 go_enter Tryz.func55,Tryz.ntmps55
 go_wp2
 go_ret;exact ⟨rfl,rfl⟩
theorem tT (a:Option Addr) (n c:Nat) (w:World):Sem.run Tryz.prog (binOp .eql 44 (.slice a n c) (.slice none 0 0)) w=.ok (.bool a.isNone) w:=Lib.run_eql_slice_nil w _ _ a n c 0 0 Tryz.underlying44
theorem Ei (a:Addr) (n c:Nat) (cs:List Value) (w:World) (hlen:cs.length=n*1) (hc:∀ j u,cs[j]?=some u->w.cell? (a.add j)=some u) (h1:∀ u∈cs,u.oneCell'=true) (hl:n<=1000) :
  Calls Tryz.prog 82 #[.slice (some a) n c] w λe w'=>∃ v,e=.returned v/\w'.ownsRow w.heap.size 3 1 v n cs/\Below w.heap.size w w':=by
 obtain ⟨i0,hi,hz0,hz1,hz2⟩:=info_parts tG;have HB:=qI ((Q0 w.heap.size w).alloc (lR) (.cells #[] 3));have HC:Hid (∀ j u,cs[j]?=some u->(w.alloc (.cells #[] 3)).cell? (a.add j)=some u):=λj u hj=>Lib.cell?_alloc_some _ (hc j u hj)
 have H1:=qI h1;have HLEN:=qI hlen;have hnil:=tT (some a) n c w;clear hc h1 hlen
 go_enter Tryz.func82,Tryz.ntmps82
 go_wp2_with (at_builtin;(refine wpList_append_own _ rfl _ _ 44 rfl w.heap.size 3 i0 (.int .i64 0) 1 8 Tryz.underlying44 hi hz0 hz1 hz2 rfl (by decide) _ _ _ rfl (World.ownsRow_lit w #[] 0 (lR) (Nat.zero_le _) rfl) a n c cs rfl HLEN.out HC.out H1.out (by unfold maxLen;omega) (by omega) (by simp) ?_;intro v' w1 hown' hgrow' _))
 have hB1:=qI (HB.out.grown hgrow' (by simp) (λj hj=>by cases hj;exact lR));rw [Qd] at hown';have HO:=qI (show w1.ownsRow w.heap.size 3 1 v' n cs by simpa using hown');clear hown' hgrow'
 go_wp2
 go_ret;exact ⟨_,rfl,HO.out,hB1.out⟩
theorem Ej (n c:Nat) (w:World):Calls Tryz.prog 82 #[.slice none n c] w λe w'=>e=.returned (.slice none 0 0)/\w'=w:=by
 have hnil:=tT none n c w
 go_enter Tryz.func82,Tryz.ntmps82
 go_wp2
 go_ret;exact ⟨rfl,rfl⟩
end
section
open RowKit Shelf
open Sv (Tx cQ)
open S1 (Mx Tab)
attribute [local go_sem] Oper.semAt_some
end
section
open RowKit Shelf Go.Lib
attribute [local go_sem] Oper.semAt_some
abbrev dW:Value:=.agg #[.string ByteArray.empty,.int .i64 0,.slice none 0 0,.slice none 0 0]
theorem Ek (b n c i vb voff vc:Nat) (cs vs:List Value) (w:World) (hi:i<n) (hnc:n<=c) (hroom:c<n+1) (hbig:n<=100)
  (hcl:cs.length=n*4) (hvl:vs.length=4)
  (hcs:∀ j v,cs[j]?=some v->w.cell? ⟨b,j,none⟩=some v)
  (hvs:∀ j v,vs[j]?=some v->w.cell? ⟨vb,voff+j,none⟩=some v) (h1c:∀ v∈cs,v.oneCell'=true) (h1v:∀ v∈vs,v.oneCell'=true) :
  Calls Tryz.prog 54 #[.slice (some ⟨b,0,none⟩) n c,.int .i64 i,.slice (some ⟨vb,voff,none⟩) 1 vc] w λe w'=>
   ∃ G,n+1<=G/\G<=maxLen/\e=.returned (.slice (some ⟨w.heap.size,0,none⟩) (n+1) G)/\
   w'=(((w.alloc (.cells ((cs.take (i*4)).toArray++Builtin.zeroCells dW.cells (n+1 - i)++Builtin.zeroCells dW.cells (G - (n+1))) 57)).drew.setCells w.heap.size (i*4) vs).drew).setCells w.heap.size ((i+1)*4) (cs.drop (i*4)):=by
 obtain ⟨i0,hi0,hz0,hzs,hzb⟩:=info_parts D3;have hz2:¬ ((i:Int)=(n:Int)):=by omega
 have hz3:(c:Int)<(n:Int)+1:=by omega
 have hbw:b<w.heap.size:=block_lt_of_cell (hcs 0 _ (Qf (by omega)));have hvw:vb<w.heap.size:=block_lt_of_cell (hvs 0 _ (Qf (by omega)));have hkk:(n:Int)+1 - (i:Int)=((n+1 - i:Nat):Int):=by omega
 have hik:i+(n+1 - i)=n+1:=by omega
 have hold:(Builtin.firstCells i0.size i (.slice (some ⟨b,0,none⟩) i c)).run Tryz.prog w.drew=.ok (cs.take (i*4)).toArray w.drew:=by
  rw [hzs];exact run_firstCells_some w.drew 4 i ⟨b,0,none⟩ i c (cs.take (i*4)) (by rw [Qu];omega) (λj v hj=>by
   rw [Addr.add_lit];rw [List.getElem?_take] at hj
   split at hj
   ·rw [Qd];exact hcs j v hj
   ·cases hj)
 have hfits:Builtin.nextslicecap (n+1) c*i0.bytes<=281474976710656:=by rw [hzb];exact growslice_fits hroom (by omega)
 have hrz:∀ ty,(Builtin.append_ #[53,3] ty #[.slice (some ⟨b,0,none⟩) i c,.int .i64 ((n:Int)+1 - (i:Int))]).run Tryz.prog w =
   .ok (.slice (some ⟨w.heap.size,0,none⟩) (n+1) (grownCap w (n+1) c 57)) (w.drew.alloc (.cells ((cs.take (i*4)).toArray++Builtin.zeroCells dW.cells (n+1 - i)++Builtin.zeroCells dW.cells (grownCap w (n+1) c 57 - (n+1))) 57)):=λty=>by
  have h:=Lib.run_append_grow_zeros w 53 3 ty 57 i0 _ .i64 .i64 Tryz.underlying53 Tryz.underlying3 hi0 hz0 (some ⟨b,0,none⟩) i c (cs.take (i*4)) hold (n+1 - i) (by omega) (by omega) (by omega) (by omega) (by rw [hzb];omega) (by rw [hik];exact hfits);rw [hik] at h;rw [hkk];exact h
 have hGn0:n+1<=grownCap w (n+1) c 57:=grownCap_ge w _ _ _;have hG63:grownCap w (n+1) c 57<=maxLen:=grownCap_le_maxLen w (n+1) c 57 (by unfold maxLen;omega);obtain ⟨G,hG⟩:∃ G,G=grownCap w (n+1) c 57:=⟨_,rfl⟩;rw [<- hG] at hrz hGn0 hG63;refine Calls.mono (R:=λe w'=>e=.returned (.slice (some ⟨w.heap.size,0,none⟩) (n+1) G)/\w'=(((w.alloc (.cells ((cs.take (i*4)).toArray++Builtin.zeroCells dW.cells (n+1 - i)++Builtin.zeroCells dW.cells (G - (n+1))) 57)).drew.setCells w.heap.size (i*4) vs).drew).setCells w.heap.size ((i+1)*4) (cs.drop (i*4))) ?_ (λe w' h=>⟨G,hGn0,hG63,h.1,h.2⟩);obtain ⟨ROW,hROW⟩:∃ ROW:Array Value,ROW=(cs.take (i*4)).toArray++Builtin.zeroCells dW.cells (n+1 - i)++Builtin.zeroCells dW.cells (G - (n+1)):=⟨_,rfl⟩;rw [<- hROW] at hrz ⊢;have hRl:(n+1)*4<=ROW.size:=by
  rw [hROW];have hzc:dW.cells.size=4:=rfl;simp only [Array.size_append,List.size_toArray,Qu,Builtin.zeroCells,Array.size_map,Array.size_range,hzc,hcl];omega
 have hG63':G<=9223372036854775807:=by unfold maxLen at hG63;omega
 obtain ⟨W1,hW1⟩:∃ W1,W1=w.drew.alloc (.cells ROW 57):=⟨_,rfl⟩;rw [<- hW1] at hrz;have hN:∀ j,j<(n+1)*4->(W1.cell? ⟨w.heap.size,j,none⟩).isSome=true:=λj hj=>by
  rw [hW1,World.cell?_alloc_at (w:=w.drew) ROW _ w.heap.size j rfl,Array.getElem?_eq_getElem (by omega)];rfl
 have hNf:∀ j,W1.frozen? ⟨w.heap.size,j,none⟩=false:=λj=>by rw [hW1];exact World.frozen?_alloc_at (w:=w.drew) ROW _ w.heap.size j rfl
 have hOb:∀ j v,w.cell? ⟨b,j,none⟩=some v->W1.cell? ⟨b,j,none⟩=some v:=λj v h=>by rw [hW1,World.cell?_alloc_past (w:=w.drew) _ b j hbw];exact h
 have hOv:∀ j v,w.cell? ⟨vb,j,none⟩=some v->W1.cell? ⟨vb,j,none⟩=some v:=λj v h=>by rw [hW1,World.cell?_alloc_past (w:=w.drew) _ vb j hvw];exact h
 have hcpA:∀ (W:World),(∀ x,W.cell? x=W1.cell? x)->(∀ x,W.frozen? x=W1.frozen? x)->∀ ty dc,(Builtin.copy_ #[53,53] ty #[.slice (some ⟨w.heap.size,i*4,none⟩) (n+1 - i) dc,.slice (some ⟨vb,voff,none⟩) 1 vc]).run Tryz.prog W=.ok (goInt (Nat.min 1 (n+1 - i))) (W.setCells w.heap.size (i*4) vs):=λW hWc hWf ty dc=>
  mH W ty w.heap.size (i*4) (n+1 - i) dc ⟨vb,voff,none⟩ 1 vc vs (by rw [hvl];simp only [Nat.min_def];split <;> omega)
   (λj v hj=>by rw [Addr.add_lit,hWc];exact hOv _ v (hvs j v hj))
   (λj hj=>by rw [hWc];exact hN _ (by omega)) (λj hj=>by rw [hWf];exact hNf _) h1v
 have hGi:¬ (G=i):=by omega
 have hGim:¬ (G=i+1):=by omega
 have hci:¬ (c=i):=by omega
 have hbN:b≠w.heap.size:=by omega
 have hdl:(cs.drop (i*4)).length=(n - i)*4:=by rw [List.length_drop,hcl];omega
 have hcpB:∀ (W:World),(∀ x,W.cell? x=(W1.setCells w.heap.size (i*4) vs).cell? x)->(∀ x,W.frozen? x=(W1.setCells w.heap.size (i*4) vs).frozen? x)->∀ ty dc sc,(Builtin.copy_ #[53,53] ty #[.slice (some ⟨w.heap.size,(i+1)*4,none⟩) (n - i) dc,.slice (some ⟨b,i*4,none⟩) (n - i) sc]).run Tryz.prog W=.ok (goInt (Nat.min (n - i) (n - i))) (W.setCells w.heap.size ((i+1)*4) (cs.drop (i*4))):=λW hWc hWf ty dc sc=>
  mH W ty w.heap.size ((i+1)*4) (n - i) dc ⟨b,i*4,none⟩ (n - i) sc (cs.drop (i*4)) (by rw [hdl];simp only [Nat.min_def];split <;> omega)
   (λj v hj=>by
    rw [Addr.add_lit,hWc,World.cell?_setCells_out _ _ _ _ _ (λh _=>absurd h hbN)];exact hOb _ v (hcs (i*4+j) v (by rwa [List.getElem?_drop] at hj)))
   (λj hj=>by rw [hWc];exact isSome_setCells w.heap.size vs (i*4) W1 (λt ht=>hN _ (by omega)) _ (hN _ (by rw [hdl] at hj;omega)))
   (λj hj=>by rw [hWf,World.frozen?_setCells];exact hNf _) (λv hv=>h1c v (List.mem_of_mem_drop hv))
 subst hW1;have hE1:∀ x,((w.alloc (.cells ROW 57)).drew).cell? x=(w.drew.alloc (.cells ROW 57)).cell? x:=λx=>rfl
 have hE2:∀ x,((w.alloc (.cells ROW 57)).drew).frozen? x=(w.drew.alloc (.cells ROW 57)).frozen? x:=λx=>rfl
 have hF1:∀ x,(((w.alloc (.cells ROW 57)).drew.setCells w.heap.size (i*4) vs).drew).cell? x=((w.drew.alloc (.cells ROW 57)).setCells w.heap.size (i*4) vs).cell? x:=λx=>rfl
 have hF2:∀ x,(((w.alloc (.cells ROW 57)).drew.setCells w.heap.size (i*4) vs).drew).frozen? x=((w.drew.alloc (.cells ROW 57)).setCells w.heap.size (i*4) vs).frozen? x:=λx=>rfl
 have hw1:IntKind.i64.wrap ((i:Int)+1)=(i:Int)+1:=by rw [IntKind.wrap_i64];omega
 have hb1:(0:Int)<=(i:Int)+1:=by omega
 have hin:i<=n:=by omega
 have htn:((i:Int)+1).toNat=i+1:=by omega
 have hb3:(i:Int)<=(n:Int):=by omega
 have hb5:(i:Int)+1<=(n:Int)+1:=by omega
 have mixed:Tryz.prog.follows .mixedOrders=true:=by kernel_rfl
 clear hkk hik hold hROW hG hRl hcs hvs hfits hi0 hz0 hzs hzb
 go_enter Tryz.func54,Tryz.ntmps54
 go_wp2_with (first
  | (at_builtin;refine Lib.wpList_append_run _ rfl _ _ _ _ rfl _ _ rfl rfl _ _ (hrz _) ?_)
  | (at_builtin;refine wpList_copy_runI _ rfl _ _ 53 53 rfl _ _ rfl rfl (hcpA _ hE1 hE2 _ _) ?_)
  | (at_builtin;refine wpList_copy_runI _ rfl _ _ 53 53 rfl _ _ rfl rfl (hcpB _ (λ_=>rfl) (λ_=>rfl) _ _ _) ?_))
 go_region_law_o (refine step_copy_runI rfl _ _ 53 53 rfl (.slice (some ⟨w.heap.size,(i+1)*4,none⟩) (n - i) (G - (i+1))) (.slice (some ⟨b,i*4,none⟩) (n - i) (c - i)) (by simp [Act.eval,Act.put]) (by simp [Act.eval,Act.put]) (hcpB _ hF1 hF2 3 (G - (i+1)) (c - i)) ?_)
 go_wp2
 go_ret;exact ⟨rfl,rfl⟩
end
section
namespace Ol
open Dvs (Dv dv)
open Qos (Nd)
def cr (ds:List Dv) (k:ByteArray) (l:List Int):Nat:=l.countP λj=>decide ((dv ds j.toNat).kind=k)
def gQ (m:ByteArray->Option Int):Prop:=∀ k,m k≠some 0
theorem El {m:ByteArray->Option Int} (h:gQ m) (k:ByteArray):m k=none↔(m k).getD 0=0:=by
 cases e:m k with
 | none=>simp
 | some v=>
  have:=h k
  rw [e] at this;constructor
  ·intro h;cases h
  ·intro h;exact absurd (congrArg some h) this
theorem tU {m:ByteArray->Option Int} (h:gQ m) (k:ByteArray) {v:Option Int} (hv:v≠some 0):gQ (cH m k v):=by
 intro x;unfold cH
 split
 ·exact hv
 ·exact h x
theorem Em (ds:List Dv) {m:ByteArray->Option Int} (h:gQ m) (j:Int):gQ (cR ds m j):=by
 unfold cR;refine tU h _ ?_
 split
 ·exact λe=>by cases e
 ·rename_i h0;exact λe=>h0 (Ql e)
theorem En (ds:List Dv) (m:ByteArray->Option Int) (j:Int) (k:ByteArray):(cR ds m j k).getD 0=(m k).getD 0 - (if (dv ds j.toNat).kind=k then 1 else 0):=by
 unfold cR cH
 by_cases h:k=(dv ds j.toNat).kind
 ·rw [if_pos h,if_pos h.symm,<- h]
  split
  ·rename_i h0;rw [h0];rfl
  ·rfl
 ·rw [if_neg h,if_neg (λe=>h e.symm),Int.sub_zero]
theorem Eo (ds:List Dv) (k:ByteArray):∀ (l:List Int) (m:ByteArray->Option Int),gQ m->gQ (l.foldl (cR ds) m)/\(l.foldl (cR ds) m k).getD 0=(m k).getD 0 - (cr ds k l:Nat):=by
 intro l
 induction l with
 | nil=>intro m h;exact ⟨h,by simp [cr]⟩
 | cons j r ih=>
  intro m h;obtain ⟨h1,h2⟩:=ih (cR ds m j) (Em ds h j);refine ⟨h1,?_⟩;rw [List.foldl_cons,h2,En];unfold cr;rw [List.countP_cons]
  by_cases hk:(dv ds j.toNat).kind=k
  ·simp [hk];omega
  ·simp [hk]
theorem Ep (ns:List Nd) (h:∀ n∈ns,n.many≠0):∀ m,gQ m->gQ (ns.foldl (λm n=>cH m n.kind (some n.many)) m):=by
 induction ns with
 | nil=>intro m hm;exact hm
 | cons n r ih=>
  intro m hm;rw [List.foldl_cons];exact ih (λx hx=>h x (Qv _ hx)) _ (tU hm _ (λe=>h n (List.mem_cons_self ..) (Ql e)))
theorem tV {ds:List Dv} {l:List Int} {ns:List Nd} (h:∀ n∈ns,n.many≠0):gr ds l ns↔∀ k,(dx ns k).getD 0=(cr ds k l:Nat):=by
 have hn:gQ (dx ns):=Ep ns h _ (λ_ e=>by cases e);unfold gr;refine forall_congr' λk=>?_
 obtain ⟨h1,h2⟩:=Eo ds k l (dx ns) hn;rw [El h1,h2];omega
theorem pk:∀ (ns:List Nd) (m:ByteArray->Option Int) (k:ByteArray),(∀ n∈ns,n.kind≠k)->ns.foldl (λm n=>cH m n.kind (some n.many)) m k=m k:=by
 intro ns
 induction ns with
 | nil=>intro m k _;rfl
 | cons n r ih=>
  intro m k h;rw [List.foldl_cons,ih _ k (λx hx=>h x (Qv _ hx))];unfold cH;rw [if_neg (λe=>h n (List.mem_cons_self ..) e.symm)]
theorem tW:∀ (ns:List Nd) (m:ByteArray->Option Int) (n:Nd),n∈ns->ns.Pairwise (λa b=>a.kind≠b.kind)->ns.foldl (λm n=>cH m n.kind (some n.many)) m n.kind=some n.many:=by
 intro ns
 induction ns with
 | nil=>intro m n h;cases h
 | cons x r ih=>
  intro m n h hp;rw [List.foldl_cons];obtain ⟨h1,h2⟩:=List.pairwise_cons.1 hp
  rcases List.mem_cons.1 h with rfl|h
  ·rw [pk r _ n.kind (λy hy e=>h1 y hy e.symm)];unfold cH;rw [if_pos rfl]
  ·exact ih _ n h h2
end Ol
end
section
open RowKit Shelf
open Qos (Nd Ct Pd nd ct pd)
open Sv (Gv Hd gv hd)
structure cZ (W:World) (N g sz n:Nat) (f:Nat->List Value):Prop where
 base:N<=g
 lt:g<W.heap.size
 cell:∀ k,k<n->∀ j,j<sz->W.cell? ⟨g,k*sz+j,none⟩=(f k)[j]?
 free:∀ j,W.frozen? ⟨g,j,none⟩=false
theorem ir {f:Nat->List Value} {sz:Nat} (hf:∀ k,(f k).length=sz) (n:Nat):((List.range n).flatMap f).length=n*sz:=by
 induction n with
 | zero=>simp
 | succ n ih=>rw [List.range_succ,List.flatMap_append,Q2,ih];simp [hf,Nat.succ_mul]
theorem ld {f:Nat->List Value} {sz:Nat} (hf:∀ k,(f k).length=sz) (n k j:Nat) (hk:k<n) (hj:j<sz):((List.range n).flatMap f)[k*sz+j]?=(f k)[j]?:=by
 induction n with
 | zero=>omega
 | succ n ih=>
  rw [List.range_succ,List.flatMap_append]
  by_cases h:k<n
  ·rw [List.getElem?_append_left]
   ·exact ih h
   ·rw [ir hf]
    have:(k+1)*sz<=n*sz:=Nat.mul_le_mul_right _ h
    rw [Nat.succ_mul] at this;omega
  ·have:k=n:=by omega
   subst this;rw [List.getElem?_append_right (by rw [ir hf];omega),ir hf]
   simp
theorem lf {f:Nat->List Value} {sz:Nat} (h0:0<sz) (hf:∀ k,(f k).length=sz) {w:World} {b o n:Nat} (h:∀ k,k<n->∀ j,j<sz->w.cell? ⟨b,o+k*sz+j,none⟩=(f k)[j]?):∀ j u,((List.range n).flatMap f)[j]?=some u->w.cell? ((⟨b,o,none⟩:Addr).add j)=some u:=by
 intro j u hu;have hl:j<n*sz:=by
  have:=(List.getElem?_eq_some_iff.1 hu).1
  rw [ir hf] at this;exact this
 have hk:j / sz<n:=Nat.div_lt_of_lt_mul (by rw [Nat.mul_comm];exact hl);have hj:j % sz<sz:=Nat.mod_lt _ h0;have e:j / sz*sz+j % sz=j:=by rw [Nat.mul_comm];exact Nat.div_add_mod j sz
 rw [<- e,ld hf n _ _ hk hj] at hu;rw [Addr.add_lit,<- e,<- Nat.add_assoc,h _ hk _ hj];exact hu
theorem lg {f:Nat->List Value} {n:Nat} (h:∀ k,k<n->∀ u∈f k,u.oneCell'=true):∀ u∈(List.range n).flatMap f,u.oneCell'=true:=by
 intro u hu;obtain ⟨k,hk,hu⟩:=List.mem_flatMap.1 hu;exact h k (List.mem_range.1 hk) u hu
theorem j4 {W:World} {base:Nat} {e:TypeId} {sz:Nat} {v:Value} {n:Nat} {xs:List Value} {f:Nat->List Value} (h:W.ownsRow base e sz v n xs) (hf:∀ k,k<n->∀ j,j<sz->xs[k*sz+j]?=(f k)[j]?) :
  ∃ ao cap,v=.slice ao n cap/\(n<=cap/\cap<=maxLen)/\(0<n->∃ g,ao=some ⟨g,0,none⟩/\cZ W base g sz n f):=by
 rcases h.2 with ⟨rfl,rfl⟩|⟨g,cap,cur,rfl,hb,hg,hc1,hc2,hcs,ht⟩
 ·exact ⟨none,0,rfl,⟨lR,Nat.zero_le _⟩,λh=>by omega⟩
 ·refine ⟨_,cap,rfl,⟨hc1,hc2⟩,λ_=>⟨g,rfl,hb,(gS hg).1,λk hk j hj=>?_,λj=>by simp [World.frozen?,hg]⟩⟩;rw [<- hf k hk j hj,<- ht,List.getElem?_take];have hl:k*sz+j<n*sz:=by
   have:(k+1)*sz<=n*sz:=Nat.mul_le_mul_right _ hk
   rw [Nat.succ_mul] at this;omega
  rw [if_pos hl]
  simp [World.cell?,hg]
theorem cZ.keep {W W':World} {N g sz n:Nat} {f:Nat->List Value} (h:cZ W N g sz n f) (hb:W'.heap[g]?=W.heap[g]?) (hs:W.heap.size<=W'.heap.size):cZ W' N g sz n f:=
 ⟨h.base,Q1 h.lt hs,λk hk j hj=>(World.cell?_of_block (a:=⟨g,k*sz+j,none⟩) hb).trans (h.cell k hk j hj),λj=>by
  have:=h.free j
  simp only [World.frozen?] at this ⊢;rw [hb];exact this⟩
theorem cZ.below {W W':World} {N g sz n:Nat} {f:Nat->List Value} (h:cZ W N g sz n f) (hb:Below W.heap.size W W'):cZ W' N g sz n f:=h.keep (hb.block g h.lt) hb.size
theorem cZ.set {W:World} {N g sz n:Nat} {f:Nat->List Value} (h:cZ W N g sz n f) (k j:Nat) (hk:k<n) (hj:j<sz) (v:Value) (f':Nat->List Value) (h1:∀ i,i<n->i≠k->f' i=f i) (h2:∀ i,i<sz->(f' k)[i]?=if i=j then some v else (f k)[i]?) (hfk:(f k).length=sz):cZ (W.setCell ⟨g,k*sz+j,none⟩ v) N g sz n f':=by
 have hin:W.cell? ⟨g,k*sz+j,none⟩≠none:=by
  rw [h.cell k hk j hj,Qf (by omega)];simp
 have hsz:(W.setCell ⟨g,k*sz+j,none⟩ v).heap.size=W.heap.size:=by simp
 refine ⟨h.base,by rw [hsz];exact h.lt,λi hi q hq=>?_,λq=>by rw [World.frozen?_setCell];exact h.free q⟩
 by_cases hik:i=k
 ·subst hik;rw [h2 q hq]
  by_cases hqj:q=j
  ·subst hqj;rw [if_pos rfl];obtain ⟨u,hu⟩:∃ u,W.cell? ⟨g,i*sz+q,none⟩=some u:=Option.ne_none_iff_exists'.1 hin;exact World.cell?_setCell_same _ _ _ hu
  ·rw [if_neg hqj,<- h.cell i hi q hq];exact Qb _ _ _ _ (by simp only [ne_eq,Addr.mk.injEq,true_and,and_true];omega)
 ·rw [h1 i hi hik,<- h.cell i hi q hq];refine Qb _ _ _ _ ?_;simp only [ne_eq,Addr.mk.injEq,true_and,and_true];have a1:i<k\/k<i:=by omega
  rcases a1 with a1|a1
  ·have:(i+1)*sz<=k*sz:=Nat.mul_le_mul_right _ a1
   rw [Nat.succ_mul] at this;omega
  ·have:(k+1)*sz<=i*sz:=Nat.mul_le_mul_right _ a1
   rw [Nat.succ_mul] at this;omega
noncomputable abbrev fresh (N:Nat) (W:World):World:=ag (λj=>j<N) W
theorem gx {N:Nat} {W:World} {b o:Nat} (h:N<=b):(fresh N W).cell? ⟨b,o,none⟩=W.cell? ⟨b,o,none⟩:=World.cell?_of_block (a:=⟨b,o,none⟩) (bH (λk=>by have k:b<N:=k;omega))
theorem j5 {N N':Nat} {W W':World} (h:∀ j,N<=j->j<W.heap.size->W'.heap[j]?=W.heap[j]?) (hs:W.heap.size<=W'.heap.size) (hN:N'<=N):aB (fresh N W) (fresh N' W'):=by
 refine ⟨by rw [bw,bw];exact hs,λb o v e=>?_⟩;have hb:=dV e;have hl:b<W.heap.size:=by have:=Q3 _ ⟨b,o,none⟩ e;rw [bw] at this;exact this
 have hb':N<=b:=by simpa using hb
 rw [gx hb'] at e;rw [gx (by omega)];exact (World.cell?_of_block (a:=⟨b,o,none⟩) (h b hb' hl)).trans e
theorem bg {M M':Nat->Prop} {W W':World} (h:∀ j,j<W.heap.size->¬ M j->¬ M' j/\W'.heap[j]?=W.heap[j]?) (hs:W.heap.size<=W'.heap.size):aB (ag M W) (ag M' W'):=by
 refine ⟨by rw [bw,bw];exact hs,λb o v e=>?_⟩;have hb:=dV e;have hl:b<W.heap.size:=by have:=Q3 _ ⟨b,o,none⟩ e;rw [bw] at this;exact this
 obtain ⟨h1,h2⟩:=h b hl hb;have e1:(ag M' W').heap[b]?=(ag M W).heap[b]?:=by rw [bH h1,bH hb];exact h2
 exact (World.cell?_of_block (a:=⟨b,o,none⟩) e1).trans e
theorem tX {N N':Nat} {W W':World} (h:Below W.heap.size W W') (hN:N'<=N):aB (fresh N W) (fresh N' W'):=j5 (λj _ hj=>h.block j hj) h.size hN
theorem Er {W:World} {N g n cap:Nat} {ds:List Nd} (h:cZ W N g 2 n (λk=>[.string (nd ds k).kind,.int .i64 (nd ds k).many])) (hn:n=ds.length) (hm:ds.length<=maxLen):bc (fresh N W) (.slice (some ⟨g,0,none⟩) n cap) ds:=by
 subst hn;refine ⟨_,_,rfl,hm,λ_=>⟨g,0,rfl,by rw [bw];exact h.lt,λk hk=>?_⟩⟩;rw [gx h.base,gx h.base,Qd];exact ⟨h.cell k hk 0 (by decide),h.cell k hk 1 (by decide)⟩
theorem tY (W:World) (ao:Option Addr) (c:Nat):bc W (.slice ao 0 c) []:=⟨ao,c,rfl,Nat.zero_le _,λh=>absurd h (Nat.lt_irrefl 0)⟩
theorem Es {W:World} {N g n cap:Nat} {cs:List Ct} {dv:Nat->Value} (h:cZ W N g 6 n (λk=>b9 (ct cs k) (dv k))) (hn:n=cs.length) (hm:n<=cap/\cap<=maxLen) (hd:∀ k,k<n->bc (fresh N W) (dv k) (ct cs k).ds):aE (fresh N W) (.slice (some ⟨g,0,none⟩) n cap) cs:=by
 subst hn;refine ⟨_,_,rfl,hm,λ_=>⟨g,0,dv,rfl,by rw [bw];exact h.lt,λk hk=>⟨λj hj=>?_,hd k hk⟩⟩⟩;rw [gx h.base,Qd];exact h.cell k hk j hj
theorem Et {W:World} {N g n cap:Nat} {xs:List Int} (h:cZ W N g 1 n (λk=>[.int .i64 (xs.getD k 0)])) (hn:n=xs.length) (hm:n<=cap/\cap<=maxLen):bj (fresh N W) (.slice (some ⟨g,0,none⟩) n cap) xs:=by
 subst hn;refine ⟨_,_,rfl,hm,λ_=>⟨g,0,rfl,by rw [bw];exact h.lt,λk hk=>?_⟩⟩;rw [gx h.base,Qd]
 simpa using h.cell k hk 0 (by decide)
theorem Eu {W:World} {N g n cap:Nat} {gs:List Gv} {dv:Nat->Value} (h:cZ W N g 2 n (λk=>[.int .u64 (gv gs k).cp,dv k])) (hn:n=gs.length) (hm:n<=cap/\cap<=maxLen) (hd:∀ k,k<n->(gv gs k).cp<18446744073709551616/\bj (fresh N W) (dv k) (gv gs k).dv):bl (fresh N W) (.slice (some ⟨g,0,none⟩) n cap) gs:=by
 subst hn;refine ⟨_,_,rfl,hm,λ_=>⟨g,0,dv,rfl,by rw [bw];exact h.lt,λk hk=>⟨⟨?_,?_,(hd k hk).1⟩,(hd k hk).2⟩⟩⟩
 ·rw [gx h.base,Qd];exact h.cell k hk 0 (by decide)
 ·rw [gx h.base,Qd];exact h.cell k hk 1 (by decide)
theorem Ev (v:Value) (ds:List Nd) (w:World) (h:bc w v ds) (hl:ds.length<=1000):Calls Tryz.prog 80 #[v] w λe w'=>∃ ao c,e=.returned (.slice ao ds.length c)/\bc (fresh w.heap.size w') (.slice ao ds.length c) ds/\Below w.heap.size w w':=by
 obtain ⟨ao,c,rfl,hm,hr⟩:=h;cases ao with
 | none=>
  refine (Ee _ _ _).mono ?_;rintro e w' ⟨rfl,rfl⟩;have h0:ds.length=0:=by
   apply Qt;intro h0;obtain ⟨b,o,hb,_⟩:=hr (by omega);cases hb
  have:ds=[]:=List.length_eq_zero_iff.1 h0
  subst this;exact ⟨none,0,rfl,tY _ _ _,Q0 _ _⟩
 | some a=>
  refine (Ed a ds.length c ((List.range ds.length).flatMap λk=>[.string (nd ds k).kind,.int .i64 (nd ds k).many]) w (ir (by intro _;rfl) _) ?_ (lg λk _ u hu=>?_) hl).mono ?_
  ·intro j u hu
   by_cases h0:0<ds.length
   ·obtain ⟨b,o,hb,_,hc⟩:=hr h0;cases hb;exact lf (sz:=2) (by decide) (by intro _;rfl) (λk hk i hi=>by
     match i,hi with
     | 0,_=>exact (hc k hk).1
     | 1,_=>exact (hc k hk).2) j u hu
   ·rw [show ds.length=0 by omega] at hu;simp at hu
  ·simp at hu
   rcases hu with rfl|rfl <;> rfl
  ·rintro e w' ⟨u,rfl,hrow,hb⟩;obtain ⟨ao,cap,rfl,hcap,hg⟩:=j4 (f:=λk=>[.string (nd ds k).kind,.int .i64 (nd ds k).many]) hrow (λk hk j hj=>ld (by intro _;rfl) _ _ _ hk hj);refine ⟨ao,cap,rfl,?_,hb⟩
   by_cases h0:0<ds.length
   ·obtain ⟨g,rfl,hG⟩:=hg h0;exact Er hG rfl hm
   ·have:ds=[]:=List.length_eq_zero_iff.1 (by omega)
    subst this;exact tY _ _ _
theorem Ew (v:Value) (xs:List Int) (w:World) (h:bj w v xs) (hl:xs.length<=1000):Calls Tryz.prog 82 #[v] w λe w'=>∃ ao c,e=.returned (.slice ao xs.length c)/\bj (fresh w.heap.size w') (.slice ao xs.length c) xs/\Below w.heap.size w w':=by
 obtain ⟨ao,c,rfl,hm,hr⟩:=h;cases ao with
 | none=>
  refine (Ej _ _ _).mono ?_;rintro e w' ⟨rfl,rfl⟩;have h0:xs.length=0:=by
   apply Qt;intro h0;obtain ⟨b,o,hb,_⟩:=hr (by omega);cases hb
  have:xs=[]:=List.length_eq_zero_iff.1 h0
  subst this;exact ⟨none,0,rfl,⟨none,0,rfl,⟨lR,Nat.zero_le _⟩,λh=>absurd h (Nat.lt_irrefl 0)⟩,Q0 _ _⟩
 | some a=>
  refine (Ei a xs.length c ((List.range xs.length).flatMap λk=>[.int .i64 (xs.getD k 0)]) w (ir (by intro _;rfl) _) ?_ (lg λk _ u hu=>?_) hl).mono ?_
  ·intro j u hu
   by_cases h0:0<xs.length
   ·obtain ⟨b,o,hb,_,hc⟩:=hr h0;cases hb;exact lf (sz:=1) (by decide) (by intro _;rfl) (λk hk i hi=>by
     match i,hi with
     | 0,_=>rw [Nat.mul_one];exact hc k hk) j u hu
   ·rw [show xs.length=0 by omega] at hu;simp at hu
  ·simp at hu
   rcases hu with rfl;rfl
  ·rintro e w' ⟨u,rfl,hrow,hb⟩;obtain ⟨ao,cap,rfl,hcap,hg⟩:=j4 (f:=λk=>[.int .i64 (xs.getD k 0)]) hrow (λk hk j hj=>ld (by intro _;rfl) _ _ _ hk hj);refine ⟨ao,cap,rfl,?_,hb⟩
   by_cases h0:0<xs.length
   ·obtain ⟨g,rfl,hG⟩:=hg h0;exact Et hG rfl hcap
   ·have:xs=[]:=List.length_eq_zero_iff.1 (by omega)
    subst this;exact ⟨_,_,rfl,hcap,λh=>absurd h (Nat.lt_irrefl 0)⟩
theorem Ex (v:Value) (cs:List Ct) (w W0:World) (h:aE W0 v cs) (l:aB W0 w) (hl:cs.length<=1000):Calls Tryz.prog 79 #[v] w λe w'=>∃ ao c,e=.returned (.slice ao cs.length c)/\(cs.length<=c/\c<=maxLen)/\(0<cs.length->∃ (g:Nat) (dv:Nat->Value),ao=some ⟨g,0,none⟩/\cZ w' w.heap.size g 6 cs.length (λk=>b9 (ct cs k) (dv k))/\∀ k,k<cs.length->bc W0 (dv k) (ct cs k).ds)/\Below w.heap.size w w':=by
 obtain ⟨ao,c,rfl,hm,hr⟩:=h;cases ao with
 | none=>
  refine (Ef _ _ _).mono ?_;rintro e w' ⟨rfl,rfl⟩;have h0:cs.length=0:=by
   apply Qt;intro h0;obtain ⟨b,o,dv,hb,_⟩:=hr (by omega);cases hb
  rw [h0];exact ⟨none,0,rfl,⟨lR,Nat.zero_le _⟩,λh=>by omega,Q0 _ _⟩
 | some a=>
  by_cases h0:0<cs.length
  ·obtain ⟨b,o,dv,hb,hc⟩:=hr h0;cases hb;refine (tO ⟨b,o,none⟩ cs.length c ((List.range cs.length).flatMap λk=>b9 (ct cs k) (dv k)) w (ir (by intro _;rfl) _) (lf (sz:=6) (by decide) (by intro _;rfl) (λk hk i hi=>by
     have h6:i<(b9 (ct cs k) (dv k)).length:=hi;rw [Qf h6];exact l.cell _ _ _ (((hc.2 k hk).1 i hi).trans (Qf h6)))) (lg λk hk u hu=>?_) hl).mono ?_
   ·obtain ⟨na,nc,hv,_⟩:=(hc.2 k hk).2;rw [hv] at hu
    simp [b9] at hu
    rcases hu with rfl|rfl|rfl|rfl|rfl|rfl <;> rfl
   ·rintro e w' ⟨u,rfl,hrow,hb⟩;obtain ⟨ao,cap,rfl,hcap,hg⟩:=j4 (f:=λk=>b9 (ct cs k) (dv k)) hrow (λk hk j hj=>ld (by intro _;rfl) _ _ _ hk hj);refine ⟨ao,cap,rfl,hcap,λ_=>?_,hb⟩;obtain ⟨g,rfl,hG⟩:=hg h0;exact ⟨g,dv,rfl,hG,λk hk=>(hc.2 k hk).2⟩
  ·refine (tO a cs.length c [] w (by rw [show cs.length=0 by omega];rfl) (λj u hu=>by simp at hu) (λu hu=>(List.not_mem_nil hu).elim) hl).mono ?_;rintro e w' ⟨u,rfl,hrow,hb⟩;obtain ⟨ao,cap,rfl,hcap,hg⟩:=j4 (f:=λ_=>[]) hrow (λk hk j hj=>by omega);exact ⟨ao,cap,rfl,hcap,λh=>absurd h h0,hb⟩
theorem Ey (v:Value) (gs:List Gv) (w W0:World) (h:bl W0 v gs) (l:aB W0 w) (hl:gs.length<=1000):Calls Tryz.prog 81 #[v] w λe w'=>∃ ao c,e=.returned (.slice ao gs.length c)/\(gs.length<=c/\c<=maxLen)/\(0<gs.length->∃ (g:Nat) (dv:Nat->Value),ao=some ⟨g,0,none⟩/\cZ w' w.heap.size g 2 gs.length (λk=>[.int .u64 (gv gs k).cp,dv k])/\∀ k,k<gs.length->(gv gs k).cp<18446744073709551616/\bj W0 (dv k) (gv gs k).dv)/\Below w.heap.size w w':=by
 obtain ⟨ao,c,rfl,hm,hr⟩:=h;cases ao with
 | none=>
  refine (Eg _ _ _).mono ?_;rintro e w' ⟨rfl,rfl⟩;have h0:gs.length=0:=by
   apply Qt;intro h0;obtain ⟨b,o,dv,hb,_⟩:=hr (by omega);cases hb
  rw [h0];exact ⟨none,0,rfl,⟨lR,Nat.zero_le _⟩,λh=>by omega,Q0 _ _⟩
 | some a=>
  by_cases h0:0<gs.length
  ·obtain ⟨b,o,dv,hb,hc⟩:=hr h0;cases hb;refine (tQ ⟨b,o,none⟩ gs.length c ((List.range gs.length).flatMap λk=>[.int .u64 (gv gs k).cp,dv k]) w (ir (by intro _;rfl) _) (lf (sz:=2) (by decide) (by intro _;rfl) (λk hk i hi=>by
     match i,hi with
     | 0,_=>exact l.cell _ _ _ (hc.2 k hk).1.1
     | 1,_=>exact l.cell _ _ _ (hc.2 k hk).1.2.1)) (lg λk hk u hu=>?_) hl).mono ?_
   ·obtain ⟨na,nc,hv,_⟩:=(hc.2 k hk).2;rw [hv] at hu
    simp at hu
    rcases hu with rfl|rfl <;> rfl
   ·rintro e w' ⟨u,rfl,hrow,hb⟩;obtain ⟨ao,cap,rfl,hcap,hg⟩:=j4 (f:=λk=>[.int .u64 (gv gs k).cp,dv k]) hrow (λk hk j hj=>ld (by intro _;rfl) _ _ _ hk hj);refine ⟨ao,cap,rfl,hcap,λ_=>?_,hb⟩;obtain ⟨g,rfl,hG⟩:=hg h0;exact ⟨g,dv,rfl,hG,λk hk=>⟨(hc.2 k hk).1.2.2,(hc.2 k hk).2⟩⟩
  ·refine (tQ a gs.length c [] w (by rw [show gs.length=0 by omega];rfl) (λj u hu=>by simp at hu) (λu hu=>(List.not_mem_nil hu).elim) hl).mono ?_;rintro e w' ⟨u,rfl,hrow,hb⟩;obtain ⟨ao,cap,rfl,hcap,hg⟩:=j4 (f:=λ_=>[]) hrow (λk hk j hj=>by omega);exact ⟨ao,cap,rfl,hcap,λh=>absurd h h0,hb⟩
def mJ (h:Hd) (cv gvv:Value):List Value:=[.string h.pod.nm,.int .i64 h.pod.pr,cv,gvv]
theorem tZ (v:Value) (hs:List Hd) (w W0:World) (h:aM W0 v hs) (l:aB W0 w) (hl:hs.length<=1000):Calls Tryz.prog 55 #[v] w λe w'=>∃ (u:Value) (cv gvv:Nat->Value),e=.returned u/\w'.ownsRow w.heap.size 57 4 u hs.length ((List.range hs.length).flatMap λk=>mJ (hd hs k) (cv k) (gvv k))/\(∀ k,k<hs.length->aE W0 (cv k) (hd hs k).pod.cs/\bl W0 (gvv k) (hd hs k).gs)/\Below w.heap.size w w':=by
 obtain ⟨ao,c,rfl,hm,hr⟩:=h;cases ao with
 | none=>
  refine (Eh _ _ _).mono ?_;rintro e w' ⟨rfl,rfl⟩;have h0:hs.length=0:=by
   apply Qt;intro h0;obtain ⟨b,o,cv,gvv,hb,_⟩:=hr (by omega);cases hb
  rw [h0];exact ⟨_,λ_=>.nilIface,λ_=>.nilIface,rfl,⟨rfl,.inl ⟨rfl,rfl⟩⟩,λk hk=>by omega,Q0 _ _⟩
 | some a=>
  by_cases h0:0<hs.length
  ·obtain ⟨b,o,cv,gvv,hb,hc⟩:=hr h0;cases hb;refine (tS ⟨b,o,none⟩ hs.length c ((List.range hs.length).flatMap λk=>mJ (hd hs k) (cv k) (gvv k)) w (ir (by intro _;rfl) _) (lf (sz:=4) (by decide) (by intro _;rfl) (λk hk i hi=>by
     match i,hi with
     | 0,_=>exact l.cell _ _ _ (hc.2 k hk).1.1
     | 1,_=>exact l.cell _ _ _ (hc.2 k hk).1.2.1
     | 2,_=>exact l.cell _ _ _ (hc.2 k hk).1.2.2.1
     | 3,_=>exact l.cell _ _ _ (hc.2 k hk).1.2.2.2)) (lg λk hk u hu=>?_) hl).mono ?_
   ·obtain ⟨na,nc,hv,_⟩:=(hc.2 k hk).2.1;obtain ⟨ma,mc,hv2,_⟩:=(hc.2 k hk).2.2;rw [hv,hv2] at hu
    simp [mJ] at hu
    rcases hu with rfl|rfl|rfl|rfl <;> rfl
   ·rintro e w' ⟨u,rfl,hrow,hb⟩;exact ⟨u,cv,gvv,rfl,hrow,λk hk=>(hc.2 k hk).2,hb⟩
  ·have e0:hs.length=0:=by omega
   refine (tS a hs.length c [] w (by rw [e0];rfl) (λj u hu=>by simp at hu) (λu hu=>(List.not_mem_nil hu).elim) hl).mono ?_;rintro e w' ⟨u,rfl,hrow,hb⟩;refine ⟨u,λ_=>.nilIface,λ_=>.nilIface,rfl,?_,λk hk=>absurd hk (by omega),hb⟩;rw [e0] at hrow ⊢;exact hrow
end
section
namespace Ol
open Ost (Cpu Wi af cnt dif aN)
open Dvs (Dv dv fits bA bP srt b8 bF nth sel fV kC kD rG ol)
open Qos (Nd Ct Pd ct aH)
open Sv (Gv Hd gv hd)
theorem ub {l:List Cpu} {F:Nat} {L:Int} {on:Nat} (h:(aN l F L on).2=0):(cnt (aN l F L on).1:Int)=L/\(aN l F L on).1 &&& F=(aN l F L on).1:=by
 unfold aN at h ⊢
 split
 ·rename_i h1;rw [if_pos h1] at h;cases h
 ·rename_i h1
  rw [if_neg h1] at h
  split
  ·rename_i h2;rw [if_pos h2] at h;cases h
  ·rename_i h2
   have:=Ost.BB (l:=l) (F:=F) (L:=L) on (by omega) (by omega) _ rfl
   exact ⟨this.1,this.2.1⟩
def gy (ds:List Dv) (k:ByteArray) (l:List Nat):Nat:=l.countP λj=>decide ((dv ds j).kind=k)
def it (k:ByteArray) (ns:List Nd):Int:=(ns.map λn=>if n.kind=k then n.many else 0).sum
theorem ud {ds:List Dv} {us:Nat->Bool} {kind:ByteArray} {m:Nat} {many:Int} (h:bP ds us kind many=0):((bA ds us kind m many.toNat).length:Int)=many:=by
 unfold bP at h
 split at h
 ·cases h
 ·split at h
  ·cases h
  ·unfold bA;rw [Qu,ol];omega
theorem Ez {ds:List Dv} {us:Nat->Bool} {kind:ByteArray} {m n:Nat} (k:ByteArray):gy ds k (bA ds us kind m n)=if kind=k then (bA ds us kind m n).length else 0:=by
 unfold gy
 by_cases hk:kind=k
 ·rw [if_pos hk,List.countP_eq_length];intro j hj;have h:=(fV hj).2;simp only [fits,Bool.and_eq_true,Qp] at h
  simp [h.1.1,hk]
 ·rw [if_neg hk,List.countP_eq_zero];intro j hj;have h:=(fV hj).2;simp only [fits,Bool.and_eq_true,Qp] at h
  simp [h.1.1,hk]
structure EA (ds:List Dv) (ns:List Nd) (us us':Nat->Bool) (new:List Nat):Prop where
 nodup:new.Nodup
 free:∀ j∈new,j<ds.length/\us j=false
 used:∀ j,us' j=(us j || decide (j∈new))
 kinds:∀ k,(gy ds k new:Int)=it k ns
theorem ue {ds:List Dv} (h16:ds.length<=16) (on:Nat):∀ (ns:List Nd) (us:Nat->Bool) (out:List Nat),(bR ds on ns us out).1=0->∃ new,(bR ds on ns us out).2.2=out++new/\EA ds ns us (bR ds on ns us out).2.1 new:=by
 intro ns
 induction ns with
 | nil=>intro us out _;exact ⟨[],by simp [bR],⟨List.nodup_nil,λ_ h=>(List.not_mem_nil h).elim,λj=>by simp [bR],λk=>by simp [gy,it]⟩⟩
 | cons n r ih=>
  intro us out h;rw [bR] at h ⊢
  by_cases hf:bP ds us n.kind n.many=0
  ·rw [if_pos hf] at h ⊢;obtain ⟨new,e,t⟩:=ih _ _ h;have hT16:∀ j∈bA ds us n.kind on n.many.toNat,j<16:=λj hj=>by have:=(fV hj).1;omega
   have hp:=kD hT16 (kC ds us n.kind on n.many.toNat);refine ⟨srt (bA ds us n.kind on n.many.toNat)++new,by rw [e,List.append_assoc],⟨?_,?_,?_,?_⟩⟩
   ·rw [List.nodup_append];refine ⟨hp.nodup_iff.2 (kC ds us n.kind on n.many.toNat),t.nodup,λa ha b hb e2=>?_⟩;subst e2;have h1:=(t.free a hb).2;unfold b8 at h1;rw [Bool.or_eq_false_iff,decide_eq_false_iff_not] at h1;exact h1.2 (hp.mem_iff.1 ha)
   ·intro j hj
    rcases Qi.1 hj with hj|hj
    ·have h1:=fV (hp.mem_iff.1 hj);refine ⟨h1.1,?_⟩;have h2:=h1.2;simp only [fits,Bool.and_eq_true,Bool.not_eq_true'] at h2;exact h2.2
    ·have h1:=t.free j hj;refine ⟨h1.1,?_⟩;have h2:=h1.2;unfold b8 at h2;rw [Bool.or_eq_false_iff] at h2;exact h2.1
   ·intro j;rw [t.used j];unfold b8;rw [Bool.or_assoc]
    congr 1
    rw [<- Bool.decide_or];apply decide_eq_decide.2;rw [Qi,hp.mem_iff]
   ·intro k;unfold gy;rw [List.countP_append,hp.countP_eq];have h1:=Ez (ds:=ds) (us:=us) (kind:=n.kind) (m:=on) (n:=n.many.toNat) k;unfold gy at h1;rw [h1];have h2:=t.kinds k;unfold gy at h2;have h3:=ud (m:=on) hf;unfold it;rw [Qq,List.sum_cons];unfold it at h2
    by_cases hk:n.kind=k
    ·rw [if_pos hk,if_pos hk];omega
    ·rw [if_neg hk,if_neg hk];omega
  ·rw [if_neg hf] at h;exact absurd h hf
theorem uf {α:Type} (l:List α):(l.map λ_=>(0:Int)).sum=0:=by
 induction l with
 | nil=>rfl
 | cons x r ih=>rw [Qq,List.sum_cons,ih];rfl
theorem EB {ns:List Nd} (hp:ns.Pairwise λa b=>a.kind≠b.kind) (k:ByteArray):it k ns=(dx ns k).getD 0:=by
 by_cases h:∃ n∈ns,n.kind=k
 ·obtain ⟨n,hn,rfl⟩:=h;unfold dx;rw [tW ns _ n hn hp]
  show it n.kind ns=n.many
  induction ns with
  | nil=>cases hn
  | cons x r ih=>
   obtain ⟨h1,h2⟩:=List.pairwise_cons.1 hp;unfold it;rw [Qq,List.sum_cons]
   rcases List.mem_cons.1 hn with rfl|hn
   ·rw [if_pos rfl]
    have:(r.map λy=>if y.kind=n.kind then y.many else 0).sum=0:=by
     have:(r.map λy=>if y.kind=n.kind then y.many else 0)=r.map λ_=>(0:Int):=List.map_congr_left λy hy=>by rw [if_neg (λe=>h1 y hy e.symm)]
     rw [this];exact uf r
    rw [this];omega
   ·rw [if_neg (h1 n hn)]
    have:=ih h2 hn
    unfold it at this;rw [this];omega
 ·have h':∀ n∈ns,n.kind≠k:=λn hn e=>h ⟨n,hn,e⟩
  unfold dx;rw [pk ns _ k h'];unfold it
  have:(ns.map λn=>if n.kind=k then n.many else 0)=ns.map λ_=>(0:Int):=List.map_congr_left λy hy=>by rw [if_neg (h' y hy)]
  rw [this];exact uf ns
def cu (l:List Nat):List Int:=l.map λ(k:Nat)=>(k:Int)
theorem EC (ds:List Dv) (k:ByteArray) (l:List Nat):cr ds k (cu l)=gy ds k l:=by
 unfold cr gy cu;rw [List.countP_map];rfl
theorem ED {l:List Nat} {j:Nat}:(j:Int)∈cu l↔j∈l:=by
 unfold cu;rw [Qk];constructor
 ·rintro ⟨x,hx,e⟩;have h:x=j:=by omega
  rw [h] at hx;exact hx
 ·exact λh=>⟨j,h,rfl⟩
theorem po {l:List Nat} {k:Nat} (h:k<l.length):nth (cu l) k=(l[k]:Int):=by simp [nth,cu,h]
theorem EE {l:List Int} (h:l.Nodup) {k:Nat} (hk:k<l.length):nth l k ∉ l.take k:=by
 intro hm;have e:nth l k=l[k]:=by simp [nth,hk]
 rw [e] at hm;rw [<- List.take_append_drop k l,List.nodup_append] at h;exact h.2.2 _ hm _ (by rw [List.drop_eq_getElem_cons hk];exact List.mem_cons_self ..) rfl
theorem EF {l:List Nat} (h:l.Nodup):(cu l).Nodup:=by
 unfold cu;rw [List.nodup_iff_pairwise_ne] at h ⊢;rw [List.pairwise_map];exact h.imp λhne e=>hne (by omega)
theorem ug (l:List Cpu) (F:Nat) (L:Int) (on:Nat):(aN l F L on).2=0\/(aN l F L on).2=1\/(aN l F L on).2=8:=by
 unfold aN
 split
 ·exact .inr (.inl rfl)
 ·split
  ·exact .inr (.inr rfl)
  ·exact .inl rfl
theorem EG {m:Mc} {s:Sk} {own:Int} {ns:List Nd} (h16:s.ds.length<=16) (hn:∀ n∈ns,n.many≠0) (hp:ns.Pairwise λa b=>a.kind≠b.kind) (h:(aY m s own ns).1=0) :
  cS s (aY m s own ns).2.1 own ns=some ⟨dif s.cp (aY m s own ns).2.1.cp,s.ds,(aY m s own ns).2.2⟩:=by
 unfold aY at h ⊢;dsimp only at h ⊢
 split
 ·rename_i h1;rw [if_pos h1] at h;cases h
 ·rename_i h1
  rw [if_neg h1] at h
  split
  ·rename_i h2;rw [if_pos h2] at h;exfalso;have h4:=ug m.l s.cp own (af (λc=>(place m (ce m s own ns)).1.1.testBit c.node.toNat) m.l);dsimp only at h;omega
  ·rename_i h2
   rw [if_neg h2] at h
   split
   ·rename_i h3;rw [if_pos h3] at h;exact absurd h h3
   ·rename_i h3
    have hd:(bR s.ds (place m (ce m s own ns)).1.1 ns s.us []).1=0:=by omega
    obtain ⟨new,e,t⟩:=ue h16 _ ns s.us [] hd;have ht:=ub (show (aN m.l s.cp own (af (λc=>(place m (ce m s own ns)).1.1.testBit c.node.toNat) m.l)).2=0 by omega);generalize (aN m.l s.cp own (af (λc=>(place m (ce m s own ns)).1.1.testBit c.node.toNat) m.l)).1=cp at *;generalize (bR s.ds (place m (ce m s own ns)).1.1 ns s.us []).2.1=us' at *;rw [e,List.nil_append];have hj16:∀ j∈new,j<16:=λj hj=>by have:=(t.free j hj).1;omega
    have hpm:=kD hj16 t.nodup;have key:cS s (⟨⟨cp,cu (srt new)⟩,own,ns⟩:Cl).g own ns=some (ey s ⟨⟨cp,cu (srt new)⟩,own,ns⟩):=by
     refine (gw (x:=⟨⟨cp,cu (srt new)⟩,own,ns⟩)).2 ⟨⟨ht.1,?_,λk hk=>?_⟩,⟨ht.2,λk hk=>?_⟩,rfl⟩
     ·refine (tV hn).2 λk=>?_
      rw [<- EB hp,<- t.kinds k]
      show ((gy s.ds k new:Nat):Int)=((cr s.ds k (cu (srt new)):Nat):Int)
      rw [EC];unfold gy;rw [hpm.countP_eq]
     ·have hk':k<(srt new).length:=by simpa [cu] using hk
      show 0<=nth (cu (srt new)) k/\nth (cu (srt new)) k<(s.ds.length:Int)/\nth (cu (srt new)) k ∉ (cu (srt new)).take k
      refine ⟨?_,?_,EE (EF (hpm.nodup_iff.2 t.nodup)) hk⟩
      ·rw [po hk'];omega
      ·rw [po hk']
       have:=(t.free _ (hpm.mem_iff.1 (List.getElem_mem hk'))).1
       omega
     ·have hk':k<(srt new).length:=by simpa [cu] using hk
      show s.us (nth (cu (srt new)) k).toNat=false
      rw [po hk',Int.toNat_natCast];exact (t.free _ (hpm.mem_iff.1 (List.getElem_mem hk'))).2
    have eus:bF s.us (cu (srt new))=us':=by
     funext j
     rw [t.used j];unfold bF
     congr 1
     apply decide_eq_decide.2;rw [ED,hpm.mem_iff]
    show cS s ⟨cp,cu (srt new)⟩ own ns=some ⟨dif s.cp cp,s.ds,us'⟩
    rw [<- eus];exact key
end Ol
end
section
namespace Ol
open Ost (Cpu af cnt dif)
open Dvs (Dv dv)
open Qos (Nd Ct Pd ct aH)
open Sv (Gv Hd gv hd)
def mK (cs:List Ct):Prop:=∀ c∈cs,(∀ n∈c.ds,n.many≠0)/\c.ds.Pairwise λa b=>a.kind≠b.kind
def gz (cs:List Ct) (gs:List Gv) (i:Nat):Cl:=⟨gv gs i,aH cs (ct cs i).am,(ct cs i).ds⟩
theorem lh (m:Mc) (s:Sk) (cs:List Ct):∀ k,(a6 m s cs k).1=0->(a6 m s cs k).2.1.length=k:=by
 intro k
 induction k with
 | zero=>intro _;rfl
 | succ k ih=>
  intro h;rw [a6] at h ⊢
  by_cases h0:(a6 m s cs k).1=0
  ·rw [if_pos h0] at h ⊢;unfold iq at h ⊢
   by_cases hg:(aY m (a6 m s cs k).2.2 (aH cs (ct cs k).am) (ct cs k).ds).1=0
   ·rw [if_pos hg];rw [Q2,ih h0];rfl
   ·rw [if_neg hg] at h;exact absurd h hg
  ·rw [if_neg h0] at h;exact absurd h h0
theorem pq {m:Mc} {s:Sk} {cs:List Ct} (h16:s.ds.length<=16) (hc:mK cs):∀ k,k<=cs.length->(a6 m s cs k).1=0->bI s ((List.range k).map (gz cs (a6 m s cs k).2.1))=some (a6 m s cs k).2.2/\(a6 m s cs k).2.2.ds=s.ds:=by
 intro k
 induction k with
 | zero=>intro _ _;exact ⟨rfl,rfl⟩
 | succ k ih=>
  intro hk h;have hl:=lh m s cs k;rw [a6] at h ⊢
  by_cases h0:(a6 m s cs k).1=0
  ·rw [if_pos h0] at h ⊢;obtain ⟨i1,i2⟩:=ih (by omega) h0;have hlen:=hl h0;generalize (a6 m s cs k).2.1=gs at *;generalize (a6 m s cs k).2.2=s' at *;unfold iq at h ⊢
   by_cases hg:(aY m s' (aH cs (ct cs k).am) (ct cs k).ds).1=0
   ·rw [if_pos hg];have hm:ct cs k∈cs:=Sv.iU (by omega);have hcl:=EG (m:=m) (s:=s') (own:=aH cs (ct cs k).am) (ns:=(ct cs k).ds) (by rw [i2];exact h16) (hc _ hm).1 (hc _ hm).2 hg;refine ⟨?_,i2⟩;generalize aY m s' (aH cs (ct cs k).am) (ct cs k).ds=g at *;dsimp only;rw [List.range_succ,Qj,k9];have e1:(List.range k).map (gz cs (gs++[g.2.1]))=(List.range k).map (gz cs gs):=by
     refine List.map_congr_left λi hi=>?_
     have hi':i<gs.length:=by rw [hlen];exact List.mem_range.1 hi
     unfold gz
     congr 1
     simp [gv,List.getElem?_append_left hi']
    rw [e1,i1,Option.bind_some,List.map_singleton,bI];have e2:gz cs (gs++[g.2.1]) k=⟨g.2.1,aH cs (ct cs k).am,(ct cs k).ds⟩:=by
     unfold gz
     congr 1
     simp [gv,<- hlen]
    rw [e2,hcl];rfl
   ·rw [if_neg hg] at h;exact absurd h hg
  ·rw [if_neg h0] at h;exact absurd h h0
theorem uh {m:Mc} {ds:List Dv} {hs hs':List Hd} {s:Sk} {p:Pd} (hl:left m ds hs=some s) (h16:s.ds.length<=16) (hc:mK p.cs) (hg:(give m s p).1=0) (hp:(hs++[(⟨p,(give m s p).2⟩:Hd)]).Perm hs') :
  left m ds hs'=some (a6 m s p.cs p.cs.length).2.2:=by
 refine tL hp (Ec hl ?_);have h:=(pq h16 hc p.cs.length (lR) hg).1;have hlen:=lh m s p.cs p.cs.length hg;unfold gP
 show bI s ((List.range (give m s p).2.length).map (gz p.cs (give m s p).2))=_
 have e:(give m s p).2.length=p.cs.length:=hlen;rw [e];exact h
theorem EH {m:Mc} {ds:List Dv} {hs hs':List Hd} {s:Sk} (h:left m ds hs=some s) (hsub:hs'.Sublist hs):∃ s',left m ds hs'=some s':=by
 obtain ⟨rest,hp⟩:=hsub.exists_perm_append;have h2:=tL hp h;unfold left at h2 ⊢
 split at h2
 ·rename_i h0
  rw [if_pos h0];rw [iV _ _ _ (lR),Qh] at h2 ⊢;rw [fH,List.flatMap_append,k9] at h2;obtain ⟨s1,e1,_⟩:=Option.bind_eq_some_iff.1 h2;exact ⟨s1,e1⟩
 ·cases h2
theorem j6 {m:Mc} {ds:List Dv} (h:Dvs.fault ds=0):left m ds []=some ⟨m.op,ds,λ_=>false⟩:=by
 unfold left;rw [if_pos h];rfl
theorem EI {s s':Sk}:∀ {l:List Cl},bI s l=some s'->s'.ds=s.ds:=by
 intro l
 induction l generalizing s with
 | nil=>intro h;injection h with h;rw [h]
 | cons x r ih=>
  intro h;rw [bI] at h;obtain ⟨s1,e1,e2⟩:=Option.bind_eq_some_iff.1 h;rw [ih e2,mI e1]
theorem fI {m:Mc} {ds:List Dv} {hs:List Hd} {s:Sk} (h:left m ds hs=some s):s.ds=ds:=by
 unfold left at h
 split at h
 ·rw [iV _ _ _ (lR),Qh] at h;exact EI h
 ·cases h
end Ol
end
