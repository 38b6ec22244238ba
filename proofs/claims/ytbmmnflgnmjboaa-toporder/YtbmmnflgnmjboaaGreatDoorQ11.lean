/- OMath, OA1, VR8, VP1, OF1, OI2, OMath2, OF3, VP2, OI3, OMath3, OG1, OG2, OMath4, OMath5 -/
import Derived.Test.YtbmmnflgnmjboaaGreatDoorQ8
import Derived.Test.YtbmmnflgnmjboaaGreatDoorQ6
import Derived.Test.YtbmmnflgnmjboaaGreatDoorQ10
import Derived.Shelf.Spec.SlicesInsertGrow
set_option maxRecDepth 100000
set_option maxHeartbeats 16000000
namespace Go.Proofs.YtbmmnflgnmjboaaGreatDoor
section
namespace Ol
open Ost (Cpu N4 Wi Hi chosen cnt dif takeOut told hints)
open Dvs (Dv dv fits kindP cn took takeF srt usedBy clF claimed first)
open Qos (Nd Ct Pd ct ownOf sumM sumB podF)
open Sv (Gv Hd gv hd)
structure Mc where
 l:List Cpu
 op:Nat
 nd:Nat
 nb:Int
 pol:Int
structure Sk where
 cp:Nat
 ds:List Dv
 us:Nat→Bool
def onNode (A:Nat) (l:List Cpu) (x:Nat):Nat:=((List.range l.length).filter fun k=>A.testBit k && decide ((l.getD k Ost.cpu0).node=(x:Int))).length
def cpu4 (A:Nat) (l:List Cpu):N4:=⟨onNode A l 0,onNode A l 1,onNode A l 2,onNode A l 3⟩
def dev4 (p:Nat→Bool) (ds:List Dv):N4:=⟨cn p ds 0 ds.length,cn p ds 1 ds.length,cn p ds 2 ds.length,cn p ds 3 ds.length⟩
def wish (free all:N4) (nd:Nat) (many:Int):Wi:=if many≤0 then ⟨true,[]⟩ else ⟨false,hints free all nd many⟩
def wishes (m:Mc) (s:Sk) (own:Int) (ns:List Nd):List Wi:=
 wish (cpu4 s.cp m.l) (cpu4 m.op m.l) m.nd own :: ns.map fun n=>wish (dev4 (fits s.ds s.us n.kind) s.ds) (dev4 (kindP s.ds n.kind) s.ds) m.nd n.many
def place (m:Mc) (ws:List Wi):Hi × Bool:=if m.pol=0 then ((m.nd,true),true) else (told m.pol m.nd ws,(told m.pol m.nd ws).2 || decide (m.pol=1))
def devsFor (ds:List Dv) (on:Nat):List Nd→(Nat→Bool)→List Nat→Nat × (Nat→Bool) × List Nat
 | [],us,out=>(0,us,out)
 | n :: r,us,out=>if takeF ds us n.kind n.many=0 then devsFor ds on r (usedBy us (took ds us n.kind on n.many.toNat)) (out++srt (took ds us n.kind on n.many.toNat)) else (takeF ds us n.kind n.many,us,out)
def giveOne (m:Mc) (s:Sk) (own:Int) (ns:List Nd):Nat × Gv × (Nat→Bool):=
 let p:=place m (wishes m s own ns)
 if p.2=false then (10,⟨0,[]⟩,s.us) else
 let t:=takeOut m.l s.cp own (chosen (fun c=>p.1.1.testBit c.node.toNat) m.l)
 if t.2≠0 then (t.2.toNat,⟨0,[]⟩,s.us) else
 let d:=devsFor s.ds p.1.1 ns s.us []
 if d.1≠0 then (d.1,⟨0,[]⟩,d.2.1) else (0,⟨t.1,(srt d.2.2).map fun (k:Nat)=>(k:Int)⟩,d.2.1)
def giveNext (m:Mc) (cs:List Ct) (k:Nat) (gs:List Gv) (s:Sk):Nat × List Gv × Sk:=
 if (giveOne m s (ownOf cs (ct cs k).am) (ct cs k).ds).1=0 then (0,gs++[(giveOne m s (ownOf cs (ct cs k).am) (ct cs k).ds).2.1],⟨dif s.cp (giveOne m s (ownOf cs (ct cs k).am) (ct cs k).ds).2.1.cp,s.ds,(giveOne m s (ownOf cs (ct cs k).am) (ct cs k).ds).2.2⟩)
 else ((giveOne m s (ownOf cs (ct cs k).am) (ct cs k).ds).1,[],⟨s.cp,s.ds,(giveOne m s (ownOf cs (ct cs k).am) (ct cs k).ds).2.2⟩)
def giveTo (m:Mc) (s:Sk) (cs:List Ct):Nat→Nat × List Gv × Sk
 | 0=>(0,[],s)
 | k+1=>
  if (giveTo m s cs k).1=0 then giveNext m cs k (giveTo m s cs k).2.1 (giveTo m s cs k).2.2 else giveTo m s cs k
def give (m:Mc) (s:Sk) (p:Pd):Nat × List Gv:=((giveTo m s p.cs p.cs.length).1,(giveTo m s p.cs p.cs.length).2.1)
def wantSet (m:ByteArray→Option Int) (k:ByteArray) (v:Option Int):ByteArray→Option Int:=fun x=>if x=k then v else m x
def want (ns:List Nd):ByteArray→Option Int:=ns.foldl (fun m n=>wantSet m n.kind (some n.many)) fun _=>none
def wantLess (ds:List Dv) (m:ByteArray→Option Int) (j:Int):ByteArray→Option Int:=
 let k:=(dv ds j.toNat).kind
 let v:=(m k).getD 0 - 1
 wantSet m k (if v=0 then none else some v)
def Just (ds:List Dv) (l:List Int) (ns:List Nd):Prop:=∀ k,l.foldl (wantLess ds) (want ns) k=none
open Classical in
noncomputable def claim (s:Sk) (g:Gv) (own:Int) (ns:List Nd):Option Sk:=
 if g.cp &&& s.cp=g.cp∧(cnt g.cp:Int)=own∧first (clF s.ds.length s.us g.dv) g.dv.length=0 then
  if Just s.ds g.dv ns then some ⟨dif s.cp g.cp,s.ds,claimed s.us g.dv⟩ else none
 else none
noncomputable def claimsTo (s:Sk) (h:Hd):Nat→Option Sk
 | 0=>some s
 | k+1=>(claimsTo s h k).bind fun s'=>claim s' (gv h.gs k) (ownOf h.pod.cs (ct h.pod.cs k).am) (ct h.pod.cs k).ds
noncomputable def leftTo (s:Sk) (hs:List Hd):Nat→Option Sk
 | 0=>some s
 | k+1=>(leftTo s hs k).bind fun s'=>claimsTo s' (hd hs k) (hd hs k).gs.length
noncomputable def left (m:Mc) (ds:List Dv) (hs:List Hd):Option Sk:=if Dvs.fault ds=0 then leftTo ⟨m.op,ds,fun _=>false⟩ hs hs.length else none
def sumsM (ps:List Pd):Int:=(ps.map fun p=>sumM p.cs p.cs.length).sum
def sumsB (ps:List Pd):Int:=(ps.map fun p=>sumB p.cs p.cs.length).sum
def room (m:Mc) (ps:List Pd):Bool:=decide (sumsM ps≤1000*(cnt m.op:Int)) && decide (sumsB ps≤m.nb)
end Ol
end
section
open Go.RowKit
open Qos (Nd Ct Pd nd ct pd)
open Sv (Gv Hd gv hd)
structure CellLe (W W':World):Prop where
 size:W.heap.size≤W'.heap.size
 cell:∀ (b o:Nat) (v:Value),W.cell? ⟨b,o,none⟩=some v→W'.cell? ⟨b,o,none⟩=some v
theorem CellLe.refl (W:World):CellLe W W:=⟨Nat.le_refl _,fun _ _ _ h=>h⟩
theorem CellLe.trans {A B C:World} (h:CellLe A B) (k:CellLe B C):CellLe A C:=⟨Nat.le_trans h.size k.size,fun b o v e=>k.cell b o v (h.cell b o v e)⟩
theorem CellLe.of_below {W W':World} (h:Below W.heap.size W W'):CellLe W W':=
 ⟨h.size,fun b o _ e=>(h.cell (p:=⟨b,o,none⟩) (World.block_lt_of_cell? W ⟨b,o,none⟩ e)).trans e⟩
theorem IntsOf.le {W W':World} {v:Value} {xs:List Int} (h:IntsOf W v xs) (l:CellLe W W'):IntsOf W' v xs:=by
 obtain ⟨ao,c,hv,hc,hr⟩:=h;refine ⟨ao,c,hv,hc,fun h0=>?_⟩;obtain ⟨b,o,ha,hlt,hcs⟩:=hr h0;exact ⟨b,o,ha,Nat.lt_of_lt_of_le hlt l.size,fun k hk=>l.cell _ _ _ (hcs k hk)⟩
theorem NeedsAt.le {W W':World} {v:Value} {ds:List Nd} (h:NeedsAt W v ds) (l:CellLe W W'):NeedsAt W' v ds:=by
 obtain ⟨ao,c,hv,hc,hr⟩:=h;refine ⟨ao,c,hv,hc,fun h0=>?_⟩;obtain ⟨b,o,ha,hlt,hcs⟩:=hr h0;exact ⟨b,o,ha,Nat.lt_of_lt_of_le hlt l.size,fun k hk=>⟨l.cell _ _ _ (hcs k hk).1,l.cell _ _ _ (hcs k hk).2⟩⟩
theorem ConsAt.le {W W':World} {v:Value} {cs:List Ct} (h:ConsAt W v cs) (l:CellLe W W'):ConsAt W' v cs:=by
 obtain ⟨ao,c,hv,hc,hr⟩:=h;refine ⟨ao,c,hv,hc,fun h0=>?_⟩;obtain ⟨b,o,dv,ha,hlt,hcs⟩:=hr h0;refine ⟨b,o,dv,ha,Nat.lt_of_lt_of_le hlt l.size,fun k hk=>⟨fun j hj=>?_,(hcs k hk).2.le l⟩⟩;have h6:j<(contCells (ct cs k) (dv k)).length:=hj;rw [List.getElem?_eq_getElem h6];exact l.cell _ _ _ (((hcs k hk).1 j hj).trans (List.getElem?_eq_getElem h6))
theorem GivsAt.le {W W':World} {v:Value} {gs:List Gv} (h:GivsAt W v gs) (l:CellLe W W'):GivsAt W' v gs:=by
 obtain ⟨ao,c,hv,hc,hr⟩:=h;refine ⟨ao,c,hv,hc,fun h0=>?_⟩;obtain ⟨b,o,dv,ha,hlt,hcs⟩:=hr h0;exact ⟨b,o,dv,ha,Nat.lt_of_lt_of_le hlt l.size,fun k hk=>⟨⟨l.cell _ _ _ (hcs k hk).1.1,l.cell _ _ _ (hcs k hk).1.2.1,(hcs k hk).1.2.2⟩,(hcs k hk).2.le l⟩⟩
theorem HldsAt.le {W W':World} {v:Value} {hs:List Hd} (h:HldsAt W v hs) (l:CellLe W W'):HldsAt W' v hs:=by
 obtain ⟨ao,c,hv,hc,hr⟩:=h;refine ⟨ao,c,hv,hc,fun h0=>?_⟩;obtain ⟨b,o,cv,gvv,ha,hlt,hcs⟩:=hr h0;exact ⟨b,o,cv,gvv,ha,Nat.lt_of_lt_of_le hlt l.size,fun k hk=>⟨⟨l.cell _ _ _ (hcs k hk).1.1,l.cell _ _ _ (hcs k hk).1.2.1,l.cell _ _ _ (hcs k hk).1.2.2.1,l.cell _ _ _ (hcs k hk).1.2.2.2⟩,(hcs k hk).2.1.le l,(hcs k hk).2.2.le l⟩⟩
open Classical in
noncomputable def mask (M:Nat→Prop) (W:World):World:={ W with heap:=W.heap.mapIdx fun j o=>if M j then .cells #[] 0 (0,0) else o }
theorem mask_size (M:Nat→Prop) (W:World):(mask M W).heap.size=W.heap.size:=by simp [mask]
theorem mask_in {M:Nat→Prop} {W:World} {j:Nat} (h:M j) (hl:j<W.heap.size):(mask M W).heap[j]?=some (.cells #[] 0 (0,0)):=by
 simp [mask,Array.getElem?_mapIdx,Array.getElem?_eq_getElem hl,h]
theorem mask_out {M:Nat→Prop} {W:World} {j:Nat} (h:¬ M j):(mask M W).heap[j]?=W.heap[j]?:=by
 simp only [mask,Array.getElem?_mapIdx];cases W.heap[j]? with
 | none=>rfl
 | some o=>simp [h]
theorem mask_free {M:Nat→Prop} {W:World} {b o:Nat} {v:Value} (h:(mask M W).cell? ⟨b,o,none⟩=some v):¬ M b:=fun hm=>by
 have hl:=World.block_lt_of_cell? _ ⟨b,o,none⟩ h;have hl2:b<W.heap.size:=by rw [mask_size] at hl;exact hl
 simp [World.cell?,mask_in hm hl2] at h
theorem mask_le {M M':Nat→Prop} {W W':World} (h:Apart M W W') (hm:∀ j,j<W.heap.size→M' j→M j):CellLe (mask M W) (mask M' W'):=by
 refine ⟨by rw [mask_size,mask_size];exact h.size,fun b o v e=>?_⟩;have hb:=mask_free e;have hl:b<W.heap.size:=by have:=World.block_lt_of_cell? _ ⟨b,o,none⟩ e;rw [mask_size] at this;exact this
 have e1:(mask M' W').heap[b]?=(mask M W).heap[b]?:=by
  rw [mask_out (fun k=>hb (hm b hl k)),mask_out hb];exact h.block b hl hb
 exact (World.cell?_of_block (a:=⟨b,o,none⟩) e1).trans e
theorem mask_off (M:Nat→Prop) (W:World):CellLe (mask M W) W:=by
 refine ⟨by rw [mask_size];exact Nat.le_refl _,fun b o v e=>?_⟩;exact (World.cell?_of_block (a:=⟨b,o,none⟩) (mask_out (mask_free e)).symm).trans e
theorem mask_below {M:Nat→Prop} {N:Nat} {w W:World} (h:Below N w W) (hN:w.heap.size=N) (hM:∀ j,M j→N≤j):CellLe w (mask M W):=by
 refine ⟨by rw [mask_size];exact h.size,fun b o v e=>?_⟩;have hl:b<N:=by rw [← hN];exact World.block_lt_of_cell? w ⟨b,o,none⟩ e
 have e1:(mask M W).heap[b]?=w.heap[b]?:=by
  rw [mask_out (fun k=>by have:=hM b k;omega)];exact h.block b hl
 exact (World.cell?_of_block (a:=⟨b,o,none⟩) e1).trans e
end
section
open Go.RowKit Go.Shelf
open Ost (splitC)
open Qos (Nd Ct Pd nd ct pd)
open Sv (Gv Hd gv hd wd)
open S1 (Mx)
attribute [local go_sem] Oper.semAt_some
def SomeQ (W:World) (base:Nat) (v:Value) (hs:List Hd):Prop:=(hs=[]∧v=.slice none 0 0)∨∃ el la,HeldQ W base v el la∧hs=(el++[la]).map Hp.hd
theorem infoHeldV:(Tryz.prog.info? 57).map (fun i=>(i.zero,i.size,i.bytes))=some (some (.agg #[.string ByteArray.empty,.int .i64 0,.slice none 0 0,.slice none 0 0]),4,72):=by kernel_rfl
end
section
open Go.RowKit Go.Shelf
open Qos (Nd Ct Pd nd ct pd)
open Sv (Gv Hd gv hd wd Tx sumTxt heldTxt heldF body readS)
open S1 (Mx)
namespace Sv
def sumW:Tx:=[115,117,109,32]
def sumAt (t:Tx):Int:=Lib.lastIndex t sumW
def cutS (t:Tx):Option Tx:=if 0≤sumAt t then if t.drop (sumAt t).toNat=sumTxt (t.take (sumAt t).toNat) then some (t.take (sumAt t).toNat) else none else none
end Sv
end
section
open Go.RowKit Go.Shelf
open Qos (Nd Ct Pd nd ct pd)
open Sv (Gv Hd gv hd)
attribute [local go_sem] Oper.semAt_some
def pCells (x:Pd × Value):List Value:=[.string x.1.nm,.int .i64 x.1.pr,x.2]
def rowP (l:List (Pd × Value)):List Value:=l.flatMap pCells
theorem rowP_snoc (l:List (Pd × Value)) (p:Pd × Value):rowP (l++[p])=rowP l++pCells p:=by simp [rowP]
def PodRow (W:World) (base:Nat) (v:Value) (ps:List Pd):Prop:=∃ l:List (Pd × Value),l.map Prod.fst=ps∧W.ownsRow base 47 3 v l.length (rowP l)∧∀ x∈l,ConsAt W x.2 x.1.cs
theorem infoPodV:(Tryz.prog.info? 47).map (fun i=>(i.zero,i.size,i.bytes))=some (some (.agg #[.string ByteArray.empty,.int .i64 0,.slice none 0 0]),3,48):=by kernel_rfl
theorem new_podV (w:World) (nm:ByteArray) (pr:Int) (cv:Value) (t:TypeId):∀ j u,(pCells (⟨nm,pr,[]⟩,cv))[j]?=some u→(w.alloc (.cells #[.string nm,.int .i64 pr,cv] t)).cell? ((⟨w.heap.size,0,none⟩:Addr).add j)=some u:=by
 intro j u hu;rw [Addr.add_lit,Nat.zero_add]
 match j,hu with
 | 0,hu=>simp [pCells] at hu;subst hu;simp
 | 1,hu=>simp [pCells] at hu;subst hu;simp
 | 2,hu=>simp [pCells] at hu;subst hu;simp
 | j+3,hu=>simp [pCells] at hu
theorem pCells_one (nm:ByteArray) (pr:Int) (a:Option Addr) (n c:Nat):∀ u∈pCells (⟨nm,pr,[]⟩,.slice a n c),u.oneCell'=true:=by
 intro u hu
 simp [pCells] at hu
 rcases hu with rfl|rfl|rfl <;> rfl
theorem podsOf_any (v:Value) (hs:List Hd) (w:World) (h:HldsAt w v hs) (hl:hs.length≤100):Calls Tryz.prog 51 #[v] w fun e w'=>∃ v',e=.returned v'∧PodRow w' w.heap.size v' (hs.map Hd.pod)∧Below w.heap.size w w':=by
 obtain ⟨i0,hi,hz0,hz1,hz2⟩:=info_parts infoPodV;obtain ⟨ao,c,rfl,hm,hr⟩:=h;unfold maxLen at hm;have HR:=qI hr;clear hr
 go_enter Tryz.func51,Tryz.ntmps51
 go_wp2_with fail
 go_loopw [3,8] (fun pv i wr=>∃ (k:Nat) (l:List (Pd × Value)),k≤hs.length∧i=.int .i64 k∧l.length=k∧l.map Prod.fst=(hs.take k).map Hd.pod∧wr.ownsRow w.heap.size 47 3 pv l.length (rowP l)∧(∀ x∈l,ConsAt w x.2 x.1.cs)∧Below w.heap.size w wr) (fun _ i _=>hs.length - (intOf i).toNat)
 case atStart=>exact ⟨0,[],by omega,rfl,rfl,rfl,World.ownsRow_nil _ _ _ _,fun x hx=>(List.not_mem_nil hx).elim,Below.refl _ _⟩
 case round=>
  obtain ⟨k,l,hk,rfl,hlk,hmap,hrow,hcs,hb⟩:=hrel;have HLK:=qI hlk;have HMAP:=qI hmap;have HCS:=qI hcs;have HB:=qI hb;have hln:l.length≤100:=by omega
  have hsz:=hb.size;clear hlk hmap hcs
  by_cases hlt:k<hs.length
  ·obtain ⟨b,o,cv,gvv,rfl,hin⟩:=HR.out (by omega);obtain ⟨x0,x1,x2,x3⟩:=((hin.below hb).2 k hlt).1;have hcon:=(hin.2 k hlt).2.1;have HTK:Hid ((hs.take (k+1)).map Hd.pod=(hs.take k).map Hd.pod++[(hd hs k).pod]):=by
    unfold Hid;rw [List.take_succ_eq_append_getElem hlt,List.map_append];simp [hd,hlt]
   have HCON:=qI hcon;obtain ⟨ca,cc,hcv,_,_⟩:=id hcon;rw [hcv] at x2 HCON;obtain ⟨ga,gc,hgv,_,_⟩:=id (hin.2 k hlt).2.2;rw [hgv] at x3;clear hin hcon hb hcv hgv;generalize hd hs k=x at *;obtain ⟨⟨xn,xp,xc⟩,xg⟩:=x;dsimp only at x0 x1 x2 x3 HCON HTK;obtain ⟨va,vc,hv⟩:=own_slice hrow;subst hv;have hA:=(Below.refl wr.heap.size wr).alloc (Nat.le_refl _) (.cells #[.string xn,.int .i64 xp,.slice ca xc.length cc,.slice ga xg.length gc] 57);have hrow2:=hrow.alloc (.cells #[.string xn,.int .i64 xp,.slice ca xc.length cc,.slice ga xg.length gc] 57);have HBA:=qI (HB.out.trans (hA.mono HB.out.size));have hsA:w.heap.size≤(wr.alloc (.cells #[.string xn,.int .i64 xp,.slice ca xc.length cc,.slice ga xg.length gc] 57)).heap.size:=by simp;omega
   have hnew:=new_podV (wr.alloc (.cells #[.string xn,.int .i64 xp,.slice ca xc.length cc,.slice ga xg.length gc] 57)) xn xp (.slice ca xc.length cc) 47;rw [show (wr.alloc (.cells #[.string xn,.int .i64 xp,.slice ca xc.length cc,.slice ga xg.length gc] 57)).heap.size=wr.heap.size+1 by simp] at hnew;have HNW:=qI hnew;have hbs:w.heap.size≤((wr.alloc (.cells #[.string xn,.int .i64 xp,.slice ca xc.length cc,.slice ga xg.length gc] 57)).alloc (.cells #[.string xn,.int .i64 xp,.slice ca xc.length cc] 47)).heap.size:=by simp;omega
   clear hA hnew hrow
   go_wp2_with (at_builtin;refine wpList_append_own _ rfl _ _ 70 rfl w.heap.size 47 i0 _ 3 48 Tryz.underlying70 hi hz0 hz1 hz2 rfl (by decide) _ _ _ rfl (hrow2.alloc _) ⟨_,0,none⟩ 1 1 (pCells (⟨xn,xp,[]⟩,.slice ca xc.length cc)) rfl rfl HNW.out (pCells_one xn xp ca xc.length cc) (by unfold maxLen;omega) (by omega) hbs ?_;intro v' W2 hown' hgrow' _)
   go_roundw
   case rel=>
    refine ⟨k+1,l++[(⟨xn,xp,xc⟩,.slice ca xc.length cc)],by omega,by go_num,by rw [List.length_append,HLK.out];rfl,by rw [List.map_append,HMAP.out,HTK.out];rfl,?_,fun y hy=>?_,?_⟩
    ·rw [rowP_snoc,List.length_append];exact hown'
    ·rcases List.mem_append.1 hy with hy|hy
     ·exact HCS.out y hy
     ·rw [List.mem_singleton.1 hy];exact HCON.out
    ·exact (HBA.out.alloc hsA _).grown hgrow' (by simp;omega) (fun j hj=>(hrow2.lt j hj).1)
   case measure=>simp [intOf];omega
  ·have hke:k=hs.length:=by omega
   have HE:Hid (l.map Prod.fst=hs.map Hd.pod):=by unfold Hid;rw [HMAP.out,hke,List.take_length]
   clear hke
   go_wp2_with fail
   go_ret;exact ⟨_,rfl,⟨l,HE.out,hrow,fun x hx=>(HCS.out x hx).below HB.out⟩,HB.out⟩
end
section
open Go.RowKit Go.Shelf Go.Lib
attribute [local go_sem] Oper.semAt_some
theorem infoHeldI:(Tryz.prog.info? 57).map (fun i=>(i.zero,i.size,i.bytes))=some (some (.agg #[.string ByteArray.empty,.int .i64 0,.slice none 0 0,.slice none 0 0]),4,72):=by kernel_rfl
theorem sizeHeldI:(Tryz.prog.info? 57).map (·.size)=some 4:=by kernel_rfl
theorem run_copyH (w:World) (ty:TypeId) (b o dLen dCap:Nat) (a:Addr) (sLen sCap:Nat) (cs:List Value) (hn:cs.length=Nat.min sLen dLen*4)
  (hsrc:∀ j v,cs[j]?=some v→w.cell? (a.add j)=some v) (hc:∀ j,j<cs.length→(w.cell? ⟨b,o+j,none⟩).isSome=true) (hf:∀ j,j<cs.length→w.frozen? ⟨b,o+j,none⟩=false) (h1:∀ v∈cs,v.oneCell'=true) :
  (Builtin.copy_ #[53,53] ty #[.slice (some ⟨b,o,none⟩) dLen dCap,.slice (some a) sLen sCap]).run Tryz.prog w=.ok (goInt (Nat.min sLen dLen)) (w.setCells b o cs):=by
 have hl:=run_loadCells_list (P:=Tryz.prog) w a cs hsrc;have hst:=run_storeCells_cells (P:=Tryz.prog) b o cs 0 w (by simpa using hc) (by simpa using hf) h1;have hs:=sizeHeldI;cases hq:Tryz.prog.info? 57 with
 | none=>rw [hq] at hs;cases hs
 | some i=>
  have hi:i.size=4:=by rw [hq] at hs;simpa using hs
  rw [hn] at hl
  simp [Builtin.copy_,run_underlying Tryz.underlying53,Builtin.lenOf,Builtin.firstCells,sizeOf,typeInfo,hq,hi,hl,hst]
theorem insert_shift (b n c i vb voff vc:Nat) (cs vs:List Value) (w:World) (hi:i<n) (hroom:n+1≤c) (hc63:c≤9223372036854775807) (hvb:vb≠b)
  (hcl:cs.length=n*4) (hvl:vs.length=4)
  (hcs:∀ j v,cs[j]?=some v→w.cell? ⟨b,j,none⟩=some v) (hsp:∀ j,j<(n+1)*4→(w.cell? ⟨b,j,none⟩).isSome=true) (hfz:∀ j,w.frozen? ⟨b,j,none⟩=false)
  (hvs:∀ j v,vs[j]?=some v→w.cell? ⟨vb,voff+j,none⟩=some v) (h1c:∀ v∈cs,v.oneCell'=true) (h1v:∀ v∈vs,v.oneCell'=true)
  (tA tB:TypeId) (kA kB:Nat) (hsa:w.shape? vb=some (tA,kA)) (hsb:w.shape? b=some (tB,kB)) (hkB:kB≠0) (hfa:w.frozen? ⟨vb,voff,none⟩=false) (hfe:w.frozen? ⟨vb,kA,none⟩=false) :
  Calls Tryz.prog 54 #[.slice (some ⟨b,0,none⟩) n c,.int .i64 i,.slice (some ⟨vb,voff,none⟩) 1 vc] w fun e w'=>
   e=.returned (.slice (some ⟨b,0,none⟩) (n+1) c)∧w'=(w.drew.setCells b ((i+1)*4) (cs.drop (i*4))).setCells b (i*4) vs:=by
 have hz2:¬ ((i:Int)=(n:Int)):=by omega
 have hov:∀ lb cb,(callFunc 95 #[.slice (some ⟨vb,voff,none⟩) 1 vc,.slice (some ⟨b,(i+1)*4,none⟩) lb cb]).run Tryz.prog w=.ok (.value (.bool false)) w:=fun lb cb=>by
  rw [run_callFunc_extern Tryz.func95 (by kernel_rfl) (by kernel_rfl) (by kernel_rfl) (e:=Extern.SlicesOverlaps.overlaps #[53,53] #[4]) (by kernel_rfl),
   Lib.run_overlaps_apart w 53 4 57 Tryz.underlying53 4 Tryz.sizeOf57 ⟨vb,voff,none⟩ ⟨b,(i+1)*4,none⟩ 1 vc lb cb hvb tA tB kA kB hsa hsb hkB hfa hfe]
  rfl
 have hdl:(cs.drop (i*4)).length=(n - i)*4:=by rw [List.length_drop,hcl];omega
 have hcp1:∀ ty dc sc,(Builtin.copy_ #[53,53] ty #[.slice (some ⟨b,(i+1)*4,none⟩) (n - i) dc,.slice (some ⟨b,i*4,none⟩) (n+1 - i) sc]).run Tryz.prog w.drew=.ok (goInt (Nat.min (n+1 - i) (n - i))) (w.drew.setCells b ((i+1)*4) (cs.drop (i*4))):=fun ty dc sc=>
  run_copyH w.drew ty b ((i+1)*4) (n - i) dc ⟨b,i*4,none⟩ (n+1 - i) sc (cs.drop (i*4)) (by rw [hdl];simp only [Nat.min_def];split <;> omega)
   (fun j v hj=>by rw [Addr.add_lit];exact hcs (i*4+j) v (by rwa [List.getElem?_drop] at hj))
   (fun j hj=>hsp _ (by omega)) (fun j hj=>hfz _) (fun v hv=>h1c v (List.mem_of_mem_drop hv))
 obtain ⟨W1,hW1⟩:∃ W1,W1=w.drew.setCells b ((i+1)*4) (cs.drop (i*4)):=⟨_,rfl⟩;have hsp1:∀ k,k<(n+1)*4→(W1.cell? ⟨b,k,none⟩).isSome=true:=fun k hk=>by
  rw [hW1];exact isSome_setCells b (cs.drop (i*4)) ((i+1)*4) w.drew (fun j hj=>hsp _ (by rw [hdl] at hj;omega)) k (hsp k hk)
 have hcp2:∀ (W:World),(∀ x,W.cell? x=W1.cell? x)→(∀ x,W.frozen? x=W1.frozen? x)→∀ ty dc,(Builtin.copy_ #[53,53] ty #[.slice (some ⟨b,i*4,none⟩) (n+1 - i) dc,.slice (some ⟨vb,voff,none⟩) 1 vc]).run Tryz.prog W=.ok (goInt (Nat.min 1 (n+1 - i))) (W.setCells b (i*4) vs):=fun W hWc hWf ty dc=>
  run_copyH W ty b (i*4) (n+1 - i) dc ⟨vb,voff,none⟩ 1 vc vs (by rw [hvl];simp only [Nat.min_def];split <;> omega)
   (fun j v hj=>by
    rw [Addr.add_lit,hWc,hW1,World.cell?_setCells_out b _ _ _ _ (fun h _=>absurd h hvb)];exact hvs j v hj)
   (fun j hj=>by rw [hWc];exact hsp1 _ (by omega)) (fun j hj=>by rw [hWf,hW1,World.frozen?_setCells];exact hfz _) h1v
 rw [← hW1] at hcp1;have hin:i≤n:=by omega
 have htn:((i:Int)+1).toNat=i+1:=by omega
 have hb2:¬ (c=i+1):=by omega
 have hb3:(i:Int)≤(n:Int)+1:=by omega
 have hb4:¬ (c=i):=by omega
 have mixed:Tryz.prog.follows .mixedOrders=true:=by kernel_rfl
 have hw1:IntKind.i64.wrap ((i:Int)+1)=(i:Int)+1:=by rw [IntKind.wrap_i64];omega
 have hb1:(0:Int)≤(i:Int)+1:=by omega
 have hb5:(i:Int)+1≤(n:Int)+1:=by omega
 clear hcs hsp hvs hsp1 hdl hcl
 go_enter Tryz.func54,Tryz.ntmps54
 go_wp2_with (simp only [hov])
 go_region_law_o (refine step_copy_runI rfl _ _ 53 53 rfl _ _ (by simp [Act.eval,Act.put]) (by simp [Act.eval,Act.put]) (hcp1 _ _ _) ?_)
 go_wp2_with (at_builtin;refine wpList_copy_runI _ rfl _ _ 53 53 rfl _ _ rfl rfl (hcp2 _ (fun _=>rfl) (fun _=>rfl) _ _) ?_)
 go_ret
 first|exact ⟨rfl,rfl⟩|exact ⟨rfl,by rw [hW1]⟩
end
section
namespace Ol
open Ost (Cpu chosen cnt dif)
open Dvs (Dv dv clF claimed first nth first_all first_none)
open Qos (Nd Ct Pd ct ownOf)
open Sv (Gv Hd gv hd)
structure Cl where
 g:Gv
 own:Int
 ns:List Nd
def Fine (ds:List Dv) (x:Cl):Prop:=(cnt x.g.cp:Int)=x.own∧Just ds x.g.dv x.ns∧(∀ k,k<x.g.dv.length→0≤nth x.g.dv k∧nth x.g.dv k<ds.length∧nth x.g.dv k ∉ x.g.dv.take k)
def Frees (s:Sk) (x:Cl):Prop:=x.g.cp &&& s.cp=x.g.cp∧∀ k,k<x.g.dv.length→s.us (nth x.g.dv k).toNat=false
def took1 (s:Sk) (x:Cl):Sk:=⟨dif s.cp x.g.cp,s.ds,claimed s.us x.g.dv⟩
theorem clF_zero {n:Nat} {us:Nat→Bool} {l:List Int} {k:Nat}:clF n us l k=0↔(0≤nth l k∧nth l k<n∧nth l k ∉ l.take k)∧us (nth l k).toNat=false:=by
 unfold clF
 by_cases h1:nth l k<0∨(n:Int)≤nth l k
 ·rw [if_pos h1];constructor
  ·intro h;cases h
  ·rintro ⟨⟨a,b,_⟩,_⟩;omega
 ·rw [if_neg h1]
  by_cases h2:(us (nth l k).toNat || decide (nth l k∈l.take k))=true
  ·rw [if_pos h2];constructor
   ·intro h;cases h
   ·rintro ⟨⟨_,_,c⟩,d⟩;rw [d,Bool.false_or,decide_eq_true_eq] at h2;exact absurd h2 c
  ·rw [if_neg h2];rw [Bool.not_eq_true,Bool.or_eq_false_iff,decide_eq_false_iff_not] at h2;exact ⟨fun _=>⟨⟨by omega,by omega,h2.2⟩,h2.1⟩,fun _=>rfl⟩
theorem claim_iff {s s':Sk} {x:Cl}:claim s x.g x.own x.ns=some s'↔Fine s.ds x∧Frees s x∧s'=took1 s x:=by
 unfold claim
 by_cases h:x.g.cp &&& s.cp=x.g.cp∧(cnt x.g.cp:Int)=x.own∧first (clF s.ds.length s.us x.g.dv) x.g.dv.length=0
 ·rw [if_pos h];obtain ⟨h1,h2,h3⟩:=h;have h4:=first_all h3
  by_cases hj:Just s.ds x.g.dv x.ns
  ·rw [if_pos hj];constructor
   ·intro e;injection e with e
    exact ⟨⟨h2,hj,fun k hk=>(clF_zero.1 (h4 k hk)).1⟩,⟨h1,fun k hk=>(clF_zero.1 (h4 k hk)).2⟩,e.symm⟩
   ·rintro ⟨_,_,rfl⟩;rfl
  ·rw [if_neg hj];exact ⟨fun e=>(by cases e),fun e=>absurd e.1.2.1 hj⟩
 ·rw [if_neg h];constructor
  ·intro e;cases e
  ·rintro ⟨⟨a,b,c⟩,⟨d,e⟩,_⟩;exact absurd ⟨d,a,first_none fun k hk=>clF_zero.2 ⟨c k hk,e k hk⟩⟩ h
theorem nth_mem {l:List Int} {k:Nat} (h:k<l.length):nth l k∈l:=by simp [nth,h]
theorem mem_nth {l:List Int} {x:Int} (h:x∈l):∃ k,k<l.length∧nth l k=x:=by
 obtain ⟨k,hk,e⟩:=List.getElem_of_mem h;exact ⟨k,hk,by simp [nth,hk,e]⟩
theorem claimed_false {us:Nat→Bool} {l:List Int} {j:Nat}:claimed us l j=false↔us j=false∧(j:Int) ∉ l:=by
 unfold claimed;simp
theorem frees_swap {s:Sk} {x y:Cl} (hx:Fine s.ds x) (hy:Fine s.ds y) (h1:Frees s x) (h2:Frees (took1 s x) y):Frees s y∧Frees (took1 s y) x:=by
 have hb:∀ i,y.g.cp.testBit i=true→s.cp.testBit i=true∧x.g.cp.testBit i=false:=fun i hi=>by
  have e:=congrArg (fun n=>Nat.testBit n i) h2.1;simp only [took1,Nat.testBit_and,Ost.dif_bit,hi,Bool.true_and] at e;cases hs:s.cp.testBit i <;> cases hx:x.g.cp.testBit i <;> simp_all
 have hxb:∀ i,x.g.cp.testBit i=true→s.cp.testBit i=true:=fun i hi=>by
  have e:=congrArg (fun n=>Nat.testBit n i) h1.1
  simpa [Nat.testBit_and,hi] using e
 have hd:∀ k,k<y.g.dv.length→s.us (nth y.g.dv k).toNat=false∧nth y.g.dv k ∉ x.g.dv:=fun k hk=>by
  have e:=claimed_false.1 (h2.2 k hk);have h0:=(hy.2.2 k hk).1;rw [Int.toNat_of_nonneg h0] at e;exact e
 refine ⟨⟨?_,fun k hk=>(hd k hk).1⟩,?_,fun k hk=>?_⟩
 ·apply Nat.eq_of_testBit_eq;intro i;rw [Nat.testBit_and];cases hi:y.g.cp.testBit i with
  | false=>rfl
  | true=>rw [(hb i hi).1];rfl
 ·apply Nat.eq_of_testBit_eq;intro i;simp only [took1,Nat.testBit_and,Ost.dif_bit];cases hi:x.g.cp.testBit i with
  | false=>rfl
  | true=>
   rw [hxb i hi];cases hj:y.g.cp.testBit i with
   | false=>rfl
   | true=>rw [(hb i hj).2] at hi;cases hi
 ·refine claimed_false.2 ⟨h1.2 k hk,fun hm=>?_⟩;have h0:=(hx.2.2 k hk).1;rw [Int.toNat_of_nonneg h0] at hm;obtain ⟨j,hj,e⟩:=mem_nth hm;exact (hd j hj).2 (by rw [e];exact nth_mem hk)
theorem took_swap (s:Sk) (x y:Cl):took1 (took1 s x) y=took1 (took1 s y) x:=by
 unfold took1
 congr 1
 ·apply Nat.eq_of_testBit_eq;intro i;simp only [Ost.dif_bit];cases s.cp.testBit i <;> cases x.g.cp.testBit i <;> cases y.g.cp.testBit i <;> rfl
 ·funext j
  unfold claimed;rw [Bool.or_assoc,Bool.or_assoc,Bool.or_comm (decide _) (decide _)]
noncomputable def claims (s:Sk):List Cl→Option Sk
 | []=>some s
 | x :: r=>(claim s x.g x.own x.ns).bind fun s'=>claims s' r
theorem claims_app (a b:List Cl):∀ s,claims s (a++b)=(claims s a).bind fun s'=>claims s' b:=by
 induction a with
 | nil=>intro s;rfl
 | cons x r ih=>
  intro s;rw [List.cons_append,claims,claims,Option.bind_assoc]
  congr 1
  funext s'
  exact ih s'
theorem claim_ds {s s':Sk} {x:Cl} (h:claim s x.g x.own x.ns=some s'):s'.ds=s.ds:=by
 rw [(claim_iff.1 h).2.2];rfl
theorem claims_perm {a b:List Cl} (h:a.Perm b):∀ {s s':Sk},claims s a=some s'→claims s b=some s':=by
 induction h with
 | nil=>intro s s' e;exact e
 | cons x _ ih=>
  intro s s' e;rw [claims] at e ⊢;obtain ⟨s1,h1,h2⟩:=Option.bind_eq_some_iff.1 e;rw [h1,Option.bind_some];exact ih h2
 | swap x y l=>
  intro s s' e;rw [claims] at e;obtain ⟨s1,h1,h2⟩:=Option.bind_eq_some_iff.1 e;rw [claims] at h2;obtain ⟨s2,h3,h4⟩:=Option.bind_eq_some_iff.1 h2;obtain ⟨a1,a2,rfl⟩:=claim_iff.1 h1;obtain ⟨b1,b2,rfl⟩:=claim_iff.1 h3;obtain ⟨c1,c2⟩:=frees_swap a1 b1 a2 b2;have d1:claim s x.g x.own x.ns=some (took1 s x):=claim_iff.2 ⟨b1,c1,rfl⟩;have d2:claim (took1 s x) y.g y.own y.ns=some (took1 (took1 s x) y):=claim_iff.2 ⟨a1,c2,rfl⟩;rw [claims,d1,Option.bind_some,claims,d2,Option.bind_some,took_swap];exact h4
 | trans _ _ ih1 ih2=>intro s s' e;exact ih2 (ih1 e)
def clsOf (h:Hd):List Cl:=(List.range h.gs.length).map fun k=>⟨gv h.gs k,ownOf h.pod.cs (ct h.pod.cs k).am,(ct h.pod.cs k).ds⟩
def clsAll (hs:List Hd):List Cl:=hs.flatMap clsOf
theorem claimsTo_eq (h:Hd) (s:Sk):∀ k,claimsTo s h k=claims s ((List.range k).map fun k=>⟨gv h.gs k,ownOf h.pod.cs (ct h.pod.cs k).am,(ct h.pod.cs k).ds⟩):=by
 intro k
 induction k with
 | zero=>rfl
 | succ k ih=>
  rw [claimsTo,ih,List.range_succ,List.map_append,claims_app]
  congr 1
  funext s'
  rw [List.map_singleton,claims];cases claim s' (gv h.gs k) (ownOf h.pod.cs (ct h.pod.cs k).am) (ct h.pod.cs k).ds <;> rfl
theorem leftTo_eq (hs:List Hd) (s:Sk):∀ k,k≤hs.length→leftTo s hs k=claims s (clsAll (hs.take k)):=by
 intro k
 induction k with
 | zero=>intro _;rfl
 | succ k ih=>
  intro hk;have hk':k<hs.length:=hk;rw [leftTo,ih (by omega),List.take_succ_eq_append_getElem hk']
  show _=claims s ((hs.take k++[hs[k]]).flatMap clsOf)
  rw [List.flatMap_append,claims_app]
  show (claims s (clsAll (hs.take k))).bind _=(claims s (clsAll (hs.take k))).bind _
  congr 1
  funext s'
  rw [claimsTo_eq];have e:hd hs k=hs[k]:=by simp [hd,hk']
  rw [e]
  simp [clsOf]
theorem left_perm {m:Mc} {ds:List Dv} {hs hs':List Hd} {s:Sk} (hp:hs.Perm hs') (h:left m ds hs=some s):left m ds hs'=some s:=by
 unfold left at h ⊢
 split at h
 ·rename_i h0
  rw [if_pos h0];rw [leftTo_eq _ _ _ (Nat.le_refl _),List.take_length] at h ⊢;exact claims_perm (hp.flatMap_right clsOf) h
 ·cases h
theorem left_snoc {m:Mc} {ds:List Dv} {hs:List Hd} {x:Hd} {s s':Sk} (h:left m ds hs=some s) (h2:claims s (clsOf x)=some s'):left m ds (hs++[x])=some s':=by
 unfold left at h ⊢
 split at h
 ·rename_i h0
  rw [if_pos h0];rw [leftTo_eq _ _ _ (Nat.le_refl _),List.take_length] at h ⊢;rw [clsAll,List.flatMap_append,claims_app];have h':claims ⟨m.op,ds,fun _=>false⟩ (hs.flatMap clsOf)=some s:=h;rw [h',Option.bind_some]
  simpa using h2
 ·cases h
end Ol
end
section
open Go.RowKit Go.Shelf
attribute [local go_sem] Oper.semAt_some
theorem eqNilNeedO (a:Option Addr) (n c:Nat) (w:World):Sem.run Tryz.prog (binOp .eql 61 (.slice a n c) (.slice none 0 0)) w=.ok (.bool a.isNone) w:=Lib.run_eql_slice_nil w _ _ a n c 0 0 Tryz.underlying61
theorem cloneNeed_at (a:Addr) (n c:Nat) (cs:List Value) (w:World) (hlen:cs.length=n*2) (hc:∀ j u,cs[j]?=some u→w.cell? (a.add j)=some u) (h1:∀ u∈cs,u.oneCell'=true) (hl:n≤1000) :
  Calls Tryz.prog 80 #[.slice (some a) n c] w fun e w'=>∃ v,e=.returned v∧w'.ownsRow w.heap.size 109 2 v n cs∧Below w.heap.size w w':=by
 obtain ⟨i0,hi,hz0,hz1,hz2⟩:=info_parts infoNeedV;have HB:=qI ((Below.refl w.heap.size w).alloc (Nat.le_refl _) (.cells #[] 109));have HC:Hid (∀ j u,cs[j]?=some u→(w.alloc (.cells #[] 109)).cell? (a.add j)=some u):=fun j u hj=>Lib.cell?_alloc_some _ (hc j u hj)
 have H1:=qI h1;have HLEN:=qI hlen;have hnil:=eqNilNeedO (some a) n c w;clear hc h1 hlen
 go_enter Tryz.func80,Tryz.ntmps80
 go_wp2_with (at_builtin;(refine wpList_append_own _ rfl _ _ 61 rfl w.heap.size 109 i0 (.agg #[.string ByteArray.empty,.int .i64 0]) 2 24 Tryz.underlying61 hi hz0 hz1 hz2 rfl (by decide) _ _ _ rfl (World.ownsRow_lit w #[] 0 (Nat.le_refl _) (Nat.zero_le _) rfl) a n c cs rfl HLEN.out HC.out H1.out (by unfold maxLen;omega) (by omega) (by simp) ?_;intro v' w1 hown' hgrow' _))
 have hB1:=qI (HB.out.grown hgrow' (by simp) (fun j hj=>by cases hj;exact Nat.le_refl _));rw [Nat.zero_add] at hown';have HO:=qI (show w1.ownsRow w.heap.size 109 2 v' n cs by simpa using hown');clear hown' hgrow'
 go_wp2_with fail
 go_ret;exact ⟨_,rfl,HO.out,hB1.out⟩
theorem cloneNeed_nil (n c:Nat) (w:World):Calls Tryz.prog 80 #[.slice none n c] w fun e w'=>e=.returned (.slice none 0 0)∧w'=w:=by
 have hnil:=eqNilNeedO none n c w
 go_enter Tryz.func80,Tryz.ntmps80
 go_wp2_with fail
 go_ret;exact ⟨rfl,rfl⟩
theorem eqNilContO (a:Option Addr) (n c:Nat) (w:World):Sem.run Tryz.prog (binOp .eql 45 (.slice a n c) (.slice none 0 0)) w=.ok (.bool a.isNone) w:=Lib.run_eql_slice_nil w _ _ a n c 0 0 Tryz.underlying45
theorem cloneCont_at (a:Addr) (n c:Nat) (cs:List Value) (w:World) (hlen:cs.length=n*6) (hc:∀ j u,cs[j]?=some u→w.cell? (a.add j)=some u) (h1:∀ u∈cs,u.oneCell'=true) (hl:n≤1000) :
  Calls Tryz.prog 79 #[.slice (some a) n c] w fun e w'=>∃ v,e=.returned v∧w'.ownsRow w.heap.size 63 6 v n cs∧Below w.heap.size w w':=by
 obtain ⟨i0,hi,hz0,hz1,hz2⟩:=info_parts infoContV;have HB:=qI ((Below.refl w.heap.size w).alloc (Nat.le_refl _) (.cells #[] 63));have HC:Hid (∀ j u,cs[j]?=some u→(w.alloc (.cells #[] 63)).cell? (a.add j)=some u):=fun j u hj=>Lib.cell?_alloc_some _ (hc j u hj)
 have H1:=qI h1;have HLEN:=qI hlen;have hnil:=eqNilContO (some a) n c w;clear hc h1 hlen
 go_enter Tryz.func79,Tryz.ntmps79
 go_wp2_with (at_builtin;(refine wpList_append_own _ rfl _ _ 45 rfl w.heap.size 63 i0 (.agg #[.string ByteArray.empty,.int .i64 0,.int .i64 0,.int .i64 0,.int .i64 0,.slice none 0 0]) 6 72 Tryz.underlying45 hi hz0 hz1 hz2 rfl (by decide) _ _ _ rfl (World.ownsRow_lit w #[] 0 (Nat.le_refl _) (Nat.zero_le _) rfl) a n c cs rfl HLEN.out HC.out H1.out (by unfold maxLen;omega) (by omega) (by simp) ?_;intro v' w1 hown' hgrow' _))
 have hB1:=qI (HB.out.grown hgrow' (by simp) (fun j hj=>by cases hj;exact Nat.le_refl _));rw [Nat.zero_add] at hown';have HO:=qI (show w1.ownsRow w.heap.size 63 6 v' n cs by simpa using hown');clear hown' hgrow'
 go_wp2_with fail
 go_ret;exact ⟨_,rfl,HO.out,hB1.out⟩
theorem cloneCont_nil (n c:Nat) (w:World):Calls Tryz.prog 79 #[.slice none n c] w fun e w'=>e=.returned (.slice none 0 0)∧w'=w:=by
 have hnil:=eqNilContO none n c w
 go_enter Tryz.func79,Tryz.ntmps79
 go_wp2_with fail
 go_ret;exact ⟨rfl,rfl⟩
theorem eqNilGivenO (a:Option Addr) (n c:Nat) (w:World):Sem.run Tryz.prog (binOp .eql 55 (.slice a n c) (.slice none 0 0)) w=.ok (.bool a.isNone) w:=Lib.run_eql_slice_nil w _ _ a n c 0 0 Tryz.underlying55
theorem cloneGiven_at (a:Addr) (n c:Nat) (cs:List Value) (w:World) (hlen:cs.length=n*2) (hc:∀ j u,cs[j]?=some u→w.cell? (a.add j)=some u) (h1:∀ u∈cs,u.oneCell'=true) (hl:n≤1000) :
  Calls Tryz.prog 81 #[.slice (some a) n c] w fun e w'=>∃ v,e=.returned v∧w'.ownsRow w.heap.size 69 2 v n cs∧Below w.heap.size w w':=by
 obtain ⟨i0,hi,hz0,hz1,hz2⟩:=info_parts infoGivenV;have HB:=qI ((Below.refl w.heap.size w).alloc (Nat.le_refl _) (.cells #[] 69));have HC:Hid (∀ j u,cs[j]?=some u→(w.alloc (.cells #[] 69)).cell? (a.add j)=some u):=fun j u hj=>Lib.cell?_alloc_some _ (hc j u hj)
 have H1:=qI h1;have HLEN:=qI hlen;have hnil:=eqNilGivenO (some a) n c w;clear hc h1 hlen
 go_enter Tryz.func81,Tryz.ntmps81
 go_wp2_with (at_builtin;(refine wpList_append_own _ rfl _ _ 55 rfl w.heap.size 69 i0 (.agg #[.int .u64 0,.slice none 0 0]) 2 32 Tryz.underlying55 hi hz0 hz1 hz2 rfl (by decide) _ _ _ rfl (World.ownsRow_lit w #[] 0 (Nat.le_refl _) (Nat.zero_le _) rfl) a n c cs rfl HLEN.out HC.out H1.out (by unfold maxLen;omega) (by omega) (by simp) ?_;intro v' w1 hown' hgrow' _))
 have hB1:=qI (HB.out.grown hgrow' (by simp) (fun j hj=>by cases hj;exact Nat.le_refl _));rw [Nat.zero_add] at hown';have HO:=qI (show w1.ownsRow w.heap.size 69 2 v' n cs by simpa using hown');clear hown' hgrow'
 go_wp2_with fail
 go_ret;exact ⟨_,rfl,HO.out,hB1.out⟩
theorem cloneGiven_nil (n c:Nat) (w:World):Calls Tryz.prog 81 #[.slice none n c] w fun e w'=>e=.returned (.slice none 0 0)∧w'=w:=by
 have hnil:=eqNilGivenO none n c w
 go_enter Tryz.func81,Tryz.ntmps81
 go_wp2_with fail
 go_ret;exact ⟨rfl,rfl⟩
theorem eqNilHeldO (a:Option Addr) (n c:Nat) (w:World):Sem.run Tryz.prog (binOp .eql 53 (.slice a n c) (.slice none 0 0)) w=.ok (.bool a.isNone) w:=Lib.run_eql_slice_nil w _ _ a n c 0 0 Tryz.underlying53
theorem cloneHeld_at (a:Addr) (n c:Nat) (cs:List Value) (w:World) (hlen:cs.length=n*4) (hc:∀ j u,cs[j]?=some u→w.cell? (a.add j)=some u) (h1:∀ u∈cs,u.oneCell'=true) (hl:n≤1000) :
  Calls Tryz.prog 55 #[.slice (some a) n c] w fun e w'=>∃ v,e=.returned v∧w'.ownsRow w.heap.size 57 4 v n cs∧Below w.heap.size w w':=by
 obtain ⟨i0,hi,hz0,hz1,hz2⟩:=info_parts infoHeldV;have HB:=qI ((Below.refl w.heap.size w).alloc (Nat.le_refl _) (.cells #[] 57));have HC:Hid (∀ j u,cs[j]?=some u→(w.alloc (.cells #[] 57)).cell? (a.add j)=some u):=fun j u hj=>Lib.cell?_alloc_some _ (hc j u hj)
 have H1:=qI h1;have HLEN:=qI hlen;have hnil:=eqNilHeldO (some a) n c w;clear hc h1 hlen
 go_enter Tryz.func55,Tryz.ntmps55
 go_wp2_with (at_builtin;(refine wpList_append_own _ rfl _ _ 53 rfl w.heap.size 57 i0 (.agg #[.string ByteArray.empty,.int .i64 0,.slice none 0 0,.slice none 0 0]) 4 72 Tryz.underlying53 hi hz0 hz1 hz2 rfl (by decide) _ _ _ rfl (World.ownsRow_lit w #[] 0 (Nat.le_refl _) (Nat.zero_le _) rfl) a n c cs rfl HLEN.out HC.out H1.out (by unfold maxLen;omega) (by omega) (by simp) ?_;intro v' w1 hown' hgrow' _))
 have hB1:=qI (HB.out.grown hgrow' (by simp) (fun j hj=>by cases hj;exact Nat.le_refl _));rw [Nat.zero_add] at hown';have HO:=qI (show w1.ownsRow w.heap.size 57 4 v' n cs by simpa using hown');clear hown' hgrow'
 go_wp2_with fail
 go_ret;exact ⟨_,rfl,HO.out,hB1.out⟩
theorem cloneHeld_nil (n c:Nat) (w:World):Calls Tryz.prog 55 #[.slice none n c] w fun e w'=>e=.returned (.slice none 0 0)∧w'=w:=by
 have hnil:=eqNilHeldO none n c w
 go_enter Tryz.func55,Tryz.ntmps55
 go_wp2_with fail
 go_ret;exact ⟨rfl,rfl⟩
theorem eqNilIntO (a:Option Addr) (n c:Nat) (w:World):Sem.run Tryz.prog (binOp .eql 44 (.slice a n c) (.slice none 0 0)) w=.ok (.bool a.isNone) w:=Lib.run_eql_slice_nil w _ _ a n c 0 0 Tryz.underlying44
theorem cloneInt_at (a:Addr) (n c:Nat) (cs:List Value) (w:World) (hlen:cs.length=n*1) (hc:∀ j u,cs[j]?=some u→w.cell? (a.add j)=some u) (h1:∀ u∈cs,u.oneCell'=true) (hl:n≤1000) :
  Calls Tryz.prog 82 #[.slice (some a) n c] w fun e w'=>∃ v,e=.returned v∧w'.ownsRow w.heap.size 3 1 v n cs∧Below w.heap.size w w':=by
 obtain ⟨i0,hi,hz0,hz1,hz2⟩:=info_parts infoIntV;have HB:=qI ((Below.refl w.heap.size w).alloc (Nat.le_refl _) (.cells #[] 3));have HC:Hid (∀ j u,cs[j]?=some u→(w.alloc (.cells #[] 3)).cell? (a.add j)=some u):=fun j u hj=>Lib.cell?_alloc_some _ (hc j u hj)
 have H1:=qI h1;have HLEN:=qI hlen;have hnil:=eqNilIntO (some a) n c w;clear hc h1 hlen
 go_enter Tryz.func82,Tryz.ntmps82
 go_wp2_with (at_builtin;(refine wpList_append_own _ rfl _ _ 44 rfl w.heap.size 3 i0 (.int .i64 0) 1 8 Tryz.underlying44 hi hz0 hz1 hz2 rfl (by decide) _ _ _ rfl (World.ownsRow_lit w #[] 0 (Nat.le_refl _) (Nat.zero_le _) rfl) a n c cs rfl HLEN.out HC.out H1.out (by unfold maxLen;omega) (by omega) (by simp) ?_;intro v' w1 hown' hgrow' _))
 have hB1:=qI (HB.out.grown hgrow' (by simp) (fun j hj=>by cases hj;exact Nat.le_refl _));rw [Nat.zero_add] at hown';have HO:=qI (show w1.ownsRow w.heap.size 3 1 v' n cs by simpa using hown');clear hown' hgrow'
 go_wp2_with fail
 go_ret;exact ⟨_,rfl,HO.out,hB1.out⟩
theorem cloneInt_nil (n c:Nat) (w:World):Calls Tryz.prog 82 #[.slice none n c] w fun e w'=>e=.returned (.slice none 0 0)∧w'=w:=by
 have hnil:=eqNilIntO none n c w
 go_enter Tryz.func82,Tryz.ntmps82
 go_wp2_with fail
 go_ret;exact ⟨rfl,rfl⟩
end
section
open Go.RowKit Go.Shelf
open Sv (Tx sumTxt)
open S1 (Mx Tab)
attribute [local go_sem] Oper.semAt_some
end
section
open Go.RowKit Go.Shelf Go.Lib
attribute [local go_sem] Oper.semAt_some
abbrev zeroH:Value:=.agg #[.string ByteArray.empty,.int .i64 0,.slice none 0 0,.slice none 0 0]
theorem insert_grow (b n c i vb voff vc:Nat) (cs vs:List Value) (w:World) (hi:i<n) (hnc:n≤c) (hroom:c<n+1) (hbig:n≤100)
  (hcl:cs.length=n*4) (hvl:vs.length=4)
  (hcs:∀ j v,cs[j]?=some v→w.cell? ⟨b,j,none⟩=some v)
  (hvs:∀ j v,vs[j]?=some v→w.cell? ⟨vb,voff+j,none⟩=some v) (h1c:∀ v∈cs,v.oneCell'=true) (h1v:∀ v∈vs,v.oneCell'=true) :
  Calls Tryz.prog 54 #[.slice (some ⟨b,0,none⟩) n c,.int .i64 i,.slice (some ⟨vb,voff,none⟩) 1 vc] w fun e w'=>
   ∃ G,n+1≤G∧G≤maxLen∧e=.returned (.slice (some ⟨w.heap.size,0,none⟩) (n+1) G)∧
   w'=(((w.alloc (.cells ((cs.take (i*4)).toArray++Builtin.zeroCells zeroH.cells (n+1 - i)++Builtin.zeroCells zeroH.cells (G - (n+1))) 57)).drew.setCells w.heap.size (i*4) vs).drew).setCells w.heap.size ((i+1)*4) (cs.drop (i*4)):=by
 obtain ⟨i0,hi0,hz0,hzs,hzb⟩:=info_parts infoHeldI;have hz2:¬ ((i:Int)=(n:Int)):=by omega
 have hz3:(c:Int)<(n:Int)+1:=by omega
 have hbw:b<w.heap.size:=block_lt_of_cell (hcs 0 _ (List.getElem?_eq_getElem (by omega)));have hvw:vb<w.heap.size:=block_lt_of_cell (hvs 0 _ (List.getElem?_eq_getElem (by omega)));have hkk:(n:Int)+1 - (i:Int)=((n+1 - i:Nat):Int):=by omega
 have hik:i+(n+1 - i)=n+1:=by omega
 have hold:(Builtin.firstCells i0.size i (.slice (some ⟨b,0,none⟩) i c)).run Tryz.prog w.drew=.ok (cs.take (i*4)).toArray w.drew:=by
  rw [hzs];exact run_firstCells_some w.drew 4 i ⟨b,0,none⟩ i c (cs.take (i*4)) (by rw [List.length_take];omega) (fun j v hj=>by
   rw [Addr.add_lit];rw [List.getElem?_take] at hj
   split at hj
   ·rw [Nat.zero_add];exact hcs j v hj
   ·cases hj)
 have hfits:Builtin.nextslicecap (n+1) c*i0.bytes≤281474976710656:=by rw [hzb];exact growslice_fits hroom (by omega)
 have hrz:∀ ty,(Builtin.append_ #[53,3] ty #[.slice (some ⟨b,0,none⟩) i c,.int .i64 ((n:Int)+1 - (i:Int))]).run Tryz.prog w =
   .ok (.slice (some ⟨w.heap.size,0,none⟩) (n+1) (grownCap w (n+1) c 57)) (w.drew.alloc (.cells ((cs.take (i*4)).toArray++Builtin.zeroCells zeroH.cells (n+1 - i)++Builtin.zeroCells zeroH.cells (grownCap w (n+1) c 57 - (n+1))) 57)):=fun ty=>by
  have h:=Lib.run_append_grow_zeros w 53 3 ty 57 i0 _ .i64 .i64 Tryz.underlying53 Tryz.underlying3 hi0 hz0 (some ⟨b,0,none⟩) i c (cs.take (i*4)) hold (n+1 - i) (by omega) (by omega) (by omega) (by omega) (by rw [hzb];omega) (by rw [hik];exact hfits);rw [hik] at h;rw [hkk];exact h
 have hGn0:n+1≤grownCap w (n+1) c 57:=grownCap_ge w _ _ _;have hG63:grownCap w (n+1) c 57≤maxLen:=grownCap_le_maxLen w (n+1) c 57 (by unfold maxLen;omega);obtain ⟨G,hG⟩:∃ G,G=grownCap w (n+1) c 57:=⟨_,rfl⟩;rw [← hG] at hrz hGn0 hG63;refine Calls.mono (R:=fun e w'=>e=.returned (.slice (some ⟨w.heap.size,0,none⟩) (n+1) G)∧w'=(((w.alloc (.cells ((cs.take (i*4)).toArray++Builtin.zeroCells zeroH.cells (n+1 - i)++Builtin.zeroCells zeroH.cells (G - (n+1))) 57)).drew.setCells w.heap.size (i*4) vs).drew).setCells w.heap.size ((i+1)*4) (cs.drop (i*4))) ?_ (fun e w' h=>⟨G,hGn0,hG63,h.1,h.2⟩);obtain ⟨ROW,hROW⟩:∃ ROW:Array Value,ROW=(cs.take (i*4)).toArray++Builtin.zeroCells zeroH.cells (n+1 - i)++Builtin.zeroCells zeroH.cells (G - (n+1)):=⟨_,rfl⟩;rw [← hROW] at hrz ⊢;have hRl:(n+1)*4≤ROW.size:=by
  rw [hROW];have hzc:zeroH.cells.size=4:=rfl;simp only [Array.size_append,List.size_toArray,List.length_take,Builtin.zeroCells,Array.size_map,Array.size_range,hzc,hcl];omega
 have hG63':G≤9223372036854775807:=by unfold maxLen at hG63;omega
 obtain ⟨W1,hW1⟩:∃ W1,W1=w.drew.alloc (.cells ROW 57):=⟨_,rfl⟩;rw [← hW1] at hrz;have hN:∀ j,j<(n+1)*4→(W1.cell? ⟨w.heap.size,j,none⟩).isSome=true:=fun j hj=>by
  rw [hW1,World.cell?_alloc_at (w:=w.drew) ROW _ w.heap.size j rfl,Array.getElem?_eq_getElem (by omega)];rfl
 have hNf:∀ j,W1.frozen? ⟨w.heap.size,j,none⟩=false:=fun j=>by rw [hW1];exact World.frozen?_alloc_at (w:=w.drew) ROW _ w.heap.size j rfl
 have hOb:∀ j v,w.cell? ⟨b,j,none⟩=some v→W1.cell? ⟨b,j,none⟩=some v:=fun j v h=>by rw [hW1,World.cell?_alloc_past (w:=w.drew) _ b j hbw];exact h
 have hOv:∀ j v,w.cell? ⟨vb,j,none⟩=some v→W1.cell? ⟨vb,j,none⟩=some v:=fun j v h=>by rw [hW1,World.cell?_alloc_past (w:=w.drew) _ vb j hvw];exact h
 have hcpA:∀ (W:World),(∀ x,W.cell? x=W1.cell? x)→(∀ x,W.frozen? x=W1.frozen? x)→∀ ty dc,(Builtin.copy_ #[53,53] ty #[.slice (some ⟨w.heap.size,i*4,none⟩) (n+1 - i) dc,.slice (some ⟨vb,voff,none⟩) 1 vc]).run Tryz.prog W=.ok (goInt (Nat.min 1 (n+1 - i))) (W.setCells w.heap.size (i*4) vs):=fun W hWc hWf ty dc=>
  run_copyH W ty w.heap.size (i*4) (n+1 - i) dc ⟨vb,voff,none⟩ 1 vc vs (by rw [hvl];simp only [Nat.min_def];split <;> omega)
   (fun j v hj=>by rw [Addr.add_lit,hWc];exact hOv _ v (hvs j v hj))
   (fun j hj=>by rw [hWc];exact hN _ (by omega)) (fun j hj=>by rw [hWf];exact hNf _) h1v
 have hGi:¬ (G=i):=by omega
 have hGim:¬ (G=i+1):=by omega
 have hci:¬ (c=i):=by omega
 have hbN:b≠w.heap.size:=by omega
 have hdl:(cs.drop (i*4)).length=(n - i)*4:=by rw [List.length_drop,hcl];omega
 have hcpB:∀ (W:World),(∀ x,W.cell? x=(W1.setCells w.heap.size (i*4) vs).cell? x)→(∀ x,W.frozen? x=(W1.setCells w.heap.size (i*4) vs).frozen? x)→∀ ty dc sc,(Builtin.copy_ #[53,53] ty #[.slice (some ⟨w.heap.size,(i+1)*4,none⟩) (n - i) dc,.slice (some ⟨b,i*4,none⟩) (n - i) sc]).run Tryz.prog W=.ok (goInt (Nat.min (n - i) (n - i))) (W.setCells w.heap.size ((i+1)*4) (cs.drop (i*4))):=fun W hWc hWf ty dc sc=>
  run_copyH W ty w.heap.size ((i+1)*4) (n - i) dc ⟨b,i*4,none⟩ (n - i) sc (cs.drop (i*4)) (by rw [hdl];simp only [Nat.min_def];split <;> omega)
   (fun j v hj=>by
    rw [Addr.add_lit,hWc,World.cell?_setCells_out _ _ _ _ _ (fun h _=>absurd h hbN)];exact hOb _ v (hcs (i*4+j) v (by rwa [List.getElem?_drop] at hj)))
   (fun j hj=>by rw [hWc];exact isSome_setCells w.heap.size vs (i*4) W1 (fun t ht=>hN _ (by omega)) _ (hN _ (by rw [hdl] at hj;omega)))
   (fun j hj=>by rw [hWf,World.frozen?_setCells];exact hNf _) (fun v hv=>h1c v (List.mem_of_mem_drop hv))
 subst hW1;have hE1:∀ x,((w.alloc (.cells ROW 57)).drew).cell? x=(w.drew.alloc (.cells ROW 57)).cell? x:=fun x=>rfl
 have hE2:∀ x,((w.alloc (.cells ROW 57)).drew).frozen? x=(w.drew.alloc (.cells ROW 57)).frozen? x:=fun x=>rfl
 have hF1:∀ x,(((w.alloc (.cells ROW 57)).drew.setCells w.heap.size (i*4) vs).drew).cell? x=((w.drew.alloc (.cells ROW 57)).setCells w.heap.size (i*4) vs).cell? x:=fun x=>rfl
 have hF2:∀ x,(((w.alloc (.cells ROW 57)).drew.setCells w.heap.size (i*4) vs).drew).frozen? x=((w.drew.alloc (.cells ROW 57)).setCells w.heap.size (i*4) vs).frozen? x:=fun x=>rfl
 have hw1:IntKind.i64.wrap ((i:Int)+1)=(i:Int)+1:=by rw [IntKind.wrap_i64];omega
 have hb1:(0:Int)≤(i:Int)+1:=by omega
 have hin:i≤n:=by omega
 have htn:((i:Int)+1).toNat=i+1:=by omega
 have hb3:(i:Int)≤(n:Int):=by omega
 have hb5:(i:Int)+1≤(n:Int)+1:=by omega
 have mixed:Tryz.prog.follows .mixedOrders=true:=by kernel_rfl
 clear hkk hik hold hROW hG hRl hcs hvs hfits hi0 hz0 hzs hzb
 go_enter Tryz.func54,Tryz.ntmps54
 go_wp2_with (first
  | (at_builtin;refine Lib.wpList_append_run _ rfl _ _ _ _ rfl _ _ rfl rfl _ _ (hrz _) ?_)
  | (at_builtin;refine wpList_copy_runI _ rfl _ _ 53 53 rfl _ _ rfl rfl (hcpA _ hE1 hE2 _ _) ?_)
  | (at_builtin;refine wpList_copy_runI _ rfl _ _ 53 53 rfl _ _ rfl rfl (hcpB _ (fun _=>rfl) (fun _=>rfl) _ _ _) ?_))
 go_region_law_o (refine step_copy_runI rfl _ _ 53 53 rfl (.slice (some ⟨w.heap.size,(i+1)*4,none⟩) (n - i) (G - (i+1))) (.slice (some ⟨b,i*4,none⟩) (n - i) (c - i)) (by simp [Act.eval,Act.put]) (by simp [Act.eval,Act.put]) (hcpB _ hF1 hF2 3 (G - (i+1)) (c - i)) ?_)
 go_wp2
 go_ret;exact ⟨rfl,rfl⟩
end
section
namespace Ol
open Dvs (Dv dv)
open Qos (Nd)
def ofKind (ds:List Dv) (k:ByteArray) (l:List Int):Nat:=l.countP fun j=>decide ((dv ds j.toNat).kind=k)
def Norm (m:ByteArray→Option Int):Prop:=∀ k,m k≠some 0
theorem norm_none {m:ByteArray→Option Int} (h:Norm m) (k:ByteArray):m k=none↔(m k).getD 0=0:=by
 cases e:m k with
 | none=>simp
 | some v=>
  have:=h k
  rw [e] at this;constructor
  ·intro h;cases h
  ·intro h;exact absurd (congrArg some h) this
theorem norm_set {m:ByteArray→Option Int} (h:Norm m) (k:ByteArray) {v:Option Int} (hv:v≠some 0):Norm (wantSet m k v):=by
 intro x;unfold wantSet
 split
 ·exact hv
 ·exact h x
theorem less_norm (ds:List Dv) {m:ByteArray→Option Int} (h:Norm m) (j:Int):Norm (wantLess ds m j):=by
 unfold wantLess;refine norm_set h _ ?_
 split
 ·exact fun e=>by cases e
 ·rename_i h0;exact fun e=>h0 (Option.some.inj e)
theorem less_val (ds:List Dv) (m:ByteArray→Option Int) (j:Int) (k:ByteArray):(wantLess ds m j k).getD 0=(m k).getD 0 - (if (dv ds j.toNat).kind=k then 1 else 0):=by
 unfold wantLess wantSet
 by_cases h:k=(dv ds j.toNat).kind
 ·rw [if_pos h,if_pos h.symm,← h]
  split
  ·rename_i h0;rw [h0];rfl
  ·rfl
 ·rw [if_neg h,if_neg (fun e=>h e.symm),Int.sub_zero]
theorem fold_val (ds:List Dv) (k:ByteArray):∀ (l:List Int) (m:ByteArray→Option Int),Norm m→Norm (l.foldl (wantLess ds) m)∧(l.foldl (wantLess ds) m k).getD 0=(m k).getD 0 - (ofKind ds k l:Nat):=by
 intro l
 induction l with
 | nil=>intro m h;exact ⟨h,by simp [ofKind]⟩
 | cons j r ih=>
  intro m h;obtain ⟨h1,h2⟩:=ih (wantLess ds m j) (less_norm ds h j);refine ⟨h1,?_⟩;rw [List.foldl_cons,h2,less_val];unfold ofKind;rw [List.countP_cons]
  by_cases hk:(dv ds j.toNat).kind=k
  ·simp [hk];omega
  ·simp [hk]
theorem want_norm (ns:List Nd) (h:∀ n∈ns,n.many≠0):∀ m,Norm m→Norm (ns.foldl (fun m n=>wantSet m n.kind (some n.many)) m):=by
 induction ns with
 | nil=>intro m hm;exact hm
 | cons n r ih=>
  intro m hm;rw [List.foldl_cons];exact ih (fun x hx=>h x (List.mem_cons_of_mem _ hx)) _ (norm_set hm _ (fun e=>h n (List.mem_cons_self ..) (Option.some.inj e)))
theorem just_iff {ds:List Dv} {l:List Int} {ns:List Nd} (h:∀ n∈ns,n.many≠0):Just ds l ns↔∀ k,(want ns k).getD 0=(ofKind ds k l:Nat):=by
 have hn:Norm (want ns):=want_norm ns h _ (fun _ e=>by cases e);unfold Just;refine forall_congr' fun k=>?_
 obtain ⟨h1,h2⟩:=fold_val ds k l (want ns) hn;rw [norm_none h1,h2];omega
theorem want_out:∀ (ns:List Nd) (m:ByteArray→Option Int) (k:ByteArray),(∀ n∈ns,n.kind≠k)→ns.foldl (fun m n=>wantSet m n.kind (some n.many)) m k=m k:=by
 intro ns
 induction ns with
 | nil=>intro m k _;rfl
 | cons n r ih=>
  intro m k h;rw [List.foldl_cons,ih _ k (fun x hx=>h x (List.mem_cons_of_mem _ hx))];unfold wantSet;rw [if_neg (fun e=>h n (List.mem_cons_self ..) e.symm)]
theorem want_at:∀ (ns:List Nd) (m:ByteArray→Option Int) (n:Nd),n∈ns→ns.Pairwise (fun a b=>a.kind≠b.kind)→ns.foldl (fun m n=>wantSet m n.kind (some n.many)) m n.kind=some n.many:=by
 intro ns
 induction ns with
 | nil=>intro m n h;cases h
 | cons x r ih=>
  intro m n h hp;rw [List.foldl_cons];obtain ⟨h1,h2⟩:=List.pairwise_cons.1 hp
  rcases List.mem_cons.1 h with rfl|h
  ·rw [want_out r _ n.kind (fun y hy e=>h1 y hy e.symm)];unfold wantSet;rw [if_pos rfl]
  ·exact ih _ n h h2
end Ol
end
section
open Go.RowKit Go.Shelf
open Qos (Nd Ct Pd nd ct pd)
open Sv (Gv Hd gv hd)
structure RowG (W:World) (N g sz n:Nat) (f:Nat→List Value):Prop where
 base:N≤g
 lt:g<W.heap.size
 cell:∀ k,k<n→∀ j,j<sz→W.cell? ⟨g,k*sz+j,none⟩=(f k)[j]?
 free:∀ j,W.frozen? ⟨g,j,none⟩=false
theorem flatG_len {f:Nat→List Value} {sz:Nat} (hf:∀ k,(f k).length=sz) (n:Nat):((List.range n).flatMap f).length=n*sz:=by
 induction n with
 | zero=>simp
 | succ n ih=>rw [List.range_succ,List.flatMap_append,List.length_append,ih];simp [hf,Nat.succ_mul]
theorem flatG_at {f:Nat→List Value} {sz:Nat} (hf:∀ k,(f k).length=sz) (n k j:Nat) (hk:k<n) (hj:j<sz):((List.range n).flatMap f)[k*sz+j]?=(f k)[j]?:=by
 induction n with
 | zero=>omega
 | succ n ih=>
  rw [List.range_succ,List.flatMap_append]
  by_cases h:k<n
  ·rw [List.getElem?_append_left]
   ·exact ih h
   ·rw [flatG_len hf]
    have:(k+1)*sz≤n*sz:=Nat.mul_le_mul_right _ h
    rw [Nat.succ_mul] at this;omega
  ·have:k=n:=by omega
   subst this;rw [List.getElem?_append_right (by rw [flatG_len hf];omega),flatG_len hf]
   simp
theorem flatG_cells {f:Nat→List Value} {sz:Nat} (h0:0<sz) (hf:∀ k,(f k).length=sz) {w:World} {b o n:Nat} (h:∀ k,k<n→∀ j,j<sz→w.cell? ⟨b,o+k*sz+j,none⟩=(f k)[j]?):∀ j u,((List.range n).flatMap f)[j]?=some u→w.cell? ((⟨b,o,none⟩:Addr).add j)=some u:=by
 intro j u hu;have hl:j<n*sz:=by
  have:=(List.getElem?_eq_some_iff.1 hu).1
  rw [flatG_len hf] at this;exact this
 have hk:j / sz<n:=Nat.div_lt_of_lt_mul (by rw [Nat.mul_comm];exact hl);have hj:j % sz<sz:=Nat.mod_lt _ h0;have e:j / sz*sz+j % sz=j:=by rw [Nat.mul_comm];exact Nat.div_add_mod j sz
 rw [← e,flatG_at hf n _ _ hk hj] at hu;rw [Addr.add_lit,← e,← Nat.add_assoc,h _ hk _ hj];exact hu
theorem flatG_one {f:Nat→List Value} {n:Nat} (h:∀ k,k<n→∀ u∈f k,u.oneCell'=true):∀ u∈(List.range n).flatMap f,u.oneCell'=true:=by
 intro u hu;obtain ⟨k,hk,hu⟩:=List.mem_flatMap.1 hu;exact h k (List.mem_range.1 hk) u hu
theorem rowG_of {W:World} {base:Nat} {e:TypeId} {sz:Nat} {v:Value} {n:Nat} {xs:List Value} {f:Nat→List Value} (h:W.ownsRow base e sz v n xs) (hf:∀ k,k<n→∀ j,j<sz→xs[k*sz+j]?=(f k)[j]?) :
  ∃ ao cap,v=.slice ao n cap∧(n≤cap∧cap≤maxLen)∧(0<n→∃ g,ao=some ⟨g,0,none⟩∧RowG W base g sz n f):=by
 rcases h.2 with ⟨rfl,rfl⟩|⟨g,cap,cur,rfl,hb,hg,hc1,hc2,hcs,ht⟩
 ·exact ⟨none,0,rfl,⟨Nat.le_refl _,Nat.zero_le _⟩,fun h=>by omega⟩
 ·refine ⟨_,cap,rfl,⟨hc1,hc2⟩,fun _=>⟨g,rfl,hb,(Array.getElem?_eq_some_iff.1 hg).1,fun k hk j hj=>?_,fun j=>by simp [World.frozen?,hg]⟩⟩;rw [← hf k hk j hj,← ht,List.getElem?_take];have hl:k*sz+j<n*sz:=by
   have:(k+1)*sz≤n*sz:=Nat.mul_le_mul_right _ hk
   rw [Nat.succ_mul] at this;omega
  rw [if_pos hl]
  simp [World.cell?,hg]
theorem RowG.keep {W W':World} {N g sz n:Nat} {f:Nat→List Value} (h:RowG W N g sz n f) (hb:W'.heap[g]?=W.heap[g]?) (hs:W.heap.size≤W'.heap.size):RowG W' N g sz n f:=
 ⟨h.base,Nat.lt_of_lt_of_le h.lt hs,fun k hk j hj=>(World.cell?_of_block (a:=⟨g,k*sz+j,none⟩) hb).trans (h.cell k hk j hj),fun j=>by
  have:=h.free j
  simp only [World.frozen?] at this ⊢;rw [hb];exact this⟩
theorem RowG.below {W W':World} {N g sz n:Nat} {f:Nat→List Value} (h:RowG W N g sz n f) (hb:Below W.heap.size W W'):RowG W' N g sz n f:=h.keep (hb.block g h.lt) hb.size
theorem RowG.set {W:World} {N g sz n:Nat} {f:Nat→List Value} (h:RowG W N g sz n f) (k j:Nat) (hk:k<n) (hj:j<sz) (v:Value) (f':Nat→List Value) (h1:∀ i,i<n→i≠k→f' i=f i) (h2:∀ i,i<sz→(f' k)[i]?=if i=j then some v else (f k)[i]?) (hfk:(f k).length=sz):RowG (W.setCell ⟨g,k*sz+j,none⟩ v) N g sz n f':=by
 have hin:W.cell? ⟨g,k*sz+j,none⟩≠none:=by
  rw [h.cell k hk j hj,List.getElem?_eq_getElem (by omega)];simp
 have hsz:(W.setCell ⟨g,k*sz+j,none⟩ v).heap.size=W.heap.size:=by simp
 refine ⟨h.base,by rw [hsz];exact h.lt,fun i hi q hq=>?_,fun q=>by rw [World.frozen?_setCell];exact h.free q⟩
 by_cases hik:i=k
 ·subst hik;rw [h2 q hq]
  by_cases hqj:q=j
  ·subst hqj;rw [if_pos rfl];obtain ⟨u,hu⟩:∃ u,W.cell? ⟨g,i*sz+q,none⟩=some u:=Option.ne_none_iff_exists'.1 hin;exact World.cell?_setCell_same _ _ _ hu
  ·rw [if_neg hqj,← h.cell i hi q hq];exact World.cell?_setCell_other _ _ _ _ (by simp only [ne_eq,Addr.mk.injEq,true_and,and_true];omega)
 ·rw [h1 i hi hik,← h.cell i hi q hq];refine World.cell?_setCell_other _ _ _ _ ?_;simp only [ne_eq,Addr.mk.injEq,true_and,and_true];have a1:i<k∨k<i:=by omega
  rcases a1 with a1|a1
  ·have:(i+1)*sz≤k*sz:=Nat.mul_le_mul_right _ a1
   rw [Nat.succ_mul] at this;omega
  ·have:(k+1)*sz≤i*sz:=Nat.mul_le_mul_right _ a1
   rw [Nat.succ_mul] at this;omega
noncomputable abbrev fresh (N:Nat) (W:World):World:=mask (fun j=>j<N) W
theorem fresh_cell {N:Nat} {W:World} {b o:Nat} (h:N≤b):(fresh N W).cell? ⟨b,o,none⟩=W.cell? ⟨b,o,none⟩:=World.cell?_of_block (a:=⟨b,o,none⟩) (mask_out (fun k=>by have k:b<N:=k;omega))
theorem fresh_le {N N':Nat} {W W':World} (h:∀ j,N≤j→j<W.heap.size→W'.heap[j]?=W.heap[j]?) (hs:W.heap.size≤W'.heap.size) (hN:N'≤N):CellLe (fresh N W) (fresh N' W'):=by
 refine ⟨by rw [mask_size,mask_size];exact hs,fun b o v e=>?_⟩;have hb:=mask_free e;have hl:b<W.heap.size:=by have:=World.block_lt_of_cell? _ ⟨b,o,none⟩ e;rw [mask_size] at this;exact this
 have hb':N≤b:=by simpa using hb
 rw [fresh_cell hb'] at e;rw [fresh_cell (by omega)];exact (World.cell?_of_block (a:=⟨b,o,none⟩) (h b hb' hl)).trans e
theorem mask_to {M M':Nat→Prop} {W W':World} (h:∀ j,j<W.heap.size→¬ M j→¬ M' j∧W'.heap[j]?=W.heap[j]?) (hs:W.heap.size≤W'.heap.size):CellLe (mask M W) (mask M' W'):=by
 refine ⟨by rw [mask_size,mask_size];exact hs,fun b o v e=>?_⟩;have hb:=mask_free e;have hl:b<W.heap.size:=by have:=World.block_lt_of_cell? _ ⟨b,o,none⟩ e;rw [mask_size] at this;exact this
 obtain ⟨h1,h2⟩:=h b hl hb;have e1:(mask M' W').heap[b]?=(mask M W).heap[b]?:=by rw [mask_out h1,mask_out hb];exact h2
 exact (World.cell?_of_block (a:=⟨b,o,none⟩) e1).trans e
theorem fresh_below {N N':Nat} {W W':World} (h:Below W.heap.size W W') (hN:N'≤N):CellLe (fresh N W) (fresh N' W'):=fresh_le (fun j _ hj=>h.block j hj) h.size hN
theorem needs_row {W:World} {N g n cap:Nat} {ds:List Nd} (h:RowG W N g 2 n (fun k=>[.string (nd ds k).kind,.int .i64 (nd ds k).many])) (hn:n=ds.length) (hm:ds.length≤maxLen):NeedsAt (fresh N W) (.slice (some ⟨g,0,none⟩) n cap) ds:=by
 subst hn;refine ⟨_,_,rfl,hm,fun _=>⟨g,0,rfl,by rw [mask_size];exact h.lt,fun k hk=>?_⟩⟩;rw [fresh_cell h.base,fresh_cell h.base,Nat.zero_add];exact ⟨h.cell k hk 0 (by decide),h.cell k hk 1 (by decide)⟩
theorem needs_nilO (W:World) (ao:Option Addr) (c:Nat):NeedsAt W (.slice ao 0 c) []:=⟨ao,c,rfl,Nat.zero_le _,fun h=>absurd h (Nat.lt_irrefl 0)⟩
theorem cons_row {W:World} {N g n cap:Nat} {cs:List Ct} {dv:Nat→Value} (h:RowG W N g 6 n (fun k=>contCells (ct cs k) (dv k))) (hn:n=cs.length) (hm:n≤cap∧cap≤maxLen) (hd:∀ k,k<n→NeedsAt (fresh N W) (dv k) (ct cs k).ds):ConsAt (fresh N W) (.slice (some ⟨g,0,none⟩) n cap) cs:=by
 subst hn;refine ⟨_,_,rfl,hm,fun _=>⟨g,0,dv,rfl,by rw [mask_size];exact h.lt,fun k hk=>⟨fun j hj=>?_,hd k hk⟩⟩⟩;rw [fresh_cell h.base,Nat.zero_add];exact h.cell k hk j hj
theorem ints_row {W:World} {N g n cap:Nat} {xs:List Int} (h:RowG W N g 1 n (fun k=>[.int .i64 (xs.getD k 0)])) (hn:n=xs.length) (hm:n≤cap∧cap≤maxLen):IntsOf (fresh N W) (.slice (some ⟨g,0,none⟩) n cap) xs:=by
 subst hn;refine ⟨_,_,rfl,hm,fun _=>⟨g,0,rfl,by rw [mask_size];exact h.lt,fun k hk=>?_⟩⟩;rw [fresh_cell h.base,Nat.zero_add]
 simpa using h.cell k hk 0 (by decide)
theorem givs_row {W:World} {N g n cap:Nat} {gs:List Gv} {dv:Nat→Value} (h:RowG W N g 2 n (fun k=>[.int .u64 (gv gs k).cp,dv k])) (hn:n=gs.length) (hm:n≤cap∧cap≤maxLen) (hd:∀ k,k<n→(gv gs k).cp<18446744073709551616∧IntsOf (fresh N W) (dv k) (gv gs k).dv):GivsAt (fresh N W) (.slice (some ⟨g,0,none⟩) n cap) gs:=by
 subst hn;refine ⟨_,_,rfl,hm,fun _=>⟨g,0,dv,rfl,by rw [mask_size];exact h.lt,fun k hk=>⟨⟨?_,?_,(hd k hk).1⟩,(hd k hk).2⟩⟩⟩
 ·rw [fresh_cell h.base,Nat.zero_add];exact h.cell k hk 0 (by decide)
 ·rw [fresh_cell h.base,Nat.zero_add];exact h.cell k hk 1 (by decide)
end
section
open Go.RowKit Go.Shelf
open Qos (Nd Ct Pd nd ct pd)
open Sv (Gv Hd gv hd)
theorem cloneNeed_any (v:Value) (ds:List Nd) (w:World) (h:NeedsAt w v ds) (hl:ds.length≤1000):Calls Tryz.prog 80 #[v] w fun e w'=>∃ ao c,e=.returned (.slice ao ds.length c)∧NeedsAt (fresh w.heap.size w') (.slice ao ds.length c) ds∧Below w.heap.size w w':=by
 obtain ⟨ao,c,rfl,hm,hr⟩:=h;cases ao with
 | none=>
  refine (cloneNeed_nil _ _ _).mono ?_;rintro e w' ⟨rfl,rfl⟩;have h0:ds.length=0:=by
   apply Classical.byContradiction;intro h0;obtain ⟨b,o,hb,_⟩:=hr (by omega);cases hb
  have:ds=[]:=List.length_eq_zero_iff.1 h0
  subst this;exact ⟨none,0,rfl,needs_nilO _ _ _,Below.refl _ _⟩
 | some a=>
  refine (cloneNeed_at a ds.length c ((List.range ds.length).flatMap fun k=>[.string (nd ds k).kind,.int .i64 (nd ds k).many]) w (flatG_len (by intro _;rfl) _) ?_ (flatG_one fun k _ u hu=>?_) hl).mono ?_
  ·intro j u hu
   by_cases h0:0<ds.length
   ·obtain ⟨b,o,hb,_,hc⟩:=hr h0;cases hb;exact flatG_cells (sz:=2) (by decide) (by intro _;rfl) (fun k hk i hi=>by
     match i,hi with
     | 0,_=>exact (hc k hk).1
     | 1,_=>exact (hc k hk).2) j u hu
   ·rw [show ds.length=0 by omega] at hu;simp at hu
  ·simp at hu
   rcases hu with rfl|rfl <;> rfl
  ·rintro e w' ⟨u,rfl,hrow,hb⟩;obtain ⟨ao,cap,rfl,hcap,hg⟩:=rowG_of (f:=fun k=>[.string (nd ds k).kind,.int .i64 (nd ds k).many]) hrow (fun k hk j hj=>flatG_at (by intro _;rfl) _ _ _ hk hj);refine ⟨ao,cap,rfl,?_,hb⟩
   by_cases h0:0<ds.length
   ·obtain ⟨g,rfl,hG⟩:=hg h0;exact needs_row hG rfl hm
   ·have:ds=[]:=List.length_eq_zero_iff.1 (by omega)
    subst this;exact needs_nilO _ _ _
theorem cloneInt_any (v:Value) (xs:List Int) (w:World) (h:IntsOf w v xs) (hl:xs.length≤1000):Calls Tryz.prog 82 #[v] w fun e w'=>∃ ao c,e=.returned (.slice ao xs.length c)∧IntsOf (fresh w.heap.size w') (.slice ao xs.length c) xs∧Below w.heap.size w w':=by
 obtain ⟨ao,c,rfl,hm,hr⟩:=h;cases ao with
 | none=>
  refine (cloneInt_nil _ _ _).mono ?_;rintro e w' ⟨rfl,rfl⟩;have h0:xs.length=0:=by
   apply Classical.byContradiction;intro h0;obtain ⟨b,o,hb,_⟩:=hr (by omega);cases hb
  have:xs=[]:=List.length_eq_zero_iff.1 h0
  subst this;exact ⟨none,0,rfl,⟨none,0,rfl,⟨Nat.le_refl _,Nat.zero_le _⟩,fun h=>absurd h (Nat.lt_irrefl 0)⟩,Below.refl _ _⟩
 | some a=>
  refine (cloneInt_at a xs.length c ((List.range xs.length).flatMap fun k=>[.int .i64 (xs.getD k 0)]) w (flatG_len (by intro _;rfl) _) ?_ (flatG_one fun k _ u hu=>?_) hl).mono ?_
  ·intro j u hu
   by_cases h0:0<xs.length
   ·obtain ⟨b,o,hb,_,hc⟩:=hr h0;cases hb;exact flatG_cells (sz:=1) (by decide) (by intro _;rfl) (fun k hk i hi=>by
     match i,hi with
     | 0,_=>rw [Nat.mul_one];exact hc k hk) j u hu
   ·rw [show xs.length=0 by omega] at hu;simp at hu
  ·simp at hu
   rcases hu with rfl;rfl
  ·rintro e w' ⟨u,rfl,hrow,hb⟩;obtain ⟨ao,cap,rfl,hcap,hg⟩:=rowG_of (f:=fun k=>[.int .i64 (xs.getD k 0)]) hrow (fun k hk j hj=>flatG_at (by intro _;rfl) _ _ _ hk hj);refine ⟨ao,cap,rfl,?_,hb⟩
   by_cases h0:0<xs.length
   ·obtain ⟨g,rfl,hG⟩:=hg h0;exact ints_row hG rfl hcap
   ·have:xs=[]:=List.length_eq_zero_iff.1 (by omega)
    subst this;exact ⟨_,_,rfl,hcap,fun h=>absurd h (Nat.lt_irrefl 0)⟩
theorem cloneCont_any (v:Value) (cs:List Ct) (w W0:World) (h:ConsAt W0 v cs) (l:CellLe W0 w) (hl:cs.length≤1000):Calls Tryz.prog 79 #[v] w fun e w'=>∃ ao c,e=.returned (.slice ao cs.length c)∧(cs.length≤c∧c≤maxLen)∧(0<cs.length→∃ (g:Nat) (dv:Nat→Value),ao=some ⟨g,0,none⟩∧RowG w' w.heap.size g 6 cs.length (fun k=>contCells (ct cs k) (dv k))∧∀ k,k<cs.length→NeedsAt W0 (dv k) (ct cs k).ds)∧Below w.heap.size w w':=by
 obtain ⟨ao,c,rfl,hm,hr⟩:=h;cases ao with
 | none=>
  refine (cloneCont_nil _ _ _).mono ?_;rintro e w' ⟨rfl,rfl⟩;have h0:cs.length=0:=by
   apply Classical.byContradiction;intro h0;obtain ⟨b,o,dv,hb,_⟩:=hr (by omega);cases hb
  rw [h0];exact ⟨none,0,rfl,⟨Nat.le_refl _,Nat.zero_le _⟩,fun h=>by omega,Below.refl _ _⟩
 | some a=>
  by_cases h0:0<cs.length
  ·obtain ⟨b,o,dv,hb,hc⟩:=hr h0;cases hb;refine (cloneCont_at ⟨b,o,none⟩ cs.length c ((List.range cs.length).flatMap fun k=>contCells (ct cs k) (dv k)) w (flatG_len (by intro _;rfl) _) (flatG_cells (sz:=6) (by decide) (by intro _;rfl) (fun k hk i hi=>by
     have h6:i<(contCells (ct cs k) (dv k)).length:=hi;rw [List.getElem?_eq_getElem h6];exact l.cell _ _ _ (((hc.2 k hk).1 i hi).trans (List.getElem?_eq_getElem h6)))) (flatG_one fun k hk u hu=>?_) hl).mono ?_
   ·obtain ⟨na,nc,hv,_⟩:=(hc.2 k hk).2;rw [hv] at hu
    simp [contCells] at hu
    rcases hu with rfl|rfl|rfl|rfl|rfl|rfl <;> rfl
   ·rintro e w' ⟨u,rfl,hrow,hb⟩;obtain ⟨ao,cap,rfl,hcap,hg⟩:=rowG_of (f:=fun k=>contCells (ct cs k) (dv k)) hrow (fun k hk j hj=>flatG_at (by intro _;rfl) _ _ _ hk hj);refine ⟨ao,cap,rfl,hcap,fun _=>?_,hb⟩;obtain ⟨g,rfl,hG⟩:=hg h0;exact ⟨g,dv,rfl,hG,fun k hk=>(hc.2 k hk).2⟩
  ·refine (cloneCont_at a cs.length c [] w (by rw [show cs.length=0 by omega];rfl) (fun j u hu=>by simp at hu) (fun u hu=>(List.not_mem_nil hu).elim) hl).mono ?_;rintro e w' ⟨u,rfl,hrow,hb⟩;obtain ⟨ao,cap,rfl,hcap,hg⟩:=rowG_of (f:=fun _=>[]) hrow (fun k hk j hj=>by omega);exact ⟨ao,cap,rfl,hcap,fun h=>absurd h h0,hb⟩
theorem cloneGiven_any (v:Value) (gs:List Gv) (w W0:World) (h:GivsAt W0 v gs) (l:CellLe W0 w) (hl:gs.length≤1000):Calls Tryz.prog 81 #[v] w fun e w'=>∃ ao c,e=.returned (.slice ao gs.length c)∧(gs.length≤c∧c≤maxLen)∧(0<gs.length→∃ (g:Nat) (dv:Nat→Value),ao=some ⟨g,0,none⟩∧RowG w' w.heap.size g 2 gs.length (fun k=>[.int .u64 (gv gs k).cp,dv k])∧∀ k,k<gs.length→(gv gs k).cp<18446744073709551616∧IntsOf W0 (dv k) (gv gs k).dv)∧Below w.heap.size w w':=by
 obtain ⟨ao,c,rfl,hm,hr⟩:=h;cases ao with
 | none=>
  refine (cloneGiven_nil _ _ _).mono ?_;rintro e w' ⟨rfl,rfl⟩;have h0:gs.length=0:=by
   apply Classical.byContradiction;intro h0;obtain ⟨b,o,dv,hb,_⟩:=hr (by omega);cases hb
  rw [h0];exact ⟨none,0,rfl,⟨Nat.le_refl _,Nat.zero_le _⟩,fun h=>by omega,Below.refl _ _⟩
 | some a=>
  by_cases h0:0<gs.length
  ·obtain ⟨b,o,dv,hb,hc⟩:=hr h0;cases hb;refine (cloneGiven_at ⟨b,o,none⟩ gs.length c ((List.range gs.length).flatMap fun k=>[.int .u64 (gv gs k).cp,dv k]) w (flatG_len (by intro _;rfl) _) (flatG_cells (sz:=2) (by decide) (by intro _;rfl) (fun k hk i hi=>by
     match i,hi with
     | 0,_=>exact l.cell _ _ _ (hc.2 k hk).1.1
     | 1,_=>exact l.cell _ _ _ (hc.2 k hk).1.2.1)) (flatG_one fun k hk u hu=>?_) hl).mono ?_
   ·obtain ⟨na,nc,hv,_⟩:=(hc.2 k hk).2;rw [hv] at hu
    simp at hu
    rcases hu with rfl|rfl <;> rfl
   ·rintro e w' ⟨u,rfl,hrow,hb⟩;obtain ⟨ao,cap,rfl,hcap,hg⟩:=rowG_of (f:=fun k=>[.int .u64 (gv gs k).cp,dv k]) hrow (fun k hk j hj=>flatG_at (by intro _;rfl) _ _ _ hk hj);refine ⟨ao,cap,rfl,hcap,fun _=>?_,hb⟩;obtain ⟨g,rfl,hG⟩:=hg h0;exact ⟨g,dv,rfl,hG,fun k hk=>⟨(hc.2 k hk).1.2.2,(hc.2 k hk).2⟩⟩
  ·refine (cloneGiven_at a gs.length c [] w (by rw [show gs.length=0 by omega];rfl) (fun j u hu=>by simp at hu) (fun u hu=>(List.not_mem_nil hu).elim) hl).mono ?_;rintro e w' ⟨u,rfl,hrow,hb⟩;obtain ⟨ao,cap,rfl,hcap,hg⟩:=rowG_of (f:=fun _=>[]) hrow (fun k hk j hj=>by omega);exact ⟨ao,cap,rfl,hcap,fun h=>absurd h h0,hb⟩
def heCells (h:Hd) (cv gvv:Value):List Value:=[.string h.pod.nm,.int .i64 h.pod.pr,cv,gvv]
theorem cloneHeld_any (v:Value) (hs:List Hd) (w W0:World) (h:HldsAt W0 v hs) (l:CellLe W0 w) (hl:hs.length≤1000):Calls Tryz.prog 55 #[v] w fun e w'=>∃ (u:Value) (cv gvv:Nat→Value),e=.returned u∧w'.ownsRow w.heap.size 57 4 u hs.length ((List.range hs.length).flatMap fun k=>heCells (hd hs k) (cv k) (gvv k))∧(∀ k,k<hs.length→ConsAt W0 (cv k) (hd hs k).pod.cs∧GivsAt W0 (gvv k) (hd hs k).gs)∧Below w.heap.size w w':=by
 obtain ⟨ao,c,rfl,hm,hr⟩:=h;cases ao with
 | none=>
  refine (cloneHeld_nil _ _ _).mono ?_;rintro e w' ⟨rfl,rfl⟩;have h0:hs.length=0:=by
   apply Classical.byContradiction;intro h0;obtain ⟨b,o,cv,gvv,hb,_⟩:=hr (by omega);cases hb
  rw [h0];exact ⟨_,fun _=>.nilIface,fun _=>.nilIface,rfl,⟨rfl,.inl ⟨rfl,rfl⟩⟩,fun k hk=>by omega,Below.refl _ _⟩
 | some a=>
  by_cases h0:0<hs.length
  ·obtain ⟨b,o,cv,gvv,hb,hc⟩:=hr h0;cases hb;refine (cloneHeld_at ⟨b,o,none⟩ hs.length c ((List.range hs.length).flatMap fun k=>heCells (hd hs k) (cv k) (gvv k)) w (flatG_len (by intro _;rfl) _) (flatG_cells (sz:=4) (by decide) (by intro _;rfl) (fun k hk i hi=>by
     match i,hi with
     | 0,_=>exact l.cell _ _ _ (hc.2 k hk).1.1
     | 1,_=>exact l.cell _ _ _ (hc.2 k hk).1.2.1
     | 2,_=>exact l.cell _ _ _ (hc.2 k hk).1.2.2.1
     | 3,_=>exact l.cell _ _ _ (hc.2 k hk).1.2.2.2)) (flatG_one fun k hk u hu=>?_) hl).mono ?_
   ·obtain ⟨na,nc,hv,_⟩:=(hc.2 k hk).2.1;obtain ⟨ma,mc,hv2,_⟩:=(hc.2 k hk).2.2;rw [hv,hv2] at hu
    simp [heCells] at hu
    rcases hu with rfl|rfl|rfl|rfl <;> rfl
   ·rintro e w' ⟨u,rfl,hrow,hb⟩;exact ⟨u,cv,gvv,rfl,hrow,fun k hk=>(hc.2 k hk).2,hb⟩
  ·have e0:hs.length=0:=by omega
   refine (cloneHeld_at a hs.length c [] w (by rw [e0];rfl) (fun j u hu=>by simp at hu) (fun u hu=>(List.not_mem_nil hu).elim) hl).mono ?_;rintro e w' ⟨u,rfl,hrow,hb⟩;refine ⟨u,fun _=>.nilIface,fun _=>.nilIface,rfl,?_,fun k hk=>absurd hk (by omega),hb⟩;rw [e0] at hrow ⊢;exact hrow
end
section
namespace Ol
open Ost (Cpu Wi chosen cnt dif takeOut)
open Dvs (Dv dv fits took takeF srt usedBy claimed nth sel took_mem took_nodup srt_perm srt_mem ord_len)
open Qos (Nd Ct Pd ct ownOf)
open Sv (Gv Hd gv hd)
theorem takeOut_zero {l:List Cpu} {F:Nat} {L:Int} {on:Nat} (h:(takeOut l F L on).2=0):(cnt (takeOut l F L on).1:Int)=L∧(takeOut l F L on).1 &&& F=(takeOut l F L on).1:=by
 unfold takeOut at h ⊢
 split
 ·rename_i h1;rw [if_pos h1] at h;cases h
 ·rename_i h1
  rw [if_neg h1] at h
  split
  ·rename_i h2;rw [if_pos h2] at h;cases h
  ·rename_i h2
   have:=Ost.take_facts (l:=l) (F:=F) (L:=L) on (by omega) (by omega) _ rfl
   exact ⟨this.1,this.2.1⟩
def kindN (ds:List Dv) (k:ByteArray) (l:List Nat):Nat:=l.countP fun j=>decide ((dv ds j).kind=k)
def needSum (k:ByteArray) (ns:List Nd):Int:=(ns.map fun n=>if n.kind=k then n.many else 0).sum
theorem took_len {ds:List Dv} {us:Nat→Bool} {kind:ByteArray} {m:Nat} {many:Int} (h:takeF ds us kind many=0):((took ds us kind m many.toNat).length:Int)=many:=by
 unfold takeF at h
 split at h
 ·cases h
 ·split at h
  ·cases h
  ·unfold took;rw [List.length_take,ord_len];omega
theorem kindN_took {ds:List Dv} {us:Nat→Bool} {kind:ByteArray} {m n:Nat} (k:ByteArray):kindN ds k (took ds us kind m n)=if kind=k then (took ds us kind m n).length else 0:=by
 unfold kindN
 by_cases hk:kind=k
 ·rw [if_pos hk,List.countP_eq_length];intro j hj;have h:=(took_mem hj).2;simp only [fits,Bool.and_eq_true,decide_eq_true_eq] at h
  simp [h.1.1,hk]
 ·rw [if_neg hk,List.countP_eq_zero];intro j hj;have h:=(took_mem hj).2;simp only [fits,Bool.and_eq_true,decide_eq_true_eq] at h
  simp [h.1.1,hk]
structure TookAll (ds:List Dv) (ns:List Nd) (us us':Nat→Bool) (new:List Nat):Prop where
 nodup:new.Nodup
 free:∀ j∈new,j<ds.length∧us j=false
 used:∀ j,us' j=(us j || decide (j∈new))
 kinds:∀ k,(kindN ds k new:Int)=needSum k ns
theorem devsFor_zero {ds:List Dv} (h16:ds.length≤16) (on:Nat):∀ (ns:List Nd) (us:Nat→Bool) (out:List Nat),(devsFor ds on ns us out).1=0→∃ new,(devsFor ds on ns us out).2.2=out++new∧TookAll ds ns us (devsFor ds on ns us out).2.1 new:=by
 intro ns
 induction ns with
 | nil=>intro us out _;exact ⟨[],by simp [devsFor],⟨List.nodup_nil,fun _ h=>(List.not_mem_nil h).elim,fun j=>by simp [devsFor],fun k=>by simp [kindN,needSum]⟩⟩
 | cons n r ih=>
  intro us out h;rw [devsFor] at h ⊢
  by_cases hf:takeF ds us n.kind n.many=0
  ·rw [if_pos hf] at h ⊢;obtain ⟨new,e,t⟩:=ih _ _ h;have hT16:∀ j∈took ds us n.kind on n.many.toNat,j<16:=fun j hj=>by have:=(took_mem hj).1;omega
   have hp:=srt_perm hT16 (took_nodup ds us n.kind on n.many.toNat);refine ⟨srt (took ds us n.kind on n.many.toNat)++new,by rw [e,List.append_assoc],⟨?_,?_,?_,?_⟩⟩
   ·rw [List.nodup_append];refine ⟨hp.nodup_iff.2 (took_nodup ds us n.kind on n.many.toNat),t.nodup,fun a ha b hb e2=>?_⟩;subst e2;have h1:=(t.free a hb).2;unfold usedBy at h1;rw [Bool.or_eq_false_iff,decide_eq_false_iff_not] at h1;exact h1.2 (hp.mem_iff.1 ha)
   ·intro j hj
    rcases List.mem_append.1 hj with hj|hj
    ·have h1:=took_mem (hp.mem_iff.1 hj);refine ⟨h1.1,?_⟩;have h2:=h1.2;simp only [fits,Bool.and_eq_true,Bool.not_eq_true'] at h2;exact h2.2
    ·have h1:=t.free j hj;refine ⟨h1.1,?_⟩;have h2:=h1.2;unfold usedBy at h2;rw [Bool.or_eq_false_iff] at h2;exact h2.1
   ·intro j;rw [t.used j];unfold usedBy;rw [Bool.or_assoc]
    congr 1
    rw [← Bool.decide_or];apply decide_eq_decide.2;rw [List.mem_append,hp.mem_iff]
   ·intro k;unfold kindN;rw [List.countP_append,hp.countP_eq];have h1:=kindN_took (ds:=ds) (us:=us) (kind:=n.kind) (m:=on) (n:=n.many.toNat) k;unfold kindN at h1;rw [h1];have h2:=t.kinds k;unfold kindN at h2;have h3:=took_len (m:=on) hf;unfold needSum;rw [List.map_cons,List.sum_cons];unfold needSum at h2
    by_cases hk:n.kind=k
    ·rw [if_pos hk,if_pos hk];omega
    ·rw [if_neg hk,if_neg hk];omega
  ·rw [if_neg hf] at h;exact absurd h hf
theorem sum_none {α:Type} (l:List α):(l.map fun _=>(0:Int)).sum=0:=by
 induction l with
 | nil=>rfl
 | cons x r ih=>rw [List.map_cons,List.sum_cons,ih];rfl
theorem needSum_want {ns:List Nd} (hp:ns.Pairwise fun a b=>a.kind≠b.kind) (k:ByteArray):needSum k ns=(want ns k).getD 0:=by
 by_cases h:∃ n∈ns,n.kind=k
 ·obtain ⟨n,hn,rfl⟩:=h;unfold want;rw [want_at ns _ n hn hp]
  show needSum n.kind ns=n.many
  induction ns with
  | nil=>cases hn
  | cons x r ih=>
   obtain ⟨h1,h2⟩:=List.pairwise_cons.1 hp;unfold needSum;rw [List.map_cons,List.sum_cons]
   rcases List.mem_cons.1 hn with rfl|hn
   ·rw [if_pos rfl]
    have:(r.map fun y=>if y.kind=n.kind then y.many else 0).sum=0:=by
     have:(r.map fun y=>if y.kind=n.kind then y.many else 0)=r.map fun _=>(0:Int):=List.map_congr_left fun y hy=>by rw [if_neg (fun e=>h1 y hy e.symm)]
     rw [this];exact sum_none r
    rw [this];omega
   ·rw [if_neg (h1 n hn)]
    have:=ih h2 hn
    unfold needSum at this;rw [this];omega
 ·have h':∀ n∈ns,n.kind≠k:=fun n hn e=>h ⟨n,hn,e⟩
  unfold want;rw [want_out ns _ k h'];unfold needSum
  have:(ns.map fun n=>if n.kind=k then n.many else 0)=ns.map fun _=>(0:Int):=List.map_congr_left fun y hy=>by rw [if_neg (h' y hy)]
  rw [this];exact sum_none ns
def toInts (l:List Nat):List Int:=l.map fun (k:Nat)=>(k:Int)
theorem ofKind_ints (ds:List Dv) (k:ByteArray) (l:List Nat):ofKind ds k (toInts l)=kindN ds k l:=by
 unfold ofKind kindN toInts;rw [List.countP_map];rfl
theorem mem_toInts {l:List Nat} {j:Nat}:(j:Int)∈toInts l↔j∈l:=by
 unfold toInts;rw [List.mem_map];constructor
 ·rintro ⟨x,hx,e⟩;have h:x=j:=by omega
  rw [h] at hx;exact hx
 ·exact fun h=>⟨j,h,rfl⟩
theorem nth_toInts {l:List Nat} {k:Nat} (h:k<l.length):nth (toInts l) k=(l[k]:Int):=by simp [nth,toInts,h]
theorem nodup_take {l:List Int} (h:l.Nodup) {k:Nat} (hk:k<l.length):nth l k ∉ l.take k:=by
 intro hm;have e:nth l k=l[k]:=by simp [nth,hk]
 rw [e] at hm;rw [← List.take_append_drop k l,List.nodup_append] at h;exact h.2.2 _ hm _ (by rw [List.drop_eq_getElem_cons hk];exact List.mem_cons_self ..) rfl
theorem toInts_nodup {l:List Nat} (h:l.Nodup):(toInts l).Nodup:=by
 unfold toInts;rw [List.nodup_iff_pairwise_ne] at h ⊢;rw [List.pairwise_map];exact h.imp fun hne e=>hne (by omega)
theorem takeOut_err (l:List Cpu) (F:Nat) (L:Int) (on:Nat):(takeOut l F L on).2=0∨(takeOut l F L on).2=1∨(takeOut l F L on).2=8:=by
 unfold takeOut
 split
 ·exact .inr (.inl rfl)
 ·split
  ·exact .inr (.inr rfl)
  ·exact .inl rfl
theorem give_claim {m:Mc} {s:Sk} {own:Int} {ns:List Nd} (h16:s.ds.length≤16) (hn:∀ n∈ns,n.many≠0) (hp:ns.Pairwise fun a b=>a.kind≠b.kind) (h:(giveOne m s own ns).1=0) :
  claim s (giveOne m s own ns).2.1 own ns=some ⟨dif s.cp (giveOne m s own ns).2.1.cp,s.ds,(giveOne m s own ns).2.2⟩:=by
 unfold giveOne at h ⊢;dsimp only at h ⊢
 split
 ·rename_i h1;rw [if_pos h1] at h;cases h
 ·rename_i h1
  rw [if_neg h1] at h
  split
  ·rename_i h2;rw [if_pos h2] at h;exfalso;have h4:=takeOut_err m.l s.cp own (chosen (fun c=>(place m (wishes m s own ns)).1.1.testBit c.node.toNat) m.l);dsimp only at h;omega
  ·rename_i h2
   rw [if_neg h2] at h
   split
   ·rename_i h3;rw [if_pos h3] at h;exact absurd h h3
   ·rename_i h3
    have hd:(devsFor s.ds (place m (wishes m s own ns)).1.1 ns s.us []).1=0:=by omega
    obtain ⟨new,e,t⟩:=devsFor_zero h16 _ ns s.us [] hd;have ht:=takeOut_zero (show (takeOut m.l s.cp own (chosen (fun c=>(place m (wishes m s own ns)).1.1.testBit c.node.toNat) m.l)).2=0 by omega);generalize (takeOut m.l s.cp own (chosen (fun c=>(place m (wishes m s own ns)).1.1.testBit c.node.toNat) m.l)).1=cp at *;generalize (devsFor s.ds (place m (wishes m s own ns)).1.1 ns s.us []).2.1=us' at *;rw [e,List.nil_append];have hj16:∀ j∈new,j<16:=fun j hj=>by have:=(t.free j hj).1;omega
    have hpm:=srt_perm hj16 t.nodup;have key:claim s (⟨⟨cp,toInts (srt new)⟩,own,ns⟩:Cl).g own ns=some (took1 s ⟨⟨cp,toInts (srt new)⟩,own,ns⟩):=by
     refine (claim_iff (x:=⟨⟨cp,toInts (srt new)⟩,own,ns⟩)).2 ⟨⟨ht.1,?_,fun k hk=>?_⟩,⟨ht.2,fun k hk=>?_⟩,rfl⟩
     ·refine (just_iff hn).2 fun k=>?_
      rw [← needSum_want hp,← t.kinds k]
      show ((kindN s.ds k new:Nat):Int)=((ofKind s.ds k (toInts (srt new)):Nat):Int)
      rw [ofKind_ints];unfold kindN;rw [hpm.countP_eq]
     ·have hk':k<(srt new).length:=by simpa [toInts] using hk
      show 0≤nth (toInts (srt new)) k∧nth (toInts (srt new)) k<(s.ds.length:Int)∧nth (toInts (srt new)) k ∉ (toInts (srt new)).take k
      refine ⟨?_,?_,nodup_take (toInts_nodup (hpm.nodup_iff.2 t.nodup)) hk⟩
      ·rw [nth_toInts hk'];omega
      ·rw [nth_toInts hk']
       have:=(t.free _ (hpm.mem_iff.1 (List.getElem_mem hk'))).1
       omega
     ·have hk':k<(srt new).length:=by simpa [toInts] using hk
      show s.us (nth (toInts (srt new)) k).toNat=false
      rw [nth_toInts hk',Int.toNat_natCast];exact (t.free _ (hpm.mem_iff.1 (List.getElem_mem hk'))).2
    have eus:claimed s.us (toInts (srt new))=us':=by
     funext j
     rw [t.used j];unfold claimed
     congr 1
     apply decide_eq_decide.2;rw [mem_toInts,hpm.mem_iff]
    show claim s ⟨cp,toInts (srt new)⟩ own ns=some ⟨dif s.cp cp,s.ds,us'⟩
    rw [← eus];exact key
end Ol
end
section
namespace Ol
open Ost (Cpu chosen cnt dif)
open Dvs (Dv dv)
open Qos (Nd Ct Pd ct ownOf)
open Sv (Gv Hd gv hd)
def Nice (cs:List Ct):Prop:=∀ c∈cs,(∀ n∈c.ds,n.many≠0)∧c.ds.Pairwise fun a b=>a.kind≠b.kind
def clAt (cs:List Ct) (gs:List Gv) (i:Nat):Cl:=⟨gv gs i,ownOf cs (ct cs i).am,(ct cs i).ds⟩
theorem giveTo_len (m:Mc) (s:Sk) (cs:List Ct):∀ k,(giveTo m s cs k).1=0→(giveTo m s cs k).2.1.length=k:=by
 intro k
 induction k with
 | zero=>intro _;rfl
 | succ k ih=>
  intro h;rw [giveTo] at h ⊢
  by_cases h0:(giveTo m s cs k).1=0
  ·rw [if_pos h0] at h ⊢;unfold giveNext at h ⊢
   by_cases hg:(giveOne m (giveTo m s cs k).2.2 (ownOf cs (ct cs k).am) (ct cs k).ds).1=0
   ·rw [if_pos hg];rw [List.length_append,ih h0];rfl
   ·rw [if_neg hg] at h;exact absurd h hg
  ·rw [if_neg h0] at h;exact absurd h h0
theorem giveTo_claims {m:Mc} {s:Sk} {cs:List Ct} (h16:s.ds.length≤16) (hc:Nice cs):∀ k,k≤cs.length→(giveTo m s cs k).1=0→claims s ((List.range k).map (clAt cs (giveTo m s cs k).2.1))=some (giveTo m s cs k).2.2∧(giveTo m s cs k).2.2.ds=s.ds:=by
 intro k
 induction k with
 | zero=>intro _ _;exact ⟨rfl,rfl⟩
 | succ k ih=>
  intro hk h;have hl:=giveTo_len m s cs k;rw [giveTo] at h ⊢
  by_cases h0:(giveTo m s cs k).1=0
  ·rw [if_pos h0] at h ⊢;obtain ⟨i1,i2⟩:=ih (by omega) h0;have hlen:=hl h0;generalize (giveTo m s cs k).2.1=gs at *;generalize (giveTo m s cs k).2.2=s' at *;unfold giveNext at h ⊢
   by_cases hg:(giveOne m s' (ownOf cs (ct cs k).am) (ct cs k).ds).1=0
   ·rw [if_pos hg];have hm:ct cs k∈cs:=Sv.mem_ct (by omega);have hcl:=give_claim (m:=m) (s:=s') (own:=ownOf cs (ct cs k).am) (ns:=(ct cs k).ds) (by rw [i2];exact h16) (hc _ hm).1 (hc _ hm).2 hg;refine ⟨?_,i2⟩;generalize giveOne m s' (ownOf cs (ct cs k).am) (ct cs k).ds=g at *;dsimp only;rw [List.range_succ,List.map_append,claims_app];have e1:(List.range k).map (clAt cs (gs++[g.2.1]))=(List.range k).map (clAt cs gs):=by
     refine List.map_congr_left fun i hi=>?_
     have hi':i<gs.length:=by rw [hlen];exact List.mem_range.1 hi
     unfold clAt
     congr 1
     simp [gv,List.getElem?_append_left hi']
    rw [e1,i1,Option.bind_some,List.map_singleton,claims];have e2:clAt cs (gs++[g.2.1]) k=⟨g.2.1,ownOf cs (ct cs k).am,(ct cs k).ds⟩:=by
     unfold clAt
     congr 1
     simp [gv,← hlen]
    rw [e2,hcl];rfl
   ·rw [if_neg hg] at h;exact absurd h hg
  ·rw [if_neg h0] at h;exact absurd h h0
theorem admit_left {m:Mc} {ds:List Dv} {hs hs':List Hd} {s:Sk} {p:Pd} (hl:left m ds hs=some s) (h16:s.ds.length≤16) (hc:Nice p.cs) (hg:(give m s p).1=0) (hp:(hs++[(⟨p,(give m s p).2⟩:Hd)]).Perm hs') :
  left m ds hs'=some (giveTo m s p.cs p.cs.length).2.2:=by
 refine left_perm hp (left_snoc hl ?_);have h:=(giveTo_claims h16 hc p.cs.length (Nat.le_refl _) hg).1;have hlen:=giveTo_len m s p.cs p.cs.length hg;unfold clsOf
 show claims s ((List.range (give m s p).2.length).map (clAt p.cs (give m s p).2))=_
 have e:(give m s p).2.length=p.cs.length:=hlen;rw [e];exact h
theorem left_sub {m:Mc} {ds:List Dv} {hs hs':List Hd} {s:Sk} (h:left m ds hs=some s) (hsub:hs'.Sublist hs):∃ s',left m ds hs'=some s':=by
 obtain ⟨rest,hp⟩:=hsub.exists_perm_append;have h2:=left_perm hp h;unfold left at h2 ⊢
 split at h2
 ·rename_i h0
  rw [if_pos h0];rw [leftTo_eq _ _ _ (Nat.le_refl _),List.take_length] at h2 ⊢;rw [clsAll,List.flatMap_append,claims_app] at h2;obtain ⟨s1,e1,_⟩:=Option.bind_eq_some_iff.1 h2;exact ⟨s1,e1⟩
 ·cases h2
theorem left_nil {m:Mc} {ds:List Dv} (h:Dvs.fault ds=0):left m ds []=some ⟨m.op,ds,fun _=>false⟩:=by
 unfold left;rw [if_pos h];rfl
theorem claims_ds {s s':Sk}:∀ {l:List Cl},claims s l=some s'→s'.ds=s.ds:=by
 intro l
 induction l generalizing s with
 | nil=>intro h;injection h with h;rw [h]
 | cons x r ih=>
  intro h;rw [claims] at h;obtain ⟨s1,e1,e2⟩:=Option.bind_eq_some_iff.1 h;rw [ih e2,claim_ds e1]
theorem left_ds {m:Mc} {ds:List Dv} {hs:List Hd} {s:Sk} (h:left m ds hs=some s):s.ds=ds:=by
 unfold left at h
 split at h
 ·rw [leftTo_eq _ _ _ (Nat.le_refl _),List.take_length] at h;exact claims_ds h
 ·cases h
end Ol
end
end Go.Proofs.YtbmmnflgnmjboaaGreatDoor
