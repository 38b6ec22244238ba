/- TCnt2, DLay, OMath, OA1, TopSetW, VT1, VC1, RK4, TNew, RK5, VD2, EMath5 -/
import Derived.Test.YtbfdcmodflnkfaaGreatDoorU5
import Derived.Shelf.Spec.SlicesGrow
import Derived.Sort.OwnSortedInts
import Derived.Ground.NamesProg
import Derived.Laws.EntriesVeiled
set_option maxRecDepth 100000
set_option maxHeartbeats 16000000
namespace Go.Proofs.YtbfdcmodflnkfaaGreatDoor
section
open Go.RowKit
open Ost (Cpu cpu0 chosenTo chosen)
theorem or8 (s n:Nat) (hs:s<256) (hn:n<8):bits BinOp.or IntKind.u8 (s:Int) (IntKind.u8.wrap (2 ^ n))=((s ||| 2 ^ n:Nat):Int):=by
 have key:∀ (a:Fin 256) (b:Fin 8),bits BinOp.or IntKind.u8 ((a.val:Nat):Int) (IntKind.u8.wrap (2 ^ b.val))=((a.val ||| 2 ^ b.val:Nat):Int):=by decide +kernel
 exact key ⟨s,hs⟩ ⟨n,hn⟩
theorem or8m (s n:Nat) (hs:s<256) (hn:n<8):bits BinOp.or IntKind.u8 (s:Int) (2 ^ n % 256)=((s ||| 2 ^ n:Nat):Int):=by
 have key:∀ (a:Fin 256) (b:Fin 8),bits BinOp.or IntKind.u8 ((a.val:Nat):Int) (2 ^ b.val % 256)=((a.val ||| 2 ^ b.val:Nat):Int):=by decide +kernel
 exact key ⟨s,hs⟩ ⟨n,hn⟩
def nodesTo (l:List Cpu):Nat→Nat
 | 0=>0
 | k+1=>nodesTo l k ||| 2 ^ (l.getD k cpu0).node.toNat
theorem nodesTo_bit (l:List Cpu) (k j:Nat):(nodesTo l k).testBit j=true↔∃ i,i<k∧(l.getD i cpu0).node.toNat=j:=by
 induction k with
 | zero=>simp [nodesTo]
 | succ k ih=>
  rw [nodesTo,Nat.testBit_or,Bool.or_eq_true,ih,Nat.testBit_two_pow]
  constructor
  ·rintro (⟨i,hi,h⟩|h)
   ·exact ⟨i,by omega,h⟩
   ·exact ⟨k,by omega,by simpa using h⟩
  ·rintro ⟨i,hi,h⟩
   by_cases e:i=k
   ·subst e;right;simpa using h
   ·left;exact ⟨i,by omega,h⟩
def maskTo (f:Nat→Bool):Nat→Nat
 | 0=>0
 | k+1=>if f k then maskTo f k ||| 2 ^ k else maskTo f k
theorem maskTo_bit (f:Nat→Bool) (k j:Nat):(maskTo f k).testBit j=(decide (j<k) && f j):=by
 induction k with
 | zero=>simp [maskTo]
 | succ k ih=>
  rw [maskTo]
  by_cases h:f k=true
  ·rw [if_pos h,Nat.testBit_or,ih,Nat.testBit_two_pow]
   by_cases e:j=k
   ·subst e;simp [h]
   ·by_cases h2:j<k
    ·simp [h2,show j<k+1 by omega,show ¬ k=j by omega]
    ·simp [h2,show ¬ j<k+1 by omega,show ¬ k=j by omega]
  ·have h':f k=false:=by simpa using h
   rw [if_neg h,ih]
   by_cases e:j=k
   ·subst e;simp [h']
   ·by_cases h2:j<k
    ·simp [h2,show j<k+1 by omega]
    ·simp [h2,show ¬ j<k+1 by omega]
theorem cntTo_pos (s:Nat) (l:List Cpu) (j:Int) (k:Nat):0<cntTo s l j k↔∃ i,i<k∧s.testBit i=true∧(l.getD i cpu0).node=j:=by
 induction k with
 | zero=>simp [cntTo]
 | succ k ih=>
  rw [cntTo]
  by_cases h:(s.testBit k && decide ((l.getD k cpu0).node=j))=true
  ·rw [if_pos h]
   simp only [Bool.and_eq_true,decide_eq_true_eq] at h
   exact ⟨fun _=>⟨k,by omega,h.1,h.2⟩,fun _=>by omega⟩
  ·rw [if_neg h,ih]
   constructor
   ·rintro ⟨i,hi,r⟩;exact ⟨i,by omega,r⟩
   ·rintro ⟨i,hi,r⟩
    by_cases e:i=k
    ·subst e;exact absurd (by rw [r.1,r.2];simp) h
    ·exact ⟨i,by omega,r⟩
theorem nodes_eq (l:List Cpu) (hg:Good l):maskTo (fun j=>decide (0<cntTo (chosen anyCpu l) l j l.length)) 4=nodesTo l l.length:=by
 apply Nat.eq_of_testBit_eq
 intro j
 rw [maskTo_bit,Bool.eq_iff_iff,nodesTo_bit,Bool.and_eq_true,decide_eq_true_eq,decide_eq_true_eq,cntTo_pos]
 constructor
 ·rintro ⟨_,i,hi,_,hn⟩
  exact ⟨i,hi,by omega⟩
 ·rintro ⟨i,hi,hn⟩
  have:=hg.at hi
  exact ⟨by omega,i,hi,by rw [Ost.chosen_bit];simp [anyCpu,hi],by omega⟩
theorem maskTo_lt (f:Nat→Bool) (k:Nat) (hk:k≤4):maskTo f k<256:=by
 apply Nat.lt_pow_two_of_testBit (n:=8)
 intro i hi
 rw [maskTo_bit];simp [show ¬ i<k by omega]
theorem four_index (a b c d:Int) (w:World):∀ k:Nat,k<4→∃ x,(Instr.index 221 (.agg #[.int .i64 a,.int .i64 b,.int .i64 c,.int .i64 d]) (.int .i64 k)).run Tryz.prog w=.ok (.int .i64 x) w∧x=[a,b,c,d].getD k 0:=by
 intro k hk
 have:k=0∨k=1∨k=2∨k=3:=by omega
 rcases this with rfl|rfl|rfl|rfl
 ·exact ⟨a,by kernel_rfl,rfl⟩
 ·exact ⟨b,by kernel_rfl,rfl⟩
 ·exact ⟨c,by kernel_rfl,rfl⟩
 ·exact ⟨d,by kernel_rfl,rfl⟩
theorem nodes_any (tb b o c:Nat) (l:List Cpu) (w:World) (ht:TopoAt w tb b o c l) (hg:Good l) :
  Calls Tryz.prog 94 #[.pointer (some ⟨tb,0,none⟩)] w fun e w'=>e=.returned (.int .u8 (nodesTo l l.length:Nat))∧Below w.heap.size w w':=by
 rw [← nodes_eq l hg]
 have HT:=hZz ht
 have HG:=hZz hg
 have hlA:=Ost.chosenTo_lt anyCpu l l.length ht.len
 have HA:=hZz (all_any tb b o c l w ht)
 change chosen anyCpu l<_ at hlA
 generalize chosen anyCpu l=A at *
 obtain ⟨f,hf⟩:∃ f:Nat→Bool,f=fun (j:Nat)=>decide (0<cntTo A l j l.length):=⟨_,rfl⟩
 rw [← hf]
 have HF:Hid (∀ j:Nat,f j=decide (0<cntTo A l j l.length)):=fun j=>by rw [hf]
 clear ht hg hf
 go_enter Tryz.func94,Tryz.ntmps94
 go_wp2_with fail
 refine HA.out.mono ?_
 rintro e w1 ⟨rfl,hb1⟩
 go_wp2_with fail
 refine (count_any A tb b o c l w1 (HT.out.below hb1) hlA HG.out).mono ?_
 rintro e w2 ⟨rfl,hb2⟩
 have hB:=hb1.trans (hb2.mono hb1.size)
 have HX:=hZz (fun k hk=>four_index (cntTo A l 0 l.length:Nat) (cntTo A l 1 l.length:Nat) (cntTo A l 2 l.length:Nat) (cntTo A l 3 l.length:Nat) w2 k hk)
 clear hb1 hb2 hlA
 unfold cntV
 go_wp2_with fail
 go_loop [3,10] (fun t i=>∃ k:Nat,k≤4∧i=.int .i64 k∧t=.int .u8 (maskTo f k:Nat)) (fun _ i=>4 - (intOf i).toNat)
 case atStart=>exact ⟨0,by omega,rfl,rfl⟩
 case round=>
  obtain ⟨k,hk,rfl,rfl⟩:=hrel
  by_cases hlt:k<4
  ·obtain ⟨x,hx,hxe⟩:=HX.out k hlt
   have hxk:x=(cntTo A l k l.length:Nat):=by
    rw [hxe]
    have:k=0∨k=1∨k=2∨k=3:=by omega
    rcases this with rfl|rfl|rfl|rfl <;> rfl
   have HL:=hZz (maskTo_lt f k (by omega))
   have hfk:=HF.out k
   clear hxe
   by_cases h0:0<cntTo A l k l.length
   ·have hx0:0<x:=by omega
    have HO:Hid (bits BinOp.or IntKind.u8 (maskTo f k:Nat) (2 ^ k % 256)=((maskTo f (k+1):Nat):Int)):=by
     unfold Hid;rw [or8m _ _ HL.out (by omega),maskTo,if_pos (by rw [hfk];exact decide_eq_true h0)]
    clear hxk h0 hfk
    go_wp2_with fail
    go_round
    case rel=>exact ⟨k+1,by omega,by go_num,by rw [← HO.out]⟩
    case measure=>simp [intOf];omega
   ·have hx0:¬ 0<x:=by omega
    have HO:Hid (maskTo f k=maskTo f (k+1)):=by
     unfold Hid;rw [maskTo,if_neg (by rw [hfk];simpa using h0)]
    clear hxk h0 hfk
    go_wp2_with fail
    go_round
    case rel=>exact ⟨k+1,by omega,by go_num,by rw [← HO.out]⟩
    case measure=>simp [intOf];omega
  ·have hkl:k=4:=by omega
   subst hkl
   clear hk hlt
   go_wp2_with fail
   go_ret
   exact ⟨rfl,hB⟩

end
end Go.Proofs.YtbfdcmodflnkfaaGreatDoor
namespace Go.Proofs
open Go.Shelf
shelf_lay_g SlLaysE0.n41 Slgn 41 at Tryz 90 as Tryz.cloneL
shelf_lay_g Lays8.n4 Nm8 4 at Tryz 169 as Tryz.growL
shelf_lay Lays.n189 Nm 189 at Tryz as Tryz.sortL9
end Go.Proofs
namespace Go.Proofs.YtbfdcmodflnkfaaGreatDoor
section
open Go.RowKit
open Dvs (Dv dv0 dv nth)
end
section
namespace Ol
open Ost (Cpu N4 Wi Hi chosen cnt dif takeOut told hints)
open Dvs (Dv dv fits kindP cn took takeF srt usedBy clF claimed first)
open Qos (Nd Ct Pd ct ownOf sumM sumB podF)
open Sv (Gv Hd gv hd)
structure Mc where
 l:List Cpu
 op:Nat
 nd:Nat
 nb:Int
 pol:Int
structure Sk where
 cp:Nat
 ds:List Dv
 us:Nat→Bool
def onNode (A:Nat) (l:List Cpu) (x:Nat):Nat:=((List.range l.length).filter fun k=>A.testBit k && decide ((l.getD k Ost.cpu0).node=(x:Int))).length
def cpu4 (A:Nat) (l:List Cpu):N4:=⟨onNode A l 0,onNode A l 1,onNode A l 2,onNode A l 3⟩
def dev4 (p:Nat→Bool) (ds:List Dv):N4:=⟨cn p ds 0 ds.length,cn p ds 1 ds.length,cn p ds 2 ds.length,cn p ds 3 ds.length⟩
def wish (free all:N4) (nd:Nat) (many:Int):Wi:=if many≤0 then ⟨true,[]⟩ else ⟨false,hints free all nd many⟩
def wishes (m:Mc) (s:Sk) (own:Int) (ns:List Nd):List Wi:=
 wish (cpu4 s.cp m.l) (cpu4 m.op m.l) m.nd own :: ns.map fun n=>wish (dev4 (fits s.ds s.us n.kind) s.ds) (dev4 (kindP s.ds n.kind) s.ds) m.nd n.many
def place (m:Mc) (ws:List Wi):Hi × Bool:=if m.pol=0 then ((m.nd,true),true) else (told m.pol m.nd ws,(told m.pol m.nd ws).2 || decide (m.pol=1))
def devsFor (ds:List Dv) (on:Nat):List Nd→(Nat→Bool)→List Nat→Nat × (Nat→Bool) × List Nat
 | [],us,out=>(0,us,out)
 | n :: r,us,out=>if takeF ds us n.kind n.many=0 then devsFor ds on r (usedBy us (took ds us n.kind on n.many.toNat)) (out++srt (took ds us n.kind on n.many.toNat)) else (takeF ds us n.kind n.many,us,out)
def giveOne (m:Mc) (s:Sk) (own:Int) (ns:List Nd):Nat × Gv × (Nat→Bool):=
 let p:=place m (wishes m s own ns)
 if p.2=false then (10,⟨0,[]⟩,s.us) else
 let t:=takeOut m.l s.cp own (chosen (fun c=>p.1.1.testBit c.node.toNat) m.l)
 if t.2≠0 then (t.2.toNat,⟨0,[]⟩,s.us) else
 let d:=devsFor s.ds p.1.1 ns s.us []
 if d.1≠0 then (d.1,⟨0,[]⟩,d.2.1) else (0,⟨t.1,(srt d.2.2).map fun (k:Nat)=>(k:Int)⟩,d.2.1)
def giveNext (m:Mc) (cs:List Ct) (k:Nat) (gs:List Gv) (s:Sk):Nat × List Gv × Sk:=
 if (giveOne m s (ownOf cs (ct cs k).am) (ct cs k).ds).1=0 then (0,gs++[(giveOne m s (ownOf cs (ct cs k).am) (ct cs k).ds).2.1],⟨dif s.cp (giveOne m s (ownOf cs (ct cs k).am) (ct cs k).ds).2.1.cp,s.ds,(giveOne m s (ownOf cs (ct cs k).am) (ct cs k).ds).2.2⟩)
 else ((giveOne m s (ownOf cs (ct cs k).am) (ct cs k).ds).1,[],⟨s.cp,s.ds,(giveOne m s (ownOf cs (ct cs k).am) (ct cs k).ds).2.2⟩)
def giveTo (m:Mc) (s:Sk) (cs:List Ct):Nat→Nat × List Gv × Sk
 | 0=>(0,[],s)
 | k+1=>
  if (giveTo m s cs k).1=0 then giveNext m cs k (giveTo m s cs k).2.1 (giveTo m s cs k).2.2 else giveTo m s cs k
def give (m:Mc) (s:Sk) (p:Pd):Nat × List Gv:=((giveTo m s p.cs p.cs.length).1,(giveTo m s p.cs p.cs.length).2.1)
def wantSet (m:ByteArray→Option Int) (k:ByteArray) (v:Option Int):ByteArray→Option Int:=fun x=>if x=k then v else m x
def want (ns:List Nd):ByteArray→Option Int:=ns.foldl (fun m n=>wantSet m n.kind (some n.many)) fun _=>none
def wantLess (ds:List Dv) (m:ByteArray→Option Int) (j:Int):ByteArray→Option Int:=
 let k:=(dv ds j.toNat).kind
 let v:=(m k).getD 0 - 1
 wantSet m k (if v=0 then none else some v)
def Just (ds:List Dv) (l:List Int) (ns:List Nd):Prop:=∀ k,l.foldl (wantLess ds) (want ns) k=none
open Classical in
noncomputable def claim (s:Sk) (g:Gv) (own:Int) (ns:List Nd):Option Sk:=
 if g.cp &&& s.cp=g.cp∧(cnt g.cp:Int)=own∧first (clF s.ds.length s.us g.dv) g.dv.length=0 then
  if Just s.ds g.dv ns then some ⟨dif s.cp g.cp,s.ds,claimed s.us g.dv⟩ else none
 else none
noncomputable def claimsTo (s:Sk) (h:Hd):Nat→Option Sk
 | 0=>some s
 | k+1=>(claimsTo s h k).bind fun s'=>claim s' (gv h.gs k) (ownOf h.pod.cs (ct h.pod.cs k).am) (ct h.pod.cs k).ds
noncomputable def leftTo (s:Sk) (hs:List Hd):Nat→Option Sk
 | 0=>some s
 | k+1=>(leftTo s hs k).bind fun s'=>claimsTo s' (hd hs k) (hd hs k).gs.length
noncomputable def left (m:Mc) (ds:List Dv) (hs:List Hd):Option Sk:=if Dvs.fault ds=0 then leftTo ⟨m.op,ds,fun _=>false⟩ hs hs.length else none
def sumsM (ps:List Pd):Int:=(ps.map fun p=>sumM p.cs p.cs.length).sum
def sumsB (ps:List Pd):Int:=(ps.map fun p=>sumB p.cs p.cs.length).sum
def room (m:Mc) (ps:List Pd):Bool:=decide (sumsM ps≤1000*(cnt m.op:Int)) && decide (sumsB ps≤m.nb)
end Ol
end
section
open Go.RowKit
open Qos (Nd Ct Pd nd ct pd)
open Sv (Gv Hd gv hd)
structure CellLe (W W':World):Prop where
 size:W.heap.size≤W'.heap.size
 cell:∀ (b o:Nat) (v:Value),W.cell? ⟨b,o,none⟩=some v→W'.cell? ⟨b,o,none⟩=some v
theorem CellLe.refl (W:World):CellLe W W:=⟨Nat.le_refl _,fun _ _ _ h=>h⟩
theorem CellLe.trans {A B C:World} (h:CellLe A B) (k:CellLe B C):CellLe A C:=⟨Nat.le_trans h.size k.size,fun b o v e=>k.cell b o v (h.cell b o v e)⟩
theorem CellLe.of_below {W W':World} (h:Below W.heap.size W W'):CellLe W W':=
 ⟨h.size,fun b o _ e=>(h.cell (p:=⟨b,o,none⟩) (World.block_lt_of_cell? W ⟨b,o,none⟩ e)).trans e⟩
theorem IntsOf.le {W W':World} {v:Value} {xs:List Int} (h:IntsOf W v xs) (l:CellLe W W'):IntsOf W' v xs:=by
 obtain ⟨ao,c,hv,hc,hr⟩:=h
 refine ⟨ao,c,hv,hc,fun h0=>?_⟩
 obtain ⟨b,o,ha,hlt,hcs⟩:=hr h0
 exact ⟨b,o,ha,Nat.lt_of_lt_of_le hlt l.size,fun k hk=>l.cell _ _ _ (hcs k hk)⟩
theorem NeedsAt.le {W W':World} {v:Value} {ds:List Nd} (h:NeedsAt W v ds) (l:CellLe W W'):NeedsAt W' v ds:=by
 obtain ⟨ao,c,hv,hc,hr⟩:=h
 refine ⟨ao,c,hv,hc,fun h0=>?_⟩
 obtain ⟨b,o,ha,hlt,hcs⟩:=hr h0
 exact ⟨b,o,ha,Nat.lt_of_lt_of_le hlt l.size,fun k hk=>⟨l.cell _ _ _ (hcs k hk).1,l.cell _ _ _ (hcs k hk).2⟩⟩
theorem ConsAt.le {W W':World} {v:Value} {cs:List Ct} (h:ConsAt W v cs) (l:CellLe W W'):ConsAt W' v cs:=by
 obtain ⟨ao,c,hv,hc,hr⟩:=h
 refine ⟨ao,c,hv,hc,fun h0=>?_⟩
 obtain ⟨b,o,dv,ha,hlt,hcs⟩:=hr h0
 refine ⟨b,o,dv,ha,Nat.lt_of_lt_of_le hlt l.size,fun k hk=>⟨fun j hj=>?_,(hcs k hk).2.le l⟩⟩
 have h6:j<(contCells (ct cs k) (dv k)).length:=hj
 rw [List.getElem?_eq_getElem h6]
 exact l.cell _ _ _ (((hcs k hk).1 j hj).trans (List.getElem?_eq_getElem h6))
theorem GivsAt.le {W W':World} {v:Value} {gs:List Gv} (h:GivsAt W v gs) (l:CellLe W W'):GivsAt W' v gs:=by
 obtain ⟨ao,c,hv,hc,hr⟩:=h
 refine ⟨ao,c,hv,hc,fun h0=>?_⟩
 obtain ⟨b,o,dv,ha,hlt,hcs⟩:=hr h0
 exact ⟨b,o,dv,ha,Nat.lt_of_lt_of_le hlt l.size,fun k hk=>⟨⟨l.cell _ _ _ (hcs k hk).1.1,l.cell _ _ _ (hcs k hk).1.2.1,(hcs k hk).1.2.2⟩,(hcs k hk).2.le l⟩⟩
theorem HldsAt.le {W W':World} {v:Value} {hs:List Hd} (h:HldsAt W v hs) (l:CellLe W W'):HldsAt W' v hs:=by
 obtain ⟨ao,c,hv,hc,hr⟩:=h
 refine ⟨ao,c,hv,hc,fun h0=>?_⟩
 obtain ⟨b,o,cv,gvv,ha,hlt,hcs⟩:=hr h0
 exact ⟨b,o,cv,gvv,ha,Nat.lt_of_lt_of_le hlt l.size,fun k hk=>⟨⟨l.cell _ _ _ (hcs k hk).1.1,l.cell _ _ _ (hcs k hk).1.2.1,l.cell _ _ _ (hcs k hk).1.2.2.1,l.cell _ _ _ (hcs k hk).1.2.2.2⟩,(hcs k hk).2.1.le l,(hcs k hk).2.2.le l⟩⟩
open Classical in
noncomputable def mask (M:Nat→Prop) (W:World):World:={ W with heap:=W.heap.mapIdx fun j o=>if M j then .cells #[] 0 (0,0) else o }
theorem mask_size (M:Nat→Prop) (W:World):(mask M W).heap.size=W.heap.size:=by simp [mask]
theorem mask_in {M:Nat→Prop} {W:World} {j:Nat} (h:M j) (hl:j<W.heap.size):(mask M W).heap[j]?=some (.cells #[] 0 (0,0)):=by
 simp [mask,Array.getElem?_mapIdx,Array.getElem?_eq_getElem hl,h]
theorem mask_out {M:Nat→Prop} {W:World} {j:Nat} (h:¬ M j):(mask M W).heap[j]?=W.heap[j]?:=by
 simp only [mask,Array.getElem?_mapIdx]
 cases W.heap[j]? with
 | none=>rfl
 | some o=>simp [h]
theorem mask_free {M:Nat→Prop} {W:World} {b o:Nat} {v:Value} (h:(mask M W).cell? ⟨b,o,none⟩=some v):¬ M b:=fun hm=>by
 have hl:=World.block_lt_of_cell? _ ⟨b,o,none⟩ h
 have hl2:b<W.heap.size:=by rw [mask_size] at hl;exact hl
 simp [World.cell?,mask_in hm hl2] at h
theorem mask_le {M M':Nat→Prop} {W W':World} (h:Apart M W W') (hm:∀ j,j<W.heap.size→M' j→M j):CellLe (mask M W) (mask M' W'):=by
 refine ⟨by rw [mask_size,mask_size];exact h.size,fun b o v e=>?_⟩
 have hb:=mask_free e
 have hl:b<W.heap.size:=by have:=World.block_lt_of_cell? _ ⟨b,o,none⟩ e;rw [mask_size] at this;exact this
 have e1:(mask M' W').heap[b]?=(mask M W).heap[b]?:=by
  rw [mask_out (fun k=>hb (hm b hl k)),mask_out hb]
  exact h.block b hl hb
 exact (World.cell?_of_block (a:=⟨b,o,none⟩) e1).trans e
theorem mask_off (M:Nat→Prop) (W:World):CellLe (mask M W) W:=by
 refine ⟨by rw [mask_size];exact Nat.le_refl _,fun b o v e=>?_⟩
 exact (World.cell?_of_block (a:=⟨b,o,none⟩) (mask_out (mask_free e)).symm).trans e
theorem mask_below {M:Nat→Prop} {N:Nat} {w W:World} (h:Below N w W) (hN:w.heap.size=N) (hM:∀ j,M j→N≤j):CellLe w (mask M W):=by
 refine ⟨by rw [mask_size];exact h.size,fun b o v e=>?_⟩
 have hl:b<N:=by rw [← hN];exact World.block_lt_of_cell? w ⟨b,o,none⟩ e
 have e1:(mask M W).heap[b]?=w.heap[b]?:=by
  rw [mask_out (fun k=>by have:=hM b k;omega)]
  exact h.block b hl
 exact (World.cell?_of_block (a:=⟨b,o,none⟩) e1).trans e
end
namespace S1
open Go.RowKit
theorem text_any (A:Nat) (w:World) (hA:A<18446744073709551616) :
  Calls Tryz.prog 147 #[.int .u64 A] w fun e w'=>e=.returned (.string ⟨(Ost.txt A).toArray⟩)∧Below w.heap.size w w':=
 text_loop A w hA (fun v w1 h _=>join_own v (txts A 64) w1 w.heap.size h (Nat.le_trans (txts_len A 64) (by omega)) (Nat.le_trans (Ost.txt_len A) (by omega)))
end S1
section
open Go.RowKit
open Qos (Nd Ct Pd nd ct pd)
open Sv (Gv Hd gv hd needTxt needsTxt devsTxt setTxt contWs givenWs lineTxt OkN OkC OkG)
open S1 (Tab strs strs_snoc strs_oneCell ownsRow_cells infoStr itoa_any)
theorem row_belowV {w w':World} {base:Nat} {e:TypeId} {size:Nat} {v:Value} {n:Nat} {xs:List Value} (h:w.ownsRow base e size v n xs) (hb:Below w.heap.size w w'):w'.ownsRow base e size v n xs:=
 h.kept (row:=none) ⟨hb.os,hb.tape,hb.output,hb.size,fun j hj _=>hb.block j hj⟩ (by cases hv:v.ownBlock <;> simp)
theorem join_any (c:UInt8) (v:Value) (xs:List (List UInt8)) (w:World) (base:Nat) (h:w.ownsRow base 9 1 v xs.length (strs xs)) (hn:xs.length≤1000) (hl:(Lib.join xs [c]).length≤1000000) :
  Calls Tryz.prog 183 #[v,.string ⟨#[c]⟩] w fun e w'=>e=.returned (.string ⟨(Lib.join xs [c]).toArray⟩)∧Below w.heap.size w w':=by
 rcases ownsRow_cells h with ⟨rfl,h0⟩|⟨g,cap,rfl,hc,hg,hcell⟩
 ·have:xs=[]:=List.eq_nil_of_length_eq_zero h0
  subst this
  refine (Tryz.strings_Join_none none 0 ⟨#[c]⟩ w).mono ?_
  rintro e w' ⟨rfl,rfl⟩
  exact ⟨rfl,Below.refl _ _⟩
 ·have hx:(xs.map fun (b:List UInt8)=>ByteArray.mk b.toArray).map (·.data.toList)=xs:=by
   rw [List.map_map];exact List.map_id'' (fun _=>rfl) xs
  have:=Tryz.strings_Join g 0 cap (xs.map fun (b:List UInt8)=>ByteArray.mk b.toArray) ⟨#[c]⟩ w (fun j x hj=>by
   rw [Nat.zero_add]
   apply hcell
   unfold strs
   rw [List.getElem?_map] at hj ⊢
   obtain ⟨a,ha,rfl⟩:=Option.map_eq_some_iff.1 hj
   rw [ha];rfl) hg (by simp;omega) (by simpa using hc) (by rw [hx];show (Lib.join xs [c]).length≤_;omega)
  rw [hx] at this
  simpa using this
def decs (xs:List Int) (k:Nat):List (List UInt8):=(xs.take k).map Sv.dec
theorem decs_next {xs:List Int} {k:Nat} (h:k<xs.length):decs xs (k+1)=decs xs k++[Sv.dec (xs.getD k 0)]:=by
 unfold decs
 rw [List.take_succ_eq_append_getElem h,List.map_append];simp [h]
theorem decs_len {xs:List Int} {k:Nat} (h:k≤xs.length):(decs xs k).length=k:=by
 unfold decs;simp;omega
theorem decs_all (xs:List Int):decs xs xs.length=xs.map Sv.dec:=by unfold decs;rw [List.take_length]
theorem listInts_any (v:Value) (xs:List Int) (w:World) (h:IntsOf w v xs) (hx:∀ x∈xs,0≤x∧x≤15) (hl:xs.length≤16) (htab:Tab w) (hG:0<w.heap.size) :
  Calls Tryz.prog 148 #[v,.func (.func 144) #[] #[]] w fun e w'=>e=.returned (.string ⟨(devsTxt xs).toArray⟩)∧Below w.heap.size w w':=by
 obtain ⟨i0,hi,hz0,hz1,hz2⟩:=info_parts infoStr
 obtain ⟨ao,c,rfl,hm,hr⟩:=h
 have HR:=hZz hr
 have HT:=hZz htab
 have HX:=hZz hx
 have HG:=hZz hG
 clear hr htab hx hG
 unfold maxLen at hm
 have HJ:Hid (∀ (v:Value) (w1:World),w1.ownsRow w.heap.size 9 1 v (decs xs xs.length).length (strs (decs xs xs.length))→Calls Tryz.prog 183 #[v,.string ⟨#[44]⟩] w1 fun e w'=>e=.returned (.string ⟨(Lib.join (decs xs xs.length) [44]).toArray⟩)∧Below w1.heap.size w1 w'):=by
  intro v w1 h
  refine join_any 44 v _ w1 _ h (by rw [decs_len (Nat.le_refl _)];omega) ?_
  refine Nat.le_trans (Sv.join_le 44 20 _ fun x hx=>?_) (by rw [decs_len (Nat.le_refl _)];omega)
  rw [decs_all] at hx
  obtain ⟨d,hd,rfl⟩:=List.mem_map.1 hx
  exact Sv.dec_le d (by have:=(HX.out d hd).2;omega)
 have HD:Hid (Sv.orNo (Lib.join (decs xs xs.length) [44])=devsTxt xs):=by unfold Hid devsTxt;rw [decs_all]
 go_enter Tryz.func148,Tryz.ntmps148
 go_wp2_with fail
 go_loopw [5,10] (fun r i wr=>∃ k:Nat,k≤xs.length∧i=.int .i64 k∧wr.ownsRow w.heap.size 9 1 r (decs xs k).length (strs (decs xs k))∧Below w.heap.size w wr) (fun _ i _=>xs.length - (intOf i).toNat)
 case atStart=>exact ⟨0,by omega,rfl,World.ownsRow_nil _ _ _ _,Below.refl _ _⟩
 case round=>
  obtain ⟨k,hk,rfl,hrow,hB⟩:=hrel
  by_cases hlt:k<xs.length
  ·obtain ⟨b,o,rfl,hb,hc⟩:=HR.out (by omega)
   have h1:=(hB.cell (p:=⟨b,o+k,none⟩) hb).trans (hc k hlt)
   have HS:=hZz (decs_next hlt)
   have hle:=decs_len hk
   have hxk:=HX.out (xs.getD k 0) (by simp [hlt])
   have hsz:=hB.size
   clear hc
   generalize xs.getD k 0=x at *
   have HI:=hZz (itoa_any x wr hxk.1 (by omega) (HT.out.below hB HG.out))
   go_wp2_with fail
   refine HI.out.mono ?_
   rintro e w1 ⟨rfl,hb1⟩
   have HB1:=hZz (hB.trans (hb1.mono hB.size))
   have hrow1:=row_belowV hrow hb1
   have hsz1:=hb1.size
   go_wp2_with (at_builtin;refine wpList_append_own _ rfl _ _ 110 rfl w.heap.size 9 i0 (.string ⟨#[]⟩) 1 16 Tryz.underlying110 hi hz0 hz1 hz2 rfl (by decide) _ _ _ rfl (hrow1.alloc _) ⟨_,0,none⟩ 1 1 [.string ⟨(Sv.dec x).toArray⟩] rfl rfl (cell_one_new _ _ _) (strs_oneCell [Sv.dec x]) (by unfold maxLen;omega) (by omega) (by simp;omega) ?_;intro v' w2 hown' hgrow' _)
   go_roundw
   case rel=>
    refine ⟨k+1,by omega,by go_num,?_,?_⟩
    ·rw [HS.out,strs_snoc,List.length_append];exact hown'
    ·exact (HB1.out.alloc HB1.out.size _).grown hgrow' (by simp;omega) (fun j hj=>(hrow1.lt j hj).1)
   case measure=>simp [intOf];omega
  ·have hke:k=xs.length:=by omega
   subst hke
   go_wp2_with fail
   refine (HJ.out _ _ hrow).mono ?_
   rintro e w1 ⟨rfl,hb1⟩
   have hB1:=hB.trans (hb1.mono hB.size)
   go_wp2_with fail
   refine (orNothing_any _ _).mono ?_
   rintro e w2 ⟨rfl,rfl⟩
   go_wp2_with fail
   go_ret
   exact ⟨by rw [← HD.out];rfl,hB1⟩
end
section
open Go.RowKit
open Qos (Nd Ct Pd nd ct pd podF leS)
open Sv (Gv Hd gv hd devF devF1 gsF behindF oneF heldF lowAt)
open Dvs (nameMay first)
theorem IntsOf.slice {w:World} {v:Value} {xs:List Int} (h:IntsOf w v xs):∃ ao c,v=.slice ao xs.length c:=by
 obtain ⟨ao,c,rfl,_⟩:=h
 exact ⟨ao,c,rfl⟩
theorem devF_many {xs:List Int} (h:16<xs.length):devF xs=2:=by unfold devF;rw [if_pos h]
theorem devF_few {xs:List Int} (h:¬ 16<xs.length):devF xs=first (devF1 xs) xs.length:=by unfold devF;rw [if_neg h]
def lastI (xs:List Int) (k:Nat):Int:=if k=0 then -1 else xs.getD (k - 1) 0
theorem lastI_next (xs:List Int) (k:Nat):lastI xs (k+1)=xs.getD k 0:=rfl
theorem devF1_at {xs:List Int} {k:Nat} (h:first (devF1 xs) k=0) (hk:k<xs.length):devF1 xs k=if xs.getD k 0≤lastI xs k∨16≤xs.getD k 0 then 3 else 0:=by
 unfold devF1
 by_cases h0:k=0
 ·subst h0
  rw [show lastI xs 0=-1 from rfl]
  by_cases h1:xs.getD 0 0<0∨15<xs.getD 0 0
  ·rw [if_pos (by omega),if_pos (by omega)]
  ·rw [if_neg (by omega),if_neg (by omega)]
 ·have e:lastI xs k=xs.getD (k - 1) 0:=by unfold lastI;rw [if_neg h0]
  rw [e]
  have hp:=Dvs.first_all h (k - 1) (by omega)
  unfold devF1 at hp
  split at hp
  ·cases hp
  rename_i h2
  by_cases h1:xs.getD k 0≤xs.getD (k - 1) 0∨16≤xs.getD k 0
  ·rw [if_pos h1,if_pos (by omega)]
  ·rw [if_neg h1,if_neg (by omega)]
theorem checkDevs_any (v:Value) (xs:List Int) (w:World) (h:IntsOf w v xs):Calls Tryz.prog 181 #[v] w fun e w'=>e=.returned (errV (devF xs:Nat))∧w'=w:=by
 obtain ⟨ao,c,rfl,hm,hr⟩:=h
 have HR:=hZz hr
 clear hr
 have HM:=hZz hm
 unfold maxLen at hm
 by_cases hn:16<xs.length
 ·have he:=devF_many hn
  have hd:decide ((16:Int)<(xs.length:Int))=true:=decide_eq_true (by omega)
  go_enter Tryz.func181,Tryz.ntmps181
  go_wp2_with fail
  go_ret
  exact ⟨by rw [he];rfl,rfl⟩
 ·rw [devF_few hn]
  have hl:xs.length≤16:=by omega
  have hd:decide ((16:Int)<(xs.length:Int))=false:=decide_eq_false (by omega)
  go_enter Tryz.func181,Tryz.ntmps181
  go_wp2_with fail
  go_loop [3,12] (fun la i=>∃ k:Nat,k≤xs.length∧i=.int .i64 k∧la=.int .i64 (lastI xs k)∧Hid (first (devF1 xs) k=0)) (fun _ i=>xs.length - (intOf i).toNat)
  case atStart=>exact ⟨0,by omega,rfl,rfl,rfl⟩
  case round=>
   obtain ⟨k,hk,rfl,rfl,HF⟩:=hrel
   by_cases hlt:k<xs.length
   ·obtain ⟨b,o,rfl,hb,hc⟩:=HR.out (by omega)
    have h1:=hc k hlt
    have HO:=hZz (Dvs.first_hit (f:=devF1 xs) (n:=xs.length) HF.out · hlt)
    have HZ:=hZz (Dvs.first_zero (f:=devF1 xs) (k:=k) HF.out)
    have HA:=hZz (devF1_at HF.out hlt)
    have HN:=hZz (lastI_next xs k)
    clear hc HF HR HM
    generalize xs.getD k 0=x at *
    generalize lastI xs k=L at *
    by_cases ha:x≤L
    ·have e3:devF1 xs k=3:=by rw [HA.out,if_pos (.inl ha)]
     have hd1:decide (x≤L)=true:=decide_eq_true ha
     have HO':=hZz (HO.out (by omega))
     go_wp2_with fail
     go_ret
     exact ⟨by rw [HO'.out,e3];rfl,rfl⟩
    ·have hd1:decide (x≤L)=false:=decide_eq_false ha
     by_cases hg:16≤x
     ·have e3:devF1 xs k=3:=by rw [HA.out,if_pos (.inr hg)]
      have hd2:decide (16≤x)=true:=decide_eq_true hg
      have HO':=hZz (HO.out (by omega))
      go_wp2_with fail
      go_ret
      exact ⟨by rw [HO'.out,e3];rfl,rfl⟩
     ·have e0:devF1 xs k=0:=by rw [HA.out,if_neg (by omega)]
      have hd2:decide (16≤x)=false:=decide_eq_false hg
      have HZ':=hZz (HZ.out e0)
      clear HO HZ HA
      go_wp2_with fail
      go_round
      case rel=>exact ⟨k+1,by omega,by go_num,by rw [HN.out],HZ'⟩
      case measure=>simp [intOf];omega
   ·have hke:k=xs.length:=by omega
    subst hke
    go_wp2_with fail
    go_ret
    exact ⟨by rw [HF.out];rfl,rfl⟩
theorem GivsIn.at {w:World} {b o:Nat} {gs:List Gv} {dv:Nat→Value} (h:GivsIn w b o gs dv) {k:Nat} (hk:k<gs.length) :
  w.cell? ⟨b,o+k*2,none⟩=some (.int .u64 (gv gs k).cp)∧w.cell? ⟨b,o+k*2+1,none⟩=some (dv k):=⟨(h.2 k hk).1.1,(h.2 k hk).1.2.1⟩
theorem behind_1 {h:Hd} {b:Bool} (e:podF h.pod≠0):behindF h b=podF h.pod:=by unfold behindF;rw [if_pos e]
theorem behind_2 {h:Hd} {b:Bool} (e:podF h.pod=0) (e2:b=true∨h.gs.length≠h.pod.cs.length):behindF h b=3:=by unfold behindF;rw [if_neg (by omega),if_pos e2]
theorem behind_3 {h:Hd} {b:Bool} (e:podF h.pod=0) (e2:¬ (b=true∨h.gs.length≠h.pod.cs.length)):behindF h b=first (fun k=>devF (gv h.gs k).dv) h.gs.length:=by unfold behindF;rw [if_neg (by omega),if_neg e2];rfl
theorem ConsAt.sl {w:World} {v:Value} {cs:List Ct} (h:ConsAt w v cs):∃ ao c,v=.slice ao cs.length c:=by
 obtain ⟨ao,c,rfl,_⟩:=h
 exact ⟨ao,c,rfl⟩
theorem GivsAt.sl {w:World} {v:Value} {cs:List Gv} (h:GivsAt w v cs):∃ ao c,v=.slice ao cs.length c:=by
 obtain ⟨ao,c,rfl,_⟩:=h
 exact ⟨ao,c,rfl⟩
theorem checkHeld_any (h:Hd) (cv gvv:Value) (last:ByteArray) (w:World) (hc:ConsAt w cv h.pod.cs) (hg:GivsAt w gvv h.gs) :
  Calls Tryz.prog 141 #[heldV h cv gvv,.string last] w fun e w'=>e=.returned (errV (behindF h (leS h.pod.nm last):Nat))∧Below w.heap.size w w':=by
 unfold heldV
 have HB0:=hZz ((Below.refl w.heap.size w).alloc (Nat.le_refl _) (.cells #[.string h.pod.nm,.int .i64 h.pod.pr,cv,gvv] 60))
 have hcb:=hc.below HB0.out
 have hgb:=hg.below HB0.out
 have HCK:=hZz (check_any h.pod cv _ hcb)
 have HCB:=hZz hcb
 have HGB:=hZz hgb
 obtain ⟨cao,cc,rfl⟩:=hc.sl
 obtain ⟨gao,gc,rfl⟩:=hg.sl
 clear hc hg hcb hgb
 unfold podV at HCK
 by_cases hp:podF h.pod=0
 ·have e0:errV ((podF h.pod:Nat):Int)=.nilIface:=by rw [hp];rfl
  go_enter Tryz.func141,Tryz.ntmps141
  go_wp2_with fail
  refine HCK.out.mono ?_
  rintro e w1 ⟨rfl,hb⟩
  rw [e0]
  have HB1:=hZz (HB0.out.trans (hb.mono HB0.out.size))
  have hG:=HGB.out.below hb
  have c0:w1.cell? ⟨w.heap.size,0,none⟩=some (.string h.pod.nm):=(hb.cell (p:=⟨w.heap.size,0,none⟩) (by simp)).trans (by simp)
  have c2:w1.cell? ⟨w.heap.size,2,none⟩=some (.slice cao h.pod.cs.length cc):=(hb.cell (p:=⟨w.heap.size,2,none⟩) (by simp)).trans (by simp)
  have c3:w1.cell? ⟨w.heap.size,3,none⟩=some (.slice gao h.gs.length gc):=(hb.cell (p:=⟨w.heap.size,3,none⟩) (by simp)).trans (by simp)
  clear hb HCK HCB HGB
  rcases two (leS h.pod.nm last) with hle|hle
  ·have HE:=hZz (behind_2 (b:=leS h.pod.nm last) hp (.inl hle))
   unfold leS at hle
   go_wp2_with fail
   go_ret
   exact ⟨by rw [HE.out];rfl,HB1.out⟩
  ·by_cases hl:h.gs.length=h.pod.cs.length
   ·have HE:=hZz (behind_3 (b:=leS h.pod.nm last) hp (by rw [hle];simp [hl]))
    unfold leS at hle
    have hl2:(h.gs.length:Int)=(h.pod.cs.length:Int):=by omega
    obtain ⟨_,_,hgv,hm,hr⟩:=hG
    cases hgv
    have HR:=hZz hr
    have HM:=hZz hm
    clear hr
    unfold maxLen at hm
    generalize h.gs=gs at *
    go_wp2_with fail
    go_loopw [34] (fun i wr=>∃ k:Nat,k≤gs.length∧i=.int .i64 k∧Below w.heap.size w wr∧Below w1.heap.size w1 wr∧Hid (first (fun k=>devF (gv gs k).dv) k=0)) (fun i _=>gs.length - (intOf i).toNat)
    case atStart=>exact ⟨0,by omega,rfl,HB1.out,Below.refl _ _,rfl⟩
    case round=>
     obtain ⟨k,hk,rfl,hB,hB1,HF⟩:=hrel
     by_cases hlt:k<gs.length
     ·obtain ⟨b,o,dv,rfl,hin⟩:=HR.out (by omega)
      have hin:=hin.below hB1
      obtain ⟨d0,d1⟩:=hin.at hlt
      have hI:=(hin.2 k hlt).2
      have HO:Hid (devF (gv gs k).dv≠0→first (fun k=>devF (gv gs k).dv) gs.length=devF (gv gs k).dv):=hZz fun h=>Dvs.first_hit (f:=fun k=>devF (gv gs k).dv) (n:=gs.length) HF.out h hlt
      have HZ:Hid (devF (gv gs k).dv=0→first (fun k=>devF (gv gs k).dv) (k+1)=0):=hZz fun h=>Dvs.first_zero (f:=fun k=>devF (gv gs k).dv) (k:=k) HF.out h
      have HBW:=hZz ((Below.refl wr.heap.size wr).alloc (Nat.le_refl _) (.cells #[.int .u64 (gv gs k).cp,dv k] 69))
      have HBa:=hZz (hB.alloc hB.size (.cells #[.int .u64 (gv gs k).cp,dv k] 69))
      have HBb:=hZz (hB1.alloc hB1.size (.cells #[.int .u64 (gv gs k).cp,dv k] 69))
      have HCD:=hZz (checkDevs_any (dv k) _ _ (hI.below HBW.out))
      obtain ⟨iao,ic,hsl⟩:=hI.slice
      clear hin hI HF hB hB1
      generalize (gv gs k).cp=cp at *
      generalize devF (gv gs k).dv=F at *
      generalize (gv gs k).dv.length=dn at *
      generalize dv k=d at *
      subst hsl
      go_wp2_with fail
      refine HCD.out.mono ?_
      rintro e w5 ⟨rfl,rfl⟩
      by_cases hF:F=0
      ·have HZ':=hZz (HZ.out hF)
       rw [show errV (F:Int)=.nilIface by rw [hF];rfl]
       clear HO HZ hF HCD
       go_wp2_with fail
       go_roundw
       case rel=>exact ⟨k+1,by omega,by go_num,HBa.out,HBb.out,HZ'⟩
       case measure=>simp [intOf];omega
      ·have HO':=hZz (HO.out hF)
       have HP:=hZz (errQ_pos hF)
       rw [HP.out]
       clear HO HZ hF HCD
       go_wp2_with fail
       go_ret
       exact ⟨by rw [HE.out,HO'.out,HP.out];rfl,HBa.out⟩
     ·have hke:k=gs.length:=by omega
      subst hke
      have HBa:=hZz hB
      clear hB hB1
      go_wp2_with fail
      go_ret
      exact ⟨by rw [HE.out,HF.out];rfl,HBa.out⟩
   ·have HE:=hZz (behind_2 (b:=leS h.pod.nm last) hp (.inr hl))
    unfold leS at hle
    have hl2:((h.gs.length:Int) == (h.pod.cs.length:Int))=false:=by simp;omega
    go_wp2_with fail
    go_ret
    exact ⟨by rw [HE.out];rfl,HB1.out⟩
 ·have HE:=hZz (behind_1 (b:=leS h.pod.nm last) hp)
  have HP:=hZz (errQ_pos hp)
  go_enter Tryz.func141,Tryz.ntmps141
  go_wp2_with fail
  refine HCK.out.mono ?_
  rintro e w1 ⟨rfl,hb⟩
  have HB1:=hZz (HB0.out.trans (hb.mono HB0.out.size))
  rw [HP.out]
  clear hb
  go_wp2_with fail
  go_ret
  exact ⟨by rw [HE.out,HP.out];rfl,HB1.out⟩
theorem HldsIn.at {w:World} {b o:Nat} {hs:List Hd} {cv gvv:Nat→Value} (h:HldsIn w b o hs cv gvv) {k:Nat} (hk:k<hs.length) :
  w.cell? ⟨b,o+k*4,none⟩=some (.string (hd hs k).pod.nm)∧w.cell? ⟨b,o+k*4+1,none⟩=some (.int .i64 (hd hs k).pod.pr)∧w.cell? ⟨b,o+k*4+2,none⟩=some (cv k)∧w.cell? ⟨b,o+k*4+3,none⟩=some (gvv k):=(h.2 k hk).1
def lastS (hs:List Hd) (k:Nat):ByteArray:=if k=0 then ByteArray.empty else (hd hs (k - 1)).pod.nm
theorem lastS_next (hs:List Hd) (k:Nat):lastS hs (k+1)=(hd hs k).pod.nm:=rfl
theorem name_above {s:ByteArray} (h:nameMay s=true):leS s ByteArray.empty=false:=by
 have h0:=(Sv.name_size h).1
 rw [leS,ByteArray.toList_eq,ByteArray.toList_eq]
 cases hs:s.data.toList with
 | nil=>rw [hs] at h0;simp at h0
 | cons a r=>rfl
theorem behind_low {h:Hd} {b:Bool} (hb:nameMay h.pod.nm=true→b=false):behindF h b=behindF h false:=by
 unfold behindF
 by_cases hp:podF h.pod=0
 ·have hn:=(Qos.pod_len hp).1
  rw [hb hn]
 ·rw [if_pos hp,if_pos hp]
theorem one_last (hs:List Hd) (k:Nat):behindF (hd hs k) (leS (hd hs k).pod.nm (lastS hs k))=oneF hs k:=by
 unfold oneF lowAt lastS
 by_cases h0:k=0
 ·subst h0
  rw [if_pos rfl]
  show _=behindF (hd hs 0) false
  exact behind_low name_above
 ·rw [if_neg h0,decide_eq_true (by omega:0<k)]
  rfl
theorem heldF_many {hs:List Hd} (h:12<hs.length):heldF hs=2:=by unfold heldF;rw [if_pos h]
theorem heldF_few {hs:List Hd} (h:¬ 12<hs.length):heldF hs=first (oneF hs) hs.length:=by unfold heldF;rw [if_neg h]
theorem saveCheck_any (v:Value) (hs:List Hd) (w:World) (h:HldsAt w v hs):Calls Tryz.prog 107 #[v] w fun e w'=>e=.returned (errV (heldF hs:Nat))∧Below w.heap.size w w':=by
 obtain ⟨ao,c,rfl,hm,hr⟩:=h
 have HR:=hZz hr
 clear hr
 have HM:=hZz hm
 unfold maxLen at hm
 by_cases hn:12<hs.length
 ·have he:=heldF_many hn
  have hd1:decide ((12:Int)<(hs.length:Int))=true:=decide_eq_true (by omega)
  go_enter Tryz.func107,Tryz.ntmps107
  go_wp2_with fail
  go_ret
  exact ⟨by rw [he];rfl,Below.refl _ _⟩
 ·rw [heldF_few hn]
  have hl:hs.length≤12:=by omega
  have hd1:decide ((12:Int)<(hs.length:Int))=false:=decide_eq_false (by omega)
  go_enter Tryz.func107,Tryz.ntmps107
  go_wp2_with fail
  go_loopw [3,13] (fun la i wr=>∃ k:Nat,k≤hs.length∧i=.int .i64 k∧la=.string (lastS hs k)∧Below w.heap.size w wr∧Hid (first (oneF hs) k=0)) (fun _ i _=>hs.length - (intOf i).toNat)
  case atStart=>exact ⟨0,by omega,rfl,rfl,Below.refl _ _,rfl⟩
  case round=>
   obtain ⟨k,hk,rfl,rfl,hB,HF⟩:=hrel
   by_cases hlt:k<hs.length
   ·obtain ⟨b,o,cv,gvv,rfl,hin⟩:=HR.out (by omega)
    have hin:=hin.below hB
    obtain ⟨d0,d1,d2,d3⟩:=hin.at hlt
    obtain ⟨_,hC,hG⟩:=hin.2 k hlt
    have HO:=hZz (Dvs.first_hit (f:=oneF hs) (n:=hs.length) HF.out · hlt)
    have HZ:=hZz (Dvs.first_zero (f:=oneF hs) (k:=k) HF.out)
    have HBW:=hZz ((Below.refl wr.heap.size wr).alloc (Nat.le_refl _) (.cells #[.string (hd hs k).pod.nm,.int .i64 (hd hs k).pod.pr,cv k,gvv k] 60))
    have HBa:=hZz (hB.alloc hB.size (.cells #[.string (hd hs k).pod.nm,.int .i64 (hd hs k).pod.pr,cv k,gvv k] 60))
    have HCH:=hZz (checkHeld_any (hd hs k) (cv k) (gvv k) (lastS hs k) _ (hC.below HBW.out) (hG.below HBW.out))
    rw [one_last hs k] at HCH
    unfold heldV at HCH
    have HN:=hZz (lastS_next hs k)
    obtain ⟨ca,cc,hs1⟩:=hC.sl
    obtain ⟨ga,gc,hs2⟩:=hG.sl
    clear hin hC hG HF hB
    generalize lastS hs k=L at *
    generalize oneF hs k=F at *
    generalize (hd hs k).pod.nm=nm at *
    generalize (hd hs k).pod.pr=pr at *
    generalize (hd hs k).pod.cs.length=cl at *
    generalize (hd hs k).gs.length=gl at *
    generalize cv k=cvk at *
    generalize gvv k=gvk at *
    subst hs1 hs2
    go_wp2_with fail
    refine HCH.out.mono ?_
    rintro e w5 ⟨rfl,hb5⟩
    have HB5:=hZz (HBa.out.trans (hb5.mono HBa.out.size))
    have c0:w5.cell? ⟨wr.heap.size,0,none⟩=some (.string nm):=(hb5.cell (p:=⟨wr.heap.size,0,none⟩) (by simp)).trans (by simp)
    clear hb5
    by_cases hF:F=0
    ·have HZ':=hZz (HZ.out hF)
     rw [show errV (F:Int)=.nilIface by rw [hF];rfl]
     clear HO HZ hF HCH
     go_wp2_with fail
     go_roundw
     case rel=>exact ⟨k+1,by omega,by go_num,by rw [HN.out],HB5.out,HZ'⟩
     case measure=>simp [intOf];omega
    ·have HO':=hZz (HO.out hF)
     have HP:=hZz (errQ_pos hF)
     rw [HP.out]
     clear HO HZ hF HCH
     go_wp2_with fail
     go_ret
     exact ⟨by rw [HO'.out,HP.out];rfl,HB5.out⟩
   ·have hke:k=hs.length:=by omega
    subst hke
    have HBa:=hZz hB
    clear hB
    go_wp2_with fail
    go_ret
    exact ⟨by rw [HF.out];rfl,HBa.out⟩
end
section
open Go.RowKit
open Qos (cmpS ltS orI)
theorem below_drewR {B:Nat} {a w:World} (h:Below B a w):Below B a w.drew:=⟨h.os,h.tape,h.output,h.size,h.block⟩
theorem eq_strR (a b:ByteArray):(a.toList == b.toList)=decide (a=b):=by
 rw [Bool.eq_iff_iff,beq_iff_eq,decide_eq_true_iff,ByteArray.toList_eq,ByteArray.toList_eq]
 exact ⟨fun h=>ByteArray.ext (Array.toList_inj.mp h),fun h=>by rw [h]⟩
theorem nanStr_anyR (x:ByteArray) (w:World):Calls Tryz.prog 98 #[.string x] w fun e w'=>e=.returned (.bool false)∧w'=w:=by
 go_enter Tryz.func98,Tryz.ntmps98
 go_wp2_with fail
 go_ret
 exact ⟨by simp,rfl⟩
theorem cmpStr_anyR (x y:ByteArray) (w:World):Calls Tryz.prog 60 #[.string x,.string y] w fun e w'=>e=.returned (.int .i64 (cmpS x y))∧w'=w:=by
 have HT:Hid (cmpS x y=if ltS x y=true then -1 else if ltS y x=true then 1 else 0):=rfl
 have HTOT:=hZz (Qos.ltS_total x y)
 have HAS:=hZz (Qos.ltS_asymm x y)
 generalize cmpS x y=T at *
 rcases two (ltS x y) with h1|h1
 ·have HE:=hZz (HT.out.trans (if_pos h1))
  have h1':Op.bytesLess x.toList y.toList=true:=h1
  clear HT h1 HTOT HAS
  go_enter Tryz.func60,Tryz.ntmps60
  go_wp2_with fail
  refine (nanStr_anyR _ _).mono ?_
  rintro e w1 ⟨rfl,rfl⟩
  go_wp2_with fail
  refine (nanStr_anyR _ _).mono ?_
  rintro e w1 ⟨rfl,rfl⟩
  go_wp2_with fail
  go_ret
  exact ⟨by rw [HE.out];rfl,rfl⟩
 ·have HT1:=hZz (HT.out.trans (if_neg (by rw [h1];decide)))
  have h1':Op.bytesLess x.toList y.toList=false:=h1
  rcases two (ltS y x) with h2|h2
  ·have HE:=hZz (HT1.out.trans (if_pos h2))
   have hne:(x.toList == y.toList)=false:=by
    rw [eq_strR]
    refine decide_eq_false fun e=>?_
    subst e
    rw [h1] at h2
    cases h2
   clear HT HT1 h1 h2 HTOT HAS
   go_enter Tryz.func60,Tryz.ntmps60
   go_wp2_with fail
   refine (nanStr_anyR _ _).mono ?_
   rintro e w1 ⟨rfl,rfl⟩
   go_wp2_with fail
   refine (nanStr_anyR _ _).mono ?_
   rintro e w1 ⟨rfl,rfl⟩
   go_wp2_with fail
   go_ret
   exact ⟨by rw [HE.out];rfl,rfl⟩
  ·have HE:=hZz (HT1.out.trans (if_neg (by rw [h2];decide)))
   have hxy:x=y:=HTOT.out (by rw [h1];rfl) (by rw [h2];rfl)
   subst hxy
   clear HT HT1 h1 h2 HTOT HAS
   go_enter Tryz.func60,Tryz.ntmps60
   go_wp2_with fail
   refine (nanStr_anyR _ _).mono ?_
   rintro e w1 ⟨rfl,rfl⟩
   go_wp2_with fail
   refine (nanStr_anyR _ _).mono ?_
   rintro e w1 ⟨rfl,rfl⟩
   go_wp2_with fail
   go_ret
   exact ⟨by rw [HE.out];rfl,rfl⟩
theorem or2_anyR (a b:Int) (g n:Nat) (w:World) (h0:w.cell? ⟨g,0,none⟩=some (.int .i64 a)) (h1:w.cell? ⟨g,1,none⟩=some (.int .i64 b)) :
  Calls Tryz.prog 119 #[.slice (some ⟨g,0,none⟩) 2 n] w fun e w'=>e=.returned (.int .i64 (orI a b))∧w'=w:=by
 have HO:Hid (∀ k:Nat,k<2→∃ v:Int,w.cell? ⟨g,k,none⟩=some (.int .i64 v)∧(v=if k=0 then a else b)):=by
  intro k hk
  have:k=0∨k=1:=by omega
  rcases this with rfl|rfl
  ·exact ⟨a,h0,rfl⟩
  ·exact ⟨b,h1,rfl⟩
 clear h0 h1
 go_enter Tryz.func119,Tryz.ntmps119
 go_wp2_with fail
 go_loop [8] (fun i=>∃ k:Nat,k≤2∧i=.int .i64 k∧Hid ((0<k→a=0)∧(1<k→b=0))) (fun i=>2 - (intOf i).toNat)
 case atStart=>exact ⟨0,by omega,rfl,⟨fun h=>by omega,fun h=>by omega⟩⟩
 case round=>
  obtain ⟨k,hk,rfl,HZ⟩:=hrel
  by_cases hlt:k<2
  ·obtain ⟨v,hc,hv⟩:=HO.out k hlt
   have HV:=hZz hv
   clear hv
   by_cases h0:v=0
   ·subst h0
    have HZ2:Hid ((0<k+1→a=0)∧(1<k+1→b=0)):=by
     obtain ⟨z0,z1⟩:=HZ.out
     have hv:=HV.out
     have:k=0∨k=1:=by omega
     rcases this with rfl|rfl
     ·simp at hv;exact ⟨fun _=>hv.symm,fun h=>by omega⟩
     ·simp at hv;exact ⟨fun _=>z0 (by omega),fun _=>hv.symm⟩
    go_wp2_with fail
    go_round
    case rel=>exact ⟨k+1,by omega,by go_num,HZ2⟩
    case measure=>simp [intOf];omega
   ·have HE:Hid (orI a b=v):=by
     obtain ⟨z0,z1⟩:=HZ.out
     have hv:=HV.out
     have:k=0∨k=1:=by omega
     unfold Hid orI
     rcases this with rfl|rfl
     ·simp at hv;subst hv;rw [if_neg h0]
     ·simp at hv;subst hv;rw [if_pos (z0 (by omega))]
    have hb:(v != 0)=true:=by simp [h0]
    go_wp2_with fail
    go_ret
    exact ⟨by rw [HE.out];rfl,rfl⟩
  ·have hke:k=2:=by omega
   subst hke
   have HE:Hid (orI a b=0):=by
    obtain ⟨z0,z1⟩:=HZ.out
    unfold Hid orI
    rw [if_pos (z0 (by omega)),z1 (by omega)]
   go_wp2_with fail
   go_ret
   exact ⟨by rw [HE.out];rfl,rfl⟩
def RBox (W:World) (B:Nat) (x:RV):Prop:=W.heap[B]?=some (.cells #[.string x.pod,.string x.cont,.int .u64 x.cpus,.slice x.da x.dn x.dc] 154 (0,0))
theorem RBox.lt {W:World} {B:Nat} {x:RV} (h:RBox W B x):B<W.heap.size:=(Array.getElem?_eq_some_iff.1 h).1
theorem RBox.cells {W:World} {B:Nat} {x:RV} (h:RBox W B x):W.cell? ⟨B,0,none⟩=some (.string x.pod)∧W.cell? ⟨B,1,none⟩=some (.string x.cont)∧W.cell? ⟨B,2,none⟩=some (.int .u64 x.cpus)∧W.cell? ⟨B,3,none⟩=some (.slice x.da x.dn x.dc):=by
 refine ⟨?_,?_,?_,?_⟩ <;> simp [World.cell?,show W.heap[B]?=_ from h]
theorem RBox.made (w:World) (x:RV):RBox (w.alloc (.cells #[.string x.pod,.string x.cont,.int .u64 x.cpus,.slice x.da x.dn x.dc] 154)) w.heap.size x:=World.alloc_heap_new w _
theorem RBox.below {W W':World} {B:Nat} {x:RV} (h:RBox W B x) (hb:Below W.heap.size W W'):RBox W' B x:=(hb.block B h.lt).trans h
theorem RBox.alloc {W:World} {B:Nat} {x:RV} (h:RBox W B x) (o:Obj):RBox (W.alloc o) B x:=h.below ((Below.refl _ W).alloc (Nat.le_refl _) o)
theorem two_made (w:World) (t:TypeId) (a b:Int):(w.alloc (.cells #[.int .i64 a,.int .i64 b] t)).cell? ⟨w.heap.size,0,none⟩=some (.int .i64 a)∧(w.alloc (.cells #[.int .i64 a,.int .i64 b] t)).cell? ⟨w.heap.size,1,none⟩=some (.int .i64 b):=⟨by simp,by simp⟩
theorem cmpRun_any (x y:RV) (w:World):Calls Tryz.prog 118 #[.agg #[.string x.pod,.string x.cont,.int .u64 x.cpus,.slice x.da x.dn x.dc],.agg #[.string y.pod,.string y.cont,.int .u64 y.cpus,.slice y.da y.dn y.dc]] w fun e w'=>e=.returned (.int .i64 (orI (cmpS x.pod y.pod) (cmpS x.cont y.cont)))∧Below w.heap.size w w'∧w.drawn≤w'.drawn:=by
 have hb0:=((Below.refl w.heap.size w).alloc (Nat.le_refl _) (.cells #[.string x.pod,.string x.cont,.int .u64 x.cpus,.slice x.da x.dn x.dc] 154)).alloc (by simp) (.cells #[.string y.pod,.string y.cont,.int .u64 y.cpus,.slice y.da y.dn y.dc] 154)
 have HBd:=hZz (below_drewR hb0)
 have HA:=hZz (((RBox.made w x).alloc (.cells #[.string y.pod,.string y.cont,.int .u64 y.cpus,.slice y.da y.dn y.dc] 154)).below (below_drewR (Below.refl _ _)))
 have hC:=(RBox.made (w.alloc (.cells #[.string x.pod,.string x.cont,.int .u64 x.cpus,.slice x.da x.dn x.dc] 154)) y).below (below_drewR (Below.refl _ _))
 rw [show (w.alloc (.cells #[.string x.pod,.string x.cont,.int .u64 x.cpus,.slice x.da x.dn x.dc] 154)).heap.size=w.heap.size+1 by simp] at hC
 have HC:=hZz hC
 clear hb0 hC
 go_enter Tryz.func118,Tryz.ntmps118
 go_wp2_with fail
 refine wp_region_held_drew (S:=(fun w'=>(w'.cell? ⟨w.heap.size,0,none⟩=some (.string x.pod)∧w'.cell? ⟨w.heap.size,1,none⟩=some (.string x.cont))∧w'.cell? ⟨w.heap.size+1,0,none⟩=some (.string y.pod)∧w'.cell? ⟨w.heap.size+1,1,none⟩=some (.string y.cont))) (by kernel_rfl) ⟨⟨HA.out.cells.1,HA.out.cells.2.1⟩,HC.out.cells.1,HC.out.cells.2.1⟩ (fun hHeld=>?_)
 refine tk 0 (v:=?a1) (fun w' h=>?b1) ?_
 case b1=>(try dsimp only at h);go_simp;try rfl
 (try simp only [Act.put,s1,s2,s3])
 refine tk 1 (v:=?a2) (fun w' h=>?b2) ?_
 case b2=>(try dsimp only at h);go_simp;try rfl
 (try simp only [Act.put,s1,s2,s3])
 refine tk 2 (v:=?a3) (fun w' h=>?b3) ?_
 case b3=>(try dsimp only at h);go_simp;try rfl
 (try simp only [Act.put,s1,s2,s3])
 refine tk 3 (v:=?a4) (fun w' h=>?b4) ?_
 case b4=>(try dsimp only at h);go_simp;try rfl
 (try simp only [Act.put,s1,s2,s3])
 refine tk 5 (v:=?a5) (fun w' h=>?b5) ?_
 case b5=>(try dsimp only at h);go_simp;try rfl
 (try simp only [Act.put,s1,s2,s3])
 refine tk 6 (v:=?a6) (fun w' h=>?b6) ?_
 case b6=>(try dsimp only at h);go_simp;try rfl
 (try simp only [Act.put,s1,s2,s3])
 refine tk 7 (v:=?a7) (fun w' h=>?b7) ?_
 case b7=>(try dsimp only at h);go_simp;try rfl
 (try simp only [Act.put,s1,s2,s3])
 refine tk 8 (v:=?a8) (fun w' h=>?b8) ?_
 case b8=>(try dsimp only at h);go_simp;try rfl
 (try simp only [Act.put,s1,s2,s3])
 refine wpAnyH_ready (rs:=[4]) (by kernel_rfl) (by simp) (AllReadyH.cons rfl (fun K hK=>?_) AllReadyH.nil)
 go_simp
 go_wp2_with fail
 refine (cmpStr_anyR _ _ _).mono ?_
 rintro e wx ⟨rfl,rfl⟩
 go_wp2_with fail
 refine hK.out _ _ ⟨⟨HA.out.cells.1,HA.out.cells.2.1⟩,HC.out.cells.1,HC.out.cells.2.1⟩ (fun hHeld=>?_)
 clear hK K
 refine wpAnyH_ready (rs:=[9]) (by kernel_rfl) (by simp) (AllReadyH.cons rfl (fun K hK=>?_) AllReadyH.nil)
 go_simp
 go_wp2_with fail
 refine (cmpStr_anyR _ _ _).mono ?_
 rintro e wx ⟨rfl,rfl⟩
 go_wp2_with fail
 refine hK.out _ _ ⟨⟨HA.out.cells.1,HA.out.cells.2.1⟩,HC.out.cells.1,HC.out.cells.2.1⟩ (fun hHeld=>?_)
 clear hK K
 have HA8:=hZz (HA.out.alloc (.cells #[.int .i64 (cmpS x.pod y.pod),.int .i64 (cmpS x.cont y.cont)] 3))
 have HC8:=hZz (HC.out.alloc (.cells #[.int .i64 (cmpS x.pod y.pod),.int .i64 (cmpS x.cont y.cont)] 3))
 have HB8:=hZz (HBd.out.alloc HBd.out.size (.cells #[.int .i64 (cmpS x.pod y.pod),.int .i64 (cmpS x.cont y.cont)] 3))
 have hD8:=two_made (((w.alloc (.cells #[.string x.pod,.string x.cont,.int .u64 x.cpus,.slice x.da x.dn x.dc] 154)).alloc (.cells #[.string y.pod,.string y.cont,.int .u64 y.cpus,.slice y.da y.dn y.dc] 154)).drew) 3 (cmpS x.pod y.pod) (cmpS x.cont y.cont)
 rw [show (((w.alloc (.cells #[.string x.pod,.string x.cont,.int .u64 x.cpus,.slice x.da x.dn x.dc] 154)).alloc (.cells #[.string y.pod,.string y.cont,.int .u64 y.cpus,.slice y.da y.dn y.dc] 154)).drew).heap.size=w.heap.size+1+1 by simp [World.drew]] at hD8
 have HD8:=hZz hD8
 clear hD8
 refine wpAnyH_ready (rs:=[10]) (by kernel_rfl) (by simp) (AllReadyH.cons rfl (fun K hK=>?_) AllReadyH.nil)
 go_simp
 go_wp2_with fail
 refine hK.out _ _ ⟨⟨HA8.out.cells.1,HA8.out.cells.2.1⟩,HC8.out.cells.1,HC8.out.cells.2.1⟩ (fun hHeld=>?_)
 clear hK K
 refine wpAnyH_ready (rs:=[11]) (by kernel_rfl) (by simp) (AllReadyH.cons rfl (fun K hK=>?_) AllReadyH.nil)
 go_simp
 go_wp2_with fail
 refine (or2_anyR (cmpS x.pod y.pod) (cmpS x.cont y.cont) _ _ _ HD8.out.1 HD8.out.2).mono ?_
 rintro e wx ⟨rfl,rfl⟩
 go_wp2_with fail
 refine hK.out _ _ ⟨⟨HA8.out.cells.1,HA8.out.cells.2.1⟩,HC8.out.cells.1,HC8.out.cells.2.1⟩ (fun hHeld=>?_)
 clear hK K
 refine tk 12 (v:=?a9) (fun w' h=>?b9) ?_
 case b9=>(try dsimp only at h);go_simp;try rfl
 (try simp only [Act.put,s1,s2,s3])
 refine wpAnyH_done (by kernel_rfl) ?_ _
 go_wp2_with fail
 go_ret
 exact ⟨rfl,HB8.out,Nat.le_succ _⟩
end
section
open Go.RowKit
open Go.Maps (Keyed int_keyed keyOf_int_mk)
open Ost (Cpu cpu0 inB seen)
theorem below_any (n m:Int) (w:World):Calls Tryz.prog 82 #[.int .i64 n,.int .i64 m] w fun e w'=>e=.returned (.bool (decide (0≤n) && decide (n<m)))∧w'=w:=by
 rcases two (decide (0≤n)) with h|h
 ·have h1:0≤n:=of_decide_eq_true h
  rw [h]
  clear h
  go_enter Tryz.func82,Tryz.ntmps82
  go_wp2_with fail
  go_ret
  exact ⟨by simp,rfl⟩
 ·have h1:¬ 0≤n:=of_decide_eq_false h
  rw [h]
  clear h
  go_enter Tryz.func82,Tryz.ntmps82
  go_wp2_with fail
  go_ret
  exact ⟨by simp,rfl⟩
theorem bounded_any (x:Cpu) (w:World):Calls Tryz.prog 44 #[.agg #[.int .i64 x.core,.int .i64 x.sock,.int .i64 x.node]] w fun e w'=>e=.returned (.bool (inB x))∧Below w.heap.size w w':=by
 have HB:=hZz ((Below.refl w.heap.size w).alloc (Nat.le_refl _) (.cells #[.int .i64 x.core,.int .i64 x.sock,.int .i64 x.node] 78))
 have H1:=hZz (below_any x.core 64)
 have H2:=hZz (below_any x.sock 64)
 have H3:=hZz (below_any x.node 4)
 unfold inB
 generalize (decide (0≤x.core) && decide (x.core<64))=b1 at *
 generalize (decide (0≤x.sock) && decide (x.sock<64))=b2 at *
 generalize (decide (0≤x.node) && decide (x.node<4))=b3 at *
 cases b1 <;> cases b2
 case false.false|false.true=>
  all_goals
   go_enter Tryz.func44,Tryz.ntmps44
   go_wp2_with fail
   refine (H1.out _).mono ?_
   rintro e w' ⟨rfl,rfl⟩
   go_wp2_with fail
   go_ret
   exact ⟨rfl,HB.out⟩
 case true.false=>
  go_enter Tryz.func44,Tryz.ntmps44
  go_wp2_with fail
  refine (H1.out _).mono ?_
  rintro e w' ⟨rfl,rfl⟩
  go_wp2_with fail
  refine (H2.out _).mono ?_
  rintro e w' ⟨rfl,rfl⟩
  go_wp2_with fail
  go_ret
  exact ⟨rfl,HB.out⟩
 case true.true=>
  go_enter Tryz.func44,Tryz.ntmps44
  go_wp2_with fail
  refine (H1.out _).mono ?_
  rintro e w' ⟨rfl,rfl⟩
  go_wp2_with fail
  refine (H2.out _).mono ?_
  rintro e w' ⟨rfl,rfl⟩
  go_wp2_with fail
  refine (H3.out _).mono ?_
  rintro e w' ⟨rfl,rfl⟩
  go_wp2_with fail
  go_ret
  exact ⟨by simp,HB.out⟩
def cpuCells (l:List Cpu):List Value:=l.flatMap fun x=>[.int .i64 x.core,.int .i64 x.sock,.int .i64 x.node]
theorem cpuCells_length (l:List Cpu):(cpuCells l).length=l.length*3:=by
 induction l with
 | nil=>rfl
 | cons a r ih=>simp only [cpuCells,List.flatMap_cons,List.length_append,List.length_cons,List.length_nil] at ih ⊢;omega
theorem cpuCells_at (l:List Cpu) (k:Nat) (hk:k<l.length):(cpuCells l)[k*3]?=some (.int .i64 (l.getD k cpu0).core)∧(cpuCells l)[k*3+1]?=some (.int .i64 (l.getD k cpu0).sock)∧(cpuCells l)[k*3+2]?=some (.int .i64 (l.getD k cpu0).node):=by
 induction l generalizing k with
 | nil=>simp at hk
 | cons a r ih=>
  cases k with
  | zero=>simp [cpuCells]
  | succ k=>
   have:=ih k (by simpa using hk)
   have e:cpuCells (a :: r)=[.int .i64 a.core,.int .i64 a.sock,.int .i64 a.node]++cpuCells r:=rfl
   rw [e,show (k+1)*3=k*3+3 by omega]
   simpa using this
theorem cpuCells_from {w:World} {b o:Nat} {l:List Cpu} (h:CellsAt w b o l) (j:Nat) (u:Value) (hj:(cpuCells l)[j]?=some u):w.cell? ((⟨b,o,none⟩:Addr).add j)=some u:=by
 have hlt:j<l.length*3:=by rw [← cpuCells_length];exact (List.getElem?_eq_some_iff.1 hj).1
 obtain ⟨h0,h1,h2⟩:=h (j / 3) (by omega)
 obtain ⟨c0,c1,c2⟩:=cpuCells_at l (j / 3) (by omega)
 rw [Addr.add_lit]
 have:j=j / 3*3∨j=j / 3*3+1∨j=j / 3*3+2:=by omega
 rcases this with e|e|e
 ·rw [← e] at c0 h0;rw [h0,← c0,hj]
 ·rw [← e] at c1;rw [Nat.add_assoc,← e] at h1;rw [h1,← c1,hj]
 ·rw [← e] at c2;rw [Nat.add_assoc,← e] at h2;rw [h2,← c2,hj]
theorem cpuCells_one (l:List Cpu):∀ u∈cpuCells l,u.oneCell'=true:=by
 intro u hu
 simp only [cpuCells,List.mem_flatMap] at hu
 obtain ⟨x,_,hx⟩:=hu
 simp at hx
 rcases hx with rfl|rfl|rfl <;> rfl
theorem infoCpu:(Tryz.prog.info? 78).map (fun i=>(i.zero,i.size,i.bytes))=some (some (.agg #[.int .i64 0,.int .i64 0,.int .i64 0]),3,24):=by kernel_rfl
theorem eqNil (b o n c:Nat) (w:World):Sem.run Tryz.prog (binOp BinOp.eql 22 (.slice (some ⟨b,o,none⟩) n c) (.slice none 0 0)) w=.ok (.bool false) w:=by kernel_rfl
def Cloned (w:World) (l:List Cpu) (e:Ending) (w':World):Prop:=∃ g c',e=.returned (.slice (some ⟨g,0,none⟩) l.length c')∧CellsAt w' g 0 l∧g<w'.heap.size∧Below w.heap.size w w'
theorem clone_any (b o c:Nat) (l:List Cpu) (w:World) (hc:CellsAt w b o l) (hlb:b<w.heap.size) (h0:0<l.length) (hl:l.length≤64) :
  Calls Tryz.prog 45 #[.slice (some ⟨b,o,none⟩) l.length c] w fun e w'=>Cloned w l e w':=by
 obtain ⟨i0,hi,hz0,hz1,hz2⟩:=info_parts infoCpu
 have hB0:=(Below.refl w.heap.size w).alloc (Nat.le_refl _) (.cells #[] 78)
 have HC:=hZz (hc.below hlb hB0)
 have HB:=hZz hB0
 have hnil:=eqNil b o l.length c w
 clear hc hB0
 go_enter Tryz.func45,Tryz.ntmps45
 go_wp2_with (at_builtin;(refine wpList_append_own _ rfl _ _ 22 rfl w.heap.size 78 i0 (.agg #[.int .i64 0,.int .i64 0,.int .i64 0]) 3 24 Tryz.underlying22 hi hz0 hz1 hz2 rfl (by decide) _ _ _ rfl (World.ownsRow_lit w #[] 0 (Nat.le_refl _) (Nat.zero_le _) rfl) ⟨b,o,none⟩ l.length c (cpuCells l) rfl (cpuCells_length l) (cpuCells_from HC.out) (cpuCells_one l) (by unfold maxLen;omega) (by omega) (by simp) ?_);intro v' w1 hown' hgrow' _)
 rcases hown'.2 with ⟨rfl,h1⟩|⟨g,cap,cur,rfl,hg,hgc,_⟩
 ·omega
 ·have hlt:=(hown'.lt g rfl).2
  have hcl:Hid (CellsAt w1 g 0 l):=by
   intro k hk
   obtain ⟨c0,c1,c2⟩:=cpuCells_at l k hk
   rw [← List.nil_append (cpuCells l)] at c0 c1 c2
   refine ⟨?_,?_,?_⟩
   ·rw [Nat.zero_add,hown'.cellAt (k*3) (by omega)];exact c0
   ·rw [Nat.zero_add,hown'.cellAt (k*3+1) (by omega)];exact c1
   ·rw [Nat.zero_add,hown'.cellAt (k*3+2) (by omega)];exact c2
  have hB1:=hZz (HB.out.grown hgrow' (by simp) (fun j hj=>by cases hj;exact Nat.le_refl _))
  clear hown' hgrow' hgc hg
  rw [Nat.zero_add]
  go_wp2_with fail
  go_ret
  exact ⟨g,cap,rfl,hcl.out,hlt,hB1.out⟩
end
end Go.Proofs.YtbfdcmodflnkfaaGreatDoor
namespace Go.Proofs
open Go.Shelf
shelf_lay_g SlLaysF0.n6 Slsf 6 at Tryz 153 as Tryz.sortRL
end Go.Proofs
namespace Go.Proofs.YtbfdcmodflnkfaaGreatDoor
section
open Go.RowKit
open Go.Sort (SWO PermIn SortedIn HoldsK flatK putRowK)
open Qos (cmpS ltS orI)
instance:Inhabited RV:=⟨⟨ByteArray.empty,ByteArray.empty,0,none,0,0⟩⟩
def cfR (x y:RV):Int:=orI (cmpS x.pod y.pod) (cmpS x.cont y.cont)
theorem cfR_lt (x y:RV):cfR x y<0↔(Qos.one (ltS x.pod y.pod)=1∨(Qos.one (ltS x.pod y.pod)=0∧Qos.one (ltS y.pod x.pod)=0∧Qos.one (ltS x.cont y.cont)=1)):=by
 unfold cfR orI cmpS Qos.one
 have h1:=Qos.ltS_asymm x.pod y.pod
 have h2:=Qos.ltS_asymm x.cont y.cont
 unfold Qos.one at h1 h2
 generalize ltS x.pod y.pod=a at *
 generalize ltS y.pod x.pod=b at *
 generalize ltS x.cont y.cont=c at *
 generalize ltS y.cont x.cont=d at *
 cases a <;> cases b <;> cases c <;> cases d <;> simp at *
theorem swoR:SWO (ltOf cfR) where
 irrefl a:=by
  refine decide_eq_false ?_
  rw [cfR_lt]
  have:=Qos.ltS_irrefl a.pod
  have:=Qos.ltS_irrefl a.cont
  omega
 trans a b c h1 h2:=by
  have h1:=of_decide_eq_true h1
  have h2:=of_decide_eq_true h2
  refine decide_eq_true ?_
  rw [cfR_lt] at *
  have o1:=Qos.one_in (ltS a.pod c.pod)
  rcases h1 with h1|⟨h1,h1',h1c⟩
  ·rcases h2 with h2|⟨h2,h2',h2c⟩
   ·exact .inl (Qos.ltS_trans _ _ _ h1 h2)
   ·rcases o1 with o1|o1
    ·have:=Qos.ltS_ntrans a.pod c.pod b.pod o1 h2'
     omega
    ·exact .inl o1
  ·rcases h2 with h2|⟨h2,h2',h2c⟩
   ·rcases o1 with o1|o1
    ·have:=Qos.ltS_ntrans b.pod a.pod c.pod h1' o1
     omega
    ·exact .inl o1
   ·exact .inr ⟨Qos.ltS_ntrans _ _ _ h1 h2,Qos.ltS_ntrans _ _ _ h2' h1',Qos.ltS_trans _ _ _ h1c h2c⟩
 ntrans a b c h1 h2:=by
  have h1:=of_decide_eq_false h1
  have h2:=of_decide_eq_false h2
  refine decide_eq_false ?_
  rw [cfR_lt] at *
  have o1:=Qos.one_in (ltS a.pod b.pod)
  have o2:=Qos.one_in (ltS b.pod c.pod)
  have o3:=Qos.one_in (ltS b.pod a.pod)
  have o4:=Qos.one_in (ltS c.pod b.pod)
  have p1:=Qos.one_in (ltS a.cont b.cont)
  have p2:=Qos.one_in (ltS b.cont c.cont)
  have e1:Qos.one (ltS a.pod b.pod)=0:=by omega
  have e2:Qos.one (ltS b.pod c.pod)=0:=by omega
  rintro (h3|⟨h3,h3',h3c⟩)
  ·have:=Qos.ltS_ntrans a.pod b.pod c.pod e1 e2
   omega
  ·have e3:Qos.one (ltS b.pod a.pod)=0:=Qos.ltS_ntrans b.pod c.pod a.pod e2 h3'
   have e4:Qos.one (ltS c.pod b.pod)=0:=Qos.ltS_ntrans c.pod a.pod b.pod h3' e1
   have:=Qos.ltS_ntrans a.cont b.cont c.cont (by omega) (by omega)
   omega
theorem grows_ofR {w w':World} (hb:Below w.heap.size w w') (hd:w.drawn≤w'.drawn):∃ q os,w'=Go.Sort.grow (w.drewN q) os:=by
 refine ⟨w'.drawn - w.drawn,w'.heap.extract w.heap.size w'.heap.size,?_⟩
 obtain ⟨h1,h2,h3,h4,h5⟩:=hb
 have hh:w'.heap=w.heap++w'.heap.extract w.heap.size w'.heap.size:=by
  apply Array.ext_getElem?
  intro i
  by_cases hi:i<w.heap.size
  ·rw [Array.getElem?_append_left hi];exact h5 i hi
  ·rw [Array.getElem?_append_right (by omega),Array.getElem?_extract]
   by_cases hj:i<w'.heap.size
   ·rw [if_pos (by omega)]
    congr 1
    omega
   ·rw [if_neg (by omega)]
    exact Array.getElem?_eq_none (by omega)
 unfold Go.Sort.grow World.drewN
 cases w'
 cases w
 simp only at h1 h2 h3 hd hh
 simp only [World.mk.injEq]
 exact ⟨hh,h2,by omega,h1,h3⟩
theorem grown_sortR (w:World) (blk off m:Nat) (dk:Array RV) (os:Array Obj):w.grownBy (sortWorldK RV.cells 4 w blk off m dk os) (some blk):=by
 refine ⟨rfl,rfl,rfl,?_,fun j hj hne=>?_⟩
 ·simp [sortWorldK,Go.Sort.grow,putRowK,Go.Sort.putRow,Go.Sort.mapBlock,Go.Sort.ahead]
 ·have h2:blk≠j:=fun e=>hne (by rw [e])
  simp [sortWorldK,Go.Sort.grow,putRowK,Go.Sort.putRow,Go.Sort.mapBlock,Go.Sort.ahead,Array.getElem?_append,Array.getElem_modify,hj,h2]
def RCells (w:World) (g k:Nat) (x:RV):Prop:=
 (w.cell? ⟨g,k*4,none⟩=some (.string x.pod)∧w.cell? ⟨g,k*4+1,none⟩=some (.string x.cont)∧w.cell? ⟨g,k*4+2,none⟩=some (.int .u64 x.cpus)∧w.cell? ⟨g,k*4+3,none⟩=some (.slice x.da x.dn x.dc))∧
 (w.frozen? ⟨g,k*4,none⟩=false∧w.frozen? ⟨g,k*4+1,none⟩=false∧w.frozen? ⟨g,k*4+2,none⟩=false∧w.frozen? ⟨g,k*4+3,none⟩=false)
def rv (ys:List RV) (k:Nat):RV:=ys.getD k default
def RunsAt (base:Nat) (w:World) (v:Value) (ys:List RV):Prop:=
 ∃ a c,v=.slice a ys.length c∧ys.length≤c∧(0<ys.length→∃ g,a=some ⟨g,0,none⟩∧base≤g∧g<w.heap.size∧∀ k,k<ys.length→RCells w g k (rv ys k))
theorem cells_at (ys:List RV) (k:Nat) (hk:k<ys.length) (c:Nat) (hc:c<4):(ys.flatMap RV.cells)[k*4+c]?=(RV.cells (rv ys k))[c]?:=by
 induction ys generalizing k with
 | nil=>simp at hk
 | cons y l ih=>
  rw [List.flatMap_cons]
  cases k with
  | zero=>
   rw [List.getElem?_append_left (by simp [RV.cells];omega)]
   simp [rv]
  | succ k=>
   rw [List.getElem?_append_right (by simp [RV.cells];omega)]
   rw [show (k+1)*4+c - (RV.cells y).length=k*4+c by simp [RV.cells];omega]
   rw [ih k (by simpa using hk)]
   simp [rv]
theorem rcells_of {w:World} {g k:Nat} {x:RV} (h:∀ c,c<4→∀ u,(RV.cells x)[c]?=some u→w.cell? ⟨g,k*4+c,none⟩=some u∧w.frozen? ⟨g,k*4+c,none⟩=false):RCells w g k x:=by
 obtain ⟨a0,b0⟩:=h 0 (by omega) _ rfl
 obtain ⟨a1,b1⟩:=h 1 (by omega) _ rfl
 obtain ⟨a2,b2⟩:=h 2 (by omega) _ rfl
 obtain ⟨a3,b3⟩:=h 3 (by omega) _ rfl
 exact ⟨⟨a0,a1,a2,a3⟩,b0,b1,b2,b3⟩
theorem own_runs {base:Nat} {w:World} {v:Value} {ys:List RV} (h:RRow base w v ys) (h0:0<ys.length):∃ g cap,v=.slice (some ⟨g,0,none⟩) ys.length cap∧ys.length≤cap∧base≤g∧g<w.heap.size∧HoldsK RV.cells 4 w g 0 ys.toArray:=by
 rcases h.2 with ⟨_,hn⟩|⟨g,cap,cur,hv,hb,hg,hc1,hc2,_,ht⟩
 ·omega
 ·refine ⟨g,cap,hv,hc1,hb,(Array.getElem?_eq_some_iff.1 hg).1,fun j hj=>?_⟩
  rw [Go.Sort.size_flatK] at hj
  rw [Go.Sort.get_flatK _ _ _ _ hj]
  have hk:j / 4<ys.length:=by simp at hj;omega
  have hx:=cells_at ys (j / 4) hk (j % 4) (by omega)
  rw [show j / 4*4+j % 4=j by omega,← ht,List.getElem?_take] at hx
  have e:ys.toArray[j / 4]! = rv ys (j / 4):=by simp [rv,hk]
  have hl:j % 4<(RV.cells (rv ys (j / 4))).length:=by simp [RV.cells];omega
  rw [List.getElem?_eq_getElem hl] at hx
  split at hx
  ·have hc:cur[j]?=some ((RV.cells (rv ys (j / 4)))[j % 4]):=by simpa using hx
   rw [e,List.getElem!_eq_getElem?_getD,List.getElem?_eq_getElem hl]
   refine ⟨?_,?_⟩
   ·unfold World.cell?;rw [hg];simp [hc]
   ·unfold World.frozen?;rw [hg];simp
  ·cases hx
def InOrder (ys:List RV):Prop:=ys.Pairwise fun x y=>¬ cfR y x<0
theorem sortRuns_any (ys:List RV) (w:World) (v:Value) (K:Nat) (hrow:RRow K w v ys) (hl:ys.length≤1000) :
  Calls Tryz.prog 153 #[v,.func (.func 118) #[] #[]] w fun e w'=>e=.returned (.tuple #[])∧(∃ qs,RunsAt K w' v qs∧qs.Perm ys∧InOrder qs)∧Below K w w':=by
 by_cases h0:0<ys.length
 ·obtain ⟨g,cap,rfl,hc1,hgb,hglt,hH⟩:=own_runs hrow h0
  have hsz:ys.toArray.size=ys.length:=by simp
  have eg:∀ args w,(callFunc 118 args).run Tryz.prog w=.ok (.enter 118 args) w:=enters_of Tryz.func118 (by kernel_rfl) rfl
  have hcmp:CmpLays Tryz.prog 118 #[] RV.cells 4 cfR g 0 ys.toArray.size w:=by
   intro m os dk _ x y
   exact (cmpRun_any x y _).mono fun e w' ⟨he,hb,hdr⟩=>⟨he,grows_ofR hb hdr⟩
  have h1:∀ x:RV,∀ v∈RV.cells x,v.oneCell'=true:=by
   intro x v hv
   simp [RV.cells] at hv
   rcases hv with rfl|rfl|rfl|rfl <;> rfl
  have hSo:=AnyQ.slices_SortFunc Tryz.sortRL 4 Tryz.isAgg154 Tryz.sizeOf154 RV.cells (fun _=>rfl) h1 cfR swoR 118 #[] g 0 cap ys.toArray w eg hcmp hH hglt (by simp;omega)
  change Calls Tryz.prog 153 _ _ _ at hSo
  rw [hsz] at hSo
  refine hSo.mono fun e w' ⟨he,d',m,os,hp,hs,hw'⟩=>⟨he,?_,?_⟩
  ·have hsz':d'.size=ys.length:=by rw [hp.1,hsz]
   have hgr:=grown_sortR w g 0 m d' os
   have hH':HoldsK RV.cells 4 w' g 0 d':=by
    rw [hw']
    exact Go.Sort.holdsK_grow _ _ _ _ _ _ _ (by simpa [putRowK,Go.Sort.putRow,Go.Sort.mapBlock,Go.Sort.ahead] using hglt) (Go.Sort.holdsK_putRowK _ _ _ _ _ ys.toArray _ (Go.Sort.holdsK_ahead _ _ _ _ _ _ _ hH) (by rw [hp.1]))
   refine ⟨d'.toList,⟨_,cap,by simp [hsz'],by simp [hsz'];exact hc1,fun _=>⟨g,rfl,hgb,?_,fun k hk=>?_⟩⟩,?_,?_⟩
   ·rw [hw'];exact Nat.lt_of_lt_of_le hglt hgr.size
   ·have hk2:k<d'.size:=by simpa using hk
    have e:d'[k]! = rv d'.toList k:=by rw [getElem!_pos d' k hk2];simp [rv,hk2]
    rw [← e]
    refine rcells_of fun c hc u hu=>?_
    have h2:=hH'.cell (i:=k) (c:=c) (by omega) hc
    rw [Nat.zero_add] at h2
    have e2:(RV.cells d'[k]!)[c]! = u:=by rw [List.getElem!_eq_getElem?_getD,hu];rfl
    rw [e2] at h2
    exact h2
   ·have:=hp.2.2
    simp only [Array.toList_extract,List.extract_eq_take_drop,List.drop_zero,Nat.sub_zero] at this
    rw [List.take_of_length_le (by simp [hsz']),List.take_of_length_le (by simp)] at this
    simpa using this
   ·unfold InOrder
    rw [List.pairwise_iff_getElem]
    intro i j hi hj hij
    have hi2:i<d'.size:=by simpa using hi
    have hj2:j<d'.size:=by simpa using hj
    have:=hs i j (Nat.zero_le _) hij (by omega)
    rw [getElem!_pos d' j hj2,getElem!_pos d' i hi2] at this
    have h3:=of_decide_eq_false this
    simpa using h3
  ·rw [hw']
   have hgr:=grown_sortR w g 0 m d' os
   exact ⟨hgr.os,hgr.tape,hgr.output,hgr.size,fun k hk=>hgr.block k (by omega) (fun e=>by cases e;omega)⟩
 ·have e:ys=[]:=List.eq_nil_of_length_eq_zero (by omega)
  subst e
  have hv:∃ p c,v=.slice p 0 c:=by
   rcases hrow.2 with ⟨hv,_⟩|⟨g,cap,cur,hv,_⟩
   ·exact ⟨none,0,hv⟩
   ·exact ⟨_,cap,hv⟩
  obtain ⟨p,c,rfl⟩:=hv
  have hSo:=AnyF.slices_SortFunc_none (P:=Tryz.prog) (ρ:=Tryz.sortRL_ren) { Tryz.sortRL with } p c (.func (.func 118) #[] #[]) w
  change Calls Tryz.prog 153 _ _ _ at hSo
  exact hSo.mono fun e w' ⟨he,hw'⟩=>⟨he,⟨[],⟨p,c,rfl,by simp,fun h=>by simp at h⟩,List.Perm.refl _,List.Pairwise.nil⟩,by rw [hw'];exact Below.refl _ _⟩
end
section
open Go.RowKit
theorem grown_setV (W:World) (b j:Nat) (v:Value):W.grownBy (W.setCell ⟨b,j,none⟩ v) (some b):=
 ⟨rfl,rfl,rfl,by simp,fun k hk hne=>by
  have hb:b≠k:=fun e=>hne (by rw [e])
  simp [World.setCell,Array.getElem?_modify,hb]⟩
def OnlyB (B:Nat) (w w':World):Prop:=w.grownBy w' (some B)∧w'.heap.size=w.heap.size
theorem OnlyB.refl (B:Nat) (w:World):OnlyB B w w:=⟨⟨rfl,rfl,rfl,Nat.le_refl _,fun _ _ _=>rfl⟩,rfl⟩
theorem OnlyB.set {B:Nat} {w w':World} (h:OnlyB B w w') (j:Nat) (v:Value):OnlyB B w (w'.setCell ⟨B,j,none⟩ v):=by
 obtain ⟨hg,hs⟩:=h
 have g2:=grown_setV w' B j v
 refine ⟨⟨g2.os.trans hg.os,g2.tape.trans hg.tape,g2.output.trans hg.output,Nat.le_trans hg.size g2.size,fun k hk hne=>(g2.block k (by omega) hne).trans (hg.block k hk hne)⟩,?_⟩
 rw [← hs]
 simp
theorem cells_set {w:World} {B:Nat} {arr:Array Value} {t:TypeId} (h:w.heap[B]?=some (.cells arr t (0,0))) (j:Nat) (v:Value):(w.setCell ⟨B,j,none⟩ v).heap[B]?=some (.cells (arr.setIfInBounds j v) t (0,0)):=by
 obtain ⟨hlt,hk⟩:=Array.getElem?_eq_some_iff.1 h
 show (w.heap.modify B _)[B]?=_
 rw [Array.getElem?_eq_getElem (by rw [Array.size_modify];exact hlt),Array.getElem_modify_self,hk]
 rfl
def DiskW (w:World) (B:Nat) (n k:Sd) (v:Value) (l:Int) (d:Bool):Prop:=w.heap[B]?=some (.cells #[.bool n.ft,.string n.fb,.bool n.dt,.string n.db,.bool k.ft,.string k.fb,.bool k.dt,.string k.db,v,.int .i64 l,.bool d] 130 (0,0))
section
variable {w:World} {B:Nat} {n k:Sd} {v:Value} {l:Int} {d:Bool}
theorem DiskW.lt (h:DiskW w B n k v l d):B<w.heap.size:=(Array.getElem?_eq_some_iff.1 h).1
theorem DiskW.now (h:DiskW w B n k v l d):w.cell? ⟨B,0,none⟩=some (.bool n.ft)∧w.cell? ⟨B,1,none⟩=some (.string n.fb)∧w.cell? ⟨B,2,none⟩=some (.bool n.dt)∧w.cell? ⟨B,3,none⟩=some (.string n.db):=by
 refine ⟨?_,?_,?_,?_⟩ <;> simp [World.cell?,show w.heap[B]?=_ from h]
theorem DiskW.kept (h:DiskW w B n k v l d):w.cell? ⟨B,4,none⟩=some (.bool k.ft)∧w.cell? ⟨B,5,none⟩=some (.string k.fb)∧w.cell? ⟨B,6,none⟩=some (.bool k.dt)∧w.cell? ⟨B,7,none⟩=some (.string k.db):=by
 refine ⟨?_,?_,?_,?_⟩ <;> simp [World.cell?,show w.heap[B]?=_ from h]
theorem DiskW.rest (h:DiskW w B n k v l d):w.cell? ⟨B,8,none⟩=some v∧w.cell? ⟨B,9,none⟩=some (.int .i64 l)∧w.cell? ⟨B,10,none⟩=some (.bool d):=by
 refine ⟨?_,?_,?_⟩ <;> simp [World.cell?,show w.heap[B]?=_ from h]
theorem DiskW.frozen (h:DiskW w B n k v l d) (j:Nat):w.frozen? ⟨B,j,none⟩=false:=by simp [World.frozen?,show w.heap[B]?=_ from h]
theorem DiskW.set8 (h:DiskW w B n k v l d) (v':Value):DiskW (w.setCell ⟨B,8,none⟩ v') B n k v' l d:=cells_set h 8 v'
theorem DiskW.set9 (h:DiskW w B n k v l d) (l':Int):DiskW (w.setCell ⟨B,9,none⟩ (.int .i64 l')) B n k v l' d:=cells_set h 9 _
theorem DiskW.set10 (h:DiskW w B n k v l d) (d':Bool):DiskW (w.setCell ⟨B,10,none⟩ (.bool d')) B n k v l d':=cells_set h 10 _
def putS (w:World) (B i:Nat) (s:Sd):World:=(((w.setCell ⟨B,i,none⟩ (.bool s.ft)).setCell ⟨B,i+1,none⟩ (.string s.fb)).setCell ⟨B,i+2,none⟩ (.bool s.dt)).setCell ⟨B,i+3,none⟩ (.string s.db)
theorem DiskW.setNow (h:DiskW w B n k v l d) (s:Sd):DiskW (putS w B 0 s) B s k v l d:=cells_set (cells_set (cells_set (cells_set h 0 _) 1 _) 2 _) 3 _
theorem DiskW.setKept (h:DiskW w B n k v l d) (s:Sd):DiskW (putS w B 4 s) B n s v l d:=cells_set (cells_set (cells_set (cells_set h 4 _) 5 _) 6 _) 7 _
theorem OnlyB.putS {w w':World} {B:Nat} (h:OnlyB B w w') (i:Nat) (s:Sd):OnlyB B w (putS w' B i s):=(((h.set i _).set (i+1) _).set (i+2) _).set (i+3) _
theorem DiskW.block {w':World} (h:DiskW w B n k v l d) (he:w'.heap[B]?=w.heap[B]?):DiskW w' B n k v l d:=he.trans h
end
def stepE (l:Int) (d:Bool):Nat:=if d=true∨l=0 then 11 else 0
def stepN (l:Int) (d:Bool):Int:=if d=true∨l=0 then l else if 0<l then l - 1 else l
def stepF (l:Int) (d:Bool):Bool:=decide (d=true∨l=0)
theorem stepW_any (B:Nat) (n k:Sd) (v:Value) (l:Int) (d:Bool) (w:World) (h:DiskW w B n k v l d) (hl:-9223372036854775808≤l∧l≤9223372036854775807):Calls Tryz.prog 115 #[.pointer (some ⟨B,0,none⟩)] w fun e w'=>e=.returned (errV ((stepE l d:Nat):Int))∧DiskW w' B n k v (stepN l d) (stepF l d)∧OnlyB B w w':=by
 obtain ⟨_,c9,c10⟩:=h.rest
 have f9:=h.frozen 9
 have f10:=h.frozen 10
 by_cases h0:l=0
 ·subst h0
  obtain ⟨_,e9,e10⟩:=(h.set10 true).rest
  have HZ:=hZz (h.set10 true)
  have HO:=hZz ((OnlyB.refl B w).set 10 (.bool true))
  clear h
  go_enter Tryz.func115,Tryz.ntmps115
  go_wp2_with fail
  go_ret
  exact ⟨by simp [stepE,errV],by simpa [stepN,stepF] using HZ.out,HO.out⟩
 ·cases d with
  | true=>
   have HZ:=hZz h
   have hb:(l == 0)=false:=by simp [h0]
   clear h
   go_enter Tryz.func115,Tryz.ntmps115
   go_wp2_with fail
   go_ret
   exact ⟨by simp [stepE,errV],by simpa [stepN,stepF] using HZ.out,OnlyB.refl _ _⟩
  | false=>
   have hb:(l == 0)=false:=by simp [h0]
   by_cases hp:0<l
   ·have hw:wrap64 (l - 1)=l - 1:=by unfold wrap64;omega
    have HZ:=hZz (h.set9 (l - 1))
    have HO:=hZz ((OnlyB.refl B w).set 9 (.int .i64 (l - 1)))
    clear h
    go_enter Tryz.func115,Tryz.ntmps115
    go_wp2_with fail
    go_ret
    exact ⟨by simp [stepE,errV,h0],by simpa [stepN,stepF,h0,hp] using HZ.out,HO.out⟩
   ·have HZ:=hZz h
    have hp':l≤0:=by omega
    have HE:Hid (stepN l false=l):=by unfold Hid stepN;rw [if_neg (by simp [h0]),if_neg hp]
    clear h
    go_enter Tryz.func115,Tryz.ntmps115
    go_wp2_with fail
    go_ret
    exact ⟨by simp [stepE,errV,h0],by rw [HE.out];simpa [stepF,h0] using HZ.out,OnlyB.refl _ _⟩
def readW (n:Sd) (d:Bool):Value:=if d=true then .tuple #[.string ⟨#[]⟩,.iface 94 (.int .i64 11)] else if n.ft=true then .tuple #[.string n.fb,.nilIface] else .tuple #[.string ⟨#[]⟩,.iface 94 (.int .i64 6)]
theorem readW_any (B:Nat) (n k:Sd) (v:Value) (l:Int) (d:Bool) (w:World) (h:DiskW w B n k v l d):Calls Tryz.prog 127 #[.pointer (some ⟨B,0,none⟩)] w fun e w'=>e=.returned (readW n d)∧w'=w:=by
 obtain ⟨_,c9,c10⟩:=h.rest
 obtain ⟨c0,c1,_,_⟩:=h.now
 obtain ⟨ft,fb,dt,db⟩:=n
 dsimp only at c0 c1
 unfold readW
 clear h
 cases d with
 | true=>
  go_enter Tryz.func127,Tryz.ntmps127
  go_wp2_with fail
  go_ret2
  exact ⟨rfl,rfl⟩
 | false=>
  cases ft with
  | true=>
   go_enter Tryz.func127,Tryz.ntmps127
   go_wp2_with fail
   go_ret2
   exact ⟨rfl,rfl⟩
  | false=>
   go_enter Tryz.func127,Tryz.ntmps127
   go_wp2_with fail
   go_ret2
   exact ⟨rfl,rfl⟩
end
section
namespace Qos
def allOf (us:List Nd) (ps:List Pd) (n:Nat):Int:=sumTo (fun k=>usedOf us (pd ps k).nm) n
def Tame (us:List Nd):Prop:=∀ k,k<us.length→-1125899906842624≤(nd us k).many∧(nd us k).many≤1125899906842624
end Qos
end
end Go.Proofs.YtbfdcmodflnkfaaGreatDoor
