/- HW2, DNew2, OMath3, VR2, TFault, RK7, OJ1, OF1, VEnv, HFor, DCnt, OMath4 -/
import Derived.Test.YtbfdcmodflnkfaaGreatDoorU7
import Derived.Test.YtbfdcmodflnkfaaGreatDoorCards
import Derived.Test.YtbfdcmodflnkfaaGreatDoorTie
import Derived.ShutString
import Derived.Deep.DeepHandedRow
import Derived.Lib.LaidTab
import Derived.Stop.LaidErr
import Derived.Deep.RegionLaw
import Derived.BigRegion
set_option maxRecDepth 100000
set_option maxHeartbeats 16000000
namespace Go.Proofs.YtbfdcmodflnkfaaGreatDoor
section
open Go.RowKit
open Ost (N4 sumTo sumOn Sm pop8 isSub masksTo)
def MasksAt (w:World) (v:Value) (l:List Nat):Prop:=
 (l=[]∧∃ ao c,v=.slice ao 0 c)∨∃ g c,v=.slice (some ⟨g,0,none⟩) l.length c∧g<w.heap.size∧∀ k,k<l.length→w.cell? ⟨g,k,none⟩=some (.int .u8 (l.getD k 0:Nat))
theorem infoMask:(Tryz.prog.info? 70).map (fun i=>(i.zero,i.size,i.bytes))=some (some (.int .u8 0),1,1):=by kernel_rfl
def masksV (l:List Nat):List Value:=l.map fun (n:Nat)=>Value.int .u8 (n:Int)
theorem masksV_snoc (l:List Nat) (n:Nat):masksV (l++[n])=masksV l++[.int .u8 n]:=by simp [masksV]
theorem andNot8 (m n:Nat) (hm:m<16) (hn:n<256):(bits BinOp.andNot IntKind.u8 (m:Int) (n:Int) == 0)=decide (m &&& n=m):=by
 have key:∀ (a:Fin 16) (b:Fin 256),(bits BinOp.andNot IntKind.u8 ((a.val:Nat):Int) ((b.val:Nat):Int) == 0)=decide (a.val &&& b.val=a.val):=by decide +kernel
 exact key ⟨m,hm⟩ ⟨n,hn⟩
def Masked (w:World) (nodes:Nat) (e:Ending) (w':World):Prop:=∃ v,e=.returned v∧MasksAt w' v (masksTo nodes 16)∧Below w.heap.size w w'
theorem masksOf_any (nodes:Nat) (w:World) (hn:nodes<256) :
  Calls Tryz.prog 164 #[.int .u8 nodes] w fun e w'=>Masked w nodes e w':=by
 obtain ⟨i0,hi,hz0,hz1,hz2⟩:=info_parts infoMask
 go_enter Tryz.func164,Tryz.ntmps164
 go_wp2_with fail
 go_loopw [3,4] (fun v i wr=>∃ k:Nat,1≤k∧k≤16∧i=.int .u8 k∧wr.ownsRow w.heap.size 70 1 v (masksTo nodes k).length (masksV (masksTo nodes k))∧Below w.heap.size w wr) (fun _ i _=>16 - (intOf i).toNat)
 case atStart=>exact ⟨1,by omega,by omega,rfl,World.ownsRow_nil _ _ _ _,Below.refl _ _⟩
 case round=>
  obtain ⟨k,hk1,hk,rfl,hrow,hnx⟩:=hrel
  by_cases hlt:k<16
  ·have hle:=Ost.masksTo_le nodes k
   have hsz:=hnx.size
   have HB:=andNot8 k nodes hlt hn
   rcases two (decide (k &&& nodes=k)) with hb|hb
   ·have HS:Hid (masksTo nodes (k+1)=masksTo nodes k++[k]):=Ost.masksTo_yes (by unfold isSub;rw [hb,decide_eq_true hk1];rfl)
    rw [hb] at HB
    clear hb
    go_wp2_with (at_builtin;refine wpList_append_own _ rfl _ _ 266 rfl w.heap.size 70 i0 (.int .u8 0) 1 1 Tryz.underlying266 hi hz0 hz1 hz2 rfl (by decide) _ _ _ rfl (hrow.alloc _) ⟨_,0,none⟩ 1 1 [.int .u8 k] rfl rfl (cell_one_new _ _ _) (ints_oneCell .u8 [(k:Int)]) (by unfold maxLen;omega) (by omega) (by simp;omega) ?_;intro v' w1 hown' hgrow' _)
    go_roundw
    case rel=>
     refine ⟨k+1,by omega,by omega,by go_num,?_,?_⟩
     ·rw [HS.out,masksV_snoc,List.length_append];exact hown'
     ·exact (hnx.alloc hsz _).grown hgrow' (by simp;omega) (fun j hj=>(hrow.lt j hj).1)
    case measure=>simp [intOf];omega
   ·have HS:Hid (masksTo nodes (k+1)=masksTo nodes k):=Ost.masksTo_no (by unfold isSub;rw [hb];simp)
    rw [hb] at HB
    clear hb
    go_wp2_with fail
    go_roundw
    case rel=>
     refine ⟨k+1,by omega,by omega,by go_num,?_,hnx⟩
     rw [HS.out];exact hrow
    case measure=>simp [intOf];omega
  ·have hk16:k=16:=by omega
   subst hk16
   clear hk hlt
   have HM:Hid (∀ v,wr.ownsRow w.heap.size 70 1 v (masksTo nodes 16).length (masksV (masksTo nodes 16))→MasksAt wr v (masksTo nodes 16)):=by
    intro v hrow
    rcases hrow.2 with ⟨rfl,h0⟩|⟨g,cap,cur,rfl,hg,_⟩
    ·exact .inl ⟨List.eq_nil_of_length_eq_zero h0,none,0,rfl⟩
    ·refine .inr ⟨g,cap,rfl,(hrow.lt g rfl).2,fun k hk=>?_⟩
     rw [hrow.cellAt k (by omega)]
     simp [masksV,hk]
   go_wp2_with fail
   go_ret
   exact ⟨_,rfl,HM.out _ hrow,hnx⟩
end
section
open Go.RowKit
open Dvs (Dv dv0 dv nth fault newF first nameMay)
def NewPool (w:World) (ds:List Dv) (p:Value) (w':World):Prop:=
 ∃ pb db ao c,p=.pointer (some ⟨pb,0,none⟩)∧PoolAt w' pb db ao c ds (fun _=>false)∧w.heap.size≤pb∧(0<ds.length→w.heap.size≤db)
theorem fault_first {ds:List Dv} (h:ds.length≤16):fault ds=first (newF ds) ds.length:=by rw [fault,if_neg (by omega)]
theorem newF_name {ds:List Dv} {k:Nat} (h:nameMay (dv ds k).kind=false):newF ds k=3:=by rw [newF,if_pos h]
theorem newF_node {ds:List Dv} {k:Nat} (h:nameMay (dv ds k).kind=true) (h2:(dv ds k).node<0∨3<(dv ds k).node):newF ds k=1:=by rw [newF,if_neg (by rw [h];simp),if_pos h2]
theorem newF_good {ds:List Dv} {k:Nat} (h:nameMay (dv ds k).kind=true) (h2:0≤(dv ds k).node) (h3:(dv ds k).node≤3):newF ds k=0:=by rw [newF,if_neg (by rw [h];simp),if_neg (by omega)]
theorem PoolAt.made {B:Nat} {w:World} {v:Value} {ds:List Dv} (h:DevRow B w v ds) (t:TypeId):∃ db ao c,PoolAt (w.alloc (.cells #[v,.bool false,.bool false,.bool false,.bool false,.bool false,.bool false,.bool false,.bool false,.bool false,.bool false,.bool false,.bool false,.bool false,.bool false,.bool false,.bool false] t)) w.heap.size db ao c ds (fun _=>false)∧(0<ds.length→B≤db):=by
 obtain ⟨ao,c,g,rfl,h0,hc⟩:=h
 refine ⟨g,ao,c,⟨by simp,fun hp=>⟨(h0 hp).1,Nat.ne_of_lt (h0 hp).2.2,by have:=(h0 hp).2.2;simp;omega⟩,fun k hk=>?_,fun j hj=>?_⟩,fun hp=>(h0 hp).2.1⟩
 ·have hlt:=(h0 (by omega)).2.2
  obtain ⟨c0,c1,c2,c3⟩:=hc k hk
  have hb:=(Below.refl w.heap.size w).alloc (Nat.le_refl _) (.cells #[.slice ao ds.length c,.bool false,.bool false,.bool false,.bool false,.bool false,.bool false,.bool false,.bool false,.bool false,.bool false,.bool false,.bool false,.bool false,.bool false,.bool false,.bool false] t)
  exact ⟨(hb.cell (p:=⟨g,k*3,none⟩) hlt).trans c0,(hb.cell (p:=⟨g,k*3+1,none⟩) hlt).trans c1,(hb.cell (p:=⟨g,k*3+2,none⟩) hlt).trans c2,(hb.frozen (p:=⟨g,k*3+2,none⟩) hlt).trans c3⟩
 ·have:j=0∨j=1∨j=2∨j=3∨j=4∨j=5∨j=6∨j=7∨j=8∨j=9∨j=10∨j=11∨j=12∨j=13∨j=14∨j=15:=by omega
  rcases this with rfl|rfl|rfl|rfl|rfl|rfl|rfl|rfl|rfl|rfl|rfl|rfl|rfl|rfl|rfl|rfl <;> exact ⟨by simp,by simp⟩
theorem NewPool.of {w w1:World} {v:Value} {ds:List Dv} {B:Nat} (h:DevRow B w1 v ds) (hB:w.heap.size≤B) (hs:w.heap.size≤w1.heap.size) (t:TypeId):NewPool w ds (.pointer (some ⟨w1.heap.size,0,none⟩)) (w1.alloc (.cells #[v,.bool false,.bool false,.bool false,.bool false,.bool false,.bool false,.bool false,.bool false,.bool false,.bool false,.bool false,.bool false,.bool false,.bool false,.bool false,.bool false] t)):=by
 obtain ⟨db,ao,c,hp,hdb⟩:=PoolAt.made h t
 exact ⟨_,db,ao,c,rfl,hp,hs,fun h0=>Nat.le_trans hB (hdb h0)⟩
theorem new_manyD (ao:Option Addr) (n c:Nat) (w:World) (h:16<n):Calls Tryz.prog 93 #[.slice ao n c] w fun e w'=>e=.returned (.tuple #[.pointer none,.iface 94 (.int .i64 2)])∧w'=w:=by
 go_enter Tryz.func93,Tryz.ntmps93
 go_wp2_with fail
 go_ret2
 exact ⟨rfl,rfl⟩
def NewedD (w:World) (ds:List Dv) (bad:Nat→Value) (e:Ending) (w':World):Prop:=
 (fault ds=0→∃ p,e=.returned (.tuple #[p,bad 0])∧NewPool w ds p w')∧(fault ds≠0→e=.returned (.tuple #[.pointer none,bad (fault ds)]))∧Below w.heap.size w w'
theorem NewedD.wrong {w w':World} {ds:List Dv} {bad:Nat→Value} {n:Nat} {e:Ending} (hf:fault ds=n) (hn:n≠0) (he:e=.returned (.tuple #[.pointer none,bad n])) (hb:Below w.heap.size w w'):NewedD w ds bad e w':=
 ⟨fun h=>by omega,fun _=>by rw [hf,he],hb⟩
theorem new_few (ao:Option Addr) (c b o:Nat) (ds:List Dv) (w:World) (hd:DevsAt w (.slice ao ds.length c) b o ds) (h:ds.length≤16):Calls Tryz.prog 93 #[.slice ao ds.length c] w fun e w'=>NewedD w ds (fun n=>errV n) e w':=by
 have HD:=hZz hd
 have HF:=hZz (fault_first h)
 clear hd
 go_enter Tryz.func93,Tryz.ntmps93
 go_wp2_with fail
 go_loopw [12] (fun i wr=>∃ k:Nat,k≤ds.length∧i=.int .i64 k∧Hid (first (newF ds) k=0)∧Below w.heap.size w wr) (fun i _=>ds.length - (intOf i).toNat)
 case atStart=>exact ⟨0,by omega,rfl,rfl,Below.refl _ _⟩
 case round=>
  obtain ⟨k,hk,rfl,HK,hB⟩:=hrel
  by_cases hlt:k<ds.length
  ·obtain ⟨ao',c',hv,hcs⟩:=HD.out.below hB
   obtain ⟨rfl,hlb,hcs⟩:=hcs (by omega)
   cases hv
   obtain ⟨c0,c1,c2⟩:=hcs k hlt
   have HN1:=hZz (fun hh=>newF_name (ds:=ds) (k:=k) hh)
   have HN2:=hZz (fun hh h2=>newF_node (ds:=ds) (k:=k) hh h2)
   have HN3:=hZz (fun hh h2 h3=>newF_good (ds:=ds) (k:=k) hh h2 h3)
   have HW:=hZz (fun n hn=>(HF.out.trans (Dvs.first_hit (n:=ds.length) HK.out (by rw [hn];simp) hlt)).trans (hn:newF ds k=n+1))
   clear hcs
   generalize dv ds k=x at *
   have hB1:=hB.alloc hB.size (.cells #[.string x.kind,.int .i64 x.node,.bool x.sick] 74)
   rcases two (nameMay x.kind) with hn|hn
   ·have key:(x.node<0∨(0≤x.node∧4≤x.node))∨(0≤x.node∧x.node<4):=by omega
    rcases key with hx|⟨h1,h2⟩
    ·have HE:=hZz (HW.out 0 (HN2.out hn (by omega)))
     clear HN1 HN2 HN3 HW
     rcases hx with h1|⟨h1,h2⟩
     all_goals
      go_wp2_with fail
      refine (name_any _ _).mono ?_
      rintro e w1 ⟨rfl,rfl⟩
      rw [hn]
      go_wp2_with fail
      go_ret2
      exact NewedD.wrong HE.out (by decide) rfl hB1
    ·have HE:Hid (first (newF ds) (k+1)=0):=Dvs.first_zero HK.out (HN3.out hn (by omega) (by omega))
     clear HN1 HN2 HN3 HW
     go_wp2_with fail
     refine (name_any _ _).mono ?_
     rintro e w1 ⟨rfl,rfl⟩
     rw [hn]
     go_wp2_with fail
     go_roundw
     case rel=>exact ⟨k+1,by omega,by go_num,HE,hB1⟩
     case measure=>simp [intOf];omega
   ·have HE:=hZz (HW.out 2 (HN1.out hn))
    clear HN1 HN2 HN3 HW
    go_wp2_with fail
    refine (name_any _ _).mono ?_
    rintro e w1 ⟨rfl,rfl⟩
    rw [hn]
    go_wp2_with fail
    go_ret2
    exact NewedD.wrong HE.out (by decide) rfl hB1
  ·have hke:k=ds.length:=by omega
   have HE:Hid (fault ds=0):=by rw [← hke] at HF;exact HF.out.trans HK.out
   have HD2:=hZz (HD.out.below hB)
   clear hke HK
   go_wp2_with fail
   refine (clone_anyD _ b o ds _ HD2.out h).mono ?_
   rintro e w1 ⟨v,rfl,hv,hb⟩
   have hB1:=hB.trans (hb.mono hB.size)
   have HNP:=hZz (NewPool.of (w:=w) hv hB.size hB1.size 171)
   have hB2:=hZz (hB1.alloc hB1.size (.cells #[v,.bool false,.bool false,.bool false,.bool false,.bool false,.bool false,.bool false,.bool false,.bool false,.bool false,.bool false,.bool false,.bool false,.bool false,.bool false,.bool false] 171))
   obtain ⟨ao2,c2,g2,rfl,_,_⟩:=hv
   clear hb hB1
   go_wp2_with fail
   go_ret2
   exact ⟨fun _=>⟨_,rfl,HNP.out⟩,fun hh=>absurd HE.out hh,hB2.out⟩
theorem new_anyD (v:Value) (b o:Nat) (ds:List Dv) (w:World) (hd:DevsAt w v b o ds):Calls Tryz.prog 93 #[v] w fun e w'=>NewedD w ds (fun n=>errV n) e w':=by
 have hd':=hd
 obtain ⟨ao,c,rfl,_⟩:=hd
 by_cases h:ds.length≤16
 ·exact new_few ao c b o ds w hd' h
 ·refine (new_manyD ao ds.length c w (by omega)).mono ?_
  rintro e w' ⟨rfl,rfl⟩
  exact NewedD.wrong (n:=2) (by rw [fault,if_pos (by omega)]) (by decide) rfl (Below.refl _ _)
end
section
namespace Ol
open Dvs (Dv dv)
open Qos (Nd)
def ofKind (ds:List Dv) (k:ByteArray) (l:List Int):Nat:=l.countP fun j=>decide ((dv ds j.toNat).kind=k)
def Norm (m:ByteArray→Option Int):Prop:=∀ k,m k≠some 0
theorem norm_none {m:ByteArray→Option Int} (h:Norm m) (k:ByteArray):m k=none↔(m k).getD 0=0:=by
 cases e:m k with
 | none=>simp
 | some v=>
  have:=h k
  rw [e] at this
  constructor
  ·intro h;cases h
  ·intro h;exact absurd (congrArg some h) this
theorem norm_set {m:ByteArray→Option Int} (h:Norm m) (k:ByteArray) {v:Option Int} (hv:v≠some 0):Norm (wantSet m k v):=by
 intro x
 unfold wantSet
 split
 ·exact hv
 ·exact h x
theorem less_norm (ds:List Dv) {m:ByteArray→Option Int} (h:Norm m) (j:Int):Norm (wantLess ds m j):=by
 unfold wantLess
 refine norm_set h _ ?_
 split
 ·exact fun e=>by cases e
 ·rename_i h0;exact fun e=>h0 (Option.some.inj e)
theorem less_val (ds:List Dv) (m:ByteArray→Option Int) (j:Int) (k:ByteArray):(wantLess ds m j k).getD 0=(m k).getD 0 - (if (dv ds j.toNat).kind=k then 1 else 0):=by
 unfold wantLess wantSet
 by_cases h:k=(dv ds j.toNat).kind
 ·rw [if_pos h,if_pos h.symm,← h]
  split
  ·rename_i h0;rw [h0];rfl
  ·rfl
 ·rw [if_neg h,if_neg (fun e=>h e.symm),Int.sub_zero]
theorem fold_val (ds:List Dv) (k:ByteArray):∀ (l:List Int) (m:ByteArray→Option Int),Norm m→Norm (l.foldl (wantLess ds) m)∧(l.foldl (wantLess ds) m k).getD 0=(m k).getD 0 - (ofKind ds k l:Nat):=by
 intro l
 induction l with
 | nil=>intro m h;exact ⟨h,by simp [ofKind]⟩
 | cons j r ih=>
  intro m h
  obtain ⟨h1,h2⟩:=ih (wantLess ds m j) (less_norm ds h j)
  refine ⟨h1,?_⟩
  rw [List.foldl_cons,h2,less_val]
  unfold ofKind
  rw [List.countP_cons]
  by_cases hk:(dv ds j.toNat).kind=k
  ·simp [hk];omega
  ·simp [hk]
theorem want_norm (ns:List Nd) (h:∀ n∈ns,n.many≠0):∀ m,Norm m→Norm (ns.foldl (fun m n=>wantSet m n.kind (some n.many)) m):=by
 induction ns with
 | nil=>intro m hm;exact hm
 | cons n r ih=>
  intro m hm
  rw [List.foldl_cons]
  exact ih (fun x hx=>h x (List.mem_cons_of_mem _ hx)) _ (norm_set hm _ (fun e=>h n (List.mem_cons_self ..) (Option.some.inj e)))
theorem just_iff {ds:List Dv} {l:List Int} {ns:List Nd} (h:∀ n∈ns,n.many≠0):Just ds l ns↔∀ k,(want ns k).getD 0=(ofKind ds k l:Nat):=by
 have hn:Norm (want ns):=want_norm ns h _ (fun _ e=>by cases e)
 unfold Just
 refine forall_congr' fun k=>?_
 obtain ⟨h1,h2⟩:=fold_val ds k l (want ns) hn
 rw [norm_none h1,h2]
 omega
theorem want_out:∀ (ns:List Nd) (m:ByteArray→Option Int) (k:ByteArray),(∀ n∈ns,n.kind≠k)→ns.foldl (fun m n=>wantSet m n.kind (some n.many)) m k=m k:=by
 intro ns
 induction ns with
 | nil=>intro m k _;rfl
 | cons n r ih=>
  intro m k h
  rw [List.foldl_cons,ih _ k (fun x hx=>h x (List.mem_cons_of_mem _ hx))]
  unfold wantSet
  rw [if_neg (fun e=>h n (List.mem_cons_self ..) e.symm)]
theorem want_at:∀ (ns:List Nd) (m:ByteArray→Option Int) (n:Nd),n∈ns→ns.Pairwise (fun a b=>a.kind≠b.kind)→ns.foldl (fun m n=>wantSet m n.kind (some n.many)) m n.kind=some n.many:=by
 intro ns
 induction ns with
 | nil=>intro m n h;cases h
 | cons x r ih=>
  intro m n h hp
  rw [List.foldl_cons]
  obtain ⟨h1,h2⟩:=List.pairwise_cons.1 hp
  rcases List.mem_cons.1 h with rfl|h
  ·rw [want_out r _ n.kind (fun y hy e=>h1 y hy e.symm)]
   unfold wantSet;rw [if_pos rfl]
  ·exact ih _ n h h2
end Ol
end
section
open Go.RowKit Go.Shelf
open Ost (splitC)
attribute [local go_sem] Oper.semAt_some
theorem Apart.below {K:Nat→Prop} {A B:World} (h:Apart K A B) {w:World} {N:Nat} (hb:Below N w A) (hN:N≤w.heap.size) (hK:∀ j,K j→N≤j):Below N w B:=
 ⟨h.os.trans hb.os,h.tape.trans hb.tape,h.output.trans hb.output,Nat.le_trans hb.size h.size,fun j hj=>(h.block j (Nat.lt_of_lt_of_le (Nat.lt_of_lt_of_le hj hN) hb.size) (fun e=>by have:=hK j e;omega)).trans (hb.block j hj)⟩
theorem infoIntV:(Tryz.prog.info? 3).map (fun i=>(i.zero,i.size,i.bytes))=some (some (.int .i64 0),1,8):=by kernel_rfl
theorem own_slice {w:World} {base:Nat} {e:TypeId} {size:Nat} {v:Value} {n:Nat} {xs:List Value} (h:w.ownsRow base e size v n xs):∃ ao c,v=.slice ao n c:=by
 rcases h.2 with ⟨rfl,h0⟩|⟨g,cap,cur,rfl,_⟩
 ·exact ⟨none,0,by rw [h0]⟩
 ·exact ⟨_,_,rfl⟩
end
section
open Go.RowKit
open Ost (Cpu cpu0 inB clash clashTo faultTo fault)
end
section
open Go.RowKit
theorem grown_set (W:World) (b j:Nat) (v:Value):W.grownBy (W.setCell ⟨b,j,none⟩ v) (some b):=
 ⟨rfl,rfl,rfl,by simp,fun k _ hk=>Below.heap_setCell _ _ _ k (fun e=>hk (by rw [e]))⟩
theorem RBox.set0 {W:World} {B:Nat} {x:RV} (h:RBox W B x) (s:ByteArray):RBox (W.setCell ⟨B,0,none⟩ (.string s)) B { x with pod:=s }:=by
 obtain ⟨hlt,hk⟩:=Array.getElem?_eq_some_iff.1 h
 show (W.heap.modify B _)[B]?=_
 rw [Array.getElem?_eq_getElem (by rw [Array.size_modify];exact hlt),Array.getElem_modify_self,hk]
 rfl
theorem RBox.set1 {W:World} {B:Nat} {x:RV} (h:RBox W B x) (s:ByteArray):RBox (W.setCell ⟨B,1,none⟩ (.string s)) B { x with cont:=s }:=by
 obtain ⟨hlt,hk⟩:=Array.getElem?_eq_some_iff.1 h
 show (W.heap.modify B _)[B]?=_
 rw [Array.getElem?_eq_getElem (by rw [Array.size_modify];exact hlt),Array.getElem_modify_self,hk]
 rfl
theorem RBox.set2 {W:World} {B:Nat} {x:RV} (h:RBox W B x) (n:Int):RBox (W.setCell ⟨B,2,none⟩ (.int .u64 n)) B { x with cpus:=n }:=by
 obtain ⟨hlt,hk⟩:=Array.getElem?_eq_some_iff.1 h
 show (W.heap.modify B _)[B]?=_
 rw [Array.getElem?_eq_getElem (by rw [Array.size_modify];exact hlt),Array.getElem_modify_self,hk]
 rfl
theorem RBox.set3 {W:World} {B:Nat} {x:RV} (h:RBox W B x) (a:Option Addr) (n c:Nat):RBox (W.setCell ⟨B,3,none⟩ (.slice a n c)) B { x with da:=a,dn:=n,dc:=c }:=by
 obtain ⟨hlt,hk⟩:=Array.getElem?_eq_some_iff.1 h
 show (W.heap.modify B _)[B]?=_
 rw [Array.getElem?_eq_getElem (by rw [Array.size_modify];exact hlt),Array.getElem_modify_self,hk]
 rfl
theorem RBox.frozen {W:World} {B:Nat} {x:RV} (h:RBox W B x) (j:Nat):W.frozen? ⟨B,j,none⟩=false:=by simp [World.frozen?,show W.heap[B]?=_ from h]
theorem RBox.far {W:World} {B:Nat} {x:RV} (h:RBox W B x) (g j:Nat) (v:Value) (hne:B≠g):RBox (W.setCell ⟨g,j,none⟩ v) B x:=(Below.heap_setCell W ⟨g,j,none⟩ v B hne).trans h
theorem RBox.notInt {W:World} {B:Nat} {x:RV} (h:RBox W B x):∀ (arr:Array Value) (z:Nat × Nat),W.heap[B]?≠some (Obj.cells arr 3 z):=fun arr z e=>by
 have:=(show W.heap[B]?=_ from h).symm.trans e
 simp at this
theorem results_cellR {fn:Func} {p:Tmp} {ty:TypeId} (h:fn.results=#[.cell p ty]) (tmps:Array Value) (P:Program) (w:World) :
  (results fn tmps).run P w=((asAddr (tmps.getD p undef)).run P w).andThen fun a w₁=>(loadVar ty a).run P w₁:=by
 simp only [results,h]
 simp [Sem.run_bind,Result.andThen]
def fill (W:World) (B:Nat) (x:RV):World:=(((W.setCell ⟨B,0,none⟩ (.string x.pod)).setCell ⟨B,1,none⟩ (.string x.cont)).setCell ⟨B,2,none⟩ (.int .u64 x.cpus)).setCell ⟨B,3,none⟩ (.slice x.da x.dn x.dc)
theorem RBox.fill {W:World} {B:Nat} {z:RV} (h:RBox W B z) (x:RV):RBox (fill W B x) B x:=(((h.set0 x.pod).set1 x.cont).set2 x.cpus).set3 x.da x.dn x.dc
theorem KInt.fill {W:World} {B:Nat} {z:RV} (h:RBox W B z) (x:RV):KInt W (fill W B x):=by
 have h0:=h.set0 x.pod
 have h1:=h0.set1 x.cont
 have h2:=h1.set2 x.cpus
 exact (((KInt.grown (grown_set W B 0 _) h.notInt).trans (KInt.grown (grown_set _ B 1 _) h0.notInt)).trans (KInt.grown (grown_set _ B 2 _) h1.notInt)).trans (KInt.grown (grown_set _ B 3 _) h2.notInt)
theorem below_fill {w W:World} {K B:Nat} (h:Below K w W) (hK:K≤B) (x:RV):Below K w (fill W B x):=
 (((h.setCell (p:=⟨B,0,none⟩) hK _).setCell (p:=⟨B,1,none⟩) hK _).setCell (p:=⟨B,2,none⟩) hK _).setCell (p:=⟨B,3,none⟩) hK _
theorem apartR_any (x:RV) (w:World) (h:DevsOk w x) (hn:x.dn≤1000) :
  Calls Tryz.prog 120 #[.agg #[.string x.pod,.string x.cont,.int .u64 x.cpus,.slice x.da x.dn x.dc]] w fun e w'=>∃ a c,e=.returned (.agg #[.string x.pod,.string x.cont,.int .u64 x.cpus,.slice a x.dn c])∧DevOwn w' { x with da:=a,dc:=c }∧devsOf w' { x with da:=a,dc:=c }=devsOf w x∧DevsFrom w.heap.size { x with da:=a,dc:=c }∧Below w.heap.size w w':=by
 have hb1:=(Below.refl w.heap.size w).alloc (Nat.le_refl _) (.cells #[.string x.pod,.string x.cont,.int .u64 x.cpus,.slice x.da x.dn x.dc] 154)
 have hb2:=hb1.alloc hb1.size (.cells #[.string ⟨#[]⟩,.string ⟨#[]⟩,.int .u64 0,.slice none 0 0] 154)
 have HB2:=hZz hb2
 have HX:=hZz ((RBox.made w x).alloc (.cells #[.string ⟨#[]⟩,.string ⟨#[]⟩,.int .u64 0,.slice none 0 0] 154))
 have hZ:=RBox.made (w.alloc (.cells #[.string x.pod,.string x.cont,.int .u64 x.cpus,.slice x.da x.dn x.dc] 154)) ⟨⟨#[]⟩,⟨#[]⟩,0,none,0,0⟩
 rw [World.size_alloc] at hZ
 have HZ:=hZz hZ
 obtain ⟨hd1,hd2⟩:=h.below hb2 (fun _ _ _ hg=>hg)
 have HCL:=hZz (cloneDevs_any x _ hd1 hn)
 have HD2:=hZz hd2
 clear hb1 hb2 hZ hd1 hd2
 go_enter Tryz.func120,Tryz.ntmps120
 go_wp2_with fail
 generalize (w.alloc (.cells #[.string x.pod,.string x.cont,.int .u64 x.cpus,.slice x.da x.dn x.dc] 154)).alloc (.cells #[.string ⟨#[]⟩,.string ⟨#[]⟩,.int .u64 0,.slice none 0 0] 154)=W2 at *
 refine HCL.out.mono ?_
 rintro e w3 ⟨a,c,rfl,ho,hdv,hdf,hb3⟩
 have HDF:=hZz (show DevsFrom w.heap.size { x with da:=a,dc:=c } from fun h0=>by
  obtain ⟨g,hg1,hg2⟩:=hdf h0
  exact ⟨g,hg1,Nat.le_trans HB2.out.size hg2⟩)
 have hx3:=HX.out.below hb3
 have hz3:=HZ.out.below hb3
 have HB3:=hZz (HB2.out.trans (hb3.mono HB2.out.size))
 have HO3:=hZz ho
 have HDV:=hZz (hdv.trans HD2.out)
 have hc3:=hx3.cells
 obtain ⟨c0,c1,c2,c3⟩:=hc3
 have f3:=hx3.frozen 3
 have hx4:=hx3.set3 a x.dn c
 have hz4:=hz3.far w.heap.size 3 (.slice a x.dn c) (by omega)
 have HK4:=hZz (KInt.grown (grown_set w3 w.heap.size 3 (.slice a x.dn c)) hx3.notInt)
 have HB4:=hZz (HB3.out.setCell (p:=⟨w.heap.size,3,none⟩) (Nat.le_refl _) (.slice a x.dn c))
 clear hdv ho hb3 hdf HX HZ HCL HD2 hx3 hz3
 obtain ⟨d0,d1,d2,d3⟩:=hx4.cells
 obtain ⟨z0,z1,z2,z3⟩:=hz4.cells
 have g0:=hz4.frozen 0
 have g1:=hz4.frozen 1
 have g2:=hz4.frozen 2
 have g3:=hz4.frozen 3
 have HX4:=hZz hx4
 have HZ4:=hZz hz4
 clear hx4 hz4
 go_wp2_with fail
 clear c0 c1 c2 c3 d0 d1 d2 d3 z0 z1 z2 z3 g0 g1 g2 g3 f3
 have hF:=HZ4.out.fill { x with da:=a,dc:=c }
 have HK5:=hZz (KInt.fill HZ4.out { x with da:=a,dc:=c })
 have HB5:=hZz (below_fill HB4.out (B:=w.heap.size+1) (by omega) { x with da:=a,dc:=c })
 obtain ⟨e0,e1,e2,e3⟩:=hF.cells
 have HF:Hid (fill (w3.setCell ⟨w.heap.size,3,none⟩ (.slice a x.dn c)) (w.heap.size+1) { x with da:=a,dc:=c }=((((w3.setCell ⟨w.heap.size,3,none⟩ (.slice a x.dn c)).setCell ⟨w.heap.size+1,0,none⟩ (.string x.pod)).setCell ⟨w.heap.size+1,1,none⟩ (.string x.cont)).setCell ⟨w.heap.size+1,2,none⟩ (.int .u64 x.cpus)).setCell ⟨w.heap.size+1,3,none⟩ (.slice a x.dn c)):=rfl
 rw [← HF.out]
 clear hF
 generalize fill (w3.setCell ⟨w.heap.size,3,none⟩ (.slice a x.dn c)) (w.heap.size+1) { x with da:=a,dc:=c }=W5 at *
 obtain ⟨ho5,hd5⟩:=HO3.out.kept (HK4.out.trans HK5.out)
 refine bodyPost_ret (v:=.agg #[.string x.pod,.string x.cont,.int .u64 x.cpus,.slice a x.dn c]) ?_ rfl ⟨a,c,rfl,ho5,hd5.trans HDV.out,HDF.out,HB5.out⟩
 rw [results_cellR rfl]
 clear ho5 hd5 HO3 HDF HDV HB5 HK5 HK4 HF HZ4 HX4 HB4 HB3 HB2
 go_simp
end
section
open Go.RowKit Go.ChangeMaps Go.Maps Go.WideShapes
def StrKeys (D:DataW Unit):Prop:=∃ es,D=.map es∧∀ p∈es,∃ s:ByteArray,p.1=Lit.string s.data.toList
def WantMap (w:World) (B n:Nat) (f:ByteArray→Option Int):Prop:=
 ∃ D:DataW Unit,w.ownsMap Tryz.prog 9 (plainElem Tryz.prog 3) B n D∧StrKeys D∧∀ s:ByteArray,D.atKey (.string s.data.toList) (.lit (.int .i64 0))=.lit (.int .i64 ((f s).getD 0))∧Go.Maps.has D (.string s.data.toList)=(f s).isSome
theorem WantMap.block {w w':World} {B n:Nat} {f:ByteArray→Option Int} (h:WantMap w B n f) (hb:w'.heap[B]?=w.heap[B]?):WantMap w' B n f:=by
 obtain ⟨D,⟨es,clock,hh,r⟩,hk⟩:=h
 exact ⟨D,⟨es,clock,hb.trans hh,r⟩,hk⟩
theorem WantMap.lt {w:World} {B n:Nat} {f:ByteArray→Option Int} (h:WantMap w B n f):B<w.heap.size:=by
 obtain ⟨D,ho,_⟩:=h
 exact ho.lt
theorem WantMap.alloc {w:World} {B n:Nat} {f:ByteArray→Option Int} (h:WantMap w B n f) (o:Obj):WantMap (w.alloc o) B n f:=h.block (Below.heap_alloc _ _ _ h.lt)
theorem WantMap.made (w:World):WantMap (w.alloc (.map #[] 0)) w.heap.size 0 (fun _=>none):=
 ⟨.map [],World.ownsMap_made w _ _ _,⟨[],rfl,fun _ hp=>(List.not_mem_nil hp).elim⟩,fun _=>⟨rfl,rfl⟩⟩
theorem want_keys {D:DataW Unit} {k:ByteArray} {v:Int} (hS:StrKeys D):StrKeys (D.put (.string k.data.toList) (.lit (.int .i64 v))):=by
 obtain ⟨es,rfl,hes⟩:=hS
 refine ⟨putKey (.string k.data.toList) (.lit (.int .i64 v)) es,rfl,fun p hp=>?_⟩
 unfold putKey at hp
 rcases List.mem_cons.1 ((insert_perm _ _).mem_iff.1 hp) with rfl|hp
 ·exact ⟨k,rfl⟩
 ·exact hes p (List.mem_filter.1 hp).1
theorem want_vals {w0:World} {B n0:Nat} {f:ByteArray→Option Int} {D:DataW Unit} {k:ByteArray} {v:Int} (h0:w0.ownsMap Tryz.prog 9 (plainElem Tryz.prog 3) B n0 D) (hD:∀ s:ByteArray,D.atKey (.string s.data.toList) (.lit (.int .i64 0))=.lit (.int .i64 ((f s).getD 0))∧Go.Maps.has D (.string s.data.toList)=(f s).isSome) (s:ByteArray) :
  (D.put (.string k.data.toList) (.lit (.int .i64 v))).atKey (.string s.data.toList) (.lit (.int .i64 0))=.lit (.int .i64 ((Ol.wantSet f k (some v) s).getD 0))∧Go.Maps.has (D.put (.string k.data.toList) (.lit (.int .i64 v))) (.string s.data.toList)=(Ol.wantSet f k (some v) s).isSome:=by
 unfold Ol.wantSet
 by_cases e:s=k
 ·subst e
  have hkl:WideAt.IsKeyLit (Lit.string s.data.toList):=trivial
  rw [Go.Maps.atKey_put_same h0.isMap hkl,Go.Maps.has_put_same h0.isMap hkl,if_pos rfl]
  exact ⟨rfl,rfl⟩
 ·have hne:(Lit.string s.data.toList)≠(Lit.string k.data.toList):=by
   intro h
   injection h with h
   exact e (str_inj h)
  rw [Go.Maps.atKey_put_other hne,Go.Maps.has_put_other hne,if_neg e]
  exact hD s
theorem want_put {w w0:World} {B n n0:Nat} {f:ByteArray→Option Int} {D:DataW Unit} {k:ByteArray} {v:Int} (h0:w0.ownsMap Tryz.prog 9 (plainElem Tryz.prog 3) B n0 D) (hS:StrKeys D) (hD:∀ s:ByteArray,D.atKey (.string s.data.toList) (.lit (.int .i64 0))=.lit (.int .i64 ((f s).getD 0))∧Go.Maps.has D (.string s.data.toList)=(f s).isSome)
  (ho:w.ownsMap Tryz.prog 9 (plainElem Tryz.prog 3) B n (D.put (.string k.data.toList) (.lit (.int .i64 v)))):WantMap w B n (Ol.wantSet f k (some v)):=⟨_,ho,want_keys hS,want_vals h0 hD⟩
theorem want_del {w w0:World} {B n n0:Nat} {f:ByteArray→Option Int} {D:DataW Unit} {k:ByteArray} (h0:w0.ownsMap Tryz.prog 9 (plainElem Tryz.prog 3) B n0 D) (hS:StrKeys D) (hD:∀ s:ByteArray,D.atKey (.string s.data.toList) (.lit (.int .i64 0))=.lit (.int .i64 ((f s).getD 0))∧Go.Maps.has D (.string s.data.toList)=(f s).isSome)
  (ho:w.ownsMap Tryz.prog 9 (plainElem Tryz.prog 3) B n (D.del (.string k.data.toList))):WantMap w B n (Ol.wantSet f k none):=by
 refine ⟨_,ho,?_,fun s=>?_⟩
 ·obtain ⟨es,rfl,hes⟩:=hS
  refine ⟨delKey (.string k.data.toList) es,rfl,fun p hp=>?_⟩
  unfold delKey at hp
  exact hes p (List.mem_filter.1 hp).1
 ·unfold Ol.wantSet
  by_cases e:s=k
  ·subst e
   have hkl:WideAt.IsKeyLit (Lit.string s.data.toList):=trivial
   rw [Go.Maps.atKey_del_same,Go.Maps.has_del_same,if_pos rfl]
   exact ⟨rfl,rfl⟩
  ·have hne:(Lit.string s.data.toList)≠(Lit.string k.data.toList):=by
    intro h
    injection h with h
    exact e (str_inj h)
   rw [Go.Maps.atKey_del_other hne,Go.Maps.has_del_other hne,if_neg e]
   exact hD s
theorem want_none {f:ByteArray→Option Int} {D:DataW Unit} (hS:StrKeys D) (hD:∀ s:ByteArray,D.atKey (.string s.data.toList) (.lit (.int .i64 0))=.lit (.int .i64 ((f s).getD 0))∧Go.Maps.has D (.string s.data.toList)=(f s).isSome):Go.Maps.size D=0↔∀ k,f k=none:=by
 obtain ⟨es,rfl,hes⟩:=hS
 rw [Go.Maps.size_eq,List.length_eq_zero_iff]
 constructor
 ·rintro rfl k
  have:=(hD k).2
  rw [Go.Maps.has_eq] at this
  cases hf:f k with
  | none=>rfl
  | some v=>rw [hf] at this;cases this
 ·intro h
  cases es with
  | nil=>rfl
  | cons p l=>
   obtain ⟨s,hs⟩:=hes p (by simp)
   have h1:=(hD s).2
   rw [h s,Go.Maps.has_eq,List.any_cons,hs,WideAt.sameKey_self (show WideAt.IsKeyLit (Lit.string s.data.toList) from trivial)] at h1
   cases h1
end
section
open Go.RowKit Go.Shelf
open Qos (Nd Ct Pd nd ct pd)
open Sv (Gv Hd gv hd)
attribute [local go_sem] Oper.semAt_some
def pCells (x:Pd × Value):List Value:=[.string x.1.nm,.int .i64 x.1.pr,x.2]
def rowP (l:List (Pd × Value)):List Value:=l.flatMap pCells
theorem rowP_snoc (l:List (Pd × Value)) (p:Pd × Value):rowP (l++[p])=rowP l++pCells p:=by simp [rowP]
def PodRow (W:World) (base:Nat) (v:Value) (ps:List Pd):Prop:=∃ l:List (Pd × Value),l.map Prod.fst=ps∧W.ownsRow base 31 3 v l.length (rowP l)∧∀ x∈l,ConsAt W x.2 x.1.cs
theorem infoPodV:(Tryz.prog.info? 31).map (fun i=>(i.zero,i.size,i.bytes))=some (some (.agg #[.string ByteArray.empty,.int .i64 0,.slice none 0 0]),3,48):=by kernel_rfl
theorem new_podV (w:World) (nm:ByteArray) (pr:Int) (cv:Value) (t:TypeId):∀ j u,(pCells (⟨nm,pr,[]⟩,cv))[j]?=some u→(w.alloc (.cells #[.string nm,.int .i64 pr,cv] t)).cell? ((⟨w.heap.size,0,none⟩:Addr).add j)=some u:=by
 intro j u hu
 rw [Addr.add_lit,Nat.zero_add]
 match j,hu with
 | 0,hu=>simp [pCells] at hu;subst hu;simp
 | 1,hu=>simp [pCells] at hu;subst hu;simp
 | 2,hu=>simp [pCells] at hu;subst hu;simp
 | j+3,hu=>simp [pCells] at hu
theorem pCells_one (nm:ByteArray) (pr:Int) (a:Option Addr) (n c:Nat):∀ u∈pCells (⟨nm,pr,[]⟩,.slice a n c),u.oneCell'=true:=by
 intro u hu
 simp [pCells] at hu
 rcases hu with rfl|rfl|rfl <;> rfl
theorem podsOf_any (v:Value) (hs:List Hd) (w:World) (h:HldsAt w v hs) (hl:hs.length≤100):Calls Tryz.prog 31 #[v] w fun e w'=>∃ v',e=.returned v'∧PodRow w' w.heap.size v' (hs.map Hd.pod)∧Below w.heap.size w w':=by
 obtain ⟨i0,hi,hz0,hz1,hz2⟩:=info_parts infoPodV
 obtain ⟨ao,c,rfl,hm,hr⟩:=h
 unfold maxLen at hm
 have HR:=hZz hr
 clear hr
 go_enter Tryz.func31,Tryz.ntmps31
 go_wp2_with fail
 go_loopw [3,8] (fun pv i wr=>∃ (k:Nat) (l:List (Pd × Value)),k≤hs.length∧i=.int .i64 k∧l.length=k∧l.map Prod.fst=(hs.take k).map Hd.pod∧wr.ownsRow w.heap.size 31 3 pv l.length (rowP l)∧(∀ x∈l,ConsAt w x.2 x.1.cs)∧Below w.heap.size w wr) (fun _ i _=>hs.length - (intOf i).toNat)
 case atStart=>exact ⟨0,[],by omega,rfl,rfl,rfl,World.ownsRow_nil _ _ _ _,fun x hx=>(List.not_mem_nil hx).elim,Below.refl _ _⟩
 case round=>
  obtain ⟨k,l,hk,rfl,hlk,hmap,hrow,hcs,hb⟩:=hrel
  have HLK:=hZz hlk
  have HMAP:=hZz hmap
  have HCS:=hZz hcs
  have HB:=hZz hb
  have hln:l.length≤100:=by omega
  have hsz:=hb.size
  clear hlk hmap hcs
  by_cases hlt:k<hs.length
  ·obtain ⟨b,o,cv,gvv,rfl,hin⟩:=HR.out (by omega)
   obtain ⟨x0,x1,x2,x3⟩:=((hin.below hb).2 k hlt).1
   have hcon:=(hin.2 k hlt).2.1
   have HTK:Hid ((hs.take (k+1)).map Hd.pod=(hs.take k).map Hd.pod++[(hd hs k).pod]):=by
    unfold Hid
    rw [List.take_succ_eq_append_getElem hlt,List.map_append];simp [hd,hlt]
   have HCON:=hZz hcon
   obtain ⟨ca,cc,hcv,_,_⟩:=id hcon
   rw [hcv] at x2 HCON
   obtain ⟨ga,gc,hgv,_,_⟩:=id (hin.2 k hlt).2.2
   rw [hgv] at x3
   clear hin hcon hb hcv hgv
   generalize hd hs k=x at *
   obtain ⟨⟨xn,xp,xc⟩,xg⟩:=x
   dsimp only at x0 x1 x2 x3 HCON HTK
   obtain ⟨va,vc,hv⟩:=own_slice hrow
   subst hv
   have hA:=(Below.refl wr.heap.size wr).alloc (Nat.le_refl _) (.cells #[.string xn,.int .i64 xp,.slice ca xc.length cc,.slice ga xg.length gc] 60)
   have hrow2:=hrow.alloc (.cells #[.string xn,.int .i64 xp,.slice ca xc.length cc,.slice ga xg.length gc] 60)
   have HBA:=hZz (HB.out.trans (hA.mono HB.out.size))
   have hsA:w.heap.size≤(wr.alloc (.cells #[.string xn,.int .i64 xp,.slice ca xc.length cc,.slice ga xg.length gc] 60)).heap.size:=by simp;omega
   have hnew:=new_podV (wr.alloc (.cells #[.string xn,.int .i64 xp,.slice ca xc.length cc,.slice ga xg.length gc] 60)) xn xp (.slice ca xc.length cc) 31
   rw [show (wr.alloc (.cells #[.string xn,.int .i64 xp,.slice ca xc.length cc,.slice ga xg.length gc] 60)).heap.size=wr.heap.size+1 by simp] at hnew
   have HNW:=hZz hnew
   have hbs:w.heap.size≤((wr.alloc (.cells #[.string xn,.int .i64 xp,.slice ca xc.length cc,.slice ga xg.length gc] 60)).alloc (.cells #[.string xn,.int .i64 xp,.slice ca xc.length cc] 31)).heap.size:=by simp;omega
   clear hA hnew hrow
   go_wp2_with (at_builtin;refine wpList_append_own _ rfl _ _ 28 rfl w.heap.size 31 i0 _ 3 48 Tryz.underlying28 hi hz0 hz1 hz2 rfl (by decide) _ _ _ rfl (hrow2.alloc _) ⟨_,0,none⟩ 1 1 (pCells (⟨xn,xp,[]⟩,.slice ca xc.length cc)) rfl rfl HNW.out (pCells_one xn xp ca xc.length cc) (by unfold maxLen;omega) (by omega) hbs ?_;intro v' W2 hown' hgrow' _)
   go_roundw
   case rel=>
    refine ⟨k+1,l++[(⟨xn,xp,xc⟩,.slice ca xc.length cc)],by omega,by go_num,by rw [List.length_append,HLK.out];rfl,by rw [List.map_append,HMAP.out,HTK.out];rfl,?_,fun y hy=>?_,?_⟩
    ·rw [rowP_snoc,List.length_append];exact hown'
    ·rcases List.mem_append.1 hy with hy|hy
     ·exact HCS.out y hy
     ·rw [List.mem_singleton.1 hy];exact HCON.out
    ·exact (HBA.out.alloc hsA _).grown hgrow' (by simp;omega) (fun j hj=>(hrow2.lt j hj).1)
   case measure=>simp [intOf];omega
  ·have hke:k=hs.length:=by omega
   have HE:Hid (l.map Prod.fst=hs.map Hd.pod):=by unfold Hid;rw [HMAP.out,hke,List.take_length]
   clear hke
   go_wp2_with fail
   go_ret
   exact ⟨_,rfl,⟨l,HE.out,hrow,fun x hx=>(HCS.out x hx).below HB.out⟩,HB.out⟩
end
section
open Go.ChangeShapes Go.WideShapes Go.ChangeAt Go.RowKit
open S1 (Tab Mx gTab)
theorem ownV:ownKnob Tryz.prog.godebug=none:=by kernel_rfl
theorem laidOutV:laidOutB Tryz.prog=true:=by kernel_rfl
theorem gTabTypeV:(Tryz.prog.globals[0]?).map (·.type)=some 341:=by kernel_rfl
theorem cells20V:Tryz.prog.cellsOf 341=20:=by kernel_rfl
theorem cells64V:Tryz.prog.cellsOf 23=1:=by kernel_rfl
theorem powDataV:(Rows.laid_internal_strconv_uint64pow10:DataW Unit)=Lib.tabData .u64 Lib.pow10Tab:=by kernel_rfl
def tab32:Array Value:=#[.int .u8 0,.int .u8 1,.int .u8 28,.int .u8 2,.int .u8 29,.int .u8 14,.int .u8 24,.int .u8 3,.int .u8 30,.int .u8 22,.int .u8 20,.int .u8 15,.int .u8 25,.int .u8 17,.int .u8 4,.int .u8 8,.int .u8 31,.int .u8 27,.int .u8 13,.int .u8 23,.int .u8 21,.int .u8 19,.int .u8 16,.int .u8 7,.int .u8 26,.int .u8 12,.int .u8 18,.int .u8 6,.int .u8 11,.int .u8 5,.int .u8 10,.int .u8 9]
def tab64:Array Value:=#[.int .u8 0,.int .u8 1,.int .u8 56,.int .u8 2,.int .u8 57,.int .u8 49,.int .u8 28,.int .u8 3,.int .u8 61,.int .u8 58,.int .u8 42,.int .u8 50,.int .u8 38,.int .u8 29,.int .u8 17,.int .u8 4,.int .u8 62,.int .u8 47,.int .u8 59,.int .u8 36,.int .u8 45,.int .u8 43,.int .u8 51,.int .u8 22,.int .u8 53,.int .u8 39,.int .u8 33,.int .u8 30,.int .u8 24,.int .u8 18,.int .u8 12,.int .u8 5,.int .u8 63,.int .u8 55,.int .u8 48,.int .u8 27,.int .u8 60,.int .u8 41,.int .u8 37,.int .u8 16,.int .u8 46,.int .u8 35,.int .u8 44,.int .u8 21,.int .u8 52,.int .u8 32,.int .u8 23,.int .u8 11,.int .u8 54,.int .u8 26,.int .u8 40,.int .u8 15,.int .u8 34,.int .u8 20,.int .u8 31,.int .u8 10,.int .u8 25,.int .u8 14,.int .u8 19,.int .u8 9,.int .u8 13,.int .u8 8,.int .u8 7,.int .u8 6]
def tabAccept:Array Value:=#[.int .u8 128,.int .u8 191,.int .u8 160,.int .u8 191,.int .u8 128,.int .u8 159,.int .u8 144,.int .u8 191,.int .u8 128,.int .u8 143,.int .u8 0,.int .u8 0,.int .u8 0,.int .u8 0,.int .u8 0,.int .u8 0,.int .u8 0,.int .u8 0,.int .u8 0,.int .u8 0,.int .u8 0,.int .u8 0,.int .u8 0,.int .u8 0,.int .u8 0,.int .u8 0,.int .u8 0,.int .u8 0,.int .u8 0,.int .u8 0,.int .u8 0,.int .u8 0]
theorem mxV {W:World} (hsh:W.ShapedOpen Tryz.prog):Mx W:=Tryz.laysM219.s1_3 W hsh
theorem tabUpV {W : World} {rest : List (String × DataW Unit)} (h : laidMet Tryz.prog (("math/bits.deBruijn32tab", Rows.laid_math_bits_deBruijn32tab) :: ("math/bits.deBruijn64tab", Rows.laid_math_bits_deBruijn64tab) :: ("internal/strconv.uint64pow10", Rows.laid_internal_strconv_uint64pow10) :: rest) W) : TabUp W := by
 have h2:=laidMet.tail (laidMet.tail h)
 rw [powDataV] at h2
 have ht:Tab W:=Lib.tabIs_of_head gTab gTabTypeV Tryz.underlying341 Tryz.underlying23 cells64V cells20V h2
 exact ⟨ht,World.block_lt_of_cell? W ⟨0,0,none⟩ (ht.cell gTab 0 (by decide))⟩
noncomputable def setWorld (os:Os):World:=
 { World.holding Tryz.prog os ⟨#[],#[],[]⟩ with heap:=((((((World.holding Tryz.prog os ⟨#[],#[],[]⟩).heap.modify 0 fun
   | .cells _ t frozen=>.cells (Lib.pow10Tab.map (Value.int .u64)).toArray t frozen
   | o=>o).modify 2 fun
   | .cells _ t frozen=>.cells tab32 t frozen
   | o=>o).modify 3 fun
   | .cells _ t frozen=>.cells tab64 t frozen
   | o=>o).modify 5 fun
   | .cells _ t frozen=>.cells tabAccept t frozen
   | o=>o).modify 4 fun
   | .cells _ t frozen=>.cells (Go.Pinned.utf8FirstZ.map fun (n:Nat)=>Value.int .u8 (n:Int)).toArray t frozen
   | o=>o) }
end
section
open Go.RowKit
open Ost (N4 sumTo sumOn Sm pop8 isSub masksTo fewTo hintsTo goodH)
theorem enough_any (q:N4) (m:Nat) (many:Int) (B:Nat) (w:World) (hm:m<256) (hq:Sm q) (hB:w.cell? ⟨B,0,none⟩=some (.int .i64 many)) :
  Calls Tryz.prog 162 #[v4 q,.int .u8 m,.pointer (some ⟨B,0,none⟩)] w fun e w'=>e=.returned (.bool (decide (many≤sumOn q m)))∧Below w.heap.size w w':=by
 have hB0:=hZz ((Below.refl w.heap.size w).alloc (Nat.le_refl _) (.cells #[.int .i64 q.a,.int .i64 q.b,.int .i64 q.c,.int .i64 q.d] 221))
 have hlt:=World.block_lt_of_cell? w _ hB
 have hcb:=(hB0.out.cell (p:=⟨B,0,none⟩) hlt).trans hB
 have hl1:=hZz (Nat.lt_of_lt_of_le hlt hB0.out.size)
 have f4:=Four.made w 221 q.a q.b q.c q.d
 have c0:=f4.c0
 have c1:=f4.c1
 have c2:=f4.c2
 have c3:=f4.c3
 have HT:=hZz (together_any q m)
 clear f4 hB hlt
 unfold v4 at *
 go_enter Tryz.func162,Tryz.ntmps162
 go_wp2_with fail
 go_region_with (go_at_call 163;go_loud (refine (HT.out _ hm hq).mono ?_;rintro e w' ⟨rfl,hb⟩;have hc2:=(hb.cell (p:=⟨B,0,none⟩) hl1.out).trans hcb;have hB3:=hZz (hB0.out.drew.trans (hb.mono hB0.out.size))))
 all_goals
  go_wp2_with fail
  go_ret
  first
   | exact ⟨rfl,hB3.out⟩
   | exact ⟨rfl,hB3.out.drew⟩
end
section
open Go.RowKit
open Dvs (Dv dv0 dv nth cn fits kindP Nodes)
def FourAt (w:World) (T:Nat) (f:Nat→Nat):Prop:=∀ j,j<4→w.cell? ⟨T,j,none⟩=some (.int .i64 (f j:Nat))∧w.frozen? ⟨T,j,none⟩=false
theorem FourAt.lt {w:World} {T:Nat} {f:Nat→Nat} (h:FourAt w T f):T<w.heap.size:=World.block_lt_of_cell? w _ (h 0 (by decide)).1
theorem FourAt.kept {w w':World} {T:Nat} {f:Nat→Nat} {g:Option Nat} (h:FourAt w T f) (hg:w.grownBy w' g) (hne:some T≠g):FourAt w' T f:=fun j hj=>
 ⟨(hg.cell_far _ h.lt hne).trans (h j hj).1,(hg.frozen_far _ h.lt hne).trans (h j hj).2⟩
theorem FourAt.below {w w':World} {T:Nat} {f:Nat→Nat} (h:FourAt w T f) (hb:Below w.heap.size w w'):FourAt w' T f:=h.kept (grown_below hb none) (by simp)
theorem FourAt.alloc {w:World} {T:Nat} {f:Nat→Nat} (h:FourAt w T f) (o:Obj):FourAt (w.alloc o) T f:=h.below ((Below.refl _ w).alloc (Nat.le_refl _) o)
theorem FourAt.made (w:World) (t:TypeId) (f:Nat→Nat) (hf:∀ j,f j=0):FourAt (w.alloc (.cells #[.int .i64 0,.int .i64 0,.int .i64 0,.int .i64 0] t)) w.heap.size f:=by
 intro j hj
 rw [hf j]
 have:j=0∨j=1∨j=2∨j=3:=by omega
 rcases this with rfl|rfl|rfl|rfl <;> exact ⟨by simp,by simp⟩
theorem FourAt.set {w:World} {T:Nat} {f g:Nat→Nat} (h:FourAt w T f) {m:Nat} (hm:m<4) {n:Int} (hn:n=(f m:Nat)+1) (hg:∀ j,g j=f j+if j=m then 1 else 0):FourAt (w.setCell ⟨T,m,none⟩ (.int .i64 n)) T g:=by
 subst hn
 intro j hj
 obtain ⟨c,z⟩:=h j hj
 obtain ⟨cm,_⟩:=h m hm
 refine ⟨?_,(World.frozen?_setCell ..).trans z⟩
 rw [hg j]
 by_cases e:j=m
 ·subst e
  rw [if_pos rfl]
  have e2:(((f j+1:Nat)):Int)=((f j:Nat):Int)+1:=by omega
  rw [e2]
  clear c hg e2
  go_simp
 ·rw [if_neg e,Nat.add_zero]
  have hne:(⟨T,m,none⟩:Addr)≠⟨T,j,none⟩:=by intro h;cases h;exact e rfl
  rw [World.cell?_setCell_other (h:=hne)]
  exact c
theorem toList_ne {a b:ByteArray} (h:¬ a=b):¬ a.toList=b.toList:=by
 rw [ByteArray.toList_eq,ByteArray.toList_eq]
 exact fun e=>h (Go.WideShapes.bytes_inj e)
theorem cn_zero (p:Nat→Bool) (ds:List Dv) (x:Nat):cn p ds x 0=0:=rfl
def fourV (f:Nat→Nat):Value:=.agg #[.int .i64 (f 0:Nat),.int .i64 (f 1:Nat),.int .i64 (f 2:Nat),.int .i64 (f 3:Nat)]
structure CntAt (w wr:World) (pb db:Nat) (ao:Option Addr) (c:Nat) (ds:List Dv) (us:Nat→Bool) (kind:ByteArray) (F A k:Nat):Prop where
 pool:PoolAt wr pb db ao c ds us
 free:FourAt wr F (fun x=>cn (fits ds us kind) ds x k)
 all:FourAt wr A (fun x=>cn (kindP ds kind) ds x k)
 below:Below w.heap.size w wr
theorem CntAt.alloc {w wr:World} {pb db:Nat} {ao:Option Addr} {c:Nat} {ds:List Dv} {us:Nat→Bool} {kind:ByteArray} {F A k:Nat} (h:CntAt w wr pb db ao c ds us kind F A k) (o:Obj):CntAt w (wr.alloc o) pb db ao c ds us kind F A k:=
 ⟨h.pool.alloc o,h.free.alloc o,h.all.alloc o,h.below.alloc h.below.size o⟩
theorem CntAt.mid {w wr:World} {pb db:Nat} {ao:Option Addr} {c:Nat} {ds:List Dv} {us:Nat→Bool} {kind:ByteArray} {F A k m D:Nat} {n z:Int} (h:CntAt w wr pb db ao c ds us kind F A k) (hk:k<16) (hm:m<4) (hD:wr.cell? ⟨D,1,none⟩=some (.int .i64 z)) (hFA:F≠A) (hpA:pb≠A) (hDA:D≠A) :
  (wr.setCell ⟨A,m,none⟩ (.int .i64 n)).cell? ⟨pb,1+k,none⟩=some (.bool (us k))∧(wr.setCell ⟨A,m,none⟩ (.int .i64 n)).cell? ⟨F,m,none⟩=some (.int .i64 (cn (fits ds us kind) ds m k:Nat))∧(wr.setCell ⟨A,m,none⟩ (.int .i64 n)).frozen? ⟨F,m,none⟩=false∧(wr.setCell ⟨A,m,none⟩ (.int .i64 n)).cell? ⟨D,1,none⟩=some (.int .i64 z):=by
 have hg:=grown_setCell wr ⟨A,m,none⟩ (.int .i64 n)
 exact ⟨(hg.cell_far _ h.pool.lt (by simpa using hpA)).trans (h.pool.used k hk).1,(hg.cell_far _ h.free.lt (by simpa using hFA)).trans (h.free m hm).1,(hg.frozen_far _ h.free.lt (by simpa using hFA)).trans (h.free m hm).2,(hg.cell_far _ (World.block_lt_of_cell? _ _ hD) (by simpa using hDA)).trans hD⟩
theorem CntAt.no {w wr:World} {pb db:Nat} {ao:Option Addr} {c:Nat} {ds:List Dv} {us:Nat→Bool} {kind:ByteArray} {F A k:Nat} (h:CntAt w wr pb db ao c ds us kind F A k) (hk:kindP ds kind k=false):CntAt w wr pb db ao c ds us kind F A (k+1):=by
 refine ⟨h.pool,?_,?_,h.below⟩
 ·have:(fun x=>cn (fits ds us kind) ds x (k+1))=fun x=>cn (fits ds us kind) ds x k:=by funext x;exact Dvs.cn_no (by rw [Dvs.fits_kind,hk];rfl) x
  rw [this];exact h.free
 ·have:(fun x=>cn (kindP ds kind) ds x (k+1))=fun x=>cn (kindP ds kind) ds x k:=by funext x;exact Dvs.cn_no hk x
  rw [this];exact h.all
theorem CntAt.one {w wr:World} {pb db:Nat} {ao:Option Addr} {c:Nat} {ds:List Dv} {us:Nat→Bool} {kind:ByteArray} {F A k m:Nat} {n:Int} (h:CntAt w wr pb db ao c ds us kind F A k) (hk:kindP ds kind k=true) (hu:us k=true) (hm:m<4) (hx:(dv ds k).node=(m:Int)) (hA:w.heap.size≤A) (hFA:F≠A) (hp:pb<w.heap.size) (hd:0<ds.length→db<w.heap.size) (hn:n=(cn (kindP ds kind) ds m k:Nat)+1) :
  CntAt w (wr.setCell ⟨A,m,none⟩ (.int .i64 n)) pb db ao c ds us kind F A (k+1):=by
 have hg:=grown_setCell wr ⟨A,m,none⟩ (.int .i64 n)
 refine ⟨h.pool.kept hg (by simp;omega) (fun h0=>by have:=hd h0;simp;omega),?_,?_,h.below.setCell hA _⟩
 ·have:(fun x=>cn (fits ds us kind) ds x (k+1))=fun x=>cn (fits ds us kind) ds x k:=by funext x;exact Dvs.cn_no (by rw [Dvs.fits_kind,hk,hu];rfl) x
  rw [this];exact h.free.kept hg (by simpa using hFA)
 ·refine h.all.set hm hn (fun j=>?_)
  rw [Dvs.cn_yes hk (by omega)]
  congr 2
  have:(dv ds k).node.toNat=m:=by omega
  rw [this]
theorem CntAt.both {w wr:World} {pb db:Nat} {ao:Option Addr} {c:Nat} {ds:List Dv} {us:Nat→Bool} {kind:ByteArray} {F A k m:Nat} {n n2:Int} (h:CntAt w wr pb db ao c ds us kind F A k) (hk:kindP ds kind k=true) (hu:us k=false) (hm:m<4) (hx:(dv ds k).node=(m:Int)) (hF:w.heap.size≤F) (hA:w.heap.size≤A) (hFA:F≠A) (hp:pb<w.heap.size) (hd:0<ds.length→db<w.heap.size) (hn:n=(cn (kindP ds kind) ds m k:Nat)+1) (hn2:n2=(cn (fits ds us kind) ds m k:Nat)+1) :
  CntAt w ((wr.setCell ⟨A,m,none⟩ (.int .i64 n)).setCell ⟨F,m,none⟩ (.int .i64 n2)) pb db ao c ds us kind F A (k+1):=by
 have hg:=grown_setCell wr ⟨A,m,none⟩ (.int .i64 n)
 have hg2:=grown_setCell (wr.setCell ⟨A,m,none⟩ (.int .i64 n)) ⟨F,m,none⟩ (.int .i64 n2)
 refine ⟨(h.pool.kept hg (by simp;omega) (fun h0=>by have:=hd h0;simp;omega)).kept hg2 (by simp;omega) (fun h0=>by have:=hd h0;simp;omega),?_,?_,(h.below.setCell hA _).setCell hF _⟩
 ·refine (h.free.kept hg (by simpa using hFA)).set hm hn2 (fun j=>?_)
  rw [Dvs.cn_yes (by rw [Dvs.fits_kind,hk,hu];rfl) (by omega)]
  congr 2
  have:(dv ds k).node.toNat=m:=by omega
  rw [this]
 ·refine (h.all.set hm hn (fun j=>?_)).kept hg2 (by simpa using fun e=>hFA e.symm)
  rw [Dvs.cn_yes hk (by omega)]
  congr 2
  have:(dv ds k).node.toNat=m:=by omega
  rw [this]
end
section
namespace Ol
open Ost (Cpu Wi chosen cnt dif takeOut)
open Dvs (Dv dv fits took takeF srt usedBy claimed nth sel took_mem took_nodup srt_perm srt_mem ord_len)
open Qos (Nd Ct Pd ct ownOf)
open Sv (Gv Hd gv hd)
theorem takeOut_zero {l:List Cpu} {F:Nat} {L:Int} {on:Nat} (h:(takeOut l F L on).2=0):(cnt (takeOut l F L on).1:Int)=L∧(takeOut l F L on).1 &&& F=(takeOut l F L on).1:=by
 unfold takeOut at h ⊢
 split
 ·rename_i h1;rw [if_pos h1] at h;cases h
 ·rename_i h1
  rw [if_neg h1] at h
  split
  ·rename_i h2;rw [if_pos h2] at h;cases h
  ·rename_i h2
   have:=Ost.take_facts (l:=l) (F:=F) (L:=L) on (by omega) (by omega) _ rfl
   exact ⟨this.1,this.2.1⟩
def kindN (ds:List Dv) (k:ByteArray) (l:List Nat):Nat:=l.countP fun j=>decide ((dv ds j).kind=k)
def needSum (k:ByteArray) (ns:List Nd):Int:=(ns.map fun n=>if n.kind=k then n.many else 0).sum
theorem took_len {ds:List Dv} {us:Nat→Bool} {kind:ByteArray} {m:Nat} {many:Int} (h:takeF ds us kind many=0):((took ds us kind m many.toNat).length:Int)=many:=by
 unfold takeF at h
 split at h
 ·cases h
 ·split at h
  ·cases h
  ·unfold took
   rw [List.length_take,ord_len]
   omega
theorem kindN_took {ds:List Dv} {us:Nat→Bool} {kind:ByteArray} {m n:Nat} (k:ByteArray):kindN ds k (took ds us kind m n)=if kind=k then (took ds us kind m n).length else 0:=by
 unfold kindN
 by_cases hk:kind=k
 ·rw [if_pos hk,List.countP_eq_length]
  intro j hj
  have h:=(took_mem hj).2
  simp only [fits,Bool.and_eq_true,decide_eq_true_eq] at h
  simp [h.1.1,hk]
 ·rw [if_neg hk,List.countP_eq_zero]
  intro j hj
  have h:=(took_mem hj).2
  simp only [fits,Bool.and_eq_true,decide_eq_true_eq] at h
  simp [h.1.1,hk]
structure TookAll (ds:List Dv) (ns:List Nd) (us us':Nat→Bool) (new:List Nat):Prop where
 nodup:new.Nodup
 free:∀ j∈new,j<ds.length∧us j=false
 used:∀ j,us' j=(us j || decide (j∈new))
 kinds:∀ k,(kindN ds k new:Int)=needSum k ns
theorem devsFor_zero {ds:List Dv} (h16:ds.length≤16) (on:Nat):∀ (ns:List Nd) (us:Nat→Bool) (out:List Nat),(devsFor ds on ns us out).1=0→∃ new,(devsFor ds on ns us out).2.2=out++new∧TookAll ds ns us (devsFor ds on ns us out).2.1 new:=by
 intro ns
 induction ns with
 | nil=>intro us out _;exact ⟨[],by simp [devsFor],⟨List.nodup_nil,fun _ h=>(List.not_mem_nil h).elim,fun j=>by simp [devsFor],fun k=>by simp [kindN,needSum]⟩⟩
 | cons n r ih=>
  intro us out h
  rw [devsFor] at h ⊢
  by_cases hf:takeF ds us n.kind n.many=0
  ·rw [if_pos hf] at h ⊢
   obtain ⟨new,e,t⟩:=ih _ _ h
   have hT16:∀ j∈took ds us n.kind on n.many.toNat,j<16:=fun j hj=>by have:=(took_mem hj).1;omega
   have hp:=srt_perm hT16 (took_nodup ds us n.kind on n.many.toNat)
   refine ⟨srt (took ds us n.kind on n.many.toNat)++new,by rw [e,List.append_assoc],⟨?_,?_,?_,?_⟩⟩
   ·rw [List.nodup_append]
    refine ⟨hp.nodup_iff.2 (took_nodup ds us n.kind on n.many.toNat),t.nodup,fun a ha b hb e2=>?_⟩
    subst e2
    have h1:=(t.free a hb).2
    unfold usedBy at h1
    rw [Bool.or_eq_false_iff,decide_eq_false_iff_not] at h1
    exact h1.2 (hp.mem_iff.1 ha)
   ·intro j hj
    rcases List.mem_append.1 hj with hj|hj
    ·have h1:=took_mem (hp.mem_iff.1 hj)
     refine ⟨h1.1,?_⟩
     have h2:=h1.2
     simp only [fits,Bool.and_eq_true,Bool.not_eq_true'] at h2
     exact h2.2
    ·have h1:=t.free j hj
     refine ⟨h1.1,?_⟩
     have h2:=h1.2
     unfold usedBy at h2
     rw [Bool.or_eq_false_iff] at h2
     exact h2.1
   ·intro j
    rw [t.used j]
    unfold usedBy
    rw [Bool.or_assoc]
    congr 1
    rw [← Bool.decide_or]
    apply decide_eq_decide.2
    rw [List.mem_append,hp.mem_iff]
   ·intro k
    unfold kindN
    rw [List.countP_append,hp.countP_eq]
    have h1:=kindN_took (ds:=ds) (us:=us) (kind:=n.kind) (m:=on) (n:=n.many.toNat) k
    unfold kindN at h1
    rw [h1]
    have h2:=t.kinds k
    unfold kindN at h2
    have h3:=took_len (m:=on) hf
    unfold needSum
    rw [List.map_cons,List.sum_cons]
    unfold needSum at h2
    by_cases hk:n.kind=k
    ·rw [if_pos hk,if_pos hk];omega
    ·rw [if_neg hk,if_neg hk];omega
  ·rw [if_neg hf] at h
   exact absurd h hf
theorem sum_none {α:Type} (l:List α):(l.map fun _=>(0:Int)).sum=0:=by
 induction l with
 | nil=>rfl
 | cons x r ih=>rw [List.map_cons,List.sum_cons,ih];rfl
theorem needSum_want {ns:List Nd} (hp:ns.Pairwise fun a b=>a.kind≠b.kind) (k:ByteArray):needSum k ns=(want ns k).getD 0:=by
 by_cases h:∃ n∈ns,n.kind=k
 ·obtain ⟨n,hn,rfl⟩:=h
  unfold want
  rw [want_at ns _ n hn hp]
  show needSum n.kind ns=n.many
  induction ns with
  | nil=>cases hn
  | cons x r ih=>
   obtain ⟨h1,h2⟩:=List.pairwise_cons.1 hp
   unfold needSum
   rw [List.map_cons,List.sum_cons]
   rcases List.mem_cons.1 hn with rfl|hn
   ·rw [if_pos rfl]
    have:(r.map fun y=>if y.kind=n.kind then y.many else 0).sum=0:=by
     have:(r.map fun y=>if y.kind=n.kind then y.many else 0)=r.map fun _=>(0:Int):=List.map_congr_left fun y hy=>by rw [if_neg (fun e=>h1 y hy e.symm)]
     rw [this];exact sum_none r
    rw [this];omega
   ·rw [if_neg (h1 n hn)]
    have:=ih h2 hn
    unfold needSum at this
    rw [this];omega
 ·have h':∀ n∈ns,n.kind≠k:=fun n hn e=>h ⟨n,hn,e⟩
  unfold want
  rw [want_out ns _ k h']
  unfold needSum
  have:(ns.map fun n=>if n.kind=k then n.many else 0)=ns.map fun _=>(0:Int):=List.map_congr_left fun y hy=>by rw [if_neg (h' y hy)]
  rw [this];exact sum_none ns
def toInts (l:List Nat):List Int:=l.map fun (k:Nat)=>(k:Int)
theorem ofKind_ints (ds:List Dv) (k:ByteArray) (l:List Nat):ofKind ds k (toInts l)=kindN ds k l:=by
 unfold ofKind kindN toInts
 rw [List.countP_map]
 rfl
theorem mem_toInts {l:List Nat} {j:Nat}:(j:Int)∈toInts l↔j∈l:=by
 unfold toInts
 rw [List.mem_map]
 constructor
 ·rintro ⟨x,hx,e⟩
  have h:x=j:=by omega
  rw [h] at hx
  exact hx
 ·exact fun h=>⟨j,h,rfl⟩
theorem nth_toInts {l:List Nat} {k:Nat} (h:k<l.length):nth (toInts l) k=(l[k]:Int):=by simp [nth,toInts,h]
theorem nodup_take {l:List Int} (h:l.Nodup) {k:Nat} (hk:k<l.length):nth l k ∉ l.take k:=by
 intro hm
 have e:nth l k=l[k]:=by simp [nth,hk]
 rw [e] at hm
 rw [← List.take_append_drop k l,List.nodup_append] at h
 exact h.2.2 _ hm _ (by rw [List.drop_eq_getElem_cons hk];exact List.mem_cons_self ..) rfl
theorem toInts_nodup {l:List Nat} (h:l.Nodup):(toInts l).Nodup:=by
 unfold toInts
 rw [List.nodup_iff_pairwise_ne] at h ⊢
 rw [List.pairwise_map]
 exact h.imp fun hne e=>hne (by omega)
theorem takeOut_err (l:List Cpu) (F:Nat) (L:Int) (on:Nat):(takeOut l F L on).2=0∨(takeOut l F L on).2=1∨(takeOut l F L on).2=8:=by
 unfold takeOut
 split
 ·exact .inr (.inl rfl)
 ·split
  ·exact .inr (.inr rfl)
  ·exact .inl rfl
theorem give_claim {m:Mc} {s:Sk} {own:Int} {ns:List Nd} (h16:s.ds.length≤16) (hn:∀ n∈ns,n.many≠0) (hp:ns.Pairwise fun a b=>a.kind≠b.kind) (h:(giveOne m s own ns).1=0) :
  claim s (giveOne m s own ns).2.1 own ns=some ⟨dif s.cp (giveOne m s own ns).2.1.cp,s.ds,(giveOne m s own ns).2.2⟩:=by
 unfold giveOne at h ⊢
 dsimp only at h ⊢
 split
 ·rename_i h1;rw [if_pos h1] at h;cases h
 ·rename_i h1
  rw [if_neg h1] at h
  split
  ·rename_i h2;rw [if_pos h2] at h;exfalso;have h4:=takeOut_err m.l s.cp own (chosen (fun c=>(place m (wishes m s own ns)).1.1.testBit c.node.toNat) m.l);dsimp only at h;omega
  ·rename_i h2
   rw [if_neg h2] at h
   split
   ·rename_i h3;rw [if_pos h3] at h;exact absurd h h3
   ·rename_i h3
    have hd:(devsFor s.ds (place m (wishes m s own ns)).1.1 ns s.us []).1=0:=by omega
    obtain ⟨new,e,t⟩:=devsFor_zero h16 _ ns s.us [] hd
    have ht:=takeOut_zero (show (takeOut m.l s.cp own (chosen (fun c=>(place m (wishes m s own ns)).1.1.testBit c.node.toNat) m.l)).2=0 by omega)
    generalize (takeOut m.l s.cp own (chosen (fun c=>(place m (wishes m s own ns)).1.1.testBit c.node.toNat) m.l)).1=cp at *
    generalize (devsFor s.ds (place m (wishes m s own ns)).1.1 ns s.us []).2.1=us' at *
    rw [e,List.nil_append]
    have hj16:∀ j∈new,j<16:=fun j hj=>by have:=(t.free j hj).1;omega
    have hpm:=srt_perm hj16 t.nodup
    have key:claim s (⟨⟨cp,toInts (srt new)⟩,own,ns⟩:Cl).g own ns=some (took1 s ⟨⟨cp,toInts (srt new)⟩,own,ns⟩):=by
     refine (claim_iff (x:=⟨⟨cp,toInts (srt new)⟩,own,ns⟩)).2 ⟨⟨ht.1,?_,fun k hk=>?_⟩,⟨ht.2,fun k hk=>?_⟩,rfl⟩
     ·refine (just_iff hn).2 fun k=>?_
      rw [← needSum_want hp,← t.kinds k]
      show ((kindN s.ds k new:Nat):Int)=((ofKind s.ds k (toInts (srt new)):Nat):Int)
      rw [ofKind_ints]
      unfold kindN
      rw [hpm.countP_eq]
     ·have hk':k<(srt new).length:=by simpa [toInts] using hk
      show 0≤nth (toInts (srt new)) k∧nth (toInts (srt new)) k<(s.ds.length:Int)∧nth (toInts (srt new)) k ∉ (toInts (srt new)).take k
      refine ⟨?_,?_,nodup_take (toInts_nodup (hpm.nodup_iff.2 t.nodup)) hk⟩
      ·rw [nth_toInts hk'];omega
      ·rw [nth_toInts hk']
       have:=(t.free _ (hpm.mem_iff.1 (List.getElem_mem hk'))).1
       omega
     ·have hk':k<(srt new).length:=by simpa [toInts] using hk
      show s.us (nth (toInts (srt new)) k).toNat=false
      rw [nth_toInts hk',Int.toNat_natCast]
      exact (t.free _ (hpm.mem_iff.1 (List.getElem_mem hk'))).2
    have eus:claimed s.us (toInts (srt new))=us':=by
     funext j
     rw [t.used j]
     unfold claimed
     congr 1
     apply decide_eq_decide.2
     rw [mem_toInts,hpm.mem_iff]
    show claim s ⟨cp,toInts (srt new)⟩ own ns=some ⟨dif s.cp cp,s.ds,us'⟩
    rw [← eus]
    exact key
end Ol
end
end Go.Proofs.YtbfdcmodflnkfaaGreatDoor
