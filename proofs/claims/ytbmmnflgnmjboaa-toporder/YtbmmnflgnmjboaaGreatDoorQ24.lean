/- OW4 -/
import Derived.Test.YtbmmnflgnmjboaaGreatDoorQ23
set_option maxRecDepth 100000
set_option maxHeartbeats 16000000
namespace Go.Proofs.YtbmmnflgnmjboaaGreatDoor
section
open Go.RowKit Go.Shelf
open Qos (Nd Ct Pd nd ct pd podF ownOf)
open Sv (Gv Hd gv hd)
open Ost (dif cnt)
theorem next_ds (m:Ol.Mc) (cs:List Ct) (k:Nat) (gs:List Gv) (s:Ol.Sk):(Ol.giveNext m cs k gs s).2.2.ds=s.ds:=by
 unfold Ol.giveNext;split <;> rfl
theorem giveTo_dsO (m:Ol.Mc) (s:Ol.Sk) (cs:List Ct):∀ k,(Ol.giveTo m s cs k).2.2.ds=s.ds:=by
 intro k
 induction k with
 | zero=>rfl
 | succ k ih=>
  rw [Ol.giveTo]
  split
  ·rw [next_ds];exact ih
  ·exact ih
theorem giveTo_err {m:Ol.Mc} {s:Ol.Sk} {cs:List Ct} {k:Nat} (h:(Ol.giveTo m s cs k).1≠0):∀ j,k≤j→(Ol.giveTo m s cs j).1=(Ol.giveTo m s cs k).1:=by
 intro j hj
 induction j with
 | zero=>rw [show k=0 by omega]
 | succ j ih=>
  by_cases e:k=j+1
  ·rw [e]
  ·have:=ih (by omega)
   rw [Ol.giveTo,if_neg (by rw [this];exact h)];exact this
theorem giveOne_lt {m:Ol.Mc} {s:Ol.Sk} {own:Int} {ns:List Nd} (hs:s.cp<18446744073709551616):(Ol.giveOne m s own ns).2.1.cp<18446744073709551616:=by
 unfold Ol.giveOne;dsimp only
 split
 ·exact Nat.zero_lt_succ _
 ·split
  ·exact Nat.zero_lt_succ _
  ·rename_i ht
   split
   ·exact Nat.zero_lt_succ _
   ·exact Ol.and_lt (Ol.takeOut_zero (Classical.byContradiction fun h=>ht h)).2 hs
theorem giveTo_lt (m:Ol.Mc) (s:Ol.Sk) (cs:List Ct) (hs:s.cp<18446744073709551616):∀ k,(Ol.giveTo m s cs k).2.2.cp<18446744073709551616:=by
 intro k
 induction k with
 | zero=>exact hs
 | succ k ih=>
  rw [Ol.giveTo]
  split
  ·unfold Ol.giveNext
   split
   ·exact Ost.dif_lt _ ih
   ·exact ih
  ·exact ih
theorem giveTo_next {m:Ol.Mc} {s:Ol.Sk} {cs:List Ct} {k:Nat} {gs:List Gv} {sk:Ol.Sk} (h:Ol.giveTo m s cs k=(0,gs,sk)):Ol.giveTo m s cs (k+1)=if (Ol.giveOne m sk (ownOf cs (ct cs k).am) (ct cs k).ds).1=0 then (0,gs++[(Ol.giveOne m sk (ownOf cs (ct cs k).am) (ct cs k).ds).2.1],⟨dif sk.cp (Ol.giveOne m sk (ownOf cs (ct cs k).am) (ct cs k).ds).2.1.cp,sk.ds,(Ol.giveOne m sk (ownOf cs (ct cs k).am) (ct cs k).ds).2.2⟩) else ((Ol.giveOne m sk (ownOf cs (ct cs k).am) (ct cs k).ds).1,[],⟨sk.cp,sk.ds,(Ol.giveOne m sk (ownOf cs (ct cs k).am) (ct cs k).ds).2.2⟩):=by
 rw [Ol.giveTo,h];rfl
theorem TopoAt.le {W W':World} {tb b o c:Nat} {l:List Ost.Cpu} (h:TopoAt W tb b o c l) (k:CellLe W W'):TopoAt W' tb b o c l:=
 ⟨k.cell _ _ _ h.cell,fun j hj=>⟨k.cell _ _ _ (h.cells j hj).1,k.cell _ _ _ (h.cells j hj).2.1,k.cell _ _ _ (h.cells j hj).2.2⟩,Nat.lt_of_lt_of_le h.lt k.size,h.len⟩
theorem MTop.le {W W':World} {tb b o c:Nat} {m:Ol.Mc} (h:MTop W tb b o c m) (k:CellLe W W'):MTop W' tb b o c m:=⟨h.topo.le k,h.good,h.op,h.nd,h.pol⟩
theorem apart_mask {pb:Nat} {w W:World} (h:Apart (fun j=>j=pb) w W):CellLe (mask (fun j=>j=pb) w) (mask (fun j=>j=pb) W):=mask_le h (fun _ _ h=>h)
end
end Go.Proofs.YtbmmnflgnmjboaaGreatDoor
