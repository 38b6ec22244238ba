import Derived.Test.YtbmmnflgnmjboaaGreatDoorL25
set_option maxRecDepth 100000
set_option maxHeartbeats 16000000
namespace Go.Proofs.YtbmmnflgnmjboaaGreatDoor
section
open Go.RowKit Go.Shelf
open Qos (Nd Ct Pd nd ct pd ah aF)
open Sv (Gv Hd gv hd)
open Ost (dif cnt)
theorem IF (m:Ol.Mc) (cs:List Ct) (k:Nat) (gs:List Gv) (s:Ol.Sk):(Ol.iN m cs k gs s).2.2.ds=s.ds:=by
 unfold Ol.iN;split <;> rfl
theorem IG (m:Ol.Mc) (s:Ol.Sk) (cs:List Ct):∀ k,(Ol.bi m s cs k).2.2.ds=s.ds:=by
 intro k
 induction k with
 | zero=>rfl
 | succ k ih=>
  rw [Ol.bi]
  split
  ·rw [IF];exact ih
  ·exact ih
theorem IH {m:Ol.Mc} {s:Ol.Sk} {cs:List Ct} {k:Nat} (h:(Ol.bi m s cs k).1≠0):∀ j,k<=j->(Ol.bi m s cs j).1=(Ol.bi m s cs k).1:=by
 intro j hj
 induction j with
 | zero=>rw [show k=0 by omega]
 | succ j ih=>
  by_cases e:k=j+1
  ·rw [e]
  ·have:=ih (by omega)
   rw [Ol.bi,if_neg (by rw [this];exact h)];exact this
theorem II {m:Ol.Mc} {s:Ol.Sk} {own:Int} {ns:List Nd} (hs:s.cp<18446744073709551616):(Ol.aZ m s own ns).2.1.cp<18446744073709551616:=by
 unfold Ol.aZ;dsimp only
 split
 ·exact Nat.zero_lt_succ _
 ·split
  ·exact Nat.zero_lt_succ _
  ·rename_i ht
   split
   ·exact Nat.zero_lt_succ _
   ·exact Ol.tM (Ol.tE (Classical.byContradiction λh=>ht h)).2 hs
theorem IJ (m:Ol.Mc) (s:Ol.Sk) (cs:List Ct) (hs:s.cp<18446744073709551616):∀ k,(Ol.bi m s cs k).2.2.cp<18446744073709551616:=by
 intro k
 induction k with
 | zero=>exact hs
 | succ k ih=>
  rw [Ol.bi]
  split
  ·unfold Ol.iN
   split
   ·exact Ost.iI _ ih
   ·exact ih
  ·exact ih
theorem IK {m:Ol.Mc} {s:Ol.Sk} {cs:List Ct} {k:Nat} {gs:List Gv} {sk:Ol.Sk} (h:Ol.bi m s cs k=(0,gs,sk)):Ol.bi m s cs (k+1)=if (Ol.aZ m sk (aF cs (ct cs k).am) (ct cs k).ds).1=0 then (0,gs++[(Ol.aZ m sk (aF cs (ct cs k).am) (ct cs k).ds).2.1],⟨dif sk.cp (Ol.aZ m sk (aF cs (ct cs k).am) (ct cs k).ds).2.1.cp,sk.ds,(Ol.aZ m sk (aF cs (ct cs k).am) (ct cs k).ds).2.2⟩) else ((Ol.aZ m sk (aF cs (ct cs k).am) (ct cs k).ds).1,[],⟨sk.cp,sk.ds,(Ol.aZ m sk (aF cs (ct cs k).am) (ct cs k).ds).2.2⟩):=by
 rw [Ol.bi,h];rfl
theorem aY.le {W W':World} {tb b o c:Nat} {l:List Ost.Cpu} (h:aY W tb b o c l) (k:aG W W'):aY W' tb b o c l:=
 ⟨k.cell _ _ _ h.cell,λj hj=>⟨k.cell _ _ _ (h.cells j hj).1,k.cell _ _ _ (h.cells j hj).2.1,k.cell _ _ _ (h.cells j hj).2.2⟩,Nat.lt_of_lt_of_le h.lt k.size,h.len⟩
theorem cG.le {W W':World} {tb b o c:Nat} {m:Ol.Mc} (h:cG W tb b o c m) (k:aG W W'):cG W' tb b o c m:=⟨h.topo.le k,h.good,h.op,h.nd,h.pol⟩
theorem IL {pb:Nat} {w W:World} (h:Apart (λj=>j=pb) w W):aG (ag (λj=>j=pb) w) (ag (λj=>j=pb) W):=kJ h (λ_ _ h=>h)
end
end Go.Proofs.YtbmmnflgnmjboaaGreatDoor
