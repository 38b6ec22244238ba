import Derived.Test.YtbmmnflgnmjboaaGreatDoorK25
set_option maxRecDepth 100000
set_option maxHeartbeats 16000000
namespace Go.Proofs.YtbmmnflgnmjboaaGreatDoor
section
open RowKit Shelf
open Qos (Nd Ct Pd nd ct pd ah aH)
open Sv (Gv Hd gv hd)
open Ost (dif cnt)
theorem Jv (m:Ol.Mc) (cs:List Ct) (k:Nat) (gs:List Gv) (s:Ol.Sk):(Ol.iq m cs k gs s).2.2.ds=s.ds:=by
 unfold Ol.iq;split <;> rfl
theorem Jw (m:Ol.Mc) (s:Ol.Sk) (cs:List Ct):∀ k,(Ol.a6 m s cs k).2.2.ds=s.ds:=by
 intro k
 induction k with
 | zero=>rfl
 | succ k ih=>
  rw [Ol.a6]
  split
  ·rw [Jv];exact ih
  ·exact ih
theorem Jy {m:Ol.Mc} {s:Ol.Sk} {cs:List Ct} {k:Nat} (h:(Ol.a6 m s cs k).1≠0):∀ j,k<=j->(Ol.a6 m s cs j).1=(Ol.a6 m s cs k).1:=by
 intro j hj
 induction j with
 | zero=>rw [show k=0 by omega]
 | succ j ih=>
  by_cases e:k=j+1
  ·rw [e]
  ·have:=ih (by omega)
   rw [Ol.a6,if_neg (by rw [this];exact h)];exact this
theorem Jz {m:Ol.Mc} {s:Ol.Sk} {own:Int} {ns:List Nd} (hs:s.cp<18446744073709551616):(Ol.aY m s own ns).2.1.cp<18446744073709551616:=by
 unfold Ol.aY;dsimp only
 split
 ·exact Nat.zero_lt_succ _
 ·split
  ·exact Nat.zero_lt_succ _
  ·rename_i ht
   split
   ·exact Nat.zero_lt_succ _
   ·exact Ol.uk (Ol.ub (Qt λh=>ht h)).2 hs
theorem JA (m:Ol.Mc) (s:Ol.Sk) (cs:List Ct) (hs:s.cp<18446744073709551616):∀ k,(Ol.a6 m s cs k).2.2.cp<18446744073709551616:=by
 intro k
 induction k with
 | zero=>exact hs
 | succ k ih=>
  rw [Ol.a6]
  split
  ·unfold Ol.iq
   split
   ·exact Ost.iP _ ih
   ·exact ih
  ·exact ih
theorem JB {m:Ol.Mc} {s:Ol.Sk} {cs:List Ct} {k:Nat} {gs:List Gv} {sk:Ol.Sk} (h:Ol.a6 m s cs k=(0,gs,sk)):Ol.a6 m s cs (k+1)=if (Ol.aY m sk (aH cs (ct cs k).am) (ct cs k).ds).1=0 then (0,gs++[(Ol.aY m sk (aH cs (ct cs k).am) (ct cs k).ds).2.1],⟨dif sk.cp (Ol.aY m sk (aH cs (ct cs k).am) (ct cs k).ds).2.1.cp,sk.ds,(Ol.aY m sk (aH cs (ct cs k).am) (ct cs k).ds).2.2⟩) else ((Ol.aY m sk (aH cs (ct cs k).am) (ct cs k).ds).1,[],⟨sk.cp,sk.ds,(Ol.aY m sk (aH cs (ct cs k).am) (ct cs k).ds).2.2⟩):=by
 rw [Ol.a6,h];rfl
theorem aZ.le {W W':World} {tb b o c:Nat} {l:List Ost.Cpu} (h:aZ W tb b o c l) (k:aB W W'):aZ W' tb b o c l:=
 ⟨k.cell _ _ _ h.cell,λj hj=>⟨k.cell _ _ _ (h.cells j hj).1,k.cell _ _ _ (h.cells j hj).2.1,k.cell _ _ _ (h.cells j hj).2.2⟩,Q1 h.lt k.size,h.len⟩
theorem cI.le {W W':World} {tb b o c:Nat} {m:Ol.Mc} (h:cI W tb b o c m) (k:aB W W'):cI W' tb b o c m:=⟨h.topo.le k,h.good,h.op,h.nd,h.pol⟩
theorem JC {pb:Nat} {w W:World} (h:Apart (λj=>j=pb) w W):aB (ag (λj=>j=pb) w) (ag (λj=>j=pb) W):=kX h (λ_ _ h=>h)
end
