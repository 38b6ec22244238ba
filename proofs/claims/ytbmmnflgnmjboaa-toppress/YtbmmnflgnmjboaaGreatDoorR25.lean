import Derived.Test.YtbmmnflgnmjboaaGreatDoorR24
set_option maxRecDepth 100000
set_option maxHeartbeats 16000000
namespace Go.Proofs.YtbmmnflgnmjboaaGreatDoor
section
open RowKit Shelf
open Qos (Nd Ct Pd nd ct pd af aA)
open Sv (Gv Hd gv hd)
open Ost (dif cnt)
theorem Lh (m:Ol.Mc) (cs:List Ct) (k:Nat) (gs:List Gv) (s:Ol.Sk):(Ol.jA m cs k gs s).2.2.ds=s.ds:=by
 unfold Ol.jA;split <;> rfl
theorem Li (m:Ol.Mc) (s:Ol.Sk) (cs:List Ct):∀ k,(Ol.bi m s cs k).2.2.ds=s.ds:=by
 intro k
 induction k with
 | zero=>rfl
 | succ k ih=>
  rw [Ol.bi]
  split
  ·rw [Lh];exact ih
  ·exact ih
theorem Lj {m:Ol.Mc} {s:Ol.Sk} {cs:List Ct} {k:Nat} (h:(Ol.bi m s cs k).1≠0):∀ j,k<=j->(Ol.bi m s cs j).1=(Ol.bi m s cs k).1:=by
 intro j hj
 induction j with
 | zero=>rw [show k=0 by omega]
 | succ j ih=>
  by_cases e:k=j+1
  ·rw [e]
  ·have:=ih (by omega)
   rw [Ol.bi,if_neg (by rw [this];exact h)];exact this
theorem Lk {m:Ol.Mc} {s:Ol.Sk} {own:Int} {ns:List Nd} (hs:s.cp<18446744073709551616):(Ol.bc m s own ns).2.1.cp<18446744073709551616:=by
 unfold Ol.bc;dsimp only
 split
 ·exact Nat.zero_lt_succ _
 ·split
  ·exact Nat.zero_lt_succ _
  ·rename_i ht
   split
   ·exact Nat.zero_lt_succ _
   ·exact Ol.wA (Ol.wm (Qt λh=>ht h)).2 hs
theorem Ll (m:Ol.Mc) (s:Ol.Sk) (cs:List Ct) (hs:s.cp<18446744073709551616):∀ k,(Ol.bi m s cs k).2.2.cp<18446744073709551616:=by
 intro k
 induction k with
 | zero=>exact hs
 | succ k ih=>
  rw [Ol.bi]
  split
  ·unfold Ol.jA
   split
   ·exact Ost.gX _ ih
   ·exact ih
  ·exact ih
theorem Lm {m:Ol.Mc} {s:Ol.Sk} {cs:List Ct} {k:Nat} {gs:List Gv} {sk:Ol.Sk} (h:Ol.bi m s cs k=(0,gs,sk)):Ol.bi m s cs (k+1)=if (Ol.bc m sk (aA cs (ct cs k).am) (ct cs k).ds).1=0 then (0,gs++[(Ol.bc m sk (aA cs (ct cs k).am) (ct cs k).ds).2.1],⟨dif sk.cp (Ol.bc m sk (aA cs (ct cs k).am) (ct cs k).ds).2.1.cp,sk.ds,(Ol.bc m sk (aA cs (ct cs k).am) (ct cs k).ds).2.2⟩) else ((Ol.bc m sk (aA cs (ct cs k).am) (ct cs k).ds).1,[],⟨sk.cp,sk.ds,(Ol.bc m sk (aA cs (ct cs k).am) (ct cs k).ds).2.2⟩):=by
 rw [Ol.bi,h];rfl
theorem ba.le {W W':World} {tb b o c:Nat} {l:List Ost.Cpu} (h:ba W tb b o c l) (k:aq W W'):ba W' tb b o c l:=
 ⟨k.cell _ _ _ h.cell,λj hj=>⟨k.cell _ _ _ (h.cells j hj).1,k.cell _ _ _ (h.cells j hj).2.1,k.cell _ _ _ (h.cells j hj).2.2⟩,Q1 h.lt k.size,h.len⟩
theorem cK.le {W W':World} {tb b o c:Nat} {m:Ol.Mc} (h:cK W tb b o c m) (k:aq W W'):cK W' tb b o c m:=⟨h.topo.le k,h.good,h.op,h.nd,h.pol⟩
theorem Ln {pb:Nat} {w W:World} (h:Apart (λj=>j=pb) w W):aq (ag (λj=>j=pb) w) (ag (λj=>j=pb) W):=k9 h (λ_ _ h=>h)
end
