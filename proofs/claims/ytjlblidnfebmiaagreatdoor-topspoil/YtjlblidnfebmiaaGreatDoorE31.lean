import Derived.Test.YtjlblidnfebmiaaGreatDoorE30
set_option maxRecDepth 100000
set_option maxHeartbeats 16000000
open Go Go.RowKit Go.Shelf
namespace Go.Proofs.YtjlblidnfebmiaaGreatDoor
variable {W W':World} {b c k o tb:Nat} {cs:List aA} {m:aF} {s:aB}
theorem S4 (m:aF) (cs:List aA) (k:Nat) (gs:List aP) (s:aB):(my m cs k gs s).2.2.ds=s.ds:=by
 unfold my;split <;> rfl
theorem S5 (m:aF) (s:aB) (cs:List aA):∀ k,(bZ m s cs k).2.2.ds=s.ds:=by
 intro k
 induction k with
 | zero=>rfl
 | succ k ih=>
  rw [bZ]
  split
  ·rw [S4];exact ih
  ·exact ih
theorem S6 (h:(bZ m s cs k).1≠0):∀ j,k<=j->(bZ m s cs j).1=(bZ m s cs k).1:=by
 intro j a
 induction j with
 | zero=>rw [show k=0 by omega]
 | succ j ih=>
  by_cases e:k=j+1
  ·rw [e]
  ·have:=ih (by omega)
   rw [bZ,if_neg (by rw [this];exact h)];exact this
theorem S7 {own:Int} {ns:List ai} (hs:s.cp<18446744073709551616):(bJ m s own ns).2.1.cp<18446744073709551616:=by grind [bJ,BG,Bu]
theorem S8 (m:aF) (s:aB) (cs:List aA) (hs:s.cp<18446744073709551616):∀ k,(bZ m s cs k).2.2.cp<18446744073709551616:=by
 intro k
 induction k with
 | zero=>exact hs
 | succ k ih=>
  rw [bZ]
  split
  ·unfold my
   split
   ·exact kh _ ih
   ·exact ih
  ·exact ih
theorem S9 {gs:List aP} {a:aB} (h:bZ m s cs k=(0,gs,a)):bZ m s cs (k+1)=if (bJ m a (bL cs (ae cs k).am) (ae cs k).ds).1=0 then (0,gs++[(bJ m a (bL cs (ae cs k).am) (ae cs k).ds).2.1],⟨aD a.cp (bJ m a (bL cs (ae cs k).am) (ae cs k).ds).2.1.cp,a.ds,(bJ m a (bL cs (ae cs k).am) (ae cs k).ds).2.2⟩) else ((bJ m a (bL cs (ae cs k).am) (ae cs k).ds).1,[],⟨a.cp,a.ds,(bJ m a (bL cs (ae cs k).am) (ae cs k).ds).2.2⟩):=by
 rw [bZ,h];rfl
theorem bD.le {l:List ag} (h:bD W tb b o c l) (k:aM W W'):bD W' tb b o c l:=
 ⟨k.cell _ _ _ h.cell,λj a=>⟨k.cell _ _ _ (h.cells j a).1,k.cell _ _ _ (h.cells j a).2.1,k.cell _ _ _ (h.cells j a).2.2⟩,Q1 h.lt k.size,h.len⟩
theorem dU.le (h:dU W tb b o c m) (k:aM W W'):dU W' tb b o c m:=⟨h.topo.le k,h.good,h.op,h.nd,h.pol⟩
theorem Ta {a:Nat} {w:World} (h:Apart (λj=>j=a) w W):aM (av (λj=>j=a) w) (av (λj=>j=a) W):=nI h (λ_ _ h=>h)
