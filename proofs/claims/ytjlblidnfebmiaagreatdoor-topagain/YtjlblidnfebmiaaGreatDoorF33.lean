import Derived.Test.YtjlblidnfebmiaaGreatDoorF32
set_option maxRecDepth 100000
set_option maxHeartbeats 16000000
open Go Go.RowKit Go.Shelf
namespace Go.Proofs.YtjlblidnfebmiaaGreatDoor
variable{W W':World}{b c k o tb:Nat}{cs:List aB}{m:aL}{s:aE}
theorem UE(m:aL)(cs:List aB)(k:Nat)(gs:List aR)(s:aE):(mJ m cs k gs s).2.2.ds=s.ds:=by
 unfold mJ;split <;> rfl
theorem UF(m:aL)(s:aE)(cs:List aB):∀k,(b8 m s cs k).2.2.ds=s.ds:=by
 intro k
 induction k with
 | zero=>rfl
 | succ k ih=>
  rw[b8]
  split
  ·rw[UE];exact ih
  ·exact ih
theorem UG(h:(b8 m s cs k).1≠0):∀j,k<=j->(b8 m s cs j).1=(b8 m s cs k).1:=by
 intro j a
 induction j with
 | zero=>rw[show k=0 by omega]
 | succ j ih=>
  by_cases e:k=j+1
  ·rw[e]
  ·have:=ih (by omega)
   rw[b8,if_neg (by rw[this];exact h)];exact this
theorem UH{own:Int}{ns:List ap}(hs:s.cp<18446744073709551616):(bO m s own ns).2.1.cp<18446744073709551616:=by grind[bO,Cc,BZ]
theorem UI(m:aL)(s:aE)(cs:List aB)(hs:s.cp<18446744073709551616):∀k,(b8 m s cs k).2.2.cp<18446744073709551616:=by
 intro k
 induction k with
 | zero=>exact hs
 | succ k ih=>
  rw[b8]
  split
  ·unfold mJ
   split
   ·exact mw _ ih
   ·exact ih
  ·exact ih
theorem UJ{gs:List aR}{a:aE}(h:b8 m s cs k=(0,gs,a)):b8 m s cs (k+1)=if (bO m a (cI cs (ae cs k).am) (ae cs k).ds).1=0 then (0,gs++[(bO m a (cI cs (ae cs k).am) (ae cs k).ds).2.1],⟨aG a.cp (bO m a (cI cs (ae cs k).am) (ae cs k).ds).2.1.cp,a.ds,(bO m a (cI cs (ae cs k).am) (ae cs k).ds).2.2⟩) else ((bO m a (cI cs (ae cs k).am) (ae cs k).ds).1,[],⟨a.cp,a.ds,(bO m a (cI cs (ae cs k).am) (ae cs k).ds).2.2⟩):=by
 rw[b8,h];rfl
theorem bG.le{l:List ah}(h:bG W tb b o c l)(k:aZ W W'):bG W' tb b o c l:=
 ⟨k.cell _ _ _ h.cell,λj a=>⟨k.cell _ _ _ (h.cells j a).1,k.cell _ _ _ (h.cells j a).2.1,k.cell _ _ _ (h.cells j a).2.2⟩,Q1 h.lt k.size,h.len⟩
theorem dZ.le(h:dZ W tb b o c m)(k:aZ W W'):dZ W' tb b o c m:=⟨h.topo.le k,h.good,h.op,h.nd,h.pol⟩
theorem UK{a:Nat}{w:World}(h:Apart (λj=>j=a) w W):aZ (au (λj=>j=a) w) (au (λj=>j=a) W):=nV h (λ_ _ h=>h)
