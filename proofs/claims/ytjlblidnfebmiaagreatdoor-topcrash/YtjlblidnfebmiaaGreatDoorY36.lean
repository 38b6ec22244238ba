import Derived.Test.YtjlblidnfebmiaaGreatDoorY35
set_option maxRecDepth 100000
set_option maxHeartbeats 16000000
open Go Go.RowKit Go.Shelf
namespace Go.Proofs.YtjlblidnfebmiaaGreatDoor
variable{W W':World}{b c k o tb:Nat}{cs:List aF}{m:aJ}{s:aC}
theorem Xk(m:aJ)(cs:List aF)(k:Nat)(gs:List aX)(s:aC):(lN m cs k gs s).2.2.ds=s.ds:=by
 grind[lN]
theorem Xl(m:aJ)(s:aC)(cs:List aF):∀k,(bU m s cs k).2.2.ds=s.ds:=by
 intro k
 induction k with
 | zero=>rfl
 | succ k ih=>
  rw[bU]
  split
  ·rw[Xk];exact ih
  ·exact ih
theorem Xm(h:(bU m s cs k).1≠0):∀j,k<=j->(bU m s cs j).1=(bU m s cs k).1:=by
 intro j a
 induction j with
 | zero=>rw[show k=0 by omega]
 | succ j ih=>
  by_cases e:k=j+1
  ·rw[e]
  ·grind[bU]
theorem Xn{own:Int}{ns:List ak}(hs:s.cp<18446744073709551616):(bM m s own ns).2.1.cp<18446744073709551616:=by grind[bM,FC,Fq]
theorem Xo(m:aJ)(s:aC)(cs:List aF)(hs:s.cp<18446744073709551616):∀k,(bU m s cs k).2.2.cp<18446744073709551616:=by
 intro k
 induction k with
 | zero=>exact hs
 | succ k ih=>
  rw[bU]
  split
  ·grind[lN,lK]
  ·exact ih
theorem Xp{gs:List aX}{a:aC}(h:bU m s cs k=(0,gs,a)):bU m s cs (k+1)=if (bM m a (bR cs (af cs k).am) (af cs k).ds).1=0 then (0,gs++[(bM m a (bR cs (af cs k).am) (af cs k).ds).2.1],⟨aI a.cp (bM m a (bR cs (af cs k).am) (af cs k).ds).2.1.cp,a.ds,(bM m a (bR cs (af cs k).am) (af cs k).ds).2.2⟩) else ((bM m a (bR cs (af cs k).am) (af cs k).ds).1,[],⟨a.cp,a.ds,(bM m a (bR cs (af cs k).am) (af cs k).ds).2.2⟩):=by
 rw[bU,h];rfl
theorem bP.le{l:List ap}(h:bP W tb b o c l)(k:aR W W'):bP W' tb b o c l:=
 ⟨k.cell _ _ _ h.cell,λj a=>⟨k.cell _ _ _ (h.cells j a).1,k.cell _ _ _ (h.cells j a).2.1,k.cell _ _ _ (h.cells j a).2.2⟩,Q1 h.lt k.size,h.len⟩
theorem ey.le(h:ey W tb b o c m)(k:aR W W'):ey W' tb b o c m:=⟨h.topo.le k,h.good,h.op,h.nd,h.pol⟩
theorem Xq{a:Nat}{w:World}(h:Apart (λj=>j=a) w W):aR (av (λj=>j=a) w) (av (λj=>j=a) W):=po h (λ_ _ h=>h)
