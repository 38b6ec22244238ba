import Derived.Test.YtbmmnflgnmjboaaGreatDoorR9
import Derived.Lib.ItoaMem
import Derived.Laws.ResultCell
import Derived.Laws.OwnMore
set_option maxRecDepth 100000
set_option maxHeartbeats 16000000
open Go.Proofs.Tryz
namespace Go.Proofs.YtbmmnflgnmjboaaGreatDoor
section
namespace Sv
open Qos (Nd Ct Pd nd ct pd af leS)
open Dvs (first aX)
structure Gv where
 cp:Nat
 dv:List Int
def gv0:Gv:=⟨0,[]⟩
instance:Inhabited Gv:=⟨gv0⟩
def gv (l:List Gv) (k:Nat):Gv:=l.getD k gv0
structure Hd where
 pod:Pd
 gs:List Gv
def hd0:Hd:=⟨Qos.pd0,[]⟩
instance:Inhabited Hd:=⟨hd0⟩
def hd (l:List Hd) (k:Nat):Hd:=l.getD k hd0
def dec (n:Int):List UInt8:=Lib.decDigits n.toNat
def ei (l:List UInt8):List UInt8:=if l=[] then [45] else l
def e8 (d:Nd):List UInt8:=d.kind.data.toList++[58]++dec d.many
def gI (ds:List Nd):List UInt8:=ei (Lib.join (ds.map e8) [44])
def gZ (dv:List Int):List UInt8:=ei (Lib.join (dv.map dec) [44])
def mo (A:Nat):List UInt8:=ei (Ost.txt A)
def dQ (c:Ct):List (List UInt8):=[[99,111,110,116],c.nm.data.toList,dec c.am,dec c.ab,dec c.cm,dec c.cb,gI c.ds]
def df (g:Gv):List (List UInt8):=[mo g.cp,gZ g.dv]
def fB (p:Pd):List (List UInt8):=[[112,111,100],p.nm.data.toList,dec p.pr]
def fC (ws:List (List UInt8)):List UInt8:=Lib.join ws [32]++[10]
def g6 (c:Ct) (g:Gv):List UInt8:=fC (dQ c++df g)
def fV (p:Pd):List UInt8:=fC (fB p)
def dR (h:Hd):Nat->List UInt8
 | 0=>[]
 | k+1=>dR h k++g6 (ct h.pod.cs k) (gv h.gs k)
def fg (h:Hd):List UInt8:=fV h.pod++dR h h.pod.cs.length
def eD (hs:List Hd):Nat->List UInt8
 | 0=>[]
 | k+1=>eD hs k++fg (hd hs k)
def body (hs:List Hd):List UInt8:=eD hs hs.length
def cV (b:List UInt8):List UInt8:=[115,117,109,32]++Lib.decDigits (fnv b)++[10]
def aF (hs:List Hd):List UInt8:=body hs++cV (body hs)
def eE (dv:List Int) (j:Nat):Nat:=if dv.getD j 0<0\/15<dv.getD j 0\/(0<j/\dv.getD j 0<=dv.getD (j - 1) 0) then 3 else 0
def ce (dv:List Int):Nat:=if 16<dv.length then 2 else first (eE dv) dv.length
def gsF (gs:List Gv):Nat:=first (λk=>ce (gv gs k).dv) gs.length
def dE (h:Hd) (lowB:Bool):Nat:=
 if af h.pod≠0 then af h.pod else if lowB=true\/h.gs.length≠h.pod.cs.length then 3 else gsF h.gs
def jx (hs:List Hd) (i:Nat):Bool:=decide (0<i) && leS (hd hs i).pod.nm (hd hs (i - 1)).pod.nm
def g7 (hs:List Hd) (i:Nat):Nat:=dE (hd hs i) (jx hs i)
def aB (hs:List Hd):Nat:=if 12<hs.length then 2 else first (g7 hs) hs.length
def OkG (g:Gv):Prop:=g.cp<18446744073709551616/\g.dv.length<=16/\∀ x∈g.dv,0<=x/\x<=15
def OkN (d:Nd):Prop:=aX d.kind=true/\1<=d.many/\d.many<=16
def OkC (c:Ct):Prop:=aX c.nm=true/\(0<=c.am/\c.am<=1000000)/\(0<=c.ab/\c.ab<=1125899906842624)/\(0<=c.cm/\c.cm<=1000000)/\(0<=c.cb/\c.cb<=1125899906842624)/\c.ds.length<=3/\∀ d∈c.ds,OkN d
def OkP (p:Pd):Prop:=aX p.nm=true/\(0<=p.pr/\p.pr<=1000)/\p.cs.length<=3/\∀ c∈p.cs,OkC c
def OkH (h:Hd):Prop:=OkP h.pod/\h.gs.length=h.pod.cs.length/\∀ g∈h.gs,OkG g
def OkL (hs:List Hd):Prop:=hs.length<=12/\∀ h∈hs,OkH h
theorem vD {ds:List Nd} {d:Nd} (h:d∈ds):∃ k,k<ds.length/\nd ds k=d:=by
 obtain ⟨k,hk,rfl⟩:=List.getElem_of_mem h;exact ⟨k,hk,by simp [nd,hk]⟩
theorem vE {ds:List Ct} {d:Ct} (h:d∈ds):∃ k,k<ds.length/\ct ds k=d:=by
 obtain ⟨k,hk,rfl⟩:=List.getElem_of_mem h;exact ⟨k,hk,by simp [ct,hk]⟩
theorem ox {ds:List Gv} {d:Gv} (h:d∈ds):∃ k,k<ds.length/\gv ds k=d:=by
 obtain ⟨k,hk,rfl⟩:=List.getElem_of_mem h;exact ⟨k,hk,by simp [gv,hk]⟩
theorem oy {ds:List Hd} {d:Hd} (h:d∈ds):∃ k,k<ds.length/\hd ds k=d:=by
 obtain ⟨k,hk,rfl⟩:=List.getElem_of_mem h;exact ⟨k,hk,by simp [hd,hk]⟩
theorem EL {ds:List Int} {d:Int} (h:d∈ds):∃ k,k<ds.length/\ds.getD k 0=d:=by
 obtain ⟨k,hk,rfl⟩:=List.getElem_of_mem h;exact ⟨k,hk,by simp [hk]⟩
theorem jy {ds:List Ct} {k:Nat} (h:k<ds.length):ct ds k∈ds:=by simp [ct,h]
theorem oz {ds:List Gv} {k:Nat} (h:k<ds.length):gv ds k∈ds:=by simp [gv,h]
theorem kb {ds:List Hd} {k:Nat} (h:k<ds.length):hd ds k∈ds:=by simp [hd,h]
theorem EM {ds:List Nd} (h:first (Qos.ee ds) ds.length=0):∀ d∈ds,OkN d:=by
 intro d hd;obtain ⟨k,hk,rfl⟩:=vD hd
 have:=Dvs.cR h k hk
 unfold Qos.ee at this
 split at this
 ·cases this
 ·rename_i h1
  split at this
  ·cases this
  ·rename_i h2
   rw [not_or] at h1 h2;exact ⟨by simpa using h1.1,by omega,by omega⟩
theorem EN {cs:List Ct} {k:Nat} (h:Qos.bX cs k=0):OkC (ct cs k):=by
 have h1:=Qos.vj h;unfold Qos.bX at h
 split at h
 ·cases h
 rename_i hn
 split at h
 ·cases h
 split at h
 ·cases h
 split at h
 ·cases h
 split at h
 ·cases h
 rename_i h3
 have a:=Qos.oq h1.1;have b:=Qos.oq h1.2.1;exact ⟨by simpa using hn,a.1,a.2,b.1,b.2,by omega,EM h⟩
theorem fD {p:Pd} (h:af p=0):OkP p:=by
 obtain ⟨h1,h2,h3,h4⟩:=Qos.mh h;refine ⟨h1,h2,h3.2,λc hc=>?_⟩;obtain ⟨k,hk,rfl⟩:=vE hc;exact EN (Dvs.cR h4 k hk)
theorem vF {dv:List Int} (h:ce dv=0):dv.length<=16/\∀ x∈dv,0<=x/\x<=15:=by
 unfold ce at h
 split at h
 ·cases h
 refine ⟨by omega,λx hx=>?_⟩;obtain ⟨k,hk,rfl⟩:=EL hx
 have:=Dvs.cR h k hk
 unfold eE at this
 split at this
 ·cases this
 ·omega
theorem EO {h:Hd} {b:Bool} (e:dE h b=0) (hc:∀ g∈h.gs,g.cp<18446744073709551616):OkH h:=by
 unfold dE at e
 split at e
 ·exact absurd e (by assumption)
 rename_i h1
 split at e
 ·cases e
 rename_i h2
 rw [not_or] at h2;refine ⟨fD (by omega),by omega,λg hg=>?_⟩;obtain ⟨k,hk,rfl⟩:=ox hg;exact ⟨hc _ hg,vF (Dvs.cR e k hk)⟩
theorem qK {hs:List Hd} (e:aB hs=0) (hc:∀ h∈hs,∀ g∈h.gs,g.cp<18446744073709551616):OkL hs:=by
 unfold aB at e
 split at e
 ·cases e
 refine ⟨by omega,λh hh=>?_⟩;obtain ⟨k,hk,rfl⟩:=oy hh;exact EO (Dvs.cR e k hk) (hc _ hh)
theorem g9 {s:ByteArray} (h:aX s=true):0<s.data.toList.length/\s.data.toList.length<=8:=by
 have e:s.data.toList.length=s.size:=by simp
 rw [e];simp only [aX,Bool.and_eq_true,Qp] at h;exact ⟨h.1.1,h.1.2⟩
theorem qL (n:Nat) (h:n<18446744073709551616):(Lib.decDigits n).length<=20:=by rw [Lib.decDigits_length];exact Lib.nDigits_le20 _ h
theorem iK (n:Int) (h:n<=1125899906842624):(dec n).length<=20:=qL _ (by omega)
theorem kc (c:UInt8) (m:Nat):∀ (xs:List (List UInt8)),(∀ x∈xs,x.length<=m)->(Lib.join xs [c]).length<=xs.length*(m+1):=by
 intro xs h;have key:∀ r:List (List UInt8),(∀ x∈r,x.length<=m)->Lib.lens r<=r.length*m:=by
  intro r
  induction r with
  | nil=>intro _;simp [Lib.lens]
  | cons x r ih=>
   intro h;have h1:=ih λy hy=>h y (by simp [hy])
   have h2:=h x (by simp);simp only [Lib.lens,Qq,List.sum_cons,Qg,Nat.add_mul,Nat.one_mul] at h1 ⊢;omega
 cases xs with
 | nil=>simp [Lib.join_nil]
 | cons x r=>
  rw [Lib.join_length];have h1:=key _ h;simp only [Qg,List.length_nil,Nat.mul_add,Nat.add_mul,Nat.one_mul,Nat.mul_one,Qd] at h1 ⊢;omega
theorem qM {l:List UInt8} {m:Nat} (h:l.length<=m):(ei l).length<=m+1:=by
 unfold ei;split
 ·simp
 ·omega
theorem vG {d:Nd} (h:OkN d):(e8 d).length<=29:=by
 have h1:=g9 h.1;have h2:=iK d.many (by have:=h.2.2;omega);simp only [e8,Q2,Qg,List.length_nil];omega
theorem EP {ds:List Nd} (h:∀ d∈ds,OkN d) (hl:ds.length<=3):(gI ds).length<=91:=by
 refine qM (Q5 (kc 44 29 _ λx hx=>?_) ?_)
 ·obtain ⟨d,hd,rfl⟩:=Qk.1 hx;exact vG (h d hd)
 ·rw [Q9];omega
theorem EQ {dv:List Int} (h:∀ x∈dv,0<=x/\x<=15) (hl:dv.length<=16):(gZ dv).length<=337:=by
 refine qM (Q5 (kc 44 20 _ λx hx=>?_) ?_)
 ·obtain ⟨d,hd,rfl⟩:=Qk.1 hx;exact iK d (by have:=h d hd;omega)
 ·rw [Q9];omega
theorem ER (A:Nat):(mo A).length<=301:=qM (Ost.sY A)
theorem vI {c:Ct} (h:OkC c):∀ x∈dQ c,x.length<=100:=by
 obtain ⟨h1,h2,h3,h4,h5,h6,h7⟩:=h;have a:=g9 h1;have b1:=iK c.am (by omega);have b2:=iK c.ab (by omega);have b3:=iK c.cm (by omega);have b4:=iK c.cb (by omega);have b5:=EP h7 h6;intro x hx;simp only [dQ,List.mem_cons,List.not_mem_nil,or_false] at hx
 rcases hx with rfl|rfl|rfl|rfl|rfl|rfl|rfl <;> first|omega|simp
theorem vJ {g:Gv} (h:OkG g):∀ x∈df g,x.length<=400:=by
 have a:=ER g.cp;have b:=EQ h.2.2 h.2.1;intro x hx;simp only [df,List.mem_cons,List.not_mem_nil,or_false] at hx
 rcases hx with rfl|rfl <;> omega
theorem vK {p:Pd} (h:OkP p):∀ x∈fB p,x.length<=100:=by
 have a:=g9 h.1;have b:=iK p.pr (by have:=h.2.1;omega);intro x hx;simp only [fB,List.mem_cons,List.not_mem_nil,or_false] at hx
 rcases hx with rfl|rfl|rfl <;> first|omega|simp
theorem vL {c:Ct} {g:Gv} (hc:OkC c) (hg:OkG g):(g6 c g).length<=4000:=by
 have:=kc 32 400 (dQ c++df g) λx hx=>by
  rcases Qi.1 hx with h|h
  ·have:=vI hc x h;omega
  ·exact vJ hg x h
 simp only [g6,fC,Q2,Qg,List.length_nil] at this ⊢;simp only [dQ,df,Qg,List.length_nil] at this;simp only [dQ,df];omega
theorem qN {p:Pd} (h:OkP p):(fV p).length<=400:=by
 have:=kc 32 100 (fB p) (vK h)
 simp only [fV,fC,Q2,Qg,List.length_nil];simp only [fB,Qg,List.length_nil] at this ⊢;omega
theorem vM {h:Hd} (e:OkH h) {k:Nat} (hk:k<h.pod.cs.length):OkC (ct h.pod.cs k)/\OkG (gv h.gs k):=
 ⟨e.1.2.2.2 _ (jy hk),e.2.2 _ (oz (by rw [e.2.1];exact hk))⟩
theorem qO {h:Hd} (e:OkH h):∀ k,k<=h.pod.cs.length->(dR h k).length<=k*4000:=by
 intro k
 induction k with
 | zero=>intro _;simp [dR]
 | succ k ih=>
  intro hk;have h1:=ih (by omega);obtain ⟨h2,h3⟩:=vM e (k:=k) (by omega)
  have:=vL h2 h3
  rw [dR,Q2];omega
theorem vO {h:Hd} (e:OkH h):(fg h).length<=13000:=by
 have h1:=qO e _ (lR);have h2:=qN e.1;have h3:=e.1.2.2.1;rw [fg,Q2];omega
theorem vP {hs:List Hd} (e:OkL hs):∀ k,k<=hs.length->(eD hs k).length<=k*13000:=by
 intro k
 induction k with
 | zero=>intro _;simp [eD]
 | succ k ih=>
  intro hk;have h1:=ih (by omega);have h2:=vO (e.2 _ (kb (k:=k) (by omega)));rw [eD,Q2];omega
theorem ES {hs:List Hd} (e:OkL hs):(body hs).length<=156000:=by
 have:=vP e _ (lR)
 have h2:=e.1;unfold body;omega
theorem mr (b:List UInt8):(cV b).length<=25:=by
 have:=qL (fnv b) (Q1 (pz b) (by omega))
 simp only [cV,Q2,Qg,List.length_nil];omega
end Sv
end
section
open Go.ChangeShapes Go.WideShapes Go.ChangeAt Go.RowKit
open Qos (Nd Ct Pd nd0 ct0 pd0 nd ct pd)
open Sv (Gv Hd gv hd)
def bt (w:World) (v:Value) (xs:List Int):Prop:=
 ∃ ao c,v=.slice ao xs.length c/\(xs.length<=c/\c<=maxLen)/\(0<xs.length->∃ b o,ao=some ⟨b,o,none⟩/\b<w.heap.size/\∀ k,k<xs.length->w.cell? ⟨b,o+k,none⟩=some (.int .i64 (xs.getD k 0)))
def kX (w:World) (b o:Nat) (gs:List Gv) (dv:Nat->Value):Prop:=
 b<w.heap.size/\∀ k,k<gs.length->(w.cell? ⟨b,o+k*2,none⟩=some (.int .u64 (gv gs k).cp)/\w.cell? ⟨b,o+k*2+1,none⟩=some (dv k)/\(gv gs k).cp<18446744073709551616)/\bt w (dv k) (gv gs k).dv
def bz (w:World) (v:Value) (gs:List Gv):Prop:=
 ∃ ao c,v=.slice ao gs.length c/\(gs.length<=c/\c<=maxLen)/\(0<gs.length->∃ b o dv,ao=some ⟨b,o,none⟩/\kX w b o gs dv)
def qP (h:Hd) (cv gvv:Value):Value:=.agg #[.string h.pod.nm,.int .i64 h.pod.pr,cv,gvv]
def jz (w:World) (b o:Nat) (hs:List Hd) (cv gvv:Nat->Value):Prop:=
 b<w.heap.size/\∀ k,k<hs.length->(w.cell? ⟨b,o+k*4,none⟩=some (.string (hd hs k).pod.nm)/\w.cell? ⟨b,o+k*4+1,none⟩=some (.int .i64 (hd hs k).pod.pr)/\w.cell? ⟨b,o+k*4+2,none⟩=some (cv k)/\w.cell? ⟨b,o+k*4+3,none⟩=some (gvv k))/\aE w (cv k) (hd hs k).pod.cs/\bz w (gvv k) (hd hs k).gs
def aJ (w:World) (v:Value) (hs:List Hd):Prop:=
 ∃ ao c,v=.slice ao hs.length c/\(hs.length<=c/\c<=maxLen)/\(0<hs.length->∃ b o cv gvv,ao=some ⟨b,o,none⟩/\jz w b o hs cv gvv)
theorem bt.below {w w':World} {v:Value} {xs:List Int} (h:bt w v xs) (hb:Below w.heap.size w w'):bt w' v xs:=by
 obtain ⟨ao,c,hv,hm,hr⟩:=h;refine ⟨ao,c,hv,hm,λh0=>?_⟩;obtain ⟨b,o,ha,hlt,hc⟩:=hr h0;exact ⟨b,o,ha,Q1 hlt hb.size,λk hk=>(hb.cell (p:=⟨b,o+k,none⟩) hlt).trans (hc k hk)⟩
theorem kX.below {w w':World} {b o:Nat} {gs:List Gv} {dv:Nat->Value} (h:kX w b o gs dv) (hb:Below w.heap.size w w'):kX w' b o gs dv:=
 ⟨Q1 h.1 hb.size,λk hk=>by
  obtain ⟨⟨h1,h2,h3⟩,h4⟩:=h.2 k hk;exact ⟨⟨(hb.cell (p:=⟨b,o+k*2,none⟩) h.1).trans h1,(hb.cell (p:=⟨b,o+k*2+1,none⟩) h.1).trans h2,h3⟩,h4.below hb⟩⟩
theorem bz.below {w w':World} {v:Value} {gs:List Gv} (h:bz w v gs) (hb:Below w.heap.size w w'):bz w' v gs:=by
 obtain ⟨ao,c,hv,hm,hr⟩:=h;refine ⟨ao,c,hv,hm,λh0=>?_⟩;obtain ⟨b,o,dv,ha,hc⟩:=hr h0;exact ⟨b,o,dv,ha,hc.below hb⟩
theorem jz.below {w w':World} {b o:Nat} {hs:List Hd} {cv gvv:Nat->Value} (h:jz w b o hs cv gvv) (hb:Below w.heap.size w w'):jz w' b o hs cv gvv:=
 ⟨Q1 h.1 hb.size,λk hk=>by
  obtain ⟨⟨h1,h2,h3,h4⟩,h5,h6⟩:=h.2 k hk;exact ⟨⟨(hb.cell (p:=⟨b,o+k*4,none⟩) h.1).trans h1,(hb.cell (p:=⟨b,o+k*4+1,none⟩) h.1).trans h2,(hb.cell (p:=⟨b,o+k*4+2,none⟩) h.1).trans h3,(hb.cell (p:=⟨b,o+k*4+3,none⟩) h.1).trans h4⟩,h5.below hb,h6.below hb⟩⟩
theorem aJ.below {w w':World} {v:Value} {hs:List Hd} (h:aJ w v hs) (hb:Below w.heap.size w w'):aJ w' v hs:=by
 obtain ⟨ao,c,hv,hm,hr⟩:=h;refine ⟨ao,c,hv,hm,λh0=>?_⟩;obtain ⟨b,o,cv,gvv,ha,hc⟩:=hr h0;exact ⟨b,o,cv,gvv,ha,hc.below hb⟩
theorem aJ.cps {w:World} {v:Value} {hs:List Hd} (h:aJ w v hs):∀ x∈hs,∀ g∈x.gs,g.cp<18446744073709551616:=by
 intro x hx g hg;obtain ⟨k,hk,rfl⟩:=Sv.oy hx;obtain ⟨ao,c,_,_,hr⟩:=h;obtain ⟨b,o,cv,gvv,_,hc⟩:=hr (by omega);obtain ⟨_,_,h6⟩:=hc.2 k hk;obtain ⟨j,hj,rfl⟩:=Sv.ox hg;obtain ⟨ao,c,_,_,hr⟩:=h6;obtain ⟨b,o,dv,_,hc⟩:=hr (by omega);exact (hc.2 j hj).1.2.2
section
variable {H:Type} {enc:TypeId × Value->H} {W:World}
end
end
section
open RowKit Go.Sort
open S1 (Tab below_grow)
theorem holds_zero0 (w:World) (T:TypeId) (n:Nat) (hs:n<=24):Holds (λ(b:UInt8)=>Value.int .u8 (b.toNat:Int)) (w.alloc (.cells Lib.zeros24 T)) w.heap.size 0 (Array.replicate n (0:UInt8)):=λj hj=>by
 have Ha:j<n:=by simpa using hj
 refine ⟨?_,World.frozen?_alloc_new _ _ _ _⟩;rw [World.cell?_alloc_new,Lib.zeros24_at _ (by omega),getElem!_pos _ j hj]
 simp
theorem ET (w:World) (o:Obj) (dk:Array UInt8) (k:Nat):∃ os,(putRow (λ(b:UInt8)=>Value.int .u8 (b.toNat:Int)) (w.alloc o) w.heap.size 0 dk).drewN k=grow (w.drewN k) os:=by
 rw [alloc_eq_grow];obtain ⟨os',_,e⟩:=putRow_grow_new (λ(b:UInt8)=>Value.int .u8 (b.toNat:Int)) w #[o] w.heap.size 0 dk (lR);exact ⟨os',by rw [e];rfl⟩
theorem EU (u:Nat) (w:World) (hu64:u<18446744073709551616) (htab:Tab w) :
  Calls prog 225 #[.int .u64 u,.int .i64 10] w λe w'=>e=.returned (.string ⟨(Lib.decDigits u).toArray⟩)/\Below w.heap.size w w':=by
 by_cases hs:u<100
 ·have hd:decide ((u:Int)<100)=true:=Qc (by omega)
  go_enter func225,ntmps225
  go_wp2_with fail
  refine (Tryz.internal_strconv_small u hs _).mono ?_;rintro e w' ⟨rfl,rfl⟩
  go_wp2
  go_ret;exact ⟨rfl,Q0 _ _⟩
 ·have He:1<=u:=by omega
  have hd:decide ((u:Int)<100)=false:=Q7 (by omega);have Hc:Lib.nDigits u<=20:=by have:=Lib.numDigits_eq u He hu64;split at this <;> omega
  have Hh:∀ W,(Instr.sliceAt 358 (.pointer (some ⟨w.heap.size,0,none⟩)) none (some (.int .i64 (Lib.nDigits u:Int))) none).run prog W=.ok (.slice (some ⟨w.heap.size,0,none⟩) (Lib.nDigits u) 24) W:=λW=>by
   have Hf:prog.arrayLen 358=24:=by kernel_rfl
   rw [run_sliceAt_array_h W 358 ⟨w.heap.size,0,none⟩ (by kernel_rfl) .i64 (Lib.nDigits u:Int) (by omega) (by rw [Hf];omega)];go_simp
  have Hb:=holds_zero0 w 358 (Lib.nDigits u) (by omega);have Ha:=Tryz.internal_strconv_formatBase10 w.heap.size 0 24 u (Array.replicate (Lib.nDigits u) 0) (w.alloc (.cells Lib.zeros24 358)) Hb (by rw [Array.size_replicate];exact Lib.lt_pow_nDigits u) hu64 (by rw [Array.size_replicate];omega);rw [Array.size_replicate] at Ha;have Hj:=Lib.hid Hb;have Hi:=qI Ha;have Hg:=qI (Lib.tabIs_alloc htab (.cells Lib.zeros24 358));clear Hb Ha htab
  go_enter func225,ntmps225
  go_wp2_with fail
  refine (Tryz.internal_strconv_numDigits u He hu64 _ Hg.out).mono ?_;rintro e w' ⟨rfl,rfl⟩
  go_wp2_with fail
  refine Hi.out.mono ?_;rintro e w' ⟨rfl,k,v',dk,rfl,hF⟩;have Hk:(convert 235 9 (.slice (some ⟨w.heap.size,0,none⟩) (Lib.nDigits u) 24)).run prog ((putRow (λ(b:UInt8)=>Value.int .u8 (b.toNat:Int)) (w.alloc (.cells Lib.zeros24 358)) w.heap.size 0 dk).drewN k)=.ok (.string ⟨(Lib.decDigits u).toArray⟩) ((putRow (λ(b:UInt8)=>Value.int .u8 (b.toNat:Int)) (w.alloc (.cells Lib.zeros24 358)) w.heap.size 0 dk).drewN k):=by
   have h:=run_convert_bytes_back (P:=prog) ((putRow (λ(b:UInt8)=>Value.int .u8 (b.toNat:Int)) (w.alloc (.cells Lib.zeros24 358)) w.heap.size 0 dk).drewN k) 235 9 5 ⟨w.heap.size,0,none⟩ 24 (Lib.decDigits u) underlying235 underlying5 underlying9 (λj hj=>by
    rw [Lib.row_is_numeral hF j hj,Lib.add_plain,World.cell?_drewN];exact cell?_putRow (λ(b:UInt8)=>Value.int .u8 (b.toNat:Int)) _ w.heap.size 0 _ dk Hj.out (by rw [hF.size,Array.size_replicate]) j (by rw [hF.size];rw [Lib.decDigits_length] at hj;exact hj))
   rw [Lib.decDigits_length] at h;exact h
  go_wp2
  go_ret;obtain ⟨os,eo⟩:=ET w (.cells Lib.zeros24 358) dk k;exact ⟨rfl,by rw [eo];exact below_grow _ w (lR) k os⟩
theorem EV (u:Nat) (w:World) (hu64:u<18446744073709551616) (htab:Tab w) :
  Calls prog 178 #[.int .u64 u,.int .i64 10] w λe w'=>e=.returned (.string ⟨(Lib.decDigits u).toArray⟩)/\Below w.heap.size w w':=by
 have HT:=qI htab;clear htab
 go_enter func178,ntmps178
 go_wp2_with fail
 refine (EU u w hu64 HT.out).mono ?_;rintro e w1 ⟨rfl,hb⟩
 go_wp2
 go_ret;exact ⟨rfl,hb⟩
theorem kY (a b:List UInt8):(ByteArray.mk a.toArray)++(ByteArray.mk b.toArray)=ByteArray.mk (a++b).toArray:=by
 apply ByteArray.ext;simp
theorem EW (b:List UInt8) (w:World) (hb:b.length<=1000000) (htab:Tab w) :
  Calls prog 138 #[.string ⟨b.toArray⟩] w λe w'=>e=.returned (.string ⟨(Sv.cV b).toArray⟩)/\Below w.heap.size w w':=by
 have HT:=qI htab;clear htab;have HS:=qI (AG ⟨b.toArray⟩ w (by unfold maxLen;simp [ByteArray.size];omega));have Hb:Sv.fnv b<4294967296:=Sv.pz b;have hle:=Sv.qL (Sv.fnv b) (by omega);have HE:Hid (Sv.cV b=[115,117,109,32]++Lib.decDigits (Sv.fnv b)++[10]):=rfl;have e0:(ByteArray.mk b.toArray).data.toList=b:=by simp
 rw [e0] at HS;generalize Sv.fnv b=H at *;generalize Sv.cV b=S at *;have ea:=kY [115,117,109,32] (Lib.decDigits H);have eb:=kY ([115,117,109,32]++Lib.decDigits H) [10]
 go_enter func138,ntmps138
 go_wp2_with fail
 refine HS.out.mono ?_;rintro e w1 ⟨rfl,rfl⟩
 go_wp2_with fail
 refine (EV H _ (by omega) HT.out).mono ?_;rintro e w1 ⟨rfl,Ha⟩
 go_wp2
 go_ret;exact ⟨by rw [HE.out];exact congrArg (λx=>Ending.returned (Value.string x)) eb,Ha⟩
theorem qQ (l:List UInt8) (w:World):Calls prog 175 #[.string ⟨l.toArray⟩] w λe w'=>e=.returned (.string ⟨(Sv.ei l).toArray⟩)/\w'=w:=by
 have h0:((ByteArray.mk l.toArray).toList.isEmpty)=l.isEmpty:=by rw [Qs]
 by_cases h:l=[]
 ·subst h
  go_enter func175,ntmps175
  go_wp2
  go_ret;exact ⟨rfl,rfl⟩
 ·have h1:l.isEmpty=false:=by simpa using h
  rw [h1] at h0;have HE:Hid (Sv.ei l=l):=by unfold Hid Sv.ei;rw [if_neg h]
  rw [HE.out]
  go_enter func175,ntmps175
  go_wp2
  go_ret;exact ⟨rfl,rfl⟩
end
section
namespace Sv
open Qos (Nd Ct Pd nd ct pd af leS)
open Ost (dp dL lO good val iA je)
open Dvs (aX)
abbrev Tx:=List UInt8
def qR {α:Type} (f:Tx->Option α):List Tx->Option (List α)
 | []=>some []
 | x :: r=>match f x with
  | none=>none
  | some y=>(qR f r).map (y :: ·)
def vQ {α:Type} (f:Tx->Option α) (l:Tx):Option (List α):=if l=[45] then some [] else qR f (dL 44 l)
def EX (l:Tx):Option Nat:=if l=[45] then some 0 else if (lO l).2=0 then some (lO l).1 else none
def wd (ws:List Tx) (k:Nat):Tx:=ws.getD k []
def EY (num:Tx->Option Int) (need:Tx->Option Nd) (ws:List Tx):Option (Ct × Gv):=
 match num (wd ws 2),num (wd ws 3),num (wd ws 4),num (wd ws 5),vQ need (wd ws 6),EX (wd ws 7),vQ num (wd ws 8) with
 | some a,some b,some c,some d,some ds,some A,some dv=>some (⟨⟨(wd ws 1).toArray⟩,a,b,c,d,ds⟩,⟨A,dv⟩)
 | _,_,_,_,_,_,_=>none
def EZ (ws:List Tx):Bool:=decide (wd ws 0=[112,111,100]) && decide (ws.length=3)
def E4 (ws:List Tx):Bool:=decide (wd ws 0=[99,111,110,116]) && decide (ws.length=9)
def E5 (h:Hd) (c:Ct) (g:Gv):Hd:=⟨⟨h.pod.nm,h.pod.pr,h.pod.cs++[c]⟩,h.gs++[g]⟩
def E6 (hs:List Hd) (c:Ct) (g:Gv):List Hd:=hs.dropLast++[E5 (hd hs (hs.length - 1)) c g]
def E7 (ws:List Tx) (n:Int):Hd:=⟨⟨⟨(wd ws 1).toArray⟩,n,[]⟩,[]⟩
def step (num:Tx->Option Int) (need:Tx->Option Nd) (hs:List Hd) (ws:List Tx):Option (List Hd):=
 if EZ ws=true then (num (wd ws 2)).map λn=>hs++[E7 ws n]
 else if E4 ws=true/\0<hs.length then (EY num need ws).map λx=>E6 hs x.1 x.2
 else none
def steps (num:Tx->Option Int) (need:Tx->Option Nd) (hs:List Hd):List (List Tx)->Option (List Hd)
 | []=>some hs
 | ws :: r=>match step num need hs ws with
  | none=>none
  | some hs'=>steps num need hs' r
def E8 (t:Tx):List Tx:=if (dL 10 t).getLast?=some [] then (dL 10 t).dropLast else dL 10 t
def vR (l:Tx):Option Int:=if good 16 l=true then some (val l) else none
def E9 (l:Tx):Option Nd:=(vR (dp 58 l).2.1).map λn=>⟨⟨(dp 58 l).1.toArray⟩,n⟩
def mu (t:Tx):Option (List Hd):=steps vR E9 [] ((E8 t).map (dL 32))
structure Good (num:Tx->Option Int) (need:Tx->Option Nd):Prop where
 num:∀ n:Int,0<=n->n<=1125899906842624->num (dec n)=some n
 need:∀ d:Nd,OkN d->need (e8 d)=some d
def vS (h:Hd):Nat->List (List Tx)
 | 0=>[]
 | k+1=>vS h k++[dQ (ct h.pod.cs k)++df (gv h.gs k)]
def Fa (h:Hd):List (List Tx):=fB h.pod :: vS h h.pod.cs.length
def cS (hs:List Hd):Nat->List (List Tx)
 | 0=>[]
 | k+1=>cS hs k++Fa (hd hs k)
end Sv
end
section
open RowKit
open Qos (Nd Ct Pd nd ct pd)
open Sv (Gv Hd gv hd e8 gI gZ mo dQ df fC OkN OkC OkG)
open S1 (Tab strs jV jj kM iC lT)
theorem qS {w w':World} {base:Nat} {e:TypeId} {size:Nat} {v:Value} {n:Nat} {xs:List Value} (h:w.ownsRow base e size v n xs) (hb:Below w.heap.size w w'):w'.ownsRow base e size v n xs:=
 h.kept (row:=none) ⟨hb.os,hb.tape,hb.output,hb.size,λj hj _=>hb.block j hj⟩ (by cases hv:v.ownBlock <;> simp)
theorem qT (c:UInt8) (v:Value) (xs:List (List UInt8)) (w:World) (base:Nat) (h:w.ownsRow base 9 1 v xs.length (strs xs)) (hn:xs.length<=1000) (hl:(Lib.join xs [c]).length<=1000000) :
  Calls prog 220 #[v,.string ⟨#[c]⟩] w λe w'=>e=.returned (.string ⟨(Lib.join xs [c]).toArray⟩)/\Below w.heap.size w w':=by
 rcases kM h with ⟨rfl,h0⟩|⟨g,cap,rfl,hc,hg,Ha⟩
 ·have:xs=[]:=Qe h0
  subst this;refine (Tryz.strings_Join_none none 0 ⟨#[c]⟩ w).mono ?_;rintro e w' ⟨rfl,rfl⟩;exact ⟨rfl,Q0 _ _⟩
 ·have hx:(xs.map λ(b:List UInt8)=>ByteArray.mk b.toArray).map (·.data.toList)=xs:=by
   rw [List.map_map];exact List.map_id'' (λ_=>rfl) xs
  have:=Tryz.strings_Join g 0 cap (xs.map λ(b:List UInt8)=>ByteArray.mk b.toArray) ⟨#[c]⟩ w (λj x hj=>by
   rw [Qd];apply Ha;unfold strs;rw [List.getElem?_map] at hj ⊢;obtain ⟨a,ha,rfl⟩:=Option.map_eq_some_iff.1 hj;rw [ha];rfl) hg (by simp;omega) (by simpa using hc) (by rw [hx];show (Lib.join xs [c]).length<=_;omega)
  rw [hx] at this
  simpa using this
def fE (xs:List Int) (k:Nat):List (List UInt8):=(xs.take k).map Sv.dec
theorem Fb {xs:List Int} {k:Nat} (h:k<xs.length):fE xs (k+1)=fE xs k++[Sv.dec (xs.getD k 0)]:=by
 unfold fE;rw [Qa h,Qj];simp [h]
theorem qU {xs:List Int} {k:Nat} (h:k<=xs.length):(fE xs k).length=k:=by
 unfold fE;simp;omega
theorem vT (xs:List Int):fE xs xs.length=xs.map Sv.dec:=by unfold fE;rw [Qh]
theorem Fc (v:Value) (xs:List Int) (w:World) (h:bt w v xs) (hx:∀ x∈xs,0<=x/\x<=15) (hl:xs.length<=16) (htab:Tab w) (hG:0<w.heap.size) :
  Calls prog 177 #[v,.func (.func 173) #[] #[]] w λe w'=>e=.returned (.string ⟨(gZ xs).toArray⟩)/\Below w.heap.size w w':=by
 obtain ⟨i0,hi,Hm,Hi,Hk⟩:=info_parts iC;obtain ⟨ao,c,rfl,hm,hr⟩:=h;have HR:=qI hr;have HT:=qI htab;have HX:=qI hx;have HG:=qI hG;clear hr htab hx hG;unfold maxLen at hm;have HJ:Hid (∀ (v:Value) (w1:World),w1.ownsRow w.heap.size 9 1 v (fE xs xs.length).length (strs (fE xs xs.length))->Calls prog 220 #[v,.string ⟨#[44]⟩] w1 λe w'=>e=.returned (.string ⟨(Lib.join (fE xs xs.length) [44]).toArray⟩)/\Below w1.heap.size w1 w'):=by
  intro v w1 h;refine qT 44 v _ w1 _ h (by rw [qU (lR)];omega) ?_;refine Q5 (Sv.kc 44 20 _ λx hx=>?_) (by rw [qU (lR)];omega);rw [vT] at hx;obtain ⟨d,hd,rfl⟩:=Qk.1 hx;exact Sv.iK d (by have:=(HX.out d hd).2;omega)
 have HD:Hid (Sv.ei (Lib.join (fE xs xs.length) [44])=gZ xs):=by unfold Hid gZ;rw [vT]
 go_enter func177,ntmps177
 go_wp2
 go_loopw [5,10] (λr i wr=>∃ k:Nat,k<=xs.length/\i=.int .i64 k/\wr.ownsRow w.heap.size 9 1 r (fE xs k).length (strs (fE xs k))/\Below w.heap.size w wr) (λ_ i _=>xs.length - (intOf i).toNat)
 case atStart=>exact ⟨0,by omega,rfl,Qw _ _ _ _,Q0 _ _⟩
 case round=>
  obtain ⟨k,hk,rfl,Hc,hB⟩:=hrel
  by_cases hlt:k<xs.length
  ·obtain ⟨b,o,rfl,hb,hc⟩:=HR.out (by omega);have h1:=(hB.cell (p:=⟨b,o+k,none⟩) hb).trans (hc k hlt);have HS:=qI (Fb hlt);have hle:=qU hk;have Hn:=HX.out (xs.getD k 0) (by simp [hlt]);have Ho:=hB.size;clear hc;generalize xs.getD k 0=x at *;have HI:=qI (lT x wr Hn.1 (by omega) (HT.out.below hB HG.out))
   go_wp2_with fail
   refine HI.out.mono ?_;rintro e w1 ⟨rfl,Hf⟩;have Hg:=qI (hB.trans (Hf.mono hB.size));have Ha:=qS Hc Hf;have Hj:=Hf.size
   go_wp2_with (at_builtin;refine wpList_append_own _ rfl _ _ 78 rfl w.heap.size 9 i0 (.string ⟨#[]⟩) 1 16 underlying78 hi Hm Hi Hk rfl (by decide) _ _ _ rfl (Ha.alloc _) ⟨_,0,none⟩ 1 1 [.string ⟨(Sv.dec x).toArray⟩] rfl rfl (cell_one_new _ _ _) (jj [Sv.dec x]) (by unfold maxLen;omega) (by omega) (by simp;omega) ?_;intro v' w2 He Hb _)
   go_roundw
   case rel=>
    refine ⟨k+1,by omega,by go_num,?_,?_⟩
    ·rw [HS.out,jV,Q2];exact He
    ·exact (Hg.out.alloc Hg.out.size _).grown Hb (by simp;omega) λj hj=>(Ha.lt j hj).1
   case measure=>simp [intOf];omega
  ·have Hl:k=xs.length:=by omega
   subst Hl
   go_wp2_with fail
   refine (HJ.out _ _ Hc).mono ?_;rintro e w1 ⟨rfl,Hf⟩;have Hh:=hB.trans (Hf.mono hB.size)
   go_wp2_with fail
   refine (qQ _ _).mono ?_;rintro e w2 ⟨rfl,rfl⟩
   go_wp2
   go_ret;exact ⟨by rw [<- HD.out];rfl,Hh⟩
end
section
open RowKit
open Qos (Nd Ct Pd nd ct pd af leS)
open Sv (Gv Hd gv hd ce eE gsF dE g7 aB jx)
open Dvs (aX first)
theorem bt.slice {w:World} {v:Value} {xs:List Int} (h:bt w v xs):∃ ao c,v=.slice ao xs.length c:=by
 obtain ⟨ao,c,rfl,_⟩:=h;exact ⟨ao,c,rfl⟩
theorem Fd {xs:List Int} (h:16<xs.length):ce xs=2:=by unfold ce;rw [if_pos h]
theorem Fe {xs:List Int} (h:¬ 16<xs.length):ce xs=first (eE xs) xs.length:=by unfold ce;rw [if_neg h]
def ke (xs:List Int) (k:Nat):Int:=if k=0 then -1 else xs.getD (k - 1) 0
theorem Ff (xs:List Int) (k:Nat):ke xs (k+1)=xs.getD k 0:=rfl
theorem Fg {xs:List Int} {k:Nat} (h:first (eE xs) k=0) (hk:k<xs.length):eE xs k=if xs.getD k 0<=ke xs k\/16<=xs.getD k 0 then 3 else 0:=by
 unfold eE
 by_cases h0:k=0
 ·subst h0;rw [show ke xs 0=-1 from rfl]
  by_cases h1:xs.getD 0 0<0\/15<xs.getD 0 0
  ·rw [if_pos (by omega),if_pos (by omega)]
  ·rw [if_neg (by omega),if_neg (by omega)]
 ·have e:ke xs k=xs.getD (k - 1) 0:=by unfold ke;rw [if_neg h0]
  rw [e];have hp:=Dvs.cR h (k - 1) (by omega);unfold eE at hp
  split at hp
  ·cases hp
  rename_i h2
  by_cases h1:xs.getD k 0<=xs.getD (k - 1) 0\/16<=xs.getD k 0
  ·rw [if_pos h1,if_pos (by omega)]
  ·rw [if_neg h1,if_neg (by omega)]
theorem Fh (v:Value) (xs:List Int) (w:World) (h:bt w v xs):Calls prog 218 #[v] w λe w'=>e=.returned (au (ce xs:Nat))/\w'=w:=by
 obtain ⟨ao,c,rfl,hm,hr⟩:=h;have HR:=qI hr;clear hr;have HM:=qI hm;unfold maxLen at hm
 by_cases hn:16<xs.length
 ·have he:=Fd hn;have hd:decide ((16:Int)<(xs.length:Int))=true:=Qc (by omega)
  go_enter func218,ntmps218
  go_wp2
  go_ret;exact ⟨by rw [he];rfl,rfl⟩
 ·rw [Fe hn];have hl:xs.length<=16:=by omega
  have hd:decide ((16:Int)<(xs.length:Int))=false:=Q7 (by omega)
  go_enter func218,ntmps218
  go_wp2_with fail
  go_loop [3,12] (λla i=>∃ k:Nat,k<=xs.length/\i=.int .i64 k/\la=.int .i64 (ke xs k)/\Hid (first (eE xs) k=0)) (λ_ i=>xs.length - (intOf i).toNat)
  case atStart=>exact ⟨0,by omega,rfl,rfl,rfl⟩
  case round=>
   obtain ⟨k,hk,rfl,rfl,HF⟩:=hrel
   by_cases hlt:k<xs.length
   ·obtain ⟨b,o,rfl,hb,hc⟩:=HR.out (by omega);have h1:=hc k hlt;have HO:=qI (Dvs.iF (f:=eE xs) (n:=xs.length) HF.out · hlt);have HZ:=qI (Dvs.jo (f:=eE xs) (k:=k) HF.out);have HA:=qI (Fg HF.out hlt);have HN:=qI (Ff xs k);clear hc HF HR HM;generalize xs.getD k 0=x at *;generalize ke xs k=L at *
    by_cases ha:x<=L
    ·have e3:eE xs k=3:=by rw [HA.out,if_pos (.inl ha)]
     have Hc:decide (x<=L)=true:=Qc ha;have Ha:=qI (HO.out (by omega))
     go_wp2
     go_ret;exact ⟨by rw [Ha.out,e3];rfl,rfl⟩
    ·have Hc:decide (x<=L)=false:=Q7 ha
     by_cases hg:16<=x
     ·have e3:eE xs k=3:=by rw [HA.out,if_pos (.inr hg)]
      have Hf:decide (16<=x)=true:=Qc hg;have Ha:=qI (HO.out (by omega))
      go_wp2
      go_ret;exact ⟨by rw [Ha.out,e3];rfl,rfl⟩
     ·have e0:eE xs k=0:=by rw [HA.out,if_neg (by omega)]
      have Hf:decide (16<=x)=false:=Q7 hg;have Hb:=qI (HZ.out e0);clear HO HZ HA
      go_wp2_with fail
      go_round
      case rel=>exact ⟨k+1,by omega,by go_num,by rw [HN.out],Hb⟩
      case measure=>simp [intOf];omega
   ·have He:k=xs.length:=by omega
    subst He
    go_wp2
    go_ret;exact ⟨by rw [HF.out];rfl,rfl⟩
theorem kX.at {w:World} {b o:Nat} {gs:List Gv} {dv:Nat->Value} (h:kX w b o gs dv) {k:Nat} (hk:k<gs.length) :
  w.cell? ⟨b,o+k*2,none⟩=some (.int .u64 (gv gs k).cp)/\w.cell? ⟨b,o+k*2+1,none⟩=some (dv k):=⟨(h.2 k hk).1.1,(h.2 k hk).1.2.1⟩
theorem Fi {h:Hd} {b:Bool} (e:af h.pod≠0):dE h b=af h.pod:=by unfold dE;rw [if_pos e]
theorem vU {h:Hd} {b:Bool} (e:af h.pod=0) (e2:b=true\/h.gs.length≠h.pod.cs.length):dE h b=3:=by unfold dE;rw [if_neg (by omega),if_pos e2]
theorem Fj {h:Hd} {b:Bool} (e:af h.pod=0) (e2:¬ (b=true\/h.gs.length≠h.pod.cs.length)):dE h b=first (λk=>ce (gv h.gs k).dv) h.gs.length:=by unfold dE;rw [if_neg (by omega),if_neg e2];rfl
theorem aE.sl {w:World} {v:Value} {cs:List Ct} (h:aE w v cs):∃ ao c,v=.slice ao cs.length c:=by
 obtain ⟨ao,c,rfl,_⟩:=h;exact ⟨ao,c,rfl⟩
theorem bz.sl {w:World} {v:Value} {cs:List Gv} (h:bz w v cs):∃ ao c,v=.slice ao cs.length c:=by
 obtain ⟨ao,c,rfl,_⟩:=h;exact ⟨ao,c,rfl⟩
theorem Fk (h:Hd) (cv gvv:Value) (last:ByteArray) (w:World) (hc:aE w cv h.pod.cs) (hg:bz w gvv h.gs) :
  Calls prog 170 #[qP h cv gvv,.string last] w λe w'=>e=.returned (au (dE h (leS h.pod.nm last):Nat))/\Below w.heap.size w w':=by
 unfold qP;have Ha:=qI ((Q0 w.heap.size w).alloc (lR) (.cells #[.string h.pod.nm,.int .i64 h.pod.pr,cv,gvv] 57));have Hi:=hc.below Ha.out;have Hj:=hg.below Ha.out;have Hf:=qI (qJ h.pod cv _ Hi);have Ho:=qI Hi;have Hk:=qI Hj;obtain ⟨cao,cc,rfl⟩:=hc.sl;obtain ⟨gao,gc,rfl⟩:=hg.sl;clear hc hg Hi Hj;unfold bG at Hf
 by_cases hp:af h.pod=0
 ·have e0:au ((af h.pod:Nat):Int)=.nilIface:=by rw [hp];rfl
  go_enter func170,ntmps170
  go_wp2_with fail
  refine Hf.out.mono ?_;rintro e w1 ⟨rfl,hb⟩;rw [e0];have Hb:=qI (Ha.out.trans (hb.mono Ha.out.size));have hG:=Hk.out.below hb;have c0:w1.cell? ⟨w.heap.size,0,none⟩=some (.string h.pod.nm):=(hb.cell (p:=⟨w.heap.size,0,none⟩) (by simp)).trans (by simp);have c2:w1.cell? ⟨w.heap.size,2,none⟩=some (.slice cao h.pod.cs.length cc):=(hb.cell (p:=⟨w.heap.size,2,none⟩) (by simp)).trans (by simp);have c3:w1.cell? ⟨w.heap.size,3,none⟩=some (.slice gao h.gs.length gc):=(hb.cell (p:=⟨w.heap.size,3,none⟩) (by simp)).trans (by simp);clear hb Hf Ho Hk
  rcases two (leS h.pod.nm last) with hle|hle
  ·have HE:=qI (vU (b:=leS h.pod.nm last) hp (.inl hle));unfold leS at hle
   go_wp2
   go_ret;exact ⟨by rw [HE.out];rfl,Hb.out⟩
  ·by_cases hl:h.gs.length=h.pod.cs.length
   ·have HE:=qI (Fj (b:=leS h.pod.nm last) hp (by rw [hle];simp [hl]));unfold leS at hle;have Hl:(h.gs.length:Int)=(h.pod.cs.length:Int):=by omega
    obtain ⟨_,_,Hp,hm,hr⟩:=hG;cases Hp;have HR:=qI hr;have HM:=qI hm;clear hr;unfold maxLen at hm;generalize h.gs=gs at *
    go_wp2
    go_loopw [34] (λi wr=>∃ k:Nat,k<=gs.length/\i=.int .i64 k/\Below w.heap.size w wr/\Below w1.heap.size w1 wr/\Hid (first (λk=>ce (gv gs k).dv) k=0)) (λi _=>gs.length - (intOf i).toNat)
    case atStart=>exact ⟨0,by omega,rfl,Hb.out,Q0 _ _,rfl⟩
    case round=>
     obtain ⟨k,hk,rfl,hB,Hc,HF⟩:=hrel
     by_cases hlt:k<gs.length
     ·obtain ⟨b,o,dv,rfl,He⟩:=HR.out (by omega);have He:=He.below Hc;obtain ⟨d0,d1⟩:=He.at hlt;have hI:=(He.2 k hlt).2;have HO:Hid (ce (gv gs k).dv≠0->first (λk=>ce (gv gs k).dv) gs.length=ce (gv gs k).dv):=qI λh=>Dvs.iF (f:=λk=>ce (gv gs k).dv) (n:=gs.length) HF.out h hlt
      have HZ:Hid (ce (gv gs k).dv=0->first (λk=>ce (gv gs k).dv) (k+1)=0):=qI λh=>Dvs.jo (f:=λk=>ce (gv gs k).dv) (k:=k) HF.out h
      have Ht:=qI ((Q0 wr.heap.size wr).alloc (lR) (.cells #[.int .u64 (gv gs k).cp,dv k] 69));have Hg:=qI (hB.alloc hB.size (.cells #[.int .u64 (gv gs k).cp,dv k] 69));have Hq:=qI (Hc.alloc Hc.size (.cells #[.int .u64 (gv gs k).cp,dv k] 69));have Hh:=qI (Fh (dv k) _ _ (hI.below Ht.out));obtain ⟨iao,ic,Hm⟩:=hI.slice;clear He hI HF hB Hc;generalize (gv gs k).cp=cp at *;generalize ce (gv gs k).dv=F at *;generalize (gv gs k).dv.length=dn at *;generalize dv k=d at *;subst Hm
      go_wp2_with fail
      refine Hh.out.mono ?_;rintro e w5 ⟨rfl,rfl⟩
      by_cases hF:F=0
      ·have Hn:=qI (HZ.out hF);rw [show au (F:Int)=.nilIface by rw [hF];rfl];clear HO HZ hF Hh
       go_wp2
       go_roundw
       case rel=>exact ⟨k+1,by omega,by go_num,Hg.out,Hq.out,Hn⟩
       case measure=>simp [intOf];omega
      ·have Hr:=qI (HO.out hF);have HP:=qI (eh hF);rw [HP.out];clear HO HZ hF Hh
       go_wp2
       go_ret;exact ⟨by rw [HE.out,Hr.out,HP.out];rfl,Hg.out⟩
     ·have Hs:k=gs.length:=by omega
      subst Hs;have Hg:=qI hB;clear hB Hc
      go_wp2
      go_ret;exact ⟨by rw [HE.out,HF.out];rfl,Hg.out⟩
   ·have HE:=qI (vU (b:=leS h.pod.nm last) hp (.inr hl));unfold leS at hle;have Hl:((h.gs.length:Int) == (h.pod.cs.length:Int))=false:=by simp;omega
    go_wp2
    go_ret;exact ⟨by rw [HE.out];rfl,Hb.out⟩
 ·have HE:=qI (Fi (b:=leS h.pod.nm last) hp);have HP:=qI (eh hp)
  go_enter func170,ntmps170
  go_wp2_with fail
  refine Hf.out.mono ?_;rintro e w1 ⟨rfl,hb⟩;have Hb:=qI (Ha.out.trans (hb.mono Ha.out.size));rw [HP.out];clear hb
  go_wp2
  go_ret;exact ⟨by rw [HE.out,HP.out];rfl,Hb.out⟩
theorem jz.at {w:World} {b o:Nat} {hs:List Hd} {cv gvv:Nat->Value} (h:jz w b o hs cv gvv) {k:Nat} (hk:k<hs.length) :
  w.cell? ⟨b,o+k*4,none⟩=some (.string (hd hs k).pod.nm)/\w.cell? ⟨b,o+k*4+1,none⟩=some (.int .i64 (hd hs k).pod.pr)/\w.cell? ⟨b,o+k*4+2,none⟩=some (cv k)/\w.cell? ⟨b,o+k*4+3,none⟩=some (gvv k):=(h.2 k hk).1
def kZ (hs:List Hd) (k:Nat):ByteArray:=if k=0 then ByteArray.empty else (hd hs (k - 1)).pod.nm
theorem Fl (hs:List Hd) (k:Nat):kZ hs (k+1)=(hd hs k).pod.nm:=rfl
theorem Fm {s:ByteArray} (h:aX s=true):leS s ByteArray.empty=false:=by
 have h0:=(Sv.g9 h).1;rw [leS,Qs,Qs];cases hs:s.data.toList with
 | nil=>rw [hs] at h0;simp at h0
 | cons a r=>rfl
theorem Fo {h:Hd} {b:Bool} (hb:aX h.pod.nm=true->b=false):dE h b=dE h false:=by
 unfold dE
 by_cases hp:af h.pod=0
 ·have hn:=(Qos.mh hp).1;rw [hb hn]
 ·rw [if_pos hp,if_pos hp]
theorem Fp (hs:List Hd) (k:Nat):dE (hd hs k) (leS (hd hs k).pod.nm (kZ hs k))=g7 hs k:=by
 unfold g7 jx kZ
 by_cases h0:k=0
 ·subst h0;rw [if_pos rfl]
  show _=dE (hd hs 0) false
  exact Fo Fm
 ·rw [if_neg h0,Qc (by omega:0<k)];rfl
theorem Fq {hs:List Hd} (h:12<hs.length):aB hs=2:=by unfold aB;rw [if_pos h]
theorem Fr {hs:List Hd} (h:¬ 12<hs.length):aB hs=first (g7 hs) hs.length:=by unfold aB;rw [if_neg h]
theorem Fs (v:Value) (hs:List Hd) (w:World) (h:aJ w v hs):Calls prog 132 #[v] w λe w'=>e=.returned (au (aB hs:Nat))/\Below w.heap.size w w':=by
 obtain ⟨ao,c,rfl,hm,hr⟩:=h;have HR:=qI hr;clear hr;have HM:=qI hm;unfold maxLen at hm
 by_cases hn:12<hs.length
 ·have he:=Fq hn;have Hk:decide ((12:Int)<(hs.length:Int))=true:=Qc (by omega)
  go_enter func132,ntmps132
  go_wp2
  go_ret;exact ⟨by rw [he];rfl,Q0 _ _⟩
 ·rw [Fr hn];have hl:hs.length<=12:=by omega
  have Hk:decide ((12:Int)<(hs.length:Int))=false:=Q7 (by omega)
  go_enter func132,ntmps132
  go_wp2
  go_loopw [3,13] (λla i wr=>∃ k:Nat,k<=hs.length/\i=.int .i64 k/\la=.string (kZ hs k)/\Below w.heap.size w wr/\Hid (first (g7 hs) k=0)) (λ_ i _=>hs.length - (intOf i).toNat)
  case atStart=>exact ⟨0,by omega,rfl,rfl,Q0 _ _,rfl⟩
  case round=>
   obtain ⟨k,hk,rfl,rfl,hB,HF⟩:=hrel
   by_cases hlt:k<hs.length
   ·obtain ⟨b,o,cv,gvv,rfl,Ha⟩:=HR.out (by omega);have Ha:=Ha.below hB;obtain ⟨d0,d1,d2,d3⟩:=Ha.at hlt;obtain ⟨_,hC,hG⟩:=Ha.2 k hlt;have HO:=qI (Dvs.iF (f:=g7 hs) (n:=hs.length) HF.out · hlt);have HZ:=qI (Dvs.jo (f:=g7 hs) (k:=k) HF.out);have Hg:=qI ((Q0 wr.heap.size wr).alloc (lR) (.cells #[.string (hd hs k).pod.nm,.int .i64 (hd hs k).pod.pr,cv k,gvv k] 57));have Hc:=qI (hB.alloc hB.size (.cells #[.string (hd hs k).pod.nm,.int .i64 (hd hs k).pod.pr,cv k,gvv k] 57));have Hb:=qI (Fk (hd hs k) (cv k) (gvv k) (kZ hs k) _ (hC.below Hg.out) (hG.below Hg.out));rw [Fp hs k] at Hb;unfold qP at Hb;have HN:=qI (Fl hs k);obtain ⟨ca,cc,Hi⟩:=hC.sl;obtain ⟨ga,gc,Hm⟩:=hG.sl;clear Ha hC hG HF hB;generalize kZ hs k=L at *;generalize g7 hs k=F at *;generalize (hd hs k).pod.nm=nm at *;generalize (hd hs k).pod.pr=pr at *;generalize (hd hs k).pod.cs.length=cl at *;generalize (hd hs k).gs.length=gl at *;generalize cv k=cvk at *;generalize gvv k=gvk at *;subst Hi Hm
    go_wp2_with fail
    refine Hb.out.mono ?_;rintro e w5 ⟨rfl,He⟩;have Hf:=qI (Hc.out.trans (He.mono Hc.out.size));have c0:w5.cell? ⟨wr.heap.size,0,none⟩=some (.string nm):=(He.cell (p:=⟨wr.heap.size,0,none⟩) (by simp)).trans (by simp);clear He
    by_cases hF:F=0
    ·have Hh:=qI (HZ.out hF);rw [show au (F:Int)=.nilIface by rw [hF];rfl];clear HO HZ hF Hb
     go_wp2
     go_roundw
     case rel=>exact ⟨k+1,by omega,by go_num,by rw [HN.out],Hf.out,Hh⟩
     case measure=>simp [intOf];omega
    ·have Hj:=qI (HO.out hF);have HP:=qI (eh hF);rw [HP.out];clear HO HZ hF Hb
     go_wp2
     go_ret;exact ⟨by rw [Hj.out,HP.out];rfl,Hf.out⟩
   ·have Hl:k=hs.length:=by omega
    subst Hl;have Hc:=qI hB;clear hB
    go_wp2
    go_ret;exact ⟨by rw [HF.out];rfl,Hc.out⟩
end
section
open RowKit
theorem Ft (W:World) (b j:Nat) (v:Value):W.grownBy (W.setCell ⟨b,j,none⟩ v) (some b):=
 ⟨rfl,rfl,rfl,by simp,λk hk hne=>by
  have hb:b≠k:=λe=>hne (by rw [e])
  simp [World.setCell,Array.getElem?_modify,hb]⟩
def cI (B:Nat) (w w':World):Prop:=w.grownBy w' (some B)/\w'.heap.size=w.heap.size
theorem cI.refl (B:Nat) (w:World):cI B w w:=⟨⟨rfl,rfl,rfl,lR,λ_ _ _=>rfl⟩,rfl⟩
theorem cI.set {B:Nat} {w w':World} (h:cI B w w') (j:Nat) (v:Value):cI B w (w'.setCell ⟨B,j,none⟩ v):=by
 obtain ⟨hg,hs⟩:=h;have g2:=Ft w' B j v;refine ⟨⟨g2.os.trans hg.os,g2.tape.trans hg.tape,g2.output.trans hg.output,Q5 hg.size g2.size,λk hk hne=>(g2.block k (by omega) hne).trans (hg.block k hk hne)⟩,?_⟩;rw [<- hs]
 simp
theorem gJ {w:World} {B:Nat} {arr:Array Value} {t:TypeId} (h:w.heap[B]?=some (.cells arr t (0,0))) (j:Nat) (v:Value):(w.setCell ⟨B,j,none⟩ v).heap[B]?=some (.cells (arr.setIfInBounds j v) t (0,0)):=by
 obtain ⟨Ha,hk⟩:=gS h
 show (w.heap.modify B _)[B]?=_
 rw [Array.getElem?_eq_getElem (by rw [Array.size_modify];exact Ha),Array.getElem_modify_self,hk];rfl
def aC (w:World) (B:Nat) (n k:Sd) (v:Value) (l:Int) (d:Bool):Prop:=w.heap[B]?=some (.cells #[.bool n.ft,.string n.fb,.bool n.dt,.string n.db,.bool k.ft,.string k.fb,.bool k.dt,.string k.db,v,.int .i64 l,.bool d] 146 (0,0))
section
variable {w:World} {B:Nat} {n k:Sd} {v:Value} {l:Int} {d:Bool}
theorem aC.lt (h:aC w B n k v l d):B<w.heap.size:=(gS h).1
theorem aC.now (h:aC w B n k v l d):w.cell? ⟨B,0,none⟩=some (.bool n.ft)/\w.cell? ⟨B,1,none⟩=some (.string n.fb)/\w.cell? ⟨B,2,none⟩=some (.bool n.dt)/\w.cell? ⟨B,3,none⟩=some (.string n.db):=by
 refine ⟨?_,?_,?_,?_⟩ <;> simp [World.cell?,show w.heap[B]?=_ from h]
theorem aC.kept (h:aC w B n k v l d):w.cell? ⟨B,4,none⟩=some (.bool k.ft)/\w.cell? ⟨B,5,none⟩=some (.string k.fb)/\w.cell? ⟨B,6,none⟩=some (.bool k.dt)/\w.cell? ⟨B,7,none⟩=some (.string k.db):=by
 refine ⟨?_,?_,?_,?_⟩ <;> simp [World.cell?,show w.heap[B]?=_ from h]
theorem aC.rest (h:aC w B n k v l d):w.cell? ⟨B,8,none⟩=some v/\w.cell? ⟨B,9,none⟩=some (.int .i64 l)/\w.cell? ⟨B,10,none⟩=some (.bool d):=by
 refine ⟨?_,?_,?_⟩ <;> simp [World.cell?,show w.heap[B]?=_ from h]
theorem aC.frozen (h:aC w B n k v l d) (j:Nat):w.frozen? ⟨B,j,none⟩=false:=by simp [World.frozen?,show w.heap[B]?=_ from h]
theorem aC.set8 (h:aC w B n k v l d) (v':Value):aC (w.setCell ⟨B,8,none⟩ v') B n k v' l d:=gJ h 8 v'
theorem aC.set9 (h:aC w B n k v l d) (l':Int):aC (w.setCell ⟨B,9,none⟩ (.int .i64 l')) B n k v l' d:=gJ h 9 _
theorem aC.set10 (h:aC w B n k v l d) (d':Bool):aC (w.setCell ⟨B,10,none⟩ (.bool d')) B n k v l d':=gJ h 10 _
def putS (w:World) (B i:Nat) (s:Sd):World:=(((w.setCell ⟨B,i,none⟩ (.bool s.ft)).setCell ⟨B,i+1,none⟩ (.string s.fb)).setCell ⟨B,i+2,none⟩ (.bool s.dt)).setCell ⟨B,i+3,none⟩ (.string s.db)
theorem aC.setNow (h:aC w B n k v l d) (s:Sd):aC (putS w B 0 s) B s k v l d:=gJ (gJ (gJ (gJ h 0 _) 1 _) 2 _) 3 _
theorem aC.setKept (h:aC w B n k v l d) (s:Sd):aC (putS w B 4 s) B n s v l d:=gJ (gJ (gJ (gJ h 4 _) 5 _) 6 _) 7 _
theorem cI.putS {w w':World} {B:Nat} (h:cI B w w') (i:Nat) (s:Sd):cI B w (putS w' B i s):=(((h.set i _).set (i+1) _).set (i+2) _).set (i+3) _
theorem aC.block {w':World} (h:aC w B n k v l d) (he:w'.heap[B]?=w.heap[B]?):aC w' B n k v l d:=he.trans h
end
def bo (l:Int) (d:Bool):Nat:=if d=true\/l=0 then 11 else 0
def aQ (l:Int) (d:Bool):Int:=if d=true\/l=0 then l else if 0<l then l - 1 else l
def dS (l:Int) (d:Bool):Bool:=decide (d=true\/l=0)
theorem mv (B:Nat) (n k:Sd) (v:Value) (l:Int) (d:Bool) (w:World) (h:aC w B n k v l d) (hl:-9223372036854775808<=l/\l<=9223372036854775807):Calls prog 140 #[.pointer (some ⟨B,0,none⟩)] w λe w'=>e=.returned (au ((bo l d:Nat):Int))/\aC w' B n k v (aQ l d) (dS l d)/\cI B w w':=by
 obtain ⟨_,c9,c10⟩:=h.rest;have f9:=h.frozen 9;have f10:=h.frozen 10
 by_cases h0:l=0
 ·subst h0;obtain ⟨_,e9,e10⟩:=(h.set10 true).rest;have HZ:=qI (h.set10 true);have HO:=qI ((cI.refl B w).set 10 (.bool true));clear h
  go_enter func140,ntmps140
  go_wp2
  go_ret;exact ⟨by simp [bo,au],by simpa [aQ,dS] using HZ.out,HO.out⟩
 ·cases d with
  | true=>
   have HZ:=qI h;have hb:(l == 0)=false:=by simp [h0]
   clear h
   go_enter func140,ntmps140
   go_wp2
   go_ret;exact ⟨by simp [bo,au],by simpa [aQ,dS] using HZ.out,cI.refl _ _⟩
  | false=>
   have hb:(l == 0)=false:=by simp [h0]
   by_cases hp:0<l
   ·have hw:wrap64 (l - 1)=l - 1:=by unfold wrap64;omega
    have HZ:=qI (h.set9 (l - 1));have HO:=qI ((cI.refl B w).set 9 (.int .i64 (l - 1)));clear h
    go_enter func140,ntmps140
    go_wp2
    go_ret;exact ⟨by simp [bo,au,h0],by simpa [aQ,dS,h0,hp] using HZ.out,HO.out⟩
   ·have HZ:=qI h;have Ha:l<=0:=by omega
    have HE:Hid (aQ l false=l):=by unfold Hid aQ;rw [if_neg (by simp [h0]),if_neg hp]
    clear h
    go_enter func140,ntmps140
    go_wp2
    go_ret;exact ⟨by simp [bo,au,h0],by rw [HE.out];simpa [dS,h0] using HZ.out,cI.refl _ _⟩
def qV (n:Sd) (d:Bool):Value:=if d=true then .tuple #[.string ⟨#[]⟩,.iface 121 (.int .i64 11)] else if n.ft=true then .tuple #[.string n.fb,.nilIface] else .tuple #[.string ⟨#[]⟩,.iface 121 (.int .i64 6)]
theorem Fu (B:Nat) (n k:Sd) (v:Value) (l:Int) (d:Bool) (w:World) (h:aC w B n k v l d):Calls prog 152 #[.pointer (some ⟨B,0,none⟩)] w λe w'=>e=.returned (qV n d)/\w'=w:=by
 obtain ⟨_,c9,c10⟩:=h.rest;obtain ⟨c0,c1,_,_⟩:=h.now;obtain ⟨ft,fb,dt,db⟩:=n;dsimp only at c0 c1;unfold qV;clear h;cases d with
 | true=>
  go_enter func152,ntmps152
  go_wp2
  go_ret2;exact ⟨rfl,rfl⟩
 | false=>
  cases ft with
  | true=>
   go_enter func152,ntmps152
   go_wp2
   go_ret2;exact ⟨rfl,rfl⟩
  | false=>
   go_enter func152,ntmps152
   go_wp2
   go_ret2;exact ⟨rfl,rfl⟩
end
section
open RowKit
theorem mw (l:Int) (d:Bool):(bo l d=11/\dS l d=true)\/(bo l d=0/\dS l d=false):=by
 unfold bo dS
 by_cases h:d=true\/l=0
 ·exact .inl ⟨if_pos h,Qc h⟩
 ·exact .inr ⟨if_neg h,Q7 h⟩
theorem qW:au ((11:Nat):Int)=.iface 121 (.int .i64 11):=rfl
theorem qX:au ((0:Nat):Int)=.nilIface:=rfl
theorem Fv (B:Nat) (n k:Sd) (v:Value) (l:Int) (d:Bool) (w:World) (h:aC w B n k v l d) (hl:-9223372036854775808<=l/\l<=9223372036854775807):Calls prog 100 #[.pointer (some ⟨B,0,none⟩)] w λe w'=>e=.returned (au ((bo l d:Nat):Int))/\aC w' B n (if bo l d=0 then n else k) (if bo l d=0 then .slice none 0 0 else v) (aQ l d) (dS l d)/\cI B w w':=by
 have HS:=qI (mv B n k v l d w h hl);clear h
 rcases mw l d with ⟨e1,e2⟩|⟨e1,e2⟩
 ·rw [e1,e2,if_neg (by decide),if_neg (by decide),qW];rw [e1,e2,qW] at HS
  go_enter func100,ntmps100
  go_wp2_with fail
  refine HS.out.mono ?_;rintro e w1 ⟨rfl,h1,Ha⟩;have H1:=qI h1;have HO:=qI Ha;clear h1 Ha HS
  go_wp2
  go_ret;exact ⟨rfl,H1.out,HO.out⟩
 ·rw [e1,e2,if_pos rfl,if_pos rfl,qX];rw [e1,e2,qX] at HS
  go_enter func100,ntmps100
  go_wp2_with fail
  refine HS.out.mono ?_;rintro e w1 ⟨rfl,h1,Ha⟩;have H2:=qI ((h1.setKept n).set8 (.slice none 0 0));have HO:=qI (((Ha.putS 4 n)).set 8 (.slice none 0 0));obtain ⟨n0,n1,n2,n3⟩:=h1.now;obtain ⟨k0,k1,k2,k3⟩:=h1.kept;obtain ⟨k8,_,_⟩:=h1.rest;have f4:=h1.frozen 4;have f5:=h1.frozen 5;have f6:=h1.frozen 6;have f7:=h1.frozen 7;have f8:=h1.frozen 8;clear h1 Ha HS
  go_wp2
  go_ret;exact ⟨rfl,H2.out,HO.out⟩
end
section
open RowKit Shelf
def oA (P:Prop) (w:World) (e:Ending) (w':World):Prop:=∃ b:Bool,e=.returned (.bool b)/\(P->b=true)/\Below w.heap.size w w'
theorem kf (w:World) (n:Nat):Below w.heap.size w (w.drewN n):=⟨rfl,rfl,rfl,lR,λ_ _=>rfl⟩
def qY (w:World) (ao:Option Addr) (xs:List Int):Prop:=0<xs.length->∃ b o,ao=some ⟨b,o,none⟩/\b<w.heap.size/\∀ k,k<xs.length->w.cell? ⟨b,o+k,none⟩=some (.int .i64 (xs.getD k 0))
theorem vV (a1 a2:Option Addr) (c1 c2:Nat) (xs ys:List Int) (w:World) (m1:xs.length<=maxLen) (_m2:ys.length<=maxLen) (h1:qY w a1 xs) (h2:qY w a2 ys) :
  Calls prog 60 #[.slice a1 xs.length c1,.slice a2 ys.length c2] w λe w'=>∃ b:Bool,e=.returned (.bool b)/\(xs=ys->b=true)/\∃ n,w'=w.drewN n:=by
 unfold maxLen at m1;have H1:=qI h1;have H2:=qI h2;clear h1 h2
 by_cases hl:xs.length=ys.length
 ·rw [<- hl];have HL:=qI hl
  go_enter func60,ntmps60
  clear hl
  go_wp2
  go_loopw [5] (λi wr=>∃ k m:Nat,k<=xs.length/\i=.int .i64 k/\wr=w.drewN m) (λi _=>xs.length - (intOf i).toNat)
  case atStart=>exact ⟨0,0,by omega,rfl,rfl⟩
  case round=>
   obtain ⟨k,m,hk,rfl,rfl⟩:=hrel
   by_cases hlt:k<xs.length
   ·obtain ⟨b1,o1,rfl,_,Ha⟩:=H1.out (by omega);obtain ⟨b2,o2,rfl,_,Hb⟩:=H2.out (by rw [<- HL.out];omega);have d1:=Ha k hlt;have d2:=Hb k (by rw [<- HL.out];omega);clear Ha Hb;have HK:Hid (xs=ys->xs.getD k 0=ys.getD k 0):=λe=>by rw [e]
    generalize xs.getD k 0=x at *;generalize ys.getD k 0=y at *
    by_cases hxy:x=y
    ·subst hxy
     go_wp2
     go_quiet (fail)
     go_wp2
     go_roundw
     case rel=>exact ⟨k+1,_,by omega,by go_num,rfl⟩
     case measure=>simp [intOf];omega
    ·have hb:(x == y)=false:=by simpa using hxy
     have HN:=qI hxy;clear hxy
     go_wp2
     go_quiet (fail)
     go_wp2
     go_ret;exact ⟨_,rfl,λe=>absurd (HK.out e) HN.out,_,World.drewN_drewN _ _ _⟩
   ·have Hc:k=xs.length:=by omega
    subst Hc
    go_wp2
    go_ret;exact ⟨_,rfl,λ_=>rfl,m,rfl⟩
 ·have hb:((xs.length:Int) == (ys.length:Int))=false:=by simp;omega
  have HN:=qI hl;clear hl
  go_enter func60,ntmps60
  go_wp2
  go_ret;exact ⟨_,rfl,λe=>absurd (congrArg List.length e) HN.out,0,rfl⟩
theorem Fw (v1 v2:Value) (xs ys:List Int) (w:World) (h1:bt w v1 xs) (h2:bt w v2 ys) :
  Calls prog 60 #[v1,v2] w λe w'=>∃ b:Bool,e=.returned (.bool b)/\(xs=ys->b=true)/\∃ n,w'=w.drewN n:=by
 obtain ⟨a1,c1,rfl,m1,h1⟩:=h1;obtain ⟨a2,c2,rfl,m2,h2⟩:=h2;exact vV a1 a2 c1 c2 xs ys w (Q5 m1.1 m1.2) (Q5 m2.1 m2.2) h1 h2
end
section
open RowKit Shelf
open Qos (Nd Ct Pd nd ct pd)
theorem vX (w:World) (m n:Nat):Below w.heap.size w ((w.drewN m).drewN n):=⟨rfl,rfl,rfl,lR,λ_ _=>rfl⟩
theorem be.parts {w:World} {v:Value} {ds:List Nd} (h:be w v ds):∃ ao c,v=.slice ao ds.length c/\ds.length<=maxLen/\∀ k,k<ds.length->∃ b o,ao=some ⟨b,o,none⟩/\b<w.heap.size/\w.cell? ⟨b,o+k*2,none⟩=some (.string (nd ds k).kind)/\w.cell? ⟨b,o+k*2+1,none⟩=some (.int .i64 (nd ds k).many):=by
 obtain ⟨ao,c,rfl,hm,hr⟩:=h;refine ⟨ao,c,rfl,hm,λk hk=>?_⟩;obtain ⟨b,o,ha,Ha,hc⟩:=hr (by omega);exact ⟨b,o,ha,Ha,(hc k hk).1,(hc k hk).2⟩
abbrev iL:=λ(x0:ByteArray) (x1 x2 x3 x4:Int) (x5:Option Addr) (x6 x7:Nat)=>(.cells #[.string x0,.int .i64 x1,.int .i64 x2,.int .i64 x3,.int .i64 x4,.slice x5 x6 x7] 63:Obj)
abbrev fh:=λ(x0:ByteArray) (x1:Int) (x2:Option Addr) (x3 x4:Nat)=>(.cells #[.string x0,.int .i64 x1,.slice x2 x3 x4] 47:Obj)
theorem Fx (p q:Pd) (cv dv:Value) (w:World) (h1:aE w cv p.cs) (h2:aE w dv q.cs) :
  Calls prog 59 #[bG p cv,bG q dv] w (oA (p=q) w):=by
 unfold bG;obtain ⟨a1,c1,rfl,m1,h1⟩:=h1;obtain ⟨a2,c2,rfl,m2,h2⟩:=h2;unfold maxLen at m1 m2;have H1:=qI h1;have H2:=qI h2;clear h1 h2;have k1:Hid (p=q->p.nm=q.nm):=λe=>by rw [e]
 have k2:Hid (p=q->p.pr=q.pr):=λe=>by rw [e]
 have k3:Hid (p=q->p.cs=q.cs):=λe=>by rw [e]
 generalize (p=q)=PQ at *;obtain ⟨pn,pp,pcs⟩:=p;obtain ⟨qn,qp,qcs⟩:=q;dsimp only at m1 m2 H1 H2 k1 k2 k3 ⊢
 by_cases e1:pn=qn
 ·subst e1
  by_cases e2:pp=qp
  ·subst e2;have Hc:=qI (((Q0 w.heap.size w).alloc (lR) (fh pn pp a1 pcs.length c1)).alloc (by simp) (fh pn pp a2 qcs.length c2))
   by_cases e3:pcs.length=qcs.length
   ·rw [<- e3] at Hc ⊢;have E3:=qI e3;clear e3
    go_enter func59,ntmps59
    have p2:((w.alloc (fh pn pp a1 pcs.length c1)).alloc (fh pn pp a2 pcs.length c2)).cell? ⟨w.heap.size,2,none⟩=some (.slice a1 pcs.length c1):=by simp
    have q2:((w.alloc (fh pn pp a1 pcs.length c1)).alloc (fh pn pp a2 pcs.length c2)).cell? ⟨w.heap.size+1,2,none⟩=some (.slice a2 pcs.length c2):=by simp
    have Hu:((w.alloc (fh pn pp a1 pcs.length c1)).alloc (fh pn pp a2 pcs.length c2)).heap.size=w.heap.size+1+1:=by simp
    go_wp2_with fail
    generalize ((w.alloc (fh pn pp a1 pcs.length c1)).alloc (fh pn pp a2 pcs.length c2))=W0 at *
    go_loopw [5] (λi wr=>∃ k:Nat,k<=pcs.length/\i=.int .i64 k/\Below W0.heap.size W0 wr) (λi _=>pcs.length - (intOf i).toNat)
    case atStart=>exact ⟨0,by omega,rfl,Q0 _ _⟩
    case round=>
     obtain ⟨k,hk,rfl,hb⟩:=hrel;have r2:=(hb.cell (p:=⟨w.heap.size,2,none⟩) (by show w.heap.size<W0.heap.size;omega)).trans p2;have s2:=(hb.cell (p:=⟨w.heap.size+1,2,none⟩) (by show w.heap.size+1<W0.heap.size;omega)).trans q2;have Ha:=qI (Hc.out.trans (hb.mono Hc.out.size));have Hh:=qI hb;clear hb
     by_cases hlt:k<pcs.length
     ·obtain ⟨b1,o1,dv1,rfl,Hj⟩:=H1.out (by omega);obtain ⟨b2,o2,dv2,rfl,Hg⟩:=H2.out (by rw [<- E3.out];omega);have Hp:k<qcs.length:=by rw [<- E3.out];exact hlt
      obtain ⟨x0,x1,x2,x3,x4,x5⟩:=(Hj.below Ha.out).at hlt;obtain ⟨y0,y1,y2,y3,y4,y5⟩:=(Hg.below Ha.out).at Hp;obtain ⟨na,nc,Hq,nm1,Hl⟩:=((Hj.below Ha.out).2 k hlt).2.parts;obtain ⟨ma,mc,Hn,nm2,Ho⟩:=((Hg.below Ha.out).2 k Hp).2.parts;rw [Hq] at x5;rw [Hn] at y5;have Hk:=qI (Hg.below Ha.out).1;have Hm:=qI Hl;have Hi:=qI Ho;have HK:Hid (PQ->ct pcs k=ct qcs k):=λe=>by rw [k3.out e]
      clear Hj Hg Hl Ho Hq Hn p2 q2;unfold maxLen at nm1 nm2;generalize ct pcs k=c at *;generalize ct qcs k=d at *;obtain ⟨cn,cam,cab,ccm,ccb,cds⟩:=c;obtain ⟨dn,dam,dab,dcm,dcb,dds⟩:=d;dsimp only at x0 x1 x2 x3 x4 x5 y0 y1 y2 y3 y4 y5 nm1 nm2 Hm Hi;have j1:Hid (PQ->cn=dn):=λe=>by have h:=HK.out e;injection h with h _
      have j2:Hid (PQ->cam=dam):=λe=>by have h:=HK.out e;injection h with _ h
      have j3:Hid (PQ->cab=dab):=λe=>by have h:=HK.out e;injection h with _ _ h
      have j4:Hid (PQ->ccm=dcm):=λe=>by have h:=HK.out e;injection h with _ _ _ h
      have j5:Hid (PQ->ccb=dcb):=λe=>by have h:=HK.out e;injection h with _ _ _ _ h
      have j6:Hid (PQ->cds=dds):=λe=>by have h:=HK.out e;injection h
      have He:=qI (((Q0 wr.heap.size wr).alloc (lR) (iL cn cam cab ccm ccb na cds.length nc)).alloc (by simp) (iL dn dam dab dcm dcb ma dds.length mc));clear HK;have Hs:w.heap.size+1<wr.heap.size:=Q1 (by omega) Hh.out.size;have Hb:=Hk.out;have hX:=(Q0 wr.heap.size wr).alloc (lR) (iL cn cam cab ccm ccb na cds.length nc);have s2:=(hX.cell (p:=⟨w.heap.size+1,2,none⟩) Hs).trans s2;have y0:=(hX.cell (p:=⟨b2,o2+k*6,none⟩) Hb).trans y0;have y1:=(hX.cell (p:=⟨b2,o2+k*6+1,none⟩) Hb).trans y1;have y2:=(hX.cell (p:=⟨b2,o2+k*6+2,none⟩) Hb).trans y2;have y3:=(hX.cell (p:=⟨b2,o2+k*6+3,none⟩) Hb).trans y3;have y4:=(hX.cell (p:=⟨b2,o2+k*6+4,none⟩) Hb).trans y4;have y5:=(hX.cell (p:=⟨b2,o2+k*6+5,none⟩) Hb).trans y5;clear hX Hb
      by_cases f0:cn=dn
      ·subst f0
       by_cases f1:cam=dam
       ·subst f1
        by_cases f2:cab=dab
        ·subst f2
         by_cases f3:ccm=dcm
         ·subst f3
          by_cases f4:ccb=dcb
          ·subst f4
           by_cases f6:cds.length=dds.length
           ·rw [<- f6] at y5 He Hi;have F6:=qI f6;clear f6;have z5:((wr.alloc (iL cn cam cab ccm ccb na cds.length nc)).alloc (iL cn cam cab ccm ccb ma cds.length mc)).cell? ⟨wr.heap.size,5,none⟩=some (.slice na cds.length nc):=by simp
            have z6:((wr.alloc (iL cn cam cab ccm ccb na cds.length nc)).alloc (iL cn cam cab ccm ccb ma cds.length mc)).cell? ⟨wr.heap.size+1,5,none⟩=some (.slice ma cds.length mc):=by simp
            go_wp2_with fail
            generalize ((wr.alloc (iL cn cam cab ccm ccb na cds.length nc)).alloc (iL cn cam cab ccm ccb ma cds.length mc))=W5 at *;clear x0 x1 x2 x3 x4 x5 y0 y1 y2 y3 y4 y5;have Hf:=qI (Hh.out.trans (He.out.mono Hh.out.size))
            go_loopw [8] (λi wr2=>∃ j m:Nat,j<=cds.length/\i=.int .i64 j/\wr2=W5.drewN m) (λi _=>cds.length - (intOf i).toNat)
            case atStart=>exact ⟨0,0,by omega,rfl,rfl⟩
            case round=>
             obtain ⟨j,m,hj,rfl,rfl⟩:=hrel
             by_cases hjl:j<cds.length
             ·obtain ⟨u1,v1,rfl,ul1,t1,t2⟩:=Hm.out j hjl;obtain ⟨u2,v2,rfl,ul2,t3,t4⟩:=Hi.out j hjl;have t1:=(He.out.cell (p:=⟨u1,v1+j*2,none⟩) ul1).trans t1;have t2:=(He.out.cell (p:=⟨u1,v1+j*2+1,none⟩) ul1).trans t2;have t3:=(He.out.cell (p:=⟨u2,v2+j*2,none⟩) ul2).trans t3;have t4:=(He.out.cell (p:=⟨u2,v2+j*2+1,none⟩) ul2).trans t4;have l1:Hid (PQ->(nd cds j).kind=(nd dds j).kind):=λe=>by rw [j6.out e]
              have l2:Hid (PQ->(nd cds j).many=(nd dds j).many):=λe=>by rw [j6.out e]
              generalize (nd cds j).kind=ki at *;generalize (nd dds j).kind=kj at *;generalize (nd cds j).many=mi at *;generalize (nd dds j).many=mj at *
              by_cases g1:ki=kj
              ·subst g1
               by_cases g2:mi=mj
               ·subst g2
                go_wp2
                go_quiet (fail)
                go_wp2
                go_roundw
                case rel=>exact ⟨j+1,_,by omega,by go_num,rfl⟩
                case measure=>simp [intOf];omega
               ·have G2:=qI g2;have g2':(mi == mj)=false:=by simpa using g2
                clear g2
                go_wp2
                go_quiet (fail)
                go_wp2
                go_ret;exact ⟨_,rfl,λe=>absurd (l2.out e) G2.out,(Hc.out.trans (Hf.out.mono Hc.out.size)).trans ((vX _ _ _).mono (Q5 Hc.out.size Hf.out.size))⟩
              ·have G1:=qI g1;have g1':(ki.toList == kj.toList)=false:=by rw [Qr];intro h;exact g1 (ByteArray.ext (by rw [Qs,Qs] at h;exact Array.toList_inj.1 h))
               clear g1
               go_wp2
               go_quiet (fail)
               go_wp2
               go_ret;exact ⟨_,rfl,λe=>absurd (l1.out e) G1.out,(Hc.out.trans (Hf.out.mono Hc.out.size)).trans ((vX _ _ _).mono (Q5 Hc.out.size Hf.out.size))⟩
             ·have Hr:j=cds.length:=by omega
              subst Hr
              go_wp2
              go_roundw
              case rel=>exact ⟨k+1,by omega,by go_num,Hf.out.trans ((kf _ _).mono Hf.out.size)⟩
              case measure=>simp [intOf];omega
           ·have f6':((cds.length:Int) == (dds.length:Int))=false:=by simp;omega
            have F6:=qI f6;clear f6
            go_wp2
            go_ret;exact ⟨_,rfl,λe=>absurd (congrArg List.length (j6.out e)) F6.out,Ha.out.trans (He.out.mono Ha.out.size)⟩
          ·have F4:=qI f4;have f4':(ccb == dcb)=false:=by simpa using F4.out
           clear f4
           go_wp2
           go_ret;exact ⟨_,rfl,λe=>absurd (j5.out e) F4.out,Ha.out.trans (He.out.mono Ha.out.size)⟩
         ·have F3:=qI f3;have f3':(ccm == dcm)=false:=by simpa using F3.out
          clear f3
          go_wp2
          go_ret;exact ⟨_,rfl,λe=>absurd (j4.out e) F3.out,Ha.out.trans (He.out.mono Ha.out.size)⟩
        ·have F2:=qI f2;have f2':(cab == dab)=false:=by simpa using F2.out
         clear f2
         go_wp2
         go_ret;exact ⟨_,rfl,λe=>absurd (j3.out e) F2.out,Ha.out.trans (He.out.mono Ha.out.size)⟩
       ·have F1:=qI f1;have f1':(cam == dam)=false:=by simpa using F1.out
        clear f1
        go_wp2
        go_ret;exact ⟨_,rfl,λe=>absurd (j2.out e) F1.out,Ha.out.trans (He.out.mono Ha.out.size)⟩
      ·have F0:=qI f0;have f0':(cn.toList == dn.toList)=false:=by rw [Qr];intro h;exact F0.out (ByteArray.ext (by rw [Qs,Qs] at h;exact Array.toList_inj.1 h))
       clear f0
       go_wp2
       go_ret;exact ⟨_,rfl,λe=>absurd (j1.out e) F0.out,Ha.out.trans (He.out.mono Ha.out.size)⟩
     ·have Ht:k=pcs.length:=by omega
      subst Ht
      go_wp2
      go_ret;exact ⟨_,rfl,λ_=>rfl,Ha.out⟩
   ·have hb:((pcs.length:Int) == (qcs.length:Int))=false:=by simp;omega
    go_enter func59,ntmps59
    have E3:=qI e3;clear e3
    go_wp2
    go_ret;exact ⟨_,rfl,λe=>absurd (congrArg List.length (k3.out e)) E3.out,Hc.out⟩
  ·have E2:=qI e2;have e2':(pp == qp)=false:=by simpa using e2
   clear e2;have Hc:=qI (((Q0 w.heap.size w).alloc (lR) (fh pn pp a1 pcs.length c1)).alloc (by simp) (fh pn qp a2 qcs.length c2))
   go_enter func59,ntmps59
   go_wp2
   go_ret;exact ⟨_,rfl,λe=>absurd (k2.out e) E2.out,Hc.out⟩
 ·have E1:=qI e1;have e1':(pn.toList == qn.toList)=false:=by rw [Qr];intro h;exact e1 (ByteArray.ext (by rw [Qs,Qs] at h;exact Array.toList_inj.1 h))
  clear e1;have Hc:=qI (((Q0 w.heap.size w).alloc (lR) (fh pn pp a1 pcs.length c1)).alloc (by simp) (fh qn qp a2 qcs.length c2))
  go_enter func59,ntmps59
  go_wp2
  go_ret;exact ⟨_,rfl,λe=>absurd (k1.out e) E1.out,Hc.out⟩
end
section
open RowKit
open Qos (Nd Ct Pd nd ct pd)
open Ost (good val dp lO)
open S1 (Mx)
end
section
open RowKit Shelf
open Ost (dL)
attribute [local go_sem] Oper.semAt_some
theorem Apart.below {K:Nat->Prop} {A B:World} (h:Apart K A B) {w:World} {N:Nat} (hb:Below N w A) (hN:N<=w.heap.size) (hK:∀ j,K j->N<=j):Below N w B:=
 ⟨h.os.trans hb.os,h.tape.trans hb.tape,h.output.trans hb.output,Q5 hb.size h.size,λj hj=>(h.block j (Q1 (Q1 hj hN) hb.size) (λe=>by have:=hK j e;omega)).trans (hb.block j hj)⟩
theorem vY:(prog.info? 3).map (λi=>(i.zero,i.size,i.bytes))=some (some (.int .i64 0),1,8):=by kernel_rfl
theorem fF {w:World} {base:Nat} {e:TypeId} {size:Nat} {v:Value} {n:Nat} {xs:List Value} (h:w.ownsRow base e size v n xs):∃ ao c,v=.slice ao n c:=by
 rcases h.2 with ⟨rfl,h0⟩|⟨g,cap,cur,rfl,_⟩
 ·exact ⟨none,0,by rw [h0]⟩
 ·exact ⟨_,_,rfl⟩
end
section
open RowKit Shelf
open Ost (dL dp)
open Qos (Nd nd)
open S1 (Mx)
attribute [local go_sem] Oper.semAt_some
theorem Fy:(prog.info? 109).map (λi=>(i.zero,i.size,i.bytes))=some (some (.agg #[.string ByteArray.empty,.int .i64 0]),2,24):=by kernel_rfl
end
section
open RowKit
open Qos (Nd Ct Pd nd ct pd)
open Sv (Gv Hd gv hd)
def Fz (W:World) (Q:Nat->Prop) (v:Value) (ds:List Nd):Prop:=
 ∃ ao c,v=.slice ao ds.length c/\ds.length<=maxLen/\(0<ds.length->∃ b o,ao=some ⟨b,o,none⟩/\Q b/\b<W.heap.size/\∀ k,k<ds.length->W.cell? ⟨b,o+k*2,none⟩=some (.string (nd ds k).kind)/\W.cell? ⟨b,o+k*2+1,none⟩=some (.int .i64 (nd ds k).many))
def FA (W:World) (Q:Nat->Prop) (v:Value) (xs:List Int):Prop:=
 ∃ ao c,v=.slice ao xs.length c/\(xs.length<=c/\c<=maxLen)/\(0<xs.length->∃ b o,ao=some ⟨b,o,none⟩/\Q b/\b<W.heap.size/\∀ k,k<xs.length->W.cell? ⟨b,o+k,none⟩=some (.int .i64 (xs.getD k 0)))
def FB (p:Ct × Value):List Value:=cH p.1 p.2
def FC (p:Gv × Value):List Value:=[.int .u64 p.1.cp,p.2]
def FD (l:List (Ct × Value)):List Value:=l.flatMap FB
def FE (l:List (Gv × Value)):List Value:=l.flatMap FC
structure Hp where
 nm:ByteArray
 pr:Int
 cl:List (Ct × Value)
 gl:List (Gv × Value)
 cv:Value
 gv:Value
def Hp.hd (p:Hp):Hd:=⟨⟨p.nm,p.pr,p.cl.map Prod.fst⟩,p.gl.map Prod.fst⟩
def FF (p:Hp):List Value:=[.string p.nm,.int .i64 p.pr,p.cv,p.gv]
def FG (l:List Hp):List Value:=l.flatMap FF
def oB (base:Nat) (v:Value) (la:Hp) (j:Nat):Prop:=base<=j/\v.ownBlock≠some j/\la.cv.ownBlock≠some j/\la.gv.ownBlock≠some j
theorem vZ {K:Nat->Prop} {A B:World} {base:Nat} {e:TypeId} {size:Nat} {v:Value} {n:Nat} {xs:List Value} (hr:A.ownsRow base e size v n xs) (h:Apart K A B) (hK:∀ j,v.ownBlock=some j->¬ K j):B.ownsRow base e size v n xs:=by
 obtain ⟨h1,h2⟩:=hr;refine ⟨h1,h2.imp id ?_⟩;rintro ⟨g,cap,cur,rfl,hg,hh,r⟩;exact ⟨g,cap,cur,rfl,hg,(h.block g (gS hh).1 (hK g rfl)).trans hh,r⟩
structure v6 (W:World) (base:Nat) (Q:Nat->Prop) (p:Hp):Prop where
 rc:W.ownsRow base 63 6 p.cv p.cl.length (FD p.cl)
 rg:W.ownsRow base 69 2 p.gv p.gl.length (FE p.gl)
 nc:∀ x∈p.cl,Fz W Q x.2 x.1.ds
 ng:∀ x∈p.gl,FA W Q x.2 x.1.dv/\x.1.cp<18446744073709551616
structure FH (W:World) (base:Nat) (v:Value) (el:List Hp) (la:Hp):Prop where
 row:W.ownsRow base 57 4 v (el.length+1) (FG (el++[la]))
 hel:∀ p∈el,v6 W base (oB base v la) p/\(∀ j,p.cv.ownBlock=some j->oB base v la j)/\(∀ j,p.gv.ownBlock=some j->oB base v la j)
 hla:v6 W base (oB base v la) la
 vc:∀ j,la.cv.ownBlock=some j->v.ownBlock≠some j
 vg:∀ j,la.gv.ownBlock=some j->v.ownBlock≠some j
 cg:∀ j,la.cv.ownBlock=some j->la.gv.ownBlock≠some j
end
