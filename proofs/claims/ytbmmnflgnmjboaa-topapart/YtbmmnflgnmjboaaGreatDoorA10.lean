import Derived.Test.YtbmmnflgnmjboaaGreatDoorA9
import Derived.Test.YtbmmnflgnmjboaaGreatDoorCards
import Derived.Test.YtbmmnflgnmjboaaGreatDoorTie
import Derived.Lib.ItoaMem
import Derived.Laws.ResultCell
import Derived.ShutString
import Derived.Deep.DeepHandedRow
import Derived.Lib.LaidTab
import Derived.Stop.LaidErr
set_option maxRecDepth 100000
set_option maxHeartbeats 16000000
namespace Go.Proofs.YtbmmnflgnmjboaaGreatDoor
section
namespace Sv
open Qos (Nd Ct Pd nd ct pd ag leS)
open Dvs (first aW)
structure Gv where
 cp:Nat
 dv:List Int
def gv0:Gv:=⟨0,[]⟩
instance:Inhabited Gv:=⟨gv0⟩
def gv (l:List Gv) (k:Nat):Gv:=l.getD k gv0
structure Hd where
 pod:Pd
 gs:List Gv
def hd0:Hd:=⟨Qos.pd0,[]⟩
instance:Inhabited Hd:=⟨hd0⟩
def hd (l:List Hd) (k:Nat):Hd:=l.getD k hd0
def dec (n:Int):List UInt8:=Lib.decDigits n.toNat
def ek (l:List UInt8):List UInt8:=if l=[] then [45] else l
def fh (d:Nd):List UInt8:=d.kind.data.toList++[58]++dec d.many
def gN (ds:List Nd):List UInt8:=ek (Lib.join (ds.map fh) [44])
def ik (dv:List Int):List UInt8:=ek (Lib.join (dv.map dec) [44])
def mi (A:Nat):List UInt8:=ek (Ost.txt A)
def dQ (c:Ct):List (List UInt8):=[[99,111,110,116],c.nm.data.toList,dec c.am,dec c.ab,dec c.cm,dec c.cb,gN c.ds]
def dh (g:Gv):List (List UInt8):=[mi g.cp,ik g.dv]
def fC (p:Pd):List (List UInt8):=[[112,111,100],p.nm.data.toList,dec p.pr]
def fD (ws:List (List UInt8)):List UInt8:=Lib.join ws [32]++[10]
def il (c:Ct) (g:Gv):List UInt8:=fD (dQ c++dh g)
def fY (p:Pd):List UInt8:=fD (fC p)
def dR (h:Hd):Nat->List UInt8
 | 0=>[]
 | k+1=>dR h k++il (ct h.pod.cs k) (gv h.gs k)
def fi (h:Hd):List UInt8:=fY h.pod++dR h h.pod.cs.length
def eJ (hs:List Hd):Nat->List UInt8
 | 0=>[]
 | k+1=>eJ hs k++fi (hd hs k)
def body (hs:List Hd):List UInt8:=eJ hs hs.length
def cU (b:List UInt8):List UInt8:=[115,117,109,32]++Lib.decDigits (fnv b)++[10]
def aI (hs:List Hd):List UInt8:=body hs++cU (body hs)
def eK (dv:List Int) (j:Nat):Nat:=if dv.getD j 0<0\/15<dv.getD j 0\/(0<j/\dv.getD j 0<=dv.getD (j - 1) 0) then 3 else 0
def cr (dv:List Int):Nat:=if 16<dv.length then 2 else first (eK dv) dv.length
def gsF (gs:List Gv):Nat:=first (λk=>cr (gv gs k).dv) gs.length
def dE (h:Hd) (lowB:Bool):Nat:=
 if ag h.pod≠0 then ag h.pod else if lowB=true\/h.gs.length≠h.pod.cs.length then 3 else gsF h.gs
def jA (hs:List Hd) (i:Nat):Bool:=decide (0<i) && leS (hd hs i).pod.nm (hd hs (i - 1)).pod.nm
def im (hs:List Hd) (i:Nat):Nat:=dE (hd hs i) (jA hs i)
def aE (hs:List Hd):Nat:=if 12<hs.length then 2 else first (im hs) hs.length
def OkG (g:Gv):Prop:=g.cp<18446744073709551616/\g.dv.length<=16/\∀ x∈g.dv,0<=x/\x<=15
def OkN (d:Nd):Prop:=aW d.kind=true/\1<=d.many/\d.many<=16
def OkC (c:Ct):Prop:=aW c.nm=true/\(0<=c.am/\c.am<=1000000)/\(0<=c.ab/\c.ab<=1125899906842624)/\(0<=c.cm/\c.cm<=1000000)/\(0<=c.cb/\c.cb<=1125899906842624)/\c.ds.length<=3/\∀ d∈c.ds,OkN d
def OkP (p:Pd):Prop:=aW p.nm=true/\(0<=p.pr/\p.pr<=1000)/\p.cs.length<=3/\∀ c∈p.cs,OkC c
def OkH (h:Hd):Prop:=OkP h.pod/\h.gs.length=h.pod.cs.length/\∀ g∈h.gs,OkG g
def OkL (hs:List Hd):Prop:=hs.length<=12/\∀ h∈hs,OkH h
theorem vz {ds:List Nd} {d:Nd} (h:d∈ds):∃ k,k<ds.length/\nd ds k=d:=by
 obtain ⟨k,hk,rfl⟩:=List.getElem_of_mem h;exact ⟨k,hk,by simp [nd,hk]⟩
theorem vA {ds:List Ct} {d:Ct} (h:d∈ds):∃ k,k<ds.length/\ct ds k=d:=by
 obtain ⟨k,hk,rfl⟩:=List.getElem_of_mem h;exact ⟨k,hk,by simp [ct,hk]⟩
theorem ov {ds:List Gv} {d:Gv} (h:d∈ds):∃ k,k<ds.length/\gv ds k=d:=by
 obtain ⟨k,hk,rfl⟩:=List.getElem_of_mem h;exact ⟨k,hk,by simp [gv,hk]⟩
theorem ox {ds:List Hd} {d:Hd} (h:d∈ds):∃ k,k<ds.length/\hd ds k=d:=by
 obtain ⟨k,hk,rfl⟩:=List.getElem_of_mem h;exact ⟨k,hk,by simp [hd,hk]⟩
theorem EM {ds:List Int} {d:Int} (h:d∈ds):∃ k,k<ds.length/\ds.getD k 0=d:=by
 obtain ⟨k,hk,rfl⟩:=List.getElem_of_mem h;exact ⟨k,hk,by simp [hk]⟩
theorem jB {ds:List Ct} {k:Nat} (h:k<ds.length):ct ds k∈ds:=by simp [ct,h]
theorem oy {ds:List Gv} {k:Nat} (h:k<ds.length):gv ds k∈ds:=by simp [gv,h]
theorem kb {ds:List Hd} {k:Nat} (h:k<ds.length):hd ds k∈ds:=by simp [hd,h]
theorem EN {ds:List Nd} (h:first (Qos.ef ds) ds.length=0):∀ d∈ds,OkN d:=by
 intro d hd;obtain ⟨k,hk,rfl⟩:=vz hd
 have:=Dvs.cS h k hk
 unfold Qos.ef at this
 split at this
 ·cases this
 ·rename_i h1
  split at this
  ·cases this
  ·rename_i h2
   rw [not_or] at h1 h2;exact ⟨by simpa using h1.1,by omega,by omega⟩
theorem EO {cs:List Ct} {k:Nat} (h:Qos.b6 cs k=0):OkC (ct cs k):=by
 have h1:=Qos.vf h;unfold Qos.b6 at h
 split at h
 ·cases h
 rename_i hn
 split at h
 ·cases h
 split at h
 ·cases h
 split at h
 ·cases h
 split at h
 ·cases h
 rename_i h3
 have a:=Qos.om h1.1;have b:=Qos.om h1.2.1;exact ⟨by simpa using hn,a.1,a.2,b.1,b.2,by omega,EN h⟩
theorem fE {p:Pd} (h:ag p=0):OkP p:=by
 obtain ⟨h1,h2,h3,h4⟩:=Qos.me h;refine ⟨h1,h2,h3.2,λc hc=>?_⟩;obtain ⟨k,hk,rfl⟩:=vA hc;exact EO (Dvs.cS h4 k hk)
theorem vB {dv:List Int} (h:cr dv=0):dv.length<=16/\∀ x∈dv,0<=x/\x<=15:=by
 unfold cr at h
 split at h
 ·cases h
 refine ⟨by omega,λx hx=>?_⟩;obtain ⟨k,hk,rfl⟩:=EM hx
 have:=Dvs.cS h k hk
 unfold eK at this
 split at this
 ·cases this
 ·omega
theorem EP {h:Hd} {b:Bool} (e:dE h b=0) (hc:∀ g∈h.gs,g.cp<18446744073709551616):OkH h:=by
 unfold dE at e
 split at e
 ·exact absurd e (by assumption)
 rename_i h1
 split at e
 ·cases e
 rename_i h2
 rw [not_or] at h2;refine ⟨fE (by omega),by omega,λg hg=>?_⟩;obtain ⟨k,hk,rfl⟩:=ov hg;exact ⟨hc _ hg,vB (Dvs.cS e k hk)⟩
theorem qF {hs:List Hd} (e:aE hs=0) (hc:∀ h∈hs,∀ g∈h.gs,g.cp<18446744073709551616):OkL hs:=by
 unfold aE at e
 split at e
 ·cases e
 refine ⟨by omega,λh hh=>?_⟩;obtain ⟨k,hk,rfl⟩:=ox hh;exact EP (Dvs.cS e k hk) (hc _ hh)
theorem ip {s:ByteArray} (h:aW s=true):0<s.data.toList.length/\s.data.toList.length<=8:=by
 have e:s.data.toList.length=s.size:=by simp
 rw [e];simp only [aW,Bool.and_eq_true,Qp] at h;exact ⟨h.1.1,h.1.2⟩
theorem qG (n:Nat) (h:n<18446744073709551616):(Lib.decDigits n).length<=20:=by rw [Lib.decDigits_length];exact Lib.nDigits_le20 _ h
theorem iQ (n:Int) (h:n<=1125899906842624):(dec n).length<=20:=qG _ (by omega)
theorem kc (c:UInt8) (m:Nat):∀ (xs:List (List UInt8)),(∀ x∈xs,x.length<=m)->(Lib.join xs [c]).length<=xs.length*(m+1):=by
 intro xs h;have key:∀ r:List (List UInt8),(∀ x∈r,x.length<=m)->Lib.lens r<=r.length*m:=by
  intro r
  induction r with
  | nil=>intro _;simp [Lib.lens]
  | cons x r ih=>
   intro h;have h1:=ih λy hy=>h y (by simp [hy])
   have h2:=h x (by simp);simp only [Lib.lens,Qq,List.sum_cons,Qg,Nat.add_mul,Nat.one_mul] at h1 ⊢;omega
 cases xs with
 | nil=>simp [Lib.join_nil]
 | cons x r=>
  rw [Lib.join_length];have h1:=key _ h;simp only [Qg,List.length_nil,Nat.mul_add,Nat.add_mul,Nat.one_mul,Nat.mul_one,Qd] at h1 ⊢;omega
theorem qH {l:List UInt8} {m:Nat} (h:l.length<=m):(ek l).length<=m+1:=by
 unfold ek;split
 ·simp
 ·omega
theorem vD {d:Nd} (h:OkN d):(fh d).length<=29:=by
 have h1:=ip h.1;have h2:=iQ d.many (by have:=h.2.2;omega);simp only [fh,Q2,Qg,List.length_nil];omega
theorem EQ {ds:List Nd} (h:∀ d∈ds,OkN d) (hl:ds.length<=3):(gN ds).length<=91:=by
 refine qH (Q5 (kc 44 29 _ λx hx=>?_) ?_)
 ·obtain ⟨d,hd,rfl⟩:=Qk.1 hx;exact vD (h d hd)
 ·rw [Q9];omega
theorem ER {dv:List Int} (h:∀ x∈dv,0<=x/\x<=15) (hl:dv.length<=16):(ik dv).length<=337:=by
 refine qH (Q5 (kc 44 20 _ λx hx=>?_) ?_)
 ·obtain ⟨d,hd,rfl⟩:=Qk.1 hx;exact iQ d (by have:=h d hd;omega)
 ·rw [Q9];omega
theorem ES (A:Nat):(mi A).length<=301:=qH (Ost.sU A)
theorem vE {c:Ct} (h:OkC c):∀ x∈dQ c,x.length<=100:=by
 obtain ⟨h1,h2,h3,h4,h5,h6,h7⟩:=h;have a:=ip h1;have b1:=iQ c.am (by omega);have b2:=iQ c.ab (by omega);have b3:=iQ c.cm (by omega);have b4:=iQ c.cb (by omega);have b5:=EQ h7 h6;intro x hx;simp only [dQ,List.mem_cons,List.not_mem_nil,or_false] at hx
 rcases hx with rfl|rfl|rfl|rfl|rfl|rfl|rfl <;> first|omega|simp
theorem vF {g:Gv} (h:OkG g):∀ x∈dh g,x.length<=400:=by
 have a:=ES g.cp;have b:=ER h.2.2 h.2.1;intro x hx;simp only [dh,List.mem_cons,List.not_mem_nil,or_false] at hx
 rcases hx with rfl|rfl <;> omega
theorem vG {p:Pd} (h:OkP p):∀ x∈fC p,x.length<=100:=by
 have a:=ip h.1;have b:=iQ p.pr (by have:=h.2.1;omega);intro x hx;simp only [fC,List.mem_cons,List.not_mem_nil,or_false] at hx
 rcases hx with rfl|rfl|rfl <;> first|omega|simp
theorem vI {c:Ct} {g:Gv} (hc:OkC c) (hg:OkG g):(il c g).length<=4000:=by
 have:=kc 32 400 (dQ c++dh g) λx hx=>by
  rcases Qi.1 hx with h|h
  ·have:=vE hc x h;omega
  ·exact vF hg x h
 simp only [il,fD,Q2,Qg,List.length_nil] at this ⊢;simp only [dQ,dh,Qg,List.length_nil] at this;simp only [dQ,dh];omega
theorem qJ {p:Pd} (h:OkP p):(fY p).length<=400:=by
 have:=kc 32 100 (fC p) (vG h)
 simp only [fY,fD,Q2,Qg,List.length_nil];simp only [fC,Qg,List.length_nil] at this ⊢;omega
theorem vJ {h:Hd} (e:OkH h) {k:Nat} (hk:k<h.pod.cs.length):OkC (ct h.pod.cs k)/\OkG (gv h.gs k):=
 ⟨e.1.2.2.2 _ (jB hk),e.2.2 _ (oy (by rw [e.2.1];exact hk))⟩
theorem qK {h:Hd} (e:OkH h):∀ k,k<=h.pod.cs.length->(dR h k).length<=k*4000:=by
 intro k
 induction k with
 | zero=>intro _;simp [dR]
 | succ k ih=>
  intro hk;have h1:=ih (by omega);obtain ⟨h2,h3⟩:=vJ e (k:=k) (by omega)
  have:=vI h2 h3
  rw [dR,Q2];omega
theorem vK {h:Hd} (e:OkH h):(fi h).length<=13000:=by
 have h1:=qK e _ (lR);have h2:=qJ e.1;have h3:=e.1.2.2.1;rw [fi,Q2];omega
theorem vL {hs:List Hd} (e:OkL hs):∀ k,k<=hs.length->(eJ hs k).length<=k*13000:=by
 intro k
 induction k with
 | zero=>intro _;simp [eJ]
 | succ k ih=>
  intro hk;have h1:=ih (by omega);have h2:=vK (e.2 _ (kb (k:=k) (by omega)));rw [eJ,Q2];omega
theorem ET {hs:List Hd} (e:OkL hs):(body hs).length<=156000:=by
 have:=vL e _ (lR)
 have h2:=e.1;unfold body;omega
theorem mj (b:List UInt8):(cU b).length<=25:=by
 have:=qG (fnv b) (Q1 (pq b) (by omega))
 simp only [cU,Q2,Qg,List.length_nil];omega
end Sv
end
section
open Go.ChangeShapes Go.WideShapes Go.ChangeAt Go.RowKit
open Qos (Nd Ct Pd nd0 ct0 pd0 nd ct pd)
open Sv (Gv Hd gv hd)
def bu (w:World) (v:Value) (xs:List Int):Prop:=
 ∃ ao c,v=.slice ao xs.length c/\(xs.length<=c/\c<=maxLen)/\(0<xs.length->∃ b o,ao=some ⟨b,o,none⟩/\b<w.heap.size/\∀ k,k<xs.length->w.cell? ⟨b,o+k,none⟩=some (.int .i64 (xs.getD k 0)))
def kU (w:World) (b o:Nat) (gs:List Gv) (dv:Nat->Value):Prop:=
 b<w.heap.size/\∀ k,k<gs.length->(w.cell? ⟨b,o+k*2,none⟩=some (.int .u64 (gv gs k).cp)/\w.cell? ⟨b,o+k*2+1,none⟩=some (dv k)/\(gv gs k).cp<18446744073709551616)/\bu w (dv k) (gv gs k).dv
def bl (w:World) (v:Value) (gs:List Gv):Prop:=
 ∃ ao c,v=.slice ao gs.length c/\(gs.length<=c/\c<=maxLen)/\(0<gs.length->∃ b o dv,ao=some ⟨b,o,none⟩/\kU w b o gs dv)
def qL (h:Hd) (cv gvv:Value):Value:=.agg #[.string h.pod.nm,.int .i64 h.pod.pr,cv,gvv]
def kV (w:World) (b o:Nat) (hs:List Hd) (cv gvv:Nat->Value):Prop:=
 b<w.heap.size/\∀ k,k<hs.length->(w.cell? ⟨b,o+k*4,none⟩=some (.string (hd hs k).pod.nm)/\w.cell? ⟨b,o+k*4+1,none⟩=some (.int .i64 (hd hs k).pod.pr)/\w.cell? ⟨b,o+k*4+2,none⟩=some (cv k)/\w.cell? ⟨b,o+k*4+3,none⟩=some (gvv k))/\aD w (cv k) (hd hs k).pod.cs/\bl w (gvv k) (hd hs k).gs
def aQ (w:World) (v:Value) (hs:List Hd):Prop:=
 ∃ ao c,v=.slice ao hs.length c/\(hs.length<=c/\c<=maxLen)/\(0<hs.length->∃ b o cv gvv,ao=some ⟨b,o,none⟩/\kV w b o hs cv gvv)
theorem bu.below {w w':World} {v:Value} {xs:List Int} (h:bu w v xs) (hb:Below w.heap.size w w'):bu w' v xs:=by
 obtain ⟨ao,c,hv,hm,hr⟩:=h;refine ⟨ao,c,hv,hm,λh0=>?_⟩;obtain ⟨b,o,ha,hlt,hc⟩:=hr h0;exact ⟨b,o,ha,Q1 hlt hb.size,λk hk=>(hb.cell (p:=⟨b,o+k,none⟩) hlt).trans (hc k hk)⟩
theorem kU.below {w w':World} {b o:Nat} {gs:List Gv} {dv:Nat->Value} (h:kU w b o gs dv) (hb:Below w.heap.size w w'):kU w' b o gs dv:=
 ⟨Q1 h.1 hb.size,λk hk=>by
  obtain ⟨⟨h1,h2,h3⟩,h4⟩:=h.2 k hk;exact ⟨⟨(hb.cell (p:=⟨b,o+k*2,none⟩) h.1).trans h1,(hb.cell (p:=⟨b,o+k*2+1,none⟩) h.1).trans h2,h3⟩,h4.below hb⟩⟩
theorem bl.below {w w':World} {v:Value} {gs:List Gv} (h:bl w v gs) (hb:Below w.heap.size w w'):bl w' v gs:=by
 obtain ⟨ao,c,hv,hm,hr⟩:=h;refine ⟨ao,c,hv,hm,λh0=>?_⟩;obtain ⟨b,o,dv,ha,hc⟩:=hr h0;exact ⟨b,o,dv,ha,hc.below hb⟩
theorem kV.below {w w':World} {b o:Nat} {hs:List Hd} {cv gvv:Nat->Value} (h:kV w b o hs cv gvv) (hb:Below w.heap.size w w'):kV w' b o hs cv gvv:=
 ⟨Q1 h.1 hb.size,λk hk=>by
  obtain ⟨⟨h1,h2,h3,h4⟩,h5,h6⟩:=h.2 k hk;exact ⟨⟨(hb.cell (p:=⟨b,o+k*4,none⟩) h.1).trans h1,(hb.cell (p:=⟨b,o+k*4+1,none⟩) h.1).trans h2,(hb.cell (p:=⟨b,o+k*4+2,none⟩) h.1).trans h3,(hb.cell (p:=⟨b,o+k*4+3,none⟩) h.1).trans h4⟩,h5.below hb,h6.below hb⟩⟩
theorem aQ.below {w w':World} {v:Value} {hs:List Hd} (h:aQ w v hs) (hb:Below w.heap.size w w'):aQ w' v hs:=by
 obtain ⟨ao,c,hv,hm,hr⟩:=h;refine ⟨ao,c,hv,hm,λh0=>?_⟩;obtain ⟨b,o,cv,gvv,ha,hc⟩:=hr h0;exact ⟨b,o,cv,gvv,ha,hc.below hb⟩
theorem aQ.cps {w:World} {v:Value} {hs:List Hd} (h:aQ w v hs):∀ x∈hs,∀ g∈x.gs,g.cp<18446744073709551616:=by
 intro x hx g hg;obtain ⟨k,hk,rfl⟩:=Sv.ox hx;obtain ⟨ao,c,_,_,hr⟩:=h;obtain ⟨b,o,cv,gvv,_,hc⟩:=hr (by omega);obtain ⟨_,_,h6⟩:=hc.2 k hk;obtain ⟨j,hj,rfl⟩:=Sv.ov hg;obtain ⟨ao,c,_,_,hr⟩:=h6;obtain ⟨b,o,dv,_,hc⟩:=hr (by omega);exact (hc.2 j hj).1.2.2
section
variable {H:Type} {enc:TypeId × Value->H} {W:World}
end
end
section
open RowKit Go.Sort
open S1 (Tab below_grow)
theorem holds_zero0 (w:World) (T:TypeId) (n:Nat) (hs:n<=24):Holds (λ(b:UInt8)=>Value.int .u8 (b.toNat:Int)) (w.alloc (.cells Lib.zeros24 T)) w.heap.size 0 (Array.replicate n (0:UInt8)):=λj hj=>by
 have Ha:j<n:=by simpa using hj
 refine ⟨?_,World.frozen?_alloc_new _ _ _ _⟩;rw [World.cell?_alloc_new,Lib.zeros24_at _ (by omega),getElem!_pos _ j hj]
 simp
theorem EU (w:World) (o:Obj) (dk:Array UInt8) (k:Nat):∃ os,(putRow (λ(b:UInt8)=>Value.int .u8 (b.toNat:Int)) (w.alloc o) w.heap.size 0 dk).drewN k=grow (w.drewN k) os:=by
 rw [alloc_eq_grow];obtain ⟨os',_,e⟩:=putRow_grow_new (λ(b:UInt8)=>Value.int .u8 (b.toNat:Int)) w #[o] w.heap.size 0 dk (lR);exact ⟨os',by rw [e];rfl⟩
theorem EV (u:Nat) (w:World) (hu64:u<18446744073709551616) (htab:Tab w) :
  Calls Tryz.prog 225 #[.int .u64 u,.int .i64 10] w λe w'=>e=.returned (.string ⟨(Lib.decDigits u).toArray⟩)/\Below w.heap.size w w':=by
 by_cases hs:u<100
 ·have hd:decide ((u:Int)<100)=true:=Qc (by omega)
  go_enter Tryz.func225,Tryz.ntmps225
  go_wp2_with fail
  refine (Tryz.internal_strconv_small u hs _).mono ?_;rintro e w' ⟨rfl,rfl⟩
  go_wp2
  go_ret;exact ⟨rfl,Q0 _ _⟩
 ·have Hc:1<=u:=by omega
  have hd:decide ((u:Int)<100)=false:=Q7 (by omega);have He:Lib.nDigits u<=20:=by have:=Lib.numDigits_eq u Hc hu64;split at this <;> omega
  have Hj:∀ W,(Instr.sliceAt 358 (.pointer (some ⟨w.heap.size,0,none⟩)) none (some (.int .i64 (Lib.nDigits u:Int))) none).run Tryz.prog W=.ok (.slice (some ⟨w.heap.size,0,none⟩) (Lib.nDigits u) 24) W:=λW=>by
   have Hh:Tryz.prog.arrayLen 358=24:=by kernel_rfl
   rw [run_sliceAt_array_h W 358 ⟨w.heap.size,0,none⟩ (by kernel_rfl) .i64 (Lib.nDigits u:Int) (by omega) (by rw [Hh];omega)];go_simp
  have Hb:=holds_zero0 w 358 (Lib.nDigits u) (by omega);have Ha:=Tryz.internal_strconv_formatBase10 w.heap.size 0 24 u (Array.replicate (Lib.nDigits u) 0) (w.alloc (.cells Lib.zeros24 358)) Hb (by rw [Array.size_replicate];exact Lib.lt_pow_nDigits u) hu64 (by rw [Array.size_replicate];omega);rw [Array.size_replicate] at Ha;have Hf:=Lib.hid Hb;have Hi:=qI Ha;have Hg:=qI (Lib.tabIs_alloc htab (.cells Lib.zeros24 358));clear Hb Ha htab
  go_enter Tryz.func225,Tryz.ntmps225
  go_wp2_with fail
  refine (Tryz.internal_strconv_numDigits u Hc hu64 _ Hg.out).mono ?_;rintro e w' ⟨rfl,rfl⟩
  go_wp2_with fail
  refine Hi.out.mono ?_;rintro e w' ⟨rfl,k,v',dk,rfl,hF⟩;have Hk:(convert 235 9 (.slice (some ⟨w.heap.size,0,none⟩) (Lib.nDigits u) 24)).run Tryz.prog ((putRow (λ(b:UInt8)=>Value.int .u8 (b.toNat:Int)) (w.alloc (.cells Lib.zeros24 358)) w.heap.size 0 dk).drewN k)=.ok (.string ⟨(Lib.decDigits u).toArray⟩) ((putRow (λ(b:UInt8)=>Value.int .u8 (b.toNat:Int)) (w.alloc (.cells Lib.zeros24 358)) w.heap.size 0 dk).drewN k):=by
   have h:=run_convert_bytes_back (P:=Tryz.prog) ((putRow (λ(b:UInt8)=>Value.int .u8 (b.toNat:Int)) (w.alloc (.cells Lib.zeros24 358)) w.heap.size 0 dk).drewN k) 235 9 5 ⟨w.heap.size,0,none⟩ 24 (Lib.decDigits u) Tryz.underlying235 Tryz.underlying5 Tryz.underlying9 (λj hj=>by
    rw [Lib.row_is_numeral hF j hj,Lib.add_plain,World.cell?_drewN];exact cell?_putRow (λ(b:UInt8)=>Value.int .u8 (b.toNat:Int)) _ w.heap.size 0 _ dk Hf.out (by rw [hF.size,Array.size_replicate]) j (by rw [hF.size];rw [Lib.decDigits_length] at hj;exact hj))
   rw [Lib.decDigits_length] at h;exact h
  go_wp2
  go_ret;obtain ⟨os,eo⟩:=EU w (.cells Lib.zeros24 358) dk k;exact ⟨rfl,by rw [eo];exact below_grow _ w (lR) k os⟩
theorem EW (u:Nat) (w:World) (hu64:u<18446744073709551616) (htab:Tab w) :
  Calls Tryz.prog 178 #[.int .u64 u,.int .i64 10] w λe w'=>e=.returned (.string ⟨(Lib.decDigits u).toArray⟩)/\Below w.heap.size w w':=by
 have HT:=qI htab;clear htab
 go_enter Tryz.func178,Tryz.ntmps178
 go_wp2_with fail
 refine (EV u w hu64 HT.out).mono ?_;rintro e w1 ⟨rfl,hb⟩
 go_wp2
 go_ret;exact ⟨rfl,hb⟩
theorem kW (a b:List UInt8):(ByteArray.mk a.toArray)++(ByteArray.mk b.toArray)=ByteArray.mk (a++b).toArray:=by
 apply ByteArray.ext;simp
theorem EX (b:List UInt8) (w:World) (hb:b.length<=1000000) (htab:Tab w) :
  Calls Tryz.prog 138 #[.string ⟨b.toArray⟩] w λe w'=>e=.returned (.string ⟨(Sv.cU b).toArray⟩)/\Below w.heap.size w w':=by
 have HT:=qI htab;clear htab;have HS:=qI (AG ⟨b.toArray⟩ w (by unfold maxLen;simp [ByteArray.size];omega));have Hb:Sv.fnv b<4294967296:=Sv.pq b;have hle:=Sv.qG (Sv.fnv b) (by omega);have HE:Hid (Sv.cU b=[115,117,109,32]++Lib.decDigits (Sv.fnv b)++[10]):=rfl;have e0:(ByteArray.mk b.toArray).data.toList=b:=by simp
 rw [e0] at HS;generalize Sv.fnv b=H at *;generalize Sv.cU b=S at *;have ea:=kW [115,117,109,32] (Lib.decDigits H);have eb:=kW ([115,117,109,32]++Lib.decDigits H) [10]
 go_enter Tryz.func138,Tryz.ntmps138
 go_wp2_with fail
 refine HS.out.mono ?_;rintro e w1 ⟨rfl,rfl⟩
 go_wp2_with fail
 refine (EW H _ (by omega) HT.out).mono ?_;rintro e w1 ⟨rfl,Ha⟩
 go_wp2
 go_ret;exact ⟨by rw [HE.out];exact congrArg (λx=>Ending.returned (Value.string x)) eb,Ha⟩
theorem qM (l:List UInt8) (w:World):Calls Tryz.prog 175 #[.string ⟨l.toArray⟩] w λe w'=>e=.returned (.string ⟨(Sv.ek l).toArray⟩)/\w'=w:=by
 have h0:((ByteArray.mk l.toArray).toList.isEmpty)=l.isEmpty:=by rw [Qs]
 by_cases h:l=[]
 ·subst h
  go_enter Tryz.func175,Tryz.ntmps175
  go_wp2
  go_ret;exact ⟨rfl,rfl⟩
 ·have h1:l.isEmpty=false:=by simpa using h
  rw [h1] at h0;have HE:Hid (Sv.ek l=l):=by unfold Hid Sv.ek;rw [if_neg h]
  rw [HE.out]
  go_enter Tryz.func175,Tryz.ntmps175
  go_wp2
  go_ret;exact ⟨rfl,rfl⟩
end
section
namespace Sv
open Qos (Nd Ct Pd nd ct pd ag leS)
open Ost (dp dL lN good val iH jj)
open Dvs (aW)
abbrev Tx:=List UInt8
def qN {α:Type} (f:Tx->Option α):List Tx->Option (List α)
 | []=>some []
 | x :: r=>match f x with
  | none=>none
  | some y=>(qN f r).map (y :: ·)
def vM {α:Type} (f:Tx->Option α) (l:Tx):Option (List α):=if l=[45] then some [] else qN f (dL 44 l)
def EY (l:Tx):Option Nat:=if l=[45] then some 0 else if (lN l).2=0 then some (lN l).1 else none
def wd (ws:List Tx) (k:Nat):Tx:=ws.getD k []
def EZ (num:Tx->Option Int) (need:Tx->Option Nd) (ws:List Tx):Option (Ct × Gv):=
 match num (wd ws 2),num (wd ws 3),num (wd ws 4),num (wd ws 5),vM need (wd ws 6),EY (wd ws 7),vM num (wd ws 8) with
 | some a,some b,some c,some d,some ds,some A,some dv=>some (⟨⟨(wd ws 1).toArray⟩,a,b,c,d,ds⟩,⟨A,dv⟩)
 | _,_,_,_,_,_,_=>none
def E4 (ws:List Tx):Bool:=decide (wd ws 0=[112,111,100]) && decide (ws.length=3)
def E5 (ws:List Tx):Bool:=decide (wd ws 0=[99,111,110,116]) && decide (ws.length=9)
def E6 (h:Hd) (c:Ct) (g:Gv):Hd:=⟨⟨h.pod.nm,h.pod.pr,h.pod.cs++[c]⟩,h.gs++[g]⟩
def E7 (hs:List Hd) (c:Ct) (g:Gv):List Hd:=hs.dropLast++[E6 (hd hs (hs.length - 1)) c g]
def E8 (ws:List Tx) (n:Int):Hd:=⟨⟨⟨(wd ws 1).toArray⟩,n,[]⟩,[]⟩
def step (num:Tx->Option Int) (need:Tx->Option Nd) (hs:List Hd) (ws:List Tx):Option (List Hd):=
 if E4 ws=true then (num (wd ws 2)).map λn=>hs++[E8 ws n]
 else if E5 ws=true/\0<hs.length then (EZ num need ws).map λx=>E7 hs x.1 x.2
 else none
def steps (num:Tx->Option Int) (need:Tx->Option Nd) (hs:List Hd):List (List Tx)->Option (List Hd)
 | []=>some hs
 | ws :: r=>match step num need hs ws with
  | none=>none
  | some hs'=>steps num need hs' r
def E9 (t:Tx):List Tx:=if (dL 10 t).getLast?=some [] then (dL 10 t).dropLast else dL 10 t
def vO (l:Tx):Option Int:=if good 16 l=true then some (val l) else none
def Fa (l:Tx):Option Nd:=(vO (dp 58 l).2.1).map λn=>⟨⟨(dp 58 l).1.toArray⟩,n⟩
def ml (t:Tx):Option (List Hd):=steps vO Fa [] ((E9 t).map (dL 32))
structure Good (num:Tx->Option Int) (need:Tx->Option Nd):Prop where
 num:∀ n:Int,0<=n->n<=1125899906842624->num (dec n)=some n
 need:∀ d:Nd,OkN d->need (fh d)=some d
def vP (h:Hd):Nat->List (List Tx)
 | 0=>[]
 | k+1=>vP h k++[dQ (ct h.pod.cs k)++dh (gv h.gs k)]
def Fb (h:Hd):List (List Tx):=fC h.pod :: vP h h.pod.cs.length
def cT (hs:List Hd):Nat->List (List Tx)
 | 0=>[]
 | k+1=>cT hs k++Fb (hd hs k)
end Sv
end
section
open RowKit
open Qos (Nd Ct Pd nd ct pd)
open Sv (Gv Hd gv hd fh gN ik mi dQ dh fD OkN OkC OkG)
open S1 (Tab strs jW jo kL iJ lS)
theorem qO {w w':World} {base:Nat} {e:TypeId} {size:Nat} {v:Value} {n:Nat} {xs:List Value} (h:w.ownsRow base e size v n xs) (hb:Below w.heap.size w w'):w'.ownsRow base e size v n xs:=
 h.kept (row:=none) ⟨hb.os,hb.tape,hb.output,hb.size,λj hj _=>hb.block j hj⟩ (by cases hv:v.ownBlock <;> simp)
theorem qP (c:UInt8) (v:Value) (xs:List (List UInt8)) (w:World) (base:Nat) (h:w.ownsRow base 9 1 v xs.length (strs xs)) (hn:xs.length<=1000) (hl:(Lib.join xs [c]).length<=1000000) :
  Calls Tryz.prog 220 #[v,.string ⟨#[c]⟩] w λe w'=>e=.returned (.string ⟨(Lib.join xs [c]).toArray⟩)/\Below w.heap.size w w':=by
 rcases kL h with ⟨rfl,h0⟩|⟨g,cap,rfl,hc,hg,Ha⟩
 ·have:xs=[]:=Qe h0
  subst this;refine (Tryz.strings_Join_none none 0 ⟨#[c]⟩ w).mono ?_;rintro e w' ⟨rfl,rfl⟩;exact ⟨rfl,Q0 _ _⟩
 ·have hx:(xs.map λ(b:List UInt8)=>ByteArray.mk b.toArray).map (·.data.toList)=xs:=by
   rw [List.map_map];exact List.map_id'' (λ_=>rfl) xs
  have:=Tryz.strings_Join g 0 cap (xs.map λ(b:List UInt8)=>ByteArray.mk b.toArray) ⟨#[c]⟩ w (λj x hj=>by
   rw [Qd];apply Ha;unfold strs;rw [List.getElem?_map] at hj ⊢;obtain ⟨a,ha,rfl⟩:=Option.map_eq_some_iff.1 hj;rw [ha];rfl) hg (by simp;omega) (by simpa using hc) (by rw [hx];show (Lib.join xs [c]).length<=_;omega)
  rw [hx] at this
  simpa using this
def fF (xs:List Int) (k:Nat):List (List UInt8):=(xs.take k).map Sv.dec
theorem Fc {xs:List Int} {k:Nat} (h:k<xs.length):fF xs (k+1)=fF xs k++[Sv.dec (xs.getD k 0)]:=by
 unfold fF;rw [Qa h,Qj];simp [h]
theorem qQ {xs:List Int} {k:Nat} (h:k<=xs.length):(fF xs k).length=k:=by
 unfold fF;simp;omega
theorem vQ (xs:List Int):fF xs xs.length=xs.map Sv.dec:=by unfold fF;rw [Qh]
theorem Fd (v:Value) (xs:List Int) (w:World) (h:bu w v xs) (hx:∀ x∈xs,0<=x/\x<=15) (hl:xs.length<=16) (htab:Tab w) (hG:0<w.heap.size) :
  Calls Tryz.prog 177 #[v,.func (.func 173) #[] #[]] w λe w'=>e=.returned (.string ⟨(ik xs).toArray⟩)/\Below w.heap.size w w':=by
 obtain ⟨i0,hi,Hl,Hn,Hi⟩:=info_parts iJ;obtain ⟨ao,c,rfl,hm,hr⟩:=h;have HR:=qI hr;have HT:=qI htab;have HX:=qI hx;have HG:=qI hG;clear hr htab hx hG;unfold maxLen at hm;have HJ:Hid (∀ (v:Value) (w1:World),w1.ownsRow w.heap.size 9 1 v (fF xs xs.length).length (strs (fF xs xs.length))->Calls Tryz.prog 220 #[v,.string ⟨#[44]⟩] w1 λe w'=>e=.returned (.string ⟨(Lib.join (fF xs xs.length) [44]).toArray⟩)/\Below w1.heap.size w1 w'):=by
  intro v w1 h;refine qP 44 v _ w1 _ h (by rw [qQ (lR)];omega) ?_;refine Q5 (Sv.kc 44 20 _ λx hx=>?_) (by rw [qQ (lR)];omega);rw [vQ] at hx;obtain ⟨d,hd,rfl⟩:=Qk.1 hx;exact Sv.iQ d (by have:=(HX.out d hd).2;omega)
 have HD:Hid (Sv.ek (Lib.join (fF xs xs.length) [44])=ik xs):=by unfold Hid ik;rw [vQ]
 go_enter Tryz.func177,Tryz.ntmps177
 go_wp2
 go_loopw [5,10] (λr i wr=>∃ k:Nat,k<=xs.length/\i=.int .i64 k/\wr.ownsRow w.heap.size 9 1 r (fF xs k).length (strs (fF xs k))/\Below w.heap.size w wr) (λ_ i _=>xs.length - (intOf i).toNat)
 case atStart=>exact ⟨0,by omega,rfl,Qw _ _ _ _,Q0 _ _⟩
 case round=>
  obtain ⟨k,hk,rfl,He,hB⟩:=hrel
  by_cases hlt:k<xs.length
  ·obtain ⟨b,o,rfl,hb,hc⟩:=HR.out (by omega);have h1:=(hB.cell (p:=⟨b,o+k,none⟩) hb).trans (hc k hlt);have HS:=qI (Fc hlt);have hle:=qQ hk;have Hj:=HX.out (xs.getD k 0) (by simp [hlt]);have Ho:=hB.size;clear hc;generalize xs.getD k 0=x at *;have HI:=qI (lS x wr Hj.1 (by omega) (HT.out.below hB HG.out))
   go_wp2_with fail
   refine HI.out.mono ?_;rintro e w1 ⟨rfl,Hf⟩;have Hg:=qI (hB.trans (Hf.mono hB.size));have Ha:=qO He Hf;have Hm:=Hf.size
   go_wp2_with (at_builtin;refine wpList_append_own _ rfl _ _ 78 rfl w.heap.size 9 i0 (.string ⟨#[]⟩) 1 16 Tryz.underlying78 hi Hl Hn Hi rfl (by decide) _ _ _ rfl (Ha.alloc _) ⟨_,0,none⟩ 1 1 [.string ⟨(Sv.dec x).toArray⟩] rfl rfl (cell_one_new _ _ _) (jo [Sv.dec x]) (by unfold maxLen;omega) (by omega) (by simp;omega) ?_;intro v' w2 Hc Hb _)
   go_roundw
   case rel=>
    refine ⟨k+1,by omega,by go_num,?_,?_⟩
    ·rw [HS.out,jW,Q2];exact Hc
    ·exact (Hg.out.alloc Hg.out.size _).grown Hb (by simp;omega) (λj hj=>(Ha.lt j hj).1)
   case measure=>simp [intOf];omega
  ·have Hk:k=xs.length:=by omega
   subst Hk
   go_wp2_with fail
   refine (HJ.out _ _ He).mono ?_;rintro e w1 ⟨rfl,Hf⟩;have Hh:=hB.trans (Hf.mono hB.size)
   go_wp2_with fail
   refine (qM _ _).mono ?_;rintro e w2 ⟨rfl,rfl⟩
   go_wp2
   go_ret;exact ⟨by rw [<- HD.out];rfl,Hh⟩
end
section
open RowKit
open Qos (Nd Ct Pd nd ct pd ag leS)
open Sv (Gv Hd gv hd cr eK gsF dE im aE jA)
open Dvs (aW first)
theorem bu.slice {w:World} {v:Value} {xs:List Int} (h:bu w v xs):∃ ao c,v=.slice ao xs.length c:=by
 obtain ⟨ao,c,rfl,_⟩:=h;exact ⟨ao,c,rfl⟩
theorem Fe {xs:List Int} (h:16<xs.length):cr xs=2:=by unfold cr;rw [if_pos h]
theorem Ff {xs:List Int} (h:¬ 16<xs.length):cr xs=first (eK xs) xs.length:=by unfold cr;rw [if_neg h]
def ke (xs:List Int) (k:Nat):Int:=if k=0 then -1 else xs.getD (k - 1) 0
theorem Fg (xs:List Int) (k:Nat):ke xs (k+1)=xs.getD k 0:=rfl
theorem Fh {xs:List Int} {k:Nat} (h:first (eK xs) k=0) (hk:k<xs.length):eK xs k=if xs.getD k 0<=ke xs k\/16<=xs.getD k 0 then 3 else 0:=by
 unfold eK
 by_cases h0:k=0
 ·subst h0;rw [show ke xs 0=-1 from rfl]
  by_cases h1:xs.getD 0 0<0\/15<xs.getD 0 0
  ·rw [if_pos (by omega),if_pos (by omega)]
  ·rw [if_neg (by omega),if_neg (by omega)]
 ·have e:ke xs k=xs.getD (k - 1) 0:=by unfold ke;rw [if_neg h0]
  rw [e];have hp:=Dvs.cS h (k - 1) (by omega);unfold eK at hp
  split at hp
  ·cases hp
  rename_i h2
  by_cases h1:xs.getD k 0<=xs.getD (k - 1) 0\/16<=xs.getD k 0
  ·rw [if_pos h1,if_pos (by omega)]
  ·rw [if_neg h1,if_neg (by omega)]
theorem Fi (v:Value) (xs:List Int) (w:World) (h:bu w v xs):Calls Tryz.prog 218 #[v] w λe w'=>e=.returned (ar (cr xs:Nat))/\w'=w:=by
 obtain ⟨ao,c,rfl,hm,hr⟩:=h;have HR:=qI hr;clear hr;have HM:=qI hm;unfold maxLen at hm
 by_cases hn:16<xs.length
 ·have he:=Fe hn;have hd:decide ((16:Int)<(xs.length:Int))=true:=Qc (by omega)
  go_enter Tryz.func218,Tryz.ntmps218
  go_wp2
  go_ret;exact ⟨by rw [he];rfl,rfl⟩
 ·rw [Ff hn];have hl:xs.length<=16:=by omega
  have hd:decide ((16:Int)<(xs.length:Int))=false:=Q7 (by omega)
  go_enter Tryz.func218,Tryz.ntmps218
  go_wp2_with fail
  go_loop [3,12] (λla i=>∃ k:Nat,k<=xs.length/\i=.int .i64 k/\la=.int .i64 (ke xs k)/\Hid (first (eK xs) k=0)) (λ_ i=>xs.length - (intOf i).toNat)
  case atStart=>exact ⟨0,by omega,rfl,rfl,rfl⟩
  case round=>
   obtain ⟨k,hk,rfl,rfl,HF⟩:=hrel
   by_cases hlt:k<xs.length
   ·obtain ⟨b,o,rfl,hb,hc⟩:=HR.out (by omega);have h1:=hc k hlt;have HO:=qI (Dvs.iM (f:=eK xs) (n:=xs.length) HF.out · hlt);have HZ:=qI (Dvs.jt (f:=eK xs) (k:=k) HF.out);have HA:=qI (Fh HF.out hlt);have HN:=qI (Fg xs k);clear hc HF HR HM;generalize xs.getD k 0=x at *;generalize ke xs k=L at *
    by_cases ha:x<=L
    ·have e3:eK xs k=3:=by rw [HA.out,if_pos (.inl ha)]
     have Hc:decide (x<=L)=true:=Qc ha;have Ha:=qI (HO.out (by omega))
     go_wp2
     go_ret;exact ⟨by rw [Ha.out,e3];rfl,rfl⟩
    ·have Hc:decide (x<=L)=false:=Q7 ha
     by_cases hg:16<=x
     ·have e3:eK xs k=3:=by rw [HA.out,if_pos (.inr hg)]
      have Hb:decide (16<=x)=true:=Qc hg;have Ha:=qI (HO.out (by omega))
      go_wp2
      go_ret;exact ⟨by rw [Ha.out,e3];rfl,rfl⟩
     ·have e0:eK xs k=0:=by rw [HA.out,if_neg (by omega)]
      have Hb:decide (16<=x)=false:=Q7 hg;have Hf:=qI (HZ.out e0);clear HO HZ HA
      go_wp2_with fail
      go_round
      case rel=>exact ⟨k+1,by omega,by go_num,by rw [HN.out],Hf⟩
      case measure=>simp [intOf];omega
   ·have He:k=xs.length:=by omega
    subst He
    go_wp2
    go_ret;exact ⟨by rw [HF.out];rfl,rfl⟩
theorem kU.at {w:World} {b o:Nat} {gs:List Gv} {dv:Nat->Value} (h:kU w b o gs dv) {k:Nat} (hk:k<gs.length) :
  w.cell? ⟨b,o+k*2,none⟩=some (.int .u64 (gv gs k).cp)/\w.cell? ⟨b,o+k*2+1,none⟩=some (dv k):=⟨(h.2 k hk).1.1,(h.2 k hk).1.2.1⟩
theorem Fj {h:Hd} {b:Bool} (e:ag h.pod≠0):dE h b=ag h.pod:=by unfold dE;rw [if_pos e]
theorem vR {h:Hd} {b:Bool} (e:ag h.pod=0) (e2:b=true\/h.gs.length≠h.pod.cs.length):dE h b=3:=by unfold dE;rw [if_neg (by omega),if_pos e2]
theorem Fk {h:Hd} {b:Bool} (e:ag h.pod=0) (e2:¬ (b=true\/h.gs.length≠h.pod.cs.length)):dE h b=first (λk=>cr (gv h.gs k).dv) h.gs.length:=by unfold dE;rw [if_neg (by omega),if_neg e2];rfl
theorem aD.sl {w:World} {v:Value} {cs:List Ct} (h:aD w v cs):∃ ao c,v=.slice ao cs.length c:=by
 obtain ⟨ao,c,rfl,_⟩:=h;exact ⟨ao,c,rfl⟩
theorem bl.sl {w:World} {v:Value} {cs:List Gv} (h:bl w v cs):∃ ao c,v=.slice ao cs.length c:=by
 obtain ⟨ao,c,rfl,_⟩:=h;exact ⟨ao,c,rfl⟩
theorem Fl (h:Hd) (cv gvv:Value) (last:ByteArray) (w:World) (hc:aD w cv h.pod.cs) (hg:bl w gvv h.gs) :
  Calls Tryz.prog 170 #[qL h cv gvv,.string last] w λe w'=>e=.returned (ar (dE h (leS h.pod.nm last):Nat))/\Below w.heap.size w w':=by
 unfold qL;have Ha:=qI ((Q0 w.heap.size w).alloc (lR) (.cells #[.string h.pod.nm,.int .i64 h.pod.pr,cv,gvv] 57));have Hi:=hc.below Ha.out;have Hk:=hg.below Ha.out;have Hf:=qI (qE h.pod cv _ Hi);have Ho:=qI Hi;have Hj:=qI Hk;obtain ⟨cao,cc,rfl⟩:=hc.sl;obtain ⟨gao,gc,rfl⟩:=hg.sl;clear hc hg Hi Hk;unfold bV at Hf
 by_cases hp:ag h.pod=0
 ·have e0:ar ((ag h.pod:Nat):Int)=.nilIface:=by rw [hp];rfl
  go_enter Tryz.func170,Tryz.ntmps170
  go_wp2_with fail
  refine Hf.out.mono ?_;rintro e w1 ⟨rfl,hb⟩;rw [e0];have He:=qI (Ha.out.trans (hb.mono Ha.out.size));have hG:=Hj.out.below hb;have c0:w1.cell? ⟨w.heap.size,0,none⟩=some (.string h.pod.nm):=(hb.cell (p:=⟨w.heap.size,0,none⟩) (by simp)).trans (by simp);have c2:w1.cell? ⟨w.heap.size,2,none⟩=some (.slice cao h.pod.cs.length cc):=(hb.cell (p:=⟨w.heap.size,2,none⟩) (by simp)).trans (by simp);have c3:w1.cell? ⟨w.heap.size,3,none⟩=some (.slice gao h.gs.length gc):=(hb.cell (p:=⟨w.heap.size,3,none⟩) (by simp)).trans (by simp);clear hb Hf Ho Hj
  rcases two (leS h.pod.nm last) with hle|hle
  ·have HE:=qI (vR (b:=leS h.pod.nm last) hp (.inl hle));unfold leS at hle
   go_wp2
   go_ret;exact ⟨by rw [HE.out];rfl,He.out⟩
  ·by_cases hl:h.gs.length=h.pod.cs.length
   ·have HE:=qI (Fk (b:=leS h.pod.nm last) hp (by rw [hle];simp [hl]));unfold leS at hle;have Hm:(h.gs.length:Int)=(h.pod.cs.length:Int):=by omega
    obtain ⟨_,_,Hl,hm,hr⟩:=hG;cases Hl;have HR:=qI hr;have HM:=qI hm;clear hr;unfold maxLen at hm;generalize h.gs=gs at *
    go_wp2
    go_loopw [34] (λi wr=>∃ k:Nat,k<=gs.length/\i=.int .i64 k/\Below w.heap.size w wr/\Below w1.heap.size w1 wr/\Hid (first (λk=>cr (gv gs k).dv) k=0)) (λi _=>gs.length - (intOf i).toNat)
    case atStart=>exact ⟨0,by omega,rfl,He.out,Q0 _ _,rfl⟩
    case round=>
     obtain ⟨k,hk,rfl,hB,Hb,HF⟩:=hrel
     by_cases hlt:k<gs.length
     ·obtain ⟨b,o,dv,rfl,Hc⟩:=HR.out (by omega);have Hc:=Hc.below Hb;obtain ⟨d0,d1⟩:=Hc.at hlt;have hI:=(Hc.2 k hlt).2;have HO:Hid (cr (gv gs k).dv≠0->first (λk=>cr (gv gs k).dv) gs.length=cr (gv gs k).dv):=qI λh=>Dvs.iM (f:=λk=>cr (gv gs k).dv) (n:=gs.length) HF.out h hlt
      have HZ:Hid (cr (gv gs k).dv=0->first (λk=>cr (gv gs k).dv) (k+1)=0):=qI λh=>Dvs.jt (f:=λk=>cr (gv gs k).dv) (k:=k) HF.out h
      have Hq:=qI ((Q0 wr.heap.size wr).alloc (lR) (.cells #[.int .u64 (gv gs k).cp,dv k] 69));have Hg:=qI (hB.alloc hB.size (.cells #[.int .u64 (gv gs k).cp,dv k] 69));have Ht:=qI (Hb.alloc Hb.size (.cells #[.int .u64 (gv gs k).cp,dv k] 69));have Hh:=qI (Fi (dv k) _ _ (hI.below Hq.out));obtain ⟨iao,ic,Hr⟩:=hI.slice;clear Hc hI HF hB Hb;generalize (gv gs k).cp=cp at *;generalize cr (gv gs k).dv=F at *;generalize (gv gs k).dv.length=dn at *;generalize dv k=d at *;subst Hr
      go_wp2_with fail
      refine Hh.out.mono ?_;rintro e w5 ⟨rfl,rfl⟩
      by_cases hF:F=0
      ·have Hp:=qI (HZ.out hF);rw [show ar (F:Int)=.nilIface by rw [hF];rfl];clear HO HZ hF Hh
       go_wp2
       go_roundw
       case rel=>exact ⟨k+1,by omega,by go_num,Hg.out,Ht.out,Hp⟩
       case measure=>simp [intOf];omega
      ·have Hn:=qI (HO.out hF);have HP:=qI (ei hF);rw [HP.out];clear HO HZ hF Hh
       go_wp2
       go_ret;exact ⟨by rw [HE.out,Hn.out,HP.out];rfl,Hg.out⟩
     ·have Hs:k=gs.length:=by omega
      subst Hs;have Hg:=qI hB;clear hB Hb
      go_wp2
      go_ret;exact ⟨by rw [HE.out,HF.out];rfl,Hg.out⟩
   ·have HE:=qI (vR (b:=leS h.pod.nm last) hp (.inr hl));unfold leS at hle;have Hm:((h.gs.length:Int) == (h.pod.cs.length:Int))=false:=by simp;omega
    go_wp2
    go_ret;exact ⟨by rw [HE.out];rfl,He.out⟩
 ·have HE:=qI (Fj (b:=leS h.pod.nm last) hp);have HP:=qI (ei hp)
  go_enter Tryz.func170,Tryz.ntmps170
  go_wp2_with fail
  refine Hf.out.mono ?_;rintro e w1 ⟨rfl,hb⟩;have He:=qI (Ha.out.trans (hb.mono Ha.out.size));rw [HP.out];clear hb
  go_wp2
  go_ret;exact ⟨by rw [HE.out,HP.out];rfl,He.out⟩
theorem kV.at {w:World} {b o:Nat} {hs:List Hd} {cv gvv:Nat->Value} (h:kV w b o hs cv gvv) {k:Nat} (hk:k<hs.length) :
  w.cell? ⟨b,o+k*4,none⟩=some (.string (hd hs k).pod.nm)/\w.cell? ⟨b,o+k*4+1,none⟩=some (.int .i64 (hd hs k).pod.pr)/\w.cell? ⟨b,o+k*4+2,none⟩=some (cv k)/\w.cell? ⟨b,o+k*4+3,none⟩=some (gvv k):=(h.2 k hk).1
def kX (hs:List Hd) (k:Nat):ByteArray:=if k=0 then ByteArray.empty else (hd hs (k - 1)).pod.nm
theorem Fm (hs:List Hd) (k:Nat):kX hs (k+1)=(hd hs k).pod.nm:=rfl
theorem Fo {s:ByteArray} (h:aW s=true):leS s ByteArray.empty=false:=by
 have h0:=(Sv.ip h).1;rw [leS,Qs,Qs];cases hs:s.data.toList with
 | nil=>rw [hs] at h0;simp at h0
 | cons a r=>rfl
theorem Fp {h:Hd} {b:Bool} (hb:aW h.pod.nm=true->b=false):dE h b=dE h false:=by
 unfold dE
 by_cases hp:ag h.pod=0
 ·have hn:=(Qos.me hp).1;rw [hb hn]
 ·rw [if_pos hp,if_pos hp]
theorem Fq (hs:List Hd) (k:Nat):dE (hd hs k) (leS (hd hs k).pod.nm (kX hs k))=im hs k:=by
 unfold im jA kX
 by_cases h0:k=0
 ·subst h0;rw [if_pos rfl]
  show _=dE (hd hs 0) false
  exact Fp Fo
 ·rw [if_neg h0,Qc (by omega:0<k)];rfl
theorem Fr {hs:List Hd} (h:12<hs.length):aE hs=2:=by unfold aE;rw [if_pos h]
theorem Fs {hs:List Hd} (h:¬ 12<hs.length):aE hs=first (im hs) hs.length:=by unfold aE;rw [if_neg h]
theorem Ft (v:Value) (hs:List Hd) (w:World) (h:aQ w v hs):Calls Tryz.prog 132 #[v] w λe w'=>e=.returned (ar (aE hs:Nat))/\Below w.heap.size w w':=by
 obtain ⟨ao,c,rfl,hm,hr⟩:=h;have HR:=qI hr;clear hr;have HM:=qI hm;unfold maxLen at hm
 by_cases hn:12<hs.length
 ·have he:=Fr hn;have Hi:decide ((12:Int)<(hs.length:Int))=true:=Qc (by omega)
  go_enter Tryz.func132,Tryz.ntmps132
  go_wp2
  go_ret;exact ⟨by rw [he];rfl,Q0 _ _⟩
 ·rw [Fs hn];have hl:hs.length<=12:=by omega
  have Hi:decide ((12:Int)<(hs.length:Int))=false:=Q7 (by omega)
  go_enter Tryz.func132,Tryz.ntmps132
  go_wp2
  go_loopw [3,13] (λla i wr=>∃ k:Nat,k<=hs.length/\i=.int .i64 k/\la=.string (kX hs k)/\Below w.heap.size w wr/\Hid (first (im hs) k=0)) (λ_ i _=>hs.length - (intOf i).toNat)
  case atStart=>exact ⟨0,by omega,rfl,rfl,Q0 _ _,rfl⟩
  case round=>
   obtain ⟨k,hk,rfl,rfl,hB,HF⟩:=hrel
   by_cases hlt:k<hs.length
   ·obtain ⟨b,o,cv,gvv,rfl,Hb⟩:=HR.out (by omega);have Hb:=Hb.below hB;obtain ⟨d0,d1,d2,d3⟩:=Hb.at hlt;obtain ⟨_,hC,hG⟩:=Hb.2 k hlt;have HO:=qI (Dvs.iM (f:=im hs) (n:=hs.length) HF.out · hlt);have HZ:=qI (Dvs.jt (f:=im hs) (k:=k) HF.out);have Hg:=qI ((Q0 wr.heap.size wr).alloc (lR) (.cells #[.string (hd hs k).pod.nm,.int .i64 (hd hs k).pod.pr,cv k,gvv k] 57));have Hc:=qI (hB.alloc hB.size (.cells #[.string (hd hs k).pod.nm,.int .i64 (hd hs k).pod.pr,cv k,gvv k] 57));have Ha:=qI (Fl (hd hs k) (cv k) (gvv k) (kX hs k) _ (hC.below Hg.out) (hG.below Hg.out));rw [Fq hs k] at Ha;unfold qL at Ha;have HN:=qI (Fm hs k);obtain ⟨ca,cc,Hm⟩:=hC.sl;obtain ⟨ga,gc,Hh⟩:=hG.sl;clear Hb hC hG HF hB;generalize kX hs k=L at *;generalize im hs k=F at *;generalize (hd hs k).pod.nm=nm at *;generalize (hd hs k).pod.pr=pr at *;generalize (hd hs k).pod.cs.length=cl at *;generalize (hd hs k).gs.length=gl at *;generalize cv k=cvk at *;generalize gvv k=gvk at *;subst Hm Hh
    go_wp2_with fail
    refine Ha.out.mono ?_;rintro e w5 ⟨rfl,He⟩;have Hf:=qI (Hc.out.trans (He.mono Hc.out.size));have c0:w5.cell? ⟨wr.heap.size,0,none⟩=some (.string nm):=(He.cell (p:=⟨wr.heap.size,0,none⟩) (by simp)).trans (by simp);clear He
    by_cases hF:F=0
    ·have Hk:=qI (HZ.out hF);rw [show ar (F:Int)=.nilIface by rw [hF];rfl];clear HO HZ hF Ha
     go_wp2
     go_roundw
     case rel=>exact ⟨k+1,by omega,by go_num,by rw [HN.out],Hf.out,Hk⟩
     case measure=>simp [intOf];omega
    ·have Hj:=qI (HO.out hF);have HP:=qI (ei hF);rw [HP.out];clear HO HZ hF Ha
     go_wp2
     go_ret;exact ⟨by rw [Hj.out,HP.out];rfl,Hf.out⟩
   ·have Hl:k=hs.length:=by omega
    subst Hl;have Hc:=qI hB;clear hB
    go_wp2
    go_ret;exact ⟨by rw [HF.out];rfl,Hc.out⟩
end
section
open RowKit
theorem Fu (W:World) (b j:Nat) (v:Value):W.grownBy (W.setCell ⟨b,j,none⟩ v) (some b):=
 ⟨rfl,rfl,rfl,by simp,λk hk hne=>by
  have hb:b≠k:=λe=>hne (by rw [e])
  simp [World.setCell,Array.getElem?_modify,hb]⟩
def cJ (B:Nat) (w w':World):Prop:=w.grownBy w' (some B)/\w'.heap.size=w.heap.size
theorem cJ.refl (B:Nat) (w:World):cJ B w w:=⟨⟨rfl,rfl,rfl,lR,λ_ _ _=>rfl⟩,rfl⟩
theorem cJ.set {B:Nat} {w w':World} (h:cJ B w w') (j:Nat) (v:Value):cJ B w (w'.setCell ⟨B,j,none⟩ v):=by
 obtain ⟨hg,hs⟩:=h;have g2:=Fu w' B j v;refine ⟨⟨g2.os.trans hg.os,g2.tape.trans hg.tape,g2.output.trans hg.output,Q5 hg.size g2.size,λk hk hne=>(g2.block k (by omega) hne).trans (hg.block k hk hne)⟩,?_⟩;rw [<- hs]
 simp
theorem gO {w:World} {B:Nat} {arr:Array Value} {t:TypeId} (h:w.heap[B]?=some (.cells arr t (0,0))) (j:Nat) (v:Value):(w.setCell ⟨B,j,none⟩ v).heap[B]?=some (.cells (arr.setIfInBounds j v) t (0,0)):=by
 obtain ⟨Ha,hk⟩:=gS h
 show (w.heap.modify B _)[B]?=_
 rw [Array.getElem?_eq_getElem (by rw [Array.size_modify];exact Ha),Array.getElem_modify_self,hk];rfl
def aG (w:World) (B:Nat) (n k:Sd) (v:Value) (l:Int) (d:Bool):Prop:=w.heap[B]?=some (.cells #[.bool n.ft,.string n.fb,.bool n.dt,.string n.db,.bool k.ft,.string k.fb,.bool k.dt,.string k.db,v,.int .i64 l,.bool d] 146 (0,0))
section
variable {w:World} {B:Nat} {n k:Sd} {v:Value} {l:Int} {d:Bool}
theorem aG.lt (h:aG w B n k v l d):B<w.heap.size:=(gS h).1
theorem aG.now (h:aG w B n k v l d):w.cell? ⟨B,0,none⟩=some (.bool n.ft)/\w.cell? ⟨B,1,none⟩=some (.string n.fb)/\w.cell? ⟨B,2,none⟩=some (.bool n.dt)/\w.cell? ⟨B,3,none⟩=some (.string n.db):=by
 refine ⟨?_,?_,?_,?_⟩ <;> simp [World.cell?,show w.heap[B]?=_ from h]
theorem aG.kept (h:aG w B n k v l d):w.cell? ⟨B,4,none⟩=some (.bool k.ft)/\w.cell? ⟨B,5,none⟩=some (.string k.fb)/\w.cell? ⟨B,6,none⟩=some (.bool k.dt)/\w.cell? ⟨B,7,none⟩=some (.string k.db):=by
 refine ⟨?_,?_,?_,?_⟩ <;> simp [World.cell?,show w.heap[B]?=_ from h]
theorem aG.rest (h:aG w B n k v l d):w.cell? ⟨B,8,none⟩=some v/\w.cell? ⟨B,9,none⟩=some (.int .i64 l)/\w.cell? ⟨B,10,none⟩=some (.bool d):=by
 refine ⟨?_,?_,?_⟩ <;> simp [World.cell?,show w.heap[B]?=_ from h]
theorem aG.frozen (h:aG w B n k v l d) (j:Nat):w.frozen? ⟨B,j,none⟩=false:=by simp [World.frozen?,show w.heap[B]?=_ from h]
theorem aG.set8 (h:aG w B n k v l d) (v':Value):aG (w.setCell ⟨B,8,none⟩ v') B n k v' l d:=gO h 8 v'
theorem aG.set9 (h:aG w B n k v l d) (l':Int):aG (w.setCell ⟨B,9,none⟩ (.int .i64 l')) B n k v l' d:=gO h 9 _
theorem aG.set10 (h:aG w B n k v l d) (d':Bool):aG (w.setCell ⟨B,10,none⟩ (.bool d')) B n k v l d':=gO h 10 _
def putS (w:World) (B i:Nat) (s:Sd):World:=(((w.setCell ⟨B,i,none⟩ (.bool s.ft)).setCell ⟨B,i+1,none⟩ (.string s.fb)).setCell ⟨B,i+2,none⟩ (.bool s.dt)).setCell ⟨B,i+3,none⟩ (.string s.db)
theorem aG.setNow (h:aG w B n k v l d) (s:Sd):aG (putS w B 0 s) B s k v l d:=gO (gO (gO (gO h 0 _) 1 _) 2 _) 3 _
theorem aG.setKept (h:aG w B n k v l d) (s:Sd):aG (putS w B 4 s) B n s v l d:=gO (gO (gO (gO h 4 _) 5 _) 6 _) 7 _
theorem cJ.putS {w w':World} {B:Nat} (h:cJ B w w') (i:Nat) (s:Sd):cJ B w (putS w' B i s):=(((h.set i _).set (i+1) _).set (i+2) _).set (i+3) _
theorem aG.block {w':World} (h:aG w B n k v l d) (he:w'.heap[B]?=w.heap[B]?):aG w' B n k v l d:=he.trans h
end
def bw (l:Int) (d:Bool):Nat:=if d=true\/l=0 then 11 else 0
def aR (l:Int) (d:Bool):Int:=if d=true\/l=0 then l else if 0<l then l - 1 else l
def dS (l:Int) (d:Bool):Bool:=decide (d=true\/l=0)
theorem mn (B:Nat) (n k:Sd) (v:Value) (l:Int) (d:Bool) (w:World) (h:aG w B n k v l d) (hl:-9223372036854775808<=l/\l<=9223372036854775807):Calls Tryz.prog 140 #[.pointer (some ⟨B,0,none⟩)] w λe w'=>e=.returned (ar ((bw l d:Nat):Int))/\aG w' B n k v (aR l d) (dS l d)/\cJ B w w':=by
 obtain ⟨_,c9,c10⟩:=h.rest;have f9:=h.frozen 9;have f10:=h.frozen 10
 by_cases h0:l=0
 ·subst h0;obtain ⟨_,e9,e10⟩:=(h.set10 true).rest;have HZ:=qI (h.set10 true);have HO:=qI ((cJ.refl B w).set 10 (.bool true));clear h
  go_enter Tryz.func140,Tryz.ntmps140
  go_wp2
  go_ret;exact ⟨by simp [bw,ar],by simpa [aR,dS] using HZ.out,HO.out⟩
 ·cases d with
  | true=>
   have HZ:=qI h;have hb:(l == 0)=false:=by simp [h0]
   clear h
   go_enter Tryz.func140,Tryz.ntmps140
   go_wp2
   go_ret;exact ⟨by simp [bw,ar],by simpa [aR,dS] using HZ.out,cJ.refl _ _⟩
  | false=>
   have hb:(l == 0)=false:=by simp [h0]
   by_cases hp:0<l
   ·have hw:wrap64 (l - 1)=l - 1:=by unfold wrap64;omega
    have HZ:=qI (h.set9 (l - 1));have HO:=qI ((cJ.refl B w).set 9 (.int .i64 (l - 1)));clear h
    go_enter Tryz.func140,Tryz.ntmps140
    go_wp2
    go_ret;exact ⟨by simp [bw,ar,h0],by simpa [aR,dS,h0,hp] using HZ.out,HO.out⟩
   ·have HZ:=qI h;have Ha:l<=0:=by omega
    have HE:Hid (aR l false=l):=by unfold Hid aR;rw [if_neg (by simp [h0]),if_neg hp]
    clear h
    go_enter Tryz.func140,Tryz.ntmps140
    go_wp2
    go_ret;exact ⟨by simp [bw,ar,h0],by rw [HE.out];simpa [dS,h0] using HZ.out,cJ.refl _ _⟩
def qR (n:Sd) (d:Bool):Value:=if d=true then .tuple #[.string ⟨#[]⟩,.iface 121 (.int .i64 11)] else if n.ft=true then .tuple #[.string n.fb,.nilIface] else .tuple #[.string ⟨#[]⟩,.iface 121 (.int .i64 6)]
theorem Fv (B:Nat) (n k:Sd) (v:Value) (l:Int) (d:Bool) (w:World) (h:aG w B n k v l d):Calls Tryz.prog 152 #[.pointer (some ⟨B,0,none⟩)] w λe w'=>e=.returned (qR n d)/\w'=w:=by
 obtain ⟨_,c9,c10⟩:=h.rest;obtain ⟨c0,c1,_,_⟩:=h.now;obtain ⟨ft,fb,dt,db⟩:=n;dsimp only at c0 c1;unfold qR;clear h;cases d with
 | true=>
  go_enter Tryz.func152,Tryz.ntmps152
  go_wp2
  go_ret2;exact ⟨rfl,rfl⟩
 | false=>
  cases ft with
  | true=>
   go_enter Tryz.func152,Tryz.ntmps152
   go_wp2
   go_ret2;exact ⟨rfl,rfl⟩
  | false=>
   go_enter Tryz.func152,Tryz.ntmps152
   go_wp2
   go_ret2;exact ⟨rfl,rfl⟩
end
section
open RowKit
theorem mo (l:Int) (d:Bool):(bw l d=11/\dS l d=true)\/(bw l d=0/\dS l d=false):=by
 unfold bw dS
 by_cases h:d=true\/l=0
 ·exact .inl ⟨if_pos h,Qc h⟩
 ·exact .inr ⟨if_neg h,Q7 h⟩
theorem qS:ar ((11:Nat):Int)=.iface 121 (.int .i64 11):=rfl
theorem qT:ar ((0:Nat):Int)=.nilIface:=rfl
theorem Fw (B:Nat) (n k:Sd) (v:Value) (l:Int) (d:Bool) (w:World) (h:aG w B n k v l d) (hl:-9223372036854775808<=l/\l<=9223372036854775807):Calls Tryz.prog 100 #[.pointer (some ⟨B,0,none⟩)] w λe w'=>e=.returned (ar ((bw l d:Nat):Int))/\aG w' B n (if bw l d=0 then n else k) (if bw l d=0 then .slice none 0 0 else v) (aR l d) (dS l d)/\cJ B w w':=by
 have HS:=qI (mn B n k v l d w h hl);clear h
 rcases mo l d with ⟨e1,e2⟩|⟨e1,e2⟩
 ·rw [e1,e2,if_neg (by decide),if_neg (by decide),qS];rw [e1,e2,qS] at HS
  go_enter Tryz.func100,Tryz.ntmps100
  go_wp2_with fail
  refine HS.out.mono ?_;rintro e w1 ⟨rfl,h1,Ha⟩;have H1:=qI h1;have HO:=qI Ha;clear h1 Ha HS
  go_wp2
  go_ret;exact ⟨rfl,H1.out,HO.out⟩
 ·rw [e1,e2,if_pos rfl,if_pos rfl,qT];rw [e1,e2,qT] at HS
  go_enter Tryz.func100,Tryz.ntmps100
  go_wp2_with fail
  refine HS.out.mono ?_;rintro e w1 ⟨rfl,h1,Ha⟩;have H2:=qI ((h1.setKept n).set8 (.slice none 0 0));have HO:=qI (((Ha.putS 4 n)).set 8 (.slice none 0 0));obtain ⟨n0,n1,n2,n3⟩:=h1.now;obtain ⟨k0,k1,k2,k3⟩:=h1.kept;obtain ⟨k8,_,_⟩:=h1.rest;have f4:=h1.frozen 4;have f5:=h1.frozen 5;have f6:=h1.frozen 6;have f7:=h1.frozen 7;have f8:=h1.frozen 8;clear h1 Ha HS
  go_wp2
  go_ret;exact ⟨rfl,H2.out,HO.out⟩
end
section
open RowKit Shelf
def vS (P:Prop) (w:World) (e:Ending) (w':World):Prop:=∃ b:Bool,e=.returned (.bool b)/\(P->b=true)/\Below w.heap.size w w'
def qU (w:World) (ao:Option Addr) (xs:List Int):Prop:=0<xs.length->∃ b o,ao=some ⟨b,o,none⟩/\b<w.heap.size/\∀ k,k<xs.length->w.cell? ⟨b,o+k,none⟩=some (.int .i64 (xs.getD k 0))
theorem Fx (a1 a2:Option Addr) (c1 c2:Nat) (xs ys:List Int) (w:World) (m1:xs.length<=maxLen) (_m2:ys.length<=maxLen) (h1:qU w a1 xs) (h2:qU w a2 ys) :
  Calls Tryz.prog 60 #[.slice a1 xs.length c1,.slice a2 ys.length c2] w λe w'=>∃ b:Bool,e=.returned (.bool b)/\(xs=ys->b=true)/\∃ n,w'=w.drewN n:=by
 unfold maxLen at m1;have H1:=qI h1;have H2:=qI h2;clear h1 h2
 by_cases hl:xs.length=ys.length
 ·rw [<- hl];have HL:=qI hl
  go_enter Tryz.func60,Tryz.ntmps60
  clear hl
  go_wp2
  go_loopw [5] (λi wr=>∃ k m:Nat,k<=xs.length/\i=.int .i64 k/\wr=w.drewN m) (λi _=>xs.length - (intOf i).toNat)
  case atStart=>exact ⟨0,0,by omega,rfl,rfl⟩
  case round=>
   obtain ⟨k,m,hk,rfl,rfl⟩:=hrel
   by_cases hlt:k<xs.length
   ·obtain ⟨b1,o1,rfl,_,Ha⟩:=H1.out (by omega);obtain ⟨b2,o2,rfl,_,Hb⟩:=H2.out (by rw [<- HL.out];omega);have d1:=Ha k hlt;have d2:=Hb k (by rw [<- HL.out];omega);clear Ha Hb;have HK:Hid (xs=ys->xs.getD k 0=ys.getD k 0):=λe=>by rw [e]
    generalize xs.getD k 0=x at *;generalize ys.getD k 0=y at *
    by_cases hxy:x=y
    ·subst hxy
     go_wp2
     go_quiet (fail)
     go_wp2
     go_roundw
     case rel=>exact ⟨k+1,_,by omega,by go_num,rfl⟩
     case measure=>simp [intOf];omega
    ·have hb:(x == y)=false:=by simpa using hxy
     have HN:=qI hxy;clear hxy
     go_wp2
     go_quiet (fail)
     go_wp2
     go_ret;exact ⟨_,rfl,λe=>absurd (HK.out e) HN.out,_,World.drewN_drewN _ _ _⟩
   ·have Hc:k=xs.length:=by omega
    subst Hc
    go_wp2
    go_ret;exact ⟨_,rfl,λ_=>rfl,m,rfl⟩
 ·have hb:((xs.length:Int) == (ys.length:Int))=false:=by simp;omega
  have HN:=qI hl;clear hl
  go_enter Tryz.func60,Tryz.ntmps60
  go_wp2
  go_ret;exact ⟨_,rfl,λe=>absurd (congrArg List.length e) HN.out,0,rfl⟩
end
section
open RowKit
open Qos (Nd Ct Pd nd ct pd)
open Ost (good val dp lN)
open S1 (Mx)
end
section
open RowKit
open Qos (Nd Ct Pd nd ct pd)
open Sv (Gv Hd gv hd fh gN ik mi dQ dh fD OkN OkC OkG)
open S1 (Tab strs jW jo kL iJ lS)
theorem gP {w:World} {a:Addr} {v:Value} (h:w.cell? a=some v) (o:Obj):(w.alloc o).cell? a=some v:=
 (((Q0 w.heap.size w).alloc (lR) o).cell (Q3 w _ h)).trans h
theorem mr {B:Nat} {a w:World} (h:Below B a w):Below B a w.drew:=⟨h.os,h.tape,h.output,h.size,h.block⟩
def bH (w:World):Prop:=Tab w/\0<w.heap.size
theorem bH.below {w w':World} (h:bH w) (hb:Below w.heap.size w w'):bH w':=⟨h.1.below hb h.2,Q1 h.2 hb.size⟩
theorem kY (x:Int) (w:World) (h0:0<=x) (h1:x<=1125899906842624) (ht:bH w):Calls Tryz.prog 173 #[.int .i64 x] w λe w'=>e=.returned (.string ⟨(Sv.dec x).toArray⟩)/\Below w.heap.size w w':=lS x w h0 (by omega) ht.1
abbrev vT:=λ(w:World) (kd:ByteArray) (m:Int) (w':World)=>w'.cell? ⟨w.heap.size,0,none⟩=some (.string kd)/\w'.cell? ⟨w.heap.size,1,none⟩=some (.int .i64 m)
theorem Fy (d:Nd) (w:World) (h:OkN d) (ht:bH w):Calls Tryz.prog 223 #[.agg #[.string d.kind,.int .i64 d.many]] w λe w'=>e=.returned (.string ⟨(fh d).toArray⟩)/\Below w.heap.size w w':=by
 have h1:=(Sv.ip h.1).2;have h2:=Sv.iQ d.many (by have:=h.2.2;omega);have hk:ByteArray.mk d.kind.data.toList.toArray=d.kind:=by simp
 have ea:=kW d.kind.data.toList [58];have eb:=kW (d.kind.data.toList++[58]) (Sv.dec d.many);have HE:Hid (fh d=d.kind.data.toList++[58]++Sv.dec d.many):=rfl;have Hh:=h.2.1;have Hg:=h.2.2;have Hf:d.kind.size<=8:=Q5 (Nat.le_of_eq (by simp)) h1;rw [hk] at ea;clear hk;have HT:=qI ht;have Hb:=qI (mr ((Q0 w.heap.size w).alloc (lR) (.cells #[.string d.kind,.int .i64 d.many] 109)));generalize fh d=S at *;generalize d.many=m at *;generalize d.kind=kd at *;have q1:¬ 9223372036854775807<kd.size+1:=by omega
 have q2:¬ 9223372036854775807<kd.size+1+(Sv.dec m).length:=by omega
 clear h ht
 go_enter Tryz.func223,Tryz.ntmps223
 go_wp2_with fail
 have Ha:=qI (show w.heap.size<(w.alloc (.cells #[.string kd,.int .i64 m] 109)).drew.heap.size/\(w.alloc (.cells #[.string kd,.int .i64 m] 109)).drew.cell? ⟨w.heap.size,0,none⟩=some (.string kd)/\(w.alloc (.cells #[.string kd,.int .i64 m] 109)).drew.cell? ⟨w.heap.size,1,none⟩=some (.int .i64 m) from ⟨by simp,by simp,by simp⟩);refine wp_region_held_drew (S:=vT w kd m) (by kernel_rfl) Ha.out.2 (λhQ=>?_);refine tk 0 ?_;refine tk 1 ?_;refine tk 2 ?_;refine tk 3 ?_;refine tk 4 ?_;refine rd 5 (λK hK=>?_);go_simp
 go_wp2_with fail
 refine (kY m _ (by omega) (by omega) (HT.out.below Hb.out)).mono ?_;rintro e V1 ⟨rfl,hb⟩;have Hc:=qI (Hb.out.trans (hb.mono Hb.out.size));have He:=qI (show w.heap.size<V1.heap.size/\(vT w kd m) V1 from ⟨Q1 Ha.out.1 hb.size,(hb.cell (p:=⟨w.heap.size,0,none⟩) Ha.out.1).trans Ha.out.2.1,(hb.cell (p:=⟨w.heap.size,1,none⟩) Ha.out.1).trans Ha.out.2.2⟩);clear hb
 go_wp2
 refine hK.out _ _ He.out.2 (λhQ=>?_);clear hK K;refine tk 6 ?_;refine tk 7 ?_;refine Qn (by kernel_rfl) ?_ _
 go_wp2
 go_ret;exact ⟨by rw [HE.out,List.append_assoc];rfl,Hc.out⟩
def fG (xs:List Nd) (k:Nat):List (List UInt8):=(xs.take k).map fh
theorem Fz {xs:List Nd} {k:Nat} (h:k<xs.length):fG xs (k+1)=fG xs k++[fh (nd xs k)]:=by
 unfold fG;rw [Qa h,Qj];simp [nd,h]
theorem qV {xs:List Nd} {k:Nat} (h:k<=xs.length):(fG xs k).length=k:=by
 unfold fG;simp;omega
theorem vU (xs:List Nd):fG xs xs.length=xs.map fh:=by unfold fG;rw [Qh]
theorem FA (v:Value) (xs:List Nd) (w:World) (h:bf w v xs) (hx:∀ x∈xs,OkN x) (hl:xs.length<=3) (ht:bH w) :
  Calls Tryz.prog 222 #[v,.func (.func 223) #[] #[]] w λe w'=>e=.returned (.string ⟨(gN xs).toArray⟩)/\Below w.heap.size w w':=by
 obtain ⟨i0,hi,Hn,Hp,Hl⟩:=info_parts iJ;obtain ⟨ao,c,rfl,hm,hr⟩:=h;have HR:=qI hr;have HT:=qI ht;have HX:=qI hx;clear hr ht hx;unfold maxLen at hm;have HJ:Hid (∀ (v:Value) (w1:World),w1.ownsRow w.heap.size 9 1 v (fG xs xs.length).length (strs (fG xs xs.length))->Calls Tryz.prog 220 #[v,.string ⟨#[44]⟩] w1 λe w'=>e=.returned (.string ⟨(Lib.join (fG xs xs.length) [44]).toArray⟩)/\Below w1.heap.size w1 w'):=by
  intro v w1 h;refine qP 44 v _ w1 _ h (by rw [qV (lR)];omega) ?_;refine Q5 (Sv.kc 44 29 _ λx hx=>?_) (by rw [qV (lR)];omega);rw [vU] at hx;obtain ⟨d,hd,rfl⟩:=Qk.1 hx;exact Sv.vD (HX.out d hd)
 have HD:Hid (Sv.ek (Lib.join (fG xs xs.length) [44])=gN xs):=by unfold Hid gN;rw [vU]
 go_enter Tryz.func222,Tryz.ntmps222
 go_wp2
 go_loopw [5,10] (λr i wr=>∃ k:Nat,k<=xs.length/\i=.int .i64 k/\wr.ownsRow w.heap.size 9 1 r (fG xs k).length (strs (fG xs k))/\Below w.heap.size w wr) (λ_ i _=>xs.length - (intOf i).toNat)
 case atStart=>exact ⟨0,by omega,rfl,Qw _ _ _ _,Q0 _ _⟩
 case round=>
  obtain ⟨k,hk,rfl,He,hB⟩:=hrel
  by_cases hlt:k<xs.length
  ·obtain ⟨b,o,rfl,hb,hc⟩:=HR.out (by omega);obtain ⟨d0,d1⟩:=hc k hlt;have c0:=(hB.cell (p:=⟨b,o+k*2,none⟩) hb).trans d0;have c1:=(hB.cell (p:=⟨b,o+k*2+1,none⟩) hb).trans d1;have HS:=qI (Fz hlt);have hle:=qV hk;have Hj:=HX.out (nd xs k) (by simp [nd,hlt]);have Hq:=hB.size;have Hh:=qI (hB.alloc hB.size (.cells #[.string (nd xs k).kind,.int .i64 (nd xs k).many] 109));have HI:=qI (Fy (nd xs k) _ Hj (HT.out.below Hh.out));have Hf:=He.alloc (.cells #[.string (nd xs k).kind,.int .i64 (nd xs k).many] 109);clear hc d0 d1 Hj;generalize fh (nd xs k)=T at *;generalize (nd xs k).kind=kd at *;generalize (nd xs k).many=m at *
   go_wp2_with fail
   refine HI.out.mono ?_;rintro e w1 ⟨rfl,Hg⟩;have Hi:=qI (Hh.out.trans (Hg.mono Hh.out.size));have Ha:=qO Hf Hg;have Ho:=Hi.out.size;clear Hg
   go_wp2_with (at_builtin;refine wpList_append_own _ rfl _ _ 78 rfl w.heap.size 9 i0 (.string ⟨#[]⟩) 1 16 Tryz.underlying78 hi Hn Hp Hl rfl (by decide) _ _ _ rfl (Ha.alloc _) ⟨_,0,none⟩ 1 1 [.string ⟨T.toArray⟩] rfl rfl (cell_one_new _ _ _) (jo [T]) (by unfold maxLen;omega) (by omega) (by simp;omega) ?_;intro v' w2 Hc Hb _)
   go_roundw
   case rel=>
    refine ⟨k+1,by omega,by go_num,?_,?_⟩
    ·rw [HS.out,jW,Q2];exact Hc
    ·exact (Hi.out.alloc Hi.out.size _).grown Hb (by simp;omega) (λj hj=>(Ha.lt j hj).1)
   case measure=>simp [intOf];omega
  ·have Hm:k=xs.length:=by omega
   subst Hm
   go_wp2_with fail
   refine (HJ.out _ _ He).mono ?_;rintro e w1 ⟨rfl,Hg⟩;have Hk:=hB.trans (Hg.mono hB.size)
   go_wp2_with fail
   refine (qM _ _).mono ?_;rintro e w2 ⟨rfl,rfl⟩
   go_wp2
   go_ret;exact ⟨by rw [<- HD.out];rfl,Hk⟩
def fj (base:Nat) (w:World) (v:Value) (ws:List (List UInt8)):Prop:=w.ownsRow base 9 1 v ws.length (strs ws)
theorem qW (ws:List (List UInt8)) (w:World) (base:Nat) (hb:base<=w.heap.size) (hl:ws.length<=1000):fj base (w.alloc (.cells (strs ws).toArray 9)) (.slice (some ⟨w.heap.size,0,none⟩) ws.length ws.length) ws:=by
 have h:=World.ownsRow_made (base:=base) (e:=9) (size:=1) w (strs ws).toArray ws.length hb (by unfold maxLen;omega) (by simp [strs]);refine ⟨by simp [strs],.inr ⟨w.heap.size,ws.length,_,rfl,hb,heap_alloc_new w _,lR,by unfold maxLen;omega,by simp [strs],?_⟩⟩;rw [Nat.mul_one,List.take_of_length_le (by simp [strs])]
abbrev oz:=λ(w:World) (cp:Int) (da:Option Addr) (dn dc:Nat) (w':World)=>w'.cell? ⟨w.heap.size,0,none⟩=some (.int .u64 cp)/\w'.cell? ⟨w.heap.size,1,none⟩=some (.slice da dn dc)
theorem FB (g:Gv) (dv:Value) (w:World) (hd:bu w dv g.dv) (hg:OkG g) (ht:bH w) :
  Calls Tryz.prog 136 #[.agg #[.int .u64 g.cp,dv]] w λe w'=>∃ v,e=.returned v/\fj w.heap.size w' v (dh g)/\Below w.heap.size w w':=by
 have HT:=qI ht;have Hk:=qI (mr ((Q0 w.heap.size w).alloc (lR) (.cells #[.int .u64 g.cp,dv] 69)));have HD:=qI (λW (hb:Below w.heap.size w W)=>Fd dv g.dv W (hd.below hb) hg.2.2 hg.2.1 (HT.out.below hb).1 (HT.out.below hb).2);have HX:=qI (λW=>S1.pH g.cp W hg.1);have HE:Hid (dh g=[Sv.ek (Ost.txt g.cp),ik g.dv]):=rfl;obtain ⟨da,dc,rfl⟩:=hd.slice;clear hd hg ht;generalize ik g.dv=D at *;generalize g.dv.length=dn at *;generalize Ost.txt g.cp=X at *;generalize dh g=GW at *;generalize g.cp=cp at *
 go_enter Tryz.func136,Tryz.ntmps136
 go_wp2_with fail
 have Hf:=qI (show w.heap.size<(w.alloc (.cells #[.int .u64 cp,.slice da dn dc] 69)).drew.heap.size/\(w.alloc (.cells #[.int .u64 cp,.slice da dn dc] 69)).drew.cell? ⟨w.heap.size,0,none⟩=some (.int .u64 cp)/\(w.alloc (.cells #[.int .u64 cp,.slice da dn dc] 69)).drew.cell? ⟨w.heap.size,1,none⟩=some (.slice da dn dc) from ⟨by simp,by simp,by simp⟩);refine wp_region_held_drew (S:=oz w cp da dn dc) (by kernel_rfl) Hf.out.2 (λhQ=>?_);refine tk 0 ?_;refine tk 1 ?_;refine tk 4 ?_;refine tk 5 ?_;refine rd 2 (λK hK=>?_);go_simp
 go_wp2_with fail
 refine (HX.out _).mono ?_;rintro e V1 ⟨rfl,hb⟩;have Hh:=qI (Hk.out.trans (hb.mono Hk.out.size));have Hg:=qI (show w.heap.size<V1.heap.size/\(oz w cp da dn dc) V1 from ⟨Q1 Hf.out.1 hb.size,(hb.cell (p:=⟨w.heap.size,0,none⟩) Hf.out.1).trans Hf.out.2.1,(hb.cell (p:=⟨w.heap.size,1,none⟩) Hf.out.1).trans Hf.out.2.2⟩);clear hb
 go_wp2
 refine hK.out _ _ Hg.out.2 (λhQ=>?_);clear hK K;refine rd 3 (λK hK=>?_);go_simp
 go_wp2_with fail
 refine (qM _ _).mono ?_;rintro e V2 ⟨rfl,Hl⟩;subst Hl;have He:=Hh;have Ha:=Hg
 go_wp2
 refine hK.out _ _ Ha.out.2 (λhQ=>?_);clear hK K;refine rd 6 (λK hK=>?_);go_simp
 go_wp2_with fail
 refine (HD.out _ He.out).mono ?_;rintro e V3 ⟨rfl,hb⟩;have Hc:=qI (He.out.trans (hb.mono He.out.size));have Hb:=qI (show w.heap.size<V3.heap.size/\(oz w cp da dn dc) V3 from ⟨Q1 Ha.out.1 hb.size,(hb.cell (p:=⟨w.heap.size,0,none⟩) Ha.out.1).trans Ha.out.2.1,(hb.cell (p:=⟨w.heap.size,1,none⟩) Ha.out.1).trans Ha.out.2.2⟩);clear hb
 go_wp2
 refine hK.out _ _ Hb.out.2 (λhQ=>?_);clear hK K;refine rd 7 (λK hK=>?_);go_simp
 go_wp2_with fail
 have Hi:=qI (Hc.out.alloc Hc.out.size (.cells #[.string ⟨(Sv.ek X).toArray⟩,.string ⟨D.toArray⟩] 9));have Hj:=qI (show w.heap.size<(V3.alloc (.cells #[.string ⟨(Sv.ek X).toArray⟩,.string ⟨D.toArray⟩] 9)).heap.size/\(oz w cp da dn dc) (V3.alloc (.cells #[.string ⟨(Sv.ek X).toArray⟩,.string ⟨D.toArray⟩] 9)) from ⟨Q1 Hb.out.1 (by simp),gP Hb.out.2.1 (.cells #[.string ⟨(Sv.ek X).toArray⟩,.string ⟨D.toArray⟩] 9),gP Hb.out.2.2 (.cells #[.string ⟨(Sv.ek X).toArray⟩,.string ⟨D.toArray⟩] 9)⟩);refine hK.out _ _ Hj.out.2 (λhQ=>?_);clear hK K;refine tk 8 ?_;refine Qn (by kernel_rfl) ?_ _
 go_wp2
 go_ret;refine ⟨_,rfl,?_,Hi.out⟩;rw [HE.out];exact qW [Sv.ek X,D] V3 w.heap.size Hc.out.size (by simp)
end
section
open RowKit Shelf
open Qos (Nd Ct Pd nd ct pd)
end
section
open Go.ChangeShapes Go.WideShapes Go.ChangeAt Go.RowKit
open S1 (Tab Mx kK)
theorem FC:ownKnob Tryz.prog.godebug=none:=by kernel_rfl
theorem vV:laidOutB Tryz.prog=true:=by kernel_rfl
theorem FD:(Tryz.prog.globals[0]?).map (·.type)=some 383:=by kernel_rfl
theorem FE:Tryz.prog.cellsOf 383=20:=by kernel_rfl
theorem FF:Tryz.prog.cellsOf 23=1:=by kernel_rfl
theorem FG:(Rows.laid_internal_strconv_uint64pow10:DataW Unit)=Lib.tabData .u64 Lib.pow10Tab:=by kernel_rfl
def FH:Array Value:=#[.int .u8 0,.int .u8 1,.int .u8 28,.int .u8 2,.int .u8 29,.int .u8 14,.int .u8 24,.int .u8 3,.int .u8 30,.int .u8 22,.int .u8 20,.int .u8 15,.int .u8 25,.int .u8 17,.int .u8 4,.int .u8 8,.int .u8 31,.int .u8 27,.int .u8 13,.int .u8 23,.int .u8 21,.int .u8 19,.int .u8 16,.int .u8 7,.int .u8 26,.int .u8 12,.int .u8 18,.int .u8 6,.int .u8 11,.int .u8 5,.int .u8 10,.int .u8 9]
def FI:Array Value:=#[.int .u8 0,.int .u8 1,.int .u8 56,.int .u8 2,.int .u8 57,.int .u8 49,.int .u8 28,.int .u8 3,.int .u8 61,.int .u8 58,.int .u8 42,.int .u8 50,.int .u8 38,.int .u8 29,.int .u8 17,.int .u8 4,.int .u8 62,.int .u8 47,.int .u8 59,.int .u8 36,.int .u8 45,.int .u8 43,.int .u8 51,.int .u8 22,.int .u8 53,.int .u8 39,.int .u8 33,.int .u8 30,.int .u8 24,.int .u8 18,.int .u8 12,.int .u8 5,.int .u8 63,.int .u8 55,.int .u8 48,.int .u8 27,.int .u8 60,.int .u8 41,.int .u8 37,.int .u8 16,.int .u8 46,.int .u8 35,.int .u8 44,.int .u8 21,.int .u8 52,.int .u8 32,.int .u8 23,.int .u8 11,.int .u8 54,.int .u8 26,.int .u8 40,.int .u8 15,.int .u8 34,.int .u8 20,.int .u8 31,.int .u8 10,.int .u8 25,.int .u8 14,.int .u8 19,.int .u8 9,.int .u8 13,.int .u8 8,.int .u8 7,.int .u8 6]
def FJ:Array Value:=#[.int .u8 128,.int .u8 191,.int .u8 160,.int .u8 191,.int .u8 128,.int .u8 159,.int .u8 144,.int .u8 191,.int .u8 128,.int .u8 143,.int .u8 0,.int .u8 0,.int .u8 0,.int .u8 0,.int .u8 0,.int .u8 0,.int .u8 0,.int .u8 0,.int .u8 0,.int .u8 0,.int .u8 0,.int .u8 0,.int .u8 0,.int .u8 0,.int .u8 0,.int .u8 0,.int .u8 0,.int .u8 0,.int .u8 0,.int .u8 0,.int .u8 0,.int .u8 0]
theorem mxV {W:World} (hsh:W.ShapedOpen Tryz.prog):Mx W:=Tryz.laysM219.s1_3 W hsh
theorem FK {W : World} {rest : List (String × DataW Unit)} (h : laidMet Tryz.prog (("math/bits.deBruijn32tab", Rows.laid_math_bits_deBruijn32tab) :: ("math/bits.deBruijn64tab", Rows.laid_math_bits_deBruijn64tab) :: ("internal/strconv.uint64pow10", Rows.laid_internal_strconv_uint64pow10) :: rest) W) : bH W := by
 have h2:=laidMet.tail (laidMet.tail h);rw [FG] at h2;have ht:Tab W:=Lib.tabIs_of_head kK FD Tryz.underlying383 Tryz.underlying23 FF FE h2;exact ⟨ht,Q3 W ⟨0,0,none⟩ (ht.cell kK 0 (by decide))⟩
noncomputable def qX (os:Os):World:=
 { World.holding Tryz.prog os ⟨#[],#[],[]⟩ with heap:=((((((World.holding Tryz.prog os ⟨#[],#[],[]⟩).heap.modify 0 fun
   | .cells _ t frozen=>.cells (Lib.pow10Tab.map (Value.int .u64)).toArray t frozen
   | o=>o).modify 2 fun
   | .cells _ t frozen=>.cells FH t frozen
   | o=>o).modify 3 fun
   | .cells _ t frozen=>.cells FI t frozen
   | o=>o).modify 5 fun
   | .cells _ t frozen=>.cells FJ t frozen
   | o=>o).modify 4 fun
   | .cells _ t frozen=>.cells (Go.Pinned.utf8FirstZ.map λ(n:Nat)=>Value.int .u8 (n:Int)).toArray t frozen
   | o=>o) }
end
section
open RowKit Shelf
open Ost (dL)
attribute [local go_sem] Oper.semAt_some
theorem Apart.below {K:Nat->Prop} {A B:World} (h:Apart K A B) {w:World} {N:Nat} (hb:Below N w A) (hN:N<=w.heap.size) (hK:∀ j,K j->N<=j):Below N w B:=
 ⟨h.os.trans hb.os,h.tape.trans hb.tape,h.output.trans hb.output,Q5 hb.size h.size,λj hj=>(h.block j (Q1 (Q1 hj hN) hb.size) (λe=>by have:=hK j e;omega)).trans (hb.block j hj)⟩
theorem vX:(Tryz.prog.info? 3).map (λi=>(i.zero,i.size,i.bytes))=some (some (.int .i64 0),1,8):=by kernel_rfl
theorem fH {w:World} {base:Nat} {e:TypeId} {size:Nat} {v:Value} {n:Nat} {xs:List Value} (h:w.ownsRow base e size v n xs):∃ ao c,v=.slice ao n c:=by
 rcases h.2 with ⟨rfl,h0⟩|⟨g,cap,cur,rfl,_⟩
 ·exact ⟨none,0,by rw [h0]⟩
 ·exact ⟨_,_,rfl⟩
end
section
open RowKit Shelf
open Qos (Nd Ct Pd nd ct pd)
open Sv (Gv Hd gv hd)
attribute [local go_sem] Oper.semAt_some
theorem bl.parts {w:World} {v:Value} {gs:List Gv} (h:bl w v gs):∃ ao c,v=.slice ao gs.length c/\(gs.length<=c/\c<=maxLen)/\∀ k,k<gs.length->∃ b o dv,ao=some ⟨b,o,none⟩/\b<w.heap.size/\w.cell? ⟨b,o+k*2,none⟩=some (.int .u64 (gv gs k).cp)/\w.cell? ⟨b,o+k*2+1,none⟩=some dv/\bu w dv (gv gs k).dv:=by
 obtain ⟨ao,c,rfl,hm,hr⟩:=h;refine ⟨ao,c,rfl,hm,λk hk=>?_⟩;obtain ⟨b,o,dv,ha,Ha,hc⟩:=hr (by omega);exact ⟨b,o,dv k,ha,Ha,(hc k hk).1.1,(hc k hk).1.2.1,(hc k hk).2⟩
end
section
open RowKit Shelf
open Ost (dL dp)
open Qos (Nd nd)
open S1 (Mx)
attribute [local go_sem] Oper.semAt_some
theorem FL:(Tryz.prog.info? 109).map (λi=>(i.zero,i.size,i.bytes))=some (some (.agg #[.string ByteArray.empty,.int .i64 0]),2,24):=by kernel_rfl
end
section
open RowKit Shelf
open Ost (dL dp)
open Qos (Nd Ct Pd nd)
open Sv (Gv wd)
open S1 (Mx)
def NJ (w:World) (b:Nat) (ws:List (List UInt8)):Prop:=b<w.heap.size/\∀ k,k<ws.length->w.cell? ⟨b,k,none⟩=some (.string ⟨(wd ws k).toArray⟩)
def FrV (G:(Nat->Value)->Act) (P:(Nat->Value)->World->Prop) (a:Act) (w:World):Prop:=∃ F,a=G F/\P F w
theorem aj {W:World} {g:Nat} {cs:Array Value} {t:TypeId} (h:W.heap[g]?=some (.cells cs t (0,0))) (i:Nat) (v:Value):(W.setCell ⟨g,i,none⟩ v).heap[g]?=some (.cells (cs.setIfInBounds i v) t (0,0)):=by
 obtain ⟨Ha,hk⟩:=gS h
 show (W.heap.modify g _)[g]?=_
 rw [Array.getElem?_eq_getElem (by rw [Array.size_modify];exact Ha),Array.getElem_modify_self,hk];rfl
def NK (R:Act->World->Prop):Exit->Act->World->Prop
 | .normal,a,w=>R a w
 | _,_,_=>False
end
section
open RowKit Shelf
open Qos (Nd Ct Pd nd ct pd)
open Sv (Gv Hd gv hd)
theorem bf.rowsL {w:World} {v:Value} {ds:List Nd} (h:bf w v ds):dC w v 2 j5:=by
 obtain ⟨ao,c,hv,hm,hr⟩:=h;refine ⟨ao,_,c,hv,hm,λh0=>?_⟩;obtain ⟨b,o,ha,Ha,hc⟩:=hr h0;refine ⟨b,o,ha,Ha,λk hk=>⟨[.string (nd ds k).kind,.int .i64 (nd ds k).many],rfl,λj hj=>?_,⟨_,_,rfl⟩⟩⟩
 match j,hj with
 | 0,_=>exact (hc k hk).1
 | 1,_=>exact (hc k hk).2
theorem aD.rowsL {w:World} {v:Value} {cs:List Ct} (h:aD w v cs):dC w v 6 (ig w):=by
 obtain ⟨ao,c,hv,hm,hr⟩:=h;refine ⟨ao,_,c,hv,Q5 hm.1 hm.2,λh0=>?_⟩;obtain ⟨b,o,dv,ha,hc⟩:=hr h0;exact ⟨b,o,ha,hc.1,λk hk=>⟨ci (ct cs k) (dv k),rfl,(hc.2 k hk).1,⟨_,_,_,_,_,_,rfl,(hc.2 k hk).2.rowsL⟩⟩⟩
theorem FM {p:Pd} {cv:Value} {w:World} (h:aD w cv p.cs):Calls Tryz.prog 29 #[bV p cv] w λe w'=>Ans e/\Below w.heap.size w w':=CZ p.nm p.pr cv w h.rowsL
end
section
open RowKit Shelf
open Ost (dL dp)
open Qos (Nd Ct Pd nd)
open Sv (Gv wd)
open S1 (Mx)
theorem set_other {V:World} {B j k:Nat} {v:Value} (h:k≠B):(V.setCell ⟨B,j,none⟩ v).heap[k]?=V.heap[k]?:=Below.heap_setCell V ⟨B,j,none⟩ v k h
theorem ad {W:World} {B:Nat} {cs:Array Value} {t:TypeId} (h:W.heap[B]?=some (.cells cs t (0,0))) (j:Nat):W.cell? ⟨B,j,none⟩=cs[j]?:=by simp [World.cell?,h]
end
