import Derived.Test.YtbmmnflgnmjboaaGreatDoorK9
import Derived.Test.YtbmmnflgnmjboaaGreatDoorCards
import Derived.Test.YtbmmnflgnmjboaaGreatDoorTie
import Derived.Lib.ItoaMem
import Derived.Laws.ResultCell
import Derived.ShutString
import Derived.Deep.DeepHandedRow
import Derived.Lib.LaidTab
import Derived.Stop.LaidErr
import Derived.Laws.OwnMore
set_option maxRecDepth 100000
set_option maxHeartbeats 16000000
namespace Go.Proofs.YtbmmnflgnmjboaaGreatDoor
section
namespace Sv
open Qos (Nd Ct Pd nd ct pd ah leS)
open Dvs (first aS)
structure Gv where
 cp:Nat
 dv:List Int
def gv0:Gv:=⟨0,[]⟩
instance:Inhabited Gv:=⟨gv0⟩
def gv (l:List Gv) (k:Nat):Gv:=l.getD k gv0
structure Hd where
 pod:Pd
 gs:List Gv
def hd0:Hd:=⟨Qos.pd0,[]⟩
instance:Inhabited Hd:=⟨hd0⟩
def hd (l:List Hd) (k:Nat):Hd:=l.getD k hd0
def dec (n:Int):List UInt8:=Lib.decDigits n.toNat
def dU (l:List UInt8):List UInt8:=if l=[] then [45] else l
def eR (d:Nd):List UInt8:=d.kind.data.toList++[58]++dec d.many
def gk (ds:List Nd):List UInt8:=dU (Lib.join (ds.map eR) [44])
def gK (dv:List Int):List UInt8:=dU (Lib.join (dv.map dec) [44])
def kP (A:Nat):List UInt8:=dU (Ost.txt A)
def dK (c:Ct):List (List UInt8):=[[99,111,110,116],c.nm.data.toList,dec c.am,dec c.ab,dec c.cm,dec c.cb,gk c.ds]
def cY (g:Gv):List (List UInt8):=[kP g.cp,gK g.dv]
def fk (p:Pd):List (List UInt8):=[[112,111,100],p.nm.data.toList,dec p.pr]
def fl (ws:List (List UInt8)):List UInt8:=Lib.join ws [32]++[10]
def gL (c:Ct) (g:Gv):List UInt8:=fl (dK c++cY g)
def fG (p:Pd):List UInt8:=fl (fk p)
def dL (h:Hd):Nat->List UInt8
 | 0=>[]
 | k+1=>dL h k++gL (ct h.pod.cs k) (gv h.gs k)
def eS (h:Hd):List UInt8:=fG h.pod++dL h h.pod.cs.length
def ew (hs:List Hd):Nat->List UInt8
 | 0=>[]
 | k+1=>ew hs k++eS (hd hs k)
def body (hs:List Hd):List UInt8:=ew hs hs.length
def cQ (b:List UInt8):List UInt8:=[115,117,109,32]++Lib.decDigits (fnv b)++[10]
def aF (hs:List Hd):List UInt8:=body hs++cQ (body hs)
def ex (dv:List Int) (j:Nat):Nat:=if dv.getD j 0<0\/15<dv.getD j 0\/(0<j/\dv.getD j 0<=dv.getD (j - 1) 0) then 3 else 0
def cd (dv:List Int):Nat:=if 16<dv.length then 2 else first (ex dv) dv.length
def gsF (gs:List Gv):Nat:=first (λk=>cd (gv gs k).dv) gs.length
def du (h:Hd) (lowB:Bool):Nat:=
 if ah h.pod≠0 then ah h.pod else if lowB=true\/h.gs.length≠h.pod.cs.length then 3 else gsF h.gs
def js (hs:List Hd) (i:Nat):Bool:=decide (0<i) && leS (hd hs i).pod.nm (hd hs (i - 1)).pod.nm
def gM (hs:List Hd) (i:Nat):Nat:=du (hd hs i) (js hs i)
def az (hs:List Hd):Nat:=if 12<hs.length then 2 else first (gM hs) hs.length
def OkG (g:Gv):Prop:=g.cp<18446744073709551616/\g.dv.length<=16/\∀ x∈g.dv,0<=x/\x<=15
def OkN (d:Nd):Prop:=aS d.kind=true/\1<=d.many/\d.many<=16
def OkC (c:Ct):Prop:=aS c.nm=true/\(0<=c.am/\c.am<=1000000)/\(0<=c.ab/\c.ab<=1125899906842624)/\(0<=c.cm/\c.cm<=1000000)/\(0<=c.cb/\c.cb<=1125899906842624)/\c.ds.length<=3/\∀ d∈c.ds,OkN d
def OkP (p:Pd):Prop:=aS p.nm=true/\(0<=p.pr/\p.pr<=1000)/\p.cs.length<=3/\∀ c∈p.cs,OkC c
def OkH (h:Hd):Prop:=OkP h.pod/\h.gs.length=h.pod.cs.length/\∀ g∈h.gs,OkG g
def OkL (hs:List Hd):Prop:=hs.length<=12/\∀ h∈hs,OkH h
theorem sX {ds:List Nd} {d:Nd} (h:d∈ds):∃ k,k<ds.length/\nd ds k=d:=by
 obtain ⟨k,hk,rfl⟩:=List.getElem_of_mem h;exact ⟨k,hk,by simp [nd,hk]⟩
theorem sY {ds:List Ct} {d:Ct} (h:d∈ds):∃ k,k<ds.length/\ct ds k=d:=by
 obtain ⟨k,hk,rfl⟩:=List.getElem_of_mem h;exact ⟨k,hk,by simp [ct,hk]⟩
theorem kQ {ds:List Gv} {d:Gv} (h:d∈ds):∃ k,k<ds.length/\gv ds k=d:=by
 obtain ⟨k,hk,rfl⟩:=List.getElem_of_mem h;exact ⟨k,hk,by simp [gv,hk]⟩
theorem mA {ds:List Hd} {d:Hd} (h:d∈ds):∃ k,k<ds.length/\hd ds k=d:=by
 obtain ⟨k,hk,rfl⟩:=List.getElem_of_mem h;exact ⟨k,hk,by simp [hd,hk]⟩
theorem CK {ds:List Int} {d:Int} (h:d∈ds):∃ k,k<ds.length/\ds.getD k 0=d:=by
 obtain ⟨k,hk,rfl⟩:=List.getElem_of_mem h;exact ⟨k,hk,by simp [hk]⟩
theorem iU {ds:List Ct} {k:Nat} (h:k<ds.length):ct ds k∈ds:=by simp [ct,h]
theorem sZ {ds:List Nd} {k:Nat} (h:k<ds.length):nd ds k∈ds:=by simp [nd,h]
theorem kR {ds:List Gv} {k:Nat} (h:k<ds.length):gv ds k∈ds:=by simp [gv,h]
theorem jU {ds:List Hd} {k:Nat} (h:k<ds.length):hd ds k∈ds:=by simp [hd,h]
theorem CM {ds:List Nd} (h:first (Qos.dS ds) ds.length=0):∀ d∈ds,OkN d:=by
 intro d hd;obtain ⟨k,hk,rfl⟩:=sX hd
 have:=Dvs.cO h k hk
 unfold Qos.dS at this
 split at this
 ·cases this
 ·rename_i h1
  split at this
  ·cases this
  ·rename_i h2
   rw [not_or] at h1 h2;exact ⟨by simpa using h1.1,by omega,by omega⟩
theorem CN {cs:List Ct} {k:Nat} (h:Qos.bV cs k=0):OkC (ct cs k):=by
 have h1:=Qos.sH h;unfold Qos.bV at h
 split at h
 ·cases h
 rename_i hn
 split at h
 ·cases h
 split at h
 ·cases h
 split at h
 ·cases h
 split at h
 ·cases h
 rename_i h3
 have a:=Qos.mv h1.1;have b:=Qos.mv h1.2.1;exact ⟨by simpa using hn,a.1,a.2,b.1,b.2,by omega,CM h⟩
theorem fm {p:Pd} (h:ah p=0):OkP p:=by
 obtain ⟨h1,h2,h3,h4⟩:=Qos.kK h;refine ⟨h1,h2,h3.2,λc hc=>?_⟩;obtain ⟨k,hk,rfl⟩:=sY hc;exact CN (Dvs.cO h4 k hk)
theorem td {dv:List Int} (h:cd dv=0):dv.length<=16/\∀ x∈dv,0<=x/\x<=15:=by
 unfold cd at h
 split at h
 ·cases h
 refine ⟨by omega,λx hx=>?_⟩;obtain ⟨k,hk,rfl⟩:=CK hx
 have:=Dvs.cO h k hk
 unfold ex at this
 split at this
 ·cases this
 ·omega
theorem CO {h:Hd} {b:Bool} (e:du h b=0) (hc:∀ g∈h.gs,g.cp<18446744073709551616):OkH h:=by
 unfold du at e
 split at e
 ·exact absurd e (by assumption)
 rename_i h1
 split at e
 ·cases e
 rename_i h2
 rw [not_or] at h2;refine ⟨fm (by omega),by omega,λg hg=>?_⟩;obtain ⟨k,hk,rfl⟩:=kQ hg;exact ⟨hc _ hg,td (Dvs.cO e k hk)⟩
theorem oR {hs:List Hd} (e:az hs=0) (hc:∀ h∈hs,∀ g∈h.gs,g.cp<18446744073709551616):OkL hs:=by
 unfold az at e
 split at e
 ·cases e
 refine ⟨by omega,λh hh=>?_⟩;obtain ⟨k,hk,rfl⟩:=mA hh;exact CO (Dvs.cO e k hk) (hc _ hh)
theorem gN {s:ByteArray} (h:aS s=true):0<s.data.toList.length/\s.data.toList.length<=8:=by
 have e:s.data.toList.length=s.size:=by simp
 rw [e];simp only [aS,Bool.and_eq_true,Qp] at h;exact ⟨h.1.1,h.1.2⟩
theorem oS (n:Nat) (h:n<18446744073709551616):(Lib.decDigits n).length<=20:=by rw [Lib.decDigits_length];exact Lib.nDigits_le20 _ h
theorem im (n:Int) (h:n<=1125899906842624):(dec n).length<=20:=oS _ (by omega)
theorem jt (c:UInt8) (m:Nat):∀ (xs:List (List UInt8)),(∀ x∈xs,x.length<=m)->(Lib.join xs [c]).length<=xs.length*(m+1):=by
 intro xs h;have key:∀ r:List (List UInt8),(∀ x∈r,x.length<=m)->Lib.lens r<=r.length*m:=by
  intro r
  induction r with
  | nil=>intro _;simp [Lib.lens]
  | cons x r ih=>
   intro h;have h1:=ih λy hy=>h y (by simp [hy])
   have h2:=h x (by simp);simp only [Lib.lens,Qq,List.sum_cons,Qg,Nat.add_mul,Nat.one_mul] at h1 ⊢;omega
 cases xs with
 | nil=>simp [Lib.join_nil]
 | cons x r=>
  rw [Lib.join_length];have h1:=key _ h;simp only [Qg,List.length_nil,Nat.mul_add,Nat.add_mul,Nat.one_mul,Nat.mul_one,Qd] at h1 ⊢;omega
theorem oT {l:List UInt8} {m:Nat} (h:l.length<=m):(dU l).length<=m+1:=by
 unfold dU;split
 ·simp
 ·omega
theorem th {d:Nd} (h:OkN d):(eR d).length<=29:=by
 have h1:=gN h.1;have h2:=im d.many (by have:=h.2.2;omega);simp only [eR,Q2,Qg,List.length_nil];omega
theorem CP {ds:List Nd} (h:∀ d∈ds,OkN d) (hl:ds.length<=3):(gk ds).length<=91:=by
 refine oT (Q5 (jt 44 29 _ λx hx=>?_) ?_)
 ·obtain ⟨d,hd,rfl⟩:=Qk.1 hx;exact th (h d hd)
 ·rw [Q9];omega
theorem CQ {dv:List Int} (h:∀ x∈dv,0<=x/\x<=15) (hl:dv.length<=16):(gK dv).length<=337:=by
 refine oT (Q5 (jt 44 20 _ λx hx=>?_) ?_)
 ·obtain ⟨d,hd,rfl⟩:=Qk.1 hx;exact im d (by have:=h d hd;omega)
 ·rw [Q9];omega
theorem CR (A:Nat):(kP A).length<=301:=oT (Ost.qE A)
theorem ti {c:Ct} (h:OkC c):∀ x∈dK c,x.length<=100:=by
 obtain ⟨h1,h2,h3,h4,h5,h6,h7⟩:=h;have a:=gN h1;have b1:=im c.am (by omega);have b2:=im c.ab (by omega);have b3:=im c.cm (by omega);have b4:=im c.cb (by omega);have b5:=CP h7 h6;intro x hx;simp only [dK,List.mem_cons,List.not_mem_nil,or_false] at hx
 rcases hx with rfl|rfl|rfl|rfl|rfl|rfl|rfl <;> first|omega|simp
theorem tj {g:Gv} (h:OkG g):∀ x∈cY g,x.length<=400:=by
 have a:=CR g.cp;have b:=CQ h.2.2 h.2.1;intro x hx;simp only [cY,List.mem_cons,List.not_mem_nil,or_false] at hx
 rcases hx with rfl|rfl <;> omega
theorem tl {p:Pd} (h:OkP p):∀ x∈fk p,x.length<=100:=by
 have a:=gN h.1;have b:=im p.pr (by have:=h.2.1;omega);intro x hx;simp only [fk,List.mem_cons,List.not_mem_nil,or_false] at hx
 rcases hx with rfl|rfl|rfl <;> first|omega|simp
theorem tm {c:Ct} {g:Gv} (hc:OkC c) (hg:OkG g):(gL c g).length<=4000:=by
 have:=jt 32 400 (dK c++cY g) λx hx=>by
  rcases Qi.1 hx with h|h
  ·have:=ti hc x h;omega
  ·exact tj hg x h
 simp only [gL,fl,Q2,Qg,List.length_nil] at this ⊢;simp only [dK,cY,Qg,List.length_nil] at this;simp only [dK,cY];omega
theorem oU {p:Pd} (h:OkP p):(fG p).length<=400:=by
 have:=jt 32 100 (fk p) (tl h)
 simp only [fG,fl,Q2,Qg,List.length_nil];simp only [fk,Qg,List.length_nil] at this ⊢;omega
theorem tn {h:Hd} (e:OkH h) {k:Nat} (hk:k<h.pod.cs.length):OkC (ct h.pod.cs k)/\OkG (gv h.gs k):=
 ⟨e.1.2.2.2 _ (iU hk),e.2.2 _ (kR (by rw [e.2.1];exact hk))⟩
theorem oV {h:Hd} (e:OkH h):∀ k,k<=h.pod.cs.length->(dL h k).length<=k*4000:=by
 intro k
 induction k with
 | zero=>intro _;simp [dL]
 | succ k ih=>
  intro hk;have h1:=ih (by omega);obtain ⟨h2,h3⟩:=tn e (k:=k) (by omega)
  have:=tm h2 h3
  rw [dL,Q2];omega
theorem tr {h:Hd} (e:OkH h):(eS h).length<=13000:=by
 have h1:=oV e _ (lR);have h2:=oU e.1;have h3:=e.1.2.2.1;rw [eS,Q2];omega
theorem tt {hs:List Hd} (e:OkL hs):∀ k,k<=hs.length->(ew hs k).length<=k*13000:=by
 intro k
 induction k with
 | zero=>intro _;simp [ew]
 | succ k ih=>
  intro hk;have h1:=ih (by omega);have h2:=tr (e.2 _ (jU (k:=k) (by omega)));rw [ew,Q2];omega
theorem CS {hs:List Hd} (e:OkL hs):(body hs).length<=156000:=by
 have:=tt e _ (lR)
 have h2:=e.1;unfold body;omega
theorem kS (b:List UInt8):(cQ b).length<=25:=by
 have:=oS (fnv b) (Q1 (nA b) (by omega))
 simp only [cQ,Q2,Qg,List.length_nil];omega
end Sv
end
section
open Go.ChangeShapes Go.WideShapes Go.ChangeAt Go.RowKit
open Qos (Nd Ct Pd nd0 ct0 pd0 nd ct pd)
open Sv (Gv Hd gv hd)
def bj (w:World) (v:Value) (xs:List Int):Prop:=
 ∃ ao c,v=.slice ao xs.length c/\(xs.length<=c/\c<=maxLen)/\(0<xs.length->∃ b o,ao=some ⟨b,o,none⟩/\b<w.heap.size/\∀ k,k<xs.length->w.cell? ⟨b,o+k,none⟩=some (.int .i64 (xs.getD k 0)))
def jV (w:World) (b o:Nat) (gs:List Gv) (dv:Nat->Value):Prop:=
 b<w.heap.size/\∀ k,k<gs.length->(w.cell? ⟨b,o+k*2,none⟩=some (.int .u64 (gv gs k).cp)/\w.cell? ⟨b,o+k*2+1,none⟩=some (dv k)/\(gv gs k).cp<18446744073709551616)/\bj w (dv k) (gv gs k).dv
def bl (w:World) (v:Value) (gs:List Gv):Prop:=
 ∃ ao c,v=.slice ao gs.length c/\(gs.length<=c/\c<=maxLen)/\(0<gs.length->∃ b o dv,ao=some ⟨b,o,none⟩/\jV w b o gs dv)
def oW (h:Hd) (cv gvv:Value):Value:=.agg #[.string h.pod.nm,.int .i64 h.pod.pr,cv,gvv]
def jW (w:World) (b o:Nat) (hs:List Hd) (cv gvv:Nat->Value):Prop:=
 b<w.heap.size/\∀ k,k<hs.length->(w.cell? ⟨b,o+k*4,none⟩=some (.string (hd hs k).pod.nm)/\w.cell? ⟨b,o+k*4+1,none⟩=some (.int .i64 (hd hs k).pod.pr)/\w.cell? ⟨b,o+k*4+2,none⟩=some (cv k)/\w.cell? ⟨b,o+k*4+3,none⟩=some (gvv k))/\aE w (cv k) (hd hs k).pod.cs/\bl w (gvv k) (hd hs k).gs
def aM (w:World) (v:Value) (hs:List Hd):Prop:=
 ∃ ao c,v=.slice ao hs.length c/\(hs.length<=c/\c<=maxLen)/\(0<hs.length->∃ b o cv gvv,ao=some ⟨b,o,none⟩/\jW w b o hs cv gvv)
theorem bj.below {w w':World} {v:Value} {xs:List Int} (h:bj w v xs) (hb:Below w.heap.size w w'):bj w' v xs:=by
 obtain ⟨ao,c,hv,hm,hr⟩:=h;refine ⟨ao,c,hv,hm,λh0=>?_⟩;obtain ⟨b,o,ha,hlt,hc⟩:=hr h0;exact ⟨b,o,ha,Q1 hlt hb.size,λk hk=>(hb.cell (p:=⟨b,o+k,none⟩) hlt).trans (hc k hk)⟩
theorem jV.below {w w':World} {b o:Nat} {gs:List Gv} {dv:Nat->Value} (h:jV w b o gs dv) (hb:Below w.heap.size w w'):jV w' b o gs dv:=
 ⟨Q1 h.1 hb.size,λk hk=>by
  obtain ⟨⟨h1,h2,h3⟩,h4⟩:=h.2 k hk;exact ⟨⟨(hb.cell (p:=⟨b,o+k*2,none⟩) h.1).trans h1,(hb.cell (p:=⟨b,o+k*2+1,none⟩) h.1).trans h2,h3⟩,h4.below hb⟩⟩
theorem bl.below {w w':World} {v:Value} {gs:List Gv} (h:bl w v gs) (hb:Below w.heap.size w w'):bl w' v gs:=by
 obtain ⟨ao,c,hv,hm,hr⟩:=h;refine ⟨ao,c,hv,hm,λh0=>?_⟩;obtain ⟨b,o,dv,ha,hc⟩:=hr h0;exact ⟨b,o,dv,ha,hc.below hb⟩
theorem jW.below {w w':World} {b o:Nat} {hs:List Hd} {cv gvv:Nat->Value} (h:jW w b o hs cv gvv) (hb:Below w.heap.size w w'):jW w' b o hs cv gvv:=
 ⟨Q1 h.1 hb.size,λk hk=>by
  obtain ⟨⟨h1,h2,h3,h4⟩,h5,h6⟩:=h.2 k hk;exact ⟨⟨(hb.cell (p:=⟨b,o+k*4,none⟩) h.1).trans h1,(hb.cell (p:=⟨b,o+k*4+1,none⟩) h.1).trans h2,(hb.cell (p:=⟨b,o+k*4+2,none⟩) h.1).trans h3,(hb.cell (p:=⟨b,o+k*4+3,none⟩) h.1).trans h4⟩,h5.below hb,h6.below hb⟩⟩
theorem aM.below {w w':World} {v:Value} {hs:List Hd} (h:aM w v hs) (hb:Below w.heap.size w w'):aM w' v hs:=by
 obtain ⟨ao,c,hv,hm,hr⟩:=h;refine ⟨ao,c,hv,hm,λh0=>?_⟩;obtain ⟨b,o,cv,gvv,ha,hc⟩:=hr h0;exact ⟨b,o,cv,gvv,ha,hc.below hb⟩
theorem aM.cps {w:World} {v:Value} {hs:List Hd} (h:aM w v hs):∀ x∈hs,∀ g∈x.gs,g.cp<18446744073709551616:=by
 intro x hx g hg;obtain ⟨k,hk,rfl⟩:=Sv.mA hx;obtain ⟨ao,c,_,_,hr⟩:=h;obtain ⟨b,o,cv,gvv,_,hc⟩:=hr (by omega);obtain ⟨_,_,h6⟩:=hc.2 k hk;obtain ⟨j,hj,rfl⟩:=Sv.kQ hg;obtain ⟨ao,c,_,_,hr⟩:=h6;obtain ⟨b,o,dv,_,hc⟩:=hr (by omega);exact (hc.2 j hj).1.2.2
section
variable {H:Type} {enc:TypeId × Value->H} {W:World}
end
end
section
open RowKit Go.Sort
open S1 (Tab below_grow)
theorem holds_zero0 (w:World) (T:TypeId) (n:Nat) (hs:n<=24):Holds (λ(b:UInt8)=>Value.int .u8 (b.toNat:Int)) (w.alloc (.cells Lib.zeros24 T)) w.heap.size 0 (Array.replicate n (0:UInt8)):=λj hj=>by
 have hj':j<n:=by simpa using hj
 refine ⟨?_,World.frozen?_alloc_new _ _ _ _⟩;rw [World.cell?_alloc_new,Lib.zeros24_at _ (by omega),getElem!_pos _ j hj]
 simp
theorem CU (w:World) (o:Obj) (dk:Array UInt8) (k:Nat):∃ os,(putRow (λ(b:UInt8)=>Value.int .u8 (b.toNat:Int)) (w.alloc o) w.heap.size 0 dk).drewN k=grow (w.drewN k) os:=by
 rw [alloc_eq_grow];obtain ⟨os',_,e⟩:=putRow_grow_new (λ(b:UInt8)=>Value.int .u8 (b.toNat:Int)) w #[o] w.heap.size 0 dk (lR);exact ⟨os',by rw [e];rfl⟩
theorem CV (u:Nat) (w:World) (hu64:u<18446744073709551616) (htab:Tab w) :
  Calls Tryz.prog 225 #[.int .u64 u,.int .i64 10] w λe w'=>e=.returned (.string ⟨(Lib.decDigits u).toArray⟩)/\Below w.heap.size w w':=by
 by_cases hs:u<100
 ·have hd:decide ((u:Int)<100)=true:=Qc (by omega)
  go_enter Tryz.func225,Tryz.ntmps225
  go_wp2_with fail
  refine (Tryz.internal_strconv_small u hs _).mono ?_;rintro e w' ⟨rfl,rfl⟩
  go_wp2
  go_ret;exact ⟨rfl,Q0 _ _⟩
 ·have hu1:1<=u:=by omega
  have hd:decide ((u:Int)<100)=false:=Q7 (by omega);have hnd20:Lib.nDigits u<=20:=by have:=Lib.numDigits_eq u hu1 hu64;split at this <;> omega
  have hsl1:∀ W,(Instr.sliceAt 358 (.pointer (some ⟨w.heap.size,0,none⟩)) none (some (.int .i64 (Lib.nDigits u:Int))) none).run Tryz.prog W=.ok (.slice (some ⟨w.heap.size,0,none⟩) (Lib.nDigits u) 24) W:=λW=>by
   have hal:Tryz.prog.arrayLen 358=24:=by kernel_rfl
   rw [run_sliceAt_array_h W 358 ⟨w.heap.size,0,none⟩ (by kernel_rfl) .i64 (Lib.nDigits u:Int) (by omega) (by rw [hal];omega)];go_simp
  have hH0:=holds_zero0 w 358 (Lib.nDigits u) (by omega);have hfmt:=Tryz.internal_strconv_formatBase10 w.heap.size 0 24 u (Array.replicate (Lib.nDigits u) 0) (w.alloc (.cells Lib.zeros24 358)) hH0 (by rw [Array.size_replicate];exact Lib.lt_pow_nDigits u) hu64 (by rw [Array.size_replicate];omega);rw [Array.size_replicate] at hfmt;have HH0:=Lib.hid hH0;have HFM:=qI hfmt;have HTB:=qI (Lib.tabIs_alloc htab (.cells Lib.zeros24 358));clear hH0 hfmt htab
  go_enter Tryz.func225,Tryz.ntmps225
  go_wp2_with fail
  refine (Tryz.internal_strconv_numDigits u hu1 hu64 _ HTB.out).mono ?_;rintro e w' ⟨rfl,rfl⟩
  go_wp2_with fail
  refine HFM.out.mono ?_;rintro e w' ⟨rfl,k,v',dk,rfl,hF⟩;have hcv:(convert 235 9 (.slice (some ⟨w.heap.size,0,none⟩) (Lib.nDigits u) 24)).run Tryz.prog ((putRow (λ(b:UInt8)=>Value.int .u8 (b.toNat:Int)) (w.alloc (.cells Lib.zeros24 358)) w.heap.size 0 dk).drewN k)=.ok (.string ⟨(Lib.decDigits u).toArray⟩) ((putRow (λ(b:UInt8)=>Value.int .u8 (b.toNat:Int)) (w.alloc (.cells Lib.zeros24 358)) w.heap.size 0 dk).drewN k):=by
   have h:=run_convert_bytes_back (P:=Tryz.prog) ((putRow (λ(b:UInt8)=>Value.int .u8 (b.toNat:Int)) (w.alloc (.cells Lib.zeros24 358)) w.heap.size 0 dk).drewN k) 235 9 5 ⟨w.heap.size,0,none⟩ 24 (Lib.decDigits u) Tryz.underlying235 Tryz.underlying5 Tryz.underlying9 (λj hj=>by
    rw [Lib.row_is_numeral hF j hj,Lib.add_plain,World.cell?_drewN];exact cell?_putRow (λ(b:UInt8)=>Value.int .u8 (b.toNat:Int)) _ w.heap.size 0 _ dk HH0.out (by rw [hF.size,Array.size_replicate]) j (by rw [hF.size];rw [Lib.decDigits_length] at hj;exact hj))
   rw [Lib.decDigits_length] at h;exact h
  go_wp2
  go_ret;obtain ⟨os,eo⟩:=CU w (.cells Lib.zeros24 358) dk k;exact ⟨rfl,by rw [eo];exact below_grow _ w (lR) k os⟩
theorem CX (u:Nat) (w:World) (hu64:u<18446744073709551616) (htab:Tab w) :
  Calls Tryz.prog 178 #[.int .u64 u,.int .i64 10] w λe w'=>e=.returned (.string ⟨(Lib.decDigits u).toArray⟩)/\Below w.heap.size w w':=by
 have HT:=qI htab;clear htab
 go_enter Tryz.func178,Tryz.ntmps178
 go_wp2_with fail
 refine (CV u w hu64 HT.out).mono ?_;rintro e w1 ⟨rfl,hb⟩
 go_wp2
 go_ret;exact ⟨rfl,hb⟩
theorem jX (a b:List UInt8):(ByteArray.mk a.toArray)++(ByteArray.mk b.toArray)=ByteArray.mk (a++b).toArray:=by
 apply ByteArray.ext;simp
theorem CY (b:List UInt8) (w:World) (hb:b.length<=1000000) (htab:Tab w) :
  Calls Tryz.prog 138 #[.string ⟨b.toArray⟩] w λe w'=>e=.returned (.string ⟨(Sv.cQ b).toArray⟩)/\Below w.heap.size w w':=by
 have HT:=qI htab;clear htab;have HS:=qI (yk ⟨b.toArray⟩ w (by unfold maxLen;simp [ByteArray.size];omega));have hlt:Sv.fnv b<4294967296:=Sv.nA b;have hle:=Sv.oS (Sv.fnv b) (by omega);have HE:Hid (Sv.cQ b=[115,117,109,32]++Lib.decDigits (Sv.fnv b)++[10]):=rfl;have e0:(ByteArray.mk b.toArray).data.toList=b:=by simp
 rw [e0] at HS;generalize Sv.fnv b=H at *;generalize Sv.cQ b=S at *;have ea:=jX [115,117,109,32] (Lib.decDigits H);have eb:=jX ([115,117,109,32]++Lib.decDigits H) [10]
 go_enter Tryz.func138,Tryz.ntmps138
 go_wp2_with fail
 refine HS.out.mono ?_;rintro e w1 ⟨rfl,rfl⟩
 go_wp2_with fail
 refine (CX H _ (by omega) HT.out).mono ?_;rintro e w1 ⟨rfl,hb1⟩
 go_wp2
 go_ret;exact ⟨by rw [HE.out];exact congrArg (λx=>Ending.returned (Value.string x)) eb,hb1⟩
theorem oX (l:List UInt8) (w:World):Calls Tryz.prog 175 #[.string ⟨l.toArray⟩] w λe w'=>e=.returned (.string ⟨(Sv.dU l).toArray⟩)/\w'=w:=by
 have h0:((ByteArray.mk l.toArray).toList.isEmpty)=l.isEmpty:=by rw [Qs]
 by_cases h:l=[]
 ·subst h
  go_enter Tryz.func175,Tryz.ntmps175
  go_wp2
  go_ret;exact ⟨rfl,rfl⟩
 ·have h1:l.isEmpty=false:=by simpa using h
  rw [h1] at h0;have HE:Hid (Sv.dU l=l):=by unfold Hid Sv.dU;rw [if_neg h]
  rw [HE.out]
  go_enter Tryz.func175,Tryz.ntmps175
  go_wp2
  go_ret;exact ⟨rfl,rfl⟩
end
section
namespace Sv
open Qos (Nd Ct Pd nd ct pd ah leS)
open Ost (df dD kr good val g9 iD)
open Dvs (aS)
abbrev Tx:=List UInt8
def oY {α:Type} (f:Tx->Option α):List Tx->Option (List α)
 | []=>some []
 | x :: r=>match f x with
  | none=>none
  | some y=>(oY f r).map (y :: ·)
def tu {α:Type} (f:Tx->Option α) (l:Tx):Option (List α):=if l=[45] then some [] else oY f (dD 44 l)
def CZ (l:Tx):Option Nat:=if l=[45] then some 0 else if (kr l).2=0 then some (kr l).1 else none
def wd (ws:List Tx) (k:Nat):Tx:=ws.getD k []
def C0 (num:Tx->Option Int) (need:Tx->Option Nd) (ws:List Tx):Option (Ct × Gv):=
 match num (wd ws 2),num (wd ws 3),num (wd ws 4),num (wd ws 5),tu need (wd ws 6),CZ (wd ws 7),tu num (wd ws 8) with
 | some a,some b,some c,some d,some ds,some A,some dv=>some (⟨⟨(wd ws 1).toArray⟩,a,b,c,d,ds⟩,⟨A,dv⟩)
 | _,_,_,_,_,_,_=>none
def C5 (ws:List Tx):Bool:=decide (wd ws 0=[112,111,100]) && decide (ws.length=3)
def C6 (ws:List Tx):Bool:=decide (wd ws 0=[99,111,110,116]) && decide (ws.length=9)
def C7 (h:Hd) (c:Ct) (g:Gv):Hd:=⟨⟨h.pod.nm,h.pod.pr,h.pod.cs++[c]⟩,h.gs++[g]⟩
def C8 (hs:List Hd) (c:Ct) (g:Gv):List Hd:=hs.dropLast++[C7 (hd hs (hs.length - 1)) c g]
def C9 (ws:List Tx) (n:Int):Hd:=⟨⟨⟨(wd ws 1).toArray⟩,n,[]⟩,[]⟩
def step (num:Tx->Option Int) (need:Tx->Option Nd) (hs:List Hd) (ws:List Tx):Option (List Hd):=
 if C5 ws=true then (num (wd ws 2)).map λn=>hs++[C9 ws n]
 else if C6 ws=true/\0<hs.length then (C0 num need ws).map λx=>C8 hs x.1 x.2
 else none
def steps (num:Tx->Option Int) (need:Tx->Option Nd) (hs:List Hd):List (List Tx)->Option (List Hd)
 | []=>some hs
 | ws :: r=>match step num need hs ws with
  | none=>none
  | some hs'=>steps num need hs' r
def Da (t:Tx):List Tx:=if (dD 10 t).getLast?=some [] then (dD 10 t).dropLast else dD 10 t
def tv (l:Tx):Option Int:=if good 16 l=true then some (val l) else none
def Db (l:Tx):Option Nd:=(tv (df 58 l).2.1).map λn=>⟨⟨(df 58 l).1.toArray⟩,n⟩
def kT (t:Tx):Option (List Hd):=steps tv Db [] ((Da t).map (dD 32))
structure Good (num:Tx->Option Int) (need:Tx->Option Nd):Prop where
 num:∀ n:Int,0<=n->n<=1125899906842624->num (dec n)=some n
 need:∀ d:Nd,OkN d->need (eR d)=some d
def tw (h:Hd):Nat->List (List Tx)
 | 0=>[]
 | k+1=>tw h k++[dK (ct h.pod.cs k)++cY (gv h.gs k)]
def Dc (h:Hd):List (List Tx):=fk h.pod :: tw h h.pod.cs.length
def cP (hs:List Hd):Nat->List (List Tx)
 | 0=>[]
 | k+1=>cP hs k++Dc (hd hs k)
end Sv
end
section
open RowKit
open Qos (Nd Ct Pd nd ct pd)
open Sv (Gv Hd gv hd eR gk gK kP dK cY fl OkN OkC OkG)
open S1 (Tab strs jg iI jM ig kv)
theorem oZ {w w':World} {base:Nat} {e:TypeId} {size:Nat} {v:Value} {n:Nat} {xs:List Value} (h:w.ownsRow base e size v n xs) (hb:Below w.heap.size w w'):w'.ownsRow base e size v n xs:=
 h.kept (row:=none) ⟨hb.os,hb.tape,hb.output,hb.size,λj hj _=>hb.block j hj⟩ (by cases hv:v.ownBlock <;> simp)
theorem o5 (c:UInt8) (v:Value) (xs:List (List UInt8)) (w:World) (base:Nat) (h:w.ownsRow base 9 1 v xs.length (strs xs)) (hn:xs.length<=1000) (hl:(Lib.join xs [c]).length<=1000000) :
  Calls Tryz.prog 220 #[v,.string ⟨#[c]⟩] w λe w'=>e=.returned (.string ⟨(Lib.join xs [c]).toArray⟩)/\Below w.heap.size w w':=by
 rcases jM h with ⟨rfl,h0⟩|⟨g,cap,rfl,hc,hg,hcell⟩
 ·have:xs=[]:=Qe h0
  subst this;refine (Tryz.strings_Join_none none 0 ⟨#[c]⟩ w).mono ?_;rintro e w' ⟨rfl,rfl⟩;exact ⟨rfl,Q0 _ _⟩
 ·have hx:(xs.map λ(b:List UInt8)=>ByteArray.mk b.toArray).map (·.data.toList)=xs:=by
   rw [List.map_map];exact List.map_id'' (λ_=>rfl) xs
  have:=Tryz.strings_Join g 0 cap (xs.map λ(b:List UInt8)=>ByteArray.mk b.toArray) ⟨#[c]⟩ w (λj x hj=>by
   rw [Qd];apply hcell;unfold strs;rw [List.getElem?_map] at hj ⊢;obtain ⟨a,ha,rfl⟩:=Option.map_eq_some_iff.1 hj;rw [ha];rfl) hg (by simp;omega) (by simpa using hc) (by rw [hx];show (Lib.join xs [c]).length<=_;omega)
  rw [hx] at this
  simpa using this
def fo (xs:List Int) (k:Nat):List (List UInt8):=(xs.take k).map Sv.dec
theorem Dd {xs:List Int} {k:Nat} (h:k<xs.length):fo xs (k+1)=fo xs k++[Sv.dec (xs.getD k 0)]:=by
 unfold fo;rw [Qa h,Qj];simp [h]
theorem o6 {xs:List Int} {k:Nat} (h:k<=xs.length):(fo xs k).length=k:=by
 unfold fo;simp;omega
theorem tx (xs:List Int):fo xs xs.length=xs.map Sv.dec:=by unfold fo;rw [Qh]
theorem De (v:Value) (xs:List Int) (w:World) (h:bj w v xs) (hx:∀ x∈xs,0<=x/\x<=15) (hl:xs.length<=16) (htab:Tab w) (hG:0<w.heap.size) :
  Calls Tryz.prog 177 #[v,.func (.func 173) #[] #[]] w λe w'=>e=.returned (.string ⟨(gK xs).toArray⟩)/\Below w.heap.size w w':=by
 obtain ⟨i0,hi,hz0,hz1,hz2⟩:=info_parts ig;obtain ⟨ao,c,rfl,hm,hr⟩:=h;have HR:=qI hr;have HT:=qI htab;have HX:=qI hx;have HG:=qI hG;clear hr htab hx hG;unfold maxLen at hm;have HJ:Hid (∀ (v:Value) (w1:World),w1.ownsRow w.heap.size 9 1 v (fo xs xs.length).length (strs (fo xs xs.length))->Calls Tryz.prog 220 #[v,.string ⟨#[44]⟩] w1 λe w'=>e=.returned (.string ⟨(Lib.join (fo xs xs.length) [44]).toArray⟩)/\Below w1.heap.size w1 w'):=by
  intro v w1 h;refine o5 44 v _ w1 _ h (by rw [o6 (lR)];omega) ?_;refine Q5 (Sv.jt 44 20 _ λx hx=>?_) (by rw [o6 (lR)];omega);rw [tx] at hx;obtain ⟨d,hd,rfl⟩:=Qk.1 hx;exact Sv.im d (by have:=(HX.out d hd).2;omega)
 have HD:Hid (Sv.dU (Lib.join (fo xs xs.length) [44])=gK xs):=by unfold Hid gK;rw [tx]
 go_enter Tryz.func177,Tryz.ntmps177
 go_wp2
 go_loopw [5,10] (λr i wr=>∃ k:Nat,k<=xs.length/\i=.int .i64 k/\wr.ownsRow w.heap.size 9 1 r (fo xs k).length (strs (fo xs k))/\Below w.heap.size w wr) (λ_ i _=>xs.length - (intOf i).toNat)
 case atStart=>exact ⟨0,by omega,rfl,Qw _ _ _ _,Q0 _ _⟩
 case round=>
  obtain ⟨k,hk,rfl,hrow,hB⟩:=hrel
  by_cases hlt:k<xs.length
  ·obtain ⟨b,o,rfl,hb,hc⟩:=HR.out (by omega);have h1:=(hB.cell (p:=⟨b,o+k,none⟩) hb).trans (hc k hlt);have HS:=qI (Dd hlt);have hle:=o6 hk;have hxk:=HX.out (xs.getD k 0) (by simp [hlt]);have hsz:=hB.size;clear hc;generalize xs.getD k 0=x at *;have HI:=qI (kv x wr hxk.1 (by omega) (HT.out.below hB HG.out))
   go_wp2_with fail
   refine HI.out.mono ?_;rintro e w1 ⟨rfl,hb1⟩;have HB1:=qI (hB.trans (hb1.mono hB.size));have hrow1:=oZ hrow hb1;have hsz1:=hb1.size
   go_wp2_with (at_builtin;refine wpList_append_own _ rfl _ _ 78 rfl w.heap.size 9 i0 (.string ⟨#[]⟩) 1 16 Tryz.underlying78 hi hz0 hz1 hz2 rfl (by decide) _ _ _ rfl (hrow1.alloc _) ⟨_,0,none⟩ 1 1 [.string ⟨(Sv.dec x).toArray⟩] rfl rfl (cell_one_new _ _ _) (iI [Sv.dec x]) (by unfold maxLen;omega) (by omega) (by simp;omega) ?_;intro v' w2 hown' hgrow' _)
   go_roundw
   case rel=>
    refine ⟨k+1,by omega,by go_num,?_,?_⟩
    ·rw [HS.out,jg,Q2];exact hown'
    ·exact (HB1.out.alloc HB1.out.size _).grown hgrow' (by simp;omega) (λj hj=>(hrow1.lt j hj).1)
   case measure=>simp [intOf];omega
  ·have hke:k=xs.length:=by omega
   subst hke
   go_wp2_with fail
   refine (HJ.out _ _ hrow).mono ?_;rintro e w1 ⟨rfl,hb1⟩;have hB1:=hB.trans (hb1.mono hB.size)
   go_wp2_with fail
   refine (oX _ _).mono ?_;rintro e w2 ⟨rfl,rfl⟩
   go_wp2
   go_ret;exact ⟨by rw [<- HD.out];rfl,hB1⟩
end
section
open RowKit
open Qos (Nd Ct Pd nd ct pd ah leS)
open Sv (Gv Hd gv hd cd ex gsF du gM az js)
open Dvs (aS first)
theorem bj.slice {w:World} {v:Value} {xs:List Int} (h:bj w v xs):∃ ao c,v=.slice ao xs.length c:=by
 obtain ⟨ao,c,rfl,_⟩:=h;exact ⟨ao,c,rfl⟩
theorem Df {xs:List Int} (h:16<xs.length):cd xs=2:=by unfold cd;rw [if_pos h]
theorem Dg {xs:List Int} (h:¬ 16<xs.length):cd xs=first (ex xs) xs.length:=by unfold cd;rw [if_neg h]
def ju (xs:List Int) (k:Nat):Int:=if k=0 then -1 else xs.getD (k - 1) 0
theorem Dh (xs:List Int) (k:Nat):ju xs (k+1)=xs.getD k 0:=rfl
theorem Di {xs:List Int} {k:Nat} (h:first (ex xs) k=0) (hk:k<xs.length):ex xs k=if xs.getD k 0<=ju xs k\/16<=xs.getD k 0 then 3 else 0:=by
 unfold ex
 by_cases h0:k=0
 ·subst h0;rw [show ju xs 0=-1 from rfl]
  by_cases h1:xs.getD 0 0<0\/15<xs.getD 0 0
  ·rw [if_pos (by omega),if_pos (by omega)]
  ·rw [if_neg (by omega),if_neg (by omega)]
 ·have e:ju xs k=xs.getD (k - 1) 0:=by unfold ju;rw [if_neg h0]
  rw [e];have hp:=Dvs.cO h (k - 1) (by omega);unfold ex at hp
  split at hp
  ·cases hp
  rename_i h2
  by_cases h1:xs.getD k 0<=xs.getD (k - 1) 0\/16<=xs.getD k 0
  ·rw [if_pos h1,if_pos (by omega)]
  ·rw [if_neg h1,if_neg (by omega)]
theorem Dj (v:Value) (xs:List Int) (w:World) (h:bj w v xs):Calls Tryz.prog 218 #[v] w λe w'=>e=.returned (ak (cd xs:Nat))/\w'=w:=by
 obtain ⟨ao,c,rfl,hm,hr⟩:=h;have HR:=qI hr;clear hr;have HM:=qI hm;unfold maxLen at hm
 by_cases hn:16<xs.length
 ·have he:=Df hn;have hd:decide ((16:Int)<(xs.length:Int))=true:=Qc (by omega)
  go_enter Tryz.func218,Tryz.ntmps218
  go_wp2
  go_ret;exact ⟨by rw [he];rfl,rfl⟩
 ·rw [Dg hn];have hl:xs.length<=16:=by omega
  have hd:decide ((16:Int)<(xs.length:Int))=false:=Q7 (by omega)
  go_enter Tryz.func218,Tryz.ntmps218
  go_wp2_with fail
  go_loop [3,12] (λla i=>∃ k:Nat,k<=xs.length/\i=.int .i64 k/\la=.int .i64 (ju xs k)/\Hid (first (ex xs) k=0)) (λ_ i=>xs.length - (intOf i).toNat)
  case atStart=>exact ⟨0,by omega,rfl,rfl,rfl⟩
  case round=>
   obtain ⟨k,hk,rfl,rfl,HF⟩:=hrel
   by_cases hlt:k<xs.length
   ·obtain ⟨b,o,rfl,hb,hc⟩:=HR.out (by omega);have h1:=hc k hlt;have HO:=qI (Dvs.ij (f:=ex xs) (n:=xs.length) HF.out · hlt);have HZ:=qI (Dvs.iM (f:=ex xs) (k:=k) HF.out);have HA:=qI (Di HF.out hlt);have HN:=qI (Dh xs k);clear hc HF HR HM;generalize xs.getD k 0=x at *;generalize ju xs k=L at *
    by_cases ha:x<=L
    ·have e3:ex xs k=3:=by rw [HA.out,if_pos (.inl ha)]
     have hd1:decide (x<=L)=true:=Qc ha;have HO':=qI (HO.out (by omega))
     go_wp2
     go_ret;exact ⟨by rw [HO'.out,e3];rfl,rfl⟩
    ·have hd1:decide (x<=L)=false:=Q7 ha
     by_cases hg:16<=x
     ·have e3:ex xs k=3:=by rw [HA.out,if_pos (.inr hg)]
      have hd2:decide (16<=x)=true:=Qc hg;have HO':=qI (HO.out (by omega))
      go_wp2
      go_ret;exact ⟨by rw [HO'.out,e3];rfl,rfl⟩
     ·have e0:ex xs k=0:=by rw [HA.out,if_neg (by omega)]
      have hd2:decide (16<=x)=false:=Q7 hg;have HZ':=qI (HZ.out e0);clear HO HZ HA
      go_wp2_with fail
      go_round
      case rel=>exact ⟨k+1,by omega,by go_num,by rw [HN.out],HZ'⟩
      case measure=>simp [intOf];omega
   ·have hke:k=xs.length:=by omega
    subst hke
    go_wp2
    go_ret;exact ⟨by rw [HF.out];rfl,rfl⟩
theorem jV.at {w:World} {b o:Nat} {gs:List Gv} {dv:Nat->Value} (h:jV w b o gs dv) {k:Nat} (hk:k<gs.length) :
  w.cell? ⟨b,o+k*2,none⟩=some (.int .u64 (gv gs k).cp)/\w.cell? ⟨b,o+k*2+1,none⟩=some (dv k):=⟨(h.2 k hk).1.1,(h.2 k hk).1.2.1⟩
theorem Dl {h:Hd} {b:Bool} (e:ah h.pod≠0):du h b=ah h.pod:=by unfold du;rw [if_pos e]
theorem tC {h:Hd} {b:Bool} (e:ah h.pod=0) (e2:b=true\/h.gs.length≠h.pod.cs.length):du h b=3:=by unfold du;rw [if_neg (by omega),if_pos e2]
theorem Dm {h:Hd} {b:Bool} (e:ah h.pod=0) (e2:¬ (b=true\/h.gs.length≠h.pod.cs.length)):du h b=first (λk=>cd (gv h.gs k).dv) h.gs.length:=by unfold du;rw [if_neg (by omega),if_neg e2];rfl
theorem aE.sl {w:World} {v:Value} {cs:List Ct} (h:aE w v cs):∃ ao c,v=.slice ao cs.length c:=by
 obtain ⟨ao,c,rfl,_⟩:=h;exact ⟨ao,c,rfl⟩
theorem bl.sl {w:World} {v:Value} {cs:List Gv} (h:bl w v cs):∃ ao c,v=.slice ao cs.length c:=by
 obtain ⟨ao,c,rfl,_⟩:=h;exact ⟨ao,c,rfl⟩
theorem Dn (h:Hd) (cv gvv:Value) (last:ByteArray) (w:World) (hc:aE w cv h.pod.cs) (hg:bl w gvv h.gs) :
  Calls Tryz.prog 170 #[oW h cv gvv,.string last] w λe w'=>e=.returned (ak (du h (leS h.pod.nm last):Nat))/\Below w.heap.size w w':=by
 unfold oW;have HB0:=qI ((Q0 w.heap.size w).alloc (lR) (.cells #[.string h.pod.nm,.int .i64 h.pod.pr,cv,gvv] 57));have hcb:=hc.below HB0.out;have hgb:=hg.below HB0.out;have HCK:=qI (sR h.pod cv _ hcb);have HCB:=qI hcb;have HGB:=qI hgb;obtain ⟨cao,cc,rfl⟩:=hc.sl;obtain ⟨gao,gc,rfl⟩:=hg.sl;clear hc hg hcb hgb;unfold bQ at HCK
 by_cases hp:ah h.pod=0
 ·have e0:ak ((ah h.pod:Nat):Int)=.nilIface:=by rw [hp];rfl
  go_enter Tryz.func170,Tryz.ntmps170
  go_wp2_with fail
  refine HCK.out.mono ?_;rintro e w1 ⟨rfl,hb⟩;rw [e0];have HB1:=qI (HB0.out.trans (hb.mono HB0.out.size));have hG:=HGB.out.below hb;have c0:w1.cell? ⟨w.heap.size,0,none⟩=some (.string h.pod.nm):=(hb.cell (p:=⟨w.heap.size,0,none⟩) (by simp)).trans (by simp);have c2:w1.cell? ⟨w.heap.size,2,none⟩=some (.slice cao h.pod.cs.length cc):=(hb.cell (p:=⟨w.heap.size,2,none⟩) (by simp)).trans (by simp);have c3:w1.cell? ⟨w.heap.size,3,none⟩=some (.slice gao h.gs.length gc):=(hb.cell (p:=⟨w.heap.size,3,none⟩) (by simp)).trans (by simp);clear hb HCK HCB HGB
  rcases two (leS h.pod.nm last) with hle|hle
  ·have HE:=qI (tC (b:=leS h.pod.nm last) hp (.inl hle));unfold leS at hle
   go_wp2
   go_ret;exact ⟨by rw [HE.out];rfl,HB1.out⟩
  ·by_cases hl:h.gs.length=h.pod.cs.length
   ·have HE:=qI (Dm (b:=leS h.pod.nm last) hp (by rw [hle];simp [hl]));unfold leS at hle;have hl2:(h.gs.length:Int)=(h.pod.cs.length:Int):=by omega
    obtain ⟨_,_,hgv,hm,hr⟩:=hG;cases hgv;have HR:=qI hr;have HM:=qI hm;clear hr;unfold maxLen at hm;generalize h.gs=gs at *
    go_wp2
    go_loopw [34] (λi wr=>∃ k:Nat,k<=gs.length/\i=.int .i64 k/\Below w.heap.size w wr/\Below w1.heap.size w1 wr/\Hid (first (λk=>cd (gv gs k).dv) k=0)) (λi _=>gs.length - (intOf i).toNat)
    case atStart=>exact ⟨0,by omega,rfl,HB1.out,Q0 _ _,rfl⟩
    case round=>
     obtain ⟨k,hk,rfl,hB,hB1,HF⟩:=hrel
     by_cases hlt:k<gs.length
     ·obtain ⟨b,o,dv,rfl,hin⟩:=HR.out (by omega);have hin:=hin.below hB1;obtain ⟨d0,d1⟩:=hin.at hlt;have hI:=(hin.2 k hlt).2;have HO:Hid (cd (gv gs k).dv≠0->first (λk=>cd (gv gs k).dv) gs.length=cd (gv gs k).dv):=qI λh=>Dvs.ij (f:=λk=>cd (gv gs k).dv) (n:=gs.length) HF.out h hlt
      have HZ:Hid (cd (gv gs k).dv=0->first (λk=>cd (gv gs k).dv) (k+1)=0):=qI λh=>Dvs.iM (f:=λk=>cd (gv gs k).dv) (k:=k) HF.out h
      have HBW:=qI ((Q0 wr.heap.size wr).alloc (lR) (.cells #[.int .u64 (gv gs k).cp,dv k] 69));have HBa:=qI (hB.alloc hB.size (.cells #[.int .u64 (gv gs k).cp,dv k] 69));have HBb:=qI (hB1.alloc hB1.size (.cells #[.int .u64 (gv gs k).cp,dv k] 69));have HCD:=qI (Dj (dv k) _ _ (hI.below HBW.out));obtain ⟨iao,ic,hsl⟩:=hI.slice;clear hin hI HF hB hB1;generalize (gv gs k).cp=cp at *;generalize cd (gv gs k).dv=F at *;generalize (gv gs k).dv.length=dn at *;generalize dv k=d at *;subst hsl
      go_wp2_with fail
      refine HCD.out.mono ?_;rintro e w5 ⟨rfl,rfl⟩
      by_cases hF:F=0
      ·have HZ':=qI (HZ.out hF);rw [show ak (F:Int)=.nilIface by rw [hF];rfl];clear HO HZ hF HCD
       go_wp2
       go_roundw
       case rel=>exact ⟨k+1,by omega,by go_num,HBa.out,HBb.out,HZ'⟩
       case measure=>simp [intOf];omega
      ·have HO':=qI (HO.out hF);have HP:=qI (dI hF);rw [HP.out];clear HO HZ hF HCD
       go_wp2
       go_ret;exact ⟨by rw [HE.out,HO'.out,HP.out];rfl,HBa.out⟩
     ·have hke:k=gs.length:=by omega
      subst hke;have HBa:=qI hB;clear hB hB1
      go_wp2
      go_ret;exact ⟨by rw [HE.out,HF.out];rfl,HBa.out⟩
   ·have HE:=qI (tC (b:=leS h.pod.nm last) hp (.inr hl));unfold leS at hle;have hl2:((h.gs.length:Int) == (h.pod.cs.length:Int))=false:=by simp;omega
    go_wp2
    go_ret;exact ⟨by rw [HE.out];rfl,HB1.out⟩
 ·have HE:=qI (Dl (b:=leS h.pod.nm last) hp);have HP:=qI (dI hp)
  go_enter Tryz.func170,Tryz.ntmps170
  go_wp2_with fail
  refine HCK.out.mono ?_;rintro e w1 ⟨rfl,hb⟩;have HB1:=qI (HB0.out.trans (hb.mono HB0.out.size));rw [HP.out];clear hb
  go_wp2
  go_ret;exact ⟨by rw [HE.out,HP.out];rfl,HB1.out⟩
theorem jW.at {w:World} {b o:Nat} {hs:List Hd} {cv gvv:Nat->Value} (h:jW w b o hs cv gvv) {k:Nat} (hk:k<hs.length) :
  w.cell? ⟨b,o+k*4,none⟩=some (.string (hd hs k).pod.nm)/\w.cell? ⟨b,o+k*4+1,none⟩=some (.int .i64 (hd hs k).pod.pr)/\w.cell? ⟨b,o+k*4+2,none⟩=some (cv k)/\w.cell? ⟨b,o+k*4+3,none⟩=some (gvv k):=(h.2 k hk).1
def jY (hs:List Hd) (k:Nat):ByteArray:=if k=0 then ByteArray.empty else (hd hs (k - 1)).pod.nm
theorem Do (hs:List Hd) (k:Nat):jY hs (k+1)=(hd hs k).pod.nm:=rfl
theorem Dp {s:ByteArray} (h:aS s=true):leS s ByteArray.empty=false:=by
 have h0:=(Sv.gN h).1;rw [leS,Qs,Qs];cases hs:s.data.toList with
 | nil=>rw [hs] at h0;simp at h0
 | cons a r=>rfl
theorem Dq {h:Hd} {b:Bool} (hb:aS h.pod.nm=true->b=false):du h b=du h false:=by
 unfold du
 by_cases hp:ah h.pod=0
 ·have hn:=(Qos.kK hp).1;rw [hb hn]
 ·rw [if_pos hp,if_pos hp]
theorem Dr (hs:List Hd) (k:Nat):du (hd hs k) (leS (hd hs k).pod.nm (jY hs k))=gM hs k:=by
 unfold gM js jY
 by_cases h0:k=0
 ·subst h0;rw [if_pos rfl]
  show _=du (hd hs 0) false
  exact Dq Dp
 ·rw [if_neg h0,Qc (by omega:0<k)];rfl
theorem Ds {hs:List Hd} (h:12<hs.length):az hs=2:=by unfold az;rw [if_pos h]
theorem Dt {hs:List Hd} (h:¬ 12<hs.length):az hs=first (gM hs) hs.length:=by unfold az;rw [if_neg h]
theorem Du (v:Value) (hs:List Hd) (w:World) (h:aM w v hs):Calls Tryz.prog 132 #[v] w λe w'=>e=.returned (ak (az hs:Nat))/\Below w.heap.size w w':=by
 obtain ⟨ao,c,rfl,hm,hr⟩:=h;have HR:=qI hr;clear hr;have HM:=qI hm;unfold maxLen at hm
 by_cases hn:12<hs.length
 ·have he:=Ds hn;have hd1:decide ((12:Int)<(hs.length:Int))=true:=Qc (by omega)
  go_enter Tryz.func132,Tryz.ntmps132
  go_wp2
  go_ret;exact ⟨by rw [he];rfl,Q0 _ _⟩
 ·rw [Dt hn];have hl:hs.length<=12:=by omega
  have hd1:decide ((12:Int)<(hs.length:Int))=false:=Q7 (by omega)
  go_enter Tryz.func132,Tryz.ntmps132
  go_wp2
  go_loopw [3,13] (λla i wr=>∃ k:Nat,k<=hs.length/\i=.int .i64 k/\la=.string (jY hs k)/\Below w.heap.size w wr/\Hid (first (gM hs) k=0)) (λ_ i _=>hs.length - (intOf i).toNat)
  case atStart=>exact ⟨0,by omega,rfl,rfl,Q0 _ _,rfl⟩
  case round=>
   obtain ⟨k,hk,rfl,rfl,hB,HF⟩:=hrel
   by_cases hlt:k<hs.length
   ·obtain ⟨b,o,cv,gvv,rfl,hin⟩:=HR.out (by omega);have hin:=hin.below hB;obtain ⟨d0,d1,d2,d3⟩:=hin.at hlt;obtain ⟨_,hC,hG⟩:=hin.2 k hlt;have HO:=qI (Dvs.ij (f:=gM hs) (n:=hs.length) HF.out · hlt);have HZ:=qI (Dvs.iM (f:=gM hs) (k:=k) HF.out);have HBW:=qI ((Q0 wr.heap.size wr).alloc (lR) (.cells #[.string (hd hs k).pod.nm,.int .i64 (hd hs k).pod.pr,cv k,gvv k] 57));have HBa:=qI (hB.alloc hB.size (.cells #[.string (hd hs k).pod.nm,.int .i64 (hd hs k).pod.pr,cv k,gvv k] 57));have HCH:=qI (Dn (hd hs k) (cv k) (gvv k) (jY hs k) _ (hC.below HBW.out) (hG.below HBW.out));rw [Dr hs k] at HCH;unfold oW at HCH;have HN:=qI (Do hs k);obtain ⟨ca,cc,hs1⟩:=hC.sl;obtain ⟨ga,gc,hs2⟩:=hG.sl;clear hin hC hG HF hB;generalize jY hs k=L at *;generalize gM hs k=F at *;generalize (hd hs k).pod.nm=nm at *;generalize (hd hs k).pod.pr=pr at *;generalize (hd hs k).pod.cs.length=cl at *;generalize (hd hs k).gs.length=gl at *;generalize cv k=cvk at *;generalize gvv k=gvk at *;subst hs1 hs2
    go_wp2_with fail
    refine HCH.out.mono ?_;rintro e w5 ⟨rfl,hb5⟩;have HB5:=qI (HBa.out.trans (hb5.mono HBa.out.size));have c0:w5.cell? ⟨wr.heap.size,0,none⟩=some (.string nm):=(hb5.cell (p:=⟨wr.heap.size,0,none⟩) (by simp)).trans (by simp);clear hb5
    by_cases hF:F=0
    ·have HZ':=qI (HZ.out hF);rw [show ak (F:Int)=.nilIface by rw [hF];rfl];clear HO HZ hF HCH
     go_wp2
     go_roundw
     case rel=>exact ⟨k+1,by omega,by go_num,by rw [HN.out],HB5.out,HZ'⟩
     case measure=>simp [intOf];omega
    ·have HO':=qI (HO.out hF);have HP:=qI (dI hF);rw [HP.out];clear HO HZ hF HCH
     go_wp2
     go_ret;exact ⟨by rw [HO'.out,HP.out];rfl,HB5.out⟩
   ·have hke:k=hs.length:=by omega
    subst hke;have HBa:=qI hB;clear hB
    go_wp2
    go_ret;exact ⟨by rw [HF.out];rfl,HBa.out⟩
end
section
open RowKit
theorem Dw (W:World) (b j:Nat) (v:Value):W.grownBy (W.setCell ⟨b,j,none⟩ v) (some b):=
 ⟨rfl,rfl,rfl,by simp,λk hk hne=>by
  have hb:b≠k:=λe=>hne (by rw [e])
  simp [World.setCell,Array.getElem?_modify,hb]⟩
def cG (B:Nat) (w w':World):Prop:=w.grownBy w' (some B)/\w'.heap.size=w.heap.size
theorem cG.refl (B:Nat) (w:World):cG B w w:=⟨⟨rfl,rfl,rfl,lR,λ_ _ _=>rfl⟩,rfl⟩
theorem cG.set {B:Nat} {w w':World} (h:cG B w w') (j:Nat) (v:Value):cG B w (w'.setCell ⟨B,j,none⟩ v):=by
 obtain ⟨hg,hs⟩:=h;have g2:=Dw w' B j v;refine ⟨⟨g2.os.trans hg.os,g2.tape.trans hg.tape,g2.output.trans hg.output,Q5 hg.size g2.size,λk hk hne=>(g2.block k (by omega) hne).trans (hg.block k hk hne)⟩,?_⟩;rw [<- hs]
 simp
theorem gm {w:World} {B:Nat} {arr:Array Value} {t:TypeId} (h:w.heap[B]?=some (.cells arr t (0,0))) (j:Nat) (v:Value):(w.setCell ⟨B,j,none⟩ v).heap[B]?=some (.cells (arr.setIfInBounds j v) t (0,0)):=by
 obtain ⟨hlt,hk⟩:=gS h
 show (w.heap.modify B _)[B]?=_
 rw [Array.getElem?_eq_getElem (by rw [Array.size_modify];exact hlt),Array.getElem_modify_self,hk];rfl
def aA (w:World) (B:Nat) (n k:Sd) (v:Value) (l:Int) (d:Bool):Prop:=w.heap[B]?=some (.cells #[.bool n.ft,.string n.fb,.bool n.dt,.string n.db,.bool k.ft,.string k.fb,.bool k.dt,.string k.db,v,.int .i64 l,.bool d] 146 (0,0))
section
variable {w:World} {B:Nat} {n k:Sd} {v:Value} {l:Int} {d:Bool}
theorem aA.lt (h:aA w B n k v l d):B<w.heap.size:=(gS h).1
theorem aA.now (h:aA w B n k v l d):w.cell? ⟨B,0,none⟩=some (.bool n.ft)/\w.cell? ⟨B,1,none⟩=some (.string n.fb)/\w.cell? ⟨B,2,none⟩=some (.bool n.dt)/\w.cell? ⟨B,3,none⟩=some (.string n.db):=by
 refine ⟨?_,?_,?_,?_⟩ <;> simp [World.cell?,show w.heap[B]?=_ from h]
theorem aA.kept (h:aA w B n k v l d):w.cell? ⟨B,4,none⟩=some (.bool k.ft)/\w.cell? ⟨B,5,none⟩=some (.string k.fb)/\w.cell? ⟨B,6,none⟩=some (.bool k.dt)/\w.cell? ⟨B,7,none⟩=some (.string k.db):=by
 refine ⟨?_,?_,?_,?_⟩ <;> simp [World.cell?,show w.heap[B]?=_ from h]
theorem aA.rest (h:aA w B n k v l d):w.cell? ⟨B,8,none⟩=some v/\w.cell? ⟨B,9,none⟩=some (.int .i64 l)/\w.cell? ⟨B,10,none⟩=some (.bool d):=by
 refine ⟨?_,?_,?_⟩ <;> simp [World.cell?,show w.heap[B]?=_ from h]
theorem aA.frozen (h:aA w B n k v l d) (j:Nat):w.frozen? ⟨B,j,none⟩=false:=by simp [World.frozen?,show w.heap[B]?=_ from h]
theorem aA.set8 (h:aA w B n k v l d) (v':Value):aA (w.setCell ⟨B,8,none⟩ v') B n k v' l d:=gm h 8 v'
theorem aA.set9 (h:aA w B n k v l d) (l':Int):aA (w.setCell ⟨B,9,none⟩ (.int .i64 l')) B n k v l' d:=gm h 9 _
theorem aA.set10 (h:aA w B n k v l d) (d':Bool):aA (w.setCell ⟨B,10,none⟩ (.bool d')) B n k v l d':=gm h 10 _
def putS (w:World) (B i:Nat) (s:Sd):World:=(((w.setCell ⟨B,i,none⟩ (.bool s.ft)).setCell ⟨B,i+1,none⟩ (.string s.fb)).setCell ⟨B,i+2,none⟩ (.bool s.dt)).setCell ⟨B,i+3,none⟩ (.string s.db)
theorem aA.setNow (h:aA w B n k v l d) (s:Sd):aA (putS w B 0 s) B s k v l d:=gm (gm (gm (gm h 0 _) 1 _) 2 _) 3 _
theorem aA.setKept (h:aA w B n k v l d) (s:Sd):aA (putS w B 4 s) B n s v l d:=gm (gm (gm (gm h 4 _) 5 _) 6 _) 7 _
theorem cG.putS {w w':World} {B:Nat} (h:cG B w w') (i:Nat) (s:Sd):cG B w (putS w' B i s):=(((h.set i _).set (i+1) _).set (i+2) _).set (i+3) _
theorem aA.block {w':World} (h:aA w B n k v l d) (he:w'.heap[B]?=w.heap[B]?):aA w' B n k v l d:=he.trans h
end
def bt (l:Int) (d:Bool):Nat:=if d=true\/l=0 then 11 else 0
def aO (l:Int) (d:Bool):Int:=if d=true\/l=0 then l else if 0<l then l - 1 else l
def dM (l:Int) (d:Bool):Bool:=decide (d=true\/l=0)
theorem kU (B:Nat) (n k:Sd) (v:Value) (l:Int) (d:Bool) (w:World) (h:aA w B n k v l d) (hl:-9223372036854775808<=l/\l<=9223372036854775807):Calls Tryz.prog 140 #[.pointer (some ⟨B,0,none⟩)] w λe w'=>e=.returned (ak ((bt l d:Nat):Int))/\aA w' B n k v (aO l d) (dM l d)/\cG B w w':=by
 obtain ⟨_,c9,c10⟩:=h.rest;have f9:=h.frozen 9;have f10:=h.frozen 10
 by_cases h0:l=0
 ·subst h0;obtain ⟨_,e9,e10⟩:=(h.set10 true).rest;have HZ:=qI (h.set10 true);have HO:=qI ((cG.refl B w).set 10 (.bool true));clear h
  go_enter Tryz.func140,Tryz.ntmps140
  go_wp2
  go_ret;exact ⟨by simp [bt,ak],by simpa [aO,dM] using HZ.out,HO.out⟩
 ·cases d with
  | true=>
   have HZ:=qI h;have hb:(l == 0)=false:=by simp [h0]
   clear h
   go_enter Tryz.func140,Tryz.ntmps140
   go_wp2
   go_ret;exact ⟨by simp [bt,ak],by simpa [aO,dM] using HZ.out,cG.refl _ _⟩
  | false=>
   have hb:(l == 0)=false:=by simp [h0]
   by_cases hp:0<l
   ·have hw:wrap64 (l - 1)=l - 1:=by unfold wrap64;omega
    have HZ:=qI (h.set9 (l - 1));have HO:=qI ((cG.refl B w).set 9 (.int .i64 (l - 1)));clear h
    go_enter Tryz.func140,Tryz.ntmps140
    go_wp2
    go_ret;exact ⟨by simp [bt,ak,h0],by simpa [aO,dM,h0,hp] using HZ.out,HO.out⟩
   ·have HZ:=qI h;have hp':l<=0:=by omega
    have HE:Hid (aO l false=l):=by unfold Hid aO;rw [if_neg (by simp [h0]),if_neg hp]
    clear h
    go_enter Tryz.func140,Tryz.ntmps140
    go_wp2
    go_ret;exact ⟨by simp [bt,ak,h0],by rw [HE.out];simpa [dM,h0] using HZ.out,cG.refl _ _⟩
def o7 (n:Sd) (d:Bool):Value:=if d=true then .tuple #[.string ⟨#[]⟩,.iface 121 (.int .i64 11)] else if n.ft=true then .tuple #[.string n.fb,.nilIface] else .tuple #[.string ⟨#[]⟩,.iface 121 (.int .i64 6)]
theorem Dx (B:Nat) (n k:Sd) (v:Value) (l:Int) (d:Bool) (w:World) (h:aA w B n k v l d):Calls Tryz.prog 152 #[.pointer (some ⟨B,0,none⟩)] w λe w'=>e=.returned (o7 n d)/\w'=w:=by
 obtain ⟨_,c9,c10⟩:=h.rest;obtain ⟨c0,c1,_,_⟩:=h.now;obtain ⟨ft,fb,dt,db⟩:=n;dsimp only at c0 c1;unfold o7;clear h;cases d with
 | true=>
  go_enter Tryz.func152,Tryz.ntmps152
  go_wp2
  go_ret2;exact ⟨rfl,rfl⟩
 | false=>
  cases ft with
  | true=>
   go_enter Tryz.func152,Tryz.ntmps152
   go_wp2
   go_ret2;exact ⟨rfl,rfl⟩
  | false=>
   go_enter Tryz.func152,Tryz.ntmps152
   go_wp2
   go_ret2;exact ⟨rfl,rfl⟩
end
section
open RowKit
theorem kV (l:Int) (d:Bool):(bt l d=11/\dM l d=true)\/(bt l d=0/\dM l d=false):=by
 unfold bt dM
 by_cases h:d=true\/l=0
 ·exact .inl ⟨if_pos h,Qc h⟩
 ·exact .inr ⟨if_neg h,Q7 h⟩
theorem o8:ak ((11:Nat):Int)=.iface 121 (.int .i64 11):=rfl
theorem o9:ak ((0:Nat):Int)=.nilIface:=rfl
theorem Dy (B:Nat) (n k:Sd) (v:Value) (l:Int) (d:Bool) (w:World) (h:aA w B n k v l d) (hl:-9223372036854775808<=l/\l<=9223372036854775807):Calls Tryz.prog 100 #[.pointer (some ⟨B,0,none⟩)] w λe w'=>e=.returned (ak ((bt l d:Nat):Int))/\aA w' B n (if bt l d=0 then n else k) (if bt l d=0 then .slice none 0 0 else v) (aO l d) (dM l d)/\cG B w w':=by
 have HS:=qI (kU B n k v l d w h hl);clear h
 rcases kV l d with ⟨e1,e2⟩|⟨e1,e2⟩
 ·rw [e1,e2,if_neg (by decide),if_neg (by decide),o8];rw [e1,e2,o8] at HS
  go_enter Tryz.func100,Tryz.ntmps100
  go_wp2_with fail
  refine HS.out.mono ?_;rintro e w1 ⟨rfl,h1,ho1⟩;have H1:=qI h1;have HO:=qI ho1;clear h1 ho1 HS
  go_wp2
  go_ret;exact ⟨rfl,H1.out,HO.out⟩
 ·rw [e1,e2,if_pos rfl,if_pos rfl,o9];rw [e1,e2,o9] at HS
  go_enter Tryz.func100,Tryz.ntmps100
  go_wp2_with fail
  refine HS.out.mono ?_;rintro e w1 ⟨rfl,h1,ho1⟩;have H2:=qI ((h1.setKept n).set8 (.slice none 0 0));have HO:=qI (((ho1.putS 4 n)).set 8 (.slice none 0 0));obtain ⟨n0,n1,n2,n3⟩:=h1.now;obtain ⟨k0,k1,k2,k3⟩:=h1.kept;obtain ⟨k8,_,_⟩:=h1.rest;have f4:=h1.frozen 4;have f5:=h1.frozen 5;have f6:=h1.frozen 6;have f7:=h1.frozen 7;have f8:=h1.frozen 8;clear h1 ho1 HS
  go_wp2
  go_ret;exact ⟨rfl,H2.out,HO.out⟩
end
section
open RowKit Shelf
end
section
open RowKit
open Qos (Nd Ct Pd nd ct pd)
open Ost (good val df kr)
open S1 (Mx)
end
section
open RowKit
open Qos (Nd Ct Pd nd ct pd)
open Sv (Gv Hd gv hd eR gk gK kP dK cY fl OkN OkC OkG)
open S1 (Tab strs jg iI jM ig kv)
theorem gq {w:World} {a:Addr} {v:Value} (h:w.cell? a=some v) (o:Obj):(w.alloc o).cell? a=some v:=
 (((Q0 w.heap.size w).alloc (lR) o).cell (Q3 w _ h)).trans h
theorem kW {B:Nat} {a w:World} (h:Below B a w):Below B a w.drew:=⟨h.os,h.tape,h.output,h.size,h.block⟩
def bE (w:World):Prop:=Tab w/\0<w.heap.size
theorem bE.below {w w':World} (h:bE w) (hb:Below w.heap.size w w'):bE w':=⟨h.1.below hb h.2,Q1 h.2 hb.size⟩
theorem jZ (x:Int) (w:World) (h0:0<=x) (h1:x<=1125899906842624) (ht:bE w):Calls Tryz.prog 173 #[.int .i64 x] w λe w'=>e=.returned (.string ⟨(Sv.dec x).toArray⟩)/\Below w.heap.size w w':=kv x w h0 (by omega) ht.1
abbrev tD:=λ(w:World) (kd:ByteArray) (m:Int) (w':World)=>w'.cell? ⟨w.heap.size,0,none⟩=some (.string kd)/\w'.cell? ⟨w.heap.size,1,none⟩=some (.int .i64 m)
theorem Dz (d:Nd) (w:World) (h:OkN d) (ht:bE w):Calls Tryz.prog 223 #[.agg #[.string d.kind,.int .i64 d.many]] w λe w'=>e=.returned (.string ⟨(eR d).toArray⟩)/\Below w.heap.size w w':=by
 have h1:=(Sv.gN h.1).2;have h2:=Sv.im d.many (by have:=h.2.2;omega);have hk:ByteArray.mk d.kind.data.toList.toArray=d.kind:=by simp
 have ea:=jX d.kind.data.toList [58];have eb:=jX (d.kind.data.toList++[58]) (Sv.dec d.many);have HE:Hid (eR d=d.kind.data.toList++[58]++Sv.dec d.many):=rfl;have hm0:=h.2.1;have hm1:=h.2.2;have hks:d.kind.size<=8:=Q5 (Nat.le_of_eq (by simp)) h1;rw [hk] at ea;clear hk;have HT:=qI ht;have HB0:=qI (kW ((Q0 w.heap.size w).alloc (lR) (.cells #[.string d.kind,.int .i64 d.many] 109)));generalize eR d=S at *;generalize d.many=m at *;generalize d.kind=kd at *;have q1:¬ 9223372036854775807<kd.size+1:=by omega
 have q2:¬ 9223372036854775807<kd.size+1+(Sv.dec m).length:=by omega
 clear h ht
 go_enter Tryz.func223,Tryz.ntmps223
 go_wp2_with fail
 have HS0:=qI (show w.heap.size<(w.alloc (.cells #[.string kd,.int .i64 m] 109)).drew.heap.size/\(w.alloc (.cells #[.string kd,.int .i64 m] 109)).drew.cell? ⟨w.heap.size,0,none⟩=some (.string kd)/\(w.alloc (.cells #[.string kd,.int .i64 m] 109)).drew.cell? ⟨w.heap.size,1,none⟩=some (.int .i64 m) from ⟨by simp,by simp,by simp⟩);refine wp_region_held_drew (S:=tD w kd m) (by kernel_rfl) HS0.out.2 (λhHeld=>?_);refine tk 0 ?_;refine tk 1 ?_;refine tk 2 ?_;refine tk 3 ?_;refine tk 4 ?_;refine rd 5 (λK hK=>?_);go_simp
 go_wp2_with fail
 refine (jZ m _ (by omega) (by omega) (HT.out.below HB0.out)).mono ?_;rintro e V1 ⟨rfl,hb⟩;have HBV1:=qI (HB0.out.trans (hb.mono HB0.out.size));have HSV1:=qI (show w.heap.size<V1.heap.size/\(tD w kd m) V1 from ⟨Q1 HS0.out.1 hb.size,(hb.cell (p:=⟨w.heap.size,0,none⟩) HS0.out.1).trans HS0.out.2.1,(hb.cell (p:=⟨w.heap.size,1,none⟩) HS0.out.1).trans HS0.out.2.2⟩);clear hb
 go_wp2
 refine hK.out _ _ HSV1.out.2 (λhHeld=>?_);clear hK K;refine tk 6 ?_;refine tk 7 ?_;refine Qn (by kernel_rfl) ?_ _
 go_wp2
 go_ret;exact ⟨by rw [HE.out,List.append_assoc];rfl,HBV1.out⟩
def fp (xs:List Nd) (k:Nat):List (List UInt8):=(xs.take k).map eR
theorem DA {xs:List Nd} {k:Nat} (h:k<xs.length):fp xs (k+1)=fp xs k++[eR (nd xs k)]:=by
 unfold fp;rw [Qa h,Qj];simp [nd,h]
theorem pe {xs:List Nd} {k:Nat} (h:k<=xs.length):(fp xs k).length=k:=by
 unfold fp;simp;omega
theorem tE (xs:List Nd):fp xs xs.length=xs.map eR:=by unfold fp;rw [Qh]
theorem DB (v:Value) (xs:List Nd) (w:World) (h:bc w v xs) (hx:∀ x∈xs,OkN x) (hl:xs.length<=3) (ht:bE w) :
  Calls Tryz.prog 222 #[v,.func (.func 223) #[] #[]] w λe w'=>e=.returned (.string ⟨(gk xs).toArray⟩)/\Below w.heap.size w w':=by
 obtain ⟨i0,hi,hz0,hz1,hz2⟩:=info_parts ig;obtain ⟨ao,c,rfl,hm,hr⟩:=h;have HR:=qI hr;have HT:=qI ht;have HX:=qI hx;clear hr ht hx;unfold maxLen at hm;have HJ:Hid (∀ (v:Value) (w1:World),w1.ownsRow w.heap.size 9 1 v (fp xs xs.length).length (strs (fp xs xs.length))->Calls Tryz.prog 220 #[v,.string ⟨#[44]⟩] w1 λe w'=>e=.returned (.string ⟨(Lib.join (fp xs xs.length) [44]).toArray⟩)/\Below w1.heap.size w1 w'):=by
  intro v w1 h;refine o5 44 v _ w1 _ h (by rw [pe (lR)];omega) ?_;refine Q5 (Sv.jt 44 29 _ λx hx=>?_) (by rw [pe (lR)];omega);rw [tE] at hx;obtain ⟨d,hd,rfl⟩:=Qk.1 hx;exact Sv.th (HX.out d hd)
 have HD:Hid (Sv.dU (Lib.join (fp xs xs.length) [44])=gk xs):=by unfold Hid gk;rw [tE]
 go_enter Tryz.func222,Tryz.ntmps222
 go_wp2
 go_loopw [5,10] (λr i wr=>∃ k:Nat,k<=xs.length/\i=.int .i64 k/\wr.ownsRow w.heap.size 9 1 r (fp xs k).length (strs (fp xs k))/\Below w.heap.size w wr) (λ_ i _=>xs.length - (intOf i).toNat)
 case atStart=>exact ⟨0,by omega,rfl,Qw _ _ _ _,Q0 _ _⟩
 case round=>
  obtain ⟨k,hk,rfl,hrow,hB⟩:=hrel
  by_cases hlt:k<xs.length
  ·obtain ⟨b,o,rfl,hb,hc⟩:=HR.out (by omega);obtain ⟨d0,d1⟩:=hc k hlt;have c0:=(hB.cell (p:=⟨b,o+k*2,none⟩) hb).trans d0;have c1:=(hB.cell (p:=⟨b,o+k*2+1,none⟩) hb).trans d1;have HS:=qI (DA hlt);have hle:=pe hk;have hxk:=HX.out (nd xs k) (by simp [nd,hlt]);have hsz:=hB.size;have HBa:=qI (hB.alloc hB.size (.cells #[.string (nd xs k).kind,.int .i64 (nd xs k).many] 109));have HI:=qI (Dz (nd xs k) _ hxk (HT.out.below HBa.out));have hrowa:=hrow.alloc (.cells #[.string (nd xs k).kind,.int .i64 (nd xs k).many] 109);clear hc d0 d1 hxk;generalize eR (nd xs k)=T at *;generalize (nd xs k).kind=kd at *;generalize (nd xs k).many=m at *
   go_wp2_with fail
   refine HI.out.mono ?_;rintro e w1 ⟨rfl,hb1⟩;have HB1:=qI (HBa.out.trans (hb1.mono HBa.out.size));have hrow1:=oZ hrowa hb1;have hsz1:=HB1.out.size;clear hb1
   go_wp2_with (at_builtin;refine wpList_append_own _ rfl _ _ 78 rfl w.heap.size 9 i0 (.string ⟨#[]⟩) 1 16 Tryz.underlying78 hi hz0 hz1 hz2 rfl (by decide) _ _ _ rfl (hrow1.alloc _) ⟨_,0,none⟩ 1 1 [.string ⟨T.toArray⟩] rfl rfl (cell_one_new _ _ _) (iI [T]) (by unfold maxLen;omega) (by omega) (by simp;omega) ?_;intro v' w2 hown' hgrow' _)
   go_roundw
   case rel=>
    refine ⟨k+1,by omega,by go_num,?_,?_⟩
    ·rw [HS.out,jg,Q2];exact hown'
    ·exact (HB1.out.alloc HB1.out.size _).grown hgrow' (by simp;omega) (λj hj=>(hrow1.lt j hj).1)
   case measure=>simp [intOf];omega
  ·have hke:k=xs.length:=by omega
   subst hke
   go_wp2_with fail
   refine (HJ.out _ _ hrow).mono ?_;rintro e w1 ⟨rfl,hb1⟩;have hB1:=hB.trans (hb1.mono hB.size)
   go_wp2_with fail
   refine (oX _ _).mono ?_;rintro e w2 ⟨rfl,rfl⟩
   go_wp2
   go_ret;exact ⟨by rw [<- HD.out];rfl,hB1⟩
def eT (base:Nat) (w:World) (v:Value) (ws:List (List UInt8)):Prop:=w.ownsRow base 9 1 v ws.length (strs ws)
theorem pf (ws:List (List UInt8)) (w:World) (base:Nat) (hb:base<=w.heap.size) (hl:ws.length<=1000):eT base (w.alloc (.cells (strs ws).toArray 9)) (.slice (some ⟨w.heap.size,0,none⟩) ws.length ws.length) ws:=by
 have h:=World.ownsRow_made (base:=base) (e:=9) (size:=1) w (strs ws).toArray ws.length hb (by unfold maxLen;omega) (by simp [strs]);refine ⟨by simp [strs],.inr ⟨w.heap.size,ws.length,_,rfl,hb,heap_alloc_new w _,lR,by unfold maxLen;omega,by simp [strs],?_⟩⟩;rw [Nat.mul_one,List.take_of_length_le (by simp [strs])]
abbrev mB:=λ(w:World) (cp:Int) (da:Option Addr) (dn dc:Nat) (w':World)=>w'.cell? ⟨w.heap.size,0,none⟩=some (.int .u64 cp)/\w'.cell? ⟨w.heap.size,1,none⟩=some (.slice da dn dc)
theorem DC (g:Gv) (dv:Value) (w:World) (hd:bj w dv g.dv) (hg:OkG g) (ht:bE w) :
  Calls Tryz.prog 136 #[.agg #[.int .u64 g.cp,dv]] w λe w'=>∃ v,e=.returned v/\eT w.heap.size w' v (cY g)/\Below w.heap.size w w':=by
 have HT:=qI ht;have HB0:=qI (kW ((Q0 w.heap.size w).alloc (lR) (.cells #[.int .u64 g.cp,dv] 69)));have HD:=qI (λW (hb:Below w.heap.size w W)=>De dv g.dv W (hd.below hb) hg.2.2 hg.2.1 (HT.out.below hb).1 (HT.out.below hb).2);have HX:=qI (λW=>S1.nO g.cp W hg.1);have HE:Hid (cY g=[Sv.dU (Ost.txt g.cp),gK g.dv]):=rfl;obtain ⟨da,dc,rfl⟩:=hd.slice;clear hd hg ht;generalize gK g.dv=D at *;generalize g.dv.length=dn at *;generalize Ost.txt g.cp=X at *;generalize cY g=GW at *;generalize g.cp=cp at *
 go_enter Tryz.func136,Tryz.ntmps136
 go_wp2_with fail
 have HS0:=qI (show w.heap.size<(w.alloc (.cells #[.int .u64 cp,.slice da dn dc] 69)).drew.heap.size/\(w.alloc (.cells #[.int .u64 cp,.slice da dn dc] 69)).drew.cell? ⟨w.heap.size,0,none⟩=some (.int .u64 cp)/\(w.alloc (.cells #[.int .u64 cp,.slice da dn dc] 69)).drew.cell? ⟨w.heap.size,1,none⟩=some (.slice da dn dc) from ⟨by simp,by simp,by simp⟩);refine wp_region_held_drew (S:=mB w cp da dn dc) (by kernel_rfl) HS0.out.2 (λhHeld=>?_);refine tk 0 ?_;refine tk 1 ?_;refine tk 4 ?_;refine tk 5 ?_;refine rd 2 (λK hK=>?_);go_simp
 go_wp2_with fail
 refine (HX.out _).mono ?_;rintro e V1 ⟨rfl,hb⟩;have HBV1:=qI (HB0.out.trans (hb.mono HB0.out.size));have HSV1:=qI (show w.heap.size<V1.heap.size/\(mB w cp da dn dc) V1 from ⟨Q1 HS0.out.1 hb.size,(hb.cell (p:=⟨w.heap.size,0,none⟩) HS0.out.1).trans HS0.out.2.1,(hb.cell (p:=⟨w.heap.size,1,none⟩) HS0.out.1).trans HS0.out.2.2⟩);clear hb
 go_wp2
 refine hK.out _ _ HSV1.out.2 (λhHeld=>?_);clear hK K;refine rd 3 (λK hK=>?_);go_simp
 go_wp2_with fail
 refine (oX _ _).mono ?_;rintro e V2 ⟨rfl,hVe⟩;subst hVe;have HBV2:=HBV1;have HSV2:=HSV1
 go_wp2
 refine hK.out _ _ HSV2.out.2 (λhHeld=>?_);clear hK K;refine rd 6 (λK hK=>?_);go_simp
 go_wp2_with fail
 refine (HD.out _ HBV2.out).mono ?_;rintro e V3 ⟨rfl,hb⟩;have HBV3:=qI (HBV2.out.trans (hb.mono HBV2.out.size));have HSV3:=qI (show w.heap.size<V3.heap.size/\(mB w cp da dn dc) V3 from ⟨Q1 HSV2.out.1 hb.size,(hb.cell (p:=⟨w.heap.size,0,none⟩) HSV2.out.1).trans HSV2.out.2.1,(hb.cell (p:=⟨w.heap.size,1,none⟩) HSV2.out.1).trans HSV2.out.2.2⟩);clear hb
 go_wp2
 refine hK.out _ _ HSV3.out.2 (λhHeld=>?_);clear hK K;refine rd 7 (λK hK=>?_);go_simp
 go_wp2_with fail
 have HBV4:=qI (HBV3.out.alloc HBV3.out.size (.cells #[.string ⟨(Sv.dU X).toArray⟩,.string ⟨D.toArray⟩] 9));have HSV4:=qI (show w.heap.size<(V3.alloc (.cells #[.string ⟨(Sv.dU X).toArray⟩,.string ⟨D.toArray⟩] 9)).heap.size/\(mB w cp da dn dc) (V3.alloc (.cells #[.string ⟨(Sv.dU X).toArray⟩,.string ⟨D.toArray⟩] 9)) from ⟨Q1 HSV3.out.1 (by simp),gq HSV3.out.2.1 (.cells #[.string ⟨(Sv.dU X).toArray⟩,.string ⟨D.toArray⟩] 9),gq HSV3.out.2.2 (.cells #[.string ⟨(Sv.dU X).toArray⟩,.string ⟨D.toArray⟩] 9)⟩);refine hK.out _ _ HSV4.out.2 (λhHeld=>?_);clear hK K;refine tk 8 ?_;refine Qn (by kernel_rfl) ?_ _
 go_wp2
 go_ret;refine ⟨_,rfl,?_,HBV4.out⟩;rw [HE.out];exact pf [Sv.dU X,D] V3 w.heap.size HBV3.out.size (by simp)
end
section
open RowKit Shelf
open Qos (Nd Ct Pd nd ct pd)
end
section
open Go.ChangeShapes Go.WideShapes Go.ChangeAt Go.RowKit
open S1 (Tab Mx jL)
theorem DD:ownKnob Tryz.prog.godebug=none:=by kernel_rfl
theorem tF:laidOutB Tryz.prog=true:=by kernel_rfl
theorem DE:(Tryz.prog.globals[0]?).map (·.type)=some 383:=by kernel_rfl
theorem DF:Tryz.prog.cellsOf 383=20:=by kernel_rfl
theorem DG:Tryz.prog.cellsOf 23=1:=by kernel_rfl
theorem DH:(Rows.laid_internal_strconv_uint64pow10:DataW Unit)=Lib.tabData .u64 Lib.pow10Tab:=by kernel_rfl
def DI:Array Value:=#[.int .u8 0,.int .u8 1,.int .u8 28,.int .u8 2,.int .u8 29,.int .u8 14,.int .u8 24,.int .u8 3,.int .u8 30,.int .u8 22,.int .u8 20,.int .u8 15,.int .u8 25,.int .u8 17,.int .u8 4,.int .u8 8,.int .u8 31,.int .u8 27,.int .u8 13,.int .u8 23,.int .u8 21,.int .u8 19,.int .u8 16,.int .u8 7,.int .u8 26,.int .u8 12,.int .u8 18,.int .u8 6,.int .u8 11,.int .u8 5,.int .u8 10,.int .u8 9]
def DJ:Array Value:=#[.int .u8 0,.int .u8 1,.int .u8 56,.int .u8 2,.int .u8 57,.int .u8 49,.int .u8 28,.int .u8 3,.int .u8 61,.int .u8 58,.int .u8 42,.int .u8 50,.int .u8 38,.int .u8 29,.int .u8 17,.int .u8 4,.int .u8 62,.int .u8 47,.int .u8 59,.int .u8 36,.int .u8 45,.int .u8 43,.int .u8 51,.int .u8 22,.int .u8 53,.int .u8 39,.int .u8 33,.int .u8 30,.int .u8 24,.int .u8 18,.int .u8 12,.int .u8 5,.int .u8 63,.int .u8 55,.int .u8 48,.int .u8 27,.int .u8 60,.int .u8 41,.int .u8 37,.int .u8 16,.int .u8 46,.int .u8 35,.int .u8 44,.int .u8 21,.int .u8 52,.int .u8 32,.int .u8 23,.int .u8 11,.int .u8 54,.int .u8 26,.int .u8 40,.int .u8 15,.int .u8 34,.int .u8 20,.int .u8 31,.int .u8 10,.int .u8 25,.int .u8 14,.int .u8 19,.int .u8 9,.int .u8 13,.int .u8 8,.int .u8 7,.int .u8 6]
def DK:Array Value:=#[.int .u8 128,.int .u8 191,.int .u8 160,.int .u8 191,.int .u8 128,.int .u8 159,.int .u8 144,.int .u8 191,.int .u8 128,.int .u8 143,.int .u8 0,.int .u8 0,.int .u8 0,.int .u8 0,.int .u8 0,.int .u8 0,.int .u8 0,.int .u8 0,.int .u8 0,.int .u8 0,.int .u8 0,.int .u8 0,.int .u8 0,.int .u8 0,.int .u8 0,.int .u8 0,.int .u8 0,.int .u8 0,.int .u8 0,.int .u8 0,.int .u8 0,.int .u8 0]
theorem mxV {W:World} (hsh:W.ShapedOpen Tryz.prog):Mx W:=Tryz.laysM219.s1_3 W hsh
theorem DL {W : World} {rest : List (String × DataW Unit)} (h : laidMet Tryz.prog (("math/bits.deBruijn32tab", Rows.laid_math_bits_deBruijn32tab) :: ("math/bits.deBruijn64tab", Rows.laid_math_bits_deBruijn64tab) :: ("internal/strconv.uint64pow10", Rows.laid_internal_strconv_uint64pow10) :: rest) W) : bE W := by
 have h2:=laidMet.tail (laidMet.tail h);rw [DH] at h2;have ht:Tab W:=Lib.tabIs_of_head jL DE Tryz.underlying383 Tryz.underlying23 DG DF h2;exact ⟨ht,Q3 W ⟨0,0,none⟩ (ht.cell jL 0 (by decide))⟩
noncomputable def ph (os:Os):World:=
 { World.holding Tryz.prog os ⟨#[],#[],[]⟩ with heap:=((((((World.holding Tryz.prog os ⟨#[],#[],[]⟩).heap.modify 0 fun
   | .cells _ t frozen=>.cells (Lib.pow10Tab.map (Value.int .u64)).toArray t frozen
   | o=>o).modify 2 fun
   | .cells _ t frozen=>.cells DI t frozen
   | o=>o).modify 3 fun
   | .cells _ t frozen=>.cells DJ t frozen
   | o=>o).modify 5 fun
   | .cells _ t frozen=>.cells DK t frozen
   | o=>o).modify 4 fun
   | .cells _ t frozen=>.cells (Go.Pinned.utf8FirstZ.map λ(n:Nat)=>Value.int .u8 (n:Int)).toArray t frozen
   | o=>o) }
end
section
open RowKit Shelf
open Ost (dD)
attribute [local go_sem] Oper.semAt_some
theorem Apart.below {K:Nat->Prop} {A B:World} (h:Apart K A B) {w:World} {N:Nat} (hb:Below N w A) (hN:N<=w.heap.size) (hK:∀ j,K j->N<=j):Below N w B:=
 ⟨h.os.trans hb.os,h.tape.trans hb.tape,h.output.trans hb.output,Q5 hb.size h.size,λj hj=>(h.block j (Q1 (Q1 hj hN) hb.size) (λe=>by have:=hK j e;omega)).trans (hb.block j hj)⟩
theorem tG:(Tryz.prog.info? 3).map (λi=>(i.zero,i.size,i.bytes))=some (some (.int .i64 0),1,8):=by kernel_rfl
theorem gO {w:World} {base:Nat} {e:TypeId} {size:Nat} {v:Value} {n:Nat} {xs:List Value} (h:w.ownsRow base e size v n xs):∃ ao c,v=.slice ao n c:=by
 rcases h.2 with ⟨rfl,h0⟩|⟨g,cap,cur,rfl,_⟩
 ·exact ⟨none,0,by rw [h0]⟩
 ·exact ⟨_,_,rfl⟩
end
section
open RowKit Shelf
open Qos (Nd Ct Pd nd ct pd)
open Sv (Gv Hd gv hd)
attribute [local go_sem] Oper.semAt_some
theorem bl.parts {w:World} {v:Value} {gs:List Gv} (h:bl w v gs):∃ ao c,v=.slice ao gs.length c/\(gs.length<=c/\c<=maxLen)/\∀ k,k<gs.length->∃ b o dv,ao=some ⟨b,o,none⟩/\b<w.heap.size/\w.cell? ⟨b,o+k*2,none⟩=some (.int .u64 (gv gs k).cp)/\w.cell? ⟨b,o+k*2+1,none⟩=some dv/\bj w dv (gv gs k).dv:=by
 obtain ⟨ao,c,rfl,hm,hr⟩:=h;refine ⟨ao,c,rfl,hm,λk hk=>?_⟩;obtain ⟨b,o,dv,ha,hlt,hc⟩:=hr (by omega);exact ⟨b,o,dv k,ha,hlt,(hc k hk).1.1,(hc k hk).1.2.1,(hc k hk).2⟩
end
section
open RowKit Shelf
open Ost (dD df)
open Qos (Nd nd)
open S1 (Mx)
attribute [local go_sem] Oper.semAt_some
theorem DM:(Tryz.prog.info? 109).map (λi=>(i.zero,i.size,i.bytes))=some (some (.agg #[.string ByteArray.empty,.int .i64 0]),2,24):=by kernel_rfl
end
section
open RowKit Shelf
open Ost (dD df)
open Qos (Nd Ct Pd nd)
open Sv (Gv wd)
open S1 (Mx)
def LC (w:World) (b:Nat) (ws:List (List UInt8)):Prop:=b<w.heap.size/\∀ k,k<ws.length->w.cell? ⟨b,k,none⟩=some (.string ⟨(wd ws k).toArray⟩)
def FrV (G:(Nat->Value)->Act) (P:(Nat->Value)->World->Prop) (a:Act) (w:World):Prop:=∃ F,a=G F/\P F w
theorem aj {W:World} {g:Nat} {cs:Array Value} {t:TypeId} (h:W.heap[g]?=some (.cells cs t (0,0))) (i:Nat) (v:Value):(W.setCell ⟨g,i,none⟩ v).heap[g]?=some (.cells (cs.setIfInBounds i v) t (0,0)):=by
 obtain ⟨hlt,hk⟩:=gS h
 show (W.heap.modify g _)[g]?=_
 rw [Array.getElem?_eq_getElem (by rw [Array.size_modify];exact hlt),Array.getElem_modify_self,hk];rfl
def LD (R:Act->World->Prop):Exit->Act->World->Prop
 | .normal,a,w=>R a w
 | _,_,_=>False
end
section
open RowKit Shelf
open Qos (Nd Ct Pd nd ct pd)
open Sv (Gv Hd gv hd)
theorem bc.rowsL {w:World} {v:Value} {ds:List Nd} (h:bc w v ds):dr w v 2 jm:=by
 obtain ⟨ao,c,hv,hm,hr⟩:=h;refine ⟨ao,_,c,hv,hm,λh0=>?_⟩;obtain ⟨b,o,ha,hlt,hc⟩:=hr h0;refine ⟨b,o,ha,hlt,λk hk=>⟨[.string (nd ds k).kind,.int .i64 (nd ds k).many],rfl,λj hj=>?_,⟨_,_,rfl⟩⟩⟩
 match j,hj with
 | 0,_=>exact (hc k hk).1
 | 1,_=>exact (hc k hk).2
theorem aE.rowsL {w:World} {v:Value} {cs:List Ct} (h:aE w v cs):dr w v 6 (gI w):=by
 obtain ⟨ao,c,hv,hm,hr⟩:=h;refine ⟨ao,_,c,hv,Q5 hm.1 hm.2,λh0=>?_⟩;obtain ⟨b,o,dv,ha,hc⟩:=hr h0;exact ⟨b,o,ha,hc.1,λk hk=>⟨b9 (ct cs k) (dv k),rfl,(hc.2 k hk).1,⟨_,_,_,_,_,_,rfl,(hc.2 k hk).2.rowsL⟩⟩⟩
theorem DN {p:Pd} {cv:Value} {w:World} (h:aE w cv p.cs):Calls Tryz.prog 29 #[bQ p cv] w λe w'=>Ans e/\Below w.heap.size w w':=AH p.nm p.pr cv w h.rowsL
end
section
open RowKit
open Qos (Nd Ct Pd nd ct pd)
open Sv (Gv Hd gv hd)
def DO (W:World) (Q:Nat->Prop) (v:Value) (ds:List Nd):Prop:=
 ∃ ao c,v=.slice ao ds.length c/\ds.length<=maxLen/\(0<ds.length->∃ b o,ao=some ⟨b,o,none⟩/\Q b/\b<W.heap.size/\∀ k,k<ds.length->W.cell? ⟨b,o+k*2,none⟩=some (.string (nd ds k).kind)/\W.cell? ⟨b,o+k*2+1,none⟩=some (.int .i64 (nd ds k).many))
def DP (W:World) (Q:Nat->Prop) (v:Value) (xs:List Int):Prop:=
 ∃ ao c,v=.slice ao xs.length c/\(xs.length<=c/\c<=maxLen)/\(0<xs.length->∃ b o,ao=some ⟨b,o,none⟩/\Q b/\b<W.heap.size/\∀ k,k<xs.length->W.cell? ⟨b,o+k,none⟩=some (.int .i64 (xs.getD k 0)))
def DQ (p:Ct × Value):List Value:=b9 p.1 p.2
def DR (p:Gv × Value):List Value:=[.int .u64 p.1.cp,p.2]
def DS (l:List (Ct × Value)):List Value:=l.flatMap DQ
def DT (l:List (Gv × Value)):List Value:=l.flatMap DR
structure Hp where
 nm:ByteArray
 pr:Int
 cl:List (Ct × Value)
 gl:List (Gv × Value)
 cv:Value
 gv:Value
def Hp.hd (p:Hp):Hd:=⟨⟨p.nm,p.pr,p.cl.map Prod.fst⟩,p.gl.map Prod.fst⟩
def DU (p:Hp):List Value:=[.string p.nm,.int .i64 p.pr,p.cv,p.gv]
def DV (l:List Hp):List Value:=l.flatMap DU
def mC (base:Nat) (v:Value) (la:Hp) (j:Nat):Prop:=base<=j/\v.ownBlock≠some j/\la.cv.ownBlock≠some j/\la.gv.ownBlock≠some j
structure tH (W:World) (base:Nat) (Q:Nat->Prop) (p:Hp):Prop where
 rc:W.ownsRow base 63 6 p.cv p.cl.length (DS p.cl)
 rg:W.ownsRow base 69 2 p.gv p.gl.length (DT p.gl)
 nc:∀ x∈p.cl,DO W Q x.2 x.1.ds
 ng:∀ x∈p.gl,DP W Q x.2 x.1.dv/\x.1.cp<18446744073709551616
structure DW (W:World) (base:Nat) (v:Value) (el:List Hp) (la:Hp):Prop where
 row:W.ownsRow base 57 4 v (el.length+1) (DV (el++[la]))
 hel:∀ p∈el,tH W base (mC base v la) p/\(∀ j,p.cv.ownBlock=some j->mC base v la j)/\(∀ j,p.gv.ownBlock=some j->mC base v la j)
 hla:tH W base (mC base v la) la
 vc:∀ j,la.cv.ownBlock=some j->v.ownBlock≠some j
 vg:∀ j,la.gv.ownBlock=some j->v.ownBlock≠some j
 cg:∀ j,la.cv.ownBlock=some j->la.gv.ownBlock≠some j
end
section
open RowKit Shelf
open Ost (dD df)
open Qos (Nd Ct Pd nd)
open Sv (Gv wd)
open S1 (Mx)
theorem set_other {V:World} {B j k:Nat} {v:Value} (h:k≠B):(V.setCell ⟨B,j,none⟩ v).heap[k]?=V.heap[k]?:=Below.heap_setCell V ⟨B,j,none⟩ v k h
theorem ad {W:World} {B:Nat} {cs:Array Value} {t:TypeId} (h:W.heap[B]?=some (.cells cs t (0,0))) (j:Nat):W.cell? ⟨B,j,none⟩=cs[j]?:=by simp [World.cell?,h]
end
section
open RowKit
open Qos (Nd Ct Pd nd ct pd)
open Sv (Gv Hd gv hd)
theorem DX:(Tryz.prog.info? 63).map (λi=>(i.zero,i.size,i.bytes))=some (some (.agg #[.string ByteArray.empty,.int .i64 0,.int .i64 0,.int .i64 0,.int .i64 0,.slice none 0 0]),6,72):=by kernel_rfl
theorem DY:(Tryz.prog.info? 69).map (λi=>(i.zero,i.size,i.bytes))=some (some (.agg #[.int .u64 0,.slice none 0 0]),2,32):=by kernel_rfl
end
section
open RowKit Shelf
open Ost (dD)
open Qos (Nd Ct Pd nd ct pd)
open Sv (Gv Hd gv hd wd)
open S1 (Mx)
attribute [local go_sem] Oper.semAt_some
end
