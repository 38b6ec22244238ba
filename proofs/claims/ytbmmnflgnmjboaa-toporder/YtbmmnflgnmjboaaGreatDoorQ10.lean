/- VHMath, VH1, VT0, VRMath, VT1, VC1, VD2, VD3, VE1, VR1, VT2, VEnv, VR2, VR3, VR4, VQ1, VR5, VQ2, VR6, VR7 -/
import Derived.Test.YtbmmnflgnmjboaaGreatDoorQ9
import Derived.Test.YtbmmnflgnmjboaaGreatDoorCards
import Derived.Test.YtbmmnflgnmjboaaGreatDoorTie
import Derived.Lib.ItoaMem
import Derived.Laws.ResultCell
import Derived.ShutString
import Derived.Deep.DeepHandedRow
import Derived.Lib.LaidTab
import Derived.Stop.LaidErr
import Derived.Laws.OwnMore
set_option maxRecDepth 100000
set_option maxHeartbeats 16000000
namespace Go.Proofs.YtbmmnflgnmjboaaGreatDoor
section
namespace Sv
open Qos (Nd Ct Pd nd ct pd podF leS)
open Dvs (first nameMay)
structure Gv where
 cp:Nat
 dv:List Int
def gv0:Gv:=⟨0,[]⟩
instance:Inhabited Gv:=⟨gv0⟩
def gv (l:List Gv) (k:Nat):Gv:=l.getD k gv0
structure Hd where
 pod:Pd
 gs:List Gv
def hd0:Hd:=⟨Qos.pd0,[]⟩
instance:Inhabited Hd:=⟨hd0⟩
def hd (l:List Hd) (k:Nat):Hd:=l.getD k hd0
def dec (n:Int):List UInt8:=Lib.decDigits n.toNat
def orNo (l:List UInt8):List UInt8:=if l=[] then [45] else l
def needTxt (d:Nd):List UInt8:=d.kind.data.toList++[58]++dec d.many
def needsTxt (ds:List Nd):List UInt8:=orNo (Lib.join (ds.map needTxt) [44])
def devsTxt (dv:List Int):List UInt8:=orNo (Lib.join (dv.map dec) [44])
def setTxt (A:Nat):List UInt8:=orNo (Ost.txt A)
def contWs (c:Ct):List (List UInt8):=[[99,111,110,116],c.nm.data.toList,dec c.am,dec c.ab,dec c.cm,dec c.cb,needsTxt c.ds]
def givenWs (g:Gv):List (List UInt8):=[setTxt g.cp,devsTxt g.dv]
def podWs (p:Pd):List (List UInt8):=[[112,111,100],p.nm.data.toList,dec p.pr]
def lineTxt (ws:List (List UInt8)):List UInt8:=Lib.join ws [32]++[10]
def contLine (c:Ct) (g:Gv):List UInt8:=lineTxt (contWs c++givenWs g)
def podLine (p:Pd):List UInt8:=lineTxt (podWs p)
def contsTo (h:Hd):Nat→List UInt8
 | 0=>[]
 | k+1=>contsTo h k++contLine (ct h.pod.cs k) (gv h.gs k)
def podTxt (h:Hd):List UInt8:=podLine h.pod++contsTo h h.pod.cs.length
def bodyTo (hs:List Hd):Nat→List UInt8
 | 0=>[]
 | k+1=>bodyTo hs k++podTxt (hd hs k)
def body (hs:List Hd):List UInt8:=bodyTo hs hs.length
def sumTxt (b:List UInt8):List UInt8:=[115,117,109,32]++Lib.decDigits (fnv b)++[10]
def heldTxt (hs:List Hd):List UInt8:=body hs++sumTxt (body hs)
def devF1 (dv:List Int) (j:Nat):Nat:=if dv.getD j 0<0∨15<dv.getD j 0∨(0<j∧dv.getD j 0≤dv.getD (j - 1) 0) then 3 else 0
def devF (dv:List Int):Nat:=if 16<dv.length then 2 else first (devF1 dv) dv.length
def gsF (gs:List Gv):Nat:=first (fun k=>devF (gv gs k).dv) gs.length
def behindF (h:Hd) (lowB:Bool):Nat:=
 if podF h.pod≠0 then podF h.pod else if lowB=true∨h.gs.length≠h.pod.cs.length then 3 else gsF h.gs
def lowAt (hs:List Hd) (i:Nat):Bool:=decide (0<i) && leS (hd hs i).pod.nm (hd hs (i - 1)).pod.nm
def oneF (hs:List Hd) (i:Nat):Nat:=behindF (hd hs i) (lowAt hs i)
def heldF (hs:List Hd):Nat:=if 12<hs.length then 2 else first (oneF hs) hs.length
def OkG (g:Gv):Prop:=g.cp<18446744073709551616∧g.dv.length≤16∧∀ x∈g.dv,0≤x∧x≤15
def OkN (d:Nd):Prop:=nameMay d.kind=true∧1≤d.many∧d.many≤16
def OkC (c:Ct):Prop:=nameMay c.nm=true∧(0≤c.am∧c.am≤1000000)∧(0≤c.ab∧c.ab≤1125899906842624)∧(0≤c.cm∧c.cm≤1000000)∧(0≤c.cb∧c.cb≤1125899906842624)∧c.ds.length≤3∧∀ d∈c.ds,OkN d
def OkP (p:Pd):Prop:=nameMay p.nm=true∧(0≤p.pr∧p.pr≤1000)∧p.cs.length≤3∧∀ c∈p.cs,OkC c
def OkH (h:Hd):Prop:=OkP h.pod∧h.gs.length=h.pod.cs.length∧∀ g∈h.gs,OkG g
def OkL (hs:List Hd):Prop:=hs.length≤12∧∀ h∈hs,OkH h
theorem nd_in {ds:List Nd} {d:Nd} (h:d∈ds):∃ k,k<ds.length∧nd ds k=d:=by
 obtain ⟨k,hk,rfl⟩:=List.getElem_of_mem h;exact ⟨k,hk,by simp [nd,hk]⟩
theorem ct_in {ds:List Ct} {d:Ct} (h:d∈ds):∃ k,k<ds.length∧ct ds k=d:=by
 obtain ⟨k,hk,rfl⟩:=List.getElem_of_mem h;exact ⟨k,hk,by simp [ct,hk]⟩
theorem gv_in {ds:List Gv} {d:Gv} (h:d∈ds):∃ k,k<ds.length∧gv ds k=d:=by
 obtain ⟨k,hk,rfl⟩:=List.getElem_of_mem h;exact ⟨k,hk,by simp [gv,hk]⟩
theorem hd_in {ds:List Hd} {d:Hd} (h:d∈ds):∃ k,k<ds.length∧hd ds k=d:=by
 obtain ⟨k,hk,rfl⟩:=List.getElem_of_mem h;exact ⟨k,hk,by simp [hd,hk]⟩
theorem int_in {ds:List Int} {d:Int} (h:d∈ds):∃ k,k<ds.length∧ds.getD k 0=d:=by
 obtain ⟨k,hk,rfl⟩:=List.getElem_of_mem h;exact ⟨k,hk,by simp [hk]⟩
theorem mem_ct {ds:List Ct} {k:Nat} (h:k<ds.length):ct ds k∈ds:=by simp [ct,h]
theorem mem_gv {ds:List Gv} {k:Nat} (h:k<ds.length):gv ds k∈ds:=by simp [gv,h]
theorem mem_hd {ds:List Hd} {k:Nat} (h:k<ds.length):hd ds k∈ds:=by simp [hd,h]
theorem okN_of {ds:List Nd} (h:first (Qos.needF ds) ds.length=0):∀ d∈ds,OkN d:=by
 intro d hd;obtain ⟨k,hk,rfl⟩:=nd_in hd
 have:=Dvs.first_all h k hk
 unfold Qos.needF at this
 split at this
 ·cases this
 ·rename_i h1
  split at this
  ·cases this
  ·rename_i h2
   rw [not_or] at h1 h2;exact ⟨by simpa using h1.1,by omega,by omega⟩
theorem okC_of {cs:List Ct} {k:Nat} (h:Qos.contF cs k=0):OkC (ct cs k):=by
 have h1:=Qos.cont_mild h;unfold Qos.contF at h
 split at h
 ·cases h
 rename_i hn
 split at h
 ·cases h
 split at h
 ·cases h
 split at h
 ·cases h
 split at h
 ·cases h
 rename_i h3
 have a:=Qos.amt_in h1.1;have b:=Qos.amt_in h1.2.1;exact ⟨by simpa using hn,a.1,a.2,b.1,b.2,by omega,okN_of h⟩
theorem okP_of {p:Pd} (h:podF p=0):OkP p:=by
 obtain ⟨h1,h2,h3,h4⟩:=Qos.pod_len h;refine ⟨h1,h2,h3.2,fun c hc=>?_⟩;obtain ⟨k,hk,rfl⟩:=ct_in hc;exact okC_of (Dvs.first_all h4 k hk)
theorem okD_of {dv:List Int} (h:devF dv=0):dv.length≤16∧∀ x∈dv,0≤x∧x≤15:=by
 unfold devF at h
 split at h
 ·cases h
 refine ⟨by omega,fun x hx=>?_⟩;obtain ⟨k,hk,rfl⟩:=int_in hx
 have:=Dvs.first_all h k hk
 unfold devF1 at this
 split at this
 ·cases this
 ·omega
theorem okH_of {h:Hd} {b:Bool} (e:behindF h b=0) (hc:∀ g∈h.gs,g.cp<18446744073709551616):OkH h:=by
 unfold behindF at e
 split at e
 ·exact absurd e (by assumption)
 rename_i h1
 split at e
 ·cases e
 rename_i h2
 rw [not_or] at h2;refine ⟨okP_of (by omega),by omega,fun g hg=>?_⟩;obtain ⟨k,hk,rfl⟩:=gv_in hg;exact ⟨hc _ hg,okD_of (Dvs.first_all e k hk)⟩
theorem okL_of {hs:List Hd} (e:heldF hs=0) (hc:∀ h∈hs,∀ g∈h.gs,g.cp<18446744073709551616):OkL hs:=by
 unfold heldF at e
 split at e
 ·cases e
 refine ⟨by omega,fun h hh=>?_⟩;obtain ⟨k,hk,rfl⟩:=hd_in hh;exact okH_of (Dvs.first_all e k hk) (hc _ hh)
theorem name_size {s:ByteArray} (h:nameMay s=true):0<s.data.toList.length∧s.data.toList.length≤8:=by
 have e:s.data.toList.length=s.size:=by simp
 rw [e];simp only [nameMay,Bool.and_eq_true,decide_eq_true_eq] at h;exact ⟨h.1.1,h.1.2⟩
theorem dd_le (n:Nat) (h:n<18446744073709551616):(Lib.decDigits n).length≤20:=by rw [Lib.decDigits_length];exact Lib.nDigits_le20 _ h
theorem dec_le (n:Int) (h:n≤1125899906842624):(dec n).length≤20:=dd_le _ (by omega)
theorem join_le (c:UInt8) (m:Nat):∀ (xs:List (List UInt8)),(∀ x∈xs,x.length≤m)→(Lib.join xs [c]).length≤xs.length*(m+1):=by
 intro xs h;have key:∀ r:List (List UInt8),(∀ x∈r,x.length≤m)→Lib.lens r≤r.length*m:=by
  intro r
  induction r with
  | nil=>intro _;simp [Lib.lens]
  | cons x r ih=>
   intro h;have h1:=ih fun y hy=>h y (by simp [hy])
   have h2:=h x (by simp);simp only [Lib.lens,List.map_cons,List.sum_cons,List.length_cons,Nat.add_mul,Nat.one_mul] at h1 ⊢;omega
 cases xs with
 | nil=>simp [Lib.join_nil]
 | cons x r=>
  rw [Lib.join_length];have h1:=key _ h;simp only [List.length_cons,List.length_nil,Nat.mul_add,Nat.add_mul,Nat.one_mul,Nat.mul_one,Nat.zero_add] at h1 ⊢;omega
theorem orNo_le {l:List UInt8} {m:Nat} (h:l.length≤m):(orNo l).length≤m+1:=by
 unfold orNo;split
 ·simp
 ·omega
theorem needTxt_le {d:Nd} (h:OkN d):(needTxt d).length≤29:=by
 have h1:=name_size h.1;have h2:=dec_le d.many (by have:=h.2.2;omega);simp only [needTxt,List.length_append,List.length_cons,List.length_nil];omega
theorem needsTxt_le {ds:List Nd} (h:∀ d∈ds,OkN d) (hl:ds.length≤3):(needsTxt ds).length≤91:=by
 refine orNo_le (Nat.le_trans (join_le 44 29 _ fun x hx=>?_) ?_)
 ·obtain ⟨d,hd,rfl⟩:=List.mem_map.1 hx;exact needTxt_le (h d hd)
 ·rw [List.length_map];omega
theorem devsTxt_le {dv:List Int} (h:∀ x∈dv,0≤x∧x≤15) (hl:dv.length≤16):(devsTxt dv).length≤337:=by
 refine orNo_le (Nat.le_trans (join_le 44 20 _ fun x hx=>?_) ?_)
 ·obtain ⟨d,hd,rfl⟩:=List.mem_map.1 hx;exact dec_le d (by have:=h d hd;omega)
 ·rw [List.length_map];omega
theorem setTxt_le (A:Nat):(setTxt A).length≤301:=orNo_le (Ost.txt_len A)
theorem contWs_le {c:Ct} (h:OkC c):∀ x∈contWs c,x.length≤100:=by
 obtain ⟨h1,h2,h3,h4,h5,h6,h7⟩:=h;have a:=name_size h1;have b1:=dec_le c.am (by omega);have b2:=dec_le c.ab (by omega);have b3:=dec_le c.cm (by omega);have b4:=dec_le c.cb (by omega);have b5:=needsTxt_le h7 h6;intro x hx;simp only [contWs,List.mem_cons,List.not_mem_nil,or_false] at hx
 rcases hx with rfl|rfl|rfl|rfl|rfl|rfl|rfl <;> first|omega|simp
theorem givenWs_le {g:Gv} (h:OkG g):∀ x∈givenWs g,x.length≤400:=by
 have a:=setTxt_le g.cp;have b:=devsTxt_le h.2.2 h.2.1;intro x hx;simp only [givenWs,List.mem_cons,List.not_mem_nil,or_false] at hx
 rcases hx with rfl|rfl <;> omega
theorem podWs_le {p:Pd} (h:OkP p):∀ x∈podWs p,x.length≤100:=by
 have a:=name_size h.1;have b:=dec_le p.pr (by have:=h.2.1;omega);intro x hx;simp only [podWs,List.mem_cons,List.not_mem_nil,or_false] at hx
 rcases hx with rfl|rfl|rfl <;> first|omega|simp
theorem contLine_le {c:Ct} {g:Gv} (hc:OkC c) (hg:OkG g):(contLine c g).length≤4000:=by
 have:=join_le 32 400 (contWs c++givenWs g) fun x hx=>by
  rcases List.mem_append.1 hx with h|h
  ·have:=contWs_le hc x h;omega
  ·exact givenWs_le hg x h
 simp only [contLine,lineTxt,List.length_append,List.length_cons,List.length_nil] at this ⊢;simp only [contWs,givenWs,List.length_cons,List.length_nil] at this;simp only [contWs,givenWs];omega
theorem podLine_le {p:Pd} (h:OkP p):(podLine p).length≤400:=by
 have:=join_le 32 100 (podWs p) (podWs_le h)
 simp only [podLine,lineTxt,List.length_append,List.length_cons,List.length_nil];simp only [podWs,List.length_cons,List.length_nil] at this ⊢;omega
theorem okC_at {h:Hd} (e:OkH h) {k:Nat} (hk:k<h.pod.cs.length):OkC (ct h.pod.cs k)∧OkG (gv h.gs k):=
 ⟨e.1.2.2.2 _ (mem_ct hk),e.2.2 _ (mem_gv (by rw [e.2.1];exact hk))⟩
theorem contsTo_le {h:Hd} (e:OkH h):∀ k,k≤h.pod.cs.length→(contsTo h k).length≤k*4000:=by
 intro k
 induction k with
 | zero=>intro _;simp [contsTo]
 | succ k ih=>
  intro hk;have h1:=ih (by omega);obtain ⟨h2,h3⟩:=okC_at e (k:=k) (by omega)
  have:=contLine_le h2 h3
  rw [contsTo,List.length_append];omega
theorem podTxt_le {h:Hd} (e:OkH h):(podTxt h).length≤13000:=by
 have h1:=contsTo_le e _ (Nat.le_refl _);have h2:=podLine_le e.1;have h3:=e.1.2.2.1;rw [podTxt,List.length_append];omega
theorem bodyTo_le {hs:List Hd} (e:OkL hs):∀ k,k≤hs.length→(bodyTo hs k).length≤k*13000:=by
 intro k
 induction k with
 | zero=>intro _;simp [bodyTo]
 | succ k ih=>
  intro hk;have h1:=ih (by omega);have h2:=podTxt_le (e.2 _ (mem_hd (k:=k) (by omega)));rw [bodyTo,List.length_append];omega
theorem body_le {hs:List Hd} (e:OkL hs):(body hs).length≤156000:=by
 have:=bodyTo_le e _ (Nat.le_refl _)
 have h2:=e.1;unfold body;omega
theorem sumTxt_le (b:List UInt8):(sumTxt b).length≤25:=by
 have:=dd_le (fnv b) (Nat.lt_of_lt_of_le (fnv_lt b) (by omega))
 simp only [sumTxt,List.length_append,List.length_cons,List.length_nil];omega
end Sv
end
section
open Go.ChangeShapes Go.WideShapes Go.ChangeAt Go.RowKit
open Qos (Nd Ct Pd nd0 ct0 pd0 nd ct pd)
open Sv (Gv Hd gv hd)
def IntsOf (w:World) (v:Value) (xs:List Int):Prop:=
 ∃ ao c,v=.slice ao xs.length c∧(xs.length≤c∧c≤maxLen)∧(0<xs.length→∃ b o,ao=some ⟨b,o,none⟩∧b<w.heap.size∧∀ k,k<xs.length→w.cell? ⟨b,o+k,none⟩=some (.int .i64 (xs.getD k 0)))
def GivsIn (w:World) (b o:Nat) (gs:List Gv) (dv:Nat→Value):Prop:=
 b<w.heap.size∧∀ k,k<gs.length→(w.cell? ⟨b,o+k*2,none⟩=some (.int .u64 (gv gs k).cp)∧w.cell? ⟨b,o+k*2+1,none⟩=some (dv k)∧(gv gs k).cp<18446744073709551616)∧IntsOf w (dv k) (gv gs k).dv
def GivsAt (w:World) (v:Value) (gs:List Gv):Prop:=
 ∃ ao c,v=.slice ao gs.length c∧(gs.length≤c∧c≤maxLen)∧(0<gs.length→∃ b o dv,ao=some ⟨b,o,none⟩∧GivsIn w b o gs dv)
def heldV (h:Hd) (cv gvv:Value):Value:=.agg #[.string h.pod.nm,.int .i64 h.pod.pr,cv,gvv]
def HldsIn (w:World) (b o:Nat) (hs:List Hd) (cv gvv:Nat→Value):Prop:=
 b<w.heap.size∧∀ k,k<hs.length→(w.cell? ⟨b,o+k*4,none⟩=some (.string (hd hs k).pod.nm)∧w.cell? ⟨b,o+k*4+1,none⟩=some (.int .i64 (hd hs k).pod.pr)∧w.cell? ⟨b,o+k*4+2,none⟩=some (cv k)∧w.cell? ⟨b,o+k*4+3,none⟩=some (gvv k))∧ConsAt w (cv k) (hd hs k).pod.cs∧GivsAt w (gvv k) (hd hs k).gs
def HldsAt (w:World) (v:Value) (hs:List Hd):Prop:=
 ∃ ao c,v=.slice ao hs.length c∧(hs.length≤c∧c≤maxLen)∧(0<hs.length→∃ b o cv gvv,ao=some ⟨b,o,none⟩∧HldsIn w b o hs cv gvv)
theorem IntsOf.below {w w':World} {v:Value} {xs:List Int} (h:IntsOf w v xs) (hb:Below w.heap.size w w'):IntsOf w' v xs:=by
 obtain ⟨ao,c,hv,hm,hr⟩:=h;refine ⟨ao,c,hv,hm,fun h0=>?_⟩;obtain ⟨b,o,ha,hlt,hc⟩:=hr h0;exact ⟨b,o,ha,Nat.lt_of_lt_of_le hlt hb.size,fun k hk=>(hb.cell (p:=⟨b,o+k,none⟩) hlt).trans (hc k hk)⟩
theorem GivsIn.below {w w':World} {b o:Nat} {gs:List Gv} {dv:Nat→Value} (h:GivsIn w b o gs dv) (hb:Below w.heap.size w w'):GivsIn w' b o gs dv:=
 ⟨Nat.lt_of_lt_of_le h.1 hb.size,fun k hk=>by
  obtain ⟨⟨h1,h2,h3⟩,h4⟩:=h.2 k hk;exact ⟨⟨(hb.cell (p:=⟨b,o+k*2,none⟩) h.1).trans h1,(hb.cell (p:=⟨b,o+k*2+1,none⟩) h.1).trans h2,h3⟩,h4.below hb⟩⟩
theorem GivsAt.below {w w':World} {v:Value} {gs:List Gv} (h:GivsAt w v gs) (hb:Below w.heap.size w w'):GivsAt w' v gs:=by
 obtain ⟨ao,c,hv,hm,hr⟩:=h;refine ⟨ao,c,hv,hm,fun h0=>?_⟩;obtain ⟨b,o,dv,ha,hc⟩:=hr h0;exact ⟨b,o,dv,ha,hc.below hb⟩
theorem HldsIn.below {w w':World} {b o:Nat} {hs:List Hd} {cv gvv:Nat→Value} (h:HldsIn w b o hs cv gvv) (hb:Below w.heap.size w w'):HldsIn w' b o hs cv gvv:=
 ⟨Nat.lt_of_lt_of_le h.1 hb.size,fun k hk=>by
  obtain ⟨⟨h1,h2,h3,h4⟩,h5,h6⟩:=h.2 k hk;exact ⟨⟨(hb.cell (p:=⟨b,o+k*4,none⟩) h.1).trans h1,(hb.cell (p:=⟨b,o+k*4+1,none⟩) h.1).trans h2,(hb.cell (p:=⟨b,o+k*4+2,none⟩) h.1).trans h3,(hb.cell (p:=⟨b,o+k*4+3,none⟩) h.1).trans h4⟩,h5.below hb,h6.below hb⟩⟩
theorem HldsAt.below {w w':World} {v:Value} {hs:List Hd} (h:HldsAt w v hs) (hb:Below w.heap.size w w'):HldsAt w' v hs:=by
 obtain ⟨ao,c,hv,hm,hr⟩:=h;refine ⟨ao,c,hv,hm,fun h0=>?_⟩;obtain ⟨b,o,cv,gvv,ha,hc⟩:=hr h0;exact ⟨b,o,cv,gvv,ha,hc.below hb⟩
theorem HldsAt.cps {w:World} {v:Value} {hs:List Hd} (h:HldsAt w v hs):∀ x∈hs,∀ g∈x.gs,g.cp<18446744073709551616:=by
 intro x hx g hg;obtain ⟨k,hk,rfl⟩:=Sv.hd_in hx;obtain ⟨ao,c,_,_,hr⟩:=h;obtain ⟨b,o,cv,gvv,_,hc⟩:=hr (by omega);obtain ⟨_,_,h6⟩:=hc.2 k hk;obtain ⟨j,hj,rfl⟩:=Sv.gv_in hg;obtain ⟨ao,c,_,_,hr⟩:=h6;obtain ⟨b,o,dv,_,hc⟩:=hr (by omega);exact (hc.2 j hj).1.2.2
section
variable {H:Type} {enc:TypeId × Value→H} {W:World}
end
end
section
open Go.RowKit Go.Sort
open S1 (Tab below_grow)
theorem holds_zero0 (w:World) (T:TypeId) (n:Nat) (hs:n≤24):Holds (fun (b:UInt8)=>Value.int .u8 (b.toNat:Int)) (w.alloc (.cells Lib.zeros24 T)) w.heap.size 0 (Array.replicate n (0:UInt8)):=fun j hj=>by
 have hj':j<n:=by simpa using hj
 refine ⟨?_,World.frozen?_alloc_new _ _ _ _⟩;rw [World.cell?_alloc_new,Lib.zeros24_at _ (by omega),getElem!_pos _ j hj]
 simp
theorem fin_pos0 (w:World) (o:Obj) (dk:Array UInt8) (k:Nat):∃ os,(putRow (fun (b:UInt8)=>Value.int .u8 (b.toNat:Int)) (w.alloc o) w.heap.size 0 dk).drewN k=grow (w.drewN k) os:=by
 rw [alloc_eq_grow];obtain ⟨os',_,e⟩:=putRow_grow_new (fun (b:UInt8)=>Value.int .u8 (b.toNat:Int)) w #[o] w.heap.size 0 dk (Nat.le_refl _);exact ⟨os',by rw [e];rfl⟩
theorem intFormatUint (u:Nat) (w:World) (hu64:u<18446744073709551616) (htab:Tab w) :
  Calls Tryz.prog 225 #[.int .u64 u,.int .i64 10] w fun e w'=>e=.returned (.string ⟨(Lib.decDigits u).toArray⟩)∧Below w.heap.size w w':=by
 by_cases hs:u<100
 ·have hd:decide ((u:Int)<100)=true:=decide_eq_true (by omega)
  go_enter Tryz.func225,Tryz.ntmps225
  go_wp2_with fail
  refine (Tryz.internal_strconv_small u hs _).mono ?_;rintro e w' ⟨rfl,rfl⟩
  go_wp2_with fail
  go_ret;exact ⟨rfl,Below.refl _ _⟩
 ·have hu1:1≤u:=by omega
  have hd:decide ((u:Int)<100)=false:=decide_eq_false (by omega);have hnd20:Lib.nDigits u≤20:=by have:=Lib.numDigits_eq u hu1 hu64;split at this <;> omega
  have hsl1:∀ W,(Instr.sliceAt 358 (.pointer (some ⟨w.heap.size,0,none⟩)) none (some (.int .i64 (Lib.nDigits u:Int))) none).run Tryz.prog W=.ok (.slice (some ⟨w.heap.size,0,none⟩) (Lib.nDigits u) 24) W:=fun W=>by
   have hal:Tryz.prog.arrayLen 358=24:=by kernel_rfl
   rw [run_sliceAt_array_h W 358 ⟨w.heap.size,0,none⟩ (by kernel_rfl) .i64 (Lib.nDigits u:Int) (by omega) (by rw [hal];omega)];go_simp
  have hH0:=holds_zero0 w 358 (Lib.nDigits u) (by omega);have hfmt:=Tryz.internal_strconv_formatBase10 w.heap.size 0 24 u (Array.replicate (Lib.nDigits u) 0) (w.alloc (.cells Lib.zeros24 358)) hH0 (by rw [Array.size_replicate];exact Lib.lt_pow_nDigits u) hu64 (by rw [Array.size_replicate];omega);rw [Array.size_replicate] at hfmt;have HH0:=Lib.hid hH0;have HFM:=qI hfmt;have HTB:=qI (Lib.tabIs_alloc htab (.cells Lib.zeros24 358));clear hH0 hfmt htab
  go_enter Tryz.func225,Tryz.ntmps225
  go_wp2_with fail
  refine (Tryz.internal_strconv_numDigits u hu1 hu64 _ HTB.out).mono ?_;rintro e w' ⟨rfl,rfl⟩
  go_wp2_with fail
  refine HFM.out.mono ?_;rintro e w' ⟨rfl,k,v',dk,rfl,hF⟩;have hcv:(convert 235 9 (.slice (some ⟨w.heap.size,0,none⟩) (Lib.nDigits u) 24)).run Tryz.prog ((putRow (fun (b:UInt8)=>Value.int .u8 (b.toNat:Int)) (w.alloc (.cells Lib.zeros24 358)) w.heap.size 0 dk).drewN k)=.ok (.string ⟨(Lib.decDigits u).toArray⟩) ((putRow (fun (b:UInt8)=>Value.int .u8 (b.toNat:Int)) (w.alloc (.cells Lib.zeros24 358)) w.heap.size 0 dk).drewN k):=by
   have h:=run_convert_bytes_back (P:=Tryz.prog) ((putRow (fun (b:UInt8)=>Value.int .u8 (b.toNat:Int)) (w.alloc (.cells Lib.zeros24 358)) w.heap.size 0 dk).drewN k) 235 9 5 ⟨w.heap.size,0,none⟩ 24 (Lib.decDigits u) Tryz.underlying235 Tryz.underlying5 Tryz.underlying9 (fun j hj=>by
    rw [Lib.row_is_numeral hF j hj,Lib.add_plain,World.cell?_drewN];exact cell?_putRow (fun (b:UInt8)=>Value.int .u8 (b.toNat:Int)) _ w.heap.size 0 _ dk HH0.out (by rw [hF.size,Array.size_replicate]) j (by rw [hF.size];rw [Lib.decDigits_length] at hj;exact hj))
   rw [Lib.decDigits_length] at h;exact h
  go_wp2_with fail
  go_ret;obtain ⟨os,eo⟩:=fin_pos0 w (.cells Lib.zeros24 358) dk k;exact ⟨rfl,by rw [eo];exact below_grow _ w (Nat.le_refl _) k os⟩
theorem formatUint_any (u:Nat) (w:World) (hu64:u<18446744073709551616) (htab:Tab w) :
  Calls Tryz.prog 178 #[.int .u64 u,.int .i64 10] w fun e w'=>e=.returned (.string ⟨(Lib.decDigits u).toArray⟩)∧Below w.heap.size w w':=by
 have HT:=qI htab;clear htab
 go_enter Tryz.func178,Tryz.ntmps178
 go_wp2_with fail
 refine (intFormatUint u w hu64 HT.out).mono ?_;rintro e w1 ⟨rfl,hb⟩
 go_wp2_with fail
 go_ret;exact ⟨rfl,hb⟩
theorem strcat (a b:List UInt8):(ByteArray.mk a.toArray)++(ByteArray.mk b.toArray)=ByteArray.mk (a++b).toArray:=by
 apply ByteArray.ext;simp
theorem sumLine_any (b:List UInt8) (w:World) (hb:b.length≤1000000) (htab:Tab w) :
  Calls Tryz.prog 138 #[.string ⟨b.toArray⟩] w fun e w'=>e=.returned (.string ⟨(Sv.sumTxt b).toArray⟩)∧Below w.heap.size w w':=by
 have HT:=qI htab;clear htab;have HS:=qI (sum_anyV ⟨b.toArray⟩ w (by unfold maxLen;simp [ByteArray.size];omega));have hlt:Sv.fnv b<4294967296:=Sv.fnv_lt b;have hle:=Sv.dd_le (Sv.fnv b) (by omega);have HE:Hid (Sv.sumTxt b=[115,117,109,32]++Lib.decDigits (Sv.fnv b)++[10]):=rfl;have e0:(ByteArray.mk b.toArray).data.toList=b:=by simp
 rw [e0] at HS;generalize Sv.fnv b=H at *;generalize Sv.sumTxt b=S at *;have ea:=strcat [115,117,109,32] (Lib.decDigits H);have eb:=strcat ([115,117,109,32]++Lib.decDigits H) [10]
 go_enter Tryz.func138,Tryz.ntmps138
 go_wp2_with fail
 refine HS.out.mono ?_;rintro e w1 ⟨rfl,rfl⟩
 go_wp2_with fail
 refine (formatUint_any H _ (by omega) HT.out).mono ?_;rintro e w1 ⟨rfl,hb1⟩
 go_wp2_with fail
 go_ret;exact ⟨by rw [HE.out];exact congrArg (fun x=>Ending.returned (Value.string x)) eb,hb1⟩
theorem orNothing_any (l:List UInt8) (w:World):Calls Tryz.prog 175 #[.string ⟨l.toArray⟩] w fun e w'=>e=.returned (.string ⟨(Sv.orNo l).toArray⟩)∧w'=w:=by
 have h0:((ByteArray.mk l.toArray).toList.isEmpty)=l.isEmpty:=by rw [ByteArray.toList_eq]
 by_cases h:l=[]
 ·subst h
  go_enter Tryz.func175,Tryz.ntmps175
  go_wp2_with fail
  go_ret;exact ⟨rfl,rfl⟩
 ·have h1:l.isEmpty=false:=by simpa using h
  rw [h1] at h0;have HE:Hid (Sv.orNo l=l):=by unfold Hid Sv.orNo;rw [if_neg h]
  rw [HE.out]
  go_enter Tryz.func175,Tryz.ntmps175
  go_wp2_with fail
  go_ret;exact ⟨rfl,rfl⟩
end
section
namespace Sv
open Qos (Nd Ct Pd nd ct pd podF leS)
open Ost (cut1 splitC parseOut good val isNum isDig)
open Dvs (nameMay)
abbrev Tx:=List UInt8
def allOf {α:Type} (f:Tx→Option α):List Tx→Option (List α)
 | []=>some []
 | x :: r=>match f x with
  | none=>none
  | some y=>(allOf f r).map (y :: ·)
def listOf {α:Type} (f:Tx→Option α) (l:Tx):Option (List α):=if l=[45] then some [] else allOf f (splitC 44 l)
def cpusOf (l:Tx):Option Nat:=if l=[45] then some 0 else if (parseOut l).2=0 then some (parseOut l).1 else none
def wd (ws:List Tx) (k:Nat):Tx:=ws.getD k []
def contOf (num:Tx→Option Int) (need:Tx→Option Nd) (ws:List Tx):Option (Ct × Gv):=
 match num (wd ws 2),num (wd ws 3),num (wd ws 4),num (wd ws 5),listOf need (wd ws 6),cpusOf (wd ws 7),listOf num (wd ws 8) with
 | some a,some b,some c,some d,some ds,some A,some dv=>some (⟨⟨(wd ws 1).toArray⟩,a,b,c,d,ds⟩,⟨A,dv⟩)
 | _,_,_,_,_,_,_=>none
def isPod (ws:List Tx):Bool:=decide (wd ws 0=[112,111,100]) && decide (ws.length=3)
def isCont (ws:List Tx):Bool:=decide (wd ws 0=[99,111,110,116]) && decide (ws.length=9)
def plusC (h:Hd) (c:Ct) (g:Gv):Hd:=⟨⟨h.pod.nm,h.pod.pr,h.pod.cs++[c]⟩,h.gs++[g]⟩
def addCont (hs:List Hd) (c:Ct) (g:Gv):List Hd:=hs.dropLast++[plusC (hd hs (hs.length - 1)) c g]
def newHd (ws:List Tx) (n:Int):Hd:=⟨⟨⟨(wd ws 1).toArray⟩,n,[]⟩,[]⟩
def step (num:Tx→Option Int) (need:Tx→Option Nd) (hs:List Hd) (ws:List Tx):Option (List Hd):=
 if isPod ws=true then (num (wd ws 2)).map fun n=>hs++[newHd ws n]
 else if isCont ws=true∧0<hs.length then (contOf num need ws).map fun x=>addCont hs x.1 x.2
 else none
def steps (num:Tx→Option Int) (need:Tx→Option Nd) (hs:List Hd):List (List Tx)→Option (List Hd)
 | []=>some hs
 | ws :: r=>match step num need hs ws with
  | none=>none
  | some hs'=>steps num need hs' r
def rowsS (t:Tx):List Tx:=if (splitC 10 t).getLast?=some [] then (splitC 10 t).dropLast else splitC 10 t
def numS (l:Tx):Option Int:=if good 16 l=true then some (val l) else none
def needS (l:Tx):Option Nd:=(numS (cut1 58 l).2.1).map fun n=>⟨⟨(cut1 58 l).1.toArray⟩,n⟩
def readS (t:Tx):Option (List Hd):=steps numS needS [] ((rowsS t).map (splitC 32))
structure Good (num:Tx→Option Int) (need:Tx→Option Nd):Prop where
 num:∀ n:Int,0≤n→n≤1125899906842624→num (dec n)=some n
 need:∀ d:Nd,OkN d→need (needTxt d)=some d
def linesTo (h:Hd):Nat→List (List Tx)
 | 0=>[]
 | k+1=>linesTo h k++[contWs (ct h.pod.cs k)++givenWs (gv h.gs k)]
def linesOf (h:Hd):List (List Tx):=podWs h.pod :: linesTo h h.pod.cs.length
def allTo (hs:List Hd):Nat→List (List Tx)
 | 0=>[]
 | k+1=>allTo hs k++linesOf (hd hs k)
end Sv
end
section
open Go.RowKit
open Qos (Nd Ct Pd nd ct pd)
open Sv (Gv Hd gv hd needTxt needsTxt devsTxt setTxt contWs givenWs lineTxt OkN OkC OkG)
open S1 (Tab strs strs_snoc strs_oneCell ownsRow_cells infoStr itoa_any)
theorem row_belowV {w w':World} {base:Nat} {e:TypeId} {size:Nat} {v:Value} {n:Nat} {xs:List Value} (h:w.ownsRow base e size v n xs) (hb:Below w.heap.size w w'):w'.ownsRow base e size v n xs:=
 h.kept (row:=none) ⟨hb.os,hb.tape,hb.output,hb.size,fun j hj _=>hb.block j hj⟩ (by cases hv:v.ownBlock <;> simp)
theorem join_any (c:UInt8) (v:Value) (xs:List (List UInt8)) (w:World) (base:Nat) (h:w.ownsRow base 9 1 v xs.length (strs xs)) (hn:xs.length≤1000) (hl:(Lib.join xs [c]).length≤1000000) :
  Calls Tryz.prog 220 #[v,.string ⟨#[c]⟩] w fun e w'=>e=.returned (.string ⟨(Lib.join xs [c]).toArray⟩)∧Below w.heap.size w w':=by
 rcases ownsRow_cells h with ⟨rfl,h0⟩|⟨g,cap,rfl,hc,hg,hcell⟩
 ·have:xs=[]:=List.eq_nil_of_length_eq_zero h0
  subst this;refine (Tryz.strings_Join_none none 0 ⟨#[c]⟩ w).mono ?_;rintro e w' ⟨rfl,rfl⟩;exact ⟨rfl,Below.refl _ _⟩
 ·have hx:(xs.map fun (b:List UInt8)=>ByteArray.mk b.toArray).map (·.data.toList)=xs:=by
   rw [List.map_map];exact List.map_id'' (fun _=>rfl) xs
  have:=Tryz.strings_Join g 0 cap (xs.map fun (b:List UInt8)=>ByteArray.mk b.toArray) ⟨#[c]⟩ w (fun j x hj=>by
   rw [Nat.zero_add];apply hcell;unfold strs;rw [List.getElem?_map] at hj ⊢;obtain ⟨a,ha,rfl⟩:=Option.map_eq_some_iff.1 hj;rw [ha];rfl) hg (by simp;omega) (by simpa using hc) (by rw [hx];show (Lib.join xs [c]).length≤_;omega)
  rw [hx] at this
  simpa using this
def decs (xs:List Int) (k:Nat):List (List UInt8):=(xs.take k).map Sv.dec
theorem decs_next {xs:List Int} {k:Nat} (h:k<xs.length):decs xs (k+1)=decs xs k++[Sv.dec (xs.getD k 0)]:=by
 unfold decs;rw [List.take_succ_eq_append_getElem h,List.map_append];simp [h]
theorem decs_len {xs:List Int} {k:Nat} (h:k≤xs.length):(decs xs k).length=k:=by
 unfold decs;simp;omega
theorem decs_all (xs:List Int):decs xs xs.length=xs.map Sv.dec:=by unfold decs;rw [List.take_length]
theorem listInts_any (v:Value) (xs:List Int) (w:World) (h:IntsOf w v xs) (hx:∀ x∈xs,0≤x∧x≤15) (hl:xs.length≤16) (htab:Tab w) (hG:0<w.heap.size) :
  Calls Tryz.prog 177 #[v,.func (.func 173) #[] #[]] w fun e w'=>e=.returned (.string ⟨(devsTxt xs).toArray⟩)∧Below w.heap.size w w':=by
 obtain ⟨i0,hi,hz0,hz1,hz2⟩:=info_parts infoStr;obtain ⟨ao,c,rfl,hm,hr⟩:=h;have HR:=qI hr;have HT:=qI htab;have HX:=qI hx;have HG:=qI hG;clear hr htab hx hG;unfold maxLen at hm;have HJ:Hid (∀ (v:Value) (w1:World),w1.ownsRow w.heap.size 9 1 v (decs xs xs.length).length (strs (decs xs xs.length))→Calls Tryz.prog 220 #[v,.string ⟨#[44]⟩] w1 fun e w'=>e=.returned (.string ⟨(Lib.join (decs xs xs.length) [44]).toArray⟩)∧Below w1.heap.size w1 w'):=by
  intro v w1 h;refine join_any 44 v _ w1 _ h (by rw [decs_len (Nat.le_refl _)];omega) ?_;refine Nat.le_trans (Sv.join_le 44 20 _ fun x hx=>?_) (by rw [decs_len (Nat.le_refl _)];omega);rw [decs_all] at hx;obtain ⟨d,hd,rfl⟩:=List.mem_map.1 hx;exact Sv.dec_le d (by have:=(HX.out d hd).2;omega)
 have HD:Hid (Sv.orNo (Lib.join (decs xs xs.length) [44])=devsTxt xs):=by unfold Hid devsTxt;rw [decs_all]
 go_enter Tryz.func177,Tryz.ntmps177
 go_wp2_with fail
 go_loopw [5,10] (fun r i wr=>∃ k:Nat,k≤xs.length∧i=.int .i64 k∧wr.ownsRow w.heap.size 9 1 r (decs xs k).length (strs (decs xs k))∧Below w.heap.size w wr) (fun _ i _=>xs.length - (intOf i).toNat)
 case atStart=>exact ⟨0,by omega,rfl,World.ownsRow_nil _ _ _ _,Below.refl _ _⟩
 case round=>
  obtain ⟨k,hk,rfl,hrow,hB⟩:=hrel
  by_cases hlt:k<xs.length
  ·obtain ⟨b,o,rfl,hb,hc⟩:=HR.out (by omega);have h1:=(hB.cell (p:=⟨b,o+k,none⟩) hb).trans (hc k hlt);have HS:=qI (decs_next hlt);have hle:=decs_len hk;have hxk:=HX.out (xs.getD k 0) (by simp [hlt]);have hsz:=hB.size;clear hc;generalize xs.getD k 0=x at *;have HI:=qI (itoa_any x wr hxk.1 (by omega) (HT.out.below hB HG.out))
   go_wp2_with fail
   refine HI.out.mono ?_;rintro e w1 ⟨rfl,hb1⟩;have HB1:=qI (hB.trans (hb1.mono hB.size));have hrow1:=row_belowV hrow hb1;have hsz1:=hb1.size
   go_wp2_with (at_builtin;refine wpList_append_own _ rfl _ _ 78 rfl w.heap.size 9 i0 (.string ⟨#[]⟩) 1 16 Tryz.underlying78 hi hz0 hz1 hz2 rfl (by decide) _ _ _ rfl (hrow1.alloc _) ⟨_,0,none⟩ 1 1 [.string ⟨(Sv.dec x).toArray⟩] rfl rfl (cell_one_new _ _ _) (strs_oneCell [Sv.dec x]) (by unfold maxLen;omega) (by omega) (by simp;omega) ?_;intro v' w2 hown' hgrow' _)
   go_roundw
   case rel=>
    refine ⟨k+1,by omega,by go_num,?_,?_⟩
    ·rw [HS.out,strs_snoc,List.length_append];exact hown'
    ·exact (HB1.out.alloc HB1.out.size _).grown hgrow' (by simp;omega) (fun j hj=>(hrow1.lt j hj).1)
   case measure=>simp [intOf];omega
  ·have hke:k=xs.length:=by omega
   subst hke
   go_wp2_with fail
   refine (HJ.out _ _ hrow).mono ?_;rintro e w1 ⟨rfl,hb1⟩;have hB1:=hB.trans (hb1.mono hB.size)
   go_wp2_with fail
   refine (orNothing_any _ _).mono ?_;rintro e w2 ⟨rfl,rfl⟩
   go_wp2_with fail
   go_ret;exact ⟨by rw [← HD.out];rfl,hB1⟩
end
section
open Go.RowKit
open Qos (Nd Ct Pd nd ct pd podF leS)
open Sv (Gv Hd gv hd devF devF1 gsF behindF oneF heldF lowAt)
open Dvs (nameMay first)
theorem IntsOf.slice {w:World} {v:Value} {xs:List Int} (h:IntsOf w v xs):∃ ao c,v=.slice ao xs.length c:=by
 obtain ⟨ao,c,rfl,_⟩:=h;exact ⟨ao,c,rfl⟩
theorem devF_many {xs:List Int} (h:16<xs.length):devF xs=2:=by unfold devF;rw [if_pos h]
theorem devF_few {xs:List Int} (h:¬ 16<xs.length):devF xs=first (devF1 xs) xs.length:=by unfold devF;rw [if_neg h]
def lastI (xs:List Int) (k:Nat):Int:=if k=0 then -1 else xs.getD (k - 1) 0
theorem lastI_next (xs:List Int) (k:Nat):lastI xs (k+1)=xs.getD k 0:=rfl
theorem devF1_at {xs:List Int} {k:Nat} (h:first (devF1 xs) k=0) (hk:k<xs.length):devF1 xs k=if xs.getD k 0≤lastI xs k∨16≤xs.getD k 0 then 3 else 0:=by
 unfold devF1
 by_cases h0:k=0
 ·subst h0;rw [show lastI xs 0=-1 from rfl]
  by_cases h1:xs.getD 0 0<0∨15<xs.getD 0 0
  ·rw [if_pos (by omega),if_pos (by omega)]
  ·rw [if_neg (by omega),if_neg (by omega)]
 ·have e:lastI xs k=xs.getD (k - 1) 0:=by unfold lastI;rw [if_neg h0]
  rw [e];have hp:=Dvs.first_all h (k - 1) (by omega);unfold devF1 at hp
  split at hp
  ·cases hp
  rename_i h2
  by_cases h1:xs.getD k 0≤xs.getD (k - 1) 0∨16≤xs.getD k 0
  ·rw [if_pos h1,if_pos (by omega)]
  ·rw [if_neg h1,if_neg (by omega)]
theorem checkDevs_any (v:Value) (xs:List Int) (w:World) (h:IntsOf w v xs):Calls Tryz.prog 218 #[v] w fun e w'=>e=.returned (errV (devF xs:Nat))∧w'=w:=by
 obtain ⟨ao,c,rfl,hm,hr⟩:=h;have HR:=qI hr;clear hr;have HM:=qI hm;unfold maxLen at hm
 by_cases hn:16<xs.length
 ·have he:=devF_many hn;have hd:decide ((16:Int)<(xs.length:Int))=true:=decide_eq_true (by omega)
  go_enter Tryz.func218,Tryz.ntmps218
  go_wp2_with fail
  go_ret;exact ⟨by rw [he];rfl,rfl⟩
 ·rw [devF_few hn];have hl:xs.length≤16:=by omega
  have hd:decide ((16:Int)<(xs.length:Int))=false:=decide_eq_false (by omega)
  go_enter Tryz.func218,Tryz.ntmps218
  go_wp2_with fail
  go_loop [3,12] (fun la i=>∃ k:Nat,k≤xs.length∧i=.int .i64 k∧la=.int .i64 (lastI xs k)∧Hid (first (devF1 xs) k=0)) (fun _ i=>xs.length - (intOf i).toNat)
  case atStart=>exact ⟨0,by omega,rfl,rfl,rfl⟩
  case round=>
   obtain ⟨k,hk,rfl,rfl,HF⟩:=hrel
   by_cases hlt:k<xs.length
   ·obtain ⟨b,o,rfl,hb,hc⟩:=HR.out (by omega);have h1:=hc k hlt;have HO:=qI (Dvs.first_hit (f:=devF1 xs) (n:=xs.length) HF.out · hlt);have HZ:=qI (Dvs.first_zero (f:=devF1 xs) (k:=k) HF.out);have HA:=qI (devF1_at HF.out hlt);have HN:=qI (lastI_next xs k);clear hc HF HR HM;generalize xs.getD k 0=x at *;generalize lastI xs k=L at *
    by_cases ha:x≤L
    ·have e3:devF1 xs k=3:=by rw [HA.out,if_pos (.inl ha)]
     have hd1:decide (x≤L)=true:=decide_eq_true ha;have HO':=qI (HO.out (by omega))
     go_wp2_with fail
     go_ret;exact ⟨by rw [HO'.out,e3];rfl,rfl⟩
    ·have hd1:decide (x≤L)=false:=decide_eq_false ha
     by_cases hg:16≤x
     ·have e3:devF1 xs k=3:=by rw [HA.out,if_pos (.inr hg)]
      have hd2:decide (16≤x)=true:=decide_eq_true hg;have HO':=qI (HO.out (by omega))
      go_wp2_with fail
      go_ret;exact ⟨by rw [HO'.out,e3];rfl,rfl⟩
     ·have e0:devF1 xs k=0:=by rw [HA.out,if_neg (by omega)]
      have hd2:decide (16≤x)=false:=decide_eq_false hg;have HZ':=qI (HZ.out e0);clear HO HZ HA
      go_wp2_with fail
      go_round
      case rel=>exact ⟨k+1,by omega,by go_num,by rw [HN.out],HZ'⟩
      case measure=>simp [intOf];omega
   ·have hke:k=xs.length:=by omega
    subst hke
    go_wp2_with fail
    go_ret;exact ⟨by rw [HF.out];rfl,rfl⟩
theorem GivsIn.at {w:World} {b o:Nat} {gs:List Gv} {dv:Nat→Value} (h:GivsIn w b o gs dv) {k:Nat} (hk:k<gs.length) :
  w.cell? ⟨b,o+k*2,none⟩=some (.int .u64 (gv gs k).cp)∧w.cell? ⟨b,o+k*2+1,none⟩=some (dv k):=⟨(h.2 k hk).1.1,(h.2 k hk).1.2.1⟩
theorem behind_1 {h:Hd} {b:Bool} (e:podF h.pod≠0):behindF h b=podF h.pod:=by unfold behindF;rw [if_pos e]
theorem behind_2 {h:Hd} {b:Bool} (e:podF h.pod=0) (e2:b=true∨h.gs.length≠h.pod.cs.length):behindF h b=3:=by unfold behindF;rw [if_neg (by omega),if_pos e2]
theorem behind_3 {h:Hd} {b:Bool} (e:podF h.pod=0) (e2:¬ (b=true∨h.gs.length≠h.pod.cs.length)):behindF h b=first (fun k=>devF (gv h.gs k).dv) h.gs.length:=by unfold behindF;rw [if_neg (by omega),if_neg e2];rfl
theorem ConsAt.sl {w:World} {v:Value} {cs:List Ct} (h:ConsAt w v cs):∃ ao c,v=.slice ao cs.length c:=by
 obtain ⟨ao,c,rfl,_⟩:=h;exact ⟨ao,c,rfl⟩
theorem GivsAt.sl {w:World} {v:Value} {cs:List Gv} (h:GivsAt w v cs):∃ ao c,v=.slice ao cs.length c:=by
 obtain ⟨ao,c,rfl,_⟩:=h;exact ⟨ao,c,rfl⟩
theorem checkHeld_any (h:Hd) (cv gvv:Value) (last:ByteArray) (w:World) (hc:ConsAt w cv h.pod.cs) (hg:GivsAt w gvv h.gs) :
  Calls Tryz.prog 170 #[heldV h cv gvv,.string last] w fun e w'=>e=.returned (errV (behindF h (leS h.pod.nm last):Nat))∧Below w.heap.size w w':=by
 unfold heldV;have HB0:=qI ((Below.refl w.heap.size w).alloc (Nat.le_refl _) (.cells #[.string h.pod.nm,.int .i64 h.pod.pr,cv,gvv] 57));have hcb:=hc.below HB0.out;have hgb:=hg.below HB0.out;have HCK:=qI (check_any h.pod cv _ hcb);have HCB:=qI hcb;have HGB:=qI hgb;obtain ⟨cao,cc,rfl⟩:=hc.sl;obtain ⟨gao,gc,rfl⟩:=hg.sl;clear hc hg hcb hgb;unfold podV at HCK
 by_cases hp:podF h.pod=0
 ·have e0:errV ((podF h.pod:Nat):Int)=.nilIface:=by rw [hp];rfl
  go_enter Tryz.func170,Tryz.ntmps170
  go_wp2_with fail
  refine HCK.out.mono ?_;rintro e w1 ⟨rfl,hb⟩;rw [e0];have HB1:=qI (HB0.out.trans (hb.mono HB0.out.size));have hG:=HGB.out.below hb;have c0:w1.cell? ⟨w.heap.size,0,none⟩=some (.string h.pod.nm):=(hb.cell (p:=⟨w.heap.size,0,none⟩) (by simp)).trans (by simp);have c2:w1.cell? ⟨w.heap.size,2,none⟩=some (.slice cao h.pod.cs.length cc):=(hb.cell (p:=⟨w.heap.size,2,none⟩) (by simp)).trans (by simp);have c3:w1.cell? ⟨w.heap.size,3,none⟩=some (.slice gao h.gs.length gc):=(hb.cell (p:=⟨w.heap.size,3,none⟩) (by simp)).trans (by simp);clear hb HCK HCB HGB
  rcases two (leS h.pod.nm last) with hle|hle
  ·have HE:=qI (behind_2 (b:=leS h.pod.nm last) hp (.inl hle));unfold leS at hle
   go_wp2_with fail
   go_ret;exact ⟨by rw [HE.out];rfl,HB1.out⟩
  ·by_cases hl:h.gs.length=h.pod.cs.length
   ·have HE:=qI (behind_3 (b:=leS h.pod.nm last) hp (by rw [hle];simp [hl]));unfold leS at hle;have hl2:(h.gs.length:Int)=(h.pod.cs.length:Int):=by omega
    obtain ⟨_,_,hgv,hm,hr⟩:=hG;cases hgv;have HR:=qI hr;have HM:=qI hm;clear hr;unfold maxLen at hm;generalize h.gs=gs at *
    go_wp2_with fail
    go_loopw [34] (fun i wr=>∃ k:Nat,k≤gs.length∧i=.int .i64 k∧Below w.heap.size w wr∧Below w1.heap.size w1 wr∧Hid (first (fun k=>devF (gv gs k).dv) k=0)) (fun i _=>gs.length - (intOf i).toNat)
    case atStart=>exact ⟨0,by omega,rfl,HB1.out,Below.refl _ _,rfl⟩
    case round=>
     obtain ⟨k,hk,rfl,hB,hB1,HF⟩:=hrel
     by_cases hlt:k<gs.length
     ·obtain ⟨b,o,dv,rfl,hin⟩:=HR.out (by omega);have hin:=hin.below hB1;obtain ⟨d0,d1⟩:=hin.at hlt;have hI:=(hin.2 k hlt).2;have HO:Hid (devF (gv gs k).dv≠0→first (fun k=>devF (gv gs k).dv) gs.length=devF (gv gs k).dv):=qI fun h=>Dvs.first_hit (f:=fun k=>devF (gv gs k).dv) (n:=gs.length) HF.out h hlt
      have HZ:Hid (devF (gv gs k).dv=0→first (fun k=>devF (gv gs k).dv) (k+1)=0):=qI fun h=>Dvs.first_zero (f:=fun k=>devF (gv gs k).dv) (k:=k) HF.out h
      have HBW:=qI ((Below.refl wr.heap.size wr).alloc (Nat.le_refl _) (.cells #[.int .u64 (gv gs k).cp,dv k] 69));have HBa:=qI (hB.alloc hB.size (.cells #[.int .u64 (gv gs k).cp,dv k] 69));have HBb:=qI (hB1.alloc hB1.size (.cells #[.int .u64 (gv gs k).cp,dv k] 69));have HCD:=qI (checkDevs_any (dv k) _ _ (hI.below HBW.out));obtain ⟨iao,ic,hsl⟩:=hI.slice;clear hin hI HF hB hB1;generalize (gv gs k).cp=cp at *;generalize devF (gv gs k).dv=F at *;generalize (gv gs k).dv.length=dn at *;generalize dv k=d at *;subst hsl
      go_wp2_with fail
      refine HCD.out.mono ?_;rintro e w5 ⟨rfl,rfl⟩
      by_cases hF:F=0
      ·have HZ':=qI (HZ.out hF);rw [show errV (F:Int)=.nilIface by rw [hF];rfl];clear HO HZ hF HCD
       go_wp2_with fail
       go_roundw
       case rel=>exact ⟨k+1,by omega,by go_num,HBa.out,HBb.out,HZ'⟩
       case measure=>simp [intOf];omega
      ·have HO':=qI (HO.out hF);have HP:=qI (errQ_pos hF);rw [HP.out];clear HO HZ hF HCD
       go_wp2_with fail
       go_ret;exact ⟨by rw [HE.out,HO'.out,HP.out];rfl,HBa.out⟩
     ·have hke:k=gs.length:=by omega
      subst hke;have HBa:=qI hB;clear hB hB1
      go_wp2_with fail
      go_ret;exact ⟨by rw [HE.out,HF.out];rfl,HBa.out⟩
   ·have HE:=qI (behind_2 (b:=leS h.pod.nm last) hp (.inr hl));unfold leS at hle;have hl2:((h.gs.length:Int) == (h.pod.cs.length:Int))=false:=by simp;omega
    go_wp2_with fail
    go_ret;exact ⟨by rw [HE.out];rfl,HB1.out⟩
 ·have HE:=qI (behind_1 (b:=leS h.pod.nm last) hp);have HP:=qI (errQ_pos hp)
  go_enter Tryz.func170,Tryz.ntmps170
  go_wp2_with fail
  refine HCK.out.mono ?_;rintro e w1 ⟨rfl,hb⟩;have HB1:=qI (HB0.out.trans (hb.mono HB0.out.size));rw [HP.out];clear hb
  go_wp2_with fail
  go_ret;exact ⟨by rw [HE.out,HP.out];rfl,HB1.out⟩
theorem HldsIn.at {w:World} {b o:Nat} {hs:List Hd} {cv gvv:Nat→Value} (h:HldsIn w b o hs cv gvv) {k:Nat} (hk:k<hs.length) :
  w.cell? ⟨b,o+k*4,none⟩=some (.string (hd hs k).pod.nm)∧w.cell? ⟨b,o+k*4+1,none⟩=some (.int .i64 (hd hs k).pod.pr)∧w.cell? ⟨b,o+k*4+2,none⟩=some (cv k)∧w.cell? ⟨b,o+k*4+3,none⟩=some (gvv k):=(h.2 k hk).1
def lastS (hs:List Hd) (k:Nat):ByteArray:=if k=0 then ByteArray.empty else (hd hs (k - 1)).pod.nm
theorem lastS_next (hs:List Hd) (k:Nat):lastS hs (k+1)=(hd hs k).pod.nm:=rfl
theorem name_above {s:ByteArray} (h:nameMay s=true):leS s ByteArray.empty=false:=by
 have h0:=(Sv.name_size h).1;rw [leS,ByteArray.toList_eq,ByteArray.toList_eq];cases hs:s.data.toList with
 | nil=>rw [hs] at h0;simp at h0
 | cons a r=>rfl
theorem behind_low {h:Hd} {b:Bool} (hb:nameMay h.pod.nm=true→b=false):behindF h b=behindF h false:=by
 unfold behindF
 by_cases hp:podF h.pod=0
 ·have hn:=(Qos.pod_len hp).1;rw [hb hn]
 ·rw [if_pos hp,if_pos hp]
theorem one_last (hs:List Hd) (k:Nat):behindF (hd hs k) (leS (hd hs k).pod.nm (lastS hs k))=oneF hs k:=by
 unfold oneF lowAt lastS
 by_cases h0:k=0
 ·subst h0;rw [if_pos rfl]
  show _=behindF (hd hs 0) false
  exact behind_low name_above
 ·rw [if_neg h0,decide_eq_true (by omega:0<k)];rfl
theorem heldF_many {hs:List Hd} (h:12<hs.length):heldF hs=2:=by unfold heldF;rw [if_pos h]
theorem heldF_few {hs:List Hd} (h:¬ 12<hs.length):heldF hs=first (oneF hs) hs.length:=by unfold heldF;rw [if_neg h]
theorem saveCheck_any (v:Value) (hs:List Hd) (w:World) (h:HldsAt w v hs):Calls Tryz.prog 132 #[v] w fun e w'=>e=.returned (errV (heldF hs:Nat))∧Below w.heap.size w w':=by
 obtain ⟨ao,c,rfl,hm,hr⟩:=h;have HR:=qI hr;clear hr;have HM:=qI hm;unfold maxLen at hm
 by_cases hn:12<hs.length
 ·have he:=heldF_many hn;have hd1:decide ((12:Int)<(hs.length:Int))=true:=decide_eq_true (by omega)
  go_enter Tryz.func132,Tryz.ntmps132
  go_wp2_with fail
  go_ret;exact ⟨by rw [he];rfl,Below.refl _ _⟩
 ·rw [heldF_few hn];have hl:hs.length≤12:=by omega
  have hd1:decide ((12:Int)<(hs.length:Int))=false:=decide_eq_false (by omega)
  go_enter Tryz.func132,Tryz.ntmps132
  go_wp2_with fail
  go_loopw [3,13] (fun la i wr=>∃ k:Nat,k≤hs.length∧i=.int .i64 k∧la=.string (lastS hs k)∧Below w.heap.size w wr∧Hid (first (oneF hs) k=0)) (fun _ i _=>hs.length - (intOf i).toNat)
  case atStart=>exact ⟨0,by omega,rfl,rfl,Below.refl _ _,rfl⟩
  case round=>
   obtain ⟨k,hk,rfl,rfl,hB,HF⟩:=hrel
   by_cases hlt:k<hs.length
   ·obtain ⟨b,o,cv,gvv,rfl,hin⟩:=HR.out (by omega);have hin:=hin.below hB;obtain ⟨d0,d1,d2,d3⟩:=hin.at hlt;obtain ⟨_,hC,hG⟩:=hin.2 k hlt;have HO:=qI (Dvs.first_hit (f:=oneF hs) (n:=hs.length) HF.out · hlt);have HZ:=qI (Dvs.first_zero (f:=oneF hs) (k:=k) HF.out);have HBW:=qI ((Below.refl wr.heap.size wr).alloc (Nat.le_refl _) (.cells #[.string (hd hs k).pod.nm,.int .i64 (hd hs k).pod.pr,cv k,gvv k] 57));have HBa:=qI (hB.alloc hB.size (.cells #[.string (hd hs k).pod.nm,.int .i64 (hd hs k).pod.pr,cv k,gvv k] 57));have HCH:=qI (checkHeld_any (hd hs k) (cv k) (gvv k) (lastS hs k) _ (hC.below HBW.out) (hG.below HBW.out));rw [one_last hs k] at HCH;unfold heldV at HCH;have HN:=qI (lastS_next hs k);obtain ⟨ca,cc,hs1⟩:=hC.sl;obtain ⟨ga,gc,hs2⟩:=hG.sl;clear hin hC hG HF hB;generalize lastS hs k=L at *;generalize oneF hs k=F at *;generalize (hd hs k).pod.nm=nm at *;generalize (hd hs k).pod.pr=pr at *;generalize (hd hs k).pod.cs.length=cl at *;generalize (hd hs k).gs.length=gl at *;generalize cv k=cvk at *;generalize gvv k=gvk at *;subst hs1 hs2
    go_wp2_with fail
    refine HCH.out.mono ?_;rintro e w5 ⟨rfl,hb5⟩;have HB5:=qI (HBa.out.trans (hb5.mono HBa.out.size));have c0:w5.cell? ⟨wr.heap.size,0,none⟩=some (.string nm):=(hb5.cell (p:=⟨wr.heap.size,0,none⟩) (by simp)).trans (by simp);clear hb5
    by_cases hF:F=0
    ·have HZ':=qI (HZ.out hF);rw [show errV (F:Int)=.nilIface by rw [hF];rfl];clear HO HZ hF HCH
     go_wp2_with fail
     go_roundw
     case rel=>exact ⟨k+1,by omega,by go_num,by rw [HN.out],HB5.out,HZ'⟩
     case measure=>simp [intOf];omega
    ·have HO':=qI (HO.out hF);have HP:=qI (errQ_pos hF);rw [HP.out];clear HO HZ hF HCH
     go_wp2_with fail
     go_ret;exact ⟨by rw [HO'.out,HP.out];rfl,HB5.out⟩
   ·have hke:k=hs.length:=by omega
    subst hke;have HBa:=qI hB;clear hB
    go_wp2_with fail
    go_ret;exact ⟨by rw [HF.out];rfl,HBa.out⟩
end
section
open Go.RowKit
theorem grown_setV (W:World) (b j:Nat) (v:Value):W.grownBy (W.setCell ⟨b,j,none⟩ v) (some b):=
 ⟨rfl,rfl,rfl,by simp,fun k hk hne=>by
  have hb:b≠k:=fun e=>hne (by rw [e])
  simp [World.setCell,Array.getElem?_modify,hb]⟩
def OnlyB (B:Nat) (w w':World):Prop:=w.grownBy w' (some B)∧w'.heap.size=w.heap.size
theorem OnlyB.refl (B:Nat) (w:World):OnlyB B w w:=⟨⟨rfl,rfl,rfl,Nat.le_refl _,fun _ _ _=>rfl⟩,rfl⟩
theorem OnlyB.set {B:Nat} {w w':World} (h:OnlyB B w w') (j:Nat) (v:Value):OnlyB B w (w'.setCell ⟨B,j,none⟩ v):=by
 obtain ⟨hg,hs⟩:=h;have g2:=grown_setV w' B j v;refine ⟨⟨g2.os.trans hg.os,g2.tape.trans hg.tape,g2.output.trans hg.output,Nat.le_trans hg.size g2.size,fun k hk hne=>(g2.block k (by omega) hne).trans (hg.block k hk hne)⟩,?_⟩;rw [← hs]
 simp
theorem cells_set {w:World} {B:Nat} {arr:Array Value} {t:TypeId} (h:w.heap[B]?=some (.cells arr t (0,0))) (j:Nat) (v:Value):(w.setCell ⟨B,j,none⟩ v).heap[B]?=some (.cells (arr.setIfInBounds j v) t (0,0)):=by
 obtain ⟨hlt,hk⟩:=Array.getElem?_eq_some_iff.1 h
 show (w.heap.modify B _)[B]?=_
 rw [Array.getElem?_eq_getElem (by rw [Array.size_modify];exact hlt),Array.getElem_modify_self,hk];rfl
def DiskW (w:World) (B:Nat) (n k:Sd) (v:Value) (l:Int) (d:Bool):Prop:=w.heap[B]?=some (.cells #[.bool n.ft,.string n.fb,.bool n.dt,.string n.db,.bool k.ft,.string k.fb,.bool k.dt,.string k.db,v,.int .i64 l,.bool d] 146 (0,0))
section
variable {w:World} {B:Nat} {n k:Sd} {v:Value} {l:Int} {d:Bool}
theorem DiskW.lt (h:DiskW w B n k v l d):B<w.heap.size:=(Array.getElem?_eq_some_iff.1 h).1
theorem DiskW.now (h:DiskW w B n k v l d):w.cell? ⟨B,0,none⟩=some (.bool n.ft)∧w.cell? ⟨B,1,none⟩=some (.string n.fb)∧w.cell? ⟨B,2,none⟩=some (.bool n.dt)∧w.cell? ⟨B,3,none⟩=some (.string n.db):=by
 refine ⟨?_,?_,?_,?_⟩ <;> simp [World.cell?,show w.heap[B]?=_ from h]
theorem DiskW.kept (h:DiskW w B n k v l d):w.cell? ⟨B,4,none⟩=some (.bool k.ft)∧w.cell? ⟨B,5,none⟩=some (.string k.fb)∧w.cell? ⟨B,6,none⟩=some (.bool k.dt)∧w.cell? ⟨B,7,none⟩=some (.string k.db):=by
 refine ⟨?_,?_,?_,?_⟩ <;> simp [World.cell?,show w.heap[B]?=_ from h]
theorem DiskW.rest (h:DiskW w B n k v l d):w.cell? ⟨B,8,none⟩=some v∧w.cell? ⟨B,9,none⟩=some (.int .i64 l)∧w.cell? ⟨B,10,none⟩=some (.bool d):=by
 refine ⟨?_,?_,?_⟩ <;> simp [World.cell?,show w.heap[B]?=_ from h]
theorem DiskW.frozen (h:DiskW w B n k v l d) (j:Nat):w.frozen? ⟨B,j,none⟩=false:=by simp [World.frozen?,show w.heap[B]?=_ from h]
theorem DiskW.set8 (h:DiskW w B n k v l d) (v':Value):DiskW (w.setCell ⟨B,8,none⟩ v') B n k v' l d:=cells_set h 8 v'
theorem DiskW.set9 (h:DiskW w B n k v l d) (l':Int):DiskW (w.setCell ⟨B,9,none⟩ (.int .i64 l')) B n k v l' d:=cells_set h 9 _
theorem DiskW.set10 (h:DiskW w B n k v l d) (d':Bool):DiskW (w.setCell ⟨B,10,none⟩ (.bool d')) B n k v l d':=cells_set h 10 _
def putS (w:World) (B i:Nat) (s:Sd):World:=(((w.setCell ⟨B,i,none⟩ (.bool s.ft)).setCell ⟨B,i+1,none⟩ (.string s.fb)).setCell ⟨B,i+2,none⟩ (.bool s.dt)).setCell ⟨B,i+3,none⟩ (.string s.db)
theorem DiskW.setNow (h:DiskW w B n k v l d) (s:Sd):DiskW (putS w B 0 s) B s k v l d:=cells_set (cells_set (cells_set (cells_set h 0 _) 1 _) 2 _) 3 _
theorem DiskW.setKept (h:DiskW w B n k v l d) (s:Sd):DiskW (putS w B 4 s) B n s v l d:=cells_set (cells_set (cells_set (cells_set h 4 _) 5 _) 6 _) 7 _
theorem OnlyB.putS {w w':World} {B:Nat} (h:OnlyB B w w') (i:Nat) (s:Sd):OnlyB B w (putS w' B i s):=(((h.set i _).set (i+1) _).set (i+2) _).set (i+3) _
theorem DiskW.block {w':World} (h:DiskW w B n k v l d) (he:w'.heap[B]?=w.heap[B]?):DiskW w' B n k v l d:=he.trans h
end
def stepE (l:Int) (d:Bool):Nat:=if d=true∨l=0 then 11 else 0
def stepN (l:Int) (d:Bool):Int:=if d=true∨l=0 then l else if 0<l then l - 1 else l
def stepF (l:Int) (d:Bool):Bool:=decide (d=true∨l=0)
theorem stepW_any (B:Nat) (n k:Sd) (v:Value) (l:Int) (d:Bool) (w:World) (h:DiskW w B n k v l d) (hl:-9223372036854775808≤l∧l≤9223372036854775807):Calls Tryz.prog 140 #[.pointer (some ⟨B,0,none⟩)] w fun e w'=>e=.returned (errV ((stepE l d:Nat):Int))∧DiskW w' B n k v (stepN l d) (stepF l d)∧OnlyB B w w':=by
 obtain ⟨_,c9,c10⟩:=h.rest;have f9:=h.frozen 9;have f10:=h.frozen 10
 by_cases h0:l=0
 ·subst h0;obtain ⟨_,e9,e10⟩:=(h.set10 true).rest;have HZ:=qI (h.set10 true);have HO:=qI ((OnlyB.refl B w).set 10 (.bool true));clear h
  go_enter Tryz.func140,Tryz.ntmps140
  go_wp2_with fail
  go_ret;exact ⟨by simp [stepE,errV],by simpa [stepN,stepF] using HZ.out,HO.out⟩
 ·cases d with
  | true=>
   have HZ:=qI h;have hb:(l == 0)=false:=by simp [h0]
   clear h
   go_enter Tryz.func140,Tryz.ntmps140
   go_wp2_with fail
   go_ret;exact ⟨by simp [stepE,errV],by simpa [stepN,stepF] using HZ.out,OnlyB.refl _ _⟩
  | false=>
   have hb:(l == 0)=false:=by simp [h0]
   by_cases hp:0<l
   ·have hw:wrap64 (l - 1)=l - 1:=by unfold wrap64;omega
    have HZ:=qI (h.set9 (l - 1));have HO:=qI ((OnlyB.refl B w).set 9 (.int .i64 (l - 1)));clear h
    go_enter Tryz.func140,Tryz.ntmps140
    go_wp2_with fail
    go_ret;exact ⟨by simp [stepE,errV,h0],by simpa [stepN,stepF,h0,hp] using HZ.out,HO.out⟩
   ·have HZ:=qI h;have hp':l≤0:=by omega
    have HE:Hid (stepN l false=l):=by unfold Hid stepN;rw [if_neg (by simp [h0]),if_neg hp]
    clear h
    go_enter Tryz.func140,Tryz.ntmps140
    go_wp2_with fail
    go_ret;exact ⟨by simp [stepE,errV,h0],by rw [HE.out];simpa [stepF,h0] using HZ.out,OnlyB.refl _ _⟩
def readW (n:Sd) (d:Bool):Value:=if d=true then .tuple #[.string ⟨#[]⟩,.iface 121 (.int .i64 11)] else if n.ft=true then .tuple #[.string n.fb,.nilIface] else .tuple #[.string ⟨#[]⟩,.iface 121 (.int .i64 6)]
theorem readW_any (B:Nat) (n k:Sd) (v:Value) (l:Int) (d:Bool) (w:World) (h:DiskW w B n k v l d):Calls Tryz.prog 152 #[.pointer (some ⟨B,0,none⟩)] w fun e w'=>e=.returned (readW n d)∧w'=w:=by
 obtain ⟨_,c9,c10⟩:=h.rest;obtain ⟨c0,c1,_,_⟩:=h.now;obtain ⟨ft,fb,dt,db⟩:=n;dsimp only at c0 c1;unfold readW;clear h;cases d with
 | true=>
  go_enter Tryz.func152,Tryz.ntmps152
  go_wp2_with fail
  go_ret2;exact ⟨rfl,rfl⟩
 | false=>
  cases ft with
  | true=>
   go_enter Tryz.func152,Tryz.ntmps152
   go_wp2_with fail
   go_ret2;exact ⟨rfl,rfl⟩
  | false=>
   go_enter Tryz.func152,Tryz.ntmps152
   go_wp2_with fail
   go_ret2;exact ⟨rfl,rfl⟩
end
section
open Go.RowKit
theorem step_two (l:Int) (d:Bool):(stepE l d=11∧stepF l d=true)∨(stepE l d=0∧stepF l d=false):=by
 unfold stepE stepF
 by_cases h:d=true∨l=0
 ·exact .inl ⟨if_pos h,decide_eq_true h⟩
 ·exact .inr ⟨if_neg h,decide_eq_false h⟩
theorem errV_11:errV ((11:Nat):Int)=.iface 121 (.int .i64 11):=rfl
theorem errV_0:errV ((0:Nat):Int)=.nilIface:=rfl
theorem syncW_any (B:Nat) (n k:Sd) (v:Value) (l:Int) (d:Bool) (w:World) (h:DiskW w B n k v l d) (hl:-9223372036854775808≤l∧l≤9223372036854775807):Calls Tryz.prog 100 #[.pointer (some ⟨B,0,none⟩)] w fun e w'=>e=.returned (errV ((stepE l d:Nat):Int))∧DiskW w' B n (if stepE l d=0 then n else k) (if stepE l d=0 then .slice none 0 0 else v) (stepN l d) (stepF l d)∧OnlyB B w w':=by
 have HS:=qI (stepW_any B n k v l d w h hl);clear h
 rcases step_two l d with ⟨e1,e2⟩|⟨e1,e2⟩
 ·rw [e1,e2,if_neg (by decide),if_neg (by decide),errV_11];rw [e1,e2,errV_11] at HS
  go_enter Tryz.func100,Tryz.ntmps100
  go_wp2_with fail
  refine HS.out.mono ?_;rintro e w1 ⟨rfl,h1,ho1⟩;have H1:=qI h1;have HO:=qI ho1;clear h1 ho1 HS
  go_wp2_with fail
  go_ret;exact ⟨rfl,H1.out,HO.out⟩
 ·rw [e1,e2,if_pos rfl,if_pos rfl,errV_0];rw [e1,e2,errV_0] at HS
  go_enter Tryz.func100,Tryz.ntmps100
  go_wp2_with fail
  refine HS.out.mono ?_;rintro e w1 ⟨rfl,h1,ho1⟩;have H2:=qI ((h1.setKept n).set8 (.slice none 0 0));have HO:=qI (((ho1.putS 4 n)).set 8 (.slice none 0 0));obtain ⟨n0,n1,n2,n3⟩:=h1.now;obtain ⟨k0,k1,k2,k3⟩:=h1.kept;obtain ⟨k8,_,_⟩:=h1.rest;have f4:=h1.frozen 4;have f5:=h1.frozen 5;have f6:=h1.frozen 6;have f7:=h1.frozen 7;have f8:=h1.frozen 8;clear h1 ho1 HS
  go_wp2_with fail
  go_ret;exact ⟨rfl,H2.out,HO.out⟩
end
section
open Go.RowKit Go.Shelf
def AnsIf (P:Prop) (w:World) (e:Ending) (w':World):Prop:=∃ b:Bool,e=.returned (.bool b)∧(P→b=true)∧Below w.heap.size w w'
theorem below_drewNE (w:World) (n:Nat):Below w.heap.size w (w.drewN n):=⟨rfl,rfl,rfl,Nat.le_refl _,fun _ _=>rfl⟩
theorem sameInts_any (v1 v2:Value) (xs ys:List Int) (w:World) (h1:IntsOf w v1 xs) (h2:IntsOf w v2 ys) :
  Calls Tryz.prog 60 #[v1,v2] w fun e w'=>∃ b:Bool,e=.returned (.bool b)∧(xs=ys→b=true)∧∃ n,w'=w.drewN n:=by
 obtain ⟨a1,c1,rfl,m1,h1⟩:=h1;obtain ⟨a2,c2,rfl,m2,h2⟩:=h2;unfold maxLen at m1 m2;have H1:=qI h1;have H2:=qI h2;clear h1 h2
 by_cases hl:xs.length=ys.length
 ·rw [← hl];have HL:=qI hl
  go_enter Tryz.func60,Tryz.ntmps60
  clear hl
  go_wp2_with fail
  go_loopw [5] (fun i wr=>∃ k m:Nat,k≤xs.length∧i=.int .i64 k∧wr=w.drewN m) (fun i _=>xs.length - (intOf i).toNat)
  case atStart=>exact ⟨0,0,by omega,rfl,rfl⟩
  case round=>
   obtain ⟨k,m,hk,rfl,rfl⟩:=hrel
   by_cases hlt:k<xs.length
   ·obtain ⟨b1,o1,rfl,_,hc1⟩:=H1.out (by omega);obtain ⟨b2,o2,rfl,_,hc2⟩:=H2.out (by rw [← HL.out];omega);have d1:=hc1 k hlt;have d2:=hc2 k (by rw [← HL.out];omega);clear hc1 hc2;have HK:Hid (xs=ys→xs.getD k 0=ys.getD k 0):=fun e=>by rw [e]
    generalize xs.getD k 0=x at *;generalize ys.getD k 0=y at *
    by_cases hxy:x=y
    ·subst hxy
     go_wp2_with fail
     go_quiet (fail)
     go_wp2_with fail
     go_roundw
     case rel=>exact ⟨k+1,_,by omega,by go_num,rfl⟩
     case measure=>simp [intOf];omega
    ·have hb:(x == y)=false:=by simpa using hxy
     have HN:=qI hxy;clear hxy
     go_wp2_with fail
     go_quiet (fail)
     go_wp2_with fail
     go_ret;exact ⟨_,rfl,fun e=>absurd (HK.out e) HN.out,_,World.drewN_drewN _ _ _⟩
   ·have hke:k=xs.length:=by omega
    subst hke
    go_wp2_with fail
    go_ret;exact ⟨_,rfl,fun _=>rfl,m,rfl⟩
 ·have hb:((xs.length:Int) == (ys.length:Int))=false:=by simp;omega
  have HN:=qI hl;clear hl
  go_enter Tryz.func60,Tryz.ntmps60
  go_wp2_with fail
  go_ret;exact ⟨_,rfl,fun e=>absurd (congrArg List.length e) HN.out,0,rfl⟩
end
section
open Go.RowKit
open Qos (Nd Ct Pd nd ct pd)
open Ost (good val cut1 parseOut)
open S1 (Mx)
end
section
open Go.RowKit
open Qos (Nd Ct Pd nd ct pd)
open Sv (Gv Hd gv hd needTxt needsTxt devsTxt setTxt contWs givenWs lineTxt OkN OkC OkG)
open S1 (Tab strs strs_snoc strs_oneCell ownsRow_cells infoStr itoa_any)
theorem cell_allocV {w:World} {a:Addr} {v:Value} (h:w.cell? a=some v) (o:Obj):(w.alloc o).cell? a=some v:=
 (((Below.refl w.heap.size w).alloc (Nat.le_refl _) o).cell (World.block_lt_of_cell? w _ h)).trans h
theorem below_drewV {B:Nat} {a w:World} (h:Below B a w):Below B a w.drew:=⟨h.os,h.tape,h.output,h.size,h.block⟩
def TabUp (w:World):Prop:=Tab w∧0<w.heap.size
theorem TabUp.below {w w':World} (h:TabUp w) (hb:Below w.heap.size w w'):TabUp w':=⟨h.1.below hb h.2,Nat.lt_of_lt_of_le h.2 hb.size⟩
theorem itoaV (x:Int) (w:World) (h0:0≤x) (h1:x≤1125899906842624) (ht:TabUp w):Calls Tryz.prog 173 #[.int .i64 x] w fun e w'=>e=.returned (.string ⟨(Sv.dec x).toArray⟩)∧Below w.heap.size w w':=itoa_any x w h0 (by omega) ht.1
theorem needWord_any (d:Nd) (w:World) (h:OkN d) (ht:TabUp w):Calls Tryz.prog 223 #[.agg #[.string d.kind,.int .i64 d.many]] w fun e w'=>e=.returned (.string ⟨(needTxt d).toArray⟩)∧Below w.heap.size w w':=by
 have h1:=(Sv.name_size h.1).2;have h2:=Sv.dec_le d.many (by have:=h.2.2;omega);have hk:ByteArray.mk d.kind.data.toList.toArray=d.kind:=by simp
 have ea:=strcat d.kind.data.toList [58];have eb:=strcat (d.kind.data.toList++[58]) (Sv.dec d.many);have HE:Hid (needTxt d=d.kind.data.toList++[58]++Sv.dec d.many):=rfl;have hm0:=h.2.1;have hm1:=h.2.2;have hks:d.kind.size≤8:=Nat.le_trans (Nat.le_of_eq (by simp)) h1;rw [hk] at ea;clear hk;have HT:=qI ht;have HB0:=qI (below_drewV ((Below.refl w.heap.size w).alloc (Nat.le_refl _) (.cells #[.string d.kind,.int .i64 d.many] 109)));generalize needTxt d=S at *;generalize d.many=m at *;generalize d.kind=kd at *;have q1:¬ 9223372036854775807<kd.size+1:=by omega
 have q2:¬ 9223372036854775807<kd.size+1+(Sv.dec m).length:=by omega
 clear h ht
 go_enter Tryz.func223,Tryz.ntmps223
 go_wp2_with fail
 have HS0:=qI (show w.heap.size<(w.alloc (.cells #[.string kd,.int .i64 m] 109)).drew.heap.size∧(w.alloc (.cells #[.string kd,.int .i64 m] 109)).drew.cell? ⟨w.heap.size,0,none⟩=some (.string kd)∧(w.alloc (.cells #[.string kd,.int .i64 m] 109)).drew.cell? ⟨w.heap.size,1,none⟩=some (.int .i64 m) from ⟨by simp,by simp,by simp⟩);refine wp_region_held_drew (S:=(fun w'=>w'.cell? ⟨w.heap.size,0,none⟩=some (.string kd)∧w'.cell? ⟨w.heap.size,1,none⟩=some (.int .i64 m))) (by kernel_rfl) HS0.out.2 (fun hHeld=>?_);refine tk 0 ?_;refine tk 1 ?_;refine tk 2 ?_;refine tk 3 ?_;refine tk 4 ?_;refine rd 5 (fun K hK=>?_);go_simp
 go_wp2_with fail
 refine (itoaV m _ (by omega) (by omega) (HT.out.below HB0.out)).mono ?_;rintro e V1 ⟨rfl,hb⟩;have HBV1:=qI (HB0.out.trans (hb.mono HB0.out.size));have HSV1:=qI (show w.heap.size<V1.heap.size∧(fun w'=>w'.cell? ⟨w.heap.size,0,none⟩=some (.string kd)∧w'.cell? ⟨w.heap.size,1,none⟩=some (.int .i64 m)) V1 from ⟨Nat.lt_of_lt_of_le HS0.out.1 hb.size,(hb.cell (p:=⟨w.heap.size,0,none⟩) HS0.out.1).trans HS0.out.2.1,(hb.cell (p:=⟨w.heap.size,1,none⟩) HS0.out.1).trans HS0.out.2.2⟩);clear hb
 go_wp2_with fail
 refine hK.out _ _ HSV1.out.2 (fun hHeld=>?_);clear hK K;refine tk 6 ?_;refine tk 7 ?_;refine wpAnyH_done (by kernel_rfl) ?_ _
 go_wp2_with fail
 go_ret;exact ⟨by rw [HE.out,List.append_assoc];rfl,HBV1.out⟩
def needsW (xs:List Nd) (k:Nat):List (List UInt8):=(xs.take k).map needTxt
theorem needsW_next {xs:List Nd} {k:Nat} (h:k<xs.length):needsW xs (k+1)=needsW xs k++[needTxt (nd xs k)]:=by
 unfold needsW;rw [List.take_succ_eq_append_getElem h,List.map_append];simp [nd,h]
theorem needsW_len {xs:List Nd} {k:Nat} (h:k≤xs.length):(needsW xs k).length=k:=by
 unfold needsW;simp;omega
theorem needsW_all (xs:List Nd):needsW xs xs.length=xs.map needTxt:=by unfold needsW;rw [List.take_length]
theorem listNeeds_any (v:Value) (xs:List Nd) (w:World) (h:NeedsAt w v xs) (hx:∀ x∈xs,OkN x) (hl:xs.length≤3) (ht:TabUp w) :
  Calls Tryz.prog 222 #[v,.func (.func 223) #[] #[]] w fun e w'=>e=.returned (.string ⟨(needsTxt xs).toArray⟩)∧Below w.heap.size w w':=by
 obtain ⟨i0,hi,hz0,hz1,hz2⟩:=info_parts infoStr;obtain ⟨ao,c,rfl,hm,hr⟩:=h;have HR:=qI hr;have HT:=qI ht;have HX:=qI hx;clear hr ht hx;unfold maxLen at hm;have HJ:Hid (∀ (v:Value) (w1:World),w1.ownsRow w.heap.size 9 1 v (needsW xs xs.length).length (strs (needsW xs xs.length))→Calls Tryz.prog 220 #[v,.string ⟨#[44]⟩] w1 fun e w'=>e=.returned (.string ⟨(Lib.join (needsW xs xs.length) [44]).toArray⟩)∧Below w1.heap.size w1 w'):=by
  intro v w1 h;refine join_any 44 v _ w1 _ h (by rw [needsW_len (Nat.le_refl _)];omega) ?_;refine Nat.le_trans (Sv.join_le 44 29 _ fun x hx=>?_) (by rw [needsW_len (Nat.le_refl _)];omega);rw [needsW_all] at hx;obtain ⟨d,hd,rfl⟩:=List.mem_map.1 hx;exact Sv.needTxt_le (HX.out d hd)
 have HD:Hid (Sv.orNo (Lib.join (needsW xs xs.length) [44])=needsTxt xs):=by unfold Hid needsTxt;rw [needsW_all]
 go_enter Tryz.func222,Tryz.ntmps222
 go_wp2_with fail
 go_loopw [5,10] (fun r i wr=>∃ k:Nat,k≤xs.length∧i=.int .i64 k∧wr.ownsRow w.heap.size 9 1 r (needsW xs k).length (strs (needsW xs k))∧Below w.heap.size w wr) (fun _ i _=>xs.length - (intOf i).toNat)
 case atStart=>exact ⟨0,by omega,rfl,World.ownsRow_nil _ _ _ _,Below.refl _ _⟩
 case round=>
  obtain ⟨k,hk,rfl,hrow,hB⟩:=hrel
  by_cases hlt:k<xs.length
  ·obtain ⟨b,o,rfl,hb,hc⟩:=HR.out (by omega);obtain ⟨d0,d1⟩:=hc k hlt;have c0:=(hB.cell (p:=⟨b,o+k*2,none⟩) hb).trans d0;have c1:=(hB.cell (p:=⟨b,o+k*2+1,none⟩) hb).trans d1;have HS:=qI (needsW_next hlt);have hle:=needsW_len hk;have hxk:=HX.out (nd xs k) (by simp [nd,hlt]);have hsz:=hB.size;have HBa:=qI (hB.alloc hB.size (.cells #[.string (nd xs k).kind,.int .i64 (nd xs k).many] 109));have HI:=qI (needWord_any (nd xs k) _ hxk (HT.out.below HBa.out));have hrowa:=hrow.alloc (.cells #[.string (nd xs k).kind,.int .i64 (nd xs k).many] 109);clear hc d0 d1 hxk;generalize needTxt (nd xs k)=T at *;generalize (nd xs k).kind=kd at *;generalize (nd xs k).many=m at *
   go_wp2_with fail
   refine HI.out.mono ?_;rintro e w1 ⟨rfl,hb1⟩;have HB1:=qI (HBa.out.trans (hb1.mono HBa.out.size));have hrow1:=row_belowV hrowa hb1;have hsz1:=HB1.out.size;clear hb1
   go_wp2_with (at_builtin;refine wpList_append_own _ rfl _ _ 78 rfl w.heap.size 9 i0 (.string ⟨#[]⟩) 1 16 Tryz.underlying78 hi hz0 hz1 hz2 rfl (by decide) _ _ _ rfl (hrow1.alloc _) ⟨_,0,none⟩ 1 1 [.string ⟨T.toArray⟩] rfl rfl (cell_one_new _ _ _) (strs_oneCell [T]) (by unfold maxLen;omega) (by omega) (by simp;omega) ?_;intro v' w2 hown' hgrow' _)
   go_roundw
   case rel=>
    refine ⟨k+1,by omega,by go_num,?_,?_⟩
    ·rw [HS.out,strs_snoc,List.length_append];exact hown'
    ·exact (HB1.out.alloc HB1.out.size _).grown hgrow' (by simp;omega) (fun j hj=>(hrow1.lt j hj).1)
   case measure=>simp [intOf];omega
  ·have hke:k=xs.length:=by omega
   subst hke
   go_wp2_with fail
   refine (HJ.out _ _ hrow).mono ?_;rintro e w1 ⟨rfl,hb1⟩;have hB1:=hB.trans (hb1.mono hB.size)
   go_wp2_with fail
   refine (orNothing_any _ _).mono ?_;rintro e w2 ⟨rfl,rfl⟩
   go_wp2_with fail
   go_ret;exact ⟨by rw [← HD.out];rfl,hB1⟩
def WordsAt (base:Nat) (w:World) (v:Value) (ws:List (List UInt8)):Prop:=w.ownsRow base 9 1 v ws.length (strs ws)
theorem words_made (ws:List (List UInt8)) (w:World) (base:Nat) (hb:base≤w.heap.size) (hl:ws.length≤1000):WordsAt base (w.alloc (.cells (strs ws).toArray 9)) (.slice (some ⟨w.heap.size,0,none⟩) ws.length ws.length) ws:=by
 have h:=World.ownsRow_made (base:=base) (e:=9) (size:=1) w (strs ws).toArray ws.length hb (by unfold maxLen;omega) (by simp [strs]);refine ⟨by simp [strs],.inr ⟨w.heap.size,ws.length,_,rfl,hb,heap_alloc_new w _,Nat.le_refl _,by unfold maxLen;omega,by simp [strs],?_⟩⟩;rw [Nat.mul_one,List.take_of_length_le (by simp [strs])]
theorem givenWords_any (g:Gv) (dv:Value) (w:World) (hd:IntsOf w dv g.dv) (hg:OkG g) (ht:TabUp w) :
  Calls Tryz.prog 136 #[.agg #[.int .u64 g.cp,dv]] w fun e w'=>∃ v,e=.returned v∧WordsAt w.heap.size w' v (givenWs g)∧Below w.heap.size w w':=by
 have HT:=qI ht;have HB0:=qI (below_drewV ((Below.refl w.heap.size w).alloc (Nat.le_refl _) (.cells #[.int .u64 g.cp,dv] 69)));have HD:=qI (fun W (hb:Below w.heap.size w W)=>listInts_any dv g.dv W (hd.below hb) hg.2.2 hg.2.1 (HT.out.below hb).1 (HT.out.below hb).2);have HX:=qI (fun W=>S1.text_any g.cp W hg.1);have HE:Hid (givenWs g=[Sv.orNo (Ost.txt g.cp),devsTxt g.dv]):=rfl;obtain ⟨da,dc,rfl⟩:=hd.slice;clear hd hg ht;generalize devsTxt g.dv=D at *;generalize g.dv.length=dn at *;generalize Ost.txt g.cp=X at *;generalize givenWs g=GW at *;generalize g.cp=cp at *
 go_enter Tryz.func136,Tryz.ntmps136
 go_wp2_with fail
 have HS0:=qI (show w.heap.size<(w.alloc (.cells #[.int .u64 cp,.slice da dn dc] 69)).drew.heap.size∧(w.alloc (.cells #[.int .u64 cp,.slice da dn dc] 69)).drew.cell? ⟨w.heap.size,0,none⟩=some (.int .u64 cp)∧(w.alloc (.cells #[.int .u64 cp,.slice da dn dc] 69)).drew.cell? ⟨w.heap.size,1,none⟩=some (.slice da dn dc) from ⟨by simp,by simp,by simp⟩);refine wp_region_held_drew (S:=(fun w'=>w'.cell? ⟨w.heap.size,0,none⟩=some (.int .u64 cp)∧w'.cell? ⟨w.heap.size,1,none⟩=some (.slice da dn dc))) (by kernel_rfl) HS0.out.2 (fun hHeld=>?_);refine tk 0 ?_;refine tk 1 ?_;refine tk 4 ?_;refine tk 5 ?_;refine rd 2 (fun K hK=>?_);go_simp
 go_wp2_with fail
 refine (HX.out _).mono ?_;rintro e V1 ⟨rfl,hb⟩;have HBV1:=qI (HB0.out.trans (hb.mono HB0.out.size));have HSV1:=qI (show w.heap.size<V1.heap.size∧(fun w'=>w'.cell? ⟨w.heap.size,0,none⟩=some (.int .u64 cp)∧w'.cell? ⟨w.heap.size,1,none⟩=some (.slice da dn dc)) V1 from ⟨Nat.lt_of_lt_of_le HS0.out.1 hb.size,(hb.cell (p:=⟨w.heap.size,0,none⟩) HS0.out.1).trans HS0.out.2.1,(hb.cell (p:=⟨w.heap.size,1,none⟩) HS0.out.1).trans HS0.out.2.2⟩);clear hb
 go_wp2_with fail
 refine hK.out _ _ HSV1.out.2 (fun hHeld=>?_);clear hK K;refine rd 3 (fun K hK=>?_);go_simp
 go_wp2_with fail
 refine (orNothing_any _ _).mono ?_;rintro e V2 ⟨rfl,hVe⟩;subst hVe;have HBV2:=HBV1;have HSV2:=HSV1
 go_wp2_with fail
 refine hK.out _ _ HSV2.out.2 (fun hHeld=>?_);clear hK K;refine rd 6 (fun K hK=>?_);go_simp
 go_wp2_with fail
 refine (HD.out _ HBV2.out).mono ?_;rintro e V3 ⟨rfl,hb⟩;have HBV3:=qI (HBV2.out.trans (hb.mono HBV2.out.size));have HSV3:=qI (show w.heap.size<V3.heap.size∧(fun w'=>w'.cell? ⟨w.heap.size,0,none⟩=some (.int .u64 cp)∧w'.cell? ⟨w.heap.size,1,none⟩=some (.slice da dn dc)) V3 from ⟨Nat.lt_of_lt_of_le HSV2.out.1 hb.size,(hb.cell (p:=⟨w.heap.size,0,none⟩) HSV2.out.1).trans HSV2.out.2.1,(hb.cell (p:=⟨w.heap.size,1,none⟩) HSV2.out.1).trans HSV2.out.2.2⟩);clear hb
 go_wp2_with fail
 refine hK.out _ _ HSV3.out.2 (fun hHeld=>?_);clear hK K;refine rd 7 (fun K hK=>?_);go_simp
 go_wp2_with fail
 have HBV4:=qI (HBV3.out.alloc HBV3.out.size (.cells #[.string ⟨(Sv.orNo X).toArray⟩,.string ⟨D.toArray⟩] 9));have HSV4:=qI (show w.heap.size<(V3.alloc (.cells #[.string ⟨(Sv.orNo X).toArray⟩,.string ⟨D.toArray⟩] 9)).heap.size∧(fun w'=>w'.cell? ⟨w.heap.size,0,none⟩=some (.int .u64 cp)∧w'.cell? ⟨w.heap.size,1,none⟩=some (.slice da dn dc)) (V3.alloc (.cells #[.string ⟨(Sv.orNo X).toArray⟩,.string ⟨D.toArray⟩] 9)) from ⟨Nat.lt_of_lt_of_le HSV3.out.1 (by simp),cell_allocV HSV3.out.2.1 (.cells #[.string ⟨(Sv.orNo X).toArray⟩,.string ⟨D.toArray⟩] 9),cell_allocV HSV3.out.2.2 (.cells #[.string ⟨(Sv.orNo X).toArray⟩,.string ⟨D.toArray⟩] 9)⟩);refine hK.out _ _ HSV4.out.2 (fun hHeld=>?_);clear hK K;refine tk 8 ?_;refine wpAnyH_done (by kernel_rfl) ?_ _
 go_wp2_with fail
 go_ret;refine ⟨_,rfl,?_,HBV4.out⟩;rw [HE.out];exact words_made [Sv.orNo X,D] V3 w.heap.size HBV3.out.size (by simp)
end
section
open Go.ChangeShapes Go.WideShapes Go.ChangeAt Go.RowKit
open S1 (Tab Mx gTab)
theorem ownV:ownKnob Tryz.prog.godebug=none:=by kernel_rfl
theorem laidOutV:laidOutB Tryz.prog=true:=by kernel_rfl
theorem gTabTypeV:(Tryz.prog.globals[0]?).map (·.type)=some 383:=by kernel_rfl
theorem cells20V:Tryz.prog.cellsOf 383=20:=by kernel_rfl
theorem cells64V:Tryz.prog.cellsOf 23=1:=by kernel_rfl
theorem powDataV:(Rows.laid_internal_strconv_uint64pow10:DataW Unit)=Lib.tabData .u64 Lib.pow10Tab:=by kernel_rfl
def tab32:Array Value:=#[.int .u8 0,.int .u8 1,.int .u8 28,.int .u8 2,.int .u8 29,.int .u8 14,.int .u8 24,.int .u8 3,.int .u8 30,.int .u8 22,.int .u8 20,.int .u8 15,.int .u8 25,.int .u8 17,.int .u8 4,.int .u8 8,.int .u8 31,.int .u8 27,.int .u8 13,.int .u8 23,.int .u8 21,.int .u8 19,.int .u8 16,.int .u8 7,.int .u8 26,.int .u8 12,.int .u8 18,.int .u8 6,.int .u8 11,.int .u8 5,.int .u8 10,.int .u8 9]
def tab64:Array Value:=#[.int .u8 0,.int .u8 1,.int .u8 56,.int .u8 2,.int .u8 57,.int .u8 49,.int .u8 28,.int .u8 3,.int .u8 61,.int .u8 58,.int .u8 42,.int .u8 50,.int .u8 38,.int .u8 29,.int .u8 17,.int .u8 4,.int .u8 62,.int .u8 47,.int .u8 59,.int .u8 36,.int .u8 45,.int .u8 43,.int .u8 51,.int .u8 22,.int .u8 53,.int .u8 39,.int .u8 33,.int .u8 30,.int .u8 24,.int .u8 18,.int .u8 12,.int .u8 5,.int .u8 63,.int .u8 55,.int .u8 48,.int .u8 27,.int .u8 60,.int .u8 41,.int .u8 37,.int .u8 16,.int .u8 46,.int .u8 35,.int .u8 44,.int .u8 21,.int .u8 52,.int .u8 32,.int .u8 23,.int .u8 11,.int .u8 54,.int .u8 26,.int .u8 40,.int .u8 15,.int .u8 34,.int .u8 20,.int .u8 31,.int .u8 10,.int .u8 25,.int .u8 14,.int .u8 19,.int .u8 9,.int .u8 13,.int .u8 8,.int .u8 7,.int .u8 6]
def tabAccept:Array Value:=#[.int .u8 128,.int .u8 191,.int .u8 160,.int .u8 191,.int .u8 128,.int .u8 159,.int .u8 144,.int .u8 191,.int .u8 128,.int .u8 143,.int .u8 0,.int .u8 0,.int .u8 0,.int .u8 0,.int .u8 0,.int .u8 0,.int .u8 0,.int .u8 0,.int .u8 0,.int .u8 0,.int .u8 0,.int .u8 0,.int .u8 0,.int .u8 0,.int .u8 0,.int .u8 0,.int .u8 0,.int .u8 0,.int .u8 0,.int .u8 0,.int .u8 0,.int .u8 0]
theorem mxV {W:World} (hsh:W.ShapedOpen Tryz.prog):Mx W:=Tryz.laysM219.s1_3 W hsh
theorem tabUpV {W : World} {rest : List (String × DataW Unit)} (h : laidMet Tryz.prog (("math/bits.deBruijn32tab", Rows.laid_math_bits_deBruijn32tab) :: ("math/bits.deBruijn64tab", Rows.laid_math_bits_deBruijn64tab) :: ("internal/strconv.uint64pow10", Rows.laid_internal_strconv_uint64pow10) :: rest) W) : TabUp W := by
 have h2:=laidMet.tail (laidMet.tail h);rw [powDataV] at h2;have ht:Tab W:=Lib.tabIs_of_head gTab gTabTypeV Tryz.underlying383 Tryz.underlying23 cells64V cells20V h2;exact ⟨ht,World.block_lt_of_cell? W ⟨0,0,none⟩ (ht.cell gTab 0 (by decide))⟩
noncomputable def setWorld (os:Os):World:=
 { World.holding Tryz.prog os ⟨#[],#[],[]⟩ with heap:=((((((World.holding Tryz.prog os ⟨#[],#[],[]⟩).heap.modify 0 fun
   | .cells _ t frozen=>.cells (Lib.pow10Tab.map (Value.int .u64)).toArray t frozen
   | o=>o).modify 2 fun
   | .cells _ t frozen=>.cells tab32 t frozen
   | o=>o).modify 3 fun
   | .cells _ t frozen=>.cells tab64 t frozen
   | o=>o).modify 5 fun
   | .cells _ t frozen=>.cells tabAccept t frozen
   | o=>o).modify 4 fun
   | .cells _ t frozen=>.cells (Go.Pinned.utf8FirstZ.map fun (n:Nat)=>Value.int .u8 (n:Int)).toArray t frozen
   | o=>o) }
end
section
open Go.RowKit Go.Shelf
open Ost (splitC)
attribute [local go_sem] Oper.semAt_some
theorem Apart.below {K:Nat→Prop} {A B:World} (h:Apart K A B) {w:World} {N:Nat} (hb:Below N w A) (hN:N≤w.heap.size) (hK:∀ j,K j→N≤j):Below N w B:=
 ⟨h.os.trans hb.os,h.tape.trans hb.tape,h.output.trans hb.output,Nat.le_trans hb.size h.size,fun j hj=>(h.block j (Nat.lt_of_lt_of_le (Nat.lt_of_lt_of_le hj hN) hb.size) (fun e=>by have:=hK j e;omega)).trans (hb.block j hj)⟩
theorem infoIntV:(Tryz.prog.info? 3).map (fun i=>(i.zero,i.size,i.bytes))=some (some (.int .i64 0),1,8):=by kernel_rfl
theorem own_slice {w:World} {base:Nat} {e:TypeId} {size:Nat} {v:Value} {n:Nat} {xs:List Value} (h:w.ownsRow base e size v n xs):∃ ao c,v=.slice ao n c:=by
 rcases h.2 with ⟨rfl,h0⟩|⟨g,cap,cur,rfl,_⟩
 ·exact ⟨none,0,by rw [h0]⟩
 ·exact ⟨_,_,rfl⟩
end
section
open Go.RowKit Go.Shelf
open Ost (splitC cut1)
open Qos (Nd nd)
open S1 (Mx)
attribute [local go_sem] Oper.semAt_some
theorem infoNeedV:(Tryz.prog.info? 109).map (fun i=>(i.zero,i.size,i.bytes))=some (some (.agg #[.string ByteArray.empty,.int .i64 0]),2,24):=by kernel_rfl
end
section
open Go.RowKit Go.Shelf
open Ost (splitC cut1)
open Qos (Nd Ct Pd nd)
open Sv (Gv wd)
open S1 (Mx)
def StrsIn (w:World) (b:Nat) (ws:List (List UInt8)):Prop:=b<w.heap.size∧∀ k,k<ws.length→w.cell? ⟨b,k,none⟩=some (.string ⟨(wd ws k).toArray⟩)
def FrV (G:(Nat→Value)→Act) (P:(Nat→Value)→World→Prop) (a:Act) (w:World):Prop:=∃ F,a=G F∧P F w
theorem set_heap {W:World} {g:Nat} {cs:Array Value} {t:TypeId} (h:W.heap[g]?=some (.cells cs t (0,0))) (i:Nat) (v:Value):(W.setCell ⟨g,i,none⟩ v).heap[g]?=some (.cells (cs.setIfInBounds i v) t (0,0)):=by
 obtain ⟨hlt,hk⟩:=Array.getElem?_eq_some_iff.1 h
 show (W.heap.modify g _)[g]?=_
 rw [Array.getElem?_eq_getElem (by rw [Array.size_modify];exact hlt),Array.getElem_modify_self,hk];rfl
def NormalAtV (R:Act→World→Prop):Exit→Act→World→Prop
 | .normal,a,w=>R a w
 | _,_,_=>False
end
section
open Go.RowKit
open Qos (Nd Ct Pd nd ct pd)
open Sv (Gv Hd gv hd)
def NeedsQ (W:World) (Q:Nat→Prop) (v:Value) (ds:List Nd):Prop:=
 ∃ ao c,v=.slice ao ds.length c∧ds.length≤maxLen∧(0<ds.length→∃ b o,ao=some ⟨b,o,none⟩∧Q b∧b<W.heap.size∧∀ k,k<ds.length→W.cell? ⟨b,o+k*2,none⟩=some (.string (nd ds k).kind)∧W.cell? ⟨b,o+k*2+1,none⟩=some (.int .i64 (nd ds k).many))
def IntsQ (W:World) (Q:Nat→Prop) (v:Value) (xs:List Int):Prop:=
 ∃ ao c,v=.slice ao xs.length c∧(xs.length≤c∧c≤maxLen)∧(0<xs.length→∃ b o,ao=some ⟨b,o,none⟩∧Q b∧b<W.heap.size∧∀ k,k<xs.length→W.cell? ⟨b,o+k,none⟩=some (.int .i64 (xs.getD k 0)))
def cCells (p:Ct × Value):List Value:=contCells p.1 p.2
def gCells (p:Gv × Value):List Value:=[.int .u64 p.1.cp,p.2]
def rowC (l:List (Ct × Value)):List Value:=l.flatMap cCells
def rowG (l:List (Gv × Value)):List Value:=l.flatMap gCells
structure Hp where
 nm:ByteArray
 pr:Int
 cl:List (Ct × Value)
 gl:List (Gv × Value)
 cv:Value
 gv:Value
def Hp.hd (p:Hp):Hd:=⟨⟨p.nm,p.pr,p.cl.map Prod.fst⟩,p.gl.map Prod.fst⟩
def hCells (p:Hp):List Value:=[.string p.nm,.int .i64 p.pr,p.cv,p.gv]
def rowH (l:List Hp):List Value:=l.flatMap hCells
def Free (base:Nat) (v:Value) (la:Hp) (j:Nat):Prop:=base≤j∧v.ownBlock≠some j∧la.cv.ownBlock≠some j∧la.gv.ownBlock≠some j
structure OneQ (W:World) (base:Nat) (Q:Nat→Prop) (p:Hp):Prop where
 rc:W.ownsRow base 63 6 p.cv p.cl.length (rowC p.cl)
 rg:W.ownsRow base 69 2 p.gv p.gl.length (rowG p.gl)
 nc:∀ x∈p.cl,NeedsQ W Q x.2 x.1.ds
 ng:∀ x∈p.gl,IntsQ W Q x.2 x.1.dv∧x.1.cp<18446744073709551616
structure HeldQ (W:World) (base:Nat) (v:Value) (el:List Hp) (la:Hp):Prop where
 row:W.ownsRow base 57 4 v (el.length+1) (rowH (el++[la]))
 hel:∀ p∈el,OneQ W base (Free base v la) p∧(∀ j,p.cv.ownBlock=some j→Free base v la j)∧(∀ j,p.gv.ownBlock=some j→Free base v la j)
 hla:OneQ W base (Free base v la) la
 vc:∀ j,la.cv.ownBlock=some j→v.ownBlock≠some j
 vg:∀ j,la.gv.ownBlock=some j→v.ownBlock≠some j
 cg:∀ j,la.cv.ownBlock=some j→la.gv.ownBlock≠some j
end
section
open Go.RowKit Go.Shelf
open Ost (splitC cut1)
open Qos (Nd Ct Pd nd)
open Sv (Gv wd)
open S1 (Mx)
theorem set_other {V:World} {B j k:Nat} {v:Value} (h:k≠B):(V.setCell ⟨B,j,none⟩ v).heap[k]?=V.heap[k]?:=Below.heap_setCell V ⟨B,j,none⟩ v k h
theorem cell_of_heapV {W:World} {B:Nat} {cs:Array Value} {t:TypeId} (h:W.heap[B]?=some (.cells cs t (0,0))) (j:Nat):W.cell? ⟨B,j,none⟩=cs[j]?:=by simp [World.cell?,h]
end
section
open Go.RowKit
open Qos (Nd Ct Pd nd ct pd)
open Sv (Gv Hd gv hd)
end
section
open Go.RowKit
open Qos (Nd Ct Pd nd ct pd)
open Sv (Gv Hd gv hd)
theorem infoContV:(Tryz.prog.info? 63).map (fun i=>(i.zero,i.size,i.bytes))=some (some (.agg #[.string ByteArray.empty,.int .i64 0,.int .i64 0,.int .i64 0,.int .i64 0,.slice none 0 0]),6,72):=by kernel_rfl
theorem infoGivenV:(Tryz.prog.info? 69).map (fun i=>(i.zero,i.size,i.bytes))=some (some (.agg #[.int .u64 0,.slice none 0 0]),2,32):=by kernel_rfl
end
section
open Go.RowKit Go.Shelf
open Ost (splitC)
open Qos (Nd Ct Pd nd ct pd)
open Sv (Gv Hd gv hd wd)
open S1 (Mx)
attribute [local go_sem] Oper.semAt_some
end
end Go.Proofs.YtbmmnflgnmjboaaGreatDoor
