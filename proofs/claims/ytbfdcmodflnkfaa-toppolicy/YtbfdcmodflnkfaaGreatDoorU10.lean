/- MW2, OMath7, VQ1, DReady, PBase, RK9, OE3, OF2, MW3, OMath8, VQ2, DBits -/
import Derived.Test.YtbfdcmodflnkfaaGreatDoorU9
import Derived.Sort.Walk0
import Derived.Laws.BitsAllLaws
import Derived.Laws.OwnMore
set_option maxRecDepth 100000
set_option maxHeartbeats 16000000
namespace Go.Proofs.YtbfdcmodflnkfaaGreatDoor
section
open Go.RowKit
open Ost (Hi Wi wi0 Low withL bet pop8 choTo choP okH within)
def Chosen (w:World) (l:List Hi) (e:Ending) (w':World):Prop:=∃ v,e=.returned v∧HintsAt w' v l∧Below w.heap.size w w'
theorem and8' (a b:Nat) (ha:a<256) (hb:b<256):bits BinOp.and IntKind.u8 (a:Int) (b:Int)=((a &&& b:Nat):Int):=by
 have hx:a &&& b<2 ^ 8:=Nat.and_lt_two_pow _ (by omega)
 have h1:(BitVec.ofInt 8 (a:Int)).toNat=a:=by
  rw [BitVec.ofInt_natCast,BitVec.toNat_ofNat];exact Nat.mod_eq_of_lt (by omega)
 have h2:(BitVec.ofInt 8 (b:Int)).toNat=b:=by
  rw [BitVec.ofInt_natCast,BitVec.toNat_ofNat];exact Nat.mod_eq_of_lt (by omega)
 show IntKind.u8.wrap ((BitVec.ofInt 8 (a:Int) &&& BitVec.ofInt 8 (b:Int)).toNat:Int)=_
 rw [BitVec.toNat_and,h1,h2]
 show ((a &&& b:Nat):Int) % 256=_
 omega
theorem oneHint (w:World) (m:Nat) (g:Bool) (t:TypeId):HintsAt (w.alloc (.cells #[.int .u8 (m:Nat),.bool g] t)) (.slice (some ⟨w.heap.size,0,none⟩) 1 1) [(m,g)]:=
 .inr ⟨w.heap.size,0,1,rfl,by simp,fun k hk=>by
  have:k=0:=by simpa using hk
  subst this
  exact ⟨by simp,by simp⟩⟩
theorem choices_free (pol:Int) (nodes:Nat) (v:Value) (w:World) (ao:Option Addr) (n c:Nat) (hv:v=.slice ao n c) :
  Calls Tryz.prog 160 #[.int .i64 pol,.int .u8 nodes,.agg #[.bool true,v]] w fun e w'=>Chosen w [(nodes,true)] e w':=by
 subst hv
 have HB:Hid (Below w.heap.size w ((w.alloc (.cells #[.bool true,.slice ao n c] 232)).alloc (.cells #[.int .u8 (nodes:Nat),.bool true] 181))):=((Below.refl _ _).alloc (Nat.le_refl _) _).alloc (by simp) _
 have HO:=oneHint (w.alloc (.cells #[.bool true,.slice ao n c] 232)) nodes true 181
 simp only [World.size_alloc] at HO
 have HO:=hZz HO
 go_enter Tryz.func160,Tryz.ntmps160
 go_wp2_with fail
 go_ret
 exact ⟨_,rfl,HO.out,HB.out⟩
theorem choices_some (pol:Int) (nodes:Nat) (v:Value) (hs:List Hi) (w:World) (hv:HintsAt w v hs) (hlow:Low hs) (hl:hs.length≤16) (hn:nodes<256) (hp:0≤pol∧pol≤3) :
  Calls Tryz.prog 160 #[.int .i64 pol,.int .u8 nodes,.agg #[.bool false,v]] w fun e w'=>Chosen w (choP pol nodes ⟨false,hs⟩) e w':=by
 obtain ⟨ao,c,rfl,hc⟩:=hv.form
 have HC:=hZz hc
 clear hc hv
 have HX:Hid (Below w.heap.size w (w.alloc (.cells #[.bool false,.slice ao hs.length c] 232))):=(Below.refl _ _).alloc (Nat.le_refl _) _
 have HLo:=hZz hlow
 clear hlow
 go_enter Tryz.func160,Tryz.ntmps160
 go_wp2_with fail
 have HO2:=hZz fun (w:World)=>oneHint w nodes false 181
 go_loopw [7,18] (fun l i wr=>∃ k:Nat,k≤hs.length∧i=.int .i64 k∧Hid (wr.ownsRow (w.heap.size+1) 181 2 l (choTo pol nodes hs k).length (hintCells (choTo pol nodes hs k)))∧Hid (Below (w.heap.size+1) (w.alloc (.cells #[.bool false,.slice ao hs.length c] 232)) wr)∧w.heap.size+1≤wr.heap.size) (fun _ i _=>hs.length - (intOf i).toNat)
 case atStart=>exact ⟨0,by omega,rfl,World.ownsRow_nil _ _ _ _,Below.refl _ _,by simp⟩
 case round=>
  obtain ⟨k,hk,rfl,HR,HB,hsz⟩:=hrel
  have hcl:=Ost.choTo_len pol nodes hs k
  by_cases hlt:k<hs.length
  ·obtain ⟨b,o,rfl,hb,hcs⟩:=HC.out (by omega)
   obtain ⟨c0,c1⟩:=hcs k hlt
   replace c0:=((HB.out.cell (p:=⟨b,o+k*2,none⟩) (by show b<w.heap.size+1;omega)).trans (HX.out.cell (p:=⟨b,o+k*2,none⟩) hb)).trans c0
   replace c1:=((HB.out.cell (p:=⟨b,o+k*2+1,none⟩) (by show b<w.heap.size+1;omega)).trans (HX.out.cell (p:=⟨b,o+k*2+1,none⟩) hb)).trans c1
   have hx:=HLo.out _ (Ost.getD_mem hs (0,false) k hlt)
   have hSt:choTo pol nodes hs (k+1)=if okH pol (hs.getD k (0,false)) then withL (choTo pol nodes hs k) (within nodes (hs.getD k (0,false))) else choTo pol nodes hs k:=rfl
   have HSt:=hZz hSt
   clear hSt hcs
   generalize hs.getD k (0,false)=x at *
   obtain ⟨m,g⟩:=x
   simp only at c0 c1 hx
   have HP:=hZz (fun w=>nodesH_any m w hx)
   have hp8:=Ost.pop8_le m
   have hand:=and8' m nodes hx hn
   have HBa:=hZz (HB.out.alloc hsz (.cells #[.int .u8 (m:Nat),.bool g] 181))
   have HRa:=hZz (HR.out.alloc (.cells #[.int .u8 (m:Nat),.bool g] 181))
   have HW:=hZz fun v'=>with_any (w.heap.size+1) v' (choTo pol nodes hs k) (within nodes (m,g)) (wr.alloc (.cells #[.int .u8 (m:Nat),.bool g] 181))
   unfold vH within at HW
   obtain ⟨ao2,c2,rfl⟩:=row_slice HR.out
   rcases two (decide (pol=3)) with hpol|hpol
   ·have hpol:=of_decide_eq_true hpol
    subst hpol
    rcases two g with hg|hg
    ·subst hg
     by_cases hpm:pop8 m=1
     ·have hok:Hid (okH 3 (m,true)=true):=by unfold Hid okH;simp [hpm]
      have hpm2:((pop8 m:Int) == 1)=true:=by rw [beq_iff_eq];omega
      clear hpm
      generalize pop8 m=p at *
      go_wp2_with fail
      refine (HP.out _).mono ?_
      rintro e w5 ⟨rfl,hw5⟩
      subst w5
      go_wp2_with fail
      refine (HW.out _ HRa.out (by omega) (by simp;omega)).mono ?_
      rintro e w2 ⟨v2,rfl,hr2,hb2⟩
      have HR2:=hZz hr2
      have HB2:=hZz (HBa.out.trans hb2)
      have hsz2:w.heap.size+1≤w2.heap.size:=Nat.le_trans (by simp;omega) hb2.size
      obtain ⟨ao3,c3,rfl⟩:=row_slice HR2.out
      clear hr2 hb2 HW HRa HBa HR HB c0 c1
      go_wp2_with fail
      go_roundw
      case rel=>exact ⟨k+1,by omega,by go_num,by rw [HSt.out,if_pos hok.out];exact HR2.out,HB2.out,hsz2⟩
      case measure=>simp [intOf];omega
     ·have hok:Hid (¬ okH 3 (m,true)=true):=by unfold Hid okH;simp [hpm]
      have hpm2:((pop8 m:Int) == 1)=false:=by rw [beq_eq_false_iff_ne];omega
      clear hpm
      generalize pop8 m=p at *
      go_wp2_with fail
      refine (HP.out _).mono ?_
      rintro e w5 ⟨rfl,hw5⟩
      subst w5
      go_wp2_with fail
      go_roundw
      case rel=>exact ⟨k+1,by omega,by go_num,by rw [HSt.out,if_neg hok.out];exact HRa.out,HBa.out,by simp;omega⟩
      case measure=>simp [intOf];omega
    ·subst hg
     have hok:Hid (¬ okH 3 (m,false)=true):=by unfold Hid okH;simp
     go_wp2_with fail
     go_roundw
     case rel=>exact ⟨k+1,by omega,by go_num,by rw [HSt.out,if_neg hok.out];exact HRa.out,HBa.out,by simp;omega⟩
     case measure=>simp [intOf];omega
   ·have hpol:=of_decide_eq_false hpol
    have hok:Hid (okH pol (m,g)=true):=by unfold Hid okH;rw [decide_eq_true (by omega)];rfl
    have hpol2:(pol == 3)=false:=by rw [beq_eq_false_iff_ne];exact hpol
    go_wp2_with fail
    refine (HW.out _ HRa.out (by omega) (by simp;omega)).mono ?_
    rintro e w2 ⟨v2,rfl,hr2,hb2⟩
    have HR2:=hZz hr2
    have HB2:=hZz (HBa.out.trans hb2)
    have hsz2:w.heap.size+1≤w2.heap.size:=Nat.le_trans (by simp;omega) hb2.size
    obtain ⟨ao3,c3,rfl⟩:=row_slice HR2.out
    clear hr2 hb2 HW HRa HBa HR HB c0 c1
    go_wp2_with fail
    go_roundw
    case rel=>exact ⟨k+1,by omega,by go_num,by rw [HSt.out,if_pos hok.out];exact HR2.out,HB2.out,hsz2⟩
    case measure=>simp [intOf];omega
  ·have hkl:k=hs.length:=by omega
   subst hkl
   have hEq:choP pol nodes ⟨false,hs⟩=if (choTo pol nodes hs hs.length).length=0 then [(nodes,false)] else choTo pol nodes hs hs.length:=rfl
   obtain ⟨ao2,c2,rfl⟩:=row_slice HR.out
   have HBe:=hZz (HX.out.trans (HB.out.mono (by omega)))
   have hsz':w.heap.size≤wr.heap.size:=by omega
   by_cases h0:(choTo pol nodes hs hs.length).length=0
   ·rw [if_pos h0] at hEq
    have hEq:=hZz hEq
    have HH:=hZz (HO2.out wr)
    go_wp2_with fail
    go_ret
    exact ⟨_,rfl,by rw [hEq.out];exact HH.out,HBe.out.alloc hsz' _⟩
   ·rw [if_neg h0] at hEq
    have hEq:=hZz hEq
    have h0':((((choTo pol nodes hs hs.length).length:Nat):Int) == 0)=false:=by rw [beq_eq_false_iff_ne];omega
    have HH:=hZz (HintsAt.of_row HR.out)
    generalize choTo pol nodes hs hs.length=l at *
    go_wp2_with fail
    go_ret
    exact ⟨_,rfl,by rw [hEq.out];exact HH.out,HBe.out⟩
theorem choices_any (pol:Int) (nodes:Nat) (any:Bool) (v:Value) (hs:List Hi) (w:World) (hv:HintsAt w v hs) (hlow:Low hs) (hl:hs.length≤16) (hn:nodes<256) (hp:0≤pol∧pol≤3) :
  Calls Tryz.prog 160 #[.int .i64 pol,.int .u8 nodes,.agg #[.bool any,v]] w fun e w'=>Chosen w (choP pol nodes ⟨any,hs⟩) e w':=by
 cases any
 ·exact choices_some pol nodes v hs w hv hlow hl hn hp
 ·obtain ⟨ao,c,hv',_⟩:=hv.form
  exact choices_free pol nodes v w ao _ c hv'
end
section
namespace Ol
open Dvs (first first_all first_none)
open Qos (Pd podF leS)
open Sv (Gv Hd gv hd heldF oneF behindF lowAt gsF mem_hd)
def nmLt (a b:ByteArray):Prop:=a.toList<b.toList
theorem nmLt_irrefl (a:ByteArray):¬ nmLt a a:=List.lt_irrefl _
theorem nmLt_trans {a b c:ByteArray} (h:nmLt a b) (k:nmLt b c):nmLt a c:=List.lt_trans h k
theorem nmLt_total {a b:ByteArray} (h:a≠b):nmLt a b∨nmLt b a:=by
 unfold nmLt
 by_cases h1:a.toList<b.toList
 ·exact .inl h1
 ·by_cases h2:b.toList<a.toList
  ·exact .inr h2
  ·exfalso
   have e:a.toList=b.toList:=List.le_antisymm h2 h1
   rw [ByteArray.toList_eq,ByteArray.toList_eq] at e
   exact h (ByteArray.ext (Array.toList_inj.1 e))
theorem leS_no {a b:ByteArray}:leS a b=false↔nmLt b a:=by
 unfold leS nmLt
 rw [Go.Proofs.bytesLess_eq,Bool.or_eq_false_iff,decide_eq_false_iff_not,beq_eq_false_iff_ne]
 constructor
 ·rintro ⟨h1,h2⟩
  have:a≠b:=fun e=>h2 (by rw [e])
  rcases nmLt_total this with h|h
  ·exact absurd h h1
  ·exact h
 ·intro h
  exact ⟨fun k=>List.lt_irrefl _ (List.lt_trans h k),fun e=>by rw [e] at h;exact List.lt_irrefl _ h⟩
def Rising (hs:List Hd):Prop:=hs.Pairwise fun a b=>nmLt a.pod.nm b.pod.nm
theorem low_no {hs:List Hd} {i:Nat} (h:i+1<hs.length):lowAt hs (i+1)=false↔nmLt (hs[i]'(by omega)).pod.nm hs[i+1].pod.nm:=by
 unfold lowAt
 rw [decide_eq_true (by omega),Bool.true_and,leS_no]
 have e1:hd hs (i+1)=hs[i+1]:=by simp [hd,h]
 have e2:hd hs (i+1 - 1)=hs[i]'(by omega):=by simp [hd,show i<hs.length by omega]
 rw [e1,e2]
theorem rising_iff {hs:List Hd}:Rising hs↔∀ i,i<hs.length→lowAt hs i=false:=by
 constructor
 ·intro h i hi
  cases i with
  | zero=>rfl
  | succ i=>exact (low_no hi).2 (List.pairwise_iff_getElem.1 h i (i+1) (by omega) hi (by omega))
 ·intro h
  have key:∀ d i (hi:i+d+1<hs.length),nmLt (hs[i]'(by omega)).pod.nm hs[i+d+1].pod.nm:=by
   intro d
   induction d with
   | zero=>intro i hi;exact (low_no hi).1 (h _ hi)
   | succ d ih=>
    intro i hi
    exact nmLt_trans (ih i (by omega)) ((low_no hi).1 (h _ hi))
  refine List.pairwise_iff_getElem.2 fun i j hi hj hij=>?_
  obtain ⟨d,rfl⟩:∃ d,j=i+d+1:=⟨j - i - 1,by omega⟩
  exact key d i hj
theorem heldF_iff {hs:List Hd}:heldF hs=0↔hs.length≤12∧(∀ h∈hs,podF h.pod=0∧h.gs.length=h.pod.cs.length∧gsF h.gs=0)∧Rising hs:=by
 unfold heldF
 by_cases h12:12<hs.length
 ·rw [if_pos h12]
  exact ⟨fun h=>(by cases h),fun h=>(by omega)⟩
 ·rw [if_neg h12]
  have one:∀ (h:Hd) (b:Bool),behindF h b=0↔podF h.pod=0∧b=false∧h.gs.length=h.pod.cs.length∧gsF h.gs=0:=by
   intro h b
   unfold behindF
   by_cases h1:podF h.pod≠0
   ·rw [if_pos h1]
    exact ⟨fun e=>absurd e h1,fun e=>e.1⟩
   ·rw [if_neg h1]
    by_cases h2:b=true∨h.gs.length≠h.pod.cs.length
    ·rw [if_pos h2]
     refine ⟨fun e=>(by cases e),fun e=>?_⟩
     rcases h2 with h2|h2
     ·rw [e.2.1] at h2;cases h2
     ·exact absurd e.2.2.1 h2
    ·rw [if_neg h2]
     have h3:b=false∧h.gs.length=h.pod.cs.length:=⟨Bool.not_eq_true _ ▸ fun e=>h2 (.inl e),Classical.byContradiction fun e=>h2 (.inr e)⟩
     exact ⟨fun e=>⟨by omega,h3.1,h3.2,e⟩,fun e=>e.2.2.2⟩
  constructor
  ·intro h
   have hall:=first_all h
   refine ⟨by omega,fun x hx=>?_,rising_iff.2 fun i hi=>((one _ _).1 (hall i hi)).2.1⟩
   obtain ⟨k,hk,rfl⟩:=Sv.hd_in hx
   have:=(one _ _).1 (hall k hk)
   exact ⟨this.1,this.2.2.1,this.2.2.2⟩
  ·rintro ⟨_,h1,h2⟩
   refine first_none fun k hk=>?_
   have:=h1 _ (mem_hd hk)
   exact (one _ _).2 ⟨this.1,rising_iff.1 h2 k hk,this.2.1,this.2.2⟩
def atOf (hs:List Hd) (nm:ByteArray):Nat:=hs.countP fun h=>decide (h.pod.nm.toList<nm.toList)
def insertH (hs:List Hd) (x:Hd):List Hd:=hs.take (atOf hs x.pod.nm)++x :: hs.drop (atOf hs x.pod.nm)
theorem insert_perm (hs:List Hd) (x:Hd):(hs++[x]).Perm (insertH hs x):=by
 unfold insertH
 have h1:(hs++[x]).Perm (x :: hs):=List.perm_append_singleton x hs
 have h2:(x :: hs).Perm (x :: (hs.take (atOf hs x.pod.nm)++hs.drop (atOf hs x.pod.nm))):=by rw [List.take_append_drop]
 exact h1.trans (h2.trans List.perm_middle.symm)
theorem at_split {hs:List Hd} (h:Rising hs) (nm:ByteArray):(∀ y∈hs.take (atOf hs nm),nmLt y.pod.nm nm)∧∀ y∈hs.drop (atOf hs nm),¬ nmLt y.pod.nm nm:=by
 induction hs with
 | nil=>exact ⟨fun y hy=>by simp [atOf] at hy,fun y hy=>by simp [atOf] at hy⟩
 | cons x r ih=>
  obtain ⟨h1,h2⟩:=List.pairwise_cons.1 h
  obtain ⟨i1,i2⟩:=ih h2
  by_cases hx:x.pod.nm.toList<nm.toList
  ·have e:atOf (x :: r) nm=atOf r nm+1:=by unfold atOf;rw [List.countP_cons_of_pos (by simpa using hx)]
   rw [e,List.take_succ_cons,List.drop_succ_cons]
   refine ⟨fun y hy=>?_,i2⟩
   rcases List.mem_cons.1 hy with rfl|hy
   ·exact hx
   ·exact i1 y hy
  ·have hr:∀ y∈r,¬ nmLt y.pod.nm nm:=fun y hy hn=>hx (nmLt_trans (h1 y hy) hn)
   have e:atOf (x :: r) nm=0:=by
    unfold atOf
    rw [List.countP_eq_zero]
    intro y hy
    rcases List.mem_cons.1 hy with rfl|hy
    ·simpa using hx
    ·have:=hr y hy;unfold nmLt at this;simpa using this
   rw [e]
   refine ⟨fun y hy=>by simp at hy,fun y hy=>?_⟩
   rw [List.drop_zero] at hy
   rcases List.mem_cons.1 hy with rfl|hy
   ·exact hx
   ·exact hr y hy
theorem insert_rising {hs:List Hd} {x:Hd} (h:Rising hs) (hn:∀ y∈hs,y.pod.nm≠x.pod.nm):Rising (insertH hs x):=by
 obtain ⟨h1,h2⟩:=at_split h x.pod.nm
 have hsub:=h
 unfold Rising insertH at *
 rw [← List.take_append_drop (atOf hs x.pod.nm) hs,List.pairwise_append] at hsub
 obtain ⟨p1,p2,p3⟩:=hsub
 have hgt:∀ y∈hs.drop (atOf hs x.pod.nm),nmLt x.pod.nm y.pod.nm:=fun y hy=>by
  rcases nmLt_total (hn y (List.mem_of_mem_drop hy)) with k|k
  ·exact absurd k (h2 y hy)
  ·exact k
 rw [List.pairwise_append,List.pairwise_cons]
 refine ⟨p1,⟨hgt,p2⟩,fun a ha b hb=>?_⟩
 rcases List.mem_cons.1 hb with rfl|hb
 ·exact h1 a ha
 ·exact p3 a ha b hb
end Ol
end
section
open Go.RowKit
open Qos (Nd Ct Pd nd ct pd)
open Sv (Gv Hd gv hd)
def NeedsQ (W:World) (Q:Nat→Prop) (v:Value) (ds:List Nd):Prop:=
 ∃ ao c,v=.slice ao ds.length c∧ds.length≤maxLen∧(0<ds.length→∃ b o,ao=some ⟨b,o,none⟩∧Q b∧b<W.heap.size∧∀ k,k<ds.length→W.cell? ⟨b,o+k*2,none⟩=some (.string (nd ds k).kind)∧W.cell? ⟨b,o+k*2+1,none⟩=some (.int .i64 (nd ds k).many))
def IntsQ (W:World) (Q:Nat→Prop) (v:Value) (xs:List Int):Prop:=
 ∃ ao c,v=.slice ao xs.length c∧(xs.length≤c∧c≤maxLen)∧(0<xs.length→∃ b o,ao=some ⟨b,o,none⟩∧Q b∧b<W.heap.size∧∀ k,k<xs.length→W.cell? ⟨b,o+k,none⟩=some (.int .i64 (xs.getD k 0)))
def cCells (p:Ct × Value):List Value:=contCells p.1 p.2
def gCells (p:Gv × Value):List Value:=[.int .u64 p.1.cp,p.2]
def rowC (l:List (Ct × Value)):List Value:=l.flatMap cCells
def rowG (l:List (Gv × Value)):List Value:=l.flatMap gCells
structure Hp where
 nm:ByteArray
 pr:Int
 cl:List (Ct × Value)
 gl:List (Gv × Value)
 cv:Value
 gv:Value
def Hp.hd (p:Hp):Hd:=⟨⟨p.nm,p.pr,p.cl.map Prod.fst⟩,p.gl.map Prod.fst⟩
def hCells (p:Hp):List Value:=[.string p.nm,.int .i64 p.pr,p.cv,p.gv]
def rowH (l:List Hp):List Value:=l.flatMap hCells
def Free (base:Nat) (v:Value) (la:Hp) (j:Nat):Prop:=base≤j∧v.ownBlock≠some j∧la.cv.ownBlock≠some j∧la.gv.ownBlock≠some j
structure OneQ (W:World) (base:Nat) (Q:Nat→Prop) (p:Hp):Prop where
 rc:W.ownsRow base 64 6 p.cv p.cl.length (rowC p.cl)
 rg:W.ownsRow base 69 2 p.gv p.gl.length (rowG p.gl)
 nc:∀ x∈p.cl,NeedsQ W Q x.2 x.1.ds
 ng:∀ x∈p.gl,IntsQ W Q x.2 x.1.dv∧x.1.cp<18446744073709551616
structure HeldQ (W:World) (base:Nat) (v:Value) (el:List Hp) (la:Hp):Prop where
 row:W.ownsRow base 60 4 v (el.length+1) (rowH (el++[la]))
 hel:∀ p∈el,OneQ W base (Free base v la) p∧(∀ j,p.cv.ownBlock=some j→Free base v la j)∧(∀ j,p.gv.ownBlock=some j→Free base v la j)
 hla:OneQ W base (Free base v la) la
 vc:∀ j,la.cv.ownBlock=some j→v.ownBlock≠some j
 vg:∀ j,la.gv.ownBlock=some j→v.ownBlock≠some j
 cg:∀ j,la.cv.ownBlock=some j→la.gv.ownBlock≠some j
end
section
open Go.RowKit
open Dvs (Dv dv0 dv nth fits near nearP sel Nodes)
theorem bitD (m n:Nat) (hm:m<256):(bits BinOp.and IntKind.u8 ((m:Int) / 2 ^ n) 1 == 1)=m.testBit n:=by
 have e:((m:Int) / 2 ^ n)=((m / 2 ^ n:Nat):Int):=by simp
 have hlt:m / 2 ^ n<256:=Nat.lt_of_le_of_lt (Nat.div_le_self _ _) hm
 rw [e,Nat.testBit_eq_decide_div_mod_eq]
 generalize m / 2 ^ n=q at hlt
 have key:∀ q:Fin 256,(bits BinOp.and IntKind.u8 ((q.val:Nat):Int) 1 == 1)=decide (q.val % 2=1):=by decide +kernel
 exact key ⟨q,hlt⟩
theorem infoIntD:(Tryz.prog.info? 3).map (fun i=>(i.zero,i.size,i.bytes))=some (some (.int .i64 0),1,8):=by kernel_rfl
def numsV (l:List Nat):List Value:=l.map fun (n:Nat)=>Value.int .i64 (n:Int)
theorem numsV_snoc (l:List Nat) (n:Nat):numsV (l++[n])=numsV l++[.int .i64 n]:=by simp [numsV]
theorem numsV_len (l:List Nat):(numsV l).length=l.length:=by simp [numsV]
def ints (l:List Nat):List Int:=l.map fun (n:Nat)=>(n:Int)
theorem ints_len (l:List Nat):(ints l).length=l.length:=by simp [ints]
def Row (w:World) (B:Nat) (v:Value) (l:List Nat):Prop:=w.ownsRow B 3 1 v l.length (numsV l)
theorem fits_no1 {ds:List Dv} {us:Nat→Bool} {kind:ByteArray} {k:Nat} (h:¬ (dv ds k).kind=kind):fits ds us kind k=false:=by rw [fits,decide_eq_false h];rfl
theorem fits_no2 {ds:List Dv} {us:Nat→Bool} {kind:ByteArray} {k:Nat} (h:(dv ds k).sick=true):fits ds us kind k=false:=by rw [fits,h];simp
theorem fits_no3 {ds:List Dv} {us:Nat→Bool} {kind:ByteArray} {k:Nat} (h:us k=true):fits ds us kind k=false:=by rw [fits,h];simp
theorem fits_yes {ds:List Dv} {us:Nat→Bool} {kind:ByteArray} {k:Nat} (h:(dv ds k).kind=kind) (h2:(dv ds k).sick=false) (h3:us k=false):fits ds us kind k=true:=by rw [fits,h2,h3,decide_eq_true h];rfl
theorem nearP_of {ds:List Dv} {us:Nat→Bool} {kind:ByteArray} {m k:Nat} {b:Bool} (h:fits ds us kind k=true) (hb:near ds m k=b):nearP ds us kind m k=b:=by rw [nearP,h,hb];rfl
theorem nearP_no {ds:List Dv} {us:Nat→Bool} {kind:ByteArray} {m k:Nat} (h:fits ds us kind k=false):nearP ds us kind m k=false:=by rw [nearP,h];rfl
theorem cell_one_new1 (w:World) (o:Obj) (x:Value) (t:TypeId):∀ j u,[x][j]?=some u→((w.alloc o).alloc (.cells #[x] t)).cell? ((⟨w.heap.size+1,0,none⟩:Addr).add j)=some u:=by
 have h:=cell_one_new (w.alloc o) x t
 rwa [show (w.alloc o).heap.size=w.heap.size+1 by simp] at h
theorem ready_any (kind:ByteArray) (M:Nat) (w:World) (pb db:Nat) (ao:Option Addr) (c:Nat) (ds:List Dv) (us:Nat→Bool) (h:PoolAt w pb db ao c ds us) (hN:Nodes ds) (hM:M<256) :
  Calls Tryz.prog 137 #[.pointer (some ⟨pb,0,none⟩),.string kind,.int .u8 M] w fun e w'=>∃ v,e=.returned v∧Row w' w.heap.size v (sel (nearP ds us kind M) ds.length)∧Below w.heap.size w w':=by
 obtain ⟨i0,hi,hz0,hz1,hz2⟩:=info_parts infoIntD
 have hrow:=h.row
 have HN:=hZz hN
 have HP:=hZz h
 clear h hN
 go_enter Tryz.func137,Tryz.ntmps137
 go_wp2_with fail
 go_loopw [7,15] (fun v i wr=>∃ k:Nat,k≤ds.length∧i=.int .i64 k∧Row wr w.heap.size v (sel (nearP ds us kind M) k)∧PoolAt wr pb db ao c ds us∧Below w.heap.size w wr) (fun _ i _=>ds.length - (intOf i).toNat)
 case atStart=>exact ⟨0,by omega,rfl,World.ownsRow_nil _ _ _ _,HP.out,Below.refl _ _⟩
 case round=>
  obtain ⟨k,hk,rfl,hr,hP,hB⟩:=hrel
  by_cases hlt:k<ds.length
  ·have hk16:k<16:=by have:=HN.out.1;omega
   obtain ⟨rfl,hdp,_⟩:=hP.at0 (by omega)
   obtain ⟨c0,c1,c2,_⟩:=hP.cells k hlt
   obtain ⟨n0,n3⟩:=HN.out.2 k hlt
   obtain ⟨m,hm⟩:=Int.eq_ofNat_of_zero_le n0
   have hm4:m<4:=by omega
   have H1:=hZz (fun hh=>fits_no1 (us:=us) (kind:=kind) (k:=k) (ds:=ds) hh)
   have H2:=hZz (fun hh=>fits_no2 (us:=us) (kind:=kind) (k:=k) (ds:=ds) hh)
   have H4:=hZz (fun h1 h2 h3=>fits_yes (us:=us) (kind:=kind) (k:=k) (ds:=ds) h1 h2 h3)
   have HNr:Hid (near ds M k=M.testBit m):=by unfold Hid near;rw [hm];rfl
   have hS0:=hZz (fun hh=>Dvs.sel_no (p:=nearP ds us kind M) (n:=k) hh)
   have hS1:=hZz (fun hh=>Dvs.sel_yes (p:=nearP ds us kind M) (n:=k) hh)
   have hsl:=Dvs.sel_le (nearP ds us kind M) k
   rw [hm] at c1
   generalize (dv ds k).kind=xk at *
   generalize (dv ds k).sick=xs at *
   have hB1:=hZz (hB.alloc hB.size (.cells #[.string xk,.int .i64 m,.bool xs] 74))
   have hP1:=hZz (hP.alloc (.cells #[.string xk,.int .i64 m,.bool xs] 74))
   have hr1:=hZz (hr.alloc (.cells #[.string xk,.int .i64 m,.bool xs] 74))
   have hu:=(hP1.out.used k hk16).1
   have hsz:=hB.size
   clear hr hP hB
   by_cases hkk:xk=kind
   ·subst hkk
    rcases two xs with hs|hs
    ·subst hs
     have HS:Hid (sel (nearP ds us xk M) (k+1)=_):=hS0.out (nearP_no (H2.out rfl))
     clear H1 H2 H4 hS0 hS1
     go_wp2_with fail
     go_roundw
     case rel=>exact ⟨k+1,by omega,by go_num,by rw [HS.out];exact hr1.out,hP1.out,hB1.out⟩
     case measure=>simp [intOf];omega
    ·subst hs
     rcases two (us k) with hus|hus
     ·have HS:Hid (sel (nearP ds us xk M) (k+1)=_):=hS0.out (nearP_no (fits_no3 hus))
      rw [hus] at hu
      clear H1 H2 H4 hS0 hS1 hus
      go_wp2_with fail
      go_roundw
      case rel=>exact ⟨k+1,by omega,by go_num,by rw [HS.out];exact hr1.out,hP1.out,hB1.out⟩
      case measure=>simp [intOf];omega
     ·have hft:=H4.out rfl rfl hus
      rw [hus] at hu
      have hbit:=bitD M m hM
      rcases two (M.testBit m) with hb|hb
      ·have HS:Hid (sel (nearP ds us xk M) (k+1)=_):=hS1.out (nearP_of hft (HNr.out.trans hb))
       rw [hb] at hbit
       clear H1 H2 H4 hS0 hS1 hus hft HNr hb
       go_wp2_with (at_builtin;refine wpList_append_own _ rfl _ _ 67 rfl w.heap.size 3 i0 (.int .i64 0) 1 8 Tryz.underlying67 hi hz0 hz1 hz2 rfl (by decide) _ _ _ rfl (hr1.out.alloc _) ⟨_,0,none⟩ 1 1 [.int .i64 k] rfl rfl (cell_one_new1 _ _ _ _) (ints_oneCell .i64 [(k:Int)]) (by unfold maxLen;omega) (by omega) (by simp;omega) ?_;intro v' w1 hown' hgrow' _)
       go_roundw
       case rel=>
        refine ⟨k+1,by omega,by go_num,?_,?_,?_⟩
        ·rw [HS.out,Row,numsV_snoc,List.length_append];exact hown'
        ·refine (hP1.out.alloc _).kept hgrow' (fun e=>?_) (fun h0 e=>?_)
         ·have:=(hr1.out.lt pb e.symm).1;have:=HP.out.lt;omega
         ·have:=(hr1.out.lt db e.symm).1;have:=(HP.out.at0 h0).2.2;omega
        ·exact (hB1.out.alloc hB1.out.size _).grown hgrow' (by have:=hB1.out.size;simp at this ⊢;omega) (fun j hj=>(hr1.out.lt j hj).1)
       case measure=>simp [intOf];omega
      ·have HS:Hid (sel (nearP ds us xk M) (k+1)=_):=hS0.out (nearP_of hft (HNr.out.trans hb))
       rw [hb] at hbit
       clear H1 H2 H4 hS0 hS1 hus hft HNr hb
       go_wp2_with fail
       go_roundw
       case rel=>exact ⟨k+1,by omega,by go_num,by rw [HS.out];exact hr1.out,hP1.out,hB1.out⟩
       case measure=>simp [intOf];omega
   ·have HS:Hid (sel (nearP ds us kind M) (k+1)=_):=hS0.out (nearP_no (H1.out hkk))
    have hkk2:=toList_ne hkk
    clear H1 H2 H4 hS0 hS1 hkk
    go_wp2_with fail
    go_roundw
    case rel=>exact ⟨k+1,by omega,by go_num,by rw [HS.out];exact hr1.out,hP1.out,hB1.out⟩
    case measure=>simp [intOf];omega
  ·have hke:k=ds.length:=by omega
   subst hke
   have hr1:=hZz hr
   have hB1:=hZz hB
   clear hr hB hP
   go_wp2_with fail
   go_ret
   exact ⟨_,rfl,hr1.out,hB1.out⟩
end
section
open Go.RowKit
open Ost (cnt dif)
theorem andNot64 (A B:Nat) (hA:A<18446744073709551616) (hB:B<18446744073709551616):bits BinOp.andNot IntKind.u64 (A:Int) (B:Int)=((dif A B:Nat):Int):=by
 rw [u64_andNot_nat A B hA hB]
 have key:A &&& (18446744073709551615 - B)=dif A B:=by
  apply Nat.eq_of_testBit_eq
  intro i
  rw [Nat.testBit_and,Ost.dif_bit]
  by_cases hi:i<64
  ·have e:(18446744073709551615 - B).testBit i=!B.testBit i:=by
    have:=Nat.testBit_two_pow_sub_succ (n:=64) hB i
    rw [show 2 ^ 64 - (B+1)=18446744073709551615 - B by omega] at this
    rw [this,decide_eq_true hi];simp
   rw [e]
  ·have:A.testBit i=false:=Nat.testBit_lt_two_pow (Nat.lt_of_lt_of_le hA (Nat.pow_le_pow_right (n:=2) (by omega) (show 64≤i by omega)))
   rw [this];simp
 rw [key]
theorem dif_zero_iff (A B:Nat):dif A B=0↔A &&& B=A:=by
 rw [Ost.sub_iff]
 constructor
 ·intro h i hi
  have e:(dif A B).testBit i=false:=by rw [h,Nat.zero_testBit]
  rw [Ost.dif_bit,hi] at e
  simpa using e
 ·intro h
  apply Nat.eq_of_testBit_eq
  intro i
  rw [Ost.dif_bit,Nat.zero_testBit]
  cases hA:A.testBit i with
  | false=>rfl
  | true=>rw [h i hA];rfl
theorem andNot_zero (A B:Nat) (hA:A<18446744073709551616) (hB:B<18446744073709551616):(bits BinOp.andNot IntKind.u64 (A:Int) (B:Int) == 0)=decide (A &&& B=A):=by
 rw [andNot64 A B hA hB,Bool.eq_iff_iff,beq_iff_eq,decide_eq_true_eq,← dif_zero_iff]
 omega
theorem inside_any (A B:Nat) (w:World) (hA:A<18446744073709551616) (hB:B<18446744073709551616) :
  Calls Tryz.prog 91 #[.int .u64 A,.int .u64 B] w fun e w'=>e=.returned (.bool (decide (A &&& B=A)))∧w'=w:=by
 have H:=hZz (andNot_zero A B hA hB)
 go_enter Tryz.func91,Tryz.ntmps91
 go_wp2_with fail
 go_ret
 exact ⟨congrArg (fun b=>Ending.returned (.bool b)) H.out,rfl⟩
theorem infoInt:(Tryz.prog.info? 3).map (fun i=>(i.zero,i.size,i.bytes))=some (some (.int .i64 0),1,8):=by kernel_rfl
def nums (l:List Nat):List Value:=l.map fun (n:Nat)=>Value.int .i64 (n:Int)
theorem nums_snoc (l:List Nat) (n:Nat):nums (l++[n])=nums l++[.int .i64 n]:=by simp [nums]
theorem listTo_le (A k:Nat):(Ost.listTo A k).length≤k:=by
 unfold Ost.listTo
 exact Nat.le_trans (List.length_filter_le _ _) (by simp)
theorem list_any (A:Nat) (w:World) (hA:A<18446744073709551616) :
  Calls Tryz.prog 203 #[.int .u64 A] w fun e w'=>∃ v,e=.returned v∧w'.ownsRow w.heap.size 3 1 v (Ost.listTo A 64).length (nums (Ost.listTo A 64))∧Below w.heap.size w w':=by
 obtain ⟨i0,hi,hz0,hz1,hz2⟩:=info_parts infoInt
 go_enter Tryz.func203,Tryz.ntmps203
 go_wp2_with fail
 go_loopw [3,5] (fun v i wr=>∃ k:Nat,k≤64∧i=.int .i64 k∧wr.ownsRow w.heap.size 3 1 v (Ost.listTo A k).length (nums (Ost.listTo A k))∧Below w.heap.size w wr) (fun _ i _=>64 - (intOf i).toNat)
 case atStart=>exact ⟨0,by omega,rfl,World.ownsRow_nil _ _ _ _,Below.refl _ _⟩
 case round=>
  obtain ⟨k,hk,rfl,hrow,hnx⟩:=hrel
  by_cases hlt:k<64
  ·have hle:=listTo_le A k
   have hsz:=hnx.size
   by_cases hb:A.testBit k=true
   ·have HS:Hid (Ost.listTo A (k+1)=Ost.listTo A k++[k]):=by unfold Hid;rw [Ost.listTo_succ,if_pos hb]
    have HI:=has_in A k wr hA hlt
    rw [hb] at HI
    have HI2:Hid (Calls Tryz.prog 156 #[.int .u64 A,.int .i64 k] wr fun e w'=>e=.returned (.bool true)∧w'=wr):=HI
    clear HI hb
    go_wp2_with (first
     | (go_at_call 156;refine HI2.out.mono ?_;rintro e w' ⟨rfl,rfl⟩)
     | (at_builtin;refine wpList_append_own _ rfl _ _ 67 rfl w.heap.size 3 i0 (.int .i64 0) 1 8 Tryz.underlying67 hi hz0 hz1 hz2 rfl (by decide) _ _ _ rfl (hrow.alloc _) ⟨_,0,none⟩ 1 1 [.int .i64 k] rfl rfl (cell_one_new _ _ _) (ints_oneCell .i64 [(k:Int)]) (by unfold maxLen;omega) (by omega) (by simp;omega) ?_;intro v' w1 hown' hgrow' _))
    go_roundw
    case rel=>
     refine ⟨k+1,by omega,by go_num,?_,?_⟩
     ·rw [HS.out,nums_snoc,List.length_append];exact hown'
     ·exact (hnx.alloc hsz _).grown hgrow' (by simp;omega) (fun j hj=>(hrow.lt j hj).1)
    case measure=>simp [intOf];omega
   ·have hb':A.testBit k=false:=by simpa using hb
    have HS:Hid (Ost.listTo A (k+1)=Ost.listTo A k):=by unfold Hid;rw [Ost.listTo_succ,if_neg hb]
    have HI:=has_in A k wr hA hlt
    rw [hb'] at HI
    have HI2:Hid (Calls Tryz.prog 156 #[.int .u64 A,.int .i64 k] wr fun e w'=>e=.returned (.bool false)∧w'=wr):=HI
    clear HI hb hb'
    go_wp2_with (go_at_call 156;refine HI2.out.mono ?_;rintro e w' ⟨rfl,rfl⟩)
    go_roundw
    case rel=>
     refine ⟨k+1,by omega,by go_num,?_,hnx⟩
     rw [HS.out];exact hrow
    case measure=>simp [intOf];omega
  ·have hk64:k=64:=by omega
   subst hk64
   clear hk hlt
   go_wp2_with fail
   go_ret
   exact ⟨_,rfl,hrow,hnx⟩
end
section
open Go.RowKit
theorem devs_away {w w':World} {y:RV} {g:Nat} (h:DevsOk w y) (ha:Away g y) (hk:∀ b,b≠g→b<w.heap.size→w'.heap[b]?=w.heap[b]?) (hs:w.heap.size≤w'.heap.size):DevsOk w' y∧devsOf w' y=devsOf w y:=by
 by_cases h0:0<y.dn
 ·exact devs_kept h (fun g' o' e hg=>hk g' (ha h0 g' o' e) hg) hs
 ·have e0:y.dn=0:=by omega
  exact ⟨fun h1=>absurd h1 h0,by simp [devsOf,e0]⟩
theorem list_end {w w':World} {ys qs:List RV} (hl:ys.length=qs.length) (h:∀ j,j<qs.length→absR w' (rv ys j)=absR w (rv qs j)):ys.map (absR w')=qs.map (absR w):=by
 apply List.ext_getElem
 ·simp [hl]
 ·intro i h1 h2
  have hi:i<ys.length:=by simpa using h1
  have hi2:i<qs.length:=by omega
  have:=h i hi2
  simp [rv,hi,hi2] at this
  simpa using this
end
section
open Go.RowKit
theorem list_own (Be Bd Bm nn:Nat) (xs:List RV) (w:World) (he:EngAt w Be Bd Bm) (hm:MapR w Bm nn xs) (hl:xs.length≤1000) (hd:∀ x∈xs,DevsOk w x∧x.dn≤1000) :
  Calls Tryz.prog 73 #[.pointer (some ⟨Be,0,none⟩)] w fun e w'=>(∃ v ys,e=.returned v∧RunsAt w.heap.size w' v ys∧(∀ y∈ys,(DevsOk w' y∧y.dn≤1000)∧DevsFrom w.heap.size y)∧(ys.map (absR w')).Perm (xs.map (absR w))∧InOrder ys)∧Below w.heap.size w w':=by
 obtain ⟨_,c1⟩:=he.cells
 have hb0:=(Below.refl w.heap.size w).alloc (Nat.le_refl _) (.cells #[.map (some Bm)] 131)
 have HB0:=hZz hb0
 have HSF:=hZz (sortedFunc_any w.heap.size Bm nn xs (w.alloc (.cells #[.map (some Bm)] 131)) (by simp) (hm.block (hb0.block Bm hm.lt)) hl)
 have HD:=hZz hd
 have hs0:(w.alloc (.cells #[.map (some Bm)] 131)).heap.size=w.heap.size+1:=by simp
 clear hm he hd hb0
 go_enter Tryz.func73,Tryz.ntmps73
 go_wp2_with fail
 refine (values_any _ _).mono ?_
 rintro e w1 ⟨rfl,rfl⟩
 go_wp2_with fail
 generalize w.alloc (.cells #[.map (some Bm)] 131)=W1 at *
 refine HSF.out.mono ?_
 rintro e w2 ⟨⟨v,qs,rfl,hq,hqp,hqo⟩,hb2⟩
 have HB2:=hZz (HB0.out.trans (hb2.mono HB0.out.size))
 have hql:qs.length≤1000:=by rw [hqp.length_eq];exact hl
 have HQD:=hZz (show ∀ j,j<qs.length→DevsOk w (rv qs j)∧(rv qs j).dn≤1000 from fun j hj=>HD.out _ (hqp.mem_iff.1 (rv_mem hj)))
 have HQP:=hZz (hqp.map (absR w))
 have HQO:=hZz hqo
 obtain ⟨a,c,rfl,hac,hr⟩:=hq
 obtain ⟨g,hg,hrows⟩:∃ g,(0<qs.length→a=some ⟨g,0,none⟩∧w.heap.size<g∧g<w2.heap.size)∧RowsR w2 g qs:=by
  by_cases h0:0<qs.length
  ·obtain ⟨g,ha,hg1,hg2,hc⟩:=hr h0
   exact ⟨g,fun _=>⟨ha,by omega,hg2⟩,hc⟩
  ·exact ⟨0,fun h=>absurd h h0,fun k hk=>by omega⟩
 have HG:=hZz hg
 have HROWS:=hZz hrows
 clear hg hrows hr hqp hqo hb2 HSF HB0 HD c1
 go_wp2_with fail
 go_loopw [14] (fun i wr=>∃ (k:Nat) (ys:List RV),k≤qs.length∧i=.int .i64 k∧ys.length=qs.length∧Below w.heap.size w wr∧RowsR wr g ys∧(0<qs.length→g<wr.heap.size)∧Hid (∀ j,j<k→DevsOk wr (rv ys j)∧absR wr (rv ys j)=absR w (rv qs j)∧(rv ys j).dn≤1000∧Away g (rv ys j)∧DevsFrom w.heap.size (rv ys j))∧Hid (∀ j,k≤j→j<qs.length→rv ys j=rv qs j)) (fun i _=>qs.length - (intOf i).toNat)
 case atStart=>exact ⟨0,qs,by omega,rfl,rfl,HB2.out,HROWS.out,fun h=>(HG.out h).2.2,fun j hj=>by omega,fun j _ _=>rfl⟩
 case round=>
  obtain ⟨k,ys,hk,rfl,hyl,hB,hR,hgl,HDONE,HREST⟩:=hrel
  by_cases hlt:k<qs.length
  ·obtain ⟨rfl,hg1,_⟩:=HG.out (by omega)
   have hgw:=hgl (by omega)
   have HB:=hZz hB
   have HR:=hZz hR
   have hcell:=hR k (by omega)
   rw [HREST.out k (Nat.le_refl _) hlt] at hcell
   obtain ⟨⟨c0,c1,c2,c3⟩,f0,f1,f2,f3⟩:=hcell
   obtain ⟨hdk,hdn⟩:=HQD.out k hlt
   obtain ⟨hd1,hd2⟩:=hdk.below (hB.alloc hB.size (.cells #[.string (rv qs k).pod,.string (rv qs k).cont,.int .u64 (rv qs k).cpus,.slice (rv qs k).da (rv qs k).dn (rv qs k).dc] 154)) (fun _ _ _ h=>h)
   have HAP:=hZz (apartR_any (rv qs k) _ hd1 hdn)
   have HD2:=hZz hd2
   clear hB hR hgl hd1 hd2 hdk
   generalize hx:rv qs k=x at *
   have HX:=hZz hx
   clear hx
   go_wp2_with fail
   refine HAP.out.mono ?_
   rintro e w3 ⟨a',c',rfl,ho,hdv,hdf,hb3⟩
   have hba:=(Below.refl wr.heap.size wr).alloc (Nat.le_refl _) (.cells #[.string x.pod,.string x.cont,.int .u64 x.cpus,.slice x.da x.dn x.dc] 154)
   have hbx:=hba.trans (hb3.mono (by simp))
   have HBX:=hZz hbx
   have HB3:=hZz (HB.out.trans (hbx.mono HB.out.size))
   have hR3:=HR.out.block (hbx.block g hgw)
   have HR3:=hZz hR3
   have HO:=hZz ho.1
   have HDV:=hZz (hdv.trans HD2.out)
   have HDF:=hZz (show DevsFrom w.heap.size { x with da:=a',dc:=c' } from fun h0=>by
    obtain ⟨g2,hg2,hg3⟩:=hdf h0
    refine ⟨g2,hg2,?_⟩
    simp at hg3
    have:=HB.out.size
    omega)
   have HAW:=hZz (show Away g { x with da:=a',dc:=c' } from fun h0 g' o' e=>by
    obtain ⟨g2,hg2,hg3⟩:=hdf h0
    rw [hg2] at e
    cases e
    simp at hg3
    omega)
   have hg3:g<w3.heap.size:=Nat.lt_of_lt_of_le hgw hbx.size
   obtain ⟨⟨d0,d1,d2,d3⟩,e0,e1,e2,e3⟩:=hR3 k (by omega)
   clear ho hdv hdf hb3 hba hbx hR3 HAP HD2 HR c0 c1 c2 c3 f0 f1 f2 f3
   generalize rv ys k=z at *
   go_wp2_with fail
   have HRF:=hZz (HR3.out.set (k:=k) (by omega) { x with da:=a',dc:=c' })
   have HBF:=hZz (below_fillAt HB3.out (g:=g) (by omega) (k*4) { x with da:=a',dc:=c' })
   have HKB:=hZz (fun b (hb:b≠g)=>fillAt_block w3 g (k*4) { x with da:=a',dc:=c' } b hb)
   have hszF:(fillAt w3 g (k*4) { x with da:=a',dc:=c' }).heap.size=w3.heap.size:=by simp [fillAt]
   have HNEW:=hZz (show ∀ j,j<k+1→DevsOk (fillAt w3 g (k*4) { x with da:=a',dc:=c' }) (rv (ys.set k { x with da:=a',dc:=c' }) j)∧absR (fillAt w3 g (k*4) { x with da:=a',dc:=c' }) (rv (ys.set k { x with da:=a',dc:=c' }) j)=absR w (rv qs j)∧(rv (ys.set k { x with da:=a',dc:=c' }) j).dn≤1000∧Away g (rv (ys.set k { x with da:=a',dc:=c' }) j)∧DevsFrom w.heap.size (rv (ys.set k { x with da:=a',dc:=c' }) j) from fun j hj=>by
    rw [rv_set ys k j _ (by omega)]
    by_cases e:j=k
    ·rw [if_pos e]
     obtain ⟨h1,h2⟩:=devs_away (w':=fillAt w3 g (k*4) { x with da:=a',dc:=c' }) HO.out HAW.out (fun b hb _=>HKB.out b hb) (by omega)
     refine ⟨h1,?_,hdn,HAW.out,HDF.out⟩
     subst e
     rw [HX.out]
     unfold absR
     rw [h2,HDV.out]
    ·rw [if_neg e]
     obtain ⟨h1,h2,h3,h4,h9⟩:=HDONE.out j (by omega)
     obtain ⟨h5,h6⟩:=h1.below HBX.out (fun _ _ _ h=>h)
     obtain ⟨h7,h8⟩:=devs_away (w':=fillAt w3 g (k*4) { x with da:=a',dc:=c' }) h5 h4 (fun b hb _=>HKB.out b hb) (by omega)
     refine ⟨h7,?_,h3,h4,h9⟩
     rw [← h2]
     unfold absR
     rw [h8,h6])
   have HRST:=hZz (show ∀ j,k+1≤j→j<qs.length→rv (ys.set k { x with da:=a',dc:=c' }) j=rv qs j from fun j h1 h2=>by
    rw [rv_set ys k j _ (by omega),if_neg (by omega)]
    exact HREST.out j (by omega) h2)
   exact ⟨⟨k+1,ys.set k { x with da:=a',dc:=c' },by omega,by go_num,by simp [hyl],HBF.out,HRF.out,fun _=>by rw [← hszF] at hg3;exact hg3,HNEW,HRST⟩,by simp [intOf];omega⟩
  ·have hke:k=qs.length:=by omega
   subst hke
   have HB:=hZz hB
   have HEND:=hZz (list_end hyl (fun j hj=>(HDONE.out j hj).2.1))
   have HORD:=hZz (order_same hyl (fun j hj=>by
    have:=(HDONE.out j hj).2.1
    unfold absR at this
    simp only [Rn.mk.injEq] at this
    exact ⟨this.1,this.2.1⟩) HQO.out)
   have HDV:=hZz (show ∀ y∈ys,(DevsOk wr y∧y.dn≤1000)∧DevsFrom w.heap.size y from fun y hy=>by
    obtain ⟨i,hi,rfl⟩:=List.getElem_of_mem hy
    have:=HDONE.out i (by omega)
    simp [rv,hi] at this
    exact ⟨⟨this.1,this.2.2.1⟩,this.2.2.2.2⟩)
   have HRA:=hZz (show RunsAt w.heap.size wr (.slice a qs.length c) ys from ⟨a,c,by rw [hyl],by omega,fun h0=>⟨g,(HG.out (by omega)).1,by have:=(HG.out (by omega)).2.1;omega,hgl (by omega),hR⟩⟩)
   clear hB hR hgl HDONE HREST
   go_wp2_with fail
   go_ret
   exact ⟨⟨_,ys,rfl,HRA.out,HDV.out,by rw [HEND.out];exact HQP.out,HORD.out⟩,HB.out⟩
end
section
open Go.RowKit Go.Shelf
open Qos (Nd Ct Pd nd ct pd ltS cmpS)
open Sv (Gv Hd gv hd)
attribute [local go_sem] Oper.semAt_some
theorem find1_any (xn:ByteArray) (xp:Int) (cv gvv:Value) (nm:ByteArray) (w:World):Calls Tryz.prog 59 #[.agg #[.string xn,.int .i64 xp,cv,gvv],.string nm] w fun e w'=>e=.returned (.int .i64 (cmpS xn nm))∧Below w.heap.size w w':=by
 have HB:=hZz ((Below.refl w.heap.size w).alloc (Nat.le_refl _) (.cells #[.string xn,.int .i64 xp,cv,gvv] 60))
 go_enter Tryz.func59,Tryz.ntmps59
 go_wp2_with fail
 refine (cmpStr_anyR xn nm _).mono ?_
 rintro e w1 ⟨rfl,rfl⟩
 go_wp2_with fail
 go_ret
 exact ⟨rfl,HB.out⟩
theorem cmpS_neg {a b:ByteArray}:cmpS a b<0↔Ol.nmLt a b:=by
 unfold cmpS Ol.nmLt
 have e:ltS a b=decide (a.toList<b.toList):=Go.Proofs.bytesLess_eq _ _
 rw [e]
 by_cases h:a.toList<b.toList
 ·simp [h]
 ·rw [decide_eq_false h]
  simp only [Bool.false_eq_true,if_false]
  constructor
  ·intro h2;split at h2 <;> omega
  ·intro h2;exact absurd h2 h
theorem at_is {hs:List Hd} {nm:ByteArray} {a:Nat} (ha:a≤hs.length) (h1:∀ t,t<a→Ol.nmLt (hd hs t).pod.nm nm) (h2:∀ t,a≤t→t<hs.length→¬ Ol.nmLt (hd hs t).pod.nm nm):Ol.atOf hs nm=a:=by
 unfold Ol.atOf
 rw [← List.take_append_drop a hs,List.countP_append]
 have e1:(hs.take a).countP (fun h=>decide (h.pod.nm.toList<nm.toList))=(hs.take a).length:=by
  rw [List.countP_eq_length]
  intro x hx
  obtain ⟨k,hk,rfl⟩:=List.getElem_of_mem hx
  rw [List.length_take] at hk
  have:=h1 k (by omega)
  have e:hd hs k=(hs.take a)[k]'(by rw [List.length_take];omega):=by simp [hd,show k<hs.length by omega]
  rw [e] at this
  exact decide_eq_true this
 have e2:(hs.drop a).countP (fun h=>decide (h.pod.nm.toList<nm.toList))=0:=by
  rw [List.countP_eq_zero]
  intro x hx
  obtain ⟨k,hk,rfl⟩:=List.getElem_of_mem hx
  rw [List.length_drop] at hk
  have:=h2 (a+k) (by omega) (by omega)
  have e:hd hs (a+k)=(hs.drop a)[k]'(by rw [List.length_drop];omega):=by simp [hd,show a+k<hs.length by omega]
  rw [e] at this
  have h3:¬ ((hs.drop a)[k]'(by rw [List.length_drop];omega)).pod.nm.toList<nm.toList:=this
  rw [decide_eq_false h3];decide
 rw [e1,e2,List.length_take];omega
def hasN (hs:List Hd) (nm:ByteArray):Bool:=hs.any fun h=>decide (h.pod.nm=nm)
theorem rising_at {hs:List Hd} (hr:Ol.Rising hs) {i j:Nat} (hij:i<j) (hj:j<hs.length):Ol.nmLt (hd hs i).pod.nm (hd hs j).pod.nm:=by
 have:=List.pairwise_iff_getElem.1 hr i j (by omega) hj hij
 have e1:hd hs i=hs[i]'(by omega):=by simp [hd,show i<hs.length by omega]
 have e2:hd hs j=hs[j]:=by simp [hd,hj]
 rw [e1,e2];exact this
theorem hasN_no {hs:List Hd} (hr:Ol.Rising hs) {nm:ByteArray} {a:Nat} (h1:∀ t,t<a→cmpS (hd hs t).pod.nm nm<0) (h2:∀ t,a≤t→t<hs.length→¬ cmpS (hd hs t).pod.nm nm<0) (h3:a<hs.length→(hd hs a).pod.nm≠nm):hasN hs nm=false:=by
 unfold hasN
 rw [List.any_eq_false]
 intro x hx
 obtain ⟨t,ht,rfl⟩:=Sv.hd_in hx
 intro e
 have e:=of_decide_eq_true e
 by_cases c1:t<a
 ·have:=cmpS_neg.1 (h1 t c1)
  rw [e] at this
  exact Ol.nmLt_irrefl _ this
 ·by_cases c2:t=a
  ·subst c2;exact h3 ht e
  ·have h4:=rising_at hr (show a<t by omega) ht
   rw [e] at h4
   exact h2 a (Nat.le_refl _) (by omega) (cmpS_neg.2 h4)
theorem cmpS_zeroO {a b:ByteArray}:cmpS a b=0↔a=b:=by
 constructor
 ·intro h
  apply Classical.byContradiction
  intro hne
  rcases Ol.nmLt_total hne with k|k
  ·have:=cmpS_neg.2 k;omega
  ·have k2:ltS b a=true:=by
    have e:ltS b a=decide (b.toList<a.toList):=Go.Proofs.bytesLess_eq _ _
    rw [e];exact decide_eq_true k
   unfold cmpS at h
   split at h
   ·cases h
   ·first|(rw [if_pos k2] at h;cases h)|cases h
 ·rintro rfl
  have hn:ltS a a=false:=by
   have e:ltS a a=decide (a.toList<a.toList):=Go.Proofs.bytesLess_eq _ _
   rw [e];exact decide_eq_false (Ol.nmLt_irrefl a)
  unfold cmpS
  rw [hn];rfl
theorem search_any (v:Value) (hs:List Hd) (nm:ByteArray) (w:World) (h:HldsAt w v hs) (hl:hs.length≤100) (hri:Ol.Rising hs):Calls Tryz.prog 58 #[v,.string nm,.func (.func 59) #[] #[]] w fun e w'=>e=.returned (.tuple #[.int .i64 (Ol.atOf hs nm:Nat),.bool (hasN hs nm)])∧Below w.heap.size w w':=by
 have HRI:=hZz hri
 obtain ⟨ao,c,rfl,hm,hr⟩:=h
 unfold maxLen at hm
 have HR:=hZz hr
 clear hr hri
 go_enter Tryz.func58,Tryz.ntmps58
 go_wp2_with fail
 go_loopw [9,10] (fun i j wr=>∃ a b:Nat,a≤b∧b≤hs.length∧i=.int .i64 a∧j=.int .i64 b∧Hid (∀ t,t<a→cmpS (hd hs t).pod.nm nm<0)∧Hid (∀ t,b≤t→t<hs.length→0≤cmpS (hd hs t).pod.nm nm)∧Below w.heap.size w wr) (fun i j _=>(intOf j).toNat - (intOf i).toNat)
 case atStart=>exact ⟨0,hs.length,by omega,by omega,rfl,rfl,fun t ht=>by omega,fun t h1 h2=>by omega,Below.refl _ _⟩
 case round=>
  obtain ⟨a,b,hab,hb,rfl,rfl,HLO,HHI,hbel⟩:=hrel
  have HB:=hZz hbel
  by_cases hlt:a<b
  ·obtain ⟨m,hm2⟩:∃ m:Nat,((a:Int)+(b:Int)) / 2=(m:Int):=⟨(a+b) / 2,by omega⟩
   have ham:a≤m:=by omega
   have hmb:m<b:=by omega
   obtain ⟨bb,o,cv,gvv,rfl,hin⟩:=HR.out (by omega)
   obtain ⟨x0,x1,x2,x3⟩:=((hin.below hbel).2 m (by omega)).1
   clear hin hbel
   by_cases hc:cmpS (hd hs m).pod.nm nm<0
   ·have HL2:Hid (∀ t,t<m+1→cmpS (hd hs t).pod.nm nm<0):=fun t ht=>by
     by_cases e:t=m
     ·rw [e];exact hc
     ·exact cmpS_neg.2 (Ol.nmLt_trans (rising_at HRI.out (show t<m by omega) (by omega)) (cmpS_neg.1 hc))
    have HF:=hZz (find1_any (hd hs m).pod.nm (hd hs m).pod.pr (cv m) (gvv m) nm wr)
    generalize cmpS (hd hs m).pod.nm nm=z at *
    go_wp2_with fail
    refine HF.out.mono ?_
    rintro e w1 ⟨rfl,hb1⟩
    have HB1:=hZz (HB.out.trans (hb1.mono HB.out.size))
    clear hb1
    go_wp2_with fail
    go_roundw
    case rel=>exact ⟨m+1,b,by omega,by omega,by go_num,rfl,HL2,HHI,HB1.out⟩
    case measure=>simp [intOf];omega
   ·have HH2:Hid (∀ t,m≤t→t<hs.length→0≤cmpS (hd hs t).pod.nm nm):=fun t h1 h2=>by
     refine Int.not_lt.1 fun h3=>?_
     by_cases e:t=m
     ·rw [e] at h3;exact hc h3
     ·exact hc (cmpS_neg.2 (Ol.nmLt_trans (rising_at HRI.out (show m<t by omega) h2) (cmpS_neg.1 h3)))
    have HF:=hZz (find1_any (hd hs m).pod.nm (hd hs m).pod.pr (cv m) (gvv m) nm wr)
    generalize cmpS (hd hs m).pod.nm nm=z at *
    go_wp2_with fail
    refine HF.out.mono ?_
    rintro e w1 ⟨rfl,hb1⟩
    have HB1:=hZz (HB.out.trans (hb1.mono HB.out.size))
    clear hb1
    go_wp2_with fail
    go_roundw
    case rel=>exact ⟨a,m,by omega,by omega,rfl,rfl,HLO,HH2,HB1.out⟩
    case measure=>simp [intOf];omega
  ·have hab':b=a:=by omega
   subst hab'
   have HAT:=hZz (at_is hb (fun t ht=>cmpS_neg.1 (HLO.out t ht)) (fun t h1 h2 h3=>Int.not_lt.2 (HHI.out t h1 h2) (cmpS_neg.2 h3)))
   by_cases hn:b<hs.length
   ·obtain ⟨bb,o,cv,gvv,rfl,hin⟩:=HR.out (by omega)
    obtain ⟨x0,x1,x2,x3⟩:=((hin.below hbel).2 b hn).1
    clear hin hbel
    have HF:=hZz (find1_any (hd hs b).pod.nm (hd hs b).pod.pr (cv b) (gvv b) nm wr)
    by_cases hz:cmpS (hd hs b).pod.nm nm=0
    ·have HX:Hid (hasN hs nm=true):=List.any_eq_true.2 ⟨hd hs b,Sv.mem_hd hn,decide_eq_true (cmpS_zeroO.1 hz)⟩
     rw [hz] at HF
     go_wp2_with fail
     refine HF.out.mono ?_
     rintro e w1 ⟨rfl,hb1⟩
     have HB1:=hZz (HB.out.trans (hb1.mono HB.out.size))
     clear hb1
     go_wp2_with fail
     go_ret2
     exact ⟨by rw [HAT.out,HX.out];rfl,HB1.out⟩
    ·have HX:Hid (hasN hs nm=false):=hasN_no HRI.out HLO.out (fun t h1 h2=>Int.not_lt.2 (HHI.out t h1 h2)) (fun _ e=>hz (cmpS_zeroO.2 e))
     have hz':(cmpS (hd hs b).pod.nm nm == 0)=false:=by simpa using hz
     generalize cmpS (hd hs b).pod.nm nm=z at *
     go_wp2_with fail
     refine HF.out.mono ?_
     rintro e w1 ⟨rfl,hb1⟩
     have HB1:=hZz (HB.out.trans (hb1.mono HB.out.size))
     clear hb1
     go_wp2_with fail
     go_ret2
     exact ⟨by rw [HAT.out,HX.out];rfl,HB1.out⟩
   ·have HX:Hid (hasN hs nm=false):=hasN_no HRI.out HLO.out (fun t h1 h2=>Int.not_lt.2 (HHI.out t h1 h2)) (fun h=>absurd h hn)
    go_wp2_with fail
    go_ret2
    exact ⟨by rw [HAT.out,HX.out];rfl,HB.out⟩
theorem find_any (v:Value) (hs:List Hd) (nm:ByteArray) (w:World) (h:HldsAt w v hs) (hl:hs.length≤100) (hri:Ol.Rising hs):Calls Tryz.prog 29 #[v,.string nm] w fun e w'=>e=.returned (.tuple #[.int .i64 (Ol.atOf hs nm:Nat),.bool (hasN hs nm)])∧Below w.heap.size w w':=by
 have HS:=hZz (search_any v hs nm w h hl hri)
 obtain ⟨ao,c,rfl,hm,_⟩:=h
 generalize Ol.atOf hs nm=a at *
 generalize hasN hs nm=b at *
 go_enter Tryz.func29,Tryz.ntmps29
 go_wp2_with fail
 refine HS.out.mono ?_
 rintro e w1 ⟨rfl,hb1⟩
 have HB1:=hZz hb1
 clear hb1
 go_wp2_with fail
 go_ret2
 exact ⟨rfl,HB1.out⟩
end
section
open Go.RowKit
open Ost (Hi Wi wi0 Low withL bet pop8 choTo choP okH within nextIn nextTo waysTo com)
def Light (ws:List Wi):Prop:=∀ y,y∈ws→Low y.hs∧y.hs.length≤16
theorem choP_low (pol:Int) (nodes:Nat) (y:Wi) (hn:nodes<256):Low (choP pol nodes y):=fun x hx=>by
 obtain ⟨c,_,rfl⟩:=(Ost.choP_mem ..).1 hx
 exact Nat.lt_of_le_of_lt Nat.and_le_right hn
theorem far_cell {w w':World} {b o:Nat} {v:Value} (h:w'.heap[b]?=w.heap[b]?) (hc:w.cell? ⟨b,o,none⟩=some v):w'.cell? ⟨b,o,none⟩=some v:=(World.cell?_of_block (w:=w) (a:=⟨b,o,none⟩) h).trans hc
def ChosenF (w:World) (l:List Hi) (e:Ending) (w':World):Prop:=∃ v,e=.returned v∧HintsAt w' v l∧Below w.heap.size w w'∧∀ b o n c,v=.slice (some ⟨b,o,none⟩) n c→w.heap.size≤b
theorem outcomes_any (pol:Int) (nodes:Nat) (v:Value) (ws:List Wi) (w:World) (hv:WishesAt w v ws) (hw:Light ws) (hl:ws.length≤4) (hn:nodes<256) (hp:0≤pol∧pol≤3) :
  Calls Tryz.prog 131 #[.int .i64 pol,.int .u8 nodes,v] w fun e w'=>ChosenF w (waysTo pol nodes ws ws.length) e w':=by
 have HV:=hZz hv
 obtain ⟨ao,c,rfl,_⟩:=hv.form
 have HLi:=hZz hw
 clear hv hw
 go_enter Tryz.func131,Tryz.ntmps131
 go_wp2_with fail
 have HO0:=hZz (oneHint w nodes true 181)
 have HB0:Hid (Below w.heap.size w (w.alloc (.cells #[.int .u8 (nodes:Nat),.bool true] 181))):=(Below.refl _ _).alloc (Nat.le_refl _) _
 go_loopw [7,21] (fun vW i wr=>∃ k:Nat,k≤ws.length∧i=.int .i64 k∧Hid (HintsAt wr vW (waysTo pol nodes ws k))∧Hid (Below w.heap.size w wr)∧Hid (∀ b o n c,vW=.slice (some ⟨b,o,none⟩) n c→w.heap.size≤b)) (fun _ i _=>ws.length - (intOf i).toNat)
 case atStart=>exact ⟨0,by omega,rfl,HO0.out,HB0.out,fun b o n c h=>by cases h;exact Nat.le_refl _⟩
 case round=>
  obtain ⟨k,hk,rfl,HW,HB,HFr⟩:=hrel
  clear HO0 HB0
  have hlenW:=Ost.waysTo_len pol nodes ws (fun y hy=>(HLi.out y hy).2) k hk
  have hpow:=Ost.pow_le4 k (by omega)
  by_cases hlt:k<ws.length
  ·obtain ⟨ao',c',hv',hcs⟩:=(HV.out.below HB.out).form
   obtain ⟨rfl,rfl⟩:ao=ao'∧c=c':=by simpa using hv'
   obtain ⟨b,o,rfl,hbl,hcs⟩:=hcs (by omega)
   obtain ⟨c0,u,c1,hu⟩:=hcs k hlt
   have hy:=HLi.out _ (Ost.getD_mem ws wi0 k hlt)
   have HNx:Hid (waysTo pol nodes ws (k+1)=nextTo (choP pol nodes (ws.getD k wi0)) (waysTo pol nodes ws k) (choP pol nodes (ws.getD k wi0)).length):=rfl
   clear hcs hv'
   generalize ws.getD k wi0=y at *
   obtain ⟨any,hs⟩:=y
   simp only at c0 c1 hu hy
   have HLw:=hZz (Ost.Outs.low (Ost.waysTo_outs pol nodes ws k) hn)
   have HLw:=hZz (Ost.Outs.low (Ost.waysTo_outs pol nodes ws k) hn)
   have HLw:=hZz (Ost.Outs.low (Ost.waysTo_outs pol nodes ws k) hn)
   generalize waysTo pol nodes ws k=W at *
   have hCl:=Ost.choP_len pol nodes ⟨any,hs⟩ hy.2
   have HLc:=hZz (choP_low pol nodes ⟨any,hs⟩ hn)
   have HLc:=hZz (choP_low pol nodes ⟨any,hs⟩ hn)
   have HLc:=hZz (choP_low pol nodes ⟨any,hs⟩ hn)
   obtain ⟨ao2,c2,rfl,_⟩:=hu.form
   have HX:=hZz ((Below.refl wr.heap.size wr).alloc (Nat.le_refl _) (.cells #[.bool any,.slice ao2 hs.length c2] 232))
   have HCh:=hZz (choices_any pol nodes any (.slice ao2 hs.length c2) hs (wr.alloc (.cells #[.bool any,.slice ao2 hs.length c2] 232)) (hu.below HX.out) hy.1 hy.2 hn hp)
   have HWa:=hZz (HW.out.below HX.out)
   have HBa:=hZz (HB.out.trans (HX.out.mono HB.out.size))
   have HWl:=hZz (HintsAt.form HW.out)
   obtain ⟨aw,cw,rfl,_⟩:=HintsAt.form HW.out
   clear hu hy HW HB
   go_wp2_with fail
   refine HCh.out.mono ?_
   rintro e w2 ⟨vC,rfl,hC,hb2⟩
   have HW2:=hZz (HWa.out.below hb2)
   have HB2:=hZz (HBa.out.trans (hb2.mono HBa.out.size))
   have HC:=hZz hC
   generalize choP pol nodes ⟨any,hs⟩=C at *
   obtain ⟨ac,cc,rfl,_⟩:=hC.form
   clear hC hb2 HWa HBa HCh HX c0 c1
   go_wp2_with fail
   generalize hB2:w2.heap.size=B at *
   go_loopw [10,30] (fun vN i wq=>∃ i':Nat,i'≤C.length∧i=.int .i64 i'∧Hid (wq.ownsRow B 181 2 vN (nextTo C W i').length (hintCells (nextTo C W i')))∧Hid (Below B w2 wq)) (fun _ i _=>C.length - (intOf i).toNat)
   case atStart=>exact ⟨0,by omega,rfl,World.ownsRow_nil _ _ _ _,Below.refl _ _⟩
   case round=>
    obtain ⟨i',hi,rfl,HR,HBq⟩:=hrel
    have hszq:B≤wr.heap.size:=Nat.le_trans (Nat.le_of_eq hB2.symm) HBq.out.size
    have hNl:=Ost.nextTo_len C W i'
    have hml:i'*W.length≤16*65536:=Nat.mul_le_mul (by omega) (by omega)
    have HStep:Hid (nextTo C W (i'+1)=nextIn (C.getD i' (0,false)) W (nextTo C W i') W.length):=rfl
    obtain ⟨an0,cn0,rfl⟩:=row_slice HR.out
    by_cases hit:i'<C.length
    ·obtain ⟨ac',cc',hv',hcs⟩:=(HC.out.below (by rw [hB2];exact HBq.out)).form
     obtain ⟨rfl,rfl⟩:ac=ac'∧cc=cc':=by simpa using hv'
     obtain ⟨b3,o3,rfl,hbl3,hcs⟩:=hcs (by omega)
     obtain ⟨d0,d1⟩:=hcs i' hit
     have hm:=HLc.out _ (Ost.getD_mem C (0,false) i' hit)
     clear hcs hv'
     generalize C.getD i' (0,false)=x at *
     obtain ⟨m,g⟩:=x
     simp only at d0 d1 hm
     generalize nextTo C W i'=N at *
     have HRa:=hZz (HR.out.alloc (.cells #[.int .u8 (m:Nat),.bool g] 181))
     have HBa:=hZz (HBq.out.alloc hszq (.cells #[.int .u8 (m:Nat),.bool g] 181))
     have HLn:=hZz (HR.out.lt)
     have hL0:(wr.alloc (.cells #[.int .u8 (m:Nat),.bool g] 181)).cell? ⟨wr.heap.size,0,none⟩=some (.int .u8 (m:Nat)):=by simp
     have hL1:(wr.alloc (.cells #[.int .u8 (m:Nat),.bool g] 181)).cell? ⟨wr.heap.size,1,none⟩=some (.bool g):=by simp
     have hL0:=hZz hL0
     have hL1:=hZz hL1
     clear HR HBq
     go_wp2_with fail
     generalize hLL:wr.heap.size=L at *
     go_loopw [10,36] (fun vN i wx=>∃ (j:Nat) (vv:Value),j≤W.length∧i=.int .i64 j∧vN=vv∧Hid (wx.ownsRow B 181 2 vv (nextIn (m,g) W N j).length (hintCells (nextIn (m,g) W N j)))∧Hid (Below B w2 wx)∧wx.cell? ⟨L,0,none⟩=some (.int .u8 (m:Nat))∧wx.cell? ⟨L,1,none⟩=some (.bool g)∧Hid (some L≠vv.ownBlock)) (fun _ i _=>W.length - (intOf i).toNat)
     case atStart=>exact ⟨0,_,by omega,rfl,rfl,HRa.out,HBa.out,hL0.out,hL1.out,fun h=>by have:=(HLn.out L h.symm).2;omega⟩
     case round=>
      obtain ⟨j,vv,hj,rfl,rfl,HRx,HBx,l0,l1,HOwn⟩:=hrel
      clear HRa HBa hL0 hL1 HLn hLL
      have hszx:B≤wr.heap.size:=Nat.le_trans (Nat.le_of_eq hB2.symm) HBx.out.size
      have hLx:=World.block_lt_of_cell? _ _ l0
      have hnl2:=Ost.nextIn_len (m,g) W N j
      obtain ⟨an,cn,rfl⟩:=row_slice HRx.out
      by_cases hjt:j<W.length
      ·obtain ⟨aw',cw',hv',hcs⟩:=(HW2.out.below (by rw [hB2];exact HBx.out)).form
       obtain ⟨rfl,rfl⟩:aw=aw'∧cw=cw':=by simpa using hv'
       obtain ⟨b4,o4,rfl,hbl4,hcs⟩:=hcs (by omega)
       obtain ⟨q0,q1⟩:=hcs j hjt
       have hpp:=HLw.out _ (Ost.getD_mem W (0,false) j hjt)
       have HStp:nextIn (m,g) W N (j+1)=if (Ost.com (W.getD j (0,false)) (m,g)).1=0 then nextIn (m,g) W N j else withL (nextIn (m,g) W N j) (Ost.com (W.getD j (0,false)) (m,g)):=rfl
       clear hcs hv'
       generalize W.getD j (0,false)=z at *
       obtain ⟨p,f⟩:=z
       simp only at q0 q1 hpp
       have hand:=and8' p m hpp hm
       rcases two f with hf|hf
       ·subst hf
        have HCo:Hid (Ost.com (p,true) (m,g)=(p &&& m,g)):=by cases g <;> rfl
        rw [HCo.out] at HStp
        have HWi:=hZz (with_far B (.slice an (nextIn (m,g) W N j).length cn) (nextIn (m,g) W N j) (p &&& m,g) ((wr.alloc (.cells #[.int .u8 (p:Nat),.bool true] 181)).alloc (.cells #[.int .u8 ((p &&& m:Nat):Int),.bool g] 181)) ((HRx.out.alloc _).alloc _) (by omega) (by simp;omega))
        unfold vH at HWi
        have HBx2:=hZz ((HBx.out.alloc hszx (.cells #[.int .u8 (p:Nat),.bool true] 181)).alloc (by simp;omega) (.cells #[.int .u8 ((p &&& m:Nat):Int),.bool g] 181))
        have HRx2:=hZz ((HRx.out.alloc (.cells #[.int .u8 (p:Nat),.bool true] 181)).alloc (.cells #[.int .u8 ((p &&& m:Nat):Int),.bool g] 181))
        have z0:=cell_allocH l0 (.cells #[.int .u8 (p:Nat),.bool true] 181)
        have z1:=cell_allocH l1 (.cells #[.int .u8 (p:Nat),.bool true] 181)
        have zz0:=cell_allocH z0 (.cells #[.int .u8 ((p &&& m:Nat):Int),.bool g] 181)
        have zz1:=cell_allocH z1 (.cells #[.int .u8 ((p &&& m:Nat):Int),.bool g] 181)
        by_cases hz:p &&& m=0
        ·have hz0:((p &&& m:Nat):Int)=0:=by omega
         rw [if_pos hz] at HStp
         have HStp:=hZz HStp
         rw [hz0] at HBx2 HRx2 zz0 zz1 hand
         clear hz hz0 HWi
         go_wp2_with fail
         go_roundw
         case rel=>exact ⟨j+1,_,by omega,by go_num,rfl,by rw [HStp.out];exact HRx2.out,HBx2.out,zz0,zz1,HOwn.out⟩
         case measure=>simp [intOf];omega
        ·have hz2:(((p &&& m:Nat):Int) == 0)=false:=by rw [beq_eq_false_iff_ne];omega
         rw [if_neg hz] at HStp
         have HStp:=hZz HStp
         have hz:=hZz hz
         generalize p &&& m=pm at *
         go_wp2_with fail
         refine HWi.out.mono ?_
         rintro e w5 ⟨v5,rfl,hr5,hb5,hfar⟩
         have HR5:=hZz hr5
         have HB5:=hZz (HBx2.out.trans hb5)
         have hLs:L<((wr.alloc (.cells #[.int .u8 (p:Nat),.bool true] 181)).alloc (.cells #[.int .u8 (pm:Int),.bool g] 181)).heap.size:=by simp;omega
         have y0:=far_cell (hfar L hLs HOwn.out).1 zz0
         have y1:=far_cell (hfar L hLs HOwn.out).1 zz1
         have HOwn5:=hZz (hfar L hLs HOwn.out).2
         obtain ⟨a5,c5,rfl⟩:=row_slice HR5.out
         clear hr5 hb5 hfar hLs HWi zz0 zz1 z0 z1 l0 l1 HBx2 HRx2
         go_wp2_with fail
         go_roundw
         case rel=>exact ⟨j+1,_,by omega,by go_num,rfl,by rw [HStp.out];exact HR5.out,HB5.out,y0,y1,HOwn5.out⟩
         case measure=>simp [intOf];omega
       ·subst hf
        have HCo:Hid (Ost.com (p,false) (m,g)=(p &&& m,false)):=by rfl
        rw [HCo.out] at HStp
        have HWi:=hZz (with_far B (.slice an (nextIn (m,g) W N j).length cn) (nextIn (m,g) W N j) (p &&& m,false) ((wr.alloc (.cells #[.int .u8 (p:Nat),.bool false] 181)).alloc (.cells #[.int .u8 ((p &&& m:Nat):Int),.bool false] 181)) ((HRx.out.alloc _).alloc _) (by omega) (by simp;omega))
        unfold vH at HWi
        have HBx2:=hZz ((HBx.out.alloc hszx (.cells #[.int .u8 (p:Nat),.bool false] 181)).alloc (by simp;omega) (.cells #[.int .u8 ((p &&& m:Nat):Int),.bool false] 181))
        have HRx2:=hZz ((HRx.out.alloc (.cells #[.int .u8 (p:Nat),.bool false] 181)).alloc (.cells #[.int .u8 ((p &&& m:Nat):Int),.bool false] 181))
        have z0:=cell_allocH l0 (.cells #[.int .u8 (p:Nat),.bool false] 181)
        have z1:=cell_allocH l1 (.cells #[.int .u8 (p:Nat),.bool false] 181)
        have zz0:=cell_allocH z0 (.cells #[.int .u8 ((p &&& m:Nat):Int),.bool false] 181)
        have zz1:=cell_allocH z1 (.cells #[.int .u8 ((p &&& m:Nat):Int),.bool false] 181)
        by_cases hz:p &&& m=0
        ·have hz0:((p &&& m:Nat):Int)=0:=by omega
         rw [if_pos hz] at HStp
         have HStp:=hZz HStp
         rw [hz0] at HBx2 HRx2 zz0 zz1 hand
         clear hz hz0 HWi
         go_wp2_with fail
         go_roundw
         case rel=>exact ⟨j+1,_,by omega,by go_num,rfl,by rw [HStp.out];exact HRx2.out,HBx2.out,zz0,zz1,HOwn.out⟩
         case measure=>simp [intOf];omega
        ·have hz2:(((p &&& m:Nat):Int) == 0)=false:=by rw [beq_eq_false_iff_ne];omega
         rw [if_neg hz] at HStp
         have HStp:=hZz HStp
         have hz:=hZz hz
         generalize p &&& m=pm at *
         go_wp2_with fail
         refine HWi.out.mono ?_
         rintro e w5 ⟨v5,rfl,hr5,hb5,hfar⟩
         have HR5:=hZz hr5
         have HB5:=hZz (HBx2.out.trans hb5)
         have hLs:L<((wr.alloc (.cells #[.int .u8 (p:Nat),.bool false] 181)).alloc (.cells #[.int .u8 (pm:Int),.bool false] 181)).heap.size:=by simp;omega
         have y0:=far_cell (hfar L hLs HOwn.out).1 zz0
         have y1:=far_cell (hfar L hLs HOwn.out).1 zz1
         have HOwn5:=hZz (hfar L hLs HOwn.out).2
         obtain ⟨a5,c5,rfl⟩:=row_slice HR5.out
         clear hr5 hb5 hfar hLs HWi zz0 zz1 z0 z1 l0 l1 HBx2 HRx2
         go_wp2_with fail
         go_roundw
         case rel=>exact ⟨j+1,_,by omega,by go_num,rfl,by rw [HStp.out];exact HR5.out,HB5.out,y0,y1,HOwn5.out⟩
         case measure=>simp [intOf];omega
      ·have hjl:j=W.length:=by omega
       subst hjl
       go_wp2_with fail
       go_roundw
       case rel=>exact ⟨i'+1,by omega,by go_num,by rw [HStep.out];exact HRx.out,HBx.out⟩
       case measure=>simp [intOf];omega
    ·have hil:i'=C.length:=by omega
     subst hil
     have HH:=hZz (HintsAt.of_row HR.out)
     have hBs:w.heap.size≤B:=by rw [← hB2];exact HB2.out.size
     have HBf:=hZz (HB2.out.trans (HBq.out.mono hBs))
     have HFr2:=hZz (fresh_row HR.out hBs)
     go_wp2_with fail
     go_roundw
     case rel=>exact ⟨k+1,by omega,by go_num,by rw [HNx.out];exact HH.out,HBf.out,HFr2.out⟩
     case measure=>simp [intOf];omega
  ·have hkl:k=ws.length:=by omega
   subst hkl
   obtain ⟨aw,cw,rfl,_⟩:=HintsAt.form HW.out
   go_wp2_with fail
   go_ret
   exact ⟨_,rfl,HW.out,HB.out,HFr.out⟩
end
section
namespace Ol
open Ost (Cpu)
open Dvs (Dv dv first first_all first_none srt sel_rising sel_le sel_mem)
open Qos (Nd Ct Pd nd ct podF leS needF contF ownOf)
open Sv (Gv Hd gv hd heldF gsF devF devF1 heldTxt)
theorem devF_srt {new:List Nat}:devF (toInts (srt new))=0:=by
 have hlen:(toInts (srt new)).length=(srt new).length:=by simp [toInts]
 have h16:(srt new).length≤16:=sel_le _ 16
 unfold devF
 rw [if_neg (by omega)]
 refine first_none fun k hk=>?_
 have hk':k<(srt new).length:=by omega
 have e:∀ i (hi:i<(srt new).length),(toInts (srt new)).getD i 0=((srt new)[i]:Int):=fun i hi=>by simp [toInts,hi]
 unfold devF1
 rw [if_neg]
 rw [e k hk']
 have h1:(srt new)[k]<16:=(sel_mem.1 (List.getElem_mem hk')).1
 intro h
 rcases h with h|h|⟨h0,h⟩
 ·omega
 ·omega
 ·rw [e (k - 1) (by omega)] at h
  have:=List.pairwise_iff_getElem.1 (sel_rising (fun j=>decide (j∈new)) 16) (k - 1) k (by show k - 1<(srt new).length;omega) hk' (by omega)
  have h2:(srt new)[k - 1]<(srt new)[k]:=this
  omega
theorem giveOne_dv {m:Mc} {s:Sk} {own:Int} {ns:List Nd}:devF (giveOne m s own ns).2.1.dv=0:=by
 unfold giveOne
 dsimp only
 split
 ·rfl
 ·split
  ·rfl
  ·split
   ·rfl
   ·exact devF_srt
theorem giveTo_dv {m:Mc} {s:Sk} {cs:List Ct}:∀ k,∀ g∈(giveTo m s cs k).2.1,devF g.dv=0:=by
 intro k
 induction k with
 | zero=>intro g hg;cases hg
 | succ k ih=>
  rw [giveTo]
  split
  ·unfold giveNext
   split
   ·intro g hg
    rcases List.mem_append.1 hg with hg|hg
    ·exact ih g hg
    ·rw [List.mem_singleton.1 hg];exact giveOne_dv
   ·intro g hg;cases hg
  ·exact ih
theorem gsF_of {gs:List Gv} (h:∀ g∈gs,devF g.dv=0):gsF gs=0:=first_none fun _ hk=>h _ (Sv.mem_gv hk)
theorem needs_nice {ds:List Nd} (h:first (needF ds) ds.length=0):(∀ n∈ds,n.many≠0)∧ds.Pairwise fun a b=>a.kind≠b.kind:=by
 have ha:=first_all h
 have facts:∀ k,k<ds.length→1≤(nd ds k).many∧(0<k→leS (nd ds k).kind (nd ds (k - 1)).kind=false):=fun k hk=>by
  have:=ha k hk
  unfold needF at this
  split at this
  ·cases this
  ·rename_i h1
   split at this
   ·cases this
   ·rename_i h2
    refine ⟨by omega,fun h0=>?_⟩
    cases e:leS (nd ds k).kind (nd ds (k - 1)).kind with
    | false=>rfl
    | true=>exact absurd (.inr ⟨h0,e⟩) h1
 constructor
 ·intro n hn
  obtain ⟨k,hk,rfl⟩:=Sv.nd_in hn
  have:=(facts k hk).1
  omega
 ·have e:∀ i (hi:i<ds.length),nd ds i=ds[i]:=fun i hi=>by simp [nd,hi]
  have key:∀ d i (hi:i+d+1<ds.length),nmLt (ds[i]'(by omega)).kind ds[i+d+1].kind:=by
   intro d
   induction d with
   | zero=>
    intro i hi
    have:=leS_no.1 ((facts (i+1) hi).2 (by omega))
    rw [e (i+1) hi,show i+1 - 1=i by omega,e i (by omega)] at this
    exact this
   | succ d ih=>
    intro i hi
    have:=leS_no.1 ((facts (i+(d+1)+1) hi).2 (by omega))
    rw [e _ hi,show i+(d+1)+1 - 1=i+d+1 by omega,e (i+d+1) (by omega)] at this
    exact nmLt_trans (ih i (by omega)) this
  refine List.pairwise_iff_getElem.2 fun i j hi hj hij heq=>?_
  obtain ⟨d,rfl⟩:∃ d,j=i+d+1:=⟨j - i - 1,by omega⟩
  have:=key d i hj
  rw [heq] at this
  exact nmLt_irrefl _ this
theorem pod_nice {p:Pd} (h:podF p=0):Nice p.cs:=by
 intro c hc
 obtain ⟨k,hk,rfl⟩:=Sv.ct_in hc
 unfold podF at h
 split at h
 ·cases h
 ·split at h
  ·cases h
  ·split at h
   ·cases h
   ·have:=first_all h k hk
    unfold contF at this
    repeat' (split at this;· cases this)
    exact needs_nice this
structure St where
 m:Mc
 ds:List Dv
 hs:List Hd
structure Inv (t:St):Prop where
 devs:Dvs.fault t.ds=0
 held:heldF t.hs=0
 left:∃ s,left t.m t.ds t.hs=some s
open Classical in
noncomputable def admit (t:St) (p:Pd):Nat × List Hd:=
 if podF p≠0 then (podF p,t.hs) else
 if ∃ h∈t.hs,h.pod.nm=p.nm then (5,t.hs) else
 if 12≤t.hs.length then (2,t.hs) else
 if room t.m (t.hs.map Hd.pod++[p])=false then (7,t.hs) else
 if (give t.m ((left t.m t.ds t.hs).getD ⟨0,[],fun _=>false⟩) p).1≠0 then ((give t.m ((left t.m t.ds t.hs).getD ⟨0,[],fun _=>false⟩) p).1,t.hs) else
 if 6000<(heldTxt (insertH t.hs ⟨p,(give t.m ((left t.m t.ds t.hs).getD ⟨0,[],fun _=>false⟩) p).2⟩)).length then (2,t.hs) else
 (0,insertH t.hs ⟨p,(give t.m ((left t.m t.ds t.hs).getD ⟨0,[],fun _=>false⟩) p).2⟩)
end Ol
end
section
open Go.RowKit
open Qos (Nd Ct Pd nd ct pd)
open Sv (Gv Hd gv hd)
end
section
open Go.RowKit
open Dvs (Dv dv0 dv nth first clF gvF claimed given Nodes)
def BitsAt (u:World) (T:Nat) (f:Nat→Bool):Prop:=∀ j,j<16→u.cell? ⟨T,j,none⟩=some (.bool (f j))∧u.frozen? ⟨T,j,none⟩=false
abbrev bitsV (f:Nat→Bool):Array Value:=#[.bool (f 0),.bool (f 1),.bool (f 2),.bool (f 3),.bool (f 4),.bool (f 5),.bool (f 6),.bool (f 7),.bool (f 8),.bool (f 9),.bool (f 10),.bool (f 11),.bool (f 12),.bool (f 13),.bool (f 14),.bool (f 15)]
theorem BitsAt.made (u:World) (t:TypeId) (f:Nat→Bool):BitsAt (u.alloc (.cells (bitsV f) t)) u.heap.size f:=by
 intro j hj
 have:j=0∨j=1∨j=2∨j=3∨j=4∨j=5∨j=6∨j=7∨j=8∨j=9∨j=10∨j=11∨j=12∨j=13∨j=14∨j=15:=by omega
 rcases this with rfl|rfl|rfl|rfl|rfl|rfl|rfl|rfl|rfl|rfl|rfl|rfl|rfl|rfl|rfl|rfl <;> exact ⟨by simp,by simp⟩
theorem BitsAt.set {u:World} {T:Nat} {f g:Nat→Bool} (h:BitsAt u T f) {m:Nat} (hm:m<16) (b:Bool) (hg:∀ j,j<16→g j=if j=m then b else f j):BitsAt (u.setCell ⟨T,m,none⟩ (.bool b)) T g:=by
 intro j hj
 obtain ⟨c,z⟩:=h j hj
 obtain ⟨cm,_⟩:=h m hm
 refine ⟨?_,(World.frozen?_setCell ..).trans z⟩
 rw [hg j hj]
 by_cases e:j=m
 ·subst e
  simp
  clear c hg
  go_simp
 ·rw [if_neg e]
  have hne:(⟨T,m,none⟩:Addr)≠⟨T,j,none⟩:=by intro h;cases h;exact e rfl
  rw [World.cell?_setCell_other (h:=hne)]
  exact c
def fillTo (w:World) (pb:Nat) (f:Nat→Bool):Nat→World
 | 0=>w
 | k+1=>(fillTo w pb f k).setCell ⟨pb,1+k,none⟩ (.bool (f k))
theorem fillTo_pool {w:World} {pb db:Nat} {ao:Option Addr} {c:Nat} {ds:List Dv} {us:Nat→Bool} (h:PoolAt w pb db ao c ds us) (f:Nat→Bool) (k:Nat) (hk:k≤16):PoolAt (fillTo w pb f k) pb db ao c ds (fun j=>if j<k then f j else us j):=by
 induction k with
 | zero=>simpa [fillTo] using h
 | succ k ih=>
  refine (ih (by omega)).set (by omega) (f k) (fun j _=>?_)
  by_cases e:j=k
  ·subst e;rw [if_pos (by omega),if_pos rfl]
  ·by_cases e2:j<k
   ·rw [if_pos (by omega),if_neg e,if_pos e2]
   ·rw [if_neg (by omega),if_neg e,if_neg e2]
theorem fillTo_grown (w:World) (pb:Nat) (f:Nat→Bool) (k:Nat):w.grownBy (fillTo w pb f k) (some pb):=by
 induction k with
 | zero=>exact grown_refl _ _
 | succ k ih=>exact ih.trans (grown_setCell _ _ _)
theorem PoolAt.congr {w:World} {pb db:Nat} {ao:Option Addr} {c:Nat} {ds:List Dv} {us vs:Nat→Bool} (h:PoolAt w pb db ao c ds us) (e:∀ j,j<16→vs j=us j):PoolAt w pb db ao c ds vs:=
 ⟨h.row,h.at0,h.cells,fun j hj=>by rw [e j hj];exact h.used j hj⟩
theorem fill_pool {w:World} {pb db:Nat} {ao:Option Addr} {c:Nat} {ds:List Dv} {us:Nat→Bool} (h:PoolAt w pb db ao c ds us) (f:Nat→Bool):PoolAt (fillTo w pb f 16) pb db ao c ds f:=
 (fillTo_pool h f 16 (Nat.le_refl _)).congr (fun j hj=>by rw [if_pos hj])
theorem clF_bound {n:Nat} {us:Nat→Bool} {l:List Int} {k:Nat} (h:inBd (nth l k) n=false):clF n us l k=1:=by
 rw [clF,if_pos]
 simp [inBd] at h
 omega
theorem inB_iff {x:Int} {n:Nat} (h:inBd x n=true):∃ m:Nat,x=(m:Int)∧m<n:=by
 simp [inBd] at h
 exact ⟨x.toNat,by omega,by omega⟩
theorem clF_exist {n:Nat} {us:Nat→Bool} {l:List Int} {k m:Nat} (h:nth l k=(m:Int)) (hm:m<n) (hc:claimed us (l.take k) m=true):clF n us l k=5:=by
 rw [clF,h,if_neg (by omega),if_pos]
 exact hc
theorem clF_good {n:Nat} {us:Nat→Bool} {l:List Int} {k m:Nat} (h:nth l k=(m:Int)) (hm:m<n) (hc:claimed us (l.take k) m=false):clF n us l k=0:=by
 rw [clF,h,if_neg (by omega),if_neg]
 rw [show (us (m:Int).toNat || decide ((m:Int)∈l.take k))=claimed us (l.take k) m from rfl,hc]
 simp
theorem claimed_step {us:Nat→Bool} {l:List Int} {k m:Nat} (hk:k<l.length) (h:nth l k=(m:Int)) (j:Nat):claimed us (l.take (k+1)) j=if j=m then true else claimed us (l.take k) j:=by
 rw [Dvs.take_nth hk,h,Dvs.claimed_snoc _ _ _ (by omega)]
 by_cases e:j=m
 ·subst e;simp
 ·rw [if_neg e,decide_eq_false (by omega),Bool.or_false]
def claimOut (n:Nat) (us:Nat→Bool) (l:List Int):Nat→Bool:=if first (clF n us l) l.length=0 then claimed us l else us
end
end Go.Proofs.YtbfdcmodflnkfaaGreatDoor
