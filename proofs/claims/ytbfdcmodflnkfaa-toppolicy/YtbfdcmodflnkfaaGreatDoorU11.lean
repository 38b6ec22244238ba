/- OMath9, DCat, PMap, PW1, RD1, DClaim, OMath10, DTake, PSort, RE1, OMath11, DSame -/
import Derived.Test.YtbfdcmodflnkfaaGreatDoorU10
import Derived.Laws.AppendOwnNone
set_option maxRecDepth 100000
set_option maxHeartbeats 16000000
namespace Go.Proofs.YtbfdcmodflnkfaaGreatDoor
section
namespace Ol
open Dvs (Dv dv)
open Qos (Nd Ct Pd ct podF ownOf)
open Sv (Gv Hd gv hd heldF heldTxt body OkL OkH)
theorem give_one {m:Mc} {s:Sk} {p:Pd} (h1:p.cs.length=1):(give m s p).1=(giveOne m s (ownOf p.cs (ct p.cs 0).am) (ct p.cs 0).ds).1:=by
 unfold give
 rw [h1]
 show (giveTo m s p.cs 1).1=_
 rw [giveTo]
 have h0:(giveTo m s p.cs 0).1=0:=rfl
 rw [if_pos h0]
 show (giveNext m p.cs 0 [] s).1=_
 unfold giveNext
 by_cases hg:(giveOne m s (ownOf p.cs (ct p.cs 0).am) (ct p.cs 0).ds).1=0
 ·rw [if_pos hg,hg]
 ·rw [if_neg hg]
theorem short_one {h:Hd} (hf:heldF [h]=0) (hc:∀ g∈h.gs,g.cp<18446744073709551616) (h1:h.pod.cs.length=1):(heldTxt [h]).length≤6000:=by
 have ok:OkL [h]:=Sv.okL_of hf (fun x hx g hg=>by rw [List.mem_singleton.1 hx] at hg;exact hc g hg)
 have oh:OkH h:=ok.2 h (List.mem_singleton.2 rfl)
 have a:=Sv.podLine_le oh.1
 have b:=Sv.contsTo_le oh 1 (by omega)
 have c:=Sv.sumTxt_le (body [h])
 have e:body [h]=[]++(Sv.podLine h.pod++Sv.contsTo h h.pod.cs.length):=rfl
 have e2:(body [h]).length=(Sv.podLine h.pod).length+(Sv.contsTo h 1).length:=by rw [e,h1];simp
 have d:heldTxt [h]=body [h]++Sv.sumTxt (body [h]):=rfl
 rw [d,List.length_append]
 omega
theorem and_lt {a b:Nat} (h:a &&& b=a) (hb:b<18446744073709551616):a<18446744073709551616:=by
 rw [← h];exact Nat.lt_of_le_of_lt Nat.and_le_right hb
theorem admit_looser {m:Mc} {ds:List Dv} {p:Pd} {a q:Int} (hnd:m.nd<256) (hop:m.op<18446744073709551616) (hd:Dvs.fault ds=0) (h1:p.cs.length=1) (h0:0≤q) (h3:a≤3) (hqa:q≤a) (h:(admit ⟨{ m with pol:=a },ds,[]⟩ p).1=0):(admit ⟨{ m with pol:=q },ds,[]⟩ p).1=0:=by
 have hl:∀ x:Int,left { m with pol:=x } ds []=some ⟨m.op,ds,fun _=>false⟩:=fun x=>left_nil hd
 have hr:∀ x:Int,room { m with pol:=x } ([].map Hd.pod++[p])=room m ([].map Hd.pod++[p]):=fun x=>rfl
 unfold admit at h ⊢
 dsimp only at h ⊢
 rw [hl,Option.getD_some,hr] at h ⊢
 by_cases hp:podF p≠0
 ·rw [if_pos hp] at h;exact absurd h hp
 ·rw [if_neg hp] at h ⊢
  have hex:¬ ∃ x∈([]:List Hd),x.pod.nm=p.nm:=fun ⟨x,hx,_⟩=>by cases hx
  rw [if_neg hex,if_neg (by simp)] at h ⊢
  by_cases hro:room m ([].map Hd.pod++[p])=false
  ·rw [if_pos hro] at h;cases h
  ·rw [if_neg hro] at h ⊢
   have hn:Nice p.cs:=pod_nice (by omega)
   have hm:ct p.cs 0∈p.cs:=Sv.mem_ct (by omega)
   by_cases hg:(give { m with pol:=a } ⟨m.op,ds,fun _=>false⟩ p).1≠0
   ·rw [if_pos hg] at h;exact absurd h hg
   ·have hga:(give { m with pol:=a } ⟨m.op,ds,fun _=>false⟩ p).1=0:=by omega
    have hgq:(give { m with pol:=q } ⟨m.op,ds,fun _=>false⟩ p).1=0:=by
     rw [give_one h1] at hga ⊢
     exact giveOne_looser (m:=m) hnd (hn _ hm).2 h0 h3 hqa hga
    rw [if_neg (by omega)]
    have hinv:Inv ⟨{ m with pol:=q },ds,[]⟩:=⟨hd,by rfl,⟨_,hl q⟩⟩
    have hds:(⟨m.op,ds,fun _=>false⟩:Sk).ds.length≤16:=(Dvs.fault_nodes hd).1
    have hlen:(give { m with pol:=q } ⟨m.op,ds,fun _=>false⟩ p).2.length=p.cs.length:=giveTo_len _ _ p.cs p.cs.length hgq
    have hcl:=(giveTo_claims (m:={ m with pol:=q }) hds hn p.cs.length (Nat.le_refl _) hgq).1
    have hins:insertH [] (⟨p,(give { m with pol:=q } ⟨m.op,ds,fun _=>false⟩ p).2⟩:Hd)=[⟨p,(give { m with pol:=q } ⟨m.op,ds,fun _=>false⟩ p).2⟩]:=rfl
    have hhf:heldF [(⟨p,(give { m with pol:=q } ⟨m.op,ds,fun _=>false⟩ p).2⟩:Hd)]=0:=by
     refine heldF_iff.2 ⟨by simp,fun x hx=>?_,List.pairwise_singleton _ _⟩
     rw [List.mem_singleton.1 hx]
     have hp0:podF p=0:=by omega
     exact ⟨hp0,hlen,gsF_of (giveTo_dv p.cs.length)⟩
    have hcp:∀ g∈(give { m with pol:=q } ⟨m.op,ds,fun _=>false⟩ p).2,g.cp<18446744073709551616:=by
     intro g hg2
     rw [h1] at hcl
     obtain ⟨k,hk,rfl⟩:=Sv.gv_in hg2
     have hk0:k=0:=by omega
     subst hk0
     have e:(List.range 1).map (clAt p.cs (giveTo { m with pol:=q } ⟨m.op,ds,fun _=>false⟩ p.cs 1).2.1)=[clAt p.cs (giveTo { m with pol:=q } ⟨m.op,ds,fun _=>false⟩ p.cs 1).2.1 0]:=rfl
     rw [e,claims] at hcl
     obtain ⟨s1,e1,_⟩:=Option.bind_eq_some_iff.1 hcl
     have:=(claim_iff.1 e1).2.1.1
     unfold give
     rw [h1]
     exact and_lt this hop
    rw [hins,if_neg (by have:=short_one hhf hcp h1;omega)]
end Ol
end
section
open Go.RowKit
open Dvs (Dv dv0 dv nth)
def Src (w:World) (v:Value) (l:List Nat):Prop:=
 (v=.slice none 0 0∧l=[])∨∃ g c,v=.slice (some ⟨g,0,none⟩) l.length c∧g<w.heap.size∧∀ j u,(numsV l)[j]?=some u→w.cell? ((⟨g,0,none⟩:Addr).add j)=some u
theorem Row.src {w:World} {B:Nat} {v:Value} {l:List Nat} (h:Row w B v l):Src w v l:=by
 unfold Row at h
 rcases h.2 with ⟨rfl,h0⟩|⟨g,cap,cur,rfl,hg,hgc,_⟩
 ·exact .inl ⟨rfl,List.eq_nil_of_length_eq_zero h0⟩
 ·refine .inr ⟨g,cap,rfl,(Array.getElem?_eq_some_iff.1 hgc).1,fun j u hj=>?_⟩
  have hlt:j<l.length:=by rw [← numsV_len];exact (List.getElem?_eq_some_iff.1 hj).1
  rw [Addr.add_lit,Nat.zero_add,h.cellAt j (by omega)]
  exact hj
theorem Src.below {w w':World} {v:Value} {l:List Nat} (h:Src w v l) (hb:Below w.heap.size w w'):Src w' v l:=by
 rcases h with h|⟨g,c,hv,hlt,hc⟩
 ·exact .inl h
 ·exact .inr ⟨g,c,hv,Nat.lt_of_lt_of_le hlt hb.size,fun j u hj=>(hb.cell (p:=(⟨g,0,none⟩:Addr).add j) (by rw [Addr.add_lit];exact hlt)).trans (hc j u hj)⟩
theorem Src.form {w:World} {v:Value} {l:List Nat} (h:Src w v l):∃ ao c,v=.slice ao l.length c:=by
 rcases h with ⟨rfl,rfl⟩|⟨g,c,rfl,_⟩
 ·exact ⟨none,0,rfl⟩
 ·exact ⟨_,c,rfl⟩
theorem numsV_one (l:List Nat):∀ u∈numsV l,u.oneCell'=true:=by
 intro u hu
 simp only [numsV,List.mem_map] at hu
 obtain ⟨x,_,rfl⟩:=hu
 rfl
theorem grow_any (n:Nat) (w:World) (hn:n≤1000):Calls Tryz.prog 169 #[.slice none 0 0,.int .i64 n] w fun e w'=>∃ v,e=.returned v∧Row w' w.heap.size v []∧Below w.heap.size w w':=by
 by_cases h0:n=0
 ·subst h0
  refine (Any8.slices_Grow_room Tryz.growL none 0 0 0 w (by omega) (by omega) (by omega) (by omega)).mono ?_
  rintro e w' ⟨rfl,rfl⟩
  exact ⟨_,rfl,World.ownsRow_nil _ _ _ _,Below.refl _ _⟩
 ·obtain ⟨i0,hi,hz0,hz1,hz2⟩:=info_parts infoIntD
  have hi':Tryz.prog.info? (Tryz.growL_ren.t 25)=some i0:=hi
  refine (Any8.slices_Grow_grow Tryz.growL i0 (.int .i64 0) hi' hz0 (by omega) none 0 0 n [] w (by omega) (by omega) (by rw [hz2];omega) (by omega) (by rw [hz1];rfl) (fun _=>rfl) (fun a ha=>by cases ha)).mono ?_
  have ht:Tryz.growL_ren.t 25=3:=by kernel_rfl
  rw [ht]
  have hge:=grownCap_ge w (0+n) 0 3
  have hle:=grownCap_le_maxLen w (0+n) 0 3 (by unfold maxLen;omega)
  generalize grownCap w (0+n) 0 3=G at *
  rintro e w' ⟨rfl,rfl⟩
  have hz:(([]:List Value).toArray++Builtin.zeroCells (Value.int .i64 0).cells (0+n - 0)++Builtin.zeroCells (Value.int .i64 0).cells (G - (0+n))).size=G*1:=by
   simp [Builtin.zeroCells,Value.cells]
   omega
  generalize (([]:List Value).toArray++Builtin.zeroCells (Value.int .i64 0).cells (0+n - 0)++Builtin.zeroCells (Value.int .i64 0).cells (G - (0+n)))=cur at *
  have hown:World.ownsRow (w.drew.alloc (.cells cur 3)) w.heap.size 3 1 (.slice (some ⟨w.heap.size,0,none⟩) 0 G) 0 []:=by
   unfold World.ownsRow
   refine ⟨rfl,.inr ⟨w.heap.size,G,cur,rfl,Nat.le_refl _,?_,Nat.zero_le _,hle,hz,by simp⟩⟩
   show (w.heap.push (.cells cur 3))[w.heap.size]?=_
   simp
  refine ⟨_,rfl,hown,?_⟩
  ·exact (below_drew (Below.refl w.heap.size w)).alloc (Nat.le_refl _) _
def catTo (l1 l2:List Nat):Nat→List Nat
 | 0=>[]
 | 1=>l1
 | _=>l1++l2
theorem concat_two (v1 v2:Value) (l1 l2:List Nat) (T:Nat) (w:World) (h1:Src w v1 l1) (h2:Src w v2 l2) (c1:w.cell? ⟨T,0,none⟩=some v1) (c2:w.cell? ⟨T,1,none⟩=some v2) (hl1:l1.length≤16) (hl2:l2.length≤16) :
  Calls Tryz.prog 136 #[.slice (some ⟨T,0,none⟩) 2 2] w fun e w'=>∃ v,e=.returned v∧Row w' w.heap.size v (l1++l2)∧Below w.heap.size w w':=by
 obtain ⟨i0,hi,hz0,hz1,hz2⟩:=info_parts infoIntD
 have HS1:=hZz h1
 have HS2:=hZz h2
 have HT:=hZz (World.block_lt_of_cell? w _ c1)
 obtain ⟨a1,d1,rfl⟩:=h1.form
 obtain ⟨a2,d2,rfl⟩:=h2.form
 clear h1 h2
 go_enter Tryz.func136,Tryz.ntmps136
 go_wp2_with fail
 go_loop [3,11] (fun s i=>∃ k:Nat,k≤2∧i=.int .i64 k∧s=.int .i64 ((catTo l1 l2 k).length:Nat)) (fun _ i=>2 - (intOf i).toNat)
 case atStart=>exact ⟨0,by omega,rfl,rfl⟩
 case round=>
  obtain ⟨k,hk,rfl,rfl⟩:=hrel
  have key:k=0∨k=1∨k=2:=by omega
  rcases key with rfl|rfl|rfl
  ·have e0:(catTo l1 l2 0).length=0:=rfl
   rw [e0]
   go_wp2_with fail
   go_round
   case rel=>exact ⟨1,by omega,rfl,by show _=Value.int .i64 (l1.length:Nat);go_num⟩
   case measure=>simp [intOf]
  ·have e0:(catTo l1 l2 1).length=l1.length:=rfl
   rw [e0]
   go_wp2_with fail
   go_round
   case rel=>exact ⟨2,by omega,rfl,by show _=Value.int .i64 ((l1++l2).length:Nat);rw [List.length_append];go_num⟩
   case measure=>simp [intOf]
  ·have e0:(catTo l1 l2 2).length=l1.length+l2.length:=List.length_append
   rw [e0]
   go_wp2_with fail
   refine (grow_any (l1.length+l2.length) w (by omega)).mono ?_
   rintro e w1 ⟨v,rfl,hr,hb⟩
   have HR:=hZz hr
   have HB:=hZz hb
   clear hr hb
   go_wp2_with fail
   go_loopw [6,27] (fun u i wr=>∃ k:Nat,k≤2∧i=.int .i64 k∧Row wr w.heap.size u (catTo l1 l2 k)∧Below w.heap.size w wr) (fun _ i _=>2 - (intOf i).toNat)
   case atStart=>exact ⟨0,by omega,rfl,HR.out,HB.out⟩
   case round=>
    obtain ⟨k,hk,rfl,hr0,hB⟩:=hrel
    have key:k=0∨k=1∨k=2:=by omega
    rcases key with rfl|rfl|rfl
    ·have hS:=HS1.out.below hB
     have hc:=(hB.cell (p:=⟨T,0,none⟩) HT.out).trans c1
     have hr:World.ownsRow wr w.heap.size 3 1 u6 ([]:List Nat).length (numsV ([]:List Nat)):=hr0
     clear hr0
     rcases hS with ⟨hv,hl⟩|⟨g,cc,hv,hlt,hcs⟩
     ·simp only [Value.slice.injEq] at hv
      obtain ⟨e1,e2,e3⟩:=hv
      subst e1 e3
      rw [e2] at hc
      have hl':=hZz hl
      clear hl e2
      go_wp2_with (at_builtin;refine wpList_append_own_none rfl _ _ 67 rfl w.heap.size 3 i0 1 Tryz.underlying67 hi _ _ _ rfl hr rfl ?_)
      go_roundw
      case rel=>
       refine ⟨1,by omega,rfl,?_,hB⟩
       show Row _ _ _ (l1)
       rw [hl'.out]
       exact hr
      case measure=>simp [intOf]
     ·simp only [Value.slice.injEq] at hv
      obtain ⟨e1,_,e3⟩:=hv
      subst e1 e3
      have hB2:=hB.size
      go_wp2_with (at_builtin;refine wpList_append_own _ rfl _ _ 67 rfl w.heap.size 3 i0 (.int .i64 0) 1 8 Tryz.underlying67 hi hz0 hz1 hz2 rfl (by decide) _ _ _ rfl hr ⟨g,0,none⟩ l1.length d1 (numsV l1) rfl (by rw [numsV_len,Nat.mul_one]) hcs (numsV_one l1) (by unfold maxLen;simp;omega) (by simp;omega) (by omega) ?_;intro v' w2 hown' hgrow' _)
      go_roundw
      case rel=>
       refine ⟨1,by omega,rfl,?_,hB.grown hgrow' hB2 (fun j hj=>(hr.lt j hj).1)⟩
       show World.ownsRow _ _ _ _ _ (l1).length (numsV (l1))
       simpa [numsV] using hown'
      case measure=>simp [intOf]
    ·have hS:=HS2.out.below hB
     have hc:=(hB.cell (p:=⟨T,1,none⟩) HT.out).trans c2
     have hr:World.ownsRow wr w.heap.size 3 1 u6 (l1).length (numsV (l1)):=hr0
     clear hr0
     rcases hS with ⟨hv,hl⟩|⟨g,cc,hv,hlt,hcs⟩
     ·simp only [Value.slice.injEq] at hv
      obtain ⟨e1,e2,e3⟩:=hv
      subst e1 e3
      rw [e2] at hc
      have hl':=hZz hl
      clear hl e2
      go_wp2_with (at_builtin;refine wpList_append_own_none rfl _ _ 67 rfl w.heap.size 3 i0 1 Tryz.underlying67 hi _ _ _ rfl hr rfl ?_)
      go_roundw
      case rel=>
       refine ⟨2,by omega,rfl,?_,hB⟩
       show Row _ _ _ (l1++l2)
       rw [hl'.out,List.append_nil]
       exact hr
      case measure=>simp [intOf]
     ·simp only [Value.slice.injEq] at hv
      obtain ⟨e1,_,e3⟩:=hv
      subst e1 e3
      have hB2:=hB.size
      go_wp2_with (at_builtin;refine wpList_append_own _ rfl _ _ 67 rfl w.heap.size 3 i0 (.int .i64 0) 1 8 Tryz.underlying67 hi hz0 hz1 hz2 rfl (by decide) _ _ _ rfl hr ⟨g,0,none⟩ l2.length d2 (numsV l2) rfl (by rw [numsV_len,Nat.mul_one]) hcs (numsV_one l2) (by unfold maxLen;omega) (by omega) (by omega) ?_;intro v' w2 hown' hgrow' _)
      go_roundw
      case rel=>
       refine ⟨2,by omega,rfl,?_,hB.grown hgrow' hB2 (fun j hj=>(hr.lt j hj).1)⟩
       show World.ownsRow _ _ _ _ _ (l1++l2).length (numsV (l1++l2))
       have e:numsV (l1++l2)=numsV l1++numsV l2:=by simp [numsV]
       rw [e,List.length_append];exact hown'
      case measure=>simp [intOf]
    ·have HR2:=hZz hr0
     have HB2:=hZz hB
     clear hr0 hB
     go_wp2_with fail
     go_ret
     exact ⟨_,rfl,HR2.out,HB2.out⟩
end
section
open Go.RowKit Go.ChangeMaps
open Go.Maps (Keyed int_keyed keyOf_int_mk)
def LeftIs (w:World) (B n:Nat) (f:Int→Int):Prop:=
 ∃ D:DataW Unit,w.ownsMap Tryz.prog 3 (plainElem Tryz.prog 3) B n D∧∀ k:Int,0≤k→k<64→D.atKey (.int .i64 k) (.lit (.int .i64 0))=.lit (.int .i64 (f k))
theorem LeftIs.alloc {w:World} {B n:Nat} {f:Int→Int} (h:LeftIs w B n f) (o:Obj):LeftIs (w.alloc o) B n f:=by
 obtain ⟨D,ho,hk⟩:=h
 exact ⟨D,ho.alloc o,hk⟩
theorem LeftIs.below {w w':World} {B K n:Nat} {f:Int→Int} (h:LeftIs w B n f) (hb:Below K w w') (hK:B<K):LeftIs w' B n f:=by
 obtain ⟨D,⟨es,clock,hh,r⟩,hk⟩:=h
 exact ⟨D,⟨es,clock,(hb.block B hK).trans hh,r⟩,hk⟩
theorem LeftIs.lt {w:World} {B n:Nat} {f:Int→Int} (h:LeftIs w B n f):B<w.heap.size:=by
 obtain ⟨D,ho,_⟩:=h
 exact ho.lt
theorem LeftIs.made (w:World):LeftIs (w.alloc (.map #[] 0)) w.heap.size 0 (fun _=>0):=
 ⟨.map [],World.ownsMap_made w _ _ _,fun _ _ _=>rfl⟩
theorem zeroInt (w:World):(zeroValue 3).run Tryz.prog w=.ok (.int .i64 0) w:=by kernel_rfl
theorem wpList_lookLeft {ops:Array Oper} {rest:List Oper} {o:Oper} {a:Act} {Q:Exit→Act→World→Prop} (w:World) (hg:o.guard=none) (m x:Operand) (hop:o.op=Op.lookup 299 m x false)
  (B n:Nat) (f:Int→Int) (k:Int) (h0:0≤k) (h64:k<64) (hm:a.eval m=.map (some B)) (hx:a.eval x=.int .i64 k) (hM:LeftIs w B n f)
  (hK:wpList Tryz.prog ops Q rest (a.put o.dst (.int .i64 (f k))) w) :
  wpList Tryz.prog ops Q (o :: rest) a w:=by
 obtain ⟨D,ho,hk⟩:=hM
 refine wpList_lookup_own_int w hg m x 299 hop 3 3 .i64 keyLaw Tryz.underlying299 Tryz.underlying3 (zeroInt w) B n D hm ho _ (.int .i64 k) hx (keyOf_int_mk Tryz.underlying3 (wf64 h0 h64)) ?_
 intro c hc _
 rw [hk k h0 h64] at hc
 simp only [DataW.lit.injEq,Lit.int.injEq,true_and] at hc
 rw [← hc]
 exact hK
end
section
open Go.RowKit
open Ost (Cpu cpu0 chosen cnt dif wholesTo wholes sockAt coreAt)
theorem wholesSock (tb b o c F:Nat) (L:Int) (l:List Cpu) (w:World) (ht:TopoAt w tb b o c l) (hF:F<18446744073709551616) (h0:0≤L) (hL:L≤64) :
  Calls Tryz.prog 165 #[.func (.func 166) #[.pointer (some ⟨tb,0,none⟩)] #[],.int .u64 F,.int .i64 L] w fun e w'=>e=.returned (.int .u64 (wholes (sockAt l) F L:Nat))∧Below w.heap.size w w':=by
 have HT:=hZz ht
 have h64:=ht.len
 clear ht
 go_enter Tryz.func165,Tryz.ntmps165
 go_wp2_with fail
 go_loopw [7,10] (fun t i wr=>∃ k:Nat,k≤64∧i=.int .i64 k∧t=.int .u64 (wholesTo (sockAt l) F L k:Nat)∧Hid (TopoAt wr tb b o c l)∧Below w.heap.size w wr) (fun _ i _=>64 - (intOf i).toNat)
 case atStart=>exact ⟨0,by omega,rfl,rfl,HT,Below.refl _ _⟩
 case round=>
  obtain ⟨k,hk,rfl,rfl,HTr,hB⟩:=hrel
  by_cases hlt:k<64
  ·have HS:Hid (Calls Tryz.prog 166 #[.pointer (some ⟨tb,0,none⟩),.int .i64 k] wr fun e w'=>e=.returned (.int .u64 (sockAt l k:Nat))∧Below wr.heap.size wr w'):=sock_any tb b o c l k wr HTr.out
   have hs:=Ost.at_lt (·.sock) h64 k
   change sockAt l k<_ at hs
   have ht:=Ost.wholesTo_lt (sockAt l) F L k hF
   have HC1:=hZz (fun W=>bitsCount_any (sockAt l k) W hs)
   have HC2:=hZz (fun W=>bitsCount_any (wholesTo (sockAt l) F L k) W ht)
   have hc2:=Ost.wholesTo_cnt (Ost.at_parts (·.sock) l) F L h0 k
   change (cnt (wholesTo (sockAt l) F L k):Int)≤L at hc2
   have HI:=hZz (fun W=>inside_any (sockAt l k) F W hs hF)
   have HY:=hZz (fun h1 h2=>Ost.wholesTo_yes (f:=sockAt l) (free:=F) (many:=L) (k:=k) h1 h2)
   have HN1:=hZz (fun h1=>Ost.wholesTo_no1 (f:=sockAt l) (free:=F) (many:=L) (k:=k) h1)
   have HN2:=hZz (fun h1=>Ost.wholesTo_no2 (f:=sockAt l) (free:=F) (many:=L) (k:=k) h1)
   have HO:=hZz (bits_or_u64_nat (wholesTo (sockAt l) F L k) (sockAt l k) ht hs)
   change Hid (∀ W,Calls _ _ _ W fun e w'=>e=.returned (.int .i64 (cnt (sockAt l k):Nat))∧w'=W) at HC1
   change Hid (∀ W,Calls _ _ _ W fun e w'=>e=.returned (.int .i64 (cnt (wholesTo (sockAt l) F L k):Nat))∧w'=W) at HC2
   generalize sockAt l k=s at *
   go_wp2_with (go_at_call 166;refine HS.out.mono ?_;rintro e w1 ⟨rfl,hb⟩)
   have hB1:=hB.trans (hb.mono hB.size)
   have HT1:=hZz (HTr.out.below hb)
   clear HTr hb hB HS
   by_cases h1:s &&& F=s
   ·have e1:decide (s &&& F=s)=true:=decide_eq_true h1
    by_cases h2:(cnt s:Int)≤L - cnt (wholesTo (sockAt l) F L k)
    ·have HE:Hid (wholesTo (sockAt l) F L (k+1)=wholesTo (sockAt l) F L k ||| s):=HY.out h1 h2
     rw [e1] at HI
     clear h1 e1
     refine (HI.out w1).mono ?_
     rintro e w2 ⟨rfl,rfl⟩
     go_wp2_with fail
     refine (HC1.out _).mono ?_
     rintro e w2 ⟨rfl,rfl⟩
     go_wp2_with fail
     refine (HC2.out _).mono ?_
     rintro e w2 ⟨rfl,rfl⟩
     go_wp2_with fail
     go_roundw
     case rel=>exact ⟨k+1,by omega,by go_num,by rw [HE.out,← HO.out],HT1,hB1⟩
     case measure=>simp [intOf];omega
    ·have HE:Hid (wholesTo (sockAt l) F L (k+1)=wholesTo (sockAt l) F L k):=HN2.out (by omega)
     have h3:L - cnt (wholesTo (sockAt l) F L k)<(cnt s:Int):=by omega
     rw [e1] at HI
     clear h1 e1 h2
     refine (HI.out w1).mono ?_
     rintro e w2 ⟨rfl,rfl⟩
     go_wp2_with fail
     refine (HC1.out _).mono ?_
     rintro e w2 ⟨rfl,rfl⟩
     go_wp2_with fail
     refine (HC2.out _).mono ?_
     rintro e w2 ⟨rfl,rfl⟩
     go_wp2_with fail
     go_roundw
     case rel=>exact ⟨k+1,by omega,by go_num,by rw [HE.out],HT1,hB1⟩
     case measure=>simp [intOf];omega
   ·have e1:decide (s &&& F=s)=false:=decide_eq_false h1
    have HE:Hid (wholesTo (sockAt l) F L (k+1)=wholesTo (sockAt l) F L k):=HN1.out h1
    rw [e1] at HI
    clear h1 e1
    refine (HI.out w1).mono ?_
    rintro e w2 ⟨rfl,rfl⟩
    go_wp2_with fail
    go_roundw
    case rel=>exact ⟨k+1,by omega,by go_num,by rw [HE.out],HT1,hB1⟩
    case measure=>simp [intOf];omega
  ·have hk64:k=64:=by omega
   subst hk64
   clear hk hlt
   go_wp2_with fail
   go_ret
   exact ⟨rfl,hB⟩
theorem wholesCore (tb b o c F:Nat) (L:Int) (l:List Cpu) (w:World) (ht:TopoAt w tb b o c l) (hF:F<18446744073709551616) (h0:0≤L) (hL:L≤64) :
  Calls Tryz.prog 165 #[.func (.func 167) #[.pointer (some ⟨tb,0,none⟩)] #[],.int .u64 F,.int .i64 L] w fun e w'=>e=.returned (.int .u64 (wholes (coreAt l) F L:Nat))∧Below w.heap.size w w':=by
 have HT:=hZz ht
 have h64:=ht.len
 clear ht
 go_enter Tryz.func165,Tryz.ntmps165
 go_wp2_with fail
 go_loopw [7,10] (fun t i wr=>∃ k:Nat,k≤64∧i=.int .i64 k∧t=.int .u64 (wholesTo (coreAt l) F L k:Nat)∧Hid (TopoAt wr tb b o c l)∧Below w.heap.size w wr) (fun _ i _=>64 - (intOf i).toNat)
 case atStart=>exact ⟨0,by omega,rfl,rfl,HT,Below.refl _ _⟩
 case round=>
  obtain ⟨k,hk,rfl,rfl,HTr,hB⟩:=hrel
  by_cases hlt:k<64
  ·have HS:Hid (Calls Tryz.prog 167 #[.pointer (some ⟨tb,0,none⟩),.int .i64 k] wr fun e w'=>e=.returned (.int .u64 (coreAt l k:Nat))∧Below wr.heap.size wr w'):=core_any tb b o c l k wr HTr.out
   have hs:=Ost.at_lt (·.core) h64 k
   change coreAt l k<_ at hs
   have ht:=Ost.wholesTo_lt (coreAt l) F L k hF
   have HC1:=hZz (fun W=>bitsCount_any (coreAt l k) W hs)
   have HC2:=hZz (fun W=>bitsCount_any (wholesTo (coreAt l) F L k) W ht)
   have hc2:=Ost.wholesTo_cnt (Ost.at_parts (·.core) l) F L h0 k
   change (cnt (wholesTo (coreAt l) F L k):Int)≤L at hc2
   have HI:=hZz (fun W=>inside_any (coreAt l k) F W hs hF)
   have HY:=hZz (fun h1 h2=>Ost.wholesTo_yes (f:=coreAt l) (free:=F) (many:=L) (k:=k) h1 h2)
   have HN1:=hZz (fun h1=>Ost.wholesTo_no1 (f:=coreAt l) (free:=F) (many:=L) (k:=k) h1)
   have HN2:=hZz (fun h1=>Ost.wholesTo_no2 (f:=coreAt l) (free:=F) (many:=L) (k:=k) h1)
   have HO:=hZz (bits_or_u64_nat (wholesTo (coreAt l) F L k) (coreAt l k) ht hs)
   change Hid (∀ W,Calls _ _ _ W fun e w'=>e=.returned (.int .i64 (cnt (coreAt l k):Nat))∧w'=W) at HC1
   change Hid (∀ W,Calls _ _ _ W fun e w'=>e=.returned (.int .i64 (cnt (wholesTo (coreAt l) F L k):Nat))∧w'=W) at HC2
   generalize coreAt l k=s at *
   go_wp2_with (go_at_call 167;refine HS.out.mono ?_;rintro e w1 ⟨rfl,hb⟩)
   have hB1:=hB.trans (hb.mono hB.size)
   have HT1:=hZz (HTr.out.below hb)
   clear HTr hb hB HS
   by_cases h1:s &&& F=s
   ·have e1:decide (s &&& F=s)=true:=decide_eq_true h1
    by_cases h2:(cnt s:Int)≤L - cnt (wholesTo (coreAt l) F L k)
    ·have HE:Hid (wholesTo (coreAt l) F L (k+1)=wholesTo (coreAt l) F L k ||| s):=HY.out h1 h2
     rw [e1] at HI
     clear h1 e1
     refine (HI.out w1).mono ?_
     rintro e w2 ⟨rfl,rfl⟩
     go_wp2_with fail
     refine (HC1.out _).mono ?_
     rintro e w2 ⟨rfl,rfl⟩
     go_wp2_with fail
     refine (HC2.out _).mono ?_
     rintro e w2 ⟨rfl,rfl⟩
     go_wp2_with fail
     go_roundw
     case rel=>exact ⟨k+1,by omega,by go_num,by rw [HE.out,← HO.out],HT1,hB1⟩
     case measure=>simp [intOf];omega
    ·have HE:Hid (wholesTo (coreAt l) F L (k+1)=wholesTo (coreAt l) F L k):=HN2.out (by omega)
     have h3:L - cnt (wholesTo (coreAt l) F L k)<(cnt s:Int):=by omega
     rw [e1] at HI
     clear h1 e1 h2
     refine (HI.out w1).mono ?_
     rintro e w2 ⟨rfl,rfl⟩
     go_wp2_with fail
     refine (HC1.out _).mono ?_
     rintro e w2 ⟨rfl,rfl⟩
     go_wp2_with fail
     refine (HC2.out _).mono ?_
     rintro e w2 ⟨rfl,rfl⟩
     go_wp2_with fail
     go_roundw
     case rel=>exact ⟨k+1,by omega,by go_num,by rw [HE.out],HT1,hB1⟩
     case measure=>simp [intOf];omega
   ·have e1:decide (s &&& F=s)=false:=decide_eq_false h1
    have HE:Hid (wholesTo (coreAt l) F L (k+1)=wholesTo (coreAt l) F L k):=HN1.out h1
    rw [e1] at HI
    clear h1 e1
    refine (HI.out w1).mono ?_
    rintro e w2 ⟨rfl,rfl⟩
    go_wp2_with fail
    go_roundw
    case rel=>exact ⟨k+1,by omega,by go_num,by rw [HE.out],HT1,hB1⟩
    case measure=>simp [intOf];omega
  ·have hk64:k=64:=by omega
   subst hk64
   clear hk hlt
   go_wp2_with fail
   go_ret
   exact ⟨rfl,hB⟩
end
section
open Go.RowKit
def DiskZ (w:World) (B:Nat) (l:Int) (d:Bool):Prop:=w.heap[B]?=some (.cells #[.bool false,.string ⟨#[]⟩,.bool false,.string ⟨#[]⟩,.bool false,.string ⟨#[]⟩,.bool false,.string ⟨#[]⟩,.slice none 0 0,.int .i64 l,.bool d] 130 (0,0))
def Only (B:Nat) (w w':World):Prop:=w.grownBy w' (some B)∧w'.heap.size=w.heap.size
def stepL (l:Int) (d:Bool):Int:=if d=true∨l=0 then l else if 0<l then l - 1 else l
def stepD (l:Int) (d:Bool):Bool:=decide (d=true∨l=0)
end
section
open Go.RowKit
open Dvs (Dv dv0 dv nth first clF gvF claimed given Nodes)
theorem claim_any (v:Value) (g o:Nat) (l:List Int) (w:World) (pb db:Nat) (ao:Option Addr) (c:Nat) (ds:List Dv) (us:Nat→Bool) (h:PoolAt w pb db ao c ds us) (hN:Nodes ds) (hl:NumsAt w v g o l) (hl2:l.length≤9223372036854775807) :
  Calls Tryz.prog 129 #[.pointer (some ⟨pb,0,none⟩),v] w fun e w'=>e=.returned (errV (first (clF ds.length us l) l.length:Nat))∧w.grownBy w' (some pb)∧PoolAt w' pb db ao c ds (claimOut ds.length us l):=by
 have HL:=hZz hl
 obtain ⟨al,cl,rfl,_⟩:=hl
 have HN:=hZz hN
 have HP:=hZz h
 have u0:=(h.used 0 (by decide)).1
 have u1:=(h.used 1 (by decide)).1
 have u2:=(h.used 2 (by decide)).1
 have u3:=(h.used 3 (by decide)).1
 have u4:=(h.used 4 (by decide)).1
 have u5:=(h.used 5 (by decide)).1
 have u6:=(h.used 6 (by decide)).1
 have u7:=(h.used 7 (by decide)).1
 have u8:=(h.used 8 (by decide)).1
 have u9:=(h.used 9 (by decide)).1
 have u10:=(h.used 10 (by decide)).1
 have u11:=(h.used 11 (by decide)).1
 have u12:=(h.used 12 (by decide)).1
 have u13:=(h.used 13 (by decide)).1
 have u14:=(h.used 14 (by decide)).1
 have u15:=(h.used 15 (by decide)).1
 have HT0:Hid (BitsAt (w.alloc (.cells (bitsV us) 169)) w.heap.size (claimed us (l.take 0))):=by
  rw [List.take_zero,Dvs.claimed_nil]
  exact BitsAt.made w _ us
 have HP0:=hZz (h.alloc (.cells (bitsV us) 169))
 have HB0:=hZz ((Below.refl w.heap.size w).alloc (Nat.le_refl _) (.cells (bitsV us) 169))
 have HL0:=hZz (HL.out.below HB0.out)
 unfold bitsV at HT0 HP0 HB0 HL0
 clear h hN
 go_enter Tryz.func129,Tryz.ntmps129
 go_wp2_with fail
 go_loopw [14] (fun i wr=>∃ k:Nat,k≤l.length∧i=.int .i64 k∧Hid (first (clF ds.length us l) k=0)∧BitsAt wr w.heap.size (claimed us (l.take k))∧PoolAt wr pb db ao c ds us∧NumsAt wr (.slice al l.length cl) g o l∧Below w.heap.size w wr) (fun i _=>l.length - (intOf i).toNat)
 case atStart=>exact ⟨0,by omega,rfl,rfl,HT0.out,HP0.out,HL0.out,HB0.out⟩
 case round=>
  obtain ⟨k,hk,rfl,HK,hT,hP,hLn,hB⟩:=hrel
  have hp:=HP.out.lt
  by_cases hlt:k<l.length
  ·have HLn:=hZz hLn
   obtain ⟨al',cl',hv,hcs⟩:=hLn
   obtain ⟨rfl,hlg,hcs⟩:=hcs (by omega)
   cases hv
   have hx:=hcs k hlt
   have HT:=hZz hT
   have HPk:=hZz hP
   have HBk:=hZz hB
   have HH:=hZz (has_any (nth l k) wr pb db ao c ds us hP)
   have HW:=hZz (fun n hn=>(Dvs.first_hit (f:=clF ds.length us l) (n:=l.length) HK.out (by rw [hn];simp) hlt).trans (hn:clF ds.length us l k=n+1))
   rcases two (inBd (nth l k) ds.length) with hb|hb
   ·obtain ⟨m,hm,hmn⟩:=inB_iff hb
    have hm16:m<16:=by have:=HN.out.1;omega
    have hbit:=(hT m hm16)
    have hbit1:=hbit.1
    have hbit2:=hbit.2
    have hus:=(hP.used m hm16).1
    rw [hb] at HH
    clear hbit hT hP hB hcs hb
    rcases two (claimed us (l.take k) m) with hc|hc
    ·have HE:=hZz (HW.out 4 (clF_exist hm hmn hc))
     have HO:Hid (claimOut ds.length us l=us):=by unfold Hid claimOut;rw [HE.out,if_neg (by decide)]
     rw [hc] at hbit1
     rw [hm] at hx HH
     clear hc HW
     go_wp2_with fail
     refine HH.out.mono ?_
     rintro e w1 ⟨rfl,rfl⟩
     go_wp2_with fail
     go_ret
     exact ⟨by rw [HE.out];rfl,grown_below HBk.out _,by rw [HO.out];exact HPk.out⟩
    ·have HK1:Hid (first (clF ds.length us l) (k+1)=0):=Dvs.first_zero HK.out (clF_good hm hmn hc)
     have HT1:=hZz (HT.out.set (g:=claimed us (l.take (k+1))) hm16 true (fun j _=>claimed_step hlt hm j))
     have HP1:=hZz (HPk.out.kept (grown_setCell wr ⟨w.heap.size,m,none⟩ (.bool true)) (by simp;omega) (fun h0=>by have:=(HP.out.at0 h0).2.2;simp;omega))
     have HL1:=hZz (HLn.out.kept (grown_setCell wr ⟨w.heap.size,m,none⟩ (.bool true)) (fun h0=>by have:=HL.out;obtain ⟨a1,a2,a3,a4⟩:=this;have:=(a4 h0).2.1;simp;omega))
     have HB1:=hZz (HBk.out.setCell (p:=⟨w.heap.size,m,none⟩) (Nat.le_refl _) (.bool true))
     rw [hc] at hbit1
     rw [hm] at hx HH
     clear hc HW
     go_wp2_with fail
     refine HH.out.mono ?_
     rintro e w1 ⟨rfl,rfl⟩
     go_wp2_with fail
     go_roundw
     case rel=>exact ⟨k+1,by omega,by go_num,HK1,HT1.out,HP1.out,HL1.out,HB1.out⟩
     case measure=>simp [intOf];omega
   ·have HE:=hZz (HW.out 0 (clF_bound hb))
    have HO:Hid (claimOut ds.length us l=us):=by unfold Hid claimOut;rw [HE.out,if_neg (by decide)]
    rw [hb] at HH
    clear hb HW hT hP hB hcs
    go_wp2_with fail
    refine HH.out.mono ?_
    rintro e w1 ⟨rfl,rfl⟩
    go_wp2_with fail
    go_ret
    exact ⟨by rw [HE.out];rfl,grown_below HBk.out _,by rw [HO.out];exact HPk.out⟩
  ·have hke:k=l.length:=by omega
   subst hke
   have HO:Hid (claimOut ds.length us l=claimed us (l.take l.length)):=by unfold Hid claimOut;rw [HK.out,if_pos rfl,List.take_length]
   have HBk:=hZz hB
   have HF:=hZz (fill_pool hP (claimed us (l.take l.length)))
   have HG:=hZz ((grown_below hB (some pb)).trans (fillTo_grown wr pb (claimed us (l.take l.length)) 16))
   have t0:=(hT 0 (by decide)).1
   have z0:=(hP.used 0 (by decide)).2
   have s0:=(hP.used 0 (by decide)).1
   have t1:=(hT 1 (by decide)).1
   have z1:=(hP.used 1 (by decide)).2
   have s1:=(hP.used 1 (by decide)).1
   have t2:=(hT 2 (by decide)).1
   have z2:=(hP.used 2 (by decide)).2
   have s2:=(hP.used 2 (by decide)).1
   have t3:=(hT 3 (by decide)).1
   have z3:=(hP.used 3 (by decide)).2
   have s3:=(hP.used 3 (by decide)).1
   have t4:=(hT 4 (by decide)).1
   have z4:=(hP.used 4 (by decide)).2
   have s4:=(hP.used 4 (by decide)).1
   have t5:=(hT 5 (by decide)).1
   have z5:=(hP.used 5 (by decide)).2
   have s5:=(hP.used 5 (by decide)).1
   have t6:=(hT 6 (by decide)).1
   have z6:=(hP.used 6 (by decide)).2
   have s6:=(hP.used 6 (by decide)).1
   have t7:=(hT 7 (by decide)).1
   have z7:=(hP.used 7 (by decide)).2
   have s7:=(hP.used 7 (by decide)).1
   have t8:=(hT 8 (by decide)).1
   have z8:=(hP.used 8 (by decide)).2
   have s8:=(hP.used 8 (by decide)).1
   have t9:=(hT 9 (by decide)).1
   have z9:=(hP.used 9 (by decide)).2
   have s9:=(hP.used 9 (by decide)).1
   have t10:=(hT 10 (by decide)).1
   have z10:=(hP.used 10 (by decide)).2
   have s10:=(hP.used 10 (by decide)).1
   have t11:=(hT 11 (by decide)).1
   have z11:=(hP.used 11 (by decide)).2
   have s11:=(hP.used 11 (by decide)).1
   have t12:=(hT 12 (by decide)).1
   have z12:=(hP.used 12 (by decide)).2
   have s12:=(hP.used 12 (by decide)).1
   have t13:=(hT 13 (by decide)).1
   have z13:=(hP.used 13 (by decide)).2
   have s13:=(hP.used 13 (by decide)).1
   have t14:=(hT 14 (by decide)).1
   have z14:=(hP.used 14 (by decide)).2
   have s14:=(hP.used 14 (by decide)).1
   have t15:=(hT 15 (by decide)).1
   have z15:=(hP.used 15 (by decide)).2
   have s15:=(hP.used 15 (by decide)).1
   clear hT hP hB hLn
   generalize claimed us (l.take l.length)=f at *
   go_wp2_with fail
   go_ret
   refine ⟨by rw [HK.out];rfl,HG.out,?_⟩
   rw [HO.out]
   exact HF.out
end
section
namespace Ol
open Ost (Cpu chosen cnt dif takeOut listTo)
open Dvs (Dv dv)
open Qos (Nd Ct Pd ct podF ownOf sumM sumTo classOf)
open Sv (Gv Hd gv hd heldF)
def owns (l:List Cl):Int:=(l.map Cl.own).sum
theorem claims_cnt:∀ {l:List Cl} {s s':Sk},claims s l=some s'→(cnt s'.cp:Int)+owns l=cnt s.cp∧(s'.cp &&& s.cp=s'.cp):=by
 intro l
 induction l with
 | nil=>intro s s' h;injection h with h;subst h;exact ⟨by simp [owns],Nat.and_self _⟩
 | cons x r ih=>
  intro s s' h
  rw [claims] at h
  obtain ⟨s1,e1,e2⟩:=Option.bind_eq_some_iff.1 h
  obtain ⟨a1,a2⟩:=ih e2
  obtain ⟨b1,b2,rfl⟩:=claim_iff.1 e1
  have hd:=Ost.cnt_dif b2.1
  have hx:=b1.1
  have e3:(took1 s x).cp=dif s.cp x.g.cp:=rfl
  rw [e3] at a1 a2
  refine ⟨?_,?_⟩
  ·unfold owns at a1 ⊢
   rw [List.map_cons,List.sum_cons]
   omega
  ·apply Nat.eq_of_testBit_eq;intro i
   have e:=congrArg (fun n=>Nat.testBit n i) a2
   simp only [Nat.testBit_and,Ost.dif_bit] at e ⊢
   cases h1:s'.cp.testBit i <;> cases h2:s.cp.testBit i <;> simp_all
theorem owns_app (a b:List Cl):owns (a++b)=owns a+owns b:=by unfold owns;rw [List.map_append,List.sum_append]
theorem own_le {cs:List Ct} {am:Int} (h:0≤am):0≤ownOf cs am∧1000*ownOf cs am≤am:=by
 unfold ownOf
 split <;> omega
def ownsTo (cs:List Ct):Nat→Int
 | 0=>0
 | k+1=>ownsTo cs k+ownOf cs (ct cs k).am
theorem ownsTo_le {cs:List Ct} (h:∀ c∈cs,0≤c.am):∀ k,k≤cs.length→0≤ownsTo cs k∧1000*ownsTo cs k≤sumM cs k:=by
 intro k
 induction k with
 | zero=>intro _;exact ⟨Int.le_refl _,Int.le_refl _⟩
 | succ k ih=>
  intro hk
  have h1:=ih (by omega)
  have h2:=own_le (cs:=cs) (h _ (Sv.mem_ct (show k<cs.length by omega)))
  have e:sumM cs (k+1)=sumM cs k+(ct cs k).am:=rfl
  rw [ownsTo,e]
  omega
theorem ownsTo_mono {cs:List Ct} (h:∀ c∈cs,0≤c.am) {k n:Nat} (hk:k≤n) (hn:n≤cs.length):ownsTo cs k≤ownsTo cs n:=by
 induction n with
 | zero=>
  obtain rfl:k=0:=by omega
  exact Int.le_refl _
 | succ n ih=>
  by_cases e:k=n+1
  ·rw [e];exact Int.le_refl _
  ·have h1:=ih (by omega) (by omega)
   have h2:=own_le (cs:=cs) (h _ (Sv.mem_ct (show n<cs.length by omega)))
   rw [ownsTo];omega
theorem owns_range (cs:List Ct) (gs:List Gv):∀ k,owns ((List.range k).map (clAt cs gs))=ownsTo cs k:=by
 intro k
 induction k with
 | zero=>rfl
 | succ k ih=>
  rw [List.range_succ,List.map_append,owns_app,ih,ownsTo]
  simp [owns,clAt]
theorem owns_cls {h:Hd} (hl:h.gs.length=h.pod.cs.length):owns (clsOf h)=ownsTo h.pod.cs h.pod.cs.length:=by
 unfold clsOf
 rw [hl]
 exact owns_range h.pod.cs h.gs h.pod.cs.length
theorem am_pos {p:Pd} (h:podF p=0):∀ c∈p.cs,0≤c.am:=fun c hc=>(((Sv.okP_of h).2.2.2) c hc).2.1.1
theorem owns_all {hs:List Hd} (h:∀ x∈hs,podF x.pod=0∧x.gs.length=x.pod.cs.length):0≤owns (clsAll hs)∧1000*owns (clsAll hs)≤sumsM (hs.map Hd.pod):=by
 induction hs with
 | nil=>exact ⟨Int.le_refl _,Int.le_refl _⟩
 | cons x r ih=>
  have h1:=ih fun y hy=>h y (List.mem_cons_of_mem _ hy)
  have h2:=h x (List.mem_cons_self ..)
  have h3:=ownsTo_le (am_pos h2.1) x.pod.cs.length (Nat.le_refl _)
  have e1:clsAll (x :: r)=clsOf x++clsAll r:=rfl
  rw [e1,owns_app,owns_cls h2.2]
  have e2:sumsM ((x :: r).map Hd.pod)=sumM x.pod.cs x.pod.cs.length+sumsM (r.map Hd.pod):=by unfold sumsM;simp
  rw [e2]
  omega
theorem sums_app (a b:List Pd):sumsM (a++b)=sumsM a+sumsM b:=by unfold sumsM;rw [List.map_append,List.sum_append]
theorem left_cnt {m:Mc} {ds:List Dv} {hs:List Hd} {s:Sk} (h:left m ds hs=some s):(cnt s.cp:Int)+owns (clsAll hs)=cnt m.op∧s.cp &&& m.op=s.cp:=by
 unfold left at h
 split at h
 ·rw [leftTo_eq _ _ _ (Nat.le_refl _),List.take_length] at h
  exact claims_cnt h
 ·cases h
theorem takeOut_good {l:List Cpu} {F:Nat} {L:Int} {on:Nat} (h0:0≤L) (h64:cnt F≤64) (hc:L≤cnt F) (hin:F &&& chosen (fun _=>true) l=F):(takeOut l F L on).2=0:=by
 rw [Ost.take_good on h0 (by omega) hin hc]
theorem give_room {m:Mc} {ds:List Dv} {hs:List Hd} {s:Sk} {p:Pd} (hpol:m.pol=0) (hop:m.op &&& chosen (fun _=>true) m.l=m.op) (h64:∀ A:Nat,cnt A≤64) (hl:left m ds hs=some s) (hdl:ds.length≤16) (hh:∀ x∈hs,podF x.pod=0∧x.gs.length=x.pod.cs.length) (hp:podF p=0)
  (hno:∀ c∈p.cs,c.ds=[]) (hr:room m (hs.map Hd.pod++[p])=true):(give m s p).1=0:=by
 obtain ⟨c1,c2⟩:=left_cnt hl
 obtain ⟨o1,o2⟩:=owns_all hh
 have hsum:sumsM (hs.map Hd.pod++[p])≤1000*(cnt m.op:Int):=by
  unfold room at hr
  rw [Bool.and_eq_true,decide_eq_true_eq] at hr
  exact hr.1
 rw [sums_app] at hsum
 have e1:sumsM [p]=sumM p.cs p.cs.length:=by unfold sumsM;simp
 rw [e1] at hsum
 have hpo:=ownsTo_le (am_pos hp) p.cs.length (Nat.le_refl _)
 have hfit:ownsTo p.cs p.cs.length≤cnt s.cp:=by omega
 have hsds:s.ds.length≤16:=by rw [left_ds hl];exact hdl
 have hsub:s.cp &&& chosen (fun _=>true) m.l=s.cp:=by
  rw [← c2,Nat.and_assoc,hop]
 have key:∀ k,k≤p.cs.length→(giveTo m s p.cs k).1=0:=by
  intro k
  induction k with
  | zero=>intro _;rfl
  | succ k ih=>
   intro hk
   have h0:=ih (by omega)
   obtain ⟨g1,g2⟩:=giveTo_claims (m:=m) hsds (pod_nice hp) k (by omega) h0
   obtain ⟨d1,d2⟩:=claims_cnt g1
   rw [owns_range] at d1
   rw [giveTo,if_pos h0]
   generalize (giveTo m s p.cs k).2.1=gs at *
   generalize (giveTo m s p.cs k).2.2=s' at *
   have hm:ct p.cs k∈p.cs:=Sv.mem_ct (by omega)
   have hds:=hno _ hm
   have hmono:=ownsTo_mono (am_pos hp) (k:=k+1) (n:=p.cs.length) hk (Nat.le_refl _)
   have hown:=own_le (cs:=p.cs) (am_pos hp _ hm)
   rw [ownsTo] at hmono
   have hsub':s'.cp &&& chosen (fun _=>true) m.l=s'.cp:=by rw [← d2,Nat.and_assoc,hsub]
   have hgo:(giveOne m s' (ownOf p.cs (ct p.cs k).am) (ct p.cs k).ds).1=0:=by
    rw [hds,giveOne_iff List.Pairwise.nil]
    refine ⟨?_,takeOut_good hown.1 (h64 _) (by omega) hsub',rfl⟩
    unfold place
    rw [if_pos hpol]
   unfold giveNext
   rw [if_pos hgo]
 exact key p.cs.length (Nat.le_refl _)
end Ol
end
section
open Go.RowKit
open Dvs (Dv dv0 dv nth fits near nearP farP sel ord took usedBy srt takeF Nodes)
theorem flip_bit (m n:Nat) (hm:m<256) (hn:n≤3):(255 - m).testBit n=!m.testBit n:=by
 have key:∀ (a:Fin 256) (b:Fin 4),(255 - a.val).testBit b.val=!a.val.testBit b.val:=by decide +kernel
 exact key ⟨m,hm⟩ ⟨n,by omega⟩
theorem far_sel {ds:List Dv} (hN:Nodes ds) (us:Nat→Bool) (kind:ByteArray) (m:Nat) (hm:m<256):sel (nearP ds us kind (255 - m)) ds.length=sel (farP ds us kind m) ds.length:=by
 refine Dvs.sel_congr fun j hj=>?_
 have:=hN.2 j hj
 unfold nearP farP near
 rw [flip_bit m _ hm (by omega)]
theorem xor_max (m:Nat) (hm:m<256):bits BinOp.xor IntKind.u8 IntKind.u8.max (m:Int)=((255 - m:Nat):Int):=by
 have key:∀ (a:Fin 256),bits BinOp.xor IntKind.u8 IntKind.u8.max ((a.val:Nat):Int)=((255 - a.val:Nat):Int):=by decide +kernel
 exact key ⟨m,hm⟩
def Took (bad:Nat→Value) (w:World) (pb db:Nat) (ao:Option Addr) (c:Nat) (ds:List Dv) (us:Nat→Bool) (kind:ByteArray) (m:Nat) (many:Int) (e:Ending) (w':World):Prop:=
 (takeF ds us kind many≠0→e=.returned (.tuple #[.slice none 0 0,bad (takeF ds us kind many)])∧Below w.heap.size w w')∧
 (takeF ds us kind many=0→∃ v g,e=.returned (.tuple #[v,bad 0])∧NumsAt w' v g 0 (ints (srt (took ds us kind m many.toNat)))∧(0<(srt (took ds us kind m many.toNat)).length→w.heap.size≤g)∧PoolAt w' pb db ao c ds (usedBy us (took ds us kind m many.toNat)))∧
 w.grownBy w' (some pb)
theorem Took.wrong {bad:Nat→Value} {w:World} {pb db:Nat} {ao:Option Addr} {c:Nat} {ds:List Dv} {us:Nat→Bool} {kind:ByteArray} {m:Nat} {many:Int} {e:Ending} {w':World} {n:Nat} (hf:takeF ds us kind many=n) (hn:n≠0) (he:e=.returned (.tuple #[.slice none 0 0,bad n])) (hb:Below w.heap.size w w'):Took bad w pb db ao c ds us kind m many e w':=
 ⟨fun _=>⟨by rw [hf];exact he,hb⟩,fun h=>by omega,grown_below hb _⟩
theorem Row.nums {w:World} {B:Nat} {v:Value} {l:List Nat} (h:Row w B v l):∃ g,NumsAt w v g 0 (ints l)∧(0<l.length→B≤g):=by
 unfold Row at h
 rcases h.2 with ⟨rfl,h0⟩|⟨g,cap,cur,rfl,hg,hgc,_⟩
 ·have:=List.eq_nil_of_length_eq_zero h0
  subst this
  exact ⟨0,⟨none,0,rfl,fun h=>by simp [ints] at h⟩,fun h=>by simp at h⟩
 ·refine ⟨g,⟨_,cap,by rw [ints_len],fun _=>⟨rfl,(Array.getElem?_eq_some_iff.1 hgc).1,fun k hk=>?_⟩⟩,fun _=>hg⟩
  rw [ints_len] at hk
  rw [Nat.zero_add,h.cellAt k (by omega)]
  simp [numsV,nth,ints,hk]
theorem grown_then {a b c:World} {r r':Option Nat} (h:a.grownBy b r) (k:b.grownBy c r') (hr:∀ j,r'=some j→a.heap.size≤j∨r=some j):a.grownBy c r:=
 ⟨k.os.trans h.os,k.tape.trans h.tape,k.output.trans h.output,Nat.le_trans h.size k.size,fun i hi hne=>(k.block i (Nat.lt_of_lt_of_le hi h.size) (fun e=>by rcases hr i e.symm with h1|h1;omega;exact hne h1.symm)).trans (h.block i hi hne)⟩
theorem usedBy_step {us:Nat→Bool} {l:List Nat} {k q:Nat} (hq:l[k]?=some q) (j:Nat):usedBy us (l.take (k+1)) j=if j=q then true else usedBy us (l.take k) j:=by
 rw [List.take_add_one,hq]
 show usedBy us (l.take k++[q]) j=_
 rw [Dvs.usedBy_snoc]
 by_cases e:j=q
 ·rw [if_pos e,decide_eq_true e,Bool.or_true]
 ·rw [if_neg e,decide_eq_false e,Bool.or_false]
theorem sort_took {L:List Nat} (h16:∀ j∈L,j<16) (hn:L.Nodup) {wr:World} {B g cap:Nat} {cur:Array Value} (hB:B≤g) (hgc:wr.heap[g]?=some (.cells cur 3 (0,0))) (hlc:L.length≤cap) (hcm:cap≤maxLen) (hcs:cur.size=cap*1) (hct:cur.toList.take L.length=numsV L) (hsl:L.length<4611686018427387904) :
  Calls Tryz.prog 104 #[.slice (some ⟨g,0,none⟩) L.length cap] wr fun e w'=>e=.returned (.tuple #[])∧Row w' B (.slice (some ⟨g,0,none⟩) (srt L).length cap) (srt L)∧wr.grownBy w' (some g):=by
 have hlt:g<wr.heap.size:=(Array.getElem?_eq_some_iff.1 hgc).1
 have hil:(ints L).length=L.length:=ints_len L
 have hmap:(ints L).map (Value.int .i64)=numsV L:=by simp [ints,numsV]
 have hH:=holds_of_blockI (ss:=ints L) hgc (by rw [hil,hct,hmap])
 have hS:=Any.slices_Sort_int Tryz.sortL9 g 0 cap (ints L) wr hH hlt (by rw [hil];exact hsl)
 rw [hil] at hS
 refine hS.mono ?_
 rintro e w' ⟨rfl,n,os,rfl⟩
 have hso:(ints L).mergeSort (fun x y=>decide (x≤y))=ints (srt L):=Dvs.sorted_srt h16 hn
 have hsl2:(srt L).length=L.length:=Dvs.srt_len h16 hn
 rw [hso]
 refine ⟨rfl,?_,grownBy_sortedI _⟩
 have:=ownsRow_sortedI (ss:=ints L) (ts:=ints (srt L)) (base:=B) (n:=n) (os:=os) (by rw [ints_len,hil,hsl2]) hB hgc (by rw [hil];exact hlc) hcm hcs
 rw [hil] at this
 unfold Row
 rw [hsl2]
 have e2:(ints (srt L)).map (Value.int .i64)=numsV (srt L):=by simp [ints,numsV]
 rw [e2] at this
 exact this
theorem take_neg (kind:ByteArray) (many:Int) (m:Nat) (w:World) (pb:Nat) (h:many<0) :
  Calls Tryz.prog 103 #[.pointer (some ⟨pb,0,none⟩),.string kind,.int .i64 many,.int .u8 m] w fun e w'=>e=.returned (.tuple #[.slice none 0 0,.iface 94 (.int .i64 1)])∧w'=w:=by
 go_enter Tryz.func103,Tryz.ntmps103
 go_wp2_with fail
 go_ret2
 exact ⟨rfl,rfl⟩
theorem take_pos (kind:ByteArray) (many m:Nat) (w:World) (pb db:Nat) (ao:Option Addr) (c:Nat) (ds:List Dv) (us:Nat→Bool) (h:PoolAt w pb db ao c ds us) (hN:Nodes ds) (hm:m<256) :
  Calls Tryz.prog 103 #[.pointer (some ⟨pb,0,none⟩),.string kind,.int .i64 many,.int .u8 m] w fun e w'=>Took (fun n=>errV n) w pb db ao c ds us kind m many e w':=by
 have HR1:=hZz (ready_any kind m w pb db ao c ds us h hN hm)
 have HR2:Hid (∀ W,PoolAt W pb db ao c ds us→Calls Tryz.prog 137 #[.pointer (some ⟨pb,0,none⟩),.string kind,.int .u8 (bits BinOp.xor IntKind.u8 IntKind.u8.max m)] W fun e w'=>∃ v,e=.returned v∧Row w' W.heap.size v (sel (farP ds us kind m) ds.length)∧Below W.heap.size W w'):=by
  intro W hW
  rw [xor_max m hm,← far_sel hN us kind m hm]
  exact ready_any kind (255 - m) W pb db ao c ds us hW hN (by omega)
 have HP:=hZz h
 have HN:=hZz hN
 have HO:Hid (ord ds us kind m=sel (nearP ds us kind m) ds.length++sel (farP ds us kind m) ds.length):=rfl
 have HOl:=hZz (Dvs.ord_len ds us kind m)
 have hl1:=Dvs.sel_le (nearP ds us kind m) ds.length
 have hl2:=Dvs.sel_le (farP ds us kind m) ds.length
 have h16:=hN.1
 clear h hN
 generalize sel (nearP ds us kind m) ds.length=l1 at *
 generalize sel (farP ds us kind m) ds.length=l2 at *
 go_enter Tryz.func103,Tryz.ntmps103
 go_wp2_with fail
 refine HR1.out.mono ?_
 rintro e w1 ⟨v1,rfl,hr1,hb1⟩
 have HS1:=hZz hr1.src
 have HP1:=hZz (HP.out.below hb1)
 have HB1:=hZz hb1
 clear hr1 hb1 HR1
 go_wp2_with fail
 refine (HR2.out w1 HP1.out).mono ?_
 rintro e w2 ⟨v2,rfl,hr2,hb2⟩
 have HB2:=hZz (HB1.out.trans (hb2.mono HB1.out.size))
 have hbA:=(Below.refl w2.heap.size w2).alloc (Nat.le_refl _) (.cells #[v1,v2] 67)
 have HP2:=hZz ((HP1.out.below hb2).below hbA)
 have HS1':=hZz ((HS1.out.below hb2).below hbA)
 have HS2':=hZz (hr2.src.below hbA)
 have HBA:=hZz (HB2.out.trans (hbA.mono HB2.out.size))
 obtain ⟨a1,d1,rfl⟩:=HS1.out.form
 obtain ⟨a2,d2,rfl⟩:=hr2.src.form
 clear hr2 hb2 hbA HR2 HS1 HB1 HP1
 go_wp2_with fail
 refine (concat_two _ _ l1 l2 w2.heap.size _ HS1'.out HS2'.out (by simp) (by simp) (by omega) (by omega)).mono ?_
 rintro e w3 ⟨v3,rfl,hr3,hb3⟩
 have HP3:=hZz (HP2.out.below hb3)
 have HB3:=hZz (HBA.out.trans (hb3.mono HBA.out.size))
 have hsz3:w.heap.size≤(w2.alloc (.cells #[.slice a1 l1.length d1,.slice a2 l2.length d2] 67)).heap.size:=HBA.out.size
 rw [← HO.out] at hr3
 clear hb3 HP2 HBA HB2 HS1' HS2'
 generalize (w2.alloc (.cells #[.slice a1 l1.length d1,.slice a2 l2.length d2] 67)).heap.size=B3 at *
 have HR3:=hZz hr3
 unfold Row at hr3
 have hol:(ord ds us kind m).length≤32:=by rw [HO.out,List.length_append];omega
 have HTF:Hid (takeF ds us kind many=if ((ord ds us kind m).length:Int)<many then 9 else 0):=by unfold Hid takeF;rw [if_neg (by omega),HOl.out]
 by_cases hf:(ord ds us kind m).length<many
 ·have HTF1:Hid (takeF ds us kind many=9):=HTF.out.trans (if_pos (by omega))
  clear HTF
  rcases hr3.2 with ⟨rfl,h0⟩|⟨g,cap,cur,rfl,hg,hgc,hnc,hcm,hcs,hct⟩
  ·rw [h0] at hf
   clear hr3
   go_wp2_with fail
   go_ret2
   exact Took.wrong HTF1.out (by decide) rfl HB3.out
  ·clear hr3 hgc hcs hct
   go_wp2_with fail
   go_ret2
   exact Took.wrong HTF1.out (by decide) rfl HB3.out
 ·have HTF1:Hid (takeF ds us kind many=0):=HTF.out.trans (if_neg (by omega))
  clear HTF
  rcases hr3.2 with ⟨rfl,h0⟩|⟨g,cap,cur,rfl,hg,hgc,hnc,hcm,hcs,hct⟩
  ·have hm0:many=0:=by omega
   subst hm0
   have hon:=List.eq_nil_of_length_eq_zero h0
   have HTk:Hid (took ds us kind m 0=[]):=by unfold Hid took;simp
   clear hr3
   go_wp2_with fail
   go_loop [37] (fun i=>i=.int .i64 0) (fun _=>0)
   case atStart=>rfl
   case round=>
    subst hrel
    go_wp2_with fail
    refine (Any.slices_Sort_int_none Tryz.sortL9 _ _ _).mono ?_
    rintro e w5 ⟨rfl,rfl⟩
    go_wp2_with fail
    go_ret2
    refine ⟨fun hh=>absurd HTF1.out hh,fun _=>⟨_,0,rfl,?_,?_,?_⟩,grown_below HB3.out _⟩
    ·show NumsAt _ _ _ _ (ints (srt (took ds us kind m 0)))
     rw [HTk.out]
     exact ⟨none,0,rfl,fun h=>by simp [ints,srt,sel] at h⟩
    ·show 0<(srt (took ds us kind m 0)).length→_
     rw [HTk.out]
     exact fun h=>by simp [srt,sel] at h
    ·show PoolAt _ _ _ _ _ _ (usedBy us (took ds us kind m 0))
     rw [HTk.out,Dvs.usedBy_nil]
     exact HP3.out
  ·have hmn:many≤(ord ds us kind m).length:=by omega
   clear hr3
   have hgp:g≠pb:=by have:=HP.out.lt;omega
   have HTl:Hid ((took ds us kind m many).length=many):=by unfold Hid took;rw [List.length_take];omega
   have HTt:Hid (took ds us kind m many=(ord ds us kind m).take many):=rfl
   have HT16:Hid (∀ j∈took ds us kind m many,j<16):=fun j hj=>by have:=(Dvs.took_mem hj).1;omega
   have HTn:=hZz (Dvs.took_nodup ds us kind m many)
   have HM:Hid (∀ k q:Nat,(ord ds us kind m)[k]?=some q→q<16):=fun k q hq=>by
    have:=(Dvs.ord_mem.1 (List.mem_of_getElem? hq)).1
    omega
   have HX:Hid (∀ k,k<(ord ds us kind m).length→∃ q:Nat,(ord ds us kind m)[k]?=some q∧w3.cell? ⟨g,k,none⟩=some (.int .i64 q)):=fun k hk=>by
    refine ⟨(ord ds us kind m)[k],List.getElem?_eq_getElem hk,?_⟩
    have:=HR3.out
    unfold Row at this
    rw [this.cellAt k (by omega)]
    simp [numsV,hk]
   have hlt3:g<w3.heap.size:=(Array.getElem?_eq_some_iff.1 hgc).1
   have HQ:=hZz (And.intro hgc (And.intro hcm (And.intro hcs hct)))
   clear hgc hcs hct hcm
   have hdm:decide ((many:Int)<0)=false:=by simp
   go_wp2_with fail
   go_loopw [37] (fun i wr=>∃ k:Nat,k≤many∧i=.int .i64 k∧PoolAt wr pb db ao c ds (usedBy us ((ord ds us kind m).take k))∧w3.grownBy wr (some pb)) (fun i _=>many - (intOf i).toNat)
   case atStart=>exact ⟨0,by omega,rfl,by rw [List.take_zero,Dvs.usedBy_nil];exact HP3.out,grown_refl _ _⟩
   case round=>
    obtain ⟨k,hk,rfl,hP,hG⟩:=hrel
    by_cases hlt:k<many
    ·obtain ⟨q,hq,hx3⟩:=HX.out k (by omega)
     have hq16:=HM.out k q hq
     have hx:=(hG.cell_far ⟨g,k,none⟩ hlt3 (by simpa using hgp)).trans hx3
     obtain ⟨hu,hz⟩:=hP.used q hq16
     have HP':=hZz (hP.set (vs:=usedBy us ((ord ds us kind m).take (k+1))) hq16 true (fun j _=>usedBy_step hq j))
     have HG':=hZz (hG.trans (grown_setCell wr ⟨pb,1+q,none⟩ (.bool true)))
     clear hP hG hx3 hq
     go_wp2_with fail
     go_roundw
     case rel=>exact ⟨k+1,by omega,by go_num,HP'.out,HG'.out⟩
     case measure=>simp [intOf];omega
    ·have hke:k=many:=by omega
     subst hke
     have HPk:=hZz hP
     have HGk:=hZz hG
     clear hP hG
     have HS:Hid (Calls Tryz.prog 104 #[.slice (some ⟨g,0,none⟩) k cap] wr fun e w'=>e=.returned (.tuple #[])∧Row w' B3 (.slice (some ⟨g,0,none⟩) k cap) (srt (took ds us kind m k))∧wr.grownBy w' (some g)):=by
      obtain ⟨q1,q2,q3,q4⟩:=HQ.out
      have:=sort_took HT16.out HTn.out hg (wr:=wr) ((HGk.out.block g hlt3 (by simpa using hgp)).trans q1) (by rw [HTl.out];omega) q2 q3 (by
       rw [HTl.out,HTt.out]
       rw [Nat.mul_one] at q4
       have e:(cur.toList.take (ord ds us kind m).length).take k=cur.toList.take k:=by rw [List.take_take,Nat.min_eq_left hmn]
       rw [← e,q4]
       simp [numsV,List.map_take]) (by rw [HTl.out];omega)
      rw [Dvs.srt_len HT16.out HTn.out,HTl.out] at this
      exact this
     go_wp2_with fail
     refine HS.out.mono ?_
     rintro e w5 ⟨rfl,hr5,hg5⟩
     obtain ⟨g5,hn5,hge5⟩:=hr5.nums
     have HP5:=hZz (HPk.out.kept hg5 (by simpa using fun e=>hgp e.symm) (fun h0=>by have:=(HP.out.at0 h0).2.2;simp;omega))
     have HG5:=hZz (grown_then (grown_below HB3.out (some pb)) HGk.out (fun j hj=>by right;exact hj))
     have HG6:=hZz (grown_then HG5.out hg5 (fun j hj=>by left;cases hj;omega))
     have HN5:=hZz (And.intro hn5 hge5)
     clear hr5 hg5 hn5 hge5
     go_wp2_with fail
     go_ret2
     refine ⟨fun hh=>absurd HTF1.out hh,fun _=>⟨_,g5,rfl,HN5.out.1,fun h0=>Nat.le_trans hsz3 (HN5.out.2 h0),?_⟩,HG6.out⟩
     exact HP5.out
end
end Go.Proofs.YtbfdcmodflnkfaaGreatDoor
namespace Go.Proofs
open Go.Shelf
shelf_lay_g SlLaysF.n6 Slsf 6 at Tryz 204 as Tryz.sortL
shelf_lay_g SlLaysC2.n5 Slgc 5 at Tryz 206 as Tryz.cmpL
end Go.Proofs
namespace Go.Proofs.YtbfdcmodflnkfaaGreatDoor
section
open Go.RowKit
open Ost (Cpu cpu0 chosen cnt dif less order)
open Go.Sort
def Grows (w w':World):Prop:=∃ q os,w'=grow (w.drewN q) os
theorem Grows.refl (w:World):Grows w w:=⟨0,#[],by rw [grow_empty];rfl⟩
theorem Grows.alloc {w w':World} (h:Grows w w') (o:Obj):Grows w (w'.alloc o):=by
 obtain ⟨q,os,rfl⟩:=h
 exact ⟨q,os++#[o],by rw [alloc_eq_grow,grow_grow]⟩
theorem Grows.drewN {w w':World} (h:Grows w w') (n:Nat):Grows w (w'.drewN n):=by
 obtain ⟨q,os,rfl⟩:=h
 exact ⟨q+n,os,by simp only [World.drewN,grow,Nat.add_assoc]⟩
theorem Grows.trans {a b c:World} (h:Grows a b) (k:Grows b c):Grows a c:=by
 obtain ⟨q,os,rfl⟩:=h
 obtain ⟨q',os',rfl⟩:=k
 exact ⟨q+q',os++os',by simp only [World.drewN,grow,Nat.add_assoc,Array.append_assoc]⟩
theorem Grows.below {w w':World} (h:Grows w w'):Below w.heap.size w w':=by
 obtain ⟨q,os,rfl⟩:=h
 exact ⟨rfl,rfl,rfl,by simp [World.drewN],fun k hk=>by simp [grow,World.drewN,Array.getElem?_append,hk]⟩
theorem below_sort (w:World) (K blk off m:Nat) (dk:Array Nat) (os:Array Obj) (hK:K≤blk) (hw:K≤w.heap.size):Below K w (sortWorld (fun n:Nat=>Value.int .i64 (n:Int)) w blk off m dk os):=by
 refine ⟨rfl,rfl,rfl,?_,fun k hk=>?_⟩
 ·simp [sortWorld,grow,Sort.putRow,Sort.mapBlock,Sort.ahead]
 ·have h1:k<w.heap.size:=by omega
  have h2:blk≠k:=by omega
  simp [sortWorld,grow,Sort.putRow,Sort.mapBlock,Sort.ahead,Array.getElem?_append,Array.getElem_modify,h1,h2]
theorem of_here (n:Nat) (tb b o c:Nat) (l:List Cpu) (w:World) (ht:TopoAt w tb b o c l) :
  Calls Tryz.prog 202 #[.pointer (some ⟨tb,0,none⟩),.int .i64 n] w fun e w'=>(∃ err,e=.returned (.tuple #[.agg #[.int .i64 (l.getD n cpu0).core,.int .i64 (l.getD n cpu0).sock,.int .i64 (l.getD n cpu0).node],err]))∧Grows w w':=by
 have hB0:=((Below.refl w.heap.size w).alloc (Nat.le_refl _) (.cells #[.int .i64 0,.int .i64 0,.int .i64 0] 78))
 have hT:=(ht.below hB0).cell
 have hl:=ht.len
 by_cases hn:n<l.length
 ·obtain ⟨hcell0,hcell1,hcell2⟩:=(ht.below hB0).cells n hn
  clear ht hB0
  generalize l.getD n cpu0=x at *
  go_enter Tryz.func202,Tryz.ntmps202
  go_wp2_with fail
  (try simp only [Exit.inBlock,Exit.then])
  refine bodyPost_ret (v:=.tuple #[.agg #[.int .i64 x.core,.int .i64 x.sock,.int .i64 x.node],.nilIface]) ?_ rfl ⟨⟨_,rfl⟩,?_⟩
  ·rw [results_cell_tmp rfl]
   go_simp
  ·exact (Grows.refl w).alloc _
 ·have hx:l.getD n cpu0=cpu0:=by simp [show l.length≤n by omega]
  rw [hx]
  clear ht hB0 hx
  have h2:(l.length:Int)≤n:=by omega
  clear hn
  go_enter Tryz.func202,Tryz.ntmps202
  go_wp2_with fail
  (try simp only [Exit.inBlock,Exit.then])
  refine bodyPost_ret (v:=.tuple #[.agg #[.int .i64 0,.int .i64 0,.int .i64 0],.iface 94 (.int .i64 1)]) ?_ rfl ⟨⟨_,rfl⟩,?_⟩
  ·rw [results_cell_tmp rfl]
   go_simp
  ·exact (Grows.refl w).alloc _
structure Stand (w:World) (tc lc fc tb b o c mb n:Nat) (l:List Cpu) (f:Int→Int):Prop where
 t:w.cell? ⟨tc,0,none⟩=some (.pointer (some ⟨tb,0,none⟩))
 m:w.cell? ⟨lc,0,none⟩=some (.map (some mb))
 fn:w.cell? ⟨fc,0,none⟩=some (.func (.func 201) #[] #[.pointer (some ⟨tc,0,none⟩),.pointer (some ⟨lc,0,none⟩)])
 topo:TopoAt w tb b o c l
 left:LeftIs w mb n f
theorem Stand.below {w w':World} {tc lc fc tb b o c mb n K:Nat} {l:List Cpu} {f:Int→Int} (h:Stand w tc lc fc tb b o c mb n l f) (hb:Below K w w') (hK:tc<K∧lc<K∧fc<K∧tb<K∧b<K∧mb<K):Stand w' tc lc fc tb b o c mb n l f:=by
 obtain ⟨h1,h2,h3,h4,h5,h6⟩:=hK
 exact ⟨(hb.cell (p:=⟨tc,0,none⟩) h1).trans h.t,(hb.cell (p:=⟨lc,0,none⟩) h2).trans h.m,(hb.cell (p:=⟨fc,0,none⟩) h3).trans h.fn,
  ⟨(hb.cell (p:=⟨tb,0,none⟩) h4).trans h.topo.cell,fun k hk=>by
   obtain ⟨a1,a2,a3⟩:=h.topo.cells k hk
   exact ⟨(hb.cell (p:=⟨b,o+k*3,none⟩) h5).trans a1,(hb.cell (p:=⟨b,o+k*3+1,none⟩) h5).trans a2,(hb.cell (p:=⟨b,o+k*3+2,none⟩) h5).trans a3⟩,Nat.lt_of_lt_of_le h.topo.lt hb.size,h.topo.len⟩,
  h.left.below hb h6⟩
theorem Stand.lts {w:World} {tc lc fc tb b o c mb n:Nat} {l:List Cpu} {f:Int→Int} (h:Stand w tc lc fc tb b o c mb n l f):tc<w.heap.size∧lc<w.heap.size∧fc<w.heap.size∧tb<w.heap.size∧b<w.heap.size∧mb<w.heap.size:=
 ⟨World.block_lt_of_cell? w _ h.t,World.block_lt_of_cell? w _ h.m,World.block_lt_of_cell? w _ h.fn,h.topo.tlt,h.topo.lt,h.left.lt⟩
theorem core_in {l:List Cpu} (hg:Good l) (n:Nat):0≤(l.getD n cpu0).core∧(l.getD n cpu0).core<64:=by
 by_cases hn:n<l.length
 ·have:=hg (l.getD n cpu0) (by simp [hn])
  omega
 ·have hx:l.getD n cpu0=cpu0:=by simp [show l.length≤n by omega]
  rw [hx];decide
theorem beside_any (k:Nat) (tc lc fc tb b o c mb n:Nat) (l:List Cpu) (f:Int→Int) (w:World) (h:Stand w tc lc fc tb b o c mb n l f) (hg:Good l) :
  Calls Tryz.prog 201 #[.int .i64 k,.pointer (some ⟨tc,0,none⟩),.pointer (some ⟨lc,0,none⟩)] w fun e w'=>e=.returned (.int .i64 (f (l.getD k cpu0).core))∧Grows w w':=by
 have HO:=hZz (of_here k tb b o c l w h.topo)
 have HS:=hZz h
 have HL:=hZz h.lts
 have ht:=h.t
 obtain ⟨h0,h64⟩:=core_in hg k
 clear h hg
 generalize l.getD k cpu0=x at *
 go_enter Tryz.func201,Tryz.ntmps201
 go_wp2_with fail
 refine HO.out.mono ?_
 rintro e w1 ⟨⟨err,rfl⟩,hgr⟩
 have HS1:=hZz (HS.out.below hgr.below HL.out)
 have hm:=cell_alloc HS1.out.m (.cells #[.int .i64 x.core,.int .i64 x.sock,.int .i64 x.node] 78)
 have hM:=HS1.out.left.alloc (.cells #[.int .i64 x.core,.int .i64 x.sock,.int .i64 x.node] 78)
 clear HO ht
 go_wp2_with (at_lookup;refine wpList_lookLeft _ rfl _ _ rfl mb n f x.core h0 h64 rfl rfl hM ?_)
 go_ret
 exact ⟨rfl,hgr.alloc _⟩
end
section
open Go.RowKit Go.Maps
theorem MapR.look2 {w:World} {B n:Nat} {xs:List RV} (h:MapR w B n xs) (a b:ByteArray) (ha:a.size≤7000) (hb:b.size≤7000) :
  ∃ y:RV,∀ W:World,W.heap[B]?=w.heap[B]?→(Instr.lookup 131 (.map (some B)) (nameV a b) true).run Tryz.prog W=.ok (.tuple #[y.val,.bool (xs.any fun x=>decide (x.pod=a∧x.cont=b))]) W:=by
 obtain ⟨es,ho,he⟩:=h.2
 have key:∀ W:World,W.heap[B]?=w.heap[B]?→∃ y:RV,(Instr.lookup 131 (.map (some B)) (nameV a b) true).run Tryz.prog W=.ok (.tuple #[y.val,.bool (xs.any fun x=>decide (x.pod=a∧x.cont=b))]) W∧(DataW.map es).atKey (nameL a b) (.held (RV.val ⟨ByteArray.empty,ByteArray.empty,0,none,0,0⟩))=.held y.val:=by
  intro W hW
  have ho2:W.ownsMap Tryz.prog 212 rvElem B n (.map es):=by
   obtain ⟨ms,clock,hh,r⟩:=ho
   exact ⟨ms,clock,hW.trans hh,r⟩
  obtain ⟨v,ps,hrun,hv⟩:=ho2.look_ok keyN Tryz.underlying131 (zeroRun W) (rvElem_mk _) (nameKey a b (short_max ha) (short_max hb))
  obtain ⟨y,rfl,hy⟩:=rvElem_inv hv
  refine ⟨y,by rw [← h.has he ha hb];exact hrun,?_⟩
  exact congrArg Prod.fst hy
 obtain ⟨y,_,hy⟩:=key w rfl
 refine ⟨y,fun W hW=>?_⟩
 obtain ⟨y2,hr2,hy2⟩:=key W hW
 rw [hy2] at hy
 have:y2=y:=RV.val_inj (by simpa using hy)
 rw [this] at hr2
 exact hr2
theorem newEng_any (Bd:Nat) (w:World):Calls Tryz.prog 27 #[.pointer (some ⟨Bd,0,none⟩)] w fun e w'=>e=.returned (.pointer (some ⟨w.heap.size+1,0,none⟩))∧EngAt w' (w.heap.size+1) Bd w.heap.size∧MapR w' w.heap.size 0 []∧Below w.heap.size w w'∧w'.heap.size=w.heap.size+2:=by
 have hmm:=@run_makeMap Tryz.prog
 have HM:=hZz ((MapR.made w).block (w':=(w.alloc (.map #[] 0)).alloc (.cells #[.pointer (some ⟨Bd,0,none⟩),.map (some w.heap.size)] 133)) (Below.heap_alloc _ _ _ (by simp)))
 have hE:=World.alloc_heap_new (w.alloc (.map #[] 0)) (.cells #[.pointer (some ⟨Bd,0,none⟩),.map (some w.heap.size)] 133)
 rw [World.size_alloc] at hE
 have HE:=hZz hE
 clear hE
 go_enter Tryz.func27,Tryz.ntmps27
 go_wp2_with fail
 go_ret
 exact ⟨by simp,HE.out,HM.out,((Below.refl _ _).alloc (Nat.le_refl _) _).alloc (by simp) _,by simp⟩
structure OutR (B1 B2:Nat) (w w':World):Prop where
 os:w'.os=w.os
 tape:w'.tape=w.tape
 output:w'.output=w.output
 size:w.heap.size≤w'.heap.size
 block:∀ k,k<w.heap.size→k≠B1→k≠B2→w'.heap[k]?=w.heap[k]?
theorem OutR.refl (B1 B2:Nat) (w:World):OutR B1 B2 w w:=⟨rfl,rfl,rfl,Nat.le_refl _,fun _ _ _ _=>rfl⟩
theorem OutR.trans {B1 B2:Nat} {a b c:World} (h:OutR B1 B2 a b) (k:OutR B1 B2 b c):OutR B1 B2 a c:=
 ⟨k.os.trans h.os,k.tape.trans h.tape,k.output.trans h.output,Nat.le_trans h.size k.size,fun i hi h1 h2=>(k.block i (Nat.lt_of_lt_of_le hi h.size) h1 h2).trans (h.block i hi h1 h2)⟩
theorem OutR.of_below {B1 B2:Nat} {w w':World} (h:Below w.heap.size w w'):OutR B1 B2 w w':=⟨h.os,h.tape,h.output,h.size,fun k hk _ _=>h.block k hk⟩
theorem OutR.of_grown {B1 B2 b:Nat} {w w':World} (h:w.grownBy w' (some b)) (hb:b=B1∨b=B2):OutR B1 B2 w w':=⟨h.os,h.tape,h.output,h.size,fun k hk h1 h2=>h.block k hk (fun e=>by cases e;rcases hb with rfl|rfl <;> contradiction)⟩
theorem OutR.kint {B1 B2:Nat} {w w':World} (h:OutR B1 B2 w w') (h1:∀ (arr:Array Value) (z:Nat × Nat),w.heap[B1]?≠some (Obj.cells arr 3 z)) (h2:∀ (arr:Array Value) (z:Nat × Nat),w.heap[B2]?≠some (Obj.cells arr 3 z)):KInt w w':=
 ⟨h.size,fun k arr z hk=>h.block k (Array.getElem?_eq_some_iff.1 hk).1 (fun e=>by subst e;exact h1 arr z hk) (fun e=>by subst e;exact h2 arr z hk)⟩
theorem MapR.isMap {w:World} {B n:Nat} {xs:List RV} (h:MapR w B n xs):∃ es clock,w.heap[B]?=some (.map es clock):=by
 obtain ⟨_,es,⟨ms,clock,hh,_⟩,_⟩:=h
 exact ⟨ms,clock,hh⟩
theorem MapR.notInt {w:World} {B n:Nat} {xs:List RV} (h:MapR w B n xs):∀ (arr:Array Value) (z:Nat × Nat),w.heap[B]?≠some (Obj.cells arr 3 z):=fun arr z e=>by
 obtain ⟨ms,clock,hh⟩:=h.isMap
 rw [hh] at e;cases e
end
section
namespace Ol
open Qos (Pd podF)
open Sv (Gv Hd heldF)
def without (hs:List Hd) (nm:ByteArray):List Hd:=hs.filter fun h=>decide (h.pod.nm≠nm)
theorem insert_without {hs:List Hd} {x:Hd} (hn:∀ y∈hs,y.pod.nm≠x.pod.nm):without (insertH hs x) x.pod.nm=hs:=by
 unfold without insertH
 rw [List.filter_append,List.filter_cons_of_neg (by simp)]
 have h1:(hs.take (atOf hs x.pod.nm)).filter (fun h=>decide (h.pod.nm≠x.pod.nm))=hs.take (atOf hs x.pod.nm):=List.filter_eq_self.2 fun y hy=>by simpa using hn y (List.mem_of_mem_take hy)
 have h2:(hs.drop (atOf hs x.pod.nm)).filter (fun h=>decide (h.pod.nm≠x.pod.nm))=hs.drop (atOf hs x.pod.nm):=List.filter_eq_self.2 fun y hy=>by simpa using hn y (List.mem_of_mem_drop hy)
 rw [h1,h2,List.take_append_drop]
theorem without_sub (hs:List Hd) (nm:ByteArray):(without hs nm).Sublist hs:=List.filter_sublist
theorem heldF_sub {hs hs':List Hd} (h:heldF hs=0) (hs2:hs'.Sublist hs):heldF hs'=0:=by
 obtain ⟨a,b,c⟩:=heldF_iff.1 h
 exact heldF_iff.2 ⟨Nat.le_trans hs2.length_le a,fun x hx=>b x (hs2.subset hx),List.Pairwise.sublist hs2 c⟩
theorem admit_gone {t:St} {p:Pd} (h:(admit t p).1=0):without (admit t p).2 p.nm=t.hs:=by
 unfold admit at h ⊢
 split
 ·rename_i h1;rw [if_pos h1] at h;exact absurd h h1
 ·rename_i h1
  rw [if_neg h1] at h
  split
  ·rename_i h2;rw [if_pos h2] at h;cases h
  ·rename_i h2
   rw [if_neg h2] at h
   split
   ·rename_i h3;rw [if_pos h3] at h;cases h
   ·rename_i h3
    rw [if_neg h3] at h
    split
    ·rename_i h4;rw [if_pos h4] at h;cases h
    ·rename_i h4
     rw [if_neg h4] at h
     split
     ·rename_i h5;rw [if_pos h5] at h;exact absurd h h5
     ·rename_i h5
      rw [if_neg h5] at h
      split
      ·rename_i h6;rw [if_pos h6] at h;cases h
      ·exact insert_without (x:=⟨p,_⟩) fun y hy e=>h2 ⟨y,hy,e⟩
end Ol
end
section
open Go.RowKit
open Dvs (Dv dv0 dv nth Nodes fault)
theorem PoolAt.devsAt {w:World} {pb db:Nat} {ao:Option Addr} {c:Nat} {ds:List Dv} {us:Nat→Bool} (h:PoolAt w pb db ao c ds us):DevsAt w (.slice ao ds.length c) db 0 ds:=
 ⟨ao,c,rfl,fun h0=>⟨(h.at0 h0).1,(h.at0 h0).2.2,fun k hk=>by obtain ⟨c0,c1,c2,_⟩:=h.cells k hk;rw [Nat.zero_add];exact ⟨c0,c1,c2⟩⟩⟩
theorem devices_any (w:World) (pb db:Nat) (ao:Option Addr) (c:Nat) (ds:List Dv) (us:Nat→Bool) (h:PoolAt w pb db ao c ds us) (hN:Nodes ds) :
  Calls Tryz.prog 52 #[.pointer (some ⟨pb,0,none⟩)] w fun e w'=>∃ v,e=.returned v∧DevRow w.heap.size w' v ds∧Below w.heap.size w w':=by
 have HC:=hZz (clone_anyD _ db 0 ds w h.devsAt hN.1)
 have hrow:=h.row
 clear h hN
 go_enter Tryz.func52,Tryz.ntmps52
 go_wp2_with fail
 refine HC.out.mono ?_
 rintro e w1 ⟨v,rfl,hv,hb⟩
 have HV:=hZz hv
 have HB:=hZz hb
 clear hv hb
 go_wp2_with fail
 go_ret
 exact ⟨_,rfl,HV.out,HB.out⟩
theorem takeD_any (kind:ByteArray) (many:Int) (m:Nat) (w:World) (pb db:Nat) (ao:Option Addr) (c:Nat) (ds:List Dv) (us:Nat→Bool) (h:PoolAt w pb db ao c ds us) (hN:Nodes ds) (hm:m<256) :
  Calls Tryz.prog 103 #[.pointer (some ⟨pb,0,none⟩),.string kind,.int .i64 many,.int .u8 m] w fun e w'=>Took (fun n=>errV n) w pb db ao c ds us kind m many e w':=by
 by_cases h0:many<0
 ·refine (take_neg kind many m w pb h0).mono ?_
  rintro e w' ⟨rfl,rfl⟩
  exact Took.wrong (n:=1) (by rw [Dvs.takeF,if_pos h0]) (by decide) rfl (Below.refl _ _)
 ·obtain ⟨n,rfl⟩:=Int.eq_ofNat_of_zero_le (show 0≤many by omega)
  exact take_pos kind n m w pb db ao c ds us h hN hm
end
end Go.Proofs.YtbfdcmodflnkfaaGreatDoor
