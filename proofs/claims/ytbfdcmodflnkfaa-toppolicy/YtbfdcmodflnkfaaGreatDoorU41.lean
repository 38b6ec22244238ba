/- OD3, OL1, OL2, OL3 -/
import Derived.Test.YtbfdcmodflnkfaaGreatDoorU40
set_option maxRecDepth 100000
set_option maxHeartbeats 16000000
namespace Go.Proofs.YtbfdcmodflnkfaaGreatDoor
section
open Go.RowKit Go.Shelf
open Qos (Nd Ct Pd nd ct pd podF)
open Sv (Gv Hd gv hd gsF heldF heldTxt)
attribute [local go_sem] Oper.semAt_some
def kept (L:List HS) (nm:ByteArray):List HS:=L.filter fun x=>!decide (x.h.pod.nm=nm)
theorem kept_all {L:List HS} {nm:ByteArray} (h:∀ x∈L,decide (x.h.pod.nm=nm)=false):kept L nm=L:=List.filter_eq_self.2 fun x hx=>by rw [h x hx];rfl
theorem kept_next {L:List HS} {nm:ByteArray} {b:Nat} (hb:b<L.length):kept (L.take (b+1)) nm=kept (L.take b) nm++(if decide ((hsAt L b).h.pod.nm=nm) then [] else [hsAt L b]):=by
 rw [List.take_succ_eq_append_getElem hb,← hsAt_lt hb]
 unfold kept
 rw [List.filter_append]
 cases h:decide ((hsAt L b).h.pod.nm=nm) <;> simp [h]
theorem hsAt_app {A B:List HS} {k:Nat} (h:k<A.length):hsAt (A++B) k=hsAt A k:=by simp [hsAt,List.getD,List.getElem?_append_left h]
theorem hsAt_last {A:List HS} {x:HS}:hsAt (A++[x]) A.length=x:=by simp [hsAt,List.getD]
theorem hsAt_take {L:List HS} {k b:Nat} (h:k<b):hsAt (L.take b) k=hsAt L k:=by simp [hsAt,List.getD,h]
theorem grown_setCells (g:Nat):∀ (vs:List Value) (o:Nat) (W:World),W.grownBy (W.setCells g o vs) (some g):=by
 intro vs
 induction vs with
 | nil=>intro o W;exact grown_below (Below.refl _ _) _
 | cons v vs ih=>intro o W;exact (grown_setCell W ⟨g,o,none⟩ v).trans (ih (o+1) _)
theorem deleteHeld_any (nm:ByteArray) (Bn g cap:Nat) (L:List HS) (w:World) (hB:w.heap[Bn]?=some (nmBox nm)) (hne:Bn≠g) (hr:RowH w g cap (fun k x=>k<L.length∧x=hsAt L k)) (hlc:L.length≤cap) (hcm:cap≤maxLen) (hl:L.length≤100) :
  Calls Tryz.prog 80 #[.slice (some ⟨g,0,none⟩) L.length cap,.func (.func 81) #[] #[.pointer (some ⟨Bn,0,none⟩)]] w fun e w'=>e=.returned (.slice (some ⟨g,0,none⟩) (kept L nm).length cap)∧RowH w' g cap (fun k x=>k<(kept L nm).length∧x=hsAt (kept L nm) k)∧w.grownBy w' (some g):=by
 have HI:=hZz (indexHeld_any nm Bn g cap L w hB hr hl)
 have HB:=hZz hB
 have HR:=hZz hr
 have hgl:=hr.lt
 have hbl:Bn<w.heap.size:=(Array.getElem?_eq_some_iff.1 hB).1
 have eg:∀ args w,(callFunc 81 args).run Tryz.prog w=.ok (.enter 81 args) w:=enters_of Tryz.func81 (by kernel_rfl) rfl
 have hcm2:cap≤9223372036854775807:=by unfold maxLen at hcm;omega
 clear hB hr hcm
 go_enter Tryz.func80,Tryz.ntmps80
 go_wp2_with fail
 refine HI.out.mono ?_
 rintro e W1 ⟨rfl,hb1⟩
 have HB1:=hZz hb1
 clear hb1 HI
 rcases hit_spec (fun y=>decide (y.h.pod.nm=nm)) L 0 with ⟨e,hno⟩|⟨k0,hk0,e,hhit,hbef⟩
 ·rw [e]
  have HK:=hZz (kept_all hno)
  clear e hno
  go_wp2_with fail
  go_ret
  rw [HK.out]
  exact ⟨rfl,HR.out.block (HB1.out.block g hgl),grown_below HB1.out _⟩
 ·rw [e,Nat.zero_add]
  have HK:Hid (kept (L.take (k0+1)) nm=L.take k0):=by
   unfold Hid
   rw [kept_next hk0,if_pos hhit,List.append_nil,kept_all hbef]
  have hk1:(((k0:Nat):Int) == -1)=false:=by rw [beq_eq_false_iff_ne];omega
  clear e hhit hbef
  go_wp2_with fail
  clear hk1
  go_loopw [5,6] (fun i j wr=>∃ a b:Nat,i=.int .i64 a∧j=.int .i64 b∧a<b∧b≤L.length∧a=(kept (L.take b) nm).length∧RowH wr g cap (fun k x=>(k<a∧x=hsAt (kept (L.take b) nm) k)∨(b≤k∧k<L.length∧x=hsAt L k))∧w.grownBy wr (some g)) (fun _ j _=>L.length - (intOf j).toNat)
  case atStart=>
   refine ⟨k0,k0+1,rfl,by go_num,by omega,by omega,by rw [HK.out,List.length_take];omega,(HR.out.block (HB1.out.block g hgl)).mono ?_,grown_below HB1.out _⟩
   rintro k x (⟨h1,h2⟩|⟨h1,h2,h3⟩)
   ·rw [HK.out,hsAt_take h1] at h2
    exact ⟨by omega,h2⟩
   ·exact ⟨h2,h3⟩
  case round=>
   obtain ⟨a,b,rfl,rfl,hab,hbl2,hae,hrow,hgr⟩:=hrel
   have HAE:=hZz hae
   have HROW:=hZz hrow
   have HGR:=hZz hgr
   have hsr:=hgr.size
   have HBN:=hZz ((hgr.block Bn hbl (fun e=>hne (by injection e))).trans HB.out)
   clear hae hrow hgr
   by_cases hlt:b<L.length
   ·obtain ⟨c0,c1,c2,c3⟩:=HROW.out.cells (k:=b) (x:=hsAt L b) (.inr ⟨Nat.le_refl _,hlt,rfl⟩)
    have HNX:=hZz (kept_next (nm:=nm) hlt)
    obtain ⟨x,hx⟩:∃ x,x=hsAt L b:=⟨_,rfl⟩
    rw [← hx] at c0 c1 c2 c3 HNX
    have HXE:=hZz hx
    clear hx
    have HBA:=hZz ((Below.refl wr.heap.size wr).alloc (Nat.le_refl _) (.cells #[.string x.h.pod.nm,.int .i64 x.h.pod.pr,.slice x.ca x.cn x.cc,.slice x.ga x.gn x.gc] 60))
    have HXA:=hZz (heap_madeO wr (.cells #[.string x.h.pod.nm,.int .i64 x.h.pod.pr,.slice x.ca x.cn x.cc,.slice x.ga x.gn x.gc] 60) rfl)
    have HZA:Hid ((wr.alloc (.cells #[.string x.h.pod.nm,.int .i64 x.h.pod.pr,.slice x.ca x.cn x.cc,.slice x.ga x.gn x.gc] 60)).heap.size=wr.heap.size+1):=by unfold Hid;simp
    have y0:(wr.alloc (.cells #[.string x.h.pod.nm,.int .i64 x.h.pod.pr,.slice x.ca x.cn x.cc,.slice x.ga x.gn x.gc] 60)).cell? ⟨wr.heap.size,0,none⟩=some (.string x.h.pod.nm):=cell_of_heapV HXA.out 0
    have y1:(wr.alloc (.cells #[.string x.h.pod.nm,.int .i64 x.h.pod.pr,.slice x.ca x.cn x.cc,.slice x.ga x.gn x.gc] 60)).cell? ⟨wr.heap.size,1,none⟩=some (.int .i64 x.h.pod.pr):=cell_of_heapV HXA.out 1
    have y2:(wr.alloc (.cells #[.string x.h.pod.nm,.int .i64 x.h.pod.pr,.slice x.ca x.cn x.cc,.slice x.ga x.gn x.gc] 60)).cell? ⟨wr.heap.size,2,none⟩=some (.slice x.ca x.cn x.cc):=cell_of_heapV HXA.out 2
    have y3:(wr.alloc (.cells #[.string x.h.pod.nm,.int .i64 x.h.pod.pr,.slice x.ca x.cn x.cc,.slice x.ga x.gn x.gc] 60)).cell? ⟨wr.heap.size,3,none⟩=some (.slice x.ga x.gn x.gc):=cell_of_heapV HXA.out 3
    go_wp2_with fail
    clear c0 c1 c2 c3 y0 y1 y2 y3
    generalize wr.alloc (.cells #[.string x.h.pod.nm,.int .i64 x.h.pod.pr,.slice x.ca x.cn x.cc,.slice x.ga x.gn x.gc] 60)=X at *
    refine (letGo1_any x nm Bn X ((HBA.out.block Bn (by omega)).trans HBN.out)).mono ?_
    rintro e W2 ⟨rfl,hb2⟩
    have HB2:=hZz (HBA.out.trans (hb2.mono HBA.out.size))
    have HX2:=hZz ((hb2.block wr.heap.size (by have:=HZA.out;omega)).trans HXA.out)
    have hs2:wr.heap.size<W2.heap.size:=by have:=hb2.size;have:=HZA.out;omega
    have HROW2:=hZz (HROW.out.block (HB2.out.block g (by omega)))
    have HGR2:=hZz (HGR.out.trans (grown_below HB2.out (some g)))
    clear hb2
    rcases two (decide (x.h.pod.nm=nm)) with hh|hh
    ·rw [hh] at HNX ⊢
     have HNX2:Hid (kept (L.take (b+1)) nm=kept (L.take b) nm):=by unfold Hid;rw [HNX.out,if_pos rfl,List.append_nil]
     clear hh
     go_wp2_with fail
     go_roundw
     case rel=>
      refine ⟨a,b+1,rfl,by go_num,by omega,by omega,by rw [HNX2.out];exact HAE.out,HROW2.out.mono ?_,HGR2.out⟩
      rintro k y (⟨h1,h2⟩|⟨h1,h2,h3⟩)
      ·rw [HNX2.out] at h2;exact .inl ⟨h1,h2⟩
      ·exact .inr ⟨by omega,h2,h3⟩
     case measure=>simp [intOf];omega
    ·rw [hh] at HNX ⊢
     have HNX2:Hid (kept (L.take (b+1)) nm=kept (L.take b) nm++[x]):=by unfold Hid;rw [HNX.out];rfl
     have z0:W2.cell? ⟨wr.heap.size,0,none⟩=some (.string x.h.pod.nm):=cell_of_heapV HX2.out 0
     have z1:W2.cell? ⟨wr.heap.size,1,none⟩=some (.int .i64 x.h.pod.pr):=cell_of_heapV HX2.out 1
     have z2:W2.cell? ⟨wr.heap.size,2,none⟩=some (.slice x.ca x.cn x.cc):=cell_of_heapV HX2.out 2
     have z3:W2.cell? ⟨wr.heap.size,3,none⟩=some (.slice x.ga x.gn x.gc):=cell_of_heapV HX2.out 3
     have f0:=HROW2.out.frozen (a*4)
     have f1:=HROW2.out.frozen (a*4+1)
     have f2:=HROW2.out.frozen (a*4+2)
     have f3:=HROW2.out.frozen (a*4+3)
     obtain ⟨o0,p0⟩:=Option.isSome_iff_exists.1 (HROW2.out.there (j:=a*4) (by omega))
     obtain ⟨o1,p1⟩:=Option.isSome_iff_exists.1 (HROW2.out.there (j:=a*4+1) (by omega))
     obtain ⟨o2,p2⟩:=Option.isSome_iff_exists.1 (HROW2.out.there (j:=a*4+2) (by omega))
     obtain ⟨o3,p3⟩:=Option.isSome_iff_exists.1 (HROW2.out.there (j:=a*4+3) (by omega))
     have hal:a<L.length:=by omega
     have HROW3:=hZz (HROW2.out.set (i:=a) (by omega) x)
     have HGR3:Hid (w.grownBy ((((W2.setCell ⟨g,a*4,none⟩ (.string x.h.pod.nm)).setCell ⟨g,a*4+1,none⟩ (.int .i64 x.h.pod.pr)).setCell ⟨g,a*4+2,none⟩ (.slice x.ca x.cn x.cc)).setCell ⟨g,a*4+3,none⟩ (.slice x.ga x.gn x.gc)) (some g)):=(((HGR2.out.trans (grown_setCell _ ⟨g,a*4,none⟩ _)).trans (grown_setCell _ ⟨g,a*4+1,none⟩ _)).trans (grown_setCell _ ⟨g,a*4+2,none⟩ _)).trans (grown_setCell _ ⟨g,a*4+3,none⟩ _)
     clear hh
     go_wp2_with fail
     go_roundw
     case rel=>
      refine ⟨a+1,b+1,by go_num,by go_num,by omega,by omega,by rw [HNX2.out,List.length_append,← HAE.out];rfl,HROW3.out.mono ?_,HGR3.out⟩
      rintro k y (⟨h1,h2⟩|⟨h1,h2,h3⟩)
      ·rw [HNX2.out] at h2
       by_cases hka:k=a
       ·refine .inl ⟨hka,?_⟩
        rw [h2,hka,HAE.out,hsAt_last]
       ·refine .inr ⟨hka,.inl ⟨by omega,?_⟩⟩
        rw [h2,hsAt_app (by rw [← HAE.out];omega)]
      ·exact .inr ⟨by omega,.inr ⟨by omega,h2,h3⟩⟩
     case measure=>simp [intOf];omega
   ·have hbe:b=L.length:=by omega
    have HKL:Hid (kept (L.take b) nm=kept L nm):=by unfold Hid;rw [hbe,List.take_length]
    obtain ⟨vs,hcl⟩:=clearH_run wr 0 g (a*4) (L.length - a) (cap - a) (by omega) (fun j hj=>HROW.out.there (by omega)) (fun j=>HROW.out.frozen j)
    have hca:¬ cap=a:=by omega
    have hal:a<L.length:=by omega
    clear hbe
    go_wp2_with fail
    go_ret
    have hKe:a=(kept L nm).length:=by rw [← HKL.out];exact HAE.out
    refine ⟨by rw [← hKe];rfl,RowH.tail (i:=a) (fun k x hx=>by rw [hKe];exact hx.1) vs (a*4) wr (Nat.le_refl _) (HROW.out.mono ?_),HGR.out.trans (grown_setCells g vs (a*4) wr)⟩
    rintro k x ⟨h1,h2⟩
    rw [HKL.out,hKe]
    exact .inl ⟨h1,h2⟩
end
section
open Go.RowKit Go.Shelf
open Qos (Nd Ct Pd nd ct pd podF)
open Sv (Gv Hd gv hd gsF heldF heldTxt)
open Dvs (Dv dv Nodes)
open S1 (Tab gTab)
theorem tab_apart {K:Nat→Prop} {W W':World} (h:TabUp W) (ha:Apart K W W') (hK:¬ K 0):TabUp W':=by
 refine ⟨?_,Nat.lt_of_lt_of_le h.2 ha.size⟩
 have h1:=h.1
 unfold Tab Lib.TabIs World.var? at h1 ⊢
 simp only [gTab,Option.bind_some] at h1 ⊢
 rw [ha.block _ h.2 hK]
 exact h1
theorem kept_fst (L:List HS) (nm:ByteArray):(kept L nm).map HS.h=Ol.without (L.map HS.h) nm:=by
 unfold kept Ol.without
 induction L with
 | nil=>rfl
 | cons x l ih=>
  rw [List.map_cons]
  by_cases e:x.h.pod.nm=nm
  ·rw [List.filter_cons_of_neg (by simp [e]),List.filter_cons_of_neg (by simp [e])];exact ih
  ·rw [List.filter_cons_of_pos (by simp [e]),List.filter_cons_of_pos (by simp [e]),List.map_cons,ih]
theorem newOf_sub {rs ws:List Rn} (h:∀ a∈ws,a∈rs):newOf rs ws=0:=by
 unfold newOf
 rw [List.length_eq_zero_iff,List.filter_eq_nil_iff]
 intro a ha
 simpa using h a ha
theorem runs_sub {hs hs':List Hd} (h:hs'.Sublist hs):∀ a∈runsOf hs',a∈runsOf hs:=by
 intro a ha
 obtain ⟨x,hx,hr⟩:=List.mem_flatMap.1 ha
 exact List.mem_flatMap.2 ⟨x,h.subset hx,hr⟩
def gone (hs:List Hd) (nms:List ByteArray):List Hd:=nms.foldl Ol.without hs
def goneL (L:List HS) (nms:List ByteArray):List HS:=nms.foldl kept L
theorem gone_next {hs:List Hd} {nms:List ByteArray} {k:Nat} (hk:k<nms.length):gone hs (nms.take (k+1))=Ol.without (gone hs (nms.take k)) nms[k]:=by
 unfold gone
 rw [List.take_succ_eq_append_getElem hk,List.foldl_append]
 rfl
theorem goneL_next {L:List HS} {nms:List ByteArray} {k:Nat} (hk:k<nms.length):goneL L (nms.take (k+1))=kept (goneL L (nms.take k)) nms[k]:=by
 unfold goneL
 rw [List.take_succ_eq_append_getElem hk,List.foldl_append]
 rfl
theorem gone_sub (hs:List Hd) (nms:List ByteArray):(gone hs nms).Sublist hs:=by
 unfold gone
 induction nms generalizing hs with
 | nil=>exact List.Sublist.refl _
 | cons a l ih=>exact (ih _).trans (Ol.without_sub hs a)
theorem goneL_sub (L:List HS) (nms:List ByteArray):(goneL L nms).Sublist L:=by
 unfold goneL
 induction nms generalizing L with
 | nil=>exact List.Sublist.refl _
 | cons a l ih=>exact (ih _).trans List.filter_sublist
theorem goneL_fst (L:List HS) (nms:List ByteArray):(goneL L nms).map HS.h=gone (L.map HS.h) nms:=by
 unfold goneL gone
 induction nms generalizing L with
 | nil=>rfl
 | cons a l ih=>rw [List.foldl_cons,List.foldl_cons,ih,kept_fst]
theorem gone_inv {t:Ol.St} (h:Ol.Inv t) (nms:List ByteArray):Ol.Inv ⟨t.m,t.ds,gone t.hs nms⟩:=by
 obtain ⟨s,hs⟩:=h.left
 exact ⟨h.devs,Ol.heldF_sub h.held (gone_sub t.hs nms),Ol.left_sub hs (gone_sub t.hs nms)⟩
theorem row_held {M:Nat→Prop} {w W:World} {g cap:Nat} {L:List HS} (hr:RowH W g cap (fun k x=>k<L.length∧x=hsAt L k)) (hM:∀ j,M j→j<w.heap.size) (hg:w.heap.size≤g) (hl:L.length≤cap) (hc:cap≤maxLen) (old:∀ x∈L,ConsAt (mask M w) (.slice x.ca x.cn x.cc) x.h.pod.cs∧GivsAt (mask M w) (.slice x.ga x.gn x.gc) x.h.gs) (ha:Apart M w W):HldsAt (mask M W) (.slice (some ⟨g,0,none⟩) L.length cap) (L.map HS.h):=by
 have hle:CellLe (mask M w) (mask M W):=mask_to (fun j hj hn=>⟨hn,ha.block j hj hn⟩) ha.size
 have hrow:=rowH_to hr hg hl hc
 have:=hlds_own (N:=w.heap.size) (l:=L.map HS.tri) (M:=M) (by rw [List.length_map];exact hrow) hM fun x hx=>by
  obtain ⟨y,hy,rfl⟩:=List.mem_map.1 hx
  exact ⟨(old y hy).1.le hle,(old y hy).2.le hle⟩
 rw [List.map_map] at this
 exact this
theorem engR_row {W W':World} {g Be Bd Bm n:Nat} {sn sk:Sd} {C:Rn→Prop} (h:EngR W Be Bd Bm n sn sk C) {cap:Nat} {R:Nat→HS→Prop} (hr:RowH W g cap R) (hg:W.grownBy W' (some g)) (hn:g≠Bd∧g≠Bm∧g≠Be):EngR W' Be Bd Bm n sn sk C:=
 engR_apart h (apart_grown hg (fun j e _=>by injection e with e;exact e.symm)) hn fun arr z e=>by
  obtain ⟨cur,h1,_⟩:=hr
  rw [h1] at e
  cases e
section
variable {N:Nat→Prop} {Ba Bd Be Bm:Nat} {t:Ol.St} {dk:Dk} {n:Nat} {p:Pd}
theorem Mach.then {w W2 W3:World} {m:Ol.Mc} {ds:List Dv} {hs:List Hd} {dk':Dk} {n' tb b c pb db:Nat} {v v0:Value} {ao:Option Addr} {pc cp0 pb0:Nat} {s:Ol.Sk} (h:Mach w N Ba Bd Be Bm t dk n) (hz:w.heap.size≤W2.heap.size) (hT:MTop (mask (four N Ba Bd Bm) W2) tb b 0 c m) (h0:0<m.l.length) (hH:HldsAt (mask (four N Ba Bd Bm) W2) v hs) (ha:Apart (fun j=>j=Ba) W2 W3) (hO:OsAt W3 Ba tb m Bd Be v s.cp pb) (hS:SkAt W3 pb db ao pc s) (hpb:W2.heap.size≤pb) (hdb:0<s.ds.length→W2.heap.size≤db) (hE:EngR W2 Be Bd Bm n' dk'.n dk'.k (fun a=>a∈runsOf hs)) (hO2:OsAt W2 Ba tb m Bd Be v0 cp0 pb0) (hi:Ol.Inv ⟨m,ds,hs⟩) (hl:Ol.left m ds hs=some s) (hc:Calm dk') (htx:(heldTxt hs).length≤6000):Mach W3 N Ba Bd Be Bm ⟨m,ds,hs⟩ dk' n':=by
 have z4:=ha.size
 have hf:∀ j,j<W2.heap.size→¬ four N Ba Bd Bm j→W3.heap[j]?=W2.heap[j]?:=fun j hj hn=>ha.block j (by omega) (fun e=>hn (.inr (.inl e)))
 obtain ⟨l1,l2,l3⟩:=h.eng.lt
 obtain ⟨q1,q2,q3,q4,q5,q6,q7,q9,q8⟩:=h
 have l4:Ba<w.heap.size:=by
  obtain ⟨_,_,_,_,_,_,_,_,_,k1,_⟩:=q8
  exact k1.lt
 have f4:∀ j,W2.heap.size≤j→¬ four N Ba Bd Bm j:=fun j hj e=>by
  rcases e with e|e|e|e
  ·have:=q7 j e;omega
  all_goals omega
 exact ⟨hi,hc,h0,engR_apart hE ha q5 hO2.notInt,q5,q6,fun j hj=>by have:=q7 j hj;omega,htx,tb,b,c,v,pb,db,ao,pc,s,hO,hH.le (mask_to (fun j hj hn=>⟨hn,hf j hj hn⟩) (by omega)),mtop_to hT h0 hf (by omega),hl,hS,f4 pb hpb,fun h=>f4 db (hdb h)⟩
end
end
section
open Go.RowKit Go.Shelf
open Qos (Nd Ct Pd nd ct pd podF)
open Sv (Gv Hd gv hd gsF heldF heldTxt)
open Dvs (Dv dv Nodes)
attribute [local go_sem] Oper.semAt_some
theorem letGo_any (N:Nat→Prop) (Ba Bd Be Bm:Nat) (t:Ol.St) (dk:Dk) (n:Nat) (nms:List ByteArray) (nb no nc:Nat) (w:World) (hM:Mach w N Ba Bd Be Bm t dk n) (hnm:∀ k (hk:k<nms.length),w.cell? ⟨nb,no+k,none⟩=some (.string nms[k])) (hnb:nb≠Bd∧nb≠Bm) (hnbl:nb<w.heap.size) (hnml:nms.length≤100) (h0:0<t.hs.length) (hn:n+36≤1000) (ht:∀ W,Apart (three Ba Bd Bm) w W→TabUp W) :
  Calls Tryz.prog 43 #[.pointer (some ⟨Ba,0,none⟩),.slice (some ⟨nb,no,none⟩) nms.length nc] w fun e w'=>e=.returned .nilIface∧(∃ dk' n',n'≤n∧Mach w' N Ba Bd Be Bm ⟨t.m,t.ds,gone t.hs nms⟩ dk' n')∧Apart (three Ba Bd Bm) w w':=by
 have HMA:=hZz hM
 obtain ⟨h1,hcalm,hcpu,hE,hab,hfr,hnl,htx,tb,b,tc,hv,pb,db,ao,pc,s,k1,k2,k3,k4,k5,k6,k7⟩:=hM
 obtain ⟨a1,a2,a3⟩:=Ol.heldF_iff.1 h1.held
 have HINV:=hZz h1
 have HHF:=hZz h1.held
 have HCALM:=hZz hcalm
 have HCPU:=hZz hcpu
 have HE:=hZz hE
 have HTX:=hZz htx
 obtain ⟨el1,el2,el3⟩:=hE.lt
 obtain ⟨ea1,ea2,ea3⟩:=hE.apart
 obtain ⟨ab1,ab2,ab3⟩:=hab
 have hba:=k1.lt
 obtain ⟨ha,hc,hvv,hhm,hhr⟩:=id k2
 subst hvv
 have HK1:=hZz k1
 have HK2:=hZz k2
 have HK3:=hZz k3
 have HK4:=hZz k4
 have HK5:=hZz k5
 have HK6:=hZz k6
 have HK7:=hZz k7
 have HT:=hZz ht
 have HNM:=hZz hnm
 have HNB:=hZz hnb
 have HML:Hid (∀ j,four N Ba Bd Bm j→j<w.heap.size):=fun j hj=>by
  rcases hj with e|e|e|e
  ·exact hnl j e
  all_goals omega
 have x7:w.cell? ⟨Ba,7,none⟩=some (.slice ha t.hs.length hc):=cell_of_heapV k1 7
 have hop:=k3.op
 have HNOD:Hid (Nodes t.ds):=Dvs.fault_nodes h1.devs
 clear h1 hcalm hcpu hE hfr hnl htx k1 k2 k3 k4 k5 k6 k7 a2 a3 hhm hhr ht hnm hnb
 go_enter Tryz.func43,Tryz.ntmps43
 go_wp2_with fail
 clear x7
 refine (cloneHeld_any (.slice ha t.hs.length hc) t.hs w (mask (four N Ba Bd Bm) w) HK2.out (mask_off _ _) (by omega)).mono ?_
 rintro e C1 ⟨u,cvv,gvv,rfl,hown,hin,hb⟩
 obtain ⟨l,hl1,hl2,hl3⟩:=clone_parts hown hin
 obtain ⟨L,hL⟩:=parts_open hl3
 have HFST:Hid (L.map HS.h=t.hs):=by
  unfold Hid
  rw [← hl1,← hL,List.map_map]
  rfl
 have HOLD:Hid (∀ x∈L,ConsAt (mask (four N Ba Bd Bm) w) (.slice x.ca x.cn x.cc) x.h.pod.cs∧GivsAt (mask (four N Ba Bd Bm) w) (.slice x.ga x.gn x.gc) x.h.gs):=fun x hx=>hl3 x.tri (by rw [← hL];exact List.mem_map.2 ⟨x,hx,rfl⟩)
 have hL0:0<L.length∧L.length≤12:=by rw [← HFST.out,List.length_map] at h0 a1;exact ⟨h0,a1⟩
 obtain ⟨g,cap,hu⟩:∃ g cap,u=.slice (some ⟨g,0,none⟩) L.length cap:=by
  rcases hl2.2 with ⟨_,hz⟩|⟨g,cap,cur,hv',_⟩
  ·exfalso;rw [← hL,List.length_map] at hz;omega
  ·exact ⟨g,cap,by rw [hv',← hL,List.length_map]⟩
 subst hu
 rw [← hL,List.length_map] at hl2
 obtain ⟨hrow,hgw,hlc,hcm⟩:=rowH_of hl2
 have HROW0:=hZz hrow
 have HCM:=hZz hcm
 have HAP0:Hid (Apart (two2 Bd Bm) w C1):=Apart.of_below hb
 have HE0:Hid (EngR C1 Be Bd Bm n dk.n dk.k (fun a=>a∈runsOf t.hs)):=HE.out.below hb
 clear hown hin hb hl1 hl2 hl3 hL hrow hcm cvv gvv l
 go_wp2_with fail
 go_loopw [5,17] (fun nx i wr=>∃ k:Nat,k≤nms.length∧i=.int .i64 k∧nx=.slice (some ⟨g,0,none⟩) (goneL L (nms.take k)).length cap∧RowH wr g cap (fun j x=>j<(goneL L (nms.take k)).length∧x=hsAt (goneL L (nms.take k)) j)∧(∃ n',n'≤n∧EngR wr Be Bd Bm n' dk.n dk.k (fun a=>a∈runsOf (gone t.hs (nms.take k))))∧Apart (two2 Bd Bm) w wr) (fun _ i _=>nms.length - (intOf i).toNat)
 case atStart=>exact ⟨0,Nat.zero_le _,rfl,rfl,HROW0.out,⟨n,Nat.le_refl _,HE0.out⟩,HAP0.out⟩
 case round=>
  obtain ⟨k,hk,rfl,rfl,hrow,⟨n',hn',hE⟩,hap⟩:=hrel
  have HROW:=hZz hrow
  have HE1:=hZz hE
  have HAP:=hZz hap
  have hsz:=hap.size
  have HSUBL:=hZz (goneL_sub L (nms.take k))
  have hkl:(goneL L (nms.take k)).length≤L.length:=(goneL_sub L (nms.take k)).length_le
  have HFK:Hid ((goneL L (nms.take k)).map HS.h=gone t.hs (nms.take k)):=by unfold Hid;rw [goneL_fst,HFST.out]
  clear hrow hE hap HE0 HAP0 HROW0
  by_cases hlt:k<nms.length
  ·have c0:wr.cell? ⟨nb,no+k,none⟩=some (.string nms[k]):=by
    rw [← HNM.out k hlt]
    unfold World.cell?
    rw [HAP.out.block nb hnbl (fun e=>e.elim HNB.out.1 HNB.out.2)]
   have HNX:=hZz (goneL_next (L:=L) hlt)
   have HGX:=hZz (gone_next (hs:=t.hs) hlt)
   obtain ⟨nm,hnm⟩:∃ nm,nm=nms[k]:=⟨_,rfl⟩
   rw [← hnm] at c0 HNX HGX
   clear hnm
   have HBA:=hZz ((Below.refl wr.heap.size wr).alloc (Nat.le_refl _) (.cells #[.string nm] 9))
   have HXA:=hZz (heap_madeO wr (.cells #[.string nm] 9) rfl)
   have hgl:g<wr.heap.size:=HROW.out.lt
   have hLk:Hid ((goneL L (nms.take (k+1))).length≤L.length):=(goneL_sub L (nms.take (k+1))).length_le
   go_wp2_with fail
   clear c0
   generalize wr.alloc (.cells #[.string nm] 9)=X at *
   refine (deleteHeld_any nm wr.heap.size g cap (goneL L (nms.take k)) X HXA.out (by omega) (HROW.out.block (HBA.out.block g hgl)) (by omega) HCM.out (by omega)).mono ?_
   rintro e W2 ⟨rfl,hrow2,hgr2⟩
   rw [← HNX.out] at hrow2 ⊢
   have HROW2:=hZz hrow2
   have hs2:=hgr2.size
   have hs1:=HBA.out.size
   have HAP2:Hid (Apart (two2 Bd Bm) w W2):=⟨hgr2.os.trans (HBA.out.os.trans HAP.out.os),hgr2.tape.trans (HBA.out.tape.trans HAP.out.tape),hgr2.output.trans (HBA.out.output.trans HAP.out.output),by omega,fun j hj hn=>(hgr2.block j (by omega) (fun e=>by injection e with e;omega)).trans ((HBA.out.block j (by omega)).trans (HAP.out.block j hj hn))⟩
   have HE2:Hid (EngR W2 Be Bd Bm n' dk.n dk.k (fun a=>a∈runsOf (gone t.hs (nms.take k)))):=engR_row (HE1.out.below HBA.out) (HROW.out.block (HBA.out.block g hgl)) hgr2 ⟨by omega,by omega,by omega⟩
   have x6:W2.cell? ⟨Ba,6,none⟩=some (.pointer (some ⟨Be,0,none⟩)):=cell_of_heapV ((HAP2.out.block Ba hba (fun e=>e.elim ab1 ab2)).trans HK1.out) 6
   have HFK2:Hid ((goneL L (nms.take (k+1))).map HS.h=gone t.hs (nms.take (k+1))):=by unfold Hid;rw [goneL_fst,HFST.out]
   have HH2:Hid (HldsAt (mask (two2 Bd Bm) W2) (.slice (some ⟨g,0,none⟩) (goneL L (nms.take (k+1))).length cap) (gone t.hs (nms.take (k+1)))):=by
    have:=row_held (M:=four N Ba Bd Bm) (w:=w) hrow2 HML.out hgw (by have:=hLk.out;omega) HCM.out (fun x hx=>HOLD.out x ((goneL_sub L (nms.take (k+1))).subset hx)) ⟨HAP2.out.os,HAP2.out.tape,HAP2.out.output,HAP2.out.size,fun j hj hn=>HAP2.out.block j hj (fun e=>hn (.inr (.inr e)))⟩
    rw [HFK2.out] at this
    exact this.le (mask_to (fun j hj hn=>⟨fun e=>hn (.inr (.inr e)),rfl⟩) (Nat.le_refl _))
   have HRJ:=hZz (runJust_any Be Bd Bm n' dk.n dk.k (runsOf (gone t.hs (nms.take k))) _ _ W2 HE2.out HH2.out (Ol.heldF_sub HHF.out (gone_sub _ _)) (by omega))
   clear hrow2 hgr2
   go_wp2_with fail
   refine HRJ.out.mono ?_
   rintro e W3 ⟨rfl,⟨n2,hn2,hE3⟩,ho3⟩
   have HE3:=hZz hE3
   have HO3:=hZz ho3
   have HN2:Hid (n2≤n):=by
    unfold Hid
    rw [newOf_sub (runs_sub (by rw [HGX.out];exact Ol.without_sub _ _))] at hn2
    omega
   clear hE3 ho3 hn2 x6 HRJ
   go_wp2_with fail
   go_roundw
   case rel=>exact ⟨k+1,by omega,by go_num,rfl,HROW2.out.block (HO3.out.block g (by omega) (by omega) (by omega)),⟨n2,HN2.out,HE3.out⟩,⟨HO3.out.os.trans HAP2.out.os,HO3.out.tape.trans HAP2.out.tape,HO3.out.output.trans HAP2.out.output,by have:=HO3.out.size;have:=HAP2.out.size;omega,fun j hj hn=>(HO3.out.block j (by omega) (fun e=>hn (.inl e)) (fun e=>hn (.inr e))).trans (HAP2.out.block j hj hn)⟩⟩
   case measure=>simp [intOf];omega
  ·have hke:nms.take k=nms:=List.take_of_length_le (by omega)
   rw [hke] at HROW HE1 HSUBL hkl HFK ⊢
   clear hke
   have HHS:Hid (HldsAt (mask (four N Ba Bd Bm) wr) (.slice (some ⟨g,0,none⟩) (goneL L nms).length cap) (gone t.hs nms)):=by
    have:=row_held (M:=four N Ba Bd Bm) (w:=w) HROW.out HML.out hgw (by omega) HCM.out (fun x hx=>HOLD.out x (HSUBL.out.subset hx)) ⟨HAP.out.os,HAP.out.tape,HAP.out.output,HAP.out.size,fun j hj hn=>HAP.out.block j hj (fun e=>hn (.inr (.inr e)))⟩
    rw [HFK.out] at this
    exact this
   have HF:=hZz (Ol.heldF_sub HHF.out (gone_sub t.hs nms))
   have HTG:=hZz (Ol.txt_sub (gone_sub t.hs nms) (Ol.conts_of HHF.out) HTX.out)
   have HCS:=hZz (calm_save HCALM.out HF.out)
   have HO1:Hid (OsAt wr Ba tb t.m Bd Be (.slice ha t.hs.length hc) s.cp pb):=(HAP.out.block Ba hba (fun e=>e.elim ab1 ab2)).trans HK1.out
   have x5:wr.cell? ⟨Ba,5,none⟩=some (.pointer (some ⟨Bd,0,none⟩)):=cell_of_heapV HO1.out 5
   have HAPT:Hid (Apart (three Ba Bd Bm) w wr):=⟨HAP.out.os,HAP.out.tape,HAP.out.output,HAP.out.size,fun j hj hn=>HAP.out.block j hj (fun e=>hn (.inr e))⟩
   have HD8:Hid (DkAt wr Bd dk):=calm_of HE1.out.disk HCALM.out
   have HSV:=hZz (save_any Bd dk _ (gone t.hs nms) wr HD8.out (.inl HCALM.out.2.2) (HHS.out.le (mask_off _ _)) (HT.out _ HAPT.out))
   rw [HCS.out.1 HTG.out,show errV (((0:Nat)):Int)=.nilIface from rfl] at HSV
   go_wp2_with fail
   refine HSV.out.mono ?_
   rintro e W9 ⟨rfl,hd9,hg9⟩
   have HD9:=hZz hd9
   have HG9:=hZz hg9
   have hs9:=hg9.size
   have HE9:Hid (EngR W9 Be Bd Bm n' (dk.save (gone t.hs nms)).2.n (dk.save (gone t.hs nms)).2.k (fun a=>a∈runsOf (gone t.hs nms))):=engR_disk HE1.out hg9 hd9 HCS.out.2.2
   have HO9:Hid (OsAt W9 Ba tb t.m Bd Be (.slice ha t.hs.length hc) s.cp pb):=(hg9.block Ba (by omega) (fun e=>ab1 (by injection e))).trans HO1.out
   have HBLK:Hid (∀ j,j<w.heap.size→¬ four N Ba Bd Bm j→W9.heap[j]?=w.heap[j]?):=fun j hj hn=>(hg9.block j (by omega) (fun e=>hn (.inr (.inr (.inl (by injection e)))))).trans (HAP.out.block j hj (fun e=>hn (.inr (.inr e))))
   have hpbl:=HK5.out.pool.lt
   have HPO9:Hid (PoolAt W9 pb db ao pc t.ds s.us):=by
    have:=pool_blocks HK5.out.pool (HBLK.out pb hpbl HK6.out) (fun h0=>HBLK.out db (HK5.out.pool.at0 h0).2.2 (HK7.out h0)) (by omega)
    rw [Ol.left_ds HK4.out] at this
    exact this
   have HH9:Hid (HldsAt (mask (four N Ba Bd Bm) W9) (.slice (some ⟨g,0,none⟩) (goneL L nms).length cap) (gone t.hs nms)):=HHS.out.le (mask_to (fun j hj hn=>⟨hn,hg9.block j hj (fun e=>hn (.inr (.inr (.inl (by injection e)))))⟩) (by omega))
   have HH10:Hid (HldsAt (mask (fun j=>j=Ba) W9) (.slice (some ⟨g,0,none⟩) (goneL L nms).length cap) (gone t.hs nms)):=HH9.out.le (mask_to (fun j hj hn=>⟨fun e=>hn (.inr (.inl e)),rfl⟩) (Nat.le_refl _))
   have HT9:Hid (MTop (mask (four N Ba Bd Bm) W9) tb b 0 tc t.m):=mtop_to HK3.out HCPU.out HBLK.out (by omega)
   have HIG:=hZz (gone_inv HINV.out nms)
   obtain ⟨s',hs'⟩:=HIG.out.left
   have HS':=hZz hs'
   have hok':OkHs (gone t.hs nms):=(Ol.heldF_iff.1 HF.out).2.1
   have hlen':(gone t.hs nms).length≤100:=by have:=(Ol.heldF_iff.1 HF.out).1;omega
   have HHO:=hZz (hold_any Ba tb t.m Bd Be (.slice ha t.hs.length hc) s.cp pb db ao pc t.ds s.us (.slice (some ⟨g,0,none⟩) (goneL L nms).length cap) (gone t.hs nms) s' W9 HO9.out ⟨_,_,_,rfl⟩ HPO9.out (fun e=>HK6.out (.inr (.inl e))) (fun h0 e=>HK7.out (by rw [Ol.left_ds HK4.out];exact h0) (.inr (.inl e))) HNOD.out HH10.out hop hok' hlen' hs')
   clear hd9 hg9 hs' hok' hlen' x5
   go_wp2_with fail
   refine HHO.out.mono ?_
   rintro e W11 ⟨rfl,⟨pb2,db2,ao2,c2,hos,hsk,hpb,hdb⟩,ha11⟩
   have HFIN:Hid (Mach W11 N Ba Bd Be Bm ⟨t.m,t.ds,gone t.hs nms⟩ (dk.save (gone t.hs nms)).2 n'):=HMA.out.then (by omega) HT9.out HCPU.out HH9.out ha11 hos hsk hpb hdb HE9.out HO9.out HIG.out HS'.out HCS.out.2.2 HTG.out
   have HAPF:Hid (Apart (three Ba Bd Bm) w W11):=(HAPT.out.trans (apart_grown HG9.out (fun j e _=>.inr (.inl (by injection e with e;exact e.symm))))).trans ⟨ha11.os,ha11.tape,ha11.output,ha11.size,fun j hj hn=>ha11.block j hj (fun e=>hn (.inl e))⟩
   clear hos hsk hpb hdb ha11
   go_wp2_with fail
   go_ret
   exact ⟨rfl,⟨_,n',hn',HFIN.out⟩,HAPF.out⟩
end
section
open Go.RowKit Go.Shelf
open Qos (Nd Ct Pd nd ct pd podF)
open Sv (Gv Hd gv hd gsF heldF heldTxt)
attribute [local go_sem] Oper.semAt_some
theorem without_none {hs:List Hd} {nm:ByteArray} (h:hasN hs nm=false):Ol.without hs nm=hs:=by
 unfold Ol.without
 refine List.filter_eq_self.2 fun x hx=>?_
 have:¬ x.pod.nm=nm:=fun e=>by
  rw [hasN_iff.2 ⟨x,hx,e⟩] at h;cases h
 simp [this]
theorem remove_any (N:Nat→Prop) (Ba Bd Be Bm:Nat) (t:Ol.St) (dk:Dk) (n:Nat) (nm:ByteArray) (w:World) (hM:Mach w N Ba Bd Be Bm t dk n) (hn:n+36≤1000) (ht:∀ W,Apart (three Ba Bd Bm) w W→TabUp W) :
  Calls Tryz.prog 16 #[.pointer (some ⟨Ba,0,none⟩),.string nm] w fun e w'=>e=.returned (errV ((if hasN t.hs nm then 0 else 6:Nat):Int))∧(∃ dk' n',n'≤n∧Mach w' N Ba Bd Be Bm ⟨t.m,t.ds,Ol.without t.hs nm⟩ dk' n')∧Apart (three Ba Bd Bm) w w':=by
 obtain ⟨en,hen⟩:∃ en:Nat,en=if hasN t.hs nm then 0 else 6:=⟨_,rfl⟩
 rw [← hen]
 have HEN:=hZz hen
 clear hen
 have HMA:=hZz hM
 have HT:=hZz ht
 obtain ⟨h1,hcalm,hcpu,hE,hab,hfr,hnl,htx,tb,b,tc,hv,pb,db,ao,pc,s,k1,k2,k3,k4,k5,k6,k7⟩:=hM
 obtain ⟨a1,a2,a3⟩:=Ol.heldF_iff.1 h1.held
 obtain ⟨el1,el2,el3⟩:=hE.lt
 obtain ⟨ha,hc,hvv,hhm,hhr⟩:=id k2
 subst hvv
 have x7:w.cell? ⟨Ba,7,none⟩=some (.slice ha t.hs.length hc):=cell_of_heapV k1 7
 have HFI:=hZz (find_any (.slice ha t.hs.length hc) t.hs nm w (k2.le (mask_off _ _)) (by omega) a3)
 clear h1 hcalm hcpu hE hab hfr hnl htx k1 k2 k3 k4 k5 k6 k7 a2 a3 hhm hhr ht
 go_enter Tryz.func16,Tryz.ntmps16
 go_wp2_with fail
 refine HFI.out.mono ?_
 rintro e W1 ⟨rfl,hb1⟩
 have HB1:=hZz hb1
 have hs1:=hb1.size
 clear hb1 x7
 rcases two (hasN t.hs nm) with hh|hh
 ·have HH:=hZz hh
  rw [hh]
  have hpos:0<t.hs.length:=by
   obtain ⟨x,hx,_⟩:=hasN_iff.1 hh
   exact List.length_pos_of_mem hx
  clear hh
  have HBX:=hZz (HB1.out.alloc HB1.out.size (.cells #[.string nm] 9))
  have HX0:=hZz (heap_madeO W1 (.cells #[.string nm] 9) rfl)
  have hsX:(W1.alloc (.cells #[.string nm] 9)).heap.size=W1.heap.size+1:=by simp
  go_wp2_with fail
  generalize W1.alloc (.cells #[.string nm] 9)=X at *
  refine (letGo_any N Ba Bd Be Bm t dk n [nm] W1.heap.size 0 1 X (HMA.out.keep HBX.out) (fun k hk=>by
   have hk0:k=0:=by simp at hk;exact hk
   subst hk0
   exact cell_of_heapV HX0.out 0) ⟨by omega,by omega⟩ (by omega) (by simp) hpos hn (fun W hW=>HT.out W ((Apart.of_below HBX.out).trans hW))).mono ?_
  rintro e W2 ⟨rfl,hM2,ha2⟩
  have HM2:=hZz hM2
  have HA2:=hZz ha2
  clear hM2 ha2
  go_wp2_with fail
  go_ret
  exact ⟨by rw [show en=0 by rw [HEN.out,HH.out];rfl];rfl,HM2.out,(Apart.of_below HBX.out).trans HA2.out⟩
 ·have HH:=hZz hh
  rw [hh]
  clear hh
  go_wp2_with fail
  go_ret
  exact ⟨by rw [show en=6 by rw [HEN.out,HH.out];rfl];rfl,by rw [without_none HH.out];exact ⟨dk,n,Nat.le_refl _,HMA.out.keep HB1.out⟩,Apart.of_below HB1.out⟩
end
end Go.Proofs.YtbfdcmodflnkfaaGreatDoor
