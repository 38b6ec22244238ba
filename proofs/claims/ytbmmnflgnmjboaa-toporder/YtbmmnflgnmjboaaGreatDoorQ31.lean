/- OL2, OI4, OL3 -/
import Derived.Test.YtbmmnflgnmjboaaGreatDoorQ30
set_option maxRecDepth 100000
set_option maxHeartbeats 16000000
namespace Go.Proofs.YtbmmnflgnmjboaaGreatDoor
section
open Go.RowKit Go.Shelf
open Qos (Nd Ct Pd nd ct pd podF)
open Sv (Gv Hd gv hd gsF heldF heldTxt)
open Dvs (Dv dv Nodes)
attribute [local go_sem] Oper.semAt_some
theorem letGo_any (N:Nat→Prop) (Ba Bd Be Bm:Nat) (t:Ol.St) (dk:Dk) (n:Nat) (nms:List ByteArray) (nb no nc:Nat) (w:World) (hM:Mach w N Ba Bd Be Bm t dk n) (hnm:∀ k (hk:k<nms.length),w.cell? ⟨nb,no+k,none⟩=some (.string nms[k])) (hnb:nb≠Bd∧nb≠Bm) (hnbl:nb<w.heap.size) (hnml:nms.length≤100) (h0:0<t.hs.length) (hn:n+36≤1000) (ht:∀ W,Apart (three Ba Bd Bm) w W→TabUp W) :
  Calls Tryz.prog 62 #[.pointer (some ⟨Ba,0,none⟩),.slice (some ⟨nb,no,none⟩) nms.length nc] w fun e w'=>e=.returned .nilIface∧(∃ dk' n',n'≤n∧Mach w' N Ba Bd Be Bm ⟨t.m,t.ds,gone t.hs nms⟩ dk' n')∧Apart (three Ba Bd Bm) w w':=by
 have HMA:=qI hM;obtain ⟨h1,hcalm,hcpu,hE,hab,hfr,hnl,htx,tb,b,tc,hv,pb,db,ao,pc,s,k1,k2,k3,k4,k5,k6,k7⟩:=hM;obtain ⟨a1,a2,a3⟩:=Ol.heldF_iff.1 h1.held;have HINV:=qI h1;have HHF:=qI h1.held;have HCALM:=qI hcalm;have HCPU:=qI hcpu;have HE:=qI hE;have HTX:=qI htx;obtain ⟨el1,el2,el3⟩:=hE.lt;obtain ⟨ea1,ea2,ea3⟩:=hE.apart;obtain ⟨ab1,ab2,ab3⟩:=hab;have hba:=k1.lt;obtain ⟨ha,hc,hvv,hhm,hhr⟩:=id k2;subst hvv;have HK1:=qI k1;have HK2:=qI k2;have HK3:=qI k3;have HK4:=qI k4;have HK5:=qI k5;have HK6:=qI k6;have HK7:=qI k7;have HT:=qI ht;have HNM:=qI hnm;have HNB:=qI hnb;have HML:Hid (∀ j,four N Ba Bd Bm j→j<w.heap.size):=fun j hj=>by
  rcases hj with e|e|e|e
  ·exact hnl j e
  all_goals omega
 have x7:w.cell? ⟨Ba,7,none⟩=some (.slice ha t.hs.length hc):=cell_of_heapV k1 7;have hop:=k3.op;have HNOD:Hid (Nodes t.ds):=Dvs.fault_nodes h1.devs;clear h1 hcalm hcpu hE hfr hnl htx k1 k2 k3 k4 k5 k6 k7 a2 a3 hhm hhr ht hnm hnb
 go_enter Tryz.func62,Tryz.ntmps62
 go_wp2_with fail
 clear x7;refine (cloneHeld_any (.slice ha t.hs.length hc) t.hs w (mask (four N Ba Bd Bm) w) HK2.out (mask_off _ _) (by omega)).mono ?_;rintro e C1 ⟨u,cvv,gvv,rfl,hown,hin,hb⟩;obtain ⟨l,hl1,hl2,hl3⟩:=clone_parts hown hin;obtain ⟨L,hL⟩:=parts_open hl3;have HFST:Hid (L.map HS.h=t.hs):=by
  unfold Hid;rw [← hl1,← hL,List.map_map];rfl
 have HOLD:Hid (∀ x∈L,ConsAt (mask (four N Ba Bd Bm) w) (.slice x.ca x.cn x.cc) x.h.pod.cs∧GivsAt (mask (four N Ba Bd Bm) w) (.slice x.ga x.gn x.gc) x.h.gs):=fun x hx=>hl3 x.tri (by rw [← hL];exact List.mem_map.2 ⟨x,hx,rfl⟩)
 have hL0:0<L.length∧L.length≤12:=by rw [← HFST.out,List.length_map] at h0 a1;exact ⟨h0,a1⟩
 obtain ⟨g,cap,hu⟩:∃ g cap,u=.slice (some ⟨g,0,none⟩) L.length cap:=by
  rcases hl2.2 with ⟨_,hz⟩|⟨g,cap,cur,hv',_⟩
  ·exfalso;rw [← hL,List.length_map] at hz;omega
  ·exact ⟨g,cap,by rw [hv',← hL,List.length_map]⟩
 subst hu;rw [← hL,List.length_map] at hl2;obtain ⟨hrow,hgw,hlc,hcm⟩:=rowH_of hl2;have HROW0:=qI hrow;have HCM:=qI hcm;have HAP0:Hid (Apart (two2 Bd Bm) w C1):=Apart.of_below hb;have HE0:Hid (EngR C1 Be Bd Bm n dk.n dk.k (fun a=>a∈runsOf t.hs)):=HE.out.below hb;clear hown hin hb hl1 hl2 hl3 hL hrow hcm cvv gvv l
 go_wp2_with fail
 go_loopw [5,17] (fun nx i wr=>∃ k:Nat,k≤nms.length∧i=.int .i64 k∧nx=.slice (some ⟨g,0,none⟩) (goneL L (nms.take k)).length cap∧RowH wr g cap (fun j x=>j<(goneL L (nms.take k)).length∧x=hsAt (goneL L (nms.take k)) j)∧(∃ n',n'≤n∧EngR wr Be Bd Bm n' dk.n dk.k (fun a=>a∈runsOf (gone t.hs (nms.take k))))∧Apart (two2 Bd Bm) w wr) (fun _ i _=>nms.length - (intOf i).toNat)
 case atStart=>exact ⟨0,Nat.zero_le _,rfl,rfl,HROW0.out,⟨n,Nat.le_refl _,HE0.out⟩,HAP0.out⟩
 case round=>
  obtain ⟨k,hk,rfl,rfl,hrow,⟨n',hn',hE⟩,hap⟩:=hrel;have HROW:=qI hrow;have HE1:=qI hE;have HAP:=qI hap;have hsz:=hap.size;have HSUBL:=qI (goneL_sub L (nms.take k));have hkl:(goneL L (nms.take k)).length≤L.length:=(goneL_sub L (nms.take k)).length_le;have HFK:Hid ((goneL L (nms.take k)).map HS.h=gone t.hs (nms.take k)):=by unfold Hid;rw [goneL_fst,HFST.out]
  clear hrow hE hap HE0 HAP0 HROW0
  by_cases hlt:k<nms.length
  ·have c0:wr.cell? ⟨nb,no+k,none⟩=some (.string nms[k]):=by
    rw [← HNM.out k hlt];unfold World.cell?
    rw [HAP.out.block nb hnbl (fun e=>e.elim HNB.out.1 HNB.out.2)]
   have HNX:=qI (goneL_next (L:=L) hlt);have HGX:=qI (gone_next (hs:=t.hs) hlt);obtain ⟨nm,hnm⟩:∃ nm,nm=nms[k]:=⟨_,rfl⟩;rw [← hnm] at c0 HNX HGX;clear hnm;have HBA:=qI ((Below.refl wr.heap.size wr).alloc (Nat.le_refl _) (.cells #[.string nm] 9));have HXA:=qI (heap_madeO wr (.cells #[.string nm] 9) rfl);have hgl:g<wr.heap.size:=HROW.out.lt;have hLk:Hid ((goneL L (nms.take (k+1))).length≤L.length):=(goneL_sub L (nms.take (k+1))).length_le
   go_wp2_with fail
   clear c0;generalize wr.alloc (.cells #[.string nm] 9)=X at *;refine (deleteHeld_any nm wr.heap.size g cap (goneL L (nms.take k)) X HXA.out (by omega) (HROW.out.block (HBA.out.block g hgl)) (by omega) HCM.out (by omega)).mono ?_;rintro e W2 ⟨rfl,hrow2,hgr2⟩;rw [← HNX.out] at hrow2 ⊢;have HROW2:=qI hrow2;have hs2:=hgr2.size;have hs1:=HBA.out.size;have HAP2:Hid (Apart (two2 Bd Bm) w W2):=⟨hgr2.os.trans (HBA.out.os.trans HAP.out.os),hgr2.tape.trans (HBA.out.tape.trans HAP.out.tape),hgr2.output.trans (HBA.out.output.trans HAP.out.output),by omega,fun j hj hn=>(hgr2.block j (by omega) (fun e=>by injection e with e;omega)).trans ((HBA.out.block j (by omega)).trans (HAP.out.block j hj hn))⟩;have HE2:Hid (EngR W2 Be Bd Bm n' dk.n dk.k (fun a=>a∈runsOf (gone t.hs (nms.take k)))):=engR_row (HE1.out.below HBA.out) (HROW.out.block (HBA.out.block g hgl)) hgr2 ⟨by omega,by omega,by omega⟩;have x6:W2.cell? ⟨Ba,6,none⟩=some (.pointer (some ⟨Be,0,none⟩)):=cell_of_heapV ((HAP2.out.block Ba hba (fun e=>e.elim ab1 ab2)).trans HK1.out) 6;have HFK2:Hid ((goneL L (nms.take (k+1))).map HS.h=gone t.hs (nms.take (k+1))):=by unfold Hid;rw [goneL_fst,HFST.out]
   have HH2:Hid (HldsAt (mask (two2 Bd Bm) W2) (.slice (some ⟨g,0,none⟩) (goneL L (nms.take (k+1))).length cap) (gone t.hs (nms.take (k+1)))):=by
    have:=row_held (M:=four N Ba Bd Bm) (w:=w) hrow2 HML.out hgw (by have:=hLk.out;omega) HCM.out (fun x hx=>HOLD.out x ((goneL_sub L (nms.take (k+1))).subset hx)) ⟨HAP2.out.os,HAP2.out.tape,HAP2.out.output,HAP2.out.size,fun j hj hn=>HAP2.out.block j hj (fun e=>hn (.inr (.inr e)))⟩
    rw [HFK2.out] at this;exact this.le (mask_to (fun j hj hn=>⟨fun e=>hn (.inr (.inr e)),rfl⟩) (Nat.le_refl _))
   have HRJ:=qI (runJust_any Be Bd Bm n' dk.n dk.k (runsOf (gone t.hs (nms.take k))) _ _ W2 HE2.out HH2.out (Ol.heldF_sub HHF.out (gone_sub _ _)) (by omega));clear hrow2 hgr2
   go_wp2_with fail
   refine HRJ.out.mono ?_;rintro e W3 ⟨rfl,⟨n2,hn2,hE3⟩,ho3⟩;have HE3:=qI hE3;have HO3:=qI ho3;have HN2:Hid (n2≤n):=by
    unfold Hid;rw [newOf_sub (runs_sub (by rw [HGX.out];exact Ol.without_sub _ _))] at hn2;omega
   clear hE3 ho3 hn2 x6 HRJ
   go_wp2_with fail
   go_roundw
   case rel=>exact ⟨k+1,by omega,by go_num,rfl,HROW2.out.block (HO3.out.block g (by omega) (by omega) (by omega)),⟨n2,HN2.out,HE3.out⟩,⟨HO3.out.os.trans HAP2.out.os,HO3.out.tape.trans HAP2.out.tape,HO3.out.output.trans HAP2.out.output,by have:=HO3.out.size;have:=HAP2.out.size;omega,fun j hj hn=>(HO3.out.block j (by omega) (fun e=>hn (.inl e)) (fun e=>hn (.inr e))).trans (HAP2.out.block j hj hn)⟩⟩
   case measure=>simp [intOf];omega
  ·have hke:nms.take k=nms:=List.take_of_length_le (by omega);rw [hke] at HROW HE1 HSUBL hkl HFK ⊢;clear hke;have HHS:Hid (HldsAt (mask (four N Ba Bd Bm) wr) (.slice (some ⟨g,0,none⟩) (goneL L nms).length cap) (gone t.hs nms)):=by
    have:=row_held (M:=four N Ba Bd Bm) (w:=w) HROW.out HML.out hgw (by omega) HCM.out (fun x hx=>HOLD.out x (HSUBL.out.subset hx)) ⟨HAP.out.os,HAP.out.tape,HAP.out.output,HAP.out.size,fun j hj hn=>HAP.out.block j hj (fun e=>hn (.inr (.inr e)))⟩
    rw [HFK.out] at this;exact this
   have HF:=qI (Ol.heldF_sub HHF.out (gone_sub t.hs nms));have HTG:=qI (Ol.txt_sub (gone_sub t.hs nms) (Ol.conts_of HHF.out) HTX.out);have HCS:=qI (calm_save HCALM.out HF.out);have HO1:Hid (OsAt wr Ba tb t.m Bd Be (.slice ha t.hs.length hc) s.cp pb):=(HAP.out.block Ba hba (fun e=>e.elim ab1 ab2)).trans HK1.out;have x5:wr.cell? ⟨Ba,5,none⟩=some (.pointer (some ⟨Bd,0,none⟩)):=cell_of_heapV HO1.out 5;have HAPT:Hid (Apart (three Ba Bd Bm) w wr):=⟨HAP.out.os,HAP.out.tape,HAP.out.output,HAP.out.size,fun j hj hn=>HAP.out.block j hj (fun e=>hn (.inr e))⟩;have HD8:Hid (DkAt wr Bd dk):=calm_of HE1.out.disk HCALM.out;have HSV:=qI (save_any Bd dk _ (gone t.hs nms) wr HD8.out (.inl HCALM.out.2.2) (HHS.out.le (mask_off _ _)) (HT.out _ HAPT.out));rw [HCS.out.1 HTG.out,show errV (((0:Nat)):Int)=.nilIface from rfl] at HSV
   go_wp2_with fail
   refine HSV.out.mono ?_;rintro e W9 ⟨rfl,hd9,hg9⟩;have HD9:=qI hd9;have HG9:=qI hg9;have hs9:=hg9.size;have HE9:Hid (EngR W9 Be Bd Bm n' (dk.save (gone t.hs nms)).2.n (dk.save (gone t.hs nms)).2.k (fun a=>a∈runsOf (gone t.hs nms))):=engR_disk HE1.out hg9 hd9 HCS.out.2.2;have HO9:Hid (OsAt W9 Ba tb t.m Bd Be (.slice ha t.hs.length hc) s.cp pb):=(hg9.block Ba (by omega) (fun e=>ab1 (by injection e))).trans HO1.out;have HBLK:Hid (∀ j,j<w.heap.size→¬ four N Ba Bd Bm j→W9.heap[j]?=w.heap[j]?):=fun j hj hn=>(hg9.block j (by omega) (fun e=>hn (.inr (.inr (.inl (by injection e)))))).trans (HAP.out.block j hj (fun e=>hn (.inr (.inr e))))
   have hpbl:=HK5.out.pool.lt;have HPO9:Hid (PoolAt W9 pb db ao pc t.ds s.us):=by
    have:=pool_blocks HK5.out.pool (HBLK.out pb hpbl HK6.out) (fun h0=>HBLK.out db (HK5.out.pool.at0 h0).2.2 (HK7.out h0)) (by omega)
    rw [Ol.left_ds HK4.out] at this;exact this
   have HH9:Hid (HldsAt (mask (four N Ba Bd Bm) W9) (.slice (some ⟨g,0,none⟩) (goneL L nms).length cap) (gone t.hs nms)):=HHS.out.le (mask_to (fun j hj hn=>⟨hn,hg9.block j hj (fun e=>hn (.inr (.inr (.inl (by injection e)))))⟩) (by omega));have HH10:Hid (HldsAt (mask (fun j=>j=Ba) W9) (.slice (some ⟨g,0,none⟩) (goneL L nms).length cap) (gone t.hs nms)):=HH9.out.le (mask_to (fun j hj hn=>⟨fun e=>hn (.inr (.inl e)),rfl⟩) (Nat.le_refl _));have HT9:Hid (MTop (mask (four N Ba Bd Bm) W9) tb b 0 tc t.m):=mtop_to HK3.out HCPU.out HBLK.out (by omega);have HIG:=qI (gone_inv HINV.out nms);obtain ⟨s',hs'⟩:=HIG.out.left;have HS':=qI hs';have hok':OkHs (gone t.hs nms):=(Ol.heldF_iff.1 HF.out).2.1;have hlen':(gone t.hs nms).length≤100:=by have:=(Ol.heldF_iff.1 HF.out).1;omega
   have HHO:=qI (hold_any Ba tb t.m Bd Be (.slice ha t.hs.length hc) s.cp pb db ao pc t.ds s.us (.slice (some ⟨g,0,none⟩) (goneL L nms).length cap) (gone t.hs nms) s' W9 HO9.out ⟨_,_,_,rfl⟩ HPO9.out (fun e=>HK6.out (.inr (.inl e))) (fun h0 e=>HK7.out (by rw [Ol.left_ds HK4.out];exact h0) (.inr (.inl e))) HNOD.out HH10.out hop hok' hlen' hs');clear hd9 hg9 hs' hok' hlen' x5
   go_wp2_with fail
   refine HHO.out.mono ?_;rintro e W11 ⟨rfl,⟨pb2,db2,ao2,c2,hos,hsk,hpb,hdb⟩,ha11⟩;have HFIN:Hid (Mach W11 N Ba Bd Be Bm ⟨t.m,t.ds,gone t.hs nms⟩ (dk.save (gone t.hs nms)).2 n'):=HMA.out.then (by omega) HT9.out HCPU.out HH9.out ha11 hos hsk hpb hdb HE9.out HO9.out HIG.out HS'.out HCS.out.2.2 HTG.out
   have HAPF:Hid (Apart (three Ba Bd Bm) w W11):=(HAPT.out.trans (apart_grown HG9.out (fun j e _=>.inr (.inl (by injection e with e;exact e.symm))))).trans ⟨ha11.os,ha11.tape,ha11.output,ha11.size,fun j hj hn=>ha11.block j hj (fun e=>hn (.inl e))⟩;clear hos hsk hpb hdb ha11
   go_wp2_with fail
   go_ret;exact ⟨rfl,⟨_,n',hn',HFIN.out⟩,HAPF.out⟩
end
section
open Go.RowKit Go.Shelf
open Qos (Nd Ct Pd nd ct pd podF)
open Sv (Gv Hd gv hd gsF heldF heldTxt)
theorem seg_step (l:List Value) (o:Nat) (v:Value) (vs:List Value) (h:o<l.length):(l.set o v).take (o+1)++vs++(l.set o v).drop (o+1+vs.length)=l.take o++(v :: vs)++l.drop (o+(v :: vs).length):=by
 have e1:(l.set o v).take (o+1)=l.take o++[v]:=by
  rw [List.take_succ_eq_append_getElem (by simpa using h),List.take_set_of_le (Nat.le_refl _)]
  simp
 have e2:(l.set o v).drop (o+1+vs.length)=l.drop (o+(v :: vs).length):=by
  rw [List.drop_set_of_lt (by omega)]
  congr 1
  simp only [List.length_cons];omega
 rw [e1,e2]
 simp
theorem setCells_list {g:Nat} {t:TypeId}:∀ (vs:List Value) (o:Nat) (W:World) (cur:Array Value),W.heap[g]?=some (.cells cur t (0,0))→o+vs.length≤cur.size→(W.setCells g o vs).heap[g]?=some (.cells (cur.toList.take o++vs++cur.toList.drop (o+vs.length)).toArray t (0,0)):=by
 intro vs
 induction vs with
 | nil=>intro o W cur h _;rw [World.setCells,h];simp
 | cons v vs ih=>
  intro o W cur h hl;rw [List.length_cons] at hl;rw [World.setCells,ih (o+1) _ (cur.setIfInBounds o v) (set_heap h o v) (by simp;omega)];rw [Array.toList_setIfInBounds,seg_step _ _ _ _ (by simp;omega)]
theorem flat_take (l:List (Hd × Value × Value)) (i:Nat):(l.take i).flatMap hCellsO=(l.flatMap hCellsO).take (i*4):=by
 induction l generalizing i with
 | nil=>simp
 | cons x l ih=>
  cases i with
  | zero=>simp
  | succ i=>
   rw [List.take_succ_cons,List.flatMap_cons,List.flatMap_cons,ih i,List.take_append];have h4:(hCellsO x).length=4:=rfl;rw [List.take_of_length_le (l:=hCellsO x) (by omega),h4,show (i+1)*4 - 4=i*4 by omega]
theorem flat_drop (l:List (Hd × Value × Value)) (i:Nat):(l.drop i).flatMap hCellsO=(l.flatMap hCellsO).drop (i*4):=by
 induction l generalizing i with
 | nil=>simp
 | cons x l ih=>
  cases i with
  | zero=>simp
  | succ i=>
   rw [List.drop_succ_cons,List.flatMap_cons,ih i,List.drop_append];have h4:(hCellsO x).length=4:=rfl;rw [List.drop_eq_nil_of_le (show (hCellsO x).length≤_ by omega),h4,show (i+1)*4 - 4=i*4 by omega,List.nil_append]
theorem flat_len (l:List (Hd × Value × Value)):(l.flatMap hCellsO).length=l.length*4:=by
 induction l with
 | nil=>rfl
 | cons x l ih=>
  rw [List.flatMap_cons,List.length_append,ih,List.length_cons];have h4:(hCellsO x).length=4:=rfl;omega
theorem flat_ins (l:List (Hd × Value × Value)) (i:Nat) (y:Hd × Value × Value):(l.take i++y :: l.drop i).flatMap hCellsO=(l.flatMap hCellsO).take (i*4)++hCellsO y++(l.flatMap hCellsO).drop (i*4):=by
 rw [List.flatMap_append,List.flatMap_cons,flat_take,flat_drop,List.append_assoc]
theorem two_segs (A Z ys B:List Value) (k m:Nat) (hA:A.length=k*4) (hy:ys.length=4) (hB:B.length=m*4):let c1:=(A++Z).take (k*4)++ys++(A++Z).drop (k*4+ys.length);(c1.take ((k+1)*4)++B++c1.drop ((k+1)*4+B.length))=A++ys++B++Z.drop ((m+1)*4):=by
 intro c1;have e1:c1=A++ys++Z.drop 4:=by
  show (A++Z).take (k*4)++ys++(A++Z).drop (k*4+ys.length)=_
  rw [hy,List.take_append_of_le_length (by omega),List.take_of_length_le (by omega),List.drop_append,List.drop_eq_nil_of_le (by omega),List.nil_append]
  congr 2
  omega
 have hl:(A++ys).length=(k+1)*4:=by rw [List.length_append];omega
 rw [e1,List.take_append_of_le_length (by omega),List.take_of_length_le (by omega),List.drop_append,List.drop_eq_nil_of_le (by omega),List.nil_append,List.drop_drop]
 congr 2
 omega
theorem two_segs' (xs R ys:List Value) (i n:Nat) (hx:xs.length=n*4) (hi:i<n) (hy:ys.length=4):let c1:=(xs++R).take ((i+1)*4)++xs.drop (i*4)++(xs++R).drop ((i+1)*4+(xs.drop (i*4)).length);(c1.take (i*4)++ys++c1.drop (i*4+ys.length))=xs.take (i*4)++ys++xs.drop (i*4)++R.drop 4:=by
 intro c1;have e1:c1=xs.take ((i+1)*4)++xs.drop (i*4)++R.drop 4:=by
  show (xs++R).take ((i+1)*4)++xs.drop (i*4)++(xs++R).drop ((i+1)*4+(xs.drop (i*4)).length)=_
  have e0:(xs++R).drop ((i+1)*4+(xs.length - i*4))=R.drop 4:=by
   rw [show (i+1)*4+(xs.length - i*4)=xs.length+4 by omega,List.drop_append,List.drop_eq_nil_of_le (show xs.length≤_ by omega),List.nil_append]
   congr 1
   omega
  rw [List.length_drop,List.take_append_of_le_length (by omega),e0]
 have hl:(xs.take ((i+1)*4)).length=(i+1)*4:=by rw [List.length_take];omega
 rw [e1,List.append_assoc (xs.take ((i+1)*4)),List.take_append_of_le_length (by omega),List.take_take,Nat.min_eq_left (by omega),List.drop_append,List.drop_eq_nil_of_le (by omega),List.nil_append,hl,hy,show i*4+4 - (i+1)*4=0 by omega,List.drop_zero,← List.append_assoc]
theorem grown_drewI (W:World) (o:Option Nat):W.grownBy W.drew o:=grown_below (show Below W.heap.size W W.drew from ⟨rfl,rfl,rfl,Nat.le_refl _,fun _ _=>rfl⟩) o
theorem insOK {l:List (Hd × Value × Value)} {i:Nat} (hi:i≤l.length) (hl:l.length≤100):InsOK l i:=by
 by_cases he:i=l.length
 ·rw [he];exact insOK_end hl
 ·have hlt:i<l.length:=by omega
  intro base v y a w hrow hy hy1 hb hne ⟨arr,tyA,hcell⟩ hone;have hxl:=flat_len l;have h4:(hCellsO y).length=4:=rfl
  rcases hrow.2 with ⟨_,h0⟩|⟨g,cap,cur,hv,hg,hgc,hc1,hc2,hc3,hc4⟩
  ·omega
  ·subst hv;obtain ⟨vb,voff,spot⟩:=a;have hs0:w.cell? ((⟨vb,voff,spot⟩:Addr).add 0)=some (.string y.1.pod.nm):=hy 0 _ rfl;have hspot:spot=none:=by simpa [Addr.add] using World.cell?_spot hs0
   subst hspot;have hvb:vb≠g:=fun e=>hne (by rw [← e];rfl)
   have hcs:∀ j u,(l.flatMap hCellsO)[j]?=some u→w.cell? ⟨g,j,none⟩=some u:=fun j u hj=>by
    have hjl:j<l.length*4:=by
     have:=(List.getElem?_eq_some_iff.1 hj).1
     omega
    rw [← hc4,List.getElem?_take,if_pos hjl,Array.getElem?_toList] at hj
    simp [World.cell?,hgc,hj]
   have hvs:∀ j u,(hCellsO y)[j]?=some u→w.cell? ⟨vb,voff+j,none⟩=some u:=fun j u hj=>by
    have:=hy j u hj
    rwa [Addr.add_lit] at this
   have h1c:∀ u∈l.flatMap hCellsO,u.oneCell'=true:=fun u hu=>by
    obtain ⟨x,hx,hu⟩:=List.mem_flatMap.1 hu;exact hone x hx u hu
   have hcl:cur.toList=l.flatMap hCellsO++cur.toList.drop (l.length*4):=by rw [← hc4,List.take_append_drop]
   have hcsz:cur.toList.length=cap*4:=by simpa using hc3
   by_cases hroom:l.length+1≤cap
   ·refine (insert_shift g l.length cap i vb voff 1 (l.flatMap hCellsO) (hCellsO y) w hlt hroom (by unfold maxLen at hc2;omega) hvb hxl h4 hcs (fun j hj=>by
     have:j<cur.size:=by omega
     simp [World.cell?,hgc,this]) (fun j=>frozen_of_heapO hgc j) hvs h1c hy1 tyA 57 arr.size cur.size (by simp [World.shape?,hcell]) (by simp [World.shape?,hgc]) (by omega) (frozen_of_heapO hcell voff) (frozen_of_heapO hcell arr.size)).mono ?_
    rintro e w' ⟨rfl,rfl⟩;refine ⟨_,rfl,?_,((grown_drewI w (some g)).trans (grown_setCells g _ _ _)).trans (grown_setCells g _ _ _)⟩;have k1:=setCells_list (l.flatMap hCellsO |>.drop (i*4)) ((i+1)*4) w.drew cur hgc (by rw [List.length_drop,hxl];omega);have hsz1:(i+1)*4+((l.flatMap hCellsO).drop (i*4)).length≤cur.toList.length:=by rw [List.length_drop,hxl];omega
    have k2:=setCells_list (hCellsO y) (i*4) _ _ k1 (by
     simp only [List.size_toArray,List.length_append,List.length_take,List.length_drop,hxl,h4];omega)
    simp only at k2;have hseg:=two_segs' (l.flatMap hCellsO) (cur.toList.drop (l.length*4)) (hCellsO y) i l.length hxl hlt h4;dsimp only at hseg;rw [← hcl] at hseg;rw [hseg] at k2;refine ⟨by rw [flat_len];simp;omega,.inr ⟨g,cap,_,rfl,hg,k2,hroom,hc2,?_,?_⟩⟩
    ·simp only [List.size_toArray,List.length_append,List.length_take,List.length_drop,hxl,h4];omega
    ·rw [flat_ins,List.toList_toArray,List.take_append_of_le_length (by simp only [List.length_append,List.length_take,List.length_drop,hxl,h4];omega),List.take_of_length_le (by simp only [List.length_append,List.length_take,List.length_drop,hxl,h4];omega)]
   ·refine (insert_grow g l.length cap i vb voff 1 (l.flatMap hCellsO) (hCellsO y) w hlt hc1 (by omega) hl hxl h4 hcs hvs h1c hy1).mono ?_;rintro e w' ⟨G,hG1,hG2,rfl,rfl⟩;have hzc:∀ k,(Builtin.zeroCells zeroH.cells k).size=k*4:=fun k=>by
     have hzc:zeroH.cells.size=4:=rfl;simp only [Builtin.zeroCells,Array.size_map,Array.size_range,hzc]
    obtain ⟨ROW,hROW⟩:∃ ROW,ROW=((l.flatMap hCellsO).take (i*4)).toArray++Builtin.zeroCells zeroH.cells (l.length+1 - i)++Builtin.zeroCells zeroH.cells (G - (l.length+1)):=⟨_,rfl⟩;have hAl:((l.flatMap hCellsO).take (i*4)).length=i*4:=by rw [List.length_take,hxl];omega
    have hBl:((l.flatMap hCellsO).drop (i*4)).length=(l.length - i)*4:=by rw [List.length_drop,hxl];omega
    have hRs:ROW.size=G*4:=by
     rw [hROW];simp only [Array.size_append,List.size_toArray,hAl,hzc];omega
    have hRl:ROW.toList=(l.flatMap hCellsO).take (i*4)++((Builtin.zeroCells zeroH.cells (l.length+1 - i)).toList++(Builtin.zeroCells zeroH.cells (G - (l.length+1))).toList):=by
     rw [hROW];simp
    rw [← hROW];clear hROW;have hmade:(w.alloc (.cells ROW 57)).drew.heap[w.heap.size]?=some (.cells ROW 57 (0,0)):=heap_madeO w _ rfl;have k1:=setCells_list (hCellsO y) (i*4) _ ROW hmade (by rw [h4];omega);obtain ⟨W1,hW1⟩:∃ W1,W1=((w.alloc (.cells ROW 57)).drew.setCells w.heap.size (i*4) (hCellsO y)).drew:=⟨_,rfl⟩;have k1':W1.heap[w.heap.size]?=some (.cells (ROW.toList.take (i*4)++hCellsO y++ROW.toList.drop (i*4+(hCellsO y).length)).toArray 57 (0,0)):=by rw [hW1];exact k1
    have k2:=setCells_list ((l.flatMap hCellsO).drop (i*4)) ((i+1)*4) W1 _ k1' (by
     have:ROW.toList.length=G*4:=by simpa using hRs
     simp only [List.size_toArray,List.length_append,List.length_take,List.length_drop,hxl,h4,this];omega)
    have hb0:Below w.heap.size w W1:=by
     rw [hW1];have b1:Below w.heap.size w (w.alloc (.cells ROW 57)).drew:=below_drewR ((Below.refl w.heap.size w).alloc (Nat.le_refl _) _);exact below_drewR (b1.grown (grown_setCells w.heap.size _ _ _) b1.size (fun j hj=>by injection hj with hj;omega))
    have hb1:Below w.heap.size w (W1.setCells w.heap.size ((i+1)*4) ((l.flatMap hCellsO).drop (i*4))):=hb0.grown (grown_setCells w.heap.size _ _ _) hb0.size (fun j hj=>by injection hj with hj;omega);rw [← hW1];clear hW1 k1 k1';simp only at k2;have hseg:=two_segs ((l.flatMap hCellsO).take (i*4)) ((Builtin.zeroCells zeroH.cells (l.length+1 - i)).toList++(Builtin.zeroCells zeroH.cells (G - (l.length+1))).toList) (hCellsO y) ((l.flatMap hCellsO).drop (i*4)) i (l.length - i) hAl h4 hBl;dsimp only at hseg;rw [← hRl] at hseg;rw [hseg] at k2;refine ⟨_,rfl,⟨by rw [flat_len];simp;omega,.inr ⟨w.heap.size,G,_,rfl,hb,k2,hG1,hG2,?_,?_⟩⟩,grown_below hb1 _⟩
    ·simp only [List.size_toArray,List.length_append,hAl,hBl,h4,List.length_drop,Array.length_toList,hzc];omega
    ·rw [flat_ins,List.toList_toArray,List.take_append_of_le_length (by simp only [List.length_append,hAl,hBl,h4];omega),List.take_of_length_le (by simp only [List.length_append,hAl,hBl,h4];omega)]
end
section
open Go.RowKit Go.Shelf
open Qos (Nd Ct Pd nd ct pd podF)
open Sv (Gv Hd gv hd gsF heldF heldTxt)
attribute [local go_sem] Oper.semAt_some
theorem without_none {hs:List Hd} {nm:ByteArray} (h:hasN hs nm=false):Ol.without hs nm=hs:=by
 unfold Ol.without;refine List.filter_eq_self.2 fun x hx=>?_
 have:¬ x.pod.nm=nm:=fun e=>by
  rw [hasN_iff.2 ⟨x,hx,e⟩] at h;cases h
 simp [this]
theorem remove_any (N:Nat→Prop) (Ba Bd Be Bm:Nat) (t:Ol.St) (dk:Dk) (n:Nat) (nm:ByteArray) (w:World) (hM:Mach w N Ba Bd Be Bm t dk n) (hn:n+36≤1000) (ht:∀ W,Apart (three Ba Bd Bm) w W→TabUp W) :
  Calls Tryz.prog 28 #[.pointer (some ⟨Ba,0,none⟩),.string nm] w fun e w'=>e=.returned (errV ((if hasN t.hs nm then 0 else 6:Nat):Int))∧(∃ dk' n',n'≤n∧Mach w' N Ba Bd Be Bm ⟨t.m,t.ds,Ol.without t.hs nm⟩ dk' n')∧Apart (three Ba Bd Bm) w w':=by
 obtain ⟨en,hen⟩:∃ en:Nat,en=if hasN t.hs nm then 0 else 6:=⟨_,rfl⟩
 rw [← hen];have HEN:=qI hen;clear hen;have HMA:=qI hM;have HT:=qI ht;obtain ⟨h1,hcalm,hcpu,hE,hab,hfr,hnl,htx,tb,b,tc,hv,pb,db,ao,pc,s,k1,k2,k3,k4,k5,k6,k7⟩:=hM;obtain ⟨a1,a2,a3⟩:=Ol.heldF_iff.1 h1.held;obtain ⟨el1,el2,el3⟩:=hE.lt;obtain ⟨ha,hc,hvv,hhm,hhr⟩:=id k2;subst hvv;have x7:w.cell? ⟨Ba,7,none⟩=some (.slice ha t.hs.length hc):=cell_of_heapV k1 7;have HFI:=qI (find_any (.slice ha t.hs.length hc) t.hs nm w (k2.le (mask_off _ _)) (by omega) a3);clear h1 hcalm hcpu hE hab hfr hnl htx k1 k2 k3 k4 k5 k6 k7 a2 a3 hhm hhr ht
 go_enter Tryz.func28,Tryz.ntmps28
 go_wp2_with fail
 refine HFI.out.mono ?_;rintro e W1 ⟨rfl,hb1⟩;have HB1:=qI hb1;have hs1:=hb1.size;clear hb1 x7
 rcases two (hasN t.hs nm) with hh|hh
 ·have HH:=qI hh;rw [hh];have hpos:0<t.hs.length:=by
   obtain ⟨x,hx,_⟩:=hasN_iff.1 hh;exact List.length_pos_of_mem hx
  clear hh;have HBX:=qI (HB1.out.alloc HB1.out.size (.cells #[.string nm] 9));have HX0:=qI (heap_madeO W1 (.cells #[.string nm] 9) rfl);have hsX:(W1.alloc (.cells #[.string nm] 9)).heap.size=W1.heap.size+1:=by simp
  go_wp2_with fail
  generalize W1.alloc (.cells #[.string nm] 9)=X at *;refine (letGo_any N Ba Bd Be Bm t dk n [nm] W1.heap.size 0 1 X (HMA.out.keep HBX.out) (fun k hk=>by
   have hk0:k=0:=by simp at hk;exact hk
   subst hk0;exact cell_of_heapV HX0.out 0) ⟨by omega,by omega⟩ (by omega) (by simp) hpos hn (fun W hW=>HT.out W ((Apart.of_below HBX.out).trans hW))).mono ?_
  rintro e W2 ⟨rfl,hM2,ha2⟩;have HM2:=qI hM2;have HA2:=qI ha2;clear hM2 ha2
  go_wp2_with fail
  go_ret;exact ⟨by rw [show en=0 by rw [HEN.out,HH.out];rfl];rfl,HM2.out,(Apart.of_below HBX.out).trans HA2.out⟩
 ·have HH:=qI hh;rw [hh];clear hh
  go_wp2_with fail
  go_ret;exact ⟨by rw [show en=6 by rw [HEN.out,HH.out];rfl];rfl,by rw [without_none HH.out];exact ⟨dk,n,Nat.le_refl _,HMA.out.keep HB1.out⟩,Apart.of_below HB1.out⟩
end
end Go.Proofs.YtbmmnflgnmjboaaGreatDoor
