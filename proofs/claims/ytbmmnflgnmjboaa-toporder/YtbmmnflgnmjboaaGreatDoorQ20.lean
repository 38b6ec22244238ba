/- OR1, OJ2, OR3, OK2, OR2, OR4 -/
import Derived.Test.YtbmmnflgnmjboaaGreatDoorQ17
import Derived.Test.YtbmmnflgnmjboaaGreatDoorQ19
set_option maxRecDepth 100000
set_option maxHeartbeats 16000000
namespace Go.Proofs.YtbmmnflgnmjboaaGreatDoor
section
open Go.RowKit Go.Shelf
open Qos (Nd Ct Pd nd ct pd podF)
open Sv (Gv Hd gv hd heldF)
def nmOf (r:Rn):ByteArray × ByteArray:=(r.pod,r.cont)
def runOf (h:Hd) (i:Nat):Rn:=⟨h.pod.nm,(ct h.pod.cs i).nm,((gv h.gs i).cp:Int),(gv h.gs i).dv⟩
def runsOf (hs:List Hd):List Rn:=hs.flatMap fun h=>(List.range h.gs.length).map (runOf h)
theorem runs_names {hs:List Hd} (h:heldF hs=0):((runsOf hs).map nmOf).Nodup:=by
 obtain ⟨_,h2,h3⟩:=Ol.heldF_iff.1 h;unfold List.Nodup;rw [List.pairwise_map];unfold runsOf;rw [List.pairwise_flatMap];constructor
 ·intro x hx;obtain ⟨hp,hl,_⟩:=h2 x hx;rw [List.pairwise_map,List.pairwise_iff_getElem];intro i j hi hj hij e;simp only [List.getElem_range] at e;rw [List.length_range] at hj;have e2:(ct x.pod.cs i).nm=(ct x.pod.cs j).nm:=congrArg Prod.snd e;exact Ol.names_apart hp (by omega) hij e2
 ·refine h3.imp ?_;intro a b hab x hx y hy e;obtain ⟨i,_,rfl⟩:=List.mem_map.1 hx;obtain ⟨j,_,rfl⟩:=List.mem_map.1 hy;have e1:a.pod.nm=b.pod.nm:=congrArg Prod.fst e;rw [e1] at hab;exact Ol.nmLt_irrefl _ hab
theorem runs_len {hs:List Hd} (h:heldF hs=0):(runsOf hs).length≤36:=by
 obtain ⟨h1,h2,_⟩:=Ol.heldF_iff.1 h;have key:∀ l:List Hd,(∀ x∈l,x.gs.length≤3)→(runsOf l).length≤3*l.length:=by
  intro l
  induction l with
  | nil=>intro _;simp [runsOf]
  | cons a l ih=>
   intro hl;have h1:=ih fun x hx=>hl x (List.mem_cons_of_mem _ hx)
   have h2:=hl a (by simp);unfold runsOf at *;rw [List.flatMap_cons,List.length_append,List.length_map,List.length_range,List.length_cons];omega
 have:=key hs fun x hx=>by
  obtain ⟨hp,hl,_⟩:=h2 x hx
  have:=(Sv.okP_of hp).2.2.1
  omega
 omega
theorem runs_short {hs:List Hd} (h:heldF hs=0):∀ r∈runsOf hs,r.pod.size≤7000∧r.cont.size≤7000∧r.devs.length≤16:=by
 obtain ⟨_,h2,_⟩:=Ol.heldF_iff.1 h;intro r hr;obtain ⟨x,hx,hr⟩:=List.mem_flatMap.1 hr;obtain ⟨i,hi,rfl⟩:=List.mem_map.1 hr;rw [List.mem_range] at hi;obtain ⟨hp,hl,hg⟩:=h2 x hx;have ho:=Sv.okP_of hp;have s1:=(Sv.name_size ho.1).2;have s2:=(Sv.name_size (ho.2.2.2 (ct x.pod.cs i) (Ost.getD_mem _ _ _ (by omega))).1).2;have s3:(gv x.gs i).dv.length≤16:=Ol.devF_len (Dvs.first_all hg i hi);have e1:x.pod.nm.data.toList.length=x.pod.nm.size:=by simp
 have e2:(ct x.pod.cs i).nm.data.toList.length=(ct x.pod.cs i).nm.size:=by simp
 refine ⟨?_,?_,s3⟩
 ·show x.pod.nm.size≤7000
  omega
 ·show (ct x.pod.cs i).nm.size≤7000
  omega
def EngS (W:World) (Be Bd Bm n:Nat) (rs:List Rn):Prop:=EngAt W Be Bd Bm∧∃ xs,MapR W Bm n xs∧(∀ x∈xs,DevOwn W x∧x.dn≤1000)∧∀ r,r∈xs.map (absR W)↔r∈rs
theorem abs_kept {W W':World} {xs:List RV} (h:∀ x∈xs,DevOwn W x∧x.dn≤1000) (hk:KInt W W'):(∀ x∈xs,DevOwn W' x∧x.dn≤1000)∧xs.map (absR W')=xs.map (absR W):=
 ⟨fun x hx=>⟨((h x hx).1.kept hk).1,(h x hx).2⟩,List.map_congr_left fun x hx=>by unfold absR;rw [((h x hx).1.kept hk).2]⟩
theorem key_names {xs:List RV} {W:World} (h:(xs.map RV.key).Nodup):((xs.map (absR W)).map nmOf).Nodup:=by
 rw [List.map_map];unfold List.Nodup at *;rw [List.pairwise_map] at *;refine h.imp fun {a b} hab e=>hab ?_
 have e1:a.pod=b.pod:=congrArg Prod.fst e;have e2:a.cont=b.cont:=congrArg Prod.snd e;unfold RV.key;rw [e1,e2]
theorem calm_at {W:World} {B:Nat} {s:Dk} (h:DkAt W B s) (hc:Calm s):DiskW W B s.n s.k (.slice none 0 0) (-1) false:=by
 obtain ⟨_,v,h1,h2⟩:=h;rw [hc.2.2] at h2;rw [hc.1,hc.2.1,h2] at h1;exact h1
theorem calm_of {W:World} {B:Nat} {s:Dk} (h:DiskW W B s.n s.k (.slice none 0 0) (-1) false) (hc:Calm s):DkAt W B s:=by
 refine ⟨by rw [hc.2.1];exact ⟨by decide,by decide⟩,.slice none 0 0,?_,?_⟩
 ·rw [hc.1,hc.2.1];exact h
 ·rw [hc.2.2]
theorem devs_ints {W:World} {y:RV} {xs:List Int} (h:IntsOf W (.slice y.da y.dn y.dc) xs):DevsOk W y∧devsOf W y=xs∧y.dn=xs.length:=by
 obtain ⟨ao,c,hv,hm,hr⟩:=h;injection hv with e1 e2 e3
 have key:∀ k,k<xs.length→devAt W y k=xs.getD k 0:=fun k hk=>by
  obtain ⟨b,o,ha,hlt,hcs⟩:=hr (by omega);unfold devAt;rw [e1,ha];simp only [Addr.add_lit];rw [hcs k hk]
 refine ⟨fun h0=>?_,?_,e2⟩
 ·obtain ⟨b,o,ha,hlt,hcs⟩:=hr (by omega);exact ⟨b,o,by rw [e1];exact ha,hlt,fun k hk=>by rw [key k (by omega)];exact hcs k (by omega)⟩
 ·unfold devsOf;rw [e2];apply List.ext_getElem
  ·simp
  ·intro i h1 h2
   simp at h1 ⊢
   rw [key i h1]
   simp [h1]
end
section
open Go.RowKit Go.ChangeMaps Go.Maps Go.WideShapes
open Dvs (Dv dv)
open Qos (Nd nd)
theorem want_take {ns:List Nd} {k:Nat} (h:k<ns.length):Ol.want (ns.take (k+1))=Ol.wantSet (Ol.want (ns.take k)) (nd ns k).kind (some (nd ns k).many):=by
 unfold Ol.want;rw [take_nd h,List.foldl_append];rfl
theorem less_take {ds:List Dv} {l:List Int} {m:ByteArray→Option Int} {k:Nat} (h:k<l.length):(l.take (k+1)).foldl (Ol.wantLess ds) m=Ol.wantLess ds ((l.take k).foldl (Ol.wantLess ds) m) (l.getD k 0):=by
 rw [List.take_succ_eq_append_getElem h,List.foldl_append]
 simp [h]
def Near (f:ByteArray→Option Int) (k:Int):Prop:=∀ s v,f s=some v→-1000000 - k≤v∧v≤1000000
theorem near_set {f:ByteArray→Option Int} {k k':Int} (h:Near f k) (hk:k≤k') {s:ByteArray} {v:Option Int} (hv:∀ x,v=some x→-1000000 - k'≤x∧x≤1000000):Near (Ol.wantSet f s v) k':=by
 intro t x hx;unfold Ol.wantSet at hx
 split at hx
 ·exact hv x hx
 ·have:=h t x hx
  omega
theorem just_any (v1 v2 v3:Value) (g o:Nat) (ds:List Dv) (l:List Int) (ns:List Nd) (w:World) (h1:DevsAt w v1 g o ds) (h2:IntsOf w v2 l) (h3:NeedsAt w v3 ns) (hl:l.length≤1000) (hn:ns.length≤1000)
  (hin:∀ k,k<l.length→0≤l.getD k 0∧l.getD k 0<ds.length) (hdl:ds.length≤1000) (hk1:∀ k,k<ds.length→(dv ds k).kind.size≤1000) (hk2:∀ k,k<ns.length→(nd ns k).kind.size≤1000∧-1000000≤(nd ns k).many∧(nd ns k).many≤1000000) :
  Calls Tryz.prog 159 #[v1,v2,v3] w fun e w'=>(∃ b,e=.returned (.bool b)∧(b=true↔Ol.Just ds l ns))∧Below w.heap.size w w':=by
 obtain ⟨a1,c1,rfl,hr1⟩:=h1;obtain ⟨a2,c2,rfl,hm2,hr2⟩:=h2;obtain ⟨a3,c3,rfl,hm3,hr3⟩:=h3;have H1:=qI hr1;have H2:=qI hr2;have H3:=qI hr3;have HIN:=qI hin;have HK1:=qI hk1;have HK2:=qI hk2;have HM0:=qI (WantMap.made w);have HB0:=qI ((Below.refl w.heap.size w).alloc (Nat.le_refl _) (.map #[] 0));have hmm:=@run_makeMap Tryz.prog;clear hr1 hr2 hr3 hin hk1 hk2 hm2 hm3
 go_enter Tryz.func159,Tryz.ntmps159
 go_wp2_with fail
 go_loopw [16] (fun i wr=>∃ k n:Nat,k≤ns.length∧n≤k∧i=.int .i64 k∧WantMap wr w.heap.size n (Ol.want (ns.take k))∧Near (Ol.want (ns.take k)) 0∧Below w.heap.size w wr) (fun i _=>ns.length - (intOf i).toNat)
 case atStart=>exact ⟨0,0,by omega,by omega,rfl,HM0.out,(fun _ _ hx=>nomatch hx),HB0.out⟩
 case round=>
  obtain ⟨k,n,hk,hnk,rfl,hM,hN,hB⟩:=hrel
  by_cases hlt:k<ns.length
  ·obtain ⟨b,ob,rfl,hlb,hcs⟩:=H3.out (by omega);obtain ⟨g0,g1⟩:=hcs k hlt;have c0:=(hB.cell (p:=⟨b,ob+k*2,none⟩) hlb).trans g0;have c1:=(hB.cell (p:=⟨b,ob+k*2+1,none⟩) hlb).trans g1;have HTK:=qI (want_take hlt);obtain ⟨hsz,ha1,ha2⟩:=HK2.out k hlt;have HBa:=qI (hB.alloc hB.size (.cells #[.string (nd ns k).kind,.int .i64 (nd ns k).many] 109));have hMa:=hM.alloc (.cells #[.string (nd ns k).kind,.int .i64 (nd ns k).many] 109);have hcell0:(wr.alloc (.cells #[.string (nd ns k).kind,.int .i64 (nd ns k).many] 109)).cell? ⟨wr.heap.size,0,none⟩=some (.string (nd ns k).kind):=by simp
   have hcell1:(wr.alloc (.cells #[.string (nd ns k).kind,.int .i64 (nd ns k).many] 109)).cell? ⟨wr.heap.size,1,none⟩=some (.int .i64 (nd ns k).many):=by simp
   have HN:=qI hN;clear hM hB hcs g0 g1 hN;generalize nd ns k=x at *;generalize Ol.want (ns.take k)=f at *;obtain ⟨D,ho,hS,hD⟩:=hMa;have HD:=qI hD;have HS:=qI hS;have hkey:keyOf Tryz.prog 9 (.string x.kind)=some (.string x.kind.data.toList):=Go.WideMaps.keyOf_string_mk Tryz.underlying9 (by unfold maxLen;omega);have HWF:=qI (show (Lit.int .i64 x.many).wf=true from WalkArith.wf_i64 (by omega));clear hD hS
   go_wp2_with (at_mapUpdate;refine wpList_mapUpdate_own _ rfl _ _ _ 198 rfl 9 3 keyLawS Tryz.underlying198 (plainElem Tryz.prog 3) w.heap.size n D rfl ho (by unfold maxLen;omega) _ _ _ rfl rfl hkey (.lit (.int .i64 x.many)) [] (plainElem_int Tryz.underlying3 HWF.out) ?_;intro w5 ho5 hgr5)
   go_roundw
   case rel=>
    refine ⟨k+1,n+1,by omega,by omega,by go_num,?_,?_,HBa.out.grown hgr5 HBa.out.size (fun j hj=>by cases hj;exact Nat.le_refl _)⟩
    ·rw [HTK.out];exact want_put ho HS.out HD.out ho5
    ·rw [HTK.out];exact near_set HN.out (Int.le_refl _) (fun y hy=>by cases hy;omega)
   case measure=>simp [intOf];omega
  ·have hke:k=ns.length:=by omega
   subst hke;rw [List.take_length] at hM hN;have HM1:=qI hM;have HB1:=qI hB;have HN1:=qI hN;clear hM hB hN HM0 HB0
   go_wp2_with fail
   go_loopw [28] (fun i wr=>∃ k n:Nat,k≤l.length∧n≤ns.length+k∧i=.int .i64 k∧WantMap wr w.heap.size n ((l.take k).foldl (Ol.wantLess ds) (Ol.want ns))∧Near ((l.take k).foldl (Ol.wantLess ds) (Ol.want ns)) (k:Int)∧Below w.heap.size w wr) (fun i _=>l.length - (intOf i).toNat)
   case atStart=>exact ⟨0,n,by omega,by omega,rfl,HM1.out,HN1.out,HB1.out⟩
   case round=>
    obtain ⟨q,m,hq,hmq,rfl,hM,hN,hB⟩:=hrel
    by_cases hqt:q<l.length
    ·obtain ⟨b,ob,rfl,hlb,hcs⟩:=H2.out (by omega);have c0:=(hB.cell (p:=⟨b,ob+q,none⟩) hlb).trans (hcs q hqt);have HTK:=qI (less_take (ds:=ds) (m:=Ol.want ns) hqt);have hi0:=HIN.out q hqt;generalize l.getD q 0=x at *;obtain ⟨hx0,hxd⟩:=hi0;obtain ⟨xn,rfl⟩:=Int.eq_ofNat_of_zero_le hx0;have hxd':xn<ds.length:=by omega
     obtain ⟨ha,hlg,hds⟩:=H1.out (by omega);subst ha;have d0:=(hB.cell (p:=⟨g,o+xn*3,none⟩) hlg).trans (hds xn hxd').1;have hksz:=HK1.out xn hxd';have hxk:((xn:Int)).toNat=xn:=by omega
     have HL:Hid (∀ f,Ol.wantLess ds f (xn:Int)=Ol.wantSet f (dv ds xn).kind (if (f (dv ds xn).kind).getD 0 - 1=0 then none else some ((f (dv ds xn).kind).getD 0 - 1))):=fun f=>by unfold Ol.wantLess;rw [hxk]
     have HB:=qI hB;have HN:=qI hN;clear hcs hds hB hN hxk;generalize (dv ds xn).kind=kd at *;generalize (l.take q).foldl (Ol.wantLess ds) (Ol.want ns)=f at *;obtain ⟨D,ho,hS,hD⟩:=hM;have HD:=qI hD;have HS:=qI hS;have hat:=(hD kd).1;have hvr:-1000000 - (q:Int)≤(f kd).getD 0∧(f kd).getD 0≤1000000:=by
      cases hf:f kd with
      | none=>simp;omega
      | some y=>exact HN.out kd y hf
     generalize hv:(f kd).getD 0=vv at *;have HV:=qI hv;clear hv;have hkey:keyOf Tryz.prog 9 (.string kd)=some (.string kd.data.toList):=Go.WideMaps.keyOf_string_mk Tryz.underlying9 (by unfold maxLen;omega);have HWF:=qI (show (Lit.int .i64 (vv - 1)).wf=true from WalkArith.wf_i64 (by omega));have HNX:Hid (Near (Ol.wantLess ds f (xn:Int)) ((q+1:Nat):Int)):=by
      unfold Hid;rw [HL.out f];refine near_set HN.out (by omega) (fun y hy=>?_);rw [HV.out] at hy
      split at hy
      ·cases hy
      ·cases hy;omega
     clear hD hS;have HKL:Hid (WideAt.IsKeyLit (Lit.string kd.data.toList)):=trivial
     by_cases h1:vv=1
     ·have hb:((vv - 1:Int) == 0)=true:=by rw [h1];rfl
      have HLE:Hid (Ol.wantLess ds f (xn:Int)=Ol.wantSet (Ol.wantSet f kd (some (vv - 1))) kd none):=by
       unfold Hid;rw [HL.out f,HV.out,if_pos (by omega)]
       funext s
       unfold Ol.wantSet
       split <;> rfl
      clear h1
      go_wp2_with (first|(at_lookup;refine wpList_lookup_own_int _ rfl _ _ 198 rfl 9 3 .i64 keyLawS Tryz.underlying198 Tryz.underlying3 (zeroIntE _) w.heap.size _ _ rfl (by assumption) _ _ rfl hkey ?_;intro cc hcc _;(first|rw [hat] at hcc|rw [Go.Maps.atKey_put_same ho.isMap HKL.out] at hcc);injection hcc with hcc;injection hcc with _ hcc;subst hcc)|(at_mapUpdate;refine wpList_mapUpdate_own _ rfl _ _ _ 198 rfl 9 3 keyLawS Tryz.underlying198 (plainElem Tryz.prog 3) w.heap.size m D rfl ho (by unfold maxLen;omega) _ _ _ rfl rfl hkey (.lit (.int .i64 (vv - 1))) [] (plainElem_int Tryz.underlying3 HWF.out) ?_;intro w5 ho5 hgr5)|(at_delete;refine wpList_delete_own _ rfl _ _ 198 9 rfl 3 keyLawS Tryz.underlying198 _ w.heap.size _ _ rfl ho5 _ _ rfl hkey ?_;intro w6 ho6 hturn6))
      go_roundw
      case rel=>
       refine ⟨q+1,m+1,by omega,by omega,by go_num,?_,by rw [HTK.out];exact HNX.out,?_⟩
       ·rw [HTK.out,HLE.out];exact want_del ho5 (want_keys HS.out) (want_vals ho HD.out) ho6
       ·exact (HB.out.grown hgr5 HB.out.size (fun j hj=>by cases hj;exact Nat.le_refl _)).grown hturn6.grown (by have:=hgr5.size;have:=HB.out.size;omega) (fun j hj=>by cases hj;exact Nat.le_refl _)
      case measure=>simp [intOf];omega
     ·have hb:((vv - 1:Int) == 0)=false:=beq_eq_false_iff_ne.2 (by omega);have HLE:Hid (Ol.wantLess ds f (xn:Int)=Ol.wantSet f kd (some (vv - 1))):=by
       unfold Hid;rw [HL.out f,HV.out,if_neg (by omega)]
      go_wp2_with (first|(at_lookup;refine wpList_lookup_own_int _ rfl _ _ 198 rfl 9 3 .i64 keyLawS Tryz.underlying198 Tryz.underlying3 (zeroIntE _) w.heap.size _ _ rfl (by assumption) _ _ rfl hkey ?_;intro cc hcc _;(first|rw [hat] at hcc|rw [Go.Maps.atKey_put_same ho.isMap HKL.out] at hcc);injection hcc with hcc;injection hcc with _ hcc;subst hcc)|(at_mapUpdate;refine wpList_mapUpdate_own _ rfl _ _ _ 198 rfl 9 3 keyLawS Tryz.underlying198 (plainElem Tryz.prog 3) w.heap.size m D rfl ho (by unfold maxLen;omega) _ _ _ rfl rfl hkey (.lit (.int .i64 (vv - 1))) [] (plainElem_int Tryz.underlying3 HWF.out) ?_;intro w5 ho5 hgr5))
      go_roundw
      case rel=>
       refine ⟨q+1,m+1,by omega,by omega,by go_num,?_,by rw [HTK.out];exact HNX.out,?_⟩
       ·rw [HTK.out,HLE.out];exact want_put ho HS.out HD.out ho5
       ·exact HB.out.grown hgr5 HB.out.size (fun j hj=>by cases hj;exact Nat.le_refl _)
      case measure=>simp [intOf];omega
    ·have hqe:q=l.length:=by omega
     subst hqe;rw [List.take_length] at hM;obtain ⟨D,ho,hS,hD⟩:=hM;have HB:=qI hB;have HJ:Hid ((Go.Maps.size D:Int)=0↔Ol.Just ds l ns):=by
      unfold Hid
      have:=want_none hS hD
      constructor
      ·intro h;exact this.1 (by omega)
      ·intro h;have:=this.2 h;omega
     clear hS hD hB hN
     go_wp2_with (at_len;refine wpList_len_own _ rfl _ 198 rfl 9 3 Tryz.underlying198 _ w.heap.size m D rfl ho ?_)
     go_ret;exact ⟨⟨_,rfl,by rw [beq_iff_eq];exact HJ.out⟩,HB.out⟩
end
section
open Go.RowKit Go.Shelf
open Sv (Gv Hd gv hd heldF)
structure EngR (W:World) (Be Bd Bm n:Nat) (sn sk:Sd) (C:Rn→Prop):Prop where
 eng:EngAt W Be Bd Bm
 disk:DiskW W Bd sn sk (.slice none 0 0) (-1) false
 map:∃ xs,MapR W Bm n xs∧(∀ x∈xs,DevOwn W x∧x.dn≤1000)∧∀ a,a∈xs.map (absR W)↔C a
theorem EngR.congr {W:World} {Be Bd Bm n:Nat} {sn sk:Sd} {C C':Rn→Prop} (h:EngR W Be Bd Bm n sn sk C) (hc:∀ a,C a↔C' a):EngR W Be Bd Bm n sn sk C':=by
 obtain ⟨h1,h2,xs,h3,h4,h5⟩:=h;exact ⟨h1,h2,xs,h3,h4,fun a=>(h5 a).trans (hc a)⟩
theorem EngR.lt {W:World} {Be Bd Bm n:Nat} {sn sk:Sd} {C:Rn→Prop} (h:EngR W Be Bd Bm n sn sk C):Be<W.heap.size∧Bd<W.heap.size∧Bm<W.heap.size:=by
 obtain ⟨h1,h2,xs,h3,_⟩:=h;exact ⟨h1.lt,h2.lt,h3.lt⟩
theorem EngR.apart {W:World} {Be Bd Bm n:Nat} {sn sk:Sd} {C:Rn→Prop} (h:EngR W Be Bd Bm n sn sk C):Be≠Bd∧Be≠Bm∧Bd≠Bm:=by
 obtain ⟨h1,h2,xs,h3,_⟩:=h;exact apart_engW h1 h3 h2
theorem EngR.below {W W':World} {Be Bd Bm n:Nat} {sn sk:Sd} {C:Rn→Prop} (h:EngR W Be Bd Bm n sn sk C) (hb:Below W.heap.size W W'):EngR W' Be Bd Bm n sn sk C:=by
 obtain ⟨h1,h2,xs,h3,h4,h5⟩:=h;obtain ⟨k1,k2⟩:=abs_kept h4 (KInt.below hb);exact ⟨h1.block (hb.block Be h1.lt),(hb.block Bd h2.lt).trans h2,xs,h3.block (hb.block Bm h3.lt),k1,fun a=>by rw [k2];exact h5 a⟩
theorem any_named {W:World} {xs:List RV} {p c:ByteArray}:(xs.any fun y=>decide (y.pod=p∧y.cont=c))=true↔∃ a∈xs.map (absR W),nmOf a=(p,c):=by
 rw [List.any_eq_true];constructor
 ·rintro ⟨y,hy,h⟩;obtain ⟨h1,h2⟩:=of_decide_eq_true h;exact ⟨absR W y,List.mem_map.2 ⟨y,hy,rfl⟩,by show (y.pod,y.cont)=(p,c);rw [h1,h2]⟩
 ·rintro ⟨a,ha,h⟩;obtain ⟨y,hy,rfl⟩:=List.mem_map.1 ha;have e1:y.pod=p:=congrArg Prod.fst h;have e2:y.cont=c:=congrArg Prod.snd h;exact ⟨y,hy,decide_eq_true ⟨e1,e2⟩⟩
theorem stop_eng (Be Bd Bm n:Nat) (sn sk:Sd) (C:Rn→Prop) (p c:ByteArray) (W:World) (h:EngR W Be Bd Bm n sn sk C) (hp:p.size≤7000) (hc:c.size≤7000) (hh:∃ a,C a∧nmOf a=(p,c)) :
  Calls Tryz.prog 104 #[.pointer (some ⟨Be,0,none⟩),.string p,.string c] W fun e W'=>e=.returned .nilIface∧EngR W' Be Bd Bm n sn sk (fun a=>C a∧nmOf a≠(p,c))∧OutR Bd Bm W W':=by
 obtain ⟨h1,h2,xs,h3,h4,h5⟩:=h;obtain ⟨hn1,hn2,_⟩:=apart_engW h1 h3 h2;have hany:(xs.any fun y=>decide (y.pod=p∧y.cont=c))=true:=by
  obtain ⟨a,ha,hn⟩:=hh;exact any_named.2 ⟨a,(h5 a).2 ha,hn⟩
 refine (stopW_any Be Bd Bm n sn sk (.slice none 0 0) xs p c (-1) false W h1 h3 h2 ⟨by decide,by decide⟩ hp hc).mono ?_;rw [hany];rintro e W' ⟨rfl,hs⟩;refine ⟨rfl,⟨h1.block (hs.out.block Be h1.lt hn1 hn2),hs.disk,_,hs.yes rfl,?_⟩,hs.out⟩;have hk:=hs.out.kint h2.notInt h3.notInt;obtain ⟨k1,k2⟩:=abs_kept h4 hk;refine ⟨fun x hx=>k1 x (List.mem_filter.1 hx).1,fun a=>?_⟩;constructor
 ·intro ha;obtain ⟨x,hx,rfl⟩:=List.mem_map.1 ha;obtain ⟨hx1,hx2⟩:=List.mem_filter.1 hx
  have:absR W' x∈xs.map (absR W):=by rw [← k2];exact List.mem_map.2 ⟨x,hx1,rfl⟩
  refine ⟨(h5 _).1 this,fun en=>?_⟩;have e1:x.pod=p:=congrArg Prod.fst en;have e2:x.cont=c:=congrArg Prod.snd en;rw [decide_eq_true ⟨e1,e2⟩] at hx2;cases hx2
 ·rintro ⟨ha,hn⟩
  have:=(h5 a).2 ha
  rw [← k2] at this;obtain ⟨x,hx,rfl⟩:=List.mem_map.1 this;refine List.mem_map.2 ⟨x,List.mem_filter.2 ⟨hx,?_⟩,rfl⟩;rw [decide_eq_false fun hh=>hn (by show (x.pod,x.cont)=(p,c);rw [hh.1,hh.2])];rfl
theorem start_eng (Be Bd Bm n:Nat) (sn sk:Sd) (C:Rn→Prop) (x:RV) (W:World) (h:EngR W Be Bd Bm n sn sk C) (hx:x.Short) (hdv:DevsOk W x) (haw:Away Bd x) (hdn:x.dn≤1000) (hn:n<1000) (hno:∀ a,C a→nmOf a≠(x.pod,x.cont)) :
  Calls Tryz.prog 105 #[.pointer (some ⟨Be,0,none⟩),.agg #[.string x.pod,.string x.cont,.int .u64 x.cpus,.slice x.da x.dn x.dc]] W fun e W'=>e=.returned .nilIface∧EngR W' Be Bd Bm (n+1) sn sk (fun a=>C a∨a=absR W x)∧OutR Bd Bm W W':=by
 obtain ⟨h1,h2,xs,h3,h4,h5⟩:=h;obtain ⟨hn1,hn2,_⟩:=apart_engW h1 h3 h2;have hany:(xs.any fun y=>decide (y.pod=x.pod∧y.cont=x.cont))=false:=by
  cases hb:(xs.any fun y=>decide (y.pod=x.pod∧y.cont=x.cont)) with
  | false=>rfl
  | true=>
   obtain ⟨a,ha,e⟩:=(any_named (W:=W)).1 hb;exact absurd e (hno a ((h5 a).1 ha))
 refine (startW_any Be Bd Bm n sn sk (.slice none 0 0) xs x (-1) false W h1 h3 h2 ⟨by decide,by decide⟩ hx hdv haw hdn hn).mono ?_;rw [hany];rintro e W' ⟨rfl,hs⟩;obtain ⟨a',c',hm,ho,hd⟩:=hs.yes rfl;refine ⟨rfl,⟨h1.block (hs.out.block Be h1.lt hn1 hn2),hs.disk,_,hm,?_⟩,hs.out⟩;have hk:=hs.out.kint h2.notInt h3.notInt;obtain ⟨k1,k2⟩:=abs_kept h4 hk;refine ⟨fun y hy=>?_,fun a=>?_⟩
 ·rcases List.mem_cons.1 hy with rfl|hy
  ·exact ⟨ho,hdn⟩
  ·exact k1 y hy
 ·rw [List.map_cons,List.mem_cons,k2];have e:absR W' { x with da:=a',dc:=c' }=absR W x:=by unfold absR;rw [hd]
  rw [e];constructor
  ·rintro (ha|ha)
   ·exact .inr ha
   ·exact .inl ((h5 a).1 ha)
  ·rintro (ha|ha)
   ·exact .inr ((h5 a).2 ha)
   ·exact .inl ha
end
end Go.Proofs.YtbmmnflgnmjboaaGreatDoor
namespace Go.Proofs
open Go.Shelf
shelf_lay_g SlLaysH0.n8 Slgf 8 at Tryz 141 as Tryz.contR
end Go.Proofs
namespace Go.Proofs.YtbmmnflgnmjboaaGreatDoor
section
open Go.RowKit Go.Shelf
attribute [local go_sem] Oper.semAt_some
abbrev RVd (w:World):Type:={ y:RV // DevsOk w y∧y.dn≤1000 }
instance (w:World):Inhabited (RVd w):=⟨⟨⟨ByteArray.empty,ByteArray.empty,0,none,0,0⟩,fun h=>absurd h (Nat.lt_irrefl 0),Nat.zero_le _⟩⟩
theorem devsR_len (W:World) (y:RV):(devsOf W y).length=y.dn:=by simp [devsOf]
theorem devs_read {W:World} {y:RV} (h:DevsOk W y):0<(devsOf W y).length→∃ b o,y.da=some ⟨b,o,none⟩∧b<W.heap.size∧∀ k,k<(devsOf W y).length→W.cell? ⟨b,o+k,none⟩=some (.int .i64 ((devsOf W y).getD k 0)):=by
 rw [devsR_len];intro h0;obtain ⟨g,o,ha,hg,hc⟩:=h h0;refine ⟨g,o,ha,hg,fun k hk=>?_⟩;rw [hc k hk]
 simp [devsOf,hk]
theorem equalDevs_any (x y:RV) (w:World) (hx:DevsOk w x∧x.dn≤1000) (hy:DevsOk w y∧y.dn≤1000):Calls Tryz.prog 143 #[.slice x.da x.dn x.dc,.slice y.da y.dn y.dc] w fun e w'=>e=.returned (.bool (decide (devsOf w x=devsOf w y)))∧∃ n,w'=w.drewN n:=by
 have:=equalInts_any x.da y.da x.dc y.dc (devsOf w x) (devsOf w y) w (by rw [devsR_len];exact hx.2) (by rw [devsR_len];exact hy.2) (devs_read hx.1) (devs_read hy.1)
 rw [devsR_len,devsR_len] at this;exact this
def sameR (w:World) (x r:RV):Bool:=decide (x.pod=r.pod) && (decide (x.cont=r.cont) && (decide (x.cpus=r.cpus) && decide (devsOf w x=devsOf w r)))
theorem sameR_iff {w:World} {x r:RV}:sameR w x r=true↔absR w x=absR w r:=by
 unfold sameR absR
 simp
def runBox (r:RV):Obj:=.cells #[.string r.pod,.string r.cont,.int .u64 r.cpus,.slice r.da r.dn r.dc] 111
theorem same_pred (r:RV) (B:Nat) (w:World) (hB:w.heap[B]?=some (runBox r)) (hr:DevsOk w r∧r.dn≤1000) :
  PredBelow Tryz.prog 142 #[.pointer (some ⟨B,0,none⟩)] (fun x:RVd w=>.agg (RV.cells x.1).toArray) (fun x=>sameR w x.1 r) w:=fun W x hb=>by
 obtain ⟨x,hx⟩:=x;have hlt:B<w.heap.size:=(Array.getElem?_eq_some_iff.1 hB).1;have hBW:W.heap[B]?=some (runBox r):=(hb.block B hlt).trans hB;unfold runBox at hBW;have b0:(W.alloc (.cells #[.string x.pod,.string x.cont,.int .u64 x.cpus,.slice x.da x.dn x.dc] 111)).cell? ⟨B,0,none⟩=some (.string r.pod):=cell_of_heapV (heap_oldO hBW _) 0;have b1:(W.alloc (.cells #[.string x.pod,.string x.cont,.int .u64 x.cpus,.slice x.da x.dn x.dc] 111)).cell? ⟨B,1,none⟩=some (.string r.cont):=cell_of_heapV (heap_oldO hBW _) 1;have b2:(W.alloc (.cells #[.string x.pod,.string x.cont,.int .u64 x.cpus,.slice x.da x.dn x.dc] 111)).cell? ⟨B,2,none⟩=some (.int .u64 r.cpus):=cell_of_heapV (heap_oldO hBW _) 2;have b3:(W.alloc (.cells #[.string x.pod,.string x.cont,.int .u64 x.cpus,.slice x.da x.dn x.dc] 111)).cell? ⟨B,3,none⟩=some (.slice r.da r.dn r.dc):=cell_of_heapV (heap_oldO hBW _) 3;have hne:B≠W.heap.size:=by have:=hb.size;omega
 have HB:=qI (hb.alloc hb.size (.cells #[.string x.pod,.string x.cont,.int .u64 x.cpus,.slice x.da x.dn x.dc] 111));have hx2:=hx.1.below HB.out (fun _ _ _ h=>h);have hr2:=hr.1.below HB.out (fun _ _ _ h=>h);have HE:=qI (equalDevs_any x r _ ⟨hx2.1,hx.2⟩ ⟨hr2.1,hr.2⟩);rw [hx2.2,hr2.2] at HE;have h1:=eq_str x.pod r.pod;have h2:=eq_str x.cont r.cont;have h3:(x.cpus == r.cpus)=decide (x.cpus=r.cpus):=by rw [Bool.eq_iff_iff];simp
 show Calls Tryz.prog 142 #[.agg #[.string x.pod,.string x.cont,.int .u64 x.cpus,.slice x.da x.dn x.dc],.pointer (some ⟨B,0,none⟩)] W fun e w'=>e=.returned (.bool (sameR w x r))∧Below w.heap.size w w'
 unfold sameR;clear hb hBW hx2 hr2 hx hr hB
 rcases two (decide (x.pod=r.pod)) with g1|g1
 ·rw [g1] at h1 ⊢
  rcases two (decide (x.cont=r.cont)) with g2|g2
  ·rw [g2] at h2 ⊢
   rcases two (decide (x.cpus=r.cpus)) with g3|g3
   ·rw [g3] at h3 ⊢;clear g1 g2 g3;generalize decide (devsOf w x=devsOf w r)=bb at *
    go_enter Tryz.func142,Tryz.ntmps142
    go_wp2_with fail
    refine HE.out.mono ?_;rintro e w' ⟨rfl,nq,rfl⟩
    go_wp2_with fail
    go_ret;exact ⟨rfl,below_drewN HB.out nq⟩
   ·rw [g3] at h3 ⊢;clear g1 g2 g3
    go_enter Tryz.func142,Tryz.ntmps142
    go_wp2_with fail
    go_ret;exact ⟨rfl,HB.out⟩
  ·rw [g2] at h2 ⊢;clear g1 g2 h3
   go_enter Tryz.func142,Tryz.ntmps142
   go_wp2_with fail
   go_ret;exact ⟨rfl,HB.out⟩
 ·rw [g1] at h1 ⊢;clear g1 h2 h3
  go_enter Tryz.func142,Tryz.ntmps142
  go_wp2_with fail
  go_ret;exact ⟨rfl,HB.out⟩
theorem has_row (ys:List RV) (r:RV) (B g c:Nat) (w:World) (hB:w.heap[B]?=some (runBox r)) (hr:DevsOk w r∧r.dn≤1000) (hg:g<w.heap.size) (hys:∀ y∈ys,DevsOk w y∧y.dn≤1000) (hc:∀ k,k<ys.length→∀ i v,(RV.cells (rv ys k))[i]?=some v→w.cell? ⟨g,0+k*4+i,none⟩=some v) (hl:ys.length≤1000) :
  Calls Tryz.prog 141 #[.slice (some ⟨g,0,none⟩) ys.length c,.func (.func 142) #[] #[.pointer (some ⟨B,0,none⟩)]] w fun e w'=>e=.returned (.bool (ys.any fun y=>sameR w y r))∧Below w.heap.size w w':=by
 have eg:∀ args w,(callFunc 142 args).run Tryz.prog w=.ok (.enter 142 args) w:=enters_of Tryz.func142 (by kernel_rfl) rfl;have hlen:(ys.attachWith (fun y=>DevsOk w y∧y.dn≤1000) hys).length=ys.length:=by simp
 have hcon:=AnyQ.slices_ContainsFunc Tryz.contR 4 Tryz.isAgg111 Tryz.sizeOf111 (fun x:RVd w=>RV.cells x.1) (fun _=>rfl) (fun x=>sameR w x.1 r) 142 #[.pointer (some ⟨B,0,none⟩)] eg g 0 ys.length c (ys.attachWith (fun y=>DevsOk w y∧y.dn≤1000) hys) w
  (same_pred r B w hB hr) (by rw [hlen];exact Nat.le_refl _) (by omega) hg (fun j hj i v hi=>by
   have hj':j<ys.length:=by rw [← hlen];exact hj
   refine hc j hj' i v ?_;have e:(ys.attachWith (fun y=>DevsOk w y∧y.dn≤1000) hys)[j]! = (⟨rv ys j,hys _ (rv_mem hj')⟩:RVd w):=by
    rw [getElem!_pos _ j hj];apply Subtype.ext
    simp [rv,hj']
   rw [e] at hi;exact hi)
 have e2:(((ys.attachWith (fun y=>DevsOk w y∧y.dn≤1000) hys).take ys.length).any fun x=>sameR w x.1 r)=ys.any fun y=>sameR w y r:=by
  rw [List.take_of_length_le (by rw [hlen];exact Nat.le_refl _)]
  have:ys=(ys.attachWith (fun y=>DevsOk w y∧y.dn≤1000) hys).map Subtype.val:=by simp
  conv=>rhs;rw [this,List.any_map]
  rfl
 change Calls Tryz.prog 141 _ _ _ at hcon
 rw [← e2];exact hcon
theorem index_none (a:Option Addr) (c g:Nat) (f:Array Value) (w:World):Calls Tryz.prog 181 #[.slice a 0 c,.func (.func g) #[] f] w fun e w'=>e=.returned (.int .i64 (-1))∧w'=w:=by
 go_enter Tryz.func181,Tryz.ntmps181
 go_wp2_with fail
 go_loopw [8] (fun i wr=>i=.int .i64 0∧wr=w) (fun _ _=>0)
 case atStart=>exact ⟨rfl,rfl⟩
 case round=>
  obtain ⟨rfl,rfl⟩:=hrel
  go_wp2_with fail
  go_ret;exact ⟨rfl,rfl⟩
theorem has_none (a:Option Addr) (c g:Nat) (f:Array Value) (w:World):Calls Tryz.prog 141 #[.slice a 0 c,.func (.func g) #[] f] w fun e w'=>e=.returned (.bool false)∧w'=w:=by
 have HI:=qI (index_none a c g f w)
 go_enter Tryz.func141,Tryz.ntmps141
 go_wp2_with fail
 refine HI.out.mono ?_;rintro e w' ⟨rfl,rfl⟩
 go_wp2_with fail
 go_ret;exact ⟨rfl,rfl⟩
theorem cells_of {w:World} {g k:Nat} {x:RV} (h:RCells w g k x):∀ i v,(RV.cells x)[i]?=some v→w.cell? ⟨g,0+k*4+i,none⟩=some v:=by
 intro i v hv;rw [Nat.zero_add]
 match i,hv with
 | 0,hv=>simp [RV.cells] at hv;subst hv;exact h.1.1
 | 1,hv=>simp [RV.cells] at hv;subst hv;exact h.1.2.1
 | 2,hv=>simp [RV.cells] at hv;subst hv;exact h.1.2.2.1
 | 3,hv=>simp [RV.cells] at hv;subst hv;exact h.1.2.2.2
 | n+4,hv=>simp [RV.cells] at hv
theorem RCells.alloc {w:World} {g k:Nat} {x:RV} (h:RCells w g k x) (hg:g<w.heap.size) (o:Obj):RCells (w.alloc o) g k x:=by
 have hb:(w.alloc o).heap[g]?=w.heap[g]?:=Below.heap_alloc _ _ _ hg;obtain ⟨⟨a,b,c,d⟩,e,f,g2,i⟩:=h;have cc:∀ j,(w.alloc o).cell? ⟨g,j,none⟩=w.cell? ⟨g,j,none⟩:=fun j=>World.cell?_of_block (a:=⟨g,j,none⟩) hb
 have ff:∀ j,(w.alloc o).frozen? ⟨g,j,none⟩=w.frozen? ⟨g,j,none⟩:=fun j=>by simp [World.frozen?,hb]
 exact ⟨⟨by rw [cc];exact a,by rw [cc];exact b,by rw [cc];exact c,by rw [cc];exact d⟩,by rw [ff];exact e,by rw [ff];exact f,by rw [ff];exact g2,by rw [ff];exact i⟩
theorem hasR_any (v:Value) (ys:List RV) (r:RV) (base:Nat) (w:World) (hv:RunsAt base w v ys) (hys:∀ y∈ys,DevsOk w y∧y.dn≤1000) (hr:DevsOk w r∧r.dn≤1000) (hl:ys.length≤1000) :
  Calls Tryz.prog 103 #[v,.agg #[.string r.pod,.string r.cont,.int .u64 r.cpus,.slice r.da r.dn r.dc]] w fun e w'=>e=.returned (.bool (ys.any fun y=>sameR w y r))∧Below w.heap.size w w':=by
 have HB:=qI ((Below.refl w.heap.size w).alloc (Nat.le_refl _) (runBox r));have hsame:∀ y,DevsOk w y→DevsOk (w.alloc (runBox r)) y∧devsOf (w.alloc (runBox r)) y=devsOf w y:=fun y hy=>hy.below HB.out (fun _ _ _ h=>h)
 have hr2:=hsame r hr.1;have HBX:Hid ((w.alloc (runBox r)).heap[w.heap.size]?=some (runBox r)):=heap_madeO w (runBox r) rfl;obtain ⟨a,c,rfl,hac,hrow⟩:=hv;have HC:Hid (Calls Tryz.prog 141 #[.slice a ys.length c,.func (.func 142) #[] #[.pointer (some ⟨w.heap.size,0,none⟩)]] (w.alloc (runBox r)) fun e w'=>e=.returned (.bool (ys.any fun y=>sameR w y r))∧Below w.heap.size w w'):=by
  unfold Hid
  by_cases h0:0<ys.length
  ·obtain ⟨g,rfl,hgb,hgl,hcs⟩:=hrow h0;have hg2:g<(w.alloc (runBox r)).heap.size:=by simp;omega
   refine (has_row ys r w.heap.size g c (w.alloc (runBox r)) HBX.out ⟨hr2.1,hr.2⟩ hg2 (fun y hy=>⟨(hsame y (hys y hy).1).1,(hys y hy).2⟩) (fun k hk=>cells_of ((hcs k hk).alloc hgl _)) hl).mono ?_;rintro e w' ⟨rfl,hb⟩;refine ⟨?_,HB.out.trans (hb.mono HB.out.size)⟩;have e2:(ys.any fun y=>sameR (w.alloc (runBox r)) y r)=ys.any fun y=>sameR w y r:=by
    have ht:∀ y∈ys,sameR (w.alloc (runBox r)) y r=sameR w y r:=fun y hy=>by unfold sameR;rw [(hsame y (hys y hy).1).2,hr2.2]
    rw [Bool.eq_iff_iff,List.any_eq_true,List.any_eq_true];constructor
    ·rintro ⟨y,hy,h⟩;exact ⟨y,hy,by rw [← ht y hy];exact h⟩
    ·rintro ⟨y,hy,h⟩;exact ⟨y,hy,by rw [ht y hy];exact h⟩
   rw [e2]
  ·have e0:ys=[]:=List.length_eq_zero_iff.1 (by omega);subst e0;refine (has_none a c _ _ (w.alloc (runBox r))).mono ?_;rintro e w' ⟨rfl,rfl⟩;exact ⟨rfl,HB.out⟩
 unfold runBox at HC;clear hr2 hsame hrow HBX HB hys hr;generalize (ys.any fun y=>sameR w y r)=bb at *
 go_enter Tryz.func103,Tryz.ntmps103
 go_wp2_with fail
 refine HC.out.mono ?_;rintro e w' ⟨rfl,hb⟩
 go_wp2_with fail
 go_ret;exact ⟨rfl,hb⟩
end
section
open Go.RowKit Go.Shelf
open Qos (Nd Ct Pd nd ct pd)
open Sv (Gv Hd gv hd)
attribute [local go_sem] Oper.semAt_some
def RunZ (W0:World) (z:RV × Rn):Prop:=z.1.pod=z.2.pod∧z.1.cont=z.2.cont∧z.1.cpus=z.2.cpus∧IntsOf W0 (.slice z.1.da z.1.dn z.1.dc) z.2.devs
theorem runs_take {hs:List Hd} {k:Nat} (h:k<hs.length):runsOf (hs.take (k+1))=runsOf (hs.take k)++(List.range (hd hs k).gs.length).map (runOf (hd hs k)):=by
 unfold runsOf;rw [List.take_succ_eq_append_getElem h,List.flatMap_append];simp [hd,h]
theorem runs_take_le {hs:List Hd} (h:∀ x∈hs,x.gs.length≤3) (k:Nat):(runsOf (hs.take k)).length≤3*hs.length:=by
 have key:∀ l:List Hd,(∀ x∈l,x.gs.length≤3)→(runsOf l).length≤3*l.length:=by
  intro l
  induction l with
  | nil=>intro _;simp [runsOf]
  | cons a l ih=>
   intro hl;have h1:=ih fun x hx=>hl x (List.mem_cons_of_mem _ hx)
   have h2:=hl a (by simp);unfold runsOf at *;rw [List.flatMap_cons,List.length_append,List.length_map,List.length_range,List.length_cons];omega
 have:=key (hs.take k) fun x hx=>h x (List.mem_of_mem_take hx)
 rw [List.length_take] at this;omega
theorem own_ne {w:World} {base:Nat} {e:TypeId} {sz:Nat} {v:Value} {n:Nat} {xs:List Value} (h:w.ownsRow base e sz v n xs) {B:Nat} {cs:Array Value} {t:TypeId} {z:Nat × Nat} (hB:w.heap[B]?=some (.cells cs t z)) (ht:t≠e):v.ownBlock≠some B:=by
 rcases h.2 with ⟨rfl,_⟩|⟨g,cap,cur,rfl,hg,hgc,_⟩
 ·intro hb;cases hb
 ·intro hb;have hb:some g=some B:=hb;injection hb with hb
  subst hb;rw [hB] at hgc;injection hgc with hgc
  injection hgc with _ h2
  exact ht h2
theorem apart_grown {K:Nat→Prop} {A B:World} {g:Option Nat} (h:A.grownBy B g) (hk:∀ j,g=some j→j<A.heap.size→K j):Apart K A B:=
 ⟨h.os,h.tape,h.output,h.size,fun j hj hn=>h.block j hj (fun e=>hn (hk j e.symm hj))⟩
theorem cells_oneR (x:RV):∀ u∈RV.cells x,u.oneCell'=true:=by
 intro u hu
 simp [RV.cells] at hu
 rcases hu with rfl|rfl|rfl|rfl <;> rfl
theorem running_any (v:Value) (hs:List Hd) (w W0:World) (h:HldsAt W0 v hs) (l:CellLe W0 w) (hl:hs.length≤100) (hgl:∀ x∈hs,x.gs.length=x.pod.cs.length∧x.gs.length≤3) :
  Calls Tryz.prog 102 #[v] w fun e w'=>∃ (v':Value) (zs:List (RV × Rn)),e=.returned v'∧zs.map Prod.snd=runsOf hs∧RRow w.heap.size w' v' (zs.map Prod.fst)∧(∀ z∈zs,RunZ W0 z)∧Below w.heap.size w w':=by
 obtain ⟨i0,hi,hz0,hz1,hz2⟩:=info_parts infoRun;obtain ⟨ao,c,rfl,hm,hr⟩:=h;unfold maxLen at hm;have HR:=qI hr;have HL:=qI l;have HGL:=qI hgl;clear hr l hgl
 go_enter Tryz.func102,Tryz.ntmps102
 go_wp2_with fail
 go_loopw [3,10] (fun pv i wr=>∃ (k:Nat) (zs:List (RV × Rn)),k≤hs.length∧i=.int .i64 k∧zs.map Prod.snd=runsOf (hs.take k)∧RRow w.heap.size wr pv (zs.map Prod.fst)∧(∀ z∈zs,RunZ W0 z)∧Below w.heap.size w wr) (fun _ i _=>hs.length - (intOf i).toNat)
 case atStart=>exact ⟨0,[],by omega,rfl,rfl,World.ownsRow_nil _ _ _ _,fun x hx=>(List.not_mem_nil hx).elim,Below.refl _ _⟩
 case round=>
  obtain ⟨k,zs,hk,rfl,hzs,hrow,hzz,hb⟩:=hrel;have HZS:=qI hzs;have HZZ:=qI hzz;have HB:=qI hb;obtain ⟨pa,pc,hpv⟩:=own_slice hrow;rw [List.length_map] at hpv;subst hpv;have HROW:=qI hrow;have hsz:=hb.size;clear hzs hzz hrow
  by_cases hlt:k<hs.length
  ·obtain ⟨b,ob,cv,gvv,rfl,hin⟩:=HR.out (by omega);have hle:=HL.out.trans (CellLe.of_below hb);obtain ⟨x0,x1,x2,x3⟩:=(hin.2 k hlt).1;have x0:=hle.cell _ _ _ x0;have x1:=hle.cell _ _ _ x1;have x2:=hle.cell _ _ _ x2;have x3:=hle.cell _ _ _ x3;have hcon:=(hin.2 k hlt).2.1;have hgiv:=(hin.2 k hlt).2.2;obtain ⟨hg1,hg3⟩:=HGL.out (hd hs k) (by simp [hd,hlt]);have HTK:=qI (runs_take hlt);have hlz:zs.length≤300:=by
    have h1:zs.length=(runsOf (hs.take k)).length:=by rw [← HZS.out,List.length_map]
    have h2:=runs_take_le (fun x hx=>(HGL.out x hx).2) k;omega
   obtain ⟨ca,cc,hcv,hcm,hcr⟩:=id hcon;obtain ⟨ga,gc,hgv,hgm,hgr⟩:=id hgiv;rw [hcv] at x2;rw [hgv] at x3;clear hin hcon hgiv hb hcv hgv hle;generalize hd hs k=x at *;obtain ⟨⟨xn,xp,xc⟩,xg⟩:=x;dsimp only at x0 x1 x2 x3 hcr hgr HTK hg1 hg3 hcm hgm;have HCR:=qI hcr;have HGR:=qI hgr;have HU:=qI ((Below.refl wr.heap.size wr).alloc (Nat.le_refl _) (.cells #[.string xn,.int .i64 xp,.slice ca xc.length cc,.slice ga xg.length gc] 57));have HROWU:=qI (show RRow w.heap.size (wr.alloc (.cells #[.string xn,.int .i64 xp,.slice ca xc.length cc,.slice ga xg.length gc] 57)) (.slice pa zs.length pc) (zs.map Prod.fst) from HROW.out.alloc _);have hsU:(wr.alloc (.cells #[.string xn,.int .i64 xp,.slice ca xc.length cc,.slice ga xg.length gc] 57)).heap.size=wr.heap.size+1:=by simp
   have HH:=qI (heap_madeO wr (.cells #[.string xn,.int .i64 xp,.slice ca xc.length cc,.slice ga xg.length gc] 57) rfl);have y0:(wr.alloc (.cells #[.string xn,.int .i64 xp,.slice ca xc.length cc,.slice ga xg.length gc] 57)).cell? ⟨wr.heap.size,0,none⟩=some (.string xn):=by simp
   have y2:(wr.alloc (.cells #[.string xn,.int .i64 xp,.slice ca xc.length cc,.slice ga xg.length gc] 57)).cell? ⟨wr.heap.size,2,none⟩=some (.slice ca xc.length cc):=by simp
   have y3:(wr.alloc (.cells #[.string xn,.int .i64 xp,.slice ca xc.length cc,.slice ga xg.length gc] 57)).cell? ⟨wr.heap.size,3,none⟩=some (.slice ga xg.length gc):=by simp
   have HG1:=qI hg1;clear hcr hgr hg1
   go_wp2_with fail
   generalize wr.alloc (.cells #[.string xn,.int .i64 xp,.slice ca xc.length cc,.slice ga xg.length gc] 57)=U at *;clear x0 x1 x2 x3;generalize hBh:wr.heap.size=Bh at *;have HBU:=qI (HB.out.trans (HU.out.mono hsz));clear y0 y2 y3
   go_loopw [3,17] (fun pv i wr=>∃ (j:Nat) (zq:List (RV × Rn)),j≤xg.length∧i=.int .i64 j∧zq.map Prod.snd=runsOf (hs.take k)++(List.range j).map (runOf ⟨⟨xn,xp,xc⟩,xg⟩)∧RRow w.heap.size wr pv (zq.map Prod.fst)∧(∀ z∈zq,RunZ W0 z)∧Apart (fun b=>w.heap.size≤b∧b≠Bh) U wr∧zq.length=zs.length+j) (fun _ i _=>xg.length - (intOf i).toNat)
   case atStart=>exact ⟨0,zs,by omega,rfl,by rw [HZS.out];simp,HROWU.out,HZZ.out,Apart.refl _ _,rfl⟩
   case round=>
    obtain ⟨j,zq,hj,rfl,hzq,hrq,hzz,hap,hlq⟩:=hrel;have HLQ:=qI hlq;have hlq3:zq.length≤303:=by omega
    clear hlq;have HZQ:=qI hzq;have HZZQ:=qI hzz;have HAP:=qI hap;have hszq:=hap.size;have hbq:=hap.below HBU.out (Nat.le_refl _) (fun b hb=>hb.1);have HBQ:=qI hbq;obtain ⟨va,vc,hv⟩:=own_slice hrq;rw [List.length_map] at hv;subst hv;have HRQ:=qI hrq;clear hzq hzz hrq
    by_cases hjt:j<xg.length
    ·obtain ⟨gb,go,dv,rfl,hgin⟩:=HGR.out (by omega);obtain ⟨cb,co,cdv,rfl,hcin⟩:=HCR.out (by have:=HG1.out;omega);have hle:=HL.out.trans (CellLe.of_below hbq);obtain ⟨⟨g0,g1,g2⟩,hint⟩:=hgin.2 j hjt;have g0:=hle.cell _ _ _ g0;have g1:=hle.cell _ _ _ g1;have c0:wr.cell? ⟨cb,co+j*6,none⟩=some (.string (ct xc j).nm):=by
      have:=(hcin.2 j (by have:=HG1.out;omega)).1 0 (by decide)
      exact hle.cell _ _ _ this
     have HINT:=qI hint;obtain ⟨ia,ic,hiv,_⟩:=id hint;rw [hiv] at g1 HINT;have hrun:runOf ⟨⟨xn,xp,xc⟩,xg⟩ j=⟨xn,(ct xc j).nm,((gv xg j).cp:Int),(gv xg j).dv⟩:=rfl;have HRUN:=qI hrun;have hcl:cb<wr.heap.size:=World.block_lt_of_cell? _ ⟨cb,co+j*6,none⟩ c0;have hclw:cb<w.heap.size:=Nat.lt_of_lt_of_le hcin.1 HL.out.size;clear hgin hcin hint hiv hrun hap hbq hle;generalize (gv xg j).cp=cp at *;generalize (gv xg j).dv=xs at *;generalize (ct xc j).nm=cn at *;have hh:=(HAP.out.block Bh (by omega) (by omega)).trans HH.out;have HHQ:=qI hh;have z0:wr.cell? ⟨Bh,0,none⟩=some (.string xn):=cell_of_heapV hh 0;have z2:wr.cell? ⟨Bh,2,none⟩=some (.slice (some ⟨cb,co,none⟩) xc.length cc):=cell_of_heapV hh 2;clear hh;have hj100:(j:Int)<(xg.length:Int):=by omega
     have hjc:(j:Int)<(xc.length:Int):=by have:=HG1.out;omega
     have HQ:=qI ((Below.refl wr.heap.size wr).alloc (Nat.le_refl _) (.cells #[.int .u64 cp,.slice ia xs.length ic] 69));have HRQ2:=qI (show RRow w.heap.size (wr.alloc (.cells #[.int .u64 cp,.slice ia xs.length ic] 69)).drew (.slice va zq.length vc) (zq.map Prod.fst) from HRQ.out.alloc _);have hsQ:(wr.alloc (.cells #[.int .u64 cp,.slice ia xs.length ic] 69)).heap.size=wr.heap.size+1:=by simp
     have HS:Hid ((wr.alloc (.cells #[.int .u64 cp,.slice ia xs.length ic] 69)).drew.cell? ⟨Bh,0,none⟩=some (.string xn)∧(wr.alloc (.cells #[.int .u64 cp,.slice ia xs.length ic] 69)).drew.cell? ⟨Bh,2,none⟩=some (.slice (some ⟨cb,co,none⟩) xc.length cc)∧(wr.alloc (.cells #[.int .u64 cp,.slice ia xs.length ic] 69)).drew.cell? ⟨cb,co+j*6,none⟩=some (.string cn)∧(wr.alloc (.cells #[.int .u64 cp,.slice ia xs.length ic] 69)).drew.cell? ⟨wr.heap.size,0,none⟩=some (.int .u64 cp)∧(wr.alloc (.cells #[.int .u64 cp,.slice ia xs.length ic] 69)).drew.cell? ⟨wr.heap.size,1,none⟩=some (.slice ia xs.length ic)):=
      ⟨(HQ.out.cell (p:=⟨Bh,0,none⟩) (by show Bh<wr.heap.size;omega)).trans z0,(HQ.out.cell (p:=⟨Bh,2,none⟩) (by show Bh<wr.heap.size;omega)).trans z2,(HQ.out.cell (p:=⟨cb,co+j*6,none⟩) (by show cb<wr.heap.size;omega)).trans c0,cell_of_heapV (W:=(wr.alloc (.cells #[.int .u64 cp,.slice ia xs.length ic] 69)).drew) (heap_madeO wr (.cells #[.int .u64 cp,.slice ia xs.length ic] 69) rfl) 0,cell_of_heapV (W:=(wr.alloc (.cells #[.int .u64 cp,.slice ia xs.length ic] 69)).drew) (heap_madeO wr (.cells #[.int .u64 cp,.slice ia xs.length ic] 69) rfl) 1⟩
     go_wp2_with fail
     generalize wr.alloc (.cells #[.int .u64 cp,.slice ia xs.length ic] 69)=Q at *;clear g0 g1 z0 z2 c0;generalize hBg:wr.heap.size=Bg at *;have hN:=new_run Q.drew ⟨xn,cn,cp,ia,xs.length,ic⟩ 111;rw [show Q.drew.heap.size=Bg+1 from hsQ] at hN;have HN:=qI hN;clear hN;refine wp_region_held_drew (S:=(fun w'=>w'.cell? ⟨Bh,0,none⟩=some (.string xn)∧w'.cell? ⟨Bh,2,none⟩=some (.slice (some ⟨cb,co,none⟩) xc.length cc)∧w'.cell? ⟨cb,co+j*6,none⟩=some (.string cn)∧w'.cell? ⟨Bg,0,none⟩=some (.int .u64 cp)∧w'.cell? ⟨Bg,1,none⟩=some (.slice ia xs.length ic))) (by kernel_rfl) HS.out (fun hHeld=>?_);refine tk 0 ?_;refine tk 1 ?_;refine tk 2 ?_;refine tk 3 ?_;refine tk 4 ?_;refine tk 5 ?_;refine tk 6 ?_;refine tk 7 ?_;refine tk 8 ?_;refine tk 9 ?_;refine tk 10 ?_;refine tk 11 ?_;refine tk 12 ?_;refine tk 13 ?_;refine tk 14 ?_;refine tk 15 ?_;have hA1:=(Below.refl Q.drew.heap.size Q.drew).alloc (Nat.le_refl _) (.cells #[.string xn,.string cn,.int .u64 cp,.slice ia xs.length ic] 111);have HS1:Hid ((fun w'=>w'.cell? ⟨Bh,0,none⟩=some (.string xn)∧w'.cell? ⟨Bh,2,none⟩=some (.slice (some ⟨cb,co,none⟩) xc.length cc)∧w'.cell? ⟨cb,co+j*6,none⟩=some (.string cn)∧w'.cell? ⟨Bg,0,none⟩=some (.int .u64 cp)∧w'.cell? ⟨Bg,1,none⟩=some (.slice ia xs.length ic)) (Q.drew.alloc (.cells #[.string xn,.string cn,.int .u64 cp,.slice ia xs.length ic] 111))):=⟨(hA1.cell (p:=⟨Bh,0,none⟩) (by show Bh<Q.heap.size;omega)).trans HS.out.1,(hA1.cell (p:=⟨Bh,2,none⟩) (by show Bh<Q.heap.size;omega)).trans HS.out.2.1,(hA1.cell (p:=⟨cb,co+j*6,none⟩) (by show cb<Q.heap.size;omega)).trans HS.out.2.2.1,(hA1.cell (p:=⟨Bg,0,none⟩) (by show Bg<Q.heap.size;omega)).trans HS.out.2.2.2.1,(hA1.cell (p:=⟨Bg,1,none⟩) (by show Bg<Q.heap.size;omega)).trans HS.out.2.2.2.2⟩;have HA1:=qI hA1;clear hA1;refine rd 16 (fun K hK=>?_);go_simp
     go_wp2_with fail
     refine hK.out _ _ HS1.out (fun hHeld=>?_);clear hK K;refine rd 17 (fun K hK=>?_);rw [if_pos (by rfl)];have hpl:(zq.map Prod.fst).length≤400:=by rw [List.length_map];omega
     refine wp_append_own (o := { dst := some 39, op := Op.call { callee := Callee.builtin Builtin.append, args := #[Operand.tmp 22, Operand.tmp 38], argTypes := #[105, 105] }, type := 105, pos := "run.go:37", after := #[{ on := 0, ground := Ground.data }, { on := 16, ground := Ground.data }], guard := none }) _ _ _ 105 rfl w.heap.size 111 i0 (.agg #[.string ByteArray.empty, .string ByteArray.empty, .int .u64 0, .slice none 0 0]) 4 64 Tryz.underlying105 hi hz0 hz1 hz2 rfl (by decide) (.slice va zq.length vc) _ _ rfl (HRQ2.out.alloc _) ⟨_, 0, none⟩ 1 1 (RV.cells ⟨xn, cn, cp, ia, xs.length, ic⟩) rfl rfl HN.out (cells_oneR _) (by unfold maxLen; omega) (by omega) (by show w.heap.size ≤ (Q.drew.alloc _).heap.size; rw [World.size_alloc]; show w.heap.size ≤ Q.heap.size + 1; omega) ?_
     intro v' W3 hown' hgrow' _;have hlo:∀ b,(Value.slice va zq.length vc).ownBlock=some b→w.heap.size≤b∧b≠Bh:=fun b hb=>⟨(HRQ.out.lt b hb).1,fun e=>own_ne HRQ.out HHQ.out (by decide) (by rw [hb,e])⟩
     have HRW:=qI (RRow.push hown');have HAW:Hid (Apart (fun b=>w.heap.size≤b∧b≠Bh) U W3):=(HAP.out.trans (Apart.of_below ((show Below wr.heap.size wr Q from hBg ▸ HQ.out).trans (below_drewR ((Below.refl wr.heap.size Q).alloc (by omega) _))))).trans (apart_grown hgrow' (fun b hb _=>hlo b hb));have hneh:some Bh≠(Value.slice va zq.length vc).ownBlock:=fun e=>(hlo Bh e.symm).2 rfl
     have hneg:some Bg≠(Value.slice va zq.length vc).ownBlock:=fun e=>by have:=(HRQ.out.lt Bg e.symm).2;omega
     have hnec:some cb≠(Value.slice va zq.length vc).ownBlock:=fun e=>by have:=(hlo cb e.symm).1;omega
     have hqs:(Q.alloc (.cells #[.string xn,.string cn,.int .u64 cp,.slice ia xs.length ic] 111)).drew.heap.size=Bg+2:=by show (Q.alloc _).heap.size=_;rw [World.size_alloc,hsQ]
     have hge:=hgrow'.size;have hS3:(fun w'=>w'.cell? ⟨Bh,0,none⟩=some (.string xn)∧w'.cell? ⟨Bh,2,none⟩=some (.slice (some ⟨cb,co,none⟩) xc.length cc)∧w'.cell? ⟨cb,co+j*6,none⟩=some (.string cn)∧w'.cell? ⟨Bg,0,none⟩=some (.int .u64 cp)∧w'.cell? ⟨Bg,1,none⟩=some (.slice ia xs.length ic)) W3:=⟨(hgrow'.cell_far ⟨Bh,0,none⟩ (by show Bh<_;omega) hneh).trans HS1.out.1,(hgrow'.cell_far ⟨Bh,2,none⟩ (by show Bh<_;omega) hneh).trans HS1.out.2.1,(hgrow'.cell_far ⟨cb,co+j*6,none⟩ (by show cb<_;omega) hnec).trans HS1.out.2.2.1,(hgrow'.cell_far ⟨Bg,0,none⟩ (by show Bg<_;omega) hneg).trans HS1.out.2.2.2.1,(hgrow'.cell_far ⟨Bg,1,none⟩ (by show Bg<_;omega) hneg).trans HS1.out.2.2.2.2⟩;refine hK.out _ _ hS3 (fun hHeld=>?_);clear hK K;(try simp only [Act.put,s1,s2,s3]);refine tk 18 ?_;refine wpAnyH_done (by kernel_rfl) ?_ _;clear hHeld hown' hgrow' hS3
     go_wp2_with fail
     go_roundw
     case rel=>
      refine ⟨j+1,zq++[(⟨xn,cn,cp,ia,xs.length,ic⟩,⟨xn,cn,cp,xs⟩)],by omega,by go_num,?_,by rw [List.map_append];exact HRW.out,fun z hz=>?_,HAW.out,by rw [List.length_append,HLQ.out];rfl⟩
      ·rw [List.map_append,HZQ.out,List.range_succ,List.map_append,List.append_assoc,List.map_singleton,List.map_singleton,HRUN.out]
      ·rcases List.mem_append.1 hz with hz|hz
       ·exact HZZQ.out z hz
       ·rw [List.mem_singleton.1 hz];exact ⟨rfl,rfl,rfl,HINT.out⟩
     case measure=>simp [intOf];omega
    ·have hje:j=xg.length:=by omega
     subst hje;have HZE:Hid (zq.map Prod.snd=runsOf (hs.take (k+1))):=by unfold Hid;rw [HZQ.out,HTK.out]
     go_wp2_with fail
     go_roundw
     case rel=>exact ⟨k+1,zq,by omega,by go_num,HZE.out,HRQ.out,HZZQ.out,HBQ.out⟩
     case measure=>simp [intOf];omega
  ·have hke:k=hs.length:=by omega
   have HE:Hid (zs.map Prod.snd=runsOf hs):=by unfold Hid;rw [HZS.out,hke,List.take_length]
   clear hke
   go_wp2_with fail
   go_ret;exact ⟨_,zs,rfl,HE.out,HROW.out,HZZ.out,HB.out⟩
end
section
open Go.RowKit Go.Shelf
open Qos (Nd Ct Pd nd ct pd)
open Sv (Gv Hd gv hd heldF)
attribute [local go_sem] Oper.semAt_some
theorem RCells.blockO {w w':World} {g k:Nat} {x:RV} (h:RCells w g k x) (hb:w'.heap[g]?=w.heap[g]?):RCells w' g k x:=by
 obtain ⟨⟨a,b,c,d⟩,e,f,g2,i⟩:=h;have cc:∀ j,w'.cell? ⟨g,j,none⟩=w.cell? ⟨g,j,none⟩:=fun j=>World.cell?_of_block (a:=⟨g,j,none⟩) hb
 have ff:∀ j,w'.frozen? ⟨g,j,none⟩=w.frozen? ⟨g,j,none⟩:=fun j=>by simp [World.frozen?,hb]
 exact ⟨⟨by rw [cc];exact a,by rw [cc];exact b,by rw [cc];exact c,by rw [cc];exact d⟩,by rw [ff];exact e,by rw [ff];exact f,by rw [ff];exact g2,by rw [ff];exact i⟩
theorem runs_kept {base:Nat} {W W':World} {v:Value} {ys:List RV} (h:RunsAt base W v ys) (hk:∀ j,base≤j→j<W.heap.size→W'.heap[j]?=W.heap[j]?) (hs:W.heap.size≤W'.heap.size):RunsAt base W' v ys:=by
 obtain ⟨a,c,hv,hac,hr⟩:=h;refine ⟨a,c,hv,hac,fun h0=>?_⟩;obtain ⟨g,ha,hg,hl,hc⟩:=hr h0;exact ⟨g,ha,hg,Nat.lt_of_lt_of_le hl hs,fun k hk2=>(hc k hk2).blockO (hk g hg hl)⟩
theorem runs_row {base:Nat} {w:World} {v:Value} {ys:List RV} (h:RRow base w v ys):RunsAt base w v ys:=by
 have h':=h
 rcases h.2 with ⟨hv,hn⟩|⟨g,cap,cur,hv,hg,hgc,hc1,hc2,_⟩
 ·exact ⟨none,0,by rw [hv,hn],by omega,fun h0=>by omega⟩
 ·subst hv;refine ⟨_,cap,rfl,hc1,fun _=>⟨g,rfl,hg,(Array.getElem?_eq_some_iff.1 hgc).1,fun k hk=>?_⟩⟩;have fz:∀ j,w.frozen? ⟨g,j,none⟩=false:=fun j=>by simp [World.frozen?,hgc]
  have cc:∀ j,j<4→w.cell? ⟨g,k*4+j,none⟩=(RV.cells (rv ys k))[j]?:=fun j hj=>by
   rw [World.ownsRow.cellAt h' (k*4+j) (by omega)];exact cells_at ys k hk j hj
  exact ⟨⟨cc 0 (by decide),cc 1 (by decide),cc 2 (by decide),cc 3 (by decide)⟩,fz _,fz _,fz _,fz _⟩
theorem devs_out {W W':World} {y:RV} (h:DevsOk W y) (hf:∀ g o,0<y.dn→y.da=some ⟨g,o,none⟩→W'.heap[g]?=W.heap[g]?) (hs:W.heap.size≤W'.heap.size):DevsOk W' y∧devsOf W' y=devsOf W y:=by
 by_cases h0:0<y.dn
 ·exact devs_kept h (fun g o ha _=>hf g o h0 ha) hs
 ·refine ⟨fun h1=>absurd h1 h0,?_⟩
  have:y.dn=0:=by omega
  simp [devsOf,this]
abbrev two2 (Bd Bm:Nat):Nat→Prop:=fun b=>b=Bd∨b=Bm
theorem out_mask {Bd Bm:Nat} {W W':World} (h:OutR Bd Bm W W'):CellLe (mask (two2 Bd Bm) W) (mask (two2 Bd Bm) W'):=
 mask_to (fun j hj hn=>⟨hn,h.block j hj (fun e=>hn (.inl e)) (fun e=>hn (.inr e))⟩) h.size
theorem zed {Bd Bm:Nat} {w W:World} {z:RV × Rn} (h:RunZ (mask (two2 Bd Bm) w) z) (ho:OutR Bd Bm w W):DevsOk W z.1∧absR W z.1=z.2∧Away Bd z.1∧z.1.dn=z.2.devs.length:=by
 obtain ⟨h1,h2,h3,h4⟩:=h;have h5:=h4.le (out_mask ho);obtain ⟨d1,d2,d3⟩:=devs_ints (h5.le (mask_off _ _));refine ⟨d1,?_,?_,d3⟩
 ·unfold absR;rw [h1,h2,h3,d2]
 ·intro h0 g o ha e;obtain ⟨d1,_,_⟩:=devs_ints h5;obtain ⟨g2,o2,ha2,_,hc⟩:=d1 h0;rw [ha] at ha2;injection ha2 with ha2
  injection ha2 with e1 e2
  subst e1;exact mask_free (hc 0 h0) (.inl e)
theorem has_iff {W:World} {ys:List RV} {r:RV}:(ys.any fun y=>sameR W y r)=true↔absR W r∈ys.map (absR W):=by
 rw [List.any_eq_true,List.mem_map];constructor
 ·rintro ⟨y,hy,h⟩;exact ⟨y,hy,sameR_iff.1 h⟩
 ·rintro ⟨y,hy,h⟩;exact ⟨y,hy,sameR_iff.2 h⟩
open Classical in
noncomputable def newOf (rs ws:List Rn):Nat:=(ws.filter fun r=>decide (r ∉ rs)).length
theorem newOf_le (rs ws:List Rn):newOf rs ws≤ws.length:=List.length_filter_le _ _
theorem newOf_next {rs ws:List Rn} {k:Nat} (h:k<ws.length):newOf rs (ws.take k)≤newOf rs (ws.take (k+1))∧(ws[k] ∉ rs→newOf rs (ws.take (k+1))=newOf rs (ws.take k)+1):=by
 unfold newOf;rw [List.take_succ_eq_append_getElem h,List.filter_append,List.length_append];refine ⟨Nat.le_add_right _ _,fun hn=>?_⟩
 simp [hn]
theorem runJust_any (Be Bd Bm n:Nat) (sn sk:Sd) (rs:List Rn) (v:Value) (hs:List Hd) (w:World) (hE:EngR w Be Bd Bm n sn sk (fun a=>a∈rs)) (hH:HldsAt (mask (two2 Bd Bm) w) v hs) (hF:heldF hs=0) (hn:n+36≤1000) :
  Calls Tryz.prog 57 #[.pointer (some ⟨Be,0,none⟩),v] w fun e w'=>e=.returned .nilIface∧(∃ n',n'≤n+newOf rs (runsOf hs)∧EngR w' Be Bd Bm n' sn sk (fun a=>a∈runsOf hs))∧OutR Bd Bm w w':=by
 obtain ⟨hl1,hl2,hl3⟩:=hE.lt;obtain ⟨ha1,ha2,ha3⟩:=hE.apart;have HE:=qI hE;have HNM:=qI (runs_names hF);have HLN:=qI (runs_len hF);have HSH:=qI (runs_short hF);obtain ⟨f1,f2,_⟩:=Ol.heldF_iff.1 hF;have HRUN:=qI (fun (W:World) (l:CellLe (mask (two2 Bd Bm) w) W)=>running_any v hs W _ hH l (by omega) (fun x hx=>⟨(f2 x hx).2.1,by have:=(Sv.okP_of (f2 x hx).1).2.2.1;have:=(f2 x hx).2.1;omega⟩));obtain ⟨he,hd,xs,hm,hdo,hrs⟩:=hE;have hxl:xs.length≤1000:=by
  obtain ⟨_,es,ho,hp⟩:=hm;have h1:=ho.size_le;have h2:=hp.length_eq;unfold ents at h2;rw [List.length_map] at h2;rw [Go.Maps.size_eq] at h1;omega
 have HLIST:=qI (list_own Be Bd Bm n xs w he hm hxl (fun x hx=>⟨(hdo x hx).1.1,(hdo x hx).2⟩));have HRS:=qI hrs;have HMS:=qI hm.1;have HKEY:=qI (key_names (W:=w) hm.keys);obtain ⟨ao,c,rfl,_,_⟩:=hH;clear hF f1 f2 he hd hm hdo hrs
 go_enter Tryz.func57,Tryz.ntmps57
 go_wp2_with fail
 refine HLIST.out.mono ?_;rintro e W1 ⟨⟨v1,ys,rfl,hr1,hy1,hperm,_⟩,hb1⟩;have HB1:=qI hb1;clear HLIST
 go_wp2_with fail
 refine (HRUN.out W1 ((mask_off _ _).trans (CellLe.of_below hb1))).mono ?_;rintro e W2 ⟨v2,zs,rfl,hz,hr2,hzz,hb2⟩;clear HRUN;have hs1:=hb1.size;have hs2:=hb2.size;have HBW:=qI (hb1.trans (hb2.mono hb1.size));have HO2:=qI (OutR.of_below (B1:=Bd) (B2:=Bm) (hb1.trans (hb2.mono hb1.size)));have HRY:=qI (runs_kept hr1 (fun j _ hj=>hb2.block j hj) hb2.size);have HRZ:=qI (runs_row hr2);have HY2:Hid (∀ y∈ys,((DevsOk W2 y∧y.dn≤1000)∧DevsFrom w.heap.size y)∧absR W2 y=absR W1 y):=fun y hy=>by
  obtain ⟨⟨d1,d2⟩,d3⟩:=hy1 y hy;obtain ⟨e1,e2⟩:=d1.below hb2 (fun _ _ _ h=>h);exact ⟨⟨⟨e1,d2⟩,d3⟩,by unfold absR;rw [e2]⟩
 have hmapy:ys.map (absR W2)=ys.map (absR W1):=List.map_congr_left fun y hy=>(HY2.out y hy).2
 have HMEM:Hid (∀ a,a∈ys.map (absR W2)↔a∈rs):=fun a=>by rw [hmapy,hperm.mem_iff];exact HRS.out a
 have HND:Hid (((ys.map (absR W2)).map nmOf).Nodup):=by unfold Hid;rw [hmapy];exact (hperm.map nmOf).nodup_iff.2 HKEY.out
 have hyl:ys.length≤1000:=by
  have:=hperm.length_eq
  rw [List.length_map,List.length_map] at this;omega
 have HYS:Hid (∀ y∈ys,y.Short):=fun y hy=>by
  have h1:absR W1 y∈xs.map (absR w):=hperm.mem_iff.1 (List.mem_map.2 ⟨y,hy,rfl⟩);obtain ⟨x,hx,e⟩:=List.mem_map.1 h1
  have:=HMS.out x hx
  have e1:x.pod=y.pod:=congrArg Rn.pod e;have e2:x.cont=y.cont:=congrArg Rn.cont e;unfold RV.Short at *;rw [← e1,← e2];exact this
 have HZ:=qI hz;have HZZ:=qI hzz;have hzl:zs.length≤36:=by
  have:=HLN.out
  rw [← hz,List.length_map] at this;exact this
 have HE2:=qI (HE.out.below HBW.out);clear hr1 hy1 hperm hb1 hb2 hz hr2 hzz hmapy HKEY HRS;obtain ⟨a1,c1,hv1,_,_⟩:=id HRY.out;subst hv1;obtain ⟨a2,c2,hv2,_,_⟩:=id HRZ.out;rw [List.length_map] at hv2;subst hv2
 go_wp2_with fail
 go_loopw [19] (fun i wr=>∃ k:Nat,k≤ys.length∧i=.int .i64 k∧EngR wr Be Bd Bm n sn sk (fun a=>a∈ys.map (absR W2)∧(a∈runsOf hs∨a∈(ys.map (absR W2)).drop k))∧OutR Bd Bm W2 wr) (fun i _=>ys.length - (intOf i).toNat)
 case atStart=>exact ⟨0,by omega,rfl,HE2.out.congr (fun a=>by rw [List.drop_zero,HMEM.out a];exact ⟨fun h=>⟨h,.inr h⟩,fun h=>h.1⟩),OutR.refl _ _ _⟩
 case round=>
  obtain ⟨k,hk,rfl,hEk,hok⟩:=hrel;have HEK:=qI hEk;have HOK:=qI hok;have hsk:=hok.size;clear hEk
  by_cases hlt:k<ys.length
  ·have hrk:=runs_kept HRY.out (W':=wr) (fun j hj hjl=>hok.block j hjl (by omega) (by omega)) hok.size;obtain ⟨a1',c1',hv',_,hrow⟩:=hrk;injection hv' with e1 e2 e3
   subst e1 e3;obtain ⟨g,rfl,hgb,hgl,hcs⟩:=hrow (by omega);obtain ⟨⟨x0,x1,x2,x3⟩,_⟩:=hcs k hlt;have hyin:=rv_mem hlt;obtain ⟨⟨⟨d1,d2⟩,d3⟩,_⟩:=HY2.out _ hyin;obtain ⟨hsp,hsc⟩:=HYS.out _ hyin;have hgk:(ys.map (absR W2))[k]'(by rw [List.length_map];exact hlt)=absR W2 (rv ys k):=by simp [rv,hlt]
   obtain ⟨d4,d5⟩:=devs_out (W':=wr) d1 (fun gg oo h0 ha=>by
    obtain ⟨g2,hg2,hg3⟩:=d3 h0;rw [ha] at hg2;injection hg2 with hg2
    injection hg2 with hg2
    subst hg2;obtain ⟨g4,o4,ha4,hl4,_⟩:=d1 h0;rw [ha] at ha4;injection ha4 with ha4
    injection ha4 with ha4
    subst ha4;exact hok.block _ hl4 (by omega) (by omega)) hok.size
   have HBX:=qI ((Below.refl wr.heap.size wr).alloc (Nat.le_refl _) (runBox (rv ys k)));obtain ⟨d6,d7⟩:=d4.below HBX.out (fun _ _ _ h=>h);have HABS:Hid (absR (wr.alloc (runBox (rv ys k))) (rv ys k)=absR W2 (rv ys k)):=by unfold Hid absR;rw [d7,d5]
   have HOX:=qI ((HO2.out.trans hok).trans (OutR.of_below HBX.out));have HHAS:=qI (hasR_any (.slice a2 zs.length c2) (zs.map Prod.fst) (rv ys k) W1.heap.size (wr.alloc (runBox (rv ys k))) (runs_kept (runs_kept HRZ.out (fun j hj hjl=>hok.block j hjl (by omega) (by omega)) hok.size) (fun j _ hjl=>HBX.out.block j hjl) HBX.out.size) (fun y hy=>by
    obtain ⟨z,hz,rfl⟩:=List.mem_map.1 hy;obtain ⟨q1,_,_,q4⟩:=zed (HZZ.out z hz) HOX.out
    have:=(HSH.out z.2 (by rw [← HZ.out];exact List.mem_map.2 ⟨z,hz,rfl⟩)).2.2
    exact ⟨q1,by omega⟩) ⟨d6,d2⟩ (by rw [List.length_map];omega))
   have HIFF:Hid ((((zs.map Prod.fst).any fun y=>sameR (wr.alloc (runBox (rv ys k))) y (rv ys k))=true)↔(ys.map (absR W2))[k]'(by rw [List.length_map];exact hlt)∈runsOf hs):=by
    unfold Hid;rw [has_iff,HABS.out,hgk,List.map_map];have e:zs.map (absR (wr.alloc (runBox (rv ys k))) ∘ Prod.fst)=runsOf hs:=by
     rw [← HZ.out];exact List.map_congr_left fun z hz=>(zed (HZZ.out z hz) HOX.out).2.1
    rw [e]
   have HBOX:Hid ((wr.alloc (runBox (rv ys k))).heap[wr.heap.size]?=some (runBox (rv ys k))):=heap_madeO wr (runBox (rv ys k)) rfl;have hkL:k<(ys.map (absR W2)).length:=by rw [List.length_map];exact hlt
   have HGK:=qI hgk;have hk1:(k:Int)<(ys.length:Int):=by omega
   have hsB:(wr.alloc (runBox (rv ys k))).heap.size=wr.heap.size+1:=by simp
   clear hcs hrow d1 d2 d3 d4 d5 d6 d7 hgk hyin;generalize rv ys k=y at *;unfold runBox at HHAS HBOX HBX hsB HIFF HOX;generalize ((zs.map Prod.fst).any fun z=>sameR _ z y)=bb at *
   go_wp2_with fail
   generalize wr.alloc (.cells #[.string y.pod,.string y.cont,.int .u64 y.cpus,.slice y.da y.dn y.dc] 111)=W3 at *;refine HHAS.out.mono ?_;rintro e W4 ⟨rfl,hb4⟩;have HB4:=qI (HBX.out.trans (hb4.mono (by omega)));have hbx:=(hb4.block wr.heap.size (by omega)).trans HBOX.out;have b0:W4.cell? ⟨wr.heap.size,0,none⟩=some (.string y.pod):=cell_of_heapV hbx 0;have b1:W4.cell? ⟨wr.heap.size,1,none⟩=some (.string y.cont):=cell_of_heapV hbx 1;clear hb4 hbx HHAS x0 x1 x2 x3
   rcases two bb with hbb|hbb
   ·subst hbb;have HW:=qI (HIFF.out.1 rfl)
    go_wp2_with fail
    go_roundw
    case rel=>exact ⟨k+1,by omega,by go_num,(HEK.out.below HB4.out).congr (fun a=>(Ol.step_keep hkL HW.out a).symm),HOK.out.trans (OutR.of_below HB4.out)⟩
    case measure=>simp [intOf];omega
   ·subst hbb;have HW:Hid ((ys.map (absR W2))[k]'hkL ∉ runsOf hs):=fun h=>by have:=HIFF.out.2 h;cases this
    have HSTOP:=qI (stop_eng Be Bd Bm n sn sk _ y.pod y.cont W4 (HEK.out.below HB4.out) hsp hsc ⟨(ys.map (absR W2))[k]'hkL,⟨List.getElem_mem hkL,.inr (by rw [List.drop_eq_getElem_cons hkL];exact List.mem_cons_self ..)⟩,by rw [HGK.out];rfl⟩)
    go_wp2_with fail
    refine HSTOP.out.mono ?_;rintro e W5 ⟨rfl,he5,ho5⟩;have HE5:=qI he5;have HO5:=qI ((HOK.out.trans (OutR.of_below HB4.out)).trans ho5);clear he5 ho5 HSTOP
    go_wp2_with fail
    go_roundw
    case rel=>exact ⟨k+1,by omega,by go_num,HE5.out.congr (fun a=>by rw [Ol.step_stop nmOf hkL HND.out HW.out a,HGK.out];rfl),HO5.out⟩
    case measure=>simp [intOf];omega
  ·have hke:k=ys.length:=by omega
   subst hke;have HE3:Hid (EngR wr Be Bd Bm n sn sk (fun a=>a∈runsOf hs∧(a∈ys.map (absR W2)∨a∈(runsOf hs).take 0))):=HEK.out.congr (fun a=>by
    have:=Ol.step_mid (runs:=ys.map (absR W2)) (wanted:=runsOf hs) a
    rw [List.length_map] at this;exact this)
   generalize hwm:wr=WM at *;clear hwm HEK
   go_wp2_with fail
   go_loopw [38] (fun i wr=>∃ k m:Nat,k≤zs.length∧i=.int .i64 k∧m≤n+newOf rs ((runsOf hs).take k)∧EngR wr Be Bd Bm m sn sk (fun a=>a∈runsOf hs∧(a∈ys.map (absR W2)∨a∈(runsOf hs).take k))∧OutR Bd Bm W2 wr) (fun i _=>zs.length - (intOf i).toNat)
   case atStart=>exact ⟨0,n,by omega,rfl,by omega,HE3.out,HOK.out⟩
   case round=>
    obtain ⟨k,m,hk,rfl,hmn,hEk,hok⟩:=hrel;have HEK:=qI hEk;have HOK:=qI hok;have hsk:=hok.size;clear hEk
    by_cases hlt:k<zs.length
    ·have hrk:=runs_kept HRZ.out (W':=wr) (fun j hj hjl=>hok.block j hjl (by omega) (by omega)) hok.size;obtain ⟨a2',c2',hv',_,hrow⟩:=hrk;injection hv' with e1 e2 e3
     subst e1 e3;clear e2;obtain ⟨g,rfl,hgb,hgl,hcs⟩:=hrow (by rw [List.length_map];omega);have hzin:zs[k]∈zs:=List.getElem_mem hlt;have hrvz:rv (zs.map Prod.fst) k=zs[k].1:=by simp [rv,hlt]
     have hcc:=hcs k (by rw [List.length_map];exact hlt);rw [hrvz] at hcc;obtain ⟨⟨x0,x1,x2,x3⟩,_⟩:=hcc;have hkL:k<(runsOf hs).length:=by rw [← HZ.out,List.length_map];exact hlt
     have hgk:(runsOf hs)[k]'hkL=zs[k].2:=by simp [← HZ.out]
     have HBX:=qI ((Below.refl wr.heap.size wr).alloc (Nat.le_refl _) (runBox zs[k].1));have HOX:=qI ((HO2.out.trans hok).trans (OutR.of_below HBX.out));obtain ⟨q1,q2,q3,q4⟩:=zed (HZZ.out _ hzin) HOX.out;obtain ⟨sh1,sh2,sh3⟩:=HSH.out zs[k].2 (by rw [← HZ.out];exact List.mem_map.2 ⟨_,hzin,rfl⟩);obtain ⟨p1,p2,p3,p4⟩:=HZZ.out _ hzin;clear p3 p4;have HYX:Hid (∀ y∈ys,DevsOk (wr.alloc (runBox zs[k].1)) y∧y.dn≤1000∧absR (wr.alloc (runBox zs[k].1)) y=absR W2 y):=fun y hy=>by
      obtain ⟨⟨⟨d1,d2⟩,d3⟩,_⟩:=HY2.out y hy;obtain ⟨d4,d5⟩:=devs_out (W':=wr.alloc (runBox zs[k].1)) d1 (fun gg oo h0 ha=>by
       obtain ⟨g2,hg2,hg3⟩:=d3 h0;rw [ha] at hg2;injection hg2 with hg2
       injection hg2 with hg2
       subst hg2;obtain ⟨g4,o4,ha4,hl4,_⟩:=d1 h0;rw [ha] at ha4;injection ha4 with ha4
       injection ha4 with ha4
       subst ha4;exact (HBX.out.block _ (by omega)).trans (hok.block _ hl4 (by omega) (by omega))) (Nat.le_trans hok.size HBX.out.size)
      exact ⟨d4,d2,by unfold absR;rw [d5]⟩
     have HHAS:=qI (hasR_any (.slice a1 ys.length c1) ys zs[k].1 w.heap.size (wr.alloc (runBox zs[k].1)) (runs_kept (runs_kept HRY.out (fun j hj hjl=>hok.block j hjl (by omega) (by omega)) hok.size) (fun j _ hjl=>HBX.out.block j hjl) HBX.out.size) (fun y hy=>⟨(HYX.out y hy).1,(HYX.out y hy).2.1⟩) ⟨q1,by omega⟩ (by omega));have HIFF:Hid (((ys.any fun y=>sameR (wr.alloc (runBox zs[k].1)) y zs[k].1)=true)↔(runsOf hs)[k]'hkL∈ys.map (absR W2)):=by
      unfold Hid;rw [has_iff,q2,hgk,List.map_congr_left fun y hy=>(HYX.out y hy).2.2]
     have HBOX:Hid ((wr.alloc (runBox zs[k].1)).heap[wr.heap.size]?=some (runBox zs[k].1)):=heap_madeO wr (runBox zs[k].1) rfl;have HGK:=qI hgk;have HRUNZ:=qI (HZZ.out _ hzin);have HNX:=qI (newOf_next (rs:=rs) hkL);have hnle:=newOf_le rs ((runsOf hs).take k);rw [List.length_take] at hnle;have hk1:(k:Int)<(zs.length:Int):=by omega
     have hsB:(wr.alloc (runBox zs[k].1)).heap.size=wr.heap.size+1:=by simp
     clear hcs hrow q1 q2 q3 hgk hzin HYX hrvz;generalize zs[k]=z at *;obtain ⟨y,r⟩:=z;dsimp only at x0 x1 x2 x3 HHAS HBOX HBX hsB HIFF HOX HGK HRUNZ sh1 sh2 sh3 p1 p2 q4;have hyp:y.pod.size≤7000:=by rw [p1];exact sh1
     have hyc:y.cont.size≤7000:=by rw [p2];exact sh2
     have hyn:y.dn≤16:=by omega
     clear p1 p2 q4;have HNLE:=qI hnle;clear hnle;unfold runBox at HHAS HBOX HBX hsB HIFF HOX;generalize (ys.any fun z=>sameR _ z y)=bb at *
     go_wp2_with fail
     generalize wr.alloc (.cells #[.string y.pod,.string y.cont,.int .u64 y.cpus,.slice y.da y.dn y.dc] 111)=W3 at *;refine HHAS.out.mono ?_;rintro e W4 ⟨rfl,hb4⟩;have HB4:=qI (HBX.out.trans (hb4.mono (by omega)));have hbx:=(hb4.block wr.heap.size (by omega)).trans HBOX.out;have b0:W4.cell? ⟨wr.heap.size,0,none⟩=some (.string y.pod):=cell_of_heapV hbx 0;have b1:W4.cell? ⟨wr.heap.size,1,none⟩=some (.string y.cont):=cell_of_heapV hbx 1;have b2:W4.cell? ⟨wr.heap.size,2,none⟩=some (.int .u64 y.cpus):=cell_of_heapV hbx 2;have b3:W4.cell? ⟨wr.heap.size,3,none⟩=some (.slice y.da y.dn y.dc):=cell_of_heapV hbx 3;clear hb4 hbx HHAS x0 x1 x2 x3
     rcases two bb with hbb|hbb
     ·subst hbb;have HW:=qI (HIFF.out.1 rfl)
      go_wp2_with fail
      go_roundw
      case rel=>exact ⟨k+1,m,by omega,by go_num,by have:=HNX.out.1;omega,(HEK.out.below HB4.out).congr (fun a=>(Ol.step_has hkL HW.out a).symm),HOK.out.trans (OutR.of_below HB4.out)⟩
      case measure=>simp [intOf];omega
     ·subst hbb;have HW:Hid ((runsOf hs)[k]'hkL ∉ ys.map (absR W2)):=fun h=>by have:=HIFF.out.2 h;cases this
      obtain ⟨q1,q2,q3,q5⟩:=zed HRUNZ.out ((HO2.out.trans hok).trans (OutR.of_below HB4.out));clear q5;dsimp only at q1 q2 q3;have HSTART:=qI (start_eng Be Bd Bm m sn sk _ y W4 (HEK.out.below HB4.out) ⟨hyp,hyc⟩ q1 q3 (by omega) (by have:=HNLE.out;omega) (fun a ha=>by
       have:=Ol.start_free nmOf hkL HNM.out HW.out a ha
       rw [HGK.out,← q2] at this;exact this))
      have HABS:Hid (absR W4 y=(runsOf hs)[k]'hkL):=by unfold Hid;rw [q2,HGK.out]
      have HC5:Hid (∀ a,((a∈runsOf hs∧(a∈ys.map (absR W2)∨a∈(runsOf hs).take k))∨a=absR W4 y)↔(a∈runsOf hs∧(a∈ys.map (absR W2)∨a∈(runsOf hs).take (k+1)))):=fun a=>by
       rw [HABS.out];exact (Ol.step_start hkL a).symm
      have HM5:Hid (m+1≤n+newOf rs ((runsOf hs).take (k+1))):=by
       unfold Hid
       have:=HNX.out.2 (fun h=>HW.out ((HMEM.out _).2 h))
       omega
      clear q1 q2 q3
      go_wp2_with fail
      refine HSTART.out.mono ?_;rintro e W5 ⟨rfl,he5,ho5⟩;have HE5:=qI he5;have HO5:=qI ((HOK.out.trans (OutR.of_below HB4.out)).trans ho5);clear he5 ho5 HSTART
      go_wp2_with fail
      go_roundw
      case rel=>exact ⟨k+1,m+1,by omega,by go_num,HM5.out,HE5.out.congr HC5.out,HO5.out⟩
      case measure=>simp [intOf];omega
    ·have hke:k=zs.length:=by omega
     subst hke;have hwl:(runsOf hs).length=zs.length:=by rw [← HZ.out,List.length_map]
     have HEND:Hid (∃ n',n'≤n+newOf rs (runsOf hs)∧EngR wr Be Bd Bm n' sn sk (fun a=>a∈runsOf hs)):=by
      refine ⟨m,?_,HEK.out.congr (fun a=>?_)⟩
      ·rw [← hwl,List.take_length] at hmn;exact hmn
      ·rw [← hwl];exact Ol.step_end a
     go_wp2_with fail
     go_ret;exact ⟨rfl,HEND.out,HO2.out.trans HOK.out⟩
end
end Go.Proofs.YtbmmnflgnmjboaaGreatDoor
