import Derived.Test.YtbmmnflgnmjboaaGreatDoorK17
import Derived.Test.YtbmmnflgnmjboaaGreatDoorK19
set_option maxRecDepth 100000
set_option maxHeartbeats 16000000
namespace Go.Proofs.YtbmmnflgnmjboaaGreatDoor
section
open RowKit Shelf
open Qos (Nd Ct Pd nd ct pd ah)
open Sv (Gv Hd gv hd az)
def gX (r:Rn):ByteArray × ByteArray:=(r.pod,r.cont)
def kh (h:Hd) (i:Nat):Rn:=⟨h.pod.nm,(ct h.pod.cs i).nm,((gv h.gs i).cp:Int),(gv h.gs i).dv⟩
def au (hs:List Hd):List Rn:=hs.flatMap λh=>(List.range h.gs.length).map (kh h)
theorem Il {hs:List Hd} (h:az hs=0):((au hs).map gX).Nodup:=by
 obtain ⟨_,h2,h3⟩:=Ol.bW.1 h;unfold List.Nodup;rw [List.pairwise_map];unfold au;rw [List.pairwise_flatMap];constructor
 ·intro x hx;obtain ⟨hp,hl,_⟩:=h2 x hx;rw [List.pairwise_map,List.pairwise_iff_getElem];intro i j hi hj hij e;simp only [List.getElem_range] at e;rw [List.length_range] at hj;have e2:(ct x.pod.cs i).nm=(ct x.pod.cs j).nm:=congrArg Prod.snd e;exact Ol.Fc hp (by omega) hij e2
 ·refine h3.imp ?_;intro a b hab x hx y hy e;obtain ⟨i,_,rfl⟩:=Qk.1 hx;obtain ⟨j,_,rfl⟩:=Qk.1 hy;have e1:a.pod.nm=b.pod.nm:=congrArg Prod.fst e;rw [e1] at hab;exact Ol.mL _ hab
theorem vX {hs:List Hd} (h:az hs=0):(au hs).length<=36:=by
 obtain ⟨h1,h2,_⟩:=Ol.bW.1 h;have key:∀ l:List Hd,(∀ x∈l,x.gs.length<=3)->(au l).length<=3*l.length:=by
  intro l
  induction l with
  | nil=>intro _;simp [au]
  | cons a l ih=>
   intro hl;have h1:=ih λx hx=>hl x (Qv _ hx)
   have h2:=hl a (by simp);unfold au at *;rw [List.flatMap_cons,Q2,Q9,List.length_range,Qg];omega
 have:=key hs λx hx=>by
  obtain ⟨hp,hl,_⟩:=h2 x hx
  have:=(Sv.fm hp).2.2.1
  omega
 omega
theorem Im {hs:List Hd} (h:az hs=0):∀ r∈au hs,r.pod.size<=7000/\r.cont.size<=7000/\r.devs.length<=16:=by
 obtain ⟨_,h2,_⟩:=Ol.bW.1 h;intro r hr;obtain ⟨x,hx,hr⟩:=List.mem_flatMap.1 hr;obtain ⟨i,hi,rfl⟩:=Qk.1 hr;rw [List.mem_range] at hi;obtain ⟨hp,hl,hg⟩:=h2 x hx;have ho:=Sv.fm hp;have s1:=(Sv.gN ho.1).2;have s2:=(Sv.gN (ho.2.2.2 (ct x.pod.cs i) (Ost.dO _ _ _ (by omega))).1).2;have s3:(gv x.gs i).dv.length<=16:=Ol.pD (Dvs.cO hg i hi);have e1:x.pod.nm.data.toList.length=x.pod.nm.size:=by simp
 have e2:(ct x.pod.cs i).nm.data.toList.length=(ct x.pod.cs i).nm.size:=by simp
 refine ⟨?_,?_,s3⟩
 ·show x.pod.nm.size<=7000
  omega
 ·show (ct x.pod.cs i).nm.size<=7000
  omega
def LG (W:World) (Be Bd Bm n:Nat) (rs:List Rn):Prop:=ef W Be Bd Bm/\∃ xs,aW W Bm n xs/\(∀ x∈xs,ee W x/\x.dn<=1000)/\∀ r,r∈xs.map (aC W)↔r∈rs
theorem ki {W W':World} {xs:List RV} (h:∀ x∈xs,ee W x/\x.dn<=1000) (hk:cB W W'):(∀ x∈xs,ee W' x/\x.dn<=1000)/\xs.map (aC W')=xs.map (aC W):=
 ⟨λx hx=>⟨((h x hx).1.kept hk).1,(h x hx).2⟩,List.map_congr_left λx hx=>by unfold aC;rw [((h x hx).1.kept hk).2]⟩
theorem Io {xs:List RV} {W:World} (h:(xs.map RV.key).Nodup):((xs.map (aC W)).map gX).Nodup:=by
 rw [List.map_map];unfold List.Nodup at *;rw [List.pairwise_map] at *;refine h.imp λ{a b} hab e=>hab ?_
 have e1:a.pod=b.pod:=congrArg Prod.fst e;have e2:a.cont=b.cont:=congrArg Prod.snd e;unfold RV.key;rw [e1,e2]
theorem lB {W:World} {B:Nat} {s:Dk} (h:bd W B s) (hc:Calm s):aA W B s.n s.k (.slice none 0 0) (-1) false:=by
 obtain ⟨_,v,h1,h2⟩:=h;rw [hc.2.2] at h2;rw [hc.1,hc.2.1,h2] at h1;exact h1
theorem vY {W:World} {B:Nat} {s:Dk} (h:aA W B s.n s.k (.slice none 0 0) (-1) false) (hc:Calm s):bd W B s:=by
 refine ⟨by rw [hc.2.1];exact ⟨by decide,by decide⟩,.slice none 0 0,?_,?_⟩
 ·rw [hc.1,hc.2.1];exact h
 ·rw [hc.2.2]
theorem vZ {W:World} {y:RV} {xs:List Int} (h:bj W (.slice y.da y.dn y.dc) xs):bn W y/\aK W y=xs/\y.dn=xs.length:=by
 obtain ⟨ao,c,hv,hm,hr⟩:=h;injection hv with e1 e2 e3
 have key:∀ k,k<xs.length->iy W y k=xs.getD k 0:=λk hk=>by
  obtain ⟨b,o,ha,hlt,hcs⟩:=hr (by omega);unfold iy;rw [e1,ha];simp only [Addr.add_lit];rw [hcs k hk]
 refine ⟨λh0=>?_,?_,e2⟩
 ·obtain ⟨b,o,ha,hlt,hcs⟩:=hr (by omega);exact ⟨b,o,by rw [e1];exact ha,hlt,λk hk=>by rw [key k (by omega)];exact hcs k (by omega)⟩
 ·unfold aK;rw [e2];apply List.ext_getElem
  ·simp
  ·intro i h1 h2
   simp at h1 ⊢
   rw [key i h1]
   simp [h1]
end
section
open RowKit Go.ChangeMaps Go.Maps Go.WideShapes
open Dvs (Dv dv)
open Qos (Nd nd)
theorem Ip {ns:List Nd} {k:Nat} (h:k<ns.length):Ol.dx (ns.take (k+1))=Ol.cH (Ol.dx (ns.take k)) (nd ns k).kind (some (nd ns k).many):=by
 unfold Ol.dx;rw [vd h,List.foldl_append];rfl
theorem Iq {ds:List Dv} {l:List Int} {m:ByteArray->Option Int} {k:Nat} (h:k<l.length):(l.take (k+1)).foldl (Ol.cR ds) m=Ol.cR ds ((l.take k).foldl (Ol.cR ds) m) (l.getD k 0):=by
 rw [Qa h,List.foldl_append]
 simp [h]
def lC (f:ByteArray->Option Int) (k:Int):Prop:=∀ s v,f s=some v->-1000000 - k<=v/\v<=1000000
theorem v6 {f:ByteArray->Option Int} {k k':Int} (h:lC f k) (hk:k<=k') {s:ByteArray} {v:Option Int} (hv:∀ x,v=some x->-1000000 - k'<=x/\x<=1000000):lC (Ol.cH f s v) k':=by
 intro t x hx;unfold Ol.cH at hx
 split at hx
 ·exact hv x hx
 ·have:=h t x hx
  omega
theorem Ir (v1 v2 v3:Value) (g o:Nat) (ds:List Dv) (l:List Int) (ns:List Nd) (w:World) (h1:bS w v1 g o ds) (h2:bj w v2 l) (h3:bc w v3 ns) (hl:l.length<=1000) (hn:ns.length<=1000)
  (hin:∀ k,k<l.length->0<=l.getD k 0/\l.getD k 0<ds.length) (hdl:ds.length<=1000) (hk1:∀ k,k<ds.length->(dv ds k).kind.size<=1000) (hk2:∀ k,k<ns.length->(nd ns k).kind.size<=1000/\-1000000<=(nd ns k).many/\(nd ns k).many<=1000000) :
  Calls Tryz.prog 159 #[v1,v2,v3] w λe w'=>(∃ b,e=.returned (.bool b)/\(b=true↔Ol.gr ds l ns))/\Below w.heap.size w w':=by
 obtain ⟨a1,c1,rfl,hr1⟩:=h1;obtain ⟨a2,c2,rfl,hm2,hr2⟩:=h2;obtain ⟨a3,c3,rfl,hm3,hr3⟩:=h3;have H1:=qI hr1;have H2:=qI hr2;have H3:=qI hr3;have HIN:=qI hin;have HK1:=qI hk1;have HK2:=qI hk2;have HM0:=qI (eL.made w);have HB0:=qI ((Q0 w.heap.size w).alloc (lR) (.map #[] 0));have hmm:=@run_makeMap Tryz.prog;clear hr1 hr2 hr3 hin hk1 hk2 hm2 hm3
 go_enter Tryz.func159,Tryz.ntmps159
 go_wp2
 go_loopw [16] (λi wr=>∃ k n:Nat,k<=ns.length/\n<=k/\i=.int .i64 k/\eL wr w.heap.size n (Ol.dx (ns.take k))/\lC (Ol.dx (ns.take k)) 0/\Below w.heap.size w wr) (λi _=>ns.length - (intOf i).toNat)
 case atStart=>exact ⟨0,0,by omega,by omega,rfl,HM0.out,(λ_ _ hx=>nomatch hx),HB0.out⟩
 case round=>
  obtain ⟨k,n,hk,hnk,rfl,hM,hN,hB⟩:=hrel
  by_cases hlt:k<ns.length
  ·obtain ⟨b,ob,rfl,hlb,hcs⟩:=H3.out (by omega);obtain ⟨g0,g1⟩:=hcs k hlt;have c0:=(hB.cell (p:=⟨b,ob+k*2,none⟩) hlb).trans g0;have c1:=(hB.cell (p:=⟨b,ob+k*2+1,none⟩) hlb).trans g1;have HTK:=qI (Ip hlt);obtain ⟨hsz,ha1,ha2⟩:=HK2.out k hlt;have HBa:=qI (hB.alloc hB.size (.cells #[.string (nd ns k).kind,.int .i64 (nd ns k).many] 109));have hMa:=hM.alloc (.cells #[.string (nd ns k).kind,.int .i64 (nd ns k).many] 109);have hcell0:(wr.alloc (.cells #[.string (nd ns k).kind,.int .i64 (nd ns k).many] 109)).cell? ⟨wr.heap.size,0,none⟩=some (.string (nd ns k).kind):=by simp
   have hcell1:(wr.alloc (.cells #[.string (nd ns k).kind,.int .i64 (nd ns k).many] 109)).cell? ⟨wr.heap.size,1,none⟩=some (.int .i64 (nd ns k).many):=by simp
   have HN:=qI hN;clear hM hB hcs g0 g1 hN;generalize nd ns k=x at *;generalize Ol.dx (ns.take k)=f at *;obtain ⟨D,ho,hS,hD⟩:=hMa;have HD:=qI hD;have HS:=qI hS;have hkey:keyOf Tryz.prog 9 (.string x.kind)=some (.string x.kind.data.toList):=Go.WideMaps.keyOf_string_mk Tryz.underlying9 (by unfold maxLen;omega);have HWF:=qI (show (Lit.int .i64 x.many).wf=true from WalkArith.wf_i64 (by omega));clear hD hS
   go_wp2_with (at_mapUpdate;refine wpList_mapUpdate_own _ rfl _ _ _ 198 rfl 9 3 gV Tryz.underlying198 (plainElem Tryz.prog 3) w.heap.size n D rfl ho (by unfold maxLen;omega) _ _ _ rfl rfl hkey (.lit (.int .i64 x.many)) [] (plainElem_int Tryz.underlying3 HWF.out) ?_;intro w5 ho5 hgr5)
   go_roundw
   case rel=>
    refine ⟨k+1,n+1,by omega,by omega,by go_num,?_,?_,HBa.out.grown hgr5 HBa.out.size (λj hj=>by cases hj;exact lR)⟩
    ·rw [HTK.out];exact vx ho HS.out HD.out ho5
    ·rw [HTK.out];exact v6 HN.out (Int.le_refl _) (λy hy=>by cases hy;omega)
   case measure=>simp [intOf];omega
  ·have hke:k=ns.length:=by omega
   subst hke;rw [Qh] at hM hN;have HM1:=qI hM;have HB1:=qI hB;have HN1:=qI hN;clear hM hB hN HM0 HB0
   go_wp2
   go_loopw [28] (λi wr=>∃ k n:Nat,k<=l.length/\n<=ns.length+k/\i=.int .i64 k/\eL wr w.heap.size n ((l.take k).foldl (Ol.cR ds) (Ol.dx ns))/\lC ((l.take k).foldl (Ol.cR ds) (Ol.dx ns)) (k:Int)/\Below w.heap.size w wr) (λi _=>l.length - (intOf i).toNat)
   case atStart=>exact ⟨0,n,by omega,by omega,rfl,HM1.out,HN1.out,HB1.out⟩
   case round=>
    obtain ⟨q,m,hq,hmq,rfl,hM,hN,hB⟩:=hrel
    by_cases hqt:q<l.length
    ·obtain ⟨b,ob,rfl,hlb,hcs⟩:=H2.out (by omega);have c0:=(hB.cell (p:=⟨b,ob+q,none⟩) hlb).trans (hcs q hqt);have HTK:=qI (Iq (ds:=ds) (m:=Ol.dx ns) hqt);have hi0:=HIN.out q hqt;generalize l.getD q 0=x at *;obtain ⟨hx0,hxd⟩:=hi0;obtain ⟨xn,rfl⟩:=Int.eq_ofNat_of_zero_le hx0;have hxd':xn<ds.length:=by omega
     obtain ⟨ha,hlg,hds⟩:=H1.out (by omega);subst ha;have d0:=(hB.cell (p:=⟨g,o+xn*3,none⟩) hlg).trans (hds xn hxd').1;have hksz:=HK1.out xn hxd';have hxk:((xn:Int)).toNat=xn:=by omega
     have HL:Hid (∀ f,Ol.cR ds f (xn:Int)=Ol.cH f (dv ds xn).kind (if (f (dv ds xn).kind).getD 0 - 1=0 then none else some ((f (dv ds xn).kind).getD 0 - 1))):=λf=>by unfold Ol.cR;rw [hxk]
     have HB:=qI hB;have HN:=qI hN;clear hcs hds hB hN hxk;generalize (dv ds xn).kind=kd at *;generalize (l.take q).foldl (Ol.cR ds) (Ol.dx ns)=f at *;obtain ⟨D,ho,hS,hD⟩:=hM;have HD:=qI hD;have HS:=qI hS;have hat:=(hD kd).1;have hvr:-1000000 - (q:Int)<=(f kd).getD 0/\(f kd).getD 0<=1000000:=by
      cases hf:f kd with
      | none=>simp;omega
      | some y=>exact HN.out kd y hf
     generalize hv:(f kd).getD 0=vv at *;have HV:=qI hv;clear hv;have hkey:keyOf Tryz.prog 9 (.string kd)=some (.string kd.data.toList):=Go.WideMaps.keyOf_string_mk Tryz.underlying9 (by unfold maxLen;omega);have HWF:=qI (show (Lit.int .i64 (vv - 1)).wf=true from WalkArith.wf_i64 (by omega));have HNX:Hid (lC (Ol.cR ds f (xn:Int)) ((q+1:Nat):Int)):=by
      unfold Hid;rw [HL.out f];refine v6 HN.out (by omega) (λy hy=>?_);rw [HV.out] at hy
      split at hy
      ·cases hy
      ·cases hy;omega
     clear hD hS;have HKL:Hid (WideAt.IsKeyLit (Lit.string kd.data.toList)):=trivial
     by_cases h1:vv=1
     ·have hb:((vv - 1:Int) == 0)=true:=by rw [h1];rfl
      have HLE:Hid (Ol.cR ds f (xn:Int)=Ol.cH (Ol.cH f kd (some (vv - 1))) kd none):=by
       unfold Hid;rw [HL.out f,HV.out,if_pos (by omega)]
       funext s
       unfold Ol.cH
       split <;> rfl
      clear h1
      go_wp2_with (first|(at_lookup;refine wpList_lookup_own_int _ rfl _ _ 198 rfl 9 3 .i64 gV Tryz.underlying198 Tryz.underlying3 (ls _) w.heap.size _ _ rfl (by assumption) _ _ rfl hkey ?_;intro cc hcc _;(first|rw [hat] at hcc|rw [Go.Maps.atKey_put_same ho.isMap HKL.out] at hcc);injection hcc with hcc;injection hcc with _ hcc;subst hcc)|(at_mapUpdate;refine wpList_mapUpdate_own _ rfl _ _ _ 198 rfl 9 3 gV Tryz.underlying198 (plainElem Tryz.prog 3) w.heap.size m D rfl ho (by unfold maxLen;omega) _ _ _ rfl rfl hkey (.lit (.int .i64 (vv - 1))) [] (plainElem_int Tryz.underlying3 HWF.out) ?_;intro w5 ho5 hgr5)|(at_delete;refine wpList_delete_own _ rfl _ _ 198 9 rfl 3 gV Tryz.underlying198 _ w.heap.size _ _ rfl ho5 _ _ rfl hkey ?_;intro w6 ho6 hturn6))
      go_roundw
      case rel=>
       refine ⟨q+1,m+1,by omega,by omega,by go_num,?_,by rw [HTK.out];exact HNX.out,?_⟩
       ·rw [HTK.out,HLE.out];exact Hj ho5 (vu HS.out) (vw ho HD.out) ho6
       ·exact (HB.out.grown hgr5 HB.out.size (λj hj=>by cases hj;exact lR)).grown hturn6.grown (by have:=hgr5.size;have:=HB.out.size;omega) (λj hj=>by cases hj;exact lR)
      case measure=>simp [intOf];omega
     ·have hb:((vv - 1:Int) == 0)=false:=Qr.2 (by omega);have HLE:Hid (Ol.cR ds f (xn:Int)=Ol.cH f kd (some (vv - 1))):=by
       unfold Hid;rw [HL.out f,HV.out,if_neg (by omega)]
      go_wp2_with (first|(at_lookup;refine wpList_lookup_own_int _ rfl _ _ 198 rfl 9 3 .i64 gV Tryz.underlying198 Tryz.underlying3 (ls _) w.heap.size _ _ rfl (by assumption) _ _ rfl hkey ?_;intro cc hcc _;(first|rw [hat] at hcc|rw [Go.Maps.atKey_put_same ho.isMap HKL.out] at hcc);injection hcc with hcc;injection hcc with _ hcc;subst hcc)|(at_mapUpdate;refine wpList_mapUpdate_own _ rfl _ _ _ 198 rfl 9 3 gV Tryz.underlying198 (plainElem Tryz.prog 3) w.heap.size m D rfl ho (by unfold maxLen;omega) _ _ _ rfl rfl hkey (.lit (.int .i64 (vv - 1))) [] (plainElem_int Tryz.underlying3 HWF.out) ?_;intro w5 ho5 hgr5))
      go_roundw
      case rel=>
       refine ⟨q+1,m+1,by omega,by omega,by go_num,?_,by rw [HTK.out];exact HNX.out,?_⟩
       ·rw [HTK.out,HLE.out];exact vx ho HS.out HD.out ho5
       ·exact HB.out.grown hgr5 HB.out.size (λj hj=>by cases hj;exact lR)
      case measure=>simp [intOf];omega
    ·have hqe:q=l.length:=by omega
     subst hqe;rw [Qh] at hM;obtain ⟨D,ho,hS,hD⟩:=hM;have HB:=qI hB;have HJ:Hid ((Go.Maps.size D:Int)=0↔Ol.gr ds l ns):=by
      unfold Hid
      have:=Hk hS hD
      constructor
      ·intro h;exact this.1 (by omega)
      ·intro h;have:=this.2 h;omega
     clear hS hD hB hN
     go_wp2_with (at_len;refine wpList_len_own _ rfl _ 198 rfl 9 3 Tryz.underlying198 _ w.heap.size m D rfl ho ?_)
     go_ret;exact ⟨⟨_,rfl,by rw [beq_iff_eq];exact HJ.out⟩,HB.out⟩
end
section
open RowKit Shelf
open Sv (Gv Hd gv hd az)
structure bz (W:World) (Be Bd Bm n:Nat) (sn sk:Sd) (C:Rn->Prop):Prop where
 eng:ef W Be Bd Bm
 disk:aA W Bd sn sk (.slice none 0 0) (-1) false
 map:∃ xs,aW W Bm n xs/\(∀ x∈xs,ee W x/\x.dn<=1000)/\∀ a,a∈xs.map (aC W)↔C a
theorem bz.congr {W:World} {Be Bd Bm n:Nat} {sn sk:Sd} {C C':Rn->Prop} (h:bz W Be Bd Bm n sn sk C) (hc:∀ a,C a↔C' a):bz W Be Bd Bm n sn sk C':=by
 obtain ⟨h1,h2,xs,h3,h4,h5⟩:=h;exact ⟨h1,h2,xs,h3,h4,λa=>(h5 a).trans (hc a)⟩
theorem bz.lt {W:World} {Be Bd Bm n:Nat} {sn sk:Sd} {C:Rn->Prop} (h:bz W Be Bd Bm n sn sk C):Be<W.heap.size/\Bd<W.heap.size/\Bm<W.heap.size:=by
 obtain ⟨h1,h2,xs,h3,_⟩:=h;exact ⟨h1.lt,h2.lt,h3.lt⟩
theorem bz.apart {W:World} {Be Bd Bm n:Nat} {sn sk:Sd} {C:Rn->Prop} (h:bz W Be Bd Bm n sn sk C):Be≠Bd/\Be≠Bm/\Bd≠Bm:=by
 obtain ⟨h1,h2,xs,h3,_⟩:=h;exact lz h1 h3 h2
theorem bz.below {W W':World} {Be Bd Bm n:Nat} {sn sk:Sd} {C:Rn->Prop} (h:bz W Be Bd Bm n sn sk C) (hb:Below W.heap.size W W'):bz W' Be Bd Bm n sn sk C:=by
 obtain ⟨h1,h2,xs,h3,h4,h5⟩:=h;obtain ⟨k1,k2⟩:=ki h4 (cB.below hb);exact ⟨h1.block (hb.block Be h1.lt),(hb.block Bd h2.lt).trans h2,xs,h3.block (hb.block Bm h3.lt),k1,λa=>by rw [k2];exact h5 a⟩
theorem v7 {W:World} {xs:List RV} {p c:ByteArray}:(xs.any λy=>decide (y.pod=p/\y.cont=c))=true↔∃ a∈xs.map (aC W),gX a=(p,c):=by
 rw [List.any_eq_true];constructor
 ·rintro ⟨y,hy,h⟩;obtain ⟨h1,h2⟩:=of_decide_eq_true h;exact ⟨aC W y,Qk.2 ⟨y,hy,rfl⟩,by show (y.pod,y.cont)=(p,c);rw [h1,h2]⟩
 ·rintro ⟨a,ha,h⟩;obtain ⟨y,hy,rfl⟩:=Qk.1 ha;have e1:y.pod=p:=congrArg Prod.fst h;have e2:y.cont=c:=congrArg Prod.snd h;exact ⟨y,hy,Qc ⟨e1,e2⟩⟩
theorem Is (Be Bd Bm n:Nat) (sn sk:Sd) (C:Rn->Prop) (p c:ByteArray) (W:World) (h:bz W Be Bd Bm n sn sk C) (hp:p.size<=7000) (hc:c.size<=7000) (hh:∃ a,C a/\gX a=(p,c)) :
  Calls Tryz.prog 104 #[.pointer (some ⟨Be,0,none⟩),.string p,.string c] W λe W'=>e=.returned .nilIface/\bz W' Be Bd Bm n sn sk (λa=>C a/\gX a≠(p,c))/\ba Bd Bm W W':=by
 obtain ⟨h1,h2,xs,h3,h4,h5⟩:=h;obtain ⟨hn1,hn2,_⟩:=lz h1 h3 h2;have hany:(xs.any λy=>decide (y.pod=p/\y.cont=c))=true:=by
  obtain ⟨a,ha,hn⟩:=hh;exact v7.2 ⟨a,(h5 a).2 ha,hn⟩
 refine (Hr Be Bd Bm n sn sk (.slice none 0 0) xs p c (-1) false W h1 h3 h2 ⟨by decide,by decide⟩ hp hc).mono ?_;rw [hany];rintro e W' ⟨rfl,hs⟩;refine ⟨rfl,⟨h1.block (hs.out.block Be h1.lt hn1 hn2),hs.disk,_,hs.yes rfl,?_⟩,hs.out⟩;have hk:=hs.out.kint h2.notInt h3.notInt;obtain ⟨k1,k2⟩:=ki h4 hk;refine ⟨λx hx=>k1 x (List.mem_filter.1 hx).1,λa=>?_⟩;constructor
 ·intro ha;obtain ⟨x,hx,rfl⟩:=Qk.1 ha;obtain ⟨hx1,hx2⟩:=List.mem_filter.1 hx
  have:aC W' x∈xs.map (aC W):=by rw [<- k2];exact Qk.2 ⟨x,hx1,rfl⟩
  refine ⟨(h5 _).1 this,λen=>?_⟩;have e1:x.pod=p:=congrArg Prod.fst en;have e2:x.cont=c:=congrArg Prod.snd en;rw [Qc ⟨e1,e2⟩] at hx2;cases hx2
 ·rintro ⟨ha,hn⟩
  have:=(h5 a).2 ha
  rw [<- k2] at this;obtain ⟨x,hx,rfl⟩:=Qk.1 this;refine Qk.2 ⟨x,List.mem_filter.2 ⟨hx,?_⟩,rfl⟩;rw [Q7 λhh=>hn (by show (x.pod,x.cont)=(p,c);rw [hh.1,hh.2])];rfl
theorem It (Be Bd Bm n:Nat) (sn sk:Sd) (C:Rn->Prop) (x:RV) (W:World) (h:bz W Be Bd Bm n sn sk C) (hx:x.Short) (hdv:bn W x) (haw:jE Bd x) (hdn:x.dn<=1000) (hn:n<1000) (hno:∀ a,C a->gX a≠(x.pod,x.cont)) :
  Calls Tryz.prog 105 #[.pointer (some ⟨Be,0,none⟩),.agg #[.string x.pod,.string x.cont,.int .u64 x.cpus,.slice x.da x.dn x.dc]] W λe W'=>e=.returned .nilIface/\bz W' Be Bd Bm (n+1) sn sk (λa=>C a\/a=aC W x)/\ba Bd Bm W W':=by
 obtain ⟨h1,h2,xs,h3,h4,h5⟩:=h;obtain ⟨hn1,hn2,_⟩:=lz h1 h3 h2;have hany:(xs.any λy=>decide (y.pod=x.pod/\y.cont=x.cont))=false:=by
  cases hb:(xs.any λy=>decide (y.pod=x.pod/\y.cont=x.cont)) with
  | false=>rfl
  | true=>
   obtain ⟨a,ha,e⟩:=(v7 (W:=W)).1 hb;exact absurd e (hno a ((h5 a).1 ha))
 refine (Hh Be Bd Bm n sn sk (.slice none 0 0) xs x (-1) false W h1 h3 h2 ⟨by decide,by decide⟩ hx hdv haw hdn hn).mono ?_;rw [hany];rintro e W' ⟨rfl,hs⟩;obtain ⟨a',c',hm,ho,hd⟩:=hs.yes rfl;refine ⟨rfl,⟨h1.block (hs.out.block Be h1.lt hn1 hn2),hs.disk,_,hm,?_⟩,hs.out⟩;have hk:=hs.out.kint h2.notInt h3.notInt;obtain ⟨k1,k2⟩:=ki h4 hk;refine ⟨λy hy=>?_,λa=>?_⟩
 ·rcases List.mem_cons.1 hy with rfl|hy
  ·exact ⟨ho,hdn⟩
  ·exact k1 y hy
 ·rw [Qq,List.mem_cons,k2];have e:aC W' { x with da:=a',dc:=c' }=aC W x:=by unfold aC;rw [hd]
  rw [e];constructor
  ·rintro (ha|ha)
   ·exact .inr ha
   ·exact .inl ((h5 a).1 ha)
  ·rintro (ha|ha)
   ·exact .inr ((h5 a).2 ha)
   ·exact .inl ha
end
end Go.Proofs.YtbmmnflgnmjboaaGreatDoor
namespace Go.Proofs
open Go.Shelf
shelf_lay_g SlLaysH0.n8 Slgf 8 at Tryz 141 as Tryz.contR
end Go.Proofs
namespace Go.Proofs.YtbmmnflgnmjboaaGreatDoor
section
open RowKit Shelf
attribute [local go_sem] Oper.semAt_some
abbrev RVd (w:World):Type:={ y:RV // bn w y/\y.dn<=1000 }
instance (w:World):Inhabited (RVd w):=⟨⟨⟨ByteArray.empty,ByteArray.empty,0,none,0,0⟩,λh=>absurd h (Nat.lt_irrefl 0),Nat.zero_le _⟩⟩
theorem lD (W:World) (y:RV):(aK W y).length=y.dn:=by simp [aK]
theorem wb {W:World} {y:RV} (h:bn W y):0<(aK W y).length->∃ b o,y.da=some ⟨b,o,none⟩/\b<W.heap.size/\∀ k,k<(aK W y).length->W.cell? ⟨b,o+k,none⟩=some (.int .i64 ((aK W y).getD k 0)):=by
 rw [lD];intro h0;obtain ⟨g,o,ha,hg,hc⟩:=h h0;refine ⟨g,o,ha,hg,λk hk=>?_⟩;rw [hc k hk]
 simp [aK,hk]
theorem Iu (x y:RV) (w:World) (hx:bn w x/\x.dn<=1000) (hy:bn w y/\y.dn<=1000):Calls Tryz.prog 143 #[.slice x.da x.dn x.dc,.slice y.da y.dn y.dc] w λe w'=>e=.returned (.bool (decide (aK w x=aK w y)))/\∃ n,w'=w.drewN n:=by
 have:=Hm x.da y.da x.dc y.dc (aK w x) (aK w y) w (by rw [lD];exact hx.2) (by rw [lD];exact hy.2) (wb hx.1) (wb hy.1)
 rw [lD,lD] at this;exact this
def cV (w:World) (x r:RV):Bool:=decide (x.pod=r.pod) && (decide (x.cont=r.cont) && (decide (x.cpus=r.cpus) && decide (aK w x=aK w r)))
theorem we {w:World} {x r:RV}:cV w x r=true↔aC w x=aC w r:=by
 unfold cV aC
 simp
def bC (r:RV):Obj:=.cells #[.string r.pod,.string r.cont,.int .u64 r.cpus,.slice r.da r.dn r.dc] 111
theorem Iv (r:RV) (B:Nat) (w:World) (hB:w.heap[B]?=some (bC r)) (hr:bn w r/\r.dn<=1000) :
  PredBelow Tryz.prog 142 #[.pointer (some ⟨B,0,none⟩)] (λx:RVd w=>.agg (RV.cells x.1).toArray) (λx=>cV w x.1 r) w:=λW x hb=>by
 obtain ⟨x,hx⟩:=x;have hlt:B<w.heap.size:=(gS hB).1;have hBW:W.heap[B]?=some (bC r):=(hb.block B hlt).trans hB;unfold bC at hBW;have b0:(W.alloc (.cells #[.string x.pod,.string x.cont,.int .u64 x.cpus,.slice x.da x.dn x.dc] 111)).cell? ⟨B,0,none⟩=some (.string r.pod):=ad (bx hBW _) 0;have b1:(W.alloc (.cells #[.string x.pod,.string x.cont,.int .u64 x.cpus,.slice x.da x.dn x.dc] 111)).cell? ⟨B,1,none⟩=some (.string r.cont):=ad (bx hBW _) 1;have b2:(W.alloc (.cells #[.string x.pod,.string x.cont,.int .u64 x.cpus,.slice x.da x.dn x.dc] 111)).cell? ⟨B,2,none⟩=some (.int .u64 r.cpus):=ad (bx hBW _) 2;have b3:(W.alloc (.cells #[.string x.pod,.string x.cont,.int .u64 x.cpus,.slice x.da x.dn x.dc] 111)).cell? ⟨B,3,none⟩=some (.slice r.da r.dn r.dc):=ad (bx hBW _) 3;have hne:B≠W.heap.size:=by have:=hb.size;omega
 have HB:=qI (hb.alloc hb.size (.cells #[.string x.pod,.string x.cont,.int .u64 x.cpus,.slice x.da x.dn x.dc] 111));have hx2:=hx.1.below HB.out (λ_ _ _ h=>h);have hr2:=hr.1.below HB.out (λ_ _ _ h=>h);have HE:=qI (Iu x r _ ⟨hx2.1,hx.2⟩ ⟨hr2.1,hr.2⟩);rw [hx2.2,hr2.2] at HE;have h1:=kO x.pod r.pod;have h2:=kO x.cont r.cont;have h3:(x.cpus == r.cpus)=decide (x.cpus=r.cpus):=by rw [Bool.eq_iff_iff];simp
 show Calls Tryz.prog 142 #[.agg #[.string x.pod,.string x.cont,.int .u64 x.cpus,.slice x.da x.dn x.dc],.pointer (some ⟨B,0,none⟩)] W λe w'=>e=.returned (.bool (cV w x r))/\Below w.heap.size w w'
 unfold cV;clear hb hBW hx2 hr2 hx hr hB
 rcases two (decide (x.pod=r.pod)) with g1|g1
 ·rw [g1] at h1 ⊢
  rcases two (decide (x.cont=r.cont)) with g2|g2
  ·rw [g2] at h2 ⊢
   rcases two (decide (x.cpus=r.cpus)) with g3|g3
   ·rw [g3] at h3 ⊢;clear g1 g2 g3;generalize decide (aK w x=aK w r)=bb at *
    go_enter Tryz.func142,Tryz.ntmps142
    go_wp2_with fail
    refine HE.out.mono ?_;rintro e w' ⟨rfl,nq,rfl⟩
    go_wp2
    go_ret;exact ⟨rfl,below_drewN HB.out nq⟩
   ·rw [g3] at h3 ⊢;clear g1 g2 g3
    go_enter Tryz.func142,Tryz.ntmps142
    go_wp2
    go_ret;exact ⟨rfl,HB.out⟩
  ·rw [g2] at h2 ⊢;clear g1 g2 h3
   go_enter Tryz.func142,Tryz.ntmps142
   go_wp2
   go_ret;exact ⟨rfl,HB.out⟩
 ·rw [g1] at h1 ⊢;clear g1 h2 h3
  go_enter Tryz.func142,Tryz.ntmps142
  go_wp2
  go_ret;exact ⟨rfl,HB.out⟩
theorem Iw (ys:List RV) (r:RV) (B g c:Nat) (w:World) (hB:w.heap[B]?=some (bC r)) (hr:bn w r/\r.dn<=1000) (hg:g<w.heap.size) (hys:∀ y∈ys,bn w y/\y.dn<=1000) (hc:∀ k,k<ys.length->∀ i v,(RV.cells (rv ys k))[i]?=some v->w.cell? ⟨g,0+k*4+i,none⟩=some v) (hl:ys.length<=1000) :
  Calls Tryz.prog 141 #[.slice (some ⟨g,0,none⟩) ys.length c,.func (.func 142) #[] #[.pointer (some ⟨B,0,none⟩)]] w λe w'=>e=.returned (.bool (ys.any λy=>cV w y r))/\Below w.heap.size w w':=by
 have eg:∀ args w,(callFunc 142 args).run Tryz.prog w=.ok (.enter 142 args) w:=enters_of Tryz.func142 (by kernel_rfl) rfl;have hlen:(ys.attachWith (λy=>bn w y/\y.dn<=1000) hys).length=ys.length:=by simp
 have hcon:=AnyQ.slices_ContainsFunc Tryz.contR 4 Tryz.isAgg111 Tryz.sizeOf111 (λx:RVd w=>RV.cells x.1) (λ_=>rfl) (λx=>cV w x.1 r) 142 #[.pointer (some ⟨B,0,none⟩)] eg g 0 ys.length c (ys.attachWith (λy=>bn w y/\y.dn<=1000) hys) w
  (Iv r B w hB hr) (by rw [hlen];exact lR) (by omega) hg (λj hj i v hi=>by
   have hj':j<ys.length:=by rw [<- hlen];exact hj
   refine hc j hj' i v ?_;have e:(ys.attachWith (λy=>bn w y/\y.dn<=1000) hys)[j]! = (⟨rv ys j,hys _ (pS hj')⟩:RVd w):=by
    rw [getElem!_pos _ j hj];apply Subtype.ext
    simp [rv,hj']
   rw [e] at hi;exact hi)
 have e2:(((ys.attachWith (λy=>bn w y/\y.dn<=1000) hys).take ys.length).any λx=>cV w x.1 r)=ys.any λy=>cV w y r:=by
  rw [List.take_of_length_le (by rw [hlen];exact lR)]
  have:ys=(ys.attachWith (λy=>bn w y/\y.dn<=1000) hys).map Subtype.val:=by simp
  conv=>rhs;rw [this,List.any_map]
  rfl
 change Calls Tryz.prog 141 _ _ _ at hcon
 rw [<- e2];exact hcon
theorem index_none (a:Option Addr) (c g:Nat) (f:Array Value) (w:World):Calls Tryz.prog 181 #[.slice a 0 c,.func (.func g) #[] f] w λe w'=>e=.returned (.int .i64 (-1))/\w'=w:=by
 go_enter Tryz.func181,Tryz.ntmps181
 go_wp2
 go_loopw [8] (λi wr=>i=.int .i64 0/\wr=w) (λ_ _=>0)
 case atStart=>exact ⟨rfl,rfl⟩
 case round=>
  obtain ⟨rfl,rfl⟩:=hrel
  go_wp2
  go_ret;exact ⟨rfl,rfl⟩
theorem Ix (a:Option Addr) (c g:Nat) (f:Array Value) (w:World):Calls Tryz.prog 141 #[.slice a 0 c,.func (.func g) #[] f] w λe w'=>e=.returned (.bool false)/\w'=w:=by
 have HI:=qI (index_none a c g f w)
 go_enter Tryz.func141,Tryz.ntmps141
 go_wp2_with fail
 refine HI.out.mono ?_;rintro e w' ⟨rfl,rfl⟩
 go_wp2
 go_ret;exact ⟨rfl,rfl⟩
theorem Iy {w:World} {g k:Nat} {x:RV} (h:fL w g k x):∀ i v,(RV.cells x)[i]?=some v->w.cell? ⟨g,0+k*4+i,none⟩=some v:=by
 intro i v hv;rw [Qd]
 match i,hv with
 | 0,hv=>simp [RV.cells] at hv;subst hv;exact h.1.1
 | 1,hv=>simp [RV.cells] at hv;subst hv;exact h.1.2.1
 | 2,hv=>simp [RV.cells] at hv;subst hv;exact h.1.2.2.1
 | 3,hv=>simp [RV.cells] at hv;subst hv;exact h.1.2.2.2
 | n+4,hv=>simp [RV.cells] at hv
theorem fL.alloc {w:World} {g k:Nat} {x:RV} (h:fL w g k x) (hg:g<w.heap.size) (o:Obj):fL (w.alloc o) g k x:=by
 have hb:(w.alloc o).heap[g]?=w.heap[g]?:=Below.heap_alloc _ _ _ hg;obtain ⟨⟨a,b,c,d⟩,e,f,g2,i⟩:=h;have cc:∀ j,(w.alloc o).cell? ⟨g,j,none⟩=w.cell? ⟨g,j,none⟩:=λj=>World.cell?_of_block (a:=⟨g,j,none⟩) hb
 have ff:∀ j,(w.alloc o).frozen? ⟨g,j,none⟩=w.frozen? ⟨g,j,none⟩:=λj=>by simp [World.frozen?,hb]
 exact ⟨⟨by rw [cc];exact a,by rw [cc];exact b,by rw [cc];exact c,by rw [cc];exact d⟩,by rw [ff];exact e,by rw [ff];exact f,by rw [ff];exact g2,by rw [ff];exact i⟩
theorem wh (v:Value) (ys:List RV) (r:RV) (base:Nat) (w:World) (hv:iY base w v ys) (hys:∀ y∈ys,bn w y/\y.dn<=1000) (hr:bn w r/\r.dn<=1000) (hl:ys.length<=1000) :
  Calls Tryz.prog 103 #[v,.agg #[.string r.pod,.string r.cont,.int .u64 r.cpus,.slice r.da r.dn r.dc]] w λe w'=>e=.returned (.bool (ys.any λy=>cV w y r))/\Below w.heap.size w w':=by
 have HB:=qI ((Q0 w.heap.size w).alloc (lR) (bC r));have hsame:∀ y,bn w y->bn (w.alloc (bC r)) y/\aK (w.alloc (bC r)) y=aK w y:=λy hy=>hy.below HB.out (λ_ _ _ h=>h)
 have hr2:=hsame r hr.1;have HBX:Hid ((w.alloc (bC r)).heap[w.heap.size]?=some (bC r)):=aG w (bC r) rfl;obtain ⟨a,c,rfl,hac,hrow⟩:=hv;have HC:Hid (Calls Tryz.prog 141 #[.slice a ys.length c,.func (.func 142) #[] #[.pointer (some ⟨w.heap.size,0,none⟩)]] (w.alloc (bC r)) λe w'=>e=.returned (.bool (ys.any λy=>cV w y r))/\Below w.heap.size w w'):=by
  unfold Hid
  by_cases h0:0<ys.length
  ·obtain ⟨g,rfl,hgb,hgl,hcs⟩:=hrow h0;have hg2:g<(w.alloc (bC r)).heap.size:=by simp;omega
   refine (Iw ys r w.heap.size g c (w.alloc (bC r)) HBX.out ⟨hr2.1,hr.2⟩ hg2 (λy hy=>⟨(hsame y (hys y hy).1).1,(hys y hy).2⟩) (λk hk=>Iy ((hcs k hk).alloc hgl _)) hl).mono ?_;rintro e w' ⟨rfl,hb⟩;refine ⟨?_,HB.out.trans (hb.mono HB.out.size)⟩;have e2:(ys.any λy=>cV (w.alloc (bC r)) y r)=ys.any λy=>cV w y r:=by
    have ht:∀ y∈ys,cV (w.alloc (bC r)) y r=cV w y r:=λy hy=>by unfold cV;rw [(hsame y (hys y hy).1).2,hr2.2]
    rw [Bool.eq_iff_iff,List.any_eq_true,List.any_eq_true];constructor
    ·rintro ⟨y,hy,h⟩;exact ⟨y,hy,by rw [<- ht y hy];exact h⟩
    ·rintro ⟨y,hy,h⟩;exact ⟨y,hy,by rw [ht y hy];exact h⟩
   rw [e2]
  ·have e0:ys=[]:=List.length_eq_zero_iff.1 (by omega);subst e0;refine (Ix a c _ _ (w.alloc (bC r))).mono ?_;rintro e w' ⟨rfl,rfl⟩;exact ⟨rfl,HB.out⟩
 unfold bC at HC;clear hr2 hsame hrow HBX HB hys hr;generalize (ys.any λy=>cV w y r)=bb at *
 go_enter Tryz.func103,Tryz.ntmps103
 go_wp2_with fail
 refine HC.out.mono ?_;rintro e w' ⟨rfl,hb⟩
 go_wp2
 go_ret;exact ⟨rfl,hb⟩
end
section
open RowKit Shelf
attribute [local go_sem] Oper.semAt_some
theorem Iz {a b:ByteArray} (h:a≠b):(a.toList == b.toList)=false:=by
 rw [Qr];intro e;rw [Qs,Qs] at e;exact h (ByteArray.ext (Array.toList_inj.1 e))
end
section
open RowKit Shelf
open Qos (Nd Ct Pd nd ct pd)
open Sv (Gv Hd gv hd)
attribute [local go_sem] Oper.semAt_some
def m6 (W0:World) (z:RV × Rn):Prop:=z.1.pod=z.2.pod/\z.1.cont=z.2.cont/\z.1.cpus=z.2.cpus/\bj W0 (.slice z.1.da z.1.dn z.1.dc) z.2.devs
theorem IA {hs:List Hd} {k:Nat} (h:k<hs.length):au (hs.take (k+1))=au (hs.take k)++(List.range (hd hs k).gs.length).map (kh (hd hs k)):=by
 unfold au;rw [Qa h,List.flatMap_append];simp [hd,h]
theorem IB {hs:List Hd} (h:∀ x∈hs,x.gs.length<=3) (k:Nat):(au (hs.take k)).length<=3*hs.length:=by
 have key:∀ l:List Hd,(∀ x∈l,x.gs.length<=3)->(au l).length<=3*l.length:=by
  intro l
  induction l with
  | nil=>intro _;simp [au]
  | cons a l ih=>
   intro hl;have h1:=ih λx hx=>hl x (Qv _ hx)
   have h2:=hl a (by simp);unfold au at *;rw [List.flatMap_cons,Q2,Q9,List.length_range,Qg];omega
 have:=key (hs.take k) λx hx=>h x (List.mem_of_mem_take hx)
 rw [Qu] at this;omega
theorem IC {w:World} {base:Nat} {e:TypeId} {sz:Nat} {v:Value} {n:Nat} {xs:List Value} (h:w.ownsRow base e sz v n xs) {B:Nat} {cs:Array Value} {t:TypeId} {z:Nat × Nat} (hB:w.heap[B]?=some (.cells cs t z)) (ht:t≠e):v.ownBlock≠some B:=by
 rcases h.2 with ⟨rfl,_⟩|⟨g,cap,cur,rfl,hg,hgc,_⟩
 ·intro hb;cases hb
 ·intro hb;have hb:some g=some B:=hb;injection hb with hb
  subst hb;rw [hB] at hgc;injection hgc with hgc
  injection hgc with _ h2
  exact ht h2
theorem eA {K:Nat->Prop} {A B:World} {g:Option Nat} (h:A.grownBy B g) (hk:∀ j,g=some j->j<A.heap.size->K j):Apart K A B:=
 ⟨h.os,h.tape,h.output,h.size,λj hj hn=>h.block j hj (λe=>hn (hk j e.symm hj))⟩
theorem ID (x:RV):∀ u∈RV.cells x,u.oneCell'=true:=by
 intro u hu
 simp [RV.cells] at hu
 rcases hu with rfl|rfl|rfl|rfl <;> rfl
abbrev pY:=λ(Bh:Nat) (xn:ByteArray) (cb co y4 cc j:Nat) (cn:ByteArray) (Bg:Nat) (cp:Int) (ia:Option Addr) (y11 ic:Nat) (w':World)=>w'.cell? ⟨Bh,0,none⟩=some (.string xn)/\w'.cell? ⟨Bh,2,none⟩=some (.slice (some ⟨cb,co,none⟩) y4 cc)/\w'.cell? ⟨cb,co+j*6,none⟩=some (.string cn)/\w'.cell? ⟨Bg,0,none⟩=some (.int .u64 cp)/\w'.cell? ⟨Bg,1,none⟩=some (.slice ia y11 ic)
theorem IE (v:Value) (hs:List Hd) (w W0:World) (h:aM W0 v hs) (l:aB W0 w) (hl:hs.length<=100) (hgl:∀ x∈hs,x.gs.length=x.pod.cs.length/\x.gs.length<=3) :
  Calls Tryz.prog 102 #[v] w λe w'=>∃ (v':Value) (zs:List (RV × Rn)),e=.returned v'/\zs.map Prod.snd=au hs/\dY w.heap.size w' v' (zs.map Prod.fst)/\(∀ z∈zs,m6 W0 z)/\Below w.heap.size w w':=by
 obtain ⟨i0,hi,hz0,hz1,hz2⟩:=info_parts uS;obtain ⟨ao,c,rfl,hm,hr⟩:=h;unfold maxLen at hm;have HR:=qI hr;have HL:=qI l;have HGL:=qI hgl;clear hr l hgl
 go_enter Tryz.func102,Tryz.ntmps102
 go_wp2
 go_loopw [3,10] (λpv i wr=>∃ (k:Nat) (zs:List (RV × Rn)),k<=hs.length/\i=.int .i64 k/\zs.map Prod.snd=au (hs.take k)/\dY w.heap.size wr pv (zs.map Prod.fst)/\(∀ z∈zs,m6 W0 z)/\Below w.heap.size w wr) (λ_ i _=>hs.length - (intOf i).toNat)
 case atStart=>exact ⟨0,[],by omega,rfl,rfl,Qw _ _ _ _,λx hx=>(List.not_mem_nil hx).elim,Q0 _ _⟩
 case round=>
  obtain ⟨k,zs,hk,rfl,hzs,hrow,hzz,hb⟩:=hrel;have HZS:=qI hzs;have HZZ:=qI hzz;have HB:=qI hb;obtain ⟨pa,pc,hpv⟩:=gO hrow;rw [Q9] at hpv;subst hpv;have HROW:=qI hrow;have hsz:=hb.size;clear hzs hzz hrow
  by_cases hlt:k<hs.length
  ·obtain ⟨b,ob,cv,gvv,rfl,hin⟩:=HR.out (by omega);have hle:=HL.out.trans (aB.of_below hb);obtain ⟨x0,x1,x2,x3⟩:=(hin.2 k hlt).1;have x0:=hle.cell _ _ _ x0;have x1:=hle.cell _ _ _ x1;have x2:=hle.cell _ _ _ x2;have x3:=hle.cell _ _ _ x3;have hcon:=(hin.2 k hlt).2.1;have hgiv:=(hin.2 k hlt).2.2;obtain ⟨hg1,hg3⟩:=HGL.out (hd hs k) (by simp [hd,hlt]);have HTK:=qI (IA hlt);have hlz:zs.length<=300:=by
    have h1:zs.length=(au (hs.take k)).length:=by rw [<- HZS.out,Q9]
    have h2:=IB (λx hx=>(HGL.out x hx).2) k;omega
   obtain ⟨ca,cc,hcv,hcm,hcr⟩:=id hcon;obtain ⟨ga,gc,hgv,hgm,hgr⟩:=id hgiv;rw [hcv] at x2;rw [hgv] at x3;clear hin hcon hgiv hb hcv hgv hle;generalize hd hs k=x at *;obtain ⟨⟨xn,xp,xc⟩,xg⟩:=x;dsimp only at x0 x1 x2 x3 hcr hgr HTK hg1 hg3 hcm hgm;have HCR:=qI hcr;have HGR:=qI hgr;have HU:=qI ((Q0 wr.heap.size wr).alloc (lR) (.cells #[.string xn,.int .i64 xp,.slice ca xc.length cc,.slice ga xg.length gc] 57));have HROWU:=qI (show dY w.heap.size (wr.alloc (.cells #[.string xn,.int .i64 xp,.slice ca xc.length cc,.slice ga xg.length gc] 57)) (.slice pa zs.length pc) (zs.map Prod.fst) from HROW.out.alloc _);have hsU:(wr.alloc (.cells #[.string xn,.int .i64 xp,.slice ca xc.length cc,.slice ga xg.length gc] 57)).heap.size=wr.heap.size+1:=by simp
   have HH:=qI (aG wr (.cells #[.string xn,.int .i64 xp,.slice ca xc.length cc,.slice ga xg.length gc] 57) rfl);have y0:(wr.alloc (.cells #[.string xn,.int .i64 xp,.slice ca xc.length cc,.slice ga xg.length gc] 57)).cell? ⟨wr.heap.size,0,none⟩=some (.string xn):=by simp
   have y2:(wr.alloc (.cells #[.string xn,.int .i64 xp,.slice ca xc.length cc,.slice ga xg.length gc] 57)).cell? ⟨wr.heap.size,2,none⟩=some (.slice ca xc.length cc):=by simp
   have y3:(wr.alloc (.cells #[.string xn,.int .i64 xp,.slice ca xc.length cc,.slice ga xg.length gc] 57)).cell? ⟨wr.heap.size,3,none⟩=some (.slice ga xg.length gc):=by simp
   have HG1:=qI hg1;clear hcr hgr hg1
   go_wp2_with fail
   generalize wr.alloc (.cells #[.string xn,.int .i64 xp,.slice ca xc.length cc,.slice ga xg.length gc] 57)=U at *;clear x0 x1 x2 x3;generalize hBh:wr.heap.size=Bh at *;have HBU:=qI (HB.out.trans (HU.out.mono hsz));clear y0 y2 y3
   go_loopw [3,17] (λpv i wr=>∃ (j:Nat) (zq:List (RV × Rn)),j<=xg.length/\i=.int .i64 j/\zq.map Prod.snd=au (hs.take k)++(List.range j).map (kh ⟨⟨xn,xp,xc⟩,xg⟩)/\dY w.heap.size wr pv (zq.map Prod.fst)/\(∀ z∈zq,m6 W0 z)/\Apart (λb=>w.heap.size<=b/\b≠Bh) U wr/\zq.length=zs.length+j) (λ_ i _=>xg.length - (intOf i).toNat)
   case atStart=>exact ⟨0,zs,by omega,rfl,by rw [HZS.out];simp,HROWU.out,HZZ.out,Apart.refl _ _,rfl⟩
   case round=>
    obtain ⟨j,zq,hj,rfl,hzq,hrq,hzz,hap,hlq⟩:=hrel;have HLQ:=qI hlq;have hlq3:zq.length<=303:=by omega
    clear hlq;have HZQ:=qI hzq;have HZZQ:=qI hzz;have HAP:=qI hap;have hszq:=hap.size;have hbq:=hap.below HBU.out (lR) (λb hb=>hb.1);have HBQ:=qI hbq;obtain ⟨va,vc,hv⟩:=gO hrq;rw [Q9] at hv;subst hv;have HRQ:=qI hrq;clear hzq hzz hrq
    by_cases hjt:j<xg.length
    ·obtain ⟨gb,go,dv,rfl,hgin⟩:=HGR.out (by omega);obtain ⟨cb,co,cdv,rfl,hcin⟩:=HCR.out (by have:=HG1.out;omega);have hle:=HL.out.trans (aB.of_below hbq);obtain ⟨⟨g0,g1,g2⟩,hint⟩:=hgin.2 j hjt;have g0:=hle.cell _ _ _ g0;have g1:=hle.cell _ _ _ g1;have c0:wr.cell? ⟨cb,co+j*6,none⟩=some (.string (ct xc j).nm):=by
      have:=(hcin.2 j (by have:=HG1.out;omega)).1 0 (by decide)
      exact hle.cell _ _ _ this
     have HINT:=qI hint;obtain ⟨ia,ic,hiv,_⟩:=id hint;rw [hiv] at g1 HINT;have hrun:kh ⟨⟨xn,xp,xc⟩,xg⟩ j=⟨xn,(ct xc j).nm,((gv xg j).cp:Int),(gv xg j).dv⟩:=rfl;have HRUN:=qI hrun;have hcl:cb<wr.heap.size:=Q3 _ ⟨cb,co+j*6,none⟩ c0;have hclw:cb<w.heap.size:=Q1 hcin.1 HL.out.size;clear hgin hcin hint hiv hrun hap hbq hle;generalize (gv xg j).cp=cp at *;generalize (gv xg j).dv=xs at *;generalize (ct xc j).nm=cn at *;have hh:=(HAP.out.block Bh (by omega) (by omega)).trans HH.out;have HHQ:=qI hh;have z0:wr.cell? ⟨Bh,0,none⟩=some (.string xn):=ad hh 0;have z2:wr.cell? ⟨Bh,2,none⟩=some (.slice (some ⟨cb,co,none⟩) xc.length cc):=ad hh 2;clear hh;have hj100:(j:Int)<(xg.length:Int):=by omega
     have hjc:(j:Int)<(xc.length:Int):=by have:=HG1.out;omega
     have HQ:=qI ((Q0 wr.heap.size wr).alloc (lR) (.cells #[.int .u64 cp,.slice ia xs.length ic] 69));have HRQ2:=qI (show dY w.heap.size (wr.alloc (.cells #[.int .u64 cp,.slice ia xs.length ic] 69)).drew (.slice va zq.length vc) (zq.map Prod.fst) from HRQ.out.alloc _);have hsQ:(wr.alloc (.cells #[.int .u64 cp,.slice ia xs.length ic] 69)).heap.size=wr.heap.size+1:=by simp
     have HS:Hid ((wr.alloc (.cells #[.int .u64 cp,.slice ia xs.length ic] 69)).drew.cell? ⟨Bh,0,none⟩=some (.string xn)/\(wr.alloc (.cells #[.int .u64 cp,.slice ia xs.length ic] 69)).drew.cell? ⟨Bh,2,none⟩=some (.slice (some ⟨cb,co,none⟩) xc.length cc)/\(wr.alloc (.cells #[.int .u64 cp,.slice ia xs.length ic] 69)).drew.cell? ⟨cb,co+j*6,none⟩=some (.string cn)/\(wr.alloc (.cells #[.int .u64 cp,.slice ia xs.length ic] 69)).drew.cell? ⟨wr.heap.size,0,none⟩=some (.int .u64 cp)/\(wr.alloc (.cells #[.int .u64 cp,.slice ia xs.length ic] 69)).drew.cell? ⟨wr.heap.size,1,none⟩=some (.slice ia xs.length ic)):=
      ⟨(HQ.out.cell (p:=⟨Bh,0,none⟩) (by show Bh<wr.heap.size;omega)).trans z0,(HQ.out.cell (p:=⟨Bh,2,none⟩) (by show Bh<wr.heap.size;omega)).trans z2,(HQ.out.cell (p:=⟨cb,co+j*6,none⟩) (by show cb<wr.heap.size;omega)).trans c0,ad (W:=(wr.alloc (.cells #[.int .u64 cp,.slice ia xs.length ic] 69)).drew) (aG wr (.cells #[.int .u64 cp,.slice ia xs.length ic] 69) rfl) 0,ad (W:=(wr.alloc (.cells #[.int .u64 cp,.slice ia xs.length ic] 69)).drew) (aG wr (.cells #[.int .u64 cp,.slice ia xs.length ic] 69) rfl) 1⟩
     go_wp2_with fail
     generalize wr.alloc (.cells #[.int .u64 cp,.slice ia xs.length ic] 69)=Q at *;clear g0 g1 z0 z2 c0;generalize hBg:wr.heap.size=Bg at *;have hN:=uT Q.drew ⟨xn,cn,cp,ia,xs.length,ic⟩ 111;rw [show Q.drew.heap.size=Bg+1 from hsQ] at hN;have HN:=qI hN;clear hN;refine wp_region_held_drew (S:=pY Bh xn cb co xc.length cc j cn Bg cp ia xs.length ic) (by kernel_rfl) HS.out (λhHeld=>?_);refine tk 0 ?_;refine tk 1 ?_;refine tk 2 ?_;refine tk 3 ?_;refine tk 4 ?_;refine tk 5 ?_;refine tk 6 ?_;refine tk 7 ?_;refine tk 8 ?_;refine tk 9 ?_;refine tk 10 ?_;refine tk 11 ?_;refine tk 12 ?_;refine tk 13 ?_;refine tk 14 ?_;refine tk 15 ?_;have hA1:=(Q0 Q.drew.heap.size Q.drew).alloc (lR) (.cells #[.string xn,.string cn,.int .u64 cp,.slice ia xs.length ic] 111);have HS1:Hid ((pY Bh xn cb co xc.length cc j cn Bg cp ia xs.length ic) (Q.drew.alloc (.cells #[.string xn,.string cn,.int .u64 cp,.slice ia xs.length ic] 111))):=⟨(hA1.cell (p:=⟨Bh,0,none⟩) (by show Bh<Q.heap.size;omega)).trans HS.out.1,(hA1.cell (p:=⟨Bh,2,none⟩) (by show Bh<Q.heap.size;omega)).trans HS.out.2.1,(hA1.cell (p:=⟨cb,co+j*6,none⟩) (by show cb<Q.heap.size;omega)).trans HS.out.2.2.1,(hA1.cell (p:=⟨Bg,0,none⟩) (by show Bg<Q.heap.size;omega)).trans HS.out.2.2.2.1,(hA1.cell (p:=⟨Bg,1,none⟩) (by show Bg<Q.heap.size;omega)).trans HS.out.2.2.2.2⟩;have HA1:=qI hA1;clear hA1;refine rd 16 (λK hK=>?_);go_simp
     go_wp2
     refine hK.out _ _ HS1.out (λhHeld=>?_);clear hK K;refine rd 17 (λK hK=>?_);rw [if_pos (by rfl)];have hpl:(zq.map Prod.fst).length<=400:=by rw [Q9];omega
     refine wp_append_own (o := { dst := some 39, op := Op.call { callee := Callee.builtin Builtin.append, args := #[Operand.tmp 22, Operand.tmp 38], argTypes := #[105, 105] }, type := 105, pos := "run.go:37", after := #[{ on := 0, ground := Ground.data }, { on := 16, ground := Ground.data }], guard := none }) _ _ _ 105 rfl w.heap.size 111 i0 (.agg #[.string ByteArray.empty, .string ByteArray.empty, .int .u64 0, .slice none 0 0]) 4 64 Tryz.underlying105 hi hz0 hz1 hz2 rfl (by decide) (.slice va zq.length vc) _ _ rfl (HRQ2.out.alloc _) ⟨_, 0, none⟩ 1 1 (RV.cells ⟨xn, cn, cp, ia, xs.length, ic⟩) rfl rfl HN.out (ID _) (by unfold maxLen; omega) (by omega) (by show w.heap.size ≤ (Q.drew.alloc _).heap.size; rw [World.size_alloc]; show w.heap.size ≤ Q.heap.size + 1; omega) ?_
     intro v' W3 hown' hgrow' _;have hlo:∀ b,(Value.slice va zq.length vc).ownBlock=some b->w.heap.size<=b/\b≠Bh:=λb hb=>⟨(HRQ.out.lt b hb).1,λe=>IC HRQ.out HHQ.out (by decide) (by rw [hb,e])⟩
     have HRW:=qI (dY.push hown');have HAW:Hid (Apart (λb=>w.heap.size<=b/\b≠Bh) U W3):=(HAP.out.trans (Apart.of_below ((show Below wr.heap.size wr Q from hBg ▸ HQ.out).trans (bf ((Q0 wr.heap.size Q).alloc (by omega) _))))).trans (eA hgrow' (λb hb _=>hlo b hb));have hneh:some Bh≠(Value.slice va zq.length vc).ownBlock:=λe=>(hlo Bh e.symm).2 rfl
     have hneg:some Bg≠(Value.slice va zq.length vc).ownBlock:=λe=>by have:=(HRQ.out.lt Bg e.symm).2;omega
     have hnec:some cb≠(Value.slice va zq.length vc).ownBlock:=λe=>by have:=(hlo cb e.symm).1;omega
     have hqs:(Q.alloc (.cells #[.string xn,.string cn,.int .u64 cp,.slice ia xs.length ic] 111)).drew.heap.size=Bg+2:=by show (Q.alloc _).heap.size=_;rw [World.size_alloc,hsQ]
     have hge:=hgrow'.size;have hS3:(pY Bh xn cb co xc.length cc j cn Bg cp ia xs.length ic) W3:=⟨(hgrow'.cell_far ⟨Bh,0,none⟩ (by show Bh<_;omega) hneh).trans HS1.out.1,(hgrow'.cell_far ⟨Bh,2,none⟩ (by show Bh<_;omega) hneh).trans HS1.out.2.1,(hgrow'.cell_far ⟨cb,co+j*6,none⟩ (by show cb<_;omega) hnec).trans HS1.out.2.2.1,(hgrow'.cell_far ⟨Bg,0,none⟩ (by show Bg<_;omega) hneg).trans HS1.out.2.2.2.1,(hgrow'.cell_far ⟨Bg,1,none⟩ (by show Bg<_;omega) hneg).trans HS1.out.2.2.2.2⟩;refine hK.out _ _ hS3 (λhHeld=>?_);clear hK K;(try simp only [Act.put,s1,s2,s3]);refine tk 18 ?_;refine Qn (by kernel_rfl) ?_ _;clear hHeld hown' hgrow' hS3
     go_wp2
     go_roundw
     case rel=>
      refine ⟨j+1,zq++[(⟨xn,cn,cp,ia,xs.length,ic⟩,⟨xn,cn,cp,xs⟩)],by omega,by go_num,?_,by rw [Qj];exact HRW.out,λz hz=>?_,HAW.out,by rw [Q2,HLQ.out];rfl⟩
      ·rw [Qj,HZQ.out,List.range_succ,Qj,List.append_assoc,List.map_singleton,List.map_singleton,HRUN.out]
      ·rcases Qi.1 hz with hz|hz
       ·exact HZZQ.out z hz
       ·rw [Qm.1 hz];exact ⟨rfl,rfl,rfl,HINT.out⟩
     case measure=>simp [intOf];omega
    ·have hje:j=xg.length:=by omega
     subst hje;have HZE:Hid (zq.map Prod.snd=au (hs.take (k+1))):=by unfold Hid;rw [HZQ.out,HTK.out]
     go_wp2
     go_roundw
     case rel=>exact ⟨k+1,zq,by omega,by go_num,HZE.out,HRQ.out,HZZQ.out,HBQ.out⟩
     case measure=>simp [intOf];omega
  ·have hke:k=hs.length:=by omega
   have HE:Hid (zs.map Prod.snd=au hs):=by unfold Hid;rw [HZS.out,hke,Qh]
   clear hke
   go_wp2
   go_ret;exact ⟨_,zs,rfl,HE.out,HROW.out,HZZ.out,HB.out⟩
end
section
open RowKit Shelf
open Qos (Nd Ct Pd nd ct pd)
open Sv (Gv Hd gv hd az)
attribute [local go_sem] Oper.semAt_some
theorem fL.blockO {w w':World} {g k:Nat} {x:RV} (h:fL w g k x) (hb:w'.heap[g]?=w.heap[g]?):fL w' g k x:=by
 obtain ⟨⟨a,b,c,d⟩,e,f,g2,i⟩:=h;have cc:∀ j,w'.cell? ⟨g,j,none⟩=w.cell? ⟨g,j,none⟩:=λj=>World.cell?_of_block (a:=⟨g,j,none⟩) hb
 have ff:∀ j,w'.frozen? ⟨g,j,none⟩=w.frozen? ⟨g,j,none⟩:=λj=>by simp [World.frozen?,hb]
 exact ⟨⟨by rw [cc];exact a,by rw [cc];exact b,by rw [cc];exact c,by rw [cc];exact d⟩,by rw [ff];exact e,by rw [ff];exact f,by rw [ff];exact g2,by rw [ff];exact i⟩
theorem jG {base:Nat} {W W':World} {v:Value} {ys:List RV} (h:iY base W v ys) (hk:∀ j,base<=j->j<W.heap.size->W'.heap[j]?=W.heap[j]?) (hs:W.heap.size<=W'.heap.size):iY base W' v ys:=by
 obtain ⟨a,c,hv,hac,hr⟩:=h;refine ⟨a,c,hv,hac,λh0=>?_⟩;obtain ⟨g,ha,hg,hl,hc⟩:=hr h0;exact ⟨g,ha,hg,Q1 hl hs,λk hk2=>(hc k hk2).blockO (hk g hg hl)⟩
theorem IF {base:Nat} {w:World} {v:Value} {ys:List RV} (h:dY base w v ys):iY base w v ys:=by
 have h':=h
 rcases h.2 with ⟨hv,hn⟩|⟨g,cap,cur,hv,hg,hgc,hc1,hc2,_⟩
 ·exact ⟨none,0,by rw [hv,hn],by omega,λh0=>by omega⟩
 ·subst hv;refine ⟨_,cap,rfl,hc1,λ_=>⟨g,rfl,hg,(gS hgc).1,λk hk=>?_⟩⟩;have fz:∀ j,w.frozen? ⟨g,j,none⟩=false:=λj=>by simp [World.frozen?,hgc]
  have cc:∀ j,j<4->w.cell? ⟨g,k*4+j,none⟩=(RV.cells (rv ys k))[j]?:=λj hj=>by
   rw [World.ownsRow.cellAt h' (k*4+j) (by omega)];exact vo ys k hk j hj
  exact ⟨⟨cc 0 (by decide),cc 1 (by decide),cc 2 (by decide),cc 3 (by decide)⟩,fz _,fz _,fz _,fz _⟩
theorem wi {W W':World} {y:RV} (h:bn W y) (hf:∀ g o,0<y.dn->y.da=some ⟨g,o,none⟩->W'.heap[g]?=W.heap[g]?) (hs:W.heap.size<=W'.heap.size):bn W' y/\aK W' y=aK W y:=by
 by_cases h0:0<y.dn
 ·exact lx h (λg o ha _=>hf g o h0 ha) hs
 ·refine ⟨λh1=>absurd h1 h0,?_⟩
  have:y.dn=0:=by omega
  simp [aK,this]
abbrev fO (Bd Bm:Nat):Nat->Prop:=λb=>b=Bd\/b=Bm
theorem IG {Bd Bm:Nat} {W W':World} (h:ba Bd Bm W W'):aB (ag (fO Bd Bm) W) (ag (fO Bd Bm) W'):=
 bg (λj hj hn=>⟨hn,h.block j hj (λe=>hn (.inl e)) (λe=>hn (.inr e))⟩) h.size
theorem zed {Bd Bm:Nat} {w W:World} {z:RV × Rn} (h:m6 (ag (fO Bd Bm) w) z) (ho:ba Bd Bm w W):bn W z.1/\aC W z.1=z.2/\jE Bd z.1/\z.1.dn=z.2.devs.length:=by
 obtain ⟨h1,h2,h3,h4⟩:=h;have h5:=h4.le (IG ho);obtain ⟨d1,d2,d3⟩:=vZ (h5.le (ci _ _));refine ⟨d1,?_,?_,d3⟩
 ·unfold aC;rw [h1,h2,h3,d2]
 ·intro h0 g o ha e;obtain ⟨d1,_,_⟩:=vZ h5;obtain ⟨g2,o2,ha2,_,hc⟩:=d1 h0;rw [ha] at ha2;injection ha2 with ha2
  injection ha2 with e1 e2
  subst e1;exact dV (hc 0 h0) (.inl e)
theorem wj {W:World} {ys:List RV} {r:RV}:(ys.any λy=>cV W y r)=true↔aC W r∈ys.map (aC W):=by
 rw [List.any_eq_true,Qk];constructor
 ·rintro ⟨y,hy,h⟩;exact ⟨y,hy,we.1 h⟩
 ·rintro ⟨y,hy,h⟩;exact ⟨y,hy,we.2 h⟩
open Classical in
noncomputable def dB (rs ws:List Rn):Nat:=(ws.filter λr=>decide (r ∉ rs)).length
theorem wk (rs ws:List Rn):dB rs ws<=ws.length:=List.length_filter_le _ _
theorem IH {rs ws:List Rn} {k:Nat} (h:k<ws.length):dB rs (ws.take k)<=dB rs (ws.take (k+1))/\(ws[k] ∉ rs->dB rs (ws.take (k+1))=dB rs (ws.take k)+1):=by
 unfold dB;rw [Qa h,List.filter_append,Q2];refine ⟨Nat.le_add_right _ _,λhn=>?_⟩
 simp [hn]
theorem pZ (Be Bd Bm n:Nat) (sn sk:Sd) (rs:List Rn) (v:Value) (hs:List Hd) (w:World) (hE:bz w Be Bd Bm n sn sk (λa=>a∈rs)) (hH:aM (ag (fO Bd Bm) w) v hs) (hF:az hs=0) (hn:n+36<=1000) :
  Calls Tryz.prog 57 #[.pointer (some ⟨Be,0,none⟩),v] w λe w'=>e=.returned .nilIface/\(∃ n',n'<=n+dB rs (au hs)/\bz w' Be Bd Bm n' sn sk (λa=>a∈au hs))/\ba Bd Bm w w':=by
 obtain ⟨hl1,hl2,hl3⟩:=hE.lt;obtain ⟨ha1,ha2,ha3⟩:=hE.apart;have HE:=qI hE;have HNM:=qI (Il hF);have HLN:=qI (vX hF);have HSH:=qI (Im hF);obtain ⟨f1,f2,_⟩:=Ol.bW.1 hF;have HRUN:=qI (λ(W:World) (l:aB (ag (fO Bd Bm) w) W)=>IE v hs W _ hH l (by omega) (λx hx=>⟨(f2 x hx).2.1,by have:=(Sv.fm (f2 x hx).1).2.2.1;have:=(f2 x hx).2.1;omega⟩));obtain ⟨he,hd,xs,hm,hdo,hrs⟩:=hE;have hxl:xs.length<=1000:=by
  obtain ⟨_,es,ho,hp⟩:=hm;have h1:=ho.size_le;have h2:=hp.length_eq;unfold iW at h2;rw [Q9] at h2;rw [Go.Maps.size_eq] at h1;omega
 have HLIST:=qI (Hl Be Bd Bm n xs w he hm hxl (λx hx=>⟨(hdo x hx).1.1,(hdo x hx).2⟩));have HRS:=qI hrs;have HMS:=qI hm.1;have HKEY:=qI (Io (W:=w) hm.keys);obtain ⟨ao,c,rfl,_,_⟩:=hH;clear hF f1 f2 he hd hm hdo hrs
 go_enter Tryz.func57,Tryz.ntmps57
 go_wp2_with fail
 refine HLIST.out.mono ?_;rintro e W1 ⟨⟨v1,ys,rfl,hr1,hy1,hperm,_⟩,hb1⟩;have HB1:=qI hb1;clear HLIST
 go_wp2_with fail
 refine (HRUN.out W1 ((ci _ _).trans (aB.of_below hb1))).mono ?_;rintro e W2 ⟨v2,zs,rfl,hz,hr2,hzz,hb2⟩;clear HRUN;have hs1:=hb1.size;have hs2:=hb2.size;have HBW:=qI (hb1.trans (hb2.mono hb1.size));have HO2:=qI (ba.of_below (B1:=Bd) (B2:=Bm) (hb1.trans (hb2.mono hb1.size)));have HRY:=qI (jG hr1 (λj _ hj=>hb2.block j hj) hb2.size);have HRZ:=qI (IF hr2);have HY2:Hid (∀ y∈ys,((bn W2 y/\y.dn<=1000)/\gW w.heap.size y)/\aC W2 y=aC W1 y):=λy hy=>by
  obtain ⟨⟨d1,d2⟩,d3⟩:=hy1 y hy;obtain ⟨e1,e2⟩:=d1.below hb2 (λ_ _ _ h=>h);exact ⟨⟨⟨e1,d2⟩,d3⟩,by unfold aC;rw [e2]⟩
 have hmapy:ys.map (aC W2)=ys.map (aC W1):=List.map_congr_left λy hy=>(HY2.out y hy).2
 have HMEM:Hid (∀ a,a∈ys.map (aC W2)↔a∈rs):=λa=>by rw [hmapy,hperm.mem_iff];exact HRS.out a
 have HND:Hid (((ys.map (aC W2)).map gX).Nodup):=by unfold Hid;rw [hmapy];exact (hperm.map gX).nodup_iff.2 HKEY.out
 have hyl:ys.length<=1000:=by
  have:=hperm.length_eq
  rw [Q9,Q9] at this;omega
 have HYS:Hid (∀ y∈ys,y.Short):=λy hy=>by
  have h1:aC W1 y∈xs.map (aC w):=hperm.mem_iff.1 (Qk.2 ⟨y,hy,rfl⟩);obtain ⟨x,hx,e⟩:=Qk.1 h1
  have:=HMS.out x hx
  have e1:x.pod=y.pod:=congrArg Rn.pod e;have e2:x.cont=y.cont:=congrArg Rn.cont e;unfold RV.Short at *;rw [<- e1,<- e2];exact this
 have HZ:=qI hz;have HZZ:=qI hzz;have hzl:zs.length<=36:=by
  have:=HLN.out
  rw [<- hz,Q9] at this;exact this
 have HE2:=qI (HE.out.below HBW.out);clear hr1 hy1 hperm hb1 hb2 hz hr2 hzz hmapy HKEY HRS;obtain ⟨a1,c1,hv1,_,_⟩:=id HRY.out;subst hv1;obtain ⟨a2,c2,hv2,_,_⟩:=id HRZ.out;rw [Q9] at hv2;subst hv2
 go_wp2
 go_loopw [19] (λi wr=>∃ k:Nat,k<=ys.length/\i=.int .i64 k/\bz wr Be Bd Bm n sn sk (λa=>a∈ys.map (aC W2)/\(a∈au hs\/a∈(ys.map (aC W2)).drop k))/\ba Bd Bm W2 wr) (λi _=>ys.length - (intOf i).toNat)
 case atStart=>exact ⟨0,by omega,rfl,HE2.out.congr (λa=>by rw [List.drop_zero,HMEM.out a];exact ⟨λh=>⟨h,.inr h⟩,λh=>h.1⟩),ba.refl _ _ _⟩
 case round=>
  obtain ⟨k,hk,rfl,hEk,hok⟩:=hrel;have HEK:=qI hEk;have HOK:=qI hok;have hsk:=hok.size;clear hEk
  by_cases hlt:k<ys.length
  ·have hrk:=jG HRY.out (W':=wr) (λj hj hjl=>hok.block j hjl (by omega) (by omega)) hok.size;obtain ⟨a1',c1',hv',_,hrow⟩:=hrk;injection hv' with e1 e2 e3
   subst e1 e3;obtain ⟨g,rfl,hgb,hgl,hcs⟩:=hrow (by omega);obtain ⟨⟨x0,x1,x2,x3⟩,_⟩:=hcs k hlt;have hyin:=pS hlt;obtain ⟨⟨⟨d1,d2⟩,d3⟩,_⟩:=HY2.out _ hyin;obtain ⟨hsp,hsc⟩:=HYS.out _ hyin;have hgk:(ys.map (aC W2))[k]'(by rw [Q9];exact hlt)=aC W2 (rv ys k):=by simp [rv,hlt]
   obtain ⟨d4,d5⟩:=wi (W':=wr) d1 (λgg oo h0 ha=>by
    obtain ⟨g2,hg2,hg3⟩:=d3 h0;rw [ha] at hg2;injection hg2 with hg2
    injection hg2 with hg2
    subst hg2;obtain ⟨g4,o4,ha4,hl4,_⟩:=d1 h0;rw [ha] at ha4;injection ha4 with ha4
    injection ha4 with ha4
    subst ha4;exact hok.block _ hl4 (by omega) (by omega)) hok.size
   have HBX:=qI ((Q0 wr.heap.size wr).alloc (lR) (bC (rv ys k)));obtain ⟨d6,d7⟩:=d4.below HBX.out (λ_ _ _ h=>h);have HABS:Hid (aC (wr.alloc (bC (rv ys k))) (rv ys k)=aC W2 (rv ys k)):=by unfold Hid aC;rw [d7,d5]
   have HOX:=qI ((HO2.out.trans hok).trans (ba.of_below HBX.out));have HHAS:=qI (wh (.slice a2 zs.length c2) (zs.map Prod.fst) (rv ys k) W1.heap.size (wr.alloc (bC (rv ys k))) (jG (jG HRZ.out (λj hj hjl=>hok.block j hjl (by omega) (by omega)) hok.size) (λj _ hjl=>HBX.out.block j hjl) HBX.out.size) (λy hy=>by
    obtain ⟨z,hz,rfl⟩:=Qk.1 hy;obtain ⟨q1,_,_,q4⟩:=zed (HZZ.out z hz) HOX.out
    have:=(HSH.out z.2 (by rw [<- HZ.out];exact Qk.2 ⟨z,hz,rfl⟩)).2.2
    exact ⟨q1,by omega⟩) ⟨d6,d2⟩ (by rw [Q9];omega))
   have HIFF:Hid ((((zs.map Prod.fst).any λy=>cV (wr.alloc (bC (rv ys k))) y (rv ys k))=true)↔(ys.map (aC W2))[k]'(by rw [Q9];exact hlt)∈au hs):=by
    unfold Hid;rw [wj,HABS.out,hgk,List.map_map];have e:zs.map (aC (wr.alloc (bC (rv ys k))) ∘ Prod.fst)=au hs:=by
     rw [<- HZ.out];exact List.map_congr_left λz hz=>(zed (HZZ.out z hz) HOX.out).2.1
    rw [e]
   have HBOX:Hid ((wr.alloc (bC (rv ys k))).heap[wr.heap.size]?=some (bC (rv ys k))):=aG wr (bC (rv ys k)) rfl;have hkL:k<(ys.map (aC W2)).length:=by rw [Q9];exact hlt
   have HGK:=qI hgk;have hk1:(k:Int)<(ys.length:Int):=by omega
   have hsB:(wr.alloc (bC (rv ys k))).heap.size=wr.heap.size+1:=by simp
   clear hcs hrow d1 d2 d3 d4 d5 d6 d7 hgk hyin;generalize rv ys k=y at *;unfold bC at HHAS HBOX HBX hsB HIFF HOX;generalize ((zs.map Prod.fst).any λz=>cV _ z y)=bb at *
   go_wp2_with fail
   generalize wr.alloc (.cells #[.string y.pod,.string y.cont,.int .u64 y.cpus,.slice y.da y.dn y.dc] 111)=W3 at *;refine HHAS.out.mono ?_;rintro e W4 ⟨rfl,hb4⟩;have HB4:=qI (HBX.out.trans (hb4.mono (by omega)));have hbx:=(hb4.block wr.heap.size (by omega)).trans HBOX.out;have b0:W4.cell? ⟨wr.heap.size,0,none⟩=some (.string y.pod):=ad hbx 0;have b1:W4.cell? ⟨wr.heap.size,1,none⟩=some (.string y.cont):=ad hbx 1;clear hb4 hbx HHAS x0 x1 x2 x3
   rcases two bb with hbb|hbb
   ·subst hbb;have HW:=qI (HIFF.out.1 rfl)
    go_wp2
    go_roundw
    case rel=>exact ⟨k+1,by omega,by go_num,(HEK.out.below HB4.out).congr (λa=>(Ol.E8 hkL HW.out a).symm),HOK.out.trans (ba.of_below HB4.out)⟩
    case measure=>simp [intOf];omega
   ·subst hbb;have HW:Hid ((ys.map (aC W2))[k]'hkL ∉ au hs):=λh=>by have:=HIFF.out.2 h;cases this
    have HSTOP:=qI (Is Be Bd Bm n sn sk _ y.pod y.cont W4 (HEK.out.below HB4.out) hsp hsc ⟨(ys.map (aC W2))[k]'hkL,⟨List.getElem_mem hkL,.inr (by rw [List.drop_eq_getElem_cons hkL];exact List.mem_cons_self ..)⟩,by rw [HGK.out];rfl⟩)
    go_wp2_with fail
    refine HSTOP.out.mono ?_;rintro e W5 ⟨rfl,he5,ho5⟩;have HE5:=qI he5;have HO5:=qI ((HOK.out.trans (ba.of_below HB4.out)).trans ho5);clear he5 ho5 HSTOP
    go_wp2
    go_roundw
    case rel=>exact ⟨k+1,by omega,by go_num,HE5.out.congr (λa=>by rw [Ol.E7 gX hkL HND.out HW.out a,HGK.out];rfl),HO5.out⟩
    case measure=>simp [intOf];omega
  ·have hke:k=ys.length:=by omega
   subst hke;have HE3:Hid (bz wr Be Bd Bm n sn sk (λa=>a∈au hs/\(a∈ys.map (aC W2)\/a∈(au hs).take 0))):=HEK.out.congr (λa=>by
    have:=Ol.E9 (runs:=ys.map (aC W2)) (wanted:=au hs) a
    rw [Q9] at this;exact this)
   generalize hwm:wr=WM at *;clear hwm HEK
   go_wp2
   go_loopw [38] (λi wr=>∃ k m:Nat,k<=zs.length/\i=.int .i64 k/\m<=n+dB rs ((au hs).take k)/\bz wr Be Bd Bm m sn sk (λa=>a∈au hs/\(a∈ys.map (aC W2)\/a∈(au hs).take k))/\ba Bd Bm W2 wr) (λi _=>zs.length - (intOf i).toNat)
   case atStart=>exact ⟨0,n,by omega,rfl,by omega,HE3.out,HOK.out⟩
   case round=>
    obtain ⟨k,m,hk,rfl,hmn,hEk,hok⟩:=hrel;have HEK:=qI hEk;have HOK:=qI hok;have hsk:=hok.size;clear hEk
    by_cases hlt:k<zs.length
    ·have hrk:=jG HRZ.out (W':=wr) (λj hj hjl=>hok.block j hjl (by omega) (by omega)) hok.size;obtain ⟨a2',c2',hv',_,hrow⟩:=hrk;injection hv' with e1 e2 e3
     subst e1 e3;clear e2;obtain ⟨g,rfl,hgb,hgl,hcs⟩:=hrow (by rw [Q9];omega);have hzin:zs[k]∈zs:=List.getElem_mem hlt;have hrvz:rv (zs.map Prod.fst) k=zs[k].1:=by simp [rv,hlt]
     have hcc:=hcs k (by rw [Q9];exact hlt);rw [hrvz] at hcc;obtain ⟨⟨x0,x1,x2,x3⟩,_⟩:=hcc;have hkL:k<(au hs).length:=by rw [<- HZ.out,Q9];exact hlt
     have hgk:(au hs)[k]'hkL=zs[k].2:=by simp [<- HZ.out]
     have HBX:=qI ((Q0 wr.heap.size wr).alloc (lR) (bC zs[k].1));have HOX:=qI ((HO2.out.trans hok).trans (ba.of_below HBX.out));obtain ⟨q1,q2,q3,q4⟩:=zed (HZZ.out _ hzin) HOX.out;obtain ⟨sh1,sh2,sh3⟩:=HSH.out zs[k].2 (by rw [<- HZ.out];exact Qk.2 ⟨_,hzin,rfl⟩);obtain ⟨p1,p2,p3,p4⟩:=HZZ.out _ hzin;clear p3 p4;have HYX:Hid (∀ y∈ys,bn (wr.alloc (bC zs[k].1)) y/\y.dn<=1000/\aC (wr.alloc (bC zs[k].1)) y=aC W2 y):=λy hy=>by
      obtain ⟨⟨⟨d1,d2⟩,d3⟩,_⟩:=HY2.out y hy;obtain ⟨d4,d5⟩:=wi (W':=wr.alloc (bC zs[k].1)) d1 (λgg oo h0 ha=>by
       obtain ⟨g2,hg2,hg3⟩:=d3 h0;rw [ha] at hg2;injection hg2 with hg2
       injection hg2 with hg2
       subst hg2;obtain ⟨g4,o4,ha4,hl4,_⟩:=d1 h0;rw [ha] at ha4;injection ha4 with ha4
       injection ha4 with ha4
       subst ha4;exact (HBX.out.block _ (by omega)).trans (hok.block _ hl4 (by omega) (by omega))) (Q5 hok.size HBX.out.size)
      exact ⟨d4,d2,by unfold aC;rw [d5]⟩
     have HHAS:=qI (wh (.slice a1 ys.length c1) ys zs[k].1 w.heap.size (wr.alloc (bC zs[k].1)) (jG (jG HRY.out (λj hj hjl=>hok.block j hjl (by omega) (by omega)) hok.size) (λj _ hjl=>HBX.out.block j hjl) HBX.out.size) (λy hy=>⟨(HYX.out y hy).1,(HYX.out y hy).2.1⟩) ⟨q1,by omega⟩ (by omega));have HIFF:Hid (((ys.any λy=>cV (wr.alloc (bC zs[k].1)) y zs[k].1)=true)↔(au hs)[k]'hkL∈ys.map (aC W2)):=by
      unfold Hid;rw [wj,q2,hgk,List.map_congr_left λy hy=>(HYX.out y hy).2.2]
     have HBOX:Hid ((wr.alloc (bC zs[k].1)).heap[wr.heap.size]?=some (bC zs[k].1)):=aG wr (bC zs[k].1) rfl;have HGK:=qI hgk;have HRUNZ:=qI (HZZ.out _ hzin);have HNX:=qI (IH (rs:=rs) hkL);have hnle:=wk rs ((au hs).take k);rw [Qu] at hnle;have hk1:(k:Int)<(zs.length:Int):=by omega
     have hsB:(wr.alloc (bC zs[k].1)).heap.size=wr.heap.size+1:=by simp
     clear hcs hrow q1 q2 q3 hgk hzin HYX hrvz;generalize zs[k]=z at *;obtain ⟨y,r⟩:=z;dsimp only at x0 x1 x2 x3 HHAS HBOX HBX hsB HIFF HOX HGK HRUNZ sh1 sh2 sh3 p1 p2 q4;have hyp:y.pod.size<=7000:=by rw [p1];exact sh1
     have hyc:y.cont.size<=7000:=by rw [p2];exact sh2
     have hyn:y.dn<=16:=by omega
     clear p1 p2 q4;have HNLE:=qI hnle;clear hnle;unfold bC at HHAS HBOX HBX hsB HIFF HOX;generalize (ys.any λz=>cV _ z y)=bb at *
     go_wp2_with fail
     generalize wr.alloc (.cells #[.string y.pod,.string y.cont,.int .u64 y.cpus,.slice y.da y.dn y.dc] 111)=W3 at *;refine HHAS.out.mono ?_;rintro e W4 ⟨rfl,hb4⟩;have HB4:=qI (HBX.out.trans (hb4.mono (by omega)));have hbx:=(hb4.block wr.heap.size (by omega)).trans HBOX.out;have b0:W4.cell? ⟨wr.heap.size,0,none⟩=some (.string y.pod):=ad hbx 0;have b1:W4.cell? ⟨wr.heap.size,1,none⟩=some (.string y.cont):=ad hbx 1;have b2:W4.cell? ⟨wr.heap.size,2,none⟩=some (.int .u64 y.cpus):=ad hbx 2;have b3:W4.cell? ⟨wr.heap.size,3,none⟩=some (.slice y.da y.dn y.dc):=ad hbx 3;clear hb4 hbx HHAS x0 x1 x2 x3
     rcases two bb with hbb|hbb
     ·subst hbb;have HW:=qI (HIFF.out.1 rfl)
      go_wp2
      go_roundw
      case rel=>exact ⟨k+1,m,by omega,by go_num,by have:=HNX.out.1;omega,(HEK.out.below HB4.out).congr (λa=>(Ol.Fa hkL HW.out a).symm),HOK.out.trans (ba.of_below HB4.out)⟩
      case measure=>simp [intOf];omega
     ·subst hbb;have HW:Hid ((au hs)[k]'hkL ∉ ys.map (aC W2)):=λh=>by have:=HIFF.out.2 h;cases this
      obtain ⟨q1,q2,q3,q5⟩:=zed HRUNZ.out ((HO2.out.trans hok).trans (ba.of_below HB4.out));clear q5;dsimp only at q1 q2 q3;have HSTART:=qI (It Be Bd Bm m sn sk _ y W4 (HEK.out.below HB4.out) ⟨hyp,hyc⟩ q1 q3 (by omega) (by have:=HNLE.out;omega) (λa ha=>by
       have:=Ol.Fb gX hkL HNM.out HW.out a ha
       rw [HGK.out,<- q2] at this;exact this))
      have HABS:Hid (aC W4 y=(au hs)[k]'hkL):=by unfold Hid;rw [q2,HGK.out]
      have HC5:Hid (∀ a,((a∈au hs/\(a∈ys.map (aC W2)\/a∈(au hs).take k))\/a=aC W4 y)↔(a∈au hs/\(a∈ys.map (aC W2)\/a∈(au hs).take (k+1)))):=λa=>by
       rw [HABS.out];exact (Ol.uy hkL a).symm
      have HM5:Hid (m+1<=n+dB rs ((au hs).take (k+1))):=by
       unfold Hid
       have:=HNX.out.2 (λh=>HW.out ((HMEM.out _).2 h))
       omega
      clear q1 q2 q3
      go_wp2_with fail
      refine HSTART.out.mono ?_;rintro e W5 ⟨rfl,he5,ho5⟩;have HE5:=qI he5;have HO5:=qI ((HOK.out.trans (ba.of_below HB4.out)).trans ho5);clear he5 ho5 HSTART
      go_wp2
      go_roundw
      case rel=>exact ⟨k+1,m+1,by omega,by go_num,HM5.out,HE5.out.congr HC5.out,HO5.out⟩
      case measure=>simp [intOf];omega
    ·have hke:k=zs.length:=by omega
     subst hke;have hwl:(au hs).length=zs.length:=by rw [<- HZ.out,Q9]
     have HEND:Hid (∃ n',n'<=n+dB rs (au hs)/\bz wr Be Bd Bm n' sn sk (λa=>a∈au hs)):=by
      refine ⟨m,?_,HEK.out.congr (λa=>?_)⟩
      ·rw [<- hwl,Qh] at hmn;exact hmn
      ·rw [<- hwl];exact Ol.step_end a
     go_wp2
     go_ret;exact ⟨rfl,HEND.out,HO2.out.trans HOK.out⟩
end
