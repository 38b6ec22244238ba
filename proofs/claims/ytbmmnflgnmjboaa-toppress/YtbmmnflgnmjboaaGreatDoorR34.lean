import Derived.Test.YtbmmnflgnmjboaaGreatDoorR32
set_option maxRecDepth 100000
set_option maxHeartbeats 16000000
namespace Go.Proofs.YtbmmnflgnmjboaaGreatDoor
section
open RowKit Shelf
open Qos (Nd Ct Pd nd ct pd af aA)
open Sv (Gv Hd gv hd)
open Dvs (Dv dv nth aL)
attribute [local go_sem] Oper.semAt_some
def frT (c12 c21 c22 c23 c24:Value) (F:Nat->Value):Act:=⟨List.toArray (F 0 :: F 1 :: F 2 :: F 3 :: F 4 :: F 5 :: F 6 :: F 7 :: F 8 :: F 9 :: F 10 :: F 11 :: c12 :: F 13 :: F 14 :: F 15 :: F 16 :: F 17 :: F 18 :: F 19 :: F 20 :: c21 :: c22 :: c23 :: c24 :: tlS F ([]) 25 251),[]⟩
def jd (W:World) (a:Option Addr) (ys:List RV):Prop:=0<ys.length->∃ g,a=some ⟨g,0,none⟩/\g<W.heap.size/\gi W g ys
theorem jd.below {W W':World} {a:Option Addr} {ys:List RV} (h:jd W a ys) (hb:Below W.heap.size W W'):jd W' a ys:=λh0=>by
 obtain ⟨g,h1,h2,h3⟩:=h h0;exact ⟨g,h1,Q1 h2 hb.size,gi.block h3 (hb.block g h2)⟩
theorem lJ {W W':World} {x:RV} (h:aS W x) (hb:Below W.heap.size W W'):aS W' x/\aj W' x=aj W x:=by
 obtain ⟨h1,h2⟩:=h.below hb (λ_ _ _ h=>h);exact ⟨h1,by unfold aj;rw [h2]⟩
def Fnd (W:World) (ys:List RV) (z:RV) (k:Nat) (b:Bool):Prop:=∀ j,j<k->aj W (rv ys j)=aj W z->b=true
theorem Fnd.more {W:World} {ys:List RV} {z:RV} {k:Nat} {b b':Bool} (h:Fnd W ys z k b) (h1:b=true->b'=true) (h2:aj W (rv ys k)=aj W z->b'=true):Fnd W ys z (k+1) b':=λj hj e=>by
 by_cases hjk:j=k
 ·subst hjk;exact h2 e
 ·exact h1 (h j (by omega) e)
abbrev zR:=λ(gy k:Nat) (y:RV) (gz i:Nat) (z:RV) (w':World)=>(w'.cell? ⟨gy,k*4,none⟩=some (.string y.pod)/\w'.cell? ⟨gy,k*4+1,none⟩=some (.string y.cont)/\w'.cell? ⟨gy,k*4+2,none⟩=some (.int .u64 y.cpus)/\w'.cell? ⟨gy,k*4+3,none⟩=some (.slice y.da y.dn y.dc))/\w'.cell? ⟨gz,i*4,none⟩=some (.string z.pod)/\w'.cell? ⟨gz,i*4+1,none⟩=some (.string z.cont)/\w'.cell? ⟨gz,i*4+2,none⟩=some (.int .u64 z.cpus)/\w'.cell? ⟨gz,i*4+3,none⟩=some (.slice z.da z.dn z.dc)
theorem MK (F:Nat->Value) (W:World) (ra na:Option Addr) (rc nc i nl:Nat) (zs ys:List RV) (hnl:nl=ys.length) (hz:jd W ra zs) (hy:jd W na ys) (hdz:aS W (rv zs i)/\(rv zs i).dn<=1000) (hdy:∀ y∈ys,aS W y/\y.dn<=1000) (hi:i<zs.length) (hzl:zs.length<=1000) (hyl:ys.length<=1000) (hf:∃ j,j<ys.length/\aj W (rv ys j)=aj W (rv zs i)) :
  Code.wp Tryz.prog (Code.loop (gm 5)) (ja 10 (FrS (λF=>frT (.slice ra zs.length rc) (.slice na nl nc) (.int .i64 (i:Nat)) (.bool true) (F 24) F) (λW'=>Below W.heap.size W W'))) (frT (.slice ra zs.length rc) (.slice na nl nc) (.int .i64 (i:Nat)) (.bool false) (.int .i64 0) F) W:=by
 subst hnl;obtain ⟨gz,Hx,Hi,Hr⟩:=hz (by omega);subst Hx;have HA:=qI Hr;have HY:=qI hy;have Ho:=qI hdz;have Hs:=qI hdy;have Hz:=qI hf;clear Hr hy hdz hdy hf hz;simp only [frT,tlS,Nat.reduceAdd]
 conv=>enter [2,1];unfold gm;whnf
 go_loopw [23,24] (λbv kv wq=>∃ (k:Nat) (b:Bool),k<=ys.length/\kv=.int .i64 k/\bv=.bool b/\Fnd W ys (rv zs i) k b/\Below W.heap.size W wq) (λ_ kv _=>ys.length - (intOf kv).toNat)
 case atStart=>exact ⟨0,false,Nat.zero_le _,rfl,rfl,λj hj=>by omega,Q0 _ _⟩
 case round=>
  obtain ⟨k,b,hk,rfl,rfl,Hq,Hk⟩:=hrel;have Hb:=qI Hq;have Hh:=qI Hk;clear Hq Hk
  by_cases hlt:k<ys.length
  ·obtain ⟨gy,Hu,Hf,Hj⟩:=HY.out (by omega);subst Hu;have Ht:=qI Hj;clear Hj;have Hm:rv ys k∈ys:=kw hlt;have Hc:=qI (Hs.out _ Hm);clear Hm;have Hg:Hid (∀ V,Below W.heap.size W V->(λw'=>(w'.cell? ⟨gy,k*4,none⟩=some (.string (rv ys k).pod)/\w'.cell? ⟨gy,k*4+1,none⟩=some (.string (rv ys k).cont)/\w'.cell? ⟨gy,k*4+2,none⟩=some (.int .u64 (rv ys k).cpus)/\w'.cell? ⟨gy,k*4+3,none⟩=some (.slice (rv ys k).da (rv ys k).dn (rv ys k).dc))/\w'.cell? ⟨gz,i*4,none⟩=some (.string (rv zs i).pod)/\w'.cell? ⟨gz,i*4+1,none⟩=some (.string (rv zs i).cont)/\w'.cell? ⟨gz,i*4+2,none⟩=some (.int .u64 (rv zs i).cpus)/\w'.cell? ⟨gz,i*4+3,none⟩=some (.slice (rv zs i).da (rv zs i).dn (rv zs i).dc)) V):=λV hb=>by
    obtain ⟨⟨c0,c1,c2,c3⟩,_⟩:=gi.block (W':=V) Ht.out (hb.block gy Hf) k hlt;obtain ⟨⟨e0,e1,e2,e3⟩,_⟩:=gi.block (W':=V) HA.out (hb.block gz Hi) i hi;exact ⟨⟨c0,c1,c2,c3⟩,e0,e1,e2,e3⟩
   rcases two b with rfl|rfl
   ·have Hw:=qI (Hb.out.more (b':=true) (λ_=>rfl) (λ_=>rfl));clear Hb Hc;generalize rv ys k=y at *;generalize rv zs i=z at *;have Ha:Hid (Below W.heap.size W wr.drew):=a6 Hh.out
    go_upto_region 50 with fail
    refine wp_region_held_drew (S:=zR gy k y gz i z) (by kernel_rfl) (Hg.out _ Ha.out) (λhQ=>?_);generalize wr.drew=V at *;refine tk 0 ?_;refine tk 1 ?_;refine ts 2 ?_;refine ts 3 ?_;refine ts 4 ?_;refine ts 5 ?_;refine ts 6 ?_;refine ts 7 ?_;refine ts 8 ?_;refine ts 9 ?_;refine ts 10 ?_;refine tk 11 ?_;refine tk 12 ?_;refine Qn (by kernel_rfl) ?_ _
    go_wp2
    go_roundw
    case rel=>exact ⟨k+1,true,by omega,by go_num,rfl,Hw.out,Ha.out⟩
    case measure=>simp [intOf];omega
   ·have HB:Hid (∀ V,Below W.heap.size W V->Calls Tryz.prog 40 #[.agg #[.string (rv ys k).pod,.string (rv ys k).cont,.int .u64 (rv ys k).cpus,.slice (rv ys k).da (rv ys k).dn (rv ys k).dc],.agg #[.string (rv zs i).pod,.string (rv zs i).cont,.int .u64 (rv zs i).cpus,.slice (rv zs i).da (rv zs i).dn (rv zs i).dc]] V λe w'=>∃ b:Bool,e=.returned (.bool b)/\Fnd W ys (rv zs i) (k+1) b/\Below V.heap.size V w'):=λV hb=>by
     obtain ⟨p1,p2⟩:=lJ Hc.out.1 hb;obtain ⟨q1,q2⟩:=lJ Ho.out.1 hb;refine (Kr (rv ys k) (rv zs i) V p1 q1 Hc.out.2 Ho.out.2).mono ?_;rintro e w' ⟨b,rfl,Hn,He⟩;rw [p2,q2] at Hn;exact ⟨b,rfl,Hb.out.more (λh=>by cases h) Hn,He⟩
    clear Hb Hc;generalize rv ys k=y at *;generalize rv zs i=z at *;have Ha:Hid (Below W.heap.size W wr.drew):=a6 Hh.out
    go_upto_region 50 with fail
    refine wp_region_held_drew (S:=zR gy k y gz i z) (by kernel_rfl) (Hg.out _ Ha.out) (λhQ=>?_);generalize wr.drew=V at *;refine tk 0 ?_;refine tk 1 ?_;refine tk 2 ?_;refine tk 3 ?_;refine tk 4 ?_;refine tk 5 ?_;refine tk 6 ?_;refine tk 7 ?_;refine tk 8 ?_;refine tk 9 ?_;refine rd 10 (λK hK=>?_);go_simp
    go_wp2_with fail
    refine (HB.out _ Ha.out).mono ?_;rintro e V2 ⟨b2,rfl,Hl,He⟩;have Hp:=qI (Ha.out.trans (He.mono Ha.out.size));have Hv:=qI Hl;clear He Hl
    go_wp2
    refine hK.out _ _ (Hg.out _ Hp.out) (λhQ=>?_);clear hK K;refine tk 11 ?_;refine tk 12 ?_;refine Qn (by kernel_rfl) ?_ _
    go_wp2
    go_roundw
    case rel=>exact ⟨k+1,b2,by omega,by go_num,rfl,Hv.out,Hp.out⟩
    case measure=>simp [intOf];omega
  ·have Hy:k=ys.length:=by omega
   subst Hy;obtain ⟨j,hj,he⟩:=Hz.out;have HC:=Hb.out j hj he;subst HC
   go_wp2
   exact ⟨rfl,FrS.mk (by kernel_rfl) Hh.out⟩
theorem ML (F:Nat->Value) (W:World) (ra na:Option Addr) (rc nc nl:Nat) (zs ys:List RV) (hnl:nl=ys.length) (hz:jd W ra zs) (hy:jd W na ys) (hdz:∀ z∈zs,aS W z/\z.dn<=1000) (hdy:∀ y∈ys,aS W y/\y.dn<=1000) (hzl:zs.length<=1000) (hyl:ys.length<=1000) (hf:∀ i,i<zs.length->∃ j,j<ys.length/\aj W (rv ys j)=aj W (rv zs i)) :
  Code.wp Tryz.prog (Code.loop (gm 4)) (ja 8 (FrS (λF=>frT (F 12) (F 21) (F 22) (F 23) (F 24) F) (λW'=>Below W.heap.size W W'))) (frT (.slice ra zs.length rc) (.slice na nl nc) (.int .i64 0) (F 23) (F 24) F) W:=by
 have HZ:=qI hz;have HY:=qI hy;have Hh:=qI hdz;have Hc:=qI hdy;have Hj:=qI hf;clear hz hy hdz hdy hf
 conv=>enter [2,1];unfold gm;whnf
 refine pk (λm a wq=>∃ (i:Nat) (iv:Value),m+i=zs.length/\iv=.int .i64 i/\FrS (λF=>frT (.slice ra zs.length rc) (.slice na nl nc) (iv) (F 23) (F 24) F) (λwq=>Below W.heap.size W wq) a wq) zs.length ?_ ?_
 ·exact ⟨0,.int .i64 0,rfl,rfl,FrS.mk (by kernel_rfl) (Q0 _ _)⟩
 ·rintro m a wr ⟨i,iv,Hk,rfl,F7,rfl,He⟩ K hK;have hi:i<=zs.length:=by omega
  simp only [frT,tlS,Nat.reduceAdd];(try dsimp only);have Ha:=qI He;clear He
  by_cases hlt:i<zs.length
  ·go_wp2_with fail
   have Hb:=Hh.out _ (kw hlt);refine jQ (G:=λF=>frT (.slice ra zs.length rc) (.slice na nl nc) (.int .i64 (i:Nat)) (.bool false) (.int .i64 0) F) (by kernel_rfl) (λF1=>MK F1 wr ra na rc nc i nl zs ys hnl (HZ.out.below Ha.out) (HY.out.below Ha.out) ⟨(lJ Hb.1 Ha.out).1,Hb.2⟩ (λy hy=>⟨(lJ (Hc.out y hy).1 Ha.out).1,(Hc.out y hy).2⟩) hlt hzl hyl (by
    obtain ⟨j,hj,he⟩:=Hj.out i hlt;exact ⟨j,hj,by rw [(lJ (Hc.out _ (kw hj)).1 Ha.out).2,(lJ Hb.1 Ha.out).2];exact he⟩)) ?_
   rintro a W2 ⟨F1,rfl,Hf⟩;have Hi:=qI (Ha.out.trans (Hf.mono Ha.out.size));clear Hf Hb;simp only [frT,tlS,Nat.reduceAdd];(try dsimp only)
   go_wp2
   refine hK.out _ _ ⟨m - 1,by omega,i+1,.int .i64 ((i:Int)+1),by omega,?_,FrS.mk (by kernel_rfl) Hi.out⟩
   go_num
  ·have Hg:i=zs.length:=by omega
   subst Hg
   go_wp2
   exact ⟨rfl,FrS.mk (by kernel_rfl) Ha.out⟩
end
