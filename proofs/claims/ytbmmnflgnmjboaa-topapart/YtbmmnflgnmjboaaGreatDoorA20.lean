import Derived.Test.YtbmmnflgnmjboaaGreatDoorA19
set_option maxRecDepth 100000
set_option maxHeartbeats 16000000
namespace Go.Proofs.YtbmmnflgnmjboaaGreatDoor
section
open RowKit Shelf
open Qos (Nd Ct Pd nd ct pd)
open Sv (Gv Hd gv hd)
attribute [local go_sem] Oper.semAt_some
def iB (W0:World) (z:RV × Rn):Prop:=z.1.pod=z.2.pod/\z.1.cont=z.2.cont/\z.1.cpus=z.2.cpus/\bu W0 (.slice z.1.da z.1.dn z.1.dc) z.2.devs
theorem yG {hs:List Hd} {k:Nat} (h:k<hs.length):au (hs.take (k+1))=au (hs.take k)++(List.range (hd hs k).gs.length).map (iA (hd hs k)):=by
 unfold au;rw [Qa h,List.flatMap_append];simp [hd,h]
theorem yH {hs:List Hd} (h:∀ x∈hs,x.gs.length<=3) (k:Nat):(au (hs.take k)).length<=3*hs.length:=by
 have key:∀ l:List Hd,(∀ x∈l,x.gs.length<=3)->(au l).length<=3*l.length:=by
  intro l
  induction l with
  | nil=>intro _;simp [au]
  | cons a l ih=>
   intro hl;have h1:=ih λx hx=>hl x (Qv _ hx)
   have h2:=hl a (by simp);unfold au at *;rw [List.flatMap_cons,Q2,Q9,List.length_range,Qg];omega
 have:=key (hs.take k) λx hx=>h x (List.mem_of_mem_take hx)
 rw [Qu] at this;omega
theorem r9 {w:World} {base:Nat} {e:TypeId} {sz:Nat} {v:Value} {n:Nat} {xs:List Value} (h:w.ownsRow base e sz v n xs) {B:Nat} {cs:Array Value} {t:TypeId} {z:Nat × Nat} (hB:w.heap[B]?=some (.cells cs t z)) (ht:t≠e):v.ownBlock≠some B:=by
 rcases h.2 with ⟨rfl,_⟩|⟨g,cap,cur,rfl,hg,Ha,_⟩
 ·intro hb;cases hb
 ·intro hb;have hb:some g=some B:=hb;injection hb with hb
  subst hb;rw [hB] at Ha;injection Ha with Ha
  injection Ha with _ h2
  exact ht h2
theorem ey {K:Nat->Prop} {A B:World} {g:Option Nat} (h:A.grownBy B g) (hk:∀ j,g=some j->j<A.heap.size->K j):Apart K A B:=
 ⟨h.os,h.tape,h.output,h.size,λj hj hn=>h.block j hj (λe=>hn (hk j e.symm hj))⟩
theorem yI (x:RV):∀ u∈RV.cells x,u.oneCell'=true:=by
 intro u hu
 simp [RV.cells] at hu
 rcases hu with rfl|rfl|rfl|rfl <;> rfl
abbrev jJ:=λ(x0:ByteArray) (x1:Int) (x2:Option Addr) (x3 x4:Nat) (x5:Option Addr) (x6 x7:Nat)=>(.cells #[.string x0,.int .i64 x1,.slice x2 x3 x4,.slice x5 x6 x7] 57:Obj)
abbrev fK:=λ(x0:Int) (x1:Option Addr) (x2 x3:Nat)=>(.cells #[.int .u64 x0,.slice x1 x2 x3] 69:Obj)
abbrev jK:=λ(x0 x1:ByteArray) (x2:Int) (x3:Option Addr) (x4 x5:Nat)=>(.cells #[.string x0,.string x1,.int .u64 x2,.slice x3 x4 x5] 111:Obj)
abbrev sd:=λ(Bh:Nat) (xn:ByteArray) (cb co y4 cc j:Nat) (cn:ByteArray) (Bg:Nat) (cp:Int) (ia:Option Addr) (y11 ic:Nat) (w':World)=>w'.cell? ⟨Bh,0,none⟩=some (.string xn)/\w'.cell? ⟨Bh,2,none⟩=some (.slice (some ⟨cb,co,none⟩) y4 cc)/\w'.cell? ⟨cb,co+j*6,none⟩=some (.string cn)/\w'.cell? ⟨Bg,0,none⟩=some (.int .u64 cp)/\w'.cell? ⟨Bg,1,none⟩=some (.slice ia y11 ic)
theorem Kf (v:Value) (hs:List Hd) (w W0:World) (h:aQ W0 v hs) (l:az W0 w) (hl:hs.length<=100) (hgl:∀ x∈hs,x.gs.length=x.pod.cs.length/\x.gs.length<=3) :
  Calls Tryz.prog 102 #[v] w λe w'=>∃ (v':Value) (zs:List (RV × Rn)),e=.returned v'/\zs.map Prod.snd=au hs/\bS w.heap.size w' v' (zs.map Prod.fst)/\(∀ z∈zs,iB W0 z)/\Below w.heap.size w w':=by
 obtain ⟨i0,hi,H8,hf,hn⟩:=info_parts rF;obtain ⟨ao,c,rfl,hm,hr⟩:=h;unfold maxLen at hm;have HR:=qI hr;have HL:=qI l;have HM:=qI hgl;clear hr l hgl
 go_enter Tryz.func102,Tryz.ntmps102
 go_wp2
 go_loopw [3,10] (λpv i wr=>∃ (k:Nat) (zs:List (RV × Rn)),k<=hs.length/\i=.int .i64 k/\zs.map Prod.snd=au (hs.take k)/\bS w.heap.size wr pv (zs.map Prod.fst)/\(∀ z∈zs,iB W0 z)/\Below w.heap.size w wr) (λ_ i _=>hs.length - (intOf i).toNat)
 case atStart=>exact ⟨0,[],by omega,rfl,rfl,Qw _ _ _ _,λx hx=>(List.not_mem_nil hx).elim,Q0 _ _⟩
 case round=>
  obtain ⟨k,zs,hk,rfl,H0,Hf,Hn,hb⟩:=hrel;have HF:=qI H0;have HT:=qI Hn;have HB:=qI hb;obtain ⟨pa,pc,HO⟩:=fH Hf;rw [Q9] at HO;subst HO;have Hp:=qI Hf;have H6:=hb.size;clear H0 Hn Hf
  by_cases hlt:k<hs.length
  ·obtain ⟨b,ob,cv,gvv,rfl,Hv⟩:=HR.out (by omega);have hle:=HL.out.trans (az.of_below hb);obtain ⟨x0,x1,x2,x3⟩:=(Hv.2 k hlt).1;have x0:=hle.cell _ _ _ x0;have x1:=hle.cell _ _ _ x1;have x2:=hle.cell _ _ _ x2;have x3:=hle.cell _ _ _ x3;have Hq:=(Hv.2 k hlt).2.1;have Hm:=(Hv.2 k hlt).2.2;obtain ⟨Hw,ho⟩:=HM.out (hd hs k) (by simp [hd,hlt]);have HW:=qI (yG hlt);have hD:zs.length<=300:=by
    have h1:zs.length=(au (hs.take k)).length:=by rw [<- HF.out,Q9]
    have h2:=yH (λx hx=>(HM.out x hx).2) k;omega
   obtain ⟨ca,cc,HZ,he,HA⟩:=id Hq;obtain ⟨ga,gc,HK,hp,Hy⟩:=id Hm;rw [HZ] at x2;rw [HK] at x3;clear Hv Hq Hm hb HZ HK hle;generalize hd hs k=x at *;obtain ⟨⟨xn,xp,xc⟩,xg⟩:=x;dsimp only at x0 x1 x2 x3 HA Hy HW Hw ho he hp;have hc:=qI HA;have ht:=qI Hy;have HU:=qI ((Q0 wr.heap.size wr).alloc (lR) (jJ xn xp ca xc.length cc ga xg.length gc));have Hj:=qI (show bS w.heap.size (wr.alloc (jJ xn xp ca xc.length cc ga xg.length gc)) (.slice pa zs.length pc) (zs.map Prod.fst) from Hp.out.alloc _);have hH:(wr.alloc (jJ xn xp ca xc.length cc ga xg.length gc)).heap.size=wr.heap.size+1:=by simp
   have HH:=qI (aF wr (jJ xn xp ca xc.length cc ga xg.length gc) rfl);have y0:(wr.alloc (jJ xn xp ca xc.length cc ga xg.length gc)).cell? ⟨wr.heap.size,0,none⟩=some (.string xn):=by simp
   have y2:(wr.alloc (jJ xn xp ca xc.length cc ga xg.length gc)).cell? ⟨wr.heap.size,2,none⟩=some (.slice ca xc.length cc):=by simp
   have y3:(wr.alloc (jJ xn xp ca xc.length cc ga xg.length gc)).cell? ⟨wr.heap.size,3,none⟩=some (.slice ga xg.length gc):=by simp
   have HD:=qI Hw;clear HA Hy Hw
   go_wp2_with fail
   generalize wr.alloc (jJ xn xp ca xc.length cc ga xg.length gc)=U at *;clear x0 x1 x2 x3;generalize hBh:wr.heap.size=Bh at *;have ha:=qI (HB.out.trans (HU.out.mono H6));clear y0 y2 y3
   go_loopw [3,17] (λpv i wr=>∃ (j:Nat) (zq:List (RV × Rn)),j<=xg.length/\i=.int .i64 j/\zq.map Prod.snd=au (hs.take k)++(List.range j).map (iA ⟨⟨xn,xp,xc⟩,xg⟩)/\bS w.heap.size wr pv (zq.map Prod.fst)/\(∀ z∈zq,iB W0 z)/\Apart (λb=>w.heap.size<=b/\b≠Bh) U wr/\zq.length=zs.length+j) (λ_ i _=>xg.length - (intOf i).toNat)
   case atStart=>exact ⟨0,zs,by omega,rfl,by rw [HF.out];simp,Hj.out,HT.out,Apart.refl _ _,rfl⟩
   case round=>
    obtain ⟨j,zq,hj,rfl,HX,Hz,Hn,Hu,H1⟩:=hrel;have hq:=qI H1;have hB:zq.length<=303:=by omega
    clear H1;have H5:=qI HX;have Ho:=qI Hn;have H4:=qI Hu;have hy:=Hu.size;have HI:=Hu.below ha.out (lR) (λb hb=>hb.1);have hw:=qI HI;obtain ⟨va,vc,hv⟩:=fH Hz;rw [Q9] at hv;subst hv;have Hi:=qI Hz;clear HX Hn Hz
    by_cases hjt:j<xg.length
    ·obtain ⟨gb,go,dv,rfl,Ht⟩:=ht.out (by omega);obtain ⟨cb,co,cdv,rfl,Hc⟩:=hc.out (by have:=HD.out;omega);have hle:=HL.out.trans (az.of_below HI);obtain ⟨⟨g0,g1,g2⟩,Hg⟩:=Ht.2 j hjt;have g0:=hle.cell _ _ _ g0;have g1:=hle.cell _ _ _ g1;have c0:wr.cell? ⟨cb,co+j*6,none⟩=some (.string (ct xc j).nm):=by
      have:=(Hc.2 j (by have:=HD.out;omega)).1 0 (by decide)
      exact hle.cell _ _ _ this
     have Hs:=qI Hg;obtain ⟨ia,ic,H2,_⟩:=id Hg;rw [H2] at g1 Hs;have Hk:iA ⟨⟨xn,xp,xc⟩,xg⟩ j=⟨xn,(ct xc j).nm,((gv xg j).cp:Int),(gv xg j).dv⟩:=rfl;have HG:=qI Hk;have hF:cb<wr.heap.size:=Q3 _ ⟨cb,co+j*6,none⟩ c0;have hC:cb<w.heap.size:=Q1 Hc.1 HL.out.size;clear Ht Hc Hg H2 Hk Hu HI hle;generalize (gv xg j).cp=cp at *;generalize (gv xg j).dv=xs at *;generalize (ct xc j).nm=cn at *;have hh:=(H4.out.block Bh (by omega) (by omega)).trans HH.out;have H9:=qI hh;have z0:wr.cell? ⟨Bh,0,none⟩=some (.string xn):=ad hh 0;have z2:wr.cell? ⟨Bh,2,none⟩=some (.slice (some ⟨cb,co,none⟩) xc.length cc):=ad hh 2;clear hh;have HY:(j:Int)<(xg.length:Int):=by omega
     have hJ:(j:Int)<(xc.length:Int):=by have:=HD.out;omega
     have HQ:=qI ((Q0 wr.heap.size wr).alloc (lR) (fK cp ia xs.length ic));have Hx:=qI (show bS w.heap.size (wr.alloc (fK cp ia xs.length ic)).drew (.slice va zq.length vc) (zq.map Prod.fst) from Hi.out.alloc _);have H3:(wr.alloc (fK cp ia xs.length ic)).heap.size=wr.heap.size+1:=by simp
     have HS:Hid ((wr.alloc (fK cp ia xs.length ic)).drew.cell? ⟨Bh,0,none⟩=some (.string xn)/\(wr.alloc (fK cp ia xs.length ic)).drew.cell? ⟨Bh,2,none⟩=some (.slice (some ⟨cb,co,none⟩) xc.length cc)/\(wr.alloc (fK cp ia xs.length ic)).drew.cell? ⟨cb,co+j*6,none⟩=some (.string cn)/\(wr.alloc (fK cp ia xs.length ic)).drew.cell? ⟨wr.heap.size,0,none⟩=some (.int .u64 cp)/\(wr.alloc (fK cp ia xs.length ic)).drew.cell? ⟨wr.heap.size,1,none⟩=some (.slice ia xs.length ic)):=
      ⟨(HQ.out.cell (p:=⟨Bh,0,none⟩) (by show Bh<wr.heap.size;omega)).trans z0,(HQ.out.cell (p:=⟨Bh,2,none⟩) (by show Bh<wr.heap.size;omega)).trans z2,(HQ.out.cell (p:=⟨cb,co+j*6,none⟩) (by show cb<wr.heap.size;omega)).trans c0,ad (W:=(wr.alloc (fK cp ia xs.length ic)).drew) (aF wr (fK cp ia xs.length ic) rfl) 0,ad (W:=(wr.alloc (fK cp ia xs.length ic)).drew) (aF wr (fK cp ia xs.length ic) rfl) 1⟩
     go_wp2_with fail
     generalize wr.alloc (fK cp ia xs.length ic)=Q at *;clear g0 g1 z0 z2 c0;generalize hBg:wr.heap.size=Bg at *;have hN:=rG Q.drew ⟨xn,cn,cp,ia,xs.length,ic⟩ 111;rw [show Q.drew.heap.size=Bg+1 from H3] at hN;have HN:=qI hN;clear hN;refine wp_region_held_drew (S:=sd Bh xn cb co xc.length cc j cn Bg cp ia xs.length ic) (by kernel_rfl) HS.out (λhQ=>?_);refine tk 0 ?_;refine tk 1 ?_;refine tk 2 ?_;refine tk 3 ?_;refine tk 4 ?_;refine tk 5 ?_;refine tk 6 ?_;refine tk 7 ?_;refine tk 8 ?_;refine tk 9 ?_;refine tk 10 ?_;refine tk 11 ?_;refine tk 12 ?_;refine tk 13 ?_;refine tk 14 ?_;refine tk 15 ?_;have He:=(Q0 Q.drew.heap.size Q.drew).alloc (lR) (jK xn cn cp ia xs.length ic);have Hh:Hid ((sd Bh xn cb co xc.length cc j cn Bg cp ia xs.length ic) (Q.drew.alloc (jK xn cn cp ia xs.length ic))):=⟨(He.cell (p:=⟨Bh,0,none⟩) (by show Bh<Q.heap.size;omega)).trans HS.out.1,(He.cell (p:=⟨Bh,2,none⟩) (by show Bh<Q.heap.size;omega)).trans HS.out.2.1,(He.cell (p:=⟨cb,co+j*6,none⟩) (by show cb<Q.heap.size;omega)).trans HS.out.2.2.1,(He.cell (p:=⟨Bg,0,none⟩) (by show Bg<Q.heap.size;omega)).trans HS.out.2.2.2.1,(He.cell (p:=⟨Bg,1,none⟩) (by show Bg<Q.heap.size;omega)).trans HS.out.2.2.2.2⟩;have hL:=qI He;clear He;refine rd 16 (λK hK=>?_);go_simp
     go_wp2
     refine hK.out _ _ Hh.out (λhQ=>?_);clear hK K;refine rd 17 (λK hK=>?_);rw [if_pos (by rfl)];have hG:(zq.map Prod.fst).length<=400:=by rw [Q9];omega
     refine wp_append_own (o := { dst := some 39, op := Op.call { callee := Callee.builtin Builtin.append, args := #[Operand.tmp 22, Operand.tmp 38], argTypes := #[105, 105] }, type := 105, pos := "run.go:37", after := #[{ on := 0, ground := Ground.data }, { on := 16, ground := Ground.data }], guard := none }) _ _ _ 105 rfl w.heap.size 111 i0 (.agg #[.string ByteArray.empty, .string ByteArray.empty, .int .u64 0, .slice none 0 0]) 4 64 Tryz.underlying105 hi H8 hf hn rfl (by decide) (.slice va zq.length vc) _ _ rfl (Hx.out.alloc _) ⟨_, 0, none⟩ 1 1 (RV.cells ⟨xn, cn, cp, ia, xs.length, ic⟩) rfl rfl HN.out (yI _) (by unfold maxLen; omega) (by omega) (by show w.heap.size ≤ (Q.drew.alloc _).heap.size; rw [World.size_alloc]; show w.heap.size ≤ Q.heap.size + 1; omega) ?_
     intro v' W3 Hb Ha _;have HJ:∀ b,(Value.slice va zq.length vc).ownBlock=some b->w.heap.size<=b/\b≠Bh:=λb hb=>⟨(Hi.out.lt b hb).1,λe=>r9 Hi.out H9.out (by decide) (by rw [hb,e])⟩
     have hu:=qI (bS.push Hb);have hg:Hid (Apart (λb=>w.heap.size<=b/\b≠Bh) U W3):=(H4.out.trans (Apart.of_below ((show Below wr.heap.size wr Q from hBg ▸ HQ.out).trans (a6 ((Q0 wr.heap.size Q).alloc (by omega) _))))).trans (ey Ha (λb hb _=>HJ b hb));have Hr:some Bh≠(Value.slice va zq.length vc).ownBlock:=λe=>(HJ Bh e.symm).2 rfl
     have Hl:some Bg≠(Value.slice va zq.length vc).ownBlock:=λe=>by have:=(Hi.out.lt Bg e.symm).2;omega
     have HC:some cb≠(Value.slice va zq.length vc).ownBlock:=λe=>by have:=(HJ cb e.symm).1;omega
     have hI:(Q.alloc (jK xn cn cp ia xs.length ic)).drew.heap.size=Bg+2:=by show (Q.alloc _).heap.size=_;rw [World.size_alloc,H3]
     unfold jK at hI;have hE:=Ha.size;have HP:(sd Bh xn cb co xc.length cc j cn Bg cp ia xs.length ic) W3:=⟨(Ha.cell_far ⟨Bh,0,none⟩ (by show Bh<_;omega) Hr).trans Hh.out.1,(Ha.cell_far ⟨Bh,2,none⟩ (by show Bh<_;omega) Hr).trans Hh.out.2.1,(Ha.cell_far ⟨cb,co+j*6,none⟩ (by show cb<_;omega) HC).trans Hh.out.2.2.1,(Ha.cell_far ⟨Bg,0,none⟩ (by show Bg<_;omega) Hl).trans Hh.out.2.2.2.1,(Ha.cell_far ⟨Bg,1,none⟩ (by show Bg<_;omega) Hl).trans Hh.out.2.2.2.2⟩;refine hK.out _ _ HP (λhQ=>?_);clear hK K;(try simp only [Act.put,s1,s2,s3]);refine tk 18 ?_;refine Qn (by kernel_rfl) ?_ _;clear hQ Hb Ha HP
     go_wp2
     go_roundw
     case rel=>
      refine ⟨j+1,zq++[(⟨xn,cn,cp,ia,xs.length,ic⟩,⟨xn,cn,cp,xs⟩)],by omega,by go_num,?_,by rw [Qj];exact hu.out,λz hz=>?_,hg.out,by rw [Q2,hq.out];rfl⟩
      ·rw [Qj,H5.out,List.range_succ,Qj,List.append_assoc,List.map_singleton,List.map_singleton,HG.out]
      ·rcases Qi.1 hz with hz|hz
       ·exact Ho.out z hz
       ·rw [Qm.1 hz];exact ⟨rfl,rfl,rfl,Hs.out⟩
     case measure=>simp [intOf];omega
    ·have hA:j=xg.length:=by omega
     subst hA;have H7:Hid (zq.map Prod.snd=au (hs.take (k+1))):=by unfold Hid;rw [H5.out,HW.out]
     go_wp2
     go_roundw
     case rel=>exact ⟨k+1,zq,by omega,by go_num,H7.out,Hi.out,Ho.out,hw.out⟩
     case measure=>simp [intOf];omega
  ·have HV:k=hs.length:=by omega
   have HE:Hid (zs.map Prod.snd=au hs):=by unfold Hid;rw [HF.out,HV,Qh]
   clear HV
   go_wp2
   go_ret;exact ⟨_,zs,rfl,HE.out,Hp.out,HT.out,HB.out⟩
end
section
open RowKit Go.ChangeMaps Go.Maps Go.WideShapes
open Dvs (Dv dv)
open Qos (Nd nd)
theorem Kg {ns:List Nd} {k:Nat} (h:k<ns.length):Ol.dF (ns.take (k+1))=Ol.cK (Ol.dF (ns.take k)) (nd ns k).kind (some (nd ns k).many):=by
 unfold Ol.dF;rw [xZ h,List.foldl_append];rfl
theorem Kh {ds:List Dv} {l:List Int} {m:ByteArray->Option Int} {k:Nat} (h:k<l.length):(l.take (k+1)).foldl (Ol.cV ds) m=Ol.cV ds ((l.take k).foldl (Ol.cV ds) m) (l.getD k 0):=by
 rw [Qa h,List.foldl_append]
 simp [h]
def mX (f:ByteArray->Option Int) (k:Int):Prop:=∀ s v,f s=some v->-1000000 - k<=v/\v<=1000000
theorem yJ {f:ByteArray->Option Int} {k k':Int} (h:mX f k) (hk:k<=k') {s:ByteArray} {v:Option Int} (hv:∀ x,v=some x->-1000000 - k'<=x/\x<=1000000):mX (Ol.cK f s v) k':=by
 intro t x hx;unfold Ol.cK at hx
 split at hx
 ·exact hv x hx
 ·have:=h t x hx
  omega
theorem Ki (v1 v2 v3:Value) (g o:Nat) (ds:List Dv) (l:List Int) (ns:List Nd) (w:World) (h1:cO w v1 g o ds) (h2:bu w v2 l) (h3:bf w v3 ns) (hl:l.length<=1000) (hn:ns.length<=1000)
  (hin:∀ k,k<l.length->0<=l.getD k 0/\l.getD k 0<ds.length) (hdl:ds.length<=1000) (hk1:∀ k,k<ds.length->(dv ds k).kind.size<=1000) (hk2:∀ k,k<ns.length->(nd ns k).kind.size<=1000/\-1000000<=(nd ns k).many/\(nd ns k).many<=1000000) :
  Calls Tryz.prog 159 #[v1,v2,v3] w λe w'=>(∃ b,e=.returned (.bool b)/\(b=true↔Ol.gQ ds l ns))/\Below w.heap.size w w':=by
 obtain ⟨a1,c1,rfl,Ht⟩:=h1;obtain ⟨a2,c2,rfl,HE,Ho⟩:=h2;obtain ⟨a3,c3,rfl,HI,Hs⟩:=h3;have H1:=qI Ht;have H2:=qI Ho;have H3:=qI Hs;have HK:=qI hin;have HU:=qI hk1;have HH:=qI hk2;have Hr:=qI (eW.made w);have Hu:=qI ((Q0 w.heap.size w).alloc (lR) (.map #[] 0));have HW:=@run_makeMap Tryz.prog;clear Ht Ho Hs hin hk1 hk2 HE HI
 go_enter Tryz.func159,Tryz.ntmps159
 go_wp2
 go_loopw [16] (λi wr=>∃ k n:Nat,k<=ns.length/\n<=k/\i=.int .i64 k/\eW wr w.heap.size n (Ol.dF (ns.take k))/\mX (Ol.dF (ns.take k)) 0/\Below w.heap.size w wr) (λi _=>ns.length - (intOf i).toNat)
 case atStart=>exact ⟨0,0,by omega,by omega,rfl,Hr.out,(λ_ _ hx=>nomatch hx),Hu.out⟩
 case round=>
  obtain ⟨k,n,hk,H0,rfl,hM,hN,hB⟩:=hrel
  by_cases hlt:k<ns.length
  ·obtain ⟨b,ob,rfl,Hk,Hi⟩:=H3.out (by omega);obtain ⟨g0,g1⟩:=Hi k hlt;have c0:=(hB.cell (p:=⟨b,ob+k*2,none⟩) Hk).trans g0;have c1:=(hB.cell (p:=⟨b,ob+k*2+1,none⟩) Hk).trans g1;have He:=qI (Kg hlt);obtain ⟨HX,H4,H6⟩:=HH.out k hlt;have Hx:=qI (hB.alloc hB.size (.cells #[.string (nd ns k).kind,.int .i64 (nd ns k).many] 109));have HT:=hM.alloc (.cells #[.string (nd ns k).kind,.int .i64 (nd ns k).many] 109);have Hl:(wr.alloc (.cells #[.string (nd ns k).kind,.int .i64 (nd ns k).many] 109)).cell? ⟨wr.heap.size,0,none⟩=some (.string (nd ns k).kind):=by simp
   have Hm:(wr.alloc (.cells #[.string (nd ns k).kind,.int .i64 (nd ns k).many] 109)).cell? ⟨wr.heap.size,1,none⟩=some (.int .i64 (nd ns k).many):=by simp
   have HN:=qI hN;clear hM hB Hi g0 g1 hN;generalize nd ns k=x at *;generalize Ol.dF (ns.take k)=f at *;obtain ⟨D,ho,hS,hD⟩:=HT;have HD:=qI hD;have HS:=qI hS;have Hb:keyOf Tryz.prog 9 (.string x.kind)=some (.string x.kind.data.toList):=Go.WideMaps.keyOf_string_mk Tryz.underlying9 (by unfold maxLen;omega);have Hj:=qI (show (Lit.int .i64 x.many).wf=true from WalkArith.wf_i64 (by omega));clear hD hS
   go_wp2_with (at_mapUpdate;refine wpList_mapUpdate_own _ rfl _ _ _ 198 rfl 9 3 ix Tryz.underlying198 (plainElem Tryz.prog 3) w.heap.size n D rfl ho (by unfold maxLen;omega) _ _ _ rfl rfl Hb (.lit (.int .i64 x.many)) [] (plainElem_int Tryz.underlying3 Hj.out) ?_;intro w5 Hg Hc)
   go_roundw
   case rel=>
    refine ⟨k+1,n+1,by omega,by omega,by go_num,?_,?_,Hx.out.grown Hc Hx.out.size (λj hj=>by cases hj;exact lR)⟩
    ·rw [He.out];exact yw ho HS.out HD.out Hg
    ·rw [He.out];exact yJ HN.out (Int.le_refl _) (λy hy=>by cases hy;omega)
   case measure=>simp [intOf];omega
  ·have HO:k=ns.length:=by omega
   subst HO;rw [Qh] at hM hN;have HQ:=qI hM;have HP:=qI hB;have HF:=qI hN;clear hM hB hN Hr Hu
   go_wp2
   go_loopw [28] (λi wr=>∃ k n:Nat,k<=l.length/\n<=ns.length+k/\i=.int .i64 k/\eW wr w.heap.size n ((l.take k).foldl (Ol.cV ds) (Ol.dF ns))/\mX ((l.take k).foldl (Ol.cV ds) (Ol.dF ns)) (k:Int)/\Below w.heap.size w wr) (λi _=>l.length - (intOf i).toNat)
   case atStart=>exact ⟨0,n,by omega,by omega,rfl,HQ.out,HF.out,HP.out⟩
   case round=>
    obtain ⟨q,m,hq,H5,rfl,hM,hN,hB⟩:=hrel
    by_cases hqt:q<l.length
    ·obtain ⟨b,ob,rfl,Hk,Hi⟩:=H2.out (by omega);have c0:=(hB.cell (p:=⟨b,ob+q,none⟩) Hk).trans (Hi q hqt);have He:=qI (Kh (ds:=ds) (m:=Ol.dF ns) hqt);have HG:=HK.out q hqt;generalize l.getD q 0=x at *;obtain ⟨HR,HY⟩:=HG;obtain ⟨xn,rfl⟩:=Int.eq_ofNat_of_zero_le HR;have Hh:xn<ds.length:=by omega
     obtain ⟨ha,HC,Hw⟩:=H1.out (by omega);subst ha;have d0:=(hB.cell (p:=⟨g,o+xn*3,none⟩) HC).trans (Hw xn Hh).1;have HA:=HU.out xn Hh;have Hp:((xn:Int)).toNat=xn:=by omega
     have HL:Hid (∀ f,Ol.cV ds f (xn:Int)=Ol.cK f (dv ds xn).kind (if (f (dv ds xn).kind).getD 0 - 1=0 then none else some ((f (dv ds xn).kind).getD 0 - 1))):=λf=>by unfold Ol.cV;rw [Hp]
     have HB:=qI hB;have HN:=qI hN;clear Hi Hw hB hN Hp;generalize (dv ds xn).kind=kd at *;generalize (l.take q).foldl (Ol.cV ds) (Ol.dF ns)=f at *;obtain ⟨D,ho,hS,hD⟩:=hM;have HD:=qI hD;have HS:=qI hS;have Hy:=(hD kd).1;have HZ:-1000000 - (q:Int)<=(f kd).getD 0/\(f kd).getD 0<=1000000:=by
      cases hf:f kd with
      | none=>simp;omega
      | some y=>exact HN.out kd y hf
     generalize hv:(f kd).getD 0=vv at *;have HV:=qI hv;clear hv;have Hb:keyOf Tryz.prog 9 (.string kd)=some (.string kd.data.toList):=Go.WideMaps.keyOf_string_mk Tryz.underlying9 (by unfold maxLen;omega);have Hj:=qI (show (Lit.int .i64 (vv - 1)).wf=true from WalkArith.wf_i64 (by omega));have Hv:Hid (mX (Ol.cV ds f (xn:Int)) ((q+1:Nat):Int)):=by
      unfold Hid;rw [HL.out f];refine yJ HN.out (by omega) (λy hy=>?_);rw [HV.out] at hy
      split at hy
      ·cases hy
      ·cases hy;omega
     clear hD hS;have Hq:Hid (WideAt.IsKeyLit (Lit.string kd.data.toList)):=trivial
     by_cases h1:vv=1
     ·have hb:((vv - 1:Int) == 0)=true:=by rw [h1];rfl
      have Hn:Hid (Ol.cV ds f (xn:Int)=Ol.cK (Ol.cK f kd (some (vv - 1))) kd none):=by
       unfold Hid;rw [HL.out f,HV.out,if_pos (by omega)]
       funext s
       unfold Ol.cK
       split <;> rfl
      clear h1
      go_wp2_with (first|(at_lookup;refine wpList_lookup_own_int _ rfl _ _ 198 rfl 9 3 .i64 ix Tryz.underlying198 Tryz.underlying3 (mO _) w.heap.size _ _ rfl (by assumption) _ _ rfl Hb ?_;intro cc Ha _;(first|rw [Hy] at Ha|rw [Go.Maps.atKey_put_same ho.isMap Hq.out] at Ha);injection Ha with Ha;injection Ha with _ Ha;subst Ha)|(at_mapUpdate;refine wpList_mapUpdate_own _ rfl _ _ _ 198 rfl 9 3 ix Tryz.underlying198 (plainElem Tryz.prog 3) w.heap.size m D rfl ho (by unfold maxLen;omega) _ _ _ rfl rfl Hb (.lit (.int .i64 (vv - 1))) [] (plainElem_int Tryz.underlying3 Hj.out) ?_;intro w5 Hg Hc)|(at_delete;refine wpList_delete_own _ rfl _ _ 198 9 rfl 3 ix Tryz.underlying198 _ w.heap.size _ _ rfl Hg _ _ rfl Hb ?_;intro w6 Hz Hf))
      go_roundw
      case rel=>
       refine ⟨q+1,m+1,by omega,by omega,by go_num,?_,by rw [He.out];exact Hv.out,?_⟩
       ·rw [He.out,Hn.out];exact J8 Hg (yt HS.out) (yv ho HD.out) Hz
       ·exact (HB.out.grown Hc HB.out.size (λj hj=>by cases hj;exact lR)).grown Hf.grown (by have:=Hc.size;have:=HB.out.size;omega) (λj hj=>by cases hj;exact lR)
      case measure=>simp [intOf];omega
     ·have hb:((vv - 1:Int) == 0)=false:=Qr.2 (by omega);have Hn:Hid (Ol.cV ds f (xn:Int)=Ol.cK f kd (some (vv - 1))):=by
       unfold Hid;rw [HL.out f,HV.out,if_neg (by omega)]
      go_wp2_with (first|(at_lookup;refine wpList_lookup_own_int _ rfl _ _ 198 rfl 9 3 .i64 ix Tryz.underlying198 Tryz.underlying3 (mO _) w.heap.size _ _ rfl (by assumption) _ _ rfl Hb ?_;intro cc Ha _;(first|rw [Hy] at Ha|rw [Go.Maps.atKey_put_same ho.isMap Hq.out] at Ha);injection Ha with Ha;injection Ha with _ Ha;subst Ha)|(at_mapUpdate;refine wpList_mapUpdate_own _ rfl _ _ _ 198 rfl 9 3 ix Tryz.underlying198 (plainElem Tryz.prog 3) w.heap.size m D rfl ho (by unfold maxLen;omega) _ _ _ rfl rfl Hb (.lit (.int .i64 (vv - 1))) [] (plainElem_int Tryz.underlying3 Hj.out) ?_;intro w5 Hg Hc))
      go_roundw
      case rel=>
       refine ⟨q+1,m+1,by omega,by omega,by go_num,?_,by rw [He.out];exact Hv.out,?_⟩
       ·rw [He.out,Hn.out];exact yw ho HS.out HD.out Hg
       ·exact HB.out.grown Hc HB.out.size (λj hj=>by cases hj;exact lR)
      case measure=>simp [intOf];omega
    ·have HM:q=l.length:=by omega
     subst HM;rw [Qh] at hM;obtain ⟨D,ho,hS,hD⟩:=hM;have HB:=qI hB;have HJ:Hid ((Go.Maps.size D:Int)=0↔Ol.gQ ds l ns):=by
      unfold Hid
      have:=J9 hS hD
      constructor
      ·intro h;exact this.1 (by omega)
      ·intro h;have:=this.2 h;omega
     clear hS hD hB hN
     go_wp2_with (at_len;refine wpList_len_own _ rfl _ 198 rfl 9 3 Tryz.underlying198 _ w.heap.size m D rfl ho ?_)
     go_ret;exact ⟨⟨_,rfl,by rw [beq_iff_eq];exact HJ.out⟩,HB.out⟩
end
section
open RowKit Shelf
open Sv (Gv Hd gv hd aE)
structure bB (W:World) (Be Bd Bm n:Nat) (sn sk:Sd) (C:Rn->Prop):Prop where
 eng:ex W Be Bd Bm
 disk:aG W Bd sn sk (.slice none 0 0) (-1) false
 map:∃ xs,aZ W Bm n xs/\(∀ x∈xs,ew W x/\x.dn<=1000)/\∀ a,a∈xs.map (ak W)↔C a
theorem bB.congr {W:World} {Be Bd Bm n:Nat} {sn sk:Sd} {C C':Rn->Prop} (h:bB W Be Bd Bm n sn sk C) (hc:∀ a,C a↔C' a):bB W Be Bd Bm n sn sk C':=by
 obtain ⟨h1,h2,xs,h3,h4,h5⟩:=h;exact ⟨h1,h2,xs,h3,h4,λa=>(h5 a).trans (hc a)⟩
theorem bB.lt {W:World} {Be Bd Bm n:Nat} {sn sk:Sd} {C:Rn->Prop} (h:bB W Be Bd Bm n sn sk C):Be<W.heap.size/\Bd<W.heap.size/\Bm<W.heap.size:=by
 obtain ⟨h1,h2,xs,h3,_⟩:=h;exact ⟨h1.lt,h2.lt,h3.lt⟩
theorem bB.apart {W:World} {Be Bd Bm n:Nat} {sn sk:Sd} {C:Rn->Prop} (h:bB W Be Bd Bm n sn sk C):Be≠Bd/\Be≠Bm/\Bd≠Bm:=by
 obtain ⟨h1,h2,xs,h3,_⟩:=h;exact mT h1 h3 h2
theorem bB.below {W W':World} {Be Bd Bm n:Nat} {sn sk:Sd} {C:Rn->Prop} (h:bB W Be Bd Bm n sn sk C) (hb:Below W.heap.size W W'):bB W' Be Bd Bm n sn sk C:=by
 obtain ⟨h1,h2,xs,h3,h4,h5⟩:=h;obtain ⟨k1,k2⟩:=lw h4 (cG.below hb);exact ⟨h1.block (hb.block Be h1.lt),(hb.block Bd h2.lt).trans h2,xs,h3.block (hb.block Bm h3.lt),k1,λa=>by rw [k2];exact h5 a⟩
theorem yK {W:World} {xs:List RV} {p c:ByteArray}:(xs.any λy=>decide (y.pod=p/\y.cont=c))=true↔∃ a∈xs.map (ak W),iz a=(p,c):=by
 rw [List.any_eq_true];constructor
 ·rintro ⟨y,hy,h⟩;obtain ⟨h1,h2⟩:=of_decide_eq_true h;exact ⟨ak W y,Qk.2 ⟨y,hy,rfl⟩,by show (y.pod,y.cont)=(p,c);rw [h1,h2]⟩
 ·rintro ⟨a,ha,h⟩;obtain ⟨y,hy,rfl⟩:=Qk.1 ha;have e1:y.pod=p:=congrArg Prod.fst h;have e2:y.cont=c:=congrArg Prod.snd h;exact ⟨y,hy,Qc ⟨e1,e2⟩⟩
theorem Kj (Be Bd Bm n:Nat) (sn sk:Sd) (C:Rn->Prop) (p c:ByteArray) (W:World) (h:bB W Be Bd Bm n sn sk C) (hp:p.size<=7000) (hc:c.size<=7000) (hh:∃ a,C a/\iz a=(p,c)) :
  Calls Tryz.prog 104 #[.pointer (some ⟨Be,0,none⟩),.string p,.string c] W λe W'=>e=.returned .nilIface/\bB W' Be Bd Bm n sn sk (λa=>C a/\iz a≠(p,c))/\bd Bd Bm W W':=by
 obtain ⟨h1,h2,xs,h3,h4,h5⟩:=h;obtain ⟨He,Hf,_⟩:=mT h1 h3 h2;have Ha:(xs.any λy=>decide (y.pod=p/\y.cont=c))=true:=by
  obtain ⟨a,ha,hn⟩:=hh;exact yK.2 ⟨a,(h5 a).2 ha,hn⟩
 refine (Ke Be Bd Bm n sn sk (.slice none 0 0) xs p c (-1) false W h1 h3 h2 ⟨by decide,by decide⟩ hp hc).mono ?_;rw [Ha];rintro e W' ⟨rfl,hs⟩;refine ⟨rfl,⟨h1.block (hs.out.block Be h1.lt He Hf),hs.disk,_,hs.yes rfl,?_⟩,hs.out⟩;have hk:=hs.out.kint h2.notInt h3.notInt;obtain ⟨k1,k2⟩:=lw h4 hk;refine ⟨λx hx=>k1 x (List.mem_filter.1 hx).1,λa=>?_⟩;constructor
 ·intro ha;obtain ⟨x,hx,rfl⟩:=Qk.1 ha;obtain ⟨Hc,Hb⟩:=List.mem_filter.1 hx
  have:ak W' x∈xs.map (ak W):=by rw [<- k2];exact Qk.2 ⟨x,Hc,rfl⟩
  refine ⟨(h5 _).1 this,λen=>?_⟩;have e1:x.pod=p:=congrArg Prod.fst en;have e2:x.cont=c:=congrArg Prod.snd en;rw [Qc ⟨e1,e2⟩] at Hb;cases Hb
 ·rintro ⟨ha,hn⟩
  have:=(h5 a).2 ha
  rw [<- k2] at this;obtain ⟨x,hx,rfl⟩:=Qk.1 this;refine Qk.2 ⟨x,List.mem_filter.2 ⟨hx,?_⟩,rfl⟩;rw [Q7 λhh=>hn (by show (x.pod,x.cont)=(p,c);rw [hh.1,hh.2])];rfl
theorem Kk (Be Bd Bm n:Nat) (sn sk:Sd) (C:Rn->Prop) (x:RV) (W:World) (h:bB W Be Bd Bm n sn sk C) (hx:x.Short) (hdv:aS W x) (haw:ks Bd x) (hdn:x.dn<=1000) (hn:n<1000) (hno:∀ a,C a->iz a≠(x.pod,x.cont)) :
  Calls Tryz.prog 105 #[.pointer (some ⟨Be,0,none⟩),.agg #[.string x.pod,.string x.cont,.int .u64 x.cpus,.slice x.da x.dn x.dc]] W λe W'=>e=.returned .nilIface/\bB W' Be Bd Bm (n+1) sn sk (λa=>C a\/a=ak W x)/\bd Bd Bm W W':=by
 obtain ⟨h1,h2,xs,h3,h4,h5⟩:=h;obtain ⟨Hb,Hc,_⟩:=mT h1 h3 h2;have Ha:(xs.any λy=>decide (y.pod=x.pod/\y.cont=x.cont))=false:=by
  cases hb:(xs.any λy=>decide (y.pod=x.pod/\y.cont=x.cont)) with
  | false=>rfl
  | true=>
   obtain ⟨a,ha,e⟩:=(yK (W:=W)).1 hb;exact absurd e (hno a ((h5 a).1 ha))
 refine (J7 Be Bd Bm n sn sk (.slice none 0 0) xs x (-1) false W h1 h3 h2 ⟨by decide,by decide⟩ hx hdv haw hdn hn).mono ?_;rw [Ha];rintro e W' ⟨rfl,hs⟩;obtain ⟨a',c',hm,ho,hd⟩:=hs.yes rfl;refine ⟨rfl,⟨h1.block (hs.out.block Be h1.lt Hb Hc),hs.disk,_,hm,?_⟩,hs.out⟩;have hk:=hs.out.kint h2.notInt h3.notInt;obtain ⟨k1,k2⟩:=lw h4 hk;refine ⟨λy hy=>?_,λa=>?_⟩
 ·rcases List.mem_cons.1 hy with rfl|hy
  ·exact ⟨ho,hdn⟩
  ·exact k1 y hy
 ·rw [Qq,List.mem_cons,k2];have e:ak W' { x with da:=a',dc:=c' }=ak W x:=by unfold ak;rw [hd]
  rw [e];constructor
  ·rintro (ha|ha)
   ·exact .inr ha
   ·exact .inl ((h5 a).1 ha)
  ·rintro (ha|ha)
   ·exact .inr ((h5 a).2 ha)
   ·exact .inl ha
end
end Go.Proofs.YtbmmnflgnmjboaaGreatDoor
namespace Go.Proofs
open Go.Shelf
shelf_lay_g SlLaysH0.n8 Slgf 8 at Tryz 141 as Tryz.contR
end Go.Proofs
namespace Go.Proofs.YtbmmnflgnmjboaaGreatDoor
section
open RowKit Shelf
attribute [local go_sem] Oper.semAt_some
abbrev RVd (w:World):Type:={ y:RV // aS w y/\y.dn<=1000 }
instance (w:World):Inhabited (RVd w):=⟨⟨⟨ByteArray.empty,ByteArray.empty,0,none,0,0⟩,λh=>absurd h (Nat.lt_irrefl 0),Nat.zero_le _⟩⟩
theorem mY (W:World) (y:RV):(aH W y).length=y.dn:=by simp [aH]
theorem yL {W:World} {y:RV} (h:aS W y):0<(aH W y).length->∃ b o,y.da=some ⟨b,o,none⟩/\b<W.heap.size/\∀ k,k<(aH W y).length->W.cell? ⟨b,o+k,none⟩=some (.int .i64 ((aH W y).getD k 0)):=by
 rw [mY];intro h0;obtain ⟨g,o,ha,hg,hc⟩:=h h0;refine ⟨g,o,ha,hg,λk hk=>?_⟩;rw [hc k hk]
 simp [aH,hk]
theorem Kl (x y:RV) (w:World) (hx:aS w x/\x.dn<=1000) (hy:aS w y/\y.dn<=1000):Calls Tryz.prog 143 #[.slice x.da x.dn x.dc,.slice y.da y.dn y.dc] w λe w'=>e=.returned (.bool (decide (aH w x=aH w y)))/\∃ n,w'=w.drewN n:=by
 have:=Ka x.da y.da x.dc y.dc (aH w x) (aH w y) w (by rw [mY];exact hx.2) (by rw [mY];exact hy.2) (yL hx.1) (yL hy.1)
 rw [mY,mY] at this;exact this
def cZ (w:World) (x r:RV):Bool:=decide (x.pod=r.pod) && (decide (x.cont=r.cont) && (decide (x.cpus=r.cpus) && decide (aH w x=aH w r)))
theorem yM {w:World} {x r:RV}:cZ w x r=true↔ak w x=ak w r:=by
 unfold cZ ak
 simp
def bF (r:RV):Obj:=.cells #[.string r.pod,.string r.cont,.int .u64 r.cpus,.slice r.da r.dn r.dc] 111
theorem Km (r:RV) (B:Nat) (w:World) (hB:w.heap[B]?=some (bF r)) (hr:aS w r/\r.dn<=1000) :
  PredBelow Tryz.prog 142 #[.pointer (some ⟨B,0,none⟩)] (λx:RVd w=>.agg (RV.cells x.1).toArray) (λx=>cZ w x.1 r) w:=λW x hb=>by
 obtain ⟨x,hx⟩:=x;have He:B<w.heap.size:=(gS hB).1;have Ha:W.heap[B]?=some (bF r):=(hb.block B He).trans hB;unfold bF at Ha;have b0:(W.alloc (jK x.pod x.cont x.cpus x.da x.dn x.dc)).cell? ⟨B,0,none⟩=some (.string r.pod):=ad (bg Ha _) 0;have b1:(W.alloc (jK x.pod x.cont x.cpus x.da x.dn x.dc)).cell? ⟨B,1,none⟩=some (.string r.cont):=ad (bg Ha _) 1;have b2:(W.alloc (jK x.pod x.cont x.cpus x.da x.dn x.dc)).cell? ⟨B,2,none⟩=some (.int .u64 r.cpus):=ad (bg Ha _) 2;have b3:(W.alloc (jK x.pod x.cont x.cpus x.da x.dn x.dc)).cell? ⟨B,3,none⟩=some (.slice r.da r.dn r.dc):=ad (bg Ha _) 3;have Hf:B≠W.heap.size:=by have:=hb.size;omega
 have HB:=qI (hb.alloc hb.size (jK x.pod x.cont x.cpus x.da x.dn x.dc));have Hb:=hx.1.below HB.out (λ_ _ _ h=>h);have Hc:=hr.1.below HB.out (λ_ _ _ h=>h);have HE:=qI (Kl x r _ ⟨Hb.1,hx.2⟩ ⟨Hc.1,hr.2⟩);rw [Hb.2,Hc.2] at HE;have h1:=mg x.pod r.pod;have h2:=mg x.cont r.cont;have h3:(x.cpus == r.cpus)=decide (x.cpus=r.cpus):=by rw [Bool.eq_iff_iff];simp
 show Calls Tryz.prog 142 #[.agg #[.string x.pod,.string x.cont,.int .u64 x.cpus,.slice x.da x.dn x.dc],.pointer (some ⟨B,0,none⟩)] W λe w'=>e=.returned (.bool (cZ w x r))/\Below w.heap.size w w'
 unfold cZ;clear hb Ha Hb Hc hx hr hB
 rcases two (decide (x.pod=r.pod)) with g1|g1
 ·rw [g1] at h1 ⊢
  rcases two (decide (x.cont=r.cont)) with g2|g2
  ·rw [g2] at h2 ⊢
   rcases two (decide (x.cpus=r.cpus)) with g3|g3
   ·rw [g3] at h3 ⊢;clear g1 g2 g3;generalize decide (aH w x=aH w r)=bb at *
    go_enter Tryz.func142,Tryz.ntmps142
    go_wp2_with fail
    refine HE.out.mono ?_;rintro e w' ⟨rfl,nq,rfl⟩
    go_wp2
    go_ret;exact ⟨rfl,below_drewN HB.out nq⟩
   ·rw [g3] at h3 ⊢;clear g1 g2 g3
    go_enter Tryz.func142,Tryz.ntmps142
    go_wp2
    go_ret;exact ⟨rfl,HB.out⟩
  ·rw [g2] at h2 ⊢;clear g1 g2 h3
   go_enter Tryz.func142,Tryz.ntmps142
   go_wp2
   go_ret;exact ⟨rfl,HB.out⟩
 ·rw [g1] at h1 ⊢;clear g1 h2 h3
  go_enter Tryz.func142,Tryz.ntmps142
  go_wp2
  go_ret;exact ⟨rfl,HB.out⟩
theorem Kn (ys:List RV) (r:RV) (B g c:Nat) (w:World) (hB:w.heap[B]?=some (bF r)) (hr:aS w r/\r.dn<=1000) (hg:g<w.heap.size) (hys:∀ y∈ys,aS w y/\y.dn<=1000) (hc:∀ k,k<ys.length->∀ i v,(RV.cells (rv ys k))[i]?=some v->w.cell? ⟨g,0+k*4+i,none⟩=some v) (hl:ys.length<=1000) :
  Calls Tryz.prog 141 #[.slice (some ⟨g,0,none⟩) ys.length c,.func (.func 142) #[] #[.pointer (some ⟨B,0,none⟩)]] w λe w'=>e=.returned (.bool (ys.any λy=>cZ w y r))/\Below w.heap.size w w':=by
 have eg:∀ args w,(callFunc 142 args).run Tryz.prog w=.ok (.enter 142 args) w:=enters_of Tryz.func142 (by kernel_rfl) rfl;have Ha:(ys.attachWith (λy=>aS w y/\y.dn<=1000) hys).length=ys.length:=by simp
 have Hb:=AnyQ.slices_ContainsFunc Tryz.contR 4 Tryz.isAgg111 Tryz.sizeOf111 (λx:RVd w=>RV.cells x.1) (λ_=>rfl) (λx=>cZ w x.1 r) 142 #[.pointer (some ⟨B,0,none⟩)] eg g 0 ys.length c (ys.attachWith (λy=>aS w y/\y.dn<=1000) hys) w
  (Km r B w hB hr) (by rw [Ha];exact lR) (by omega) hg (λj hj i v hi=>by
   have Hc:j<ys.length:=by rw [<- Ha];exact hj
   refine hc j Hc i v ?_;have e:(ys.attachWith (λy=>aS w y/\y.dn<=1000) hys)[j]! = (⟨rv ys j,hys _ (kt Hc)⟩:RVd w):=by
    rw [getElem!_pos _ j hj];apply Subtype.ext
    simp [rv,Hc]
   rw [e] at hi;exact hi)
 have e2:(((ys.attachWith (λy=>aS w y/\y.dn<=1000) hys).take ys.length).any λx=>cZ w x.1 r)=ys.any λy=>cZ w y r:=by
  rw [List.take_of_length_le (by rw [Ha];exact lR)]
  have:ys=(ys.attachWith (λy=>aS w y/\y.dn<=1000) hys).map Subtype.val:=by simp
  conv=>rhs;rw [this,List.any_map]
  rfl
 change Calls Tryz.prog 141 _ _ _ at Hb
 rw [<- e2];exact Hb
theorem index_none (a:Option Addr) (c g:Nat) (f:Array Value) (w:World):Calls Tryz.prog 181 #[.slice a 0 c,.func (.func g) #[] f] w λe w'=>e=.returned (.int .i64 (-1))/\w'=w:=by
 go_enter Tryz.func181,Tryz.ntmps181
 go_wp2
 go_loopw [8] (λi wr=>i=.int .i64 0/\wr=w) (λ_ _=>0)
 case atStart=>exact ⟨rfl,rfl⟩
 case round=>
  obtain ⟨rfl,rfl⟩:=hrel
  go_wp2
  go_ret;exact ⟨rfl,rfl⟩
theorem Ko (a:Option Addr) (c g:Nat) (f:Array Value) (w:World):Calls Tryz.prog 141 #[.slice a 0 c,.func (.func g) #[] f] w λe w'=>e=.returned (.bool false)/\w'=w:=by
 have HI:=qI (index_none a c g f w)
 go_enter Tryz.func141,Tryz.ntmps141
 go_wp2_with fail
 refine HI.out.mono ?_;rintro e w' ⟨rfl,rfl⟩
 go_wp2
 go_ret;exact ⟨rfl,rfl⟩
theorem Kp {w:World} {g k:Nat} {x:RV} (h:gk w g k x):∀ i v,(RV.cells x)[i]?=some v->w.cell? ⟨g,0+k*4+i,none⟩=some v:=by
 intro i v hv;rw [Qd]
 match i,hv with
 | 0,hv=>simp [RV.cells] at hv;subst hv;exact h.1.1
 | 1,hv=>simp [RV.cells] at hv;subst hv;exact h.1.2.1
 | 2,hv=>simp [RV.cells] at hv;subst hv;exact h.1.2.2.1
 | 3,hv=>simp [RV.cells] at hv;subst hv;exact h.1.2.2.2
 | n+4,hv=>simp [RV.cells] at hv
theorem gk.alloc {w:World} {g k:Nat} {x:RV} (h:gk w g k x) (hg:g<w.heap.size) (o:Obj):gk (w.alloc o) g k x:=by
 have hb:(w.alloc o).heap[g]?=w.heap[g]?:=Below.heap_alloc _ _ _ hg;obtain ⟨⟨a,b,c,d⟩,e,f,g2,i⟩:=h;have cc:∀ j,(w.alloc o).cell? ⟨g,j,none⟩=w.cell? ⟨g,j,none⟩:=λj=>World.cell?_of_block (a:=⟨g,j,none⟩) hb
 have ff:∀ j,(w.alloc o).frozen? ⟨g,j,none⟩=w.frozen? ⟨g,j,none⟩:=λj=>by simp [World.frozen?,hb]
 exact ⟨⟨by rw [cc];exact a,by rw [cc];exact b,by rw [cc];exact c,by rw [cc];exact d⟩,by rw [ff];exact e,by rw [ff];exact f,by rw [ff];exact g2,by rw [ff];exact i⟩
theorem yN (v:Value) (ys:List RV) (r:RV) (base:Nat) (w:World) (hv:i6 base w v ys) (hys:∀ y∈ys,aS w y/\y.dn<=1000) (hr:aS w r/\r.dn<=1000) (hl:ys.length<=1000) :
  Calls Tryz.prog 103 #[v,.agg #[.string r.pod,.string r.cont,.int .u64 r.cpus,.slice r.da r.dn r.dc]] w λe w'=>e=.returned (.bool (ys.any λy=>cZ w y r))/\Below w.heap.size w w':=by
 have HB:=qI ((Q0 w.heap.size w).alloc (lR) (bF r));have Ha:∀ y,aS w y->aS (w.alloc (bF r)) y/\aH (w.alloc (bF r)) y=aH w y:=λy hy=>hy.below HB.out (λ_ _ _ h=>h)
 have Hc:=Ha r hr.1;have He:Hid ((w.alloc (bF r)).heap[w.heap.size]?=some (bF r)):=aF w (bF r) rfl;obtain ⟨a,c,rfl,Hi,Hb⟩:=hv;have HC:Hid (Calls Tryz.prog 141 #[.slice a ys.length c,.func (.func 142) #[] #[.pointer (some ⟨w.heap.size,0,none⟩)]] (w.alloc (bF r)) λe w'=>e=.returned (.bool (ys.any λy=>cZ w y r))/\Below w.heap.size w w'):=by
  unfold Hid
  by_cases h0:0<ys.length
  ·obtain ⟨g,rfl,Hj,Hh,Hg⟩:=Hb h0;have Hf:g<(w.alloc (bF r)).heap.size:=by simp;omega
   refine (Kn ys r w.heap.size g c (w.alloc (bF r)) He.out ⟨Hc.1,hr.2⟩ Hf (λy hy=>⟨(Ha y (hys y hy).1).1,(hys y hy).2⟩) (λk hk=>Kp ((Hg k hk).alloc Hh _)) hl).mono ?_;rintro e w' ⟨rfl,hb⟩;refine ⟨?_,HB.out.trans (hb.mono HB.out.size)⟩;have e2:(ys.any λy=>cZ (w.alloc (bF r)) y r)=ys.any λy=>cZ w y r:=by
    have ht:∀ y∈ys,cZ (w.alloc (bF r)) y r=cZ w y r:=λy hy=>by unfold cZ;rw [(Ha y (hys y hy).1).2,Hc.2]
    rw [Bool.eq_iff_iff,List.any_eq_true,List.any_eq_true];constructor
    ·rintro ⟨y,hy,h⟩;exact ⟨y,hy,by rw [<- ht y hy];exact h⟩
    ·rintro ⟨y,hy,h⟩;exact ⟨y,hy,by rw [ht y hy];exact h⟩
   rw [e2]
  ·have e0:ys=[]:=List.length_eq_zero_iff.1 (by omega);subst e0;refine (Ko a c _ _ (w.alloc (bF r))).mono ?_;rintro e w' ⟨rfl,rfl⟩;exact ⟨rfl,HB.out⟩
 unfold bF at HC;clear Hc Ha Hb He HB hys hr;generalize (ys.any λy=>cZ w y r)=bb at *
 go_enter Tryz.func103,Tryz.ntmps103
 go_wp2_with fail
 refine HC.out.mono ?_;rintro e w' ⟨rfl,hb⟩
 go_wp2
 go_ret;exact ⟨rfl,hb⟩
end
section
open RowKit Shelf
attribute [local go_sem] Oper.semAt_some
theorem yO {a b:ByteArray} (h:a≠b):(a.toList == b.toList)=false:=by
 rw [Qr];intro e;rw [Qs,Qs] at e;exact h (ByteArray.ext (Array.toList_inj.1 e))
theorem yP {w:World} {x:RV} (h:aS w x):qU w x.da (aH w x)/\(aH w x).length=x.dn:=by
 have hl:(aH w x).length=x.dn:=by simp [aH]
 refine ⟨λh0=>?_,hl⟩;obtain ⟨g,o,ha,hg,hc⟩:=h (by omega);refine ⟨g,o,ha,hg,λk hk=>?_⟩;have hk':k<x.dn:=by omega
 rw [hc k hk']
 simp [aH,hk']
theorem Kq (x y:RV) (w:World) (hx:aS w x) (hy:aS w y) (lx:x.dn<=1000) (ly:y.dn<=1000) :
  Calls Tryz.prog 40 #[.agg #[.string x.pod,.string x.cont,.int .u64 x.cpus,.slice x.da x.dn x.dc],.agg #[.string y.pod,.string y.cont,.int .u64 y.cpus,.slice y.da y.dn y.dc]] w (vS (ak w x=ak w y) w):=by
 obtain ⟨O1,Hl⟩:∃ o:Obj,o=.cells #[.string x.pod,.string x.cont,.int .u64 x.cpus,.slice x.da x.dn x.dc] 111:=⟨_,rfl⟩;obtain ⟨O2,Hk⟩:∃ o:Obj,o=.cells #[.string y.pod,.string y.cont,.int .u64 y.cpus,.slice y.da y.dn y.dc] 111:=⟨_,rfl⟩;have Hh:=(Q0 w.heap.size w).alloc (lR) O1;have Hc:=Hh.alloc Hh.size O2;obtain ⟨p1,p2⟩:=hx.below Hc (λ_ _ _ h=>h);obtain ⟨q1,q2⟩:=hy.below Hc (λ_ _ _ h=>h);obtain ⟨p3,p4⟩:=yP p1;obtain ⟨q3,q4⟩:=yP q1;have Hi:=Fx x.da y.da x.dc y.dc _ _ _ (by rw [p4];unfold maxLen;omega) (by rw [q4];unfold maxLen;omega) p3 q3;rw [p4,q4,p2,q2] at Hi;have Hg:=qI Hc;have He:=qI Hi;have Hf:Hid (ak w x=ak w y->x.pod=y.pod/\x.cont=y.cont/\x.cpus=y.cpus/\aH w x=aH w y):=λe=>by
  unfold ak at e;simp only [Rn.mk.injEq] at e;exact e
 subst Hl Hk;clear Hh Hc p1 p2 q1 q2 p3 p4 q3 q4 Hi hx hy lx ly;generalize ak w x=ax at *;generalize ak w y=ay at *;generalize aH w x=dx at *;generalize aH w y=dy at *;obtain ⟨xp,xc,xu,xa,xn,xk⟩:=x;obtain ⟨yp,yc,yu,ya,yn,yk⟩:=y;dsimp only at *;have fin:∀ (c:Bool) (w3:World),Below w.heap.size w w3->(¬ ax=ay\/c=true)->vS (ax=ay) w (.returned (.bool c)) w3:=λc w3 hb h=>⟨c,rfl,λe=>h.elim (λk=>absurd e k) id,hb⟩
 have FIN:=qI fin;clear fin
 by_cases h1:xp=yp
 ·subst h1
  by_cases h2:xc=yc
  ·subst h2
   by_cases h3:xu=yu
   ·subst h3
    go_enter Tryz.func40,Tryz.ntmps40
    go_wp2_with fail
    refine He.out.mono ?_;rintro e w3 ⟨b,rfl,Hb,n3,rfl⟩;have Ha:=qI (below_drewN Hg.out n3);have Hj:=qI Hb;clear Hb
    rcases two b with rfl|rfl
    ·go_wp2
     go_ret;exact FIN.out _ _ Ha.out (.inr rfl)
    ·go_wp2
     go_ret;exact FIN.out _ _ Ha.out (.inl λe=>by cases Hj.out (Hf.out e).2.2.2)
   ·have HN:=qI h3;have Hm:(xu == yu)=false:=by simpa using h3
    clear h3
    go_enter Tryz.func40,Tryz.ntmps40
    go_wp2_with fail
    refine He.out.mono ?_;rintro e w3 ⟨b,rfl,Hb,n3,rfl⟩;have Ha:=qI (below_drewN Hg.out n3);clear Hb
    go_wp2
    go_ret;exact FIN.out _ _ Ha.out (.inl λe=>HN.out ((Hf.out e).2.2.1))
  ·have HN:=qI h2;have Hc:=yO h2;clear h2
   go_enter Tryz.func40,Tryz.ntmps40
   go_wp2_with fail
   refine He.out.mono ?_;rintro e w3 ⟨b,rfl,Hb,n3,rfl⟩;have Ha:=qI (below_drewN Hg.out n3);clear Hb
   go_wp2
   go_ret;exact FIN.out _ _ Ha.out (.inl λe=>HN.out ((Hf.out e).2.1))
 ·have HN:=qI h1;have Hh:=yO h1;clear h1
  go_enter Tryz.func40,Tryz.ntmps40
  go_wp2_with fail
  refine He.out.mono ?_;rintro e w3 ⟨b,rfl,Hb,n3,rfl⟩;have Ha:=qI (below_drewN Hg.out n3);clear Hb
  go_wp2
  go_ret;exact FIN.out _ _ Ha.out (.inl λe=>HN.out ((Hf.out e).1))
end
section
open RowKit Shelf
open Qos (Nd Ct Pd nd ct pd)
open Sv (Gv Hd gv hd aE)
attribute [local go_sem] Oper.semAt_some
theorem gk.blockO {w w':World} {g k:Nat} {x:RV} (h:gk w g k x) (hb:w'.heap[g]?=w.heap[g]?):gk w' g k x:=by
 obtain ⟨⟨a,b,c,d⟩,e,f,g2,i⟩:=h;have cc:∀ j,w'.cell? ⟨g,j,none⟩=w.cell? ⟨g,j,none⟩:=λj=>World.cell?_of_block (a:=⟨g,j,none⟩) hb
 have ff:∀ j,w'.frozen? ⟨g,j,none⟩=w.frozen? ⟨g,j,none⟩:=λj=>by simp [World.frozen?,hb]
 exact ⟨⟨by rw [cc];exact a,by rw [cc];exact b,by rw [cc];exact c,by rw [cc];exact d⟩,by rw [ff];exact e,by rw [ff];exact f,by rw [ff];exact g2,by rw [ff];exact i⟩
theorem ku {base:Nat} {W W':World} {v:Value} {ys:List RV} (h:i6 base W v ys) (hk:∀ j,base<=j->j<W.heap.size->W'.heap[j]?=W.heap[j]?) (hs:W.heap.size<=W'.heap.size):i6 base W' v ys:=by
 obtain ⟨a,c,hv,Ha,hr⟩:=h;refine ⟨a,c,hv,Ha,λh0=>?_⟩;obtain ⟨g,ha,hg,hl,hc⟩:=hr h0;exact ⟨g,ha,hg,Q1 hl hs,λk hk2=>(hc k hk2).blockO (hk g hg hl)⟩
theorem yQ {base:Nat} {w:World} {v:Value} {ys:List RV} (h:bS base w v ys):i6 base w v ys:=by
 have h':=h
 rcases h.2 with ⟨hv,hn⟩|⟨g,cap,cur,hv,hg,Ha,Hb,Hc,_⟩
 ·exact ⟨none,0,by rw [hv,hn],by omega,λh0=>by omega⟩
 ·subst hv;refine ⟨_,cap,rfl,Hb,λ_=>⟨g,rfl,hg,(gS Ha).1,λk hk=>?_⟩⟩;have fz:∀ j,w.frozen? ⟨g,j,none⟩=false:=λj=>by simp [World.frozen?,Ha]
  have cc:∀ j,j<4->w.cell? ⟨g,k*4+j,none⟩=(RV.cells (rv ys k))[j]?:=λj hj=>by
   rw [World.ownsRow.cellAt h' (k*4+j) (by omega)];exact yl ys k hk j hj
  exact ⟨⟨cc 0 (by decide),cc 1 (by decide),cc 2 (by decide),cc 3 (by decide)⟩,fz _,fz _,fz _,fz _⟩
theorem yR {W W':World} {y:RV} (h:aS W y) (hf:∀ g o,0<y.dn->y.da=some ⟨g,o,none⟩->W'.heap[g]?=W.heap[g]?) (hs:W.heap.size<=W'.heap.size):aS W' y/\aH W' y=aH W y:=by
 by_cases h0:0<y.dn
 ·exact mR h (λg o ha _=>hf g o h0 ha) hs
 ·refine ⟨λh1=>absurd h1 h0,?_⟩
  have:y.dn=0:=by omega
  simp [aH,this]
abbrev gr (Bd Bm:Nat):Nat->Prop:=λb=>b=Bd\/b=Bm
theorem Kr {Bd Bm:Nat} {W W':World} (h:bd Bd Bm W W'):az (ah (gr Bd Bm) W) (ah (gr Bd Bm) W'):=
 bn (λj hj hn=>⟨hn,h.block j hj (λe=>hn (.inl e)) (λe=>hn (.inr e))⟩) h.size
theorem zed {Bd Bm:Nat} {w W:World} {z:RV × Rn} (h:iB (ah (gr Bd Bm) w) z) (ho:bd Bd Bm w W):aS W z.1/\ak W z.1=z.2/\ks Bd z.1/\z.1.dn=z.2.devs.length:=by
 obtain ⟨h1,h2,h3,h4⟩:=h;have h5:=h4.le (Kr ho);obtain ⟨d1,d2,d3⟩:=rZ (h5.le (cB _ _));refine ⟨d1,?_,?_,d3⟩
 ·unfold ak;rw [h1,h2,h3,d2]
 ·intro h0 g o ha e;obtain ⟨d1,_,_⟩:=rZ h5;obtain ⟨g2,o2,Ha,_,hc⟩:=d1 h0;rw [ha] at Ha;injection Ha with Ha
  injection Ha with e1 e2
  subst e1;exact dU (hc 0 h0) (.inl e)
theorem yS {W:World} {ys:List RV} {r:RV}:(ys.any λy=>cZ W y r)=true↔ak W r∈ys.map (ak W):=by
 rw [List.any_eq_true,Qk];constructor
 ·rintro ⟨y,hy,h⟩;exact ⟨y,hy,yM.1 h⟩
 ·rintro ⟨y,hy,h⟩;exact ⟨y,hy,yM.2 h⟩
open Classical in
noncomputable def dJ (rs ws:List Rn):Nat:=(ws.filter λr=>decide (r ∉ rs)).length
theorem yT (rs ws:List Rn):dJ rs ws<=ws.length:=List.length_filter_le _ _
theorem Ks {rs ws:List Rn} {k:Nat} (h:k<ws.length):dJ rs (ws.take k)<=dJ rs (ws.take (k+1))/\(ws[k] ∉ rs->dJ rs (ws.take (k+1))=dJ rs (ws.take k)+1):=by
 unfold dJ;rw [Qa h,List.filter_append,Q2];refine ⟨Nat.le_add_right _ _,λhn=>?_⟩
 simp [hn]
theorem se (Be Bd Bm n:Nat) (sn sk:Sd) (rs:List Rn) (v:Value) (hs:List Hd) (w:World) (hE:bB w Be Bd Bm n sn sk (λa=>a∈rs)) (hH:aQ (ah (gr Bd Bm) w) v hs) (hF:aE hs=0) (hn:n+36<=1000) :
  Calls Tryz.prog 57 #[.pointer (some ⟨Be,0,none⟩),v] w λe w'=>e=.returned .nilIface/\(∃ n',n'<=n+dJ rs (au hs)/\bB w' Be Bd Bm n' sn sk (λa=>a∈au hs))/\bd Bd Bm w w':=by
 obtain ⟨h3,hT,h4⟩:=hE.lt;obtain ⟨hW,hZ,h7⟩:=hE.apart;have HE:=qI hE;have hr:=qI (yC hF);have hC:=qI (rY hF);have H9:=qI (yD hF);obtain ⟨f1,f2,_⟩:=Ol.bY.1 hF;have HM:=qI (λ(W:World) (l:az (ah (gr Bd Bm) w) W)=>Kf v hs W _ hH l (by omega) (λx hx=>⟨(f2 x hx).2.1,by have:=(Sv.fE (f2 x hx).1).2.2.1;have:=(f2 x hx).2.1;omega⟩));obtain ⟨he,hd,xs,hm,HS,H7⟩:=hE;have hv:xs.length<=1000:=by
  obtain ⟨_,es,ho,hp⟩:=hm;have h1:=ho.size_le;have h2:=hp.length_eq;unfold iW at h2;rw [Q9] at h2;rw [Go.Maps.size_eq] at h1;omega
 have Hs:=qI (yy Be Bd Bm n xs w he hm hv (λx hx=>⟨(HS x hx).1.1,(HS x hx).2⟩));have hq:=qI H7;have hD:=qI hm.1;have HK:=qI (yE (W:=w) hm.keys);obtain ⟨ao,c,rfl,_,_⟩:=hH;clear hF f1 f2 he hd hm HS H7
 go_enter Tryz.func57,Tryz.ntmps57
 go_wp2_with fail
 refine Hs.out.mono ?_;rintro e W1 ⟨⟨v1,ys,rfl,hi,hh,Hc,_⟩,Hu⟩;have hY:=qI Hu;clear Hs
 go_wp2_with fail
 refine (HM.out W1 ((cB _ _).trans (az.of_below Hu))).mono ?_;rintro e W2 ⟨v2,zs,rfl,hz,hf,hg,Hx⟩;clear HM;have hU:=Hu.size;have h6:=Hx.size;have hN:=qI (Hu.trans (Hx.mono Hu.size));have HR:=qI (bd.of_below (B1:=Bd) (B2:=Bm) (Hu.trans (Hx.mono Hu.size)));have H4:=qI (ku hi (λj _ hj=>Hx.block j hj) Hx.size);have H0:=qI (yQ hf);have HX:Hid (∀ y∈ys,((aS W2 y/\y.dn<=1000)/\iy w.heap.size y)/\ak W2 y=ak W1 y):=λy hy=>by
  obtain ⟨⟨d1,d2⟩,d3⟩:=hh y hy;obtain ⟨e1,e2⟩:=d1.below Hx (λ_ _ _ h=>h);exact ⟨⟨⟨e1,d2⟩,d3⟩,by unfold ak;rw [e2]⟩
 have Hm:ys.map (ak W2)=ys.map (ak W1):=List.map_congr_left λy hy=>(HX.out y hy).2
 have HO:Hid (∀ a,a∈ys.map (ak W2)↔a∈rs):=λa=>by rw [Hm,Hc.mem_iff];exact hq.out a
 have hP:Hid (((ys.map (ak W2)).map iz).Nodup):=by unfold Hid;rw [Hm];exact (Hc.map iz).nodup_iff.2 HK.out
 have hX:ys.length<=1000:=by
  have:=Hc.length_eq
  rw [Q9,Q9] at this;omega
 have hO:Hid (∀ y∈ys,y.Short):=λy hy=>by
  have h1:ak W1 y∈xs.map (ak w):=Hc.mem_iff.1 (Qk.2 ⟨y,hy,rfl⟩);obtain ⟨x,hx,e⟩:=Qk.1 h1
  have:=hD.out x hx
  have e1:x.pod=y.pod:=congrArg Rn.pod e;have e2:x.cont=y.cont:=congrArg Rn.cont e;unfold RV.Short at *;rw [<- e1,<- e2];exact this
 have HZ:=qI hz;have HI:=qI hg;have hV:zs.length<=36:=by
  have:=hC.out
  rw [<- hz,Q9] at this;exact this
 have hJ:=qI (HE.out.below hN.out);clear hi hh Hc Hu Hx hz hf hg Hm HK hq;obtain ⟨a1,c1,hu,_,_⟩:=id H4.out;subst hu;obtain ⟨a2,c2,hc,_,_⟩:=id H0.out;rw [Q9] at hc;subst hc
 go_wp2
 go_loopw [19] (λi wr=>∃ k:Nat,k<=ys.length/\i=.int .i64 k/\bB wr Be Bd Bm n sn sk (λa=>a∈ys.map (ak W2)/\(a∈au hs\/a∈(ys.map (ak W2)).drop k))/\bd Bd Bm W2 wr) (λi _=>ys.length - (intOf i).toNat)
 case atStart=>exact ⟨0,by omega,rfl,hJ.out.congr (λa=>by rw [List.drop_zero,HO.out a];exact ⟨λh=>⟨h,.inr h⟩,λh=>h.1⟩),bd.refl _ _ _⟩
 case round=>
  obtain ⟨k,hk,rfl,HG,Ha⟩:=hrel;have Hr:=qI HG;have HD:=qI Ha;have hB:=Ha.size;clear HG
  by_cases hlt:k<ys.length
  ·have HU:=ku H4.out (W':=wr) (λj hj hjl=>Ha.block j hjl (by omega) (by omega)) Ha.size;obtain ⟨a1',c1',HY,_,Hj⟩:=HU;injection HY with e1 e2 e3
   subst e1 e3;obtain ⟨g,rfl,hw,hM,HN⟩:=Hj (by omega);obtain ⟨⟨x0,x1,x2,x3⟩,_⟩:=HN k hlt;have HA:=kt hlt;obtain ⟨⟨⟨d1,d2⟩,d3⟩,_⟩:=HX.out _ HA;obtain ⟨ht,hS⟩:=hO.out _ HA;have Hv:(ys.map (ak W2))[k]'(by rw [Q9];exact hlt)=ak W2 (rv ys k):=by simp [rv,hlt]
   obtain ⟨d4,d5⟩:=yR (W':=wr) d1 (λgg oo h0 ha=>by
    obtain ⟨g2,Hh,hI⟩:=d3 h0;rw [ha] at Hh;injection Hh with Hh
    injection Hh with Hh
    subst Hh;obtain ⟨g4,o4,Hg,HT,_⟩:=d1 h0;rw [ha] at Hg;injection Hg with Hg
    injection Hg with Hg
    subst Hg;exact Ha.block _ HT (by omega) (by omega)) Ha.size
   have Hf:=qI ((Q0 wr.heap.size wr).alloc (lR) (bF (rv ys k)));obtain ⟨d6,d7⟩:=d4.below Hf.out (λ_ _ _ h=>h);have Hy:Hid (ak (wr.alloc (bF (rv ys k))) (rv ys k)=ak W2 (rv ys k)):=by unfold Hid ak;rw [d7,d5]
   have Hz:=qI ((HR.out.trans Ha).trans (bd.of_below Hf.out));have He:=qI (yN (.slice a2 zs.length c2) (zs.map Prod.fst) (rv ys k) W1.heap.size (wr.alloc (bF (rv ys k))) (ku (ku H0.out (λj hj hjl=>Ha.block j hjl (by omega) (by omega)) Ha.size) (λj _ hjl=>Hf.out.block j hjl) Hf.out.size) (λy hy=>by
    obtain ⟨z,hz,rfl⟩:=Qk.1 hy;obtain ⟨q1,_,_,q4⟩:=zed (HI.out z hz) Hz.out
    have:=(H9.out z.2 (by rw [<- HZ.out];exact Qk.2 ⟨z,hz,rfl⟩)).2.2
    exact ⟨q1,by omega⟩) ⟨d6,d2⟩ (by rw [Q9];omega))
   have Hb:Hid ((((zs.map Prod.fst).any λy=>cZ (wr.alloc (bF (rv ys k))) y (rv ys k))=true)↔(ys.map (ak W2))[k]'(by rw [Q9];exact hlt)∈au hs):=by
    unfold Hid;rw [yS,Hy.out,Hv,List.map_map];have e:zs.map (ak (wr.alloc (bF (rv ys k))) ∘ Prod.fst)=au hs:=by
     rw [<- HZ.out];exact List.map_congr_left λz hz=>(zed (HI.out z hz) Hz.out).2.1
    rw [e]
   have Hi:Hid ((wr.alloc (bF (rv ys k))).heap[wr.heap.size]?=some (bF (rv ys k))):=aF wr (bF (rv ys k)) rfl;have Hp:k<(ys.map (ak W2)).length:=by rw [Q9];exact hlt
   have HF:=qI Hv;have hL:(k:Int)<(ys.length:Int):=by omega
   have HP:(wr.alloc (bF (rv ys k))).heap.size=wr.heap.size+1:=by simp
   clear HN Hj d1 d2 d3 d4 d5 d6 d7 Hv HA;generalize rv ys k=y at *;unfold bF at He Hi Hf HP Hb Hz;generalize ((zs.map Prod.fst).any λz=>cZ _ z y)=bb at *
   go_wp2_with fail
   generalize wr.alloc (.cells #[.string y.pod,.string y.cont,.int .u64 y.cpus,.slice y.da y.dn y.dc] 111)=W3 at *;refine He.out.mono ?_;rintro e W4 ⟨rfl,HB⟩;have Hn:=qI (Hf.out.trans (HB.mono (by omega)));have Ho:=(HB.block wr.heap.size (by omega)).trans Hi.out;have b0:W4.cell? ⟨wr.heap.size,0,none⟩=some (.string y.pod):=ad Ho 0;have b1:W4.cell? ⟨wr.heap.size,1,none⟩=some (.string y.cont):=ad Ho 1;clear HB Ho He x0 x1 x2 x3
   rcases two bb with HC|HC
   ·subst HC;have HW:=qI (Hb.out.1 rfl)
    go_wp2
    go_roundw
    case rel=>exact ⟨k+1,by omega,by go_num,(Hr.out.below Hn.out).congr (λa=>(Ol.GF Hp HW.out a).symm),HD.out.trans (bd.of_below Hn.out)⟩
    case measure=>simp [intOf];omega
   ·subst HC;have HW:Hid ((ys.map (ak W2))[k]'Hp ∉ au hs):=λh=>by have:=Hb.out.2 h;cases this
    have Hq:=qI (Kj Be Bd Bm n sn sk _ y.pod y.cont W4 (Hr.out.below Hn.out) ht hS ⟨(ys.map (ak W2))[k]'Hp,⟨List.getElem_mem Hp,.inr (by rw [List.drop_eq_getElem_cons Hp];exact List.mem_cons_self ..)⟩,by rw [HF.out];rfl⟩)
    go_wp2_with fail
    refine Hq.out.mono ?_;rintro e W5 ⟨rfl,HH,HL⟩;have H2:=qI HH;have H1:=qI ((HD.out.trans (bd.of_below Hn.out)).trans HL);clear HH HL Hq
    go_wp2
    go_roundw
    case rel=>exact ⟨k+1,by omega,by go_num,H2.out.congr (λa=>by rw [Ol.GE iz Hp hP.out HW.out a,HF.out];rfl),H1.out⟩
    case measure=>simp [intOf];omega
  ·have HV:k=ys.length:=by omega
   subst HV;have hK:Hid (bB wr Be Bd Bm n sn sk (λa=>a∈au hs/\(a∈ys.map (ak W2)\/a∈(au hs).take 0))):=Hr.out.congr (λa=>by
    have:=Ol.GG (runs:=ys.map (ak W2)) (wanted:=au hs) a
    rw [Q9] at this;exact this)
   generalize hwm:wr=WM at *;clear hwm Hr
   go_wp2
   go_loopw [38] (λi wr=>∃ k m:Nat,k<=zs.length/\i=.int .i64 k/\m<=n+dJ rs ((au hs).take k)/\bB wr Be Bd Bm m sn sk (λa=>a∈au hs/\(a∈ys.map (ak W2)\/a∈(au hs).take k))/\bd Bd Bm W2 wr) (λi _=>zs.length - (intOf i).toNat)
   case atStart=>exact ⟨0,n,by omega,rfl,by omega,hK.out,HD.out⟩
   case round=>
    obtain ⟨k,m,hk,rfl,hb,HG,Ha⟩:=hrel;have Hr:=qI HG;have HD:=qI Ha;have hB:=Ha.size;clear HG
    by_cases hlt:k<zs.length
    ·have HU:=ku H0.out (W':=wr) (λj hj hjl=>Ha.block j hjl (by omega) (by omega)) Ha.size;obtain ⟨a2',c2',HY,_,Hj⟩:=HU;injection HY with e1 e2 e3
     subst e1 e3;clear e2;obtain ⟨g,rfl,hw,hM,HN⟩:=Hj (by rw [Q9];omega);have Hk:zs[k]∈zs:=List.getElem_mem hlt;have HJ:rv (zs.map Prod.fst) k=zs[k].1:=by simp [rv,hlt]
     have H6:=HN k (by rw [Q9];exact hlt);rw [HJ] at H6;obtain ⟨⟨x0,x1,x2,x3⟩,_⟩:=H6;have Hp:k<(au hs).length:=by rw [<- HZ.out,Q9];exact hlt
     have Hv:(au hs)[k]'Hp=zs[k].2:=by simp [<- HZ.out]
     have Hf:=qI ((Q0 wr.heap.size wr).alloc (lR) (bF zs[k].1));have Hz:=qI ((HR.out.trans Ha).trans (bd.of_below Hf.out));obtain ⟨q1,q2,q3,q4⟩:=zed (HI.out _ Hk) Hz.out;obtain ⟨sh1,sh2,sh3⟩:=H9.out zs[k].2 (by rw [<- HZ.out];exact Qk.2 ⟨_,Hk,rfl⟩);obtain ⟨p1,p2,p3,p4⟩:=HI.out _ Hk;clear p3 p4;have HQ:Hid (∀ y∈ys,aS (wr.alloc (bF zs[k].1)) y/\y.dn<=1000/\ak (wr.alloc (bF zs[k].1)) y=ak W2 y):=λy hy=>by
      obtain ⟨⟨⟨d1,d2⟩,d3⟩,_⟩:=HX.out y hy;obtain ⟨d4,d5⟩:=yR (W':=wr.alloc (bF zs[k].1)) d1 (λgg oo h0 ha=>by
       obtain ⟨g2,Hh,hI⟩:=d3 h0;rw [ha] at Hh;injection Hh with Hh
       injection Hh with Hh
       subst Hh;obtain ⟨g4,o4,Hg,HT,_⟩:=d1 h0;rw [ha] at Hg;injection Hg with Hg
       injection Hg with Hg
       subst Hg;exact (Hf.out.block _ (by omega)).trans (Ha.block _ HT (by omega) (by omega))) (Q5 Ha.size Hf.out.size)
      exact ⟨d4,d2,by unfold ak;rw [d5]⟩
     have He:=qI (yN (.slice a1 ys.length c1) ys zs[k].1 w.heap.size (wr.alloc (bF zs[k].1)) (ku (ku H4.out (λj hj hjl=>Ha.block j hjl (by omega) (by omega)) Ha.size) (λj _ hjl=>Hf.out.block j hjl) Hf.out.size) (λy hy=>⟨(HQ.out y hy).1,(HQ.out y hy).2.1⟩) ⟨q1,by omega⟩ (by omega));have Hb:Hid (((ys.any λy=>cZ (wr.alloc (bF zs[k].1)) y zs[k].1)=true)↔(au hs)[k]'Hp∈ys.map (ak W2)):=by
      unfold Hid;rw [yS,q2,Hv,List.map_congr_left λy hy=>(HQ.out y hy).2.2]
     have Hi:Hid ((wr.alloc (bF zs[k].1)).heap[wr.heap.size]?=some (bF zs[k].1)):=aF wr (bF zs[k].1) rfl;have HF:=qI Hv;have Ht:=qI (HI.out _ Hk);have H8:=qI (Ks (rs:=rs) Hp);have Hw:=yT rs ((au hs).take k);rw [Qu] at Hw;have hL:(k:Int)<(zs.length:Int):=by omega
     have HP:(wr.alloc (bF zs[k].1)).heap.size=wr.heap.size+1:=by simp
     clear HN Hj q1 q2 q3 Hv Hk HQ HJ;generalize zs[k]=z at *;obtain ⟨y,r⟩:=z;dsimp only at x0 x1 x2 x3 He Hi Hf HP Hb Hz HF Ht sh1 sh2 sh3 p1 p2 q4;have hG:y.pod.size<=7000:=by rw [p1];exact sh1
     have hR:y.cont.size<=7000:=by rw [p2];exact sh2
     have h5:y.dn<=16:=by omega
     clear p1 p2 q4;have H3:=qI Hw;clear Hw;unfold bF at He Hi Hf HP Hb Hz;generalize (ys.any λz=>cZ _ z y)=bb at *
     go_wp2_with fail
     generalize wr.alloc (.cells #[.string y.pod,.string y.cont,.int .u64 y.cpus,.slice y.da y.dn y.dc] 111)=W3 at *;refine He.out.mono ?_;rintro e W4 ⟨rfl,HB⟩;have Hn:=qI (Hf.out.trans (HB.mono (by omega)));have Ho:=(HB.block wr.heap.size (by omega)).trans Hi.out;have b0:W4.cell? ⟨wr.heap.size,0,none⟩=some (.string y.pod):=ad Ho 0;have b1:W4.cell? ⟨wr.heap.size,1,none⟩=some (.string y.cont):=ad Ho 1;have b2:W4.cell? ⟨wr.heap.size,2,none⟩=some (.int .u64 y.cpus):=ad Ho 2;have b3:W4.cell? ⟨wr.heap.size,3,none⟩=some (.slice y.da y.dn y.dc):=ad Ho 3;clear HB Ho He x0 x1 x2 x3
     rcases two bb with HC|HC
     ·subst HC;have HW:=qI (Hb.out.1 rfl)
      go_wp2
      go_roundw
      case rel=>exact ⟨k+1,m,by omega,by go_num,by have:=H8.out.1;omega,(Hr.out.below Hn.out).congr (λa=>(Ol.GH Hp HW.out a).symm),HD.out.trans (bd.of_below Hn.out)⟩
      case measure=>simp [intOf];omega
     ·subst HC;have HW:Hid ((au hs)[k]'Hp ∉ ys.map (ak W2)):=λh=>by have:=Hb.out.2 h;cases this
      obtain ⟨q1,q2,q3,q5⟩:=zed Ht.out ((HR.out.trans Ha).trans (bd.of_below Hn.out));clear q5;dsimp only at q1 q2 q3;have Hl:=qI (Kk Be Bd Bm m sn sk _ y W4 (Hr.out.below Hn.out) ⟨hG,hR⟩ q1 q3 (by omega) (by have:=H3.out;omega) (λa ha=>by
       have:=Ol.GI iz Hp hr.out HW.out a ha
       rw [HF.out,<- q2] at this;exact this))
      have Hy:Hid (ak W4 y=(au hs)[k]'Hp):=by unfold Hid;rw [q2,HF.out]
      have hQ:Hid (∀ a,((a∈au hs/\(a∈ys.map (ak W2)\/a∈(au hs).take k))\/a=ak W4 y)↔(a∈au hs/\(a∈ys.map (ak W2)\/a∈(au hs).take (k+1)))):=λa=>by
       rw [Hy.out];exact (Ol.wF Hp a).symm
      have hA:Hid (m+1<=n+dJ rs ((au hs).take (k+1))):=by
       unfold Hid
       have:=H8.out.2 (λh=>HW.out ((HO.out _).2 h))
       omega
      clear q1 q2 q3
      go_wp2_with fail
      refine Hl.out.mono ?_;rintro e W5 ⟨rfl,HH,HL⟩;have H2:=qI HH;have H1:=qI ((HD.out.trans (bd.of_below Hn.out)).trans HL);clear HH HL Hl
      go_wp2
      go_roundw
      case rel=>exact ⟨k+1,m+1,by omega,by go_num,hA.out,H2.out.congr hQ.out,H1.out⟩
      case measure=>simp [intOf];omega
    ·have HV:k=zs.length:=by omega
     subst HV;have hl:(au hs).length=zs.length:=by rw [<- HZ.out,Q9]
     have H5:Hid (∃ n',n'<=n+dJ rs (au hs)/\bB wr Be Bd Bm n' sn sk (λa=>a∈au hs)):=by
      refine ⟨m,?_,Hr.out.congr (λa=>?_)⟩
      ·rw [<- hl,Qh] at hb;exact hb
      ·rw [<- hl];exact Ol.step_end a
     go_wp2
     go_ret;exact ⟨rfl,H5.out,HR.out.trans HD.out⟩
end
