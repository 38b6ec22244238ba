import Derived.Test.YtbmmnflgnmjboaaGreatDoorR19
set_option maxRecDepth 100000
set_option maxHeartbeats 16000000
open Go.Proofs.Tryz
namespace Go.Proofs.YtbmmnflgnmjboaaGreatDoor
section
open RowKit Shelf
open Qos (Nd Ct Pd nd ct pd)
open Sv (Gv Hd gv hd)
attribute [local go_sem] Oper.semAt_some
def it (W0:World) (z:RV × Rn):Prop:=z.1.pod=z.2.pod/\z.1.cont=z.2.cont/\z.1.cpus=z.2.cpus/\bt W0 (.slice z.1.da z.1.dn z.1.dc) z.2.devs
theorem yF {hs:List Hd} {k:Nat} (h:k<hs.length):ap (hs.take (k+1))=ap (hs.take k)++(List.range (hd hs k).gs.length).map (ir (hd hs k)):=by
 unfold ap;rw [Qa h,List.flatMap_append];simp [hd,h]
theorem yG {hs:List Hd} (h:∀ x∈hs,x.gs.length<=3) (k:Nat):(ap (hs.take k)).length<=3*hs.length:=by
 have key:∀ l:List Hd,(∀ x∈l,x.gs.length<=3)->(ap l).length<=3*l.length:=by
  intro l
  induction l with
  | nil=>intro _;simp [ap]
  | cons a l ih=>
   intro hl;have h1:=ih λx hx=>hl x (Qv _ hx)
   have h2:=hl a (by simp);unfold ap at *;rw [List.flatMap_cons,Q2,Q9,List.length_range,Qg];omega
 have:=key (hs.take k) λx hx=>h x (List.mem_of_mem_take hx)
 rw [Qu] at this;omega
theorem sg {w:World} {base:Nat} {e:TypeId} {sz:Nat} {v:Value} {n:Nat} {xs:List Value} (h:w.ownsRow base e sz v n xs) {B:Nat} {cs:Array Value} {t:TypeId} {z:Nat × Nat} (hB:w.heap[B]?=some (.cells cs t z)) (ht:t≠e):v.ownBlock≠some B:=by
 rcases h.2 with ⟨rfl,_⟩|⟨g,cap,cur,rfl,hg,Ha,_⟩
 ·intro hb;cases hb
 ·intro hb;have hb:some g=some B:=hb;injection hb with hb
  subst hb;rw [hB] at Ha;injection Ha with Ha
  injection Ha with _ h2
  exact ht h2
theorem eu {K:Nat->Prop} {A B:World} {g:Option Nat} (h:A.grownBy B g) (hk:∀ j,g=some j->j<A.heap.size->K j):Apart K A B:=
 ⟨h.os,h.tape,h.output,h.size,λj hj hn=>h.block j hj λe=>hn (hk j e.symm hj)⟩
theorem yH (x:RV):∀ u∈RV.cells x,u.oneCell'=true:=by
 intro u hu
 simp [RV.cells] at hu
 rcases hu with rfl|rfl|rfl|rfl <;> rfl
abbrev jG:=λ(x0:ByteArray) (x1:Int) (x2:Option Addr) (x3 x4:Nat) (x5:Option Addr) (x6 x7:Nat)=>(.cells #[.string x0,.int .i64 x1,.slice x2 x3 x4,.slice x5 x6 x7] 57:Obj)
abbrev fJ:=λ(x0:Int) (x1:Option Addr) (x2 x3:Nat)=>(.cells #[.int .u64 x0,.slice x1 x2 x3] 69:Obj)
abbrev jH:=λ(x0 x1:ByteArray) (x2:Int) (x3:Option Addr) (x4 x5:Nat)=>(.cells #[.string x0,.string x1,.int .u64 x2,.slice x3 x4 x5] 111:Obj)
abbrev si:=λ(Bh:Nat) (xn:ByteArray) (cb co y4 cc j:Nat) (cn:ByteArray) (Bg:Nat) (cp:Int) (ia:Option Addr) (y11 ic:Nat) (w':World)=>w'.cell? ⟨Bh,0,none⟩=some (.string xn)/\w'.cell? ⟨Bh,2,none⟩=some (.slice (some ⟨cb,co,none⟩) y4 cc)/\w'.cell? ⟨cb,co+j*6,none⟩=some (.string cn)/\w'.cell? ⟨Bg,0,none⟩=some (.int .u64 cp)/\w'.cell? ⟨Bg,1,none⟩=some (.slice ia y11 ic)
theorem Kg (v:Value) (hs:List Hd) (w W0:World) (h:aJ W0 v hs) (l:aq W0 w) (hl:hs.length<=100) (hgl:∀ x∈hs,x.gs.length=x.pod.cs.length/\x.gs.length<=3) :
  Calls prog 102 #[v] w λe w'=>∃ (v':Value) (zs:List (RV × Rn)),e=.returned v'/\zs.map Prod.snd=ap hs/\bP w.heap.size w' v' (zs.map Prod.fst)/\(∀ z∈zs,it W0 z)/\Below w.heap.size w w':=by
 obtain ⟨i0,hi,H7,he,hw⟩:=info_parts rK;obtain ⟨ao,c,rfl,hm,hr⟩:=h;unfold maxLen at hm;have HR:=qI hr;have HL:=qI l;have HO:=qI hgl;clear hr l hgl
 go_enter func102,ntmps102
 go_wp2
 go_loopw [3,10] (λpv i wr=>∃ (k:Nat) (zs:List (RV × Rn)),k<=hs.length/\i=.int .i64 k/\zs.map Prod.snd=ap (hs.take k)/\bP w.heap.size wr pv (zs.map Prod.fst)/\(∀ z∈zs,it W0 z)/\Below w.heap.size w wr) (λ_ i _=>hs.length - (intOf i).toNat)
 case atStart=>exact ⟨0,[],by omega,rfl,rfl,Qw _ _ _ _,λx hx=>(List.not_mem_nil hx).elim,Q0 _ _⟩
 case round=>
  obtain ⟨k,zs,hk,rfl,HZ,Hg,Ho,hb⟩:=hrel;have HA:=qI HZ;have HT:=qI Ho;have HB:=qI hb;obtain ⟨pa,pc,H2⟩:=fF Hg;rw [Q9] at H2;subst H2;have Hr:=qI Hg;have hf:=hb.size;clear HZ Ho Hg
  by_cases hlt:k<hs.length
  ·obtain ⟨b,ob,cv,gvv,rfl,Hv⟩:=HR.out (by omega);have hle:=HL.out.trans (aq.of_below hb);obtain ⟨x0,x1,x2,x3⟩:=(Hv.2 k hlt).1;have x0:=hle.cell _ _ _ x0;have x1:=hle.cell _ _ _ x1;have x2:=hle.cell _ _ _ x2;have x3:=hle.cell _ _ _ x3;have Hi:=(Hv.2 k hlt).2.1;have Hj:=(Hv.2 k hlt).2.2;obtain ⟨Hy,hp⟩:=HO.out (hd hs k) (by simp [hd,hlt]);have HY:=qI (yF hlt);have hH:zs.length<=300:=by
    have h1:zs.length=(ap (hs.take k)).length:=by rw [<- HA.out,Q9]
    have h2:=yG (λx hx=>(HO.out x hx).2) k;omega
   obtain ⟨ca,cc,HW,hB,HI⟩:=id Hi;obtain ⟨ga,gc,H0,hq,HD⟩:=id Hj;rw [HW] at x2;rw [H0] at x3;clear Hv Hi Hj hb HW H0 hle;generalize hd hs k=x at *;obtain ⟨⟨xn,xp,xc⟩,xg⟩:=x;dsimp only at x0 x1 x2 x3 HI HD HY Hy hp hB hq;have hC:=qI HI;have H8:=qI HD;have HU:=qI ((Q0 wr.heap.size wr).alloc (lR) (jG xn xp ca xc.length cc ga xg.length gc));have Ht:=qI (show bP w.heap.size (wr.alloc (jG xn xp ca xc.length cc ga xg.length gc)) (.slice pa zs.length pc) (zs.map Prod.fst) from Hr.out.alloc _);have hJ:(wr.alloc (jG xn xp ca xc.length cc ga xg.length gc)).heap.size=wr.heap.size+1:=by simp
   have HH:=qI (aD wr (jG xn xp ca xc.length cc ga xg.length gc) rfl);have y0:(wr.alloc (jG xn xp ca xc.length cc ga xg.length gc)).cell? ⟨wr.heap.size,0,none⟩=some (.string xn):=by simp
   have y2:(wr.alloc (jG xn xp ca xc.length cc ga xg.length gc)).cell? ⟨wr.heap.size,2,none⟩=some (.slice ca xc.length cc):=by simp
   have y3:(wr.alloc (jG xn xp ca xc.length cc ga xg.length gc)).cell? ⟨wr.heap.size,3,none⟩=some (.slice ga xg.length gc):=by simp
   have Hz:=qI Hy;clear HI HD Hy
   go_wp2_with fail
   generalize wr.alloc (jG xn xp ca xc.length cc ga xg.length gc)=U at *;clear x0 x1 x2 x3;generalize hBh:wr.heap.size=Bh at *;have ha:=qI (HB.out.trans (HU.out.mono hf));clear y0 y2 y3
   go_loopw [3,17] (λpv i wr=>∃ (j:Nat) (zq:List (RV × Rn)),j<=xg.length/\i=.int .i64 j/\zq.map Prod.snd=ap (hs.take k)++(List.range j).map (ir ⟨⟨xn,xp,xc⟩,xg⟩)/\bP w.heap.size wr pv (zq.map Prod.fst)/\(∀ z∈zq,it W0 z)/\Apart (λb=>w.heap.size<=b/\b≠Bh) U wr/\zq.length=zs.length+j) (λ_ i _=>xg.length - (intOf i).toNat)
   case atStart=>exact ⟨0,zs,by omega,rfl,by rw [HA.out];simp,Ht.out,HT.out,Apart.refl _ _,rfl⟩
   case round=>
    obtain ⟨j,zq,hj,rfl,H5,HF,Ho,Hu,HP⟩:=hrel;have H6:=qI HP;have H9:zq.length<=303:=by omega
    clear HP;have HX:=qI H5;have Hl:=qI Ho;have HK:=qI Hu;have hy:=Hu.size;have Hx:=Hu.below ha.out (lR) λb hb=>hb.1;have hc:=qI Hx;obtain ⟨va,vc,hv⟩:=fF HF;rw [Q9] at hv;subst hv;have Hm:=qI HF;clear H5 Ho HF
    by_cases hjt:j<xg.length
    ·obtain ⟨gb,go,dv,rfl,Hn⟩:=H8.out (by omega);obtain ⟨cb,co,cdv,rfl,Hc⟩:=hC.out (by have:=Hz.out;omega);have hle:=HL.out.trans (aq.of_below Hx);obtain ⟨⟨g0,g1,g2⟩,Hf⟩:=Hn.2 j hjt;have g0:=hle.cell _ _ _ g0;have g1:=hle.cell _ _ _ g1;have c0:wr.cell? ⟨cb,co+j*6,none⟩=some (.string (ct xc j).nm):=by
      have:=(Hc.2 j (by have:=Hz.out;omega)).1 0 (by decide)
      exact hle.cell _ _ _ this
     have Hp:=qI Hf;obtain ⟨ia,ic,H3,_⟩:=id Hf;rw [H3] at g1 Hp;have Hk:ir ⟨⟨xn,xp,xc⟩,xg⟩ j=⟨xn,(ct xc j).nm,((gv xg j).cp:Int),(gv xg j).dv⟩:=rfl;have Hw:=qI Hk;have hF:cb<wr.heap.size:=Q3 _ ⟨cb,co+j*6,none⟩ c0;have hg:cb<w.heap.size:=Q1 Hc.1 HL.out.size;clear Hn Hc Hf H3 Hk Hu Hx hle;generalize (gv xg j).cp=cp at *;generalize (gv xg j).dv=xs at *;generalize (ct xc j).nm=cn at *;have hh:=(HK.out.block Bh (by omega) (by omega)).trans HH.out;have hn:=qI hh;have z0:wr.cell? ⟨Bh,0,none⟩=some (.string xn):=aa hh 0;have z2:wr.cell? ⟨Bh,2,none⟩=some (.slice (some ⟨cb,co,none⟩) xc.length cc):=aa hh 2;clear hh;have HV:(j:Int)<(xg.length:Int):=by omega
     have hL:(j:Int)<(xc.length:Int):=by have:=Hz.out;omega
     have HQ:=qI ((Q0 wr.heap.size wr).alloc (lR) (fJ cp ia xs.length ic));have HC:=qI (show bP w.heap.size (wr.alloc (fJ cp ia xs.length ic)).drew (.slice va zq.length vc) (zq.map Prod.fst) from Hm.out.alloc _);have H4:(wr.alloc (fJ cp ia xs.length ic)).heap.size=wr.heap.size+1:=by simp
     have HS:Hid ((wr.alloc (fJ cp ia xs.length ic)).drew.cell? ⟨Bh,0,none⟩=some (.string xn)/\(wr.alloc (fJ cp ia xs.length ic)).drew.cell? ⟨Bh,2,none⟩=some (.slice (some ⟨cb,co,none⟩) xc.length cc)/\(wr.alloc (fJ cp ia xs.length ic)).drew.cell? ⟨cb,co+j*6,none⟩=some (.string cn)/\(wr.alloc (fJ cp ia xs.length ic)).drew.cell? ⟨wr.heap.size,0,none⟩=some (.int .u64 cp)/\(wr.alloc (fJ cp ia xs.length ic)).drew.cell? ⟨wr.heap.size,1,none⟩=some (.slice ia xs.length ic)):=
      ⟨(HQ.out.cell (p:=⟨Bh,0,none⟩) (by show Bh<wr.heap.size;omega)).trans z0,(HQ.out.cell (p:=⟨Bh,2,none⟩) (by show Bh<wr.heap.size;omega)).trans z2,(HQ.out.cell (p:=⟨cb,co+j*6,none⟩) (by show cb<wr.heap.size;omega)).trans c0,aa (W:=(wr.alloc (fJ cp ia xs.length ic)).drew) (aD wr (fJ cp ia xs.length ic) rfl) 0,aa (W:=(wr.alloc (fJ cp ia xs.length ic)).drew) (aD wr (fJ cp ia xs.length ic) rfl) 1⟩
     go_wp2_with fail
     generalize wr.alloc (fJ cp ia xs.length ic)=Q at *;clear g0 g1 z0 z2 c0;generalize hBg:wr.heap.size=Bg at *;have hN:=rL Q.drew ⟨xn,cn,cp,ia,xs.length,ic⟩ 111;rw [show Q.drew.heap.size=Bg+1 from H4] at hN;have HN:=qI hN;clear hN;refine wp_region_held_drew (S:=si Bh xn cb co xc.length cc j cn Bg cp ia xs.length ic) (by kernel_rfl) HS.out λhQ=>?_;refine tk 0 ?_;refine tk 1 ?_;refine tk 2 ?_;refine tk 3 ?_;refine tk 4 ?_;refine tk 5 ?_;refine tk 6 ?_;refine tk 7 ?_;refine tk 8 ?_;refine tk 9 ?_;refine tk 10 ?_;refine tk 11 ?_;refine tk 12 ?_;refine tk 13 ?_;refine tk 14 ?_;refine tk 15 ?_;have He:=(Q0 Q.drew.heap.size Q.drew).alloc (lR) (jH xn cn cp ia xs.length ic);have Hh:Hid ((si Bh xn cb co xc.length cc j cn Bg cp ia xs.length ic) (Q.drew.alloc (jH xn cn cp ia xs.length ic))):=⟨(He.cell (p:=⟨Bh,0,none⟩) (by show Bh<Q.heap.size;omega)).trans HS.out.1,(He.cell (p:=⟨Bh,2,none⟩) (by show Bh<Q.heap.size;omega)).trans HS.out.2.1,(He.cell (p:=⟨cb,co+j*6,none⟩) (by show cb<Q.heap.size;omega)).trans HS.out.2.2.1,(He.cell (p:=⟨Bg,0,none⟩) (by show Bg<Q.heap.size;omega)).trans HS.out.2.2.2.1,(He.cell (p:=⟨Bg,1,none⟩) (by show Bg<Q.heap.size;omega)).trans HS.out.2.2.2.2⟩;have hI:=qI He;clear He;refine rd 16 λK hK=>?_;go_simp
     go_wp2
     refine hK.out _ _ Hh.out λhQ=>?_;clear hK K;refine rd 17 λK hK=>?_;rw [if_pos (by rfl)];have hD:(zq.map Prod.fst).length<=400:=by rw [Q9];omega
     refine wp_append_own (o := { dst := some 39, op := Op.call { callee := Callee.builtin Builtin.append, args := #[Operand.tmp 22, Operand.tmp 38], argTypes := #[105, 105] }, type := 105, pos := "run.go:37", after := #[{ on := 0, ground := Ground.data }, { on := 16, ground := Ground.data }], guard := none }) _ _ _ 105 rfl w.heap.size 111 i0 (.agg #[.string ByteArray.empty, .string ByteArray.empty, .int .u64 0, .slice none 0 0]) 4 64 underlying105 hi H7 he hw rfl (by decide) (.slice va zq.length vc) _ _ rfl (HC.out.alloc _) ⟨_, 0, none⟩ 1 1 (RV.cells ⟨xn, cn, cp, ia, xs.length, ic⟩) rfl rfl HN.out (yH _) (by unfold maxLen; omega) (by omega) (by show w.heap.size ≤ (Q.drew.alloc _).heap.size; rw [World.size_alloc]; show w.heap.size ≤ Q.heap.size + 1; omega) ?_
     intro v' W3 Hb Ha _;have HJ:∀ b,(Value.slice va zq.length vc).ownBlock=some b->w.heap.size<=b/\b≠Bh:=λb hb=>⟨(Hm.out.lt b hb).1,λe=>sg Hm.out hn.out (by decide) (by rw [hb,e])⟩
     have ho:=qI (bP.push Hb);have hu:Hid (Apart (λb=>w.heap.size<=b/\b≠Bh) U W3):=(HK.out.trans (Apart.of_below ((show Below wr.heap.size wr Q from hBg ▸ HQ.out).trans (a6 ((Q0 wr.heap.size Q).alloc (by omega) _))))).trans (eu Ha λb hb _=>HJ b hb);have Hq:some Bh≠(Value.slice va zq.length vc).ownBlock:=λe=>(HJ Bh e.symm).2 rfl
     have Hs:some Bg≠(Value.slice va zq.length vc).ownBlock:=λe=>by have:=(Hm.out.lt Bg e.symm).2;omega
     have HG:some cb≠(Value.slice va zq.length vc).ownBlock:=λe=>by have:=(HJ cb e.symm).1;omega
     have hG:(Q.alloc (jH xn cn cp ia xs.length ic)).drew.heap.size=Bg+2:=by show (Q.alloc _).heap.size=_;rw [World.size_alloc,H4]
     unfold jH at hG;have hE:=Ha.size;have HM:(si Bh xn cb co xc.length cc j cn Bg cp ia xs.length ic) W3:=⟨(Ha.cell_far ⟨Bh,0,none⟩ (by show Bh<_;omega) Hq).trans Hh.out.1,(Ha.cell_far ⟨Bh,2,none⟩ (by show Bh<_;omega) Hq).trans Hh.out.2.1,(Ha.cell_far ⟨cb,co+j*6,none⟩ (by show cb<_;omega) HG).trans Hh.out.2.2.1,(Ha.cell_far ⟨Bg,0,none⟩ (by show Bg<_;omega) Hs).trans Hh.out.2.2.2.1,(Ha.cell_far ⟨Bg,1,none⟩ (by show Bg<_;omega) Hs).trans Hh.out.2.2.2.2⟩;refine hK.out _ _ HM λhQ=>?_;clear hK K;(try simp only [Act.put,s1,s2,s3]);refine tk 18 ?_;refine Qn (by kernel_rfl) ?_ _;clear hQ Hb Ha HM
     go_wp2
     go_roundw
     case rel=>
      refine ⟨j+1,zq++[(⟨xn,cn,cp,ia,xs.length,ic⟩,⟨xn,cn,cp,xs⟩)],by omega,by go_num,?_,by rw [Qj];exact ho.out,λz hz=>?_,hu.out,by rw [Q2,H6.out];rfl⟩
      ·rw [Qj,HX.out,List.range_succ,Qj,List.append_assoc,List.map_singleton,List.map_singleton,Hw.out]
      ·rcases Qi.1 hz with hz|hz
       ·exact Hl.out z hz
       ·rw [Qm.1 hz];exact ⟨rfl,rfl,rfl,Hp.out⟩
     case measure=>simp [intOf];omega
    ·have hA:j=xg.length:=by omega
     subst hA;have ht:Hid (zq.map Prod.snd=ap (hs.take (k+1))):=by unfold Hid;rw [HX.out,HY.out]
     go_wp2
     go_roundw
     case rel=>exact ⟨k+1,zq,by omega,by go_num,ht.out,Hm.out,Hl.out,hc.out⟩
     case measure=>simp [intOf];omega
  ·have H1:k=hs.length:=by omega
   have HE:Hid (zs.map Prod.snd=ap hs):=by unfold Hid;rw [HA.out,H1,Qh]
   clear H1
   go_wp2
   go_ret;exact ⟨_,zs,rfl,HE.out,Hr.out,HT.out,HB.out⟩
end
section
open RowKit Go.ChangeMaps Go.Maps Go.WideShapes
open Dvs (Dv dv)
open Qos (Nd nd)
theorem Kh {ns:List Nd} {k:Nat} (h:k<ns.length):Ol.dF (ns.take (k+1))=Ol.cJ (Ol.dF (ns.take k)) (nd ns k).kind (some (nd ns k).many):=by
 unfold Ol.dF;rw [xZ h,List.foldl_append];rfl
theorem Ki {ds:List Dv} {l:List Int} {m:ByteArray->Option Int} {k:Nat} (h:k<l.length):(l.take (k+1)).foldl (Ol.dG ds) m=Ol.dG ds ((l.take k).foldl (Ol.dG ds) m) (l.getD k 0):=by
 rw [Qa h,List.foldl_append]
 simp [h]
def m6 (f:ByteArray->Option Int) (k:Int):Prop:=∀ s v,f s=some v->-1000000 - k<=v/\v<=1000000
theorem yI {f:ByteArray->Option Int} {k k':Int} (h:m6 f k) (hk:k<=k') {s:ByteArray} {v:Option Int} (hv:∀ x,v=some x->-1000000 - k'<=x/\x<=1000000):m6 (Ol.cJ f s v) k':=by
 intro t x hx;unfold Ol.cJ at hx
 split at hx
 ·exact hv x hx
 ·have:=h t x hx
  omega
theorem Kj (v1 v2 v3:Value) (g o:Nat) (ds:List Dv) (l:List Int) (ns:List Nd) (w:World) (h1:cU w v1 g o ds) (h2:bt w v2 l) (h3:be w v3 ns) (hl:l.length<=1000) (hn:ns.length<=1000)
  (hin:∀ k,k<l.length->0<=l.getD k 0/\l.getD k 0<ds.length) (hdl:ds.length<=1000) (hk1:∀ k,k<ds.length->(dv ds k).kind.size<=1000) (hk2:∀ k,k<ns.length->(nd ns k).kind.size<=1000/\-1000000<=(nd ns k).many/\(nd ns k).many<=1000000) :
  Calls prog 159 #[v1,v2,v3] w λe w'=>(∃ b,e=.returned (.bool b)/\(b=true↔Ol.ie ds l ns))/\Below w.heap.size w w':=by
 obtain ⟨a1,c1,rfl,Hv⟩:=h1;obtain ⟨a2,c2,rfl,HC,Hw⟩:=h2;obtain ⟨a3,c3,rfl,HE,Hs⟩:=h3;have H1:=qI Hv;have H2:=qI Hw;have H3:=qI Hs;have HT:=qI hin;have HO:=qI hk1;have Hz:=qI hk2;have Ho:=qI (eT.made w);have Hr:=qI ((Q0 w.heap.size w).alloc (lR) (.map #[] 0));have H6:=@run_makeMap prog;clear Hv Hw Hs hin hk1 hk2 HC HE
 go_enter func159,ntmps159
 go_wp2
 go_loopw [16] (λi wr=>∃ k n:Nat,k<=ns.length/\n<=k/\i=.int .i64 k/\eT wr w.heap.size n (Ol.dF (ns.take k))/\m6 (Ol.dF (ns.take k)) 0/\Below w.heap.size w wr) (λi _=>ns.length - (intOf i).toNat)
 case atStart=>exact ⟨0,0,by omega,by omega,rfl,Ho.out,(λ_ _ hx=>nomatch hx),Hr.out⟩
 case round=>
  obtain ⟨k,n,hk,HX,rfl,hM,hN,hB⟩:=hrel
  by_cases hlt:k<ns.length
  ·obtain ⟨b,ob,rfl,Hk,Hi⟩:=H3.out (by omega);obtain ⟨g0,g1⟩:=Hi k hlt;have c0:=(hB.cell (p:=⟨b,ob+k*2,none⟩) Hk).trans g0;have c1:=(hB.cell (p:=⟨b,ob+k*2+1,none⟩) Hk).trans g1;have He:=qI (Kh hlt);obtain ⟨H4,H0,H5⟩:=Hz.out k hlt;have Hx:=qI (hB.alloc hB.size (.cells #[.string (nd ns k).kind,.int .i64 (nd ns k).many] 109));have HH:=hM.alloc (.cells #[.string (nd ns k).kind,.int .i64 (nd ns k).many] 109);have Hn:(wr.alloc (.cells #[.string (nd ns k).kind,.int .i64 (nd ns k).many] 109)).cell? ⟨wr.heap.size,0,none⟩=some (.string (nd ns k).kind):=by simp
   have Hm:(wr.alloc (.cells #[.string (nd ns k).kind,.int .i64 (nd ns k).many] 109)).cell? ⟨wr.heap.size,1,none⟩=some (.int .i64 (nd ns k).many):=by simp
   have HN:=qI hN;clear hM hB Hi g0 g1 hN;generalize nd ns k=x at *;generalize Ol.dF (ns.take k)=f at *;obtain ⟨D,ho,hS,hD⟩:=HH;have HD:=qI hD;have HS:=qI hS;have Hb:keyOf prog 9 (.string x.kind)=some (.string x.kind.data.toList):=Go.WideMaps.keyOf_string_mk underlying9 (by unfold maxLen;omega);have Hj:=qI (show (Lit.int .i64 x.many).wf=true from WalkArith.wf_i64 (by omega));clear hD hS
   go_wp2_with (at_mapUpdate;refine wpList_mapUpdate_own _ rfl _ _ _ 198 rfl 9 3 im underlying198 (plainElem prog 3) w.heap.size n D rfl ho (by unfold maxLen;omega) _ _ _ rfl rfl Hb (.lit (.int .i64 x.many)) [] (plainElem_int underlying3 Hj.out) ?_;intro w5 Hg Hc)
   go_roundw
   case rel=>
    refine ⟨k+1,n+1,by omega,by omega,by go_num,?_,?_,Hx.out.grown Hc Hx.out.size (λj hj=>by cases hj;exact lR)⟩
    ·rw [He.out];exact yv ho HS.out HD.out Hg
    ·rw [He.out];exact yI HN.out (Int.le_refl _) (λy hy=>by cases hy;omega)
   case measure=>simp [intOf];omega
  ·have HR:k=ns.length:=by omega
   subst HR;rw [Qh] at hM hN;have HF:=qI hM;have HA:=qI hB;have HK:=qI hN;clear hM hB hN Ho Hr
   go_wp2
   go_loopw [28] (λi wr=>∃ k n:Nat,k<=l.length/\n<=ns.length+k/\i=.int .i64 k/\eT wr w.heap.size n ((l.take k).foldl (Ol.dG ds) (Ol.dF ns))/\m6 ((l.take k).foldl (Ol.dG ds) (Ol.dF ns)) (k:Int)/\Below w.heap.size w wr) (λi _=>l.length - (intOf i).toNat)
   case atStart=>exact ⟨0,n,by omega,by omega,rfl,HF.out,HK.out,HA.out⟩
   case round=>
    obtain ⟨q,m,hq,HY,rfl,hM,hN,hB⟩:=hrel
    by_cases hqt:q<l.length
    ·obtain ⟨b,ob,rfl,Hk,Hi⟩:=H2.out (by omega);have c0:=(hB.cell (p:=⟨b,ob+q,none⟩) Hk).trans (Hi q hqt);have He:=qI (Ki (ds:=ds) (m:=Ol.dF ns) hqt);have HP:=HT.out q hqt;generalize l.getD q 0=x at *;obtain ⟨HM,HZ⟩:=HP;obtain ⟨xn,rfl⟩:=Int.eq_ofNat_of_zero_le HM;have Hh:xn<ds.length:=by omega
     obtain ⟨ha,HG,Ht⟩:=H1.out (by omega);subst ha;have d0:=(hB.cell (p:=⟨g,o+xn*3,none⟩) HG).trans (Ht xn Hh).1;have HQ:=HO.out xn Hh;have Hy:((xn:Int)).toNat=xn:=by omega
     have HL:Hid (∀ f,Ol.dG ds f (xn:Int)=Ol.cJ f (dv ds xn).kind (if (f (dv ds xn).kind).getD 0 - 1=0 then none else some ((f (dv ds xn).kind).getD 0 - 1))):=λf=>by unfold Ol.dG;rw [Hy]
     have HB:=qI hB;have HN:=qI hN;clear Hi Ht hB hN Hy;generalize (dv ds xn).kind=kd at *;generalize (l.take q).foldl (Ol.dG ds) (Ol.dF ns)=f at *;obtain ⟨D,ho,hS,hD⟩:=hM;have HD:=qI hD;have HS:=qI hS;have Hu:=(hD kd).1;have HW:-1000000 - (q:Int)<=(f kd).getD 0/\(f kd).getD 0<=1000000:=by
      cases hf:f kd with
      | none=>simp;omega
      | some y=>exact HN.out kd y hf
     generalize hv:(f kd).getD 0=vv at *;have HV:=qI hv;clear hv;have Hb:keyOf prog 9 (.string kd)=some (.string kd.data.toList):=Go.WideMaps.keyOf_string_mk underlying9 (by unfold maxLen;omega);have Hj:=qI (show (Lit.int .i64 (vv - 1)).wf=true from WalkArith.wf_i64 (by omega));have Hq:Hid (m6 (Ol.dG ds f (xn:Int)) ((q+1:Nat):Int)):=by
      unfold Hid;rw [HL.out f];refine yI HN.out (by omega) λy hy=>?_;rw [HV.out] at hy
      split at hy
      ·cases hy
      ·cases hy;omega
     clear hD hS;have Hp:Hid (WideAt.IsKeyLit (Lit.string kd.data.toList)):=trivial
     by_cases h1:vv=1
     ·have hb:((vv - 1:Int) == 0)=true:=by rw [h1];rfl
      have Hl:Hid (Ol.dG ds f (xn:Int)=Ol.cJ (Ol.cJ f kd (some (vv - 1))) kd none):=by
       unfold Hid;rw [HL.out f,HV.out,if_pos (by omega)]
       funext s
       unfold Ol.cJ
       split <;> rfl
      clear h1
      go_wp2_with (first|(at_lookup;refine wpList_lookup_own_int _ rfl _ _ 198 rfl 9 3 .i64 im underlying198 underlying3 (mT _) w.heap.size _ _ rfl (by assumption) _ _ rfl Hb ?_;intro cc Ha _;(first|rw [Hu] at Ha|rw [Go.Maps.atKey_put_same ho.isMap Hp.out] at Ha);injection Ha with Ha;injection Ha with _ Ha;subst Ha)|(at_mapUpdate;refine wpList_mapUpdate_own _ rfl _ _ _ 198 rfl 9 3 im underlying198 (plainElem prog 3) w.heap.size m D rfl ho (by unfold maxLen;omega) _ _ _ rfl rfl Hb (.lit (.int .i64 (vv - 1))) [] (plainElem_int underlying3 Hj.out) ?_;intro w5 Hg Hc)|(at_delete;refine wpList_delete_own _ rfl _ _ 198 9 rfl 3 im underlying198 _ w.heap.size _ _ rfl Hg _ _ rfl Hb ?_;intro w6 HU Hf))
      go_roundw
      case rel=>
       refine ⟨q+1,m+1,by omega,by omega,by go_num,?_,by rw [He.out];exact Hq.out,?_⟩
       ·rw [He.out,Hl.out];exact J9 Hg (yr HS.out) (yt ho HD.out) HU
       ·exact (HB.out.grown Hc HB.out.size (λj hj=>by cases hj;exact lR)).grown Hf.grown (by have:=Hc.size;have:=HB.out.size;omega) (λj hj=>by cases hj;exact lR)
      case measure=>simp [intOf];omega
     ·have hb:((vv - 1:Int) == 0)=false:=Qr.2 (by omega);have Hl:Hid (Ol.dG ds f (xn:Int)=Ol.cJ f kd (some (vv - 1))):=by
       unfold Hid;rw [HL.out f,HV.out,if_neg (by omega)]
      go_wp2_with (first|(at_lookup;refine wpList_lookup_own_int _ rfl _ _ 198 rfl 9 3 .i64 im underlying198 underlying3 (mT _) w.heap.size _ _ rfl (by assumption) _ _ rfl Hb ?_;intro cc Ha _;(first|rw [Hu] at Ha|rw [Go.Maps.atKey_put_same ho.isMap Hp.out] at Ha);injection Ha with Ha;injection Ha with _ Ha;subst Ha)|(at_mapUpdate;refine wpList_mapUpdate_own _ rfl _ _ _ 198 rfl 9 3 im underlying198 (plainElem prog 3) w.heap.size m D rfl ho (by unfold maxLen;omega) _ _ _ rfl rfl Hb (.lit (.int .i64 (vv - 1))) [] (plainElem_int underlying3 Hj.out) ?_;intro w5 Hg Hc))
      go_roundw
      case rel=>
       refine ⟨q+1,m+1,by omega,by omega,by go_num,?_,by rw [He.out];exact Hq.out,?_⟩
       ·rw [He.out,Hl.out];exact yv ho HS.out HD.out Hg
       ·exact HB.out.grown Hc HB.out.size (λj hj=>by cases hj;exact lR)
      case measure=>simp [intOf];omega
    ·have HI:q=l.length:=by omega
     subst HI;rw [Qh] at hM;obtain ⟨D,ho,hS,hD⟩:=hM;have HB:=qI hB;have HJ:Hid ((Go.Maps.size D:Int)=0↔Ol.ie ds l ns):=by
      unfold Hid
      have:=Ka hS hD
      constructor
      ·intro h;exact this.1 (by omega)
      ·intro h;have:=this.2 h;omega
     clear hS hD hB hN
     go_wp2_with (at_len;refine wpList_len_own _ rfl _ 198 rfl 9 3 underlying198 _ w.heap.size m D rfl ho ?_)
     go_ret;exact ⟨⟨_,rfl,by rw [beq_iff_eq];exact HJ.out⟩,HB.out⟩
end
section
open RowKit Shelf
open Sv (Gv Hd gv hd aB)
structure bw (W:World) (Be Bd Bm n:Nat) (sn sk:Sd) (C:Rn->Prop):Prop where
 eng:et W Be Bd Bm
 disk:aC W Bd sn sk (.slice none 0 0) (-1) false
 map:∃ xs,aZ W Bm n xs/\(∀ x∈xs,fk W x/\x.dn<=1000)/\∀ a,a∈xs.map (aj W)↔C a
theorem bw.congr {W:World} {Be Bd Bm n:Nat} {sn sk:Sd} {C C':Rn->Prop} (h:bw W Be Bd Bm n sn sk C) (hc:∀ a,C a↔C' a):bw W Be Bd Bm n sn sk C':=by
 obtain ⟨h1,h2,xs,h3,h4,h5⟩:=h;exact ⟨h1,h2,xs,h3,h4,λa=>(h5 a).trans (hc a)⟩
theorem bw.lt {W:World} {Be Bd Bm n:Nat} {sn sk:Sd} {C:Rn->Prop} (h:bw W Be Bd Bm n sn sk C):Be<W.heap.size/\Bd<W.heap.size/\Bm<W.heap.size:=by
 obtain ⟨h1,h2,xs,h3,_⟩:=h;exact ⟨h1.lt,h2.lt,h3.lt⟩
theorem bw.apart {W:World} {Be Bd Bm n:Nat} {sn sk:Sd} {C:Rn->Prop} (h:bw W Be Bd Bm n sn sk C):Be≠Bd/\Be≠Bm/\Bd≠Bm:=by
 obtain ⟨h1,h2,xs,h3,_⟩:=h;exact mY h1 h3 h2
theorem bw.below {W W':World} {Be Bd Bm n:Nat} {sn sk:Sd} {C:Rn->Prop} (h:bw W Be Bd Bm n sn sk C) (hb:Below W.heap.size W W'):bw W' Be Bd Bm n sn sk C:=by
 obtain ⟨h1,h2,xs,h3,h4,h5⟩:=h;obtain ⟨k1,k2⟩:=lA h4 (cE.below hb);exact ⟨h1.block (hb.block Be h1.lt),(hb.block Bd h2.lt).trans h2,xs,h3.block (hb.block Bm h3.lt),k1,λa=>by rw [k2];exact h5 a⟩
theorem yJ {W:World} {xs:List RV} {p c:ByteArray}:(xs.any λy=>decide (y.pod=p/\y.cont=c))=true↔∃ a∈xs.map (aj W),iq a=(p,c):=by
 rw [List.any_eq_true];constructor
 ·rintro ⟨y,hy,h⟩;obtain ⟨h1,h2⟩:=of_decide_eq_true h;exact ⟨aj W y,Qk.2 ⟨y,hy,rfl⟩,by show (y.pod,y.cont)=(p,c);rw [h1,h2]⟩
 ·rintro ⟨a,ha,h⟩;obtain ⟨y,hy,rfl⟩:=Qk.1 ha;have e1:y.pod=p:=congrArg Prod.fst h;have e2:y.cont=c:=congrArg Prod.snd h;exact ⟨y,hy,Qc ⟨e1,e2⟩⟩
theorem Kk (Be Bd Bm n:Nat) (sn sk:Sd) (C:Rn->Prop) (p c:ByteArray) (W:World) (h:bw W Be Bd Bm n sn sk C) (hp:p.size<=7000) (hc:c.size<=7000) (hh:∃ a,C a/\iq a=(p,c)) :
  Calls prog 104 #[.pointer (some ⟨Be,0,none⟩),.string p,.string c] W λe W'=>e=.returned .nilIface/\bw W' Be Bd Bm n sn sk (λa=>C a/\iq a≠(p,c))/\bd Bd Bm W W':=by
 obtain ⟨h1,h2,xs,h3,h4,h5⟩:=h;obtain ⟨Hf,He,_⟩:=mY h1 h3 h2;have Ha:(xs.any λy=>decide (y.pod=p/\y.cont=c))=true:=by
  obtain ⟨a,ha,hn⟩:=hh;exact yJ.2 ⟨a,(h5 a).2 ha,hn⟩
 refine (Kf Be Bd Bm n sn sk (.slice none 0 0) xs p c (-1) false W h1 h3 h2 ⟨by decide,by decide⟩ hp hc).mono ?_;rw [Ha];rintro e W' ⟨rfl,hs⟩;refine ⟨rfl,⟨h1.block (hs.out.block Be h1.lt Hf He),hs.disk,_,hs.yes rfl,?_⟩,hs.out⟩;have hk:=hs.out.kint h2.notInt h3.notInt;obtain ⟨k1,k2⟩:=lA h4 hk;refine ⟨λx hx=>k1 x (List.mem_filter.1 hx).1,λa=>?_⟩;constructor
 ·intro ha;obtain ⟨x,hx,rfl⟩:=Qk.1 ha;obtain ⟨Hc,Hb⟩:=List.mem_filter.1 hx
  have:aj W' x∈xs.map (aj W):=by rw [<- k2];exact Qk.2 ⟨x,Hc,rfl⟩
  refine ⟨(h5 _).1 this,λen=>?_⟩;have e1:x.pod=p:=congrArg Prod.fst en;have e2:x.cont=c:=congrArg Prod.snd en;rw [Qc ⟨e1,e2⟩] at Hb;cases Hb
 ·rintro ⟨ha,hn⟩
  have:=(h5 a).2 ha
  rw [<- k2] at this;obtain ⟨x,hx,rfl⟩:=Qk.1 this;refine Qk.2 ⟨x,List.mem_filter.2 ⟨hx,?_⟩,rfl⟩;rw [Q7 λhh=>hn (by show (x.pod,x.cont)=(p,c);rw [hh.1,hh.2])];rfl
theorem Kl (Be Bd Bm n:Nat) (sn sk:Sd) (C:Rn->Prop) (x:RV) (W:World) (h:bw W Be Bd Bm n sn sk C) (hx:x.Short) (hdv:aS W x) (haw:ku Bd x) (hdn:x.dn<=1000) (hn:n<1000) (hno:∀ a,C a->iq a≠(x.pod,x.cont)) :
  Calls prog 105 #[.pointer (some ⟨Be,0,none⟩),.agg #[.string x.pod,.string x.cont,.int .u64 x.cpus,.slice x.da x.dn x.dc]] W λe W'=>e=.returned .nilIface/\bw W' Be Bd Bm (n+1) sn sk (λa=>C a\/a=aj W x)/\bd Bd Bm W W':=by
 obtain ⟨h1,h2,xs,h3,h4,h5⟩:=h;obtain ⟨Hb,Hc,_⟩:=mY h1 h3 h2;have Ha:(xs.any λy=>decide (y.pod=x.pod/\y.cont=x.cont))=false:=by
  cases hb:(xs.any λy=>decide (y.pod=x.pod/\y.cont=x.cont)) with
  | false=>rfl
  | true=>
   obtain ⟨a,ha,e⟩:=(yJ (W:=W)).1 hb;exact absurd e (hno a ((h5 a).1 ha))
 refine (J8 Be Bd Bm n sn sk (.slice none 0 0) xs x (-1) false W h1 h3 h2 ⟨by decide,by decide⟩ hx hdv haw hdn hn).mono ?_;rw [Ha];rintro e W' ⟨rfl,hs⟩;obtain ⟨a',c',hm,ho,hd⟩:=hs.yes rfl;refine ⟨rfl,⟨h1.block (hs.out.block Be h1.lt Hb Hc),hs.disk,_,hm,?_⟩,hs.out⟩;have hk:=hs.out.kint h2.notInt h3.notInt;obtain ⟨k1,k2⟩:=lA h4 hk;refine ⟨λy hy=>?_,λa=>?_⟩
 ·rcases List.mem_cons.1 hy with rfl|hy
  ·exact ⟨ho,hdn⟩
  ·exact k1 y hy
 ·rw [Qq,List.mem_cons,k2];have e:aj W' { x with da:=a',dc:=c' }=aj W x:=by unfold aj;rw [hd]
  rw [e];constructor
  ·rintro (ha|ha)
   ·exact .inr ha
   ·exact .inl ((h5 a).1 ha)
  ·rintro (ha|ha)
   ·exact .inr ((h5 a).2 ha)
   ·exact .inl ha
end
end Go.Proofs.YtbmmnflgnmjboaaGreatDoor
namespace Go.Proofs
open Go.Shelf
shelf_lay_g SlLaysH0.n8 Slgf 8 at Tryz 141 as Tryz.contR
end Go.Proofs
namespace Go.Proofs.YtbmmnflgnmjboaaGreatDoor
section
open RowKit Shelf
attribute [local go_sem] Oper.semAt_some
abbrev RVd (w:World):Type:={ y:RV // aS w y/\y.dn<=1000 }
instance (w:World):Inhabited (RVd w):=⟨⟨⟨ByteArray.empty,ByteArray.empty,0,none,0,0⟩,λh=>absurd h (Nat.lt_irrefl 0),Nat.zero_le _⟩⟩
theorem m7 (W:World) (y:RV):(aG W y).length=y.dn:=by simp [aG]
theorem yK {W:World} {y:RV} (h:aS W y):0<(aG W y).length->∃ b o,y.da=some ⟨b,o,none⟩/\b<W.heap.size/\∀ k,k<(aG W y).length->W.cell? ⟨b,o+k,none⟩=some (.int .i64 ((aG W y).getD k 0)):=by
 rw [m7];intro h0;obtain ⟨g,o,ha,hg,hc⟩:=h h0;refine ⟨g,o,ha,hg,λk hk=>?_⟩;rw [hc k hk]
 simp [aG,hk]
theorem Km (x y:RV) (w:World) (hx:aS w x/\x.dn<=1000) (hy:aS w y/\y.dn<=1000):Calls prog 143 #[.slice x.da x.dn x.dc,.slice y.da y.dn y.dc] w λe w'=>e=.returned (.bool (decide (aG w x=aG w y)))/\∃ n,w'=w.drewN n:=by
 have:=Kb x.da y.da x.dc y.dc (aG w x) (aG w y) w (by rw [m7];exact hx.2) (by rw [m7];exact hy.2) (yK hx.1) (yK hy.1)
 rw [m7,m7] at this;exact this
def cY (w:World) (x r:RV):Bool:=decide (x.pod=r.pod) && (decide (x.cont=r.cont) && (decide (x.cpus=r.cpus) && decide (aG w x=aG w r)))
theorem yL {w:World} {x r:RV}:cY w x r=true↔aj w x=aj w r:=by
 unfold cY aj
 simp
def bC (r:RV):Obj:=.cells #[.string r.pod,.string r.cont,.int .u64 r.cpus,.slice r.da r.dn r.dc] 111
theorem Kn (r:RV) (B:Nat) (w:World) (hB:w.heap[B]?=some (bC r)) (hr:aS w r/\r.dn<=1000) :
  PredBelow prog 142 #[.pointer (some ⟨B,0,none⟩)] (λx:RVd w=>.agg (RV.cells x.1).toArray) (λx=>cY w x.1 r) w:=λW x hb=>by
 obtain ⟨x,hx⟩:=x;have He:B<w.heap.size:=(gS hB).1;have Ha:W.heap[B]?=some (bC r):=(hb.block B He).trans hB;unfold bC at Ha;have b0:(W.alloc (jH x.pod x.cont x.cpus x.da x.dn x.dc)).cell? ⟨B,0,none⟩=some (.string r.pod):=aa (bj Ha _) 0;have b1:(W.alloc (jH x.pod x.cont x.cpus x.da x.dn x.dc)).cell? ⟨B,1,none⟩=some (.string r.cont):=aa (bj Ha _) 1;have b2:(W.alloc (jH x.pod x.cont x.cpus x.da x.dn x.dc)).cell? ⟨B,2,none⟩=some (.int .u64 r.cpus):=aa (bj Ha _) 2;have b3:(W.alloc (jH x.pod x.cont x.cpus x.da x.dn x.dc)).cell? ⟨B,3,none⟩=some (.slice r.da r.dn r.dc):=aa (bj Ha _) 3;have Hf:B≠W.heap.size:=by have:=hb.size;omega
 have HB:=qI (hb.alloc hb.size (jH x.pod x.cont x.cpus x.da x.dn x.dc));have Hc:=hx.1.below HB.out λ_ _ _ h=>h;have Hb:=hr.1.below HB.out λ_ _ _ h=>h;have HE:=qI (Km x r _ ⟨Hc.1,hx.2⟩ ⟨Hb.1,hr.2⟩);rw [Hc.2,Hb.2] at HE;have h1:=kW x.pod r.pod;have h2:=kW x.cont r.cont;have h3:(x.cpus == r.cpus)=decide (x.cpus=r.cpus):=by rw [Bool.eq_iff_iff];simp
 show Calls prog 142 #[.agg #[.string x.pod,.string x.cont,.int .u64 x.cpus,.slice x.da x.dn x.dc],.pointer (some ⟨B,0,none⟩)] W λe w'=>e=.returned (.bool (cY w x r))/\Below w.heap.size w w'
 unfold cY;clear hb Ha Hc Hb hx hr hB
 rcases two (decide (x.pod=r.pod)) with g1|g1
 ·rw [g1] at h1 ⊢
  rcases two (decide (x.cont=r.cont)) with g2|g2
  ·rw [g2] at h2 ⊢
   rcases two (decide (x.cpus=r.cpus)) with g3|g3
   ·rw [g3] at h3 ⊢;clear g1 g2 g3;generalize decide (aG w x=aG w r)=bb at *
    go_enter func142,ntmps142
    go_wp2_with fail
    refine HE.out.mono ?_;rintro e w' ⟨rfl,nq,rfl⟩
    go_wp2
    go_ret;exact ⟨rfl,below_drewN HB.out nq⟩
   ·rw [g3] at h3 ⊢;clear g1 g2 g3
    go_enter func142,ntmps142
    go_wp2
    go_ret;exact ⟨rfl,HB.out⟩
  ·rw [g2] at h2 ⊢;clear g1 g2 h3
   go_enter func142,ntmps142
   go_wp2
   go_ret;exact ⟨rfl,HB.out⟩
 ·rw [g1] at h1 ⊢;clear g1 h2 h3
  go_enter func142,ntmps142
  go_wp2
  go_ret;exact ⟨rfl,HB.out⟩
theorem Ko (ys:List RV) (r:RV) (B g c:Nat) (w:World) (hB:w.heap[B]?=some (bC r)) (hr:aS w r/\r.dn<=1000) (hg:g<w.heap.size) (hys:∀ y∈ys,aS w y/\y.dn<=1000) (hc:∀ k,k<ys.length->∀ i v,(RV.cells (rv ys k))[i]?=some v->w.cell? ⟨g,0+k*4+i,none⟩=some v) (hl:ys.length<=1000) :
  Calls prog 141 #[.slice (some ⟨g,0,none⟩) ys.length c,.func (.func 142) #[] #[.pointer (some ⟨B,0,none⟩)]] w λe w'=>e=.returned (.bool (ys.any λy=>cY w y r))/\Below w.heap.size w w':=by
 have eg:∀ args w,(callFunc 142 args).run prog w=.ok (.enter 142 args) w:=enters_of func142 (by kernel_rfl) rfl;have Ha:(ys.attachWith (λy=>aS w y/\y.dn<=1000) hys).length=ys.length:=by simp
 have Hb:=AnyQ.slices_ContainsFunc Tryz.contR 4 isAgg111 sizeOf111 (λx:RVd w=>RV.cells x.1) (λ_=>rfl) (λx=>cY w x.1 r) 142 #[.pointer (some ⟨B,0,none⟩)] eg g 0 ys.length c (ys.attachWith (λy=>aS w y/\y.dn<=1000) hys) w
  (Kn r B w hB hr) (by rw [Ha];exact lR) (by omega) hg (λj hj i v hi=>by
   have Hc:j<ys.length:=by rw [<- Ha];exact hj
   refine hc j Hc i v ?_;have e:(ys.attachWith (λy=>aS w y/\y.dn<=1000) hys)[j]! = (⟨rv ys j,hys _ (kw Hc)⟩:RVd w):=by
    rw [getElem!_pos _ j hj];apply Subtype.ext
    simp [rv,Hc]
   rw [e] at hi;exact hi)
 have e2:(((ys.attachWith (λy=>aS w y/\y.dn<=1000) hys).take ys.length).any λx=>cY w x.1 r)=ys.any λy=>cY w y r:=by
  rw [List.take_of_length_le (by rw [Ha];exact lR)]
  have:ys=(ys.attachWith (λy=>aS w y/\y.dn<=1000) hys).map Subtype.val:=by simp
  conv=>rhs;rw [this,List.any_map]
  rfl
 change Calls prog 141 _ _ _ at Hb
 rw [<- e2];exact Hb
theorem index_none (a:Option Addr) (c g:Nat) (f:Array Value) (w:World):Calls prog 181 #[.slice a 0 c,.func (.func g) #[] f] w λe w'=>e=.returned (.int .i64 (-1))/\w'=w:=by
 go_enter func181,ntmps181
 go_wp2
 go_loopw [8] (λi wr=>i=.int .i64 0/\wr=w) (λ_ _=>0)
 case atStart=>exact ⟨rfl,rfl⟩
 case round=>
  obtain ⟨rfl,rfl⟩:=hrel
  go_wp2
  go_ret;exact ⟨rfl,rfl⟩
theorem Kp (a:Option Addr) (c g:Nat) (f:Array Value) (w:World):Calls prog 141 #[.slice a 0 c,.func (.func g) #[] f] w λe w'=>e=.returned (.bool false)/\w'=w:=by
 have HI:=qI (index_none a c g f w)
 go_enter func141,ntmps141
 go_wp2_with fail
 refine HI.out.mono ?_;rintro e w' ⟨rfl,rfl⟩
 go_wp2
 go_ret;exact ⟨rfl,rfl⟩
theorem Kq {w:World} {g k:Nat} {x:RV} (h:gh w g k x):∀ i v,(RV.cells x)[i]?=some v->w.cell? ⟨g,0+k*4+i,none⟩=some v:=by
 intro i v hv;rw [Qd]
 match i,hv with
 | 0,hv=>simp [RV.cells] at hv;subst hv;exact h.1.1
 | 1,hv=>simp [RV.cells] at hv;subst hv;exact h.1.2.1
 | 2,hv=>simp [RV.cells] at hv;subst hv;exact h.1.2.2.1
 | 3,hv=>simp [RV.cells] at hv;subst hv;exact h.1.2.2.2
 | n+4,hv=>simp [RV.cells] at hv
theorem gh.alloc {w:World} {g k:Nat} {x:RV} (h:gh w g k x) (hg:g<w.heap.size) (o:Obj):gh (w.alloc o) g k x:=by
 have hb:(w.alloc o).heap[g]?=w.heap[g]?:=Below.heap_alloc _ _ _ hg;obtain ⟨⟨a,b,c,d⟩,e,f,g2,i⟩:=h;have cc:∀ j,(w.alloc o).cell? ⟨g,j,none⟩=w.cell? ⟨g,j,none⟩:=λj=>World.cell?_of_block (a:=⟨g,j,none⟩) hb
 have ff:∀ j,(w.alloc o).frozen? ⟨g,j,none⟩=w.frozen? ⟨g,j,none⟩:=λj=>by simp [World.frozen?,hb]
 exact ⟨⟨by rw [cc];exact a,by rw [cc];exact b,by rw [cc];exact c,by rw [cc];exact d⟩,by rw [ff];exact e,by rw [ff];exact f,by rw [ff];exact g2,by rw [ff];exact i⟩
theorem yM (v:Value) (ys:List RV) (r:RV) (base:Nat) (w:World) (hv:iW base w v ys) (hys:∀ y∈ys,aS w y/\y.dn<=1000) (hr:aS w r/\r.dn<=1000) (hl:ys.length<=1000) :
  Calls prog 103 #[v,.agg #[.string r.pod,.string r.cont,.int .u64 r.cpus,.slice r.da r.dn r.dc]] w λe w'=>e=.returned (.bool (ys.any λy=>cY w y r))/\Below w.heap.size w w':=by
 have HB:=qI ((Q0 w.heap.size w).alloc (lR) (bC r));have Ha:∀ y,aS w y->aS (w.alloc (bC r)) y/\aG (w.alloc (bC r)) y=aG w y:=λy hy=>hy.below HB.out λ_ _ _ h=>h
 have Hc:=Ha r hr.1;have He:Hid ((w.alloc (bC r)).heap[w.heap.size]?=some (bC r)):=aD w (bC r) rfl;obtain ⟨a,c,rfl,Hi,Hb⟩:=hv;have HC:Hid (Calls prog 141 #[.slice a ys.length c,.func (.func 142) #[] #[.pointer (some ⟨w.heap.size,0,none⟩)]] (w.alloc (bC r)) λe w'=>e=.returned (.bool (ys.any λy=>cY w y r))/\Below w.heap.size w w'):=by
  unfold Hid
  by_cases h0:0<ys.length
  ·obtain ⟨g,rfl,Hj,Hg,Hh⟩:=Hb h0;have Hf:g<(w.alloc (bC r)).heap.size:=by simp;omega
   refine (Ko ys r w.heap.size g c (w.alloc (bC r)) He.out ⟨Hc.1,hr.2⟩ Hf (λy hy=>⟨(Ha y (hys y hy).1).1,(hys y hy).2⟩) (λk hk=>Kq ((Hh k hk).alloc Hg _)) hl).mono ?_;rintro e w' ⟨rfl,hb⟩;refine ⟨?_,HB.out.trans (hb.mono HB.out.size)⟩;have e2:(ys.any λy=>cY (w.alloc (bC r)) y r)=ys.any λy=>cY w y r:=by
    have ht:∀ y∈ys,cY (w.alloc (bC r)) y r=cY w y r:=λy hy=>by unfold cY;rw [(Ha y (hys y hy).1).2,Hc.2]
    rw [Bool.eq_iff_iff,List.any_eq_true,List.any_eq_true];constructor
    ·rintro ⟨y,hy,h⟩;exact ⟨y,hy,by rw [<- ht y hy];exact h⟩
    ·rintro ⟨y,hy,h⟩;exact ⟨y,hy,by rw [ht y hy];exact h⟩
   rw [e2]
  ·have e0:ys=[]:=List.length_eq_zero_iff.1 (by omega);subst e0;refine (Kp a c _ _ (w.alloc (bC r))).mono ?_;rintro e w' ⟨rfl,rfl⟩;exact ⟨rfl,HB.out⟩
 unfold bC at HC;clear Hc Ha Hb He HB hys hr;generalize (ys.any λy=>cY w y r)=bb at *
 go_enter func103,ntmps103
 go_wp2_with fail
 refine HC.out.mono ?_;rintro e w' ⟨rfl,hb⟩
 go_wp2
 go_ret;exact ⟨rfl,hb⟩
end
section
open RowKit Shelf
attribute [local go_sem] Oper.semAt_some
theorem sj {a b:ByteArray} (h:a≠b):(a.toList == b.toList)=false:=by
 rw [Qr];intro e;rw [Qs,Qs] at e;exact h (ByteArray.ext (Array.toList_inj.1 e))
theorem yN {w:World} {x:RV} (h:aS w x):qY w x.da (aG w x)/\(aG w x).length=x.dn:=by
 have hl:(aG w x).length=x.dn:=by simp [aG]
 refine ⟨λh0=>?_,hl⟩;obtain ⟨g,o,ha,hg,hc⟩:=h (by omega);refine ⟨g,o,ha,hg,λk hk=>?_⟩;have hk':k<x.dn:=by omega
 rw [hc k hk']
 simp [aG,hk']
theorem Kr (x y:RV) (w:World) (hx:aS w x) (hy:aS w y) (lx:x.dn<=1000) (ly:y.dn<=1000) :
  Calls prog 40 #[.agg #[.string x.pod,.string x.cont,.int .u64 x.cpus,.slice x.da x.dn x.dc],.agg #[.string y.pod,.string y.cont,.int .u64 y.cpus,.slice y.da y.dn y.dc]] w (oA (aj w x=aj w y) w):=by
 obtain ⟨O1,Hj⟩:∃ o:Obj,o=.cells #[.string x.pod,.string x.cont,.int .u64 x.cpus,.slice x.da x.dn x.dc] 111:=⟨_,rfl⟩;obtain ⟨O2,Hk⟩:∃ o:Obj,o=.cells #[.string y.pod,.string y.cont,.int .u64 y.cpus,.slice y.da y.dn y.dc] 111:=⟨_,rfl⟩;have He:=(Q0 w.heap.size w).alloc (lR) O1;have Hc:=He.alloc He.size O2;obtain ⟨p1,p2⟩:=hx.below Hc λ_ _ _ h=>h;obtain ⟨q1,q2⟩:=hy.below Hc λ_ _ _ h=>h;obtain ⟨p3,p4⟩:=yN p1;obtain ⟨q3,q4⟩:=yN q1;have Hi:=vV x.da y.da x.dc y.dc _ _ _ (by rw [p4];unfold maxLen;omega) (by rw [q4];unfold maxLen;omega) p3 q3;rw [p4,q4,p2,q2] at Hi;have Hg:=qI Hc;have Hh:=qI Hi;have Hf:Hid (aj w x=aj w y->x.pod=y.pod/\x.cont=y.cont/\x.cpus=y.cpus/\aG w x=aG w y):=λe=>by
  unfold aj at e;simp only [Rn.mk.injEq] at e;exact e
 subst Hj Hk;clear He Hc p1 p2 q1 q2 p3 p4 q3 q4 Hi hx hy lx ly;generalize aj w x=ax at *;generalize aj w y=ay at *;generalize aG w x=dx at *;generalize aG w y=dy at *;obtain ⟨xp,xc,xu,xa,xn,xk⟩:=x;obtain ⟨yp,yc,yu,ya,yn,yk⟩:=y;dsimp only at *;have fin:∀ (c:Bool) (w3:World),Below w.heap.size w w3->(¬ ax=ay\/c=true)->oA (ax=ay) w (.returned (.bool c)) w3:=λc w3 hb h=>⟨c,rfl,λe=>h.elim (λk=>absurd e k) id,hb⟩
 have FIN:=qI fin;clear fin
 by_cases h1:xp=yp
 ·subst h1
  by_cases h2:xc=yc
  ·subst h2
   by_cases h3:xu=yu
   ·subst h3
    go_enter func40,ntmps40
    go_wp2_with fail
    refine Hh.out.mono ?_;rintro e w3 ⟨b,rfl,Hb,n3,rfl⟩;have Ha:=qI (below_drewN Hg.out n3);have Hl:=qI Hb;clear Hb
    rcases two b with rfl|rfl
    ·go_wp2
     go_ret;exact FIN.out _ _ Ha.out (.inr rfl)
    ·go_wp2
     go_ret;exact FIN.out _ _ Ha.out (.inl λe=>by cases Hl.out (Hf.out e).2.2.2)
   ·have HN:=qI h3;have Hm:(xu == yu)=false:=by simpa using h3
    clear h3
    go_enter func40,ntmps40
    go_wp2_with fail
    refine Hh.out.mono ?_;rintro e w3 ⟨b,rfl,Hb,n3,rfl⟩;have Ha:=qI (below_drewN Hg.out n3);clear Hb
    go_wp2
    go_ret;exact FIN.out _ _ Ha.out (.inl λe=>HN.out ((Hf.out e).2.2.1))
  ·have HN:=qI h2;have Hc:=sj h2;clear h2
   go_enter func40,ntmps40
   go_wp2_with fail
   refine Hh.out.mono ?_;rintro e w3 ⟨b,rfl,Hb,n3,rfl⟩;have Ha:=qI (below_drewN Hg.out n3);clear Hb
   go_wp2
   go_ret;exact FIN.out _ _ Ha.out (.inl λe=>HN.out ((Hf.out e).2.1))
 ·have HN:=qI h1;have He:=sj h1;clear h1
  go_enter func40,ntmps40
  go_wp2_with fail
  refine Hh.out.mono ?_;rintro e w3 ⟨b,rfl,Hb,n3,rfl⟩;have Ha:=qI (below_drewN Hg.out n3);clear Hb
  go_wp2
  go_ret;exact FIN.out _ _ Ha.out (.inl λe=>HN.out ((Hf.out e).1))
end
section
open RowKit Shelf
open Qos (Nd Ct Pd nd ct pd)
open Sv (Gv Hd gv hd aB)
attribute [local go_sem] Oper.semAt_some
theorem gh.blockO {w w':World} {g k:Nat} {x:RV} (h:gh w g k x) (hb:w'.heap[g]?=w.heap[g]?):gh w' g k x:=by
 obtain ⟨⟨a,b,c,d⟩,e,f,g2,i⟩:=h;have cc:∀ j,w'.cell? ⟨g,j,none⟩=w.cell? ⟨g,j,none⟩:=λj=>World.cell?_of_block (a:=⟨g,j,none⟩) hb
 have ff:∀ j,w'.frozen? ⟨g,j,none⟩=w.frozen? ⟨g,j,none⟩:=λj=>by simp [World.frozen?,hb]
 exact ⟨⟨by rw [cc];exact a,by rw [cc];exact b,by rw [cc];exact c,by rw [cc];exact d⟩,by rw [ff];exact e,by rw [ff];exact f,by rw [ff];exact g2,by rw [ff];exact i⟩
theorem kx {base:Nat} {W W':World} {v:Value} {ys:List RV} (h:iW base W v ys) (hk:∀ j,base<=j->j<W.heap.size->W'.heap[j]?=W.heap[j]?) (hs:W.heap.size<=W'.heap.size):iW base W' v ys:=by
 obtain ⟨a,c,hv,Ha,hr⟩:=h;refine ⟨a,c,hv,Ha,λh0=>?_⟩;obtain ⟨g,ha,hg,hl,hc⟩:=hr h0;exact ⟨g,ha,hg,Q1 hl hs,λk hk2=>(hc k hk2).blockO (hk g hg hl)⟩
theorem yO {base:Nat} {w:World} {v:Value} {ys:List RV} (h:bP base w v ys):iW base w v ys:=by
 have h':=h
 rcases h.2 with ⟨hv,hn⟩|⟨g,cap,cur,hv,hg,Ha,Hb,Hc,_⟩
 ·exact ⟨none,0,by rw [hv,hn],by omega,λh0=>by omega⟩
 ·subst hv;refine ⟨_,cap,rfl,Hb,λ_=>⟨g,rfl,hg,(gS Ha).1,λk hk=>?_⟩⟩;have fz:∀ j,w.frozen? ⟨g,j,none⟩=false:=λj=>by simp [World.frozen?,Ha]
  have cc:∀ j,j<4->w.cell? ⟨g,k*4+j,none⟩=(RV.cells (rv ys k))[j]?:=λj hj=>by
   rw [World.ownsRow.cellAt h' (k*4+j) (by omega)];exact yj ys k hk j hj
  exact ⟨⟨cc 0 (by decide),cc 1 (by decide),cc 2 (by decide),cc 3 (by decide)⟩,fz _,fz _,fz _,fz _⟩
theorem yP {W W':World} {y:RV} (h:aS W y) (hf:∀ g o,0<y.dn->y.da=some ⟨g,o,none⟩->W'.heap[g]?=W.heap[g]?) (hs:W.heap.size<=W'.heap.size):aS W' y/\aG W' y=aG W y:=by
 by_cases h0:0<y.dn
 ·exact o5 h (λg o ha _=>hf g o h0 ha) hs
 ·refine ⟨λh1=>absurd h1 h0,?_⟩
  have:y.dn=0:=by omega
  simp [aG,this]
abbrev gk (Bd Bm:Nat):Nat->Prop:=λb=>b=Bd\/b=Bm
theorem Ks {Bd Bm:Nat} {W W':World} (h:bd Bd Bm W W'):aq (ag (gk Bd Bm) W) (ag (gk Bd Bm) W'):=
 bE (λj hj hn=>⟨hn,h.block j hj (λe=>hn (.inl e)) λe=>hn (.inr e)⟩) h.size
theorem zed {Bd Bm:Nat} {w W:World} {z:RV × Rn} (h:it (ag (gk Bd Bm) w) z) (ho:bd Bd Bm w W):aS W z.1/\aj W z.1=z.2/\ku Bd z.1/\z.1.dn=z.2.devs.length:=by
 obtain ⟨h1,h2,h3,h4⟩:=h;have h5:=h4.le (Ks ho);obtain ⟨d1,d2,d3⟩:=se (h5.le (cC _ _));refine ⟨d1,?_,?_,d3⟩
 ·unfold aj;rw [h1,h2,h3,d2]
 ·intro h0 g o ha e;obtain ⟨d1,_,_⟩:=se h5;obtain ⟨g2,o2,Ha,_,hc⟩:=d1 h0;rw [ha] at Ha;injection Ha with Ha
  injection Ha with e1 e2
  subst e1;exact eP (hc 0 h0) (.inl e)
theorem yQ {W:World} {ys:List RV} {r:RV}:(ys.any λy=>cY W y r)=true↔aj W r∈ys.map (aj W):=by
 rw [List.any_eq_true,Qk];constructor
 ·rintro ⟨y,hy,h⟩;exact ⟨y,hy,yL.1 h⟩
 ·rintro ⟨y,hy,h⟩;exact ⟨y,hy,yL.2 h⟩
open Classical in
noncomputable def dK (rs ws:List Rn):Nat:=(ws.filter λr=>decide (r ∉ rs)).length
theorem yR (rs ws:List Rn):dK rs ws<=ws.length:=List.length_filter_le _ _
theorem Kt {rs ws:List Rn} {k:Nat} (h:k<ws.length):dK rs (ws.take k)<=dK rs (ws.take (k+1))/\(ws[k] ∉ rs->dK rs (ws.take (k+1))=dK rs (ws.take k)+1):=by
 unfold dK;rw [Qa h,List.filter_append,Q2];refine ⟨Nat.le_add_right _ _,λhn=>?_⟩
 simp [hn]
theorem so (Be Bd Bm n:Nat) (sn sk:Sd) (rs:List Rn) (v:Value) (hs:List Hd) (w:World) (hE:bw w Be Bd Bm n sn sk (λa=>a∈rs)) (hH:aJ (ag (gk Bd Bm) w) v hs) (hF:aB hs=0) (hn:n+36<=1000) :
  Calls prog 57 #[.pointer (some ⟨Be,0,none⟩),v] w λe w'=>e=.returned .nilIface/\(∃ n',n'<=n+dK rs (ap hs)/\bw w' Be Bd Bm n' sn sk λa=>a∈ap hs)/\bd Bd Bm w w':=by
 obtain ⟨h3,hV,hX⟩:=hE.lt;obtain ⟨h5,hY,h8⟩:=hE.apart;have HE:=qI hE;have hL:=qI (yB hF);have hP:=qI (sd hF);have H9:=qI (yC hF);obtain ⟨f1,f2,_⟩:=Ol.bO.1 hF;have HI:=qI λ(W:World) (l:aq (ag (gk Bd Bm) w) W)=>Kg v hs W _ hH l (by omega) λx hx=>⟨(f2 x hx).2.1,by have:=(Sv.fD (f2 x hx).1).2.2.1;have:=(f2 x hx).2.1;omega⟩;obtain ⟨he,hd,xs,hm,HS,H6⟩:=hE;have hA:xs.length<=1000:=by
  obtain ⟨_,es,ho,hp⟩:=hm;have h1:=ho.size_le;have h2:=hp.length_eq;unfold iS at h2;rw [Q9] at h2;rw [Go.Maps.size_eq] at h1;omega
 have Hu:=qI (yx Be Bd Bm n xs w he hm hA λx hx=>⟨(HS x hx).1.1,(HS x hx).2⟩);have hg:=qI H6;have hv:=qI hm.1;have HO:=qI (yD (W:=w) hm.keys);obtain ⟨ao,c,rfl,_,_⟩:=hH;clear hF f1 f2 he hd hm HS H6
 go_enter func57,ntmps57
 go_wp2_with fail
 refine Hu.out.mono ?_;rintro e W1 ⟨⟨v1,ys,rfl,hi,hf,Hb,_⟩,Hr⟩;have hU:=qI Hr;clear Hu
 go_wp2_with fail
 refine (HI.out W1 ((cC _ _).trans (aq.of_below Hr))).mono ?_;rintro e W2 ⟨v2,zs,rfl,hz,hl,hb,Hz⟩;clear HI;have h6:=Hr.size;have h4:=Hz.size;have hT:=qI (Hr.trans (Hz.mono Hr.size));have HP:=qI (bd.of_below (B1:=Bd) (B2:=Bm) (Hr.trans (Hz.mono Hr.size)));have H5:=qI (kx hi (λj _ hj=>Hz.block j hj) Hz.size);have H0:=qI (yO hl);have HX:Hid (∀ y∈ys,((aS W2 y/\y.dn<=1000)/\ip w.heap.size y)/\aj W2 y=aj W1 y):=λy hy=>by
  obtain ⟨⟨d1,d2⟩,d3⟩:=hf y hy;obtain ⟨e1,e2⟩:=d1.below Hz λ_ _ _ h=>h;exact ⟨⟨⟨e1,d2⟩,d3⟩,by unfold aj;rw [e2]⟩
 have Hk:ys.map (aj W2)=ys.map (aj W1):=List.map_congr_left λy hy=>(HX.out y hy).2
 have HJ:Hid (∀ a,a∈ys.map (aj W2)↔a∈rs):=λa=>by rw [Hk,Hb.mem_iff];exact hg.out a
 have hu:Hid (((ys.map (aj W2)).map iq).Nodup):=by unfold Hid;rw [Hk];exact (Hb.map iq).nodup_iff.2 HO.out
 have hW:ys.length<=1000:=by
  have:=Hb.length_eq
  rw [Q9,Q9] at this;omega
 have hS:Hid (∀ y∈ys,y.Short):=λy hy=>by
  have h1:aj W1 y∈xs.map (aj w):=Hb.mem_iff.1 (Qk.2 ⟨y,hy,rfl⟩);obtain ⟨x,hx,e⟩:=Qk.1 h1
  have:=hv.out x hx
  have e1:x.pod=y.pod:=congrArg Rn.pod e;have e2:x.cont=y.cont:=congrArg Rn.cont e;unfold RV.Short at *;rw [<- e1,<- e2];exact this
 have HZ:=qI hz;have HL:=qI hb;have hZ:zs.length<=36:=by
  have:=hP.out
  rw [<- hz,Q9] at this;exact this
 have hJ:=qI (HE.out.below hT.out);clear hi hf Hb Hr Hz hz hl hb Hk HO hg;obtain ⟨a1,c1,hM,_,_⟩:=id H5.out;subst hM;obtain ⟨a2,c2,hq,_,_⟩:=id H0.out;rw [Q9] at hq;subst hq
 go_wp2
 go_loopw [19] (λi wr=>∃ k:Nat,k<=ys.length/\i=.int .i64 k/\bw wr Be Bd Bm n sn sk (λa=>a∈ys.map (aj W2)/\(a∈ap hs\/a∈(ys.map (aj W2)).drop k))/\bd Bd Bm W2 wr) (λi _=>ys.length - (intOf i).toNat)
 case atStart=>exact ⟨0,by omega,rfl,hJ.out.congr (λa=>by rw [List.drop_zero,HJ.out a];exact ⟨λh=>⟨h,.inr h⟩,λh=>h.1⟩),bd.refl _ _ _⟩
 case round=>
  obtain ⟨k,hk,rfl,HH,Ha⟩:=hrel;have Hs:=qI HH;have HA:=qI Ha;have hN:=Ha.size;clear HH
  by_cases hlt:k<ys.length
  ·have HT:=kx H5.out (W':=wr) (λj hj hjl=>Ha.block j hjl (by omega) (by omega)) Ha.size;obtain ⟨a1',c1',HY,_,Hn⟩:=HT;injection HY with e1 e2 e3
   subst e1 e3;obtain ⟨g,rfl,hr,hw,HN⟩:=Hn (by omega);obtain ⟨⟨x0,x1,x2,x3⟩,_⟩:=HN k hlt;have HC:=kw hlt;obtain ⟨⟨⟨d1,d2⟩,d3⟩,_⟩:=HX.out _ HC;obtain ⟨hO,ht⟩:=hS.out _ HC;have HD:(ys.map (aj W2))[k]'(by rw [Q9];exact hlt)=aj W2 (rv ys k):=by simp [rv,hlt]
   obtain ⟨d4,d5⟩:=yP (W':=wr) d1 (λgg oo h0 ha=>by
    obtain ⟨g2,Hi,hD⟩:=d3 h0;rw [ha] at Hi;injection Hi with Hi
    injection Hi with Hi
    subst Hi;obtain ⟨g4,o4,Hj,HU,_⟩:=d1 h0;rw [ha] at Hj;injection Hj with Hj
    injection Hj with Hj
    subst Hj;exact Ha.block _ HU (by omega) (by omega)) Ha.size
   have Hf:=qI ((Q0 wr.heap.size wr).alloc (lR) (bC (rv ys k)));obtain ⟨d6,d7⟩:=d4.below Hf.out λ_ _ _ h=>h;have Hw:Hid (aj (wr.alloc (bC (rv ys k))) (rv ys k)=aj W2 (rv ys k)):=by unfold Hid aj;rw [d7,d5]
   have Hy:=qI ((HP.out.trans Ha).trans (bd.of_below Hf.out));have He:=qI (yM (.slice a2 zs.length c2) (zs.map Prod.fst) (rv ys k) W1.heap.size (wr.alloc (bC (rv ys k))) (kx (kx H0.out (λj hj hjl=>Ha.block j hjl (by omega) (by omega)) Ha.size) (λj _ hjl=>Hf.out.block j hjl) Hf.out.size) (λy hy=>by
    obtain ⟨z,hz,rfl⟩:=Qk.1 hy;obtain ⟨q1,_,_,q4⟩:=zed (HL.out z hz) Hy.out
    have:=(H9.out z.2 (by rw [<- HZ.out];exact Qk.2 ⟨z,hz,rfl⟩)).2.2
    exact ⟨q1,by omega⟩) ⟨d6,d2⟩ (by rw [Q9];omega))
   have Hc:Hid ((((zs.map Prod.fst).any λy=>cY (wr.alloc (bC (rv ys k))) y (rv ys k))=true)↔(ys.map (aj W2))[k]'(by rw [Q9];exact hlt)∈ap hs):=by
    unfold Hid;rw [yQ,Hw.out,HD,List.map_map];have e:zs.map (aj (wr.alloc (bC (rv ys k))) ∘ Prod.fst)=ap hs:=by
     rw [<- HZ.out];exact List.map_congr_left λz hz=>(zed (HL.out z hz) Hy.out).2.1
    rw [e]
   have Hh:Hid ((wr.alloc (bC (rv ys k))).heap[wr.heap.size]?=some (bC (rv ys k))):=aD wr (bC (rv ys k)) rfl;have Hg:k<(ys.map (aj W2)).length:=by rw [Q9];exact hlt
   have HF:=qI HD;have hK:(k:Int)<(ys.length:Int):=by omega
   have HR:(wr.alloc (bC (rv ys k))).heap.size=wr.heap.size+1:=by simp
   clear HN Hn d1 d2 d3 d4 d5 d6 d7 HD HC;generalize rv ys k=y at *;unfold bC at He Hh Hf HR Hc Hy;generalize ((zs.map Prod.fst).any λz=>cY _ z y)=bb at *
   go_wp2_with fail
   generalize wr.alloc (.cells #[.string y.pod,.string y.cont,.int .u64 y.cpus,.slice y.da y.dn y.dc] 111)=W3 at *;refine He.out.mono ?_;rintro e W4 ⟨rfl,Hv⟩;have Ho:=qI (Hf.out.trans (Hv.mono (by omega)));have Hp:=(Hv.block wr.heap.size (by omega)).trans Hh.out;have b0:W4.cell? ⟨wr.heap.size,0,none⟩=some (.string y.pod):=aa Hp 0;have b1:W4.cell? ⟨wr.heap.size,1,none⟩=some (.string y.cont):=aa Hp 1;clear Hv Hp He x0 x1 x2 x3
   rcases two bb with HB|HB
   ·subst HB;have HW:=qI (Hc.out.1 rfl)
    go_wp2
    go_roundw
    case rel=>exact ⟨k+1,by omega,by go_num,(Hs.out.below Ho.out).congr λa=>(Ol.GB Hg HW.out a).symm,HA.out.trans (bd.of_below Ho.out)⟩
    case measure=>simp [intOf];omega
   ·subst HB;have HW:Hid ((ys.map (aj W2))[k]'Hg ∉ ap hs):=λh=>by have:=Hc.out.2 h;cases this
    have Ht:=qI (Kk Be Bd Bm n sn sk _ y.pod y.cont W4 (Hs.out.below Ho.out) hO ht ⟨(ys.map (aj W2))[k]'Hg,⟨List.getElem_mem Hg,.inr (by rw [List.drop_eq_getElem_cons Hg];exact List.mem_cons_self ..)⟩,by rw [HF.out];rfl⟩)
    go_wp2_with fail
    refine Ht.out.mono ?_;rintro e W5 ⟨rfl,HM,HG⟩;have HV:=qI HM;have H2:=qI ((HA.out.trans (bd.of_below Ho.out)).trans HG);clear HM HG Ht
    go_wp2
    go_roundw
    case rel=>exact ⟨k+1,by omega,by go_num,HV.out.congr (λa=>by rw [Ol.GA iq Hg hu.out HW.out a,HF.out];rfl),H2.out⟩
    case measure=>simp [intOf];omega
  ·have H3:k=ys.length:=by omega
   subst H3;have hG:Hid (bw wr Be Bd Bm n sn sk λa=>a∈ap hs/\(a∈ys.map (aj W2)\/a∈(ap hs).take 0)):=Hs.out.congr (λa=>by
    have:=Ol.GC (runs:=ys.map (aj W2)) (wanted:=ap hs) a
    rw [Q9] at this;exact this)
   generalize hwm:wr=WM at *;clear hwm Hs
   go_wp2
   go_loopw [38] (λi wr=>∃ k m:Nat,k<=zs.length/\i=.int .i64 k/\m<=n+dK rs ((ap hs).take k)/\bw wr Be Bd Bm m sn sk (λa=>a∈ap hs/\(a∈ys.map (aj W2)\/a∈(ap hs).take k))/\bd Bd Bm W2 wr) (λi _=>zs.length - (intOf i).toNat)
   case atStart=>exact ⟨0,n,by omega,rfl,by omega,hG.out,HA.out⟩
   case round=>
    obtain ⟨k,m,hk,rfl,H7,HH,Ha⟩:=hrel;have Hs:=qI HH;have HA:=qI Ha;have hN:=Ha.size;clear HH
    by_cases hlt:k<zs.length
    ·have HT:=kx H0.out (W':=wr) (λj hj hjl=>Ha.block j hjl (by omega) (by omega)) Ha.size;obtain ⟨a2',c2',HY,_,Hn⟩:=HT;injection HY with e1 e2 e3
     subst e1 e3;clear e2;obtain ⟨g,rfl,hr,hw,HN⟩:=Hn (by rw [Q9];omega);have Hm:zs[k]∈zs:=List.getElem_mem hlt;have HK:rv (zs.map Prod.fst) k=zs[k].1:=by simp [rv,hlt]
     have hc:=HN k (by rw [Q9];exact hlt);rw [HK] at hc;obtain ⟨⟨x0,x1,x2,x3⟩,_⟩:=hc;have Hg:k<(ap hs).length:=by rw [<- HZ.out,Q9];exact hlt
     have HD:(ap hs)[k]'Hg=zs[k].2:=by simp [<- HZ.out]
     have Hf:=qI ((Q0 wr.heap.size wr).alloc (lR) (bC zs[k].1));have Hy:=qI ((HP.out.trans Ha).trans (bd.of_below Hf.out));obtain ⟨q1,q2,q3,q4⟩:=zed (HL.out _ Hm) Hy.out;obtain ⟨sh1,sh2,sh3⟩:=H9.out zs[k].2 (by rw [<- HZ.out];exact Qk.2 ⟨_,Hm,rfl⟩);obtain ⟨p1,p2,p3,p4⟩:=HL.out _ Hm;clear p3 p4;have HQ:Hid (∀ y∈ys,aS (wr.alloc (bC zs[k].1)) y/\y.dn<=1000/\aj (wr.alloc (bC zs[k].1)) y=aj W2 y):=λy hy=>by
      obtain ⟨⟨⟨d1,d2⟩,d3⟩,_⟩:=HX.out y hy;obtain ⟨d4,d5⟩:=yP (W':=wr.alloc (bC zs[k].1)) d1 (λgg oo h0 ha=>by
       obtain ⟨g2,Hi,hD⟩:=d3 h0;rw [ha] at Hi;injection Hi with Hi
       injection Hi with Hi
       subst Hi;obtain ⟨g4,o4,Hj,HU,_⟩:=d1 h0;rw [ha] at Hj;injection Hj with Hj
       injection Hj with Hj
       subst Hj;exact (Hf.out.block _ (by omega)).trans (Ha.block _ HU (by omega) (by omega))) (Q5 Ha.size Hf.out.size)
      exact ⟨d4,d2,by unfold aj;rw [d5]⟩
     have He:=qI (yM (.slice a1 ys.length c1) ys zs[k].1 w.heap.size (wr.alloc (bC zs[k].1)) (kx (kx H5.out (λj hj hjl=>Ha.block j hjl (by omega) (by omega)) Ha.size) (λj _ hjl=>Hf.out.block j hjl) Hf.out.size) (λy hy=>⟨(HQ.out y hy).1,(HQ.out y hy).2.1⟩) ⟨q1,by omega⟩ (by omega));have Hc:Hid (((ys.any λy=>cY (wr.alloc (bC zs[k].1)) y zs[k].1)=true)↔(ap hs)[k]'Hg∈ys.map (aj W2)):=by
      unfold Hid;rw [yQ,q2,HD,List.map_congr_left λy hy=>(HQ.out y hy).2.2]
     have Hh:Hid ((wr.alloc (bC zs[k].1)).heap[wr.heap.size]?=some (bC zs[k].1)):=aD wr (bC zs[k].1) rfl;have HF:=qI HD;have Hq:=qI (HL.out _ Hm);have hh:=qI (Kt (rs:=rs) Hg);have Hx:=yR rs ((ap hs).take k);rw [Qu] at Hx;have hK:(k:Int)<(zs.length:Int):=by omega
     have HR:(wr.alloc (bC zs[k].1)).heap.size=wr.heap.size+1:=by simp
     clear HN Hn q1 q2 q3 HD Hm HQ HK;generalize zs[k]=z at *;obtain ⟨y,r⟩:=z;dsimp only at x0 x1 x2 x3 He Hh Hf HR Hc Hy HF Hq sh1 sh2 sh3 p1 p2 q4;have hR:y.pod.size<=7000:=by rw [p1];exact sh1
     have hI:y.cont.size<=7000:=by rw [p2];exact sh2
     have h7:y.dn<=16:=by omega
     clear p1 p2 q4;have H4:=qI Hx;clear Hx;unfold bC at He Hh Hf HR Hc Hy;generalize (ys.any λz=>cY _ z y)=bb at *
     go_wp2_with fail
     generalize wr.alloc (.cells #[.string y.pod,.string y.cont,.int .u64 y.cpus,.slice y.da y.dn y.dc] 111)=W3 at *;refine He.out.mono ?_;rintro e W4 ⟨rfl,Hv⟩;have Ho:=qI (Hf.out.trans (Hv.mono (by omega)));have Hp:=(Hv.block wr.heap.size (by omega)).trans Hh.out;have b0:W4.cell? ⟨wr.heap.size,0,none⟩=some (.string y.pod):=aa Hp 0;have b1:W4.cell? ⟨wr.heap.size,1,none⟩=some (.string y.cont):=aa Hp 1;have b2:W4.cell? ⟨wr.heap.size,2,none⟩=some (.int .u64 y.cpus):=aa Hp 2;have b3:W4.cell? ⟨wr.heap.size,3,none⟩=some (.slice y.da y.dn y.dc):=aa Hp 3;clear Hv Hp He x0 x1 x2 x3
     rcases two bb with HB|HB
     ·subst HB;have HW:=qI (Hc.out.1 rfl)
      go_wp2
      go_roundw
      case rel=>exact ⟨k+1,m,by omega,by go_num,by have:=hh.out.1;omega,(Hs.out.below Ho.out).congr λa=>(Ol.GD Hg HW.out a).symm,HA.out.trans (bd.of_below Ho.out)⟩
      case measure=>simp [intOf];omega
     ·subst HB;have HW:Hid ((ap hs)[k]'Hg ∉ ys.map (aj W2)):=λh=>by have:=Hc.out.2 h;cases this
      obtain ⟨q1,q2,q3,q5⟩:=zed Hq.out ((HP.out.trans Ha).trans (bd.of_below Ho.out));clear q5;dsimp only at q1 q2 q3;have Hl:=qI (Kl Be Bd Bm m sn sk _ y W4 (Hs.out.below Ho.out) ⟨hR,hI⟩ q1 q3 (by omega) (by have:=H4.out;omega) (λa ha=>by
       have:=Ol.GE iq Hg hL.out HW.out a ha
       rw [HF.out,<- q2] at this;exact this))
      have Hw:Hid (aj W4 y=(ap hs)[k]'Hg):=by unfold Hid;rw [q2,HF.out]
      have hC:Hid (∀ a,((a∈ap hs/\(a∈ys.map (aj W2)\/a∈(ap hs).take k))\/a=aj W4 y)↔(a∈ap hs/\(a∈ys.map (aj W2)\/a∈(ap hs).take (k+1)))):=λa=>by
       rw [Hw.out];exact (Ol.wJ Hg a).symm
      have hB:Hid (m+1<=n+dK rs ((ap hs).take (k+1))):=by
       unfold Hid
       have:=hh.out.2 λh=>HW.out ((HJ.out _).2 h)
       omega
      clear q1 q2 q3
      go_wp2_with fail
      refine Hl.out.mono ?_;rintro e W5 ⟨rfl,HM,HG⟩;have HV:=qI HM;have H2:=qI ((HA.out.trans (bd.of_below Ho.out)).trans HG);clear HM HG Hl
      go_wp2
      go_roundw
      case rel=>exact ⟨k+1,m+1,by omega,by go_num,hB.out,HV.out.congr hC.out,H2.out⟩
      case measure=>simp [intOf];omega
    ·have H3:k=zs.length:=by omega
     subst H3;have H8:(ap hs).length=zs.length:=by rw [<- HZ.out,Q9]
     have H1:Hid (∃ n',n'<=n+dK rs (ap hs)/\bw wr Be Bd Bm n' sn sk λa=>a∈ap hs):=by
      refine ⟨m,?_,Hs.out.congr λa=>?_⟩
      ·rw [<- H8,Qh] at H7;exact H7
      ·rw [<- H8];exact Ol.step_end a
     go_wp2
     go_ret;exact ⟨rfl,H1.out,HP.out.trans HA.out⟩
end
