import Derived.Test.YtbmmnflgnmjboaaGreatDoorA37
import Derived.Test.YtbmmnflgnmjboaaGreatDoorA35
set_option maxRecDepth 100000
set_option maxHeartbeats 16000000
open Go.Proofs.Tryz
namespace Go.Proofs.YtbmmnflgnmjboaaGreatDoor
section
open RowKit Shelf
open Qos (Nd Ct Pd nd ct pd ag aB)
open Sv (Gv Hd gv hd)
open Dvs (Dv dv nth aL)
attribute [local go_sem] Oper.semAt_some
structure zZ (x:Ct) (g:Gv):Prop where
 sum:∀ j,j<=x.ds.length->0<=fv x.ds j/\fv x.ds j<=1000
 many:fv x.ds x.ds.length=g.dv.length
 few:x.ds.length<=1000
 devs:g.dv.length<=16
 am:0<=x.am/\x.am<=1000000
theorem nE {K:Nat->Prop} {F0 W W':World} (h:az F0 W) (ha:Apart K W W') (hK:∀ j o,K j->F0.cell? ⟨j,o,none⟩=none):az F0 W':=
 ⟨Q5 h.size ha.size,λb o v e=>by
  have h1:=h.cell b o v e
  by_cases hk:K b
  ·rw [hK b o hk] at e;cases e
  ·exact (fq (ha.block b (Q3 W ⟨b,o,none⟩ h1) hk) o).trans h1⟩
theorem Aa {K:Nat->Prop} {W W':World} {B:Nat} {f:Nat->Bool} (h:bU W B f) (ha:Apart K W W') (hK:¬ K B):bU W' B f:=λj hj=>by
 have hb:=ha.block B h.lt hK;refine ⟨(fq hb _).trans (h j hj).1,?_⟩
 have:=(h j hj).2
 unfold World.frozen? at *;dsimp only at *;rw [hb];exact this
theorem Nl {F0:World} {base:Nat} (h:F0.heap.size<=base) {j:Nat} (hj:base<=j) (o:Nat):F0.cell? ⟨j,o,none⟩=none:=by
 cases e:F0.cell? ⟨j,o,none⟩ with
 | none=>rfl
 | some v=>
  have:=Q3 F0 ⟨j,o,none⟩ e
  have:j<F0.heap.size:=this
  omega
theorem Nn (c2 c8 c17 c18 c19 c20:Value) (F:Nat->Value) (F0 X:World) (base Bp Bi hb ho hl lc i:Nat) (wa:Option Addr) (wc:Nat) (x:Hd) (pa ga:Option Addr) (pcc gc:Nat) (ds:List Dv) (S:Nat->Ol.Sk) (pv0:Value) (zs:List (RV × Rn)) (rp:List Rn)
  (hle:az F0 X) (hbs:F0.heap.size<=base) (hbX:base<=X.heap.size) (hBp:base<=Bp) (hBi:Bi<base) (hfree:∀ o,F0.cell? ⟨Bi,o,none⟩=none) (hpx:X.heap[Bp]?=some (.cells #[.string x.pod.nm,.int .i64 x.pod.pr,.slice pa x.pod.cs.length pcc] 47)) (hcon:aD F0 (.slice pa x.pod.cs.length pcc) x.pod.cs) (hgc:F0.cell? ⟨hb,ho+i*4+3,none⟩=some (.slice ga x.gs.length gc)) (hgiv:bl F0 (.slice ga x.gs.length gc) x.gs) (hgl:x.gs.length=x.pod.cs.length) (h3:x.gs.length<=3) (hi:i<hl) (_hhl:hl<=100)
  (hS:∀ k,k<x.gs.length->Ol.xI ds (S k) (gv x.gs k) (aB x.pod.cs (ct x.pod.cs k).am) (S (k+1))) (hS64:∀ k,k<=x.gs.length->(S k).cp<18446744073709551616) (hN:∀ k,k<x.gs.length->zZ (ct x.pod.cs k) (gv x.gs k)) (hds:ds.length<=16)
  (hz:zs.map Prod.snd=rp) (hzl:zs.length<=200) (hrow:bS base X pv0 (zs.map Prod.fst)) (hzz:∀ z∈zs,iB F0 z) (hbits:bU X Bi (S 0).us) :
  Code.wp prog (Code.loop (gu 1)) (kF 2 λa w'=>∃ (pv:Value) (zq:List (RV × Rn)),FrS (λF=>frS c2 (.int .u64 ((S x.gs.length).cp:Nat)) c8 (.slice wa ds.length wc) (.pointer (some ⟨Bi,0,none⟩)) (.slice (some ⟨hb,ho,none⟩) hl lc) (pv) (.int .i64 (i:Nat)) (F 14) (F 16) (F 17) (F 18) (F 19) (F 20) F) (λW'=>(zq.map Prod.snd=rp++(List.range x.gs.length).map (iA x)/\zq.length=zs.length+x.gs.length)/\bS base W' pv (zq.map Prod.fst)/\(∀ z∈zq,iB F0 z)/\bU W' Bi (S x.gs.length).us/\Apart (λj=>j=Bi\/base<=j) X W') a w') (frS c2 (.int .u64 ((S 0).cp:Nat)) c8 (.slice wa ds.length wc) (.pointer (some ⟨Bi,0,none⟩)) (.slice (some ⟨hb,ho,none⟩) hl lc) (pv0) (.int .i64 (i:Nat)) (.pointer (some ⟨Bp,0,none⟩)) (.int .i64 0) c17 c18 c19 c20 F) X:=by
 obtain ⟨ga',gc',hh,h7,ht⟩:=hgiv.parts;have HR:ga=ga':=by injection hh with e
 subst HR;obtain ⟨pa',pc',hA,hT,he⟩:=id hcon;have HO:pa=pa':=by injection hA with e
 subst HO;have hZ:=qI hle;have HK:=qI hfree;have hF:=qI hpx;have HF:=qI hcon;have Ja:=qI hgc;have hV:=qI ht;have hM:=qI he;have HS:=qI hS;have HM:=qI hS64;have h8:=qI hN;have HV:=qI hgl;have HZ:Hid (zs.map Prod.snd=rp++(List.range 0).map (iA x)):=by unfold Hid;rw [hz];simp
 have H3:=qI hrow;have hG:=qI hzz;have hX:=qI hbits;have hJ:Bp<X.heap.size:=(gS hpx).1;clear hh h7 ht hA hT he hle hfree hpx hcon hgc hgiv hS hS64 hN hgl hz hrow hzz hbits
 conv=>enter [2,1];unfold gu;whnf
 refine sJ (λm a wq=>∃ (k:Nat) (zq:List (RV × Rn)) (lv pv kv:Value),m+k=x.gs.length/\kv=.int .i64 k/\lv=.int .u64 ((S k).cp:Nat)/\FrS (λF=>frS c2 (lv) c8 (.slice wa ds.length wc) (.pointer (some ⟨Bi,0,none⟩)) (.slice (some ⟨hb,ho,none⟩) hl lc) (pv) (.int .i64 (i:Nat)) (.pointer (some ⟨Bp,0,none⟩)) (kv) (F 17) (F 18) (F 19) (F 20) F) (λwq=>zq.map Prod.snd=rp++(List.range k).map (iA x)/\zq.length=zs.length+k/\bS base wq pv (zq.map Prod.fst)/\(∀ z∈zq,iB F0 z)/\bU wq Bi (S k).us/\Apart (λj=>j=Bi\/(base<=j/\j≠Bp)) X wq) a wq) x.gs.length ?_ ?_
 ·exact ⟨0,zs,.int .u64 ((S 0).cp:Nat),pv0,.int .i64 0,rfl,rfl,rfl,FrS.mk (by kernel_rfl) ⟨HZ.out,rfl,H3.out,hG.out,hX.out,Apart.refl _ _⟩⟩
 ·rintro m a wr ⟨k,zq,lv,pv,kv,Je,rfl,rfl,F5,rfl,hr,hf,HI,hzz,hE,HB⟩ K hK;have hk:k<=x.gs.length:=by omega
  simp only [frS,tlS,Nat.reduceAdd];(try dsimp only);have H5:wr.heap[Bp]?=some (.cells #[.string x.pod.nm,.int .i64 x.pod.pr,.slice pa x.pod.cs.length pcc] 47):=(HB.block Bp hJ (by rintro (e|⟨_,e⟩);omega;exact e rfl)).trans hF.out;have hs:az F0 wr:=nE hZ.out HB (λj o e=>by rcases e with e|e;rw [e];exact HK.out o;exact Nl hbs e.1 o);have HL:=qI HB;have H2:=qI hE;have hg:=qI hr;have Hm:=qI hzz;have hx:=qI hf;have hO:=HB.size;have h9:zq.length<=203:=by omega
  obtain ⟨va,vc,hv⟩:=fH HI;rw [Q9] at hv;subst hv;have HT:=qI HI;have HE:=qI hs;have HY:=qI H5;have b2:wr.cell? ⟨Bp,2,none⟩=some (.slice pa x.pod.cs.length pcc):=ad H5 2;clear HB hE hr hzz HI hf hs H5
  by_cases hlt:k<x.gs.length
  ·have Ho:k<x.pod.cs.length:=by have:=HV.out;omega
   obtain ⟨gb,go',dvv,HR,h4,g0,g1,eM⟩:=hV.out k hlt;subst HR;obtain ⟨cb,co,cdv,HO,Ha⟩:=hM.out (by omega);subst HO;obtain ⟨na,nc,HU,Hu⟩:=(Ha.2 k Ho).2;obtain ⟨ia,ic,hc,h2,hy⟩:=id eM;have Hk:=qI (HS.out k hlt);have Hc:=qI (h8.out k hlt);have ha:=HM.out k hk;have hq:=(HE.out.cell _ _ _ g0);rw [hc] at g1 eM;have H8:=(HE.out.cell _ _ _ g1);have h6:=(HE.out.cell _ _ _ Ja.out);have H4:=qI eM;have hC:Hid (bf F0 (.slice na (ct x.pod.cs k).ds.length nc) (ct x.pod.cs k).ds):=by
    have:=(Ha.2 k Ho).2
    rw [HU] at this;exact this
   have hD:∀ j,j<6->F0.cell? ⟨cb,co+k*6+j,none⟩=([.string (ct x.pod.cs k).nm,.int .i64 (ct x.pod.cs k).am,.int .i64 (ct x.pod.cs k).ab,.int .i64 (ct x.pod.cs k).cm,.int .i64 (ct x.pod.cs k).cb,.slice na (ct x.pod.cs k).ds.length nc]:List Value)[j]?:=by
    have:=(Ha.2 k Ho).1
    rw [HU] at this;exact this
   have hw:=qI hD;have HN:cb<base:=Q1 Ha.1 hbs;have H9:Hid (∀ b o,ia=some ⟨b,o,none⟩->0<(gv x.gs k).dv.length->b≠Bi):=λb o e h0 e2=>by
    obtain ⟨b',o',e3,_,e4⟩:=hy h0;rw [e] at e3;injection e3 with e3
    injection e3 with e5 e6
    subst e5 e6
    have:=e4 0 h0
    rw [e2,HK.out] at this;cases this
   have Hj:Hid (iA x k=⟨x.pod.nm,(ct x.pod.cs k).nm,((gv x.gs k).cp:Int),(gv x.gs k).dv⟩):=rfl;have Hi:(gv x.gs k).cp<18446744073709551616:=by
    have h1:=Hk.out.cp
    have:(gv x.gs k).cp &&& (S k).cp<=(S k).cp:=Nat.and_le_right
    rw [h1] at this;omega
   have HW:Hid ((S (k+1)).cp=Ost.dif (S k).cp (gv x.gs k).cp/\(S (k+1)).us=aL (S k).us (gv x.gs k).dv):=by
    unfold Hid;rw [Hk.out.next];exact ⟨rfl,rfl⟩
   have H1:=iO (S k).cp (gv x.gs k).cp ha Hi;rw [<- HW.out.1] at H1;clear hD Ha HU Hu hc h2 hy eM g0 g1;obtain ⟨cx,hn⟩:∃ q,q=ct x.pod.cs k:=⟨_,rfl⟩;obtain ⟨gx,hp⟩:∃ q,q=gv x.gs k:=⟨_,rfl⟩;rw [<- hn] at hC hw Hc Hj Hk;rw [<- hp] at H4 H9 Hc Hj Hk HW H1 hq H8 Hi;clear hn hp;have HX:Hid (∀ W,az F0 W->∀ j,j<6->W.cell? ⟨cb,co+k*6+j,none⟩=([.string cx.nm,.int .i64 cx.am,.int .i64 cx.ab,.int .i64 cx.cm,.int .i64 cx.cb,.slice na cx.ds.length nc]:List Value)[j]?):=λW hl j hj=>by
    obtain ⟨v,hv⟩:∃ v,([.string cx.nm,.int .i64 cx.am,.int .i64 cx.ab,.int .i64 cx.cm,.int .i64 cx.cb,.slice na cx.ds.length nc]:List Value)[j]?=some v:=⟨_,Qf hj⟩;rw [hv];exact hl.cell _ _ _ ((hw.out j hj).trans hv)
   have Jb:(k:Int)<(x.gs.length:Int):=by omega
   have HQ:=qI ((Q0 wr.heap.size wr).alloc (lR) (.cells #[.int .u64 (gx.cp:Nat),.slice ia gx.dv.length ic] 69));have Hp:=qI (aF wr (.cells #[.int .u64 (gx.cp:Nat),.slice ia gx.dv.length ic] 69) rfl);obtain ⟨Bg,H6⟩:∃ B,B=wr.heap.size:=⟨_,rfl⟩;rw [<- H6] at Hp
   go_upto_region 23 with fail
   rw [<- H6];generalize wr.alloc (.cells #[.int .u64 (gx.cp:Nat),.slice ia gx.dv.length ic] 69)=Q at *;clear hq H8 h6 b2;have Hl:az F0 Q:=HE.out.trans (az.of_below HQ.out);have Hg:=qI Hl;have H7:Bp<wr.heap.size:=(gS HY.out).1;have Hb:=qI ((HQ.out.block Bp H7).trans HY.out);have He:=qI (HF.out.le Hl);clear Hl;have hQ:Bg<Q.heap.size:=(gS Hp.out).1;have HJ:Bp<Q.heap.size:=(gS Hb.out).1;have hL:Bp<Bg:=by omega
   have hW:base<=Bg:=by omega
   have Hq:=qI (H2.out.below HQ.out);have Ht:Hid (bS base Q (.slice va zq.length vc) (zq.map Prod.fst)):=iL HT.out HQ.out;have Hw:=qI (HL.out.trans (Apart.of_below HQ.out));have hY:=HQ.out.size;have HG:x.pod.cs.length<=1000:=by have:=HV.out;omega
   clear HT HL H2 HY HQ H6;refine pk (G:=(λF=>frS c2 (.int .u64 ((S k).cp:Nat)) c8 (.slice wa ds.length wc) (.pointer (some ⟨Bi,0,none⟩)) (.slice (some ⟨hb,ho,none⟩) hl lc) (.slice va zq.length vc) (.int .i64 (i:Nat)) (.pointer (some ⟨Bp,0,none⟩)) (.int .i64 (k:Nat)) (.pointer (some ⟨Bg,0,none⟩)) (F 18) (F 19) (F 20) F)) (by kernel_rfl) (λF1=>MD _ _ _ _ _ _ _ _ _ _ F1 Q Bp Bg cb co pcc k gx.cp (S k).cp gx.dv.length ia ic x.pod cx na nc Hb.out Hp.out Ho HG (HX.out Q Hg.out) He.out Hi ha Hk.out.cp Hk.out.cnt Hc.out.am.1 Hc.out.am.2) ?_;rintro a W1 ⟨F1,rfl,Hf⟩;have Hz:=qI ((Hf.block Bg hQ).trans Hp.out);have H0:=qI ((Hf.block Bp HJ).trans Hb.out);have HC:=qI (Hg.out.trans (az.of_below Hf));have Hs:=qI (Hq.out.below Hf);have Hh:Hid (bS base W1 (.slice va zq.length vc) (zq.map Prod.fst)):=iL Ht.out Hf;have Hy:=qI (Hw.out.trans (Apart.of_below Hf));have hR:=Hf.size;have z0:W1.cell? ⟨Bg,0,none⟩=some (.int .u64 (gx.cp:Nat)):=ad Hz.out 0;clear Hf Hp Hb Hg Hq Ht Hw He;simp only [frB,tlS,Nat.reduceAdd];(try dsimp only)
   go_wp2_with fail
   clear z0 H1;refine lI (G:=(λF=>frS c2 (.int .u64 ((S (k+1)).cp:Nat)) c8 (.slice wa ds.length wc) (.pointer (some ⟨Bi,0,none⟩)) (.slice (some ⟨hb,ho,none⟩) hl lc) (.slice va zq.length vc) (.int .i64 (i:Nat)) (.pointer (some ⟨Bp,0,none⟩)) (.int .i64 (k:Nat)) (.pointer (some ⟨Bg,0,none⟩)) (.int .i64 0) (.int .i64 0) (F 20) F)) (by kernel_rfl) (λF2=>Nk _ _ _ _ _ _ _ _ _ _ F2 W1 Bp cb co pcc k x.pod.cs.length na nc cx.ds (ad H0.out 2) Ho HG (HX.out W1 HC.out 5 (by decide)) (hC.out.le HC.out) Hc.out.sum Hc.out.few) ?_;rintro a W2 ⟨F2,rfl,rfl⟩;rw [Hc.out.many];have z1:W2.cell? ⟨Bg,1,none⟩=some (.slice ia gx.dv.length ic):=ad Hz.out 1;simp only [frS,tlS,Nat.reduceAdd];(try dsimp only)
   go_wp2_with fail
   clear z1;refine lI (G:=(λF=>frS c2 (.int .u64 ((S (k+1)).cp:Nat)) c8 (.slice wa ds.length wc) (.pointer (some ⟨Bi,0,none⟩)) (.slice (some ⟨hb,ho,none⟩) hl lc) (.slice va zq.length vc) (.int .i64 (i:Nat)) (.pointer (some ⟨Bp,0,none⟩)) (.int .i64 (k:Nat)) (.pointer (some ⟨Bg,0,none⟩)) (F 18) (F 19) (.int .i64 0) F)) (by kernel_rfl) (λF3=>MA _ _ _ _ _ _ _ _ _ _ F3 W2 Bg Bi wa ds.length wc ia ic gx.dv (S k).us (ad Hz.out 1) (H4.out.le HC.out) Hs.out (by omega) H9.out Hc.out.devs hds Hk.out.dv) ?_;rintro a W3 ⟨F3,rfl,hm,Hn⟩;have HD:Hid (bU W3 Bi (S (k+1)).us):=by unfold Hid;rw [HW.out.2];exact hm
   have Hr:=qI ((Hn.block Bg (by omega) (by omega)).trans Hz.out);have HA:=qI ((Hn.block Bp (by omega) (by omega)).trans H0.out);have hB:=qI (nE HC.out Hn (λj o e=>by rw [e];exact HK.out o));have Hx:Hid (bS base W3 (.slice va zq.length vc) (zq.map Prod.fst)):=wG Hh.out Hn (λj e1 e2=>by have:=(Hh.out.lt j e1).1;omega);have Hv:=qI (Hy.out.trans (Hn.wide λj e=>.inl e));have hP:=Hn.size;clear hm Hn Hz H0 HC Hs Hh Hy;simp only [frS,tlS,Nat.reduceAdd];(try dsimp only)
   go_upto_region 39 with fail
   refine pk (G:=(λF=>frS c2 (.int .u64 ((S (k+1)).cp:Nat)) c8 (.slice wa ds.length wc) (.pointer (some ⟨Bi,0,none⟩)) (.slice (some ⟨hb,ho,none⟩) hl lc) (.slice va zq.length vc) (.int .i64 (i:Nat)) (.pointer (some ⟨Bp,0,none⟩)) (.int .i64 (k:Nat)) (.pointer (some ⟨Bg,0,none⟩)) (F 18) (F 19) (F 20) F)) (by kernel_rfl) (λF4=>ME _ _ _ _ _ _ _ _ _ _ F4 W3 base Bp Bg cb co pcc k gx.cp gx.dv.length ia ic x.pod cx.nm va vc zq HA.out Hr.out Ho HG (HX.out W3 hB.out 0 (by decide)) HN Hx.out (by omega) (by omega)) ?_;rintro a W4 ⟨v',F4,rfl,hu,HP⟩;have hU:=qI hu;have hI:=qI (Hv.out.trans (HP.wide λj e=>.inr e));have HH:=qI (Aa HD.out HP (by omega));clear hu HP HD Hr HA hB Hx Hv;simp only [frS,tlS,Nat.reduceAdd];(try dsimp only)
   go_wp2
   refine hK.out _ _ ⟨m - 1,by omega,k+1,zq++[(⟨x.pod.nm,cx.nm,gx.cp,ia,gx.dv.length,ic⟩,⟨x.pod.nm,cx.nm,gx.cp,gx.dv⟩)],.int .u64 ((S (k+1)).cp:Nat),v',.int .i64 ((k:Int)+1),by omega,?_,rfl,FrS.mk (by kernel_rfl) ⟨?_,by rw [Q2,hx.out];simp;omega,by rw [Qj];exact hU.out,λz hz=>?_,HH.out,hI.out⟩⟩
   ·go_num
   ·rw [Qj,hg.out,List.range_succ,Qj,List.append_assoc,List.map_singleton,List.map_singleton,Hj.out]
   ·rcases Qi.1 hz with hz|hz
    ·exact Hm.out z hz
    ·rw [Qm.1 hz];exact ⟨rfl,rfl,rfl,H4.out⟩
  ·have hH:k=x.gs.length:=by omega
   subst hH;have h5:¬ ((x.gs.length:Int)<(x.pod.cs.length:Int)):=by have:=HV.out;omega
   have Jc:decide ((x.gs.length:Int)<(x.pod.cs.length:Int))=false:=Q7 h5;have Jd:¬ (x.gs.length<x.pod.cs.length):=by omega
   go_wp2
   exact ⟨rfl,_,zq,FrS.mk (by kernel_rfl) ⟨⟨hg.out,hx.out⟩,HT.out,by first|exact Hm.out|exact λa b h=>Hm.out (a,b) h,H2.out,HL.out.wide λj e=>e.imp id (·.1)⟩⟩
end
section
open RowKit Shelf
open Qos (Nd Ct Pd nd ct pd ag aB)
open Sv (Gv Hd gv hd)
open Dvs (Dv dv nth aL)
attribute [local go_sem] Oper.semAt_some
theorem No {K K':Nat->Prop} {A B C:World} (h:Apart K A B) (h2:Apart K' B C) (hk:∀ j,j<A.heap.size->K' j->K j):Apart K A C:=
 ⟨h2.os.trans h.os,h2.tape.trans h.tape,h2.output.trans h.output,Q5 h.size h2.size,λj hj hn=>(h2.block j (Q1 hj h.size) λe=>hn (hk j hj e)).trans (h.block j hj hn)⟩
theorem Np {m:Ol.Mc} {ds:List Dv} {hs:List Hd} {s:Ol.Sk} (h:Ol.left m ds hs=some s) (hm:m.op<18446744073709551616):∀ i,i<=hs.length->(Ol.stK m ds hs i 0).cp<18446744073709551616/\(i<hs.length->∀ k,k<=(hd hs i).gs.length->(Ol.stK m ds hs i k).cp<18446744073709551616):=by
 have Ha:∀ a b:Nat,a<18446744073709551616->Ost.dif a b<18446744073709551616:=λa b ha=>Ost.ii b ha
 have key:∀ i,i<hs.length->(Ol.stK m ds hs i 0).cp<18446744073709551616->∀ k,k<=(hd hs i).gs.length->(Ol.stK m ds hs i k).cp<18446744073709551616:=by
  intro i hi h0 k
  induction k with
  | zero=>intro _;exact h0
  | succ k ih=>
   intro hk;rw [(Ol.xM h hi hk).next];exact Ha _ _ (ih (by omega))
 intro i
 induction i with
 | zero=>intro _;exact ⟨hm,λhi=>key 0 hi hm⟩
 | succ i ih=>
  intro hi;have h1:=(ih (by omega)).2 (by omega) _ (lR);rw [<- Ol.xK] at h1;exact ⟨h1,λh2=>key _ h2 h1⟩
theorem Nq {t:Ol.St} (h:Ol.Inv t) {x:Hd} (hx:x∈t.hs) {k:Nat} (hk:k<x.gs.length):zZ (ct x.pod.cs k) (gv x.gs k):=by
 obtain ⟨_,a2,_⟩:=Ol.bY.1 h.held;obtain ⟨hp,hl,hg⟩:=a2 x hx;have Hc:k<x.pod.cs.length:=by omega
 have Hf:gv x.gs k∈x.gs:=Sv.oy hk;have He:=MY h x hx _ Hf;have Hb:=Ol.IL h (Ol.alike_refl _) x hx k hk;have hn:=Ol.lg hp _ (Sv.jB Hc);have Hg:=(Qos.jx hp).2 k Hc;have h0:∀ n∈(ct x.pod.cs k).ds,0<=n.many:=λn hn=>by rw [<- Hb.1 n hn];omega
 have Ha:fv (ct x.pod.cs k).ds (ct x.pod.cs k).ds.length=(gv x.gs k).dv.length:=by
  unfold fv;rw [Qh];exact Hb.2
 refine ⟨λj hj=>?_,Ha,Q5 (Nj Hb hn.1) (by omega),He,Hg.1⟩
 have:=Ol.IP h0 j hj
 unfold fv at *;rw [Qh] at Ha;omega
theorem Nr {hs:List Hd} {i:Nat} (h:∀ x∈hs,x.gs.length<=3) (hl:hs.length<=12):(au (hs.take i)).length<=36:=by
 have:=yH h i
 omega
abbrev sM:=λ(x0:Sv.Hd) (x1:Option Addr) (x2:Nat)=>(.cells #[.string x0.pod.nm,.int .i64 x0.pod.pr,.slice x1 x0.pod.cs.length x2] 47:Obj)
theorem Ns (c2 c14 c16 c17 c18 c19 c20:Value) (F:Nat->Value) (F0 U:World) (Br Bi lc wc:Nat) (la wa:Option Addr) (t:Ol.St) (s:Ol.Sk)
  (hle:az F0 U) (hbs:F0.heap.size<=U.heap.size) (hBr:Br<U.heap.size) (hBi:Bi<U.heap.size) (hne:Br≠Bi) (hf1:∀ o,F0.cell? ⟨Br,o,none⟩=none) (hf2:∀ o,F0.cell? ⟨Bi,o,none⟩=none) (hh:aQ F0 (.slice la t.hs.length lc) t.hs) (hInv:Ol.Inv t) (hs:Ol.left t.m t.ds t.hs=some s) (hop:t.m.op<18446744073709551616) (hnb:0<=t.m.nb/\t.m.nb<=1125899906842624) (hc64:Ost.cnt t.m.op<=64) (hro:U.heap[Br]?=some (.cells #[.int .i64 (1000*(Ost.cnt t.m.op:Int) - Ol.aY ((t.hs.take 0).map Hd.pod)),.int .i64 (t.m.nb - Ol.bD ((t.hs.take 0).map Hd.pod))] 60 (0,0))) (hbits:bU U Bi λ_=>false) :
  Code.wp prog (Code.loop (gu 0)) (kF 0 λa w'=>∃ (pv:Value) (zq:List (RV × Rn)),FrS (λF=>frS c2 (.int .u64 (s.cp:Nat)) (.pointer (some ⟨Br,0,none⟩)) (F 9) (F 10) (F 11) (pv) (F 13) (F 14) (F 16) (F 17) (F 18) (F 19) (F 20) F) (λW'=>zq.map Prod.snd=au t.hs/\bS U.heap.size W' pv (zq.map Prod.fst)/\(∀ z∈zq,iB F0 z)/\W'.heap[Br]?=some (.cells #[.int .i64 (1000*(Ost.cnt t.m.op:Int) - Ol.aY ((t.hs.take t.hs.length).map Hd.pod)),.int .i64 (t.m.nb - Ol.bD ((t.hs.take t.hs.length).map Hd.pod))] 60 (0,0))/\Apart (λj=>j=Br\/j=Bi) U W') a w') (frS c2 (.int .u64 (t.m.op:Nat)) (.pointer (some ⟨Br,0,none⟩)) (.slice wa t.ds.length wc) (.pointer (some ⟨Bi,0,none⟩)) (.slice la t.hs.length lc) (.slice none 0 0) (.int .i64 0) c14 c16 c17 c18 c19 c20 F) U:=by
 obtain ⟨a1,a2,a3⟩:=Ol.bY.1 hInv.held;have h9:=(Dvs.ie hInv.devs).1;obtain ⟨la',lc',hz,hZ,hG⟩:=id hh;have hla:la=la':=by injection hz with e
 subst hla;have h4:=qI hG;have Jg:=qI hle;have hp:=qI hf1;have hP:=qI hf2;have hU:=qI hInv;have hJ:=qI hs;have ha:=qI a2;have hW:=qI a3;have hY:=qI (Np hs hop);have hD:=qI (Ol.oS λx hx=>(a2 x hx).1);have Je:=qI hro;have Jf:=qI hbits;have Hn:=qI (MX hInv);clear hz hZ hG hle hf1 hf2 hh hInv hs a2 a3 hro hbits
 conv=>enter [2,1];unfold gu;whnf
 refine sJ (λm a wq=>∃ (i:Nat) (zq:List (RV × Rn)) (lv pv iv:Value),m+i=t.hs.length/\iv=.int .i64 i/\lv=.int .u64 ((Ol.stK t.m t.ds t.hs i 0).cp:Nat)/\FrS (λF=>frS c2 (lv) (.pointer (some ⟨Br,0,none⟩)) (.slice wa t.ds.length wc) (.pointer (some ⟨Bi,0,none⟩)) (.slice la t.hs.length lc) (pv) (iv) (F 14) (F 16) (F 17) (F 18) (F 19) (F 20) F) (λwq=>zq.map Prod.snd=au (t.hs.take i)/\bS U.heap.size wq pv (zq.map Prod.fst)/\(∀ z∈zq,iB F0 z)/\wq.heap[Br]?=some (.cells #[.int .i64 (1000*(Ost.cnt t.m.op:Int) - Ol.aY ((t.hs.take i).map Hd.pod)),.int .i64 (t.m.nb - Ol.bD ((t.hs.take i).map Hd.pod))] 60 (0,0))/\bU wq Bi (Ol.stK t.m t.ds t.hs i 0).us/\Apart (λj=>j=Br\/j=Bi) U wq) a wq) t.hs.length ?_ ?_
 ·exact ⟨0,[],.int .u64 (t.m.op:Nat),.slice none 0 0,.int .i64 0,rfl,rfl,rfl,FrS.mk (by kernel_rfl) ⟨rfl,Qw _ _ _ _,λx hx=>(List.not_mem_nil hx).elim,Je.out,Jf.out,Apart.refl _ _⟩⟩
 ·rintro m a wr ⟨i,zq,lv,pv,iv,Jw,rfl,rfl,F7,rfl,hF,HP,hu,hO,hT,Hz⟩ K hK;have hi:i<=t.hs.length:=by omega
  simp only [frS,tlS,Nat.reduceAdd];(try dsimp only);have Hm:Hid (az F0 wr):=nE Jg.out Hz (λj o e=>by rcases e with e|e;rw [e];exact hp.out o;rw [e];exact hP.out o);have HU:=qI hF;have HG:=qI hu;have Hy:=qI hO;have hQ:=qI hT;have HT:=qI Hz;have h7:=Hz.size;obtain ⟨va,vc,hv⟩:=fH HP;rw [Q9] at hv;subst hv;have HX:=qI HP;have h5:=hD.out i hi;clear hF hu hO hT Hz HP
  by_cases hlt:i<t.hs.length
  ·obtain ⟨hb,ho,cvv,gvv,h2,Jp⟩:=h4.out (by omega);subst h2;obtain ⟨Jq,Hg⟩:=Jp;obtain ⟨⟨q0,q1,q2,q3⟩,Hc,He⟩:=Hg i hlt;have Jy:zq.length<=36:=by
    have h1:zq.length=(au (t.hs.take i)).length:=by rw [<- HU.out,Q9]
    have:=Nr (i:=i) Hn.out a1
    omega
   obtain ⟨pa,pcc,hL,_⟩:=id Hc;obtain ⟨ga,gc,hA,_⟩:=He.parts;rw [hL] at q2 Hc;rw [hA] at q3 He;have Hv:hd t.hs i∈t.hs:=Sv.kb hlt;obtain ⟨HK,hI,_⟩:=ha.out _ Hv;have HY:=Hn.out _ Hv;have hl:Hid (0<i->F0.cell? ⟨hb,ho+(i - 1)*4,none⟩=some (.string (hd t.hs (i - 1)).pod.nm)/\Qos.leS (hd t.hs i).pod.nm (hd t.hs (i - 1)).pod.nm=false):=λh0=>by
    refine ⟨(Hg (i - 1) (by omega)).1.1,?_⟩
    have:=Ol.rn.1 hW.out i hlt
    unfold Sv.jA at this;rw [Qc h0,Bool.true_and] at this;exact this
   have H2:=qI (Qos.jx HK);have HV:=qI λk (hk:k<(hd t.hs i).gs.length)=>Ol.xM hJ.out hlt hk;have Ho:=qI ((hY.out i hi).2 hlt);have HH:=qI λk (hk:k<(hd t.hs i).gs.length)=>Nq hU.out Hv hk;have Hs:=qI (Ol.xK t.m t.ds t.hs i);have hV:=qI (yG hlt);have Hw:=qI (Ol.mC hlt);have Hx:=qI (Ol.mD hlt);have Hb:=hD.out (i+1) hlt;rw [Hw.out,Hx.out] at Hb;have Jl:=Qos.kT H2.out (lR);have Jc:=Qos.j8 H2.out (lR);have Hh:=qI Hc;have he:=qI He;have hq:=qI q3;have r0:=Hm.out.cell _ _ _ q0;have r1:=Hm.out.cell _ _ _ q1;have r2:=Hm.out.cell _ _ _ q2;have HZ:=qI hI;have Jn:=qI HK;clear Hg Hc He hL hA q0 q1 q2 q3 Hv hI HK;generalize hd t.hs (i - 1)=y at *;generalize hd t.hs i=x at *;obtain ⟨SM,H5⟩:∃ q,q=Qos.aO x.pod.cs x.pod.cs.length:=⟨_,rfl⟩;obtain ⟨SB,HL⟩:∃ q,q=Qos.aP x.pod.cs x.pod.cs.length:=⟨_,rfl⟩;rw [<- H5] at Hw Hb Jl;rw [<- HL] at Hx Hb Jc;obtain ⟨RA,HN⟩:∃ q,q=1000*(Ost.cnt t.m.op:Int) - Ol.aY ((t.hs.take i).map Hd.pod):=⟨_,rfl⟩;obtain ⟨RC,H3⟩:∃ q,q=t.m.nb - Ol.bD ((t.hs.take i).map Hd.pod):=⟨_,rfl⟩;have Jr:-100000000<=RA/\RA<=100000000:=by omega
   have Jt:-90000000000000000<=RC/\RC<=90000000000000000:=by omega
   have hC:Hid ((.cells #[.int .i64 (RA - SM),.int .i64 (RC - SB)] 60 (0,0):Obj)=.cells #[.int .i64 (1000*(Ost.cnt t.m.op:Int) - Ol.aY ((t.hs.take (i+1)).map Hd.pod)),.int .i64 (t.m.nb - Ol.bD ((t.hs.take (i+1)).map Hd.pod))] 60 (0,0)):=by
    unfold Hid;rw [Hw.out,Hx.out,HN,H3]
    congr 3
    ·rw [Int.sub_sub]
    ·rw [Int.sub_sub]
   rw [<- HN,<- H3] at Hy;have Hr:Hid (∀ V,aD V (.slice pa x.pod.cs.length pcc) x.pod.cs->Calls prog 37 #[.agg #[.string x.pod.nm,.int .i64 x.pod.pr,.slice pa x.pod.cs.length pcc]] V λe w'=>e=.returned (.agg #[.int .i64 SM,.int .i64 SB])/\Below V.heap.size V w'):=λV hc=>by
    have:=vt x.pod (.slice pa x.pod.cs.length pcc) V hc H2.out
    rw [<- H5,<- HL] at this;exact this
   clear H5 HL HN H3 h5 Hb Hw Hx;have HQ:=qI ((Q0 wr.heap.size wr).alloc (lR) (sM x pa pcc));have Hj:=qI (aF wr (sM x pa pcc) rfl);obtain ⟨Bp,H7⟩:∃ B,B=wr.heap.size:=⟨_,rfl⟩;rw [<- H7] at Hj
   go_upto_region 14 with fail
   rw [<- H7];generalize wr.alloc (sM x pa pcc)=Q at *;clear r0 r1 r2;have Jh:U.heap.size<=Bp:=by omega
   have h8:=HQ.out.size;clear H7;have hH:=qI (Hm.out.trans (az.of_below HQ.out));have Ji:Bp<Q.heap.size:=(gS Hj.out).1;have p0:Q.cell? ⟨Bp,0,none⟩=some (.string x.pod.nm):=ad Hj.out 0;have p1:Q.cell? ⟨Bp,1,none⟩=some (.int .i64 x.pod.pr):=ad Hj.out 1;have p2:Q.cell? ⟨Bp,2,none⟩=some (.slice pa x.pod.cs.length pcc):=ad Hj.out 2
   go_wp2_with fail
   refine (Hr.out Q (Hh.out.le hH.out)).mono ?_;rintro e W1 ⟨rfl,HC⟩;clear p0 p1 p2;have ht:Br<wr.heap.size:=by omega
   have HI:=qI (HQ.out.trans (HC.mono HQ.out.size));have hM:=qI ((HC.block Bp Ji).trans Hj.out);have Jx:=HC.size;clear HC HQ Hj hH;have Hl:=qI (HI.out.alloc HI.out.size (.cells #[.int .i64 SM,.int .i64 SB] 60));have HJ:=qI (bg hM.out (.cells #[.int .i64 SM,.int .i64 SB] 60));have Ha:=qI (aF W1 (.cells #[.int .i64 SM,.int .i64 SB] 60) rfl);have Jk:(W1.alloc (.cells #[.int .i64 SM,.int .i64 SB] 60)).heap.size=W1.heap.size+1:=by simp
   obtain ⟨Bs,HS⟩:∃ B,B=W1.heap.size:=⟨_,rfl⟩;rw [<- HS] at Ha;have HR:Br≠Bs:=by omega
   go_upto_region 15 with fail
   rw [<- HS];clear HS;generalize W1.alloc (.cells #[.int .i64 SM,.int .i64 SB] 60)=V at *;have Hu:Hid (V.heap[Br]?=some (.cells #[.int .i64 (RA),.int .i64 (RC)] 60 (0,0))):=(Hl.out.block Br ht).trans Hy.out;have hE:=qI (HT.out.trans (Apart.of_below Hl.out));have hn:=qI (hQ.out.below Hl.out);have hN:=qI (Hm.out.trans (az.of_below Hl.out));have Hi:Hid (bS U.heap.size V (.slice va zq.length vc) (zq.map Prod.fst)):=iL HX.out Hl.out;have H9:Br≠Bp:=by omega
   have hX:Bi≠Bp:=by omega
   have JA:U.heap.size<=V.heap.size:=by omega
   clear HI Hl Hy HT hQ Hm HX hM ht;have v0:V.cell? ⟨Br,0,none⟩=some (.int .i64 RA):=ad Hu.out 0;have w0:V.frozen? ⟨Br,0,none⟩=false:=aq Hu.out 0;have s0:V.cell? ⟨Bs,0,none⟩=some (.int .i64 SM):=ad Ha.out 0;have Jz:wrap64 (RA - SM)=RA - SM:=by unfold wrap64;omega
   have Jb:Br<V.heap.size:=(gS Hu.out).1;have H6:Bs<V.heap.size:=(gS Ha.out).1
   go_upto_region 16 with fail
   have HF:Hid (Apart (λj=>j=Br) V (V.setCell ⟨Br,0,none⟩ (.int .i64 (RA - SM)))):=Apart.setCell (K:=λj=>j=Br) rfl _ _ _;have HA:Hid ((V.setCell ⟨Br,0,none⟩ (.int .i64 (RA - SM))).heap[Br]?=some (.cells #[.int .i64 (RA - SM),.int .i64 (RC)] 60 (0,0))):=aj Hu.out 0 _;clear v0 w0 s0;generalize V.setCell ⟨Br,0,none⟩ (.int .i64 (RA - SM))=Z1 at *;have v1:Z1.cell? ⟨Br,1,none⟩=some (.int .i64 RC):=ad HA.out 1;have w1:Z1.frozen? ⟨Br,1,none⟩=false:=aq HA.out 1;have s1:Z1.cell? ⟨Bs,1,none⟩=some (.int .i64 SB):=(fq (HF.out.block Bs H6 λe=>HR e.symm) 1).trans (ad Ha.out 1);have Jv:wrap64 (RC - SB)=RC - SB:=by unfold wrap64;omega
   go_upto_region 17 with fail
   have Hk:Hid (Apart (λj=>j=Br) V (Z1.setCell ⟨Br,1,none⟩ (.int .i64 (RC - SB)))):=HF.out.trans (Apart.setCell (K:=λj=>j=Br) rfl _ _ _);have HO:Hid ((Z1.setCell ⟨Br,1,none⟩ (.int .i64 (RC - SB))).heap[Br]?=some (.cells #[.int .i64 (RA - SM),.int .i64 (RC - SB)] 60 (0,0))):=aj HA.out 1 _;clear v1 w1 s1 HF HA;generalize Z1.setCell ⟨Br,1,none⟩ (.int .i64 (RC - SB))=Z at *;rw [hC.out] at HO;have Ju:=Hk.out.size;have HB:=qI ((Hk.out.block Bp (gS HJ.out).1 λe=>H9 e.symm).trans HJ.out);have Ht:=qI (nE hN.out Hk.out (λj o e=>by rw [e];exact hp.out o));have hy:=qI (Aa hn.out Hk.out λe=>hne e.symm);have Hp:Hid (bS U.heap.size Z (.slice va zq.length vc) (zq.map Prod.fst)):=wG Hi.out Hk.out (λj e1 e2=>by have:=(Hi.out.lt j e1).1;omega);have hr:=qI (hE.out.trans (Hk.out.wide λj e=>.inl e));have Jj:x.pod.cs.length<=1000:=by have:=HZ.out;omega
   have hS:Hid (Z.cell? ⟨hb,ho+i*4+3,none⟩=some (.slice ga x.pod.cs.length gc)):=by
    unfold Hid;rw [<- HZ.out];exact Ht.out.cell _ _ _ hq.out
   have HD:Bp<Z.heap.size:=(gS HB.out).1;have HW:Br<Z.heap.size:=by omega
   clear Hk Hu HJ hN hn Hi hE Ha hC Hr;refine pk (G:=(λF=>frS c2 (.int .u64 ((Ol.stK t.m t.ds t.hs i 0).cp:Nat)) (.pointer (some ⟨Br,0,none⟩)) (.slice wa t.ds.length wc) (.pointer (some ⟨Bi,0,none⟩)) (.slice (some ⟨hb,ho,none⟩) t.hs.length lc) (.slice va zq.length vc) (.int .i64 (i:Nat)) (.pointer (some ⟨Bp,0,none⟩)) (F 16) (F 17) (F 18) (F 19) (F 20) F)) (by kernel_rfl) (λF1=>MH _ _ _ _ _ _ _ _ _ _ _  F1 Z Bp hb ho t.hs.length lc i pa ga pcc gc x.pod y.pod.nm HB.out (Hh.out.le Ht.out) Jn.out hS.out hlt (by omega) (λh0=>Ht.out.cell _ _ _ (hl.out h0).1) (λh0=>(hl.out h0).2) Jj) ?_;rintro a W2 ⟨F1,rfl,Hf⟩;have Jd:=qI ((Hf.block Bp HD).trans HB.out);have Ja:=qI (Ht.out.trans (az.of_below Hf));have HM:=qI (hy.out.below Hf);have hg:Hid (bS U.heap.size W2 (.slice va zq.length vc) (zq.map Prod.fst)):=iL Hp.out Hf;have ha:=qI (hr.out.trans (Apart.of_below Hf));have H4:=qI ((Hf.block Br HW).trans HO.out);have Js:=Hf.size;clear Hf HB Ht hy Hp hr HO hS;simp only [frD,tlS,Nat.reduceAdd];(try dsimp only)
   go_wp2_with fail
   refine lI (G:=(λF=>frS c2 (.int .u64 ((Ol.stK t.m t.ds t.hs i 0).cp:Nat)) (.pointer (some ⟨Br,0,none⟩)) (.slice wa t.ds.length wc) (.pointer (some ⟨Bi,0,none⟩)) (.slice (some ⟨hb,ho,none⟩) t.hs.length lc) (.slice va zq.length vc) (.int .i64 (i:Nat)) (.pointer (some ⟨Bp,0,none⟩)) (.int .i64 0) (F 17) (F 18) (F 19) (F 20) F)) (by kernel_rfl) (λF2=>Nn _ _ _ _ _ _ F2 F0 W2 U.heap.size Bp Bi hb ho t.hs.length lc i wa wc x pa ga pcc gc t.ds (Ol.stK t.m t.ds t.hs i) (.slice va zq.length vc) zq (au (t.hs.take i)) Ja.out hbs (by omega) Jh hBi hP.out Jd.out Hh.out hq.out he.out HZ.out HY hlt (by omega) HV.out Ho.out HH.out h9 HU.out (by omega) hg.out HG.out HM.out) ?_;rintro a W3 ⟨pv,zr,F2,rfl,⟨hR,h3⟩,hm,Hq,hB,hf⟩;have H0:=qI ((hf.block Br (by omega) (by omega)).trans H4.out);have H1:=qI (No ha.out hf (λj hj e=>by rcases e with e|e;exact .inr e;omega));have Jo:Hid (zr.map Prod.snd=au (t.hs.take (i+1))):=by unfold Hid;rw [hR,hV.out]
   have Jm:=qI hm;have H8:=qI Hq;have hw:=qI hB;rw [<- Hs.out] at hw;clear hR h3 hm Hq hB hf;simp only [frS,tlS,Nat.reduceAdd];(try dsimp only);rw [<- Hs.out]
   go_wp2
   refine hK.out _ _ ⟨m - 1,by omega,i+1,zr,.int .u64 ((Ol.stK t.m t.ds t.hs (i+1) 0).cp:Nat),pv,.int .i64 ((i:Int)+1),by omega,?_,rfl,FrS.mk (by kernel_rfl) ⟨Jo.out,Jm.out,H8.out,H0.out,hw.out,H1.out⟩⟩
   go_num
  ·have h6:i=t.hs.length:=by omega
   subst h6;have HE:Hid (zq.map Prod.snd=au t.hs):=by unfold Hid;rw [HU.out,Qh]
   rw [Ol.IN hJ.out]
   go_wp2
   exact ⟨rfl,_,zq,FrS.mk (by kernel_rfl) ⟨HE.out,HX.out,by first|exact HG.out|exact λa b h=>HG.out (a,b) h,Hy.out,HT.out⟩⟩
end
section
open RowKit Shelf
open Qos (Nd Ct Pd nd ct pd ag aB)
open Sv (Gv Hd gv hd)
open Dvs (Dv dv nth aL)
attribute [local go_sem] Oper.semAt_some
open Ost (Cpu af ae)
section
variable {N:Nat->Prop} {Ba Bd Be Bm:Nat} {t:Ol.St} {dk:Dk} {n:Nat} {w:World}
theorem Ab {base:Nat} {W:World} {a:Option Addr} {m c:Nat} {ys:List RV} (h:i6 base W (.slice a m c) ys):jf W a ys:=λh0=>by
 obtain ⟨a',c',hv,_,hr⟩:=h;injection hv with e1 _ _
 subst e1;obtain ⟨g,h1,_,h3,h4⟩:=hr h0;exact ⟨g,h1,h3,h4⟩
theorem mA {α β:Type} {f:α->β} {l:List α} (h:(l.map f).Nodup):l.Nodup:=by
 unfold List.Nodup at *;rw [List.pairwise_map] at h;exact h.imp λ{a b} hab e=>hab (by rw [e])
theorem Nt (h:aA w N Ba Bd Be Bm t dk n) (hn:n<=1000):Calls prog 39 #[.pointer (some ⟨Be,0,none⟩)] w λe w'=>∃ a c ys,e=.returned (.slice a ys.length c)/\jf w' a ys/\(∀ y∈ys,aS w' y/\y.dn<=1000)/\(ys.map (ak w')).Perm (au t.hs)/\Below w.heap.size w w':=by
 obtain ⟨he,hd,xs,hm,Ha,Hc⟩:=h.eng;have Hb:xs.length<=1000:=by
  obtain ⟨_,es,ho,hp⟩:=hm;have h1:=ho.size_le;have h2:=hp.length_eq;unfold iW at h2;rw [Q9] at h2;rw [Go.Maps.size_eq] at h1;omega
 have hk:=yE (W:=w) hm.keys;refine (yy Be Bd Bm n xs w he hm Hb λx hx=>⟨(Ha x hx).1.1,(Ha x hx).2⟩).mono ?_;rintro e w' ⟨⟨v,ys,rfl,hr,hy,hp,_⟩,hb⟩;obtain ⟨a,c,hv,_⟩:=id hr;subst hv;refine ⟨a,c,ys,rfl,Ab hr,λy hy'=>(hy y hy').1,hp.trans ?_,hb⟩;refine (List.perm_ext_iff_of_nodup ?_ ?_).2 Hc
 ·exact mA hk
 ·exact mA (yC h.inv.held)
theorem po {W:World} {M B:Nat} (h:B<M) (o:Nat):(fresh M W).cell? ⟨B,o,none⟩=none:=by
 cases e:(fresh M W).cell? ⟨B,o,none⟩ with
 | none=>rfl
 | some v=>exact absurd h (dU (M:=λj=>j<M) e)
theorem room_le {m:Ol.Mc} {ps:List Pd} (h:Ol.room m ps=true):Ol.aY ps<=1000*(Ost.cnt m.op:Int)/\Ol.bD ps<=m.nb:=by
 unfold Ol.room at h
 simpa using h
theorem Nu {F0 W:World} {z:RV × Rn} (h:iB F0 z) (hl:az F0 W):aS W z.1/\ak W z.1=z.2/\z.1.dn=z.2.devs.length:=by
 obtain ⟨h1,h2,h3,h4⟩:=h;obtain ⟨a,b,c⟩:=rZ (h4.le hl);refine ⟨a,?_,c⟩;unfold ak;rw [h1,h2,h3,b]
abbrev lL:=(.cells #[.bool false,.bool false,.bool false,.bool false,.bool false,.bool false,.bool false,.bool false,.bool false,.bool false,.bool false,.bool false,.bool false,.bool false,.bool false,.bool false] 104:Obj)
abbrev Ad:=λ(x0 x1 x2:Nat)=>(.cells #[.pointer (some ⟨x0,0,none⟩),.pointer (some ⟨x1,0,none⟩),.pointer (some ⟨x2,0,none⟩)] 36:Obj)
abbrev Nv:=λ(Bc:Nat) (c:Ol.Cf) (w':World)=>w'.cell? ⟨Bc,1,none⟩=some (.int .u64 (c.keep:Nat))
theorem Nw {c:Ol.Cf} {ca da:Option Addr} {cc dl dc:Nat} (hM:aA w iG Ba Bd Be Bm t dk n) (htm:t.m=Ol.cL c) (hro:Ol.room t.m (t.hs.map Hd.pod)=true) (hcf:Ol.bQ c=0) (h1:eD w (.slice ca c.l.length cc) c.l) (hk:c.keep<18446744073709551616) (hn:n<=1000) :
  Calls prog 14 #[.agg #[.pointer (some ⟨Bd,0,none⟩),.pointer (some ⟨Be,0,none⟩),.pointer (some ⟨Ba,0,none⟩)],.agg #[.slice ca c.l.length cc,.int .u64 (c.keep:Nat),.int .i64 c.nb,.slice da dl dc,.int .i64 c.pol]] w λe w'=>e=.returned (.bool true)/\Below w.heap.size w w':=by
 obtain ⟨OM,h3⟩:∃ o:Obj,o=.cells #[.pointer (some ⟨Bd,0,none⟩),.pointer (some ⟨Be,0,none⟩),.pointer (some ⟨Ba,0,none⟩)] 36:=⟨_,rfl⟩;obtain ⟨OC,hT⟩:∃ o:Obj,o=.cells #[.slice ca c.l.length cc,.int .u64 (c.keep:Nat),.int .i64 c.nb,.slice da dl dc,.int .i64 c.pol] 27:=⟨_,rfl⟩;have HA:Hid (Below w.heap.size w ((w.alloc OM).alloc OC)):=((Q0 w.heap.size w).alloc (lR) OM).alloc (by simp) OC;obtain ⟨Bk,HK⟩:∃ B,B=w.heap.size:=⟨_,rfl⟩;obtain ⟨Bc,HR⟩:∃ B,B=w.heap.size+1:=⟨_,rfl⟩;have ht:((w.alloc OM).alloc OC).heap[Bk]?=some OM:=by rw [HK];exact bg (aF w OM rfl) _
 have H9:((w.alloc OM).alloc OC).heap[Bc]?=some OC:=by rw [HR];exact aF (w.alloc OM) OC (by simp)
 have HO:=qI ht;have HI:=qI H9;clear ht H9;subst h3 hT;obtain ⟨hC,hg,HT,Jb⟩:=zx hcf;have He:=qI hM;have hJ:=qI (room_le hro);have hX:Hid (0<=t.m.nb/\t.m.nb<=1125899906842624):=by unfold Hid;rw [htm];exact hg
 have h4:=qI hC;have H1:=qI h1;have H4:Hid (Ost.dif (ae aC c.l) c.keep=t.m.op):=by unfold Hid;rw [htm];rfl
 have Hx:Hid (c.nb=t.m.nb):=by unfold Hid;rw [htm];rfl
 clear hM hro hcf h1 hC hg HT Jb htm
 go_enter func14,ntmps14
 go_wp2_with fail
 (try rw [<- HR]);(try rw [<- HK]);generalize ((w.alloc (Ad Bd Be Ba)).alloc (.cells #[.slice ca c.l.length cc,.int .u64 (c.keep:Nat),.int .i64 c.nb,.slice da dl dc,.int .i64 c.pol] 27))=X at *;clear HK HR;refine (tJ ca cc c.l X (H1.out.below HA.out)).mono ?_;rintro e W1 ⟨Hu,_,hR⟩;obtain ⟨tb,tg,tc,rfl,Hc⟩:=Hu h4.out;have hV:Bk<X.heap.size:=(gS HO.out).1;have h5:Bc<X.heap.size:=(gS HI.out).1;have Ha:Hid (∀ V,Below X.heap.size X V->V.heap[Bk]?=some (Ad Bd Be Ba)/\V.heap[Bc]?=some (.cells #[.slice ca c.l.length cc,.int .u64 (c.keep:Nat),.int .i64 c.nb,.slice da dl dc,.int .i64 c.pol] 27)/\Below w.heap.size w V):=λV hb=>⟨(hb.block Bk hV).trans HO.out,(hb.block Bc h5).trans HI.out,HA.out.trans (hb.mono HA.out.size)⟩
 have Hk:=qI hR;have Ht:=qI Hc;have HU:=Hc.len;have Hq:ae aC c.l<18446744073709551616:=Ost.eY aC c.l c.l.length HU;have hL:=iO (ae aC c.l) c.keep Hq hk;have hF:Hid (t.m.op<18446744073709551616):=by unfold Hid;rw [<- H4.out];exact Ost.ii _ Hq
 rw [H4.out] at hL;rw [Hx.out] at Ha;clear Hu hR Hc H4 Hx HO HI H1 HA;have Hs:Hid (∀ V,Below W1.heap.size W1 V->Calls prog 36 #[.pointer (some ⟨tb,0,none⟩)] V λe w'=>e=.returned (.int .u64 (ae aC c.l:Nat))/\Below V.heap.size V w'):=λV hb=>gC tb tg 0 tc c.l V (Ht.out.below hb)
 have HW:Hid (∀ V,Below W1.heap.size W1 V->(Nv Bc c) V):=λV hb=>ad (Ha.out V (Hk.out.trans (hb.mono Hk.out.size))).2.1 1
 generalize ae aC c.l=ch at *
 go_upto_region 4 with fail
 have Hp:Hid (Below W1.heap.size W1 W1.drew):=a6 (Q0 _ _);refine Qo (by kernel_rfl) (HW.out _ Hp.out) λhQ=>?_;generalize W1.drew=V at *;refine tk 0 ?_;refine tk 2 ?_;refine tk 3 ?_;refine rd 1 λK hK=>?_;go_simp
 go_wp2_with fail
 refine (Hs.out _ Hp.out).mono ?_;rintro e V2 ⟨rfl,hE⟩;have HH:=qI (Hp.out.trans (hE.mono Hp.out.size));clear hE
 go_wp2
 refine hK.out _ _ (HW.out _ HH.out) λhQ=>?_;clear hK K;refine tk 4 ?_;refine tk 5 ?_;refine Qn (by kernel_rfl) ?_ _;clear hQ hL Hs HW Ht;have Hl:=qI (Hk.out.trans (HH.out.mono Hk.out.size));clear Hk HH Hp;have hO:=qI (Ha.out V2 Hl.out).2.1
 go_upto_region 5 with fail
 refine pk (G:=λF=>frE (.pointer (some ⟨Bk,0,none⟩)) (.pointer (some ⟨Bc,0,none⟩)) (.int .u64 (t.m.op:Nat)) (F 8) F) (by kernel_rfl) (λF1=>MJ _ _ F1 V2 Bc t.m.op c.keep c.l.length cc dl dc ca da t.m.nb c.pol hO.out hF.out) ?_;rintro a W3 ⟨Br,F1,rfl,HE,Jd,hx⟩;have hH:=qI HE;have Hr:=qI (Hl.out.trans (hx.mono Hl.out.size));have HD:Br<W3.heap.size:=(gS HE).1;have Jk:=Hl.out.size;clear HE hx Hl hO;have hP:=qI (He.out.keep (Ha.out W3 Hr.out).2.2);have z2:W3.cell? ⟨Bk,2,none⟩=some (.pointer (some ⟨Ba,0,none⟩)):=ad (Ha.out W3 Hr.out).1 2;simp only [frE,tlS,Nat.reduceAdd];(try dsimp only)
 go_wp2_with fail
 clear z2;refine (Ni hP.out).mono ?_;rintro e W4 ⟨wa,wg,wc,rfl,_,_,HC⟩;have H2:=qI (Hr.out.trans (HC.mono Hr.out.size));have hB:=qI ((HC.block Br HD).trans hH.out);have Jm:=HC.size;clear HC Hr hH hP;have Hm:=qI (H2.out.alloc H2.out.size (lL));have ho:=qI (bg hB.out (lL));have H3:Hid (bU (W4.alloc (lL)) W4.heap.size λ_=>false):=bU.made W4 104 λ_=>false;have Ji:(W4.alloc (lL)).heap.size=W4.heap.size+1:=by simp
 have H7:=qI (aF W4 (lL) rfl);obtain ⟨Bi,HX⟩:∃ B,B=W4.heap.size:=⟨_,rfl⟩;rw [<- HX] at H3 H7;have h0:W3.heap.size<=Bi:=by omega
 go_upto_region 8 with fail
 rw [<- HX];generalize W4.alloc (lL)=W5 at *;have hf:=qI (He.out.keep (Ha.out W5 Hm.out).2.2);have z2:W5.cell? ⟨Bk,2,none⟩=some (.pointer (some ⟨Ba,0,none⟩)):=ad (Ha.out W5 Hm.out).1 2
 go_wp2_with fail
 clear z2;refine (sK hf.out).mono ?_;rintro e U ⟨la,lc,rfl,hh,Hj⟩;have Hf:Br<W5.heap.size:=by omega
 have Hh:Bi<W5.heap.size:=by omega
 have HF:Br≠Bi:=by omega
 have Hw:=qI (Hm.out.trans (Hj.mono Hm.out.size));have hG:=qI ((Hj.block Br Hf).trans ho.out);have hA:=qI (H3.out.below Hj);have H6:=qI ((Hj.block Bi Hh).trans H7.out);have hl:=qI hh;have Je:=Hj.size;have Jc:w.heap.size<=X.heap.size:=(Ha.out X (Q0 _ _)).2.2.size;have hp:Hid (aA U (λj=>j=Br\/j=Bi) Ba Bd Be Bm t dk n):=He.out.grow (Ha.out U Hw.out).2.2 (λj e=>.inr (by omega)) (λj e=>by omega);obtain ⟨s,hs⟩:=He.out.inv.left;have HS:=qI hs;have HZ:Hid (az (fresh W5.heap.size U) U):=Ip _ _;have hS:=Ol.rB t.m.op;have HJ:Hid (U.heap[Br]?=some (.cells #[.int .i64 (1000*(Ost.cnt t.m.op:Int) - Ol.aY ((t.hs.take 0).map Hd.pod)),.int .i64 (t.m.nb - Ol.bD ((t.hs.take 0).map Hd.pod))] 60 (0,0))):=by
  unfold Hid;have e1:Ol.aY ((t.hs.take 0).map Hd.pod)=0:=rfl;have e2:Ol.bD ((t.hs.take 0).map Hd.pod)=0:=rfl;rw [e1,e2,Int.sub_zero,Int.sub_zero];exact hG.out
 clear hh Hj hs H2 hB Hm ho H3 hf hG HX
 go_wp2_with fail
 refine lI (G:=(λF=>frS (.pointer (some ⟨Bk,0,none⟩)) (.int .u64 (t.m.op:Nat)) (.pointer (some ⟨Br,0,none⟩)) (.slice wa t.ds.length wc) (.pointer (some ⟨Bi,0,none⟩)) (.slice la t.hs.length lc) (.slice none 0 0) (.int .i64 0) (F 14) (F 16) (F 17) (F 18) (F 19) (F 20) F)) (by kernel_rfl) (λF2=>Ns _ _ _ _ _ _ _ F2 (fresh W5.heap.size U) U Br Bi lc wc la wa t s HZ.out (by rw [bx];exact lR) (by omega) (by omega) HF (po Hf) (po Hh) hl.out He.out.inv HS.out hF.out hX.out hS HJ.out hA.out) ?_;rintro a W6 ⟨pv,zq,F2,rfl,hu,Hy,hw,Hn,Hi⟩;obtain ⟨ra,rc,hv⟩:=fH Hy;obtain ⟨zs,HV⟩:∃ zs,zs=zq.map Prod.fst:=⟨_,rfl⟩;rw [<- HV] at hv Hy;subst hv;have h2:Bk<U.heap.size:=by omega
 have HG:=qI ((Hi.block Bk h2 (by omega)).trans (Ha.out U Hw.out).1);have HQ:Hid (aA W6 (λj=>j=Br\/j=Bi) Ba Bd Be Bm t dk n):=hp.out.other Hi (λj hj arr z e=>by
  rcases hj with hj|hj
  ·rw [hj,HJ.out] at e;injection e with e
   injection e with _ e2
   exact absurd e2 (by decide)
  ·rw [hj,H6.out] at e;injection e with e
   injection e with _ e2
   exact absurd e2 (by decide))
 have HY:Hid (Below w.heap.size w W6):=nA (Ha.out U Hw.out).2.2 (Ha.out U Hw.out).2.2.size Hi (λj hj=>by omega);have hQ:=qI (nE HZ.out Hi (λj o e=>by rcases e with e|e;rw [e];exact po Hf o;rw [e];exact po Hh o));have Hv:=qI Hn;have Ho:=qI (Ab (yQ Hy));have hU:=qI hw;have hr:=qI hu;have hN:=qI HV;have Jn:=Hi.size;clear hu Hy hw Hn Hi hp HZ HJ hA hl Hw H6 HV;have z1:W6.cell? ⟨Bk,1,none⟩=some (.pointer (some ⟨Be,0,none⟩)):=ad HG.out 1;simp only [frS,tlS,Nat.reduceAdd];(try dsimp only)
 go_wp2_with fail
 clear z1;refine (Nt HQ.out hn).mono ?_;rintro e W7 ⟨na,nc,ys,rfl,hI,hD,HB,Hg⟩;have HL:ys.length=zs.length:=by
  have e1:=HB.length_eq;have e2:=congrArg List.length hr.out;rw [Q9] at e1 e2;rw [hN.out,Q9];omega
 rw [HL];have Jf:=rY He.out.inv.held;have Jj:zs.length<=36:=by
  have e1:=HB.length_eq;rw [Q9] at e1;omega
 have hY:=qI (HQ.out.keep Hg);have h9:=qI (hQ.out.trans (az.of_below Hg));have ha:=qI (HY.out.trans (Hg.mono HY.out.size));have H5:Bk<W6.heap.size:=by omega
 have h6:=qI ((Hg.block Bk H5).trans HG.out);have Hb:=qI ((Hg.block Br (by omega)).trans Hv.out);have HM:=qI (Ho.out.below Hg);have Ja:=qI hI;have h8:=qI hD;have hZ:=qI HB;have hc:=qI HL;clear hI hD HB HL Hg HQ hQ HY HG Hv Ho;have HP:Hid (∀ z∈zs,aS W7 z/\z.dn<=1000/\ak W7 z∈au t.hs):=λz hz=>by
  rw [hN.out] at hz;obtain ⟨q,hq,rfl⟩:=Qk.1 hz;obtain ⟨d1,d2,d3⟩:=Nu (hU.out q hq) h9.out;have hm:q.2∈au t.hs:=by rw [<- hr.out];exact Qk.2 ⟨q,hq,rfl⟩
  refine ⟨d1,?_,by rw [d2];exact hm⟩
  have:=(yD He.out.inv.held _ hm).2.2
  omega
 have h7:Hid (∀ i,i<zs.length->∃ j,j<ys.length/\ak W7 (rv ys j)=ak W7 (rv zs i)):=λi hi=>by
  have h1:=(HP.out _ (kt hi)).2.2;rw [<- hZ.out.mem_iff] at h1;obtain ⟨y,hy,he⟩:=Qk.1 h1;obtain ⟨j,hj,e⟩:=List.getElem_of_mem hy;exact ⟨j,hj,by rw [<- he,<- e];simp [rv,hj]⟩
 obtain ⟨RA,HN⟩:∃ q,q=1000*(Ost.cnt t.m.op:Int) - Ol.aY ((t.hs.take t.hs.length).map Hd.pod):=⟨_,rfl⟩;obtain ⟨RC,H0⟩:∃ q,q=t.m.nb - Ol.bD ((t.hs.take t.hs.length).map Hd.pod):=⟨_,rfl⟩;rw [<- HN,<- H0] at Hb;have Jg:0<=RA:=by
  rw [HN,Qh]
  have:=hJ.out.1
  omega
 have Jh:0<=RC:=by
  rw [H0,Qh]
  have:=hJ.out.2
  omega
 have Jl:decide (RA<0)=false:=Q7 (by omega);have Jo:decide (RC<0)=false:=Q7 (by omega);clear HN H0;have z2:W7.cell? ⟨Bk,2,none⟩=some (.pointer (some ⟨Ba,0,none⟩)):=ad h6.out 2;have y0:W7.cell? ⟨Br,0,none⟩=some (.int .i64 RA):=ad Hb.out 0;have y1:W7.cell? ⟨Br,1,none⟩=some (.int .i64 RC):=ad Hb.out 1
 go_wp2_with fail
 refine (MW hY.out).mono ?_;rintro e W8 ⟨⟨s2,Hz,rfl⟩,rfl⟩;rw [HS.out] at Hz;injection Hz with Hz
 subst Hz
 go_wp2_with fail
 clear z2 y0 y1;refine lI (G:=λF=>frT (.slice ra zs.length rc) (.slice na zs.length nc) (.int .i64 0) (F 23) (F 24) F) (by kernel_rfl) (λF3=>ML F3 W8 ra na rc nc zs.length zs ys hc.out.symm HM.out Ja.out (λz hz=>⟨(HP.out z hz).1,(HP.out z hz).2.1⟩) h8.out (by omega) (by have:=hc.out;omega) h7.out) ?_;rintro a W9 ⟨F3,rfl,H8⟩;have hW:=qI (ha.out.trans (H8.mono ha.out.size));clear H8;simp only [frT,tlS,Nat.reduceAdd];(try dsimp only)
 go_wp2
 go_ret;exact ⟨rfl,hW.out⟩
end
end
