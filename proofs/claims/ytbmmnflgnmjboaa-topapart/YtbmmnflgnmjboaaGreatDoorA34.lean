import Derived.Test.YtbmmnflgnmjboaaGreatDoorA32
import Derived.Deep.LoopGhost
set_option maxRecDepth 100000
set_option maxHeartbeats 16000000
namespace Go.Proofs.YtbmmnflgnmjboaaGreatDoor
section
open RowKit Shelf
def jR:Code->List Code
 | .loop c=>c :: jR c
 | .seq a b=>jR a++jR b
 | .cond _ a b=>jR a++jR b
 | .block _ c=>jR c
 | .scope c=>jR c
 | _=>[]
def FrS (G:(Nat->Value)->Act) (P:World->Prop) (a:Act) (w:World):Prop:=∃ F,a=G F/\P w
theorem FrS.mk {G:(Nat->Value)->Act} {P:World->Prop} {a:Act} {w:World} (h:a=G (λn=>a.tmps.getD n undef)) (hP:P w):FrS G P a w:=⟨_,h,hP⟩
def kF (n:Nat) (R:Act->World->Prop):Exit->Act->World->Prop
 | .exit m,a,w=>m=n/\R a w
 | _,_,_=>False
theorem lI {P:Program} {c:Code} {n:Nat} {R:Act->World->Prop} {Q:Exit->Act->World->Prop} {G:(Nat->Value)->Act} {a:Act} {w:World} (ha:a=G (λn=>a.tmps.getD n undef)) (h:∀ F,Code.wp P c (kF n R) (G F) w) (hq:∀ a w,R a w->Q (.exit n) a w):Code.wp P c Q a w:=by
 rw [ha];exact Code.wp_mono (λe a w he=>by
  cases e with
  | exit m=>exact he.1 ▸ hq _ _ he.2
  | _=>exact he.elim) (h _)
def jS (n:Nat):Code->Option Code
 | .region m os d=>if m == n then some (.region m os d) else none
 | .loop c=>jS n c
 | .seq a b=>(jS n a).or (jS n b)
 | .cond _ a b=>(jS n a).or (jS n b)
 | .block _ c=>jS n c
 | .scope c=>jS n c
 | _=>none
def fL (R:Act->World->Prop):Exit->Act->World->Prop
 | .normal,a,w=>R a w
 | _,_,_=>False
theorem fL.mk {R:Act->World->Prop} {a:Act} {w:World} (h:R a w):fL R .normal a w:=h
theorem pk {P:Program} {c:Code} {R:Act->World->Prop} {Q:Exit->Act->World->Prop} {G:(Nat->Value)->Act} {a:Act} {w:World} (ha:a=G (λn=>a.tmps.getD n undef)) (h:∀ F,Code.wp P c (fL R) (G F) w) (hq:∀ a w,R a w->Q .normal a w):Code.wp P c Q a w:=by
 rw [ha];exact Code.wp_mono (λe a w he=>by
  cases e with
  | normal=>exact hq _ _ he
  | _=>exact he.elim) (h _)
theorem sJ {P:Program} {Q:Exit->Act->World->Prop} {a:Act} {w:World} {c:Code} (I:Nat->Act->World->Prop) (n₀:Nat) (h₀:I n₀ a w) (round:∀ n a w,I n a w->∀ K:Act->World->Prop,Hid (∀ a' w',(∃ n',n'<n/\I n' a' w')->K a' w')->c.wp P (Exit.then K Q) a w):(Code.loop c).wp P Q a w:=
 wp_loop_ghost I n₀ h₀ λn a w h=>round n a w h _ (qI λ_ _ q=>q)
noncomputable def je (n:Nat):Code:=((Tryz.f14.body.bind (jS n))).getD .skip
noncomputable def gu (n:Nat):Code:=((Tryz.f14.body.map jR).getD []).getD n .skip
def tlS (F:Nat->Value) (t:List Value):Nat->Nat->List Value
 | _,0=>t
 | a,k+1=>F a :: tlS F t (a+1) k
def frD (c2 c7 c8 c9 c10 c11 c12 c13 c14 c16 c17 c18 c19 c20 c105:Value) (F:Nat->Value):Act:=⟨List.toArray (F 0 :: F 1 :: c2 :: F 3 :: F 4 :: F 5 :: F 6 :: c7 :: c8 :: c9 :: c10 :: c11 :: c12 :: c13 :: c14 :: F 15 :: c16 :: c17 :: c18 :: c19 :: c20 :: F 21 :: F 22 :: F 23 :: F 24 :: tlS F (c105 :: tlS F ([]) 106 170) 25 80),[]⟩
def frB (c2 c7 c8 c9 c10 c11 c12 c13 c14 c16 c17 c18 c19 c20 c138:Value) (F:Nat->Value):Act:=⟨List.toArray (F 0 :: F 1 :: c2 :: F 3 :: F 4 :: F 5 :: F 6 :: c7 :: c8 :: c9 :: c10 :: c11 :: c12 :: c13 :: c14 :: F 15 :: c16 :: c17 :: c18 :: c19 :: c20 :: F 21 :: F 22 :: F 23 :: F 24 :: tlS F (c138 :: tlS F ([]) 139 137) 25 113),[]⟩
def frS (c2 c7 c8 c9 c10 c11 c12 c13 c14 c16 c17 c18 c19 c20:Value) (F:Nat->Value):Act:=⟨List.toArray (F 0 :: F 1 :: c2 :: F 3 :: F 4 :: F 5 :: F 6 :: c7 :: c8 :: c9 :: c10 :: c11 :: c12 :: c13 :: c14 :: F 15 :: c16 :: c17 :: c18 :: c19 :: c20 :: F 21 :: F 22 :: F 23 :: F 24 :: tlS F ([]) 25 251),[]⟩
end
section
open RowKit Shelf
open Qos (Nd Ct Pd nd ct pd ag aB)
open Sv (Gv Hd gv hd)
open Dvs (Dv dv nth aL)
attribute [local go_sem] Oper.semAt_some
theorem Mz {us:Nat->Bool} {l:List Int} {q m:Nat} (hq:q<l.length) (hm:nth l q=(m:Int)) (j:Nat):aL us (l.take (q+1)) j=if j=m then true else aL us (l.take q) j:=by
 rw [Dvs.uf hq,Dvs.ul _ _ _ (by omega),hm];have e:((m:Int)).toNat=m:=by omega
 rw [e]
 by_cases h:j=m
 ·rw [if_pos h,Qc h,Bool.or_true]
 ·rw [if_neg h,Q7 h,Bool.or_false]
theorem MA (c2 c7 c8 c11 c12 c13 c14 c16 c18 c19:Value) (F:Nat->Value) (W:World) (Bg Bi:Nat) (wa:Option Addr) (dn wc:Nat) (ia:Option Addr) (ic:Nat) (l:List Int) (us:Nat->Bool) (hg:W.cell? ⟨Bg,1,none⟩=some (.slice ia l.length ic)) (hi:bu W (.slice ia l.length ic) l) (hb:bU W Bi us) (hgi:Bg≠Bi) (hii:∀ b o,ia=some ⟨b,o,none⟩->0<l.length->b≠Bi) (hl:l.length<=16) (hd:dn<=16) (hok:∀ j,j<l.length->(0<=nth l j/\nth l j<dn/\nth l j ∉ l.take j)/\us (nth l j).toNat=false) :
  Code.wp Tryz.prog (Code.loop (gu 3)) (kF 6 (FrS (λF=>frS c2 c7 c8 (.slice wa dn wc) (.pointer (some ⟨Bi,0,none⟩)) c11 c12 c13 c14 c16 (.pointer (some ⟨Bg,0,none⟩)) (F 18) (F 19) (F 20) F) (λW'=>bU W' Bi (aL us l)/\Apart (λj=>j=Bi) W W'))) (frS c2 c7 c8 (.slice wa dn wc) (.pointer (some ⟨Bi,0,none⟩)) c11 c12 c13 c14 c16 (.pointer (some ⟨Bg,0,none⟩)) c18 c19 (.int .i64 0) F) W:=by
 obtain ⟨iao,ic',Hi,_,Hf⟩:=hi;have Hw:iao=ia:=by injection Hi with e;exact e.symm
 subst Hw;have Hr:=qI Hf;have Hn:=qI hii;have Hv:=qI hok;have Hl:Hid (bU W Bi (aL us (l.take 0))):=by
  unfold Hid;rw [List.take_zero,Dvs.uk];exact hb
 clear Hf hii hok Hi hb;simp only [frS,tlS,Nat.reduceAdd]
 conv=>enter [2,1];unfold gu;whnf
 have Hj:Bg<W.heap.size:=Q3 W _ hg;have HG:=qI hg;clear hg
 go_loopw [20] (λi wq=>∃ q:Nat,q<=l.length/\i=.int .i64 q/\bU wq Bi (aL us (l.take q))/\Apart (λj=>j=Bi) W wq) (λi _=>l.length - (intOf i).toNat)
 case atStart=>exact ⟨0,Nat.zero_le _,rfl,Hl.out,Apart.refl _ _⟩
 case round=>
  obtain ⟨q,hq,rfl,Hb,Ha⟩:=hrel;have g1:wr.cell? ⟨Bg,1,none⟩=some (.slice iao l.length ic):=(fq (Ha.block Bg Hj hgi) 1).trans HG.out
  by_cases hlt:q<l.length
  ·obtain ⟨ib,io,Hg,Hc,He⟩:=Hr.out (by omega);have Hk:ib≠Bi:=Hn.out ib io Hg (by omega);subst Hg;obtain ⟨⟨r1,r2,r3⟩,r4⟩:=Hv.out q hlt;obtain ⟨m,hm⟩:∃ m:Nat,nth l q=(m:Int):=⟨(nth l q).toNat,by omega⟩;have Hx:m<dn:=by omega
   have i0:wr.cell? ⟨ib,io+q,none⟩=some (.int .i64 (m:Int)):=by
    rw [(fq (Ha.block ib Hc Hk) _).trans (He q hlt),<- hm];rfl
   have Hh:aL us (l.take q) m=false:=by
    rw [hm] at r3 r4;have e:((m:Int)).toNat=m:=by omega
    rw [e] at r4;exact Ol.re.2 ⟨r4,r3⟩
   obtain ⟨b0,b1⟩:=Hb m (by omega);rw [Hh] at b0;have Hs:Hid (bU (wr.setCell ⟨Bi,m,none⟩ (.bool true)) Bi (aL us (l.take (q+1)))):=Hb.set (by omega) true (λj _=>Mz hlt hm j);have Hm:Hid (Apart (λj=>j=Bi) W (wr.setCell ⟨Bi,m,none⟩ (.bool true))):=Ha.trans (Apart.setCell (K:=λj=>j=Bi) rfl _ _ _);have Hq:m<16:=by omega
   have Ht:¬ ((m:Int)<0):=by omega
   have Hu:decide ((m:Int)<0)=false:=Q7 Ht;have Hy:decide ((dn:Int)<=(m:Int))=false:=Q7 (by omega);have Ho:decide (dn<=m)=false:=Q7 (by omega);clear He Hb Ha hm r1 r2 r3 r4 Hh
   go_wp2
   go_roundw
   case rel=>exact ⟨q+1,by omega,by go_num,Hs.out,Hm.out⟩
   case measure=>simp [intOf];omega
  ·have Hp:q=l.length:=by omega
   subst Hp;rw [Qh] at Hb;have HQ:=qI Hb;have HA:=qI Ha;clear Hb Ha
   go_wp2
   exact ⟨rfl,FrS.mk (by kernel_rfl) ⟨HQ.out,HA.out⟩⟩
end
section
open RowKit Shelf
open Qos (Nd Ct Pd nd ct pd ag aB)
open Sv (Gv Hd gv hd)
open Dvs (Dv dv nth aL)
attribute [local go_sem] Oper.semAt_some
abbrev MC:=λ(Bg cp Bp:Nat) (p:Pd) (cb co cc k:Nat) (x:Ct) (na:Option Addr) (nc:Nat) (w':World)=>(w'.cell? ⟨Bg,0,none⟩=some (.int .u64 (cp:Nat))/\w'.cell? ⟨Bp,0,none⟩=some (.string p.nm)/\w'.cell? ⟨Bp,1,none⟩=some (.int .i64 p.pr)/\w'.cell? ⟨Bp,2,none⟩=some (.slice (some ⟨cb,co,none⟩) p.cs.length cc))/\w'.cell? ⟨cb,co+k*6,none⟩=some (.string x.nm)/\w'.cell? ⟨cb,co+k*6+1,none⟩=some (.int .i64 x.am)/\w'.cell? ⟨cb,co+k*6+2,none⟩=some (.int .i64 x.ab)/\w'.cell? ⟨cb,co+k*6+3,none⟩=some (.int .i64 x.cm)/\w'.cell? ⟨cb,co+k*6+4,none⟩=some (.int .i64 x.cb)/\w'.cell? ⟨cb,co+k*6+5,none⟩=some (.slice na x.ds.length nc)
theorem MD (c2 c8 c9 c10 c11 c12 c13 c18 c19 c20:Value) (F:Nat->Value) (W:World) (Bp Bg cb co cc k cp lf dl:Nat) (ia:Option Addr) (ic:Nat) (p:Pd) (x:Ct) (na:Option Addr) (nc:Nat)
  (hp:W.heap[Bp]?=some (.cells #[.string p.nm,.int .i64 p.pr,.slice (some ⟨cb,co,none⟩) p.cs.length cc] 47)) (hg:W.heap[Bg]?=some (.cells #[.int .u64 (cp:Nat),.slice ia dl ic] 69)) (hk:k<p.cs.length) (_h3:p.cs.length<=1000) (hcs:∀ j,j<6->W.cell? ⟨cb,co+k*6+j,none⟩=([.string x.nm,.int .i64 x.am,.int .i64 x.ab,.int .i64 x.cm,.int .i64 x.cb,.slice na x.ds.length nc]:List Value)[j]?) (hcon:aD W (.slice (some ⟨cb,co,none⟩) p.cs.length cc) p.cs) (hcl:cp<18446744073709551616) (hll:lf<18446744073709551616) (hin:cp &&& lf=cp) (hcn:(Ost.cnt cp:Int)=aB p.cs x.am) (ha0:0<=x.am) (ha1:x.am<=1000000) :
  Code.wp Tryz.prog (je 23) (fL (FrS (λF=>frB c2 (.int .u64 (lf:Nat)) c8 c9 c10 c11 c12 c13 (.pointer (some ⟨Bp,0,none⟩)) (.int .i64 (k:Nat)) (.pointer (some ⟨Bg,0,none⟩)) (F 18) (F 19) (F 20) (.bool false) F) (λW'=>Below W.heap.size W W'))) (frS c2 (.int .u64 (lf:Nat)) c8 c9 c10 c11 c12 c13 (.pointer (some ⟨Bp,0,none⟩)) (.int .i64 (k:Nat)) (.pointer (some ⟨Bg,0,none⟩)) c18 c19 c20 F) W:=by
 have Hl:Bp<W.heap.size:=(gS hp).1;have Hk:Bg<W.heap.size:=(gS hg).1;have He:cb<W.heap.size:=Q3 W ⟨cb,co+k*6+0,none⟩ (hcs 0 (by decide));have Hc:Hid (∀ V,Below W.heap.size W V->(MC Bg cp Bp p cb co cc k x na nc) V):=λV hb=>by
  have cc:∀ j,j<6->V.cell? ⟨cb,co+k*6+j,none⟩=([.string x.nm,.int .i64 x.am,.int .i64 x.ab,.int .i64 x.cm,.int .i64 x.cb,.slice na x.ds.length nc]:List Value)[j]?:=λj hj=>(hb.cell (p:=⟨cb,_,none⟩) He).trans (hcs j hj)
  have bp:=(hb.block Bp Hl).trans hp;exact ⟨⟨ad ((hb.block Bg Hk).trans hg) 0,ad bp 0,ad bp 1,ad bp 2⟩,cc 0 (by decide),cc 1 (by decide),cc 2 (by decide),cc 3 (by decide),cc 4 (by decide),cc 5 (by decide)⟩
 have Hb:∀ V,Calls Tryz.prog 38 #[.int .u64 (cp:Nat),.int .u64 (lf:Nat)] V λe w'=>e=.returned (.bool true)/\w'=V:=λV=>by
  have:=jv cp lf V hcl hll
  rw [Qc hin] at this;exact this
 have Hh:=qI Hb;have Hj:Hid (∀ V,Calls Tryz.prog 17 #[.int .u64 (cp:Nat)] V λe w'=>e=.returned (.int .i64 (aB p.cs x.am))/\w'=V):=λV=>by
  have h:Calls Tryz.prog 17 #[.int .u64 (cp:Nat)] V λe w'=>e=.returned (.int .i64 (Ost.cnt cp:Nat))/\w'=V:=fP cp V hcl
  rw [hcn] at h;exact h
 have Hi:Hid (∀ V,Below W.heap.size W V->Calls Tryz.prog 16 #[.agg #[.string p.nm,.int .i64 p.pr,.slice (some ⟨cb,co,none⟩) p.cs.length cc],.agg #[.string x.nm,.int .i64 x.am,.int .i64 x.ab,.int .i64 x.cm,.int .i64 x.cb,.slice na x.ds.length nc]] V λe w'=>e=.returned (.int .i64 (aB p.cs x.am))/\Below V.heap.size V w'):=λV hb=>mh p _ x na x.ds.length nc V (hcon.below hb) ha0 ha1
 have Ha:Hid (Below W.heap.size W W.drew):=a6 (Q0 _ _);generalize aB p.cs x.am=ow at *;clear Hb hcs hcon hp hg hin hcn;simp only [frS,tlS,Nat.reduceAdd]
 conv=>enter [2];unfold je;whnf
 refine Qo (by kernel_rfl) (Hc.out _ Ha.out) (λhQ=>?_);generalize W.drew=V at *;refine tk 0 ?_;refine tk 1 ?_;refine tk 2 ?_;refine rd 3 (λK hK=>?_);go_simp
 go_wp2_with fail
 refine (Hh.out _).mono ?_;rintro e V1 ⟨rfl,rfl⟩
 go_wp2
 refine hK.out _ _ (Hc.out _ Ha.out) (λhQ=>?_);clear hK K;refine tk 4 ?_;refine tk 5 ?_;refine tk 6 ?_;refine tk 7 ?_;refine tk 9 ?_;refine tk 10 ?_;refine tk 11 ?_;refine tk 12 ?_;refine tk 13 ?_;refine tk 14 ?_;refine rd 8 (λK hK=>?_);go_simp
 go_wp2_with fail
 refine (Hj.out _).mono ?_;rintro e V2 ⟨rfl,rfl⟩
 go_wp2
 refine hK.out _ _ (Hc.out _ Ha.out) (λhQ=>?_);clear hK K;refine rd 15 (λK hK=>?_);go_simp
 go_wp2_with fail
 refine (Hi.out _ Ha.out).mono ?_;rintro e V3 ⟨rfl,Hf⟩;have Hg:=qI (Ha.out.trans (Hf.mono Ha.out.size));clear Hf
 go_wp2
 refine hK.out _ _ (Hc.out _ Hg.out) (λhQ=>?_);clear hK K;refine tk 16 ?_;refine tk 17 ?_;refine Qn (by kernel_rfl) ?_ _;exact fL.mk (FrS.mk (by kernel_rfl) Hg.out)
end
section
open RowKit Shelf
open Qos (Nd Ct Pd nd ct pd ag aB)
open Sv (Gv Hd gv hd)
open Dvs (Dv dv nth aL)
attribute [local go_sem] Oper.semAt_some
abbrev ny:=λ(Bp:Nat) (p:Pd) (cb co cc k:Nat) (cn:ByteArray) (Bg cp:Nat) (ia:Option Addr) (dl ic:Nat) (w':World)=>w'.cell? ⟨Bp,0,none⟩=some (.string p.nm)/\w'.cell? ⟨Bp,2,none⟩=some (.slice (some ⟨cb,co,none⟩) p.cs.length cc)/\w'.cell? ⟨cb,co+k*6,none⟩=some (.string cn)/\w'.cell? ⟨Bg,0,none⟩=some (.int .u64 (cp:Nat))/\w'.cell? ⟨Bg,1,none⟩=some (.slice ia dl ic)
theorem ME (c2 c7 c8 c9 c10 c11 c13 c18 c19 c20:Value) (F:Nat->Value) (W:World) (base Bp Bg cb co cc k cp dl:Nat) (ia:Option Addr) (ic:Nat) (p:Pd) (cn:ByteArray) (va:Option Addr) (vc:Nat) (zq:List (RV × Rn))
  (hp:W.heap[Bp]?=some (.cells #[.string p.nm,.int .i64 p.pr,.slice (some ⟨cb,co,none⟩) p.cs.length cc] 47)) (hg:W.heap[Bg]?=some (.cells #[.int .u64 (cp:Nat),.slice ia dl ic] 69)) (hk:k<p.cs.length) (_h3:p.cs.length<=1000) (hc:W.cell? ⟨cb,co+k*6,none⟩=some (.string cn)) (hcb:cb<base) (hrow:bS base W (.slice va zq.length vc) (zq.map Prod.fst)) (hzl:zq.length<=300) (hbl:base<=W.heap.size) :
  Code.wp Tryz.prog (je 39) (fL (λa w'=>∃ v',FrS (λF=>frS c2 c7 c8 c9 c10 c11 (v') c13 (.pointer (some ⟨Bp,0,none⟩)) (.int .i64 (k:Nat)) (.pointer (some ⟨Bg,0,none⟩)) (F 18) (F 19) (F 20) F) (λW'=>bS base W' v' (zq.map Prod.fst++[(⟨p.nm,cn,(cp:Nat),ia,dl,ic⟩:RV)])/\Apart (λj=>base<=j/\j≠Bp) W W') a w')) (frS c2 c7 c8 c9 c10 c11 (.slice va zq.length vc) c13 (.pointer (some ⟨Bp,0,none⟩)) (.int .i64 (k:Nat)) (.pointer (some ⟨Bg,0,none⟩)) c18 c19 c20 F) W:=by
 obtain ⟨i0,hi,Hp,Ht,Hn⟩:=info_parts rF;have Hz:Bp<W.heap.size:=(gS hp).1;have Hv:Bg<W.heap.size:=(gS hg).1;have Hl:Hid ((ny Bp p cb co cc k cn Bg cp ia dl ic) W):=⟨ad hp 0,ad hp 2,hc,ad hg 0,ad hg 1⟩;have Hq:=qI hrow;have Hm:∀ b,(Value.slice va zq.length vc).ownBlock=some b->base<=b/\b≠Bp/\b≠Bg:=λb hb=>⟨(hrow.lt b hb).1,λe=>r9 hrow hp (by decide) (by rw [hb,e]),λe=>r9 hrow hg (by decide) (by rw [hb,e])⟩
 have Hi:=qI Hm;have hN:=rG W.drew (⟨p.nm,cn,(cp:Nat),ia,dl,ic⟩:RV) 111;rw [show W.drew.heap.size=W.heap.size from rfl] at hN;have HN:=qI hN;have Hr:Hid (bS base W.drew (.slice va zq.length vc) (zq.map Prod.fst)):=hrow;have Hf:Hid ((ny Bp p cb co cc k cn Bg cp ia dl ic) W.drew):=Hl.out;clear hp hg hrow hc hN Hm Hl;simp only [frS,tlS,Nat.reduceAdd]
 conv=>enter [2];unfold je;whnf
 refine wp_region_held_drew (S:=ny Bp p cb co cc k cn Bg cp ia dl ic) (by kernel_rfl) Hf.out (λhQ=>?_);refine tk 0 ?_;refine tk 1 ?_;refine tk 2 ?_;refine tk 3 ?_;refine tk 4 ?_;refine tk 5 ?_;refine tk 6 ?_;refine tk 7 ?_;refine tk 8 ?_;refine tk 9 ?_;refine tk 10 ?_;refine tk 11 ?_;refine tk 12 ?_;refine tk 13 ?_;have Hc:=(Q0 W.drew.heap.size W.drew).alloc (lR) (.cells #[.string p.nm,.string cn,.int .u64 (cp:Nat),.slice ia dl ic] 111);have He:Hid ((ny Bp p cb co cc k cn Bg cp ia dl ic) (W.drew.alloc (.cells #[.string p.nm,.string cn,.int .u64 (cp:Nat),.slice ia dl ic] 111))):=⟨(Hc.cell (p:=⟨Bp,0,none⟩) (by show Bp<W.heap.size;omega)).trans Hf.out.1,(Hc.cell (p:=⟨Bp,2,none⟩) (by show Bp<W.heap.size;omega)).trans Hf.out.2.1,(Hc.cell (p:=⟨cb,co+k*6,none⟩) (by show cb<W.heap.size;omega)).trans Hf.out.2.2.1,(Hc.cell (p:=⟨Bg,0,none⟩) (by show Bg<W.heap.size;omega)).trans Hf.out.2.2.2.1,(Hc.cell (p:=⟨Bg,1,none⟩) (by show Bg<W.heap.size;omega)).trans Hf.out.2.2.2.2⟩;have Hy:=qI Hc;clear Hc;refine rd 14 (λK hK=>?_);go_simp
 go_wp2
 refine hK.out _ _ He.out (λhQ=>?_);clear hK K;refine rd 15 (λK hK=>?_);rw [if_pos (by rfl)];have Hs:(zq.map Prod.fst).length<=400:=by rw [Q9];omega
 refine wp_append_own (o := { dst := some 224, op := Op.call { callee := Callee.builtin Builtin.append, args := #[Operand.tmp 209, Operand.tmp 223], argTypes := #[105, 105] }, type := 105, pos := "top.go:80", after := #[{ on := 0, ground := Ground.data }, { on := 14, ground := Ground.data }], guard := none }) _ _ _ 105 rfl base 111 i0 (.agg #[.string ByteArray.empty, .string ByteArray.empty, .int .u64 0, .slice none 0 0]) 4 64 Tryz.underlying105 hi Hp Ht Hn rfl (by decide) (.slice va zq.length vc) _ _ rfl (Hr.out.alloc _) ⟨_, 0, none⟩ 1 1 (RV.cells (⟨p.nm, cn, (cp : Nat), ia, dl, ic⟩ : RV)) rfl rfl HN.out (yI _) (by unfold maxLen; omega) (by omega) (by show base ≤ (W.drew.alloc _).heap.size; rw [World.size_alloc]; show base ≤ W.heap.size + 1; omega) ?_
 intro v' W3 Hb Ha _;have Ho:=qI (bS.push Hb);have Hu:Hid (Apart (λj=>base<=j/\j≠Bp) W W3):=((Apart.of_below (a6 ((Q0 W.heap.size W).alloc (lR) _)))).trans (ey Ha (λb hb _=>⟨(Hi.out b hb).1,(Hi.out b hb).2.1⟩));have Hh:some Bp≠(Value.slice va zq.length vc).ownBlock:=λe=>(Hi.out Bp e.symm).2.1 rfl
 have Hg:some Bg≠(Value.slice va zq.length vc).ownBlock:=λe=>(Hi.out Bg e.symm).2.2 rfl
 have Hj:some cb≠(Value.slice va zq.length vc).ownBlock:=λe=>by have:=(Hi.out cb e.symm).1;omega
 have Hw:(W.alloc (.cells #[.string p.nm,.string cn,.int .u64 (cp:Nat),.slice ia dl ic] 111)).drew.heap.size=W.heap.size+1:=by show (W.alloc _).heap.size=_;rw [World.size_alloc]
 have Hx:=Ha.size;have Hk:(ny Bp p cb co cc k cn Bg cp ia dl ic) W3:=⟨(Ha.cell_far ⟨Bp,0,none⟩ (by show Bp<_;omega) Hh).trans He.out.1,(Ha.cell_far ⟨Bp,2,none⟩ (by show Bp<_;omega) Hh).trans He.out.2.1,(Ha.cell_far ⟨cb,co+k*6,none⟩ (by show cb<_;omega) Hj).trans He.out.2.2.1,(Ha.cell_far ⟨Bg,0,none⟩ (by show Bg<_;omega) Hg).trans He.out.2.2.2.1,(Ha.cell_far ⟨Bg,1,none⟩ (by show Bg<_;omega) Hg).trans He.out.2.2.2.2⟩;refine hK.out _ _ Hk (λhQ=>?_);clear hK K;(try simp only [Act.put,s1,s2,s3]);refine tk 16 ?_;refine Qn (by kernel_rfl) ?_ _;clear hQ Hb Ha Hk;exact fL.mk ⟨v',FrS.mk (by kernel_rfl) ⟨Ho.out,Hu.out⟩⟩
end
section
open RowKit Shelf
open Qos (Nd Ct Pd nd ct pd ag aB)
open Sv (Gv Hd gv hd)
open Dvs (Dv dv nth aL)
attribute [local go_sem] Oper.semAt_some
abbrev MF:=λ(Bp:Nat) (p:Pd) (pa:Option Addr) (pcc hb ho:Nat) (ga:Option Addr) (gc:Nat) (w':World)=>(w'.cell? ⟨Bp,0,none⟩=some (.string p.nm)/\w'.cell? ⟨Bp,1,none⟩=some (.int .i64 p.pr)/\w'.cell? ⟨Bp,2,none⟩=some (.slice pa p.cs.length pcc))/\w'.cell? ⟨hb,ho+0*4+3,none⟩=some (.slice ga p.cs.length gc)
abbrev MG:=λ(Bp:Nat) (p:Pd) (pa:Option Addr) (pcc hb ho i:Nat) (ga:Option Addr) (gc j:Nat) (nm:ByteArray) (w':World)=>(w'.cell? ⟨Bp,0,none⟩=some (.string p.nm)/\w'.cell? ⟨Bp,1,none⟩=some (.int .i64 p.pr)/\w'.cell? ⟨Bp,2,none⟩=some (.slice pa p.cs.length pcc))/\w'.cell? ⟨hb,ho+i*4+3,none⟩=some (.slice ga p.cs.length gc)/\w'.cell? ⟨hb,ho+j*4,none⟩=some (.string nm)
theorem MH (c2 c7 c8 c9 c10 c12 c16 c17 c18 c19 c20:Value) (F:Nat->Value) (W:World) (Bp hb ho hl lc i:Nat) (pa ga:Option Addr) (pcc gc:Nat) (p:Pd) (nm:ByteArray)
  (hp:W.heap[Bp]?=some (.cells #[.string p.nm,.int .i64 p.pr,.slice pa p.cs.length pcc] 47)) (hcon:aD W (.slice pa p.cs.length pcc) p.cs) (hF:ag p=0) (hgc:W.cell? ⟨hb,ho+i*4+3,none⟩=some (.slice ga p.cs.length gc)) (hi:i<hl) (hhl:hl<=100) (hn:0<i->W.cell? ⟨hb,ho+(i - 1)*4,none⟩=some (.string nm)) (hle:0<i->Qos.leS p.nm nm=false) (_h3:p.cs.length<=1000) :
  Code.wp Tryz.prog (je 17) (fL (FrS (λF=>frD c2 c7 c8 c9 c10 (.slice (some ⟨hb,ho,none⟩) hl lc) c12 (.int .i64 (i:Nat)) (.pointer (some ⟨Bp,0,none⟩)) (F 16) (F 17) (F 18) (F 19) (F 20) (.bool false) F) (λW'=>Below W.heap.size W W'))) (frS c2 c7 c8 c9 c10 (.slice (some ⟨hb,ho,none⟩) hl lc) c12 (.int .i64 (i:Nat)) (.pointer (some ⟨Bp,0,none⟩)) c16 c17 c18 c19 c20 F) W:=by
 have Hl:Bp<W.heap.size:=(gS hp).1;have Hj:hb<W.heap.size:=Q3 W ⟨hb,_,none⟩ hgc;have Hk:Hid (∀ V,Below W.heap.size W V->Calls Tryz.prog 22 #[.agg #[.string p.nm,.int .i64 p.pr,.slice pa p.cs.length pcc]] V λe w'=>e=.returned .nilIface/\Below V.heap.size V w'):=λV hb=>by
  have:=qE p (.slice pa p.cs.length pcc) V (hcon.below hb)
  rw [hF] at this;exact this
 have Ha:Hid (Below W.heap.size W W.drew):=a6 (Q0 _ _);have Hf:=qI hp;have Hg:=qI hgc;have Hh:=qI hn;have Hi:=qI hle;clear hcon hp hgc hn hle hF
 by_cases hi0:i=0
 ·subst hi0;have Hb:Hid (∀ V,Below W.heap.size W V->(MF Bp p pa pcc hb ho ga gc) V):=λV hb=>by
   have bp:=(hb.block Bp Hl).trans Hf.out;exact ⟨⟨ad bp 0,ad bp 1,ad bp 2⟩,(hb.cell (p:=⟨_,_,none⟩) Hj).trans Hg.out⟩
  clear Hf Hg Hh Hi;simp only [frS,tlS,Nat.reduceAdd]
  conv=>enter [2];unfold je;whnf
  refine Qo (by kernel_rfl) (Hb.out _ Ha.out) (λhQ=>?_);generalize W.drew=V at *;refine tk 0 ?_;refine rd 1 (λK hK=>?_);go_simp
  go_wp2_with fail
  refine (Hk.out _ Ha.out).mono ?_;rintro e V2 ⟨rfl,Hc⟩;have He:=qI (Ha.out.trans (Hc.mono Ha.out.size));clear Hc
  go_wp2
  refine hK.out _ _ (Hb.out _ He.out) (λhQ=>?_);clear hK K;refine tk 2 ?_;refine tk 3 ?_;refine tk 4 ?_;refine tk 5 ?_;refine tk 6 ?_;refine tk 7 ?_;refine tk 8 ?_;refine tk 9 ?_;refine tk 10 ?_;refine tk 11 ?_;refine tk 12 ?_;refine tk 13 ?_;refine tk 14 ?_;refine tk 15 ?_;refine tk 16 ?_;refine tk 17 ?_;refine tk 18 ?_;refine ts 19 ?_;refine ts 20 ?_;refine ts 21 ?_;refine ts 22 ?_;refine ts 23 ?_;refine ts 24 ?_;refine ts 25 ?_;refine ts 26 ?_;refine ts 27 ?_;refine ts 28 ?_;refine tk 29 ?_;refine tk 30 ?_;refine Qn (by kernel_rfl) ?_ _;exact fL.mk (FrS.mk (by kernel_rfl) He.out)
 ·obtain ⟨j,Hm⟩:∃ j,i=j+1:=⟨i - 1,by omega⟩;clear hi0;have hn:=Hh.out (by omega);have hle:=Hi.out (by omega);rw [show i - 1=j by omega] at hn;unfold Qos.leS at hle;have Hb:Hid (∀ V,Below W.heap.size W V->(MG Bp p pa pcc hb ho i ga gc j nm) V):=λV hb=>by
   have bp:=(hb.block Bp Hl).trans Hf.out;exact ⟨⟨ad bp 0,ad bp 1,ad bp 2⟩,(hb.cell (p:=⟨_,_,none⟩) Hj).trans Hg.out,(hb.cell (p:=⟨_,_,none⟩) Hj).trans hn⟩
  clear Hf Hg Hh Hi hn;have Hp:decide ((0:Int)<(i:Int))=true:=Qc (by omega);have Hu:(0:Int)<(i:Int):=by omega
  have Hn:0<i:=by omega
  have Hs:decide (0<i)=true:=Qc Hn;have Hv:wrap64 ((i:Int) - 1)=(j:Int):=by unfold wrap64;omega
  have Hr:IntKind.i64.wrap ((i:Int) - 1)=(j:Int):=by rw [IntKind.wrap_i64];omega
  have Ho:j<hl:=by omega
  have Hq:(j:Int)<(hl:Int):=by omega
  have Ht:(i:Int)<(hl:Int):=by omega
  clear Hm;simp only [frS,tlS,Nat.reduceAdd]
  conv=>enter [2];unfold je;whnf
  refine Qo (by kernel_rfl) (Hb.out _ Ha.out) (λhQ=>?_);generalize W.drew=V at *;refine tk 0 ?_;refine rd 1 (λK hK=>?_);go_simp
  go_wp2_with fail
  refine (Hk.out _ Ha.out).mono ?_;rintro e V2 ⟨rfl,Hc⟩;have He:=qI (Ha.out.trans (Hc.mono Ha.out.size));clear Hc
  go_wp2
  refine hK.out _ _ (Hb.out _ He.out) (λhQ=>?_);clear hK K;refine tk 2 ?_;refine tk 3 ?_;refine tk 4 ?_;refine tk 5 ?_;refine tk 6 ?_;refine tk 7 ?_;refine tk 8 ?_;refine tk 9 ?_;refine tk 10 ?_;refine tk 11 ?_;refine tk 12 ?_;refine tk 13 ?_;refine tk 14 ?_;refine tk 15 ?_;refine tk 16 ?_;refine tk 17 ?_;refine tk 18 ?_;refine tk 19 ?_;refine tk 20 ?_;refine tk 21 ?_;refine tk 22 ?_;refine tk 23 ?_;refine tk 24 ?_;refine tk 25 ?_;refine tk 26 ?_;refine tk 27 ?_;refine tk 28 ?_;refine tk 29 ?_;refine tk 30 ?_;refine Qn (by kernel_rfl) ?_ _;exact fL.mk (FrS.mk (by kernel_rfl) He.out)
end
section
open RowKit Shelf
open Qos (Nd Ct Pd nd ct pd ag aB)
open Sv (Gv Hd gv hd)
open Dvs (Dv dv nth aL)
attribute [local go_sem] Oper.semAt_some
def frE (c2 c3 c7 c8:Value) (F:Nat->Value):Act:=⟨List.toArray (F 0 :: F 1 :: c2 :: c3 :: F 4 :: F 5 :: F 6 :: c7 :: c8 :: F 9 :: F 10 :: F 11 :: F 12 :: F 13 :: F 14 :: F 15 :: F 16 :: F 17 :: F 18 :: F 19 :: F 20 :: F 21 :: F 22 :: F 23 :: F 24 :: tlS F ([]) 25 251),[]⟩
abbrev MI:=λ(Bc:Nat) (nb:Int) (w':World)=>w'.cell? ⟨Bc,2,none⟩=some (.int .i64 nb)
theorem MJ (c2 c8:Value) (F:Nat->Value) (W:World) (Bc op kp cl cc dl dc:Nat) (ca da:Option Addr) (nb pol:Int) (hc:W.heap[Bc]?=some (.cells #[.slice ca cl cc,.int .u64 (kp:Nat),.int .i64 nb,.slice da dl dc,.int .i64 pol] 27)) (hop:op<18446744073709551616) :
  Code.wp Tryz.prog (je 5) (fL (λa w'=>∃ Br,FrS (λF=>frE c2 (.pointer (some ⟨Bc,0,none⟩)) (.int .u64 (op:Nat)) (.pointer (some ⟨Br,0,none⟩)) F) (λW'=>W'.heap[Br]?=some (.cells #[.int .i64 (1000*(Ost.cnt op:Int)),.int .i64 nb] 60 (0,0))/\W.heap.size<=Br/\Below W.heap.size W W') a w')) (frE c2 (.pointer (some ⟨Bc,0,none⟩)) (.int .u64 (op:Nat)) c8 F) W:=by
 have Ho:Bc<W.heap.size:=(gS hc).1;have He:Hid (∀ V,Below W.heap.size W V->(MI Bc nb) V):=λV hb=>ad ((hb.block Bc Ho).trans hc) 2
 have Hq:=Ol.rB op;have Hj:Hid (∀ V,Calls Tryz.prog 17 #[.int .u64 (op:Nat)] V λe w'=>e=.returned (.int .i64 (Ost.cnt op:Nat))/\w'=V):=λV=>fP op V hop
 obtain ⟨q,hq⟩:∃ q,q=Ost.cnt op:=⟨_,rfl⟩;rw [<- hq] at Hj Hq;rw [<- hq];have Hr:IntKind.i64.wrap (1000*(q:Int))=1000*(q:Int):=by rw [IntKind.wrap_i64];omega
 have Hl:wrap64 (1000*(q:Int))=1000*(q:Int):=by unfold wrap64;omega
 have Ha:Hid (Below W.heap.size W W.drew):=a6 (Q0 _ _);clear hc hq;simp only [frE,tlS,Nat.reduceAdd]
 conv=>enter [2];unfold je;whnf
 refine Qo (by kernel_rfl) (He.out _ Ha.out) (λhQ=>?_);generalize W.drew=V at *;refine tk 0 ?_;refine tk 3 ?_;refine tk 4 ?_;refine wpAnyH_ready (rs:=[1,6]) (by kernel_rfl) (by simp) (AllReadyH.cons rfl (λK hK=>?_) (AllReadyH.cons rfl (λK hK=>?_) AllReadyH.nil))
 ·go_simp
  go_wp2_with fail
  refine (Hj.out _).mono ?_;rintro e V1 ⟨rfl,rfl⟩
  go_wp2
  refine hK.out _ _ (He.out _ Ha.out) (λhQ=>?_);clear hK K;refine tk 2 ?_;refine tk 5 ?_;refine rd 6 (λK hK=>?_);have Hi:=qI (Ha.out.alloc Ha.out.size (.cells #[.int .i64 0,.int .i64 0] 60));have Hg:=qI (aF V1 (.cells #[.int .i64 0,.int .i64 0] 60) rfl);have Hb:=Ha.out.size;go_simp
  go_wp2
  refine hK.out _ _ (He.out _ Hi.out) (λhQ=>?_);clear hK K;generalize V1.alloc (.cells #[.int .i64 0,.int .i64 0] 60)=W2 at *;refine rd 7 (λK hK=>?_);have c0_3:W2.cell? ⟨V1.heap.size,0,none⟩=some (.int .i64 0):=ad Hg.out 0;have c1_3:W2.cell? ⟨V1.heap.size,1,none⟩=some (.int .i64 0):=ad Hg.out 1;have f0_3:=aq Hg.out 0;have f1_3:=aq Hg.out 1;have Hm:Hid (Below W.heap.size W ((W2.setCell ⟨V1.heap.size,0,none⟩ (.int .i64 (1000*(q:Int)))).setCell ⟨V1.heap.size,1,none⟩ (.int .i64 nb))):=fX (fX Hi.out V1.heap.size 0 _ Hb Hi.out.size) V1.heap.size 1 _ Hb (by simp;exact Hi.out.size);have Hp:=qI (aj (aj Hg.out 0 (.int .i64 (1000*(q:Int)))) 1 (.int .i64 nb));go_simp
  go_wp2
  refine hK.out _ _ (He.out _ Hm.out) (λhQ=>?_);clear hK K;refine Qn (by kernel_rfl) ?_ _;exact fL.mk ⟨_,FrS.mk (by kernel_rfl) ⟨Hp.out,Hb,Hm.out⟩⟩
 ·have Hf:=qI (Ha.out.alloc Ha.out.size (.cells #[.int .i64 0,.int .i64 0] 60));have Hh:=qI (aF V (.cells #[.int .i64 0,.int .i64 0] 60) rfl);have Hc:=Ha.out.size;go_simp
  go_wp2
  refine hK.out _ _ (He.out _ Hf.out) (λhQ=>?_);clear hK K;generalize V.alloc (.cells #[.int .i64 0,.int .i64 0] 60)=W4 at *;refine rd 1 (λK hK=>?_);go_simp
  go_wp2_with fail
  refine (Hj.out _).mono ?_;rintro e V5 ⟨rfl,rfl⟩
  go_wp2
  refine hK.out _ _ (He.out _ Hf.out) (λhQ=>?_);clear hK K;refine tk 2 ?_;refine tk 5 ?_;refine rd 7 (λK hK=>?_);have c0_6:V5.cell? ⟨V.heap.size,0,none⟩=some (.int .i64 0):=ad Hh.out 0;have c1_6:V5.cell? ⟨V.heap.size,1,none⟩=some (.int .i64 0):=ad Hh.out 1;have f0_6:=aq Hh.out 0;have f1_6:=aq Hh.out 1;have Hk:Hid (Below W.heap.size W ((V5.setCell ⟨V.heap.size,0,none⟩ (.int .i64 (1000*(q:Int)))).setCell ⟨V.heap.size,1,none⟩ (.int .i64 nb))):=fX (fX Hf.out V.heap.size 0 _ Hc Hf.out.size) V.heap.size 1 _ Hc (by simp;exact Hf.out.size);have Hn:=qI (aj (aj Hh.out 0 (.int .i64 (1000*(q:Int)))) 1 (.int .i64 nb));go_simp
  go_wp2
  refine hK.out _ _ (He.out _ Hk.out) (λhQ=>?_);clear hK K;refine Qn (by kernel_rfl) ?_ _;exact fL.mk ⟨_,FrS.mk (by kernel_rfl) ⟨Hn.out,Hc,Hk.out⟩⟩
end
