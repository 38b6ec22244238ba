import Derived.Test.YtbmmnflgnmjboaaGreatDoorR31
import Derived.Deep.LoopGhost
set_option maxRecDepth 100000
set_option maxHeartbeats 16000000
open Go.Proofs.Tryz
namespace Go.Proofs.YtbmmnflgnmjboaaGreatDoor
section
open RowKit Shelf
def i8:Code->List Code
 | .loop c=>c :: i8 c
 | .seq a b=>i8 a++i8 b
 | .cond _ a b=>i8 a++i8 b
 | .block _ c=>i8 c
 | .scope c=>i8 c
 | _=>[]
def FrS (G:(Nat->Value)->Act) (P:World->Prop) (a:Act) (w:World):Prop:=∃ F,a=G F/\P w
theorem FrS.mk {G:(Nat->Value)->Act} {P:World->Prop} {a:Act} {w:World} (h:a=G (λn=>a.tmps.getD n undef)) (hP:P w):FrS G P a w:=⟨_,h,hP⟩
def ja (n:Nat) (R:Act->World->Prop):Exit->Act->World->Prop
 | .exit m,a,w=>m=n/\R a w
 | _,_,_=>False
theorem jQ {P:Program} {c:Code} {n:Nat} {R:Act->World->Prop} {Q:Exit->Act->World->Prop} {G:(Nat->Value)->Act} {a:Act} {w:World} (ha:a=G (λn=>a.tmps.getD n undef)) (h:∀ F,Code.wp P c (ja n R) (G F) w) (hq:∀ a w,R a w->Q (.exit n) a w):Code.wp P c Q a w:=by
 rw [ha];exact Code.wp_mono (λe a w he=>by
  cases e with
  | exit m=>exact he.1 ▸ hq _ _ he.2
  | _=>exact he.elim) (h _)
def jb (n:Nat):Code->Option Code
 | .region m os d=>if m == n then some (.region m os d) else none
 | .loop c=>jb n c
 | .seq a b=>(jb n a).or (jb n b)
 | .cond _ a b=>(jb n a).or (jb n b)
 | .block _ c=>jb n c
 | .scope c=>jb n c
 | _=>none
def eU (R:Act->World->Prop):Exit->Act->World->Prop
 | .normal,a,w=>R a w
 | _,_,_=>False
theorem eU.mk {R:Act->World->Prop} {a:Act} {w:World} (h:R a w):eU R .normal a w:=h
theorem nA {P:Program} {c:Code} {R:Act->World->Prop} {Q:Exit->Act->World->Prop} {G:(Nat->Value)->Act} {a:Act} {w:World} (ha:a=G (λn=>a.tmps.getD n undef)) (h:∀ F,Code.wp P c (eU R) (G F) w) (hq:∀ a w,R a w->Q .normal a w):Code.wp P c Q a w:=by
 rw [ha];exact Code.wp_mono (λe a w he=>by
  cases e with
  | normal=>exact hq _ _ he
  | _=>exact he.elim) (h _)
theorem pk {P:Program} {Q:Exit->Act->World->Prop} {a:Act} {w:World} {c:Code} (I:Nat->Act->World->Prop) (n₀:Nat) (h₀:I n₀ a w) (round:∀ n a w,I n a w->∀ K:Act->World->Prop,Hid (∀ a' w',(∃ n',n'<n/\I n' a' w')->K a' w')->c.wp P (Exit.then K Q) a w):(Code.loop c).wp P Q a w:=
 wp_loop_ghost I n₀ h₀ λn a w h=>round n a w h _ (qI λ_ _ q=>q)
noncomputable def jc (n:Nat):Code:=((Tryz.f14.body.bind (jb n))).getD .skip
noncomputable def gm (n:Nat):Code:=((Tryz.f14.body.map i8).getD []).getD n .skip
def tlS (F:Nat->Value) (t:List Value):Nat->Nat->List Value
 | _,0=>t
 | a,k+1=>F a :: tlS F t (a+1) k
def frD (c2 c7 c8 c9 c10 c11 c12 c13 c14 c16 c17 c18 c19 c20 c105:Value) (F:Nat->Value):Act:=⟨List.toArray (F 0 :: F 1 :: c2 :: F 3 :: F 4 :: F 5 :: F 6 :: c7 :: c8 :: c9 :: c10 :: c11 :: c12 :: c13 :: c14 :: F 15 :: c16 :: c17 :: c18 :: c19 :: c20 :: F 21 :: F 22 :: F 23 :: F 24 :: tlS F (c105 :: tlS F ([]) 106 170) 25 80),[]⟩
def frB (c2 c7 c8 c9 c10 c11 c12 c13 c14 c16 c17 c18 c19 c20 c138:Value) (F:Nat->Value):Act:=⟨List.toArray (F 0 :: F 1 :: c2 :: F 3 :: F 4 :: F 5 :: F 6 :: c7 :: c8 :: c9 :: c10 :: c11 :: c12 :: c13 :: c14 :: F 15 :: c16 :: c17 :: c18 :: c19 :: c20 :: F 21 :: F 22 :: F 23 :: F 24 :: tlS F (c138 :: tlS F ([]) 139 137) 25 113),[]⟩
def frS (c2 c7 c8 c9 c10 c11 c12 c13 c14 c16 c17 c18 c19 c20:Value) (F:Nat->Value):Act:=⟨List.toArray (F 0 :: F 1 :: c2 :: F 3 :: F 4 :: F 5 :: F 6 :: c7 :: c8 :: c9 :: c10 :: c11 :: c12 :: c13 :: c14 :: F 15 :: c16 :: c17 :: c18 :: c19 :: c20 :: F 21 :: F 22 :: F 23 :: F 24 :: tlS F ([]) 25 251),[]⟩
end
section
open RowKit Shelf
open Qos (Nd Ct Pd nd ct pd af aA)
open Sv (Gv Hd gv hd)
open Dvs (Dv dv nth aL)
attribute [local go_sem] Oper.semAt_some
theorem Ml {us:Nat->Bool} {l:List Int} {q m:Nat} (hq:q<l.length) (hm:nth l q=(m:Int)) (j:Nat):aL us (l.take (q+1)) j=if j=m then true else aL us (l.take q) j:=by
 rw [Dvs.uk hq,Dvs.uu _ _ _ (by omega),hm];have e:((m:Int)).toNat=m:=by omega
 rw [e]
 by_cases h:j=m
 ·rw [if_pos h,Qc h,Bool.or_true]
 ·rw [if_neg h,Q7 h,Bool.or_false]
theorem Mm (c2 c7 c8 c11 c12 c13 c14 c16 c18 c19:Value) (F:Nat->Value) (W:World) (Bg Bi:Nat) (wa:Option Addr) (dn wc:Nat) (ia:Option Addr) (ic:Nat) (l:List Int) (us:Nat->Bool) (hg:W.cell? ⟨Bg,1,none⟩=some (.slice ia l.length ic)) (hi:bt W (.slice ia l.length ic) l) (hb:bR W Bi us) (hgi:Bg≠Bi) (hii:∀ b o,ia=some ⟨b,o,none⟩->0<l.length->b≠Bi) (hl:l.length<=16) (hd:dn<=16) (hok:∀ j,j<l.length->(0<=nth l j/\nth l j<dn/\nth l j ∉ l.take j)/\us (nth l j).toNat=false) :
  Code.wp prog (Code.loop (gm 3)) (ja 6 (FrS (λF=>frS c2 c7 c8 (.slice wa dn wc) (.pointer (some ⟨Bi,0,none⟩)) c11 c12 c13 c14 c16 (.pointer (some ⟨Bg,0,none⟩)) (F 18) (F 19) (F 20) F) λW'=>bR W' Bi (aL us l)/\Apart (λj=>j=Bi) W W')) (frS c2 c7 c8 (.slice wa dn wc) (.pointer (some ⟨Bi,0,none⟩)) c11 c12 c13 c14 c16 (.pointer (some ⟨Bg,0,none⟩)) c18 c19 (.int .i64 0) F) W:=by
 obtain ⟨iao,ic',Hh,_,Hg⟩:=hi;have Ht:iao=ia:=by injection Hh with e;exact e.symm
 subst Ht;have Hp:=qI Hg;have Ho:=qI hii;have Hl:=qI hok;have Hr:Hid (bR W Bi (aL us (l.take 0))):=by
  unfold Hid;rw [List.take_zero,Dvs.ut];exact hb
 clear Hg hii hok Hh hb;simp only [frS,tlS,Nat.reduceAdd]
 conv=>enter [2,1];unfold gm;whnf
 have Hv:Bg<W.heap.size:=Q3 W _ hg;have HG:=qI hg;clear hg
 go_loopw [20] (λi wq=>∃ q:Nat,q<=l.length/\i=.int .i64 q/\bR wq Bi (aL us (l.take q))/\Apart (λj=>j=Bi) W wq) (λi _=>l.length - (intOf i).toNat)
 case atStart=>exact ⟨0,Nat.zero_le _,rfl,Hr.out,Apart.refl _ _⟩
 case round=>
  obtain ⟨q,hq,rfl,Hb,Ha⟩:=hrel;have g1:wr.cell? ⟨Bg,1,none⟩=some (.slice iao l.length ic):=(jN (Ha.block Bg Hv hgi) 1).trans HG.out
  by_cases hlt:q<l.length
  ·obtain ⟨ib,io,Hi,Hc,He⟩:=Hp.out (by omega);have Hs:ib≠Bi:=Ho.out ib io Hi (by omega);subst Hi;obtain ⟨⟨r1,r2,r3⟩,r4⟩:=Hl.out q hlt;obtain ⟨m,hm⟩:∃ m:Nat,nth l q=(m:Int):=⟨(nth l q).toNat,by omega⟩;have Hx:m<dn:=by omega
   have i0:wr.cell? ⟨ib,io+q,none⟩=some (.int .i64 (m:Int)):=by
    rw [(jN (Ha.block ib Hc Hs) _).trans (He q hlt),<- hm];rfl
   have Hf:aL us (l.take q) m=false:=by
    rw [hm] at r3 r4;have e:((m:Int)).toNat=m:=by omega
    rw [e] at r4;exact Ol.rf.2 ⟨r4,r3⟩
   obtain ⟨b0,b1⟩:=Hb m (by omega);rw [Hf] at b0;have Hn:Hid (bR (wr.setCell ⟨Bi,m,none⟩ (.bool true)) Bi (aL us (l.take (q+1)))):=Hb.set (by omega) true λj _=>Ml hlt hm j;have Hu:Hid (Apart (λj=>j=Bi) W (wr.setCell ⟨Bi,m,none⟩ (.bool true))):=Ha.trans (Apart.setCell (K:=λj=>j=Bi) rfl _ _ _);have Hk:m<16:=by omega
   have Hj:¬ ((m:Int)<0):=by omega
   have Hw:decide ((m:Int)<0)=false:=Q7 Hj;have Hy:decide ((dn:Int)<=(m:Int))=false:=Q7 (by omega);have Hq:decide (dn<=m)=false:=Q7 (by omega);clear He Hb Ha hm r1 r2 r3 r4 Hf
   go_wp2
   go_roundw
   case rel=>exact ⟨q+1,by omega,by go_num,Hn.out,Hu.out⟩
   case measure=>simp [intOf];omega
  ·have Hm:q=l.length:=by omega
   subst Hm;rw [Qh] at Hb;have HQ:=qI Hb;have HA:=qI Ha;clear Hb Ha
   go_wp2
   exact ⟨rfl,FrS.mk (by kernel_rfl) ⟨HQ.out,HA.out⟩⟩
end
section
open RowKit Shelf
open Qos (Nd Ct Pd nd ct pd af aA)
open Sv (Gv Hd gv hd)
open Dvs (Dv dv nth aL)
attribute [local go_sem] Oper.semAt_some
abbrev Mn:=λ(Bg cp Bp:Nat) (p:Pd) (cb co cc k:Nat) (x:Ct) (na:Option Addr) (nc:Nat) (w':World)=>(w'.cell? ⟨Bg,0,none⟩=some (.int .u64 (cp:Nat))/\w'.cell? ⟨Bp,0,none⟩=some (.string p.nm)/\w'.cell? ⟨Bp,1,none⟩=some (.int .i64 p.pr)/\w'.cell? ⟨Bp,2,none⟩=some (.slice (some ⟨cb,co,none⟩) p.cs.length cc))/\w'.cell? ⟨cb,co+k*6,none⟩=some (.string x.nm)/\w'.cell? ⟨cb,co+k*6+1,none⟩=some (.int .i64 x.am)/\w'.cell? ⟨cb,co+k*6+2,none⟩=some (.int .i64 x.ab)/\w'.cell? ⟨cb,co+k*6+3,none⟩=some (.int .i64 x.cm)/\w'.cell? ⟨cb,co+k*6+4,none⟩=some (.int .i64 x.cb)/\w'.cell? ⟨cb,co+k*6+5,none⟩=some (.slice na x.ds.length nc)
theorem Mo (c2 c8 c9 c10 c11 c12 c13 c18 c19 c20:Value) (F:Nat->Value) (W:World) (Bp Bg cb co cc k cp lf dl:Nat) (ia:Option Addr) (ic:Nat) (p:Pd) (x:Ct) (na:Option Addr) (nc:Nat)
  (hp:W.heap[Bp]?=some (.cells #[.string p.nm,.int .i64 p.pr,.slice (some ⟨cb,co,none⟩) p.cs.length cc] 47)) (hg:W.heap[Bg]?=some (.cells #[.int .u64 (cp:Nat),.slice ia dl ic] 69)) (hk:k<p.cs.length) (_h3:p.cs.length<=1000) (hcs:∀ j,j<6->W.cell? ⟨cb,co+k*6+j,none⟩=([.string x.nm,.int .i64 x.am,.int .i64 x.ab,.int .i64 x.cm,.int .i64 x.cb,.slice na x.ds.length nc]:List Value)[j]?) (hcon:aE W (.slice (some ⟨cb,co,none⟩) p.cs.length cc) p.cs) (hcl:cp<18446744073709551616) (hll:lf<18446744073709551616) (hin:cp &&& lf=cp) (hcn:(Ost.cnt cp:Int)=aA p.cs x.am) (ha0:0<=x.am) (ha1:x.am<=1000000) :
  Code.wp prog (jc 23) (eU (FrS (λF=>frB c2 (.int .u64 (lf:Nat)) c8 c9 c10 c11 c12 c13 (.pointer (some ⟨Bp,0,none⟩)) (.int .i64 (k:Nat)) (.pointer (some ⟨Bg,0,none⟩)) (F 18) (F 19) (F 20) (.bool false) F) λW'=>Below W.heap.size W W')) (frS c2 (.int .u64 (lf:Nat)) c8 c9 c10 c11 c12 c13 (.pointer (some ⟨Bp,0,none⟩)) (.int .i64 (k:Nat)) (.pointer (some ⟨Bg,0,none⟩)) c18 c19 c20 F) W:=by
 have Hj:Bp<W.heap.size:=(gS hp).1;have Hh:Bg<W.heap.size:=(gS hg).1;have He:cb<W.heap.size:=Q3 W ⟨cb,co+k*6+0,none⟩ (hcs 0 (by decide));have Hc:Hid (∀ V,Below W.heap.size W V->(Mn Bg cp Bp p cb co cc k x na nc) V):=λV hb=>by
  have cc:∀ j,j<6->V.cell? ⟨cb,co+k*6+j,none⟩=([.string x.nm,.int .i64 x.am,.int .i64 x.ab,.int .i64 x.cm,.int .i64 x.cb,.slice na x.ds.length nc]:List Value)[j]?:=λj hj=>(hb.cell (p:=⟨cb,_,none⟩) He).trans (hcs j hj)
  have bp:=(hb.block Bp Hj).trans hp;exact ⟨⟨aa ((hb.block Bg Hh).trans hg) 0,aa bp 0,aa bp 1,aa bp 2⟩,cc 0 (by decide),cc 1 (by decide),cc 2 (by decide),cc 3 (by decide),cc 4 (by decide),cc 5 (by decide)⟩
 have Hb:∀ V,Calls prog 38 #[.int .u64 (cp:Nat),.int .u64 (lf:Nat)] V λe w'=>e=.returned (.bool true)/\w'=V:=λV=>by
  have:=js cp lf V hcl hll
  rw [Qc hin] at this;exact this
 have Hi:=qI Hb;have Hk:Hid (∀ V,Calls prog 17 #[.int .u64 (cp:Nat)] V λe w'=>e=.returned (.int .i64 (aA p.cs x.am))/\w'=V):=λV=>by
  have h:Calls prog 17 #[.int .u64 (cp:Nat)] V λe w'=>e=.returned (.int .i64 (Ost.cnt cp:Nat))/\w'=V:=fO cp V hcl
  rw [hcn] at h;exact h
 have Hl:Hid (∀ V,Below W.heap.size W V->Calls prog 16 #[.agg #[.string p.nm,.int .i64 p.pr,.slice (some ⟨cb,co,none⟩) p.cs.length cc],.agg #[.string x.nm,.int .i64 x.am,.int .i64 x.ab,.int .i64 x.cm,.int .i64 x.cb,.slice na x.ds.length nc]] V λe w'=>e=.returned (.int .i64 (aA p.cs x.am))/\Below V.heap.size V w'):=λV hb=>mn p _ x na x.ds.length nc V (hcon.below hb) ha0 ha1
 have Ha:Hid (Below W.heap.size W W.drew):=a6 (Q0 _ _);generalize aA p.cs x.am=ow at *;clear Hb hcs hcon hp hg hin hcn;simp only [frS,tlS,Nat.reduceAdd]
 conv=>enter [2];unfold jc;whnf
 refine Qo (by kernel_rfl) (Hc.out _ Ha.out) λhQ=>?_;generalize W.drew=V at *;refine tk 0 ?_;refine tk 1 ?_;refine tk 2 ?_;refine rd 3 λK hK=>?_;go_simp
 go_wp2_with fail
 refine (Hi.out _).mono ?_;rintro e V1 ⟨rfl,rfl⟩
 go_wp2
 refine hK.out _ _ (Hc.out _ Ha.out) λhQ=>?_;clear hK K;refine tk 4 ?_;refine tk 5 ?_;refine tk 6 ?_;refine tk 7 ?_;refine tk 9 ?_;refine tk 10 ?_;refine tk 11 ?_;refine tk 12 ?_;refine tk 13 ?_;refine tk 14 ?_;refine rd 8 λK hK=>?_;go_simp
 go_wp2_with fail
 refine (Hk.out _).mono ?_;rintro e V2 ⟨rfl,rfl⟩
 go_wp2
 refine hK.out _ _ (Hc.out _ Ha.out) λhQ=>?_;clear hK K;refine rd 15 λK hK=>?_;go_simp
 go_wp2_with fail
 refine (Hl.out _ Ha.out).mono ?_;rintro e V3 ⟨rfl,Hf⟩;have Hg:=qI (Ha.out.trans (Hf.mono Ha.out.size));clear Hf
 go_wp2
 refine hK.out _ _ (Hc.out _ Hg.out) λhQ=>?_;clear hK K;refine tk 16 ?_;refine tk 17 ?_;refine Qn (by kernel_rfl) ?_ _;exact eU.mk (FrS.mk (by kernel_rfl) Hg.out)
end
section
open RowKit Shelf
open Qos (Nd Ct Pd nd ct pd af aA)
open Sv (Gv Hd gv hd)
open Dvs (Dv dv nth aL)
attribute [local go_sem] Oper.semAt_some
abbrev nB:=λ(Bp:Nat) (p:Pd) (cb co cc k:Nat) (cn:ByteArray) (Bg cp:Nat) (ia:Option Addr) (dl ic:Nat) (w':World)=>w'.cell? ⟨Bp,0,none⟩=some (.string p.nm)/\w'.cell? ⟨Bp,2,none⟩=some (.slice (some ⟨cb,co,none⟩) p.cs.length cc)/\w'.cell? ⟨cb,co+k*6,none⟩=some (.string cn)/\w'.cell? ⟨Bg,0,none⟩=some (.int .u64 (cp:Nat))/\w'.cell? ⟨Bg,1,none⟩=some (.slice ia dl ic)
theorem Mp (c2 c7 c8 c9 c10 c11 c13 c18 c19 c20:Value) (F:Nat->Value) (W:World) (base Bp Bg cb co cc k cp dl:Nat) (ia:Option Addr) (ic:Nat) (p:Pd) (cn:ByteArray) (va:Option Addr) (vc:Nat) (zq:List (RV × Rn))
  (hp:W.heap[Bp]?=some (.cells #[.string p.nm,.int .i64 p.pr,.slice (some ⟨cb,co,none⟩) p.cs.length cc] 47)) (hg:W.heap[Bg]?=some (.cells #[.int .u64 (cp:Nat),.slice ia dl ic] 69)) (hk:k<p.cs.length) (_h3:p.cs.length<=1000) (hc:W.cell? ⟨cb,co+k*6,none⟩=some (.string cn)) (hcb:cb<base) (hrow:bP base W (.slice va zq.length vc) (zq.map Prod.fst)) (hzl:zq.length<=300) (hbl:base<=W.heap.size) :
  Code.wp prog (jc 39) (eU λa w'=>∃ v',FrS (λF=>frS c2 c7 c8 c9 c10 c11 (v') c13 (.pointer (some ⟨Bp,0,none⟩)) (.int .i64 (k:Nat)) (.pointer (some ⟨Bg,0,none⟩)) (F 18) (F 19) (F 20) F) (λW'=>bP base W' v' (zq.map Prod.fst++[(⟨p.nm,cn,(cp:Nat),ia,dl,ic⟩:RV)])/\Apart (λj=>base<=j/\j≠Bp) W W') a w') (frS c2 c7 c8 c9 c10 c11 (.slice va zq.length vc) c13 (.pointer (some ⟨Bp,0,none⟩)) (.int .i64 (k:Nat)) (.pointer (some ⟨Bg,0,none⟩)) c18 c19 c20 F) W:=by
 obtain ⟨i0,hi,Hq,Ht,Hp⟩:=info_parts rK;have Hw:Bp<W.heap.size:=(gS hp).1;have Hz:Bg<W.heap.size:=(gS hg).1;have Hl:Hid ((nB Bp p cb co cc k cn Bg cp ia dl ic) W):=⟨aa hp 0,aa hp 2,hc,aa hg 0,aa hg 1⟩;have Hs:=qI hrow;have Hm:∀ b,(Value.slice va zq.length vc).ownBlock=some b->base<=b/\b≠Bp/\b≠Bg:=λb hb=>⟨(hrow.lt b hb).1,λe=>sg hrow hp (by decide) (by rw [hb,e]),λe=>sg hrow hg (by decide) (by rw [hb,e])⟩
 have Hg:=qI Hm;have hN:=rL W.drew (⟨p.nm,cn,(cp:Nat),ia,dl,ic⟩:RV) 111;rw [show W.drew.heap.size=W.heap.size from rfl] at hN;have HN:=qI hN;have Hn:Hid (bP base W.drew (.slice va zq.length vc) (zq.map Prod.fst)):=hrow;have He:Hid ((nB Bp p cb co cc k cn Bg cp ia dl ic) W.drew):=Hl.out;clear hp hg hrow hc hN Hm Hl;simp only [frS,tlS,Nat.reduceAdd]
 conv=>enter [2];unfold jc;whnf
 refine wp_region_held_drew (S:=nB Bp p cb co cc k cn Bg cp ia dl ic) (by kernel_rfl) He.out λhQ=>?_;refine tk 0 ?_;refine tk 1 ?_;refine tk 2 ?_;refine tk 3 ?_;refine tk 4 ?_;refine tk 5 ?_;refine tk 6 ?_;refine tk 7 ?_;refine tk 8 ?_;refine tk 9 ?_;refine tk 10 ?_;refine tk 11 ?_;refine tk 12 ?_;refine tk 13 ?_;have Hc:=(Q0 W.drew.heap.size W.drew).alloc (lR) (.cells #[.string p.nm,.string cn,.int .u64 (cp:Nat),.slice ia dl ic] 111);have Hf:Hid ((nB Bp p cb co cc k cn Bg cp ia dl ic) (W.drew.alloc (.cells #[.string p.nm,.string cn,.int .u64 (cp:Nat),.slice ia dl ic] 111))):=⟨(Hc.cell (p:=⟨Bp,0,none⟩) (by show Bp<W.heap.size;omega)).trans He.out.1,(Hc.cell (p:=⟨Bp,2,none⟩) (by show Bp<W.heap.size;omega)).trans He.out.2.1,(Hc.cell (p:=⟨cb,co+k*6,none⟩) (by show cb<W.heap.size;omega)).trans He.out.2.2.1,(Hc.cell (p:=⟨Bg,0,none⟩) (by show Bg<W.heap.size;omega)).trans He.out.2.2.2.1,(Hc.cell (p:=⟨Bg,1,none⟩) (by show Bg<W.heap.size;omega)).trans He.out.2.2.2.2⟩;have Hx:=qI Hc;clear Hc;refine rd 14 λK hK=>?_;go_simp
 go_wp2
 refine hK.out _ _ Hf.out λhQ=>?_;clear hK K;refine rd 15 λK hK=>?_;rw [if_pos (by rfl)];have Hr:(zq.map Prod.fst).length<=400:=by rw [Q9];omega
 refine wp_append_own (o := { dst := some 224, op := Op.call { callee := Callee.builtin Builtin.append, args := #[Operand.tmp 209, Operand.tmp 223], argTypes := #[105, 105] }, type := 105, pos := "top.go:80", after := #[{ on := 0, ground := Ground.data }, { on := 14, ground := Ground.data }], guard := none }) _ _ _ 105 rfl base 111 i0 (.agg #[.string ByteArray.empty, .string ByteArray.empty, .int .u64 0, .slice none 0 0]) 4 64 underlying105 hi Hq Ht Hp rfl (by decide) (.slice va zq.length vc) _ _ rfl (Hn.out.alloc _) ⟨_, 0, none⟩ 1 1 (RV.cells (⟨p.nm, cn, (cp : Nat), ia, dl, ic⟩ : RV)) rfl rfl HN.out (yH _) (by unfold maxLen; omega) (by omega) (by show base ≤ (W.drew.alloc _).heap.size; rw [World.size_alloc]; show base ≤ W.heap.size + 1; omega) ?_
 intro v' W3 Hb Ha _;have Hu:=qI (bP.push Hb);have Ho:Hid (Apart (λj=>base<=j/\j≠Bp) W W3):=((Apart.of_below (a6 ((Q0 W.heap.size W).alloc (lR) _)))).trans (eu Ha λb hb _=>⟨(Hg.out b hb).1,(Hg.out b hb).2.1⟩);have Hh:some Bp≠(Value.slice va zq.length vc).ownBlock:=λe=>(Hg.out Bp e.symm).2.1 rfl
 have Hi:some Bg≠(Value.slice va zq.length vc).ownBlock:=λe=>(Hg.out Bg e.symm).2.2 rfl
 have Hj:some cb≠(Value.slice va zq.length vc).ownBlock:=λe=>by have:=(Hg.out cb e.symm).1;omega
 have Hv:(W.alloc (.cells #[.string p.nm,.string cn,.int .u64 (cp:Nat),.slice ia dl ic] 111)).drew.heap.size=W.heap.size+1:=by show (W.alloc _).heap.size=_;rw [World.size_alloc]
 have Hy:=Ha.size;have Hk:(nB Bp p cb co cc k cn Bg cp ia dl ic) W3:=⟨(Ha.cell_far ⟨Bp,0,none⟩ (by show Bp<_;omega) Hh).trans Hf.out.1,(Ha.cell_far ⟨Bp,2,none⟩ (by show Bp<_;omega) Hh).trans Hf.out.2.1,(Ha.cell_far ⟨cb,co+k*6,none⟩ (by show cb<_;omega) Hj).trans Hf.out.2.2.1,(Ha.cell_far ⟨Bg,0,none⟩ (by show Bg<_;omega) Hi).trans Hf.out.2.2.2.1,(Ha.cell_far ⟨Bg,1,none⟩ (by show Bg<_;omega) Hi).trans Hf.out.2.2.2.2⟩;refine hK.out _ _ Hk λhQ=>?_;clear hK K;(try simp only [Act.put,s1,s2,s3]);refine tk 16 ?_;refine Qn (by kernel_rfl) ?_ _;clear hQ Hb Ha Hk;exact eU.mk ⟨v',FrS.mk (by kernel_rfl) ⟨Hu.out,Ho.out⟩⟩
end
section
open RowKit Shelf
open Qos (Nd Ct Pd nd ct pd af aA)
open Sv (Gv Hd gv hd)
open Dvs (Dv dv nth aL)
attribute [local go_sem] Oper.semAt_some
abbrev Mq:=λ(Bp:Nat) (p:Pd) (pa:Option Addr) (pcc hb ho:Nat) (ga:Option Addr) (gc:Nat) (w':World)=>(w'.cell? ⟨Bp,0,none⟩=some (.string p.nm)/\w'.cell? ⟨Bp,1,none⟩=some (.int .i64 p.pr)/\w'.cell? ⟨Bp,2,none⟩=some (.slice pa p.cs.length pcc))/\w'.cell? ⟨hb,ho+0*4+3,none⟩=some (.slice ga p.cs.length gc)
abbrev Mr:=λ(Bp:Nat) (p:Pd) (pa:Option Addr) (pcc hb ho i:Nat) (ga:Option Addr) (gc j:Nat) (nm:ByteArray) (w':World)=>(w'.cell? ⟨Bp,0,none⟩=some (.string p.nm)/\w'.cell? ⟨Bp,1,none⟩=some (.int .i64 p.pr)/\w'.cell? ⟨Bp,2,none⟩=some (.slice pa p.cs.length pcc))/\w'.cell? ⟨hb,ho+i*4+3,none⟩=some (.slice ga p.cs.length gc)/\w'.cell? ⟨hb,ho+j*4,none⟩=some (.string nm)
theorem Ms (c2 c7 c8 c9 c10 c12 c16 c17 c18 c19 c20:Value) (F:Nat->Value) (W:World) (Bp hb ho hl lc i:Nat) (pa ga:Option Addr) (pcc gc:Nat) (p:Pd) (nm:ByteArray)
  (hp:W.heap[Bp]?=some (.cells #[.string p.nm,.int .i64 p.pr,.slice pa p.cs.length pcc] 47)) (hcon:aE W (.slice pa p.cs.length pcc) p.cs) (hF:af p=0) (hgc:W.cell? ⟨hb,ho+i*4+3,none⟩=some (.slice ga p.cs.length gc)) (hi:i<hl) (hhl:hl<=100) (hn:0<i->W.cell? ⟨hb,ho+(i - 1)*4,none⟩=some (.string nm)) (hle:0<i->Qos.leS p.nm nm=false) (_h3:p.cs.length<=1000) :
  Code.wp prog (jc 17) (eU (FrS (λF=>frD c2 c7 c8 c9 c10 (.slice (some ⟨hb,ho,none⟩) hl lc) c12 (.int .i64 (i:Nat)) (.pointer (some ⟨Bp,0,none⟩)) (F 16) (F 17) (F 18) (F 19) (F 20) (.bool false) F) λW'=>Below W.heap.size W W')) (frS c2 c7 c8 c9 c10 (.slice (some ⟨hb,ho,none⟩) hl lc) c12 (.int .i64 (i:Nat)) (.pointer (some ⟨Bp,0,none⟩)) c16 c17 c18 c19 c20 F) W:=by
 have Hk:Bp<W.heap.size:=(gS hp).1;have Hi:hb<W.heap.size:=Q3 W ⟨hb,_,none⟩ hgc;have Hl:Hid (∀ V,Below W.heap.size W V->Calls prog 22 #[.agg #[.string p.nm,.int .i64 p.pr,.slice pa p.cs.length pcc]] V λe w'=>e=.returned .nilIface/\Below V.heap.size V w'):=λV hb=>by
  have:=qJ p (.slice pa p.cs.length pcc) V (hcon.below hb)
  rw [hF] at this;exact this
 have Ha:Hid (Below W.heap.size W W.drew):=a6 (Q0 _ _);have Hg:=qI hp;have Hf:=qI hgc;have Hh:=qI hn;have Hj:=qI hle;clear hcon hp hgc hn hle hF
 by_cases hi0:i=0
 ·subst hi0;have Hc:Hid (∀ V,Below W.heap.size W V->(Mq Bp p pa pcc hb ho ga gc) V):=λV hb=>by
   have bp:=(hb.block Bp Hk).trans Hg.out;exact ⟨⟨aa bp 0,aa bp 1,aa bp 2⟩,(hb.cell (p:=⟨_,_,none⟩) Hi).trans Hf.out⟩
  clear Hg Hf Hh Hj;simp only [frS,tlS,Nat.reduceAdd]
  conv=>enter [2];unfold jc;whnf
  refine Qo (by kernel_rfl) (Hc.out _ Ha.out) λhQ=>?_;generalize W.drew=V at *;refine tk 0 ?_;refine rd 1 λK hK=>?_;go_simp
  go_wp2_with fail
  refine (Hl.out _ Ha.out).mono ?_;rintro e V2 ⟨rfl,He⟩;have Hb:=qI (Ha.out.trans (He.mono Ha.out.size));clear He
  go_wp2
  refine hK.out _ _ (Hc.out _ Hb.out) λhQ=>?_;clear hK K;refine tk 2 ?_;refine tk 3 ?_;refine tk 4 ?_;refine tk 5 ?_;refine tk 6 ?_;refine tk 7 ?_;refine tk 8 ?_;refine tk 9 ?_;refine tk 10 ?_;refine tk 11 ?_;refine tk 12 ?_;refine tk 13 ?_;refine tk 14 ?_;refine tk 15 ?_;refine tk 16 ?_;refine tk 17 ?_;refine tk 18 ?_;refine ts 19 ?_;refine ts 20 ?_;refine ts 21 ?_;refine ts 22 ?_;refine ts 23 ?_;refine ts 24 ?_;refine ts 25 ?_;refine ts 26 ?_;refine ts 27 ?_;refine ts 28 ?_;refine tk 29 ?_;refine tk 30 ?_;refine Qn (by kernel_rfl) ?_ _;exact eU.mk (FrS.mk (by kernel_rfl) Hb.out)
 ·obtain ⟨j,Hm⟩:∃ j,i=j+1:=⟨i - 1,by omega⟩;clear hi0;have hn:=Hh.out (by omega);have hle:=Hj.out (by omega);rw [show i - 1=j by omega] at hn;unfold Qos.leS at hle;have Hc:Hid (∀ V,Below W.heap.size W V->(Mr Bp p pa pcc hb ho i ga gc j nm) V):=λV hb=>by
   have bp:=(hb.block Bp Hk).trans Hg.out;exact ⟨⟨aa bp 0,aa bp 1,aa bp 2⟩,(hb.cell (p:=⟨_,_,none⟩) Hi).trans Hf.out,(hb.cell (p:=⟨_,_,none⟩) Hi).trans hn⟩
  clear Hg Hf Hh Hj hn;have Ho:decide ((0:Int)<(i:Int))=true:=Qc (by omega);have Hr:(0:Int)<(i:Int):=by omega
  have Hn:0<i:=by omega
  have Hu:decide (0<i)=true:=Qc Hn;have Hq:wrap64 ((i:Int) - 1)=(j:Int):=by unfold wrap64;omega
  have Hv:IntKind.i64.wrap ((i:Int) - 1)=(j:Int):=by rw [IntKind.wrap_i64];omega
  have Ht:j<hl:=by omega
  have Hs:(j:Int)<(hl:Int):=by omega
  have Hp:(i:Int)<(hl:Int):=by omega
  clear Hm;simp only [frS,tlS,Nat.reduceAdd]
  conv=>enter [2];unfold jc;whnf
  refine Qo (by kernel_rfl) (Hc.out _ Ha.out) λhQ=>?_;generalize W.drew=V at *;refine tk 0 ?_;refine rd 1 λK hK=>?_;go_simp
  go_wp2_with fail
  refine (Hl.out _ Ha.out).mono ?_;rintro e V2 ⟨rfl,He⟩;have Hb:=qI (Ha.out.trans (He.mono Ha.out.size));clear He
  go_wp2
  refine hK.out _ _ (Hc.out _ Hb.out) λhQ=>?_;clear hK K;refine tk 2 ?_;refine tk 3 ?_;refine tk 4 ?_;refine tk 5 ?_;refine tk 6 ?_;refine tk 7 ?_;refine tk 8 ?_;refine tk 9 ?_;refine tk 10 ?_;refine tk 11 ?_;refine tk 12 ?_;refine tk 13 ?_;refine tk 14 ?_;refine tk 15 ?_;refine tk 16 ?_;refine tk 17 ?_;refine tk 18 ?_;refine tk 19 ?_;refine tk 20 ?_;refine tk 21 ?_;refine tk 22 ?_;refine tk 23 ?_;refine tk 24 ?_;refine tk 25 ?_;refine tk 26 ?_;refine tk 27 ?_;refine tk 28 ?_;refine tk 29 ?_;refine tk 30 ?_;refine Qn (by kernel_rfl) ?_ _;exact eU.mk (FrS.mk (by kernel_rfl) Hb.out)
end
section
open RowKit Shelf
open Qos (Nd Ct Pd nd ct pd af aA)
open Sv (Gv Hd gv hd)
open Dvs (Dv dv nth aL)
attribute [local go_sem] Oper.semAt_some
def frE (c2 c3 c7 c8:Value) (F:Nat->Value):Act:=⟨List.toArray (F 0 :: F 1 :: c2 :: c3 :: F 4 :: F 5 :: F 6 :: c7 :: c8 :: F 9 :: F 10 :: F 11 :: F 12 :: F 13 :: F 14 :: F 15 :: F 16 :: F 17 :: F 18 :: F 19 :: F 20 :: F 21 :: F 22 :: F 23 :: F 24 :: tlS F ([]) 25 251),[]⟩
abbrev Mt:=λ(Bc:Nat) (nb:Int) (w':World)=>w'.cell? ⟨Bc,2,none⟩=some (.int .i64 nb)
theorem Mu (c2 c8:Value) (F:Nat->Value) (W:World) (Bc op kp cl cc dl dc:Nat) (ca da:Option Addr) (nb pol:Int) (hc:W.heap[Bc]?=some (.cells #[.slice ca cl cc,.int .u64 (kp:Nat),.int .i64 nb,.slice da dl dc,.int .i64 pol] 27)) (hop:op<18446744073709551616) :
  Code.wp prog (jc 5) (eU λa w'=>∃ Br,FrS (λF=>frE c2 (.pointer (some ⟨Bc,0,none⟩)) (.int .u64 (op:Nat)) (.pointer (some ⟨Br,0,none⟩)) F) (λW'=>W'.heap[Br]?=some (.cells #[.int .i64 (1000*(Ost.cnt op:Int)),.int .i64 nb] 60 (0,0))/\W.heap.size<=Br/\Below W.heap.size W W') a w') (frE c2 (.pointer (some ⟨Bc,0,none⟩)) (.int .u64 (op:Nat)) c8 F) W:=by
 have Hn:Bc<W.heap.size:=(gS hc).1;have He:Hid (∀ V,Below W.heap.size W V->(Mt Bc nb) V):=λV hb=>aa ((hb.block Bc Hn).trans hc) 2
 have Hq:=Ol.rG op;have Hj:Hid (∀ V,Calls prog 17 #[.int .u64 (op:Nat)] V λe w'=>e=.returned (.int .i64 (Ost.cnt op:Nat))/\w'=V):=λV=>fO op V hop
 obtain ⟨q,hq⟩:∃ q,q=Ost.cnt op:=⟨_,rfl⟩;rw [<- hq] at Hj Hq;rw [<- hq];have Hp:IntKind.i64.wrap (1000*(q:Int))=1000*(q:Int):=by rw [IntKind.wrap_i64];omega
 have Hl:wrap64 (1000*(q:Int))=1000*(q:Int):=by unfold wrap64;omega
 have Ha:Hid (Below W.heap.size W W.drew):=a6 (Q0 _ _);clear hc hq;simp only [frE,tlS,Nat.reduceAdd]
 conv=>enter [2];unfold jc;whnf
 refine Qo (by kernel_rfl) (He.out _ Ha.out) λhQ=>?_;generalize W.drew=V at *;refine tk 0 ?_;refine tk 3 ?_;refine tk 4 ?_;refine wpAnyH_ready (rs:=[1,6]) (by kernel_rfl) (by simp) (AllReadyH.cons rfl (λK hK=>?_) (AllReadyH.cons rfl (λK hK=>?_) AllReadyH.nil))
 ·go_simp
  go_wp2_with fail
  refine (Hj.out _).mono ?_;rintro e V1 ⟨rfl,rfl⟩
  go_wp2
  refine hK.out _ _ (He.out _ Ha.out) λhQ=>?_;clear hK K;refine tk 2 ?_;refine tk 5 ?_;refine rd 6 λK hK=>?_;have Hi:=qI (Ha.out.alloc Ha.out.size (.cells #[.int .i64 0,.int .i64 0] 60));have Hg:=qI (aD V1 (.cells #[.int .i64 0,.int .i64 0] 60) rfl);have Hb:=Ha.out.size;go_simp
  go_wp2
  refine hK.out _ _ (He.out _ Hi.out) λhQ=>?_;clear hK K;generalize V1.alloc (.cells #[.int .i64 0,.int .i64 0] 60)=W2 at *;refine rd 7 λK hK=>?_;have c0_3:W2.cell? ⟨V1.heap.size,0,none⟩=some (.int .i64 0):=aa Hg.out 0;have c1_3:W2.cell? ⟨V1.heap.size,1,none⟩=some (.int .i64 0):=aa Hg.out 1;have f0_3:=ai Hg.out 0;have f1_3:=ai Hg.out 1;have Hm:Hid (Below W.heap.size W ((W2.setCell ⟨V1.heap.size,0,none⟩ (.int .i64 (1000*(q:Int)))).setCell ⟨V1.heap.size,1,none⟩ (.int .i64 nb))):=fU (fU Hi.out V1.heap.size 0 _ Hb Hi.out.size) V1.heap.size 1 _ Hb (by simp;exact Hi.out.size);have Ho:=qI (ah (ah Hg.out 0 (.int .i64 (1000*(q:Int)))) 1 (.int .i64 nb));go_simp
  go_wp2
  refine hK.out _ _ (He.out _ Hm.out) λhQ=>?_;clear hK K;refine Qn (by kernel_rfl) ?_ _;exact eU.mk ⟨_,FrS.mk (by kernel_rfl) ⟨Ho.out,Hb,Hm.out⟩⟩
 ·have Hf:=qI (Ha.out.alloc Ha.out.size (.cells #[.int .i64 0,.int .i64 0] 60));have Hh:=qI (aD V (.cells #[.int .i64 0,.int .i64 0] 60) rfl);have Hc:=Ha.out.size;go_simp
  go_wp2
  refine hK.out _ _ (He.out _ Hf.out) λhQ=>?_;clear hK K;generalize V.alloc (.cells #[.int .i64 0,.int .i64 0] 60)=W4 at *;refine rd 1 λK hK=>?_;go_simp
  go_wp2_with fail
  refine (Hj.out _).mono ?_;rintro e V5 ⟨rfl,rfl⟩
  go_wp2
  refine hK.out _ _ (He.out _ Hf.out) λhQ=>?_;clear hK K;refine tk 2 ?_;refine tk 5 ?_;refine rd 7 λK hK=>?_;have c0_6:V5.cell? ⟨V.heap.size,0,none⟩=some (.int .i64 0):=aa Hh.out 0;have c1_6:V5.cell? ⟨V.heap.size,1,none⟩=some (.int .i64 0):=aa Hh.out 1;have f0_6:=ai Hh.out 0;have f1_6:=ai Hh.out 1;have Hk:Hid (Below W.heap.size W ((V5.setCell ⟨V.heap.size,0,none⟩ (.int .i64 (1000*(q:Int)))).setCell ⟨V.heap.size,1,none⟩ (.int .i64 nb))):=fU (fU Hf.out V.heap.size 0 _ Hc Hf.out.size) V.heap.size 1 _ Hc (by simp;exact Hf.out.size);have Hr:=qI (ah (ah Hh.out 0 (.int .i64 (1000*(q:Int)))) 1 (.int .i64 nb));go_simp
  go_wp2
  refine hK.out _ _ (He.out _ Hk.out) λhQ=>?_;clear hK K;refine Qn (by kernel_rfl) ?_ _;exact eU.mk ⟨_,FrS.mk (by kernel_rfl) ⟨Hr.out,Hc,Hk.out⟩⟩
end
section
open RowKit Shelf
open Qos (Nd Ct Pd nd ct pd af)
open Sv (Gv Hd gv hd gsF aB aF)
open Dvs (Dv dv aW)
open S1 (Tab kL)
theorem Mv {K:Nat->Prop} {W W':World} (h:ci W) (ha:Apart K W W') (hK:¬ K 0):ci W':=by
 refine ⟨?_,Q1 h.2 ha.size⟩;have h1:=h.1;unfold Tab Lib.TabIs World.var? at h1 ⊢;simp only [kL,Option.bind_some] at h1 ⊢;rw [ha.block _ h.2 hK];exact h1
theorem Mw (L:List HS) (nm:ByteArray):(kept L nm).map HS.h=Ol.eQ (L.map HS.h) nm:=by
 unfold kept Ol.eQ
 induction L with
 | nil=>rfl
 | cons x l ih=>
  rw [Qq]
  by_cases e:x.h.pod.nm=nm
  ·rw [List.filter_cons_of_neg (by simp [e]),List.filter_cons_of_neg (by simp [e])];exact ih
  ·rw [List.filter_cons_of_pos (by simp [e]),List.filter_cons_of_pos (by simp [e]),Qq,ih]
theorem po {rs ws:List Rn} (h:∀ a∈ws,a∈rs):dK rs ws=0:=by
 unfold dK;rw [List.length_eq_zero_iff,List.filter_eq_nil_iff];intro a ha
 simpa using h a ha
theorem sL {hs hs':List Hd} (h:hs'.Sublist hs):∀ a∈ap hs',a∈ap hs:=by
 intro a ha;obtain ⟨x,hx,hr⟩:=List.mem_flatMap.1 ha;exact List.mem_flatMap.2 ⟨x,h.subset hx,hr⟩
def bW (hs:List Hd) (nms:List ByteArray):List Hd:=nms.foldl Ol.eQ hs
def dz (L:List HS) (nms:List ByteArray):List HS:=nms.foldl kept L
theorem My {hs:List Hd} {nms:List ByteArray} {k:Nat} (hk:k<nms.length):bW hs (nms.take (k+1))=Ol.eQ (bW hs (nms.take k)) nms[k]:=by
 unfold bW;rw [Qa hk,List.foldl_append];rfl
theorem Mz {L:List HS} {nms:List ByteArray} {k:Nat} (hk:k<nms.length):dz L (nms.take (k+1))=kept (dz L (nms.take k)) nms[k]:=by
 unfold dz;rw [Qa hk,List.foldl_append];rfl
theorem lI (hs:List Hd) (nms:List ByteArray):(bW hs nms).Sublist hs:=by
 unfold bW
 induction nms generalizing hs with
 | nil=>exact List.Sublist.refl _
 | cons a l ih=>exact (ih _).trans (Ol.wG hs a)
theorem pq (L:List HS) (nms:List ByteArray):(dz L nms).Sublist L:=by
 unfold dz
 induction nms generalizing L with
 | nil=>exact List.Sublist.refl _
 | cons a l ih=>exact (ih _).trans List.filter_sublist
theorem zM (L:List HS) (nms:List ByteArray):(dz L nms).map HS.h=bW (L.map HS.h) nms:=by
 unfold dz bW
 induction nms generalizing L with
 | nil=>rfl
 | cons a l ih=>rw [List.foldl_cons,List.foldl_cons,ih,Mw]
theorem MA {t:Ol.St} (h:Ol.Inv t) (nms:List ByteArray):Ol.Inv ⟨t.m,t.ds,bW t.hs nms⟩:=by
 obtain ⟨s,hs⟩:=h.left;exact ⟨h.devs,Ol.rx h.held (lI t.hs nms),Ol.Ge hs (lI t.hs nms)⟩
theorem zN {M:Nat->Prop} {w W:World} {g cap:Nat} {L:List HS} (hr:bV W g cap (λk x=>k<L.length/\x=b9 L k)) (hM:∀ j,M j->j<w.heap.size) (hg:w.heap.size<=g) (hl:L.length<=cap) (hc:cap<=maxLen) (old:∀ x∈L,aE (ag M w) (.slice x.ca x.cn x.cc) x.h.pod.cs/\bz (ag M w) (.slice x.ga x.gn x.gc) x.h.gs) (ha:Apart M w W):aJ (ag M W) (.slice (some ⟨g,0,none⟩) L.length cap) (L.map HS.h):=by
 have hle:aq (ag M w) (ag M W):=bE (λj hj hn=>⟨hn,ha.block j hj hn⟩) ha.size;have Ha:=Mb hr hg hl hc
 have:=zE (N:=w.heap.size) (l:=L.map HS.tri) (M:=M) (by rw [Q9];exact Ha) hM λx hx=>by
  obtain ⟨y,hy,rfl⟩:=Qk.1 hx;exact ⟨(old y hy).1.le hle,(old y hy).2.le hle⟩
 rw [List.map_map] at this;exact this
theorem MB {W W':World} {g Be Bd Bm n:Nat} {sn sk:Sd} {C:Rn->Prop} (h:bw W Be Bd Bm n sn sk C) {cap:Nat} {R:Nat->HS->Prop} (hr:bV W g cap R) (hg:W.grownBy W' (some g)) (hn:g≠Bd/\g≠Bm/\g≠Be):bw W' Be Bd Bm n sn sk C:=
 pi h (eu hg (λj e _=>by injection e with e;exact e.symm)) hn λarr z e=>by
  obtain ⟨cur,h1,_⟩:=hr;rw [h1] at e;cases e
section
variable {N:Nat->Prop} {Ba Bd Be Bm:Nat} {t:Ol.St} {dk:Dk} {n:Nat} {p:Pd}
theorem aK.then {w W2 W3:World} {m:Ol.Mc} {ds:List Dv} {hs:List Hd} {dk':Dk} {n' tb b c pb db:Nat} {v v0:Value} {ao:Option Addr} {pc cp0 pb0:Nat} {s:Ol.Sk} (h:aK w N Ba Bd Be Bm t dk n) (hz:w.heap.size<=W2.heap.size) (hT:cK (ag (four N Ba Bd Bm) W2) tb b 0 c m) (h0:0<m.l.length) (hH:aJ (ag (four N Ba Bd Bm) W2) v hs) (ha:Apart (λj=>j=Ba) W2 W3) (hO:bg W3 Ba tb m Bd Be v s.cp pb) (hS:dj W3 pb db ao pc s) (hpb:W2.heap.size<=pb) (hdb:0<s.ds.length->W2.heap.size<=db) (hE:bw W2 Be Bd Bm n' dk'.n dk'.k (λa=>a∈ap hs)) (hO2:bg W2 Ba tb m Bd Be v0 cp0 pb0) (hi:Ol.Inv ⟨m,ds,hs⟩) (hl:Ol.left m ds hs=some s) (hc:Calm dk') (htx:(aF hs).length<=6000):aK W3 N Ba Bd Be Bm ⟨m,ds,hs⟩ dk' n':=by
 have z4:=ha.size;have hf:∀ j,j<W2.heap.size->¬ four N Ba Bd Bm j->W3.heap[j]?=W2.heap[j]?:=λj hj hn=>ha.block j (by omega) λe=>hn (.inr (.inl e))
 obtain ⟨l1,l2,l3⟩:=h.eng.lt;obtain ⟨q1,q2,q3,q4,q5,q6,q7,q9,q8⟩:=h;have l4:Ba<w.heap.size:=by
  obtain ⟨_,_,_,_,_,_,_,_,_,k1,_⟩:=q8;exact k1.lt
 have f4:∀ j,W2.heap.size<=j->¬ four N Ba Bd Bm j:=λj hj e=>by
  rcases e with e|e|e|e
  ·have:=q7 j e;omega
  all_goals omega
 exact ⟨hi,hc,h0,pi hE ha q5 hO2.notInt,q5,q6,λj hj=>by have:=q7 j hj;omega,htx,tb,b,c,v,pb,db,ao,pc,s,hO,hH.le (bE (λj hj hn=>⟨hn,hf j hj hn⟩) (by omega)),nw hT h0 hf (by omega),hl,hS,f4 pb hpb,λh=>f4 db (hdb h)⟩
end
end
section
open RowKit Shelf
open Qos (Nd Ct Pd nd ct pd af)
open Sv (Gv Hd gv hd gsF aB aF)
theorem MC (l:List Value) (o:Nat) (v:Value) (vs:List Value) (h:o<l.length):(l.set o v).take (o+1)++vs++(l.set o v).drop (o+1+vs.length)=l.take o++(v :: vs)++l.drop (o+(v :: vs).length):=by
 have e1:(l.set o v).take (o+1)=l.take o++[v]:=by
  rw [Qa (by simpa using h),List.take_set_of_le (lR)]
  simp
 have e2:(l.set o v).drop (o+1+vs.length)=l.drop (o+(v :: vs).length):=by
  rw [List.drop_set_of_lt (by omega)]
  congr 1
  simp only [Qg];omega
 rw [e1,e2]
 simp
theorem pt {g:Nat} {t:TypeId}:∀ (vs:List Value) (o:Nat) (W:World) (cur:Array Value),W.heap[g]?=some (.cells cur t (0,0))->o+vs.length<=cur.size->(W.setCells g o vs).heap[g]?=some (.cells (cur.toList.take o++vs++cur.toList.drop (o+vs.length)).toArray t (0,0)):=by
 intro vs
 induction vs with
 | nil=>intro o W cur h _;rw [World.setCells,h];simp
 | cons v vs ih=>
  intro o W cur h hl;rw [Qg] at hl;rw [World.setCells,ih (o+1) _ (cur.setIfInBounds o v) (ah h o v) (by simp;omega)];rw [Array.toList_setIfInBounds,MC _ _ _ _ (by simp;omega)]
theorem MD (l:List (Hd × Value × Value)) (i:Nat):(l.take i).flatMap ar=(l.flatMap ar).take (i*4):=by
 induction l generalizing i with
 | nil=>simp
 | cons x l ih=>
  cases i with
  | zero=>simp
  | succ i=>
   rw [List.take_succ_cons,List.flatMap_cons,List.flatMap_cons,ih i,List.take_append];have h4:(ar x).length=4:=rfl;rw [List.take_of_length_le (l:=ar x) (by omega),h4,show (i+1)*4 - 4=i*4 by omega]
theorem ME (l:List (Hd × Value × Value)) (i:Nat):(l.drop i).flatMap ar=(l.flatMap ar).drop (i*4):=by
 induction l generalizing i with
 | nil=>simp
 | cons x l ih=>
  cases i with
  | zero=>simp
  | succ i=>
   rw [List.drop_succ_cons,List.flatMap_cons,ih i,List.drop_append];have h4:(ar x).length=4:=rfl;rw [List.drop_eq_nil_of_le (show (ar x).length<=_ by omega),h4,show (i+1)*4 - 4=i*4 by omega,List.nil_append]
theorem sM (l:List (Hd × Value × Value)):(l.flatMap ar).length=l.length*4:=by
 induction l with
 | nil=>rfl
 | cons x l ih=>
  rw [List.flatMap_cons,Q2,ih,Qg];have h4:(ar x).length=4:=rfl;omega
theorem zO (l:List (Hd × Value × Value)) (i:Nat) (y:Hd × Value × Value):(l.take i++y :: l.drop i).flatMap ar=(l.flatMap ar).take (i*4)++ar y++(l.flatMap ar).drop (i*4):=by
 rw [List.flatMap_append,List.flatMap_cons,MD,ME,List.append_assoc]
theorem MF (A Z ys B:List Value) (k m:Nat) (hA:A.length=k*4) (hy:ys.length=4) (hB:B.length=m*4):let c1:=(A++Z).take (k*4)++ys++(A++Z).drop (k*4+ys.length);(c1.take ((k+1)*4)++B++c1.drop ((k+1)*4+B.length))=A++ys++B++Z.drop ((m+1)*4):=by
 intro c1;have e1:c1=A++ys++Z.drop 4:=by
  show (A++Z).take (k*4)++ys++(A++Z).drop (k*4+ys.length)=_
  rw [hy,List.take_append_of_le_length (by omega),List.take_of_length_le (by omega),List.drop_append,List.drop_eq_nil_of_le (by omega),List.nil_append]
  congr 2
  omega
 have hl:(A++ys).length=(k+1)*4:=by rw [Q2];omega
 rw [e1,List.take_append_of_le_length (by omega),List.take_of_length_le (by omega),List.drop_append,List.drop_eq_nil_of_le (by omega),List.nil_append,List.drop_drop]
 congr 2
 omega
theorem MG (xs R ys:List Value) (i n:Nat) (hx:xs.length=n*4) (hi:i<n) (hy:ys.length=4):let c1:=(xs++R).take ((i+1)*4)++xs.drop (i*4)++(xs++R).drop ((i+1)*4+(xs.drop (i*4)).length);(c1.take (i*4)++ys++c1.drop (i*4+ys.length))=xs.take (i*4)++ys++xs.drop (i*4)++R.drop 4:=by
 intro c1;have e1:c1=xs.take ((i+1)*4)++xs.drop (i*4)++R.drop 4:=by
  show (xs++R).take ((i+1)*4)++xs.drop (i*4)++(xs++R).drop ((i+1)*4+(xs.drop (i*4)).length)=_
  have e0:(xs++R).drop ((i+1)*4+(xs.length - i*4))=R.drop 4:=by
   rw [show (i+1)*4+(xs.length - i*4)=xs.length+4 by omega,List.drop_append,List.drop_eq_nil_of_le (show xs.length<=_ by omega),List.nil_append]
   congr 1
   omega
  rw [List.length_drop,List.take_append_of_le_length (by omega),e0]
 have hl:(xs.take ((i+1)*4)).length=(i+1)*4:=by rw [Qu];omega
 rw [e1,List.append_assoc (xs.take ((i+1)*4)),List.take_append_of_le_length (by omega),List.take_take,Nat.min_eq_left (by omega),List.drop_append,List.drop_eq_nil_of_le (by omega),List.nil_append,hl,hy,show i*4+4 - (i+1)*4=0 by omega,List.drop_zero,<- List.append_assoc]
theorem MH (W:World) (o:Option Nat):W.grownBy W.drew o:=dD (show Below W.heap.size W W.drew from ⟨rfl,rfl,rfl,lR,λ_ _=>rfl⟩) o
theorem MI {l:List (Hd × Value × Value)} {i:Nat} (hi:i<=l.length) (hl:l.length<=100):sJ l i:=by
 by_cases he:i=l.length
 ·rw [he];exact zD hl
 ·have Hm:i<l.length:=by omega
  intro base v y a w Ho hy Hp hb HA ⟨arr,tyA,Hc⟩ Hn;have Hb:=sM l;have h4:(ar y).length=4:=rfl
  rcases Ho.2 with ⟨_,h0⟩|⟨g,cap,cur,hv,hg,Hg,HE,Hq,HC,Hu⟩
  ·omega
  ·subst hv;obtain ⟨vb,voff,spot⟩:=a;have Hx:w.cell? ((⟨vb,voff,spot⟩:Addr).add 0)=some (.string y.1.pod.nm):=hy 0 _ rfl;have Hh:spot=none:=by simpa [Addr.add] using World.cell?_spot Hx
   subst Hh;have HJ:vb≠g:=λe=>HA (by rw [<- e];rfl)
   have Hr:∀ j u,(l.flatMap ar)[j]?=some u->w.cell? ⟨g,j,none⟩=some u:=λj u hj=>by
    have HB:j<l.length*4:=by
     have:=(List.getElem?_eq_some_iff.1 hj).1
     omega
    rw [<- Hu,List.getElem?_take,if_pos HB,Array.getElem?_toList] at hj
    simp [World.cell?,Hg,hj]
   have Hs:∀ j u,(ar y)[j]?=some u->w.cell? ⟨vb,voff+j,none⟩=some u:=λj u hj=>by
    have:=hy j u hj
    rwa [Addr.add_lit] at this
   have Ht:∀ u∈l.flatMap ar,u.oneCell'=true:=λu hu=>by
    obtain ⟨x,hx,hu⟩:=List.mem_flatMap.1 hu;exact Hn x hx u hu
   have Hw:cur.toList=l.flatMap ar++cur.toList.drop (l.length*4):=by rw [<- Hu,List.take_append_drop]
   have HI:cur.toList.length=cap*4:=by simpa using HC
   by_cases hroom:l.length+1<=cap
   ·refine (FL g l.length cap i vb voff 1 (l.flatMap ar) (ar y) w Hm hroom (by unfold maxLen at Hq;omega) HJ Hb h4 Hr (λj hj=>by
     have:j<cur.size:=by omega
     simp [World.cell?,Hg,this]) (λj=>ai Hg j) Hs Ht Hp tyA 57 arr.size cur.size (by simp [World.shape?,Hc]) (by simp [World.shape?,Hg]) (by omega) (ai Hc voff) (ai Hc arr.size)).mono ?_
    rintro e w' ⟨rfl,rfl⟩;refine ⟨_,rfl,?_,((MH w (some g)).trans (nz g _ _ _)).trans (nz g _ _ _)⟩;have k1:=pt (l.flatMap ar |>.drop (i*4)) ((i+1)*4) w.drew cur Hg (by rw [List.length_drop,Hb];omega);have Hz:(i+1)*4+((l.flatMap ar).drop (i*4)).length<=cur.toList.length:=by rw [List.length_drop,Hb];omega
    have k2:=pt (ar y) (i*4) _ _ k1 (by
     simp only [List.size_toArray,Q2,Qu,List.length_drop,Hb,h4];omega)
    simp only at k2;have Ha:=MG (l.flatMap ar) (cur.toList.drop (l.length*4)) (ar y) i l.length Hb Hm h4;dsimp only at Ha;rw [<- Hw] at Ha;rw [Ha] at k2;refine ⟨by rw [sM];simp;omega,.inr ⟨g,cap,_,rfl,hg,k2,hroom,Hq,?_,?_⟩⟩
    ·simp only [List.size_toArray,Q2,Qu,List.length_drop,Hb,h4];omega
    ·rw [zO,List.toList_toArray,List.take_append_of_le_length (by simp only [Q2,Qu,List.length_drop,Hb,h4];omega),List.take_of_length_le (by simp only [Q2,Qu,List.length_drop,Hb,h4];omega)]
   ·refine (FS g l.length cap i vb voff 1 (l.flatMap ar) (ar y) w Hm HE (by omega) hl Hb h4 Hr Hs Ht Hp).mono ?_;rintro e w' ⟨G,HG,Hy,rfl,rfl⟩;have Hl:∀ k,(Builtin.zeroCells em.cells k).size=k*4:=λk=>by
     have Hl:em.cells.size=4:=rfl;simp only [Builtin.zeroCells,Array.size_map,Array.size_range,Hl]
    obtain ⟨ROW,He⟩:∃ ROW,ROW=((l.flatMap ar).take (i*4)).toArray++Builtin.zeroCells em.cells (l.length+1 - i)++Builtin.zeroCells em.cells (G - (l.length+1)):=⟨_,rfl⟩;have Hi:((l.flatMap ar).take (i*4)).length=i*4:=by rw [Qu,Hb];omega
    have Hj:((l.flatMap ar).drop (i*4)).length=(l.length - i)*4:=by rw [List.length_drop,Hb];omega
    have HF:ROW.size=G*4:=by
     rw [He];simp only [Array.size_append,List.size_toArray,Hi,Hl];omega
    have HD:ROW.toList=(l.flatMap ar).take (i*4)++((Builtin.zeroCells em.cells (l.length+1 - i)).toList++(Builtin.zeroCells em.cells (G - (l.length+1))).toList):=by
     rw [He];simp
    rw [<- He];clear He;have Hf:(w.alloc (.cells ROW 57)).drew.heap[w.heap.size]?=some (.cells ROW 57 (0,0)):=aD w _ rfl;have k1:=pt (ar y) (i*4) _ ROW Hf (by rw [h4];omega);obtain ⟨W1,Hk⟩:∃ W1,W1=((w.alloc (.cells ROW 57)).drew.setCells w.heap.size (i*4) (ar y)).drew:=⟨_,rfl⟩;have k1':W1.heap[w.heap.size]?=some (.cells (ROW.toList.take (i*4)++ar y++ROW.toList.drop (i*4+(ar y).length)).toArray 57 (0,0)):=by rw [Hk];exact k1
    have k2:=pt ((l.flatMap ar).drop (i*4)) ((i+1)*4) W1 _ k1' (by
     have:ROW.toList.length=G*4:=by simpa using HF
     simp only [List.size_toArray,Q2,Qu,List.length_drop,Hb,h4,this];omega)
    have Hv:Below w.heap.size w W1:=by
     rw [Hk];have b1:Below w.heap.size w (w.alloc (.cells ROW 57)).drew:=a6 ((Q0 w.heap.size w).alloc (lR) _);exact a6 (b1.grown (nz w.heap.size _ _ _) b1.size (λj hj=>by injection hj with hj;omega))
    have HH:Below w.heap.size w (W1.setCells w.heap.size ((i+1)*4) ((l.flatMap ar).drop (i*4))):=Hv.grown (nz w.heap.size _ _ _) Hv.size (λj hj=>by injection hj with hj;omega);rw [<- Hk];clear Hk k1 k1';simp only at k2;have Ha:=MF ((l.flatMap ar).take (i*4)) ((Builtin.zeroCells em.cells (l.length+1 - i)).toList++(Builtin.zeroCells em.cells (G - (l.length+1))).toList) (ar y) ((l.flatMap ar).drop (i*4)) i (l.length - i) Hi h4 Hj;dsimp only at Ha;rw [<- HD] at Ha;rw [Ha] at k2;refine ⟨_,rfl,⟨by rw [sM];simp;omega,.inr ⟨w.heap.size,G,_,rfl,hb,k2,HG,Hy,?_,?_⟩⟩,dD HH _⟩
    ·simp only [List.size_toArray,Q2,Hi,Hj,h4,List.length_drop,Array.length_toList,Hl];omega
    ·rw [zO,List.toList_toArray,List.take_append_of_le_length (by simp only [Q2,Hi,Hj,h4];omega),List.take_of_length_le (by simp only [Q2,Hi,Hj,h4];omega)]
end
section
open RowKit Shelf
open Qos (Nd Ct Pd nd ct pd af)
open Sv (Gv Hd gv hd gsF aB aF)
open Dvs (Dv dv aW)
attribute [local go_sem] Oper.semAt_some
theorem zP (N:Nat->Prop) (Ba Bd Be Bm:Nat) (t:Ol.St) (dk:Dk) (n:Nat) (nms:List ByteArray) (nb no nc:Nat) (w:World) (hM:aK w N Ba Bd Be Bm t dk n) (hnm:∀ k (hk:k<nms.length),w.cell? ⟨nb,no+k,none⟩=some (.string nms[k])) (hnb:nb≠Bd/\nb≠Bm) (hnbl:nb<w.heap.size) (hnml:nms.length<=100) (h0:0<t.hs.length) (hn:n+36<=1000) (ht:∀ W,Apart (three Ba Bd Bm) w W->ci W) :
  Calls prog 62 #[.pointer (some ⟨Ba,0,none⟩),.slice (some ⟨nb,no,none⟩) nms.length nc] w λe w'=>e=.returned .nilIface/\(∃ dk' n',(n'<=n/\fK w w' Ba)/\aK w' N Ba Bd Be Bm ⟨t.m,t.ds,bW t.hs nms⟩ dk' n')/\Apart (three Ba Bd Bm) w w':=by
 have h4:=qI hM;obtain ⟨h1,Hl,Hv,hE,Jc,hX,H3,ho,tb,b,tc,hv,pb,db,ao,pc,s,k1,k2,k3,k4,k5,k6,k7⟩:=hM;obtain ⟨a1,a2,a3⟩:=Ol.bO.1 h1.held;have HD:=qI h1;have HW:=qI h1.held;have Hi:=qI Hl;have Hx:=qI Hv;have HE:=qI hE;have hY:=qI ho;obtain ⟨el1,el2,el3⟩:=hE.lt;obtain ⟨ea1,ea2,ea3⟩:=hE.apart;obtain ⟨ab1,ab2,ab3⟩:=Jc;have hl:=k1.lt;obtain ⟨ha,hc,h7,hK,hP⟩:=id k2;subst h7;have hr:=qI k1;have hJ:=qI k2;have h3:=qI k3;have hw:=qI k4;have HJ:=qI k5;have hf:=qI k6;have H1:=qI k7;have HT:=qI ht;have hS:=qI hnm;have hB:=qI hnb;have hH:Hid (∀ j,four N Ba Bd Bm j->j<w.heap.size):=λj hj=>by
  rcases hj with e|e|e|e
  ·exact H3 j e
  all_goals omega
 have x7:w.cell? ⟨Ba,7,none⟩=some (.slice ha t.hs.length hc):=aa k1 7;have hT:=k3.op;have HN:Hid (aW t.ds):=Dvs.gW h1.devs;clear h1 Hl Hv hE hX H3 ho k1 k2 k3 k4 k5 k6 k7 a2 a3 hK hP ht hnm hnb
 go_enter func62,ntmps62
 go_wp2_with fail
 clear x7;refine (xG (.slice ha t.hs.length hc) t.hs w (ag (four N Ba Bd Bm) w) hJ.out (cC _ _) (by omega)).mono ?_;rintro e C1 ⟨u,cvv,gvv,rfl,Hy,H9,hb⟩;obtain ⟨l,hG,HA,HO⟩:=zF Hy H9;obtain ⟨L,hL⟩:=L9 HO;have Hr:Hid (L.map HS.h=t.hs):=by
  unfold Hid;rw [<- hG,<- hL,List.map_map];rfl
 have Hz:Hid (∀ x∈L,aE (ag (four N Ba Bd Bm) w) (.slice x.ca x.cn x.cc) x.h.pod.cs/\bz (ag (four N Ba Bd Bm) w) (.slice x.ga x.gn x.gc) x.h.gs):=λx hx=>HO x.tri (by rw [<- hL];exact Qk.2 ⟨x,hx,rfl⟩)
 have Je:0<L.length/\L.length<=12:=by rw [<- Hr.out,Q9] at h0 a1;exact ⟨h0,a1⟩
 obtain ⟨g,cap,hu⟩:∃ g cap,u=.slice (some ⟨g,0,none⟩) L.length cap:=by
  rcases HA.2 with ⟨_,hz⟩|⟨g,cap,cur,h8,_⟩
  ·exfalso;rw [<- hL,Q9] at hz;omega
  ·exact ⟨g,cap,by rw [h8,<- hL,Q9]⟩
 subst hu;rw [<- hL,Q9] at HA;obtain ⟨Hh,hq,Jh,H7⟩:=Ma HA;have Ho:=qI Hh;have HI:=qI H7;have Hw:Hid (Apart (gk Bd Bm) w C1):=Apart.of_below hb;have hI:Hid (bw C1 Be Bd Bm n dk.n dk.k λa=>a∈ap t.hs):=HE.out.below hb;clear Hy H9 hb hG HA HO hL Hh H7 cvv gvv l
 go_wp2
 go_loopw [5,17] (λnx i wr=>∃ k:Nat,k<=nms.length/\i=.int .i64 k/\nx=.slice (some ⟨g,0,none⟩) (dz L (nms.take k)).length cap/\bV wr g cap (λj x=>j<(dz L (nms.take k)).length/\x=b9 (dz L (nms.take k)) j)/\(∃ n',n'<=n/\bw wr Be Bd Bm n' dk.n dk.k (λa=>a∈ap (bW t.hs (nms.take k))))/\Apart (gk Bd Bm) w wr) (λ_ i _=>nms.length - (intOf i).toNat)
 case atStart=>exact ⟨0,Nat.zero_le _,rfl,rfl,Ho.out,⟨n,lR,hI.out⟩,Hw.out⟩
 case round=>
  obtain ⟨k,hk,rfl,rfl,Hh,⟨n',hZ,hE⟩,HC⟩:=hrel;have Hg:=qI Hh;have HB:=qI hE;have Hb:=qI HC;have Jf:=HC.size;have Hm:=qI (pq L (nms.take k));have hU:(dz L (nms.take k)).length<=L.length:=(pq L (nms.take k)).length_le;have hi:Hid ((dz L (nms.take k)).map HS.h=bW t.hs (nms.take k)):=by unfold Hid;rw [zM,Hr.out]
  clear Hh hE HC hI Hw Ho
  by_cases hlt:k<nms.length
  ·have c0:wr.cell? ⟨nb,no+k,none⟩=some (.string nms[k]):=by
    rw [<- hS.out k hlt];unfold World.cell?
    rw [Hb.out.block nb hnbl λe=>e.elim hB.out.1 hB.out.2]
   have hD:=qI (Mz (L:=L) hlt);have H6:=qI (My (hs:=t.hs) hlt);obtain ⟨nm,hnm⟩:∃ nm,nm=nms[k]:=⟨_,rfl⟩;rw [<- hnm] at c0 hD H6;clear hnm;have Hn:=qI ((Q0 wr.heap.size wr).alloc (lR) (.cells #[.string nm] 9));have h5:=qI (aD wr (.cells #[.string nm] 9) rfl);have hA:g<wr.heap.size:=Hg.out.lt;have hO:Hid ((dz L (nms.take (k+1))).length<=L.length):=(pq L (nms.take (k+1))).length_le
   go_wp2_with fail
   clear c0;generalize wr.alloc (.cells #[.string nm] 9)=X at *;refine (Mk nm wr.heap.size g cap (dz L (nms.take k)) X h5.out (by omega) (Hg.out.block (Hn.out.block g hA)) (by omega) HI.out (by omega)).mono ?_;rintro e W2 ⟨rfl,Hf,Hc⟩;rw [<- hD.out] at Hf ⊢;have Hu:=qI Hf;have Ji:=Hc.size;have Jj:=Hn.out.size;have Ha:Hid (Apart (gk Bd Bm) w W2):=⟨Hc.os.trans (Hn.out.os.trans Hb.out.os),Hc.tape.trans (Hn.out.tape.trans Hb.out.tape),Hc.output.trans (Hn.out.output.trans Hb.out.output),by omega,λj hj hn=>(Hc.block j (by omega) (λe=>by injection e with e;omega)).trans ((Hn.out.block j (by omega)).trans (Hb.out.block j hj hn))⟩;have h9:Hid (bw W2 Be Bd Bm n' dk.n dk.k λa=>a∈ap (bW t.hs (nms.take k))):=MB (HB.out.below Hn.out) (Hg.out.block (Hn.out.block g hA)) Hc ⟨by omega,by omega,by omega⟩;have x6:W2.cell? ⟨Ba,6,none⟩=some (.pointer (some ⟨Be,0,none⟩)):=aa ((Ha.out.block Ba hl λe=>e.elim ab1 ab2).trans hr.out) 6;have HU:Hid ((dz L (nms.take (k+1))).map HS.h=bW t.hs (nms.take (k+1))):=by unfold Hid;rw [zM,Hr.out]
   have h2:Hid (aJ (ag (gk Bd Bm) W2) (.slice (some ⟨g,0,none⟩) (dz L (nms.take (k+1))).length cap) (bW t.hs (nms.take (k+1)))):=by
    have:=zN (M:=four N Ba Bd Bm) (w:=w) Hf hH.out hq (by have:=hO.out;omega) HI.out (λx hx=>Hz.out x ((pq L (nms.take (k+1))).subset hx)) ⟨Ha.out.os,Ha.out.tape,Ha.out.output,Ha.out.size,λj hj hn=>Ha.out.block j hj λe=>hn (.inr (.inr e))⟩
    rw [HU.out] at this;exact this.le (bE (λj hj hn=>⟨λe=>hn (.inr (.inr e)),rfl⟩) (lR))
   have hy:=qI (so Be Bd Bm n' dk.n dk.k (ap (bW t.hs (nms.take k))) _ _ W2 h9.out h2.out (Ol.rx HW.out (lI _ _)) (by omega));clear Hf Hc
   go_wp2_with fail
   refine hy.out.mono ?_;rintro e W3 ⟨rfl,⟨n2,hp,hh⟩,H8⟩;have h6:=qI hh;have Hs:=qI H8;have Ja:Hid (n2<=n):=by
    unfold Hid;rw [po (sL (by rw [H6.out];exact Ol.wG _ _))] at hp;omega
   clear hh H8 hp x6 hy
   go_wp2
   go_roundw
   case rel=>exact ⟨k+1,by omega,by go_num,rfl,Hu.out.block (Hs.out.block g (by omega) (by omega) (by omega)),⟨n2,Ja.out,h6.out⟩,⟨Hs.out.os.trans Ha.out.os,Hs.out.tape.trans Ha.out.tape,Hs.out.output.trans Ha.out.output,by have:=Hs.out.size;have:=Ha.out.size;omega,λj hj hn=>(Hs.out.block j (by omega) (λe=>hn (.inl e)) λe=>hn (.inr e)).trans (Ha.out.block j hj hn)⟩⟩
   case measure=>simp [intOf];omega
  ·have he:nms.take k=nms:=List.take_of_length_le (by omega);rw [he] at Hg HB Hm hU hi ⊢;clear he;have hg:Hid (aJ (ag (four N Ba Bd Bm) wr) (.slice (some ⟨g,0,none⟩) (dz L nms).length cap) (bW t.hs nms)):=by
    have:=zN (M:=four N Ba Bd Bm) (w:=w) Hg.out hH.out hq (by omega) HI.out (λx hx=>Hz.out x (Hm.out.subset hx)) ⟨Hb.out.os,Hb.out.tape,Hb.out.output,Hb.out.size,λj hj hn=>Hb.out.block j hj λe=>hn (.inr (.inr e))⟩
    rw [hi.out] at this;exact this
   have HF:=qI (Ol.rx HW.out (lI t.hs nms));have H2:=qI (Ol.Ib (lI t.hs nms) (Ol.Ic HW.out) hY.out);have HG:=qI (xl Hi.out HF.out);have H5:Hid (bg wr Ba tb t.m Bd Be (.slice ha t.hs.length hc) s.cp pb):=(Hb.out.block Ba hl λe=>e.elim ab1 ab2).trans hr.out;have x5:wr.cell? ⟨Ba,5,none⟩=some (.pointer (some ⟨Bd,0,none⟩)):=aa H5.out 5;have Hj:Hid (Apart (three Ba Bd Bm) w wr):=⟨Hb.out.os,Hb.out.tape,Hb.out.output,Hb.out.size,λj hj hn=>Hb.out.block j hj λe=>hn (.inr e)⟩;have Jd:Hid (bf wr Bd dk):=yE HB.out.disk Hi.out;have hF:=qI (xi Bd dk _ (bW t.hs nms) wr Jd.out (.inl Hi.out.2.2) (hg.out.le (cC _ _)) (HT.out _ Hj.out));rw [HG.out.1 H2.out,show au (((0:Nat)):Int)=.nilIface from rfl] at hF
   go_wp2_with fail
   refine hF.out.mono ?_;rintro e W9 ⟨rfl,HZ,Hq⟩;have Jg:=qI HZ;have HK:=qI Hq;have Jk:=Hq.size;have hV:Hid (bw W9 Be Bd Bm n' (dk.save (bW t.hs nms)).2.n (dk.save (bW t.hs nms)).2.k λa=>a∈ap (bW t.hs nms)):=sI HB.out Hq HZ HG.out.2.2;have hm:Hid (bg W9 Ba tb t.m Bd Be (.slice ha t.hs.length hc) s.cp pb):=(Hq.block Ba (by omega) λe=>ab1 (by injection e)).trans H5.out;have Hp:Hid (∀ j,j<w.heap.size->¬ four N Ba Bd Bm j->W9.heap[j]?=w.heap[j]?):=λj hj hn=>(Hq.block j (by omega) λe=>hn (.inr (.inr (.inl (by injection e))))).trans (Hb.out.block j hj λe=>hn (.inr (.inr e)))
   have HH:=HJ.out.pool.lt;have HR:Hid (ak W9 pb db ao pc t.ds s.us):=by
    have:=lE HJ.out.pool (Hp.out pb HH hf.out) (λh0=>Hp.out db (HJ.out.pool.at0 h0).2.2 (H1.out h0)) (by omega)
    rw [Ol.iO hw.out] at this;exact this
   have H4:Hid (aJ (ag (four N Ba Bd Bm) W9) (.slice (some ⟨g,0,none⟩) (dz L nms).length cap) (bW t.hs nms)):=hg.out.le (bE (λj hj hn=>⟨hn,Hq.block j hj λe=>hn (.inr (.inr (.inl (by injection e))))⟩) (by omega));have HX:Hid (aJ (ag (λj=>j=Ba) W9) (.slice (some ⟨g,0,none⟩) (dz L nms).length cap) (bW t.hs nms)):=H4.out.le (bE (λj hj hn=>⟨λe=>hn (.inr (.inl e)),rfl⟩) (lR));have hW:Hid (cK (ag (four N Ba Bd Bm) W9) tb b 0 tc t.m):=nw h3.out Hx.out Hp.out (by omega);have H0:=qI (MA HD.out nms);obtain ⟨s',HL⟩:=H0.out.left;have Jb:=qI HL;have Ht:jK (bW t.hs nms):=(Ol.bO.1 HF.out).2.1;have Hk:(bW t.hs nms).length<=100:=by have:=(Ol.bO.1 HF.out).1;omega
   have hR:=qI (sC Ba tb t.m Bd Be (.slice ha t.hs.length hc) s.cp pb db ao pc t.ds s.us (.slice (some ⟨g,0,none⟩) (dz L nms).length cap) (bW t.hs nms) s' W9 hm.out ⟨_,_,_,rfl⟩ HR.out (λe=>hf.out (.inr (.inl e))) (λh0 e=>H1.out (by rw [Ol.iO hw.out];exact h0) (.inr (.inl e))) HN.out HX.out hT Ht Hk HL);clear HZ Hq HL Ht Hk x5
   go_wp2_with fail
   refine hR.out.mono ?_;rintro e W11 ⟨rfl,⟨pb2,db2,ao2,c2,HM,HY,hC,HQ⟩,He⟩;have HP:Hid (aK W11 N Ba Bd Be Bm ⟨t.m,t.ds,bW t.hs nms⟩ (dk.save (bW t.hs nms)).2 n'):=h4.out.then (by omega) hW.out Hx.out H4.out He HM HY hC HQ hV.out hm.out H0.out Jb.out HG.out.2.2 H2.out
   have HV:Hid (Apart (three Ba Bd Bm) w W11):=(Hj.out.trans (eu HK.out λj e _=>.inr (.inl (by injection e with e;exact e.symm)))).trans ⟨He.os,He.tape,He.output,He.size,λj hj hn=>He.block j hj λe=>hn (.inl e)⟩;have hN:Hid (fK w W11 Ba):=.inr (sD HM HY (by have:=(Hj.out.trans (eu HK.out λj e _=>.inr (.inl (by injection e with e;exact e.symm)))).size;omega) (λh0=>by have:=(Hj.out.trans (eu HK.out λj e _=>.inr (.inl (by injection e with e;exact e.symm)))).size;have:=HQ h0;omega));clear HM HY hC HQ He
   go_wp2
   go_ret;exact ⟨rfl,⟨_,n',⟨hZ,hN.out⟩,HP.out⟩,HV.out⟩
end
section
open RowKit Shelf
open Qos (Nd Ct Pd nd ct pd af)
open Sv (Gv Hd gv hd gsF aB aF)
attribute [local go_sem] Oper.semAt_some
theorem zQ {hs:List Hd} {nm:ByteArray} (h:cA hs nm=false):Ol.eQ hs nm=hs:=by
 unfold Ol.eQ;refine List.filter_eq_self.2 λx hx=>?_
 have:¬ x.pod.nm=nm:=λe=>by
  rw [nr.2 ⟨x,hx,e⟩] at h;cases h
 simp [this]
theorem MJ (N:Nat->Prop) (Ba Bd Be Bm:Nat) (t:Ol.St) (dk:Dk) (n:Nat) (nm:ByteArray) (w:World) (hM:aK w N Ba Bd Be Bm t dk n) (hn:n+36<=1000) (ht:∀ W,Apart (three Ba Bd Bm) w W->ci W) :
  Calls prog 28 #[.pointer (some ⟨Ba,0,none⟩),.string nm] w λe w'=>e=.returned (au ((if cA t.hs nm then 0 else 6:Nat):Int))/\(∃ dk' n',(n'<=n/\fK w w' Ba)/\aK w' N Ba Bd Be Bm ⟨t.m,t.ds,Ol.eQ t.hs nm⟩ dk' n')/\Apart (three Ba Bd Bm) w w':=by
 obtain ⟨en,Hg⟩:∃ en:Nat,en=if cA t.hs nm then 0 else 6:=⟨_,rfl⟩
 rw [<- Hg];have Hj:=qI Hg;clear Hg;have He:=qI hM;have HT:=qI ht;obtain ⟨h1,Hb,Hh,hE,Hx,Hu,Hr,Hs,tb,b,tc,hv,pb,db,ao,pc,s,k1,k2,k3,k4,k5,k6,k7⟩:=hM;obtain ⟨a1,a2,a3⟩:=Ol.bO.1 h1.held;obtain ⟨el1,el2,el3⟩:=hE.lt;obtain ⟨ha,hc,Hm,Hp,Ho⟩:=id k2;subst Hm;have x7:w.cell? ⟨Ba,7,none⟩=some (.slice ha t.hs.length hc):=aa k1 7;have Ht:=qI (yA (.slice ha t.hs.length hc) t.hs nm w (k2.le (cC _ _)) (by omega) a3);clear h1 Hb Hh hE Hx Hu Hr Hs k1 k2 k3 k4 k5 k6 k7 a2 a3 Hp Ho ht
 go_enter func28,ntmps28
 go_wp2_with fail
 refine Ht.out.mono ?_;rintro e W1 ⟨rfl,Hi⟩;have Ha:=qI Hi;have Hz:=Hi.size;clear Hi x7
 rcases two (cA t.hs nm) with hh|hh
 ·have HH:=qI hh;rw [hh];have Hf:0<t.hs.length:=by
   obtain ⟨x,hx,_⟩:=nr.1 hh;exact List.length_pos_of_mem hx
  clear hh;have Hc:=qI (Ha.out.alloc Ha.out.size (.cells #[.string nm] 9));have Hw:=qI (aD W1 (.cells #[.string nm] 9) rfl);have Hy:(W1.alloc (.cells #[.string nm] 9)).heap.size=W1.heap.size+1:=by simp
  go_wp2_with fail
  generalize W1.alloc (.cells #[.string nm] 9)=X at *;refine (zP N Ba Bd Be Bm t dk n [nm] W1.heap.size 0 1 X (He.out.keep Hc.out) (λk hk=>by
   have Hv:k=0:=by simp at hk;exact hk
   subst Hv;exact aa Hw.out 0) ⟨by omega,by omega⟩ (by omega) (by simp) Hf hn λW hW=>HT.out W ((Apart.of_below Hc.out).trans hW)).mono ?_
  rintro e W2 ⟨rfl,Hk,Hl⟩;have Hq:Hid (∃ dk' n',(n'<=n/\fK w W2 Ba)/\aK W2 N Ba Bd Be Bm ⟨t.m,t.ds,Ol.eQ t.hs nm⟩ dk' n'):=by
   obtain ⟨d2,n2,⟨q1,q2⟩,q3⟩:=Hk;exact ⟨d2,n2,⟨q1,q2.old Hc.out He.out.poolAt.1⟩,q3⟩
  have Hn:=qI Hl;clear Hk Hl
  go_wp2
  go_ret;exact ⟨by rw [show en=0 by rw [Hj.out,HH.out];rfl];rfl,Hq.out,(Apart.of_below Hc.out).trans Hn.out⟩
 ·have HH:=qI hh;rw [hh];clear hh
  go_wp2
  go_ret;exact ⟨by rw [show en=6 by rw [Hj.out,HH.out];rfl];rfl,by rw [zQ HH.out];exact ⟨dk,n,⟨lR,.inl (Ha.out.block Ba He.out.poolAt.1)⟩,He.out.keep Ha.out⟩,Apart.of_below Ha.out⟩
end
section
open RowKit Shelf
open Qos (Nd Ct Pd nd ct pd af aA)
open Sv (Gv Hd gv hd)
open Dvs (Dv dv nth aL)
attribute [local go_sem] Oper.semAt_some
def frT (c12 c21 c22 c23 c24:Value) (F:Nat->Value):Act:=⟨List.toArray (F 0 :: F 1 :: F 2 :: F 3 :: F 4 :: F 5 :: F 6 :: F 7 :: F 8 :: F 9 :: F 10 :: F 11 :: c12 :: F 13 :: F 14 :: F 15 :: F 16 :: F 17 :: F 18 :: F 19 :: F 20 :: c21 :: c22 :: c23 :: c24 :: tlS F ([]) 25 251),[]⟩
def jd (W:World) (a:Option Addr) (ys:List RV):Prop:=0<ys.length->∃ g,a=some ⟨g,0,none⟩/\g<W.heap.size/\gi W g ys
theorem jd.below {W W':World} {a:Option Addr} {ys:List RV} (h:jd W a ys) (hb:Below W.heap.size W W'):jd W' a ys:=λh0=>by
 obtain ⟨g,h1,h2,h3⟩:=h h0;exact ⟨g,h1,Q1 h2 hb.size,gi.block h3 (hb.block g h2)⟩
theorem lJ {W W':World} {x:RV} (h:aS W x) (hb:Below W.heap.size W W'):aS W' x/\aj W' x=aj W x:=by
 obtain ⟨h1,h2⟩:=h.below hb λ_ _ _ h=>h;exact ⟨h1,by unfold aj;rw [h2]⟩
def Fnd (W:World) (ys:List RV) (z:RV) (k:Nat) (b:Bool):Prop:=∀ j,j<k->aj W (rv ys j)=aj W z->b=true
theorem Fnd.more {W:World} {ys:List RV} {z:RV} {k:Nat} {b b':Bool} (h:Fnd W ys z k b) (h1:b=true->b'=true) (h2:aj W (rv ys k)=aj W z->b'=true):Fnd W ys z (k+1) b':=λj hj e=>by
 by_cases hjk:j=k
 ·subst hjk;exact h2 e
 ·exact h1 (h j (by omega) e)
abbrev zR:=λ(gy k:Nat) (y:RV) (gz i:Nat) (z:RV) (w':World)=>(w'.cell? ⟨gy,k*4,none⟩=some (.string y.pod)/\w'.cell? ⟨gy,k*4+1,none⟩=some (.string y.cont)/\w'.cell? ⟨gy,k*4+2,none⟩=some (.int .u64 y.cpus)/\w'.cell? ⟨gy,k*4+3,none⟩=some (.slice y.da y.dn y.dc))/\w'.cell? ⟨gz,i*4,none⟩=some (.string z.pod)/\w'.cell? ⟨gz,i*4+1,none⟩=some (.string z.cont)/\w'.cell? ⟨gz,i*4+2,none⟩=some (.int .u64 z.cpus)/\w'.cell? ⟨gz,i*4+3,none⟩=some (.slice z.da z.dn z.dc)
theorem MK (F:Nat->Value) (W:World) (ra na:Option Addr) (rc nc i nl:Nat) (zs ys:List RV) (hnl:nl=ys.length) (hz:jd W ra zs) (hy:jd W na ys) (hdz:aS W (rv zs i)/\(rv zs i).dn<=1000) (hdy:∀ y∈ys,aS W y/\y.dn<=1000) (hi:i<zs.length) (hzl:zs.length<=1000) (hyl:ys.length<=1000) (hf:∃ j,j<ys.length/\aj W (rv ys j)=aj W (rv zs i)) :
  Code.wp Tryz.prog (Code.loop (gm 5)) (ja 10 (FrS (λF=>frT (.slice ra zs.length rc) (.slice na nl nc) (.int .i64 (i:Nat)) (.bool true) (F 24) F) λW'=>Below W.heap.size W W')) (frT (.slice ra zs.length rc) (.slice na nl nc) (.int .i64 (i:Nat)) (.bool false) (.int .i64 0) F) W:=by
 subst hnl;obtain ⟨gz,Hx,Hi,Hr⟩:=hz (by omega);subst Hx;have HA:=qI Hr;have HY:=qI hy;have Ho:=qI hdz;have Hs:=qI hdy;have Hz:=qI hf;clear Hr hy hdz hdy hf hz;simp only [frT,tlS,Nat.reduceAdd]
 conv=>enter [2,1];unfold gm;whnf
 go_loopw [23,24] (λbv kv wq=>∃ (k:Nat) (b:Bool),k<=ys.length/\kv=.int .i64 k/\bv=.bool b/\Fnd W ys (rv zs i) k b/\Below W.heap.size W wq) (λ_ kv _=>ys.length - (intOf kv).toNat)
 case atStart=>exact ⟨0,false,Nat.zero_le _,rfl,rfl,λj hj=>by omega,Q0 _ _⟩
 case round=>
  obtain ⟨k,b,hk,rfl,rfl,Hq,Hk⟩:=hrel;have Hb:=qI Hq;have Hh:=qI Hk;clear Hq Hk
  by_cases hlt:k<ys.length
  ·obtain ⟨gy,Hu,Hf,Hj⟩:=HY.out (by omega);subst Hu;have Ht:=qI Hj;clear Hj;have Hm:rv ys k∈ys:=kw hlt;have Hc:=qI (Hs.out _ Hm);clear Hm;have Hg:Hid (∀ V,Below W.heap.size W V->(λw'=>(w'.cell? ⟨gy,k*4,none⟩=some (.string (rv ys k).pod)/\w'.cell? ⟨gy,k*4+1,none⟩=some (.string (rv ys k).cont)/\w'.cell? ⟨gy,k*4+2,none⟩=some (.int .u64 (rv ys k).cpus)/\w'.cell? ⟨gy,k*4+3,none⟩=some (.slice (rv ys k).da (rv ys k).dn (rv ys k).dc))/\w'.cell? ⟨gz,i*4,none⟩=some (.string (rv zs i).pod)/\w'.cell? ⟨gz,i*4+1,none⟩=some (.string (rv zs i).cont)/\w'.cell? ⟨gz,i*4+2,none⟩=some (.int .u64 (rv zs i).cpus)/\w'.cell? ⟨gz,i*4+3,none⟩=some (.slice (rv zs i).da (rv zs i).dn (rv zs i).dc)) V):=λV hb=>by
    obtain ⟨⟨c0,c1,c2,c3⟩,_⟩:=gi.block (W':=V) Ht.out (hb.block gy Hf) k hlt;obtain ⟨⟨e0,e1,e2,e3⟩,_⟩:=gi.block (W':=V) HA.out (hb.block gz Hi) i hi;exact ⟨⟨c0,c1,c2,c3⟩,e0,e1,e2,e3⟩
   rcases two b with rfl|rfl
   ·have Hw:=qI (Hb.out.more (b':=true) (λ_=>rfl) λ_=>rfl);clear Hb Hc;generalize rv ys k=y at *;generalize rv zs i=z at *;have Ha:Hid (Below W.heap.size W wr.drew):=a6 Hh.out
    go_upto_region 50 with fail
    refine wp_region_held_drew (S:=zR gy k y gz i z) (by kernel_rfl) (Hg.out _ Ha.out) λhQ=>?_;generalize wr.drew=V at *;refine tk 0 ?_;refine tk 1 ?_;refine ts 2 ?_;refine ts 3 ?_;refine ts 4 ?_;refine ts 5 ?_;refine ts 6 ?_;refine ts 7 ?_;refine ts 8 ?_;refine ts 9 ?_;refine ts 10 ?_;refine tk 11 ?_;refine tk 12 ?_;refine Qn (by kernel_rfl) ?_ _
    go_wp2
    go_roundw
    case rel=>exact ⟨k+1,true,by omega,by go_num,rfl,Hw.out,Ha.out⟩
    case measure=>simp [intOf];omega
   ·have HB:Hid (∀ V,Below W.heap.size W V->Calls Tryz.prog 40 #[.agg #[.string (rv ys k).pod,.string (rv ys k).cont,.int .u64 (rv ys k).cpus,.slice (rv ys k).da (rv ys k).dn (rv ys k).dc],.agg #[.string (rv zs i).pod,.string (rv zs i).cont,.int .u64 (rv zs i).cpus,.slice (rv zs i).da (rv zs i).dn (rv zs i).dc]] V λe w'=>∃ b:Bool,e=.returned (.bool b)/\Fnd W ys (rv zs i) (k+1) b/\Below V.heap.size V w'):=λV hb=>by
     obtain ⟨p1,p2⟩:=lJ Hc.out.1 hb;obtain ⟨q1,q2⟩:=lJ Ho.out.1 hb;refine (Kr (rv ys k) (rv zs i) V p1 q1 Hc.out.2 Ho.out.2).mono ?_;rintro e w' ⟨b,rfl,Hn,He⟩;rw [p2,q2] at Hn;exact ⟨b,rfl,Hb.out.more (λh=>by cases h) Hn,He⟩
    clear Hb Hc;generalize rv ys k=y at *;generalize rv zs i=z at *;have Ha:Hid (Below W.heap.size W wr.drew):=a6 Hh.out
    go_upto_region 50 with fail
    refine wp_region_held_drew (S:=zR gy k y gz i z) (by kernel_rfl) (Hg.out _ Ha.out) λhQ=>?_;generalize wr.drew=V at *;refine tk 0 ?_;refine tk 1 ?_;refine tk 2 ?_;refine tk 3 ?_;refine tk 4 ?_;refine tk 5 ?_;refine tk 6 ?_;refine tk 7 ?_;refine tk 8 ?_;refine tk 9 ?_;refine rd 10 λK hK=>?_;go_simp
    go_wp2_with fail
    refine (HB.out _ Ha.out).mono ?_;rintro e V2 ⟨b2,rfl,Hl,He⟩;have Hp:=qI (Ha.out.trans (He.mono Ha.out.size));have Hv:=qI Hl;clear He Hl
    go_wp2
    refine hK.out _ _ (Hg.out _ Hp.out) λhQ=>?_;clear hK K;refine tk 11 ?_;refine tk 12 ?_;refine Qn (by kernel_rfl) ?_ _
    go_wp2
    go_roundw
    case rel=>exact ⟨k+1,b2,by omega,by go_num,rfl,Hv.out,Hp.out⟩
    case measure=>simp [intOf];omega
  ·have Hy:k=ys.length:=by omega
   subst Hy;obtain ⟨j,hj,he⟩:=Hz.out;have HC:=Hb.out j hj he;subst HC
   go_wp2
   exact ⟨rfl,FrS.mk (by kernel_rfl) Hh.out⟩
theorem ML (F:Nat->Value) (W:World) (ra na:Option Addr) (rc nc nl:Nat) (zs ys:List RV) (hnl:nl=ys.length) (hz:jd W ra zs) (hy:jd W na ys) (hdz:∀ z∈zs,aS W z/\z.dn<=1000) (hdy:∀ y∈ys,aS W y/\y.dn<=1000) (hzl:zs.length<=1000) (hyl:ys.length<=1000) (hf:∀ i,i<zs.length->∃ j,j<ys.length/\aj W (rv ys j)=aj W (rv zs i)) :
  Code.wp Tryz.prog (Code.loop (gm 4)) (ja 8 (FrS (λF=>frT (F 12) (F 21) (F 22) (F 23) (F 24) F) λW'=>Below W.heap.size W W')) (frT (.slice ra zs.length rc) (.slice na nl nc) (.int .i64 0) (F 23) (F 24) F) W:=by
 have HZ:=qI hz;have HY:=qI hy;have Hh:=qI hdz;have Hc:=qI hdy;have Hj:=qI hf;clear hz hy hdz hdy hf
 conv=>enter [2,1];unfold gm;whnf
 refine pk (λm a wq=>∃ (i:Nat) (iv:Value),m+i=zs.length/\iv=.int .i64 i/\FrS (λF=>frT (.slice ra zs.length rc) (.slice na nl nc) (iv) (F 23) (F 24) F) (λwq=>Below W.heap.size W wq) a wq) zs.length ?_ ?_
 ·exact ⟨0,.int .i64 0,rfl,rfl,FrS.mk (by kernel_rfl) (Q0 _ _)⟩
 ·rintro m a wr ⟨i,iv,Hk,rfl,F7,rfl,He⟩ K hK;have hi:i<=zs.length:=by omega
  simp only [frT,tlS,Nat.reduceAdd];(try dsimp only);have Ha:=qI He;clear He
  by_cases hlt:i<zs.length
  ·go_wp2_with fail
   have Hb:=Hh.out _ (kw hlt);refine jQ (G:=λF=>frT (.slice ra zs.length rc) (.slice na nl nc) (.int .i64 (i:Nat)) (.bool false) (.int .i64 0) F) (by kernel_rfl) (λF1=>MK F1 wr ra na rc nc i nl zs ys hnl (HZ.out.below Ha.out) (HY.out.below Ha.out) ⟨(lJ Hb.1 Ha.out).1,Hb.2⟩ (λy hy=>⟨(lJ (Hc.out y hy).1 Ha.out).1,(Hc.out y hy).2⟩) hlt hzl hyl (by
    obtain ⟨j,hj,he⟩:=Hj.out i hlt;exact ⟨j,hj,by rw [(lJ (Hc.out _ (kw hj)).1 Ha.out).2,(lJ Hb.1 Ha.out).2];exact he⟩)) ?_
   rintro a W2 ⟨F1,rfl,Hf⟩;have Hi:=qI (Ha.out.trans (Hf.mono Ha.out.size));clear Hf Hb;simp only [frT,tlS,Nat.reduceAdd];(try dsimp only)
   go_wp2
   refine hK.out _ _ ⟨m - 1,by omega,i+1,.int .i64 ((i:Int)+1),by omega,?_,FrS.mk (by kernel_rfl) Hi.out⟩
   go_num
  ·have Hg:i=zs.length:=by omega
   subst Hg
   go_wp2
   exact ⟨rfl,FrS.mk (by kernel_rfl) Ha.out⟩
end
section
open RowKit Shelf
open Qos (Nd Ct Pd nd ct pd af)
open Sv (Gv Hd gv hd gsF aB aF)
open Dvs (Dv dv aW)
attribute [local go_sem] Oper.semAt_some
abbrev dV:=λ(x0:Pd) (x1:Option Addr) (x2:Nat)=>(.cells #[.string x0.nm,.int .i64 x0.pr,.slice x1 x0.cs.length x2] 47:Obj)
abbrev kG:=λ(x0:Pd) (x1:Option Addr) (x2:Nat) (x3:Option Addr) (x4 x5:Nat)=>(.cells #[.string x0.nm,.int .i64 x0.pr,.slice x1 x0.cs.length x2,.slice x3 x4 x5] 57:Obj)
abbrev nC:=λ(x0:Ol.Sk) (x1:Nat)=>(.cells #[.int .u64 x0.cp,.pointer (some ⟨x1,0,none⟩)] 98:Obj)
abbrev MM:=λ(Ba tb:Nat) (t:Ol.St) (ha:Option Addr) (hc y5:Nat) (p:Pd) (ca:Option Addr) (cc:Nat) (w':World)=>w'.cell? ⟨Ba,0,none⟩=some (.pointer (some ⟨tb,0,none⟩))/\w'.cell? ⟨Ba,1,none⟩=some (.int .u64 t.m.op)/\w'.cell? ⟨Ba,2,none⟩=some (.int .u8 t.m.nd)/\w'.cell? ⟨Ba,3,none⟩=some (.int .i64 t.m.nb)/\w'.cell? ⟨Ba,4,none⟩=some (.int .i64 t.m.pol)/\w'.cell? ⟨Ba,7,none⟩=some (.slice ha t.hs.length hc)/\w'.cell? ⟨y5,0,none⟩=some (.string p.nm)/\w'.cell? ⟨y5,1,none⟩=some (.int .i64 p.pr)/\w'.cell? ⟨y5,2,none⟩=some (.slice ca p.cs.length cc)
abbrev zS:=λ(Ba tb:Nat) (t:Ol.St) (y3:Nat) (p:Pd) (ca:Option Addr) (cc y7:Nat) (s:Ol.Sk) (pb':Nat) (w':World)=>w'.cell? ⟨Ba,0,none⟩=some (.pointer (some ⟨tb,0,none⟩))/\w'.cell? ⟨Ba,1,none⟩=some (.int .u64 t.m.op)/\w'.cell? ⟨Ba,2,none⟩=some (.int .u8 t.m.nd)/\w'.cell? ⟨Ba,3,none⟩=some (.int .i64 t.m.nb)/\w'.cell? ⟨Ba,4,none⟩=some (.int .i64 t.m.pol)/\w'.cell? ⟨y3,0,none⟩=some (.string p.nm)/\w'.cell? ⟨y3,1,none⟩=some (.int .i64 p.pr)/\w'.cell? ⟨y3,2,none⟩=some (.slice ca p.cs.length cc)/\w'.cell? ⟨y7,0,none⟩=some (.int .u64 s.cp)/\w'.cell? ⟨y7,1,none⟩=some (.pointer (some ⟨pb',0,none⟩))
theorem zT (N:Nat->Prop) (Ba Bd Be Bm:Nat) (t:Ol.St) (dk:Dk) (n:Nat) (p:Pd) (cv:Value) (w:World) (hM:aK w N Ba Bd Be Bm t dk n) (hp:aE (ag (four N Ba Bd Bm) w) cv p.cs) (ht:ci w) (hn:n+36<=1000) (hins:∀ l:List (Hd × Value × Value),l.map Prod.fst=t.hs->sJ l (Ol.b8 t.hs p.nm)) :
  Calls prog 23 #[.pointer (some ⟨Ba,0,none⟩),bG p cv] w λe w'=>e=.returned (au ((Ol.aR t p).1:Nat))/\(∃ dk' n',(n'<=n+dK (ap t.hs) (ap (Ol.aR t p).2)/\fK w w' Ba)/\aK w' N Ba Bd Be Bm ⟨t.m,t.ds,(Ol.aR t p).2⟩ dk' n')/\Apart (three Ba Bd Bm) w w':=by
 obtain ⟨i0,hi,Ji,Jy,Jo⟩:=info_parts qZ;have HP:=qI hM;obtain ⟨h1,Hx,HQ,hE,jq,Jt,hT,J8,tb,b,tc,hv,pb,db,ao,pc,s,k1,k2,k3,k4,k5,k6,k7⟩:=hM;obtain ⟨a1,a2,a3⟩:=Ol.bO.1 h1.held;have hk:Hid (jK t.hs):=a2;have h3:=qI a3;have H4:=qI h1;have Ho:=qI Hx;have hB:=qI HQ;have HE:=qI hE;have jL:=qI hT;have jy:=qI Jt;obtain ⟨el1,el2,el3⟩:=hE.lt;obtain ⟨ea1,ea2,ea3⟩:=hE.apart;obtain ⟨ab1,ab2,ab3⟩:=jq;have jA:=k1.lt;obtain ⟨ha,hc,jg,JK,JP⟩:=id k2;subst jg;obtain ⟨ca,cc,JR,JU,JY⟩:=id hp;subst JR;have JI:=qI k2;have jd:=qI k3;have Hv:=qI k4;have hU:=qI k5;have Ju:=qI k6;have Jk:=qI k7;have HT:=qI ht;have h5:=qI hins;have HK:=qI ((Q0 w.heap.size w).alloc (lR) (dV p ca cc));have hF:=qI (aD w (dV p ca cc) rfl);have jH:(w.alloc (dV p ca cc)).heap.size=w.heap.size+1:=by simp
 have Hr:Hid (bg (w.alloc (dV p ca cc)) Ba tb t.m Bd Be (.slice ha t.hs.length hc) s.cp pb):=k1.below HK.out;have hJ:Hid (aJ (w.alloc (dV p ca cc)) (.slice ha t.hs.length hc) t.hs):=(k2.le (cC _ _)).below HK.out;have ho:Hid (aE (w.alloc (dV p ca cc)) (.slice ca p.cs.length cc) p.cs):=(hp.le (cC _ _)).below HK.out;have J5:Hid (cK (w.alloc (dV p ca cc)) tb b 0 tc t.m):=(L5 k3 HQ).below HK.out;have J4:Hid (ak (w.alloc (dV p ca cc)) pb db ao pc t.ds s.us):=by unfold Hid;rw [<- Ol.iO k4];exact k5.pool.below HK.out
 have he:Hid (aW t.ds):=Dvs.gW h1.devs;have hH:=k3.op;have Jl:=qI (qJ p (.slice ca p.cs.length cc) (w.alloc (dV p ca cc)) ho.out);have Jf:Hid (∀ j,(four N Ba Bd Bm) j->j<w.heap.size):=λj hj=>by
  rcases hj with e|e|e|e
  ·exact hT j e
  all_goals omega
 clear h1 Hx HQ hE Jt hT J8 k1 k2 k3 k4 k5 k6 k7 a2 a3 JK JP JU JY hp ht hins;unfold bG
 go_enter func23,ntmps23
 go_wp2_with fail
 generalize (w.alloc (dV p ca cc))=X at *;refine Jl.out.mono ?_;rintro e W1 ⟨rfl,Jm⟩;have HX:=qI Jm;clear Jm Jl;have Hf:Hid (∀ W,Below X.heap.size X W->(MM Ba tb t ha hc w.heap.size p ca cc) W):=λW hb=>⟨aa ((hb.block (Ba) (by omega)).trans Hr.out) 0,aa ((hb.block (Ba) (by omega)).trans Hr.out) 1,aa ((hb.block (Ba) (by omega)).trans Hr.out) 2,aa ((hb.block (Ba) (by omega)).trans Hr.out) 3,aa ((hb.block (Ba) (by omega)).trans Hr.out) 4,aa ((hb.block (Ba) (by omega)).trans Hr.out) 7,aa ((hb.block (w.heap.size) (by omega)).trans hF.out) 0,aa ((hb.block (w.heap.size) (by omega)).trans hF.out) 1,aa ((hb.block (w.heap.size) (by omega)).trans hF.out) 2⟩
 have Hg:Hid (∀ W,Below X.heap.size X W->Below w.heap.size w W):=λW hb=>HK.out.trans (hb.mono HK.out.size)
 by_cases hpF:af p=0
 ·have He:=qI hpF;rw [hpF,show au (((0:Nat)):Int)=.nilIface from rfl];clear hpF
  go_upto_region 4 with fail
  go_cut [6,7] (λx6 x7 wc=>x6=.int .i64 (Ol.b8 t.hs p.nm:Nat)/\x7=.bool (cA t.hs p.nm)/\Below X.heap.size X wc)
  case first=>
   have Hc:Hid (Below X.heap.size X W1.drew):=a6 HX.out;refine Qo (by kernel_rfl) (Hf.out _ Hc.out) λhQ=>?_;generalize W1.drew=V at *;refine tk 0 ?_;refine tk 1 ?_;refine tk 2 ?_;refine tk 3 ?_;refine tk 4 ?_;refine tk 5 ?_;refine rd 6 λK hK=>?_;go_simp
   go_wp2_with fail
   refine (yA (.slice ha t.hs.length hc) t.hs p.nm V (hJ.out.below Hc.out) (by omega) h3.out).mono ?_;rintro e W2 ⟨rfl,Hy⟩;have HW:=qI (Hc.out.trans (Hy.mono Hc.out.size));clear Hy
   go_wp2
   refine hK.out _ _ (Hf.out _ HW.out) λhQ=>?_;clear hK K;refine tk 7 ?_;refine tk 8 ?_;refine tk 9 ?_;refine tk 10 ?_;refine tk 11 ?_;refine Qn (by kernel_rfl) ?_ _;clear hQ
   go_wp2
   go_meet
   exact ⟨rfl,rfl,HW.out⟩
  case rest=>
   obtain ⟨rfl,rfl,Hm⟩:=hcut;have Hu:=qI Hm;clear Hm
   rcases two (cA t.hs p.nm) with hh|hh
   ·have HH:=qI hh;rw [hh];clear hh
    go_wp2
    go_ret;exact ⟨by rw [zy He.out HH.out];rfl,ny HP.out (Hg.out _ Hu.out) (zy He.out HH.out)⟩
   ·have HH:=qI hh;rw [hh];clear hh;have x7:wc.cell? ⟨Ba,7,none⟩=some (.slice ha t.hs.length hc):=(Hf.out _ Hu.out).2.2.2.2.2.1
    by_cases h12:12<=t.hs.length
    ·go_wp2
     go_ret;exact ⟨by rw [zA He.out HH.out h12];rfl,ny HP.out (Hg.out _ Hu.out) (zA He.out HH.out h12)⟩
    ·have Hh:t.hs.length<12:=by omega
     clear h12
     go_upto_region 9 with fail
     clear x7;have hO:Hid (∀ q∈t.hs.map Hd.pod++[p],Qos.bU q.cs):=λq hq=>by
      rcases Qi.1 hq with hq|hq
      ·obtain ⟨x,hx,rfl⟩:=Qk.1 hq;exact Qos.ju (hk.out x hx).1
      ·rw [Qm.1 hq];exact Qos.ju He.out
     have hI:(t.hs.map Hd.pod++[p]).length<=100:=by simp;omega
     have HN:=qI (oU hO.out hI)
     go_cut [52] (λx wd=>x=.bool (!Ol.room t.m (t.hs.map Hd.pod++[p]))/\Below X.heap.size X wd)
     case first=>
      have Hc:Hid (Below X.heap.size X wc.drew):=a6 Hu.out;refine Qo (by kernel_rfl) (Hf.out _ Hc.out) λhQ=>?_;generalize wc.drew=V at *;refine tk 0 ?_;refine tk 1 ?_;refine tk 2 ?_;refine tk 3 ?_;refine tk 4 ?_;refine tk 5 ?_;refine tk 6 ?_;refine tk 7 ?_;refine tk 9 ?_;refine wpAnyH_ready (rs:=[8,10]) (by kernel_rfl) (by simp) (AllReadyH.cons rfl (λK hK=>?_) (AllReadyH.cons rfl (λK hK=>?_) AllReadyH.nil))
      ·go_simp
       go_wp2_with fail
       refine (zw (.slice ha t.hs.length hc) t.hs V (hJ.out.below Hc.out) (by omega)).mono ?_;rintro e P1 ⟨l,va,vc,rfl,Hp,Hq,HA,hb⟩;have JZ:=qI Hp;have jc:=qI Hq;have JX:=qI HA;have HC:=qI hb;have HX:=qI (Hc.out.trans (hb.mono Hc.out.size));have jl:=hb.size;have jo:=Hc.out.size;have JV:l.length<=12:=by have:=congrArg List.length Hp;simp at this;omega
       clear hb Hp Hq HA
       go_wp2
       refine hK.out _ _ (Hf.out _ HX.out) λhQ=>?_;clear hK K;refine rd 10 λK hK=>?_;have HW:=qI (HX.out.alloc HX.out.size (dV p ca cc));have jj:=qI (oD P1 p.nm p.pr (.slice ca p.cs.length cc) 47);have jI:Hid ((P1.alloc (dV p ca cc)).heap.size=P1.heap.size+1):=by unfold Hid;simp
       have JB:=qI (jc.out.alloc (dV p ca cc));have HD:=qI (HC.out.alloc HC.out.size (dV p ca cc));go_simp
       go_wp2
       refine hK.out _ _ (Hf.out _ HW.out) λhQ=>?_;clear hK K;generalize P1.alloc (dV p ca cc)=Z2 at *;refine rd 11 λK hK=>?_;rw [if_pos (by rfl)]
       refine wp_append_lies (o := { dst := some 50, op := Op.call { callee := Callee.builtin Builtin.append, args := #[Operand.tmp 47, Operand.tmp 49], argTypes := #[70, 70] }, type := 70, pos := "ostler.go:76", after := #[{ on := 8, ground := Ground.data }, { on := 10, ground := Ground.data }, { on := 8, ground := Ground.chain }], guard := none }) _ _ _ 70 rfl V.heap.size 47 i0 (.agg #[.string ByteArray.empty, .int .i64 0, .slice none 0 0]) 3 48 underlying70 hi Ji Jy Jo rfl (by decide) (.slice va l.length vc) _ _ rfl JB.out ⟨_, 0, none⟩ 1 1 (dH (⟨p.nm, p.pr, []⟩, .slice ca p.cs.length cc)) rfl rfl jj.out (oE _ _ _ _ _) (by decide) (by unfold maxLen; omega) (by omega) (by have := HD.out.size; omega) Z2.heap.size rfl ?_
       intro g' cap' W4 Hb Ha hR HS;have HU:∀ j,(Value.slice va l.length vc).ownBlock=some j->V.heap.size<=j:=λj hj=>(JB.out.lt j hj).1
       have Hu:Hid (Below X.heap.size X W4):=HW.out.grown Ha HW.out.size (λj hj=>by have:=HU j hj;omega);have H7:Hid (Below V.heap.size V W4):=HD.out.grown Ha HD.out.size λj hj=>HU j hj;have Jg:Hid (du W4 (.slice (some ⟨g',0,none⟩) (l.length+1) cap') (t.hs.map Hd.pod++[p])):=pf (base:=V.heap.size) ⟨l++[(p,.slice ca p.cs.length cc)],by rw [Qj,JZ.out];rfl,by rw [oC,Q2];exact Hb,λx hx=>by
        rcases Qi.1 hx with hx|hx
        ·exact (JX.out x hx).below H7.out
        ·rw [Qm.1 hx];exact ho.out.below Hu.out⟩
       clear Hb Ha hR HS HU;refine hK.out _ _ (Hf.out _ Hu.out) λhQ=>?_;clear hK K;(try simp only [Act.put,s1,s2,s3]);refine rd 12 λK hK=>?_;go_simp
       go_wp2_with fail
       refine (rF (.pointer (some ⟨tb,0,none⟩)) t.m.op t.m.nd t.m.nb t.m.pol _ (t.hs.map Hd.pod++[p]) W4 Jg.out hI hO.out hH HN.out).mono ?_;rintro e Q4 ⟨rfl,hb⟩;have JH:=qI (Hu.out.trans (hb.mono Hu.out.size));clear hb
       go_wp2
       refine hK.out _ _ (Hf.out _ JH.out) λhQ=>?_;clear hK K;refine tk 13 ?_;refine Qn (by kernel_rfl) ?_ _;clear hQ
       go_wp2
       go_meet
       exact ⟨by unfold Ol.room;rw [Bool.not_and],JH.out⟩
      ·have Hk:=qI (Hc.out.alloc Hc.out.size (dV p ca cc));have jr:=qI (oD V p.nm p.pr (.slice ca p.cs.length cc) 47);have J0:Hid ((V.alloc (dV p ca cc)).heap.size=V.heap.size+1):=by unfold Hid;simp
       go_simp
       go_wp2
       refine hK.out _ _ (Hf.out _ Hk.out) λhQ=>?_;clear hK K;generalize V.alloc (dV p ca cc)=Z5 at *;refine rd 8 λK hK=>?_;go_simp
       go_wp2_with fail
       refine (zw (.slice ha t.hs.length hc) t.hs Z5 (hJ.out.below Hk.out) (by omega)).mono ?_;rintro e P6 ⟨l,va,vc,rfl,Hp,Hq,HA,hb⟩;have ji:=qI Hp;have Jz:=qI Hq;have jk:=qI HA;have hV:=qI hb;have HO:=qI (Hk.out.trans (hb.mono Hk.out.size));have jn:=hb.size;have jm:=Hk.out.size;have JJ:l.length<=12:=by have:=congrArg List.length Hp;simp at this;omega
       have JL:Hid (∀ j u,(dH (⟨p.nm,p.pr,[]⟩,.slice ca p.cs.length cc))[j]?=some u->P6.cell? ((⟨V.heap.size,0,none⟩:Addr).add j)=some u):=λj u hu=>by have:=jr.out j u hu;rw [Addr.add_lit] at this ⊢;exact (hb.cell (p:=⟨V.heap.size,_,none⟩) (by show V.heap.size<_;have:=J0.out;omega)).trans this
       clear hb Hp Hq HA
       go_wp2
       refine hK.out _ _ (Hf.out _ HO.out) λhQ=>?_;clear hK K;refine rd 11 λK hK=>?_;rw [if_pos (by rfl)]
       refine wp_append_lies (o := { dst := some 50, op := Op.call { callee := Callee.builtin Builtin.append, args := #[Operand.tmp 47, Operand.tmp 49], argTypes := #[70, 70] }, type := 70, pos := "ostler.go:76", after := #[{ on := 8, ground := Ground.data }, { on := 10, ground := Ground.data }, { on := 8, ground := Ground.chain }], guard := none }) _ _ _ 70 rfl Z5.heap.size 47 i0 (.agg #[.string ByteArray.empty, .int .i64 0, .slice none 0 0]) 3 48 underlying70 hi Ji Jy Jo rfl (by decide) (.slice va l.length vc) _ _ rfl Jz.out ⟨_, 0, none⟩ 1 1 (dH (⟨p.nm, p.pr, []⟩, .slice ca p.cs.length cc)) rfl rfl JL.out (oE _ _ _ _ _) (by decide) (by unfold maxLen; omega) (by omega) (by have := hV.out.size; omega) P6.heap.size rfl ?_
       intro g' cap' W4 Hb Ha hR HS;have HU:∀ j,(Value.slice va l.length vc).ownBlock=some j->Z5.heap.size<=j:=λj hj=>(Jz.out.lt j hj).1
       have HB:Hid (Below X.heap.size X W4):=HO.out.grown Ha HO.out.size (λj hj=>by have:=HU j hj;omega);have je:Hid (Below Z5.heap.size Z5 W4):=hV.out.grown Ha hV.out.size λj hj=>HU j hj;have Jg:Hid (du W4 (.slice (some ⟨g',0,none⟩) (l.length+1) cap') (t.hs.map Hd.pod++[p])):=pf (base:=Z5.heap.size) ⟨l++[(p,.slice ca p.cs.length cc)],by rw [Qj,ji.out];rfl,by rw [oC,Q2];exact Hb,λx hx=>by
        rcases Qi.1 hx with hx|hx
        ·exact (jk.out x hx).below je.out
        ·rw [Qm.1 hx];exact ho.out.below HB.out⟩
       clear Hb Ha hR HS HU;refine hK.out _ _ (Hf.out _ HB.out) λhQ=>?_;clear hK K;(try simp only [Act.put,s1,s2,s3]);refine rd 12 λK hK=>?_;go_simp
       go_wp2_with fail
       refine (rF (.pointer (some ⟨tb,0,none⟩)) t.m.op t.m.nd t.m.nb t.m.pol _ (t.hs.map Hd.pod++[p]) W4 Jg.out hI hO.out hH HN.out).mono ?_;rintro e Q8 ⟨rfl,hb⟩;have Hi:=qI (HB.out.trans (hb.mono HB.out.size));clear hb
       go_wp2
       refine hK.out _ _ (Hf.out _ Hi.out) λhQ=>?_;clear hK K;refine tk 13 ?_;refine Qn (by kernel_rfl) ?_ _;clear hQ
       go_wp2
       go_meet
       exact ⟨by unfold Ol.room;rw [Bool.not_and],Hi.out⟩
     case rest=>
      clear hO hI HN;obtain ⟨rfl,Hm⟩:=hcut;have Hk:=qI Hm;clear Hm Hu;generalize wc=W5 at *
      rcases two (Ol.room t.m (t.hs.map Hd.pod++[p])) with hr|hr
      ·have HR:=qI hr;rw [hr];clear hr;have x7:W5.cell? ⟨Ba,7,none⟩=some (.slice ha t.hs.length hc):=(Hf.out _ Hk.out).2.2.2.2.2.1;have h7:=qI (sB Ba tb t.m Bd Be (.slice ha t.hs.length hc) s.cp pb db ao pc t.ds s.us (.slice ha t.hs.length hc) t.hs W5 (Hr.out.below Hk.out) (J4.out.below Hk.out) he.out (hJ.out.below Hk.out) hH hk.out (by omega));rw [Hv.out] at h7
       go_wp2_with fail
       refine h7.out.mono ?_;rintro e W6 ⟨⟨pb',db',ao',pc',rfl,HJ,JO,hD⟩,Ja⟩;have jE:X.heap.size<=W5.heap.size:=Hk.out.size;have hw:=qI HJ;have HO:=qI (Hk.out.trans (Ja.mono Hk.out.size));have JS:=HJ.pool.lt;have Jc:=qI hD;have jx:=Ja.size;clear Ja HJ hD h7 x7;unfold sV;dsimp only;have H5:=qI (HO.out.alloc HO.out.size (nC s pb'));have hA:=qI ((Q0 W6.heap.size W6).alloc (lR) (nC s pb'));have HV:=qI (Hr.out.below H5.out);have hP:=qI ((H5.out.block w.heap.size (by omega)).trans hF.out);have hX:=qI (aD W6 (nC s pb') rfl);have ju:(W6.alloc (nC s pb')).heap.size=W6.heap.size+1:=by simp
       have hy:=qI (hw.out.below hA.out)
       go_upto_region 12 with fail
       generalize (W6.alloc (nC s pb'))=Y at *;have hW:Hid (∀ W,Below Y.heap.size Y W->(zS Ba tb t w.heap.size p ca cc W6.heap.size s pb') W):=λW hb=>⟨aa ((hb.block (Ba) (by omega)).trans HV.out) 0,aa ((hb.block (Ba) (by omega)).trans HV.out) 1,aa ((hb.block (Ba) (by omega)).trans HV.out) 2,aa ((hb.block (Ba) (by omega)).trans HV.out) 3,aa ((hb.block (Ba) (by omega)).trans HV.out) 4,aa ((hb.block (w.heap.size) (by omega)).trans hP.out) 0,aa ((hb.block (w.heap.size) (by omega)).trans hP.out) 1,aa ((hb.block (w.heap.size) (by omega)).trans hP.out) 2,aa ((hb.block (W6.heap.size) (by omega)).trans hX.out) 0,aa ((hb.block (W6.heap.size) (by omega)).trans hX.out) 1⟩
       go_cut [10,11] (λx10 x11 wd=>∃ ua un uc,x10=.slice ua un uc/\x11=au ((Ol.give t.m s p).1:Nat)/\((Ol.give t.m s p).1=0->bz (fresh X.heap.size wd) (.slice ua un uc) (Ol.give t.m s p).2)/\Below X.heap.size X wd)
       case first=>
        have Hc:Hid (Below Y.heap.size Y Y.drew):=a6 (Q0 _ _);refine Qo (by kernel_rfl) (hW.out _ Hc.out) λhQ=>?_;generalize Y.drew=V at *;refine tk 0 ?_;refine tk 1 ?_;refine tk 2 ?_;refine tk 3 ?_;refine tk 4 ?_;refine tk 5 ?_;refine rd 6 λK hK=>?_;go_simp
        go_wp2_with fail
        have hL:=qI (H5.out.trans (Hc.out.mono H5.out.size));have jF:=Hc.out.size;refine (Lt t.m s tb b 0 tc pb' db' ao' pc' p (.slice ca p.cs.length cc) V (L4 J5.out hL.out (by omega)) (hy.out.below Hc.out) (ho.out.le (mx hL.out rfl (λj hj=>by omega))) He.out).mono ?_;rintro e V2 ⟨⟨ua,un,uc,rfl,hf⟩,Hn⟩;have HY:Hid ((Ol.give t.m s p).1=0->bz (fresh X.heap.size V2) (.slice ua un uc) (Ol.give t.m s p).2):=λh=>(hf h).le (lm (λ_ _ _=>rfl) (lR) (by omega))
        have J2:Hid (Below X.heap.size X V2):=hL.out.grown Hn hL.out.size (λj hj=>by injection hj with hj;omega);have Jq:(zS Ba tb t w.heap.size p ca cc W6.heap.size s pb') V2:=by
         obtain ⟨q0,q1,q2,q3,q4,q5,q6,q7,q8,q9⟩:=hW.out _ Hc.out;have Hs:∀ j,j<X.heap.size\/j=W6.heap.size->some j≠some pb':=λj hj e=>by injection e with e;omega
         exact ⟨(Hn.cell_far ⟨Ba,0,none⟩ (by show Ba<_;omega) (Hs (Ba) (by omega))).trans q0,(Hn.cell_far ⟨Ba,1,none⟩ (by show Ba<_;omega) (Hs (Ba) (by omega))).trans q1,(Hn.cell_far ⟨Ba,2,none⟩ (by show Ba<_;omega) (Hs (Ba) (by omega))).trans q2,(Hn.cell_far ⟨Ba,3,none⟩ (by show Ba<_;omega) (Hs (Ba) (by omega))).trans q3,(Hn.cell_far ⟨Ba,4,none⟩ (by show Ba<_;omega) (Hs (Ba) (by omega))).trans q4,(Hn.cell_far ⟨w.heap.size,0,none⟩ (by show w.heap.size<_;omega) (Hs (w.heap.size) (by omega))).trans q5,(Hn.cell_far ⟨w.heap.size,1,none⟩ (by show w.heap.size<_;omega) (Hs (w.heap.size) (by omega))).trans q6,(Hn.cell_far ⟨w.heap.size,2,none⟩ (by show w.heap.size<_;omega) (Hs (w.heap.size) (by omega))).trans q7,(Hn.cell_far ⟨W6.heap.size,0,none⟩ (by show W6.heap.size<_;omega) (Hs (W6.heap.size) (by omega))).trans q8,(Hn.cell_far ⟨W6.heap.size,1,none⟩ (by show W6.heap.size<_;omega) (Hs (W6.heap.size) (by omega))).trans q9⟩
        clear Hn hf
        go_wp2
        refine hK.out _ _ Jq λhQ=>?_;clear hK K;clear Jq;refine tk 7 ?_;refine tk 8 ?_;refine tk 9 ?_;refine tk 10 ?_;refine tk 11 ?_;refine Qn (by kernel_rfl) ?_ _;clear hQ
        go_wp2
        go_meet
        exact ⟨_,_,_,rfl,rfl,HY.out,J2.out⟩
       case rest=>
        obtain ⟨ua,un,uc,rfl,rfl,hf,Hm⟩:=hcut;have HB:=qI Hm;have HY:=qI hf;have jG:X.heap.size<=wc.heap.size:=Hm.size;clear Hm hf hW hy hX hP HV hA H5 HO hw Jc;generalize wc=W7 at *
        by_cases hG:(Ol.give t.m s p).1=0
        ·have HG:=qI hG;have HY:=qI (HY.out hG);rw [hG,show au (((0:Nat)):Int)=.nilIface from rfl];clear hG;have Hz:=qI (LZ H4.out Hv.out He.out HH.out Hh HG.out)
         go_upto_region 15 with fail
         go_cut [12] (λx12 wd=>∃ va vn vc,x12=.slice va vn vc/\aJ (ag (four N Ba Bd Bm) wd) (.slice va vn vc) (Ol.bB t.hs ⟨p,(Ol.give t.m s p).2⟩)/\Below X.heap.size X wd)
         case first=>
          have Hc:Hid (Below X.heap.size X W7.drew):=a6 HB.out;have J9:Hid (bz (fresh X.heap.size W7.drew) (.slice ua un uc) (Ol.give t.m s p).2):=HY.out.le (xE (a6 (Q0 _ _)) (lR));refine Qo (by kernel_rfl) (Hf.out _ Hc.out) λhQ=>?_;generalize W7.drew=V at *;refine tk 0 ?_;refine tk 1 ?_;refine tk 2 ?_;refine tk 3 ?_;refine tk 5 ?_;refine tk 6 ?_;refine tk 8 ?_;refine rd 4 λK hK=>?_;go_simp
          go_wp2_with fail
          refine (xG (.slice ha t.hs.length hc) t.hs V (ag (four N Ba Bd Bm) w) JI.out ((cC _ _).trans (aq.of_below (Hg.out _ Hc.out))) (by omega)).mono ?_;rintro e C1 ⟨u,cvv,gvv,rfl,hC,Js,hb⟩;obtain ⟨l,Hp,Hq,HA⟩:=zF hC Js;obtain ⟨va,vc,hu⟩:=fF Hq;subst hu;have jD:l.length<=12:=by have:=congrArg List.length Hp;simp at this;omega
          have HL:=qI Hp;have HI:=qI HA;have Jn:=qI hb;have HC:=qI (Hc.out.trans (hb.mono Hc.out.size));have hm:Hid (∀ j,(Value.slice va l.length vc).ownBlock=some j->V.heap.size<=j/\j<C1.heap.size):=λj hj=>Hq.lt j hj
          have jf:=qI Hq;have jv:=Hc.out.size;have jC:=hb.size;clear hC Js hb Hp Hq HA
          go_wp2
          refine hK.out _ _ (Hf.out _ HC.out) λhQ=>?_;clear hK K;refine rd 7 λK hK=>?_;go_simp
          go_wp2_with fail
          refine (yw p.nm p.pr p.cs (.slice ca p.cs.length cc) C1 (ho.out.below HC.out) (by have:=(Sv.fD He.out).2.2.1;omega) (λq hq=>by have:=((Sv.fD He.out).2.2.2 (ct p.cs q) (Ost.dX _ _ _ hq)).2.2.2.2.2.1;omega)).mono ?_;rintro e C2 ⟨pa,pcc,rfl,JF,Hy⟩;have HD:=qI (HC.out.trans (Hy.mono HC.out.size));have JA:=qI (Jn.out.trans (Hy.mono Jn.out.size));have jp:=qI JF;have h2:=qI (m8 jf.out λg hg=>Hy.block g (hm.out g hg).2);have jB:=Hy.size;clear JF Hy
          go_wp2
          refine hK.out _ _ (Hf.out _ HD.out) λhQ=>?_;clear hK K;refine tk 9 ?_;have H7:=qI (HD.out.alloc HD.out.size (kG p pa pcc ua un uc));have Jx:=qI (JA.out.alloc JA.out.size (kG p pa pcc ua un uc));have JQ:=qI (aD C2 (kG p pa pcc ua un uc) rfl);have Jp:=qI (zl C2 (⟨p,(Ol.give t.m s p).2⟩,.slice pa p.cs.length pcc,.slice ua un uc) 57);dsimp only at Jp;have JG:Hid ((C2.alloc (kG p pa pcc ua un uc)).heap.size=C2.heap.size+1):=by unfold Hid;simp
          have h6:=qI (h2.out.alloc (kG p pa pcc ua un uc));have J6:=qI ((Q0 C2.heap.size C2).alloc (lR) (kG p pa pcc ua un uc));refine rd 10 λK hK=>?_;go_simp
          go_wp2
          refine hK.out _ _ (Hf.out _ H7.out) λhQ=>?_;clear hK K;generalize C2.alloc (kG p pa pcc ua un uc)=C3 at *;refine rd 11 λK hK=>?_;go_simp
          go_wp2_with fail
          refine (h5.out l HL.out V.heap.size (.slice va l.length vc) (⟨p,(Ol.give t.m s p).2⟩,.slice pa p.cs.length pcc,.slice ua un uc) ⟨C2.heap.size,0,none⟩ C3 h6.out Jp.out (sE _ _ _ _ _ _ _) (by have:=JG.out;omega) (λe=>by have:=(hm.out _ e).2;have e':C2.heap.size<C1.heap.size:=this;omega) ⟨_,_,JQ.out⟩ λx hx=>L6 (HI.out x hx)).mono ?_;rintro e C4 ⟨v',rfl,Hb,Ha⟩;obtain ⟨va',vc',jh⟩:=fF Hb;subst jh;have Je:Hid (Below X.heap.size X C4):=H7.out.grown Ha H7.out.size (λj hj=>by have:=(hm.out j hj).1;omega);have Jr:Hid (Below V.heap.size V C4):=Jx.out.grown Ha Jx.out.size λj hj=>(hm.out j hj).1;have HZ:Hid (aJ (ag (four N Ba Bd Bm) C4) (.slice va' (l.length+1) vc') (Ol.bB t.hs ⟨p,(Ol.give t.m s p).2⟩)):=by
           have jt:=Ha.size;have jz:=JG.out;have q1:aE (ag (four N Ba Bd Bm) C4) (.slice pa p.cs.length pcc) p.cs:=jp.out.le (bE (λj hj hn=>by
            have hn:¬ j<C1.heap.size:=hn;refine ⟨λe=>by have:=Jf.out j e;omega,(Ha.block j (by omega) (λe=>by have:=(hm.out j e.symm).2;omega)).trans (J6.out.block j hj)⟩) (by omega))
           have q2:bz (ag (four N Ba Bd Bm) C4) (.slice ua un uc) (Ol.give t.m s p).2:=J9.out.le (bE (λj hj hn=>by
            have hn:¬ j<X.heap.size:=hn;exact ⟨λe=>by have:=Jf.out j e;omega,Jr.out.block j hj⟩) Jr.out.size)
           have:=L7 (y:=(⟨p,(Ol.give t.m s p).2⟩,.slice pa p.cs.length pcc,.slice ua un uc)) Hb Jf.out (by omega) HI.out (Hg.out _ Je.out) q1 q2
           rw [HL.out] at this;exact this
          clear Hb Ha
          go_wp2
          refine hK.out _ _ (Hf.out _ Je.out) λhQ=>?_;clear hK K;refine tk 12 ?_;refine Qn (by kernel_rfl) ?_ _;clear hQ
          go_wp2
          go_meet
          exact ⟨_,_,_,rfl,HZ.out,Je.out⟩
         case rest=>
          obtain ⟨va,vn,vc,rfl,Jj,Hm⟩:=hcut;have HZ:=qI Jj;have Hi:=qI Hm;have jw:X.heap.size<=wc.heap.size:=Hm.size;clear Jj Hm HY HB;generalize wc=W8 at *;have HF:=qI Hz.out.1;have H6:=qI (xl Ho.out HF.out);have x5:W8.cell? ⟨Ba,5,none⟩=some (.pointer (some ⟨Bd,0,none⟩)):=aa ((Hi.out.block Ba (by omega)).trans Hr.out) 5;have js:Hid (bf W8 Bd dk):=yE (HE.out.below (Hg.out _ Hi.out)).disk Ho.out;have hN:=qI (xi Bd dk (.slice va vn vc) (Ol.bB t.hs ⟨p,(Ol.give t.m s p).2⟩) W8 js.out (.inl Ho.out.2.2) (HZ.out.le (cC _ _)) (HT.out.below (Hg.out _ Hi.out)))
          by_cases hlong:6000<(aF (Ol.bB t.hs ⟨p,(Ol.give t.m s p).2⟩)).length
          ·rw [H6.out.2.1 hlong,show au (((2:Nat)):Int)=.iface 121 (.int .i64 2) from rfl] at hN;have hl:=qI hlong;clear hlong
           go_wp2_with fail
           refine hN.out.mono ?_;rintro e W9 ⟨rfl,H0,Ht⟩;have JE:=qI H0;have HM:=qI Ht;clear H0 Ht x5
           go_wp2
           go_ret;exact ⟨by rw [zC He.out HH.out Hh HR.out Hv.out HG.out hl.out];rfl,L8 HP.out (Hg.out _ Hi.out) HM.out JE.out H6.out.2.2 (zC He.out HH.out Hh HR.out Hv.out HG.out hl.out)⟩
          ·rw [H6.out.1 (by omega),show au (((0:Nat)):Int)=.nilIface from rfl] at hN;have hl:=qI hlong;clear hlong
           go_wp2_with fail
           refine hN.out.mono ?_;rintro e W9 ⟨rfl,H0,Ht⟩;have JE:=qI H0;have HM:=qI Ht;have jJ:=Ht.size;have J7:w.heap.size<=W8.heap.size:=(Hg.out _ Hi.out).size;have JW:Hid (bw W9 Be Bd Bm n (dk.save (Ol.bB t.hs ⟨p,(Ol.give t.m s p).2⟩)).2.n (dk.save (Ol.bB t.hs ⟨p,(Ol.give t.m s p).2⟩)).2.k λa=>a∈ap t.hs):=sI (HE.out.below (Hg.out _ Hi.out)) Ht H0 H6.out.2.2;have JM:Hid (aJ (ag (gk Bd Bm) W9) (.slice va vn vc) (Ol.bB t.hs ⟨p,(Ol.give t.m s p).2⟩)):=HZ.out.le (bE (λj hj hn=>⟨λe=>hn (.inr (.inr e)),Ht.block j hj λe=>hn (.inr (.inr (.inl (by injection e))))⟩) Ht.size);have Jw:Hid (bg W9 Ba tb t.m Bd Be (.slice ha t.hs.length hc) s.cp pb):=(Ht.block Ba (by omega) λe=>ab1 (by injection e)).trans (Hr.out.below Hi.out);have x6:W9.cell? ⟨Ba,6,none⟩=some (.pointer (some ⟨Be,0,none⟩)):=aa Jw.out 6;have jb:=qI (so Be Bd Bm n (dk.save (Ol.bB t.hs ⟨p,(Ol.give t.m s p).2⟩)).2.n (dk.save (Ol.bB t.hs ⟨p,(Ol.give t.m s p).2⟩)).2.k (ap t.hs) (.slice va vn vc) (Ol.bB t.hs ⟨p,(Ol.give t.m s p).2⟩) W9 JW.out JM.out HF.out hn);clear H0 Ht x5
           go_wp2_with fail
           refine jb.out.mono ?_;rintro e W10 ⟨rfl,⟨n',Jv,H3⟩,Hl⟩;have h4:=qI H3;have H2:Hid (bg W10 Ba tb t.m Bd Be (.slice ha t.hs.length hc) s.cp pb):=(Hl.block Ba (by omega) ab1 ab2).trans Jw.out;have ja:=Hl.size;have Jh:=qI Hl;have J1:=qI Jv;have hS:=hU.out.pool.lt;have H9:Hid (∀ j,j<w.heap.size->¬ (four N Ba Bd Bm) j->W10.heap[j]?=w.heap[j]?):=λj hj hn=>(Hl.block j (by omega) (λe=>hn (.inr (.inr (.inl e)))) λe=>hn (.inr (.inr (.inr e)))).trans ((HM.out.block j (by omega) λe=>hn (.inr (.inr (.inl (by injection e))))).trans ((Hg.out _ Hi.out).block j hj))
           have hs:Hid (ak W10 pb db ao pc t.ds s.us):=by
            have:=lE hU.out.pool (H9.out pb hS Ju.out) (λh0=>H9.out db (hU.out.pool.at0 h0).2.2 (Jk.out h0)) (by omega)
            rw [Ol.iO Hv.out] at this;exact this
           have Jb:Hid (aJ (ag (λj=>j=Ba) W10) (.slice va vn vc) (Ol.bB t.hs ⟨p,(Ol.give t.m s p).2⟩)):=HZ.out.le (bE (λj hj hn=>⟨λe=>hn (.inr (.inl e)),(Hl.block j (by omega) (λe=>hn (.inr (.inr (.inl e)))) λe=>hn (.inr (.inr (.inr e)))).trans (HM.out.block j hj λe=>hn (.inr (.inr (.inl (by injection e)))))⟩) (by omega));obtain ⟨s',hY⟩:=Hz.out.2.1;have JD:=qI hY;have H1:jK (Ol.bB t.hs ⟨p,(Ol.give t.m s p).2⟩):=(Ol.bO.1 HF.out).2.1;have Hw:(Ol.bB t.hs ⟨p,(Ol.give t.m s p).2⟩).length<=100:=by have:=(Ol.bO.1 HF.out).1;omega
           have JT:=qI (sC Ba tb t.m Bd Be (.slice ha t.hs.length hc) s.cp pb db ao pc t.ds s.us (.slice va vn vc) (Ol.bB t.hs ⟨p,(Ol.give t.m s p).2⟩) s' W10 H2.out ⟨_,_,_,rfl⟩ hs.out (λe=>Ju.out (.inr (.inl e))) (λh0 e=>Jk.out (by rw [Ol.iO Hv.out];exact h0) (.inr (.inl e))) he.out Jb.out hH H1 Hw hY);clear H3 Hl Jv x6 hY H1 Hw
           go_wp2_with fail
           refine JT.out.mono ?_;have hz:Hid (w.heap.size<=W10.heap.size):=(((Apart.of_below (Hg.out _ Hi.out)).trans (eu HM.out (K:=three Ba Bd Bm) λj e _=>.inr (.inl (by injection e with e;exact e.symm)))).trans (sH Jh.out)).size;rintro e W11 ⟨rfl,⟨pb2,db2,ao2,c2,hZ,Jd,JC,h9⟩,Hj⟩;have h8:Hid (aK W11 N Ba Bd Be Bm ⟨t.m,t.ds,(Ol.bB t.hs ⟨p,(Ol.give t.m s p).2⟩)⟩ (dk.save (Ol.bB t.hs ⟨p,(Ol.give t.m s p).2⟩)).2 n'):=HP.out.next (Hg.out _ Hi.out) (nw jd.out hB.out (λj hj hn=>(Hg.out _ Hi.out).block j hj) J7) hB.out HZ.out HM.out Jh.out Hj hZ Jd JC h9 h4.out H2.out ⟨H4.out.devs,HF.out,⟨_,JD.out⟩⟩ JD.out H6.out.2.2 (by have:=hl.out;omega);have JN:Hid (fK w W11 Ba):=.inr (sD hZ Jd (by have:=hz.out;omega) (λh0=>by have:=hz.out;have:=h9 h0;omega));have J3:Hid (Apart (three Ba Bd Bm) w W11):=(((Apart.of_below (Hg.out _ Hi.out)).trans (eu HM.out λj e _=>.inr (.inl (by injection e with e;exact e.symm)))).trans (sH Jh.out)).trans ⟨Hj.os,Hj.tape,Hj.output,Hj.size,λj hj hn=>Hj.block j hj λe=>hn (.inl e)⟩;clear hZ Jd JC h9 Hj
           go_wp2
           go_ret;have H8:=L0 He.out HH.out Hh HR.out Hv.out HG.out hl.out;exact ⟨by rw [H8];rfl,by rw [H8];exact ⟨_,n',⟨J1.out,JN.out⟩,h8.out⟩,J3.out⟩
        ·have HG:=qI hG;rw [eh hG];clear hG
         go_wp2
         go_ret;exact ⟨by rw [zB He.out HH.out Hh HR.out Hv.out HG.out,eh HG.out];rfl,ny HP.out (Hg.out _ HB.out) (zB He.out HH.out Hh HR.out Hv.out HG.out)⟩
      ·have HR:=qI hr;rw [hr];clear hr
       go_wp2
       go_ret;exact ⟨by rw [oT He.out HH.out Hh HR.out];rfl,ny HP.out (Hg.out _ Hk.out) (oT He.out HH.out Hh HR.out)⟩
 ·have He:=qI hpF;rw [eh hpF];clear hpF
  go_wp2
  go_ret;exact ⟨by rw [zx He.out,eh He.out];rfl,ny HP.out (Hg.out _ HX.out) (zx He.out)⟩
end
