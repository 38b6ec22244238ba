import Derived.Test.YtjlblidnfebmiaaGreatDoorE43
import Derived.Test.YtjlblidnfebmiaaGreatDoorE41
set_option maxRecDepth 100000
set_option maxHeartbeats 16000000
open Go Go.RowKit Go.Shelf
attribute [local go_sem] Oper.semAt_some
open Go.Proofs.Tryz
namespace Go.Proofs.YtjlblidnfebmiaaGreatDoor
variable {F0 W W':World} {K:Nat->Prop} {hs:List ad}
structure Fg (x:aA) (g:aP):Prop where
 sum:∀ j,j<=x.ds.length->0<=iy x.ds j/\iy x.ds j<=1000
 many:iy x.ds x.ds.length=g.dv.length
 few:x.ds.length<=1000
 devs:g.dv.length<=16
 am:0<=x.am/\x.am<=1000000
theorem rC (h:aM F0 W) (a:Apart K W W') (f:∀ j o,K j->F0.cell? ⟨j,o,none⟩=none):aM F0 W':=
 ⟨Q5 h.size a.size,λb o v e=>by
  have c:=h.cell b o v e
  by_cases d:K b
  ·rw [f b o d] at e;cases e
  ·exact (ot (a.block b (Q3 W ⟨b,o,none⟩ c) d) o).trans c⟩
theorem Fh {B:Nat} {f:Nat->Bool} (h:cS W B f) (d:Apart K W W') (c:¬ K B):cS W' B f:=λj b=>by
 have a:=d.block B h.lt c;refine ⟨(ot a _).trans (h j b).1,?_⟩
 have:=(h j b).2
 unfold World.frozen? at *;dsimp only at *;rw [a];exact this
theorem UQ {base:Nat} (h:F0.heap.size<=base) {j:Nat} (a:base<=j) (o:Nat):F0.cell? ⟨j,o,none⟩=none:=by
 cases e:F0.cell? ⟨j,o,none⟩ with
 | none=>rfl
 | some v=>
  have:=Q3 F0 ⟨j,o,none⟩ e
  have:j<F0.heap.size:=this
  omega
abbrev rD:=λ(x0:ad) (x1:Option Addr) (x2:Nat)=>(.cells #[.string x0.pod.nm,.int .i64 x0.pod.pr,.slice x1 x0.pod.cs.length x2] 49:Obj)
theorem UR (c2 T j4 j5 j3 j2:Value) (F:Nat->Value) (p X:World) (base d g N I u V i:Nat) (O:Option Addr) (wc:Nat) (x:ad) (pa ga:Option Addr) (n gc:Nat) (ds:List ah) (S:Nat->aB) (Y:Value) (E:List (RV × Rn)) (rp:List Rn)
  (hle:aM p X) (j1:p.heap.size<=base) (Zh:base<=X.heap.size) (Zc:base<=d) (Zb:g<base) (s:∀ o,p.cell? ⟨g,o,none⟩=none) (R:X.heap[d]?=some (.cells #[.string x.pod.nm,.int .i64 x.pod.pr,.slice pa x.pod.cs.length n] 49)) (w:aZ p (.slice pa x.pod.cs.length n) x.pod.cs) (j0:p.cell? ⟨N,I+i*4+3,none⟩=some (.slice ga x.gs.length gc)) (J:cq p (.slice ga x.gs.length gc) x.gs) (Jx:x.gs.length=x.pod.cs.length) (h3:x.gs.length<=3) (hi:i<u) (_hhl:u<=100)
  (hS:∀ k,k<x.gs.length->DA ds (S k) (aq x.gs k) (bL x.pod.cs (ae x.pod.cs k).am) (S (k+1))) (H:∀ k,k<=x.gs.length->(S k).cp<18446744073709551616) (hN:∀ k,k<x.gs.length->Fg (ae x.pod.cs k) (aq x.gs k)) (j6:ds.length<=16)
  (M:E.map Prod.snd=rp) (Za:E.length<=200) (D:cP base X Y (E.map Prod.fst)) (t:∀ z∈E,kI p z) (y:cS X g (S 0).us) :
  Code.wp prog (Code.loop (jA 1)) (ov 2 λa w'=>∃ (Z:Value) (c:List (RV × Rn)),FrS (λF=>frS c2 (.int .u64 ((S x.gs.length).cp:Nat)) T (.slice O ds.length wc) (.pointer (some ⟨g,0,none⟩)) (.slice (some ⟨N,I,none⟩) u V) (Z) (.int .i64 (i:Nat)) (F 14) (F 16) (F 17) (F 18) (F 19) (F 20) F) (λW'=>(c.map Prod.snd=rp++(List.range x.gs.length).map (kH x)/\c.length=E.length+x.gs.length)/\cP base W' Z (c.map Prod.fst)/\(∀ z∈c,kI p z)/\cS W' g (S x.gs.length).us/\Apart (λj=>j=g\/base<=j) X W') a w') (frS c2 (.int .u64 ((S 0).cp:Nat)) T (.slice O ds.length wc) (.pointer (some ⟨g,0,none⟩)) (.slice (some ⟨N,I,none⟩) u V) (Y) (.int .i64 (i:Nat)) (.pointer (some ⟨d,0,none⟩)) (.int .i64 0) j4 j5 j3 j2 F) X:=by
 obtain ⟨In,Zg,hm,Ja,hE⟩:=J.parts;have HY:ga=In:=by injection hm with e
 subst HY;obtain ⟨Ix,Zi,hw,hW,hf⟩:=id w;have HV:pa=Ix:=by injection hw with e
 subst HV;have hX:=qI hle;have H5:=qI s;have hL:=qI R;have H4:=qI w;have hI:=qI j0;have h8:=qI hE;have h9:=qI hf;have HS:=qI hS;have HW:=qI H;have h5:=qI hN;have HM:=qI Jx;have HZ:Hu (E.map Prod.snd=rp++(List.range 0).map (kH x)):=by unfold Hu;rw [M];simp
 have HU:=qI D;have h7:=qI t;have hJ:=qI y;have hO:d<X.heap.size:=(gS R).1;clear hm Ja hE hw hW hf hle s R w j0 J hS H hN Jx M D t y
 conv=>enter [2,1];unfold jA;whnf
 refine yf (λm a wq=>∃ (k:Nat) (c:List (RV × Rn)) (lv Z kv:Value),m+k=x.gs.length/\kv=.int .i64 k/\lv=.int .u64 ((S k).cp:Nat)/\FrS (λF=>frS c2 (lv) T (.slice O ds.length wc) (.pointer (some ⟨g,0,none⟩)) (.slice (some ⟨N,I,none⟩) u V) (Z) (.int .i64 (i:Nat)) (.pointer (some ⟨d,0,none⟩)) (kv) (F 17) (F 18) (F 19) (F 20) F) (λwq=>c.map Prod.snd=rp++(List.range k).map (kH x)/\c.length=E.length+k/\cP base wq Z (c.map Prod.fst)/\(∀ z∈c,kI p z)/\cS wq g (S k).us/\Apart (λj=>j=g\/(base<=j/\j≠d)) X wq) a wq) x.gs.length ?_ ?_
 ·exact ⟨0,E,.int .u64 ((S 0).cp:Nat),Y,.int .i64 0,rfl,rfl,rfl,FrS.mk (by kernel_rfl) ⟨HZ.o,rfl,HU.o,h7.o,hJ.o,Apart.refl _ _⟩⟩
 ·rintro m a wr ⟨k,c,lv,Z,kv,Jg,rfl,rfl,F5,rfl,hq,hG,HH,t,hB,HD⟩ K hK;have hk:k<=x.gs.length:=by omega
  simp only [frS,tlS,Nat.reduceAdd];(try dsimp only);have H8:wr.heap[d]?=some (.cells #[.string x.pod.nm,.int .i64 x.pod.pr,.slice pa x.pod.cs.length n] 49):=(HD.block d hO (by rintro (e|⟨_,e⟩);omega;exact e rfl)).trans hL.o;have he:aM p wr:=rC hX.o HD (λj o e=>by rcases e with e|e;rw [e];exact H5.o o;exact UQ j1 e.1 o);have H6:=qI HD;have HL:=qI hB;have hA:=qI hq;have Hh:=qI t;have hF:=qI hG;have hP:=HD.size;have hR:c.length<=203:=by omega
  obtain ⟨C,vc,hv⟩:=fj HH;rw [Q9] at hv;subst hv;have HR:=qI HH;have HG:=qI he;have H3:=qI H8;have b2:wr.cell? ⟨d,2,none⟩=some (.slice pa x.pod.cs.length n):=aa H8 2;clear HD hB hq t HH hG he H8
  by_cases P:k<x.gs.length
  ·have Hp:k<x.pod.cs.length:=by have:=HM.o;omega
   obtain ⟨gb,Zf,Ze,HY,hM,g0,g1,Ha⟩:=h8.o k P;subst HY;obtain ⟨cb,co,Zd,HV,Hb⟩:=h9.o (by omega);subst HV;obtain ⟨na,nc,H9,Hv⟩:=(Hb.2 k Hp).2;obtain ⟨A,L,hg,h4,ht⟩:=id Ha;have Hl:=qI (HS.o k P);have He:=qI (h5.o k P);have hp:=HW.o k hk;have hc:=(HG.o.cell _ _ _ g0);rw [hg] at g1 Ha;have hh:=(HG.o.cell _ _ _ g1);have hH:=(HG.o.cell _ _ _ hI.o);have H0:=qI Ha;have hr:Hu (bO p (.slice na (ae x.pod.cs k).ds.length nc) (ae x.pod.cs k).ds):=by
    have:=(Hb.2 k Hp).2
    rw [H9] at this;exact this
   have hD:∀ j,j<6->p.cell? ⟨cb,co+k*6+j,none⟩=([.string (ae x.pod.cs k).nm,.int .i64 (ae x.pod.cs k).am,.int .i64 (ae x.pod.cs k).ab,.int .i64 (ae x.pod.cs k).cm,.int .i64 (ae x.pod.cs k).cb,.slice na (ae x.pod.cs k).ds.length nc]:List Value)[j]?:=by
    have:=(Hb.2 k Hp).1
    rw [H9] at this;exact this
   have hu:=qI hD;have H2:cb<base:=Q1 Hb.1 j1;have ha:Hu (∀ b o,A=some ⟨b,o,none⟩->0<(aq x.gs k).dv.length->b≠g):=λb o e h0 e2=>by
    obtain ⟨b',o',e3,_,e4⟩:=ht h0;rw [e] at e3;injection e3 with e3
    injection e3 with e5 e6
    subst e5 e6
    have:=e4 0 h0
    rw [e2,H5.o] at this;cases this
   have Ho:Hu (kH x k=⟨x.pod.nm,(ae x.pod.cs k).nm,((aq x.gs k).cp:Int),(aq x.gs k).dv⟩):=rfl;have Hi:(aq x.gs k).cp<18446744073709551616:=by
    have h1:=Hl.o.cp
    have:(aq x.gs k).cp &&& (S k).cp<=(S k).cp:=Nat.and_le_right
    rw [h1] at this;omega
   have HP:Hu ((S (k+1)).cp=aD (S k).cp (aq x.gs k).cp/\(S (k+1)).us=ci (S k).us (aq x.gs k).dv):=by
    unfold Hu;rw [Hl.o.next];exact ⟨rfl,rfl⟩
   have HI:=kY (S k).cp (aq x.gs k).cp hp Hi;rw [<- HP.o.1] at HI;clear hD Hb H9 Hv hg h4 ht Ha g0 g1;obtain ⟨f,hs⟩:∃ q,q=ae x.pod.cs k:=⟨_,rfl⟩;obtain ⟨l,hx⟩:∃ q,q=aq x.gs k:=⟨_,rfl⟩;rw [<- hs] at hr hu He Ho Hl;rw [<- hx] at H0 ha He Ho Hl HP HI hc hh Hi;clear hs hx;have H1:Hu (∀ W,aM p W->∀ j,j<6->W.cell? ⟨cb,co+k*6+j,none⟩=([.string f.nm,.int .i64 f.am,.int .i64 f.ab,.int .i64 f.cm,.int .i64 f.cb,.slice na f.ds.length nc]:List Value)[j]?):=λW u j hj=>by
    obtain ⟨v,hv⟩:∃ v,([.string f.nm,.int .i64 f.am,.int .i64 f.ab,.int .i64 f.cm,.int .i64 f.cb,.slice na f.ds.length nc]:List Value)[j]?=some v:=⟨_,Qf hj⟩;rw [hv];exact u.cell _ _ _ ((hu.o j hj).trans hv)
   have Je:(k:Int)<(x.gs.length:Int):=by omega
   have U:=qI ((Q0 wr.heap.size wr).alloc (lR) (.cells #[.int .u64 (l.cp:Nat),.slice A l.dv.length L] 123));have Hy:=qI (aU wr (.cells #[.int .u64 (l.cp:Nat),.slice A l.dv.length L] 123) rfl);obtain ⟨r,HN⟩:∃ B,B=wr.heap.size:=⟨_,rfl⟩;rw [<- HN] at Hy
   go_upto_region 23 with fail
   rw [<- HN];generalize wr.alloc (.cells #[.int .u64 (l.cp:Nat),.slice A l.dv.length L] 123)=Q at *;clear hc hh hH b2;have Hn:aM p Q:=HG.o.trans (aM.of_below U.o);have Hk:=qI Hn;have H7:d<wr.heap.size:=(gS H3.o).1;have Hc:=qI ((U.o.block d H7).trans H3.o);have Hf:=qI (H4.o.le Hn);clear Hn;have h6:r<Q.heap.size:=(gS Hy.o).1;have HO:d<Q.heap.size:=(gS Hc.o).1;have hY:d<r:=by omega
   have Jc:base<=r:=by omega
   have HE:=qI (HL.o.below U.o);have Hx:Hu (cP base Q (.slice C c.length vc) (c.map Prod.fst)):=kR HR.o U.o;have Hz:=qI (H6.o.trans (Apart.of_below U.o));have Jb:=U.o.size;have HK:x.pod.cs.length<=1000:=by have:=HM.o;omega
   clear HR H6 HL H3 U HN;refine uj (G:=(λF=>frS c2 (.int .u64 ((S k).cp:Nat)) T (.slice O ds.length wc) (.pointer (some ⟨g,0,none⟩)) (.slice (some ⟨N,I,none⟩) u V) (.slice C c.length vc) (.int .i64 (i:Nat)) (.pointer (some ⟨d,0,none⟩)) (.int .i64 (k:Nat)) (.pointer (some ⟨r,0,none⟩)) (F 18) (F 19) (F 20) F)) (by kernel_rfl) (λF1=>Ur _ _ _ _ _ _ _ _ _ _ F1 Q d r cb co n k l.cp (S k).cp l.dv.length A L x.pod f na nc Hc.o Hy.o Hp HK (H1.o Q Hk.o) Hf.o Hi hp Hl.o.cp Hl.o.cnt He.o.am.1 He.o.am.2) ?_;rintro a W1 ⟨F1,rfl,Hg⟩;have Hw:=qI ((Hg.block r h6).trans Hy.o);have HT:=qI ((Hg.block d HO).trans Hc.o);have Ht:=qI (Hk.o.trans (aM.of_below Hg));have HB:=qI (HE.o.below Hg);have Hm:Hu (cP base W1 (.slice C c.length vc) (c.map Prod.fst)):=kR Hx.o Hg;have Hq:=qI (Hz.o.trans (Apart.of_below Hg));have hZ:=Hg.size;have z0:W1.cell? ⟨r,0,none⟩=some (.int .u64 (l.cp:Nat)):=aa Hw.o 0;clear Hg Hy Hc Hk HE Hx Hz Hf;simp only [frB,tlS,Nat.reduceAdd];(try dsimp only)
   go_wp2_with fail
   clear z0 HI;refine pG (G:=(λF=>frS c2 (.int .u64 ((S (k+1)).cp:Nat)) T (.slice O ds.length wc) (.pointer (some ⟨g,0,none⟩)) (.slice (some ⟨N,I,none⟩) u V) (.slice C c.length vc) (.int .i64 (i:Nat)) (.pointer (some ⟨d,0,none⟩)) (.int .i64 (k:Nat)) (.pointer (some ⟨r,0,none⟩)) (.int .i64 0) (.int .i64 0) (F 20) F)) (by kernel_rfl) (λF2=>UP _ _ _ _ _ _ _ _ _ _ F2 W1 d cb co n k x.pod.cs.length na nc f.ds (aa HT.o 2) Hp HK (H1.o W1 Ht.o 5 (by decide)) (hr.o.le Ht.o) He.o.sum He.o.few) ?_;rintro a W2 ⟨F2,rfl,rfl⟩;rw [He.o.many];have z1:W2.cell? ⟨r,1,none⟩=some (.slice A l.dv.length L):=aa Hw.o 1;simp only [frS,tlS,Nat.reduceAdd];(try dsimp only)
   go_wp2_with fail
   clear z1;refine pG (G:=(λF=>frS c2 (.int .u64 ((S (k+1)).cp:Nat)) T (.slice O ds.length wc) (.pointer (some ⟨g,0,none⟩)) (.slice (some ⟨N,I,none⟩) u V) (.slice C c.length vc) (.int .i64 (i:Nat)) (.pointer (some ⟨d,0,none⟩)) (.int .i64 (k:Nat)) (.pointer (some ⟨r,0,none⟩)) (F 18) (F 19) (.int .i64 0) F)) (by kernel_rfl) (λF3=>Uq _ _ _ _ _ _ _ _ _ _ F3 W2 r g O ds.length wc A L l.dv (S k).us (aa Hw.o 1) (H0.o.le Ht.o) HB.o (by omega) ha.o He.o.devs j6 Hl.o.dv) ?_;rintro a W3 ⟨F3,rfl,hC,Hj⟩;have HF:Hu (cS W3 g (S (k+1)).us):=by unfold Hu;rw [HP.o.2];exact hC
   have HA:=qI ((Hj.block r (by omega) (by omega)).trans Hw.o);have Hs:=qI ((Hj.block d (by omega) (by omega)).trans HT.o);have hn:=qI (rC Ht.o Hj (λj o e=>by rw [e];exact H5.o o));have Hr:Hu (cP base W3 (.slice C c.length vc) (c.map Prod.fst)):=jV Hm.o Hj (λj e1 e2=>by have:=(Hm.o.lt j e1).1;omega);have HC:=qI (Hq.o.trans (Hj.wide λj e=>.inl e));have hU:=Hj.size;clear hC Hj Hw HT Ht HB Hm Hq;simp only [frS,tlS,Nat.reduceAdd];(try dsimp only)
   go_upto_region 39 with fail
   refine uj (G:=(λF=>frS c2 (.int .u64 ((S (k+1)).cp:Nat)) T (.slice O ds.length wc) (.pointer (some ⟨g,0,none⟩)) (.slice (some ⟨N,I,none⟩) u V) (.slice C c.length vc) (.int .i64 (i:Nat)) (.pointer (some ⟨d,0,none⟩)) (.int .i64 (k:Nat)) (.pointer (some ⟨r,0,none⟩)) (F 18) (F 19) (F 20) F)) (by kernel_rfl) (λF4=>Us _ _ _ _ _ _ _ _ _ _ F4 W3 base d r cb co n k l.cp l.dv.length A L x.pod f.nm C vc c Hs.o HA.o Hp HK (H1.o W3 hn.o 0 (by decide)) H2 Hr.o (by omega) (by omega)) ?_;rintro a W4 ⟨v',F4,rfl,hy,HJ⟩;have h2:=qI hy;have hT:=qI (HC.o.trans (HJ.wide λj e=>.inr e));have HX:=qI (Fh HF.o HJ (by omega));clear hy HJ HF HA Hs hn Hr HC;simp only [frS,tlS,Nat.reduceAdd];(try dsimp only)
   go_wp2_with fail
   refine hK.o _ _ ⟨m - 1,by omega,k+1,c++[(⟨x.pod.nm,f.nm,l.cp,A,l.dv.length,L⟩,⟨x.pod.nm,f.nm,l.cp,l.dv⟩)],.int .u64 ((S (k+1)).cp:Nat),v',.int .i64 ((k:Int)+1),by omega,?_,rfl,FrS.mk (by kernel_rfl) ⟨?_,by rw [Q2,hF.o];simp;omega,by rw [Qj];exact h2.o,λz M=>?_,HX.o,hT.o⟩⟩
   ·go_num
   ·rw [Qj,hA.o,List.range_succ,Qj,List.append_assoc,List.map_singleton,List.map_singleton,Ho.o]
   ·rcases Qi.1 M with M|M
    ·exact Hh.o z M
    ·rw [Qm.1 M];exact ⟨rfl,rfl,rfl,H0.o⟩
  ·have Jd:k=x.gs.length:=by omega
   subst Jd;have hV:¬ ((x.gs.length:Int)<(x.pod.cs.length:Int)):=by have:=HM.o;omega
   have Jh:decide ((x.gs.length:Int)<(x.pod.cs.length:Int))=false:=Q7 hV;have Jf:¬ (x.gs.length<x.pod.cs.length):=by omega
   go_wp2
   exact ⟨rfl,_,c,FrS.mk (by kernel_rfl) ⟨⟨hA.o,hF.o⟩,HR.o,by first|exact Hh.o|exact λa b h=>Hh.o (a,b) h,HL.o,H6.o.wide λj e=>e.imp id (·.1)⟩⟩
theorem US {K':Nat->Prop} {A B C:World} (h:Apart K A B) (a:Apart K' B C) (d:∀ j,j<A.heap.size->K' j->K j):Apart K A C:=
 ⟨a.os.trans h.os,a.tape.trans h.tape,a.output.trans h.output,Q5 h.size a.size,λj b c=>(a.block j (Q1 b h.size) λe=>c (d j b e)).trans (h.block j b c)⟩
theorem UT {m:aF} {ds:List ah} {s:aB} (h:aW m ds hs=some s) (d:m.op<18446744073709551616):∀ i,i<=hs.length->(ey m ds hs i 0).cp<18446744073709551616/\(i<hs.length->∀ k,k<=(af hs i).gs.length->(ey m ds hs i k).cp<18446744073709551616):=by
 have Ha:∀ a b:Nat,a<18446744073709551616->aD a b<18446744073709551616:=λa b e=>kh b e
 have key:∀ i,i<hs.length->(ey m ds hs i 0).cp<18446744073709551616->∀ k,k<=(af hs i).gs.length->(ey m ds hs i k).cp<18446744073709551616:=by
  intro i hi f k
  induction k with
  | zero=>intro _;exact f
  | succ k ih=>
   intro j;rw [(DE h hi j).next];exact Ha _ _ (ih (by omega))
 intro i
 induction i with
 | zero=>intro _;exact ⟨d,λhi=>key 0 hi d⟩
 | succ i ih=>
  intro hi;have c:=(ih (by omega)).2 (by omega) _ (lR);rw [<- DC] at c;exact ⟨c,λg=>key _ g c⟩
theorem UU {t:bU} (h:ip t) {x:ad} (a:x∈t.hs) {k:Nat} (c:k<x.gs.length):Fg (ae x.pod.cs k) (aq x.gs k):=by
 obtain ⟨_,a2,_⟩:=cL.1 h.held;obtain ⟨d,i,g⟩:=a2 x a;have Hc:k<x.pod.cs.length:=by omega
 have He:aq x.gs k∈x.gs:=sK c;have Hg:=UJ h x a _ He;have Hb:=QO h (QG _) x a k c;have b:=oW d _ (mu Hc);have Hf:=(oM d).2 k Hc;have e:∀ n∈(ae x.pod.cs k).ds,0<=n.many:=λn b=>by rw [<- Hb.1 n b];omega
 have Ha:iy (ae x.pod.cs k).ds (ae x.pod.cs k).ds.length=(aq x.gs k).dv.length:=by
  unfold iy;rw [Qh];exact Hb.2
 refine ⟨λj f=>?_,Ha,Q5 (UO Hb b.1) (by omega),Hg,Hf.1⟩
 have:=QS e j f
 unfold iy at *;rw [Qh] at Ha;omega
theorem UV {i:Nat} (h:∀ x∈hs,x.gs.length<=3) (a:hs.length<=12):(aE (hs.take i)).length<=36:=by
 have:=Ee h i
 omega
theorem UW (c2 Zb j5 In Ix j6 j4:Value) (F:Nat->Value) (C U:World) (c u H wc:Nat) (la X:Option Addr) (t:bU) (s:aB)
  (hle:aM C U) (Za:C.heap.size<=U.heap.size) (Ze:c<U.heap.size) (j0:u<U.heap.size) (j1:c≠u) (R:∀ o,C.cell? ⟨c,o,none⟩=none) (W:∀ o,C.cell? ⟨u,o,none⟩=none) (hh:aX C (.slice la t.hs.length H) t.hs) (l:ip t) (hs:aW t.m t.ds t.hs=some s) (j2:t.m.op<18446744073709551616) (Zf:0<=t.m.nb/\t.m.nb<=1125899906842624) (Zc:ap t.m.op<=64) (P:U.heap[c]?=some (.cells #[.int .i64 (1000*(ap t.m.op:Int) - bM ((t.hs.take 0).map ad.pod)),.int .i64 (t.m.nb - cI ((t.hs.take 0).map ad.pod))] 62 (0,0))) (A:cS U u λ_=>false) :
  Code.wp prog (Code.loop (jA 0)) (ov 0 λa w'=>∃ (E:Value) (f:List (RV × Rn)),FrS (λF=>frS c2 (.int .u64 (s.cp:Nat)) (.pointer (some ⟨c,0,none⟩)) (F 9) (F 10) (F 11) (E) (F 13) (F 14) (F 16) (F 17) (F 18) (F 19) (F 20) F) (λW'=>f.map Prod.snd=aE t.hs/\cP U.heap.size W' E (f.map Prod.fst)/\(∀ z∈f,kI C z)/\W'.heap[c]?=some (.cells #[.int .i64 (1000*(ap t.m.op:Int) - bM ((t.hs.take t.hs.length).map ad.pod)),.int .i64 (t.m.nb - cI ((t.hs.take t.hs.length).map ad.pod))] 62 (0,0))/\Apart (λj=>j=c\/j=u) U W') a w') (frS c2 (.int .u64 (t.m.op:Nat)) (.pointer (some ⟨c,0,none⟩)) (.slice X t.ds.length wc) (.pointer (some ⟨u,0,none⟩)) (.slice la t.hs.length H) (.slice none 0 0) (.int .i64 0) Zb j5 In Ix j6 j4 F) U:=by
 obtain ⟨a1,a2,a3⟩:=cL.1 l.held;have Jc:=(kg l.devs).1;obtain ⟨j3,Zh,hE,hY,hJ⟩:=id hh;have hla:la=j3:=by injection hE with e
 subst hla;have Jr:=qI hJ;have Ja:=qI hle;have hz:=qI R;have hA:=qI W;have Jm:=qI l;have hy:=qI hs;have HF:=qI a2;have h5:=qI a3;have Jg:=qI (UT hs j2);have hM:=qI (QR λx hx=>(a2 x hx).1);have hW:=qI P;have h3:=qI A;have Hv:=qI (UI l);clear hE hY hJ hle R W hh l hs a2 a3 P A
 conv=>enter [2,1];unfold jA;whnf
 refine yf (λm a wq=>∃ (i:Nat) (f:List (RV × Rn)) (lv E iv:Value),m+i=t.hs.length/\iv=.int .i64 i/\lv=.int .u64 ((ey t.m t.ds t.hs i 0).cp:Nat)/\FrS (λF=>frS c2 (lv) (.pointer (some ⟨c,0,none⟩)) (.slice X t.ds.length wc) (.pointer (some ⟨u,0,none⟩)) (.slice la t.hs.length H) (E) (iv) (F 14) (F 16) (F 17) (F 18) (F 19) (F 20) F) (λwq=>f.map Prod.snd=aE (t.hs.take i)/\cP U.heap.size wq E (f.map Prod.fst)/\(∀ z∈f,kI C z)/\wq.heap[c]?=some (.cells #[.int .i64 (1000*(ap t.m.op:Int) - bM ((t.hs.take i).map ad.pod)),.int .i64 (t.m.nb - cI ((t.hs.take i).map ad.pod))] 62 (0,0))/\cS wq u (ey t.m t.ds t.hs i 0).us/\Apart (λj=>j=c\/j=u) U wq) a wq) t.hs.length ?_ ?_
 ·exact ⟨0,[],.int .u64 (t.m.op:Nat),.slice none 0 0,.int .i64 0,rfl,rfl,rfl,FrS.mk (by kernel_rfl) ⟨rfl,Qw _ _ _ _,λx hx=>(List.not_mem_nil hx).elim,hW.o,h3.o,Apart.refl _ _⟩⟩
 ·rintro m a wr ⟨i,f,lv,E,iv,JC,rfl,rfl,F7,rfl,hw,HI,hP,hU,hG,Y⟩ K hK;have hi:i<=t.hs.length:=by omega
  simp only [frS,tlS,Nat.reduceAdd];(try dsimp only);have Hm:Hu (aM C wr):=rC Ja.o Y (λj o e=>by rcases e with e|e;rw [e];exact hz.o o;rw [e];exact hA.o o);have H3:=qI hw;have ha:=qI hP;have Hx:=qI hU;have hu:=qI hG;have hl:=qI Y;have h4:=Y.size;obtain ⟨I,vc,hv⟩:=fj HI;rw [Q9] at hv;subst hv;have H0:=qI HI;have Jf:=hM.o i hi;clear hw hP hU hG Y HI
  by_cases d:i<t.hs.length
  ·obtain ⟨M,L,Zg,Zd,Jp,Jl⟩:=Jr.o (by omega);subst Jp;obtain ⟨Jw,Hh⟩:=Jl;obtain ⟨⟨q0,q1,q2,q3⟩,Hb,Hc⟩:=Hh i d;have Jt:f.length<=36:=by
    have h1:f.length=(aE (t.hs.take i)).length:=by rw [<- H3.o,Q9]
    have:=UV (i:=i) Hv.o a1
    omega
   obtain ⟨D,g,hC,_⟩:=id Hb;obtain ⟨ga,gc,ht,_⟩:=Hc.parts;rw [hC] at q2 Hb;rw [ht] at q3 Hc;have Hy:af t.hs i∈t.hs:=mv d;obtain ⟨HL,hn,_⟩:=HF.o _ Hy;have he:=Hv.o _ Hy;have hF:Hu (0<i->C.cell? ⟨M,L+(i - 1)*4,none⟩=some (.string (af t.hs (i - 1)).pod.nm)/\dE (af t.hs i).pod.nm (af t.hs (i - 1)).pod.nm=false):=λT=>by
    refine ⟨(Hh (i - 1) (by omega)).1.1,?_⟩
    have:=wo.1 h5.o i d
    unfold oP at this;rw [Qc T,Bool.true_and] at this;exact this
   have HS:=qI (oM HL);have hf:=qI λk (hk:k<(af t.hs i).gs.length)=>DE hy.o d hk;have Hs:=qI ((Jg.o i hi).2 d);have HW:=qI λk (hk:k<(af t.hs i).gs.length)=>UU Jm.o Hy hk;have Hn:=qI (DC t.m t.ds t.hs i);have Jo:=qI (Ed d);have HB:=qI (DF d);have Hw:=qI (DG d);have He:=hM.o (i+1) d;rw [HB.o,Hw.o] at He;have h2:=sF HS.o (lR);have Jd:=sG HS.o (lR);have Hj:=qI Hb;have HP:=qI Hc;have hm:=qI q3;have r0:=Hm.o.cell _ _ _ q0;have r1:=Hm.o.cell _ _ _ q1;have r2:=Hm.o.cell _ _ _ q2;have HX:=qI hn;have hZ:=qI HL;clear Hh Hb Hc hC ht q0 q1 q2 q3 Hy hn HL;generalize af t.hs (i - 1)=y at *;generalize af t.hs i=x at *;obtain ⟨p,HM⟩:∃ q,q=dY x.pod.cs x.pod.cs.length:=⟨_,rfl⟩;obtain ⟨r,HY⟩:∃ q,q=fK x.pod.cs x.pod.cs.length:=⟨_,rfl⟩;rw [<- HM] at HB He h2;rw [<- HY] at Hw He Jd;obtain ⟨w,HZ⟩:∃ q,q=1000*(ap t.m.op:Int) - bM ((t.hs.take i).map ad.pod):=⟨_,rfl⟩;obtain ⟨v,HO⟩:∃ q,q=t.m.nb - cI ((t.hs.take i).map ad.pod):=⟨_,rfl⟩;have Jx:-100000000<=w/\w<=100000000:=by omega
   have Jz:-90000000000000000<=v/\v<=90000000000000000:=by omega
   have hL:Hu ((.cells #[.int .i64 (w - p),.int .i64 (v - r)] 62 (0,0):Obj)=.cells #[.int .i64 (1000*(ap t.m.op:Int) - bM ((t.hs.take (i+1)).map ad.pod)),.int .i64 (t.m.nb - cI ((t.hs.take (i+1)).map ad.pod))] 62 (0,0)):=by
    unfold Hu;rw [HB.o,Hw.o,HZ,HO]
    congr 3
    ·rw [Int.sub_sub]
    ·rw [Int.sub_sub]
   rw [<- HZ,<- HO] at Hx;have Hq:Hu (∀ V,aZ V (.slice D x.pod.cs.length g) x.pod.cs->Calls prog 41 #[.agg #[.string x.pod.nm,.int .i64 x.pod.pr,.slice D x.pod.cs.length g]] V λe w'=>e=.returned (.agg #[.int .i64 p,.int .i64 r])/\Below V.heap.size V w'):=λV hc=>by
    have:=AF x.pod (.slice D x.pod.cs.length g) V hc HS.o
    rw [<- HM,<- HY] at this;exact this
   clear HM HY HZ HO Jf He HB Hw;have S:=qI ((Q0 wr.heap.size wr).alloc (lR) (.cells #[.string x.pod.nm,.int .i64 x.pod.pr,.slice D x.pod.cs.length g] 49));have Hg:=qI (aU wr (.cells #[.string x.pod.nm,.int .i64 x.pod.pr,.slice D x.pod.cs.length g] 49) rfl);obtain ⟨n,HN⟩:∃ B,B=wr.heap.size:=⟨_,rfl⟩;rw [<- HN] at Hg
   go_upto_region 14 with fail
   rw [<- HN];generalize wr.alloc (.cells #[.string x.pod.nm,.int .i64 x.pod.pr,.slice D x.pod.cs.length g] 49)=Q at *;clear r0 r1 r2;have h8:U.heap.size<=n:=by omega
   have h6:=S.o.size;clear HN;have hR:=qI (Hm.o.trans (aM.of_below S.o));have Jb:n<Q.heap.size:=(gS Hg.o).1;have p0:Q.cell? ⟨n,0,none⟩=some (.string x.pod.nm):=aa Hg.o 0;have p1:Q.cell? ⟨n,1,none⟩=some (.int .i64 x.pod.pr):=aa Hg.o 1;have p2:Q.cell? ⟨n,2,none⟩=some (.slice D x.pod.cs.length g):=aa Hg.o 2
   go_wp2_with fail
   refine (Hq.o Q (Hj.o.le hR.o)).mono ?_;rintro e N ⟨rfl,HA⟩;clear p0 p1 p2;have hB:c<wr.heap.size:=by omega
   have H5:=qI (S.o.trans (HA.mono S.o.size));have hD:=qI ((HA.block n Jb).trans Hg.o);have Ju:=HA.size;clear HA S Hg hR;have Hl:=qI (H5.o.alloc H5.o.size (.cells #[.int .i64 p,.int .i64 r] 62));have HH:=qI (b6 hD.o (.cells #[.int .i64 p,.int .i64 r] 62));have Ha:=qI (aU N (.cells #[.int .i64 p,.int .i64 r] 62) rfl);have Jh:(N.alloc (.cells #[.int .i64 p,.int .i64 r] 62)).heap.size=N.heap.size+1:=by simp
   obtain ⟨O,HU⟩:∃ B,B=N.heap.size:=⟨_,rfl⟩;rw [<- HU] at Ha;have H8:c≠O:=by omega
   go_upto_region 15 with fail
   rw [<- HU];clear HU;generalize N.alloc (.cells #[.int .i64 p,.int .i64 r] 62)=V at *;have Ht:Hu (V.heap[c]?=some (.cells #[.int .i64 (w),.int .i64 (v)] 62 (0,0))):=(Hl.o.block c hB).trans Hx.o;have hp:=qI (hl.o.trans (Apart.of_below Hl.o));have hO:=qI (hu.o.below Hl.o);have hq:=qI (Hm.o.trans (aM.of_below Hl.o));have Hi:Hu (cP U.heap.size V (.slice I f.length vc) (f.map Prod.fst)):=kR H0.o Hl.o;have H6:c≠n:=by omega
   have Jn:u≠n:=by omega
   have Jy:U.heap.size<=V.heap.size:=by omega
   clear H5 Hl Hx hl hu Hm H0 hD hB;have v0:V.cell? ⟨c,0,none⟩=some (.int .i64 w):=aa Ht.o 0;have w0:V.frozen? ⟨c,0,none⟩=false:=bw Ht.o 0;have s0:V.cell? ⟨O,0,none⟩=some (.int .i64 p):=aa Ha.o 0;have JB:wrap64 (w - p)=w - p:=by unfold wrap64;omega
   have Jq:c<V.heap.size:=(gS Ht.o).1;have HR:O<V.heap.size:=(gS Ha.o).1
   go_upto_region 16 with fail
   have HV:Hu (Apart (λj=>j=c) V (V.setCell ⟨c,0,none⟩ (.int .i64 (w - p)))):=Apart.setCell (K:=λj=>j=c) rfl _ _ _;have HC:Hu ((V.setCell ⟨c,0,none⟩ (.int .i64 (w - p))).heap[c]?=some (.cells #[.int .i64 (w - p),.int .i64 (v)] 62 (0,0))):=aO Ht.o 0 _;clear v0 w0 s0;generalize V.setCell ⟨c,0,none⟩ (.int .i64 (w - p))=J at *;have v1:J.cell? ⟨c,1,none⟩=some (.int .i64 v):=aa HC.o 1;have w1:J.frozen? ⟨c,1,none⟩=false:=bw HC.o 1;have s1:J.cell? ⟨O,1,none⟩=some (.int .i64 r):=(ot (HV.o.block O HR λe=>H8 e.symm) 1).trans (aa Ha.o 1);have Jv:wrap64 (v - r)=v - r:=by unfold wrap64;omega
   go_upto_region 17 with fail
   have Hk:Hu (Apart (λj=>j=c) V (J.setCell ⟨c,1,none⟩ (.int .i64 (v - r)))):=HV.o.trans (Apart.setCell (K:=λj=>j=c) rfl _ _ _);have HG:Hu ((J.setCell ⟨c,1,none⟩ (.int .i64 (v - r))).heap[c]?=some (.cells #[.int .i64 (w - p),.int .i64 (v - r)] 62 (0,0))):=aO HC.o 1 _;clear v1 w1 s1 HV HC;generalize J.setCell ⟨c,1,none⟩ (.int .i64 (v - r))=Z at *;rw [hL.o] at HG;have Js:=Hk.o.size;have Hz:=qI ((Hk.o.block n (gS HH.o).1 λe=>H6 e.symm).trans HH.o);have Hr:=qI (rC hq.o Hk.o (λj o e=>by rw [e];exact hz.o o));have hV:=qI (Fh hO.o Hk.o λe=>j1 e.symm);have Hp:Hu (cP U.heap.size Z (.slice I f.length vc) (f.map Prod.fst)):=jV Hi.o Hk.o (λj e1 e2=>by have:=(Hi.o.lt j e1).1;omega);have hH:=qI (hp.o.trans (Hk.o.wide λj e=>.inl e));have Jk:x.pod.cs.length<=1000:=by have:=HX.o;omega
   have hr:Hu (Z.cell? ⟨M,L+i*4+3,none⟩=some (.slice ga x.pod.cs.length gc)):=by
    unfold Hu;rw [<- HX.o];exact Hr.o.cell _ _ _ hm.o
   have hg:n<Z.heap.size:=(gS Hz.o).1;have H9:c<Z.heap.size:=by omega
   clear Hk Ht HH hq hO Hi hp Ha hL Hq;refine uj (G:=(λF=>frS c2 (.int .u64 ((ey t.m t.ds t.hs i 0).cp:Nat)) (.pointer (some ⟨c,0,none⟩)) (.slice X t.ds.length wc) (.pointer (some ⟨u,0,none⟩)) (.slice (some ⟨M,L,none⟩) t.hs.length H) (.slice I f.length vc) (.int .i64 (i:Nat)) (.pointer (some ⟨n,0,none⟩)) (F 16) (F 17) (F 18) (F 19) (F 20) F)) (by kernel_rfl) (λF1=>Ut _ _ _ _ _ _ _ _ _ _ _  F1 Z n M L t.hs.length H i D ga g gc x.pod y.pod.nm Hz.o (Hj.o.le Hr.o) hZ.o hr.o d (by omega) (λT=>Hr.o.cell _ _ _ (hF.o T).1) (λT=>(hF.o T).2) Jk) ?_;rintro a W2 ⟨F1,rfl,Hf⟩;have Je:=qI ((Hf.block n hg).trans Hz.o);have h9:=qI (Hr.o.trans (aM.of_below Hf));have H2:=qI (hV.o.below Hf);have H1:Hu (cP U.heap.size W2 (.slice I f.length vc) (f.map Prod.fst)):=kR Hp.o Hf;have HF:=qI (hH.o.trans (Apart.of_below Hf));have H7:=qI ((Hf.block c H9).trans HG.o);have JA:=Hf.size;clear Hf Hz Hr hV Hp hH HG hr;simp only [frD,tlS,Nat.reduceAdd];(try dsimp only)
   go_wp2_with fail
   refine pG (G:=(λF=>frS c2 (.int .u64 ((ey t.m t.ds t.hs i 0).cp:Nat)) (.pointer (some ⟨c,0,none⟩)) (.slice X t.ds.length wc) (.pointer (some ⟨u,0,none⟩)) (.slice (some ⟨M,L,none⟩) t.hs.length H) (.slice I f.length vc) (.int .i64 (i:Nat)) (.pointer (some ⟨n,0,none⟩)) (.int .i64 0) (F 17) (F 18) (F 19) (F 20) F)) (by kernel_rfl) (λF2=>UR _ _ _ _ _ _ F2 C W2 U.heap.size n u M L t.hs.length H i X wc x D ga g gc t.ds (ey t.m t.ds t.hs i) (.slice I f.length vc) f (aE (t.hs.take i)) h9.o Za (by omega) h8 j0 hA.o Je.o Hj.o hm.o HP.o HX.o he d (by omega) hf.o Hs.o HW.o Jc H3.o (by omega) H1.o ha.o H2.o) ?_;rintro a W3 ⟨E,zr,F2,rfl,⟨hN,hX⟩,hS,Ho,hI,HT⟩;have HJ:=qI ((HT.block c (by omega) (by omega)).trans H7.o);have H4:=qI (US HF.o HT (λj hj e=>by rcases e with e|e;exact .inr e;omega));have Ji:Hu (zr.map Prod.snd=aE (t.hs.take (i+1))):=by unfold Hu;rw [hN,Jo.o]
   have h7:=qI hS;have HK:=qI Ho;have hT:=qI hI;rw [<- Hn.o] at hT;clear hN hX hS Ho hI HT;simp only [frS,tlS,Nat.reduceAdd];(try dsimp only);rw [<- Hn.o]
   go_wp2_with fail
   refine hK.o _ _ ⟨m - 1,by omega,i+1,zr,.int .u64 ((ey t.m t.ds t.hs (i+1) 0).cp:Nat),E,.int .i64 ((i:Int)+1),by omega,?_,rfl,FrS.mk (by kernel_rfl) ⟨Ji.o,h7.o,HK.o,HJ.o,hT.o,H4.o⟩⟩
   go_num
  ·have Jj:i=t.hs.length:=by omega
   subst Jj;have HE:Hu (f.map Prod.snd=aE t.hs):=by unfold Hu;rw [H3.o,Qh]
   rw [QQ hy.o]
   go_wp2
   exact ⟨rfl,_,f,FrS.mk (by kernel_rfl) ⟨HE.o,H0.o,by first|exact ha.o|exact λa b h=>ha.o (a,b) h,Hx.o,hl.o⟩⟩
section
variable {N:Nat->Prop} {Ba Bd Be Bm:Nat} {t:bU} {dk:Dk} {n:Nat} {w:World}
theorem Fi {base:Nat} {W:World} {a:Option Addr} {m c:Nat} {b:List RV} (h:lG base W (.slice a m c) b):lN W a b:=λe=>by
 obtain ⟨l,n,j,_,k⟩:=h;injection j with e1 _ _
 subst e1;obtain ⟨g,f,_,i,d⟩:=k e;exact ⟨g,f,i,d⟩
theorem Fj {α β:Type} {f:α->β} {l:List α} (h:(l.map f).Nodup):l.Nodup:=by
 unfold List.Nodup at *;rw [List.pairwise_map] at h;exact h.imp λ{a b} hab e=>hab (by rw [e])
theorem UX (h:be w N Ba Bd Be Bm t dk n) (A:n<=1000):Calls prog 45 #[.pointer (some ⟨Be,0,none⟩)] w λe w'=>∃ a c b,e=.returned (.slice a b.length c)/\lN w' a b/\(∀ y∈b,bm w' y/\y.dn<=1000)/\(b.map (aI w')).Perm (aE t.hs)/\Below w.heap.size w w':=by
 obtain ⟨s,af,i,d,Ha,Hb⟩:=h.eng;have Hc:i.length<=1000:=by
  obtain ⟨_,z,p,f⟩:=d;have u:=p.size_le;have j:=f.length_eq;unfold lE at j;rw [Q9] at j;rw [Go.Maps.size_eq] at u;omega
 have o:=D7 (W:=w) d.keys;refine (DY Be Bd Bm n i w s d Hc λx k=>⟨(Ha x k).1.1,(Ha x k).2⟩).mono ?_;rintro e w' ⟨⟨v,b,rfl,l,r,f,_⟩,m⟩;obtain ⟨a,c,q,_⟩:=id l;subst q;refine ⟨a,c,b,rfl,Fi l,λy g=>(r y g).1,f.trans ?_,m⟩;refine (List.perm_ext_iff_of_nodup ?_ ?_).2 Hb
 ·exact Fj o
 ·exact Fj (D5 h.inv.held)
theorem um {W:World} {M B:Nat} (h:B<M) (o:Nat):(fresh M W).cell? ⟨B,o,none⟩=none:=by
 cases e:(fresh M W).cell? ⟨B,o,none⟩ with
 | none=>rfl
 | some v=>exact absurd h (gR (M:=λj=>j<M) e)
theorem room_le {m:aF} {a:List az} (h:cH m a=true):bM a<=1000*(ap m.op:Int)/\cI a<=m.nb:=by
 unfold cH at h
 simpa using h
theorem UY {d W:World} {z:RV × Rn} (h:kI d z) (f:aM d W):bm W z.1/\aI W z.1=z.2/\z.1.dn=z.2.devs.length:=by
 obtain ⟨i,g,j,e⟩:=h;obtain ⟨a,b,c⟩:=xG (e.le f);refine ⟨a,?_,c⟩;unfold aI;rw [i,g,j,b]
abbrev pK:=(.cells #[.bool false,.bool false,.bool false,.bool false,.bool false,.bool false,.bool false,.bool false,.bool false,.bool false,.bool false,.bool false,.bool false,.bool false,.bool false,.bool false] 119:Obj)
abbrev Fk:=λ(x0 x1 x2:Nat)=>(.cells #[.pointer (some ⟨x0,0,none⟩),.pointer (some ⟨x1,0,none⟩),.pointer (some ⟨x2,0,none⟩)] 36:Obj)
abbrev Fl:=λ(Bc:Nat) (c:dM) (w':World)=>w'.cell? ⟨Bc,1,none⟩=some (.int .u64 (c.keep:Nat))
theorem UZ {c:dM} {ca da:Option Addr} {cc dl dc:Nat} (hM:be w i6 Ba Bd Be Bm t dk n) (g:t.m=cN c) (D:cH t.m (t.hs.map ad.pod)=true) (E:cM c=0) (H:fX w (.slice ca c.l.length cc) c.l) (hk:c.keep<18446744073709551616) (hn:n<=1000) :
  Calls prog 17 #[.agg #[.pointer (some ⟨Bd,0,none⟩),.pointer (some ⟨Be,0,none⟩),.pointer (some ⟨Ba,0,none⟩)],.agg #[.slice ca c.l.length cc,.int .u64 (c.keep:Nat),.int .i64 c.nb,.slice da dl dc,.int .i64 c.pol]] w λe w'=>e=.returned (.bool true)/\Below w.heap.size w w':=by
 obtain ⟨u,Jd⟩:∃ o:Obj,o=.cells #[.pointer (some ⟨Bd,0,none⟩),.pointer (some ⟨Be,0,none⟩),.pointer (some ⟨Ba,0,none⟩)] 36:=⟨_,rfl⟩;obtain ⟨C,Ja⟩:∃ o:Obj,o=.cells #[.slice ca c.l.length cc,.int .u64 (c.keep:Nat),.int .i64 c.nb,.slice da dl dc,.int .i64 c.pol] 27:=⟨_,rfl⟩;have O:Hu (Below w.heap.size w ((w.alloc u).alloc C)):=((Q0 w.heap.size w).alloc (lR) u).alloc (by simp) C;obtain ⟨b,W⟩:∃ B,B=w.heap.size:=⟨_,rfl⟩;obtain ⟨m,HX⟩:∃ B,B=w.heap.size+1:=⟨_,rfl⟩;have hT:((w.alloc u).alloc C).heap[b]?=some u:=by rw [W];exact b6 (aU w u rfl) _
 have hG:((w.alloc u).alloc C).heap[m]?=some C:=by rw [HX];exact aU (w.alloc u) C (by simp)
 have HO:=qI hT;have H5:=qI hG;clear hT hG;subst Jd Ja;obtain ⟨hr,hx,HF,hU⟩:=ue E;have He:=qI hM;have hc:=qI (room_le D);have h3:Hu (0<=t.m.nb/\t.m.nb<=1125899906842624):=by unfold Hu;rw [g];exact hx
 have h8:=qI hr;have H1:=qI H;have T:Hu (aD (au aT c.l) c.keep=t.m.op):=by unfold Hu;rw [g];rfl
 have Hm:Hu (c.nb=t.m.nb):=by unfold Hu;rw [g];rfl
 clear hM D E H hr hx HF hU g
 go_enter func17,ntmps17
 go_wp2_with fail
 (try rw [<- HX]);(try rw [<- W]);generalize ((w.alloc (.cells #[.pointer (some ⟨Bd,0,none⟩),.pointer (some ⟨Be,0,none⟩),.pointer (some ⟨Ba,0,none⟩)] 36)).alloc (.cells #[.slice ca c.l.length cc,.int .u64 (c.keep:Nat),.int .i64 c.nb,.slice da dl dc,.int .i64 c.pol] 27))=X at *;clear W HX;refine (yX ca cc c.l X (H1.o.below O.o)).mono ?_;rintro e k ⟨Ht,_,hJ⟩;obtain ⟨tb,tg,tc,rfl,Hh⟩:=Ht h8.o;have hY:b<X.heap.size:=(gS HO.o).1;have h2:m<X.heap.size:=(gS H5.o).1;have Ha:Hu (∀ V,Below X.heap.size X V->V.heap[b]?=some (.cells #[.pointer (some ⟨Bd,0,none⟩),.pointer (some ⟨Be,0,none⟩),.pointer (some ⟨Ba,0,none⟩)] 36)/\V.heap[m]?=some (.cells #[.slice ca c.l.length cc,.int .u64 (c.keep:Nat),.int .i64 c.nb,.slice da dl dc,.int .i64 c.pol] 27)/\Below w.heap.size w V):=λV A=>⟨(A.block b hY).trans HO.o,(A.block m h2).trans H5.o,O.o.trans (A.mono O.o.size)⟩
 have Hv:=qI hJ;have Hk:=qI Hh;have HG:=Hh.len;have Hl:au aT c.l<18446744073709551616:=i8 aT c.l c.l.length HG;have H8:=kY (au aT c.l) c.keep Hl hk;have hu:Hu (t.m.op<18446744073709551616):=by unfold Hu;rw [<- T.o];exact kh _ Hl
 rw [T.o] at H8;rw [Hm.o] at Ha;clear Ht hJ Hh T Hm HO H5 H1 O;have Hn:Hu (∀ V,Below k.heap.size k V->Calls prog 38 #[.pointer (some ⟨tb,0,none⟩)] V λe w'=>e=.returned (.int .u64 (au aT c.l:Nat))/\Below V.heap.size V w'):=λV A=>lW tb tg 0 tc c.l V (Hk.o.below A)
 have HI:Hu (∀ V,Below k.heap.size k V->(Fl m c) V):=λV A=>aa (Ha.o V (Hv.o.trans (A.mono Hv.o.size))).2.1 1
 generalize au aT c.l=ch at *
 go_upto_region 4 with fail
 have Hw:Hu (Below k.heap.size k k.drew):=bF (Q0 _ _);refine wp_region_held_drew (S:=Fl m c) (by kernel_rfl) (HI.o _ Hw.o) λhQ=>?_;generalize k.drew=V at *;refine tk 0 ?_;refine tk 2 ?_;refine tk 3 ?_;refine rd 1 λK hK=>?_;go_simp
 go_wp2_with fail
 refine (Hn.o _ Hw.o).mono ?_;rintro e V2 ⟨rfl,hL⟩;have HK:=qI (Hw.o.trans (hL.mono Hw.o.size));clear hL
 go_wp2_with fail
 refine hK.o _ _ (HI.o _ HK.o) λhQ=>?_;clear hK K;refine tk 4 ?_;refine tk 5 ?_;refine Qn (by kernel_rfl) ?_ _;clear hQ H8 Hn HI Hk;have Hx:=qI (Hv.o.trans (HK.o.mono Hv.o.size));clear Hv HK Hw;have hB:=qI (Ha.o V2 Hx.o).2.1
 go_upto_region 5 with fail
 refine uj (G:=λF=>frE (.pointer (some ⟨b,0,none⟩)) (.pointer (some ⟨m,0,none⟩)) (.int .u64 (t.m.op:Nat)) (F 8) F) (by kernel_rfl) (λF1=>Uu _ _ F1 V2 m t.m.op c.keep c.l.length cc dl dc ca da t.m.nb c.pol hB.o hu.o) ?_;rintro a L ⟨d,F1,rfl,H6,Ji,hO⟩;have hp:=qI H6;have Hy:=qI (Hx.o.trans (hO.mono Hx.o.size));have H2:d<L.heap.size:=(gS H6).1;have Je:=Hx.o.size;clear H6 hO Hx hB;have hS:=qI (He.o.keep (Ha.o L Hy.o).2.2);have z2:L.cell? ⟨b,2,none⟩=some (.pointer (some ⟨Ba,0,none⟩)):=aa (Ha.o L Hy.o).1 2;simp only [frE,tlS,Nat.reduceAdd];(try dsimp only)
 go_wp2_with fail
 clear z2;refine (UN hS.o).mono ?_;rintro e l ⟨wa,wg,wc,rfl,_,_,P⟩;have HY:=qI (Hy.o.trans (P.mono Hy.o.size));have hE:=qI ((P.block d H2).trans hp.o);have Jl:=P.size;clear P Hy hp hS;have Hr:=qI (HY.o.alloc HY.o.size (pK));have hI:=qI (b6 hE.o (pK));have HZ:Hu (cS (l.alloc (pK)) l.heap.size λ_=>false):=cS.made l 119 λ_=>false;have Jg:(l.alloc (pK)).heap.size=l.heap.size+1:=by simp
 have ho:=qI (aU l (pK) rfl);obtain ⟨p,HW⟩:∃ B,B=l.heap.size:=⟨_,rfl⟩;rw [<- HW] at HZ ho;have h4:L.heap.size<=p:=by omega
 go_upto_region 8 with fail
 rw [<- HW];generalize l.alloc (pK)=r at *;have H9:=qI (He.o.keep (Ha.o r Hr.o).2.2);have z2:r.cell? ⟨b,2,none⟩=some (.pointer (some ⟨Ba,0,none⟩)):=aa (Ha.o r Hr.o).1 2
 go_wp2_with fail
 clear z2;refine (ul H9.o).mono ?_;rintro e U ⟨la,lc,rfl,hh,Hi⟩;have Hb:d<r.heap.size:=by omega
 have Hc:p<r.heap.size:=by omega
 have HH:d≠p:=by omega
 have Hp:=qI (Hr.o.trans (Hi.mono Hr.o.size));have hN:=qI ((Hi.block d Hb).trans hI.o);have ht:=qI (HZ.o.below Hi);have H7:=qI ((Hi.block p Hc).trans ho.o);have hH:=qI hh;have Jq:=Hi.size;have Jp:w.heap.size<=X.heap.size:=(Ha.o X (Q0 _ _)).2.2.size;have hP:Hu (be U (λj=>j=d\/j=p) Ba Bd Be Bm t dk n):=He.o.grow (Ha.o U Hp.o).2.2 (λj e=>.inr (by omega)) (λj e=>by omega);obtain ⟨s,hs⟩:=He.o.inv.left;have HS:=qI hs;have HT:Hu (aM (fresh r.heap.size U) U):=Dw _ _;have hZ:=xi t.m.op;have H0:Hu (U.heap[d]?=some (.cells #[.int .i64 (1000*(ap t.m.op:Int) - bM ((t.hs.take 0).map ad.pod)),.int .i64 (t.m.nb - cI ((t.hs.take 0).map ad.pod))] 62 (0,0))):=by
  unfold Hu;have I:bM ((t.hs.take 0).map ad.pod)=0:=rfl;have x:cI ((t.hs.take 0).map ad.pod)=0:=rfl;rw [I,x,Int.sub_zero,Int.sub_zero];exact hN.o
 clear hh Hi hs HY hE Hr hI HZ H9 hN HW
 go_wp2_with fail
 refine pG (G:=(λF=>frS (.pointer (some ⟨b,0,none⟩)) (.int .u64 (t.m.op:Nat)) (.pointer (some ⟨d,0,none⟩)) (.slice wa t.ds.length wc) (.pointer (some ⟨p,0,none⟩)) (.slice la t.hs.length lc) (.slice none 0 0) (.int .i64 0) (F 14) (F 16) (F 17) (F 18) (F 19) (F 20) F)) (by kernel_rfl) (λF2=>UW _ _ _ _ _ _ _ F2 (fresh r.heap.size U) U d p lc wc la wa t s HT.o (by rw [cC];exact lR) (by omega) (by omega) HH (um Hb) (um Hc) hH.o He.o.inv HS.o hu.o h3.o hZ H0.o ht.o) ?_;rintro a M ⟨pv,zq,F2,rfl,hA,N,hR,Hq,Hj⟩;obtain ⟨ra,rc,hv⟩:=fj N;obtain ⟨f,Z⟩:∃ f,f=zq.map Prod.fst:=⟨_,rfl⟩;rw [<- Z] at hv N;subst hv;have hV:b<U.heap.size:=by omega
 have Y:=qI ((Hj.block b hV (by omega)).trans (Ha.o U Hp.o).1);have HU:Hu (be M (λj=>j=d\/j=p) Ba Bd Be Bm t dk n):=hP.o.other Hj (λj h Jx z e=>by
  rcases h with h|h
  ·rw [h,H0.o] at e;injection e with e
   injection e with _ x
   exact absurd x (by decide)
  ·rw [h,H7.o] at e;injection e with e
   injection e with _ x
   exact absurd x (by decide))
 have H3:Hu (Below w.heap.size w M):=pI (Ha.o U Hp.o).2.2 (Ha.o U Hp.o).2.2.size Hj (λj h=>by omega);have ha:=qI (rC HT.o Hj (λj o e=>by rcases e with e|e;rw [e];exact um Hb o;rw [e];exact um Hc o));have Ho:=qI Hq;have Hs:=qI (Fi (Eg N));have Jb:=qI hR;have hC:=qI hA;have hg:=qI Z;have Jj:=Hj.size;clear hA N hR Hq Hj hP HT H0 ht hH Hp H7 Z;have z1:M.cell? ⟨b,1,none⟩=some (.pointer (some ⟨Be,0,none⟩)):=aa Y.o 1;simp only [frS,tlS,Nat.reduceAdd];(try dsimp only)
 go_wp2_with fail
 clear z1;refine (UX HU.o hn).mono ?_;rintro e v ⟨na,nc,R,rfl,hl,hD,Hz,Hf⟩;have HQ:R.length=f.length:=by
  have I:=Hz.length_eq;have x:=congrArg List.length hC.o;rw [Q9] at I x;rw [hg.o,Q9];omega
 rw [HQ];have Jo:=tK He.o.inv.held;have Jh:f.length<=36:=by
  have I:=Hz.length_eq;rw [Q9] at I;omega
 have hW:=qI (HU.o.keep Hf);have h6:=qI (ha.o.trans (aM.of_below Hf));have hw:=qI (H3.o.trans (Hf.mono H3.o.size));have HV:b<M.heap.size:=by omega
 have h5:=qI ((Hf.block b HV).trans Y.o);have Hg:=qI ((Hf.block d (by omega)).trans Ho.o);have H4:=qI (Hs.o.below Hf);have h7:=qI hl;have Jc:=qI hD;have h9:=qI Hz;have hf:=qI HQ;clear hl hD Hz HQ Hf HU ha H3 Y Ho Hs;have HE:Hu (∀ z∈f,bm v z/\z.dn<=1000/\aI v z∈aE t.hs):=λz J=>by
  rw [hg.o] at J;obtain ⟨q,hq,rfl⟩:=Qk.1 J;obtain ⟨d1,d2,d3⟩:=UY (Jb.o q hq) h6.o;have hm:q.2∈aE t.hs:=by rw [<- hC.o];exact Qk.2 ⟨q,hq,rfl⟩
  refine ⟨d1,?_,by rw [d2];exact hm⟩
  have:=(D6 He.o.inv.held _ hm).2.2
  omega
 have hX:Hu (∀ i,i<f.length->∃ j,j<R.length/\aI v (rv R j)=aI v (rv f i)):=λi hi=>by
  have H:=(HE.o _ (n9 hi)).2.2;rw [<- h9.o.mem_iff] at H;obtain ⟨y,hy,he⟩:=Qk.1 H;obtain ⟨j,h,e⟩:=List.getElem_of_mem hy;exact ⟨j,h,by rw [<- he,<- e];simp [rv,h]⟩
 obtain ⟨RA,HR⟩:∃ q,q=1000*(ap t.m.op:Int) - bM ((t.hs.take t.hs.length).map ad.pod):=⟨_,rfl⟩;obtain ⟨RC,HN⟩:∃ q,q=t.m.nb - cI ((t.hs.take t.hs.length).map ad.pod):=⟨_,rfl⟩;rw [<- HR,<- HN] at Hg;have Jk:0<=RA:=by
  rw [HR,Qh]
  have:=hc.o.1
  omega
 have Jm:0<=RC:=by
  rw [HN,Qh]
  have:=hc.o.2
  omega
 have Jf:decide (RA<0)=false:=Q7 (by omega);have Jn:decide (RC<0)=false:=Q7 (by omega);clear HR HN;have z2:v.cell? ⟨b,2,none⟩=some (.pointer (some ⟨Ba,0,none⟩)):=aa h5.o 2;have y0:v.cell? ⟨d,0,none⟩=some (.int .i64 RA):=aa Hg.o 0;have y1:v.cell? ⟨d,1,none⟩=some (.int .i64 RC):=aa Hg.o 1
 go_wp2_with fail
 refine (UH hW.o).mono ?_;rintro e W8 ⟨⟨s2,Q,rfl⟩,rfl⟩;rw [HS.o] at Q;injection Q with Q
 subst Q
 go_wp2_with fail
 clear z2 y0 y1;refine pG (G:=λF=>frT (.slice ra f.length rc) (.slice na f.length nc) (.int .i64 0) (F 23) (F 24) F) (by kernel_rfl) (λF3=>Uw F3 W8 ra na rc nc f.length f R hf.o.symm H4.o h7.o (λz J=>⟨(HE.o z J).1,(HE.o z J).2.1⟩) Jc.o (by omega) (by have:=hf.o;omega) hX.o) ?_;rintro a W9 ⟨F3,rfl,hF⟩;have h0:=qI (hw.o.trans (hF.mono hw.o.size));clear hF;simp only [frT,tlS,Nat.reduceAdd];(try dsimp only)
 go_wp2
 go_ret;exact ⟨rfl,h0.o⟩
end
