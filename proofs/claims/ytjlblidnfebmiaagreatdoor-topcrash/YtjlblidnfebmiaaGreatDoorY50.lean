import Derived.Test.YtjlblidnfebmiaaGreatDoorY48
import Derived.Test.YtjlblidnfebmiaaGreatDoorY45
set_option maxRecDepth 100000
set_option maxHeartbeats 16000000
open Go Go.RowKit Go.Shelf
attribute [local go_sem] Oper.semAt_some
namespace Go.Proofs.YtjlblidnfebmiaaGreatDoor
variable{F0 W W':World}{K:Nat->Prop}{hs:List ae}
structure Iz (x:aF) (g:aX):Prop where
 sum:∀j,j<=x.ds.length->0<=jh x.ds j/\jh x.ds j<=1000
 many:jh x.ds x.ds.length=g.dv.length
 few:x.ds.length<=1000
 devs:g.dv.length<=16
 am:0<=x.am/\x.am<=1000000
theorem tX(h:aR F0 W)(c:Apart K W W')(f:∀j o,K j->F0.cell? ⟨j,o,none⟩=none):aR F0 W':=
 ⟨Q5 h.size c.size,λb o v e=>by
  have a:=h.cell b o v e
  by_cases d:K b
  ·grind
  ·exact (gR (c.block b (Q3 W ⟨b,o,none⟩ a) d) o).trans a⟩
theorem IA{B:Nat}{f:Nat->Bool}(h:dE W B f)(d:Apart K W W')(c:¬ K B):dE W' B f:=λj b=>by
 have a:=d.block B h.lt c;refine⟨(gR a _).trans (h j b).1,?_⟩
 have:=(h j b).2
 unfold World.frozen? at *;dsimp only at *;rw[a];exact this
theorem Y7{base:Nat}(h:F0<=base){j:Nat}(a:base<=j)(o:Nat):F0.cell? ⟨j,o,none⟩=none:=by
 cases e:F0.cell? ⟨j,o,none⟩ with
 | none=>rfl
 | some v=>
  have:=Q3 F0 ⟨j,o,none⟩ e
  have:j<F0:=this
  omega
abbrev wn:=λ(x0:ae) (x1:Option Addr) (x2:Nat)=>(.cells #[x0.pod.nm,(x0.pod.pr:Int),.slice x1 x0.pod.cs.length x2] 49:Obj)
theorem Za{c2 O j3 j4 j6 Ix:Value}(F:Nat->Value){r X:World}{base:Nat}(d:Nat){l M:Nat}(D y R i:Nat)(I:Option Addr)(wc:Nat){x:ae}{pa ga:Option Addr}{p gc:Nat}{ds:List aq}(S:Nat->aC){V:Value}(E:List (RV × Rn))(rp:List Rn)
  (hle:aR r X) (j1:r<=base) (zd:base<=X) (zz:base<=d) (z6:l<base) (s:∀o,r.cell? ⟨l,o,none⟩=none) (P:X.heap[d]?=some (wn x pa p)) (w:ba r (.slice pa x.pod.cs.length p) x.pod.cs) (Jx:r.cell? ⟨M,D+i*4+3,none⟩=some (.slice ga x.gs.length gc)) (N:ce r (.slice ga x.gs.length gc) x.gs) (j0:x.gs.length=x.pod.cs.length) (h3:x.gs.length<=3) (hi:i<y) (_hhl:y<=100)
  (hS:∀k,k<x.gs.length->Gj ds (S k) (aG x.gs k) (bR x.pod.cs (af x.pod.cs k).am) (S (k+1))) (L:∀k,k<=x.gs.length->(S k).cp<18446744073709551616) (hN:∀k,k<x.gs.length->Iz (af x.pod.cs k) (aG x.gs k)) (In:ds.length<=16)
  (Y:E.map Prod.snd=rp) (zr:E.length<=200) (J:dq base X V (E.map Prod.fst)) (t:∀z∈E,lW r z) (u:dE X l (S 0).us) :
  Code.wp Tryz.prog (Code.loop (kr 1)) (p7 2 λa w'=>∃(Z:Value) (c:List (RV × Rn)),FrS (λF=>frS c2 (.int .u64 ((S x.gs.length).cp:Nat)) O (.slice I ds.length wc) l (.slice (some ⟨M,D,none⟩) y R) (Z) (.int .i64 (i:Nat)) (F 14) (F 16) (F 17) (F 18) (F 19) (F 20) F) (λW'=>(c.map Prod.snd=rp++(List.range x.gs.length).map (lU x)/\c.length=E.length+x.gs.length)/\dq base W' Z (c.map Prod.fst)/\(∀z∈c,lW r z)/\dE W' l (S x.gs.length).us/\Apart (λj=>j=l\/base<=j) X W') a w') (frS c2 (.int .u64 ((S 0).cp:Nat)) O (.slice I ds.length wc) l (.slice (some ⟨M,D,none⟩) y R) (V) (.int .i64 (i:Nat)) d (0:Int) j3 j4 j6 Ix F) X:=by
 obtain⟨j2,Z1,hr,h7,hh⟩:=N.parts;have HV:ga=j2:=by injection hr with e
 subst HV;obtain⟨j5,Z2,hy,hL,hc⟩:=id w;have H4:pa=j5:=by injection hy with e
 subst H4;have hV:=qI hle;have HO:=qI s;have Jc:=qI P;have HR:=qI w;have hJ:=qI Jx;have h8:=qI hh;have hG:=qI hc;have HS:=qI hS;have HH:=qI L;have hR:=qI hN;have HI:=qI j0;have HZ:Hu (E.map Prod.snd=rp++(List.range 0).map (lU x)):=by grind
 have HN:=qI J;have hO:=qI t;have hW:=qI u;have Jb:=(gS P).1;clear hr h7 hh hy hL hc hle s P w Jx N hS L hN j0 Y J t u
 conv=>enter [2,1];unfold kr;whnf
 refine Am (λm a wq=>∃(k:Nat) (c:List (RV × Rn)) (lv Z kv:Value),m+k=x.gs.length/\kv=.int .i64 k/\lv=.int .u64 ((S k).cp:Nat)/\FrS (λF=>frS c2 (lv) O (.slice I ds.length wc) l (.slice (some ⟨M,D,none⟩) y R) (Z) (.int .i64 (i:Nat)) d (kv) (F 17) (F 18) (F 19) (F 20) F) (λwq=>c.map Prod.snd=rp++(List.range k).map (lU x)/\c.length=E.length+k/\dq base wq Z (c.map Prod.fst)/\(∀z∈c,lW r z)/\dE wq l (S k).us/\Apart (λj=>j=l\/(base<=j/\j≠d)) X wq) a wq) (n₀:=x.gs.length) ?_ ?_
 ·exact⟨0,E,.int .u64 ((S 0).cp:Nat),V,.int .i64 0,rfl,rfl,rfl,FrS.mk (by kernel_rfl) ⟨HZ.o,rfl,HN.o,hO.o,hW.o,Apart.refl _ _⟩⟩
 ·rintro m a wr ⟨k,c,lv,Z,kv,Jf,rfl,rfl,F5,rfl,hx,hf,HX,t,hD,Ht⟩ K hK;have hk:k<=x.gs.length:=by omega
  simp only[frS,tlS,Nat.reduceAdd];(try dsimp only);have HP:=(Ht.block d Jb (by omega)).trans Jc.o;have hw:=tX hV.o Ht (λj o e=>by rcases e with e|e;rw[e];exact HO.o o;exact Y7 j1 e.1 o);have HK:=qI Ht;have H6:=qI hD;have H9:=qI hx;have Hk:=qI t;have hE:=qI hf;have hT:=Ht.size;have Ja:c.length<=203:=by omega
  obtain⟨C,vc,hv⟩:=fI HX;rw[Q9] at hv;subst hv;have HJ:=qI HX;have HG:=qI hw;have HM:=qI HP;have b2:cl wr d (2) (.slice pa x.pod.cs.length p):=ad HP 2;clear Ht hD hx t HX hf hw HP
  by_cases U:k<x.gs.length
  ·have Hp:k<x.pod.cs.length:=by have:=HI.o;omega
   obtain⟨gb,Z5,z7,HV,hY,g0,g1,Ha⟩:=h8.o k U;subst HV;obtain⟨cb,co,ZQ,H4,Hb⟩:=hG.o (by omega);subst H4;obtain⟨na,nc,H5,Hs⟩:=(Hb.2 k Hp).2;obtain⟨A,H,hm,hX,hp⟩:=id Ha;have Hn:=qI (HS.o k U);have Hg:=qI (hR.o k U);have ht:=HH.o k hk;have hF:=(HG.o.cell _ _ _ g0);rw[hm] at g1 Ha;have hC:=(HG.o.cell _ _ _ g1);have h9:=(HG.o.cell _ _ _ hJ.o);have HT:=qI Ha;have ha:Hu (bC r (.slice na (af x.pod.cs k).ds.length nc) (af x.pod.cs k).ds):=by
    have:=(Hb.2 k Hp).2
    rw[H5] at this;exact this
   have hg:∀j,j<6->r.cell? ⟨cb,co+k*6+j,none⟩=([.string (af x.pod.cs k).nm,.int .i64 (af x.pod.cs k).am,.int .i64 (af x.pod.cs k).ab,.int .i64 (af x.pod.cs k).cm,.int .i64 (af x.pod.cs k).cb,.slice na (af x.pod.cs k).ds.length nc]:List Value)[j]?:=by
    have:=(Hb.2 k Hp).1
    rw[H5] at this;exact this
   have hs:=qI hg;have H1:=Q1 Hb.1 j1;have hA:Hu (∀b o,A=some ⟨b,o,none⟩->0<(aG x.gs k).dv.length->b≠l):=λb o e h0 e2=>by
    obtain⟨b',o',e3,_,e4⟩:=hp h0;rw[e] at e3;injection e3 with e3
    injection e3 with e5 e6
    subst e5 e6
    have:=e4 0 h0
    rw[e2,HO.o] at this;cases this
   have Hj:Hu (lU x k=⟨x.pod.nm,(af x.pod.cs k).nm,((aG x.gs k).cp:Int),(aG x.gs k).dv⟩):=rfl;have Hl:(aG x.gs k).cp<18446744073709551616:=by
    have h1:=Hn.o.cp
    have:(aG x.gs k).cp &&& (S k).cp<=(S k).cp:=Nat.and_le_right
    rw[h1] at this;omega
   have he:Hu ((S (k+1)).cp=aI (S k).cp (aG x.gs k).cp/\(S (k+1)).us=cM (S k).us (aG x.gs k).dv):=by
    unfold Hu;rw[Hn.o.next];exact⟨rfl,rfl⟩
   have HW:=mJ (S k).cp (aG x.gs k).cp ht Hl;rw[<- he.o.1] at HW;clear hg Hb H5 Hs hm hX hp Ha g0 g1;obtain⟨f,hq⟩:∃q,q=af x.pod.cs k:=⟨_,rfl⟩;obtain⟨g,hB⟩:∃q,q=aG x.gs k:=⟨_,rfl⟩;rw[<- hq] at ha hs Hg Hj Hn;rw[<- hB] at HT hA Hg Hj Hn he HW hF hC Hl;clear hq hB;have H7:Hu (∀W,aR r W->∀j,j<6->W.cell? ⟨cb,co+k*6+j,none⟩=([.string f.nm,.int .i64 f.am,.int .i64 f.ab,.int .i64 f.cm,.int .i64 f.cb,.slice na f.ds.length nc]:List Value)[j]?):=λW y j hj=>by
    obtain⟨v,hv⟩:∃v,([.string f.nm,.int .i64 f.am,.int .i64 f.ab,.int .i64 f.cm,.int .i64 f.cb,.slice na f.ds.length nc]:List Value)[j]?=some v:=⟨_,Qf hj⟩;rw[hv];exact y.cell _ _ _ ((hs.o j hj).trans hv)
   have Jg:(k:Int)<(x.gs.length:Int):=by omega
   have T:=qI ((Q0 wr wr).alloc (lR) (.cells #[.int .u64 (g.cp:Nat),.slice A g.dv.length H] 123));have HF:=qI (aY wr (.cells #[.int .u64 (g.cp:Nat),.slice A g.dv.length H] 123) rfl);obtain⟨n,H0⟩:∃B,B=wr.heap.size:=⟨_,rfl⟩;rw[<- H0] at HF
   go_upto_region 23 with fail
   rw[<- H0];generalize wr.alloc (.cells #[.int .u64 (g.cp:Nat),.slice A g.dv.length H] 123)=Q at *;clear hF hC h9 b2;have Hh:=HG.o.trans (aR.of_below T.o);have Ho:=qI Hh;have H2:=(gS HM.o).1;have Hc:=qI ((T.o.block d H2).trans HM.o);have He:=qI (HR.o.le Hh);clear Hh;have hI:=(gS HF.o).1;have HY:=(gS Hc.o).1;have h2:d<n:=by omega
   have h6:base<=n:=by omega
   have HA:=qI (H6.o.below T.o);have HE:Hu (dq base Q (.slice C c.length vc) (c.map Prod.fst)):=mL HJ.o T.o;have HD:=qI (HK.o.trans (Apart.of_below T.o));have hM:=T.o.size;have H3:x.pod.cs.length<=1000:=by have:=HI.o;omega
   clear HJ HK H6 HM T H0;refine wj (G:=(λF=>frS c2 (.int .u64 ((S k).cp:Nat)) O (.slice I ds.length wc) l (.slice (some ⟨M,D,none⟩) y R) (.slice C c.length vc) (.int .i64 (i:Nat)) d (.int .i64 (k:Nat)) n (F 18) (F 19) (F 20) F)) (by kernel_rfl) (λF1=>YB F1 (W:=Q) d n (cb:=cb) co (cc:=p) k (cp:=g.cp) (S k).cp (dl:=g.dv.length) (I:=A) (H:=H) x.pod f (i:=na) (nc:=nc) Hc.o HF.o Hp H3 (H7.o Q Ho.o) He.o Hl ht Hn.o.cp Hn.o.cnt Hg.o.am.1 Hg.o.am.2) ?_;rintro a W1 ⟨F1,rfl,Hf⟩;have Hz:=qI ((Hf.block n hI).trans HF.o);have H8:=qI ((Hf.block d HY).trans Hc.o);have Hx:=qI (Ho.o.trans (aR.of_below Hf));have Hr:=qI (HA.o.below Hf);have Hi:Hu (dq base W1 (.slice C c.length vc) (c.map Prod.fst)):=mL HE.o Hf;have HC:=qI (HD.o.trans (Apart.of_below Hf));have Jd:=Hf.size;have z0:cl W1 n (0) (.int .u64 (g.cp:Nat)):=ad Hz.o 0;clear Hf HF Hc Ho HA HE HD He;simp only[frB,tlS,Nat.reduceAdd];(try dsimp only)
   go_wp2_with fail
   clear z0 HW;refine rz (G:=(λF=>frS c2 (.int .u64 ((S (k+1)).cp:Nat)) O (.slice I ds.length wc) l (.slice (some ⟨M,D,none⟩) y R) (.slice C c.length vc) (.int .i64 (i:Nat)) d (.int .i64 (k:Nat)) n (0:Int) (0:Int) (F 20) F)) (by kernel_rfl) (λF2=>YZ F2 (W:=W1) (g:=d) (cb:=cb) co (cc:=p) k (n:=x.pod.cs.length) (h:=na) (nc:=nc) (ns:=f.ds) (ad H8.o 2) Hp H3 (H7.o W1 Hx.o 5 (by decide)) (ha.o.le Hx.o) Hg.o.sum Hg.o.few) ?_;rintro a W2 ⟨F2,rfl,rfl⟩;rw[Hg.o.many];have z1:cl W2 n (1) (.slice A g.dv.length H):=ad Hz.o 1;simp only[frS,tlS,Nat.reduceAdd];(try dsimp only)
   go_wp2_with fail
   clear z1;refine rz (G:=(λF=>frS c2 (.int .u64 ((S (k+1)).cp:Nat)) O (.slice I ds.length wc) l (.slice (some ⟨M,D,none⟩) y R) (.slice C c.length vc) (.int .i64 (i:Nat)) d (.int .i64 (k:Nat)) n (F 18) (F 19) (0:Int) F)) (by kernel_rfl) (λF3=>YA F3 (W:=W2) (d:=n) (a:=l) I ds.length wc (p:=A) (A:=H) (l:=g.dv) (us:=(S k).us) (ad Hz.o 1) (HT.o.le Hx.o) Hr.o (by omega) hA.o Hg.o.devs In Hn.o.dv) ?_;rintro a W3 ⟨F3,rfl,hP,Hm⟩;have Hv:Hu (dE W3 l (S (k+1)).us):=by grind[Hu]
   have HB:=qI ((Hm.block n (by omega) (by omega)).trans Hz.o);have Hq:=qI ((Hm.block d (by omega) (by omega)).trans H8.o);have hn:=qI (tX Hx.o Hm (λj o e=>by rw[e];exact HO.o o));have Hw:Hu (dq base W3 (.slice C c.length vc) (c.map Prod.fst)):=kM Hi.o Hm (λj e1 e2=>by have:=(Hi.o.lt j e1).1;omega);have Hy:=qI (HC.o.trans (Hm.wide λj e=>.inl e));have hU:=Hm.size;clear hP Hm Hz H8 Hx Hr Hi HC;simp only[frS,tlS,Nat.reduceAdd];(try dsimp only)
   go_upto_region 39 with fail
   refine wj (G:=(λF=>frS c2 (.int .u64 ((S (k+1)).cp:Nat)) O (.slice I ds.length wc) l (.slice (some ⟨M,D,none⟩) y R) (.slice C c.length vc) (.int .i64 (i:Nat)) d (.int .i64 (k:Nat)) n (F 18) (F 19) (F 20) F)) (by kernel_rfl) (λF4=>YC F4 (W:=W3) (base:=base) d n (cb:=cb) co (cc:=p) k g.cp (dl:=g.dv.length) (ia:=A) (ic:=H) x.pod (cn:=f.nm) (va:=C) (vc:=vc) c Hq.o HB.o Hp H3 (H7.o W3 hn.o 0 (by decide)) H1 Hw.o (by omega) (by omega)) ?_;rintro a W4 ⟨v',F4,rfl,hu,HL⟩;have hH:=qI hu;have h5:=qI (Hy.o.trans (HL.wide λj e=>.inr e));have HU:=qI (IA Hv.o HL (by omega));clear hu HL Hv HB Hq hn Hw Hy;simp only[frS,tlS,Nat.reduceAdd];(try dsimp only)
   go_wp2_with fail
   refine hK.o _ _ ⟨m - 1,by omega,k+1,c++[(⟨x.pod.nm,f.nm,g.cp,A,g.dv.length,H⟩,⟨x.pod.nm,f.nm,g.cp,g.dv⟩)],.int .u64 ((S (k+1)).cp:Nat),v',.int .i64 ((k:Int)+1),by omega,?_,rfl,FrS.mk (by kernel_rfl) ⟨?_,by rw[Q2,hE.o];simp;omega,by rw[Qj];exact hH.o,λz Y=>?_,HU.o,h5.o⟩⟩
   ·go_num
   ·rw[Qj,H9.o,List.range_succ,Qj,List.append_assoc,List.map_singleton,List.map_singleton,Hj.o]
   ·rcases Qi.1 Y with Y|Y
    ·exact Hk.o z Y
    ·rw[Qm.1 Y];exact⟨rfl,rfl,rfl,HT.o⟩
  ·have hZ:k=x.gs.length:=by omega
   subst hZ;have h4:¬ ((x.gs.length:Int)<(x.pod.cs.length:Int)):=by have:=HI.o;omega
   have Jh:=Q7 h4;have Je:¬ (x.gs.length<x.pod.cs.length):=by omega
   go_wp2
   exact⟨rfl,_,c,FrS.mk (by kernel_rfl) ⟨⟨H9.o,hE.o⟩,HJ.o,by first|exact Hk.o|exact λa b h=>Hk.o (a,b) h,H6.o,HK.o.wide λj e=>e.imp id (·.1)⟩⟩
theorem Zb{K':Nat->Prop}{A B C:World}(h:Apart K A B)(a:Apart K' B C)(d:∀j,j<A.heap.size->K' j->K j):Apart K A C:=
 ⟨a.os.trans h.os,a.tape.trans h.tape,a.output.trans h.output,Q5 h.size a.size,λj b c=>(a.block j (Q1 b h.size) λe=>c (d j b e)).trans (h.block j b c)⟩
theorem Zc{m:aJ}{ds:List aq}{s:aC}(h:bi m ds hs=some s)(d:m.op<18446744073709551616):∀i,i<=hs.length->(fa m ds hs i 0).cp<18446744073709551616/\(i<hs.length->∀k,k<=(ah hs i).gs.length->(fa m ds hs i k).cp<18446744073709551616):=by
 have Ha:∀a b:Nat,a<18446744073709551616->aI a b<18446744073709551616:=λa b f=>lK b f
 have key:∀i,i<hs.length->(fa m ds hs i 0).cp<18446744073709551616->∀k,k<=(ah hs i).gs.length->(fa m ds hs i k).cp<18446744073709551616:=by
  intro i hi e k
  induction k with
  | zero=>intro _;exact e
  | succ k ih=>
   intro g;rw[(Gn h hi g).next];exact Ha _ _ (ih (by omega))
 intro i
 induction i with
 | zero=>intro _;exact⟨d,λhi=>key 0 hi d⟩
 | succ i ih=>
  intro hi;have c:=(ih (by omega)).2 (by omega) _ (lR);rw[<- Gl] at c;exact⟨c,λj=>key _ j c⟩
theorem Zd{t:aT}(h:eG t){x:ae}(a:x∈t.hs){k:Nat}(c:k<x.gs.length):Iz (af x.pod.cs k) (aG x.gs k):=by
 obtain⟨_,a2,_⟩:=dm.1 h.held;obtain⟨d,g,i⟩:=a2 x a;have Hc:k<x.pod.cs.length:=by omega
 have Hf:=uz c;have He:=YP h x a _ Hf;have Hb:=Vz h (rh _) x a k c;have b:=rf d _ (mw Hc);have Hg:=(ny d).2 k Hc;have e:∀n∈(af x.pod.cs k).ds,0<=n.many:=λn b=>by rw[<- Hb.1 n b];omega
 have Ha:jh (af x.pod.cs k).ds (af x.pod.cs k).ds.length=(aG x.gs k).dv.length:=by
  unfold jh;rw[Qh];exact Hb.2
 refine⟨λj f=>?_,Ha,Q5 (YX Hb b.1) (by omega),He,Hg.1⟩
 have:=VE e j f
 unfold jh at *;rw[Qh] at Ha;omega
theorem Ze{i:Nat}(h:∀x∈hs,x.gs.length<=3)(a:hs.length<=12):(aL (hs.take i)).length<=36:=by
 grind[Gb]
theorem Zf{c2 j3 j1 j4 j5 Ix Z2:Value}(F:Nat->Value){C U:World}{c u H:Nat}(wc:Nat){la:Option Addr}(P:Option Addr){t:aT}{s:aC}
  (hle:aR C U) (ZQ:C<=U.heap.size) (z7:c<U) (j6:u<U) (j2:c≠u) (N:∀o,C.cell? ⟨c,o,none⟩=none) (R:∀o,C.cell? ⟨u,o,none⟩=none) (hh:bf C (.slice la t.hs.length H) t.hs) (l:eG t) (hs:bi t.m t.ds t.hs=some s) (In:t.m.op<18446744073709551616) (z6:0<=t.m.nb/\t.m.nb<=1125899906842624) (Z5:az t.m.op<=64) (M:U.heap[c]?=some (.cells #[(1000*(az t.m.op:Int) - bE ((t.hs.take 0).map ae.pod):Int),(t.m.nb - ci ((t.hs.take 0).map ae.pod):Int)] 62 (0,0))) (w:dE U u λ_=>false) :
  Code.wp Tryz.prog (Code.loop (kr 0)) (p7 0 λa w'=>∃(E:Value) (f:List (RV × Rn)),FrS (λF=>frS c2 (.int .u64 (s.cp:Nat)) c (F 9) (F 10) (F 11) (E) (F 13) (F 14) (F 16) (F 17) (F 18) (F 19) (F 20) F) (λW'=>f.map Prod.snd=aL t.hs/\dq U W' E (f.map Prod.fst)/\(∀z∈f,lW C z)/\W'.heap[c]?=some (.cells #[(1000*(az t.m.op:Int) - bE ((t.hs.take t.hs.length).map ae.pod):Int),(t.m.nb - ci ((t.hs.take t.hs.length).map ae.pod):Int)] 62 (0,0))/\Apart (λj=>j=c\/j=u) U W') a w') (frS c2 (.int .u64 (t.m.op:Nat)) c (.slice P t.ds.length wc) u (.slice la t.hs.length H) (.slice none 0 0) (0:Int) j3 j1 j4 j5 Ix Z2 F) U:=by
 obtain⟨a1,a2,a3⟩:=dm.1 l.held;have hZ:=(lr l.devs).1;obtain⟨j0,zz,hO,hX,hC⟩:=id hh;have hla:la=j0:=by injection hO with e
 subst hla;have Jq:=qI hC;have h6:=qI hle;have hu:=qI N;have hE:=qI R;have Ji:=qI l;have hR:=qI hs;have HK:=qI a2;have Jd:=qI a3;have Jk:=qI (Zc hs In);have hm:=qI (VD λx hx=>(a2 x hx).1);have hY:=qI M;have h7:=qI w;have Hq:=qI (YO l);clear hO hX hC hle N R hh l hs a2 a3 M w
 conv=>enter [2,1];unfold kr;whnf
 refine Am (λm a wq=>∃(i:Nat) (f:List (RV × Rn)) (lv E iv:Value),m+i=t.hs.length/\iv=.int .i64 i/\lv=.int .u64 ((fa t.m t.ds t.hs i 0).cp:Nat)/\FrS (λF=>frS c2 (lv) c (.slice P t.ds.length wc) u (.slice la t.hs.length H) (E) (iv) (F 14) (F 16) (F 17) (F 18) (F 19) (F 20) F) (λwq=>f.map Prod.snd=aL (t.hs.take i)/\dq U wq E (f.map Prod.fst)/\(∀z∈f,lW C z)/\wq.heap[c]?=some (.cells #[(1000*(az t.m.op:Int) - bE ((t.hs.take i).map ae.pod):Int),(t.m.nb - ci ((t.hs.take i).map ae.pod):Int)] 62 (0,0))/\dE wq u (fa t.m t.ds t.hs i 0).us/\Apart (λj=>j=c\/j=u) U wq) a wq) (n₀:=t.hs.length) ?_ ?_
 ·exact⟨0,[],.int .u64 (t.m.op:Nat),.slice none 0 0,.int .i64 0,rfl,rfl,rfl,FrS.mk (by kernel_rfl) ⟨rfl,Qw _ _ _ _,λx hx=>(List.not_mem_nil hx).elim,hY.o,h7.o,Apart.refl _ _⟩⟩
 ·rintro m a wr ⟨i,f,lv,E,iv,Jr,rfl,rfl,F7,rfl,hI,HX,hH,hA,hT,Hy⟩ K hK;have hi:i<=t.hs.length:=by omega
  simp only[frS,tlS,Nat.reduceAdd];(try dsimp only);have Hl:=qI (tX h6.o Hy (λj o e=>by rcases e with e|e;rw[e];exact hu.o o;rw[e];exact hE.o o));have hf:=qI hI;have HM:=qI hH;have Hz:=qI hA;have hP:=qI hT;have HJ:=qI Hy;have h8:=Hy.size;obtain⟨I,vc,hv⟩:=fI HX;rw[Q9] at hv;subst hv;have HI:=qI HX;have h3:=hm.o i hi;clear hI hH hA hT Hy HX
  by_cases d:i<t.hs.length
  ·obtain⟨L,J,zd,zs,h4,Jo⟩:=Jq.o (by omega);subst h4;obtain⟨Js,Hh⟩:=Jo;obtain⟨⟨q0,q1,q2,q3⟩,He,Hc⟩:=Hh i d;have Jw:f.length<=36:=by
    have h1:f.length=(aL (t.hs.take i)).length:=by rw[<- hf.o,Q9]
    have:=Ze (i:=i) Hq.o a1
    omega
   obtain⟨D,g,hL,_⟩:=id He;obtain⟨ga,gc,hF,_⟩:=Hc.parts;rw[hL] at q2 He;rw[hF] at q3 Hc;have X:=nF d;obtain⟨H0,hp,_⟩:=HK.o _ X;have H6:=Hq.o _ X;have hD:Hu (0<i->cl C L (J+(i - 1)*4) (ah t.hs (i - 1)).pod.nm/\ei (ah t.hs i).pod.nm (ah t.hs (i - 1)).pod.nm=false):=λO=>by
    refine⟨(Hh (i - 1) (by omega)).1.1,?_⟩
    have:=zp.1 Jd.o i d
    unfold qy at this;rw[Qc O,Bool.true_and] at this;exact this
   have he:=qI (ny H0);have HO:=qI λk (hk:k<(ah t.hs i).gs.length)=>Gn hR.o d hk;have Hs:=qI ((Jk.o i hi).2 d);have HZ:=qI λk (hk:k<(ah t.hs i).gs.length)=>Zd Ji.o X hk;have Ht:=qI (Gl t.m t.ds t.hs i);have Jx:=qI (Ga d);have HF:=qI (Gp d);have H2:=qI (Gq d);have Hb:=hm.o (i+1) d;rw[HF.o,H2.o] at Hb;have h9:=qr he.o (lR);have Jh:=oY he.o (lR);have Hg:=qI He;have HT:=qI Hc;have hq:=qI q3;have r0:=Hl.o.cell _ _ _ q0;have r1:=Hl.o.cell _ _ _ q1;have r2:=Hl.o.cell _ _ _ q2;have HG:=qI hp;have Jc:=qI H0;clear Hh He Hc hL hF q0 q1 q2 q3 X hp H0;generalize ah t.hs (i - 1)=y at *;generalize ah t.hs i=x at *;obtain⟨n,H4⟩:∃q,q=de x.pod.cs x.pod.cs.length:=⟨_,rfl⟩;obtain⟨p,HH⟩:∃q,q=cV x.pod.cs x.pod.cs.length:=⟨_,rfl⟩;rw[<- H4] at HF Hb h9;rw[<- HH] at H2 Hb Jh;obtain⟨v,hg⟩:∃q,q=1000*(az t.m.op:Int) - bE ((t.hs.take i).map ae.pod):=⟨_,rfl⟩;obtain⟨A,hN⟩:∃q,q=t.m.nb - ci ((t.hs.take i).map ae.pod):=⟨_,rfl⟩;have Jv:-100000000<=v/\v<=100000000:=by omega
   have JB:-90000000000000000<=A/\A<=90000000000000000:=by omega
   have hJ:Hu ((.cells #[(v - n:Int),(A - p:Int)] 62 (0,0):Obj)=.cells #[(1000*(az t.m.op:Int) - bE ((t.hs.take (i+1)).map ae.pod):Int),(t.m.nb - ci ((t.hs.take (i+1)).map ae.pod):Int)] 62 (0,0)):=by
    grind[Hu]
   rw[<- hg,<- hN] at Hz;have Ho:Hu (∀V,ba V (.slice D x.pod.cs.length g) x.pod.cs->Calls Tryz.prog 41 #[.agg #[x.pod.nm,(x.pod.pr:Int),.slice D x.pod.cs.length g]] V λe w'=>e=.returned (.agg #[(n:Int),(p:Int)])/\Below V.heap.size V w'):=λV hc=>by
    have:=Dp x.pod (cv:=.slice D x.pod.cs.length g) (w:=V) hc he.o
    rw[<- H4,<- HH] at this;exact this
   clear H4 HH hg hN h3 Hb HF H2;have S:=qI ((Q0 wr wr).alloc (lR) (wn x D g));have Hi:=qI (aY wr (wn x D g) rfl);obtain⟨r,HU⟩:∃B,B=wr.heap.size:=⟨_,rfl⟩;rw[<- HU] at Hi
   go_upto_region 14 with fail
   rw[<- HU];generalize wr.alloc (wn x D g)=Q at *;clear r0 r1 r2;have Jf:U<=r:=by omega
   have h2:=S.o.size;clear HU;have hU:=qI (Hl.o.trans (aR.of_below S.o));have hV:=(gS Hi.o).1;have p0:cl Q r (0) x.pod.nm:=ad Hi.o 0;have p1:cl Q r (1) (x.pod.pr:Int):=ad Hi.o 1;have p2:cl Q r (2) (.slice D x.pod.cs.length g):=ad Hi.o 2
   go_wp2_with fail
   refine (Ho.o Q (Hg.o.le hU.o)).mono ?_;rintro e T ⟨rfl,Y⟩;clear p0 p1 p2;have hw:c<wr:=by omega
   have HS:=qI (S.o.trans (Y.mono S.o.size));have hS:=qI ((Y.block r hV).trans Hi.o);have JC:=Y.size;clear Y S Hi hU;have Hm:=qI (HS.o.alloc HS.o.size (.cells #[(n:Int),(p:Int)] 62));have HV:=qI (bQ hS.o (.cells #[(n:Int),(p:Int)] 62));have Ha:=qI (aY T (.cells #[(n:Int),(p:Int)] 62) rfl);have Jj:(T.alloc (.cells #[(n:Int),(p:Int)] 62)).heap.size=T.heap.size+1:=by simp
   obtain⟨Bs,HR⟩:∃B,B=T.heap.size:=⟨_,rfl⟩;rw[<- HR] at Ha;have HC:c≠Bs:=by omega
   go_upto_region 15 with fail
   rw[<- HR];clear HR;generalize T.alloc (.cells #[(n:Int),(p:Int)] 62)=V at *;have Hn:=qI ((Hm.o.block c hw).trans Hz.o);have hz:=qI (HJ.o.trans (Apart.of_below Hm.o));have hl:=qI (hP.o.below Hm.o);have hy:=qI (Hl.o.trans (aR.of_below Hm.o));have Hj:Hu (dq U V (.slice I f.length vc) (f.map Prod.fst)):=mL HI.o Hm.o;have HD:c≠r:=by omega
   have Je:u≠r:=by omega
   have Jt:U<=V.heap.size:=by omega
   clear HS Hm Hz HJ hP Hl HI hS hw;have v0:cl V c (0) (v:Int):=ad Hn.o 0;have w0:=bZ Hn.o 0;have s0:cl V Bs (0) (n:Int):=ad Ha.o 0;have Jz:wrap64 (v - n)=v - n:=by unfold wrap64;omega
   have Jp:=(gS Hn.o).1;have HL:=(gS Ha.o).1
   go_upto_region 16 with fail
   have ha:Hu (Apart (λj=>j=c) V (V.setCell c (v - n:Int))):=Apart.setCell (K:=λj=>j=c) rfl _ _ _;have Hw:Hu ((V.setCell c (v - n:Int)).heap[c]?=some (.cells #[(v - n:Int),(A:Int)] 62 (0,0))):=bd Hn.o 0 _;clear v0 w0 s0;generalize V.setCell c (v - n:Int)=W at *;have v1:cl W c (1) (A:Int):=ad Hw.o 1;have w1:=bZ Hw.o 1;have s1:cl W Bs (1) (p:Int):=(gR (ha.o.block Bs HL λe=>HC e.symm) 1).trans (ad Ha.o 1);have Jy:wrap64 (A - p)=A - p:=by unfold wrap64;omega
   go_upto_region 17 with fail
   have Hk:Hu (Apart (λj=>j=c) V (W.setCell ⟨c,1,none⟩ (A - p:Int))):=ha.o.trans (Apart.setCell (K:=λj=>j=c) rfl _ _ _);have HP:Hu ((W.setCell ⟨c,1,none⟩ (A - p:Int)).heap[c]?=some (.cells #[(v - n:Int),(A - p:Int)] 62 (0,0))):=bd Hw.o 1 _;clear v1 w1 s1 ha Hw;generalize W.setCell ⟨c,1,none⟩ (A - p:Int)=Z at *;rw[hJ.o] at HP;have JA:=Hk.o.size;have Hx:=qI ((Hk.o.block r (gS HV.o).1 λe=>HD e.symm).trans HV.o);have Hr:=qI (tX hy.o Hk.o (λj o e=>by rw[e];exact hu.o o));have hB:=qI (IA hl.o Hk.o λe=>j2 e.symm);have Hp:Hu (dq U Z (.slice I f.length vc) (f.map Prod.fst)):=kM Hj.o Hk.o (λj e1 e2=>by have:=(Hj.o.lt j e1).1;omega);have hG:=qI (hz.o.trans (Hk.o.wide λj e=>.inl e));have hW:x.pod.cs.length<=1000:=by have:=HG.o;omega
   have hr:Hu (cl Z L (J+i*4+3) (.slice ga x.pod.cs.length gc)):=by
    unfold Hu;rw[<- HG.o];exact Hr.o.cell _ _ _ hq.o
   have H8:=(gS Hx.o).1;have H9:c<Z:=by omega
   clear Hk Hn HV hy hl Hj hz Ha hJ Ho;refine wj (G:=(λF=>frS c2 (.int .u64 ((fa t.m t.ds t.hs i 0).cp:Nat)) c (.slice P t.ds.length wc) u (.slice (some ⟨L,J,none⟩) t.hs.length H) (.slice I f.length vc) (.int .i64 (i:Nat)) r (F 16) (F 17) (F 18) (F 19) (F 20) F)) (by kernel_rfl) (λF1=>YD  F1 Z r L J t.hs.length H i D ga g gc x.pod y.pod.nm Hx.o (Hg.o.le Hr.o) Jc.o hr.o d (by omega) (λO=>Hr.o.cell _ _ _ (hD.o O).1) (λO=>(hD.o O).2) hW) ?_;rintro a W2 ⟨F1,rfl,Hf⟩;have Jl:=qI ((Hf.block r H8).trans Hx.o);have Jb:=qI (Hr.o.trans (aR.of_below Hf));have H5:=qI (hB.o.below Hf);have H1:Hu (dq U W2 (.slice I f.length vc) (f.map Prod.fst)):=mL Hp.o Hf;have HK:=qI (hG.o.trans (Apart.of_below Hf));have HN:=qI ((Hf.block c H9).trans HP.o);have Ju:=Hf.size;clear Hf Hx Hr hB Hp hG HP hr;simp only[frD,tlS,Nat.reduceAdd];(try dsimp only)
   go_wp2_with fail
   refine rz (G:=(λF=>frS c2 (.int .u64 ((fa t.m t.ds t.hs i 0).cp:Nat)) c (.slice P t.ds.length wc) u (.slice (some ⟨L,J,none⟩) t.hs.length H) (.slice I f.length vc) (.int .i64 (i:Nat)) r (0:Int) (F 17) (F 18) (F 19) (F 20) F)) (by kernel_rfl) (λF2=>Za F2 (r:=C) (X:=W2) (base:=U.heap.size) r (l:=u) (M:=L) J t.hs.length H i P wc (x:=x) (pa:=D) (ga:=ga) (p:=g) (gc:=gc) (ds:=t.ds) (fa t.m t.ds t.hs i) (V:=.slice I f.length vc) f (aL (t.hs.take i)) Jb.o ZQ (by omega) Jf j6 hE.o Jl.o Hg.o hq.o HT.o HG.o H6 d (by omega) HO.o Hs.o HZ.o hZ hf.o (by omega) H1.o HM.o H5.o) ?_;rintro a W3 ⟨E,zr,F2,rfl,⟨Jg,h5⟩,hM,Hv,ht,H7⟩;have HW:=qI ((H7.block c (by omega) (by omega)).trans HN.o);have H3:=qI (Zb HK.o H7 (λj hj e=>by omega));have Ja:Hu (zr.map Prod.snd=aL (t.hs.take (i+1))):=by grind
   have Jn:=qI hM;have HY:=qI Hv;have hn:=qI ht;rw[<- Ht.o] at hn;clear Jg h5 hM Hv ht H7;simp only[frS,tlS,Nat.reduceAdd];(try dsimp only);rw[<- Ht.o]
   go_wp2_with fail
   refine hK.o _ _ ⟨m - 1,by omega,i+1,zr,.int .u64 ((fa t.m t.ds t.hs (i+1) 0).cp:Nat),E,.int .i64 ((i:Int)+1),by omega,?_,rfl,FrS.mk (by kernel_rfl) ⟨Ja.o,Jn.o,HY.o,HW.o,hn.o,H3.o⟩⟩
   go_num
  ·have Jm:i=t.hs.length:=by omega
   subst Jm;have HE:Hu (f.map Prod.snd=aL t.hs):=by grind
   rw[VC hR.o]
   go_wp2
   exact⟨rfl,_,f,FrS.mk (by kernel_rfl) ⟨HE.o,HI.o,by first|exact HM.o|exact λa b h=>HM.o (a,b) h,Hz.o,HJ.o⟩⟩
section
variable{N:Nat->Prop}{Ba Bd Be Bm:Nat}{t:aT}{dk:Dk}{n:Nat}{w:World}
theorem IB{base:Nat}{W:World}{a:Option Addr}{m c:Nat}{b:List RV}(h:mo base W (.slice a m c) b):m5 W a b:=λf=>by
 obtain⟨l,n,d,_,j⟩:=h;injection d with e1 _ _
 subst e1;obtain⟨g,i,_,e,k⟩:=j f;exact⟨g,i,e,k⟩
theorem IC{α β:Type}{f:α->β}{l:List α}(h:(l.map f).Nodup):l.Nodup:=by
 unfold List.Nodup at *;rw[List.pairwise_map] at h;exact h.imp λ{a b} hab e=>hab (by rw[e])
theorem Ap{W:World}{M B:Nat}(h:B<M)(o:Nat):(fresh M W).cell? ⟨B,o,none⟩=none:=by
 cases e:(fresh M W).cell? ⟨B,o,none⟩ with
 | none=>rfl
 | some v=>exact absurd h (eB (M:=λj=>j<M) e)
theorem room_le{m:aJ}{a:List aj}(h:cr m a=true):bE a<=1000*(az m.op:Int)/\ci a<=m.nb:=by
 grind[cr]
theorem Zg{d W:World}{z:RV × Rn}(h:lW d z)(g:aR d W):bB W z.1/\aN W z.1=z.2/\z.1.dn=z.2.devs.length:=by
 obtain⟨f,j,e,i⟩:=h;obtain⟨a,b,c⟩:=zD (i.le g);refine⟨a,?_,c⟩;unfold aN;rw[f,j,e,b]
end
