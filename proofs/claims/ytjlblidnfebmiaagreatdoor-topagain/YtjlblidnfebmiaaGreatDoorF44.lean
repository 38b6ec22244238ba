import Derived.Test.YtjlblidnfebmiaaGreatDoorF43
set_option maxRecDepth 100000
set_option maxHeartbeats 16000000
open Go Go.RowKit Go.Shelf
attribute [local go_sem] Oper.semAt_some
namespace Go.Proofs.YtjlblidnfebmiaaGreatDoor
abbrev eT:=λ(x0 x1 x2:Nat)=>(.cells #[x0,x1,x2] 36:Obj)
abbrev jL:=λ(x0:Option Addr) (x1:dE) (x2:Nat) (x3:Option Addr) (x4:Nat)=>(.cells #[.slice x0 x1.l.length x2,.int .u64 (x1.keep:Nat),(x1.nb:Int),.slice x3 x1.ds.length x4,(x1.pol:Int)] 27:Obj)
abbrev FP:=λ(Bk Bd Be Ba ab ai k:Nat) (x:Ac) (la:Option Addr) (ll lc:Nat) (pa:Option Addr) (pcc:Nat) (ua:Option Addr) (uc:Nat) (w':World)=>(cl w' Bk (0) Bd/\cl w' Bk (1) Be/\cl w' Bk (2) Ba)/\cl w' ab (ai+k*10) x.kd/\cl w' ab (ai+k*10+1) x.s/\cl w' ab (ai+k*10+2) (x.a:Int)/\cl w' ab (ai+k*10+3) (x.b:Int)/\cl w' ab (ai+k*10+4) (.int .u8 x.m)/\cl w' ab (ai+k*10+5) (.slice la ll lc)/\cl w' ab (ai+k*10+6) x.p.nm/\cl w' ab (ai+k*10+7) (x.p.pr:Int)/\cl w' ab (ai+k*10+8) (.slice pa x.p.cs.length pcc)/\cl w' ab (ai+k*10+9) (.slice ua x.us.length uc)
abbrev FQ:=λ(Bk Ba:Nat) (w':World)=>cl w' Bk (2) Ba
abbrev FR:=λ(Bl Od Oe Oa ab ai k:Nat) (x:Ac) (la:Option Addr) (ll lc:Nat) (pa:Option Addr) (pcc:Nat) (ua:Option Addr) (uc:Nat) (w':World)=>(cl w' Bl (0) Od/\cl w' Bl (1) Oe/\cl w' Bl (2) Oa)/\cl w' ab (ai+k*10) x.kd/\cl w' ab (ai+k*10+1) x.s/\cl w' ab (ai+k*10+2) (x.a:Int)/\cl w' ab (ai+k*10+3) (x.b:Int)/\cl w' ab (ai+k*10+4) (.int .u8 x.m)/\cl w' ab (ai+k*10+5) (.slice la ll lc)/\cl w' ab (ai+k*10+6) x.p.nm/\cl w' ab (ai+k*10+7) (x.p.pr:Int)/\cl w' ab (ai+k*10+8) (.slice pa x.p.cs.length pcc)/\cl w' ab (ai+k*10+9) (.slice ua x.us.length uc)
abbrev FS:=λ(Bl Oa fb fo k:Nat) (q:aj) (qa:Option Addr) (qc:Nat) (w':World)=>cl w' Bl (2) Oa/\cl w' fb (fo+k*3) q.nm/\cl w' fb (fo+k*3+1) (q.pr:Int)/\cl w' fb (fo+k*3+2) (.slice qa q.cs.length qc)
abbrev FT:=λ(Bl Oa:Nat) (w':World)=>cl w' Bl (2) Oa
theorem Wt(c:dE)(v1 v2:Value)(g o:Nat)(G:List Ac)(va:Value)(ps:List aj)(vf:Value)(w:World)(h1:gU w v1 c.l)(h2:et w v2 g o c.ds)(hk:c.keep<18446744073709551616)(hx:oE w va G)(hf:eO w vf ps)(ht:bJ w)(hm:cS w) :
  Calls Tryz.prog 4 #[nX c v1 v2,va,vf] w λe w'=>e=.returned true/\Below w w w':=by
 obtain⟨ca,cc,jC⟩:∃ca cc,v1=.slice ca c.l.length cc:=by
  rcases id h1 with⟨hl,ao,q,rfl⟩|⟨b,o,q,rfl,_⟩
  ·exact⟨ao,q,by rw[hl];rfl⟩
  ·exact⟨_,q,rfl⟩
 obtain⟨da,dc,jr⟩:∃da dc,v2=.slice da c.ds.length dc:=by
  obtain⟨da,dc,e,_⟩:=id h2;exact⟨da,dc,e⟩
 have jM:=qI hx;have HF:=qI hf;obtain⟨aa,j4,jH,jz,JY⟩:=hx;obtain⟨fa,fc,jI,jx,jd⟩:=hf;subst jC jr jH jI;have J6:=qI JY;have jR:=qI jd;have H1:=qI h1;have H2:=qI h2;have HT:=qI ht;have HM:=qI hm;have jY:1<w.heap.size:=ht.2;clear h1 h2 ht hm jz JY jx jd;unfold nX;have hW:=qI ((Q0 w w).alloc (lR) (jL ca c cc da dc));obtain⟨l,h6⟩:∃l,l=w.heap.size:=⟨_,rfl⟩;have Jh:Hu ((w.alloc (jL ca c cc da dc)).heap[l]?=some (jL ca c cc da dc)):=by
  unfold Hu;rw[h6];exact bd w (jL ca c cc da dc) rfl
 go_enter Tryz.func4,Tryz.ntmps4
 go_wp2_with fail
 rw[<- h6];generalize (w.alloc (jL ca c cc da dc))=X at *;clear h6;refine (V7 X (HT.o.below hW.o) (HM.o.below hW.o)).mono ?_;rintro e W1 ⟨rfl,T⟩;have ja:l<X.heap.size:=(gS Jh.o).1;have Ha:Hu (∀W,Below X X W->W.heap[l]?=some (jL ca c cc da dc)/\Below w w W):=λW y=>⟨(y.block l ja).trans Jh.o,hW.o.trans (y.mono hW.o.size)⟩
 have R:=qI T;clear T Jh;have x0:cl W1 l (0) (.slice ca c.l.length cc):=ad (Ha.o _ R.o).1 0;have x1:cl W1 l (1) (.int .u64 (c.keep:Nat)):=ad (Ha.o _ R.o).1 1;have x2:cl W1 l (2) (c.nb:Int):=ad (Ha.o _ R.o).1 2;have x3:cl W1 l (3) (.slice da c.ds.length dc):=ad (Ha.o _ R.o).1 3;have x4:cl W1 l (4) (c.pol:Int):=ad (Ha.o _ R.o).1 4;have Jp:=qI (VX c (.slice ca c.l.length cc) (.slice da c.ds.length dc) g o W1 (H1.o.below (Ha.o _ R.o).2) (H2.o.below (Ha.o _ R.o).2));unfold nX at Jp
 go_wp2_with fail
 refine Jp.o.mono ?_;rintro e W2 ⟨⟨b,rfl⟩,Hw⟩;have H9:=qI (R.o.trans (Hw.mono R.o.size));clear Hw x0 x1 x2 x3 x4 Jp R
 rcases two b with rfl|rfl
 rotate_left
 ·go_wp2
  go_ret;exact⟨rfl,(Ha.o _ H9.o).2⟩
 have jh:=qI (Ua (.slice aa G.length j4) G 20 W2 (jM.o.below (Ha.o _ H9.o).2))
 go_wp2_with fail
 refine jh.o.mono ?_;rintro e W3 ⟨⟨b,rfl,Hy⟩,hE⟩;have hN:=qI (H9.o.trans (hE.mono H9.o.size));have Hr:=qI Hy;clear hE jh Hy H9
 rcases two b with rfl|rfl
 rotate_left
 ·go_wp2
  go_ret;exact⟨rfl,(Ha.o _ hN.o).2⟩
 have jZ:G.length<=20:=by have:=(Hr.o rfl).1;omega
 have jj:=qI (Hr.o rfl).2;clear Hr;have JF:=qI (Lu (.slice fa ps.length fc) ps W3 (HF.o.below (Ha.o _ hN.o).2))
 go_wp2_with fail
 refine JF.o.mono ?_;rintro e W4 ⟨⟨b,rfl,Hy⟩,J0⟩;have Ht:=qI (hN.o.trans (J0.mono hN.o.size));have Hr:=qI Hy;clear J0 JF Hy hN
 rcases two b with rfl|rfl
 rotate_left
 ·go_wp2
  go_ret;exact⟨rfl,(Ha.o _ Ht.o).2⟩
 have jV:ps.length<=16:=Hr.o rfl;clear Hr;have x0:cl W4 l (0) (.slice ca c.l.length cc):=ad (Ha.o _ Ht.o).1 0;have x1:cl W4 l (1) (.int .u64 (c.keep:Nat)):=ad (Ha.o _ Ht.o).1 1;have x2:cl W4 l (2) (c.nb:Int):=ad (Ha.o _ Ht.o).1 2;have x3:cl W4 l (3) (.slice da c.ds.length dc):=ad (Ha.o _ Ht.o).1 3;have x4:cl W4 l (4) (c.pol:Int):=ad (Ha.o _ Ht.o).1 4;have Jq:Hu (∀W,Below w w W->Calls Tryz.prog 9 #[.agg #[.slice ca c.l.length cc,.int .u64 (c.keep:Nat),(c.nb:Int),.slice da c.ds.length dc,(c.pol:Int)]] W λe w'=>FF W w' c e):=λW y=>FG c (.slice ca c.l.length cc) (.slice da c.ds.length dc) g o W (H1.o.below y) (H2.o.below y) hk (HT.o.below y) (HM.o.below y)
 go_wp2_with fail
 clear x0 x1 x2 x3 x4;refine (Jq.o W4 (Ha.o _ Ht.o).2).mono ?_;rintro e W5 ⟨HV,Hc,Hk⟩;have hD:=qI ((Ha.o _ Ht.o).2.trans (Hk.mono (Ha.o _ Ht.o).2.size));have J1:=(Ha.o _ Ht.o).2.size
 by_cases N:cX c=0
 rotate_left
 ·obtain⟨bp,bq,rfl⟩:=HV N;clear HV Hc Hk Jq N;have h5:=qI (hD.o.alloc hD.o.size (.cells #[.pointer bp,.pointer bq,.pointer none] 36))
  go_wp2
  go_ret;exact⟨rfl,h5.o⟩
 obtain⟨u,a,D,s,rfl,JI,l1,l2,l3,l4,JQ⟩:=Hc N;have hY:=qI JI;have JO:=qI JQ;have jt:=qI (Wj N);have JL:=qI N;have jF:=qI (((Hk.block l (by have:=Ht.o.size;omega)).trans (Ha.o _ Ht.o).1));have Jo:=Ht.o.size;clear HV Hc Hk JI N JQ;have h5:=qI (hD.o.alloc hD.o.size (eT a D u));have hr:=qI ((Q0 W5 W5).alloc (lR) (eT a D u));have h7:=qI (bd W5 (eT a D u) rfl);have JN:=qI (cC jF.o (eT a D u));obtain⟨F,Jl⟩:∃F,F=W5.heap.size:=⟨_,rfl⟩;rw[<- Jl] at h7
 go_wp2_with fail
 rw[<- Jl];generalize W5.alloc (eT a D u)=Y at *;obtain⟨⟨a1,a2,a3⟩,a4⟩:=hY.o.lts;have HL:Hu ((w<=u/\w<=a/\w<=s)/\F≠u/\F≠a/\F≠s):=⟨⟨by omega,by omega,by omega⟩,by omega,by omega,by omega⟩;have HQ:Hu (l≠u/\l≠a/\l≠s):=⟨by omega,by omega,by omega⟩;have JH:Hu (dA w Y u):=(hY.o.poolKeep hr.o JO.o).less J1;have hZ:Hu (aI Y jJ u a D s ⟨cB c,c.ds,[]⟩ Dk.fresh 0):=hY.o.keep hr.o;have J7:Hu (∀W,Below w w W->bJ W/\aZ w (au (four jJ u a s) W)/\∀W',Apart (three u a s) W W'->bJ W'):=λW y=>Wk HT.o HL.o.1 y
 clear Jl a1 a2 a3 a4 l1 l2 l3 l4 J1 hY JO hr hD ja Jo
 go_wp2
 go_loopw [9] (λi W=>∃k:Nat,k<=G.length/\i=.int .i64 k/\(Below w w W/\W.heap[F]?=some (eT a D u)/\W.heap[l]?=some (jL ca c cc da dc))/\dA w W u/\∃t L n,n<=3*k/\Trace c G k t/\bS t.m (t.hs.map af.pod)=true/\aI W jJ u a D s t L n) (λi _=>G.length - (intOf i).toNat)
 case atStart=>exact⟨0,Nat.zero_le _,rfl,⟨h5.o,h7.o,JN.o⟩,JH.o,_,_,0,lR,rfl,yy jt.o,hZ.o⟩
 case round=>
  obtain⟨k,h0,rfl,hz,hM,t,L,n,hn,hy,JM,HK⟩:=hrel;have Hb:=qI hz;have Z:=qI hM;have He:=qI HK;have H8:=qI JM;have Ho:=qI hy;clear hz hM HK JM hy
  by_cases I:k<G.length
  ·obtain⟨ab,ai,rfl,HR,H7⟩:=J6.o (by omega);obtain⟨hc,Hj⟩:=H7 k I;have hp:=jj.o k I;have hH:=qI λhs=>FN Ho.o hs;have Jz:=qI λ(hs:dT (ac G k)=false) (t':bl) (f:Nat) (h2:Stepped t (ac G k) f t')=>FO Ho.o He.o.inv hs h2;generalize ac G k=x at *;obtain⟨la,ll,lc,hG⟩:=Hj.l;obtain⟨pa,H,HN,_⟩:=id Hj.c;obtain⟨ua,U,HX,_⟩:=id Hj.u;have Hm:=Hj.c;have Hn:=Hj.u;rw[HN] at Hm;rw[HX] at Hn;have hv:∀j,j<10->w.cell? ⟨ab,ai+k*10+j,none⟩=([.string x.kd,.string x.s,.int .i64 x.a,.int .i64 x.b,.int .u8 x.m,.slice la ll lc,.string x.p.nm,.int .i64 x.p.pr,.slice pa x.p.cs.length H,.slice ua x.us.length U]:List Value)[j]?:=by
    rw[<- hG,<- HN,<- HX];exact hc
   have Jk:=qI hv;have HP:=qI Hm;have Je:=qI Hn;have h8:=qI hp;have Jn:=Hj.a.1;have JB:=Hj.a.2;clear hc Hj H7 hG HN HX Hm Hn hv hp Ho;have Hg:Hu (∀W,(Below w w W/\W.heap[F]?=some (eT a D u)/\W.heap[l]?=some (jL ca c cc da dc))->(FP F a D u ab ai k x la ll lc pa H ua U) W):=λW he=>by
    have Hf:∀j,j<10->W.cell? ⟨ab,ai+k*10+j,none⟩=([.string x.kd,.string x.s,.int .i64 x.a,.int .i64 x.b,.int .u8 x.m,.slice la ll lc,.string x.p.nm,.int .i64 x.p.pr,.slice pa x.p.cs.length H,.slice ua x.us.length U]:List Value)[j]?:=λj O=>(he.1.cell (p:=⟨ab,_,none⟩) HR).trans (Jk.o j O)
    exact⟨⟨ad he.2.1 0,ad he.2.1 1,ad he.2.1 2⟩,Hf 0 (by decide),Hf 1 (by decide),Hf 2 (by decide),Hf 3 (by decide),Hf 4 (by decide),Hf 5 (by decide),Hf 6 (by decide),Hf 7 (by decide),Hf 8 (by decide),Hf 9 (by decide)⟩
   have y0:=(Hg.o wr Hb.o).2.1
   rcases two (x.kd.toList == [115,105,99,107]) with HE|HE
   ·have Ho:=qI (hH.o (show dT x=true by unfold dT;rw[HE];rfl))
    go_wp2
    go_roundw
    case rel=>exact⟨k+1,by omega,by go_num,Hb.o,Z.o,t,L,n,by omega,Ho.o,H8.o,He.o⟩
    case measure=>simp[intOf];omega
   rcases two (x.kd.toList == [119,101,108,108]) with Hi|Hi
   ·have Ho:=qI (hH.o (show dT x=true by unfold dT;rw[Hi,Bool.or_true]))
    go_wp2
    go_roundw
    case rel=>exact⟨k+1,by omega,by go_num,Hb.o,Z.o,t,L,n,by omega,Ho.o,H8.o,He.o⟩
    case measure=>simp[intOf];omega
   have Ju:Hu (dT x=false):=by unfold Hu dT;rw[HE,Hi];rfl
   go_upto_region 13 with fail
   clear y0 HE Hi;have Hh:Hu (Below w w wr.drew/\wr.drew.heap[F]?=some (eT a D u)/\wr.drew.heap[l]?=some (jL ca c cc da dc)):=⟨bB Hb.o.1,Hb.o.2⟩;have Hp:Hu (aI wr.drew jJ u a D s t L n):=He.o.keep (bB (Q0 _ _));have H3:Hu (dA w wr.drew u):=He.o.poolKeep (bB (Q0 _ _)) Z.o;refine wp_region_held_drew (S:=((FP F a D u ab ai k x la ll lc pa H ua U))) (by kernel_rfl) (Hg.o _ Hh.o) λC=>?_;generalize wr.drew=V at *;refine tk 0 ?_;refine tk 1 ?_;refine tk 2 ?_;refine tk 3 ?_;refine tk 4 ?_;refine rd 5 λK m=>?_;go_simp
   go_wp2_with fail
   refine (FK Hp.o (HP.o.le (J7.o V Hh.o.1).2.1) (Je.o.below Hh.o.1) h8.o Jn JB (by omega) (J7.o V Hh.o.1).2.2).mono ?_;rintro e M ⟨f,t2,rfl,HY,⟨j0,n2,h4,HJ⟩,HI,Hl⟩;have hu:Hu (Below w w M/\M.heap[F]?=some (eT a D u)/\M.heap[l]?=some (jL ca c cc da dc)):=⟨FM H3.o HL.o.1 Hh.o.1 HI,yI Hp.o HL.o.2 Hh.o.2.1 HI (ad Hh.o.2.1 0) (λ_ e=>by cases e),yI Hp.o HQ.o Hh.o.2.2 HI (ad Hh.o.2.2 0) (λ_ e=>by cases e)⟩;have HH:=qI HJ;have JD:=qI (Hl w Hh.o.1.size H3.o);have h3:=qI (Wl Hp.o.inv H8.o HY);have Jr:=qI (Jz.o Ju.o t2 f HY);have hq:n2<=3*(k+1):=by omega
   clear HJ HI Hl HY h4
   go_wp2_with fail
   refine m.o _ _ (Hg.o _ hu.o) λC=>?_;clear m K;refine Qn (by kernel_rfl) ?_ _;clear C
   go_wp2
   go_roundw
   case rel=>exact⟨k+1,by omega,by go_num,hu.o,JD.o,t2,j0,n2,hq,Jr.o,h3.o,HH.o⟩
   case measure=>simp[intOf];omega
  ·have Jf:k=G.length:=by omega
   subst Jf;obtain⟨tm,td,hs⟩:=t;obtain⟨hm,ag⟩:=FL Ho.o;dsimp only at hm ag;subst hm ag;have jX:n<=60:=by omega
   have jg:=qI (FD jJ c (.slice ca c.l.length cc) (.slice da c.ds.length dc) g o a D s L n (aN hs) wr (H1.o.below Hb.o.1) (H2.o.below Hb.o.1) hk (pR He.o.eng.disk He.o.calm) He.o.calm He.o.txt.2.2.1 He.o.txt.2.2.2 He.o.eng (by omega) (HT.o.below Hb.o.1) (HM.o.below Hb.o.1) (λj h=>h.elim) ⟨id,id,id⟩);have y0:cl wr F (0) a:=ad Hb.o.2.1 0;have y1:cl wr F (1) D:=ad Hb.o.2.1 1;have y2:cl wr F (2) u:=ad Hb.o.2.1 2;have x0:cl wr l (0) (.slice ca c.l.length cc):=ad Hb.o.2.2 0;have x1:cl wr l (1) (.int .u64 (c.keep:Nat)):=ad Hb.o.2.2 1;have x2:cl wr l (2) (c.nb:Int):=ad Hb.o.2.2 2;have x3:cl wr l (3) (.slice da c.ds.length dc):=ad Hb.o.2.2 3;have x4:cl wr l (4) (c.pol:Int):=ad Hb.o.2.2 4;clear I h0 hn
   go_wp2_with fail
   clear y0 y1 y2 x0 x1 x2 x3 x4;refine jg.o.mono ?_;rintro e Q ⟨_,Hc,hF⟩;obtain⟨z,Hi,j0,n2,rfl,JA,h4,HJ,jG,Hl⟩:=Hc JL.o;have JC:n2<=96:=by have:=Wn JA h4;omega
   obtain⟨hB,jw⟩:=Ws He.o H8.o JA;subst hB jw;have HH:=qI HJ;have Hq:=qI hF;have H5:=qI Hl;have Jb:z≠F:=by have:=(gS Hb.o.2.1).1;omega
   have H4:w<=z:=by have:=Hb.o.1.size;omega
   have Jd:z≠l:=by have:=(gS Hb.o.2.2).1;omega
   have HW:Hu (Below w w Q/\Q.heap[F]?=some (eT a D u)/\Q.heap[l]?=some (jL ca c cc da dc)):=by
    refine⟨Wm HL.o Hb.o.1 Hq.o,(Hq.o.block F (gS Hb.o.2.1).1 ?_).trans Hb.o.2.1,(Hq.o.block l (gS Hb.o.2.2).1 ?_).trans Hb.o.2.2⟩
    ·rintro (e|e)
     ·exact HL.o.2.2.1 e
     ·exact HL.o.2.2.2 e
    ·rintro (e|e)
     ·exact HQ.o.2.1 e
     ·exact HQ.o.2.2 e
   clear Hc hF JA h4 HJ jG Hl jg;have Jv:Hu (∀W,Below Q Q W->(Below w w W/\W.heap[F]?=some (eT a D u)/\W.heap[l]?=some (jL ca c cc da dc))):=λW y=>⟨HW.o.1.trans (y.mono HW.o.1.size),(y.block F (gS HW.o.2.1).1).trans HW.o.2.1,(y.block l (gS HW.o.2.2).1).trans HW.o.2.2⟩
   have Hg:Hu (∀W,Below Q Q W->(FQ F u) W):=λW y=>ad (Jv.o W y).2.1 2
   go_upto_region 15 with fail
   have hO:Hu (Below Q Q Q.drew):=bB (Q0 _ _);refine wp_region_held_drew (S:=((FQ F u))) (by kernel_rfl) (Hg.o _ hO.o) λC=>?_;generalize Q.drew=V at *;refine tk 0 ?_;refine tk 1 ?_;refine tk 2 ?_;refine tk 3 ?_;refine tk 4 ?_;refine tk 5 ?_;refine tk 6 ?_;refine tk 7 ?_;refine tk 9 ?_;refine tk 10 ?_;refine rd 8 λK m=>?_;go_simp
   go_wp2_with fail
   refine (yH (HH.o.keep hO.o)).mono ?_;rintro e V1 ⟨p1,q1,rfl,hg,T⟩;have hi:=qI (hO.o.trans (T.mono hO.o.size));have jf:Hu (aY V1 (.slice p1 Hi.length q1) Hi):=hg.le (cJ _ _);clear hg T;(try dsimp only)
   go_wp2_with fail
   refine m.o _ _ (Hg.o _ hi.o) λC=>?_;clear m K;refine rd 11 λK m=>?_;go_simp
   go_wp2_with fail
   refine (Wo He.o (Hq.o.trans (Apart.of_below hi.o))).mono ?_;rintro e M ⟨p2,q2,rfl,hL,Hw⟩;have hV:=qI (hi.o.trans (Hw.mono hi.o.size));have JX:=qI (jf.o.below Hw);have JP:Hu (aY M (.slice p2 Hi.length q2) Hi):=hL.le (RC _ _);clear hL Hw;(try dsimp only)
   go_wp2_with fail
   refine m.o _ _ (Hg.o _ hV.o) λC=>?_;clear m K;refine rd 12 λK m=>?_;go_simp
   go_wp2_with fail
   refine (Cz _ _ Hi Hi M JX.o JP.o).mono ?_;rintro e V3 ⟨b3,rfl,Hx,hE⟩;have Jx:=Hx rfl;subst Jx;have HG:=qI (hV.o.trans (hE.mono hV.o.size));clear Hx hE
   go_wp2_with fail
   refine m.o _ _ (Hg.o _ HG.o) λC=>?_;clear m K;refine tk 13 ?_;refine tk 14 ?_;refine tk 15 ?_;refine tk 16 ?_;refine tk 18 ?_;refine tk 19 ?_;refine rd 17 λK m=>?_;go_simp
   go_wp2_with fail
   refine (Wb (HH.o.keep HG.o)).mono ?_;rintro e V4 ⟨⟨s4,Hv,rfl⟩,Jw⟩;have Jw:=Jw.symm;subst Jw;have JE:=qI Hv;clear Hv
   go_wp2_with fail
   refine m.o _ _ (Hg.o _ HG.o) λC=>?_;clear m K;refine rd 20 λK m=>?_;go_simp
   go_wp2_with fail
   refine (Wr He.o (Hq.o.trans (Apart.of_below HG.o))).mono ?_;rintro e V5 ⟨⟨s5,J3,rfl⟩,Ja⟩;have Ja:=Ja.symm;subst Ja;have jo:s5=s4:=by
    have h1:=JE.o;rw[J3] at h1;injection h1
   subst jo;clear J3
   go_wp2_with fail
   refine m.o _ _ (Hg.o _ HG.o) λC=>?_;clear m K;refine tk 21 ?_;refine tk 22 ?_;refine Qn (by kernel_rfl) ?_ _;clear C;have Hz:=qI (Jv.o _ HG.o);have hR:=qI (HH.o.keep HG.o);have jS:=qI (HH.o.poolKeep HG.o H5.o);clear Hg Jv hO hi hV HG jf JX JP JE HW HH H5 Hq;generalize V3=v at *;have x0:cl v l (0) (.slice ca c.l.length cc):=ad Hz.o.2.2 0;have x1:cl v l (1) (.int .u64 (c.keep:Nat)):=ad Hz.o.2.2 1;have x2:cl v l (2) (c.nb:Int):=ad Hz.o.2.2 2;have x3:cl v l (3) (.slice da c.ds.length dc):=ad Hz.o.2.2 3;have x4:cl v l (4) (c.pol:Int):=ad Hz.o.2.2 4
   go_wp2_with fail
   clear x0 x1 x2 x3 x4;refine (Jq.o _ Hz.o.1).mono ?_;rintro e W7 ⟨_,Hc,Hk⟩;obtain⟨d,r,J,B,rfl,hC,m1,m2,m3,m4,je⟩:=Hc JL.o;have hT:=qI hC;have J9:=qI je;have Js:=qI Hk;have jy:=Hk.size;clear Hc Hk hC je;have JV:=qI (Js.o.alloc Js.o.size (eT r J d));have hS:=qI ((Q0 W7 W7).alloc (lR) (eT r J d));have JT:=qI (bd W7 (eT r J d) rfl);obtain⟨E,h9⟩:∃E,E=W7.heap.size:=⟨_,rfl⟩;rw[<- h9] at JT
   go_wp2_with fail
   rw[<- h9];generalize W7.alloc (eT r J d)=Y at *;obtain⟨⟨b1,b2,b3⟩,b4⟩:=hT.o.lts;obtain⟨⟨a1,a2,a3⟩,a4⟩:=hR.o.lts;have jl:=Hz.o.1.size;have js:=hS.o.size;have HO:Hu ((v<=d/\v<=r/\v<=B)/\E≠d/\E≠r/\E≠B):=⟨⟨by omega,by omega,by omega⟩,by omega,by omega,by omega⟩;have hI:Hu ((w<=z/\w<=a/\w<=s)/\E≠z/\E≠a/\E≠s):=⟨⟨H4,HL.o.1.2.1,HL.o.1.2.2⟩,by omega,by omega,by omega⟩;have jm:Hu (aI Y (three z a s) d r J B ⟨cB c,c.ds,[]⟩ Dk.fresh 0):=(hT.o.keep hS.o).wide rfl (hR.o.keep JV.o) ⟨by rintro (e|e|e) <;> omega,by rintro (e|e|e) <;> omega,by rintro (e|e|e) <;> omega,by rintro (e|e|e) <;> omega⟩;have jT:Hu (dA v Y d):=hT.o.poolKeep hS.o J9.o;have HZ:Hu (∀W,Below v v W->Below w w W/\bJ W/\aZ w (au (four (three z a s) d r B) W)/\∀W',Apart (three d r B) W W'->bJ W'):=λW y=>by
    have ho:=Hz.o.1.trans (y.mono Hz.o.1.size);have hla:=hI.o.1;have jQ:=HO.o.1;refine⟨ho,HT.o.below ho,mK ho rfl λj O=>?_,λW' ha=>HT.o.below (oL ho ho.size ha λj O=>?_)⟩
    ·rcases O with (e|e|e)|e|e|e <;> omega
    ·rcases O with e|e|e <;> omega
   have hw:Hu (∀W,Below v v W->d<W/\r<W/\B<W->aI W (three d r B) z a D s ⟨cB c,c.ds,Hi⟩ j0 n2):=λW y hl=>hR.o.grow y (λj O=>.inr (by rcases O with e|e|e <;> omega)) (λj O=>by rcases O with e|e|e <;> omega)
   clear hT Js hS J9 hR jS a1 a2 a3 a4 b1 b2 b3 b4 m1 m2 m3 m4 h9 jy jl js Jb H4 Jd;clear Hb Z He H8 JH hZ h5 h7 JN
   go_wp2
   go_loopw [13] (λi W=>∃k:Nat,k<=G.length/\i=.int .i64 k/\(Below v v W/\W.heap[E]?=some (eT r J d))/\dA v W d/\∃t L n,n<=3*k/\Trace c G k t/\aI W (three z a s) d r J B t L n) (λi _=>G.length - (intOf i).toNat)
   case atStart=>exact⟨0,Nat.zero_le _,rfl,⟨JV.o,JT.o⟩,jT.o,_,_,0,lR,rfl,jm.o⟩
   case round=>
    obtain⟨k,h0,rfl,hz,hM,t,L,n,hn,hy,HK⟩:=hrel;have Hb:=qI hz;have Z:=qI hM;have He:=qI HK;have hJ:=qI hy;clear hz hM HK hy
    by_cases I:k<G.length
    ·obtain⟨ab,ai,rfl,HR,H7⟩:=J6.o (by omega);obtain⟨hc,Hj⟩:=H7 k I;have hp:=jj.o k I;have hH:=qI λhs=>FN hJ.o hs;have Jz:=qI λ(hs:dT (ac G k)=false) (t':bl) (f:Nat) (h2:Stepped t (ac G k) f t')=>FO hJ.o He.o.inv hs h2;generalize ac G k=x at *;obtain⟨la,ll,lc,hG⟩:=Hj.l;obtain⟨pa,H,HN,_⟩:=id Hj.c;obtain⟨ua,U,HX,_⟩:=id Hj.u;have Hm:=Hj.c;have Hn:=Hj.u;rw[HN] at Hm;rw[HX] at Hn;have hv:∀j,j<10->w.cell? ⟨ab,ai+k*10+j,none⟩=([.string x.kd,.string x.s,.int .i64 x.a,.int .i64 x.b,.int .u8 x.m,.slice la ll lc,.string x.p.nm,.int .i64 x.p.pr,.slice pa x.p.cs.length H,.slice ua x.us.length U]:List Value)[j]?:=by
      rw[<- hG,<- HN,<- HX];exact hc
     have Jk:=qI hv;have HP:=qI Hm;have Je:=qI Hn;have h8:=qI hp;have Jn:=Hj.a.1;have JB:=Hj.a.2;clear hc Hj H7 hG HN HX Hm Hn hv hp hJ;have Hg:Hu (∀W,(Below v v W/\W.heap[E]?=some (eT r J d))->(FR E r J d ab ai k x la ll lc pa H ua U) W):=λW he=>by
      have Hf:∀j,j<10->W.cell? ⟨ab,ai+k*10+j,none⟩=([.string x.kd,.string x.s,.int .i64 x.a,.int .i64 x.b,.int .u8 x.m,.slice la ll lc,.string x.p.nm,.int .i64 x.p.pr,.slice pa x.p.cs.length H,.slice ua x.us.length U]:List Value)[j]?:=λj O=>((HZ.o _ he.1).1.cell (p:=⟨ab,_,none⟩) HR).trans (Jk.o j O)
      exact⟨⟨ad he.2 0,ad he.2 1,ad he.2 2⟩,Hf 0 (by decide),Hf 1 (by decide),Hf 2 (by decide),Hf 3 (by decide),Hf 4 (by decide),Hf 5 (by decide),Hf 6 (by decide),Hf 7 (by decide),Hf 8 (by decide),Hf 9 (by decide)⟩
     have y0:=(Hg.o wr Hb.o).2.1
     rcases two (x.kd.toList == [115,105,99,107]) with HE|HE
     ·have Ho:=qI (hH.o (show dT x=true by unfold dT;rw[HE];rfl))
      go_wp2
      go_roundw
      case rel=>exact⟨k+1,by omega,by go_num,Hb.o,Z.o,t,L,n,by omega,Ho.o,He.o⟩
      case measure=>simp[intOf];omega
     rcases two (x.kd.toList == [119,101,108,108]) with Hi|Hi
     ·have Ho:=qI (hH.o (show dT x=true by unfold dT;rw[Hi,Bool.or_true]))
      go_wp2
      go_roundw
      case rel=>exact⟨k+1,by omega,by go_num,Hb.o,Z.o,t,L,n,by omega,Ho.o,He.o⟩
      case measure=>simp[intOf];omega
     have Ju:Hu (dT x=false):=by unfold Hu dT;rw[HE,Hi];rfl
     go_upto_region 24 with fail
     clear y0 HE Hi;have Hh:Hu (Below v v wr.drew/\wr.drew.heap[E]?=some (eT r J d)):=⟨bB Hb.o.1,Hb.o.2⟩;have Hp:Hu (aI wr.drew (three z a s) d r J B t L n):=He.o.keep (bB (Q0 _ _));have H3:Hu (dA v wr.drew d):=He.o.poolKeep (bB (Q0 _ _)) Z.o;refine wp_region_held_drew (S:=((FR E r J d ab ai k x la ll lc pa H ua U))) (by kernel_rfl) (Hg.o _ Hh.o) λC=>?_;generalize wr.drew=V at *;refine tk 0 ?_;refine tk 1 ?_;refine tk 2 ?_;refine tk 3 ?_;refine tk 4 ?_;refine rd 5 λK m=>?_;go_simp
     go_wp2_with fail
     refine (FK Hp.o (HP.o.le (HZ.o V Hh.o.1).2.2.1) (Je.o.below (HZ.o V Hh.o.1).1) h8.o Jn JB (by omega) (HZ.o V Hh.o.1).2.2.2).mono ?_;rintro e M ⟨f,t2,rfl,HY,⟨P,n3,hq,HJ⟩,HI,Hl⟩;have hu:Hu (Below v v M/\M.heap[E]?=some (eT r J d)):=⟨FM H3.o HO.o.1 Hh.o.1 HI,yI Hp.o HO.o.2 Hh.o.2 HI (ad Hh.o.2 0) (λ_ e=>by cases e)⟩;have HH:=qI HJ;have JD:=qI (Hl v Hh.o.1.size H3.o);have Jr:=qI (Jz.o Ju.o t2 f HY);have Jg:n3<=3*(k+1):=by omega
     clear HJ HI Hl HY hq
     go_wp2_with fail
     refine m.o _ _ (Hg.o _ hu.o) λC=>?_;clear m K;refine Qn (by kernel_rfl) ?_ _;clear C
     go_wp2
     go_roundw
     case rel=>exact⟨k+1,by omega,by go_num,hu.o,JD.o,t2,P,n3,Jg,Jr.o,HH.o⟩
     case measure=>simp[intOf];omega
    ·have Jf:k=G.length:=by omega
     subst Jf;have jv:=trace_one hJ.o Ho.o;subst jv;have jq:=qI (hw.o wr Hb.o.1 He.o.lts.1);generalize hZ1:wr=Z1 at *;have jp:E<Z1.heap.size:=(gS Hb.o.2).1;have Hs:Hu (∀W,Apart (λj=>three z a s j\/three d r B j) Z1 W->W.heap[E]?=some (eT r J d)/\bJ W/\Below w w W/\aZ w (au (four (three d r B) z a s) W)/\aZ w (au (four (three z a s) d r B) W)):=λW ha=>by
      have J2:=(HZ.o Z1 Hb.o.1).1;have jW:=Hz.o.1.size;have jQ:=HO.o.1;have hla:=hI.o.1;have y:=oL J2 J2.size ha (λj O=>by rcases O with (e|e|e)|(e|e|e) <;> omega);refine⟨(ha.block E jp ?_).trans Hb.o.2,HT.o.below y,y,mK y rfl ?_,mK y rfl ?_⟩
      ·rintro ((e|e|e)|(e|e|e))
       ·exact hI.o.2.1 e
       ·exact hI.o.2.2.1 e
       ·exact hI.o.2.2.2 e
       ·exact HO.o.2.1 e
       ·exact HO.o.2.2.1 e
       ·exact HO.o.2.2.2 e
      ·rintro j ((e|e|e)|(e|e|e)) <;> omega
      ·rintro j ((e|e|e)|(e|e|e)) <;> omega
     clear I h0 Z hw HZ Ho hJ
     go_wp2
     go_loopw [14] (λi wr=>∃k:Nat,k<=ps.length/\i=.int .i64 k/\Apart (λj=>three z a s j\/three d r B j) Z1 wr/\∃hs L n j2 n',n<=96+3*k/\n'<=60+3*k/\aI wr (three d r B) z a D s ⟨cB c,c.ds,hs⟩ L n/\aI wr (three z a s) d r J B ⟨cB c,c.ds,hs⟩ j2 n') (λi _=>ps.length - (intOf i).toNat)
     case atStart=>exact⟨0,Nat.zero_le _,rfl,Apart.refl _ _,Hi,j0,n2,L,n,JC,by omega,jq.o,He.o⟩
     case round=>
      obtain⟨k,h0,rfl,hF,hs,j6,na,j3,nb,jK,jn,HK,JR⟩:=hrel;have Hq:=qI hF;have Ji:=qI HK;have JG:=qI JR;clear hF HK JR
      by_cases I:k<ps.length
      ·obtain⟨fb,fo,j5,rfl,Jj⟩:=jR.o (by omega);obtain⟨⟨r0,r1,r2⟩,hX⟩:=Jj.2 k I;obtain⟨qa,qc,J8,_⟩:=id hX;rw[J8] at hX r2;have HP:=qI hX;have jb:=qI r0;have JU:=qI r1;have h3:=qI r2;have HU:fb<w:=Jj.1;clear Jj hX J8 r0 r1 r2;generalize aO ps k=q at *;have Hg:Hu (∀W,Apart (λj=>three z a s j\/three d r B j) Z1 W->(FS E d fb fo k q qa qc) W):=λW ha=>by
        obtain⟨e1,e2,e4,e5⟩:=Hs.o W ha;exact⟨ad e1 2,(e4.cell (p:=⟨fb,_,none⟩) HU).trans jb.o,(e4.cell (p:=⟨fb,_,none⟩) HU).trans JU.o,(e4.cell (p:=⟨fb,_,none⟩) HU).trans h3.o⟩
       obtain⟨A,hA⟩:∃A,A=bi ⟨cB c,c.ds,hs⟩ q:=⟨_,rfl⟩;have Jt:=qI hA;clear hA;obtain⟨_,z0,z1,z2⟩:=Hg.o wr Hq.o;have HD:=qI (yG (p:=q) (cv:=.slice qa q.cs.length qc) Ji.o (HP.o.le (Hs.o wr Hq.o).2.2.2.1) (Hs.o wr Hq.o).2.1 (by omega));unfold cz at HD;rw[<- Jt.o] at HD
       go_wp2_with fail
       refine HD.o.mono ?_;rintro e V0 ⟨rfl,⟨P,n3,⟨hq,_⟩,hC⟩,Jy⟩;have J4:=qI (Hq.o.trans (Jy.wide λj e=>.inl e));have ji:=qI hC;have JK:=qI (JG.o.other Jy Ji.o.noInt);clear hC Jy HD z0 z1 z2
       go_upto_region 29 with fail
       have H6:Hu (Apart (λj=>three z a s j\/three d r B j) Z1 V0.drew):=J4.o.trans (Apart.of_below (bB (Q0 _ _)));have Hp:Hu (aI V0.drew (three d r B) z a D s ⟨cB c,c.ds,A.2⟩ P n3):=ji.o.keep (bB (Q0 _ _));have hh:Hu (aI V0.drew (three z a s) d r J B ⟨cB c,c.ds,hs⟩ j3 nb):=JK.o.keep (bB (Q0 _ _));refine wp_region_held_drew (S:=((FS E d fb fo k q qa qc))) (by kernel_rfl) (Hg.o _ H6.o) λC=>?_;generalize V0.drew=V at *;refine tk 0 ?_;refine tk 1 ?_;refine tk 2 ?_;refine tk 3 ?_;refine tk 4 ?_;refine tk 5 ?_;refine rd 6 λK m=>?_;go_simp
       go_wp2_with fail
       have HD:=qI (yG (p:=q) (cv:=.slice qa q.cs.length qc) hh.o (HP.o.le (Hs.o V H6.o).2.2.2.2) (Hs.o V H6.o).2.1 (by omega));unfold cz at HD;rw[<- Jt.o] at HD;refine HD.o.mono ?_;rintro e M ⟨rfl,⟨j1,n4,⟨Jg,_⟩,JJ⟩,Jc⟩;have jc:=qI (H6.o.trans (Jc.wide λj e=>.inr e));have hZ:=qI JJ;have jA:=qI (Hp.o.other Jc hh.o.noInt);clear JJ Jc HD
       go_wp2_with fail
       refine m.o _ _ (Hg.o _ jc.o) λC=>?_;clear m K;refine tk 7 ?_;refine Qn (by kernel_rfl) ?_ _;clear C;have H0:Hu (∀W,Apart (λj=>three z a s j\/three d r B j) Z1 W->(FT E d) W):=λW ha=>(Hg.o W ha).1
       generalize A.1=en at *;generalize A.2=Hv at *;have jB:n3<=96+3*(k+1):=by omega
       have jk:n4<=60+3*(k+1):=by omega
       clear ji JK Hp hh Ji JG J4 H6 Hq Hg HP jb JU h3 Jt hq Jg jK jn
       go_upto_region 30 with fail
       have hU:Hu (Apart (λj=>three z a s j\/three d r B j) Z1 M.drew):=jc.o.trans (Apart.of_below (bB (Q0 _ _)));have Hp:Hu (aI M.drew (three d r B) z a D s ⟨cB c,c.ds,Hv⟩ P n3):=jA.o.keep (bB (Q0 _ _));have hh:Hu (aI M.drew (three z a s) d r J B ⟨cB c,c.ds,Hv⟩ j1 n4):=hZ.o.keep (bB (Q0 _ _));refine wp_region_held_drew (S:=((FT E d))) (by kernel_rfl) (H0.o _ hU.o) λC=>?_;generalize M.drew=V at *;refine tk 0 ?_;refine tk 2 ?_;refine rd 1 λK m=>?_;go_simp
       go_wp2_with fail
       refine (FI en V).mono ?_;rintro e V3 ⟨rfl,HS⟩;have HS:=HS.symm;subst HS
       go_wp2_with fail
       refine m.o _ _ (H0.o _ hU.o) λC=>?_;clear m K;refine rd 3 λK m=>?_;go_simp
       go_wp2_with fail
       refine (FI en V).mono ?_;rintro e V3 ⟨rfl,HS⟩;have HS:=HS.symm;subst HS
       go_wp2_with fail
       refine m.o _ _ (H0.o _ hU.o) λC=>?_;clear m K;refine tk 4 ?_;refine tk 5 ?_;refine tk 6 ?_;refine tk 8 ?_;refine tk 9 ?_;refine rd 7 λK m=>?_;go_simp
       go_wp2_with fail
       refine (yH Hp.o).mono ?_;rintro e V3 ⟨p1,q1,rfl,hg,T⟩;have JS:=qI (hU.o.trans (Apart.of_below T));have jE:=qI (Hp.o.keep T);have JW:=qI (hh.o.keep T);have jN:Hu (aY V3 (.slice p1 Hv.length q1) Hv):=hg.le (cJ _ _);clear hg T;(try dsimp only)
       go_wp2_with fail
       refine m.o _ _ (H0.o _ JS.o) λC=>?_;clear m K;refine rd 10 λK m=>?_;go_simp
       go_wp2_with fail
       refine (yH JW.o).mono ?_;rintro e V4 ⟨p2,q2,rfl,hL,Hw⟩;have J5:=qI (JS.o.trans (Apart.of_below Hw));have jP:=qI (jE.o.keep Hw);have jU:=qI (JW.o.keep Hw);have hr:=qI (jN.o.below Hw);have jD:Hu (aY V4 (.slice p2 Hv.length q2) Hv):=hL.le (cJ _ _);clear hL Hw;(try dsimp only)
       go_wp2_with fail
       refine m.o _ _ (H0.o _ J5.o) λC=>?_;clear m K;refine rd 11 λK m=>?_;go_simp
       go_wp2_with fail
       refine (Cz _ _ Hv Hv V4 hr.o jD.o).mono ?_;rintro e V5 ⟨b5,rfl,Hx,hP⟩;have Jm:=Hx rfl;subst Jm;have JZ:=qI (J5.o.trans (Apart.of_below hP));have ju:=qI (jP.o.keep hP);have jO:=qI (jU.o.keep hP);clear Hx hP
       go_wp2_with fail
       refine m.o _ _ (H0.o _ JZ.o) λC=>?_;clear m K;refine tk 12 ?_;refine tk 13 ?_;refine Qn (by kernel_rfl) ?_ _;clear C
       go_wp2
       go_roundw
       case rel=>exact⟨k+1,by omega,by go_num,JZ.o,Hv,P,n3,j1,n4,jB,jk,ju.o,jO.o⟩
       case measure=>simp[intOf];omega
      ·go_wp2
       go_ret;exact⟨rfl,(Hs.o _ Hq.o).2.2.1⟩
