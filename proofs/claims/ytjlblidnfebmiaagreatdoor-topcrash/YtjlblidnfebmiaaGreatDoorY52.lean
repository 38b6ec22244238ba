import Derived.Test.YtjlblidnfebmiaaGreatDoorY51
set_option maxRecDepth 100000
set_option maxHeartbeats 16000000
open Go Go.RowKit Go.Shelf
attribute [local go_sem] Oper.semAt_some
namespace Go.Proofs.YtjlblidnfebmiaaGreatDoor
abbrev fi:=λ(x0 x1 x2:Nat)=>(.cells #[x0,x1,x2] 36:Obj)
abbrev lm:=λ(x0:Option Addr) (x1:dp) (x2:Nat) (x3:Option Addr) (x4:Nat)=>(.cells #[.slice x0 x1.l.length x2,.int .u64 (x1.keep:Nat),(x1.nb:Int),.slice x3 x1.ds.length x4,(x1.pol:Int)] 27:Obj)
abbrev it:=λ(x0 x1:Option Addr)=>(.cells #[.pointer x0,.pointer x1,.pointer none] 36:Obj)
abbrev As:=(.cells #[.string ⟨#[120]⟩,(0:Int),(0:Int),(0:Int),(0:Int),.slice none 0 0] 65:Obj)
abbrev II:=λ(Bl Od Oe Oa ab ai k:Nat) (x:Ac) (la:Option Addr) (ll lc:Nat) (pa:Option Addr) (pcc:Nat) (ua:Option Addr) (uc:Nat) (w':World)=>(cl w' Bl (0) Od/\cl w' Bl (1) Oe/\cl w' Bl (2) Oa)/\cl w' ab (ai+k*10) x.kd/\cl w' ab (ai+k*10+1) x.s/\cl w' ab (ai+k*10+2) (x.a:Int)/\cl w' ab (ai+k*10+3) (x.b:Int)/\cl w' ab (ai+k*10+4) (.int .u8 x.m)/\cl w' ab (ai+k*10+5) (.slice la ll lc)/\cl w' ab (ai+k*10+6) x.p.nm/\cl w' ab (ai+k*10+7) (x.p.pr:Int)/\cl w' ab (ai+k*10+8) (.slice pa x.p.cs.length pcc)/\cl w' ab (ai+k*10+9) (.slice ua x.us.length uc)
abbrev IJ:=λ(Bk Bd Be Ba ab ai k:Nat) (x:Ac) (la:Option Addr) (ll lc:Nat) (pa:Option Addr) (pcc:Nat) (ua:Option Addr) (uc:Nat) (w':World)=>(cl w' Bk (0) Bd/\cl w' Bk (1) Be/\cl w' Bk (2) Ba)/\cl w' ab (ai+k*10) x.kd/\cl w' ab (ai+k*10+1) x.s/\cl w' ab (ai+k*10+2) (x.a:Int)/\cl w' ab (ai+k*10+3) (x.b:Int)/\cl w' ab (ai+k*10+4) (.int .u8 x.m)/\cl w' ab (ai+k*10+5) (.slice la ll lc)/\cl w' ab (ai+k*10+6) x.p.nm/\cl w' ab (ai+k*10+7) (x.p.pr:Int)/\cl w' ab (ai+k*10+8) (.slice pa x.p.cs.length pcc)/\cl w' ab (ai+k*10+9) (.slice ua x.us.length uc)
theorem ZD(c:dp){v1 v2:Value}{g o:Nat}{xs:List Ac}{Q:Value}(fu ke tn ag:Int){w:World}(h1:fZ w v1 c.l)(h2:et w v2 g o c.ds)(hk:c.keep<18446744073709551616)(hx:pU w Q xs)(ht:cJ w)(hm:dH w) :
  Calls Tryz.prog 3 #[pP c v1 v2,Q,fu,ke,tn,ag] w λe w'=>e=.returned true/\Bw w w':=by
 obtain⟨ca,cc,jH⟩:∃ca cc,v1=.slice ca c.l.length cc:=by
  rcases id h1 with⟨hl,ao,q,rfl⟩|⟨b,o,q,rfl,_⟩
  ·grind
  ·exact⟨_,q,rfl⟩
 obtain⟨da,dc,jC⟩:∃da dc,v2=.slice da c.ds.length dc:=by
  obtain⟨da,dc,e,_⟩:=id h2;exact⟨da,dc,e⟩
 have jt:=qI hx;obtain⟨aa,j6,ju,jM,Jt⟩:=hx;subst jH jC ju;have jO:=qI Jt;have H1:=qI h1;have H2:=qI h2;have HT:=qI ht;have HM:=qI hm;have jV:=ht.2;clear h1 h2 ht hm jM Jt;unfold pP;have HX:=qI ((Q0 w w).alloc (lR) (lm ca c cc da dc));obtain⟨a,JG⟩:∃a,a=w.heap.size:=⟨_,rfl⟩;have hY:Hu ((w.alloc (lm ca c cc da dc)).heap[a]?=some (lm ca c cc da dc)):=by
  grind[Hu,aY]
 go_enter Tryz.func3,Tryz.ntmps3
 go_wp2_with fail
 rw[<- JG];generalize (w.alloc (lm ca c cc da dc))=X at *;clear JG;refine (Zr (HT.o.below HX) (HM.o.below HX)).m λW1 Ht=>?_;have J8:=(gS hY).1;have Ha:Hu (∀W,Bw X W->W.heap[a]?=some (lm ca c cc da dc)/\Bw w W):=λW hb=>⟨(hb.block a J8).trans hY,HX.o.trans (hb.mono HX.o.size)⟩
 have Hs:=qI Ht;clear Ht hY;obtain⟨D,I,H,E,J⟩:=c5 (Ha.o _ Hs).1;have hZ:=qI (YI c (H1.o.below (Ha.o _ Hs).2) (H2.o.below (Ha.o _ Hs).2));unfold pP at hZ
 go_wp2_with fail
 refine hZ.o.mono ?_;rintro e W2 ⟨⟨b,rfl⟩,jn⟩;have Ho:=Hs.t jn;clear jn D I H E J hZ Hs
 rcases two b with rfl|rfl
 rotate_left
 ·go_wp2
  go_ret;exact⟨rfl,(Ha.o _ Ho).2⟩
 have JZ:=qI (Wq 20 (jt.o.below (Ha.o _ Ho).2))
 go_wp2_with fail
 refine JZ.o.mono ?_;rintro e W3 ⟨⟨b,rfl,hh⟩,HJ⟩;have Hj:=Ho.t HJ;have HC:=qI hh;clear HJ JZ hh Ho
 rcases two b with rfl|rfl
 rotate_left
 ·go_wp2
  go_ret;exact⟨rfl,(Ha.o _ Hj).2⟩
 have jZ:xs.length<=20:=by have:=(HC.o rfl).1;omega
 have jN:=qI (HC.o rfl).2;clear HC;obtain⟨D,I,H,E,J⟩:=c5 (Ha.o _ Hj).1;have H0:Hu (∀W,Bw w W->Calls Tryz.prog 9 #[.agg #[.slice ca c.l.length cc,.int .u64 (c.keep:Nat),(c.nb:Int),.slice da c.ds.length dc,(c.pol:Int)]] W λe w'=>IE W w' c e):=λW hb=>IF c (H1.o.below hb) (H2.o.below hb) hk (HT.o.below hb) (HM.o.below hb)
 go_wp2_with fail
 clear D I H E J;refine (H0.o W3 (Ha.o _ Hj).2).mono ?_;rintro e B ⟨Hm,Hh,He⟩;have H7:=qI ((Ha.o _ Hj).2.trans (He.mono (Ha.o _ Hj).2.size));have ji:=(Ha.o _ Hj).2.size;have hJ:=qI (((He.block a (by have:=Hj.o.size;omega)).trans (Ha.o _ Hj).1))
 by_cases G:cR c=0
 rotate_left
 ·obtain⟨bp,bq,rfl⟩:=Hm G;clear Hm Hh He;have HA:=qI (H7.o.alloc H7.o.size (it bp bq));have Hi:=qI (bQ hJ (it bp bq));obtain⟨D,I,H,E,J⟩:=c5 Hi
  go_wp2_with fail
  clear D I H E J;generalize B.alloc (it bp bq)=Y at *;refine (H0.o Y HA).mono ?_;rintro e M ⟨Hm,_,He⟩;obtain⟨cp,cq,rfl⟩:=Hm G;have jR:=(gS Hi).1;have Hl:=HA.t He;have HO:=qI (Hl.o.alloc Hl.o.size (it cp cq));have HR:=qI (bQ ((He.block a jR).trans Hi) (it cp cq));clear Hm He H0;obtain⟨D,I,H,E,J⟩:=c5 HR
  go_wp2_with fail
  clear D I H E J;generalize M.alloc (it cp cq)=Z at *;refine (YW (H1.o.below HO) (H2.o.below HO) hk G).m λW9 Jx=>?_;have HV:=HO.t Jx;clear Jx
  go_wp2
  go_ret;exact⟨rfl,HV⟩
 obtain⟨v,r,s,Bm,j0,rfl,h3,je,l1,l2,l3,l4,Ju⟩:=Hh G;have hi:=qI je;have J7:=qI Ju;have jx:=qI (YT G);have H8:=qI G;have hX:=Hj.o.size;have Hz:a<W3.heap.size:=by omega
 clear Hm Hh He je G Ju;have HA:=qI (H7.o.alloc H7.o.size (fi r s v));have hN:=qI ((Q0 B B).alloc (lR) (fi r s v));have hw:=qI (aY B (fi r s v) rfl);have Hi:=qI (bQ hJ (fi r s v));have jB:(B.alloc (fi r s v)).heap.size=B.heap.size+1:=by simp
 obtain⟨d,HK⟩:∃d,d=B.heap.size:=⟨_,rfl⟩;rw[<- HK] at hw;obtain⟨D,I,H,E,J⟩:=c5 Hi
 go_wp2_with fail
 clear D I H E J;rw[<- HK];have JC:=qI HK;clear HK;generalize B.alloc (fi r s v)=Y at *;have Jr:=(gS hw).1;have JR:=(gS Hi).1;obtain⟨⟨a1,a2,a3⟩,a4⟩:=hi.o.lts;have JA:=qI ((hi.o.poolNew J7 (Apart.of_below (K:=λ_=>False) hN) id λ_ _ _ e=>e).less ji);have JF:=qI (hi.o.keep hN);refine (H0.o Y HA).mono ?_;rintro e M ⟨_,Hh,He⟩;obtain⟨F,O,N,Om,j4,rfl,H3,J6,m1,m2,m3,m4,JD⟩:=Hh H8;have jr:=He.size;have hp:=qI J6;have jj:=qI JD;have Hl:=qI He;clear Hh He J6 JD;have hB:=qI ((Q0 M M).alloc (lR) (fi O N F));have hF:=qI (aY M (fi O N F) rfl);have HL:=qI (bQ ((Hl.o.block d Jr).trans hw) (fi O N F));have hG:=qI (bQ ((Hl.o.block a JR).trans Hi) (fi O N F));obtain⟨Bl,Ja⟩:∃Bl,Bl=M.heap.size:=⟨_,rfl⟩;rw[<- Ja] at hF;obtain⟨z,C,y⟩:=c3 HL;have JJ:-1<=min (max fu (-1)) 500/\min (max fu (-1)) 500<=500:=by omega
 go_wp2_with fail
 clear z C y;rw[<- Ja];generalize M.alloc (fi O N F)=Z at *;obtain⟨⟨b1,b2,b3⟩,b4⟩:=hp.o.lts;have HK:=JC.o;have Jw:=qI (hp.o.poolNew jj (Apart.of_below (K:=λ_=>False) hB) id λ_ _ _ e=>e);have hv:Hu (CrE w Z (lm ca c cc da dc) a d Bl v r s Bm F O N Om ⟨cT c,c.ds,[]⟩ ⟨cT c,c.ds,[]⟩ j0 j4 0 0 () () [] []):=by
  refine ZC HA (Hl.o.trans (hB.o.mono Hl.o.size)) JF (hp.o.keep hB) rfl JA Jw ⟨by omega,by omega,by omega⟩ ⟨by omega,by omega,by omega,by omega⟩ (λj hj=>?_) HL hF hG
  rcases hj with e|e|e
  ·exact⟨_,by rw[e];exact ad HL 0,(λ_ h=>by cases h),by omega,by omega,by omega,by omega,by omega,by omega⟩
  ·exact⟨_,by rw[e];exact ad hF 0,(λ_ h=>by cases h),by omega,by omega,by omega,by omega,by omega,by omega⟩
  ·exact⟨_,by rw[e];exact ad hG 0,(λ_ h=>by cases h),by omega,by omega,by omega,by omega,by omega,by omega⟩
 have Hk:Hu (Geo w a d r s Bm):=⟨by omega,by omega,by omega,by omega,by omega,by omega,by omega,by omega,by omega⟩;clear H0 JF JA hp jj Hl hB hF HL hG Jw HA hw Hi hN hi J7 hJ H7 Hj Ha HX J8 hX Hz jB ji jr a1 a2 a3 a4 b1 b2 b3 b4 l1 l2 l3 l4 m1 m2 m3 m4 HK Ja JC Jr JR;have JU:Hu (ku c ⟨cT c,c.ds,[]⟩):=⟨rfl,rh _,Hg jx⟩;have Hv:=qI (ym (min (max fu (-1)) 500) (tQ hv.o.a.eng.disk hv.o.a.calm) (by omega));refine Hv.o.m λZ2 ⟨HU,HS⟩=>?_;have jq:=qI (hv.o.armed ⟨by omega,by omega⟩ HU HS);clear HU HS Hv hv h3 JJ;generalize ({ j0 with l:=min (max fu (-1)) 500 }:Dk)=dk1 at *
 go_upto_block 0 with fail
 go_cut [17,18] (λZQ Ix wc=>∃Q vb,ZQ=Q/\Ix=vb/\∃hs HF P n rs,n<=96/\CrP w wc (lm ca c cc da dc) a d v r s Bm c P n rs Q vb hs HF)
 case first=>
  go_wp2
  go_loopw [17,18,19] (λQ vb i W=>∃k:Nat,k<=xs.length/\i=.int .i64 k/\∃t P dj n m hn,n<=3*k/\m<=3*k/\dj.l=-1/\ku c t/\CrE w W (lm ca c cc da dc) a d Bl v r s Bm F O N Om t t P dj n m Q vb t.hs hn) (λ_ _ i _=>xs.length - (intOf i).toNat)
  exact⟨0,Nat.zero_le _,rfl,_,dk1,j4,0,0,[],lR,lR,H3,JU,jq⟩
  ·obtain⟨k,jy,rfl,t,P,dj,n,m,hn,jU,jT,jb,J1,J3⟩:=hrel;have HN:=qI J3;have hu:=qI J1;have JS:=qI jb;clear J3 J1 jb jq JU H3
   by_cases j5:k<xs.length
   ·obtain⟨ab,ai,rfl,H6,Jv⟩:=jO.o (by omega);obtain⟨hc,Hq⟩:=Jv k j5;have J5:=jN.o k j5;generalize ac xs k=x at *;obtain⟨la,ll,lc,ja⟩:=Hq.l;obtain⟨pa,L,h9,_⟩:=id Hq.c;obtain⟨ua,uc,h8,_⟩:=id Hq.u;have HG:=Hq.c;have Hy:=Hq.u;rw[h9] at HG;rw[h8] at Hy;have JQ:∀j,j<10->w.cell? ⟨ab,ai+k*10+j,none⟩=([.string x.kd,.string x.s,.int .i64 x.a,.int .i64 x.b,.int .u8 x.m,.slice la ll lc,.string x.p.nm,.int .i64 x.p.pr,.slice pa x.p.cs.length L,.slice ua x.us.length uc]:List Value)[j]?:=by
     rw[<- ja,<- h9,<- h8];exact hc
    have Jg:=qI JQ;have jk:=qI HG;have Jo:=qI Hy;have J9:=qI J5;have J2:=Hq.a.1;have Jm:=Hq.a.2;clear hc Hq Jv ja h9 h8 HG Hy JQ J5;have hC:Hu (∀W,Bw w W/\W.heap[Bl]?=some (fi O N F)->(II Bl O N F ab ai k x la ll lc pa L ua uc) W):=λW he=>by
     have Hf:∀j,j<10->W.cell? ⟨ab,ai+k*10+j,none⟩=([.string x.kd,.string x.s,.int .i64 x.a,.int .i64 x.b,.int .u8 x.m,.slice la ll lc,.string x.p.nm,.int .i64 x.p.pr,.slice pa x.p.cs.length L,.slice ua x.us.length uc]:List Value)[j]?:=λj hj=>(he.1.cell (p:=⟨ab,_,none⟩) H6).trans (Jg.o j hj)
     exact⟨⟨ad he.2 0,ad he.2 1,ad he.2 2⟩,Hf 0 (by decide),Hf 1 (by decide),Hf 2 (by decide),Hf 3 (by decide),Hf 4 (by decide),Hf 5 (by decide),Hf 6 (by decide),Hf 7 (by decide),Hf 8 (by decide),Hf 9 (by decide)⟩
    have hW:Hu (∀W,Bw w W/\W.heap[d]?=some (fi r s v)->(IJ d r s v ab ai k x la ll lc pa L ua uc) W):=λW he=>by
     have Hf:∀j,j<10->W.cell? ⟨ab,ai+k*10+j,none⟩=([.string x.kd,.string x.s,.int .i64 x.a,.int .i64 x.b,.int .u8 x.m,.slice la ll lc,.string x.p.nm,.int .i64 x.p.pr,.slice pa x.p.cs.length L,.slice ua x.us.length uc]:List Value)[j]?:=λj hj=>(he.1.cell (p:=⟨ab,_,none⟩) H6).trans (Jg.o j hj)
     exact⟨⟨ad he.2 0,ad he.2 1,ad he.2 2⟩,Hf 0 (by decide),Hf 1 (by decide),Hf 2 (by decide),Hf 3 (by decide),Hf 4 (by decide),Hf 5 (by decide),Hf 6 (by decide),Hf 7 (by decide),Hf 8 (by decide),Hf 9 (by decide)⟩
    clear Jg;have y:=cb HN.o.bl 2
    go_wp2_with fail
    clear y;refine (rE HN.o.o).mono ?_;rintro e W1 ⟨p1,q1,rfl,JY,Ht⟩;have H9:=qI ((HN.o.keep Ht).put (HN.o.told Ht JY));clear JY Ht HN;(try dsimp only);have z:=(hC.o W1 ⟨H9.o.below,H9.o.bl⟩).2.1
    rcases two (x.kd.toList == [112,114,101,115,115]) with jp|jp
    ·go_wp2
     go_roundw
     exact⟨k+1,by omega,by go_num,t,P,dj,n,m,hn,by omega,by omega,JS,hu,H9⟩
     simp[intOf];omega
    go_upto_region 17 with fail
    clear z jp;have Hx:=qI (H9.o.keep (bO (Q0 _ _)));clear H9;refine wp_region_held_drew (S:=((II Bl O N F ab ai k x la ll lc pa L ua uc))) (by kernel_rfl) (hC.o _ ⟨Hx.o.below,Hx.o.bl⟩) λhHeld=>?_;generalize W1.drew=V at *;refine tk 0 ?_;refine tk 1 ?_;refine tk 2 ?_;refine tk 3 ?_;refine tk 4 ?_;refine rd 5 λK hK=>?_;go_simp
    go_wp2_with fail
    refine (Iu Hx.o.o (jk.o.le (Hx.o.turn.env HT).1) (Jo.o.below Hx.o.below) J9 J2 Jm (by omega) (Hx.o.turn.env HT).2).mono ?_;rintro e V2 ho;obtain⟨f,u,Z5,m2,rfl,J0,Jn,jg,jD,hE⟩:=Hx.o.asked hu JS ho;have HD:=qI hE;have jQ:=qI J0;have JX:=qI Jn;have hV:=qI jg;have jG:m2<=3*(k+1):=by omega
    clear hE J0 Jn jg jD ho
    go_wp2_with fail
    refine hK.k (hC.o _ ⟨HD.o.below,HD.o.bl⟩) λhHeld=>?_;refine tk 6 ?_;refine Qn (by kernel_rfl) ?_ _;clear hHeld;have y:=cb HD.o.bl 2
    go_wp2_with fail
    clear y Hx;refine (rE HD.o.o).mono ?_;rintro e W3 ⟨p3,q3,rfl,JI,HJ⟩;have Jq:=qI ((HD.o.keep HJ).put2 (HD.o.told HJ JI));clear JI HJ HD;(try dsimp only)
    go_upto_region 19 with fail
    have Hw:=qI (Jq.o.keep (bO (Q0 _ _)));clear Jq hC;refine wp_region_held_drew (S:=((IJ d r s v ab ai k x la ll lc pa L ua uc))) (by kernel_rfl) (hW.o _ ⟨Hw.o.below,Hw.o.bk⟩) λhHeld=>?_;generalize W3.drew=U at *;refine tk 0 ?_;refine tk 1 ?_;refine tk 2 ?_;refine tk 3 ?_;refine tk 4 ?_;refine rd 5 λK hK=>?_;go_simp
    go_wp2_with fail
    refine (Iu Hw.o.a (jk.o.le (Hw.o.env HT).1) (Jo.o.below Hw.o.below) J9 J2 Jm (by omega) (Hw.o.env HT).2).mono ?_;rintro e V4 ho;obtain⟨g4,rfl,hL,Jp,Hq⟩:=Hw.o.acted hu JX jQ ho;have HH:=qI hL;have Jk:=qI Jp;have Jb:=qI Hq;clear hL Jp Hq ho
    go_wp2_with fail
    refine hK.k (hW.o _ ⟨HH.o.below,HH.o.bk⟩) λhHeld=>?_;refine tk 6 ?_;refine Qn (by kernel_rfl) ?_ _;clear hHeld;clear hW Hw
    go_wp2_with fail
    refine (wm g4 V4).m λV5 Hc=>?_;have Hc:=Hc.symm;subst Hc
    by_cases hg:g4=11
    ·subst hg;obtain⟨j3,n5,zq,jP,T⟩:=Jk.o rfl;have HP:=qI T;clear T Jk Jb
     go_wp2
     go_meet
     case rel=>exact⟨_,_,rfl,rfl,t.hs,u.hs,j3,n5,zq,by omega,HP⟩
    obtain⟨js,j3,n5,jP,hE⟩:=Jb.o hg;have JK:=qI hE;have jh:¬ ((g4:Int)=11):=by omega
    have jL:(((g4:Int)) == 11)=false:=by simpa using jh
    clear hE Jk Jb HH hg;subst js
    go_wp2_with fail
    refine (wm g4 V4).m λV5 Hc=>?_;have Hc:=Hc.symm;subst Hc
    go_wp2_with fail
    refine (wm g4 V4).m λV5 Hc=>?_;have Hc:=Hc.symm;subst Hc;clear jh jL
    go_wp2
    go_roundw
    exact⟨k+1,by omega,by go_num,u,j3,Z5,n5,m2,u.hs,by omega,jG,hV,JX,JK.o.put JK.o.next⟩
    simp[intOf];omega
   ·obtain⟨rs,T⟩:=HN.o.stop hu (.inl rfl);have HP:=qI T;clear T;have Jc:n<=96:=by omega
    go_wp2
    go_meet
    case rel=>exact⟨_,_,rfl,rfl,t.hs,hn,P,n,rs,Jc,HP⟩
 case rest=>
  obtain⟨Q,vb,j2,j1,hs,HF,Z1,n2,In,jJ,T⟩:=hcut;have j2:=j2.symm;have j1:=j1.symm;subst j2 j1;have JO:=qI T;clear T
  go_wp2
  go_loopw [22] (λi W=>∃k:Nat,k<=1/\i=.int .i64 k/\∃P n rs,n<=96+36*k/\CrP w W (lm ca c cc da dc) a d v r s Bm c P n rs Q vb hs HF) (λi _=>3 - (intOf i).toNat)
  exact⟨0,Nat.zero_le _,rfl,Z1,n2,In,by omega,JO⟩
  ·obtain⟨k,jy,rfl,P,n,rs,hn,T⟩:=hrel;have HP:=qI T;have jX:k<3:=by omega
   clear T JO jJ;obtain⟨z,C,y⟩:=c3 HP.o.l.bk
   go_wp2_with fail
   clear z C y;refine (QR ke tn HP.o.disk).m λU1 ⟨JT,jd⟩=>?_;obtain⟨ls,hQ⟩:=HP.o.restart Hk JT jd;have HQ:=qI hQ;clear JT jd hQ HP;have jc:(P.restart ke tn).l=-1:=rfl;have JP:=qI jc;clear jc;generalize P.restart ke tn=dk1 at *
   go_upto_if 113 with fail
   go_cut [] (λwc=>∃d2:Dk,(k=1->d2.l=-1)/\CrQ w wc (lm ca c cc da dc) a d v r s Bm c d2 n rs ls Q vb hs HF)
   case first=>
    rcases (show k=0\/k=1 by omega) with rfl|rfl
    ·have JJ:-1<=min (max ag (-1)) 100/\min (max ag (-1)) 100<=100:=by omega
     have Hv:=qI (ym (min (max ag (-1)) 100) HQ.o.disk (by omega));obtain⟨z,C,y⟩:=c3 HQ.o.l.bk
     go_wp2_with fail
     clear z C y;refine Hv.o.m λU2 ⟨HU,HS⟩=>?_;have Hb:=qI (HQ.o.arm Hk ⟨by omega,by omega⟩ HU HS);clear HU HS Hv
     go_wp2
     go_meet
     case rel=>exact⟨_,λh=>absurd h (by decide),Hb⟩
    ·go_wp2
     go_meet
     case rel=>exact⟨dk1,λ_=>JP.o,HQ⟩
   case rest=>
    obtain⟨d2,H4,JW⟩:=hcut;have Hb:=qI JW;have h0:=qI H4;clear JW H4 HQ JP;obtain⟨s0,JV⟩:=Hb.o.fits.left;have Ho:=qI Hb.o.l.below;have hH:=qI (Iy (λj=>j=d) rs (H1.o.below Ho) (H2.o.below Ho) hk Hb.o.disk Hb.o.soft Hb.o.kept.2.1 Hb.o.kept.2.2 Hb.o.eng (by omega) (HT.o.below Ho) (HM.o.below Ho) (λj e=>⟨by rw[e];exact (gS Hb.o.l.bk).1,some ⟨r,0,none⟩,by rw[e];exact ad Hb.o.l.bk 0⟩) ⟨λe=>Hk.o.kd e.symm,λe=>Hk.o.km e.symm,λe=>Hk.o.ke e.symm⟩ Hb.o.kept.1 Hb.o.fits.held JV Hb.o.fits.room Hb.o.fits.txt H8);clear JV;obtain⟨z,C,y⟩:=c3 Hb.o.l.bk;obtain⟨D,I,H,E,J⟩:=c5 Hb.o.l.bc
    go_wp2_with fail
    clear z C y D I H E J;refine hH.o.mono ?_;rintro e U3 ⟨Jj,HY⟩;have jI:=HY.size
    rcases Jj with⟨R,d3,n3,rfl,jz,Jl,JL,jA,hM⟩|⟨hq,rfl,n3,C3,Jl,JM⟩
    rotate_left
    ·obtain⟨d4,zd,JE⟩:=Hb.o.fell Hk JM HY;have jK:=qI JE;have jF:k=0:=by
      rcases (show k=0\/k=1 by omega) with h|h
      ·exact h
      ·exact absurd (h0.o h) hq
     clear JE JM HY hq hH h0 Hb;subst jF
     go_wp2_with fail
     refine (wm 11 U3).m λV5 Hc=>?_;have Hc:=Hc.symm;subst Hc
     go_wp2
     go_roundw
     exact⟨1,by omega,by go_num,d4,n3,zd,by omega,jK⟩
     simp[intOf]
    have Jz:=qI JL;have HE:=qI (Hb.o.l.on Hk HY);have h5:=qI Hb.o.fits;have JN:=qI Hb.o.one;have jE:n3<=250:=by
     have h1:=vM rs (aL ls);have h2:=vL Hb.o.fits.held;omega
    have h7:=(gS Hb.o.l.bk).1;have Hz:=(gS Hb.o.l.bc).1;have jv:=Ho.o.size;have jw:Hu (w<=R/\R≠d/\R≠a):=⟨by omega,by omega,by omega⟩;clear JL HY Jl jA hM jz hH h0 Hb Ho jI h7 Hz jv
    go_wp2_with fail
    refine (Ip U3).m λV5 Hc=>?_;have Hc:=Hc.symm;subst Hc;obtain⟨z,C,y⟩:=c3 HE.o.bk;have f2:=bZ HE.o.bk 2;have HH:Hu (CrL w (U3.setCell ⟨d,2,none⟩ R) (lm ca c cc da dc) a d R r s Bm Q vb hs HF):=HE.o.sub Hk;have hT:=qI (Jz.o.boxed HE.o.bk R)
    go_wp2_with fail
    clear z C y f2 HE Jz;generalize (U3.setCell ⟨d,2,none⟩ R)=U4 at *;refine (rE hT).mono ?_;rintro e U5 ⟨p5,q5,rfl,jf,hR⟩;have Hp:=qI (HH.o.on Hk (Apart.of_below hR));have Je:=qI (hT.o.keep hR);have Jy:Hu (bf U5 (.slice p5 ls.length q5) ls):=jf.le (Ei);clear jf hR HH hT;(try dsimp only);obtain⟨z,C,y⟩:=c3 Hp.o.bk;obtain⟨D,I,H,E,J⟩:=c5 Hp.o.bc;have hf:=qI (ID (da:=da) (dl:=c.ds.length) (dc:=dc) Je rfl h5.o.room H8 (H1.o.below Hp.o.below) hk (by omega))
    go_wp2_with fail
    clear z C y D I H E J;refine hf.o.m λU6 hr=>?_;have hD:=qI (Hp.o.on Hk (Apart.of_below hr));have Js:=qI (Je.o.keep hr);have h6:=qI (Jy.o.below hr);clear hr Hp Je Jy hf
    go_upto_region 37 with fail
    go_cut [158] (λb wc=>b=.bool false/\Bw U6 wc)
    case first=>
     go_wp2_with fail
     refine (CD h6 (hD.o.was.le (df))).mono ?_;rintro e U7 ⟨b7,rfl,Hr,HI⟩;have Hl:=qI HI;have hU:=qI Hr;clear Hr HI
     rcases two b7 with rfl|rfl
     ·go_wp2
      go_meet
      case rel=>exact⟨rfl,Hl⟩
     ·have jm:ls=HF:=JN.o.elim (λh=>absurd (hU.o h) (by decide)) id;have jS:=qI jm;clear jm
      go_wp2_with fail
      refine (CD (h6.o.below Hl) ((hD.o.next.le (df)).below Hl)).mono ?_;rintro e U8 ⟨b8,rfl,Hr,jl⟩;have Jh:=Hr jS;subst Jh;have HO:=Hl.t jl;clear Hr jl
      go_wp2
      go_meet
      case rel=>exact⟨rfl,HO⟩
    case rest=>
     obtain⟨rfl,HI⟩:=hcut;have H5:=qI (hD.o.on Hk (Apart.of_below HI));have hy:=qI (Js.o.keep HI);clear HI hD Js h6 JN
     
     obtain⟨z,C,y⟩:=c3 H5.o.bk;have Hv:=qI (ym (-1) (tQ hy.o.eng.disk hy.o.calm) (by omega))
     go_wp2_with fail
     clear z C y;refine Hv.o.m λU8 ⟨JH,hI⟩=>?_;have Jd:=qI (hy.o.calmed ⟨by omega,by omega⟩ JH hI);have HW:=qI (H5.o.on Hk (Ar hI));clear JH hI Hv hy H5;have HV:=qI ((Q0 U8 U8).alloc (lR) (As));have J4:=qI (aY U8 (As) rfl);have Jf:=qI (Jd.o.keep HV);have h4:=qI (HW.o.on Hk (Apart.of_below HV));have Ji:=Jd.o.lts;obtain⟨z,C,y⟩:=c3 HW.o.bk
     go_wp2_with fail
     clear z C y HV Jd HW;generalize U8.alloc (As)=U9 at *;have hS:=qI (It (p:=zP) (cv:=.slice U8 1 1) Jf (Iq (by rw[cH (by rintro (e|e|e|e) <;> first|exact e|omega)];exact J4.o)) (HT.o.below h4.o.below) (by omega));unfold cQ at hS;refine hS.o.mono ?_;rintro e V0 ⟨hA,ha⟩
     rcases hA with⟨rfl,d9,n9,⟨⟨jY,_⟩,_⟩,jo⟩|⟨hq,_⟩
     rotate_left
     ·exact absurd rfl hq
     have hz:=h5.o.admit H8 Jf;have JB:=qI (Gf (t:=⟨cT c,c.ds,ls⟩) (p:=zP) h5.o.room);have Hn:=qI (h4.o.acted Hk jw ha);have hO:=qI jo;clear jo ha hS J4 Jf h4 Ji;generalize aV ⟨cT c,c.ds,ls⟩ zP=A at *;obtain⟨en,jW⟩:=A;dsimp only at hO JB hz;have HZ:=qI hz;clear hz;obtain⟨z,C,y⟩:=c3 Hn.o.2.1;obtain⟨D,I,H,E,J⟩:=c5 Hn.o.2.2;have hf:=qI (ID (da:=da) (dl:=c.ds.length) (dc:=dc) hO rfl JB H8 (H1.o.below Hn.o.1) hk (by omega));dsimp only
     go_wp2_with fail
     clear z C y D I H E J;refine hf.o.m λV1 Ht=>?_;have HB:=qI (Hn.o.1.trans (Ht.mono Hn.o.1.size));clear Ht hf hO Hn
     rcases HZ.o with rfl|rfl|rfl
     ·rw[show aD (((0:Nat)):Int)=.nilIface from rfl]
      go_wp2
      go_ret;exact⟨rfl,HB⟩
     ·rw[eW (show (5:Nat)≠0 by decide)]
      go_wp2_with fail
      refine (uM _ V1).m λV5 Hc=>?_;have Hc:=Hc.symm;subst Hc
      go_wp2
      go_ret;exact⟨rfl,HB⟩
     ·rw[eW (show (2:Nat)≠0 by decide)]
      go_wp2_with fail
      refine (uM _ V1).m λV5 Hc=>?_;have Hc:=Hc.symm;subst Hc
      go_wp2_with fail
      refine (uM _ V1).m λV5 Hc=>?_;have Hc:=Hc.symm;subst Hc
      go_wp2
      go_ret;exact⟨rfl,HB⟩
