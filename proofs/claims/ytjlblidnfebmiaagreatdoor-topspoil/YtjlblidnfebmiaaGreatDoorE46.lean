import Derived.Test.YtjlblidnfebmiaaGreatDoorE44
import Derived.Test.YtjlblidnfebmiaaGreatDoorE45
set_option maxRecDepth 100000
set_option maxHeartbeats 16000000
open Go Go.RowKit Go.Shelf
attribute [local go_sem] Oper.semAt_some
namespace Go.Proofs.YtjlblidnfebmiaaGreatDoor
abbrev lO:=λ(x0:Option Addr) (x1:dM) (x2:Nat) (x3:Option Addr) (x4:Nat)=>(.cells #[.slice x0 x1.l.length x2,.int .u64 (x1.keep:Nat),.int .i64 x1.nb,.slice x3 x1.ds.length x4,.int .i64 x1.pol] 27:Obj)
abbrev mX:=λ(x0 x1 x2:Nat)=>(.cells #[.pointer (some ⟨x0,0,none⟩),.pointer (some ⟨x1,0,none⟩),.pointer (some ⟨x2,0,none⟩)] 36:Obj)
abbrev Fo:=λ(Bk Ba fb fo k:Nat) (q:az) (qa:Option Addr) (qc:Nat) (w':World)=>w'.cell? ⟨Bk,2,none⟩=some (.pointer (some ⟨Ba,0,none⟩))/\w'.cell? ⟨fb,fo+k*3,none⟩=some (.string q.nm)/\w'.cell? ⟨fb,fo+k*3+1,none⟩=some (.int .i64 q.pr)/\w'.cell? ⟨fb,fo+k*3+2,none⟩=some (.slice qa q.cs.length qc)
theorem Vg (c:dM) (v1 v2:Value) (g o:Nat) (F:List az) (vf:Value) (s:ByteArray) (w:World) (h1:fX w v1 c.l) (h2:dW w v2 g o c.ds) (hk:c.keep<18446744073709551616) (hf:jJ w vf F) (ht:cD w) (hm:cO w) :
  Calls Tryz.prog 5 #[nK c v1 v2,vf,.string s] w λe w'=>e=.returned (.bool true)/\Below w.heap.size w w':=by
 obtain ⟨ca,cc,hU⟩:∃ ca cc,v1=.slice ca c.l.length cc:=by
  rcases id h1 with ⟨hl,ao,q,rfl⟩|⟨b,o,q,rfl,_⟩
  ·exact ⟨ao,q,by rw [hl];rfl⟩
  ·exact ⟨_,q,rfl⟩
 obtain ⟨da,dc,hO⟩:∃ da dc,v2=.slice da c.ds.length dc:=by
  obtain ⟨da,dc,e,_⟩:=id h2;exact ⟨da,dc,e⟩
 have HF:=qI hf;obtain ⟨fa,fc,h7,hS,hJ⟩:=hf;subst hU hO h7;have Jg:=qI hJ;have R:=qI h1;have H2:=qI h2;have T:=qI ht;have Z:=qI hm;have Jj:1<w.heap.size:=ht.2;clear h1 h2 ht hm hS hJ;unfold nK;have HH:=qI ((Q0 w.heap.size w).alloc (lR) (.cells #[.slice ca c.l.length cc,.int .u64 (c.keep:Nat),.int .i64 c.nb,.slice da c.ds.length dc,.int .i64 c.pol] 27));obtain ⟨a,HW⟩:∃ a,a=w.heap.size:=⟨_,rfl⟩;have HV:Hu ((w.alloc (.cells #[.slice ca c.l.length cc,.int .u64 (c.keep:Nat),.int .i64 c.nb,.slice da c.ds.length dc,.int .i64 c.pol] 27)).heap[a]?=some (.cells #[.slice ca c.l.length cc,.int .u64 (c.keep:Nat),.int .i64 c.nb,.slice da c.ds.length dc,.int .i64 c.pol] 27)):=by
  unfold Hu;rw [HW];exact aU w (.cells #[.slice ca c.l.length cc,.int .u64 (c.keep:Nat),.int .i64 c.nb,.slice da c.ds.length dc,.int .i64 c.pol] 27) rfl
 go_enter Tryz.func5,Tryz.ntmps5
 go_wp2_with fail
 rw [<- HW];generalize (w.alloc (.cells #[.slice ca c.l.length cc,.int .u64 (c.keep:Nat),.int .i64 c.nb,.slice da c.ds.length dc,.int .i64 c.pol] 27))=X at *;have Jo:Hu (w.heap.size<=a):=by unfold Hu;omega
 clear HW;refine (UB X (T.o.below HH.o) (Z.o.below HH.o)).mono ?_;rintro e M ⟨rfl,hz⟩;have hM:a<X.heap.size:=(gS HV.o).1;have Ha:Hu (∀ W,Below X.heap.size X W->W.heap[a]?=some (.cells #[.slice ca c.l.length cc,.int .u64 (c.keep:Nat),.int .i64 c.nb,.slice da c.ds.length dc,.int .i64 c.pol] 27)/\Below w.heap.size w W):=λW hb=>⟨(hb.block a hM).trans HV.o,HH.o.trans (hb.mono HH.o.size)⟩
 have Hh:=qI hz;clear hz HV;have z:M.cell? ⟨a,0,none⟩=some (.slice ca c.l.length cc):=aa (Ha.o _ Hh.o).1 0;have B:M.cell? ⟨a,1,none⟩=some (.int .u64 (c.keep:Nat)):=aa (Ha.o _ Hh.o).1 1;have D:M.cell? ⟨a,2,none⟩=some (.int .i64 c.nb):=aa (Ha.o _ Hh.o).1 2;have A:M.cell? ⟨a,3,none⟩=some (.slice da c.ds.length dc):=aa (Ha.o _ Hh.o).1 3;have C:M.cell? ⟨a,4,none⟩=some (.int .i64 c.pol):=aa (Ha.o _ Hh.o).1 4;have HN:=qI (Ux c (.slice ca c.l.length cc) (.slice da c.ds.length dc) g o M (R.o.below (Ha.o _ Hh.o).2) (H2.o.below (Ha.o _ Hh.o).2));unfold nK at HN
 go_wp2_with fail
 refine HN.o.mono ?_;rintro e W2 ⟨⟨b,rfl⟩,hA⟩;have Ht:=qI (Hh.o.trans (hA.mono Hh.o.size));clear hA z B D A C HN Hh
 rcases two b with rfl|rfl
 rotate_left
 ·go_wp2
  go_ret;exact ⟨rfl,(Ha.o _ Ht.o).2⟩
 have hh:=qI (KM (.slice fa F.length fc) F W2 (HF.o.below (Ha.o _ Ht.o).2))
 go_wp2_with fail
 refine hh.o.mono ?_;rintro e N ⟨⟨b,rfl,HC⟩,hB⟩;have Hf:=qI (Ht.o.trans (hB.mono Ht.o.size));have HD:=qI HC;clear hB hh HC Ht
 rcases two b with rfl|rfl
 rotate_left
 ·go_wp2
  go_ret;exact ⟨rfl,(Ha.o _ Hf.o).2⟩
 have Jk:F.length<=16:=HD.o rfl;clear HD
 by_cases Jx:7000<s.size
 ·go_wp2
  go_ret;exact ⟨rfl,(Ha.o _ Hf.o).2⟩
 have Jm:s.size<=7000:=by omega
 clear Jx;have z:N.cell? ⟨a,0,none⟩=some (.slice ca c.l.length cc):=aa (Ha.o _ Hf.o).1 0;have B:N.cell? ⟨a,1,none⟩=some (.int .u64 (c.keep:Nat)):=aa (Ha.o _ Hf.o).1 1;have D:N.cell? ⟨a,2,none⟩=some (.int .i64 c.nb):=aa (Ha.o _ Hf.o).1 2;have A:N.cell? ⟨a,3,none⟩=some (.slice da c.ds.length dc):=aa (Ha.o _ Hf.o).1 3;have C:N.cell? ⟨a,4,none⟩=some (.int .i64 c.pol):=aa (Ha.o _ Hf.o).1 4;have HS:=qI (Fa c (.slice ca c.l.length cc) (.slice da c.ds.length dc) g o N (R.o.below (Ha.o _ Hf.o).2) (H2.o.below (Ha.o _ Hf.o).2) hk (T.o.below (Ha.o _ Hf.o).2) (Z.o.below (Ha.o _ Hf.o).2))
 go_wp2_with fail
 clear z B D A C;refine HS.o.mono ?_;rintro e Q ⟨Hp,Hb,Hj⟩;have Hi:=qI ((Ha.o _ Hf.o).2.trans (Hj.mono (Ha.o _ Hf.o).2.size));have hV:=(Ha.o _ Hf.o).2.size
 by_cases u:cM c=0
 rotate_left
 ·obtain ⟨bp,bq,rfl⟩:=Hp u;clear Hp Hb Hj HS u;have HY:=qI (Hi.o.alloc Hi.o.size (.cells #[.pointer bp,.pointer bq,.pointer none] 36))
  go_wp2
  go_ret;exact ⟨rfl,HY.o⟩
 obtain ⟨l,f,r,x,rfl,hF,l1,l2,l3,l4,hE⟩:=Hb u;have HL:=qI hF;have Jb:=qI hE;have hq:=qI (UK u);have HK:=qI u;have h6:=qI (((Hj.block a (by have:=Hf.o.size;omega)).trans (Ha.o _ Hf.o).1));have HX:=Hf.o.size;clear Hp Hb Hj hF u HS hE;have HY:=qI (Hi.o.alloc Hi.o.size (.cells #[.pointer (some ⟨f,0,none⟩),.pointer (some ⟨r,0,none⟩),.pointer (some ⟨l,0,none⟩)] 36));have hL:=qI ((Q0 Q.heap.size Q).alloc (lR) (.cells #[.pointer (some ⟨f,0,none⟩),.pointer (some ⟨r,0,none⟩),.pointer (some ⟨l,0,none⟩)] 36));have hC:=qI (aU Q (.cells #[.pointer (some ⟨f,0,none⟩),.pointer (some ⟨r,0,none⟩),.pointer (some ⟨l,0,none⟩)] 36) rfl);have h4:=qI (b6 h6.o (.cells #[.pointer (some ⟨f,0,none⟩),.pointer (some ⟨r,0,none⟩),.pointer (some ⟨l,0,none⟩)] 36));obtain ⟨d,HO⟩:∃ d,d=Q.heap.size:=⟨_,rfl⟩;rw [<- HO] at hC
 go_wp2_with fail
 rw [<- HO];generalize Q.alloc (.cells #[.pointer (some ⟨f,0,none⟩),.pointer (some ⟨r,0,none⟩),.pointer (some ⟨l,0,none⟩)] 36)=Y at *;obtain ⟨⟨a1,a2,a3⟩,a4⟩:=HL.o.lts;have Hv:Hu ((w.heap.size<=l/\w.heap.size<=f/\w.heap.size<=x)/\d≠l/\d≠f/\d≠x):=⟨⟨by omega,by omega,by omega⟩,by omega,by omega,by omega⟩;have Hm:Hu (a≠l/\a≠f/\a≠x):=⟨by omega,by omega,by omega⟩;have hy:Hu (d≠r/\w.heap.size<=d/\d≠a):=⟨by omega,by have:=Hi.o.size;omega,by omega⟩;have hW:Hu (be Y i6 l f r x ⟨cN c,c.ds,[]⟩ Dk.fresh 0):=HL.o.keep hL.o;have H7:Hu (∀ W,Below w.heap.size w W->cD W/\aM w (av (four i6 l f x) W)/\∀ W',Apart (three l f x) W W'->cD W'):=λW hb=>UL T.o Hv.o.1 hb
 clear HO a1 a2 a3 a4 l1 l2 l3 l4 hV HL Jb hL Hi hM HX
 go_wp2
 go_loopw [9] (λi W=>∃ k:Nat,k<=F.length/\i=.int .i64 k/\Below w.heap.size w W/\W.heap[d]?=some (.cells #[.pointer (some ⟨f,0,none⟩),.pointer (some ⟨r,0,none⟩),.pointer (some ⟨l,0,none⟩)] 36)/\W.heap[a]?=some (.cells #[.slice ca c.l.length cc,.int .u64 (c.keep:Nat),.int .i64 c.nb,.slice da c.ds.length dc,.int .i64 c.pol] 27)/\∃ t O n,n<=3*k/\t.m=cN c/\be W i6 l f r x t O n) (λi _=>F.length - (intOf i).toNat)
 case atStart=>exact ⟨0,Nat.zero_le _,rfl,HY.o,hC.o,h4.o,_,_,0,lR,rfl,hW.o⟩
 case round=>
  obtain ⟨k,hY,rfl,H8,hp,hD,t,O,n,hn,ho,hx⟩:=hrel;have H4:=qI H8;have Hr:=qI hp;have Ho:=qI hD;have Hq:=qI hx;have hT:=qI ho;clear H8 hp hD hx ho
  by_cases P:k<F.length
  ·obtain ⟨fb,fo,j1,rfl,HZ⟩:=Jg.o (by omega);obtain ⟨⟨r0,r1,r2⟩,HJ⟩:=HZ.2 k P;obtain ⟨qa,qc,hI,_⟩:=id HJ;rw [hI] at HJ r2;have hP:=qI HJ;have Jc:=qI r0;have hR:=qI r1;have h0:=qI r2;have Hl:fb<w.heap.size:=HZ.1;clear HZ HJ hI r0 r1 r2;generalize bI F k=q at *;have H6:Hu (∀ W,(Below w.heap.size w W/\W.heap[d]?=some (.cells #[.pointer (some ⟨f,0,none⟩),.pointer (some ⟨r,0,none⟩),.pointer (some ⟨l,0,none⟩)] 36)/\W.heap[a]?=some (.cells #[.slice ca c.l.length cc,.int .u64 (c.keep:Nat),.int .i64 c.nb,.slice da c.ds.length dc,.int .i64 c.pol] 27))->(Fo d l fb fo k q qa qc) W):=λW he=>⟨aa he.2.1 2,(he.1.cell (p:=⟨fb,_,none⟩) Hl).trans Jc.o,(he.1.cell (p:=⟨fb,_,none⟩) Hl).trans hR.o,(he.1.cell (p:=⟨fb,_,none⟩) Hl).trans h0.o⟩
   go_upto_region 12 with fail
   have HE:Hu (Below w.heap.size w wr.drew/\wr.drew.heap[d]?=some (.cells #[.pointer (some ⟨f,0,none⟩),.pointer (some ⟨r,0,none⟩),.pointer (some ⟨l,0,none⟩)] 36)/\wr.drew.heap[a]?=some (.cells #[.slice ca c.l.length cc,.int .u64 (c.keep:Nat),.int .i64 c.nb,.slice da c.ds.length dc,.int .i64 c.pol] 27)):=⟨bF H4.o,Hr.o,Ho.o⟩;have hX:Hu (be wr.drew i6 l f r x t O n):=Hq.o.keep (bF (Q0 _ _));refine wp_region_held_drew (S:=((Fo d l fb fo k q qa qc))) (by kernel_rfl) (H6.o _ HE.o) λhQ=>?_;generalize wr.drew=V at *;refine tk 0 ?_;refine tk 1 ?_;refine tk 2 ?_;refine tk 3 ?_;refine tk 4 ?_;refine tk 5 ?_;refine rd 6 λK hK=>?_;go_simp
   go_wp2_with fail
   have HU:=qI (UF (p:=q) (cv:=.slice qa q.cs.length qc) hX.o (hP.o.le (H7.o V HE.o.1).2.1) (H7.o V HE.o.1).1 (by omega));unfold du at HU;refine HU.o.mono ?_;rintro e V2 ⟨rfl,⟨I,n2,HI,U⟩,ha⟩;have HG:=qI (U9 Hv.o Hm.o HE.o ha);have Jf:=qI U;have Ji:Hu (({ m:=t.m,ds:=t.ds,hs:=(bl t q).2 }:bU).m=cN c):=hT.o;have HP:n2<=3*(k+1):=by omega
   clear U ha HI HU
   go_wp2_with fail
   refine hK.o _ _ (H6.o _ HG.o) λhQ=>?_;clear hK K;refine Qn (by kernel_rfl) ?_ _;clear hQ
   go_wp2
   go_roundw
   case rel=>exact ⟨k+1,by omega,by go_num,HG.o.1,HG.o.2.1,HG.o.2.2,({ m:=t.m,ds:=t.ds,hs:=(bl t q).2 }:bU),I,n2,HP,Ji.o,Jf.o⟩
   case measure=>simp [intOf];omega
  ·have Jl:n<=48:=by omega
   have hr:=qI (Uj f O s wr (mK Hq.o.eng.disk Hq.o.calm) Hq.o.calm (by omega));have L:wr.cell? ⟨d,0,none⟩=some (.pointer (some ⟨f,0,none⟩)):=aa Hr.o 0;have H:wr.cell? ⟨d,1,none⟩=some (.pointer (some ⟨r,0,none⟩)):=aa Hr.o 1;have J:wr.cell? ⟨d,2,none⟩=some (.pointer (some ⟨l,0,none⟩)):=aa Hr.o 2
   go_wp2_with fail
   clear L H J P hY hn;refine hr.o.mono ?_;rintro e E ⟨rfl,H9,hg⟩;have Hc:=qI (Va Hq.o Hv.o Hm.o hy.o H4.o Hr.o Ho.o H9 hg);clear H9 hg hr Hq H4 Hr Ho;have Hz:=qI (yb (λj=>j=d) c (.slice ca c.l.length cc) (.slice da c.ds.length dc) g o f r x (O.spoil s) n (aE t.hs) E (R.o.below Hc.o.below) (H2.o.below Hc.o.below) hk Hc.o.disk Hc.o.calm Hc.o.same Hc.o.size Hc.o.eng (by omega) (T.o.below Hc.o.below) (Z.o.below Hc.o.below) Hc.o.lt Hc.o.free);have L:E.cell? ⟨d,0,none⟩=some (.pointer (some ⟨f,0,none⟩)):=aa Hc.o.box 0;have H:E.cell? ⟨d,1,none⟩=some (.pointer (some ⟨r,0,none⟩)):=aa Hc.o.box 1;have J:E.cell? ⟨d,2,none⟩=some (.pointer (some ⟨l,0,none⟩)):=aa Hc.o.box 2;have z:E.cell? ⟨a,0,none⟩=some (.slice ca c.l.length cc):=aa Hc.o.conf 0;have B:E.cell? ⟨a,1,none⟩=some (.int .u64 (c.keep:Nat)):=aa Hc.o.conf 1;have D:E.cell? ⟨a,2,none⟩=some (.int .i64 c.nb):=aa Hc.o.conf 2;have A:E.cell? ⟨a,3,none⟩=some (.slice da c.ds.length dc):=aa Hc.o.conf 3;have C:E.cell? ⟨a,4,none⟩=some (.int .i64 c.pol):=aa Hc.o.conf 4
   go_wp2_with fail
   clear L H J z B D A C;refine Hz.o.mono ?_;rintro e v ⟨_,Hb,Hs⟩;obtain ⟨G,hs,I,n2,rfl,Hk,HI,U,hN,H0⟩:=Hb HK.o;have Hw:=qI (Vd Hc.o Hv.o Hm.o Hk U Hs hq.o);have Jh:=qI Hk;have Jn:Hu (G≠d):=by unfold Hu;have:=(gS Hc.o.box).1;omega
   have h3:n2<=90:=by have:=Vc Hk HI;omega
   clear Hb Hs Hk HI U hN H0 Hz;have L:v.cell? ⟨d,0,none⟩=some (.pointer (some ⟨f,0,none⟩)):=aa Hw.o.box 0;have H:v.cell? ⟨d,1,none⟩=some (.pointer (some ⟨r,0,none⟩)):=aa Hw.o.box 1;have J:v.cell? ⟨d,2,none⟩=some (.pointer (some ⟨l,0,none⟩)):=aa Hw.o.box 2;have f2:v.frozen? ⟨d,2,none⟩=false:=bw Hw.o.box 2;have Hg:=qI (Ve Hw.o hy.o);have hc:=qI (UZ (da:=da) (dl:=c.ds.length) (dc:=dc) Hg.o.mach rfl Hg.o.room HK.o (R.o.below Hg.o.below) hk (by omega));have z:(v.setCell ⟨d,2,none⟩ (.pointer (some ⟨G,0,none⟩))).cell? ⟨a,0,none⟩=some (.slice ca c.l.length cc):=aa Hg.o.conf 0;have B:(v.setCell ⟨d,2,none⟩ (.pointer (some ⟨G,0,none⟩))).cell? ⟨a,1,none⟩=some (.int .u64 (c.keep:Nat)):=aa Hg.o.conf 1;have D:(v.setCell ⟨d,2,none⟩ (.pointer (some ⟨G,0,none⟩))).cell? ⟨a,2,none⟩=some (.int .i64 c.nb):=aa Hg.o.conf 2;have A:(v.setCell ⟨d,2,none⟩ (.pointer (some ⟨G,0,none⟩))).cell? ⟨a,3,none⟩=some (.slice da c.ds.length dc):=aa Hg.o.conf 3;have C:(v.setCell ⟨d,2,none⟩ (.pointer (some ⟨G,0,none⟩))).cell? ⟨a,4,none⟩=some (.int .i64 c.pol):=aa Hg.o.conf 4
   go_wp2_with fail
   clear L H J f2 z B D A C;generalize (v.setCell ⟨d,2,none⟩ (.pointer (some ⟨G,0,none⟩)))=U3 at *;refine hc.o.mono ?_;rintro e y ⟨rfl,hG⟩;have He:=qI (Hg.o.keep hG);clear hG hc Hg;have Hz:=qI (yb i6 c (.slice ca c.l.length cc) (.slice da c.ds.length dc) g o f r x I n2 (aE hs) y (R.o.below He.o.below) (H2.o.below He.o.below) hk (mK He.o.mach.eng.disk He.o.mach.calm) He.o.mach.calm He.o.mach.txt.2.2.1 He.o.mach.txt.2.2.2 He.o.mach.eng (by omega) (T.o.below He.o.below) (Z.o.below He.o.below) (λj h=>h.elim) ⟨id,id,id⟩);have L:y.cell? ⟨d,0,none⟩=some (.pointer (some ⟨f,0,none⟩)):=aa He.o.box 0;have H:y.cell? ⟨d,1,none⟩=some (.pointer (some ⟨r,0,none⟩)):=aa He.o.box 1;have J:y.cell? ⟨d,2,none⟩=some (.pointer (some ⟨G,0,none⟩)):=aa He.o.box 2;have z:y.cell? ⟨a,0,none⟩=some (.slice ca c.l.length cc):=aa He.o.conf 0;have B:y.cell? ⟨a,1,none⟩=some (.int .u64 (c.keep:Nat)):=aa He.o.conf 1;have D:y.cell? ⟨a,2,none⟩=some (.int .i64 c.nb):=aa He.o.conf 2;have A:y.cell? ⟨a,3,none⟩=some (.slice da c.ds.length dc):=aa He.o.conf 3;have C:y.cell? ⟨a,4,none⟩=some (.int .i64 c.pol):=aa He.o.conf 4
   go_wp2_with fail
   clear L H J z B D A C;refine Hz.o.mono ?_;rintro e U5 ⟨_,Hb,Hs⟩;obtain ⟨Cb,Hn,j0,n3,rfl,Hk,HP,hj,Jd,HR⟩:=Hb HK.o;have Hx:Hn=hs:=(Uh Hc.o.calm (by rw [xW (ue HK.o).2.2.2];rfl) (ud hq.o) Jh.o Hk).1;subst Hx;have Je:=qI hj;have hH:=qI (Vf He.o.mach Hs);have Hi:=qI (Fm Hv.o He.o.below Hs);clear Hb Hs Hk HP hj Jd HR Hz
   go_wp2_with fail
   refine hH.o.mono ?_;rintro e U6 ⟨a6,c6,rfl,hw,H5⟩;have Hy:=qI (Hi.o.trans (H5.mono Hi.o.size));have hZ:=qI (Je.o.keep H5);have h9:Hu (aX U6 (.slice a6 Hn.length c6) Hn):=hw.le (Dw _ _);clear hw H5 hH;(try dsimp only)
   go_wp2_with fail
   refine (UG hZ.o).mono ?_;rintro e U7 ⟨a7,c7,rfl,hi,H3⟩;have hu:=qI (Hy.o.trans (H3.mono Hy.o.size));have h8:Hu (aX U7 (.slice a7 Hn.length c7) Hn):=hi.le (dm _ _);have h5:=qI (h9.o.below H3);clear hi H3;(try dsimp only)
   go_wp2_with fail
   refine (Ni _ _ Hn Hn U7 h5.o h8.o).mono ?_;rintro e U8 ⟨b8,rfl,HA,hv⟩;have HQ:=HA rfl;subst HQ;have Ja:=qI (hu.o.trans (hv.mono hu.o.size));clear HA hv
   go_wp2
   go_ret;exact ⟨rfl,Ja.o⟩
