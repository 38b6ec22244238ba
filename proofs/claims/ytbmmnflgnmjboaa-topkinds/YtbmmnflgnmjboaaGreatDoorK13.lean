import Derived.Test.YtbmmnflgnmjboaaGreatDoorK7
import Derived.Laws.AppendOwnNone
set_option maxRecDepth 100000
set_option maxHeartbeats 16000000
namespace Go.Proofs.YtbmmnflgnmjboaaGreatDoor
section
open RowKit
open Dvs (Dv dv0 dv nth)
def Src (w:World) (v:Value) (l:List Nat):Prop:=
 (v=.slice none 0 0/\l=[])\/∃ g c,v=.slice (some ⟨g,0,none⟩) l.length c/\g<w.heap.size/\∀ j u,(bG l)[j]?=some u->w.cell? ((⟨g,0,none⟩:Addr).add j)=some u
theorem Row.src {w:World} {B:Nat} {v:Value} {l:List Nat} (h:Row w B v l):Src w v l:=by
 unfold Row at h
 rcases h.2 with ⟨rfl,h0⟩|⟨g,cap,cur,rfl,hg,hgc,_⟩
 ·exact .inl ⟨rfl,Qe h0⟩
 ·refine .inr ⟨g,cap,rfl,(gS hgc).1,λj u hj=>?_⟩;have hlt:j<l.length:=by rw [<- kF];exact (List.getElem?_eq_some_iff.1 hj).1
  rw [Addr.add_lit,Qd,h.cellAt j (by omega)];exact hj
theorem Src.below {w w':World} {v:Value} {l:List Nat} (h:Src w v l) (hb:Below w.heap.size w w'):Src w' v l:=by
 rcases h with h|⟨g,c,hv,hlt,hc⟩
 ·exact .inl h
 ·exact .inr ⟨g,c,hv,Q1 hlt hb.size,λj u hj=>(hb.cell (p:=(⟨g,0,none⟩:Addr).add j) (by rw [Addr.add_lit];exact hlt)).trans (hc j u hj)⟩
theorem Src.form {w:World} {v:Value} {l:List Nat} (h:Src w v l):∃ ao c,v=.slice ao l.length c:=by
 rcases h with ⟨rfl,rfl⟩|⟨g,c,rfl,_⟩
 ·exact ⟨none,0,rfl⟩
 ·exact ⟨_,c,rfl⟩
theorem pE (l:List Nat):∀ u∈bG l,u.oneCell'=true:=by
 intro u hu;simp only [bG,Qk] at hu;obtain ⟨x,_,rfl⟩:=hu;rfl
theorem FT (n:Nat) (w:World) (hn:n<=1000):Calls Tryz.prog 208 #[.slice none 0 0,.int .i64 n] w λe w'=>∃ v,e=.returned v/\Row w' w.heap.size v []/\Below w.heap.size w w':=by
 by_cases h0:n=0
 ·subst h0;refine (Any8.slices_Grow_room Tryz.growL none 0 0 0 w (by omega) (by omega) (by omega) (by omega)).mono ?_;rintro e w' ⟨rfl,rfl⟩;exact ⟨_,rfl,Qw _ _ _ _,Q0 _ _⟩
 ·obtain ⟨i0,hi,hz0,hz1,hz2⟩:=info_parts oz;have hi':Tryz.prog.info? (Tryz.growL_ren.t 25)=some i0:=hi;refine (Any8.slices_Grow_grow Tryz.growL i0 (.int .i64 0) hi' hz0 (by omega) none 0 0 n [] w (by omega) (by omega) (by rw [hz2];omega) (by omega) (by rw [hz1];rfl) (λ_=>rfl) (λa ha=>by cases ha)).mono ?_;have ht:Tryz.growL_ren.t 25=3:=by kernel_rfl
  rw [ht];have hge:=grownCap_ge w (0+n) 0 3;have hle:=grownCap_le_maxLen w (0+n) 0 3 (by unfold maxLen;omega);generalize grownCap w (0+n) 0 3=G at *;rintro e w' ⟨rfl,rfl⟩;have hz:(([]:List Value).toArray++Builtin.zeroCells (Value.int .i64 0).cells (0+n - 0)++Builtin.zeroCells (Value.int .i64 0).cells (G - (0+n))).size=G*1:=by
   simp [Builtin.zeroCells,Value.cells]
   omega
  generalize (([]:List Value).toArray++Builtin.zeroCells (Value.int .i64 0).cells (0+n - 0)++Builtin.zeroCells (Value.int .i64 0).cells (G - (0+n)))=cur at *;have hown:World.ownsRow (w.drew.alloc (.cells cur 3)) w.heap.size 3 1 (.slice (some ⟨w.heap.size,0,none⟩) 0 G) 0 []:=by
   unfold World.ownsRow;refine ⟨rfl,.inr ⟨w.heap.size,G,cur,rfl,lR,?_,Nat.zero_le _,hle,hz,by simp⟩⟩
   show (w.heap.push (.cells cur 3))[w.heap.size]?=_
   simp
  refine ⟨_,rfl,hown,?_⟩
  ·exact (sd (Q0 w.heap.size w)).alloc (lR) _
def lk (l1 l2:List Nat):Nat->List Nat
 | 0=>[]
 | 1=>l1
 | _=>l1++l2
theorem FU (v1 v2:Value) (l1 l2:List Nat) (T:Nat) (w:World) (h1:Src w v1 l1) (h2:Src w v2 l2) (c1:w.cell? ⟨T,0,none⟩=some v1) (c2:w.cell? ⟨T,1,none⟩=some v2) (hl1:l1.length<=16) (hl2:l2.length<=16) :
  Calls Tryz.prog 166 #[.slice (some ⟨T,0,none⟩) 2 2] w λe w'=>∃ v,e=.returned v/\Row w' w.heap.size v (l1++l2)/\Below w.heap.size w w':=by
 obtain ⟨i0,hi,hz0,hz1,hz2⟩:=info_parts oz;have HS1:=qI h1;have HS2:=qI h2;have HT:=qI (Q3 w _ c1);obtain ⟨a1,d1,rfl⟩:=h1.form;obtain ⟨a2,d2,rfl⟩:=h2.form;clear h1 h2
 go_enter Tryz.func166,Tryz.ntmps166
 go_wp2_with fail
 go_loop [3,11] (λs i=>∃ k:Nat,k<=2/\i=.int .i64 k/\s=.int .i64 ((lk l1 l2 k).length:Nat)) (λ_ i=>2 - (intOf i).toNat)
 case atStart=>exact ⟨0,by omega,rfl,rfl⟩
 case round=>
  obtain ⟨k,hk,rfl,rfl⟩:=hrel;have key:k=0\/k=1\/k=2:=by omega
  rcases key with rfl|rfl|rfl
  ·have e0:(lk l1 l2 0).length=0:=rfl;rw [e0]
   go_wp2_with fail
   go_round
   case rel=>exact ⟨1,by omega,rfl,by show _=Value.int .i64 (l1.length:Nat);go_num⟩
   case measure=>simp [intOf]
  ·have e0:(lk l1 l2 1).length=l1.length:=rfl;rw [e0]
   go_wp2_with fail
   go_round
   case rel=>exact ⟨2,by omega,rfl,by show _=Value.int .i64 ((l1++l2).length:Nat);rw [Q2];go_num⟩
   case measure=>simp [intOf]
  ·have e0:(lk l1 l2 2).length=l1.length+l2.length:=Q2;rw [e0]
   go_wp2_with fail
   refine (FT (l1.length+l2.length) w (by omega)).mono ?_;rintro e w1 ⟨v,rfl,hr,hb⟩;have HR:=qI hr;have HB:=qI hb;clear hr hb
   go_wp2
   go_loopw [6,27] (λu i wr=>∃ k:Nat,k<=2/\i=.int .i64 k/\Row wr w.heap.size u (lk l1 l2 k)/\Below w.heap.size w wr) (λ_ i _=>2 - (intOf i).toNat)
   case atStart=>exact ⟨0,by omega,rfl,HR.out,HB.out⟩
   case round=>
    obtain ⟨k,hk,rfl,hr0,hB⟩:=hrel;have key:k=0\/k=1\/k=2:=by omega
    rcases key with rfl|rfl|rfl
    ·have hS:=HS1.out.below hB;have hc:=(hB.cell (p:=⟨T,0,none⟩) HT.out).trans c1;have hr:World.ownsRow wr w.heap.size 3 1 u6 ([]:List Nat).length (bG ([]:List Nat)):=hr0;clear hr0
     rcases hS with ⟨hv,hl⟩|⟨g,cc,hv,hlt,hcs⟩
     ·simp only [Value.slice.injEq] at hv;obtain ⟨e1,e2,e3⟩:=hv;subst e1 e3;rw [e2] at hc;have hl':=qI hl;clear hl e2
      go_wp2_with (at_builtin;refine wpList_append_own_none rfl _ _ 44 rfl w.heap.size 3 i0 1 Tryz.underlying44 hi _ _ _ rfl hr rfl ?_)
      go_roundw
      case rel=>
       refine ⟨1,by omega,rfl,?_,hB⟩
       show Row _ _ _ (l1)
       rw [hl'.out];exact hr
      case measure=>simp [intOf]
     ·simp only [Value.slice.injEq] at hv;obtain ⟨e1,_,e3⟩:=hv;subst e1 e3;have hB2:=hB.size
      go_wp2_with (at_builtin;refine wpList_append_own _ rfl _ _ 44 rfl w.heap.size 3 i0 (.int .i64 0) 1 8 Tryz.underlying44 hi hz0 hz1 hz2 rfl (by decide) _ _ _ rfl hr ⟨g,0,none⟩ l1.length d1 (bG l1) rfl (by rw [kF,Nat.mul_one]) hcs (pE l1) (by unfold maxLen;simp;omega) (by simp;omega) (by omega) ?_;intro v' w2 hown' hgrow' _)
      go_roundw
      case rel=>
       refine ⟨1,by omega,rfl,?_,hB.grown hgrow' hB2 (λj hj=>(hr.lt j hj).1)⟩
       show World.ownsRow _ _ _ _ _ (l1).length (bG (l1))
       simpa [bG] using hown'
      case measure=>simp [intOf]
    ·have hS:=HS2.out.below hB;have hc:=(hB.cell (p:=⟨T,1,none⟩) HT.out).trans c2;have hr:World.ownsRow wr w.heap.size 3 1 u6 (l1).length (bG (l1)):=hr0;clear hr0
     rcases hS with ⟨hv,hl⟩|⟨g,cc,hv,hlt,hcs⟩
     ·simp only [Value.slice.injEq] at hv;obtain ⟨e1,e2,e3⟩:=hv;subst e1 e3;rw [e2] at hc;have hl':=qI hl;clear hl e2
      go_wp2_with (at_builtin;refine wpList_append_own_none rfl _ _ 44 rfl w.heap.size 3 i0 1 Tryz.underlying44 hi _ _ _ rfl hr rfl ?_)
      go_roundw
      case rel=>
       refine ⟨2,by omega,rfl,?_,hB⟩
       show Row _ _ _ (l1++l2)
       rw [hl'.out,List.append_nil];exact hr
      case measure=>simp [intOf]
     ·simp only [Value.slice.injEq] at hv;obtain ⟨e1,_,e3⟩:=hv;subst e1 e3;have hB2:=hB.size
      go_wp2_with (at_builtin;refine wpList_append_own _ rfl _ _ 44 rfl w.heap.size 3 i0 (.int .i64 0) 1 8 Tryz.underlying44 hi hz0 hz1 hz2 rfl (by decide) _ _ _ rfl hr ⟨g,0,none⟩ l2.length d2 (bG l2) rfl (by rw [kF,Nat.mul_one]) hcs (pE l2) (by unfold maxLen;omega) (by omega) (by omega) ?_;intro v' w2 hown' hgrow' _)
      go_roundw
      case rel=>
       refine ⟨2,by omega,rfl,?_,hB.grown hgrow' hB2 (λj hj=>(hr.lt j hj).1)⟩
       show World.ownsRow _ _ _ _ _ (l1++l2).length (bG (l1++l2))
       have e:bG (l1++l2)=bG l1++bG l2:=by simp [bG]
       rw [e,Q2];exact hown'
      case measure=>simp [intOf]
    ·have HR2:=qI hr0;have HB2:=qI hB;clear hr0 hB
     go_wp2
     go_ret;exact ⟨_,rfl,HR2.out,HB2.out⟩
end
section
open RowKit
open Dvs (Dv dv0 dv nth first clF gvF bF rH aT)
theorem FV (v:Value) (g o:Nat) (l:List Int) (w:World) (pb db:Nat) (ao:Option Addr) (c:Nat) (ds:List Dv) (us:Nat->Bool) (h:ap w pb db ao c ds us) (hN:aT ds) (hl:fC w v g o l) (hl2:l.length<=9223372036854775807) :
  Calls Tryz.prog 158 #[.pointer (some ⟨pb,0,none⟩),v] w λe w'=>e=.returned (ak (first (clF ds.length us l) l.length:Nat))/\w.grownBy w' (some pb)/\ap w' pb db ao c ds (ik ds.length us l):=by
 have HL:=qI hl;obtain ⟨al,cl,rfl,_⟩:=hl;have HN:=qI hN;have HP:=qI h;have u0:=(h.used 0 (by decide)).1;have u1:=(h.used 1 (by decide)).1;have u2:=(h.used 2 (by decide)).1;have u3:=(h.used 3 (by decide)).1;have u4:=(h.used 4 (by decide)).1;have u5:=(h.used 5 (by decide)).1;have u6:=(h.used 6 (by decide)).1;have u7:=(h.used 7 (by decide)).1;have u8:=(h.used 8 (by decide)).1;have u9:=(h.used 9 (by decide)).1;have u10:=(h.used 10 (by decide)).1;have u11:=(h.used 11 (by decide)).1;have u12:=(h.used 12 (by decide)).1;have u13:=(h.used 13 (by decide)).1;have u14:=(h.used 14 (by decide)).1;have u15:=(h.used 15 (by decide)).1;have HT0:Hid (iN (w.alloc (.cells (kH us) 104)) w.heap.size (bF us (l.take 0))):=by
  rw [List.take_zero,Dvs.Al];exact iN.made w _ us
 have HP0:=qI (h.alloc (.cells (kH us) 104));have HB0:=qI ((Q0 w.heap.size w).alloc (lR) (.cells (kH us) 104));have HL0:=qI (HL.out.below HB0.out);unfold kH at HT0 HP0 HB0 HL0;clear h hN
 go_enter Tryz.func158,Tryz.ntmps158
 go_wp2
 go_loopw [14] (λi wr=>∃ k:Nat,k<=l.length/\i=.int .i64 k/\Hid (first (clF ds.length us l) k=0)/\iN wr w.heap.size (bF us (l.take k))/\ap wr pb db ao c ds us/\fC wr (.slice al l.length cl) g o l/\Below w.heap.size w wr) (λi _=>l.length - (intOf i).toNat)
 case atStart=>exact ⟨0,by omega,rfl,rfl,HT0.out,HP0.out,HL0.out,HB0.out⟩
 case round=>
  obtain ⟨k,hk,rfl,HK,hT,hP,hLn,hB⟩:=hrel;have hp:=HP.out.lt
  by_cases hlt:k<l.length
  ·have HLn:=qI hLn;obtain ⟨al',cl',hv,hcs⟩:=hLn;obtain ⟨rfl,hlg,hcs⟩:=hcs (by omega);cases hv;have hx:=hcs k hlt;have HT:=qI hT;have HPk:=qI hP;have HBk:=qI hB;have HH:=qI (ox (nth l k) wr pb db ao c ds us hP);have HW:=qI (λn hn=>(Dvs.ij (f:=clF ds.length us l) (n:=l.length) HK.out (by rw [hn];simp) hlt).trans (hn:clF ds.length us l k=n+1))
   rcases two (fD (nth l k) ds.length) with hb|hb
   ·obtain ⟨m,hm,hmn⟩:=lP hb;have hm16:m<16:=by have:=HN.out.1;omega
    have hbit:=(hT m hm16);have hbit1:=hbit.1;have hbit2:=hbit.2;have hus:=(hP.used m hm16).1;rw [hb] at HH;clear hbit hT hP hB hcs hb
    rcases two (bF us (l.take k) m) with hc|hc
    ·have HE:=qI (HW.out 4 (A7 hm hmn hc));have HO:Hid (ik ds.length us l=us):=by unfold Hid ik;rw [HE.out,if_neg (by decide)]
     rw [hc] at hbit1;rw [hm] at hx HH;clear hc HW
     go_wp2_with fail
     refine HH.out.mono ?_;rintro e w1 ⟨rfl,rfl⟩
     go_wp2
     go_ret;exact ⟨by rw [HE.out];rfl,dF HBk.out _,by rw [HO.out];exact HPk.out⟩
    ·have HK1:Hid (first (clF ds.length us l) (k+1)=0):=Dvs.iM HK.out (A8 hm hmn hc);have HT1:=qI (HT.out.set (g:=bF us (l.take (k+1))) hm16 true (λj _=>A9 hlt hm j));have HP1:=qI (HPk.out.kept (bL wr ⟨w.heap.size,m,none⟩ (.bool true)) (by simp;omega) (λh0=>by have:=(HP.out.at0 h0).2.2;simp;omega));have HL1:=qI (HLn.out.kept (bL wr ⟨w.heap.size,m,none⟩ (.bool true)) (λh0=>by have:=HL.out;obtain ⟨a1,a2,a3,a4⟩:=this;have:=(a4 h0).2.1;simp;omega));have HB1:=qI (HBk.out.setCell (p:=⟨w.heap.size,m,none⟩) (lR) (.bool true));rw [hc] at hbit1;rw [hm] at hx HH;clear hc HW
     go_wp2_with fail
     refine HH.out.mono ?_;rintro e w1 ⟨rfl,rfl⟩
     go_wp2
     go_roundw
     case rel=>exact ⟨k+1,by omega,by go_num,HK1,HT1.out,HP1.out,HL1.out,HB1.out⟩
     case measure=>simp [intOf];omega
   ·have HE:=qI (HW.out 0 (A6 hb));have HO:Hid (ik ds.length us l=us):=by unfold Hid ik;rw [HE.out,if_neg (by decide)]
    rw [hb] at HH;clear hb HW hT hP hB hcs
    go_wp2_with fail
    refine HH.out.mono ?_;rintro e w1 ⟨rfl,rfl⟩
    go_wp2
    go_ret;exact ⟨by rw [HE.out];rfl,dF HBk.out _,by rw [HO.out];exact HPk.out⟩
  ·have hke:k=l.length:=by omega
   subst hke;have HO:Hid (ik ds.length us l=bF us (l.take l.length)):=by unfold Hid ik;rw [HK.out,if_pos rfl,Qh]
   have HBk:=qI hB;have HF:=qI (A5 hP (bF us (l.take l.length)));have HG:=qI ((dF hB (some pb)).trans (A4 wr pb (bF us (l.take l.length)) 16));have t0:=(hT 0 (by decide)).1;have z0:=(hP.used 0 (by decide)).2;have s0:=(hP.used 0 (by decide)).1;have t1:=(hT 1 (by decide)).1;have z1:=(hP.used 1 (by decide)).2;have s1:=(hP.used 1 (by decide)).1;have t2:=(hT 2 (by decide)).1;have z2:=(hP.used 2 (by decide)).2;have s2:=(hP.used 2 (by decide)).1;have t3:=(hT 3 (by decide)).1;have z3:=(hP.used 3 (by decide)).2;have s3:=(hP.used 3 (by decide)).1;have t4:=(hT 4 (by decide)).1;have z4:=(hP.used 4 (by decide)).2;have s4:=(hP.used 4 (by decide)).1;have t5:=(hT 5 (by decide)).1;have z5:=(hP.used 5 (by decide)).2;have s5:=(hP.used 5 (by decide)).1;have t6:=(hT 6 (by decide)).1;have z6:=(hP.used 6 (by decide)).2;have s6:=(hP.used 6 (by decide)).1;have t7:=(hT 7 (by decide)).1;have z7:=(hP.used 7 (by decide)).2;have s7:=(hP.used 7 (by decide)).1;have t8:=(hT 8 (by decide)).1;have z8:=(hP.used 8 (by decide)).2;have s8:=(hP.used 8 (by decide)).1;have t9:=(hT 9 (by decide)).1;have z9:=(hP.used 9 (by decide)).2;have s9:=(hP.used 9 (by decide)).1;have t10:=(hT 10 (by decide)).1;have z10:=(hP.used 10 (by decide)).2;have s10:=(hP.used 10 (by decide)).1;have t11:=(hT 11 (by decide)).1;have z11:=(hP.used 11 (by decide)).2;have s11:=(hP.used 11 (by decide)).1;have t12:=(hT 12 (by decide)).1;have z12:=(hP.used 12 (by decide)).2;have s12:=(hP.used 12 (by decide)).1;have t13:=(hT 13 (by decide)).1;have z13:=(hP.used 13 (by decide)).2;have s13:=(hP.used 13 (by decide)).1;have t14:=(hT 14 (by decide)).1;have z14:=(hP.used 14 (by decide)).2;have s14:=(hP.used 14 (by decide)).1;have t15:=(hT 15 (by decide)).1;have z15:=(hP.used 15 (by decide)).2;have s15:=(hP.used 15 (by decide)).1;clear hT hP hB hLn;generalize bF us (l.take l.length)=f at *
   go_wp2
   go_ret;refine ⟨by rw [HK.out];rfl,HG.out,?_⟩;rw [HO.out];exact HF.out
end
section
open RowKit
open Dvs (Dv dv0 dv nth fits fi cA fU sel ord bA b8 srt bP aT)
theorem FW (m n:Nat) (hm:m<256) (hn:n<=3):(255 - m).testBit n=!m.testBit n:=by
 have key:∀ (a:Fin 256) (b:Fin 4),(255 - a.val).testBit b.val=!a.val.testBit b.val:=by decide +kernel
 exact key ⟨m,hm⟩ ⟨n,by omega⟩
theorem FX {ds:List Dv} (hN:aT ds) (us:Nat->Bool) (kind:ByteArray) (m:Nat) (hm:m<256):sel (cA ds us kind (255 - m)) ds.length=sel (fU ds us kind m) ds.length:=by
 refine Dvs.l9 λj hj=>?_
 have:=hN.2 j hj
 unfold cA fU fi;rw [FW m _ hm (by omega)]
theorem FY (m:Nat) (hm:m<256):bits BinOp.xor IntKind.u8 IntKind.u8.max (m:Int)=((255 - m:Nat):Int):=by
 have key:∀ (a:Fin 256),bits BinOp.xor IntKind.u8 IntKind.u8.max ((a.val:Nat):Int)=((255 - a.val:Nat):Int):=by decide +kernel
 exact key ⟨m,hm⟩
def jx (bad:Nat->Value) (w:World) (pb db:Nat) (ao:Option Addr) (c:Nat) (ds:List Dv) (us:Nat->Bool) (kind:ByteArray) (m:Nat) (many:Int) (e:Ending) (w':World):Prop:=
 (bP ds us kind many≠0->e=.returned (.tuple #[.slice none 0 0,bad (bP ds us kind many)])/\Below w.heap.size w w')/\
 (bP ds us kind many=0->∃ v g,e=.returned (.tuple #[v,bad 0])/\fC w' v g 0 (ints (srt (bA ds us kind m many.toNat)))/\(0<(srt (bA ds us kind m many.toNat)).length->w.heap.size<=g)/\ap w' pb db ao c ds (b8 us (bA ds us kind m many.toNat)))/\
 w.grownBy w' (some pb)
theorem jx.wrong {bad:Nat->Value} {w:World} {pb db:Nat} {ao:Option Addr} {c:Nat} {ds:List Dv} {us:Nat->Bool} {kind:ByteArray} {m:Nat} {many:Int} {e:Ending} {w':World} {n:Nat} (hf:bP ds us kind many=n) (hn:n≠0) (he:e=.returned (.tuple #[.slice none 0 0,bad n])) (hb:Below w.heap.size w w'):jx bad w pb db ao c ds us kind m many e w':=
 ⟨λ_=>⟨by rw [hf];exact he,hb⟩,λh=>by omega,dF hb _⟩
theorem Row.nums {w:World} {B:Nat} {v:Value} {l:List Nat} (h:Row w B v l):∃ g,fC w v g 0 (ints l)/\(0<l.length->B<=g):=by
 unfold Row at h
 rcases h.2 with ⟨rfl,h0⟩|⟨g,cap,cur,rfl,hg,hgc,_⟩
 ·have:=Qe h0
  subst this;exact ⟨0,⟨none,0,rfl,λh=>by simp [ints] at h⟩,λh=>by simp at h⟩
 ·refine ⟨g,⟨_,cap,by rw [kG],λ_=>⟨rfl,(gS hgc).1,λk hk=>?_⟩⟩,λ_=>hg⟩;rw [kG] at hk;rw [Qd,h.cellAt k (by omega)]
  simp [bG,nth,ints,hk]
theorem uM {a b c:World} {r r':Option Nat} (h:a.grownBy b r) (k:b.grownBy c r') (hr:∀ j,r'=some j->a.heap.size<=j\/r=some j):a.grownBy c r:=
 ⟨k.os.trans h.os,k.tape.trans h.tape,k.output.trans h.output,Q5 h.size k.size,λi hi hne=>(k.block i (Q1 hi h.size) (λe=>by rcases hr i e.symm with h1|h1;omega;exact hne h1.symm)).trans (h.block i hi hne)⟩
theorem FZ {us:Nat->Bool} {l:List Nat} {k q:Nat} (hq:l[k]?=some q) (j:Nat):b8 us (l.take (k+1)) j=if j=q then true else b8 us (l.take k) j:=by
 rw [List.take_add_one,hq]
 show b8 us (l.take k++[q]) j=_
 rw [Dvs.Ae]
 by_cases e:j=q
 ·rw [if_pos e,Qc e,Bool.or_true]
 ·rw [if_neg e,Q7 e,Bool.or_false]
theorem uN {L:List Nat} (h16:∀ j∈L,j<16) (hn:L.Nodup) {wr:World} {B g cap:Nat} {cur:Array Value} (hB:B<=g) (hgc:wr.heap[g]?=some (.cells cur 3 (0,0))) (hlc:L.length<=cap) (hcm:cap<=maxLen) (hcs:cur.size=cap*1) (hct:cur.toList.take L.length=bG L) (hsl:L.length<4611686018427387904) :
  Calls Tryz.prog 130 #[.slice (some ⟨g,0,none⟩) L.length cap] wr λe w'=>e=.returned (.tuple #[])/\Row w' B (.slice (some ⟨g,0,none⟩) (srt L).length cap) (srt L)/\wr.grownBy w' (some g):=by
 have hlt:g<wr.heap.size:=(gS hgc).1;have hil:(ints L).length=L.length:=kG L;have hmap:(ints L).map (Value.int .i64)=bG L:=by simp [ints,bG]
 have hH:=holds_of_blockI (ss:=ints L) hgc (by rw [hil,hct,hmap]);have hS:=Any.slices_Sort_int Tryz.sortL9 g 0 cap (ints L) wr hH hlt (by rw [hil];exact hsl);rw [hil] at hS;refine hS.mono ?_;rintro e w' ⟨rfl,n,os,rfl⟩;have hso:(ints L).mergeSort (λx y=>decide (x<=y))=ints (srt L):=Dvs.Ai h16 hn;have hsl2:(srt L).length=L.length:=Dvs.md h16 hn;rw [hso];refine ⟨rfl,?_,grownBy_sortedI _⟩
 have:=ownsRow_sortedI (ss:=ints L) (ts:=ints (srt L)) (base:=B) (n:=n) (os:=os) (by rw [kG,hil,hsl2]) hB hgc (by rw [hil];exact hlc) hcm hcs
 rw [hil] at this;unfold Row;rw [hsl2];have e2:(ints (srt L)).map (Value.int .i64)=bG (srt L):=by simp [ints,bG]
 rw [e2] at this;exact this
theorem F0 (kind:ByteArray) (many:Int) (m:Nat) (w:World) (pb:Nat) (h:many<0) :
  Calls Tryz.prog 129 #[.pointer (some ⟨pb,0,none⟩),.string kind,.int .i64 many,.int .u8 m] w λe w'=>e=.returned (.tuple #[.slice none 0 0,.iface 121 (.int .i64 1)])/\w'=w:=by
 go_enter Tryz.func129,Tryz.ntmps129
 go_wp2
 go_ret2;exact ⟨rfl,rfl⟩
theorem F3 (kind:ByteArray) (many m:Nat) (w:World) (pb db:Nat) (ao:Option Addr) (c:Nat) (ds:List Dv) (us:Nat->Bool) (h:ap w pb db ao c ds us) (hN:aT ds) (hm:m<256) :
  Calls Tryz.prog 129 #[.pointer (some ⟨pb,0,none⟩),.string kind,.int .i64 many,.int .u8 m] w λe w'=>jx (λn=>ak n) w pb db ao c ds us kind m many e w':=by
 have HR1:=qI (sg kind m w pb db ao c ds us h hN hm);have HR2:Hid (∀ W,ap W pb db ao c ds us->Calls Tryz.prog 167 #[.pointer (some ⟨pb,0,none⟩),.string kind,.int .u8 (bits BinOp.xor IntKind.u8 IntKind.u8.max m)] W λe w'=>∃ v,e=.returned v/\Row w' W.heap.size v (sel (fU ds us kind m) ds.length)/\Below W.heap.size W w'):=by
  intro W hW;rw [FY m hm,<- FX hN us kind m hm];exact sg kind (255 - m) W pb db ao c ds us hW hN (by omega)
 have HP:=qI h;have HN:=qI hN;have HO:Hid (ord ds us kind m=sel (cA ds us kind m) ds.length++sel (fU ds us kind m) ds.length):=rfl;have HOl:=qI (Dvs.ol ds us kind m);have hl1:=Dvs.jR (cA ds us kind m) ds.length;have hl2:=Dvs.jR (fU ds us kind m) ds.length;have h16:=hN.1;clear h hN;generalize sel (cA ds us kind m) ds.length=l1 at *;generalize sel (fU ds us kind m) ds.length=l2 at *
 go_enter Tryz.func129,Tryz.ntmps129
 go_wp2_with fail
 refine HR1.out.mono ?_;rintro e w1 ⟨v1,rfl,hr1,hb1⟩;have HS1:=qI hr1.src;have HP1:=qI (HP.out.below hb1);have HB1:=qI hb1;clear hr1 hb1 HR1
 go_wp2_with fail
 refine (HR2.out w1 HP1.out).mono ?_;rintro e w2 ⟨v2,rfl,hr2,hb2⟩;have HB2:=qI (HB1.out.trans (hb2.mono HB1.out.size));have hbA:=(Q0 w2.heap.size w2).alloc (lR) (.cells #[v1,v2] 44);have HP2:=qI ((HP1.out.below hb2).below hbA);have HS1':=qI ((HS1.out.below hb2).below hbA);have HS2':=qI (hr2.src.below hbA);have HBA:=qI (HB2.out.trans (hbA.mono HB2.out.size));obtain ⟨a1,d1,rfl⟩:=HS1.out.form;obtain ⟨a2,d2,rfl⟩:=hr2.src.form;clear hr2 hb2 hbA HR2 HS1 HB1 HP1
 go_wp2_with fail
 refine (FU _ _ l1 l2 w2.heap.size _ HS1'.out HS2'.out (by simp) (by simp) (by omega) (by omega)).mono ?_;rintro e w3 ⟨v3,rfl,hr3,hb3⟩;have HP3:=qI (HP2.out.below hb3);have HB3:=qI (HBA.out.trans (hb3.mono HBA.out.size));have hsz3:w.heap.size<=(w2.alloc (.cells #[.slice a1 l1.length d1,.slice a2 l2.length d2] 44)).heap.size:=HBA.out.size;rw [<- HO.out] at hr3;clear hb3 HP2 HBA HB2 HS1' HS2';generalize (w2.alloc (.cells #[.slice a1 l1.length d1,.slice a2 l2.length d2] 44)).heap.size=B3 at *;have HR3:=qI hr3;unfold Row at hr3;have hol:(ord ds us kind m).length<=32:=by rw [HO.out,Q2];omega
 have HTF:Hid (bP ds us kind many=if ((ord ds us kind m).length:Int)<many then 9 else 0):=by unfold Hid bP;rw [if_neg (by omega),HOl.out]
 by_cases hf:(ord ds us kind m).length<many
 ·have HTF1:Hid (bP ds us kind many=9):=HTF.out.trans (if_pos (by omega));clear HTF
  rcases hr3.2 with ⟨rfl,h0⟩|⟨g,cap,cur,rfl,hg,hgc,hnc,hcm,hcs,hct⟩
  ·rw [h0] at hf;clear hr3
   go_wp2
   go_ret2;exact jx.wrong HTF1.out (by decide) rfl HB3.out
  ·clear hr3 hgc hcs hct
   go_wp2
   go_ret2;exact jx.wrong HTF1.out (by decide) rfl HB3.out
 ·have HTF1:Hid (bP ds us kind many=0):=HTF.out.trans (if_neg (by omega));clear HTF
  rcases hr3.2 with ⟨rfl,h0⟩|⟨g,cap,cur,rfl,hg,hgc,hnc,hcm,hcs,hct⟩
  ·have hm0:many=0:=by omega
   subst hm0;have hon:=Qe h0;have HTk:Hid (bA ds us kind m 0=[]):=by unfold Hid bA;simp
   clear hr3
   go_wp2_with fail
   go_loop [37] (λi=>i=.int .i64 0) (λ_=>0)
   case atStart=>rfl
   case round=>
    subst hrel
    go_wp2_with fail
    refine (Any.slices_Sort_int_none Tryz.sortL9 _ _ _).mono ?_;rintro e w5 ⟨rfl,rfl⟩
    go_wp2
    go_ret2;refine ⟨λhh=>absurd HTF1.out hh,λ_=>⟨_,0,rfl,?_,?_,?_⟩,dF HB3.out _⟩
    ·show fC _ _ _ _ (ints (srt (bA ds us kind m 0)))
     rw [HTk.out];exact ⟨none,0,rfl,λh=>by simp [ints,srt,sel] at h⟩
    ·show 0<(srt (bA ds us kind m 0)).length->_
     rw [HTk.out];exact λh=>by simp [srt,sel] at h
    ·show ap _ _ _ _ _ _ (b8 us (bA ds us kind m 0))
     rw [HTk.out,Dvs.rE];exact HP3.out
  ·have hmn:many<=(ord ds us kind m).length:=by omega
   clear hr3;have hgp:g≠pb:=by have:=HP.out.lt;omega
   have HTl:Hid ((bA ds us kind m many).length=many):=by unfold Hid bA;rw [Qu];omega
   have HTt:Hid (bA ds us kind m many=(ord ds us kind m).take many):=rfl;have HT16:Hid (∀ j∈bA ds us kind m many,j<16):=λj hj=>by have:=(Dvs.fV hj).1;omega
   have HTn:=qI (Dvs.kC ds us kind m many);have HM:Hid (∀ k q:Nat,(ord ds us kind m)[k]?=some q->q<16):=λk q hq=>by
    have:=(Dvs.rF.1 (List.mem_of_getElem? hq)).1
    omega
   have HX:Hid (∀ k,k<(ord ds us kind m).length->∃ q:Nat,(ord ds us kind m)[k]?=some q/\w3.cell? ⟨g,k,none⟩=some (.int .i64 q)):=λk hk=>by
    refine ⟨(ord ds us kind m)[k],Qf hk,?_⟩
    have:=HR3.out
    unfold Row at this;rw [this.cellAt k (by omega)]
    simp [bG,hk]
   have hlt3:g<w3.heap.size:=(gS hgc).1;have HQ:=qI (And.intro hgc (And.intro hcm (And.intro hcs hct)));clear hgc hcs hct hcm;have hdm:decide ((many:Int)<0)=false:=by simp
   go_wp2
   go_loopw [37] (λi wr=>∃ k:Nat,k<=many/\i=.int .i64 k/\ap wr pb db ao c ds (b8 us ((ord ds us kind m).take k))/\w3.grownBy wr (some pb)) (λi _=>many - (intOf i).toNat)
   case atStart=>exact ⟨0,by omega,rfl,by rw [List.take_zero,Dvs.rE];exact HP3.out,ow _ _⟩
   case round=>
    obtain ⟨k,hk,rfl,hP,hG⟩:=hrel
    by_cases hlt:k<many
    ·obtain ⟨q,hq,hx3⟩:=HX.out k (by omega);have hq16:=HM.out k q hq;have hx:=(hG.cell_far ⟨g,k,none⟩ hlt3 (by simpa using hgp)).trans hx3;obtain ⟨hu,hz⟩:=hP.used q hq16;have HP':=qI (hP.set (vs:=b8 us ((ord ds us kind m).take (k+1))) hq16 true (λj _=>FZ hq j));have HG':=qI (hG.trans (bL wr ⟨pb,1+q,none⟩ (.bool true)));clear hP hG hx3 hq
     go_wp2
     go_roundw
     case rel=>exact ⟨k+1,by omega,by go_num,HP'.out,HG'.out⟩
     case measure=>simp [intOf];omega
    ·have hke:k=many:=by omega
     subst hke;have HPk:=qI hP;have HGk:=qI hG;clear hP hG;have HS:Hid (Calls Tryz.prog 130 #[.slice (some ⟨g,0,none⟩) k cap] wr λe w'=>e=.returned (.tuple #[])/\Row w' B3 (.slice (some ⟨g,0,none⟩) k cap) (srt (bA ds us kind m k))/\wr.grownBy w' (some g)):=by
      obtain ⟨q1,q2,q3,q4⟩:=HQ.out
      have:=uN HT16.out HTn.out hg (wr:=wr) ((HGk.out.block g hlt3 (by simpa using hgp)).trans q1) (by rw [HTl.out];omega) q2 q3 (by
       rw [HTl.out,HTt.out];rw [Nat.mul_one] at q4;have e:(cur.toList.take (ord ds us kind m).length).take k=cur.toList.take k:=by rw [List.take_take,Nat.min_eq_left hmn]
       rw [<- e,q4]
       simp [bG,List.map_take]) (by rw [HTl.out];omega)
      rw [Dvs.md HT16.out HTn.out,HTl.out] at this;exact this
     go_wp2_with fail
     refine HS.out.mono ?_;rintro e w5 ⟨rfl,hr5,hg5⟩;obtain ⟨g5,hn5,hge5⟩:=hr5.nums;have HP5:=qI (HPk.out.kept hg5 (by simpa using λe=>hgp e.symm) (λh0=>by have:=(HP.out.at0 h0).2.2;simp;omega));have HG5:=qI (uM (dF HB3.out (some pb)) HGk.out (λj hj=>by right;exact hj));have HG6:=qI (uM HG5.out hg5 (λj hj=>by left;cases hj;omega));have HN5:=qI (And.intro hn5 hge5);clear hr5 hg5 hn5 hge5
     go_wp2
     go_ret2;refine ⟨λhh=>absurd HTF1.out hh,λ_=>⟨_,g5,rfl,HN5.out.1,λh0=>Q5 hsz3 (HN5.out.2 h0),?_⟩,HG6.out⟩;exact HP5.out
end
section
open RowKit
open Dvs (Dv dv0 dv nth aT fault)
theorem ap.devsAt {w:World} {pb db:Nat} {ao:Option Addr} {c:Nat} {ds:List Dv} {us:Nat->Bool} (h:ap w pb db ao c ds us):bS w (.slice ao ds.length c) db 0 ds:=
 ⟨ao,c,rfl,λh0=>⟨(h.at0 h0).1,(h.at0 h0).2.2,λk hk=>by obtain ⟨c0,c1,c2,_⟩:=h.cells k hk;rw [Qd];exact ⟨c0,c1,c2⟩⟩⟩
theorem uO (w:World) (pb db:Nat) (ao:Option Addr) (c:Nat) (ds:List Dv) (us:Nat->Bool) (h:ap w pb db ao c ds us) (hN:aT ds) :
  Calls Tryz.prog 45 #[.pointer (some ⟨pb,0,none⟩)] w λe w'=>∃ v,e=.returned v/\fX w.heap.size w' v ds/\Below w.heap.size w w':=by
 have HC:=qI (rX _ db 0 ds w h.devsAt hN.1);have hrow:=h.row;clear h hN
 go_enter Tryz.func45,Tryz.ntmps45
 go_wp2_with fail
 refine HC.out.mono ?_;rintro e w1 ⟨v,rfl,hv,hb⟩;have HV:=qI hv;have HB:=qI hb;clear hv hb
 go_wp2
 go_ret;exact ⟨_,rfl,HV.out,HB.out⟩
theorem F4 (kind:ByteArray) (many:Int) (m:Nat) (w:World) (pb db:Nat) (ao:Option Addr) (c:Nat) (ds:List Dv) (us:Nat->Bool) (h:ap w pb db ao c ds us) (hN:aT ds) (hm:m<256) :
  Calls Tryz.prog 129 #[.pointer (some ⟨pb,0,none⟩),.string kind,.int .i64 many,.int .u8 m] w λe w'=>jx (λn=>ak n) w pb db ao c ds us kind m many e w':=by
 by_cases h0:many<0
 ·refine (F0 kind many m w pb h0).mono ?_;rintro e w' ⟨rfl,rfl⟩;exact jx.wrong (n:=1) (by rw [Dvs.bP,if_pos h0]) (by decide) rfl (Q0 _ _)
 ·obtain ⟨n,rfl⟩:=Int.eq_ofNat_of_zero_le (show 0<=many by omega);exact F3 kind n m w pb db ao c ds us h hN hm
end
