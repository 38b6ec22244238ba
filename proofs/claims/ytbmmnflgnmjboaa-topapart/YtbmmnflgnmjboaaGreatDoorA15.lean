import Derived.Test.YtbmmnflgnmjboaaGreatDoorA7
import Derived.Laws.AppendOwnNone
set_option maxRecDepth 100000
set_option maxHeartbeats 16000000
namespace Go.Proofs.YtbmmnflgnmjboaaGreatDoor
section
open RowKit
open Dvs (Dv dv0 dv nth)
def Src (w:World) (v:Value) (l:List Nat):Prop:=
 (v=.slice none 0 0/\l=[])\/∃ g c,v=.slice (some ⟨g,0,none⟩) l.length c/\g<w.heap.size/\∀ j u,(bI l)[j]?=some u->w.cell? ((⟨g,0,none⟩:Addr).add j)=some u
theorem Row.src {w:World} {B:Nat} {v:Value} {l:List Nat} (h:Row w B v l):Src w v l:=by
 unfold Row at h
 rcases h.2 with ⟨rfl,h0⟩|⟨g,cap,cur,rfl,hg,Ha,_⟩
 ·exact .inl ⟨rfl,Qe h0⟩
 ·refine .inr ⟨g,cap,rfl,(gS Ha).1,λj u hj=>?_⟩;have Hb:j<l.length:=by rw [<- l6];exact (List.getElem?_eq_some_iff.1 hj).1
  rw [Addr.add_lit,Qd,h.cellAt j (by omega)];exact hj
theorem Src.below {w w':World} {v:Value} {l:List Nat} (h:Src w v l) (hb:Below w.heap.size w w'):Src w' v l:=by
 rcases h with h|⟨g,c,hv,hlt,hc⟩
 ·exact .inl h
 ·exact .inr ⟨g,c,hv,Q1 hlt hb.size,λj u hj=>(hb.cell (p:=(⟨g,0,none⟩:Addr).add j) (by rw [Addr.add_lit];exact hlt)).trans (hc j u hj)⟩
theorem Src.form {w:World} {v:Value} {l:List Nat} (h:Src w v l):∃ ao c,v=.slice ao l.length c:=by
 rcases h with ⟨rfl,rfl⟩|⟨g,c,rfl,_⟩
 ·exact ⟨none,0,rfl⟩
 ·exact ⟨_,c,rfl⟩
theorem rD (l:List Nat):∀ u∈bI l,u.oneCell'=true:=by
 intro u hu;simp only [bI,Qk] at hu;obtain ⟨x,_,rfl⟩:=hu;rfl
theorem IR (n:Nat) (w:World) (hn:n<=1000):Calls Tryz.prog 208 #[.slice none 0 0,.int .i64 n] w λe w'=>∃ v,e=.returned v/\Row w' w.heap.size v []/\Below w.heap.size w w':=by
 by_cases h0:n=0
 ·subst h0;refine (Any8.slices_Grow_room Tryz.growL none 0 0 0 w (by omega) (by omega) (by omega) (by omega)).mono ?_;rintro e w' ⟨rfl,rfl⟩;exact ⟨_,rfl,Qw _ _ _ _,Q0 _ _⟩
 ·obtain ⟨i0,hi,Hc,Hf,Hb⟩:=info_parts qi;have He:Tryz.prog.info? (Tryz.growL_ren.t 25)=some i0:=hi;refine (Any8.slices_Grow_grow Tryz.growL i0 (.int .i64 0) He Hc (by omega) none 0 0 n [] w (by omega) (by omega) (by rw [Hb];omega) (by omega) (by rw [Hf];rfl) (λ_=>rfl) (λa ha=>by cases ha)).mono ?_;have ht:Tryz.growL_ren.t 25=3:=by kernel_rfl
  rw [ht];have Hg:=grownCap_ge w (0+n) 0 3;have hle:=grownCap_le_maxLen w (0+n) 0 3 (by unfold maxLen;omega);generalize grownCap w (0+n) 0 3=G at *;rintro e w' ⟨rfl,rfl⟩;have hz:(([]:List Value).toArray++Builtin.zeroCells (Value.int .i64 0).cells (0+n - 0)++Builtin.zeroCells (Value.int .i64 0).cells (G - (0+n))).size=G*1:=by
   simp [Builtin.zeroCells,Value.cells]
   omega
  generalize (([]:List Value).toArray++Builtin.zeroCells (Value.int .i64 0).cells (0+n - 0)++Builtin.zeroCells (Value.int .i64 0).cells (G - (0+n)))=cur at *;have Ha:World.ownsRow (w.drew.alloc (.cells cur 3)) w.heap.size 3 1 (.slice (some ⟨w.heap.size,0,none⟩) 0 G) 0 []:=by
   unfold World.ownsRow;refine ⟨rfl,.inr ⟨w.heap.size,G,cur,rfl,lR,?_,Nat.zero_le _,hle,hz,by simp⟩⟩
   show (w.heap.push (.cells cur 3))[w.heap.size]?=_
   simp
  refine ⟨_,rfl,Ha,?_⟩
  ·exact (uK (Q0 w.heap.size w)).alloc (lR) _
def mJ (l1 l2:List Nat):Nat->List Nat
 | 0=>[]
 | 1=>l1
 | _=>l1++l2
theorem IS (v1 v2:Value) (l1 l2:List Nat) (T:Nat) (w:World) (h1:Src w v1 l1) (h2:Src w v2 l2) (c1:w.cell? ⟨T,0,none⟩=some v1) (c2:w.cell? ⟨T,1,none⟩=some v2) (hl1:l1.length<=16) (hl2:l2.length<=16) :
  Calls Tryz.prog 166 #[.slice (some ⟨T,0,none⟩) 2 2] w λe w'=>∃ v,e=.returned v/\Row w' w.heap.size v (l1++l2)/\Below w.heap.size w w':=by
 obtain ⟨i0,hi,Hi,Hj,Hh⟩:=info_parts qi;have Hk:=qI h1;have Hn:=qI h2;have HT:=qI (Q3 w _ c1);obtain ⟨a1,d1,rfl⟩:=h1.form;obtain ⟨a2,d2,rfl⟩:=h2.form;clear h1 h2
 go_enter Tryz.func166,Tryz.ntmps166
 go_wp2_with fail
 go_loop [3,11] (λs i=>∃ k:Nat,k<=2/\i=.int .i64 k/\s=.int .i64 ((mJ l1 l2 k).length:Nat)) (λ_ i=>2 - (intOf i).toNat)
 case atStart=>exact ⟨0,by omega,rfl,rfl⟩
 case round=>
  obtain ⟨k,hk,rfl,rfl⟩:=hrel;have key:k=0\/k=1\/k=2:=by omega
  rcases key with rfl|rfl|rfl
  ·have e0:(mJ l1 l2 0).length=0:=rfl;rw [e0]
   go_wp2_with fail
   go_round
   case rel=>exact ⟨1,by omega,rfl,by show _=Value.int .i64 (l1.length:Nat);go_num⟩
   case measure=>simp [intOf]
  ·have e0:(mJ l1 l2 1).length=l1.length:=rfl;rw [e0]
   go_wp2_with fail
   go_round
   case rel=>exact ⟨2,by omega,rfl,by show _=Value.int .i64 ((l1++l2).length:Nat);rw [Q2];go_num⟩
   case measure=>simp [intOf]
  ·have e0:(mJ l1 l2 2).length=l1.length+l2.length:=Q2;rw [e0]
   go_wp2_with fail
   refine (IR (l1.length+l2.length) w (by omega)).mono ?_;rintro e w1 ⟨v,rfl,hr,hb⟩;have HR:=qI hr;have HB:=qI hb;clear hr hb
   go_wp2
   go_loopw [6,27] (λu i wr=>∃ k:Nat,k<=2/\i=.int .i64 k/\Row wr w.heap.size u (mJ l1 l2 k)/\Below w.heap.size w wr) (λ_ i _=>2 - (intOf i).toNat)
   case atStart=>exact ⟨0,by omega,rfl,HR.out,HB.out⟩
   case round=>
    obtain ⟨k,hk,rfl,Hc,hB⟩:=hrel;have key:k=0\/k=1\/k=2:=by omega
    rcases key with rfl|rfl|rfl
    ·have hS:=Hk.out.below hB;have hc:=(hB.cell (p:=⟨T,0,none⟩) HT.out).trans c1;have hr:World.ownsRow wr w.heap.size 3 1 u6 ([]:List Nat).length (bI ([]:List Nat)):=Hc;clear Hc
     rcases hS with ⟨hv,hl⟩|⟨g,cc,hv,Hm,He⟩
     ·simp only [Value.slice.injEq] at hv;obtain ⟨e1,e2,e3⟩:=hv;subst e1 e3;rw [e2] at hc;have Hf:=qI hl;clear hl e2
      go_wp2_with (at_builtin;refine wpList_append_own_none rfl _ _ 44 rfl w.heap.size 3 i0 1 Tryz.underlying44 hi _ _ _ rfl hr rfl ?_)
      go_roundw
      case rel=>
       refine ⟨1,by omega,rfl,?_,hB⟩
       show Row _ _ _ (l1)
       rw [Hf.out];exact hr
      case measure=>simp [intOf]
     ·simp only [Value.slice.injEq] at hv;obtain ⟨e1,_,e3⟩:=hv;subst e1 e3;have Hg:=hB.size
      go_wp2_with (at_builtin;refine wpList_append_own _ rfl _ _ 44 rfl w.heap.size 3 i0 (.int .i64 0) 1 8 Tryz.underlying44 hi Hi Hj Hh rfl (by decide) _ _ _ rfl hr ⟨g,0,none⟩ l1.length d1 (bI l1) rfl (by rw [l6,Nat.mul_one]) He (rD l1) (by unfold maxLen;simp;omega) (by simp;omega) (by omega) ?_;intro v' w2 Hb Ha _)
      go_roundw
      case rel=>
       refine ⟨1,by omega,rfl,?_,hB.grown Ha Hg (λj hj=>(hr.lt j hj).1)⟩
       show World.ownsRow _ _ _ _ _ (l1).length (bI (l1))
       simpa [bI] using Hb
      case measure=>simp [intOf]
    ·have hS:=Hn.out.below hB;have hc:=(hB.cell (p:=⟨T,1,none⟩) HT.out).trans c2;have hr:World.ownsRow wr w.heap.size 3 1 u6 (l1).length (bI (l1)):=Hc;clear Hc
     rcases hS with ⟨hv,hl⟩|⟨g,cc,hv,Hm,He⟩
     ·simp only [Value.slice.injEq] at hv;obtain ⟨e1,e2,e3⟩:=hv;subst e1 e3;rw [e2] at hc;have Hf:=qI hl;clear hl e2
      go_wp2_with (at_builtin;refine wpList_append_own_none rfl _ _ 44 rfl w.heap.size 3 i0 1 Tryz.underlying44 hi _ _ _ rfl hr rfl ?_)
      go_roundw
      case rel=>
       refine ⟨2,by omega,rfl,?_,hB⟩
       show Row _ _ _ (l1++l2)
       rw [Hf.out,List.append_nil];exact hr
      case measure=>simp [intOf]
     ·simp only [Value.slice.injEq] at hv;obtain ⟨e1,_,e3⟩:=hv;subst e1 e3;have Hg:=hB.size
      go_wp2_with (at_builtin;refine wpList_append_own _ rfl _ _ 44 rfl w.heap.size 3 i0 (.int .i64 0) 1 8 Tryz.underlying44 hi Hi Hj Hh rfl (by decide) _ _ _ rfl hr ⟨g,0,none⟩ l2.length d2 (bI l2) rfl (by rw [l6,Nat.mul_one]) He (rD l2) (by unfold maxLen;omega) (by omega) (by omega) ?_;intro v' w2 Hb Ha _)
      go_roundw
      case rel=>
       refine ⟨2,by omega,rfl,?_,hB.grown Ha Hg (λj hj=>(hr.lt j hj).1)⟩
       show World.ownsRow _ _ _ _ _ (l1++l2).length (bI (l1++l2))
       have e:bI (l1++l2)=bI l1++bI l2:=by simp [bI]
       rw [e,Q2];exact Hb
      case measure=>simp [intOf]
    ·have Hl:=qI Hc;have Ho:=qI hB;clear Hc hB
     go_wp2
     go_ret;exact ⟨_,rfl,Hl.out,Ho.out⟩
end
section
open RowKit
open Dvs (Dv dv0 dv nth first clF gvF aL uj aX)
theorem IT (v:Value) (g o:Nat) (l:List Int) (w:World) (pb db:Nat) (ao:Option Addr) (c:Nat) (ds:List Dv) (us:Nat->Bool) (h:ap w pb db ao c ds us) (hN:aX ds) (hl:fT w v g o l) (hl2:l.length<=9223372036854775807) :
  Calls Tryz.prog 158 #[.pointer (some ⟨pb,0,none⟩),v] w λe w'=>e=.returned (ar (first (clF ds.length us l) l.length:Nat))/\w.grownBy w' (some pb)/\ap w' pb db ao c ds (iN ds.length us l):=by
 have HL:=qI hl;obtain ⟨al,cl,rfl,_⟩:=hl;have HN:=qI hN;have HP:=qI h;have u0:=(h.used 0 (by decide)).1;have u1:=(h.used 1 (by decide)).1;have u2:=(h.used 2 (by decide)).1;have u3:=(h.used 3 (by decide)).1;have u4:=(h.used 4 (by decide)).1;have u5:=(h.used 5 (by decide)).1;have u6:=(h.used 6 (by decide)).1;have u7:=(h.used 7 (by decide)).1;have u8:=(h.used 8 (by decide)).1;have u9:=(h.used 9 (by decide)).1;have u10:=(h.used 10 (by decide)).1;have u11:=(h.used 11 (by decide)).1;have u12:=(h.used 12 (by decide)).1;have u13:=(h.used 13 (by decide)).1;have u14:=(h.used 14 (by decide)).1;have u15:=(h.used 15 (by decide)).1;have Hj:Hid (bU (w.alloc (.cells (l8 us) 104)) w.heap.size (aL us (l.take 0))):=by
  rw [List.take_zero,Dvs.uk];exact bU.made w _ us
 have Hk:=qI (h.alloc (.cells (l8 us) 104));have Hg:=qI ((Q0 w.heap.size w).alloc (lR) (.cells (l8 us) 104));have Hm:=qI (HL.out.below Hg.out);unfold l8 at Hj Hk Hg Hm;clear h hN
 go_enter Tryz.func158,Tryz.ntmps158
 go_wp2
 go_loopw [14] (λi wr=>∃ k:Nat,k<=l.length/\i=.int .i64 k/\Hid (first (clF ds.length us l) k=0)/\bU wr w.heap.size (aL us (l.take k))/\ap wr pb db ao c ds us/\fT wr (.slice al l.length cl) g o l/\Below w.heap.size w wr) (λi _=>l.length - (intOf i).toNat)
 case atStart=>exact ⟨0,by omega,rfl,rfl,Hj.out,Hk.out,Hm.out,Hg.out⟩
 case round=>
  obtain ⟨k,hk,rfl,HK,hT,hP,Hi,hB⟩:=hrel;have hp:=HP.out.lt
  by_cases hlt:k<l.length
  ·have Ho:=qI Hi;obtain ⟨al',cl',hv,He⟩:=Hi;obtain ⟨rfl,Hv,He⟩:=He (by omega);cases hv;have hx:=He k hlt;have HT:=qI hT;have Hh:=qI hP;have Hf:=qI hB;have HH:=qI (qe (nth l k) wr pb db ao c ds us hP);have HW:=qI (λn hn=>(Dvs.iM (f:=clF ds.length us l) (n:=l.length) HK.out (by rw [hn];simp) hlt).trans (hn:clF ds.length us l k=n+1))
   rcases two (fU (nth l k) ds.length) with hb|hb
   ·obtain ⟨m,hm,Hl⟩:=nF hb;have Hc:m<16:=by have:=HN.out.1;omega
    have Hb:=(hT m Hc);have Ha:=Hb.1;have Hn:=Hb.2;have Hw:=(hP.used m Hc).1;rw [hb] at HH;clear Hb hT hP hB He hb
    rcases two (aL us (l.take k) m) with hc|hc
    ·have HE:=qI (HW.out 4 (Du hm Hl hc));have HO:Hid (iN ds.length us l=us):=by unfold Hid iN;rw [HE.out,if_neg (by decide)]
     rw [hc] at Ha;rw [hm] at hx HH;clear hc HW
     go_wp2_with fail
     refine HH.out.mono ?_;rintro e w1 ⟨rfl,rfl⟩
     go_wp2
     go_ret;exact ⟨by rw [HE.out];rfl,dD Hf.out _,by rw [HO.out];exact Hh.out⟩
    ·have Hu:Hid (first (clF ds.length us l) (k+1)=0):=Dvs.jt HK.out (Dw hm Hl hc);have Hp:=qI (HT.out.set (g:=aL us (l.take (k+1))) Hc true (λj _=>Dx hlt hm j));have Ht:=qI (Hh.out.kept (bN wr ⟨w.heap.size,m,none⟩ (.bool true)) (by simp;omega) (λh0=>by have:=(HP.out.at0 h0).2.2;simp;omega));have Hs:=qI (Ho.out.kept (bN wr ⟨w.heap.size,m,none⟩ (.bool true)) (λh0=>by have:=HL.out;obtain ⟨a1,a2,a3,a4⟩:=this;have:=(a4 h0).2.1;simp;omega));have Hr:=qI (Hf.out.setCell (p:=⟨w.heap.size,m,none⟩) (lR) (.bool true));rw [hc] at Ha;rw [hm] at hx HH;clear hc HW
     go_wp2_with fail
     refine HH.out.mono ?_;rintro e w1 ⟨rfl,rfl⟩
     go_wp2
     go_roundw
     case rel=>exact ⟨k+1,by omega,by go_num,Hu,Hp.out,Ht.out,Hs.out,Hr.out⟩
     case measure=>simp [intOf];omega
   ·have HE:=qI (HW.out 0 (Dt hb));have HO:Hid (iN ds.length us l=us):=by unfold Hid iN;rw [HE.out,if_neg (by decide)]
    rw [hb] at HH;clear hb HW hT hP hB He
    go_wp2_with fail
    refine HH.out.mono ?_;rintro e w1 ⟨rfl,rfl⟩
    go_wp2
    go_ret;exact ⟨by rw [HE.out];rfl,dD Hf.out _,by rw [HO.out];exact Hh.out⟩
  ·have Hq:k=l.length:=by omega
   subst Hq;have HO:Hid (iN ds.length us l=aL us (l.take l.length)):=by unfold Hid iN;rw [HK.out,if_pos rfl,Qh]
   have Hf:=qI hB;have HF:=qI (Ds hP (aL us (l.take l.length)));have HG:=qI ((dD hB (some pb)).trans (Dr wr pb (aL us (l.take l.length)) 16));have t0:=(hT 0 (by decide)).1;have z0:=(hP.used 0 (by decide)).2;have s0:=(hP.used 0 (by decide)).1;have t1:=(hT 1 (by decide)).1;have z1:=(hP.used 1 (by decide)).2;have s1:=(hP.used 1 (by decide)).1;have t2:=(hT 2 (by decide)).1;have z2:=(hP.used 2 (by decide)).2;have s2:=(hP.used 2 (by decide)).1;have t3:=(hT 3 (by decide)).1;have z3:=(hP.used 3 (by decide)).2;have s3:=(hP.used 3 (by decide)).1;have t4:=(hT 4 (by decide)).1;have z4:=(hP.used 4 (by decide)).2;have s4:=(hP.used 4 (by decide)).1;have t5:=(hT 5 (by decide)).1;have z5:=(hP.used 5 (by decide)).2;have s5:=(hP.used 5 (by decide)).1;have t6:=(hT 6 (by decide)).1;have z6:=(hP.used 6 (by decide)).2;have s6:=(hP.used 6 (by decide)).1;have t7:=(hT 7 (by decide)).1;have z7:=(hP.used 7 (by decide)).2;have s7:=(hP.used 7 (by decide)).1;have t8:=(hT 8 (by decide)).1;have z8:=(hP.used 8 (by decide)).2;have s8:=(hP.used 8 (by decide)).1;have t9:=(hT 9 (by decide)).1;have z9:=(hP.used 9 (by decide)).2;have s9:=(hP.used 9 (by decide)).1;have t10:=(hT 10 (by decide)).1;have z10:=(hP.used 10 (by decide)).2;have s10:=(hP.used 10 (by decide)).1;have t11:=(hT 11 (by decide)).1;have z11:=(hP.used 11 (by decide)).2;have s11:=(hP.used 11 (by decide)).1;have t12:=(hT 12 (by decide)).1;have z12:=(hP.used 12 (by decide)).2;have s12:=(hP.used 12 (by decide)).1;have t13:=(hT 13 (by decide)).1;have z13:=(hP.used 13 (by decide)).2;have s13:=(hP.used 13 (by decide)).1;have t14:=(hT 14 (by decide)).1;have z14:=(hP.used 14 (by decide)).2;have s14:=(hP.used 14 (by decide)).1;have t15:=(hT 15 (by decide)).1;have z15:=(hP.used 15 (by decide)).2;have s15:=(hP.used 15 (by decide)).1;clear hT hP hB Hi;generalize aL us (l.take l.length)=f at *
   go_wp2
   go_ret;refine ⟨by rw [HK.out];rfl,HG.out,?_⟩;rw [HO.out];exact HF.out
end
section
open RowKit
open Dvs (Dv dv0 dv nth fits fA cD gF sel ord bC cf srt bT aX)
theorem IU (m n:Nat) (hm:m<256) (hn:n<=3):(255 - m).testBit n=!m.testBit n:=by
 have key:∀ (a:Fin 256) (b:Fin 4),(255 - a.val).testBit b.val=!a.val.testBit b.val:=by decide +kernel
 exact key ⟨m,hm⟩ ⟨n,by omega⟩
theorem IV {ds:List Dv} (hN:aX ds) (us:Nat->Bool) (kind:ByteArray) (m:Nat) (hm:m<256):sel (cD ds us kind (255 - m)) ds.length=sel (gF ds us kind m) ds.length:=by
 refine Dvs.nT λj hj=>?_
 have:=hN.2 j hj
 unfold cD gF fA;rw [IU m _ hm (by omega)]
theorem IW (m:Nat) (hm:m<256):bits BinOp.xor IntKind.u8 IntKind.u8.max (m:Int)=((255 - m:Nat):Int):=by
 have key:∀ (a:Fin 256),bits BinOp.xor IntKind.u8 IntKind.u8.max ((a.val:Nat):Int)=((255 - a.val:Nat):Int):=by decide +kernel
 exact key ⟨m,hm⟩
def ki (bad:Nat->Value) (w:World) (pb db:Nat) (ao:Option Addr) (c:Nat) (ds:List Dv) (us:Nat->Bool) (kind:ByteArray) (m:Nat) (many:Int) (e:Ending) (w':World):Prop:=
 (bT ds us kind many≠0->e=.returned (.tuple #[.slice none 0 0,bad (bT ds us kind many)])/\Below w.heap.size w w')/\
 (bT ds us kind many=0->∃ v g,e=.returned (.tuple #[v,bad 0])/\fT w' v g 0 (ints (srt (bC ds us kind m many.toNat)))/\(0<(srt (bC ds us kind m many.toNat)).length->w.heap.size<=g)/\ap w' pb db ao c ds (cf us (bC ds us kind m many.toNat)))/\
 w.grownBy w' (some pb)
theorem ki.wrong {bad:Nat->Value} {w:World} {pb db:Nat} {ao:Option Addr} {c:Nat} {ds:List Dv} {us:Nat->Bool} {kind:ByteArray} {m:Nat} {many:Int} {e:Ending} {w':World} {n:Nat} (hf:bT ds us kind many=n) (hn:n≠0) (he:e=.returned (.tuple #[.slice none 0 0,bad n])) (hb:Below w.heap.size w w'):ki bad w pb db ao c ds us kind m many e w':=
 ⟨λ_=>⟨by rw [hf];exact he,hb⟩,λh=>by omega,dD hb _⟩
theorem Row.nums {w:World} {B:Nat} {v:Value} {l:List Nat} (h:Row w B v l):∃ g,fT w v g 0 (ints l)/\(0<l.length->B<=g):=by
 unfold Row at h
 rcases h.2 with ⟨rfl,h0⟩|⟨g,cap,cur,rfl,hg,Ha,_⟩
 ·have:=Qe h0
  subst this;exact ⟨0,⟨none,0,rfl,λh=>by simp [ints] at h⟩,λh=>by simp at h⟩
 ·refine ⟨g,⟨_,cap,by rw [l7],λ_=>⟨rfl,(gS Ha).1,λk hk=>?_⟩⟩,λ_=>hg⟩;rw [l7] at hk;rw [Qd,h.cellAt k (by omega)]
  simp [bI,nth,ints,hk]
theorem xN {a b c:World} {r r':Option Nat} (h:a.grownBy b r) (k:b.grownBy c r') (hr:∀ j,r'=some j->a.heap.size<=j\/r=some j):a.grownBy c r:=
 ⟨k.os.trans h.os,k.tape.trans h.tape,k.output.trans h.output,Q5 h.size k.size,λi hi hne=>(k.block i (Q1 hi h.size) (λe=>by rcases hr i e.symm with h1|h1;omega;exact hne h1.symm)).trans (h.block i hi hne)⟩
theorem IX {us:Nat->Bool} {l:List Nat} {k q:Nat} (hq:l[k]?=some q) (j:Nat):cf us (l.take (k+1)) j=if j=q then true else cf us (l.take k) j:=by
 rw [List.take_add_one,hq]
 show cf us (l.take k++[q]) j=_
 rw [Dvs.Cw]
 by_cases e:j=q
 ·rw [if_pos e,Qc e,Bool.or_true]
 ·rw [if_neg e,Q7 e,Bool.or_false]
theorem xO {L:List Nat} (h16:∀ j∈L,j<16) (hn:L.Nodup) {wr:World} {B g cap:Nat} {cur:Array Value} (hB:B<=g) (hgc:wr.heap[g]?=some (.cells cur 3 (0,0))) (hlc:L.length<=cap) (hcm:cap<=maxLen) (hcs:cur.size=cap*1) (hct:cur.toList.take L.length=bI L) (hsl:L.length<4611686018427387904) :
  Calls Tryz.prog 130 #[.slice (some ⟨g,0,none⟩) L.length cap] wr λe w'=>e=.returned (.tuple #[])/\Row w' B (.slice (some ⟨g,0,none⟩) (srt L).length cap) (srt L)/\wr.grownBy w' (some g):=by
 have He:g<wr.heap.size:=(gS hgc).1;have Ha:(ints L).length=L.length:=l7 L;have Hc:(ints L).map (Value.int .i64)=bI L:=by simp [ints,bI]
 have hH:=holds_of_blockI (ss:=ints L) hgc (by rw [Ha,hct,Hc]);have hS:=Any.slices_Sort_int Tryz.sortL9 g 0 cap (ints L) wr hH He (by rw [Ha];exact hsl);rw [Ha] at hS;refine hS.mono ?_;rintro e w' ⟨rfl,n,os,rfl⟩;have Hf:(ints L).mergeSort (λx y=>decide (x<=y))=ints (srt L):=Dvs.CA h16 hn;have Hb:(srt L).length=L.length:=Dvs.nU h16 hn;rw [Hf];refine ⟨rfl,?_,grownBy_sortedI _⟩
 have:=ownsRow_sortedI (ss:=ints L) (ts:=ints (srt L)) (base:=B) (n:=n) (os:=os) (by rw [l7,Ha,Hb]) hB hgc (by rw [Ha];exact hlc) hcm hcs
 rw [Ha] at this;unfold Row;rw [Hb];have e2:(ints (srt L)).map (Value.int .i64)=bI (srt L):=by simp [ints,bI]
 rw [e2] at this;exact this
theorem IY (kind:ByteArray) (many:Int) (m:Nat) (w:World) (pb:Nat) (h:many<0) :
  Calls Tryz.prog 129 #[.pointer (some ⟨pb,0,none⟩),.string kind,.int .i64 many,.int .u8 m] w λe w'=>e=.returned (.tuple #[.slice none 0 0,.iface 121 (.int .i64 1)])/\w'=w:=by
 go_enter Tryz.func129,Tryz.ntmps129
 go_wp2
 go_ret2;exact ⟨rfl,rfl⟩
theorem IZ (kind:ByteArray) (many m:Nat) (w:World) (pb db:Nat) (ao:Option Addr) (c:Nat) (ds:List Dv) (us:Nat->Bool) (h:ap w pb db ao c ds us) (hN:aX ds) (hm:m<256) :
  Calls Tryz.prog 129 #[.pointer (some ⟨pb,0,none⟩),.string kind,.int .i64 many,.int .u8 m] w λe w'=>ki (λn=>ar n) w pb db ao c ds us kind m many e w':=by
 have HU:=qI (uM kind m w pb db ao c ds us h hN hm);have HR:Hid (∀ W,ap W pb db ao c ds us->Calls Tryz.prog 167 #[.pointer (some ⟨pb,0,none⟩),.string kind,.int .u8 (bits BinOp.xor IntKind.u8 IntKind.u8.max m)] W λe w'=>∃ v,e=.returned v/\Row w' W.heap.size v (sel (gF ds us kind m) ds.length)/\Below W.heap.size W w'):=by
  intro W hW;rw [IW m hm,<- IV hN us kind m hm];exact uM kind (255 - m) W pb db ao c ds us hW hN (by omega)
 have HP:=qI h;have HN:=qI hN;have HO:Hid (ord ds us kind m=sel (cD ds us kind m) ds.length++sel (gF ds us kind m) ds.length):=rfl;have H3:=qI (Dvs.pZ ds us kind m);have hb:=Dvs.kQ (cD ds us kind m) ds.length;have H9:=Dvs.kQ (gF ds us kind m) ds.length;have hc:=hN.1;clear h hN;generalize sel (cD ds us kind m) ds.length=l1 at *;generalize sel (gF ds us kind m) ds.length=l2 at *
 go_enter Tryz.func129,Tryz.ntmps129
 go_wp2_with fail
 refine HU.out.mono ?_;rintro e w1 ⟨v1,rfl,HI,Hv⟩;have Ht:=qI HI.src;have HB:=qI (HP.out.below Hv);have Hz:=qI Hv;clear HI Hv HU
 go_wp2_with fail
 refine (HR.out w1 HB.out).mono ?_;rintro e w2 ⟨v2,rfl,Hu,Hl⟩;have Hw:=qI (Hz.out.trans (Hl.mono Hz.out.size));have Hc:=(Q0 w2.heap.size w2).alloc (lR) (.cells #[v1,v2] 44);have HE:=qI ((HB.out.below Hl).below Hc);have Hh:=qI ((Ht.out.below Hl).below Hc);have Hf:=qI (Hu.src.below Hc);have Hn:=qI (Hw.out.trans (Hc.mono Hw.out.size));obtain ⟨a1,d1,rfl⟩:=Ht.out.form;obtain ⟨a2,d2,rfl⟩:=Hu.src.form;clear Hu Hl Hc HR Ht Hz HB
 go_wp2_with fail
 refine (IS _ _ l1 l2 w2.heap.size _ Hh.out Hf.out (by simp) (by simp) (by omega) (by omega)).mono ?_;rintro e w3 ⟨v3,rfl,Hb,Hs⟩;have HL:=qI (HE.out.below Hs);have Hp:=qI (Hn.out.trans (Hs.mono Hn.out.size));have Hx:w.heap.size<=(w2.alloc (.cells #[.slice a1 l1.length d1,.slice a2 l2.length d2] 44)).heap.size:=Hn.out.size;rw [<- HO.out] at Hb;clear Hs HE Hn Hw Hh Hf;generalize (w2.alloc (.cells #[.slice a1 l1.length d1,.slice a2 l2.length d2] 44)).heap.size=B3 at *;have HY:=qI Hb;unfold Row at Hb;have he:(ord ds us kind m).length<=32:=by rw [HO.out,Q2];omega
 have Hr:Hid (bT ds us kind many=if ((ord ds us kind m).length:Int)<many then 9 else 0):=by unfold Hid bT;rw [if_neg (by omega),H3.out]
 by_cases hf:(ord ds us kind m).length<many
 ·have Ha:Hid (bT ds us kind many=9):=Hr.out.trans (if_pos (by omega));clear Hr
  rcases Hb.2 with ⟨rfl,h0⟩|⟨g,cap,cur,rfl,hg,He,H7,HC,Hq,Ho⟩
  ·rw [h0] at hf;clear Hb
   go_wp2
   go_ret2;exact ki.wrong Ha.out (by decide) rfl Hp.out
  ·clear Hb He Hq Ho
   go_wp2
   go_ret2;exact ki.wrong Ha.out (by decide) rfl Hp.out
 ·have Ha:Hid (bT ds us kind many=0):=Hr.out.trans (if_neg (by omega));clear Hr
  rcases Hb.2 with ⟨rfl,h0⟩|⟨g,cap,cur,rfl,hg,He,H7,HC,Hq,Ho⟩
  ·have H5:many=0:=by omega
   subst H5;have hi:=Qe h0;have Hy:Hid (bC ds us kind m 0=[]):=by unfold Hid bC;simp
   clear Hb
   go_wp2_with fail
   go_loop [37] (λi=>i=.int .i64 0) (λ_=>0)
   case atStart=>rfl
   case round=>
    subst hrel
    go_wp2_with fail
    refine (Any.slices_Sort_int_none Tryz.sortL9 _ _ _).mono ?_;rintro e w5 ⟨rfl,rfl⟩
    go_wp2
    go_ret2;refine ⟨λhh=>absurd Ha.out hh,λ_=>⟨_,0,rfl,?_,?_,?_⟩,dD Hp.out _⟩
    ·show fT _ _ _ _ (ints (srt (bC ds us kind m 0)))
     rw [Hy.out];exact ⟨none,0,rfl,λh=>by simp [ints,srt,sel] at h⟩
    ·show 0<(srt (bC ds us kind m 0)).length->_
     rw [Hy.out];exact λh=>by simp [srt,sel] at h
    ·show ap _ _ _ _ _ _ (cf us (bC ds us kind m 0))
     rw [Hy.out,Dvs.ug];exact HL.out
  ·have H8:many<=(ord ds us kind m).length:=by omega
   clear Hb;have HD:g≠pb:=by have:=HP.out.lt;omega
   have Hm:Hid ((bC ds us kind m many).length=many):=by unfold Hid bC;rw [Qu];omega
   have HZ:Hid (bC ds us kind m many=(ord ds us kind m).take many):=rfl;have Hk:Hid (∀ j∈bC ds us kind m many,j<16):=λj hj=>by have:=(Dvs.g9 hj).1;omega
   have HG:=qI (Dvs.lX ds us kind m many);have HM:Hid (∀ k q:Nat,(ord ds us kind m)[k]?=some q->q<16):=λk q hq=>by
    have:=(Dvs.uh.1 (List.mem_of_getElem? hq)).1
    omega
   have HX:Hid (∀ k,k<(ord ds us kind m).length->∃ q:Nat,(ord ds us kind m)[k]?=some q/\w3.cell? ⟨g,k,none⟩=some (.int .i64 q)):=λk hk=>by
    refine ⟨(ord ds us kind m)[k],Qf hk,?_⟩
    have:=HY.out
    unfold Row at this;rw [this.cellAt k (by omega)]
    simp [bI,hk]
   have Hi:g<w3.heap.size:=(gS He).1;have HQ:=qI (And.intro He (And.intro HC (And.intro Hq Ho)));clear He Hq Ho HC;have ha:decide ((many:Int)<0)=false:=by simp
   go_wp2
   go_loopw [37] (λi wr=>∃ k:Nat,k<=many/\i=.int .i64 k/\ap wr pb db ao c ds (cf us ((ord ds us kind m).take k))/\w3.grownBy wr (some pb)) (λi _=>many - (intOf i).toNat)
   case atStart=>exact ⟨0,by omega,rfl,by rw [List.take_zero,Dvs.ug];exact HL.out,qd _ _⟩
   case round=>
    obtain ⟨k,hk,rfl,hP,hG⟩:=hrel
    by_cases hlt:k<many
    ·obtain ⟨q,hq,HT⟩:=HX.out k (by omega);have Hj:=HM.out k q hq;have hx:=(hG.cell_far ⟨g,k,none⟩ Hi (by simpa using HD)).trans HT;obtain ⟨hu,hz⟩:=hP.used q Hj;have H0:=qI (hP.set (vs:=cf us ((ord ds us kind m).take (k+1))) Hj true (λj _=>IX hq j));have HW:=qI (hG.trans (bN wr ⟨pb,1+q,none⟩ (.bool true)));clear hP hG HT hq
     go_wp2
     go_roundw
     case rel=>exact ⟨k+1,by omega,by go_num,H0.out,HW.out⟩
     case measure=>simp [intOf];omega
    ·have H6:k=many:=by omega
     subst H6;have H4:=qI hP;have HH:=qI hG;clear hP hG;have HS:Hid (Calls Tryz.prog 130 #[.slice (some ⟨g,0,none⟩) k cap] wr λe w'=>e=.returned (.tuple #[])/\Row w' B3 (.slice (some ⟨g,0,none⟩) k cap) (srt (bC ds us kind m k))/\wr.grownBy w' (some g)):=by
      obtain ⟨q1,q2,q3,q4⟩:=HQ.out
      have:=xO Hk.out HG.out hg (wr:=wr) ((HH.out.block g Hi (by simpa using HD)).trans q1) (by rw [Hm.out];omega) q2 q3 (by
       rw [Hm.out,HZ.out];rw [Nat.mul_one] at q4;have e:(cur.toList.take (ord ds us kind m).length).take k=cur.toList.take k:=by rw [List.take_take,Nat.min_eq_left H8]
       rw [<- e,q4]
       simp [bI,List.map_take]) (by rw [Hm.out];omega)
      rw [Dvs.nU Hk.out HG.out,Hm.out] at this;exact this
     go_wp2_with fail
     refine HS.out.mono ?_;rintro e w5 ⟨rfl,HK,HA⟩;obtain ⟨g5,HJ,Hg⟩:=HK.nums;have H2:=qI (H4.out.kept HA (by simpa using λe=>HD e.symm) (λh0=>by have:=(HP.out.at0 h0).2.2;simp;omega));have HV:=qI (xN (dD Hp.out (some pb)) HH.out (λj hj=>by right;exact hj));have H1:=qI (xN HV.out HA (λj hj=>by left;cases hj;omega));have HF:=qI (And.intro HJ Hg);clear HK HA HJ Hg
     go_wp2
     go_ret2;refine ⟨λhh=>absurd Ha.out hh,λ_=>⟨_,g5,rfl,HF.out.1,λh0=>Q5 Hx (HF.out.2 h0),?_⟩,H1.out⟩;exact H2.out
end
section
open RowKit
open Dvs (Dv dv0 dv nth aX fault)
theorem ap.devsAt {w:World} {pb db:Nat} {ao:Option Addr} {c:Nat} {ds:List Dv} {us:Nat->Bool} (h:ap w pb db ao c ds us):cO w (.slice ao ds.length c) db 0 ds:=
 ⟨ao,c,rfl,λh0=>⟨(h.at0 h0).1,(h.at0 h0).2.2,λk hk=>by obtain ⟨c0,c1,c2,_⟩:=h.cells k hk;rw [Qd];exact ⟨c0,c1,c2⟩⟩⟩
theorem xP (w:World) (pb db:Nat) (ao:Option Addr) (c:Nat) (ds:List Dv) (us:Nat->Bool) (h:ap w pb db ao c ds us) (hN:aX ds) :
  Calls Tryz.prog 45 #[.pointer (some ⟨pb,0,none⟩)] w λe w'=>∃ v,e=.returned v/\gH w.heap.size w' v ds/\Below w.heap.size w w':=by
 have HC:=qI (uF _ db 0 ds w h.devsAt hN.1);have Ha:=h.row;clear h hN
 go_enter Tryz.func45,Tryz.ntmps45
 go_wp2_with fail
 refine HC.out.mono ?_;rintro e w1 ⟨v,rfl,hv,hb⟩;have HV:=qI hv;have HB:=qI hb;clear hv hb
 go_wp2
 go_ret;exact ⟨_,rfl,HV.out,HB.out⟩
theorem I0 (kind:ByteArray) (many:Int) (m:Nat) (w:World) (pb db:Nat) (ao:Option Addr) (c:Nat) (ds:List Dv) (us:Nat->Bool) (h:ap w pb db ao c ds us) (hN:aX ds) (hm:m<256) :
  Calls Tryz.prog 129 #[.pointer (some ⟨pb,0,none⟩),.string kind,.int .i64 many,.int .u8 m] w λe w'=>ki (λn=>ar n) w pb db ao c ds us kind m many e w':=by
 by_cases h0:many<0
 ·refine (IY kind many m w pb h0).mono ?_;rintro e w' ⟨rfl,rfl⟩;exact ki.wrong (n:=1) (by rw [Dvs.bT,if_pos h0]) (by decide) rfl (Q0 _ _)
 ·obtain ⟨n,rfl⟩:=Int.eq_ofNat_of_zero_le (show 0<=many by omega);exact IZ kind n m w pb db ao c ds us h hN hm
end
