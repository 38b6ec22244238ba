import Derived.Test.YtbmmnflgnmjboaaGreatDoorR2
import Derived.Maps.OwnSet
import Derived.Maps.Range
import Derived.Maps.Views
import Derived.DeepKeys4
import Derived.RangeFuncMany
import Derived.Sort.MapsRangeIn
import Derived.Maps.AppendAt
import Derived.Test.YtbmmnflgnmjboaaGreatDoorR7
import Derived.Laws.AppendOwnNone
set_option maxRecDepth 100000
set_option maxHeartbeats 16000000
open Go.Proofs.Tryz
namespace Go.Proofs.YtbmmnflgnmjboaaGreatDoor
section
open RowKit
open Dvs (Dv dv0 dv nth)
def Src (w:World) (v:Value) (l:List Nat):Prop:=
 (v=.slice none 0 0/\l=[])\/∃ g c,v=.slice (some ⟨g,0,none⟩) l.length c/\g<w.heap.size/\∀ j u,(bF l)[j]?=some u->w.cell? ((⟨g,0,none⟩:Addr).add j)=some u
theorem Row.src {w:World} {B:Nat} {v:Value} {l:List Nat} (h:Row w B v l):Src w v l:=by
 unfold Row at h
 rcases h.2 with ⟨rfl,h0⟩|⟨g,cap,cur,rfl,hg,Ha,_⟩
 ·exact .inl ⟨rfl,Qe h0⟩
 ·refine .inr ⟨g,cap,rfl,(gS Ha).1,λj u hj=>?_⟩;have Hb:j<l.length:=by rw [<- l9];exact (List.getElem?_eq_some_iff.1 hj).1
  rw [Addr.add_lit,Qd,h.cellAt j (by omega)];exact hj
theorem Src.below {w w':World} {v:Value} {l:List Nat} (h:Src w v l) (hb:Below w.heap.size w w'):Src w' v l:=by
 rcases h with h|⟨g,c,hv,hlt,hc⟩
 ·exact .inl h
 ·exact .inr ⟨g,c,hv,Q1 hlt hb.size,λj u hj=>(hb.cell (p:=(⟨g,0,none⟩:Addr).add j) (by rw [Addr.add_lit];exact hlt)).trans (hc j u hj)⟩
theorem Src.form {w:World} {v:Value} {l:List Nat} (h:Src w v l):∃ ao c,v=.slice ao l.length c:=by
 rcases h with ⟨rfl,rfl⟩|⟨g,c,rfl,_⟩
 ·exact ⟨none,0,rfl⟩
 ·exact ⟨_,c,rfl⟩
theorem rI (l:List Nat):∀ u∈bF l,u.oneCell'=true:=by
 intro u hu;simp only [bF,Qk] at hu;obtain ⟨x,_,rfl⟩:=hu;rfl
theorem IQ (n:Nat) (w:World) (hn:n<=1000):Calls prog 208 #[.slice none 0 0,.int .i64 n] w λe w'=>∃ v,e=.returned v/\Row w' w.heap.size v []/\Below w.heap.size w w':=by
 by_cases h0:n=0
 ·subst h0;refine (Any8.slices_Grow_room Tryz.growL none 0 0 0 w (by omega) (by omega) (by omega) (by omega)).mono ?_;rintro e w' ⟨rfl,rfl⟩;exact ⟨_,rfl,Qw _ _ _ _,Q0 _ _⟩
 ·obtain ⟨i0,hi,Hc,He,Hf⟩:=info_parts ql;have Hb:prog.info? (Tryz.growL_ren.t 25)=some i0:=hi;refine (Any8.slices_Grow_grow Tryz.growL i0 (.int .i64 0) Hb Hc (by omega) none 0 0 n [] w (by omega) (by omega) (by rw [Hf];omega) (by omega) (by rw [He];rfl) (λ_=>rfl) (λa ha=>by cases ha)).mono ?_;have ht:Tryz.growL_ren.t 25=3:=by kernel_rfl
  rw [ht];have Hg:=grownCap_ge w (0+n) 0 3;have hle:=grownCap_le_maxLen w (0+n) 0 3 (by unfold maxLen;omega);generalize grownCap w (0+n) 0 3=G at *;rintro e w' ⟨rfl,rfl⟩;have hz:(([]:List Value).toArray++Builtin.zeroCells (Value.int .i64 0).cells (0+n - 0)++Builtin.zeroCells (Value.int .i64 0).cells (G - (0+n))).size=G*1:=by
   simp [Builtin.zeroCells,Value.cells]
   omega
  generalize (([]:List Value).toArray++Builtin.zeroCells (Value.int .i64 0).cells (0+n - 0)++Builtin.zeroCells (Value.int .i64 0).cells (G - (0+n)))=cur at *;have Ha:World.ownsRow (w.drew.alloc (.cells cur 3)) w.heap.size 3 1 (.slice (some ⟨w.heap.size,0,none⟩) 0 G) 0 []:=by
   unfold World.ownsRow;refine ⟨rfl,.inr ⟨w.heap.size,G,cur,rfl,lR,?_,Nat.zero_le _,hle,hz,by simp⟩⟩
   show (w.heap.push (.cells cur 3))[w.heap.size]?=_
   simp
  refine ⟨_,rfl,Ha,?_⟩
  ·exact (uL (Q0 w.heap.size w)).alloc (lR) _
def mN (l1 l2:List Nat):Nat->List Nat
 | 0=>[]
 | 1=>l1
 | _=>l1++l2
theorem IR (v1 v2:Value) (l1 l2:List Nat) (T:Nat) (w:World) (h1:Src w v1 l1) (h2:Src w v2 l2) (c1:w.cell? ⟨T,0,none⟩=some v1) (c2:w.cell? ⟨T,1,none⟩=some v2) (hl1:l1.length<=16) (hl2:l2.length<=16) :
  Calls prog 166 #[.slice (some ⟨T,0,none⟩) 2 2] w λe w'=>∃ v,e=.returned v/\Row w' w.heap.size v (l1++l2)/\Below w.heap.size w w':=by
 obtain ⟨i0,hi,Hj,Hh,Hi⟩:=info_parts ql;have Hl:=qI h1;have Hm:=qI h2;have HT:=qI (Q3 w _ c1);obtain ⟨a1,d1,rfl⟩:=h1.form;obtain ⟨a2,d2,rfl⟩:=h2.form;clear h1 h2
 go_enter func166,ntmps166
 go_wp2_with fail
 go_loop [3,11] (λs i=>∃ k:Nat,k<=2/\i=.int .i64 k/\s=.int .i64 ((mN l1 l2 k).length:Nat)) (λ_ i=>2 - (intOf i).toNat)
 case atStart=>exact ⟨0,by omega,rfl,rfl⟩
 case round=>
  obtain ⟨k,hk,rfl,rfl⟩:=hrel;have key:k=0\/k=1\/k=2:=by omega
  rcases key with rfl|rfl|rfl
  ·have e0:(mN l1 l2 0).length=0:=rfl;rw [e0]
   go_wp2_with fail
   go_round
   case rel=>exact ⟨1,by omega,rfl,by show _=Value.int .i64 (l1.length:Nat);go_num⟩
   case measure=>simp [intOf]
  ·have e0:(mN l1 l2 1).length=l1.length:=rfl;rw [e0]
   go_wp2_with fail
   go_round
   case rel=>exact ⟨2,by omega,rfl,by show _=Value.int .i64 ((l1++l2).length:Nat);rw [Q2];go_num⟩
   case measure=>simp [intOf]
  ·have e0:(mN l1 l2 2).length=l1.length+l2.length:=Q2;rw [e0]
   go_wp2_with fail
   refine (IQ (l1.length+l2.length) w (by omega)).mono ?_;rintro e w1 ⟨v,rfl,hr,hb⟩;have HR:=qI hr;have HB:=qI hb;clear hr hb
   go_wp2
   go_loopw [6,27] (λu i wr=>∃ k:Nat,k<=2/\i=.int .i64 k/\Row wr w.heap.size u (mN l1 l2 k)/\Below w.heap.size w wr) (λ_ i _=>2 - (intOf i).toNat)
   case atStart=>exact ⟨0,by omega,rfl,HR.out,HB.out⟩
   case round=>
    obtain ⟨k,hk,rfl,Hc,hB⟩:=hrel;have key:k=0\/k=1\/k=2:=by omega
    rcases key with rfl|rfl|rfl
    ·have hS:=Hl.out.below hB;have hc:=(hB.cell (p:=⟨T,0,none⟩) HT.out).trans c1;have hr:World.ownsRow wr w.heap.size 3 1 u6 ([]:List Nat).length (bF ([]:List Nat)):=Hc;clear Hc
     rcases hS with ⟨hv,hl⟩|⟨g,cc,hv,Hn,Hf⟩
     ·simp only [Value.slice.injEq] at hv;obtain ⟨e1,e2,e3⟩:=hv;subst e1 e3;rw [e2] at hc;have Hg:=qI hl;clear hl e2
      go_wp2_with (at_builtin;refine wpList_append_own_none rfl _ _ 44 rfl w.heap.size 3 i0 1 underlying44 hi _ _ _ rfl hr rfl ?_)
      go_roundw
      case rel=>
       refine ⟨1,by omega,rfl,?_,hB⟩
       show Row _ _ _ (l1)
       rw [Hg.out];exact hr
      case measure=>simp [intOf]
     ·simp only [Value.slice.injEq] at hv;obtain ⟨e1,_,e3⟩:=hv;subst e1 e3;have He:=hB.size
      go_wp2_with (at_builtin;refine wpList_append_own _ rfl _ _ 44 rfl w.heap.size 3 i0 (.int .i64 0) 1 8 underlying44 hi Hj Hh Hi rfl (by decide) _ _ _ rfl hr ⟨g,0,none⟩ l1.length d1 (bF l1) rfl (by rw [l9,Nat.mul_one]) Hf (rI l1) (by unfold maxLen;simp;omega) (by simp;omega) (by omega) ?_;intro v' w2 Hb Ha _)
      go_roundw
      case rel=>
       refine ⟨1,by omega,rfl,?_,hB.grown Ha He λj hj=>(hr.lt j hj).1⟩
       show World.ownsRow _ _ _ _ _ (l1).length (bF (l1))
       simpa [bF] using Hb
      case measure=>simp [intOf]
    ·have hS:=Hm.out.below hB;have hc:=(hB.cell (p:=⟨T,1,none⟩) HT.out).trans c2;have hr:World.ownsRow wr w.heap.size 3 1 u6 (l1).length (bF (l1)):=Hc;clear Hc
     rcases hS with ⟨hv,hl⟩|⟨g,cc,hv,Hn,Hf⟩
     ·simp only [Value.slice.injEq] at hv;obtain ⟨e1,e2,e3⟩:=hv;subst e1 e3;rw [e2] at hc;have Hg:=qI hl;clear hl e2
      go_wp2_with (at_builtin;refine wpList_append_own_none rfl _ _ 44 rfl w.heap.size 3 i0 1 underlying44 hi _ _ _ rfl hr rfl ?_)
      go_roundw
      case rel=>
       refine ⟨2,by omega,rfl,?_,hB⟩
       show Row _ _ _ (l1++l2)
       rw [Hg.out,List.append_nil];exact hr
      case measure=>simp [intOf]
     ·simp only [Value.slice.injEq] at hv;obtain ⟨e1,_,e3⟩:=hv;subst e1 e3;have He:=hB.size
      go_wp2_with (at_builtin;refine wpList_append_own _ rfl _ _ 44 rfl w.heap.size 3 i0 (.int .i64 0) 1 8 underlying44 hi Hj Hh Hi rfl (by decide) _ _ _ rfl hr ⟨g,0,none⟩ l2.length d2 (bF l2) rfl (by rw [l9,Nat.mul_one]) Hf (rI l2) (by unfold maxLen;omega) (by omega) (by omega) ?_;intro v' w2 Hb Ha _)
      go_roundw
      case rel=>
       refine ⟨2,by omega,rfl,?_,hB.grown Ha He λj hj=>(hr.lt j hj).1⟩
       show World.ownsRow _ _ _ _ _ (l1++l2).length (bF (l1++l2))
       have e:bF (l1++l2)=bF l1++bF l2:=by simp [bF]
       rw [e,Q2];exact Hb
      case measure=>simp [intOf]
    ·have Hk:=qI Hc;have Ho:=qI hB;clear Hc hB
     go_wp2
     go_ret;exact ⟨_,rfl,Hk.out,Ho.out⟩
end
section
open RowKit
open Dvs (Dv dv0 dv nth first clF gvF aL ur aW)
theorem IS (v:Value) (g o:Nat) (l:List Int) (w:World) (pb db:Nat) (ao:Option Addr) (c:Nat) (ds:List Dv) (us:Nat->Bool) (h:ak w pb db ao c ds us) (hN:aW ds) (hl:fR w v g o l) (hl2:l.length<=9223372036854775807) :
  Calls prog 158 #[.pointer (some ⟨pb,0,none⟩),v] w λe w'=>e=.returned (au (first (clF ds.length us l) l.length:Nat))/\w.grownBy w' (some pb)/\ak w' pb db ao c ds (iH ds.length us l):=by
 have HL:=qI hl;obtain ⟨al,cl,rfl,_⟩:=hl;have HN:=qI hN;have HP:=qI h;have u0:=(h.used 0 (by decide)).1;have u1:=(h.used 1 (by decide)).1;have u2:=(h.used 2 (by decide)).1;have u3:=(h.used 3 (by decide)).1;have u4:=(h.used 4 (by decide)).1;have u5:=(h.used 5 (by decide)).1;have u6:=(h.used 6 (by decide)).1;have u7:=(h.used 7 (by decide)).1;have u8:=(h.used 8 (by decide)).1;have u9:=(h.used 9 (by decide)).1;have u10:=(h.used 10 (by decide)).1;have u11:=(h.used 11 (by decide)).1;have u12:=(h.used 12 (by decide)).1;have u13:=(h.used 13 (by decide)).1;have u14:=(h.used 14 (by decide)).1;have u15:=(h.used 15 (by decide)).1;have Hl:Hid (bR (w.alloc (.cells (me us) 104)) w.heap.size (aL us (l.take 0))):=by
  rw [List.take_zero,Dvs.ut];exact bR.made w _ us
 have Hk:=qI (h.alloc (.cells (me us) 104));have Hg:=qI ((Q0 w.heap.size w).alloc (lR) (.cells (me us) 104));have Hj:=qI (HL.out.below Hg.out);unfold me at Hl Hk Hg Hj;clear h hN
 go_enter func158,ntmps158
 go_wp2
 go_loopw [14] (λi wr=>∃ k:Nat,k<=l.length/\i=.int .i64 k/\Hid (first (clF ds.length us l) k=0)/\bR wr w.heap.size (aL us (l.take k))/\ak wr pb db ao c ds us/\fR wr (.slice al l.length cl) g o l/\Below w.heap.size w wr) (λi _=>l.length - (intOf i).toNat)
 case atStart=>exact ⟨0,by omega,rfl,rfl,Hl.out,Hk.out,Hj.out,Hg.out⟩
 case round=>
  obtain ⟨k,hk,rfl,HK,hT,hP,Hi,hB⟩:=hrel;have hp:=HP.out.lt
  by_cases hlt:k<l.length
  ·have Ht:=qI Hi;obtain ⟨al',cl',hv,He⟩:=Hi;obtain ⟨rfl,Hv,He⟩:=He (by omega);cases hv;have hx:=He k hlt;have HT:=qI hT;have Hh:=qI hP;have Hf:=qI hB;have HH:=qI (CX (nth l k) wr pb db ao c ds us hP);have HW:=qI λn hn=>(Dvs.iF (f:=clF ds.length us l) (n:=l.length) HK.out (by rw [hn];simp) hlt).trans (hn:clF ds.length us l k=n+1)
   rcases two (jZ (nth l k) ds.length) with hb|hb
   ·obtain ⟨m,hm,Hm⟩:=nF hb;have Hb:m<16:=by have:=HN.out.1;omega
    have Hc:=(hT m Hb);have Ha:=Hc.1;have Hn:=Hc.2;have Hw:=(hP.used m Hb).1;rw [hb] at HH;clear Hc hT hP hB He hb
    rcases two (aL us (l.take k) m) with hc|hc
    ·have HE:=qI (HW.out 4 (Dq hm Hm hc));have HO:Hid (iH ds.length us l=us):=by unfold Hid iH;rw [HE.out,if_neg (by decide)]
     rw [hc] at Ha;rw [hm] at hx HH;clear hc HW
     go_wp2_with fail
     refine HH.out.mono ?_;rintro e w1 ⟨rfl,rfl⟩
     go_wp2
     go_ret;exact ⟨by rw [HE.out];rfl,dD Hf.out _,by rw [HO.out];exact Hh.out⟩
    ·have Hq:Hid (first (clF ds.length us l) (k+1)=0):=Dvs.jo HK.out (Dr hm Hm hc);have Hp:=qI (HT.out.set (g:=aL us (l.take (k+1))) Hb true λj _=>Ds hlt hm j);have Hr:=qI (Hh.out.kept (bL wr ⟨w.heap.size,m,none⟩ (.bool true)) (by simp;omega) (λh0=>by have:=(HP.out.at0 h0).2.2;simp;omega));have Hu:=qI (Ht.out.kept (bL wr ⟨w.heap.size,m,none⟩ (.bool true)) (λh0=>by have:=HL.out;obtain ⟨a1,a2,a3,a4⟩:=this;have:=(a4 h0).2.1;simp;omega));have Ho:=qI (Hf.out.setCell (p:=⟨w.heap.size,m,none⟩) (lR) (.bool true));rw [hc] at Ha;rw [hm] at hx HH;clear hc HW
     go_wp2_with fail
     refine HH.out.mono ?_;rintro e w1 ⟨rfl,rfl⟩
     go_wp2
     go_roundw
     case rel=>exact ⟨k+1,by omega,by go_num,Hq,Hp.out,Hr.out,Hu.out,Ho.out⟩
     case measure=>simp [intOf];omega
   ·have HE:=qI (HW.out 0 (Dp hb));have HO:Hid (iH ds.length us l=us):=by unfold Hid iH;rw [HE.out,if_neg (by decide)]
    rw [hb] at HH;clear hb HW hT hP hB He
    go_wp2_with fail
    refine HH.out.mono ?_;rintro e w1 ⟨rfl,rfl⟩
    go_wp2
    go_ret;exact ⟨by rw [HE.out];rfl,dD Hf.out _,by rw [HO.out];exact Hh.out⟩
  ·have Hs:k=l.length:=by omega
   subst Hs;have HO:Hid (iH ds.length us l=aL us (l.take l.length)):=by unfold Hid iH;rw [HK.out,if_pos rfl,Qh]
   have Hf:=qI hB;have HF:=qI (Do hP (aL us (l.take l.length)));have HG:=qI ((dD hB (some pb)).trans (Dn wr pb (aL us (l.take l.length)) 16));have t0:=(hT 0 (by decide)).1;have z0:=(hP.used 0 (by decide)).2;have s0:=(hP.used 0 (by decide)).1;have t1:=(hT 1 (by decide)).1;have z1:=(hP.used 1 (by decide)).2;have s1:=(hP.used 1 (by decide)).1;have t2:=(hT 2 (by decide)).1;have z2:=(hP.used 2 (by decide)).2;have s2:=(hP.used 2 (by decide)).1;have t3:=(hT 3 (by decide)).1;have z3:=(hP.used 3 (by decide)).2;have s3:=(hP.used 3 (by decide)).1;have t4:=(hT 4 (by decide)).1;have z4:=(hP.used 4 (by decide)).2;have s4:=(hP.used 4 (by decide)).1;have t5:=(hT 5 (by decide)).1;have z5:=(hP.used 5 (by decide)).2;have s5:=(hP.used 5 (by decide)).1;have t6:=(hT 6 (by decide)).1;have z6:=(hP.used 6 (by decide)).2;have s6:=(hP.used 6 (by decide)).1;have t7:=(hT 7 (by decide)).1;have z7:=(hP.used 7 (by decide)).2;have s7:=(hP.used 7 (by decide)).1;have t8:=(hT 8 (by decide)).1;have z8:=(hP.used 8 (by decide)).2;have s8:=(hP.used 8 (by decide)).1;have t9:=(hT 9 (by decide)).1;have z9:=(hP.used 9 (by decide)).2;have s9:=(hP.used 9 (by decide)).1;have t10:=(hT 10 (by decide)).1;have z10:=(hP.used 10 (by decide)).2;have s10:=(hP.used 10 (by decide)).1;have t11:=(hT 11 (by decide)).1;have z11:=(hP.used 11 (by decide)).2;have s11:=(hP.used 11 (by decide)).1;have t12:=(hT 12 (by decide)).1;have z12:=(hP.used 12 (by decide)).2;have s12:=(hP.used 12 (by decide)).1;have t13:=(hT 13 (by decide)).1;have z13:=(hP.used 13 (by decide)).2;have s13:=(hP.used 13 (by decide)).1;have t14:=(hT 14 (by decide)).1;have z14:=(hP.used 14 (by decide)).2;have s14:=(hP.used 14 (by decide)).1;have t15:=(hT 15 (by decide)).1;have z15:=(hP.used 15 (by decide)).2;have s15:=(hP.used 15 (by decide)).1;clear hT hP hB Hi;generalize aL us (l.take l.length)=f at *
   go_wp2
   go_ret;refine ⟨by rw [HK.out];rfl,HG.out,?_⟩;rw [HO.out];exact HF.out
end
section
open RowKit
open Dvs (Dv dv0 dv nth fits fy cB gB sel ord bx cd srt bQ aW)
theorem IT (m n:Nat) (hm:m<256) (hn:n<=3):(255 - m).testBit n=!m.testBit n:=by
 have key:∀ (a:Fin 256) (b:Fin 4),(255 - a.val).testBit b.val=!a.val.testBit b.val:=by decide +kernel
 exact key ⟨m,hm⟩ ⟨n,by omega⟩
theorem IU {ds:List Dv} (hN:aW ds) (us:Nat->Bool) (kind:ByteArray) (m:Nat) (hm:m<256):sel (cB ds us kind (255 - m)) ds.length=sel (gB ds us kind m) ds.length:=by
 refine Dvs.nT λj hj=>?_
 have:=hN.2 j hj
 unfold cB gB fy;rw [IT m _ hm (by omega)]
theorem IV (m:Nat) (hm:m<256):bits BinOp.xor IntKind.u8 IntKind.u8.max (m:Int)=((255 - m:Nat):Int):=by
 have key:∀ (a:Fin 256),bits BinOp.xor IntKind.u8 IntKind.u8.max ((a.val:Nat):Int)=((255 - a.val:Nat):Int):=by decide +kernel
 exact key ⟨m,hm⟩
def kn (bad:Nat->Value) (w:World) (pb db:Nat) (ao:Option Addr) (c:Nat) (ds:List Dv) (us:Nat->Bool) (kind:ByteArray) (m:Nat) (many:Int) (e:Ending) (w':World):Prop:=
 (bQ ds us kind many≠0->e=.returned (.tuple #[.slice none 0 0,bad (bQ ds us kind many)])/\Below w.heap.size w w')/\
 (bQ ds us kind many=0->∃ v g,e=.returned (.tuple #[v,bad 0])/\fR w' v g 0 (ints (srt (bx ds us kind m many.toNat)))/\(0<(srt (bx ds us kind m many.toNat)).length->w.heap.size<=g)/\ak w' pb db ao c ds (cd us (bx ds us kind m many.toNat)))/\
 w.grownBy w' (some pb)
theorem kn.wrong {bad:Nat->Value} {w:World} {pb db:Nat} {ao:Option Addr} {c:Nat} {ds:List Dv} {us:Nat->Bool} {kind:ByteArray} {m:Nat} {many:Int} {e:Ending} {w':World} {n:Nat} (hf:bQ ds us kind many=n) (hn:n≠0) (he:e=.returned (.tuple #[.slice none 0 0,bad n])) (hb:Below w.heap.size w w'):kn bad w pb db ao c ds us kind m many e w':=
 ⟨λ_=>⟨by rw [hf];exact he,hb⟩,λh=>by omega,dD hb _⟩
theorem Row.nums {w:World} {B:Nat} {v:Value} {l:List Nat} (h:Row w B v l):∃ g,fR w v g 0 (ints l)/\(0<l.length->B<=g):=by
 unfold Row at h
 rcases h.2 with ⟨rfl,h0⟩|⟨g,cap,cur,rfl,hg,Ha,_⟩
 ·have:=Qe h0
  subst this;exact ⟨0,⟨none,0,rfl,λh=>by simp [ints] at h⟩,λh=>by simp at h⟩
 ·refine ⟨g,⟨_,cap,by rw [md],λ_=>⟨rfl,(gS Ha).1,λk hk=>?_⟩⟩,λ_=>hg⟩;rw [md] at hk;rw [Qd,h.cellAt k (by omega)]
  simp [bF,nth,ints,hk]
theorem xN {a b c:World} {r r':Option Nat} (h:a.grownBy b r) (k:b.grownBy c r') (hr:∀ j,r'=some j->a.heap.size<=j\/r=some j):a.grownBy c r:=
 ⟨k.os.trans h.os,k.tape.trans h.tape,k.output.trans h.output,Q5 h.size k.size,λi hi hne=>(k.block i (Q1 hi h.size) (λe=>by rcases hr i e.symm with h1|h1;omega;exact hne h1.symm)).trans (h.block i hi hne)⟩
theorem IW {us:Nat->Bool} {l:List Nat} {k q:Nat} (hq:l[k]?=some q) (j:Nat):cd us (l.take (k+1)) j=if j=q then true else cd us (l.take k) j:=by
 rw [List.take_add_one,hq]
 show cd us (l.take k++[q]) j=_
 rw [Dvs.Cw]
 by_cases e:j=q
 ·rw [if_pos e,Qc e,Bool.or_true]
 ·rw [if_neg e,Q7 e,Bool.or_false]
theorem xO {L:List Nat} (h16:∀ j∈L,j<16) (hn:L.Nodup) {wr:World} {B g cap:Nat} {cur:Array Value} (hB:B<=g) (hgc:wr.heap[g]?=some (.cells cur 3 (0,0))) (hlc:L.length<=cap) (hcm:cap<=maxLen) (hcs:cur.size=cap*1) (hct:cur.toList.take L.length=bF L) (hsl:L.length<4611686018427387904) :
  Calls prog 130 #[.slice (some ⟨g,0,none⟩) L.length cap] wr λe w'=>e=.returned (.tuple #[])/\Row w' B (.slice (some ⟨g,0,none⟩) (srt L).length cap) (srt L)/\wr.grownBy w' (some g):=by
 have He:g<wr.heap.size:=(gS hgc).1;have Ha:(ints L).length=L.length:=md L;have Hc:(ints L).map (Value.int .i64)=bF L:=by simp [ints,bF]
 have hH:=holds_of_blockI (ss:=ints L) hgc (by rw [Ha,hct,Hc]);have hS:=Any.slices_Sort_int Tryz.sortL9 g 0 cap (ints L) wr hH He (by rw [Ha];exact hsl);rw [Ha] at hS;refine hS.mono ?_;rintro e w' ⟨rfl,n,os,rfl⟩;have Hf:(ints L).mergeSort (λx y=>decide (x<=y))=ints (srt L):=Dvs.CA h16 hn;have Hb:(srt L).length=L.length:=Dvs.nU h16 hn;rw [Hf];refine ⟨rfl,?_,grownBy_sortedI _⟩
 have:=ownsRow_sortedI (ss:=ints L) (ts:=ints (srt L)) (base:=B) (n:=n) (os:=os) (by rw [md,Ha,Hb]) hB hgc (by rw [Ha];exact hlc) hcm hcs
 rw [Ha] at this;unfold Row;rw [Hb];have e2:(ints (srt L)).map (Value.int .i64)=bF (srt L):=by simp [ints,bF]
 rw [e2] at this;exact this
theorem IX (kind:ByteArray) (many:Int) (m:Nat) (w:World) (pb:Nat) (h:many<0) :
  Calls prog 129 #[.pointer (some ⟨pb,0,none⟩),.string kind,.int .i64 many,.int .u8 m] w λe w'=>e=.returned (.tuple #[.slice none 0 0,.iface 121 (.int .i64 1)])/\w'=w:=by
 go_enter func129,ntmps129
 go_wp2
 go_ret2;exact ⟨rfl,rfl⟩
theorem IY (kind:ByteArray) (many m:Nat) (w:World) (pb db:Nat) (ao:Option Addr) (c:Nat) (ds:List Dv) (us:Nat->Bool) (h:ak w pb db ao c ds us) (hN:aW ds) (hm:m<256) :
  Calls prog 129 #[.pointer (some ⟨pb,0,none⟩),.string kind,.int .i64 many,.int .u8 m] w λe w'=>kn (λn=>au n) w pb db ao c ds us kind m many e w':=by
 have HK:=qI (uN kind m w pb db ao c ds us h hN hm);have HE:Hid (∀ W,ak W pb db ao c ds us->Calls prog 167 #[.pointer (some ⟨pb,0,none⟩),.string kind,.int .u8 (bits BinOp.xor IntKind.u8 IntKind.u8.max m)] W λe w'=>∃ v,e=.returned v/\Row w' W.heap.size v (sel (gB ds us kind m) ds.length)/\Below W.heap.size W w'):=by
  intro W hW;rw [IV m hm,<- IU hN us kind m hm];exact uN kind (255 - m) W pb db ao c ds us hW hN (by omega)
 have HP:=qI h;have HN:=qI hN;have HO:Hid (ord ds us kind m=sel (cB ds us kind m) ds.length++sel (gB ds us kind m) ds.length):=rfl;have H8:=qI (Dvs.qd ds us kind m);have ha:=Dvs.kR (cB ds us kind m) ds.length;have H9:=Dvs.kR (gB ds us kind m) ds.length;have hi:=hN.1;clear h hN;generalize sel (cB ds us kind m) ds.length=l1 at *;generalize sel (gB ds us kind m) ds.length=l2 at *
 go_enter func129,ntmps129
 go_wp2_with fail
 refine HK.out.mono ?_;rintro e w1 ⟨v1,rfl,HT,HB⟩;have HA:=qI HT.src;have Hz:=qI (HP.out.below HB);have Hs:=qI HB;clear HT HB HK
 go_wp2_with fail
 refine (HE.out w1 Hz.out).mono ?_;rintro e w2 ⟨v2,rfl,HC,Hq⟩;have Hv:=qI (Hs.out.trans (Hq.mono Hs.out.size));have Hh:=(Q0 w2.heap.size w2).alloc (lR) (.cells #[v1,v2] 44);have HH:=qI ((Hz.out.below Hq).below Hh);have Hi:=qI ((HA.out.below Hq).below Hh);have Hg:=qI (HC.src.below Hh);have Hn:=qI (Hv.out.trans (Hh.mono Hv.out.size));obtain ⟨a1,d1,rfl⟩:=HA.out.form;obtain ⟨a2,d2,rfl⟩:=HC.src.form;clear HC Hq Hh HE HA Hs Hz
 go_wp2_with fail
 refine (IR _ _ l1 l2 w2.heap.size _ Hi.out Hg.out (by simp) (by simp) (by omega) (by omega)).mono ?_;rintro e w3 ⟨v3,rfl,Hb,HD⟩;have HF:=qI (HH.out.below HD);have Hr:=qI (Hn.out.trans (HD.mono Hn.out.size));have Ht:w.heap.size<=(w2.alloc (.cells #[.slice a1 l1.length d1,.slice a2 l2.length d2] 44)).heap.size:=Hn.out.size;rw [<- HO.out] at Hb;clear HD HH Hn Hv Hi Hg;generalize (w2.alloc (.cells #[.slice a1 l1.length d1,.slice a2 l2.length d2] 44)).heap.size=B3 at *;have H1:=qI Hb;unfold Row at Hb;have he:(ord ds us kind m).length<=32:=by rw [HO.out,Q2];omega
 have Hp:Hid (bQ ds us kind many=if ((ord ds us kind m).length:Int)<many then 9 else 0):=by unfold Hid bQ;rw [if_neg (by omega),H8.out]
 by_cases hf:(ord ds us kind m).length<many
 ·have Ha:Hid (bQ ds us kind many=9):=Hp.out.trans (if_pos (by omega));clear Hp
  rcases Hb.2 with ⟨rfl,h0⟩|⟨g,cap,cur,rfl,hg,Hf,HY,Hw,Hm,Hl⟩
  ·rw [h0] at hf;clear Hb
   go_wp2
   go_ret2;exact kn.wrong Ha.out (by decide) rfl Hr.out
  ·clear Hb Hf Hm Hl
   go_wp2
   go_ret2;exact kn.wrong Ha.out (by decide) rfl Hr.out
 ·have Ha:Hid (bQ ds us kind many=0):=Hp.out.trans (if_neg (by omega));clear Hp
  rcases Hb.2 with ⟨rfl,h0⟩|⟨g,cap,cur,rfl,hg,Hf,HY,Hw,Hm,Hl⟩
  ·have H7:many=0:=by omega
   subst H7;have hb:=Qe h0;have Hy:Hid (bx ds us kind m 0=[]):=by unfold Hid bx;simp
   clear Hb
   go_wp2_with fail
   go_loop [37] (λi=>i=.int .i64 0) (λ_=>0)
   case atStart=>rfl
   case round=>
    subst hrel
    go_wp2_with fail
    refine (Any.slices_Sort_int_none Tryz.sortL9 _ _ _).mono ?_;rintro e w5 ⟨rfl,rfl⟩
    go_wp2
    go_ret2;refine ⟨λhh=>absurd Ha.out hh,λ_=>⟨_,0,rfl,?_,?_,?_⟩,dD Hr.out _⟩
    ·show fR _ _ _ _ (ints (srt (bx ds us kind m 0)))
     rw [Hy.out];exact ⟨none,0,rfl,λh=>by simp [ints,srt,sel] at h⟩
    ·show 0<(srt (bx ds us kind m 0)).length->_
     rw [Hy.out];exact λh=>by simp [srt,sel] at h
    ·show ak _ _ _ _ _ _ (cd us (bx ds us kind m 0))
     rw [Hy.out,Dvs.ul];exact HF.out
  ·have H4:many<=(ord ds us kind m).length:=by omega
   clear Hb;have Hu:g≠pb:=by have:=HP.out.lt;omega
   have Ho:Hid ((bx ds us kind m many).length=many):=by unfold Hid bx;rw [Qu];omega
   have HZ:Hid (bx ds us kind m many=(ord ds us kind m).take many):=rfl;have He:Hid (∀ j∈bx ds us kind m many,j<16):=λj hj=>by have:=(Dvs.gV hj).1;omega
   have HU:=qI (Dvs.lY ds us kind m many);have HM:Hid (∀ k q:Nat,(ord ds us kind m)[k]?=some q->q<16):=λk q hq=>by
    have:=(Dvs.um.1 (List.mem_of_getElem? hq)).1
    omega
   have HX:Hid (∀ k,k<(ord ds us kind m).length->∃ q:Nat,(ord ds us kind m)[k]?=some q/\w3.cell? ⟨g,k,none⟩=some (.int .i64 q)):=λk hk=>by
    refine ⟨(ord ds us kind m)[k],Qf hk,?_⟩
    have:=H1.out
    unfold Row at this;rw [this.cellAt k (by omega)]
    simp [bF,hk]
   have Hc:g<w3.heap.size:=(gS Hf).1;have HQ:=qI (And.intro Hf (And.intro Hw (And.intro Hm Hl)));clear Hf Hm Hl Hw;have hc:decide ((many:Int)<0)=false:=by simp
   go_wp2
   go_loopw [37] (λi wr=>∃ k:Nat,k<=many/\i=.int .i64 k/\ak wr pb db ao c ds (cd us ((ord ds us kind m).take k))/\w3.grownBy wr (some pb)) (λi _=>many - (intOf i).toNat)
   case atStart=>exact ⟨0,by omega,rfl,by rw [List.take_zero,Dvs.ul];exact HF.out,qi _ _⟩
   case round=>
    obtain ⟨k,hk,rfl,hP,hG⟩:=hrel
    by_cases hlt:k<many
    ·obtain ⟨q,hq,HJ⟩:=HX.out k (by omega);have Hk:=HM.out k q hq;have hx:=(hG.cell_far ⟨g,k,none⟩ Hc (by simpa using Hu)).trans HJ;obtain ⟨hu,hz⟩:=hP.used q Hk;have H0:=qI (hP.set (vs:=cd us ((ord ds us kind m).take (k+1))) Hk true λj _=>IW hq j);have H2:=qI (hG.trans (bL wr ⟨pb,1+q,none⟩ (.bool true)));clear hP hG HJ hq
     go_wp2
     go_roundw
     case rel=>exact ⟨k+1,by omega,by go_num,H0.out,H2.out⟩
     case measure=>simp [intOf];omega
    ·have H6:k=many:=by omega
     subst H6;have H3:=qI hP;have HR:=qI hG;clear hP hG;have HS:Hid (Calls prog 130 #[.slice (some ⟨g,0,none⟩) k cap] wr λe w'=>e=.returned (.tuple #[])/\Row w' B3 (.slice (some ⟨g,0,none⟩) k cap) (srt (bx ds us kind m k))/\wr.grownBy w' (some g)):=by
      obtain ⟨q1,q2,q3,q4⟩:=HQ.out
      have:=xO He.out HU.out hg (wr:=wr) ((HR.out.block g Hc (by simpa using Hu)).trans q1) (by rw [Ho.out];omega) q2 q3 (by
       rw [Ho.out,HZ.out];rw [Nat.mul_one] at q4;have e:(cur.toList.take (ord ds us kind m).length).take k=cur.toList.take k:=by rw [List.take_take,Nat.min_eq_left H4]
       rw [<- e,q4]
       simp [bF,List.map_take]) (by rw [Ho.out];omega)
      rw [Dvs.nU He.out HU.out,Ho.out] at this;exact this
     go_wp2_with fail
     refine HS.out.mono ?_;rintro e w5 ⟨rfl,HL,Hx⟩;obtain ⟨g5,HG,Hj⟩:=HL.nums;have HW:=qI (H3.out.kept Hx (by simpa using λe=>Hu e.symm) (λh0=>by have:=(HP.out.at0 h0).2.2;simp;omega));have H5:=qI (xN (dD Hr.out (some pb)) HR.out (λj hj=>by right;exact hj));have HV:=qI (xN H5.out Hx (λj hj=>by left;cases hj;omega));have HI:=qI (And.intro HG Hj);clear HL Hx HG Hj
     go_wp2
     go_ret2;refine ⟨λhh=>absurd Ha.out hh,λ_=>⟨_,g5,rfl,HI.out.1,λh0=>Q5 Ht (HI.out.2 h0),?_⟩,HV.out⟩;exact HW.out
end
section
open RowKit
open Dvs (Dv dv0 dv nth aW fault)
theorem ak.devsAt {w:World} {pb db:Nat} {ao:Option Addr} {c:Nat} {ds:List Dv} {us:Nat->Bool} (h:ak w pb db ao c ds us):cU w (.slice ao ds.length c) db 0 ds:=
 ⟨ao,c,rfl,λh0=>⟨(h.at0 h0).1,(h.at0 h0).2.2,λk hk=>by obtain ⟨c0,c1,c2,_⟩:=h.cells k hk;rw [Qd];exact ⟨c0,c1,c2⟩⟩⟩
theorem xP (w:World) (pb db:Nat) (ao:Option Addr) (c:Nat) (ds:List Dv) (us:Nat->Bool) (h:ak w pb db ao c ds us) (hN:aW ds) :
  Calls prog 45 #[.pointer (some ⟨pb,0,none⟩)] w λe w'=>∃ v,e=.returned v/\gC w.heap.size w' v ds/\Below w.heap.size w w':=by
 have HC:=qI (uG _ db 0 ds w h.devsAt hN.1);have Ha:=h.row;clear h hN
 go_enter func45,ntmps45
 go_wp2_with fail
 refine HC.out.mono ?_;rintro e w1 ⟨v,rfl,hv,hb⟩;have HV:=qI hv;have HB:=qI hb;clear hv hb
 go_wp2
 go_ret;exact ⟨_,rfl,HV.out,HB.out⟩
theorem IZ (kind:ByteArray) (many:Int) (m:Nat) (w:World) (pb db:Nat) (ao:Option Addr) (c:Nat) (ds:List Dv) (us:Nat->Bool) (h:ak w pb db ao c ds us) (hN:aW ds) (hm:m<256) :
  Calls prog 129 #[.pointer (some ⟨pb,0,none⟩),.string kind,.int .i64 many,.int .u8 m] w λe w'=>kn (λn=>au n) w pb db ao c ds us kind m many e w':=by
 by_cases h0:many<0
 ·refine (IX kind many m w pb h0).mono ?_;rintro e w' ⟨rfl,rfl⟩;exact kn.wrong (n:=1) (by rw [Dvs.bQ,if_pos h0]) (by decide) rfl (Q0 _ _)
 ·obtain ⟨n,rfl⟩:=Int.eq_ofNat_of_zero_le (show 0<=many by omega);exact IY kind n m w pb db ao c ds us h hN hm
end
section
open RowKit Go.ChangeMaps Go.Maps
structure RV where
 pod:ByteArray
 cont:ByteArray
 cpus:Int
 da:Option Addr
 dn:Nat
 dc:Nat
def RV.val (x:RV):Value:=.agg #[.string x.pod,.string x.cont,.int .u64 x.cpus,.slice x.da x.dn x.dc]
def RV.cells (x:RV):List Value:=[.string x.pod,.string x.cont,.int .u64 x.cpus,.slice x.da x.dn x.dc]
theorem RV.val_inj {x y:RV} (h:x.val=y.val):x=y:=by
 cases x;cases y
 simp [RV.val] at h
 simp [h]
def ko:Value->Option (DataW Value × List MemPlace)
 | .agg ⟨[.string p,.string c,.int .u64 n,.slice a m k]⟩=>some (.held (.agg #[.string p,.string c,.int .u64 n,.slice a m k]),[])
 | _=>none
theorem rJ (x:RV):ko x.val=some (.held x.val,[]):=rfl
theorem xQ {v:Value} {y:DataW Value × List MemPlace} (h:ko v=some y):∃ x:RV,v=x.val/\y=(.held x.val,[]):=by
 unfold ko at h
 split at h
 ·rename_i p c n a m k
  cases h;exact ⟨⟨p,c,n,a,m,k⟩,rfl,rfl⟩
 ·cases h
def fZ (a b:ByteArray):Value:=.agg #[.string a,.string b]
def ep (a b:ByteArray):Lit:=.string (keyBytes [.string a.data.toList,.string b.data.toList])
theorem I0:laidOutB prog=true:=by kernel_rfl
theorem xR:(166:TypeId)<prog.types.size:=of_decide_eq_true (by kernel_rfl)
theorem I1:(match prog.underlying 166 with|some (.array _ _)|some (.struct _)=>true|_=>false)=true:=by kernel_rfl
theorem kq:Keyed prog 166:=Keyed.of_law (deep_law_laid I0 (m:=2) (by omega) xR (by kernel_rfl) I1)
theorem I2:prog.keyType 166=true:=by kernel_rfl
theorem xS:prog.cellsOf 166=2:=by kernel_rfl
theorem I3:prog.cellsOf 9=1:=by kernel_rfl
theorem I4 {k m:Nat} (h:k<m):∃ n,m=n+1:=⟨m - 1,by omega⟩
theorem mO (a b:ByteArray) (ha:a.size<=maxLen) (hb:b.size<=maxLen):keyOf prog 166 (fZ a b)=some (ep a b):=by
 obtain ⟨n,hn⟩:=I4 xR;have hS:∀ s:ByteArray,s.size<=maxLen->prog.keyLits (n+1) 9 [.string s]=some [.string s.data.toList]:=λs hs=>by
  unfold Program.keyLits;rw [underlying9]
  simp [hs]
 unfold keyOf;simp only [underlying166,fZ,I2,Value.formed,xS,Value.cells];rw [if_pos (by rfl),hn];unfold Program.keyLits;rw [underlying166]
 simp [xS,I3,hS a ha,hS b hb,ep]
theorem I5 {a b c d:ByteArray} (ha:a.size<=maxLen) (hb:b.size<=maxLen) (hc:c.size<=maxLen) (hd:d.size<=maxLen) (h:ep a b=ep c d):a=c/\b=d:=by
 have h1:=mO a b ha hb;have h2:=mO c d hc hd;rw [<- h] at h2
 have:=kq.inj h1 h2
 simp [fZ] at this
 exact this
end
section
open RowKit Go.ChangeMaps Go.Maps Go.WideShapes
def RV.key (x:RV):Lit:=ep x.pod x.cont
def RV.Short (x:RV):Prop:=x.pod.size<=7000/\x.cont.size<=7000
theorem ik {n:Nat} (h:n<=7000):n<=maxLen:=by unfold maxLen;omega
theorem RV.keyOf {x:RV} (h:x.Short):keyOf prog 166 (fZ x.pod x.cont)=some x.key:=mO _ _ (ik h.1) (ik h.2)
theorem RV.key_eq {x:RV} (h:x.Short) {a b:ByteArray} (ha:a.size<=7000) (hb:b.size<=7000):x.key=ep a b↔(x.pod=a/\x.cont=b):=by
 constructor
 ·exact λe=>I5 (ik h.1) (ik h.2) (ik ha) (ik hb) e
 ·rintro ⟨rfl,rfl⟩;rfl
theorem I6 (a b c d:ByteArray):(ep a b).sameKey (ep c d)=true↔ep a b=ep c d:=by
 constructor
 ·exact WideAt.sameKey_eq
 ·intro e;rw [e];exact WideAt.sameKey_self trivial
def iS (xs:List RV):List (Lit × DataW Value):=xs.map λx=>(x.key,.held x.val)
def aZ (w:World) (B n:Nat) (xs:List RV):Prop:=(∀ x∈xs,x.Short)/\∃ es,w.ownsMap prog 166 ko B n (.map es)/\es.Perm (iS xs)
theorem aZ.lt {w:World} {B n:Nat} {xs:List RV} (h:aZ w B n xs):B<w.heap.size:=by
 obtain ⟨_,es,ho,_⟩:=h;exact ho.lt
theorem aZ.block {w w':World} {B n:Nat} {xs:List RV} (h:aZ w B n xs) (hb:w'.heap[B]?=w.heap[B]?):aZ w' B n xs:=by
 obtain ⟨hs,es,⟨ms,clock,hh,r⟩,hp⟩:=h;exact ⟨hs,es,⟨ms,clock,hb.trans hh,r⟩,hp⟩
theorem aZ.made (w:World):aZ (w.alloc (.map #[] 0)) w.heap.size 0 []:=
 ⟨λx hx=>by simp at hx,[],World.ownsMap_made w _ _ _,List.Perm.nil⟩
theorem aZ.keys {w:World} {B n:Nat} {xs:List RV} (h:aZ w B n xs):(xs.map RV.key).Nodup:=by
 obtain ⟨hs,es,ho,he⟩:=h;obtain ⟨es',e,hd,_⟩:=ho.entries kq;cases e;have h1:(es.map Prod.fst).Nodup:=List.pairwise_map.2 hd;have h2:=(he.map Prod.fst).nodup_iff.1 h1;unfold iS at h2;rw [List.map_map] at h2;exact h2
theorem aZ.has {w:World} {B n:Nat} {xs:List RV} (h:aZ w B n xs) {es:List (Lit × DataW Value)} (he:es.Perm (iS xs)) {a b:ByteArray} (ha:a.size<=7000) (hb:b.size<=7000) :
  Maps.has (.map es) (ep a b)=xs.any λx=>decide (x.pod=a/\x.cont=b):=by
 rw [Maps.has_eq,Bool.eq_iff_iff,List.any_eq_true,List.any_eq_true];constructor
 ·rintro ⟨p,hp,hk⟩;obtain ⟨x,hx,rfl⟩:=Qk.1 (he.mem_iff.1 hp);exact ⟨x,hx,Qc ((RV.key_eq (h.1 x hx) ha hb).1 (WideAt.sameKey_eq hk))⟩
 ·rintro ⟨x,hx,hk⟩;refine ⟨(x.key,.held x.val),he.mem_iff.2 (Qk.2 ⟨x,hx,rfl⟩),?_⟩;rw [show x.key=ep a b from (RV.key_eq (h.1 x hx) ha hb).2 (of_decide_eq_true hk)];exact WideAt.sameKey_self trivial
theorem I7 (w:World):(zeroValue 111).run prog w=.ok (RV.val ⟨ByteArray.empty,ByteArray.empty,0,none,0,0⟩) w:=by kernel_rfl
theorem aZ.put {w:World} {B n:Nat} {xs:List RV} (h:aZ w B n xs) (x:RV) (hx:x.Short) (hn:n<1000) (hno:(xs.any λy=>decide (y.pod=x.pod/\y.cont=x.cont))=false) :
  ∃ w',(Instr.mapUpdate 147 (.map (some B)) (fZ x.pod x.cont) x.val).run prog w=.ok () w'/\aZ w' B (n+1) (x :: xs)/\w.grownBy w' (some B)/\w'.heap.size=w.heap.size:=by
 obtain ⟨es,ho,he⟩:=h.2;obtain ⟨w',Ha,Hc,ht⟩:=ho.store kq underlying147 (by unfold maxLen;omega) (RV.keyOf hx) (rJ x);refine ⟨w',Ha,⟨λy hy=>?_,putKey x.key (.held x.val) es,Hc,?_⟩,ht.grown,?_⟩
 ·rcases List.mem_cons.1 hy with rfl|hy
  ·exact hx
  ·exact h.1 y hy
 ·unfold putKey;refine (insert_perm _ _).trans ?_;have hf:es.filter (notKey x.key)=es:=by
   refine List.filter_eq_self.2 λp hp=>?_
   obtain ⟨y,hy,rfl⟩:=Qk.1 (he.mem_iff.1 hp);have Hb:¬ (y.pod=x.pod/\y.cont=x.cont):=of_decide_eq_false (by have:=List.any_eq_false.1 hno y hy;simpa using this)
   show (!y.key.sameKey x.key)=true
   rw [Bool.not_eq_true'];refine sameKey_ne λe=>Hb ((RV.key_eq (h.1 y hy) hx.1 hx.2).1 e)
  rw [hf];exact List.Perm.cons _ he
 ·obtain ⟨es0,c0,es1,c1,_,rfl⟩:=ht
  simp [setBlock]
theorem aZ.drop {w:World} {B n:Nat} {xs:List RV} (h:aZ w B n xs) (a b:ByteArray) (ha:a.size<=7000) (hb:b.size<=7000) (ty:TypeId) :
  ∃ w',(Builtin.delete_ #[147,166] ty #[.map (some B),fZ a b]).run prog w=.ok (.tuple #[]) w'/\aZ w' B n (xs.filter λx=>!decide (x.pod=a/\x.cont=b))/\w.grownBy w' (some B)/\w'.heap.size=w.heap.size:=by
 obtain ⟨es,ho,he⟩:=h.2;obtain ⟨w',Ha,Hc,ht⟩:=ho.drop kq underlying147 (mO a b (ik ha) (ik hb)) ty;refine ⟨w',Ha,⟨λy hy=>h.1 y (List.mem_filter.1 hy).1,delKey (ep a b) es,Hc,?_⟩,ht.grown,?_⟩
 ·unfold delKey;refine (he.filter _).trans ?_;unfold iS;rw [List.filter_map];have Hb:xs.filter (notKey (ep a b) ∘ λx:RV=>(x.key,(DataW.held x.val:DataW Value)))=xs.filter λx=>!decide (x.pod=a/\x.cont=b):=by
   refine List.filter_congr λx hx=>?_
   have e:x.key.sameKey (ep a b)=decide (x.pod=a/\x.cont=b):=by
    rw [Bool.eq_iff_iff,decide_eq_true_iff];exact (I6 _ _ _ _).trans (RV.key_eq (h.1 x hx) ha hb)
   show (!x.key.sameKey (ep a b))=_
   rw [e]
  rw [Hb]
 ·obtain ⟨es0,c0,es1,c1,_,rfl⟩:=ht
  simp [setBlock]
def Came (left:Lit->Bool) (xs pre:List RV):Prop:=∃ rest,xs.Perm (pre++rest)/\(∀ x∈pre,left x.key=false)/\∀ x∈rest,left x.key=true
theorem Came.start {xs:List RV} {es:List (Lit × DataW Value)} (he:es.Perm (iS xs)):Came (Maps.has (.map es)) xs []:=
 ⟨xs,by simp,λx hx=>by simp at hx,λx hx=>List.any_eq_true.2 ⟨(x.key,.held x.val),he.mem_iff.2 (Qk.2 ⟨x,hx,rfl⟩),WideAt.sameKey_self trivial⟩⟩
theorem Came.finish {left:Lit->Bool} {xs pre:List RV} (h:Came left xs pre) (hl:∀ kl,left kl=false):pre.Perm xs:=by
 obtain ⟨rest,hp,_,hr⟩:=h
 have:rest=[]:=by
  cases rest with
  | nil=>rfl
  | cons x l=>have:=hr x (by simp);rw [hl] at this;cases this
 subst this;rw [List.append_nil] at hp;exact hp.symm
theorem at_mem {es:List (Lit × DataW Value)} {kl:Lit} {y:DataW Value} (hat:∀ zd,(DataW.map es).atKey kl zd=y):∃ p∈es,p.1=kl/\p.2=y:=by
 unfold DataW.atKey at hat;simp only at hat;cases hf:es.find? (λp=>p.1.sameKey kl) with
 | none=>
  rw [hf] at hat;have h1:=hat .nil;have h2:=hat (.lit .nil);simp only at h1 h2;rw [<- h1] at h2;cases h2
 | some p=>
  rw [hf] at hat;exact ⟨p,List.mem_of_find?_eq_some hf,WideAt.sameKey_eq (List.find?_some (p:=λq:Lit × DataW Value=>q.1.sameKey kl) hf),hat .nil⟩
theorem Came.step {left:Lit->Bool} {xs pre:List RV} {es:List (Lit × DataW Value)} (h:Came left xs pre) (he:es.Perm (iS xs)) (hk:(xs.map RV.key).Nodup) {kl:Lit} {c:RV} (hlk:left kl=true) (hat:∀ zd,(DataW.map es).atKey kl zd=.held c.val) :
  Came (λz=>left z && !z.sameKey kl) xs (pre++[c])/\kl=c.key:=by
 obtain ⟨p,hp,rfl,Hg⟩:=at_mem hat;obtain ⟨x,hx,rfl⟩:=Qk.1 (he.mem_iff.1 hp);have e:x=c:=RV.val_inj (by simpa using Hg);subst e;obtain ⟨rest,Hb,h1,h2⟩:=h;have Hc:x∈rest:=by
  rcases Qi.1 (Hb.mem_iff.1 hx) with hm|hm
  ·have:=h1 x hm
   rw [this] at hlk;cases hlk
  ·exact hm
 obtain ⟨r1,r2,rfl⟩:=List.append_of_mem Hc;have Hh:xs.Perm ((pre++[x])++(r1++r2)):=by
  refine Hb.trans ?_;rw [List.append_assoc];exact List.Perm.append_left _ List.perm_middle
 have He:((pre++(r1++x :: r2)).map RV.key).Nodup:=(Hb.map _).nodup_iff.1 hk;refine ⟨⟨r1++r2,Hh,λy hy=>?_,λy hy=>?_⟩,rfl⟩
 ·rcases Qi.1 hy with hm|hm
  ·show (left y.key && !y.key.sameKey x.key)=false
   rw [h1 y hm];rfl
  ·simp at hm
   subst hm
   show (left y.key && !y.key.sameKey y.key)=false
   rw [WideAt.sameKey_self (show WideAt.IsKeyLit y.key from trivial)];simp
 ·have hm:y∈r1++x :: r2:=by
   rcases Qi.1 hy with hm|hm
   ·exact Qi.2 (.inl hm)
   ·exact Qi.2 (.inr (Qv _ hm))
  have Hi:y.key≠x.key:=by
   rw [Qj,List.nodup_append] at He;have Ha:=He.2.1;have Hf:((x :: (r1++r2)).map RV.key).Nodup:=((List.perm_middle (a:=x) (l₁:=r1) (l₂:=r2)).map RV.key).nodup_iff.1 Ha;rw [Qq,List.nodup_cons] at Hf;exact λe=>Hf.1 (by rw [<- e];exact List.mem_map_of_mem hy)
  show (left y.key && !y.key.sameKey x.key)=true
  rw [h2 y hm,sameKey_ne Hi];rfl
end
section
open RowKit Shelf Go.Maps
attribute [local go_sem] Oper.semAt_some
theorem I8 {key:Value} {kl:Lit} (h:keyOf prog 166 key=some kl):∃ cs:Array Value,key=.agg cs:=by
 unfold keyOf at h;rw [underlying166] at h;simp only at h
 split at h
 ·rename_i hf
  cases key <;> simp [Value.formed,underlying166] at hf;exact ⟨_,rfl⟩
 ·cases h
theorem I9 (F:Fence) (n:Nat) (h8:F.fn 122) (hro:F.round=none) (hn:1<=n) (l Bm b nn:Nat) (xs:List RV) (J Jx:List RV->World->Prop)
  (hY:∀ pre (x:RV) W,J pre W->pre.length<xs.length->YieldAt F (n - 1) prog l #[.agg #[.string x.pod,.string x.cont,.int .u64 x.cpus,.slice x.da x.dn x.dc]] W λe W'=>
   (e=.returned (.bool true)/\J (pre++[x]) W'/\KeepsWalks W W')\/(e=.returned (.bool false)/\Jx (pre++[x]) W'))
  (W:World) (hJ:AbidesFrom W.heap.size J) (hm:W.cell? ⟨Bm,0,none⟩=some (.map (some b))) (hown:aZ W b nn xs) (h0:J [] W) :
  CallsIn F n prog 122 #[.func (.yield l) #[] #[],.pointer (some ⟨Bm,0,none⟩)] W λe W'=>(∃ v,e=.returned v)/\
   ((∃ ys,ys.Perm xs/\J ys W')\/(∃ pre,True/\Jx pre W')):=by
 have Hr:=hown.keys;obtain ⟨HC,es,ho,he⟩:=hown;have Hq:Maps.size (.map es:DataW Value)=xs.length:=by rw [Maps.size_eq,he.length_eq,iS,Q9]
 refine callsIn_of_wp func122 rfl h8 ?_ hro;simp only [ntmps122,List.size_toArray,Qg,List.length_nil,Nat.reduceAdd,Nat.reduceSub,Array.replicate_succ,Array.replicate_zero,List.push_toArray,List.append_toArray,List.nil_append,List.cons_append]
 gi_wp2_with (first
  | (gi_at_range;refine wpListIn_range_own _ rfl _ 147 rfl 166 111 kq underlying147 _ b nn _ rfl ho ?_;intro w0 Hb Hl HA)
  | gi_in)
 go_frame
 gi_loopw [4] (λ_ wr=>∃ (left:Lit->Bool) (cnt:Nat) (pre:List RV),wr.ranges prog 166 ko b W.heap.size nn (.map es) left cnt/\pre.length+cnt<=xs.length/\Came left xs pre/\J pre wr)
  λ_ wr=>wr.rangeLeft b W.heap.size
 case atStart=>
  exact ⟨_,_,[],Hb,by rw [Hq];simp,Came.start he,hJ [] W w0 none h0 Hl (λr e=>by cases e)⟩
 case round=>
  obtain ⟨left,cnt,pre,Hh,HD,hC,Hi⟩:=hrel
  gi_wp2_with (first
   | (gi_at_next;refine wpListIn_next_ranges _ rfl _ rfl 166 kq ko (λcs:Array Value=>Value.agg cs) RV.val (λkey kl hk=>I8 hk) (λv y hv=>by obtain ⟨c,rfl,_⟩:=xQ hv;exact ⟨c,rfl⟩) b W.heap.size nn _ _ _ rfl Hh ?_ ?_)
   | gi_in)
  ·intro HB Ho
   gi_wp2
   go_end0
   exact ⟨⟨_,rfl⟩,.inl ⟨pre,hC.finish Ho,Hi⟩⟩
  ·intro x c kl yd yp w2 cnt2 Hx Hw hv Hj Hg Hv Hm Hz He;rw [rJ] at hv;obtain ⟨rfl,rfl⟩:=Prod.mk.inj (Ql hv);obtain ⟨Hk,_⟩:=hC.step he Hr Hw Hj;have Hy:J pre w2:=hJ pre wr w2 (some W.heap.size) Hi Hm (λr e=>by cases e;exact ⟨lR,Hh.iter_walk⟩);have Hu:J pre (w2.alloc (.cells #[.string c.pod,.string c.cont,.int .u64 c.cpus,.slice c.da c.dn c.dc] 111)):=hJ pre w2 _ none Hy (World.grownBy_alloc _ _ _) (λr e=>by cases e);have Hf:=Hg.alloc (.cells #[.string c.pod,.string c.cont,.int .u64 c.cpus,.slice c.da c.dn c.dc] 111);obtain ⟨fn,tmps,assign,body,hy,hR⟩:=hY pre c _ Hu (by omega);clear Hz hv;unfold RV.val at He ⊢
   gi_wp2
   refine hR.mono ?_;rintro e W3 (⟨rfl,Hs,Hn⟩|⟨rfl,Hc⟩)
   ·have Ha:=Hf.of_walks Hn;have Ht:=qI Hk;have Hp:=qI Hv;clear Hk Hj He hy hR
    gi_wp2
    go_roundw
    case rel=>exact ⟨_,cnt2,pre++[c],Ha,by simp;omega,Ht.out,Hs⟩
    case measure=>rw [Ha.left_eq,Hh.left_eq];exact Hp.out
   ·clear He hy hR
    gi_wp2
    refine Qx (results_none rfl _ _ _) rfl ?_;exact ⟨⟨_,rfl⟩,.inr ⟨_,trivial,Hc⟩⟩
theorem Ja (m:Option Nat) (w:World) :
  Calls prog 74 #[.map m] w λe w'=>e=.returned (.func (.func 122) #[] #[.pointer (some ⟨w.heap.size,0,none⟩)])/\w'=w.alloc (.cells #[.map m] 147):=by
 go_enter func74,ntmps74
 go_wp2
 go_ret;exact ⟨rfl,rfl⟩
def encR (x:RV):Array Value:=#[.agg #[.string x.pod,.string x.cont,.int .u64 x.cpus,.slice x.da x.dn x.dc]]
theorem values_stops (F:Fence) (n:Nat) (h8:F.fn 122) (hro:F.round=none) (hn:1<=n) (Bm b nn:Nat) (xs:List RV) (w:World) (hBm:Bm<w.heap.size) (hm:w.cell? ⟨Bm,0,none⟩=some (.map (some b))) (hown:aZ w b nn xs) :
  SeqStopsK F n prog 122 #[.pointer (some ⟨Bm,0,none⟩)] encR KeepsWalks (λys=>ys.Perm xs) (λ_=>True) xs.length w:=λl J Jx W hW hJ _ hY h0=>
 I9 F n h8 hro hn l Bm b nn xs J Jx hY W hJ ((hW.cell (p:=⟨Bm,0,none⟩) hBm).trans hm) (hown.block (hW.block b hown.lt)) h0
def bP (base:Nat) (w:World) (v:Value) (ys:List RV):Prop:=w.ownsRow base 111 4 v ys.length (ys.flatMap RV.cells)
theorem rK:(prog.info? 111).map (λi=>(i.zero,i.size,i.bytes))=some (some (.agg #[.string ByteArray.empty,.string ByteArray.empty,.int .u64 0,.slice none 0 0]),4,64):=by kernel_rfl
theorem rL (w:World) (x:RV) (t:TypeId):∀ j u,(RV.cells x)[j]?=some u->(w.alloc (.cells #[.string x.pod,.string x.cont,.int .u64 x.cpus,.slice x.da x.dn x.dc] t)).cell? ((⟨w.heap.size,0,none⟩:Addr).add j)=some u:=by
 intro j u hu;rw [Addr.add_lit,Qd]
 match j,hu with
 | 0,hu=>simp [RV.cells] at hu;subst hu;simp
 | 1,hu=>simp [RV.cells] at hu;subst hu;simp
 | 2,hu=>simp [RV.cells] at hu;subst hu;simp
 | 3,hu=>simp [RV.cells] at hu;subst hu;simp
 | n+4,hu=>simp [RV.cells] at hu
theorem bP.push {base:Nat} {w:World} {v:Value} {ys:List RV} {x:RV} (h:w.ownsRow base 111 4 v (ys.length+1) (ys.flatMap RV.cells++RV.cells x)):bP base w v (ys++[x]):=by
 unfold bP;rw [Q2,List.flatMap_append]
 simpa using h
theorem Jb (Bm b nn:Nat) (xs:List RV) (w:World) (hm:w.cell? ⟨Bm,0,none⟩=some (.map (some b))) (hown:aZ w b nn xs) (hl:xs.length<=1000) :
  Calls prog 155 #[.slice none 0 0,.func (.func 122) #[] #[.pointer (some ⟨Bm,0,none⟩)]] w λe w'=>(∃ v ys,e=.returned v/\ys.Perm xs/\bP w.heap.size w' v ys)/\Below w.heap.size w w':=by
 obtain ⟨i0,hi,Hp,Hn,Ho⟩:=info_parts rK;refine (callsIn_wide (n:=3)).1 ?_;refine callsIn_of_wp_marks func155 rfl trivial ?_ rfl;simp only [ntmps155,List.size_toArray,Qg,List.length_nil,Nat.reduceAdd,Nat.reduceSub,Array.replicate_succ,Array.replicate_zero,List.push_toArray,List.append_toArray,List.nil_append,List.cons_append]
 gi_wp2_with fail
 have He:=Q3 w _ hm;have Hk:=qI ((Q0 w.heap.size w).alloc (lR) (.cells #[.slice none 0 0] 105));have Hj:=qI (values_stops Fence.wide (3 - 1) trivial rfl (by omega) Bm b nn xs (w.alloc (.cells #[.slice none 0 0] 105)) (by simp;exact Nat.lt_succ_of_lt He) ((Hk.out.cell (p:=⟨Bm,0,none⟩) He).trans hm) (hown.block (Hk.out.block b hown.lt)));have Ht:=qI (Boxed.new w 105 (.slice none 0 0));have Hw:(w.alloc (.cells #[.slice none 0 0] 105)).heap.size=w.heap.size+1:=by simp
 generalize w.alloc (.cells #[.slice none 0 0] 105)=A at *;refine wpIn_rangeFunc_ownH (α:=RV) rfl (by omega) (gf:=122) (lb:=#[.pointer (some ⟨Bm,0,none⟩)]) rfl trivial (enters_of func122 (by kernel_rfl) rfl)
  Hj.out walksK_t walksK_b (Q0 _ _) (λ_=>rfl)
  (λpre W=>(∃ v,Boxed W w.heap.size 105 v/\W.ownsRow w.heap.size 111 4 v pre.length (pre.flatMap RV.cells)/\True)/\Below w.heap.size w W)
  (λ_ _ _=>False)
  (OwnFrom.and (Own.from (holdsRow_own w.heap.size w.heap.size 105 111 4 (λpre:List RV=>pre.length) (λpre=>pre.flatMap RV.cells) λ_ _=>True) _) (ownFrom_below (lR) (by omega)))
  (λ_ _ _ _ _ hs _ _=>hs)
  ⟨⟨_,Ht.out,Qw _ _ _ _,trivial⟩,Hk.out⟩
  (λx a' W=>∃ Bx,A.heap.size<=Bx/\W.heap[Bx]?=some (.cells #[.string x.pod,.string x.cont,.int .u64 x.cpus,.slice x.da x.dn x.dc] 111 (0,0))/\a'={ tmps:=#[Value.slice none 0 0,Value.func (Fn.func 122) #[] #[Value.pointer (some { block:=Bm,off:=0 })],Value.pointer (some { block:=w.heap.size,off:=0 }),undef,Value.slice none 0 0,.pointer (some ⟨Bx,0,none⟩),Value.func (Fn.func 122) #[] #[Value.pointer (some { block:=Bm,off:=0 })],.agg #[.string x.pod,.string x.cont,.int .u64 x.cpus,.slice x.da x.dn x.dc],undef,undef,undef,undef,undef],defers:=[] })
  (λx a'=>Own.from (λu W W' row hs hg hr=>by
   obtain ⟨Bx,h1,h2,h3⟩:=hs;refine ⟨Bx,h1,(hg.block Bx (gS h2).1 λe=>?_).trans h2,h3⟩;obtain ⟨o,ho,hc⟩:=hr Bx e.symm;rw [h2] at ho;cases ho;cases hc) _) ?assign ?body ?done ?stop
 case assign=>
  rintro l pre x W K ⟨⟨v,Hc,Ha,_⟩,hB⟩ hK;have HK:=qI hK;clear hK;unfold encR
  gi_wp2_with fail
  exact HK.out _ _ ((KeepsOthers.alloc _ _).from _) (KeepsWalks.alloc _ _) ⟨⟨v,Hc.alloc _,Ha.alloc _,trivial⟩,hB.alloc hB.size _⟩ ⟨W.heap.size,by have:=Hc.lt;have:=hB.size;omega,World.alloc_heap_new W _,rfl⟩
 case body=>
  rintro l pre x a' W Hu ⟨r,hr⟩ ⟨⟨v,Hc,Ha,_⟩,hB⟩ ⟨Bx,Hy,Hh,rfl⟩ Hz;have c0:W.cell? ⟨Bx,0,none⟩=some (.string x.pod):=by simp [World.cell?,Hh]
  have c1:W.cell? ⟨Bx,1,none⟩=some (.string x.cont):=by simp [World.cell?,Hh]
  have c2:W.cell? ⟨Bx,2,none⟩=some (.int .u64 x.cpus):=by simp [World.cell?,Hh]
  have c3:W.cell? ⟨Bx,3,none⟩=some (.slice x.da x.dn x.dc):=by simp [World.cell?,Hh]
  have HA:=Hc.cell;have HN:=qI (rL W x 111);have Hb:=qI Ha;have Hm:=qI Hc;have HB:=qI hB;have Hv:pre.length<=1000:=by omega
  clear Ha Hc hB Hh hr
  gi_wp2_with (gi_at_builtin;refine wpListIn_append_own _ rfl _ _ 105 rfl w.heap.size 111 i0 (.agg #[.string ByteArray.empty,.string ByteArray.empty,.int .u64 0,.slice none 0 0]) 4 64 underlying105 hi Hp Hn Ho rfl (by decide) _ _ _ rfl (Hb.out.alloc _) ⟨W.heap.size,0,none⟩ 1 1 (RV.cells x) rfl rfl HN.out (by intro u hu;simp [RV.cells] at hu;rcases hu with rfl|rfl|rfl|rfl <;> rfl) (by unfold maxLen;omega) (by omega) (by have:=HB.out.size;simp;omega) ?_;intro v' w1 Hf Hg _;obtain ⟨g',cap',rfl⟩:=ownsRow_succ Hf;obtain ⟨Hl,Hs,Hq,Hi,Hr⟩:=Hm.out.appended (by decide) Hb.out HB.out.size (lR) Hf Hg;have Hx:=Hl.cell;have HC:=Hl.frozen)
  exact ⟨Hi.from _,⟨Hi.size,λk o hk ho=>Hi.same k o hk (Obj.not_cells_of_walk ho)⟩,⟨_,Hs,bP.push Hq⟩,HB.out.trans Hr⟩
 case done=>
  rintro D ys W hD hp ⟨⟨v,Hc,Ha,_⟩,hB⟩ hK;have hc:=Hc.cell;have Hb:=qI Ha;have HB:=qI hB;clear Ha Hc hB
  gi_wp2_with fail
  refine ⟨by simp,.inl ⟨_,_,rfl,run_takeDeferred hK,?_⟩⟩;refine ⟨_,results_tmp rfl _ _ _,?_⟩;exact ⟨⟨v,rfl,ys,hp,ownsRow_putObj Hb.out _ hK rfl⟩,HB.out.trans (belowK_b (w:=w) (lR) _ D _ _ (by omega) hK rfl rfl)⟩
 case stop=>exact λ_ _ _ _ _ _ h _=>h.elim
theorem bP.slice {base:Nat} {w:World} {v:Value} {ys:List RV} (h:bP base w v ys):∃ a c,v=.slice a ys.length c/\ys.length<=c:=by
 rcases h.2 with ⟨hv,hn⟩|⟨g,cap,cur,hv,_,_,hc1,_⟩
 ·exact ⟨none,0,by rw [hv,hn],by omega⟩
 ·exact ⟨_,cap,hv,hc1⟩
theorem Jc (Bm b nn:Nat) (xs:List RV) (w:World) (hm:w.cell? ⟨Bm,0,none⟩=some (.map (some b))) (hown:aZ w b nn xs) (hl:xs.length<=1000) :
  Calls prog 120 #[.func (.func 122) #[] #[.pointer (some ⟨Bm,0,none⟩)]] w λe w'=>(∃ v ys,e=.returned v/\ys.Perm xs/\bP w.heap.size w' v ys)/\Below w.heap.size w w':=by
 have HA:=qI (Jb Bm b nn xs w hm hown hl);clear hm hown
 go_enter func120,ntmps120
 go_wp2_with fail
 refine HA.out.mono ?_;rintro e w1 ⟨⟨v,ys,rfl,hp,hr⟩,hb⟩;have HR:=qI hr;have HP:=qI hp;have HB:=qI hb;obtain ⟨a,c,rfl,_⟩:=hr.slice;clear hr hp hb
 go_wp2
 go_ret;exact ⟨⟨_,ys,rfl,HP.out,HR.out⟩,HB.out⟩
end
