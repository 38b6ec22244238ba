import Derived.Test.YtbmmnflgnmjboaaGreatDoorK9
import Derived.Sort.Statements
import Derived.WideShapes
import Derived.WideAt
import Derived.Shelf.SlicesG.Cmp
import Derived.Ground.SlgcProg
import Derived.Maps.OwnSet
import Derived.StringKeys
import Derived.Laws.EntriesVeiled
set_option maxRecDepth 100000
set_option maxHeartbeats 16000000
namespace Go.Proofs.YtbmmnflgnmjboaaGreatDoor
section
namespace Qos
open Go.Sort
def be (us:List Nd) (nm:ByteArray):Int:=((us.find? λu=>decide (u.kind=nm)).map Nd.many).getD 0
structure Key where
 ab:Int
 pr:Int
 nm:ByteArray
instance:Inhabited Key:=⟨⟨0,0,ByteArray.empty⟩⟩
def cf (x:Int):Int:=if 0<x then 0 else 1
def ltS (a b:ByteArray):Bool:=Op.bytesLess a.toList b.toList
def aQ (a b:ByteArray):Int:=if ltS a b=true then -1 else if ltS b a=true then 1 else 0
def orI (a b:Int):Int:=if a=0 then b else a
def iX (a b:Key):Int:=orI (Lib.compareInt (cf a.ab) (cf b.ab)) (orI (Lib.compareInt a.pr b.pr) (orI (Lib.compareInt b.ab a.ab) (aQ a.nm b.nm)))
def gU (a b:Key):Bool:=decide (iX a b<0)
def key (us:List Nd) (p:Pd):Key:=⟨be us p.nm - aV p.cs p.cs.length,p.pr,p.nm⟩
theorem mO:∀ a b:List UInt8,Op.bytesLess a b=bytesBefore a b
 | [],[]=>rfl
 | _ :: _,[]=>rfl
 | [],_ :: _=>rfl
 | a :: x,b :: y=>by rw [Op.bytesLess,bytesBefore,mO x y]
def one (b:Bool):Int:=if b=true then 1 else 0
theorem fu (b:Bool):one b=0\/one b=1:=by cases b <;> simp [one]
theorem mP (a:ByteArray):one (ltS a a)=0:=by simp [one,ltS,mO,WideAt.bytes_irrefl]
theorem ln (a b c:ByteArray):one (ltS a b)=1->one (ltS b c)=1->one (ltS a c)=1:=by
 simp only [one,ltS,mO];intro h1 h2;have h1':bytesBefore a.toList b.toList=true:=by
  rcases Bool.eq_false_or_eq_true (bytesBefore a.toList b.toList) with h|h
  ·exact h
  ·rw [h] at h1;cases h1
 have h2':bytesBefore b.toList c.toList=true:=by
  rcases Bool.eq_false_or_eq_true (bytesBefore b.toList c.toList) with h|h
  ·exact h
  ·rw [h] at h2;cases h2
 rw [WideShapes.bytes_trans _ _ _ h1' h2'];rfl
theorem Gj {a b:ByteArray} (h:a.toList=b.toList):a=b:=by
 rw [Qs,Qs] at h;exact ByteArray.ext (Array.toList_inj.mp h)
theorem pG (a b:ByteArray):one (ltS a b)=0->one (ltS b a)=0->a=b:=by
 simp only [one,ltS,mO];intro h1 h2
 by_cases e:a.toList=b.toList
 ·exact Gj e
 ·rcases WideAt.bytes_total _ _ e with h|h
  ·rw [h] at h1;cases h1
  ·rw [h] at h2;cases h2
theorem lq (a b:ByteArray):one (ltS a b)=1->one (ltS b a)=0:=by
 intro h
 rcases fu (ltS b a) with g|g
 ·exact g
 ·have:=ln a b a h g
  rw [mP] at this;cases this
theorem iu (a b c:ByteArray):one (ltS a b)=0->one (ltS b c)=0->one (ltS a c)=0:=by
 intro h1 h2
 rcases fu (ltS a c) with g|g
 ·exact g
 rcases fu (ltS b a) with k|k
 ·rw [pG a b h1 k] at g;omega
 ·have:=ln b a c k g;omega
theorem uU (a b:Key):gU a b=true↔(cf a.ab<cf b.ab\/(cf a.ab=cf b.ab/\(a.pr<b.pr\/(a.pr=b.pr/\(b.ab<a.ab\/(a.ab=b.ab/\one (ltS a.nm b.nm)=1)))))):=by
 unfold gU iX orI Lib.compareInt aQ;have hs:=lq a.nm b.nm;generalize cf a.ab=ta;generalize cf b.ab=tb;generalize ltS a.nm b.nm=s1 at *;generalize ltS b.nm a.nm=s2 at *;rw [decide_eq_true_iff];cases s1 <;> cases s2 <;> simp [one] at*<;> (repeat' split) <;> omega
theorem uV (a b:Key):gU a b=false↔¬ (cf a.ab<cf b.ab\/(cf a.ab=cf b.ab/\(a.pr<b.pr\/(a.pr=b.pr/\(b.ab<a.ab\/(a.ab=b.ab/\one (ltS a.nm b.nm)=1)))))):=by
 rw [<- uU];simp
theorem pH:SWO gU where
 irrefl a:=by
  rw [uV]
  have:=mP a.nm
  omega
 trans a b c h1 h2:=by
  rw [uU] at *
  have:=ln a.nm b.nm c.nm
  omega
 ntrans a b c h1 h2:=by
  rw [uV] at *;have h3:=iu a.nm b.nm c.nm;have h4:=fu (ltS a.nm b.nm);have h5:=fu (ltS b.nm c.nm);have h6:=fu (ltS a.nm c.nm);omega
def mQ (l:List Key):Prop:=l.Pairwise λa b=>gU b a=false
def tail (us:List Nd) (l:List Pd) (i:Nat):Int:=((l.drop i).map λp=>be us p.nm).sum
theorem Gk (us:List Nd) (l:List Pd):tail us l l.length=0:=by simp [tail]
theorem Gl (us:List Nd) {l:List Pd} {i:Nat} (h:i<l.length):tail us l i=be us (pd l i).nm+tail us l (i+1):=by
 unfold tail;rw [List.drop_eq_getElem_cons h,Qq,List.sum_cons,pd,List.getD_eq_getElem?_getD,Qf h];rfl
structure dZ (us:List Nd) (l:List Pd) (most:Int) (i g:Nat):Prop where
 lo:i<=g
 hi:g<=l.length
 no:∀ j,i<=j->j<g->most<tail us l j
 yes:g<l.length->tail us l g<=most
theorem dZ.start (us:List Nd) (l:List Pd) (most:Int):dZ us l most l.length l.length:=⟨lR,lR,λj h1 h2=>by omega,λh=>by omega⟩
theorem dZ.stay {us:List Nd} {l:List Pd} {most:Int} {i g:Nat} (h:dZ us l most (i+1) g) (hm:most<tail us l i):dZ us l most i g:=
 ⟨by have:=h.lo;omega,h.hi,λj h1 h2=>by
  by_cases e:j=i
  ·subst e;exact hm
  ·exact h.no j (by omega) h2,h.yes⟩
theorem dZ.here {us:List Nd} {l:List Pd} {most:Int} {i:Nat} (hi:i<l.length) (hm:tail us l i<=most):dZ us l most i i:=
 ⟨lR,by omega,λj h1 h2=>by omega,λ_=>hm⟩
end Qos
end
end Go.Proofs.YtbmmnflgnmjboaaGreatDoor
namespace Go.Proofs
open Go.Shelf
shelf_lay_g SlLaysC2.n5 Slgc 5 at Tryz 148 as Tryz.cmpL2
end Go.Proofs
namespace Go.Proofs.YtbmmnflgnmjboaaGreatDoor
section
open RowKit
open Qos (Nd Pd cf ltS aQ orI)
theorem uW (x:Int) (w:World):Calls Tryz.prog 149 #[.int .i64 x] w λe w'=>e=.returned (.int .i64 (cf x))/\w'=w:=by
 have HT:Hid (cf x=if 0<x then 0 else 1):=rfl;generalize cf x=T at *
 by_cases h:0<x
 ·have HE:=qI (HT.out.trans (if_pos h));clear HT
  go_enter Tryz.func149,Tryz.ntmps149
  go_wp2
  go_ret;exact ⟨by rw [HE.out];rfl,rfl⟩
 ·have HE:=qI (HT.out.trans (if_neg h));clear HT
  go_enter Tryz.func149,Tryz.ntmps149
  go_wp2
  go_ret;exact ⟨by rw [HE.out];rfl,rfl⟩
theorem lr (x y:Int) (w:World):Calls Tryz.prog 148 #[.int .i64 x,.int .i64 y] w λe w'=>e=.returned (.int .i64 (Lib.compareInt x y))/\w'=w:=by
 have h:=AnyG.cmp_Compare_int Tryz.cmpL2 x y w
 change Calls Tryz.prog 148 _ _ _ at h
 exact h
theorem ka (x:ByteArray) (w:World):Calls Tryz.prog 123 #[.string x] w λe w'=>e=.returned (.bool false)/\w'=w:=by
 go_enter Tryz.func123,Tryz.ntmps123
 go_wp2
 go_ret;exact ⟨by simp,rfl⟩
theorem Gm (x y:ByteArray) (w:World):Calls Tryz.prog 77 #[.string x,.string y] w λe w'=>e=.returned (.int .i64 (aQ x y))/\w'=w:=by
 have HT:Hid (aQ x y=if ltS x y=true then -1 else if ltS y x=true then 1 else 0):=rfl;have HTOT:=qI (Qos.pG x y);have HAS:=qI (Qos.lq x y);generalize aQ x y=T at *
 rcases two (ltS x y) with h1|h1
 ·have HE:=qI (HT.out.trans (if_pos h1));have h1':Op.bytesLess x.toList y.toList=true:=h1;clear HT h1 HTOT HAS
  go_enter Tryz.func77,Tryz.ntmps77
  go_wp2_with fail
  refine (ka _ _).mono ?_;rintro e w1 ⟨rfl,rfl⟩
  go_wp2_with fail
  refine (ka _ _).mono ?_;rintro e w1 ⟨rfl,rfl⟩
  go_wp2
  go_ret;exact ⟨by rw [HE.out];rfl,rfl⟩
 ·have HT1:=qI (HT.out.trans (if_neg (by rw [h1];decide)));have h1':Op.bytesLess x.toList y.toList=false:=h1
  rcases two (ltS y x) with h2|h2
  ·have HE:=qI (HT1.out.trans (if_pos h2));have hne:(x.toList == y.toList)=false:=by
    rw [kO];refine Q7 λe=>?_
    subst e;rw [h1] at h2;cases h2
   clear HT HT1 h1 h2 HTOT HAS
   go_enter Tryz.func77,Tryz.ntmps77
   go_wp2_with fail
   refine (ka _ _).mono ?_;rintro e w1 ⟨rfl,rfl⟩
   go_wp2_with fail
   refine (ka _ _).mono ?_;rintro e w1 ⟨rfl,rfl⟩
   go_wp2
   go_ret;exact ⟨by rw [HE.out];rfl,rfl⟩
  ·have HE:=qI (HT1.out.trans (if_neg (by rw [h2];decide)));have hxy:x=y:=HTOT.out (by rw [h1];rfl) (by rw [h2];rfl);subst hxy;clear HT HT1 h1 h2 HTOT HAS
   go_enter Tryz.func77,Tryz.ntmps77
   go_wp2_with fail
   refine (ka _ _).mono ?_;rintro e w1 ⟨rfl,rfl⟩
   go_wp2_with fail
   refine (ka _ _).mono ?_;rintro e w1 ⟨rfl,rfl⟩
   go_wp2
   go_ret;exact ⟨by rw [HE.out];rfl,rfl⟩
def or4 (a b c d:Int):Int:=orI a (orI b (orI c d))
theorem Gn (a b c d:Int) (g n:Nat) (w:World) (h0:w.cell? ⟨g,0,none⟩=some (.int .i64 a)) (h1:w.cell? ⟨g,1,none⟩=some (.int .i64 b)) (h2:w.cell? ⟨g,2,none⟩=some (.int .i64 c)) (h3:w.cell? ⟨g,3,none⟩=some (.int .i64 d)) :
  Calls Tryz.prog 76 #[.slice (some ⟨g,0,none⟩) 4 n] w λe w'=>e=.returned (.int .i64 (or4 a b c d))/\w'=w:=by
 have HO:Hid (∀ k:Nat,k<4->∃ v:Int,w.cell? ⟨g,k,none⟩=some (.int .i64 v)/\(v=if k=0 then a else if k=1 then b else if k=2 then c else d)):=by
  intro k hk
  have:k=0\/k=1\/k=2\/k=3:=by omega
  rcases this with rfl|rfl|rfl|rfl
  ·exact ⟨a,h0,rfl⟩
  ·exact ⟨b,h1,rfl⟩
  ·exact ⟨c,h2,rfl⟩
  ·exact ⟨d,h3,rfl⟩
 clear h0 h1 h2 h3
 go_enter Tryz.func76,Tryz.ntmps76
 go_wp2_with fail
 go_loop [8] (λi=>∃ k:Nat,k<=4/\i=.int .i64 k/\Hid ((0<k->a=0)/\(1<k->b=0)/\(2<k->c=0)/\(3<k->d=0))) (λi=>4 - (intOf i).toNat)
 case atStart=>exact ⟨0,by omega,rfl,⟨λh=>by omega,λh=>by omega,λh=>by omega,λh=>by omega⟩⟩
 case round=>
  obtain ⟨k,hk,rfl,HZ⟩:=hrel
  by_cases hlt:k<4
  ·obtain ⟨v,hc,hv⟩:=HO.out k hlt;have HV:=qI hv;clear hv
   by_cases h0:v=0
   ·subst h0;have HZ2:Hid ((0<k+1->a=0)/\(1<k+1->b=0)/\(2<k+1->c=0)/\(3<k+1->d=0)):=by
     obtain ⟨z0,z1,z2,z3⟩:=HZ.out;have hv:=HV.out
     have:k=0\/k=1\/k=2\/k=3:=by omega
     rcases this with rfl|rfl|rfl|rfl
     ·simp at hv;exact ⟨λ_=>hv.symm,λh=>by omega,λh=>by omega,λh=>by omega⟩
     ·simp at hv;exact ⟨λ_=>z0 (by omega),λ_=>hv.symm,λh=>by omega,λh=>by omega⟩
     ·simp at hv;exact ⟨λ_=>z0 (by omega),λ_=>z1 (by omega),λ_=>hv.symm,λh=>by omega⟩
     ·simp at hv;exact ⟨λ_=>z0 (by omega),λ_=>z1 (by omega),λ_=>z2 (by omega),λ_=>hv.symm⟩
    go_wp2_with fail
    go_round
    case rel=>exact ⟨k+1,by omega,by go_num,HZ2⟩
    case measure=>simp [intOf];omega
   ·have HE:Hid (or4 a b c d=v):=by
     obtain ⟨z0,z1,z2,z3⟩:=HZ.out;have hv:=HV.out
     have:k=0\/k=1\/k=2\/k=3:=by omega
     unfold Hid or4 orI
     rcases this with rfl|rfl|rfl|rfl
     ·simp at hv;subst hv;rw [if_neg h0]
     ·simp at hv;subst hv;rw [if_pos (z0 (by omega)),if_neg h0]
     ·simp at hv;subst hv;rw [if_pos (z0 (by omega)),if_pos (z1 (by omega)),if_neg h0]
     ·simp at hv;subst hv;rw [if_pos (z0 (by omega)),if_pos (z1 (by omega)),if_pos (z2 (by omega))]
    have hb:(v != 0)=true:=by simp [h0]
    go_wp2
    go_ret;exact ⟨by rw [HE.out];rfl,rfl⟩
  ·have hke:k=4:=by omega
   subst hke;have HE:Hid (or4 a b c d=0):=by
    obtain ⟨z0,z1,z2,z3⟩:=HZ.out;unfold Hid or4 orI;rw [if_pos (z0 (by omega)),if_pos (z1 (by omega)),if_pos (z2 (by omega)),z3 (by omega)]
   go_wp2
   go_ret;exact ⟨by rw [HE.out];rfl,rfl⟩
end
section
namespace Qos
def mR (us:List Nd) (ps:List Pd) (j:Nat):Key:=key us (pd ps j)
structure Sel (us:List Nd) (ps:List Pd) (D:Nat->Bool) (out:List Nat):Prop where
 nodup:out.Nodup
 mem:∀ j,j∈out↔(j<ps.length/\D j=true)
 srt:out.Pairwise λa b=>gU (mR us ps b) (mR us ps a)=false
 ahead:∀ a,a∈out->∀ j,j<ps.length->D j=false->gU (mR us ps j) (mR us ps a)=false
theorem Gq (ps:List Pd):(List.range ps.length).map (λj=>pd ps j)=ps:=by
 apply List.ext_getElem
 ·simp
 ·intro i h1 h2
  simp [pd,h2]
end Qos
end
section
open RowKit
open Qos (Nd Ct Pd nd0 ct0 pd0 nd ct pd gi gj dT quiet sure aU aV bT)
theorem Gr (p:Pd) (cv:Value) (w:World) (h:aE w cv p.cs) (hmi:bT p.cs):Calls Tryz.prog 37 #[bQ p cv] w λe w'=>e=.returned (.agg #[.int .i64 (aU p.cs p.cs.length),.int .i64 (aV p.cs p.cs.length)])/\Below w.heap.size w w'/\w'.drawn=w.drawn:=by
 obtain ⟨ao,c,rfl,hm,hr⟩:=h;have HR:=qI hr;clear hr hm;unfold bQ;have HB0:=qI ((((Q0 w.heap.size w).alloc (lR) (.cells #[.string p.nm,.int .i64 p.pr,.slice ao p.cs.length c] 47)).alloc (by simp) (.cells #[.int .i64 0,.int .i64 0] 60)).alloc (by simp;omega) (.cells #[.int .i64 0,.int .i64 0] 60));have HT0:Hid (br (((w.alloc (.cells #[.string p.nm,.int .i64 p.pr,.slice ao p.cs.length c] 47)).alloc (.cells #[.int .i64 0,.int .i64 0] 60)).alloc (.cells #[.int .i64 0,.int .i64 0] 60)) (w.heap.size+1) 0 0/\br (((w.alloc (.cells #[.string p.nm,.int .i64 p.pr,.slice ao p.cs.length c] 47)).alloc (.cells #[.int .i64 0,.int .i64 0] 60)).alloc (.cells #[.int .i64 0,.int .i64 0] 60)) (w.heap.size+1+1) 0 0):=by
  constructor
  ·have:=(br.made (w.alloc (.cells #[.string p.nm,.int .i64 p.pr,.slice ao p.cs.length c] 47)) 60 0 0).alloc (.cells #[.int .i64 0,.int .i64 0] 60)
   simpa using this
  ·have:=br.made ((w.alloc (.cells #[.string p.nm,.int .i64 p.pr,.slice ao p.cs.length c] 47)).alloc (.cells #[.int .i64 0,.int .i64 0] 60)) 60 0 0
   simpa using this
 generalize p.cs=cs at *;have HMI:=qI hmi;have hlen:=hmi.1;clear hmi
 go_enter Tryz.func37,Tryz.ntmps37
 go_wp2
 go_loopw [9] (λi wr=>∃ k:Nat,k<=cs.length/\i=.int .i64 k/\Below w.heap.size w wr/\br wr (w.heap.size+1) 0 0/\br wr (w.heap.size+1+1) (aU cs k) (aV cs k)/\Hid (wr.drawn=w.drawn)) (λi _=>cs.length - (intOf i).toNat)
 case atStart=>exact ⟨0,by omega,rfl,HB0.out,HT0.out.1,HT0.out.2,rfl⟩
 case round=>
  obtain ⟨k,hk,rfl,hB,hT1,hT2,HDR⟩:=hrel
  by_cases hlt:k<cs.length
  ·obtain ⟨b,o,dv,rfl,hin⟩:=HR.out (by omega);have hin:=hin.below hB;obtain ⟨c0,c1,c2,c3,c4,c5⟩:=hin.at hlt;have hsl:∃ a n e,dv k=.slice a n e:=by
    obtain ⟨a,e,he,_⟩:=(hin.2 k hlt).2;exact ⟨a,_,e,he⟩
   have hB1:=qI (hB.alloc hB.size (.cells #[.string (ct cs k).nm,.int .i64 (ct cs k).am,.int .i64 (ct cs k).ab,.int .i64 (ct cs k).cm,.int .i64 (ct cs k).cb,dv k] 63));have hU1:=hT1.alloc (.cells #[.string (ct cs k).nm,.int .i64 (ct cs k).am,.int .i64 (ct cs k).ab,.int .i64 (ct cs k).cm,.int .i64 (ct cs k).cb,dv k] 63);have hU2:=hT2.alloc (.cells #[.string (ct cs k).nm,.int .i64 (ct cs k).am,.int .i64 (ct cs k).ab,.int .i64 (ct cs k).cm,.int .i64 (ct cs k).cb,dv k] 63);have HBX:=gJ.made wr (ct cs k) (dv k);have HDA:Hid ((wr.alloc (.cells #[.string (ct cs k).nm,.int .i64 (ct cs k).am,.int .i64 (ct cs k).ab,.int .i64 (ct cs k).cm,.int .i64 (ct cs k).cb,dv k] 63)).drawn=w.drawn):=HDR.out;have HS1:Hid (aU cs (k+1)=aU cs k+(ct cs k).am):=rfl;have HS2:Hid (aV cs (k+1)=aV cs k+(ct cs k).ab):=rfl;obtain ⟨m1,m2,_⟩:=HMI.out.2 k hlt;obtain ⟨s1,s2⟩:=Qos.mw HMI.out hk;obtain ⟨s3,s4⟩:=Qos.kM HMI.out hk;have hlt2:=hT2.lt;clear hin hB HB0 HT0;generalize aU cs k=M at *;generalize aV cs k=N at *;generalize ct cs k=x at *;generalize dv k=d at *;obtain ⟨da,dn,dc,rfl⟩:=hsl;generalize hW1:wr.alloc (.cells #[.string x.nm,.int .i64 x.am,.int .i64 x.ab,.int .i64 x.cm,.int .i64 x.cb,.slice da dn dc] 63)=W1 at hU1 hU2 hB1 HBX HDA;have e1:wrap64 (M+x.am)=M+x.am:=by unfold wrap64;omega
   have e2:wrap64 (N+x.ab)=N+x.ab:=by unfold wrap64;omega
   have HG1:=qI (bL W1 ⟨w.heap.size+1+1,0,none⟩ (.int .i64 (M+x.am)));have HV1:=qI (hU1.kept HG1.out (by simp));have HV2:=qI (hU2.set0 (M+x.am));have d2:=(HG1.out.cell_far ⟨wr.heap.size,2,none⟩ HBX.1 (by simp;omega)).trans HBX.2.2.2.1;obtain ⟨⟨f1,f2⟩,⟨f3,f4⟩⟩:=hU2;obtain ⟨⟨g1,g2⟩,⟨g3,g4⟩⟩:=HV2.out;obtain ⟨_,_,b1,_⟩:=HBX
   go_wp2_with fail
   have hz:=hB1.out.size;have HB2:=iT hB1.out (w.heap.size+1+1) 0 (.int .i64 (M+x.am)) (by omega) hz;refine ⟨⟨k+1,by omega,by go_num,iT HB2 (w.heap.size+1+1) 1 (.int .i64 (N+x.ab)) (by omega) (by simpa using hz),HV1.out.kept (bL _ ⟨w.heap.size+1+1,1,none⟩ (.int .i64 (N+x.ab))) (by simp),?_,HDA.out⟩,by simp [intOf];omega⟩;rw [HS1.out,HS2.out];exact HV2.out.set1 _
  ·have hke:k=cs.length:=by omega
   subst hke;have hz:=hB.size;have HB1:=qI (iT (iT hB (w.heap.size+1) 0 (.int .i64 (aU cs cs.length)) (by omega) hz) (w.heap.size+1) 1 (.int .i64 (aV cs cs.length)) (by omega) (by simpa using hz));have HT3:=qI ((hT1.set0 (aU cs cs.length)).set1 (aV cs cs.length));obtain ⟨⟨f1,f2⟩,⟨f3,f4⟩⟩:=hT1;obtain ⟨⟨g1,g2⟩,⟨g3,g4⟩⟩:=hT2;clear hB
   go_wp2_with fail
   (try simp only [Exit.inBlock,Exit.then]);refine bodyPost_ret (v:=.agg #[.int .i64 (aU cs cs.length),.int .i64 (aV cs cs.length)]) ?_ rfl ⟨rfl,HB1.out,HDR.out⟩;obtain ⟨⟨g1,g2⟩,⟨g3,g4⟩⟩:=HT3.out;rw [my rfl];clear f1 f2 f3 f4;go_simp
end
section
namespace Qos
def oY (us:List Nd) (ps:List Pd) (n:Nat):Int:=sumTo (λk=>be us (pd ps k).nm) n
def eJ (us:List Nd):Prop:=∀ k,k<us.length->-1125899906842624<=(nd us k).many/\(nd us k).many<=1125899906842624
theorem pI {us:List Nd} (h:eJ us) (nm:ByteArray):-1125899906842624<=be us nm/\be us nm<=1125899906842624:=by
 unfold be;cases e:us.find? λu=>decide (u.kind=nm) with
 | none=>simp
 | some x=>
  have hm:=List.mem_of_find?_eq_some e;obtain ⟨k,hk,rfl⟩:=List.getElem_of_mem hm
  have:=h k hk
  simp [nd,hk] at this
  simp
  exact this
theorem Gs {l:List Int} {B:Int} (h:∀ x∈l,-B<=x/\x<=B):-(l.length*B)<=l.sum/\l.sum<=l.length*B:=by
 induction l with
 | nil=>simp
 | cons x l ih=>
  have h1:=h x (by simp);have h2:=ih (λy hy=>h y (by simp [hy]));rw [List.sum_cons,Qg];have e:((l.length+1:Nat):Int)*B=l.length*B+B:=by rw [Int.natCast_add,Int.add_mul];simp
  omega
end Qos
end
section
namespace Qos
def jA (us:List Nd) (qs:List Pd) (most:Int) (st:Int × Nat) (x:Nat):Int × Nat:=
 (st.1+be us (pd qs x).nm,if st.1+be us (pd qs x).nm<=most then x else st.2)
def ed (us:List Nd) (qs:List Pd) (most:Int) (pre:List Nat):Int × Nat:=pre.foldl (jA us qs most) (0,qs.length)
theorem pJ (us:List Nd) (qs:List Pd) (most:Int) (pre:List Nat) (x:Nat):ed us qs most (pre++[x])=jA us qs most (ed us qs most pre) x:=by
 unfold ed;rw [List.foldl_append];rfl
theorem Gt (us:List Nd) (qs:List Pd) (most:Int) (pre:List Nat):(ed us qs most pre).1=(pre.map λx=>be us (pd qs x).nm).sum:=by
 have key:∀ (pre:List Nat) (st:Int × Nat),(pre.foldl (jA us qs most) st).1=st.1+(pre.map λx=>be us (pd qs x).nm).sum:=by
  intro pre
  induction pre with
  | nil=>intro st;simp
  | cons x l ih=>intro st;rw [List.foldl_cons,ih,Qq,List.sum_cons];unfold jA;simp only;omega
 unfold ed;rw [key];simp
theorem uX {us:List Nd} (h:eJ us) (qs:List Pd) (most:Int) {pre:List Nat} (hl:pre.length<=16):-18014398509481984<=(ed us qs most pre).1/\(ed us qs most pre).1<=18014398509481984:=by
 rw [Gt]
 have:=Gs (l:=pre.map λx=>be us (pd qs x).nm) (B:=1125899906842624) (λx hx=>by
  obtain ⟨p,_,rfl⟩:=Qk.1 hx;exact pI h _)
 rw [Q9] at this;omega
def ez (n k:Nat):List Nat:=(List.range k).map λj=>n - 1 - j
theorem pK (n k:Nat):ez n (k+1)=ez n k++[n - 1 - k]:=by unfold ez;rw [List.range_succ,Qj];rfl
theorem pL (n k:Nat):(ez n k).length=k:=by simp [ez]
theorem uY (us:List Nd) (qs:List Pd) (most:Int):∀ k,k<=qs.length->(ed us qs most (ez qs.length k)).1=tail us qs (qs.length - k)/\dZ us qs most (qs.length - k) (ed us qs most (ez qs.length k)).2
 | 0,_=>by
  show (0:Int)=_/\dZ us qs most _ qs.length
  rw [Nat.sub_zero,Gk];exact ⟨rfl,dZ.start us qs most⟩
 | k+1,hk=>by
  obtain ⟨h1,h2⟩:=uY us qs most k (by omega);rw [pK,pJ];have e1:qs.length - 1 - k=qs.length - (k+1):=by omega
  have e2:qs.length - k=qs.length - (k+1)+1:=by omega
  have hlt:qs.length - (k+1)<qs.length:=by omega
  have e3:=Gl us (l:=qs) (i:=qs.length - (k+1)) hlt;rw [e2] at h1 h2;rw [e1];generalize qs.length - (k+1)=i at *;unfold jA
  simp only
  rw [h1];have e4:tail us qs (i+1)+be us (pd qs i).nm=tail us qs i:=by rw [e3];omega
  rw [e4];refine ⟨rfl,?_⟩
  by_cases hm:tail us qs i<=most
  ·rw [if_pos hm];exact dZ.here hlt hm
  ·rw [if_neg hm];exact h2.stay (by omega)
theorem uZ (us:List Nd) (qs:List Pd) (most:Int):dZ us qs most 0 (ed us qs most (ez qs.length qs.length)).2:=by
 have:=(uY us qs most qs.length (lR)).2
 rwa [Nat.sub_self] at this
theorem Tot.high {h l v:Int} (t:Tot h l v) (hv:-18014398509481984<=v) (hv2:v<=18014398509481984):-17179869184<=h/\h<=17179869184:=by
 obtain ⟨h1,h2,h3⟩:=t;omega
end Qos
end
section
open RowKit Go.ChangeMaps
open Go.Maps (Keyed)
open Qos (Nd nd be eJ)
theorem gV:Keyed Tryz.prog 9:=Go.Maps.string_keyed Tryz.underlying9
theorem ls (w:World):(zeroValue 3).run Tryz.prog w=.ok (.int .i64 0) w:=by kernel_rfl
def cU (w:World) (B n:Nat) (us:List Nd):Prop:=
 ∃ D:DataW Unit,w.ownsMap Tryz.prog 9 (plainElem Tryz.prog 3) B n D/\∀ s:ByteArray,D.atKey (.string s.data.toList) (.lit (.int .i64 0))=.lit (.int .i64 (be us s))/\Go.Maps.has D (.string s.data.toList)=us.any λu=>decide (u.kind=s)
theorem cU.alloc {w:World} {B n:Nat} {us:List Nd} (h:cU w B n us) (o:Obj):cU (w.alloc o) B n us:=by
 obtain ⟨D,ho,hk⟩:=h;exact ⟨D,ho.alloc o,hk⟩
theorem cU.below {w w':World} {B K n:Nat} {us:List Nd} (h:cU w B n us) (hb:Below K w w') (hK:B<K):cU w' B n us:=by
 obtain ⟨D,⟨es,clock,hh,r⟩,hk⟩:=h;exact ⟨D,⟨es,clock,(hb.block B hK).trans hh,r⟩,hk⟩
theorem cU.lt {w:World} {B n:Nat} {us:List Nd} (h:cU w B n us):B<w.heap.size:=by
 obtain ⟨D,ho,_⟩:=h;exact ho.lt
theorem cU.made (w:World):cU (w.alloc (.map #[] 0)) w.heap.size 0 []:=
 ⟨.map [],World.ownsMap_made w _ _ _,λ_=>⟨rfl,rfl⟩⟩
theorem vd {us:List Nd} {k:Nat} (h:k<us.length):us.take (k+1)=us.take k++[nd us k]:=by
 rw [List.take_add_one,nd,List.getD_eq_getElem?_getD,Qf h];rfl
theorem ve (l:List Nd) (u:Nd) (s:ByteArray):be (l++[u]) s=if (l.any λv=>decide (v.kind=s))=true then be l s else if u.kind=s then u.many else 0:=by
 unfold be;rw [List.find?_append];cases e:l.find? (λv=>decide (v.kind=s)) with
 | none=>
  have ha:(l.any λv=>decide (v.kind=s))=false:=by
   rw [List.any_eq_false];intro x hx;exact List.find?_eq_none.1 e x hx
  rw [if_neg (by rw [ha];decide)]
  by_cases h:u.kind=s
  ·simp [h]
  ·simp [h]
 | some x=>
  have ha:(l.any λv=>decide (v.kind=s))=true:=by
   rw [List.any_eq_true];exact ⟨x,List.mem_of_find?_eq_some e,List.find?_some (p:=λv:Nd=>decide (v.kind=s)) e⟩
  rw [if_pos ha];rfl
theorem pM {a b:ByteArray} (h:a.data.toList=b.data.toList):a=b:=ByteArray.ext (Array.toList_inj.mp h)
theorem Gu {l:List Nd} {u:Nd} (h:(l.any λv=>decide (v.kind=u.kind))=true) (s:ByteArray):be (l++[u]) s=be l s/\((l++[u]).any λv=>decide (v.kind=s))=l.any λv=>decide (v.kind=s):=by
 rw [ve,List.any_append]
 by_cases e:u.kind=s
 ·subst e;rw [if_pos h,h]
  simp
 ·by_cases g:(l.any λv=>decide (v.kind=s))=true
  ·rw [if_pos g];simp [e]
  ·rw [if_neg g,if_neg e];refine ⟨?_,by simp [e]⟩;unfold be;rw [List.find?_eq_none.2 (by simpa [List.any_eq_true] using g)];rfl
theorem cU.put {w':World} {B n:Nat} {l:List Nd} {u:Nd} {D:DataW Unit} (hD:∀ s:ByteArray,D.atKey (.string s.data.toList) (.lit (.int .i64 0))=.lit (.int .i64 (be l s))/\Go.Maps.has D (.string s.data.toList)=l.any λv=>decide (v.kind=s)) {w0:World} {n0:Nat} (him:w0.ownsMap Tryz.prog 9 (plainElem Tryz.prog 3) B n0 D)
  (ho:w'.ownsMap Tryz.prog 9 (plainElem Tryz.prog 3) B n (D.put (.string u.kind.data.toList) (.lit (.int .i64 u.many)))) (hno:(l.any λv=>decide (v.kind=u.kind))=false):cU w' B n (l++[u]):=by
 refine ⟨_,ho,λs=>?_⟩;rw [ve,List.any_append]
 by_cases e:u.kind=s
 ·subst e;have hkl:WideAt.IsKeyLit (Lit.string u.kind.data.toList):=trivial;rw [Go.Maps.atKey_put_same him.isMap hkl,Go.Maps.has_put_same him.isMap hkl,if_neg (by rw [hno];decide),if_pos rfl]
  simp
 ·have hne:(Lit.string s.data.toList)≠(Lit.string u.kind.data.toList):=by
   intro h;injection h with h
   exact e (pM h).symm
  rw [Go.Maps.atKey_put_other hne,Go.Maps.has_put_other hne,(hD s).1,(hD s).2]
  by_cases g:(l.any λv=>decide (v.kind=s))=true
  ·rw [if_pos g];simp [e]
  ·rw [if_neg g,if_neg e];refine ⟨?_,by simp [e]⟩
   congr 2
   unfold be;rw [List.find?_eq_none.2 (by simpa [List.any_eq_true] using g)];rfl
def jB (us:List Nd):Prop:=us.length<=20/\eJ us/\∀ k,k<us.length->(nd us k).kind.size<=30
theorem Gw (v:Value) (us:List Nd) (w:World) (h:bc w v us) (hf:jB us):Calls Tryz.prog 106 #[v] w λe w'=>(∃ n,e=.returned (.map (some w.heap.size))/\cU w' w.heap.size n us)/\Below w.heap.size w w':=by
 obtain ⟨ao,c,rfl,hm,hr⟩:=h;have HR:=qI hr;clear hr hm;have HF:=qI hf;have hl20:=hf.1;clear hf;have HM0:=qI (cU.made w);have HB0:=qI ((Q0 w.heap.size w).alloc (lR) (.map #[] 0));have hmm:=@run_makeMap Tryz.prog
 go_enter Tryz.func106,Tryz.ntmps106
 go_wp2
 go_loopw [11] (λi wr=>∃ k n:Nat,k<=us.length/\n<=k/\i=.int .i64 k/\cU wr w.heap.size n (us.take k)/\Below w.heap.size w wr) (λi _=>us.length - (intOf i).toNat)
 case atStart=>exact ⟨0,0,by omega,by omega,rfl,HM0.out,HB0.out⟩
 case round=>
  obtain ⟨k,n,hk,hnk,rfl,hM,hB⟩:=hrel;clear HM0 HB0
  by_cases hlt:k<us.length
  ·obtain ⟨b,o,rfl,hlb,hcs⟩:=HR.out (by omega);obtain ⟨g0,g1⟩:=hcs k hlt;have c0:=(hB.cell (p:=⟨b,o+k*2,none⟩) hlb).trans g0;have c1:=(hB.cell (p:=⟨b,o+k*2+1,none⟩) hlb).trans g1;have HTK:=qI (vd hlt);have hsz:=HF.out.2.2 k hlt;have htm:=HF.out.2.1 k hlt;have HBa:=qI (hB.alloc hB.size (.cells #[.string (nd us k).kind,.int .i64 (nd us k).many] 77));have hMa:=hM.alloc (.cells #[.string (nd us k).kind,.int .i64 (nd us k).many] 77);have hcell0:(wr.alloc (.cells #[.string (nd us k).kind,.int .i64 (nd us k).many] 77)).cell? ⟨wr.heap.size,0,none⟩=some (.string (nd us k).kind):=by simp
   have hcell1:(wr.alloc (.cells #[.string (nd us k).kind,.int .i64 (nd us k).many] 77)).cell? ⟨wr.heap.size,1,none⟩=some (.int .i64 (nd us k).many):=by simp
   clear hM hB hcs g0 g1;generalize nd us k=x at *;generalize us.take k=L at *;obtain ⟨D,ho,hD⟩:=hMa;have HD:=qI hD;have hkey:keyOf Tryz.prog 9 (.string x.kind)=some (.string x.kind.data.toList):=Go.WideMaps.keyOf_string_mk Tryz.underlying9 (by unfold maxLen;omega);have HWF:=qI (show (Lit.int .i64 x.many).wf=true from WalkArith.wf_i64 (by omega));have hhas:=(hD x.kind).2
   rcases two (L.any λu=>decide (u.kind=x.kind)) with ha|ha
   ·rw [ha] at hhas;have HU:=qI (Gu ha);clear hD ha
    go_wp2_with (at_lookup;refine wpList_lookup_own_ok_int _ rfl _ _ 198 rfl 9 3 .i64 gV Tryz.underlying198 Tryz.underlying3 (ls _) w.heap.size n D rfl ho _ _ rfl hkey ?_;intro cc _ _;rw [hhas])
    go_roundw
    case rel=>
     refine ⟨k+1,n,by omega,by omega,by go_num,?_,HBa.out⟩;rw [HTK.out];exact ⟨D,ho,λs=>by rw [(HU.out s).1,(HU.out s).2];exact HD.out s⟩
    case measure=>simp [intOf];omega
   ·rw [ha] at hhas;have HA:=qI ha;clear hD ha
    go_wp2_with (first|(at_lookup;refine wpList_lookup_own_ok_int _ rfl _ _ 198 rfl 9 3 .i64 gV Tryz.underlying198 Tryz.underlying3 (ls _) w.heap.size n D rfl ho _ _ rfl hkey ?_;intro cc _ _;rw [hhas])|(at_mapUpdate;refine wpList_mapUpdate_own _ rfl _ _ _ 198 rfl 9 3 gV Tryz.underlying198 (plainElem Tryz.prog 3) w.heap.size n D rfl ho (by unfold maxLen;omega) _ _ _ rfl rfl hkey (.lit (.int .i64 x.many)) [] (plainElem_int Tryz.underlying3 HWF.out) ?_;intro w5 ho5 hgr5))
    go_roundw
    case rel=>
     refine ⟨k+1,n+1,by omega,by omega,by go_num,?_,?_⟩
     ·rw [HTK.out];exact cU.put HD.out ho ho5 HA.out
     ·exact HBa.out.grown hgr5 HBa.out.size (λj hj=>by cases hj;exact lR)
    case measure=>simp [intOf];omega
  ·have hke:k=us.length:=by omega
   subst hke;have HB1:=qI hB;rw [Qh] at hM;have HM1:=qI hM;clear hB hM
   go_wp2
   go_ret;exact ⟨⟨n,rfl,HM1.out⟩,HB1.out⟩
end
section
open RowKit
open Qos (Nd Ct Pd nd ct pd aU aV bT be eJ)
theorem vf {w:World} {B n:Nat} {us:List Nd} (h:cU w B n us) (s:ByteArray) (hs:s.size<=1000):(Instr.lookup 198 (.map (some B)) (.string s) false).run Tryz.prog w=.ok (.int .i64 (be us s)) w:=by
 obtain ⟨D,ho,hD⟩:=h;obtain ⟨c,hrun,hat,_⟩:=ho.lookup_int (t:=198) gV Tryz.underlying198 Tryz.underlying3 (ls w) (Go.WideMaps.keyOf_string_mk Tryz.underlying9 (s:=s) (by unfold maxLen;omega));rw [(hD s).1] at hat;simp only [DataW.lit.injEq,Lit.int.injEq,true_and] at hat;rw [hrun,hat]
theorem vi (p:Pd) (cv:Value) (mc B n:Nat) (us:List Nd) (w:World) (h:aE w cv p.cs) (hmi:bT p.cs) (hm:w.cell? ⟨mc,0,none⟩=some (.map (some B))) (hU:cU w B n us) (ht:eJ us) (hn:p.nm.size<=1000) :
  Calls Tryz.prog 145 #[bQ p cv,.pointer (some ⟨mc,0,none⟩)] w λe w'=>e=.returned (.int .i64 (be us p.nm - aV p.cs p.cs.length))/\Below w.heap.size w w'/\w.drawn<=w'.drawn:=by
 have hs:=h.slice;unfold bQ;have hb0:=(Q0 w.heap.size w).alloc (lR) (.cells #[.string p.nm,.int .i64 p.pr,cv] 47);have HBd:=qI (dJ hb0);have HPd:=qI ((ev.made w p cv).below (dJ (Q0 _ _)));have hmlt:=Q3 w _ hm;have HMd:=qI (((dJ hb0).cell (p:=⟨mc,0,none⟩) hmlt).trans hm);have HUd:=qI (hU.below (dJ hb0) hU.lt);have HSU:=qI (Gr p cv _ (h.below HBd.out) hmi);have hin:=Qos.pI ht p.nm;have hsi:=Qos.kM hmi (lR);unfold bQ at HSU;obtain ⟨pa,pn,pc,rfl⟩:=hs;have HUL:=qI hU.lt;clear h hb0 hm hU;have HLK:=qI (λW (hU:cU W B n us)=>vf hU p.nm hn);generalize aU p.cs p.cs.length=SM at *;generalize aV p.cs p.cs.length=SB at *;generalize be us p.nm=US at *;have e1:wrap64 (US - SB)=US - SB:=by unfold wrap64;omega
 have e2:IntKind.i64.wrap (US - SB)=US - SB:=by rw [IntKind.wrap_i64];omega
 go_enter Tryz.func145,Tryz.ntmps145
 go_wp2_with fail
 refine wp_region_held_drew (S:=(λw'=>(w'.cell? ⟨w.heap.size,0,none⟩=some (.string p.nm)/\w'.cell? ⟨w.heap.size,1,none⟩=some (.int .i64 p.pr)/\w'.cell? ⟨w.heap.size,2,none⟩=some (.slice pa pn pc))/\w'.cell? ⟨mc,0,none⟩=some (.map (some B))/\cU w' B n us)) (by kernel_rfl) ⟨HPd.out.2,HMd.out,HUd.out⟩ (λhHeld=>?_);refine tk 0 ?_;refine tk 1 ?_;refine tk 2 ?_;refine tk 4 ?_
 refine wpAnyH_take (i := 3) (oi := { dst := some 7, op := Op.lookup 198 (Operand.tmp 4) (Operand.tmp 6) false, type := 3, pos := "evict.go:46", after := #[{ on := 0, ground := Ground.data }, { on := 2, ground := Ground.data }], guard := none }) (v := Value.int .i64 US) rfl (by kernel_rfl) (by kernel_rfl) (by kernel_rfl) (fun _ _ _ h => h) (Or.inl ⟨by rfl, ?h5x3⟩) (by assumption) ?r5x3
 case h5x3=>
  intro w' hSw;(try dsimp only at hSw);have hlk:=HLK.out _ hSw.2.2;go_simp
  first|done|with_reducible rfl|rfl
 (try simp only [Act.put,s1,s2,s3]);refine rd 5 (λK hK=>?_);go_simp
 go_wp2_with fail
 refine HSU.out.mono ?_;rintro e w5 ⟨rfl,hb5,hd5⟩;have HP5:=qI (HPd.out.below hb5);have HM5:=qI ((hb5.cell (p:=⟨mc,0,none⟩) (Q1 hmlt HBd.out.size)).trans HMd.out);have HU5:=qI (HUd.out.below hb5 HUd.out.lt);have HB5:=qI (HBd.out.trans (hb5.mono HBd.out.size));have HD5:=qI (show w.drawn<=w5.drawn by rw [hd5];exact Nat.le_succ _);clear hb5 hd5
 go_wp2
 refine hK.out _ _ ⟨HP5.out.2,HM5.out,HU5.out⟩ (λhHeld=>?_);clear hK K
 refine wpAnyH_take (i := 6) (oi := { dst := some 10, op := Op.field 60 (Operand.tmp 9) 1, type := 3, pos := "evict.go:46", after := #[{ on := 5, ground := Ground.data }], guard := none }) (v := Value.int .i64 SB) rfl (by kernel_rfl) (by kernel_rfl) (by kernel_rfl) (fun _ _ _ h => h) (Or.inl ⟨by rfl, ?h6x6⟩) (by assumption) ?r6x6
 case h6x6=>
  intro w' hSw;(try dsimp only at hSw);go_simp
  first|done|with_reducible rfl|rfl
 (try simp only [Act.put,s1,s2,s3])
 refine wpAnyH_take (i := 7) (oi := { dst := some 11, op := Op.binOp BinOp.sub 3 (Operand.tmp 7) (Operand.tmp 10) 3, type := 3, pos := "evict.go:46", after := #[{ on := 3, ground := Ground.data }, { on := 6, ground := Ground.data }], guard := none }) (v := Value.int .i64 (US - SB)) rfl (by kernel_rfl) (by kernel_rfl) (by kernel_rfl) (fun _ _ _ h => h) (Or.inl ⟨by rfl, ?h7x7⟩) (by assumption) ?r7x7
 case h7x7=>
  intro w' hSw;(try dsimp only at hSw);go_simp
  first|done|with_reducible rfl|rfl
 (try simp only [Act.put,s1,s2,s3]);refine tk 8 ?_;refine Qn (by kernel_rfl) ?_ _
 go_wp2
 go_ret;exact ⟨rfl,HB5.out,HD5.out⟩
end
section
open RowKit Shelf
open Qos (Nd Ct Pd pd0 nd ct pd ez pK pL)
attribute [local go_sem] Oper.semAt_some
def KpB (b Bs:Nat) (W W':World):Prop:=W'.heap[b]?=W.heap[b]?/\W'.heap[Bs]?=W.heap[Bs]?
theorem KpB.refl (b Bs:Nat) (W:World):KpB b Bs W W:=⟨rfl,rfl⟩
theorem KpB.trans {b Bs:Nat} {A B C:World} (h:KpB b Bs A B) (k:KpB b Bs B C):KpB b Bs A C:=⟨k.1.trans h.1,k.2.trans h.2⟩
theorem cell_of_block {W W':World} {a:Addr} (h:W'.heap[a.block]?=W.heap[a.block]?):W'.cell? a=W.cell? a:=by
 unfold World.cell?;rw [h]
def kb (W:World) (b o:Nat) (qs:List Pd) (cv:Nat->Value):Prop:=
 ∀ k,k<qs.length->W.cell? ⟨b,o+k*3,none⟩=some (.string (pd qs k).nm)/\W.cell? ⟨b,o+k*3+1,none⟩=some (.int .i64 (pd qs k).pr)/\W.cell? ⟨b,o+k*3+2,none⟩=some (cv k)
theorem kb.kept {W W':World} {b o:Nat} {qs:List Pd} {cv:Nat->Value} (h:kb W b o qs cv) (hb:W'.heap[b]?=W.heap[b]?):kb W' b o qs cv:=λk hk=>by
 obtain ⟨h0,h1,h2⟩:=h k hk;exact ⟨(cell_of_block (a:=⟨b,o+k*3,none⟩) hb).trans h0,(cell_of_block (a:=⟨b,o+k*3+1,none⟩) hb).trans h1,(cell_of_block (a:=⟨b,o+k*3+2,none⟩) hb).trans h2⟩
theorem Gx {n j:Nat} (h:j<n):ez n (n - j)=ez n (n - (j+1))++[j]:=by
 have e:n - j=n - (j+1)+1:=by omega
 rw [e,pK]
 congr 2
 omega
theorem Gy (F:Fence) (n:Nat) (h7:F.fn 150) (hro:F.round=none) (hn:1<=n) (l Bs b o cap:Nat) (qs:List Pd) (cv:Nat->Value) (hlen:qs.length<=16) (hcv:∀ k,∃ a m c,cv k=.slice a m c) (J Jx:List Nat->World->Prop)
  (hY:∀ pre (x:Nat) W,J pre W->pre.length<qs.length->YieldAt F (n - 1) Tryz.prog l #[.int .i64 (x:Int),.agg #[.string (pd qs x).nm,.int .i64 (pd qs x).pr,cv x]] W λe W'=>
   (e=.returned (.bool true)/\J (pre++[x]) W'/\KpB b Bs W W')\/(e=.returned (.bool false)/\Jx (pre++[x]) W'))
  (W:World) (hBs:W.cell? ⟨Bs,0,none⟩=some (.slice (some ⟨b,o,none⟩) qs.length cap)) (hc:kb W b o qs cv) (h0:J [] W) :
  CallsIn F n Tryz.prog 150 #[.func (.yield l) #[] #[],.pointer (some ⟨Bs,0,none⟩)] W λe W'=>(∃ v,e=.returned v)/\
   ((∃ ys,ys=ez qs.length qs.length/\J ys W')\/(∃ pre,True/\Jx pre W')):=by
 have hwr:wrap64 ((qs.length:Int) - 1)=(qs.length:Int) - 1:=by unfold wrap64;omega
 refine callsIn_of_wp Tryz.func150 rfl h7 ?_ hro;simp only [Tryz.ntmps150,List.size_toArray,Qg,List.length_nil,Nat.reduceAdd,Nat.reduceSub,Array.replicate_succ,Array.replicate_zero,List.push_toArray,List.append_toArray,List.nil_append,List.cons_append]
 gi_wp2
 gi_loopw [3] (λi wr=>∃ j:Nat,j<=qs.length/\i=.int .i64 ((j:Int) - 1)/\J (ez qs.length (qs.length - j)) wr/\KpB b Bs W wr)
  (λi _=>(intOf i+1).toNat)
 case atStart=>exact ⟨qs.length,lR,rfl,by rw [Nat.sub_self];exact h0,KpB.refl _ _ _⟩
 case round=>
  obtain ⟨j,hj,rfl,hJs,hkp⟩:=hrel;clear hwr;cases j with
  | zero=>
   rw [show ((0:Nat):Int) - 1=-1 from rfl];have HJ:=qI hJs;clear hJs
   gi_wp2
   go_end0
   exact ⟨⟨_,rfl⟩,.inl ⟨_,rfl,by have:=HJ.out;rwa [Nat.sub_zero] at this⟩⟩
  | succ j=>
   rw [show ((j+1:Nat):Int) - 1=(j:Int) by omega];have hjl:j<qs.length:=by omega
   obtain ⟨c0,c1,c2⟩:=hc.kept hkp.1 j hjl;have hB':wr.cell? ⟨Bs,0,none⟩=some (.slice (some ⟨b,o,none⟩) qs.length cap):=(cell_of_block (a:=⟨Bs,0,none⟩) hkp.2).trans hBs;obtain ⟨fn,tmps,assign,body,hy,hR⟩:=hY _ j wr hJs (by rw [pL];omega);have HD:=qI (Gx hjl);have HK:=qI hkp;have hwj:wrap64 ((j:Int) - 1)=(j:Int) - 1:=by unfold wrap64;omega
   obtain ⟨ca,cm,cc,hce⟩:=hcv j;rw [hce] at c2 hy;generalize pd qs j=x at *;clear hJs hkp hY hcv hce
   gi_wp2
   refine hR.mono ?_;rintro e W3 (⟨rfl,hJ3,hk3⟩|⟨rfl,hJx3⟩)
   ·gi_wp2
    go_roundw
    case rel=>exact ⟨j,by omega,rfl,by rw [HD.out];exact hJ3,HK.out.trans hk3⟩
    case measure=>simp [intOf]
   ·gi_wp2
    refine Qx (results_none rfl _ _ _) rfl ?_;exact ⟨⟨_,rfl⟩,.inr ⟨_,trivial,hJx3⟩⟩
end
section
open RowKit
open Qos (Nd Ct Pd nd ct pd aU aV bT be eJ key iX cf aQ orI)
structure iw (w:World) (mc fc B n:Nat) (us:List Nd):Prop where
 m:w.cell? ⟨mc,0,none⟩=some (.map (some B))
 f:w.cell? ⟨fc,0,none⟩=some (.func (.func 145) #[] #[.pointer (some ⟨mc,0,none⟩)])
 u:cU w B n us
theorem iw.lts {w:World} {mc fc B n:Nat} {us:List Nd} (h:iw w mc fc B n us):mc<w.heap.size/\fc<w.heap.size/\B<w.heap.size:=⟨Q3 w _ h.m,Q3 w _ h.f,h.u.lt⟩
theorem iw.below {w w':World} {mc fc B n K:Nat} {us:List Nd} (h:iw w mc fc B n us) (hb:Below K w w') (hK:mc<K/\fc<K/\B<K):iw w' mc fc B n us:=
 ⟨(hb.cell (p:=⟨mc,0,none⟩) hK.1).trans h.m,(hb.cell (p:=⟨fc,0,none⟩) hK.2.1).trans h.f,h.u.below hb hK.2.2⟩
theorem Gz (p q:Pd) (cp cq:Value) (mc fc B n:Nat) (us:List Nd) (w:World) (hp:aE w cp p.cs) (hq:aE w cq q.cs) (mp:bT p.cs) (mq:bT q.cs) (np:p.nm.size<=1000) (nq':q.nm.size<=1000) (hS:iw w mc fc B n us) (ht:eJ us) :
  Calls Tryz.prog 147 #[bQ p cp,bQ q cq,.pointer (some ⟨fc,0,none⟩)] w λe w'=>e=.returned (.int .i64 (iX (key us p) (key us q)))/\Below w.heap.size w w'/\w.drawn<=w'.drawn:=by
 have hs1:=hp.slice;have hs2:=hq.slice;have HK:Hid (iX (key us p) (key us q)=or4 (Lib.compareInt (cf (be us p.nm - aV p.cs p.cs.length)) (cf (be us q.nm - aV q.cs q.cs.length))) (Lib.compareInt p.pr q.pr) (Lib.compareInt (be us q.nm - aV q.cs q.cs.length) (be us p.nm - aV p.cs p.cs.length)) (aQ p.nm q.nm)):=rfl;have hb0:=((Q0 w.heap.size w).alloc (lR) (.cells #[.string p.nm,.int .i64 p.pr,cp] 47)).alloc (by simp) (.cells #[.string q.nm,.int .i64 q.pr,cq] 47);have hbd:=dJ hb0;have HBd:=qI hbd;have HPd:=qI (((ev.made w p cp).alloc (.cells #[.string q.nm,.int .i64 q.pr,cq] 47)).below (dJ (Q0 _ _)));have hQ:=(ev.made (w.alloc (.cells #[.string p.nm,.int .i64 p.pr,cp] 47)) q cq).below (dJ (Q0 _ _));rw [show (w.alloc (.cells #[.string p.nm,.int .i64 p.pr,cp] 47)).heap.size=w.heap.size+1 by simp] at hQ;have HQd:=qI hQ;have HSd:=qI (hS.below hbd hS.lts);have HAP:=qI (λW (hb:Below w.heap.size w W)=>vi p cp mc B n us W (hp.below hb) mp (hS.below hb hS.lts).m (hS.below hb hS.lts).u ht np);have HAQ:=qI (λW (hb:Below w.heap.size w W)=>vi q cq mc B n us W (hq.below hb) mq (hS.below hb hS.lts).m (hS.below hb hS.lts).u ht nq');have HST:=qI (λW (hb:Below w.heap.size w W)=>hS.below hb hS.lts);unfold bQ at HAP HAQ ⊢;obtain ⟨pa,pn,pc,rfl⟩:=hs1;obtain ⟨qa,qn,qc,rfl⟩:=hs2;rw [HK.out];clear HK hp hq hS hb0 hbd hQ;generalize be us p.nm - aV p.cs p.cs.length=X at *;generalize be us q.nm - aV q.cs q.cs.length=Y at *;have HD0:Hid (w.drawn<=(((w.alloc (.cells #[.string p.nm,.int .i64 p.pr,.slice pa pn pc] 47)).alloc (.cells #[.string q.nm,.int .i64 q.pr,.slice qa qn qc] 47)).drew).drawn):=Nat.le_succ _
 go_enter Tryz.func147,Tryz.ntmps147
 go_wp2_with fail
 refine wp_region_held_drew (S:=(λw'=>(w'.cell? ⟨w.heap.size,0,none⟩=some (.string p.nm)/\w'.cell? ⟨w.heap.size,1,none⟩=some (.int .i64 p.pr)/\w'.cell? ⟨w.heap.size,2,none⟩=some (.slice pa pn pc))/\(w'.cell? ⟨w.heap.size+1,0,none⟩=some (.string q.nm)/\w'.cell? ⟨w.heap.size+1,1,none⟩=some (.int .i64 q.pr)/\w'.cell? ⟨w.heap.size+1,2,none⟩=some (.slice qa qn qc))/\w'.cell? ⟨fc,0,none⟩=some (.func (.func 145) #[] #[.pointer (some ⟨mc,0,none⟩)]))) (by kernel_rfl) ⟨HPd.out.2,HQd.out.2,(HST.out _ HBd.out).f⟩ (λhHeld=>?_);refine tk 0 ?_;refine tk 1 ?_;refine tk 3 ?_;refine tk 4 ?_;refine rd 2 (λK hK=>?_);go_simp
 go_wp2_with fail
 refine (HAP.out _ HBd.out).mono ?_;rintro e w5 ⟨rfl,hb5,hd5⟩;have HP5:=qI (HPd.out.below hb5);have HQ5:=qI (HQd.out.below hb5);have HB5:=qI (HBd.out.trans (hb5.mono HBd.out.size));have HD5:=qI (Q5 HD0.out hd5);clear hb5 hd5
 go_wp2
 refine hK.out _ _ ⟨HP5.out.2,HQ5.out.2,(HST.out _ HB5.out).f⟩ (λhHeld=>?_);clear hK K;refine rd 5 (λK hK=>?_);go_simp
 go_wp2_with fail
 refine (HAQ.out _ HB5.out).mono ?_;rintro e w6 ⟨rfl,hb6,hd6⟩;have HP6:=qI (HP5.out.below hb6);have HQ6:=qI (HQ5.out.below hb6);have HB6:=qI (HB5.out.trans (hb6.mono HB5.out.size));have HD6:=qI (Q5 HD5.out hd6);clear hb6 hd6
 go_wp2
 refine hK.out _ _ ⟨HP6.out.2,HQ6.out.2,(HST.out _ HB6.out).f⟩ (λhHeld=>?_);clear hK K;refine tk 6 ?_;refine tk 7 ?_;refine Qn (by kernel_rfl) ?_ _;have HPe:=qI (HP6.out.below (dJ (Q0 _ _)));have HQe:=qI (HQ6.out.below (dJ (Q0 _ _)));have HBe:=qI (dJ HB6.out);have HDe:=qI (show w.drawn<=w6.drew.drawn from Nat.le_succ_of_le HD6.out);clear hHeld HP5 HQ5 HB5 HD5 HPd HQd HBd HSd HAP HAQ HP6 HQ6 HB6 HD6 HD0
 go_wp2_with fail
 refine wp_region_held_drew (S:=(λw'=>(w'.cell? ⟨w.heap.size,0,none⟩=some (.string p.nm)/\w'.cell? ⟨w.heap.size,1,none⟩=some (.int .i64 p.pr)/\w'.cell? ⟨w.heap.size,2,none⟩=some (.slice pa pn pc))/\(w'.cell? ⟨w.heap.size+1,0,none⟩=some (.string q.nm)/\w'.cell? ⟨w.heap.size+1,1,none⟩=some (.int .i64 q.pr)/\w'.cell? ⟨w.heap.size+1,2,none⟩=some (.slice qa qn qc)))) (by kernel_rfl) ⟨HPe.out.2,HQe.out.2⟩ (λhHeld=>?_);refine tk 0 ?_;refine tk 2 ?_;refine tk 5 ?_;refine tk 6 ?_;refine tk 7 ?_;refine tk 8 ?_;refine tk 10 ?_;refine tk 11 ?_;refine tk 13 ?_;refine tk 14 ?_;refine tk 15 ?_;refine tk 16 ?_;refine rd 1 (λK hK=>?_);go_simp
 go_wp2_with fail
 refine (uW X _).mono ?_;rintro e wx ⟨rfl,rfl⟩
 go_wp2
 refine hK.out _ _ ⟨HPe.out.2,HQe.out.2⟩ (λhHeld=>?_);clear hK K;refine rd 3 (λK hK=>?_);go_simp
 go_wp2_with fail
 refine (uW Y _).mono ?_;rintro e wx ⟨rfl,rfl⟩
 go_wp2
 refine hK.out _ _ ⟨HPe.out.2,HQe.out.2⟩ (λhHeld=>?_);clear hK K;refine rd 4 (λK hK=>?_);go_simp
 go_wp2_with fail
 refine (lr _ _ _).mono ?_;rintro e wx ⟨rfl,rfl⟩
 go_wp2
 refine hK.out _ _ ⟨HPe.out.2,HQe.out.2⟩ (λhHeld=>?_);clear hK K;refine rd 9 (λK hK=>?_);go_simp
 go_wp2_with fail
 refine (lr _ _ _).mono ?_;rintro e wx ⟨rfl,rfl⟩
 go_wp2
 refine hK.out _ _ ⟨HPe.out.2,HQe.out.2⟩ (λhHeld=>?_);clear hK K;refine rd 12 (λK hK=>?_);go_simp
 go_wp2_with fail
 refine (lr _ _ _).mono ?_;rintro e wx ⟨rfl,rfl⟩
 go_wp2
 refine hK.out _ _ ⟨HPe.out.2,HQe.out.2⟩ (λhHeld=>?_);clear hK K;refine rd 17 (λK hK=>?_);go_simp
 go_wp2_with fail
 refine (Gm _ _ _).mono ?_;rintro e wx ⟨rfl,rfl⟩
 go_wp2
 refine hK.out _ _ ⟨HPe.out.2,HQe.out.2⟩ (λhHeld=>?_);clear hK K;have HP8:=qI (HPe.out.alloc (.cells #[.int .i64 (Lib.compareInt (cf X) (cf Y)),.int .i64 (Lib.compareInt p.pr q.pr),.int .i64 (Lib.compareInt Y X),.int .i64 (aQ p.nm q.nm)] 3));have HQ8:=qI (HQe.out.alloc (.cells #[.int .i64 (Lib.compareInt (cf X) (cf Y)),.int .i64 (Lib.compareInt p.pr q.pr),.int .i64 (Lib.compareInt Y X),.int .i64 (aQ p.nm q.nm)] 3));have HB8:=qI (HBe.out.alloc HBe.out.size (.cells #[.int .i64 (Lib.compareInt (cf X) (cf Y)),.int .i64 (Lib.compareInt p.pr q.pr),.int .i64 (Lib.compareInt Y X),.int .i64 (aQ p.nm q.nm)] 3));refine rd 18 (λK hK=>?_);go_simp
 go_wp2
 refine hK.out _ _ ⟨HP8.out.2,HQ8.out.2⟩ (λhHeld=>?_);clear hK K;refine rd 19 (λK hK=>?_);go_simp
 go_wp2_with fail
 refine (Gn (Lib.compareInt (cf X) (cf Y)) (Lib.compareInt p.pr q.pr) (Lib.compareInt Y X) (aQ p.nm q.nm) _ _ _ (by simp) (by simp) (by simp) (by simp)).mono ?_;rintro e wx ⟨rfl,rfl⟩
 go_wp2
 refine hK.out _ _ ⟨HP8.out.2,HQ8.out.2⟩ (λhHeld=>?_);clear hK K;refine tk 20 ?_;refine Qn (by kernel_rfl) ?_ _
 go_wp2
 go_ret;exact ⟨rfl,HB8.out,HDe.out⟩
end
end Go.Proofs.YtbmmnflgnmjboaaGreatDoor
namespace Go.Proofs
open Go.Shelf
shelf_lay_g SlLaysE0.n41 Slgn 41 at Tryz 144 as Tryz.clonePL
end Go.Proofs
namespace Go.Proofs.YtbmmnflgnmjboaaGreatDoor
section
open RowKit
open Qos (Nd Ct Pd pd0 nd ct pd aU aV bT be eJ)
def eV (ps:List Pd) (cv:Nat->Value):List (Pd × Value):=(List.range ps.length).map λj=>(pd ps j,cv j)
theorem lu (ps:List Pd) (cv:Nat->Value):(eV ps cv).length=ps.length:=by simp [eV]
theorem GA (ps:List Pd) (cv:Nat->Value) (k:Nat) (h:k<(eV ps cv).length):(eV ps cv)[k]=(pd ps k,cv k):=by simp [eV]
theorem GC {w:World} {b o:Nat} {ps:List Pd} {cv:Nat->Value} (h:jr w b o ps cv) (j:Nat) (u:Value) (hj:(prV (eV ps cv))[j]?=some u):w.cell? ((⟨b,o,none⟩:Addr).add j)=some u:=by
 have hlt:j<ps.length*3:=by
  have:=(List.getElem?_eq_some_iff.1 hj).1
  rw [sU,lu] at this;exact this
 obtain ⟨h0,h1,h2,_⟩:=h.at (k:=j / 3) (by omega);have hk:j / 3<(eV ps cv).length:=by rw [lu];omega
 obtain ⟨c0,c1,c2⟩:=sW (eV ps cv) (j / 3) hk;rw [GA] at c0 c1 c2;rw [Addr.add_lit]
 have:j=j / 3*3\/j=j / 3*3+1\/j=j / 3*3+2:=by omega
 rcases this with e|e|e
 ·rw [<- e] at c0 h0;rw [h0,<- c0,hj]
 ·rw [<- e] at c1;rw [Nat.add_assoc,<- e] at h1;rw [h1,<- c1,hj]
 ·rw [<- e] at c2;rw [Nat.add_assoc,<- e] at h2;rw [h2,<- c2,hj]
theorem GD {ps:List Pd} {cv:Nat->Value} (h:∀ k,k<ps.length->∃ a n c,cv k=.slice a n c):∀ u∈prV (eV ps cv),u.oneCell'=true:=by
 intro u hu;simp only [prV,List.mem_flatMap] at hu;obtain ⟨x,hx,hu⟩:=hu;simp only [eV,Qk,List.mem_range] at hx;obtain ⟨k,hk,rfl⟩:=hx;obtain ⟨a,n,c,e⟩:=h k hk
 simp [e] at hu
 rcases hu with rfl|rfl|rfl <;> rfl
theorem GE (ao:Option Addr) (n c:Nat) (w:World):Sem.run Tryz.prog (binOp BinOp.eql 70 (.slice ao n c) (.slice none 0 0)) w=.ok (.bool ao.isNone) w:=Lib.run_eql_slice_nil w _ _ ao n c 0 0 Tryz.underlying70
theorem vj (a:Addr) (c:Nat) (l:List (Pd × Value)) (w:World) (hc:∀ j u,(prV l)[j]?=some u->w.cell? (a.add j)=some u) (h1:∀ u∈prV l,u.oneCell'=true) (hl:l.length<=16) :
  Calls Tryz.prog 144 #[.slice (some a) l.length c] w λe w'=>∃ v,e=.returned v/\w'.ownsRow w.heap.size 47 3 v l.length (prV l)/\Below w.heap.size w w':=by
 obtain ⟨i0,hi,hz0,hz1,hz2⟩:=sS CJ;have HB:=qI ((Q0 w.heap.size w).alloc (lR) (.cells #[] 47));have HC:Hid (∀ j u,(prV l)[j]?=some u->(w.alloc (.cells #[] 47)).cell? (a.add j)=some u):=λj u hj=>Lib.cell?_alloc_some _ (hc j u hj)
 have hnil:=GE (some a) l.length c w;clear hc
 go_enter Tryz.func144,Tryz.ntmps144
 go_wp2_with (at_builtin;(refine wpList_append_own _ rfl _ _ 70 rfl w.heap.size 47 i0 (.agg #[.string ByteArray.empty,.int .i64 0,.slice none 0 0]) 3 48 Tryz.underlying70 hi hz0 hz1 hz2 rfl (by decide) _ _ _ rfl (World.ownsRow_lit w #[] 0 (lR) (Nat.zero_le _) rfl) a l.length c (prV l) rfl (sU l) HC.out h1 (by unfold maxLen;omega) (by omega) (by simp) ?_);intro v' w1 hown' hgrow' _)
 have hB1:=qI (HB.out.grown hgrow' (by simp) (λj hj=>by cases hj;exact lR));rw [Qd] at hown';have hD:Hid (w1.ownsRow w.heap.size 47 3 v' l.length (prV l)):=by simpa [Hid] using hown'
 clear hown' hgrow'
 go_wp2
 go_ret;exact ⟨_,rfl,hD.out,hB1.out⟩
theorem GF (v:Value) (ps:List Pd) (w:World) (h:eu w v ps) (hl:ps.length<=16) :
  Calls Tryz.prog 144 #[v] w λe w'=>∃ v' l,e=.returned v'/\w'.ownsRow w.heap.size 47 3 v' l.length (prV l)/\l.map Prod.fst=ps/\(∀ x∈l,aE w x.2 x.1.cs)/\Below w.heap.size w w':=by
 obtain ⟨ao,c,rfl,hm,hr⟩:=h
 by_cases h0:0<ps.length
 ·obtain ⟨b,o,cv,rfl,hin⟩:=hr h0;have hc:=vj ⟨b,o,none⟩ c (eV ps cv) w (GC hin) (GD λk hk=>(hin.2 k hk).2.slice) (by rw [lu];exact hl);rw [lu] at hc;refine hc.mono λe w' ⟨v',he,ho,hb⟩=>⟨v',eV ps cv,he,by rw [lu];exact ho,?_,?_,hb⟩
  ·unfold eV;rw [List.map_map];exact Qos.Gq ps
  ·intro x hx;simp only [eV,Qk,List.mem_range] at hx;obtain ⟨k,hk,rfl⟩:=hx;exact (hin.2 k hk).2
 ·have e:ps=[]:=Qe (by omega);subst e
  rcases ao with _|a
  ·refine (AnyE.slices_Clone_nil Tryz.clonePL 0 c w).mono ?_;rintro e w' ⟨rfl,rfl⟩;exact ⟨_,[],rfl,Qw _ _ _ _,rfl,λx hx=>by simp at hx,Q0 _ _⟩
  ·exact (vj a c [] w (λj u hj=>by simp [prV] at hj) (λu hu=>by simp [prV] at hu) (by simp)).mono λe w' ⟨v',he,ho,hb⟩=>⟨v',[],he,ho,rfl,λx hx=>by simp at hx,hb⟩
def txV (l:List ByteArray):List Value:=l.map Value.string
def ix (base:Nat) (w:World) (v:Value) (l:List ByteArray):Prop:=w.ownsRow base 9 1 v l.length (txV l)
theorem ix.below {base:Nat} {w w':World} {v:Value} {l:List ByteArray} (h:ix base w v l) (hb:Below w.heap.size w w'):ix base w' v l:=
 World.ownsRow.kept (row:=none) h ⟨hb.os,hb.tape,hb.output,hb.size,λj hj _=>hb.block j hj⟩ (by cases hv:v.ownBlock <;> simp)
theorem ig:(Tryz.prog.info? 9).map (λi=>(i.zero,i.size,i.bytes))=some (some (.string ByteArray.empty),1,16):=by kernel_rfl
theorem GG (w:World) (s:ByteArray) (t:TypeId):∀ j u,[Value.string s][j]?=some u->(w.alloc (.cells #[.string s] t)).cell? ((⟨w.heap.size,0,none⟩:Addr).add j)=some u:=by
 intro j u hu;rw [Addr.add_lit,Qd]
 match j,hu with
 | 0,hu=>simp at hu;subst hu;simp
 | j+1,hu=>simp at hu
theorem GH (v:Value) (ps:List Pd) (w:World) (h:eu w v ps) (hl:ps.length<=16):Calls Tryz.prog 111 #[v] w λe w'=>(∃ v',e=.returned v'/\ix w.heap.size w' v' (ps.map Pd.nm))/\Below w.heap.size w w':=by
 obtain ⟨i0,hi,hz0,hz1,hz2⟩:=sS ig;obtain ⟨ao,c,rfl,hm,hr⟩:=h;have HR:=qI hr;clear hr hm
 go_enter Tryz.func111,Tryz.ntmps111
 go_wp2
 go_loopw [3,8] (λg i wr=>∃ k:Nat,k<=ps.length/\i=.int .i64 k/\Below w.heap.size w wr/\ix w.heap.size wr g ((ps.take k).map Pd.nm)) (λ_ i _=>ps.length - (intOf i).toNat)
 case atStart=>exact ⟨0,by omega,rfl,Q0 _ _,Qw _ _ _ _⟩
 case round=>
  obtain ⟨k,hk,rfl,hB,hT⟩:=hrel
  by_cases hlt:k<ps.length
  ·obtain ⟨b,o,cv,rfl,hin⟩:=HR.out (by omega);have hin:=hin.below hB;obtain ⟨c0,c1,c2,hcn⟩:=hin.at hlt;have hsl:=hcn.slice;have hba:=(Q0 wr.heap.size wr).alloc (lR) (.cells #[.string (pd ps k).nm,.int .i64 (pd ps k).pr,cv k] 47);have HBa:=qI (hB.trans (hba.mono hB.size));have HTa:=qI (hT.below hba);have HTK:Hid ((ps.take (k+1)).map Pd.nm=(ps.take k).map Pd.nm++[(pd ps k).nm]):=by
    unfold Hid;rw [Qos.Cr hlt,Qj];rfl
   have HGL:=qI (World.ownsRow.lt hT);have hln:((ps.take k).map Pd.nm).length<=16:=by rw [Q9,Qu];omega
   clear hin hcn hba hB hT;generalize (ps.take k).map Pd.nm=L at *;generalize pd ps k=x at *;generalize cv k=d at *;obtain ⟨da,dn,dc,rfl⟩:=hsl;have HB2:=qI (HBa.out.alloc HBa.out.size (.cells #[.string x.nm] 9));have HT2:=qI (HTa.out.below ((Q0 _ _).alloc (lR) (.cells #[.string x.nm] 9)));have HN2:=GG (wr.alloc (.cells #[.string x.nm,.int .i64 x.pr,.slice da dn dc] 47)) x.nm 9;rw [show (wr.alloc (.cells #[.string x.nm,.int .i64 x.pr,.slice da dn dc] 47)).heap.size=wr.heap.size+1 by simp] at HN2;have HN2:=qI HN2
   go_wp2_with (at_builtin;refine wpList_append_own _ rfl _ _ 78 rfl w.heap.size 9 i0 (.string ByteArray.empty) 1 16 Tryz.underlying78 hi hz0 hz1 hz2 rfl (by decide) u3 _ _ rfl HT2.out ⟨_,0,none⟩ 1 1 [.string x.nm] rfl rfl HN2.out (by intro u hu;simp at hu;subst hu;rfl) (by unfold maxLen;omega) (by omega) HB2.out.size ?_;intro v2 w5 hown' hgrow' _)
   have HB5:=qI (HB2.out.grown hgrow' HB2.out.size (λi hi=>(HGL.out i hi).1));have HT5:Hid (ix w.heap.size w5 v2 (L++[x.nm])):=by
    unfold Hid ix txV;rw [Qj,Q2];exact hown'
   clear hown' hgrow'
   go_roundw
   case rel=>exact ⟨k+1,by omega,by go_num,HB5.out,by rw [HTK.out];exact HT5.out⟩
   case measure=>simp [intOf];omega
  ·have hke:k=ps.length:=by omega
   subst hke;have HB1:=qI hB;rw [Qh] at hT;have HT1:=qI hT;clear hB hT
   go_wp2
   go_ret;exact ⟨⟨_,rfl,HT1.out⟩,HB1.out⟩
end
end Go.Proofs.YtbmmnflgnmjboaaGreatDoor
namespace Go.Proofs
open Go.Shelf
shelf_lay_g SlLaysF0.n6 Slsf 6 at Tryz 146 as Tryz.sortPL
end Go.Proofs
namespace Go.Proofs.YtbmmnflgnmjboaaGreatDoor
section
open RowKit
open Go.Sort (SWO PermIn SortedIn HoldsK flatK putRowK)
open Qos (Nd Ct Pd pd0 nd ct pd aU aV bT be eJ key iX gU mQ)
def OkE (W0:World) (x:Pd × Value):Prop:=aE W0 x.2 x.1.cs/\bT x.1.cs/\x.1.nm.size<=1000
abbrev PE (W0:World):={ x:Pd × Value // OkE W0 x }
theorem ok0 (W0:World):OkE W0 (pd0,.slice none 0 0):=⟨⟨none,0,rfl,⟨by simp [pd0],by decide⟩,λh=>by simp [pd0] at h⟩,Qos.Cc,by simp [pd0]⟩
instance (W0:World):Inhabited (PE W0):=⟨⟨_,ok0 W0⟩⟩
def eK {W0:World} (x:PE W0):List Value:=[.string x.1.1.nm,.int .i64 x.1.1.pr,x.1.2]
def cfE {W0:World} (us:List Nd) (x y:PE W0):Int:=iX (key us x.1.1) (key us y.1.1)
theorem ltE {W0:World} (us:List Nd) (x y:PE W0):ltOf (cfE us) x y=gU (key us x.1.1) (key us y.1.1):=rfl
theorem GI {W0:World} (us:List Nd):SWO (ltOf (cfE (W0:=W0) us)) where
 irrefl _:=Qos.pH.irrefl _
 trans _ _ _ h1 h2:=Qos.pH.trans _ _ _ h1 h2
 ntrans _ _ _ h1 h2:=Qos.pH.ntrans _ _ _ h1 h2
theorem GJ {w w':World} (hb:Below w.heap.size w w') (hd:w.drawn<=w'.drawn):∃ q os,w'=Go.Sort.grow (w.drewN q) os:=by
 refine ⟨w'.drawn - w.drawn,w'.heap.extract w.heap.size w'.heap.size,?_⟩;obtain ⟨h1,h2,h3,h4,h5⟩:=hb;have hh:w'.heap=w.heap++w'.heap.extract w.heap.size w'.heap.size:=by
  apply Array.ext_getElem?
  intro i
  by_cases hi:i<w.heap.size
  ·rw [Array.getElem?_append_left hi];exact h5 i hi
  ·rw [Array.getElem?_append_right (by omega),Array.getElem?_extract]
   by_cases hj:i<w'.heap.size
   ·rw [if_pos (by omega)]
    congr 1
    omega
   ·rw [if_neg (by omega)];exact Array.getElem?_eq_none (by omega)
 unfold Go.Sort.grow World.drewN;cases w';cases w;simp only at h1 h2 h3 hd hh;simp only [World.mk.injEq];exact ⟨hh,h2,by omega,h1,h3⟩
theorem pN {W0:World} (w:World) (blk off m:Nat) (dk:Array (PE W0)) (os:Array Obj):w.grownBy (sortWorldK eK 3 w blk off m dk os) (some blk):=by
 refine ⟨rfl,rfl,rfl,?_,λj hj hne=>?_⟩
 ·simp [sortWorldK,Go.Sort.grow,putRowK,Go.Sort.putRow,Go.Sort.mapBlock,Go.Sort.ahead]
 ·have h2:blk≠j:=λe=>hne (by rw [e])
  simp [sortWorldK,Go.Sort.grow,putRowK,Go.Sort.putRow,Go.Sort.mapBlock,Go.Sort.ahead,Array.getElem?_append,Array.getElem_modify,hj,h2]
theorem vk {W0:World} (x:PE W0):(eK x)[0]! = .string x.1.1.nm/\(eK x)[1]! = .int .i64 x.1.1.pr/\(eK x)[2]! = x.1.2:=⟨rfl,rfl,rfl⟩
theorem GK {W0 w:World} {base g cap:Nat} {l:List (Pd × Value)} (h:w.ownsRow base 47 3 (.slice (some ⟨g,0,none⟩) l.length cap) l.length (prV l)) (d:Array (PE W0)) (hd:d.toList.map Subtype.val=l):HoldsK eK 3 w g 0 d/\g<w.heap.size/\base<=g:=by
 rcases h.2 with ⟨hv,_⟩|⟨g',cap',cur,hv,hb,hg,hc1,hc2,_,ht⟩
 ·cases hv
 cases hv;have hsz:d.size=l.length:=by rw [<- hd];simp
 refine ⟨λj hj=>?_,?_,hb⟩
 ·rw [Go.Sort.size_flatK] at hj;rw [Go.Sort.get_flatK _ _ _ _ hj];have hk:j / 3<l.length:=by omega
  have e:d[j / 3]!.1=l[j / 3]:=by
   have hk2:j / 3<d.size:=by omega
   rw [getElem!_pos d (j / 3) hk2]
   have:(d.toList.map Subtype.val)[j / 3]?=l[j / 3]?:=by rw [hd]
   rw [List.getElem?_map,Qf hk] at this
   simp [hk2] at this
   exact this
  obtain ⟨p0,p1,p2⟩:=sW l (j / 3) hk;have hx:(prV l)[j]?=some ((eK d[j / 3]!)[j % 3]!):=by
   obtain ⟨e0,e1,e2⟩:=vk d[j / 3]!
   have:j % 3=0\/j % 3=1\/j % 3=2:=by omega
   rcases this with r|r|r
   ·rw [r,e0,e];rw [show j / 3*3=j by omega] at p0;exact p0
   ·rw [r,e1,e];rw [show j / 3*3+1=j by omega] at p1;exact p1
   ·rw [r,e2,e];rw [show j / 3*3+2=j by omega] at p2;exact p2
  rw [<- ht,List.getElem?_take] at hx
  split at hx
  ·have hc:cur[j]?=some ((eK d[j / 3]!)[j % 3]!):=by simpa using hx
   refine ⟨?_,?_⟩
   ·unfold World.cell?;rw [hg];simp [hc]
   ·unfold World.frozen?;rw [hg];simp
  ·cases hx
 ·rcases Nat.lt_or_ge g w.heap.size with hlt|hge
  ·exact hlt
  ·rw [Array.getElem?_eq_none hge] at hg;cases hg
def mS (us:List Nd) (ps qs:List Pd):Prop:=qs.Perm ps/\mQ (qs.map (key us))
theorem GL (us:List Nd) (W0 w:World) (l:List (Pd × Value)) (v:Value) (K mc fc B n:Nat) (hrow:w.ownsRow K 47 3 v l.length (prV l)) (hok:∀ x∈l,OkE W0 x) (hl:l.length<=16) (hW:Below W0.heap.size W0 w) (hK0:W0.heap.size<=K)
  (hS:iw w mc fc B n us) (hmK:mc<K/\B<K) (hfr:∀ g,v.ownBlock=some g->fc≠g) (ht:eJ us) :
  Calls Tryz.prog 146 #[v,.func (.func 147) #[] #[.pointer (some ⟨fc,0,none⟩)]] w λe w'=>e=.returned (.tuple #[])/\(∃ qs,eu w' v qs/\mS us (l.map Prod.fst) qs)/\Below K w w':=by
 by_cases h0:0<l.length
 ·obtain ⟨g,cap,rfl,hc1,hc2,hgb,hglt,_⟩:=sT hrow h0
  let d:Array (PE W0):=(l.pmap (λx h=>(⟨x,h⟩:PE W0)) hok).toArray
  have hd:d.toList.map Subtype.val=l:=by
   show ((l.pmap (λx h=>(⟨x,h⟩:PE W0)) hok)).map Subtype.val=l
   rw [List.map_pmap]
   simp
  have hsz:d.size=l.length:=by rw [<- hd];simp
  obtain ⟨hH,_,_⟩:=GK hrow d hd;have eg:∀ args w,(callFunc 147 args).run Tryz.prog w=.ok (.enter 147 args) w:=enters_of Tryz.func147 (by kernel_rfl) rfl;have hfg:fc≠g:=hfr g rfl;have hcmp:CmpLays Tryz.prog 147 #[.pointer (some ⟨fc,0,none⟩)] (eK (W0:=W0)) 3 (cfE us) g 0 d.size w:=by
   intro m os dk _ x y;have hg:=pN w g 0 m dk os;have hbw:Below W0.heap.size W0 (sortWorldK eK 3 w g 0 m dk os):=hW.trans (below_grown hg (K:=W0.heap.size) (by have:=hW.size;omega) (λj hj=>by cases hj;omega));have hbK:Below K w (sortWorldK eK 3 w g 0 m dk os):=below_grown hg (K:=K) (by omega) (λj hj=>by cases hj;exact hgb);have hSt:iw (sortWorldK eK 3 w g 0 m dk os) mc fc B n us:=⟨(hbK.cell (p:=⟨mc,0,none⟩) hmK.1).trans hS.m,(hg.cell_far ⟨fc,0,none⟩ hS.lts.2.1 (by simpa using hfg)).trans hS.f,hS.u.below hbK hmK.2⟩;refine (Gz x.1.1 y.1.1 x.1.2 y.1.2 mc fc B n us _ (x.2.1.below hbw) (y.2.1.below hbw) x.2.2.1 y.2.2.1 x.2.2.2 y.2.2.2 hSt ht).mono λe w' ⟨he,hb,hdr⟩=>⟨he,GJ hb hdr⟩
  have h1:∀ x:PE W0,∀ v∈eK x,v.oneCell'=true:=by
   intro x v hv;obtain ⟨a,n,c,e⟩:=x.2.1.slice
   simp [eK,e] at hv
   rcases hv with rfl|rfl|rfl <;> rfl
  have hSo:=AnyQ.slices_SortFunc Tryz.sortPL 3 Tryz.isAgg47 Tryz.sizeOf47 (eK (W0:=W0)) (λ_=>rfl) h1 (cfE us) (GI us) 147 #[.pointer (some ⟨fc,0,none⟩)] g 0 cap d w eg hcmp hH hglt (by omega)
  change Calls Tryz.prog 146 _ _ _ at hSo
  rw [hsz] at hSo;refine hSo.mono λe w' ⟨he,d',m,os,hp,hs,hw'⟩=>⟨he,?_,?_⟩
  ·have hsz':d'.size=l.length:=by rw [hp.1,hsz]
   have hgr:=pN w g 0 m d' os;have hbw:Below W0.heap.size W0 w':=by rw [hw'];exact hW.trans (below_grown hgr (K:=W0.heap.size) (by have:=hW.size;omega) (λj hj=>by cases hj;omega))
   have hH':HoldsK eK 3 w' g 0 d':=by
    rw [hw'];exact Go.Sort.holdsK_grow _ _ _ _ _ _ _ (by simpa [putRowK,Go.Sort.putRow,Go.Sort.mapBlock,Go.Sort.ahead] using hglt) (Go.Sort.holdsK_putRowK _ _ _ _ _ d _ (Go.Sort.holdsK_ahead _ _ _ _ _ _ _ hH) (by rw [hp.1]))
   have hlen:(d'.toList.map λx=>x.1.1).length=l.length:=by simp [hsz']
   have hat:∀ k,k<l.length->pd (d'.toList.map λx=>x.1.1) k=d'[k]!.1.1:=by
    intro k hk;have hk2:k<d'.size:=by omega
    rw [getElem!_pos d' k hk2]
    simp [pd,hk2]
   refine ⟨d'.toList.map λx=>x.1.1,⟨_,cap,by rw [hlen],by rw [hlen];omega,λ_=>⟨g,0,λk=>d'[k]!.1.2,rfl,?_,λk hk=>?_⟩⟩,?_,?_⟩
   ·rw [hw'];exact Q1 hglt hgr.size
   ·rw [hlen] at hk;rw [hat k hk];have c0:=(hH'.cell (i:=k) (c:=0) (by omega) (by omega)).1;have c1:=(hH'.cell (i:=k) (c:=1) (by omega) (by omega)).1;have c2:=(hH'.cell (i:=k) (c:=2) (by omega) (by omega)).1;obtain ⟨e0,e1,e2⟩:=vk d'[k]!;rw [e0] at c0;rw [e1] at c1;rw [e2] at c2;exact ⟨⟨c0,c1,c2⟩,(d'[k]!).2.1.below hbw⟩
   ·have hperm:d'.toList.Perm d.toList:=by
     have:=hp.2.2
     simp only [Array.toList_extract,List.extract_eq_take_drop,List.drop_zero,Nat.sub_zero] at this;rw [List.take_of_length_le (by simp [hsz']),List.take_of_length_le (by simp [hsz])] at this;exact this
    have h2:=hperm.map (λx:PE W0=>x.1.1);have h3:d.toList.map (λx:PE W0=>x.1.1)=l.map Prod.fst:=by rw [<- hd,List.map_map];rfl
    rw [h3] at h2;exact h2
   ·unfold mQ;rw [List.pairwise_map,List.pairwise_map,List.pairwise_iff_getElem];intro i j hi hj hij;have hi2:i<d'.size:=by simpa using hi
    have hj2:j<d'.size:=by simpa using hj
    have:=hs i j (Nat.zero_le _) hij (by omega)
    rw [getElem!_pos d' j hj2,getElem!_pos d' i hi2,ltE] at this
    simpa using this
  ·rw [hw'];exact below_grown (pN w g 0 m d' os) (K:=K) (by omega) (λj hj=>by cases hj;exact hgb)
 ·have e:l=[]:=Qe (by omega);subst e;have hv:∃ p c,v=.slice p 0 c:=by
   rcases hrow.2 with ⟨hv,_⟩|⟨g,cap,cur,hv,_⟩
   ·exact ⟨none,0,hv⟩
   ·exact ⟨_,cap,hv⟩
  obtain ⟨p,c,rfl⟩:=hv;have hSo:=AnyF.slices_SortFunc_none (P:=Tryz.prog) (ρ:=Tryz.sortPL_ren) { Tryz.sortPL with } p c (.func (.func 147) #[] #[.pointer (some ⟨fc,0,none⟩)]) w
  change Calls Tryz.prog 146 _ _ _ at hSo
  exact hSo.mono λe w' ⟨he,hw'⟩=>⟨he,⟨[],⟨p,c,rfl,by simp,λh=>by simp at h⟩,List.Perm.refl _,List.Pairwise.nil⟩,by rw [hw'];exact Q0 _ _⟩
end
section
open RowKit
open Qos (Nd Ct Pd pd0 nd ct pd aU aV bT be eJ key iX gU mQ)
def jC (ps:List Pd):Prop:=ps.length<=16/\∀ x∈ps,bT x.cs/\x.nm.size<=1000
theorem jC.perm {ps qs:List Pd} (h:jC ps) (hp:qs.Perm ps):jC qs:=⟨by rw [hp.length_eq];exact h.1,λx hx=>h.2 x (hp.mem_iff.1 hx)⟩
theorem GM {w:World} {a:Addr} {v:Value} (h:w.cell? a=some v) (o:Obj):(w.alloc o).cell? a=some v:=
 (((Q0 w.heap.size w).alloc (lR) o).cell (Q3 w _ h)).trans h
theorem GN (v:Value) (ps:List Pd) (B n:Nat) (us:List Nd) (w:World) (h:eu w v ps) (hf:jC ps) (hU:cU w B n us) (ht:eJ us) :
  Calls Tryz.prog 107 #[v,.map (some B)] w λe w'=>(∃ v' qs,e=.returned v'/\eu w' v' qs/\mS us ps qs/\∃ a m c,v'=.slice a m c/\m<=c)/\Below w.heap.size w w':=by
 have hb1:=(Q0 w.heap.size w).alloc (lR) (.cells #[.map (some B)] 198);have HB1:=qI hb1;have HP1:=qI (h.below hb1);have HU1:=qI (hU.alloc (.cells #[.map (some B)] 198));have hm1:(w.alloc (.cells #[.map (some B)] 198)).cell? ⟨w.heap.size,0,none⟩=some (.map (some B)):=by simp
 have hs1:(w.alloc (.cells #[.map (some B)] 198)).heap.size=w.heap.size+1:=by simp
 have hBlt:=hU.lt;obtain ⟨ao,c,rfl,_,_⟩:=h;clear hb1 hU
 go_enter Tryz.func107,Tryz.ntmps107
 go_wp2_with fail
 generalize hW1:w.alloc (.cells #[.map (some B)] 198)=W1 at *;clear hW1;refine (GF _ ps _ HP1.out hf.1).mono ?_;rintro e w2 ⟨v2,l,rfl,hrow,hl,hc,hb2⟩;have HB2:=qI hb2;have HROW:=qI hrow;have hlen:l.length<=16:=by have:=hf.1;rw [<- hl,Q9] at this;exact this
 have HOK:=qI (show ∀ x∈l,OkE W1 x from λx hx=>by
  have hx':x.1∈ps:=by rw [<- hl];exact List.mem_map_of_mem hx
  exact ⟨hc x hx,(hf.2 x.1 hx').1,(hf.2 x.1 hx').2⟩)
 have HL:=qI hl;have hvs:∃ a nn cc,v2=.slice a nn cc/\nn<=cc:=by
  rcases hrow.2 with ⟨hv,_⟩|⟨g,cap,cur,hv,_,_,hc1,_⟩
  ·exact ⟨_,_,_,hv,lR⟩
  ·exact ⟨_,_,_,hv,hc1⟩
 have HST:=qI (show iw (w2.alloc (.cells #[.func (.func 145) #[] #[.pointer (some ⟨w.heap.size,0,none⟩)]] 118)) w.heap.size w2.heap.size B n us from
  ⟨GM ((hb2.cell (p:=⟨w.heap.size,0,none⟩) (by show w.heap.size<W1.heap.size;omega)).trans hm1) _,by simp,(HU1.out.below hb2 HU1.out.lt).alloc _⟩)
 have HB3:=qI (hb2.alloc (by have:=hb2.size;omega) (.cells #[.func (.func 145) #[] #[.pointer (some ⟨w.heap.size,0,none⟩)]] 118));have HROW3:=qI (World.ownsRow.alloc hrow (.cells #[.func (.func 145) #[] #[.pointer (some ⟨w.heap.size,0,none⟩)]] 118));have HLT:=qI (World.ownsRow.lt hrow);obtain ⟨a2,n2,c2,rfl,hnc⟩:=hvs;clear hrow hl hc hb2 hf HROW
 go_wp2_with fail
 refine (GL us W1 _ l _ W1.heap.size w.heap.size w2.heap.size B n HROW3.out HOK.out hlen HB3.out (lR) HST.out ⟨by omega,by omega⟩ (λg hg=>by have:=(HLT.out g hg).2;omega) ht).mono ?_;rintro e w4 ⟨rfl,⟨qs,hq,hso⟩,hb4⟩;have HQ:=qI hq;have HSO:=qI hso;have HB4:=qI (HB1.out.trans ((HB3.out.trans hb4).mono (by omega)));clear hq hso hb4
 go_wp2
 go_ret;exact ⟨⟨_,qs,rfl,HQ.out,(by rw [<- HL.out];exact HSO.out),_,_,_,rfl,hnc⟩,HB4.out⟩
def lw (w:World) (v:Value) (l:List ByteArray):Prop:=
 ∃ ao c,v=.slice ao l.length c/\l.length<=c/\(0<l.length->∃ g,ao=some ⟨g,0,none⟩/\g<w.heap.size/\∀ k,k<l.length->w.cell? ⟨g,k,none⟩=some (.string (l.getD k ByteArray.empty)))
theorem ix.read {base:Nat} {w:World} {v:Value} {l:List ByteArray} (h:ix base w v l):lw w v l:=by
 by_cases h0:0<l.length
 ·obtain ⟨g,cap,hv,hc1,_,_,hlt,hc⟩:=sT h h0;refine ⟨_,cap,hv,hc1,λ_=>⟨g,rfl,hlt,λk hk=>?_⟩⟩;refine hc k _ ?_
  simp [txV,hk]
 ·rcases h.2 with ⟨hv,hn⟩|⟨g,cap,cur,hv,_,_,hc1,_⟩
  ·exact ⟨none,0,by rw [hv];simp at h0;simp [h0],by omega,λh=>by omega⟩
  ·exact ⟨_,cap,hv,hc1,λh=>by omega⟩
end
section
open RowKit
open Qos (Nd nd be Tot)
theorem vl (h l n:Int) (w:World) (hl0:0<=l) (hl1:l<1073741824) (hh:-17179869184<=h) (hh2:h<=17179869184) (hn:-9223372036854775808<=n) (hn2:n<=9223372036854775807) :
  Calls Tryz.prog 108 #[.agg #[.int .i64 h,.int .i64 l],.int .i64 n] w λe w'=>e=.returned (.agg #[.int .i64 (h+n / 1073741824+(l+n % 1073741824) / 1073741824),.int .i64 ((l+n) % 1073741824)])/\Below w.heap.size w w':=by
 have e1:=Qos.qA n;have e2:=Qos.qA (l+n % 1073741824);have w1:wrap64 (l+n % 1073741824)=l+n % 1073741824:=by unfold wrap64;omega
 have w2:wrap64 (h+n / 1073741824)=h+n / 1073741824:=by unfold wrap64;omega
 have w3:wrap64 (h+n / 1073741824+(l+n % 1073741824) / 1073741824)=h+n / 1073741824+(l+n % 1073741824) / 1073741824:=by unfold wrap64;omega
 go_enter Tryz.func108,Tryz.ntmps108
 go_wp2_with fail
 (try simp only [Exit.inBlock,Exit.then]);refine bodyPost_ret (v:=.agg #[.int .i64 (h+n / 1073741824+(l+n % 1073741824) / 1073741824),.int .i64 ((l+n) % 1073741824)]) ?_ rfl ⟨rfl,?_⟩
 ·rw [my rfl];clear e1 e2 w1 w2 w3;go_simp
 ·exact ((Q0 _ _).alloc (lR) _).alloc (by simp) _
end
