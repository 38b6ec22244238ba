import Derived.Test.YtbmmnflgnmjboaaGreatDoorK10
import Derived.Test.YtbmmnflgnmjboaaGreatDoorK21
set_option maxRecDepth 100000
set_option maxHeartbeats 16000000
namespace Go.Proofs.YtbmmnflgnmjboaaGreatDoor
section
open RowKit
open Qos (Nd Ct Pd nd ct pd ah)
structure Ac where
 kd:ByteArray
 s:ByteArray
 a:Int
 b:Int
 m:Nat
 lv:Value
 p:Pd
 cv:Value
 us:List Nd
 uv:Value
def lE (x:Ac):List Value:=[.string x.kd,.string x.s,.int .i64 x.a,.int .i64 x.b,.int .u8 x.m,x.lv,.string x.p.nm,.int .i64 x.p.pr,x.cv,x.uv]
structure kj (W:World) (x:Ac):Prop where
 l:∃ la ll lc,x.lv=.slice la ll lc
 c:aE W x.cv x.p.cs
 u:bc W x.uv x.us
 a:-9223372036854775808<=x.a/\x.a<=9223372036854775807
theorem kj.below {W W':World} {x:Ac} (h:kj W x) (hb:Below W.heap.size W W'):kj W' x:=⟨h.l,h.c.below hb,h.u.below hb,h.a⟩
def ac (xs:List Ac) (k:Nat):Ac:=xs.getD k ⟨ByteArray.empty,ByteArray.empty,0,0,0,.nilIface,⟨ByteArray.empty,0,[]⟩,.nilIface,[],.nilIface⟩
def jH (W:World) (v:Value) (xs:List Ac):Prop:=∃ ao c,v=.slice ao xs.length c/\xs.length<=maxLen/\(0<xs.length->∃ b o,ao=some ⟨b,o,none⟩/\b<W.heap.size/\∀ k,k<xs.length->(∀ j,j<10->W.cell? ⟨b,o+k*10+j,none⟩=(lE (ac xs k))[j]?)/\kj W (ac xs k))
theorem jH.below {W W':World} {v:Value} {xs:List Ac} (h:jH W v xs) (hb:Below W.heap.size W W'):jH W' v xs:=by
 obtain ⟨ao,c,hv,hm,hr⟩:=h;refine ⟨ao,c,hv,hm,λh0=>?_⟩;obtain ⟨b,o,ha,hlt,hc⟩:=hr h0;exact ⟨b,o,ha,Q1 hlt hb.size,λk hk=>⟨λj hj=>(hb.cell (p:=⟨b,_,none⟩) hlt).trans ((hc k hk).1 j hj),(hc k hk).2.below hb⟩⟩
def wv (W:World) (cs:List Value):Prop:=∃ x:Ac,cs=lE x/\kj W x
theorem IV {W:World} {v:Value} (h:dr W v 10 (wv W)):∃ xs,jH W v xs:=by
 obtain ⟨ao,len,c,rfl,hm,hr⟩:=h
 by_cases h0:len=0
 ·subst h0;exact ⟨[],ao,c,rfl,by simp,λh=>by simp at h⟩
 ·obtain ⟨b,o,rfl,hlt,hc⟩:=hr (by omega)
  haveI:Inhabited Ac:=⟨ac [] 0⟩
  obtain ⟨f,hf⟩:=Deep.choose_lt (α:=Ac) (n:=len) (p:=λk d=>(∀ j,j<10->W.cell? ⟨b,o+k*10+j,none⟩=(lE d)[j]?)/\kj W d) (λk hk=>by
   obtain ⟨cs,_,hcs,x,rfl,hx⟩:=hc k hk;exact ⟨x,hcs,hx⟩)
  refine ⟨(List.range len).map f,_,c,by simp,by simpa using hm,λ_=>⟨b,o,rfl,hlt,λk hk=>?_⟩⟩;have hk':k<len:=by simpa using hk
  have e:ac ((List.range len).map f) k=f k:=by simp [ac,hk']
  rw [e];exact hf k hk'
section
variable {H:Type} {enc:TypeId × Value->H} {W:World}
theorem IW {n:Nat} {cs:List Value} {y:DataW H × List MemPlace} (hl:cs.length=10) (h:DataW.trod enc Tryz.prog W 0 (λ_=>true) true n 50 cs=some y):wv W cs:=by
 obtain ⟨_,_,h2⟩:=bM Tryz.underlying50 h 2 3 2 _ fB rfl;obtain ⟨_,_,h6⟩:=bM Tryz.underlying50 h 6 47 6 _ rN rfl;obtain ⟨_,_,h7⟩:=bM Tryz.underlying50 h 7 48 9 _ rP rfl;obtain ⟨kd,s,a,b,m,lv,nm,pr,cv,uv,rfl,_,hlv,_,_⟩:=AE hl h;obtain ⟨x2,e2,_,hwf⟩:=DataW.trod_int Tryz.underlying3 h2;obtain ⟨p,cv',e6,hc⟩:=Co rfl h6;obtain ⟨us,hu⟩:=Cp h7;obtain ⟨la,ll,lc,hlv,_,_⟩:=hlv
 simp at e2 e6
 obtain ⟨e6,e7,e8⟩:=e6;refine ⟨⟨kd,s,a,b,m,lv,p,cv,us,uv⟩,?_,⟨⟨la,ll,lc,hlv⟩,?_,hu,?_⟩⟩
 ·unfold lE;rw [e6,e7]
 ·rw [e8];exact hc
 ·rw [e2];exact bounds_i64 hwf
theorem IX {n:Nat} {v:Value} {y:DataW H × List MemPlace} (h:DataW.trod enc Tryz.prog W 0 (λ_=>true) true n 28 [v]=some y):∃ xs,jH W v xs:=
 IV (jk Tryz.underlying28 Aw (by decide) h λ_ _ _ hl h=>IW hl h)
end
def lF (xs:List Ac) (k:Nat):Prop:=∀ j,j<k->jB (ac xs j).us
theorem lF.next {xs:List Ac} {k:Nat} (h:lF xs k) (h1:jB (ac xs k).us):lF xs (k+1):=λj hj=>by
 by_cases e:j=k
 ·rw [e];exact h1
 ·exact h j (by omega)
def IY (xs:List Ac) (most:Int) (e:Ending):Prop:=∃ b,e=.returned (.bool b)/\(b=true->(xs.length:Int)<=most/\lF xs xs.length)
theorem IZ (v:Value) (xs:List Ac) (most:Int) (w:World) (h:jH w v xs):Calls Tryz.prog 10 #[v,.int .i64 most] w λe w'=>IY xs most e/\Below w.heap.size w w':=by
 obtain ⟨ao,c,rfl,hm,hr⟩:=h;have HR:=qI hr;unfold maxLen at hm;clear hr
 by_cases hmo:most<xs.length
 ·go_enter Tryz.func10,Tryz.ntmps10
  go_wp2
  go_ret;exact ⟨⟨_,rfl,λh=>by cases h⟩,Q0 _ _⟩
 have hd:decide (most<(xs.length:Int))=false:=Q7 hmo;have HMO:=qI (show (xs.length:Int)<=most by omega);clear hmo
 go_enter Tryz.func10,Tryz.ntmps10
 go_wp2
 go_loopw [5] (λi wr=>∃ k:Nat,k<=xs.length/\i=.int .i64 k/\Below w.heap.size w wr/\lF xs k) (λi _=>xs.length - (intOf i).toNat)
 case atStart=>exact ⟨0,by omega,rfl,Q0 _ _,λj hj=>absurd hj (Nat.not_lt_zero _)⟩
 case round=>
  obtain ⟨k,hk,rfl,hB,hact⟩:=hrel;have HACT:=qI hact;have HBk:=qI hB;clear hact
  by_cases hlt:k<xs.length
  ·obtain ⟨b,o,rfl,hlb,hcs⟩:=HR.out (by omega);obtain ⟨hc,hok⟩:=hcs k hlt;have HNX:=qI HACT.out.next;generalize ac xs k=x at *;have hcw:∀ j,j<10->wr.cell? ⟨b,o+k*10+j,none⟩=(lE x)[j]?:=λj hj=>(hB.cell (p:=⟨b,o+k*10+j,none⟩) hlb).trans (hc j hj)
   have hokw:=hok.below hB;obtain ⟨la,ll,lc,hlv⟩:=hok.l;obtain ⟨ca,cc,hcv,_⟩:=id hok.c;obtain ⟨ua,uc,huv,_⟩:=id hok.u;have c1:wr.cell? ⟨b,o+k*10+1,none⟩=some (.string x.s):=hcw 1 (by decide);have c5:wr.cell? ⟨b,o+k*10+5,none⟩=some (.slice la ll lc):=by rw [<- hlv];exact hcw 5 (by decide)
   have c6:wr.cell? ⟨b,o+k*10+6,none⟩=some (.string x.p.nm):=hcw 6 (by decide);have c7:wr.cell? ⟨b,o+k*10+6+1,none⟩=some (.int .i64 x.p.pr):=hcw 7 (by decide);have c8:wr.cell? ⟨b,o+k*10+6+2,none⟩=some (.slice ca x.p.cs.length cc):=by rw [<- hcv];exact hcw 8 (by decide)
   have c9:wr.cell? ⟨b,o+k*10+9,none⟩=some (.slice ua x.us.length uc):=by rw [<- huv];exact hcw 9 (by decide)
   have hlbw:b<wr.heap.size:=Q1 hlb hB.size;have HPd:=qI (DN (p:=x.p) hokw.c);rw [hcv] at HPd;unfold bQ at HPd;have HU:=qI hokw.u;rw [huv] at HU;clear hc hcs hcw hB hok hokw hlv hcv huv HACT
   by_cases h7:7000<x.s.size
   ·go_wp2
    go_ret;exact ⟨⟨_,rfl,λh=>by cases h⟩,HBk.out⟩
   have h7':x.s.size<=7000:=by omega
   clear h7
   by_cases h30:30<ll
   ·go_wp2
    go_ret;exact ⟨⟨_,rfl,λh=>by cases h⟩,HBk.out⟩
   have h30':ll<=30:=by omega
   clear h30
   go_wp2_with fail
   refine HPd.out.mono ?_;rintro e w1 ⟨⟨b1,rfl⟩,hb1⟩;have HB1:=qI (HBk.out.trans (hb1.mono HBk.out.size));have HU1:=qI (HU.out.below hb1);have c9':=(hb1.cell (p:=⟨b,o+k*10+9,none⟩) hlbw).trans c9;clear hb1 HU HPd HBk c1 c5 c6 c7 c8 c9
   rcases two b1 with e1|e1
   ·subst e1
    go_wp2_with fail
    refine (IM _ _ _ HU1.out).mono ?_;rintro e w2 ⟨⟨b2,rfl,hyes⟩,rfl⟩
    rcases two b2 with e2|e2
    ·have HNK:=qI (HNX.out (hyes e2));subst e2;clear hyes
     go_wp2
     go_roundw
     case rel=>exact ⟨k+1,by omega,by go_num,HB1.out,HNK.out⟩
     case measure=>simp [intOf];omega
    ·subst e2;clear hyes
     go_wp2
     go_ret;exact ⟨⟨_,rfl,λh=>by cases h⟩,HB1.out⟩
   ·subst e1
    go_wp2
    go_ret;exact ⟨⟨_,rfl,λh=>by cases h⟩,HB1.out⟩
  ·have hke:k=xs.length:=by omega
   subst hke;clear hB
   go_wp2
   go_ret;exact ⟨⟨_,rfl,λ_=>⟨HMO.out,HACT.out⟩⟩,HBk.out⟩
end
