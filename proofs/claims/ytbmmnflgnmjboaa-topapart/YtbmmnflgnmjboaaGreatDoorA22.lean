import Derived.Test.YtbmmnflgnmjboaaGreatDoorA10
import Derived.Test.YtbmmnflgnmjboaaGreatDoorA21
set_option maxRecDepth 100000
set_option maxHeartbeats 16000000
namespace Go.Proofs.YtbmmnflgnmjboaaGreatDoor
section
open RowKit
open Qos (Nd Ct Pd nd ct pd ag)
structure Ac where
 kd:ByteArray
 s:ByteArray
 a:Int
 b:Int
 m:Nat
 lv:Value
 p:Pd
 cv:Value
 us:List Nd
 uv:Value
def mZ (x:Ac):List Value:=[.string x.kd,.string x.s,.int .i64 x.a,.int .i64 x.b,.int .u8 x.m,x.lv,.string x.p.nm,.int .i64 x.p.pr,x.cv,x.uv]
structure lz (W:World) (x:Ac):Prop where
 l:∃ la ll lc,x.lv=.slice la ll lc
 c:aD W x.cv x.p.cs
 u:bf W x.uv x.us
 a:-9223372036854775808<=x.a/\x.a<=9223372036854775807
theorem lz.below {W W':World} {x:Ac} (h:lz W x) (hb:Below W.heap.size W W'):lz W' x:=⟨h.l,h.c.below hb,h.u.below hb,h.a⟩
def ac (xs:List Ac) (k:Nat):Ac:=xs.getD k ⟨ByteArray.empty,ByteArray.empty,0,0,0,.nilIface,⟨ByteArray.empty,0,[]⟩,.nilIface,[],.nilIface⟩
def kw (W:World) (v:Value) (xs:List Ac):Prop:=∃ ao c,v=.slice ao xs.length c/\xs.length<=maxLen/\(0<xs.length->∃ b o,ao=some ⟨b,o,none⟩/\b<W.heap.size/\∀ k,k<xs.length->(∀ j,j<10->W.cell? ⟨b,o+k*10+j,none⟩=(mZ (ac xs k))[j]?)/\lz W (ac xs k))
theorem kw.below {W W':World} {v:Value} {xs:List Ac} (h:kw W v xs) (hb:Below W.heap.size W W'):kw W' v xs:=by
 obtain ⟨ao,c,hv,hm,hr⟩:=h;refine ⟨ao,c,hv,hm,λh0=>?_⟩;obtain ⟨b,o,ha,Ha,hc⟩:=hr h0;exact ⟨b,o,ha,Q1 Ha hb.size,λk hk=>⟨λj hj=>(hb.cell (p:=⟨b,_,none⟩) Ha).trans ((hc k hk).1 j hj),(hc k hk).2.below hb⟩⟩
def yY (W:World) (cs:List Value):Prop:=∃ x:Ac,cs=mZ x/\lz W x
theorem KF {W:World} {v:Value} (h:dC W v 10 (yY W)):∃ xs,kw W v xs:=by
 obtain ⟨ao,len,c,rfl,hm,hr⟩:=h
 by_cases h0:len=0
 ·subst h0;exact ⟨[],ao,c,rfl,by simp,λh=>by simp at h⟩
 ·obtain ⟨b,o,rfl,Hb,hc⟩:=hr (by omega)
  haveI:Inhabited Ac:=⟨ac [] 0⟩
  obtain ⟨f,hf⟩:=Deep.choose_lt (α:=Ac) (n:=len) (p:=λk d=>(∀ j,j<10->W.cell? ⟨b,o+k*10+j,none⟩=(mZ d)[j]?)/\lz W d) (λk hk=>by
   obtain ⟨cs,_,Hc,x,rfl,hx⟩:=hc k hk;exact ⟨x,Hc,hx⟩)
  refine ⟨(List.range len).map f,_,c,by simp,by simpa using hm,λ_=>⟨b,o,rfl,Hb,λk hk=>?_⟩⟩;have Ha:k<len:=by simpa using hk
  have e:ac ((List.range len).map f) k=f k:=by simp [ac,Ha]
  rw [e];exact hf k Ha
section
variable {H:Type} {enc:TypeId × Value->H} {W:World}
theorem KG {n:Nat} {cs:List Value} {y:DataW H × List MemPlace} (hl:cs.length=10) (h:DataW.trod enc Tryz.prog W 0 (λ_=>true) true n 50 cs=some y):yY W cs:=by
 obtain ⟨_,_,h2⟩:=bO Tryz.underlying50 h 2 3 2 _ fS rfl;obtain ⟨_,_,h6⟩:=bO Tryz.underlying50 h 6 47 6 _ uu rfl;obtain ⟨_,_,h7⟩:=bO Tryz.underlying50 h 7 48 9 _ ux rfl;obtain ⟨kd,s,a,b,m,lv,nm,pr,cv,uv,rfl,_,Ha,_,_⟩:=CV hl h;obtain ⟨x2,e2,_,Hb⟩:=DataW.trod_int Tryz.underlying3 h2;obtain ⟨p,cv',e6,hc⟩:=Es rfl h6;obtain ⟨us,hu⟩:=Et h7;obtain ⟨la,ll,lc,Ha,_,_⟩:=Ha
 simp at e2 e6
 obtain ⟨e6,e7,e8⟩:=e6;refine ⟨⟨kd,s,a,b,m,lv,p,cv,us,uv⟩,?_,⟨⟨la,ll,lc,Ha⟩,?_,hu,?_⟩⟩
 ·unfold mZ;rw [e6,e7]
 ·rw [e8];exact hc
 ·rw [e2];exact bounds_i64 Hb
theorem KH {n:Nat} {v:Value} {y:DataW H × List MemPlace} (h:DataW.trod enc Tryz.prog W 0 (λ_=>true) true n 28 [v]=some y):∃ xs,kw W v xs:=
 KF (j3 Tryz.underlying28 CN (by decide) h λ_ _ _ hl h=>KG hl h)
end
def m5 (xs:List Ac) (k:Nat):Prop:=∀ j,j<k->ko (ac xs j).us
theorem m5.next {xs:List Ac} {k:Nat} (h:m5 xs k) (h1:ko (ac xs k).us):m5 xs (k+1):=λj hj=>by
 by_cases e:j=k
 ·rw [e];exact h1
 ·exact h j (by omega)
def KI (xs:List Ac) (most:Int) (e:Ending):Prop:=∃ b,e=.returned (.bool b)/\(b=true->(xs.length:Int)<=most/\m5 xs xs.length)
theorem KJ (v:Value) (xs:List Ac) (most:Int) (w:World) (h:kw w v xs):Calls Tryz.prog 10 #[v,.int .i64 most] w λe w'=>KI xs most e/\Below w.heap.size w w':=by
 obtain ⟨ao,c,rfl,hm,hr⟩:=h;have HR:=qI hr;unfold maxLen at hm;clear hr
 by_cases hmo:most<xs.length
 ·go_enter Tryz.func10,Tryz.ntmps10
  go_wp2
  go_ret;exact ⟨⟨_,rfl,λh=>by cases h⟩,Q0 _ _⟩
 have hd:decide (most<(xs.length:Int))=false:=Q7 hmo;have Hs:=qI (show (xs.length:Int)<=most by omega);clear hmo
 go_enter Tryz.func10,Tryz.ntmps10
 go_wp2
 go_loopw [5] (λi wr=>∃ k:Nat,k<=xs.length/\i=.int .i64 k/\Below w.heap.size w wr/\m5 xs k) (λi _=>xs.length - (intOf i).toNat)
 case atStart=>exact ⟨0,by omega,rfl,Q0 _ _,λj hj=>absurd hj (Nat.not_lt_zero _)⟩
 case round=>
  obtain ⟨k,hk,rfl,hB,Hh⟩:=hrel;have He:=qI Hh;have Hf:=qI hB;clear Hh
  by_cases hlt:k<xs.length
  ·obtain ⟨b,o,rfl,Hp,Ho⟩:=HR.out (by omega);obtain ⟨hc,Hg⟩:=Ho k hlt;have Ht:=qI He.out.next;generalize ac xs k=x at *;have Hb:∀ j,j<10->wr.cell? ⟨b,o+k*10+j,none⟩=(mZ x)[j]?:=λj hj=>(hB.cell (p:=⟨b,o+k*10+j,none⟩) Hp).trans (hc j hj)
   have Ha:=Hg.below hB;obtain ⟨la,ll,lc,Hq⟩:=Hg.l;obtain ⟨ca,cc,Hm,_⟩:=id Hg.c;obtain ⟨ua,uc,Hn,_⟩:=id Hg.u;have c1:wr.cell? ⟨b,o+k*10+1,none⟩=some (.string x.s):=Hb 1 (by decide);have c5:wr.cell? ⟨b,o+k*10+5,none⟩=some (.slice la ll lc):=by rw [<- Hq];exact Hb 5 (by decide)
   have c6:wr.cell? ⟨b,o+k*10+6,none⟩=some (.string x.p.nm):=Hb 6 (by decide);have c7:wr.cell? ⟨b,o+k*10+6+1,none⟩=some (.int .i64 x.p.pr):=Hb 7 (by decide);have c8:wr.cell? ⟨b,o+k*10+6+2,none⟩=some (.slice ca x.p.cs.length cc):=by rw [<- Hm];exact Hb 8 (by decide)
   have c9:wr.cell? ⟨b,o+k*10+9,none⟩=some (.slice ua x.us.length uc):=by rw [<- Hn];exact Hb 9 (by decide)
   have Hk:b<wr.heap.size:=Q1 Hp hB.size;have Hi:=qI (FM (p:=x.p) Ha.c);rw [Hm] at Hi;unfold bV at Hi;have HU:=qI Ha.u;rw [Hn] at HU;clear hc Ho Hb hB Hg Ha Hq Hm Hn He
   by_cases h7:7000<x.s.size
   ·go_wp2
    go_ret;exact ⟨⟨_,rfl,λh=>by cases h⟩,Hf.out⟩
   have Hx:x.s.size<=7000:=by omega
   clear h7
   by_cases h30:30<ll
   ·go_wp2
    go_ret;exact ⟨⟨_,rfl,λh=>by cases h⟩,Hf.out⟩
   have Hr:ll<=30:=by omega
   clear h30
   go_wp2_with fail
   refine Hi.out.mono ?_;rintro e w1 ⟨⟨b1,rfl⟩,Hj⟩;have Hl:=qI (Hf.out.trans (Hj.mono Hf.out.size));have Hw:=qI (HU.out.below Hj);have c9':=(Hj.cell (p:=⟨b,o+k*10+9,none⟩) Hk).trans c9;clear Hj HU Hi Hf c1 c5 c6 c7 c8 c9
   rcases two b1 with e1|e1
   ·subst e1
    go_wp2_with fail
    refine (Kx _ _ _ Hw.out).mono ?_;rintro e w2 ⟨⟨b2,rfl,Hc⟩,rfl⟩
    rcases two b2 with e2|e2
    ·have Hu:=qI (Ht.out (Hc e2));subst e2;clear Hc
     go_wp2
     go_roundw
     case rel=>exact ⟨k+1,by omega,by go_num,Hl.out,Hu.out⟩
     case measure=>simp [intOf];omega
    ·subst e2;clear Hc
     go_wp2
     go_ret;exact ⟨⟨_,rfl,λh=>by cases h⟩,Hl.out⟩
   ·subst e1
    go_wp2
    go_ret;exact ⟨⟨_,rfl,λh=>by cases h⟩,Hl.out⟩
  ·have Hv:k=xs.length:=by omega
   subst Hv;clear hB
   go_wp2
   go_ret;exact ⟨⟨_,rfl,λ_=>⟨Hs.out,He.out⟩⟩,Hf.out⟩
end
