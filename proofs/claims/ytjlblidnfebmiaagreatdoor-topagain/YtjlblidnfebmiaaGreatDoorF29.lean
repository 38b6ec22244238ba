import Derived.Test.YtjlblidnfebmiaaGreatDoorF15
import Derived.Test.YtjlblidnfebmiaaGreatDoorF28
set_option maxRecDepth 100000
set_option maxHeartbeats 16000000
open Go Go.RowKit
open Go.Proofs.Tryz
namespace Go.Proofs.YtjlblidnfebmiaaGreatDoor
variable{W W':World}{v:Value}
structure Ac where
 kd:ByteArray
 s:ByteArray
 a:Int
 b:Int
 m:Nat
 lv:Value
 p:aj
 cv:Value
 us:List ap
 uv:Value
def rK (x:Ac):List Value:=[.string x.kd,.string x.s,.int .i64 x.a,.int .i64 x.b,.int .u8 x.m,x.lv,.string x.p.nm,.int .i64 x.p.pr,x.cv,x.uv]
structure pS (W:World) (x:Ac):Prop where
 l:∃la ll lc,x.lv=.slice la ll lc
 c:aQ W x.cv x.p.cs
 u:bv W x.uv x.us
 a:-9223372036854775808<=x.a/\x.a<=9223372036854775807
theorem pS.below{x:Ac}(h:pS W x)(a:Below W W W'):pS W' x:=⟨h.l,h.c.below a,h.u.below a,h.a⟩
def ac (xs:List Ac) (k:Nat):Ac:=xs.getD k ⟨ByteArray.empty,ByteArray.empty,0,0,0,.nilIface,⟨ByteArray.empty,0,[]⟩,.nilIface,[],.nilIface⟩
def oE (W:World) (v:Value) (xs:List Ac):Prop:=∃ao c,v=.slice ao xs.length c/\xs.length<=maxLen/\(0<xs.length->∃b o,ao=some ⟨b,o,none⟩/\b<W.heap.size/\∀k,k<xs.length->(∀j,j<10->W.cell? ⟨b,o+k*10+j,none⟩=(rK (ac xs k))[j]?)/\pS W (ac xs k))
theorem oE.below{d:List Ac}(h:oE W v d)(a:Below W W W'):oE W' v d:=by
 obtain⟨i,c,m,n,q⟩:=h;refine⟨i,c,m,n,λg=>?_⟩;obtain⟨b,o,l,Ha,f⟩:=q g;exact⟨b,o,l,Q1 Ha a.size,λk e=>⟨λj r=>(a.cell (p:=⟨b,_,none⟩) Ha).trans ((f k e).1 j r),(f k e).2.below a⟩⟩
def EI (W:World) (cs:List Value):Prop:=∃x:Ac,cs=rK x/\pS W x
theorem T6(h:er W v 10 (EI W)):∃i,oE W v i:=by
 obtain⟨q,len,c,rfl,r,s⟩:=h
 by_cases m:len=0
 ·subst m;exact⟨[],q,c,rfl,by simp,λh=>by simp at h⟩
 ·obtain⟨b,o,rfl,Hb,g⟩:=s (by omega)
  haveI:Inhabited Ac:=⟨ac [] 0⟩
  obtain⟨f,hf⟩:=Deep.choose_lt (α:=Ac) (n:=len) (p:=λk d=>(∀j,j<10->W.cell? ⟨b,o+k*10+j,none⟩=(rK d)[j]?)/\pS W d) (λk a=>by
   obtain⟨cs,_,Hc,x,rfl,l⟩:=g k a;exact⟨x,Hc,l⟩)
  refine⟨(List.range len).map f,_,c,by simp,by simpa using r,λ_=>⟨b,o,rfl,Hb,λk a=>?_⟩⟩;have Ha:k<len:=by simpa using a
  have e:ac ((List.range len).map f) k=f k:=by simp[ac,Ha]
  rw[e];exact hf k Ha
section
variable{H:Type}{enc:TypeId × Value->H}{W:World}
theorem T7{n:Nat}{cs:List Value}{y:DataW H × List MemPlace}(j:cs.length=10)(h:DataW.trod enc prog W 0 (λ_=>true) true n 52 cs=some y):EI W cs:=by
 obtain⟨_,_,g⟩:=cO underlying52 h 2 3 2 _ jq rfl;obtain⟨_,_,q⟩:=cO underlying52 h 6 49 6 _ vE rfl;obtain⟨_,_,i⟩:=cO underlying52 h 7 50 9 _ Aa rfl;obtain⟨kd,s,a,b,m,lv,nm,pr,cv,uv,rfl,_,Ha,_,_⟩:=Jr j h;obtain⟨u,d,_,Hb⟩:=DataW.trod_int underlying3 g;obtain⟨p,r,c,l⟩:=K1 rfl q;obtain⟨us,f⟩:=K6 i;obtain⟨la,e,k,Ha,_,_⟩:=Ha
 simp at d c
 obtain⟨c,o,t⟩:=c;refine⟨⟨kd,s,a,b,m,lv,p,cv,us,uv⟩,?_,⟨⟨la,e,k,Ha⟩,?_,f,?_⟩⟩
 ·unfold rK;rw[c,o]
 ·rw[t];exact l
 ·rw[d];exact bounds_i64 Hb
theorem T8{n:Nat}{v:Value}{y:DataW H × List MemPlace}(h:DataW.trod enc prog W 0 (λ_=>true) true n 28 [v]=some y):∃a,oE W v a:=
 T6 (mo underlying28 Jk (by decide) h λ_ _ _ b h=>T7 b h)
end
def rL (xs:List Ac) (k:Nat):Prop:=∀j,j<k->oy (ac xs j).us
theorem rL.next{a:List Ac}{k:Nat}(h:rL a k)(b:oy (ac a k).us):rL a (k+1):=λj c=>by
 by_cases e:j=k
 ·rw[e];exact b
 ·exact h j (by omega)
def T9 (xs:List Ac) (most:Int) (e:Ending):Prop:=∃b,e=.returned (.bool b)/\(b=true->(xs.length:Int)<=most/\rL xs xs.length)
theorem Ua(v:Value)(d:List Ac)(a:Int)(w:World)(h:oE w v d):Calls prog 8 #[v,a] w λe w'=>T9 d a e/\Below w w w':=by
 obtain⟨N,c,rfl,L,z⟩:=h;have F:=qI z;unfold maxLen at L;clear z
 by_cases g:a<d.length
 ·go_enter func8,ntmps8
  go_wp2
  go_ret;exact⟨⟨_,rfl,λh=>by cases h⟩,Q0 _ _⟩
 have hd:decide (a<(d.length:Int))=false:=Q7 g;have Hv:=qI (show (d.length:Int)<=a by omega);clear g
 go_enter func8,ntmps8
 go_wp2
 go_loopw [5] (λi wr=>∃k:Nat,k<=d.length/\i=.int .i64 k/\Below w w wr/\rL d k) (λi _=>d.length - (intOf i).toNat)
 case atStart=>exact⟨0,by omega,rfl,Q0 _ _,λj t=>absurd t (Nat.not_lt_zero _)⟩
 case round=>
  obtain⟨k,P,rfl,f,Hh⟩:=hrel;have Hb:=qI Hh;have Hf:=qI f;clear Hh
  by_cases m:k<d.length
  ·obtain⟨b,o,rfl,Hq,Ho⟩:=F.o (by omega);obtain⟨u,Hg⟩:=Ho k m;have Ht:=qI Hb.o.next;generalize ac d k=x at *;have Ha:∀j,j<10->wr.cell? ⟨b,o+k*10+j,none⟩=(rK x)[j]?:=λj t=>(f.cell (p:=⟨b,o+k*10+j,none⟩) Hq).trans (u j t)
   have He:=Hg.below f;obtain⟨la,q,I,Hp⟩:=Hg.l;obtain⟨ca,cc,Hk,_⟩:=id Hg.c;obtain⟨B,G,Hl,_⟩:=id Hg.u;have c1:cl wr b (o+k*10+1) x.s:=Ha 1 (by decide);have K:cl wr b (o+k*10+5) (.slice la q I):=by rw[<- Hp];exact Ha 5 (by decide)
   have D:cl wr b (o+k*10+6) x.p.nm:=Ha 6 (by decide);have E:cl wr b (o+k*10+6+1) (x.p.pr:Int):=Ha 7 (by decide);have J:cl wr b (o+k*10+6+2) (.slice ca x.p.cs.length cc):=by rw[<- Hk];exact Ha 8 (by decide)
   have y:cl wr b (o+k*10+9) (.slice B x.us.length G):=by rw[<- Hl];exact Ha 9 (by decide)
   have Hn:b<wr:=Q1 Hq f.size;have Hi:=qI (N7 (p:=x.p) He.c);rw[Hk] at Hi;unfold cz at Hi;have n:=qI He.u;rw[Hl] at n;clear u Ho Ha f Hg He Hp Hk Hl Hb
   by_cases A:7000<x.s.size
   ·go_wp2
    go_ret;exact⟨⟨_,rfl,λh=>by cases h⟩,Hf.o⟩
   have Hx:x.s.size<=7000:=by omega
   clear A
   by_cases s:30<q
   ·go_wp2
    go_ret;exact⟨⟨_,rfl,λh=>by cases h⟩,Hf.o⟩
   have Hr:q<=30:=by omega
   clear s
   go_wp2_with fail
   refine Hi.o.mono ?_;rintro e M ⟨⟨b1,rfl⟩,Hj⟩;have Hm:=qI (Hf.o.trans (Hj.mono Hf.o.size));have C:=qI (n.o.below Hj);have H:=(Hj.cell (p:=⟨b,o+k*10+9,none⟩) Hn).trans y;clear Hj n Hi Hf c1 K D E J y
   rcases two b1 with r|r
   ·subst r
    go_wp2_with fail
    refine (TY _ _ _ C.o).mono ?_;rintro e O ⟨⟨b2,rfl,Hc⟩,rfl⟩
    rcases two b2 with l|l
    ·have Hs:=qI (Ht.o (Hc l));subst l;clear Hc
     go_wp2
     go_roundw
     case rel=>exact⟨k+1,by omega,by go_num,Hm.o,Hs.o⟩
     case measure=>simp[intOf];omega
    ·subst l;clear Hc
     go_wp2
     go_ret;exact⟨⟨_,rfl,λh=>by cases h⟩,Hm.o⟩
   ·subst r
    go_wp2
    go_ret;exact⟨⟨_,rfl,λh=>by cases h⟩,Hm.o⟩
  ·have Hw:k=d.length:=by omega
   subst Hw;clear f
   go_wp2
   go_ret;exact⟨⟨_,rfl,λ_=>⟨Hv.o,Hb.o⟩⟩,Hf.o⟩
