import Derived.Test.YtjlblidnfebmiaaGreatDoorY30
import Derived.Test.YtjlblidnfebmiaaGreatDoorY27
set_option maxRecDepth 100000
set_option maxHeartbeats 16000000
open Go Go.RowKit
open Go.Proofs.Tryz
namespace Go.Proofs.YtjlblidnfebmiaaGreatDoor
variable{B n n0:Nat}{W W' w w0:World}{f:ByteArray->Option Int}{k:ByteArray}{v:Int}
section
open RowKit Go.ChangeMaps Go.Maps Go.WideShapes
def StrKeys (D:DataW Unit):Prop:=∃es,D=.map es/\∀p∈es,∃s:ByteArray,p.1=Lit.string s.data.toList
def iO (w:World) (B n:Nat) (f:ByteArray->Option Int):Prop:=
 ∃D:DataW Unit,w.ownsMap prog 9 (plainElem prog 3) B n D/\StrKeys D/\∀s:ByteArray,D.atKey (.string s.data.toList) (.lit (.int .i64 0))=.lit (.int .i64 ((f s).getD 0))/\Go.Maps.has D (.string s.data.toList)=(f s).isSome
theorem iO.block{w':World}(h:iO w B n f)(b:w'.heap[B]?=w.heap[B]?):iO w' B n f:=by
 obtain⟨D,⟨c,a,e,r⟩,d⟩:=h;exact⟨D,⟨c,a,b.trans e,r⟩,d⟩
theorem iO.lt(h:iO w B n f):B<w.heap.size:=by
 obtain⟨D,a,_⟩:=h;exact a.lt
theorem iO.alloc(h:iO w B n f)(o:Obj):iO (w.alloc o) B n f:=h.block (Below.heap_alloc _ _ _ h.lt)
theorem iO.made(w:World):iO (w.alloc (.map #[] 0)) w.heap.size 0 (λ_=>none):=
 ⟨.map [],World.ownsMap_made w _ _ _,⟨[],rfl,λ_ a=>(List.not_mem_nil a).elim⟩,λ_=>⟨rfl,rfl⟩⟩
theorem GG{D:DataW Unit}(c:StrKeys D):StrKeys (D.put (.string k.data.toList) (.lit (.int .i64 v))):=by
 obtain⟨b,rfl,Ha⟩:=c;refine⟨putKey (.string k.data.toList) (.lit (.int .i64 v)) b,rfl,λp a=>?_⟩;unfold putKey at a
 rcases List.mem_cons.1 ((insert_perm _ _).mem_iff.1 a) with rfl|a
 ·exact⟨k,rfl⟩
 ·grind
theorem GH{D:DataW Unit}(a:w0.ownsMap prog 9 (plainElem prog 3) B n0 D)(b:∀s:ByteArray,D.atKey (.string s.data.toList) (.lit (.int .i64 0))=.lit (.int .i64 ((f s).getD 0))/\Go.Maps.has D (.string s.data.toList)=(f s).isSome)(s:ByteArray) :
  (D.put (.string k.data.toList) (.lit (.int .i64 v))).atKey (.string s.data.toList) (.lit (.int .i64 0))=.lit (.int .i64 ((ex f k (some v) s).getD 0))/\Go.Maps.has (D.put (.string k.data.toList) (.lit (.int .i64 v))) (.string s.data.toList)=(ex f k (some v) s).isSome:=by
 unfold ex
 by_cases e:s=k
 ·subst e;have Ha:WideAt.IsKeyLit (Lit.string s.data.toList):=trivial;rw[Go.Maps.atKey_put_same a.isMap Ha,Go.Maps.has_put_same a.isMap Ha,if_pos rfl];exact⟨rfl,rfl⟩
 ·have Hb:(Lit.string s.data.toList)≠(Lit.string k.data.toList):=by
   grind[zK]
  rw[Go.Maps.atKey_put_other Hb,Go.Maps.has_put_other Hb,if_neg e];exact b s
theorem GI{D:DataW Unit}(c:w0.ownsMap prog 9 (plainElem prog 3) B n0 D)(a:StrKeys D)(d:∀s:ByteArray,D.atKey (.string s.data.toList) (.lit (.int .i64 0))=.lit (.int .i64 ((f s).getD 0))/\Go.Maps.has D (.string s.data.toList)=(f s).isSome)
  (b:w.ownsMap prog 9 (plainElem prog 3) B n (D.put (.string k.data.toList) (.lit (.int .i64 v)))):iO w B n (ex f k (some v)):=⟨_,b,GG a,GH c d⟩
theorem Wk{D:DataW Unit}(h:w0.ownsMap prog 9 (plainElem prog 3) B n0 D)(b:StrKeys D)(c:∀s:ByteArray,D.atKey (.string s.data.toList) (.lit (.int .i64 0))=.lit (.int .i64 ((f s).getD 0))/\Go.Maps.has D (.string s.data.toList)=(f s).isSome)
  (d:w.ownsMap prog 9 (plainElem prog 3) B n (D.del (.string k.data.toList))):iO w B n (ex f k none):=by
 refine⟨_,d,?_,λs=>?_⟩
 ·obtain⟨g,rfl,Hb⟩:=b;refine⟨delKey (.string k.data.toList) g,rfl,λp a=>?_⟩;unfold delKey at a;exact Hb p (List.mem_filter.1 a).1
 ·unfold ex
  by_cases e:s=k
  ·simp_all[Go.Maps.atKey_del_same,Go.Maps.has_del_same]
  ·have Ha:(Lit.string s.data.toList)≠(Lit.string k.data.toList):=by
    grind[zK]
   rw[Go.Maps.atKey_del_other Ha,Go.Maps.has_del_other Ha,if_neg e];exact c s
theorem Wl{f:ByteArray->Option Int}{D:DataW Unit}(c:StrKeys D)(b:∀s:ByteArray,D.atKey (.string s.data.toList) (.lit (.int .i64 0))=.lit (.int .i64 ((f s).getD 0))/\Go.Maps.has D (.string s.data.toList)=(f s).isSome):Go.Maps.size D=0↔∀k,f k=none:=by
 obtain⟨d,rfl,Ha⟩:=c;rw[Go.Maps.size_eq,List.length_eq_zero_iff];constructor
 ·rintro rfl k
  have:=(b k).2
  rw[Go.Maps.has_eq] at this;cases hf:f k with
  | none=>rfl
  | some v=>rw[hf] at this;cases this
 ·intro h;cases d with
  | nil=>rfl
  | cons p l=>
   obtain⟨s,hs⟩:=Ha p (by simp);have a:=(b s).2;rw[h s,Go.Maps.has_eq,List.any_cons,hs,WideAt.sameKey_self (show WideAt.IsKeyLit (Lit.string s.data.toList) from trivial)] at a;cases a
end
structure Ac where
 kd:ByteArray
 s:ByteArray
 a:Int
 b:Int
 m:Nat
 lv:Value
 p:aj
 cv:Value
 us:List ak
 uv:Value
def tD (x:Ac):List Value:=[.string x.kd,.string x.s,.int .i64 x.a,.int .i64 x.b,.int .u8 x.m,x.lv,.string x.p.nm,.int .i64 x.p.pr,x.cv,x.uv]
structure ro (W:World) (x:Ac):Prop where
 l:∃la ll lc,x.lv=.slice la ll lc
 c:ba W x.cv x.p.cs
 u:bC W x.uv x.us
 a:-9223372036854775808<=x.a/\x.a<=9223372036854775807
theorem ro.below{x:Ac}(h:ro W x)(a:Bw W W'):ro W' x:=⟨h.l,h.c.below a,h.u.below a,h.a⟩
def ac (xs:List Ac) (k:Nat):Ac:=xs.getD k ⟨ByteArray.empty,ByteArray.empty,0,0,0,.nilIface,⟨ByteArray.empty,0,[]⟩,.nilIface,[],.nilIface⟩
def pU (W:World) (v:Value) (xs:List Ac):Prop:=∃ao c,v=.slice ao xs.length c/\xs.length<=maxLen/\(0<xs.length->∃b o,ao=some ⟨b,o,none⟩/\b<W.heap.size/\∀k,k<xs.length->(∀j,j<10->W.cell? ⟨b,o+k*10+j,none⟩=(tD (ac xs k))[j]?)/\ro W (ac xs k))
theorem pU.below{v:Value}{e:List Ac}(h:pU W v e)(a:Bw W W'):pU W' v e:=by
 obtain⟨l,c,i,q,n⟩:=h;refine⟨l,c,i,q,λg=>?_⟩;obtain⟨b,o,m,Ha,d⟩:=n g;exact⟨b,o,m,Q1 Ha a.size,λk f=>⟨λj r=>(a.cell (p:=⟨b,_,none⟩) Ha).trans ((d k f).1 j r),(d k f).2.below a⟩⟩
def GJ (W:World) (cs:List Value):Prop:=∃x:Ac,cs=tD x/\ro W x
theorem Wm{v:Value}(h:fB W v 10 (GJ W)):∃l,pU W v l:=by
 obtain⟨m,len,c,rfl,r,q⟩:=h
 by_cases i:len=0
 ·subst i;exact⟨[],m,c,rfl,by simp,λh=>by simp at h⟩
 ·obtain⟨b,o,rfl,Hb,g⟩:=q (by omega)
  haveI:Inhabited Ac:=⟨ac [] 0⟩
  obtain⟨f,hf⟩:=Deep.choose_lt (α:=Ac) (n:=len) (p:=λk d=>(∀j,j<10->W.cell? ⟨b,o+k*10+j,none⟩=(tD d)[j]?)/\ro W d) (λk a=>by
   obtain⟨cs,_,Hc,x,rfl,s⟩:=g k a;exact⟨x,Hc,s⟩)
  refine⟨(List.range len).map f,_,c,by simp,by simpa using r,λ_=>⟨b,o,rfl,Hb,λk a=>?_⟩⟩;have Ha:k<len:=by simpa using a
  have e:ac ((List.range len).map f) k=f k:=by simp[ac,Ha]
  rw[e];exact hf k Ha
section
variable{H:Type}{enc:TypeId × Value->H}{W:World}
theorem Wn{n:Nat}{cs:List Value}{y:DataW H × List MemPlace}(j:cs.length=10)(h:DataW.trod enc prog W 0 (λ_=>true) true n 52 cs=some y):GJ W cs:=by
 obtain⟨_,_,q⟩:=cZ underlying52 h 2 2 jL rfl;obtain⟨_,_,r⟩:=cZ underlying52 h 6 6 A7 rfl;obtain⟨_,_,o⟩:=cZ underlying52 h 7 9 A9 rfl;obtain⟨kd,s,a,b,m,lv,nm,pr,cv,uv,rfl,_,Ha,_,_⟩:=Ka j h;obtain⟨u,e,_,Hb⟩:=DataW.trod_int underlying3 q;obtain⟨p,l,c,f⟩:=Ko rfl r;obtain⟨us,i⟩:=Kp o;obtain⟨la,d,g,Ha,_,_⟩:=Ha
 simp at e c
 obtain⟨c,t,k⟩:=c;refine⟨⟨kd,s,a,b,m,lv,p,cv,us,uv⟩,?_,⟨⟨la,d,g,Ha⟩,?_,i,?_⟩⟩
 ·grind[tD]
 ·rw[k];exact f
 ·simp_all[bounds_i64]
theorem Wo{n:Nat}{v:Value}{y:DataW H × List MemPlace}(h:DataW.trod enc prog W 0 (λ_=>true) true n 28 [v]=some y):∃b,pU W v b:=
 Wm (oS underlying28 J3 (by decide) h λ_ _ _ a h=>Wn a h)
end
def tE (xs:List Ac) (k:Nat):Prop:=∀j,j<k->pS (ac xs j).us
theorem tE.next{a:List Ac}{k:Nat}(h:tE a k)(b:pS (ac a k).us):tE a (k+1):=λj c=>by
 by_cases e:j=k
 ·rw[e];exact b
 ·exact h j (by omega)
def Wp (xs:List Ac) (most:Int) (e:Ending):Prop:=∃b,e=.returned (.bool b)/\(b=true->(xs.length:Int)<=most/\tE xs xs.length)
theorem Wq{v:Value}{d:List Ac}(a:Int){w:World}(h:pU w v d):Calls pg 8 #[v,.int .i64 a] w λe w'=>Wp d a e/\Bw w w':=by
 obtain⟨M,c,rfl,J,z⟩:=h;have A:=qI z;unfold maxLen at J;clear z
 by_cases g:a<d.length
 ·go_enter func8,ntmps8
  go_wp2
  go_ret;exact⟨⟨_,rfl,λh=>by cases h⟩,Q0 _ _⟩
 have hd:=Q7 g;have Hu:=qI (show (d.length:Int)<=a by omega);clear g
 go_enter func8,ntmps8
 go_wp2
 go_loopw [5] (λi wr=>∃k:Nat,k<=d.length/\i=.int .i64 k/\Bw w wr/\tE d k) (λi _=>d.length - (intOf i).toNat)
 exact⟨0,by omega,rfl,Q0 _ _,λj t=>absurd t (Nat.not_lt_zero _)⟩
 ·obtain⟨k,K,rfl,f,Hg⟩:=hrel;have He:=qI Hg;have Hf:=qI f;clear Hg
  by_cases s:k<d.length
  ·obtain⟨b,o,rfl,Hp,Ho⟩:=A.o (by omega);obtain⟨u,Hh⟩:=Ho k s;have Hw:=qI He.o.next;generalize ac d k=x at *;have Hb:∀j,j<10->wr.cell? ⟨b,o+k*10+j,none⟩=(tD x)[j]?:=λj t=>(f.cell (p:=⟨b,o+k*10+j,none⟩) Hp).trans (u j t)
   have Ha:=Hh.below f;obtain⟨la,m,B,Hq⟩:=Hh.l;obtain⟨ca,cc,Hn,_⟩:=id Hh.c;obtain⟨C,H,Hk,_⟩:=id Hh.u;have c1:cl wr b (o+k*10+1) x.s:=Hb 1 (by decide);have c5:cl wr b (o+k*10+5) (.slice la m B):=by rw[<- Hq];exact Hb 5 (by decide)
   have I:cl wr b (o+k*10+6) x.p.nm:=Hb 6 (by decide);have D:cl wr b (o+k*10+6+1) (x.p.pr:Int):=Hb 7 (by decide);have F:cl wr b (o+k*10+6+2) (.slice ca x.p.cs.length cc):=by rw[<- Hn];exact Hb 8 (by decide)
   have y:cl wr b (o+k*10+9) (.slice C x.us.length H):=by rw[<- Hk];exact Hb 9 (by decide)
   have Hm:=Q1 Hp f.size;have Hi:=qI (MW (p:=x.p) Ha.c);rw[Hn] at Hi;unfold cQ at Hi;have n:=qI Ha.u;rw[Hk] at n;clear u Ho Hb f Hh Ha Hq Hn Hk He
   by_cases E:7000<x.s.size
   ·go_wp2
    go_ret;exact⟨⟨_,rfl,λh=>by cases h⟩,Hf⟩
   have Hx:x.s.size<=7000:=by omega
   clear E
   by_cases r:30<m
   ·go_wp2
    go_ret;exact⟨⟨_,rfl,λh=>by cases h⟩,Hf⟩
   have Hv:m<=30:=by omega
   clear r
   go_wp2
   refine Hi.o.mono ?_;rintro e N ⟨⟨b1,rfl⟩,Hj⟩;have Hl:=Hf.t Hj;have Hr:=qI (n.o.below Hj);have G:=(Hj.cell (p:=⟨b,o+k*10+9,none⟩) Hm).trans y;clear Hj n Hi Hf c1 c5 I D F y
   rcases two b1 with q|q
   ·subst q
    go_wp2
    refine (Wg Hr).mono ?_;rintro e L ⟨⟨b2,rfl,Hc⟩,rfl⟩
    rcases two b2 with l|l
    ·have Hs:=qI (Hw.o (Hc l));subst l;clear Hc
     go_wp2
     go_roundw
     exact⟨k+1,by omega,by go_num,Hl,Hs⟩
     simp[intOf];omega
    ·subst l;clear Hc
     go_wp2
     go_ret;exact⟨⟨_,rfl,λh=>by cases h⟩,Hl⟩
   ·subst q
    go_wp2
    go_ret;exact⟨⟨_,rfl,λh=>by cases h⟩,Hl⟩
  ·have Ht:k=d.length:=by omega
   subst Ht;clear f
   go_wp2
   go_ret;exact⟨⟨_,rfl,λ_=>⟨Hu,He⟩⟩,Hf⟩
section
open RowKit Go.ChangeMaps Go.Maps Go.WideShapes
theorem Wr{ns:List ak}{k:Nat}(h:k<ns.length):fO (ns.take (k+1))=ex (fO (ns.take k)) (ar ns k).kind (some (ar ns k).many):=by
 grind[fO,Gz]
theorem Ws{ds:List aq}{l:List Int}{m:ByteArray->Option Int}{k:Nat}(h:k<l.length):(l.take (k+1)).foldl (eL ds) m=eL ds ((l.take k).foldl (eL ds) m) (l.getD k 0):=by
 grind[Qa]
def tF (f:ByteArray->Option Int) (k:Int):Prop:=∀s v,f s=some v->-1000000 - k<=v/\v<=1000000
theorem GK{k b:Int}(h:tF f k)(d:k<=b){s:ByteArray}{v:Option Int}(c:∀x,v=some x->-1000000 - b<=x/\x<=1000000):tF (ex f s v) b:=by
 intro t x a;unfold ex at a
 split at a
 ·exact c x a
 ·have:=h t x a
  omega
theorem Wt{M v2 v3:Value}{g o:Nat}{ds:List aq}{l:List Int}{ns:List ak}{w:World}(J:et w M g o ds)(h2:bK w v2 l)(Q:bC w v3 ns)(hl:l.length<=1000)(hn:ns.length<=1000)
  (F:∀k,k<l.length->0<=l.getD k 0/\l.getD k 0<ds.length) (X:ds.length<=1000) (G:∀k,k<ds.length->(aH ds k).kind.size<=1000) (E:∀k,k<ns.length->(ar ns k).kind.size<=1000/\-1000000<=(ar ns k).many/\(ar ns k).many<=1000000) :
  Calls pg 163 #[M,v2,v3] w λe w'=>(∃b,e=.returned (.bool b)/\(b=true↔kY ds l ns))/\Bw w w':=by
 obtain⟨a1,c1,rfl,Hw⟩:=J;obtain⟨a2,c2,rfl,U,Hv⟩:=h2;obtain⟨a3,c3,rfl,HI,Hy⟩:=Q;have H1:=qI Hw;have H2:=qI Hv;have H3:=qI Hy;have P:=qI F;have HU:=qI G;have HO:=qI E;have Hp:=qI (iO.made w);have Ho:=qI ((Q0 w w).alloc (lR) (.map #[] 0));have HY:=@run_makeMap prog;clear Hw Hv Hy F G E U HI
 go_enter func163,ntmps163
 go_wp2
 go_loopw [16] (λi wr=>∃k n:Nat,k<=ns.length/\n<=k/\i=.int .i64 k/\iO wr w n (fO (ns.take k))/\tF (fO (ns.take k)) 0/\Bw w wr) (λi _=>ns.length - (intOf i).toNat)
 exact⟨0,0,by omega,by omega,rfl,Hp,(λ_ _ R=>nomatch R),Ho⟩
 ·obtain⟨k,n,hk,HZ,rfl,t,u,a⟩:=hrel
  by_cases C:k<ns.length
  ·obtain⟨b,I,rfl,Hk,Hh⟩:=H3.o (by omega);obtain⟨O,g1⟩:=Hh k C;have c0:=(a.cell (p:=⟨b,I+k*2,none⟩) Hk).trans O;have c1:=(a.cell (p:=⟨b,I+k*2+1,none⟩) Hk).trans g1;have He:=qI (Wr C);obtain⟨H6,HX,H5⟩:=HO.o k C;have Ht:=qI (a.alloc a.size (.cells #[(ar ns k).kind,((ar ns k).many:Int)] 127));have Hz:=t.alloc (.cells #[(ar ns k).kind,((ar ns k).many:Int)] 127);have Hm:(wr.alloc (.cells #[(ar ns k).kind,((ar ns k).many:Int)] 127)).cell? wr=some (.string (ar ns k).kind):=by simp
   have Hn:(wr.alloc (.cells #[(ar ns k).kind,((ar ns k).many:Int)] 127)).cell? ⟨wr,1,none⟩=some (.int .i64 (ar ns k).many):=by simp
   have L:=qI u;clear t a Hh O g1 u;generalize ar ns k=x at *;generalize fO (ns.take k)=f at *;obtain⟨D,d,v,r⟩:=Hz;have H:=qI r;have HS:=qI v;have Hb:keyOf prog 9 x.kind=some (.string x.kind.data.toList):=Go.WideMaps.keyOf_string_mk underlying9 (by unfold maxLen;omega);have Hj:=qI (show (Lit.int .i64 x.many).wf=true from WalkArith.wf_i64 (by omega));clear r v
   go_wp2_with (at_mapUpdate;refine wpList_mapUpdate_own _ rfl _ _ _ 205 rfl 9 3 lX underlying205 (plainElem prog 3) w n D rfl d (by unfold maxLen;omega) _ _ _ rfl rfl Hb (.lit (.int .i64 x.many)) [] (plainElem_int underlying3 Hj) ?_;intro N Hg Hc)
   go_roundw
   case rel=>
    refine⟨k+1,n+1,by omega,by omega,by go_num,?_,?_,Ht.o.grown Hc Ht.o.size (λj K=>by grind)⟩
    ·rw[He.o];exact GI d HS H Hg
    ·rw[He.o];exact GK L (Int.le_refl _) (λy W=>by cases W;omega)
   case measure=>simp[intOf];omega
  ·have HP:k=ns.length:=by omega
   subst HP;rw[Qh] at t u;have HM:=qI t;have HF:=qI a;have S:=qI u;clear t a u Hp Ho
   go_wp2
   go_loopw [28] (λi wr=>∃k n:Nat,k<=l.length/\n<=ns.length+k/\i=.int .i64 k/\iO wr w n ((l.take k).foldl (eL ds) (fO ns))/\tF ((l.take k).foldl (eL ds) (fO ns)) (k:Int)/\Bw w wr) (λi _=>l.length - (intOf i).toNat)
   exact⟨0,n,by omega,by omega,rfl,HM,S,HF⟩
   ·obtain⟨q,m,hq,H7,rfl,t,u,a⟩:=hrel
    by_cases B:q<l.length
    ·obtain⟨b,I,rfl,Hk,Hh⟩:=H2.o (by omega);have c0:=(a.cell (p:=⟨b,I+q,none⟩) Hk).trans (Hh q B);have He:=qI (Ws (ds:=ds) (m:=fO ns) B);have HG:=P.o q B;generalize l.getD q 0=x at *;obtain⟨Y,H0⟩:=HG;obtain⟨c,rfl⟩:=Int.eq_ofNat_of_zero_le Y;have Hi:c<ds.length:=by omega
     obtain⟨ha,HT,Hs⟩:=H1.o (by omega);subst ha;have d0:=(a.cell (p:=⟨g,o+c*3,none⟩) HT).trans (Hs c Hi).1;have HH:=HU.o c Hi;have V:((c:Int)).toNat=c:=by omega
     have HL:Hu (∀f,eL ds f (c:Int)=ex f (aH ds c).kind (if (f (aH ds c).kind).getD 0 - 1=0 then none else some ((f (aH ds c).kind).getD 0 - 1))):=λf=>by grind[eL]
     have A:=qI a;have L:=qI u;clear Hh Hs a u V;generalize (aH ds c).kind=kd at *;generalize (l.take q).foldl (eL ds) (fO ns)=f at *;obtain⟨D,d,v,r⟩:=t;have H:=qI r;have HS:=qI v;have Hr:=(r kd).1;have H4:-1000000 - (q:Int)<=(f kd).getD 0/\(f kd).getD 0<=1000000:=by
      cases hf:f kd with
      | none=>simp;omega
      | some y=>exact L.o kd y hf
     generalize hv:(f kd).getD 0=z at *;have HV:=qI hv;clear hv;have Hb:keyOf prog 9 kd=some (.string kd.data.toList):=Go.WideMaps.keyOf_string_mk underlying9 (by unfold maxLen;omega);have Hj:=qI (show (Lit.int .i64 (z - 1)).wf=true from WalkArith.wf_i64 (by omega));have Hq:Hu (tF (eL ds f (c:Int)) ((q+1:Nat):Int)):=by
      grind[Hu,GK]
     clear r v;have Hx:Hu (WideAt.IsKeyLit (Lit.string kd.data.toList)):=trivial
     by_cases J:z=1
     ·have T:((z - 1:Int) == 0)=true:=by rw[J];rfl
      have Hl:Hu (eL ds f (c:Int)=ex (ex f kd (some (z - 1))) kd none):=by
       unfold Hu;rw[HL.o f,HV.o,if_pos (by omega)]
       funext s
       unfold ex
       split <;> rfl
      clear J
      go_wp2_with (first|(at_lookup;refine wpList_lookup_own_int _ rfl _ _ 205 rfl 9 3 .i64 lX underlying205 underlying3 (tx _) w _ _ rfl (by assumption) _ _ rfl Hb ?_;intro cc Ha _;(first|rw[Hr] at Ha|rw[Go.Maps.atKey_put_same d.isMap Hx.o] at Ha);injection Ha with Ha;injection Ha with _ Ha;subst Ha)|(at_mapUpdate;refine wpList_mapUpdate_own _ rfl _ _ _ 205 rfl 9 3 lX underlying205 (plainElem prog 3) w m D rfl d (by unfold maxLen;omega) _ _ _ rfl rfl Hb (.lit (.int .i64 (z - 1))) [] (plainElem_int underlying3 Hj) ?_;intro N Hg Hc)|(at_delete;refine wpList_delete_own _ rfl _ _ 205 9 rfl 3 lX underlying205 _ w _ _ rfl Hg _ _ rfl Hb ?_;intro w6 HQ Hf))
      go_roundw
      case rel=>
       refine⟨q+1,m+1,by omega,by omega,by go_num,?_,by rw[He.o];exact Hq.o,?_⟩
       ·rw[He.o,Hl.o];exact Wk Hg (GG HS) (GH d H) HQ
       ·exact (A.o.grown Hc A.o.size (λj K=>by grind)).grown Hf.grown (by have:=Hc.size;have:=A.o.size;omega) (λj K=>by grind)
      case measure=>simp[intOf];omega
     ·have T:((z - 1:Int) == 0)=false:=Qr.2 (by omega);have Hl:Hu (eL ds f (c:Int)=ex f kd (some (z - 1))):=by
       grind[Hu]
      go_wp2_with (first|(at_lookup;refine wpList_lookup_own_int _ rfl _ _ 205 rfl 9 3 .i64 lX underlying205 underlying3 (tx _) w _ _ rfl (by assumption) _ _ rfl Hb ?_;intro cc Ha _;(first|rw[Hr] at Ha|rw[Go.Maps.atKey_put_same d.isMap Hx.o] at Ha);injection Ha with Ha;injection Ha with _ Ha;subst Ha)|(at_mapUpdate;refine wpList_mapUpdate_own _ rfl _ _ _ 205 rfl 9 3 lX underlying205 (plainElem prog 3) w m D rfl d (by unfold maxLen;omega) _ _ _ rfl rfl Hb (.lit (.int .i64 (z - 1))) [] (plainElem_int underlying3 Hj) ?_;intro N Hg Hc))
      go_roundw
      case rel=>
       refine⟨q+1,m+1,by omega,by omega,by go_num,?_,by rw[He.o];exact Hq.o,?_⟩
       ·rw[He.o,Hl.o];exact GI d HS H Hg
       ·exact A.o.grown Hc A.o.size (λj K=>by grind)
      case measure=>simp[intOf];omega
    ·have Z:q=l.length:=by omega
     subst Z;rw[Qh] at t;obtain⟨D,d,v,r⟩:=t;have A:=qI a;have HJ:Hu ((Go.Maps.size D:Int)=0↔kY ds l ns):=by
      unfold Hu
      have:=Wl v r
      constructor
      ·intro h;exact this.1 (by omega)
      ·intro h;have:=this.2 h;omega
     clear v r a u
     go_wp2_with (at_len;refine wpList_len_own _ rfl _ 205 rfl 9 3 underlying205 _ w m D rfl d ?_)
     go_ret;exact⟨⟨_,rfl,by rw[beq_iff_eq];exact HJ.o⟩,A⟩
end
