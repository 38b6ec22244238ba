import Derived.Test.YtjlblidnfebmiaaGreatDoorY6
import Derived.Test.YtjlblidnfebmiaaGreatDoorY16
import Derived.Shelf.SlicesQ.IndexFunc
import Derived.Ground.SlgfProg
import Derived.Deep.RegionHeld3
import Derived.Laws.AppendOwn
set_option maxRecDepth 100000
set_option maxHeartbeats 16000000
open Go Go.RowKit Go.Shelf
open Go.Proofs.Tryz
namespace Go.Proofs.YtjlblidnfebmiaaGreatDoor
theorem nQ{n a b:Int}{w:World}:CE 80 #[n,a,b] w (.bool (decide (a<=n) && decide (n<=b))):=by
 by_cases c:a<=n
 ·go_enter func80,ntmps80
  go_wp2
  go_ret;exact⟨by simp[c],rfl⟩
 ·have f:n<a:=by omega
  have d:=Q7 c;rw[d];clear c
  go_enter func80,ntmps80
  go_wp2
  go_ret;exact⟨by simp,rfl⟩
theorem Dn{a c:Int}{w:World}:CE 123 #[a,c] w (.bool (iU a c)):=by
 unfold iU
 by_cases b:c=0
 ·subst b
  go_enter func123,ntmps123
  go_wp2
  go_ret;exact⟨by simp,rfl⟩
 ·go_enter func123,ntmps123
  go_wp2
  go_ret;exact⟨by simp[b],rfl⟩
theorem Do{m b:Int}{w:World}:CB 122 #[.agg #[m,b]] w (.bool (gU m b)):=by
 unfold gU
 go_enter func122,ntmps122
 go_wp2
 refine (nQ).e ?_
 rcases two (decide (0<=m) && decide (m<=1000000)) with a|a
 ·rw[a]
  go_wp2
  refine (nQ).e ?_
  go_wp2
  go_ret;refine⟨?_,(Q0 w w).alloc (lR) _⟩;rw[a]
  simp
 ·rw[a]
  go_wp2
  go_ret;refine⟨?_,(Q0 w w).alloc (lR) _⟩;rw[a];rfl
theorem Ok{v:Value}{ds:List ak}{w:World}(h:bC w v ds):CB 124 #[v] w (aD (if 3<ds.length then (2:Nat) else bA (iT ds) ds.length:Nat)):=by
 obtain⟨D,c,rfl,n,t⟩:=h;clear n;have u:=qI t;clear t
 by_cases q:3<ds.length
 ·rw[if_pos q]
  go_enter func124,ntmps124
  go_wp2
  go_ret;exact⟨rfl,Q0 _ _⟩
 rw[if_neg q];have Hg:ds.length<=3:=by omega
 clear q;have hd:decide (3<(ds.length:Int))=false:=Q7 (by omega)
 go_enter func124,ntmps124
 go_wp2
 go_loopw [3,12] (λla i wr=>∃k:Nat,k<=ds.length/\i=.int .i64 k/\la=.string (ml ds k)/\Bw w wr/\Hu (bA (iT ds) k=0)) (λ_ i _=>ds.length - (intOf i).toNat)
 exact⟨0,by omega,rfl,rfl,Q0 _ _,rfl⟩
 ·obtain⟨k,C,rfl,rfl,f,m⟩:=hrel
  by_cases d:k<ds.length
  ·obtain⟨b,o,rfl,Hc,Hb⟩:=u.o (by omega);obtain⟨s,g1⟩:=Hb k d;have c0:=(f.cell (p:=⟨b,o+k*2,none⟩) Hc).trans s;have c1:=(f.cell (p:=⟨b,o+k*2+1,none⟩) Hc).trans g1;have z:=qI (@Kh ds k);have A:=qI (@Ki ds k);have y:=qI (@Kj ds k);have HS:=qI (Kf ds k);have Ha:=qI (f.alloc f.size (.cells #[(ar ds k).kind,((ar ds k).many:Int)] 127));clear s g1 Hb f;have B:Hu (∃la,la=ml ds k):=⟨_,rfl⟩;generalize ml ds k=la at *;generalize ar ds k=x at *
   rcases two (bY x.kind) with g|g
   ·rcases two (ei x.kind la) with j|j
    ·have a:=A.o g j;have l:=qI (mh m (by rw[a];decide) d);have Hf:(Op.bytesLess x.kind.toList la.toList || x.kind.toList == la.toList)=true:=j
     go_wp2
     refine (jt _ _).e ?_;rw[g]
     go_wp2
     go_ret;exact⟨by rw[l.o,a];rfl,Ha⟩
    ·have a:=y.o g j;have Hf:(Op.bytesLess x.kind.toList la.toList || x.kind.toList == la.toList)=false:=j
     go_wp2
     refine (jt _ _).e ?_;rw[g]
     go_wp2
     refine (nQ).e ?_
     by_cases n:x.many<1\/16<x.many
     ·rw[if_pos n] at a;have l:=qI (mh m (by rw[a];decide) d);rw[show (decide (1<=x.many) && decide (x.many<=16))=false by simp;omega]
      go_wp2
      go_ret;exact⟨by rw[l.o,a];rfl,Ha⟩
     ·rw[if_neg n] at a;rw[show (decide (1<=x.many) && decide (x.many<=16))=true by simp;omega]
      go_wp2
      go_roundw
      exact⟨k+1,by omega,by go_num,by rw[HS.o],Ha,nk m a⟩
      simp[intOf];omega
   ·have a:=z.o g;have l:=qI (mh m (by rw[a];decide) d)
    go_wp2
    refine (jt _ _).e ?_;rw[g]
    go_wp2
    go_ret;exact⟨by rw[l.o,a];rfl,Ha⟩
  ·have He:k=ds.length:=by omega
   subst He;have Ha:=qI f;clear f
   go_wp2
   go_ret;exact⟨by rw[m.o];rfl,Ha⟩
end Go.Proofs.YtjlblidnfebmiaaGreatDoor
namespace Go.Proofs
open Go.Shelf
def Tryz.contL_ren:Go.Shelf.Ren:=⟨fun|8=>120|6=>158|n=>n,fun|22=>47|23=>65|25=>223|4=>4|3=>3|0=>0|n=>n,fun|n=>n⟩
theorem Tryz.contL:Go.Proofs.SlLaysH0.n8 Tryz.prog Tryz.contL_ren:=by
 constructor
 case f6=>exact⟨Tryz.f158.name,by decide,Tryz.func158.trans (congrArg some (by kernel_rfl))⟩
 case f8=>exact⟨Tryz.f120.name,by decide,Tryz.func120.trans (congrArg some (by kernel_rfl))⟩
 all_goals intros;kernel_rfl
end Go.Proofs
namespace Go.Proofs.YtjlblidnfebmiaaGreatDoor
variable{B:Nat}{W W' a w w':World}{b m:Int}{cv:Value}{p:aj}
instance:Inhabited (aF × Value):=⟨⟨wP,.nilIface⟩⟩
theorem sK(a b:ByteArray):(a.toList == b.toList)=decide (a=b):=by
 rw[Bool.eq_iff_iff,beq_iff_eq,decide_eq_true_iff,Qs,Qs];exact⟨λh=>ByteArray.ext (Array.toList_inj.mp h),λh=>by rw[h]⟩
theorem Ol{nm:ByteArray}{B:Nat}(w:World)(c:B<w)(a:w.cell? B=some (.string nm)) :
  PredBelow prog 121 #[B] (λx:aF × Value=>.agg (eu x.1 x.2).toArray) (λx=>decide (x.1.nm=nm)) w:=λW x b=>by
 have g:=(b.cell (p:=B) c).trans a;have Hb:=Q1 c b.size;have Ha:B≠W:=by omega
 obtain⟨x,dv⟩:=x;have d:=qI (sK x.nm nm)
 show Calls pg 121 #[.agg #[x.nm,(x.am:Int),(x.ab:Int),(x.cm:Int),(x.cb:Int),dv],.pointer (some ⟨B,0,none⟩)] W _
 show Calls pg 121 _ W λe w'=>e=.returned (.bool (decide (x.nm=nm)))/\Bw w w'
 rw[<- d.o];have f:=qI (b.alloc b.size (.cells #[x.nm,(x.am:Int),(x.ab:Int),(x.cm:Int),(x.cb:Int),dv] 65));clear b
 go_enter func121,ntmps121
 go_wp2
 go_ret;exact⟨rfl,f⟩
theorem On(cs:List aF)(dv:Nat->Value)(k:Nat)(q:aF->Bool):((((List.range cs.length).map λj=>(af cs j,dv j)).take k).any λx=>q x.1)=(cs.take k).any q:=by
 have e:((List.range cs.length).map λj=>(af cs j,dv j)).map Prod.fst=cs:=by
  rw[List.map_map];apply List.ext_getElem
  ·simp
  ·grind[af]
 have h:(cs.take k)=(((List.range cs.length).map λj=>(af cs j,dv j)).take k).map Prod.fst:=by rw[List.map_take,e]
 rw[h,List.any_map];rfl
theorem Oo{b o:Nat}(c:Nat){B k:Nat}{cs:List aF}{dv:Nat->Value}{w:World}(h:nz w b o cs dv)(m:k<cs.length)(n:cs.length<=maxLen)(d:B<w)(a:w.cell? B=some (.string (af cs k).nm)) :
  CB 120 #[.slice (some ⟨b,o,none⟩) k c,.func (.func 121) #[] #[.pointer (some ⟨B,0,none⟩)]] w (.bool (nu cs k)):=by
 have l:∀args w,(callFunc 121 args).run prog w=.ok (.enter 121 args) w:=enters_of func121 (by kernel_rfl) rfl;have Ha:=AnyQ.slices_ContainsFunc Tryz.contL 6 isAgg65 sizeOf65 (λx:aF × Value=>eu x.1 x.2) (λ_=>rfl) (λx=>decide (x.1.nm=(af cs k).nm)) 121 #[.pointer (some ⟨B,0,none⟩)] l b o k c ((List.range cs.length).map λj=>(af cs j,dv j)) w
  (Ol w d a) (by simp;omega) (by grind[maxLen]) h.1 (λj g i v hi=>by
   have Hb:j<cs.length:=by simpa using g
   have e:((List.range cs.length).map λj=>(af cs j,dv j))[j]! = (af cs j,dv j):=by simp[Hb]
   rw[e] at hi;have f:i<6:=by
    grind[eu]
   rw[(h.2 j Hb).1 i f];exact hi)
 change Calls pg 120 _ _ _ at Ha
 rw[On cs dv k λx=>decide (x.nm=(af cs k).nm)] at Ha;exact Ha
theorem Oq{cs:List aF}{k:Nat}(h:bY (af cs k).nm=false):ej cs k=3:=by grind[ej]
theorem Ot{cs:List aF}{k:Nat}(h:bY (af cs k).nm=true)(a:nu cs k=true):ej cs k=5:=by grind[ej]
theorem Ou{cs:List aF}{k:Nat}(h:bY (af cs k).nm=true)(b:nu cs k=false)(a:gU (af cs k).am (af cs k).ab=false\/gU (af cs k).cm (af cs k).cb=false):ej cs k=1:=by
 grind[ej]
theorem Ov{cs:List aF}{k:Nat}(h:bY (af cs k).nm=true)(d:nu cs k=false)(b:gU (af cs k).am (af cs k).ab=true)(a:gU (af cs k).cm (af cs k).cb=true)(c:iU (af cs k).am (af cs k).cm=true\/iU (af cs k).ab (af cs k).cb=true):ej cs k=3:=by
 grind[ej]
theorem Ow{cs:List aF}{k:Nat}(h:bY (af cs k).nm=true)(e:nu cs k=false)(c:gU (af cs k).am (af cs k).ab=true)(a:gU (af cs k).cm (af cs k).cb=true)(d:iU (af cs k).am (af cs k).cm=false)(b:iU (af cs k).ab (af cs k).cb=false):ej cs k=(if 3<(af cs k).ds.length then (2:Nat) else bA (iT (af cs k).ds) (af cs k).ds.length:Nat):=by
 grind[ej]
theorem boxed(w:World)(x:aF)(d:Value):(w.alloc (.cells #[x.nm,(x.am:Int),(x.ab:Int),(x.cm:Int),(x.cb:Int),d] 65)).cell? w=some (.string x.nm):=by simp
def lG (W:World) (B:Nat) (x:aF) (d:Value):Prop:=B<W.heap.size/\W.cell? B=some (.string x.nm)/\W.cell? ⟨B,1,none⟩=some (.int .i64 x.am)/\W.cell? ⟨B,2,none⟩=some (.int .i64 x.ab)/\W.cell? ⟨B,3,none⟩=some (.int .i64 x.cm)/\W.cell? ⟨B,4,none⟩=some (.int .i64 x.cb)/\W.cell? ⟨B,5,none⟩=some d
theorem lG.made(w:World)(x:aF)(d:Value):lG (w.alloc (.cells #[x.nm,(x.am:Int),(x.ab:Int),(x.cm:Int),(x.cb:Int),d] 65)) w x d:=by
 refine⟨by simp,by simp,by simp,by simp,by simp,by simp,by simp⟩
theorem lG.below{x:aF}{d:Value}(h:lG W B x d)(a:Bw W W'):lG W' B x d:=by
 obtain⟨b,e,i,c,g,f,j⟩:=h;exact⟨Q1 b a.size,(a.cell (p:=B) b).trans e,(a.cell (p:=⟨B,1,none⟩) b).trans i,(a.cell (p:=⟨B,2,none⟩) b).trans c,(a.cell (p:=⟨B,3,none⟩) b).trans g,(a.cell (p:=⟨B,4,none⟩) b).trans f,(a.cell (p:=⟨B,5,none⟩) b).trans j⟩
theorem Ox{b o:Nat}(c k:Nat){cs:List aF}{dv:Nat->Value}{w:World}(h:nz w b o cs dv)(v:k<cs.length)(C:cs.length<=maxLen) :
  CB 81 #[.agg #[(af cs k).nm,((af cs k).am:Int),((af cs k).ab:Int),((af cs k).cm:Int),((af cs k).cb:Int),dv k],.slice (some ⟨b,o,none⟩) k c] w (aD (ej cs k:Nat)):=by
 have Hi:=(Q0 w w).alloc (lR) (.cells #[(af cs k).nm,((af cs k).am:Int),((af cs k).ab:Int),((af cs k).cm:Int),((af cs k).cb:Int),dv k] 65);have y:=qI (Oo c (h.below Hi) v C (by simp) (boxed w (af cs k) (dv k)));have K:=qI (h.2 k v).2;have Ha:=qI Hi;have z:=qI (@Oq cs k);have H:=qI (@Ot cs k);have G:=qI (@Ou cs k);have E:=qI (@Ov cs k);have A:=qI (@Ow cs k);clear h v C Hi;generalize ej cs k=F at *;generalize nu cs k=T at *;generalize af cs k=x at *;generalize dv k=d at *
 rcases two (bY x.nm) with f|f
 ·rcases two T with u|u
  ·have a:=H.o f u;subst u
   go_enter func81,ntmps81
   go_wp2
   refine (jt _ _).e ?_;rw[f]
   go_wp2
   refine y.o.m λt He=>?_
   go_wp2
   go_ret;exact⟨by rw[a];rfl,Ha.o.trans (He.mono Ha.o.size)⟩
  ·subst u;have D:=qI (G.o f rfl);have j:=qI (E.o f rfl);have g:=qI (A.o f rfl);clear z H G E A
   go_enter func81,ntmps81
   go_wp2
   refine (jt _ _).e ?_;rw[f]
   go_wp2
   refine y.o.m λt He=>?_;have Hf:=qI ((lG.made w x d).below He);have Hh:=Ha.t He;clear He y Ha;generalize w=B at Hf;obtain⟨q,b0,b1,b2,r,s,p⟩:=Hf.o
   go_wp2
   refine (Do).m λM Hk=>?_;have Hj:=qI (Hf.o.below Hk);have Hb:=Hh.t Hk;clear Hk Hf Hh q b0 b1 b2 r s p
   rcases two (gU x.am x.ab) with l|l
   ·have j:=qI (j.o l);have g:=qI (g.o l);rw[l];obtain⟨q,b0,b1,b2,r,s,p⟩:=Hj.o
    go_wp2
    refine (Do).m λL Hg=>?_;have Hn:=qI (Hj.o.below Hg);have Ho:=qI (K.o.below (Hb.o.trans (Hg.mono Hb.o.size)));have Hc:=Hb.t Hg;clear Hg Hj Hb q b0 b1 b2 r s p
    rcases two (gU x.cm x.cb) with i|i
    ·have j:=qI (j.o i);have g:=qI (g.o i);rw[i];obtain⟨q,b0,b1,b2,r,s,p⟩:=Hn.o
     go_wp2
     refine (Dn).e ?_
     rcases two (iU x.am x.cm) with m|m
     ·have a:=j.o (.inl m);rw[m]
      go_wp2
      go_ret;exact⟨by rw[a];rfl,Hc⟩
     ·have g:=qI (g.o m);rw[m]
      go_wp2
      refine (Dn).e ?_
      rcases two (iU x.ab x.cb) with n|n
      ·have a:=j.o (.inr n);rw[n]
       go_wp2
       go_ret;exact⟨by rw[a];rfl,Hc⟩
      ·have I:=qI (g.o n);rw[n]
       go_wp2
       refine (Ok Ho).m λN Hl=>?_;rw[<- I.o];have Hm:=Hc.t Hl;clear Hl
       go_wp2
       go_ret;exact⟨rfl,Hm⟩
    ·have a:=D.o (.inr i);rw[i]
     go_wp2
     go_ret;exact⟨by rw[a];rfl,Hc⟩
   ·have a:=D.o (.inl l);rw[l]
    go_wp2
    go_ret;exact⟨by rw[a];rfl,Hb⟩
 ·have a:=z.o f
  go_enter func81,ntmps81
  go_wp2
  refine (jt _ _).e ?_;rw[f]
  go_wp2
  go_ret;exact⟨by rw[a];rfl,Ha⟩
theorem Oy{p:aj}(h:bY p.nm=false):br p=3:=by grind[br]
theorem Oz{p:aj}(h:bY p.nm=true)(a:p.pr<0\/1000<p.pr):br p=1:=by grind[br]
theorem OA{p:aj}(h:bY p.nm=true)(a:¬ (p.pr<0\/1000<p.pr))(b:p.cs.length<1\/3<p.cs.length):br p=2:=by grind[br]
theorem OB{p:aj}(h:bY p.nm=true)(a:¬ (p.pr<0\/1000<p.pr))(b:¬ (p.cs.length<1\/3<p.cs.length)):br p=bA (ej p.cs) p.cs.length:=by grind[br]
theorem eW{f:Nat}(h:f≠0):aD (f:Int)=.iface 108 (f:Int):=by grind[aD]
theorem fX(h:Below B a w):Below B a w.drew:=⟨h.os,h.tape,h.output,h.size,h.block⟩
abbrev pD:=λ(x0:ByteArray) (x1:Int) (x2:Nat) (x3:Option Addr) (x4:Nat)=>(.cells #[x0,x1,.slice x3 x2 x4] 49:Obj)
theorem xX(p:aj){cv:Value}{w:World}(h:ba w cv p.cs):CB 42 #[cQ p cv] w (aD (br p:Nat)):=by
 obtain⟨N,c,rfl,P,O⟩:=h;have Q:=qI O;have J:=qI P;clear O P;have H:=qI (@Oy p);have v:=qI (@Oz p);have m:=qI (@OA p);have r:=qI (@OB p);unfold cQ;have He:=qI ((Q0 w w).alloc (lR) (pD p.nm p.pr p.cs.length N c))
 rcases two (bY p.nm) with l|l
 ·have v:=qI (v.o l);have m:=qI (m.o l);have r:=qI (r.o l)
  by_cases z:p.pr<0\/1000<p.pr
  ·have s:=v.o z
   go_enter func42,ntmps42
   go_wp2
   refine (jt _ _).e ?_;rw[l]
   go_wp2
   refine (nQ).e ?_;rw[show (decide (0<=p.pr) && decide (p.pr<=1000))=false by simp;omega]
   go_wp2
   go_ret;exact⟨by rw[s];rfl,He⟩
  have m:=qI (m.o z);have r:=qI (r.o z);have Hm:(decide (0<=p.pr) && decide (p.pr<=1000))=true:=by simp;omega
  clear z
  by_cases A:p.cs.length<1\/3<p.cs.length
  ·have s:=m.o A;have Hg:(decide ((1:Int)<=p.cs.length) && decide ((p.cs.length:Int)<=3))=false:=by simp;omega
   clear A H v m r
   go_enter func42,ntmps42
   go_wp2
   refine (jt _ _).e ?_;rw[l]
   go_wp2
   refine (nQ).e ?_;rw[Hm]
   go_wp2
   refine (nQ).e ?_;rw[Hg]
   go_wp2
   go_ret;exact⟨by rw[s];rfl,He⟩
  have y:=qI (r.o A);have Hg:(decide ((1:Int)<=p.cs.length) && decide ((p.cs.length:Int)<=3))=true:=by simp;omega
  have Hy:p.cs.length<=3:=by omega
  rw[y.o];clear A H v m r y;clear v m r;generalize p.cs=cs at *
  go_enter func42,ntmps42
  go_wp2
  refine (jt _ _).e ?_;rw[l]
  go_wp2
  refine (nQ).e ?_;rw[Hm]
  go_wp2
  refine (nQ).e ?_;rw[Hg]
  go_wp2
  go_loopw [25] (λi wr=>∃k:Nat,k<=cs.length/\i=.int .i64 k/\Bw w wr/\Hu (w<wr.heap.size)/\wr.cell? ⟨w,2,none⟩=some (.slice N cs.length c)/\Hu (bA (ej cs) k=0)) (λi _=>cs.length - (intOf i).toNat)
  exact⟨0,by omega,rfl,He,by simp[Hu],by simp,rfl⟩
  ·obtain⟨k,R,rfl,t,Hf,Hp,B⟩:=hrel
   by_cases j:k<cs.length
   ·obtain⟨b,o,dv,rfl,Hb⟩:=Q.o (by omega);have Hb:=Hb.below t;obtain⟨c0,c1,c2,c3,c4,c5⟩:=Hb.at j;have Hz:=Q5 R J.o.1;have L:=qI (mh (f:=ej cs) (n:=cs.length) B · j);have I:=qI (nk (f:=ej cs) (k:=k) B);have T:=qI Hb;have Hc:=qI (t.alloc t.size (.cells #[(af cs k).nm,((af cs k).am:Int),((af cs k).ab:Int),((af cs k).cm:Int),((af cs k).cb:Int),dv k] 65));have Hq:=qI ((lG.made wr (af cs k) (dv k)).below (fX (Q0 _ _)));have Hl:=qI λW (hb:Bw wr W)=>Ox c k (Hb.below hb) j (Q5 J.o.1 J.o.2);have Hi:=qI ((Q0 wr wr).alloc (lR) (.cells #[(af cs k).nm,((af cs k).am:Int),((af cs k).ab:Int),((af cs k).cm:Int),((af cs k).cb:Int),dv k] 65));have Hn:=qI Hp;have Hs:∃a n e,dv k=.slice a n e:=by
     obtain⟨a,e,s,_⟩:=(Hb.2 k j).2;exact⟨a,_,e,s⟩
    clear Hb B t;generalize af cs k=x at *;generalize dv k=d at *;obtain⟨da,dn,dc,rfl⟩:=Hs;generalize ej cs k=F at *
    go_wp2
    obtain⟨g,b0,b1,b2,C,E,G⟩:=Hq.o;have Hj:=(fX Hi).cell (p:=⟨w,2,none⟩) Hf |>.trans Hn;clear Hq;refine wp_region_held_drew (S:=(λw'=>(w'.cell? wr=some (.string x.nm)/\w'.cell? ⟨wr,1,none⟩=some (.int .i64 x.am)/\w'.cell? ⟨wr,2,none⟩=some (.int .i64 x.ab)/\w'.cell? ⟨wr,3,none⟩=some (.int .i64 x.cm)/\w'.cell? ⟨wr,4,none⟩=some (.int .i64 x.cb)/\w'.cell? ⟨wr,5,none⟩=some (.slice da dn dc))/\w'.cell? ⟨w,2,none⟩=some (.slice (some ⟨b,o,none⟩) cs.length c))) (by kernel_rfl) ⟨⟨b0,b1,b2,C,E,G⟩,Hj⟩ λD=>?_;refine tk 0 ?_;refine tk 1 ?_;refine tk 2 ?_;refine tk 3 ?_;refine tk 4 ?_;refine rd 5 λK M=>?_;go_simp
    go_wp2
    refine (Hl.o _ (fX Hi)).m λU Ha=>?_;have Hh:=qI Ha;have Hk:=qI (And.intro (And.intro ((Ha.cell (p:=wr.heap.size) g).trans b0) (And.intro ((Ha.cell (p:=⟨wr,1,none⟩) g).trans b1) (And.intro ((Ha.cell (p:=⟨wr,2,none⟩) g).trans b2) (And.intro ((Ha.cell (p:=⟨wr,3,none⟩) g).trans C) (And.intro ((Ha.cell (p:=⟨wr,4,none⟩) g).trans E) ((Ha.cell (p:=⟨wr,5,none⟩) g).trans G)))))) ((Ha.cell (p:=⟨w,2,none⟩) (Nat.lt_trans Hf g)).trans Hj));clear Ha
    go_wp2
    refine M.k Hk λD=>?_;refine tk 6 ?_;refine Qn (by kernel_rfl) ?_ _;have Ho:=qI ((fX Hc).trans (Hh.o.mono (fX Hc).size));have Hw:=qI D.2;have Hx:=qI (Q1 (Nat.lt_trans Hf g) Hh.o.size);clear Hh Hk D Hc Hl Hi Hn T Hj b0 b1 b2 C E G g Hf Hp c0 c1 c2 c3 c4 c5
    by_cases u:F=0
    ·have Hr:=qI (I.o u);rw[show aD (F:Int)=.nilIface by rw[u];rfl];clear L I u
     go_wp2
     go_roundw
     exact⟨k+1,by omega,by go_num,Ho,Hx,Hw,Hr⟩
     simp[intOf];omega
    ·have Ht:=qI (L.o u);have y:=qI (eW u);rw[y.o];clear L I u
     go_wp2
     go_ret;exact⟨by rw[Ht.o,y.o];rfl,Ho⟩
   ·have Hv:k=cs.length:=by omega
    subst Hv;have Hc:=qI t;clear t
    go_wp2
    go_ret;exact⟨by rw[B.o];rfl,Hc⟩
 ·have s:=H.o l
  go_enter func42,ntmps42
  go_wp2
  refine (jt _ _).e ?_;rw[l]
  go_wp2
  go_ret;exact⟨by rw[s];rfl,He⟩
theorem uS{fn:Func}{p:Tmp}{b:TypeId}(h:fn.results=#[.cell p b])(tmps:Array Value)(P:Program)(w:World) :
  (results fn tmps).run P w=((asAddr (tmps.getD p undef)).run P w).andThen λa c=>(loadVar b a).run P c:=by
 simp_all[results]
def cI (w:World) (B:Nat) (m b:Int):Prop:=(w.cell? B=some (.int .i64 m)/\w.frozen? B=false)/\(w.cell? ⟨B,1,none⟩=some (.int .i64 b)/\w.frozen? ⟨B,1,none⟩=false)
theorem cI.lt(h:cI w B m b):B<w:=Q3 w _ h.1.1
theorem cI.kept{g:Option Nat}(h:cI w B m b)(c:w.grownBy w' g)(a:some B≠g):cI w' B m b:=
 ⟨⟨(c.cell_far _ h.lt a).trans h.1.1,(c.frozen_far _ h.lt a).trans h.1.2⟩,⟨(c.cell_far _ h.lt a).trans h.2.1,(c.frozen_far _ h.lt a).trans h.2.2⟩⟩
theorem cI.below(h:cI w B m b)(a:Bw w w'):cI w' B m b:=h.kept (fK a none) (by simp)
theorem cI.alloc(h:cI w B m b)(o:Obj):cI (w.alloc o) B m b:=h.below ((Q0 _ w).alloc (lR) o)
theorem cI.made(w:World)(t:TypeId)(m b:Int):cI (w.alloc (.cells #[m,b] t)) w m b:=⟨⟨by simp,by simp⟩,⟨by simp,by simp⟩⟩
theorem cI.set0(h:cI w B m b)(n:Int):cI (w.setCell B n) B n b:=by
 obtain⟨⟨c0,z0⟩,⟨c1,z1⟩⟩:=h;refine⟨⟨?_,(World.frozen?_setCell ..).trans z0⟩,⟨?_,(World.frozen?_setCell ..).trans z1⟩⟩
 ·clear c1;go_simp
 ·simp_all[Qb]
theorem cI.set1(h:cI w B m b)(n:Int):cI (w.setCell ⟨B,1,none⟩ n) B m n:=by
 obtain⟨⟨c0,z0⟩,⟨c1,z1⟩⟩:=h;refine⟨⟨?_,(World.frozen?_setCell ..).trans z0⟩,⟨?_,(World.frozen?_setCell ..).trans z1⟩⟩
 ·simp_all[Qb]
 ·clear c0;go_simp
theorem jW{K:Nat}(h:Below K a w)(B j:Nat)(v:Value)(c:K<=B)(b:K<=w):Below K a (w.setCell ⟨B,j,none⟩ v):=by grind[h.trans,below_grown,dD]
theorem Dp(p:aj){cv:Value}{w:World}(h:ba w cv p.cs)(g:iy p.cs):CB 41 #[cQ p cv] w (.agg #[(de p.cs p.cs.length:Int),(cV p.cs p.cs.length:Int)]):=by
 obtain⟨l,c,rfl,A,t⟩:=h;have u:=qI t;clear t A;unfold cQ;have Hj:=qI ((((Q0 w w).alloc (lR) (pD p.nm p.pr p.cs.length l c)).alloc (by simp) (.cells #[(0:Int),(0:Int)] 62)).alloc (by simp;omega) (.cells #[(0:Int),(0:Int)] 62));have Hg:Hu (cI (((w.alloc (pD p.nm p.pr p.cs.length l c)).alloc (.cells #[(0:Int),(0:Int)] 62)).alloc (.cells #[(0:Int),(0:Int)] 62)) (w.heap.size+1) 0 0/\cI (((w.alloc (pD p.nm p.pr p.cs.length l c)).alloc (.cells #[(0:Int),(0:Int)] 62)).alloc (.cells #[(0:Int),(0:Int)] 62)) (w.heap.size+1+1) 0 0):=by
  constructor
  ·have:=(cI.made (w.alloc (pD p.nm p.pr p.cs.length l c)) 62 0 0).alloc (.cells #[(0:Int),(0:Int)] 62)
   simpa using this
  ·have:=cI.made ((w.alloc (pD p.nm p.pr p.cs.length l c)).alloc (.cells #[(0:Int),(0:Int)] 62)) 62 0 0
   simpa using this
 generalize p.cs=cs at *;have Hi:=qI g;have Hw:=g.1;clear g
 go_enter func41,ntmps41
 go_wp2
 go_loopw [9] (λi wr=>∃k:Nat,k<=cs.length/\i=.int .i64 k/\Bw w wr/\cI wr (w.heap.size+1) 0 0/\cI wr (w.heap.size+1+1) (de cs k) (cV cs k)) (λi _=>cs.length - (intOf i).toNat)
 exact⟨0,by omega,rfl,Hj,Hg.o.1,Hg.o.2⟩
 ·obtain⟨k,q,rfl,f,Hf,Hh⟩:=hrel
  by_cases j:k<cs.length
  ·obtain⟨b,o,dv,rfl,Ha⟩:=u.o (by omega);have Ha:=Ha.below f;obtain⟨c0,c1,c2,c3,c4,c5⟩:=Ha.at j;have Hr:∃a n e,dv k=.slice a n e:=by
    obtain⟨a,e,y,_⟩:=(Ha.2 k j).2;exact⟨a,_,e,y⟩
   have He:=qI (f.alloc f.size (.cells #[(af cs k).nm,((af cs k).am:Int),((af cs k).ab:Int),((af cs k).cm:Int),((af cs k).cb:Int),dv k] 65));have Hl:=Hf.alloc (.cells #[(af cs k).nm,((af cs k).am:Int),((af cs k).ab:Int),((af cs k).cm:Int),((af cs k).cb:Int),dv k] 65);have Hc:=Hh.alloc (.cells #[(af cs k).nm,((af cs k).am:Int),((af cs k).ab:Int),((af cs k).cm:Int),((af cs k).cb:Int),dv k] 65);have Hb:=lG.made wr (af cs k) (dv k);have Hq:Hu (de cs (k+1)=de cs k+(af cs k).am):=rfl;have Ho:Hu (cV cs (k+1)=cV cs k+(af cs k).ab):=rfl;obtain⟨m1,m2,_⟩:=Hi.o.2 k j;obtain⟨s1,s2⟩:=qr Hi q;obtain⟨s3,B⟩:=oY Hi q;have Ht:=Hh.lt;clear Ha f Hj Hg;generalize de cs k=M at *;generalize cV cs k=N at *;generalize af cs k=x at *;generalize dv k=d at *;obtain⟨da,dn,dc,rfl⟩:=Hr;generalize hW1:wr.alloc (.cells #[x.nm,(x.am:Int),(x.ab:Int),(x.cm:Int),(x.cb:Int),.slice da dn dc] 65)=z at Hl Hc He Hb;have D:wrap64 (M+x.am)=M+x.am:=by unfold wrap64;omega
   have E:wrap64 (N+x.ab)=N+x.ab:=by unfold wrap64;omega
   have Hm:=qI (dD z ⟨w.heap.size+1+1,0,none⟩ (M+x.am:Int));have Hx:=qI (Hl.kept Hm (by simp));have Hk:=qI (Hc.set0 (M+x.am));have C:=(Hm.o.cell_far ⟨wr,2,none⟩ Hb.1 (by simp;omega)).trans Hb.2.2.2.1;obtain⟨⟨f1,f2⟩,⟨f3,s⟩⟩:=Hc;obtain⟨⟨g1,r⟩,⟨g3,g4⟩⟩:=Hk.o;obtain⟨_,_,b1,_⟩:=Hb
   go_wp2
   have m:=He.o.size;have Hs:=jW He (w.heap.size+1+1) 0 (M+x.am:Int) (by omega) m;refine⟨⟨k+1,by omega,by go_num,jW Hs (w.heap.size+1+1) 1 (N+x.ab:Int) (by omega) (by simpa using m),Hx.o.kept (dD _ ⟨w.heap.size+1+1,1,none⟩ (N+x.ab:Int)) (by simp),?_⟩,by simp[intOf];omega⟩;rw[Hq.o,Ho.o];exact Hk.o.set1 _
  ·have Hv:k=cs.length:=by omega
   subst Hv;have m:=f.size;have Hp:=qI (jW (jW f (w.heap.size+1) 0 (de cs cs.length:Int) (by omega) m) (w.heap.size+1) 1 (cV cs cs.length:Int) (by omega) (by simpa using m));have Hn:=qI ((Hf.set0 (de cs cs.length)).set1 (cV cs cs.length));obtain⟨⟨f1,f2⟩,⟨f3,s⟩⟩:=Hf;obtain⟨⟨g1,r⟩,⟨g3,g4⟩⟩:=Hh;clear f
   go_wp2
   (try simp only[Exit.inBlock,Exit.then]);refine bodyPost_ret (v:=.agg #[(de cs cs.length:Int),(cV cs cs.length:Int)]) ?_ rfl ⟨rfl,Hp⟩;obtain⟨⟨g1,r⟩,⟨g3,g4⟩⟩:=Hn.o;rw[uS rfl];clear f1 f2 f3 s;go_simp
theorem OD(p:aj){cv:Value}{w:World}(h:ba w cv p.cs):CB 82 #[cQ p cv] w (nw p.cs:Int):=by
 obtain⟨G,c,rfl,B,A⟩:=h;have C:=qI A;have D:=qI B;clear A B;unfold cQ;have He:=qI ((Q0 w w).alloc (lR) (pD p.nm p.pr p.cs.length G c));generalize p.cs=cs at *
 go_enter func82,ntmps82
 go_wp2
 go_loopw [3,4,10] (λs r i wr=>∃k:Nat,k<=cs.length/\i=.int .i64 k/\s=.bool (oW cs k)/\r=.bool (oX cs k)/\Bw w wr) (λ_ _ i _=>cs.length - (intOf i).toNat)
 exact⟨0,by omega,rfl,rfl,rfl,He⟩
 ·obtain⟨k,I,rfl,rfl,rfl,m⟩:=hrel
  by_cases u:k<cs.length
  ·obtain⟨b,o,dv,rfl,Hb⟩:=C.o (by omega);have Hb:=Hb.below m;obtain⟨c0,c1,c2,c3,c4,c5⟩:=Hb.at u;have Hf:∃a n e,dv k=.slice a n e:=by
    obtain⟨a,e,F,_⟩:=(Hb.2 k u).2;exact⟨a,_,e,F⟩
   have Ha:=qI (m.alloc m.size (.cells #[(af cs k).nm,((af cs k).am:Int),((af cs k).ab:Int),((af cs k).cm:Int),((af cs k).cb:Int),dv k] 65));have y:Hu (wrap64 ((k:Int)+1)=((k+1:Nat):Int)):=by
    have:=D.o
    unfold maxLen at this
    show wrap64 ((k:Int)+1)=((k+1:Nat):Int)
    unfold wrap64;omega
   have HS:Hu (oW cs (k+1)=(oW cs k && rT (af cs k))):=rfl;have l:Hu (oX cs (k+1)=(oX cs k && rU (af cs k))):=rfl;clear Hb m;generalize af cs k=x at *;generalize dv k=d at *;obtain⟨da,dn,dc,rfl⟩:=Hf;generalize oW cs k=s at *;generalize oX cs k=r at *;obtain⟨nm,am,ab,cm,cb,ds⟩:=x;have key:(s=true/\r=true)\/(s=false\/r=false):=by grind
   rcases key with⟨f,g⟩|z
   ·subst f g;have j:∀a c:Int,(a=0/\c=0)\/(a=0/\c≠0)\/(a≠0/\c=0)\/(a≠0/\c=a)\/(a≠0/\c≠0/\a≠c):=by omega
    rcases j am cm with⟨g1,t⟩|⟨g1,t⟩|⟨g1,t⟩|⟨g1,t⟩|⟨g1,t,g3⟩
    all_goals rcases j ab cb with⟨v,q⟩|⟨v,q⟩|⟨v,q⟩|⟨v,q⟩|⟨v,q,J⟩
    all_goals clear j
    all_goals subst_vars
    all_goals (try have E:=Ne.symm t)
    all_goals (try have H:=Ne.symm q)
    all_goals go_wp2
    all_goals
     rw[y.o];refine⟨⟨k+1,by omega,rfl,?_,?_,Ha⟩,by simp[intOf];omega⟩
     ·rw[HS.o];simp[rT, *]
     ·rw[l.o];simp[rU, *] <;> (rw[Bool.eq_iff_iff];simp;omega)
   ·rcases z with f|g
    ·subst f
     rcases two r with g|g
     all_goals subst g
     all_goals go_wp2
     all_goals
      subst_vars
      rw[y.o];refine⟨⟨k+1,by omega,rfl,?_,?_,Ha⟩,by simp[intOf];omega⟩
      ·rw[HS.o];simp[rT, *]
      ·rw[l.o];simp[rU, *] <;> (rw[Bool.eq_iff_iff];simp;omega)
    ·subst g
     rcases two s with f|f
     all_goals subst f
     all_goals go_wp2
     all_goals
      subst_vars
      rw[y.o];refine⟨⟨k+1,by omega,rfl,?_,?_,Ha⟩,by simp[intOf];omega⟩
      ·rw[HS.o];simp[rT, *]
      ·rw[l.o];simp[rU, *] <;> (rw[Bool.eq_iff_iff];simp;omega)
  ·have Hc:k=cs.length:=by omega
   subst Hc;have Ha:=qI m;have l:Hu (nw cs=if oW cs cs.length=true then 1 else if oX cs cs.length=true then 3 else 2):=rfl;clear m
   rcases two (oW cs cs.length) with f|f
   ·rw[f];rw[f] at l
    go_wp2
    go_ret;exact⟨by rw[l.o];rfl,Ha⟩
   ·rcases two (oX cs cs.length) with g|g
    ·rw[f,g];rw[f,g] at l
     go_wp2
     go_ret;exact⟨by rw[l.o];rfl,Ha⟩
    ·rw[f,g];rw[f,g] at l
     go_wp2
     go_ret;exact⟨by rw[l.o];rfl,Ha⟩
def ig (W:World) (B:Nat) (p:aj) (cv:Value):Prop:=B<W.heap.size/\W.cell? B=some (.string p.nm)/\W.cell? ⟨B,1,none⟩=some (.int .i64 p.pr)/\W.cell? ⟨B,2,none⟩=some cv
abbrev uT:=λ(x0:aj) (x1:Value)=>(.cells #[x0.nm,(x0.pr:Int),x1] 49:Obj)
theorem ig.made(w:World)(p:aj)(cv:Value):ig (w.alloc (uT p cv)) w p cv:=⟨by simp,by simp,by simp,by simp⟩
theorem ig.below(h:ig W B p cv)(a:Bw W W'):ig W' B p cv:=by
 obtain⟨b,d,e,c⟩:=h;exact⟨Q1 b a.size,(a.cell (p:=B) b).trans d,(a.cell (p:=⟨B,1,none⟩) b).trans e,(a.cell (p:=⟨B,2,none⟩) b).trans c⟩
theorem ig.alloc(h:ig W B p cv)(o:Obj):ig (W.alloc o) B p cv:=h.below ((Q0 _ W).alloc (lR) o)
theorem ba.slice{v:Value}{cs:List aF}(h:ba w v cs):∃a n c,v=.slice a n c:=by
 obtain⟨a,c,h,_⟩:=h;exact⟨a,_,c,h⟩
theorem sL(p:aj){cv:Value}(x:aF)(da:Option Addr)(dn dc:Nat){w:World}(h:ba w cv p.cs)(g:0<=x.am)(o:x.am<=1000000) :
  CB 44 #[cQ p cv,.agg #[x.nm,(x.am:Int),(x.ab:Int),(x.cm:Int),(x.cb:Int),.slice da dn dc]] w (bR p.cs x.am:Int):=by
 have hs:=h.slice;unfold cQ;have Hb:=qI (((Q0 w w).alloc (lR) (uT p cv)).alloc (by simp) (.cells #[x.nm,(x.am:Int),(x.ab:Int),(x.cm:Int),(x.cb:Int),.slice da dn dc] 65));have a:=lG.made (w.alloc (uT p cv)) x (.slice da dn dc);rw[show (w.alloc (uT p cv)).heap.size=w.heap.size+1 by simp] at a;have a:=qI a;have c:=qI (OD p (h.below Hb));have k:x.am.tmod 1000=x.am % 1000:=Int.tmod_eq_emod_of_nonneg g;have m:x.am.tdiv 1000=x.am / 1000:=Int.tdiv_eq_ediv_of_nonneg g;have b:Hu (bR p.cs x.am=if nw p.cs=3/\x.am % 1000=0 then x.am / 1000 else 0):=rfl;unfold cQ at c;obtain⟨l,n,q,rfl⟩:=hs;generalize nw p.cs=K at *;generalize bR p.cs x.am=R at *;clear h
 by_cases j:K=3
 ·subst j
  by_cases d:x.am % 1000=0
  ·have Hf:x.am.tmod 1000=0:=by rw[k];exact d
   have He:=qI (b.o.trans (if_pos ⟨rfl,d⟩));clear b
   go_enter func44,ntmps44
   go_wp2
   refine c.o.m λi Ha=>?_;obtain⟨f,b0,b1,_⟩:=a.o.below Ha;have Hc:=Hb.t Ha;clear Ha a Hb
   go_wp2
   go_ret;exact⟨by rw[He.o];rfl,Hc⟩
  ·have Hf:(x.am % 1000 != 0)=true:=by simp[d]
   have He:=qI (b.o.trans (if_neg λh=>d h.2));clear b
   go_enter func44,ntmps44
   go_wp2
   refine c.o.m λi Ha=>?_;obtain⟨f,b0,b1,_⟩:=a.o.below Ha;have Hc:=Hb.t Ha;clear Ha a Hb
   go_wp2
   go_ret;exact⟨by rw[He.o];rfl,Hc⟩
 ·have He:=qI (b.o.trans (if_neg λh=>j h.1));clear b
  go_enter func44,ntmps44
  go_wp2
  refine c.o.m λi Ha=>?_;obtain⟨f,b0,b1,_⟩:=a.o.below Ha;have Hc:=Hb.t Ha;clear Ha a Hb
  go_wp2
  go_ret;exact⟨by rw[He.o];rfl,Hc⟩
theorem Dq{p:Program}{t:TypeId}{z:Option Value}{a b:Nat}(h:(p.info? t).map (λi=>(i.zero,i.size,i.bytes))=some (z,a,b)):∃i,p.info? t=some i/\i.zero=z/\i.size=a/\i.bytes=b:=by
 simp_all
theorem oZ.at{b o:Nat}{a:List aj}{cv:Nat->Value}(h:oZ w b o a cv){k:Nat}(c:k<a.length) :
  w.cell? ⟨b,o+k*3,none⟩=some (.string (aS a k).nm)/\w.cell? ⟨b,o+k*3+1,none⟩=some (.int .i64 (aS a k).pr)/\w.cell? ⟨b,o+k*3+2,none⟩=some (cv k)/\ba w (cv k) (aS a k).cs:=⟨(h.2 k c).1.1,(h.2 k c).1.2.1,(h.2 k c).1.2.2,(h.2 k c).2⟩
theorem Dr{base:Nat}{e:TypeId}{size:Nat}{v:Value}{n:Nat}{c:List Value}(h:w.ownsRow base e size v n c)(l:0<n) :
  ∃g a,v=.slice (some ⟨g,0,none⟩) n a/\n<=a/\a<=maxLen/\base<=g/\g<w.heap.size/\∀i u,c[i]?=some u->w.cell? ⟨g,i,none⟩=some u:=by
 rcases h.2 with⟨_,m⟩|⟨g,a,d,j,f,o,Ha,Hb,_,k⟩
 ·omega
 ·refine⟨g,a,j,Ha,Hb,f,?_,λi u b=>?_⟩
  ·grind
  ·rw[<- k,List.getElem?_take] at b
   split at b
   ·simp_all[World.cell?]
   ·cases b
def prV (l:List (aj × Value)):List Value:=l.flatMap λx=>[.string x.1.nm,.int .i64 x.1.pr,x.2]
theorem Ds(l:List (aj × Value)):(prV l).length=l.length*3:=by induction l <;> grind[prV]
theorem Dt(l:List (aj × Value)):∀k,(h:k<l.length)->(prV l)[k*3]?=some (.string l[k].1.nm)/\(prV l)[k*3+1]?=some (.int .i64 l[k].1.pr)/\(prV l)[k*3+2]?=some l[k].2:=by
 induction l with
 | nil=>intro k h;simp at h
 | cons x l ih=>
  intro k h;rw[prV,List.flatMap_cons,<- prV]
  match k,h with
  | 0,_=>exact⟨rfl,rfl,rfl⟩
  | k+1,h=>
   have:=ih k (by simpa using h)
   rw[show (k+1)*3=k*3+3 by omega]
   simpa using this
theorem OE:(prog.info? 49).map (λi=>(i.zero,i.size,i.bytes))=some (some (.agg #[ByteArray.empty,(0:Int),()]),3,48):=by kernel_rfl
