import Derived.Test.YtjlblidnfebmiaaGreatDoorY44
set_option maxRecDepth 100000
set_option maxHeartbeats 16000000
open Go Go.RowKit Go.Shelf
attribute [local go_sem] Oper.semAt_some
namespace Go.Proofs.YtjlblidnfebmiaaGreatDoor
variable{W W':World}{ys:List RV}
def frT (c12 c21 c22 c23 c24:Value) (F:Nat->Value):Act:=⟨List.toArray (F 0 :: F 1 :: F 2 :: F 3 :: F 4 :: F 5 :: F 6 :: F 7 :: F 8 :: F 9 :: F 10 :: F 11 :: c12 :: F 13 :: F 14 :: F 15 :: F 16 :: F 17 :: F 18 :: F 19 :: F 20 :: c21 :: c22 :: c23 :: c24 :: tlS F ([]) 25 251),[]⟩
def m5 (W:World) (a:Option Addr) (ys:List RV):Prop:=0<ys.length->∃g,a=some ⟨g,0,none⟩/\g<W.heap.size/\jQ W g ys
theorem m5.below{a:Option Addr}(h:m5 W a ys)(b:Bw W W'):m5 W' a ys:=λe=>by
 obtain⟨g,f,c,d⟩:=h e;exact⟨g,f,Q1 c b.size,jQ.block d (b.block g c)⟩
theorem rA{x:RV}(h:bB W x)(a:Bw W W'):bB W' x/\aN W' x=aN W x:=by
 obtain⟨b,c⟩:=h.below a λ_ _ _ h=>h;exact⟨b,by unfold aN;rw[c]⟩
def Fnd (W:World) (ys:List RV) (z:RV) (k:Nat) (b:Bool):Prop:=∀j,j<k->aN W (rv ys j)=aN W z->b=true
theorem Fnd.more{z:RV}{k:Nat}{b b':Bool}(h:Fnd W ys z k b)(c:b=true->b'=true)(d:aN W (rv ys k)=aN W z->b'=true):Fnd W ys z (k+1) b':=λj f e=>by
 by_cases a:j=k
 ·subst a;exact d e
 ·exact c (h j (by omega) e)
abbrev Ih:=λ(gy k:Nat) (y:RV) (gz i:Nat) (z:RV) (w':World)=>(cl w' gy (k*4) y.pod/\cl w' gy (k*4+1) y.cont/\cl w' gy (k*4+2) (.int .u64 y.cpus)/\cl w' gy (k*4+3) (.slice y.da y.dn y.dc))/\cl w' gz (i*4) z.pod/\cl w' gz (i*4+1) z.cont/\cl w' gz (i*4+2) (.int .u64 z.cpus)/\cl w' gz (i*4+3) (.slice z.da z.dn z.dc)
theorem YF(F:Nat->Value){W:World}{o p:Option Addr}(rc nc:Nat){i:Nat}(q:Nat){c a:List RV}(s:q=a.length)(x:m5 W o c)(u:m5 W p a)(l:bB W (rv c i)/\(rv c i).dn<=1000)(m:∀y∈a,bB W y/\y.dn<=1000)(hi:i<c.length)(T:c.length<=1000)(L:a.length<=1000)(hf:∃j,j<a.length/\aN W (rv a j)=aN W (rv c i)) :
  Code.wp Tryz.prog (Code.loop (kr 5)) (p7 10 (FrS (λF=>frT (.slice o c.length rc) (.slice p q nc) (.int .i64 (i:Nat)) true (F 24) F) λW'=>Below W W W')) (frT (.slice o c.length rc) (.slice p q nc) (.int .i64 (i:Nat)) false (0:Int) F) W:=by
 subst s;obtain⟨d,C,Hf,Ho⟩:=x (by omega);subst C;have Hs:=qI Ho;have M:=qI u;have Hq:=qI l;have H:=qI m;have Hy:=qI hf;clear Ho u l m hf x;simp only[frT,tlS,Nat.reduceAdd]
 conv=>enter [2,1];unfold kr;whnf
 go_loopw [23,24] (λQ r wq=>∃(k:Nat) (b:Bool),k<=a.length/\r=.int .i64 k/\Q=.bool b/\Fnd W a (rv c i) k b/\Below W W wq) (λ_ r _=>a.length - (intOf r).toNat)
 case atStart=>exact⟨0,false,Nat.zero_le _,rfl,rfl,λj v=>by omega,Q0 _ _⟩
 case round=>
  obtain⟨k,b,U,rfl,rfl,Hm,Hp⟩:=hrel;have Hb:=qI Hm;have Hh:=qI Hp;clear Hm Hp
  by_cases n:k<a.length
  ·obtain⟨f,Hw,Hg,Hk⟩:=M.o (by omega);subst Hw;have Hz:=qI Hk;clear Hk;have Hn:=o8 n;have Hc:=qI (H.o _ Hn);clear Hn;have Hi:Hu (∀V,Below W W V->(λw'=>(cl w' f (k*4) (rv a k).pod/\cl w' f (k*4+1) (rv a k).cont/\cl w' f (k*4+2) (.int .u64 (rv a k).cpus)/\cl w' f (k*4+3) (.slice (rv a k).da (rv a k).dn (rv a k).dc))/\cl w' d (i*4) (rv c i).pod/\cl w' d (i*4+1) (rv c i).cont/\cl w' d (i*4+2) (.int .u64 (rv c i).cpus)/\cl w' d (i*4+3) (.slice (rv c i).da (rv c i).dn (rv c i).dc)) V):=λV g=>by
    obtain⟨⟨c0,c1,c2,c3⟩,_⟩:=jQ.block (W':=V) Hz.o (g.block f Hg) k n;obtain⟨⟨B,O,P,A⟩,_⟩:=jQ.block (W':=V) Hs.o (g.block d Hf) i hi;exact⟨⟨c0,c1,c2,c3⟩,B,O,P,A⟩
   rcases two b with rfl|rfl
   ·have E:=qI (Hb.o.more (b':=true) (λ_=>rfl) λ_=>rfl);clear Hb Hc;generalize rv a k=y at *;generalize rv c i=z at *;have Ha:=qI (bO Hh.o)
    go_upto_region 50 with fail
    refine wp_region_held_drew (S:=Ih f k y d i z) (by kernel_rfl) (Hi.o _ Ha.o) λt=>?_;generalize wr.drew=V at *;refine tk 0 ?_;refine tk 1 ?_;refine ts 2 ?_;refine ts 3 ?_;refine ts 4 ?_;refine ts 5 ?_;refine ts 6 ?_;refine ts 7 ?_;refine ts 8 ?_;refine ts 9 ?_;refine ts 10 ?_;refine tk 11 ?_;refine tk 12 ?_;refine Qn (by kernel_rfl) ?_ _
    go_wp2
    go_roundw
    case rel=>exact⟨k+1,true,by omega,by go_num,rfl,E.o,Ha.o⟩
    case measure=>simp[intOf];omega
   ·have I:Hu (∀V,Below W W V->Calls Tryz.prog 46 #[.agg #[(rv a k).pod,(rv a k).cont,.int .u64 (rv a k).cpus,.slice (rv a k).da (rv a k).dn (rv a k).dc],.agg #[(rv c i).pod,(rv c i).cont,.int .u64 (rv c i).cpus,.slice (rv c i).da (rv c i).dn (rv c i).dc]] V λe w'=>∃b:Bool,e=.returned b/\Fnd W a (rv c i) (k+1) b/\Below V.heap.size V w'):=λV g=>by
     obtain⟨J,G⟩:=rA Hc.o.1 g;obtain⟨N,D⟩:=rA Hq.o.1 g;refine (VF (x:=rv a k) (y:=rv c i) (w:=V) J N Hc.o.2 Hq.o.2).mono ?_;rintro e w' ⟨b,rfl,Hl,He⟩;rw[G,D] at Hl;exact⟨b,rfl,Hb.o.more (λh=>by cases h) Hl,He⟩
    clear Hb Hc;generalize rv a k=y at *;generalize rv c i=z at *;have Ha:=qI (bO Hh.o)
    go_upto_region 50 with fail
    refine wp_region_held_drew (S:=Ih f k y d i z) (by kernel_rfl) (Hi.o _ Ha.o) λt=>?_;generalize wr.drew=V at *;refine tk 0 ?_;refine tk 1 ?_;refine tk 2 ?_;refine tk 3 ?_;refine tk 4 ?_;refine tk 5 ?_;refine tk 6 ?_;refine tk 7 ?_;refine tk 8 ?_;refine tk 9 ?_;refine rd 10 λK w=>?_;go_simp
    go_wp2_with fail
    refine (I.o _ Ha.o).mono ?_;rintro e X ⟨b2,rfl,Hr,He⟩;have Hj:=qI (Ha.o.trans (He.mono Ha.o.size));have Ht:=qI Hr;clear He Hr
    go_wp2_with fail
    refine w.o _ _ (Hi.o _ Hj.o) λt=>?_;clear w K;refine tk 11 ?_;refine tk 12 ?_;refine Qn (by kernel_rfl) ?_ _
    go_wp2
    go_roundw
    case rel=>exact⟨k+1,b2,by omega,by go_num,rfl,Ht.o,Hj.o⟩
    case measure=>simp[intOf];omega
  ·have Hx:k=a.length:=by omega
   subst Hx;obtain⟨j,v,R⟩:=Hy.o;have Hv:=Hb.o j v R;subst Hv
   go_wp2
   exact⟨rfl,FrS.mk (by kernel_rfl) Hh.o⟩
theorem YG(F:Nat->Value){W:World}{e g:Option Addr}(rc nc k:Nat){b c:List RV}(o:k=c.length)(s:m5 W e b)(f:m5 W g c)(h:∀z∈b,bB W z/\z.dn<=1000)(l:∀y∈c,bB W y/\y.dn<=1000)(p:b.length<=1000)(q:c.length<=1000)(hf:∀i,i<b.length->∃j,j<c.length/\aN W (rv c j)=aN W (rv b i)) :
  Code.wp Tryz.prog (Code.loop (kr 4)) (p7 8 (FrS (λF=>frT (F 12) (F 21) (F 22) (F 23) (F 24) F) λW'=>Bw W W')) (frT (.slice e b.length rc) (.slice g k nc) (0:Int) (F 23) (F 24) F) W:=by
 have w:=qI s;have u:=qI f;have Hj:=qI h;have Hc:=qI l;have Hg:=qI hf;clear s f h l hf
 conv=>enter [2,1];unfold kr;whnf
 refine Am (λm a wq=>∃(i:Nat) (n:Value),m+i=b.length/\n=.int .i64 i/\FrS (λF=>frT (.slice e b.length rc) (.slice g k nc) (n) (F 23) (F 24) F) (λwq=>Bw W wq) a wq) (n₀:=b.length) ?_ ?_
 ·exact⟨0,.int .i64 0,rfl,rfl,FrS.mk (by kernel_rfl) (Q0 _ _)⟩
 ·rintro m a wr ⟨i,n,Hk,rfl,B,rfl,He⟩ K v;have hi:i<=b.length:=by omega
  simp only[frT,tlS,Nat.reduceAdd];(try dsimp only);have Ha:=qI He;clear He
  by_cases d:i<b.length
  ·go_wp2
   have Hb:=Hj.o _ (o8 d);refine rz (G:=λF=>frT (.slice e b.length rc) (.slice g k nc) (.int .i64 (i:Nat)) false (0:Int) F) (by kernel_rfl) (λr=>YF r (W:=wr) (o:=e) (p:=g) rc nc (i:=i) k (c:=b) (a:=c) o (w.o.below Ha) (u.o.below Ha) ⟨(rA Hb.1 Ha).1,Hb.2⟩ (λy f=>⟨(rA (Hc.o y f).1 Ha).1,(Hc.o y f).2⟩) d p q (by
    obtain⟨j,t,x⟩:=Hg.o i d;exact⟨j,t,by rw[(rA (Hc.o _ (o8 t)).1 Ha.o).2,(rA Hb.1 Ha.o).2];exact x⟩)) ?_
   rintro a A ⟨r,rfl,Hf⟩;have Hh:=Ha.t Hf;clear Hf Hb;simp only[frT,tlS,Nat.reduceAdd];(try dsimp only)
   go_wp2
   refine v.o _ _ ⟨m - 1,by omega,i+1,.int .i64 ((i:Int)+1),by omega,?_,FrS.mk (by kernel_rfl) Hh⟩
   go_num
  ·have Hi:i=b.length:=by omega
   subst Hi
   go_wp2
   exact⟨rfl,FrS.mk (by kernel_rfl) Ha⟩
