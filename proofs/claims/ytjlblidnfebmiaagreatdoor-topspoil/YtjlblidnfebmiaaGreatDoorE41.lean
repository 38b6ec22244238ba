import Derived.Test.YtjlblidnfebmiaaGreatDoorE40
set_option maxRecDepth 100000
set_option maxHeartbeats 16000000
open Go Go.RowKit Go.Shelf
attribute [local go_sem] Oper.semAt_some
namespace Go.Proofs.YtjlblidnfebmiaaGreatDoor
variable {W W':World} {ys:List RV}
def frT (c12 c21 c22 c23 c24:Value) (F:Nat->Value):Act:=⟨List.toArray (F 0 :: F 1 :: F 2 :: F 3 :: F 4 :: F 5 :: F 6 :: F 7 :: F 8 :: F 9 :: F 10 :: F 11 :: c12 :: F 13 :: F 14 :: F 15 :: F 16 :: F 17 :: F 18 :: F 19 :: F 20 :: c21 :: c22 :: c23 :: c24 :: tlS F ([]) 25 251),[]⟩
def lN (W:World) (a:Option Addr) (ys:List RV):Prop:=0<ys.length->∃ g,a=some ⟨g,0,none⟩/\g<W.heap.size/\jw W g ys
theorem lN.below {a:Option Addr} (h:lN W a ys) (b:Below W.heap.size W W'):lN W' a ys:=λe=>by
 obtain ⟨g,d,c,f⟩:=h e;exact ⟨g,d,Q1 c b.size,jw.block f (b.block g c)⟩
theorem pH {x:RV} (h:bm W x) (b:Below W.heap.size W W'):bm W' x/\aI W' x=aI W x:=by
 obtain ⟨a,c⟩:=h.below b λ_ _ _ h=>h;exact ⟨a,by unfold aI;rw [c]⟩
def Fnd (W:World) (ys:List RV) (z:RV) (k:Nat) (b:Bool):Prop:=∀ j,j<k->aI W (rv ys j)=aI W z->b=true
theorem Fnd.more {z:RV} {k:Nat} {b b':Bool} (h:Fnd W ys z k b) (d:b=true->b'=true) (c:aI W (rv ys k)=aI W z->b'=true):Fnd W ys z (k+1) b':=λj f e=>by
 by_cases a:j=k
 ·subst a;exact c e
 ·exact d (h j (by omega) e)
abbrev Fe:=λ(gy k:Nat) (y:RV) (gz i:Nat) (z:RV) (w':World)=>(w'.cell? ⟨gy,k*4,none⟩=some (.string y.pod)/\w'.cell? ⟨gy,k*4+1,none⟩=some (.string y.cont)/\w'.cell? ⟨gy,k*4+2,none⟩=some (.int .u64 y.cpus)/\w'.cell? ⟨gy,k*4+3,none⟩=some (.slice y.da y.dn y.dc))/\w'.cell? ⟨gz,i*4,none⟩=some (.string z.pod)/\w'.cell? ⟨gz,i*4+1,none⟩=some (.string z.cont)/\w'.cell? ⟨gz,i*4+2,none⟩=some (.int .u64 z.cpus)/\w'.cell? ⟨gz,i*4+3,none⟩=some (.slice z.da z.dn z.dc)
theorem Uv (F:Nat->Value) (W:World) (r s:Option Addr) (rc nc i o:Nat) (c a:List RV) (q:o=a.length) (x:lN W r c) (t:lN W s a) (n:bm W (rv c i)/\(rv c i).dn<=1000) (g:∀ y∈a,bm W y/\y.dn<=1000) (hi:i<c.length) (G:c.length<=1000) (M:a.length<=1000) (hf:∃ j,j<a.length/\aI W (rv a j)=aI W (rv c i)) :
  Code.wp Tryz.prog (Code.loop (jA 5)) (ov 10 (FrS (λF=>frT (.slice r c.length rc) (.slice s o nc) (.int .i64 (i:Nat)) (.bool true) (F 24) F) λW'=>Below W.heap.size W W')) (frT (.slice r c.length rc) (.slice s o nc) (.int .i64 (i:Nat)) (.bool false) (.int .i64 0) F) W:=by
 subst q;obtain ⟨d,T,Hh,Ho⟩:=x (by omega);subst T;have Hs:=qI Ho;have E:=qI t;have Hp:=qI n;have D:=qI g;have P:=qI hf;clear Ho t n g hf x;simp only [frT,tlS,Nat.reduceAdd]
 conv=>enter [2,1];unfold jA;whnf
 go_loopw [23,24] (λR p wq=>∃ (k:Nat) (b:Bool),k<=a.length/\p=.int .i64 k/\R=.bool b/\Fnd W a (rv c i) k b/\Below W.heap.size W wq) (λ_ p _=>a.length - (intOf p).toNat)
 case atStart=>exact ⟨0,false,Nat.zero_le _,rfl,rfl,λj w=>by omega,Q0 _ _⟩
 case round=>
  obtain ⟨k,b,X,rfl,rfl,Hj,Hn⟩:=hrel;have Hb:=qI Hj;have Hf:=qI Hn;clear Hj Hn
  by_cases l:k<a.length
  ·obtain ⟨f,Ht,Hi,Hq⟩:=E.o (by omega);subst Ht;have Hy:=qI Hq;clear Hq;have Hk:rv a k∈a:=n9 l;have He:=qI (D.o _ Hk);clear Hk;have Hg:Hu (∀ V,Below W.heap.size W V->(λw'=>(w'.cell? ⟨f,k*4,none⟩=some (.string (rv a k).pod)/\w'.cell? ⟨f,k*4+1,none⟩=some (.string (rv a k).cont)/\w'.cell? ⟨f,k*4+2,none⟩=some (.int .u64 (rv a k).cpus)/\w'.cell? ⟨f,k*4+3,none⟩=some (.slice (rv a k).da (rv a k).dn (rv a k).dc))/\w'.cell? ⟨d,i*4,none⟩=some (.string (rv c i).pod)/\w'.cell? ⟨d,i*4+1,none⟩=some (.string (rv c i).cont)/\w'.cell? ⟨d,i*4+2,none⟩=some (.int .u64 (rv c i).cpus)/\w'.cell? ⟨d,i*4+3,none⟩=some (.slice (rv c i).da (rv c i).dn (rv c i).dc)) V):=λV m=>by
    obtain ⟨⟨c0,c1,c2,c3⟩,_⟩:=jw.block (W':=V) Hy.o (m.block f Hi) k l;obtain ⟨⟨C,L,I,B⟩,_⟩:=jw.block (W':=V) Hs.o (m.block d Hh) i hi;exact ⟨⟨c0,c1,c2,c3⟩,C,L,I,B⟩
   rcases two b with rfl|rfl
   ·have Hz:=qI (Hb.o.more (b':=true) (λ_=>rfl) λ_=>rfl);clear Hb He;generalize rv a k=y at *;generalize rv c i=z at *;have Ha:Hu (Below W.heap.size W wr.drew):=bF Hf.o
    go_upto_region 50 with fail
    refine wp_region_held_drew (S:=Fe f k y d i z) (by kernel_rfl) (Hg.o _ Ha.o) λu=>?_;generalize wr.drew=V at *;refine tk 0 ?_;refine tk 1 ?_;refine ts 2 ?_;refine ts 3 ?_;refine ts 4 ?_;refine ts 5 ?_;refine ts 6 ?_;refine ts 7 ?_;refine ts 8 ?_;refine ts 9 ?_;refine ts 10 ?_;refine tk 11 ?_;refine tk 12 ?_;refine Qn (by kernel_rfl) ?_ _
    go_wp2
    go_roundw
    case rel=>exact ⟨k+1,true,by omega,by go_num,rfl,Hz.o,Ha.o⟩
    case measure=>simp [intOf];omega
   ·have Hx:Hu (∀ V,Below W.heap.size W V->Calls Tryz.prog 46 #[.agg #[.string (rv a k).pod,.string (rv a k).cont,.int .u64 (rv a k).cpus,.slice (rv a k).da (rv a k).dn (rv a k).dc],.agg #[.string (rv c i).pod,.string (rv c i).cont,.int .u64 (rv c i).cpus,.slice (rv c i).da (rv c i).dn (rv c i).dc]] V λe w'=>∃ b:Bool,e=.returned (.bool b)/\Fnd W a (rv c i) (k+1) b/\Below V.heap.size V w'):=λV m=>by
     obtain ⟨N,A⟩:=pH He.o.1 m;obtain ⟨Q,J⟩:=pH Hp.o.1 m;refine (Ss (rv a k) (rv c i) V N Q He.o.2 Hp.o.2).mono ?_;rintro e w' ⟨b,rfl,Hl,Hc⟩;rw [A,J] at Hl;exact ⟨b,rfl,Hb.o.more (λh=>by cases h) Hl,Hc⟩
    clear Hb He;generalize rv a k=y at *;generalize rv c i=z at *;have Ha:Hu (Below W.heap.size W wr.drew):=bF Hf.o
    go_upto_region 50 with fail
    refine wp_region_held_drew (S:=Fe f k y d i z) (by kernel_rfl) (Hg.o _ Ha.o) λu=>?_;generalize wr.drew=V at *;refine tk 0 ?_;refine tk 1 ?_;refine tk 2 ?_;refine tk 3 ?_;refine tk 4 ?_;refine tk 5 ?_;refine tk 6 ?_;refine tk 7 ?_;refine tk 8 ?_;refine tk 9 ?_;refine rd 10 λK v=>?_;go_simp
    go_wp2_with fail
    refine (Hx.o _ Ha.o).mono ?_;rintro e U ⟨b2,rfl,Hm,Hc⟩;have Hr:=qI (Ha.o.trans (Hc.mono Ha.o.size));have Hv:=qI Hm;clear Hc Hm
    go_wp2_with fail
    refine v.o _ _ (Hg.o _ Hr.o) λu=>?_;clear v K;refine tk 11 ?_;refine tk 12 ?_;refine Qn (by kernel_rfl) ?_ _
    go_wp2
    go_roundw
    case rel=>exact ⟨k+1,b2,by omega,by go_num,rfl,Hv.o,Hr.o⟩
    case measure=>simp [intOf];omega
  ·have Hw:k=a.length:=by omega
   subst Hw;obtain ⟨j,w,O⟩:=P.o;have H:=Hb.o j w O;subst H
   go_wp2
   exact ⟨rfl,FrS.mk (by kernel_rfl) Hf.o⟩
theorem Uw (F:Nat->Value) (W:World) (e l:Option Addr) (rc nc f:Nat) (b d:List RV) (p:f=d.length) (t:lN W e b) (h:lN W l d) (k:∀ z∈b,bm W z/\z.dn<=1000) (g:∀ y∈d,bm W y/\y.dn<=1000) (o:b.length<=1000) (n:d.length<=1000) (hf:∀ i,i<b.length->∃ j,j<d.length/\aI W (rv d j)=aI W (rv b i)) :
  Code.wp Tryz.prog (Code.loop (jA 4)) (ov 8 (FrS (λF=>frT (F 12) (F 21) (F 22) (F 23) (F 24) F) λW'=>Below W.heap.size W W')) (frT (.slice e b.length rc) (.slice l f nc) (.int .i64 0) (F 23) (F 24) F) W:=by
 have w:=qI t;have x:=qI h;have Hg:=qI k;have Hc:=qI g;have Hh:=qI hf;clear t h k g hf
 conv=>enter [2,1];unfold jA;whnf
 refine yf (λm a wq=>∃ (i:Nat) (q:Value),m+i=b.length/\q=.int .i64 i/\FrS (λF=>frT (.slice e b.length rc) (.slice l f nc) (q) (F 23) (F 24) F) (λwq=>Below W.heap.size W wq) a wq) b.length ?_ ?_
 ·exact ⟨0,.int .i64 0,rfl,rfl,FrS.mk (by kernel_rfl) (Q0 _ _)⟩
 ·rintro m a wr ⟨i,q,Hk,rfl,A,rfl,He⟩ K u;have hi:i<=b.length:=by omega
  simp only [frT,tlS,Nat.reduceAdd];(try dsimp only);have Ha:=qI He;clear He
  by_cases c:i<b.length
  ·go_wp2_with fail
   have Hb:=Hg.o _ (n9 c);refine pG (G:=λF=>frT (.slice e b.length rc) (.slice l f nc) (.int .i64 (i:Nat)) (.bool false) (.int .i64 0) F) (by kernel_rfl) (λr=>Uv r wr e l rc nc i f b d p (w.o.below Ha.o) (x.o.below Ha.o) ⟨(pH Hb.1 Ha.o).1,Hb.2⟩ (λy h=>⟨(pH (Hc.o y h).1 Ha.o).1,(Hc.o y h).2⟩) c o n (by
    obtain ⟨j,s,v⟩:=Hh.o i c;exact ⟨j,s,by rw [(pH (Hc.o _ (n9 s)).1 Ha.o).2,(pH Hb.1 Ha.o).2];exact v⟩)) ?_
   rintro a B ⟨r,rfl,Hf⟩;have Hj:=qI (Ha.o.trans (Hf.mono Ha.o.size));clear Hf Hb;simp only [frT,tlS,Nat.reduceAdd];(try dsimp only)
   go_wp2_with fail
   refine u.o _ _ ⟨m - 1,by omega,i+1,.int .i64 ((i:Int)+1),by omega,?_,FrS.mk (by kernel_rfl) Hj.o⟩
   go_num
  ·have Hi:i=b.length:=by omega
   subst Hi
   go_wp2
   exact ⟨rfl,FrS.mk (by kernel_rfl) Ha.o⟩
