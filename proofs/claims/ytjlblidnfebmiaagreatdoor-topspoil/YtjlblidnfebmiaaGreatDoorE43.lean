import Derived.Test.YtjlblidnfebmiaaGreatDoorE42
import Derived.Test.YtjlblidnfebmiaaGreatDoorE40
set_option maxRecDepth 100000
set_option maxHeartbeats 16000000
open Go Go.RowKit Go.Shelf
attribute [local go_sem] Oper.semAt_some
open Go.Proofs.Tryz
namespace Go.Proofs.YtjlblidnfebmiaaGreatDoor
variable {W w:World} {b:Nat} {ns:List ai} {t:bU}
theorem pI {B:Nat} {W':World} {K:Nat->Prop} (a:Below B w W) (f:B<=W.heap.size) (b:Apart K W W') (c:∀ j,K j->B<=j):Below B w W':=
 ⟨b.os.trans a.os,b.tape.trans a.tape,b.output.trans a.output,Q5 a.size b.size,λj d=>(b.block j (by omega) (λe=>by have:=c j e;omega)).trans (a.block j d)⟩
theorem Ux (c:dM) (j v2:Value) (g o:Nat) (w:World) (m:fX w j c.l) (t:dW w v2 g o c.ds):Calls prog 7 #[nK c j v2] w λe w'=>Ans e/\Below w.heap.size w w':=by
 obtain ⟨ca,cc,Hc⟩:∃ ca cc,j=.slice ca c.l.length cc:=by
  rcases id m with ⟨s,u,q,rfl⟩|⟨b,o,q,rfl,_⟩
  ·exact ⟨u,q,by rw [s];rfl⟩
  ·exact ⟨_,q,rfl⟩
 obtain ⟨da,dc,Hb,l⟩:=t;subst Hc Hb;have r:=qI l;clear m l;unfold nK;generalize c.l.length=cl at *;have Ha:=qI ((Q0 w.heap.size w).alloc (lR) (.cells #[.slice ca cl cc,.int .u64 (c.keep:Nat),.int .i64 c.nb,.slice da c.ds.length dc,.int .i64 c.pol] 27));have Hf:=qI (aU w (.cells #[.slice ca cl cc,.int .u64 (c.keep:Nat),.int .i64 c.nb,.slice da c.ds.length dc,.int .i64 c.pol] 27) rfl)
 by_cases a:70<cl
 ·go_enter func7,ntmps7
  go_wp2
  go_ret;exact ⟨⟨_,rfl⟩,Ha.o⟩
 have Hi:decide (70<(cl:Int))=false:=Q7 (by omega)
 by_cases h:20<c.ds.length
 ·go_enter func7,ntmps7
  go_wp2
  go_ret;exact ⟨⟨_,rfl⟩,Ha.o⟩
 have Hj:decide (20<(c.ds.length:Int))=false:=Q7 (by omega);have Hg:c.ds.length<=20:=by omega
 clear a h
 go_enter func7,ntmps7
 go_wp2_with fail
 generalize w.alloc (.cells #[.slice ca cl cc,.int .u64 (c.keep:Nat),.int .i64 c.nb,.slice da c.ds.length dc,.int .i64 c.pol] 27)=X at *
 go_loopw [3] (λi wr=>∃ k:Nat,k<=c.ds.length/\i=.int .i64 k/\wr=X) (λi _=>c.ds.length - (intOf i).toNat)
 case atStart=>exact ⟨0,Nat.zero_le _,rfl,rfl⟩
 case round=>
  obtain ⟨k,y,rfl,rfl⟩:=hrel;have x:wr.cell? ⟨w.heap.size,3,none⟩=some (.slice da c.ds.length dc):=aa Hf.o 3
  by_cases f:k<c.ds.length
  ·obtain ⟨rfl,He,n⟩:=r.o (by omega);have v:wr.cell? ⟨g,o+k*3,none⟩=some (.string (aC c.ds k).kind):=(Ha.o.cell (p:=⟨g,o+k*3,none⟩) He).trans (n k f).1;clear n;generalize (aC c.ds k).kind=kd at *
   by_cases d:30<kd.size
   ·go_wp2
    go_ret;exact ⟨⟨_,rfl⟩,Ha.o⟩
   ·have Hh:decide (30<(kd.size:Int))=false:=Q7 (by omega);clear d
    go_wp2
    go_roundw
    case rel=>exact ⟨k+1,by omega,by go_num,trivial⟩
    case measure=>simp [intOf];omega
  ·go_wp2
   go_ret;exact ⟨⟨_,rfl⟩,Ha.o⟩
theorem ul {N:Nat->Prop} {d g f q:Nat} {j:Dk} {n:Nat} (h:be w N d g f q t j n):Calls prog 12 #[.pointer (some ⟨d,0,none⟩)] w λe w'=>∃ a c,e=.returned (.slice a t.hs.length c)/\aX (fresh w.heap.size w') (.slice a t.hs.length c) t.hs/\Below w.heap.size w w':=by
 obtain ⟨p,Ha,Hb,y,He,Hg,Hf,Hc,m,b,x,k,i,db,z,C,s,o,l,A,u,v,D,r⟩:=h;obtain ⟨B,a2,a3⟩:=cL.1 p.held;exact ED d m t.m g f k s.cp i t.hs w o (l.le (dm _ _)) a2 (by omega)
theorem Uy {p:az} (h:(bl t p).1=0):dH (bl t p).2 p.nm=true:=by
 rcases two (dH (bl t p).2 p.nm) with e|e
 ·exact e
 ·exfalso
  have a:=BM h;have b:=Ds h;rw [E7 e] at a;rw [a] at b;omega
theorem Uz {nm:ByteArray} (h:W.heap[b]?=some (.cells #[.string nm,.int .i64 0,.int .i64 0,.int .i64 0,.int .i64 0,.slice none 0 0] 65 (0,0))):aZ W (.slice (some ⟨b,0,none⟩) 1 1) [⟨nm,0,0,0,0,[]⟩]:=by
 have c:b<W.heap.size:=(gS h).1;refine ⟨_,_,rfl,⟨lR,by decide⟩,λ_=>⟨b,0,λ_=>.slice none 0 0,rfl,c,λk a=>?_⟩⟩;have Ha:k=0:=by simp at a;exact a
 subst Ha;refine ⟨λj d=>?_,⟨none,0,rfl,by simp [ae],λh=>by simp [ae] at h⟩⟩
 have:=aa h j
 simp only [Nat.zero_mul,Qd];rw [this]
 have:j=0\/j=1\/j=2\/j=3\/j=4\/j=5:=by omega
 rcases this with rfl|rfl|rfl|rfl|rfl|rfl <;> rfl
theorem UA (h:W.heap[b]?=some (.cells #[.int .i64 0,.int .i64 0,.int .i64 0] 74 (0,0))):fX W (.slice (some ⟨b,0,none⟩) 1 1) [⟨0,0,0⟩]:=by
 refine .inr ⟨b,0,1,rfl,λk c=>?_⟩;have a:k=0:=by simp at c;exact c
 subst a;exact ⟨aa h 0,aa h 1,aa h 2⟩
abbrev i6:Nat->Prop:=λ_=>False
abbrev pJ:=λ(x0 x1 x2:Nat)=>(.cells #[.pointer (some ⟨x0,0,none⟩),.pointer (some ⟨x1,0,none⟩),.pointer (some ⟨x2,0,none⟩)] 36:Obj)
abbrev rB:=(.cells #[.string ⟨#[120]⟩,.int .i64 0,.int .i64 0,.int .i64 0,.int .i64 0,.slice none 0 0] 65:Obj)
abbrev yi:=(.cells #[.int .i64 0,.int .i64 0,.int .i64 0] 74:Obj)
theorem UB (w:World) (p:cD w) (u:cO w):Calls prog 6 #[] w λe w'=>e=.returned (.bool true)/\Below w.heap.size w w':=by
 have Hj:=qI ((Q0 w.heap.size w).alloc (lR) (yi));have HU:=qI (aU w (yi) rfl);have k:=qI p;have J:=qI u;have H0:1<w.heap.size:=p.2;clear p u
 go_enter func6,ntmps6
 go_wp2_with fail
 generalize w.alloc (yi)=X at *;refine (Fa fR (.slice (some ⟨w.heap.size,0,none⟩) 1 1) (.slice none 0 0) 0 0 X (UA HU.o) ⟨none,0,rfl,λh=>by simp [fR] at h⟩ (by decide) (k.o.below Hj.o) (J.o.below Hj.o)).mono ?_;rintro e a ⟨Hp,Hb,Hg⟩;clear Hp;obtain ⟨b,c,d,f,rfl,Hs,l1,l2,l3,l4⟩:=Hb P3;have P:w.heap.size<=X.heap.size:=Hj.o.size;have v:Hu (Below w.heap.size w a):=Hj.o.trans (Hg.mono P);have Hq:=qI Hs;have i:∀ j,three b c f j->w.heap.size<=j:=λj hj=>by
  rcases hj with e|e|e <;> omega
 have y:=qI i;have U:Hu (¬ three b c f 1):=λe=>by have:=i _ e;omega
 clear Hb Hg Hs i;have Hz:=qI (v.o.alloc v.o.size (.cells #[.pointer (some ⟨c,0,none⟩),.pointer (some ⟨d,0,none⟩),.pointer (some ⟨b,0,none⟩)] 36));have D:=qI ((Q0 a.heap.size a).alloc (lR) (.cells #[.pointer (some ⟨c,0,none⟩),.pointer (some ⟨d,0,none⟩),.pointer (some ⟨b,0,none⟩)] 36));have t:=qI (aU a (.cells #[.pointer (some ⟨c,0,none⟩),.pointer (some ⟨d,0,none⟩),.pointer (some ⟨b,0,none⟩)] 36) rfl);have N:Hu ((a.alloc (.cells #[.pointer (some ⟨c,0,none⟩),.pointer (some ⟨d,0,none⟩),.pointer (some ⟨b,0,none⟩)] 36)).heap.size=a.heap.size+1):=by unfold Hu;simp
 have n:(a.alloc (.cells #[.pointer (some ⟨c,0,none⟩),.pointer (some ⟨d,0,none⟩),.pointer (some ⟨b,0,none⟩)] 36)).cell? ⟨a.heap.size,2,none⟩=some (.pointer (some ⟨b,0,none⟩)):=aa t.o 2
 go_upto_region 4 with fail
 generalize a.alloc (.cells #[.pointer (some ⟨c,0,none⟩),.pointer (some ⟨d,0,none⟩),.pointer (some ⟨b,0,none⟩)] 36)=Y at *;have Hi:=qI (Hz.o.alloc Hz.o.size (rB));have HZ:=qI (D.o.alloc D.o.size (rB));have K:=qI (aU Y (rB) rfl);have Ht:=qI (b6 t.o (rB))
 go_wp2_with fail
 clear n;generalize Y.alloc (rB)=Z at *;have V:b<a.heap.size:=by
  obtain ⟨_,_,_,_,_,_,_,_,_,_,_,_,_,_,_,_,_,Q,_⟩:=Hq.o;exact Q.lt
 obtain ⟨H2,G,T⟩:=Hq.o.eng.lt;have HQ:=N.o;have Ho:=qI (Ff i6 b c d f ⟨cN fR,fR.ds,[]⟩ Dk.fresh 0 jt (.slice (some ⟨Y.heap.size,0,none⟩) 1 1) Z (Hq.o.keep HZ.o) (Uz (by rw [cZ (by rintro (e|e|e|e) <;> first|exact e|omega)];exact K.o)) (k.o.below Hi.o) (by omega) (λl M=>by
  have:l=[]:=by simpa using M
  subst this;exact ER (l:=[]) (by simp)))
 unfold du at Ho;clear HQ;refine Ho.o.mono ?_;clear Ho;rintro e W4 ⟨rfl,⟨g,C,r,Hn⟩,Hh⟩;have Ha:(bl ⟨cN fR,fR.ds,[]⟩ jt).1=0:=P4;have Hl:=qI (Uy Ha);have Hr:Hu ((bl ⟨cN fR,fR.ds,[]⟩ jt).2.length=1):=Ds Ha;have Hf:Hu (iN (bl ⟨cN fR,fR.ds,[]⟩ jt).2 jt.nm=[]):=BM Ha;have HX:C<=36:=by
  have h1:=tL (aE []) (aE (bl ⟨cN fR,fR.ds,[]⟩ jt).2);have O:=tK Hn.inv.held;dsimp only at r O;omega
 rw [Ha];generalize (bl ⟨cN fR,fR.ds,[]⟩ jt).2=R at *;have Hw:=qI Hn;have Hx:=qI (pI Hi.o Hi.o.size Hh y.o);have Hk:Hu (∀ W,Apart (three b c f) Z W->cD W):=λW o=>T2 (k.o.below Hi.o) o U.o
 have F:=qI Hh;have Hy:Hu (¬ three b c f a.heap.size):=λe=>by rcases e with e|e|e <;> omega
 have hZ:a.heap.size<Z.heap.size:=(gS Ht.o).1;have E:=qI ((Hh.block a.heap.size hZ Hy.o).trans Ht.o);have n:W4.cell? ⟨a.heap.size,2,none⟩=some (.pointer (some ⟨b,0,none⟩)):=aa E.o 2;rw [show aL (((0:Nat)):Int)=.nilIface from rfl];clear Ha r Hn Hh
 go_wp2_with fail
 refine (ul Hw.o).mono ?_;rintro e s ⟨a5,c5,rfl,_,Hc⟩;dsimp only;rw [Hr.o];have B:=qI (Hx.o.trans (Hc.mono Hx.o.size));have I:=qI (F.o.trans (Apart.of_below Hc));have L:=qI (Hw.o.keep Hc);have H1:=Hc.size;have R:=F.o.size;have q:=qI ((Hc.block a.heap.size (by omega)).trans E.o);have m:s.cell? ⟨a.heap.size,2,none⟩=some (.pointer (some ⟨b,0,none⟩)):=aa q.o 2;clear Hc n;have He:=qI (T9 i6 b c d f _ g C jt.nm s L.o (by omega) λW o=>Hk.o W (I.o.trans o));dsimp only at He;rw [Hl.o,Hf.o] at He;unfold jt at He;dsimp only at He
 go_wp2_with fail
 refine He.o.mono ?_;rintro e W6 ⟨rfl,⟨H4,n6,HS,x⟩,Hm⟩;rw [show aL (((if True then 0 else 6:Nat)):Int)=.nilIface from rfl];have S:=qI x;have Hv:=qI (pI B.o B.o.size Hm y.o);have H:=qI ((Hm.block a.heap.size (by omega) Hy.o).trans q.o);have z:W6.cell? ⟨a.heap.size,2,none⟩=some (.pointer (some ⟨b,0,none⟩)):=aa H.o 2;clear HS x Hm m He
 go_wp2_with fail
 refine (ul S.o).mono ?_;rintro e W7 ⟨a7,c7,rfl,_,A⟩;dsimp only;have HW:=qI (Hv.o.trans (A.mono Hv.o.size));clear A
 go_wp2
 go_ret;exact ⟨rfl,HW.o⟩
theorem UC (t:bU) (p:az):((bl t p).1≠0/\(bl t p).2=t.hs)\/((bl t p).1=0/\∃ gs,(bl t p).2=ct t.hs ⟨p,gs⟩):=by
 unfold bl
 split
 ·rename_i h;exact .inl ⟨h,rfl⟩
 split
 ·exact .inl ⟨by simp,rfl⟩
 split
 ·exact .inl ⟨by simp,rfl⟩
 split
 ·exact .inl ⟨by simp,rfl⟩
 split
 ·rename_i h;exact .inl ⟨h,rfl⟩
 split
 ·exact .inl ⟨by simp,rfl⟩
 ·exact .inr ⟨rfl,_,rfl⟩
open Classical in
theorem UD (hs:List ad) (i:Nat) (x:ad):dN (aE hs) (aE (hs.take i++x :: hs.drop i))<=x.gs.length:=by
 have e:aE (hs.take i++x :: hs.drop i)=aE (hs.take i)++((List.range x.gs.length).map (kH x)++aE (hs.drop i)):=by
  unfold aE;rw [List.flatMap_append,List.flatMap_cons]
 have a:=uh (x9 (List.take_sublist i hs));have b:=uh (x9 (List.drop_sublist i hs));unfold dN at a b ⊢;rw [e,List.filter_append,List.filter_append,Q2,Q2,a,b]
 have:=List.length_filter_le (λr=>decide (r ∉ aE hs)) ((List.range x.gs.length).map (kH x))
 rw [Q9,List.length_range] at this;omega
theorem UE (h:ip t) (p:az):dN (aE t.hs) (aE (bl t p).2)<=3:=by
 rcases UC t p with a|⟨_,gs,a⟩
 ·rw [a.2,uh λ_ h=>h];omega
 ·have hi:=(Mp h p).held;have hi:bt (bl t p).2=0:=hi;rw [a] at hi ⊢;have b:(⟨p,gs⟩:ad)∈ct t.hs ⟨p,gs⟩:=by unfold ct;simp
  obtain ⟨_,a2,_⟩:=cL.1 hi;obtain ⟨b1,b2,_⟩:=a2 _ b;have c:=(jk b1).2.2.1
  have:=UD t.hs (dp t.hs p.nm) ⟨p,gs⟩
  unfold ct;dsimp only at this b2 c ⊢;omega
section
variable {N:Nat->Prop} {Ba Bd Be Bm:Nat} {t:bU} {dk:Dk} {n:Nat} {w:World}
theorem UF {p:az} {cv:Value} (c:be w N Ba Bd Be Bm t dk n) (f:aZ (av (four N Ba Bd Bm) w) cv p.cs) (d:cD w) (i:n+36<=1000):Calls prog 19 #[.pointer (some ⟨Ba,0,none⟩),du p cv] w λe w'=>e=.returned (aL ((bl t p).1:Nat))/\(∃ a b,(b<=n+3/\jz w w' Ba)/\be w' N Ba Bd Be Bm ⟨t.m,t.ds,(bl t p).2⟩ a b)/\Apart (three Ba Bd Bm) w w':=by
 have He:=(cL.1 c.inv.held).1;refine (Ff N Ba Bd Be Bm t dk n p cv w c f d i λl h=>?_).mono ?_
 ·have Ha:l.length=t.hs.length:=by rw [<- h,Q9]
  exact T1 (by rw [Ha];unfold dp;exact List.countP_le_length) (by omega)
 ·rintro e w' ⟨rfl,⟨a,b,⟨Hf,Hb⟩,Hc⟩,g⟩;exact ⟨rfl,⟨a,b,⟨by have:=UE c.inv p;omega,Hb⟩,Hc⟩,g⟩
theorem UG (h:be w N Ba Bd Be Bm t dk n):Calls prog 12 #[.pointer (some ⟨Ba,0,none⟩)] w λe w'=>∃ a c,e=.returned (.slice a t.hs.length c)/\aX (av (three Ba Bd Bm) w') (.slice a t.hs.length c) t.hs/\Below w.heap.size w w':=by
 obtain ⟨k,i,m⟩:=h.eng.lt;have l:Ba<w.heap.size:=by
  obtain ⟨_,_,_,_,_,_,_,_,_,_,_,_,_,_,_,_,_,f,_⟩:=h;exact f.lt
 refine (ul h).mono ?_;rintro e w' ⟨a,c,rfl,g,b⟩;refine ⟨a,c,rfl,g.le (bP (λj _ d=>⟨λe=>d ?_,rfl⟩) (lR)),b⟩
 rcases e with e|e|e
 all_goals show j<w.heap.size;omega
theorem UH (h:be w N Ba Bd Be Bm t dk n):Calls prog 21 #[.pointer (some ⟨Ba,0,none⟩)] w λe w'=>(∃ s,aW t.m t.ds t.hs=some s/\e=.returned (.int .u64 (s.cp:Nat)))/\w'=w:=by
 obtain ⟨k,Ha,Hb,d,He,Hg,Hf,Hc,x,b,v,r,o,db,q,u,s,a,l,i,c,m,j,f⟩:=h;have p:w.cell? ⟨Ba,8,none⟩=some (.int .u64 s.cp):=aa a 8;have g:=qI c;clear k Ha Hb d He Hg Hf Hc a l i c m j f
 go_enter func21,ntmps21
 go_wp2
 go_ret;exact ⟨⟨s,g.o,rfl⟩,rfl⟩
end
theorem UI (h:ip t):∀ x∈t.hs,x.gs.length<=3:=λx a=>by
 obtain ⟨_,a2,_⟩:=cL.1 h.held;obtain ⟨b1,b2,_⟩:=a2 x a
 have:=(jk b1).2.2.1
 omega
theorem UJ (h:ip t):∀ x∈t.hs,∀ g∈x.gs,g.dv.length<=16:=λx b g a=>by
 obtain ⟨_,a2,_⟩:=cL.1 h.held;obtain ⟨_,_,d⟩:=a2 x b;obtain ⟨k,c,rfl⟩:=sI a;exact (AK (eR d k c)).1
section
variable {N:Nat->Prop} {Ba Bd Be Bm:Nat} {t:bU} {dk:Dk} {n:Nat} {w:World}
end
section
variable {N:Nat->Prop} {Ba Bd Be Bm:Nat} {t:bU} {dk:Dk} {n:Nat} {w:World}
theorem be.lts (h:be w N Ba Bd Be Bm t dk n):(Ba<w.heap.size/\Bd<w.heap.size/\Bm<w.heap.size)/\Be<w.heap.size:=by
 obtain ⟨c,b,d⟩:=h.eng.lt;obtain ⟨_,_,_,_,_,_,_,_,_,_,_,_,_,_,_,_,_,a,_⟩:=h;exact ⟨⟨a.lt,b,d⟩,c⟩
end
section
variable {N:Nat->Prop} {Ba Bd Be Bm:Nat} {t:bU} {dk:Dk} {n:Nat} {w:World}
end
def VS (w:World) (Ba j:Nat):Prop:=∃ pb n c,w.cell? ⟨Ba,9,none⟩=some (.pointer (some ⟨pb,0,none⟩))/\0<n/\w.cell? ⟨pb,0,none⟩=some (.slice (some ⟨j,0,none⟩) n c)
section
variable {N:Nat->Prop} {Ba Bd Be Bm:Nat} {t:bU} {dk:Dk} {n:Nat} {w:World}
end
section
variable {N:Nat->Prop} {Ba Bd Be Bm:Nat} {t:bU} {dk:Dk} {n:Nat} {w:World}
end
section
variable {Ba Bd Be Bm:Nat} {t:bU} {dk:Dk} {n:Nat} {w:World}
theorem UK {c:dM} (h:cM c=0):0<=(cN c).nb:=by
 unfold cM at h
 repeat' (split at h;· first|cases h|(rename_i a;exact absurd h a))
 all_goals (show 0<=c.nb;omega)
theorem UL {W:World} (b:cD w) (c:w.heap.size<=Ba/\w.heap.size<=Bd/\w.heap.size<=Bm) (a:Below w.heap.size w W):cD W/\aM w (av (four i6 Ba Bd Bm) W)/\∀ W',Apart (three Ba Bd Bm) W W'->cD W':=by grind [b.below,qw,pI,a.size]
end
def iy (ns:List ai) (k:Nat):Int:=((ns.take k).map ai.many).sum
theorem UM {k:Nat} (h:k<ns.length):iy ns (k+1)=iy ns k+(ak ns k).many:=by grind [iy,ak,Qa,Qj]
section
variable {N:Nat->Prop} {Ba Bd Be Bm:Nat} {t:bU} {dk:Dk} {n:Nat} {w:World}
theorem UN (h:be w N Ba Bd Be Bm t dk n):Calls prog 40 #[.pointer (some ⟨Ba,0,none⟩)] w λe w'=>∃ a g c,e=.returned (.slice a t.ds.length c)/\dW w' (.slice a t.ds.length c) g 0 t.ds/\(0<t.ds.length->w.heap.size<=g)/\Below w.heap.size w w':=by
 obtain ⟨B,Ha,Hb,F,He,Hg,Hf,Hc,x,b,E,i,o,db,d,p,s,z,D,G,r,u,H,C⟩:=h;have A:aJ w o db d p t.ds s.us:=by rw [<- lr r];exact u.pool
 refine (EA Ba x t.m Bd Be i s.cp o db d p t.ds s.us w z A (kg B.devs)).mono ?_;rintro e w' ⟨v,rfl,q,y⟩;obtain ⟨d,c,g,i,l,j⟩:=q;subst i;refine ⟨d,g,c,rfl,⟨d,c,rfl,λf=>⟨(l f).1,(l f).2.2,λk m=>?_⟩⟩,λf=>(l f).2.1,y⟩;rw [Qd];exact ⟨(j k m).1,(j k m).2.1,(j k m).2.2.1⟩
end
theorem UO {ds:List ah} {l:List Int} (h:Dz ds ns l) (g:∀ n∈ns,n.many≠0):ns.length<=l.length:=by
 have key:∀ ns:List ai,(∀ n∈ns,1<=n.many)->(ns.length:Int)<=(ns.map ai.many).sum:=by
  intro ns
  induction ns with
  | nil=>intro _;exact Int.le_refl _
  | cons n r ih=>
   intro h;have e:=ih λx f=>h x (Qv _ f)
   have d:=h n List.mem_cons_self;rw [Qq,List.sum_cons,Qg];omega
 have e:=key ns λn c=>by
  have a:=h.1 n c;have b:=g n c;omega
 have d:=h.2;omega
theorem UP (c2 p o t c10 c11 d c b h:Value) (F:Nat->Value) (W:World) (l cb r cc k n:Nat) (m:Option Addr) (nc:Nat) (ns:List ai) (C:W.cell? ⟨l,2,none⟩=some (.slice (some ⟨cb,r,none⟩) n cc)) (B:k<n) (_hn:n<=1000) (af:W.cell? ⟨cb,r+k*6+5,none⟩=some (.slice m ns.length nc)) (g:bO W (.slice m ns.length nc) ns) (hs:∀ j,j<=ns.length->0<=iy ns j/\iy ns j<=1000) (y:ns.length<=1000) :
  Code.wp prog (Code.loop (jA 2)) (ov 4 (FrS (λF=>frS c2 p o t c10 c11 d c (.pointer (some ⟨l,0,none⟩)) (.int .i64 (k:Nat)) b (.int .i64 (iy ns ns.length)) (F 19) (F 20) F) λW'=>W'=W)) (frS c2 p o t c10 c11 d c (.pointer (some ⟨l,0,none⟩)) (.int .i64 (k:Nat)) b (.int .i64 0) (.int .i64 0) h F) W:=by
 obtain ⟨f,v,Hc,_,He⟩:=g;have Hh:f=m:=by injection Hc with e;exact e.symm
 subst Hh;have Hg:=qI He;have HS:=qI hs;clear He hs Hc;simp only [frS,tlS,Nat.reduceAdd]
 conv=>enter [2,1];unfold jA;whnf
 go_loopw [18,19] (λs i wq=>∃ q:Nat,q<=ns.length/\s=.int .i64 (iy ns q)/\i=.int .i64 q/\wq=W) (λ_ i _=>ns.length - (intOf i).toNat)
 case atStart=>exact ⟨0,Nat.zero_le _,rfl,rfl,rfl⟩
 case round=>
  obtain ⟨q,w,rfl,rfl,rfl⟩:=hrel
  by_cases a:q<ns.length
  ·obtain ⟨nb,no,Hi,Hj,Hb⟩:=Hg.o (by omega);subst Hi;obtain ⟨_,z⟩:=Hb q a;have Ha:=qI (UM a);have D:=HS.o q w;have u:=HS.o (q+1) a;rw [Ha.o] at u;clear Hb;generalize ak ns q=x at *;generalize iy ns q=A at *
   go_wp2
   go_roundw
   case rel=>exact ⟨q+1,by omega,by rw [Ha.o],by go_num,by first|rfl|trivial⟩
   case measure=>simp [intOf];omega
  ·have Hf:q=ns.length:=by omega
   subst Hf
   go_wp2
   exact ⟨rfl,FrS.mk (by kernel_rfl) (by first|rfl|trivial)⟩
