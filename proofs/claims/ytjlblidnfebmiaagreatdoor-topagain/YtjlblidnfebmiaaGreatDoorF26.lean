import Derived.Test.YtjlblidnfebmiaaGreatDoorF20
set_option maxRecDepth 100000
set_option maxHeartbeats 16000000
open Go Go.RowKit Go.Shelf
open Go.Proofs.Tryz
namespace Go.Proofs.YtjlblidnfebmiaaGreatDoor
variable{hs:List af}{s:Dk}{t:ByteArray}
theorem pN{a b:World}{r:Option Nat}(h:Below a a b):a.grownBy b r:=⟨h.os,h.tape,h.output,h.size,λk c _=>h.block k c⟩
theorem Tt(B b1 b2:Nat)(s:Dk)(t:ByteArray)(w:World)(h:bz w B s)(c:s.wt=none\/s.d=true)(i:t.size<=maxLen)(c1:w.cell? b1=some (.pointer (some ⟨B,0,none⟩)))(c2:w.cell? b2=some (.string t)) :
  Calls prog 96 #[b1,b2] w λe w'=>e=.returned (aJ ((s.write t).1:Nat))/\bz w' B (s.write t).2/\w.grownBy w' (some B):=by
 have b:=qI (Rk B s t w h c i);clear h c
 go_enter func96,ntmps96
 go_wp2_with fail
 refine b.o.mono ?_;rintro e j ⟨rfl,d,a⟩;have f:=qI d;have g:=qI a;clear d a b
 go_wp2
 go_ret;exact⟨rfl,f.o,g.o⟩
theorem Dk.from_upto:∀ {k:Nat},k<=4->(∀j,j<k->s.err t j=0)->s.from t 0=s.from t k
 | 0,_,_=>rfl
 | k+1,hk,h=>(Dk.from_upto (by omega) λj a=>h j (by omega)).trans (Dk.from_yes (by omega) (h k (by omega)))
theorem ul(k:Nat):(k=0/\aJ ((k:Nat):Int)=.nilIface)\/(k≠0/\aJ ((k:Nat):Int)=.iface 108 (k:Int)):=by
 by_cases h:k=0
 ·subst h;exact .inl ⟨rfl,rfl⟩
 ·exact .inr ⟨h,eP h⟩
abbrev mY:=λ(x0 x1 x2:Nat)=>(.cells #[.func (.func 96) #[] #[.pointer (some ⟨x0,0,none⟩),.pointer (some ⟨x1,0,none⟩)],.func (.func 70) #[.pointer (some ⟨x2,0,none⟩)] #[],.func (.func 98) #[.pointer (some ⟨x2,0,none⟩)] #[],.func (.func 70) #[.pointer (some ⟨x2,0,none⟩)] #[]] 114:Obj)
theorem xY(B:Nat)(s:Dk)(v:Value)(hs:List af)(w:World)(h:bz w B s)(J:s.wt=none\/s.d=true)(H:aY w v hs)(L:bJ w):Calls prog 56 #[B,v] w λe w'=>e=.returned (aJ ((s.save hs).1:Nat))/\bz w' B (s.save hs).2/\w.grownBy w' (some B):=by
 have Hg:=qI ((Q0 w w).alloc (lR) (.cells #[B] 32));have Hm:=qI (tR v hs _ (H.below Hg.o) (L.below Hg.o));have I:=qI h;have Hx:=qI h.lt;have cb:(w.alloc (.cells #[B] 32)).cell? w=some (.pointer (some ⟨B,0,none⟩)):=by simp
 have Hq:(w.alloc (.cells #[B] 32)).heap.size=w.heap.size+1:=by simp
 have He:=H.cps;obtain⟨U,vc,rfl,Q,_⟩:=H;clear h L
 by_cases hf:bw hs=0
 ·have Hr:Hu (ja hs=.tuple #[.string ⟨(bn hs).toArray⟩,.nilIface]):=by unfold Hu ja;rw[if_pos hf]
  have Hb:Hu (s.save hs=s.from ⟨(bn hs).toArray⟩ 0):=by unfold Hu Dk.save;rw[if_pos hf]
  have Hz:Hu ((ByteArray.mk (bn hs).toArray).size<=maxLen):=by
   have W:=LE (tw hf He);have R:=qL (dj hs);unfold Hu maxLen;simp only[ByteArray.size,bn,List.size_toArray,Q2];omega
  rw[Hr.o] at Hm;clear Hr hf He;generalize ByteArray.mk (bn hs).toArray=t at *
  go_enter func56,ntmps56
  go_wp2_with fail
  generalize w.alloc (.cells #[B] 32)=A at *;refine Hm.o.mono ?_;rintro e b ⟨rfl,Hi⟩;have Ho:=qI (Hg.o.trans (Hi.mono Hg.o.size));have F:=(Hi.cell (p:=w.heap.size) (by show w<A.heap.size;omega)).trans cb;have Ht:w<b.heap.size:=Q1 (by omega) Hi.size;clear Hi cb Hm Hq Hg;have Hl:=qI (Ho.o.alloc Ho.o.size (.cells #[t] 9));have y:(b.alloc (.cells #[t] 9)).cell? w=some (.pointer (some ⟨B,0,none⟩)):=(((Q0 b b).alloc (lR) _).cell (p:=w.heap.size) Ht).trans F;have z:(b.alloc (.cells #[t] 9)).cell? b=some (.string t):=by simp
  have Hs:(b.alloc (.cells #[t] 9)).heap.size=b.heap.size+1:=by simp
  clear F
  go_wp2_with fail
  have Hn:=qI (Hl.o.alloc Hl.o.size (mY w b B));have Hk:=(Q0 _ (b.alloc (.cells #[t] 9))).alloc (lR) (mY w b B);have C:=(Hk.cell (p:=w.heap.size) (by show w.heap.size<(b.alloc (.cells #[t] 9)).heap.size;omega)).trans y;have E:=(Hk.cell (p:=b.heap.size) (by show b.heap.size<(b.alloc (.cells #[t] 9)).heap.size;omega)).trans z;have f0:((b.alloc (.cells #[t] 9)).alloc (mY w b B)).cell? (b.heap.size+1:Nat)=some (.func (.func 96) #[] #[.pointer (some ⟨w,0,none⟩),.pointer (some ⟨b,0,none⟩)]):=by simp
  have f1:((b.alloc (.cells #[t] 9)).alloc (mY w b B)).cell? ⟨b.heap.size+1,1,none⟩=some (.func (.func 70) #[.pointer (some ⟨B,0,none⟩)] #[]):=by simp
  have f2:((b.alloc (.cells #[t] 9)).alloc (mY w b B)).cell? ⟨b.heap.size+1,2,none⟩=some (.func (.func 98) #[.pointer (some ⟨B,0,none⟩)] #[]):=by simp
  have f3:((b.alloc (.cells #[t] 9)).alloc (mY w b B)).cell? ⟨b.heap.size+1,3,none⟩=some (.func (.func 70) #[.pointer (some ⟨B,0,none⟩)] #[]):=by simp
  have P:((b.alloc (.cells #[t] 9)).alloc (mY w b B)).heap.size=b.heap.size+1+1:=by simp
  have Hy:=qI (I.o.below Hn.o);clear Hk y z Hl Hs Ho;generalize ((b.alloc (.cells #[t] 9)).alloc (mY w b B))=K at *;have X:=Hx.o;have D:Hu (∀wr:World,K.grownBy wr (some B)->wr.cell? w=some (.pointer (some ⟨B,0,none⟩))/\wr.cell? b=some (.string t)/\wr.cell? (b.heap.size+1:Nat)=some (.func (.func 96) #[] #[.pointer (some ⟨w,0,none⟩),.pointer (some ⟨b,0,none⟩)])/\wr.cell? ⟨b.heap.size+1,1,none⟩=some (.func (.func 70) #[.pointer (some ⟨B,0,none⟩)] #[])/\wr.cell? ⟨b.heap.size+1,2,none⟩=some (.func (.func 98) #[.pointer (some ⟨B,0,none⟩)] #[])/\wr.cell? ⟨b.heap.size+1,3,none⟩=some (.func (.func 70) #[.pointer (some ⟨B,0,none⟩)] #[])):=λwr x=>
   have N:=λj=>World.cell?_of_block (a:=⟨w,j,none⟩) (x.block w (by omega) (λe=>by injection e;omega))
   have O:=λj=>World.cell?_of_block (a:=⟨b,j,none⟩) (x.block b (by omega) (λe=>by injection e;omega))
   have G:=λj=>World.cell?_of_block (a:=⟨b.heap.size+1,j,none⟩) (x.block (b.heap.size+1) (by omega) (λe=>by injection e;omega))
   ⟨(N 0).trans C,(O 0).trans E,(G 0).trans f0,(G 1).trans f1,(G 2).trans f2,(G 3).trans f3⟩
  clear C E f0 f1 f2 f3;have M:=qI J;clear J
  go_loopw [29] (λi wr=>∃k:Nat,k<=4/\i=.int .i64 k/\(∀j,j<k->s.err t j=0)/\bz wr B (s.run t k)/\K.grownBy wr (some B)) (λi _=>4 - (intOf i).toNat)
  case atStart=>exact⟨0,by omega,rfl,λj r=>by omega,Hy.o,⟨rfl,rfl,rfl,lR,λ_ _ _=>rfl⟩⟩
  case round=>
   obtain⟨k,S,rfl,Hh,Hv,x⟩:=hrel;have Hc:=qI Hh;have Hp:=qI Hv;have Hf:=qI x;obtain⟨q,o,T,g1,V,g3⟩:=D.o wr x;clear Hh Hv x;have Hj:k=0\/k=1\/k=2\/k=3\/k=4:=by omega
   rcases Hj with rfl|rfl|rfl|rfl|rfl
   ·have c:Hu (Calls prog 96 #[w.heap.size,b.heap.size] wr λe w'=>e=.returned (aJ ((s.err t 0:Nat):Int))/\bz w' B (s.run t (0+1))/\wr.grownBy w' (some B)):=Tt B w b (s.run t 0) t wr Hp.o M.o Hz.o q o;clear D q o
    rcases ul (s.err t 0) with⟨m,f⟩|⟨m,f⟩
    ·rw[f] at c;clear f
     go_wp2_with fail
     refine c.o.mono ?_;rintro e u ⟨rfl,d,g⟩;have l:=qI d;have n:=qI (fG Hf.o g);clear d g c
     go_wp2
     go_roundw
     case rel=>exact⟨0+1,by omega,by go_num,λj r=>by rcases Nat.lt_succ_iff_lt_or_eq.1 r with h|h;exact Hc.o j h;rw[h];exact m,l.o,n.o⟩
     case measure=>simp[intOf]
    ·rw[f] at c
     go_wp2_with fail
     refine c.o.mono ?_;rintro e u ⟨rfl,d,g⟩;have l:=qI d;have n:=qI (fG Hf.o g);clear d g c
     go_wp2
     go_ret;have Ha:=(Dk.from_upto (by omega) Hc.o).trans (Dk.from_no (by omega) m);exact⟨by rw[Hb.o,Ha,f];rfl,by rw[Hb.o,Ha];exact l.o,fG (pN Hn.o) n.o⟩
   ·have c:Hu (Calls prog 70 #[B] wr λe w'=>e=.returned (aJ ((s.err t 1:Nat):Int))/\bz w' B (s.run t (1+1))/\wr.grownBy w' (some B)):=DC B (s.run t 1) wr Hp.o;clear D q o
    rcases ul (s.err t 1) with⟨m,f⟩|⟨m,f⟩
    ·rw[f] at c;clear f
     go_wp2_with fail
     refine c.o.mono ?_;rintro e u ⟨rfl,d,g⟩;have l:=qI d;have n:=qI (fG Hf.o g);clear d g c
     go_wp2
     go_roundw
     case rel=>exact⟨1+1,by omega,by go_num,λj r=>by rcases Nat.lt_succ_iff_lt_or_eq.1 r with h|h;exact Hc.o j h;rw[h];exact m,l.o,n.o⟩
     case measure=>simp[intOf]
    ·rw[f] at c
     go_wp2_with fail
     refine c.o.mono ?_;rintro e u ⟨rfl,d,g⟩;have l:=qI d;have n:=qI (fG Hf.o g);clear d g c
     go_wp2
     go_ret;have Ha:=(Dk.from_upto (by omega) Hc.o).trans (Dk.from_no (by omega) m);exact⟨by rw[Hb.o,Ha,f];rfl,by rw[Hb.o,Ha];exact l.o,fG (pN Hn.o) n.o⟩
   ·have c:Hu (Calls prog 98 #[B] wr λe w'=>e=.returned (aJ ((s.err t 2:Nat):Int))/\bz w' B (s.run t (2+1))/\wr.grownBy w' (some B)):=Rj B (s.run t 2) wr Hp.o (by rw[tW (Hc.o 0 (by omega)) (Hc.o 1 (by omega))];rfl) (by rw[tW (Hc.o 0 (by omega)) (Hc.o 1 (by omega))]);clear D q o
    rcases ul (s.err t 2) with⟨m,f⟩|⟨m,f⟩
    ·rw[f] at c;clear f
     go_wp2_with fail
     refine c.o.mono ?_;rintro e u ⟨rfl,d,g⟩;have l:=qI d;have n:=qI (fG Hf.o g);clear d g c
     go_wp2
     go_roundw
     case rel=>exact⟨2+1,by omega,by go_num,λj r=>by rcases Nat.lt_succ_iff_lt_or_eq.1 r with h|h;exact Hc.o j h;rw[h];exact m,l.o,n.o⟩
     case measure=>simp[intOf]
    ·rw[f] at c
     go_wp2_with fail
     refine c.o.mono ?_;rintro e u ⟨rfl,d,g⟩;have l:=qI d;have n:=qI (fG Hf.o g);clear d g c
     go_wp2
     go_ret;have Ha:=(Dk.from_upto (by omega) Hc.o).trans (Dk.from_no (by omega) m);exact⟨by rw[Hb.o,Ha,f];rfl,by rw[Hb.o,Ha];exact l.o,fG (pN Hn.o) n.o⟩
   ·have c:Hu (Calls prog 70 #[B] wr λe w'=>e=.returned (aJ ((s.err t 3:Nat):Int))/\bz w' B (s.run t (3+1))/\wr.grownBy w' (some B)):=DC B (s.run t 3) wr Hp.o;clear D q o
    rcases ul (s.err t 3) with⟨m,f⟩|⟨m,f⟩
    ·rw[f] at c;clear f
     go_wp2_with fail
     refine c.o.mono ?_;rintro e u ⟨rfl,d,g⟩;have l:=qI d;have n:=qI (fG Hf.o g);clear d g c
     go_wp2
     go_roundw
     case rel=>exact⟨3+1,by omega,by go_num,λj r=>by rcases Nat.lt_succ_iff_lt_or_eq.1 r with h|h;exact Hc.o j h;rw[h];exact m,l.o,n.o⟩
     case measure=>simp[intOf]
    ·rw[f] at c
     go_wp2_with fail
     refine c.o.mono ?_;rintro e u ⟨rfl,d,g⟩;have l:=qI d;have n:=qI (fG Hf.o g);clear d g c
     go_wp2
     go_ret;have Ha:=(Dk.from_upto (by omega) Hc.o).trans (Dk.from_no (by omega) m);exact⟨by rw[Hb.o,Ha,f];rfl,by rw[Hb.o,Ha];exact l.o,fG (pN Hn.o) n.o⟩
   ·go_wp2
    go_ret;have Ha:=(Dk.from_upto (by omega) Hc.o).trans Dk.from_end;exact⟨by rw[Hb.o,Ha];rfl,by rw[Hb.o,Ha];exact Hp.o,fG (pN Hn.o) Hf.o⟩
 ·have Hr:Hu (ja hs=.tuple #[.string ⟨#[]⟩,aJ (bw hs:Nat)]):=by unfold Hu ja;rw[if_neg hf]
  have Hw:=qI (eP hf);have Hb:Hu (s.save hs=(bw hs,s)):=by unfold Hu Dk.save;rw[if_neg hf]
  rw[Hr.o,Hw.o] at Hm;clear Hr hf He
  go_enter func56,ntmps56
  go_wp2_with fail
  generalize w.alloc (.cells #[B] 32)=A at *;refine Hm.o.mono ?_;rintro e b ⟨rfl,Hi⟩;have Ho:=qI (Hg.o.trans (Hi.mono Hg.o.size));have Hl:=qI (Ho.o.alloc Ho.o.size (.cells #[.string ⟨#[]⟩] 9));clear Hi cb Hm Hq Hg
  go_wp2
  go_ret;exact⟨by rw[Hb.o,Hw.o];rfl,by rw[Hb.o];exact I.o.below Hl.o,pN Hl.o⟩
structure Holds (s:Dk) (hs:List af):Prop where
 up:s.d=false
 ft:s.n.ft=true
 fb:s.n.fb=⟨(bn hs).toArray⟩
 hf:bw hs=0
 len:(bn hs).length<=6000
 ok:lA hs
theorem Holds.load(h:Holds s hs):s.load=(0,hs):=by
 unfold Dk.load;rw[if_neg (by rw[h.up];decide),if_pos h.ft,h.fb]
 show fH (bn hs).toArray.toList=_
 rw[List.toList_toArray];exact Re h.ok h.hf h.len
theorem Holds.size(h:Holds s hs):s.n.fb.data.toList.length<=1000000:=by
 rw[h.fb]
 show (bn hs).toArray.toList.length<=_
 rw[List.toList_toArray];exact Q5 h.len (by decide)
theorem Tu{k:Nat}(h:(Dk.act t k s).1≠0):(k=0/\(Dk.act t k s).1=2/\(Dk.act t k s).2=s)\/((Dk.act t k s).1=11/\(Dk.act t k s).2=s.fall):=by grind[Dk.act,Dk.write,Dk.apply,Dk.sync]
theorem xZ(s:Dk)(t:ByteArray):(s.err t 0=0/\s.err t 1=0/\s.err t 2=0/\s.err t 3=0/\s.from t 0=(0,s.run t 4))\/∃k,k<4/\(∀j,j<k->s.err t j=0)/\s.err t k≠0/\s.from t 0=(s.err t k,s.run t (k+1)):=by
 by_cases a:s.err t 0=0
 ·by_cases b:s.err t 1=0
  ·by_cases c:s.err t 2=0
   ·by_cases d:s.err t 3=0
    ·exact .inl ⟨a,b,c,d,by rw[Dk.from_yes (by decide) a,Dk.from_yes (by decide) b,Dk.from_yes (by decide) c,Dk.from_yes (by decide) d,Dk.from_end]⟩
    ·exact .inr ⟨3,by decide,λj e=>by have:j=0\/j=1\/j=2:=(by omega);rcases this with rfl|rfl|rfl <;> assumption,d,by rw[Dk.from_yes (by decide) a,Dk.from_yes (by decide) b,Dk.from_yes (by decide) c,Dk.from_no (by decide) d]⟩
   ·exact .inr ⟨2,by decide,λj e=>by have:j=0\/j=1:=(by omega);rcases this with rfl|rfl <;> assumption,c,by rw[Dk.from_yes (by decide) a,Dk.from_yes (by decide) b,Dk.from_no (by decide) c]⟩
  ·exact .inr ⟨1,by decide,λj e=>by have:j=0:=(by omega);rw[this];exact a,b,by rw[Dk.from_yes (by decide) a,Dk.from_no (by decide) b]⟩
 ·exact .inr ⟨0,by decide,λj e=>by omega,a,Dk.from_no (by decide) a⟩
theorem Tv(h:s.err t 0=0):t.size<=6000:=by
 have a:(s.write t).1=0:=h;unfold Dk.write at a
 by_cases b:6000<t.size
 ·rw[if_pos b] at a;cases a
 ·omega
theorem Tw(f:∀h∈hs,∀g∈h.gs,g.cp<18446744073709551616)(h:(s.save hs).1=0):Holds (s.save hs).2 hs/\(s.save hs).2.k=(s.save hs).2.n/\(s.save hs).2.wt=none:=by
 unfold Dk.save at h ⊢
 by_cases hf:bw hs=0
 ·rw[if_pos hf] at h ⊢
  rcases xZ s ⟨(bn hs).toArray⟩ with⟨a,b,c,i,e⟩|⟨k,_,_,a,e⟩
  ·have d:=Tv a;rw[e,DF a b c i];exact⟨⟨rfl,rfl,rfl,hf,by simpa[ByteArray.size] using d,tw hf f⟩,rfl,rfl⟩
  ·rw[e] at h;exact absurd h a
 ·rw[if_neg hf] at h;exact absurd h hf
theorem Tx(a:s.l<0)(ag:s.d=false)(hf:bw hs=0)(j:(bn hs).length<=6000):(s.save hs).1=0:=by
 have e:∀l:Int,l<0->cu l false=0:=λl h=>by unfold cu;rw[if_neg (by simp;omega)]
 have b:∀l:Int,l<0->bx l false=l:=λl h=>by unfold bx;rw[if_neg (by simp;omega),if_neg (by omega)]
 obtain⟨n,k,wt,l,d⟩:=s;dsimp only at a ag;subst ag;unfold Dk.save;rw[if_pos hf];have Ha:¬ 6000<(ByteArray.mk (bn hs).toArray).size:=by simp[ByteArray.size];omega
 generalize ByteArray.mk (bn hs).toArray=t at *;have c:Dk.err ⟨n,k,wt,l,false⟩ t 0=0:=by
  show (Dk.write _ t).1=0
  unfold Dk.write;rw[if_neg Ha];unfold Dk.apply;rw[if_pos (show cu (Dk.run ⟨n,k,wt,l,false⟩ t 0).l (Dk.run ⟨n,k,wt,l,false⟩ t 0).d=0 from e l a)]
 have f:Dk.err ⟨n,k,wt,l,false⟩ t 1=0:=by
  show (Dk.sync _).1=0
  rw[DD c];unfold Dk.sync;rw[if_pos (by show cu (bx l false) false=0;rw[b l a];exact e l a)]
 have g:Dk.err ⟨n,k,wt,l,false⟩ t 2=0:=by
  show (Dk.apply _ _).1=0
  rw[tW c f];unfold Dk.apply;rw[if_pos (by show cu (bx (bx l false) false) false=0;rw[b l a,b l a];exact e l a)]
 have i:Dk.err ⟨n,k,wt,l,false⟩ t 3=0:=by
  show (Dk.sync _).1=0
  rw[DE c f g];unfold Dk.sync;rw[if_pos (by show cu (bx (bx (bx l false) false) false) false=0;rw[b l a,b l a,b l a];exact e l a)]
 rw[Dk.from_yes (by decide) c,Dk.from_yes (by decide) f,Dk.from_yes (by decide) g,Dk.from_yes (by decide) i,Dk.from_end]
theorem Ty(h:(s.save hs).1≠0)(a:(s.save hs).1≠11):(s.save hs).2=s:=by
 unfold Dk.save at h a ⊢
 by_cases hf:bw hs=0
 ·rw[if_pos hf] at h a ⊢
  rcases xZ s ⟨(bn hs).toArray⟩ with⟨_,_,_,_,e⟩|⟨k,_,_,b,e⟩
  ·rw[e] at h;exact absurd rfl h
  ·rw[e] at a ⊢
   rcases Tu (k:=k) b with⟨rfl,_,d⟩|⟨c,_⟩
   ·exact d
   ·exact absurd c a
 ·rw[if_neg hf]
def Calm (s:Dk):Prop:=s.d=false/\s.l=-1/\s.wt=none
theorem Ex:Calm Dk.fresh:=⟨rfl,rfl,rfl⟩
theorem rI(h:Calm s)(hf:bw hs=0):((bn hs).length<=6000->(s.save hs).1=0)/\(6000<(bn hs).length->(s.save hs).1=2)/\Calm (s.save hs).2:=by
 by_cases c:6000<(bn hs).length
 ·have b:s.write ⟨(bn hs).toArray⟩=(2,s):=if_pos (by simpa[ByteArray.size] using c);have a:s.err ⟨(bn hs).toArray⟩ 0=2:=by
   show (s.write _).1=2
   rw[b]
  unfold Dk.save;rw[if_pos hf,Dk.from_no (by decide) (by rw[a];decide)];refine⟨λh=>absurd h (by omega),λ_=>a,?_⟩
  show Calm (s.write _).2
  rw[b];exact h
 ·have a:=Tx (s:=s) (by rw[h.2.1];decide) h.1 hf (by omega);refine⟨λ_=>a,λh=>absurd h c,?_⟩;unfold Dk.save at a ⊢;rw[if_pos hf] at a ⊢
  rcases xZ s ⟨(bn hs).toArray⟩ with⟨d,j,g,i,e⟩|⟨k,_,_,f,e⟩
  ·rw[e,DF d j g i];refine⟨rfl,?_,rfl⟩
   show bx (bx (bx (bx s.l s.d) false) false) false=-1
   rw[h.1,h.2.1];rfl
  ·rw[e] at a;exact absurd a f
def Kept (s:Dk) (hs:List af):Prop:=s.load=(0,hs)/\s.k=s.n/\s.n.fb.data.toList.length<=1000000
theorem Tz(h:Calm s)(hf:s.n.ft=false)(a:s.k=s.n)(b:s.n.fb.data.toList.length<=1000000):Kept s []:=by
 refine⟨?_,a,b⟩;unfold Dk.load;rw[h.1,hf];rfl
theorem ya(h:Calm s)(b:∀x∈hs,∀g∈x.gs,g.cp<18446744073709551616)(hf:bw hs=0)(c:(bn hs).length<=6000):Kept (s.save hs).2 hs:=by
 have a:=Tw b ((rI h hf).1 c);exact⟨a.1.load,a.2.1,a.1.size⟩
theorem TA(h:Calm s)(hf:bw hs=0)(a:6000<(bn hs).length):(s.save hs).2=s:=by grind[rI,Ty]
