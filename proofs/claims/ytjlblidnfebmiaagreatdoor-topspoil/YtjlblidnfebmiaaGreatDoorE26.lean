import Derived.Test.YtjlblidnfebmiaaGreatDoorE20
set_option maxRecDepth 100000
set_option maxHeartbeats 16000000
open Go Go.RowKit Go.Shelf
open Go.Proofs.Tryz
namespace Go.Proofs.YtjlblidnfebmiaaGreatDoor
variable {hs:List ad} {s:Dk} {t:ByteArray}
theorem px {a b:World} {r:Option Nat} (h:Below a a b):a.grownBy b r:=⟨h.os,h.tape,h.output,h.size,λk c _=>h.block k c⟩
theorem Sc (B b1 b2:Nat) (s:Dk) (t:ByteArray) (w:World) (h:bj w B s) (b:s.wt=none\/s.d=true) (f:t.size<=maxLen) (c1:w.cell? b1=some (.pointer (some ⟨B,0,none⟩))) (c2:w.cell? b2=some (.string t)) :
  Calls prog 96 #[b1,b2] w λe w'=>e=.returned (aL ((s.write t).1:Nat))/\bj w' B (s.write t).2/\w.grownBy w' (some B):=by
 have c:=qI (PP B s t w h b f);clear h b
 go_enter func96,ntmps96
 go_wp2_with fail
 refine c.o.mono ?_;rintro e j ⟨rfl,d,a⟩;have i:=qI d;have g:=qI a;clear d a c
 go_wp2
 go_ret;exact ⟨rfl,i.o,g.o⟩
theorem Dk.from_upto:∀ {k:Nat},k<=4->(∀ j,j<k->s.err t j=0)->s.from t 0=s.from t k
 | 0,_,_=>rfl
 | k+1,hk,h=>(Dk.from_upto (by omega) λj a=>h j (by omega)).trans (Dk.from_yes (by omega) (h k (by omega)))
theorem tJ (k:Nat):(k=0/\aL ((k:Nat):Int)=.nilIface)\/(k≠0/\aL ((k:Nat):Int)=.iface 108 (k:Int)):=by
 by_cases h:k=0
 ·subst h;exact .inl ⟨rfl,rfl⟩
 ·exact .inr ⟨h,eV h⟩
abbrev mJ:=λ(x0 x1 x2:Nat)=>(.cells #[.func (.func 96) #[] #[.pointer (some ⟨x0,0,none⟩),.pointer (some ⟨x1,0,none⟩)],.func (.func 70) #[.pointer (some ⟨x2,0,none⟩)] #[],.func (.func 98) #[.pointer (some ⟨x2,0,none⟩)] #[],.func (.func 70) #[.pointer (some ⟨x2,0,none⟩)] #[]] 114:Obj)
theorem xD (B:Nat) (s:Dk) (v:Value) (hs:List ad) (w:World) (h:bj w B s) (J:s.wt=none\/s.d=true) (H:aX w v hs) (I:cD w):Calls prog 56 #[B,v] w λe w'=>e=.returned (aL ((s.save hs).1:Nat))/\bj w' B (s.save hs).2/\w.grownBy w' (some B):=by
 have Hh:=qI ((Q0 w w).alloc (lR) (.cells #[B] 32));have Hl:=qI (tl v hs _ (H.below Hh.o) (I.below Hh.o));have K:=qI h;have M:=qI h.lt;have cb:(w.alloc (.cells #[B] 32)).cell? w=some (.pointer (some ⟨B,0,none⟩)):=by simp
 have Hp:(w.alloc (.cells #[B] 32)).heap.size=w.heap.size+1:=by simp
 have He:=H.cps;obtain ⟨V,vc,rfl,X,_⟩:=H;clear h I
 by_cases hf:bt hs=0
 ·have Hr:Hu (iQ hs=.tuple #[.string ⟨(bi hs).toArray⟩,.nilIface]):=by unfold Hu iQ;rw [if_pos hf]
  have Hb:Hu (s.save hs=s.from ⟨(bi hs).toArray⟩ 0):=by unfold Hu Dk.save;rw [if_pos hf]
  have Hy:Hu ((ByteArray.mk (bi hs).toArray).size<=maxLen):=by
   have U:=KV (sL hf He);have R:=qo (cX hs);unfold Hu maxLen;simp only [ByteArray.size,bi,List.size_toArray,Q2];omega
  rw [Hr.o] at Hl;clear Hr hf He;generalize ByteArray.mk (bi hs).toArray=t at *
  go_enter func56,ntmps56
  go_wp2_with fail
  generalize w.alloc (.cells #[B] 32)=A at *;refine Hl.o.mono ?_;rintro e b ⟨rfl,Hk⟩;have Hn:=qI (Hh.o.trans (Hk.mono Hh.o.size));have z:=(Hk.cell (p:=w.heap.size) (by show w<A.heap.size;omega)).trans cb;have Hs:w<b.heap.size:=Q1 (by omega) Hk.size;clear Hk cb Hl Hp Hh;have Hm:=qI (Hn.o.alloc Hn.o.size (.cells #[t] 9));have y:(b.alloc (.cells #[t] 9)).cell? w=some (.pointer (some ⟨B,0,none⟩)):=(((Q0 b b).alloc (lR) _).cell (p:=w.heap.size) Hs).trans z;have D:(b.alloc (.cells #[t] 9)).cell? b=some (.string t):=by simp
  have Ht:(b.alloc (.cells #[t] 9)).heap.size=b.heap.size+1:=by simp
  clear z
  go_wp2_with fail
  have Ho:=qI (Hm.o.alloc Hm.o.size (mJ w b B));have Hj:=(Q0 _ (b.alloc (.cells #[t] 9))).alloc (lR) (mJ w b B);have E:=(Hj.cell (p:=w.heap.size) (by show w.heap.size<(b.alloc (.cells #[t] 9)).heap.size;omega)).trans y;have C:=(Hj.cell (p:=b.heap.size) (by show b.heap.size<(b.alloc (.cells #[t] 9)).heap.size;omega)).trans D;have f0:((b.alloc (.cells #[t] 9)).alloc (mJ w b B)).cell? (b.heap.size+1:Nat)=some (.func (.func 96) #[] #[.pointer (some ⟨w,0,none⟩),.pointer (some ⟨b,0,none⟩)]):=by simp
  have f1:((b.alloc (.cells #[t] 9)).alloc (mJ w b B)).cell? ⟨b.heap.size+1,1,none⟩=some (.func (.func 70) #[.pointer (some ⟨B,0,none⟩)] #[]):=by simp
  have f2:((b.alloc (.cells #[t] 9)).alloc (mJ w b B)).cell? ⟨b.heap.size+1,2,none⟩=some (.func (.func 98) #[.pointer (some ⟨B,0,none⟩)] #[]):=by simp
  have f3:((b.alloc (.cells #[t] 9)).alloc (mJ w b B)).cell? ⟨b.heap.size+1,3,none⟩=some (.func (.func 70) #[.pointer (some ⟨B,0,none⟩)] #[]):=by simp
  have Hz:((b.alloc (.cells #[t] 9)).alloc (mJ w b B)).heap.size=b.heap.size+1+1:=by simp
  have Hx:=qI (K.o.below Ho.o);clear Hj y D Hm Ht Hn;generalize ((b.alloc (.cells #[t] 9)).alloc (mJ w b B))=L at *;have Q:=M.o;have F:Hu (∀ wr:World,L.grownBy wr (some B)->wr.cell? w=some (.pointer (some ⟨B,0,none⟩))/\wr.cell? b=some (.string t)/\wr.cell? (b.heap.size+1:Nat)=some (.func (.func 96) #[] #[.pointer (some ⟨w,0,none⟩),.pointer (some ⟨b,0,none⟩)])/\wr.cell? ⟨b.heap.size+1,1,none⟩=some (.func (.func 70) #[.pointer (some ⟨B,0,none⟩)] #[])/\wr.cell? ⟨b.heap.size+1,2,none⟩=some (.func (.func 98) #[.pointer (some ⟨B,0,none⟩)] #[])/\wr.cell? ⟨b.heap.size+1,3,none⟩=some (.func (.func 70) #[.pointer (some ⟨B,0,none⟩)] #[])):=λwr u=>
   have N:=λj=>World.cell?_of_block (a:=⟨w,j,none⟩) (u.block w (by omega) (λe=>by injection e;omega))
   have P:=λj=>World.cell?_of_block (a:=⟨b,j,none⟩) (u.block b (by omega) (λe=>by injection e;omega))
   have G:=λj=>World.cell?_of_block (a:=⟨b.heap.size+1,j,none⟩) (u.block (b.heap.size+1) (by omega) (λe=>by injection e;omega))
   ⟨(N 0).trans E,(P 0).trans C,(G 0).trans f0,(G 1).trans f1,(G 2).trans f2,(G 3).trans f3⟩
  clear E C f0 f1 f2 f3;have O:=qI J;clear J
  go_loopw [29] (λi wr=>∃ k:Nat,k<=4/\i=.int .i64 k/\(∀ j,j<k->s.err t j=0)/\bj wr B (s.run t k)/\L.grownBy wr (some B)) (λi _=>4 - (intOf i).toNat)
  case atStart=>exact ⟨0,by omega,rfl,λj r=>by omega,Hx.o,⟨rfl,rfl,rfl,lR,λ_ _ _=>rfl⟩⟩
  case round=>
   obtain ⟨k,W,rfl,Hg,Hv,u⟩:=hrel;have Hc:=qI Hg;have Hq:=qI Hv;have Hf:=qI u;obtain ⟨o,q,S,g1,T,g3⟩:=F.o wr u;clear Hg Hv u;have Hi:k=0\/k=1\/k=2\/k=3\/k=4:=by omega
   rcases Hi with rfl|rfl|rfl|rfl|rfl
   ·have c:Hu (Calls prog 96 #[w.heap.size,b.heap.size] wr λe w'=>e=.returned (aL ((s.err t 0:Nat):Int))/\bj w' B (s.run t (0+1))/\wr.grownBy w' (some B)):=Sc B w b (s.run t 0) t wr Hq.o O.o Hy.o o q;clear F o q
    rcases tJ (s.err t 0) with ⟨m,g⟩|⟨m,g⟩
    ·rw [g] at c;clear g
     go_wp2_with fail
     refine c.o.mono ?_;rintro e x ⟨rfl,f,d⟩;have l:=qI f;have n:=qI (fy Hf.o d);clear f d c
     go_wp2
     go_roundw
     case rel=>exact ⟨0+1,by omega,by go_num,λj r=>by rcases Nat.lt_succ_iff_lt_or_eq.1 r with h|h;exact Hc.o j h;rw [h];exact m,l.o,n.o⟩
     case measure=>simp [intOf]
    ·rw [g] at c
     go_wp2_with fail
     refine c.o.mono ?_;rintro e x ⟨rfl,f,d⟩;have l:=qI f;have n:=qI (fy Hf.o d);clear f d c
     go_wp2
     go_ret;have Ha:=(Dk.from_upto (by omega) Hc.o).trans (Dk.from_no (by omega) m);exact ⟨by rw [Hb.o,Ha,g];rfl,by rw [Hb.o,Ha];exact l.o,fy (px Ho.o) n.o⟩
   ·have c:Hu (Calls prog 70 #[B] wr λe w'=>e=.returned (aL ((s.err t 1:Nat):Int))/\bj w' B (s.run t (1+1))/\wr.grownBy w' (some B)):=Dc B (s.run t 1) wr Hq.o;clear F o q
    rcases tJ (s.err t 1) with ⟨m,g⟩|⟨m,g⟩
    ·rw [g] at c;clear g
     go_wp2_with fail
     refine c.o.mono ?_;rintro e x ⟨rfl,f,d⟩;have l:=qI f;have n:=qI (fy Hf.o d);clear f d c
     go_wp2
     go_roundw
     case rel=>exact ⟨1+1,by omega,by go_num,λj r=>by rcases Nat.lt_succ_iff_lt_or_eq.1 r with h|h;exact Hc.o j h;rw [h];exact m,l.o,n.o⟩
     case measure=>simp [intOf]
    ·rw [g] at c
     go_wp2_with fail
     refine c.o.mono ?_;rintro e x ⟨rfl,f,d⟩;have l:=qI f;have n:=qI (fy Hf.o d);clear f d c
     go_wp2
     go_ret;have Ha:=(Dk.from_upto (by omega) Hc.o).trans (Dk.from_no (by omega) m);exact ⟨by rw [Hb.o,Ha,g];rfl,by rw [Hb.o,Ha];exact l.o,fy (px Ho.o) n.o⟩
   ·have c:Hu (Calls prog 98 #[B] wr λe w'=>e=.returned (aL ((s.err t 2:Nat):Int))/\bj w' B (s.run t (2+1))/\wr.grownBy w' (some B)):=PO B (s.run t 2) wr Hq.o (by rw [tv (Hc.o 0 (by omega)) (Hc.o 1 (by omega))];rfl) (by rw [tv (Hc.o 0 (by omega)) (Hc.o 1 (by omega))]);clear F o q
    rcases tJ (s.err t 2) with ⟨m,g⟩|⟨m,g⟩
    ·rw [g] at c;clear g
     go_wp2_with fail
     refine c.o.mono ?_;rintro e x ⟨rfl,f,d⟩;have l:=qI f;have n:=qI (fy Hf.o d);clear f d c
     go_wp2
     go_roundw
     case rel=>exact ⟨2+1,by omega,by go_num,λj r=>by rcases Nat.lt_succ_iff_lt_or_eq.1 r with h|h;exact Hc.o j h;rw [h];exact m,l.o,n.o⟩
     case measure=>simp [intOf]
    ·rw [g] at c
     go_wp2_with fail
     refine c.o.mono ?_;rintro e x ⟨rfl,f,d⟩;have l:=qI f;have n:=qI (fy Hf.o d);clear f d c
     go_wp2
     go_ret;have Ha:=(Dk.from_upto (by omega) Hc.o).trans (Dk.from_no (by omega) m);exact ⟨by rw [Hb.o,Ha,g];rfl,by rw [Hb.o,Ha];exact l.o,fy (px Ho.o) n.o⟩
   ·have c:Hu (Calls prog 70 #[B] wr λe w'=>e=.returned (aL ((s.err t 3:Nat):Int))/\bj w' B (s.run t (3+1))/\wr.grownBy w' (some B)):=Dc B (s.run t 3) wr Hq.o;clear F o q
    rcases tJ (s.err t 3) with ⟨m,g⟩|⟨m,g⟩
    ·rw [g] at c;clear g
     go_wp2_with fail
     refine c.o.mono ?_;rintro e x ⟨rfl,f,d⟩;have l:=qI f;have n:=qI (fy Hf.o d);clear f d c
     go_wp2
     go_roundw
     case rel=>exact ⟨3+1,by omega,by go_num,λj r=>by rcases Nat.lt_succ_iff_lt_or_eq.1 r with h|h;exact Hc.o j h;rw [h];exact m,l.o,n.o⟩
     case measure=>simp [intOf]
    ·rw [g] at c
     go_wp2_with fail
     refine c.o.mono ?_;rintro e x ⟨rfl,f,d⟩;have l:=qI f;have n:=qI (fy Hf.o d);clear f d c
     go_wp2
     go_ret;have Ha:=(Dk.from_upto (by omega) Hc.o).trans (Dk.from_no (by omega) m);exact ⟨by rw [Hb.o,Ha,g];rfl,by rw [Hb.o,Ha];exact l.o,fy (px Ho.o) n.o⟩
   ·go_wp2
    go_ret;have Ha:=(Dk.from_upto (by omega) Hc.o).trans Dk.from_end;exact ⟨by rw [Hb.o,Ha];rfl,by rw [Hb.o,Ha];exact Hq.o,fy (px Ho.o) Hf.o⟩
 ·have Hr:Hu (iQ hs=.tuple #[.string ⟨#[]⟩,aL (bt hs:Nat)]):=by unfold Hu iQ;rw [if_neg hf]
  have Hw:=qI (eV hf);have Hb:Hu (s.save hs=(bt hs,s)):=by unfold Hu Dk.save;rw [if_neg hf]
  rw [Hr.o,Hw.o] at Hl;clear Hr hf He
  go_enter func56,ntmps56
  go_wp2_with fail
  generalize w.alloc (.cells #[B] 32)=A at *;refine Hl.o.mono ?_;rintro e b ⟨rfl,Hk⟩;have Hn:=qI (Hh.o.trans (Hk.mono Hh.o.size));have Hm:=qI (Hn.o.alloc Hn.o.size (.cells #[.string ⟨#[]⟩] 9));clear Hk cb Hl Hp Hh
  go_wp2
  go_ret;exact ⟨by rw [Hb.o,Hw.o];rfl,by rw [Hb.o];exact K.o.below Hm.o,px Hm.o⟩
structure Holds (s:Dk) (hs:List ad):Prop where
 up:s.d=false
 ft:s.n.ft=true
 fb:s.n.fb=⟨(bi hs).toArray⟩
 hf:bt hs=0
 len:(bi hs).length<=6000
 ok:li hs
theorem Holds.load (h:Holds s hs):s.load=(0,hs):=by
 unfold Dk.load;rw [if_neg (by rw [h.up];decide),if_pos h.ft,h.fb]
 show fA (bi hs).toArray.toList=_
 rw [List.toList_toArray];exact PI h.ok h.hf h.len
theorem Holds.size (h:Holds s hs):s.n.fb.data.toList.length<=1000000:=by
 rw [h.fb]
 show (bi hs).toArray.toList.length<=_
 rw [List.toList_toArray];exact Q5 h.len (by decide)
theorem Se {k:Nat} (h:(Dk.act t k s).1≠0):(k=0/\(Dk.act t k s).1=2/\(Dk.act t k s).2=s)\/((Dk.act t k s).1=11/\(Dk.act t k s).2=s.fall):=by grind [Dk.act,Dk.write,Dk.apply,Dk.sync]
theorem xE (s:Dk) (t:ByteArray):(s.err t 0=0/\s.err t 1=0/\s.err t 2=0/\s.err t 3=0/\s.from t 0=(0,s.run t 4))\/∃ k,k<4/\(∀ j,j<k->s.err t j=0)/\s.err t k≠0/\s.from t 0=(s.err t k,s.run t (k+1)):=by
 by_cases a:s.err t 0=0
 ·by_cases b:s.err t 1=0
  ·by_cases c:s.err t 2=0
   ·by_cases d:s.err t 3=0
    ·exact .inl ⟨a,b,c,d,by rw [Dk.from_yes (by decide) a,Dk.from_yes (by decide) b,Dk.from_yes (by decide) c,Dk.from_yes (by decide) d,Dk.from_end]⟩
    ·exact .inr ⟨3,by decide,λj e=>by have:j=0\/j=1\/j=2:=(by omega);rcases this with rfl|rfl|rfl <;> assumption,d,by rw [Dk.from_yes (by decide) a,Dk.from_yes (by decide) b,Dk.from_yes (by decide) c,Dk.from_no (by decide) d]⟩
   ·exact .inr ⟨2,by decide,λj e=>by have:j=0\/j=1:=(by omega);rcases this with rfl|rfl <;> assumption,c,by rw [Dk.from_yes (by decide) a,Dk.from_yes (by decide) b,Dk.from_no (by decide) c]⟩
  ·exact .inr ⟨1,by decide,λj e=>by have:j=0:=(by omega);rw [this];exact a,b,by rw [Dk.from_yes (by decide) a,Dk.from_no (by decide) b]⟩
 ·exact .inr ⟨0,by decide,λj e=>by omega,a,Dk.from_no (by decide) a⟩
theorem Sf (h:s.err t 0=0):t.size<=6000:=by
 have a:(s.write t).1=0:=h;unfold Dk.write at a
 by_cases b:6000<t.size
 ·rw [if_pos b] at a;cases a
 ·omega
theorem D3 (i:∀ h∈hs,∀ g∈h.gs,g.cp<18446744073709551616) (h:(s.save hs).1=0):Holds (s.save hs).2 hs/\(s.save hs).2.k=(s.save hs).2.n/\(s.save hs).2.wt=none:=by
 unfold Dk.save at h ⊢
 by_cases hf:bt hs=0
 ·rw [if_pos hf] at h ⊢
  rcases xE s ⟨(bi hs).toArray⟩ with ⟨a,f,d,c,e⟩|⟨k,_,_,a,e⟩
  ·have b:=Sf a;rw [e,Df a f d c];exact ⟨⟨rfl,rfl,rfl,hf,by simpa [ByteArray.size] using b,sL hf i⟩,rfl,rfl⟩
  ·rw [e] at h;exact absurd h a
 ·rw [if_neg hf] at h;exact absurd h hf
theorem Sg (a:s.l<0) (af:s.d=false) (hf:bt hs=0) (j:(bi hs).length<=6000):(s.save hs).1=0:=by
 have e:∀ l:Int,l<0->cf l false=0:=λl h=>by unfold cf;rw [if_neg (by simp;omega)]
 have b:∀ l:Int,l<0->bu l false=l:=λl h=>by unfold bu;rw [if_neg (by simp;omega),if_neg (by omega)]
 obtain ⟨n,k,wt,l,d⟩:=s;dsimp only at a af;subst af;unfold Dk.save;rw [if_pos hf];have Ha:¬ 6000<(ByteArray.mk (bi hs).toArray).size:=by simp [ByteArray.size];omega
 generalize ByteArray.mk (bi hs).toArray=t at *;have c:Dk.err ⟨n,k,wt,l,false⟩ t 0=0:=by
  show (Dk.write _ t).1=0
  unfold Dk.write;rw [if_neg Ha];unfold Dk.apply;rw [if_pos (show cf (Dk.run ⟨n,k,wt,l,false⟩ t 0).l (Dk.run ⟨n,k,wt,l,false⟩ t 0).d=0 from e l a)]
 have f:Dk.err ⟨n,k,wt,l,false⟩ t 1=0:=by
  show (Dk.sync _).1=0
  rw [Dd c];unfold Dk.sync;rw [if_pos (by show cf (bu l false) false=0;rw [b l a];exact e l a)]
 have g:Dk.err ⟨n,k,wt,l,false⟩ t 2=0:=by
  show (Dk.apply _ _).1=0
  rw [tv c f];unfold Dk.apply;rw [if_pos (by show cf (bu (bu l false) false) false=0;rw [b l a,b l a];exact e l a)]
 have i:Dk.err ⟨n,k,wt,l,false⟩ t 3=0:=by
  show (Dk.sync _).1=0
  rw [De c f g];unfold Dk.sync;rw [if_pos (by show cf (bu (bu (bu l false) false) false) false=0;rw [b l a,b l a,b l a];exact e l a)]
 rw [Dk.from_yes (by decide) c,Dk.from_yes (by decide) f,Dk.from_yes (by decide) g,Dk.from_yes (by decide) i,Dk.from_end]
theorem Sh (h:(s.save hs).1≠0) (a:(s.save hs).1≠11):(s.save hs).2=s:=by
 unfold Dk.save at h a ⊢
 by_cases hf:bt hs=0
 ·rw [if_pos hf] at h a ⊢
  rcases xE s ⟨(bi hs).toArray⟩ with ⟨_,_,_,_,e⟩|⟨k,_,_,b,e⟩
  ·rw [e] at h;exact absurd rfl h
  ·rw [e] at a ⊢
   rcases Se (k:=k) b with ⟨rfl,_,c⟩|⟨d,_⟩
   ·exact c
   ·exact absurd d a
 ·rw [if_neg hf]
def Calm (s:Dk):Prop:=s.d=false/\s.l=-1/\s.wt=none
theorem D4:Calm Dk.fresh:=⟨rfl,rfl,rfl⟩
theorem py (h:Calm s) (hf:bt hs=0):((bi hs).length<=6000->(s.save hs).1=0)/\(6000<(bi hs).length->(s.save hs).1=2)/\Calm (s.save hs).2:=by
 by_cases c:6000<(bi hs).length
 ·have b:s.write ⟨(bi hs).toArray⟩=(2,s):=if_pos (by simpa [ByteArray.size] using c);have a:s.err ⟨(bi hs).toArray⟩ 0=2:=by
   show (s.write _).1=2
   rw [b]
  unfold Dk.save;rw [if_pos hf,Dk.from_no (by decide) (by rw [a];decide)];refine ⟨λh=>absurd h (by omega),λ_=>a,?_⟩
  show Calm (s.write _).2
  rw [b];exact h
 ·have a:=Sg (s:=s) (by rw [h.2.1];decide) h.1 hf (by omega);refine ⟨λ_=>a,λh=>absurd h c,?_⟩;unfold Dk.save at a ⊢;rw [if_pos hf] at a ⊢
  rcases xE s ⟨(bi hs).toArray⟩ with ⟨i,j,g,f,e⟩|⟨k,_,_,d,e⟩
  ·rw [e,Df i j g f];refine ⟨rfl,?_,rfl⟩
   show bu (bu (bu (bu s.l s.d) false) false) false=-1
   rw [h.1,h.2.1];rfl
  ·rw [e] at a;exact absurd a d
def Kept (s:Dk) (hs:List ad):Prop:=s.load=(0,hs)/\s.k=s.n/\s.n.fb.data.toList.length<=1000000
theorem Si (h:Calm s) (hf:s.n.ft=false) (b:s.k=s.n) (a:s.n.fb.data.toList.length<=1000000):Kept s []:=by
 refine ⟨?_,b,a⟩;unfold Dk.load;rw [h.1,hf];rfl
theorem xF (h:Calm s) (c:∀ x∈hs,∀ g∈x.gs,g.cp<18446744073709551616) (hf:bt hs=0) (b:(bi hs).length<=6000):Kept (s.save hs).2 hs:=by
 have a:=D3 c ((py h hf).1 b);exact ⟨a.1.load,a.2.1,a.1.size⟩
theorem Sj (h:Calm s) (hf:bt hs=0) (a:6000<(bi hs).length):(s.save hs).2=s:=by grind [py,Sh]
