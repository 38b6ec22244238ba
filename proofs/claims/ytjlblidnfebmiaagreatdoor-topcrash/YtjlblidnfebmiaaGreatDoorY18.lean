import Derived.Test.YtjlblidnfebmiaaGreatDoorY17
import Derived.Test.YtjlblidnfebmiaaGreatDoorY15
import Derived.Test.YtjlblidnfebmiaaGreatDoorCards
import Derived.Test.YtjlblidnfebmiaaGreatDoorTie
import Derived.ShutString
import Derived.Deep.DeepHandedRow
import Derived.Lib.LaidTab
import Derived.Stop.LaidErr
set_option maxRecDepth 100000
set_option maxHeartbeats 16000000
open Go Go.RowKit
open Go.Proofs.Tryz
namespace Go.Proofs.YtjlblidnfebmiaaGreatDoor
variable{B base k o:Nat}{W w w':World}{b:Bool}{h:ae}{hs:List ae}{v:Value}{xs:List Int}
theorem bK.slice{v:Value}(h:bK w v xs):∃a c,v=.slice a xs.length c:=by
 obtain⟨a,c,rfl,_⟩:=h;exact⟨a,c,rfl⟩
theorem OF(h:16<xs.length):fo xs=2:=by grind[fo]
theorem OG(h:¬ 16<xs.length):fo xs=bA (iX xs) xs.length:=by grind[fo]
def pE (xs:List Int) (k:Nat):Int:=if k=0 then -1 else xs.getD (k - 1) 0
theorem OH(a:List Int)(k:Nat):pE a (k+1)=a.getD k 0:=rfl
theorem OI(h:bA (iX xs) k=0)(_:k<xs.length):iX xs k=if xs.getD k 0<=pE xs k\/16<=xs.getD k 0 then 3 else 0:=by
 unfold iX
 by_cases b:k=0
 ·grind[pE]
 ·have e:pE xs k=xs.getD (k - 1) 0:=by grind[pE]
  rw[e];have a:=fy h (k - 1) (by omega);unfold iX at a
  split at a
  ·cases a
  rename_i d
  by_cases c:xs.getD k 0<=xs.getD (k - 1) 0\/16<=xs.getD k 0
  ·grind
  ·grind
theorem OJ{v:Value}{a:List Int}{w:World}(h:bK w v a):CE 225 #[v] w (aD (fo a:Nat)):=by
 obtain⟨I,c,rfl,y,u⟩:=h;have r:=qI u;clear u;have B:=qI y;unfold maxLen at y
 by_cases z:16<a.length
 ·have C:=OF z;have ah:decide ((16:Int)<(a.length:Int))=true:=Qc (by omega)
  go_enter func225,ntmps225
  go_wp2
  go_ret;exact⟨by rw[C];rfl,rfl⟩
 ·rw[OG z];have H:a.length<=16:=by omega
  have ah:decide ((16:Int)<(a.length:Int))=false:=Q7 (by omega)
  go_enter func225,ntmps225
  go_wp2
  go_loop [3,12] (λla i=>∃k:Nat,k<=a.length/\i=.int .i64 k/\la=.int .i64 (pE a k)/\Hu (bA (iX a) k=0)) (λ_ i=>a.length - (intOf i).toNat)
  exact⟨0,by omega,rfl,rfl,rfl⟩
  ·obtain⟨k,F,rfl,rfl,g⟩:=hrel
   by_cases d:k<a.length
   ·obtain⟨b,o,rfl,E,s⟩:=r.o (by omega);have G:=s k d;have q:=qI (mh (f:=iX a) (n:=a.length) g · d);have t:=qI (nk (f:=iX a) (k:=k) g);have j:=qI (OI g d);have D:=qI (OH a k);clear s g r B;generalize a.getD k 0=x at *;generalize pE a k=L at *
    by_cases m:x<=L
    ·have l:iX a k=3:=by rw[j.o,if_pos (.inl m)]
     have Hc:=Qc m;have Ha:=qI (q.o (by omega))
     go_wp2
     go_ret;exact⟨by rw[Ha.o,l];rfl,rfl⟩
    ·have Hc:decide (x<=L)=false:=Q7 m
     by_cases p:16<=x
     ·have l:iX a k=3:=by rw[j.o,if_pos (.inr p)]
      have He:=Qc p;have Ha:=qI (q.o (by omega))
      go_wp2
      go_ret;exact⟨by rw[Ha.o,l];rfl,rfl⟩
     ·have A:iX a k=0:=by rw[j.o,if_neg (by omega)]
      have He:=Q7 p;have Hf:=qI (t.o A);clear q t j
      go_wp2
      go_round
      exact⟨k+1,by omega,by go_num,by rw[D.o],Hf⟩
      simp[intOf];omega
   ·have Hb:k=a.length:=by omega
    subst Hb
    go_wp2
    go_ret;exact⟨by rw[g.o];rfl,rfl⟩
theorem qD.at{b:Nat}{gs:List aX}{dv:Nat->Value}(h:qD w b o gs dv)(a:k<gs.length) :
  w.cell? ⟨b,o+k*2,none⟩=some (.int .u64 (aG gs k).cp)/\w.cell? ⟨b,o+k*2+1,none⟩=some (dv k):=⟨(h.2 k a).1.1,(h.2 k a).1.2.1⟩
theorem OK(e:br h.pod≠0):gB h b=br h.pod:=by grind[gB]
theorem Du(e:br h.pod=0)(a:b=true\/h.gs.length≠h.pod.cs.length):gB h b=3:=by grind[gB]
theorem OL{b:Bool}(e:br h.pod=0)(a:¬ (b=true\/h.gs.length≠h.pod.cs.length)):gB h b=bA (λk=>fo (aG h.gs k).dv) h.gs.length:=by unfold gB;rw[if_neg (by omega),if_neg a];rfl
theorem ba.sl{v:Value}{cs:List aF}(h:ba w v cs):∃a c,v=.slice a cs.length c:=by
 obtain⟨a,c,rfl,_⟩:=h;exact⟨a,c,rfl⟩
theorem ce.sl{v:Value}{cs:List aX}(h:ce w v cs):∃a c,v=.slice a cs.length c:=by
 obtain⟨a,c,rfl,_⟩:=h;exact⟨a,c,rfl⟩
theorem ON(h:ae){cv l:Value}(a:ByteArray){w:World}(v:ba w cv h.pod.cs)(A:ce w l h.gs) :
  CB 174 #[xy h cv l,a] w (aD (gB h (ei h.pod.nm a):Nat)):=by
 unfold xy;have Ha:=qI ((Q0 w w).alloc (lR) (.cells #[h.pod.nm,(h.pod.pr:Int),cv,l] 101));have Hi:=v.below Ha;have Hk:=A.below Ha;have Hf:=qI (xX h.pod Hi);have Hp:=qI Hi;have Hj:=qI Hk;obtain⟨z,cc,rfl⟩:=v.sl;obtain⟨y,gc,rfl⟩:=A.sl;clear v A Hi Hk;unfold cQ at Hf
 by_cases m:br h.pod=0
 ·have J:aD ((br h.pod:Nat):Int)=.nilIface:=by rw[m];rfl
  go_enter func174,ntmps174
  go_wp2
  refine Hf.o.m λr c=>?_;rw[J];have Hb:=Ha.t c;have K:=Hj.o.below c;have c0:cl r w (0) h.pod.nm:=(c.cell (p:=w.heap.size) (by simp)).trans (by simp);have c2:cl r w (2) (.slice z h.pod.cs.length cc):=(c.cell (p:=⟨w,2,none⟩) (by simp)).trans (by simp);have c3:cl r w (3) (.slice y h.gs.length gc):=(c.cell (p:=⟨w,3,none⟩) (by simp)).trans (by simp);clear c Hf Hp Hj
  rcases two (ei h.pod.nm a) with hle|hle
  ·have g:=qI (Du (b:=ei h.pod.nm a) m (.inl hle));unfold ei at hle
   go_wp2
   go_ret;exact⟨by rw[g.o];rfl,Hb⟩
  ·by_cases D:h.gs.length=h.pod.cs.length
   ·have g:=qI (OL (b:=ei h.pod.nm a) m (by rw[hle];simp[D]));unfold ei at hle;have Hq:(h.gs.length:Int)=(h.pod.cs.length:Int):=by omega
    obtain⟨_,_,Hn,G,E⟩:=K;cases Hn;have H:=qI E;have O:=qI G;clear E;unfold maxLen at G;generalize h.gs=gs at *
    go_wp2
    go_loopw [34] (λi wr=>∃k:Nat,k<=gs.length/\i=.int .i64 k/\Bw w wr/\Bw r wr/\Hu (bA (λk=>fo (aG gs k).dv) k=0)) (λi _=>gs.length - (intOf i).toNat)
    exact⟨0,by omega,rfl,Hb,Q0 _ _,rfl⟩
    ·obtain⟨k,N,rfl,s,He,u⟩:=hrel
     by_cases j:k<gs.length
     ·obtain⟨b,o,dv,rfl,Hc⟩:=H.o (by omega);have Hc:=Hc.below He;obtain⟨Q,L⟩:=Hc.at j;have B:=(Hc.2 k j).2;have C:=qI λh=>mh (f:=λk=>fo (aG gs k).dv) (n:=gs.length) u h j
      have x:=qI λh=>nk (f:=λk=>fo (aG gs k).dv) (k:=k) u h
      have Ho:=qI ((Q0 wr wr).alloc (lR) (.cells #[.int .u64 (aG gs k).cp,dv k] 123));have Hg:=qI (s.alloc s.size (.cells #[.int .u64 (aG gs k).cp,dv k] 123));have Hl:=qI (He.alloc He.size (.cells #[.int .u64 (aG gs k).cp,dv k] 123));have Hh:=qI (OJ (B.below Ho));obtain⟨I,M,Hr⟩:=B.slice;clear Hc B u s He;generalize (aG gs k).cp=cp at *;generalize fo (aG gs k).dv=F at *;generalize (aG gs k).dv.length=dn at *;generalize dv k=d at *;subst Hr
      go_wp2
      refine Hh.o.e ?_
      by_cases q:F=0
      ·have Hm:=qI (x.o q);rw[show aD (F:Int)=.nilIface by rw[q];rfl];clear C x q Hh
       go_wp2
       go_roundw
       exact⟨k+1,by omega,by go_num,Hg,Hl,Hm⟩
       simp[intOf];omega
      ·have Hs:=qI (C.o q);have t:=qI (eW q);rw[t.o];clear C x q Hh
       go_wp2
       go_ret;exact⟨by rw[g.o,Hs.o,t.o];rfl,Hg⟩
     ·have Ht:k=gs.length:=by omega
      subst Ht;have Hg:=qI s;clear s He
      go_wp2
      go_ret;exact⟨by rw[g.o,u.o];rfl,Hg⟩
   ·have g:=qI (Du (b:=ei h.pod.nm a) m (.inr D));unfold ei at hle;have Hq:((h.gs.length:Int) == (h.pod.cs.length:Int))=false:=by simp;omega
    go_wp2
    go_ret;exact⟨by rw[g.o];rfl,Hb⟩
 ·have g:=qI (OK (b:=ei h.pod.nm a) m);have t:=qI (eW m)
  go_enter func174,ntmps174
  go_wp2
  refine Hf.o.m λr c=>?_;have Hb:=Ha.t c;rw[t.o];clear c
  go_wp2
  go_ret;exact⟨by rw[g.o,t.o];rfl,Hb⟩
theorem nH.at{b:Nat}{cv a:Nat->Value}(h:nH w b o hs cv a)(c:k<hs.length) :
  w.cell? ⟨b,o+k*4,none⟩=some (.string (ah hs k).pod.nm)/\w.cell? ⟨b,o+k*4+1,none⟩=some (.int .i64 (ah hs k).pod.pr)/\w.cell? ⟨b,o+k*4+2,none⟩=some (cv k)/\w.cell? ⟨b,o+k*4+3,none⟩=some (a k):=(h.2 k c).1
def qL (hs:List ae) (k:Nat):ByteArray:=if k=0 then ByteArray.empty else (ah hs (k - 1)).pod.nm
theorem OO(hs:List ae)(k:Nat):qL hs (k+1)=(ah hs k).pod.nm:=rfl
theorem OP{s:ByteArray}(h:bY s=true):ei s ByteArray.empty=false:=by
 have b:=(mx h).1;rw[ei,Qs,Qs];cases hs:s.data.toList with
 | nil=>rw[hs] at b;simp at b
 | cons a r=>rfl
theorem OQ(a:bY h.pod.nm=true->b=false):gB h b=gB h false:=by
 grind[gB,qq]
theorem OR(hs:List ae)(k:Nat):gB (ah hs k) (ei (ah hs k).pod.nm (qL hs k))=nC hs k:=by grind[nC,qy,qL,gB,ah,OQ,OP]
theorem OS(h:12<hs.length):bS hs=2:=by grind[bS]
theorem OT(h:¬ 12<hs.length):bS hs=bA (nC hs) hs.length:=by grind[bS]
theorem OU{v:Value}{hs:List ae}{w:World}(h:bf w v hs):CB 136 #[v] w (aD (bS hs:Nat)):=by
 obtain⟨N,c,rfl,x,u⟩:=h;have z:=qI u;clear u;have K:=qI x;unfold maxLen at x
 by_cases y:12<hs.length
 ·have D:=OS y;have Hh:decide ((12:Int)<(hs.length:Int))=true:=Qc (by omega)
  go_enter func136,ntmps136
  go_wp2
  go_ret;exact⟨by rw[D];rfl,Q0 _ _⟩
 ·rw[OT y];have J:hs.length<=12:=by omega
  have Hh:decide ((12:Int)<(hs.length:Int))=false:=Q7 (by omega)
  go_enter func136,ntmps136
  go_wp2
  go_loopw [3,13] (λla i wr=>∃k:Nat,k<=hs.length/\i=.int .i64 k/\la=.string (qL hs k)/\Bw w wr/\Hu (bA (nC hs) k=0)) (λ_ i _=>hs.length - (intOf i).toNat)
  exact⟨0,by omega,rfl,rfl,Q0 _ _,rfl⟩
  ·obtain⟨k,I,rfl,rfl,g,l⟩:=hrel
   by_cases d:k<hs.length
   ·obtain⟨b,o,cv,a,rfl,Hb⟩:=z.o (by omega);have Hb:=Hb.below g;obtain⟨M,G,H,O⟩:=Hb.at d;obtain⟨_,q,r⟩:=Hb.2 k d;have s:=qI (mh (f:=nC hs) (n:=hs.length) l · d);have m:=qI (nk (f:=nC hs) (k:=k) l);have Hg:=qI ((Q0 wr wr).alloc (lR) (.cells #[(ah hs k).pod.nm,((ah hs k).pod.pr:Int),cv k,a k] 101));have Hc:=qI (g.alloc g.size (.cells #[(ah hs k).pod.nm,((ah hs k).pod.pr:Int),cv k,a k] 101));have Ha:=qI (ON (ah hs k) (qL hs k) (q.below Hg) (r.below Hg));rw[OR hs k] at Ha;unfold xy at Ha;have E:=qI (OO hs k);obtain⟨ca,cc,Hm⟩:=q.sl;obtain⟨ga,gc,Hl⟩:=r.sl;clear Hb q r l g;generalize qL hs k=L at *;generalize nC hs k=F at *;generalize (ah hs k).pod.nm=nm at *;generalize (ah hs k).pod.pr=pr at *;generalize (ah hs k).pod.cs.length=cl at *;generalize (ah hs k).gs.length=gl at *;generalize cv k=A at *;generalize a k=B at *;subst Hm Hl
    go_wp2
    refine Ha.o.m λC He=>?_;have Hf:=Hc.t He;have c0:C.cell? wr=some (.string nm):=(He.cell (p:=wr.heap.size) (by simp)).trans (by simp);clear He
    by_cases j:F=0
    ·have Hi:=qI (m.o j);rw[show aD (F:Int)=.nilIface by rw[j];rfl];clear s m j Ha
     go_wp2
     go_roundw
     exact⟨k+1,by omega,by go_num,by rw[E.o],Hf,Hi⟩
     simp[intOf];omega
    ·have Hj:=qI (s.o j);have t:=qI (eW j);rw[t.o];clear s m j Ha
     go_wp2
     go_ret;exact⟨by rw[Hj.o,t.o];rfl,Hf⟩
   ·have Hk:k=hs.length:=by omega
    subst Hk;have Hc:=qI g;clear g
    go_wp2
    go_ret;exact⟨by rw[l.o];rfl,Hc⟩
theorem dI{a:Addr}(h:w.cell? a=some v)(o:Obj):(w.alloc o).cell? a=some v:=
 (((Q0 w w).alloc (lR) o).cell (Q3 w _ h)).trans h
theorem jX{a:World}(h:Below B a w):Below B a w.drew:=⟨h.os,h.tape,h.output,h.size,h.block⟩
def cJ (w:World):Prop:=kG w/\1<w.heap.size
theorem cJ.below(h:cJ w)(a:Bw w w'):cJ w':=⟨h.1.below a h.2,Q1 h.2 a.size⟩
theorem qM(x:Int){w:World}(b:0<=x)(c:x<=1125899906842624)(a:cJ w):CB 177 #[x] w (.string ⟨(aO x).toArray⟩):=Cz x b (by omega) a.1
abbrev Dv:=λ(w:World) (kd:ByteArray) (m:Int) (w':World)=>cl w' w (0) kd/\cl w' w (1) m
theorem OV{d:ak}{w:World}(h:pf d)(g:cJ w):CB 230 #[.agg #[d.kind,(d.many:Int)]] w (.string ⟨(fF d).toArray⟩):=by
 have i:=(mx h.1).2;have s:=my d.many (by have:=h.2.2;omega);have b:ByteArray.mk d.kind.data.toList.toArray=d.kind:=by simp
 have n:=qF d.kind.data.toList [58];have q:=qF (d.kind.data.toList++[58]) (aO d.many);have k:Hu (fF d=d.kind.data.toList++[58]++aO d.many):=rfl;have Hf:=h.2.1;have Hg:=h.2.2;have Hh:d.kind.size<=8:=Q5 (Nat.le_of_eq (by simp)) i;rw[b] at n;clear b;have j:=qI g;have Hb:=qI (jX ((Q0 w w).alloc (lR) (.cells #[d.kind,(d.many:Int)] 127)));generalize fF d=S at *;generalize d.many=m at *;generalize d.kind=kd at *;have o:¬ 9223372036854775807<kd.size+1:=by omega
 have r:¬ 9223372036854775807<kd.size+1+(aO m).length:=by omega
 clear h g
 go_enter func230,ntmps230
 go_wp2
 have Ha:=qI (show w.heap.size<(w.alloc (.cells #[kd,(m:Int)] 127)).drew.heap.size/\(w.alloc (.cells #[kd,(m:Int)] 127)).drew.cell? w=some (.string kd)/\(w.alloc (.cells #[kd,(m:Int)] 127)).drew.cell? ⟨w,1,none⟩=some (.int .i64 m) from⟨by simp,by simp,by simp⟩);refine wp_region_held_drew (S:=Dv w kd m) (by kernel_rfl) Ha.o.2 λl=>?_;refine tk 0 ?_;refine tk 1 ?_;refine tk 2 ?_;refine tk 3 ?_;refine tk 4 ?_;refine rd 5 λK f=>?_;go_simp
 go_wp2
 refine (qM m (by omega) (by omega) (j.o.below Hb)).m λc a=>?_;have He:=Hb.t a;have Hc:=qI (show w<c.heap.size/\(Dv w kd m) c from⟨Q1 Ha.o.1 a.size,(a.cell (p:=w.heap.size) Ha.o.1).trans Ha.o.2.1,(a.cell (p:=⟨w,1,none⟩) Ha.o.1).trans Ha.o.2.2⟩);clear a
 go_wp2
 refine f.k Hc.o.2 λl=>?_;refine tk 6 ?_;refine tk 7 ?_;refine Qn (by kernel_rfl) ?_ _
 go_wp2
 go_ret;exact⟨by rw[k.o,List.append_assoc];rfl,He⟩
def ju (xs:List ak) (k:Nat):List (List UInt8):=(xs.take k).map fF
theorem OW{a:List ak}(h:k<a.length):ju a (k+1)=ju a k++[fF (ar a k)]:=by
 grind[ju,Qa,ar]
theorem xY{a:List ak}(h:k<=a.length):(ju a k).length=k:=by
 grind[ju]
theorem Dw(a:List ak):ju a a.length=a.map fF:=by grind[ju]
theorem OX{v:Value}{a:List ak}{w:World}(h:bC w v a)(n:∀x∈a,pf x)(L:a.length<=3)(A:cJ w) :
  CB 229 #[v,.func (.func 230) #[] #[]] w (.string ⟨(kD a).toArray⟩):=by
 obtain⟨i0,hi,Hn,Hl,Hp⟩:=info_parts uJ;obtain⟨M,c,rfl,I,z⟩:=h;have B:=qI z;have D:=qI A;have q:=qI n;clear z A n;unfold maxLen at I;have H:Hu (∀(v:Value) (f:World),f.ownsRow w 9 1 v (ju a a.length).length (dP (ju a a.length))->CB 227 #[v,.string ⟨#[44]⟩] f (.string ⟨(Lib.join (ju a a.length) [44]).toArray⟩)):=by
  intro v f h;refine xL 44 f h (by rw[xY (lR)];omega) ?_;refine Q5 (ph 44 29 _ λx n=>?_) (by rw[xY (lR)];omega);rw[Dw] at n;obtain⟨d,ah,rfl⟩:=Qk.1 n;exact BW (q.o d ah)
 have F:Hu (eI (Lib.join (ju a a.length) [44])=kD a):=by grind[Hu,kD,Dw]
 go_enter func229,ntmps229
 go_wp2
 go_loopw [5,10] (λr i wr=>∃k:Nat,k<=a.length/\i=.int .i64 k/\wr.ownsRow w 9 1 r (ju a k).length (dP (ju a k))/\Bw w wr) (λ_ i _=>a.length - (intOf i).toNat)
 exact⟨0,by omega,rfl,Qw _ _ _ _,Q0 _ _⟩
 ·obtain⟨k,C,rfl,Hf,g⟩:=hrel
  by_cases l:k<a.length
  ·obtain⟨b,o,rfl,u,s⟩:=B.o (by omega);obtain⟨y,t⟩:=s k l;have c0:=(g.cell (p:=⟨b,o+k*2,none⟩) u).trans y;have c1:=(g.cell (p:=⟨b,o+k*2+1,none⟩) u).trans t;have HS:=qI (OW l);have hle:=xY C;have Hj:=q.o (ar a k) (by simp[ar,l]);have Hq:=g.size;have Hh:=qI (g.alloc g.size (.cells #[(ar a k).kind,((ar a k).many:Int)] 127));have G:=qI (OV Hj (D.o.below Hh));have Hc:=Hf.alloc (.cells #[(ar a k).kind,((ar a k).many:Int)] 127);clear s y t Hj;generalize fF (ar a k)=T at *;generalize (ar a k).kind=kd at *;generalize (ar a k).many=m at *
   go_wp2
   refine G.o.m λf Hg=>?_;have Hi:=Hh.t Hg;have Ha:=xK Hc Hg;have Ho:=Hi.o.size;clear Hg
   go_wp2_with (at_builtin;refine wpList_append_own _ rfl _ _ 105 rfl w 9 i0 (.string ⟨#[]⟩) 1 16 underlying105 hi Hn Hl Hp rfl (by decide) _ _ _ rfl (Ha.alloc _) ⟨_,0,none⟩ 1 1 [.string ⟨T.toArray⟩] rfl rfl (cell_one_new _ _ _) (sB [T]) (by unfold maxLen;omega) (by omega) (by simp;omega) ?_;intro K E He Hb _)
   go_roundw
   case rel=>
    refine⟨k+1,by omega,by go_num,?_,?_⟩
    ·rw[HS.o,uK,Q2];exact He
    ·exact (Hi.o.alloc Hi.o.size _).grown Hb (by simp;omega) λj J=>(Ha.lt j J).1
   case measure=>simp[intOf];omega
  ·have Hm:k=a.length:=by omega
   subst Hm
   go_wp2
   refine (H.o _ _ Hf).m λf Hg=>?_;have Hk:=g.trans (Hg.mono g.size)
   go_wp2
   refine (xE).e ?_
   go_wp2
   go_ret;exact⟨by rw[<- F.o];rfl,Hk⟩
def i8 (base:Nat) (w:World) (v:Value) (ws:List (List UInt8)):Prop:=w.ownsRow base 9 1 v ws.length (dP ws)
theorem xZ(ws:List (List UInt8))(w:World)(base:Nat)(a:base<=w)(b:ws.length<=1000):i8 base (w.alloc (.cells (dP ws).toArray 9)) (.slice w ws.length ws.length) ws:=by
 have h:=World.ownsRow_made (base:=base) (e:=9) (size:=1) w (dP ws).toArray ws.length a (by unfold maxLen;omega) (by simp[dP]);refine⟨by simp[dP],.inr ⟨w,ws.length,_,rfl,a,heap_alloc_new w _,lR,by unfold maxLen;omega,by simp[dP],?_⟩⟩;rw[Nat.mul_one,List.take_of_length_le (by simp[dP])]
abbrev uU:=λ(w:World) (cp:Int) (da:Option Addr) (dn dc:Nat) (w':World)=>cl w' w (0) (.int .u64 cp)/\cl w' w (1) (.slice da dn dc)
theorem OY{g:aX}{dv:Value}{w:World}(ah:bK w dv g.dv)(f:pd g)(j:cJ w) :
  Calls pg 140 #[.agg #[.int .u64 g.cp,dv]] w λe w'=>∃v,e=.returned v/\i8 w w' v (eJ g)/\Bw w w':=by
 have h:=qI j;have Hk:=qI (jX ((Q0 w w).alloc (lR) (.cells #[.int .u64 g.cp,dv] 123)));have m:=qI λW (a:Bw w W)=>Na (ah.below a) f.2.2 f.2.1 (h.o.below a).1 (h.o.below a).2;have k:=qI λW=>M5 g.cp W f.1;have l:Hu (eJ g=[eI (ji g.cp),lB g.dv]):=rfl;obtain⟨da,dc,rfl⟩:=ah.slice;clear ah f j;generalize lB g.dv=D at *;generalize g.dv.length=dn at *;generalize ji g.cp=X at *;generalize eJ g=n at *;generalize g.cp=cp at *
 go_enter func140,ntmps140
 go_wp2
 have Hf:=qI (show w.heap.size<(w.alloc (.cells #[.int .u64 cp,.slice da dn dc] 123)).drew.heap.size/\(w.alloc (.cells #[.int .u64 cp,.slice da dn dc] 123)).drew.cell? w=some (.int .u64 cp)/\(w.alloc (.cells #[.int .u64 cp,.slice da dn dc] 123)).drew.cell? ⟨w,1,none⟩=some (.slice da dn dc) from⟨by simp,by simp,by simp⟩);refine wp_region_held_drew (S:=uU w cp da dn dc) (by kernel_rfl) Hf.o.2 λd=>?_;refine tk 0 ?_;refine tk 1 ?_;refine tk 4 ?_;refine tk 5 ?_;refine rd 2 λK b=>?_;go_simp
 go_wp2
 refine (k.o _).m λi a=>?_;have Hj:=Hk.t a;have Hg:=qI (show w<i.heap.size/\(uU w cp da dn dc) i from⟨Q1 Hf.o.1 a.size,(a.cell (p:=w.heap.size) Hf.o.1).trans Hf.o.2.1,(a.cell (p:=⟨w,1,none⟩) Hf.o.1).trans Hf.o.2.2⟩);clear a
 go_wp2
 refine b.k Hg.o.2 λd=>?_;refine rd 3 λK b=>?_;go_simp
 go_wp2
 refine (xE).m λo Hl=>?_;subst Hl;have He:=Hj;have Ha:=Hg
 go_wp2
 refine b.k Ha.o.2 λd=>?_;refine rd 6 λK b=>?_;go_simp
 go_wp2
 refine (m.o _ He).m λc a=>?_;have Hc:=He.t a;have Hb:=qI (show w<c.heap.size/\(uU w cp da dn dc) c from⟨Q1 Ha.o.1 a.size,(a.cell (p:=w.heap.size) Ha.o.1).trans Ha.o.2.1,(a.cell (p:=⟨w,1,none⟩) Ha.o.1).trans Ha.o.2.2⟩);clear a
 go_wp2
 refine b.k Hb.o.2 λd=>?_;refine rd 7 λK b=>?_;go_simp
 go_wp2
 have Hi:=qI (Hc.o.alloc Hc.o.size (.cells #[.string ⟨(eI X).toArray⟩,.string ⟨D.toArray⟩] 9));have Hh:=qI (show w.heap.size<(c.alloc (.cells #[.string ⟨(eI X).toArray⟩,.string ⟨D.toArray⟩] 9)).heap.size/\(uU w cp da dn dc) (c.alloc (.cells #[.string ⟨(eI X).toArray⟩,.string ⟨D.toArray⟩] 9)) from⟨Q1 Hb.o.1 (by simp),dI Hb.o.2.1 (.cells #[.string ⟨(eI X).toArray⟩,.string ⟨D.toArray⟩] 9),dI Hb.o.2.2 (.cells #[.string ⟨(eI X).toArray⟩,.string ⟨D.toArray⟩] 9)⟩);refine b.k Hh.o.2 λd=>?_;refine tk 8 ?_;refine Qn (by kernel_rfl) ?_ _
 go_wp2
 go_ret;refine⟨_,rfl,?_,Hi⟩;rw[l.o];exact xZ [eI X,D] c w Hc.o.size (by simp)
def kN (B b:Nat) (l:List UInt8) (w:World):Prop:=Lib.IsBuilderF 245 5 B b (Lib.byteCells l) w
theorem kN.below{b:Nat}{l:List UInt8}(h:kN B b l w)(a:Bw w w'):kN B b l w':=by
 have key:∀p,Lib.BuilderAtF 245 5 B b p (Lib.byteCells l) w->Lib.BuilderAtF 245 5 B b p (Lib.byteCells l) w':=by
  rintro p ⟨d,v,c,e,f⟩;have Ha:=(gS c).1;refine⟨d,v,by rw[a.block b Ha];exact c,?_,f⟩;exact e.kept (row:=none) ⟨a.os,a.tape,a.output,a.size,λj g _=>a.block j g⟩ (by grind)
 rcases h with h|h
 ·exact .inl (key _ h)
 ·exact .inr (key _ h)
abbrev lH:=(.cells #[.pointer none,.slice none 0 0] 245:Obj)
theorem Dx(w:World):kN w w [] (w.alloc (lH)):=Lib.IsBuilderF.of (Lib.fresh_isBuilder _ _ w)
theorem yb{B b:Nat}{l:List UInt8}(s:List UInt8){w:World}(h:kN B b l w)(g:l.length+s.length<=1000000)(d:B<=w) :
  Calls pg 137 #[.pointer (some ⟨b,0,none⟩),.string ⟨s.toArray⟩] w λe w'=>e=.returned (.tuple #[(s.length:Int),.nilIface])/\kN B b (l++s) w'/\Below B w w':=by
 have c:=Any.Builder_WriteString_k (P:=prog) (ρ:=lays156_ren) { lays156 with } Tryz.Builder_Extra_156 B b (Lib.byteCells l) ⟨s.toArray⟩ w h (by
  show (Lib.byteCells l).length+s.toArray.size<=_
  simp[Lib.byteCells];omega) d
 refine c.m λw' ⟨a,f,_⟩=>?_;refine⟨rfl,.inr ?_,f⟩;have e:Lib.byteCells l++Lib.strCells ⟨s.toArray⟩=Lib.byteCells (l++s):=by simp[Lib.byteCells,Lib.strCells]
 rw[e] at a;exact a
theorem Dy{B b:Nat}{l:List UInt8}{w:World}(h:kN B b l w)(a:B<=w) :
  Calls pg 141 #[.pointer (some ⟨b,0,none⟩)] w λe w'=>e=.returned (.string ⟨l.toArray⟩)/\Below B w w':=by
 refine (Tryz.Builder_String_any_k B b l w h a).m λw' ⟨_,c,_⟩=>?_;exact⟨rfl,c⟩
theorem i8.below{ws:List (List UInt8)}(h:i8 base w v ws)(a:Bw w w'):i8 base w' v ws:=xK h a
theorem Dz{v:Value}{ws:List (List UInt8)}{base:Nat}{w:World}(h:i8 base w v ws)(i:ws.length<=20)(a:∀x∈ws,x.length<=400) :
  CB 176 #[v] w (.string ⟨(kE ws).toArray⟩):=by
 have f:(Lib.join ws [32]).length<=8020:=Q5 (ph 32 400 ws a) (by omega);have d:=qI (xL 32 w h (by omega) (by omega));have c:=qF (Lib.join ws [32]) [10];have b:Hu (kE ws=Lib.join ws [32]++[10]):=rfl;generalize kE ws=L at *;generalize Lib.join ws [32]=J at *;clear h a
 go_enter func176,ntmps176
 go_wp2
 refine d.o.m λg Ha=>?_
 go_wp2
 go_ret;exact⟨by rw[b.o];exact congrArg (λx=>Ending.returned (Value.string x)) c,Ha⟩
abbrev pF:=λ(x0:ByteArray) (x1 x2 x3 x4:Int) (x5:Option Addr) (x6 x7:Nat)=>(.cells #[x0,x1,x2,x3,x4,.slice x5 x6 x7] 65:Obj)
abbrev pG:=λ(w:World) (nm:ByteArray) (am ab cm cb:Int) (da:Option Addr) (dn dc:Nat) (w':World)=>cl w' w (0) nm/\cl w' w (1) am/\cl w' w (2) ab/\cl w' w (3) cm/\cl w' w (4) cb/\cl w' w (5) (.slice da dn dc)
theorem OZ{c:aF}{dv:Value}{w:World}(ah:bC w dv c.ds)(o:nD c)(n:cJ w) :
  Calls pg 178 #[.agg #[c.nm,(c.am:Int),(c.ab:Int),(c.cm:Int),(c.cb:Int),dv]] w λe w'=>∃v,e=.returned v/\i8 w w' v (eV c)/\Bw w w':=by
 have g:=qI n;have Hm:=qI (jX ((Q0 w w).alloc (lR) (.cells #[c.nm,(c.am:Int),(c.ab:Int),(c.cm:Int),(c.cb:Int),dv] 65)));obtain⟨_,q,t,u,s,h,l⟩:=o;have x:=qI λW (a:Bw w W)=>OX (ah.below a) l h (g.o.below a);have r:Hu (eV c=[[99,111,110,116],c.nm.data.toList,aO c.am,aO c.ab,aO c.cm,aO c.cb,kD c.ds]):=rfl;have y:Hu (ByteArray.mk c.nm.data.toList.toArray=c.nm):=by unfold Hu;simp
 obtain⟨da,dc,rfl,_⟩:=ah;clear n l h;generalize kD c.ds=D at *;generalize c.ds.length=dn at *;generalize eV c=z at *;generalize c.nm=nm at *;generalize c.am=am at *;generalize c.ab=ab at *;generalize c.cm=cm at *;generalize c.cb=cb at *
 go_enter func178,ntmps178
 go_wp2
 have Hg:=qI (show w.heap.size<(w.alloc (pF nm am ab cm cb da dn dc)).drew.heap.size/\(w.alloc (pF nm am ab cm cb da dn dc)).drew.cell? w=some (.string nm)/\(w.alloc (pF nm am ab cm cb da dn dc)).drew.cell? ⟨w,1,none⟩=some (.int .i64 am)/\(w.alloc (pF nm am ab cm cb da dn dc)).drew.cell? ⟨w,2,none⟩=some (.int .i64 ab)/\(w.alloc (pF nm am ab cm cb da dn dc)).drew.cell? ⟨w,3,none⟩=some (.int .i64 cm)/\(w.alloc (pF nm am ab cm cb da dn dc)).drew.cell? ⟨w,4,none⟩=some (.int .i64 cb)/\(w.alloc (pF nm am ab cm cb da dn dc)).drew.cell? ⟨w,5,none⟩=some (.slice da dn dc) from⟨by simp,by simp,by simp,by simp,by simp,by simp,by simp⟩);refine wp_region_held_drew (S:=pG w nm am ab cm cb da dn dc) (by kernel_rfl) Hg.o.2 λd=>?_;refine tk 0 ?_;refine tk 1 ?_;refine tk 2 ?_;refine tk 3 ?_;refine tk 4 ?_;refine tk 6 ?_;refine tk 7 ?_;refine tk 8 ?_;refine tk 10 ?_;refine tk 11 ?_;refine tk 12 ?_;refine tk 14 ?_;refine tk 15 ?_;refine tk 16 ?_;refine tk 18 ?_;refine tk 19 ?_;refine rd 5 λK b=>?_;go_simp
 go_wp2
 refine (qM am q.1 (by omega) (g.o.below Hm)).m λk a=>?_;have Hk:=Hm.t a;have Hb:=qI (show w<k.heap.size/\(pG w nm am ab cm cb da dn dc) k from⟨Q1 Hg.o.1 a.size,(a.cell (p:=w.heap.size) Hg.o.1).trans Hg.o.2.1,(a.cell (p:=⟨w,1,none⟩) Hg.o.1).trans Hg.o.2.2.1,(a.cell (p:=⟨w,2,none⟩) Hg.o.1).trans Hg.o.2.2.2.1,(a.cell (p:=⟨w,3,none⟩) Hg.o.1).trans Hg.o.2.2.2.2.1,(a.cell (p:=⟨w,4,none⟩) Hg.o.1).trans Hg.o.2.2.2.2.2.1,(a.cell (p:=⟨w,5,none⟩) Hg.o.1).trans Hg.o.2.2.2.2.2.2⟩)
 
 clear a
 go_wp2
 refine b.k Hb.o.2 λd=>?_;refine rd 9 λK b=>?_;go_simp
 go_wp2
 refine (qM ab t.1 (by omega) (g.o.below Hk)).m λm a=>?_;have Hl:=Hk.t a;have He:=qI (show w<m.heap.size/\(pG w nm am ab cm cb da dn dc) m from⟨Q1 Hb.o.1 a.size,(a.cell (p:=w.heap.size) Hb.o.1).trans Hb.o.2.1,(a.cell (p:=⟨w,1,none⟩) Hb.o.1).trans Hb.o.2.2.1,(a.cell (p:=⟨w,2,none⟩) Hb.o.1).trans Hb.o.2.2.2.1,(a.cell (p:=⟨w,3,none⟩) Hb.o.1).trans Hb.o.2.2.2.2.1,(a.cell (p:=⟨w,4,none⟩) Hb.o.1).trans Hb.o.2.2.2.2.2.1,(a.cell (p:=⟨w,5,none⟩) Hb.o.1).trans Hb.o.2.2.2.2.2.2⟩)
 
 clear a
 go_wp2
 refine b.k He.o.2 λd=>?_;refine rd 13 λK b=>?_;go_simp
 go_wp2
 refine (qM cm u.1 (by omega) (g.o.below Hl)).m λj a=>?_;have Hi:=Hl.t a;have Hc:=qI (show w<j.heap.size/\(pG w nm am ab cm cb da dn dc) j from⟨Q1 He.o.1 a.size,(a.cell (p:=w.heap.size) He.o.1).trans He.o.2.1,(a.cell (p:=⟨w,1,none⟩) He.o.1).trans He.o.2.2.1,(a.cell (p:=⟨w,2,none⟩) He.o.1).trans He.o.2.2.2.1,(a.cell (p:=⟨w,3,none⟩) He.o.1).trans He.o.2.2.2.2.1,(a.cell (p:=⟨w,4,none⟩) He.o.1).trans He.o.2.2.2.2.2.1,(a.cell (p:=⟨w,5,none⟩) He.o.1).trans He.o.2.2.2.2.2.2⟩)
 
 clear a
 go_wp2
 refine b.k Hc.o.2 λd=>?_;refine rd 17 λK b=>?_;go_simp
 go_wp2
 refine (qM cb s.1 (by omega) (g.o.below Hi)).m λi a=>?_;have Hh:=Hi.t a;have Ha:=qI (show w<i.heap.size/\(pG w nm am ab cm cb da dn dc) i from⟨Q1 Hc.o.1 a.size,(a.cell (p:=w.heap.size) Hc.o.1).trans Hc.o.2.1,(a.cell (p:=⟨w,1,none⟩) Hc.o.1).trans Hc.o.2.2.1,(a.cell (p:=⟨w,2,none⟩) Hc.o.1).trans Hc.o.2.2.2.1,(a.cell (p:=⟨w,3,none⟩) Hc.o.1).trans Hc.o.2.2.2.2.1,(a.cell (p:=⟨w,4,none⟩) Hc.o.1).trans Hc.o.2.2.2.2.2.1,(a.cell (p:=⟨w,5,none⟩) Hc.o.1).trans Hc.o.2.2.2.2.2.2⟩)
 
 clear a
 go_wp2
 refine b.k Ha.o.2 λd=>?_;refine rd 20 λK b=>?_;go_simp
 go_wp2
 refine (x.o _ Hh).m λf a=>?_;have Hj:=Hh.t a;have Hf:=qI (show w<f.heap.size/\(pG w nm am ab cm cb da dn dc) f from⟨Q1 Ha.o.1 a.size,(a.cell (p:=w.heap.size) Ha.o.1).trans Ha.o.2.1,(a.cell (p:=⟨w,1,none⟩) Ha.o.1).trans Ha.o.2.2.1,(a.cell (p:=⟨w,2,none⟩) Ha.o.1).trans Ha.o.2.2.2.1,(a.cell (p:=⟨w,3,none⟩) Ha.o.1).trans Ha.o.2.2.2.2.1,(a.cell (p:=⟨w,4,none⟩) Ha.o.1).trans Ha.o.2.2.2.2.2.1,(a.cell (p:=⟨w,5,none⟩) Ha.o.1).trans Ha.o.2.2.2.2.2.2⟩)
 
 clear a
 go_wp2
 refine b.k Hf.o.2 λd=>?_;refine rd 21 λK b=>?_;go_simp
 go_wp2
 have Ho:=qI (Hj.o.alloc Hj.o.size (.cells #[.string ⟨#[99,111,110,116]⟩,nm,.string ⟨(aO am).toArray⟩,.string ⟨(aO ab).toArray⟩,.string ⟨(aO cm).toArray⟩,.string ⟨(aO cb).toArray⟩,.string ⟨D.toArray⟩] 9));have Hn:=qI (show w.heap.size<(f.alloc (.cells #[.string ⟨#[99,111,110,116]⟩,nm,.string ⟨(aO am).toArray⟩,.string ⟨(aO ab).toArray⟩,.string ⟨(aO cm).toArray⟩,.string ⟨(aO cb).toArray⟩,.string ⟨D.toArray⟩] 9)).heap.size/\(pG w nm am ab cm cb da dn dc) (f.alloc (.cells #[.string ⟨#[99,111,110,116]⟩,nm,.string ⟨(aO am).toArray⟩,.string ⟨(aO ab).toArray⟩,.string ⟨(aO cm).toArray⟩,.string ⟨(aO cb).toArray⟩,.string ⟨D.toArray⟩] 9)) from⟨Q1 Hf.o.1 (by simp),dI Hf.o.2.1 (.cells #[.string ⟨#[99,111,110,116]⟩,nm,.string ⟨(aO am).toArray⟩,.string ⟨(aO ab).toArray⟩,.string ⟨(aO cm).toArray⟩,.string ⟨(aO cb).toArray⟩,.string ⟨D.toArray⟩] 9),dI Hf.o.2.2.1 (.cells #[.string ⟨#[99,111,110,116]⟩,nm,.string ⟨(aO am).toArray⟩,.string ⟨(aO ab).toArray⟩,.string ⟨(aO cm).toArray⟩,.string ⟨(aO cb).toArray⟩,.string ⟨D.toArray⟩] 9),dI Hf.o.2.2.2.1 (.cells #[.string ⟨#[99,111,110,116]⟩,nm,.string ⟨(aO am).toArray⟩,.string ⟨(aO ab).toArray⟩,.string ⟨(aO cm).toArray⟩,.string ⟨(aO cb).toArray⟩,.string ⟨D.toArray⟩] 9),dI Hf.o.2.2.2.2.1 (.cells #[.string ⟨#[99,111,110,116]⟩,nm,.string ⟨(aO am).toArray⟩,.string ⟨(aO ab).toArray⟩,.string ⟨(aO cm).toArray⟩,.string ⟨(aO cb).toArray⟩,.string ⟨D.toArray⟩] 9),dI Hf.o.2.2.2.2.2.1 (.cells #[.string ⟨#[99,111,110,116]⟩,nm,.string ⟨(aO am).toArray⟩,.string ⟨(aO ab).toArray⟩,.string ⟨(aO cm).toArray⟩,.string ⟨(aO cb).toArray⟩,.string ⟨D.toArray⟩] 9),dI Hf.o.2.2.2.2.2.2 (.cells #[.string ⟨#[99,111,110,116]⟩,nm,.string ⟨(aO am).toArray⟩,.string ⟨(aO ab).toArray⟩,.string ⟨(aO cm).toArray⟩,.string ⟨(aO cb).toArray⟩,.string ⟨D.toArray⟩] 9)⟩);refine b.k Hn.o.2 λd=>?_;refine tk 22 ?_;refine Qn (by kernel_rfl) ?_ _
 go_wp2
 go_ret;refine⟨_,rfl,?_,Ho⟩;rw[r.o]
 have:=xZ [[99,111,110,116],nm.data.toList,aO am,aO ab,aO cm,aO cb,D] f w Hj.o.size (by simp)
 unfold dP at this;simp only[Qq,List.map_nil] at this;exact this
theorem O0{h k:Nat}{gs:List aX}{a:Value}{w:World}(q:w.cell? ⟨h,3,none⟩=some a)(p:ce w a gs)(f:k<gs.length)(g:pd (aG gs k))(i:cJ w) :
  Calls pg 139 #[.int .i64 k,.pointer (some ⟨h,0,none⟩)] w λe w'=>∃v,e=.returned v/\i8 w w' v (eJ (aG gs k))/\Bw w w':=by
 obtain⟨s,c,rfl,n,j⟩:=p;obtain⟨b,o,dv,rfl,Ha⟩:=j (by omega);obtain⟨c0,c1⟩:=Ha.at f;have m:=qI (OY (Ha.2 k f).2 g i);obtain⟨da,dc,ah⟩:=(Ha.2 k f).2.slice;unfold maxLen at n;clear Ha g i j;generalize eJ (aG gs k)=r at *;generalize (aG gs k).cp=cp at *;generalize (aG gs k).dv.length=dn at *;generalize dv k=d at *;subst ah
 go_enter func139,ntmps139
 go_wp2
 refine m.o.mono ?_;rintro e t ⟨v,rfl,l,Hb⟩
 go_wp2
 go_ret;exact⟨v,rfl,l,Hb⟩
theorem O3{a b:List (List UInt8)}(h:w.ownsRow base 9 1 v (a.length+b.length) (dP a++dP b)):i8 base w v (a++b):=by
 grind[i8,dP]
theorem O4(c:aF)(g:aX):(eV c++eJ g).length=9:=rfl
abbrev nR:=λ(x0:ByteArray) (x1:Int) (x2:Nat) (x3:Option Addr) (x4:Nat)=>(.cells #[x0,x1,.slice x3 x2 x4] 49:Obj)
abbrev sM:=λ(w:World) (nm:ByteArray) (pr:Int) (ao:Option Addr) (y4 c:Nat) (w':World)=>cl w' w (0) nm/\cl w' w (1) pr/\cl w' w (2) (.slice ao y4 c)
theorem O5{h:ae}{cv s:Value}{a:Nat}{w:World}(hc:ba w cv h.pod.cs)(f:w.cell? ⟨a,3,none⟩=some s)(Y:ce w s h.gs)(D:mv h)(E:cJ w) :
  CB 138 #[cQ h.pod cv,.func (.func 139) #[] #[.pointer (some ⟨a,0,none⟩)]] w (.string ⟨(jn h).toArray⟩):=by
 obtain⟨i0,hi,hC,hG,hv⟩:=info_parts uJ;have hH:=qI λk (t:k<h.gs.length) W (hbw:Bw w W)=>O0 ((hbw.cell (p:=⟨a,3,none⟩) (Q3 w _ f)).trans f) (Y.below hbw) t (D.2.2 _ (uz t)) (E.below hbw);have N:=qI λk (t:k<h.pod.cs.length) d W (ah:bC W d (af h.pod.cs k).ds) (hbw:Bw w W)=>OZ ah (D.1.2.2.2 _ (mw t)) (E.below hbw);have q:=qI D;have HT:=qI E;obtain⟨g,c,rfl,hm,hr⟩:=hc;have HR:=qI hr;clear hr E Y f D;unfold maxLen at hm;unfold cQ;have hR:=q.o.1.2.2.1;have hP:=q.o.2.1;have C:=qI (jX (((Q0 w w).alloc (lR) (nR h.pod.nm h.pod.pr h.pod.cs.length g c)).alloc (by simp) (lH)));have HE:=qI ((Dx (w.alloc (nR h.pod.nm h.pod.pr h.pod.cs.length g c))).below (jX (Q0 _ _)));have HN:Hu (ByteArray.mk h.pod.nm.data.toList.toArray=h.pod.nm):=by unfold Hu;simp
 have HW:=q.o.1.2.1
 go_enter func138,ntmps138
 go_wp2
 have Hf:=qI (show w.heap.size<((w.alloc (nR h.pod.nm h.pod.pr h.pod.cs.length g c)).alloc (lH)).drew.heap.size/\((w.alloc (nR h.pod.nm h.pod.pr h.pod.cs.length g c)).alloc (lH)).drew.cell? w=some (.string h.pod.nm)/\((w.alloc (nR h.pod.nm h.pod.pr h.pod.cs.length g c)).alloc (lH)).drew.cell? ⟨w,1,none⟩=some (.int .i64 h.pod.pr)/\((w.alloc (nR h.pod.nm h.pod.pr h.pod.cs.length g c)).alloc (lH)).drew.cell? ⟨w,2,none⟩=some (.slice g h.pod.cs.length c) from⟨by simp;omega,by simp,by simp,by simp⟩);have Hw:Hu (kN (w.heap.size+1) (w.heap.size+1) [] ((w.alloc (nR h.pod.nm h.pod.pr h.pod.cs.length g c)).alloc (lH)).drew):=by simp_all
 clear HE;have he:Hu (gW h.pod=[[112,111,100],h.pod.nm.data.toList,aO h.pod.pr]):=rfl;have hA:=xi q.o.1;have hI:Hu (jn h=kF h.pod++fV h h.pod.cs.length):=rfl;have H0:Hu (∀v W,i8 w W v (gW h.pod)->CB 176 #[v] W (.string ⟨(kF h.pod).toArray⟩)):=λv W M=>Dz M (by simp[gW]) (λx hx=>by have:=BZ q.o.1 x hx;omega)
 generalize kF h.pod=B at *;generalize gW h.pod=PW at *;generalize ((w.alloc (nR h.pod.nm h.pod.pr h.pod.cs.length g c)).alloc (lH))=U0 at *;generalize h.pod.nm=nm at *;generalize h.pod.pr=pr at *;refine wp_region_held_drew (S:=sM w nm pr g h.pod.cs.length c) (by kernel_rfl) Hf.o.2 λz=>?_;refine tk 0 ?_;refine tk 1 ?_;refine tk 2 ?_;refine tk 3 ?_;refine rd 4 λK l=>?_;go_simp
 go_wp2
 refine (qM _ HW.1 (by omega) (HT.o.below C)).m λr a=>?_;have Hg:=C.t a;have Hc:=qI (show w<r.heap.size/\(sM w nm pr g h.pod.cs.length c) r from⟨Q1 Hf.o.1 a.size,(a.cell (p:=w.heap.size) Hf.o.1).trans Hf.o.2.1,(a.cell (p:=⟨w,1,none⟩) Hf.o.1).trans Hf.o.2.2.1,(a.cell (p:=⟨w,2,none⟩) Hf.o.1).trans Hf.o.2.2.2⟩);have Ho:=qI (Hw.o.below a);clear a
 go_wp2
 refine l.k Hc.o.2 λz=>?_;refine rd 5 λK l=>?_;go_simp
 go_wp2
 have Hl:=qI (Hg.o.alloc Hg.o.size (.cells #[.string ⟨#[112,111,100]⟩,nm,.string ⟨(aO pr).toArray⟩] 9));have Ha:=qI (show w.heap.size<(r.alloc (.cells #[.string ⟨#[112,111,100]⟩,nm,.string ⟨(aO pr).toArray⟩] 9)).heap.size/\(sM w nm pr g h.pod.cs.length c) (r.alloc (.cells #[.string ⟨#[112,111,100]⟩,nm,.string ⟨(aO pr).toArray⟩] 9)) from⟨Q1 Hc.o.1 (by simp),dI Hc.o.2.1 (.cells #[.string ⟨#[112,111,100]⟩,nm,.string ⟨(aO pr).toArray⟩] 9),dI Hc.o.2.2.1 (.cells #[.string ⟨#[112,111,100]⟩,nm,.string ⟨(aO pr).toArray⟩] 9),dI Hc.o.2.2.2 (.cells #[.string ⟨#[112,111,100]⟩,nm,.string ⟨(aO pr).toArray⟩] 9)⟩);have Ht:=qI (Ho.o.below ((Q0 _ _).alloc (lR) (.cells #[.string ⟨#[112,111,100]⟩,nm,.string ⟨(aO pr).toArray⟩] 9)));have H1:Hu (i8 w (r.alloc (.cells #[.string ⟨#[112,111,100]⟩,nm,.string ⟨(aO pr).toArray⟩] 9)) (.slice r 3 3) PW):=by unfold Hu;rw[he.o];exact xZ [[112,111,100],nm.data.toList,aO pr] r w Hg.o.size (by simp)
 refine l.k Ha.o.2 λz=>?_;refine rd 6 λK l=>?_;go_simp
 go_wp2
 refine (H0.o _ _ H1).m λZ a=>?_;have Hv:=Hl.t a;have Hb:=qI (show w<Z.heap.size/\(sM w nm pr g h.pod.cs.length c) Z from⟨Q1 Ha.o.1 a.size,(a.cell (p:=w.heap.size) Ha.o.1).trans Ha.o.2.1,(a.cell (p:=⟨w,1,none⟩) Ha.o.1).trans Ha.o.2.2.1,(a.cell (p:=⟨w,2,none⟩) Ha.o.1).trans Ha.o.2.2.2⟩);have Hp:=qI (Ht.o.below a);clear a
 go_wp2
 refine l.k Hb.o.2 λz=>?_;refine rd 7 λK l=>?_;go_simp
 go_wp2
 refine (yb B Hp (Q5 (Nat.le_of_eq (Qd _)) (Q5 hA (by decide))) (Nat.succ_le_of_lt Hb.o.1)).m λH ⟨HV,Hn⟩=>?_;have Hz:=qI (Hv.o.trans (Hn.mono (Nat.le_succ _)));have Hh:=qI (show w<H.heap.size/\(sM w nm pr g h.pod.cs.length c) H from⟨Q1 Hb.o.1 Hn.size,(Hn.cell (p:=w.heap.size) (Nat.lt_succ_self _)).trans Hb.o.2.1,(Hn.cell (p:=⟨w,1,none⟩) (Nat.lt_succ_self _)).trans Hb.o.2.2.1,(Hn.cell (p:=⟨w,2,none⟩) (Nat.lt_succ_self _)).trans Hb.o.2.2.2⟩);have Hr:=qI HV;clear HV Hn
 go_wp2
 refine l.k Hh.o.2 λz=>?_;refine Qn (by kernel_rfl) ?_ _;have hO:=Hh.o.2.2.2;have hp:Hu (kN (w.heap.size+1) (w.heap.size+1) B H):=Hr.o;have hu:=Hz;have hL:=qI (Nat.succ_le_of_lt Hh.o.1);clear z Hg Hc Ho Hl Ha Ht H1 Hv Hb Hp Hz Hh Hr Hf Hw C H0 he HN HW;have T:=qI (xj q)
 go_wp2
 go_loopw [19] (λi wr=>∃k:Nat,k<=h.pod.cs.length/\i=.int .i64 k/\Bw w wr/\kN (w.heap.size+1) (w.heap.size+1) (B++fV h k) wr/\Hu (w+1<=wr.heap.size)) (λi _=>h.pod.cs.length - (intOf i).toNat)
 exact⟨0,Nat.zero_le _,rfl,hu,by rw[fV,List.append_nil];exact hp.o,hL⟩
 ·obtain⟨k,t,rfl,y,G,R⟩:=hrel
  by_cases m:k<h.pod.cs.length
  ·obtain⟨b,o,dv,rfl,Hx⟩:=HR.o (by omega);have Hx:=Hx.below y;obtain⟨c0,c1,c2,c3,c4,c5⟩:=Hx.at m;have HY:=(Hx.2 k m).2;have A:=qI ((Q0 wr wr).alloc (lR) (.cells #[(af h.pod.cs k).nm,((af h.pod.cs k).am:Int),((af h.pod.cs k).ab:Int),((af h.pod.cs k).cm:Int),((af h.pod.cs k).cb:Int),dv k] 65));have Hs:=qI (y.trans (A.o.mono y.size));have HL:=qI (G.below A);have HC:=qI (N.o k m (dv k) _ (HY.below A) Hs);have HG:=qI λW (a:Bw w W)=>hH.o k (by omega) W a;obtain⟨U,Q⟩:=uA q m;have hF:Hu (∀v W base,i8 base W v (eV (af h.pod.cs k)++eJ (aG h.gs k))->CB 176 #[v] W (.string ⟨(mu (af h.pod.cs k) (aG h.gs k)).toArray⟩)):=λv W base M=>Dz M (by rw[O4];decide) (λx hx=>by
    grind[BX,BY])
   have hS:=B0 U Q;have hT:=T.o k t;have hE:Hu (fV h (k+1)=fV h k++mu (af h.pod.cs k) (aG h.gs k)):=rfl;have hh:Hu ((eV (af h.pod.cs k)).length=7):=rfl;have J:Hu ((eJ (aG h.gs k)).length=2):=rfl;obtain⟨da,dc,hs,_⟩:=HY;clear Hx U Q N G y T;generalize mu (af h.pod.cs k) (aG h.gs k)=CL at *;generalize fV h k=CT at *;generalize eV (af h.pod.cs k)=L at *;generalize eJ (aG h.gs k)=n at *;generalize (af h.pod.cs k).nm=hU at *;generalize (af h.pod.cs k).am=am at *;generalize (af h.pod.cs k).ab=ab at *;generalize (af h.pod.cs k).cm=cm at *;generalize (af h.pod.cs k).cb=cb at *;generalize (af h.pod.cs k).ds.length=dn at *;generalize dv k=d at *;subst hs;have hM:(B++CT).length+CL.length<=1000000:=by grind
   go_wp2
   refine HC.o.mono ?_;rintro e W1 ⟨v1,rfl,H9,Hq⟩;have O:=qI Hq;have hq:=qI H9;have HK:=Hs.t Hq;clear Hq H9
   go_wp2
   refine (HG.o _ HK).mono ?_;rintro e W2 ⟨v2,rfl,H7,HS⟩;have I:=hq.o.below HS;have H8:=O.t HS;clear HS;obtain⟨rfl,X⟩|⟨g2,cap2,rfl,ha,hN,Hk⟩:=xG H7
   ·rw[J.o] at X;cases X
   have Hj:∀j u,(dP n)[j]?=some u->W2.cell? ((g2:Addr).add j)=some u:=λj u P=>by simp_all[Addr.add_lit]
   have hf:=qI H8.o.size;have hl:L.length+n.length<=maxLen:=by rw[hh.o,J.o];decide
   have HQ:(L.length+n.length)*16<=140737488355328:=by rw[hh.o,J.o];decide
   go_wp2_with (at_builtin;refine wpList_append_own _ rfl _ _ 105 rfl _ 9 i0 (.string ⟨#[]⟩) 1 16 underlying105 hi hC hG hv rfl (by decide) _ _ _ rfl I g2 n.length cap2 (dP n) rfl (by simp[dP]) Hj (sB n) hl HQ hf ?_;intro v' W3 Hi He _)
   have hy:Hu (i8 _ W3 v' (L++n)):=qI (O3 Hi);have V:=qI (H8.o.grown He hf λj P=>(World.ownsRow.lt I j P).1);clear Hi He I H7 Hk Hj
   go_wp2
   refine (hF.o _ _ _ hy).m λW4 H2=>?_;have Hm:=V.t H2;have HI:=qI (HL.o.below Hm);have HF:=Hs.t Hm;have H4:=Q5 R (Q5 A.o.size Hm.o.size);clear H2
   go_wp2
   refine (yb _ HI hM H4).m λW5 ⟨Hy,F⟩=>?_;have hn:=qI (HF.o.trans (F.mono (Nat.le_succ _)));have hz:=qI (Q5 H4 F.size);have HJ:=qI Hy;clear Hy F
   go_wp2
   go_roundw
   exact⟨k+1,by omega,by go_num,hn,by rw[hE.o,<- List.append_assoc];exact HJ.o,hz⟩
   simp[intOf];omega
  ·have hJ:k=h.pod.cs.length:=by omega
   subst hJ
   go_wp2
   refine (Dy G R).m λW1 Hq=>?_;have hD:=y.trans (Hq.mono (Nat.le_succ _))
   go_wp2
   go_ret;exact⟨by rw[hI.o];rfl,hD⟩
section
open Go.ChangeShapes Go.WideShapes Go.ChangeAt Go.RowKit
theorem O6:ownKnob prog.godebug=none:=by kernel_rfl
theorem DA:laidOutB prog=true:=by kernel_rfl
theorem O7:(prog.globals[1]?).map (·.type)=some 396:=by kernel_rfl
theorem O8:prog.cellsOf 396=20:=by kernel_rfl
theorem O9:prog.cellsOf 23=1:=by kernel_rfl
theorem Pa:(Rows.laid_internal_strconv_uint64pow10:DataW Unit)=Lib.tabData .u64 Lib.pow10Tab:=by kernel_rfl
def Pb:Array Value:=#[.int .u8 0,.int .u8 1,.int .u8 28,.int .u8 2,.int .u8 29,.int .u8 14,.int .u8 24,.int .u8 3,.int .u8 30,.int .u8 22,.int .u8 20,.int .u8 15,.int .u8 25,.int .u8 17,.int .u8 4,.int .u8 8,.int .u8 31,.int .u8 27,.int .u8 13,.int .u8 23,.int .u8 21,.int .u8 19,.int .u8 16,.int .u8 7,.int .u8 26,.int .u8 12,.int .u8 18,.int .u8 6,.int .u8 11,.int .u8 5,.int .u8 10,.int .u8 9]
def Pc:Array Value:=#[.int .u8 0,.int .u8 1,.int .u8 56,.int .u8 2,.int .u8 57,.int .u8 49,.int .u8 28,.int .u8 3,.int .u8 61,.int .u8 58,.int .u8 42,.int .u8 50,.int .u8 38,.int .u8 29,.int .u8 17,.int .u8 4,.int .u8 62,.int .u8 47,.int .u8 59,.int .u8 36,.int .u8 45,.int .u8 43,.int .u8 51,.int .u8 22,.int .u8 53,.int .u8 39,.int .u8 33,.int .u8 30,.int .u8 24,.int .u8 18,.int .u8 12,.int .u8 5,.int .u8 63,.int .u8 55,.int .u8 48,.int .u8 27,.int .u8 60,.int .u8 41,.int .u8 37,.int .u8 16,.int .u8 46,.int .u8 35,.int .u8 44,.int .u8 21,.int .u8 52,.int .u8 32,.int .u8 23,.int .u8 11,.int .u8 54,.int .u8 26,.int .u8 40,.int .u8 15,.int .u8 34,.int .u8 20,.int .u8 31,.int .u8 10,.int .u8 25,.int .u8 14,.int .u8 19,.int .u8 9,.int .u8 13,.int .u8 8,.int .u8 7,.int .u8 6]
def Pd:Array Value:=#[.int .u8 128,.int .u8 191,.int .u8 160,.int .u8 191,.int .u8 128,.int .u8 159,.int .u8 144,.int .u8 191,.int .u8 128,.int .u8 143,.int .u8 0,.int .u8 0,.int .u8 0,.int .u8 0,.int .u8 0,.int .u8 0,.int .u8 0,.int .u8 0,.int .u8 0,.int .u8 0,.int .u8 0,.int .u8 0,.int .u8 0,.int .u8 0,.int .u8 0,.int .u8 0,.int .u8 0,.int .u8 0,.int .u8 0,.int .u8 0,.int .u8 0,.int .u8 0]
theorem mxV(a:W.ShapedOpen prog):dH W:=laysM219.s1_3 W a
theorem Pe{rest : List (String × DataW Unit)}(h : laidMet prog (("math/bits.deBruijn32tab", Rows.laid_math_bits_deBruijn32tab) :: ("math/bits.deBruijn64tab", Rows.laid_math_bits_deBruijn64tab) :: ("internal/strconv.uint64pow10", Rows.laid_internal_strconv_uint64pow10) :: rest) W) : cJ W := by
 have h2:=laidMet.tail (laidMet.tail h);rw[Pa] at h2;have ht:kG W:=Lib.tabIs_of_head uI O7 underlying396 underlying23 O9 O8 h2;exact⟨ht,Q3 W ⟨1,0,none⟩ (ht.cell uI 0 (by decide))⟩
noncomputable def ye (os:Os):World:=
 { World.holding prog os ⟨#[],#[],[]⟩ with heap:=((((((World.holding prog os ⟨#[],#[],[]⟩).heap.modify 1 fun
   | .cells _ t frozen=>.cells (Lib.pow10Tab.map (Value.int .u64)).toArray t frozen
   | o=>o).modify 2 fun
   | .cells _ t frozen=>.cells Pb t frozen
   | o=>o).modify 3 fun
   | .cells _ t frozen=>.cells Pc t frozen
   | o=>o).modify 5 fun
   | .cells _ t frozen=>.cells Pd t frozen
   | o=>o).modify 4 fun
   | .cells _ t frozen=>.cells (Go.Pinned.utf8FirstZ.map λ(n:Nat)=>Value.int .u8 (n:Int)).toArray t frozen
   | o=>o) }
end
def jv (hs:List ae):Value:=if bS hs=0 then .tuple #[.string ⟨(bw hs).toArray⟩,.nilIface] else .tuple #[.string ⟨#[]⟩,aD (bS hs:Nat)]
theorem Pf(hs:List ae)(k:Nat):iA hs (k+1)=iA hs k++jn (ah hs k):=rfl
theorem uV{v:Value}{hs:List ae}{w:World}(h:bf w v hs)(p:cJ w):CB 95 #[v] w (jv hs):=by
 have Hi:=qI (OU (v:=v) (hs:=hs) (w:=w) h)
 by_cases hf:bS hs=0
 ·have j:Hu (jv hs=.tuple #[.string ⟨(bw hs).toArray⟩,.nilIface]):=by grind[Hu,jv]
  have Hh:=si hf h.cps;have y:aD ((bS hs:Nat):Int)=.nilIface:=by rw[hf];rfl
  have Q:=qI h;have s:=qI p;have Y:=qI Hh;obtain⟨U,c,rfl,x,_⟩:=h;have HM:=Hh.1;unfold maxLen at x;have I:Hu (bw hs=dL hs++dZ (dL hs)):=rfl;have Hw:Hu (dL hs=iA hs hs.length):=rfl;have Hg:=qI (B5 Hh);have Hr:=qI (sj (dL hs));clear p Hh
  go_enter func95,ntmps95
  go_wp2
  refine Hi.o.m λa Hf=>?_;rw[y];have Hs:=qI Hf;have L:=qI (Hf.alloc Hf.size (lH));have A:=qI (Dx a);have H:Hu (a.heap.size<=(a.alloc (lH)).heap.size):=by unfold Hu;simp
  clear Hf Hi
  go_wp2
  go_loopw [16] (λi wr=>∃k:Nat,k<=hs.length/\i=.int .i64 k/\Bw w wr/\kN a a (iA hs k) wr/\Hu (a<=wr.heap.size)) (λi _=>hs.length - (intOf i).toNat)
  exact⟨0,Nat.zero_le _,rfl,L,A,H⟩
  ·obtain⟨k,D,rfl,g,Hb,r⟩:=hrel
   by_cases d:k<hs.length
   ·obtain⟨_,_,z,_,u⟩:=Q.o.below g;cases z;obtain⟨b,o,cv,f,rfl,Hl⟩:=u (by omega);obtain⟨c0,c1,c2,c3⟩:=Hl.at d;obtain⟨_,m,n⟩:=Hl.2 k d;have Hc:=qI ((Q0 wr wr).alloc (lR) (.cells #[(ah hs k).pod.nm,((ah hs k).pod.pr:Int),cv k,f k] 101));have Hm:=qI (g.trans (Hc.o.mono g.size));have Hk:=qI (Hb.below Hc);have q:=Y.o.2 _ (nF d);have Hx:=qI (O5 (h:=ah hs k) (cv:=cv k) (s:=f k) (a:=wr.heap.size) (m.below Hc) (by simp) (n.below Hc) q (s.o.below Hm));unfold cQ at Hx;have Z:=B4 q;have Ht:=Hg.o k D;have E:=qI (Pf hs k);obtain⟨ca,cc,S⟩:=m.sl;obtain⟨ga,gc,J⟩:=n.sl;clear Hl m n g Hb q u Hg;generalize iA hs k=R at *;generalize jn (ah hs k)=G at *;generalize (ah hs k).pod.nm=nm at *;generalize (ah hs k).pod.pr=pr at *;generalize (ah hs k).pod.cs.length=cl at *;generalize (ah hs k).gs.length=gl at *;generalize cv k=P at *;generalize f k=B at *;subst S J;have V:R.length+G.length<=1000000:=by omega
    go_wp2
    refine Hx.o.m λX He=>?_;have Ho:=Hm.t He;have Hp:=qI (Hk.o.below He);have Hv:=Q5 r (Q5 Hc.o.size He.size);clear He
    go_wp2
    refine (yb _ Hp V Hv).m λW5 ⟨Ha,Hn⟩=>?_;have F:=qI (Ho.o.trans (Hn.mono Hs.o.size));have T:=qI (Q5 Hv Hn.size);have Hq:=qI Ha;clear Ha Hn
    go_wp2
    go_roundw
    exact⟨k+1,by omega,by go_num,F,by rw[E.o];exact Hq.o,T⟩
    simp[intOf];omega
   ·have M:k=hs.length:=by omega
    subst M;have Ht:=Hg.o _ (lR);rw[<- Hw.o] at Hb Ht;have HS:=Hr.o;have N:Hu (∀W,Bw w W->CB 142 #[.string ⟨(dL hs).toArray⟩] W (.string ⟨(dZ (dL hs)).toArray⟩)):=λW l=>CA _ (w:=W) (by omega) (s.o.below l).1
    clear Hw Hr Hg;generalize dZ (dL hs)=C at *;generalize dL hs=K at *;have O:=qF K C
    go_wp2
    refine (Dy Hb r).m λX Hz=>?_;have Hj:=qI (g.trans (Hz.mono Hs.o.size));clear Hz g Hb
    go_wp2
    refine (N.o _ Hj).m λW2 Hy=>?_;have Ho:=Hj.t Hy;clear Hy
    go_wp2
    go_ret2;refine⟨?_,Ho⟩;rw[j.o,I.o,<- O];rfl
 ·have j:Hu (jv hs=.tuple #[.string ⟨#[]⟩,aD (bS hs:Nat)]):=by grind[Hu,jv]
  have t:=qI (eW hf);obtain⟨U,c,rfl,x,_⟩:=h;clear p
  go_enter func95,ntmps95
  go_wp2
  refine Hi.o.m λa l=>?_;rw[t.o]
  go_wp2
  go_ret2;exact⟨by rw[j.o,t.o];rfl,l⟩
