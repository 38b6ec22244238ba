import Derived.Test.YtjlblidnfebmiaaGreatDoorY5
import Derived.Test.YtjlblidnfebmiaaGreatDoorY11
import Derived.Deep.AppendLies
import Derived.Shelf.Lay
import Derived.Shelf.Spec.SlicesGrow
import Derived.Sort.OwnSortedInts
import Derived.Ground.NamesProg
import Derived.BigRegion
import Derived.Laws.AppendOwnNone
set_option maxRecDepth 100000
set_option maxHeartbeats 16000000
open Go Go.RowKit Go.Shelf
open Go.Proofs.Tryz
namespace Go.Proofs.YtjlblidnfebmiaaGreatDoor
variable{ao:Option Addr}{c db g o pb:Nat}{ds:List aq}{l:List Int}{us:Nat->Bool}{v:Value}{w w':World}
theorem uP{x:UInt8}{w:World}:CE 119 #[.int .u8 x.toNat] w (.bool (qm x)):=by
 unfold qm
 by_cases a:97<=x.toNat
 all_goals by_cases b:x.toNat<=122
 ·go_enter func119,ntmps119
  go_wp2
  go_ret;refine⟨?_,rfl⟩
  simp[a,b]
  try omega
 ·go_enter func119,ntmps119
  go_wp2
  go_ret;refine⟨?_,rfl⟩
  simp[a,b]
  try omega
 ·go_enter func119,ntmps119
  go_wp2
  go_ret;refine⟨?_,rfl⟩
  simp
  try omega
 ·omega
theorem uQ{x:UInt8}{w:World}:Calls pg 118 #[.int .u8 x.toNat] w λe w'=>(∃n,e=.returned (.tuple #[.int .i64 n,.bool (qo x)]))/\w'=w:=by
 cases h:qo x
 ·exact (Cu w h).mono λe w' ⟨he,hw⟩=>⟨⟨_,he⟩,hw⟩
 ·exact (xA w h).mono λe w' ⟨he,hw⟩=>⟨⟨_,he⟩,hw⟩
theorem jt(s:ByteArray)(w:World):CE 79 #[s] w (.bool (bY s)):=by
 by_cases l:s.size=0
 ·have Hb:s.toList.isEmpty=true:=by simp_all
  rw[JV l];clear l
  go_enter func79,ntmps79
  go_wp2
  go_ret;exact⟨rfl,rfl⟩
 have Hb:s.toList.isEmpty=false:=by grind[wv]
 by_cases o:8<s.size
 ·rw[JW o]
  go_enter func79,ntmps79
  go_wp2
  go_ret;exact⟨rfl,rfl⟩
 have He:s.size<=8:=by omega
 rw[JX (by omega) He];clear o l
 go_enter func79,ntmps79
 go_wp2
 go_loop [15] (λi=>∃k:Nat,k<=s.size/\i=.int .i64 k/\Hu (fA (jj s) k=true)) (λi=>s.size - (intOf i).toNat)
 exact⟨0,Nat.zero_le _,rfl,rfl⟩
 ·obtain⟨k,p,rfl,h⟩:=hrel
  by_cases d:k<s.size
  ·have j:=qI (JU s k d)
   rcases two (qm s[k]) with a|a
   ·have c:Hu (fA (jj s) (k+1)=true):=A1 h (by rw[j.o,a];rfl)
    go_wp2
    refine (uQ).mono ?_;rintro e f ⟨⟨n,rfl⟩,rfl⟩
    go_wp2
    refine (uP).e ?_;rw[a]
    go_wp2
    go_round
    exact⟨k+1,by omega,by go_num,c⟩
    simp[intOf];omega
   ·rcases two (qo s[k]) with g|g
    ·by_cases m:0<k
     ·have c:Hu (fA (jj s) (k+1)=true):=A1 h (by rw[j.o,a,g,Qc m];rfl)
      go_wp2
      refine (uQ).mono ?_;rintro e f ⟨⟨n,rfl⟩,rfl⟩;rw[g]
      go_wp2
      refine (uP).e ?_;rw[a]
      go_wp2
      go_round
      exact⟨k+1,by omega,by go_num,c⟩
      simp[intOf];omega
     ·have c:Hu (fA (jj s) s.size=false):=A3 (k:=k) (by rw[j.o,a,g,Q7 m];rfl) d;have Hc:k=0:=by omega
      subst Hc
      go_wp2
      refine (uQ).mono ?_;rintro e f ⟨⟨n,rfl⟩,rfl⟩;rw[g]
      go_wp2
      refine (uP).e ?_;rw[a]
      go_wp2
      go_ret;exact⟨congrArg (λb=>Ending.returned (.bool b)) c.o.symm,rfl⟩
    ·have c:Hu (fA (jj s) s.size=false):=A3 (k:=k) (by rw[j.o,a,g];rfl) d
     go_wp2
     refine (uQ).mono ?_;rintro e f ⟨⟨n,rfl⟩,rfl⟩;rw[g]
     go_wp2
     refine (uP).e ?_;rw[a]
     go_wp2
     go_ret;exact⟨congrArg (λb=>Ending.returned (.bool b)) c.o.symm,rfl⟩
  ·have Ha:k=s.size:=by omega
   have c:Hu (fA (jj s) s.size=true):=by rw[<- Ha];exact h
   clear Ha h
   go_wp2
   go_ret;exact⟨congrArg (λb=>Ending.returned (.bool b)) c.o.symm,rfl⟩
structure aM (w:World) (pb db:Nat) (ao:Option Addr) (c:Nat) (ds:List aq) (us:Nat->Bool):Prop where
 row:w.cell? pb=some (.slice ao ds.length c)
 at0:0<ds.length->ao=some ⟨db,0,none⟩/\db≠pb/\db<w
 cells:∀k,k<ds.length->w.cell? ⟨db,k*3,none⟩=some (.string (aH ds k).kind)/\w.cell? ⟨db,k*3+1,none⟩=some (.int .i64 (aH ds k).node)/\w.cell? ⟨db,k*3+2,none⟩=some (.bool (aH ds k).sick)/\w.frozen? ⟨db,k*3+2,none⟩=false
 used:∀j,j<16->w.cell? ⟨pb,1+j,none⟩=some (.bool (us j))/\w.frozen? ⟨pb,1+j,none⟩=false
theorem aM.lt(h:aM w pb db ao c ds us):pb<w:=Q3 w _ h.row
theorem aM.kept{g:Option Nat}(h:aM w pb db ao c ds us)(b:w.grownBy w' g)(e:some pb≠g)(d:0<ds.length->some db≠g):aM w' pb db ao c ds us:=by
 refine⟨(b.cell_far _ h.lt e).trans h.row,λa=>⟨(h.at0 a).1,(h.at0 a).2.1,Q1 (h.at0 a).2.2 b.size⟩,λk f=>?_,λj i=>?_⟩
 ·obtain⟨c1,c2,c3,c4⟩:=h.cells k f;have a:0<ds.length:=by omega
  have Ha:=(h.at0 a).2.2;exact⟨(b.cell_far _ Ha (d a)).trans c1,(b.cell_far _ Ha (d a)).trans c2,(b.cell_far _ Ha (d a)).trans c3,(b.frozen_far _ Ha (d a)).trans c4⟩
 ·obtain⟨c1,c2⟩:=h.used j i;exact⟨(b.cell_far _ h.lt e).trans c1,(b.frozen_far _ h.lt e).trans c2⟩
theorem dD(w:World)(a:Addr)(u:Value):w.grownBy (w.setCell a u) (some a.block):=
 ⟨rfl,rfl,rfl,by simp,λk _ b=>Below.heap_setCell _ _ _ _ λe=>b (by rw[e])⟩
theorem fK(h:Bw w w')(g:Option Nat):w.grownBy w' g:=⟨h.os,h.tape,h.output,h.size,λk a _=>h.block k a⟩
theorem below_grown{g:Option Nat}(h:w.grownBy w' g){K:Nat}(a:K<=w)(c:∀j,g=some j->K<=j):Below K w w':=
 ⟨h.os,h.tape,h.output,h.size,λk b=>h.block k (by omega) (λe=>by grind)⟩
theorem xP{w:World}{g:Option Nat}:w.grownBy w g:=⟨rfl,rfl,rfl,lR,λ_ _ _=>rfl⟩
theorem aM.below(h:aM w pb db ao c ds us)(a:Bw w w'):aM w' pb db ao c ds us:=h.kept (fK a none) (by simp) (by simp)
theorem aM.drewN(h:aM w pb db ao c ds us)(n:Nat):aM (w.drewN n) pb db ao c ds us:=h.below (below_drewN (Q0 _ w) n)
theorem aM.alloc(h:aM w pb db ao c ds us)(o:Obj):aM (w.alloc o) pb db ao c ds us:=h.below ((Q0 _ w).alloc (lR) o)
theorem aM.set{vs:Nat->Bool}(h:aM w pb db ao c ds us){m:Nat}(n:m<16)(b:Bool)(g:∀j,j<16->vs j=if j=m then b else us j):aM (w.setCell ⟨pb,1+m,none⟩ b) pb db ao c ds vs:=by
 have Hb:∀x,x≠1+m->(⟨pb,1+m,none⟩:Addr)≠⟨pb,x,none⟩:=λx o e=>by cases e;exact o rfl
 refine⟨?_,λa=>⟨(h.at0 a).1,(h.at0 a).2.1,by simpa using (h.at0 a).2.2⟩,λk p=>?_,λj i=>?_⟩
 ·rw[World.cell?_setCell_other (h:=Hb 0 (by omega))];exact h.row
 ·obtain⟨c1,c2,c3,c4⟩:=h.cells k p;have a:0<ds.length:=by omega
  have hd:=(h.at0 a).2.1;have Ha:=(h.at0 a).2.2;have f:=dD w ⟨pb,1+m,none⟩ b;have d:some db≠some pb:=by simpa using hd
  exact⟨(f.cell_far _ Ha d).trans c1,(f.cell_far _ Ha d).trans c2,(f.cell_far _ Ha d).trans c3,(f.frozen_far _ Ha d).trans c4⟩
 ·obtain⟨l,z⟩:=h.used j i;obtain⟨cm,_⟩:=h.used m n;refine⟨?_,(World.frozen?_setCell ..).trans z⟩;rw[g j i]
  by_cases e:j=m
  ·subst e
   simp
   clear l g Hb;go_simp
  ·grind[Qb]
theorem aM.sicken(h:aM w pb db ao c ds us){n:Nat}(g:n<ds.length)(b:Bool):aM (w.setCell ⟨db,n*3+2,none⟩ b) pb db ao c (jK ds n b) us:=by
 have f:0<ds.length:=by omega
 obtain⟨i,hd,Hb⟩:=h.at0 f;have a:=dD w ⟨db,n*3+2,none⟩ b;have Ha:some pb≠some db:=by grind
 have Hc:∀x,x≠n*3+2->(⟨db,n*3+2,none⟩:Addr)≠⟨db,x,none⟩:=λx l e=>by cases e;exact l rfl
 refine⟨?_,λ_=>⟨i,hd,by simpa using Hb⟩,λk d=>?_,λj m=>?_⟩
 ·rw[rS];exact (a.cell_far _ h.lt Ha).trans h.row
 ·rw[rS] at d;obtain⟨c1,c2,c3,c4⟩:=h.cells k d;rw[wN g];refine⟨?_,?_,?_,(World.frozen?_setCell ..).trans c4⟩
  ·grind[Qb]
  ·grind[Qb]
  ·by_cases e:k=n
   ·subst e
    simp
    clear Hc a;go_simp
   ·grind[Qb]
 ·obtain⟨c1,c2⟩:=h.used j m;exact⟨(a.cell_far _ h.lt Ha).trans c1,(a.frozen_far _ h.lt Ha).trans c2⟩
theorem jM.kept{r:Option Nat}(h:jM w v g o l)(d:w.grownBy w' r)(n:0<l.length->some g≠r):jM w' v g o l:=by
 obtain⟨j,c,e,f⟩:=h;refine⟨j,c,e,λa=>?_⟩;obtain⟨m,b,i⟩:=f a;exact⟨m,Q1 b d.size,λk p=>(d.cell_far _ b (n a)).trans (i k p)⟩
theorem jM.below(h:jM w v g o l)(a:Bw w w'):jM w' v g o l:=h.kept (fK a none) (by simp)
theorem et.below(h:et w v g o ds)(a:Bw w w'):et w' v g o ds:=by
 obtain⟨i,c,d,e⟩:=h;refine⟨i,c,d,λj=>?_⟩;obtain⟨l,b,f⟩:=e j;refine⟨l,Q1 b a.size,λk m=>?_⟩;obtain⟨c1,c2,c3⟩:=f k m;exact⟨(a.cell (p:=⟨g,o+k*3,none⟩) b).trans c1,(a.cell (p:=⟨g,o+k*3+1,none⟩) b).trans c2,(a.cell (p:=⟨g,o+k*3+2,none⟩) b).trans c3⟩
def i7 (n:Int) (k:Nat):Bool:=decide (0<=n) && decide (n<(k:Int))
theorem xQ(n:Int){w:World}{a db:Nat}{b:Option Addr}{c:Nat}{ds:List aq}{us:Nat->Bool}(h:aM w a db b c ds us) :
  CE 107 #[a,n] w (.bool (i7 n ds.length)):=by
 have g:=h.row;clear h;unfold i7;generalize ds.length=m at *
 by_cases d:0<=n
 all_goals by_cases f:n<m
 all_goals
  go_enter func107,ntmps107
  go_wp2
  go_ret;refine⟨?_,rfl⟩
  simp[d,f]
theorem NE{n:Int}(on:Bool){w:World}{a db:Nat}{f:Option Addr}{c:Nat}{ds:List aq}{us:Nat->Bool}(h:aM w a db f c ds us)(d:i7 n ds.length=false) :
  CE 67 #[a,n,on] w (.iface 108 (1:Int)):=by
 have b:=qI (xQ n h);rw[d] at b;clear d h
 go_enter func67,ntmps67
 go_wp2
 refine b.o.e ?_
 go_wp2
 go_ret;exact⟨rfl,rfl⟩
theorem NF(n:Nat)(on:Bool){w:World}{a db:Nat}{f:Option Addr}{c:Nat}{ds:List aq}{us:Nat->Bool}(h:aM w a db f c ds us)(g:n<ds.length) :
  Calls pg 67 #[.pointer (some ⟨a,0,none⟩),.int .i64 n,.bool on] w λe w'=>e=.returned .nilIface/\w'=w.setCell ⟨db,n*3+2,none⟩ on:=by
 have b:=qI (xQ n h);have d:i7 n ds.length=true:=by simp[i7];omega
 rw[d] at b;obtain⟨rfl,_,_⟩:=h.at0 (by omega);have j:=h.row;obtain⟨_,_,c2,c3⟩:=h.cells n g;clear d h
 go_enter func67,ntmps67
 go_wp2
 refine b.o.e ?_
 go_wp2
 go_ret;exact⟨rfl,rfl⟩
end Go.Proofs.YtjlblidnfebmiaaGreatDoor
namespace Go.Proofs
open Go.Shelf
def Tryz.cloneL_ren:Go.Shelf.Ren:=⟨fun|41=>105|n=>n,fun|22=>25|23=>77|4=>4|n=>n,fun|n=>n⟩
theorem Tryz.cloneL:Go.Proofs.SlLaysE0.n41 Tryz.prog Tryz.cloneL_ren:=by
 constructor
 case f41=>exact⟨Tryz.f105.name,by decide,Tryz.func105.trans (congrArg some (by kernel_rfl))⟩
 all_goals intros;kernel_rfl
def Tryz.growL_ren:Go.Shelf.Ren:=⟨fun|4=>215|n=>n,fun|22=>46|25=>3|3=>3|4=>4|9=>9|20=>20|0=>0|n=>n,fun|n=>n⟩
theorem Tryz.growL:Go.Proofs.Lays8.n4 Tryz.prog Tryz.growL_ren:=by
 constructor
 case f4=>exact⟨Tryz.f215.name,by decide,Tryz.func215.trans (congrArg some (by kernel_rfl))⟩
 all_goals intros;kernel_rfl
def Tryz.sortL9_ren:Go.Shelf.Ren:=⟨fun|189=>134|125=>161|257=>172|128=>202|129=>203|294=>216|295=>217|296=>218|297=>219|298=>220|299=>221|216=>222|300=>223|301=>224|328=>267|329=>254|330=>255|331=>268|332=>269|215=>187|343=>292|n=>n,fun|28=>46|3=>3|46=>219|0=>0|51=>296|53=>23|4=>4|183=>312|182=>311|131=>134|5=>5|9=>9|218=>357|222=>361|228=>389|229=>390|n=>n,fun|n=>n⟩
theorem Tryz.sortL9:Go.Proofs.Lays.n189 Tryz.prog Tryz.sortL9_ren:=by
 constructor<;>intros<;>kernel_rfl
end Go.Proofs
namespace Go.Proofs.YtjlblidnfebmiaaGreatDoor
variable{A B F T c db k m n pb:Nat}{a u w w' wr:World}{ao:Option Addr}{bad:Nat->Value}{ds:List aq}{e:Ending}{f:Nat->Nat}{g:Option Nat}{kind:ByteArray}{l:List Nat}{us:Nat->Bool}{v:Value}
def g9 (l:List aq):List Value:=l.flatMap λx=>[.string x.kind,.int .i64 x.node,.bool x.sick]
theorem C8(l:List aq):(g9 l).length=l.length*3:=by
 induction l with
 | nil=>rfl
 | cons a r ih=>simp only[g9,List.flatMap_cons,Q2,Qg,List.length_nil] at ih ⊢;omega
theorem C9(l:List aq)(k:Nat)(b:k<l.length):(g9 l)[k*3]?=some (.string (aH l k).kind)/\(g9 l)[k*3+1]?=some (.int .i64 (aH l k).node)/\(g9 l)[k*3+2]?=some (.bool (aH l k).sick):=by
 induction l generalizing k with
 | nil=>simp at b
 | cons a r ih=>
  cases k with
  | zero=>simp[g9,aH]
  | succ k=>
   have:=ih k (by simpa using b)
   have e:g9 (a :: r)=[.string a.kind,.int .i64 a.node,.bool a.sick]++g9 r:=rfl;have c:aH (a :: r) (k+1)=aH r k:=by simp[aH]
   rw[e,c,show (k+1)*3=k*3+3 by omega]
   simpa using this
theorem NG{b o:Nat}{l:List aq}(h:∀k,k<l.length->w.cell? ⟨b,o+k*3,none⟩=some (.string (aH l k).kind)/\w.cell? ⟨b,o+k*3+1,none⟩=some (.int .i64 (aH l k).node)/\w.cell? ⟨b,o+k*3+2,none⟩=some (.bool (aH l k).sick))(j:Nat)(u:Value)(f:(g9 l)[j]?=some u):w.cell? ((⟨b,o,none⟩:Addr).add j)=some u:=by
 have Ha:j<l.length*3:=by grind[C8]
 obtain⟨a,c,d⟩:=h (j / 3) (by omega);obtain⟨c0,c1,c2⟩:=C9 l (j / 3) (by omega);rw[Addr.add_lit]
 have:j=j / 3*3\/j=j / 3*3+1\/j=j / 3*3+2:=by omega
 rcases this with e|e|e
 ·grind
 ·grind
 ·grind
theorem NH(l:List aq):∀u∈g9 l,u.oneCell'=true:=by
 intro u b;simp only[g9,List.mem_flatMap] at b;obtain⟨x,_,a⟩:=b
 simp at a
 rcases a with rfl|rfl|rfl <;> rfl
theorem NI:(prog.info? 77).map (λi=>(i.zero,i.size,i.bytes))=some (some (.agg #[ByteArray.empty,(0:Int),false]),3,32):=by kernel_rfl
theorem NJ(a:Option Addr)(n c:Nat)(w:World):Sem.run prog (binOp BinOp.eql 25 (.slice a n c) ()) w=.ok a.isNone w:=Lib.run_eql_slice_nil w _ _ a n c 0 0 underlying25
def lF (B:Nat) (w:World) (v:Value) (ds:List aq):Prop:=
 ∃ao c g,v=.slice ao ds.length c/\(0<ds.length->ao=some ⟨g,0,none⟩/\B<=g/\g<w.heap.size)/\
  ∀k,k<ds.length->w.cell? ⟨g,k*3,none⟩=some (.string (aH ds k).kind)/\w.cell? ⟨g,k*3+1,none⟩=some (.int .i64 (aH ds k).node)/\w.cell? ⟨g,k*3+2,none⟩=some (.bool (aH ds k).sick)/\w.frozen? ⟨g,k*3+2,none⟩=false
theorem lF.of_own(h:w.ownsRow B 77 3 v ds.length (g9 ds)):lF B w v ds:=by
 rcases h.2 with⟨rfl,d⟩|⟨g,a,c,rfl,e,Ha,_⟩
 ·exact⟨none,0,0,by rw[d],λf=>by omega,λk b=>by omega⟩
 ·refine⟨_,a,g,rfl,λ_=>⟨rfl,e,(gS Ha).1⟩,λk b=>?_⟩;obtain⟨c0,c1,c2⟩:=C9 ds k b;refine⟨?_,?_,?_,by simp[World.frozen?,Ha]⟩
  ·rw[h.cellAt (k*3) (by omega)];exact c0
  ·rw[h.cellAt (k*3+1) (by omega)];exact c1
  ·rw[h.cellAt (k*3+2) (by omega)];exact c2
theorem Da(a:Addr)(c:Nat)(l:List aq)(w:World)(d:∀j u,(g9 l)[j]?=some u->w.cell? (a.add j)=some u)(i:l.length<=16) :
  Calls pg 105 #[.slice (some a) l.length c] w λe w'=>∃v,e=.returned v/\lF w w' v l/\Bw w w':=by
 obtain⟨i0,hi,He,Hf,Hg⟩:=info_parts NI;have f:=qI ((Q0 w w).alloc (lR) (.cells #[] 77));have g:Hu (∀j u,(g9 l)[j]?=some u->(w.alloc (.cells #[] 77)).cell? (a.add j)=some u):=λj u b=>Lib.cell?_alloc_some _ (d j u b)
 have Hh:=NJ (some a) l.length c w;clear d
 go_enter func105,ntmps105
 go_wp2_with (at_builtin;(refine wpList_append_own _ rfl _ _ 25 rfl w 77 i0 (.agg #[ByteArray.empty,(0:Int),false]) 3 32 underlying25 hi He Hf Hg rfl (by decide) _ _ _ rfl (World.ownsRow_lit w #[] 0 (lR) (Nat.zero_le _) rfl) a l.length c (g9 l) rfl (C8 l) g (NH l) (by unfold maxLen;omega) (by omega) (by simp) ?_);intro m k Hb Ha _)
 have Hc:=qI (f.o.grown Ha (by simp) (λj b=>by cases b;exact lR));rw[Qd] at Hb;have h:=qI (lF.of_own (by simpa using Hb));clear Hb Ha
 go_wp2
 go_ret;exact⟨_,rfl,h,Hc⟩
theorem Db{v:Value}{b o:Nat}{l:List aq}{w:World}(i:et w v b o l)(g:l.length<=16) :
  Calls pg 105 #[v] w λe w'=>∃v,e=.returned v/\lF w w' v l/\Bw w w':=by
 obtain⟨j,c,rfl,d⟩:=i
 by_cases f:0<l.length
 ·obtain⟨rfl,Hc,Ha⟩:=d f;exact Da ⟨b,o,none⟩ c l w (NG Ha) g
 ·have Hb:l=[]:=Qe (by omega);subst Hb
  rcases j with _|a
  ·refine (AnyE.slices_Clone_nil Tryz.cloneL 0 c w).e ?_;exact⟨_,rfl,⟨none,0,0,rfl,λh=>by simp at h,λk m=>by simp at m⟩,Q0 _ _⟩
  ·grind[Da,g9]
def uR (w:World) (ds:List aq) (p:Value) (w':World):Prop:=
 ∃pb db ao c,p=.pointer (some ⟨pb,0,none⟩)/\aM w' pb db ao c ds (λ_=>false)/\w.heap.size<=pb/\(0<ds.length->w.heap.size<=db)
theorem NK(h:ds.length<=16):dV ds=bA (iS ds) ds.length:=by grind[dV]
theorem NL(h:bY (aH ds k).kind=false):iS ds k=3:=by rw[iS,if_pos h]
theorem NM(h:bY (aH ds k).kind=true)(a:(aH ds k).node<0\/3<(aH ds k).node):iS ds k=1:=by grind[iS]
theorem NN(h:bY (aH ds k).kind=true)(a:0<=(aH ds k).node)(b:(aH ds k).node<=3):iS ds k=0:=by grind[iS]
abbrev Dc:=λ(x0:Value) (x1:TypeId)=>(.cells #[x0,false,false,false,false,false,false,false,false,false,false,false,false,false,false,false,false] x1:Obj)
theorem aM.made(h:lF B w v ds)(t:TypeId):∃db e c,aM (w.alloc (Dc v t)) w db e c ds (λ_=>false)/\(0<ds.length->B<=db):=by
 obtain⟨e,c,g,rfl,a,f⟩:=h;refine⟨g,e,c,⟨by simp,λb=>⟨(a b).1,Nat.ne_of_lt (a b).2.2,by have:=(a b).2.2;simp;omega⟩,λk i=>?_,λj l=>?_⟩,λb=>(a b).2.1⟩
 ·have Ha:=(a (by omega)).2.2;obtain⟨c0,c1,c2,c3⟩:=f k i;have d:=(Q0 w w).alloc (lR) (.cells #[.slice e ds.length c,false,false,false,false,false,false,false,false,false,false,false,false,false,false,false,false] t);exact⟨(d.cell (p:=⟨g,k*3,none⟩) Ha).trans c0,(d.cell (p:=⟨g,k*3+1,none⟩) Ha).trans c1,(d.cell (p:=⟨g,k*3+2,none⟩) Ha).trans c2,(d.frozen (p:=⟨g,k*3+2,none⟩) Ha).trans c3⟩
 ·have:j=0\/j=1\/j=2\/j=3\/j=4\/j=5\/j=6\/j=7\/j=8\/j=9\/j=10\/j=11\/j=12\/j=13\/j=14\/j=15:=by omega
  rcases this with rfl|rfl|rfl|rfl|rfl|rfl|rfl|rfl|rfl|rfl|rfl|rfl|rfl|rfl|rfl|rfl <;> exact⟨by simp,by simp⟩
theorem uR.of{a:World}(h:lF B a v ds)(f:w<=B)(hs:w<=a.heap.size)(t:TypeId):uR w ds a (a.alloc (Dc v t)):=by
 obtain⟨db,d,c,g,b⟩:=aM.made h t;exact⟨_,db,d,c,rfl,g,hs,λe=>Q5 f (b e)⟩
theorem NO(a:Option Addr)(n c:Nat)(w:World)(h:16<n):CE 61 #[.slice a n c] w (.tuple #[.pointer none,.iface 108 (2:Int)]):=by
 go_enter func61,ntmps61
 go_wp2
 go_ret2;exact⟨rfl,rfl⟩
def pB (w:World) (ds:List aq) (bad:Nat->Value) (e:Ending) (w':World):Prop:=
 (dV ds=0->∃p,e=.returned (.tuple #[p,bad 0])/\uR w ds p w')/\(dV ds≠0->e=.returned (.tuple #[.pointer none,bad (dV ds)]))/\Below w w w'
theorem pB.wrong(hf:dV ds=n)(c:n≠0)(b:e=.returned (.tuple #[.pointer none,bad n]))(a:Bw w w'):pB w ds bad e w':=
 ⟨λh=>by omega,λ_=>by rw[hf,b],a⟩
theorem NP(z:Option Addr)(c b o:Nat)(ds:List aq)(w:World)(hd:et w (.slice z ds.length c) b o ds)(h:ds.length<=16):Calls pg 61 #[.slice z ds.length c] w λe w'=>pB w ds (λn=>aD n) e w':=by
 have y:=qI hd;have r:=qI (NK h);clear hd
 go_enter func61,ntmps61
 go_wp2
 go_loopw [12] (λi wr=>∃k:Nat,k<=ds.length/\i=.int .i64 k/\Hu (bA (iS ds) k=0)/\Bw w wr) (λi _=>ds.length - (intOf i).toNat)
 exact⟨0,by omega,rfl,rfl,Q0 _ _⟩
 ·obtain⟨k,E,rfl,q,f⟩:=hrel
  by_cases l:k<ds.length
  ·obtain⟨D,G,p,Hc⟩:=y.o.below f;obtain⟨rfl,Hk,Hc⟩:=Hc (by omega);cases p;obtain⟨c0,c1,c2⟩:=Hc k l;have He:=qI λg=>NL (ds:=ds) (k:=k) g;have Hb:=qI λg m=>NM (ds:=ds) (k:=k) g m;have Hf:=qI λg m A=>NN (ds:=ds) (k:=k) g m A;have j:=qI λn a=>(r.o.trans (mh (n:=ds.length) q (by rw[a];simp) l)).trans (a:iS ds k=n+1);clear Hc;generalize aH ds k=x at *;have Ha:=f.alloc f.size (.cells #[x.kind,(x.node:Int),x.sick] 77)
   rcases two (bY x.kind) with a|a
   ·have key:(x.node<0\/(0<=x.node/\4<=x.node))\/(0<=x.node/\x.node<4):=by omega
    rcases key with C|⟨u,m⟩
    ·have d:=qI (j.o 0 (Hb.o a (by omega)));clear He Hb Hf j
     rcases C with u|⟨u,m⟩
     all_goals
      go_wp2
      refine (jt _ _).e ?_;rw[a]
      go_wp2
      go_ret2;exact pB.wrong d (by decide) rfl Ha
    ·have d:Hu (bA (iS ds) (k+1)=0):=nk q (Hf.o a (by omega) (by omega));clear He Hb Hf j
     go_wp2
     refine (jt _ _).e ?_;rw[a]
     go_wp2
     go_roundw
     exact⟨k+1,by omega,by go_num,d,Ha⟩
     simp[intOf];omega
   ·have d:=qI (j.o 2 (He.o a));clear He Hb Hf j
    go_wp2
    refine (jt _ _).e ?_;rw[a]
    go_wp2
    go_ret2;exact pB.wrong d (by decide) rfl Ha
  ·have Hg:k=ds.length:=by omega
   have d:Hu (dV ds=0):=by rw[<- Hg] at r;exact r.o.trans q
   have Hj:=qI (y.o.below f);clear Hg q
   go_wp2
   refine (Db Hj h).mono ?_;rintro e s ⟨v,rfl,p,t⟩;have Ha:=f.trans (t.mono f.size);have Hh:=qI (uR.of (w:=w) p f.size Ha.size 201);have Hi:=qI (Ha.alloc Ha.size (.cells #[v,false,false,false,false,false,false,false,false,false,false,false,false,false,false,false,false] 201));obtain⟨B,c2,F,rfl,_,_⟩:=p;clear t Ha
   go_wp2
   go_ret2;exact⟨λ_=>⟨_,rfl,Hh⟩,λg=>absurd d.o g,Hi⟩
theorem Dd{v:Value}{b o:Nat}{ds:List aq}{w:World}(hd:et w v b o ds):Calls pg 61 #[v] w λe w'=>pB w ds (λn=>aD n) e w':=by
 have Ha:=hd;obtain⟨a,c,rfl,_⟩:=hd
 by_cases h:ds.length<=16
 ·grind[NP]
 ·refine (NO a ds.length c w (by omega)).e ?_;exact pB.wrong (n:=2) (by grind[dV]) (by decide) rfl (Q0 _ _)
def fq (w:World) (T:Nat) (f:Nat->Nat):Prop:=∀j,j<4->w.cell? ⟨T,j,none⟩=some (.int .i64 (f j:Nat))/\w.frozen? ⟨T,j,none⟩=false
theorem fq.lt(h:fq w T f):T<w:=Q3 w _ (h 0 (by decide)).1
theorem fq.kept(h:fq w T f)(b:w.grownBy w' g)(a:some T≠g):fq w' T f:=λj c=>
 ⟨(b.cell_far _ h.lt a).trans (h j c).1,(b.frozen_far _ h.lt a).trans (h j c).2⟩
theorem fq.below(h:fq w T f)(a:Bw w w'):fq w' T f:=h.kept (fK a none) (by simp)
theorem fq.alloc(h:fq w T f)(o:Obj):fq (w.alloc o) T f:=h.below ((Q0 _ w).alloc (lR) o)
theorem fq.made(w:World)(t:TypeId)(f:Nat->Nat)(hf:∀j,f j=0):fq (w.alloc (.cells #[(0:Int),(0:Int),(0:Int),(0:Int)] t)) w f:=by
 intro j a;rw[hf j]
 have:j=0\/j=1\/j=2\/j=3:=by omega
 rcases this with rfl|rfl|rfl|rfl <;> exact⟨by simp,by simp⟩
theorem fq.set{f g:Nat->Nat}(h:fq w T f){m:Nat}(d:m<4){n:Int}(i:n=(f m:Nat)+1)(b:∀j,g j=f j+if j=m then 1 else 0):fq (w.setCell ⟨T,m,none⟩ n) T g:=by
 subst i;intro j k;obtain⟨c,z⟩:=h j k;obtain⟨cm,_⟩:=h m d;refine⟨?_,(World.frozen?_setCell ..).trans z⟩;rw[b j]
 by_cases e:j=m
 ·subst e;rw[if_pos rfl];have a:(((f j+1:Nat)):Int)=((f j:Nat):Int)+1:=by omega
  rw[a];clear c b a;go_simp
 ·simp_all[Qb]
theorem De{a b:ByteArray}(h:¬ a=b):¬ a.toList=b.toList:=by
 grind[Qs,Go.WideShapes.bytes_inj]
theorem Df{p:Nat->Bool}{ds:List aq}{x:Nat}:bo p ds x 0=0:=rfl
def xR (f:Nat->Nat):Value:=.agg #[.int .i64 (f 0:Nat),.int .i64 (f 1:Nat),.int .i64 (f 2:Nat),.int .i64 (f 3:Nat)]
structure ie (w wr:World) (pb db:Nat) (ao:Option Addr) (c:Nat) (ds:List aq) (us:Nat->Bool) (kind:ByteArray) (F A k:Nat):Prop where
 pool:aM wr pb db ao c ds us
 free:fq wr F (λx=>bo (bH ds us kind) ds x k)
 all:fq wr A (λx=>bo (dr ds kind) ds x k)
 below:Below w w wr
theorem ie.alloc(h:ie w wr pb db ao c ds us kind F A k)(o:Obj):ie w (wr.alloc o) pb db ao c ds us kind F A k:=
 ⟨h.pool.alloc o,h.free.alloc o,h.all.alloc o,h.below.alloc h.below.size o⟩
theorem ie.mid{m D:Nat}{n z:Int}(h:ie w wr pb db ao c ds us kind F A k)(i:k<16)(g:m<4)(f:wr.cell? ⟨D,1,none⟩=some (.int .i64 z))(a:F≠A)(d:pb≠A)(e:D≠A) :
  (wr.setCell ⟨A,m,none⟩ n).cell? ⟨pb,1+k,none⟩=some (.bool (us k))/\(wr.setCell ⟨A,m,none⟩ n).cell? ⟨F,m,none⟩=some (.int .i64 (bo (bH ds us kind) ds m k:Nat))/\(wr.setCell ⟨A,m,none⟩ n).frozen? ⟨F,m,none⟩=false/\(wr.setCell ⟨A,m,none⟩ n).cell? ⟨D,1,none⟩=some (.int .i64 z):=by
 have b:=dD wr ⟨A,m,none⟩ n;exact⟨(b.cell_far _ h.pool.lt (by simpa using d)).trans (h.pool.used k i).1,(b.cell_far _ h.free.lt (by simpa using a)).trans (h.free m g).1,(b.frozen_far _ h.free.lt (by simpa using a)).trans (h.free m g).2,(b.cell_far _ (Q3 _ _ f) (by simpa using e)).trans f⟩
theorem ie.no(h:ie w wr pb db ao c ds us kind F A k)(a:dr ds kind k=false):ie w wr pb db ao c ds us kind F A (k+1):=by
 refine⟨h.pool,?_,?_,h.below⟩
 ·have:(λx=>bo (bH ds us kind) ds x (k+1))=λx=>bo (bH ds us kind) ds x k:=by funext x;exact wK (by grind[wM]) x
  rw[this];exact h.free
 ·have:(λx=>bo (dr ds kind) ds x (k+1))=λx=>bo (dr ds kind) ds x k:=by funext x;exact wK a x
  rw[this];exact h.all
theorem ie.one{m:Nat}{n:Int}(h:ie w wr pb db ao c ds us kind F A k)(g:dr ds kind k=true)(o:us k=true)(e:m<4)(p:(aH ds k).node=(m:Int))(d:w<=A)(a:F≠A)(l:pb<w)(hd:0<ds.length->db<w)(f:n=(bo (dr ds kind) ds m k:Nat)+1) :
  ie w (wr.setCell ⟨A,m,none⟩ n) pb db ao c ds us kind F A (k+1):=by
 have b:=dD wr ⟨A,m,none⟩ n;refine⟨h.pool.kept b (by simp;omega) (λi=>by grind),?_,?_,h.below.setCell d _⟩
 ·have:(λx=>bo (bH ds us kind) ds x (k+1))=λx=>bo (bH ds us kind) ds x k:=by funext x;exact wK (by grind[wM]) x
  rw[this];exact h.free.kept b (by simpa using a)
 ·refine h.all.set e f λj=>?_;rw[wL g (by omega)]
  congr 2
  have:(aH ds k).node.toNat=m:=by omega
  rw[this]
theorem ie.both{m:Nat}{n n2:Int}(h:ie w wr pb db ao c ds us kind F A k)(o:dr ds kind k=true)(q:us k=false)(d:m<4)(r:(aH ds k).node=(m:Int))(i:w<=F)(g:w<=A)(a:F≠A)(p:pb<w)(hd:0<ds.length->db<w)(l:n=(bo (dr ds kind) ds m k:Nat)+1)(b:n2=(bo (bH ds us kind) ds m k:Nat)+1) :
  ie w ((wr.setCell ⟨A,m,none⟩ n).setCell ⟨F,m,none⟩ n2) pb db ao c ds us kind F A (k+1):=by
 have e:=dD wr ⟨A,m,none⟩ n;have Ha:=dD (wr.setCell ⟨A,m,none⟩ n) ⟨F,m,none⟩ n2;refine⟨(h.pool.kept e (by simp;omega) (λf=>by grind)).kept Ha (by simp;omega) (λf=>by grind),?_,?_,(h.below.setCell g _).setCell i _⟩
 ·refine (h.free.kept e (by simpa using a)).set d b λj=>?_;rw[wL (by grind[wM]) (by omega)]
  congr 2
  have:(aH ds k).node.toNat=m:=by omega
  rw[this]
 ·refine (h.all.set d l λj=>?_).kept Ha (by grind);rw[wL o (by omega)]
  congr 2
  have:(aH ds k).node.toNat=m:=by omega
  rw[this]
theorem NQ{fn:Func}{p q:Tmp}{c:TypeId}(h:fn.results=#[.cell p c,.cell q c])(tmps:Array Value)(P:Program)(w:World) :
  (results fn tmps).run P w =
   ((asAddr (tmps.getD p undef)).run P w).andThen λa e=>((loadVar c a).run P e).andThen λv f=>((asAddr (tmps.getD q undef)).run P f).andThen λb g=>((loadVar c b).run P g).andThen λu d=>.ok (.tuple #[v,u]) d:=by
 simp_all[results]
theorem Dg(h:Below B a w):Below B a w.drew:=⟨h.os,h.tape,h.output,h.size,h.block⟩
abbrev xS:=(.cells #[(0:Int),(0:Int),(0:Int),(0:Int)] 202:Obj)
theorem NR(kind:ByteArray){w:World}{F db:Nat}{I:Option Addr}{c:Nat}{ds:List aq}{us:Nat->Bool}(h:aM w F db I c ds us)(O:fS ds) :
  CB 167 #[F,kind] w (.tuple #[xR λx=>bo (bH ds us kind) ds x ds.length,xR λx=>bo (dr ds kind) ds x ds.length]):=by
 have N:=h.lt;have hd:0<ds.length->db<w.heap.size:=λh0=>(h.at0 h0).2.2
 have Hk:Hu (ie w ((w.alloc (xS)).alloc (xS)) F db I c ds us kind w (w.heap.size+1) 0):=
  ⟨(h.alloc _).alloc _,(fq.made w _ _ λj=>Df).alloc _,by have:=fq.made (w.alloc (xS)) 202 (λx=>bo (dr ds kind) ds x 0) λj=>Df;simpa using this,((Q0 w w).alloc (lR) _).alloc (by simp) _⟩
 have Hl:=Hk.o.pool.row;have J:=qI O;have A:=qI (And.intro N hd);clear h N hd
 go_enter func167,ntmps167
 go_wp2
 go_loopw [13] (λi wr=>∃k:Nat,k<=ds.length/\i=.int .i64 k/\ie w wr F db I c ds us kind w (w.heap.size+1) k) (λi _=>ds.length - (intOf i).toNat)
 exact⟨0,by omega,rfl,Hk⟩
 ·obtain⟨k,hk,rfl,a⟩:=hrel
  by_cases C:k<ds.length
  ·have Hi:k<16:=by have:=J.o.1;omega
   obtain⟨rfl,Hp,_⟩:=a.pool.at0 (by omega);obtain⟨c0,c1,c2,_⟩:=a.pool.cells k C;obtain⟨G,M⟩:=J.o.2 k C;obtain⟨m,K⟩:=Int.eq_ofNat_of_zero_le G;have Hh:m<4:=by omega
   have Hc:=qI (a.alloc (.cells #[(aH ds k).kind,((aH ds k).node:Int),.bool (aH ds k).sick] 77));have He:=qI λE=>Hc.o.no E;have Hb:=qI λE g n t=>Hc.o.one (m:=m) (n:=n) E g Hh K (Nat.le_succ _) (by omega) A.o.1 A.o.2 t;have Ha:=qI λE g n n2 t o=>Hc.o.both (m:=m) (n:=n) (n2:=n2) E g Hh K (lR) (Nat.le_succ _) (by omega) A.o.1 A.o.2 t o;have Hg:dr ds kind k=(decide ((aH ds k).kind=kind) && !(aH ds k).sick):=rfl;have g:=(Hc.o.pool.used k Hi).1;have hf:_=some (Value.int .i64 (bo (bH ds us kind) ds m k:Nat)):=(Hc.o.free m Hh).1;have Y:_=some (Value.int .i64 (bo (dr ds kind) ds m k:Nat)):=(Hc.o.all m Hh).1;have Hn:=(Hc.o.all m Hh).2;have B:=qI (Hc.o.mid (m:=m) (D:=wr.heap.size) (z:=(aH ds k).node) (n:=(bo (dr ds kind) ds m k:Nat)+1) Hi Hh (by simp) (by omega) (by have:=A.o.1;omega) (show wr.heap.size≠w.heap.size+1 by have:=a.all.lt;omega));have qf:=A4 (bH ds us kind) ds m k;have qa:=A4 (dr ds kind) ds m k;clear a;rw[K] at c1 Hc He Hb Ha g hf Y Hn B;generalize bo (bH ds us kind) ds m k=nf at *;generalize bo (dr ds kind) ds m k=na at *;generalize (aH ds k).kind=L at *;generalize (aH ds k).sick=R at *
   by_cases l:L=kind
   ·subst l
    rcases two R with hs|hs
    ·subst hs;have b:=He.o (by rw[Hg];simp);clear He Hb Ha Hg
     go_wp2
     go_roundw
     exact⟨k+1,by omega,by go_num,b⟩
     simp[intOf];omega
    ·subst hs;have Hj:dr ds L k=true:=by rw[Hg];simp
     rcases two (us k) with Hf|Hf
     ·have b:=qI λn t=>Hb.o Hj Hf n t;obtain⟨H,e2,P,e4⟩:=B.o;rw[Hf] at H;clear He Hb Ha Hg Hj Hf g B
      go_wp2
      go_roundw
      exact⟨k+1,by omega,by go_num,b.o _ (by go_num)⟩
      simp[intOf];omega
     ·have b:=qI λn n2 t o=>Ha.o Hj Hf n n2 t o;obtain⟨H,e2,P,e4⟩:=B.o;rw[Hf] at H;clear He Hb Ha Hg Hj Hf g B
      go_wp2
      go_roundw
      exact⟨k+1,by omega,by go_num,b.o _ _ (by go_num) (by go_num)⟩
      simp[intOf];omega
   ·have b:=He.o (by grind);have Hm:=De l;clear l He Hb Ha Hg
    go_wp2
    go_roundw
    exact⟨k+1,by omega,by go_num,b⟩
    simp[intOf];omega
  ·have Ho:k=ds.length:=by omega
   subst Ho;have f0:_=some (Value.int .i64 (bo (bH ds us kind) ds 0 ds.length:Nat)):=(a.free 0 (by decide)).1;have f1:_=some (Value.int .i64 (bo (bH ds us kind) ds 1 ds.length:Nat)):=(a.free 1 (by decide)).1;have f2:_=some (Value.int .i64 (bo (bH ds us kind) ds 2 ds.length:Nat)):=(a.free 2 (by decide)).1;have f3:_=some (Value.int .i64 (bo (bH ds us kind) ds 3 ds.length:Nat)):=(a.free 3 (by decide)).1;have a0:_=some (Value.int .i64 (bo (dr ds kind) ds 0 ds.length:Nat)):=(a.all 0 (by decide)).1;have Z:_=some (Value.int .i64 (bo (dr ds kind) ds 1 ds.length:Nat)):=(a.all 1 (by decide)).1;have a2:_=some (Value.int .i64 (bo (dr ds kind) ds 2 ds.length:Nat)):=(a.all 2 (by decide)).1;have a3:_=some (Value.int .i64 (bo (dr ds kind) ds 3 ds.length:Nat)):=(a.all 3 (by decide)).1;have z0:=(a.free 0 (by decide)).2;have z1:=(a.free 1 (by decide)).2;have z2:=(a.free 2 (by decide)).2;have z3:=(a.free 3 (by decide)).2;have y0:=(a.all 0 (by decide)).2;have y1:=(a.all 1 (by decide)).2;have y2:=(a.all 2 (by decide)).2;have y3:=(a.all 3 (by decide)).2;have T:=qI a.below;clear a Hk J A O Hl;obtain⟨G,q⟩:∃x,bo (bH ds us kind) ds 0 ds.length=x:=⟨_,rfl⟩;rw[q] at f0;obtain⟨n1,u⟩:∃x,bo (bH ds us kind) ds 1 ds.length=x:=⟨_,rfl⟩;rw[u] at f1;obtain⟨n2,s⟩:∃x,bo (bH ds us kind) ds 2 ds.length=x:=⟨_,rfl⟩;rw[s] at f2;obtain⟨M,r⟩:∃x,bo (bH ds us kind) ds 3 ds.length=x:=⟨_,rfl⟩;rw[r] at f3;obtain⟨m0,p⟩:∃x,bo (dr ds kind) ds 0 ds.length=x:=⟨_,rfl⟩;rw[p] at a0;obtain⟨m1,f⟩:∃x,bo (dr ds kind) ds 1 ds.length=x:=⟨_,rfl⟩;rw[f] at Z;obtain⟨m2,y⟩:∃x,bo (dr ds kind) ds 2 ds.length=x:=⟨_,rfl⟩;rw[y] at a2;obtain⟨Q,d⟩:∃x,bo (dr ds kind) ds 3 ds.length=x:=⟨_,rfl⟩;rw[d] at a3;have b:=qI (And.intro (And.intro q (And.intro u (And.intro s r))) (And.intro p (And.intro f (And.intro y d))));clear q u s r p f y d
   go_wp2
   go_region
   go_wp2
   refine bodyPost_ret (v:=.tuple #[.agg #[(G:Int),(n1:Int),(n2:Int),(M:Int)],.agg #[(m0:Int),(m1:Int),(m2:Int),(Q:Int)]]) ?_ rfl ⟨?_,?_⟩
   ·rw[NQ rfl];go_simp
   ·obtain⟨⟨U,W,S,X⟩,r0,r1,r2,V⟩:=b.o;subst U W S X r0 r1 r2 V;rfl
   ·exact Dg (((((((((T.o.setCell (lR) _).setCell (lR) _).setCell (lR) _).setCell (lR) _).setCell (Nat.le_succ _) _).setCell (Nat.le_succ _) _).setCell (Nat.le_succ _) _).setCell (Nat.le_succ _) _))
theorem NS(m n:Nat)(a:m<256):(bits BinOp.and IntKind.u8 ((m:Int) / 2 ^ n) 1 == 1)=m.testBit n:=by
 have e:((m:Int) / 2 ^ n)=((m / 2 ^ n:Nat):Int):=by simp
 have Ha:m / 2 ^ n<256:=Nat.lt_of_le_of_lt (Nat.div_le_self _ _) a;rw[e,Nat.testBit_eq_decide_div_mod_eq];generalize m / 2 ^ n=q at Ha;have key:∀q:Fin 256,(bits BinOp.and IntKind.u8 ((q.val:Nat):Int) 1 == 1)=decide (q.val % 2=1):=by decide +kernel
 exact key ⟨q,Ha⟩
theorem xT:(prog.info? 3).map (λi=>(i.zero,i.size,i.bytes))=some (some (.int .i64 0),1,8):=by kernel_rfl
def dh (l:List Nat):List Value:=l.map λ(n:Nat)=>Value.int .i64 (n:Int)
theorem NT(l:List Nat)(n:Nat):dh (l++[n])=dh l++[.int .i64 n]:=by simp[dh]
theorem xU(l:List Nat):(dh l).length=l.length:=by simp[dh]
def ints (l:List Nat):List Int:=l.map λ(n:Nat)=>(n:Int)
theorem sG(l:List Nat):(ints l).length=l.length:=by simp[ints]
def Row (w:World) (B:Nat) (v:Value) (l:List Nat):Prop:=w.ownsRow B 3 1 v l.length (dh l)
theorem NU(h:¬ (aH ds k).kind=kind):bH ds us kind k=false:=by grind[bH]
theorem NV(h:(aH ds k).sick=true):bH ds us kind k=false:=by rw[bH,h];simp
theorem NW(h:us k=true):bH ds us kind k=false:=by rw[bH,h];simp
theorem NX(h:(aH ds k).kind=kind)(a:(aH ds k).sick=false)(b:us k=false):bH ds us kind k=true:=by grind[bH]
theorem Dh{b:Bool}(h:bH ds us kind k=true)(a:oQ ds m k=b):eH ds us kind m k=b:=by rw[eH,h,a];rfl
theorem xV(h:bH ds us kind k=false):eH ds us kind m k=false:=by rw[eH,h];rfl
theorem NY{w:World}{o:Obj}{x:Value}{t:TypeId}:∀j u,[x][j]?=some u->((w.alloc o).alloc (.cells #[x] t)).cell? ((⟨w.heap.size+1,0,none⟩:Addr).add j)=some u:=by
 have h:=cell_one_new (w.alloc o) x t
 rwa [show (w.alloc o).heap.size=w.heap.size+1 by simp] at h
theorem Di(kind:ByteArray)(M:Nat){w:World}{u db:Nat}{A:Option Addr}{c:Nat}{ds:List aq}{us:Nat->Bool}(h:aM w u db A c ds us)(C:fS ds)(H:M<256) :
  Calls pg 171 #[.pointer (some ⟨u,0,none⟩),.string kind,.int .u8 M] w λe w'=>∃v,e=.returned v/\Row w' w v (cu (eH ds us kind M) ds.length)/\Bw w w':=by
 obtain⟨i0,hi,Ho,Hq,Hs⟩:=info_parts xT;have Hp:=h.row;have B:=qI C;have y:=qI h;clear h C
 go_enter func171,ntmps171
 go_wp2
 go_loopw [7,15] (λv i wr=>∃k:Nat,k<=ds.length/\i=.int .i64 k/\Row wr w v (cu (eH ds us kind M) k)/\aM wr u db A c ds us/\Bw w wr) (λ_ i _=>ds.length - (intOf i).toNat)
 exact⟨0,by omega,rfl,Qw _ _ _ _,y,Q0 _ _⟩
 ·obtain⟨k,L,rfl,x,r,g⟩:=hrel
  by_cases s:k<ds.length
  ·have Hm:k<16:=by have:=B.o.1;omega
   obtain⟨rfl,Hx,_⟩:=r.at0 (by omega);obtain⟨c0,c1,c2,_⟩:=r.cells k s;obtain⟨E,P⟩:=B.o.2 k s;obtain⟨m,K⟩:=Int.eq_ofNat_of_zero_le E;have Ht:m<4:=by omega
   have l:=qI λf=>NU (us:=us) (kind:=kind) (k:=k) (ds:=ds) f;have q:=qI λf=>NV (us:=us) (kind:=kind) (k:=k) (ds:=ds) f;have o:=qI λJ F D=>NX (us:=us) (kind:=kind) (k:=k) (ds:=ds) J F D;have Hk:Hu (oQ ds M k=M.testBit m):=by grind[Hu,oQ]
   have Hc:=qI λf=>oP (p:=eH ds us kind M) (n:=k) f;have Hg:=qI λf=>uh (p:=eH ds us kind M) (n:=k) f;have Hv:=rR (eH ds us kind M) k;rw[K] at c1;generalize (aH ds k).kind=b at *;generalize (aH ds k).sick=t at *;have He:=qI (g.alloc g.size (.cells #[b,(m:Int),t] 77));have Hh:=qI (r.alloc (.cells #[b,(m:Int),t] 77));have Hb:=qI (x.alloc (.cells #[b,(m:Int),t] 77));have z:=(Hh.o.used k Hm).1;have Hw:=g.size;clear x r g
   by_cases a:b=kind
   ·subst a
    rcases two t with hs|hs
    ·subst hs;have HS:Hu (cu (eH ds us b M) (k+1)=_):=Hc.o (xV (q.o rfl));clear l q o Hc Hg
     go_wp2
     go_roundw
     exact⟨k+1,by omega,by go_num,by rw[HS.o];exact Hb.o,Hh,He⟩
     simp[intOf];omega
    ·subst hs
     rcases two (us k) with Hf|Hf
     ·have HS:Hu (cu (eH ds us b M) (k+1)=_):=Hc.o (xV (NW Hf));rw[Hf] at z;clear l q o Hc Hg Hf
      go_wp2
      go_roundw
      exact⟨k+1,by omega,by go_num,by rw[HS.o];exact Hb.o,Hh,He⟩
      simp[intOf];omega
     ·have Hl:=o.o rfl rfl Hf;rw[Hf] at z;have Hj:=NS M m H
      rcases two (M.testBit m) with d|d
      ·have HS:Hu (cu (eH ds us b M) (k+1)=_):=Hg.o (Dh Hl (Hk.o.trans d));rw[d] at Hj;clear l q o Hc Hg Hf Hl Hk d
       go_wp2_with (at_builtin;refine wpList_append_own _ rfl _ _ 46 rfl w 3 i0 (0:Int) 1 8 underlying46 hi Ho Hq Hs rfl (by decide) _ _ _ rfl (Hb.o.alloc _) ⟨_,0,none⟩ 1 1 [.int .i64 k] rfl rfl (NY) (ints_oneCell .i64 [(k:Int)]) (by unfold maxLen;omega) (by omega) (by simp;omega) ?_;intro O N Hi Ha _)
       go_roundw
       case rel=>
        refine⟨k+1,by omega,by go_num,?_,?_,?_⟩
        ·rw[HS.o,Row,NT,Q2];exact Hi
        ·refine (Hh.o.alloc _).kept Ha (λe=>?_) λI e=>?_
         ·have:=(Hb.o.lt u e.symm).1;have:=y.o.lt;omega
         ·have:=(Hb.o.lt db e.symm).1;have:=(y.o.at0 I).2.2;omega
        ·exact (He.o.alloc He.o.size _).grown Ha (by have:=He.o.size;simp at this ⊢;omega) λj G=>(Hb.o.lt j G).1
       case measure=>simp[intOf];omega
      ·have HS:Hu (cu (eH ds us b M) (k+1)=_):=Hc.o (Dh Hl (Hk.o.trans d));rw[d] at Hj;clear l q o Hc Hg Hf Hl Hk d
       go_wp2
       go_roundw
       exact⟨k+1,by omega,by go_num,by rw[HS.o];exact Hb.o,Hh,He⟩
       simp[intOf];omega
   ·have HS:Hu (cu (eH ds us kind M) (k+1)=_):=Hc.o (xV (l.o a));have Hn:=De a;clear l q o Hc Hg a
    go_wp2
    go_roundw
    exact⟨k+1,by omega,by go_num,by rw[HS.o];exact Hb.o,Hh,He⟩
    simp[intOf];omega
  ·have Hr:k=ds.length:=by omega
   subst Hr;have Hb:=qI x;have He:=qI g;clear x g r
   go_wp2
   go_ret;exact⟨_,rfl,Hb,He⟩
def dE (u:World) (T:Nat) (f:Nat->Bool):Prop:=∀j,j<16->u.cell? ⟨T,j,none⟩=some (.bool (f j))/\u.frozen? ⟨T,j,none⟩=false
theorem dE.lt{f:Nat->Bool}(h:dE u T f):T<u:=Q3 u _ (h 0 (by decide)).1
theorem dE.kept{f:Nat->Bool}(h:dE w T f)(b:w.grownBy w' g)(a:some T≠g):dE w' T f:=λj c=>
 ⟨(b.cell_far _ h.lt a).trans (h j c).1,(b.frozen_far _ h.lt a).trans (h j c).2⟩
theorem dE.below{f:Nat->Bool}(h:dE w T f)(a:Bw w w'):dE w' T f:=h.kept (fK a none) (by simp)
abbrev sH (f:Nat->Bool):Array Value:=#[.bool (f 0),.bool (f 1),.bool (f 2),.bool (f 3),.bool (f 4),.bool (f 5),.bool (f 6),.bool (f 7),.bool (f 8),.bool (f 9),.bool (f 10),.bool (f 11),.bool (f 12),.bool (f 13),.bool (f 14),.bool (f 15)]
theorem dE.made(u:World)(t:TypeId)(f:Nat->Bool):dE (u.alloc (.cells (sH f) t)) u f:=by
 intro j a
 have:j=0\/j=1\/j=2\/j=3\/j=4\/j=5\/j=6\/j=7\/j=8\/j=9\/j=10\/j=11\/j=12\/j=13\/j=14\/j=15:=by omega
 rcases this with rfl|rfl|rfl|rfl|rfl|rfl|rfl|rfl|rfl|rfl|rfl|rfl|rfl|rfl|rfl|rfl <;> exact⟨by simp,by simp⟩
theorem dE.set{f g:Nat->Bool}(h:dE u T f){m:Nat}(i:m<16)(b:Bool)(a:∀j,j<16->g j=if j=m then b else f j):dE (u.setCell ⟨T,m,none⟩ b) T g:=by
 intro j d;obtain⟨c,z⟩:=h j d;obtain⟨cm,_⟩:=h m i;refine⟨?_,(World.frozen?_setCell ..).trans z⟩;rw[a j d]
 by_cases e:j=m
 ·subst e
  simp
  clear c a;go_simp
 ·simp_all[Qb]
def sI (w:World) (pb:Nat) (f:Nat->Bool):Nat->World
 | 0=>w
 | k+1=>(sI w pb f k).setCell ⟨pb,1+k,none⟩ (.bool (f k))
theorem NZ(h:aM w pb db ao c ds us)(f:Nat->Bool)(k:Nat)(a:k<=16):aM (sI w pb f k) pb db ao c ds (λj=>if j<k then f j else us j):=by
 induction k with
 | zero=>simpa[sI] using h
 | succ k ih=>
  refine (ih (by omega)).set (by omega) (f k) λj _=>?_
  by_cases e:j=k
  ·grind
  ·grind
theorem N0(w:World)(a:Nat)(f:Nat->Bool)(k:Nat):w.grownBy (sI w a f k) (some a):=by
 induction k with
 | zero=>exact xP
 | succ k ih=>exact ih.trans (dD _ _ _)
theorem aM.congr{vs:Nat->Bool}(h:aM w pb db ao c ds us)(e:∀j,j<16->vs j=us j):aM w pb db ao c ds vs:=
 ⟨h.row,h.at0,h.cells,λj a=>by rw[e j a];exact h.used j a⟩
theorem N1(h:aM w pb db ao c ds us)(f:Nat->Bool):aM (sI w pb f 16) pb db ao c ds f:=
 (NZ h f 16 (lR)).congr (λj a=>by rw[if_pos a])
theorem N2{l:List Int}(h:i7 (bx l k) n=false):eU n us l k=1:=by
 grind[eU,i7]
theorem N3{x:Int}(h:i7 x n=true):∃m:Nat,x=(m:Int)/\m<n:=by
 simp[i7] at h
 exact⟨x.toNat,by omega,by omega⟩
theorem N4{l:List Int}{m:Nat}(h:bx l k=(m:Int))(b:m<n)(a:cM us (l.take k) m=true):eU n us l k=5:=by
 rw[eU,h,if_neg (by omega),if_pos];exact a
theorem N5{l:List Int}{m:Nat}(h:bx l k=(m:Int))(a:m<n)(b:cM us (l.take k) m=false):eU n us l k=0:=by
 grind[eU,cM]
theorem N6{l:List Int}{m:Nat}(a:k<l.length)(h:bx l k=(m:Int))(j:Nat):cM us (l.take (k+1)) j=if j=m then true else cM us (l.take k) j:=by grind[AR,AZ]
def mF (n:Nat) (us:Nat->Bool) (l:List Int):Nat->Bool:=if bA (eU n us l) l.length=0 then cM us l else us
theorem N7{v:Value}{g o:Nat}{l:List Int}{w:World}{d db:Nat}{A:Option Addr}{c:Nat}{ds:List aq}{us:Nat->Bool}(h:aM w d db A c ds us)(J:fS ds)(I:jM w v g o l)(Q:l.length<=9223372036854775807) :
  Calls pg 162 #[.pointer (some ⟨d,0,none⟩),v] w λe w'=>e=.returned (aD (bA (eU ds.length us l) l.length:Nat))/\w.grownBy w' (some d)/\aM w' d db A c ds (mF ds.length us l):=by
 have HL:=qI I;obtain⟨al,cl,rfl,_⟩:=I;have Z:=qI J;have H:=qI h;have u0:=(h.used 0 (by decide)).1;have u1:=(h.used 1 (by decide)).1;have u2:=(h.used 2 (by decide)).1;have u3:=(h.used 3 (by decide)).1;have u4:=(h.used 4 (by decide)).1;have u5:=(h.used 5 (by decide)).1;have u6:=(h.used 6 (by decide)).1;have u7:=(h.used 7 (by decide)).1;have u8:=(h.used 8 (by decide)).1;have u9:=(h.used 9 (by decide)).1;have W:=(h.used 10 (by decide)).1;have HU:=(h.used 11 (by decide)).1;have O:=(h.used 12 (by decide)).1;have HR:=(h.used 13 (by decide)).1;have L:=(h.used 14 (by decide)).1;have U:=(h.used 15 (by decide)).1;have Hl:Hu (dE (w.alloc (.cells (sH us) 119)) w (cM us (l.take 0))):=by
  simp_all[AY,dE.made]
 have Hk:=qI (h.alloc (.cells (sH us) 119));have Hg:=qI ((Q0 w w).alloc (lR) (.cells (sH us) 119));have Hm:=qI (HL.o.below Hg);unfold sH at Hl Hk Hg Hm;clear h J
 go_enter func162,ntmps162
 go_wp2
 go_loopw [14] (λi wr=>∃k:Nat,k<=l.length/\i=.int .i64 k/\Hu (bA (eU ds.length us l) k=0)/\dE wr w (cM us (l.take k))/\aM wr d db A c ds us/\jM wr (.slice al l.length cl) g o l/\Bw w wr) (λi _=>l.length - (intOf i).toNat)
 exact⟨0,by omega,rfl,rfl,Hl,Hk,Hm,Hg⟩
 ·obtain⟨k,hk,rfl,C,b,a,Hh,u⟩:=hrel;have hp:=H.o.lt
  by_cases t:k<l.length
  ·have Hq:=qI Hh;obtain⟨K,HQ,hv,He⟩:=Hh;obtain⟨rfl,Hx,He⟩:=He (by omega);cases hv;have E:=He k t;have HT:=qI b;have Hi:=qI a;have Hf:=qI u;have r:=qI (xQ (bx l k) a);have y:=qI λn F=>(mh (f:=eU ds.length us l) (n:=l.length) C (by rw[F];simp) t).trans (F:eU ds.length us l k=n+1)
   rcases two (i7 (bx l k) ds.length) with s|s
   ·obtain⟨m,z,Hn⟩:=N3 s;have Hc:m<16:=by have:=Z.o.1;omega
    have Hb:=(b m Hc);have Ha:=Hb.1;have Hj:=Hb.2;have Hw:=(a.used m Hc).1;rw[s] at r;clear Hb b a u He s
    rcases two (cM us (l.take k) m) with q|q
    ·have B:=qI (y.o 4 (N4 z Hn q));have x:Hu (mF ds.length us l=us):=by grind[Hu,mF]
     rw[q] at Ha;rw[z] at E r;clear q y
     go_wp2
     refine r.o.e ?_
     go_wp2
     go_ret;exact⟨by rw[B.o];rfl,fK Hf _,by rw[x.o];exact Hi.o⟩
    ·have Ht:Hu (bA (eU ds.length us l) (k+1)=0):=nk C (N5 z Hn q);have Ho:=qI (HT.o.set (g:=cM us (l.take (k+1))) Hc true λj _=>N6 t z j);have Hv:=qI (Hi.o.kept (dD wr ⟨w,m,none⟩ true) (by simp;omega) (λD=>by have:=(H.o.at0 D).2.2;simp;omega));have Hs:=qI (Hq.o.kept (dD wr ⟨w,m,none⟩ true) (λD=>by grind));have Hp:=qI (Hf.o.setCell (p:=⟨w,m,none⟩) (lR) true);rw[q] at Ha;rw[z] at E r;clear q y
     go_wp2
     refine r.o.e ?_
     go_wp2
     go_roundw
     exact⟨k+1,by omega,by go_num,Ht,Ho,Hv,Hs,Hp⟩
     simp[intOf];omega
   ·have B:=qI (y.o 0 (N2 s));have x:Hu (mF ds.length us l=us):=by grind[Hu,mF]
    rw[s] at r;clear s y b a u He
    go_wp2
    refine r.o.e ?_
    go_wp2
    go_ret;exact⟨by rw[B.o];rfl,fK Hf _,by rw[x.o];exact Hi.o⟩
  ·have Hr:k=l.length:=by omega
   subst Hr;have x:Hu (mF ds.length us l=cM us (l.take l.length)):=by grind[Hu,mF]
   have Hf:=qI u;have X:=qI (N1 a (cM us (l.take l.length)));have HG:=qI ((fK u (some d)).trans (N0 wr d (cM us (l.take l.length)) 16));have t0:=(b 0 (by decide)).1;have z0:=(a.used 0 (by decide)).2;have s0:=(a.used 0 (by decide)).1;have t1:=(b 1 (by decide)).1;have z1:=(a.used 1 (by decide)).2;have s1:=(a.used 1 (by decide)).1;have t2:=(b 2 (by decide)).1;have z2:=(a.used 2 (by decide)).2;have s2:=(a.used 2 (by decide)).1;have t3:=(b 3 (by decide)).1;have z3:=(a.used 3 (by decide)).2;have s3:=(a.used 3 (by decide)).1;have t4:=(b 4 (by decide)).1;have z4:=(a.used 4 (by decide)).2;have s4:=(a.used 4 (by decide)).1;have t5:=(b 5 (by decide)).1;have z5:=(a.used 5 (by decide)).2;have s5:=(a.used 5 (by decide)).1;have t6:=(b 6 (by decide)).1;have z6:=(a.used 6 (by decide)).2;have s6:=(a.used 6 (by decide)).1;have t7:=(b 7 (by decide)).1;have z7:=(a.used 7 (by decide)).2;have s7:=(a.used 7 (by decide)).1;have t8:=(b 8 (by decide)).1;have z8:=(a.used 8 (by decide)).2;have s8:=(a.used 8 (by decide)).1;have t9:=(b 9 (by decide)).1;have z9:=(a.used 9 (by decide)).2;have s9:=(a.used 9 (by decide)).1;have T:=(b 10 (by decide)).1;have HM:=(a.used 10 (by decide)).2;have HC:=(a.used 10 (by decide)).1;have S:=(b 11 (by decide)).1;have M:=(a.used 11 (by decide)).2;have R:=(a.used 11 (by decide)).1;have V:=(b 12 (by decide)).1;have HA:=(a.used 12 (by decide)).2;have HV:=(a.used 12 (by decide)).1;have HI:=(b 13 (by decide)).1;have HB:=(a.used 13 (by decide)).2;have HX:=(a.used 13 (by decide)).1;have P:=(b 14 (by decide)).1;have Y:=(a.used 14 (by decide)).2;have HD:=(a.used 14 (by decide)).1;have HJ:=(b 15 (by decide)).1;have HY:=(a.used 15 (by decide)).2;have N:=(a.used 15 (by decide)).1;clear b a u Hh;generalize cM us (l.take l.length)=f at *
   go_wp2
   go_ret;refine⟨by rw[C.o];rfl,HG,?_⟩;rw[x.o];exact X.o
def Src (w:World) (v:Value) (l:List Nat):Prop:=
 (v=.slice none 0 0/\l=[])\/∃g c,v=.slice (some ⟨g,0,none⟩) l.length c/\g<w.heap.size/\∀j u,(dh l)[j]?=some u->w.cell? ((g:Addr).add j)=some u
theorem Row.src(h:Row w B v l):Src w v l:=by
 unfold Row at h
 rcases h.2 with⟨rfl,c⟩|⟨g,a,b,rfl,e,Ha,_⟩
 ·exact .inl ⟨rfl,Qe c⟩
 ·refine .inr ⟨g,a,rfl,(gS Ha).1,λj u d=>?_⟩;have Hb:j<l.length:=by grind
  rw[Addr.add_lit,Qd,h.cellAt j (by omega)];exact d
theorem Src.below(h:Src w v l)(b:Bw w w'):Src w' v l:=by
 rcases h with h|⟨g,c,d,a,e⟩
 ·exact .inl h
 ·exact .inr ⟨g,c,d,Q1 a b.size,λj u f=>(b.cell (p:=(g:Addr).add j) (by grind[Addr.add_lit])).trans (e j u f)⟩
theorem Src.form{v:Value}(h:Src w v l):∃a c,v=.slice a l.length c:=by cases h <;> grind
theorem xW(l:List Nat):∀u∈dh l,u.oneCell'=true:=by
 intro u a;simp only[dh,Qk] at a;obtain⟨x,_,rfl⟩:=a;rfl
theorem N8(n:Nat)(w:World)(h:n<=1000):Calls pg 215 #[(),.int .i64 n] w λe w'=>∃v,e=.returned v/\Row w' w v []/\Bw w w':=by
 by_cases c:n=0
 ·subst c;refine (Any8.slices_Grow_room Tryz.growL none 0 0 0 w (by omega) (by omega) (by omega) (by omega)).e ?_;exact⟨_,rfl,Qw _ _ _ _,Q0 _ _⟩
 ·obtain⟨i0,hi,Hb,He,Hf⟩:=info_parts xT;have Hc:prog.info? (Tryz.growL_ren.t 25)=some i0:=hi;refine (Any8.slices_Grow_grow Tryz.growL i0 (0:Int) Hc Hb (by omega) none 0 0 n [] w (by omega) (by omega) (by rw[Hf];omega) (by omega) (by rw[He];rfl) (λ_=>rfl) (λa d=>by cases d)).mono ?_;have g:Tryz.growL_ren.t 25=3:=by kernel_rfl
  rw[g];have Hg:=grownCap_ge w (0+n) 0 3;have hle:=grownCap_le_maxLen w (0+n) 0 3 (by unfold maxLen;omega);generalize grownCap w (0+n) 0 3=G at *;rintro e w' ⟨rfl,rfl⟩;have f:(([]:List Value).toArray++Builtin.zeroCells (Value.int .i64 0).cells (0+n - 0)++Builtin.zeroCells (Value.int .i64 0).cells (G - (0+n))).size=G*1:=by
   grind[Builtin.zeroCells,Value.cells]
  generalize (([]:List Value).toArray++Builtin.zeroCells (Value.int .i64 0).cells (0+n - 0)++Builtin.zeroCells (Value.int .i64 0).cells (G - (0+n)))=b at *;have Ha:World.ownsRow (w.drew.alloc (.cells b 3)) w 3 1 (.slice w 0 G) 0 []:=by
   unfold World.ownsRow;refine⟨rfl,.inr ⟨w,G,b,rfl,lR,?_,Nat.zero_le _,hle,f,by simp⟩⟩
   show (w.heap.push (.cells b 3))[w.heap.size]?=_
   simp
  refine⟨_,rfl,Ha,?_⟩
  ·exact (Dg (Q0 w w)).alloc (lR) _
def sJ (l1 l2:List Nat):Nat->List Nat
 | 0=>[]
 | 1=>l1
 | _=>l1++l2
theorem N9{z v2:Value}{a b:List Nat}{T:Nat}{w:World}(r:Src w z a)(x:Src w v2 b)(c1:w.cell? T=some z)(c2:w.cell? ⟨T,1,none⟩=some v2)(F:a.length<=16)(E:b.length<=16) :
  Calls pg 170 #[.slice T 2 2] w λe w'=>∃v,e=.returned v/\Row w' w v (a++b)/\Bw w w':=by
 obtain⟨i0,hi,Hi,Hh,Hj⟩:=info_parts xT;have Hn:=qI r;have Hm:=qI x;have B:=qI (Q3 w _ c1);obtain⟨L,D,rfl⟩:=r.form;obtain⟨a2,G,rfl⟩:=x.form;clear r x
 go_enter func170,ntmps170
 go_wp2
 go_loop [3,11] (λs i=>∃k:Nat,k<=2/\i=.int .i64 k/\s=.int .i64 ((sJ a b k).length:Nat)) (λ_ i=>2 - (intOf i).toNat)
 exact⟨0,by omega,rfl,rfl⟩
 ·obtain⟨k,I,rfl,rfl⟩:=hrel;have key:k=0\/k=1\/k=2:=by omega
  rcases key with rfl|rfl|rfl
  ·have m:(sJ a b 0).length=0:=rfl;rw[m]
   go_wp2
   go_round
   exact⟨1,by omega,rfl,by show _=Value.int .i64 (a.length:Nat);go_num⟩
   simp[intOf]
  ·have m:(sJ a b 1).length=a.length:=rfl;rw[m]
   go_wp2
   go_round
   exact⟨2,by omega,rfl,by show _=Value.int .i64 ((a++b).length:Nat);rw[Q2];go_num⟩
   simp[intOf]
  ·have m:(sJ a b 2).length=a.length+b.length:=Q2;rw[m]
   go_wp2
   refine (N8 (a.length+b.length) w (by omega)).mono ?_;rintro e M ⟨v,rfl,d,A⟩;have C:=qI d;have J:=qI A;clear d A
   go_wp2
   go_loopw [6,27] (λu i wr=>∃k:Nat,k<=2/\i=.int .i64 k/\Row wr w u (sJ a b k)/\Bw w wr) (λ_ i _=>2 - (intOf i).toNat)
   exact⟨0,by omega,rfl,C,J⟩
   ·obtain⟨k,I,rfl,Hc,c⟩:=hrel;have key:k=0\/k=1\/k=2:=by omega
    rcases key with rfl|rfl|rfl
    ·have t:=Hn.o.below c;have q:=(c.cell (p:=T) B).trans c1;have d:World.ownsRow wr w 3 1 u6 ([]:List Nat).length (dh ([]:List Nat)):=Hc;clear Hc
     rcases t with⟨f,o⟩|⟨g,cc,f,Hk,He⟩
     ·simp only[Value.slice.injEq] at f;obtain⟨l,n,h⟩:=f;subst l h;rw[n] at q;have Hf:=qI o;clear o n
      go_wp2_with (at_builtin;refine wpList_append_own_none rfl _ _ 46 rfl w 3 i0 1 underlying46 hi _ _ _ rfl d rfl ?_)
      go_roundw
      case rel=>
       refine⟨1,by omega,rfl,?_,c⟩
       show Row _ _ _ (a)
       rw[Hf.o];exact d
      case measure=>simp[intOf]
     ·simp only[Value.slice.injEq] at f;obtain⟨l,_,h⟩:=f;subst l h;have Hg:=c.size
      go_wp2_with (at_builtin;refine wpList_append_own _ rfl _ _ 46 rfl w 3 i0 (0:Int) 1 8 underlying46 hi Hi Hh Hj rfl (by decide) _ _ _ rfl d g a.length D (dh a) rfl (by simp[xU]) He (xW a) (by grind[maxLen]) (by simp;omega) (by omega) ?_;intro H K Hb Ha _)
      go_roundw
      case rel=>
       refine⟨1,by omega,rfl,?_,c.grown Ha Hg λj y=>(d.lt j y).1⟩
       show World.ownsRow _ _ _ _ _ (a).length (dh (a))
       simpa[dh] using Hb
      case measure=>simp[intOf]
    ·have t:=Hm.o.below c;have q:=(c.cell (p:=⟨T,1,none⟩) B).trans c2;have d:World.ownsRow wr w 3 1 u6 (a).length (dh (a)):=Hc;clear Hc
     rcases t with⟨f,o⟩|⟨g,cc,f,Hk,He⟩
     ·simp only[Value.slice.injEq] at f;obtain⟨l,n,h⟩:=f;subst l h;rw[n] at q;have Hf:=qI o;clear o n
      go_wp2_with (at_builtin;refine wpList_append_own_none rfl _ _ 46 rfl w 3 i0 1 underlying46 hi _ _ _ rfl d rfl ?_)
      go_roundw
      case rel=>
       refine⟨2,by omega,rfl,?_,c⟩
       show Row _ _ _ (a++b)
       rw[Hf.o,List.append_nil];exact d
      case measure=>simp[intOf]
     ·simp only[Value.slice.injEq] at f;obtain⟨l,_,h⟩:=f;subst l h;have Hg:=c.size
      go_wp2_with (at_builtin;refine wpList_append_own _ rfl _ _ 46 rfl w 3 i0 (0:Int) 1 8 underlying46 hi Hi Hh Hj rfl (by decide) _ _ _ rfl d g b.length G (dh b) rfl (by simp[xU]) He (xW b) (by unfold maxLen;omega) (by omega) (by omega) ?_;intro H K Hb Ha _)
      go_roundw
      case rel=>
       refine⟨2,by omega,rfl,?_,c.grown Ha Hg λj y=>(d.lt j y).1⟩
       show World.ownsRow _ _ _ _ _ (a++b).length (dh (a++b))
       have e:dh (a++b)=dh a++dh b:=by simp[dh]
       rw[e,Q2];exact Hb
      case measure=>simp[intOf]
    ·have Ho:=qI Hc;have Hl:=qI c;clear Hc c
     go_wp2
     go_ret;exact⟨_,rfl,Ho,Hl⟩
theorem Ob(m:Nat){n:Nat}(c:m<256)(d:n<=3):(255 - m).testBit n=!m.testBit n:=by
 have key:∀(a:Fin 256) (b:Fin 4),(255 - a.val).testBit b.val=!a.val.testBit b.val:=by decide +kernel
 exact key ⟨m,c⟩ ⟨n,by omega⟩
theorem Oc(b:fS ds)(us:Nat->Bool)(kind:ByteArray)(m:Nat)(a:m<256):cu (eH ds us kind (255 - m)) ds.length=cu (mg ds us kind m) ds.length:=by
 refine AU λj c=>?_
 have:=b.2 j c
 unfold eH mg oQ;rw[Ob m a (by omega)]
theorem Of(m:Nat)(b:m<256):bits BinOp.xor IntKind.u8 IntKind.u8.max (m:Int)=((255 - m:Nat):Int):=by
 have key:∀(a:Fin 256),bits BinOp.xor IntKind.u8 IntKind.u8.max ((a.val:Nat):Int)=((255 - a.val:Nat):Int):=by decide +kernel
 exact key ⟨m,b⟩
def pC (bad:Nat->Value) (w:World) (pb db:Nat) (ao:Option Addr) (c:Nat) (ds:List aq) (us:Nat->Bool) (kind:ByteArray) (m:Nat) (many:Int) (e:Ending) (w':World):Prop:=
 (ez ds us kind many≠0->e=.returned (.tuple #[.slice none 0 0,bad (ez ds us kind many)])/\Below w w w')/\
 (ez ds us kind many=0->∃v g,e=.returned (.tuple #[v,bad 0])/\jM w' v g 0 (ints (bV (dB ds us kind m many.toNat)))/\(0<(bV (dB ds us kind m many.toNat)).length->w.heap.size<=g)/\aM w' pb db ao c ds (fk us (dB ds us kind m many.toNat)))/\
 w.grownBy w' (some pb)
theorem pC.wrong{many:Int}(hf:ez ds us kind many=n)(d:n≠0)(b:e=.returned (.tuple #[(),bad n]))(a:Bw w w'):pC bad w pb db ao c ds us kind m many e w':=
 ⟨λ_=>⟨by rw[hf];exact b,a⟩,λh=>by omega,fK a _⟩
theorem Row.nums(h:Row w B v l):∃g,jM w v g 0 (ints l)/\(0<l.length->B<=g):=by
 unfold Row at h
 rcases h.2 with⟨rfl,d⟩|⟨g,a,c,rfl,e,Ha,_⟩
 ·have:=Qe d
  subst this;exact⟨0,⟨none,0,rfl,λh=>by simp[ints] at h⟩,λh=>by simp at h⟩
 ·refine⟨g,⟨_,a,by rw[sG],λ_=>⟨rfl,(gS Ha).1,λk b=>?_⟩⟩,λ_=>e⟩;rw[sG] at b;rw[Qd,h.cellAt k (by omega)]
  simp[dh,bx,ints,b]
theorem Dj{b c:World}{r f:Option Nat}(h:a.grownBy b r)(k:b.grownBy c f)(g:∀j,f=some j->a.heap.size<=j\/r=some j):a.grownBy c r:=
 ⟨k.os.trans h.os,k.tape.trans h.tape,k.output.trans h.output,Q5 h.size k.size,λi hi d=>(k.block i (Q1 hi h.size) (λe=>by grind)).trans (h.block i hi d)⟩
theorem Og{q:Nat}(a:l[k]?=some q)(j:Nat):fk us (l.take (k+1)) j=if j=q then true else fk us (l.take k) j:=by
 rw[List.take_add_one,a]
 show fk us (l.take k++[q]) j=_
 rw[JL]
 by_cases e:j=q
 ·grind
 ·grind
theorem Dl{L:List Nat}(d:∀j∈L,j<16)(o:L.Nodup){g a:Nat}{c:Array Value}(q:B<=g)(b:wr.heap[g]?=some (.cells c 3 (0,0)))(f:L.length<=a)(k:a<=maxLen)(h:c.size=a*1)(i:c.toList.take L.length=dh L)(l:L.length<4611686018427387904) :
  Calls pg 134 #[.slice g L.length a] wr λe w'=>e=.returned (.tuple #[])/\Row w' B (.slice g (bV L).length a) (bV L)/\wr.grownBy w' (some g):=by
 have He:=(gS b).1;have Ha:=sG L;have Hc:(ints L).map (Value.int .i64)=dh L:=by simp[ints,dh]
 have r:=holds_of_blockI (ss:=ints L) b (by rw[Ha,i,Hc]);have m:=Any.slices_Sort_int Tryz.sortL9 g 0 a (ints L) wr r He (by rw[Ha];exact l);rw[Ha] at m;refine m.mono ?_;rintro e w' ⟨rfl,n,os,rfl⟩;have Hf:(ints L).mergeSort (λx y=>decide (x<=y))=ints (bV L):=JQ d o;have Hb:=ul d o;rw[Hf];refine⟨rfl,?_,grownBy_sortedI _⟩
 have:=ownsRow_sortedI (ss:=ints L) (ts:=ints (bV L)) (base:=B) (n:=n) (os:=os) (by grind[sG]) q b (by rw[Ha];exact f) k h
 rw[Ha] at this;unfold Row;rw[Hb];have p:(ints (bV L)).map (Value.int .i64)=dh (bV L):=by simp[ints,dh]
 rw[p] at this;exact this
theorem Oh(kind:ByteArray)(many:Int)(m:Nat)(w:World)(a:Nat)(h:many<0) :
  CE 133 #[a,kind,many,.int .u8 m] w (.tuple #[(),.iface 108 (1:Int)]):=by
 go_enter func133,ntmps133
 go_wp2
 go_ret2;exact⟨rfl,rfl⟩
theorem Oi(kind:ByteArray)(many m:Nat)(w:World)(a db:Nat)(o:Option Addr)(c:Nat)(ds:List aq)(us:Nat->Bool)(h:aM w a db o c ds us)(l:fS ds)(D:m<256) :
  Calls pg 133 #[.pointer (some ⟨a,0,none⟩),.string kind,.int .i64 many,.int .u8 m] w λe w'=>pC (λn=>aD n) w a db o c ds us kind m many e w':=by
 have F:=qI (Di kind m h l D);have S:Hu (∀W,aM W a db o c ds us->Calls pg 171 #[.pointer (some ⟨a,0,none⟩),.string kind,.int .u8 (bits BinOp.xor IntKind.u8 IntKind.u8.max m)] W λe w'=>∃v,e=.returned v/\Row w' W.heap.size v (cu (mg ds us kind m) ds.length)/\Bw W w'):=by
  intro W hW;rw[Of m D,<- Oc l us kind m D];exact Di kind (255 - m) hW l (by omega)
 have B:=qI h;have HN:=qI l;have X:Hu (fm ds us kind m=cu (eH ds us kind m) ds.length++cu (mg ds us kind m) ds.length):=rfl;have H8:=qI (AW ds us kind m);have hc:=rR (eH ds us kind m) ds.length;have he:=rR (mg ds us kind m) ds.length;have hl:=l.1;clear h l;generalize cu (eH ds us kind m) ds.length=P at *;generalize cu (mg ds us kind m) ds.length=J at *
 go_enter func133,ntmps133
 go_wp2
 refine F.o.mono ?_;rintro e w1 ⟨Z,rfl,H,Hv⟩;have Hx:=qI H.src;have x:=qI (B.o.below Hv);have Hw:=qI Hv;clear H Hv F
 go_wp2
 refine (S.o w1 x).mono ?_;rintro e u ⟨v2,rfl,Hz,Hr⟩;have Hy:=Hw.t Hr;have Hh:=(Q0 u u).alloc (lR) (.cells #[Z,v2] 46);have I:=qI ((x.o.below Hr).below Hh);have Hj:=qI ((Hx.o.below Hr).below Hh);have He:=qI (Hz.src.below Hh);have Hl:=Hy.t Hh;obtain⟨a1,d1,rfl⟩:=Hx.o.form;obtain⟨a2,d2,rfl⟩:=Hz.src.form;clear Hz Hr Hh S Hx Hw x
 go_wp2
 refine (N9 Hj He (by simp) (by simp) (by omega) (by omega)).mono ?_;rintro e Q ⟨v3,rfl,Hb,z⟩;have E:=qI (I.o.below z);have Hm:=Hl.t z;have Ht:=Hl.o.size;rw[<- X.o] at Hb;clear z I Hl Hy Hj He;generalize (u.alloc (.cells #[.slice a1 P.length d1,.slice a2 J.length d2] 46)).heap.size=B3 at *;have H0:=qI Hb;unfold Row at Hb;have ha:(fm ds us kind m).length<=32:=by rw[X.o,Q2];omega
 have Hn:Hu (ez ds us kind many=if ((fm ds us kind m).length:Int)<many then 9 else 0):=by grind[Hu,ez]
 by_cases hf:(fm ds us kind m).length<many
 ·have Ha:Hu (ez ds us kind many=9):=Hn.o.trans (if_pos (by omega));clear Hn
  rcases Hb.2 with⟨rfl,d⟩|⟨g,f,b,rfl,G,Hf,H4,A,Hq,Hp⟩
  ·rw[d] at hf;clear Hb
   go_wp2
   go_ret2;exact pC.wrong Ha (by decide) rfl Hm
  ·clear Hb Hf Hq Hp
   go_wp2
   go_ret2;exact pC.wrong Ha (by decide) rfl Hm
 ·have Ha:Hu (ez ds us kind many=0):=Hn.o.trans (if_neg (by omega));clear Hn
  rcases Hb.2 with⟨rfl,d⟩|⟨g,f,b,rfl,G,Hf,H4,A,Hq,Hp⟩
  ·have H1:many=0:=by omega
   subst H1;have hb:=Qe d;have R:Hu (dB ds us kind m 0=[]):=by unfold Hu dB;simp
   clear Hb
   go_wp2
   go_loop [37] (λi=>i=.int .i64 0) (λ_=>0)
   case atStart=>rfl
   case round=>
    subst hrel
    go_wp2
    refine (Any.slices_Sort_int_none Tryz.sortL9 _ _ _).e ?_
    go_wp2
    go_ret2;refine⟨λC=>absurd Ha.o C,λ_=>⟨_,0,rfl,?_,?_,?_⟩,fK Hm _⟩
    ·show jM _ _ _ _ (ints (bV (dB ds us kind m 0)))
     rw[R.o];exact⟨none,0,rfl,λh=>by simp[ints,bV,cu] at h⟩
    ·simp[bV,dB,cu]
    ·show aM _ _ _ _ _ _ (fk us (dB ds us kind m 0))
     rw[R.o,AV];exact E.o
  ·have hi:many<=(fm ds us kind m).length:=by omega
   clear Hb;have N:g≠a:=by have:=B.o.lt;omega
   have Ho:Hu ((dB ds us kind m many).length=many):=by grind[Hu,dB]
   have HY:Hu (dB ds us kind m many=(fm ds us kind m).take many):=rfl;have Hc:Hu (∀j∈dB ds us kind m many,j<16):=λj r=>by have:=(oR r).1;omega
   have L:=qI (uj ds us kind m many);have HM:Hu (∀k q:Nat,(fm ds us kind m)[k]?=some q->q<16):=λk q s=>by
    have:=(AX.1 (List.mem_of_getElem? s)).1
    omega
   have Y:Hu (∀k,k<(fm ds us kind m).length->∃q:Nat,(fm ds us kind m)[k]?=some q/\Q.cell? ⟨g,k,none⟩=some (.int .i64 q)):=λk y=>by
    refine⟨(fm ds us kind m)[k],Qf y,?_⟩
    have:=H0.o
    unfold Row at this;rw[this.cellAt k (by omega)]
    simp[dh,y]
   have Hi:=(gS Hf).1;have HQ:=qI (And.intro Hf (And.intro A (And.intro Hq Hp)));clear Hf Hq Hp A;have H9:decide ((many:Int)<0)=false:=by simp
   go_wp2
   go_loopw [37] (λi wr=>∃k:Nat,k<=many/\i=.int .i64 k/\aM wr a db o c ds (fk us ((fm ds us kind m).take k))/\Q.grownBy wr (some a)) (λi _=>many - (intOf i).toNat)
   exact⟨0,by omega,rfl,by rw[List.take_zero,AV];exact E.o,xP⟩
   ·obtain⟨k,y,rfl,t,p⟩:=hrel
    by_cases hn:k<many
    ·obtain⟨q,s,V⟩:=Y.o k (by omega);have Hk:=HM.o k q s;have hx:=(p.cell_far ⟨g,k,none⟩ Hi (by simpa using N)).trans V;obtain⟨hu,hz⟩:=t.used q Hk;have HW:=qI (t.set (vs:=fk us ((fm ds us kind m).take (k+1))) Hk true λj _=>Og s j);have H2:=qI (p.trans (dD wr ⟨a,1+q,none⟩ true));clear t p V s
     go_wp2
     go_roundw
     exact⟨k+1,by omega,by go_num,HW,H2⟩
     simp[intOf];omega
    ·have H5:k=many:=by omega
     subst H5;have H7:=qI t;have U:=qI p;clear t p;have HS:Hu (Calls pg 134 #[.slice g k f] wr λe w'=>e=.returned (.tuple #[])/\Row w' B3 (.slice g k f) (bV (dB ds us kind m k))/\wr.grownBy w' (some g)):=by
      obtain⟨q1,q2,q3,T⟩:=HQ.o
      have:=Dl Hc L G (wr:=wr) ((U.o.block g Hi (by simpa using N)).trans q1) (by rw[Ho.o];omega) q2 q3 (by
       rw[Ho.o,HY.o];rw[Nat.mul_one] at T;have e:(b.toList.take (fm ds us kind m).length).take k=b.toList.take k:=by grind
       rw[<- e,T]
       simp[dh,List.map_take]) (by rw[Ho.o];omega)
      rw[ul Hc.o L.o,Ho.o] at this;exact this
     go_wp2
     refine HS.o.m λw5 ⟨K,Hs⟩=>?_;obtain⟨g5,M,Hg⟩:=K.nums;have H6:=qI (H7.o.kept Hs (by grind) (λd=>by have:=(B.o.at0 d).2.2;simp;omega));have HZ:=qI (Dj (fK Hm (some a)) U (λj r=>by right;exact r));have H3:=qI (Dj HZ Hs (λj r=>by left;cases r;omega));have O:=qI (And.intro M Hg);clear K Hs M Hg
     go_wp2
     go_ret2;refine⟨λC=>absurd Ha.o C,λ_=>⟨_,g5,rfl,O.o.1,λd=>Q5 Ht (O.o.2 d),?_⟩,H3⟩;exact H6.o
theorem aM.devsAt(h:aM w pb db ao c ds us):et w (.slice ao ds.length c) db 0 ds:=
 ⟨ao,c,rfl,λa=>⟨(h.at0 a).1,(h.at0 a).2.2,λk b=>by obtain⟨c0,c1,c2,_⟩:=h.cells k b;rw[Qd];exact⟨c0,c1,c2⟩⟩⟩
theorem Dm{w:World}{d db:Nat}{j:Option Addr}{c:Nat}{ds:List aq}{us:Nat->Bool}(h:aM w d db j c ds us)(f:fS ds) :
  Calls pg 78 #[.pointer (some ⟨d,0,none⟩)] w λe w'=>∃v,e=.returned v/\lF w w' v ds/\Bw w w':=by
 have k:=qI (Db h.devsAt f.1);have Ha:=h.row;clear h f
 go_enter func78,ntmps78
 go_wp2
 refine k.o.mono ?_;rintro e l ⟨v,rfl,a,b⟩;have g:=qI a;have i:=qI b;clear a b
 go_wp2
 go_ret;exact⟨_,rfl,g,i⟩
theorem Oj(kind:ByteArray)(many:Int)(m:Nat){w:World}{a db:Nat}{b:Option Addr}{c:Nat}{ds:List aq}{us:Nat->Bool}(h:aM w a db b c ds us)(g:fS ds)(f:m<256) :
  Calls pg 133 #[.pointer (some ⟨a,0,none⟩),.string kind,.int .i64 many,.int .u8 m] w λe w'=>pC (λn=>aD n) w a db b c ds us kind m many e w':=by
 by_cases d:many<0
 ·refine (Oh kind many m w a d).e ?_;exact pC.wrong (n:=1) (by grind[ez]) (by decide) rfl (Q0 _ _)
 ·grind[Int.eq_ofNat_of_zero_le,Oi]
