import Derived.Test.YtjlblidnfebmiaaGreatDoorF7
import Derived.Test.YtjlblidnfebmiaaGreatDoorF8
import Derived.Deep.AppendLies
import Derived.Shelf.Lay
import Derived.Shelf.Spec.SlicesGrow
import Derived.Sort.OwnSortedInts
import Derived.Ground.NamesProg
import Derived.BigRegion
import Derived.Laws.AppendOwnNone
set_option maxRecDepth 100000
set_option maxHeartbeats 16000000
open Go Go.RowKit Go.Shelf
open Go.Proofs.Tryz
namespace Go.Proofs.YtjlblidnfebmiaaGreatDoor
variable{ao:Option Addr}{c db g o pb:Nat}{ds:List ak}{l:List Int}{us:Nat->Bool}{v:Value}{w w':World}
theorem sP(x:UInt8)(w:World):Calls prog 119 #[.int .u8 x.toNat] w λe w'=>e=.returned (.bool (oX x))/\w'=w:=by
 unfold oX
 by_cases a:97<=x.toNat
 all_goals by_cases b:x.toNat<=122
 ·go_enter func119,ntmps119
  go_wp2
  go_ret;refine⟨?_,rfl⟩
  simp[a,b]
  try omega
 ·go_enter func119,ntmps119
  go_wp2
  go_ret;refine⟨?_,rfl⟩
  simp[a,b]
  try omega
 ·go_enter func119,ntmps119
  go_wp2
  go_ret;refine⟨?_,rfl⟩
  simp
  try omega
 ·omega
theorem sQ(x:UInt8)(w:World):Calls prog 118 #[.int .u8 x.toNat] w λe w'=>(∃n,e=.returned (.tuple #[(n:Int),.bool (oY x)]))/\w'=w:=by
 cases h:oY x
 ·exact (Ah x w h).mono λe w' ⟨he,hw⟩=>⟨⟨_,he⟩,hw⟩
 ·exact (vG x w h).mono λe w' ⟨he,hw⟩=>⟨⟨_,he⟩,hw⟩
theorem iW(s:ByteArray)(w:World):Calls prog 79 #[s] w λe w'=>e=.returned (.bool (bR s))/\w'=w:=by
 by_cases h:s.size=0
 ·have Hb:s.toList.isEmpty=true:=by rw[p9];simp[h]
  rw[Jc h];clear h
  go_enter func79,ntmps79
  go_wp2
  go_ret;exact⟨rfl,rfl⟩
 have Hb:s.toList.isEmpty=false:=by rw[p9];simp[h]
 by_cases m:8<s.size
 ·rw[Jd m]
  go_enter func79,ntmps79
  go_wp2
  go_ret;exact⟨rfl,rfl⟩
 have Hc:s.size<=8:=by omega
 rw[Je (by omega) Hc];clear m h
 go_enter func79,ntmps79
 go_wp2_with fail
 go_loop [15] (λi=>∃k:Nat,k<=s.size/\i=.int .i64 k/\Hu (fg (iU s) k=true)) (λi=>s.size - (intOf i).toNat)
 case atStart=>exact⟨0,Nat.zero_le _,rfl,rfl⟩
 case round=>
  obtain⟨k,p,rfl,l⟩:=hrel
  by_cases d:k<s.size
  ·have j:=qI (Jb s k d)
   rcases two (oX s[k]) with c|c
   ·have a:Hu (fg (iU s) (k+1)=true):=zU l.o (by rw[j.o,c];rfl)
    go_wp2_with fail
    refine (sQ _ _).mono ?_;rintro e f ⟨⟨n,rfl⟩,rfl⟩
    go_wp2_with fail
    refine (sP _ _).mono ?_;rintro e f ⟨rfl,rfl⟩;rw[c]
    go_wp2_with fail
    go_round
    case rel=>exact⟨k+1,by omega,by go_num,a⟩
    case measure=>simp[intOf];omega
   ·rcases two (oY s[k]) with g|g
    ·by_cases o:0<k
     ·have a:Hu (fg (iU s) (k+1)=true):=zU l.o (by rw[j.o,c,g,Qc o];rfl)
      go_wp2_with fail
      refine (sQ _ _).mono ?_;rintro e f ⟨⟨n,rfl⟩,rfl⟩;rw[g]
      go_wp2_with fail
      refine (sP _ _).mono ?_;rintro e f ⟨rfl,rfl⟩;rw[c]
      go_wp2_with fail
      go_round
      case rel=>exact⟨k+1,by omega,by go_num,a⟩
      case measure=>simp[intOf];omega
     ·have a:Hu (fg (iU s) s.size=false):=zV (k:=k) (by rw[j.o,c,g,Q7 o];rfl) d;have He:k=0:=by omega
      subst He
      go_wp2_with fail
      refine (sQ _ _).mono ?_;rintro e f ⟨⟨n,rfl⟩,rfl⟩;rw[g]
      go_wp2_with fail
      refine (sP _ _).mono ?_;rintro e f ⟨rfl,rfl⟩;rw[c]
      go_wp2
      go_ret;exact⟨congrArg (λb=>Ending.returned (.bool b)) a.o.symm,rfl⟩
    ·have a:Hu (fg (iU s) s.size=false):=zV (k:=k) (by rw[j.o,c,g];rfl) d
     go_wp2_with fail
     refine (sQ _ _).mono ?_;rintro e f ⟨⟨n,rfl⟩,rfl⟩;rw[g]
     go_wp2_with fail
     refine (sP _ _).mono ?_;rintro e f ⟨rfl,rfl⟩;rw[c]
     go_wp2
     go_ret;exact⟨congrArg (λb=>Ending.returned (.bool b)) a.o.symm,rfl⟩
  ·have Ha:k=s.size:=by omega
   have a:Hu (fg (iU s) s.size=true):=by rw[<- Ha];exact l
   clear Ha l
   go_wp2
   go_ret;exact⟨congrArg (λb=>Ending.returned (.bool b)) a.o.symm,rfl⟩
structure aF (w:World) (pb db:Nat) (ao:Option Addr) (c:Nat) (ds:List ak) (us:Nat->Bool):Prop where
 row:w.cell? pb=some (.slice ao ds.length c)
 at0:0<ds.length->ao=some ⟨db,0,none⟩/\db≠pb/\db<w
 cells:∀k,k<ds.length->w.cell? ⟨db,k*3,none⟩=some (.string (aC ds k).kind)/\w.cell? ⟨db,k*3+1,none⟩=some (.int .i64 (aC ds k).node)/\w.cell? ⟨db,k*3+2,none⟩=some (.bool (aC ds k).sick)/\w.frozen? ⟨db,k*3+2,none⟩=false
 used:∀j,j<16->w.cell? ⟨pb,1+j,none⟩=some (.bool (us j))/\w.frozen? ⟨pb,1+j,none⟩=false
theorem aF.lt(h:aF w pb db ao c ds us):pb<w:=Q3 w _ h.row
theorem aF.kept{g:Option Nat}(h:aF w pb db ao c ds us)(b:w.grownBy w' g)(e:some pb≠g)(d:0<ds.length->some db≠g):aF w' pb db ao c ds us:=by
 refine⟨(b.cell_far _ h.lt e).trans h.row,λa=>⟨(h.at0 a).1,(h.at0 a).2.1,Q1 (h.at0 a).2.2 b.size⟩,λk f=>?_,λj l=>?_⟩
 ·obtain⟨c1,c2,c3,i⟩:=h.cells k f;have a:0<ds.length:=by omega
  have Ha:=(h.at0 a).2.2;exact⟨(b.cell_far _ Ha (d a)).trans c1,(b.cell_far _ Ha (d a)).trans c2,(b.cell_far _ Ha (d a)).trans c3,(b.frozen_far _ Ha (d a)).trans i⟩
 ·obtain⟨c1,c2⟩:=h.used j l;exact⟨(b.cell_far _ h.lt e).trans c1,(b.frozen_far _ h.lt e).trans c2⟩
theorem cM(w:World)(a:Addr)(u:Value):w.grownBy (w.setCell a u) (some a.block):=
 ⟨rfl,rfl,rfl,by simp,λk _ b=>Below.heap_setCell _ _ _ _ λe=>b (by rw[e])⟩
theorem fB(h:Below w w w')(g:Option Nat):w.grownBy w' g:=⟨h.os,h.tape,h.output,h.size,λk a _=>h.block k a⟩
theorem below_grown{g:Option Nat}(h:w.grownBy w' g){K:Nat}(c:K<=w)(a:∀j,g=some j->K<=j):Below K w w':=
 ⟨h.os,h.tape,h.output,h.size,λk b=>h.block k (by omega) (λe=>by have:=a k e.symm;omega)⟩
theorem vJ(w:World)(g:Option Nat):w.grownBy w g:=⟨rfl,rfl,rfl,lR,λ_ _ _=>rfl⟩
theorem aF.below(h:aF w pb db ao c ds us)(a:Below w w w'):aF w' pb db ao c ds us:=h.kept (fB a none) (by simp) (by simp)
theorem aF.drewN(h:aF w pb db ao c ds us)(n:Nat):aF (w.drewN n) pb db ao c ds us:=h.below (below_drewN (Q0 _ w) n)
theorem aF.alloc(h:aF w pb db ao c ds us)(o:Obj):aF (w.alloc o) pb db ao c ds us:=h.below ((Q0 _ w).alloc (lR) o)
theorem aF.set{vs:Nat->Bool}(h:aF w pb db ao c ds us){m:Nat}(q:m<16)(b:Bool)(l:∀j,j<16->vs j=if j=m then b else us j):aF (w.setCell ⟨pb,1+m,none⟩ b) pb db ao c ds vs:=by
 have Hb:∀x,x≠1+m->(⟨pb,1+m,none⟩:Addr)≠⟨pb,x,none⟩:=λx o e=>by cases e;exact o rfl
 refine⟨?_,λa=>⟨(h.at0 a).1,(h.at0 a).2.1,by simpa using (h.at0 a).2.2⟩,λk n=>?_,λj i=>?_⟩
 ·rw[World.cell?_setCell_other (h:=Hb 0 (by omega))];exact h.row
 ·obtain⟨c1,c2,c3,p⟩:=h.cells k n;have a:0<ds.length:=by omega
  have hd:=(h.at0 a).2.1;have Ha:=(h.at0 a).2.2;have d:=cM w ⟨pb,1+m,none⟩ b;have f:some db≠some pb:=by simpa using hd
  exact⟨(d.cell_far _ Ha f).trans c1,(d.cell_far _ Ha f).trans c2,(d.cell_far _ Ha f).trans c3,(d.frozen_far _ Ha f).trans p⟩
 ·obtain⟨g,z⟩:=h.used j i;obtain⟨cm,_⟩:=h.used m q;refine⟨?_,(World.frozen?_setCell ..).trans z⟩;rw[l j i]
  by_cases e:j=m
  ·subst e
   simp
   clear g l Hb;go_simp
  ·rw[if_neg e,World.cell?_setCell_other (h:=Hb (1+j) (by omega))];exact g
theorem aF.sicken(h:aF w pb db ao c ds us){n:Nat}(o:n<ds.length)(b:Bool):aF (w.setCell ⟨db,n*3+2,none⟩ b) pb db ao c (jS ds n b) us:=by
 have i:0<ds.length:=by omega
 obtain⟨l,hd,Hc⟩:=h.at0 i;have a:=cM w ⟨db,n*3+2,none⟩ b;have Hb:some pb≠some db:=by simpa using λe=>hd e.symm
 have Ha:∀x,x≠n*3+2->(⟨db,n*3+2,none⟩:Addr)≠⟨db,x,none⟩:=λx g e=>by cases e;exact g rfl
 refine⟨?_,λ_=>⟨l,hd,by simpa using Hc⟩,λk d=>?_,λj f=>?_⟩
 ·rw[qt];exact (a.cell_far _ h.lt Hb).trans h.row
 ·rw[qt] at d;obtain⟨c1,c2,c3,m⟩:=h.cells k d;rw[vD o];refine⟨?_,?_,?_,(World.frozen?_setCell ..).trans m⟩
  ·rw[World.cell?_setCell_other (h:=Ha _ (by omega)),c1];split
   ·rename_i e;rw[e]
   ·rfl
  ·rw[World.cell?_setCell_other (h:=Ha _ (by omega)),c2];split
   ·rename_i e;rw[e]
   ·rfl
  ·by_cases e:k=n
   ·subst e
    simp
    clear Ha a;go_simp
   ·rw[if_neg e,World.cell?_setCell_other (h:=Ha _ (by omega)),c3]
 ·obtain⟨c1,c2⟩:=h.used j f;exact⟨(a.cell_far _ h.lt Hb).trans c1,(a.frozen_far _ h.lt Hb).trans c2⟩
theorem jr.kept{r:Option Nat}(h:jr w v g o l)(a:w.grownBy w' r)(m:0<l.length->some g≠r):jr w' v g o l:=by
 obtain⟨f,c,j,n⟩:=h;refine⟨f,c,j,λb=>?_⟩;obtain⟨e,d,p⟩:=n b;exact⟨e,Q1 d a.size,λk i=>(a.cell_far _ d (m b)).trans (p k i)⟩
theorem jr.below(h:jr w v g o l)(a:Below w w w'):jr w' v g o l:=h.kept (fB a none) (by simp)
theorem et.below(h:et w v g o ds)(b:Below w w w'):et w' v g o ds:=by
 obtain⟨f,c,j,l⟩:=h;refine⟨f,c,j,λe=>?_⟩;obtain⟨d,a,m⟩:=l e;refine⟨d,Q1 a b.size,λk i=>?_⟩;obtain⟨c1,c2,c3⟩:=m k i;exact⟨(b.cell (p:=⟨g,o+k*3,none⟩) a).trans c1,(b.cell (p:=⟨g,o+k*3+1,none⟩) a).trans c2,(b.cell (p:=⟨g,o+k*3+2,none⟩) a).trans c3⟩
def js (n:Int) (k:Nat):Bool:=decide (0<=n) && decide (n<(k:Int))
theorem vK(n:Int)(w:World)(a db:Nat)(d:Option Addr)(c:Nat)(ds:List ak)(us:Nat->Bool)(h:aF w a db d c ds us) :
  Calls prog 107 #[a,n] w λe w'=>e=.returned (.bool (js n ds.length))/\w'=w:=by
 have g:=h.row;clear h;unfold js;generalize ds.length=m at *
 by_cases b:0<=n
 all_goals by_cases f:n<m
 all_goals
  go_enter func107,ntmps107
  go_wp2
  go_ret;refine⟨?_,rfl⟩
  simp[b,f]
theorem Ju(n:Int)(on:Bool)(w:World)(a db:Nat)(b:Option Addr)(c:Nat)(ds:List ak)(us:Nat->Bool)(h:aF w a db b c ds us)(d:js n ds.length=false) :
  Calls prog 67 #[a,n,on] w λe w'=>e=.returned (.iface 108 (1:Int))/\w'=w:=by
 have f:=qI (vK n w a db b c ds us h);rw[d] at f;clear d h
 go_enter func67,ntmps67
 go_wp2_with fail
 refine f.o.mono ?_;rintro e g ⟨rfl,rfl⟩
 go_wp2
 go_ret;exact⟨rfl,rfl⟩
theorem Jv(n:Nat)(on:Bool)(w:World)(a db:Nat)(d:Option Addr)(c:Nat)(ds:List ak)(us:Nat->Bool)(h:aF w a db d c ds us)(g:n<ds.length) :
  Calls prog 67 #[a,(n:Int),on] w λe w'=>e=.returned .nilIface/\w'=w.setCell ⟨db,n*3+2,none⟩ on:=by
 have b:=qI (vK n w a db d c ds us h);have f:js n ds.length=true:=by simp[js];omega
 rw[f] at b;obtain⟨rfl,_,_⟩:=h.at0 (by omega);have j:=h.row;obtain⟨_,_,c2,c3⟩:=h.cells n g;clear f h
 go_enter func67,ntmps67
 go_wp2_with fail
 refine b.o.mono ?_;rintro e i ⟨rfl,rfl⟩
 go_wp2
 go_ret;exact⟨rfl,rfl⟩
end Go.Proofs.YtjlblidnfebmiaaGreatDoor
namespace Go.Proofs
open Go.Shelf
def Tryz.cloneL_ren:Go.Shelf.Ren:=⟨fun|41=>105|n=>n,fun|22=>25|23=>77|4=>4|n=>n,fun|n=>n⟩
theorem Tryz.cloneL:Go.Proofs.SlLaysE0.n41 Tryz.prog Tryz.cloneL_ren:=by
 constructor
 case f41=>exact ⟨Tryz.f105.name,by decide,Tryz.func105.trans (congrArg some (by kernel_rfl))⟩
 all_goals intros;kernel_rfl
def Tryz.growL_ren:Go.Shelf.Ren:=⟨fun|4=>215|n=>n,fun|22=>46|25=>3|3=>3|4=>4|9=>9|20=>20|0=>0|n=>n,fun|n=>n⟩
theorem Tryz.growL:Go.Proofs.Lays8.n4 Tryz.prog Tryz.growL_ren:=by
 constructor
 case f4=>exact ⟨Tryz.f215.name,by decide,Tryz.func215.trans (congrArg some (by kernel_rfl))⟩
 all_goals intros;kernel_rfl
def Tryz.sortL9_ren:Go.Shelf.Ren:=⟨fun|189=>134|125=>161|257=>172|128=>202|129=>203|294=>216|295=>217|296=>218|297=>219|298=>220|299=>221|216=>222|300=>223|301=>224|328=>267|329=>254|330=>255|331=>268|332=>269|215=>187|343=>292|n=>n,fun|28=>46|3=>3|46=>219|0=>0|51=>296|53=>23|4=>4|183=>312|182=>311|131=>134|5=>5|9=>9|218=>357|222=>361|228=>389|229=>390|n=>n,fun|n=>n⟩
theorem Tryz.sortL9:Go.Proofs.Lays.n189 Tryz.prog Tryz.sortL9_ren:=by
 constructor<;>intros<;>kernel_rfl
end Go.Proofs
namespace Go.Proofs.YtjlblidnfebmiaaGreatDoor
variable{A B F T c db k m n pb:Nat}{a w w' wr:World}{ao:Option Addr}{bad:Nat->Value}{ds:List ak}{e:Ending}{f:Nat->Nat}{kind:ByteArray}{l:List Nat}{us:Nat->Bool}{v:Value}
def gx (l:List ak):List Value:=l.flatMap λx=>[.string x.kind,.int .i64 x.node,.bool x.sick]
theorem Aj(l:List ak):(gx l).length=l.length*3:=by
 induction l with
 | nil=>rfl
 | cons a r ih=>simp only[gx,List.flatMap_cons,Q2,Qg,List.length_nil] at ih ⊢;omega
theorem Ak(l:List ak)(k:Nat)(b:k<l.length):(gx l)[k*3]?=some (.string (aC l k).kind)/\(gx l)[k*3+1]?=some (.int .i64 (aC l k).node)/\(gx l)[k*3+2]?=some (.bool (aC l k).sick):=by
 induction l generalizing k with
 | nil=>simp at b
 | cons a r ih=>
  cases k with
  | zero=>simp[gx,aC]
  | succ k=>
   have:=ih k (by simpa using b)
   have e:gx (a :: r)=[.string a.kind,.int .i64 a.node,.bool a.sick]++gx r:=rfl;have c:aC (a :: r) (k+1)=aC r k:=by simp[aC]
   rw[e,c,show (k+1)*3=k*3+3 by omega]
   simpa using this
theorem Jw{b o:Nat}{l:List ak}(h:∀k,k<l.length->w.cell? ⟨b,o+k*3,none⟩=some (.string (aC l k).kind)/\w.cell? ⟨b,o+k*3+1,none⟩=some (.int .i64 (aC l k).node)/\w.cell? ⟨b,o+k*3+2,none⟩=some (.bool (aC l k).sick))(j:Nat)(u:Value)(a:(gx l)[j]?=some u):w.cell? ((⟨b,o,none⟩:Addr).add j)=some u:=by
 have Ha:j<l.length*3:=by rw[<- Aj];exact (List.getElem?_eq_some_iff.1 a).1
 obtain⟨d,c,f⟩:=h (j / 3) (by omega);obtain⟨c0,c1,c2⟩:=Ak l (j / 3) (by omega);rw[Addr.add_lit]
 have:j=j / 3*3\/j=j / 3*3+1\/j=j / 3*3+2:=by omega
 rcases this with e|e|e
 ·rw[<- e] at c0 d;rw[d,<- c0,a]
 ·rw[<- e] at c1;rw[Nat.add_assoc,<- e] at c;rw[c,<- c1,a]
 ·rw[<- e] at c2;rw[Nat.add_assoc,<- e] at f;rw[f,<- c2,a]
theorem Jy(l:List ak):∀u∈gx l,u.oneCell'=true:=by
 intro u b;simp only[gx,List.mem_flatMap] at b;obtain⟨x,_,a⟩:=b
 simp at a
 rcases a with rfl|rfl|rfl <;> rfl
theorem Jz:(prog.info? 77).map (λi=>(i.zero,i.size,i.bytes))=some (some (.agg #[ByteArray.empty,(0:Int),false]),3,32):=by kernel_rfl
theorem JA(a:Option Addr)(n c:Nat)(w:World):Sem.run prog (binOp BinOp.eql 25 (.slice a n c) (.slice none 0 0)) w=.ok a.isNone w:=Lib.run_eql_slice_nil w _ _ a n c 0 0 underlying25
def jV (B:Nat) (w:World) (v:Value) (ds:List ak):Prop:=
 ∃ao c g,v=.slice ao ds.length c/\(0<ds.length->ao=some ⟨g,0,none⟩/\B<=g/\g<w.heap.size)/\
  ∀k,k<ds.length->w.cell? ⟨g,k*3,none⟩=some (.string (aC ds k).kind)/\w.cell? ⟨g,k*3+1,none⟩=some (.int .i64 (aC ds k).node)/\w.cell? ⟨g,k*3+2,none⟩=some (.bool (aC ds k).sick)/\w.frozen? ⟨g,k*3+2,none⟩=false
theorem jV.of_own(h:w.ownsRow B 77 3 v ds.length (gx ds)):jV B w v ds:=by
 rcases h.2 with⟨rfl,d⟩|⟨g,a,e,rfl,c,Ha,_⟩
 ·exact⟨none,0,0,by rw[d],λf=>by omega,λk b=>by omega⟩
 ·refine⟨_,a,g,rfl,λ_=>⟨rfl,c,(gS Ha).1⟩,λk b=>?_⟩;obtain⟨c0,c1,c2⟩:=Ak ds k b;refine⟨?_,?_,?_,by simp[World.frozen?,Ha]⟩
  ·rw[h.cellAt (k*3) (by omega)];exact c0
  ·rw[h.cellAt (k*3+1) (by omega)];exact c1
  ·rw[h.cellAt (k*3+2) (by omega)];exact c2
theorem Al(a:Addr)(c:Nat)(l:List ak)(w:World)(d:∀j u,(gx l)[j]?=some u->w.cell? (a.add j)=some u)(m:l.length<=16) :
  Calls prog 105 #[.slice (some a) l.length c] w λe w'=>∃v,e=.returned v/\jV w w' v l/\Below w w w':=by
 obtain⟨i0,hi,Hf,Hg,He⟩:=info_parts Jz;have i:=qI ((Q0 w w).alloc (lR) (.cells #[] 77));have k:Hu (∀j u,(gx l)[j]?=some u->(w.alloc (.cells #[] 77)).cell? (a.add j)=some u):=λj u b=>Lib.cell?_alloc_some _ (d j u b)
 have Hh:=JA (some a) l.length c w;clear d
 go_enter func105,ntmps105
 go_wp2_with (at_builtin;(refine wpList_append_own _ rfl _ _ 25 rfl w 77 i0 (.agg #[ByteArray.empty,(0:Int),false]) 3 32 underlying25 hi Hf Hg He rfl (by decide) _ _ _ rfl (World.ownsRow_lit w #[] 0 (lR) (Nat.zero_le _) rfl) a l.length c (gx l) rfl (Aj l) k.o (Jy l) (by unfold maxLen;omega) (by omega) (by simp) ?_);intro f h Hb Ha _)
 have Hc:=qI (i.o.grown Ha (by simp) (λj b=>by cases b;exact lR));rw[Qd] at Hb;have g:Hu (jV w h f l):=jV.of_own (by simpa using Hb);clear Hb Ha
 go_wp2
 go_ret;exact⟨_,rfl,g.o,Hc.o⟩
theorem Am(v:Value)(b o:Nat)(l:List ak)(w:World)(p:et w v b o l)(f:l.length<=16) :
  Calls prog 105 #[v] w λe w'=>∃v,e=.returned v/\jV w w' v l/\Below w w w':=by
 obtain⟨n,c,rfl,i⟩:=p
 by_cases m:0<l.length
 ·obtain⟨rfl,Hc,Hb⟩:=i m;exact Al ⟨b,o,none⟩ c l w (Jw Hb) f
 ·have Ha:l=[]:=Qe (by omega);subst Ha
  rcases n with _|a
  ·refine (AnyE.slices_Clone_nil Tryz.cloneL 0 c w).mono ?_;rintro e w' ⟨rfl,rfl⟩;exact⟨_,rfl,⟨none,0,0,rfl,λh=>by simp at h,λk d=>by simp at d⟩,Q0 _ _⟩
  ·exact Al a c [] w (λj u g=>by simp[gx] at g) (by simp)
def sR (w:World) (ds:List ak) (p:Value) (w':World):Prop:=
 ∃pb db ao c,p=.pointer (some ⟨pb,0,none⟩)/\aF w' pb db ao c ds (λ_=>false)/\w.heap.size<=pb/\(0<ds.length->w.heap.size<=db)
theorem JB(h:ds.length<=16):dI ds=bh (iy ds) ds.length:=by rw[dI,if_neg (by omega)]
theorem JC(h:bR (aC ds k).kind=false):iy ds k=3:=by rw[iy,if_pos h]
theorem JD(h:bR (aC ds k).kind=true)(a:(aC ds k).node<0\/3<(aC ds k).node):iy ds k=1:=by rw[iy,if_neg (by rw[h];simp),if_pos a]
theorem JE(h:bR (aC ds k).kind=true)(a:0<=(aC ds k).node)(b:(aC ds k).node<=3):iy ds k=0:=by rw[iy,if_neg (by rw[h];simp),if_neg (by omega)]
abbrev An:=λ(x0:Value) (x1:TypeId)=>(.cells #[x0,false,false,false,false,false,false,false,false,false,false,false,false,false,false,false,false] x1:Obj)
theorem aF.made(h:jV B w v ds)(t:TypeId):∃db d c,aF (w.alloc (An v t)) w db d c ds (λ_=>false)/\(0<ds.length->B<=db):=by
 obtain⟨d,c,g,rfl,b,i⟩:=h;refine⟨g,d,c,⟨by simp,λa=>⟨(b a).1,Nat.ne_of_lt (b a).2.2,by have:=(b a).2.2;simp;omega⟩,λk f=>?_,λj l=>?_⟩,λa=>(b a).2.1⟩
 ·have Ha:=(b (by omega)).2.2;obtain⟨c0,c1,c2,c3⟩:=i k f;have e:=(Q0 w w).alloc (lR) (.cells #[.slice d ds.length c,false,false,false,false,false,false,false,false,false,false,false,false,false,false,false,false] t);exact⟨(e.cell (p:=⟨g,k*3,none⟩) Ha).trans c0,(e.cell (p:=⟨g,k*3+1,none⟩) Ha).trans c1,(e.cell (p:=⟨g,k*3+2,none⟩) Ha).trans c2,(e.frozen (p:=⟨g,k*3+2,none⟩) Ha).trans c3⟩
 ·have:j=0\/j=1\/j=2\/j=3\/j=4\/j=5\/j=6\/j=7\/j=8\/j=9\/j=10\/j=11\/j=12\/j=13\/j=14\/j=15:=by omega
  rcases this with rfl|rfl|rfl|rfl|rfl|rfl|rfl|rfl|rfl|rfl|rfl|rfl|rfl|rfl|rfl|rfl <;> exact⟨by simp,by simp⟩
theorem sR.of{a:World}(h:jV B a v ds)(e:w<=B)(hs:w<=a.heap.size)(t:TypeId):sR w ds a (a.alloc (An v t)):=by
 obtain⟨db,g,c,d,b⟩:=aF.made h t;exact⟨_,db,g,c,rfl,d,hs,λf=>Q5 e (b f)⟩
theorem JF(a:Option Addr)(n c:Nat)(w:World)(h:16<n):Calls prog 61 #[.slice a n c] w λe w'=>e=.returned (.tuple #[.pointer none,.iface 108 (2:Int)])/\w'=w:=by
 go_enter func61,ntmps61
 go_wp2
 go_ret2;exact⟨rfl,rfl⟩
def nG (w:World) (ds:List ak) (bad:Nat->Value) (e:Ending) (w':World):Prop:=
 (dI ds=0->∃p,e=.returned (.tuple #[p,bad 0])/\sR w ds p w')/\(dI ds≠0->e=.returned (.tuple #[.pointer none,bad (dI ds)]))/\Below w w w'
theorem nG.wrong(hf:dI ds=n)(c:n≠0)(b:e=.returned (.tuple #[.pointer none,bad n]))(a:Below w w w'):nG w ds bad e w':=
 ⟨λh=>by omega,λ_=>by rw[hf,b],a⟩
theorem JG(y:Option Addr)(c b o:Nat)(ds:List ak)(w:World)(hd:et w (.slice y ds.length c) b o ds)(h:ds.length<=16):Calls prog 61 #[.slice y ds.length c] w λe w'=>nG w ds (λn=>aJ n) e w':=by
 have t:=qI hd;have s:=qI (JB h);clear hd
 go_enter func61,ntmps61
 go_wp2
 go_loopw [12] (λi wr=>∃k:Nat,k<=ds.length/\i=.int .i64 k/\Hu (bh (iy ds) k=0)/\Below w w wr) (λi _=>ds.length - (intOf i).toNat)
 case atStart=>exact⟨0,by omega,rfl,rfl,Q0 _ _⟩
 case round=>
  obtain⟨k,G,rfl,q,f⟩:=hrel
  by_cases j:k<ds.length
  ·obtain⟨A,E,p,He⟩:=t.o.below f;obtain⟨rfl,Hk,He⟩:=He (by omega);cases p;obtain⟨c0,c1,c2⟩:=He k j;have Hc:=qI λg=>JC (ds:=ds) (k:=k) g;have Hb:=qI λg l=>JD (ds:=ds) (k:=k) g l;have Hf:=qI λg l B=>JE (ds:=ds) (k:=k) g l B;have m:=qI λn a=>(s.o.trans (lq (n:=ds.length) q.o (by rw[a];simp) j)).trans (a:iy ds k=n+1);clear He;generalize aC ds k=x at *;have Ha:=f.alloc f.size (.cells #[x.kind,(x.node:Int),x.sick] 77)
   rcases two (bR x.kind) with a|a
   ·have key:(x.node<0\/(0<=x.node/\4<=x.node))\/(0<=x.node/\x.node<4):=by omega
    rcases key with C|⟨u,l⟩
    ·have d:=qI (m.o 0 (Hb.o a (by omega)));clear Hc Hb Hf m
     rcases C with u|⟨u,l⟩
     all_goals
      go_wp2_with fail
      refine (iW _ _).mono ?_;rintro e r ⟨rfl,rfl⟩;rw[a]
      go_wp2
      go_ret2;exact nG.wrong d.o (by decide) rfl Ha
    ·have d:Hu (bh (iy ds) (k+1)=0):=ml q.o (Hf.o a (by omega) (by omega));clear Hc Hb Hf m
     go_wp2_with fail
     refine (iW _ _).mono ?_;rintro e r ⟨rfl,rfl⟩;rw[a]
     go_wp2
     go_roundw
     case rel=>exact⟨k+1,by omega,by go_num,d,Ha⟩
     case measure=>simp[intOf];omega
   ·have d:=qI (m.o 2 (Hc.o a));clear Hc Hb Hf m
    go_wp2_with fail
    refine (iW _ _).mono ?_;rintro e r ⟨rfl,rfl⟩;rw[a]
    go_wp2
    go_ret2;exact nG.wrong d.o (by decide) rfl Ha
  ·have Hg:k=ds.length:=by omega
   have d:Hu (dI ds=0):=by rw[<- Hg] at s;exact s.o.trans q.o
   have Hj:=qI (t.o.below f);clear Hg q
   go_wp2_with fail
   refine (Am _ b o ds _ Hj.o h).mono ?_;rintro e r ⟨v,rfl,p,z⟩;have Ha:=f.trans (z.mono f.size);have Hh:=qI (sR.of (w:=w) p f.size Ha.size 201);have Hi:=qI (Ha.alloc Ha.size (.cells #[v,false,false,false,false,false,false,false,false,false,false,false,false,false,false,false,false] 201));obtain⟨D,c2,F,rfl,_,_⟩:=p;clear z Ha
   go_wp2
   go_ret2;exact⟨λ_=>⟨_,rfl,Hh.o⟩,λg=>absurd d.o g,Hi.o⟩
theorem Ao(v:Value)(b o:Nat)(ds:List ak)(w:World)(hd:et w v b o ds):Calls prog 61 #[v] w λe w'=>nG w ds (λn=>aJ n) e w':=by
 have Ha:=hd;obtain⟨a,c,rfl,_⟩:=hd
 by_cases h:ds.length<=16
 ·exact JG a c b o ds w Ha h
 ·refine (JF a ds.length c w (by omega)).mono ?_;rintro e w' ⟨rfl,rfl⟩;exact nG.wrong (n:=2) (by rw[dI,if_pos (by omega)]) (by decide) rfl (Q0 _ _)
def eM (w:World) (T:Nat) (f:Nat->Nat):Prop:=∀j,j<4->w.cell? ⟨T,j,none⟩=some (.int .i64 (f j:Nat))/\w.frozen? ⟨T,j,none⟩=false
theorem eM.lt(h:eM w T f):T<w:=Q3 w _ (h 0 (by decide)).1
theorem eM.kept{g:Option Nat}(h:eM w T f)(b:w.grownBy w' g)(a:some T≠g):eM w' T f:=λj c=>
 ⟨(b.cell_far _ h.lt a).trans (h j c).1,(b.frozen_far _ h.lt a).trans (h j c).2⟩
theorem eM.below(h:eM w T f)(a:Below w w w'):eM w' T f:=h.kept (fB a none) (by simp)
theorem eM.alloc(h:eM w T f)(o:Obj):eM (w.alloc o) T f:=h.below ((Q0 _ w).alloc (lR) o)
theorem eM.made(w:World)(t:TypeId)(f:Nat->Nat)(hf:∀j,f j=0):eM (w.alloc (.cells #[(0:Int),(0:Int),(0:Int),(0:Int)] t)) w f:=by
 intro j a;rw[hf j]
 have:j=0\/j=1\/j=2\/j=3:=by omega
 rcases this with rfl|rfl|rfl|rfl <;> exact⟨by simp,by simp⟩
theorem eM.set{f g:Nat->Nat}(h:eM w T f){m:Nat}(k:m<4){n:Int}(d:n=(f m:Nat)+1)(a:∀j,g j=f j+if j=m then 1 else 0):eM (w.setCell ⟨T,m,none⟩ n) T g:=by
 subst d;intro j i;obtain⟨c,z⟩:=h j i;obtain⟨cm,_⟩:=h m k;refine⟨?_,(World.frozen?_setCell ..).trans z⟩;rw[a j]
 by_cases e:j=m
 ·subst e;rw[if_pos rfl];have b:(((f j+1:Nat)):Int)=((f j:Nat):Int)+1:=by omega
  rw[b];clear c a b;go_simp
 ·rw[if_neg e,Nat.add_zero];have Ha:(⟨T,m,none⟩:Addr)≠⟨T,j,none⟩:=by intro h;cases h;exact e rfl
  rw[World.cell?_setCell_other (h:=Ha)];exact c
theorem Ap{a b:ByteArray}(h:¬ a=b):¬ a.toList=b.toList:=by
 rw[Qs,Qs];exact λe=>h (Go.WideShapes.bytes_inj e)
theorem Aq(p:Nat->Bool)(ds:List ak)(x:Nat):bj p ds x 0=0:=rfl
def vL (f:Nat->Nat):Value:=.agg #[.int .i64 (f 0:Nat),.int .i64 (f 1:Nat),.int .i64 (f 2:Nat),.int .i64 (f 3:Nat)]
structure gy (w wr:World) (pb db:Nat) (ao:Option Addr) (c:Nat) (ds:List ak) (us:Nat->Bool) (kind:ByteArray) (F A k:Nat):Prop where
 pool:aF wr pb db ao c ds us
 free:eM wr F (λx=>bj (bC ds us kind) ds x k)
 all:eM wr A (λx=>bj (cR ds kind) ds x k)
 below:Below w w wr
theorem gy.alloc(h:gy w wr pb db ao c ds us kind F A k)(o:Obj):gy w (wr.alloc o) pb db ao c ds us kind F A k:=
 ⟨h.pool.alloc o,h.free.alloc o,h.all.alloc o,h.below.alloc h.below.size o⟩
theorem gy.mid{m D:Nat}{n z:Int}(h:gy w wr pb db ao c ds us kind F A k)(i:k<16)(g:m<4)(f:wr.cell? ⟨D,1,none⟩=some (.int .i64 z))(a:F≠A)(e:pb≠A)(d:D≠A) :
  (wr.setCell ⟨A,m,none⟩ n).cell? ⟨pb,1+k,none⟩=some (.bool (us k))/\(wr.setCell ⟨A,m,none⟩ n).cell? ⟨F,m,none⟩=some (.int .i64 (bj (bC ds us kind) ds m k:Nat))/\(wr.setCell ⟨A,m,none⟩ n).frozen? ⟨F,m,none⟩=false/\(wr.setCell ⟨A,m,none⟩ n).cell? ⟨D,1,none⟩=some (.int .i64 z):=by
 have b:=cM wr ⟨A,m,none⟩ n;exact⟨(b.cell_far _ h.pool.lt (by simpa using e)).trans (h.pool.used k i).1,(b.cell_far _ h.free.lt (by simpa using a)).trans (h.free m g).1,(b.frozen_far _ h.free.lt (by simpa using a)).trans (h.free m g).2,(b.cell_far _ (Q3 _ _ f) (by simpa using d)).trans f⟩
theorem gy.no(h:gy w wr pb db ao c ds us kind F A k)(a:cR ds kind k=false):gy w wr pb db ao c ds us kind F A (k+1):=by
 refine⟨h.pool,?_,?_,h.below⟩
 ·have:(λx=>bj (bC ds us kind) ds x (k+1))=λx=>bj (bC ds us kind) ds x k:=by funext x;exact vz (by rw[vB,a];rfl) x
  rw[this];exact h.free
 ·have:(λx=>bj (cR ds kind) ds x (k+1))=λx=>bj (cR ds kind) ds x k:=by funext x;exact vz a x
  rw[this];exact h.all
theorem gy.one{m:Nat}{n:Int}(h:gy w wr pb db ao c ds us kind F A k)(d:cR ds kind k=true)(e:us k=true)(l:m<4)(p:(aC ds k).node=(m:Int))(f:w<=A)(a:F≠A)(o:pb<w)(hd:0<ds.length->db<w)(i:n=(bj (cR ds kind) ds m k:Nat)+1) :
  gy w (wr.setCell ⟨A,m,none⟩ n) pb db ao c ds us kind F A (k+1):=by
 have b:=cM wr ⟨A,m,none⟩ n;refine⟨h.pool.kept b (by simp;omega) (λg=>by have:=hd g;simp;omega),?_,?_,h.below.setCell f _⟩
 ·have:(λx=>bj (bC ds us kind) ds x (k+1))=λx=>bj (bC ds us kind) ds x k:=by funext x;exact vz (by rw[vB,d,e];rfl) x
  rw[this];exact h.free.kept b (by simpa using a)
 ·refine h.all.set l i λj=>?_;rw[vA d (by omega)]
  congr 2
  have:(aC ds k).node.toNat=m:=by omega
  rw[this]
theorem gy.both{m:Nat}{n n2:Int}(h:gy w wr pb db ao c ds us kind F A k)(f:cR ds kind k=true)(l:us k=false)(i:m<4)(s:(aC ds k).node=(m:Int))(p:w<=F)(o:w<=A)(a:F≠A)(r:pb<w)(hd:0<ds.length->db<w)(q:n=(bj (cR ds kind) ds m k:Nat)+1)(b:n2=(bj (bC ds us kind) ds m k:Nat)+1) :
  gy w ((wr.setCell ⟨A,m,none⟩ n).setCell ⟨F,m,none⟩ n2) pb db ao c ds us kind F A (k+1):=by
 have g:=cM wr ⟨A,m,none⟩ n;have Ha:=cM (wr.setCell ⟨A,m,none⟩ n) ⟨F,m,none⟩ n2;refine⟨(h.pool.kept g (by simp;omega) (λd=>by have:=hd d;simp;omega)).kept Ha (by simp;omega) (λd=>by have:=hd d;simp;omega),?_,?_,(h.below.setCell o _).setCell p _⟩
 ·refine (h.free.kept g (by simpa using a)).set i b λj=>?_;rw[vA (by rw[vB,f,l];rfl) (by omega)]
  congr 2
  have:(aC ds k).node.toNat=m:=by omega
  rw[this]
 ·refine (h.all.set i q λj=>?_).kept Ha (by simpa using λe=>a e.symm);rw[vA f (by omega)]
  congr 2
  have:(aC ds k).node.toNat=m:=by omega
  rw[this]
theorem JH{fn:Func}{p q:Tmp}{c:TypeId}(h:fn.results=#[.cell p c,.cell q c])(tmps:Array Value)(P:Program)(w:World) :
  (results fn tmps).run P w =
   ((asAddr (tmps.getD p undef)).run P w).andThen λa f=>((loadVar c a).run P f).andThen λv d=>((asAddr (tmps.getD q undef)).run P d).andThen λb g=>((loadVar c b).run P g).andThen λu e=>.ok (.tuple #[v,u]) e:=by
 simp only[results,h]
 simp[Sem.run_bind,Result.andThen]
theorem Ar(h:Below B a w):Below B a w.drew:=⟨h.os,h.tape,h.output,h.size,h.block⟩
abbrev vM:=(.cells #[(0:Int),(0:Int),(0:Int),(0:Int)] 202:Obj)
theorem JI(kind:ByteArray)(w:World)(F db:Nat)(G:Option Addr)(c:Nat)(ds:List ak)(us:Nat->Bool)(h:aF w F db G c ds us)(O:eE ds) :
  Calls prog 167 #[F,kind] w λe w'=>e=.returned (.tuple #[vL λx=>bj (bC ds us kind) ds x ds.length,vL λx=>bj (cR ds kind) ds x ds.length])/\Below w w w':=by
 have N:=h.lt;have hd:0<ds.length->db<w.heap.size:=λR=>(h.at0 R).2.2
 have Hl:Hu (gy w ((w.alloc (vM)).alloc (vM)) F db G c ds us kind w (w.heap.size+1) 0):=
  ⟨(h.alloc _).alloc _,(eM.made w _ _ λj=>Aq _ _ _).alloc _,by have:=eM.made (w.alloc (vM)) 202 (λx=>bj (cR ds kind) ds x 0) λj=>Aq _ _ _;simpa using this,((Q0 w w).alloc (lR) _).alloc (by simp) _⟩
 have Hk:=Hl.o.pool.row;have I:=qI O;have A:=qI (And.intro N hd);clear h N hd
 go_enter func167,ntmps167
 go_wp2
 go_loopw [13] (λi wr=>∃k:Nat,k<=ds.length/\i=.int .i64 k/\gy w wr F db G c ds us kind w (w.heap.size+1) k) (λi _=>ds.length - (intOf i).toNat)
 case atStart=>exact⟨0,by omega,rfl,Hl.o⟩
 case round=>
  obtain⟨k,hk,rfl,a⟩:=hrel
  by_cases C:k<ds.length
  ·have Hi:k<16:=by have:=I.o.1;omega
   obtain⟨rfl,Hp,_⟩:=a.pool.at0 (by omega);obtain⟨c0,c1,c2,_⟩:=a.pool.cells k C;obtain⟨H,M⟩:=I.o.2 k C;obtain⟨m,K⟩:=Int.eq_ofNat_of_zero_le H;have Hh:m<4:=by omega
   have Hc:=qI (a.alloc (.cells #[(aC ds k).kind,((aC ds k).node:Int),.bool (aC ds k).sick] 77));have He:=qI λB=>Hc.o.no B;have Hb:=qI λB o n r=>Hc.o.one (m:=m) (n:=n) B o Hh K (Nat.le_succ _) (by omega) A.o.1 A.o.2 r;have Ha:=qI λB o n n2 r g=>Hc.o.both (m:=m) (n:=n) (n2:=n2) B o Hh K (lR) (Nat.le_succ _) (by omega) A.o.1 A.o.2 r g;have Hf:cR ds kind k=(decide ((aC ds k).kind=kind) && !(aC ds k).sick):=rfl;have o:=(Hc.o.pool.used k Hi).1;have hf:_=some (Value.int .i64 (bj (bC ds us kind) ds m k:Nat)):=(Hc.o.free m Hh).1;have ha:_=some (Value.int .i64 (bj (cR ds kind) ds m k:Nat)):=(Hc.o.all m Hh).1;have Hm:=(Hc.o.all m Hh).2;have E:=qI (Hc.o.mid (m:=m) (D:=wr.heap.size) (z:=(aC ds k).node) (n:=(bj (cR ds kind) ds m k:Nat)+1) Hi Hh (by simp) (by omega) (by have:=A.o.1;omega) (show wr.heap.size≠w.heap.size+1 by have:=a.all.lt;omega));have qf:=zW (bC ds us kind) ds m k;have qa:=zW (cR ds kind) ds m k;clear a;rw[K] at c1 Hc He Hb Ha o hf ha Hm E;generalize bj (bC ds us kind) ds m k=nf at *;generalize bj (cR ds kind) ds m k=na at *;generalize (aC ds k).kind=L at *;generalize (aC ds k).sick=xs at *
   by_cases d:L=kind
   ·subst d
    rcases two xs with hs|hs
    ·subst hs;have b:=He.o (by rw[Hf];simp);clear He Hb Ha Hf
     go_wp2
     go_roundw
     case rel=>exact⟨k+1,by omega,by go_num,b⟩
     case measure=>simp[intOf];omega
    ·subst hs;have Hj:cR ds L k=true:=by rw[Hf];simp
     rcases two (us k) with Hg|Hg
     ·have b:=qI λn r=>Hb.o Hj Hg n r;obtain⟨J,e2,T,V⟩:=E.o;rw[Hg] at J;clear He Hb Ha Hf Hj Hg o E
      go_wp2
      go_roundw
      case rel=>exact⟨k+1,by omega,by go_num,b.o _ (by go_num)⟩
      case measure=>simp[intOf];omega
     ·have b:=qI λn n2 r g=>Ha.o Hj Hg n n2 r g;obtain⟨J,e2,T,V⟩:=E.o;rw[Hg] at J;clear He Hb Ha Hf Hj Hg o E
      go_wp2
      go_roundw
      case rel=>exact⟨k+1,by omega,by go_num,b.o _ _ (by go_num) (by go_num)⟩
      case measure=>simp[intOf];omega
   ·have b:=He.o (by rw[Hf,Q7 d];rfl);have Ho:=Ap d;clear d He Hb Ha Hf
    go_wp2
    go_roundw
    case rel=>exact⟨k+1,by omega,by go_num,b⟩
    case measure=>simp[intOf];omega
  ·have Hn:k=ds.length:=by omega
   subst Hn;have f0:_=some (Value.int .i64 (bj (bC ds us kind) ds 0 ds.length:Nat)):=(a.free 0 (by decide)).1;have f1:_=some (Value.int .i64 (bj (bC ds us kind) ds 1 ds.length:Nat)):=(a.free 1 (by decide)).1;have f2:_=some (Value.int .i64 (bj (bC ds us kind) ds 2 ds.length:Nat)):=(a.free 2 (by decide)).1;have f3:_=some (Value.int .i64 (bj (bC ds us kind) ds 3 ds.length:Nat)):=(a.free 3 (by decide)).1;have a0:_=some (Value.int .i64 (bj (cR ds kind) ds 0 ds.length:Nat)):=(a.all 0 (by decide)).1;have Q:_=some (Value.int .i64 (bj (cR ds kind) ds 1 ds.length:Nat)):=(a.all 1 (by decide)).1;have a2:_=some (Value.int .i64 (bj (cR ds kind) ds 2 ds.length:Nat)):=(a.all 2 (by decide)).1;have a3:_=some (Value.int .i64 (bj (cR ds kind) ds 3 ds.length:Nat)):=(a.all 3 (by decide)).1;have z0:=(a.free 0 (by decide)).2;have z1:=(a.free 1 (by decide)).2;have z2:=(a.free 2 (by decide)).2;have z3:=(a.free 3 (by decide)).2;have y0:=(a.all 0 (by decide)).2;have y1:=(a.all 1 (by decide)).2;have y2:=(a.all 2 (by decide)).2;have y3:=(a.all 3 (by decide)).2;have S:=qI a.below;clear a Hl I A O Hk;obtain⟨H,s⟩:∃x,bj (bC ds us kind) ds 0 ds.length=x:=⟨_,rfl⟩;rw[s] at f0;obtain⟨W,p⟩:∃x,bj (bC ds us kind) ds 1 ds.length=x:=⟨_,rfl⟩;rw[p] at f1;obtain⟨n2,l⟩:∃x,bj (bC ds us kind) ds 2 ds.length=x:=⟨_,rfl⟩;rw[l] at f2;obtain⟨M,q⟩:∃x,bj (bC ds us kind) ds 3 ds.length=x:=⟨_,rfl⟩;rw[q] at f3;obtain⟨m0,u⟩:∃x,bj (cR ds kind) ds 0 ds.length=x:=⟨_,rfl⟩;rw[u] at a0;obtain⟨m1,t⟩:∃x,bj (cR ds kind) ds 1 ds.length=x:=⟨_,rfl⟩;rw[t] at Q;obtain⟨m2,f⟩:∃x,bj (cR ds kind) ds 2 ds.length=x:=⟨_,rfl⟩;rw[f] at a2;obtain⟨X,y⟩:∃x,bj (cR ds kind) ds 3 ds.length=x:=⟨_,rfl⟩;rw[y] at a3;have b:=qI (And.intro (And.intro s (And.intro p (And.intro l q))) (And.intro u (And.intro t (And.intro f y))));clear s p l q u t f y
   go_wp2_with fail
   go_region
   go_wp2_with fail
   refine bodyPost_ret (v:=.tuple #[.agg #[(H:Int),(W:Int),(n2:Int),(M:Int)],.agg #[(m0:Int),(m1:Int),(m2:Int),(X:Int)]]) ?_ rfl ⟨?_,?_⟩
   ·rw[JH rfl];go_simp
   ·obtain⟨⟨q0,q1,U,Z⟩,r0,r1,P,Y⟩:=b.o;subst q0 q1 U Z r0 r1 P Y;rfl
   ·exact Ar (((((((((S.o.setCell (lR) _).setCell (lR) _).setCell (lR) _).setCell (lR) _).setCell (Nat.le_succ _) _).setCell (Nat.le_succ _) _).setCell (Nat.le_succ _) _).setCell (Nat.le_succ _) _))
theorem JJ(m n:Nat)(a:m<256):(bits BinOp.and IntKind.u8 ((m:Int) / 2 ^ n) 1 == 1)=m.testBit n:=by
 have e:((m:Int) / 2 ^ n)=((m / 2 ^ n:Nat):Int):=by simp
 have Ha:m / 2 ^ n<256:=Nat.lt_of_le_of_lt (Nat.div_le_self _ _) a;rw[e,Nat.testBit_eq_decide_div_mod_eq];generalize m / 2 ^ n=q at Ha;have key:∀q:Fin 256,(bits BinOp.and IntKind.u8 ((q.val:Nat):Int) 1 == 1)=decide (q.val % 2=1):=by decide +kernel
 exact key ⟨q,Ha⟩
theorem vO:(prog.info? 3).map (λi=>(i.zero,i.size,i.bytes))=some (some (.int .i64 0),1,8):=by kernel_rfl
def cH (l:List Nat):List Value:=l.map λ(n:Nat)=>Value.int .i64 (n:Int)
theorem JK(l:List Nat)(n:Nat):cH (l++[n])=cH l++[.int .i64 n]:=by simp[cH]
theorem qv(l:List Nat):(cH l).length=l.length:=by simp[cH]
def ints (l:List Nat):List Int:=l.map λ(n:Nat)=>(n:Int)
theorem qw(l:List Nat):(ints l).length=l.length:=by simp[ints]
def Row (w:World) (B:Nat) (v:Value) (l:List Nat):Prop:=w.ownsRow B 3 1 v l.length (cH l)
theorem JL(h:¬ (aC ds k).kind=kind):bC ds us kind k=false:=by rw[bC,Q7 h];rfl
theorem JM(h:(aC ds k).sick=true):bC ds us kind k=false:=by rw[bC,h];simp
theorem JN(h:us k=true):bC ds us kind k=false:=by rw[bC,h];simp
theorem JO(h:(aC ds k).kind=kind)(a:(aC ds k).sick=false)(b:us k=false):bC ds us kind k=true:=by rw[bC,a,b,Qc h];rfl
theorem As{b:Bool}(h:bC ds us kind k=true)(a:lm ds m k=b):em ds us kind m k=b:=by rw[em,h,a];rfl
theorem vP(h:bC ds us kind k=false):em ds us kind m k=false:=by rw[em,h];rfl
theorem JP(w:World)(o:Obj)(x:Value)(t:TypeId):∀j u,[x][j]?=some u->((w.alloc o).alloc (.cells #[x] t)).cell? ((⟨w.heap.size+1,0,none⟩:Addr).add j)=some u:=by
 have h:=cell_one_new (w.alloc o) x t
 rwa [show (w.alloc o).heap.size=w.heap.size+1 by simp] at h
theorem At(kind:ByteArray)(M:Nat)(w:World)(u db:Nat)(z:Option Addr)(c:Nat)(ds:List ak)(us:Nat->Bool)(h:aF w u db z c ds us)(C:eE ds)(K:M<256) :
  Calls prog 171 #[u,kind,.int .u8 M] w λe w'=>∃v,e=.returned v/\Row w' w v (bU (em ds us kind M) ds.length)/\Below w w w':=by
 obtain⟨i0,hi,Hp,Hs,Hr⟩:=info_parts vO;have Hn:=h.row;have B:=qI C;have y:=qI h;clear h C
 go_enter func171,ntmps171
 go_wp2
 go_loopw [7,15] (λv i wr=>∃k:Nat,k<=ds.length/\i=.int .i64 k/\Row wr w v (bU (em ds us kind M) k)/\aF wr u db z c ds us/\Below w w wr) (λ_ i _=>ds.length - (intOf i).toNat)
 case atStart=>exact⟨0,by omega,rfl,Qw _ _ _ _,y.o,Q0 _ _⟩
 case round=>
  obtain⟨k,P,rfl,t,s,g⟩:=hrel
  by_cases r:k<ds.length
  ·have Hm:k<16:=by have:=B.o.1;omega
   obtain⟨rfl,Hx,_⟩:=s.at0 (by omega);obtain⟨c0,c1,c2,_⟩:=s.cells k r;obtain⟨H,N⟩:=B.o.2 k r;obtain⟨m,D⟩:=Int.eq_ofNat_of_zero_le H;have Hv:m<4:=by omega
   have l:=qI λf=>JL (us:=us) (kind:=kind) (k:=k) (ds:=ds) f;have o:=qI λf=>JM (us:=us) (kind:=kind) (k:=k) (ds:=ds) f;have q:=qI λJ F I=>JO (us:=us) (kind:=kind) (k:=k) (ds:=ds) J F I;have Hk:Hu (lm ds M k=M.testBit m):=by unfold Hu lm;rw[D];rfl
   have He:=qI λf=>jR (p:=em ds us kind M) (n:=k) f;have Hg:=qI λf=>oW (p:=em ds us kind M) (n:=k) f;have Ht:=qr (em ds us kind M) k;rw[D] at c1;generalize (aC ds k).kind=b at *;generalize (aC ds k).sick=x at *;have Hc:=qI (g.alloc g.size (.cells #[b,(m:Int),x] 77));have Hh:=qI (s.alloc (.cells #[b,(m:Int),x] 77));have Hb:=qI (t.alloc (.cells #[b,(m:Int),x] 77));have A:=(Hh.o.used k Hm).1;have Hw:=g.size;clear t s g
   by_cases a:b=kind
   ·subst a
    rcases two x with hs|hs
    ·subst hs;have HS:Hu (bU (em ds us b M) (k+1)=_):=He.o (vP (o.o rfl));clear l o q He Hg
     go_wp2
     go_roundw
     case rel=>exact⟨k+1,by omega,by go_num,by rw[HS.o];exact Hb.o,Hh.o,Hc.o⟩
     case measure=>simp[intOf];omega
    ·subst hs
     rcases two (us k) with Hf|Hf
     ·have HS:Hu (bU (em ds us b M) (k+1)=_):=He.o (vP (JN Hf));rw[Hf] at A;clear l o q He Hg Hf
      go_wp2
      go_roundw
      case rel=>exact⟨k+1,by omega,by go_num,by rw[HS.o];exact Hb.o,Hh.o,Hc.o⟩
      case measure=>simp[intOf];omega
     ·have Hl:=q.o rfl rfl Hf;rw[Hf] at A;have Hj:=JJ M m K
      rcases two (M.testBit m) with d|d
      ·have HS:Hu (bU (em ds us b M) (k+1)=_):=Hg.o (As Hl (Hk.o.trans d));rw[d] at Hj;clear l o q He Hg Hf Hl Hk d
       go_wp2_with (at_builtin;refine wpList_append_own _ rfl _ _ 46 rfl w 3 i0 (0:Int) 1 8 underlying46 hi Hp Hs Hr rfl (by decide) _ _ _ rfl (Hb.o.alloc _) ⟨_,0,none⟩ 1 1 [.int .i64 k] rfl rfl (JP _ _ _ _) (ints_oneCell .i64 [(k:Int)]) (by unfold maxLen;omega) (by omega) (by simp;omega) ?_;intro O L Hi Ha _)
       go_roundw
       case rel=>
        refine⟨k+1,by omega,by go_num,?_,?_,?_⟩
        ·rw[HS.o,Row,JK,Q2];exact Hi
        ·refine (Hh.o.alloc _).kept Ha (λe=>?_) λE e=>?_
         ·have:=(Hb.o.lt u e.symm).1;have:=y.o.lt;omega
         ·have:=(Hb.o.lt db e.symm).1;have:=(y.o.at0 E).2.2;omega
        ·exact (Hc.o.alloc Hc.o.size _).grown Ha (by have:=Hc.o.size;simp at this ⊢;omega) λj G=>(Hb.o.lt j G).1
       case measure=>simp[intOf];omega
      ·have HS:Hu (bU (em ds us b M) (k+1)=_):=He.o (As Hl (Hk.o.trans d));rw[d] at Hj;clear l o q He Hg Hf Hl Hk d
       go_wp2
       go_roundw
       case rel=>exact⟨k+1,by omega,by go_num,by rw[HS.o];exact Hb.o,Hh.o,Hc.o⟩
       case measure=>simp[intOf];omega
   ·have HS:Hu (bU (em ds us kind M) (k+1)=_):=He.o (vP (l.o a));have Hq:=Ap a;clear l o q He Hg a
    go_wp2
    go_roundw
    case rel=>exact⟨k+1,by omega,by go_num,by rw[HS.o];exact Hb.o,Hh.o,Hc.o⟩
    case measure=>simp[intOf];omega
  ·have Ho:k=ds.length:=by omega
   subst Ho;have Hb:=qI t;have Hc:=qI g;clear t g s
   go_wp2
   go_ret;exact⟨_,rfl,Hb.o,Hc.o⟩
def mu (u:World) (T:Nat) (f:Nat->Bool):Prop:=∀j,j<16->u.cell? ⟨T,j,none⟩=some (.bool (f j))/\u.frozen? ⟨T,j,none⟩=false
abbrev qx (f:Nat->Bool):Array Value:=#[.bool (f 0),.bool (f 1),.bool (f 2),.bool (f 3),.bool (f 4),.bool (f 5),.bool (f 6),.bool (f 7),.bool (f 8),.bool (f 9),.bool (f 10),.bool (f 11),.bool (f 12),.bool (f 13),.bool (f 14),.bool (f 15)]
theorem mu.made(u:World)(t:TypeId)(f:Nat->Bool):mu (u.alloc (.cells (qx f) t)) u f:=by
 intro j a
 have:j=0\/j=1\/j=2\/j=3\/j=4\/j=5\/j=6\/j=7\/j=8\/j=9\/j=10\/j=11\/j=12\/j=13\/j=14\/j=15:=by omega
 rcases this with rfl|rfl|rfl|rfl|rfl|rfl|rfl|rfl|rfl|rfl|rfl|rfl|rfl|rfl|rfl|rfl <;> exact⟨by simp,by simp⟩
theorem mu.set{u:World}{f g:Nat->Bool}(h:mu u T f){m:Nat}(i:m<16)(b:Bool)(a:∀j,j<16->g j=if j=m then b else f j):mu (u.setCell ⟨T,m,none⟩ b) T g:=by
 intro j d;obtain⟨c,z⟩:=h j d;obtain⟨cm,_⟩:=h m i;refine⟨?_,(World.frozen?_setCell ..).trans z⟩;rw[a j d]
 by_cases e:j=m
 ·subst e
  simp
  clear c a;go_simp
 ·rw[if_neg e];have Ha:(⟨T,m,none⟩:Addr)≠⟨T,j,none⟩:=by intro h;cases h;exact e rfl
  rw[World.cell?_setCell_other (h:=Ha)];exact c
def qy (w:World) (pb:Nat) (f:Nat->Bool):Nat->World
 | 0=>w
 | k+1=>(qy w pb f k).setCell ⟨pb,1+k,none⟩ (.bool (f k))
theorem JQ(h:aF w pb db ao c ds us)(f:Nat->Bool)(k:Nat)(b:k<=16):aF (qy w pb f k) pb db ao c ds (λj=>if j<k then f j else us j):=by
 induction k with
 | zero=>simpa[qy] using h
 | succ k ih=>
  refine (ih (by omega)).set (by omega) (f k) λj _=>?_
  by_cases e:j=k
  ·subst e;rw[if_pos (by omega),if_pos rfl]
  ·by_cases a:j<k
   ·rw[if_pos (by omega),if_neg e,if_pos a]
   ·rw[if_neg (by omega),if_neg e,if_neg a]
theorem JR(w:World)(a:Nat)(f:Nat->Bool)(k:Nat):w.grownBy (qy w a f k) (some a):=by
 induction k with
 | zero=>exact vJ _ _
 | succ k ih=>exact ih.trans (cM _ _ _)
theorem aF.congr{vs:Nat->Bool}(h:aF w pb db ao c ds us)(e:∀j,j<16->vs j=us j):aF w pb db ao c ds vs:=
 ⟨h.row,h.at0,h.cells,λj a=>by rw[e j a];exact h.used j a⟩
theorem JS(h:aF w pb db ao c ds us)(f:Nat->Bool):aF (qy w pb f 16) pb db ao c ds f:=
 (JQ h f 16 (lR)).congr (λj a=>by rw[if_pos a])
theorem JT{l:List Int}(h:js (bH l k) n=false):eD n us l k=1:=by
 rw[eD,if_pos]
 simp[js] at h
 omega
theorem JU{x:Int}(h:js x n=true):∃m:Nat,x=(m:Int)/\m<n:=by
 simp[js] at h
 exact⟨x.toNat,by omega,by omega⟩
theorem JV{l:List Int}{m:Nat}(h:bH l k=(m:Int))(b:m<n)(a:de us (l.take k) m=true):eD n us l k=5:=by
 rw[eD,h,if_neg (by omega),if_pos];exact a
theorem JW{l:List Int}{m:Nat}(h:bH l k=(m:Int))(a:m<n)(b:de us (l.take k) m=false):eD n us l k=0:=by grind[eD,de]
theorem JX{l:List Int}{m:Nat}(a:k<l.length)(h:bH l k=(m:Int))(j:Nat):de us (l.take (k+1)) j=if j=m then true else de us (l.take k) j:=by grind[IZ,I9]
def lr (n:Nat) (us:Nat->Bool) (l:List Int):Nat->Bool:=if bh (eD n us l) l.length=0 then de us l else us
theorem JY(v:Value)(g o:Nat)(l:List Int)(w:World)(d db:Nat)(C:Option Addr)(c:Nat)(ds:List ak)(us:Nat->Bool)(h:aF w d db C c ds us)(J:eE ds)(G:jr w v g o l)(HQ:l.length<=9223372036854775807) :
  Calls prog 162 #[d,v] w λe w'=>e=.returned (aJ (bh (eD ds.length us l) l.length:Nat))/\w.grownBy w' (some d)/\aF w' d db C c ds (lr ds.length us l):=by
 have I:=qI G;obtain⟨al,cl,rfl,_⟩:=G;have U:=qI J;have F:=qI h;have u0:=(h.used 0 (by decide)).1;have u1:=(h.used 1 (by decide)).1;have u2:=(h.used 2 (by decide)).1;have u3:=(h.used 3 (by decide)).1;have u4:=(h.used 4 (by decide)).1;have u5:=(h.used 5 (by decide)).1;have u6:=(h.used 6 (by decide)).1;have u7:=(h.used 7 (by decide)).1;have u8:=(h.used 8 (by decide)).1;have u9:=(h.used 9 (by decide)).1;have HR:=(h.used 10 (by decide)).1;have HX:=(h.used 11 (by decide)).1;have O:=(h.used 12 (by decide)).1;have HC:=(h.used 13 (by decide)).1;have HV:=(h.used 14 (by decide)).1;have HZ:=(h.used 15 (by decide)).1;have Hn:Hu (mu (w.alloc (.cells (qx us) 119)) w (de us (l.take 0))):=by
  rw[List.take_zero,I8];exact mu.made w _ us
 have Hj:=qI (h.alloc (.cells (qx us) 119));have Hg:=qI ((Q0 w w).alloc (lR) (.cells (qx us) 119));have Hm:=qI (I.o.below Hg.o);unfold qx at Hn Hj Hg Hm;clear h J
 go_enter func162,ntmps162
 go_wp2
 go_loopw [14] (λi wr=>∃k:Nat,k<=l.length/\i=.int .i64 k/\Hu (bh (eD ds.length us l) k=0)/\mu wr w (de us (l.take k))/\aF wr d db C c ds us/\jr wr (.slice al l.length cl) g o l/\Below w w wr) (λi _=>l.length - (intOf i).toNat)
 case atStart=>exact⟨0,by omega,rfl,rfl,Hn.o,Hj.o,Hm.o,Hg.o⟩
 case round=>
  obtain⟨k,hk,rfl,B,b,a,Hi,u⟩:=hrel;have hp:=F.o.lt
  by_cases s:k<l.length
  ·have Hs:=qI Hi;obtain⟨HA,HU,W,He⟩:=Hi;obtain⟨rfl,Hw,He⟩:=He (by omega);cases W;have K:=He k s;have HT:=qI b;have Hh:=qI a;have Hf:=qI u;have t:=qI (vK (bH l k) wr d db C c ds us a);have y:=qI λn E=>(lq (f:=eD ds.length us l) (n:=l.length) B.o (by rw[E];simp) s).trans (E:eD ds.length us l k=n+1)
   rcases two (js (bH l k) ds.length) with r|r
   ·obtain⟨m,A,Hl⟩:=JU r;have Hb:m<16:=by have:=U.o.1;omega
    have Hc:=(b m Hb);have Ha:=Hc.1;have Hk:=Hc.2;have Hx:=(a.used m Hb).1;rw[r] at t;clear Hc b a u He r
    rcases two (de us (l.take k) m) with q|q
    ·have z:=qI (y.o 4 (JV A Hl q));have x:Hu (lr ds.length us l=us):=by unfold Hu lr;rw[z.o,if_neg (by decide)]
     rw[q] at Ha;rw[A] at K t;clear q y
     go_wp2_with fail
     refine t.o.mono ?_;rintro e H ⟨rfl,rfl⟩
     go_wp2
     go_ret;exact⟨by rw[z.o];rfl,fB Hf.o _,by rw[x.o];exact Hh.o⟩
    ·have Hp:Hu (bh (eD ds.length us l) (k+1)=0):=ml B.o (JW A Hl q);have Ht:=qI (HT.o.set (g:=de us (l.take (k+1))) Hb true λj _=>JX s A j);have Hq:=qI (Hh.o.kept (cM wr ⟨w,m,none⟩ true) (by simp;omega) (λD=>by have:=(F.o.at0 D).2.2;simp;omega));have Hr:=qI (Hs.o.kept (cM wr ⟨w,m,none⟩ true) (λD=>by have:=I.o;obtain⟨a1,a2,a3,a4⟩:=this;have:=(a4 D).2.1;simp;omega));have Hv:=qI (Hf.o.setCell (p:=⟨w,m,none⟩) (lR) true);rw[q] at Ha;rw[A] at K t;clear q y
     go_wp2_with fail
     refine t.o.mono ?_;rintro e H ⟨rfl,rfl⟩
     go_wp2
     go_roundw
     case rel=>exact⟨k+1,by omega,by go_num,Hp,Ht.o,Hq.o,Hr.o,Hv.o⟩
     case measure=>simp[intOf];omega
   ·have z:=qI (y.o 0 (JT r));have x:Hu (lr ds.length us l=us):=by unfold Hu lr;rw[z.o,if_neg (by decide)]
    rw[r] at t;clear r y b a u He
    go_wp2_with fail
    refine t.o.mono ?_;rintro e H ⟨rfl,rfl⟩
    go_wp2
    go_ret;exact⟨by rw[z.o];rfl,fB Hf.o _,by rw[x.o];exact Hh.o⟩
  ·have Ho:k=l.length:=by omega
   subst Ho;have x:Hu (lr ds.length us l=de us (l.take l.length)):=by unfold Hu lr;rw[B.o,if_pos rfl,Qh]
   have Hf:=qI u;have R:=qI (JS a (de us (l.take l.length)));have M:=qI ((fB u (some d)).trans (JR wr d (de us (l.take l.length)) 16));have t0:=(b 0 (by decide)).1;have z0:=(a.used 0 (by decide)).2;have s0:=(a.used 0 (by decide)).1;have t1:=(b 1 (by decide)).1;have z1:=(a.used 1 (by decide)).2;have s1:=(a.used 1 (by decide)).1;have t2:=(b 2 (by decide)).1;have z2:=(a.used 2 (by decide)).2;have s2:=(a.used 2 (by decide)).1;have t3:=(b 3 (by decide)).1;have z3:=(a.used 3 (by decide)).2;have s3:=(a.used 3 (by decide)).1;have t4:=(b 4 (by decide)).1;have z4:=(a.used 4 (by decide)).2;have s4:=(a.used 4 (by decide)).1;have t5:=(b 5 (by decide)).1;have z5:=(a.used 5 (by decide)).2;have s5:=(a.used 5 (by decide)).1;have t6:=(b 6 (by decide)).1;have z6:=(a.used 6 (by decide)).2;have s6:=(a.used 6 (by decide)).1;have t7:=(b 7 (by decide)).1;have z7:=(a.used 7 (by decide)).2;have s7:=(a.used 7 (by decide)).1;have t8:=(b 8 (by decide)).1;have z8:=(a.used 8 (by decide)).2;have s8:=(a.used 8 (by decide)).1;have t9:=(b 9 (by decide)).1;have z9:=(a.used 9 (by decide)).2;have s9:=(a.used 9 (by decide)).1;have H0:=(b 10 (by decide)).1;have Z:=(a.used 10 (by decide)).2;have HY:=(a.used 10 (by decide)).1;have Q:=(b 11 (by decide)).1;have HM:=(a.used 11 (by decide)).2;have N:=(a.used 11 (by decide)).1;have X:=(b 12 (by decide)).1;have HB:=(a.used 12 (by decide)).2;have L:=(a.used 12 (by decide)).1;have V:=(b 13 (by decide)).1;have HJ:=(a.used 13 (by decide)).2;have S:=(a.used 13 (by decide)).1;have Y:=(b 14 (by decide)).1;have P:=(a.used 14 (by decide)).2;have H1:=(a.used 14 (by decide)).1;have T:=(b 15 (by decide)).1;have HI:=(a.used 15 (by decide)).2;have HD:=(a.used 15 (by decide)).1;clear b a u Hi;generalize de us (l.take l.length)=f at *
   go_wp2
   go_ret;refine⟨by rw[B.o];rfl,M.o,?_⟩;rw[x.o];exact R.o
def Src (w:World) (v:Value) (l:List Nat):Prop:=
 (v=.slice none 0 0/\l=[])\/∃g c,v=.slice (some ⟨g,0,none⟩) l.length c/\g<w.heap.size/\∀j u,(cH l)[j]?=some u->w.cell? ((g:Addr).add j)=some u
theorem Row.src(h:Row w B v l):Src w v l:=by
 unfold Row at h
 rcases h.2 with⟨rfl,c⟩|⟨g,a,d,rfl,e,Ha,_⟩
 ·exact .inl ⟨rfl,Qe c⟩
 ·refine .inr ⟨g,a,rfl,(gS Ha).1,λj u b=>?_⟩;have Hb:j<l.length:=by rw[<- qv];exact (List.getElem?_eq_some_iff.1 b).1
  rw[Addr.add_lit,Qd,h.cellAt j (by omega)];exact b
theorem Src.below(h:Src w v l)(b:Below w w w'):Src w' v l:=by
 rcases h with h|⟨g,c,d,a,f⟩
 ·exact .inl h
 ·exact .inr ⟨g,c,d,Q1 a b.size,λj u e=>(b.cell (p:=(g:Addr).add j) (by rw[Addr.add_lit];exact a)).trans (f j u e)⟩
theorem Src.form{v:Value}(h:Src w v l):∃a c,v=.slice a l.length c:=by cases h <;> grind
theorem vQ(l:List Nat):∀u∈cH l,u.oneCell'=true:=by
 intro u a;simp only[cH,Qk] at a;obtain⟨x,_,rfl⟩:=a;rfl
theorem JZ(n:Nat)(w:World)(h:n<=1000):Calls prog 215 #[.slice none 0 0,(n:Int)] w λe w'=>∃v,e=.returned v/\Row w' w v []/\Below w w w':=by
 by_cases c:n=0
 ·subst c;refine (Any8.slices_Grow_room Tryz.growL none 0 0 0 w (by omega) (by omega) (by omega) (by omega)).mono ?_;rintro e w' ⟨rfl,rfl⟩;exact⟨_,rfl,Qw _ _ _ _,Q0 _ _⟩
 ·obtain⟨i0,hi,Hc,He,Hb⟩:=info_parts vO;have Hf:prog.info? (Tryz.growL_ren.t 25)=some i0:=hi;refine (Any8.slices_Grow_grow Tryz.growL i0 (0:Int) Hf Hc (by omega) none 0 0 n [] w (by omega) (by omega) (by rw[Hb];omega) (by omega) (by rw[He];rfl) (λ_=>rfl) (λa d=>by cases d)).mono ?_;have f:Tryz.growL_ren.t 25=3:=by kernel_rfl
  rw[f];have Hg:=grownCap_ge w (0+n) 0 3;have hle:=grownCap_le_maxLen w (0+n) 0 3 (by unfold maxLen;omega);generalize grownCap w (0+n) 0 3=G at *;rintro e w' ⟨rfl,rfl⟩;have g:(([]:List Value).toArray++Builtin.zeroCells (Value.int .i64 0).cells (0+n - 0)++Builtin.zeroCells (Value.int .i64 0).cells (G - (0+n))).size=G*1:=by
   simp[Builtin.zeroCells,Value.cells]
   omega
  generalize (([]:List Value).toArray++Builtin.zeroCells (Value.int .i64 0).cells (0+n - 0)++Builtin.zeroCells (Value.int .i64 0).cells (G - (0+n)))=b at *;have Ha:World.ownsRow (w.drew.alloc (.cells b 3)) w 3 1 (.slice w 0 G) 0 []:=by
   unfold World.ownsRow;refine⟨rfl,.inr ⟨w,G,b,rfl,lR,?_,Nat.zero_le _,hle,g,by simp⟩⟩
   show (w.heap.push (.cells b 3))[w.heap.size]?=_
   simp
  refine⟨_,rfl,Ha,?_⟩
  ·exact (Ar (Q0 w w)).alloc (lR) _
def qz (l1 l2:List Nat):Nat->List Nat
 | 0=>[]
 | 1=>l1
 | _=>l1++l2
theorem J0(B v2:Value)(a b:List Nat)(T:Nat)(w:World)(r:Src w B a)(x:Src w v2 b)(c1:w.cell? T=some B)(c2:w.cell? ⟨T,1,none⟩=some v2)(C:a.length<=16)(J:b.length<=16) :
  Calls prog 170 #[.slice T 2 2] w λe w'=>∃v,e=.returned v/\Row w' w v (a++b)/\Below w w w':=by
 obtain⟨i0,hi,Hh,Hj,Hi⟩:=info_parts vO;have Hk:=qI r;have Ho:=qI x;have z:=qI (Q3 w _ c1);obtain⟨M,D,rfl⟩:=r.form;obtain⟨a2,K,rfl⟩:=x.form;clear r x
 go_enter func170,ntmps170
 go_wp2_with fail
 go_loop [3,11] (λs i=>∃k:Nat,k<=2/\i=.int .i64 k/\s=.int .i64 ((qz a b k).length:Nat)) (λ_ i=>2 - (intOf i).toNat)
 case atStart=>exact⟨0,by omega,rfl,rfl⟩
 case round=>
  obtain⟨k,I,rfl,rfl⟩:=hrel;have key:k=0\/k=1\/k=2:=by omega
  rcases key with rfl|rfl|rfl
  ·have m:(qz a b 0).length=0:=rfl;rw[m]
   go_wp2_with fail
   go_round
   case rel=>exact⟨1,by omega,rfl,by show _=Value.int .i64 (a.length:Nat);go_num⟩
   case measure=>simp[intOf]
  ·have m:(qz a b 1).length=a.length:=rfl;rw[m]
   go_wp2_with fail
   go_round
   case rel=>exact⟨2,by omega,rfl,by show _=Value.int .i64 ((a++b).length:Nat);rw[Q2];go_num⟩
   case measure=>simp[intOf]
  ·have m:(qz a b 2).length=a.length+b.length:=Q2;rw[m]
   go_wp2_with fail
   refine (JZ (a.length+b.length) w (by omega)).mono ?_;rintro e L ⟨v,rfl,d,A⟩;have F:=qI d;have E:=qI A;clear d A
   go_wp2
   go_loopw [6,27] (λu i wr=>∃k:Nat,k<=2/\i=.int .i64 k/\Row wr w u (qz a b k)/\Below w w wr) (λ_ i _=>2 - (intOf i).toNat)
   case atStart=>exact⟨0,by omega,rfl,F.o,E.o⟩
   case round=>
    obtain⟨k,I,rfl,Hc,c⟩:=hrel;have key:k=0\/k=1\/k=2:=by omega
    rcases key with rfl|rfl|rfl
    ·have t:=Hk.o.below c;have q:=(c.cell (p:=T) z.o).trans c1;have d:World.ownsRow wr w 3 1 u6 ([]:List Nat).length (cH ([]:List Nat)):=Hc;clear Hc
     rcases t with⟨f,n⟩|⟨g,cc,f,Hn,Hf⟩
     ·simp only[Value.slice.injEq] at f;obtain⟨l,o,h⟩:=f;subst l h;rw[o] at q;have Hg:=qI n;clear n o
      go_wp2_with (at_builtin;refine wpList_append_own_none rfl _ _ 46 rfl w 3 i0 1 underlying46 hi _ _ _ rfl d rfl ?_)
      go_roundw
      case rel=>
       refine⟨1,by omega,rfl,?_,c⟩
       show Row _ _ _ (a)
       rw[Hg.o];exact d
      case measure=>simp[intOf]
     ·simp only[Value.slice.injEq] at f;obtain⟨l,_,h⟩:=f;subst l h;have He:=c.size
      go_wp2_with (at_builtin;refine wpList_append_own _ rfl _ _ 46 rfl w 3 i0 (0:Int) 1 8 underlying46 hi Hh Hj Hi rfl (by decide) _ _ _ rfl d g a.length D (cH a) rfl (by rw[qv,Nat.mul_one]) Hf (vQ a) (by unfold maxLen;simp;omega) (by simp;omega) (by omega) ?_;intro G H Hb Ha _)
      go_roundw
      case rel=>
       refine⟨1,by omega,rfl,?_,c.grown Ha He λj y=>(d.lt j y).1⟩
       show World.ownsRow _ _ _ _ _ (a).length (cH (a))
       simpa[cH] using Hb
      case measure=>simp[intOf]
    ·have t:=Ho.o.below c;have q:=(c.cell (p:=⟨T,1,none⟩) z.o).trans c2;have d:World.ownsRow wr w 3 1 u6 (a).length (cH (a)):=Hc;clear Hc
     rcases t with⟨f,n⟩|⟨g,cc,f,Hn,Hf⟩
     ·simp only[Value.slice.injEq] at f;obtain⟨l,o,h⟩:=f;subst l h;rw[o] at q;have Hg:=qI n;clear n o
      go_wp2_with (at_builtin;refine wpList_append_own_none rfl _ _ 46 rfl w 3 i0 1 underlying46 hi _ _ _ rfl d rfl ?_)
      go_roundw
      case rel=>
       refine⟨2,by omega,rfl,?_,c⟩
       show Row _ _ _ (a++b)
       rw[Hg.o,List.append_nil];exact d
      case measure=>simp[intOf]
     ·simp only[Value.slice.injEq] at f;obtain⟨l,_,h⟩:=f;subst l h;have He:=c.size
      go_wp2_with (at_builtin;refine wpList_append_own _ rfl _ _ 46 rfl w 3 i0 (0:Int) 1 8 underlying46 hi Hh Hj Hi rfl (by decide) _ _ _ rfl d g b.length K (cH b) rfl (by rw[qv,Nat.mul_one]) Hf (vQ b) (by unfold maxLen;omega) (by omega) (by omega) ?_;intro G H Hb Ha _)
      go_roundw
      case rel=>
       refine⟨2,by omega,rfl,?_,c.grown Ha He λj y=>(d.lt j y).1⟩
       show World.ownsRow _ _ _ _ _ (a++b).length (cH (a++b))
       have e:cH (a++b)=cH a++cH b:=by simp[cH]
       rw[e,Q2];exact Hb
      case measure=>simp[intOf]
    ·have Hm:=qI Hc;have Hl:=qI c;clear Hc c
     go_wp2
     go_ret;exact⟨_,rfl,Hm.o,Hl.o⟩
theorem J1(m n:Nat)(c:m<256)(d:n<=3):(255 - m).testBit n=!m.testBit n:=by
 have key:∀(a:Fin 256) (b:Fin 4),(255 - a.val).testBit b.val=!a.val.testBit b.val:=by decide +kernel
 exact key ⟨m,c⟩ ⟨n,by omega⟩
theorem J2(a:eE ds)(us:Nat->Bool)(kind:ByteArray)(m:Nat)(c:m<256):bU (em ds us kind (255 - m)) ds.length=bU (ln ds us kind m) ds.length:=by
 refine zQ λj b=>?_
 have:=a.2 j b
 unfold em ln lm;rw[J1 m _ c (by omega)]
theorem J3(m:Nat)(b:m<256):bits BinOp.xor IntKind.u8 IntKind.u8.max (m:Int)=((255 - m:Nat):Int):=by
 have key:∀(a:Fin 256),bits BinOp.xor IntKind.u8 IntKind.u8.max ((a.val:Nat):Int)=((255 - a.val:Nat):Int):=by decide +kernel
 exact key ⟨m,b⟩
def nH (bad:Nat->Value) (w:World) (pb db:Nat) (ao:Option Addr) (c:Nat) (ds:List ak) (us:Nat->Bool) (kind:ByteArray) (m:Nat) (many:Int) (e:Ending) (w':World):Prop:=
 (ed ds us kind many≠0->e=.returned (.tuple #[.slice none 0 0,bad (ed ds us kind many)])/\Below w w w')/\
 (ed ds us kind many=0->∃v g,e=.returned (.tuple #[v,bad 0])/\jr w' v g 0 (ints (bI (cU ds us kind m many.toNat)))/\(0<(bI (cU ds us kind m many.toNat)).length->w.heap.size<=g)/\aF w' pb db ao c ds (eK us (cU ds us kind m many.toNat)))/\
 w.grownBy w' (some pb)
theorem nH.wrong{many:Int}(hf:ed ds us kind many=n)(d:n≠0)(b:e=.returned (.tuple #[.slice none 0 0,bad n]))(a:Below w w w'):nH bad w pb db ao c ds us kind m many e w':=
 ⟨λ_=>⟨by rw[hf];exact b,a⟩,λh=>by omega,fB a _⟩
theorem Row.nums(h:Row w B v l):∃g,jr w v g 0 (ints l)/\(0<l.length->B<=g):=by
 unfold Row at h
 rcases h.2 with⟨rfl,d⟩|⟨g,a,e,rfl,c,Ha,_⟩
 ·have:=Qe d
  subst this;exact⟨0,⟨none,0,rfl,λh=>by simp[ints] at h⟩,λh=>by simp at h⟩
 ·refine⟨g,⟨_,a,by rw[qw],λ_=>⟨rfl,(gS Ha).1,λk b=>?_⟩⟩,λ_=>c⟩;rw[qw] at b;rw[Qd,h.cellAt k (by omega)]
  simp[cH,bH,ints,b]
theorem Au{b c:World}{r g:Option Nat}(h:a.grownBy b r)(k:b.grownBy c g)(l:∀j,g=some j->a.heap.size<=j\/r=some j):a.grownBy c r:=
 ⟨k.os.trans h.os,k.tape.trans h.tape,k.output.trans h.output,Q5 h.size k.size,λi hi d=>(k.block i (Q1 hi h.size) (λe=>by rcases l i e.symm with f|f;omega;exact d f.symm)).trans (h.block i hi d)⟩
theorem J4{q:Nat}(a:l[k]?=some q)(j:Nat):eK us (l.take (k+1)) j=if j=q then true else eK us (l.take k) j:=by
 rw[List.take_add_one,a]
 show eK us (l.take k++[q]) j=_
 rw[I0]
 by_cases e:j=q
 ·rw[if_pos e,Qc e,Bool.or_true]
 ·rw[if_neg e,Q7 e,Bool.or_false]
theorem Av{L:List Nat}(d:∀j∈L,j<16)(o:L.Nodup){g a:Nat}{b:Array Value}(p:B<=g)(c:wr.heap[g]?=some (.cells b 3 (0,0)))(f:L.length<=a)(i:a<=maxLen)(k:b.size=a*1)(l:b.toList.take L.length=cH L)(h:L.length<4611686018427387904) :
  Calls prog 134 #[.slice g L.length a] wr λe w'=>e=.returned (.tuple #[])/\Row w' B (.slice g (bI L).length a) (bI L)/\wr.grownBy w' (some g):=by
 have He:g<wr:=(gS c).1;have Ha:(ints L).length=L.length:=qw L;have Hc:(ints L).map (Value.int .i64)=cH L:=by simp[ints,cH]
 have q:=holds_of_blockI (ss:=ints L) c (by rw[Ha,l,Hc]);have m:=Any.slices_Sort_int Tryz.sortL9 g 0 a (ints L) wr q He (by rw[Ha];exact h);rw[Ha] at m;refine m.mono ?_;rintro e w' ⟨rfl,n,os,rfl⟩;have Hf:(ints L).mergeSort (λx y=>decide (x<=y))=ints (bI L):=I5 d o;have Hb:(bI L).length=L.length:=sN d o;rw[Hf];refine⟨rfl,?_,grownBy_sortedI _⟩
 have:=ownsRow_sortedI (ss:=ints L) (ts:=ints (bI L)) (base:=B) (n:=n) (os:=os) (by rw[qw,Ha,Hb]) p c (by rw[Ha];exact f) i k
 rw[Ha] at this;unfold Row;rw[Hb];have r:(ints (bI L)).map (Value.int .i64)=cH (bI L):=by simp[ints,cH]
 rw[r] at this;exact this
theorem J5(kind:ByteArray)(many:Int)(m:Nat)(w:World)(a:Nat)(h:many<0) :
  Calls prog 133 #[a,kind,many,.int .u8 m] w λe w'=>e=.returned (.tuple #[.slice none 0 0,.iface 108 (1:Int)])/\w'=w:=by
 go_enter func133,ntmps133
 go_wp2
 go_ret2;exact⟨rfl,rfl⟩
theorem J6(kind:ByteArray)(many m:Nat)(w:World)(a db:Nat)(l:Option Addr)(c:Nat)(ds:List ak)(us:Nat->Bool)(h:aF w a db l c ds us)(o:eE ds)(H:m<256) :
  Calls prog 133 #[a,kind,(many:Int),.int .u8 m] w λe w'=>nH (λn=>aJ n) w a db l c ds us kind m many e w':=by
 have P:=qI (At kind m w a db l c ds us h o H);have K:Hu (∀W,aF W a db l c ds us->Calls prog 171 #[a,kind,.int .u8 (bits BinOp.xor IntKind.u8 IntKind.u8.max m)] W λe w'=>∃v,e=.returned v/\Row w' W.heap.size v (bU (ln ds us kind m) ds.length)/\Below W.heap.size W w'):=by
  intro W hW;rw[J3 m H,<- J2 o us kind m H];exact At kind (255 - m) W a db l c ds us hW o (by omega)
 have C:=qI h;have HN:=qI o;have I:Hu (eL ds us kind m=bU (em ds us kind m) ds.length++bU (ln ds us kind m) ds.length):=rfl;have HW:=qI (zS ds us kind m);have hi:=qr (em ds us kind m) ds.length;have hb:=qr (ln ds us kind m) ds.length;have ha:=o.1;clear h o;generalize bU (em ds us kind m) ds.length=G at *;generalize bU (ln ds us kind m) ds.length=y at *
 go_enter func133,ntmps133
 go_wp2_with fail
 refine P.o.mono ?_;rintro e w1 ⟨v1,rfl,R,Hx⟩;have Hv:=qI R.src;have Hz:=qI (C.o.below Hx);have z:=qI Hx;clear R Hx P
 go_wp2_with fail
 refine (K.o w1 Hz.o).mono ?_;rintro e t ⟨v2,rfl,Ht,Hr⟩;have Hw:=qI (z.o.trans (Hr.mono z.o.size));have Hh:=(Q0 t t).alloc (lR) (.cells #[v1,v2] 46);have U:=qI ((Hz.o.below Hr).below Hh);have Hj:=qI ((Hv.o.below Hr).below Hh);have Hk:=qI (Ht.src.below Hh);have Hm:=qI (Hw.o.trans (Hh.mono Hw.o.size));obtain⟨J,L,rfl⟩:=Hv.o.form;obtain⟨a2,S,rfl⟩:=Ht.src.form;clear Ht Hr Hh K Hv z Hz
 go_wp2_with fail
 refine (J0 _ _ G y t _ Hj.o Hk.o (by simp) (by simp) (by omega) (by omega)).mono ?_;rintro e E ⟨v3,rfl,Hb,Hy⟩;have V:=qI (U.o.below Hy);have Hq:=qI (Hm.o.trans (Hy.mono Hm.o.size));have HC:w.heap.size<=(t.alloc (.cells #[.slice J G.length L,.slice a2 y.length S] 46)).heap.size:=Hm.o.size;rw[<- I.o] at Hb;clear Hy U Hm Hw Hj Hk;generalize (t.alloc (.cells #[.slice J G.length L,.slice a2 y.length S] 46)).heap.size=B3 at *;have H1:=qI Hb;unfold Row at Hb;have he:(eL ds us kind m).length<=32:=by rw[I.o,Q2];omega
 have Ho:Hu (ed ds us kind many=if ((eL ds us kind m).length:Int)<many then 9 else 0):=by unfold Hu ed;rw[if_neg (by omega),HW.o]
 by_cases hf:(eL ds us kind m).length<many
 ·have Ha:Hu (ed ds us kind many=9):=Ho.o.trans (if_pos (by omega));clear Ho
  rcases Hb.2 with⟨rfl,b⟩|⟨g,d,f,rfl,Y,Hi,H2,F,Hl,Hn⟩
  ·rw[b] at hf;clear Hb
   go_wp2
   go_ret2;exact nH.wrong Ha.o (by decide) rfl Hq.o
  ·clear Hb Hi Hl Hn
   go_wp2
   go_ret2;exact nH.wrong Ha.o (by decide) rfl Hq.o
 ·have Ha:Hu (ed ds us kind many=0):=Ho.o.trans (if_neg (by omega));clear Ho
  rcases Hb.2 with⟨rfl,b⟩|⟨g,d,f,rfl,Y,Hi,H2,F,Hl,Hn⟩
  ·have HY:many=0:=by omega
   subst HY;have hl:=Qe b;have x:Hu (cU ds us kind m 0=[]):=by unfold Hu cU;simp
   clear Hb
   go_wp2_with fail
   go_loop [37] (λi=>i=.int .i64 0) (λ_=>0)
   case atStart=>rfl
   case round=>
    subst hrel
    go_wp2_with fail
    refine (Any.slices_Sort_int_none Tryz.sortL9 _ _ _).mono ?_;rintro e w5 ⟨rfl,rfl⟩
    go_wp2
    go_ret2;refine⟨λD=>absurd Ha.o D,λ_=>⟨_,0,rfl,?_,?_,?_⟩,fB Hq.o _⟩
    ·show jr _ _ _ _ (ints (bI (cU ds us kind m 0)))
     rw[x.o];exact⟨none,0,rfl,λh=>by simp[ints,bI,bU] at h⟩
    ·show 0<(bI (cU ds us kind m 0)).length->_
     rw[x.o];exact λh=>by simp[bI,bU] at h
    ·show aF _ _ _ _ _ _ (eK us (cU ds us kind m 0))
     rw[x.o,zR];exact V.o
  ·have H0:many<=(eL ds us kind m).length:=by omega
   clear Hb;have A:g≠a:=by have:=C.o.lt;omega
   have Hp:Hu ((cU ds us kind m many).length=many):=by unfold Hu cU;rw[Qu];omega
   have H7:Hu (cU ds us kind m many=(eL ds us kind m).take many):=rfl;have Hf:Hu (∀j∈cU ds us kind m many,j<16):=λj r=>by have:=(nD r).1;omega
   have X:=qI (sL ds us kind m many);have HM:Hu (∀k q:Nat,(eL ds us kind m)[k]?=some q->q<16):=λk q s=>by
    have:=(zT.1 (List.mem_of_getElem? s)).1
    omega
   have HX:Hu (∀k,k<(eL ds us kind m).length->∃q:Nat,(eL ds us kind m)[k]?=some q/\E.cell? ⟨g,k,none⟩=some (.int .i64 q)):=λk B=>by
    refine⟨(eL ds us kind m)[k],Qf B,?_⟩
    have:=H1.o
    unfold Row at this;rw[this.cellAt k (by omega)]
    simp[cH,B]
   have He:g<E:=(gS Hi).1;have HQ:=qI (And.intro Hi (And.intro F (And.intro Hl Hn)));clear Hi Hl Hn F;have hc:decide ((many:Int)<0)=false:=by simp
   go_wp2
   go_loopw [37] (λi wr=>∃k:Nat,k<=many/\i=.int .i64 k/\aF wr a db l c ds (eK us ((eL ds us kind m).take k))/\E.grownBy wr (some a)) (λi _=>many - (intOf i).toNat)
   case atStart=>exact⟨0,by omega,rfl,by rw[List.take_zero,zR];exact V.o,vJ _ _⟩
   case round=>
    obtain⟨k,B,rfl,u,p⟩:=hrel
    by_cases hn:k<many
    ·obtain⟨q,s,M⟩:=HX.o k (by omega);have Hc:=HM.o k q s;have hx:=(p.cell_far ⟨g,k,none⟩ He (by simpa using A)).trans M;obtain⟨hu,hz⟩:=u.used q Hc;have H8:=qI (u.set (vs:=eK us ((eL ds us kind m).take (k+1))) Hc true λj _=>J4 s j);have H9:=qI (p.trans (cM wr ⟨a,1+q,none⟩ true));clear u p M s
     go_wp2
     go_roundw
     case rel=>exact⟨k+1,by omega,by go_num,H8.o,H9.o⟩
     case measure=>simp[intOf];omega
    ·have H5:k=many:=by omega
     subst H5;have H3:=qI u;have Q:=qI p;clear u p;have HS:Hu (Calls prog 134 #[.slice g k d] wr λe w'=>e=.returned (.tuple #[])/\Row w' B3 (.slice g k d) (bI (cU ds us kind m k))/\wr.grownBy w' (some g)):=by
      obtain⟨q1,q2,q3,Z⟩:=HQ.o
      have:=Av Hf.o X.o Y (wr:=wr) ((Q.o.block g He (by simpa using A)).trans q1) (by rw[Hp.o];omega) q2 q3 (by
       rw[Hp.o,H7.o];rw[Nat.mul_one] at Z;have e:(f.toList.take (eL ds us kind m).length).take k=f.toList.take k:=by rw[List.take_take,Nat.min_eq_left H0]
       rw[<- e,Z]
       simp[cH,List.map_take]) (by rw[Hp.o];omega)
      rw[sN Hf.o X.o,Hp.o] at this;exact this
     go_wp2_with fail
     refine HS.o.mono ?_;rintro e w5 ⟨rfl,O,Hs⟩;obtain⟨g5,T,Hg⟩:=O.nums;have H6:=qI (H3.o.kept Hs (by simpa using λe=>A e.symm) (λb=>by have:=(C.o.at0 b).2.2;simp;omega));have H4:=qI (Au (fB Hq.o (some a)) Q.o (λj r=>by right;exact r));have HZ:=qI (Au H4.o Hs (λj r=>by left;cases r;omega));have N:=qI (And.intro T Hg);clear O Hs T Hg
     go_wp2
     go_ret2;refine⟨λD=>absurd Ha.o D,λ_=>⟨_,g5,rfl,N.o.1,λb=>Q5 HC (N.o.2 b),?_⟩,HZ.o⟩;exact H6.o
theorem aF.devsAt(h:aF w pb db ao c ds us):et w (.slice ao ds.length c) db 0 ds:=
 ⟨ao,c,rfl,λa=>⟨(h.at0 a).1,(h.at0 a).2.2,λk b=>by obtain⟨c0,c1,c2,_⟩:=h.cells k b;rw[Qd];exact⟨c0,c1,c2⟩⟩⟩
theorem Aw(w:World)(a db:Nat)(i:Option Addr)(c:Nat)(ds:List ak)(us:Nat->Bool)(h:aF w a db i c ds us)(b:eE ds) :
  Calls prog 78 #[a] w λe w'=>∃v,e=.returned v/\jV w w' v ds/\Below w w w':=by
 have k:=qI (Am _ db 0 ds w h.devsAt b.1);have Ha:=h.row;clear h b
 go_enter func78,ntmps78
 go_wp2_with fail
 refine k.o.mono ?_;rintro e l ⟨v,rfl,f,d⟩;have g:=qI f;have j:=qI d;clear f d
 go_wp2
 go_ret;exact⟨_,rfl,g.o,j.o⟩
theorem J7(kind:ByteArray)(many:Int)(m:Nat)(w:World)(a db:Nat)(b:Option Addr)(c:Nat)(ds:List ak)(us:Nat->Bool)(h:aF w a db b c ds us)(f:eE ds)(g:m<256) :
  Calls prog 133 #[a,kind,many,.int .u8 m] w λe w'=>nH (λn=>aJ n) w a db b c ds us kind m many e w':=by
 by_cases d:many<0
 ·refine (J5 kind many m w a d).mono ?_;rintro e w' ⟨rfl,rfl⟩;exact nH.wrong (n:=1) (by rw[ed,if_pos d]) (by decide) rfl (Q0 _ _)
 ·obtain⟨n,rfl⟩:=Int.eq_ofNat_of_zero_le (show 0<=many by omega);exact J6 kind n m w a db b c ds us h f g
