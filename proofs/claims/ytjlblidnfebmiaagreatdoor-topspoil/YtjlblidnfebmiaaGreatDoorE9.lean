import Derived.Test.YtjlblidnfebmiaaGreatDoorE7
import Derived.Test.YtjlblidnfebmiaaGreatDoorE8
import Derived.Deep.AppendLies
import Derived.Shelf.Lay
import Derived.Shelf.Spec.SlicesGrow
import Derived.Sort.OwnSortedInts
import Derived.Ground.NamesProg
import Derived.BigRegion
import Derived.Laws.AppendOwnNone
set_option maxRecDepth 100000
set_option maxHeartbeats 16000000
open Go Go.RowKit Go.Shelf
open Go.Proofs.Tryz
namespace Go.Proofs.YtjlblidnfebmiaaGreatDoor
variable {ao:Option Addr} {c db g o pb:Nat} {ds:List ah} {l:List Int} {us:Nat->Bool} {v:Value} {w w':World}
theorem si (x:UInt8) (w:World):Calls prog 119 #[.int .u8 x.toNat] w λe w'=>e=.returned (.bool (oI x))/\w'=w:=by
 unfold oI
 by_cases b:97<=x.toNat
 all_goals by_cases a:x.toNat<=122
 ·go_enter func119,ntmps119
  go_wp2
  go_ret;refine ⟨?_,rfl⟩
  simp [b,a]
  try omega
 ·go_enter func119,ntmps119
  go_wp2
  go_ret;refine ⟨?_,rfl⟩
  simp [b,a]
  try omega
 ·go_enter func119,ntmps119
  go_wp2
  go_ret;refine ⟨?_,rfl⟩
  simp
  try omega
 ·omega
theorem sj (x:UInt8) (w:World):Calls prog 118 #[.int .u8 x.toNat] w λe w'=>(∃ n,e=.returned (.tuple #[(n:Int),.bool (oJ x)]))/\w'=w:=by
 cases h:oJ x
 ·exact (zK x w h).mono λe w' ⟨he,hw⟩=>⟨⟨_,he⟩,hw⟩
 ·exact (uY x w h).mono λe w' ⟨he,hw⟩=>⟨⟨_,he⟩,hw⟩
theorem iI (s:ByteArray) (w:World):Calls prog 79 #[s] w λe w'=>e=.returned (.bool (bN s))/\w'=w:=by
 by_cases h:s.size=0
 ·have Hb:s.toList.isEmpty=true:=by rw [pM];simp [h]
  rw [ID h];clear h
  go_enter func79,ntmps79
  go_wp2
  go_ret;exact ⟨rfl,rfl⟩
 have Hb:s.toList.isEmpty=false:=by rw [pM];simp [h]
 by_cases o:8<s.size
 ·rw [IE o]
  go_enter func79,ntmps79
  go_wp2
  go_ret;exact ⟨rfl,rfl⟩
 have Hc:s.size<=8:=by omega
 rw [IF (by omega) Hc];clear o h
 go_enter func79,ntmps79
 go_wp2_with fail
 go_loop [15] (λi=>∃ k:Nat,k<=s.size/\i=.int .i64 k/\Hu (eS (iF s) k=true)) (λi=>s.size - (intOf i).toNat)
 case atStart=>exact ⟨0,Nat.zero_le _,rfl,rfl⟩
 case round=>
  obtain ⟨k,p,rfl,j⟩:=hrel
  by_cases d:k<s.size
  ·have l:=qI (IC s k d)
   rcases two (oI s[k]) with a|a
   ·have c:Hu (eS (iF s) (k+1)=true):=zD j.o (by rw [l.o,a];rfl)
    go_wp2_with fail
    refine (sj _ _).mono ?_;rintro e g ⟨⟨n,rfl⟩,rfl⟩
    go_wp2_with fail
    refine (si _ _).mono ?_;rintro e g ⟨rfl,rfl⟩;rw [a]
    go_wp2_with fail
    go_round
    case rel=>exact ⟨k+1,by omega,by go_num,c⟩
    case measure=>simp [intOf];omega
   ·rcases two (oJ s[k]) with f|f
    ·by_cases m:0<k
     ·have c:Hu (eS (iF s) (k+1)=true):=zD j.o (by rw [l.o,a,f,Qc m];rfl)
      go_wp2_with fail
      refine (sj _ _).mono ?_;rintro e g ⟨⟨n,rfl⟩,rfl⟩;rw [f]
      go_wp2_with fail
      refine (si _ _).mono ?_;rintro e g ⟨rfl,rfl⟩;rw [a]
      go_wp2_with fail
      go_round
      case rel=>exact ⟨k+1,by omega,by go_num,c⟩
      case measure=>simp [intOf];omega
     ·have c:Hu (eS (iF s) s.size=false):=zE (k:=k) (by rw [l.o,a,f,Q7 m];rfl) d;have He:k=0:=by omega
      subst He
      go_wp2_with fail
      refine (sj _ _).mono ?_;rintro e g ⟨⟨n,rfl⟩,rfl⟩;rw [f]
      go_wp2_with fail
      refine (si _ _).mono ?_;rintro e g ⟨rfl,rfl⟩;rw [a]
      go_wp2
      go_ret;exact ⟨congrArg (λb=>Ending.returned (.bool b)) c.o.symm,rfl⟩
    ·have c:Hu (eS (iF s) s.size=false):=zE (k:=k) (by rw [l.o,a,f];rfl) d
     go_wp2_with fail
     refine (sj _ _).mono ?_;rintro e g ⟨⟨n,rfl⟩,rfl⟩;rw [f]
     go_wp2_with fail
     refine (si _ _).mono ?_;rintro e g ⟨rfl,rfl⟩;rw [a]
     go_wp2
     go_ret;exact ⟨congrArg (λb=>Ending.returned (.bool b)) c.o.symm,rfl⟩
  ·have Ha:k=s.size:=by omega
   have c:Hu (eS (iF s) s.size=true):=by rw [<- Ha];exact j
   clear Ha j
   go_wp2
   go_ret;exact ⟨congrArg (λb=>Ending.returned (.bool b)) c.o.symm,rfl⟩
structure aJ (w:World) (pb db:Nat) (ao:Option Addr) (c:Nat) (ds:List ah) (us:Nat->Bool):Prop where
 row:w.cell? pb=some (.slice ao ds.length c)
 at0:0<ds.length->ao=some ⟨db,0,none⟩/\db≠pb/\db<w
 cells:∀ k,k<ds.length->w.cell? ⟨db,k*3,none⟩=some (.string (aC ds k).kind)/\w.cell? ⟨db,k*3+1,none⟩=some (.int .i64 (aC ds k).node)/\w.cell? ⟨db,k*3+2,none⟩=some (.bool (aC ds k).sick)/\w.frozen? ⟨db,k*3+2,none⟩=false
 used:∀ j,j<16->w.cell? ⟨pb,1+j,none⟩=some (.bool (us j))/\w.frozen? ⟨pb,1+j,none⟩=false
theorem aJ.lt (h:aJ w pb db ao c ds us):pb<w:=Q3 w _ h.row
theorem aJ.kept {g:Option Nat} (h:aJ w pb db ao c ds us) (b:w.grownBy w' g) (e:some pb≠g) (d:0<ds.length->some db≠g):aJ w' pb db ao c ds us:=by
 refine ⟨(b.cell_far _ h.lt e).trans h.row,λa=>⟨(h.at0 a).1,(h.at0 a).2.1,Q1 (h.at0 a).2.2 b.size⟩,λk f=>?_,λj i=>?_⟩
 ·obtain ⟨c1,c2,c3,l⟩:=h.cells k f;have a:0<ds.length:=by omega
  have Ha:=(h.at0 a).2.2;exact ⟨(b.cell_far _ Ha (d a)).trans c1,(b.cell_far _ Ha (d a)).trans c2,(b.cell_far _ Ha (d a)).trans c3,(b.frozen_far _ Ha (d a)).trans l⟩
 ·obtain ⟨c1,c2⟩:=h.used j i;exact ⟨(b.cell_far _ h.lt e).trans c1,(b.frozen_far _ h.lt e).trans c2⟩
theorem cK (w:World) (a:Addr) (u:Value):w.grownBy (w.setCell a u) (some a.block):=
 ⟨rfl,rfl,rfl,by simp,λk _ b=>Below.heap_setCell _ _ _ _ λe=>b (by rw [e])⟩
theorem eU (h:Below w w w') (g:Option Nat):w.grownBy w' g:=⟨h.os,h.tape,h.output,h.size,λk a _=>h.block k a⟩
theorem below_grown {g:Option Nat} (h:w.grownBy w' g) {K:Nat} (c:K<=w) (a:∀ j,g=some j->K<=j):Below K w w':=
 ⟨h.os,h.tape,h.output,h.size,λk b=>h.block k (by omega) (λe=>by have:=a k e.symm;omega)⟩
theorem vd (w:World) (g:Option Nat):w.grownBy w g:=⟨rfl,rfl,rfl,lR,λ_ _ _=>rfl⟩
theorem aJ.below (h:aJ w pb db ao c ds us) (a:Below w w w'):aJ w' pb db ao c ds us:=h.kept (eU a none) (by simp) (by simp)
theorem aJ.drewN (h:aJ w pb db ao c ds us) (n:Nat):aJ (w.drewN n) pb db ao c ds us:=h.below (below_drewN (Q0 _ w) n)
theorem aJ.alloc (h:aJ w pb db ao c ds us) (o:Obj):aJ (w.alloc o) pb db ao c ds us:=h.below ((Q0 _ w).alloc (lR) o)
theorem aJ.set {vs:Nat->Bool} (h:aJ w pb db ao c ds us) {m:Nat} (q:m<16) (b:Bool) (l:∀ j,j<16->vs j=if j=m then b else us j):aJ (w.setCell ⟨pb,1+m,none⟩ b) pb db ao c ds vs:=by
 have Hb:∀ x,x≠1+m->(⟨pb,1+m,none⟩:Addr)≠⟨pb,x,none⟩:=λx p e=>by cases e;exact p rfl
 refine ⟨?_,λa=>⟨(h.at0 a).1,(h.at0 a).2.1,by simpa using (h.at0 a).2.2⟩,λk o=>?_,λj g=>?_⟩
 ·rw [World.cell?_setCell_other (h:=Hb 0 (by omega))];exact h.row
 ·obtain ⟨c1,c2,c3,n⟩:=h.cells k o;have a:0<ds.length:=by omega
  have hd:=(h.at0 a).2.1;have Ha:=(h.at0 a).2.2;have d:=cK w ⟨pb,1+m,none⟩ b;have f:some db≠some pb:=by simpa using hd
  exact ⟨(d.cell_far _ Ha f).trans c1,(d.cell_far _ Ha f).trans c2,(d.cell_far _ Ha f).trans c3,(d.frozen_far _ Ha f).trans n⟩
 ·obtain ⟨i,z⟩:=h.used j g;obtain ⟨cm,_⟩:=h.used m q;refine ⟨?_,(World.frozen?_setCell ..).trans z⟩;rw [l j g]
  by_cases e:j=m
  ·subst e
   simp
   clear i l Hb;go_simp
  ·rw [if_neg e,World.cell?_setCell_other (h:=Hb (1+j) (by omega))];exact i
theorem jh.kept {r:Option Nat} (h:jh w v g o l) (a:w.grownBy w' r) (p:0<l.length->some g≠r):jh w' v g o l:=by
 obtain ⟨n,c,f,m⟩:=h;refine ⟨n,c,f,λb=>?_⟩;obtain ⟨j,d,e⟩:=m b;exact ⟨j,Q1 d a.size,λk i=>(a.cell_far _ d (p b)).trans (e k i)⟩
theorem jh.below (h:jh w v g o l) (a:Below w w w'):jh w' v g o l:=h.kept (eU a none) (by simp)
theorem dW.below (h:dW w v g o ds) (a:Below w w w'):dW w' v g o ds:=by
 obtain ⟨m,c,f,l⟩:=h;refine ⟨m,c,f,λe=>?_⟩;obtain ⟨i,b,d⟩:=l e;refine ⟨i,Q1 b a.size,λk j=>?_⟩;obtain ⟨c1,c2,c3⟩:=d k j;exact ⟨(a.cell (p:=⟨g,o+k*3,none⟩) b).trans c1,(a.cell (p:=⟨g,o+k*3+1,none⟩) b).trans c2,(a.cell (p:=⟨g,o+k*3+2,none⟩) b).trans c3⟩
def nr (n:Int) (k:Nat):Bool:=decide (0<=n) && decide (n<(k:Int))
theorem IT (n:Int) (w:World) (a db:Nat) (f:Option Addr) (c:Nat) (ds:List ah) (us:Nat->Bool) (h:aJ w a db f c ds us) :
  Calls prog 107 #[a,n] w λe w'=>e=.returned (.bool (nr n ds.length))/\w'=w:=by
 have g:=h.row;clear h;unfold nr;generalize ds.length=m at *
 by_cases d:0<=n
 all_goals by_cases b:n<m
 all_goals
  go_enter func107,ntmps107
  go_wp2
  go_ret;refine ⟨?_,rfl⟩
  simp [d,b]
end Go.Proofs.YtjlblidnfebmiaaGreatDoor
namespace Go.Proofs
open Go.Shelf
def Tryz.cloneL_ren:Go.Shelf.Ren:=⟨fun|41=>105|n=>n,fun|22=>25|23=>77|4=>4|n=>n,fun|n=>n⟩
theorem Tryz.cloneL:Go.Proofs.SlLaysE0.n41 Tryz.prog Tryz.cloneL_ren:=by
 constructor
 case f41=>exact ⟨Tryz.f105.name,by decide,Tryz.func105.trans (congrArg some (by kernel_rfl))⟩
 all_goals intros;kernel_rfl
def Tryz.growL_ren:Go.Shelf.Ren:=⟨fun|4=>215|n=>n,fun|22=>46|25=>3|3=>3|4=>4|9=>9|20=>20|0=>0|n=>n,fun|n=>n⟩
theorem Tryz.growL:Go.Proofs.Lays8.n4 Tryz.prog Tryz.growL_ren:=by
 constructor
 case f4=>exact ⟨Tryz.f215.name,by decide,Tryz.func215.trans (congrArg some (by kernel_rfl))⟩
 all_goals intros;kernel_rfl
def Tryz.sortL9_ren:Go.Shelf.Ren:=⟨fun|189=>134|125=>161|257=>172|128=>202|129=>203|294=>216|295=>217|296=>218|297=>219|298=>220|299=>221|216=>222|300=>223|301=>224|328=>267|329=>254|330=>255|331=>268|332=>269|215=>187|343=>292|n=>n,fun|28=>46|3=>3|46=>219|0=>0|51=>296|53=>23|4=>4|183=>312|182=>311|131=>134|5=>5|9=>9|218=>357|222=>361|228=>389|229=>390|n=>n,fun|n=>n⟩
theorem Tryz.sortL9:Go.Proofs.Lays.n189 Tryz.prog Tryz.sortL9_ren:=by
 constructor<;>intros<;>kernel_rfl
end Go.Proofs
namespace Go.Proofs.YtjlblidnfebmiaaGreatDoor
variable {A B F T c db k m n pb:Nat} {a u w w' wr:World} {ao:Option Addr} {bad:Nat->Value} {ds:List ah} {e:Ending} {f:Nat->Nat} {g:Option Nat} {kind:ByteArray} {l:List Nat} {us:Nat->Bool} {v:Value}
def gh (l:List ah):List Value:=l.flatMap λx=>[.string x.kind,.int .i64 x.node,.bool x.sick]
theorem zM (l:List ah):(gh l).length=l.length*3:=by
 induction l with
 | nil=>rfl
 | cons a r ih=>simp only [gh,List.flatMap_cons,Q2,Qg,List.length_nil] at ih ⊢;omega
theorem zN (l:List ah) (k:Nat) (b:k<l.length):(gh l)[k*3]?=some (.string (aC l k).kind)/\(gh l)[k*3+1]?=some (.int .i64 (aC l k).node)/\(gh l)[k*3+2]?=some (.bool (aC l k).sick):=by
 induction l generalizing k with
 | nil=>simp at b
 | cons a r ih=>
  cases k with
  | zero=>simp [gh,aC]
  | succ k=>
   have:=ih k (by simpa using b)
   have e:gh (a :: r)=[.string a.kind,.int .i64 a.node,.bool a.sick]++gh r:=rfl;have c:aC (a :: r) (k+1)=aC r k:=by simp [aC]
   rw [e,c,show (k+1)*3=k*3+3 by omega]
   simpa using this
theorem IU {b o:Nat} {l:List ah} (h:∀ k,k<l.length->w.cell? ⟨b,o+k*3,none⟩=some (.string (aC l k).kind)/\w.cell? ⟨b,o+k*3+1,none⟩=some (.int .i64 (aC l k).node)/\w.cell? ⟨b,o+k*3+2,none⟩=some (.bool (aC l k).sick)) (j:Nat) (u:Value) (a:(gh l)[j]?=some u):w.cell? ((⟨b,o,none⟩:Addr).add j)=some u:=by
 have Ha:j<l.length*3:=by rw [<- zM];exact (List.getElem?_eq_some_iff.1 a).1
 obtain ⟨c,f,d⟩:=h (j / 3) (by omega);obtain ⟨c0,c1,c2⟩:=zN l (j / 3) (by omega);rw [Addr.add_lit]
 have:j=j / 3*3\/j=j / 3*3+1\/j=j / 3*3+2:=by omega
 rcases this with e|e|e
 ·rw [<- e] at c0 c;rw [c,<- c0,a]
 ·rw [<- e] at c1;rw [Nat.add_assoc,<- e] at f;rw [f,<- c1,a]
 ·rw [<- e] at c2;rw [Nat.add_assoc,<- e] at d;rw [d,<- c2,a]
theorem IV (l:List ah):∀ u∈gh l,u.oneCell'=true:=by
 intro u a;simp only [gh,List.mem_flatMap] at a;obtain ⟨x,_,b⟩:=a
 simp at b
 rcases b with rfl|rfl|rfl <;> rfl
theorem IW:(prog.info? 77).map (λi=>(i.zero,i.size,i.bytes))=some (some (.agg #[ByteArray.empty,(0:Int),false]),3,32):=by kernel_rfl
theorem IX (a:Option Addr) (n c:Nat) (w:World):Sem.run prog (binOp BinOp.eql 25 (.slice a n c) (.slice none 0 0)) w=.ok a.isNone w:=Lib.run_eql_slice_nil w _ _ a n c 0 0 underlying25
def jG (B:Nat) (w:World) (v:Value) (ds:List ah):Prop:=
 ∃ ao c g,v=.slice ao ds.length c/\(0<ds.length->ao=some ⟨g,0,none⟩/\B<=g/\g<w.heap.size)/\
  ∀ k,k<ds.length->w.cell? ⟨g,k*3,none⟩=some (.string (aC ds k).kind)/\w.cell? ⟨g,k*3+1,none⟩=some (.int .i64 (aC ds k).node)/\w.cell? ⟨g,k*3+2,none⟩=some (.bool (aC ds k).sick)/\w.frozen? ⟨g,k*3+2,none⟩=false
theorem jG.of_own (h:w.ownsRow B 77 3 v ds.length (gh ds)):jG B w v ds:=by
 rcases h.2 with ⟨rfl,d⟩|⟨g,a,e,rfl,c,Ha,_⟩
 ·exact ⟨none,0,0,by rw [d],λf=>by omega,λk b=>by omega⟩
 ·refine ⟨_,a,g,rfl,λ_=>⟨rfl,c,(gS Ha).1⟩,λk b=>?_⟩;obtain ⟨c0,c1,c2⟩:=zN ds k b;refine ⟨?_,?_,?_,by simp [World.frozen?,Ha]⟩
  ·rw [h.cellAt (k*3) (by omega)];exact c0
  ·rw [h.cellAt (k*3+1) (by omega)];exact c1
  ·rw [h.cellAt (k*3+2) (by omega)];exact c2
theorem zO (a:Addr) (c:Nat) (l:List ah) (w:World) (d:∀ j u,(gh l)[j]?=some u->w.cell? (a.add j)=some u) (m:l.length<=16) :
  Calls prog 105 #[.slice (some a) l.length c] w λe w'=>∃ v,e=.returned v/\jG w w' v l/\Below w w w':=by
 obtain ⟨i0,hi,Hc,He,Hg⟩:=info_parts IW;have h:=qI ((Q0 w w).alloc (lR) (.cells #[] 77));have g:Hu (∀ j u,(gh l)[j]?=some u->(w.alloc (.cells #[] 77)).cell? (a.add j)=some u):=λj u b=>Lib.cell?_alloc_some _ (d j u b)
 have Hh:=IX (some a) l.length c w;clear d
 go_enter func105,ntmps105
 go_wp2_with (at_builtin;(refine wpList_append_own _ rfl _ _ 25 rfl w 77 i0 (.agg #[ByteArray.empty,(0:Int),false]) 3 32 underlying25 hi Hc He Hg rfl (by decide) _ _ _ rfl (World.ownsRow_lit w #[] 0 (lR) (Nat.zero_le _) rfl) a l.length c (gh l) rfl (zM l) g.o (IV l) (by unfold maxLen;omega) (by omega) (by simp) ?_);intro f k Ha Hb _)
 have Hf:=qI (h.o.grown Hb (by simp) (λj b=>by cases b;exact lR));rw [Qd] at Ha;have i:Hu (jG w k f l):=jG.of_own (by simpa using Ha);clear Ha Hb
 go_wp2
 go_ret;exact ⟨_,rfl,i.o,Hf.o⟩
theorem zP (v:Value) (b o:Nat) (l:List ah) (w:World) (p:dW w v b o l) (m:l.length<=16) :
  Calls prog 105 #[v] w λe w'=>∃ v,e=.returned v/\jG w w' v l/\Below w w w':=by
 obtain ⟨g,c,rfl,f⟩:=p
 by_cases d:0<l.length
 ·obtain ⟨rfl,Hc,Ha⟩:=f d;exact zO ⟨b,o,none⟩ c l w (IU Ha) m
 ·have Hb:l=[]:=Qe (by omega);subst Hb
  rcases g with _|a
  ·refine (AnyE.slices_Clone_nil Tryz.cloneL 0 c w).mono ?_;rintro e w' ⟨rfl,rfl⟩;exact ⟨_,rfl,⟨none,0,0,rfl,λh=>by simp at h,λk n=>by simp at n⟩,Q0 _ _⟩
  ·exact zO a c [] w (λj u i=>by simp [gh] at i) (by simp)
def so (w:World) (ds:List ah) (p:Value) (w':World):Prop:=
 ∃ pb db ao c,p=.pointer (some ⟨pb,0,none⟩)/\aJ w' pb db ao c ds (λ_=>false)/\w.heap.size<=pb/\(0<ds.length->w.heap.size<=db)
theorem IY (h:ds.length<=16):dQ ds=bh (iG ds) ds.length:=by rw [dQ,if_neg (by omega)]
theorem IZ (h:bN (aC ds k).kind=false):iG ds k=3:=by rw [iG,if_pos h]
theorem I0 (h:bN (aC ds k).kind=true) (a:(aC ds k).node<0\/3<(aC ds k).node):iG ds k=1:=by rw [iG,if_neg (by rw [h];simp),if_pos a]
theorem I1 (h:bN (aC ds k).kind=true) (a:0<=(aC ds k).node) (b:(aC ds k).node<=3):iG ds k=0:=by rw [iG,if_neg (by rw [h];simp),if_neg (by omega)]
abbrev zQ:=λ(x0:Value) (x1:TypeId)=>(.cells #[x0,false,false,false,false,false,false,false,false,false,false,false,false,false,false,false,false] x1:Obj)
theorem aJ.made (h:jG B w v ds) (t:TypeId):∃ db e c,aJ (w.alloc (zQ v t)) w db e c ds (λ_=>false)/\(0<ds.length->B<=db):=by
 obtain ⟨e,c,g,rfl,a,f⟩:=h;refine ⟨g,e,c,⟨by simp,λb=>⟨(a b).1,Nat.ne_of_lt (a b).2.2,by have:=(a b).2.2;simp;omega⟩,λk i=>?_,λj l=>?_⟩,λb=>(a b).2.1⟩
 ·have Ha:=(a (by omega)).2.2;obtain ⟨c0,c1,c2,c3⟩:=f k i;have d:=(Q0 w w).alloc (lR) (.cells #[.slice e ds.length c,false,false,false,false,false,false,false,false,false,false,false,false,false,false,false,false] t);exact ⟨(d.cell (p:=⟨g,k*3,none⟩) Ha).trans c0,(d.cell (p:=⟨g,k*3+1,none⟩) Ha).trans c1,(d.cell (p:=⟨g,k*3+2,none⟩) Ha).trans c2,(d.frozen (p:=⟨g,k*3+2,none⟩) Ha).trans c3⟩
 ·have:j=0\/j=1\/j=2\/j=3\/j=4\/j=5\/j=6\/j=7\/j=8\/j=9\/j=10\/j=11\/j=12\/j=13\/j=14\/j=15:=by omega
  rcases this with rfl|rfl|rfl|rfl|rfl|rfl|rfl|rfl|rfl|rfl|rfl|rfl|rfl|rfl|rfl|rfl <;> exact ⟨by simp,by simp⟩
theorem so.of {a:World} (h:jG B a v ds) (d:w<=B) (hs:w<=a.heap.size) (t:TypeId):so w ds a (a.alloc (zQ v t)):=by
 obtain ⟨db,f,c,g,b⟩:=aJ.made h t;exact ⟨_,db,f,c,rfl,g,hs,λe=>Q5 d (b e)⟩
theorem I2 (a:Option Addr) (n c:Nat) (w:World) (h:16<n):Calls prog 61 #[.slice a n c] w λe w'=>e=.returned (.tuple #[.pointer none,.iface 108 (2:Int)])/\w'=w:=by
 go_enter func61,ntmps61
 go_wp2
 go_ret2;exact ⟨rfl,rfl⟩
def nu (w:World) (ds:List ah) (bad:Nat->Value) (e:Ending) (w':World):Prop:=
 (dQ ds=0->∃ p,e=.returned (.tuple #[p,bad 0])/\so w ds p w')/\(dQ ds≠0->e=.returned (.tuple #[.pointer none,bad (dQ ds)]))/\Below w w w'
theorem nu.wrong (hf:dQ ds=n) (c:n≠0) (b:e=.returned (.tuple #[.pointer none,bad n])) (a:Below w w w'):nu w ds bad e w':=
 ⟨λh=>by omega,λ_=>by rw [hf,b],a⟩
theorem I3 (z:Option Addr) (c b o:Nat) (ds:List ah) (w:World) (hd:dW w (.slice z ds.length c) b o ds) (h:ds.length<=16):Calls prog 61 #[.slice z ds.length c] w λe w'=>nu w ds (λn=>aL n) e w':=by
 have u:=qI hd;have r:=qI (IY h);clear hd
 go_enter func61,ntmps61
 go_wp2
 go_loopw [12] (λi wr=>∃ k:Nat,k<=ds.length/\i=.int .i64 k/\Hu (bh (iG ds) k=0)/\Below w w wr) (λi _=>ds.length - (intOf i).toNat)
 case atStart=>exact ⟨0,by omega,rfl,rfl,Q0 _ _⟩
 case round=>
  obtain ⟨k,F,rfl,p,d⟩:=hrel
  by_cases j:k<ds.length
  ·obtain ⟨D,E,q,He⟩:=u.o.below d;obtain ⟨rfl,Hk,He⟩:=He (by omega);cases q;obtain ⟨c0,c1,c2⟩:=He k j;have Hb:=qI λg=>IZ (ds:=ds) (k:=k) g;have Hf:=qI λg l=>I0 (ds:=ds) (k:=k) g l;have Hc:=qI λg l A=>I1 (ds:=ds) (k:=k) g l A;have m:=qI λn a=>(r.o.trans (kU (n:=ds.length) p.o (by rw [a];simp) j)).trans (a:iG ds k=n+1);clear He;generalize aC ds k=x at *;have Ha:=d.alloc d.size (.cells #[x.kind,(x.node:Int),x.sick] 77)
   rcases two (bN x.kind) with a|a
   ·have key:(x.node<0\/(0<=x.node/\4<=x.node))\/(0<=x.node/\x.node<4):=by omega
    rcases key with C|⟨t,l⟩
    ·have f:=qI (m.o 0 (Hf.o a (by omega)));clear Hb Hf Hc m
     rcases C with t|⟨t,l⟩
     all_goals
      go_wp2_with fail
      refine (iI _ _).mono ?_;rintro e s ⟨rfl,rfl⟩;rw [a]
      go_wp2
      go_ret2;exact nu.wrong f.o (by decide) rfl Ha
    ·have f:Hu (bh (iG ds) (k+1)=0):=l8 p.o (Hc.o a (by omega) (by omega));clear Hb Hf Hc m
     go_wp2_with fail
     refine (iI _ _).mono ?_;rintro e s ⟨rfl,rfl⟩;rw [a]
     go_wp2
     go_roundw
     case rel=>exact ⟨k+1,by omega,by go_num,f,Ha⟩
     case measure=>simp [intOf];omega
   ·have f:=qI (m.o 2 (Hb.o a));clear Hb Hf Hc m
    go_wp2_with fail
    refine (iI _ _).mono ?_;rintro e s ⟨rfl,rfl⟩;rw [a]
    go_wp2
    go_ret2;exact nu.wrong f.o (by decide) rfl Ha
  ·have Hg:k=ds.length:=by omega
   have f:Hu (dQ ds=0):=by rw [<- Hg] at r;exact r.o.trans p.o
   have Hi:=qI (u.o.below d);clear Hg p
   go_wp2_with fail
   refine (zP _ b o ds _ Hi.o h).mono ?_;rintro e s ⟨v,rfl,q,y⟩;have Ha:=d.trans (y.mono d.size);have Hj:=qI (so.of (w:=w) q d.size Ha.size 201);have Hh:=qI (Ha.alloc Ha.size (.cells #[v,false,false,false,false,false,false,false,false,false,false,false,false,false,false,false,false] 201));obtain ⟨B,c2,G,rfl,_,_⟩:=q;clear y Ha
   go_wp2
   go_ret2;exact ⟨λ_=>⟨_,rfl,Hj.o⟩,λg=>absurd f.o g,Hh.o⟩
theorem zR (v:Value) (b o:Nat) (ds:List ah) (w:World) (hd:dW w v b o ds):Calls prog 61 #[v] w λe w'=>nu w ds (λn=>aL n) e w':=by
 have Ha:=hd;obtain ⟨a,c,rfl,_⟩:=hd
 by_cases h:ds.length<=16
 ·exact I3 a c b o ds w Ha h
 ·refine (I2 a ds.length c w (by omega)).mono ?_;rintro e w' ⟨rfl,rfl⟩;exact nu.wrong (n:=2) (by rw [dQ,if_pos (by omega)]) (by decide) rfl (Q0 _ _)
def eE (w:World) (T:Nat) (f:Nat->Nat):Prop:=∀ j,j<4->w.cell? ⟨T,j,none⟩=some (.int .i64 (f j:Nat))/\w.frozen? ⟨T,j,none⟩=false
theorem eE.lt (h:eE w T f):T<w:=Q3 w _ (h 0 (by decide)).1
theorem eE.kept (h:eE w T f) (b:w.grownBy w' g) (a:some T≠g):eE w' T f:=λj c=>
 ⟨(b.cell_far _ h.lt a).trans (h j c).1,(b.frozen_far _ h.lt a).trans (h j c).2⟩
theorem eE.below (h:eE w T f) (a:Below w w w'):eE w' T f:=h.kept (eU a none) (by simp)
theorem eE.alloc (h:eE w T f) (o:Obj):eE (w.alloc o) T f:=h.below ((Q0 _ w).alloc (lR) o)
theorem eE.made (w:World) (t:TypeId) (f:Nat->Nat) (hf:∀ j,f j=0):eE (w.alloc (.cells #[(0:Int),(0:Int),(0:Int),(0:Int)] t)) w f:=by
 intro j a;rw [hf j]
 have:j=0\/j=1\/j=2\/j=3:=by omega
 rcases this with rfl|rfl|rfl|rfl <;> exact ⟨by simp,by simp⟩
theorem eE.set {f g:Nat->Nat} (h:eE w T f) {m:Nat} (k:m<4) {n:Int} (d:n=(f m:Nat)+1) (a:∀ j,g j=f j+if j=m then 1 else 0):eE (w.setCell ⟨T,m,none⟩ n) T g:=by
 subst d;intro j i;obtain ⟨c,z⟩:=h j i;obtain ⟨cm,_⟩:=h m k;refine ⟨?_,(World.frozen?_setCell ..).trans z⟩;rw [a j]
 by_cases e:j=m
 ·subst e;rw [if_pos rfl];have b:(((f j+1:Nat)):Int)=((f j:Nat):Int)+1:=by omega
  rw [b];clear c a b;go_simp
 ·rw [if_neg e,Nat.add_zero];have Ha:(⟨T,m,none⟩:Addr)≠⟨T,j,none⟩:=by intro h;cases h;exact e rfl
  rw [World.cell?_setCell_other (h:=Ha)];exact c
theorem zS {a b:ByteArray} (h:¬ a=b):¬ a.toList=b.toList:=by
 rw [Qs,Qs];exact λe=>h (Go.WideShapes.bytes_inj e)
theorem zT (p:Nat->Bool) (ds:List ah) (x:Nat):bd p ds x 0=0:=rfl
def ve (f:Nat->Nat):Value:=.agg #[.int .i64 (f 0:Nat),.int .i64 (f 1:Nat),.int .i64 (f 2:Nat),.int .i64 (f 3:Nat)]
structure gi (w wr:World) (pb db:Nat) (ao:Option Addr) (c:Nat) (ds:List ah) (us:Nat->Bool) (kind:ByteArray) (F A k:Nat):Prop where
 pool:aJ wr pb db ao c ds us
 free:eE wr F (λx=>bd (bz ds us kind) ds x k)
 all:eE wr A (λx=>bd (cJ ds kind) ds x k)
 below:Below w w wr
theorem gi.alloc (h:gi w wr pb db ao c ds us kind F A k) (o:Obj):gi w (wr.alloc o) pb db ao c ds us kind F A k:=
 ⟨h.pool.alloc o,h.free.alloc o,h.all.alloc o,h.below.alloc h.below.size o⟩
theorem gi.mid {m D:Nat} {n z:Int} (h:gi w wr pb db ao c ds us kind F A k) (i:k<16) (g:m<4) (f:wr.cell? ⟨D,1,none⟩=some (.int .i64 z)) (a:F≠A) (e:pb≠A) (d:D≠A) :
  (wr.setCell ⟨A,m,none⟩ n).cell? ⟨pb,1+k,none⟩=some (.bool (us k))/\(wr.setCell ⟨A,m,none⟩ n).cell? ⟨F,m,none⟩=some (.int .i64 (bd (bz ds us kind) ds m k:Nat))/\(wr.setCell ⟨A,m,none⟩ n).frozen? ⟨F,m,none⟩=false/\(wr.setCell ⟨A,m,none⟩ n).cell? ⟨D,1,none⟩=some (.int .i64 z):=by
 have b:=cK wr ⟨A,m,none⟩ n;exact ⟨(b.cell_far _ h.pool.lt (by simpa using e)).trans (h.pool.used k i).1,(b.cell_far _ h.free.lt (by simpa using a)).trans (h.free m g).1,(b.frozen_far _ h.free.lt (by simpa using a)).trans (h.free m g).2,(b.cell_far _ (Q3 _ _ f) (by simpa using d)).trans f⟩
theorem gi.no (h:gi w wr pb db ao c ds us kind F A k) (a:cJ ds kind k=false):gi w wr pb db ao c ds us kind F A (k+1):=by
 refine ⟨h.pool,?_,?_,h.below⟩
 ·have:(λx=>bd (bz ds us kind) ds x (k+1))=λx=>bd (bz ds us kind) ds x k:=by funext x;exact uV (by rw [uX,a];rfl) x
  rw [this];exact h.free
 ·have:(λx=>bd (cJ ds kind) ds x (k+1))=λx=>bd (cJ ds kind) ds x k:=by funext x;exact uV a x
  rw [this];exact h.all
theorem gi.one {m:Nat} {n:Int} (h:gi w wr pb db ao c ds us kind F A k) (d:cJ ds kind k=true) (g:us k=true) (l:m<4) (o:(aC ds k).node=(m:Int)) (i:w<=A) (a:F≠A) (p:pb<w) (hd:0<ds.length->db<w) (e:n=(bd (cJ ds kind) ds m k:Nat)+1) :
  gi w (wr.setCell ⟨A,m,none⟩ n) pb db ao c ds us kind F A (k+1):=by
 have b:=cK wr ⟨A,m,none⟩ n;refine ⟨h.pool.kept b (by simp;omega) (λf=>by have:=hd f;simp;omega),?_,?_,h.below.setCell i _⟩
 ·have:(λx=>bd (bz ds us kind) ds x (k+1))=λx=>bd (bz ds us kind) ds x k:=by funext x;exact uV (by rw [uX,d,g];rfl) x
  rw [this];exact h.free.kept b (by simpa using a)
 ·refine h.all.set l e λj=>?_;rw [uW d (by omega)]
  congr 2
  have:(aC ds k).node.toNat=m:=by omega
  rw [this]
theorem gi.both {m:Nat} {n n2:Int} (h:gi w wr pb db ao c ds us kind F A k) (g:cJ ds kind k=true) (l:us k=false) (i:m<4) (s:(aC ds k).node=(m:Int)) (o:w<=F) (p:w<=A) (a:F≠A) (r:pb<w) (hd:0<ds.length->db<w) (q:n=(bd (cJ ds kind) ds m k:Nat)+1) (d:n2=(bd (bz ds us kind) ds m k:Nat)+1) :
  gi w ((wr.setCell ⟨A,m,none⟩ n).setCell ⟨F,m,none⟩ n2) pb db ao c ds us kind F A (k+1):=by
 have f:=cK wr ⟨A,m,none⟩ n;have Ha:=cK (wr.setCell ⟨A,m,none⟩ n) ⟨F,m,none⟩ n2;refine ⟨(h.pool.kept f (by simp;omega) (λb=>by have:=hd b;simp;omega)).kept Ha (by simp;omega) (λb=>by have:=hd b;simp;omega),?_,?_,(h.below.setCell p _).setCell o _⟩
 ·refine (h.free.kept f (by simpa using a)).set i d λj=>?_;rw [uW (by rw [uX,g,l];rfl) (by omega)]
  congr 2
  have:(aC ds k).node.toNat=m:=by omega
  rw [this]
 ·refine (h.all.set i q λj=>?_).kept Ha (by simpa using λe=>a e.symm);rw [uW g (by omega)]
  congr 2
  have:(aC ds k).node.toNat=m:=by omega
  rw [this]
theorem I4 {fn:Func} {p q:Tmp} {c:TypeId} (h:fn.results=#[.cell p c,.cell q c]) (tmps:Array Value) (P:Program) (w:World) :
  (results fn tmps).run P w =
   ((asAddr (tmps.getD p undef)).run P w).andThen λa g=>((loadVar c a).run P g).andThen λv f=>((asAddr (tmps.getD q undef)).run P f).andThen λb e=>((loadVar c b).run P e).andThen λu d=>.ok (.tuple #[v,u]) d:=by
 simp only [results,h]
 simp [Sem.run_bind,Result.andThen]
theorem zU (h:Below B a w):Below B a w.drew:=⟨h.os,h.tape,h.output,h.size,h.block⟩
abbrev vi:=(.cells #[(0:Int),(0:Int),(0:Int),(0:Int)] 202:Obj)
theorem I5 (kind:ByteArray) (w:World) (F db:Nat) (I:Option Addr) (c:Nat) (ds:List ah) (us:Nat->Bool) (h:aJ w F db I c ds us) (O:eT ds) :
  Calls prog 167 #[F,kind] w λe w'=>e=.returned (.tuple #[ve λx=>bd (bz ds us kind) ds x ds.length,ve λx=>bd (cJ ds kind) ds x ds.length])/\Below w w w':=by
 have L:=h.lt;have hd:0<ds.length->db<w.heap.size:=λP=>(h.at0 P).2.2
 have Hk:Hu (gi w ((w.alloc (vi)).alloc (vi)) F db I c ds us kind w (w.heap.size+1) 0):=
  ⟨(h.alloc _).alloc _,(eE.made w _ _ λj=>zT _ _ _).alloc _,by have:=eE.made (w.alloc (vi)) 202 (λx=>bd (cJ ds kind) ds x 0) λj=>zT _ _ _;simpa using this,((Q0 w w).alloc (lR) _).alloc (by simp) _⟩
 have Hl:=Hk.o.pool.row;have G:=qI O;have A:=qI (And.intro L hd);clear h L hd
 go_enter func167,ntmps167
 go_wp2
 go_loopw [13] (λi wr=>∃ k:Nat,k<=ds.length/\i=.int .i64 k/\gi w wr F db I c ds us kind w (w.heap.size+1) k) (λi _=>ds.length - (intOf i).toNat)
 case atStart=>exact ⟨0,by omega,rfl,Hk.o⟩
 case round=>
  obtain ⟨k,hk,rfl,a⟩:=hrel
  by_cases C:k<ds.length
  ·have Hi:k<16:=by have:=G.o.1;omega
   obtain ⟨rfl,Hp,_⟩:=a.pool.at0 (by omega);obtain ⟨c0,c1,c2,_⟩:=a.pool.cells k C;obtain ⟨K,N⟩:=G.o.2 k C;obtain ⟨m,H⟩:=Int.eq_ofNat_of_zero_le K;have Hh:m<4:=by omega
   have Hc:=qI (a.alloc (.cells #[(aC ds k).kind,((aC ds k).node:Int),.bool (aC ds k).sick] 77));have Hf:=qI λE=>Hc.o.no E;have Hb:=qI λE q n t=>Hc.o.one (m:=m) (n:=n) E q Hh H (Nat.le_succ _) (by omega) A.o.1 A.o.2 t;have Ha:=qI λE q n n2 t y=>Hc.o.both (m:=m) (n:=n) (n2:=n2) E q Hh H (lR) (Nat.le_succ _) (by omega) A.o.1 A.o.2 t y;have He:cJ ds kind k=(decide ((aC ds k).kind=kind) && !(aC ds k).sick):=rfl;have q:=(Hc.o.pool.used k Hi).1;have hf:_=some (Value.int .i64 (bd (bz ds us kind) ds m k:Nat)):=(Hc.o.free m Hh).1;have Q:_=some (Value.int .i64 (bd (cJ ds kind) ds m k:Nat)):=(Hc.o.all m Hh).1;have Hm:=(Hc.o.all m Hh).2;have B:=qI (Hc.o.mid (m:=m) (D:=wr.heap.size) (z:=(aC ds k).node) (n:=(bd (cJ ds kind) ds m k:Nat)+1) Hi Hh (by simp) (by omega) (by have:=A.o.1;omega) (show wr.heap.size≠w.heap.size+1 by have:=a.all.lt;omega));have qf:=zF (bz ds us kind) ds m k;have qa:=zF (cJ ds kind) ds m k;clear a;rw [H] at c1 Hc Hf Hb Ha q hf Q Hm B;generalize bd (bz ds us kind) ds m k=nf at *;generalize bd (cJ ds kind) ds m k=na at *;generalize (aC ds k).kind=M at *;generalize (aC ds k).sick=xs at *
   by_cases d:M=kind
   ·subst d
    rcases two xs with hs|hs
    ·subst hs;have b:=Hf.o (by rw [He];simp);clear Hf Hb Ha He
     go_wp2
     go_roundw
     case rel=>exact ⟨k+1,by omega,by go_num,b⟩
     case measure=>simp [intOf];omega
    ·subst hs;have Hj:cJ ds M k=true:=by rw [He];simp
     rcases two (us k) with Hg|Hg
     ·have b:=qI λn t=>Hb.o Hj Hg n t;obtain ⟨J,e2,U,T⟩:=B.o;rw [Hg] at J;clear Hf Hb Ha He Hj Hg q B
      go_wp2
      go_roundw
      case rel=>exact ⟨k+1,by omega,by go_num,b.o _ (by go_num)⟩
      case measure=>simp [intOf];omega
     ·have b:=qI λn n2 t y=>Ha.o Hj Hg n n2 t y;obtain ⟨J,e2,U,T⟩:=B.o;rw [Hg] at J;clear Hf Hb Ha He Hj Hg q B
      go_wp2
      go_roundw
      case rel=>exact ⟨k+1,by omega,by go_num,b.o _ _ (by go_num) (by go_num)⟩
      case measure=>simp [intOf];omega
   ·have b:=Hf.o (by rw [He,Q7 d];rfl);have Ho:=zS d;clear d Hf Hb Ha He
    go_wp2
    go_roundw
    case rel=>exact ⟨k+1,by omega,by go_num,b⟩
    case measure=>simp [intOf];omega
  ·have Hn:k=ds.length:=by omega
   subst Hn;have f0:_=some (Value.int .i64 (bd (bz ds us kind) ds 0 ds.length:Nat)):=(a.free 0 (by decide)).1;have f1:_=some (Value.int .i64 (bd (bz ds us kind) ds 1 ds.length:Nat)):=(a.free 1 (by decide)).1;have f2:_=some (Value.int .i64 (bd (bz ds us kind) ds 2 ds.length:Nat)):=(a.free 2 (by decide)).1;have f3:_=some (Value.int .i64 (bd (bz ds us kind) ds 3 ds.length:Nat)):=(a.free 3 (by decide)).1;have a0:_=some (Value.int .i64 (bd (cJ ds kind) ds 0 ds.length:Nat)):=(a.all 0 (by decide)).1;have X:_=some (Value.int .i64 (bd (cJ ds kind) ds 1 ds.length:Nat)):=(a.all 1 (by decide)).1;have a2:_=some (Value.int .i64 (bd (cJ ds kind) ds 2 ds.length:Nat)):=(a.all 2 (by decide)).1;have a3:_=some (Value.int .i64 (bd (cJ ds kind) ds 3 ds.length:Nat)):=(a.all 3 (by decide)).1;have z0:=(a.free 0 (by decide)).2;have z1:=(a.free 1 (by decide)).2;have z2:=(a.free 2 (by decide)).2;have z3:=(a.free 3 (by decide)).2;have y0:=(a.all 0 (by decide)).2;have y1:=(a.all 1 (by decide)).2;have y2:=(a.all 2 (by decide)).2;have y3:=(a.all 3 (by decide)).2;have Y:=qI a.below;clear a Hk G A O Hl;obtain ⟨K,f⟩:∃ x,bd (bz ds us kind) ds 0 ds.length=x:=⟨_,rfl⟩;rw [f] at f0;obtain ⟨R,u⟩:∃ x,bd (bz ds us kind) ds 1 ds.length=x:=⟨_,rfl⟩;rw [u] at f1;obtain ⟨n2,p⟩:∃ x,bd (bz ds us kind) ds 2 ds.length=x:=⟨_,rfl⟩;rw [p] at f2;obtain ⟨N,g⟩:∃ x,bd (bz ds us kind) ds 3 ds.length=x:=⟨_,rfl⟩;rw [g] at f3;obtain ⟨m0,l⟩:∃ x,bd (cJ ds kind) ds 0 ds.length=x:=⟨_,rfl⟩;rw [l] at a0;obtain ⟨m1,s⟩:∃ x,bd (cJ ds kind) ds 1 ds.length=x:=⟨_,rfl⟩;rw [s] at X;obtain ⟨m2,r⟩:∃ x,bd (cJ ds kind) ds 2 ds.length=x:=⟨_,rfl⟩;rw [r] at a2;obtain ⟨W,o⟩:∃ x,bd (cJ ds kind) ds 3 ds.length=x:=⟨_,rfl⟩;rw [o] at a3;have b:=qI (And.intro (And.intro f (And.intro u (And.intro p g))) (And.intro l (And.intro s (And.intro r o))));clear f u p g l s r o
   go_wp2_with fail
   go_region
   go_wp2_with fail
   refine bodyPost_ret (v:=.tuple #[.agg #[(K:Int),(R:Int),(n2:Int),(N:Int)],.agg #[(m0:Int),(m1:Int),(m2:Int),(W:Int)]]) ?_ rfl ⟨?_,?_⟩
   ·rw [I4 rfl];go_simp
   ·obtain ⟨⟨V,Z,q2,q3⟩,r0,r1,r2,S⟩:=b.o;subst V Z q2 q3 r0 r1 r2 S;rfl
   ·exact zU (((((((((Y.o.setCell (lR) _).setCell (lR) _).setCell (lR) _).setCell (lR) _).setCell (Nat.le_succ _) _).setCell (Nat.le_succ _) _).setCell (Nat.le_succ _) _).setCell (Nat.le_succ _) _))
theorem I6 (m n:Nat) (a:m<256):(bits BinOp.and IntKind.u8 ((m:Int) / 2 ^ n) 1 == 1)=m.testBit n:=by
 have e:((m:Int) / 2 ^ n)=((m / 2 ^ n:Nat):Int):=by simp
 have Ha:m / 2 ^ n<256:=Nat.lt_of_le_of_lt (Nat.div_le_self _ _) a;rw [e,Nat.testBit_eq_decide_div_mod_eq];generalize m / 2 ^ n=q at Ha;have key:∀ q:Fin 256,(bits BinOp.and IntKind.u8 ((q.val:Nat):Int) 1 == 1)=decide (q.val % 2=1):=by decide +kernel
 exact key ⟨q,Ha⟩
theorem vj:(prog.info? 3).map (λi=>(i.zero,i.size,i.bytes))=some (some (.int .i64 0),1,8):=by kernel_rfl
def cB (l:List Nat):List Value:=l.map λ(n:Nat)=>Value.int .i64 (n:Int)
theorem I7 (l:List Nat) (n:Nat):cB (l++[n])=cB l++[.int .i64 n]:=by simp [cB]
theorem p6 (l:List Nat):(cB l).length=l.length:=by simp [cB]
def ints (l:List Nat):List Int:=l.map λ(n:Nat)=>(n:Int)
theorem p7 (l:List Nat):(ints l).length=l.length:=by simp [ints]
def Row (w:World) (B:Nat) (v:Value) (l:List Nat):Prop:=w.ownsRow B 3 1 v l.length (cB l)
theorem I8 (h:¬ (aC ds k).kind=kind):bz ds us kind k=false:=by rw [bz,Q7 h];rfl
theorem I9 (h:(aC ds k).sick=true):bz ds us kind k=false:=by rw [bz,h];simp
theorem Ja (h:us k=true):bz ds us kind k=false:=by rw [bz,h];simp
theorem Jb (h:(aC ds k).kind=kind) (a:(aC ds k).sick=false) (b:us k=false):bz ds us kind k=true:=by rw [bz,a,b,Qc h];rfl
theorem zV {b:Bool} (h:bz ds us kind k=true) (a:kS ds m k=b):ef ds us kind m k=b:=by rw [ef,h,a];rfl
theorem vk (h:bz ds us kind k=false):ef ds us kind m k=false:=by rw [ef,h];rfl
theorem Jc (w:World) (o:Obj) (x:Value) (t:TypeId):∀ j u,[x][j]?=some u->((w.alloc o).alloc (.cells #[x] t)).cell? ((⟨w.heap.size+1,0,none⟩:Addr).add j)=some u:=by
 have h:=cell_one_new (w.alloc o) x t
 rwa [show (w.alloc o).heap.size=w.heap.size+1 by simp] at h
theorem zW (kind:ByteArray) (M:Nat) (w:World) (t db:Nat) (C:Option Addr) (c:Nat) (ds:List ah) (us:Nat->Bool) (h:aJ w t db C c ds us) (D:eT ds) (G:M<256) :
  Calls prog 171 #[t,kind,.int .u8 M] w λe w'=>∃ v,e=.returned v/\Row w' w v (bR (ef ds us kind M) ds.length)/\Below w w w':=by
 obtain ⟨i0,hi,Hp,Hn,Hs⟩:=info_parts vj;have Ho:=h.row;have z:=qI D;have y:=qI h;clear h D
 go_enter func171,ntmps171
 go_wp2
 go_loopw [7,15] (λv i wr=>∃ k:Nat,k<=ds.length/\i=.int .i64 k/\Row wr w v (bR (ef ds us kind M) k)/\aJ wr t db C c ds us/\Below w w wr) (λ_ i _=>ds.length - (intOf i).toNat)
 case atStart=>exact ⟨0,by omega,rfl,Qw _ _ _ _,y.o,Q0 _ _⟩
 case round=>
  obtain ⟨k,O,rfl,x,s,o⟩:=hrel
  by_cases r:k<ds.length
  ·have Hm:k<16:=by have:=z.o.1;omega
   obtain ⟨rfl,Hv,_⟩:=s.at0 (by omega);obtain ⟨c0,c1,c2,_⟩:=s.cells k r;obtain ⟨K,P⟩:=z.o.2 k r;obtain ⟨m,B⟩:=Int.eq_ofNat_of_zero_le K;have Ht:m<4:=by omega
   have l:=qI λf=>I8 (us:=us) (kind:=kind) (k:=k) (ds:=ds) f;have q:=qI λf=>I9 (us:=us) (kind:=kind) (k:=k) (ds:=ds) f;have g:=qI λH F I=>Jb (us:=us) (kind:=kind) (k:=k) (ds:=ds) H F I;have Hl:Hu (kS ds M k=M.testBit m):=by unfold Hu kS;rw [B];rfl
   have He:=qI λf=>jF (p:=ef ds us kind M) (n:=k) f;have Hg:=qI λf=>oH (p:=ef ds us kind M) (n:=k) f;have Hw:=pY (ef ds us kind M) k;rw [B] at c1;generalize (aC ds k).kind=b at *;generalize (aC ds k).sick=u at *;have Hc:=qI (o.alloc o.size (.cells #[b,(m:Int),u] 77));have Hh:=qI (s.alloc (.cells #[b,(m:Int),u] 77));have Hb:=qI (x.alloc (.cells #[b,(m:Int),u] 77));have A:=(Hh.o.used k Hm).1;have Hx:=o.size;clear x s o
   by_cases a:b=kind
   ·subst a
    rcases two u with hs|hs
    ·subst hs;have HS:Hu (bR (ef ds us b M) (k+1)=_):=He.o (vk (q.o rfl));clear l q g He Hg
     go_wp2
     go_roundw
     case rel=>exact ⟨k+1,by omega,by go_num,by rw [HS.o];exact Hb.o,Hh.o,Hc.o⟩
     case measure=>simp [intOf];omega
    ·subst hs
     rcases two (us k) with Hf|Hf
     ·have HS:Hu (bR (ef ds us b M) (k+1)=_):=He.o (vk (Ja Hf));rw [Hf] at A;clear l q g He Hg Hf
      go_wp2
      go_roundw
      case rel=>exact ⟨k+1,by omega,by go_num,by rw [HS.o];exact Hb.o,Hh.o,Hc.o⟩
      case measure=>simp [intOf];omega
     ·have Hk:=g.o rfl rfl Hf;rw [Hf] at A;have Hi:=I6 M m G
      rcases two (M.testBit m) with d|d
      ·have HS:Hu (bR (ef ds us b M) (k+1)=_):=Hg.o (zV Hk (Hl.o.trans d));rw [d] at Hi;clear l q g He Hg Hf Hk Hl d
       go_wp2_with (at_builtin;refine wpList_append_own _ rfl _ _ 46 rfl w 3 i0 (0:Int) 1 8 underlying46 hi Hp Hn Hs rfl (by decide) _ _ _ rfl (Hb.o.alloc _) ⟨_,0,none⟩ 1 1 [.int .i64 k] rfl rfl (Jc _ _ _ _) (ints_oneCell .i64 [(k:Int)]) (by unfold maxLen;omega) (by omega) (by simp;omega) ?_;intro L N Hj Ha _)
       go_roundw
       case rel=>
        refine ⟨k+1,by omega,by go_num,?_,?_,?_⟩
        ·rw [HS.o,Row,I7,Q2];exact Hj
        ·refine (Hh.o.alloc _).kept Ha (λe=>?_) λE e=>?_
         ·have:=(Hb.o.lt t e.symm).1;have:=y.o.lt;omega
         ·have:=(Hb.o.lt db e.symm).1;have:=(y.o.at0 E).2.2;omega
        ·exact (Hc.o.alloc Hc.o.size _).grown Ha (by have:=Hc.o.size;simp at this ⊢;omega) λj J=>(Hb.o.lt j J).1
       case measure=>simp [intOf];omega
      ·have HS:Hu (bR (ef ds us b M) (k+1)=_):=He.o (zV Hk (Hl.o.trans d));rw [d] at Hi;clear l q g He Hg Hf Hk Hl d
       go_wp2
       go_roundw
       case rel=>exact ⟨k+1,by omega,by go_num,by rw [HS.o];exact Hb.o,Hh.o,Hc.o⟩
       case measure=>simp [intOf];omega
   ·have HS:Hu (bR (ef ds us kind M) (k+1)=_):=He.o (vk (l.o a));have Hr:=zS a;clear l q g He Hg a
    go_wp2
    go_roundw
    case rel=>exact ⟨k+1,by omega,by go_num,by rw [HS.o];exact Hb.o,Hh.o,Hc.o⟩
    case measure=>simp [intOf];omega
  ·have Hq:k=ds.length:=by omega
   subst Hq;have Hb:=qI x;have Hc:=qI o;clear x o s
   go_wp2
   go_ret;exact ⟨_,rfl,Hb.o,Hc.o⟩
def cS (u:World) (T:Nat) (f:Nat->Bool):Prop:=∀ j,j<16->u.cell? ⟨T,j,none⟩=some (.bool (f j))/\u.frozen? ⟨T,j,none⟩=false
theorem cS.lt {f:Nat->Bool} (h:cS u T f):T<u:=Q3 u _ (h 0 (by decide)).1
theorem cS.kept {f:Nat->Bool} (h:cS w T f) (b:w.grownBy w' g) (a:some T≠g):cS w' T f:=λj c=>
 ⟨(b.cell_far _ h.lt a).trans (h j c).1,(b.frozen_far _ h.lt a).trans (h j c).2⟩
theorem cS.below {f:Nat->Bool} (h:cS w T f) (a:Below w w w'):cS w' T f:=h.kept (eU a none) (by simp)
abbrev p9 (f:Nat->Bool):Array Value:=#[.bool (f 0),.bool (f 1),.bool (f 2),.bool (f 3),.bool (f 4),.bool (f 5),.bool (f 6),.bool (f 7),.bool (f 8),.bool (f 9),.bool (f 10),.bool (f 11),.bool (f 12),.bool (f 13),.bool (f 14),.bool (f 15)]
theorem cS.made (u:World) (t:TypeId) (f:Nat->Bool):cS (u.alloc (.cells (p9 f) t)) u f:=by
 intro j a
 have:j=0\/j=1\/j=2\/j=3\/j=4\/j=5\/j=6\/j=7\/j=8\/j=9\/j=10\/j=11\/j=12\/j=13\/j=14\/j=15:=by omega
 rcases this with rfl|rfl|rfl|rfl|rfl|rfl|rfl|rfl|rfl|rfl|rfl|rfl|rfl|rfl|rfl|rfl <;> exact ⟨by simp,by simp⟩
theorem cS.set {f g:Nat->Bool} (h:cS u T f) {m:Nat} (i:m<16) (b:Bool) (a:∀ j,j<16->g j=if j=m then b else f j):cS (u.setCell ⟨T,m,none⟩ b) T g:=by
 intro j d;obtain ⟨c,z⟩:=h j d;obtain ⟨cm,_⟩:=h m i;refine ⟨?_,(World.frozen?_setCell ..).trans z⟩;rw [a j d]
 by_cases e:j=m
 ·subst e
  simp
  clear c a;go_simp
 ·rw [if_neg e];have Ha:(⟨T,m,none⟩:Addr)≠⟨T,j,none⟩:=by intro h;cases h;exact e rfl
  rw [World.cell?_setCell_other (h:=Ha)];exact c
def qb (w:World) (pb:Nat) (f:Nat->Bool):Nat->World
 | 0=>w
 | k+1=>(qb w pb f k).setCell ⟨pb,1+k,none⟩ (.bool (f k))
theorem Jd (h:aJ w pb db ao c ds us) (f:Nat->Bool) (k:Nat) (b:k<=16):aJ (qb w pb f k) pb db ao c ds (λj=>if j<k then f j else us j):=by
 induction k with
 | zero=>simpa [qb] using h
 | succ k ih=>
  refine (ih (by omega)).set (by omega) (f k) λj _=>?_
  by_cases e:j=k
  ·subst e;rw [if_pos (by omega),if_pos rfl]
  ·by_cases a:j<k
   ·rw [if_pos (by omega),if_neg e,if_pos a]
   ·rw [if_neg (by omega),if_neg e,if_neg a]
theorem Je (w:World) (a:Nat) (f:Nat->Bool) (k:Nat):w.grownBy (qb w a f k) (some a):=by
 induction k with
 | zero=>exact vd _ _
 | succ k ih=>exact ih.trans (cK _ _ _)
theorem aJ.congr {vs:Nat->Bool} (h:aJ w pb db ao c ds us) (e:∀ j,j<16->vs j=us j):aJ w pb db ao c ds vs:=
 ⟨h.row,h.at0,h.cells,λj a=>by rw [e j a];exact h.used j a⟩
theorem Jf (h:aJ w pb db ao c ds us) (f:Nat->Bool):aJ (qb w pb f 16) pb db ao c ds f:=
 (Jd h f 16 (lR)).congr (λj a=>by rw [if_pos a])
theorem Jg {l:List Int} (h:nr (bf l k) n=false):et n us l k=1:=by
 rw [et,if_pos]
 simp [nr] at h
 omega
theorem Jh {x:Int} (h:nr x n=true):∃ m:Nat,x=(m:Int)/\m<n:=by
 simp [nr] at h
 exact ⟨x.toNat,by omega,by omega⟩
theorem Ji {l:List Int} {m:Nat} (h:bf l k=(m:Int)) (b:m<n) (a:ci us (l.take k) m=true):et n us l k=5:=by
 rw [et,h,if_neg (by omega),if_pos];exact a
theorem Jj {l:List Int} {m:Nat} (h:bf l k=(m:Int)) (b:m<n) (a:ci us (l.take k) m=false):et n us l k=0:=by grind [et,ci]
theorem Jk {l:List Int} {m:Nat} (a:k<l.length) (h:bf l k=(m:Int)) (j:Nat):ci us (l.take (k+1)) j=if j=m then true else ci us (l.take k) j:=by grind [zt,zC]
def kW (n:Nat) (us:Nat->Bool) (l:List Int):Nat->Bool:=if bh (et n us l) l.length=0 then ci us l else us
theorem Jl (v:Value) (g o:Nat) (l:List Int) (w:World) (d db:Nat) (C:Option Addr) (c:Nat) (ds:List ah) (us:Nat->Bool) (h:aJ w d db C c ds us) (H:eT ds) (I:jh w v g o l) (HD:l.length<=9223372036854775807) :
  Calls prog 162 #[d,v] w λe w'=>e=.returned (aL (bh (et ds.length us l) l.length:Nat))/\w.grownBy w' (some d)/\aJ w' d db C c ds (kW ds.length us l):=by
 have K:=qI I;obtain ⟨W,cl,rfl,_⟩:=I;have HN:=qI H;have G:=qI h;have u0:=(h.used 0 (by decide)).1;have u1:=(h.used 1 (by decide)).1;have u2:=(h.used 2 (by decide)).1;have u3:=(h.used 3 (by decide)).1;have u4:=(h.used 4 (by decide)).1;have u5:=(h.used 5 (by decide)).1;have u6:=(h.used 6 (by decide)).1;have u7:=(h.used 7 (by decide)).1;have u8:=(h.used 8 (by decide)).1;have u9:=(h.used 9 (by decide)).1;have HM:=(h.used 10 (by decide)).1;have HI:=(h.used 11 (by decide)).1;have HX:=(h.used 12 (by decide)).1;have HA:=(h.used 13 (by decide)).1;have HB:=(h.used 14 (by decide)).1;have O:=(h.used 15 (by decide)).1;have Hl:Hu (cS (w.alloc (.cells (p9 us) 119)) w (ci us (l.take 0))):=by
  rw [List.take_zero,zB];exact cS.made w _ us
 have Hm:=qI (h.alloc (.cells (p9 us) 119));have Hh:=qI ((Q0 w w).alloc (lR) (.cells (p9 us) 119));have Hj:=qI (K.o.below Hh.o);unfold p9 at Hl Hm Hh Hj;clear h H
 go_enter func162,ntmps162
 go_wp2
 go_loopw [14] (λi wr=>∃ k:Nat,k<=l.length/\i=.int .i64 k/\Hu (bh (et ds.length us l) k=0)/\cS wr w (ci us (l.take k))/\aJ wr d db C c ds us/\jh wr (.slice W l.length cl) g o l/\Below w w wr) (λi _=>l.length - (intOf i).toNat)
 case atStart=>exact ⟨0,by omega,rfl,rfl,Hl.o,Hm.o,Hj.o,Hh.o⟩
 case round=>
  obtain ⟨k,hk,rfl,B,b,a,Hi,u⟩:=hrel;have hp:=G.o.lt
  by_cases r:k<l.length
  ·have Hq:=qI Hi;obtain ⟨HU,U,X,He⟩:=Hi;obtain ⟨rfl,Hw,He⟩:=He (by omega);cases X;have E:=He k r;have HT:=qI b;have Hg:=qI a;have Hf:=qI u;have s:=qI (IT (bf l k) wr d db C c ds us a);have A:=qI λn J=>(kU (f:=et ds.length us l) (n:=l.length) B.o (by rw [J];simp) r).trans (J:et ds.length us l k=n+1)
   rcases two (nr (bf l k) ds.length) with q|q
   ·obtain ⟨m,y,Hn⟩:=Jh q;have Hc:m<16:=by have:=HN.o.1;omega
    have Hb:=(b m Hc);have Ha:=Hb.1;have Hk:=Hb.2;have Hx:=(a.used m Hc).1;rw [q] at s;clear Hb b a u He q
    rcases two (ci us (l.take k) m) with t|t
    ·have x:=qI (A.o 4 (Ji y Hn t));have z:Hu (kW ds.length us l=us):=by unfold Hu kW;rw [x.o,if_neg (by decide)]
     rw [t] at Ha;rw [y] at E s;clear t A
     go_wp2_with fail
     refine s.o.mono ?_;rintro e F ⟨rfl,rfl⟩
     go_wp2
     go_ret;exact ⟨by rw [x.o];rfl,eU Hf.o _,by rw [z.o];exact Hg.o⟩
    ·have Ho:Hu (bh (et ds.length us l) (k+1)=0):=l8 B.o (Jj y Hn t);have Hs:=qI (HT.o.set (g:=ci us (l.take (k+1))) Hc true λj _=>Jk r y j);have Hv:=qI (Hg.o.kept (cK wr ⟨w,m,none⟩ true) (by simp;omega) (λD=>by have:=(G.o.at0 D).2.2;simp;omega));have Hp:=qI (Hq.o.kept (cK wr ⟨w,m,none⟩ true) (λD=>by have:=K.o;obtain ⟨a1,a2,a3,a4⟩:=this;have:=(a4 D).2.1;simp;omega));have Hr:=qI (Hf.o.setCell (p:=⟨w,m,none⟩) (lR) true);rw [t] at Ha;rw [y] at E s;clear t A
     go_wp2_with fail
     refine s.o.mono ?_;rintro e F ⟨rfl,rfl⟩
     go_wp2
     go_roundw
     case rel=>exact ⟨k+1,by omega,by go_num,Ho,Hs.o,Hv.o,Hp.o,Hr.o⟩
     case measure=>simp [intOf];omega
   ·have x:=qI (A.o 0 (Jg q));have z:Hu (kW ds.length us l=us):=by unfold Hu kW;rw [x.o,if_neg (by decide)]
    rw [q] at s;clear q A b a u He
    go_wp2_with fail
    refine s.o.mono ?_;rintro e F ⟨rfl,rfl⟩
    go_wp2
    go_ret;exact ⟨by rw [x.o];rfl,eU Hf.o _,by rw [z.o];exact Hg.o⟩
  ·have Ht:k=l.length:=by omega
   subst Ht;have z:Hu (kW ds.length us l=ci us (l.take l.length)):=by unfold Hu kW;rw [B.o,if_pos rfl,Qh]
   have Hf:=qI u;have V:=qI (Jf a (ci us (l.take l.length)));have Y:=qI ((eU u (some d)).trans (Je wr d (ci us (l.take l.length)) 16));have t0:=(b 0 (by decide)).1;have z0:=(a.used 0 (by decide)).2;have s0:=(a.used 0 (by decide)).1;have t1:=(b 1 (by decide)).1;have z1:=(a.used 1 (by decide)).2;have s1:=(a.used 1 (by decide)).1;have t2:=(b 2 (by decide)).1;have z2:=(a.used 2 (by decide)).2;have s2:=(a.used 2 (by decide)).1;have t3:=(b 3 (by decide)).1;have z3:=(a.used 3 (by decide)).2;have s3:=(a.used 3 (by decide)).1;have t4:=(b 4 (by decide)).1;have z4:=(a.used 4 (by decide)).2;have s4:=(a.used 4 (by decide)).1;have t5:=(b 5 (by decide)).1;have z5:=(a.used 5 (by decide)).2;have s5:=(a.used 5 (by decide)).1;have t6:=(b 6 (by decide)).1;have z6:=(a.used 6 (by decide)).2;have s6:=(a.used 6 (by decide)).1;have t7:=(b 7 (by decide)).1;have z7:=(a.used 7 (by decide)).2;have s7:=(a.used 7 (by decide)).1;have t8:=(b 8 (by decide)).1;have z8:=(a.used 8 (by decide)).2;have s8:=(a.used 8 (by decide)).1;have t9:=(b 9 (by decide)).1;have z9:=(a.used 9 (by decide)).2;have s9:=(a.used 9 (by decide)).1;have T:=(b 10 (by decide)).1;have HV:=(a.used 10 (by decide)).2;have HZ:=(a.used 10 (by decide)).1;have S:=(b 11 (by decide)).1;have Z:=(a.used 11 (by decide)).2;have H1:=(a.used 11 (by decide)).1;have HY:=(b 12 (by decide)).1;have P:=(a.used 12 (by decide)).2;have L:=(a.used 12 (by decide)).1;have M:=(b 13 (by decide)).1;have Q:=(a.used 13 (by decide)).2;have H0:=(a.used 13 (by decide)).1;have N:=(b 14 (by decide)).1;have HJ:=(a.used 14 (by decide)).2;have R:=(a.used 14 (by decide)).1;have HR:=(b 15 (by decide)).1;have HQ:=(a.used 15 (by decide)).2;have HC:=(a.used 15 (by decide)).1;clear b a u Hi;generalize ci us (l.take l.length)=f at *
   go_wp2
   go_ret;refine ⟨by rw [B.o];rfl,Y.o,?_⟩;rw [z.o];exact V.o
def Src (w:World) (v:Value) (l:List Nat):Prop:=
 (v=.slice none 0 0/\l=[])\/∃ g c,v=.slice (some ⟨g,0,none⟩) l.length c/\g<w.heap.size/\∀ j u,(cB l)[j]?=some u->w.cell? ((g:Addr).add j)=some u
theorem Row.src (h:Row w B v l):Src w v l:=by
 unfold Row at h
 rcases h.2 with ⟨rfl,c⟩|⟨g,a,d,rfl,e,Ha,_⟩
 ·exact .inl ⟨rfl,Qe c⟩
 ·refine .inr ⟨g,a,rfl,(gS Ha).1,λj u b=>?_⟩;have Hb:j<l.length:=by rw [<- p6];exact (List.getElem?_eq_some_iff.1 b).1
  rw [Addr.add_lit,Qd,h.cellAt j (by omega)];exact b
theorem Src.below (h:Src w v l) (b:Below w w w'):Src w' v l:=by
 rcases h with h|⟨g,c,d,a,e⟩
 ·exact .inl h
 ·exact .inr ⟨g,c,d,Q1 a b.size,λj u f=>(b.cell (p:=(g:Addr).add j) (by rw [Addr.add_lit];exact a)).trans (e j u f)⟩
theorem Src.form {v:Value} (h:Src w v l):∃ a c,v=.slice a l.length c:=by cases h <;> grind
theorem vl (l:List Nat):∀ u∈cB l,u.oneCell'=true:=by
 intro u a;simp only [cB,Qk] at a;obtain ⟨x,_,rfl⟩:=a;rfl
theorem Jm (n:Nat) (w:World) (h:n<=1000):Calls prog 215 #[.slice none 0 0,(n:Int)] w λe w'=>∃ v,e=.returned v/\Row w' w v []/\Below w w w':=by
 by_cases d:n=0
 ·subst d;refine (Any8.slices_Grow_room Tryz.growL none 0 0 0 w (by omega) (by omega) (by omega) (by omega)).mono ?_;rintro e w' ⟨rfl,rfl⟩;exact ⟨_,rfl,Qw _ _ _ _,Q0 _ _⟩
 ·obtain ⟨i0,hi,Hb,He,Hf⟩:=info_parts vj;have Hc:prog.info? (Tryz.growL_ren.t 25)=some i0:=hi;refine (Any8.slices_Grow_grow Tryz.growL i0 (0:Int) Hc Hb (by omega) none 0 0 n [] w (by omega) (by omega) (by rw [Hf];omega) (by omega) (by rw [He];rfl) (λ_=>rfl) (λa g=>by cases g)).mono ?_;have c:Tryz.growL_ren.t 25=3:=by kernel_rfl
  rw [c];have Hg:=grownCap_ge w (0+n) 0 3;have hle:=grownCap_le_maxLen w (0+n) 0 3 (by unfold maxLen;omega);generalize grownCap w (0+n) 0 3=G at *;rintro e w' ⟨rfl,rfl⟩;have f:(([]:List Value).toArray++Builtin.zeroCells (Value.int .i64 0).cells (0+n - 0)++Builtin.zeroCells (Value.int .i64 0).cells (G - (0+n))).size=G*1:=by
   simp [Builtin.zeroCells,Value.cells]
   omega
  generalize (([]:List Value).toArray++Builtin.zeroCells (Value.int .i64 0).cells (0+n - 0)++Builtin.zeroCells (Value.int .i64 0).cells (G - (0+n)))=b at *;have Ha:World.ownsRow (w.drew.alloc (.cells b 3)) w 3 1 (.slice w 0 G) 0 []:=by
   unfold World.ownsRow;refine ⟨rfl,.inr ⟨w,G,b,rfl,lR,?_,Nat.zero_le _,hle,f,by simp⟩⟩
   show (w.heap.push (.cells b 3))[w.heap.size]?=_
   simp
  refine ⟨_,rfl,Ha,?_⟩
  ·exact (zU (Q0 w w)).alloc (lR) _
def qd (l1 l2:List Nat):Nat->List Nat
 | 0=>[]
 | 1=>l1
 | _=>l1++l2
theorem Jn (z v2:Value) (a b:List Nat) (T:Nat) (w:World) (t:Src w z a) (q:Src w v2 b) (c1:w.cell? T=some z) (c2:w.cell? ⟨T,1,none⟩=some v2) (H:a.length<=16) (F:b.length<=16) :
  Calls prog 170 #[.slice T 2 2] w λe w'=>∃ v,e=.returned v/\Row w' w v (a++b)/\Below w w w':=by
 obtain ⟨i0,hi,Hh,Hi,Hj⟩:=info_parts vj;have Hn:=qI t;have Hm:=qI q;have B:=qI (Q3 w _ c1);obtain ⟨L,G,rfl⟩:=t.form;obtain ⟨a2,D,rfl⟩:=q.form;clear t q
 go_enter func170,ntmps170
 go_wp2_with fail
 go_loop [3,11] (λs i=>∃ k:Nat,k<=2/\i=.int .i64 k/\s=.int .i64 ((qd a b k).length:Nat)) (λ_ i=>2 - (intOf i).toNat)
 case atStart=>exact ⟨0,by omega,rfl,rfl⟩
 case round=>
  obtain ⟨k,J,rfl,rfl⟩:=hrel;have key:k=0\/k=1\/k=2:=by omega
  rcases key with rfl|rfl|rfl
  ·have o:(qd a b 0).length=0:=rfl;rw [o]
   go_wp2_with fail
   go_round
   case rel=>exact ⟨1,by omega,rfl,by show _=Value.int .i64 (a.length:Nat);go_num⟩
   case measure=>simp [intOf]
  ·have o:(qd a b 1).length=a.length:=rfl;rw [o]
   go_wp2_with fail
   go_round
   case rel=>exact ⟨2,by omega,rfl,by show _=Value.int .i64 ((a++b).length:Nat);rw [Q2];go_num⟩
   case measure=>simp [intOf]
  ·have o:(qd a b 2).length=a.length+b.length:=Q2;rw [o]
   go_wp2_with fail
   refine (Jm (a.length+b.length) w (by omega)).mono ?_;rintro e M ⟨v,rfl,d,A⟩;have E:=qI d;have K:=qI A;clear d A
   go_wp2
   go_loopw [6,27] (λu i wr=>∃ k:Nat,k<=2/\i=.int .i64 k/\Row wr w u (qd a b k)/\Below w w wr) (λ_ i _=>2 - (intOf i).toNat)
   case atStart=>exact ⟨0,by omega,rfl,E.o,K.o⟩
   case round=>
    obtain ⟨k,J,rfl,Hc,c⟩:=hrel;have key:k=0\/k=1\/k=2:=by omega
    rcases key with rfl|rfl|rfl
    ·have r:=Hn.o.below c;have x:=(c.cell (p:=T) B.o).trans c1;have d:World.ownsRow wr w 3 1 u6 ([]:List Nat).length (cB ([]:List Nat)):=Hc;clear Hc
     rcases r with ⟨f,m⟩|⟨g,cc,f,Hl,He⟩
     ·simp only [Value.slice.injEq] at f;obtain ⟨l,n,h⟩:=f;subst l h;rw [n] at x;have Hf:=qI m;clear m n
      go_wp2_with (at_builtin;refine wpList_append_own_none rfl _ _ 46 rfl w 3 i0 1 underlying46 hi _ _ _ rfl d rfl ?_)
      go_roundw
      case rel=>
       refine ⟨1,by omega,rfl,?_,c⟩
       show Row _ _ _ (a)
       rw [Hf.o];exact d
      case measure=>simp [intOf]
     ·simp only [Value.slice.injEq] at f;obtain ⟨l,_,h⟩:=f;subst l h;have Hg:=c.size
      go_wp2_with (at_builtin;refine wpList_append_own _ rfl _ _ 46 rfl w 3 i0 (0:Int) 1 8 underlying46 hi Hh Hi Hj rfl (by decide) _ _ _ rfl d g a.length G (cB a) rfl (by rw [p6,Nat.mul_one]) He (vl a) (by unfold maxLen;simp;omega) (by simp;omega) (by omega) ?_;intro C I Hb Ha _)
      go_roundw
      case rel=>
       refine ⟨1,by omega,rfl,?_,c.grown Ha Hg λj y=>(d.lt j y).1⟩
       show World.ownsRow _ _ _ _ _ (a).length (cB (a))
       simpa [cB] using Hb
      case measure=>simp [intOf]
    ·have r:=Hm.o.below c;have x:=(c.cell (p:=⟨T,1,none⟩) B.o).trans c2;have d:World.ownsRow wr w 3 1 u6 (a).length (cB (a)):=Hc;clear Hc
     rcases r with ⟨f,m⟩|⟨g,cc,f,Hl,He⟩
     ·simp only [Value.slice.injEq] at f;obtain ⟨l,n,h⟩:=f;subst l h;rw [n] at x;have Hf:=qI m;clear m n
      go_wp2_with (at_builtin;refine wpList_append_own_none rfl _ _ 46 rfl w 3 i0 1 underlying46 hi _ _ _ rfl d rfl ?_)
      go_roundw
      case rel=>
       refine ⟨2,by omega,rfl,?_,c⟩
       show Row _ _ _ (a++b)
       rw [Hf.o,List.append_nil];exact d
      case measure=>simp [intOf]
     ·simp only [Value.slice.injEq] at f;obtain ⟨l,_,h⟩:=f;subst l h;have Hg:=c.size
      go_wp2_with (at_builtin;refine wpList_append_own _ rfl _ _ 46 rfl w 3 i0 (0:Int) 1 8 underlying46 hi Hh Hi Hj rfl (by decide) _ _ _ rfl d g b.length D (cB b) rfl (by rw [p6,Nat.mul_one]) He (vl b) (by unfold maxLen;omega) (by omega) (by omega) ?_;intro C I Hb Ha _)
      go_roundw
      case rel=>
       refine ⟨2,by omega,rfl,?_,c.grown Ha Hg λj y=>(d.lt j y).1⟩
       show World.ownsRow _ _ _ _ _ (a++b).length (cB (a++b))
       have e:cB (a++b)=cB a++cB b:=by simp [cB]
       rw [e,Q2];exact Hb
      case measure=>simp [intOf]
    ·have Hk:=qI Hc;have Ho:=qI c;clear Hc c
     go_wp2
     go_ret;exact ⟨_,rfl,Hk.o,Ho.o⟩
theorem Jo (m n:Nat) (c:m<256) (d:n<=3):(255 - m).testBit n=!m.testBit n:=by
 have key:∀ (a:Fin 256) (b:Fin 4),(255 - a.val).testBit b.val=!a.val.testBit b.val:=by decide +kernel
 exact key ⟨m,c⟩ ⟨n,by omega⟩
theorem Jp (b:eT ds) (us:Nat->Bool) (kind:ByteArray) (m:Nat) (c:m<256):bR (ef ds us kind (255 - m)) ds.length=bR (kT ds us kind m) ds.length:=by
 refine zw λj a=>?_
 have:=b.2 j a
 unfold ef kT kS;rw [Jo m _ c (by omega)]
theorem Jq (m:Nat) (b:m<256):bits BinOp.xor IntKind.u8 IntKind.u8.max (m:Int)=((255 - m:Nat):Int):=by
 have key:∀ (a:Fin 256),bits BinOp.xor IntKind.u8 IntKind.u8.max ((a.val:Nat):Int)=((255 - a.val:Nat):Int):=by decide +kernel
 exact key ⟨m,b⟩
def nw (bad:Nat->Value) (w:World) (pb db:Nat) (ao:Option Addr) (c:Nat) (ds:List ah) (us:Nat->Bool) (kind:ByteArray) (m:Nat) (many:Int) (e:Ending) (w':World):Prop:=
 (dV ds us kind many≠0->e=.returned (.tuple #[.slice none 0 0,bad (dV ds us kind many)])/\Below w w w')/\
 (dV ds us kind many=0->∃ v g,e=.returned (.tuple #[v,bad 0])/\jh w' v g 0 (ints (bE (cR ds us kind m many.toNat)))/\(0<(bE (cR ds us kind m many.toNat)).length->w.heap.size<=g)/\aJ w' pb db ao c ds (eB us (cR ds us kind m many.toNat)))/\
 w.grownBy w' (some pb)
theorem nw.wrong {many:Int} (hf:dV ds us kind many=n) (d:n≠0) (b:e=.returned (.tuple #[.slice none 0 0,bad n])) (a:Below w w w'):nw bad w pb db ao c ds us kind m many e w':=
 ⟨λ_=>⟨by rw [hf];exact b,a⟩,λh=>by omega,eU a _⟩
theorem Row.nums (h:Row w B v l):∃ g,jh w v g 0 (ints l)/\(0<l.length->B<=g):=by
 unfold Row at h
 rcases h.2 with ⟨rfl,d⟩|⟨g,a,e,rfl,c,Ha,_⟩
 ·have:=Qe d
  subst this;exact ⟨0,⟨none,0,rfl,λh=>by simp [ints] at h⟩,λh=>by simp at h⟩
 ·refine ⟨g,⟨_,a,by rw [p7],λ_=>⟨rfl,(gS Ha).1,λk b=>?_⟩⟩,λ_=>c⟩;rw [p7] at b;rw [Qd,h.cellAt k (by omega)]
  simp [cB,bf,ints,b]
theorem zX {b c:World} {r f:Option Nat} (h:a.grownBy b r) (k:b.grownBy c f) (l:∀ j,f=some j->a.heap.size<=j\/r=some j):a.grownBy c r:=
 ⟨k.os.trans h.os,k.tape.trans h.tape,k.output.trans h.output,Q5 h.size k.size,λi hi d=>(k.block i (Q1 hi h.size) (λe=>by rcases l i e.symm with g|g;omega;exact d g.symm)).trans (h.block i hi d)⟩
theorem Jr {q:Nat} (a:l[k]?=some q) (j:Nat):eB us (l.take (k+1)) j=if j=q then true else eB us (l.take k) j:=by
 rw [List.take_add_one,a]
 show eB us (l.take k++[q]) j=_
 rw [It]
 by_cases e:j=q
 ·rw [if_pos e,Qc e,Bool.or_true]
 ·rw [if_neg e,Q7 e,Bool.or_false]
theorem zY {L:List Nat} (d:∀ j∈L,j<16) (o:L.Nodup) {g a:Nat} {c:Array Value} (p:B<=g) (b:wr.heap[g]?=some (.cells c 3 (0,0))) (h:L.length<=a) (l:a<=maxLen) (f:c.size=a*1) (k:c.toList.take L.length=cB L) (i:L.length<4611686018427387904) :
  Calls prog 134 #[.slice g L.length a] wr λe w'=>e=.returned (.tuple #[])/\Row w' B (.slice g (bE L).length a) (bE L)/\wr.grownBy w' (some g):=by
 have Hf:g<wr:=(gS b).1;have Ha:(ints L).length=L.length:=p7 L;have Hc:(ints L).map (Value.int .i64)=cB L:=by simp [ints,cB]
 have q:=holds_of_blockI (ss:=ints L) b (by rw [Ha,k,Hc]);have m:=Any.slices_Sort_int Tryz.sortL9 g 0 a (ints L) wr q Hf (by rw [Ha];exact i);rw [Ha] at m;refine m.mono ?_;rintro e w' ⟨rfl,n,os,rfl⟩;have He:(ints L).mergeSort (λx y=>decide (x<=y))=ints (bE L):=Iz d o;have Hb:(bE L).length=L.length:=r7 d o;rw [He];refine ⟨rfl,?_,grownBy_sortedI _⟩
 have:=ownsRow_sortedI (ss:=ints L) (ts:=ints (bE L)) (base:=B) (n:=n) (os:=os) (by rw [p7,Ha,Hb]) p b (by rw [Ha];exact h) l f
 rw [Ha] at this;unfold Row;rw [Hb];have r:(ints (bE L)).map (Value.int .i64)=cB (bE L):=by simp [ints,cB]
 rw [r] at this;exact this
theorem Js (kind:ByteArray) (many:Int) (m:Nat) (w:World) (a:Nat) (h:many<0) :
  Calls prog 133 #[a,kind,many,.int .u8 m] w λe w'=>e=.returned (.tuple #[.slice none 0 0,.iface 108 (1:Int)])/\w'=w:=by
 go_enter func133,ntmps133
 go_wp2
 go_ret2;exact ⟨rfl,rfl⟩
theorem Jt (kind:ByteArray) (many m:Nat) (w:World) (a db:Nat) (l:Option Addr) (c:Nat) (ds:List ah) (us:Nat->Bool) (h:aJ w a db l c ds us) (o:eT ds) (B:m<256) :
  Calls prog 133 #[a,kind,(many:Int),.int .u8 m] w λe w'=>nw (λn=>aL n) w a db l c ds us kind m many e w':=by
 have I:=qI (zW kind m w a db l c ds us h o B);have N:Hu (∀ W,aJ W a db l c ds us->Calls prog 171 #[a,kind,.int .u8 (bits BinOp.xor IntKind.u8 IntKind.u8.max m)] W λe w'=>∃ v,e=.returned v/\Row w' W.heap.size v (bR (kT ds us kind m) ds.length)/\Below W.heap.size W w'):=by
  intro W hW;rw [Jq m B,<- Jp o us kind m B];exact zW kind (255 - m) W a db l c ds us hW o (by omega)
 have D:=qI h;have HN:=qI o;have Y:Hu (eC ds us kind m=bR (ef ds us kind m) ds.length++bR (kT ds us kind m) ds.length):=rfl;have HW:=qI (zy ds us kind m);have he:=pY (ef ds us kind m) ds.length;have hl:=pY (kT ds us kind m) ds.length;have ha:=o.1;clear h o;generalize bR (ef ds us kind m) ds.length=C at *;generalize bR (kT ds us kind m) ds.length=E at *
 go_enter func133,ntmps133
 go_wp2_with fail
 refine I.o.mono ?_;rintro e w1 ⟨v1,rfl,P,Hz⟩;have Hv:=qI P.src;have A:=qI (D.o.below Hz);have Hx:=qI Hz;clear P Hz I
 go_wp2_with fail
 refine (N.o w1 A.o).mono ?_;rintro e r ⟨v2,rfl,Hs,Hr⟩;have Hw:=qI (Hx.o.trans (Hr.mono Hx.o.size));have Hf:=(Q0 r r).alloc (lR) (.cells #[v1,v2] 46);have O:=qI ((A.o.below Hr).below Hf);have Hi:=qI ((Hv.o.below Hr).below Hf);have Hk:=qI (Hs.src.below Hf);have Hm:=qI (Hw.o.trans (Hf.mono Hw.o.size));obtain ⟨Q,T,rfl⟩:=Hv.o.form;obtain ⟨a2,K,rfl⟩:=Hs.src.form;clear Hs Hr Hf N Hv Hx A
 go_wp2_with fail
 refine (Jn _ _ C E r _ Hi.o Hk.o (by simp) (by simp) (by omega) (by omega)).mono ?_;rintro e y ⟨v3,rfl,Hb,H⟩;have Z:=qI (O.o.below H);have Hq:=qI (Hm.o.trans (H.mono Hm.o.size));have HA:w.heap.size<=(r.alloc (.cells #[.slice Q C.length T,.slice a2 E.length K] 46)).heap.size:=Hm.o.size;rw [<- Y.o] at Hb;clear H O Hm Hw Hi Hk;generalize (r.alloc (.cells #[.slice Q C.length T,.slice a2 E.length K] 46)).heap.size=B3 at *;have H5:=qI Hb;unfold Row at Hb;have hc:(eC ds us kind m).length<=32:=by rw [Y.o,Q2];omega
 have Hp:Hu (dV ds us kind many=if ((eC ds us kind m).length:Int)<many then 9 else 0):=by unfold Hu dV;rw [if_neg (by omega),HW.o]
 by_cases hf:(eC ds us kind m).length<many
 ·have Ha:Hu (dV ds us kind many=9):=Hp.o.trans (if_pos (by omega));clear Hp
  rcases Hb.2 with ⟨rfl,b⟩|⟨g,d,f,rfl,J,Hh,H2,z,Hl,Hn⟩
  ·rw [b] at hf;clear Hb
   go_wp2
   go_ret2;exact nw.wrong Ha.o (by decide) rfl Hq.o
  ·clear Hb Hh Hl Hn
   go_wp2
   go_ret2;exact nw.wrong Ha.o (by decide) rfl Hq.o
 ·have Ha:Hu (dV ds us kind many=0):=Hp.o.trans (if_neg (by omega));clear Hp
  rcases Hb.2 with ⟨rfl,b⟩|⟨g,d,f,rfl,J,Hh,H2,z,Hl,Hn⟩
  ·have H7:many=0:=by omega
   subst H7;have hi:=Qe b;have Hy:Hu (cR ds us kind m 0=[]):=by unfold Hu cR;simp
   clear Hb
   go_wp2_with fail
   go_loop [37] (λi=>i=.int .i64 0) (λ_=>0)
   case atStart=>rfl
   case round=>
    subst hrel
    go_wp2_with fail
    refine (Any.slices_Sort_int_none Tryz.sortL9 _ _ _).mono ?_;rintro e w5 ⟨rfl,rfl⟩
    go_wp2
    go_ret2;refine ⟨λF=>absurd Ha.o F,λ_=>⟨_,0,rfl,?_,?_,?_⟩,eU Hq.o _⟩
    ·show jh _ _ _ _ (ints (bE (cR ds us kind m 0)))
     rw [Hy.o];exact ⟨none,0,rfl,λh=>by simp [ints,bE,bR] at h⟩
    ·show 0<(bE (cR ds us kind m 0)).length->_
     rw [Hy.o];exact λh=>by simp [bE,bR] at h
    ·show aJ _ _ _ _ _ _ (eB us (cR ds us kind m 0))
     rw [Hy.o,zx];exact Z.o
  ·have H0:many<=(eC ds us kind m).length:=by omega
   clear Hb;have Ht:g≠a:=by have:=D.o.lt;omega
   have Ho:Hu ((cR ds us kind m many).length=many):=by unfold Hu cR;rw [Qu];omega
   have H1:Hu (cR ds us kind m many=(eC ds us kind m).take many):=rfl;have Hj:Hu (∀ j∈cR ds us kind m many,j<16):=λj p=>by have:=(nj p).1;omega
   have S:=qI (rY ds us kind m many);have HM:Hu (∀ k q:Nat,(eC ds us kind m)[k]?=some q->q<16):=λk q u=>by
    have:=(zA.1 (List.mem_of_getElem? u)).1
    omega
   have HX:Hu (∀ k,k<(eC ds us kind m).length->∃ q:Nat,(eC ds us kind m)[k]?=some q/\y.cell? ⟨g,k,none⟩=some (.int .i64 q)):=λk G=>by
    refine ⟨(eC ds us kind m)[k],Qf G,?_⟩
    have:=H5.o
    unfold Row at this;rw [this.cellAt k (by omega)]
    simp [cB,G]
   have He:g<y:=(gS Hh).1;have HQ:=qI (And.intro Hh (And.intro z (And.intro Hl Hn)));clear Hh Hl Hn z;have hb:decide ((many:Int)<0)=false:=by simp
   go_wp2
   go_loopw [37] (λi wr=>∃ k:Nat,k<=many/\i=.int .i64 k/\aJ wr a db l c ds (eB us ((eC ds us kind m).take k))/\y.grownBy wr (some a)) (λi _=>many - (intOf i).toNat)
   case atStart=>exact ⟨0,by omega,rfl,by rw [List.take_zero,zx];exact Z.o,vd _ _⟩
   case round=>
    obtain ⟨k,G,rfl,t,s⟩:=hrel
    by_cases hn:k<many
    ·obtain ⟨q,u,R⟩:=HX.o k (by omega);have Hc:=HM.o k q u;have hx:=(s.cell_far ⟨g,k,none⟩ He (by simpa using Ht)).trans R;obtain ⟨hu,hz⟩:=t.used q Hc;have H3:=qI (t.set (vs:=eB us ((eC ds us kind m).take (k+1))) Hc true λj _=>Jr u j);have HZ:=qI (s.trans (cK wr ⟨a,1+q,none⟩ true));clear t s R u
     go_wp2
     go_roundw
     case rel=>exact ⟨k+1,by omega,by go_num,H3.o,HZ.o⟩
     case measure=>simp [intOf];omega
    ·have H6:k=many:=by omega
     subst H6;have HY:=qI t;have M:=qI s;clear t s;have HS:Hu (Calls prog 134 #[.slice g k d] wr λe w'=>e=.returned (.tuple #[])/\Row w' B3 (.slice g k d) (bE (cR ds us kind m k))/\wr.grownBy w' (some g)):=by
      obtain ⟨q1,q2,q3,V⟩:=HQ.o
      have:=zY Hj.o S.o J (wr:=wr) ((M.o.block g He (by simpa using Ht)).trans q1) (by rw [Ho.o];omega) q2 q3 (by
       rw [Ho.o,H1.o];rw [Nat.mul_one] at V;have e:(f.toList.take (eC ds us kind m).length).take k=f.toList.take k:=by rw [List.take_take,Nat.min_eq_left H0]
       rw [<- e,V]
       simp [cB,List.map_take]) (by rw [Ho.o];omega)
      rw [r7 Hj.o S.o,Ho.o] at this;exact this
     go_wp2_with fail
     refine HS.o.mono ?_;rintro e w5 ⟨rfl,L,x⟩;obtain ⟨g5,U,Hg⟩:=L.nums;have H4:=qI (HY.o.kept x (by simpa using λe=>Ht e.symm) (λb=>by have:=(D.o.at0 b).2.2;simp;omega));have H9:=qI (zX (eU Hq.o (some a)) M.o (λj p=>by right;exact p));have H8:=qI (zX H9.o x (λj p=>by left;cases p;omega));have X:=qI (And.intro U Hg);clear L x U Hg
     go_wp2
     go_ret2;refine ⟨λF=>absurd Ha.o F,λ_=>⟨_,g5,rfl,X.o.1,λb=>Q5 HA (X.o.2 b),?_⟩,H8.o⟩;exact H4.o
theorem aJ.devsAt (h:aJ w pb db ao c ds us):dW w (.slice ao ds.length c) db 0 ds:=
 ⟨ao,c,rfl,λa=>⟨(h.at0 a).1,(h.at0 a).2.2,λk b=>by obtain ⟨c0,c1,c2,_⟩:=h.cells k b;rw [Qd];exact ⟨c0,c1,c2⟩⟩⟩
theorem zZ (w:World) (b db:Nat) (g:Option Addr) (c:Nat) (ds:List ah) (us:Nat->Bool) (h:aJ w b db g c ds us) (f:eT ds) :
  Calls prog 78 #[b] w λe w'=>∃ v,e=.returned v/\jG w w' v ds/\Below w w w':=by
 have i:=qI (zP _ db 0 ds w h.devsAt f.1);have Ha:=h.row;clear h f
 go_enter func78,ntmps78
 go_wp2_with fail
 refine i.o.mono ?_;rintro e l ⟨v,rfl,d,a⟩;have j:=qI d;have k:=qI a;clear d a
 go_wp2
 go_ret;exact ⟨_,rfl,j.o,k.o⟩
theorem Ju (kind:ByteArray) (many:Int) (m:Nat) (w:World) (a db:Nat) (b:Option Addr) (c:Nat) (ds:List ah) (us:Nat->Bool) (h:aJ w a db b c ds us) (f:eT ds) (g:m<256) :
  Calls prog 133 #[a,kind,many,.int .u8 m] w λe w'=>nw (λn=>aL n) w a db b c ds us kind m many e w':=by
 by_cases d:many<0
 ·refine (Js kind many m w a d).mono ?_;rintro e w' ⟨rfl,rfl⟩;exact nw.wrong (n:=1) (by rw [dV,if_pos d]) (by decide) rfl (Q0 _ _)
 ·obtain ⟨n,rfl⟩:=Int.eq_ofNat_of_zero_le (show 0<=many by omega);exact Jt kind n m w a db b c ds us h f g
