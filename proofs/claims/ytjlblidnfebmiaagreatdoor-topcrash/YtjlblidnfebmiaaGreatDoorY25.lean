import Derived.Test.YtjlblidnfebmiaaGreatDoorY23
import Derived.Deep.RegionWith
import Derived.Deep.RegionLaw
import Derived.Deep.AppendLies
set_option maxRecDepth 100000
set_option maxHeartbeats 16000000
open Go Go.RowKit
open Go.Proofs.Tryz
namespace Go.Proofs.YtjlblidnfebmiaaGreatDoor
variable{K N base k m n nodes size:Nat}{a:Addr}{e:TypeId}{l:List (Nat × Bool)}{many:Int}{u u' w w':World}{v:Value}{xs:List Value}
structure cD where
 a:Int
 b:Int
 c:Int
 d:Int
def cD.get (q:cD):Nat->Int
 | 0=>q.a
 | 1=>q.b
 | 2=>q.c
 | _=>q.d
def ja (q:cD) (m:Nat):Nat->Int
 | 0=>0
 | k+1=>if m.testBit k then ja q m k+q.get k else ja q m k
def gI (q:cD) (m:Nat):Int:=ja q m 4
theorem S9{q:cD}(h:m.testBit k=true):ja q m (k+1)=ja q m k+q.get k:=by rw[ja,if_pos h]
theorem Ta{q:cD}(h:m.testBit k=false):ja q m (k+1)=ja q m k:=by grind[ja]
def lL (q:cD):Prop:=∀k,-1000000<=q.get k/\q.get k<=1000000
theorem Tb{q:cD}(h:lL q)(m k:Nat):-1000000*(k:Int)<=ja q m k/\ja q m k<=1000000*(k:Int):=by
 induction k with
 | zero=>simp[ja]
 | succ k ih=>
  have:=h k
  rw[ja]
  split <;> omega
def cE (m:Nat):Nat:=(bm m 8).length
theorem pL(m:Nat):cE m<=8:=by
 grind[cE,bm]
def pM (nodes m:Nat):Bool:=decide (1<=m) && decide (m &&& nodes=m)
def dQ (nodes k:Nat):List Nat:=(List.range k).filter (pM nodes)
theorem Tc(h:pM nodes k=true):dQ nodes (k+1)=dQ nodes k++[k]:=by
 grind[dQ,List.range_succ]
theorem Td(h:pM nodes k=false):dQ nodes (k+1)=dQ nodes k:=by
 grind[dQ,List.range_succ]
theorem yV(nodes k:Nat):(dQ nodes k).length<=k:=by
 grind[dQ]
theorem EU(h:m∈dQ nodes k):m<k/\pM nodes m=true:=by
 grind[dQ]
def jb (q:cD) (many:Int) (l:List Nat):Nat->Nat
 | 0=>4
 | k+1=>if decide (many<=gI q (l.getD k 0)) then min (jb q many l k) (cE (l.getD k 0)) else jb q many l k
theorem EV(q:cD)(many:Int)(l:List Nat)(k:Nat):jb q many l k<=4:=by induction k <;> grind[jb]
def pN (all:cD) (many:Int) (few_Ost m:Nat):Bool:=decide (many<=gI all m) && decide (cE m=few_Ost)
def il (free all:cD) (many:Int) (few_Ost:Nat) (l:List Nat):Nat->List (Nat × Bool)
 | 0=>[]
 | k+1=>if decide (many<=gI free (l.getD k 0)) then il free all many few_Ost l k++[(l.getD k 0,pN all many few_Ost (l.getD k 0))] else il free all many few_Ost l k
theorem EW(free all:cD)(many:Int)(few_Ost:Nat)(l:List Nat)(k:Nat):(il free all many few_Ost l k).length<=k:=by induction k <;> grind[il]
def few_Ost (all:cD) (nodes:Nat) (many:Int):Nat:=jb all many (dQ nodes 16) (dQ nodes 16).length
def oj (free all:cD) (nodes:Nat) (many:Int):List (Nat × Bool):=il free all many (few_Ost all nodes many) (dQ nodes 16) (dQ nodes 16).length
abbrev v4 (q:cD):Value:=.agg #[(q.a:Int),(q.b:Int),(q.c:Int),(q.d:Int)]
theorem byte_at(t:ByteArray)(m:Nat)(h:m<t.size):t[m]=t.data.toList.getD m 0:=by
 have a:m<t.data.toList.length:=by simpa using h
 rw[List.getD_eq_getElem?_getD,Qf a]
 simp
 rfl
def EX:List UInt8:=Lib.pop8tab.data.toList
theorem Te:∀m:Fin 256,(EX.getD m.val 0).toNat=cE m.val:=by decide +kernel
theorem Tf(m:Nat)(h:m<Lib.pop8tab.size)(a:m<256):wrap64 (((Lib.pop8tab[m]'h).toNat:Nat):Int)=(cE m:Nat):=by
 rw[byte_at Lib.pop8tab m h];have e:=Te ⟨m,a⟩;unfold EX at e;rw[e]
 have:=pL m
 show wrap64 ((cE m:Nat):Int)=_
 unfold wrap64;omega
theorem Tg(m:Nat){w:World}(b:m<256) :
  CE 259 #[.int .u8 m] w (.int .i64 (cE m:Nat)):=by
 go_enter func259,ntmps259
 go_wp2
 rename_i a
 go_ret;exact⟨congrArg (λz=>Ending.returned (z:Int)) (Tf m a b),rfl⟩
theorem sZ(m:Nat)(w:World)(a:m<256) :
  CE 206 #[.int .u8 m] w (.int .i64 (cE m:Nat)):=by
 go_enter func206,ntmps206
 go_wp2
 refine (Tg m a).e ?_
 go_wp2
 go_ret;exact⟨rfl,rfl⟩
theorem Th(q:cD)(w:World):∀k:Nat,k<4->(Instr.index 202 (v4 q) (k:Int)).run prog w=.ok (q.get k:Int) w:=by
 intro k c;obtain⟨x,b,a⟩:=Ey q.a q.b q.c q.d w k c;rw[b,a]
 have:k=0\/k=1\/k=2\/k=3:=by omega
 rcases this with rfl|rfl|rfl|rfl <;> rfl
theorem Ti{q:cD}(m:Nat)(w:World)(o:m<256)(d:lL q) :
  CB 208 #[v4 q,.int .u8 m] w (gI q m:Int):=by
 have j:=qI ((Q0 w w).alloc (lR) (.cells #[(q.a:Int),(q.b:Int),(q.c:Int),(q.d:Int)] 202));have g:=qI (Th q (w.alloc (.cells #[(q.a:Int),(q.b:Int),(q.c:Int),(q.d:Int)] 202)));have f:=qI d;clear d;unfold v4 at *
 go_enter func208,ntmps208
 go_wp2
 go_loop [5,9] (λt i=>∃k:Nat,k<=4/\i=.int .i64 k/\t=.int .i64 (ja q m k)) (λ_ i=>4 - (intOf i).toNat)
 exact⟨0,by omega,rfl,rfl⟩
 ·obtain⟨k,p,rfl,rfl⟩:=hrel
  by_cases b:k<4
  ·have r:=g.o k b;have Ha:=Eu m k o;have l:=qI λh=>S9 (q:=q) (m:=m) (k:=k) h;have n:=qI λh=>Ta (q:=q) (m:=m) (k:=k) h;obtain⟨s1,s2⟩:=Tb f m k;obtain⟨s,t2⟩:=f.o k;generalize q.get k=x at *
   rcases two (m.testBit k) with a|a
   ·rw[a] at Ha;have c:=qI (l.o a);clear a
    go_wp2
    go_round
    exact⟨k+1,by omega,by go_num,by rw[c.o]⟩
    simp[intOf];omega
   ·rw[a] at Ha;have c:=qI (n.o a);clear a
    go_wp2
    go_round
    exact⟨k+1,by omega,by go_num,by rw[c.o]⟩
    simp[intOf];omega
  ·have Hb:k=4:=by omega
   subst Hb;clear p b
   go_wp2
   go_ret;exact⟨rfl,j⟩
theorem Tj{α:Type}(l:List α)(d:α)(k:Nat)(h:k<l.length):l.take (k+1)=l.take k++[l.getD k d]:=by
 simp_all
theorem Tk(free all:cD)(many:Int)(F:Nat)(l:List Nat)(k:Nat)(a:k<=l.length):il free all many F l k=((l.take k).filter λm=>decide (many<=gI free m)).map λm=>(m,pN all many F m):=by induction k <;> grind[il,Tj,gI]
theorem Tl(free all:cD)(nodes:Nat)(many:Int):oj free all nodes many=((dQ nodes 16).filter λm=>decide (many<=gI free m)).map λm=>(m,pN all many (few_Ost all nodes many) m):=by
 simp[oj,Tk]
theorem Tm{free all:cD}{h:Nat × Bool}(a:h∈oj free all nodes many):1<=h.1/\h.1<16/\h.1 &&& nodes=h.1/\many<=gI free h.1/\h.2=pN all many (few_Ost all nodes many) h.1:=by
 rw[Tl,Qk] at a;obtain⟨m,a,rfl⟩:=a;rw[List.mem_filter] at a;have b:=EU a.1;simp only[pM,Bool.and_eq_true,Qp] at b;exact⟨b.2.1,b.1,b.2.2,of_decide_eq_true a.2,rfl⟩
theorem Tn{free all:cD}{nodes:Nat}{many:Int}:(oj free all nodes many).length<=16:=by
 grind[oj,EW,yV]
def EY (w:World) (v:Value) (l:List Nat):Prop:=
 (l=[]/\∃ao c,v=.slice ao 0 c)\/∃g c,v=.slice (some ⟨g,0,none⟩) l.length c/\g<w.heap.size/\∀k,k<l.length->w.cell? ⟨g,k,none⟩=some (.int .u8 (l.getD k 0:Nat))
theorem To:(prog.info? 45).map (λi=>(i.zero,i.size,i.bytes))=some (some (.int .u8 0),1,1):=by kernel_rfl
def qZ (l:List Nat):List Value:=l.map λ(n:Nat)=>Value.int .u8 (n:Int)
theorem Tp(l:List Nat)(n:Nat):qZ (l++[n])=qZ l++[.int .u8 n]:=by simp[qZ]
theorem Tq(m n:Nat)(c:m<16)(d:n<256):(bits BinOp.andNot IntKind.u8 (m:Int) (n:Int) == 0)=decide (m &&& n=m):=by
 have key:∀(a:Fin 16) (b:Fin 256),(bits BinOp.andNot IntKind.u8 ((a.val:Nat):Int) ((b.val:Nat):Int) == 0)=decide (a.val &&& b.val=a.val):=by decide +kernel
 exact key ⟨m,c⟩ ⟨n,d⟩
def Tr (w:World) (nodes:Nat) (e:Ending) (w':World):Prop:=∃v,e=.returned v/\EY w' v (dQ nodes 16)/\Below w w w'
theorem Ts(nodes:Nat){w:World}(n:nodes<256) :
  Calls pg 209 #[.int .u8 nodes] w λe w'=>Tr w nodes e w':=by
 obtain⟨i0,hi,Hh,Hi,Hj⟩:=info_parts To
 go_enter func209,ntmps209
 go_wp2
 go_loopw [3,4] (λv i wr=>∃k:Nat,1<=k/\k<=16/\i=.int .u8 k/\wr.ownsRow w 45 1 v (dQ nodes k).length (qZ (dQ nodes k))/\Bw w wr) (λ_ i _=>16 - (intOf i).toNat)
 exact⟨1,by omega,by omega,rfl,Qw _ _ _ _,Q0 _ _⟩
 ·obtain⟨k,Hk,c,rfl,Ha,He⟩:=hrel
  by_cases b:k<16
  ·have hle:=yV nodes k;have Hg:=He.size;have f:=Tq k nodes b n
   rcases two (decide (k &&& nodes=k)) with a|a
   ·have HS:Hu (dQ nodes (k+1)=dQ nodes k++[k]):=Tc (by grind[pM]);rw[a] at f;clear a
    go_wp2_with (at_builtin;refine wpList_append_own _ rfl _ _ 323 rfl w 45 i0 (.int .u8 0) 1 1 underlying323 hi Hh Hi Hj rfl (by decide) _ _ _ rfl (Ha.alloc _) ⟨_,0,none⟩ 1 1 [.int .u8 k] rfl rfl (cell_one_new _ _ _) (ints_oneCell .u8 [(k:Int)]) (by unfold maxLen;omega) (by omega) (by simp;omega) ?_;intro p r Hc Hb _)
    go_roundw
    case rel=>
     refine⟨k+1,by omega,by omega,by go_num,?_,?_⟩
     ·rw[HS.o,Tp,Q2];exact Hc
     ·exact (He.alloc Hg _).grown Hb (by simp;omega) λj o=>(Ha.lt j o).1
    case measure=>simp[intOf];omega
   ·have HS:Hu (dQ nodes (k+1)=dQ nodes k):=Td (by grind[pM]);rw[a] at f;clear a
    go_wp2
    go_roundw
    case rel=>
     refine⟨k+1,by omega,by omega,by go_num,?_,He⟩;rw[HS.o];exact Ha
    case measure=>simp[intOf];omega
  ·have Hf:k=16:=by omega
   subst Hf;clear c b;have l:Hu (∀v,wr.ownsRow w 45 1 v (dQ nodes 16).length (qZ (dQ nodes 16))->EY wr v (dQ nodes 16)):=by
    intro v Ha
    rcases Ha.2 with⟨rfl,h⟩|⟨g,d,m,rfl,q,_⟩
    ·exact .inl ⟨Qe h,none,0,rfl⟩
    ·refine .inr ⟨g,d,rfl,(Ha.lt g rfl).2,λk c=>?_⟩;rw[Ha.cellAt k (by omega)]
     simp[qZ,c]
   go_wp2
   go_ret;exact⟨_,rfl,l.o _ Ha,He⟩
theorem yW{q:cD}(m:Nat){many:Int}{B:Nat}(w:World)(g:m<256)(f:lL q)(b:w.cell? B=some (.int .i64 many)) :
  CB 207 #[v4 q,.int .u8 m,B] w (.bool (decide (many<=gI q m))):=by
 have Ha:=qI ((Q0 w w).alloc (lR) (.cells #[(q.a:Int),(q.b:Int),(q.c:Int),(q.d:Int)] 202));have Hb:=Q3 w _ b;have He:=(Ha.o.cell (p:=B) Hb).trans b;have Hf:=qI (Q1 Hb Ha.o.size);have a:=cX.made w 202 q.a q.b q.c q.d;have c0:=a.c0;have c1:=a.c1;have c2:=a.c2;have c3:=a.c3;have d:=qI (Ti (q:=q) m);clear a b Hb;unfold v4 at *
 go_enter func207,ntmps207
 go_wp2
 go_region_with (go_at_call 208;go_loud (refine (d.o _ g f).m λw' c=>?_;have Hg:=(c.cell (p:=B) Hf).trans He;have Hc:=qI (Ha.o.drew.trans (c.mono Ha.o.size))))
 all_goals
  go_wp2
  go_ret
  first
   | exact⟨rfl,Hc⟩
   | exact⟨rfl,Hc.o.drew⟩
def gJ (l:List (Nat × Bool)):List Value:=l.flatMap λh=>[.int .u8 (h.1:Nat),.bool h.2]
theorem vB(l:List (Nat × Bool))(h:Nat × Bool):gJ (l++[h])=gJ l++[.int .u8 (h.1:Nat),.bool h.2]:=by simp[gJ]
theorem Tt(l:List (Nat × Bool))(k:Nat)(b:k<l.length):(gJ l)[k*2]?=some (.int .u8 ((l.getD k (0,false)).1:Nat))/\(gJ l)[k*2+1]?=some (.bool (l.getD k (0,false)).2):=by
 induction l generalizing k with
 | nil=>simp at b
 | cons a r ih=>
  cases k with
  | zero=>simp[gJ]
  | succ k=>
   have:=ih k (by simpa using b)
   have e:gJ (a :: r)=[.int .u8 (a.1:Nat),.bool a.2]++gJ r:=rfl;rw[e,show (k+1)*2=k*2+2 by omega]
   simpa using this
def cL (w:World) (v:Value) (l:List (Nat × Bool)):Prop:=
 (l=[]/\∃ao c,v=.slice ao 0 c)\/∃b o c,v=.slice (some ⟨b,o,none⟩) l.length c/\b<w.heap.size/\∀k,k<l.length->w.cell? ⟨b,o+k*2,none⟩=some (.int .u8 ((l.getD k (0,false)).1:Nat))/\w.cell? ⟨b,o+k*2+1,none⟩=some (.bool (l.getD k (0,false)).2)
theorem cL.below(h:cL w v l)(a:Bw w w'):cL w' v l:=by
 rcases h with h|⟨b,o,c,d,Ha,e⟩
 ·exact .inl h
 ·refine .inr ⟨b,o,c,d,Q1 Ha a.size,λk g=>?_⟩;obtain⟨f,i⟩:=e k g;exact⟨(a.cell (p:=⟨b,o+k*2,none⟩) Ha).trans f,(a.cell (p:=⟨b,o+k*2+1,none⟩) Ha).trans i⟩
theorem cL.of_row(h:w.ownsRow base e 2 v l.length (gJ l)):cL w v l:=by
 rcases h.2 with⟨rfl,c⟩|⟨g,a,b,rfl,f,_⟩
 ·exact .inl ⟨Qe c,none,0,rfl⟩
 ·refine .inr ⟨g,0,a,rfl,(h.lt g rfl).2,λk d=>?_⟩;obtain⟨c0,c1⟩:=Tt l k d;rw[Qd,h.cellAt (k*2) (by omega),h.cellAt (k*2+1) (by omega)];exact⟨c0,c1⟩
theorem EZ:(prog.info? 231).map (λi=>(i.zero,i.size,i.bytes))=some (some (.agg #[.int .u8 0,false]),2,2):=by kernel_rfl
structure jB (u:World) (N:Nat) (free all:cD) (many:Int):Prop where
 f:cX u N free.a free.b free.c free.d
 a:cX u (N+1) all.a all.b all.c all.d
 m:u.cell? (N+2:Nat)=some (.int .i64 many)
 r0:u.cell? (N+3:Nat)=some (.bool false)
 r1:u.cell? ⟨N+3,1,none⟩=some (.slice none 0 0)
 z0:u.frozen? (N+3:Nat)=false
 z1:u.frozen? ⟨N+3,1,none⟩=false
theorem jB.lt{free all:cD}(h:jB u N free all many):N+3<u:=Q3 u _ h.r0
theorem jB.below{free all:cD}(h:jB u N free all many)(a:Below K u u')(b:N+4<=K):jB u' N free all many:=
 ⟨h.f.below a (by omega),h.a.below a (by omega),(a.cell (p:=⟨N+2,0,none⟩) (by show N+2<K;omega)).trans h.m,(a.cell (p:=⟨N+3,0,none⟩) (by show N+3<K;omega)).trans h.r0,(a.cell (p:=⟨N+3,1,none⟩) (by show N+3<K;omega)).trans h.r1,(a.frozen (p:=⟨N+3,0,none⟩) (by show N+3<K;omega)).trans h.z0,(a.frozen (p:=⟨N+3,1,none⟩) (by show N+3<K;omega)).trans h.z1⟩
abbrev vD (w:World) (free all:cD) (many:Int):World:=(((w.alloc (.cells #[(free.a:Int),(free.b:Int),(free.c:Int),(free.d:Int)] 202)).alloc (.cells #[(all.a:Int),(all.b:Int),(all.c:Int),(all.d:Int)] 202)).alloc (.cells #[many] 3)).alloc (.cells #[false,.slice none 0 0] 279)
theorem jB.made(w:World)(free all:cD)(many:Int):jB (vD w free all many) w free all many:=by
 refine⟨(((cX.made w _ _ _ _ _).alloc _).alloc _).alloc _,?_,?_,?_,?_,?_,?_⟩
 ·have:=((cX.made (w.alloc (.cells #[(free.a:Int),(free.b:Int),(free.c:Int),(free.d:Int)] 202)) 202 all.a all.b all.c all.d).alloc (.cells #[many] 3)).alloc (.cells #[false,()] 279)
  simpa using this
 ·go_simp
 ·go_simp
 ·go_simp
 ·go_simp
 ·go_simp
theorem E4(w:World)(free all:cD)(many:Int):Bw w (vD w free all many):=
 ((((Q0 _ _).alloc (lR) _).alloc (by simp) _).alloc (by simp;omega) _).alloc (by simp;omega) _
def ol (u:World) (g:Nat) (L:List Nat):Prop:=∀k,k<L.length->u.cell? ⟨g,k,none⟩=some (.int .u8 (L.getD k 0:Nat))
theorem ol.below{g:Nat}{L:List Nat}(h:ol u g L)(b:Below K u u')(a:g<K):ol u' g L:=λk c=>(b.cell (p:=⟨g,k,none⟩) a).trans (h k c)
def Tu (w:World) (l:List (Nat × Bool)) (e:Ending) (w':World):Prop:=∃v,e=.returned (.agg #[false,v])/\cL w' v l/\(∀b o n c,v=.slice (some ⟨b,o,none⟩) n c->w.heap.size<=b)/\Below w w w'
theorem Tv(free all:cD)(nodes:Nat)(many:Int)(w:World)(b:many<=0) :
  CB 166 #[v4 free,v4 all,.int .u8 nodes,many] w (.agg #[true,()]):=by
 have a:=jB.made w free all many;have c:=a.m;have r0:=a.r0;have r1:=a.r1;have z0:=a.z0;have z1:=a.z1;have d:=qI (E4 w free all many);clear a;unfold vD v4 at *
 go_enter func166,ntmps166
 go_wp2
 (try simp only[Exit.inBlock,Exit.then]);refine bodyPost_ret (v:=.agg #[true,()]) ?_ rfl ⟨rfl,?_⟩
 ·rw[vm rfl];go_simp
 ·exact ((((Q0 _ _).alloc (lR) _).alloc (by simp) _).alloc (by simp;omega) _).alloc (by simp;omega) _
theorem mL(h:w.ownsRow base e size v n xs)(a:Bw w w'):w'.ownsRow base e size v n xs:=
 h.kept (row:=none) ⟨a.os,a.tape,a.output,a.size,λj b _=>a.block j b⟩ (by grind)
theorem jc(h:w.cell? a=some v)(o:Obj):(w.alloc o).cell? a=some v:=
 (((Q0 w w).alloc (lR) o).cell (Q3 w _ h)).trans h
theorem yX(b:w.cell? a=some v)(h:w.frozen? a=false)(o:Obj):(w.alloc o).frozen? a=false:=
 (((Q0 w w).alloc (lR) o).frozen (Q3 w _ b)).trans h
theorem kW{v:Value}(h:w.ownsRow base e size v n xs):∃b c,v=.slice b n c:=by
 rcases h.2 with⟨rfl,rfl⟩|⟨g,d,a,rfl,_⟩
 ·simp
 ·exact⟨_,_,rfl⟩
theorem E5{v:Value}(h:w.ownsRow base e size v n xs)(f:N<=base):∀b o a c,v=.slice (some ⟨b,o,none⟩) a c->N<=b:=by
 intro b o a c d;subst d;exact Q5 f (h.lt b rfl).1
