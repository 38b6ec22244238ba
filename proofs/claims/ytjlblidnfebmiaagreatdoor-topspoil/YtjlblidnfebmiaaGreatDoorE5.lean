import Derived.Test.YtjlblidnfebmiaaGreatDoorE3
import Derived.Test.YtjlblidnfebmiaaGreatDoorE4
import Derived.Deep.RegionWith
import Derived.Deep.RegionLaw
import Derived.Deep.AppendLies
set_option maxRecDepth 100000
set_option maxHeartbeats 16000000
open Go Go.RowKit
open Go.Proofs.Tryz
namespace Go.Proofs.YtjlblidnfebmiaaGreatDoor
variable {K N base n size:Nat} {a:Addr} {all free:bX} {e:TypeId} {l:List (Nat × Bool)} {many:Int} {u u' w w':World} {v:Value} {xs:List Value}
abbrev v4 (q:bX):Value:=.agg #[(q.a:Int),(q.b:Int),(q.c:Int),(q.d:Int)]
theorem byte_at (t:ByteArray) (m:Nat) (h:m<t.size):t[m]=t.data.toList.getD m 0:=by
 have a:m<t.data.toList.length:=by simpa using h
 rw [List.getD_eq_getElem?_getD,Qf a]
 simp
 rfl
def yY:List UInt8:=Lib.pop8tab.data.toList
theorem Hj:∀ m:Fin 256,(yY.getD m.val 0).toNat=bY m.val:=by decide +kernel
theorem Hk (m:Nat) (h:m<Lib.pop8tab.size) (a:m<256):wrap64 (((Lib.pop8tab[m]'h).toNat:Nat):Int)=(bY m:Nat):=by
 rw [byte_at Lib.pop8tab m h];have e:=Hj ⟨m,a⟩;unfold yY at e;rw [e]
 have:=m8 m
 show wrap64 ((bY m:Nat):Int)=_
 unfold wrap64;omega
theorem Hl (m:Nat) (w:World) (b:m<256) :
  Calls prog 259 #[.int .u8 m] w λe w'=>e=.returned (.int .i64 (bY m:Nat))/\w'=w:=by
 go_enter func259,ntmps259
 go_wp2_with fail
 rename_i a
 go_ret;exact ⟨congrArg (λz=>Ending.returned (z:Int)) (Hk m a b),rfl⟩
theorem pW (m:Nat) (w:World) (a:m<256) :
  Calls prog 206 #[.int .u8 m] w λe w'=>e=.returned (.int .i64 (bY m:Nat))/\w'=w:=by
 go_enter func206,ntmps206
 go_wp2_with fail
 refine (Hl m _ a).mono ?_;rintro e w' ⟨rfl,rfl⟩
 go_wp2
 go_ret;exact ⟨rfl,rfl⟩
theorem Hm (q:bX) (w:World):∀ k:Nat,k<4->(Instr.index 202 (v4 q) (k:Int)).run prog w=.ok (q.get k:Int) w:=by
 intro k c;obtain ⟨x,b,a⟩:=yT q.a q.b q.c q.d w k c;rw [b,a]
 have:k=0\/k=1\/k=2\/k=3:=by omega
 rcases this with rfl|rfl|rfl|rfl <;> rfl
theorem Hn (q:bX) (m:Nat) (w:World) (p:m<256) (f:kc q) :
  Calls prog 208 #[v4 q,.int .u8 m] w λe w'=>e=.returned (fD q m:Int)/\Below w w w':=by
 have o:=qI ((Q0 w w).alloc (lR) (.cells #[(q.a:Int),(q.b:Int),(q.c:Int),(q.d:Int)] 202));have g:=qI (Hm q (w.alloc (.cells #[(q.a:Int),(q.b:Int),(q.c:Int),(q.d:Int)] 202)));have d:=qI f;clear f;unfold v4 at *
 go_enter func208,ntmps208
 go_wp2_with fail
 go_loop [5,9] (λt i=>∃ k:Nat,k<=4/\i=.int .i64 k/\t=.int .i64 (gX q m k)) (λ_ i=>4 - (intOf i).toNat)
 case atStart=>exact ⟨0,by omega,rfl,rfl⟩
 case round=>
  obtain ⟨k,l,rfl,rfl⟩:=hrel
  by_cases b:k<4
  ·have u:=g.o k b;have Ha:=yL m k p;have j:=qI λh=>Gj (q:=q) (m:=m) (k:=k) h;have n:=qI λh=>Gk (q:=q) (m:=m) (k:=k) h;obtain ⟨v,s⟩:=Gl d.o m k;obtain ⟨r,t2⟩:=d.o k;generalize q.get k=x at *
   rcases two (m.testBit k) with a|a
   ·rw [a] at Ha;have c:=qI (j.o a);clear a
    go_wp2_with fail
    go_round
    case rel=>exact ⟨k+1,by omega,by go_num,by rw [c.o]⟩
    case measure=>simp [intOf];omega
   ·rw [a] at Ha;have c:=qI (n.o a);clear a
    go_wp2_with fail
    go_round
    case rel=>exact ⟨k+1,by omega,by go_num,by rw [c.o]⟩
    case measure=>simp [intOf];omega
  ·have Hb:k=4:=by omega
   subst Hb;clear l b
   go_wp2
   go_ret;exact ⟨rfl,o.o⟩
def yZ (w:World) (v:Value) (l:List Nat):Prop:=
 (l=[]/\∃ ao c,v=.slice ao 0 c)\/∃ g c,v=.slice (some ⟨g,0,none⟩) l.length c/\g<w.heap.size/\∀ k,k<l.length->w.cell? ⟨g,k,none⟩=some (.int .u8 (l.getD k 0:Nat))
theorem Ho:(prog.info? 45).map (λi=>(i.zero,i.size,i.bytes))=some (some (.int .u8 0),1,1):=by kernel_rfl
def oF (l:List Nat):List Value:=l.map λ(n:Nat)=>Value.int .u8 (n:Int)
theorem Hq (l:List Nat) (n:Nat):oF (l++[n])=oF l++[.int .u8 n]:=by simp [oF]
theorem Hr (m n:Nat) (d:m<16) (c:n<256):(bits BinOp.andNot IntKind.u8 (m:Int) (n:Int) == 0)=decide (m &&& n=m):=by
 have key:∀ (a:Fin 16) (b:Fin 256),(bits BinOp.andNot IntKind.u8 ((a.val:Nat):Int) ((b.val:Nat):Int) == 0)=decide (a.val &&& b.val=a.val):=by decide +kernel
 exact key ⟨m,d⟩ ⟨n,c⟩
def Hs (w:World) (nodes:Nat) (e:Ending) (w':World):Prop:=∃ v,e=.returned v/\yZ w' v (cV nodes 16)/\Below w w w'
theorem Ht (nodes:Nat) (w:World) (l:nodes<256) :
  Calls prog 209 #[.int .u8 nodes] w λe w'=>Hs w nodes e w':=by
 obtain ⟨i0,hi,Hi,Hj,Hk⟩:=info_parts Ho
 go_enter func209,ntmps209
 go_wp2
 go_loopw [3,4] (λv i wr=>∃ k:Nat,1<=k/\k<=16/\i=.int .u8 k/\wr.ownsRow w 45 1 v (cV nodes k).length (oF (cV nodes k))/\Below w w wr) (λ_ i _=>16 - (intOf i).toNat)
 case atStart=>exact ⟨1,by omega,by omega,rfl,Qw _ _ _ _,Q0 _ _⟩
 case round=>
  obtain ⟨k,Hg,d,rfl,Ha,He⟩:=hrel
  by_cases b:k<16
  ·have hle:=uC nodes k;have Hh:=He.size;have f:=Hr k nodes b l
   rcases two (decide (k &&& nodes=k)) with a|a
   ·have HS:Hu (cV nodes (k+1)=cV nodes k++[k]):=Gm (by unfold m9;rw [a,Qc Hg];rfl);rw [a] at f;clear a
    go_wp2_with (at_builtin;refine wpList_append_own _ rfl _ _ 323 rfl w 45 i0 (.int .u8 0) 1 1 underlying323 hi Hi Hj Hk rfl (by decide) _ _ _ rfl (Ha.alloc _) ⟨_,0,none⟩ 1 1 [.int .u8 k] rfl rfl (cell_one_new _ _ _) (ints_oneCell .u8 [(k:Int)]) (by unfold maxLen;omega) (by omega) (by simp;omega) ?_;intro q r Hc Hb _)
    go_roundw
    case rel=>
     refine ⟨k+1,by omega,by omega,by go_num,?_,?_⟩
     ·rw [HS.o,Hq,Q2];exact Hc
     ·exact (He.alloc Hh _).grown Hb (by simp;omega) λj n=>(Ha.lt j n).1
    case measure=>simp [intOf];omega
   ·have HS:Hu (cV nodes (k+1)=cV nodes k):=Gn (by unfold m9;rw [a];simp);rw [a] at f;clear a
    go_wp2
    go_roundw
    case rel=>
     refine ⟨k+1,by omega,by omega,by go_num,?_,He⟩;rw [HS.o];exact Ha
    case measure=>simp [intOf];omega
  ·have Hf:k=16:=by omega
   subst Hf;clear d b;have m:Hu (∀ v,wr.ownsRow w 45 1 v (cV nodes 16).length (oF (cV nodes 16))->yZ wr v (cV nodes 16)):=by
    intro v Ha
    rcases Ha.2 with ⟨rfl,h⟩|⟨g,c,o,rfl,p,_⟩
    ·exact .inl ⟨Qe h,none,0,rfl⟩
    ·refine .inr ⟨g,c,rfl,(Ha.lt g rfl).2,λk d=>?_⟩;rw [Ha.cellAt k (by omega)]
     simp [oF,d]
   go_wp2
   go_ret;exact ⟨_,rfl,m.o _ Ha,He⟩
theorem uK (q:bX) (m:Nat) (many:Int) (B:Nat) (w:World) (g:m<256) (f:kc q) (b:w.cell? B=some (.int .i64 many)) :
  Calls prog 207 #[v4 q,.int .u8 m,B] w λe w'=>e=.returned (.bool (decide (many<=fD q m)))/\Below w w w':=by
 have Ha:=qI ((Q0 w w).alloc (lR) (.cells #[(q.a:Int),(q.b:Int),(q.c:Int),(q.d:Int)] 202));have Hb:=Q3 w _ b;have Hf:=(Ha.o.cell (p:=B) Hb).trans b;have He:=qI (Q1 Hb Ha.o.size);have a:=cE.made w 202 q.a q.b q.c q.d;have c0:=a.c0;have c1:=a.c1;have c2:=a.c2;have c3:=a.c3;have d:=qI (Hn q m);clear a b Hb;unfold v4 at *
 go_enter func207,ntmps207
 go_wp2_with fail
 go_region_with (go_at_call 208;go_loud (refine (d.o _ g f).mono ?_;rintro e w' ⟨rfl,c⟩;have Hg:=(c.cell (p:=B) He.o).trans Hf;have Hc:=qI (Ha.o.drew.trans (c.mono Ha.o.size))))
 all_goals
  go_wp2
  go_ret
  first
   | exact ⟨rfl,Hc.o⟩
   | exact ⟨rfl,Hc.o.drew⟩
def fu (l:List (Nat × Bool)):List Value:=l.flatMap λh=>[.int .u8 (h.1:Nat),.bool h.2]
theorem rS (l:List (Nat × Bool)) (h:Nat × Bool):fu (l++[h])=fu l++[.int .u8 (h.1:Nat),.bool h.2]:=by simp [fu]
theorem Hv (l:List (Nat × Bool)) (k:Nat) (b:k<l.length):(fu l)[k*2]?=some (.int .u8 ((l.getD k (0,false)).1:Nat))/\(fu l)[k*2+1]?=some (.bool (l.getD k (0,false)).2):=by
 induction l generalizing k with
 | nil=>simp at b
 | cons a r ih=>
  cases k with
  | zero=>simp [fu]
  | succ k=>
   have:=ih k (by simpa using b)
   have e:fu (a :: r)=[.int .u8 (a.1:Nat),.bool a.2]++fu r:=rfl;rw [e,show (k+1)*2=k*2+2 by omega]
   simpa using this
def cd (w:World) (v:Value) (l:List (Nat × Bool)):Prop:=
 (l=[]/\∃ ao c,v=.slice ao 0 c)\/∃ b o c,v=.slice (some ⟨b,o,none⟩) l.length c/\b<w.heap.size/\∀ k,k<l.length->w.cell? ⟨b,o+k*2,none⟩=some (.int .u8 ((l.getD k (0,false)).1:Nat))/\w.cell? ⟨b,o+k*2+1,none⟩=some (.bool (l.getD k (0,false)).2)
theorem cd.below (h:cd w v l) (a:Below w w w'):cd w' v l:=by
 rcases h with h|⟨b,o,c,d,Ha,i⟩
 ·exact .inl h
 ·refine .inr ⟨b,o,c,d,Q1 Ha a.size,λk f=>?_⟩;obtain ⟨g,e⟩:=i k f;exact ⟨(a.cell (p:=⟨b,o+k*2,none⟩) Ha).trans g,(a.cell (p:=⟨b,o+k*2+1,none⟩) Ha).trans e⟩
theorem cd.of_row (h:w.ownsRow base e 2 v l.length (fu l)):cd w v l:=by
 rcases h.2 with ⟨rfl,b⟩|⟨g,a,d,rfl,f,_⟩
 ·exact .inl ⟨Qe b,none,0,rfl⟩
 ·refine .inr ⟨g,0,a,rfl,(h.lt g rfl).2,λk c=>?_⟩;obtain ⟨c0,c1⟩:=Hv l k c;rw [Qd,h.cellAt (k*2) (by omega),h.cellAt (k*2+1) (by omega)];exact ⟨c0,c1⟩
theorem y8:(prog.info? 231).map (λi=>(i.zero,i.size,i.bytes))=some (some (.agg #[.int .u8 0,false]),2,2):=by kernel_rfl
structure iD (u:World) (N:Nat) (free all:bX) (many:Int):Prop where
 f:cE u N free.a free.b free.c free.d
 a:cE u (N+1) all.a all.b all.c all.d
 m:u.cell? (N+2:Nat)=some (.int .i64 many)
 r0:u.cell? (N+3:Nat)=some (.bool false)
 r1:u.cell? ⟨N+3,1,none⟩=some (.slice none 0 0)
 z0:u.frozen? (N+3:Nat)=false
 z1:u.frozen? ⟨N+3,1,none⟩=false
theorem iD.lt (h:iD u N free all many):N+3<u:=Q3 u _ h.r0
theorem iD.below (h:iD u N free all many) (a:Below K u u') (b:N+4<=K):iD u' N free all many:=
 ⟨h.f.below a (by omega),h.a.below a (by omega),(a.cell (p:=⟨N+2,0,none⟩) (by show N+2<K;omega)).trans h.m,(a.cell (p:=⟨N+3,0,none⟩) (by show N+3<K;omega)).trans h.r0,(a.cell (p:=⟨N+3,1,none⟩) (by show N+3<K;omega)).trans h.r1,(a.frozen (p:=⟨N+3,0,none⟩) (by show N+3<K;omega)).trans h.z0,(a.frozen (p:=⟨N+3,1,none⟩) (by show N+3<K;omega)).trans h.z1⟩
abbrev rT (w:World) (free all:bX) (many:Int):World:=(((w.alloc (.cells #[(free.a:Int),(free.b:Int),(free.c:Int),(free.d:Int)] 202)).alloc (.cells #[(all.a:Int),(all.b:Int),(all.c:Int),(all.d:Int)] 202)).alloc (.cells #[many] 3)).alloc (.cells #[false,.slice none 0 0] 279)
theorem iD.made (w:World) (free all:bX) (many:Int):iD (rT w free all many) w free all many:=by
 refine ⟨(((cE.made w _ _ _ _ _).alloc _).alloc _).alloc _,?_,?_,?_,?_,?_,?_⟩
 ·have:=((cE.made (w.alloc (.cells #[(free.a:Int),(free.b:Int),(free.c:Int),(free.d:Int)] 202)) 202 all.a all.b all.c all.d).alloc (.cells #[many] 3)).alloc (.cells #[false,.slice none 0 0] 279)
  simpa using this
 ·go_simp
 ·go_simp
 ·go_simp
 ·go_simp
 ·go_simp
theorem y9 (w:World) (free all:bX) (many:Int):Below w w (rT w free all many):=
 ((((Q0 _ _).alloc (lR) _).alloc (by simp) _).alloc (by simp;omega) _).alloc (by simp;omega) _
def lY (u:World) (g:Nat) (L:List Nat):Prop:=∀ k,k<L.length->u.cell? ⟨g,k,none⟩=some (.int .u8 (L.getD k 0:Nat))
theorem lY.below {g:Nat} {L:List Nat} (h:lY u g L) (a:Below K u u') (c:g<K):lY u' g L:=λk b=>(a.cell (p:=⟨g,k,none⟩) c).trans (h k b)
def Hw (w:World) (l:List (Nat × Bool)) (e:Ending) (w':World):Prop:=∃ v,e=.returned (.agg #[false,v])/\cd w' v l/\(∀ b o n c,v=.slice (some ⟨b,o,none⟩) n c->w.heap.size<=b)/\Below w w w'
theorem Hx (free all:bX) (nodes:Nat) (many:Int) (w:World) (b:many<=0) :
  Calls prog 166 #[v4 free,v4 all,.int .u8 nodes,many] w λe w'=>e=.returned (.agg #[true,.slice none 0 0])/\Below w w w':=by
 have a:=iD.made w free all many;have d:=a.m;have r0:=a.r0;have r1:=a.r1;have z0:=a.z0;have z1:=a.z1;have c:=qI (y9 w free all many);clear a;unfold rT v4 at *
 go_enter func166,ntmps166
 go_wp2_with fail
 (try simp only [Exit.inBlock,Exit.then]);refine bodyPost_ret (v:=.agg #[true,.slice none 0 0]) ?_ rfl ⟨rfl,?_⟩
 ·rw [rO rfl];go_simp
 ·exact ((((Q0 _ _).alloc (lR) _).alloc (by simp) _).alloc (by simp;omega) _).alloc (by simp;omega) _
theorem kR (h:w.ownsRow base e size v n xs) (a:Below w w w'):w'.ownsRow base e size v n xs:=
 h.kept (row:=none) ⟨a.os,a.tape,a.output,a.size,λj b _=>a.block j b⟩ (by cases hv:v.ownBlock <;> simp)
theorem g9 (h:w.cell? a=some v) (o:Obj):(w.alloc o).cell? a=some v:=
 (((Q0 w w).alloc (lR) o).cell (Q3 w _ h)).trans h
theorem uL (b:w.cell? a=some v) (h:w.frozen? a=false) (o:Obj):(w.alloc o).frozen? a=false:=
 (((Q0 w w).alloc (lR) o).frozen (Q3 w _ b)).trans h
theorem jE {v:Value} (h:w.ownsRow base e size v n xs):∃ b c,v=.slice b n c:=by
 rcases h.2 with ⟨rfl,rfl⟩|⟨g,d,a,rfl,_⟩
 ·exact ⟨none,0,rfl⟩
 ·exact ⟨_,_,rfl⟩
theorem za {v:Value} (h:w.ownsRow base e size v n xs) (f:N<=base):∀ b o a c,v=.slice (some ⟨b,o,none⟩) a c->N<=b:=by
 intro b o a c d;subst d;exact Q5 f (h.lt b rfl).1
