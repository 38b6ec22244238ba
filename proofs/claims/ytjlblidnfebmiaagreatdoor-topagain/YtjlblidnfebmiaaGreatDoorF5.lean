import Derived.Test.YtjlblidnfebmiaaGreatDoorF3
import Derived.Test.YtjlblidnfebmiaaGreatDoorF4
import Derived.Deep.RegionWith
import Derived.Deep.RegionLaw
import Derived.Deep.AppendLies
set_option maxRecDepth 100000
set_option maxHeartbeats 16000000
open Go Go.RowKit
open Go.Proofs.Tryz
namespace Go.Proofs.YtjlblidnfebmiaaGreatDoor
variable{K N base n size:Nat}{a:Addr}{all free:bZ}{e:TypeId}{l:List (Nat × Bool)}{many:Int}{u u' w w':World}{v:Value}{xs:List Value}
abbrev v4 (q:bZ):Value:=.agg #[(q.a:Int),(q.b:Int),(q.c:Int),(q.d:Int)]
theorem byte_at(t:ByteArray)(m:Nat)(h:m<t.size):t[m]=t.data.toList.getD m 0:=by
 have a:m<t.data.toList.length:=by simpa using h
 rw[List.getD_eq_getElem?_getD,Qf a]
 simp
 rfl
def zu:List UInt8:=Lib.pop8tab.data.toList
theorem Io:∀m:Fin 256,(zu.getD m.val 0).toNat=b6 m.val:=by decide +kernel
theorem Ip(m:Nat)(h:m<Lib.pop8tab.size)(a:m<256):wrap64 (((Lib.pop8tab[m]'h).toNat:Nat):Int)=(b6 m:Nat):=by
 rw[byte_at Lib.pop8tab m h];have e:=Io ⟨m,a⟩;unfold zu at e;rw[e]
 have:=ny m
 show wrap64 ((b6 m:Nat):Int)=_
 unfold wrap64;omega
theorem Iq(m:Nat)(w:World)(b:m<256) :
  Calls prog 259 #[.int .u8 m] w λe w'=>e=.returned (.int .i64 (b6 m:Nat))/\w'=w:=by
 go_enter func259,ntmps259
 go_wp2_with fail
 rename_i a
 go_ret;exact⟨congrArg (λz=>Ending.returned (z:Int)) (Ip m a b),rfl⟩
theorem qm(m:Nat)(w:World)(a:m<256) :
  Calls prog 206 #[.int .u8 m] w λe w'=>e=.returned (.int .i64 (b6 m:Nat))/\w'=w:=by
 go_enter func206,ntmps206
 go_wp2_with fail
 refine (Iq m _ a).mono ?_;rintro e w' ⟨rfl,rfl⟩
 go_wp2
 go_ret;exact⟨rfl,rfl⟩
theorem Ir(q:bZ)(w:World):∀k:Nat,k<4->(Instr.index 202 (v4 q) (k:Int)).run prog w=.ok (q.get k:Int) w:=by
 intro k c;obtain⟨x,b,a⟩:=zo q.a q.b q.c q.d w k c;rw[b,a]
 have:k=0\/k=1\/k=2\/k=3:=by omega
 rcases this with rfl|rfl|rfl|rfl <;> rfl
theorem Is(q:bZ)(m:Nat)(w:World)(o:m<256)(d:kw q) :
  Calls prog 208 #[v4 q,.int .u8 m] w λe w'=>e=.returned (fM q m:Int)/\Below w w w':=by
 have n:=qI ((Q0 w w).alloc (lR) (.cells #[(q.a:Int),(q.b:Int),(q.c:Int),(q.d:Int)] 202));have l:=qI (Ir q (w.alloc (.cells #[(q.a:Int),(q.b:Int),(q.c:Int),(q.d:Int)] 202)));have f:=qI d;clear d;unfold v4 at *
 go_enter func208,ntmps208
 go_wp2_with fail
 go_loop [5,9] (λt i=>∃k:Nat,k<=4/\i=.int .i64 k/\t=.int .i64 (ir q m k)) (λ_ i=>4 - (intOf i).toNat)
 case atStart=>exact⟨0,by omega,rfl,rfl⟩
 case round=>
  obtain⟨k,g,rfl,rfl⟩:=hrel
  by_cases b:k<4
  ·have u:=l.o k b;have Ha:=zg m k o;have p:=qI λh=>GN (q:=q) (m:=m) (k:=k) h;have j:=qI λh=>GO (q:=q) (m:=m) (k:=k) h;obtain⟨r,v⟩:=GP f.o m k;obtain⟨s,t2⟩:=f.o k;generalize q.get k=x at *
   rcases two (m.testBit k) with a|a
   ·rw[a] at Ha;have c:=qI (p.o a);clear a
    go_wp2_with fail
    go_round
    case rel=>exact⟨k+1,by omega,by go_num,by rw[c.o]⟩
    case measure=>simp[intOf];omega
   ·rw[a] at Ha;have c:=qI (j.o a);clear a
    go_wp2_with fail
    go_round
    case rel=>exact⟨k+1,by omega,by go_num,by rw[c.o]⟩
    case measure=>simp[intOf];omega
  ·have Hb:k=4:=by omega
   subst Hb;clear g b
   go_wp2
   go_ret;exact⟨rfl,n.o⟩
def zv (w:World) (v:Value) (l:List Nat):Prop:=
 (l=[]/\∃ao c,v=.slice ao 0 c)\/∃g c,v=.slice (some ⟨g,0,none⟩) l.length c/\g<w.heap.size/\∀k,k<l.length->w.cell? ⟨g,k,none⟩=some (.int .u8 (l.getD k 0:Nat))
theorem It:(prog.info? 45).map (λi=>(i.zero,i.size,i.bytes))=some (some (.int .u8 0),1,1):=by kernel_rfl
def oU (l:List Nat):List Value:=l.map λ(n:Nat)=>Value.int .u8 (n:Int)
theorem Iu(l:List Nat)(n:Nat):oU (l++[n])=oU l++[.int .u8 n]:=by simp[oU]
theorem Iv(m n:Nat)(d:m<16)(c:n<256):(bits BinOp.andNot IntKind.u8 (m:Int) (n:Int) == 0)=decide (m &&& n=m):=by
 have key:∀(a:Fin 16) (b:Fin 256),(bits BinOp.andNot IntKind.u8 ((a.val:Nat):Int) ((b.val:Nat):Int) == 0)=decide (a.val &&& b.val=a.val):=by decide +kernel
 exact key ⟨m,d⟩ ⟨n,c⟩
def Iw (w:World) (nodes:Nat) (e:Ending) (w':World):Prop:=∃v,e=.returned v/\zv w' v (cZ nodes 16)/\Below w w w'
theorem Iy(nodes:Nat)(w:World)(o:nodes<256) :
  Calls prog 209 #[.int .u8 nodes] w λe w'=>Iw w nodes e w':=by
 obtain⟨i0,hi,Hi,Hj,Hh⟩:=info_parts It
 go_enter func209,ntmps209
 go_wp2
 go_loopw [3,4] (λv i wr=>∃k:Nat,1<=k/\k<=16/\i=.int .u8 k/\wr.ownsRow w 45 1 v (cZ nodes k).length (oU (cZ nodes k))/\Below w w wr) (λ_ i _=>16 - (intOf i).toNat)
 case atStart=>exact⟨1,by omega,by omega,rfl,Qw _ _ _ _,Q0 _ _⟩
 case round=>
  obtain⟨k,Hg,c,rfl,Ha,He⟩:=hrel
  by_cases b:k<16
  ·have hle:=uX nodes k;have Hk:=He.size;have f:=Iv k nodes b o
   rcases two (decide (k &&& nodes=k)) with a|a
   ·have HS:Hu (cZ nodes (k+1)=cZ nodes k++[k]):=GQ (by unfold nz;rw[a,Qc Hg];rfl);rw[a] at f;clear a
    go_wp2_with (at_builtin;refine wpList_append_own _ rfl _ _ 323 rfl w 45 i0 (.int .u8 0) 1 1 underlying323 hi Hi Hj Hh rfl (by decide) _ _ _ rfl (Ha.alloc _) ⟨_,0,none⟩ 1 1 [.int .u8 k] rfl rfl (cell_one_new _ _ _) (ints_oneCell .u8 [(k:Int)]) (by unfold maxLen;omega) (by omega) (by simp;omega) ?_;intro q p Hc Hb _)
    go_roundw
    case rel=>
     refine⟨k+1,by omega,by omega,by go_num,?_,?_⟩
     ·rw[HS.o,Iu,Q2];exact Hc
     ·exact (He.alloc Hk _).grown Hb (by simp;omega) λj n=>(Ha.lt j n).1
    case measure=>simp[intOf];omega
   ·have HS:Hu (cZ nodes (k+1)=cZ nodes k):=GR (by unfold nz;rw[a];simp);rw[a] at f;clear a
    go_wp2
    go_roundw
    case rel=>
     refine⟨k+1,by omega,by omega,by go_num,?_,He⟩;rw[HS.o];exact Ha
    case measure=>simp[intOf];omega
  ·have Hf:k=16:=by omega
   subst Hf;clear c b;have m:Hu (∀v,wr.ownsRow w 45 1 v (cZ nodes 16).length (oU (cZ nodes 16))->zv wr v (cZ nodes 16)):=by
    intro v Ha
    rcases Ha.2 with⟨rfl,l⟩|⟨g,d,h,rfl,r,_⟩
    ·exact .inl ⟨Qe l,none,0,rfl⟩
    ·refine .inr ⟨g,d,rfl,(Ha.lt g rfl).2,λk c=>?_⟩;rw[Ha.cellAt k (by omega)]
     simp[oU,c]
   go_wp2
   go_ret;exact⟨_,rfl,m.o _ Ha,He⟩
theorem vl(q:bZ)(m:Nat)(many:Int)(B:Nat)(w:World)(f:m<256)(g:kw q)(b:w.cell? B=some (.int .i64 many)) :
  Calls prog 207 #[v4 q,.int .u8 m,B] w λe w'=>e=.returned (.bool (decide (many<=fM q m)))/\Below w w w':=by
 have Ha:=qI ((Q0 w w).alloc (lR) (.cells #[(q.a:Int),(q.b:Int),(q.c:Int),(q.d:Int)] 202));have Hb:=Q3 w _ b;have He:=(Ha.o.cell (p:=B) Hb).trans b;have Hf:=qI (Q1 Hb Ha.o.size);have a:=cK.made w 202 q.a q.b q.c q.d;have c0:=a.c0;have c1:=a.c1;have c2:=a.c2;have c3:=a.c3;have d:=qI (Is q m);clear a b Hb;unfold v4 at *
 go_enter func207,ntmps207
 go_wp2_with fail
 go_region_with (go_at_call 208;go_loud (refine (d.o _ f g).mono ?_;rintro e w' ⟨rfl,c⟩;have Hg:=(c.cell (p:=B) Hf.o).trans He;have Hc:=qI (Ha.o.drew.trans (c.mono Ha.o.size))))
 all_goals
  go_wp2
  go_ret
  first
   | exact⟨rfl,Hc.o⟩
   | exact⟨rfl,Hc.o.drew⟩
def fy (l:List (Nat × Bool)):List Value:=l.flatMap λh=>[.int .u8 (h.1:Nat),.bool h.2]
theorem sF(l:List (Nat × Bool))(h:Nat × Bool):fy (l++[h])=fy l++[.int .u8 (h.1:Nat),.bool h.2]:=by simp[fy]
theorem Iz(l:List (Nat × Bool))(k:Nat)(b:k<l.length):(fy l)[k*2]?=some (.int .u8 ((l.getD k (0,false)).1:Nat))/\(fy l)[k*2+1]?=some (.bool (l.getD k (0,false)).2):=by
 induction l generalizing k with
 | nil=>simp at b
 | cons a r ih=>
  cases k with
  | zero=>simp[fy]
  | succ k=>
   have:=ih k (by simpa using b)
   have e:fy (a :: r)=[.int .u8 (a.1:Nat),.bool a.2]++fy r:=rfl;rw[e,show (k+1)*2=k*2+2 by omega]
   simpa using this
def ci (w:World) (v:Value) (l:List (Nat × Bool)):Prop:=
 (l=[]/\∃ao c,v=.slice ao 0 c)\/∃b o c,v=.slice (some ⟨b,o,none⟩) l.length c/\b<w.heap.size/\∀k,k<l.length->w.cell? ⟨b,o+k*2,none⟩=some (.int .u8 ((l.getD k (0,false)).1:Nat))/\w.cell? ⟨b,o+k*2+1,none⟩=some (.bool (l.getD k (0,false)).2)
theorem ci.below(h:ci w v l)(a:Below w w w'):ci w' v l:=by
 rcases h with h|⟨b,o,c,g,Ha,i⟩
 ·exact .inl h
 ·refine .inr ⟨b,o,c,g,Q1 Ha a.size,λk f=>?_⟩;obtain⟨d,e⟩:=i k f;exact⟨(a.cell (p:=⟨b,o+k*2,none⟩) Ha).trans d,(a.cell (p:=⟨b,o+k*2+1,none⟩) Ha).trans e⟩
theorem ci.of_row(h:w.ownsRow base e 2 v l.length (fy l)):ci w v l:=by
 rcases h.2 with⟨rfl,b⟩|⟨g,a,d,rfl,f,_⟩
 ·exact .inl ⟨Qe b,none,0,rfl⟩
 ·refine .inr ⟨g,0,a,rfl,(h.lt g rfl).2,λk c=>?_⟩;obtain⟨c0,c1⟩:=Iz l k c;rw[Qd,h.cellAt (k*2) (by omega),h.cellAt (k*2+1) (by omega)];exact⟨c0,c1⟩
theorem zw:(prog.info? 231).map (λi=>(i.zero,i.size,i.bytes))=some (some (.agg #[.int .u8 0,false]),2,2):=by kernel_rfl
structure iS (u:World) (N:Nat) (free all:bZ) (many:Int):Prop where
 f:cK u N free.a free.b free.c free.d
 a:cK u (N+1) all.a all.b all.c all.d
 m:u.cell? (N+2:Nat)=some (.int .i64 many)
 r0:u.cell? (N+3:Nat)=some (.bool false)
 r1:u.cell? ⟨N+3,1,none⟩=some (.slice none 0 0)
 z0:u.frozen? (N+3:Nat)=false
 z1:u.frozen? ⟨N+3,1,none⟩=false
theorem iS.lt(h:iS u N free all many):N+3<u:=Q3 u _ h.r0
theorem iS.below(h:iS u N free all many)(a:Below K u u')(b:N+4<=K):iS u' N free all many:=
 ⟨h.f.below a (by omega),h.a.below a (by omega),(a.cell (p:=⟨N+2,0,none⟩) (by show N+2<K;omega)).trans h.m,(a.cell (p:=⟨N+3,0,none⟩) (by show N+3<K;omega)).trans h.r0,(a.cell (p:=⟨N+3,1,none⟩) (by show N+3<K;omega)).trans h.r1,(a.frozen (p:=⟨N+3,0,none⟩) (by show N+3<K;omega)).trans h.z0,(a.frozen (p:=⟨N+3,1,none⟩) (by show N+3<K;omega)).trans h.z1⟩
abbrev sG (w:World) (free all:bZ) (many:Int):World:=(((w.alloc (.cells #[(free.a:Int),(free.b:Int),(free.c:Int),(free.d:Int)] 202)).alloc (.cells #[(all.a:Int),(all.b:Int),(all.c:Int),(all.d:Int)] 202)).alloc (.cells #[many] 3)).alloc (.cells #[false,.slice none 0 0] 279)
theorem iS.made(w:World)(free all:bZ)(many:Int):iS (sG w free all many) w free all many:=by
 refine⟨(((cK.made w _ _ _ _ _).alloc _).alloc _).alloc _,?_,?_,?_,?_,?_,?_⟩
 ·have:=((cK.made (w.alloc (.cells #[(free.a:Int),(free.b:Int),(free.c:Int),(free.d:Int)] 202)) 202 all.a all.b all.c all.d).alloc (.cells #[many] 3)).alloc (.cells #[false,.slice none 0 0] 279)
  simpa using this
 ·go_simp
 ·go_simp
 ·go_simp
 ·go_simp
 ·go_simp
theorem zx(w:World)(free all:bZ)(many:Int):Below w w (sG w free all many):=
 ((((Q0 _ _).alloc (lR) _).alloc (by simp) _).alloc (by simp;omega) _).alloc (by simp;omega) _
def me (u:World) (g:Nat) (L:List Nat):Prop:=∀k,k<L.length->u.cell? ⟨g,k,none⟩=some (.int .u8 (L.getD k 0:Nat))
theorem me.below{g:Nat}{L:List Nat}(h:me u g L)(a:Below K u u')(b:g<K):me u' g L:=λk c=>(a.cell (p:=⟨g,k,none⟩) b).trans (h k c)
def IA (w:World) (l:List (Nat × Bool)) (e:Ending) (w':World):Prop:=∃v,e=.returned (.agg #[false,v])/\ci w' v l/\(∀b o n c,v=.slice (some ⟨b,o,none⟩) n c->w.heap.size<=b)/\Below w w w'
theorem IB(free all:bZ)(nodes:Nat)(many:Int)(w:World)(b:many<=0) :
  Calls prog 166 #[v4 free,v4 all,.int .u8 nodes,many] w λe w'=>e=.returned (.agg #[true,.slice none 0 0])/\Below w w w':=by
 have a:=iS.made w free all many;have d:=a.m;have r0:=a.r0;have r1:=a.r1;have z0:=a.z0;have z1:=a.z1;have c:=qI (zx w free all many);clear a;unfold sG v4 at *
 go_enter func166,ntmps166
 go_wp2_with fail
 (try simp only[Exit.inBlock,Exit.then]);refine bodyPost_ret (v:=.agg #[true,.slice none 0 0]) ?_ rfl ⟨rfl,?_⟩
 ·rw[sB rfl];go_simp
 ·exact ((((Q0 _ _).alloc (lR) _).alloc (by simp) _).alloc (by simp;omega) _).alloc (by simp;omega) _
theorem qo(h:w.ownsRow base e size v n xs)(a:Below w w w'):w'.ownsRow base e size v n xs:=
 h.kept (row:=none) ⟨a.os,a.tape,a.output,a.size,λj b _=>a.block j b⟩ (by cases hv:v.ownBlock <;> simp)
theorem iv(h:w.cell? a=some v)(o:Obj):(w.alloc o).cell? a=some v:=
 (((Q0 w w).alloc (lR) o).cell (Q3 w _ h)).trans h
theorem vm(b:w.cell? a=some v)(h:w.frozen? a=false)(o:Obj):(w.alloc o).frozen? a=false:=
 (((Q0 w w).alloc (lR) o).frozen (Q3 w _ b)).trans h
theorem jQ{v:Value}(h:w.ownsRow base e size v n xs):∃b c,v=.slice b n c:=by
 rcases h.2 with⟨rfl,rfl⟩|⟨g,a,d,rfl,_⟩
 ·exact⟨none,0,rfl⟩
 ·exact⟨_,_,rfl⟩
theorem zy{v:Value}(h:w.ownsRow base e size v n xs)(f:N<=base):∀b o a c,v=.slice (some ⟨b,o,none⟩) a c->N<=b:=by
 intro b o a c d;subst d;exact Q5 f (h.lt b rfl).1
