import Derived.Test.YtbmmnflgnmjboaaGreatDoorK3
import Derived.Test.YtbmmnflgnmjboaaGreatDoorK4
import Derived.Deep.RegionLaw
import Derived.Deep.AppendLies
set_option maxRecDepth 100000
set_option maxHeartbeats 16000000
namespace Go.Proofs.YtbmmnflgnmjboaaGreatDoor
section
open RowKit
open Ost (N4 sumTo cX Sm pop8 gB bJ)
abbrev v4 (q:N4):Value:=.agg #[.int .i64 q.a,.int .i64 q.b,.int .i64 q.c,.int .i64 q.d]
theorem byte_at (t:ByteArray) (m:Nat) (h:m<t.size):t[m]=t.data.toList.getD m 0:=by
 have h2:m<t.data.toList.length:=by simpa using h
 rw [List.getD_eq_getElem?_getD,Qf h2]
 simp
 rfl
def ri:List UInt8:=Lib.pop8tab.data.toList
theorem zt:∀ m:Fin 256,(ri.getD m.val 0).toNat=pop8 m.val:=by decide +kernel
theorem zu (m:Nat) (h:m<Lib.pop8tab.size) (hm:m<256):wrap64 (((Lib.pop8tab[m]'h).toNat:Nat):Int)=(pop8 m:Nat):=by
 rw [byte_at Lib.pop8tab m h];have e:=zt ⟨m,hm⟩;unfold ri at e;rw [e]
 have:=Ost.iJ m
 show wrap64 ((pop8 m:Nat):Int)=_
 unfold wrap64;omega
theorem zv (m:Nat) (w:World) (hm:m<256) :
  Calls Tryz.prog 246 #[.int .u8 m] w λe w'=>e=.returned (.int .i64 (pop8 m:Nat))/\w'=w:=by
 go_enter Tryz.func246,Tryz.ntmps246
 go_wp2_with fail
 rename_i hsz
 go_ret;exact ⟨congrArg (λz=>Ending.returned (.int .i64 z)) (zu m hsz hm),rfl⟩
theorem kx (m:Nat) (w:World) (hm:m<256) :
  Calls Tryz.prog 199 #[.int .u8 m] w λe w'=>e=.returned (.int .i64 (pop8 m:Nat))/\w'=w:=by
 go_enter Tryz.func199,Tryz.ntmps199
 go_wp2_with fail
 refine (zv m _ hm).mono ?_;rintro e w' ⟨rfl,rfl⟩
 go_wp2
 go_ret;exact ⟨rfl,rfl⟩
theorem zw (q:N4) (w:World):∀ k:Nat,k<4->(Instr.index 214 (v4 q) (.int .i64 k)).run Tryz.prog w=.ok (.int .i64 (q.get k)) w:=by
 intro k hk;obtain ⟨x,hx,hxe⟩:=ra q.a q.b q.c q.d w k hk;rw [hx,hxe]
 have:k=0\/k=1\/k=2\/k=3:=by omega
 rcases this with rfl|rfl|rfl|rfl <;> rfl
theorem zx (q:N4) (m:Nat) (w:World) (hm:m<256) (hq:Sm q) :
  Calls Tryz.prog 201 #[v4 q,.int .u8 m] w λe w'=>e=.returned (.int .i64 (cX q m))/\Below w.heap.size w w':=by
 have HB:=qI ((Q0 w.heap.size w).alloc (lR) (.cells #[.int .i64 q.a,.int .i64 q.b,.int .i64 q.c,.int .i64 q.d] 214));have HX:=qI (zw q (w.alloc (.cells #[.int .i64 q.a,.int .i64 q.b,.int .i64 q.c,.int .i64 q.d] 214)));have HQ:=qI hq;clear hq;unfold v4 at *
 go_enter Tryz.func201,Tryz.ntmps201
 go_wp2_with fail
 go_loop [5,9] (λt i=>∃ k:Nat,k<=4/\i=.int .i64 k/\t=.int .i64 (sumTo q m k)) (λ_ i=>4 - (intOf i).toNat)
 case atStart=>exact ⟨0,by omega,rfl,rfl⟩
 case round=>
  obtain ⟨k,hk,rfl,rfl⟩:=hrel
  by_cases hlt:k<4
  ·have hx:=HX.out k hlt;have hb8:=qT m k hm;have HY:=qI (λh=>Ost.yr (q:=q) (m:=m) (k:=k) h);have HN:=qI (λh=>Ost.yt (q:=q) (m:=m) (k:=k) h);obtain ⟨s1,s2⟩:=Ost.yu HQ.out m k;obtain ⟨t1,t2⟩:=HQ.out k;generalize q.get k=x at *
   rcases two (m.testBit k) with hb|hb
   ·rw [hb] at hb8;have HO:=qI (HY.out hb);clear hb
    go_wp2_with fail
    go_round
    case rel=>exact ⟨k+1,by omega,by go_num,by rw [HO.out]⟩
    case measure=>simp [intOf];omega
   ·rw [hb] at hb8;have HO:=qI (HN.out hb);clear hb
    go_wp2_with fail
    go_round
    case rel=>exact ⟨k+1,by omega,by go_num,by rw [HO.out]⟩
    case measure=>simp [intOf];omega
  ·have hk4:k=4:=by omega
   subst hk4;clear hk hlt
   go_wp2
   go_ret;exact ⟨rfl,HB.out⟩
def rj (w:World) (v:Value) (l:List Nat):Prop:=
 (l=[]/\∃ ao c,v=.slice ao 0 c)\/∃ g c,v=.slice (some ⟨g,0,none⟩) l.length c/\g<w.heap.size/\∀ k,k<l.length->w.cell? ⟨g,k,none⟩=some (.int .u8 (l.getD k 0:Nat))
theorem zy:(Tryz.prog.info? 43).map (λi=>(i.zero,i.size,i.bytes))=some (some (.int .u8 0),1,1):=by kernel_rfl
def jP (l:List Nat):List Value:=l.map λ(n:Nat)=>Value.int .u8 (n:Int)
theorem zA (l:List Nat) (n:Nat):jP (l++[n])=jP l++[.int .u8 n]:=by simp [jP]
theorem zB (m n:Nat) (hm:m<16) (hn:n<256):(bits BinOp.andNot IntKind.u8 (m:Int) (n:Int) == 0)=decide (m &&& n=m):=by
 have key:∀ (a:Fin 16) (b:Fin 256),(bits BinOp.andNot IntKind.u8 ((a.val:Nat):Int) ((b.val:Nat):Int) == 0)=decide (a.val &&& b.val=a.val):=by decide +kernel
 exact key ⟨m,hm⟩ ⟨n,hn⟩
def zC (w:World) (nodes:Nat) (e:Ending) (w':World):Prop:=∃ v,e=.returned v/\rj w' v (bJ nodes 16)/\Below w.heap.size w w'
theorem zD (nodes:Nat) (w:World) (hn:nodes<256) :
  Calls Tryz.prog 202 #[.int .u8 nodes] w λe w'=>zC w nodes e w':=by
 obtain ⟨i0,hi,hz0,hz1,hz2⟩:=info_parts zy
 go_enter Tryz.func202,Tryz.ntmps202
 go_wp2
 go_loopw [3,4] (λv i wr=>∃ k:Nat,1<=k/\k<=16/\i=.int .u8 k/\wr.ownsRow w.heap.size 43 1 v (bJ nodes k).length (jP (bJ nodes k))/\Below w.heap.size w wr) (λ_ i _=>16 - (intOf i).toNat)
 case atStart=>exact ⟨1,by omega,by omega,rfl,Qw _ _ _ _,Q0 _ _⟩
 case round=>
  obtain ⟨k,hk1,hk,rfl,hrow,hnx⟩:=hrel
  by_cases hlt:k<16
  ·have hle:=Ost.nP nodes k;have hsz:=hnx.size;have HB:=zB k nodes hlt hn
   rcases two (decide (k &&& nodes=k)) with hb|hb
   ·have HS:Hid (bJ nodes (k+1)=bJ nodes k++[k]):=Ost.yv (by unfold gB;rw [hb,Qc hk1];rfl);rw [hb] at HB;clear hb
    go_wp2_with (at_builtin;refine wpList_append_own _ rfl _ _ 309 rfl w.heap.size 43 i0 (.int .u8 0) 1 1 Tryz.underlying309 hi hz0 hz1 hz2 rfl (by decide) _ _ _ rfl (hrow.alloc _) ⟨_,0,none⟩ 1 1 [.int .u8 k] rfl rfl (cell_one_new _ _ _) (ints_oneCell .u8 [(k:Int)]) (by unfold maxLen;omega) (by omega) (by simp;omega) ?_;intro v' w1 hown' hgrow' _)
    go_roundw
    case rel=>
     refine ⟨k+1,by omega,by omega,by go_num,?_,?_⟩
     ·rw [HS.out,zA,Q2];exact hown'
     ·exact (hnx.alloc hsz _).grown hgrow' (by simp;omega) (λj hj=>(hrow.lt j hj).1)
    case measure=>simp [intOf];omega
   ·have HS:Hid (bJ nodes (k+1)=bJ nodes k):=Ost.yw (by unfold gB;rw [hb];simp);rw [hb] at HB;clear hb
    go_wp2
    go_roundw
    case rel=>
     refine ⟨k+1,by omega,by omega,by go_num,?_,hnx⟩;rw [HS.out];exact hrow
    case measure=>simp [intOf];omega
  ·have hk16:k=16:=by omega
   subst hk16;clear hk hlt;have HM:Hid (∀ v,wr.ownsRow w.heap.size 43 1 v (bJ nodes 16).length (jP (bJ nodes 16))->rj wr v (bJ nodes 16)):=by
    intro v hrow
    rcases hrow.2 with ⟨rfl,h0⟩|⟨g,cap,cur,rfl,hg,_⟩
    ·exact .inl ⟨Qe h0,none,0,rfl⟩
    ·refine .inr ⟨g,cap,rfl,(hrow.lt g rfl).2,λk hk=>?_⟩;rw [hrow.cellAt k (by omega)]
     simp [jP,hk]
   go_wp2
   go_ret;exact ⟨_,rfl,HM.out _ hrow,hnx⟩
end
section
open RowKit
open Ost (N4 sumTo cX Sm pop8 gB bJ ek cN ii)
theorem nT (q:N4) (m:Nat) (many:Int) (B:Nat) (w:World) (hm:m<256) (hq:Sm q) (hB:w.cell? ⟨B,0,none⟩=some (.int .i64 many)) :
  Calls Tryz.prog 200 #[v4 q,.int .u8 m,.pointer (some ⟨B,0,none⟩)] w λe w'=>e=.returned (.bool (decide (many<=cX q m)))/\Below w.heap.size w w':=by
 have hB0:=qI ((Q0 w.heap.size w).alloc (lR) (.cells #[.int .i64 q.a,.int .i64 q.b,.int .i64 q.c,.int .i64 q.d] 214));have hlt:=Q3 w _ hB;have hcb:=(hB0.out.cell (p:=⟨B,0,none⟩) hlt).trans hB;have hl1:=qI (Q1 hlt hB0.out.size);have f4:=bK.made w 214 q.a q.b q.c q.d;have c0:=f4.c0;have c1:=f4.c1;have c2:=f4.c2;have c3:=f4.c3;have HT:=qI (zx q m);clear f4 hB hlt;unfold v4 at *
 go_enter Tryz.func200,Tryz.ntmps200
 go_wp2_with fail
 go_region_with (go_at_call 201;go_loud (refine (HT.out _ hm hq).mono ?_;rintro e w' ⟨rfl,hb⟩;have hc2:=(hb.cell (p:=⟨B,0,none⟩) hl1.out).trans hcb;have hB3:=qI (hB0.out.drew.trans (hb.mono hB0.out.size))))
 all_goals
  go_wp2
  go_ret
  first
   | exact ⟨rfl,hB3.out⟩
   | exact ⟨rfl,hB3.out.drew⟩
def dE (l:List (Nat × Bool)):List Value:=l.flatMap λh=>[.int .u8 (h.1:Nat),.bool h.2]
theorem lY (l:List (Nat × Bool)) (h:Nat × Bool):dE (l++[h])=dE l++[.int .u8 (h.1:Nat),.bool h.2]:=by simp [dE]
theorem zE (l:List (Nat × Bool)) (k:Nat) (hk:k<l.length):(dE l)[k*2]?=some (.int .u8 ((l.getD k (0,false)).1:Nat))/\(dE l)[k*2+1]?=some (.bool (l.getD k (0,false)).2):=by
 induction l generalizing k with
 | nil=>simp at hk
 | cons a r ih=>
  cases k with
  | zero=>simp [dE]
  | succ k=>
   have:=ih k (by simpa using hk)
   have e:dE (a :: r)=[.int .u8 (a.1:Nat),.bool a.2]++dE r:=rfl;rw [e,show (k+1)*2=k*2+2 by omega]
   simpa using this
def bo (w:World) (v:Value) (l:List (Nat × Bool)):Prop:=
 (l=[]/\∃ ao c,v=.slice ao 0 c)\/∃ b o c,v=.slice (some ⟨b,o,none⟩) l.length c/\b<w.heap.size/\∀ k,k<l.length->w.cell? ⟨b,o+k*2,none⟩=some (.int .u8 ((l.getD k (0,false)).1:Nat))/\w.cell? ⟨b,o+k*2+1,none⟩=some (.bool (l.getD k (0,false)).2)
theorem bo.below {w w':World} {v:Value} {l:List (Nat × Bool)} (h:bo w v l) (hb:Below w.heap.size w w'):bo w' v l:=by
 rcases h with h|⟨b,o,c,hv,hlt,hc⟩
 ·exact .inl h
 ·refine .inr ⟨b,o,c,hv,Q1 hlt hb.size,λk hk=>?_⟩;obtain ⟨h1,h2⟩:=hc k hk;exact ⟨(hb.cell (p:=⟨b,o+k*2,none⟩) hlt).trans h1,(hb.cell (p:=⟨b,o+k*2+1,none⟩) hlt).trans h2⟩
theorem bo.of_row {w:World} {base:Nat} {e:TypeId} {v:Value} {l:List (Nat × Bool)} (h:w.ownsRow base e 2 v l.length (dE l)):bo w v l:=by
 rcases h.2 with ⟨rfl,h0⟩|⟨g,cap,cur,rfl,hg,_⟩
 ·exact .inl ⟨Qe h0,none,0,rfl⟩
 ·refine .inr ⟨g,0,cap,rfl,(h.lt g rfl).2,λk hk=>?_⟩;obtain ⟨c0,c1⟩:=zE l k hk;rw [Qd,h.cellAt (k*2) (by omega),h.cellAt (k*2+1) (by omega)];exact ⟨c0,c1⟩
theorem rk:(Tryz.prog.info? 223).map (λi=>(i.zero,i.size,i.bytes))=some (some (.agg #[.int .u8 0,.bool false]),2,2):=by kernel_rfl
structure fh (u:World) (N:Nat) (free all:N4) (many:Int):Prop where
 f:bK u N free.a free.b free.c free.d
 a:bK u (N+1) all.a all.b all.c all.d
 m:u.cell? ⟨N+2,0,none⟩=some (.int .i64 many)
 r0:u.cell? ⟨N+3,0,none⟩=some (.bool false)
 r1:u.cell? ⟨N+3,1,none⟩=some (.slice none 0 0)
 z0:u.frozen? ⟨N+3,0,none⟩=false
 z1:u.frozen? ⟨N+3,1,none⟩=false
theorem fh.lt {u:World} {N:Nat} {free all:N4} {many:Int} (h:fh u N free all many):N+3<u.heap.size:=Q3 u _ h.r0
theorem fh.below {u u':World} {N K:Nat} {free all:N4} {many:Int} (h:fh u N free all many) (hb:Below K u u') (hK:N+4<=K):fh u' N free all many:=
 ⟨h.f.below hb (by omega),h.a.below hb (by omega),(hb.cell (p:=⟨N+2,0,none⟩) (by show N+2<K;omega)).trans h.m,(hb.cell (p:=⟨N+3,0,none⟩) (by show N+3<K;omega)).trans h.r0,(hb.cell (p:=⟨N+3,1,none⟩) (by show N+3<K;omega)).trans h.r1,(hb.frozen (p:=⟨N+3,0,none⟩) (by show N+3<K;omega)).trans h.z0,(hb.frozen (p:=⟨N+3,1,none⟩) (by show N+3<K;omega)).trans h.z1⟩
abbrev lZ (w:World) (free all:N4) (many:Int):World:=(((w.alloc (.cells #[.int .i64 free.a,.int .i64 free.b,.int .i64 free.c,.int .i64 free.d] 214)).alloc (.cells #[.int .i64 all.a,.int .i64 all.b,.int .i64 all.c,.int .i64 all.d] 214)).alloc (.cells #[.int .i64 many] 3)).alloc (.cells #[.bool false,.slice none 0 0] 270)
theorem fh.made (w:World) (free all:N4) (many:Int):fh (lZ w free all many) w.heap.size free all many:=by
 refine ⟨(((bK.made w _ _ _ _ _).alloc _).alloc _).alloc _,?_,?_,?_,?_,?_,?_⟩
 ·have:=((bK.made (w.alloc (.cells #[.int .i64 free.a,.int .i64 free.b,.int .i64 free.c,.int .i64 free.d] 214)) 214 all.a all.b all.c all.d).alloc (.cells #[.int .i64 many] 3)).alloc (.cells #[.bool false,.slice none 0 0] 270)
  simpa using this
 ·go_simp
 ·go_simp
 ·go_simp
 ·go_simp
 ·go_simp
theorem rl (w:World) (free all:N4) (many:Int):Below w.heap.size w (lZ w free all many):=
 ((((Q0 _ _).alloc (lR) _).alloc (by simp) _).alloc (by simp;omega) _).alloc (by simp;omega) _
def iK (u:World) (g:Nat) (L:List Nat):Prop:=∀ k,k<L.length->u.cell? ⟨g,k,none⟩=some (.int .u8 (L.getD k 0:Nat))
theorem iK.below {u u':World} {g K:Nat} {L:List Nat} (h:iK u g L) (hb:Below K u u') (hK:g<K):iK u' g L:=λk hk=>(hb.cell (p:=⟨g,k,none⟩) hK).trans (h k hk)
def zF (w:World) (l:List (Nat × Bool)) (e:Ending) (w':World):Prop:=∃ v,e=.returned (.agg #[.bool false,v])/\bo w' v l/\(∀ b o n c,v=.slice (some ⟨b,o,none⟩) n c->w.heap.size<=b)/\Below w.heap.size w w'
theorem zG (free all:N4) (nodes:Nat) (many:Int) (w:World) (hmany:many<=0) :
  Calls Tryz.prog 162 #[v4 free,v4 all,.int .u8 nodes,.int .i64 many] w λe w'=>e=.returned (.agg #[.bool true,.slice none 0 0])/\Below w.heap.size w w':=by
 have hE:=fh.made w free all many;have hc:=hE.m;have r0:=hE.r0;have r1:=hE.r1;have z0:=hE.z0;have z1:=hE.z1;have HB:=qI (rl w free all many);clear hE;unfold lZ v4 at *
 go_enter Tryz.func162,Tryz.ntmps162
 go_wp2_with fail
 (try simp only [Exit.inBlock,Exit.then]);refine bodyPost_ret (v:=.agg #[.bool true,.slice none 0 0]) ?_ rfl ⟨rfl,?_⟩
 ·rw [lU rfl];go_simp
 ·exact ((((Q0 _ _).alloc (lR) _).alloc (by simp) _).alloc (by simp;omega) _).alloc (by simp;omega) _
theorem ky {w w':World} {base:Nat} {e:TypeId} {size:Nat} {v:Value} {n:Nat} {xs:List Value} (h:w.ownsRow base e size v n xs) (hb:Below w.heap.size w w'):w'.ownsRow base e size v n xs:=
 h.kept (row:=none) ⟨hb.os,hb.tape,hb.output,hb.size,λj hj _=>hb.block j hj⟩ (by cases hv:v.ownBlock <;> simp)
theorem eP {w:World} {a:Addr} {v:Value} (h:w.cell? a=some v) (o:Obj):(w.alloc o).cell? a=some v:=
 (((Q0 w.heap.size w).alloc (lR) o).cell (Q3 w _ h)).trans h
theorem nU {w:World} {a:Addr} {v:Value} (hc:w.cell? a=some v) (h:w.frozen? a=false) (o:Obj):(w.alloc o).frozen? a=false:=
 (((Q0 w.heap.size w).alloc (lR) o).frozen (Q3 w _ hc)).trans h
theorem fS {w:World} {base:Nat} {e:TypeId} {size:Nat} {v:Value} {n:Nat} {xs:List Value} (h:w.ownsRow base e size v n xs):∃ ao c,v=.slice ao n c:=by
 rcases h.2 with ⟨rfl,rfl⟩|⟨g,cap,cur,rfl,_⟩
 ·exact ⟨none,0,rfl⟩
 ·exact ⟨_,_,rfl⟩
theorem rm {w:World} {base N:Nat} {e:TypeId} {size:Nat} {v:Value} {n:Nat} {xs:List Value} (h:w.ownsRow base e size v n xs) (hN:N<=base):∀ b o n' c,v=.slice (some ⟨b,o,none⟩) n' c->N<=b:=by
 intro b o n' c hv;subst hv;exact Q5 hN (h.lt b rfl).1
end
