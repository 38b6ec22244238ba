import Derived.Test.YtbmmnflgnmjboaaGreatDoorR3
import Derived.Test.YtbmmnflgnmjboaaGreatDoorR4
import Derived.Deep.RegionLaw
import Derived.Deep.AppendLies
set_option maxRecDepth 100000
set_option maxHeartbeats 16000000
namespace Go.Proofs.YtbmmnflgnmjboaaGreatDoor
section
open RowKit
open Ost (N4 sumTo de Sm pop8 gR bI)
abbrev v4 (q:N4):Value:=.agg #[.int .i64 q.a,.int .i64 q.b,.int .i64 q.c,.int .i64 q.d]
theorem byte_at (t:ByteArray) (m:Nat) (h:m<t.size):t[m]=t.data.toList.getD m 0:=by
 have h2:m<t.data.toList.length:=by simpa using h
 rw [List.getD_eq_getElem?_getD,Qf h2]
 simp
 rfl
def tO:List UInt8:=Lib.pop8tab.data.toList
theorem BR:∀ m:Fin 256,(tO.getD m.val 0).toNat=pop8 m.val:=by decide +kernel
theorem BS (m:Nat) (h:m<Lib.pop8tab.size) (hm:m<256):wrap64 (((Lib.pop8tab[m]'h).toNat:Nat):Int)=(pop8 m:Nat):=by
 rw [byte_at Lib.pop8tab m h];have e:=BR ⟨m,hm⟩;unfold tO at e;rw [e]
 have:=Ost.jk m
 show wrap64 ((pop8 m:Nat):Int)=_
 unfold wrap64;omega
theorem BU (m:Nat) (w:World) (hm:m<256) :
  Calls Tryz.prog 246 #[.int .u8 m] w λe w'=>e=.returned (.int .i64 (pop8 m:Nat))/\w'=w:=by
 go_enter Tryz.func246,Tryz.ntmps246
 go_wp2_with fail
 rename_i hsz
 go_ret;exact ⟨congrArg (λz=>Ending.returned (.int .i64 z)) (BS m hsz hm),rfl⟩
theorem lW (m:Nat) (w:World) (hm:m<256) :
  Calls Tryz.prog 199 #[.int .u8 m] w λe w'=>e=.returned (.int .i64 (pop8 m:Nat))/\w'=w:=by
 go_enter Tryz.func199,Tryz.ntmps199
 go_wp2_with fail
 refine (BU m _ hm).mono ?_;rintro e w' ⟨rfl,rfl⟩
 go_wp2
 go_ret;exact ⟨rfl,rfl⟩
theorem BV (q:N4) (w:World):∀ k:Nat,k<4->(Instr.index 214 (v4 q) (.int .i64 k)).run Tryz.prog w=.ok (.int .i64 (q.get k)) w:=by
 intro k hk;obtain ⟨x,hx,hxe⟩:=tJ q.a q.b q.c q.d w k hk;rw [hx,hxe]
 have:k=0\/k=1\/k=2\/k=3:=by omega
 rcases this with rfl|rfl|rfl|rfl <;> rfl
theorem BW (q:N4) (m:Nat) (w:World) (hm:m<256) (hq:Sm q) :
  Calls Tryz.prog 201 #[v4 q,.int .u8 m] w λe w'=>e=.returned (.int .i64 (de q m))/\Below w.heap.size w w':=by
 have HB:=qI ((Q0 w.heap.size w).alloc (lR) (.cells #[.int .i64 q.a,.int .i64 q.b,.int .i64 q.c,.int .i64 q.d] 214));have HX:=qI (BV q (w.alloc (.cells #[.int .i64 q.a,.int .i64 q.b,.int .i64 q.c,.int .i64 q.d] 214)));have HQ:=qI hq;clear hq;unfold v4 at *
 go_enter Tryz.func201,Tryz.ntmps201
 go_wp2_with fail
 go_loop [5,9] (λt i=>∃ k:Nat,k<=4/\i=.int .i64 k/\t=.int .i64 (sumTo q m k)) (λ_ i=>4 - (intOf i).toNat)
 case atStart=>exact ⟨0,by omega,rfl,rfl⟩
 case round=>
  obtain ⟨k,hk,rfl,rfl⟩:=hrel
  by_cases hlt:k<4
  ·have hx:=HX.out k hlt;have Ha:=tC m k hm;have HY:=qI (λh=>Ost.AM (q:=q) (m:=m) (k:=k) h);have HN:=qI (λh=>Ost.AN (q:=q) (m:=m) (k:=k) h);obtain ⟨s1,s2⟩:=Ost.AO HQ.out m k;obtain ⟨t1,t2⟩:=HQ.out k;generalize q.get k=x at *
   rcases two (m.testBit k) with hb|hb
   ·rw [hb] at Ha;have HO:=qI (HY.out hb);clear hb
    go_wp2_with fail
    go_round
    case rel=>exact ⟨k+1,by omega,by go_num,by rw [HO.out]⟩
    case measure=>simp [intOf];omega
   ·rw [hb] at Ha;have HO:=qI (HN.out hb);clear hb
    go_wp2_with fail
    go_round
    case rel=>exact ⟨k+1,by omega,by go_num,by rw [HO.out]⟩
    case measure=>simp [intOf];omega
  ·have Hb:k=4:=by omega
   subst Hb;clear hk hlt
   go_wp2
   go_ret;exact ⟨rfl,HB.out⟩
def tP (w:World) (v:Value) (l:List Nat):Prop:=
 (l=[]/\∃ ao c,v=.slice ao 0 c)\/∃ g c,v=.slice (some ⟨g,0,none⟩) l.length c/\g<w.heap.size/\∀ k,k<l.length->w.cell? ⟨g,k,none⟩=some (.int .u8 (l.getD k 0:Nat))
theorem BX:(Tryz.prog.info? 43).map (λi=>(i.zero,i.size,i.bytes))=some (some (.int .u8 0),1,1):=by kernel_rfl
def kP (l:List Nat):List Value:=l.map λ(n:Nat)=>Value.int .u8 (n:Int)
theorem BY (l:List Nat) (n:Nat):kP (l++[n])=kP l++[.int .u8 n]:=by simp [kP]
theorem BZ (m n:Nat) (hm:m<16) (hn:n<256):(bits BinOp.andNot IntKind.u8 (m:Int) (n:Int) == 0)=decide (m &&& n=m):=by
 have key:∀ (a:Fin 16) (b:Fin 256),(bits BinOp.andNot IntKind.u8 ((a.val:Nat):Int) ((b.val:Nat):Int) == 0)=decide (a.val &&& b.val=a.val):=by decide +kernel
 exact key ⟨m,hm⟩ ⟨n,hn⟩
def B0 (w:World) (nodes:Nat) (e:Ending) (w':World):Prop:=∃ v,e=.returned v/\tP w' v (bI nodes 16)/\Below w.heap.size w w'
theorem B4 (nodes:Nat) (w:World) (hn:nodes<256) :
  Calls Tryz.prog 202 #[.int .u8 nodes] w λe w'=>B0 w nodes e w':=by
 obtain ⟨i0,hi,Hh,Hi,Hk⟩:=info_parts BX
 go_enter Tryz.func202,Tryz.ntmps202
 go_wp2
 go_loopw [3,4] (λv i wr=>∃ k:Nat,1<=k/\k<=16/\i=.int .u8 k/\wr.ownsRow w.heap.size 43 1 v (bI nodes k).length (kP (bI nodes k))/\Below w.heap.size w wr) (λ_ i _=>16 - (intOf i).toNat)
 case atStart=>exact ⟨1,by omega,by omega,rfl,Qw _ _ _ _,Q0 _ _⟩
 case round=>
  obtain ⟨k,Hg,hk,rfl,Ha,He⟩:=hrel
  by_cases hlt:k<16
  ·have hle:=Ost.pO nodes k;have Hj:=He.size;have HB:=BZ k nodes hlt hn
   rcases two (decide (k &&& nodes=k)) with hb|hb
   ·have HS:Hid (bI nodes (k+1)=bI nodes k++[k]):=Ost.AP (by unfold gR;rw [hb,Qc Hg];rfl);rw [hb] at HB;clear hb
    go_wp2_with (at_builtin;refine wpList_append_own _ rfl _ _ 309 rfl w.heap.size 43 i0 (.int .u8 0) 1 1 Tryz.underlying309 hi Hh Hi Hk rfl (by decide) _ _ _ rfl (Ha.alloc _) ⟨_,0,none⟩ 1 1 [.int .u8 k] rfl rfl (cell_one_new _ _ _) (ints_oneCell .u8 [(k:Int)]) (by unfold maxLen;omega) (by omega) (by simp;omega) ?_;intro v' w1 Hc Hb _)
    go_roundw
    case rel=>
     refine ⟨k+1,by omega,by omega,by go_num,?_,?_⟩
     ·rw [HS.out,BY,Q2];exact Hc
     ·exact (He.alloc Hj _).grown Hb (by simp;omega) (λj hj=>(Ha.lt j hj).1)
    case measure=>simp [intOf];omega
   ·have HS:Hid (bI nodes (k+1)=bI nodes k):=Ost.AQ (by unfold gR;rw [hb];simp);rw [hb] at HB;clear hb
    go_wp2
    go_roundw
    case rel=>
     refine ⟨k+1,by omega,by omega,by go_num,?_,He⟩;rw [HS.out];exact Ha
    case measure=>simp [intOf];omega
  ·have Hf:k=16:=by omega
   subst Hf;clear hk hlt;have HM:Hid (∀ v,wr.ownsRow w.heap.size 43 1 v (bI nodes 16).length (kP (bI nodes 16))->tP wr v (bI nodes 16)):=by
    intro v Ha
    rcases Ha.2 with ⟨rfl,h0⟩|⟨g,cap,cur,rfl,hg,_⟩
    ·exact .inl ⟨Qe h0,none,0,rfl⟩
    ·refine .inr ⟨g,cap,rfl,(Ha.lt g rfl).2,λk hk=>?_⟩;rw [Ha.cellAt k (by omega)]
     simp [kP,hk]
   go_wp2
   go_ret;exact ⟨_,rfl,HM.out _ Ha,He⟩
end
section
open RowKit
open Ost (N4 sumTo de Sm pop8 gR bI ey cQ iD)
theorem pT (q:N4) (m:Nat) (many:Int) (B:Nat) (w:World) (hm:m<256) (hq:Sm q) (hB:w.cell? ⟨B,0,none⟩=some (.int .i64 many)) :
  Calls Tryz.prog 200 #[v4 q,.int .u8 m,.pointer (some ⟨B,0,none⟩)] w λe w'=>e=.returned (.bool (decide (many<=de q m)))/\Below w.heap.size w w':=by
 have Ha:=qI ((Q0 w.heap.size w).alloc (lR) (.cells #[.int .i64 q.a,.int .i64 q.b,.int .i64 q.c,.int .i64 q.d] 214));have Hb:=Q3 w _ hB;have He:=(Ha.out.cell (p:=⟨B,0,none⟩) Hb).trans hB;have Hf:=qI (Q1 Hb Ha.out.size);have f4:=bJ.made w 214 q.a q.b q.c q.d;have c0:=f4.c0;have c1:=f4.c1;have c2:=f4.c2;have c3:=f4.c3;have HT:=qI (BW q m);clear f4 hB Hb;unfold v4 at *
 go_enter Tryz.func200,Tryz.ntmps200
 go_wp2_with fail
 go_region_with (go_at_call 201;go_loud (refine (HT.out _ hm hq).mono ?_;rintro e w' ⟨rfl,hb⟩;have Hg:=(hb.cell (p:=⟨B,0,none⟩) Hf.out).trans He;have Hc:=qI (Ha.out.drew.trans (hb.mono Ha.out.size))))
 all_goals
  go_wp2
  go_ret
  first
   | exact ⟨rfl,Hc.out⟩
   | exact ⟨rfl,Hc.out.drew⟩
def dM (l:List (Nat × Bool)):List Value:=l.flatMap λh=>[.int .u8 (h.1:Nat),.bool h.2]
theorem nO (l:List (Nat × Bool)) (h:Nat × Bool):dM (l++[h])=dM l++[.int .u8 (h.1:Nat),.bool h.2]:=by simp [dM]
theorem B5 (l:List (Nat × Bool)) (k:Nat) (hk:k<l.length):(dM l)[k*2]?=some (.int .u8 ((l.getD k (0,false)).1:Nat))/\(dM l)[k*2+1]?=some (.bool (l.getD k (0,false)).2):=by
 induction l generalizing k with
 | nil=>simp at hk
 | cons a r ih=>
  cases k with
  | zero=>simp [dM]
  | succ k=>
   have:=ih k (by simpa using hk)
   have e:dM (a :: r)=[.int .u8 (a.1:Nat),.bool a.2]++dM r:=rfl;rw [e,show (k+1)*2=k*2+2 by omega]
   simpa using this
def bm (w:World) (v:Value) (l:List (Nat × Bool)):Prop:=
 (l=[]/\∃ ao c,v=.slice ao 0 c)\/∃ b o c,v=.slice (some ⟨b,o,none⟩) l.length c/\b<w.heap.size/\∀ k,k<l.length->w.cell? ⟨b,o+k*2,none⟩=some (.int .u8 ((l.getD k (0,false)).1:Nat))/\w.cell? ⟨b,o+k*2+1,none⟩=some (.bool (l.getD k (0,false)).2)
theorem bm.below {w w':World} {v:Value} {l:List (Nat × Bool)} (h:bm w v l) (hb:Below w.heap.size w w'):bm w' v l:=by
 rcases h with h|⟨b,o,c,hv,Ha,hc⟩
 ·exact .inl h
 ·refine .inr ⟨b,o,c,hv,Q1 Ha hb.size,λk hk=>?_⟩;obtain ⟨h1,h2⟩:=hc k hk;exact ⟨(hb.cell (p:=⟨b,o+k*2,none⟩) Ha).trans h1,(hb.cell (p:=⟨b,o+k*2+1,none⟩) Ha).trans h2⟩
theorem bm.of_row {w:World} {base:Nat} {e:TypeId} {v:Value} {l:List (Nat × Bool)} (h:w.ownsRow base e 2 v l.length (dM l)):bm w v l:=by
 rcases h.2 with ⟨rfl,h0⟩|⟨g,cap,cur,rfl,hg,_⟩
 ·exact .inl ⟨Qe h0,none,0,rfl⟩
 ·refine .inr ⟨g,0,cap,rfl,(h.lt g rfl).2,λk hk=>?_⟩;obtain ⟨c0,c1⟩:=B5 l k hk;rw [Qd,h.cellAt (k*2) (by omega),h.cellAt (k*2+1) (by omega)];exact ⟨c0,c1⟩
theorem tQ:(Tryz.prog.info? 223).map (λi=>(i.zero,i.size,i.bytes))=some (some (.agg #[.int .u8 0,.bool false]),2,2):=by kernel_rfl
structure fx (u:World) (N:Nat) (free all:N4) (many:Int):Prop where
 f:bJ u N free.a free.b free.c free.d
 a:bJ u (N+1) all.a all.b all.c all.d
 m:u.cell? ⟨N+2,0,none⟩=some (.int .i64 many)
 r0:u.cell? ⟨N+3,0,none⟩=some (.bool false)
 r1:u.cell? ⟨N+3,1,none⟩=some (.slice none 0 0)
 z0:u.frozen? ⟨N+3,0,none⟩=false
 z1:u.frozen? ⟨N+3,1,none⟩=false
theorem fx.lt {u:World} {N:Nat} {free all:N4} {many:Int} (h:fx u N free all many):N+3<u.heap.size:=Q3 u _ h.r0
theorem fx.below {u u':World} {N K:Nat} {free all:N4} {many:Int} (h:fx u N free all many) (hb:Below K u u') (hK:N+4<=K):fx u' N free all many:=
 ⟨h.f.below hb (by omega),h.a.below hb (by omega),(hb.cell (p:=⟨N+2,0,none⟩) (by show N+2<K;omega)).trans h.m,(hb.cell (p:=⟨N+3,0,none⟩) (by show N+3<K;omega)).trans h.r0,(hb.cell (p:=⟨N+3,1,none⟩) (by show N+3<K;omega)).trans h.r1,(hb.frozen (p:=⟨N+3,0,none⟩) (by show N+3<K;omega)).trans h.z0,(hb.frozen (p:=⟨N+3,1,none⟩) (by show N+3<K;omega)).trans h.z1⟩
abbrev nP (w:World) (free all:N4) (many:Int):World:=(((w.alloc (.cells #[.int .i64 free.a,.int .i64 free.b,.int .i64 free.c,.int .i64 free.d] 214)).alloc (.cells #[.int .i64 all.a,.int .i64 all.b,.int .i64 all.c,.int .i64 all.d] 214)).alloc (.cells #[.int .i64 many] 3)).alloc (.cells #[.bool false,.slice none 0 0] 270)
theorem fx.made (w:World) (free all:N4) (many:Int):fx (nP w free all many) w.heap.size free all many:=by
 refine ⟨(((bJ.made w _ _ _ _ _).alloc _).alloc _).alloc _,?_,?_,?_,?_,?_,?_⟩
 ·have:=((bJ.made (w.alloc (.cells #[.int .i64 free.a,.int .i64 free.b,.int .i64 free.c,.int .i64 free.d] 214)) 214 all.a all.b all.c all.d).alloc (.cells #[.int .i64 many] 3)).alloc (.cells #[.bool false,.slice none 0 0] 270)
  simpa using this
 ·go_simp
 ·go_simp
 ·go_simp
 ·go_simp
 ·go_simp
theorem tR (w:World) (free all:N4) (many:Int):Below w.heap.size w (nP w free all many):=
 ((((Q0 _ _).alloc (lR) _).alloc (by simp) _).alloc (by simp;omega) _).alloc (by simp;omega) _
def jl (u:World) (g:Nat) (L:List Nat):Prop:=∀ k,k<L.length->u.cell? ⟨g,k,none⟩=some (.int .u8 (L.getD k 0:Nat))
theorem jl.below {u u':World} {g K:Nat} {L:List Nat} (h:jl u g L) (hb:Below K u u') (hK:g<K):jl u' g L:=λk hk=>(hb.cell (p:=⟨g,k,none⟩) hK).trans (h k hk)
def B6 (w:World) (l:List (Nat × Bool)) (e:Ending) (w':World):Prop:=∃ v,e=.returned (.agg #[.bool false,v])/\bm w' v l/\(∀ b o n c,v=.slice (some ⟨b,o,none⟩) n c->w.heap.size<=b)/\Below w.heap.size w w'
theorem B7 (free all:N4) (nodes:Nat) (many:Int) (w:World) (hmany:many<=0) :
  Calls Tryz.prog 162 #[v4 free,v4 all,.int .u8 nodes,.int .i64 many] w λe w'=>e=.returned (.agg #[.bool true,.slice none 0 0])/\Below w.heap.size w w':=by
 have hE:=fx.made w free all many;have hc:=hE.m;have r0:=hE.r0;have r1:=hE.r1;have z0:=hE.z0;have z1:=hE.z1;have HB:=qI (tR w free all many);clear hE;unfold nP v4 at *
 go_enter Tryz.func162,Tryz.ntmps162
 go_wp2_with fail
 (try simp only [Exit.inBlock,Exit.then]);refine bodyPost_ret (v:=.agg #[.bool true,.slice none 0 0]) ?_ rfl ⟨rfl,?_⟩
 ·rw [nK rfl];go_simp
 ·exact ((((Q0 _ _).alloc (lR) _).alloc (by simp) _).alloc (by simp;omega) _).alloc (by simp;omega) _
theorem iE {w w':World} {base:Nat} {e:TypeId} {size:Nat} {v:Value} {n:Nat} {xs:List Value} (h:w.ownsRow base e size v n xs) (hb:Below w.heap.size w w'):w'.ownsRow base e size v n xs:=
 h.kept (row:=none) ⟨hb.os,hb.tape,hb.output,hb.size,λj hj _=>hb.block j hj⟩ (by cases hv:v.ownBlock <;> simp)
theorem eY {w:World} {a:Addr} {v:Value} (h:w.cell? a=some v) (o:Obj):(w.alloc o).cell? a=some v:=
 (((Q0 w.heap.size w).alloc (lR) o).cell (Q3 w _ h)).trans h
theorem pU {w:World} {a:Addr} {v:Value} (hc:w.cell? a=some v) (h:w.frozen? a=false) (o:Obj):(w.alloc o).frozen? a=false:=
 (((Q0 w.heap.size w).alloc (lR) o).frozen (Q3 w _ hc)).trans h
theorem gw {w:World} {base:Nat} {e:TypeId} {size:Nat} {v:Value} {n:Nat} {xs:List Value} (h:w.ownsRow base e size v n xs):∃ ao c,v=.slice ao n c:=by
 rcases h.2 with ⟨rfl,rfl⟩|⟨g,cap,cur,rfl,_⟩
 ·exact ⟨none,0,rfl⟩
 ·exact ⟨_,_,rfl⟩
theorem tS {w:World} {base N:Nat} {e:TypeId} {size:Nat} {v:Value} {n:Nat} {xs:List Value} (h:w.ownsRow base e size v n xs) (hN:N<=base):∀ b o n' c,v=.slice (some ⟨b,o,none⟩) n' c->N<=b:=by
 intro b o n' c hv;subst hv;exact Q5 hN (h.lt b rfl).1
end
