import Derived.Deep.SlicePairs
import Derived.Laws.IdiomArrays
import Derived.Test.YtbmmnflgnmjboaaGreatDoorR4
import Derived.Deep.RegionLaw
import Derived.Deep.AppendLies
set_option maxRecDepth 100000
set_option maxHeartbeats 16000000
open Go.Proofs.Tryz
namespace Go.Proofs.YtbmmnflgnmjboaaGreatDoor
section
open RowKit
open Ost (N4 sumTo de Sm pop8 gR bI)
abbrev v4 (q:N4):Value:=.agg #[.int .i64 q.a,.int .i64 q.b,.int .i64 q.c,.int .i64 q.d]
theorem byte_at (t:ByteArray) (m:Nat) (h:m<t.size):t[m]=t.data.toList.getD m 0:=by
 have h2:m<t.data.toList.length:=by simpa using h
 rw [List.getD_eq_getElem?_getD,Qf h2]
 simp
 rfl
def tO:List UInt8:=Lib.pop8tab.data.toList
theorem BR:∀ m:Fin 256,(tO.getD m.val 0).toNat=pop8 m.val:=by decide +kernel
theorem BS (m:Nat) (h:m<Lib.pop8tab.size) (hm:m<256):wrap64 (((Lib.pop8tab[m]'h).toNat:Nat):Int)=(pop8 m:Nat):=by
 rw [byte_at Lib.pop8tab m h];have e:=BR ⟨m,hm⟩;unfold tO at e;rw [e]
 have:=Ost.jk m
 show wrap64 ((pop8 m:Nat):Int)=_
 unfold wrap64;omega
theorem BU (m:Nat) (w:World) (hm:m<256) :
  Calls prog 246 #[.int .u8 m] w λe w'=>e=.returned (.int .i64 (pop8 m:Nat))/\w'=w:=by
 go_enter func246,ntmps246
 go_wp2_with fail
 rename_i hsz
 go_ret;exact ⟨congrArg (λz=>Ending.returned (.int .i64 z)) (BS m hsz hm),rfl⟩
theorem lW (m:Nat) (w:World) (hm:m<256) :
  Calls prog 199 #[.int .u8 m] w λe w'=>e=.returned (.int .i64 (pop8 m:Nat))/\w'=w:=by
 go_enter func199,ntmps199
 go_wp2_with fail
 refine (BU m _ hm).mono ?_;rintro e w' ⟨rfl,rfl⟩
 go_wp2
 go_ret;exact ⟨rfl,rfl⟩
theorem BV (q:N4) (w:World):∀ k:Nat,k<4->(Instr.index 214 (v4 q) (.int .i64 k)).run prog w=.ok (.int .i64 (q.get k)) w:=by
 intro k hk;obtain ⟨x,hx,hxe⟩:=tJ q.a q.b q.c q.d w k hk;rw [hx,hxe]
 have:k=0\/k=1\/k=2\/k=3:=by omega
 rcases this with rfl|rfl|rfl|rfl <;> rfl
theorem BW (q:N4) (m:Nat) (w:World) (hm:m<256) (hq:Sm q) :
  Calls prog 201 #[v4 q,.int .u8 m] w λe w'=>e=.returned (.int .i64 (de q m))/\Below w.heap.size w w':=by
 have HB:=qI ((Q0 w.heap.size w).alloc (lR) (.cells #[.int .i64 q.a,.int .i64 q.b,.int .i64 q.c,.int .i64 q.d] 214));have HX:=qI (BV q (w.alloc (.cells #[.int .i64 q.a,.int .i64 q.b,.int .i64 q.c,.int .i64 q.d] 214)));have HQ:=qI hq;clear hq;unfold v4 at *
 go_enter func201,ntmps201
 go_wp2_with fail
 go_loop [5,9] (λt i=>∃ k:Nat,k<=4/\i=.int .i64 k/\t=.int .i64 (sumTo q m k)) (λ_ i=>4 - (intOf i).toNat)
 case atStart=>exact ⟨0,by omega,rfl,rfl⟩
 case round=>
  obtain ⟨k,hk,rfl,rfl⟩:=hrel
  by_cases hlt:k<4
  ·have hx:=HX.out k hlt;have Ha:=tC m k hm;have HY:=qI λh=>Ost.AM (q:=q) (m:=m) (k:=k) h;have HN:=qI λh=>Ost.AN (q:=q) (m:=m) (k:=k) h;obtain ⟨s1,s2⟩:=Ost.AO HQ.out m k;obtain ⟨t1,t2⟩:=HQ.out k;generalize q.get k=x at *
   rcases two (m.testBit k) with hb|hb
   ·rw [hb] at Ha;have HO:=qI (HY.out hb);clear hb
    go_wp2_with fail
    go_round
    case rel=>exact ⟨k+1,by omega,by go_num,by rw [HO.out]⟩
    case measure=>simp [intOf];omega
   ·rw [hb] at Ha;have HO:=qI (HN.out hb);clear hb
    go_wp2_with fail
    go_round
    case rel=>exact ⟨k+1,by omega,by go_num,by rw [HO.out]⟩
    case measure=>simp [intOf];omega
  ·have Hb:k=4:=by omega
   subst Hb;clear hk hlt
   go_wp2
   go_ret;exact ⟨rfl,HB.out⟩
def tP (w:World) (v:Value) (l:List Nat):Prop:=
 (l=[]/\∃ ao c,v=.slice ao 0 c)\/∃ g c,v=.slice (some ⟨g,0,none⟩) l.length c/\g<w.heap.size/\∀ k,k<l.length->w.cell? ⟨g,k,none⟩=some (.int .u8 (l.getD k 0:Nat))
theorem BX:(prog.info? 43).map (λi=>(i.zero,i.size,i.bytes))=some (some (.int .u8 0),1,1):=by kernel_rfl
def kP (l:List Nat):List Value:=l.map λ(n:Nat)=>Value.int .u8 (n:Int)
theorem BY (l:List Nat) (n:Nat):kP (l++[n])=kP l++[.int .u8 n]:=by simp [kP]
theorem BZ (m n:Nat) (hm:m<16) (hn:n<256):(bits BinOp.andNot IntKind.u8 (m:Int) (n:Int) == 0)=decide (m &&& n=m):=by
 have key:∀ (a:Fin 16) (b:Fin 256),(bits BinOp.andNot IntKind.u8 ((a.val:Nat):Int) ((b.val:Nat):Int) == 0)=decide (a.val &&& b.val=a.val):=by decide +kernel
 exact key ⟨m,hm⟩ ⟨n,hn⟩
def B0 (w:World) (nodes:Nat) (e:Ending) (w':World):Prop:=∃ v,e=.returned v/\tP w' v (bI nodes 16)/\Below w.heap.size w w'
theorem B4 (nodes:Nat) (w:World) (hn:nodes<256) :
  Calls prog 202 #[.int .u8 nodes] w λe w'=>B0 w nodes e w':=by
 obtain ⟨i0,hi,Hh,Hi,Hk⟩:=info_parts BX
 go_enter func202,ntmps202
 go_wp2
 go_loopw [3,4] (λv i wr=>∃ k:Nat,1<=k/\k<=16/\i=.int .u8 k/\wr.ownsRow w.heap.size 43 1 v (bI nodes k).length (kP (bI nodes k))/\Below w.heap.size w wr) (λ_ i _=>16 - (intOf i).toNat)
 case atStart=>exact ⟨1,by omega,by omega,rfl,Qw _ _ _ _,Q0 _ _⟩
 case round=>
  obtain ⟨k,Hg,hk,rfl,Ha,He⟩:=hrel
  by_cases hlt:k<16
  ·have hle:=Ost.pO nodes k;have Hj:=He.size;have HB:=BZ k nodes hlt hn
   rcases two (decide (k &&& nodes=k)) with hb|hb
   ·have HS:Hid (bI nodes (k+1)=bI nodes k++[k]):=Ost.AP (by unfold gR;rw [hb,Qc Hg];rfl);rw [hb] at HB;clear hb
    go_wp2_with (at_builtin;refine wpList_append_own _ rfl _ _ 309 rfl w.heap.size 43 i0 (.int .u8 0) 1 1 underlying309 hi Hh Hi Hk rfl (by decide) _ _ _ rfl (Ha.alloc _) ⟨_,0,none⟩ 1 1 [.int .u8 k] rfl rfl (cell_one_new _ _ _) (ints_oneCell .u8 [(k:Int)]) (by unfold maxLen;omega) (by omega) (by simp;omega) ?_;intro v' w1 Hc Hb _)
    go_roundw
    case rel=>
     refine ⟨k+1,by omega,by omega,by go_num,?_,?_⟩
     ·rw [HS.out,BY,Q2];exact Hc
     ·exact (He.alloc Hj _).grown Hb (by simp;omega) λj hj=>(Ha.lt j hj).1
    case measure=>simp [intOf];omega
   ·have HS:Hid (bI nodes (k+1)=bI nodes k):=Ost.AQ (by unfold gR;rw [hb];simp);rw [hb] at HB;clear hb
    go_wp2
    go_roundw
    case rel=>
     refine ⟨k+1,by omega,by omega,by go_num,?_,He⟩;rw [HS.out];exact Ha
    case measure=>simp [intOf];omega
  ·have Hf:k=16:=by omega
   subst Hf;clear hk hlt;have HM:Hid (∀ v,wr.ownsRow w.heap.size 43 1 v (bI nodes 16).length (kP (bI nodes 16))->tP wr v (bI nodes 16)):=by
    intro v Ha
    rcases Ha.2 with ⟨rfl,h0⟩|⟨g,cap,cur,rfl,hg,_⟩
    ·exact .inl ⟨Qe h0,none,0,rfl⟩
    ·refine .inr ⟨g,cap,rfl,(Ha.lt g rfl).2,λk hk=>?_⟩;rw [Ha.cellAt k (by omega)]
     simp [kP,hk]
   go_wp2
   go_ret;exact ⟨_,rfl,HM.out _ Ha,He⟩
end
section
open RowKit
open Ost (N4 sumTo de Sm pop8 gR bI ey cQ iD)
theorem pT (q:N4) (m:Nat) (many:Int) (B:Nat) (w:World) (hm:m<256) (hq:Sm q) (hB:w.cell? ⟨B,0,none⟩=some (.int .i64 many)) :
  Calls prog 200 #[v4 q,.int .u8 m,.pointer (some ⟨B,0,none⟩)] w λe w'=>e=.returned (.bool (decide (many<=de q m)))/\Below w.heap.size w w':=by
 have Ha:=qI ((Q0 w.heap.size w).alloc (lR) (.cells #[.int .i64 q.a,.int .i64 q.b,.int .i64 q.c,.int .i64 q.d] 214));have Hb:=Q3 w _ hB;have He:=(Ha.out.cell (p:=⟨B,0,none⟩) Hb).trans hB;have Hf:=qI (Q1 Hb Ha.out.size);have f4:=bJ.made w 214 q.a q.b q.c q.d;have c0:=f4.c0;have c1:=f4.c1;have c2:=f4.c2;have c3:=f4.c3;have HT:=qI (BW q m);clear f4 hB Hb;unfold v4 at *
 go_enter func200,ntmps200
 go_wp2_with fail
 go_region_with (go_at_call 201;go_loud (refine (HT.out _ hm hq).mono ?_;rintro e w' ⟨rfl,hb⟩;have Hg:=(hb.cell (p:=⟨B,0,none⟩) Hf.out).trans He;have Hc:=qI (Ha.out.drew.trans (hb.mono Ha.out.size))))
 all_goals
  go_wp2
  go_ret
  first
   | exact ⟨rfl,Hc.out⟩
   | exact ⟨rfl,Hc.out.drew⟩
def dM (l:List (Nat × Bool)):List Value:=l.flatMap λh=>[.int .u8 (h.1:Nat),.bool h.2]
theorem nO (l:List (Nat × Bool)) (h:Nat × Bool):dM (l++[h])=dM l++[.int .u8 (h.1:Nat),.bool h.2]:=by simp [dM]
theorem B5 (l:List (Nat × Bool)) (k:Nat) (hk:k<l.length):(dM l)[k*2]?=some (.int .u8 ((l.getD k (0,false)).1:Nat))/\(dM l)[k*2+1]?=some (.bool (l.getD k (0,false)).2):=by
 induction l generalizing k with
 | nil=>simp at hk
 | cons a r ih=>
  cases k with
  | zero=>simp [dM]
  | succ k=>
   have:=ih k (by simpa using hk)
   have e:dM (a :: r)=[.int .u8 (a.1:Nat),.bool a.2]++dM r:=rfl;rw [e,show (k+1)*2=k*2+2 by omega]
   simpa using this
def bm (w:World) (v:Value) (l:List (Nat × Bool)):Prop:=
 (l=[]/\∃ ao c,v=.slice ao 0 c)\/∃ b o c,v=.slice (some ⟨b,o,none⟩) l.length c/\b<w.heap.size/\∀ k,k<l.length->w.cell? ⟨b,o+k*2,none⟩=some (.int .u8 ((l.getD k (0,false)).1:Nat))/\w.cell? ⟨b,o+k*2+1,none⟩=some (.bool (l.getD k (0,false)).2)
theorem bm.below {w w':World} {v:Value} {l:List (Nat × Bool)} (h:bm w v l) (hb:Below w.heap.size w w'):bm w' v l:=by
 rcases h with h|⟨b,o,c,hv,Ha,hc⟩
 ·exact .inl h
 ·refine .inr ⟨b,o,c,hv,Q1 Ha hb.size,λk hk=>?_⟩;obtain ⟨h1,h2⟩:=hc k hk;exact ⟨(hb.cell (p:=⟨b,o+k*2,none⟩) Ha).trans h1,(hb.cell (p:=⟨b,o+k*2+1,none⟩) Ha).trans h2⟩
theorem bm.of_row {w:World} {base:Nat} {e:TypeId} {v:Value} {l:List (Nat × Bool)} (h:w.ownsRow base e 2 v l.length (dM l)):bm w v l:=by
 rcases h.2 with ⟨rfl,h0⟩|⟨g,cap,cur,rfl,hg,_⟩
 ·exact .inl ⟨Qe h0,none,0,rfl⟩
 ·refine .inr ⟨g,0,cap,rfl,(h.lt g rfl).2,λk hk=>?_⟩;obtain ⟨c0,c1⟩:=B5 l k hk;rw [Qd,h.cellAt (k*2) (by omega),h.cellAt (k*2+1) (by omega)];exact ⟨c0,c1⟩
theorem tQ:(prog.info? 223).map (λi=>(i.zero,i.size,i.bytes))=some (some (.agg #[.int .u8 0,.bool false]),2,2):=by kernel_rfl
structure fx (u:World) (N:Nat) (free all:N4) (many:Int):Prop where
 f:bJ u N free.a free.b free.c free.d
 a:bJ u (N+1) all.a all.b all.c all.d
 m:u.cell? ⟨N+2,0,none⟩=some (.int .i64 many)
 r0:u.cell? ⟨N+3,0,none⟩=some (.bool false)
 r1:u.cell? ⟨N+3,1,none⟩=some (.slice none 0 0)
 z0:u.frozen? ⟨N+3,0,none⟩=false
 z1:u.frozen? ⟨N+3,1,none⟩=false
theorem fx.lt {u:World} {N:Nat} {free all:N4} {many:Int} (h:fx u N free all many):N+3<u.heap.size:=Q3 u _ h.r0
theorem fx.below {u u':World} {N K:Nat} {free all:N4} {many:Int} (h:fx u N free all many) (hb:Below K u u') (hK:N+4<=K):fx u' N free all many:=
 ⟨h.f.below hb (by omega),h.a.below hb (by omega),(hb.cell (p:=⟨N+2,0,none⟩) (by show N+2<K;omega)).trans h.m,(hb.cell (p:=⟨N+3,0,none⟩) (by show N+3<K;omega)).trans h.r0,(hb.cell (p:=⟨N+3,1,none⟩) (by show N+3<K;omega)).trans h.r1,(hb.frozen (p:=⟨N+3,0,none⟩) (by show N+3<K;omega)).trans h.z0,(hb.frozen (p:=⟨N+3,1,none⟩) (by show N+3<K;omega)).trans h.z1⟩
abbrev nP (w:World) (free all:N4) (many:Int):World:=(((w.alloc (.cells #[.int .i64 free.a,.int .i64 free.b,.int .i64 free.c,.int .i64 free.d] 214)).alloc (.cells #[.int .i64 all.a,.int .i64 all.b,.int .i64 all.c,.int .i64 all.d] 214)).alloc (.cells #[.int .i64 many] 3)).alloc (.cells #[.bool false,.slice none 0 0] 270)
theorem fx.made (w:World) (free all:N4) (many:Int):fx (nP w free all many) w.heap.size free all many:=by
 refine ⟨(((bJ.made w _ _ _ _ _).alloc _).alloc _).alloc _,?_,?_,?_,?_,?_,?_⟩
 ·have:=((bJ.made (w.alloc (.cells #[.int .i64 free.a,.int .i64 free.b,.int .i64 free.c,.int .i64 free.d] 214)) 214 all.a all.b all.c all.d).alloc (.cells #[.int .i64 many] 3)).alloc (.cells #[.bool false,.slice none 0 0] 270)
  simpa using this
 ·go_simp
 ·go_simp
 ·go_simp
 ·go_simp
 ·go_simp
theorem tR (w:World) (free all:N4) (many:Int):Below w.heap.size w (nP w free all many):=
 ((((Q0 _ _).alloc (lR) _).alloc (by simp) _).alloc (by simp;omega) _).alloc (by simp;omega) _
def jl (u:World) (g:Nat) (L:List Nat):Prop:=∀ k,k<L.length->u.cell? ⟨g,k,none⟩=some (.int .u8 (L.getD k 0:Nat))
theorem jl.below {u u':World} {g K:Nat} {L:List Nat} (h:jl u g L) (hb:Below K u u') (hK:g<K):jl u' g L:=λk hk=>(hb.cell (p:=⟨g,k,none⟩) hK).trans (h k hk)
def B6 (w:World) (l:List (Nat × Bool)) (e:Ending) (w':World):Prop:=∃ v,e=.returned (.agg #[.bool false,v])/\bm w' v l/\(∀ b o n c,v=.slice (some ⟨b,o,none⟩) n c->w.heap.size<=b)/\Below w.heap.size w w'
theorem B7 (free all:N4) (nodes:Nat) (many:Int) (w:World) (hmany:many<=0) :
  Calls prog 162 #[v4 free,v4 all,.int .u8 nodes,.int .i64 many] w λe w'=>e=.returned (.agg #[.bool true,.slice none 0 0])/\Below w.heap.size w w':=by
 have hE:=fx.made w free all many;have hc:=hE.m;have r0:=hE.r0;have r1:=hE.r1;have z0:=hE.z0;have z1:=hE.z1;have HB:=qI (tR w free all many);clear hE;unfold nP v4 at *
 go_enter func162,ntmps162
 go_wp2_with fail
 (try simp only [Exit.inBlock,Exit.then]);refine bodyPost_ret (v:=.agg #[.bool true,.slice none 0 0]) ?_ rfl ⟨rfl,?_⟩
 ·rw [nK rfl];go_simp
 ·exact ((((Q0 _ _).alloc (lR) _).alloc (by simp) _).alloc (by simp;omega) _).alloc (by simp;omega) _
theorem iE {w w':World} {base:Nat} {e:TypeId} {size:Nat} {v:Value} {n:Nat} {xs:List Value} (h:w.ownsRow base e size v n xs) (hb:Below w.heap.size w w'):w'.ownsRow base e size v n xs:=
 h.kept (row:=none) ⟨hb.os,hb.tape,hb.output,hb.size,λj hj _=>hb.block j hj⟩ (by cases hv:v.ownBlock <;> simp)
theorem eY {w:World} {a:Addr} {v:Value} (h:w.cell? a=some v) (o:Obj):(w.alloc o).cell? a=some v:=
 (((Q0 w.heap.size w).alloc (lR) o).cell (Q3 w _ h)).trans h
theorem pU {w:World} {a:Addr} {v:Value} (hc:w.cell? a=some v) (h:w.frozen? a=false) (o:Obj):(w.alloc o).frozen? a=false:=
 (((Q0 w.heap.size w).alloc (lR) o).frozen (Q3 w _ hc)).trans h
theorem gw {w:World} {base:Nat} {e:TypeId} {size:Nat} {v:Value} {n:Nat} {xs:List Value} (h:w.ownsRow base e size v n xs):∃ ao c,v=.slice ao n c:=by
 rcases h.2 with ⟨rfl,rfl⟩|⟨g,cap,cur,rfl,_⟩
 ·exact ⟨none,0,rfl⟩
 ·exact ⟨_,_,rfl⟩
theorem tS {w:World} {base N:Nat} {e:TypeId} {size:Nat} {v:Value} {n:Nat} {xs:List Value} (h:w.ownsRow base e size v n xs) (hN:N<=base):∀ b o n' c,v=.slice (some ⟨b,o,none⟩) n' c->N<=b:=by
 intro b o n' c hv;subst hv;exact Q5 hN (h.lt b rfl).1
end
section
namespace Ost
abbrev Hi:=Nat × Bool
structure Wi where
 any:Bool
 hs:List Hi
def wi0:Wi:=⟨false,[]⟩
def bet (a b:Hi):Bool:=if a.2 != b.2 then a.2 else if pop8 a.1 != pop8 b.1 then decide (pop8 a.1<pop8 b.1) else decide (a.1<b.1)
def key (a:Hi):Nat:=(if a.2 then 0 else 4096)+pop8 a.1*256+a.1
theorem B8 (a b:Hi) (ha:a.1<256) (hb:b.1<256):bet a b=decide (key a<key b):=by
 obtain ⟨m,g⟩:=a;obtain ⟨n,f⟩:=b;have h1:=jk m;have h2:=jk n;simp only at ha hb;unfold bet key
 by_cases hp:pop8 m=pop8 n
 ·cases g <;> cases f <;> simp [hp] <;> omega
 ·have Ha:(pop8 m != pop8 n)=true:=by simpa using hp
  cases g <;> cases f <;> simp [hp] <;> omega
def dq (L:List Hi) (b0:Hi):Nat->Hi
 | 0=>b0
 | k+1=>if bet (L.getD k (0,false)) (dq L b0 k) then L.getD k (0,false) else dq L b0 k
def tT (L:List Hi) (b0:Hi):Hi:=dq L b0 L.length
def Low (L:List Hi):Prop:=∀ x,x∈L->x.1<256
theorem dX {α:Type} (L:List α) (d:α) (k:Nat) (h:k<L.length):L.getD k d∈L:=by simp [h]
theorem nQ {α:Type} {L:List α} (d:α) {x:α} (h:x∈L):∃ k,k<L.length/\L.getD k d=x:=by
 obtain ⟨k,hk,he⟩:=List.getElem_of_mem h;exact ⟨k,hk,by simp [hk,he]⟩
theorem B9 (L:List Hi) (b0:Hi) (hL:Low L) (h0:b0.1<256) (k:Nat) (hk:k<=L.length) :
  (dq L b0 k=b0\/dq L b0 k∈L)/\(dq L b0 k).1<256/\key (dq L b0 k)<=key b0/\∀ j,j<k->key (dq L b0 k)<=key (L.getD j (0,false)):=by
 induction k with
 | zero=>exact ⟨.inl rfl,h0,lR,λj hj=>by omega⟩
 | succ k ih=>
  obtain ⟨h1,h2,h3,h4⟩:=ih (by omega);have hm:=dX L (0,false) k (by omega);have hx:=hL _ hm;rw [dq];generalize hz:L.getD k (0,false)=x at *;have Ha:=B8 x (dq L b0 k) hx h2
  by_cases hb:bet x (dq L b0 k)=true
  ·rw [if_pos hb];rw [hb] at Ha;have Hc:=of_decide_eq_true Ha.symm;refine ⟨.inr hm,hx,by omega,λj hj=>?_⟩
   by_cases e:j=k
   ·subst e;rw [hz];exact lR
   ·have:=h4 j (by omega);omega
  ·rw [if_neg hb];have Hb:bet x (dq L b0 k)=false:=by simpa using hb
   rw [Hb] at Ha;have He:=of_decide_eq_false Ha.symm;refine ⟨h1,h2,h3,λj hj=>?_⟩
   by_cases e:j=k
   ·subst e;rw [hz];omega
   ·exact h4 j (by omega)
theorem tU {L:List Hi} {b0:Hi} (hL:Low L) (h0:b0.1<256) (k:Nat) (hk:k<=L.length):(dq L b0 k).1<256:=(B9 L b0 hL h0 k hk).2.1
def okH (pol:Int) (h:Hi):Bool:=decide (pol<3) || (h.2 && decide (pop8 h.1=1))
def cho (pol:Int) (nodes:Nat) (w:Wi):List Hi:=if w.any then [(nodes,true)] else if (w.hs.filter (okH pol)).length=0 then [(nodes,false)] else w.hs.filter (okH pol)
def com (a c:Hi):Hi:=(a.1 &&& c.1,a.2 && c.2)
def jX (pol:Int) (nodes:Nat) (ws:List Wi):Nat->Hi->Prop
 | 0,h=>h=(nodes,true)
 | k+1,h=>h.1≠0/\∃ a c,jX pol nodes ws k a/\c∈cho pol nodes (ws.getD k wi0)/\h=com a c
theorem Ca {a c:Hi} {nodes:Nat} (h:a.1 &&& nodes=a.1):(com a c).1 &&& nodes=(com a c).1:=by
 show (a.1 &&& c.1) &&& nodes=a.1 &&& c.1
 rw [Nat.and_assoc,Nat.and_comm c.1,<- Nat.and_assoc,h]
theorem pV {pol:Int} {nodes:Nat} {ws:List Wi} {k:Nat} {h:Hi} (hr:jX pol nodes ws k h):h.1 &&& nodes=h.1:=by
 induction k generalizing h with
 | zero=>rw [show h=(nodes,true) from hr];exact Nat.and_self _
 | succ k ih=>
  obtain ⟨_,a,c,ha,_,rfl⟩:=hr;exact Ca (ih ha)
theorem Cb {pol:Int} {nodes:Nat} {ws:List Wi} {k:Nat} {h:Hi} (hn:nodes<256) (hr:jX pol nodes ws k h):h.1<256:=by
 rw [<- pV hr];exact Nat.lt_of_le_of_lt Nat.and_le_right hn
def jm (pol:Int) (nodes:Nat) (ws:List Wi) (k:Nat) (L:List Hi):Prop:=∀ x,x∈L↔jX pol nodes ws k x
theorem jm.low {pol:Int} {nodes:Nat} {ws:List Wi} {k:Nat} {L:List Hi} (h:jm pol nodes ws k L) (hn:nodes<256):Low L:=λx hx=>Cb hn ((h x).1 hx)
def within (nodes:Nat) (h:Hi):Hi:=(h.1 &&& nodes,h.2)
theorem tV {a c:Hi} {nodes:Nat} (h:a.1 &&& nodes=a.1):com a (within nodes c)=com a c:=by
 unfold com within
 show (a.1 &&& (c.1 &&& nodes),a.2 && c.2)=_
 rw [Nat.and_comm c.1,<- Nat.and_assoc,h]
def dY (l:List Hi) (h:Hi):List Hi:=if h∈l then l else l++[h]
theorem tW (l:List Hi) (h x:Hi):x∈dY l h↔x∈l\/x=h:=by
 unfold dY
 split
 ·rename_i hm
  constructor
  ·exact .inl
  ·rintro (h1|rfl)
   ·exact h1
   ·exact hm
 ·simp
theorem tX (l:List Hi) (h:Hi):(dY l h).length<=l.length+1:=by
 unfold dY
 split
 ·omega
 ·simp
def cG (pol:Int) (nodes:Nat) (hs:List Hi):Nat->List Hi
 | 0=>[]
 | k+1=>if okH pol (hs.getD k (0,false)) then dY (cG pol nodes hs k) (within nodes (hs.getD k (0,false))) else cG pol nodes hs k
theorem tY (pol:Int) (nodes:Nat) (hs:List Hi) (k:Nat):(cG pol nodes hs k).length<=k:=by
 induction k with
 | zero=>exact lR
 | succ k ih=>
  rw [cG]
  split
  ·exact Q5 (tX _ _) (by omega)
  ·omega
theorem Cc (pol:Int) (nodes:Nat) (hs:List Hi) (k:Nat) (x:Hi):x∈cG pol nodes hs k↔∃ j,j<k/\okH pol (hs.getD j (0,false))=true/\x=within nodes (hs.getD j (0,false)):=by
 induction k with
 | zero=>simp [cG]
 | succ k ih=>
  rw [cG]
  split
  ·rename_i h
   rw [tW,ih];constructor
   ·rintro (⟨j,hj,h1,h2⟩|h1)
    ·exact ⟨j,by omega,h1,h2⟩
    ·exact ⟨k,by omega,h,h1⟩
   ·rintro ⟨j,hj,h1,h2⟩
    by_cases e:j=k
    ·subst e;exact .inr h2
    ·exact .inl ⟨j,by omega,h1,h2⟩
  ·rename_i h
   rw [ih];constructor
   ·rintro ⟨j,hj,h1,h2⟩;exact ⟨j,by omega,h1,h2⟩
   ·rintro ⟨j,hj,h1,h2⟩
    by_cases e:j=k
    ·subst e;exact absurd h1 h
    ·exact ⟨j,by omega,h1,h2⟩
def dZ (pol:Int) (nodes:Nat) (w:Wi):List Hi:=if w.any then [(nodes,true)] else if (cG pol nodes w.hs w.hs.length).length=0 then [(nodes,false)] else cG pol nodes w.hs w.hs.length
theorem pW (pol:Int) (nodes:Nat) (hs:List Hi) (x:Hi):x∈cG pol nodes hs hs.length↔∃ c,c∈hs.filter (okH pol)/\x=within nodes c:=by
 rw [Cc];constructor
 ·rintro ⟨j,hj,h1,h2⟩;exact ⟨_,List.mem_filter.2 ⟨dX _ _ _ hj,h1⟩,h2⟩
 ·rintro ⟨c,hc,h2⟩;rw [List.mem_filter] at hc;obtain ⟨j,hj,rfl⟩:=nQ (0,false) hc.1;exact ⟨j,hj,hc.2,h2⟩
theorem tZ {α:Type} (l:List α):l.length=0↔∀ x,x ∉ l:=by
 cases l with
 | nil=>simp
 | cons a r=>
  constructor
  ·intro h;simp at h
  ·intro h;exact absurd List.mem_cons_self (h a)
theorem pX (pol:Int) (nodes:Nat) (w:Wi) (x:Hi):x∈dZ pol nodes w↔∃ c,c∈cho pol nodes w/\x=within nodes c:=by
 unfold dZ cho;cases w.any
 ·have e:(cG pol nodes w.hs w.hs.length).length=0↔(w.hs.filter (okH pol)).length=0:=by
   rw [tZ,tZ];constructor
   ·intro h x hx;exact h (within nodes x) ((pW ..).2 ⟨x,hx,rfl⟩)
   ·intro h x hx;obtain ⟨c,hc,_⟩:=(pW ..).1 hx;exact h c hc
  simp only [Bool.false_eq_true,if_false]
  by_cases h:(w.hs.filter (okH pol)).length=0
  ·rw [if_pos h,if_pos (e.2 h)]
   simp [within]
  ·rw [if_neg h,if_neg λh'=>h (e.1 h')];exact pW ..
 ·simp [within]
theorem ud (pol:Int) (nodes:Nat) (w:Wi) (h:w.hs.length<=16):(dZ pol nodes w).length<=16:=by
 unfold dZ
 split
 ·simp
 ·split
  ·simp
  ·exact Q5 (tY ..) h
def dB (c:Hi) (W:List Hi) (N:List Hi):Nat->List Hi
 | 0=>N
 | j+1=>if (com (W.getD j (0,false)) c).1=0 then dB c W N j else dY (dB c W N j) (com (W.getD j (0,false)) c)
def eL (C W:List Hi):Nat->List Hi
 | 0=>[]
 | i+1=>dB (C.getD i (0,false)) W (eL C W i) W.length
theorem ue (c:Hi) (W N:List Hi) (j:Nat):(dB c W N j).length<=N.length+j:=by
 induction j with
 | zero=>exact lR
 | succ j ih=>
  rw [dB]
  split
  ·omega
  ·exact Q5 (tX _ _) (by omega)
theorem uf (C W:List Hi) (i:Nat):(eL C W i).length<=i*W.length:=by
 induction i with
 | zero=>simp [eL]
 | succ i ih=>
  rw [eL,Nat.succ_mul];exact Q5 (ue ..) (by omega)
theorem Cd (c:Hi) (W N:List Hi) (j:Nat) (x:Hi):x∈dB c W N j↔x∈N\/∃ i,i<j/\x.1≠0/\x=com (W.getD i (0,false)) c:=by
 induction j with
 | zero=>simp [dB]
 | succ j ih=>
  rw [dB]
  split
  ·rename_i h
   rw [ih];constructor
   ·rintro (h1|⟨i,hi,h1⟩)
    ·exact .inl h1
    ·exact .inr ⟨i,by omega,h1⟩
   ·rintro (h1|⟨i,hi,h1,h2⟩)
    ·exact .inl h1
    ·by_cases e:i=j
     ·subst e;rw [<- h2] at h;exact absurd h h1
     ·exact .inr ⟨i,by omega,h1,h2⟩
  ·rename_i h
   rw [tW,ih];constructor
   ·rintro ((h1|⟨i,hi,h1⟩)|rfl)
    ·exact .inl h1
    ·exact .inr ⟨i,by omega,h1⟩
    ·exact .inr ⟨j,by omega,h,rfl⟩
   ·rintro (h1|⟨i,hi,h1,h2⟩)
    ·exact .inl (.inl h1)
    ·by_cases e:i=j
     ·subst e;exact .inr h2
     ·exact .inl (.inr ⟨i,by omega,h1,h2⟩)
theorem Ce (C W:List Hi) (i:Nat) (x:Hi):x∈eL C W i↔x.1≠0/\∃ k,k<i/\∃ a,a∈W/\x=com a (C.getD k (0,false)):=by
 induction i with
 | zero=>simp [eL]
 | succ i ih=>
  rw [eL,Cd,ih];constructor
  ·rintro (⟨h0,k,hk,a,ha,h1⟩|⟨j,hj,h0,h1⟩)
   ·exact ⟨h0,k,by omega,a,ha,h1⟩
   ·exact ⟨h0,i,by omega,_,dX _ _ _ hj,h1⟩
  ·rintro ⟨h0,k,hk,a,ha,h1⟩
   by_cases e:k=i
   ·subst e;obtain ⟨j,hj,rfl⟩:=nQ (0,false) ha;exact .inr ⟨j,hj,h0,h1⟩
   ·exact .inl ⟨h0,k,by omega,a,ha,h1⟩
def dC (pol:Int) (nodes:Nat) (ws:List Wi):Nat->List Hi
 | 0=>[(nodes,true)]
 | k+1=>eL (dZ pol nodes (ws.getD k wi0)) (dC pol nodes ws k) (dZ pol nodes (ws.getD k wi0)).length
theorem lX (pol:Int) (nodes:Nat) (ws:List Wi) (k:Nat):jm pol nodes ws k (dC pol nodes ws k):=by
 induction k with
 | zero=>intro x;simp [dC,jX]
 | succ k ih=>
  intro x;rw [dC,Ce,jX];constructor
  ·rintro ⟨h0,j,hj,a,ha,h1⟩;obtain ⟨c,hc,h2⟩:=(pX ..).1 (dX _ (0,false) _ hj);refine ⟨h0,a,c,(ih a).1 ha,hc,?_⟩;rw [h1,h2,tV (pV ((ih a).1 ha))]
  ·rintro ⟨h0,a,c,ha,hc,h1⟩;obtain ⟨j,hj,h2⟩:=nQ (0,false) ((pX ..).2 ⟨c,hc,rfl⟩);refine ⟨h0,j,hj,a,(ih a).2 ha,?_⟩;rw [h2,tV (pV ha),h1]
theorem ug (k:Nat) (h:k<=4):16 ^ k<=65536:=by
 have:k=0\/k=1\/k=2\/k=3\/k=4:=by omega
 rcases this with rfl|rfl|rfl|rfl|rfl <;> decide
theorem uh (pol:Int) (nodes:Nat) (ws:List Wi) (hw:∀ w,w∈ws->w.hs.length<=16) (k:Nat) (hk:k<=ws.length):(dC pol nodes ws k).length<=16 ^ k:=by
 induction k with
 | zero=>simp [dC]
 | succ k ih=>
  rw [dC];have h1:=uf (dZ pol nodes (ws.getD k wi0)) (dC pol nodes ws k) (dZ pol nodes (ws.getD k wi0)).length;have h2:=ud pol nodes (ws.getD k wi0) (hw _ (dX _ _ _ (by omega)));have h3:=Nat.mul_le_mul h2 (ih (by omega));rw [Nat.pow_succ];omega
def told (pol:Int) (nodes:Nat) (ws:List Wi):Hi:=tT (dC pol nodes ws ws.length) (nodes,false)
theorem Cg (pol:Int) (nodes:Nat) (ws:List Wi) (hn:nodes<256):(told pol nodes ws).1<256:=tU (jm.low (lX pol nodes ws ws.length) hn) hn _ (lR)
end Ost
end
section
open Go.ChangeShapes Go.WideShapes Go.ChangeAt Go.RowKit
open Ost (N4 Hi Wi wi0 Low)
theorem bm.form {w:World} {v:Value} {l:List Hi} (h:bm w v l):∃ ao c,v=.slice ao l.length c/\(0<l.length->∃ b o,ao=some ⟨b,o,none⟩/\b<w.heap.size/\∀ k,k<l.length->w.cell? ⟨b,o+k*2,none⟩=some (.int .u8 ((l.getD k (0,false)).1:Nat))/\w.cell? ⟨b,o+k*2+1,none⟩=some (.bool (l.getD k (0,false)).2)):=by
 rcases h with ⟨rfl,ao,c,rfl⟩|⟨b,o,c,rfl,Ha,hc⟩
 ·exact ⟨ao,c,rfl,λh=>by simp at h⟩
 ·exact ⟨_,c,rfl,λ_=>⟨b,o,rfl,Ha,hc⟩⟩
def fQ (w:World) (v:Value) (ws:List Wi):Prop:=
 (ws=[]/\∃ ao c,v=.slice ao 0 c)\/∃ b o c,v=.slice (some ⟨b,o,none⟩) ws.length c/\b<w.heap.size/\∀ k,k<ws.length->w.cell? ⟨b,o+k*2,none⟩=some (.bool (ws.getD k wi0).any)/\∃ u,w.cell? ⟨b,o+k*2+1,none⟩=some u/\bm w u (ws.getD k wi0).hs
theorem fQ.below {w w':World} {v:Value} {ws:List Wi} (h:fQ w v ws) (hb:Below w.heap.size w w'):fQ w' v ws:=by
 rcases h with h|⟨b,o,c,hv,Ha,hc⟩
 ·exact .inl h
 ·refine .inr ⟨b,o,c,hv,Q1 Ha hb.size,λk hk=>?_⟩;obtain ⟨h1,u,h2,h3⟩:=hc k hk;exact ⟨(hb.cell (p:=⟨b,o+k*2,none⟩) Ha).trans h1,u,(hb.cell (p:=⟨b,o+k*2+1,none⟩) Ha).trans h2,h3.below hb⟩
theorem fQ.form {w:World} {v:Value} {ws:List Wi} (h:fQ w v ws):∃ ao c,v=.slice ao ws.length c/\(0<ws.length->∃ b o,ao=some ⟨b,o,none⟩/\b<w.heap.size/\∀ k,k<ws.length->w.cell? ⟨b,o+k*2,none⟩=some (.bool (ws.getD k wi0).any)/\∃ u,w.cell? ⟨b,o+k*2+1,none⟩=some u/\bm w u (ws.getD k wi0).hs):=by
 rcases h with ⟨rfl,ao,c,rfl⟩|⟨b,o,c,rfl,Ha,hc⟩
 ·exact ⟨ao,c,rfl,λh=>by simp at h⟩
 ·exact ⟨_,c,rfl,λ_=>⟨b,o,rfl,Ha,hc⟩⟩
instance:Inhabited Wi:=⟨wi0⟩
end
section
open RowKit
open Ost (Hi Wi wi0 Low dY bet pop8)
abbrev vH (h:Hi):Value:=.agg #[.int .u8 (h.1:Nat),.bool h.2]
def Found (l:List Hi) (h:Hi) (e:Ending):Prop:=(h∈l/\∃ r:Nat,e=.returned (.int .i64 r))\/(h ∉ l/\e=.returned (.int .i64 (-1)))
theorem Ch (v:Value) (l:List Hi) (h:Hi) (w:World) (hv:bm w v l) (hl:l.length<=4000000) :
  Calls prog 279 #[v,vH h] w λe w'=>Found l h e/\Below w.heap.size w w':=by
 obtain ⟨ao,c,rfl,hc⟩:=hv.form;have HC:=qI hc;clear hc hv;unfold vH;obtain ⟨p,g⟩:=h;have hX:Hid (Below w.heap.size w (w.alloc (.cells #[.int .u8 (p:Nat),.bool g] 223))):=(Q0 _ _).alloc (lR) _;have hY:=qI (show (w.alloc (.cells #[.int .u8 (p:Nat),.bool g] 223)).cell? ⟨w.heap.size,0,none⟩=some (.int .u8 (p:Nat))/\(w.alloc (.cells #[.int .u8 (p:Nat),.bool g] 223)).cell? ⟨w.heap.size,1,none⟩=some (.bool g) by simp)
 go_enter func279,ntmps279
 go_wp2
 go_loopw [8] (λi wr=>∃ k:Nat,k<=l.length/\i=.int .i64 k/\Hid (∀ j,j<k->l.getD j (0,false)≠(p,g))/\Hid (Below (w.heap.size+1) (w.alloc (.cells #[.int .u8 (p:Nat),.bool g] 223)) wr)) (λi _=>l.length - (intOf i).toNat)
 case atStart=>exact ⟨0,by omega,rfl,λj hj=>by omega,Q0 _ _⟩
 case round=>
  obtain ⟨k,hk,rfl,HN,HB⟩:=hrel
  by_cases hlt:k<l.length
  ·obtain ⟨b,o,rfl,hb,Ha⟩:=HC.out (by omega);have hB:=HB.out;have hx:=qI (Ost.dX l (0,false) k hlt);have hN:Hid (∀ x,l.getD k (0,false)=x->x≠(p,g)->∀ j,j<k+1->l.getD j (0,false)≠(p,g)):=by
    intro x hx Hb j hj
    by_cases e:j=k
    ·subst e;rw [hx];exact Hb
    ·exact HN.out j (by omega)
   have c0:=((hB.cell (p:=⟨b,o+k*2,none⟩) (by show b<w.heap.size+1;omega)).trans (hX.out.cell (p:=⟨b,o+k*2,none⟩) hb)).trans (Ha k hlt).1;have c1:=((hB.cell (p:=⟨b,o+k*2+1,none⟩) (by show b<w.heap.size+1;omega)).trans (hX.out.cell (p:=⟨b,o+k*2+1,none⟩) hb)).trans (Ha k hlt).2;have d0:=(hB.cell (p:=⟨w.heap.size,0,none⟩) (by show w.heap.size<w.heap.size+1;omega)).trans hY.out.1;have d1:=(hB.cell (p:=⟨w.heap.size,1,none⟩) (by show w.heap.size<w.heap.size+1;omega)).trans hY.out.2;clear hB Ha HN;generalize hz:l.getD k (0,false)=x at *;have hN:=qI (hN.out x rfl);obtain ⟨q,f⟩:=x;simp only at c0 c1;have hz:=qI hz
   by_cases hq:p=q
   ·rcases two (g == f) with hf|hf
    ·have:g=f:=by simpa using hf
     subst this;subst hq;clear hf
     go_wp2
     go_quiet (fail)
     go_wp2
     go_ret;exact ⟨.inl ⟨hx.out,k,rfl⟩,hX.out.trans (below_drewN (HB.out.mono (by omega)) _)⟩
    ·subst hq
     go_wp2
     go_quiet (fail)
     go_wp2
     go_roundw
     case rel=>exact ⟨k+1,by omega,by go_num,hN.out (by intro h;simp at h;rw [h] at hf;simp at hf),below_drewN HB.out _⟩
     case measure=>simp [intOf];omega
   ·have hf:((p:Int) == (q:Int))=false:=by rw [Qr];omega
    go_wp2
    go_quiet (fail)
    go_wp2
    go_roundw
    case rel=>exact ⟨k+1,by omega,by go_num,hN.out (by intro h;simp at h;exact hq h.1.symm),below_drewN HB.out _⟩
    case measure=>simp [intOf];omega
  ·have He:k=l.length:=by omega
   subst He;have Hc:Hid ((p,g) ∉ l):=by
    intro hm;obtain ⟨j,hj,he⟩:=Ost.nQ (0,false) hm;exact HN.out j hj he
   go_wp2
   go_ret;exact ⟨.inr ⟨Hc.out,rfl⟩,hX.out.trans (HB.out.mono (by omega))⟩
theorem Ci (v:Value) (l:List Hi) (h:Hi) (w:World) (hv:bm w v l) (hl:l.length<=4000000) :
  Calls prog 245 #[v,vH h] w λe w'=>e=.returned (.bool (decide (h∈l)))/\Below w.heap.size w w':=by
 obtain ⟨p,g⟩:=h;have hX:Hid (Below w.heap.size w (w.alloc (.cells #[.int .u8 (p:Nat),.bool g] 223))):=(Q0 _ _).alloc (lR) _;have HI:=qI (Ch v l (p,g) (w.alloc (.cells #[.int .u8 (p:Nat),.bool g] 223)) (hv.below hX.out) hl);obtain ⟨ao,c,rfl,_⟩:=hv.form;clear hv;unfold vH at *
 go_enter func245,ntmps245
 go_wp2_with fail
 refine HI.out.mono ?_;rintro e w1 ⟨hf,hb⟩;have hB:=qI (hX.out.trans (hb.mono (by simp)));clear hb
 rcases hf with ⟨hm,r,rfl⟩|⟨hm,rfl⟩
 ·have hm:=qI hm
  go_wp2
  go_ret;exact ⟨congrArg (λb=>Ending.returned (.bool b)) (Qc hm.out).symm,hB.out⟩
 ·have hm:=qI hm
  go_wp2
  go_ret;exact ⟨congrArg (λb=>Ending.returned (.bool b)) (Q7 hm.out).symm,hB.out⟩
def Cj (base:Nat) (w:World) (l:List Hi) (e:Ending) (w':World):Prop:=∃ v,e=.returned v/\w'.ownsRow base 223 2 v l.length (dM l)/\Below base w w'
def Ck (base:Nat) (v0:Value) (w:World) (l:List Hi) (e:Ending) (w':World):Prop:=∃ v,e=.returned v/\w'.ownsRow base 223 2 v l.length (dM l)/\Below base w w'/\∀ b,b<w.heap.size->some b≠v0.ownBlock->w'.heap[b]?=w.heap[b]?/\some b≠v.ownBlock
theorem pY (base:Nat) (v:Value) (l:List Hi) (h:Hi) (w:World) (hv:w.ownsRow base 223 2 v l.length (dM l)) (hl:l.length<=4000000) (hbase:base<=w.heap.size) :
  Calls prog 198 #[v,vH h] w λe w'=>Ck base v w (dY l h) e w':=by
 obtain ⟨p,g⟩:=h;have hX:Hid (Below w.heap.size w (w.alloc (.cells #[.int .u8 (p:Nat),.bool g] 223))):=(Q0 _ _).alloc (lR) _;have HI:=qI (Ci v l (p,g) (w.alloc (.cells #[.int .u8 (p:Nat),.bool g] 223)) ((bm.of_row hv).below hX.out) hl);have HV:=qI (iE hv hX.out);have Hm:=qI hv.lt;obtain ⟨ao,c,rfl⟩:=gw hv;have hY:=qI (show (w.alloc (.cells #[.int .u8 (p:Nat),.bool g] 223)).cell? ⟨w.heap.size,0,none⟩=some (.int .u8 (p:Nat))/\(w.alloc (.cells #[.int .u8 (p:Nat),.bool g] 223)).cell? ⟨w.heap.size,1,none⟩=some (.bool g) by simp);clear hv;unfold vH at *;obtain ⟨i0,hi,Hg,Hj,Hl⟩:=info_parts tQ
 go_enter func198,ntmps198
 go_wp2_with fail
 refine HI.out.mono ?_;rintro e w1 ⟨rfl,hb⟩;have hB:=qI (hX.out.trans (hb.mono (by simp)));have He:=qI (iE HV.out hb);have d0:=(hb.cell (p:=⟨w.heap.size,0,none⟩) (by simp)).trans hY.out.1;have d1:=(hb.cell (p:=⟨w.heap.size,1,none⟩) (by simp)).trans hY.out.2;have Hk:Hid (w.heap.size+1<=w1.heap.size):=Q5 (by simp) hb.size;clear hb HI HV hX hY
 by_cases hm:(p,g)∈l
 ·rw [Qc hm];have hw:Hid (dY l (p,g)=l):=by unfold Hid dY;rw [if_pos hm]
  clear hm
  go_wp2
  go_ret;exact ⟨_,rfl,by rw [hw.out];exact He.out,hB.out.mono hbase,λb hb hne=>⟨hB.out.block b hb,hne⟩⟩
 ·rw [Q7 hm];have hw:Hid (dY l (p,g)=l++[(p,g)]):=by unfold Hid dY;rw [if_neg hm]
  clear hm;have Hn:=Hk.out
  go_wp2_with (at_builtin;refine wpList_append_lies _ rfl _ _ 266 rfl base 223 i0 (.agg #[.int .u8 0,.bool false]) 2 2 underlying266 hi Hg Hj Hl rfl (by decide) _ _ _ rfl (He.out.alloc _) ⟨_,0,none⟩ 1 1 [.int .u8 p,.bool g] rfl rfl (by intro j u hj;match j,hj with|0,hj=>(simp at hj;subst hj;simp [Addr.add])|1,hj=>(simp at hj;subst hj;simp [Addr.add])) (by intro u hu;simp at hu;rcases hu with rfl|rfl <;> rfl) (by decide) (by unfold maxLen;omega) (by omega) (by simp;omega) _ rfl ?_;intro g' cap' w2 Hb Ha Hc Hf)
  go_ret;refine ⟨_,rfl,by rw [hw.out,nO,Q2];exact Hb,?_,λb hb hne=>⟨?_,?_⟩⟩
  ·exact ((hB.out.mono hbase).alloc (by omega) _).grown Ha (by simp;omega) λj hj=>(He.out.lt j hj).1
  ·rw [Ha.block b (by simp;omega) hne,heap_alloc_old _ _ (by omega)];exact hB.out.block b hb
  ·intro he;have Hh:b=g':=by simpa [Value.ownBlock] using he
   subst Hh
   rcases Hc with h|h
   ·exact hne h.symm
   ·simp at h;omega
theorem Cm (base:Nat) (v:Value) (l:List Hi) (h:Hi) (w:World) (hv:w.ownsRow base 223 2 v l.length (dM l)) (hl:l.length<=4000000) (hbase:base<=w.heap.size) :
  Calls prog 198 #[v,vH h] w λe w'=>Cj base w (dY l h) e w':=
 (pY base v l h w hv hl hbase).mono λ_ _ ⟨v',he,hr,hb,_⟩=>⟨v',he,hr,hb⟩
theorem Cn (a b:Hi) (w:World) (ha:a.1<256) (hb:b.1<256) :
  Calls prog 161 #[vH a,vH b] w λe w'=>e=.returned (.bool (bet a b))/\Below w.heap.size w w':=by
 obtain ⟨m,g⟩:=a;obtain ⟨n,f⟩:=b;simp only at ha hb;unfold vH;have HB:Hid (Below w.heap.size w ((w.alloc (.cells #[.int .u8 (m:Nat),.bool g] 223)).alloc (.cells #[.int .u8 (n:Nat),.bool f] 223))):=((Q0 _ _).alloc (lR) _).alloc (by simp) _;have HP:=qI λw=>lW m w ha;have HQ:=qI λw=>lW n w hb;obtain ⟨r,hr⟩:∃ r,r=bet (m,g) (n,f):=⟨_,rfl⟩;rw [<- hr];have HR:=qI hr;clear hr
 go_enter func161,ntmps161
 rcases two (g != f) with Ha|Ha
 ·have hR:Hid (g=r):=by unfold Hid;rw [HR.out];unfold bet;rw [if_pos Ha]
  have He:(!g == f)=true:=Ha;clear Ha
  go_wp2
  go_ret;exact ⟨congrArg (λb=>Ending.returned (.bool b)) hR.out,HB.out⟩
 ·have He:(!g == f)=false:=Ha;have Hg:=Ost.jk m;have Hf:=Ost.jk n
  go_wp2_with fail
  have k0:((w.alloc (.cells #[.int .u8 (m:Nat),.bool g] 223)).alloc (.cells #[.int .u8 (n:Nat),.bool f] 223)).cell? ⟨w.heap.size,0,none⟩=some (.int .u8 (m:Nat)):=by go_simp
  have k1:((w.alloc (.cells #[.int .u8 (m:Nat),.bool g] 223)).alloc (.cells #[.int .u8 (n:Nat),.bool f] 223)).cell? ⟨w.heap.size+1,0,none⟩=some (.int .u8 (n:Nat)):=by go_simp
  generalize ((w.alloc (.cells #[.int .u8 (m:Nat),.bool g] 223)).alloc (.cells #[.int .u8 (n:Nat),.bool f] 223))=W at *
  by_cases hpq:pop8 m=pop8 n
  ·have hR:Hid (decide (m<n)=r):=by
    unfold Hid;rw [HR.out];unfold bet;rw [if_neg (by rw [Ha];simp),if_neg (by simp [hpq])]
   have Hc:((pop8 m:Int) == (pop8 n:Int))=true:=by rw [beq_iff_eq];omega
   clear Ha hpq HR;generalize pop8 m=x at *;generalize pop8 n=y at *
   go_region_with (go_at_call 199;go_loud (first|(refine (HP.out _).mono ?_;rintro e w5 ⟨rfl,Hb⟩;subst w5)|(refine (HQ.out _).mono ?_;rintro e w5 ⟨rfl,Hb⟩;subst w5)))
   all_goals
    go_wp2
    go_ret;exact ⟨congrArg (λb=>Ending.returned (.bool b)) hR.out,below_drewN HB.out _⟩
  ·have hR:Hid (decide (pop8 m<pop8 n)=r):=by
    unfold Hid;rw [HR.out];unfold bet;rw [if_neg (by rw [Ha];simp),if_pos (by simpa using hpq)]
   have Hc:((pop8 m:Int) == (pop8 n:Int))=false:=by rw [Qr];omega
   clear Ha hpq HR;generalize pop8 m=x at *;generalize pop8 n=y at *
   go_region_with (go_at_call 199;go_loud (first|(refine (HP.out _).mono ?_;rintro e w5 ⟨rfl,Hb⟩;subst w5)|(refine (HQ.out _).mono ?_;rintro e w5 ⟨rfl,Hb⟩;subst w5)))
   all_goals
    go_wp2_with fail
    go_region_with (go_at_call 199;go_loud (first|(refine (HP.out _).mono ?_;rintro e w5 ⟨rfl,Hb⟩;subst w5)|(refine (HQ.out _).mono ?_;rintro e w5 ⟨rfl,Hb⟩;subst w5)))
    all_goals
     go_wp2
     go_ret;exact ⟨congrArg (λb=>Ending.returned (.bool b)) hR.out,below_drewN (below_drewN HB.out _) _⟩
end
section
open RowKit
open Ost (Hi Wi wi0 Low dY bet pop8 cG dZ okH within)
def pZ (w:World) (l:List Hi) (e:Ending) (w':World):Prop:=∃ v,e=.returned v/\bm w' v l/\Below w.heap.size w w'
theorem ui (a b:Nat) (ha:a<256) (hb:b<256):bits BinOp.and IntKind.u8 (a:Int) (b:Int)=((a &&& b:Nat):Int):=by
 have hx:a &&& b<2 ^ 8:=Nat.and_lt_two_pow _ (by omega);have h1:(BitVec.ofInt 8 (a:Int)).toNat=a:=by
  rw [BitVec.ofInt_natCast,BitVec.toNat_ofNat];exact Nat.mod_eq_of_lt (by omega)
 have h2:(BitVec.ofInt 8 (b:Int)).toNat=b:=by
  rw [BitVec.ofInt_natCast,BitVec.toNat_ofNat];exact Nat.mod_eq_of_lt (by omega)
 show IntKind.u8.wrap ((BitVec.ofInt 8 (a:Int) &&& BitVec.ofInt 8 (b:Int)).toNat:Int)=_
 rw [BitVec.toNat_and,h1,h2]
 show ((a &&& b:Nat):Int) % 256=_
 omega
theorem p5 (w:World) (m:Nat) (g:Bool) (t:TypeId):bm (w.alloc (.cells #[.int .u8 (m:Nat),.bool g] t)) (.slice (some ⟨w.heap.size,0,none⟩) 1 1) [(m,g)]:=
 .inr ⟨w.heap.size,0,1,rfl,by simp,λk hk=>by
  have:k=0:=by simpa using hk
  subst this;exact ⟨by simp,by simp⟩⟩
theorem Co (pol:Int) (nodes:Nat) (v:Value) (w:World) (ao:Option Addr) (n c:Nat) (hv:v=.slice ao n c) :
  Calls prog 197 #[.int .i64 pol,.int .u8 nodes,.agg #[.bool true,v]] w λe w'=>pZ w [(nodes,true)] e w':=by
 subst hv;have HB:Hid (Below w.heap.size w ((w.alloc (.cells #[.bool true,.slice ao n c] 270)).alloc (.cells #[.int .u8 (nodes:Nat),.bool true] 223))):=((Q0 _ _).alloc (lR) _).alloc (by simp) _;have HO:=p5 (w.alloc (.cells #[.bool true,.slice ao n c] 270)) nodes true 223;simp only [World.size_alloc] at HO;have HO:=qI HO
 go_enter func197,ntmps197
 go_wp2
 go_ret;exact ⟨_,rfl,HO.out,HB.out⟩
theorem Cp (pol:Int) (nodes:Nat) (v:Value) (hs:List Hi) (w:World) (hv:bm w v hs) (hlow:Low hs) (hl:hs.length<=16) (hn:nodes<256) (hp:0<=pol/\pol<=3) :
  Calls prog 197 #[.int .i64 pol,.int .u8 nodes,.agg #[.bool false,v]] w λe w'=>pZ w (dZ pol nodes ⟨false,hs⟩) e w':=by
 obtain ⟨ao,c,rfl,hc⟩:=hv.form;have HC:=qI hc;clear hc hv;have HX:Hid (Below w.heap.size w (w.alloc (.cells #[.bool false,.slice ao hs.length c] 270))):=(Q0 _ _).alloc (lR) _;have Hx:=qI hlow;clear hlow
 go_enter func197,ntmps197
 go_wp2_with fail
 have Ht:=qI λ(w:World)=>p5 w nodes false 223
 go_loopw [7,18] (λl i wr=>∃ k:Nat,k<=hs.length/\i=.int .i64 k/\Hid (wr.ownsRow (w.heap.size+1) 223 2 l (cG pol nodes hs k).length (dM (cG pol nodes hs k)))/\Hid (Below (w.heap.size+1) (w.alloc (.cells #[.bool false,.slice ao hs.length c] 270)) wr)/\w.heap.size+1<=wr.heap.size) (λ_ i _=>hs.length - (intOf i).toNat)
 case atStart=>exact ⟨0,by omega,rfl,Qw _ _ _ _,Q0 _ _,by simp⟩
 case round=>
  obtain ⟨k,hk,rfl,HR,HB,Hw⟩:=hrel;have Hz:=Ost.tY pol nodes hs k
  by_cases hlt:k<hs.length
  ·obtain ⟨b,o,rfl,hb,Hr⟩:=HC.out (by omega);obtain ⟨c0,c1⟩:=Hr k hlt
   replace c0:=((HB.out.cell (p:=⟨b,o+k*2,none⟩) (by show b<w.heap.size+1;omega)).trans (HX.out.cell (p:=⟨b,o+k*2,none⟩) hb)).trans c0
   replace c1:=((HB.out.cell (p:=⟨b,o+k*2+1,none⟩) (by show b<w.heap.size+1;omega)).trans (HX.out.cell (p:=⟨b,o+k*2+1,none⟩) hb)).trans c1
   have hx:=Hx.out _ (Ost.dX hs (0,false) k hlt);have Hq:cG pol nodes hs (k+1)=if okH pol (hs.getD k (0,false)) then dY (cG pol nodes hs k) (within nodes (hs.getD k (0,false))) else cG pol nodes hs k:=rfl
   have Hl:=qI Hq;clear Hq Hr;generalize hs.getD k (0,false)=x at *;obtain ⟨m,g⟩:=x;simp only at c0 c1 hx;have HP:=qI λw=>lW m w hx;have HA:=Ost.jk m;have Hu:=ui m nodes hx hn;have Hh:=qI (HB.out.alloc Hw (.cells #[.int .u8 (m:Nat),.bool g] 223));have Hg:=qI (HR.out.alloc (.cells #[.int .u8 (m:Nat),.bool g] 223));have HW:=qI λv'=>Cm (w.heap.size+1) v' (cG pol nodes hs k) (within nodes (m,g)) (wr.alloc (.cells #[.int .u8 (m:Nat),.bool g] 223))
   unfold vH within at HW;obtain ⟨ao2,c2,rfl⟩:=gw HR.out
   rcases two (decide (pol=3)) with Ha|Ha
   ·have Ha:=of_decide_eq_true Ha;subst Ha
    rcases two g with hg|hg
    ·subst hg
     by_cases hpm:pop8 m=1
     ·have He:Hid (okH 3 (m,true)=true):=by unfold Hid okH;simp [hpm]
      have Ho:((pop8 m:Int) == 1)=true:=by rw [beq_iff_eq];omega
      clear hpm;generalize pop8 m=p at *
      go_wp2_with fail
      refine (HP.out _).mono ?_;rintro e w5 ⟨rfl,Hy⟩;subst w5
      go_wp2_with fail
      refine (HW.out _ Hg.out (by omega) (by simp;omega)).mono ?_;rintro e w2 ⟨v2,rfl,Hk,Hf⟩;have Hj:=qI Hk;have Hm:=qI (Hh.out.trans Hf);have Hc:w.heap.size+1<=w2.heap.size:=Q5 (by simp;omega) Hf.size;obtain ⟨ao3,c3,rfl⟩:=gw Hj.out;clear Hk Hf HW Hg Hh HR HB c0 c1
      go_wp2
      go_roundw
      case rel=>exact ⟨k+1,by omega,by go_num,by rw [Hl.out,if_pos He.out];exact Hj.out,Hm.out,Hc⟩
      case measure=>simp [intOf];omega
     ·have He:Hid (¬ okH 3 (m,true)=true):=by unfold Hid okH;simp [hpm]
      have Ho:((pop8 m:Int) == 1)=false:=by rw [Qr];omega
      clear hpm;generalize pop8 m=p at *
      go_wp2_with fail
      refine (HP.out _).mono ?_;rintro e w5 ⟨rfl,Hy⟩;subst w5
      go_wp2
      go_roundw
      case rel=>exact ⟨k+1,by omega,by go_num,by rw [Hl.out,if_neg He.out];exact Hg.out,Hh.out,by simp;omega⟩
      case measure=>simp [intOf];omega
    ·subst hg;have He:Hid (¬ okH 3 (m,false)=true):=by unfold Hid okH;simp
     go_wp2
     go_roundw
     case rel=>exact ⟨k+1,by omega,by go_num,by rw [Hl.out,if_neg He.out];exact Hg.out,Hh.out,by simp;omega⟩
     case measure=>simp [intOf];omega
   ·have Ha:=of_decide_eq_false Ha;have He:Hid (okH pol (m,g)=true):=by unfold Hid okH;rw [Qc (by omega)];rfl
    have Hs:(pol == 3)=false:=by rw [Qr];exact Ha
    go_wp2_with fail
    refine (HW.out _ Hg.out (by omega) (by simp;omega)).mono ?_;rintro e w2 ⟨v2,rfl,Hk,Hf⟩;have Hj:=qI Hk;have Hm:=qI (Hh.out.trans Hf);have Hc:w.heap.size+1<=w2.heap.size:=Q5 (by simp;omega) Hf.size;obtain ⟨ao3,c3,rfl⟩:=gw Hj.out;clear Hk Hf HW Hg Hh HR HB c0 c1
    go_wp2
    go_roundw
    case rel=>exact ⟨k+1,by omega,by go_num,by rw [Hl.out,if_pos He.out];exact Hj.out,Hm.out,Hc⟩
    case measure=>simp [intOf];omega
  ·have Hv:k=hs.length:=by omega
   subst Hv;have Hb:dZ pol nodes ⟨false,hs⟩=if (cG pol nodes hs hs.length).length=0 then [(nodes,false)] else cG pol nodes hs hs.length:=rfl
   obtain ⟨ao2,c2,rfl⟩:=gw HR.out;have Hp:=qI (HX.out.trans (HB.out.mono (by omega)));have Hn:w.heap.size<=wr.heap.size:=by omega
   by_cases h0:(cG pol nodes hs hs.length).length=0
   ·rw [if_pos h0] at Hb;have Hb:=qI Hb;have HH:=qI (Ht.out wr)
    go_wp2
    go_ret;exact ⟨_,rfl,by rw [Hb.out];exact HH.out,Hp.out.alloc Hn _⟩
   ·rw [if_neg h0] at Hb;have Hb:=qI Hb;have HD:((((cG pol nodes hs hs.length).length:Nat):Int) == 0)=false:=by rw [Qr];omega
    have HH:=qI (bm.of_row HR.out);generalize cG pol nodes hs hs.length=l at *
    go_wp2
    go_ret;exact ⟨_,rfl,by rw [Hb.out];exact HH.out,Hp.out⟩
theorem Cq (pol:Int) (nodes:Nat) (any:Bool) (v:Value) (hs:List Hi) (w:World) (hv:bm w v hs) (hlow:Low hs) (hl:hs.length<=16) (hn:nodes<256) (hp:0<=pol/\pol<=3) :
  Calls prog 197 #[.int .i64 pol,.int .u8 nodes,.agg #[.bool any,v]] w λe w'=>pZ w (dZ pol nodes ⟨any,hs⟩) e w':=by
 cases any
 ·exact Cp pol nodes v hs w hv hlow hl hn hp
 ·obtain ⟨ao,c,Ha,_⟩:=hv.form;exact Co pol nodes v w ao _ c Ha
end
section
open RowKit
open Ost (Hi Wi wi0 Low dY bet pop8 cG dZ okH within dB eL dC com)
def p6 (ws:List Wi):Prop:=∀ y,y∈ws->Low y.hs/\y.hs.length<=16
theorem p7 (pol:Int) (nodes:Nat) (y:Wi) (hn:nodes<256):Low (dZ pol nodes y):=λx hx=>by
 obtain ⟨c,_,rfl⟩:=(Ost.pX ..).1 hx;exact Nat.lt_of_le_of_lt Nat.and_le_right hn
theorem nR {w w':World} {b o:Nat} {v:Value} (h:w'.heap[b]?=w.heap[b]?) (hc:w.cell? ⟨b,o,none⟩=some v):w'.cell? ⟨b,o,none⟩=some v:=(World.cell?_of_block (w:=w) (a:=⟨b,o,none⟩) h).trans hc
def Cr (w:World) (l:List Hi) (e:Ending) (w':World):Prop:=∃ v,e=.returned v/\bm w' v l/\Below w.heap.size w w'/\∀ b o n c,v=.slice (some ⟨b,o,none⟩) n c->w.heap.size<=b
theorem Cs (pol:Int) (nodes:Nat) (v:Value) (ws:List Wi) (w:World) (hv:fQ w v ws) (hw:p6 ws) (hl:ws.length<=4) (hn:nodes<256) (hp:0<=pol/\pol<=3) :
  Calls prog 160 #[.int .i64 pol,.int .u8 nodes,v] w λe w'=>Cr w (dC pol nodes ws ws.length) e w':=by
 have HV:=qI hv;obtain ⟨ao,c,rfl,_⟩:=hv.form;have HO:=qI hw;clear hv hw
 go_enter func160,ntmps160
 go_wp2_with fail
 have HM:=qI (p5 w nodes true 223);have HK:Hid (Below w.heap.size w (w.alloc (.cells #[.int .u8 (nodes:Nat),.bool true] 223))):=(Q0 _ _).alloc (lR) _
 go_loopw [7,21] (λvW i wr=>∃ k:Nat,k<=ws.length/\i=.int .i64 k/\Hid (bm wr vW (dC pol nodes ws k))/\Hid (Below w.heap.size w wr)/\Hid (∀ b o n c,vW=.slice (some ⟨b,o,none⟩) n c->w.heap.size<=b)) (λ_ i _=>ws.length - (intOf i).toNat)
 case atStart=>exact ⟨0,by omega,rfl,HM.out,HK.out,λb o n c h=>by cases h;exact lR⟩
 case round=>
  obtain ⟨k,hk,rfl,HW,HB,H1⟩:=hrel;clear HM HK;have HN:=Ost.uh pol nodes ws (λy hy=>(HO.out y hy).2) k hk;have H4:=Ost.ug k (by omega)
  by_cases hlt:k<ws.length
  ·obtain ⟨ao',c',Hk,Hg⟩:=(HV.out.below HB.out).form;obtain ⟨rfl,rfl⟩:ao=ao'/\c=c':=by simpa using Hk
   obtain ⟨b,o,rfl,hc,Hg⟩:=Hg (by omega);obtain ⟨c0,u,c1,hu⟩:=Hg k hlt;have hy:=HO.out _ (Ost.dX ws wi0 k hlt);have H2:Hid (dC pol nodes ws (k+1)=eL (dZ pol nodes (ws.getD k wi0)) (dC pol nodes ws k) (dZ pol nodes (ws.getD k wi0)).length):=rfl;clear Hg Hk;generalize ws.getD k wi0=y at *;obtain ⟨any,hs⟩:=y;simp only at c0 c1 hu hy;have HD:=qI (Ost.jm.low (Ost.lX pol nodes ws k) hn);have HD:=qI (Ost.jm.low (Ost.lX pol nodes ws k) hn);have HD:=qI (Ost.jm.low (Ost.lX pol nodes ws k) hn);generalize dC pol nodes ws k=W at *;have ha:=Ost.ud pol nodes ⟨any,hs⟩ hy.2;have Hz:=qI (p7 pol nodes ⟨any,hs⟩ hn);have Hz:=qI (p7 pol nodes ⟨any,hs⟩ hn);have Hz:=qI (p7 pol nodes ⟨any,hs⟩ hn);obtain ⟨ao2,c2,rfl,_⟩:=hu.form;have HX:=qI ((Q0 wr.heap.size wr).alloc (lR) (.cells #[.bool any,.slice ao2 hs.length c2] 270));have HI:=qI (Cq pol nodes any (.slice ao2 hs.length c2) hs (wr.alloc (.cells #[.bool any,.slice ao2 hs.length c2] 270)) (hu.below HX.out) hy.1 hy.2 hn hp);have HJ:=qI (HW.out.below HX.out);have Hm:=qI (HB.out.trans (HX.out.mono HB.out.size));have H9:=qI (bm.form HW.out);obtain ⟨aw,cw,rfl,_⟩:=bm.form HW.out;clear hu hy HW HB
   go_wp2_with fail
   refine HI.out.mono ?_;rintro e w2 ⟨vC,rfl,hC,HG⟩;have H5:=qI (HJ.out.below HG);have HL:=qI (Hm.out.trans (HG.mono Hm.out.size));have HC:=qI hC;generalize dZ pol nodes ⟨any,hs⟩=C at *;obtain ⟨ac,cc,rfl,_⟩:=hC.form;clear hC HG HJ Hm HI HX c0 c1
   go_wp2_with fail
   generalize hB2:w2.heap.size=B at *
   go_loopw [10,30] (λvN i wq=>∃ i':Nat,i'<=C.length/\i=.int .i64 i'/\Hid (wq.ownsRow B 223 2 vN (eL C W i').length (dM (eL C W i')))/\Hid (Below B w2 wq)) (λ_ i _=>C.length - (intOf i).toNat)
   case atStart=>exact ⟨0,by omega,rfl,Qw _ _ _ _,Q0 _ _⟩
   case round=>
    obtain ⟨i',hi,rfl,HR,Hq⟩:=hrel;have HA:B<=wr.heap.size:=Q5 (Nat.le_of_eq hB2.symm) Hq.out.size;have he:=Ost.uf C W i';have hb:i'*W.length<=16*65536:=Nat.mul_le_mul (by omega) (by omega);have Hp:Hid (eL C W (i'+1)=dB (C.getD i' (0,false)) W (eL C W i') W.length):=rfl;obtain ⟨an0,cn0,rfl⟩:=gw HR.out
    by_cases hit:i'<C.length
    ·obtain ⟨ac',cc',Hk,Hg⟩:=(HC.out.below (by rw [hB2];exact Hq.out)).form;obtain ⟨rfl,rfl⟩:ac=ac'/\cc=cc':=by simpa using Hk
     obtain ⟨b3,o3,rfl,H8,Hg⟩:=Hg (by omega);obtain ⟨d0,d1⟩:=Hg i' hit;have hm:=Hz.out _ (Ost.dX C (0,false) i' hit);clear Hg Hk;generalize C.getD i' (0,false)=x at *;obtain ⟨m,g⟩:=x;simp only at d0 d1 hm;generalize eL C W i'=N at *;have HT:=qI (HR.out.alloc (.cells #[.int .u8 (m:Nat),.bool g] 223));have Hm:=qI (Hq.out.alloc HA (.cells #[.int .u8 (m:Nat),.bool g] 223));have HS:=qI (HR.out.lt);have Hx:(wr.alloc (.cells #[.int .u8 (m:Nat),.bool g] 223)).cell? ⟨wr.heap.size,0,none⟩=some (.int .u8 (m:Nat)):=by simp
     have Hw:(wr.alloc (.cells #[.int .u8 (m:Nat),.bool g] 223)).cell? ⟨wr.heap.size,1,none⟩=some (.bool g):=by simp
     have Hx:=qI Hx;have Hw:=qI Hw;clear HR Hq
     go_wp2_with fail
     generalize hLL:wr.heap.size=L at *
     go_loopw [10,36] (λvN i wx=>∃ (j:Nat) (vv:Value),j<=W.length/\i=.int .i64 j/\vN=vv/\Hid (wx.ownsRow B 223 2 vv (dB (m,g) W N j).length (dM (dB (m,g) W N j)))/\Hid (Below B w2 wx)/\wx.cell? ⟨L,0,none⟩=some (.int .u8 (m:Nat))/\wx.cell? ⟨L,1,none⟩=some (.bool g)/\Hid (some L≠vv.ownBlock)) (λ_ i _=>W.length - (intOf i).toNat)
     case atStart=>exact ⟨0,_,by omega,rfl,rfl,HT.out,Hm.out,Hx.out,Hw.out,λh=>by have:=(HS.out L h.symm).2;omega⟩
     case round=>
      obtain ⟨j,vv,hj,rfl,rfl,Hl,Hu,l0,l1,He⟩:=hrel;clear HT Hm Hx Hw HS hLL;have Hs:B<=wr.heap.size:=Q5 (Nat.le_of_eq hB2.symm) Hu.out.size;have hg:=Q3 _ _ l0;have HY:=Ost.ue (m,g) W N j;obtain ⟨an,cn,rfl⟩:=gw Hl.out
      by_cases hjt:j<W.length
      ·obtain ⟨aw',cw',Hk,Hg⟩:=(H5.out.below (by rw [hB2];exact Hu.out)).form;obtain ⟨rfl,rfl⟩:aw=aw'/\cw=cw':=by simpa using Hk
       obtain ⟨b4,o4,rfl,H7,Hg⟩:=Hg (by omega);obtain ⟨q0,q1⟩:=Hg j hjt;have HQ:=HD.out _ (Ost.dX W (0,false) j hjt);have Ha:dB (m,g) W N (j+1)=if (Ost.com (W.getD j (0,false)) (m,g)).1=0 then dB (m,g) W N j else dY (dB (m,g) W N j) (Ost.com (W.getD j (0,false)) (m,g)):=rfl
       clear Hg Hk;generalize W.getD j (0,false)=z at *;obtain ⟨p,f⟩:=z;simp only at q0 q1 HQ;have Hn:=ui p m HQ hm
       rcases two f with hf|hf
       ·subst hf;have HE:Hid (Ost.com (p,true) (m,g)=(p &&& m,g)):=by cases g <;> rfl
        rw [HE.out] at Ha;have Hj:=qI (pY B (.slice an (dB (m,g) W N j).length cn) (dB (m,g) W N j) (p &&& m,g) ((wr.alloc (.cells #[.int .u8 (p:Nat),.bool true] 223)).alloc (.cells #[.int .u8 ((p &&& m:Nat):Int),.bool g] 223)) ((Hl.out.alloc _).alloc _) (by omega) (by simp;omega));unfold vH at Hj;have Hb:=qI ((Hu.out.alloc Hs (.cells #[.int .u8 (p:Nat),.bool true] 223)).alloc (by simp;omega) (.cells #[.int .u8 ((p &&& m:Nat):Int),.bool g] 223));have Hf:=qI ((Hl.out.alloc (.cells #[.int .u8 (p:Nat),.bool true] 223)).alloc (.cells #[.int .u8 ((p &&& m:Nat):Int),.bool g] 223));have z0:=eY l0 (.cells #[.int .u8 (p:Nat),.bool true] 223);have z1:=eY l1 (.cells #[.int .u8 (p:Nat),.bool true] 223);have zz0:=eY z0 (.cells #[.int .u8 ((p &&& m:Nat):Int),.bool g] 223);have zz1:=eY z1 (.cells #[.int .u8 ((p &&& m:Nat):Int),.bool g] 223)
        by_cases hz:p &&& m=0
        ·have Ho:((p &&& m:Nat):Int)=0:=by omega
         rw [if_pos hz] at Ha;have Ha:=qI Ha;rw [Ho] at Hb Hf zz0 zz1 Hn;clear hz Ho Hj
         go_wp2
         go_roundw
         case rel=>exact ⟨j+1,_,by omega,by go_num,rfl,by rw [Ha.out];exact Hf.out,Hb.out,zz0,zz1,He.out⟩
         case measure=>simp [intOf];omega
        ·have HU:(((p &&& m:Nat):Int) == 0)=false:=by rw [Qr];omega
         rw [if_neg hz] at Ha;have Ha:=qI Ha;have hz:=qI hz;generalize p &&& m=pm at *
         go_wp2_with fail
         refine Hj.out.mono ?_;rintro e w5 ⟨v5,rfl,Ht,Hr,Hc⟩;have Hv:=qI Ht;have Hy:=qI (Hb.out.trans Hr);have Hi:L<((wr.alloc (.cells #[.int .u8 (p:Nat),.bool true] 223)).alloc (.cells #[.int .u8 (pm:Int),.bool g] 223)).heap.size:=by simp;omega
         have y0:=nR (Hc L Hi He.out).1 zz0;have y1:=nR (Hc L Hi He.out).1 zz1;have Hh:=qI (Hc L Hi He.out).2;obtain ⟨a5,c5,rfl⟩:=gw Hv.out;clear Ht Hr Hc Hi Hj zz0 zz1 z0 z1 l0 l1 Hb Hf
         go_wp2
         go_roundw
         case rel=>exact ⟨j+1,_,by omega,by go_num,rfl,by rw [Ha.out];exact Hv.out,Hy.out,y0,y1,Hh.out⟩
         case measure=>simp [intOf];omega
       ·subst hf;have HE:Hid (Ost.com (p,false) (m,g)=(p &&& m,false)):=by rfl
        rw [HE.out] at Ha;have Hj:=qI (pY B (.slice an (dB (m,g) W N j).length cn) (dB (m,g) W N j) (p &&& m,false) ((wr.alloc (.cells #[.int .u8 (p:Nat),.bool false] 223)).alloc (.cells #[.int .u8 ((p &&& m:Nat):Int),.bool false] 223)) ((Hl.out.alloc _).alloc _) (by omega) (by simp;omega));unfold vH at Hj;have Hb:=qI ((Hu.out.alloc Hs (.cells #[.int .u8 (p:Nat),.bool false] 223)).alloc (by simp;omega) (.cells #[.int .u8 ((p &&& m:Nat):Int),.bool false] 223));have Hf:=qI ((Hl.out.alloc (.cells #[.int .u8 (p:Nat),.bool false] 223)).alloc (.cells #[.int .u8 ((p &&& m:Nat):Int),.bool false] 223));have z0:=eY l0 (.cells #[.int .u8 (p:Nat),.bool false] 223);have z1:=eY l1 (.cells #[.int .u8 (p:Nat),.bool false] 223);have zz0:=eY z0 (.cells #[.int .u8 ((p &&& m:Nat):Int),.bool false] 223);have zz1:=eY z1 (.cells #[.int .u8 ((p &&& m:Nat):Int),.bool false] 223)
        by_cases hz:p &&& m=0
        ·have Ho:((p &&& m:Nat):Int)=0:=by omega
         rw [if_pos hz] at Ha;have Ha:=qI Ha;rw [Ho] at Hb Hf zz0 zz1 Hn;clear hz Ho Hj
         go_wp2
         go_roundw
         case rel=>exact ⟨j+1,_,by omega,by go_num,rfl,by rw [Ha.out];exact Hf.out,Hb.out,zz0,zz1,He.out⟩
         case measure=>simp [intOf];omega
        ·have HU:(((p &&& m:Nat):Int) == 0)=false:=by rw [Qr];omega
         rw [if_neg hz] at Ha;have Ha:=qI Ha;have hz:=qI hz;generalize p &&& m=pm at *
         go_wp2_with fail
         refine Hj.out.mono ?_;rintro e w5 ⟨v5,rfl,Ht,Hr,Hc⟩;have Hv:=qI Ht;have Hy:=qI (Hb.out.trans Hr);have Hi:L<((wr.alloc (.cells #[.int .u8 (p:Nat),.bool false] 223)).alloc (.cells #[.int .u8 (pm:Int),.bool false] 223)).heap.size:=by simp;omega
         have y0:=nR (Hc L Hi He.out).1 zz0;have y1:=nR (Hc L Hi He.out).1 zz1;have Hh:=qI (Hc L Hi He.out).2;obtain ⟨a5,c5,rfl⟩:=gw Hv.out;clear Ht Hr Hc Hi Hj zz0 zz1 z0 z1 l0 l1 Hb Hf
         go_wp2
         go_roundw
         case rel=>exact ⟨j+1,_,by omega,by go_num,rfl,by rw [Ha.out];exact Hv.out,Hy.out,y0,y1,Hh.out⟩
         case measure=>simp [intOf];omega
      ·have H3:j=W.length:=by omega
       subst H3
       go_wp2
       go_roundw
       case rel=>exact ⟨i'+1,by omega,by go_num,by rw [Hp.out];exact Hl.out,Hu.out⟩
       case measure=>simp [intOf];omega
    ·have HZ:i'=C.length:=by omega
     subst HZ;have HH:=qI (bm.of_row HR.out);have HP:w.heap.size<=B:=by rw [<- hB2];exact HL.out.size
     have H0:=qI (HL.out.trans (Hq.out.mono HP));have HF:=qI (tS HR.out HP)
     go_wp2
     go_roundw
     case rel=>exact ⟨k+1,by omega,by go_num,by rw [H2.out];exact HH.out,H0.out,HF.out⟩
     case measure=>simp [intOf];omega
  ·have H6:k=ws.length:=by omega
   subst H6;obtain ⟨aw,cw,rfl,_⟩:=bm.form HW.out
   go_wp2
   go_ret;exact ⟨_,rfl,HW.out,HB.out,H1.out⟩
end
section
open RowKit
open Ost (Hi Wi wi0 Low bet pop8 dC dq tT told)
theorem nS {fn:Func} {p u t:Tmp} {ty:TypeId} (h:fn.results=#[.cell p ty,.tmp u,.tmp t]) (tmps:Array Value) (P:Program) (w:World) :
  (results fn tmps).run P w =
   ((asAddr (tmps.getD p undef)).run P w).andThen λa w₁=>((loadVar ty a).run P w₁).andThen λv w₂=>.ok (.tuple #[v,tmps.getD u undef,tmps.getD t undef]) w₂:=by
 simp only [results,h]
 simp [Sem.run_bind,Result.andThen]
theorem uj {nodes:Nat} (h:nodes<=15):bits BinOp.andNot IntKind.u8 (nodes:Int) 15=0:=by
 have key:∀ (x:Fin 16),bits BinOp.andNot IntKind.u8 ((x.val:Nat):Int) 15=0:=by decide +kernel
 exact key ⟨nodes,by omega⟩
theorem Cu (nodes:Nat) (ao:Option Addr) (n c:Nat) (w:World) (hn:1<=nodes/\nodes<=15) (hl:n<=4) :
  Calls prog 126 #[.int .i64 0,.int .u8 nodes,.slice ao n c] w λe w'=>e=.returned (.tuple #[vH (nodes,true),.bool true,.nilIface])/\Below w.heap.size w w':=by
 have HB:Hid (Below w.heap.size w (w.alloc (.cells #[.int .u8 0,.bool false] 223))):=(Q0 _ _).alloc (lR) _;unfold vH;have Ha:=uj hn.2;have h4:((nodes:Int) == 0)=false:=by rw [Qr];omega
 go_enter func126,ntmps126
 go_wp2_with fail
 (try simp only [Exit.inBlock,Exit.then]);refine bodyPost_ret (v:=.tuple #[.agg #[.int .u8 nodes,.bool true],.bool true,.nilIface]) ?_ rfl ⟨rfl,?_⟩
 ·rw [nS rfl];go_simp
 ·first
   | exact HB.out
   | exact (Q0 _ _).alloc (lR) _
   | exact (HB.out.setCell (lR) _).setCell (lR) _
structure gU (u:World) (N:Nat) (h:Hi):Prop where
 c00:u.cell? ⟨N,0,none⟩=some (.int .u8 0)
 c01:u.cell? ⟨N,1,none⟩=some (.bool false)
 c10:u.cell? ⟨N+1,0,none⟩=some (.int .u8 (h.1:Nat))
 c11:u.cell? ⟨N+1,1,none⟩=some (.bool h.2)
 f00:u.frozen? ⟨N,0,none⟩=false
 f01:u.frozen? ⟨N,1,none⟩=false
 f10:u.frozen? ⟨N+1,0,none⟩=false
 f11:u.frozen? ⟨N+1,1,none⟩=false
theorem gU.lt {u:World} {N:Nat} {h:Hi} (e:gU u N h):N+1<u.heap.size:=Q3 u _ e.c10
theorem gU.below {u u':World} {N K:Nat} {h:Hi} (e:gU u N h) (hb:Below K u u') (hK:N+2<=K):gU u' N h:=
 ⟨(hb.cell (p:=⟨N,0,none⟩) (by show N<K;omega)).trans e.c00,(hb.cell (p:=⟨N,1,none⟩) (by show N<K;omega)).trans e.c01,(hb.cell (p:=⟨N+1,0,none⟩) (by show N+1<K;omega)).trans e.c10,(hb.cell (p:=⟨N+1,1,none⟩) (by show N+1<K;omega)).trans e.c11,
  (hb.frozen (p:=⟨N,0,none⟩) (by show N<K;omega)).trans e.f00,(hb.frozen (p:=⟨N,1,none⟩) (by show N<K;omega)).trans e.f01,(hb.frozen (p:=⟨N+1,0,none⟩) (by show N+1<K;omega)).trans e.f10,(hb.frozen (p:=⟨N+1,1,none⟩) (by show N+1<K;omega)).trans e.f11⟩
theorem gU.set {u:World} {N:Nat} {h:Hi} (e:gU u N h) (m:Nat) (g:Bool):gU ((u.setCell ⟨N+1,0,none⟩ (.int .u8 (m:Nat))).setCell ⟨N+1,1,none⟩ (.bool g)) N (m,g):=by
 obtain ⟨c00,c01,c10,c11,f00,f01,f10,f11⟩:=e;refine ⟨?_,?_,?_,?_,?_,?_,?_,?_⟩ <;> go_simp
theorem bm.set {w:World} {v:Value} {l:List Hi} {N:Nat} (h:bm w v l) (hfr:∀ b o n c,v=.slice (some ⟨b,o,none⟩) n c->N+2<=b) (x y:Value):bm ((w.setCell ⟨N+1,0,none⟩ x).setCell ⟨N+1,1,none⟩ y) v l:=by
 rcases h with h|⟨b,o,c',hv,Ha,hc⟩
 ·exact .inl h
 ·have hb:=hfr b o _ _ hv;refine .inr ⟨b,o,c',hv,by simpa using Ha,λk hk=>?_⟩;have e1:((w.setCell ⟨N+1,0,none⟩ x).setCell ⟨N+1,1,none⟩ y).heap[b]?=w.heap[b]?:=by
   rw [Below.heap_setCell _ _ _ _ (by show b≠N+1;omega),Below.heap_setCell _ _ _ _ (by show b≠N+1;omega)]
  exact ⟨(World.cell?_of_block (w:=w) (a:=⟨b,o+k*2,none⟩) e1).trans (hc k hk).1,(World.cell?_of_block (w:=w) (a:=⟨b,o+k*2+1,none⟩) e1).trans (hc k hk).2⟩
theorem Cv (pol:Int) (nodes:Nat) (v:Value) (ws:List Wi) (w:World) (hv:fQ w v ws) (hw:p6 ws) (hl:ws.length<=4) (hn:1<=nodes/\nodes<=15) (hp:1<=pol/\pol<=3) :
  Calls prog 126 #[.int .i64 pol,.int .u8 nodes,v] w λe w'=>e=.returned (.tuple #[vH (told pol nodes ws),.bool ((told pol nodes ws).2 || decide (pol=1)),.nilIface])/\Below w.heap.size w w':=by
 have HX:Hid (Below w.heap.size w ((w.alloc (.cells #[.int .u8 0,.bool false] 223)).alloc (.cells #[.int .u8 (nodes:Nat),.bool false] 223))):=((Q0 _ _).alloc (lR) _).alloc (by simp) _;have HO:=qI (Cs pol nodes v ws ((w.alloc (.cells #[.int .u8 0,.bool false] 223)).alloc (.cells #[.int .u8 (nodes:Nat),.bool false] 223)) (hv.below HX.out) hw hl (by omega) (by omega));have Hw:=qI (Ost.jm.low (Ost.lX pol nodes ws ws.length) (show nodes<256 by omega));have HJ:Hid (told pol nodes ws=dq (dC pol nodes ws ws.length) (nodes,false) (dC pol nodes ws ws.length).length):=rfl;have Hv:=Ost.uh pol nodes ws (λy hy=>(hw y hy).2) ws.length (lR);have HH:=Ost.ug ws.length hl;generalize told pol nodes ws=T at *;generalize dC pol nodes ws ws.length=W at *;obtain ⟨ao,c,rfl,_⟩:=hv.form;clear hv hw;have HG:=uj hn.2;have h4:((nodes:Int) == 0)=false:=by rw [Qr];omega
 obtain ⟨HN,HQ⟩:=hp;have HR:0<=pol:=by omega
 have HS:(pol == 0)=false:=by rw [Qr];omega
 have Hx:Hid (gU ((w.alloc (.cells #[.int .u8 0,.bool false] 223)).alloc (.cells #[.int .u8 (nodes:Nat),.bool false] 223)) w.heap.size (nodes,false)):=by
  refine ⟨?_,?_,?_,?_,?_,?_,?_,?_⟩ <;> go_simp
 unfold vH at *
 go_enter func126,ntmps126
 go_wp2_with fail
 refine HO.out.mono ?_;rintro e w2 ⟨vC,rfl,hC,Hq,Hy⟩;have HB:=qI (HX.out.trans (Hq.mono (by simp;omega)));have HE:=qI (Hx.out.below Hq (by simp));have HC:=qI hC;have HF:Hid (∀ b o n c,vC=.slice (some ⟨b,o,none⟩) n c->w.heap.size+2<=b):=λb o n c h=>Q5 (by simp) (Hy b o n c h)
 obtain ⟨ac,cc,rfl,_⟩:=hC.form;clear hC Hq Hx HO HX Hy
 go_wp2
 go_loopw [45] (λi wr=>∃ k:Nat,k<=W.length/\i=.int .i64 k/\Hid (gU wr w.heap.size (dq W (nodes,false) k))/\Hid (bm wr (.slice ac W.length cc) W)/\Hid (Below w.heap.size w wr)) (λi _=>W.length - (intOf i).toNat)
 case atStart=>exact ⟨0,by omega,rfl,HE.out,HC.out,HB.out⟩
 case round=>
  obtain ⟨k,hk,rfl,Ha,Ho,Hj⟩:=hrel;clear HE HC HB;have Hb:=Ost.tU Hw.out (show ((nodes,false):Hi).1<256 by show nodes<256;omega) k hk
  by_cases hlt:k<W.length
  ·obtain ⟨ac',cc',Ht,Hh⟩:=Ho.out.form;obtain ⟨rfl,rfl⟩:ac=ac'/\cc=cc':=by simpa using Ht
   obtain ⟨b,o,rfl,HP,Hh⟩:=Hh (by omega);obtain ⟨c0,c1⟩:=Hh k hlt;have hx:=Hw.out _ (Ost.dX W (0,false) k hlt);have Hc:dq W (nodes,false) (k+1)=if bet (W.getD k (0,false)) (dq W (nodes,false) k) then W.getD k (0,false) else dq W (nodes,false) k:=rfl
   clear Hh Ht;generalize W.getD k (0,false)=x at *;generalize dq W (nodes,false) k=y at *;obtain ⟨m,g⟩:=x;obtain ⟨p,f⟩:=y;simp only at c0 c1 hx Hb;have HX:=qI ((Q0 wr.heap.size wr).alloc (lR) (.cells #[.int .u8 (m:Nat),.bool g] 223));have Hg:=qI (Ha.out.below HX.out Ha.out.lt);have Hu:=qI (Ho.out.below HX.out);have Hr:=qI (Hj.out.trans (HX.out.mono Hj.out.size));have HM:=Ha.out.lt;have e0:=Hg.out.c10;have e1:=Hg.out.c11;simp only at e0 e1;have Hp:=qI (Cn (m,g) (p,f) (wr.alloc (.cells #[.int .u8 (m:Nat),.bool g] 223)) hx Hb);have Hl:(wr.alloc (.cells #[.int .u8 (m:Nat),.bool g] 223)).cell? ⟨wr.heap.size,0,none⟩=some (.int .u8 (m:Nat)):=by simp
   have Hk:(wr.alloc (.cells #[.int .u8 (m:Nat),.bool g] 223)).cell? ⟨wr.heap.size,1,none⟩=some (.bool g):=by simp
   have Hl:=qI Hl;have Hk:=qI Hk;unfold vH at Hp;clear Ha Ho Hj
   go_wp2_with fail
   refine Hp.out.mono ?_;rintro e w5 ⟨rfl,Hf⟩;have He:=qI (Hg.out.below Hf Hg.out.lt);have Hz:=qI (Hu.out.below Hf);have Hs:=qI (Hr.out.trans (Hf.mono Hr.out.size));have l0:=(Hf.cell (p:=⟨wr.heap.size,0,none⟩) (by simp)).trans Hl.out;have l1:=(Hf.cell (p:=⟨wr.heap.size,1,none⟩) (by simp)).trans Hk.out;clear Hf Hp Hl Hk Hg Hu Hr HX c0 c1 e0 e1
   rcases two (bet (m,g) (p,f)) with Hn|Hn
   ·rw [Hn] at Hc ⊢;rw [if_pos rfl] at Hc;have Hc:=qI Hc;have HD:=qI (He.out.set m g);have HI:=qI (Hz.out.set HF.out (.int .u8 (m:Nat)) (.bool g));have HA:=qI ((Hs.out.setCell (p:=⟨w.heap.size+1,0,none⟩) (by show w.heap.size<=w.heap.size+1;omega) (.int .u8 (m:Nat))).setCell (p:=⟨w.heap.size+1,1,none⟩) (by show w.heap.size<=w.heap.size+1;omega) (.bool g));have e0:=He.out.c10;have e1:=He.out.c11;have f0:=He.out.f10;have f1:=He.out.f11;simp only at e0 e1
    go_wp2
    go_roundw
    case rel=>exact ⟨k+1,by omega,by go_num,by rw [Hc.out];exact HD.out,HI.out,HA.out⟩
    case measure=>simp [intOf];omega
   ·rw [Hn] at Hc ⊢;rw [if_neg (by decide)] at Hc;have Hc:=qI Hc
    go_wp2
    go_roundw
    case rel=>exact ⟨k+1,by omega,by go_num,by rw [Hc.out];exact He.out,Hz.out,Hs.out⟩
    case measure=>simp [intOf];omega
  ·have HK:k=W.length:=by omega
   subst HK;rw [<- HJ.out] at Ha Hb;obtain ⟨p,f⟩:=T;have e0:=Ha.out.c10;have e1:=Ha.out.c11;have d0:=Ha.out.c00;have d1:=Ha.out.c01;have f0:=Ha.out.f00;have f1:=Ha.out.f01;simp only at e0 e1;have Hm:=qI ((Hj.out.setCell (p:=⟨w.heap.size,0,none⟩) (lR) (.int .u8 (p:Nat))).setCell (p:=⟨w.heap.size,1,none⟩) (lR) (.bool f))
   rcases two f with hf|hf
   ·subst hf
    go_wp2_with fail
    (try simp only [Exit.inBlock,Exit.then]);refine bodyPost_ret (v:=.tuple #[.agg #[.int .u8 (p:Nat),.bool true],.bool true,.nilIface]) ?_ rfl ⟨rfl,Hm.out⟩;rw [nS rfl];go_simp
   ·subst hf
    by_cases hq:pol=1
    ·have hd:Hid (decide (pol=1)=true):=Qc hq;have HL:(pol == 1)=true:=by rw [beq_iff_eq];exact hq
     clear hq
     go_wp2_with fail
     (try simp only [Exit.inBlock,Exit.then]);refine bodyPost_ret (v:=.tuple #[.agg #[.int .u8 (p:Nat),.bool false],.bool true,.nilIface]) ?_ rfl ⟨by rw [hd.out],Hm.out⟩;rw [nS rfl];go_simp
    ·have hd:Hid (decide (pol=1)=false):=Q7 hq;have HL:(pol == 1)=false:=by rw [Qr];exact hq
     clear hq
     go_wp2_with fail
     (try simp only [Exit.inBlock,Exit.then]);refine bodyPost_ret (v:=.tuple #[.agg #[.int .u8 (p:Nat),.bool false],.bool false,.nilIface]) ?_ rfl ⟨by rw [hd.out],Hm.out⟩;rw [nS rfl];go_simp
end
