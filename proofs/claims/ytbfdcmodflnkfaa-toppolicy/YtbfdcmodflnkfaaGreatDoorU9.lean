/- HFor2, MEnv, DCnt2, OMath5, VR3, VR4, DCnt3, TSame, RK8, OJ2, MW1, OMath6 -/
import Derived.Test.YtbfdcmodflnkfaaGreatDoorU8
import Derived.Deep.SlicePairs
import Derived.Laws.IdiomArrays
set_option maxRecDepth 100000
set_option maxHeartbeats 16000000
namespace Go.Proofs.YtbfdcmodflnkfaaGreatDoor
section
open Go.RowKit
open Ost (N4 sumTo sumOn Sm pop8 isSub masksTo fewTo hintsTo goodH)
def hintCells (l:List (Nat × Bool)):List Value:=l.flatMap fun h=>[.int .u8 (h.1:Nat),.bool h.2]
theorem hintCells_snoc (l:List (Nat × Bool)) (h:Nat × Bool):hintCells (l++[h])=hintCells l++[.int .u8 (h.1:Nat),.bool h.2]:=by simp [hintCells]
theorem hintCells_at (l:List (Nat × Bool)) (k:Nat) (hk:k<l.length):(hintCells l)[k*2]?=some (.int .u8 ((l.getD k (0,false)).1:Nat))∧(hintCells l)[k*2+1]?=some (.bool (l.getD k (0,false)).2):=by
 induction l generalizing k with
 | nil=>simp at hk
 | cons a r ih=>
  cases k with
  | zero=>simp [hintCells]
  | succ k=>
   have:=ih k (by simpa using hk)
   have e:hintCells (a :: r)=[.int .u8 (a.1:Nat),.bool a.2]++hintCells r:=rfl
   rw [e,show (k+1)*2=k*2+2 by omega]
   simpa using this
def HintsAt (w:World) (v:Value) (l:List (Nat × Bool)):Prop:=
 (l=[]∧∃ ao c,v=.slice ao 0 c)∨∃ b o c,v=.slice (some ⟨b,o,none⟩) l.length c∧b<w.heap.size∧∀ k,k<l.length→w.cell? ⟨b,o+k*2,none⟩=some (.int .u8 ((l.getD k (0,false)).1:Nat))∧w.cell? ⟨b,o+k*2+1,none⟩=some (.bool (l.getD k (0,false)).2)
theorem HintsAt.below {w w':World} {v:Value} {l:List (Nat × Bool)} (h:HintsAt w v l) (hb:Below w.heap.size w w'):HintsAt w' v l:=by
 rcases h with h|⟨b,o,c,hv,hlt,hc⟩
 ·exact .inl h
 ·refine .inr ⟨b,o,c,hv,Nat.lt_of_lt_of_le hlt hb.size,fun k hk=>?_⟩
  obtain ⟨h1,h2⟩:=hc k hk
  exact ⟨(hb.cell (p:=⟨b,o+k*2,none⟩) hlt).trans h1,(hb.cell (p:=⟨b,o+k*2+1,none⟩) hlt).trans h2⟩
theorem HintsAt.of_row {w:World} {base:Nat} {e:TypeId} {v:Value} {l:List (Nat × Bool)} (h:w.ownsRow base e 2 v l.length (hintCells l)):HintsAt w v l:=by
 rcases h.2 with ⟨rfl,h0⟩|⟨g,cap,cur,rfl,hg,_⟩
 ·exact .inl ⟨List.eq_nil_of_length_eq_zero h0,none,0,rfl⟩
 ·refine .inr ⟨g,0,cap,rfl,(h.lt g rfl).2,fun k hk=>?_⟩
  obtain ⟨c0,c1⟩:=hintCells_at l k hk
  rw [Nat.zero_add,h.cellAt (k*2) (by omega),h.cellAt (k*2+1) (by omega)]
  exact ⟨c0,c1⟩
theorem infoHint:(Tryz.prog.info? 181).map (fun i=>(i.zero,i.size,i.bytes))=some (some (.agg #[.int .u8 0,.bool false]),2,2):=by kernel_rfl
structure FEnv (u:World) (N:Nat) (free all:N4) (many:Int):Prop where
 f:Four u N free.a free.b free.c free.d
 a:Four u (N+1) all.a all.b all.c all.d
 m:u.cell? ⟨N+2,0,none⟩=some (.int .i64 many)
 r0:u.cell? ⟨N+3,0,none⟩=some (.bool false)
 r1:u.cell? ⟨N+3,1,none⟩=some (.slice none 0 0)
 z0:u.frozen? ⟨N+3,0,none⟩=false
 z1:u.frozen? ⟨N+3,1,none⟩=false
theorem FEnv.lt {u:World} {N:Nat} {free all:N4} {many:Int} (h:FEnv u N free all many):N+3<u.heap.size:=World.block_lt_of_cell? u _ h.r0
theorem FEnv.below {u u':World} {N K:Nat} {free all:N4} {many:Int} (h:FEnv u N free all many) (hb:Below K u u') (hK:N+4≤K):FEnv u' N free all many:=
 ⟨h.f.below hb (by omega),h.a.below hb (by omega),(hb.cell (p:=⟨N+2,0,none⟩) (by show N+2<K;omega)).trans h.m,(hb.cell (p:=⟨N+3,0,none⟩) (by show N+3<K;omega)).trans h.r0,(hb.cell (p:=⟨N+3,1,none⟩) (by show N+3<K;omega)).trans h.r1,(hb.frozen (p:=⟨N+3,0,none⟩) (by show N+3<K;omega)).trans h.z0,(hb.frozen (p:=⟨N+3,1,none⟩) (by show N+3<K;omega)).trans h.z1⟩
abbrev forWorld (w:World) (free all:N4) (many:Int):World:=(((w.alloc (.cells #[.int .i64 free.a,.int .i64 free.b,.int .i64 free.c,.int .i64 free.d] 221)).alloc (.cells #[.int .i64 all.a,.int .i64 all.b,.int .i64 all.c,.int .i64 all.d] 221)).alloc (.cells #[.int .i64 many] 3)).alloc (.cells #[.bool false,.slice none 0 0] 232)
theorem FEnv.made (w:World) (free all:N4) (many:Int):FEnv (forWorld w free all many) w.heap.size free all many:=by
 refine ⟨(((Four.made w _ _ _ _ _).alloc _).alloc _).alloc _,?_,?_,?_,?_,?_,?_⟩
 ·have:=((Four.made (w.alloc (.cells #[.int .i64 free.a,.int .i64 free.b,.int .i64 free.c,.int .i64 free.d] 221)) 221 all.a all.b all.c all.d).alloc (.cells #[.int .i64 many] 3)).alloc (.cells #[.bool false,.slice none 0 0] 232)
  simpa using this
 ·go_simp
 ·go_simp
 ·go_simp
 ·go_simp
 ·go_simp
theorem forBelow (w:World) (free all:N4) (many:Int):Below w.heap.size w (forWorld w free all many):=
 ((((Below.refl _ _).alloc (Nat.le_refl _) _).alloc (by simp) _).alloc (by simp;omega) _).alloc (by simp;omega) _
def MCells (u:World) (g:Nat) (L:List Nat):Prop:=∀ k,k<L.length→u.cell? ⟨g,k,none⟩=some (.int .u8 (L.getD k 0:Nat))
theorem MCells.below {u u':World} {g K:Nat} {L:List Nat} (h:MCells u g L) (hb:Below K u u') (hK:g<K):MCells u' g L:=fun k hk=>(hb.cell (p:=⟨g,k,none⟩) hK).trans (h k hk)
def ForRes (w:World) (l:List (Nat × Bool)) (e:Ending) (w':World):Prop:=∃ v,e=.returned (.agg #[.bool false,v])∧HintsAt w' v l∧(∀ b o n c,v=.slice (some ⟨b,o,none⟩) n c→w.heap.size≤b)∧Below w.heap.size w w'
theorem for_none (free all:N4) (nodes:Nat) (many:Int) (w:World) (hmany:many≤0) :
  Calls Tryz.prog 133 #[v4 free,v4 all,.int .u8 nodes,.int .i64 many] w fun e w'=>e=.returned (.agg #[.bool true,.slice none 0 0])∧Below w.heap.size w w':=by
 have hE:=FEnv.made w free all many
 have hc:=hE.m
 have r0:=hE.r0
 have r1:=hE.r1
 have z0:=hE.z0
 have z1:=hE.z1
 have HB:=hZz (forBelow w free all many)
 clear hE
 unfold forWorld v4 at *
 go_enter Tryz.func133,Tryz.ntmps133
 go_wp2_with fail
 (try simp only [Exit.inBlock,Exit.then])
 refine bodyPost_ret (v:=.agg #[.bool true,.slice none 0 0]) ?_ rfl ⟨rfl,?_⟩
 ·rw [results_cell rfl]
  go_simp
 ·exact ((((Below.refl _ _).alloc (Nat.le_refl _) _).alloc (by simp) _).alloc (by simp;omega) _).alloc (by simp;omega) _
theorem row_below {w w':World} {base:Nat} {e:TypeId} {size:Nat} {v:Value} {n:Nat} {xs:List Value} (h:w.ownsRow base e size v n xs) (hb:Below w.heap.size w w'):w'.ownsRow base e size v n xs:=
 h.kept (row:=none) ⟨hb.os,hb.tape,hb.output,hb.size,fun j hj _=>hb.block j hj⟩ (by cases hv:v.ownBlock <;> simp)
theorem cell_allocH {w:World} {a:Addr} {v:Value} (h:w.cell? a=some v) (o:Obj):(w.alloc o).cell? a=some v:=
 (((Below.refl w.heap.size w).alloc (Nat.le_refl _) o).cell (World.block_lt_of_cell? w _ h)).trans h
theorem frozen_alloc {w:World} {a:Addr} {v:Value} (hc:w.cell? a=some v) (h:w.frozen? a=false) (o:Obj):(w.alloc o).frozen? a=false:=
 (((Below.refl w.heap.size w).alloc (Nat.le_refl _) o).frozen (World.block_lt_of_cell? w _ hc)).trans h
theorem row_slice {w:World} {base:Nat} {e:TypeId} {size:Nat} {v:Value} {n:Nat} {xs:List Value} (h:w.ownsRow base e size v n xs):∃ ao c,v=.slice ao n c:=by
 rcases h.2 with ⟨rfl,rfl⟩|⟨g,cap,cur,rfl,_⟩
 ·exact ⟨none,0,rfl⟩
 ·exact ⟨_,_,rfl⟩
theorem fresh_row {w:World} {base N:Nat} {e:TypeId} {size:Nat} {v:Value} {n:Nat} {xs:List Value} (h:w.ownsRow base e size v n xs) (hN:N≤base):∀ b o n' c,v=.slice (some ⟨b,o,none⟩) n' c→N≤b:=by
 intro b o n' c hv
 subst hv
 exact Nat.le_trans hN (h.lt b rfl).1
end
section
open Go.ChangeShapes Go.WideShapes Go.ChangeAt Go.RowKit
open Ost (N4 Hi Wi wi0 Low)
theorem HintsAt.form {w:World} {v:Value} {l:List Hi} (h:HintsAt w v l):∃ ao c,v=.slice ao l.length c∧(0<l.length→∃ b o,ao=some ⟨b,o,none⟩∧b<w.heap.size∧∀ k,k<l.length→w.cell? ⟨b,o+k*2,none⟩=some (.int .u8 ((l.getD k (0,false)).1:Nat))∧w.cell? ⟨b,o+k*2+1,none⟩=some (.bool (l.getD k (0,false)).2)):=by
 rcases h with ⟨rfl,ao,c,rfl⟩|⟨b,o,c,rfl,hlt,hc⟩
 ·exact ⟨ao,c,rfl,fun h=>by simp at h⟩
 ·exact ⟨_,c,rfl,fun _=>⟨b,o,rfl,hlt,hc⟩⟩
def WishesAt (w:World) (v:Value) (ws:List Wi):Prop:=
 (ws=[]∧∃ ao c,v=.slice ao 0 c)∨∃ b o c,v=.slice (some ⟨b,o,none⟩) ws.length c∧b<w.heap.size∧∀ k,k<ws.length→w.cell? ⟨b,o+k*2,none⟩=some (.bool (ws.getD k wi0).any)∧∃ u,w.cell? ⟨b,o+k*2+1,none⟩=some u∧HintsAt w u (ws.getD k wi0).hs
theorem WishesAt.below {w w':World} {v:Value} {ws:List Wi} (h:WishesAt w v ws) (hb:Below w.heap.size w w'):WishesAt w' v ws:=by
 rcases h with h|⟨b,o,c,hv,hlt,hc⟩
 ·exact .inl h
 ·refine .inr ⟨b,o,c,hv,Nat.lt_of_lt_of_le hlt hb.size,fun k hk=>?_⟩
  obtain ⟨h1,u,h2,h3⟩:=hc k hk
  exact ⟨(hb.cell (p:=⟨b,o+k*2,none⟩) hlt).trans h1,u,(hb.cell (p:=⟨b,o+k*2+1,none⟩) hlt).trans h2,h3.below hb⟩
theorem WishesAt.form {w:World} {v:Value} {ws:List Wi} (h:WishesAt w v ws):∃ ao c,v=.slice ao ws.length c∧(0<ws.length→∃ b o,ao=some ⟨b,o,none⟩∧b<w.heap.size∧∀ k,k<ws.length→w.cell? ⟨b,o+k*2,none⟩=some (.bool (ws.getD k wi0).any)∧∃ u,w.cell? ⟨b,o+k*2+1,none⟩=some u∧HintsAt w u (ws.getD k wi0).hs):=by
 rcases h with ⟨rfl,ao,c,rfl⟩|⟨b,o,c,rfl,hlt,hc⟩
 ·exact ⟨ao,c,rfl,fun h=>by simp at h⟩
 ·exact ⟨_,c,rfl,fun _=>⟨b,o,rfl,hlt,hc⟩⟩
instance:Inhabited Wi:=⟨wi0⟩
end
section
open Go.RowKit
open Dvs (Dv dv0 dv nth cn fits kindP Nodes)
theorem results_cell2 {fn:Func} {p q:Tmp} {ty:TypeId} (h:fn.results=#[.cell p ty,.cell q ty]) (tmps:Array Value) (P:Program) (w:World) :
  (results fn tmps).run P w =
   ((asAddr (tmps.getD p undef)).run P w).andThen fun a w₁=>((loadVar ty a).run P w₁).andThen fun v w₂=>((asAddr (tmps.getD q undef)).run P w₂).andThen fun b w₃=>((loadVar ty b).run P w₃).andThen fun u w₄=>.ok (.tuple #[v,u]) w₄:=by
 simp only [results,h]
 simp [Sem.run_bind,Result.andThen]
theorem below_drew {B:Nat} {a w:World} (h:Below B a w):Below B a w.drew:=⟨h.os,h.tape,h.output,h.size,h.block⟩
theorem count_anyD (kind:ByteArray) (w:World) (pb db:Nat) (ao:Option Addr) (c:Nat) (ds:List Dv) (us:Nat→Bool) (h:PoolAt w pb db ao c ds us) (hN:Nodes ds) :
  Calls Tryz.prog 134 #[.pointer (some ⟨pb,0,none⟩),.string kind] w fun e w'=>e=.returned (.tuple #[fourV (fun x=>cn (fits ds us kind) ds x ds.length),fourV (fun x=>cn (kindP ds kind) ds x ds.length)])∧Below w.heap.size w w':=by
 have hp:=h.lt
 have hd:0<ds.length→db<w.heap.size:=fun h0=>(h.at0 h0).2.2
 have HC0:Hid (CntAt w ((w.alloc (.cells #[.int .i64 0,.int .i64 0,.int .i64 0,.int .i64 0] 221)).alloc (.cells #[.int .i64 0,.int .i64 0,.int .i64 0,.int .i64 0] 221)) pb db ao c ds us kind w.heap.size (w.heap.size+1) 0):=
  ⟨(h.alloc _).alloc _,(FourAt.made w _ _ (fun j=>cn_zero _ _ _)).alloc _,by have:=FourAt.made (w.alloc (.cells #[.int .i64 0,.int .i64 0,.int .i64 0,.int .i64 0] 221)) 221 (fun x=>cn (kindP ds kind) ds x 0) (fun j=>cn_zero _ _ _);simpa using this,((Below.refl w.heap.size w).alloc (Nat.le_refl _) _).alloc (by simp) _⟩
 have hrow:=HC0.out.pool.row
 have HN:=hZz hN
 have HP:=hZz (And.intro hp hd)
 clear h hp hd
 go_enter Tryz.func134,Tryz.ntmps134
 go_wp2_with fail
 go_loopw [13] (fun i wr=>∃ k:Nat,k≤ds.length∧i=.int .i64 k∧CntAt w wr pb db ao c ds us kind w.heap.size (w.heap.size+1) k) (fun i _=>ds.length - (intOf i).toNat)
 case atStart=>exact ⟨0,by omega,rfl,HC0.out⟩
 case round=>
  obtain ⟨k,hk,rfl,hC⟩:=hrel
  by_cases hlt:k<ds.length
  ·have hk16:k<16:=by have:=HN.out.1;omega
   obtain ⟨rfl,hdp,_⟩:=hC.pool.at0 (by omega)
   obtain ⟨c0,c1,c2,_⟩:=hC.pool.cells k hlt
   obtain ⟨n0,n3⟩:=HN.out.2 k hlt
   obtain ⟨m,hm⟩:=Int.eq_ofNat_of_zero_le n0
   have hm4:m<4:=by omega
   have hC1:=hZz (hC.alloc (.cells #[.string (dv ds k).kind,.int .i64 (dv ds k).node,.bool (dv ds k).sick] 74))
   have HNo:=hZz (fun hh=>hC1.out.no hh)
   have HOne:=hZz (fun hh hu n hn=>hC1.out.one (m:=m) (n:=n) hh hu hm4 hm (Nat.le_succ _) (by omega) HP.out.1 HP.out.2 hn)
   have HBoth:=hZz (fun hh hu n n2 hn hn2=>hC1.out.both (m:=m) (n:=n) (n2:=n2) hh hu hm4 hm (Nat.le_refl _) (Nat.le_succ _) (by omega) HP.out.1 HP.out.2 hn hn2)
   have hKP:kindP ds kind k=(decide ((dv ds k).kind=kind) && !(dv ds k).sick):=rfl
   have hu:=(hC1.out.pool.used k hk16).1
   have hf:_=some (Value.int .i64 (cn (fits ds us kind) ds m k:Nat)):=(hC1.out.free m hm4).1
   have ha:_=some (Value.int .i64 (cn (kindP ds kind) ds m k:Nat)):=(hC1.out.all m hm4).1
   have haz:=(hC1.out.all m hm4).2
   have hM:=hZz (hC1.out.mid (m:=m) (D:=wr.heap.size) (z:=(dv ds k).node) (n:=(cn (kindP ds kind) ds m k:Nat)+1) hk16 hm4 (by simp) (by omega) (by have:=HP.out.1;omega) (show wr.heap.size≠w.heap.size+1 by have:=hC.all.lt;omega))
   have qf:=Dvs.cn_le (fits ds us kind) ds m k
   have qa:=Dvs.cn_le (kindP ds kind) ds m k
   clear hC
   rw [hm] at c1 hC1 HNo HOne HBoth hu hf ha haz hM
   generalize cn (fits ds us kind) ds m k=nf at *
   generalize cn (kindP ds kind) ds m k=na at *
   generalize (dv ds k).kind=xk at *
   generalize (dv ds k).sick=xs at *
   by_cases hkk:xk=kind
   ·subst hkk
    rcases two xs with hs|hs
    ·subst hs
     have HE:=HNo.out (by rw [hKP];simp)
     clear HNo HOne HBoth hKP
     go_wp2_with fail
     go_roundw
     case rel=>exact ⟨k+1,by omega,by go_num,HE⟩
     case measure=>simp [intOf];omega
    ·subst hs
     have hkp:kindP ds xk k=true:=by rw [hKP];simp
     rcases two (us k) with hus|hus
     ·have HE:=hZz (fun n hn=>HOne.out hkp hus n hn)
      obtain ⟨e1,e2,e3,e4⟩:=hM.out
      rw [hus] at e1
      clear HNo HOne HBoth hKP hkp hus hu hM
      go_wp2_with fail
      go_roundw
      case rel=>exact ⟨k+1,by omega,by go_num,HE.out _ (by go_num)⟩
      case measure=>simp [intOf];omega
     ·have HE:=hZz (fun n n2 hn hn2=>HBoth.out hkp hus n n2 hn hn2)
      obtain ⟨e1,e2,e3,e4⟩:=hM.out
      rw [hus] at e1
      clear HNo HOne HBoth hKP hkp hus hu hM
      go_wp2_with fail
      go_roundw
      case rel=>exact ⟨k+1,by omega,by go_num,HE.out _ _ (by go_num) (by go_num)⟩
      case measure=>simp [intOf];omega
   ·have HE:=HNo.out (by rw [hKP,decide_eq_false hkk];rfl)
    have hkk2:=toList_ne hkk
    clear hkk HNo HOne HBoth hKP
    go_wp2_with fail
    go_roundw
    case rel=>exact ⟨k+1,by omega,by go_num,HE⟩
    case measure=>simp [intOf];omega
  ·have hke:k=ds.length:=by omega
   subst hke
   have f0:_=some (Value.int .i64 (cn (fits ds us kind) ds 0 ds.length:Nat)):=(hC.free 0 (by decide)).1
   have f1:_=some (Value.int .i64 (cn (fits ds us kind) ds 1 ds.length:Nat)):=(hC.free 1 (by decide)).1
   have f2:_=some (Value.int .i64 (cn (fits ds us kind) ds 2 ds.length:Nat)):=(hC.free 2 (by decide)).1
   have f3:_=some (Value.int .i64 (cn (fits ds us kind) ds 3 ds.length:Nat)):=(hC.free 3 (by decide)).1
   have a0:_=some (Value.int .i64 (cn (kindP ds kind) ds 0 ds.length:Nat)):=(hC.all 0 (by decide)).1
   have a1:_=some (Value.int .i64 (cn (kindP ds kind) ds 1 ds.length:Nat)):=(hC.all 1 (by decide)).1
   have a2:_=some (Value.int .i64 (cn (kindP ds kind) ds 2 ds.length:Nat)):=(hC.all 2 (by decide)).1
   have a3:_=some (Value.int .i64 (cn (kindP ds kind) ds 3 ds.length:Nat)):=(hC.all 3 (by decide)).1
   have z0:=(hC.free 0 (by decide)).2
   have z1:=(hC.free 1 (by decide)).2
   have z2:=(hC.free 2 (by decide)).2
   have z3:=(hC.free 3 (by decide)).2
   have y0:=(hC.all 0 (by decide)).2
   have y1:=(hC.all 1 (by decide)).2
   have y2:=(hC.all 2 (by decide)).2
   have y3:=(hC.all 3 (by decide)).2
   have hB:=hZz hC.below
   clear hC HC0 HN HP hN hrow
   obtain ⟨n0,en0⟩:∃ x,cn (fits ds us kind) ds 0 ds.length=x:=⟨_,rfl⟩
   rw [en0] at f0
   obtain ⟨n1,en1⟩:∃ x,cn (fits ds us kind) ds 1 ds.length=x:=⟨_,rfl⟩
   rw [en1] at f1
   obtain ⟨n2,en2⟩:∃ x,cn (fits ds us kind) ds 2 ds.length=x:=⟨_,rfl⟩
   rw [en2] at f2
   obtain ⟨n3,en3⟩:∃ x,cn (fits ds us kind) ds 3 ds.length=x:=⟨_,rfl⟩
   rw [en3] at f3
   obtain ⟨m0,em0⟩:∃ x,cn (kindP ds kind) ds 0 ds.length=x:=⟨_,rfl⟩
   rw [em0] at a0
   obtain ⟨m1,em1⟩:∃ x,cn (kindP ds kind) ds 1 ds.length=x:=⟨_,rfl⟩
   rw [em1] at a1
   obtain ⟨m2,em2⟩:∃ x,cn (kindP ds kind) ds 2 ds.length=x:=⟨_,rfl⟩
   rw [em2] at a2
   obtain ⟨m3,em3⟩:∃ x,cn (kindP ds kind) ds 3 ds.length=x:=⟨_,rfl⟩
   rw [em3] at a3
   have HE:=hZz (And.intro (And.intro en0 (And.intro en1 (And.intro en2 en3))) (And.intro em0 (And.intro em1 (And.intro em2 em3))))
   clear en0 en1 en2 en3 em0 em1 em2 em3
   go_wp2_with fail
   go_region
   go_wp2_with fail
   refine bodyPost_ret (v:=.tuple #[.agg #[.int .i64 n0,.int .i64 n1,.int .i64 n2,.int .i64 n3],.agg #[.int .i64 m0,.int .i64 m1,.int .i64 m2,.int .i64 m3]]) ?_ rfl ⟨?_,?_⟩
   ·rw [results_cell2 rfl]
    go_simp
   ·obtain ⟨⟨q0,q1,q2,q3⟩,r0,r1,r2,r3⟩:=HE.out
    subst q0 q1 q2 q3 r0 r1 r2 r3
    rfl
   ·exact below_drew (((((((((hB.out.setCell (Nat.le_refl _) _).setCell (Nat.le_refl _) _).setCell (Nat.le_refl _) _).setCell (Nat.le_refl _) _).setCell (Nat.le_succ _) _).setCell (Nat.le_succ _) _).setCell (Nat.le_succ _) _).setCell (Nat.le_succ _) _))
end
section
namespace Ol
open Ost (Cpu chosen cnt dif)
open Dvs (Dv dv)
open Qos (Nd Ct Pd ct ownOf)
open Sv (Gv Hd gv hd)
def Nice (cs:List Ct):Prop:=∀ c∈cs,(∀ n∈c.ds,n.many≠0)∧c.ds.Pairwise fun a b=>a.kind≠b.kind
def clAt (cs:List Ct) (gs:List Gv) (i:Nat):Cl:=⟨gv gs i,ownOf cs (ct cs i).am,(ct cs i).ds⟩
theorem giveTo_len (m:Mc) (s:Sk) (cs:List Ct):∀ k,(giveTo m s cs k).1=0→(giveTo m s cs k).2.1.length=k:=by
 intro k
 induction k with
 | zero=>intro _;rfl
 | succ k ih=>
  intro h
  rw [giveTo] at h ⊢
  by_cases h0:(giveTo m s cs k).1=0
  ·rw [if_pos h0] at h ⊢
   unfold giveNext at h ⊢
   by_cases hg:(giveOne m (giveTo m s cs k).2.2 (ownOf cs (ct cs k).am) (ct cs k).ds).1=0
   ·rw [if_pos hg]
    rw [List.length_append,ih h0];rfl
   ·rw [if_neg hg] at h;exact absurd h hg
  ·rw [if_neg h0] at h;exact absurd h h0
theorem giveTo_claims {m:Mc} {s:Sk} {cs:List Ct} (h16:s.ds.length≤16) (hc:Nice cs):∀ k,k≤cs.length→(giveTo m s cs k).1=0→claims s ((List.range k).map (clAt cs (giveTo m s cs k).2.1))=some (giveTo m s cs k).2.2∧(giveTo m s cs k).2.2.ds=s.ds:=by
 intro k
 induction k with
 | zero=>intro _ _;exact ⟨rfl,rfl⟩
 | succ k ih=>
  intro hk h
  have hl:=giveTo_len m s cs k
  rw [giveTo] at h ⊢
  by_cases h0:(giveTo m s cs k).1=0
  ·rw [if_pos h0] at h ⊢
   obtain ⟨i1,i2⟩:=ih (by omega) h0
   have hlen:=hl h0
   generalize (giveTo m s cs k).2.1=gs at *
   generalize (giveTo m s cs k).2.2=s' at *
   unfold giveNext at h ⊢
   by_cases hg:(giveOne m s' (ownOf cs (ct cs k).am) (ct cs k).ds).1=0
   ·rw [if_pos hg]
    have hm:ct cs k∈cs:=Sv.mem_ct (by omega)
    have hcl:=give_claim (m:=m) (s:=s') (own:=ownOf cs (ct cs k).am) (ns:=(ct cs k).ds) (by rw [i2];exact h16) (hc _ hm).1 (hc _ hm).2 hg
    refine ⟨?_,i2⟩
    generalize giveOne m s' (ownOf cs (ct cs k).am) (ct cs k).ds=g at *
    dsimp only
    rw [List.range_succ,List.map_append,claims_app]
    have e1:(List.range k).map (clAt cs (gs++[g.2.1]))=(List.range k).map (clAt cs gs):=by
     refine List.map_congr_left fun i hi=>?_
     have hi':i<gs.length:=by rw [hlen];exact List.mem_range.1 hi
     unfold clAt
     congr 1
     simp [gv,List.getElem?_append_left hi']
    rw [e1,i1,Option.bind_some,List.map_singleton,claims]
    have e2:clAt cs (gs++[g.2.1]) k=⟨g.2.1,ownOf cs (ct cs k).am,(ct cs k).ds⟩:=by
     unfold clAt
     congr 1
     simp [gv,← hlen]
    rw [e2,hcl]
    rfl
   ·rw [if_neg hg] at h;exact absurd h hg
  ·rw [if_neg h0] at h;exact absurd h h0
theorem admit_left {m:Mc} {ds:List Dv} {hs hs':List Hd} {s:Sk} {p:Pd} (hl:left m ds hs=some s) (h16:s.ds.length≤16) (hc:Nice p.cs) (hg:(give m s p).1=0) (hp:(hs++[(⟨p,(give m s p).2⟩:Hd)]).Perm hs') :
  left m ds hs'=some (giveTo m s p.cs p.cs.length).2.2:=by
 refine left_perm hp (left_snoc hl ?_)
 have h:=(giveTo_claims h16 hc p.cs.length (Nat.le_refl _) hg).1
 have hlen:=giveTo_len m s p.cs p.cs.length hg
 unfold clsOf
 show claims s ((List.range (give m s p).2.length).map (clAt p.cs (give m s p).2))=_
 have e:(give m s p).2.length=p.cs.length:=hlen
 rw [e]
 exact h
theorem left_sub {m:Mc} {ds:List Dv} {hs hs':List Hd} {s:Sk} (h:left m ds hs=some s) (hsub:hs'.Sublist hs):∃ s',left m ds hs'=some s':=by
 obtain ⟨rest,hp⟩:=hsub.exists_perm_append
 have h2:=left_perm hp h
 unfold left at h2 ⊢
 split at h2
 ·rename_i h0
  rw [if_pos h0]
  rw [leftTo_eq _ _ _ (Nat.le_refl _),List.take_length] at h2 ⊢
  rw [clsAll,List.flatMap_append,claims_app] at h2
  obtain ⟨s1,e1,_⟩:=Option.bind_eq_some_iff.1 h2
  exact ⟨s1,e1⟩
 ·cases h2
theorem left_nil {m:Mc} {ds:List Dv} (h:Dvs.fault ds=0):left m ds []=some ⟨m.op,ds,fun _=>false⟩:=by
 unfold left;rw [if_pos h];rfl
theorem claims_ds {s s':Sk}:∀ {l:List Cl},claims s l=some s'→s'.ds=s.ds:=by
 intro l
 induction l generalizing s with
 | nil=>intro h;injection h with h;rw [h]
 | cons x r ih=>
  intro h
  rw [claims] at h
  obtain ⟨s1,e1,e2⟩:=Option.bind_eq_some_iff.1 h
  rw [ih e2,claim_ds e1]
theorem left_ds {m:Mc} {ds:List Dv} {hs:List Hd} {s:Sk} (h:left m ds hs=some s):s.ds=ds:=by
 unfold left at h
 split at h
 ·rw [leftTo_eq _ _ _ (Nat.le_refl _),List.take_length] at h
  exact claims_ds h
 ·cases h
end Ol
end
section
open Go.RowKit Go.Shelf
open Ost (splitC cut1)
open Qos (Nd nd)
open S1 (Mx)
attribute [local go_sem] Oper.semAt_some
theorem infoNeedV:(Tryz.prog.info? 80).map (fun i=>(i.zero,i.size,i.bytes))=some (some (.agg #[.string ByteArray.empty,.int .i64 0]),2,24):=by kernel_rfl
end
section
open Go.RowKit Go.Shelf
open Ost (splitC cut1)
open Qos (Nd Ct Pd nd)
open Sv (Gv wd)
open S1 (Mx)
def StrsIn (w:World) (b:Nat) (ws:List (List UInt8)):Prop:=b<w.heap.size∧∀ k,k<ws.length→w.cell? ⟨b,k,none⟩=some (.string ⟨(wd ws k).toArray⟩)
def FrV (G:(Nat→Value)→Act) (P:(Nat→Value)→World→Prop) (a:Act) (w:World):Prop:=∃ F,a=G F∧P F w
theorem set_heap {W:World} {g:Nat} {cs:Array Value} {t:TypeId} (h:W.heap[g]?=some (.cells cs t (0,0))) (i:Nat) (v:Value):(W.setCell ⟨g,i,none⟩ v).heap[g]?=some (.cells (cs.setIfInBounds i v) t (0,0)):=by
 obtain ⟨hlt,hk⟩:=Array.getElem?_eq_some_iff.1 h
 show (W.heap.modify g _)[g]?=_
 rw [Array.getElem?_eq_getElem (by rw [Array.size_modify];exact hlt),Array.getElem_modify_self,hk]
 rfl
def NormalAtV (R:Act→World→Prop):Exit→Act→World→Prop
 | .normal,a,w=>R a w
 | _,_,_=>False
end
section
open Go.RowKit
open Dvs (Dv dv0 dv nth cn fits kindP Nodes)
end
section
open Go.RowKit
open Ost (Cpu cpu0 chosen fault)
theorem CpusAt.cases {w:World} {ao:Option Addr} {l:List Cpu} {c:Nat} (h:CpusAt w (.slice ao l.length c) l):(l.length=0∨64<l.length)∨∃ b o,ao=some ⟨b,o,none⟩∧CellsAt w b o l∧b<w.heap.size∧0<l.length∧l.length≤64:=by
 by_cases hl:l.length=0∨64<l.length
 ·exact .inl hl
 ·rcases h with ⟨rfl,_⟩|⟨b,o,c',hv,hc⟩
  ·simp at hl
  ·simp only [Value.slice.injEq] at hv
   exact .inr ⟨b,o,hv.1,hc,World.block_lt_of_cell? w _ (hc 0 (by omega)).1,by omega,by omega⟩
theorem new_any (ao:Option Addr) (c:Nat) (l:List Cpu) (w:World) (hv:CpusAt w (.slice ao l.length c) l) :
  Calls Tryz.prog 17 #[.slice ao l.length c] w fun e w'=>Newed w l e w':=by
 rcases hv.cases with h|⟨b,o,rfl,hc,hlb,h0,h64⟩
 ·exact new_many ao l.length c l w rfl h
 ·exact new_some b o c l w hc hlb h0 h64
theorem fault_Good {l:List Cpu} (h:fault l=0):Good l:=by
 intro c hc
 have:=(Ost.inB_iff c).1 ((Ost.fault_good h).2.2 c hc)
 omega
end
section
open Go.RowKit
def EngAt (w:World) (Be Bd Bm:Nat):Prop:=w.heap[Be]?=some (.cells #[.pointer (some ⟨Bd,0,none⟩),.map (some Bm)] 133 (0,0))
theorem EngAt.lt {w:World} {Be Bd Bm:Nat} (h:EngAt w Be Bd Bm):Be<w.heap.size:=(Array.getElem?_eq_some_iff.1 h).1
theorem EngAt.cells {w:World} {Be Bd Bm:Nat} (h:EngAt w Be Bd Bm):w.cell? ⟨Be,0,none⟩=some (.pointer (some ⟨Bd,0,none⟩))∧w.cell? ⟨Be,1,none⟩=some (.map (some Bm)):=by
 refine ⟨?_,?_⟩ <;> simp [World.cell?,show w.heap[Be]?=_ from h]
theorem EngAt.block {w w':World} {Be Bd Bm:Nat} (h:EngAt w Be Bd Bm) (hb:w'.heap[Be]?=w.heap[Be]?):EngAt w' Be Bd Bm:=hb.trans h
def fillAt (W:World) (g o:Nat) (x:RV):World:=(((W.setCell ⟨g,o,none⟩ (.string x.pod)).setCell ⟨g,o+1,none⟩ (.string x.cont)).setCell ⟨g,o+2,none⟩ (.int .u64 x.cpus)).setCell ⟨g,o+3,none⟩ (.slice x.da x.dn x.dc)
theorem fillAt_far (W:World) (g o:Nat) (x:RV) (b p:Nat) (h:b≠g∨p<o∨o+3<p):(fillAt W g o x).cell? ⟨b,p,none⟩=W.cell? ⟨b,p,none⟩:=by
 unfold fillAt
 rw [World.cell?_setCell_other _ _ _ _ (by simp;omega),World.cell?_setCell_other _ _ _ _ (by simp;omega),World.cell?_setCell_other _ _ _ _ (by simp;omega),World.cell?_setCell_other _ _ _ _ (by simp;omega)]
theorem fillAt_frozen (W:World) (g o:Nat) (x:RV) (a:Addr):(fillAt W g o x).frozen? a=W.frozen? a:=by
 unfold fillAt
 simp only [World.frozen?_setCell]
def RowsR (w:World) (g:Nat) (ys:List RV):Prop:=∀ k,k<ys.length→RCells w g k (rv ys k)
theorem fillAt_here {W:World} {g k:Nat} {z:RV} (h:RCells W g k z) (x:RV):RCells (fillAt W g (k*4) x) g k x:=by
 obtain ⟨⟨c0,c1,c2,c3⟩,f0,f1,f2,f3⟩:=h
 refine ⟨⟨?_,?_,?_,?_⟩,by rw [fillAt_frozen];exact f0,by rw [fillAt_frozen];exact f1,by rw [fillAt_frozen];exact f2,by rw [fillAt_frozen];exact f3⟩
 ·unfold fillAt
  rw [World.cell?_setCell_other _ _ _ _ (by simp),World.cell?_setCell_other _ _ _ _ (by simp),World.cell?_setCell_other _ _ _ _ (by simp),World.cell?_setCell_same' _ _ _ (by rw [c0];rfl)]
 ·unfold fillAt
  rw [World.cell?_setCell_other _ _ _ _ (by simp),World.cell?_setCell_other _ _ _ _ (by simp),World.cell?_setCell_same' _ _ _ (by rw [World.cell?_setCell_other _ _ _ _ (by simp),c1];rfl)]
 ·unfold fillAt
  rw [World.cell?_setCell_other _ _ _ _ (by simp),World.cell?_setCell_same' _ _ _ (by rw [World.cell?_setCell_other _ _ _ _ (by simp),World.cell?_setCell_other _ _ _ _ (by simp),c2];rfl)]
 ·unfold fillAt
  rw [World.cell?_setCell_same' _ _ _ (by rw [World.cell?_setCell_other _ _ _ _ (by simp),World.cell?_setCell_other _ _ _ _ (by simp),World.cell?_setCell_other _ _ _ _ (by simp),c3];rfl)]
theorem rv_set (ys:List RV) (k j:Nat) (x:RV) (hk:k<ys.length):rv (ys.set k x) j=if j=k then x else rv ys j:=by
 unfold rv
 by_cases e:j=k
 ·subst e;simp [hk]
 ·rw [if_neg e];simp [Ne.symm e]
theorem RowsR.set {W:World} {g k:Nat} {ys:List RV} (h:RowsR W g ys) (hk:k<ys.length) (x:RV):RowsR (fillAt W g (k*4) x) g (ys.set k x):=fun j hj=>by
 rw [rv_set ys k j x hk]
 by_cases e:j=k
 ·subst e
  rw [if_pos rfl]
  exact fillAt_here (h j hk) x
 ·rw [if_neg e]
  obtain ⟨⟨c0,c1,c2,c3⟩,f0,f1,f2,f3⟩:=h j (by simpa using hj)
  exact ⟨⟨(fillAt_far _ _ _ _ _ _ (by omega)).trans c0,(fillAt_far _ _ _ _ _ _ (by omega)).trans c1,(fillAt_far _ _ _ _ _ _ (by omega)).trans c2,(fillAt_far _ _ _ _ _ _ (by omega)).trans c3⟩,by rw [fillAt_frozen];exact f0,by rw [fillAt_frozen];exact f1,by rw [fillAt_frozen];exact f2,by rw [fillAt_frozen];exact f3⟩
theorem RowsR.block {W W':World} {g:Nat} {ys:List RV} (h:RowsR W g ys) (hb:W'.heap[g]?=W.heap[g]?):RowsR W' g ys:=fun k hk=>by
 obtain ⟨⟨c0,c1,c2,c3⟩,f0,f1,f2,f3⟩:=h k hk
 exact ⟨⟨(World.cell?_of_block (a:=⟨g,k*4,none⟩) hb).trans c0,(World.cell?_of_block (a:=⟨g,k*4+1,none⟩) hb).trans c1,(World.cell?_of_block (a:=⟨g,k*4+2,none⟩) hb).trans c2,(World.cell?_of_block (a:=⟨g,k*4+3,none⟩) hb).trans c3⟩,(World.frozen?_of_block (a:=⟨g,k*4,none⟩) hb).trans f0,(World.frozen?_of_block (a:=⟨g,k*4+1,none⟩) hb).trans f1,(World.frozen?_of_block (a:=⟨g,k*4+2,none⟩) hb).trans f2,(World.frozen?_of_block (a:=⟨g,k*4+3,none⟩) hb).trans f3⟩
theorem below_fillAt {w W:World} {K g:Nat} (h:Below K w W) (hK:K≤g) (o:Nat) (x:RV):Below K w (fillAt W g o x):=
 (((h.setCell (p:=⟨g,o,none⟩) hK _).setCell (p:=⟨g,o+1,none⟩) hK _).setCell (p:=⟨g,o+2,none⟩) hK _).setCell (p:=⟨g,o+3,none⟩) hK _
theorem fillAt_block (W:World) (g o:Nat) (x:RV) (b:Nat) (h:b≠g):(fillAt W g o x).heap[b]?=W.heap[b]?:=by
 unfold fillAt
 rw [Below.heap_setCell _ _ _ b h,Below.heap_setCell _ _ _ b h,Below.heap_setCell _ _ _ b h,Below.heap_setCell _ _ _ b h]
def Away (g:Nat) (y:RV):Prop:=0<y.dn→∀ g' o',y.da=some ⟨g',o',none⟩→g'≠g
theorem rv_mem {ys:List RV} {k:Nat} (h:k<ys.length):rv ys k∈ys:=by simp [rv,h]
theorem order_same {ys qs:List RV} (hl:ys.length=qs.length) (h:∀ j,j<qs.length→(rv ys j).pod=(rv qs j).pod∧(rv ys j).cont=(rv qs j).cont) (ho:InOrder qs):InOrder ys:=by
 unfold InOrder at *
 rw [List.pairwise_iff_getElem] at *
 intro i j hi hj hij
 have h1:=ho i j (by omega) (by omega) hij
 have e1:=h i (by omega)
 have e2:=h j (by omega)
 have hi':i<qs.length:=by omega
 have hj':j<qs.length:=by omega
 simp [rv,hi,hj,hi',hj'] at e1 e2
 unfold cfR at *
 rw [e1.1,e1.2,e2.1,e2.2]
 exact h1
end
section
open Go.RowKit Go.ChangeMaps Go.Maps Go.WideShapes
open Dvs (Dv dv)
open Qos (Nd nd)
theorem want_take {ns:List Nd} {k:Nat} (h:k<ns.length):Ol.want (ns.take (k+1))=Ol.wantSet (Ol.want (ns.take k)) (nd ns k).kind (some (nd ns k).many):=by
 unfold Ol.want
 rw [take_nd h,List.foldl_append]
 rfl
theorem less_take {ds:List Dv} {l:List Int} {m:ByteArray→Option Int} {k:Nat} (h:k<l.length):(l.take (k+1)).foldl (Ol.wantLess ds) m=Ol.wantLess ds ((l.take k).foldl (Ol.wantLess ds) m) (l.getD k 0):=by
 rw [List.take_succ_eq_append_getElem h,List.foldl_append]
 simp [h]
def Near (f:ByteArray→Option Int) (k:Int):Prop:=∀ s v,f s=some v→-1000000 - k≤v∧v≤1000000
theorem near_set {f:ByteArray→Option Int} {k k':Int} (h:Near f k) (hk:k≤k') {s:ByteArray} {v:Option Int} (hv:∀ x,v=some x→-1000000 - k'≤x∧x≤1000000):Near (Ol.wantSet f s v) k':=by
 intro t x hx
 unfold Ol.wantSet at hx
 split at hx
 ·exact hv x hx
 ·have:=h t x hx
  omega
theorem just_any (v1 v2 v3:Value) (g o:Nat) (ds:List Dv) (l:List Int) (ns:List Nd) (w:World) (h1:DevsAt w v1 g o ds) (h2:IntsOf w v2 l) (h3:NeedsAt w v3 ns) (hl:l.length≤1000) (hn:ns.length≤1000)
  (hin:∀ k,k<l.length→0≤l.getD k 0∧l.getD k 0<ds.length) (hdl:ds.length≤1000) (hk1:∀ k,k<ds.length→(dv ds k).kind.size≤1000) (hk2:∀ k,k<ns.length→(nd ns k).kind.size≤1000∧-1000000≤(nd ns k).many∧(nd ns k).many≤1000000) :
  Calls Tryz.prog 130 #[v1,v2,v3] w fun e w'=>(∃ b,e=.returned (.bool b)∧(b=true↔Ol.Just ds l ns))∧Below w.heap.size w w':=by
 obtain ⟨a1,c1,rfl,hr1⟩:=h1
 obtain ⟨a2,c2,rfl,hm2,hr2⟩:=h2
 obtain ⟨a3,c3,rfl,hm3,hr3⟩:=h3
 have H1:=hZz hr1
 have H2:=hZz hr2
 have H3:=hZz hr3
 have HIN:=hZz hin
 have HK1:=hZz hk1
 have HK2:=hZz hk2
 have HM0:=hZz (WantMap.made w)
 have HB0:=hZz ((Below.refl w.heap.size w).alloc (Nat.le_refl _) (.map #[] 0))
 have hmm:=@run_makeMap Tryz.prog
 clear hr1 hr2 hr3 hin hk1 hk2 hm2 hm3
 go_enter Tryz.func130,Tryz.ntmps130
 go_wp2_with fail
 go_loopw [16] (fun i wr=>∃ k n:Nat,k≤ns.length∧n≤k∧i=.int .i64 k∧WantMap wr w.heap.size n (Ol.want (ns.take k))∧Near (Ol.want (ns.take k)) 0∧Below w.heap.size w wr) (fun i _=>ns.length - (intOf i).toNat)
 case atStart=>exact ⟨0,0,by omega,by omega,rfl,HM0.out,(fun _ _ hx=>nomatch hx),HB0.out⟩
 case round=>
  obtain ⟨k,n,hk,hnk,rfl,hM,hN,hB⟩:=hrel
  by_cases hlt:k<ns.length
  ·obtain ⟨b,ob,rfl,hlb,hcs⟩:=H3.out (by omega)
   obtain ⟨g0,g1⟩:=hcs k hlt
   have c0:=(hB.cell (p:=⟨b,ob+k*2,none⟩) hlb).trans g0
   have c1:=(hB.cell (p:=⟨b,ob+k*2+1,none⟩) hlb).trans g1
   have HTK:=hZz (want_take hlt)
   obtain ⟨hsz,ha1,ha2⟩:=HK2.out k hlt
   have HBa:=hZz (hB.alloc hB.size (.cells #[.string (nd ns k).kind,.int .i64 (nd ns k).many] 80))
   have hMa:=hM.alloc (.cells #[.string (nd ns k).kind,.int .i64 (nd ns k).many] 80)
   have hcell0:(wr.alloc (.cells #[.string (nd ns k).kind,.int .i64 (nd ns k).many] 80)).cell? ⟨wr.heap.size,0,none⟩=some (.string (nd ns k).kind):=by simp
   have hcell1:(wr.alloc (.cells #[.string (nd ns k).kind,.int .i64 (nd ns k).many] 80)).cell? ⟨wr.heap.size,1,none⟩=some (.int .i64 (nd ns k).many):=by simp
   have HN:=hZz hN
   clear hM hB hcs g0 g1 hN
   generalize nd ns k=x at *
   generalize Ol.want (ns.take k)=f at *
   obtain ⟨D,ho,hS,hD⟩:=hMa
   have HD:=hZz hD
   have HS:=hZz hS
   have hkey:keyOf Tryz.prog 9 (.string x.kind)=some (.string x.kind.data.toList):=Go.WideMaps.keyOf_string_mk Tryz.underlying9 (by unfold maxLen;omega)
   have HWF:=hZz (show (Lit.int .i64 x.many).wf=true from WalkArith.wf_i64 (by omega))
   clear hD hS
   go_wp2_with (at_mapUpdate;refine wpList_mapUpdate_own _ rfl _ _ _ 261 rfl 9 3 keyLawS Tryz.underlying261 (plainElem Tryz.prog 3) w.heap.size n D rfl ho (by unfold maxLen;omega) _ _ _ rfl rfl hkey (.lit (.int .i64 x.many)) [] (plainElem_int Tryz.underlying3 HWF.out) ?_;intro w5 ho5 hgr5)
   go_roundw
   case rel=>
    refine ⟨k+1,n+1,by omega,by omega,by go_num,?_,?_,HBa.out.grown hgr5 HBa.out.size (fun j hj=>by cases hj;exact Nat.le_refl _)⟩
    ·rw [HTK.out]
     exact want_put ho HS.out HD.out ho5
    ·rw [HTK.out]
     exact near_set HN.out (Int.le_refl _) (fun y hy=>by cases hy;omega)
   case measure=>simp [intOf];omega
  ·have hke:k=ns.length:=by omega
   subst hke
   rw [List.take_length] at hM hN
   have HM1:=hZz hM
   have HB1:=hZz hB
   have HN1:=hZz hN
   clear hM hB hN HM0 HB0
   go_wp2_with fail
   go_loopw [28] (fun i wr=>∃ k n:Nat,k≤l.length∧n≤ns.length+k∧i=.int .i64 k∧WantMap wr w.heap.size n ((l.take k).foldl (Ol.wantLess ds) (Ol.want ns))∧Near ((l.take k).foldl (Ol.wantLess ds) (Ol.want ns)) (k:Int)∧Below w.heap.size w wr) (fun i _=>l.length - (intOf i).toNat)
   case atStart=>exact ⟨0,n,by omega,by omega,rfl,HM1.out,HN1.out,HB1.out⟩
   case round=>
    obtain ⟨q,m,hq,hmq,rfl,hM,hN,hB⟩:=hrel
    by_cases hqt:q<l.length
    ·obtain ⟨b,ob,rfl,hlb,hcs⟩:=H2.out (by omega)
     have c0:=(hB.cell (p:=⟨b,ob+q,none⟩) hlb).trans (hcs q hqt)
     have HTK:=hZz (less_take (ds:=ds) (m:=Ol.want ns) hqt)
     have hi0:=HIN.out q hqt
     generalize l.getD q 0=x at *
     obtain ⟨hx0,hxd⟩:=hi0
     obtain ⟨xn,rfl⟩:=Int.eq_ofNat_of_zero_le hx0
     have hxd':xn<ds.length:=by omega
     obtain ⟨ha,hlg,hds⟩:=H1.out (by omega)
     subst ha
     have d0:=(hB.cell (p:=⟨g,o+xn*3,none⟩) hlg).trans (hds xn hxd').1
     have hksz:=HK1.out xn hxd'
     have hxk:((xn:Int)).toNat=xn:=by omega
     have HL:Hid (∀ f,Ol.wantLess ds f (xn:Int)=Ol.wantSet f (dv ds xn).kind (if (f (dv ds xn).kind).getD 0 - 1=0 then none else some ((f (dv ds xn).kind).getD 0 - 1))):=fun f=>by unfold Ol.wantLess;rw [hxk]
     have HB:=hZz hB
     have HN:=hZz hN
     clear hcs hds hB hN hxk
     generalize (dv ds xn).kind=kd at *
     generalize (l.take q).foldl (Ol.wantLess ds) (Ol.want ns)=f at *
     obtain ⟨D,ho,hS,hD⟩:=hM
     have HD:=hZz hD
     have HS:=hZz hS
     have hat:=(hD kd).1
     have hvr:-1000000 - (q:Int)≤(f kd).getD 0∧(f kd).getD 0≤1000000:=by
      cases hf:f kd with
      | none=>simp;omega
      | some y=>exact HN.out kd y hf
     generalize hv:(f kd).getD 0=vv at *
     have HV:=hZz hv
     clear hv
     have hkey:keyOf Tryz.prog 9 (.string kd)=some (.string kd.data.toList):=Go.WideMaps.keyOf_string_mk Tryz.underlying9 (by unfold maxLen;omega)
     have HWF:=hZz (show (Lit.int .i64 (vv - 1)).wf=true from WalkArith.wf_i64 (by omega))
     have HNX:Hid (Near (Ol.wantLess ds f (xn:Int)) ((q+1:Nat):Int)):=by
      unfold Hid
      rw [HL.out f]
      refine near_set HN.out (by omega) (fun y hy=>?_)
      rw [HV.out] at hy
      split at hy
      ·cases hy
      ·cases hy;omega
     clear hD hS
     have HKL:Hid (WideAt.IsKeyLit (Lit.string kd.data.toList)):=trivial
     by_cases h1:vv=1
     ·have hb:((vv - 1:Int) == 0)=true:=by rw [h1];rfl
      have HLE:Hid (Ol.wantLess ds f (xn:Int)=Ol.wantSet (Ol.wantSet f kd (some (vv - 1))) kd none):=by
       unfold Hid
       rw [HL.out f,HV.out,if_pos (by omega)]
       funext s
       unfold Ol.wantSet
       split <;> rfl
      clear h1
      go_wp2_with (first|(at_lookup;refine wpList_lookup_own_int _ rfl _ _ 261 rfl 9 3 .i64 keyLawS Tryz.underlying261 Tryz.underlying3 (zeroIntE _) w.heap.size _ _ rfl (by assumption) _ _ rfl hkey ?_;intro cc hcc _;(first|rw [hat] at hcc|rw [Go.Maps.atKey_put_same ho.isMap HKL.out] at hcc);injection hcc with hcc;injection hcc with _ hcc;subst hcc)|(at_mapUpdate;refine wpList_mapUpdate_own _ rfl _ _ _ 261 rfl 9 3 keyLawS Tryz.underlying261 (plainElem Tryz.prog 3) w.heap.size m D rfl ho (by unfold maxLen;omega) _ _ _ rfl rfl hkey (.lit (.int .i64 (vv - 1))) [] (plainElem_int Tryz.underlying3 HWF.out) ?_;intro w5 ho5 hgr5)|(at_delete;refine wpList_delete_own _ rfl _ _ 261 9 rfl 3 keyLawS Tryz.underlying261 _ w.heap.size _ _ rfl ho5 _ _ rfl hkey ?_;intro w6 ho6 hturn6))
      go_roundw
      case rel=>
       refine ⟨q+1,m+1,by omega,by omega,by go_num,?_,by rw [HTK.out];exact HNX.out,?_⟩
       ·rw [HTK.out,HLE.out]
        exact want_del ho5 (want_keys HS.out) (want_vals ho HD.out) ho6
       ·exact (HB.out.grown hgr5 HB.out.size (fun j hj=>by cases hj;exact Nat.le_refl _)).grown hturn6.grown (by have:=hgr5.size;have:=HB.out.size;omega) (fun j hj=>by cases hj;exact Nat.le_refl _)
      case measure=>simp [intOf];omega
     ·have hb:((vv - 1:Int) == 0)=false:=beq_eq_false_iff_ne.2 (by omega)
      have HLE:Hid (Ol.wantLess ds f (xn:Int)=Ol.wantSet f kd (some (vv - 1))):=by
       unfold Hid
       rw [HL.out f,HV.out,if_neg (by omega)]
      go_wp2_with (first|(at_lookup;refine wpList_lookup_own_int _ rfl _ _ 261 rfl 9 3 .i64 keyLawS Tryz.underlying261 Tryz.underlying3 (zeroIntE _) w.heap.size _ _ rfl (by assumption) _ _ rfl hkey ?_;intro cc hcc _;(first|rw [hat] at hcc|rw [Go.Maps.atKey_put_same ho.isMap HKL.out] at hcc);injection hcc with hcc;injection hcc with _ hcc;subst hcc)|(at_mapUpdate;refine wpList_mapUpdate_own _ rfl _ _ _ 261 rfl 9 3 keyLawS Tryz.underlying261 (plainElem Tryz.prog 3) w.heap.size m D rfl ho (by unfold maxLen;omega) _ _ _ rfl rfl hkey (.lit (.int .i64 (vv - 1))) [] (plainElem_int Tryz.underlying3 HWF.out) ?_;intro w5 ho5 hgr5))
      go_roundw
      case rel=>
       refine ⟨q+1,m+1,by omega,by omega,by go_num,?_,by rw [HTK.out];exact HNX.out,?_⟩
       ·rw [HTK.out,HLE.out]
        exact want_put ho HS.out HD.out ho5
       ·exact HB.out.grown hgr5 HB.out.size (fun j hj=>by cases hj;exact Nat.le_refl _)
      case measure=>simp [intOf];omega
    ·have hqe:q=l.length:=by omega
     subst hqe
     rw [List.take_length] at hM
     obtain ⟨D,ho,hS,hD⟩:=hM
     have HB:=hZz hB
     have HJ:Hid ((Go.Maps.size D:Int)=0↔Ol.Just ds l ns):=by
      unfold Hid
      have:=want_none hS hD
      constructor
      ·intro h;exact this.1 (by omega)
      ·intro h;have:=this.2 h;omega
     clear hS hD hB hN
     go_wp2_with (at_len;refine wpList_len_own _ rfl _ 261 rfl 9 3 Tryz.underlying261 _ w.heap.size m D rfl ho ?_)
     go_ret
     exact ⟨⟨_,rfl,by rw [beq_iff_eq];exact HJ.out⟩,HB.out⟩
end
section
open Go.RowKit
open Ost (Hi Wi wi0 Low withL bet pop8)
abbrev vH (h:Hi):Value:=.agg #[.int .u8 (h.1:Nat),.bool h.2]
def Found (l:List Hi) (h:Hi) (e:Ending):Prop:=(h∈l∧∃ r:Nat,e=.returned (.int .i64 r))∨(h ∉ l∧e=.returned (.int .i64 (-1)))
theorem indexH_any (v:Value) (l:List Hi) (h:Hi) (w:World) (hv:HintsAt w v l) (hl:l.length≤4000000) :
  Calls Tryz.prog 239 #[v,vH h] w fun e w'=>Found l h e∧Below w.heap.size w w':=by
 obtain ⟨ao,c,rfl,hc⟩:=hv.form
 have HC:=hZz hc
 clear hc hv
 unfold vH
 obtain ⟨p,g⟩:=h
 have hX:Hid (Below w.heap.size w (w.alloc (.cells #[.int .u8 (p:Nat),.bool g] 181))):=(Below.refl _ _).alloc (Nat.le_refl _) _
 have hY:=hZz (show (w.alloc (.cells #[.int .u8 (p:Nat),.bool g] 181)).cell? ⟨w.heap.size,0,none⟩=some (.int .u8 (p:Nat))∧(w.alloc (.cells #[.int .u8 (p:Nat),.bool g] 181)).cell? ⟨w.heap.size,1,none⟩=some (.bool g) by simp)
 go_enter Tryz.func239,Tryz.ntmps239
 go_wp2_with fail
 go_loopw [8] (fun i wr=>∃ k:Nat,k≤l.length∧i=.int .i64 k∧Hid (∀ j,j<k→l.getD j (0,false)≠(p,g))∧Hid (Below (w.heap.size+1) (w.alloc (.cells #[.int .u8 (p:Nat),.bool g] 181)) wr)) (fun i _=>l.length - (intOf i).toNat)
 case atStart=>exact ⟨0,by omega,rfl,fun j hj=>by omega,Below.refl _ _⟩
 case round=>
  obtain ⟨k,hk,rfl,HN,HB⟩:=hrel
  by_cases hlt:k<l.length
  ·obtain ⟨b,o,rfl,hb,hcs⟩:=HC.out (by omega)
   have hB:=HB.out
   have hx:=hZz (Ost.getD_mem l (0,false) k hlt)
   have hN:Hid (∀ x,l.getD k (0,false)=x→x≠(p,g)→∀ j,j<k+1→l.getD j (0,false)≠(p,g)):=by
    intro x hx hne j hj
    by_cases e:j=k
    ·subst e;rw [hx];exact hne
    ·exact HN.out j (by omega)
   have c0:=((hB.cell (p:=⟨b,o+k*2,none⟩) (by show b<w.heap.size+1;omega)).trans (hX.out.cell (p:=⟨b,o+k*2,none⟩) hb)).trans (hcs k hlt).1
   have c1:=((hB.cell (p:=⟨b,o+k*2+1,none⟩) (by show b<w.heap.size+1;omega)).trans (hX.out.cell (p:=⟨b,o+k*2+1,none⟩) hb)).trans (hcs k hlt).2
   have d0:=(hB.cell (p:=⟨w.heap.size,0,none⟩) (by show w.heap.size<w.heap.size+1;omega)).trans hY.out.1
   have d1:=(hB.cell (p:=⟨w.heap.size,1,none⟩) (by show w.heap.size<w.heap.size+1;omega)).trans hY.out.2
   clear hB hcs HN
   generalize hz:l.getD k (0,false)=x at *
   have hN:=hZz (hN.out x rfl)
   obtain ⟨q,f⟩:=x
   simp only at c0 c1
   have hz:=hZz hz
   by_cases hq:p=q
   ·rcases two (g == f) with hf|hf
    ·have:g=f:=by simpa using hf
     subst this
     subst hq
     clear hf
     go_wp2_with fail
     go_quiet (fail)
     go_wp2_with fail
     go_ret
     exact ⟨.inl ⟨hx.out,k,rfl⟩,hX.out.trans (below_drewN (HB.out.mono (by omega)) _)⟩
    ·subst hq
     go_wp2_with fail
     go_quiet (fail)
     go_wp2_with fail
     go_roundw
     case rel=>exact ⟨k+1,by omega,by go_num,hN.out (by intro h;simp at h;rw [h] at hf;simp at hf),below_drewN HB.out _⟩
     case measure=>simp [intOf];omega
   ·have hf:((p:Int) == (q:Int))=false:=by rw [beq_eq_false_iff_ne];omega
    go_wp2_with fail
    go_quiet (fail)
    go_wp2_with fail
    go_roundw
    case rel=>exact ⟨k+1,by omega,by go_num,hN.out (by intro h;simp at h;exact hq h.1.symm),below_drewN HB.out _⟩
    case measure=>simp [intOf];omega
  ·have hkl:k=l.length:=by omega
   subst hkl
   have hno:Hid ((p,g) ∉ l):=by
    intro hm
    obtain ⟨j,hj,he⟩:=Ost.mem_getD (0,false) hm
    exact HN.out j hj he
   go_wp2_with fail
   go_ret
   exact ⟨.inr ⟨hno.out,rfl⟩,hX.out.trans (HB.out.mono (by omega))⟩
theorem containsH_any (v:Value) (l:List Hi) (h:Hi) (w:World) (hv:HintsAt w v l) (hl:l.length≤4000000) :
  Calls Tryz.prog 198 #[v,vH h] w fun e w'=>e=.returned (.bool (decide (h∈l)))∧Below w.heap.size w w':=by
 obtain ⟨p,g⟩:=h
 have hX:Hid (Below w.heap.size w (w.alloc (.cells #[.int .u8 (p:Nat),.bool g] 181))):=(Below.refl _ _).alloc (Nat.le_refl _) _
 have HI:=hZz (indexH_any v l (p,g) (w.alloc (.cells #[.int .u8 (p:Nat),.bool g] 181)) (hv.below hX.out) hl)
 obtain ⟨ao,c,rfl,_⟩:=hv.form
 clear hv
 unfold vH at *
 go_enter Tryz.func198,Tryz.ntmps198
 go_wp2_with fail
 refine HI.out.mono ?_
 rintro e w1 ⟨hf,hb⟩
 have hB:=hZz (hX.out.trans (hb.mono (by simp)))
 clear hb
 rcases hf with ⟨hm,r,rfl⟩|⟨hm,rfl⟩
 ·have hm:=hZz hm
  go_wp2_with fail
  go_ret
  exact ⟨congrArg (fun b=>Ending.returned (.bool b)) (decide_eq_true hm.out).symm,hB.out⟩
 ·have hm:=hZz hm
  go_wp2_with fail
  go_ret
  exact ⟨congrArg (fun b=>Ending.returned (.bool b)) (decide_eq_false hm.out).symm,hB.out⟩
def Withed (base:Nat) (w:World) (l:List Hi) (e:Ending) (w':World):Prop:=∃ v,e=.returned v∧w'.ownsRow base 181 2 v l.length (hintCells l)∧Below base w w'
def WithedF (base:Nat) (v0:Value) (w:World) (l:List Hi) (e:Ending) (w':World):Prop:=∃ v,e=.returned v∧w'.ownsRow base 181 2 v l.length (hintCells l)∧Below base w w'∧∀ b,b<w.heap.size→some b≠v0.ownBlock→w'.heap[b]?=w.heap[b]?∧some b≠v.ownBlock
theorem with_far (base:Nat) (v:Value) (l:List Hi) (h:Hi) (w:World) (hv:w.ownsRow base 181 2 v l.length (hintCells l)) (hl:l.length≤4000000) (hbase:base≤w.heap.size) :
  Calls Tryz.prog 161 #[v,vH h] w fun e w'=>WithedF base v w (withL l h) e w':=by
 obtain ⟨p,g⟩:=h
 have hX:Hid (Below w.heap.size w (w.alloc (.cells #[.int .u8 (p:Nat),.bool g] 181))):=(Below.refl _ _).alloc (Nat.le_refl _) _
 have HI:=hZz (containsH_any v l (p,g) (w.alloc (.cells #[.int .u8 (p:Nat),.bool g] 181)) ((HintsAt.of_row hv).below hX.out) hl)
 have HV:=hZz (row_below hv hX.out)
 have HVl:=hZz hv.lt
 obtain ⟨ao,c,rfl⟩:=row_slice hv
 have hY:=hZz (show (w.alloc (.cells #[.int .u8 (p:Nat),.bool g] 181)).cell? ⟨w.heap.size,0,none⟩=some (.int .u8 (p:Nat))∧(w.alloc (.cells #[.int .u8 (p:Nat),.bool g] 181)).cell? ⟨w.heap.size,1,none⟩=some (.bool g) by simp)
 clear hv
 unfold vH at *
 obtain ⟨i0,hi,hz0,hz1,hz2⟩:=info_parts infoHint
 go_enter Tryz.func161,Tryz.ntmps161
 go_wp2_with fail
 refine HI.out.mono ?_
 rintro e w1 ⟨rfl,hb⟩
 have hB:=hZz (hX.out.trans (hb.mono (by simp)))
 have HV1:=hZz (row_below HV.out hb)
 have d0:=(hb.cell (p:=⟨w.heap.size,0,none⟩) (by simp)).trans hY.out.1
 have d1:=(hb.cell (p:=⟨w.heap.size,1,none⟩) (by simp)).trans hY.out.2
 have hsz:Hid (w.heap.size+1≤w1.heap.size):=Nat.le_trans (by simp) hb.size
 clear hb HI HV hX hY
 by_cases hm:(p,g)∈l
 ·rw [decide_eq_true hm]
  have hw:Hid (withL l (p,g)=l):=by unfold Hid withL;rw [if_pos hm]
  clear hm
  go_wp2_with fail
  go_ret
  exact ⟨_,rfl,by rw [hw.out];exact HV1.out,hB.out.mono hbase,fun b hb hne=>⟨hB.out.block b hb,hne⟩⟩
 ·rw [decide_eq_false hm]
  have hw:Hid (withL l (p,g)=l++[(p,g)]):=by unfold Hid withL;rw [if_neg hm]
  clear hm
  have hs2:=hsz.out
  go_wp2_with (at_builtin;refine wpList_append_lies _ rfl _ _ 228 rfl base 181 i0 (.agg #[.int .u8 0,.bool false]) 2 2 Tryz.underlying228 hi hz0 hz1 hz2 rfl (by decide) _ _ _ rfl (HV1.out.alloc _) ⟨_,0,none⟩ 1 1 [.int .u8 p,.bool g] rfl rfl (by intro j u hj;match j,hj with|0,hj=>(simp at hj;subst hj;simp [Addr.add])|1,hj=>(simp at hj;subst hj;simp [Addr.add])) (by intro u hu;simp at hu;rcases hu with rfl|rfl <;> rfl) (by decide) (by unfold maxLen;omega) (by omega) (by simp;omega) _ rfl ?_;intro g' cap' w2 hown' hgrow' hat' hlt')
  go_ret
  refine ⟨_,rfl,by rw [hw.out,hintCells_snoc,List.length_append];exact hown',?_,fun b hb hne=>⟨?_,?_⟩⟩
  ·exact ((hB.out.mono hbase).alloc (by omega) _).grown hgrow' (by simp;omega) (fun j hj=>(HV1.out.lt j hj).1)
  ·rw [hgrow'.block b (by simp;omega) hne,heap_alloc_old _ _ (by omega)]
   exact hB.out.block b hb
  ·intro he
   have he':b=g':=by simpa [Value.ownBlock] using he
   subst he'
   rcases hat' with h|h
   ·exact hne h.symm
   ·simp at h;omega
theorem with_any (base:Nat) (v:Value) (l:List Hi) (h:Hi) (w:World) (hv:w.ownsRow base 181 2 v l.length (hintCells l)) (hl:l.length≤4000000) (hbase:base≤w.heap.size) :
  Calls Tryz.prog 161 #[v,vH h] w fun e w'=>Withed base w (withL l h) e w':=
 (with_far base v l h w hv hl hbase).mono fun _ _ ⟨v',he,hr,hb,_⟩=>⟨v',he,hr,hb⟩
end
section
namespace Ol
open Ost (Cpu Wi chosen cnt dif takeOut told)
open Dvs (Dv dv fits took takeF srt usedBy sel sel_congr took_mem)
open Qos (Nd Ct Pd ct ownOf)
open Sv (Gv Hd gv hd)
theorem takeF_congr {ds:List Dv} {us us':Nat→Bool} {kind:ByteArray} {many:Int} (h:∀ j,(dv ds j).kind=kind→us j=us' j):takeF ds us kind many=takeF ds us' kind many:=by
 have e:sel (fits ds us kind) ds.length=sel (fits ds us' kind) ds.length:=sel_congr fun j _=>by
  unfold fits
  by_cases hk:(dv ds j).kind=kind
  ·rw [h j hk]
  ·simp [hk]
 unfold takeF
 rw [e]
theorem devsFor_any {ds:List Dv} (on on':Nat):∀ (ns:List Nd) (us us':Nat→Bool) (out out':List Nat),ns.Pairwise (fun a b=>a.kind≠b.kind)→(∀ n∈ns,∀ j,(dv ds j).kind=n.kind→us j=us' j)→(devsFor ds on ns us out).1=(devsFor ds on' ns us' out').1:=by
 intro ns
 induction ns with
 | nil=>intro us us' out out' _ _;rfl
 | cons n r ih=>
  intro us us' out out' hp h
  obtain ⟨h1,h2⟩:=List.pairwise_cons.1 hp
  have e:=takeF_congr (many:=n.many) (h n (List.mem_cons_self ..))
  rw [devsFor,devsFor,← e]
  by_cases hf:takeF ds us n.kind n.many=0
  ·rw [if_pos hf,if_pos hf]
   refine ih _ _ _ _ h2 fun x hx j hj=>?_
   have hno:∀ (u:Nat→Bool) (o:Nat),j ∉ took ds u n.kind o n.many.toNat:=fun u o hm=>by
    have h3:=(took_mem hm).2
    simp only [fits,Bool.and_eq_true,decide_eq_true_eq] at h3
    exact h1 x hx (h3.1.1.symm.trans hj)
   unfold usedBy
   rw [h x (List.mem_cons_of_mem _ hx) j hj,decide_eq_false (hno us on),decide_eq_false (hno us' on')]
  ·rw [if_neg hf,if_neg hf]
theorem takeOut_any (l:List Cpu) (F:Nat) (L:Int) (on on':Nat):(takeOut l F L on).2=(takeOut l F L on').2:=by
 unfold takeOut
 split
 ·rfl
 ·split <;> rfl
theorem giveOne_iff {m:Mc} {s:Sk} {own:Int} {ns:List Nd} (hp:ns.Pairwise fun a b=>a.kind≠b.kind):(giveOne m s own ns).1=0↔(place m (wishes m s own ns)).2=true∧(takeOut m.l s.cp own 0).2=0∧(devsFor s.ds 0 ns s.us []).1=0:=by
 unfold giveOne
 dsimp only
 generalize hpl:place m (wishes m s own ns)=pl
 rw [takeOut_any m.l s.cp own 0 (chosen (fun c=>pl.1.1.testBit c.node.toNat) m.l),devsFor_any 0 pl.1.1 ns s.us s.us [] [] hp (fun _ _ _ _=>rfl)]
 have h4:=takeOut_err m.l s.cp own (chosen (fun c=>pl.1.1.testBit c.node.toNat) m.l)
 by_cases h1:pl.2=false
 ·rw [if_pos h1]
  constructor
  ·intro h;cases h
  ·intro h;rw [h1] at h;cases h.1
 ·rw [if_neg h1]
  rw [Bool.not_eq_false] at h1
  by_cases h2:(takeOut m.l s.cp own (chosen (fun c=>pl.1.1.testBit c.node.toNat) m.l)).2≠0
  ·rw [if_pos h2]
   constructor
   ·intro h;dsimp only at h;omega
   ·intro h;exact absurd h.2.1 h2
  ·rw [if_neg h2]
   by_cases h3:(devsFor s.ds pl.1.1 ns s.us []).1≠0
   ·rw [if_pos h3]
    constructor
    ·intro h;exact absurd h h3
    ·intro h;exact absurd h.2.2 h3
   ·rw [if_neg h3]
    exact ⟨fun _=>⟨h1,by omega,by omega⟩,fun _=>rfl⟩
theorem wishes_pol (m:Mc) (q:Int) (s:Sk) (own:Int) (ns:List Nd):wishes { m with pol:=q } s own ns=wishes m s own ns:=rfl
theorem giveOne_looser {m:Mc} {s:Sk} {own:Int} {ns:List Nd} {p q:Int} (hnd:m.nd<256) (hp:ns.Pairwise fun a b=>a.kind≠b.kind) (h0:0≤q) (h3:p≤3) (hpq:q≤p) (h:(giveOne { m with pol:=p } s own ns).1=0):(giveOne { m with pol:=q } s own ns).1=0:=by
 rw [giveOne_iff hp] at h ⊢
 refine ⟨?_,h.2⟩
 have h1:=h.1
 rw [wishes_pol] at h1 ⊢
 unfold place at h1 ⊢
 dsimp only at h1 ⊢
 generalize wishes m s own ns=ws at *
 by_cases hq0:q=0
 ·rw [if_pos hq0]
 ·rw [if_neg hq0]
  rw [if_neg (by omega)] at h1
  dsimp only at h1 ⊢
  by_cases hq1:q=1
  ·simp [hq1]
  ·have hp1:¬ p=1:=by omega
   rw [decide_eq_false hp1,Bool.or_false] at h1
   have:q=2∨q=3:=by omega
   rcases this with rfl|rfl
   ·have:p=2∨p=3:=by omega
    rcases this with rfl|rfl
    ·rw [h1];rfl
    ·rw [Ost.told_strict hnd h1];rfl
   ·obtain rfl:p=3:=by omega
    rw [h1];rfl
end Ol
end
end Go.Proofs.YtbfdcmodflnkfaaGreatDoor
