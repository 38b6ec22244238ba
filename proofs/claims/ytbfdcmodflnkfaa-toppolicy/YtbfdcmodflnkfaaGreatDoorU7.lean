/- HW1, DNew, OMath2, VR1, VT2, TNew2, RK6, VD3, EV2, OK1, VE1, DLight -/
import Derived.Test.YtbfdcmodflnkfaaGreatDoorU6
import Derived.Laws.ResultCell
import Derived.StringKeys
set_option maxRecDepth 100000
set_option maxHeartbeats 16000000
namespace Go.Proofs.YtbfdcmodflnkfaaGreatDoor
section
open Go.RowKit
open Ost (N4 sumTo sumOn Sm pop8 isSub masksTo)
abbrev v4 (q:N4):Value:=.agg #[.int .i64 q.a,.int .i64 q.b,.int .i64 q.c,.int .i64 q.d]
theorem byte_at (t:ByteArray) (m:Nat) (h:m<t.size):t[m]=t.data.toList.getD m 0:=by
 have h2:m<t.data.toList.length:=by simpa using h
 rw [List.getD_eq_getElem?_getD,List.getElem?_eq_getElem h2]
 simp
 rfl
def tabL:List UInt8:=Lib.pop8tab.data.toList
theorem tab8:∀ m:Fin 256,(tabL.getD m.val 0).toNat=pop8 m.val:=by decide +kernel
theorem tab_at (m:Nat) (h:m<Lib.pop8tab.size) (hm:m<256):wrap64 (((Lib.pop8tab[m]'h).toNat:Nat):Int)=(pop8 m:Nat):=by
 rw [byte_at Lib.pop8tab m h]
 have e:=tab8 ⟨m,hm⟩
 unfold tabL at e
 rw [e]
 have:=Ost.pop8_le m
 show wrap64 ((pop8 m:Nat):Int)=_
 unfold wrap64
 omega
theorem ones8_any (m:Nat) (w:World) (hm:m<256) :
  Calls Tryz.prog 54 #[.int .u8 m] w fun e w'=>e=.returned (.int .i64 (pop8 m:Nat))∧w'=w:=by
 go_enter Tryz.func54,Tryz.ntmps54
 go_wp2_with fail
 rename_i hsz
 go_ret
 exact ⟨congrArg (fun z=>Ending.returned (.int .i64 z)) (tab_at m hsz hm),rfl⟩
theorem nodesH_any (m:Nat) (w:World) (hm:m<256) :
  Calls Tryz.prog 25 #[.int .u8 m] w fun e w'=>e=.returned (.int .i64 (pop8 m:Nat))∧w'=w:=by
 go_enter Tryz.func25,Tryz.ntmps25
 go_wp2_with fail
 refine (ones8_any m _ hm).mono ?_
 rintro e w' ⟨rfl,rfl⟩
 go_wp2_with fail
 go_ret
 exact ⟨rfl,rfl⟩
theorem index4 (q:N4) (w:World):∀ k:Nat,k<4→(Instr.index 221 (v4 q) (.int .i64 k)).run Tryz.prog w=.ok (.int .i64 (q.get k)) w:=by
 intro k hk
 obtain ⟨x,hx,hxe⟩:=four_index q.a q.b q.c q.d w k hk
 rw [hx,hxe]
 have:k=0∨k=1∨k=2∨k=3:=by omega
 rcases this with rfl|rfl|rfl|rfl <;> rfl
theorem together_any (q:N4) (m:Nat) (w:World) (hm:m<256) (hq:Sm q) :
  Calls Tryz.prog 163 #[v4 q,.int .u8 m] w fun e w'=>e=.returned (.int .i64 (sumOn q m))∧Below w.heap.size w w':=by
 have HB:=hZz ((Below.refl w.heap.size w).alloc (Nat.le_refl _) (.cells #[.int .i64 q.a,.int .i64 q.b,.int .i64 q.c,.int .i64 q.d] 221))
 have HX:=hZz (index4 q (w.alloc (.cells #[.int .i64 q.a,.int .i64 q.b,.int .i64 q.c,.int .i64 q.d] 221)))
 have HQ:=hZz hq
 clear hq
 unfold v4 at *
 go_enter Tryz.func163,Tryz.ntmps163
 go_wp2_with fail
 go_loop [5,9] (fun t i=>∃ k:Nat,k≤4∧i=.int .i64 k∧t=.int .i64 (sumTo q m k)) (fun _ i=>4 - (intOf i).toNat)
 case atStart=>exact ⟨0,by omega,rfl,rfl⟩
 case round=>
  obtain ⟨k,hk,rfl,rfl⟩:=hrel
  by_cases hlt:k<4
  ·have hx:=HX.out k hlt
   have hb8:=bit8 m k hm
   have HY:=hZz (fun h=>Ost.sumTo_yes (q:=q) (m:=m) (k:=k) h)
   have HN:=hZz (fun h=>Ost.sumTo_no (q:=q) (m:=m) (k:=k) h)
   obtain ⟨s1,s2⟩:=Ost.sumTo_bound HQ.out m k
   obtain ⟨t1,t2⟩:=HQ.out k
   generalize q.get k=x at *
   rcases two (m.testBit k) with hb|hb
   ·rw [hb] at hb8
    have HO:=hZz (HY.out hb)
    clear hb
    go_wp2_with fail
    go_round
    case rel=>exact ⟨k+1,by omega,by go_num,by rw [HO.out]⟩
    case measure=>simp [intOf];omega
   ·rw [hb] at hb8
    have HO:=hZz (HN.out hb)
    clear hb
    go_wp2_with fail
    go_round
    case rel=>exact ⟨k+1,by omega,by go_num,by rw [HO.out]⟩
    case measure=>simp [intOf];omega
  ·have hk4:k=4:=by omega
   subst hk4
   clear hk hlt
   go_wp2_with fail
   go_ret
   exact ⟨rfl,HB.out⟩
end
section
open Go.RowKit
open Dvs (Dv dv0 dv nth)
def devCells (l:List Dv):List Value:=l.flatMap fun x=>[.string x.kind,.int .i64 x.node,.bool x.sick]
theorem devCells_length (l:List Dv):(devCells l).length=l.length*3:=by
 induction l with
 | nil=>rfl
 | cons a r ih=>simp only [devCells,List.flatMap_cons,List.length_append,List.length_cons,List.length_nil] at ih ⊢;omega
theorem devCells_at (l:List Dv) (k:Nat) (hk:k<l.length):(devCells l)[k*3]?=some (.string (dv l k).kind)∧(devCells l)[k*3+1]?=some (.int .i64 (dv l k).node)∧(devCells l)[k*3+2]?=some (.bool (dv l k).sick):=by
 induction l generalizing k with
 | nil=>simp at hk
 | cons a r ih=>
  cases k with
  | zero=>simp [devCells,dv]
  | succ k=>
   have:=ih k (by simpa using hk)
   have e:devCells (a :: r)=[.string a.kind,.int .i64 a.node,.bool a.sick]++devCells r:=rfl
   have e2:dv (a :: r) (k+1)=dv r k:=by simp [dv]
   rw [e,e2,show (k+1)*3=k*3+3 by omega]
   simpa using this
theorem devCells_from {w:World} {b o:Nat} {l:List Dv} (h:∀ k,k<l.length→w.cell? ⟨b,o+k*3,none⟩=some (.string (dv l k).kind)∧w.cell? ⟨b,o+k*3+1,none⟩=some (.int .i64 (dv l k).node)∧w.cell? ⟨b,o+k*3+2,none⟩=some (.bool (dv l k).sick)) (j:Nat) (u:Value) (hj:(devCells l)[j]?=some u):w.cell? ((⟨b,o,none⟩:Addr).add j)=some u:=by
 have hlt:j<l.length*3:=by rw [← devCells_length];exact (List.getElem?_eq_some_iff.1 hj).1
 obtain ⟨h0,h1,h2⟩:=h (j / 3) (by omega)
 obtain ⟨c0,c1,c2⟩:=devCells_at l (j / 3) (by omega)
 rw [Addr.add_lit]
 have:j=j / 3*3∨j=j / 3*3+1∨j=j / 3*3+2:=by omega
 rcases this with e|e|e
 ·rw [← e] at c0 h0;rw [h0,← c0,hj]
 ·rw [← e] at c1;rw [Nat.add_assoc,← e] at h1;rw [h1,← c1,hj]
 ·rw [← e] at c2;rw [Nat.add_assoc,← e] at h2;rw [h2,← c2,hj]
theorem devCells_one (l:List Dv):∀ u∈devCells l,u.oneCell'=true:=by
 intro u hu
 simp only [devCells,List.mem_flatMap] at hu
 obtain ⟨x,_,hx⟩:=hu
 simp at hx
 rcases hx with rfl|rfl|rfl <;> rfl
theorem infoDev:(Tryz.prog.info? 74).map (fun i=>(i.zero,i.size,i.bytes))=some (some (.agg #[.string ByteArray.empty,.int .i64 0,.bool false]),3,32):=by kernel_rfl
theorem eqNilD (ao:Option Addr) (n c:Nat) (w:World):Sem.run Tryz.prog (binOp BinOp.eql 25 (.slice ao n c) (.slice none 0 0)) w=.ok (.bool ao.isNone) w:=Lib.run_eql_slice_nil w _ _ ao n c 0 0 Tryz.underlying25
def DevRow (B:Nat) (w:World) (v:Value) (ds:List Dv):Prop:=
 ∃ ao c g,v=.slice ao ds.length c∧(0<ds.length→ao=some ⟨g,0,none⟩∧B≤g∧g<w.heap.size)∧
  ∀ k,k<ds.length→w.cell? ⟨g,k*3,none⟩=some (.string (dv ds k).kind)∧w.cell? ⟨g,k*3+1,none⟩=some (.int .i64 (dv ds k).node)∧w.cell? ⟨g,k*3+2,none⟩=some (.bool (dv ds k).sick)∧w.frozen? ⟨g,k*3+2,none⟩=false
theorem DevRow.of_own {B:Nat} {w:World} {v:Value} {ds:List Dv} (h:w.ownsRow B 74 3 v ds.length (devCells ds)):DevRow B w v ds:=by
 rcases h.2 with ⟨rfl,h1⟩|⟨g,cap,cur,rfl,hg,hgc,_⟩
 ·exact ⟨none,0,0,by rw [h1],fun h0=>by omega,fun k hk=>by omega⟩
 ·refine ⟨_,cap,g,rfl,fun _=>⟨rfl,hg,(Array.getElem?_eq_some_iff.1 hgc).1⟩,fun k hk=>?_⟩
  obtain ⟨c0,c1,c2⟩:=devCells_at ds k hk
  refine ⟨?_,?_,?_,by simp [World.frozen?,hgc]⟩
  ·rw [h.cellAt (k*3) (by omega)];exact c0
  ·rw [h.cellAt (k*3+1) (by omega)];exact c1
  ·rw [h.cellAt (k*3+2) (by omega)];exact c2
theorem clone_at (a:Addr) (c:Nat) (l:List Dv) (w:World) (hc:∀ j u,(devCells l)[j]?=some u→w.cell? (a.add j)=some u) (hl:l.length≤16) :
  Calls Tryz.prog 90 #[.slice (some a) l.length c] w fun e w'=>∃ v,e=.returned v∧DevRow w.heap.size w' v l∧Below w.heap.size w w':=by
 obtain ⟨i0,hi,hz0,hz1,hz2⟩:=info_parts infoDev
 have HB:=hZz ((Below.refl w.heap.size w).alloc (Nat.le_refl _) (.cells #[] 74))
 have HC:Hid (∀ j u,(devCells l)[j]?=some u→(w.alloc (.cells #[] 74)).cell? (a.add j)=some u):=fun j u hj=>Lib.cell?_alloc_some _ (hc j u hj)
 have hnil:=eqNilD (some a) l.length c w
 clear hc
 go_enter Tryz.func90,Tryz.ntmps90
 go_wp2_with (at_builtin;(refine wpList_append_own _ rfl _ _ 25 rfl w.heap.size 74 i0 (.agg #[.string ByteArray.empty,.int .i64 0,.bool false]) 3 32 Tryz.underlying25 hi hz0 hz1 hz2 rfl (by decide) _ _ _ rfl (World.ownsRow_lit w #[] 0 (Nat.le_refl _) (Nat.zero_le _) rfl) a l.length c (devCells l) rfl (devCells_length l) HC.out (devCells_one l) (by unfold maxLen;omega) (by omega) (by simp) ?_);intro v' w1 hown' hgrow' _)
 have hB1:=hZz (HB.out.grown hgrow' (by simp) (fun j hj=>by cases hj;exact Nat.le_refl _))
 rw [Nat.zero_add] at hown'
 have hD:Hid (DevRow w.heap.size w1 v' l):=DevRow.of_own (by simpa using hown')
 clear hown' hgrow'
 go_wp2_with fail
 go_ret
 exact ⟨_,rfl,hD.out,hB1.out⟩
theorem clone_anyD (v:Value) (b o:Nat) (l:List Dv) (w:World) (hv:DevsAt w v b o l) (hl:l.length≤16) :
  Calls Tryz.prog 90 #[v] w fun e w'=>∃ v,e=.returned v∧DevRow w.heap.size w' v l∧Below w.heap.size w w':=by
 obtain ⟨ao,c,rfl,hc⟩:=hv
 by_cases h0:0<l.length
 ·obtain ⟨rfl,hlt,hcs⟩:=hc h0
  exact clone_at ⟨b,o,none⟩ c l w (devCells_from hcs) hl
 ·have hl0:l=[]:=List.eq_nil_of_length_eq_zero (by omega)
  subst hl0
  rcases ao with _|a
  ·refine (AnyE.slices_Clone_nil Tryz.cloneL 0 c w).mono ?_
   rintro e w' ⟨rfl,rfl⟩
   exact ⟨_,rfl,⟨none,0,0,rfl,fun h=>by simp at h,fun k hk=>by simp at hk⟩,Below.refl _ _⟩
  ·exact clone_at a c [] w (fun j u hj=>by simp [devCells] at hj) (by simp)
end
section
namespace Ol
open Ost (Cpu chosen cnt dif)
open Dvs (Dv dv clF claimed first nth first_all first_none)
open Qos (Nd Ct Pd ct ownOf)
open Sv (Gv Hd gv hd)
structure Cl where
 g:Gv
 own:Int
 ns:List Nd
def Fine (ds:List Dv) (x:Cl):Prop:=(cnt x.g.cp:Int)=x.own∧Just ds x.g.dv x.ns∧(∀ k,k<x.g.dv.length→0≤nth x.g.dv k∧nth x.g.dv k<ds.length∧nth x.g.dv k ∉ x.g.dv.take k)
def Frees (s:Sk) (x:Cl):Prop:=x.g.cp &&& s.cp=x.g.cp∧∀ k,k<x.g.dv.length→s.us (nth x.g.dv k).toNat=false
def took1 (s:Sk) (x:Cl):Sk:=⟨dif s.cp x.g.cp,s.ds,claimed s.us x.g.dv⟩
theorem clF_zero {n:Nat} {us:Nat→Bool} {l:List Int} {k:Nat}:clF n us l k=0↔(0≤nth l k∧nth l k<n∧nth l k ∉ l.take k)∧us (nth l k).toNat=false:=by
 unfold clF
 by_cases h1:nth l k<0∨(n:Int)≤nth l k
 ·rw [if_pos h1]
  constructor
  ·intro h;cases h
  ·rintro ⟨⟨a,b,_⟩,_⟩;omega
 ·rw [if_neg h1]
  by_cases h2:(us (nth l k).toNat || decide (nth l k∈l.take k))=true
  ·rw [if_pos h2]
   constructor
   ·intro h;cases h
   ·rintro ⟨⟨_,_,c⟩,d⟩
    rw [d,Bool.false_or,decide_eq_true_eq] at h2
    exact absurd h2 c
  ·rw [if_neg h2]
   rw [Bool.not_eq_true,Bool.or_eq_false_iff,decide_eq_false_iff_not] at h2
   exact ⟨fun _=>⟨⟨by omega,by omega,h2.2⟩,h2.1⟩,fun _=>rfl⟩
theorem claim_iff {s s':Sk} {x:Cl}:claim s x.g x.own x.ns=some s'↔Fine s.ds x∧Frees s x∧s'=took1 s x:=by
 unfold claim
 by_cases h:x.g.cp &&& s.cp=x.g.cp∧(cnt x.g.cp:Int)=x.own∧first (clF s.ds.length s.us x.g.dv) x.g.dv.length=0
 ·rw [if_pos h]
  obtain ⟨h1,h2,h3⟩:=h
  have h4:=first_all h3
  by_cases hj:Just s.ds x.g.dv x.ns
  ·rw [if_pos hj]
   constructor
   ·intro e;injection e with e
    exact ⟨⟨h2,hj,fun k hk=>(clF_zero.1 (h4 k hk)).1⟩,⟨h1,fun k hk=>(clF_zero.1 (h4 k hk)).2⟩,e.symm⟩
   ·rintro ⟨_,_,rfl⟩;rfl
  ·rw [if_neg hj]
   exact ⟨fun e=>(by cases e),fun e=>absurd e.1.2.1 hj⟩
 ·rw [if_neg h]
  constructor
  ·intro e;cases e
  ·rintro ⟨⟨a,b,c⟩,⟨d,e⟩,_⟩
   exact absurd ⟨d,a,first_none fun k hk=>clF_zero.2 ⟨c k hk,e k hk⟩⟩ h
theorem nth_mem {l:List Int} {k:Nat} (h:k<l.length):nth l k∈l:=by simp [nth,h]
theorem mem_nth {l:List Int} {x:Int} (h:x∈l):∃ k,k<l.length∧nth l k=x:=by
 obtain ⟨k,hk,e⟩:=List.getElem_of_mem h
 exact ⟨k,hk,by simp [nth,hk,e]⟩
theorem claimed_false {us:Nat→Bool} {l:List Int} {j:Nat}:claimed us l j=false↔us j=false∧(j:Int) ∉ l:=by
 unfold claimed;simp
theorem frees_swap {s:Sk} {x y:Cl} (hx:Fine s.ds x) (hy:Fine s.ds y) (h1:Frees s x) (h2:Frees (took1 s x) y):Frees s y∧Frees (took1 s y) x:=by
 have hb:∀ i,y.g.cp.testBit i=true→s.cp.testBit i=true∧x.g.cp.testBit i=false:=fun i hi=>by
  have e:=congrArg (fun n=>Nat.testBit n i) h2.1
  simp only [took1,Nat.testBit_and,Ost.dif_bit,hi,Bool.true_and] at e
  cases hs:s.cp.testBit i <;> cases hx:x.g.cp.testBit i <;> simp_all
 have hxb:∀ i,x.g.cp.testBit i=true→s.cp.testBit i=true:=fun i hi=>by
  have e:=congrArg (fun n=>Nat.testBit n i) h1.1
  simpa [Nat.testBit_and,hi] using e
 have hd:∀ k,k<y.g.dv.length→s.us (nth y.g.dv k).toNat=false∧nth y.g.dv k ∉ x.g.dv:=fun k hk=>by
  have e:=claimed_false.1 (h2.2 k hk)
  have h0:=(hy.2.2 k hk).1
  rw [Int.toNat_of_nonneg h0] at e
  exact e
 refine ⟨⟨?_,fun k hk=>(hd k hk).1⟩,?_,fun k hk=>?_⟩
 ·apply Nat.eq_of_testBit_eq;intro i
  rw [Nat.testBit_and]
  cases hi:y.g.cp.testBit i with
  | false=>rfl
  | true=>rw [(hb i hi).1];rfl
 ·apply Nat.eq_of_testBit_eq;intro i
  simp only [took1,Nat.testBit_and,Ost.dif_bit]
  cases hi:x.g.cp.testBit i with
  | false=>rfl
  | true=>
   rw [hxb i hi]
   cases hj:y.g.cp.testBit i with
   | false=>rfl
   | true=>rw [(hb i hj).2] at hi;cases hi
 ·refine claimed_false.2 ⟨h1.2 k hk,fun hm=>?_⟩
  have h0:=(hx.2.2 k hk).1
  rw [Int.toNat_of_nonneg h0] at hm
  obtain ⟨j,hj,e⟩:=mem_nth hm
  exact (hd j hj).2 (by rw [e];exact nth_mem hk)
theorem took_swap (s:Sk) (x y:Cl):took1 (took1 s x) y=took1 (took1 s y) x:=by
 unfold took1
 congr 1
 ·apply Nat.eq_of_testBit_eq;intro i
  simp only [Ost.dif_bit]
  cases s.cp.testBit i <;> cases x.g.cp.testBit i <;> cases y.g.cp.testBit i <;> rfl
 ·funext j
  unfold claimed
  rw [Bool.or_assoc,Bool.or_assoc,Bool.or_comm (decide _) (decide _)]
noncomputable def claims (s:Sk):List Cl→Option Sk
 | []=>some s
 | x :: r=>(claim s x.g x.own x.ns).bind fun s'=>claims s' r
theorem claims_app (a b:List Cl):∀ s,claims s (a++b)=(claims s a).bind fun s'=>claims s' b:=by
 induction a with
 | nil=>intro s;rfl
 | cons x r ih=>
  intro s
  rw [List.cons_append,claims,claims,Option.bind_assoc]
  congr 1
  funext s'
  exact ih s'
theorem claim_ds {s s':Sk} {x:Cl} (h:claim s x.g x.own x.ns=some s'):s'.ds=s.ds:=by
 rw [(claim_iff.1 h).2.2];rfl
theorem claims_perm {a b:List Cl} (h:a.Perm b):∀ {s s':Sk},claims s a=some s'→claims s b=some s':=by
 induction h with
 | nil=>intro s s' e;exact e
 | cons x _ ih=>
  intro s s' e
  rw [claims] at e ⊢
  obtain ⟨s1,h1,h2⟩:=Option.bind_eq_some_iff.1 e
  rw [h1,Option.bind_some]
  exact ih h2
 | swap x y l=>
  intro s s' e
  rw [claims] at e
  obtain ⟨s1,h1,h2⟩:=Option.bind_eq_some_iff.1 e
  rw [claims] at h2
  obtain ⟨s2,h3,h4⟩:=Option.bind_eq_some_iff.1 h2
  obtain ⟨a1,a2,rfl⟩:=claim_iff.1 h1
  obtain ⟨b1,b2,rfl⟩:=claim_iff.1 h3
  obtain ⟨c1,c2⟩:=frees_swap a1 b1 a2 b2
  have d1:claim s x.g x.own x.ns=some (took1 s x):=claim_iff.2 ⟨b1,c1,rfl⟩
  have d2:claim (took1 s x) y.g y.own y.ns=some (took1 (took1 s x) y):=claim_iff.2 ⟨a1,c2,rfl⟩
  rw [claims,d1,Option.bind_some,claims,d2,Option.bind_some,took_swap]
  exact h4
 | trans _ _ ih1 ih2=>intro s s' e;exact ih2 (ih1 e)
def clsOf (h:Hd):List Cl:=(List.range h.gs.length).map fun k=>⟨gv h.gs k,ownOf h.pod.cs (ct h.pod.cs k).am,(ct h.pod.cs k).ds⟩
def clsAll (hs:List Hd):List Cl:=hs.flatMap clsOf
theorem claimsTo_eq (h:Hd) (s:Sk):∀ k,claimsTo s h k=claims s ((List.range k).map fun k=>⟨gv h.gs k,ownOf h.pod.cs (ct h.pod.cs k).am,(ct h.pod.cs k).ds⟩):=by
 intro k
 induction k with
 | zero=>rfl
 | succ k ih=>
  rw [claimsTo,ih,List.range_succ,List.map_append,claims_app]
  congr 1
  funext s'
  rw [List.map_singleton,claims]
  cases claim s' (gv h.gs k) (ownOf h.pod.cs (ct h.pod.cs k).am) (ct h.pod.cs k).ds <;> rfl
theorem leftTo_eq (hs:List Hd) (s:Sk):∀ k,k≤hs.length→leftTo s hs k=claims s (clsAll (hs.take k)):=by
 intro k
 induction k with
 | zero=>intro _;rfl
 | succ k ih=>
  intro hk
  have hk':k<hs.length:=hk
  rw [leftTo,ih (by omega),List.take_succ_eq_append_getElem hk']
  show _=claims s ((hs.take k++[hs[k]]).flatMap clsOf)
  rw [List.flatMap_append,claims_app]
  show (claims s (clsAll (hs.take k))).bind _=(claims s (clsAll (hs.take k))).bind _
  congr 1
  funext s'
  rw [claimsTo_eq]
  have e:hd hs k=hs[k]:=by simp [hd,hk']
  rw [e]
  simp [clsOf]
theorem left_perm {m:Mc} {ds:List Dv} {hs hs':List Hd} {s:Sk} (hp:hs.Perm hs') (h:left m ds hs=some s):left m ds hs'=some s:=by
 unfold left at h ⊢
 split at h
 ·rename_i h0
  rw [if_pos h0]
  rw [leftTo_eq _ _ _ (Nat.le_refl _),List.take_length] at h ⊢
  exact claims_perm (hp.flatMap_right clsOf) h
 ·cases h
theorem left_snoc {m:Mc} {ds:List Dv} {hs:List Hd} {x:Hd} {s s':Sk} (h:left m ds hs=some s) (h2:claims s (clsOf x)=some s'):left m ds (hs++[x])=some s':=by
 unfold left at h ⊢
 split at h
 ·rename_i h0
  rw [if_pos h0]
  rw [leftTo_eq _ _ _ (Nat.le_refl _),List.take_length] at h ⊢
  rw [clsAll,List.flatMap_append,claims_app]
  have h':claims ⟨m.op,ds,fun _=>false⟩ (hs.flatMap clsOf)=some s:=h
  rw [h',Option.bind_some]
  simpa using h2
 ·cases h
end Ol
end
section
open Go.RowKit
open Qos (Nd Ct Pd nd ct pd)
open Ost (good val cut1 parseOut)
open S1 (Mx)
end
section
open Go.RowKit
open Qos (Nd Ct Pd nd ct pd)
open Sv (Gv Hd gv hd needTxt needsTxt devsTxt setTxt contWs givenWs lineTxt OkN OkC OkG)
open S1 (Tab strs strs_snoc strs_oneCell ownsRow_cells infoStr itoa_any)
theorem cell_allocV {w:World} {a:Addr} {v:Value} (h:w.cell? a=some v) (o:Obj):(w.alloc o).cell? a=some v:=
 (((Below.refl w.heap.size w).alloc (Nat.le_refl _) o).cell (World.block_lt_of_cell? w _ h)).trans h
theorem below_drewV {B:Nat} {a w:World} (h:Below B a w):Below B a w.drew:=⟨h.os,h.tape,h.output,h.size,h.block⟩
def TabUp (w:World):Prop:=Tab w∧0<w.heap.size
theorem TabUp.below {w w':World} (h:TabUp w) (hb:Below w.heap.size w w'):TabUp w':=⟨h.1.below hb h.2,Nat.lt_of_lt_of_le h.2 hb.size⟩
theorem itoaV (x:Int) (w:World) (h0:0≤x) (h1:x≤1125899906842624) (ht:TabUp w):Calls Tryz.prog 144 #[.int .i64 x] w fun e w'=>e=.returned (.string ⟨(Sv.dec x).toArray⟩)∧Below w.heap.size w w':=itoa_any x w h0 (by omega) ht.1
theorem needWord_any (d:Nd) (w:World) (h:OkN d) (ht:TabUp w):Calls Tryz.prog 186 #[.agg #[.string d.kind,.int .i64 d.many]] w fun e w'=>e=.returned (.string ⟨(needTxt d).toArray⟩)∧Below w.heap.size w w':=by
 have h1:=(Sv.name_size h.1).2
 have h2:=Sv.dec_le d.many (by have:=h.2.2;omega)
 have hk:ByteArray.mk d.kind.data.toList.toArray=d.kind:=by simp
 have ea:=strcat d.kind.data.toList [58]
 have eb:=strcat (d.kind.data.toList++[58]) (Sv.dec d.many)
 have HE:Hid (needTxt d=d.kind.data.toList++[58]++Sv.dec d.many):=rfl
 have hm0:=h.2.1
 have hm1:=h.2.2
 have hks:d.kind.size≤8:=Nat.le_trans (Nat.le_of_eq (by simp)) h1
 rw [hk] at ea
 clear hk
 have HT:=hZz ht
 have HB0:=hZz (below_drewV ((Below.refl w.heap.size w).alloc (Nat.le_refl _) (.cells #[.string d.kind,.int .i64 d.many] 80)))
 generalize needTxt d=S at *
 generalize d.many=m at *
 generalize d.kind=kd at *
 have q1:¬ 9223372036854775807<kd.size+1:=by omega
 have q2:¬ 9223372036854775807<kd.size+1+(Sv.dec m).length:=by omega
 clear h ht
 go_enter Tryz.func186,Tryz.ntmps186
 go_wp2_with fail
 have HS0:=hZz (show w.heap.size<(w.alloc (.cells #[.string kd,.int .i64 m] 80)).drew.heap.size∧(w.alloc (.cells #[.string kd,.int .i64 m] 80)).drew.cell? ⟨w.heap.size,0,none⟩=some (.string kd)∧(w.alloc (.cells #[.string kd,.int .i64 m] 80)).drew.cell? ⟨w.heap.size,1,none⟩=some (.int .i64 m) from ⟨by simp,by simp,by simp⟩)
 refine wp_region_held_drew (S:=(fun w'=>w'.cell? ⟨w.heap.size,0,none⟩=some (.string kd)∧w'.cell? ⟨w.heap.size,1,none⟩=some (.int .i64 m))) (by kernel_rfl) HS0.out.2 (fun hHeld=>?_)
 refine tk 0 (v:=?a1) (fun w' h=>?b1) ?_
 case b1=>(try dsimp only at h);go_simp;try rfl
 (try simp only [Act.put,s1,s2,s3])
 refine tk 1 (v:=?a2) (fun w' h=>?b2) ?_
 case b2=>(try dsimp only at h);go_simp;try rfl
 (try simp only [Act.put,s1,s2,s3])
 refine tk 2 (v:=?a3) (fun w' h=>?b3) ?_
 case b3=>(try dsimp only at h);go_simp;try rfl
 (try simp only [Act.put,s1,s2,s3])
 refine tk 3 (v:=?a4) (fun w' h=>?b4) ?_
 case b4=>(try dsimp only at h);go_simp;try rfl
 (try simp only [Act.put,s1,s2,s3])
 refine tk 4 (v:=?a5) (fun w' h=>?b5) ?_
 case b5=>(try dsimp only at h);go_simp;try rfl
 (try simp only [Act.put,s1,s2,s3])
 refine wpAnyH_ready (rs:=[5]) (by kernel_rfl) (by simp) (AllReadyH.cons rfl (fun K hK=>?_) AllReadyH.nil)
 go_simp
 go_wp2_with fail
 refine (itoaV m _ (by omega) (by omega) (HT.out.below HB0.out)).mono ?_
 rintro e V1 ⟨rfl,hb⟩
 have HBV1:=hZz (HB0.out.trans (hb.mono HB0.out.size))
 have HSV1:=hZz (show w.heap.size<V1.heap.size∧(fun w'=>w'.cell? ⟨w.heap.size,0,none⟩=some (.string kd)∧w'.cell? ⟨w.heap.size,1,none⟩=some (.int .i64 m)) V1 from ⟨Nat.lt_of_lt_of_le HS0.out.1 hb.size,(hb.cell (p:=⟨w.heap.size,0,none⟩) HS0.out.1).trans HS0.out.2.1,(hb.cell (p:=⟨w.heap.size,1,none⟩) HS0.out.1).trans HS0.out.2.2⟩)
 clear hb
 go_wp2_with fail
 refine hK.out _ _ HSV1.out.2 (fun hHeld=>?_)
 clear hK K
 refine tk 6 (v:=?a6) (fun w' h=>?b6) ?_
 case b6=>(try dsimp only at h);go_simp;try rfl
 (try simp only [Act.put,s1,s2,s3])
 refine tk 7 (v:=?a7) (fun w' h=>?b7) ?_
 case b7=>(try dsimp only at h);go_simp;try rfl
 (try simp only [Act.put,s1,s2,s3])
 refine wpAnyH_done (by kernel_rfl) ?_ _
 go_wp2_with fail
 go_ret
 exact ⟨by rw [HE.out,List.append_assoc];rfl,HBV1.out⟩
def needsW (xs:List Nd) (k:Nat):List (List UInt8):=(xs.take k).map needTxt
theorem needsW_next {xs:List Nd} {k:Nat} (h:k<xs.length):needsW xs (k+1)=needsW xs k++[needTxt (nd xs k)]:=by
 unfold needsW
 rw [List.take_succ_eq_append_getElem h,List.map_append];simp [nd,h]
theorem needsW_len {xs:List Nd} {k:Nat} (h:k≤xs.length):(needsW xs k).length=k:=by
 unfold needsW;simp;omega
theorem needsW_all (xs:List Nd):needsW xs xs.length=xs.map needTxt:=by unfold needsW;rw [List.take_length]
theorem listNeeds_any (v:Value) (xs:List Nd) (w:World) (h:NeedsAt w v xs) (hx:∀ x∈xs,OkN x) (hl:xs.length≤3) (ht:TabUp w) :
  Calls Tryz.prog 185 #[v,.func (.func 186) #[] #[]] w fun e w'=>e=.returned (.string ⟨(needsTxt xs).toArray⟩)∧Below w.heap.size w w':=by
 obtain ⟨i0,hi,hz0,hz1,hz2⟩:=info_parts infoStr
 obtain ⟨ao,c,rfl,hm,hr⟩:=h
 have HR:=hZz hr
 have HT:=hZz ht
 have HX:=hZz hx
 clear hr ht hx
 unfold maxLen at hm
 have HJ:Hid (∀ (v:Value) (w1:World),w1.ownsRow w.heap.size 9 1 v (needsW xs xs.length).length (strs (needsW xs xs.length))→Calls Tryz.prog 183 #[v,.string ⟨#[44]⟩] w1 fun e w'=>e=.returned (.string ⟨(Lib.join (needsW xs xs.length) [44]).toArray⟩)∧Below w1.heap.size w1 w'):=by
  intro v w1 h
  refine join_any 44 v _ w1 _ h (by rw [needsW_len (Nat.le_refl _)];omega) ?_
  refine Nat.le_trans (Sv.join_le 44 29 _ fun x hx=>?_) (by rw [needsW_len (Nat.le_refl _)];omega)
  rw [needsW_all] at hx
  obtain ⟨d,hd,rfl⟩:=List.mem_map.1 hx
  exact Sv.needTxt_le (HX.out d hd)
 have HD:Hid (Sv.orNo (Lib.join (needsW xs xs.length) [44])=needsTxt xs):=by unfold Hid needsTxt;rw [needsW_all]
 go_enter Tryz.func185,Tryz.ntmps185
 go_wp2_with fail
 go_loopw [5,10] (fun r i wr=>∃ k:Nat,k≤xs.length∧i=.int .i64 k∧wr.ownsRow w.heap.size 9 1 r (needsW xs k).length (strs (needsW xs k))∧Below w.heap.size w wr) (fun _ i _=>xs.length - (intOf i).toNat)
 case atStart=>exact ⟨0,by omega,rfl,World.ownsRow_nil _ _ _ _,Below.refl _ _⟩
 case round=>
  obtain ⟨k,hk,rfl,hrow,hB⟩:=hrel
  by_cases hlt:k<xs.length
  ·obtain ⟨b,o,rfl,hb,hc⟩:=HR.out (by omega)
   obtain ⟨d0,d1⟩:=hc k hlt
   have c0:=(hB.cell (p:=⟨b,o+k*2,none⟩) hb).trans d0
   have c1:=(hB.cell (p:=⟨b,o+k*2+1,none⟩) hb).trans d1
   have HS:=hZz (needsW_next hlt)
   have hle:=needsW_len hk
   have hxk:=HX.out (nd xs k) (by simp [nd,hlt])
   have hsz:=hB.size
   have HBa:=hZz (hB.alloc hB.size (.cells #[.string (nd xs k).kind,.int .i64 (nd xs k).many] 80))
   have HI:=hZz (needWord_any (nd xs k) _ hxk (HT.out.below HBa.out))
   have hrowa:=hrow.alloc (.cells #[.string (nd xs k).kind,.int .i64 (nd xs k).many] 80)
   clear hc d0 d1 hxk
   generalize needTxt (nd xs k)=T at *
   generalize (nd xs k).kind=kd at *
   generalize (nd xs k).many=m at *
   go_wp2_with fail
   refine HI.out.mono ?_
   rintro e w1 ⟨rfl,hb1⟩
   have HB1:=hZz (HBa.out.trans (hb1.mono HBa.out.size))
   have hrow1:=row_belowV hrowa hb1
   have hsz1:=HB1.out.size
   clear hb1
   go_wp2_with (at_builtin;refine wpList_append_own _ rfl _ _ 110 rfl w.heap.size 9 i0 (.string ⟨#[]⟩) 1 16 Tryz.underlying110 hi hz0 hz1 hz2 rfl (by decide) _ _ _ rfl (hrow1.alloc _) ⟨_,0,none⟩ 1 1 [.string ⟨T.toArray⟩] rfl rfl (cell_one_new _ _ _) (strs_oneCell [T]) (by unfold maxLen;omega) (by omega) (by simp;omega) ?_;intro v' w2 hown' hgrow' _)
   go_roundw
   case rel=>
    refine ⟨k+1,by omega,by go_num,?_,?_⟩
    ·rw [HS.out,strs_snoc,List.length_append];exact hown'
    ·exact (HB1.out.alloc HB1.out.size _).grown hgrow' (by simp;omega) (fun j hj=>(hrow1.lt j hj).1)
   case measure=>simp [intOf];omega
  ·have hke:k=xs.length:=by omega
   subst hke
   go_wp2_with fail
   refine (HJ.out _ _ hrow).mono ?_
   rintro e w1 ⟨rfl,hb1⟩
   have hB1:=hB.trans (hb1.mono hB.size)
   go_wp2_with fail
   refine (orNothing_any _ _).mono ?_
   rintro e w2 ⟨rfl,rfl⟩
   go_wp2_with fail
   go_ret
   exact ⟨by rw [← HD.out];rfl,hB1⟩
def WordsAt (base:Nat) (w:World) (v:Value) (ws:List (List UInt8)):Prop:=w.ownsRow base 9 1 v ws.length (strs ws)
theorem words_made (ws:List (List UInt8)) (w:World) (base:Nat) (hb:base≤w.heap.size) (hl:ws.length≤1000):WordsAt base (w.alloc (.cells (strs ws).toArray 9)) (.slice (some ⟨w.heap.size,0,none⟩) ws.length ws.length) ws:=by
 have h:=World.ownsRow_made (base:=base) (e:=9) (size:=1) w (strs ws).toArray ws.length hb (by unfold maxLen;omega) (by simp [strs])
 refine ⟨by simp [strs],.inr ⟨w.heap.size,ws.length,_,rfl,hb,heap_alloc_new w _,Nat.le_refl _,by unfold maxLen;omega,by simp [strs],?_⟩⟩
 rw [Nat.mul_one,List.take_of_length_le (by simp [strs])]
theorem givenWords_any (g:Gv) (dv:Value) (w:World) (hd:IntsOf w dv g.dv) (hg:OkG g) (ht:TabUp w) :
  Calls Tryz.prog 111 #[.agg #[.int .u64 g.cp,dv]] w fun e w'=>∃ v,e=.returned v∧WordsAt w.heap.size w' v (givenWs g)∧Below w.heap.size w w':=by
 have HT:=hZz ht
 have HB0:=hZz (below_drewV ((Below.refl w.heap.size w).alloc (Nat.le_refl _) (.cells #[.int .u64 g.cp,dv] 69)))
 have HD:=hZz (fun W (hb:Below w.heap.size w W)=>listInts_any dv g.dv W (hd.below hb) hg.2.2 hg.2.1 (HT.out.below hb).1 (HT.out.below hb).2)
 have HX:=hZz (fun W=>S1.text_any g.cp W hg.1)
 have HE:Hid (givenWs g=[Sv.orNo (Ost.txt g.cp),devsTxt g.dv]):=rfl
 obtain ⟨da,dc,rfl⟩:=hd.slice
 clear hd hg ht
 generalize devsTxt g.dv=D at *
 generalize g.dv.length=dn at *
 generalize Ost.txt g.cp=X at *
 generalize givenWs g=GW at *
 generalize g.cp=cp at *
 go_enter Tryz.func111,Tryz.ntmps111
 go_wp2_with fail
 have HS0:=hZz (show w.heap.size<(w.alloc (.cells #[.int .u64 cp,.slice da dn dc] 69)).drew.heap.size∧(w.alloc (.cells #[.int .u64 cp,.slice da dn dc] 69)).drew.cell? ⟨w.heap.size,0,none⟩=some (.int .u64 cp)∧(w.alloc (.cells #[.int .u64 cp,.slice da dn dc] 69)).drew.cell? ⟨w.heap.size,1,none⟩=some (.slice da dn dc) from ⟨by simp,by simp,by simp⟩)
 refine wp_region_held_drew (S:=(fun w'=>w'.cell? ⟨w.heap.size,0,none⟩=some (.int .u64 cp)∧w'.cell? ⟨w.heap.size,1,none⟩=some (.slice da dn dc))) (by kernel_rfl) HS0.out.2 (fun hHeld=>?_)
 refine tk 0 (v:=?a8) (fun w' h=>?b8) ?_
 case b8=>(try dsimp only at h);go_simp;try rfl
 (try simp only [Act.put,s1,s2,s3])
 refine tk 1 (v:=?a9) (fun w' h=>?b9) ?_
 case b9=>(try dsimp only at h);go_simp;try rfl
 (try simp only [Act.put,s1,s2,s3])
 refine tk 4 (v:=?a10) (fun w' h=>?b10) ?_
 case b10=>(try dsimp only at h);go_simp;try rfl
 (try simp only [Act.put,s1,s2,s3])
 refine tk 5 (v:=?a11) (fun w' h=>?b11) ?_
 case b11=>(try dsimp only at h);go_simp;try rfl
 (try simp only [Act.put,s1,s2,s3])
 refine wpAnyH_ready (rs:=[2]) (by kernel_rfl) (by simp) (AllReadyH.cons rfl (fun K hK=>?_) AllReadyH.nil)
 go_simp
 go_wp2_with fail
 refine (HX.out _).mono ?_
 rintro e V1 ⟨rfl,hb⟩
 have HBV1:=hZz (HB0.out.trans (hb.mono HB0.out.size))
 have HSV1:=hZz (show w.heap.size<V1.heap.size∧(fun w'=>w'.cell? ⟨w.heap.size,0,none⟩=some (.int .u64 cp)∧w'.cell? ⟨w.heap.size,1,none⟩=some (.slice da dn dc)) V1 from ⟨Nat.lt_of_lt_of_le HS0.out.1 hb.size,(hb.cell (p:=⟨w.heap.size,0,none⟩) HS0.out.1).trans HS0.out.2.1,(hb.cell (p:=⟨w.heap.size,1,none⟩) HS0.out.1).trans HS0.out.2.2⟩)
 clear hb
 go_wp2_with fail
 refine hK.out _ _ HSV1.out.2 (fun hHeld=>?_)
 clear hK K
 refine wpAnyH_ready (rs:=[3]) (by kernel_rfl) (by simp) (AllReadyH.cons rfl (fun K hK=>?_) AllReadyH.nil)
 go_simp
 go_wp2_with fail
 refine (orNothing_any _ _).mono ?_
 rintro e V2 ⟨rfl,hVe⟩
 subst hVe
 have HBV2:=HBV1
 have HSV2:=HSV1
 go_wp2_with fail
 refine hK.out _ _ HSV2.out.2 (fun hHeld=>?_)
 clear hK K
 refine wpAnyH_ready (rs:=[6]) (by kernel_rfl) (by simp) (AllReadyH.cons rfl (fun K hK=>?_) AllReadyH.nil)
 go_simp
 go_wp2_with fail
 refine (HD.out _ HBV2.out).mono ?_
 rintro e V3 ⟨rfl,hb⟩
 have HBV3:=hZz (HBV2.out.trans (hb.mono HBV2.out.size))
 have HSV3:=hZz (show w.heap.size<V3.heap.size∧(fun w'=>w'.cell? ⟨w.heap.size,0,none⟩=some (.int .u64 cp)∧w'.cell? ⟨w.heap.size,1,none⟩=some (.slice da dn dc)) V3 from ⟨Nat.lt_of_lt_of_le HSV2.out.1 hb.size,(hb.cell (p:=⟨w.heap.size,0,none⟩) HSV2.out.1).trans HSV2.out.2.1,(hb.cell (p:=⟨w.heap.size,1,none⟩) HSV2.out.1).trans HSV2.out.2.2⟩)
 clear hb
 go_wp2_with fail
 refine hK.out _ _ HSV3.out.2 (fun hHeld=>?_)
 clear hK K
 refine wpAnyH_ready (rs:=[7]) (by kernel_rfl) (by simp) (AllReadyH.cons rfl (fun K hK=>?_) AllReadyH.nil)
 go_simp
 go_wp2_with fail
 have HBV4:=hZz (HBV3.out.alloc HBV3.out.size (.cells #[.string ⟨(Sv.orNo X).toArray⟩,.string ⟨D.toArray⟩] 9))
 have HSV4:=hZz (show w.heap.size<(V3.alloc (.cells #[.string ⟨(Sv.orNo X).toArray⟩,.string ⟨D.toArray⟩] 9)).heap.size∧(fun w'=>w'.cell? ⟨w.heap.size,0,none⟩=some (.int .u64 cp)∧w'.cell? ⟨w.heap.size,1,none⟩=some (.slice da dn dc)) (V3.alloc (.cells #[.string ⟨(Sv.orNo X).toArray⟩,.string ⟨D.toArray⟩] 9)) from ⟨Nat.lt_of_lt_of_le HSV3.out.1 (by simp),cell_allocV HSV3.out.2.1 (.cells #[.string ⟨(Sv.orNo X).toArray⟩,.string ⟨D.toArray⟩] 9),cell_allocV HSV3.out.2.2 (.cells #[.string ⟨(Sv.orNo X).toArray⟩,.string ⟨D.toArray⟩] 9)⟩)
 refine hK.out _ _ HSV4.out.2 (fun hHeld=>?_)
 clear hK K
 refine tk 8 (v:=?a12) (fun w' h=>?b12) ?_
 case b12=>(try dsimp only at h);go_simp;try rfl
 (try simp only [Act.put,s1,s2,s3])
 refine wpAnyH_done (by kernel_rfl) ?_ _
 go_wp2_with fail
 go_ret
 refine ⟨_,rfl,?_,HBV4.out⟩
 rw [HE.out]
 exact words_made [Sv.orNo X,D] V3 w.heap.size HBV3.out.size (by simp)
end
section
open Go.RowKit Go.ChangeMaps
open Go.Maps (Keyed int_keyed keyOf_int_mk)
open Ost (Cpu cpu0 inB clashTo faultTo fault)
def cpuE:Value→Option (DataW Unit × List MemPlace)
 | .agg ⟨[.int .i64 a,.int .i64 b,.int .i64 c]⟩=>some (.agg [.lit (.int .i64 a),.lit (.int .i64 b),.lit (.int .i64 c)],[])
 | _=>none
def cpuD (x:Cpu):DataW Unit:=.agg [.lit (.int .i64 x.core),.lit (.int .i64 x.sock),.lit (.int .i64 x.node)]
theorem cpuE_mk (x:Cpu):cpuE (.agg #[.int .i64 x.core,.int .i64 x.sock,.int .i64 x.node])=some (cpuD x,[]):=rfl
theorem cpuE_inv {v:Value} {x:Cpu} {ps:List MemPlace} (h:cpuE v=some (cpuD x,ps)):v=.agg #[.int .i64 x.core,.int .i64 x.sock,.int .i64 x.node]:=by
 unfold cpuE at h
 split at h
 ·simp only [cpuD,Option.some.injEq,Prod.mk.injEq,DataW.agg.injEq,List.cons.injEq,DataW.lit.injEq,Lit.int.injEq,true_and,and_true] at h
  obtain ⟨⟨rfl,rfl,rfl⟩,_⟩:=h
  rfl
 ·cases h
def MapIs (w:World) (B n:Nat) (f:Int→Option Cpu):Prop:=
 ∃ D:DataW Unit,w.ownsMap Tryz.prog 3 cpuE B n D∧∀ k:Int,0≤k→k<64→Maps.has D (.int .i64 k)=(f k).isSome∧D.atKey (.int .i64 k) (cpuD cpu0)=cpuD ((f k).getD cpu0)
theorem keyLaw:Keyed Tryz.prog 3:=int_keyed Tryz.underlying3
theorem wf64 {k:Int} (h0:0≤k) (h:k<64):(Lit.int .i64 k).wf=true:=WalkArith.wf_i64 (by omega)
theorem MapIs.alloc {w:World} {B n:Nat} {f:Int→Option Cpu} (h:MapIs w B n f) (o:Obj):MapIs (w.alloc o) B n f:=by
 obtain ⟨D,ho,hk⟩:=h
 exact ⟨D,ho.alloc o,hk⟩
theorem MapIs.below {w w':World} {B K n:Nat} {f:Int→Option Cpu} (h:MapIs w B n f) (hb:Below K w w') (hK:B<K):MapIs w' B n f:=by
 obtain ⟨D,⟨es,clock,hh,r⟩,hk⟩:=h
 exact ⟨D,⟨es,clock,(hb.block B hK).trans hh,r⟩,hk⟩
theorem MapIs.lt {w:World} {B n:Nat} {f:Int→Option Cpu} (h:MapIs w B n f):B<w.heap.size:=by
 obtain ⟨D,ho,_⟩:=h
 exact ho.lt
theorem MapIs.made (w:World):MapIs (w.alloc (.map #[] 0)) w.heap.size 0 (fun _=>none):=
 ⟨.map [],World.ownsMap_made w _ _ _,fun _ _ _=>⟨rfl,rfl⟩⟩
theorem zeroCpu (w:World):(zeroValue 78).run Tryz.prog w=.ok (.agg #[.int .i64 0,.int .i64 0,.int .i64 0]) w:=by kernel_rfl
theorem wpList_look {ops:Array Oper} {rest:List Oper} {o:Oper} {a:Act} {Q:Exit→Act→World→Prop} (w:World) (hg:o.guard=none) (m x:Operand) (hop:o.op=Op.lookup 111 m x true)
  (B n:Nat) (f:Int→Option Cpu) (k:Int) (h0:0≤k) (h64:k<64) (hm:a.eval m=.map (some B)) (hx:a.eval x=.int .i64 k) (hM:MapIs w B n f) (y:Cpu) (ok:Bool) (hy:(f k).getD cpu0=y) (hok:(f k).isSome=ok)
  (hK:wpList Tryz.prog ops Q rest (a.put o.dst (.tuple #[.agg #[.int .i64 y.core,.int .i64 y.sock,.int .i64 y.node],.bool ok])) w) :
  wpList Tryz.prog ops Q (o :: rest) a w:=by
 obtain ⟨D,ho,hk⟩:=hM
 refine wpList_lookup_own_ok w hg m x 111 hop 3 78 keyLaw Tryz.underlying111 cpuE (zeroCpu w) (cpuD cpu0) [] rfl B n D hm ho _ (.int .i64 k) hx (keyOf_int_mk Tryz.underlying3 (wf64 h0 h64)) ?_
 intro v ps hv
 obtain ⟨h1,h2⟩:=hk k h0 h64
 rw [h2,hy] at hv
 rw [h1,hok,cpuE_inv hv]
 exact hK
theorem wpList_put {ops:Array Oper} {rest:List Oper} {o:Oper} {a:Act} {Q:Exit→Act→World→Prop} (w:World) (hg:o.guard=none) (m x v:Operand) (hop:o.op=Op.mapUpdate 111 m x v)
  (B n:Nat) (f:Int→Option Cpu) (k:Int) (h0:0≤k) (h64:k<64) (y:Cpu) (hm:a.eval m=.map (some B)) (hx:a.eval x=.int .i64 k) (hv:a.eval v=.agg #[.int .i64 y.core,.int .i64 y.sock,.int .i64 y.node]) (hM:MapIs w B n f) (hn:n<maxLen)
  (hK:∀ w',MapIs w' B (n+1) (fun j=>if k=j then some y else f j)→w.grownBy w' (some B)→wpList Tryz.prog ops Q rest (a.put o.dst undef) w') :
  wpList Tryz.prog ops Q (o :: rest) a w:=by
 obtain ⟨D,ho,hk⟩:=hM
 refine wpList_mapUpdate_own w hg m x v 111 hop 3 78 keyLaw Tryz.underlying111 cpuE B n D hm ho hn _ _ (.int .i64 k) hx hv (keyOf_int_mk Tryz.underlying3 (wf64 h0 h64)) (cpuD y) [] (cpuE_mk y) ?_
 intro w' ho' hgr
 refine hK w' ⟨_,ho',fun j j0 j64=>?_⟩ hgr
 by_cases e:k=j
 ·subst e
  have hkl:WideAt.IsKeyLit (Lit.int .i64 k):=trivial
  rw [Maps.has_put_same ho.isMap hkl,Maps.atKey_put_same ho.isMap hkl]
  simp
 ·have hne:(Lit.int .i64 j)≠(Lit.int .i64 k):=by simp;omega
  rw [Maps.has_put_other hne,Maps.atKey_put_other hne]
  simp only [if_neg e]
  exact hk j j0 j64
theorem seen_step (l:List Cpu) (k:Nat):(fun j=>if (l.getD k cpu0).core=j then some (l.getD k cpu0) else Ost.seen l k j)=Ost.seen l (k+1):=by
 funext j;rw [Ost.seen]
theorem cell_alloc {w:World} {a:Addr} {v:Value} (h:w.cell? a=some v) (o:Obj):(w.alloc o).cell? a=some v:=
 (((Below.refl w.heap.size w).alloc (Nat.le_refl _) o).cell (World.block_lt_of_cell? w _ h)).trans h
def Newed (w:World) (l:List Cpu) (e:Ending) (w':World):Prop:=
 (fault l=0→∃ tb g c,e=.returned (.tuple #[.pointer (some ⟨tb,0,none⟩),.nilIface])∧TopoAt w' tb g 0 c l)∧(fault l≠0→e=.returned (.tuple #[.pointer none,.iface 94 (.int .i64 (fault l))]))∧Below w.heap.size w w'
theorem Newed.bad {w w':World} {l:List Cpu} {f:Int} (hf:fault l=f) (h0:f≠0) (hb:Below w.heap.size w w'):Newed w l (.returned (.tuple #[.pointer none,.iface 94 (.int .i64 f)])) w':=
 ⟨fun h=>absurd (hf.symm.trans h) h0,fun _=>by rw [hf],hb⟩
theorem Newed.good {w w':World} {l:List Cpu} {tb g c:Nat} (hf:fault l=0) (ht:TopoAt w' tb g 0 c l) (hb:Below w.heap.size w w'):Newed w l (.returned (.tuple #[.pointer (some ⟨tb,0,none⟩),.nilIface])) w':=
 ⟨fun _=>⟨tb,g,c,rfl,ht⟩,fun h=>absurd hf h,hb⟩
theorem new_many (ao:Option Addr) (n c:Nat) (l:List Cpu) (w:World) (hl:l.length=n) (hn:n=0∨64<n) :
  Calls Tryz.prog 17 #[.slice ao n c] w fun e w'=>Newed w l e w':=by
 have HF:Hid (fault l=2):=by unfold Hid fault;rw [if_pos (by omega)]
 clear hl
 rcases hn with rfl|hn
 ·go_enter Tryz.func17,Tryz.ntmps17
  go_wp2_with fail
  go_ret2
  exact Newed.bad HF.out (by decide) (Below.refl _ _)
 ·have h0:((n:Int) == 0)=false:=by simp;omega
  go_enter Tryz.func17,Tryz.ntmps17
  go_wp2_with fail
  go_ret2
  exact Newed.bad HF.out (by decide) (Below.refl _ _)
theorem new_some (b o c:Nat) (l:List Cpu) (w:World) (hc:CellsAt w b o l) (hlb:b<w.heap.size) (h0:0<l.length) (h64:l.length≤64) :
  Calls Tryz.prog 17 #[.slice (some ⟨b,o,none⟩) l.length c] w fun e w'=>Newed w l e w':=by
 have hl0:((l.length:Int) == 0)=false:=by rw [beq_eq_false_iff_ne];omega
 have HC:=hZz hc
 have HLB:=hZz hlb
 have HM:=hZz (MapIs.made w)
 have HB0:=hZz ((Below.refl w.heap.size w).alloc (Nat.le_refl _) (.map #[] 0))
 have hmm:=@run_makeMap Tryz.prog
 clear hc hlb
 go_enter Tryz.func17,Tryz.ntmps17
 go_wp2_with fail
 go_loopw [21] (fun i wr=>∃ k:Nat,k≤l.length∧i=.int .i64 k∧Hid (faultTo l k=0)∧MapIs wr w.heap.size k (Ost.seen l k)∧Below w.heap.size w wr) (fun i _=>l.length - (intOf i).toNat)
 case atStart=>exact ⟨0,by omega,rfl,rfl,HM.out,HB0.out⟩
 case round=>
  obtain ⟨k,hk,rfl,HF,hM,hB⟩:=hrel
  by_cases hlt:k<l.length
  ·obtain ⟨hcell0,hcell1,hcell2⟩:=(HC.out.below HLB.out hB) k hlt
   have HS:=hZz (seen_step l k)
   have HBd:=hZz (fun hb=>Ost.fault_at l k 1 h0 h64 hlt HF.out (Ost.faultAt_bound (l:=l) (k:=k) hb) (by decide))
   have HSh:=hZz (fun hb hc=>Ost.fault_at l k 3 h0 h64 hlt HF.out (Ost.faultAt_shape (l:=l) (k:=k) hb hc) (by decide))
   have HN:=hZz (fun hb hc=>Ost.faultTo_next (l:=l) (k:=k) HF.out hb hc)
   have HCn:=hZz (fun h=>Ost.clash_none (l:=l) (k:=k) (x:=l.getD k cpu0) h)
   have HCs:=hZz (fun y h=>Ost.clash_seen (l:=l) (k:=k) (x:=l.getD k cpu0) (y:=y) HF.out h)
   generalize l.getD k cpu0=x at *
   have hB1:=hB.alloc hB.size (.cells #[.int .i64 x.core,.int .i64 x.sock,.int .i64 x.node] 78)
   have hM1:=hM.alloc (.cells #[.int .i64 x.core,.int .i64 x.sock,.int .i64 x.node] 78)
   have hcx:=hZz (show (wr.alloc (.cells #[.int .i64 x.core,.int .i64 x.sock,.int .i64 x.node] 78)).cell? ⟨wr.heap.size,0,none⟩=some (.int .i64 x.core)∧(wr.alloc (.cells #[.int .i64 x.core,.int .i64 x.sock,.int .i64 x.node] 78)).cell? ⟨wr.heap.size,1,none⟩=some (.int .i64 x.sock)∧(wr.alloc (.cells #[.int .i64 x.core,.int .i64 x.sock,.int .i64 x.node] 78)).cell? ⟨wr.heap.size,2,none⟩=some (.int .i64 x.node) by simp)
   clear hM
   go_wp2_with fail
   refine (bounded_any x _).mono ?_
   rintro e w1 ⟨rfl,hb⟩
   have hB2:=hB1.trans (hb.mono hB1.size)
   have hM2:=hM1.below hb hM1.lt
   obtain ⟨p0,p1,p2⟩:=hcx.out
   have q0:=(hb.cell (p:=⟨wr.heap.size,0,none⟩) (by simp)).trans p0
   have q1:=(hb.cell (p:=⟨wr.heap.size,1,none⟩) (by simp)).trans p1
   have q2:=(hb.cell (p:=⟨wr.heap.size,2,none⟩) (by simp)).trans p2
   clear p0 p1 p2 hcx hM1 hB1 hb hB hcell0 hcell1 hcell2
   rcases two (inB x) with hi|hi
   ·rw [hi]
    obtain ⟨g0,g1,_⟩:=(Ost.inB_iff x).1 hi
    rcases hs:Ost.seen l k x.core with _|y
    ·have hNx:Hid (faultTo l (k+1)=0):=HN.out hi (HCn.out hs)
     have hB3:=hB2.alloc hB2.size (.cells #[.int .i64 cpu0.core,.int .i64 cpu0.sock,.int .i64 cpu0.node] 78)
     have hM3:=hM2.alloc (.cells #[.int .i64 cpu0.core,.int .i64 cpu0.sock,.int .i64 cpu0.node] 78)
     have r0:=cell_alloc q0 (.cells #[.int .i64 cpu0.core,.int .i64 cpu0.sock,.int .i64 cpu0.node] 78)
     have r1:=cell_alloc q1 (.cells #[.int .i64 cpu0.core,.int .i64 cpu0.sock,.int .i64 cpu0.node] 78)
     have r2:=cell_alloc q2 (.cells #[.int .i64 cpu0.core,.int .i64 cpu0.sock,.int .i64 cpu0.node] 78)
     have h1:Hid ((Ost.seen l k x.core).getD cpu0=cpu0):=by unfold Hid;rw [hs];rfl
     have h2:Hid ((Ost.seen l k x.core).isSome=false):=by unfold Hid;rw [hs];rfl
     clear q1 q2 hs hi
     go_wp2_with (first
      | (at_lookup;refine wpList_look _ rfl _ _ rfl w.heap.size k (Ost.seen l k) x.core g0 g1 rfl rfl hM2 cpu0 false h1.out h2.out ?_)
      | (at_mapUpdate;refine wpList_put _ rfl _ _ _ rfl w.heap.size k (Ost.seen l k) x.core g0 g1 x rfl rfl rfl hM3 (by unfold maxLen;omega) ?_;intro w2 hM4 hgrow))
     go_roundw
     case rel=>exact ⟨k+1,by omega,by go_num,hNx,by rw [← HS.out];exact hM4,hB3.grown hgrow hB3.size (fun j hj=>by cases hj;exact Nat.le_refl _)⟩
     case measure=>simp [intOf];omega
    ·by_cases hyx:y=x
     ·subst hyx
      have hNx:Hid (faultTo l (k+1)=0):=HN.out hi (by rw [HCs.out y hs];simp)
      have hB3:=hB2.alloc hB2.size (.cells #[.int .i64 y.core,.int .i64 y.sock,.int .i64 y.node] 78)
      have hM3:=hM2.alloc (.cells #[.int .i64 y.core,.int .i64 y.sock,.int .i64 y.node] 78)
      have r0:=cell_alloc q0 (.cells #[.int .i64 y.core,.int .i64 y.sock,.int .i64 y.node] 78)
      have r1:=cell_alloc q1 (.cells #[.int .i64 y.core,.int .i64 y.sock,.int .i64 y.node] 78)
      have r2:=cell_alloc q2 (.cells #[.int .i64 y.core,.int .i64 y.sock,.int .i64 y.node] 78)
      have h1:Hid ((Ost.seen l k y.core).getD cpu0=y):=by unfold Hid;rw [hs];rfl
      have h2:Hid ((Ost.seen l k y.core).isSome=true):=by unfold Hid;rw [hs];rfl
      clear q1 q2 hs hi
      go_wp2_with (first
       | (at_lookup;refine wpList_look _ rfl _ _ rfl w.heap.size k (Ost.seen l k) y.core g0 g1 rfl rfl hM2 y true h1.out h2.out ?_)
       | (at_mapUpdate;refine wpList_put _ rfl _ _ _ rfl w.heap.size k (Ost.seen l k) y.core g0 g1 y rfl rfl rfl hM3 (by unfold maxLen;omega) ?_;intro w2 hM4 hgrow))
      go_roundw
      case rel=>exact ⟨k+1,by omega,by go_num,hNx,by rw [← HS.out];exact hM4,hB3.grown hgrow hB3.size (fun j hj=>by cases hj;exact Nat.le_refl _)⟩
      case measure=>simp [intOf];omega
     ·have hF:Hid (fault l=3):=HSh.out hi (by rw [HCs.out y hs];exact decide_eq_true hyx)
      have hyc:y.core=x.core:=by obtain ⟨_,_,_,h⟩:=Ost.seen_some hs;exact h
      have hne:(¬ y.sock=x.sock)∨(y.sock=x.sock∧¬ y.node=x.node):=by
       by_cases hsk:y.sock=x.sock
       ·refine .inr ⟨hsk,fun hn=>hyx ?_⟩
        cases y;cases x;simp_all
       ·exact .inl hsk
      have h1:Hid ((Ost.seen l k x.core).getD cpu0=y):=by unfold Hid;rw [hs];rfl
      have h2:Hid ((Ost.seen l k x.core).isSome=true):=by unfold Hid;rw [hs];rfl
      rcases hne with hsk|⟨hsk,hnd⟩
      ·have r0:=cell_alloc q0 (.cells #[.int .i64 x.core,.int .i64 y.sock,.int .i64 y.node] 78)
       have r1:=cell_alloc q1 (.cells #[.int .i64 x.core,.int .i64 y.sock,.int .i64 y.node] 78)
       have r2:=cell_alloc q2 (.cells #[.int .i64 x.core,.int .i64 y.sock,.int .i64 y.node] 78)
       clear q1 q2 hs hi hyx
       go_wp2_with (at_lookup;refine wpList_look _ rfl _ _ rfl w.heap.size k (Ost.seen l k) x.core g0 g1 rfl rfl hM2 y true h1.out h2.out ?_)
       go_ret2
       exact Newed.bad hF.out (by decide) (hB2.alloc hB2.size _)
      ·have r0:=cell_alloc q0 (.cells #[.int .i64 x.core,.int .i64 x.sock,.int .i64 y.node] 78)
       have r1:=cell_alloc q1 (.cells #[.int .i64 x.core,.int .i64 x.sock,.int .i64 y.node] 78)
       have r2:=cell_alloc q2 (.cells #[.int .i64 x.core,.int .i64 x.sock,.int .i64 y.node] 78)
       clear q1 q2 hs hi hyx
       go_wp2_with (at_lookup;refine wpList_look _ rfl _ _ rfl w.heap.size k (Ost.seen l k) x.core g0 g1 rfl rfl hM2 y true h1.out h2.out ?_)
       go_ret2
       exact Newed.bad hF.out (by decide) (hB2.alloc hB2.size _)
   ·have hF:Hid (fault l=1):=HBd.out hi
    rw [hi]
    clear hi
    go_wp2_with fail
    go_ret2
    exact Newed.bad hF.out (by decide) hB2
  ·have hkl:k=l.length:=by omega
   have hF:Hid (fault l=0):=Ost.fault_none l h0 h64 (by rw [← hkl];exact HF.out)
   have HX:=hZz (clone_any b o c l wr (HC.out.below HLB.out hB) (Nat.lt_of_lt_of_le HLB.out hB.size) h0 h64)
   clear hkl hM
   go_wp2_with fail
   refine HX.out.mono ?_
   rintro e w1 ⟨g,c',rfl,hcl,hlt1,hb⟩
   have hB1:=hB.trans (hb.mono hB.size)
   have HBx:=hZz ((Below.refl w1.heap.size w1).alloc (Nat.le_refl _) (.cells #[.slice (some ⟨g,0,none⟩) l.length c'] 116))
   have hcl:=hZz hcl
   clear hb
   go_wp2_with fail
   go_ret2
   exact Newed.good (g:=g) (c:=c') hF.out ⟨by simp,hcl.out.below hlt1 HBx.out,Nat.lt_of_lt_of_le hlt1 HBx.out.size,h64⟩ (hB1.trans (HBx.out.mono hB1.size))
end
section
open Go.RowKit
open Qos (cmpS ltS orI)
theorem RunsAt.slice {base:Nat} {w:World} {v:Value} {ys:List RV} (h:RunsAt base w v ys):∃ a c,v=.slice a ys.length c:=by
 obtain ⟨a,c,hv,_⟩:=h
 exact ⟨a,c,hv⟩
theorem sortedFunc_any (Bm b nn:Nat) (xs:List RV) (w:World) (hm:w.cell? ⟨Bm,0,none⟩=some (.map (some b))) (hown:MapR w b nn xs) (hl:xs.length≤1000) :
  Calls Tryz.prog 116 #[.func (.func 154) #[] #[.pointer (some ⟨Bm,0,none⟩)],.func (.func 118) #[] #[]] w fun e w'=>(∃ v qs,e=.returned v∧RunsAt w.heap.size w' v qs∧qs.Perm xs∧InOrder qs)∧Below w.heap.size w w':=by
 have HC:=hZz (collect_any Bm b nn xs w hm hown hl)
 clear hm hown
 go_enter Tryz.func116,Tryz.ntmps116
 go_wp2_with fail
 refine HC.out.mono ?_
 rintro e w1 ⟨⟨v,ys,rfl,hp,hr⟩,hb⟩
 have HS:=hZz (sortRuns_any ys w1 v w.heap.size hr (by rw [hp.length_eq];exact hl))
 have HP:=hZz hp
 have HB:=hZz hb
 obtain ⟨a,c,rfl,_⟩:=hr.slice
 clear hr hp hb HC
 go_wp2_with fail
 refine HS.out.mono ?_
 rintro e w2 ⟨rfl,⟨qs,hq,hqp,hqo⟩,hb2⟩
 have HQ:=hZz hq
 have HQP:=hZz (hqp.trans HP.out)
 have HQO:=hZz hqo
 have HB2:=hZz (HB.out.trans hb2)
 clear hq hqp hqo hb2 HS
 go_wp2_with fail
 go_ret
 exact ⟨⟨_,qs,rfl,HQ.out,HQP.out,HQO.out⟩,HB2.out⟩
def devAt (w:World) (x:RV) (k:Nat):Int:=match x.da with
 | some a=>match w.cell? (a.add k) with
  | some (.int _ n)=>n
  | _=>0
 | none=>0
def devsOf (w:World) (x:RV):List Int:=(List.range x.dn).map (devAt w x)
def DevsOk (w:World) (x:RV):Prop:=0<x.dn→∃ g o,x.da=some ⟨g,o,none⟩∧g<w.heap.size∧∀ k,k<x.dn→w.cell? ⟨g,o+k,none⟩=some (.int .i64 (devAt w x k))
theorem devs_kept {w w':World} {x:RV} (h:DevsOk w x) (hk:∀ g o,x.da=some ⟨g,o,none⟩→g<w.heap.size→w'.heap[g]?=w.heap[g]?) (hs:w.heap.size≤w'.heap.size):DevsOk w' x∧devsOf w' x=devsOf w x:=by
 by_cases h0:0<x.dn
 ·obtain ⟨g,o,ha,hg,hc⟩:=h h0
  have hh:=hk g o ha hg
  have hd:∀ k,devAt w' x k=devAt w x k:=fun k=>by
   unfold devAt
   rw [ha]
   simp only
   rw [World.cell?_of_block (w:=w) (w':=w') (a:=(⟨g,o,none⟩:Addr).add k) (by rw [Addr.add_lit];exact hh)]
  refine ⟨fun _=>⟨g,o,ha,Nat.lt_of_lt_of_le hg hs,fun k hk'=>?_⟩,?_⟩
  ·rw [hd,← hc k hk']
   exact World.cell?_of_block (a:=⟨g,o+k,none⟩) hh
  ·unfold devsOf
   refine List.map_congr_left fun k _=>hd k
 ·refine ⟨fun h1=>absurd h1 h0,?_⟩
  have:x.dn=0:=by omega
  simp [devsOf,this]
theorem DevsOk.below {w w':World} {x:RV} (h:DevsOk w x) {K:Nat} (hb:Below K w w') (hK:∀ g o,x.da=some ⟨g,o,none⟩→g<w.heap.size→g<K):DevsOk w' x∧devsOf w' x=devsOf w x:=
 devs_kept h (fun g o e hg=>hb.block g (hK g o e hg)) hb.size
structure Rn where
 pod:ByteArray
 cont:ByteArray
 cpus:Int
 devs:List Int
def absR (w:World) (x:RV):Rn:=⟨x.pod,x.cont,x.cpus,devsOf w x⟩
def DevOwn (w:World) (x:RV):Prop:=DevsOk w x∧(0<x.dn→∃ g arr z,x.da=some ⟨g,0,none⟩∧w.heap[g]?=some (.cells arr 3 z))
def KInt (w w':World):Prop:=w.heap.size≤w'.heap.size∧∀ (k:Nat) (arr:Array Value) (z:Nat × Nat),w.heap[k]?=some (Obj.cells arr 3 z)→w'.heap[k]?=w.heap[k]?
theorem KInt.refl (w:World):KInt w w:=⟨Nat.le_refl _,fun _ _ _ _=>rfl⟩
theorem KInt.trans {a b c:World} (h:KInt a b) (k:KInt b c):KInt a c:=⟨Nat.le_trans h.1 k.1,fun i arr z hi=>by
 have h1:=h.2 i arr z hi
 rw [hi] at h1
 exact (k.2 i arr z h1).trans (h1.trans hi.symm)⟩
theorem KInt.below {w w':World} (h:Below w.heap.size w w'):KInt w w':=⟨h.size,fun k _ _ hk=>h.block k (Array.getElem?_eq_some_iff.1 hk).1⟩
theorem KInt.grown {w w':World} {b:Nat} (h:w.grownBy w' (some b)) (hb:∀ (arr:Array Value) (z:Nat × Nat),w.heap[b]?≠some (Obj.cells arr 3 z)):KInt w w':=
 ⟨h.size,fun k arr z hk=>h.block k (Array.getElem?_eq_some_iff.1 hk).1 (fun e=>by cases e;exact hb arr z hk)⟩
theorem DevOwn.kept {w w':World} {x:RV} (h:DevOwn w x) (hk:KInt w w'):DevOwn w' x∧devsOf w' x=devsOf w x:=by
 by_cases h0:0<x.dn
 ·obtain ⟨g,arr,z,ha,hg⟩:=h.2 h0
  have hh:=hk.2 g arr z hg
  obtain ⟨h1,h2⟩:=devs_kept (w':=w') h.1 (fun g' o' e _=>by rw [ha] at e;cases e;exact hh) hk.1
  exact ⟨⟨h1,fun _=>⟨g,arr,z,ha,hh.trans hg⟩⟩,h2⟩
 ·obtain ⟨h1,h2⟩:DevsOk w' x∧devsOf w' x=devsOf w x:=⟨fun h1=>absurd h1 h0,by (have e0:x.dn=0:=(by omega));simp [devsOf,e0]⟩
  exact ⟨⟨h1,fun h1=>absurd h1 h0⟩,h2⟩
def intV (l:List Int):List Value:=l.map (Value.int .i64)
theorem infoI:(Tryz.prog.info? 3).map (fun i=>(i.zero,i.size,i.bytes))=some (some (.int .i64 0),1,8):=by kernel_rfl
theorem eqNilI (ao:Option Addr) (n c:Nat) (w:World):Sem.run Tryz.prog (binOp BinOp.eql 67 (.slice ao n c) (.slice none 0 0)) w=.ok (.bool ao.isNone) w:=Lib.run_eql_slice_nil w _ _ ao n c 0 0 Tryz.underlying67
theorem devs_len (w:World) (x:RV):(devsOf w x).length=x.dn:=by simp [devsOf]
def DevsFrom (K:Nat) (x:RV):Prop:=0<x.dn→∃ g,x.da=some ⟨g,0,none⟩∧K≤g
theorem own_devs {w:World} {base:Nat} {v:Value} {x:RV} {l:List Int} (hl:l.length=x.dn) (h:w.ownsRow base 3 1 v l.length (intV l)):∃ a c,v=.slice a x.dn c∧DevOwn w { x with da:=a,dc:=c }∧devsOf w { x with da:=a,dc:=c }=l∧DevsFrom base { x with da:=a,dc:=c }:=by
 rcases h.2 with ⟨hv,hn⟩|⟨g,cap,cur,hv,hb,hg,hc1,hc2,_,ht⟩
 ·have h0:x.dn=0:=by omega
  refine ⟨none,0,by rw [hv,h0],⟨fun h1=>?_,fun h1=>?_⟩,?_,fun h1=>?_⟩
  ·simp only at h1;omega
  ·simp only at h1;omega
  ·have:l=[]:=List.eq_nil_of_length_eq_zero (by omega)
   subst this
   simp [devsOf,h0]
  ·simp only at h1;omega
 ·have hglt:g<w.heap.size:=(Array.getElem?_eq_some_iff.1 hg).1
  have hc:∀ k,k<x.dn→w.cell? ⟨g,k,none⟩=some (.int .i64 (l.getD k 0)):=fun k hk=>by
   have hx:(intV l)[k]?=some (.int .i64 (l.getD k 0)):=by
    have:k<l.length:=by omega
    simp [intV,this]
   rw [← ht,List.getElem?_take] at hx
   split at hx
   ·have hcu:cur[k]?=some (.int .i64 (l.getD k 0)):=by simpa using hx
    unfold World.cell?
    rw [hg]
    simp only
    exact hcu
   ·cases hx
  have hd:∀ k,k<x.dn→devAt w { x with da:=some ⟨g,0,none⟩,dc:=cap } k=l.getD k 0:=fun k hk=>by
   unfold devAt
   simp only
   rw [Addr.add_lit,Nat.zero_add,hc k hk]
  refine ⟨some ⟨g,0,none⟩,cap,by rw [hv,hl],⟨fun _=>⟨g,0,rfl,hglt,fun k hk=>?_⟩,fun _=>⟨g,cur,_,rfl,hg⟩⟩,?_,fun _=>⟨g,rfl,hb⟩⟩
  ·rw [Nat.zero_add,hc k hk,hd k hk]
  ·unfold devsOf
   apply List.ext_getElem
   ·simp [hl]
   ·intro i h1 h2
    have hi:i<x.dn:=by simpa using h1
    simp only [List.getElem_map,List.getElem_range]
    rw [hd i hi]
    simp [h2]
theorem cloneInts_at (a:Addr) (c:Nat) (l:List Int) (w:World) (hc:∀ j u,(intV l)[j]?=some u→w.cell? (a.add j)=some u) (hl:l.length≤1000) :
  Calls Tryz.prog 79 #[.slice (some a) l.length c] w fun e w'=>∃ v,e=.returned v∧w'.ownsRow w.heap.size 3 1 v l.length (intV l)∧Below w.heap.size w w':=by
 obtain ⟨i0,hi,hz0,hz1,hz2⟩:=info_parts infoI
 have h1:∀ u∈intV l,u.oneCell'=true:=by
  intro u hu
  simp [intV] at hu
  obtain ⟨n,_,rfl⟩:=hu
  rfl
 have HB:=hZz ((Below.refl w.heap.size w).alloc (Nat.le_refl _) (.cells #[] 3))
 have HC:Hid (∀ j u,(intV l)[j]?=some u→(w.alloc (.cells #[] 3)).cell? (a.add j)=some u):=fun j u hj=>Lib.cell?_alloc_some _ (hc j u hj)
 have hnil:=eqNilI (some a) l.length c w
 have hlen:(intV l).length=l.length:=by simp [intV]
 clear hc
 go_enter Tryz.func79,Tryz.ntmps79
 go_wp2_with (at_builtin;(refine wpList_append_own _ rfl _ _ 67 rfl w.heap.size 3 i0 (.int .i64 0) 1 8 Tryz.underlying67 hi hz0 hz1 hz2 rfl (by decide) _ _ _ rfl (World.ownsRow_lit w #[] 0 (Nat.le_refl _) (Nat.zero_le _) rfl) a l.length c (intV l) rfl (by rw [hlen,Nat.mul_one]) HC.out h1 (by unfold maxLen;omega) (by omega) (by simp) ?_);intro v' w1 hown' hgrow' _)
 have hB1:=hZz (HB.out.grown hgrow' (by simp) (fun j hj=>by cases hj;exact Nat.le_refl _))
 rw [Nat.zero_add] at hown'
 have hD:Hid (w1.ownsRow w.heap.size 3 1 v' l.length (intV l)):=by simpa [Hid] using hown'
 clear hown' hgrow'
 go_wp2_with fail
 go_ret
 exact ⟨_,rfl,hD.out,hB1.out⟩
theorem cloneDevs_any (x:RV) (w:World) (h:DevsOk w x) (hn:x.dn≤1000) :
  Calls Tryz.prog 79 #[.slice x.da x.dn x.dc] w fun e w'=>∃ a c,e=.returned (.slice a x.dn c)∧DevOwn w' { x with da:=a,dc:=c }∧devsOf w' { x with da:=a,dc:=c }=devsOf w x∧DevsFrom w.heap.size { x with da:=a,dc:=c }∧Below w.heap.size w w':=by
 have hdl:=devs_len w x
 rcases hda:x.da with _|a
 ·have h0:x.dn=0:=by
   rcases Nat.eq_zero_or_pos x.dn with e|e
   ·exact e
   ·obtain ⟨g,o,ha,_⟩:=h e
    rw [hda] at ha;cases ha
  have hnil:=eqNilI none 0 x.dc w
  rw [h0]
  go_enter Tryz.func79,Tryz.ntmps79
  go_wp2_with fail
  go_ret
  exact ⟨none,0,rfl,⟨fun h1=>by simp only at h1;omega,fun h1=>by simp only at h1;omega⟩,by simp [devsOf,h0],fun h1=>by simp only at h1;omega,Below.refl _ _⟩
 ·have hc:=cloneInts_at a x.dc (devsOf w x) w (fun j u hj=>by
   have hj':j<x.dn:=by
    have:=(List.getElem?_eq_some_iff.1 hj).1
    simp [intV,hdl] at this
    exact this
   obtain ⟨g,o,ha,_,hcs⟩:=h (by omega)
   rw [hda] at ha
   cases ha
   rw [Addr.add_lit,hcs j hj',← hj]
   simp [intV,devsOf,hj']) (by omega)
  rw [hdl] at hc
  refine hc.mono fun e w' ⟨v,he,ho,hb⟩=>?_
  obtain ⟨a',c',rfl,h1,h2,h3⟩:=own_devs (x:=x) hdl (by rw [hdl];exact ho)
  exact ⟨a',c',he,h1,h2,h3,hb⟩
end
section
open Go.RowKit
theorem step_two (l:Int) (d:Bool):(stepE l d=11∧stepF l d=true)∨(stepE l d=0∧stepF l d=false):=by
 unfold stepE stepF
 by_cases h:d=true∨l=0
 ·exact .inl ⟨if_pos h,decide_eq_true h⟩
 ·exact .inr ⟨if_neg h,decide_eq_false h⟩
theorem errV_11:errV ((11:Nat):Int)=.iface 94 (.int .i64 11):=rfl
theorem errV_0:errV ((0:Nat):Int)=.nilIface:=rfl
theorem syncW_any (B:Nat) (n k:Sd) (v:Value) (l:Int) (d:Bool) (w:World) (h:DiskW w B n k v l d) (hl:-9223372036854775808≤l∧l≤9223372036854775807):Calls Tryz.prog 71 #[.pointer (some ⟨B,0,none⟩)] w fun e w'=>e=.returned (errV ((stepE l d:Nat):Int))∧DiskW w' B n (if stepE l d=0 then n else k) (if stepE l d=0 then .slice none 0 0 else v) (stepN l d) (stepF l d)∧OnlyB B w w':=by
 have HS:=hZz (stepW_any B n k v l d w h hl)
 clear h
 rcases step_two l d with ⟨e1,e2⟩|⟨e1,e2⟩
 ·rw [e1,e2,if_neg (by decide),if_neg (by decide),errV_11]
  rw [e1,e2,errV_11] at HS
  go_enter Tryz.func71,Tryz.ntmps71
  go_wp2_with fail
  refine HS.out.mono ?_
  rintro e w1 ⟨rfl,h1,ho1⟩
  have H1:=hZz h1
  have HO:=hZz ho1
  clear h1 ho1 HS
  go_wp2_with fail
  go_ret
  exact ⟨rfl,H1.out,HO.out⟩
 ·rw [e1,e2,if_pos rfl,if_pos rfl,errV_0]
  rw [e1,e2,errV_0] at HS
  go_enter Tryz.func71,Tryz.ntmps71
  go_wp2_with fail
  refine HS.out.mono ?_
  rintro e w1 ⟨rfl,h1,ho1⟩
  have H2:=hZz ((h1.setKept n).set8 (.slice none 0 0))
  have HO:=hZz (((ho1.putS 4 n)).set 8 (.slice none 0 0))
  obtain ⟨n0,n1,n2,n3⟩:=h1.now
  obtain ⟨k0,k1,k2,k3⟩:=h1.kept
  obtain ⟨k8,_,_⟩:=h1.rest
  have f4:=h1.frozen 4
  have f5:=h1.frozen 5
  have f6:=h1.frozen 6
  have f7:=h1.frozen 7
  have f8:=h1.frozen 8
  clear h1 ho1 HS
  go_wp2_with fail
  go_ret
  exact ⟨rfl,H2.out,HO.out⟩
end
section
open Go.RowKit Go.ChangeMaps
open Go.Maps (Keyed)
open Qos (Nd nd usedOf Tame)
theorem keyLawS:Keyed Tryz.prog 9:=Go.Maps.string_keyed Tryz.underlying9
theorem zeroIntE (w:World):(zeroValue 3).run Tryz.prog w=.ok (.int .i64 0) w:=by kernel_rfl
def UseMap (w:World) (B n:Nat) (us:List Nd):Prop:=
 ∃ D:DataW Unit,w.ownsMap Tryz.prog 9 (plainElem Tryz.prog 3) B n D∧∀ s:ByteArray,D.atKey (.string s.data.toList) (.lit (.int .i64 0))=.lit (.int .i64 (usedOf us s))∧Go.Maps.has D (.string s.data.toList)=us.any fun u=>decide (u.kind=s)
theorem UseMap.alloc {w:World} {B n:Nat} {us:List Nd} (h:UseMap w B n us) (o:Obj):UseMap (w.alloc o) B n us:=by
 obtain ⟨D,ho,hk⟩:=h
 exact ⟨D,ho.alloc o,hk⟩
theorem UseMap.below {w w':World} {B K n:Nat} {us:List Nd} (h:UseMap w B n us) (hb:Below K w w') (hK:B<K):UseMap w' B n us:=by
 obtain ⟨D,⟨es,clock,hh,r⟩,hk⟩:=h
 exact ⟨D,⟨es,clock,(hb.block B hK).trans hh,r⟩,hk⟩
theorem UseMap.lt {w:World} {B n:Nat} {us:List Nd} (h:UseMap w B n us):B<w.heap.size:=by
 obtain ⟨D,ho,_⟩:=h
 exact ho.lt
theorem UseMap.made (w:World):UseMap (w.alloc (.map #[] 0)) w.heap.size 0 []:=
 ⟨.map [],World.ownsMap_made w _ _ _,fun _=>⟨rfl,rfl⟩⟩
theorem take_nd {us:List Nd} {k:Nat} (h:k<us.length):us.take (k+1)=us.take k++[nd us k]:=by
 rw [List.take_add_one,nd,List.getD_eq_getElem?_getD,List.getElem?_eq_getElem h];rfl
theorem str_inj {a b:ByteArray} (h:a.data.toList=b.data.toList):a=b:=ByteArray.ext (Array.toList_inj.mp h)
end
section
open Go.RowKit Go.Shelf
attribute [local go_sem] Oper.semAt_some
theorem equalInts_any (ax ay:Option Addr) (cx cy:Nat) (xs ys:List Int) (w:World) (hmx:xs.length≤1000) (hmy:ys.length≤1000) (hrx:0<xs.length→∃ b o,ax=some ⟨b,o,none⟩∧b<w.heap.size∧∀ k,k<xs.length→w.cell? ⟨b,o+k,none⟩=some (.int .i64 (xs.getD k 0))) (hry:0<ys.length→∃ b o,ay=some ⟨b,o,none⟩∧b<w.heap.size∧∀ k,k<ys.length→w.cell? ⟨b,o+k,none⟩=some (.int .i64 (ys.getD k 0))):Calls Tryz.prog 123 #[.slice ax xs.length cx,.slice ay ys.length cy] w fun e w'=>e=.returned (.bool (decide (xs=ys)))∧∃ n,w'=w.drewN n:=by
 by_cases hlen:xs.length=ys.length
 ·have hln:((xs.length:Int) != (ys.length:Int))=false:=by rw [hlen];simp
  have HX:=hZz hrx
  have HY:=hZz hry
  have HLEN:=hZz hlen
  clear hrx hry hlen
  go_enter Tryz.func123,Tryz.ntmps123
  go_wp2_with fail
  go_loopw [13] (fun i wr=>∃ k n:Nat,k≤xs.length∧i=.int .i64 k∧wr=w.drewN n∧Hid (∀ j,j<k→xs.getD j 0=ys.getD j 0)) (fun i _=>xs.length - (intOf i).toNat)
  case atStart=>exact ⟨0,0,by omega,rfl,rfl,fun j hj=>by omega⟩
  case round=>
   obtain ⟨k,n,hk,rfl,rfl,HALL⟩:=hrel
   by_cases hlt:k<xs.length
   ·have hlt2:k<ys.length:=by rw [← HLEN.out];exact hlt
    obtain ⟨b1,o1,rfl,hb1,hc1⟩:=HX.out (by omega)
    obtain ⟨b2,o2,rfl,hb2,hc2⟩:=HY.out (by omega)
    have x0:w.cell? ⟨b1,o1+k,none⟩=some (.int .i64 (xs.getD k 0)):=hc1 k hlt
    have y0:w.cell? ⟨b2,o2+k,none⟩=some (.int .i64 (ys.getD k 0)):=hc2 k hlt2
    have hk1:(k:Int)<(xs.length:Int):=by omega
    have hk2:(k:Int)<(ys.length:Int):=by omega
    clear hc1 hc2
    obtain ⟨p,hp⟩:∃ p,p=xs.getD k 0:=⟨_,rfl⟩
    obtain ⟨q,hq⟩:∃ q,q=ys.getD k 0:=⟨_,rfl⟩
    rw [← hp] at x0
    rw [← hq] at y0
    have HP:=hZz hp
    have HQ:=hZz hq
    clear hp hq
    by_cases he:p=q
    ·have HE:=hZz he
     have hb:(p != q)=false:=by rw [he];simp
     clear he
     go_wp2_with fail
     go_quiet (fail)
     go_wp2_with fail
     go_roundw
     case rel=>
      refine ⟨k+1,n+nq,by omega,by go_num,rfl,fun j hj=>?_⟩
      by_cases hjk:j=k
      ·subst hjk;rw [← HP.out,← HQ.out];exact HE.out
      ·exact HALL.out j (by omega)
     case measure=>simp [intOf];omega
    ·have hb:(p != q)=true:=by simp [he]
     have HD:Hid (decide (xs=ys)=false):=decide_eq_false fun e=>he (by rw [HP.out,HQ.out,e])
     clear he
     go_wp2_with fail
     go_quiet (fail)
     go_wp2_with fail
     go_ret
     exact ⟨by rw [HD.out];rfl,n+nq,by rw [World.drewN_drewN]⟩
   ·have hke:k=xs.length:=by omega
    have HD:Hid (decide (xs=ys)=true):=decide_eq_true (List.ext_getElem HLEN.out fun i h1 h2=>by
     have:=HALL.out i (by omega)
     simpa [h1,h2] using this)
    go_wp2_with fail
    go_ret
    exact ⟨by rw [HD.out];rfl,n,rfl⟩
 ·have hln:((xs.length:Int) != (ys.length:Int))=true:=by simp;omega
  have HD:Hid (decide (xs=ys)=false):=decide_eq_false fun e=>hlen (by rw [e])
  go_enter Tryz.func123,Tryz.ntmps123
  go_wp2_with fail
  go_ret
  exact ⟨by rw [HD.out];rfl,0,rfl⟩
end
section
open Go.RowKit Go.Shelf
end
section
open Go.RowKit
open Dvs (Dv dv0 dv nth)
def Ans (e:Ending):Prop:=∃ b,e=.returned (.bool b)
theorem lightPod_any (nm:ByteArray) (pr:Int) (cv:Value) (w:World) (h:RowsOf w cv 6 (contP w)):Calls Tryz.prog 10 #[.agg #[.string nm,.int .i64 pr,cv]] w fun e w'=>Ans e∧Below w.heap.size w w':=by
 have HB0:=hZz ((Below.refl w.heap.size w).alloc (Nat.le_refl _) (.cells #[.string nm,.int .i64 pr,cv] 31))
 have HH:=hZz h
 obtain ⟨ao,len,c,rfl,hm,_⟩:=h
 clear hm
 by_cases h30:30<nm.size
 ·go_enter Tryz.func10,Tryz.ntmps10
  go_wp2_with fail
  go_ret
  exact ⟨⟨_,rfl⟩,HB0.out⟩
 have h30':nm.size≤30:=by omega
 clear h30
 by_cases h5:5<len
 ·go_enter Tryz.func10,Tryz.ntmps10
  go_wp2_with fail
  go_ret
  exact ⟨⟨_,rfl⟩,HB0.out⟩
 have h5':len≤5:=by omega
 have hd1:decide (30<(nm.size:Int))=false:=decide_eq_false (by omega)
 have hd2:decide (5<(len:Int))=false:=decide_eq_false (by omega)
 clear h5 h30'
 go_enter Tryz.func10,Tryz.ntmps10
 go_wp2_with fail
 go_loopw [3] (fun i wr=>∃ k:Nat,k≤len∧i=.int .i64 k∧Below w.heap.size w wr∧wr.cell? ⟨w.heap.size,2,none⟩=some (.slice ao len c)) (fun i _=>len - (intOf i).toNat)
 case atStart=>exact ⟨0,by omega,rfl,HB0.out,by simp⟩
 case round=>
  obtain ⟨k,hk,rfl,hB,hcv⟩:=hrel
  by_cases hlt:k<len
  ·obtain ⟨ao',len',c',hv,_,hr⟩:=HH.out.below hB fun _ h=>h.below hB
   cases hv
   obtain ⟨b,o,rfl,hlb,hcs⟩:=hr (by omega)
   obtain ⟨cs,_,hc,cn,x1,x2,x3,x4,dv,rfl,hdv⟩:=hcs k hlt
   have c0:wr.cell? ⟨b,o+k*6,none⟩=some (.string cn):=hc 0 (by decide)
   have c1:wr.cell? ⟨b,o+k*6+1,none⟩=some (.int .i64 x1):=hc 1 (by decide)
   have c2:wr.cell? ⟨b,o+k*6+2,none⟩=some (.int .i64 x2):=hc 2 (by decide)
   have c3:wr.cell? ⟨b,o+k*6+3,none⟩=some (.int .i64 x3):=hc 3 (by decide)
   have c4:wr.cell? ⟨b,o+k*6+4,none⟩=some (.int .i64 x4):=hc 4 (by decide)
   have c5:wr.cell? ⟨b,o+k*6+5,none⟩=some dv:=hc 5 (by decide)
   have hB1:=hZz (hB.alloc hB.size (.cells #[.string cn,.int .i64 x1,.int .i64 x2,.int .i64 x3,.int .i64 x4,dv] 64))
   have HD:=hZz (hdv.below ((Below.refl wr.heap.size wr).alloc (Nat.le_refl _) (.cells #[.string cn,.int .i64 x1,.int .i64 x2,.int .i64 x3,.int .i64 x4,dv] 64)) fun _ h=>h)
   have hcv1:=Lib.cell?_alloc_some (.cells #[.string cn,.int .i64 x1,.int .i64 x2,.int .i64 x3,.int .i64 x4,dv] 64) hcv
   have hsz:=hB.size
   obtain ⟨da,dl,dc,rfl,_,_⟩:=hdv
   clear hc hcs hr hB
   by_cases g30:30<cn.size
   ·go_wp2_with fail
    go_ret
    exact ⟨⟨_,rfl⟩,hB1.out⟩
   have g30':cn.size≤30:=by omega
   clear g30
   by_cases g5:5<dl
   ·go_wp2_with fail
    go_ret
    exact ⟨⟨_,rfl⟩,hB1.out⟩
   have g5':dl≤5:=by omega
   have e1:decide (30<(cn.size:Int))=false:=decide_eq_false (by omega)
   have e2:decide (5<(dl:Int))=false:=decide_eq_false (by omega)
   clear g5 g30'
   go_wp2_with fail
   go_loop [5] (fun i=>∃ q:Nat,q≤dl∧i=.int .i64 q) (fun i=>dl - (intOf i).toNat)
   case atStart=>exact ⟨0,by omega,rfl⟩
   case round=>
    obtain ⟨q,hq,rfl⟩:=hrel
    by_cases hql:q<dl
    ·obtain ⟨ao2,len2,c2',hv2,_,hr2⟩:=HD.out
     cases hv2
     obtain ⟨b2,o2,rfl,hlb2,hcs2⟩:=hr2 (by omega)
     obtain ⟨cs2,_,hc2,s2,y2,rfl⟩:=hcs2 q hql
     have d0:=hc2 0 (by decide)
     simp only [Nat.add_zero,List.getElem?_cons_zero] at d0
     clear hc2 hcs2 hr2
     by_cases k30:30<s2.size
     ·go_wp2_with fail
      go_ret
      exact ⟨⟨_,rfl⟩,hB1.out⟩
     have k30':s2.size≤30:=by omega
     clear k30
     go_wp2_with fail
     go_round
     case rel=>exact ⟨q+1,by omega,by go_num⟩
     case measure=>simp [intOf];omega
    ·have hqe:q=dl:=by omega
     subst hqe
     go_wp2_with fail
     go_roundw
     case rel=>exact ⟨k+1,by omega,by go_num,hB1.out,hcv1⟩
     case measure=>simp [intOf];omega
  ·have hke:k=len:=by omega
   subst hke
   have hB1:=hZz hB
   clear hB
   go_wp2_with fail
   go_ret
   exact ⟨⟨_,rfl⟩,hB1.out⟩
end
end Go.Proofs.YtbfdcmodflnkfaaGreatDoor
