/- PCmp, RE2, OR0, OB0, OMath12, OEnv, OMath13, PSort2, RE3, OMath14, PSing, PW2 -/
import Derived.Test.YtbfdcmodflnkfaaGreatDoorU11
set_option maxRecDepth 100000
set_option maxHeartbeats 16000000
namespace Go.Proofs.YtbfdcmodflnkfaaGreatDoor
section
open Go.RowKit
open Ost (Cpu cpu0 less)
theorem cmpOr_any (g c:Nat) (x y:Int) (w:World) (h0:w.cell? ⟨g,0,none⟩=some (.int .i64 x)) (h1:w.cell? ⟨g,1,none⟩=some (.int .i64 y)) :
  Calls Tryz.prog 119 #[.slice (some ⟨g,0,none⟩) 2 c] w fun e w'=>e=.returned (.int .i64 (if x=0 then y else x))∧w'=w:=by
 by_cases hx:x=0
 ·rw [if_pos hx]
  subst hx
  by_cases hy:y=0
  ·subst hy
   go_enter Tryz.func119,Tryz.ntmps119
   go_wp2_with fail
   refine wp_loop_rounds 3 ?_
   rw [rounds_succ]
   go_wp2_with fail
   rw [rounds_succ]
   go_wp2_with fail
   rw [rounds_succ]
   go_wp2_with fail
   go_ret
   exact ⟨rfl,rfl⟩
  ·have q:(y != 0)=true:=by rw [bne_iff_ne];exact hy
   clear hy
   go_enter Tryz.func119,Tryz.ntmps119
   go_wp2_with fail
   refine wp_loop_rounds 2 ?_
   rw [rounds_succ]
   go_wp2_with fail
   rw [rounds_succ]
   go_wp2_with fail
   go_ret
   exact ⟨rfl,rfl⟩
 ·rw [if_neg hx]
  have q:(x != 0)=true:=by rw [bne_iff_ne];exact hx
  clear hx
  go_enter Tryz.func119,Tryz.ntmps119
  go_wp2_with fail
  refine wp_loop_rounds 1 ?_
  rw [rounds_succ]
  go_wp2_with fail
  go_ret
  exact ⟨rfl,rfl⟩
def cfOf (cl:Nat→Nat) (x y:Nat):Int:=if Lib.compareInt (cl x) (cl y)=0 then Lib.compareInt x y else Lib.compareInt (cl x) (cl y)
theorem cmpInt_any (x y:Int) (w:World):Calls Tryz.prog 206 #[.int .i64 x,.int .i64 y] w fun e w'=>e=.returned (.int .i64 (Lib.compareInt x y))∧w'=w:=AnyG.cmp_Compare_int Tryz.cmpL x y w
theorem cmp_any (x y:Nat) (tc lc fc tb b o c mb n:Nat) (l:List Cpu) (f:Int→Int) (cl:Nat→Nat) (w:World) (h:Stand w tc lc fc tb b o c mb n l f) (hg:Good l) (hf:∀ k,f (l.getD k cpu0).core=(cl k:Nat)) :
  Calls Tryz.prog 205 #[.int .i64 x,.int .i64 y,.pointer (some ⟨fc,0,none⟩)] w fun e w'=>e=.returned (.int .i64 (cfOf cl x y))∧Grows w w':=by
 have HS:=hZz h
 have HL:=hZz h.lts
 have hg0:Grows w w.drew:=(Grows.refl w).drewN 1
 have HB1:Hid (∀ W,Stand W tc lc fc tb b o c mb n l f→Calls Tryz.prog 201 #[.int .i64 x,.pointer (some ⟨tc,0,none⟩),.pointer (some ⟨lc,0,none⟩)] W fun e w'=>e=.returned (.int .i64 (cl x:Nat))∧Grows W w'):=fun W hW=>by
  rw [← hf x];exact beside_any x tc lc fc tb b o c mb n l f W hW hg
 have HB2:Hid (∀ W,Stand W tc lc fc tb b o c mb n l f→Calls Tryz.prog 201 #[.int .i64 y,.pointer (some ⟨tc,0,none⟩),.pointer (some ⟨lc,0,none⟩)] W fun e w'=>e=.returned (.int .i64 (cl y:Nat))∧Grows W w'):=fun W hW=>by
  rw [← hf y];exact beside_any y tc lc fc tb b o c mb n l f W hW hg
 have HE:Hid (cfOf cl x y=if Lib.compareInt (cl x) (cl y)=0 then Lib.compareInt x y else Lib.compareInt (cl x) (cl y)):=rfl
 have HC1:=hZz (fun W=>cmpInt_any (cl x) (cl y) W)
 have HC2:=hZz (fun W=>cmpInt_any x y W)
 have HOr:=hZz (fun g c W h0 h1=>cmpOr_any g c (Lib.compareInt (cl x) (cl y)) (Lib.compareInt x y) W h0 h1)
 rw [← HE.out] at HOr
 generalize cfOf cl x y=r at *
 generalize cl x=cx at *
 generalize cl y=cy at *
 generalize Lib.compareInt (cx:Int) (cy:Int)=d1 at *
 generalize Lib.compareInt (x:Int) (y:Int)=d2 at *
 clear HE h hf
 go_enter Tryz.func205,Tryz.ntmps205
 go_wp2_with fail
 refine wp_region_held_drew (S:=(fun w'=>w'.cell? ⟨fc,0,none⟩=some (.func (.func 201) #[] #[.pointer (some ⟨tc,0,none⟩),.pointer (some ⟨lc,0,none⟩)])∧Hid (Stand w' tc lc fc tb b o c mb n l f))) (by kernel_rfl) ⟨(HS.out.below hg0.below HL.out).fn,HS.out.below hg0.below HL.out⟩ (fun hHeld=>?_)
 refine tk 0 (v:=?a1) (fun w' h=>?b1) ?_
 case b1=>(try dsimp only at h);go_simp;try rfl
 (try simp only [Act.put,s1,s2,s3])
 refine tk 1 (v:=?a2) (fun w' h=>?b2) ?_
 case b2=>(try dsimp only at h);go_simp;try rfl
 (try simp only [Act.put,s1,s2,s3])
 refine tk 3 (v:=?a3) (fun w' h=>?b3) ?_
 case b3=>(try dsimp only at h);go_simp;try rfl
 (try simp only [Act.put,s1,s2,s3])
 refine tk 4 (v:=?a4) (fun w' h=>?b4) ?_
 case b4=>(try dsimp only at h);go_simp;try rfl
 (try simp only [Act.put,s1,s2,s3])
 refine tk 7 (v:=?a5) (fun w' h=>?b5) ?_
 case b5=>(try dsimp only at h);go_simp;try rfl
 (try simp only [Act.put,s1,s2,s3])
 refine tk 8 (v:=?a6) (fun w' h=>?b6) ?_
 case b6=>(try dsimp only at h);go_simp;try rfl
 (try simp only [Act.put,s1,s2,s3])
 refine wpAnyH_ready (rs:=[2]) (by kernel_rfl) (by simp) (AllReadyH.cons rfl (fun K hK=>?_) AllReadyH.nil)
 go_simp
 go_wp2_with fail
 refine (HB1.out _ hHeld.2.out).mono ?_
 rintro e w1 ⟨rfl,hg⟩
 have hg1:=hg0.trans hg
 clear hg
 go_wp2_with fail
 refine hK.out _ _ ⟨(HS.out.below hg1.below HL.out).fn,HS.out.below hg1.below HL.out⟩ (fun hHeld=>?_)
 clear hK K
 refine wpAnyH_ready (rs:=[5]) (by kernel_rfl) (by simp) (AllReadyH.cons rfl (fun K hK=>?_) AllReadyH.nil)
 go_simp
 go_wp2_with fail
 refine (HB2.out _ hHeld.2.out).mono ?_
 rintro e w2 ⟨rfl,hg⟩
 have hg2:=hg1.trans hg
 clear hg
 go_wp2_with fail
 refine hK.out _ _ ⟨(HS.out.below hg2.below HL.out).fn,HS.out.below hg2.below HL.out⟩ (fun hHeld=>?_)
 clear hK K
 refine wpAnyH_ready (rs:=[6]) (by kernel_rfl) (by simp) (AllReadyH.cons rfl (fun K hK=>?_) AllReadyH.nil)
 go_simp
 go_wp2_with fail
 refine (HC1.out _).mono ?_
 rintro e w3 ⟨rfl,rfl⟩
 go_wp2_with fail
 refine hK.out _ _ hHeld (fun hHeld=>?_)
 clear hK K
 refine wpAnyH_ready (rs:=[9]) (by kernel_rfl) (by simp) (AllReadyH.cons rfl (fun K hK=>?_) AllReadyH.nil)
 go_simp
 go_wp2_with fail
 refine (HC2.out _).mono ?_
 rintro e w4 ⟨rfl,rfl⟩
 go_wp2_with fail
 refine hK.out _ _ hHeld (fun hHeld=>?_)
 clear hK K
 refine wpAnyH_ready (rs:=[10]) (by kernel_rfl) (by simp) (AllReadyH.cons rfl (fun K hK=>?_) AllReadyH.nil)
 go_simp
 have hg4:=hg2.alloc (.cells #[.int .i64 d1,.int .i64 d2] 3)
 have c0:(w4.alloc (.cells #[.int .i64 d1,.int .i64 d2] 3)).cell? ⟨w4.heap.size,0,none⟩=some (.int .i64 d1):=by simp
 have c1:(w4.alloc (.cells #[.int .i64 d1,.int .i64 d2] 3)).cell? ⟨w4.heap.size,1,none⟩=some (.int .i64 d2):=by simp
 refine hK.out _ _ ⟨(HS.out.below hg4.below HL.out).fn,HS.out.below hg4.below HL.out⟩ (fun hHeld=>?_)
 clear hK K
 refine wpAnyH_ready (rs:=[11]) (by kernel_rfl) (by simp) (AllReadyH.cons rfl (fun K hK=>?_) AllReadyH.nil)
 go_simp
 go_wp2_with fail
 refine (HOr.out _ _ _ c0 c1).mono ?_
 rintro e w5 ⟨rfl,rfl⟩
 go_wp2_with fail
 refine hK.out _ _ hHeld (fun hHeld=>?_)
 clear hK K
 refine tk 12 (v:=?a7) (fun w' h=>?b7) ?_
 case b7=>(try dsimp only at h);go_simp;try rfl
 (try simp only [Act.put,s1,s2,s3])
 refine wpAnyH_done (by kernel_rfl) ?_ _
 go_wp2_with fail
 go_ret
 exact ⟨rfl,hg4⟩
end
section
open Go.RowKit Go.Maps
structure Started (w w':World) (Bd Bm n:Nat) (xs:List RV) (x:RV) (l:Int) (d:Bool) (f:Nat):Prop where
 disk:DiskZ w' Bd (stepL l d) (stepD l d)
 out:OutR Bd Bm w w'
 no:f≠0→MapR w' Bm n xs
 yes:f=0→∃ a c,MapR w' Bm (n+1) ({ x with da:=a,dc:=c } :: xs)∧DevOwn w' { x with da:=a,dc:=c }∧devsOf w' { x with da:=a,dc:=c }=devsOf w x
theorem far_cellR {w w':World} {row:Option Nat} (hg:w.grownBy w' row) (a:Addr) (h:a.block<w.heap.size) (hne:some a.block≠row):w'.cell? a=w.cell? a:=World.cell?_of_block (hg.block _ h hne)
theorem wp_putRun {o:Oper} {a:Act} {N:Act→World→Prop} {Q:Exit→Act→World→Prop} (w:World) (m x v:Operand) (hop:o.op=Op.mapUpdate 131 m x v)
  (B n:Nat) (xs:List RV) (y:RV) (hm:a.eval m=.map (some B)) (hx:a.eval x=.agg #[.string y.pod,.string y.cont]) (hv:a.eval v=.agg #[.string y.pod,.string y.cont,.int .u64 y.cpus,.slice y.da y.dn y.dc]) (hM:MapR w B n xs) (hy:y.Short) (hn:n<1000) (hno:(xs.any fun z=>decide (z.pod=y.pod∧z.cont=y.cont))=false)
  (hK:∀ w',MapR w' B (n+1) (y :: xs)→w.grownBy w' (some B)→w'.heap.size=w.heap.size→N (a.put o.dst undef) w') :
  o.wp Tryz.prog a w N Q:=by
 obtain ⟨w',hrun,r1,r2,r3⟩:=hM.put y hy hn hno
 unfold nameV RV.val at hrun
 unfold Oper.wp
 simp [execOp,hop,hm,hx,hv,hrun,Result.andThen]
 exact hK w' r1 r2 r3
end
section
namespace Ol
open Qos (Nd Ct Pd ct podF contF twice)
open Sv (Gv Hd gv hd heldF)
section
variable {α β:Type} (nm:α→β)
theorem nm_inj {l:List α} (h:(l.map nm).Nodup) {a b:α} (ha:a∈l) (hb:b∈l) (e:nm a=nm b):a=b:=by
 obtain ⟨i,hi,rfl⟩:=List.getElem_of_mem ha
 obtain ⟨j,hj,rfl⟩:=List.getElem_of_mem hb
 have h2:=h
 unfold List.Nodup at h2
 rw [List.pairwise_map,List.pairwise_iff_getElem] at h2
 have:i=j:=by
  rcases Nat.lt_trichotomy i j with k|k|k
  ·exact absurd e (h2 i j hi hj k)
  ·exact k
  ·exact absurd e.symm (h2 j i hj hi k)
 subst this
 rfl
theorem nodup_of {l:List α} (h:(l.map nm).Nodup):l.Nodup:=by
 unfold List.Nodup at *
 rw [List.pairwise_map] at h
 exact h.imp fun hab e=>hab (by rw [e])
theorem step_stop {runs wanted:List α} {k:Nat} (hk:k<runs.length) (hd:(runs.map nm).Nodup) (hw:runs[k] ∉ wanted) (a:α):(a∈runs∧(a∈wanted∨a∈runs.drop (k+1)))↔(a∈runs∧(a∈wanted∨a∈runs.drop k))∧nm a≠nm runs[k]:=by
 have e:runs.drop k=runs[k] :: runs.drop (k+1):=List.drop_eq_getElem_cons hk
 have hnd:runs.Nodup:=nodup_of nm hd
 constructor
 ·rintro ⟨h1,h2⟩
  refine ⟨⟨h1,h2.imp id fun h=>by rw [e];exact List.mem_cons_of_mem _ h⟩,fun en=>?_⟩
  have ea:=nm_inj nm hd h1 (List.getElem_mem hk) en
  subst ea
  rcases h2 with h2|h2
  ·exact hw h2
  ·have:=(hnd.sublist (List.drop_sublist k runs))
   rw [e] at this
   exact (List.nodup_cons.1 this).1 h2
 ·rintro ⟨⟨h1,h2⟩,h3⟩
  refine ⟨h1,h2.imp id fun h=>?_⟩
  rw [e] at h
  rcases List.mem_cons.1 h with rfl|h
  ·exact absurd rfl h3
  ·exact h
theorem step_keep {runs wanted:List α} {k:Nat} (hk:k<runs.length) (hw:runs[k]∈wanted) (a:α):(a∈runs∧(a∈wanted∨a∈runs.drop (k+1)))↔(a∈runs∧(a∈wanted∨a∈runs.drop k)):=by
 have e:runs.drop k=runs[k] :: runs.drop (k+1):=List.drop_eq_getElem_cons hk
 rw [e]
 constructor
 ·rintro ⟨h1,h2⟩
  exact ⟨h1,h2.imp id fun h=>List.mem_cons_of_mem _ h⟩
 ·rintro ⟨h1,h2⟩
  refine ⟨h1,?_⟩
  rcases h2 with h2|h2
  ·exact .inl h2
  ·rcases List.mem_cons.1 h2 with rfl|h2
   ·exact .inl hw
   ·exact .inr h2
theorem step_mid {runs wanted:List α} (a:α):(a∈runs∧(a∈wanted∨a∈runs.drop runs.length))↔(a∈wanted∧(a∈runs∨a∈wanted.take 0)):=by
 simp [and_comm]
theorem step_start {runs wanted:List α} {k:Nat} (hk:k<wanted.length) (a:α):(a∈wanted∧(a∈runs∨a∈wanted.take (k+1)))↔(a∈wanted∧(a∈runs∨a∈wanted.take k))∨a=wanted[k]:=by
 rw [List.take_succ_eq_append_getElem hk,List.mem_append,List.mem_singleton]
 constructor
 ·rintro ⟨h1,h2|h2|h2⟩
  ·exact .inl ⟨h1,.inl h2⟩
  ·exact .inl ⟨h1,.inr h2⟩
  ·exact .inr h2
 ·rintro (⟨h1,h2⟩|rfl)
  ·exact ⟨h1,h2.imp id .inl⟩
  ·exact ⟨List.getElem_mem hk,.inr (.inr rfl)⟩
theorem step_has {runs wanted:List α} {k:Nat} (hk:k<wanted.length) (hw:wanted[k]∈runs) (a:α):(a∈wanted∧(a∈runs∨a∈wanted.take (k+1)))↔(a∈wanted∧(a∈runs∨a∈wanted.take k)):=by
 rw [step_start hk]
 constructor
 ·rintro (h|rfl)
  ·exact h
  ·exact ⟨List.getElem_mem hk,.inl hw⟩
 ·exact .inl
theorem start_free {runs wanted:List α} {k:Nat} (hk:k<wanted.length) (hd:(wanted.map nm).Nodup) (hw:wanted[k] ∉ runs) (a:α) (h:a∈wanted∧(a∈runs∨a∈wanted.take k)):nm a≠nm wanted[k]:=by
 intro en
 have ea:=nm_inj nm hd h.1 (List.getElem_mem hk) en
 subst ea
 rcases h.2 with h2|h2
 ·exact hw h2
 ·have hnd:wanted.Nodup:=nodup_of nm hd
  have:=(hnd.sublist (List.take_sublist (k+1) wanted))
  rw [List.take_succ_eq_append_getElem hk,List.nodup_append] at this
  exact this.2.2 _ h2 _ (List.mem_singleton.2 rfl) rfl
theorem step_end {runs wanted:List α} (a:α):(a∈wanted∧(a∈runs∨a∈wanted.take wanted.length))↔a∈wanted:=by
 rw [List.take_length]
 exact ⟨fun h=>h.1,fun h=>⟨h,.inr h⟩⟩
end
theorem devF_len {xs:List Int} (h:Sv.devF xs=0):xs.length≤16:=by
 unfold Sv.devF at h
 split at h
 ·cases h
 ·omega
theorem names_apart {p:Pd} (h:podF p=0) {i j:Nat} (hj:j<p.cs.length) (hij:i<j):(ct p.cs i).nm≠(ct p.cs j).nm:=by
 obtain ⟨_,_,_,h4⟩:=Qos.pod_len h
 have:=Dvs.first_all h4 j hj
 unfold contF at this
 split at this
 ·cases this
 ·split at this
  ·cases this
  ·rename_i h2
   intro e
   refine h2 ?_
   unfold twice
   rw [List.any_eq_true]
   refine ⟨ct p.cs i,?_,decide_eq_true e⟩
   have hi:i<p.cs.length:=by omega
   rw [List.mem_take_iff_getElem]
   exact ⟨i,by omega,by simp [ct,hi]⟩
end Ol
end
section
namespace Ol
open Ost (Cpu chosen dif cpu0)
open Dvs (Dv dv)
def nodesC (l:List Cpu):Nat→Nat
 | 0=>0
 | k+1=>nodesC l k ||| 2 ^ (l.getD k cpu0).node.toNat
def nodesD (a:Nat) (ds:List Dv):Nat→Nat
 | 0=>a
 | k+1=>nodesD a ds k ||| 2 ^ (dv ds k).node.toNat
structure Cf where
 l:List Cpu
 keep:Nat
 nb:Int
 pol:Int
 ds:List Dv
def confF (c:Cf):Int:=
 if Ost.fault c.l≠0 then Ost.fault c.l
 else if ¬ (c.keep &&& chosen (fun _=>true) c.l=c.keep)∨¬ (0≤c.nb∧c.nb≤1125899906842624)∨¬ (0≤c.pol∧c.pol≤3) then 1
 else (Dvs.fault c.ds:Nat)
def mcOf (c:Cf):Mc:=⟨c.l,dif (chosen (fun _=>true) c.l) c.keep,nodesD (nodesC c.l c.l.length) c.ds c.ds.length,c.nb,c.pol⟩
theorem two_lt {x:Int} (h0:0≤x) (h3:x≤3):2 ^ x.toNat<16∧1≤2 ^ x.toNat:=by
 have:x.toNat=0∨x.toNat=1∨x.toNat=2∨x.toNat=3:=by omega
 rcases this with h|h|h|h <;> rw [h] <;> decide
theorem or16 {a b:Nat} (ha:a<16) (hb:b<16):a ||| b<16:=Nat.or_lt_two_pow (n:=4) ha hb
theorem nodesC_lt {l:List Cpu} (h:∀ k,k<l.length→0≤(l.getD k cpu0).node∧(l.getD k cpu0).node≤3):∀ k,k≤l.length→nodesC l k<16∧(0<k→1≤nodesC l k):=by
 intro k
 induction k with
 | zero=>intro _;exact ⟨Nat.zero_lt_succ 15,fun h=>by omega⟩
 | succ k ih=>
  intro hk
  have h1:=ih (by omega)
  have h2:=two_lt (h k (by omega)).1 (h k (by omega)).2
  rw [nodesC]
  exact ⟨or16 h1.1 h2.1,fun _=>Nat.le_trans h2.2 Nat.right_le_or⟩
theorem nodesD_lt {a:Nat} {ds:List Dv} (ha:a<16) (h1:1≤a) (h:∀ k,k<ds.length→0≤(dv ds k).node∧(dv ds k).node≤3):∀ k,k≤ds.length→nodesD a ds k<16∧1≤nodesD a ds k:=by
 intro k
 induction k with
 | zero=>intro _;exact ⟨ha,h1⟩
 | succ k ih=>
  intro hk
  have h1:=ih (by omega)
  have h2:=two_lt (h k (by omega)).1 (h k (by omega)).2
  rw [nodesD]
  exact ⟨or16 h1.1 h2.1,Nat.le_trans h1.2 Nat.left_le_or⟩
end Ol
end
section
namespace Ol
open Qos (Pd podF ct)
open Sv (Gv Hd hd heldF heldTxt body bodyTo podTxt podLine contLine contsTo sumTxt lineTxt gv)
theorem bodyTo_map (hs:List Hd):∀ k,k≤hs.length→bodyTo hs k=((hs.take k).map podTxt).flatten:=by
 intro k
 induction k with
 | zero=>intro _;simp [bodyTo]
 | succ k ih=>
  intro hk
  rw [bodyTo,ih (by omega),List.take_succ_eq_append_getElem (by omega),List.map_append,List.flatten_append]
  simp [hd,show k<hs.length by omega]
theorem body_map (hs:List Hd):body hs=(hs.map podTxt).flatten:=by
 unfold body;rw [bodyTo_map _ _ (Nat.le_refl _),List.take_length]
theorem join_head (c:UInt8) (x:List UInt8):∀ (xs:List (List UInt8)),x.length+xs.length≤(Lib.join (x :: xs) [c]).length:=by
 have key:∀ (r:List (List UInt8)),x.length+r.length≤(Lib.join (x :: r.reverse) [c]).length:=by
  intro r
  induction r with
  | nil=>have:=Ost.join_snoc [] x [c];simp at this;simp [this]
  | cons y r ih=>
   rw [List.reverse_cons,← List.cons_append,Ost.join_snoc,if_neg (by simp)]
   simp only [List.length_append,List.length_cons,List.length_nil];omega
 intro xs
 have:=key xs.reverse
 rw [List.reverse_reverse,List.length_reverse] at this
 exact this
theorem contLine_ge (c:Qos.Ct) (g:Gv):13≤(contLine c g).length:=by
 unfold contLine lineTxt
 have:=join_head 32 [99,111,110,116] ([c.nm.data.toList,Sv.dec c.am,Sv.dec c.ab,Sv.dec c.cm,Sv.dec c.cb,Sv.needsTxt c.ds]++Sv.givenWs g)
 rw [← List.cons_append] at this
 simp only [List.length_append,List.length_cons,List.length_nil,Sv.givenWs] at this ⊢
 unfold Sv.contWs
 simp only [List.cons_append,List.nil_append] at this ⊢
 omega
theorem podLine_ge (p:Pd):6≤(podLine p).length:=by
 unfold podLine lineTxt
 have:=join_head 32 [112,111,100] [p.nm.data.toList,Sv.dec p.pr]
 simp only [List.length_append,List.length_cons,List.length_nil] at this ⊢
 unfold Sv.podWs
 omega
theorem podTxt_ge {h:Hd} (e:1≤h.pod.cs.length):19≤(podTxt h).length:=by
 have h1:=podLine_ge h.pod
 unfold podTxt
 have h2:13≤(contsTo h h.pod.cs.length).length:=by
  have h3:∀ k,1≤k→13≤(contsTo h k).length:=by
   intro k hk
   match k,hk with
   | k+1,_=>
    rw [contsTo,List.length_append]
    have:=contLine_ge (ct h.pod.cs k) (gv h.gs k)
    omega
  exact h3 _ e
 rw [List.length_append]
 omega
theorem body_sub {hs hs':List Hd} (h:hs'.Sublist hs) (he:∀ x∈hs,1≤x.pod.cs.length):(body hs').length+19*(hs.length - hs'.length)≤(body hs).length:=by
 rw [body_map,body_map]
 induction h with
 | slnil=>simp
 | @cons l1 l2 a hsub ih=>
  have h1:=ih (fun x hx=>he x (List.mem_cons_of_mem _ hx))
  have h2:=podTxt_ge (he a List.mem_cons_self)
  have h3:=hsub.length_le
  simp only [List.map_cons,List.flatten_cons,List.length_append,List.length_cons] at h1 ⊢
  omega
 | @cons_cons l1 l2 a hsub ih=>
  have h1:=ih (fun x hx=>he x (List.mem_cons_of_mem _ hx))
  simp only [List.map_cons,List.flatten_cons,List.length_append,List.length_cons] at h1 ⊢
  omega
theorem sumTxt_ge (b:List UInt8):6≤(sumTxt b).length:=by
 have:1≤(Lib.decDigits (Sv.fnv b)).length:=by rw [Lib.decDigits_length];exact Lib.nDigits_pos _
 simp only [sumTxt,List.length_append,List.length_cons,List.length_nil]
 omega
theorem txt_sub {hs hs':List Hd} (h:hs'.Sublist hs) (he:∀ x∈hs,1≤x.pod.cs.length) (hl:(heldTxt hs).length≤6000):(heldTxt hs').length≤6000:=by
 by_cases e:hs'.length=hs.length
 ·rw [h.eq_of_length e];exact hl
 ·have h1:=body_sub h he
  have h2:=h.length_le
  have h3:=sumTxt_ge (body hs)
  have h4:=Sv.sumTxt_le (body hs')
  unfold heldTxt at hl ⊢
  rw [List.length_append] at hl ⊢
  omega
theorem conts_of {hs:List Hd} (h:heldF hs=0):∀ x∈hs,1≤x.pod.cs.length:=by
 obtain ⟨a,b,c⟩:=heldF_iff.1 h
 intro x hx
 exact (Qos.pod_len (b x hx).1).2.2.1.1
end Ol
end
section
open Go.ChangeShapes Go.WideShapes Go.ChangeAt Go.RowKit
open Ost (Cpu cpu0)
open Dvs (Dv dv)
open Qos (Pd)
def confV (c:Ol.Cf) (v1 v2:Value):Value:=.agg #[v1,.int .u64 (c.keep:Nat),.int .i64 c.nb,v2,.int .i64 c.pol]
theorem c_Conf:Tryz.prog.cellsOf 27=5:=by kernel_rfl
theorem c_cpusO:Tryz.prog.cellsOf 22=1:=by kernel_rfl
theorem c_devsO:Tryz.prog.cellsOf 25=1:=by kernel_rfl
theorem c_SetO:Tryz.prog.cellsOf 24=1:=by kernel_rfl
theorem c_DevO:Tryz.prog.cellsOf 74=3:=by kernel_rfl
theorem podO_open {H:Type} {enc:TypeId × Value→H} {W:World} {base:Nat} {v:Value} {d:DataW H} {p:List MemPlace}
  (hv:Value.okWide Tryz.prog W .any base 31 v) (h:DataW.Trod enc Tryz.prog W 0 (fun _=>true) true 31 v d p):∃ (q:Pd) (cv:Value),v=podV q cv∧ConsAt W cv q.cs:=by
 obtain ⟨cs,rfl,hsz,_⟩:∃ cs,v=.agg cs∧cs.size=Tryz.prog.cellsOf 31∧Row.okWide Tryz.prog W .any base 31 cs:=by
  simpa [Value.okWide,Tryz.underlying31] using hv
 rw [c_Pod] at hsz
 obtain ⟨l⟩:=cs
 obtain ⟨fuel,hf⟩:=h
 obtain ⟨q,cv,hcs,hc⟩:=podOne_of_trod (cs:=l) (by simpa using hsz) hf
 subst hcs
 exact ⟨q,cv,rfl,hc⟩
theorem conf_open {H:Type} {enc:TypeId × Value→H} {W:World} {base:Nat} {v:Value} {d:DataW H} {p:List MemPlace}
  (hv:Value.okWide Tryz.prog W .any base 27 v) (h:DataW.Trod enc Tryz.prog W 0 (fun _=>true) true 27 v d p):∃ (c:Ol.Cf) (v1 v2:Value) (g o:Nat),v=confV c v1 v2∧CpusAt W v1 c.l∧DevsAt W v2 g o c.ds∧c.keep<18446744073709551616:=by
 obtain ⟨cs,rfl,hsz,_⟩:∃ cs,v=.agg cs∧cs.size=Tryz.prog.cellsOf 27∧Row.okWide Tryz.prog W .any base 27 cs:=by
  simpa [Value.okWide,Tryz.underlying27] using hv
 rw [c_Conf] at hsz
 obtain ⟨l⟩:=cs
 obtain ⟨fuel,hf⟩:=h
 have hf:DataW.trod enc Tryz.prog W 0 (fun _=>true) true fuel 27 l=some (d,p):=hf
 obtain ⟨n0,y0,h0⟩:=trod_field Tryz.underlying27 hf 0 22 0 _ c_cpusO rfl
 obtain ⟨n1,y1,h1⟩:=trod_field Tryz.underlying27 hf 1 24 1 _ c_SetO rfl
 obtain ⟨n2,y2,h2⟩:=trod_field Tryz.underlying27 hf 2 3 2 _ c_int rfl
 obtain ⟨n3,y3,h3⟩:=trod_field Tryz.underlying27 hf 3 25 3 _ c_devsO rfl
 obtain ⟨n4,y4,h4⟩:=trod_field Tryz.underlying27 hf 4 3 4 _ c_int rfl
 clear hf
 have hl:l.length=5:=by simpa using hsz
 match l,hl with
 | [a,b,c,e,f],_=>
  obtain ⟨k,e1,_,hwf⟩:=DataW.trod_int Tryz.underlying24 h1
  obtain ⟨x2,e2⟩:=int_of_trod h2
  obtain ⟨x4,e4⟩:=int_of_trod h4
  have r3:=rows_of_trod Tryz.underlying25 c_DevO (by decide) h3 fun _ _ _ hl h=>dev_of_trod hl h
  simp at e1 e2 e4
  obtain ⟨ds,g,o,hds,_⟩:=devs_of_rows r3
  have h0':DataW.trod enc Tryz.prog W 0 (fun _=>true) true n0 22 [a]=some y0:=h0
  obtain ⟨ao,len,cap,ha⟩:∃ ao len cap,a=.slice ao len cap:=by
   rcases Deep.open_slice Tryz.underlying22 h0' with ⟨hcs,_⟩|⟨q,len',cap',m,n,D,Pl,hcs,_⟩
   ·simp at hcs;exact ⟨_,_,_,hcs⟩
   ·simp at hcs;exact ⟨_,_,_,hcs⟩
  subst ha
  obtain ⟨cl,hcl,hcp⟩:=cpus_of_trod (d:=y0.1) (p:=y0.2) ⟨n0,h0'⟩
  subst hcl
  have hr:0≤k∧k≤18446744073709551615:=bounds_u64 hwf
  refine ⟨⟨cl,k.toNat,x2,x4,ds⟩,_,_,g,o,?_,hcp,hds,by show k.toNat<_;omega⟩
  have hkk:((k.toNat:Nat):Int)=k:=by omega
  unfold confV
  rw [e1,e2,e4]
  show _=Value.agg #[_,.int .u64 ((k.toNat:Nat):Int),_,_,_]
  rw [hkk]
end
section
namespace Ol
open Ost (Cpu chosen dif cpu0)
open Dvs (Dv dv)
open Qos (Nd Ct Pd ct podF ownOf)
open Sv (Gv Hd gv hd heldF heldTxt body OkL OkH)
theorem admit_fresh {m:Mc} {ds:List Dv} {p:Pd} (hop:m.op<18446744073709551616) (hd:Dvs.fault ds=0) (h1:p.cs.length=1) (hp:podF p=0) (hro:room m [p]=true) (hg:(give m ⟨m.op,ds,fun _=>false⟩ p).1=0):(admit ⟨m,ds,[]⟩ p).1=0:=by
 have hl:left m ds []=some ⟨m.op,ds,fun _=>false⟩:=left_nil hd
 unfold admit
 dsimp only
 rw [hl,Option.getD_some]
 have hex:¬ ∃ x∈([]:List Hd),x.pod.nm=p.nm:=fun ⟨x,hx,_⟩=>by cases hx
 have hro2:¬ room m (([]:List Hd).map Hd.pod++[p])=false:=fun e=>by
  have e2:room m [p]=false:=e
  rw [hro] at e2;cases e2
 rw [if_neg (by omega),if_neg hex,if_neg (by simp),if_neg hro2,if_neg (by omega)]
 have hn:Nice p.cs:=pod_nice (by omega)
 have hds:(⟨m.op,ds,fun _=>false⟩:Sk).ds.length≤16:=(Dvs.fault_nodes hd).1
 have hlen:(give m ⟨m.op,ds,fun _=>false⟩ p).2.length=p.cs.length:=giveTo_len _ _ p.cs p.cs.length hg
 have hcl:=(giveTo_claims (m:=m) hds hn p.cs.length (Nat.le_refl _) hg).1
 have hins:insertH [] (⟨p,(give m ⟨m.op,ds,fun _=>false⟩ p).2⟩:Hd)=[⟨p,(give m ⟨m.op,ds,fun _=>false⟩ p).2⟩]:=rfl
 have hhf:heldF [(⟨p,(give m ⟨m.op,ds,fun _=>false⟩ p).2⟩:Hd)]=0:=by
  refine heldF_iff.2 ⟨by simp,fun x hx=>?_,List.pairwise_singleton _ _⟩
  rw [List.mem_singleton.1 hx]
  exact ⟨hp,hlen,gsF_of (giveTo_dv p.cs.length)⟩
 have hcp:∀ g∈(give m ⟨m.op,ds,fun _=>false⟩ p).2,g.cp<18446744073709551616:=by
  intro g hg2
  rw [h1] at hcl
  obtain ⟨k,hk,rfl⟩:=Sv.gv_in hg2
  have hk0:k=0:=by omega
  subst hk0
  have e:(List.range 1).map (clAt p.cs (giveTo m ⟨m.op,ds,fun _=>false⟩ p.cs 1).2.1)=[clAt p.cs (giveTo m ⟨m.op,ds,fun _=>false⟩ p.cs 1).2.1 0]:=rfl
  rw [e,claims] at hcl
  obtain ⟨s1,e1,_⟩:=Option.bind_eq_some_iff.1 hcl
  have:=(claim_iff.1 e1).2.1.1
  unfold give
  rw [h1]
  exact and_lt this hop
 rw [hins,if_neg (by have:=short_one hhf hcp h1;omega)]
theorem admit_len {t:St} {p:Pd} (h0:(admit t p).1=0):(admit t p).2.length=t.hs.length+1:=by
 unfold admit at h0 ⊢
 split
 ·rename_i h1;rw [if_pos h1] at h0;exact absurd h0 h1
 ·rename_i h1
  rw [if_neg h1] at h0
  split
  ·rename_i h2;rw [if_pos h2] at h0;cases h0
  ·rename_i h2
   rw [if_neg h2] at h0
   split
   ·rename_i h3;rw [if_pos h3] at h0;cases h0
   ·rename_i h3
    rw [if_neg h3] at h0
    split
    ·rename_i h4;rw [if_pos h4] at h0;cases h0
    ·rename_i h4
     rw [if_neg h4] at h0
     split
     ·rename_i h5;rw [if_pos h5] at h0;exact absurd h0 h5
     ·rename_i h5
      rw [if_neg h5] at h0
      split
      ·rename_i h6;rw [if_pos h6] at h0;cases h0
      ·unfold insertH;simp;omega
theorem cnt_le (A:Nat):Ost.cnt A≤64:=by
 unfold Ost.cnt Ost.listTo
 exact Nat.le_trans (List.length_filter_le _ _) (by simp)
def wC:Cf:=⟨[⟨0,0,0⟩],0,9,0,[]⟩
def wP:Pd:=⟨⟨#[97]⟩,0,[⟨⟨#[120]⟩,0,0,0,0,[]⟩]⟩
theorem wC_ok:confF wC=0:=by decide
theorem wP_ok:podF wP=0:=by decide
theorem w_room:room (mcOf wC) [wP]=true:=by decide
theorem w_admit:(admit ⟨mcOf wC,[],[]⟩ wP).1=0:=by
 refine admit_fresh (by decide) (by decide) rfl wP_ok w_room ?_
 exact give_room (hs:=[]) rfl (by decide) cnt_le (left_nil (by decide)) (by decide) (fun x hx=>by cases hx) wP_ok (fun c hc=>by rw [List.mem_singleton.1 hc]) w_room
end Ol
end
section
open Go.RowKit
open Go.Sort
open Ost (Cpu cpu0 less order)
theorem cf_lt (cl:Nat→Nat) (x y:Nat):ltOf (cfOf cl) x y=less cl x y:=by
 unfold ltOf cfOf Lib.compareInt less
 rw [Bool.eq_iff_iff]
 by_cases h1:(cl x:Int)<cl y
 ·have h3:cl x<cl y:=by omega
  simp [h3]
 ·by_cases h2:(cl y:Int)<cl x
  ·have h3:¬ cl x<cl y:=by omega
   have h4:¬ cl x=cl y:=by omega
   have h5:cl y<cl x:=by omega
   simp [h3,h4,h5]
  ·have h3:cl x=cl y:=by omega
   by_cases h4:x<y
   ·simp [h3,h4]
   ·by_cases h5:y<x
    ·simp [h3,h4,h5]
    ·simp [h3,h4,h5]
theorem swoCf (cl:Nat→Nat):SWO (ltOf (cfOf cl)) where
 irrefl x:=by rw [cf_lt];simp [less]
 trans x y z h1 h2:=by rw [cf_lt] at *;simp [less] at *;omega
 ntrans x y z h1 h2:=by rw [cf_lt] at *;simp [less] at *;omega
theorem totCf (cl:Nat→Nat) (x y:Nat) (h1:ltOf (cfOf cl) x y=false) (h2:ltOf (cfOf cl) y x=false):x=y:=by
 rw [cf_lt] at h1 h2;exact Ost.less_total h1 h2
def RowIs (w:World) (v:Value) (L:List Nat):Prop:=
 (L=[]∧v=.slice none 0 0)∨∃ g c,v=.slice (some ⟨g,0,none⟩) L.length c∧L.length≤c∧∀ k,k<L.length→w.cell? ⟨g,k,none⟩=some (.int .i64 ((L.getD k 0:Nat):Int))
def encN (n:Nat):Value:=Value.int .i64 (n:Int)
theorem below_sortN (w:World) (K blk off m:Nat) (dk:Array Nat) (os:Array Obj) (hK:K≤blk) (hw:K≤w.heap.size):Below K w (sortWorld encN w blk off m dk os):=below_sort w K blk off m dk os hK hw
theorem holds_row {w:World} {g:Nat} {cur:Array Value} {e:TypeId} {L:List Nat} (hg:w.heap[g]?=some (.cells cur e (0,0))) (ht:cur.toList.take (L.length*1)=nums L):Holds encN w g 0 L.toArray:=by
 intro j hj
 have hj2:j<L.length:=by simpa using hj
 have hc:cur[j]?=some (.int .i64 ((L.getD j 0:Nat):Int)):=by
  have h1:(cur.toList.take (L.length*1))[j]?=some (.int .i64 ((L.getD j 0:Nat):Int)):=by
   rw [ht];simp [nums,hj2]
  rw [List.getElem?_take] at h1
  rw [if_pos (by omega)] at h1
  simpa using h1
 have hd:L.toArray[j]! = L.getD j 0:=by simp [hj2]
 refine ⟨?_,?_⟩
 ·rw [hd];unfold World.cell?;rw [hg];simp [hc,encN]
 ·unfold World.frozen?;rw [hg];simp
theorem sort_any (v:Value) (A K:Nat) (tc lc fc tb b o c mb n:Nat) (l:List Cpu) (f:Int→Int) (cl:Nat→Nat) (w:World) (hrow:w.ownsRow K 3 1 v (Ost.listTo A 64).length (nums (Ost.listTo A 64))) (hw:K≤w.heap.size)
  (h:Stand w tc lc fc tb b o c mb n l f) (hK:tc<K∧lc<K∧fc<K∧tb<K∧b<K∧mb<K) (hg:Good l) (hf:∀ k,f (l.getD k cpu0).core=(cl k:Nat)) :
  Calls Tryz.prog 204 #[v,.func (.func 205) #[] #[.pointer (some ⟨fc,0,none⟩)]] w fun e w'=>e=.returned (.tuple #[])∧RowIs w' v (order cl A)∧Below K w w':=by
 rcases hrow.2 with ⟨rfl,hn0⟩|⟨g,cap,cur,rfl,hbg,hgg,hcap,_,_,htk⟩
 ·have hL:order cl A=[]:=by
   have:=Ost.order_length cl A
   unfold Ost.cnt at this
   exact List.length_eq_zero_iff.1 (by omega)
  have hS:=AnyF.slices_SortFunc_none (P:=Tryz.prog) (ρ:=Tryz.sortL_ren) { Tryz.sortL with } none 0 (.func (.func 205) #[] #[.pointer (some ⟨fc,0,none⟩)]) w
  change Calls Tryz.prog 204 _ _ _ at hS
  exact hS.mono fun e w' ⟨he,hw'⟩=>⟨he,.inl ⟨hL,rfl⟩,by rw [hw'];exact Below.refl _ _⟩
 ·have hH:Holds encN w g 0 (Ost.listTo A 64).toArray:=holds_row hgg htk
  have hblk:g<w.heap.size:=by
   rcases Nat.lt_or_ge g w.heap.size with hlt|hge
   ·exact hlt
   ·rw [Array.getElem?_eq_none hge] at hgg;cases hgg
  have eg:∀ args w,(callFunc 205 args).run Tryz.prog w=.ok (.enter 205 args) w:=enters_of Tryz.func205 (by kernel_rfl) rfl
  have hcmp:CmpLays1 Tryz.prog 205 #[.pointer (some ⟨fc,0,none⟩)] encN (cfOf cl) g 0 (Ost.listTo A 64).toArray.size w:=fun m os dk _ x y=>
   cmp_any x y tc lc fc tb b o c mb n l f cl _ (h.below (below_sortN w K g 0 m dk os hbg hw) hK) hg hf
  have h64:=listTo_le A 64
  have hS:=Any.slices_SortFunc_total Tryz.sortL encN (fun _=>rfl) (cfOf cl) (swoCf cl) 205 #[.pointer (some ⟨fc,0,none⟩)] g 0 cap (Ost.listTo A 64).toArray w eg hcmp hH hblk (by simp;omega) (totCf cl)
  change Calls Tryz.prog 204 _ _ _ at hS
  have hord:(fun x y:Nat=>!ltOf (cfOf cl) y x)=fun x y=>!less cl y x:=by funext x y;rw [cf_lt]
  rw [hord] at hS
  have hz:(Ost.listTo A 64).toArray.size=(Ost.listTo A 64).length:=by simp
  rw [hz] at hS
  refine hS.mono fun e w' ⟨he,q,os,hw'⟩=>⟨he,?_,?_⟩
  ·have hlen:(order cl A).length=(Ost.listTo A 64).length:=Ost.order_length cl A
   have hh:=holds_sortWorld encN w g 0 q (Ost.listTo A 64).toArray (order cl A).toArray os hblk hH (by simp [hlen])
   have e2:((Ost.listTo A 64).toArray.toList.mergeSort fun x y=>!less cl y x).toArray=(order cl A).toArray:=rfl
   rw [e2] at hw'
   refine .inr ⟨g,cap,by rw [hlen],by omega,fun k hk=>?_⟩
   have:=(hh k (by simpa using hk)).1
   rw [hw',← Nat.zero_add k,this]
   simp [encN,hk]
  ·rw [hw'];exact below_sortN w K g 0 q _ os hbg hw
end
section
open Go.RowKit Go.Maps
end
section
namespace Ol
open Ost (Cpu N4 Wi Hi chosen cnt dif takeOut told hints reach okH cho com wi0 pop8 sumOn sumTo masksTo hintsTo cpu0 someOf)
open Dvs (Dv dv fits took takeF srt usedBy sel sel_congr sel_mem took_mem near nearP farP ord cn)
open Qos (Nd Ct Pd ct podF ownOf)
open Sv (Gv Hd gv hd)
end Ol
end
section
open Go.RowKit Go.ChangeMaps
open Go.Maps (Keyed int_keyed keyOf_int_mk)
open Ost (Cpu cpu0 chosen cnt dif singles coreAt order)
def leftTo (l:List Cpu) (F k:Nat) (j:Int):Int:=if 0≤j∧j<k then (cnt (coreAt l j.toNat &&& F):Nat) else 0
theorem leftTo_zero (l:List Cpu) (F:Nat):leftTo l F 0=fun _=>0:=by
 funext j;unfold leftTo;rw [if_neg (by omega)]
theorem leftTo_step (l:List Cpu) (F k:Nat):(fun j=>if (k:Int)=j then ((cnt (coreAt l k &&& F):Nat):Int) else leftTo l F k j)=leftTo l F (k+1):=by
 funext j
 unfold leftTo
 by_cases h:(k:Int)=j
 ·rw [if_pos h,if_pos (by omega),← h];simp
 ·rw [if_neg h]
  by_cases h2:0≤j∧j<k
  ·rw [if_pos h2,if_pos (by omega)]
  ·rw [if_neg h2,if_neg (by omega)]
theorem leftTo_at {l:List Cpu} (hg:Good l) (F n:Nat):leftTo l F 64 (l.getD n cpu0).core=(Ost.leftOf l F n:Nat):=by
 obtain ⟨h0,h64⟩:=core_in hg n
 unfold leftTo
 rw [if_pos ⟨h0,by omega⟩]
 have:coreAt l (l.getD n cpu0).core.toNat=chosen (fun x=>x.core == (l.getD n cpu0).core) l:=by
  unfold coreAt Ost.at'
  rw [Int.toNat_of_nonneg h0]
 rw [this];rfl
theorem wp_putLeft {o:Oper} {a:Act} {N:Act→World→Prop} {Q:Exit→Act→World→Prop} (w:World) (m x v:Operand) (hop:o.op=Op.mapUpdate 299 m x v)
  (B n:Nat) (f:Int→Int) (k:Int) (h0:0≤k) (h64:k<64) (y:Nat) (hy:y≤64) (hm:a.eval m=.map (some B)) (hx:a.eval x=.int .i64 k) (hv:a.eval v=.int .i64 y) (hM:LeftIs w B n f) (hn:n<maxLen)
  (hK:∀ w',LeftIs w' B (n+1) (fun j=>if k=j then y else f j)→w.grownBy w' (some B)→N (a.put o.dst undef) w') :
  o.wp Tryz.prog a w N Q:=by
 obtain ⟨D,ho,hk⟩:=hM
 obtain ⟨w',hrun,r1,r2⟩:=ho.update (e:=3) keyLaw Tryz.underlying299 hn (keyOf_int_mk Tryz.underlying3 (wf64 h0 h64)) (plainElem_int Tryz.underlying3 (WalkArith.wf_i64 (n:=(y:Int)) (by omega)))
 unfold Oper.wp
 simp [execOp,hop,hm,hx,hv,hrun,Result.andThen]
 refine hK w' ⟨_,r1,fun j j0 j64=>?_⟩ r2
 by_cases e:k=j
 ·subst e
  have hkl:WideAt.IsKeyLit (Lit.int .i64 k):=trivial
  rw [Maps.atKey_put_same ho.isMap hkl]
  simp
 ·have hne:(Lit.int .i64 j)≠(Lit.int .i64 k):=by simp;omega
  rw [Maps.atKey_put_other hne]
  simp only [if_neg e]
  exact hk j j0 j64
structure Fill (wr w:World) (tb b o c:Nat) (l:List Cpu) (F k:Nat):Prop where
 t:wr.cell? ⟨w.heap.size,0,none⟩=some (.pointer (some ⟨tb,0,none⟩))
 m:wr.cell? ⟨w.heap.size+1+1,0,none⟩=some (.map (some (w.heap.size+1)))
 topo0:TopoAt w tb b o c l
 left:LeftIs wr (w.heap.size+1) k (leftTo l F k)
 bel:Below w.heap.size w wr
theorem Fill.below {wr wr' w:World} {tb b o c:Nat} {l:List Cpu} {F k:Nat} (h:Fill wr w tb b o c l F k) (hb:Below wr.heap.size wr wr'):Fill wr' w tb b o c l F k:=
 ⟨(hb.cell (p:=⟨w.heap.size,0,none⟩) (World.block_lt_of_cell? wr _ h.t)).trans h.t,(hb.cell (p:=⟨w.heap.size+1+1,0,none⟩) (World.block_lt_of_cell? wr _ h.m)).trans h.m,h.topo0,h.left.below hb h.left.lt,h.bel.trans (hb.mono h.bel.size)⟩
theorem Fill.topo {wr w:World} {tb b o c:Nat} {l:List Cpu} {F k:Nat} (h:Fill wr w tb b o c l F k):TopoAt wr tb b o c l:=h.topo0.below h.bel
theorem Fill.put {wr wr' w:World} {tb b o c:Nat} {l:List Cpu} {F k:Nat} (h:Fill wr w tb b o c l F k) (hm:LeftIs wr' (w.heap.size+1) (k+1) (leftTo l F (k+1))) (hgr:wr.grownBy wr' (some (w.heap.size+1))):Fill wr' w tb b o c l F (k+1):=
 ⟨hgr.cell h.t (by simp),hgr.cell h.m (by simp),h.topo0,hm,h.bel.grown hgr h.bel.size (fun j hj=>by cases hj;omega)⟩
theorem Fill.drew {wr w:World} {tb b o c:Nat} {l:List Cpu} {F k:Nat} (h:Fill wr w tb b o c l F k):Fill wr.drew w tb b o c l F k:=h.below (below_drewN (Below.refl _ _) 1)
theorem Fill.stand {wr w:World} {tb b o c:Nat} {l:List Cpu} {F:Nat} (h:Fill wr w tb b o c l F 64):Stand (wr.alloc (.cells #[.func (.func 201) #[] #[.pointer (some ⟨w.heap.size,0,none⟩),.pointer (some ⟨w.heap.size+1+1,0,none⟩)]] 302)) w.heap.size (w.heap.size+1+1) wr.heap.size tb b o c (w.heap.size+1) 64 l (leftTo l F 64):=
 ⟨cell_alloc h.t _,cell_alloc h.m _,by simp,h.topo.below ((Below.refl _ _).alloc (Nat.le_refl _) _),h.left.alloc _⟩
theorem fill_start {w:World} {tb b o c:Nat} {l:List Cpu} (ht:TopoAt w tb b o c l) (F:Nat):Fill (((w.alloc (.cells #[.pointer (some ⟨tb,0,none⟩)] 52)).alloc (.map #[] 0)).alloc (.cells #[.map (some (w.heap.size+1))] 299)) w tb b o c l F 0:=by
 have hB:=(((Below.refl w.heap.size w).alloc (Nat.le_refl _) (.cells #[.pointer (some ⟨tb,0,none⟩)] 52)).alloc (by simp) (.map #[] 0)).alloc (by simp;omega) (.cells #[.map (some (w.heap.size+1))] 299)
 have hM:=(LeftIs.made (w.alloc (.cells #[.pointer (some ⟨tb,0,none⟩)] 52))).alloc (.cells #[.map (some (w.heap.size+1))] 299)
 have e:(w.alloc (.cells #[.pointer (some ⟨tb,0,none⟩)] 52)).heap.size=w.heap.size+1:=by simp
 rw [e,← leftTo_zero l F] at hM
 exact ⟨by go_simp,by go_simp,ht,hM,hB⟩
theorem singles_any (tb b o c F:Nat) (L:Int) (l:List Cpu) (w:World) (ht:TopoAt w tb b o c l) (hg:Good l) (hF:F<18446744073709551616) (h0:0≤L) (hL:L≤64) :
  Calls Tryz.prog 168 #[.pointer (some ⟨tb,0,none⟩),.int .u64 F,.int .i64 L] w fun e w'=>e=.returned (.int .u64 (singles (Ost.leftOf l F) F L.toNat:Nat))∧Below w.heap.size w w':=by
 have hmm:=@run_makeMap Tryz.prog
 have h64:=ht.len
 have HG:=hZz hg
 have HF0:=hZz (fill_start ht F)
 clear ht hg
 go_enter Tryz.func168,Tryz.ntmps168
 go_wp2_with fail
 go_loopw [15] (fun i wr=>∃ k:Nat,k≤64∧i=.int .i64 k∧Hid (Fill wr w tb b o c l F k)) (fun i _=>64 - (intOf i).toNat)
 case atStart=>exact ⟨0,by omega,rfl,HF0.out⟩
 case round=>
  clear HF0
  obtain ⟨k,hk,hi,HFl⟩:=hrel
  by_cases hlt:k<64
  ·subst hi
   have HCo:Hid (∀ W,TopoAt W tb b o c l→Calls Tryz.prog 167 #[.pointer (some ⟨tb,0,none⟩),.int .i64 k] W fun e w'=>e=.returned (.int .u64 (coreAt l k:Nat))∧Below W.heap.size W w'):=fun W hW=>core_any tb b o c l k W hW
   have hck:=Ost.at_lt (·.core) h64 k
   change coreAt l k<_ at hck
   have HCn:Hid (∀ W,Calls Tryz.prog 20 #[.int .u64 (bits BinOp.and IntKind.u64 (coreAt l k:Nat) (F:Nat))] W fun e w'=>e=.returned (.int .i64 (cnt (coreAt l k &&& F):Nat))∧w'=W):=fun W=>by
    rw [bits_and_u64_nat _ _ hck hF]
    exact bitsCount_any _ W (Ost.sub_lt hck (Ost.and_sub _ F))
   have hcs:cnt (coreAt l k &&& F)≤64:=listTo_le _ 64
   have HSt:=hZz (leftTo_step l F k)
   generalize hcc:cnt (coreAt l k &&& F)=cc at *
   clear hcc
   generalize coreAt l k=ck at *
   have hF0:=HFl.out.drew
   go_wp2_with fail
   refine wp_region_held_drew (S:=(fun w'=>w'.cell? ⟨w.heap.size+1+1,0,none⟩=some (.map (some (w.heap.size+1)))∧w'.cell? ⟨w.heap.size,0,none⟩=some (.pointer (some ⟨tb,0,none⟩)))) (by kernel_rfl) ⟨hF0.m,hF0.t⟩ (fun hHeld=>?_)
   refine tk 0 (v:=?a1) (fun w' h=>?b1) ?_
   case b1=>(try dsimp only at h);go_simp;try rfl
   (try simp only [Act.put,s1,s2,s3])
   refine tk 1 (v:=?a2) (fun w' h=>?b2) ?_
   case b2=>(try dsimp only at h);go_simp;try rfl
   (try simp only [Act.put,s1,s2,s3])
   refine tk 2 (v:=?a3) (fun w' h=>?b3) ?_
   case b3=>(try dsimp only at h);go_simp;try rfl
   (try simp only [Act.put,s1,s2,s3])
   refine tk 3 (v:=?a4) (fun w' h=>?b4) ?_
   case b4=>(try dsimp only at h);go_simp;try rfl
   (try simp only [Act.put,s1,s2,s3])
   refine tk 5 (v:=?a5) (fun w' h=>?b5) ?_
   case b5=>(try dsimp only at h);go_simp;try rfl
   (try simp only [Act.put,s1,s2,s3])
   refine wpAnyH_ready (rs:=[4]) (by kernel_rfl) (by simp) (AllReadyH.cons rfl (fun K hK=>?_) AllReadyH.nil)
   go_simp
   go_wp2_with fail
   refine (HCo.out _ hF0.topo).mono ?_
   rintro e w1 ⟨rfl,hb⟩
   have hF1:=hF0.below hb
   clear hb
   go_wp2_with fail
   refine hK.out _ _ ⟨hF1.m,hF1.t⟩ (fun hHeld=>?_)
   clear hK K
   refine tk 6 (v:=?a6) (fun w' h=>?b6) ?_
   case b6=>(try dsimp only at h);go_simp;try rfl
   (try simp only [Act.put,s1,s2,s3])
   refine wpAnyH_ready (rs:=[7]) (by kernel_rfl) (by simp) (AllReadyH.cons rfl (fun K hK=>?_) AllReadyH.nil)
   go_simp
   go_wp2_with fail
   refine (HCn.out _).mono ?_
   rintro e w2 ⟨rfl,rfl⟩
   go_wp2_with fail
   refine hK.out _ _ hHeld (fun hHeld=>?_)
   clear hK K
   refine wpAnyH_ready (rs:=[8]) (by kernel_rfl) (by simp) (AllReadyH.cons rfl (fun K hK=>?_) AllReadyH.nil)
   rw [if_pos (by rfl)]
   refine wp_putLeft _ _ _ _ rfl (w.heap.size+1) k (leftTo l F k) k (by omega) (by omega) cc hcs rfl rfl rfl hF1.left (by unfold maxLen;omega) ?_
   intro w3 hM3 hgr3
   rw [HSt.out] at hM3
   have hF3:=hZz (hF1.put hM3 hgr3)
   clear hM3 hgr3
   refine hK.out _ _ ⟨hF3.out.m,hF3.out.t⟩ (fun hHeld=>?_)
   clear hK K
   refine wpAnyH_done (by kernel_rfl) ?_ _
   go_wp2_with fail
   go_roundw
   case rel=>exact ⟨k+1,by omega,by go_num,hF3⟩
   case measure=>simp [intOf];omega
  ·have hk64:k=64:=by omega
   subst hk64
   have hi2:_=Value.int .i64 64:=hi
   clear hk hlt hi
   subst hi2
   have HS:=hZz HFl.out.stand
   have hBl:=HFl.out.bel.alloc HFl.out.bel.size (.cells #[.func (.func 201) #[] #[.pointer (some ⟨w.heap.size,0,none⟩),.pointer (some ⟨w.heap.size+1+1,0,none⟩)]] 302)
   have HB4:=hZz hBl
   clear hBl
   go_wp2_with fail
   generalize wr.alloc (.cells #[.func (.func 201) #[] #[.pointer (some ⟨w.heap.size,0,none⟩),.pointer (some ⟨w.heap.size+1+1,0,none⟩)]] 302)=W4 at *
   refine (list_any F W4 hF).mono ?_
   rintro e w5 ⟨v,rfl,hrow,hb5⟩
   have HSort:=hZz (sort_any v F W4.heap.size w.heap.size (w.heap.size+1+1) wr.heap.size tb b o c (w.heap.size+1) 64 l (leftTo l F 64) (Ost.leftOf l F) w5 hrow hb5.size (HS.out.below hb5 HS.out.lts) HS.out.lts HG.out (leftTo_at HG.out F))
   have hB5:=hZz (HB4.out.trans (hb5.mono HB4.out.size))
   clear hrow hb5 HS
   go_wp2_with fail
   refine HSort.out.mono ?_
   rintro e w6 ⟨rfl,hrow6,hb6⟩
   have hB6:=hZz (hB5.out.trans (hb6.mono HB4.out.size))
   clear hb6 HSort hB5 HB4 HFl
   have hlen:(order (Ost.leftOf l F) F).length≤64:=by rw [Ost.order_length];exact listTo_le F 64
   have HSg:Hid (singles (Ost.leftOf l F) F L.toNat=Ost.orB ((order (Ost.leftOf l F) F).take L.toNat)):=rfl
   have H64:Hid (∀ n∈order (Ost.leftOf l F) F,n<64):=fun n hn=>(Ost.order_mem.1 hn).1
   generalize order (Ost.leftOf l F) F=R at *
   rcases hrow6 with ⟨rfl,rfl⟩|⟨g,cp,rfl,hcp,hcell⟩
   ·have hmin:min L 0=0:=by omega
    have HR:Hid (singles (Ost.leftOf l F) F L.toNat=0):=by unfold Hid;rw [HSg.out];simp [Ost.orB]
    go_wp2_with fail
    refine wp_loop_rounds 1 ?_
    rw [rounds_succ]
    go_wp2_with fail
    go_ret
    exact ⟨by rw [HR.out];rfl,hB6.out⟩
   ·have HCl:=hZz hcell
    clear hcell
    obtain ⟨M,hM,hmin⟩:∃ M:Nat,M=min L.toNat R.length∧min L (R.length:Int)=(M:Int):=⟨min L.toNat R.length,rfl,by omega⟩
    have HR:Hid (singles (Ost.leftOf l F) F L.toNat=Ost.orB (R.take M)):=by
     unfold Hid
     rw [HSg.out]
     congr 1
     rw [List.take_eq_take_iff];omega
    have hMR:M≤R.length:=by omega
    clear hM HSg
    go_wp2_with fail
    go_loop [11,40] (fun t i=>∃ k:Nat,k≤M∧i=.int .i64 k∧t=.int .u64 (Ost.orB (R.take k):Nat)) (fun _ i=>M - (intOf i).toNat)
    case atStart=>exact ⟨0,by omega,rfl,rfl⟩
    case round=>
     obtain ⟨k,hk,rfl,rfl⟩:=hrel
     by_cases hlt:k<M
     ·have hkR:k<R.length:=by omega
      have hcell:=HCl.out k hkR
      have hz:=H64.out (R.getD k 0) (by simp [hkR])
      have hts:R.take (k+1)=R.take k++[R.getD k 0]:=by
       rw [List.take_succ_eq_append_getElem hkR];simp [hkR]
      have hol:Ost.orB (R.take k)<18446744073709551616:=by
       apply Nat.lt_pow_two_of_testBit (n:=64)
       intro i hi
       rw [Ost.orB_bit]
       exact decide_eq_false (fun hm=>by have:=H64.out i (List.mem_of_mem_take hm);omega)
      have HO:=hZz (or_step (Ost.orB (R.take k)) (R.getD k 0) hol hz)
      have HT:Hid (Ost.orB (R.take k) ||| 2 ^ (R.getD k 0)=Ost.orB (R.take (k+1))):=by unfold Hid;rw [hts,Ost.orB_snoc]
      rw [HT.out] at HO
      clear hts HT
      generalize R.getD k 0=z at *
      go_wp2_with fail
      go_round
      case rel=>exact ⟨k+1,by omega,by go_num,by rw [← HO.out]⟩
      case measure=>simp [intOf];omega
     ·have hkM:k=M:=by omega
      have HE:Hid (Ost.orB (R.take k)=singles (Ost.leftOf l F) F L.toNat):=by unfold Hid;rw [HR.out,hkM]
      rw [HE.out]
      clear hkM HE
      go_wp2_with fail
      go_ret
      exact ⟨rfl,hB6.out⟩
end
section
open Go.RowKit
open Ost (Cpu cpu0 chosen cnt dif wholesTo wholes sockAt coreAt some1 some2 someOf singles takeOut)
theorem or64' (a b:Nat) (ha:a<18446744073709551616) (hb:b<18446744073709551616):bits BinOp.or IntKind.u64 (a:Int) (b:Int)=((a ||| b:Nat):Int):=bits_or_u64_nat a b ha hb
theorem some_any (tb b o c F:Nat) (L:Int) (l:List Cpu) (w:World) (ht:TopoAt w tb b o c l) (hg:Good l) (hF:F<18446744073709551616) (h0:0≤L) (hL:L≤64) :
  Calls Tryz.prog 135 #[.pointer (some ⟨tb,0,none⟩),.int .u64 F,.int .i64 L] w fun e w'=>e=.returned (.int .u64 (someOf l F L:Nat))∧Below w.heap.size w w':=by
 have HT:=hZz ht
 have h64:=ht.len
 have HG:=hZz hg
 clear ht hg
 have hmf:∀ (fn:Fn) (first cap:Array Value) (w:World),(Instr.makeFunc fn first cap).run Tryz.prog w=.ok (.func fn first cap) w:=fun _ _ _ _=>rfl
 have k1:=Ost.some1_cnt l F L h0
 have s1:=Ost.sub_lt hF (Ost.some1_sub l F L)
 have HW1:Hid (Calls Tryz.prog 165 #[.func (.func 166) #[.pointer (some ⟨tb,0,none⟩)] #[],.int .u64 F,.int .i64 L] w fun e w'=>e=.returned (.int .u64 (some1 l F L:Nat))∧Below w.heap.size w w'):=wholesSock tb b o c F L l w HT.out hF h0 hL
 have HE1:Hid (some2 l F L=some1 l F L ||| wholes (coreAt l) (dif F (some1 l F L)) (L - cnt (some1 l F L))):=rfl
 have HE2:Hid (someOf l F L=some2 l F L ||| singles (Ost.leftOf l (dif F (some2 l F L))) (dif F (some2 l F L)) (L - cnt (some2 l F L)).toNat):=rfl
 have k2:=Ost.some2_cnt l F L h0
 have s2:=Ost.sub_lt hF (Ost.some2_sub l F L)
 generalize someOf l F L=s3 at *
 generalize some2 l F L=sb at *
 generalize some1 l F L=sa at *
 have HN1:=hZz (andNot64 F sa hF s1)
 have d1:=Ost.dif_lt (A:=F) sa hF
 have HC1:Hid (∀ W,Calls Tryz.prog 20 #[.int .u64 sa] W fun e w'=>e=.returned (.int .i64 (cnt sa:Nat))∧w'=W):=fun W=>bitsCount_any sa W s1
 have HN2:=hZz (andNot64 F sb hF s2)
 have d2:=Ost.dif_lt (A:=F) sb hF
 have HC2:Hid (∀ W,Calls Tryz.prog 20 #[.int .u64 sb] W fun e w'=>e=.returned (.int .i64 (cnt sb:Nat))∧w'=W):=fun W=>bitsCount_any sb W s2
 have hw2:wholes (coreAt l) (dif F sa) (L - cnt sa)<18446744073709551616:=Ost.wholesTo_lt _ _ _ _ d1
 have HO1:=hZz (or64' sa (wholes (coreAt l) (dif F sa) (L - cnt sa)) s1 hw2)
 have hw3:singles (Ost.leftOf l (dif F sb)) (dif F sb) (L - cnt sb).toNat<18446744073709551616:=Ost.sub_lt d2 (Ost.singles_sub _ _ _)
 have HO2:=hZz (or64' sb (singles (Ost.leftOf l (dif F sb)) (dif F sb) (L - cnt sb).toNat) s2 hw3)
 rw [← HE1.out] at HO1
 rw [← HE2.out] at HO2
 clear HE1 HE2
 generalize cnt sa=ca at *
 generalize cnt sb=cb at *
 have HK1:Hid (∀ W,TopoAt W tb b o c l→Calls Tryz.prog 165 #[.func (.func 167) #[.pointer (some ⟨tb,0,none⟩)] #[],.int .u64 (dif F sa:Nat),.int .i64 (L - ca)] W fun e w'=>e=.returned (.int .u64 (wholes (coreAt l) (dif F sa) (L - ca):Nat))∧Below W.heap.size W w'):=fun W hW=>wholesCore tb b o c (dif F sa) (L - ca) l W hW d1 (by omega) (by omega)
 have HK2:Hid (∀ W,TopoAt W tb b o c l→Calls Tryz.prog 168 #[.pointer (some ⟨tb,0,none⟩),.int .u64 (dif F sb:Nat),.int .i64 (L - cb)] W fun e w'=>e=.returned (.int .u64 (singles (Ost.leftOf l (dif F sb)) (dif F sb) (L - cb).toNat:Nat))∧Below W.heap.size W w'):=fun W hW=>singles_any tb b o c (dif F sb) (L - cb) l W hW HG.out d2 (by omega) (by omega)
 generalize wholes (coreAt l) (dif F sa) (L - ca)=ws at *
 generalize singles (Ost.leftOf l (dif F sb)) (dif F sb) (L - cb).toNat=ss at *
 go_enter Tryz.func135,Tryz.ntmps135
 go_wp2_with fail
 refine HW1.out.mono ?_
 rintro e w1 ⟨rfl,hb⟩
 have HT1:=hZz (HT.out.below hb)
 have hB1:=hZz hb
 clear HT hb HW1
 have n1:=HN1.out
 go_wp2_with fail
 refine (HC1.out _).mono ?_
 rintro e w2 ⟨rfl,rfl⟩
 go_wp2_with fail
 refine (HK1.out _ HT1.out).mono ?_
 rintro e w3 ⟨rfl,hb⟩
 have HT2:=hZz (HT1.out.below hb)
 have hB2:=hZz (hB1.out.trans (hb.mono hB1.out.size))
 clear HT1 hB1 hb n1 HN1
 have n2:=HN2.out
 have o1:=HO1.out
 go_wp2_with fail
 refine (HC2.out _).mono ?_
 rintro e w2 ⟨rfl,rfl⟩
 go_wp2_with fail
 refine (HK2.out _ HT2.out).mono ?_
 rintro e w4 ⟨rfl,hb⟩
 have hB3:=hZz (hB2.out.trans (hb.mono hB2.out.size))
 clear HT2 hB2 hb n2 HN2
 have o2:=HO2.out
 go_wp2_with fail
 go_ret
 exact ⟨rfl,hB3.out⟩
def tookV (r:Nat × Int):Value:=.tuple #[.int .u64 (r.1:Nat),errV r.2]
theorem tookV_0 (s:Nat):tookV (s,0)=.tuple #[.int .u64 s,.nilIface]:=rfl
theorem tookV_1:tookV (0,1)=.tuple #[.int .u64 0,.iface 94 (.int .i64 1)]:=rfl
theorem tookV_8:tookV (0,8)=.tuple #[.int .u64 0,.iface 94 (.int .i64 8)]:=rfl
theorem take_out (tb F on:Nat) (L:Int) (l:List Cpu) (w:World) (h:L<0∨64<L) :
  Calls Tryz.prog 102 #[.pointer (some ⟨tb,0,none⟩),.int .u64 F,.int .i64 L,.int .u8 on] w fun e w'=>e=.returned (tookV (takeOut l F L (chosen (onMask on) l)))∧Below w.heap.size w w':=by
 have HE:Hid (takeOut l F L (chosen (onMask on) l)=(0,1)):=by unfold Hid takeOut;rw [if_pos (by omega)]
 rw [HE.out,tookV_1]
 have key:L<0∨(0≤L∧64<L):=by omega
 clear h HE
 rcases key with h|⟨h,h2⟩
 all_goals
  go_enter Tryz.func102,Tryz.ntmps102
  go_wp2_with fail
  go_ret2
  exact ⟨rfl,Below.refl _ _⟩
theorem take_strange (tb b o c F on:Nat) (L:Int) (l:List Cpu) (w:World) (ht:TopoAt w tb b o c l) (hF:F<18446744073709551616) (h0:0≤L) (hL:L≤64) (h:¬ F &&& chosen anyCpu l=F) :
  Calls Tryz.prog 102 #[.pointer (some ⟨tb,0,none⟩),.int .u64 F,.int .i64 L,.int .u8 on] w fun e w'=>e=.returned (tookV (takeOut l F L (chosen (onMask on) l)))∧Below w.heap.size w w':=by
 have HE:Hid (takeOut l F L (chosen (onMask on) l)=(0,1)):=by unfold Hid takeOut;rw [if_pos (.inr (.inr h))]
 rw [HE.out,tookV_1]
 have HA:=hZz (all_any tb b o c l w ht)
 have hA:chosen anyCpu l<18446744073709551616:=Ost.chosenTo_lt anyCpu l _ ht.len
 have HI:=hZz (fun W=>inside_any F (chosen anyCpu l) W hF hA)
 rw [decide_eq_false h] at HI
 clear h HE ht
 go_enter Tryz.func102,Tryz.ntmps102
 go_wp2_with fail
 refine HA.out.mono ?_
 rintro e w1 ⟨rfl,hb⟩
 go_wp2_with fail
 refine (HI.out _).mono ?_
 rintro e w2 ⟨rfl,rfl⟩
 go_wp2_with fail
 go_ret2
 exact ⟨rfl,hb⟩
theorem take_few (tb b o c F on:Nat) (L:Int) (l:List Cpu) (w:World) (ht:TopoAt w tb b o c l) (hF:F<18446744073709551616) (h0:0≤L) (hL:L≤64) (h:F &&& chosen anyCpu l=F) (hc:(cnt F:Int)<L) :
  Calls Tryz.prog 102 #[.pointer (some ⟨tb,0,none⟩),.int .u64 F,.int .i64 L,.int .u8 on] w fun e w'=>e=.returned (tookV (takeOut l F L (chosen (onMask on) l)))∧Below w.heap.size w w':=by
 have HE:Hid (takeOut l F L (chosen (onMask on) l)=(0,8)):=by
  unfold Hid takeOut
  rw [if_neg (fun hh=>by rcases hh with hh|hh|hh;omega;omega;exact hh h),if_pos hc]
 rw [HE.out,tookV_8]
 have HA:=hZz (all_any tb b o c l w ht)
 have hA:chosen anyCpu l<18446744073709551616:=Ost.chosenTo_lt anyCpu l _ ht.len
 have HI:=hZz (fun W=>inside_any F (chosen anyCpu l) W hF hA)
 rw [decide_eq_true h] at HI
 have HC:Hid (∀ W,Calls Tryz.prog 20 #[.int .u64 F] W fun e w'=>e=.returned (.int .i64 (cnt F:Nat))∧w'=W):=fun W=>bitsCount_any F W hF
 generalize cnt F=cF at *
 clear h HE ht
 go_enter Tryz.func102,Tryz.ntmps102
 go_wp2_with fail
 refine HA.out.mono ?_
 rintro e w1 ⟨rfl,hb⟩
 go_wp2_with fail
 refine (HI.out _).mono ?_
 rintro e w2 ⟨rfl,rfl⟩
 go_wp2_with fail
 refine (HC.out _).mono ?_
 rintro e w2 ⟨rfl,rfl⟩
 go_wp2_with fail
 go_ret2
 exact ⟨rfl,hb⟩
theorem take_some (tb b o c F on:Nat) (L:Int) (l:List Cpu) (w:World) (ht:TopoAt w tb b o c l) (hg:Good l) (hF:F<18446744073709551616) (hon:on<256) (h0:0≤L) (hL:L≤64) (h:F &&& chosen anyCpu l=F) (hc:L≤(cnt F:Int)) :
  Calls Tryz.prog 102 #[.pointer (some ⟨tb,0,none⟩),.int .u64 F,.int .i64 L,.int .u8 on] w fun e w'=>e=.returned (tookV (takeOut l F L (chosen (onMask on) l)))∧Below w.heap.size w w':=by
 have HE:=hZz (Ost.take_good (l:=l) (F:=F) (L:=L) (chosen (onMask on) l) h0 hL h hc)
 rw [HE.out,tookV_0]
 have HA:=hZz (all_any tb b o c l w ht)
 have hA:chosen anyCpu l<18446744073709551616:=Ost.chosenTo_lt anyCpu l _ ht.len
 have hM:chosen (onMask on) l<18446744073709551616:=Ost.chosenTo_lt _ l _ ht.len
 have HI:=hZz (fun W=>inside_any F (chosen anyCpu l) W hF hA)
 rw [decide_eq_true h] at HI
 have HC:Hid (∀ W,Calls Tryz.prog 20 #[.int .u64 F] W fun e w'=>e=.returned (.int .i64 (cnt F:Nat))∧w'=W):=fun W=>bitsCount_any F W hF
 generalize cnt F=cF at *
 have HOn:Hid (∀ W,TopoAt W tb b o c l→Calls Tryz.prog 24 #[.pointer (some ⟨tb,0,none⟩),.int .u8 on] W fun e w'=>e=.returned (.int .u64 (chosen (onMask on) l:Nat))∧Below W.heap.size W w'):=fun W hW=>on_any tb b o c l on W hW hg hon
 have hN:F &&& chosen (onMask on) l<18446744073709551616:=Ost.sub_lt hF (Ost.and_sub F _)
 have HN:=hZz (bits_and_u64_nat F (chosen (onMask on) l) hF hM)
 have HS1:=hZz (fun W hW=>some_any tb b o c (F &&& chosen (onMask on) l) L l W hW hg hN h0 hL)
 have HAN:=hZz (andNot64 F (F &&& chosen (onMask on) l) hF hN)
 have ha:=Ost.someOf_cnt l (F &&& chosen (onMask on) l) L h0
 have hal:=Ost.sub_lt hN (Ost.someOf_sub l (F &&& chosen (onMask on) l) L)
 have HC2:Hid (∀ W,Calls Tryz.prog 20 #[.int .u64 (someOf l (F &&& chosen (onMask on) l) L:Nat)] W fun e w'=>e=.returned (.int .i64 (cnt (someOf l (F &&& chosen (onMask on) l) L):Nat))∧w'=W):=fun W=>bitsCount_any _ W hal
 have hd:=Ost.dif_lt (A:=F) (F &&& chosen (onMask on) l) hF
 have HS2:=hZz (fun W hW=>some_any tb b o c (dif F (F &&& chosen (onMask on) l)) (L - cnt (someOf l (F &&& chosen (onMask on) l) L)) l W hW hg hd (by omega) (by omega))
 have hbl:=Ost.sub_lt hd (Ost.someOf_sub l (dif F (F &&& chosen (onMask on) l)) (L - cnt (someOf l (F &&& chosen (onMask on) l) L)))
 have HO:=hZz (or64' _ _ hal hbl)
 have hcl:(cnt (someOf l (F &&& chosen (onMask on) l) L):Int)≤L:=by omega
 have HT:=hZz ht
 generalize someOf l (dif F (F &&& chosen (onMask on) l)) (L - cnt (someOf l (F &&& chosen (onMask on) l) L))=s2 at *
 generalize dif F (F &&& chosen (onMask on) l)=fr at *
 generalize cnt (someOf l (F &&& chosen (onMask on) l) L)=c1 at *
 generalize someOf l (F &&& chosen (onMask on) l) L=s1 at *
 generalize F &&& chosen (onMask on) l=near at *
 generalize chosen (onMask on) l=mm at *
 clear h HE ht hg ha
 go_enter Tryz.func102,Tryz.ntmps102
 go_wp2_with fail
 refine HA.out.mono ?_
 rintro e w1 ⟨rfl,hb⟩
 have HT1:=hZz (HT.out.below hb)
 have hB1:=hZz hb
 clear HT hb HA
 go_wp2_with fail
 refine (HI.out _).mono ?_
 rintro e w2 ⟨rfl,rfl⟩
 go_wp2_with fail
 refine (HC.out _).mono ?_
 rintro e w2 ⟨rfl,rfl⟩
 go_wp2_with fail
 refine (HOn.out _ HT1.out).mono ?_
 rintro e w2 ⟨rfl,hb⟩
 have HT2:=hZz (HT1.out.below hb)
 have hB2:=hZz (hB1.out.trans (hb.mono hB1.out.size))
 clear HT1 hb hB1
 have n1:=HN.out
 go_wp2_with fail
 refine (HS1.out _ HT2.out).mono ?_
 rintro e w3 ⟨rfl,hb⟩
 have HT3:=hZz (HT2.out.below hb)
 have hB3:=hZz (hB2.out.trans (hb.mono hB2.out.size))
 clear HT2 hb hB2 n1
 have n2:=HAN.out
 go_wp2_with fail
 refine (HC2.out _).mono ?_
 rintro e w4 ⟨rfl,rfl⟩
 go_wp2_with fail
 refine (HS2.out _ HT3.out).mono ?_
 rintro e w5 ⟨rfl,hb⟩
 have hB4:=hZz (hB3.out.trans (hb.mono hB3.out.size))
 clear HT3 hb hB3 n2
 have n3:=HO.out
 go_wp2_with fail
 go_ret2
 exact ⟨rfl,hB4.out⟩
theorem take_any (tb b o c F on:Nat) (L:Int) (l:List Cpu) (w:World) (ht:TopoAt w tb b o c l) (hg:Good l) (hF:F<18446744073709551616) (hon:on<256) :
  Calls Tryz.prog 102 #[.pointer (some ⟨tb,0,none⟩),.int .u64 F,.int .i64 L,.int .u8 on] w fun e w'=>e=.returned (tookV (takeOut l F L (chosen (onMask on) l)))∧Below w.heap.size w w':=by
 by_cases h1:L<0∨64<L
 ·exact take_out tb F on L l w h1
 ·by_cases h2:F &&& chosen anyCpu l=F
  ·by_cases h3:(cnt F:Int)<L
   ·exact take_few tb b o c F on L l w ht hF (by omega) (by omega) h2 h3
   ·exact take_some tb b o c F on L l w ht hg hF hon (by omega) (by omega) h2 (by omega)
  ·exact take_strange tb b o c F on L l w ht hF (by omega) (by omega) h2
end
end Go.Proofs.YtbfdcmodflnkfaaGreatDoor
