/- MW4, OW1 -/
import Derived.Test.YtbfdcmodflnkfaaGreatDoorU15
import Derived.Test.YtbfdcmodflnkfaaGreatDoorU14
import Derived.Test.YtbfdcmodflnkfaaGreatDoorU11
set_option maxRecDepth 100000
set_option maxHeartbeats 16000000
namespace Go.Proofs.YtbfdcmodflnkfaaGreatDoor
section
open Go.RowKit
open Ost (Hi Wi wi0 Low bet pop8 waysTo bestTo best told)
theorem results_cell_tmp2 {fn:Func} {p u t:Tmp} {ty:TypeId} (h:fn.results=#[.cell p ty,.tmp u,.tmp t]) (tmps:Array Value) (P:Program) (w:World) :
  (results fn tmps).run P w =
   ((asAddr (tmps.getD p undef)).run P w).andThen fun a w₁=>((loadVar ty a).run P w₁).andThen fun v w₂=>.ok (.tuple #[v,tmps.getD u undef,tmps.getD t undef]) w₂:=by
 simp only [results,h]
 simp [Sem.run_bind,Result.andThen]
theorem notIn {nodes:Nat} (h:nodes≤15):bits BinOp.andNot IntKind.u8 (nodes:Int) 15=0:=by
 have key:∀ (x:Fin 16),bits BinOp.andNot IntKind.u8 ((x.val:Nat):Int) 15=0:=by decide +kernel
 exact key ⟨nodes,by omega⟩
theorem merge_zero (nodes:Nat) (ao:Option Addr) (n c:Nat) (w:World) (hn:1≤nodes∧nodes≤15) (hl:n≤4) :
  Calls Tryz.prog 100 #[.int .i64 0,.int .u8 nodes,.slice ao n c] w fun e w'=>e=.returned (.tuple #[vH (nodes,true),.bool true,.nilIface])∧Below w.heap.size w w':=by
 have HB:Hid (Below w.heap.size w (w.alloc (.cells #[.int .u8 0,.bool false] 181))):=(Below.refl _ _).alloc (Nat.le_refl _) _
 unfold vH
 have hnot:=notIn hn.2
 have h4:((nodes:Int) == 0)=false:=by rw [beq_eq_false_iff_ne];omega
 go_enter Tryz.func100,Tryz.ntmps100
 go_wp2_with fail
 (try simp only [Exit.inBlock,Exit.then])
 refine bodyPost_ret (v:=.tuple #[.agg #[.int .u8 nodes,.bool true],.bool true,.nilIface]) ?_ rfl ⟨rfl,?_⟩
 ·rw [results_cell_tmp2 rfl]
  go_simp
 ·first
   | exact HB.out
   | exact (Below.refl _ _).alloc (Nat.le_refl _) _
   | exact (HB.out.setCell (Nat.le_refl _) _).setCell (Nat.le_refl _) _
structure BEnv (u:World) (N:Nat) (h:Hi):Prop where
 c00:u.cell? ⟨N,0,none⟩=some (.int .u8 0)
 c01:u.cell? ⟨N,1,none⟩=some (.bool false)
 c10:u.cell? ⟨N+1,0,none⟩=some (.int .u8 (h.1:Nat))
 c11:u.cell? ⟨N+1,1,none⟩=some (.bool h.2)
 f00:u.frozen? ⟨N,0,none⟩=false
 f01:u.frozen? ⟨N,1,none⟩=false
 f10:u.frozen? ⟨N+1,0,none⟩=false
 f11:u.frozen? ⟨N+1,1,none⟩=false
theorem BEnv.lt {u:World} {N:Nat} {h:Hi} (e:BEnv u N h):N+1<u.heap.size:=World.block_lt_of_cell? u _ e.c10
theorem BEnv.below {u u':World} {N K:Nat} {h:Hi} (e:BEnv u N h) (hb:Below K u u') (hK:N+2≤K):BEnv u' N h:=
 ⟨(hb.cell (p:=⟨N,0,none⟩) (by show N<K;omega)).trans e.c00,(hb.cell (p:=⟨N,1,none⟩) (by show N<K;omega)).trans e.c01,(hb.cell (p:=⟨N+1,0,none⟩) (by show N+1<K;omega)).trans e.c10,(hb.cell (p:=⟨N+1,1,none⟩) (by show N+1<K;omega)).trans e.c11,
  (hb.frozen (p:=⟨N,0,none⟩) (by show N<K;omega)).trans e.f00,(hb.frozen (p:=⟨N,1,none⟩) (by show N<K;omega)).trans e.f01,(hb.frozen (p:=⟨N+1,0,none⟩) (by show N+1<K;omega)).trans e.f10,(hb.frozen (p:=⟨N+1,1,none⟩) (by show N+1<K;omega)).trans e.f11⟩
theorem BEnv.set {u:World} {N:Nat} {h:Hi} (e:BEnv u N h) (m:Nat) (g:Bool):BEnv ((u.setCell ⟨N+1,0,none⟩ (.int .u8 (m:Nat))).setCell ⟨N+1,1,none⟩ (.bool g)) N (m,g):=by
 obtain ⟨c00,c01,c10,c11,f00,f01,f10,f11⟩:=e
 refine ⟨?_,?_,?_,?_,?_,?_,?_,?_⟩ <;> go_simp
theorem HintsAt.set {w:World} {v:Value} {l:List Hi} {N:Nat} (h:HintsAt w v l) (hfr:∀ b o n c,v=.slice (some ⟨b,o,none⟩) n c→N+2≤b) (x y:Value):HintsAt ((w.setCell ⟨N+1,0,none⟩ x).setCell ⟨N+1,1,none⟩ y) v l:=by
 rcases h with h|⟨b,o,c',hv,hlt,hc⟩
 ·exact .inl h
 ·have hb:=hfr b o _ _ hv
  refine .inr ⟨b,o,c',hv,by simpa using hlt,fun k hk=>?_⟩
  have e1:((w.setCell ⟨N+1,0,none⟩ x).setCell ⟨N+1,1,none⟩ y).heap[b]?=w.heap[b]?:=by
   rw [Below.heap_setCell _ _ _ _ (by show b≠N+1;omega),Below.heap_setCell _ _ _ _ (by show b≠N+1;omega)]
  exact ⟨(World.cell?_of_block (w:=w) (a:=⟨b,o+k*2,none⟩) e1).trans (hc k hk).1,(World.cell?_of_block (w:=w) (a:=⟨b,o+k*2+1,none⟩) e1).trans (hc k hk).2⟩
theorem merge_main (pol:Int) (nodes:Nat) (v:Value) (ws:List Wi) (w:World) (hv:WishesAt w v ws) (hw:Light ws) (hl:ws.length≤4) (hn:1≤nodes∧nodes≤15) (hp:1≤pol∧pol≤3) :
  Calls Tryz.prog 100 #[.int .i64 pol,.int .u8 nodes,v] w fun e w'=>e=.returned (.tuple #[vH (told pol nodes ws),.bool ((told pol nodes ws).2 || decide (pol=1)),.nilIface])∧Below w.heap.size w w':=by
 have HX:Hid (Below w.heap.size w ((w.alloc (.cells #[.int .u8 0,.bool false] 181)).alloc (.cells #[.int .u8 (nodes:Nat),.bool false] 181))):=((Below.refl _ _).alloc (Nat.le_refl _) _).alloc (by simp) _
 have HO:=hZz (outcomes_any pol nodes v ws ((w.alloc (.cells #[.int .u8 0,.bool false] 181)).alloc (.cells #[.int .u8 (nodes:Nat),.bool false] 181)) (hv.below HX.out) hw hl (by omega) (by omega))
 have HLw:=hZz (Ost.Outs.low (Ost.waysTo_outs pol nodes ws ws.length) (show nodes<256 by omega))
 have hTo:Hid (told pol nodes ws=bestTo (waysTo pol nodes ws ws.length) (nodes,false) (waysTo pol nodes ws ws.length).length):=rfl
 have hlenW:=Ost.waysTo_len pol nodes ws (fun y hy=>(hw y hy).2) ws.length (Nat.le_refl _)
 have hpow:=Ost.pow_le4 ws.length hl
 generalize told pol nodes ws=T at *
 generalize waysTo pol nodes ws ws.length=W at *
 obtain ⟨ao,c,rfl,_⟩:=hv.form
 clear hv hw
 have hnot:=notIn hn.2
 have h4:((nodes:Int) == 0)=false:=by rw [beq_eq_false_iff_ne];omega
 obtain ⟨hp1,hp2⟩:=hp
 have hp0:0≤pol:=by omega
 have hp3:(pol == 0)=false:=by rw [beq_eq_false_iff_ne];omega
 have HE0:Hid (BEnv ((w.alloc (.cells #[.int .u8 0,.bool false] 181)).alloc (.cells #[.int .u8 (nodes:Nat),.bool false] 181)) w.heap.size (nodes,false)):=by
  refine ⟨?_,?_,?_,?_,?_,?_,?_,?_⟩ <;> go_simp
 unfold vH at *
 go_enter Tryz.func100,Tryz.ntmps100
 go_wp2_with fail
 refine HO.out.mono ?_
 rintro e w2 ⟨vC,rfl,hC,hb2,hfr⟩
 have HB:=hZz (HX.out.trans (hb2.mono (by simp;omega)))
 have HE:=hZz (HE0.out.below hb2 (by simp))
 have HC:=hZz hC
 have HFr:Hid (∀ b o n c,vC=.slice (some ⟨b,o,none⟩) n c→w.heap.size+2≤b):=fun b o n c h=>Nat.le_trans (by simp) (hfr b o n c h)
 obtain ⟨ac,cc,rfl,_⟩:=hC.form
 clear hC hb2 HE0 HO HX hfr
 go_wp2_with fail
 go_loopw [45] (fun i wr=>∃ k:Nat,k≤W.length∧i=.int .i64 k∧Hid (BEnv wr w.heap.size (bestTo W (nodes,false) k))∧Hid (HintsAt wr (.slice ac W.length cc) W)∧Hid (Below w.heap.size w wr)) (fun i _=>W.length - (intOf i).toNat)
 case atStart=>exact ⟨0,by omega,rfl,HE.out,HC.out,HB.out⟩
 case round=>
  obtain ⟨k,hk,rfl,HEr,HCr,HBr⟩:=hrel
  clear HE HC HB
  have hb256:=Ost.best_lt HLw.out (show ((nodes,false):Hi).1<256 by show nodes<256;omega) k hk
  by_cases hlt:k<W.length
  ·obtain ⟨ac',cc',hv',hcs⟩:=HCr.out.form
   obtain ⟨rfl,rfl⟩:ac=ac'∧cc=cc':=by simpa using hv'
   obtain ⟨b,o,rfl,hbl,hcs⟩:=hcs (by omega)
   obtain ⟨c0,c1⟩:=hcs k hlt
   have hx:=HLw.out _ (Ost.getD_mem W (0,false) k hlt)
   have HSt:bestTo W (nodes,false) (k+1)=if bet (W.getD k (0,false)) (bestTo W (nodes,false) k) then W.getD k (0,false) else bestTo W (nodes,false) k:=rfl
   clear hcs hv'
   generalize W.getD k (0,false)=x at *
   generalize bestTo W (nodes,false) k=y at *
   obtain ⟨m,g⟩:=x
   obtain ⟨p,f⟩:=y
   simp only at c0 c1 hx hb256
   have HX:=hZz ((Below.refl wr.heap.size wr).alloc (Nat.le_refl _) (.cells #[.int .u8 (m:Nat),.bool g] 181))
   have HEa:=hZz (HEr.out.below HX.out HEr.out.lt)
   have HCa:=hZz (HCr.out.below HX.out)
   have HBa:=hZz (HBr.out.trans (HX.out.mono HBr.out.size))
   have hNw:=HEr.out.lt
   have e0:=HEa.out.c10
   have e1:=HEa.out.c11
   simp only at e0 e1
   have HBt:=hZz (betterH_any (m,g) (p,f) (wr.alloc (.cells #[.int .u8 (m:Nat),.bool g] 181)) hx hb256)
   have hL0:(wr.alloc (.cells #[.int .u8 (m:Nat),.bool g] 181)).cell? ⟨wr.heap.size,0,none⟩=some (.int .u8 (m:Nat)):=by simp
   have hL1:(wr.alloc (.cells #[.int .u8 (m:Nat),.bool g] 181)).cell? ⟨wr.heap.size,1,none⟩=some (.bool g):=by simp
   have hL0:=hZz hL0
   have hL1:=hZz hL1
   unfold vH at HBt
   clear HEr HCr HBr
   go_wp2_with fail
   refine HBt.out.mono ?_
   rintro e w5 ⟨rfl,hb5⟩
   have HE5:=hZz (HEa.out.below hb5 HEa.out.lt)
   have HC5:=hZz (HCa.out.below hb5)
   have HB5:=hZz (HBa.out.trans (hb5.mono HBa.out.size))
   have l0:=(hb5.cell (p:=⟨wr.heap.size,0,none⟩) (by simp)).trans hL0.out
   have l1:=(hb5.cell (p:=⟨wr.heap.size,1,none⟩) (by simp)).trans hL1.out
   clear hb5 HBt hL0 hL1 HEa HCa HBa HX c0 c1 e0 e1
   rcases two (bet (m,g) (p,f)) with hbt|hbt
   ·rw [hbt] at HSt ⊢
    rw [if_pos rfl] at HSt
    have HSt:=hZz HSt
    have HES:=hZz (HE5.out.set m g)
    have HCS:=hZz (HC5.out.set HFr.out (.int .u8 (m:Nat)) (.bool g))
    have HBS:=hZz ((HB5.out.setCell (p:=⟨w.heap.size+1,0,none⟩) (by show w.heap.size≤w.heap.size+1;omega) (.int .u8 (m:Nat))).setCell (p:=⟨w.heap.size+1,1,none⟩) (by show w.heap.size≤w.heap.size+1;omega) (.bool g))
    have e0:=HE5.out.c10
    have e1:=HE5.out.c11
    have f0:=HE5.out.f10
    have f1:=HE5.out.f11
    simp only at e0 e1
    go_wp2_with fail
    go_roundw
    case rel=>exact ⟨k+1,by omega,by go_num,by rw [HSt.out];exact HES.out,HCS.out,HBS.out⟩
    case measure=>simp [intOf];omega
   ·rw [hbt] at HSt ⊢
    rw [if_neg (by decide)] at HSt
    have HSt:=hZz HSt
    go_wp2_with fail
    go_roundw
    case rel=>exact ⟨k+1,by omega,by go_num,by rw [HSt.out];exact HE5.out,HC5.out,HB5.out⟩
    case measure=>simp [intOf];omega
  ·have hkl:k=W.length:=by omega
   subst hkl
   rw [← hTo.out] at HEr hb256
   obtain ⟨p,f⟩:=T
   have e0:=HEr.out.c10
   have e1:=HEr.out.c11
   have d0:=HEr.out.c00
   have d1:=HEr.out.c01
   have f0:=HEr.out.f00
   have f1:=HEr.out.f01
   simp only at e0 e1
   have HBE:=hZz ((HBr.out.setCell (p:=⟨w.heap.size,0,none⟩) (Nat.le_refl _) (.int .u8 (p:Nat))).setCell (p:=⟨w.heap.size,1,none⟩) (Nat.le_refl _) (.bool f))
   rcases two f with hf|hf
   ·subst hf
    go_wp2_with fail
    (try simp only [Exit.inBlock,Exit.then])
    refine bodyPost_ret (v:=.tuple #[.agg #[.int .u8 (p:Nat),.bool true],.bool true,.nilIface]) ?_ rfl ⟨rfl,HBE.out⟩
    rw [results_cell_tmp2 rfl]
    go_simp
   ·subst hf
    by_cases hq:pol=1
    ·have hd:Hid (decide (pol=1)=true):=decide_eq_true hq
     have hq2:(pol == 1)=true:=by rw [beq_iff_eq];exact hq
     clear hq
     go_wp2_with fail
     (try simp only [Exit.inBlock,Exit.then])
     refine bodyPost_ret (v:=.tuple #[.agg #[.int .u8 (p:Nat),.bool false],.bool true,.nilIface]) ?_ rfl ⟨by rw [hd.out],HBE.out⟩
     rw [results_cell_tmp2 rfl]
     go_simp
    ·have hd:Hid (decide (pol=1)=false):=decide_eq_false hq
     have hq2:(pol == 1)=false:=by rw [beq_eq_false_iff_ne];exact hq
     clear hq
     go_wp2_with fail
     (try simp only [Exit.inBlock,Exit.then])
     refine bodyPost_ret (v:=.tuple #[.agg #[.int .u8 (p:Nat),.bool false],.bool false,.nilIface]) ?_ rfl ⟨by rw [hd.out],HBE.out⟩
     rw [results_cell_tmp2 rfl]
     go_simp
end
section
open Go.RowKit Go.Shelf
open Ost (Cpu N4 Wi Hi wi0 told Sm Low cpu0)
open Qos (Nd nd)
open Dvs (Dv dv fits kindP cn)
theorem cntTo_on (A:Nat) (l:List Cpu) (x:Nat):∀ k,cntTo A l (x:Int) k=((List.range k).filter fun i=>A.testBit i && decide ((l.getD i cpu0).node=(x:Int))).length:=by
 intro k
 induction k with
 | zero=>rfl
 | succ k ih=>
  rw [List.range_succ,List.filter_append,List.length_append,← ih,cntTo]
  by_cases h:(A.testBit k && decide ((l.getD k cpu0).node=(x:Int)))=true
  ·rw [if_pos h,List.filter_cons_of_pos (p:=fun i=>A.testBit i && decide ((l.getD i cpu0).node=(x:Int))) h];rfl
  ·rw [if_neg h,List.filter_cons_of_neg (p:=fun i=>A.testBit i && decide ((l.getD i cpu0).node=(x:Int))) h];rfl
theorem cntV_eq (A:Nat) (l:List Cpu):cntV A l l.length=v4 (Ol.cpu4 A l):=by
 have e:∀ x:Nat,cntTo A l (x:Int) l.length=Ol.onNode A l x:=fun x=>cntTo_on A l x l.length
 have e0:=e 0
 have e1:=e 1
 have e2:=e 2
 have e3:=e 3
 unfold cntV Ol.cpu4
 rw [← e0,← e1,← e2,← e3]
 rfl
theorem onNode_le (A:Nat) (l:List Cpu) (x:Nat):Ol.onNode A l x≤l.length:=by
 unfold Ol.onNode
 exact Nat.le_trans (List.length_filter_le _ _) (by simp)
theorem sm_of {a b c d:Nat} (ha:a≤64) (hb:b≤64) (hc:c≤64) (hd:d≤64):Sm ⟨a,b,c,d⟩:=by
 intro k
 match k with
 | 0=>show -1000000≤(a:Int)∧(a:Int)≤1000000;omega
 | 1=>show -1000000≤(b:Int)∧(b:Int)≤1000000;omega
 | 2=>show -1000000≤(c:Int)∧(c:Int)≤1000000;omega
 | k+3=>show -1000000≤(d:Int)∧(d:Int)≤1000000;omega
theorem sm_cpu (A:Nat) {l:List Cpu} (h:l.length≤64):Sm (Ol.cpu4 A l):=
 sm_of (Nat.le_trans (onNode_le A l 0) h) (Nat.le_trans (onNode_le A l 1) h) (Nat.le_trans (onNode_le A l 2) h) (Nat.le_trans (onNode_le A l 3) h)
theorem cn_leO (p:Nat→Bool) (ds:List Dv) (x:Nat):∀ k,cn p ds x k≤k:=by
 intro k
 unfold cn Dvs.sel
 exact Nat.le_trans (List.length_filter_le _ _) (by simp)
theorem sm_dev (p:Nat→Bool) {ds:List Dv} (h:ds.length≤16):Sm (Ol.dev4 p ds):=
 sm_of (Nat.le_trans (cn_leO _ _ _ _) (by omega)) (Nat.le_trans (cn_leO _ _ _ _) (by omega)) (Nat.le_trans (cn_leO _ _ _ _) (by omega)) (Nat.le_trans (cn_leO _ _ _ _) (by omega))
theorem hintsO_form {w:World} {v:Value} {l:List Hi} (h:HintsAt w v l):∃ ao c,v=.slice ao l.length c:=by
 rcases h with ⟨rfl,ao,c,rfl⟩|⟨b,o,c,rfl,_⟩
 ·exact ⟨ao,c,rfl⟩
 ·exact ⟨_,c,rfl⟩
theorem for_any (free all:N4) (nd:Nat) (many:Int) (w:World) (hn:nd<256) (hf:Sm free) (ha:Sm all) :
  Calls Tryz.prog 133 #[v4 free,v4 all,.int .u8 nd,.int .i64 many] w fun e w'=>∃ ao c,e=.returned (.agg #[.bool (Ol.wish free all nd many).any,.slice ao (Ol.wish free all nd many).hs.length c])∧HintsAt w' (.slice ao (Ol.wish free all nd many).hs.length c) (Ol.wish free all nd many).hs∧(∀ b o,ao=some ⟨b,o,none⟩→w.heap.size≤b)∧Below w.heap.size w w':=by
 unfold Ol.wish
 by_cases h:many≤0
 ·rw [if_pos h]
  refine (for_none free all nd many w h).mono ?_
  rintro e w' ⟨rfl,hb⟩
  exact ⟨none,0,rfl,.inl ⟨rfl,none,0,rfl⟩,(fun _ _ h=>nomatch h),hb⟩
 ·rw [if_neg h]
  refine (for_some free all nd many w (by omega) hn hf ha).mono ?_
  rintro e w' ⟨v,rfl,hh,hf2,hb⟩
  obtain ⟨ao,c,rfl⟩:=hintsO_form hh
  exact ⟨ao,c,rfl,hh,fun b o h=>hf2 b o _ _ (by rw [h]),hb⟩
theorem wish_light (free all:N4) (nd:Nat) (many:Int):Low (Ol.wish free all nd many).hs∧(Ol.wish free all nd many).hs.length≤16:=by
 unfold Ol.wish
 by_cases h:many≤0
 ·rw [if_pos h]
  exact ⟨fun x hx=>(List.not_mem_nil hx).elim,Nat.zero_le _⟩
 ·rw [if_neg h]
  refine ⟨fun x hx=>?_,Ost.hints_len _ _ _ _⟩
  obtain ⟨m,g⟩:=x
  have:=Ost.hints_mem hx
  exact Nat.lt_trans this.2.1 (by decide)
theorem wishes_light (m:Ol.Mc) (s:Ol.Sk) (own:Int) (ns:List Nd):Light (Ol.wishes m s own ns):=by
 intro y hy
 unfold Ol.wishes at hy
 rcases List.mem_cons.1 hy with rfl|hy
 ·exact wish_light _ _ _ _
 ·obtain ⟨n,_,rfl⟩:=List.mem_map.1 hy
  exact wish_light _ _ _ _
theorem wishes_len (m:Ol.Mc) (s:Ol.Sk) (own:Int) (ns:List Nd):(Ol.wishes m s own ns).length=ns.length+1:=by
 unfold Ol.wishes;simp
theorem merge_any (m:Ol.Mc) (s:Ol.Sk) (own:Int) (ns:List Nd) (v:Value) (w:World) (hv:WishesAt w v (Ol.wishes m s own ns)) (hl:ns.length≤3) (hn:1≤m.nd∧m.nd≤15) (hp:0≤m.pol∧m.pol≤3) :
  Calls Tryz.prog 100 #[.int .i64 m.pol,.int .u8 m.nd,v] w fun e w'=>e=.returned (.tuple #[vH (Ol.place m (Ol.wishes m s own ns)).1,.bool (Ol.place m (Ol.wishes m s own ns)).2,.nilIface])∧Below w.heap.size w w':=by
 unfold Ol.place
 have hlen:=wishes_len m s own ns
 by_cases h0:m.pol=0
 ·rw [if_pos h0,h0]
  obtain ⟨ao,c,rfl,_⟩:=hv.form
  exact merge_zero m.nd ao _ c w hn (by omega)
 ·rw [if_neg h0]
  exact merge_main m.pol m.nd v (Ol.wishes m s own ns) w hv (wishes_light m s own ns) (by omega) hn (by omega)
end
end Go.Proofs.YtbfdcmodflnkfaaGreatDoor
