/- OW1, OW2 -/
import Derived.Test.YtbmmnflgnmjboaaGreatDoorQ21
import Derived.Test.YtbmmnflgnmjboaaGreatDoorQ12
import Derived.Test.YtbmmnflgnmjboaaGreatDoorQ13
import Derived.Test.YtbmmnflgnmjboaaGreatDoorQ16
set_option maxRecDepth 100000
set_option maxHeartbeats 16000000
namespace Go.Proofs.YtbmmnflgnmjboaaGreatDoor
section
open Go.RowKit Go.Shelf
open Ost (Cpu N4 Wi Hi wi0 told Sm Low cpu0)
open Qos (Nd nd)
open Dvs (Dv dv fits kindP cn)
theorem cntTo_on (A:Nat) (l:List Cpu) (x:Nat):∀ k,cntTo A l (x:Int) k=((List.range k).filter fun i=>A.testBit i && decide ((l.getD i cpu0).node=(x:Int))).length:=by
 intro k
 induction k with
 | zero=>rfl
 | succ k ih=>
  rw [List.range_succ,List.filter_append,List.length_append,← ih,cntTo]
  by_cases h:(A.testBit k && decide ((l.getD k cpu0).node=(x:Int)))=true
  ·rw [if_pos h,List.filter_cons_of_pos (p:=fun i=>A.testBit i && decide ((l.getD i cpu0).node=(x:Int))) h];rfl
  ·rw [if_neg h,List.filter_cons_of_neg (p:=fun i=>A.testBit i && decide ((l.getD i cpu0).node=(x:Int))) h];rfl
theorem cntV_eq (A:Nat) (l:List Cpu):cntV A l l.length=v4 (Ol.cpu4 A l):=by
 have e:∀ x:Nat,cntTo A l (x:Int) l.length=Ol.onNode A l x:=fun x=>cntTo_on A l x l.length
 have e0:=e 0;have e1:=e 1;have e2:=e 2;have e3:=e 3;unfold cntV Ol.cpu4;rw [← e0,← e1,← e2,← e3];rfl
theorem onNode_le (A:Nat) (l:List Cpu) (x:Nat):Ol.onNode A l x≤l.length:=by
 unfold Ol.onNode;exact Nat.le_trans (List.length_filter_le _ _) (by simp)
theorem sm_of {a b c d:Nat} (ha:a≤64) (hb:b≤64) (hc:c≤64) (hd:d≤64):Sm ⟨a,b,c,d⟩:=by
 intro k
 match k with
 | 0=>show -1000000≤(a:Int)∧(a:Int)≤1000000;omega
 | 1=>show -1000000≤(b:Int)∧(b:Int)≤1000000;omega
 | 2=>show -1000000≤(c:Int)∧(c:Int)≤1000000;omega
 | k+3=>show -1000000≤(d:Int)∧(d:Int)≤1000000;omega
theorem sm_cpu (A:Nat) {l:List Cpu} (h:l.length≤64):Sm (Ol.cpu4 A l):=
 sm_of (Nat.le_trans (onNode_le A l 0) h) (Nat.le_trans (onNode_le A l 1) h) (Nat.le_trans (onNode_le A l 2) h) (Nat.le_trans (onNode_le A l 3) h)
theorem cn_leO (p:Nat→Bool) (ds:List Dv) (x:Nat):∀ k,cn p ds x k≤k:=by
 intro k;unfold cn Dvs.sel;exact Nat.le_trans (List.length_filter_le _ _) (by simp)
theorem sm_dev (p:Nat→Bool) {ds:List Dv} (h:ds.length≤16):Sm (Ol.dev4 p ds):=
 sm_of (Nat.le_trans (cn_leO _ _ _ _) (by omega)) (Nat.le_trans (cn_leO _ _ _ _) (by omega)) (Nat.le_trans (cn_leO _ _ _ _) (by omega)) (Nat.le_trans (cn_leO _ _ _ _) (by omega))
theorem hintsO_form {w:World} {v:Value} {l:List Hi} (h:HintsAt w v l):∃ ao c,v=.slice ao l.length c:=by
 rcases h with ⟨rfl,ao,c,rfl⟩|⟨b,o,c,rfl,_⟩
 ·exact ⟨ao,c,rfl⟩
 ·exact ⟨_,c,rfl⟩
theorem for_any (free all:N4) (nd:Nat) (many:Int) (w:World) (hn:nd<256) (hf:Sm free) (ha:Sm all) :
  Calls Tryz.prog 162 #[v4 free,v4 all,.int .u8 nd,.int .i64 many] w fun e w'=>∃ ao c,e=.returned (.agg #[.bool (Ol.wish free all nd many).any,.slice ao (Ol.wish free all nd many).hs.length c])∧HintsAt w' (.slice ao (Ol.wish free all nd many).hs.length c) (Ol.wish free all nd many).hs∧(∀ b o,ao=some ⟨b,o,none⟩→w.heap.size≤b)∧Below w.heap.size w w':=by
 unfold Ol.wish
 by_cases h:many≤0
 ·rw [if_pos h];refine (for_none free all nd many w h).mono ?_;rintro e w' ⟨rfl,hb⟩;exact ⟨none,0,rfl,.inl ⟨rfl,none,0,rfl⟩,(fun _ _ h=>nomatch h),hb⟩
 ·rw [if_neg h];refine (for_some free all nd many w (by omega) hn hf ha).mono ?_;rintro e w' ⟨v,rfl,hh,hf2,hb⟩;obtain ⟨ao,c,rfl⟩:=hintsO_form hh;exact ⟨ao,c,rfl,hh,fun b o h=>hf2 b o _ _ (by rw [h]),hb⟩
theorem wish_light (free all:N4) (nd:Nat) (many:Int):Low (Ol.wish free all nd many).hs∧(Ol.wish free all nd many).hs.length≤16:=by
 unfold Ol.wish
 by_cases h:many≤0
 ·rw [if_pos h];exact ⟨fun x hx=>(List.not_mem_nil hx).elim,Nat.zero_le _⟩
 ·rw [if_neg h];refine ⟨fun x hx=>?_,Ost.hints_len _ _ _ _⟩;obtain ⟨m,g⟩:=x
  have:=Ost.hints_mem hx
  exact Nat.lt_trans this.2.1 (by decide)
theorem wishes_light (m:Ol.Mc) (s:Ol.Sk) (own:Int) (ns:List Nd):Light (Ol.wishes m s own ns):=by
 intro y hy;unfold Ol.wishes at hy
 rcases List.mem_cons.1 hy with rfl|hy
 ·exact wish_light _ _ _ _
 ·obtain ⟨n,_,rfl⟩:=List.mem_map.1 hy;exact wish_light _ _ _ _
theorem wishes_len (m:Ol.Mc) (s:Ol.Sk) (own:Int) (ns:List Nd):(Ol.wishes m s own ns).length=ns.length+1:=by
 unfold Ol.wishes;simp
theorem merge_any (m:Ol.Mc) (s:Ol.Sk) (own:Int) (ns:List Nd) (v:Value) (w:World) (hv:WishesAt w v (Ol.wishes m s own ns)) (hl:ns.length≤3) (hn:1≤m.nd∧m.nd≤15) (hp:0≤m.pol∧m.pol≤3) :
  Calls Tryz.prog 126 #[.int .i64 m.pol,.int .u8 m.nd,v] w fun e w'=>e=.returned (.tuple #[vH (Ol.place m (Ol.wishes m s own ns)).1,.bool (Ol.place m (Ol.wishes m s own ns)).2,.nilIface])∧Below w.heap.size w w':=by
 unfold Ol.place;have hlen:=wishes_len m s own ns
 by_cases h0:m.pol=0
 ·rw [if_pos h0,h0];obtain ⟨ao,c,rfl,_⟩:=hv.form;exact merge_zero m.nd ao _ c w hn (by omega)
 ·rw [if_neg h0];exact merge_main m.pol m.nd v (Ol.wishes m s own ns) w hv (wishes_light m s own ns) (by omega) hn (by omega)
end
section
open Go.RowKit Go.Shelf
open Ost (Cpu N4 Wi Hi wi0 told Sm Low cpu0)
open Qos (Nd nd)
open Dvs (Dv dv fits kindP cn Nodes)
attribute [local go_sem] Oper.semAt_some
theorem HintsAt.le {W W':World} {v:Value} {l:List Hi} (h:HintsAt W v l) (k:CellLe W W'):HintsAt W' v l:=by
 rcases h with h|⟨b,o,c,hv,hlt,hc⟩
 ·exact .inl h
 ·exact .inr ⟨b,o,c,hv,Nat.lt_of_lt_of_le hlt k.size,fun j hj=>⟨k.cell _ _ _ (hc j hj).1,k.cell _ _ _ (hc j hj).2⟩⟩
theorem hints_off {W:World} {ao:Option Addr} {n c g:Nat} {l:List Hi} (h:HintsAt W (.slice ao n c) l) (hg:∀ b o,ao=some ⟨b,o,none⟩→b≠g):HintsAt (mask (fun b=>b=g) W) (.slice ao n c) l:=by
 rcases h with h|⟨b,o,c',hv,hlt,hc⟩
 ·exact .inl h
 ·refine .inr ⟨b,o,c',hv,by rw [mask_size];exact hlt,fun j hj=>?_⟩;injection hv with hv
  have hb:=hg b o hv;have e:∀ k,(mask (fun b=>b=g) W).cell? ⟨b,k,none⟩=W.cell? ⟨b,k,none⟩:=fun k=>World.cell?_of_block (a:=⟨b,k,none⟩) (mask_out hb)
  rw [e,e];exact hc j hj
def wCells (x:Wi × Value):List Value:=[.bool x.1.any,x.2]
def wl (m:Ol.Mc) (s:Ol.Sk) (own:Int) (ns:List Nd) (k:Nat):List Wi:=Ol.wishes m s own (ns.take k)
theorem wl_next (m:Ol.Mc) (s:Ol.Sk) (own:Int) {ns:List Nd} {k:Nat} (h:k<ns.length):wl m s own ns (k+1)=wl m s own ns k++[Ol.wish (Ol.dev4 (fits s.ds s.us (nd ns k).kind) s.ds) (Ol.dev4 (kindP s.ds (nd ns k).kind) s.ds) m.nd (nd ns k).many]:=by
 unfold wl Ol.wishes;rw [List.take_succ_eq_append_getElem h,List.map_append,List.cons_append]
 simp [nd,h]
theorem infoWish:(Tryz.prog.info? 270).map (fun i=>(i.zero,i.size,i.bytes))=some (some (.agg #[.bool false,.slice none 0 0]),2,32):=by kernel_rfl
theorem new_wish (w:World) (x:Wi × Value) (t:TypeId):∀ j u,(wCells x)[j]?=some u→(w.alloc (.cells #[.bool x.1.any,x.2] t)).cell? ((⟨w.heap.size,0,none⟩:Addr).add j)=some u:=by
 intro j u hu;rw [Addr.add_lit,Nat.zero_add]
 match j,hu with
 | 0,hu=>simp [wCells] at hu;subst hu;simp
 | 1,hu=>simp [wCells] at hu;subst hu;simp
 | n+2,hu=>simp [wCells] at hu
theorem wCells_one (y:Wi) (a:Option Addr) (n c:Nat):∀ u∈wCells (y,.slice a n c),u.oneCell'=true:=by
 intro u hu
 simp [wCells] at hu
 rcases hu with rfl|rfl <;> rfl
theorem own_keep {W W':World} {base:Nat} {e:TypeId} {sz g n cap:Nat} {xs:List Value} (h:W.ownsRow base e sz (.slice (some ⟨g,0,none⟩) n cap) n xs) (hb:W'.heap[g]?=W.heap[g]?):W'.ownsRow base e sz (.slice (some ⟨g,0,none⟩) n cap) n xs:=by
 obtain ⟨h1,h2|⟨g2,c2,cur,hv,r1,r2,r3⟩⟩:=h
 ·exact ⟨h1,.inl h2⟩
 ·injection hv with e1 e2 e3
  injection e1 with e1
  injection e1 with e1
  subst e1;exact ⟨h1,.inr ⟨g,c2,cur,by rw [e3],r1,hb.trans r2,r3⟩⟩
theorem wishes_row {W:World} {base g cap:Nat} {l:List (Wi × Value)} (h:W.ownsRow base 270 2 (.slice (some ⟨g,0,none⟩) l.length cap) l.length (l.flatMap wCells)) (hh:∀ x∈l,HintsAt W x.2 x.1.hs):WishesAt W (.slice (some ⟨g,0,none⟩) l.length cap) (l.map Prod.fst):=by
 refine .inr ⟨g,0,cap,by rw [List.length_map],(h.lt g rfl).2,fun k hk=>?_⟩;rw [List.length_map] at hk;have e:(l.map Prod.fst).getD k wi0=l[k].1:=by simp [hk]
 have key:∀ (l:List (Wi × Value)) (k:Nat) (hk:k<l.length) (j:Nat),j<2→(l.flatMap wCells)[k*2+j]?=(wCells l[k])[j]?:=by
  intro l
  induction l with
  | nil=>intro k hk;simp at hk
  | cons a l ih=>
   intro k hk j hj;rw [List.flatMap_cons];cases k with
   | zero=>rw [List.getElem?_append_left (by simp [wCells];omega)];simp
   | succ k=>
    rw [List.getElem?_append_right (by simp [wCells];omega)]
    have:=ih k (by simpa using hk) j hj
    simp only [List.getElem_cons_succ];rw [← this]
    congr 1
    simp [wCells]
    omega
 have k0:=key l k hk 0 (by decide);have k1:=key l k hk 1 (by decide);rw [e,Nat.zero_add];refine ⟨?_,l[k].2,?_,hh _ (List.getElem_mem hk)⟩
 ·rw [h.cellAt (k*2) (by omega)];exact k0
 ·rw [h.cellAt (k*2+1) (by omega)];exact k1
structure MTop (w:World) (tb b o c:Nat) (m:Ol.Mc):Prop where
 topo:TopoAt w tb b o c m.l
 good:Good m.l
 op:m.op<18446744073709551616
 nd:1≤m.nd∧m.nd≤15
 pol:0≤m.pol∧m.pol≤3
theorem MTop.below {w w':World} {tb b o c:Nat} {m:Ol.Mc} (h:MTop w tb b o c m) (hb:Below w.heap.size w w'):MTop w' tb b o c m:=⟨h.topo.below hb,h.good,h.op,h.nd,h.pol⟩
structure SkAt (w:World) (pb db:Nat) (ao:Option Addr) (c:Nat) (s:Ol.Sk):Prop where
 pool:PoolAt w pb db ao c s.ds s.us
 nodes:Nodes s.ds
 cp:s.cp<18446744073709551616
theorem SkAt.below {w w':World} {pb db:Nat} {ao:Option Addr} {c:Nat} {s:Ol.Sk} (h:SkAt w pb db ao c s) (hb:Below w.heap.size w w'):SkAt w' pb db ao c s:=⟨h.pool.below hb,h.nodes,h.cp⟩
def mV (m:Ol.Mc) (tb:Nat):Value:=.agg #[.pointer (some ⟨tb,0,none⟩),.int .u64 m.op,.int .u8 m.nd,.int .i64 m.nb,.int .i64 m.pol]
def sV (s:Ol.Sk) (pb:Nat):Value:=.agg #[.int .u64 s.cp,.pointer (some ⟨pb,0,none⟩)]
theorem wishes_any (m:Ol.Mc) (s:Ol.Sk) (tb b o c pb db:Nat) (ao:Option Addr) (pc:Nat) (own:Int) (v:Value) (ns:List Nd) (w:World) (hm:MTop w tb b o c m) (hs:SkAt w pb db ao pc s) (hv:NeedsAt w v ns) (hl:ns.length≤100) :
  Calls Tryz.prog 127 #[mV m tb,sV s pb,.int .i64 own,v] w fun e w'=>∃ v',e=.returned v'∧WishesAt w' v' (Ol.wishes m s own ns)∧Below w.heap.size w w':=by
 obtain ⟨i0,hi,hz0,hz1,hz2⟩:=info_parts infoWish;unfold mV sV;have HM:=qI hm;have HSK:=qI hs;obtain ⟨na,nc,rfl,hnm,hnr⟩:=hv;unfold maxLen at hnm;have HNR:=qI hnr;have hnd:=hm.nd;have sz:((w.alloc (.cells #[.pointer (some ⟨tb,0,none⟩),.int .u64 m.op,.int .u8 m.nd,.int .i64 m.nb,.int .i64 m.pol] 95)).alloc (.cells #[.int .u64 s.cp,.pointer (some ⟨pb,0,none⟩)] 98)).heap.size=w.heap.size+2:=by simp
 have HU1:=qI (heap_madeO (w.alloc (.cells #[.pointer (some ⟨tb,0,none⟩),.int .u64 m.op,.int .u8 m.nd,.int .i64 m.nb,.int .i64 m.pol] 95)) (.cells #[.int .u64 s.cp,.pointer (some ⟨pb,0,none⟩)] 98) (n:=w.heap.size+1) (by simp));have HU0:=qI (heap_oldO (heap_madeO w (.cells #[.pointer (some ⟨tb,0,none⟩),.int .u64 m.op,.int .u8 m.nd,.int .i64 m.nb,.int .i64 m.pol] 95) rfl) (.cells #[.int .u64 s.cp,.pointer (some ⟨pb,0,none⟩)] 98));have HBU:=qI (((Below.refl w.heap.size w).alloc (Nat.le_refl _) (.cells #[.pointer (some ⟨tb,0,none⟩),.int .u64 m.op,.int .u8 m.nd,.int .i64 m.nb,.int .i64 m.pol] 95)).alloc (by simp) (.cells #[.int .u64 s.cp,.pointer (some ⟨pb,0,none⟩)] 98));have q0:((w.alloc (.cells #[.pointer (some ⟨tb,0,none⟩),.int .u64 m.op,.int .u8 m.nd,.int .i64 m.nb,.int .i64 m.pol] 95)).alloc (.cells #[.int .u64 s.cp,.pointer (some ⟨pb,0,none⟩)] 98)).cell? ⟨w.heap.size,0,none⟩=some (.pointer (some ⟨tb,0,none⟩)):=cell_of_heapV HU0.out 0;have q1:((w.alloc (.cells #[.pointer (some ⟨tb,0,none⟩),.int .u64 m.op,.int .u8 m.nd,.int .i64 m.nb,.int .i64 m.pol] 95)).alloc (.cells #[.int .u64 s.cp,.pointer (some ⟨pb,0,none⟩)] 98)).cell? ⟨w.heap.size,1,none⟩=some (.int .u64 m.op):=cell_of_heapV HU0.out 1;have q2:((w.alloc (.cells #[.pointer (some ⟨tb,0,none⟩),.int .u64 m.op,.int .u8 m.nd,.int .i64 m.nb,.int .i64 m.pol] 95)).alloc (.cells #[.int .u64 s.cp,.pointer (some ⟨pb,0,none⟩)] 98)).cell? ⟨w.heap.size,2,none⟩=some (.int .u8 m.nd):=cell_of_heapV HU0.out 2;have q3:((w.alloc (.cells #[.pointer (some ⟨tb,0,none⟩),.int .u64 m.op,.int .u8 m.nd,.int .i64 m.nb,.int .i64 m.pol] 95)).alloc (.cells #[.int .u64 s.cp,.pointer (some ⟨pb,0,none⟩)] 98)).cell? ⟨w.heap.size+1,0,none⟩=some (.int .u64 s.cp):=cell_of_heapV HU1.out 0;clear hm hs hnr
 go_enter Tryz.func127,Tryz.ntmps127
 go_wp2_with fail
 generalize ((w.alloc (.cells #[.pointer (some ⟨tb,0,none⟩),.int .u64 m.op,.int .u8 m.nd,.int .i64 m.nb,.int .i64 m.pol] 95)).alloc (.cells #[.int .u64 s.cp,.pointer (some ⟨pb,0,none⟩)] 98))=U at *;generalize hB:w.heap.size=B at *;have HQ:=qI (And.intro q0 (And.intro q1 (And.intro q2 q3)));have HBd:Hid (Below U.heap.size U U.drew):=below_drewR (Below.refl _ _);clear q0 q1 q2 q3;have HSB:Hid (∀ W,Below U.heap.size U W→(fun w'=>w'.cell? ⟨B,0,none⟩=some (.pointer (some ⟨tb,0,none⟩))∧w'.cell? ⟨B,1,none⟩=some (.int .u64 m.op)∧w'.cell? ⟨B,2,none⟩=some (.int .u8 m.nd)∧w'.cell? ⟨B+1,0,none⟩=some (.int .u64 s.cp)) W):=fun W hb=>⟨(hb.cell (p:=⟨B,0,none⟩) (by show B<_;omega)).trans HQ.out.1,(hb.cell (p:=⟨B,1,none⟩) (by show B<_;omega)).trans HQ.out.2.1,(hb.cell (p:=⟨B,2,none⟩) (by show B<_;omega)).trans HQ.out.2.2.1,(hb.cell (p:=⟨B+1,0,none⟩) (by show B+1<_;omega)).trans HQ.out.2.2.2⟩
 have HBW:Hid (∀ W,Below U.heap.size U W→Below w.heap.size w W):=fun W hb=>(show Below w.heap.size w U from hB ▸ HBU.out).trans (hb.mono (by omega))
 refine wp_region_held_drew (S:=(fun w'=>w'.cell? ⟨B,0,none⟩=some (.pointer (some ⟨tb,0,none⟩))∧w'.cell? ⟨B,1,none⟩=some (.int .u64 m.op)∧w'.cell? ⟨B,2,none⟩=some (.int .u8 m.nd)∧w'.cell? ⟨B+1,0,none⟩=some (.int .u64 s.cp))) (by kernel_rfl) (HSB.out _ HBd.out) (fun hHeld=>?_);refine tk 0 ?_;refine tk 1 ?_;refine tk 2 ?_;refine tk 3 ?_;refine tk 5 ?_;refine tk 6 ?_;refine tk 7 ?_;refine tk 8 ?_;refine tk 10 ?_;refine tk 11 ?_;refine tk 12 ?_;refine rd 4 (fun K hK=>?_);go_simp
 go_wp2_with fail
 have hc1:=count_any s.cp tb b o c m.l _ (HM.out.below (HBW.out _ HBd.out)).topo HSK.out.cp HM.out.good;rw [cntV_eq] at hc1;refine hc1.mono ?_;rintro e W1 ⟨rfl,hb1⟩;have HB1:=qI (HBd.out.trans (hb1.mono (Nat.le_refl _)));clear hc1 hb1
 go_wp2_with fail
 refine hK.out _ _ (HSB.out _ HB1.out) (fun hHeld=>?_);clear hK K;refine rd 9 (fun K hK=>?_);go_simp
 go_wp2_with fail
 have hc2:=count_any m.op tb b o c m.l _ (HM.out.below (HBW.out _ HB1.out)).topo HM.out.op HM.out.good;rw [cntV_eq] at hc2;refine hc2.mono ?_;rintro e W2 ⟨rfl,hb2⟩;have HB2:=qI (HB1.out.trans (hb2.mono HB1.out.size));clear hc2 hb2
 go_wp2_with fail
 refine hK.out _ _ (HSB.out _ HB2.out) (fun hHeld=>?_);clear hK K;refine rd 13 (fun K hK=>?_);go_simp
 go_wp2_with fail
 refine (for_any (Ol.cpu4 s.cp m.l) (Ol.cpu4 m.op m.l) m.nd own _ (by omega) (sm_cpu _ HM.out.topo.len) (sm_cpu _ HM.out.topo.len)).mono ?_;rintro e W3 ⟨ha,hc,rfl,hh3,hf3,hb3⟩;have HB3:=qI (HB2.out.trans (hb3.mono HB2.out.size));have HH3:=qI hh3;clear hb3 hh3 hf3
 go_wp2_with fail
 refine hK.out _ _ (HSB.out _ HB3.out) (fun hHeld=>?_);clear hK K;have HB4:=qI (HB3.out.alloc HB3.out.size (.cells #[.bool (Ol.wish (Ol.cpu4 s.cp m.l) (Ol.cpu4 m.op m.l) m.nd own).any,.slice ha (Ol.wish (Ol.cpu4 s.cp m.l) (Ol.cpu4 m.op m.l) m.nd own).hs.length hc] 270));refine rd 14 (fun K hK=>?_);go_simp
 go_wp2_with fail
 refine hK.out _ _ (HSB.out _ HB4.out) (fun hHeld=>?_);clear hK K;refine tk 15 ?_;refine wpAnyH_done (by kernel_rfl) ?_ _;clear hHeld;have hlt3:=HB3.out.size;have HROW0:=qI (show (W3.alloc (.cells #[.bool (Ol.wish (Ol.cpu4 s.cp m.l) (Ol.cpu4 m.op m.l) m.nd own).any,.slice ha (Ol.wish (Ol.cpu4 s.cp m.l) (Ol.cpu4 m.op m.l) m.nd own).hs.length hc] 270)).ownsRow U.heap.size 270 2 (.slice (some ⟨W3.heap.size,0,none⟩) 1 1) 1 (wCells ((Ol.wish (Ol.cpu4 s.cp m.l) (Ol.cpu4 m.op m.l) m.nd own),.slice ha (Ol.wish (Ol.cpu4 s.cp m.l) (Ol.cpu4 m.op m.l) m.nd own).hs.length hc)) from World.ownsRow_lit W3 #[.bool (Ol.wish (Ol.cpu4 s.cp m.l) (Ol.cpu4 m.op m.l) m.nd own).any,.slice ha (Ol.wish (Ol.cpu4 s.cp m.l) (Ol.cpu4 m.op m.l) m.nd own).hs.length hc] 1 HB3.out.size (by unfold maxLen;omega) rfl);have HH4:Hid (HintsAt (mask (fun b=>b=W3.heap.size) (W3.alloc (.cells #[.bool (Ol.wish (Ol.cpu4 s.cp m.l) (Ol.cpu4 m.op m.l) m.nd own).any,.slice ha (Ol.wish (Ol.cpu4 s.cp m.l) (Ol.cpu4 m.op m.l) m.nd own).hs.length hc] 270))) (.slice ha (Ol.wish (Ol.cpu4 s.cp m.l) (Ol.cpu4 m.op m.l) m.nd own).hs.length hc) (Ol.wish (Ol.cpu4 s.cp m.l) (Ol.cpu4 m.op m.l) m.nd own).hs):=HH3.out.le (mask_below (N:=W3.heap.size) ((Below.refl _ _).alloc (Nat.le_refl _) _) rfl (fun j hj=>by omega));have HW0:Hid (wl m s own ns 0=[(Ol.wish (Ol.cpu4 s.cp m.l) (Ol.cpu4 m.op m.l) m.nd own)]):=by unfold Hid wl Ol.wishes;simp
 generalize hWA:W3.alloc (.cells #[.bool (Ol.wish (Ol.cpu4 s.cp m.l) (Ol.cpu4 m.op m.l) m.nd own).any,.slice ha (Ol.wish (Ol.cpu4 s.cp m.l) (Ol.cpu4 m.op m.l) m.nd own).hs.length hc] 270)=WA at *;generalize hx0:(Ol.wish (Ol.cpu4 s.cp m.l) (Ol.cpu4 m.op m.l) m.nd own)=x0 at *;generalize hg0:W3.heap.size=g0 at *;clear hWA hx0
 go_wp2_with fail
 go_loopw [9,31] (fun pv i wr=>∃ (k g cap:Nat) (l:List (Wi × Value)),k≤ns.length∧i=.int .i64 k∧pv=.slice (some ⟨g,0,none⟩) l.length cap∧l.length=k+1∧l.map Prod.fst=wl m s own ns k∧wr.ownsRow U.heap.size 270 2 (.slice (some ⟨g,0,none⟩) l.length cap) l.length (l.flatMap wCells)∧(∀ x∈l,HintsAt (mask (fun b=>b=g) wr) x.2 x.1.hs)∧Below U.heap.size U wr) (fun _ i _=>ns.length - (intOf i).toNat)
 case atStart=>exact ⟨0,g0,1,[(x0,.slice ha x0.hs.length hc)],by omega,rfl,rfl,rfl,by rw [HW0.out];rfl,HROW0.out,fun x hx=>by rw [List.mem_singleton.1 hx];exact HH4.out,HB4.out⟩
 case round=>
  obtain ⟨k,g,cap,l,hk,rfl,rfl,hlk,hlm,hrow,hhs,hb⟩:=hrel;clear HB1 HB2 HB3 HB4 HROW0 HH4 HH3 HBd;have HLK:=qI hlk;have HLM:=qI hlm;have HROW:=qI hrow;have HHS:=qI hhs;have HB:=qI hb;have hln:l.length≤101:=by omega
  have hgl:=(hrow.lt g rfl);clear hlk hlm hrow hhs
  by_cases hlt:k<ns.length
  ·obtain ⟨nb,no,rfl,hnlt,hnc⟩:=HNR.out (by omega);have hbw:=HBW.out _ hb;have c0:=(hbw.cell (p:=⟨nb,no+k*2,none⟩) (by rw [hB];exact hnlt)).trans (hnc k hlt).1;have c1:=(hbw.cell (p:=⟨nb,no+k*2+1,none⟩) (by rw [hB];exact hnlt)).trans (hnc k hlt).2;have HNX:=qI (wl_next m s own hlt);have hk1:(k:Int)<(ns.length:Int):=by omega
   clear hnc hbw;generalize nd ns k=x at *;have hszr:=hb.size;have HBa:=qI (hb.alloc hb.size (.cells #[.string x.kind,.int .i64 x.many] 109));have hsa:(wr.alloc (.cells #[.string x.kind,.int .i64 x.many] 109)).heap.size=wr.heap.size+1:=by simp
   have HXA:=qI (heap_madeO wr (.cells #[.string x.kind,.int .i64 x.many] 109) rfl);have HPA:=qI ((Below.refl wr.heap.size wr).alloc (Nat.le_refl _) (.cells #[.string x.kind,.int .i64 x.many] 109));have a0:(wr.alloc (.cells #[.string x.kind,.int .i64 x.many] 109)).cell? ⟨wr.heap.size,0,none⟩=some (.string x.kind):=cell_of_heapV HXA.out 0;have s1:(wr.alloc (.cells #[.string x.kind,.int .i64 x.many] 109)).cell? ⟨B+1,1,none⟩=some (.pointer (some ⟨pb,0,none⟩)):=cell_of_heapV ((HBa.out.block (B+1) (by omega)).trans HU1.out) 1;have HCT:=qI (count_anyD x.kind (wr.alloc (.cells #[.string x.kind,.int .i64 x.many] 109)) pb db ao pc s.ds s.us (HSK.out.below (HBW.out _ HBa.out)).pool HSK.out.nodes);have HFOR:=qI (fun (W:World)=>for_any (Ol.dev4 (fits s.ds s.us x.kind) s.ds) (Ol.dev4 (kindP s.ds x.kind) s.ds) m.nd x.many W (by omega) (sm_dev _ HSK.out.nodes.1) (sm_dev _ HSK.out.nodes.1));unfold v4 Ol.dev4 at HFOR;dsimp only at HFOR;unfold Ol.dev4 at HNX;unfold fourV at HCT;dsimp only at HCT;generalize cn (fits s.ds s.us x.kind) s.ds 0 s.ds.length=f0 at *;generalize cn (fits s.ds s.us x.kind) s.ds 1 s.ds.length=f1 at *;generalize cn (fits s.ds s.us x.kind) s.ds 2 s.ds.length=f2 at *;generalize cn (fits s.ds s.us x.kind) s.ds 3 s.ds.length=f3 at *;generalize cn (kindP s.ds x.kind) s.ds 0 s.ds.length=e0 at *;generalize cn (kindP s.ds x.kind) s.ds 1 s.ds.length=e1 at *;generalize cn (kindP s.ds x.kind) s.ds 2 s.ds.length=e2 at *;generalize cn (kindP s.ds x.kind) s.ds 3 s.ds.length=e3 at *;generalize hy:Ol.wish ⟨f0,f1,f2,f3⟩ ⟨e0,e1,e2,e3⟩ m.nd x.many=y at *;clear hb
   go_wp2_with fail
   generalize wr.alloc (.cells #[.string x.kind,.int .i64 x.many] 109)=WB at *;refine HCT.out.mono ?_;rintro e W2 ⟨rfl,hb2⟩;have HB2:=qI (HBa.out.trans (hb2.mono (by omega)));have HX2:=qI ((hb2.block wr.heap.size (by omega)).trans HXA.out);have HP2:=qI (HPA.out.trans (hb2.mono (by omega)));have hs2:=hb2.size;clear HCT a0 s1 c0 c1 hb2 HBa HXA HPA;have hA3:=((Below.refl W2.heap.size W2).alloc (Nat.le_refl _) (.cells #[.int .i64 f0,.int .i64 f1,.int .i64 f2,.int .i64 f3] 214)).alloc (by simp) (.cells #[.int .i64 e0,.int .i64 e1,.int .i64 e2,.int .i64 e3] 214);have hs3:((W2.alloc (.cells #[.int .i64 f0,.int .i64 f1,.int .i64 f2,.int .i64 f3] 214)).alloc (.cells #[.int .i64 e0,.int .i64 e1,.int .i64 e2,.int .i64 e3] 214)).heap.size=W2.heap.size+2:=by simp
   have HB3:=qI (HB2.out.trans (hA3.mono HB2.out.size));have HP3:=qI (HP2.out.trans (hA3.mono HP2.out.size));have b1:W2.cell? ⟨wr.heap.size,1,none⟩=some (.int .i64 x.many):=cell_of_heapV HX2.out 1;have b2:W2.cell? ⟨B,2,none⟩=some (.int .u8 m.nd):=(HSB.out _ HB2.out).2.2.1;have b3:((W2.alloc (.cells #[.int .i64 f0,.int .i64 f1,.int .i64 f2,.int .i64 f3] 214)).alloc (.cells #[.int .i64 e0,.int .i64 e1,.int .i64 e2,.int .i64 e3] 214)).cell? ⟨wr.heap.size,1,none⟩=some (.int .i64 x.many):=cell_of_heapV ((hA3.block wr.heap.size (by omega)).trans HX2.out) 1;have b4:((W2.alloc (.cells #[.int .i64 f0,.int .i64 f1,.int .i64 f2,.int .i64 f3] 214)).alloc (.cells #[.int .i64 e0,.int .i64 e1,.int .i64 e2,.int .i64 e3] 214)).cell? ⟨B,2,none⟩=some (.int .u8 m.nd):=(HSB.out _ HB3.out).2.2.1;clear hA3 HX2 HB2 HP2
   go_wp2_with fail
   generalize ((W2.alloc (.cells #[.int .i64 f0,.int .i64 f1,.int .i64 f2,.int .i64 f3] 214)).alloc (.cells #[.int .i64 e0,.int .i64 e1,.int .i64 e2,.int .i64 e3] 214))=W3 at *;refine (HFOR.out W3).mono ?_;rintro e W4 ⟨ha4,hc4,rfl,hh4,hf4,hb4⟩;have HB4:=qI (HB3.out.trans (hb4.mono HB3.out.size));have HP4:=qI (HP3.out.trans (hb4.mono HP3.out.size));have HH4:Hid (HintsAt (mask (fun b=>b=g) W4) (.slice ha4 y.hs.length hc4) y.hs):=hints_off hh4 (fun b o hbo=>by have:=hf4 b o hbo;omega);have HROW4:=qI (show W4.ownsRow U.heap.size 270 2 (.slice (some ⟨g,0,none⟩) l.length cap) l.length (l.flatMap wCells) from own_keep HROW.out (HP4.out.block g hgl.2));have hs4:=hb4.size;have HN4:=qI (new_wish W4 (y,.slice ha4 y.hs.length hc4) 270);dsimp only at HN4;have hbu:U.heap.size≤(W4.alloc (.cells #[.bool y.any,.slice ha4 y.hs.length hc4] 270)).heap.size:=by simp;omega
   clear b1 b2 b3 b4 hh4 hb4 hf4 HFOR
   go_wp2_with (at_builtin;refine wpList_append_lies _ rfl _ _ 226 rfl U.heap.size 270 i0 (.agg #[.bool false,.slice none 0 0]) 2 32 Tryz.underlying226 hi hz0 hz1 hz2 rfl (by decide) _ _ _ rfl (HROW4.out.alloc _) ⟨_,0,none⟩ 1 1 (wCells (y,.slice ha4 y.hs.length hc4)) rfl rfl HN4.out (wCells_one _ _ _ _) (by decide) (by unfold maxLen;omega) (by omega) hbu (W4.heap.size+1) (by simp) ?_;intro g' cap' W6 hown' hgrow' hgg hglt)
   have hsz5:(W4.alloc (.cells #[.bool y.any,.slice ha4 y.hs.length hc4] 270)).heap.size=W4.heap.size+1:=by simp
   have HMK:Hid (∀ j,j<W4.heap.size→j≠g→W6.heap[j]?=W4.heap[j]?):=fun j hj hne=>(hgrow'.block j (by omega) (fun e=>hne (by injection e))).trans (Below.heap_alloc _ _ _ hj)
   have hg':g'=g∨g'=W4.heap.size+1:=by rcases hgg with h|h;exact .inl (by injection h with h;exact h.symm);exact .inr h
   have hs6:=hgrow'.size;have HROW6:Hid (W6.ownsRow U.heap.size 270 2 (.slice (some ⟨g',0,none⟩) (l++[(y,Value.slice ha4 y.hs.length hc4)]).length cap') (l++[(y,Value.slice ha4 y.hs.length hc4)]).length ((l++[(y,Value.slice ha4 y.hs.length hc4)]).flatMap wCells)):=by
    unfold Hid;rw [List.length_append,List.flatMap_append]
    simpa using hown'
   have HB6:=qI ((HB4.out.alloc HB4.out.size _).grown hgrow' (by omega) (fun j hj=>by cases hj;exact hgl.1));clear hown' hgrow' hgg
   go_roundw
   case rel=>
    refine ⟨k+1,g',cap',l++[(y,Value.slice ha4 y.hs.length hc4)],by omega,by go_num,by rw [List.length_append];rfl,by rw [List.length_append,HLK.out];rfl,by rw [List.map_append,HLM.out,HNX.out];rfl,HROW6.out,fun z hz=>?_,HB6.out⟩
    rcases List.mem_append.1 hz with hz|hz
    ·refine (HHS.out z hz).le (mask_to (fun j hj hne=>⟨by have:=HP4.out.size;omega,?_⟩) (by have:=HP4.out.size;omega));rw [HMK.out j (by have:=HP4.out.size;omega) hne];exact HP4.out.block j hj
    ·rw [List.mem_singleton.1 hz];exact HH4.out.le (mask_to (fun j hj hne=>⟨by omega,HMK.out j hj hne⟩) (by omega))
   case measure=>simp [intOf];omega
  ·have hke:k=ns.length:=by omega
   have HE:Hid (WishesAt wr (.slice (some ⟨g,0,none⟩) l.length cap) (Ol.wishes m s own ns)):=by
    unfold Hid;have e:Ol.wishes m s own ns=l.map Prod.fst:=by rw [HLM.out,hke,wl,List.take_length]
    rw [e];exact wishes_row HROW.out (fun x hx=>(HHS.out x hx).le (mask_off _ _))
   clear hke
   go_wp2_with fail
   go_ret;exact ⟨_,rfl,HE.out,HBW.out _ HB.out⟩
end
end Go.Proofs.YtbmmnflgnmjboaaGreatDoor
