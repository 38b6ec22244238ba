import Derived.Test.YtbmmnflgnmjboaaGreatDoorL8
import Derived.Test.YtbmmnflgnmjboaaGreatDoorL6
import Derived.Test.YtbmmnflgnmjboaaGreatDoorL10
import Derived.Shelf.Spec.SlicesInsertGrow
set_option maxRecDepth 100000
set_option maxHeartbeats 16000000
namespace Go.Proofs.YtbmmnflgnmjboaaGreatDoor
section
namespace Ol
open Ost (Cpu N4 Wi Hi af cnt dif aM told gy)
open Dvs (Dv dv fits bD cn bC bR srt cf clF bF first)
open Qos (Nd Ct Pd ct aF aO aV ah)
open Sv (Gv Hd gv hd)
structure Mc where
 l:List Cpu
 op:Nat
 nd:Nat
 nb:Int
 pol:Int
structure Sk where
 cp:Nat
 ds:List Dv
 us:Nat->Bool
def onNode (A:Nat) (l:List Cpu) (x:Nat):Nat:=((List.range l.length).filter λk=>A.testBit k && decide ((l.getD k Ost.ae).node=(x:Int))).length
def bt (A:Nat) (l:List Cpu):N4:=⟨onNode A l 0,onNode A l 1,onNode A l 2,onNode A l 3⟩
def ig (p:Nat->Bool) (ds:List Dv):N4:=⟨cn p ds 0 ds.length,cn p ds 1 ds.length,cn p ds 2 ds.length,cn p ds 3 ds.length⟩
def bW (free all:N4) (nd:Nat) (many:Int):Wi:=if many<=0 then ⟨true,[]⟩ else ⟨false,gy free all nd many⟩
def b9 (m:Mc) (s:Sk) (own:Int) (ns:List Nd):List Wi:=
 bW (bt s.cp m.l) (bt m.op m.l) m.nd own :: ns.map λn=>bW (ig (fits s.ds s.us n.kind) s.ds) (ig (bD s.ds n.kind) s.ds) m.nd n.many
def place (m:Mc) (ws:List Wi):Hi × Bool:=if m.pol=0 then ((m.nd,true),true) else (told m.pol m.nd ws,(told m.pol m.nd ws).2 || decide (m.pol=1))
def bU (ds:List Dv) (on:Nat):List Nd->(Nat->Bool)->List Nat->Nat × (Nat->Bool) × List Nat
 | [],us,out=>(0,us,out)
 | n :: r,us,out=>if bR ds us n.kind n.many=0 then bU ds on r (cf us (bC ds us n.kind on n.many.toNat)) (out++srt (bC ds us n.kind on n.many.toNat)) else (bR ds us n.kind n.many,us,out)
def aZ (m:Mc) (s:Sk) (own:Int) (ns:List Nd):Nat × Gv × (Nat->Bool):=
 let p:=place m (b9 m s own ns)
 if p.2=false then (10,⟨0,[]⟩,s.us) else
 let t:=aM m.l s.cp own (af (λc=>p.1.1.testBit c.node.toNat) m.l)
 if t.2≠0 then (t.2.toNat,⟨0,[]⟩,s.us) else
 let d:=bU s.ds p.1.1 ns s.us []
 if d.1≠0 then (d.1,⟨0,[]⟩,d.2.1) else (0,⟨t.1,(srt d.2.2).map λ(k:Nat)=>(k:Int)⟩,d.2.1)
def iN (m:Mc) (cs:List Ct) (k:Nat) (gs:List Gv) (s:Sk):Nat × List Gv × Sk:=
 if (aZ m s (aF cs (ct cs k).am) (ct cs k).ds).1=0 then (0,gs++[(aZ m s (aF cs (ct cs k).am) (ct cs k).ds).2.1],⟨dif s.cp (aZ m s (aF cs (ct cs k).am) (ct cs k).ds).2.1.cp,s.ds,(aZ m s (aF cs (ct cs k).am) (ct cs k).ds).2.2⟩)
 else ((aZ m s (aF cs (ct cs k).am) (ct cs k).ds).1,[],⟨s.cp,s.ds,(aZ m s (aF cs (ct cs k).am) (ct cs k).ds).2.2⟩)
def bi (m:Mc) (s:Sk) (cs:List Ct):Nat->Nat × List Gv × Sk
 | 0=>(0,[],s)
 | k+1=>
  if (bi m s cs k).1=0 then iN m cs k (bi m s cs k).2.1 (bi m s cs k).2.2 else bi m s cs k
def give (m:Mc) (s:Sk) (p:Pd):Nat × List Gv:=((bi m s p.cs p.cs.length).1,(bi m s p.cs p.cs.length).2.1)
def cE (m:ByteArray->Option Int) (k:ByteArray) (v:Option Int):ByteArray->Option Int:=λx=>if x=k then v else m x
def dT (ns:List Nd):ByteArray->Option Int:=ns.foldl (λm n=>cE m n.kind (some n.many)) λ_=>none
def cO (ds:List Dv) (m:ByteArray->Option Int) (j:Int):ByteArray->Option Int:=
 let k:=(dv ds j.toNat).kind
 let v:=(m k).getD 0 - 1
 cE m k (if v=0 then none else some v)
def gK (ds:List Dv) (l:List Int) (ns:List Nd):Prop:=∀ k,l.foldl (cO ds) (dT ns) k=none
open Classical in
noncomputable def cP (s:Sk) (g:Gv) (own:Int) (ns:List Nd):Option Sk:=
 if g.cp &&& s.cp=g.cp/\(cnt g.cp:Int)=own/\first (clF s.ds.length s.us g.dv) g.dv.length=0 then
  if gK s.ds g.dv ns then some ⟨dif s.cp g.cp,s.ds,bF s.us g.dv⟩ else none
 else none
noncomputable def gj (s:Sk) (h:Hd):Nat->Option Sk
 | 0=>some s
 | k+1=>(gj s h k).bind λs'=>cP s' (gv h.gs k) (aF h.pod.cs (ct h.pod.cs k).am) (ct h.pod.cs k).ds
noncomputable def cC (s:Sk) (hs:List Hd):Nat->Option Sk
 | 0=>some s
 | k+1=>(cC s hs k).bind λs'=>gj s' (hd hs k) (hd hs k).gs.length
noncomputable def left (m:Mc) (ds:List Dv) (hs:List Hd):Option Sk:=if Dvs.fault ds=0 then cC ⟨m.op,ds,λ_=>false⟩ hs hs.length else none
def bI (ps:List Pd):Int:=(ps.map λp=>aO p.cs p.cs.length).sum
def cQ (ps:List Pd):Int:=(ps.map λp=>aV p.cs p.cs.length).sum
def room (m:Mc) (ps:List Pd):Bool:=decide (bI ps<=1000*(cnt m.op:Int)) && decide (cQ ps<=m.nb)
end Ol
end
section
open Go.RowKit
open Qos (Nd Ct Pd nd ct pd)
open Sv (Gv Hd gv hd)
structure aG (W W':World):Prop where
 size:W.heap.size<=W'.heap.size
 cell:∀ (b o:Nat) (v:Value),W.cell? ⟨b,o,none⟩=some v->W'.cell? ⟨b,o,none⟩=some v
theorem aG.refl (W:World):aG W W:=⟨lR,λ_ _ _ h=>h⟩
theorem aG.trans {A B C:World} (h:aG A B) (k:aG B C):aG A C:=⟨Nat.le_trans h.size k.size,λb o v e=>k.cell b o v (h.cell b o v e)⟩
theorem aG.of_below {W W':World} (h:Below W.heap.size W W'):aG W W':=
 ⟨h.size,λb o _ e=>(h.cell (p:=⟨b,o,none⟩) (World.block_lt_of_cell? W ⟨b,o,none⟩ e)).trans e⟩
theorem bw.le {W W':World} {v:Value} {xs:List Int} (h:bw W v xs) (l:aG W W'):bw W' v xs:=by
 obtain ⟨ao,c,hv,hc,hr⟩:=h;refine ⟨ao,c,hv,hc,λh0=>?_⟩;obtain ⟨b,o,ha,hlt,hcs⟩:=hr h0;exact ⟨b,o,ha,Nat.lt_of_lt_of_le hlt l.size,λk hk=>l.cell _ _ _ (hcs k hk)⟩
theorem bh.le {W W':World} {v:Value} {ds:List Nd} (h:bh W v ds) (l:aG W W'):bh W' v ds:=by
 obtain ⟨ao,c,hv,hc,hr⟩:=h;refine ⟨ao,c,hv,hc,λh0=>?_⟩;obtain ⟨b,o,ha,hlt,hcs⟩:=hr h0;exact ⟨b,o,ha,Nat.lt_of_lt_of_le hlt l.size,λk hk=>⟨l.cell _ _ _ (hcs k hk).1,l.cell _ _ _ (hcs k hk).2⟩⟩
theorem aD.le {W W':World} {v:Value} {cs:List Ct} (h:aD W v cs) (l:aG W W'):aD W' v cs:=by
 obtain ⟨ao,c,hv,hc,hr⟩:=h;refine ⟨ao,c,hv,hc,λh0=>?_⟩;obtain ⟨b,o,dv,ha,hlt,hcs⟩:=hr h0;refine ⟨b,o,dv,ha,Nat.lt_of_lt_of_le hlt l.size,λk hk=>⟨λj hj=>?_,(hcs k hk).2.le l⟩⟩;have h6:j<(b7 (ct cs k) (dv k)).length:=hj;rw [List.getElem?_eq_getElem h6];exact l.cell _ _ _ (((hcs k hk).1 j hj).trans (List.getElem?_eq_getElem h6))
theorem bx.le {W W':World} {v:Value} {gs:List Gv} (h:bx W v gs) (l:aG W W'):bx W' v gs:=by
 obtain ⟨ao,c,hv,hc,hr⟩:=h;refine ⟨ao,c,hv,hc,λh0=>?_⟩;obtain ⟨b,o,dv,ha,hlt,hcs⟩:=hr h0;exact ⟨b,o,dv,ha,Nat.lt_of_lt_of_le hlt l.size,λk hk=>⟨⟨l.cell _ _ _ (hcs k hk).1.1,l.cell _ _ _ (hcs k hk).1.2.1,(hcs k hk).1.2.2⟩,(hcs k hk).2.le l⟩⟩
theorem aN.le {W W':World} {v:Value} {hs:List Hd} (h:aN W v hs) (l:aG W W'):aN W' v hs:=by
 obtain ⟨ao,c,hv,hc,hr⟩:=h;refine ⟨ao,c,hv,hc,λh0=>?_⟩;obtain ⟨b,o,cv,gvv,ha,hlt,hcs⟩:=hr h0;exact ⟨b,o,cv,gvv,ha,Nat.lt_of_lt_of_le hlt l.size,λk hk=>⟨⟨l.cell _ _ _ (hcs k hk).1.1,l.cell _ _ _ (hcs k hk).1.2.1,l.cell _ _ _ (hcs k hk).1.2.2.1,l.cell _ _ _ (hcs k hk).1.2.2.2⟩,(hcs k hk).2.1.le l,(hcs k hk).2.2.le l⟩⟩
open Classical in
noncomputable def ag (M:Nat->Prop) (W:World):World:={ W with heap:=W.heap.mapIdx λj o=>if M j then .cells #[] 0 (0,0) else o }
theorem bu (M:Nat->Prop) (W:World):(ag M W).heap.size=W.heap.size:=by simp [ag]
theorem Ds {M:Nat->Prop} {W:World} {j:Nat} (h:M j) (hl:j<W.heap.size):(ag M W).heap[j]?=some (.cells #[] 0 (0,0)):=by
 simp [ag,Array.getElem?_mapIdx,Array.getElem?_eq_getElem hl,h]
theorem bH {M:Nat->Prop} {W:World} {j:Nat} (h:¬ M j):(ag M W).heap[j]?=W.heap[j]?:=by
 simp only [ag,Array.getElem?_mapIdx];cases W.heap[j]? with
 | none=>rfl
 | some o=>simp [h]
theorem dU {M:Nat->Prop} {W:World} {b o:Nat} {v:Value} (h:(ag M W).cell? ⟨b,o,none⟩=some v):¬ M b:=λhm=>by
 have hl:=World.block_lt_of_cell? _ ⟨b,o,none⟩ h;have hl2:b<W.heap.size:=by rw [bu] at hl;exact hl
 simp [World.cell?,Ds hm hl2] at h
theorem kJ {M M':Nat->Prop} {W W':World} (h:Apart M W W') (hm:∀ j,j<W.heap.size->M' j->M j):aG (ag M W) (ag M' W'):=by
 refine ⟨by rw [bu,bu];exact h.size,λb o v e=>?_⟩;have hb:=dU e;have hl:b<W.heap.size:=by have:=World.block_lt_of_cell? _ ⟨b,o,none⟩ e;rw [bu] at this;exact this
 have e1:(ag M' W').heap[b]?=(ag M W).heap[b]?:=by
  rw [bH (λk=>hb (hm b hl k)),bH hb];exact h.block b hl hb
 exact (World.cell?_of_block (a:=⟨b,o,none⟩) e1).trans e
theorem ch (M:Nat->Prop) (W:World):aG (ag M W) W:=by
 refine ⟨by rw [bu];exact lR,λb o v e=>?_⟩;exact (World.cell?_of_block (a:=⟨b,o,none⟩) (bH (dU e)).symm).trans e
theorem kK {M:Nat->Prop} {N:Nat} {w W:World} (h:Below N w W) (hN:w.heap.size=N) (hM:∀ j,M j->N<=j):aG w (ag M W):=by
 refine ⟨by rw [bu];exact h.size,λb o v e=>?_⟩;have hl:b<N:=by rw [<- hN];exact World.block_lt_of_cell? w ⟨b,o,none⟩ e
 have e1:(ag M W).heap[b]?=w.heap[b]?:=by
  rw [bH (λk=>by have:=hM b k;omega)];exact h.block b hl
 exact (World.cell?_of_block (a:=⟨b,o,none⟩) e1).trans e
end
section
open Go.RowKit Go.Shelf
attribute [local go_sem] Oper.semAt_some
theorem sY (a:Option Addr) (n c:Nat) (w:World):Sem.run Tryz.prog (binOp .eql 61 (.slice a n c) (.slice none 0 0)) w=.ok (.bool a.isNone) w:=Lib.run_eql_slice_nil w _ _ a n c 0 0 Tryz.underlying61
theorem Dt (a:Addr) (n c:Nat) (cs:List Value) (w:World) (hlen:cs.length=n*2) (hc:∀ j u,cs[j]?=some u->w.cell? (a.add j)=some u) (h1:∀ u∈cs,u.oneCell'=true) (hl:n<=1000) :
  Calls Tryz.prog 80 #[.slice (some a) n c] w λe w'=>∃ v,e=.returned v/\w'.ownsRow w.heap.size 109 2 v n cs/\Below w.heap.size w w':=by
 obtain ⟨i0,hi,hz0,hz1,hz2⟩:=info_parts Db;have HB:=qI ((Below.refl w.heap.size w).alloc (lR) (.cells #[] 109));have HC:Hid (∀ j u,cs[j]?=some u->(w.alloc (.cells #[] 109)).cell? (a.add j)=some u):=λj u hj=>Lib.cell?_alloc_some _ (hc j u hj)
 have H1:=qI h1;have HLEN:=qI hlen;have hnil:=sY (some a) n c w;clear hc h1 hlen
 go_enter Tryz.func80,Tryz.ntmps80
 go_wp2_with (at_builtin;(refine wpList_append_own _ rfl _ _ 61 rfl w.heap.size 109 i0 (.agg #[.string ByteArray.empty,.int .i64 0]) 2 24 Tryz.underlying61 hi hz0 hz1 hz2 rfl (by decide) _ _ _ rfl (World.ownsRow_lit w #[] 0 (lR) (Nat.zero_le _) rfl) a n c cs rfl HLEN.out HC.out H1.out (by unfold maxLen;omega) (by omega) (by simp) ?_;intro v' w1 hown' hgrow' _))
 have hB1:=qI (HB.out.grown hgrow' (by simp) (λj hj=>by cases hj;exact lR));rw [Nat.zero_add] at hown';have HO:=qI (show w1.ownsRow w.heap.size 109 2 v' n cs by simpa using hown');clear hown' hgrow'
 go_wp2_with fail
 go_ret;exact ⟨_,rfl,HO.out,hB1.out⟩
theorem Du (n c:Nat) (w:World):Calls Tryz.prog 80 #[.slice none n c] w λe w'=>e=.returned (.slice none 0 0)/\w'=w:=by
 have hnil:=sY none n c w
 go_enter Tryz.func80,Tryz.ntmps80
 go_wp2_with fail
 go_ret;exact ⟨rfl,rfl⟩
theorem sZ (a:Option Addr) (n c:Nat) (w:World):Sem.run Tryz.prog (binOp .eql 45 (.slice a n c) (.slice none 0 0)) w=.ok (.bool a.isNone) w:=Lib.run_eql_slice_nil w _ _ a n c 0 0 Tryz.underlying45
theorem td (a:Addr) (n c:Nat) (cs:List Value) (w:World) (hlen:cs.length=n*6) (hc:∀ j u,cs[j]?=some u->w.cell? (a.add j)=some u) (h1:∀ u∈cs,u.oneCell'=true) (hl:n<=1000) :
  Calls Tryz.prog 79 #[.slice (some a) n c] w λe w'=>∃ v,e=.returned v/\w'.ownsRow w.heap.size 63 6 v n cs/\Below w.heap.size w w':=by
 obtain ⟨i0,hi,hz0,hz1,hz2⟩:=info_parts Dn;have HB:=qI ((Below.refl w.heap.size w).alloc (lR) (.cells #[] 63));have HC:Hid (∀ j u,cs[j]?=some u->(w.alloc (.cells #[] 63)).cell? (a.add j)=some u):=λj u hj=>Lib.cell?_alloc_some _ (hc j u hj)
 have H1:=qI h1;have HLEN:=qI hlen;have hnil:=sZ (some a) n c w;clear hc h1 hlen
 go_enter Tryz.func79,Tryz.ntmps79
 go_wp2_with (at_builtin;(refine wpList_append_own _ rfl _ _ 45 rfl w.heap.size 63 i0 (.agg #[.string ByteArray.empty,.int .i64 0,.int .i64 0,.int .i64 0,.int .i64 0,.slice none 0 0]) 6 72 Tryz.underlying45 hi hz0 hz1 hz2 rfl (by decide) _ _ _ rfl (World.ownsRow_lit w #[] 0 (lR) (Nat.zero_le _) rfl) a n c cs rfl HLEN.out HC.out H1.out (by unfold maxLen;omega) (by omega) (by simp) ?_;intro v' w1 hown' hgrow' _))
 have hB1:=qI (HB.out.grown hgrow' (by simp) (λj hj=>by cases hj;exact lR));rw [Nat.zero_add] at hown';have HO:=qI (show w1.ownsRow w.heap.size 63 6 v' n cs by simpa using hown');clear hown' hgrow'
 go_wp2_with fail
 go_ret;exact ⟨_,rfl,HO.out,hB1.out⟩
theorem Dw (n c:Nat) (w:World):Calls Tryz.prog 79 #[.slice none n c] w λe w'=>e=.returned (.slice none 0 0)/\w'=w:=by
 have hnil:=sZ none n c w
 go_enter Tryz.func79,Tryz.ntmps79
 go_wp2_with fail
 go_ret;exact ⟨rfl,rfl⟩
theorem th (a:Option Addr) (n c:Nat) (w:World):Sem.run Tryz.prog (binOp .eql 55 (.slice a n c) (.slice none 0 0)) w=.ok (.bool a.isNone) w:=Lib.run_eql_slice_nil w _ _ a n c 0 0 Tryz.underlying55
theorem ti (a:Addr) (n c:Nat) (cs:List Value) (w:World) (hlen:cs.length=n*2) (hc:∀ j u,cs[j]?=some u->w.cell? (a.add j)=some u) (h1:∀ u∈cs,u.oneCell'=true) (hl:n<=1000) :
  Calls Tryz.prog 81 #[.slice (some a) n c] w λe w'=>∃ v,e=.returned v/\w'.ownsRow w.heap.size 69 2 v n cs/\Below w.heap.size w w':=by
 obtain ⟨i0,hi,hz0,hz1,hz2⟩:=info_parts Do;have HB:=qI ((Below.refl w.heap.size w).alloc (lR) (.cells #[] 69));have HC:Hid (∀ j u,cs[j]?=some u->(w.alloc (.cells #[] 69)).cell? (a.add j)=some u):=λj u hj=>Lib.cell?_alloc_some _ (hc j u hj)
 have H1:=qI h1;have HLEN:=qI hlen;have hnil:=th (some a) n c w;clear hc h1 hlen
 go_enter Tryz.func81,Tryz.ntmps81
 go_wp2_with (at_builtin;(refine wpList_append_own _ rfl _ _ 55 rfl w.heap.size 69 i0 (.agg #[.int .u64 0,.slice none 0 0]) 2 32 Tryz.underlying55 hi hz0 hz1 hz2 rfl (by decide) _ _ _ rfl (World.ownsRow_lit w #[] 0 (lR) (Nat.zero_le _) rfl) a n c cs rfl HLEN.out HC.out H1.out (by unfold maxLen;omega) (by omega) (by simp) ?_;intro v' w1 hown' hgrow' _))
 have hB1:=qI (HB.out.grown hgrow' (by simp) (λj hj=>by cases hj;exact lR));rw [Nat.zero_add] at hown';have HO:=qI (show w1.ownsRow w.heap.size 69 2 v' n cs by simpa using hown');clear hown' hgrow'
 go_wp2_with fail
 go_ret;exact ⟨_,rfl,HO.out,hB1.out⟩
theorem Dx (n c:Nat) (w:World):Calls Tryz.prog 81 #[.slice none n c] w λe w'=>e=.returned (.slice none 0 0)/\w'=w:=by
 have hnil:=th none n c w
 go_enter Tryz.func81,Tryz.ntmps81
 go_wp2_with fail
 go_ret;exact ⟨rfl,rfl⟩
theorem tj (a:Option Addr) (n c:Nat) (w:World):Sem.run Tryz.prog (binOp .eql 53 (.slice a n c) (.slice none 0 0)) w=.ok (.bool a.isNone) w:=Lib.run_eql_slice_nil w _ _ a n c 0 0 Tryz.underlying53
theorem tl (a:Addr) (n c:Nat) (cs:List Value) (w:World) (hlen:cs.length=n*4) (hc:∀ j u,cs[j]?=some u->w.cell? (a.add j)=some u) (h1:∀ u∈cs,u.oneCell'=true) (hl:n<=1000) :
  Calls Tryz.prog 55 #[.slice (some a) n c] w λe w'=>∃ v,e=.returned v/\w'.ownsRow w.heap.size 57 4 v n cs/\Below w.heap.size w w':=by
 obtain ⟨i0,hi,hz0,hz1,hz2⟩:=info_parts Dp;have HB:=qI ((Below.refl w.heap.size w).alloc (lR) (.cells #[] 57));have HC:Hid (∀ j u,cs[j]?=some u->(w.alloc (.cells #[] 57)).cell? (a.add j)=some u):=λj u hj=>Lib.cell?_alloc_some _ (hc j u hj)
 have H1:=qI h1;have HLEN:=qI hlen;have hnil:=tj (some a) n c w;clear hc h1 hlen
 go_enter Tryz.func55,Tryz.ntmps55
 go_wp2_with (at_builtin;(refine wpList_append_own _ rfl _ _ 53 rfl w.heap.size 57 i0 (.agg #[.string ByteArray.empty,.int .i64 0,.slice none 0 0,.slice none 0 0]) 4 72 Tryz.underlying53 hi hz0 hz1 hz2 rfl (by decide) _ _ _ rfl (World.ownsRow_lit w #[] 0 (lR) (Nat.zero_le _) rfl) a n c cs rfl HLEN.out HC.out H1.out (by unfold maxLen;omega) (by omega) (by simp) ?_;intro v' w1 hown' hgrow' _))
 have hB1:=qI (HB.out.grown hgrow' (by simp) (λj hj=>by cases hj;exact lR));rw [Nat.zero_add] at hown';have HO:=qI (show w1.ownsRow w.heap.size 57 4 v' n cs by simpa using hown');clear hown' hgrow'
 go_wp2_with fail
 go_ret;exact ⟨_,rfl,HO.out,hB1.out⟩
theorem Dy (n c:Nat) (w:World):Calls Tryz.prog 55 #[.slice none n c] w λe w'=>e=.returned (.slice none 0 0)/\w'=w:=by
 have hnil:=tj none n c w
 go_enter Tryz.func55,Tryz.ntmps55
 go_wp2_with fail
 go_ret;exact ⟨rfl,rfl⟩
theorem tm (a:Option Addr) (n c:Nat) (w:World):Sem.run Tryz.prog (binOp .eql 44 (.slice a n c) (.slice none 0 0)) w=.ok (.bool a.isNone) w:=Lib.run_eql_slice_nil w _ _ a n c 0 0 Tryz.underlying44
theorem Dz (a:Addr) (n c:Nat) (cs:List Value) (w:World) (hlen:cs.length=n*1) (hc:∀ j u,cs[j]?=some u->w.cell? (a.add j)=some u) (h1:∀ u∈cs,u.oneCell'=true) (hl:n<=1000) :
  Calls Tryz.prog 82 #[.slice (some a) n c] w λe w'=>∃ v,e=.returned v/\w'.ownsRow w.heap.size 3 1 v n cs/\Below w.heap.size w w':=by
 obtain ⟨i0,hi,hz0,hz1,hz2⟩:=info_parts sW;have HB:=qI ((Below.refl w.heap.size w).alloc (lR) (.cells #[] 3));have HC:Hid (∀ j u,cs[j]?=some u->(w.alloc (.cells #[] 3)).cell? (a.add j)=some u):=λj u hj=>Lib.cell?_alloc_some _ (hc j u hj)
 have H1:=qI h1;have HLEN:=qI hlen;have hnil:=tm (some a) n c w;clear hc h1 hlen
 go_enter Tryz.func82,Tryz.ntmps82
 go_wp2_with (at_builtin;(refine wpList_append_own _ rfl _ _ 44 rfl w.heap.size 3 i0 (.int .i64 0) 1 8 Tryz.underlying44 hi hz0 hz1 hz2 rfl (by decide) _ _ _ rfl (World.ownsRow_lit w #[] 0 (lR) (Nat.zero_le _) rfl) a n c cs rfl HLEN.out HC.out H1.out (by unfold maxLen;omega) (by omega) (by simp) ?_;intro v' w1 hown' hgrow' _))
 have hB1:=qI (HB.out.grown hgrow' (by simp) (λj hj=>by cases hj;exact lR));rw [Nat.zero_add] at hown';have HO:=qI (show w1.ownsRow w.heap.size 3 1 v' n cs by simpa using hown');clear hown' hgrow'
 go_wp2_with fail
 go_ret;exact ⟨_,rfl,HO.out,hB1.out⟩
theorem DA (n c:Nat) (w:World):Calls Tryz.prog 82 #[.slice none n c] w λe w'=>e=.returned (.slice none 0 0)/\w'=w:=by
 have hnil:=tm none n c w
 go_enter Tryz.func82,Tryz.ntmps82
 go_wp2_with fail
 go_ret;exact ⟨rfl,rfl⟩
end
section
open Go.RowKit Go.Shelf
open Sv (Tx cN)
open S1 (Mx Tab)
attribute [local go_sem] Oper.semAt_some
end
section
open Go.RowKit Go.Shelf
open Qos (Nd Ct Pd nd ct pd)
open Sv (Gv Hd gv hd)
attribute [local go_sem] Oper.semAt_some
def du (x:Pd × Value):List Value:=[.string x.1.nm,.int .i64 x.1.pr,x.2]
def rowP (l:List (Pd × Value)):List Value:=l.flatMap du
theorem mj (l:List (Pd × Value)) (p:Pd × Value):rowP (l++[p])=rowP l++du p:=by simp [rowP]
def tn (W:World) (base:Nat) (v:Value) (ps:List Pd):Prop:=∃ l:List (Pd × Value),l.map Prod.fst=ps/\W.ownsRow base 47 3 v l.length (rowP l)/\∀ x∈l,aD W x.2 x.1.cs
theorem oU:(Tryz.prog.info? 47).map (λi=>(i.zero,i.size,i.bytes))=some (some (.agg #[.string ByteArray.empty,.int .i64 0,.slice none 0 0]),3,48):=by kernel_rfl
theorem ml (w:World) (nm:ByteArray) (pr:Int) (cv:Value) (t:TypeId):∀ j u,(du (⟨nm,pr,[]⟩,cv))[j]?=some u->(w.alloc (.cells #[.string nm,.int .i64 pr,cv] t)).cell? ((⟨w.heap.size,0,none⟩:Addr).add j)=some u:=by
 intro j u hu;rw [Addr.add_lit,Nat.zero_add]
 match j,hu with
 | 0,hu=>simp [du] at hu;subst hu;simp
 | 1,hu=>simp [du] at hu;subst hu;simp
 | 2,hu=>simp [du] at hu;subst hu;simp
 | j+3,hu=>simp [du] at hu
theorem mn (nm:ByteArray) (pr:Int) (a:Option Addr) (n c:Nat):∀ u∈du (⟨nm,pr,[]⟩,.slice a n c),u.oneCell'=true:=by
 intro u hu
 simp [du] at hu
 rcases hu with rfl|rfl|rfl <;> rfl
theorem tr (v:Value) (hs:List Hd) (w:World) (h:aN w v hs) (hl:hs.length<=100):Calls Tryz.prog 51 #[v] w λe w'=>∃ v',e=.returned v'/\tn w' w.heap.size v' (hs.map Hd.pod)/\Below w.heap.size w w':=by
 obtain ⟨i0,hi,hz0,hz1,hz2⟩:=info_parts oU;obtain ⟨ao,c,rfl,hm,hr⟩:=h;unfold maxLen at hm;have HR:=qI hr;clear hr
 go_enter Tryz.func51,Tryz.ntmps51
 go_wp2_with fail
 go_loopw [3,8] (λpv i wr=>∃ (k:Nat) (l:List (Pd × Value)),k<=hs.length/\i=.int .i64 k/\l.length=k/\l.map Prod.fst=(hs.take k).map Hd.pod/\wr.ownsRow w.heap.size 47 3 pv l.length (rowP l)/\(∀ x∈l,aD w x.2 x.1.cs)/\Below w.heap.size w wr) (λ_ i _=>hs.length - (intOf i).toNat)
 case atStart=>exact ⟨0,[],by omega,rfl,rfl,rfl,World.ownsRow_nil _ _ _ _,λx hx=>(List.not_mem_nil hx).elim,Below.refl _ _⟩
 case round=>
  obtain ⟨k,l,hk,rfl,hlk,hmap,hrow,hcs,hb⟩:=hrel;have HLK:=qI hlk;have HMAP:=qI hmap;have HCS:=qI hcs;have HB:=qI hb;have hln:l.length<=100:=by omega
  have hsz:=hb.size;clear hlk hmap hcs
  by_cases hlt:k<hs.length
  ·obtain ⟨b,o,cv,gvv,rfl,hin⟩:=HR.out (by omega);obtain ⟨x0,x1,x2,x3⟩:=((hin.below hb).2 k hlt).1;have hcon:=(hin.2 k hlt).2.1;have HTK:Hid ((hs.take (k+1)).map Hd.pod=(hs.take k).map Hd.pod++[(hd hs k).pod]):=by
    unfold Hid;rw [List.take_succ_eq_append_getElem hlt,List.map_append];simp [hd,hlt]
   have HCON:=qI hcon;obtain ⟨ca,cc,hcv,_,_⟩:=id hcon;rw [hcv] at x2 HCON;obtain ⟨ga,gc,hgv,_,_⟩:=id (hin.2 k hlt).2.2;rw [hgv] at x3;clear hin hcon hb hcv hgv;generalize hd hs k=x at *;obtain ⟨⟨xn,xp,xc⟩,xg⟩:=x;dsimp only at x0 x1 x2 x3 HCON HTK;obtain ⟨va,vc,hv⟩:=gJ hrow;subst hv;have hA:=(Below.refl wr.heap.size wr).alloc (lR) (.cells #[.string xn,.int .i64 xp,.slice ca xc.length cc,.slice ga xg.length gc] 57);have hrow2:=hrow.alloc (.cells #[.string xn,.int .i64 xp,.slice ca xc.length cc,.slice ga xg.length gc] 57);have HBA:=qI (HB.out.trans (hA.mono HB.out.size));have hsA:w.heap.size<=(wr.alloc (.cells #[.string xn,.int .i64 xp,.slice ca xc.length cc,.slice ga xg.length gc] 57)).heap.size:=by simp;omega
   have hnew:=ml (wr.alloc (.cells #[.string xn,.int .i64 xp,.slice ca xc.length cc,.slice ga xg.length gc] 57)) xn xp (.slice ca xc.length cc) 47;rw [show (wr.alloc (.cells #[.string xn,.int .i64 xp,.slice ca xc.length cc,.slice ga xg.length gc] 57)).heap.size=wr.heap.size+1 by simp] at hnew;have HNW:=qI hnew;have hbs:w.heap.size<=((wr.alloc (.cells #[.string xn,.int .i64 xp,.slice ca xc.length cc,.slice ga xg.length gc] 57)).alloc (.cells #[.string xn,.int .i64 xp,.slice ca xc.length cc] 47)).heap.size:=by simp;omega
   clear hA hnew hrow
   go_wp2_with (at_builtin;refine wpList_append_own _ rfl _ _ 70 rfl w.heap.size 47 i0 _ 3 48 Tryz.underlying70 hi hz0 hz1 hz2 rfl (by decide) _ _ _ rfl (hrow2.alloc _) ⟨_,0,none⟩ 1 1 (du (⟨xn,xp,[]⟩,.slice ca xc.length cc)) rfl rfl HNW.out (mn xn xp ca xc.length cc) (by unfold maxLen;omega) (by omega) hbs ?_;intro v' W2 hown' hgrow' _)
   go_roundw
   case rel=>
    refine ⟨k+1,l++[(⟨xn,xp,xc⟩,.slice ca xc.length cc)],by omega,by go_num,by rw [List.length_append,HLK.out];rfl,by rw [List.map_append,HMAP.out,HTK.out];rfl,?_,λy hy=>?_,?_⟩
    ·rw [mj,List.length_append];exact hown'
    ·rcases List.mem_append.1 hy with hy|hy
     ·exact HCS.out y hy
     ·rw [List.mem_singleton.1 hy];exact HCON.out
    ·exact (HBA.out.alloc hsA _).grown hgrow' (by simp;omega) (λj hj=>(hrow2.lt j hj).1)
   case measure=>simp [intOf];omega
  ·have hke:k=hs.length:=by omega
   have HE:Hid (l.map Prod.fst=hs.map Hd.pod):=by unfold Hid;rw [HMAP.out,hke,List.take_length]
   clear hke
   go_wp2_with fail
   go_ret;exact ⟨_,rfl,⟨l,HE.out,hrow,λx hx=>(HCS.out x hx).below HB.out⟩,HB.out⟩
end
section
open Go.RowKit Go.Shelf Go.Lib
attribute [local go_sem] Oper.semAt_some
theorem DB:(Tryz.prog.info? 57).map (λi=>(i.zero,i.size,i.bytes))=some (some (.agg #[.string ByteArray.empty,.int .i64 0,.slice none 0 0,.slice none 0 0]),4,72):=by kernel_rfl
theorem DC:(Tryz.prog.info? 57).map (·.size)=some 4:=by kernel_rfl
theorem mo (w:World) (ty:TypeId) (b o dLen dCap:Nat) (a:Addr) (sLen sCap:Nat) (cs:List Value) (hn:cs.length=Nat.min sLen dLen*4)
  (hsrc:∀ j v,cs[j]?=some v->w.cell? (a.add j)=some v) (hc:∀ j,j<cs.length->(w.cell? ⟨b,o+j,none⟩).isSome=true) (hf:∀ j,j<cs.length->w.frozen? ⟨b,o+j,none⟩=false) (h1:∀ v∈cs,v.oneCell'=true) :
  (Builtin.copy_ #[53,53] ty #[.slice (some ⟨b,o,none⟩) dLen dCap,.slice (some a) sLen sCap]).run Tryz.prog w=.ok (goInt (Nat.min sLen dLen)) (w.setCells b o cs):=by
 have hl:=run_loadCells_list (P:=Tryz.prog) w a cs hsrc;have hst:=run_storeCells_cells (P:=Tryz.prog) b o cs 0 w (by simpa using hc) (by simpa using hf) h1;have hs:=DC;cases hq:Tryz.prog.info? 57 with
 | none=>rw [hq] at hs;cases hs
 | some i=>
  have hi:i.size=4:=by rw [hq] at hs;simpa using hs
  rw [hn] at hl
  simp [Builtin.copy_,run_underlying Tryz.underlying53,Builtin.lenOf,Builtin.firstCells,sizeOf,typeInfo,hq,hi,hl,hst]
theorem DD (b n c i vb voff vc:Nat) (cs vs:List Value) (w:World) (hi:i<n) (hroom:n+1<=c) (hc63:c<=9223372036854775807) (hvb:vb≠b)
  (hcl:cs.length=n*4) (hvl:vs.length=4)
  (hcs:∀ j v,cs[j]?=some v->w.cell? ⟨b,j,none⟩=some v) (hsp:∀ j,j<(n+1)*4->(w.cell? ⟨b,j,none⟩).isSome=true) (hfz:∀ j,w.frozen? ⟨b,j,none⟩=false)
  (hvs:∀ j v,vs[j]?=some v->w.cell? ⟨vb,voff+j,none⟩=some v) (h1c:∀ v∈cs,v.oneCell'=true) (h1v:∀ v∈vs,v.oneCell'=true)
  (tA tB:TypeId) (kA kB:Nat) (hsa:w.shape? vb=some (tA,kA)) (hsb:w.shape? b=some (tB,kB)) (hkB:kB≠0) (hfa:w.frozen? ⟨vb,voff,none⟩=false) (hfe:w.frozen? ⟨vb,kA,none⟩=false) :
  Calls Tryz.prog 54 #[.slice (some ⟨b,0,none⟩) n c,.int .i64 i,.slice (some ⟨vb,voff,none⟩) 1 vc] w λe w'=>
   e=.returned (.slice (some ⟨b,0,none⟩) (n+1) c)/\w'=(w.drew.setCells b ((i+1)*4) (cs.drop (i*4))).setCells b (i*4) vs:=by
 have hz2:¬ ((i:Int)=(n:Int)):=by omega
 have hov:∀ lb cb,(callFunc 95 #[.slice (some ⟨vb,voff,none⟩) 1 vc,.slice (some ⟨b,(i+1)*4,none⟩) lb cb]).run Tryz.prog w=.ok (.value (.bool false)) w:=λlb cb=>by
  rw [run_callFunc_extern Tryz.func95 (by kernel_rfl) (by kernel_rfl) (by kernel_rfl) (e:=Extern.SlicesOverlaps.overlaps #[53,53] #[4]) (by kernel_rfl),
   Lib.run_overlaps_apart w 53 4 57 Tryz.underlying53 4 Tryz.sizeOf57 ⟨vb,voff,none⟩ ⟨b,(i+1)*4,none⟩ 1 vc lb cb hvb tA tB kA kB hsa hsb hkB hfa hfe]
  rfl
 have hdl:(cs.drop (i*4)).length=(n - i)*4:=by rw [List.length_drop,hcl];omega
 have hcp1:∀ ty dc sc,(Builtin.copy_ #[53,53] ty #[.slice (some ⟨b,(i+1)*4,none⟩) (n - i) dc,.slice (some ⟨b,i*4,none⟩) (n+1 - i) sc]).run Tryz.prog w.drew=.ok (goInt (Nat.min (n+1 - i) (n - i))) (w.drew.setCells b ((i+1)*4) (cs.drop (i*4))):=λty dc sc=>
  mo w.drew ty b ((i+1)*4) (n - i) dc ⟨b,i*4,none⟩ (n+1 - i) sc (cs.drop (i*4)) (by rw [hdl];simp only [Nat.min_def];split <;> omega)
   (λj v hj=>by rw [Addr.add_lit];exact hcs (i*4+j) v (by rwa [List.getElem?_drop] at hj))
   (λj hj=>hsp _ (by omega)) (λj hj=>hfz _) (λv hv=>h1c v (List.mem_of_mem_drop hv))
 obtain ⟨W1,hW1⟩:∃ W1,W1=w.drew.setCells b ((i+1)*4) (cs.drop (i*4)):=⟨_,rfl⟩;have hsp1:∀ k,k<(n+1)*4->(W1.cell? ⟨b,k,none⟩).isSome=true:=λk hk=>by
  rw [hW1];exact isSome_setCells b (cs.drop (i*4)) ((i+1)*4) w.drew (λj hj=>hsp _ (by rw [hdl] at hj;omega)) k (hsp k hk)
 have hcp2:∀ (W:World),(∀ x,W.cell? x=W1.cell? x)->(∀ x,W.frozen? x=W1.frozen? x)->∀ ty dc,(Builtin.copy_ #[53,53] ty #[.slice (some ⟨b,i*4,none⟩) (n+1 - i) dc,.slice (some ⟨vb,voff,none⟩) 1 vc]).run Tryz.prog W=.ok (goInt (Nat.min 1 (n+1 - i))) (W.setCells b (i*4) vs):=λW hWc hWf ty dc=>
  mo W ty b (i*4) (n+1 - i) dc ⟨vb,voff,none⟩ 1 vc vs (by rw [hvl];simp only [Nat.min_def];split <;> omega)
   (λj v hj=>by
    rw [Addr.add_lit,hWc,hW1,World.cell?_setCells_out b _ _ _ _ (λh _=>absurd h hvb)];exact hvs j v hj)
   (λj hj=>by rw [hWc];exact hsp1 _ (by omega)) (λj hj=>by rw [hWf,hW1,World.frozen?_setCells];exact hfz _) h1v
 rw [<- hW1] at hcp1;have hin:i<=n:=by omega
 have htn:((i:Int)+1).toNat=i+1:=by omega
 have hb2:¬ (c=i+1):=by omega
 have hb3:(i:Int)<=(n:Int)+1:=by omega
 have hb4:¬ (c=i):=by omega
 have mixed:Tryz.prog.follows .mixedOrders=true:=by kernel_rfl
 have hw1:IntKind.i64.wrap ((i:Int)+1)=(i:Int)+1:=by rw [IntKind.wrap_i64];omega
 have hb1:(0:Int)<=(i:Int)+1:=by omega
 have hb5:(i:Int)+1<=(n:Int)+1:=by omega
 clear hcs hsp hvs hsp1 hdl hcl
 go_enter Tryz.func54,Tryz.ntmps54
 go_wp2_with (simp only [hov])
 go_region_law_o (refine step_copy_runI rfl _ _ 53 53 rfl _ _ (by simp [Act.eval,Act.put]) (by simp [Act.eval,Act.put]) (hcp1 _ _ _) ?_)
 go_wp2_with (at_builtin;refine wpList_copy_runI _ rfl _ _ 53 53 rfl _ _ rfl rfl (hcp2 _ (λ_=>rfl) (λ_=>rfl) _ _) ?_)
 go_ret
 first|exact ⟨rfl,rfl⟩|exact ⟨rfl,by rw [hW1]⟩
end
section
namespace Ol
open Ost (Cpu af cnt dif)
open Dvs (Dv dv clF bF first nth cV i8)
open Qos (Nd Ct Pd ct aF)
open Sv (Gv Hd gv hd)
structure Cl where
 g:Gv
 own:Int
 ns:List Nd
def kL (ds:List Dv) (x:Cl):Prop:=(cnt x.g.cp:Int)=x.own/\gK ds x.g.dv x.ns/\(∀ k,k<x.g.dv.length->0<=nth x.g.dv k/\nth x.g.dv k<ds.length/\nth x.g.dv k ∉ x.g.dv.take k)
def kM (s:Sk) (x:Cl):Prop:=x.g.cp &&& s.cp=x.g.cp/\∀ k,k<x.g.dv.length->s.us (nth x.g.dv k).toNat=false
def ex (s:Sk) (x:Cl):Sk:=⟨dif s.cp x.g.cp,s.ds,bF s.us x.g.dv⟩
theorem oV {n:Nat} {us:Nat->Bool} {l:List Int} {k:Nat}:clF n us l k=0↔(0<=nth l k/\nth l k<n/\nth l k ∉ l.take k)/\us (nth l k).toNat=false:=by
 unfold clF
 by_cases h1:nth l k<0\/(n:Int)<=nth l k
 ·rw [if_pos h1];constructor
  ·intro h;cases h
  ·rintro ⟨⟨a,b,_⟩,_⟩;omega
 ·rw [if_neg h1]
  by_cases h2:(us (nth l k).toNat || decide (nth l k∈l.take k))=true
  ·rw [if_pos h2];constructor
   ·intro h;cases h
   ·rintro ⟨⟨_,_,c⟩,d⟩;rw [d,Bool.false_or,decide_eq_true_eq] at h2;exact absurd h2 c
  ·rw [if_neg h2];rw [Bool.not_eq_true,Bool.or_eq_false_iff,decide_eq_false_iff_not] at h2;exact ⟨λ_=>⟨⟨by omega,by omega,h2.2⟩,h2.1⟩,λ_=>rfl⟩
theorem gL {s s':Sk} {x:Cl}:cP s x.g x.own x.ns=some s'↔kL s.ds x/\kM s x/\s'=ex s x:=by
 unfold cP
 by_cases h:x.g.cp &&& s.cp=x.g.cp/\(cnt x.g.cp:Int)=x.own/\first (clF s.ds.length s.us x.g.dv) x.g.dv.length=0
 ·rw [if_pos h];obtain ⟨h1,h2,h3⟩:=h;have h4:=cV h3
  by_cases hj:gK s.ds x.g.dv x.ns
  ·rw [if_pos hj];constructor
   ·intro e;injection e with e
    exact ⟨⟨h2,hj,λk hk=>(oV.1 (h4 k hk)).1⟩,⟨h1,λk hk=>(oV.1 (h4 k hk)).2⟩,e.symm⟩
   ·rintro ⟨_,_,rfl⟩;rfl
  ·rw [if_neg hj];exact ⟨λe=>(by cases e),λe=>absurd e.1.2.1 hj⟩
 ·rw [if_neg h];constructor
  ·intro e;cases e
  ·rintro ⟨⟨a,b,c⟩,⟨d,e⟩,_⟩;exact absurd ⟨d,a,i8 λk hk=>oV.2 ⟨c k hk,e k hk⟩⟩ h
theorem DE {l:List Int} {k:Nat} (h:k<l.length):nth l k∈l:=by simp [nth,h]
theorem DF {l:List Int} {x:Int} (h:x∈l):∃ k,k<l.length/\nth l k=x:=by
 obtain ⟨k,hk,e⟩:=List.getElem_of_mem h;exact ⟨k,hk,by simp [nth,hk,e]⟩
theorem tt {us:Nat->Bool} {l:List Int} {j:Nat}:bF us l j=false↔us j=false/\(j:Int) ∉ l:=by
 unfold bF;simp
theorem DG {s:Sk} {x y:Cl} (hx:kL s.ds x) (hy:kL s.ds y) (h1:kM s x) (h2:kM (ex s x) y):kM s y/\kM (ex s y) x:=by
 have hb:∀ i,y.g.cp.testBit i=true->s.cp.testBit i=true/\x.g.cp.testBit i=false:=λi hi=>by
  have e:=congrArg (λn=>Nat.testBit n i) h2.1;simp only [ex,Nat.testBit_and,Ost.eP,hi,Bool.true_and] at e;cases hs:s.cp.testBit i <;> cases hx:x.g.cp.testBit i <;> simp_all
 have hxb:∀ i,x.g.cp.testBit i=true->s.cp.testBit i=true:=λi hi=>by
  have e:=congrArg (λn=>Nat.testBit n i) h1.1
  simpa [Nat.testBit_and,hi] using e
 have hd:∀ k,k<y.g.dv.length->s.us (nth y.g.dv k).toNat=false/\nth y.g.dv k ∉ x.g.dv:=λk hk=>by
  have e:=tt.1 (h2.2 k hk);have h0:=(hy.2.2 k hk).1;rw [Int.toNat_of_nonneg h0] at e;exact e
 refine ⟨⟨?_,λk hk=>(hd k hk).1⟩,?_,λk hk=>?_⟩
 ·apply Nat.eq_of_testBit_eq;intro i;rw [Nat.testBit_and];cases hi:y.g.cp.testBit i with
  | false=>rfl
  | true=>rw [(hb i hi).1];rfl
 ·apply Nat.eq_of_testBit_eq;intro i;simp only [ex,Nat.testBit_and,Ost.eP];cases hi:x.g.cp.testBit i with
  | false=>rfl
  | true=>
   rw [hxb i hi];cases hj:y.g.cp.testBit i with
   | false=>rfl
   | true=>rw [(hb i hj).2] at hi;cases hi
 ·refine tt.2 ⟨h1.2 k hk,λhm=>?_⟩;have h0:=(hx.2.2 k hk).1;rw [Int.toNat_of_nonneg h0] at hm;obtain ⟨j,hj,e⟩:=DF hm;exact (hd j hj).2 (by rw [e];exact DE hk)
theorem DH (s:Sk) (x y:Cl):ex (ex s x) y=ex (ex s y) x:=by
 unfold ex
 congr 1
 ·apply Nat.eq_of_testBit_eq;intro i;simp only [Ost.eP];cases s.cp.testBit i <;> cases x.g.cp.testBit i <;> cases y.g.cp.testBit i <;> rfl
 ·funext j
  unfold bF;rw [Bool.or_assoc,Bool.or_assoc,Bool.or_comm (decide _) (decide _)]
noncomputable def bN (s:Sk):List Cl->Option Sk
 | []=>some s
 | x :: r=>(cP s x.g x.own x.ns).bind λs'=>bN s' r
theorem kN (a b:List Cl):∀ s,bN s (a++b)=(bN s a).bind λs'=>bN s' b:=by
 induction a with
 | nil=>intro s;rfl
 | cons x r ih=>
  intro s;rw [List.cons_append,bN,bN,Option.bind_assoc]
  congr 1
  funext s'
  exact ih s'
theorem mr {s s':Sk} {x:Cl} (h:cP s x.g x.own x.ns=some s'):s'.ds=s.ds:=by
 rw [(gL.1 h).2.2];rfl
theorem DI {a b:List Cl} (h:a.Perm b):∀ {s s':Sk},bN s a=some s'->bN s b=some s':=by
 induction h with
 | nil=>intro s s' e;exact e
 | cons x _ ih=>
  intro s s' e;rw [bN] at e ⊢;obtain ⟨s1,h1,h2⟩:=Option.bind_eq_some_iff.1 e;rw [h1,Option.bind_some];exact ih h2
 | swap x y l=>
  intro s s' e;rw [bN] at e;obtain ⟨s1,h1,h2⟩:=Option.bind_eq_some_iff.1 e;rw [bN] at h2;obtain ⟨s2,h3,h4⟩:=Option.bind_eq_some_iff.1 h2;obtain ⟨a1,a2,rfl⟩:=gL.1 h1;obtain ⟨b1,b2,rfl⟩:=gL.1 h3;obtain ⟨c1,c2⟩:=DG a1 b1 a2 b2;have d1:cP s x.g x.own x.ns=some (ex s x):=gL.2 ⟨b1,c1,rfl⟩;have d2:cP (ex s x) y.g y.own y.ns=some (ex (ex s x) y):=gL.2 ⟨a1,c2,rfl⟩;rw [bN,d1,Option.bind_some,bN,d2,Option.bind_some,DH];exact h4
 | trans _ _ ih1 ih2=>intro s s' e;exact ih2 (ih1 e)
def gk (h:Hd):List Cl:=(List.range h.gs.length).map λk=>⟨gv h.gs k,aF h.pod.cs (ct h.pod.cs k).am,(ct h.pod.cs k).ds⟩
def fp (hs:List Hd):List Cl:=hs.flatMap gk
theorem DJ (h:Hd) (s:Sk):∀ k,gj s h k=bN s ((List.range k).map λk=>⟨gv h.gs k,aF h.pod.cs (ct h.pod.cs k).am,(ct h.pod.cs k).ds⟩):=by
 intro k
 induction k with
 | zero=>rfl
 | succ k ih=>
  rw [gj,ih,List.range_succ,List.map_append,kN]
  congr 1
  funext s'
  rw [List.map_singleton,bN];cases cP s' (gv h.gs k) (aF h.pod.cs (ct h.pod.cs k).am) (ct h.pod.cs k).ds <;> rfl
theorem jR (hs:List Hd) (s:Sk):∀ k,k<=hs.length->cC s hs k=bN s (fp (hs.take k)):=by
 intro k
 induction k with
 | zero=>intro _;rfl
 | succ k ih=>
  intro hk;have hk':k<hs.length:=hk;rw [cC,ih (by omega),List.take_succ_eq_append_getElem hk']
  show _=bN s ((hs.take k++[hs[k]]).flatMap gk)
  rw [List.flatMap_append,kN]
  show (bN s (fp (hs.take k))).bind _=(bN s (fp (hs.take k))).bind _
  congr 1
  funext s'
  rw [DJ];have e:hd hs k=hs[k]:=by simp [hd,hk']
  rw [e]
  simp [gk]
theorem tu {m:Mc} {ds:List Dv} {hs hs':List Hd} {s:Sk} (hp:hs.Perm hs') (h:left m ds hs=some s):left m ds hs'=some s:=by
 unfold left at h ⊢
 split at h
 ·rename_i h0
  rw [if_pos h0];rw [jR _ _ _ (lR),List.take_length] at h ⊢;exact DI (hp.flatMap_right gk) h
 ·cases h
theorem DK {m:Mc} {ds:List Dv} {hs:List Hd} {x:Hd} {s s':Sk} (h:left m ds hs=some s) (h2:bN s (gk x)=some s'):left m ds (hs++[x])=some s':=by
 unfold left at h ⊢
 split at h
 ·rename_i h0
  rw [if_pos h0];rw [jR _ _ _ (lR),List.take_length] at h ⊢;rw [fp,List.flatMap_append,kN];have h':bN ⟨m.op,ds,λ_=>false⟩ (hs.flatMap gk)=some s:=h;rw [h',Option.bind_some]
  simpa using h2
 ·cases h
end Ol
end
section
open Go.RowKit Go.Shelf
open Qos (Nd Ct Pd nd ct pd)
open Sv (Gv Hd gv hd)
structure cY (W:World) (N g sz n:Nat) (f:Nat->List Value):Prop where
 base:N<=g
 lt:g<W.heap.size
 cell:∀ k,k<n->∀ j,j<sz->W.cell? ⟨g,k*sz+j,none⟩=(f k)[j]?
 free:∀ j,W.frozen? ⟨g,j,none⟩=false
theorem ii {f:Nat->List Value} {sz:Nat} (hf:∀ k,(f k).length=sz) (n:Nat):((List.range n).flatMap f).length=n*sz:=by
 induction n with
 | zero=>simp
 | succ n ih=>rw [List.range_succ,List.flatMap_append,List.length_append,ih];simp [hf,Nat.succ_mul]
theorem kO {f:Nat->List Value} {sz:Nat} (hf:∀ k,(f k).length=sz) (n k j:Nat) (hk:k<n) (hj:j<sz):((List.range n).flatMap f)[k*sz+j]?=(f k)[j]?:=by
 induction n with
 | zero=>omega
 | succ n ih=>
  rw [List.range_succ,List.flatMap_append]
  by_cases h:k<n
  ·rw [List.getElem?_append_left]
   ·exact ih h
   ·rw [ii hf]
    have:(k+1)*sz<=n*sz:=Nat.mul_le_mul_right _ h
    rw [Nat.succ_mul] at this;omega
  ·have:k=n:=by omega
   subst this;rw [List.getElem?_append_right (by rw [ii hf];omega),ii hf]
   simp
theorem kP {f:Nat->List Value} {sz:Nat} (h0:0<sz) (hf:∀ k,(f k).length=sz) {w:World} {b o n:Nat} (h:∀ k,k<n->∀ j,j<sz->w.cell? ⟨b,o+k*sz+j,none⟩=(f k)[j]?):∀ j u,((List.range n).flatMap f)[j]?=some u->w.cell? ((⟨b,o,none⟩:Addr).add j)=some u:=by
 intro j u hu;have hl:j<n*sz:=by
  have:=(List.getElem?_eq_some_iff.1 hu).1
  rw [ii hf] at this;exact this
 have hk:j / sz<n:=Nat.div_lt_of_lt_mul (by rw [Nat.mul_comm];exact hl);have hj:j % sz<sz:=Nat.mod_lt _ h0;have e:j / sz*sz+j % sz=j:=by rw [Nat.mul_comm];exact Nat.div_add_mod j sz
 rw [<- e,kO hf n _ _ hk hj] at hu;rw [Addr.add_lit,<- e,<- Nat.add_assoc,h _ hk _ hj];exact hu
theorem kQ {f:Nat->List Value} {n:Nat} (h:∀ k,k<n->∀ u∈f k,u.oneCell'=true):∀ u∈(List.range n).flatMap f,u.oneCell'=true:=by
 intro u hu;obtain ⟨k,hk,hu⟩:=List.mem_flatMap.1 hu;exact h k (List.mem_range.1 hk) u hu
theorem jS {W:World} {base:Nat} {e:TypeId} {sz:Nat} {v:Value} {n:Nat} {xs:List Value} {f:Nat->List Value} (h:W.ownsRow base e sz v n xs) (hf:∀ k,k<n->∀ j,j<sz->xs[k*sz+j]?=(f k)[j]?) :
  ∃ ao cap,v=.slice ao n cap/\(n<=cap/\cap<=maxLen)/\(0<n->∃ g,ao=some ⟨g,0,none⟩/\cY W base g sz n f):=by
 rcases h.2 with ⟨rfl,rfl⟩|⟨g,cap,cur,rfl,hb,hg,hc1,hc2,hcs,ht⟩
 ·exact ⟨none,0,rfl,⟨lR,Nat.zero_le _⟩,λh=>by omega⟩
 ·refine ⟨_,cap,rfl,⟨hc1,hc2⟩,λ_=>⟨g,rfl,hb,(gS hg).1,λk hk j hj=>?_,λj=>by simp [World.frozen?,hg]⟩⟩;rw [<- hf k hk j hj,<- ht,List.getElem?_take];have hl:k*sz+j<n*sz:=by
   have:(k+1)*sz<=n*sz:=Nat.mul_le_mul_right _ hk
   rw [Nat.succ_mul] at this;omega
  rw [if_pos hl]
  simp [World.cell?,hg]
theorem cY.keep {W W':World} {N g sz n:Nat} {f:Nat->List Value} (h:cY W N g sz n f) (hb:W'.heap[g]?=W.heap[g]?) (hs:W.heap.size<=W'.heap.size):cY W' N g sz n f:=
 ⟨h.base,Nat.lt_of_lt_of_le h.lt hs,λk hk j hj=>(World.cell?_of_block (a:=⟨g,k*sz+j,none⟩) hb).trans (h.cell k hk j hj),λj=>by
  have:=h.free j
  simp only [World.frozen?] at this ⊢;rw [hb];exact this⟩
theorem cY.below {W W':World} {N g sz n:Nat} {f:Nat->List Value} (h:cY W N g sz n f) (hb:Below W.heap.size W W'):cY W' N g sz n f:=h.keep (hb.block g h.lt) hb.size
theorem cY.set {W:World} {N g sz n:Nat} {f:Nat->List Value} (h:cY W N g sz n f) (k j:Nat) (hk:k<n) (hj:j<sz) (v:Value) (f':Nat->List Value) (h1:∀ i,i<n->i≠k->f' i=f i) (h2:∀ i,i<sz->(f' k)[i]?=if i=j then some v else (f k)[i]?) (hfk:(f k).length=sz):cY (W.setCell ⟨g,k*sz+j,none⟩ v) N g sz n f':=by
 have hin:W.cell? ⟨g,k*sz+j,none⟩≠none:=by
  rw [h.cell k hk j hj,List.getElem?_eq_getElem (by omega)];simp
 have hsz:(W.setCell ⟨g,k*sz+j,none⟩ v).heap.size=W.heap.size:=by simp
 refine ⟨h.base,by rw [hsz];exact h.lt,λi hi q hq=>?_,λq=>by rw [World.frozen?_setCell];exact h.free q⟩
 by_cases hik:i=k
 ·subst hik;rw [h2 q hq]
  by_cases hqj:q=j
  ·subst hqj;rw [if_pos rfl];obtain ⟨u,hu⟩:∃ u,W.cell? ⟨g,i*sz+q,none⟩=some u:=Option.ne_none_iff_exists'.1 hin;exact World.cell?_setCell_same _ _ _ hu
  ·rw [if_neg hqj,<- h.cell i hi q hq];exact World.cell?_setCell_other _ _ _ _ (by simp only [ne_eq,Addr.mk.injEq,true_and,and_true];omega)
 ·rw [h1 i hi hik,<- h.cell i hi q hq];refine World.cell?_setCell_other _ _ _ _ ?_;simp only [ne_eq,Addr.mk.injEq,true_and,and_true];have a1:i<k\/k<i:=by omega
  rcases a1 with a1|a1
  ·have:(i+1)*sz<=k*sz:=Nat.mul_le_mul_right _ a1
   rw [Nat.succ_mul] at this;omega
  ·have:(k+1)*sz<=i*sz:=Nat.mul_le_mul_right _ a1
   rw [Nat.succ_mul] at this;omega
noncomputable abbrev fresh (N:Nat) (W:World):World:=ag (λj=>j<N) W
theorem gm {N:Nat} {W:World} {b o:Nat} (h:N<=b):(fresh N W).cell? ⟨b,o,none⟩=W.cell? ⟨b,o,none⟩:=World.cell?_of_block (a:=⟨b,o,none⟩) (bH (λk=>by have k:b<N:=k;omega))
theorem jT {N N':Nat} {W W':World} (h:∀ j,N<=j->j<W.heap.size->W'.heap[j]?=W.heap[j]?) (hs:W.heap.size<=W'.heap.size) (hN:N'<=N):aG (fresh N W) (fresh N' W'):=by
 refine ⟨by rw [bu,bu];exact hs,λb o v e=>?_⟩;have hb:=dU e;have hl:b<W.heap.size:=by have:=World.block_lt_of_cell? _ ⟨b,o,none⟩ e;rw [bu] at this;exact this
 have hb':N<=b:=by simpa using hb
 rw [gm hb'] at e;rw [gm (by omega)];exact (World.cell?_of_block (a:=⟨b,o,none⟩) (h b hb' hl)).trans e
theorem be {M M':Nat->Prop} {W W':World} (h:∀ j,j<W.heap.size->¬ M j->¬ M' j/\W'.heap[j]?=W.heap[j]?) (hs:W.heap.size<=W'.heap.size):aG (ag M W) (ag M' W'):=by
 refine ⟨by rw [bu,bu];exact hs,λb o v e=>?_⟩;have hb:=dU e;have hl:b<W.heap.size:=by have:=World.block_lt_of_cell? _ ⟨b,o,none⟩ e;rw [bu] at this;exact this
 obtain ⟨h1,h2⟩:=h b hl hb;have e1:(ag M' W').heap[b]?=(ag M W).heap[b]?:=by rw [bH h1,bH hb];exact h2
 exact (World.cell?_of_block (a:=⟨b,o,none⟩) e1).trans e
theorem tv {N N':Nat} {W W':World} (h:Below W.heap.size W W') (hN:N'<=N):aG (fresh N W) (fresh N' W'):=jT (λj _ hj=>h.block j hj) h.size hN
theorem DL {W:World} {N g n cap:Nat} {ds:List Nd} (h:cY W N g 2 n (λk=>[.string (nd ds k).kind,.int .i64 (nd ds k).many])) (hn:n=ds.length) (hm:ds.length<=maxLen):bh (fresh N W) (.slice (some ⟨g,0,none⟩) n cap) ds:=by
 subst hn;refine ⟨_,_,rfl,hm,λ_=>⟨g,0,rfl,by rw [bu];exact h.lt,λk hk=>?_⟩⟩;rw [gm h.base,gm h.base,Nat.zero_add];exact ⟨h.cell k hk 0 (by decide),h.cell k hk 1 (by decide)⟩
theorem tw (W:World) (ao:Option Addr) (c:Nat):bh W (.slice ao 0 c) []:=⟨ao,c,rfl,Nat.zero_le _,λh=>absurd h (Nat.lt_irrefl 0)⟩
theorem DM {W:World} {N g n cap:Nat} {cs:List Ct} {dv:Nat->Value} (h:cY W N g 6 n (λk=>b7 (ct cs k) (dv k))) (hn:n=cs.length) (hm:n<=cap/\cap<=maxLen) (hd:∀ k,k<n->bh (fresh N W) (dv k) (ct cs k).ds):aD (fresh N W) (.slice (some ⟨g,0,none⟩) n cap) cs:=by
 subst hn;refine ⟨_,_,rfl,hm,λ_=>⟨g,0,dv,rfl,by rw [bu];exact h.lt,λk hk=>⟨λj hj=>?_,hd k hk⟩⟩⟩;rw [gm h.base,Nat.zero_add];exact h.cell k hk j hj
theorem DN {W:World} {N g n cap:Nat} {xs:List Int} (h:cY W N g 1 n (λk=>[.int .i64 (xs.getD k 0)])) (hn:n=xs.length) (hm:n<=cap/\cap<=maxLen):bw (fresh N W) (.slice (some ⟨g,0,none⟩) n cap) xs:=by
 subst hn;refine ⟨_,_,rfl,hm,λ_=>⟨g,0,rfl,by rw [bu];exact h.lt,λk hk=>?_⟩⟩;rw [gm h.base,Nat.zero_add]
 simpa using h.cell k hk 0 (by decide)
theorem DO {W:World} {N g n cap:Nat} {gs:List Gv} {dv:Nat->Value} (h:cY W N g 2 n (λk=>[.int .u64 (gv gs k).cp,dv k])) (hn:n=gs.length) (hm:n<=cap/\cap<=maxLen) (hd:∀ k,k<n->(gv gs k).cp<18446744073709551616/\bw (fresh N W) (dv k) (gv gs k).dv):bx (fresh N W) (.slice (some ⟨g,0,none⟩) n cap) gs:=by
 subst hn;refine ⟨_,_,rfl,hm,λ_=>⟨g,0,dv,rfl,by rw [bu];exact h.lt,λk hk=>⟨⟨?_,?_,(hd k hk).1⟩,(hd k hk).2⟩⟩⟩
 ·rw [gm h.base,Nat.zero_add];exact h.cell k hk 0 (by decide)
 ·rw [gm h.base,Nat.zero_add];exact h.cell k hk 1 (by decide)
theorem DP (v:Value) (ds:List Nd) (w:World) (h:bh w v ds) (hl:ds.length<=1000):Calls Tryz.prog 80 #[v] w λe w'=>∃ ao c,e=.returned (.slice ao ds.length c)/\bh (fresh w.heap.size w') (.slice ao ds.length c) ds/\Below w.heap.size w w':=by
 obtain ⟨ao,c,rfl,hm,hr⟩:=h;cases ao with
 | none=>
  refine (Du _ _ _).mono ?_;rintro e w' ⟨rfl,rfl⟩;have h0:ds.length=0:=by
   apply Classical.byContradiction;intro h0;obtain ⟨b,o,hb,_⟩:=hr (by omega);cases hb
  have:ds=[]:=List.length_eq_zero_iff.1 h0
  subst this;exact ⟨none,0,rfl,tw _ _ _,Below.refl _ _⟩
 | some a=>
  refine (Dt a ds.length c ((List.range ds.length).flatMap λk=>[.string (nd ds k).kind,.int .i64 (nd ds k).many]) w (ii (by intro _;rfl) _) ?_ (kQ λk _ u hu=>?_) hl).mono ?_
  ·intro j u hu
   by_cases h0:0<ds.length
   ·obtain ⟨b,o,hb,_,hc⟩:=hr h0;cases hb;exact kP (sz:=2) (by decide) (by intro _;rfl) (λk hk i hi=>by
     match i,hi with
     | 0,_=>exact (hc k hk).1
     | 1,_=>exact (hc k hk).2) j u hu
   ·rw [show ds.length=0 by omega] at hu;simp at hu
  ·simp at hu
   rcases hu with rfl|rfl <;> rfl
  ·rintro e w' ⟨u,rfl,hrow,hb⟩;obtain ⟨ao,cap,rfl,hcap,hg⟩:=jS (f:=λk=>[.string (nd ds k).kind,.int .i64 (nd ds k).many]) hrow (λk hk j hj=>kO (by intro _;rfl) _ _ _ hk hj);refine ⟨ao,cap,rfl,?_,hb⟩
   by_cases h0:0<ds.length
   ·obtain ⟨g,rfl,hG⟩:=hg h0;exact DL hG rfl hm
   ·have:ds=[]:=List.length_eq_zero_iff.1 (by omega)
    subst this;exact tw _ _ _
theorem DQ (v:Value) (xs:List Int) (w:World) (h:bw w v xs) (hl:xs.length<=1000):Calls Tryz.prog 82 #[v] w λe w'=>∃ ao c,e=.returned (.slice ao xs.length c)/\bw (fresh w.heap.size w') (.slice ao xs.length c) xs/\Below w.heap.size w w':=by
 obtain ⟨ao,c,rfl,hm,hr⟩:=h;cases ao with
 | none=>
  refine (DA _ _ _).mono ?_;rintro e w' ⟨rfl,rfl⟩;have h0:xs.length=0:=by
   apply Classical.byContradiction;intro h0;obtain ⟨b,o,hb,_⟩:=hr (by omega);cases hb
  have:xs=[]:=List.length_eq_zero_iff.1 h0
  subst this;exact ⟨none,0,rfl,⟨none,0,rfl,⟨lR,Nat.zero_le _⟩,λh=>absurd h (Nat.lt_irrefl 0)⟩,Below.refl _ _⟩
 | some a=>
  refine (Dz a xs.length c ((List.range xs.length).flatMap λk=>[.int .i64 (xs.getD k 0)]) w (ii (by intro _;rfl) _) ?_ (kQ λk _ u hu=>?_) hl).mono ?_
  ·intro j u hu
   by_cases h0:0<xs.length
   ·obtain ⟨b,o,hb,_,hc⟩:=hr h0;cases hb;exact kP (sz:=1) (by decide) (by intro _;rfl) (λk hk i hi=>by
     match i,hi with
     | 0,_=>rw [Nat.mul_one];exact hc k hk) j u hu
   ·rw [show xs.length=0 by omega] at hu;simp at hu
  ·simp at hu
   rcases hu with rfl;rfl
  ·rintro e w' ⟨u,rfl,hrow,hb⟩;obtain ⟨ao,cap,rfl,hcap,hg⟩:=jS (f:=λk=>[.int .i64 (xs.getD k 0)]) hrow (λk hk j hj=>kO (by intro _;rfl) _ _ _ hk hj);refine ⟨ao,cap,rfl,?_,hb⟩
   by_cases h0:0<xs.length
   ·obtain ⟨g,rfl,hG⟩:=hg h0;exact DN hG rfl hcap
   ·have:xs=[]:=List.length_eq_zero_iff.1 (by omega)
    subst this;exact ⟨_,_,rfl,hcap,λh=>absurd h (Nat.lt_irrefl 0)⟩
theorem DR (v:Value) (cs:List Ct) (w W0:World) (h:aD W0 v cs) (l:aG W0 w) (hl:cs.length<=1000):Calls Tryz.prog 79 #[v] w λe w'=>∃ ao c,e=.returned (.slice ao cs.length c)/\(cs.length<=c/\c<=maxLen)/\(0<cs.length->∃ (g:Nat) (dv:Nat->Value),ao=some ⟨g,0,none⟩/\cY w' w.heap.size g 6 cs.length (λk=>b7 (ct cs k) (dv k))/\∀ k,k<cs.length->bh W0 (dv k) (ct cs k).ds)/\Below w.heap.size w w':=by
 obtain ⟨ao,c,rfl,hm,hr⟩:=h;cases ao with
 | none=>
  refine (Dw _ _ _).mono ?_;rintro e w' ⟨rfl,rfl⟩;have h0:cs.length=0:=by
   apply Classical.byContradiction;intro h0;obtain ⟨b,o,dv,hb,_⟩:=hr (by omega);cases hb
  rw [h0];exact ⟨none,0,rfl,⟨lR,Nat.zero_le _⟩,λh=>by omega,Below.refl _ _⟩
 | some a=>
  by_cases h0:0<cs.length
  ·obtain ⟨b,o,dv,hb,hc⟩:=hr h0;cases hb;refine (td ⟨b,o,none⟩ cs.length c ((List.range cs.length).flatMap λk=>b7 (ct cs k) (dv k)) w (ii (by intro _;rfl) _) (kP (sz:=6) (by decide) (by intro _;rfl) (λk hk i hi=>by
     have h6:i<(b7 (ct cs k) (dv k)).length:=hi;rw [List.getElem?_eq_getElem h6];exact l.cell _ _ _ (((hc.2 k hk).1 i hi).trans (List.getElem?_eq_getElem h6)))) (kQ λk hk u hu=>?_) hl).mono ?_
   ·obtain ⟨na,nc,hv,_⟩:=(hc.2 k hk).2;rw [hv] at hu
    simp [b7] at hu
    rcases hu with rfl|rfl|rfl|rfl|rfl|rfl <;> rfl
   ·rintro e w' ⟨u,rfl,hrow,hb⟩;obtain ⟨ao,cap,rfl,hcap,hg⟩:=jS (f:=λk=>b7 (ct cs k) (dv k)) hrow (λk hk j hj=>kO (by intro _;rfl) _ _ _ hk hj);refine ⟨ao,cap,rfl,hcap,λ_=>?_,hb⟩;obtain ⟨g,rfl,hG⟩:=hg h0;exact ⟨g,dv,rfl,hG,λk hk=>(hc.2 k hk).2⟩
  ·refine (td a cs.length c [] w (by rw [show cs.length=0 by omega];rfl) (λj u hu=>by simp at hu) (λu hu=>(List.not_mem_nil hu).elim) hl).mono ?_;rintro e w' ⟨u,rfl,hrow,hb⟩;obtain ⟨ao,cap,rfl,hcap,hg⟩:=jS (f:=λ_=>[]) hrow (λk hk j hj=>by omega);exact ⟨ao,cap,rfl,hcap,λh=>absurd h h0,hb⟩
theorem DS (v:Value) (gs:List Gv) (w W0:World) (h:bx W0 v gs) (l:aG W0 w) (hl:gs.length<=1000):Calls Tryz.prog 81 #[v] w λe w'=>∃ ao c,e=.returned (.slice ao gs.length c)/\(gs.length<=c/\c<=maxLen)/\(0<gs.length->∃ (g:Nat) (dv:Nat->Value),ao=some ⟨g,0,none⟩/\cY w' w.heap.size g 2 gs.length (λk=>[.int .u64 (gv gs k).cp,dv k])/\∀ k,k<gs.length->(gv gs k).cp<18446744073709551616/\bw W0 (dv k) (gv gs k).dv)/\Below w.heap.size w w':=by
 obtain ⟨ao,c,rfl,hm,hr⟩:=h;cases ao with
 | none=>
  refine (Dx _ _ _).mono ?_;rintro e w' ⟨rfl,rfl⟩;have h0:gs.length=0:=by
   apply Classical.byContradiction;intro h0;obtain ⟨b,o,dv,hb,_⟩:=hr (by omega);cases hb
  rw [h0];exact ⟨none,0,rfl,⟨lR,Nat.zero_le _⟩,λh=>by omega,Below.refl _ _⟩
 | some a=>
  by_cases h0:0<gs.length
  ·obtain ⟨b,o,dv,hb,hc⟩:=hr h0;cases hb;refine (ti ⟨b,o,none⟩ gs.length c ((List.range gs.length).flatMap λk=>[.int .u64 (gv gs k).cp,dv k]) w (ii (by intro _;rfl) _) (kP (sz:=2) (by decide) (by intro _;rfl) (λk hk i hi=>by
     match i,hi with
     | 0,_=>exact l.cell _ _ _ (hc.2 k hk).1.1
     | 1,_=>exact l.cell _ _ _ (hc.2 k hk).1.2.1)) (kQ λk hk u hu=>?_) hl).mono ?_
   ·obtain ⟨na,nc,hv,_⟩:=(hc.2 k hk).2;rw [hv] at hu
    simp at hu
    rcases hu with rfl|rfl <;> rfl
   ·rintro e w' ⟨u,rfl,hrow,hb⟩;obtain ⟨ao,cap,rfl,hcap,hg⟩:=jS (f:=λk=>[.int .u64 (gv gs k).cp,dv k]) hrow (λk hk j hj=>kO (by intro _;rfl) _ _ _ hk hj);refine ⟨ao,cap,rfl,hcap,λ_=>?_,hb⟩;obtain ⟨g,rfl,hG⟩:=hg h0;exact ⟨g,dv,rfl,hG,λk hk=>⟨(hc.2 k hk).1.2.2,(hc.2 k hk).2⟩⟩
  ·refine (ti a gs.length c [] w (by rw [show gs.length=0 by omega];rfl) (λj u hu=>by simp at hu) (λu hu=>(List.not_mem_nil hu).elim) hl).mono ?_;rintro e w' ⟨u,rfl,hrow,hb⟩;obtain ⟨ao,cap,rfl,hcap,hg⟩:=jS (f:=λ_=>[]) hrow (λk hk j hj=>by omega);exact ⟨ao,cap,rfl,hcap,λh=>absurd h h0,hb⟩
def mu (h:Hd) (cv gvv:Value):List Value:=[.string h.pod.nm,.int .i64 h.pod.pr,cv,gvv]
theorem tx (v:Value) (hs:List Hd) (w W0:World) (h:aN W0 v hs) (l:aG W0 w) (hl:hs.length<=1000):Calls Tryz.prog 55 #[v] w λe w'=>∃ (u:Value) (cv gvv:Nat->Value),e=.returned u/\w'.ownsRow w.heap.size 57 4 u hs.length ((List.range hs.length).flatMap λk=>mu (hd hs k) (cv k) (gvv k))/\(∀ k,k<hs.length->aD W0 (cv k) (hd hs k).pod.cs/\bx W0 (gvv k) (hd hs k).gs)/\Below w.heap.size w w':=by
 obtain ⟨ao,c,rfl,hm,hr⟩:=h;cases ao with
 | none=>
  refine (Dy _ _ _).mono ?_;rintro e w' ⟨rfl,rfl⟩;have h0:hs.length=0:=by
   apply Classical.byContradiction;intro h0;obtain ⟨b,o,cv,gvv,hb,_⟩:=hr (by omega);cases hb
  rw [h0];exact ⟨_,λ_=>.nilIface,λ_=>.nilIface,rfl,⟨rfl,.inl ⟨rfl,rfl⟩⟩,λk hk=>by omega,Below.refl _ _⟩
 | some a=>
  by_cases h0:0<hs.length
  ·obtain ⟨b,o,cv,gvv,hb,hc⟩:=hr h0;cases hb;refine (tl ⟨b,o,none⟩ hs.length c ((List.range hs.length).flatMap λk=>mu (hd hs k) (cv k) (gvv k)) w (ii (by intro _;rfl) _) (kP (sz:=4) (by decide) (by intro _;rfl) (λk hk i hi=>by
     match i,hi with
     | 0,_=>exact l.cell _ _ _ (hc.2 k hk).1.1
     | 1,_=>exact l.cell _ _ _ (hc.2 k hk).1.2.1
     | 2,_=>exact l.cell _ _ _ (hc.2 k hk).1.2.2.1
     | 3,_=>exact l.cell _ _ _ (hc.2 k hk).1.2.2.2)) (kQ λk hk u hu=>?_) hl).mono ?_
   ·obtain ⟨na,nc,hv,_⟩:=(hc.2 k hk).2.1;obtain ⟨ma,mc,hv2,_⟩:=(hc.2 k hk).2.2;rw [hv,hv2] at hu
    simp [mu] at hu
    rcases hu with rfl|rfl|rfl|rfl <;> rfl
   ·rintro e w' ⟨u,rfl,hrow,hb⟩;exact ⟨u,cv,gvv,rfl,hrow,λk hk=>(hc.2 k hk).2,hb⟩
  ·have e0:hs.length=0:=by omega
   refine (tl a hs.length c [] w (by rw [e0];rfl) (λj u hu=>by simp at hu) (λu hu=>(List.not_mem_nil hu).elim) hl).mono ?_;rintro e w' ⟨u,rfl,hrow,hb⟩;refine ⟨u,λ_=>.nilIface,λ_=>.nilIface,rfl,?_,λk hk=>absurd hk (by omega),hb⟩;rw [e0] at hrow ⊢;exact hrow
end
section
open Go.RowKit Go.Shelf Go.Lib
attribute [local go_sem] Oper.semAt_some
abbrev dV:Value:=.agg #[.string ByteArray.empty,.int .i64 0,.slice none 0 0,.slice none 0 0]
theorem DT (b n c i vb voff vc:Nat) (cs vs:List Value) (w:World) (hi:i<n) (hnc:n<=c) (hroom:c<n+1) (hbig:n<=100)
  (hcl:cs.length=n*4) (hvl:vs.length=4)
  (hcs:∀ j v,cs[j]?=some v->w.cell? ⟨b,j,none⟩=some v)
  (hvs:∀ j v,vs[j]?=some v->w.cell? ⟨vb,voff+j,none⟩=some v) (h1c:∀ v∈cs,v.oneCell'=true) (h1v:∀ v∈vs,v.oneCell'=true) :
  Calls Tryz.prog 54 #[.slice (some ⟨b,0,none⟩) n c,.int .i64 i,.slice (some ⟨vb,voff,none⟩) 1 vc] w λe w'=>
   ∃ G,n+1<=G/\G<=maxLen/\e=.returned (.slice (some ⟨w.heap.size,0,none⟩) (n+1) G)/\
   w'=(((w.alloc (.cells ((cs.take (i*4)).toArray++Builtin.zeroCells dV.cells (n+1 - i)++Builtin.zeroCells dV.cells (G - (n+1))) 57)).drew.setCells w.heap.size (i*4) vs).drew).setCells w.heap.size ((i+1)*4) (cs.drop (i*4)):=by
 obtain ⟨i0,hi0,hz0,hzs,hzb⟩:=info_parts DB;have hz2:¬ ((i:Int)=(n:Int)):=by omega
 have hz3:(c:Int)<(n:Int)+1:=by omega
 have hbw:b<w.heap.size:=block_lt_of_cell (hcs 0 _ (List.getElem?_eq_getElem (by omega)));have hvw:vb<w.heap.size:=block_lt_of_cell (hvs 0 _ (List.getElem?_eq_getElem (by omega)));have hkk:(n:Int)+1 - (i:Int)=((n+1 - i:Nat):Int):=by omega
 have hik:i+(n+1 - i)=n+1:=by omega
 have hold:(Builtin.firstCells i0.size i (.slice (some ⟨b,0,none⟩) i c)).run Tryz.prog w.drew=.ok (cs.take (i*4)).toArray w.drew:=by
  rw [hzs];exact run_firstCells_some w.drew 4 i ⟨b,0,none⟩ i c (cs.take (i*4)) (by rw [List.length_take];omega) (λj v hj=>by
   rw [Addr.add_lit];rw [List.getElem?_take] at hj
   split at hj
   ·rw [Nat.zero_add];exact hcs j v hj
   ·cases hj)
 have hfits:Builtin.nextslicecap (n+1) c*i0.bytes<=281474976710656:=by rw [hzb];exact growslice_fits hroom (by omega)
 have hrz:∀ ty,(Builtin.append_ #[53,3] ty #[.slice (some ⟨b,0,none⟩) i c,.int .i64 ((n:Int)+1 - (i:Int))]).run Tryz.prog w =
   .ok (.slice (some ⟨w.heap.size,0,none⟩) (n+1) (grownCap w (n+1) c 57)) (w.drew.alloc (.cells ((cs.take (i*4)).toArray++Builtin.zeroCells dV.cells (n+1 - i)++Builtin.zeroCells dV.cells (grownCap w (n+1) c 57 - (n+1))) 57)):=λty=>by
  have h:=Lib.run_append_grow_zeros w 53 3 ty 57 i0 _ .i64 .i64 Tryz.underlying53 Tryz.underlying3 hi0 hz0 (some ⟨b,0,none⟩) i c (cs.take (i*4)) hold (n+1 - i) (by omega) (by omega) (by omega) (by omega) (by rw [hzb];omega) (by rw [hik];exact hfits);rw [hik] at h;rw [hkk];exact h
 have hGn0:n+1<=grownCap w (n+1) c 57:=grownCap_ge w _ _ _;have hG63:grownCap w (n+1) c 57<=maxLen:=grownCap_le_maxLen w (n+1) c 57 (by unfold maxLen;omega);obtain ⟨G,hG⟩:∃ G,G=grownCap w (n+1) c 57:=⟨_,rfl⟩;rw [<- hG] at hrz hGn0 hG63;refine Calls.mono (R:=λe w'=>e=.returned (.slice (some ⟨w.heap.size,0,none⟩) (n+1) G)/\w'=(((w.alloc (.cells ((cs.take (i*4)).toArray++Builtin.zeroCells dV.cells (n+1 - i)++Builtin.zeroCells dV.cells (G - (n+1))) 57)).drew.setCells w.heap.size (i*4) vs).drew).setCells w.heap.size ((i+1)*4) (cs.drop (i*4))) ?_ (λe w' h=>⟨G,hGn0,hG63,h.1,h.2⟩);obtain ⟨ROW,hROW⟩:∃ ROW:Array Value,ROW=(cs.take (i*4)).toArray++Builtin.zeroCells dV.cells (n+1 - i)++Builtin.zeroCells dV.cells (G - (n+1)):=⟨_,rfl⟩;rw [<- hROW] at hrz ⊢;have hRl:(n+1)*4<=ROW.size:=by
  rw [hROW];have hzc:dV.cells.size=4:=rfl;simp only [Array.size_append,List.size_toArray,List.length_take,Builtin.zeroCells,Array.size_map,Array.size_range,hzc,hcl];omega
 have hG63':G<=9223372036854775807:=by unfold maxLen at hG63;omega
 obtain ⟨W1,hW1⟩:∃ W1,W1=w.drew.alloc (.cells ROW 57):=⟨_,rfl⟩;rw [<- hW1] at hrz;have hN:∀ j,j<(n+1)*4->(W1.cell? ⟨w.heap.size,j,none⟩).isSome=true:=λj hj=>by
  rw [hW1,World.cell?_alloc_at (w:=w.drew) ROW _ w.heap.size j rfl,Array.getElem?_eq_getElem (by omega)];rfl
 have hNf:∀ j,W1.frozen? ⟨w.heap.size,j,none⟩=false:=λj=>by rw [hW1];exact World.frozen?_alloc_at (w:=w.drew) ROW _ w.heap.size j rfl
 have hOb:∀ j v,w.cell? ⟨b,j,none⟩=some v->W1.cell? ⟨b,j,none⟩=some v:=λj v h=>by rw [hW1,World.cell?_alloc_past (w:=w.drew) _ b j hbw];exact h
 have hOv:∀ j v,w.cell? ⟨vb,j,none⟩=some v->W1.cell? ⟨vb,j,none⟩=some v:=λj v h=>by rw [hW1,World.cell?_alloc_past (w:=w.drew) _ vb j hvw];exact h
 have hcpA:∀ (W:World),(∀ x,W.cell? x=W1.cell? x)->(∀ x,W.frozen? x=W1.frozen? x)->∀ ty dc,(Builtin.copy_ #[53,53] ty #[.slice (some ⟨w.heap.size,i*4,none⟩) (n+1 - i) dc,.slice (some ⟨vb,voff,none⟩) 1 vc]).run Tryz.prog W=.ok (goInt (Nat.min 1 (n+1 - i))) (W.setCells w.heap.size (i*4) vs):=λW hWc hWf ty dc=>
  mo W ty w.heap.size (i*4) (n+1 - i) dc ⟨vb,voff,none⟩ 1 vc vs (by rw [hvl];simp only [Nat.min_def];split <;> omega)
   (λj v hj=>by rw [Addr.add_lit,hWc];exact hOv _ v (hvs j v hj))
   (λj hj=>by rw [hWc];exact hN _ (by omega)) (λj hj=>by rw [hWf];exact hNf _) h1v
 have hGi:¬ (G=i):=by omega
 have hGim:¬ (G=i+1):=by omega
 have hci:¬ (c=i):=by omega
 have hbN:b≠w.heap.size:=by omega
 have hdl:(cs.drop (i*4)).length=(n - i)*4:=by rw [List.length_drop,hcl];omega
 have hcpB:∀ (W:World),(∀ x,W.cell? x=(W1.setCells w.heap.size (i*4) vs).cell? x)->(∀ x,W.frozen? x=(W1.setCells w.heap.size (i*4) vs).frozen? x)->∀ ty dc sc,(Builtin.copy_ #[53,53] ty #[.slice (some ⟨w.heap.size,(i+1)*4,none⟩) (n - i) dc,.slice (some ⟨b,i*4,none⟩) (n - i) sc]).run Tryz.prog W=.ok (goInt (Nat.min (n - i) (n - i))) (W.setCells w.heap.size ((i+1)*4) (cs.drop (i*4))):=λW hWc hWf ty dc sc=>
  mo W ty w.heap.size ((i+1)*4) (n - i) dc ⟨b,i*4,none⟩ (n - i) sc (cs.drop (i*4)) (by rw [hdl];simp only [Nat.min_def];split <;> omega)
   (λj v hj=>by
    rw [Addr.add_lit,hWc,World.cell?_setCells_out _ _ _ _ _ (λh _=>absurd h hbN)];exact hOb _ v (hcs (i*4+j) v (by rwa [List.getElem?_drop] at hj)))
   (λj hj=>by rw [hWc];exact isSome_setCells w.heap.size vs (i*4) W1 (λt ht=>hN _ (by omega)) _ (hN _ (by rw [hdl] at hj;omega)))
   (λj hj=>by rw [hWf,World.frozen?_setCells];exact hNf _) (λv hv=>h1c v (List.mem_of_mem_drop hv))
 subst hW1;have hE1:∀ x,((w.alloc (.cells ROW 57)).drew).cell? x=(w.drew.alloc (.cells ROW 57)).cell? x:=λx=>rfl
 have hE2:∀ x,((w.alloc (.cells ROW 57)).drew).frozen? x=(w.drew.alloc (.cells ROW 57)).frozen? x:=λx=>rfl
 have hF1:∀ x,(((w.alloc (.cells ROW 57)).drew.setCells w.heap.size (i*4) vs).drew).cell? x=((w.drew.alloc (.cells ROW 57)).setCells w.heap.size (i*4) vs).cell? x:=λx=>rfl
 have hF2:∀ x,(((w.alloc (.cells ROW 57)).drew.setCells w.heap.size (i*4) vs).drew).frozen? x=((w.drew.alloc (.cells ROW 57)).setCells w.heap.size (i*4) vs).frozen? x:=λx=>rfl
 have hw1:IntKind.i64.wrap ((i:Int)+1)=(i:Int)+1:=by rw [IntKind.wrap_i64];omega
 have hb1:(0:Int)<=(i:Int)+1:=by omega
 have hin:i<=n:=by omega
 have htn:((i:Int)+1).toNat=i+1:=by omega
 have hb3:(i:Int)<=(n:Int):=by omega
 have hb5:(i:Int)+1<=(n:Int)+1:=by omega
 have mixed:Tryz.prog.follows .mixedOrders=true:=by kernel_rfl
 clear hkk hik hold hROW hG hRl hcs hvs hfits hi0 hz0 hzs hzb
 go_enter Tryz.func54,Tryz.ntmps54
 go_wp2_with (first
  | (at_builtin;refine Lib.wpList_append_run _ rfl _ _ _ _ rfl _ _ rfl rfl _ _ (hrz _) ?_)
  | (at_builtin;refine wpList_copy_runI _ rfl _ _ 53 53 rfl _ _ rfl rfl (hcpA _ hE1 hE2 _ _) ?_)
  | (at_builtin;refine wpList_copy_runI _ rfl _ _ 53 53 rfl _ _ rfl rfl (hcpB _ (λ_=>rfl) (λ_=>rfl) _ _ _) ?_))
 go_region_law_o (refine step_copy_runI rfl _ _ 53 53 rfl (.slice (some ⟨w.heap.size,(i+1)*4,none⟩) (n - i) (G - (i+1))) (.slice (some ⟨b,i*4,none⟩) (n - i) (c - i)) (by simp [Act.eval,Act.put]) (by simp [Act.eval,Act.put]) (hcpB _ hF1 hF2 3 (G - (i+1)) (c - i)) ?_)
 go_wp2
 go_ret;exact ⟨rfl,rfl⟩
end
section
namespace Ol
open Dvs (Dv dv)
open Qos (Nd)
def jo (ds:List Dv) (k:ByteArray) (l:List Int):Nat:=l.countP λj=>decide ((dv ds j.toNat).kind=k)
def gM (m:ByteArray->Option Int):Prop:=∀ k,m k≠some 0
theorem DU {m:ByteArray->Option Int} (h:gM m) (k:ByteArray):m k=none↔(m k).getD 0=0:=by
 cases e:m k with
 | none=>simp
 | some v=>
  have:=h k
  rw [e] at this;constructor
  ·intro h;cases h
  ·intro h;exact absurd (congrArg some h) this
theorem tC {m:ByteArray->Option Int} (h:gM m) (k:ByteArray) {v:Option Int} (hv:v≠some 0):gM (cE m k v):=by
 intro x;unfold cE
 split
 ·exact hv
 ·exact h x
theorem DV (ds:List Dv) {m:ByteArray->Option Int} (h:gM m) (j:Int):gM (cO ds m j):=by
 unfold cO;refine tC h _ ?_
 split
 ·exact λe=>by cases e
 ·rename_i h0;exact λe=>h0 (Option.some.inj e)
theorem DW (ds:List Dv) (m:ByteArray->Option Int) (j:Int) (k:ByteArray):(cO ds m j k).getD 0=(m k).getD 0 - (if (dv ds j.toNat).kind=k then 1 else 0):=by
 unfold cO cE
 by_cases h:k=(dv ds j.toNat).kind
 ·rw [if_pos h,if_pos h.symm,<- h]
  split
  ·rename_i h0;rw [h0];rfl
  ·rfl
 ·rw [if_neg h,if_neg (λe=>h e.symm),Int.sub_zero]
theorem DX (ds:List Dv) (k:ByteArray):∀ (l:List Int) (m:ByteArray->Option Int),gM m->gM (l.foldl (cO ds) m)/\(l.foldl (cO ds) m k).getD 0=(m k).getD 0 - (jo ds k l:Nat):=by
 intro l
 induction l with
 | nil=>intro m h;exact ⟨h,by simp [jo]⟩
 | cons j r ih=>
  intro m h;obtain ⟨h1,h2⟩:=ih (cO ds m j) (DV ds h j);refine ⟨h1,?_⟩;rw [List.foldl_cons,h2,DW];unfold jo;rw [List.countP_cons]
  by_cases hk:(dv ds j.toNat).kind=k
  ·simp [hk];omega
  ·simp [hk]
theorem DY (ns:List Nd) (h:∀ n∈ns,n.many≠0):∀ m,gM m->gM (ns.foldl (λm n=>cE m n.kind (some n.many)) m):=by
 induction ns with
 | nil=>intro m hm;exact hm
 | cons n r ih=>
  intro m hm;rw [List.foldl_cons];exact ih (λx hx=>h x (List.mem_cons_of_mem _ hx)) _ (tC hm _ (λe=>h n (List.mem_cons_self ..) (Option.some.inj e)))
theorem DZ {ds:List Dv} {l:List Int} {ns:List Nd} (h:∀ n∈ns,n.many≠0):gK ds l ns↔∀ k,(dT ns k).getD 0=(jo ds k l:Nat):=by
 have hn:gM (dT ns):=DY ns h _ (λ_ e=>by cases e);unfold gK;refine forall_congr' λk=>?_
 obtain ⟨h1,h2⟩:=DX ds k l (dT ns) hn;rw [DU h1,h2];omega
theorem tD:∀ (ns:List Nd) (m:ByteArray->Option Int) (k:ByteArray),(∀ n∈ns,n.kind≠k)->ns.foldl (λm n=>cE m n.kind (some n.many)) m k=m k:=by
 intro ns
 induction ns with
 | nil=>intro m k _;rfl
 | cons n r ih=>
  intro m k h;rw [List.foldl_cons,ih _ k (λx hx=>h x (List.mem_cons_of_mem _ hx))];unfold cE;rw [if_neg (λe=>h n (List.mem_cons_self ..) e.symm)]
theorem D0:∀ (ns:List Nd) (m:ByteArray->Option Int) (n:Nd),n∈ns->ns.Pairwise (λa b=>a.kind≠b.kind)->ns.foldl (λm n=>cE m n.kind (some n.many)) m n.kind=some n.many:=by
 intro ns
 induction ns with
 | nil=>intro m n h;cases h
 | cons x r ih=>
  intro m n h hp;rw [List.foldl_cons];obtain ⟨h1,h2⟩:=List.pairwise_cons.1 hp
  rcases List.mem_cons.1 h with rfl|h
  ·rw [tD r _ n.kind (λy hy e=>h1 y hy e.symm)];unfold cE;rw [if_pos rfl]
  ·exact ih _ n h h2
end Ol
end
section
open Go.RowKit Go.Shelf
open Qos (Nd Ct Pd nd ct pd)
open Sv (Gv Hd gv hd)
attribute [local go_sem] Oper.semAt_some
theorem D1 (v:Value) (gs:List Gv) (w:World) (h:bx w v gs) (hl:gs.length<=1000) (hdl:∀ k,k<gs.length->(gv gs k).dv.length<=1000):Calls Tryz.prog 42 #[v] w λe w'=>∃ ao c,e=.returned (.slice ao gs.length c)/\bx (fresh w.heap.size w') (.slice ao gs.length c) gs/\Below w.heap.size w w':=by
 have HCL:=qI (DS v gs w w h (aG.refl _) hl);have HDL:=qI hdl;obtain ⟨ao0,c0,rfl,hm0,_⟩:=h;clear hm0 hdl
 go_enter Tryz.func42,Tryz.ntmps42
 go_wp2_with fail
 refine HCL.out.mono ?_;rintro e W1 ⟨ao,c,rfl,hcap,hg,hb1⟩;have HCAP:=qI hcap;obtain ⟨g,dv,hg2⟩:∃ (g:Nat) (dv:Nat->Value),0<gs.length->ao=some ⟨g,0,none⟩/\cY W1 w.heap.size g 2 gs.length (λk=>[.int .u64 (gv gs k).cp,dv k])/\∀ k,k<gs.length->(gv gs k).cp<18446744073709551616/\bw w (dv k) (gv gs k).dv:=by
  by_cases h0:0<gs.length
  ·obtain ⟨g,dv,hh⟩:=hg h0;exact ⟨g,dv,λ_=>hh⟩
  ·exact ⟨0,λ_=>.nilIface,λh=>absurd h h0⟩
 have HG:=qI hg2;have HB1:=qI hb1;clear hcap hg hg2 hb1 HCL
 go_wp2_with fail
 go_loopw [9] (λi wr=>∃ (k:Nat) (dw:Nat->Value),k<=gs.length/\i=.int .i64 k/\Below w.heap.size w wr/\Hid (0<gs.length->cY wr w.heap.size g 2 gs.length (λj=>[.int .u64 (gv gs j).cp,dw j]))/\Hid (∀ j,j<k->bw (ag (λb=>b<w.heap.size\/b=g) wr) (dw j) (gv gs j).dv)/\Hid (∀ j,k<=j->dw j=dv j)) (λi _=>gs.length - (intOf i).toNat)
 case atStart=>exact ⟨0,dv,by omega,rfl,HB1.out,λh=>(HG.out h).2.1,λj hj=>by omega,λj _=>rfl⟩
 case round=>
  obtain ⟨k,dw,hk,rfl,hb,HROW,HDONE,HREST⟩:=hrel;have HB:=qI hb
  by_cases hlt:k<gs.length
  ·obtain ⟨rfl,_,hin⟩:=HG.out (by omega);have hrow:=HROW.out (by omega);have x0:wr.cell? ⟨g,k*2,none⟩=some (.int .u64 (gv gs k).cp):=hrow.cell k hlt 0 (by decide);have x1:wr.cell? ⟨g,k*2+1,none⟩=some (dv k):=by rw [<- HREST.out k (lR)];exact hrow.cell k hlt 1 (by decide)
   have hint:=(hin k hlt).2;obtain ⟨ia,ic,hdv,_⟩:=id hint;rw [hdv] at x1 hint;have hA:=hb.alloc hb.size (.cells #[.int .u64 (gv gs k).cp,.slice ia (gv gs k).dv.length ic] 69);have hsA:(wr.alloc (.cells #[.int .u64 (gv gs k).cp,.slice ia (gv gs k).dv.length ic] 69)).heap.size=wr.heap.size+1:=by simp
   have HCI:=qI (DQ (.slice ia (gv gs k).dv.length ic) (gv gs k).dv (wr.alloc (.cells #[.int .u64 (gv gs k).cp,.slice ia (gv gs k).dv.length ic] 69)) (hint.below hA) (HDL.out k hlt));have HA:=qI hA;have hgl:=hrow.lt;have hgN:=hrow.base;have hsz:=hb.size;have hk100:(k:Int)<(gs.length:Int):=by omega
   clear hrow hin hint hb hdv hA;generalize hcp:(gv gs k).cp=cp at *;have HCP:=qI hcp;have HDVL:Hid ((gv gs k).dv=(gv gs k).dv):=rfl;clear hcp;generalize hxs:(gv gs k).dv=xs at *;have HXS:=qI hxs;clear hxs
   go_wp2_with fail
   refine HCI.out.mono ?_;rintro e W2 ⟨na,nc,rfl,hni,hb2⟩;have hW2:Below wr.heap.size wr W2:=((Below.refl wr.heap.size wr).alloc (lR) _).trans (hb2.mono (by simp));have hrow2:=(HROW.out (by omega)).below hW2;have y1:W2.cell? ⟨g,k*2+1,none⟩=some (dw k):=hrow2.cell k hlt 1 (by decide);have f1:=hrow2.free (k*2+1);have HW2:=qI hW2;have HNI:=qI hni;have HR2:=qI hrow2;have hs2:wr.heap.size+1<=W2.heap.size:=by have:=hb2.size;simp at this;omega
   clear hni hb2 hW2 hrow2 HCI
   go_wp2_with fail
   have HSB:Hid (∀ b,b≠g->(W2.setCell ⟨g,k*2+1,none⟩ (.slice na xs.length nc)).heap[b]?=W2.heap[b]?):=λb hb=>set_other hb
   have hszS:(W2.setCell ⟨g,k*2+1,none⟩ (.slice na xs.length nc)).heap.size=W2.heap.size:=by simp
   have HNR:=qI (HR2.out.set k 1 hlt (by decide) (.slice na xs.length nc) (λj=>[.int .u64 (gv gs j).cp,if j=k then .slice na xs.length nc else dw j]) (λi _ hi=>by simp [hi]) (λi hi=>by
    match i,hi with
    | 0,_=>simp
    | 1,_=>simp) rfl)
   have HBN:=qI ((HB.out.trans (HW2.out.mono hsz)).setCell (p:=⟨g,k*2+1,none⟩) hgN (.slice na xs.length nc));generalize W2.setCell ⟨g,k*2+1,none⟩ (.slice na xs.length nc)=W3 at *
   go_roundw
   case rel=>
    refine ⟨k+1,λj=>if j=k then .slice na xs.length nc else dw j,by omega,by go_num,HBN.out,λ_=>HNR.out,λj hj=>?_,λj hj=>?_⟩
    ·by_cases hjk:j=k
     ·subst hjk;dsimp only;rw [if_pos rfl,HXS.out];refine HNI.out.le (be (λb hb1 hb2=>?_) (by rw [hszS];exact lR));rw [hsA] at hb2;exact ⟨by omega,HSB.out b (by omega)⟩
     ·dsimp only;rw [if_neg hjk];refine (HDONE.out j (by omega)).le (be (λb hb1 hb2=>⟨hb2,?_⟩) (by rw [hszS];omega));rw [HSB.out b (by omega)];exact HW2.out.block b hb1
    ·dsimp only;rw [if_neg (by omega)];exact HREST.out j (by omega)
   case measure=>simp [intOf];omega
  ·have hke:k=gs.length:=by omega
   subst hke;have HFIN:Hid (bx (fresh w.heap.size wr) (.slice ao gs.length c) gs):=by
    unfold Hid
    by_cases h0:0<gs.length
    ·obtain ⟨ha,_,hin⟩:=HG.out h0;rw [ha];exact DO (HROW.out h0) rfl HCAP.out (λj hj=>⟨(hin j hj).1,(HDONE.out j hj).le (be (λb _ hb2=>⟨by omega,rfl⟩) (lR))⟩)
    ·exact ⟨ao,c,rfl,HCAP.out,λh=>absurd h h0⟩
   go_wp2_with fail
   go_ret;exact ⟨ao,c,rfl,HFIN.out,HB.out⟩
end
section
namespace Ol
open Ost (Cpu Wi af cnt dif aM)
open Dvs (Dv dv fits bC bR srt cf bF nth sel gC ko kp rl nO)
open Qos (Nd Ct Pd ct aF)
open Sv (Gv Hd gv hd)
theorem tE {l:List Cpu} {F:Nat} {L:Int} {on:Nat} (h:(aM l F L on).2=0):(cnt (aM l F L on).1:Int)=L/\(aM l F L on).1 &&& F=(aM l F L on).1:=by
 unfold aM at h ⊢
 split
 ·rename_i h1;rw [if_pos h1] at h;cases h
 ·rename_i h1
  rw [if_neg h1] at h
  split
  ·rename_i h2;rw [if_pos h2] at h;cases h
  ·rename_i h2
   have:=Ost.AO (l:=l) (F:=F) (L:=L) on (by omega) (by omega) _ rfl
   exact ⟨this.1,this.2.1⟩
def gq (ds:List Dv) (k:ByteArray) (l:List Nat):Nat:=l.countP λj=>decide ((dv ds j).kind=k)
def ij (k:ByteArray) (ns:List Nd):Int:=(ns.map λn=>if n.kind=k then n.many else 0).sum
theorem tF {ds:List Dv} {us:Nat->Bool} {kind:ByteArray} {m:Nat} {many:Int} (h:bR ds us kind many=0):((bC ds us kind m many.toNat).length:Int)=many:=by
 unfold bR at h
 split at h
 ·cases h
 ·split at h
  ·cases h
  ·unfold bC;rw [List.length_take,nO];omega
theorem D2 {ds:List Dv} {us:Nat->Bool} {kind:ByteArray} {m n:Nat} (k:ByteArray):gq ds k (bC ds us kind m n)=if kind=k then (bC ds us kind m n).length else 0:=by
 unfold gq
 by_cases hk:kind=k
 ·rw [if_pos hk,List.countP_eq_length];intro j hj;have h:=(gC hj).2;simp only [fits,Bool.and_eq_true,decide_eq_true_eq] at h
  simp [h.1.1,hk]
 ·rw [if_neg hk,List.countP_eq_zero];intro j hj;have h:=(gC hj).2;simp only [fits,Bool.and_eq_true,decide_eq_true_eq] at h
  simp [h.1.1,hk]
structure D3 (ds:List Dv) (ns:List Nd) (us us':Nat->Bool) (new:List Nat):Prop where
 nodup:new.Nodup
 free:∀ j∈new,j<ds.length/\us j=false
 used:∀ j,us' j=(us j || decide (j∈new))
 kinds:∀ k,(gq ds k new:Int)=ij k ns
theorem tG {ds:List Dv} (h16:ds.length<=16) (on:Nat):∀ (ns:List Nd) (us:Nat->Bool) (out:List Nat),(bU ds on ns us out).1=0->∃ new,(bU ds on ns us out).2.2=out++new/\D3 ds ns us (bU ds on ns us out).2.1 new:=by
 intro ns
 induction ns with
 | nil=>intro us out _;exact ⟨[],by simp [bU],⟨List.nodup_nil,λ_ h=>(List.not_mem_nil h).elim,λj=>by simp [bU],λk=>by simp [gq,ij]⟩⟩
 | cons n r ih=>
  intro us out h;rw [bU] at h ⊢
  by_cases hf:bR ds us n.kind n.many=0
  ·rw [if_pos hf] at h ⊢;obtain ⟨new,e,t⟩:=ih _ _ h;have hT16:∀ j∈bC ds us n.kind on n.many.toNat,j<16:=λj hj=>by have:=(gC hj).1;omega
   have hp:=kp hT16 (ko ds us n.kind on n.many.toNat);refine ⟨srt (bC ds us n.kind on n.many.toNat)++new,by rw [e,List.append_assoc],⟨?_,?_,?_,?_⟩⟩
   ·rw [List.nodup_append];refine ⟨hp.nodup_iff.2 (ko ds us n.kind on n.many.toNat),t.nodup,λa ha b hb e2=>?_⟩;subst e2;have h1:=(t.free a hb).2;unfold cf at h1;rw [Bool.or_eq_false_iff,decide_eq_false_iff_not] at h1;exact h1.2 (hp.mem_iff.1 ha)
   ·intro j hj
    rcases List.mem_append.1 hj with hj|hj
    ·have h1:=gC (hp.mem_iff.1 hj);refine ⟨h1.1,?_⟩;have h2:=h1.2;simp only [fits,Bool.and_eq_true,Bool.not_eq_true'] at h2;exact h2.2
    ·have h1:=t.free j hj;refine ⟨h1.1,?_⟩;have h2:=h1.2;unfold cf at h2;rw [Bool.or_eq_false_iff] at h2;exact h2.1
   ·intro j;rw [t.used j];unfold cf;rw [Bool.or_assoc]
    congr 1
    rw [<- Bool.decide_or];apply decide_eq_decide.2;rw [List.mem_append,hp.mem_iff]
   ·intro k;unfold gq;rw [List.countP_append,hp.countP_eq];have h1:=D2 (ds:=ds) (us:=us) (kind:=n.kind) (m:=on) (n:=n.many.toNat) k;unfold gq at h1;rw [h1];have h2:=t.kinds k;unfold gq at h2;have h3:=tF (m:=on) hf;unfold ij;rw [List.map_cons,List.sum_cons];unfold ij at h2
    by_cases hk:n.kind=k
    ·rw [if_pos hk,if_pos hk];omega
    ·rw [if_neg hk,if_neg hk];omega
  ·rw [if_neg hf] at h;exact absurd h hf
theorem tH {α:Type} (l:List α):(l.map λ_=>(0:Int)).sum=0:=by
 induction l with
 | nil=>rfl
 | cons x r ih=>rw [List.map_cons,List.sum_cons,ih];rfl
theorem D4 {ns:List Nd} (hp:ns.Pairwise λa b=>a.kind≠b.kind) (k:ByteArray):ij k ns=(dT ns k).getD 0:=by
 by_cases h:∃ n∈ns,n.kind=k
 ·obtain ⟨n,hn,rfl⟩:=h;unfold dT;rw [D0 ns _ n hn hp]
  show ij n.kind ns=n.many
  induction ns with
  | nil=>cases hn
  | cons x r ih=>
   obtain ⟨h1,h2⟩:=List.pairwise_cons.1 hp;unfold ij;rw [List.map_cons,List.sum_cons]
   rcases List.mem_cons.1 hn with rfl|hn
   ·rw [if_pos rfl]
    have:(r.map λy=>if y.kind=n.kind then y.many else 0).sum=0:=by
     have:(r.map λy=>if y.kind=n.kind then y.many else 0)=r.map λ_=>(0:Int):=List.map_congr_left λy hy=>by rw [if_neg (λe=>h1 y hy e.symm)]
     rw [this];exact tH r
    rw [this];omega
   ·rw [if_neg (h1 n hn)]
    have:=ih h2 hn
    unfold ij at this;rw [this];omega
 ·have h':∀ n∈ns,n.kind≠k:=λn hn e=>h ⟨n,hn,e⟩
  unfold dT;rw [tD ns _ k h'];unfold ij
  have:(ns.map λn=>if n.kind=k then n.many else 0)=ns.map λ_=>(0:Int):=List.map_congr_left λy hy=>by rw [if_neg (h' y hy)]
  rw [this];exact tH ns
def ci (l:List Nat):List Int:=l.map λ(k:Nat)=>(k:Int)
theorem D5 (ds:List Dv) (k:ByteArray) (l:List Nat):jo ds k (ci l)=gq ds k l:=by
 unfold jo gq ci;rw [List.countP_map];rfl
theorem D6 {l:List Nat} {j:Nat}:(j:Int)∈ci l↔j∈l:=by
 unfold ci;rw [List.mem_map];constructor
 ·rintro ⟨x,hx,e⟩;have h:x=j:=by omega
  rw [h] at hx;exact hx
 ·exact λh=>⟨j,h,rfl⟩
theorem oW {l:List Nat} {k:Nat} (h:k<l.length):nth (ci l) k=(l[k]:Int):=by simp [nth,ci,h]
theorem D7 {l:List Int} (h:l.Nodup) {k:Nat} (hk:k<l.length):nth l k ∉ l.take k:=by
 intro hm;have e:nth l k=l[k]:=by simp [nth,hk]
 rw [e] at hm;rw [<- List.take_append_drop k l,List.nodup_append] at h;exact h.2.2 _ hm _ (by rw [List.drop_eq_getElem_cons hk];exact List.mem_cons_self ..) rfl
theorem D8 {l:List Nat} (h:l.Nodup):(ci l).Nodup:=by
 unfold ci;rw [List.nodup_iff_pairwise_ne] at h ⊢;rw [List.pairwise_map];exact h.imp λhne e=>hne (by omega)
theorem tI (l:List Cpu) (F:Nat) (L:Int) (on:Nat):(aM l F L on).2=0\/(aM l F L on).2=1\/(aM l F L on).2=8:=by
 unfold aM
 split
 ·exact .inr (.inl rfl)
 ·split
  ·exact .inr (.inr rfl)
  ·exact .inl rfl
theorem D9 {m:Mc} {s:Sk} {own:Int} {ns:List Nd} (h16:s.ds.length<=16) (hn:∀ n∈ns,n.many≠0) (hp:ns.Pairwise λa b=>a.kind≠b.kind) (h:(aZ m s own ns).1=0) :
  cP s (aZ m s own ns).2.1 own ns=some ⟨dif s.cp (aZ m s own ns).2.1.cp,s.ds,(aZ m s own ns).2.2⟩:=by
 unfold aZ at h ⊢;dsimp only at h ⊢
 split
 ·rename_i h1;rw [if_pos h1] at h;cases h
 ·rename_i h1
  rw [if_neg h1] at h
  split
  ·rename_i h2;rw [if_pos h2] at h;exfalso;have h4:=tI m.l s.cp own (af (λc=>(place m (b9 m s own ns)).1.1.testBit c.node.toNat) m.l);dsimp only at h;omega
  ·rename_i h2
   rw [if_neg h2] at h
   split
   ·rename_i h3;rw [if_pos h3] at h;exact absurd h h3
   ·rename_i h3
    have hd:(bU s.ds (place m (b9 m s own ns)).1.1 ns s.us []).1=0:=by omega
    obtain ⟨new,e,t⟩:=tG h16 _ ns s.us [] hd;have ht:=tE (show (aM m.l s.cp own (af (λc=>(place m (b9 m s own ns)).1.1.testBit c.node.toNat) m.l)).2=0 by omega);generalize (aM m.l s.cp own (af (λc=>(place m (b9 m s own ns)).1.1.testBit c.node.toNat) m.l)).1=cp at *;generalize (bU s.ds (place m (b9 m s own ns)).1.1 ns s.us []).2.1=us' at *;rw [e,List.nil_append];have hj16:∀ j∈new,j<16:=λj hj=>by have:=(t.free j hj).1;omega
    have hpm:=kp hj16 t.nodup;have key:cP s (⟨⟨cp,ci (srt new)⟩,own,ns⟩:Cl).g own ns=some (ex s ⟨⟨cp,ci (srt new)⟩,own,ns⟩):=by
     refine (gL (x:=⟨⟨cp,ci (srt new)⟩,own,ns⟩)).2 ⟨⟨ht.1,?_,λk hk=>?_⟩,⟨ht.2,λk hk=>?_⟩,rfl⟩
     ·refine (DZ hn).2 λk=>?_
      rw [<- D4 hp,<- t.kinds k]
      show ((gq s.ds k new:Nat):Int)=((jo s.ds k (ci (srt new)):Nat):Int)
      rw [D5];unfold gq;rw [hpm.countP_eq]
     ·have hk':k<(srt new).length:=by simpa [ci] using hk
      show 0<=nth (ci (srt new)) k/\nth (ci (srt new)) k<(s.ds.length:Int)/\nth (ci (srt new)) k ∉ (ci (srt new)).take k
      refine ⟨?_,?_,D7 (D8 (hpm.nodup_iff.2 t.nodup)) hk⟩
      ·rw [oW hk'];omega
      ·rw [oW hk']
       have:=(t.free _ (hpm.mem_iff.1 (List.getElem_mem hk'))).1
       omega
     ·have hk':k<(srt new).length:=by simpa [ci] using hk
      show s.us (nth (ci (srt new)) k).toNat=false
      rw [oW hk',Int.toNat_natCast];exact (t.free _ (hpm.mem_iff.1 (List.getElem_mem hk'))).2
    have eus:bF s.us (ci (srt new))=us':=by
     funext j
     rw [t.used j];unfold bF
     congr 1
     apply decide_eq_decide.2;rw [D6,hpm.mem_iff]
    show cP s ⟨cp,ci (srt new)⟩ own ns=some ⟨dif s.cp cp,s.ds,us'⟩
    rw [<- eus];exact key
end Ol
end
end Go.Proofs.YtbmmnflgnmjboaaGreatDoor
