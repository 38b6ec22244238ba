import Derived.Test.YtbmmnflgnmjboaaGreatDoorK24
import Derived.Test.YtbmmnflgnmjboaaGreatDoorK20
import Derived.Deep.DeepCutAuto
set_option maxRecDepth 100000
set_option maxHeartbeats 16000000
namespace Go.Proofs.YtbmmnflgnmjboaaGreatDoor
section
open RowKit Shelf
open Ost (Cpu N4 Wi Hi wi0 told Sm Low ae aN af)
open Qos (Nd nd)
open Dvs (Dv dv fits bD cn aT bP bA b8 srt)
attribute [local go_sem] Oper.semAt_some
theorem gY {fn:Func} {p u:Tmp} {ty:TypeId} (h:fn.results=#[.cell p ty,.tmp u]) (tmps:Array Value) (P:Program) (w:World) :
  (results fn tmps).run P w=((asAddr (tmps.getD p undef)).run P w).andThen λa w₁=>((loadVar ty a).run P w₁).andThen λv w₂=>.ok (.tuple #[v,tmps.getD u undef]) w₂:=by
 simp only [results,h]
 simp [Sem.run_bind,Result.andThen]
theorem i7 {w W:World} {g:Option Nat} (h:w.grownBy W g) {b:Nat} (hb:w.heap.size<=b) (j:Nat) (v:Value):w.grownBy (W.setCell ⟨b,j,none⟩ v) g:=
 ⟨h.os,h.tape,h.output,by simpa using h.size,λk hk hn=>(Below.heap_setCell _ _ _ _ (by show k≠b;omega)).trans (h.block k hk hn)⟩
theorem grown_of {w U W:World} {g:Option Nat} (hb:Below w.heap.size w U) (h:U.grownBy W g):w.grownBy W g:=
 ⟨h.os.trans hb.os,h.tape.trans hb.tape,h.output.trans hb.output,Q5 hb.size h.size,λk hk hn=>(h.block k (Q1 hk hb.size) hn).trans (hb.block k hk)⟩
theorem Ji {w U W:World} {g:Option Nat} (h:w.grownBy U g) (hb:Below U.heap.size U W):w.grownBy W g:=
 ⟨hb.os.trans h.os,hb.tape.trans h.tape,hb.output.trans h.output,Q5 h.size hb.size,λk hk hn=>(hb.block k (Q1 hk h.size)).trans (h.block k hk hn)⟩
theorem Jj {w U W:World} {g:Option Nat} (h:w.grownBy U g) (k:U.grownBy W g):w.grownBy W g:=
 ⟨k.os.trans h.os,k.tape.trans h.tape,k.output.trans h.output,Q5 h.size k.size,λj hj hn=>(k.block j (Q1 hj h.size) hn).trans (h.block j hj hn)⟩
theorem wH (ds:List Dv) (us:Nat->Bool) (kind:ByteArray) (m n:Nat):(bA ds us kind m n).Nodup:=Dvs.kC ds us kind m n
theorem Jk {L:List Nat} (h:∀ j∈L,j<16) (hn:L.Nodup):L.length<=16:=by
 have:=List.Nodup.length_le_of_subset (l₂:=List.range 16) hn (λj hj=>List.mem_range.2 (h j hj))
 simpa using this
theorem lG {W W':World} {base:Nat} {e:TypeId} {sz:Nat} {v:Value} {n:Nat} {xs:List Value} (h:W.ownsRow base e sz v n xs) (hb:∀ g,v.ownBlock=some g->W'.heap[g]?=W.heap[g]?):W'.ownsRow base e sz v n xs:=by
 obtain ⟨h1,h2|⟨g,c,cur,rfl,r1,r2,r3⟩⟩:=h
 ·exact ⟨h1,.inl h2⟩
 ·exact ⟨h1,.inr ⟨g,c,cur,rfl,r1,(hb g rfl).trans r2,r3⟩⟩
theorem Jl {W:World} {g:Nat} {l:List Nat} (h:∀ k,k<l.length->W.cell? ⟨g,0+k,none⟩=some (.int .i64 (Dvs.nth (ints l) k))):∀ j u,(bG l)[j]?=some u->W.cell? ((⟨g,0,none⟩:Addr).add j)=some u:=by
 intro j u hu;have hj:j<l.length:=by rw [<- kF];exact (List.getElem?_eq_some_iff.1 hu).1
 rw [Addr.add_lit,h j hj,<- hu]
 simp [bG,ints,Dvs.nth,hj]
theorem Jm {W:World} {base N:Nat} {v:Value} {l:List Nat} (h:Row W base v l) (hN:N<=base):bj (fresh N W) v (l.map λ(k:Nat)=>(k:Int)):=by
 unfold Row at h;have h':=h
 rcases h.2 with ⟨rfl,h0⟩|⟨g,cap,cur,rfl,hg,hgc,hc1,hc2,_⟩
 ·have:=Qe h0
  subst this;exact ⟨none,0,rfl,⟨lR,Nat.zero_le _⟩,λh=>absurd h (Nat.lt_irrefl 0)⟩
 ·refine ⟨_,cap,by rw [Q9],by rw [Q9];exact ⟨hc1,hc2⟩,λ_=>⟨g,0,rfl,by rw [bw];exact (gS hgc).1,λk hk=>?_⟩⟩;rw [Q9] at hk;rw [gx (by omega),Qd,h'.cellAt k (by omega)]
  simp [bG,hk]
theorem Jn {L:List Nat} (h16:∀ j∈L,j<16) (hn:L.Nodup) {wr:World} {B:Nat} {a:Option Addr} {c:Nat} (h:Row wr B (.slice a L.length c) L) (hl:L.length<=1000) :
  Calls Tryz.prog 130 #[.slice a L.length c] wr λe w'=>e=.returned (.tuple #[])/\Row w' B (.slice a L.length c) (srt L)/\wr.grownBy w' (Value.slice a L.length c).ownBlock:=by
 have hsl:=Dvs.md h16 hn
 by_cases h0:L.length=0
 ·have hL:L=[]:=Qe h0;subst hL;refine (Any.slices_Sort_int_none Tryz.sortL9 _ _ _).mono ?_;rintro e w' ⟨rfl,rfl⟩;exact ⟨rfl,h,ow _ _⟩
 ·rcases h.2 with ⟨hv,hz⟩|⟨g,cap,cur,hv,hg,hgc,hc1,hc2,hc3,hc4⟩
  ·exact absurd hz h0
  ·injection hv with e1 e2 e3
   subst e1 e3
   have:=uN h16 hn hg hgc hc1 hc2 hc3 (by rw [Nat.mul_one] at hc4;exact hc4) (by omega)
   rw [hsl] at this;exact this
theorem wI {m:Ol.Mc} {ws:List Wi} {pm:Nat} {pg pin:Bool} (h:((pm,pg),pin)=Ol.place m ws) (hn:1<=m.nd/\m.nd<=15):pm<256:=by
 unfold Ol.place at h
 by_cases h0:m.pol=0
 ·rw [if_pos h0] at h
  have:pm=m.nd:=congrArg (λx=>x.1.1) h
  omega
 ·rw [if_neg h0] at h
  have:pm=(told m.pol m.nd ws).1:=congrArg (λx=>x.1.1) h
  rw [this];exact Ost.zO _ _ _ (by omega)
theorem Jo {ds:List Dv} {on:Nat} {ns:List Nd} {k:Nat} (h:k<ns.length) (us:Nat->Bool) (out:List Nat):Ol.bR ds on (ns.drop k) us out=if bP ds us (nd ns k).kind (nd ns k).many=0 then Ol.bR ds on (ns.drop (k+1)) (b8 us (bA ds us (nd ns k).kind on (nd ns k).many.toNat)) (out++srt (bA ds us (nd ns k).kind on (nd ns k).many.toNat)) else (bP ds us (nd ns k).kind (nd ns k).many,us,out):=by
 have e:ns.drop k=nd ns k :: ns.drop (k+1):=by rw [List.drop_eq_getElem_cons h];simp [nd,h]
 rw [e,Ol.bR]
theorem Jp {m:Ol.Mc} {s:Ol.Sk} {own:Int} {ns:List Nd} {pl:Hi} (h:(pl,false)=Ol.place m (Ol.ce m s own ns)):Ol.aY m s own ns=(10,⟨0,[]⟩,s.us):=by
 unfold Ol.aY;rw [<- h]
 simp
theorem Jq {m:Ol.Mc} {s:Ol.Sk} {own:Int} {ns:List Nd} {pl:Hi} (h:(pl,true)=Ol.place m (Ol.ce m s own ns)) (ht:(aN m.l s.cp own (af (aP pl.1) m.l)).2≠0):Ol.aY m s own ns=((aN m.l s.cp own (af (aP pl.1) m.l)).2.toNat,⟨0,[]⟩,s.us):=by
 unfold Ol.aY;rw [<- h];have ht2:(aN m.l s.cp own (af (λc=>pl.1.testBit c.node.toNat) m.l)).2≠0:=ht;simp only [Bool.true_eq_false,if_false,if_pos ht2];rfl
theorem Jr {m:Ol.Mc} {s:Ol.Sk} {own:Int} {ns:List Nd} {pl:Hi} (h:(pl,true)=Ol.place m (Ol.ce m s own ns)) (ht:(aN m.l s.cp own (af (aP pl.1) m.l)).2=0):Ol.aY m s own ns=if (Ol.bR s.ds pl.1 ns s.us []).1≠0 then ((Ol.bR s.ds pl.1 ns s.us []).1,⟨0,[]⟩,(Ol.bR s.ds pl.1 ns s.us []).2.1) else (0,⟨(aN m.l s.cp own (af (aP pl.1) m.l)).1,(srt (Ol.bR s.ds pl.1 ns s.us []).2.2).map λ(k:Nat)=>(k:Int)⟩,(Ol.bR s.ds pl.1 ns s.us []).2.1):=by
 unfold Ol.aY;rw [<- h];have ht2:¬ (aN m.l s.cp own (af (λc=>pl.1.testBit c.node.toNat) m.l)).2≠0:=λk=>k ht
 simp only [Bool.true_eq_false,if_false,if_neg ht2];rfl
theorem Js (l:List Cpu) (F:Nat) (L:Int) (on:Nat):(aN l F L on).2=0\/((aN l F L on).2≠0/\(aN l F L on).1=0/\(((aN l F L on).2.toNat:Nat):Int)=(aN l F L on).2/\(aN l F L on).2.toNat≠0):=by
 unfold aN
 split
 ·exact .inr ⟨by decide,rfl,by decide,by decide⟩
 ·split
  ·exact .inr ⟨by decide,rfl,by decide,by decide⟩
  ·exact .inl rfl
abbrev Jt:=λ(B tb:Nat) (m:Ol.Mc) (s:Ol.Sk) (pb:Nat) (w':World)=>w'.cell? ⟨B,0,none⟩=some (.pointer (some ⟨tb,0,none⟩))/\w'.cell? ⟨B,1,none⟩=some (.int .u64 m.op)/\w'.cell? ⟨B,2,none⟩=some (.int .u8 m.nd)/\w'.cell? ⟨B,3,none⟩=some (.int .i64 m.nb)/\w'.cell? ⟨B,4,none⟩=some (.int .i64 m.pol)/\w'.cell? ⟨B+1,0,none⟩=some (.int .u64 s.cp)/\w'.cell? ⟨B+1,1,none⟩=some (.pointer (some ⟨pb,0,none⟩))
theorem Ju (m:Ol.Mc) (s:Ol.Sk) (tb b o c pb db:Nat) (ao:Option Addr) (pc:Nat) (own:Int) (v:Value) (ns:List Nd) (w:World) (hm:cI w tb b o c m) (hs:de w pb db ao pc s) (hv:bc (ag (λj=>j=pb) w) v ns) (hl:ns.length<=3) (hmany:∀ n∈ns,1<=n.many) :
  Calls Tryz.prog 94 #[mV m tb,sV s pb,.int .i64 own,v] w λe w'=>(∃ ua un uc,e=.returned (.tuple #[.agg #[.int .u64 (Ol.aY m s own ns).2.1.cp,.slice ua un uc],ak ((Ol.aY m s own ns).1:Nat)])/\((Ol.aY m s own ns).1=0->bj (fresh w.heap.size w') (.slice ua un uc) (Ol.aY m s own ns).2.1.dv/\ap w' pb db ao pc s.ds (Ol.aY m s own ns).2.2))/\w.grownBy w' (some pb):=by
 obtain ⟨i0,hi,hz0,hz1,hz2⟩:=info_parts tG;unfold mV sV;have HM:=qI hm;have HSK:=qI hs;have HNE:=qI (hv.le (ci _ _));have HNM:=qI hv;have HMANY:=qI hmany;have hpbl:=hs.pool.lt;have hnd:=hm.nd;obtain ⟨pl,hpl⟩:∃ x,x=Ol.place m (Ol.ce m s own ns):=⟨_,rfl⟩;have HPL:=qI hpl;have HMG:=qI (λ(W:World) (u:Value) (hu:fA W u (Ol.ce m s own ns))=>I9 m s own ns u W hu hl hm.nd hm.pol);rw [<- hpl] at HMG;clear hpl;obtain ⟨⟨pm,pg⟩,pin⟩:=pl;dsimp only at HMG;obtain ⟨na,nc,rfl,hnm,hnr⟩:=hv;unfold maxLen at hnm;have HNR:=qI hnr;have sz:(((w.alloc (.cells #[.pointer (some ⟨tb,0,none⟩),.int .u64 m.op,.int .u8 m.nd,.int .i64 m.nb,.int .i64 m.pol] 95)).alloc (.cells #[.int .u64 s.cp,.pointer (some ⟨pb,0,none⟩)] 98)).alloc (.cells #[.int .u64 0,.slice none 0 0] 69)).heap.size=w.heap.size+3:=by simp
 have HU2:=qI (aG ((w.alloc (.cells #[.pointer (some ⟨tb,0,none⟩),.int .u64 m.op,.int .u8 m.nd,.int .i64 m.nb,.int .i64 m.pol] 95)).alloc (.cells #[.int .u64 s.cp,.pointer (some ⟨pb,0,none⟩)] 98)) (.cells #[.int .u64 0,.slice none 0 0] 69) (n:=w.heap.size+2) (by simp));have HU1:=qI (bx (aG (w.alloc (.cells #[.pointer (some ⟨tb,0,none⟩),.int .u64 m.op,.int .u8 m.nd,.int .i64 m.nb,.int .i64 m.pol] 95)) (.cells #[.int .u64 s.cp,.pointer (some ⟨pb,0,none⟩)] 98) (n:=w.heap.size+1) (by simp)) (.cells #[.int .u64 0,.slice none 0 0] 69));have HU0:=qI (bx (bx (aG w (.cells #[.pointer (some ⟨tb,0,none⟩),.int .u64 m.op,.int .u8 m.nd,.int .i64 m.nb,.int .i64 m.pol] 95) rfl) (.cells #[.int .u64 s.cp,.pointer (some ⟨pb,0,none⟩)] 98)) (.cells #[.int .u64 0,.slice none 0 0] 69));have HBU:=qI ((((Q0 w.heap.size w).alloc (lR) (.cells #[.pointer (some ⟨tb,0,none⟩),.int .u64 m.op,.int .u8 m.nd,.int .i64 m.nb,.int .i64 m.pol] 95)).alloc (by simp) (.cells #[.int .u64 s.cp,.pointer (some ⟨pb,0,none⟩)] 98)).alloc (by simp;omega) (.cells #[.int .u64 0,.slice none 0 0] 69));clear hm hs hnr hmany
 go_enter Tryz.func94,Tryz.ntmps94
 go_upto_region 1 with fail
 generalize (((w.alloc (.cells #[.pointer (some ⟨tb,0,none⟩),.int .u64 m.op,.int .u8 m.nd,.int .i64 m.nb,.int .i64 m.pol] 95)).alloc (.cells #[.int .u64 s.cp,.pointer (some ⟨pb,0,none⟩)] 98)).alloc (.cells #[.int .u64 0,.slice none 0 0] 69))=U at *;generalize hB:w.heap.size=B at *;have HBW:Hid (∀ W,Below U.heap.size U W->Below w.heap.size w W):=λW hb=>(show Below w.heap.size w U from hB ▸ HBU.out).trans (hb.mono (by omega))
 have HSB:Hid (∀ W,Below U.heap.size U W->(Jt B tb m s pb) W):=λW hb=>⟨ad ((hb.block (B) (by omega)).trans HU0.out) 0,ad ((hb.block (B) (by omega)).trans HU0.out) 1,ad ((hb.block (B) (by omega)).trans HU0.out) 2,ad ((hb.block (B) (by omega)).trans HU0.out) 3,ad ((hb.block (B) (by omega)).trans HU0.out) 4,ad ((hb.block (B+1) (by omega)).trans HU1.out) 0,ad ((hb.block (B+1) (by omega)).trans HU1.out) 1⟩
 go_cut [10,11,12] (λp10 b11 e12 wc=>∃ Bp,p10=.pointer (some ⟨Bp,0,none⟩)/\b11=.bool pin/\e12=.nilIface/\wc.heap[Bp]?=some (.cells #[.int .u8 (pm:Nat),.bool pg] 223 (0,0))/\U.heap.size<=Bp/\Below U.heap.size U wc)
 case first=>
  have HBd:Hid (Below U.heap.size U U.drew):=bf (Q0 _ _);refine Qo (by kernel_rfl) (HSB.out _ HBd.out) (λhHeld=>?_);generalize U.drew=V at *;refine tk 0 ?_;refine tk 1 ?_;refine tk 2 ?_;refine tk 3 ?_;refine tk 4 ?_;refine tk 5 ?_;refine tk 6 ?_;refine tk 7 ?_;refine wpAnyH_ready (rs:=[8,14]) (by kernel_rfl) (by simp) (AllReadyH.cons rfl (λK hK=>?_) (AllReadyH.cons rfl (λK hK=>?_) AllReadyH.nil))
  ·go_simp
   go_wp2_with fail
   refine (wG m s tb b o c pb db ao pc own _ ns V (HM.out.below (HBW.out _ HBd.out)) (HSK.out.below (HBW.out _ HBd.out)) (HNE.out.below (HBW.out _ HBd.out)) (by omega)).mono ?_;rintro e W1 ⟨v1,rfl,hw1,hb1⟩;have HB1:=qI (HBd.out.trans (hb1.mono HBd.out.size));have HW1:=qI hw1;clear hw1 hb1
   go_wp2
   refine hK.out _ _ (HSB.out _ HB1.out) (λhHeld=>?_);clear hK K;refine wpAnyH_ready (rs:=[9,14]) (by kernel_rfl) (by simp) (AllReadyH.cons rfl (λK hK=>?_) (AllReadyH.cons rfl (λK hK=>?_) AllReadyH.nil))
   ·go_simp
    go_wp2_with fail
    refine (HMG.out W1 _ HW1.out).mono ?_;rintro e W2 ⟨rfl,hb2⟩;have HB2:=qI (HB1.out.trans (hb2.mono HB1.out.size));clear hb2
    go_wp2
    refine hK.out _ _ (HSB.out _ HB2.out) (λhHeld=>?_);clear hK K;refine tk 10 ?_;refine tk 11 ?_;refine tk 12 ?_;refine tk 13 ?_;refine rd 14 (λK hK=>?_);have HB3:=qI (HB2.out.alloc HB2.out.size (.cells #[.int .u8 0,.bool false] 223));have HP3:=qI (aG W2 (.cells #[.int .u8 0,.bool false] 223) rfl);have hlt3:W2.heap.size<(W2.alloc (.cells #[.int .u8 0,.bool false] 223)).heap.size:=by simp
    have hge3:=HB2.out.size;go_simp
    go_wp2
    refine hK.out _ _ (HSB.out _ HB3.out) (λhHeld=>?_);clear hK K;generalize W2.alloc (.cells #[.int .u8 0,.bool false] 223)=W3 at *;refine rd 15 (λK hK=>?_);have c0_4:W3.cell? ⟨W2.heap.size,0,none⟩=some (.int .u8 0):=ad HP3.out 0;have c1_4:W3.cell? ⟨W2.heap.size,1,none⟩=some (.bool false):=ad HP3.out 1;have f0_4:=aq HP3.out 0;have f1_4:=aq HP3.out 1;have HB4:=qI ((HB3.out.setCell (p:=⟨W2.heap.size,0,none⟩) hge3 (.int .u8 (pm:Nat))).setCell (p:=⟨W2.heap.size,1,none⟩) hge3 (.bool pg));have HP4:=qI (aj (aj HP3.out 0 (.int .u8 (pm:Nat))) 1 (.bool pg));go_simp
    go_wp2
    refine hK.out _ _ (HSB.out _ HB4.out) (λhHeld=>?_);clear hK K;refine tk 16 ?_;refine tk 17 ?_;refine Qn (by kernel_rfl) ?_ _
    go_wp2
    go_meet
    exact ⟨_,rfl,rfl,rfl,HP4.out,hge3,HB4.out⟩
   ·have HB5:=qI (HB1.out.alloc HB1.out.size (.cells #[.int .u8 0,.bool false] 223));have HP5:=qI (aG W1 (.cells #[.int .u8 0,.bool false] 223) rfl);have hlt5:W1.heap.size<(W1.alloc (.cells #[.int .u8 0,.bool false] 223)).heap.size:=by simp
    have hge5:=HB1.out.size;have HW5:=qI (HW1.out.below ((Q0 _ _).alloc (lR) (.cells #[.int .u8 0,.bool false] 223)));go_simp
    go_wp2
    refine hK.out _ _ (HSB.out _ HB5.out) (λhHeld=>?_);clear hK K;generalize W1.alloc (.cells #[.int .u8 0,.bool false] 223)=W5 at *;refine rd 9 (λK hK=>?_);go_simp
    go_wp2_with fail
    refine (HMG.out W5 _ HW5.out).mono ?_;rintro e W6 ⟨rfl,hb6⟩;have HB6:=qI (HB5.out.trans (hb6.mono HB5.out.size));have HP6:=qI ((hb6.block _ hlt5).trans HP5.out);have hlt6:=Q1 hlt5 hb6.size;clear hb6
    go_wp2
    refine hK.out _ _ (HSB.out _ HB6.out) (λhHeld=>?_);clear hK K;refine tk 10 ?_;refine tk 11 ?_;refine tk 12 ?_;refine tk 13 ?_;refine rd 15 (λK hK=>?_);have c0_7:W6.cell? ⟨W1.heap.size,0,none⟩=some (.int .u8 0):=ad HP6.out 0;have c1_7:W6.cell? ⟨W1.heap.size,1,none⟩=some (.bool false):=ad HP6.out 1;have f0_7:=aq HP6.out 0;have f1_7:=aq HP6.out 1;have HB7:=qI ((HB6.out.setCell (p:=⟨W1.heap.size,0,none⟩) hge5 (.int .u8 (pm:Nat))).setCell (p:=⟨W1.heap.size,1,none⟩) hge5 (.bool pg));have HP7:=qI (aj (aj HP6.out 0 (.int .u8 (pm:Nat))) 1 (.bool pg));go_simp
    go_wp2
    refine hK.out _ _ (HSB.out _ HB7.out) (λhHeld=>?_);clear hK K;refine tk 16 ?_;refine tk 17 ?_;refine Qn (by kernel_rfl) ?_ _
    go_wp2
    go_meet
    exact ⟨_,rfl,rfl,rfl,HP7.out,hge5,HB7.out⟩
  ·have HB8:=qI (HBd.out.alloc HBd.out.size (.cells #[.int .u8 0,.bool false] 223));have HP8:=qI (aG V (.cells #[.int .u8 0,.bool false] 223) rfl);have hlt8:V.heap.size<(V.alloc (.cells #[.int .u8 0,.bool false] 223)).heap.size:=by simp
   have hge8:=HBd.out.size;go_simp
   go_wp2
   refine hK.out _ _ (HSB.out _ HB8.out) (λhHeld=>?_);clear hK K;generalize V.alloc (.cells #[.int .u8 0,.bool false] 223)=W8 at *;refine rd 8 (λK hK=>?_);go_simp
   go_wp2_with fail
   refine (wG m s tb b o c pb db ao pc own _ ns W8 (HM.out.below (HBW.out _ HB8.out)) (HSK.out.below (HBW.out _ HB8.out)) (HNE.out.below (HBW.out _ HB8.out)) (by omega)).mono ?_;rintro e W9 ⟨v9,rfl,hw9,hb9⟩;have HB9:=qI (HB8.out.trans (hb9.mono HB8.out.size));have HW9:=qI hw9;have HP9:=qI ((hb9.block _ hlt8).trans HP8.out);have hlt9:=Q1 hlt8 hb9.size;clear hw9 hb9
   go_wp2
   refine hK.out _ _ (HSB.out _ HB9.out) (λhHeld=>?_);clear hK K;refine rd 9 (λK hK=>?_);go_simp
   go_wp2_with fail
   refine (HMG.out W9 _ HW9.out).mono ?_;rintro e W10 ⟨rfl,hb10⟩;have HB10:=qI (HB9.out.trans (hb10.mono HB9.out.size));have HP10:=qI ((hb10.block _ hlt9).trans HP9.out);have hlt10:=Q1 hlt9 hb10.size;clear hb10
   go_wp2
   refine hK.out _ _ (HSB.out _ HB10.out) (λhHeld=>?_);clear hK K;refine tk 10 ?_;refine tk 11 ?_;refine tk 12 ?_;refine tk 13 ?_;refine rd 15 (λK hK=>?_);have c0_11:W10.cell? ⟨V.heap.size,0,none⟩=some (.int .u8 0):=ad HP10.out 0;have c1_11:W10.cell? ⟨V.heap.size,1,none⟩=some (.bool false):=ad HP10.out 1;have f0_11:=aq HP10.out 0;have f1_11:=aq HP10.out 1;have HB11:=qI ((HB10.out.setCell (p:=⟨V.heap.size,0,none⟩) hge8 (.int .u8 (pm:Nat))).setCell (p:=⟨V.heap.size,1,none⟩) hge8 (.bool pg));have HP11:=qI (aj (aj HP10.out 0 (.int .u8 (pm:Nat))) 1 (.bool pg));go_simp
   go_wp2
   refine hK.out _ _ (HSB.out _ HB11.out) (λhHeld=>?_);clear hK K;refine tk 16 ?_;refine tk 17 ?_;refine Qn (by kernel_rfl) ?_ _
   go_wp2
   go_meet
   exact ⟨_,rfl,rfl,rfl,HP11.out,hge8,HB11.out⟩
 case rest=>
  obtain ⟨Bp,rfl,rfl,rfl,hbp,hbpl,hbc⟩:=hcut;have HBP:=qI hbp;have HBC:=qI hbc;have HWG:Hid (∀ W,U.grownBy W (some pb)->w.grownBy W (some pb)):=λW h=>grown_of (show Below w.heap.size w U from hB ▸ HBU.out) h
  have hsc:=hbc.size;have hbl:Bp<wc.heap.size:=(gS hbp).1;have hpb:pb<B:=by omega
  clear HMG hbp hbc
  rcases two pin with hpin|hpin
  ·subst hpin;obtain ⟨q0,q1,q2,q3,q4,q5,q6⟩:=HSB.out _ HBC.out;have p0:wc.cell? ⟨Bp,0,none⟩=some (.int .u8 (pm:Nat)):=ad HBP.out 0;have HTK:=qI (Cb tb b o c s.cp pm own m.l wc (HM.out.below (HBW.out _ HBC.out)).topo HM.out.good HSK.out.cp (wI HPL.out hnd));obtain ⟨tk,htk⟩:∃ x,x=aN m.l s.cp own (af (aP pm) m.l):=⟨_,rfl⟩;have HT:=qI htk;have hte:=Js m.l s.cp own (af (aP pm) m.l);rw [<- htk] at HTK hte;clear htk
   go_wp2_with fail
   refine HTK.out.mono ?_;rintro e W1 ⟨rfl,hb1⟩;have HB1:=qI (HBC.out.trans (hb1.mono hsc));have hs1:=hb1.size;have HP1:=qI ((hb1.block Bp hbl).trans HBP.out);have HG1:=qI ((HB1.out.block (B+2) (by omega)).trans HU2.out);clear hb1 q0 q1 q2 q3 q4 q5 q6 p0 HTK;obtain ⟨tc,te⟩:=tk;unfold il;dsimp only at hte ⊢
   rcases hte with hte|⟨hte,hte1,hte2,hte3⟩
   ·subst hte;rw [show ak (0:Int)=.nilIface from rfl];have HDV:=qI (Jr HPL.out (by rw [<- HT.out]));rw [<- HT.out] at HDV;dsimp only at HDV;have HPL1:Hid (ap W1 pb db ao pc s.ds s.us):=HSK.out.pool.below (HBW.out _ HB1.out);have hpm:=wI HPL.out hnd
    go_wp2
    go_loopw [14,58] (λpv i wr=>∃ (k:Nat) (us:Nat->Bool) (out:List Nat),k<=ns.length/\i=.int .i64 k/\Row wr W1.heap.size pv out/\ap wr pb db ao pc s.ds us/\Ol.bR s.ds pm ns s.us []=Ol.bR s.ds pm (ns.drop k) us out/\out.length<=16*k/\Apart (λj=>j=pb\/W1.heap.size<=j) W1 wr) (λ_ i _=>ns.length - (intOf i).toNat)
    case atStart=>exact ⟨0,s.us,[],by omega,rfl,Qw _ _ _ _,HPL1.out,by rw [List.drop_zero],by simp,Apart.refl _ _⟩
    case round=>
     obtain ⟨k,us,out,hk,rfl,hrow,hpool,hdev,hol,hap⟩:=hrel;have HROW:=qI hrow;have HPOOL:=qI hpool;have HDEV:=qI hdev;have HAP:=qI hap;have hsr:=hap.size;obtain ⟨va,vc,hvv⟩:=gO hrow;subst hvv;clear hrow hpool hdev;have HGW:Hid (w.grownBy wr (some pb)):=grown_of (HBW.out _ HB1.out) ⟨hap.os,hap.tape,hap.output,hap.size,λj hj hn=>hap.block j hj (λh=>by rcases h with h|h;exact hn (by rw [h]);omega)⟩;have HPR:=qI ((hap.block Bp (by omega) (by omega)).trans HP1.out);have HGR:=qI ((hap.block (B+2) (by omega) (by omega)).trans HG1.out);have HSR:=qI ((hap.block (B+1) (by omega) (by omega)).trans ((HB1.out.block (B+1) (by omega)).trans HU1.out))
     by_cases hlt:k<ns.length
     ·obtain ⟨nb,no,rfl,hnlt,hnc⟩:=HNR.out (by omega);rw [bw] at hnlt;have m0:=(hnc k hlt).1;have m1:=(hnc k hlt).2;have hnp:some nb≠some pb:=λe=>dV m0 (by injection e)
      have c0:wr.cell? ⟨nb,no+k*2,none⟩=some (.string (nd ns k).kind):=(HGW.out.cell_far ⟨nb,no+k*2,none⟩ (by rw [hB];exact hB ▸ hnlt) hnp).trans ((ci _ _).cell _ _ _ m0);have c1:wr.cell? ⟨nb,no+k*2+1,none⟩=some (.int .i64 (nd ns k).many):=(HGW.out.cell_far ⟨nb,no+k*2+1,none⟩ (by rw [hB];exact hB ▸ hnlt) hnp).trans ((ci _ _).cell _ _ _ m1);have hmk:=HMANY.out (nd ns k) (by simp [nd,hlt]);have HDN:=qI (Jo (ds:=s.ds) (on:=pm) hlt us out);have hk1:(k:Int)<(ns.length:Int):=by omega
      clear hnc m0 m1 hnp;generalize nd ns k=x at *;have HBA:=qI ((Q0 wr.heap.size wr).alloc (lR) (.cells #[.string x.kind,.int .i64 x.many] 109));have HXA:=qI (aG wr (.cells #[.string x.kind,.int .i64 x.many] 109) rfl);have a0:(wr.alloc (.cells #[.string x.kind,.int .i64 x.many] 109)).cell? ⟨wr.heap.size,0,none⟩=some (.string x.kind):=ad HXA.out 0;have a1:(wr.alloc (.cells #[.string x.kind,.int .i64 x.many] 109)).cell? ⟨wr.heap.size,1,none⟩=some (.int .i64 x.many):=ad HXA.out 1;have s1:(wr.alloc (.cells #[.string x.kind,.int .i64 x.many] 109)).cell? ⟨B+1,1,none⟩=some (.pointer (some ⟨pb,0,none⟩)):=ad (bx HSR.out _) 1;have p0:(wr.alloc (.cells #[.string x.kind,.int .i64 x.many] 109)).cell? ⟨Bp,0,none⟩=some (.int .u8 (pm:Nat)):=ad (bx HPR.out _) 0;have HTK:=qI (F4 x.kind x.many pm (wr.alloc (.cells #[.string x.kind,.int .i64 x.many] 109)) pb db ao pc s.ds us (HPOOL.out.alloc _) HSK.out.nodes hpm);have hsA:(wr.alloc (.cells #[.string x.kind,.int .i64 x.many] 109)).heap.size=wr.heap.size+1:=by simp
      clear hap
      go_wp2_with fail
      generalize wr.alloc (.cells #[.string x.kind,.int .i64 x.many] 109)=W2 at *;refine HTK.out.mono ?_;rintro e W3 ⟨hno,hyes,hgr⟩;have hs3:=hgr.size;have HG3:=qI ((hgr.block (B+2) (by omega) (λe=>by injection e with e;omega)).trans ((HBA.out.block (B+2) (by omega)).trans HGR.out));have HGW3:=qI (Jj (Ji HGW.out HBA.out) hgr);clear a0 a1 s1 p0 c0 c1 HTK
      by_cases htf:bP s.ds us x.kind x.many=0
      ·obtain ⟨v3,g3,rfl,hnums,hdrop,hpool3⟩:=hyes htf;clear hno hyes hdrop;have HPOOL3:=qI hpool3;have hln:=Ol.ud (m:=pm) htf;have hl16:∀ j∈bA s.ds us x.kind pm x.many.toNat,j<16:=λj hj=>by have:=(Dvs.fV hj).1;have:=HSK.out.nodes.1;omega
       have hsl:=Dvs.md hl16 (wH _ _ _ _ _);have hle:=Jk hl16 (wH _ _ _ _ _);have HDX:Hid (Ol.bR s.ds pm ns s.us []=Ol.bR s.ds pm (ns.drop (k+1)) (b8 us (bA s.ds us x.kind pm x.many.toNat)) (out++srt (bA s.ds us x.kind pm x.many.toNat))):=by
        unfold Hid;rw [HDEV.out,HDN.out,if_pos htf]
       clear htf;generalize bA s.ds us x.kind pm x.many.toNat=L3 at *;generalize b8 us L3=us3 at *;have hq:1<=(srt L3).length/\(srt L3).length<=16:=by omega
       clear hln hl16 hsl hle HDN;obtain ⟨a3,c3,rfl,hn3⟩:=hnums;generalize srt L3=S3 at *;have hil:(ints S3).length=S3.length:=kG _;rw [hil] at hn3 ⊢;clear hil;obtain ⟨ha3,hg3,hc3⟩:=hn3 (by omega);subst ha3;have hlo:∀ b,(Value.slice va out.length vc).ownBlock=some b->W1.heap.size<=b/\b<wr.heap.size:=λb hb=>HROW.out.lt b hb
       have HROW3:=qI (show Row W3 W1.heap.size (.slice va out.length vc) out from lG HROW.out (λg hg=>(hgr.block g (by have:=(hlo g hg).2;omega) (λe=>by injection e with e;have:=(hlo g hg).1;omega)).trans (HBA.out.block g (hlo g hg).2)));have HN3:=qI (Jl (l:=S3) (g:=g3) hc3);have HDBW:=qI HSK.out.pool.at0;clear hc3 hn3 hpool3;dsimp only;rw [show (ak (((0:Nat)):Int))=.nilIface from rfl]
       go_wp2_with (at_builtin;refine wpList_append_own _ rfl _ _ 44 rfl W1.heap.size 3 i0 (.int .i64 0) 1 8 Tryz.underlying44 hi hz0 hz1 hz2 rfl (by decide) _ _ _ rfl HROW3.out ⟨g3,0,none⟩ (S3).length c3 (bG (S3)) rfl (by rw [kF,Nat.mul_one]) HN3.out (pE _) (by unfold maxLen;omega) (by omega) (by omega) ?_;intro v4 W4 hown4 hgr4 _)
       have HROW4:Hid (Row W4 W1.heap.size v4 (out++S3)):=by
        unfold Hid Row;rw [Q2];have e:bG (out++S3)=bG out++bG (S3):=by simp [bG]
        rw [e];exact hown4
       have HPOOL4:=qI (HPOOL3.out.kept hgr4 (λe=>by have:=(hlo pb e.symm).1;omega) (λh0 e=>by have:=(hlo db e.symm).1;have:=(HDBW.out h0).2.2;omega));have HAP4:Hid (Apart (λj=>j=pb\/W1.heap.size<=j) W1 W4):=(HAP.out.trans (Apart.of_below HBA.out)).trans ((eA hgr (λj hj _=>.inl (by injection hj with hj;exact hj.symm))).trans (eA hgr4 (λj hj _=>.inr (hlo j hj).1)));clear hown4 hgr4
       go_roundw
       case rel=>exact ⟨k+1,us3,out++S3,by omega,by go_num,HROW4.out,HPOOL4.out,HDX.out,by rw [Q2];omega,HAP4.out⟩
       case measure=>simp [intOf];omega
      ·obtain ⟨rfl,hb3⟩:=hno htf;have HEQ:Hid (Ol.aY m s own ns=(bP s.ds us x.kind x.many,⟨0,[]⟩,us)):=by
        unfold Hid;rw [HDV.out,HDEV.out,HDN.out,if_neg htf,if_pos htf]
       have HNZ:Hid ((Ol.aY m s own ns).1≠0):=by unfold Hid;rw [HEQ.out];exact htf
       have hee:=dI htf;have HEE:=qI hee;dsimp only;rw [hee];clear hno hyes htf hb3 hee;generalize bP s.ds us x.kind x.many=tf at *;have g0_3:W3.cell? ⟨B+2,0,none⟩=some (.int .u64 0):=ad HG3.out 0;have g1_3:W3.cell? ⟨B+2,1,none⟩=some (.slice none 0 0):=ad HG3.out 1;have f0_3:=aq HG3.out 0;have f1_3:=aq HG3.out 1;have HZ3:=qI (aj (aj HG3.out 0 (.int .u64 0)) 1 (.slice none 0 0));have HGR3:=qI (i7 (i7 HGW3.out (b:=B+2) (by omega) 0 (.int .u64 0)) (b:=B+2) (by omega) 1 (.slice none 0 0))
       go_wp2_with fail
       generalize ((W3.setCell ⟨B+2,0,none⟩ (.int .u64 0)).setCell ⟨B+2,1,none⟩ (.slice none 0 0))=WZ at *;(try simp only [Exit.inBlock,Exit.then]);refine bodyPost_ret (v:=.tuple #[.agg #[.int .u64 0,.slice none 0 0],.iface 121 (.int .i64 (tf:Nat))]) ?_ rfl ⟨⟨none,0,0,by rw [HEQ.out];dsimp only;rw [HEE.out];rfl,λh=>absurd h HNZ.out⟩,HGR3.out⟩;have r0:WZ.cell? ⟨B+2,0,none⟩=some (.int .u64 0):=ad HZ3.out 0;have r1:WZ.cell? ⟨B+2,1,none⟩=some (.slice none 0 0):=ad HZ3.out 1;rw [gY rfl];clear g0_3 g1_3 f0_3 f1_3;go_simp
     ·have hke:k=ns.length:=by omega
      subst hke;have HD0:Hid (Ol.bR s.ds pm ns s.us []=(0,us,out)):=by unfold Hid;rw [HDEV.out,List.drop_length];rfl
      have HEQ:Hid (Ol.aY m s own ns=(0,⟨tc,(srt out).map λ(k:Nat)=>(k:Int)⟩,us)):=by
       unfold Hid;rw [HDV.out,HD0.out];rfl
      obtain ⟨new,hnew,htall⟩:=Ol.ue HSK.out.nodes.1 pm ns s.us [] (by rw [HD0.out]);rw [HD0.out,List.nil_append] at hnew;dsimp only at hnew;subst hnew;have h16:∀ j∈out,j<16:=λj hj=>by have:=(htall.free j hj).1;have:=HSK.out.nodes.1;omega
      have hnd2:=htall.nodup;have HSORT:=qI (Jn (L:=out) h16 hnd2 HROW.out (by omega));have hlo:∀ b,(Value.slice va out.length vc).ownBlock=some b->W1.heap.size<=b/\b<wr.heap.size:=λb hb=>HROW.out.lt b hb
      have HDBW:=qI HSK.out.pool.at0;clear htall hnd2 hap
      go_wp2_with fail
      refine HSORT.out.mono ?_;rintro e W5 ⟨rfl,hrow5,hgr5⟩;have hs5:=hgr5.size;have HG5:=qI ((hgr5.block (B+2) (by omega) (λe=>by have:=(hlo (B+2) e.symm).1;omega)).trans HGR.out);have HPOOL5:=qI (HPOOL.out.kept hgr5 (λe=>by have:=(hlo pb e.symm).1;omega) (λh0 e=>by have:=(hlo db e.symm).1;have:=(HDBW.out h0).2.2;omega));have HGW5:Hid (w.grownBy W5 (some pb)):=⟨hgr5.os.trans HGW.out.os,hgr5.tape.trans HGW.out.tape,hgr5.output.trans HGW.out.output,Q5 HGW.out.size hgr5.size,λj hj hn=>(hgr5.block j (by have:=HGW.out.size;omega) (λe=>by have:=(hlo j e.symm).1;omega)).trans (HGW.out.block j hj hn)⟩;have HROW5:=qI hrow5;have hlo5:∀ b,(Value.slice va out.length vc).ownBlock=some b->W1.heap.size<=b/\b<W5.heap.size:=λb hb=>HROW5.out.lt b hb
      have g0:W5.cell? ⟨B+2,0,none⟩=some (.int .u64 0):=ad HG5.out 0;have g1:W5.cell? ⟨B+2,1,none⟩=some (.slice none 0 0):=ad HG5.out 1;have f0:=aq HG5.out 0;have f1:=aq HG5.out 1;have HZ:=qI (aj (aj HG5.out 0 (.int .u64 tc)) 1 (.slice va out.length vc));have HGRZ:=qI (i7 (i7 HGW5.out (b:=B+2) (by omega) 0 (.int .u64 tc)) (b:=B+2) (by omega) 1 (.slice va out.length vc));have HOTH:Hid (∀ j,j≠B+2->((W5.setCell ⟨B+2,0,none⟩ (.int .u64 tc)).setCell ⟨B+2,1,none⟩ (.slice va out.length vc)).heap[j]?=W5.heap[j]?):=λj hj=>(set_other hj).trans (set_other hj)
      have HROWZ:Hid (Row ((W5.setCell ⟨B+2,0,none⟩ (.int .u64 tc)).setCell ⟨B+2,1,none⟩ (.slice va out.length vc)) W1.heap.size (.slice va out.length vc) (srt out)):=lG HROW5.out (λg hg=>HOTH.out g (by have:=(hlo5 g hg).1;omega));have HPOOLZ:Hid (ap ((W5.setCell ⟨B+2,0,none⟩ (.int .u64 tc)).setCell ⟨B+2,1,none⟩ (.slice va out.length vc)) pb db ao pc s.ds us):=(HPOOL5.out.kept (bL _ ⟨B+2,0,none⟩ _) (λe=>by injection e with e;have e:pb=B+2:=e;omega) (λh0 e=>by injection e with e;have e:db=B+2:=e;have:=(HDBW.out h0).2.2;omega)).kept (bL _ ⟨B+2,1,none⟩ _) (λe=>by injection e with e;have e:pb=B+2:=e;omega) (λh0 e=>by injection e with e;have e:db=B+2:=e;have:=(HDBW.out h0).2.2;omega);clear hrow5 hgr5
      go_wp2_with fail
      generalize ((W5.setCell ⟨B+2,0,none⟩ (.int .u64 tc)).setCell ⟨B+2,1,none⟩ (.slice va out.length vc))=WZ at *;(try simp only [Exit.inBlock,Exit.then]);refine bodyPost_ret (v:=.tuple #[.agg #[.int .u64 tc,.slice va out.length vc],.nilIface]) ?_ rfl ⟨⟨va,out.length,vc,by rw [HEQ.out];rfl,λ_=>?_⟩,HGRZ.out⟩
      ·have r0:WZ.cell? ⟨B+2,0,none⟩=some (.int .u64 tc):=ad HZ.out 0;have r1:WZ.cell? ⟨B+2,1,none⟩=some (.slice va out.length vc):=ad HZ.out 1;rw [gY rfl];clear g0 g1 f0 f1;go_simp
      ·rw [HEQ.out];exact ⟨Jm HROWZ.out (by omega),HPOOLZ.out⟩
   ·subst hte1;have HEQ:Hid (Ol.aY m s own ns=(te.toNat,⟨0,[]⟩,s.us)):=by
     have:=Jq HPL.out (by rw [<- HT.out];exact hte)
     rw [<- HT.out] at this;exact this
    have HNZ:Hid ((Ol.aY m s own ns).1≠0):=by unfold Hid;rw [HEQ.out];exact hte3
    have HTE:=qI hte2;have hee:ak te=.iface 121 (.int .i64 te):=by unfold ak;rw [if_neg hte]
    rw [hee];have HEE:=qI hee;clear hte hte2 hte3 hee;have g0_1:W1.cell? ⟨B+2,0,none⟩=some (.int .u64 0):=ad HG1.out 0;have g1_1:W1.cell? ⟨B+2,1,none⟩=some (.slice none 0 0):=ad HG1.out 1;have f0_1:=aq HG1.out 0;have f1_1:=aq HG1.out 1;have HZ1:=qI (aj (aj HG1.out 0 (.int .u64 0)) 1 (.slice none 0 0));have HGR1:=qI (i7 (i7 (HWG.out _ (dF HB1.out _)) (b:=B+2) (by omega) 0 (.int .u64 0)) (b:=B+2) (by omega) 1 (.slice none 0 0))
    go_wp2_with fail
    generalize ((W1.setCell ⟨B+2,0,none⟩ (.int .u64 0)).setCell ⟨B+2,1,none⟩ (.slice none 0 0))=WZ at *;(try simp only [Exit.inBlock,Exit.then]);refine bodyPost_ret (v:=.tuple #[.agg #[.int .u64 0,.slice none 0 0],.iface 121 (.int .i64 te)]) ?_ rfl ⟨⟨none,0,0,by rw [HEQ.out];dsimp only;rw [HTE.out,HEE.out];rfl,λh=>absurd h HNZ.out⟩,HGR1.out⟩;have r0:WZ.cell? ⟨B+2,0,none⟩=some (.int .u64 0):=ad HZ1.out 0;have r1:WZ.cell? ⟨B+2,1,none⟩=some (.slice none 0 0):=ad HZ1.out 1;rw [gY rfl];clear g0_1 g1_1 f0_1 f1_1;go_simp
  ·subst hpin;have HEQ:=qI (Jp HPL.out);have HNZ:Hid ((Ol.aY m s own ns).1≠0):=by unfold Hid;rw [HEQ.out];exact (by decide:(10:Nat)≠0)
   have HG0:=qI ((HBC.out.block (B+2) (by omega)).trans HU2.out);have g0_2:wc.cell? ⟨B+2,0,none⟩=some (.int .u64 0):=ad HG0.out 0;have g1_2:wc.cell? ⟨B+2,1,none⟩=some (.slice none 0 0):=ad HG0.out 1;have f0_2:=aq HG0.out 0;have f1_2:=aq HG0.out 1;have HZ2:=qI (aj (aj HG0.out 0 (.int .u64 0)) 1 (.slice none 0 0));have HGR2:=qI (i7 (i7 (HWG.out _ (dF HBC.out _)) (b:=B+2) (by omega) 0 (.int .u64 0)) (b:=B+2) (by omega) 1 (.slice none 0 0))
   go_wp2_with fail
   generalize ((wc.setCell ⟨B+2,0,none⟩ (.int .u64 0)).setCell ⟨B+2,1,none⟩ (.slice none 0 0))=WZ at *;(try simp only [Exit.inBlock,Exit.then]);refine bodyPost_ret (v:=.tuple #[.agg #[.int .u64 0,.slice none 0 0],.iface 121 (.int .i64 10)]) ?_ rfl ⟨⟨none,0,0,by rw [HEQ.out];rfl,λh=>absurd h HNZ.out⟩,HGR2.out⟩;have r0:WZ.cell? ⟨B+2,0,none⟩=some (.int .u64 0):=ad HZ2.out 0;have r1:WZ.cell? ⟨B+2,1,none⟩=some (.slice none 0 0):=ad HZ2.out 1;rw [gY rfl];clear g0_2 g1_2 f0_2 f1_2;go_simp
end
