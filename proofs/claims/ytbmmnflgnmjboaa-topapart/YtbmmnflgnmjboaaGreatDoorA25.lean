import Derived.Test.YtbmmnflgnmjboaaGreatDoorA24
import Derived.Test.YtbmmnflgnmjboaaGreatDoorA20
import Derived.Deep.DeepCutAuto
set_option maxRecDepth 100000
set_option maxHeartbeats 16000000
namespace Go.Proofs.YtbmmnflgnmjboaaGreatDoor
section
open RowKit Shelf
open Ost (Cpu N4 Wi Hi wi0 told Sm Low af aN ae)
open Qos (Nd nd)
open Dvs (Dv dv fits bG cn aX bT bC cf srt)
attribute [local go_sem] Oper.semAt_some
theorem iD {fn:Func} {p u:Tmp} {ty:TypeId} (h:fn.results=#[.cell p ty,.tmp u]) (tmps:Array Value) (P:Program) (w:World) :
  (results fn tmps).run P w=((asAddr (tmps.getD p undef)).run P w).andThen λa w₁=>((loadVar ty a).run P w₁).andThen λv w₂=>.ok (.tuple #[v,tmps.getD u undef]) w₂:=by
 simp only [results,h]
 simp [Sem.run_bind,Result.andThen]
theorem jM {w W:World} {g:Option Nat} (h:w.grownBy W g) {b:Nat} (hb:w.heap.size<=b) (j:Nat) (v:Value):w.grownBy (W.setCell ⟨b,j,none⟩ v) g:=
 ⟨h.os,h.tape,h.output,by simpa using h.size,λk hk hn=>(Below.heap_setCell _ _ _ _ (by show k≠b;omega)).trans (h.block k hk hn)⟩
theorem grown_of {w U W:World} {g:Option Nat} (hb:Below w.heap.size w U) (h:U.grownBy W g):w.grownBy W g:=
 ⟨h.os.trans hb.os,h.tape.trans hb.tape,h.output.trans hb.output,Q5 hb.size h.size,λk hk hn=>(h.block k (Q1 hk hb.size) hn).trans (hb.block k hk)⟩
theorem K2 {w U W:World} {g:Option Nat} (h:w.grownBy U g) (hb:Below U.heap.size U W):w.grownBy W g:=
 ⟨hb.os.trans h.os,hb.tape.trans h.tape,hb.output.trans h.output,Q5 h.size hb.size,λk hk hn=>(hb.block k (Q1 hk h.size)).trans (h.block k hk hn)⟩
theorem K6 {w U W:World} {g:Option Nat} (h:w.grownBy U g) (k:U.grownBy W g):w.grownBy W g:=
 ⟨k.os.trans h.os,k.tape.trans h.tape,k.output.trans h.output,Q5 h.size k.size,λj hj hn=>(k.block j (Q1 hj h.size) hn).trans (h.block j hj hn)⟩
theorem zg (ds:List Dv) (us:Nat->Bool) (kind:ByteArray) (m n:Nat):(bC ds us kind m n).Nodup:=Dvs.lX ds us kind m n
theorem K7 {L:List Nat} (h:∀ j∈L,j<16) (hn:L.Nodup):L.length<=16:=by
 have:=List.Nodup.length_le_of_subset (l₂:=List.range 16) hn (λj hj=>List.mem_range.2 (h j hj))
 simpa using this
theorem m6 {W W':World} {base:Nat} {e:TypeId} {sz:Nat} {v:Value} {n:Nat} {xs:List Value} (h:W.ownsRow base e sz v n xs) (hb:∀ g,v.ownBlock=some g->W'.heap[g]?=W.heap[g]?):W'.ownsRow base e sz v n xs:=by
 obtain ⟨h1,h2|⟨g,c,cur,rfl,r1,r2,r3⟩⟩:=h
 ·exact ⟨h1,.inl h2⟩
 ·exact ⟨h1,.inr ⟨g,c,cur,rfl,r1,(hb g rfl).trans r2,r3⟩⟩
theorem K8 {W:World} {g:Nat} {l:List Nat} (h:∀ k,k<l.length->W.cell? ⟨g,0+k,none⟩=some (.int .i64 (Dvs.nth (ints l) k))):∀ j u,(bI l)[j]?=some u->W.cell? ((⟨g,0,none⟩:Addr).add j)=some u:=by
 intro j u hu;have hj:j<l.length:=by rw [<- l6];exact (List.getElem?_eq_some_iff.1 hu).1
 rw [Addr.add_lit,h j hj,<- hu]
 simp [bI,ints,Dvs.nth,hj]
theorem K9 {W:World} {base N:Nat} {v:Value} {l:List Nat} (h:Row W base v l) (hN:N<=base):bu (fresh N W) v (l.map λ(k:Nat)=>(k:Int)):=by
 unfold Row at h;have h':=h
 rcases h.2 with ⟨rfl,h0⟩|⟨g,cap,cur,rfl,hg,Hb,Ha,Hc,_⟩
 ·have:=Qe h0
  subst this;exact ⟨none,0,rfl,⟨lR,Nat.zero_le _⟩,λh=>absurd h (Nat.lt_irrefl 0)⟩
 ·refine ⟨_,cap,by rw [Q9],by rw [Q9];exact ⟨Ha,Hc⟩,λ_=>⟨g,0,rfl,by rw [bx];exact (gS Hb).1,λk hk=>?_⟩⟩;rw [Q9] at hk;rw [gX (by omega),Qd,h'.cellAt k (by omega)]
  simp [bI,hk]
theorem La {L:List Nat} (h16:∀ j∈L,j<16) (hn:L.Nodup) {wr:World} {B:Nat} {a:Option Addr} {c:Nat} (h:Row wr B (.slice a L.length c) L) (hl:L.length<=1000) :
  Calls Tryz.prog 130 #[.slice a L.length c] wr λe w'=>e=.returned (.tuple #[])/\Row w' B (.slice a L.length c) (srt L)/\wr.grownBy w' (Value.slice a L.length c).ownBlock:=by
 have Hf:=Dvs.nU h16 hn
 by_cases h0:L.length=0
 ·have hL:L=[]:=Qe h0;subst hL;refine (Any.slices_Sort_int_none Tryz.sortL9 _ _ _).mono ?_;rintro e w' ⟨rfl,rfl⟩;exact ⟨rfl,h,qd _ _⟩
 ·rcases h.2 with ⟨hv,hz⟩|⟨g,cap,cur,hv,hg,Hc,He,Hb,Hg,Ha⟩
  ·exact absurd hz h0
  ·injection hv with e1 e2 e3
   subst e1 e3
   have:=xO h16 hn hg Hc He Hb Hg (by rw [Nat.mul_one] at Ha;exact Ha) (by omega)
   rw [Hf] at this;exact this
theorem zi {m:Ol.Mc} {ws:List Wi} {pm:Nat} {pg pin:Bool} (h:((pm,pg),pin)=Ol.place m ws) (hn:1<=m.nd/\m.nd<=15):pm<256:=by
 unfold Ol.place at h
 by_cases h0:m.pol=0
 ·rw [if_pos h0] at h
  have:pm=m.nd:=congrArg (λx=>x.1.1) h
  omega
 ·rw [if_neg h0] at h
  have:pm=(told m.pol m.nd ws).1:=congrArg (λx=>x.1.1) h
  rw [this];exact Ost.Cg _ _ _ (by omega)
theorem Lb {ds:List Dv} {on:Nat} {ns:List Nd} {k:Nat} (h:k<ns.length) (us:Nat->Bool) (out:List Nat):Ol.b7 ds on (ns.drop k) us out=if bT ds us (nd ns k).kind (nd ns k).many=0 then Ol.b7 ds on (ns.drop (k+1)) (cf us (bC ds us (nd ns k).kind on (nd ns k).many.toNat)) (out++srt (bC ds us (nd ns k).kind on (nd ns k).many.toNat)) else (bT ds us (nd ns k).kind (nd ns k).many,us,out):=by
 have e:ns.drop k=nd ns k :: ns.drop (k+1):=by rw [List.drop_eq_getElem_cons h];simp [nd,h]
 rw [e,Ol.b7]
theorem Lc {m:Ol.Mc} {s:Ol.Sk} {own:Int} {ns:List Nd} {pl:Hi} (h:(pl,false)=Ol.place m (Ol.cu m s own ns)):Ol.bc m s own ns=(10,⟨0,[]⟩,s.us):=by
 unfold Ol.bc;rw [<- h]
 simp
theorem Ld {m:Ol.Mc} {s:Ol.Sk} {own:Int} {ns:List Nd} {pl:Hi} (h:(pl,true)=Ol.place m (Ol.cu m s own ns)) (ht:(aN m.l s.cp own (ae (aT pl.1) m.l)).2≠0):Ol.bc m s own ns=((aN m.l s.cp own (ae (aT pl.1) m.l)).2.toNat,⟨0,[]⟩,s.us):=by
 unfold Ol.bc;rw [<- h];have Ha:(aN m.l s.cp own (ae (λc=>pl.1.testBit c.node.toNat) m.l)).2≠0:=ht;simp only [Bool.true_eq_false,if_false,if_pos Ha];rfl
theorem Le {m:Ol.Mc} {s:Ol.Sk} {own:Int} {ns:List Nd} {pl:Hi} (h:(pl,true)=Ol.place m (Ol.cu m s own ns)) (ht:(aN m.l s.cp own (ae (aT pl.1) m.l)).2=0):Ol.bc m s own ns=if (Ol.b7 s.ds pl.1 ns s.us []).1≠0 then ((Ol.b7 s.ds pl.1 ns s.us []).1,⟨0,[]⟩,(Ol.b7 s.ds pl.1 ns s.us []).2.1) else (0,⟨(aN m.l s.cp own (ae (aT pl.1) m.l)).1,(srt (Ol.b7 s.ds pl.1 ns s.us []).2.2).map λ(k:Nat)=>(k:Int)⟩,(Ol.b7 s.ds pl.1 ns s.us []).2.1):=by
 unfold Ol.bc;rw [<- h];have Ha:¬ (aN m.l s.cp own (ae (λc=>pl.1.testBit c.node.toNat) m.l)).2≠0:=λk=>k ht
 simp only [Bool.true_eq_false,if_false,if_neg Ha];rfl
theorem Lf (l:List Cpu) (F:Nat) (L:Int) (on:Nat):(aN l F L on).2=0\/((aN l F L on).2≠0/\(aN l F L on).1=0/\(((aN l F L on).2.toNat:Nat):Int)=(aN l F L on).2/\(aN l F L on).2.toNat≠0):=by
 unfold aN
 split
 ·exact .inr ⟨by decide,rfl,by decide,by decide⟩
 ·split
  ·exact .inr ⟨by decide,rfl,by decide,by decide⟩
  ·exact .inl rfl
abbrev lA:=λ(x0:Nat) (x1:Ol.Mc)=>(.cells #[.pointer (some ⟨x0,0,none⟩),.int .u64 x1.op,.int .u8 x1.nd,.int .i64 x1.nb,.int .i64 x1.pol] 95:Obj)
abbrev jc:=λ(x0:Qos.Nd)=>(.cells #[.string x0.kind,.int .i64 x0.many] 109:Obj)
abbrev lB:=λ(x0:Ol.Sk) (x1:Nat)=>(.cells #[.int .u64 x0.cp,.pointer (some ⟨x1,0,none⟩)] 98:Obj)
abbrev Lg:=λ(B tb:Nat) (m:Ol.Mc) (s:Ol.Sk) (pb:Nat) (w':World)=>w'.cell? ⟨B,0,none⟩=some (.pointer (some ⟨tb,0,none⟩))/\w'.cell? ⟨B,1,none⟩=some (.int .u64 m.op)/\w'.cell? ⟨B,2,none⟩=some (.int .u8 m.nd)/\w'.cell? ⟨B,3,none⟩=some (.int .i64 m.nb)/\w'.cell? ⟨B,4,none⟩=some (.int .i64 m.pol)/\w'.cell? ⟨B+1,0,none⟩=some (.int .u64 s.cp)/\w'.cell? ⟨B+1,1,none⟩=some (.pointer (some ⟨pb,0,none⟩))
theorem Lh (m:Ol.Mc) (s:Ol.Sk) (tb b o c pb db:Nat) (ao:Option Addr) (pc:Nat) (own:Int) (v:Value) (ns:List Nd) (w:World) (hm:cM w tb b o c m) (hs:dj w pb db ao pc s) (hv:bf (ah (λj=>j=pb) w) v ns) (hl:ns.length<=3) (hmany:∀ n∈ns,1<=n.many) :
  Calls Tryz.prog 94 #[mV m tb,sV s pb,.int .i64 own,v] w λe w'=>(∃ ua un uc,e=.returned (.tuple #[.agg #[.int .u64 (Ol.bc m s own ns).2.1.cp,.slice ua un uc],ar ((Ol.bc m s own ns).1:Nat)])/\((Ol.bc m s own ns).1=0->bu (fresh w.heap.size w') (.slice ua un uc) (Ol.bc m s own ns).2.1.dv/\ap w' pb db ao pc s.ds (Ol.bc m s own ns).2.2))/\w.grownBy w' (some pb):=by
 obtain ⟨i0,hi,Jv,JT,JD⟩:=info_parts vX;unfold mV sV;have HM:=qI hm;have Hl:=qI hs;have Jg:=qI (hv.le (cB _ _));have J0:=qI hv;have hx:=qI hmany;have JR:=hs.pool.lt;have Jk:=hm.nd;obtain ⟨pl,hL⟩:∃ x,x=Ol.place m (Ol.cu m s own ns):=⟨_,rfl⟩;have H3:=qI hL;have HS:=qI (λ(W:World) (u:Value) (hu:fR W u (Ol.cu m s own ns))=>KT m s own ns u W hu hl hm.nd hm.pol);rw [<- hL] at HS;clear hL;obtain ⟨⟨pm,pg⟩,pin⟩:=pl;dsimp only at HS;obtain ⟨na,nc,rfl,JU,Jn⟩:=hv;unfold maxLen at JU;have JV:=qI Jn;have sz:(((w.alloc (lA tb m)).alloc (lB s pb)).alloc (.cells #[.int .u64 0,.slice none 0 0] 69)).heap.size=w.heap.size+3:=by simp
 have h9:=qI (aF ((w.alloc (lA tb m)).alloc (lB s pb)) (.cells #[.int .u64 0,.slice none 0 0] 69) (n:=w.heap.size+2) (by simp));have hO:=qI (bg (aF (w.alloc (lA tb m)) (lB s pb) (n:=w.heap.size+1) (by simp)) (.cells #[.int .u64 0,.slice none 0 0] 69));have ha:=qI (bg (bg (aF w (lA tb m) rfl) (lB s pb)) (.cells #[.int .u64 0,.slice none 0 0] 69));have Jm:=qI ((((Q0 w.heap.size w).alloc (lR) (lA tb m)).alloc (by simp) (lB s pb)).alloc (by simp;omega) (.cells #[.int .u64 0,.slice none 0 0] 69));clear hm hs Jn hmany
 go_enter Tryz.func94,Tryz.ntmps94
 go_upto_region 1 with fail
 generalize (((w.alloc (lA tb m)).alloc (lB s pb)).alloc (.cells #[.int .u64 0,.slice none 0 0] 69))=U at *;generalize hB:w.heap.size=B at *;have Hp:Hid (∀ W,Below U.heap.size U W->Below w.heap.size w W):=λW hb=>(show Below w.heap.size w U from hB ▸ Jm.out).trans (hb.mono (by omega))
 have Hb:Hid (∀ W,Below U.heap.size U W->(Lg B tb m s pb) W):=λW hb=>⟨ad ((hb.block (B) (by omega)).trans ha.out) 0,ad ((hb.block (B) (by omega)).trans ha.out) 1,ad ((hb.block (B) (by omega)).trans ha.out) 2,ad ((hb.block (B) (by omega)).trans ha.out) 3,ad ((hb.block (B) (by omega)).trans ha.out) 4,ad ((hb.block (B+1) (by omega)).trans hO.out) 0,ad ((hb.block (B+1) (by omega)).trans hO.out) 1⟩
 go_cut [10,11,12] (λp10 b11 e12 wc=>∃ Bp,p10=.pointer (some ⟨Bp,0,none⟩)/\b11=.bool pin/\e12=.nilIface/\wc.heap[Bp]?=some (.cells #[.int .u8 (pm:Nat),.bool pg] 223 (0,0))/\U.heap.size<=Bp/\Below U.heap.size U wc)
 case first=>
  have Hn:Hid (Below U.heap.size U U.drew):=a6 (Q0 _ _);refine Qo (by kernel_rfl) (Hb.out _ Hn.out) (λhQ=>?_);generalize U.drew=V at *;refine tk 0 ?_;refine tk 1 ?_;refine tk 2 ?_;refine tk 3 ?_;refine tk 4 ?_;refine tk 5 ?_;refine tk 6 ?_;refine tk 7 ?_;refine wpAnyH_ready (rs:=[8,14]) (by kernel_rfl) (by simp) (AllReadyH.cons rfl (λK hK=>?_) (AllReadyH.cons rfl (λK hK=>?_) AllReadyH.nil))
  ·go_simp
   go_wp2_with fail
   refine (zf m s tb b o c pb db ao pc own _ ns V (HM.out.below (Hp.out _ Hn.out)) (Hl.out.below (Hp.out _ Hn.out)) (Jg.out.below (Hp.out _ Hn.out)) (by omega)).mono ?_;rintro e W1 ⟨v1,rfl,Jp,HO⟩;have Hc:=qI (Hn.out.trans (HO.mono Hn.out.size));have h7:=qI Jp;clear Jp HO
   go_wp2
   refine hK.out _ _ (Hb.out _ Hc.out) (λhQ=>?_);clear hK K;refine wpAnyH_ready (rs:=[9,14]) (by kernel_rfl) (by simp) (AllReadyH.cons rfl (λK hK=>?_) (AllReadyH.cons rfl (λK hK=>?_) AllReadyH.nil))
   ·go_simp
    go_wp2_with fail
    refine (HS.out W1 _ h7.out).mono ?_;rintro e W2 ⟨rfl,Jj⟩;have hz:=qI (Hc.out.trans (Jj.mono Hc.out.size));clear Jj
    go_wp2
    refine hK.out _ _ (Hb.out _ hz.out) (λhQ=>?_);clear hK K;refine tk 10 ?_;refine tk 11 ?_;refine tk 12 ?_;refine tk 13 ?_;refine rd 14 (λK hK=>?_);have Je:=qI (hz.out.alloc hz.out.size (.cells #[.int .u8 0,.bool false] 223));have hf:=qI (aF W2 (.cells #[.int .u8 0,.bool false] 223) rfl);have Jy:W2.heap.size<(W2.alloc (.cells #[.int .u8 0,.bool false] 223)).heap.size:=by simp
    have HA:=hz.out.size;go_simp
    go_wp2
    refine hK.out _ _ (Hb.out _ Je.out) (λhQ=>?_);clear hK K;generalize W2.alloc (.cells #[.int .u8 0,.bool false] 223)=W3 at *;refine rd 15 (λK hK=>?_);have c0_4:W3.cell? ⟨W2.heap.size,0,none⟩=some (.int .u8 0):=ad hf.out 0;have c1_4:W3.cell? ⟨W2.heap.size,1,none⟩=some (.bool false):=ad hf.out 1;have f0_4:=aq hf.out 0;have f1_4:=aq hf.out 1;have h6:=qI ((Je.out.setCell (p:=⟨W2.heap.size,0,none⟩) HA (.int .u8 (pm:Nat))).setCell (p:=⟨W2.heap.size,1,none⟩) HA (.bool pg));have JC:=qI (aj (aj hf.out 0 (.int .u8 (pm:Nat))) 1 (.bool pg));go_simp
    go_wp2
    refine hK.out _ _ (Hb.out _ h6.out) (λhQ=>?_);clear hK K;refine tk 16 ?_;refine tk 17 ?_;refine Qn (by kernel_rfl) ?_ _
    go_wp2
    go_meet
    exact ⟨_,rfl,rfl,rfl,JC.out,HA,h6.out⟩
   ·have hP:=qI (Hc.out.alloc Hc.out.size (.cells #[.int .u8 0,.bool false] 223));have JF:=qI (aF W1 (.cells #[.int .u8 0,.bool false] 223) rfl);have HV:W1.heap.size<(W1.alloc (.cells #[.int .u8 0,.bool false] 223)).heap.size:=by simp
    have HG:=Hc.out.size;have JQ:=qI (h7.out.below ((Q0 _ _).alloc (lR) (.cells #[.int .u8 0,.bool false] 223)));go_simp
    go_wp2
    refine hK.out _ _ (Hb.out _ hP.out) (λhQ=>?_);clear hK K;generalize W1.alloc (.cells #[.int .u8 0,.bool false] 223)=W5 at *;refine rd 9 (λK hK=>?_);go_simp
    go_wp2_with fail
    refine (HS.out W5 _ JQ.out).mono ?_;rintro e W6 ⟨rfl,hA⟩;have Jl:=qI (hP.out.trans (hA.mono hP.out.size));have HX:=qI ((hA.block _ HV).trans JF.out);have JB:=Q1 HV hA.size;clear hA
    go_wp2
    refine hK.out _ _ (Hb.out _ Jl.out) (λhQ=>?_);clear hK K;refine tk 10 ?_;refine tk 11 ?_;refine tk 12 ?_;refine tk 13 ?_;refine rd 15 (λK hK=>?_);have c0_7:W6.cell? ⟨W1.heap.size,0,none⟩=some (.int .u8 0):=ad HX.out 0;have c1_7:W6.cell? ⟨W1.heap.size,1,none⟩=some (.bool false):=ad HX.out 1;have f0_7:=aq HX.out 0;have f1_7:=aq HX.out 1;have h8:=qI ((Jl.out.setCell (p:=⟨W1.heap.size,0,none⟩) HG (.int .u8 (pm:Nat))).setCell (p:=⟨W1.heap.size,1,none⟩) HG (.bool pg));have JO:=qI (aj (aj HX.out 0 (.int .u8 (pm:Nat))) 1 (.bool pg));go_simp
    go_wp2
    refine hK.out _ _ (Hb.out _ h8.out) (λhQ=>?_);clear hK K;refine tk 16 ?_;refine tk 17 ?_;refine Qn (by kernel_rfl) ?_ _
    go_wp2
    go_meet
    exact ⟨_,rfl,rfl,rfl,JO.out,HG,h8.out⟩
  ·have HR:=qI (Hn.out.alloc Hn.out.size (.cells #[.int .u8 0,.bool false] 223));have JM:=qI (aF V (.cells #[.int .u8 0,.bool false] 223) rfl);have HY:V.heap.size<(V.alloc (.cells #[.int .u8 0,.bool false] 223)).heap.size:=by simp
   have HJ:=Hn.out.size;go_simp
   go_wp2
   refine hK.out _ _ (Hb.out _ HR.out) (λhQ=>?_);clear hK K;generalize V.alloc (.cells #[.int .u8 0,.bool false] 223)=W8 at *;refine rd 8 (λK hK=>?_);go_simp
   go_wp2_with fail
   refine (zf m s tb b o c pb db ao pc own _ ns W8 (HM.out.below (Hp.out _ HR.out)) (Hl.out.below (Hp.out _ HR.out)) (Jg.out.below (Hp.out _ HR.out)) (by omega)).mono ?_;rintro e W9 ⟨v9,rfl,Jh,hy⟩;have hI:=qI (HR.out.trans (hy.mono HR.out.size));have Jz:=qI Jh;have Jw:=qI ((hy.block _ HY).trans JM.out);have H9:=Q1 HY hy.size;clear Jh hy
   go_wp2
   refine hK.out _ _ (Hb.out _ hI.out) (λhQ=>?_);clear hK K;refine rd 9 (λK hK=>?_);go_simp
   go_wp2_with fail
   refine (HS.out W9 _ Jz.out).mono ?_;rintro e W10 ⟨rfl,Ho⟩;have H7:=qI (hI.out.trans (Ho.mono hI.out.size));have Hf:=qI ((Ho.block _ H9).trans Jw.out);have Jo:=Q1 H9 Ho.size;clear Ho
   go_wp2
   refine hK.out _ _ (Hb.out _ H7.out) (λhQ=>?_);clear hK K;refine tk 10 ?_;refine tk 11 ?_;refine tk 12 ?_;refine tk 13 ?_;refine rd 15 (λK hK=>?_);have c0_11:W10.cell? ⟨V.heap.size,0,none⟩=some (.int .u8 0):=ad Hf.out 0;have c1_11:W10.cell? ⟨V.heap.size,1,none⟩=some (.bool false):=ad Hf.out 1;have f0_11:=aq Hf.out 0;have f1_11:=aq Hf.out 1;have H8:=qI ((H7.out.setCell (p:=⟨V.heap.size,0,none⟩) HJ (.int .u8 (pm:Nat))).setCell (p:=⟨V.heap.size,1,none⟩) HJ (.bool pg));have hW:=qI (aj (aj Hf.out 0 (.int .u8 (pm:Nat))) 1 (.bool pg));go_simp
   go_wp2
   refine hK.out _ _ (Hb.out _ H8.out) (λhQ=>?_);clear hK K;refine tk 16 ?_;refine tk 17 ?_;refine Qn (by kernel_rfl) ?_ _
   go_wp2
   go_meet
   exact ⟨_,rfl,rfl,rfl,hW.out,HJ,H8.out⟩
 case rest=>
  obtain ⟨Bp,rfl,rfl,rfl,h3,JX,hZ⟩:=hcut;have Jq:=qI h3;have hp:=qI hZ;have Ji:Hid (∀ W,U.grownBy W (some pb)->w.grownBy W (some pb)):=λW h=>grown_of (show Below w.heap.size w U from hB ▸ Jm.out) h
  have JI:=hZ.size;have JA:Bp<wc.heap.size:=(gS h3).1;have J5:pb<B:=by omega
  clear HS h3 hZ
  rcases two pin with HD|HD
  ·subst HD;obtain ⟨q0,q1,q2,q3,q4,q5,q6⟩:=Hb.out _ hp.out;have p0:wc.cell? ⟨Bp,0,none⟩=some (.int .u8 (pm:Nat)):=ad Jq.out 0;have HP:=qI (Eg tb b o c s.cp pm own m.l wc (HM.out.below (Hp.out _ hp.out)).topo HM.out.good Hl.out.cp (zi H3.out Jk));obtain ⟨tk,hY⟩:∃ x,x=aN m.l s.cp own (ae (aT pm) m.l):=⟨_,rfl⟩;have HT:=qI hY;have Hm:=Lf m.l s.cp own (ae (aT pm) m.l);rw [<- hY] at HP Hm;clear hY
   go_wp2_with fail
   refine HP.out.mono ?_;rintro e W1 ⟨rfl,HO⟩;have Hc:=qI (hp.out.trans (HO.mono JI));have J6:=HO.size;have JH:=qI ((HO.block Bp JA).trans Jq.out);have HQ:=qI ((Hc.out.block (B+2) (by omega)).trans h9.out);clear HO q0 q1 q2 q3 q4 q5 q6 p0 HP;obtain ⟨tc,te⟩:=tk;unfold iP;dsimp only at Hm ⊢
   rcases Hm with Hm|⟨Hm,hR,H4,he⟩
   ·subst Hm;rw [show ar (0:Int)=.nilIface from rfl];have hC:=qI (Le H3.out (by rw [<- HT.out]));rw [<- HT.out] at hC;dsimp only at hC;have hG:Hid (ap W1 pb db ao pc s.ds s.us):=Hl.out.pool.below (Hp.out _ Hc.out);have JK:=zi H3.out Jk
    go_wp2
    go_loopw [14,58] (λpv i wr=>∃ (k:Nat) (us:Nat->Bool) (out:List Nat),k<=ns.length/\i=.int .i64 k/\Row wr W1.heap.size pv out/\ap wr pb db ao pc s.ds us/\Ol.b7 s.ds pm ns s.us []=Ol.b7 s.ds pm (ns.drop k) us out/\out.length<=16*k/\Apart (λj=>j=pb\/W1.heap.size<=j) W1 wr) (λ_ i _=>ns.length - (intOf i).toNat)
    case atStart=>exact ⟨0,s.us,[],by omega,rfl,Qw _ _ _ _,hG.out,by rw [List.drop_zero],by simp,Apart.refl _ _⟩
    case round=>
     obtain ⟨k,us,out,hk,rfl,Hx,Hw,hw,J8,He⟩:=hrel;have Hr:=qI Hx;have Hu:=qI Hw;have HK:=qI hw;have JJ:=qI He;have J3:=He.size;obtain ⟨va,vc,JZ⟩:=fH Hx;subst JZ;clear Hx Hw hw;have Hq:Hid (w.grownBy wr (some pb)):=grown_of (Hp.out _ Hc.out) ⟨He.os,He.tape,He.output,He.size,λj hj hn=>He.block j hj (λh=>by rcases h with h|h;exact hn (by rw [h]);omega)⟩;have JE:=qI ((He.block Bp (by omega) (by omega)).trans JH.out);have Ja:=qI ((He.block (B+2) (by omega) (by omega)).trans HQ.out);have JN:=qI ((He.block (B+1) (by omega) (by omega)).trans ((Hc.out.block (B+1) (by omega)).trans hO.out))
     by_cases hlt:k<ns.length
     ·obtain ⟨nb,no,rfl,HH,hX⟩:=JV.out (by omega);rw [bx] at HH;have m0:=(hX k hlt).1;have m1:=(hX k hlt).2;have hE:some nb≠some pb:=λe=>dU m0 (by injection e)
      have c0:wr.cell? ⟨nb,no+k*2,none⟩=some (.string (nd ns k).kind):=(Hq.out.cell_far ⟨nb,no+k*2,none⟩ (by rw [hB];exact hB ▸ HH) hE).trans ((cB _ _).cell _ _ _ m0);have c1:wr.cell? ⟨nb,no+k*2+1,none⟩=some (.int .i64 (nd ns k).many):=(Hq.out.cell_far ⟨nb,no+k*2+1,none⟩ (by rw [hB];exact hB ▸ HH) hE).trans ((cB _ _).cell _ _ _ m1);have ja:=hx.out (nd ns k) (by simp [nd,hlt]);have h5:=qI (Lb (ds:=s.ds) (on:=pm) hlt us out);have J2:(k:Int)<(ns.length:Int):=by omega
      clear hX m0 m1 hE;generalize nd ns k=x at *;have hD:=qI ((Q0 wr.heap.size wr).alloc (lR) (jc x));have Jb:=qI (aF wr (jc x) rfl);have a0:(wr.alloc (jc x)).cell? ⟨wr.heap.size,0,none⟩=some (.string x.kind):=ad Jb.out 0;have a1:(wr.alloc (jc x)).cell? ⟨wr.heap.size,1,none⟩=some (.int .i64 x.many):=ad Jb.out 1;have s1:(wr.alloc (jc x)).cell? ⟨B+1,1,none⟩=some (.pointer (some ⟨pb,0,none⟩)):=ad (bg JN.out _) 1;have p0:(wr.alloc (jc x)).cell? ⟨Bp,0,none⟩=some (.int .u8 (pm:Nat)):=ad (bg JE.out _) 0;have HP:=qI (I0 x.kind x.many pm (wr.alloc (jc x)) pb db ao pc s.ds us (Hu.out.alloc _) Hl.out.nodes JK);have J1:(wr.alloc (jc x)).heap.size=wr.heap.size+1:=by simp
      clear He
      go_wp2_with fail
      generalize wr.alloc (jc x)=W2 at *;refine HP.out.mono ?_;rintro e W3 ⟨h2,HF,hr⟩;have J7:=hr.size;have hc:=qI ((hr.block (B+2) (by omega) (λe=>by injection e with e;omega)).trans ((hD.out.block (B+2) (by omega)).trans Ja.out));have hM:=qI (K6 (K2 Hq.out hD.out) hr);clear a0 a1 s1 p0 c0 c1 HP
      by_cases htf:bT s.ds us x.kind x.many=0
      ·obtain ⟨v3,g3,rfl,HW,H5,Hk⟩:=HF htf;clear h2 HF H5;have Hz:=qI Hk;have Jt:=Ol.wj (m:=pm) htf;have Hy:∀ j∈bC s.ds us x.kind pm x.many.toNat,j<16:=λj hj=>by have:=(Dvs.g9 hj).1;have:=Hl.out.nodes.1;omega
       have JP:=Dvs.nU Hy (zg _ _ _ _ _);have hle:=K7 Hy (zg _ _ _ _ _);have Ju:Hid (Ol.b7 s.ds pm ns s.us []=Ol.b7 s.ds pm (ns.drop (k+1)) (cf us (bC s.ds us x.kind pm x.many.toNat)) (out++srt (bC s.ds us x.kind pm x.many.toNat))):=by
        unfold Hid;rw [HK.out,h5.out,if_pos htf]
       clear htf;generalize bC s.ds us x.kind pm x.many.toNat=L3 at *;generalize cf us L3=us3 at *;have hq:1<=(srt L3).length/\(srt L3).length<=16:=by omega
       clear Jt Hy JP hle h5;obtain ⟨a3,c3,rfl,hH⟩:=HW;generalize srt L3=S3 at *;have Jd:(ints S3).length=S3.length:=l7 _;rw [Jd] at hH ⊢;clear Jd;obtain ⟨JY,J9,Jr⟩:=hH (by omega);subst JY;have Hh:∀ b,(Value.slice va out.length vc).ownBlock=some b->W1.heap.size<=b/\b<wr.heap.size:=λb hb=>Hr.out.lt b hb
       have ht:=qI (show Row W3 W1.heap.size (.slice va out.length vc) out from m6 Hr.out (λg hg=>(hr.block g (by have:=(Hh g hg).2;omega) (λe=>by injection e with e;have:=(Hh g hg).1;omega)).trans (hD.out.block g (Hh g hg).2)));have JW:=qI (K8 (l:=S3) (g:=g3) Jr);have Hi:=qI Hl.out.pool.at0;clear Jr hH Hk;dsimp only;rw [show (ar (((0:Nat)):Int))=.nilIface from rfl]
       go_wp2_with (at_builtin;refine wpList_append_own _ rfl _ _ 44 rfl W1.heap.size 3 i0 (.int .i64 0) 1 8 Tryz.underlying44 hi Jv JT JD rfl (by decide) _ _ _ rfl ht.out ⟨g3,0,none⟩ (S3).length c3 (bI (S3)) rfl (by rw [l6,Nat.mul_one]) JW.out (rD _) (by unfold maxLen;omega) (by omega) (by omega) ?_;intro v4 W4 Hs HL _)
       have HU:Hid (Row W4 W1.heap.size v4 (out++S3)):=by
        unfold Hid Row;rw [Q2];have e:bI (out++S3)=bI out++bI (S3):=by simp [bI]
        rw [e];exact Hs
       have HC:=qI (Hz.out.kept HL (λe=>by have:=(Hh pb e.symm).1;omega) (λh0 e=>by have:=(Hh db e.symm).1;have:=(Hi.out h0).2.2;omega));have hN:Hid (Apart (λj=>j=pb\/W1.heap.size<=j) W1 W4):=(JJ.out.trans (Apart.of_below hD.out)).trans ((ey hr (λj hj _=>.inl (by injection hj with hj;exact hj.symm))).trans (ey HL (λj hj _=>.inr (Hh j hj).1)));clear Hs HL
       go_roundw
       case rel=>exact ⟨k+1,us3,out++S3,by omega,by go_num,HU.out,HC.out,Ju.out,by rw [Q2];omega,hN.out⟩
       case measure=>simp [intOf];omega
      ·obtain ⟨rfl,JL⟩:=h2 htf;have Hj:Hid (Ol.bc m s own ns=(bT s.ds us x.kind x.many,⟨0,[]⟩,us)):=by
        unfold Hid;rw [hC.out,HK.out,h5.out,if_neg htf,if_pos htf]
       have H2:Hid ((Ol.bc m s own ns).1≠0):=by unfold Hid;rw [Hj.out];exact htf
       have HB:=ei htf;have hV:=qI HB;dsimp only;rw [HB];clear h2 HF htf JL HB;generalize bT s.ds us x.kind x.many=tf at *;have g0_3:W3.cell? ⟨B+2,0,none⟩=some (.int .u64 0):=ad hc.out 0;have g1_3:W3.cell? ⟨B+2,1,none⟩=some (.slice none 0 0):=ad hc.out 1;have f0_3:=aq hc.out 0;have f1_3:=aq hc.out 1;have Js:=qI (aj (aj hc.out 0 (.int .u64 0)) 1 (.slice none 0 0));have h1:=qI (jM (jM hM.out (b:=B+2) (by omega) 0 (.int .u64 0)) (b:=B+2) (by omega) 1 (.slice none 0 0))
       go_wp2_with fail
       generalize ((W3.setCell ⟨B+2,0,none⟩ (.int .u64 0)).setCell ⟨B+2,1,none⟩ (.slice none 0 0))=WZ at *;(try simp only [Exit.inBlock,Exit.then]);refine bodyPost_ret (v:=.tuple #[.agg #[.int .u64 0,.slice none 0 0],.iface 121 (.int .i64 (tf:Nat))]) ?_ rfl ⟨⟨none,0,0,by rw [Hj.out];dsimp only;rw [hV.out];rfl,λh=>absurd h H2.out⟩,h1.out⟩;have r0:WZ.cell? ⟨B+2,0,none⟩=some (.int .u64 0):=ad Js.out 0;have r1:WZ.cell? ⟨B+2,1,none⟩=some (.slice none 0 0):=ad Js.out 1;rw [iD rfl];clear g0_3 g1_3 f0_3 f1_3;go_simp
     ·have Jx:k=ns.length:=by omega
      subst Jx;have hT:Hid (Ol.b7 s.ds pm ns s.us []=(0,us,out)):=by unfold Hid;rw [HK.out,List.drop_length];rfl
      have Hj:Hid (Ol.bc m s own ns=(0,⟨tc,(srt out).map λ(k:Nat)=>(k:Int)⟩,us)):=by
       unfold Hid;rw [hC.out,hT.out];rfl
      obtain ⟨new,HE,Hg⟩:=Ol.wk Hl.out.nodes.1 pm ns s.us [] (by rw [hT.out]);rw [hT.out,List.nil_append] at HE;dsimp only at HE;subst HE;have JG:∀ j∈out,j<16:=λj hj=>by have:=(Hg.free j hj).1;have:=Hl.out.nodes.1;omega
      have ho:=Hg.nodup;have H6:=qI (La (L:=out) JG ho Hr.out (by omega));have Hh:∀ b,(Value.slice va out.length vc).ownBlock=some b->W1.heap.size<=b/\b<wr.heap.size:=λb hb=>Hr.out.lt b hb
      have Hi:=qI Hl.out.pool.at0;clear Hg ho He
      go_wp2_with fail
      refine H6.out.mono ?_;rintro e W5 ⟨rfl,Ht,Ha⟩;have J4:=Ha.size;have hh:=qI ((Ha.block (B+2) (by omega) (λe=>by have:=(Hh (B+2) e.symm).1;omega)).trans Ja.out);have HI:=qI (Hu.out.kept Ha (λe=>by have:=(Hh pb e.symm).1;omega) (λh0 e=>by have:=(Hh db e.symm).1;have:=(Hi.out h0).2.2;omega));have hQ:Hid (w.grownBy W5 (some pb)):=⟨Ha.os.trans Hq.out.os,Ha.tape.trans Hq.out.tape,Ha.output.trans Hq.out.output,Q5 Hq.out.size Ha.size,λj hj hn=>(Ha.block j (by have:=Hq.out.size;omega) (λe=>by have:=(Hh j e.symm).1;omega)).trans (Hq.out.block j hj hn)⟩;have Hv:=qI Ht;have hS:∀ b,(Value.slice va out.length vc).ownBlock=some b->W1.heap.size<=b/\b<W5.heap.size:=λb hb=>Hv.out.lt b hb
      have g0:W5.cell? ⟨B+2,0,none⟩=some (.int .u64 0):=ad hh.out 0;have g1:W5.cell? ⟨B+2,1,none⟩=some (.slice none 0 0):=ad hh.out 1;have f0:=aq hh.out 0;have f1:=aq hh.out 1;have HZ:=qI (aj (aj hh.out 0 (.int .u64 tc)) 1 (.slice va out.length vc));have hJ:=qI (jM (jM hQ.out (b:=B+2) (by omega) 0 (.int .u64 tc)) (b:=B+2) (by omega) 1 (.slice va out.length vc));have h4:Hid (∀ j,j≠B+2->((W5.setCell ⟨B+2,0,none⟩ (.int .u64 tc)).setCell ⟨B+2,1,none⟩ (.slice va out.length vc)).heap[j]?=W5.heap[j]?):=λj hj=>(set_other hj).trans (set_other hj)
      have H0:Hid (Row ((W5.setCell ⟨B+2,0,none⟩ (.int .u64 tc)).setCell ⟨B+2,1,none⟩ (.slice va out.length vc)) W1.heap.size (.slice va out.length vc) (srt out)):=m6 Hv.out (λg hg=>h4.out g (by have:=(hS g hg).1;omega));have HN:Hid (ap ((W5.setCell ⟨B+2,0,none⟩ (.int .u64 tc)).setCell ⟨B+2,1,none⟩ (.slice va out.length vc)) pb db ao pc s.ds us):=(HI.out.kept (bN _ ⟨B+2,0,none⟩ _) (λe=>by injection e with e;have e:pb=B+2:=e;omega) (λh0 e=>by injection e with e;have e:db=B+2:=e;have:=(Hi.out h0).2.2;omega)).kept (bN _ ⟨B+2,1,none⟩ _) (λe=>by injection e with e;have e:pb=B+2:=e;omega) (λh0 e=>by injection e with e;have e:db=B+2:=e;have:=(Hi.out h0).2.2;omega);clear Ht Ha
      go_wp2_with fail
      generalize ((W5.setCell ⟨B+2,0,none⟩ (.int .u64 tc)).setCell ⟨B+2,1,none⟩ (.slice va out.length vc))=WZ at *;(try simp only [Exit.inBlock,Exit.then]);refine bodyPost_ret (v:=.tuple #[.agg #[.int .u64 tc,.slice va out.length vc],.nilIface]) ?_ rfl ⟨⟨va,out.length,vc,by rw [Hj.out];rfl,λ_=>?_⟩,hJ.out⟩
      ·have r0:WZ.cell? ⟨B+2,0,none⟩=some (.int .u64 tc):=ad HZ.out 0;have r1:WZ.cell? ⟨B+2,1,none⟩=some (.slice va out.length vc):=ad HZ.out 1;rw [iD rfl];clear g0 g1 f0 f1;go_simp
      ·rw [Hj.out];exact ⟨K9 H0.out (by omega),HN.out⟩
   ·subst hR;have Hj:Hid (Ol.bc m s own ns=(te.toNat,⟨0,[]⟩,s.us)):=by
     have:=Ld H3.out (by rw [<- HT.out];exact Hm)
     rw [<- HT.out] at this;exact this
    have H2:Hid ((Ol.bc m s own ns).1≠0):=by unfold Hid;rw [Hj.out];exact he
    have JS:=qI H4;have HB:ar te=.iface 121 (.int .i64 te):=by unfold ar;rw [if_neg Hm]
    rw [HB];have hV:=qI HB;clear Hm H4 he HB;have g0_1:W1.cell? ⟨B+2,0,none⟩=some (.int .u64 0):=ad HQ.out 0;have g1_1:W1.cell? ⟨B+2,1,none⟩=some (.slice none 0 0):=ad HQ.out 1;have f0_1:=aq HQ.out 0;have f1_1:=aq HQ.out 1;have Jc:=qI (aj (aj HQ.out 0 (.int .u64 0)) 1 (.slice none 0 0));have hF:=qI (jM (jM (Ji.out _ (dD Hc.out _)) (b:=B+2) (by omega) 0 (.int .u64 0)) (b:=B+2) (by omega) 1 (.slice none 0 0))
    go_wp2_with fail
    generalize ((W1.setCell ⟨B+2,0,none⟩ (.int .u64 0)).setCell ⟨B+2,1,none⟩ (.slice none 0 0))=WZ at *;(try simp only [Exit.inBlock,Exit.then]);refine bodyPost_ret (v:=.tuple #[.agg #[.int .u64 0,.slice none 0 0],.iface 121 (.int .i64 te)]) ?_ rfl ⟨⟨none,0,0,by rw [Hj.out];dsimp only;rw [JS.out,hV.out];rfl,λh=>absurd h H2.out⟩,hF.out⟩;have r0:WZ.cell? ⟨B+2,0,none⟩=some (.int .u64 0):=ad Jc.out 0;have r1:WZ.cell? ⟨B+2,1,none⟩=some (.slice none 0 0):=ad Jc.out 1;rw [iD rfl];clear g0_1 g1_1 f0_1 f1_1;go_simp
  ·subst HD;have Hj:=qI (Lc H3.out);have H2:Hid ((Ol.bc m s own ns).1≠0):=by unfold Hid;rw [Hj.out];exact (by decide:(10:Nat)≠0)
   have H1:=qI ((hp.out.block (B+2) (by omega)).trans h9.out);have g0_2:wc.cell? ⟨B+2,0,none⟩=some (.int .u64 0):=ad H1.out 0;have g1_2:wc.cell? ⟨B+2,1,none⟩=some (.slice none 0 0):=ad H1.out 1;have f0_2:=aq H1.out 0;have f1_2:=aq H1.out 1;have Jf:=qI (aj (aj H1.out 0 (.int .u64 0)) 1 (.slice none 0 0));have hU:=qI (jM (jM (Ji.out _ (dD hp.out _)) (b:=B+2) (by omega) 0 (.int .u64 0)) (b:=B+2) (by omega) 1 (.slice none 0 0))
   go_wp2_with fail
   generalize ((wc.setCell ⟨B+2,0,none⟩ (.int .u64 0)).setCell ⟨B+2,1,none⟩ (.slice none 0 0))=WZ at *;(try simp only [Exit.inBlock,Exit.then]);refine bodyPost_ret (v:=.tuple #[.agg #[.int .u64 0,.slice none 0 0],.iface 121 (.int .i64 10)]) ?_ rfl ⟨⟨none,0,0,by rw [Hj.out];rfl,λh=>absurd h H2.out⟩,hU.out⟩;have r0:WZ.cell? ⟨B+2,0,none⟩=some (.int .u64 0):=ad Jf.out 0;have r1:WZ.cell? ⟨B+2,1,none⟩=some (.slice none 0 0):=ad Jf.out 1;rw [iD rfl];clear g0_2 g1_2 f0_2 f1_2;go_simp
end
