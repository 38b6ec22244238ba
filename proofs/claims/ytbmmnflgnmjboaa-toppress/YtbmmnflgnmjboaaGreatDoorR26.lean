import Derived.Test.YtbmmnflgnmjboaaGreatDoorR23
import Derived.Test.YtbmmnflgnmjboaaGreatDoorR20
import Derived.Deep.DeepCutAuto
set_option maxRecDepth 100000
set_option maxHeartbeats 16000000
open Go.Proofs.Tryz
namespace Go.Proofs.YtbmmnflgnmjboaaGreatDoor
section
open RowKit Shelf
open Ost (Cpu N4 Wi Hi wi0 told Sm Low ad aN ae)
open Qos (Nd nd)
open Dvs (Dv dv fits bD cn aW bQ bx cd srt)
attribute [local go_sem] Oper.semAt_some
theorem iw {fn:Func} {p u:Tmp} {ty:TypeId} (h:fn.results=#[.cell p ty,.tmp u]) (tmps:Array Value) (P:Program) (w:World) :
  (results fn tmps).run P w=((asAddr (tmps.getD p undef)).run P w).andThen λa w₁=>((loadVar ty a).run P w₁).andThen λv w₂=>.ok (.tuple #[v,tmps.getD u undef]) w₂:=by
 simp only [results,h]
 simp [Sem.run_bind,Result.andThen]
theorem jJ {w W:World} {g:Option Nat} (h:w.grownBy W g) {b:Nat} (hb:w.heap.size<=b) (j:Nat) (v:Value):w.grownBy (W.setCell ⟨b,j,none⟩ v) g:=
 ⟨h.os,h.tape,h.output,by simpa using h.size,λk hk hn=>(Below.heap_setCell _ _ _ _ (by show k≠b;omega)).trans (h.block k hk hn)⟩
theorem grown_of {w U W:World} {g:Option Nat} (hb:Below w.heap.size w U) (h:U.grownBy W g):w.grownBy W g:=
 ⟨h.os.trans hb.os,h.tape.trans hb.tape,h.output.trans hb.output,Q5 hb.size h.size,λk hk hn=>(h.block k (Q1 hk hb.size) hn).trans (hb.block k hk)⟩
theorem K1 {w U W:World} {g:Option Nat} (h:w.grownBy U g) (hb:Below U.heap.size U W):w.grownBy W g:=
 ⟨hb.os.trans h.os,hb.tape.trans h.tape,hb.output.trans h.output,Q5 h.size hb.size,λk hk hn=>(hb.block k (Q1 hk h.size)).trans (h.block k hk hn)⟩
theorem K2 {w U W:World} {g:Option Nat} (h:w.grownBy U g) (k:U.grownBy W g):w.grownBy W g:=
 ⟨k.os.trans h.os,k.tape.trans h.tape,k.output.trans h.output,Q5 h.size k.size,λj hj hn=>(k.block j (Q1 hj h.size) hn).trans (h.block j hj hn)⟩
theorem ze (ds:List Dv) (us:Nat->Bool) (kind:ByteArray) (m n:Nat):(bx ds us kind m n).Nodup:=Dvs.lY ds us kind m n
theorem K6 {L:List Nat} (h:∀ j∈L,j<16) (hn:L.Nodup):L.length<=16:=by
 have:=List.Nodup.length_le_of_subset (l₂:=List.range 16) hn (λj hj=>List.mem_range.2 (h j hj))
 simpa using this
theorem m8 {W W':World} {base:Nat} {e:TypeId} {sz:Nat} {v:Value} {n:Nat} {xs:List Value} (h:W.ownsRow base e sz v n xs) (hb:∀ g,v.ownBlock=some g->W'.heap[g]?=W.heap[g]?):W'.ownsRow base e sz v n xs:=by
 obtain ⟨h1,h2|⟨g,c,cur,rfl,r1,r2,r3⟩⟩:=h
 ·exact ⟨h1,.inl h2⟩
 ·exact ⟨h1,.inr ⟨g,c,cur,rfl,r1,(hb g rfl).trans r2,r3⟩⟩
theorem K7 {W:World} {g:Nat} {l:List Nat} (h:∀ k,k<l.length->W.cell? ⟨g,0+k,none⟩=some (.int .i64 (Dvs.nth (ints l) k))):∀ j u,(bF l)[j]?=some u->W.cell? ((⟨g,0,none⟩:Addr).add j)=some u:=by
 intro j u hu;have hj:j<l.length:=by rw [<- l9];exact (List.getElem?_eq_some_iff.1 hu).1
 rw [Addr.add_lit,h j hj,<- hu]
 simp [bF,ints,Dvs.nth,hj]
theorem K8 {W:World} {base N:Nat} {v:Value} {l:List Nat} (h:Row W base v l) (hN:N<=base):bt (fresh N W) v (l.map λ(k:Nat)=>(k:Int)):=by
 unfold Row at h;have h':=h
 rcases h.2 with ⟨rfl,h0⟩|⟨g,cap,cur,rfl,hg,Hc,Ha,Hb,_⟩
 ·have:=Qe h0
  subst this;exact ⟨none,0,rfl,⟨lR,Nat.zero_le _⟩,λh=>absurd h (Nat.lt_irrefl 0)⟩
 ·refine ⟨_,cap,by rw [Q9],by rw [Q9];exact ⟨Ha,Hb⟩,λ_=>⟨g,0,rfl,by rw [bH];exact (gS Hc).1,λk hk=>?_⟩⟩;rw [Q9] at hk;rw [gQ (by omega),Qd,h'.cellAt k (by omega)]
  simp [bF,hk]
theorem K9 {L:List Nat} (h16:∀ j∈L,j<16) (hn:L.Nodup) {wr:World} {B:Nat} {a:Option Addr} {c:Nat} (h:Row wr B (.slice a L.length c) L) (hl:L.length<=1000) :
  Calls prog 130 #[.slice a L.length c] wr λe w'=>e=.returned (.tuple #[])/\Row w' B (.slice a L.length c) (srt L)/\wr.grownBy w' (Value.slice a L.length c).ownBlock:=by
 have Hg:=Dvs.nU h16 hn
 by_cases h0:L.length=0
 ·have hL:L=[]:=Qe h0;subst hL;refine (Any.slices_Sort_int_none Tryz.sortL9 _ _ _).mono ?_;rintro e w' ⟨rfl,rfl⟩;exact ⟨rfl,h,qi _ _⟩
 ·rcases h.2 with ⟨hv,hz⟩|⟨g,cap,cur,hv,hg,He,Hc,Hf,Hb,Ha⟩
  ·exact absurd hz h0
  ·injection hv with e1 e2 e3
   subst e1 e3
   have:=xO h16 hn hg He Hc Hf Hb (by rw [Nat.mul_one] at Ha;exact Ha) (by omega)
   rw [Hg] at this;exact this
theorem zf {m:Ol.Mc} {ws:List Wi} {pm:Nat} {pg pin:Bool} (h:((pm,pg),pin)=Ol.place m ws) (hn:1<=m.nd/\m.nd<=15):pm<256:=by
 unfold Ol.place at h
 by_cases h0:m.pol=0
 ·rw [if_pos h0] at h
  have:pm=m.nd:=congrArg (λx=>x.1.1) h
  omega
 ·rw [if_neg h0] at h
  have:pm=(told m.pol m.nd ws).1:=congrArg (λx=>x.1.1) h
  rw [this];exact Ost.Cg _ _ _ (by omega)
theorem La {ds:List Dv} {on:Nat} {ns:List Nd} {k:Nat} (h:k<ns.length) (us:Nat->Bool) (out:List Nat):Ol.bY ds on (ns.drop k) us out=if bQ ds us (nd ns k).kind (nd ns k).many=0 then Ol.bY ds on (ns.drop (k+1)) (cd us (bx ds us (nd ns k).kind on (nd ns k).many.toNat)) (out++srt (bx ds us (nd ns k).kind on (nd ns k).many.toNat)) else (bQ ds us (nd ns k).kind (nd ns k).many,us,out):=by
 have e:ns.drop k=nd ns k :: ns.drop (k+1):=by rw [List.drop_eq_getElem_cons h];simp [nd,h]
 rw [e,Ol.bY]
theorem Lb {m:Ol.Mc} {s:Ol.Sk} {own:Int} {ns:List Nd} {pl:Hi} (h:(pl,false)=Ol.place m (Ol.cf m s own ns)):Ol.bc m s own ns=(10,⟨0,[]⟩,s.us):=by
 unfold Ol.bc;rw [<- h]
 simp
theorem Lc {m:Ol.Mc} {s:Ol.Sk} {own:Int} {ns:List Nd} {pl:Hi} (h:(pl,true)=Ol.place m (Ol.cf m s own ns)) (ht:(aN m.l s.cp own (ae (aT pl.1) m.l)).2≠0):Ol.bc m s own ns=((aN m.l s.cp own (ae (aT pl.1) m.l)).2.toNat,⟨0,[]⟩,s.us):=by
 unfold Ol.bc;rw [<- h];have Ha:(aN m.l s.cp own (ae (λc=>pl.1.testBit c.node.toNat) m.l)).2≠0:=ht;simp only [Bool.true_eq_false,if_false,if_pos Ha];rfl
theorem Ld {m:Ol.Mc} {s:Ol.Sk} {own:Int} {ns:List Nd} {pl:Hi} (h:(pl,true)=Ol.place m (Ol.cf m s own ns)) (ht:(aN m.l s.cp own (ae (aT pl.1) m.l)).2=0):Ol.bc m s own ns=if (Ol.bY s.ds pl.1 ns s.us []).1≠0 then ((Ol.bY s.ds pl.1 ns s.us []).1,⟨0,[]⟩,(Ol.bY s.ds pl.1 ns s.us []).2.1) else (0,⟨(aN m.l s.cp own (ae (aT pl.1) m.l)).1,(srt (Ol.bY s.ds pl.1 ns s.us []).2.2).map λ(k:Nat)=>(k:Int)⟩,(Ol.bY s.ds pl.1 ns s.us []).2.1):=by
 unfold Ol.bc;rw [<- h];have Ha:¬ (aN m.l s.cp own (ae (λc=>pl.1.testBit c.node.toNat) m.l)).2≠0:=λk=>k ht
 simp only [Bool.true_eq_false,if_false,if_neg Ha];rfl
theorem Le (l:List Cpu) (F:Nat) (L:Int) (on:Nat):(aN l F L on).2=0\/((aN l F L on).2≠0/\(aN l F L on).1=0/\(((aN l F L on).2.toNat:Nat):Int)=(aN l F L on).2/\(aN l F L on).2.toNat≠0):=by
 unfold aN
 split
 ·exact .inr ⟨by decide,rfl,by decide,by decide⟩
 ·split
  ·exact .inr ⟨by decide,rfl,by decide,by decide⟩
  ·exact .inl rfl
abbrev lB:=λ(x0:Nat) (x1:Ol.Mc)=>(.cells #[.pointer (some ⟨x0,0,none⟩),.int .u64 x1.op,.int .u8 x1.nd,.int .i64 x1.nb,.int .i64 x1.pol] 95:Obj)
abbrev i7:=λ(x0:Qos.Nd)=>(.cells #[.string x0.kind,.int .i64 x0.many] 109:Obj)
abbrev lC:=λ(x0:Ol.Sk) (x1:Nat)=>(.cells #[.int .u64 x0.cp,.pointer (some ⟨x1,0,none⟩)] 98:Obj)
abbrev Lf:=λ(B tb:Nat) (m:Ol.Mc) (s:Ol.Sk) (pb:Nat) (w':World)=>w'.cell? ⟨B,0,none⟩=some (.pointer (some ⟨tb,0,none⟩))/\w'.cell? ⟨B,1,none⟩=some (.int .u64 m.op)/\w'.cell? ⟨B,2,none⟩=some (.int .u8 m.nd)/\w'.cell? ⟨B,3,none⟩=some (.int .i64 m.nb)/\w'.cell? ⟨B,4,none⟩=some (.int .i64 m.pol)/\w'.cell? ⟨B+1,0,none⟩=some (.int .u64 s.cp)/\w'.cell? ⟨B+1,1,none⟩=some (.pointer (some ⟨pb,0,none⟩))
theorem Lg (m:Ol.Mc) (s:Ol.Sk) (tb b o c pb db:Nat) (ao:Option Addr) (pc:Nat) (own:Int) (v:Value) (ns:List Nd) (w:World) (hm:cK w tb b o c m) (hs:dj w pb db ao pc s) (hv:be (ag (λj=>j=pb) w) v ns) (hl:ns.length<=3) (hmany:∀ n∈ns,1<=n.many) :
  Calls prog 94 #[mV m tb,sV s pb,.int .i64 own,v] w λe w'=>(∃ ua un uc,e=.returned (.tuple #[.agg #[.int .u64 (Ol.bc m s own ns).2.1.cp,.slice ua un uc],au ((Ol.bc m s own ns).1:Nat)])/\((Ol.bc m s own ns).1=0->bt (fresh w.heap.size w') (.slice ua un uc) (Ol.bc m s own ns).2.1.dv/\ak w' pb db ao pc s.ds (Ol.bc m s own ns).2.2))/\w.grownBy w' (some pb):=by
 obtain ⟨i0,hi,Jv,JT,JE⟩:=info_parts vY;unfold mV sV;have HM:=qI hm;have Hl:=qI hs;have Jd:=qI (hv.le (cC _ _));have J4:=qI hv;have hf:=qI hmany;have Jy:=hs.pool.lt;have h7:=hm.nd;obtain ⟨pl,hP⟩:∃ x,x=Ol.place m (Ol.cf m s own ns):=⟨_,rfl⟩;have H9:=qI hP;have HP:=qI λ(W:World) (u:Value) (hu:fQ W u (Ol.cf m s own ns))=>KS m s own ns u W hu hl hm.nd hm.pol;rw [<- hP] at HP;clear hP;obtain ⟨⟨pm,pg⟩,pin⟩:=pl;dsimp only at HP;obtain ⟨na,nc,rfl,JS,Jh⟩:=hv;unfold maxLen at JS;have Jz:=qI Jh;have sz:(((w.alloc (lB tb m)).alloc (lC s pb)).alloc (.cells #[.int .u64 0,.slice none 0 0] 69)).heap.size=w.heap.size+3:=by simp
 have h8:=qI (aD ((w.alloc (lB tb m)).alloc (lC s pb)) (.cells #[.int .u64 0,.slice none 0 0] 69) (n:=w.heap.size+2) (by simp));have hH:=qI (bj (aD (w.alloc (lB tb m)) (lC s pb) (n:=w.heap.size+1) (by simp)) (.cells #[.int .u64 0,.slice none 0 0] 69));have H1:=qI (bj (bj (aD w (lB tb m) rfl) (lC s pb)) (.cells #[.int .u64 0,.slice none 0 0] 69));have h9:=qI ((((Q0 w.heap.size w).alloc (lR) (lB tb m)).alloc (by simp) (lC s pb)).alloc (by simp;omega) (.cells #[.int .u64 0,.slice none 0 0] 69));clear hm hs Jh hmany
 go_enter func94,ntmps94
 go_upto_region 1 with fail
 generalize (((w.alloc (lB tb m)).alloc (lC s pb)).alloc (.cells #[.int .u64 0,.slice none 0 0] 69))=U at *;generalize hB:w.heap.size=B at *;have Ho:Hid (∀ W,Below U.heap.size U W->Below w.heap.size w W):=λW hb=>(show Below w.heap.size w U from hB ▸ h9.out).trans (hb.mono (by omega))
 have Hb:Hid (∀ W,Below U.heap.size U W->(Lf B tb m s pb) W):=λW hb=>⟨aa ((hb.block (B) (by omega)).trans H1.out) 0,aa ((hb.block (B) (by omega)).trans H1.out) 1,aa ((hb.block (B) (by omega)).trans H1.out) 2,aa ((hb.block (B) (by omega)).trans H1.out) 3,aa ((hb.block (B) (by omega)).trans H1.out) 4,aa ((hb.block (B+1) (by omega)).trans hH.out) 0,aa ((hb.block (B+1) (by omega)).trans hH.out) 1⟩
 go_cut [10,11,12] (λp10 b11 e12 wc=>∃ Bp,p10=.pointer (some ⟨Bp,0,none⟩)/\b11=.bool pin/\e12=.nilIface/\wc.heap[Bp]?=some (.cells #[.int .u8 (pm:Nat),.bool pg] 223 (0,0))/\U.heap.size<=Bp/\Below U.heap.size U wc)
 case first=>
  have Hn:Hid (Below U.heap.size U U.drew):=a6 (Q0 _ _);refine Qo (by kernel_rfl) (Hb.out _ Hn.out) λhQ=>?_;generalize U.drew=V at *;refine tk 0 ?_;refine tk 1 ?_;refine tk 2 ?_;refine tk 3 ?_;refine tk 4 ?_;refine tk 5 ?_;refine tk 6 ?_;refine tk 7 ?_;refine wpAnyH_ready (rs:=[8,14]) (by kernel_rfl) (by simp) (AllReadyH.cons rfl (λK hK=>?_) (AllReadyH.cons rfl (λK hK=>?_) AllReadyH.nil))
  ·go_simp
   go_wp2_with fail
   refine (zc m s tb b o c pb db ao pc own _ ns V (HM.out.below (Ho.out _ Hn.out)) (Hl.out.below (Ho.out _ Hn.out)) (Jd.out.below (Ho.out _ Hn.out)) (by omega)).mono ?_;rintro e W1 ⟨v1,rfl,Jn,HA⟩;have He:=qI (Hn.out.trans (HA.mono Hn.out.size));have Jb:=qI Jn;clear Jn HA
   go_wp2
   refine hK.out _ _ (Hb.out _ He.out) λhQ=>?_;clear hK K;refine wpAnyH_ready (rs:=[9,14]) (by kernel_rfl) (by simp) (AllReadyH.cons rfl (λK hK=>?_) (AllReadyH.cons rfl (λK hK=>?_) AllReadyH.nil))
   ·go_simp
    go_wp2_with fail
    refine (HP.out W1 _ Jb.out).mono ?_;rintro e W2 ⟨rfl,Ja⟩;have hy:=qI (He.out.trans (Ja.mono He.out.size));clear Ja
    go_wp2
    refine hK.out _ _ (Hb.out _ hy.out) λhQ=>?_;clear hK K;refine tk 10 ?_;refine tk 11 ?_;refine tk 12 ?_;refine tk 13 ?_;refine rd 14 λK hK=>?_;have Jt:=qI (hy.out.alloc hy.out.size (.cells #[.int .u8 0,.bool false] 223));have HU:=qI (aD W2 (.cells #[.int .u8 0,.bool false] 223) rfl);have JN:W2.heap.size<(W2.alloc (.cells #[.int .u8 0,.bool false] 223)).heap.size:=by simp
    have HD:=hy.out.size;go_simp
    go_wp2
    refine hK.out _ _ (Hb.out _ Jt.out) λhQ=>?_;clear hK K;generalize W2.alloc (.cells #[.int .u8 0,.bool false] 223)=W3 at *;refine rd 15 λK hK=>?_;have c0_4:W3.cell? ⟨W2.heap.size,0,none⟩=some (.int .u8 0):=aa HU.out 0;have c1_4:W3.cell? ⟨W2.heap.size,1,none⟩=some (.bool false):=aa HU.out 1;have f0_4:=ai HU.out 0;have f1_4:=ai HU.out 1;have Js:=qI ((Jt.out.setCell (p:=⟨W2.heap.size,0,none⟩) HD (.int .u8 (pm:Nat))).setCell (p:=⟨W2.heap.size,1,none⟩) HD (.bool pg));have JA:=qI (ah (ah HU.out 0 (.int .u8 (pm:Nat))) 1 (.bool pg));go_simp
    go_wp2
    refine hK.out _ _ (Hb.out _ Js.out) λhQ=>?_;clear hK K;refine tk 16 ?_;refine tk 17 ?_;refine Qn (by kernel_rfl) ?_ _
    go_wp2
    go_meet
    exact ⟨_,rfl,rfl,rfl,JA.out,HD,Js.out⟩
   ·have h1:=qI (He.out.alloc He.out.size (.cells #[.int .u8 0,.bool false] 223));have JD:=qI (aD W1 (.cells #[.int .u8 0,.bool false] 223) rfl);have hp:W1.heap.size<(W1.alloc (.cells #[.int .u8 0,.bool false] 223)).heap.size:=by simp
    have HF:=He.out.size;have JX:=qI (Jb.out.below ((Q0 _ _).alloc (lR) (.cells #[.int .u8 0,.bool false] 223)));go_simp
    go_wp2
    refine hK.out _ _ (Hb.out _ h1.out) λhQ=>?_;clear hK K;generalize W1.alloc (.cells #[.int .u8 0,.bool false] 223)=W5 at *;refine rd 9 λK hK=>?_;go_simp
    go_wp2_with fail
    refine (HP.out W5 _ JX.out).mono ?_;rintro e W6 ⟨rfl,hD⟩;have Jf:=qI (h1.out.trans (hD.mono h1.out.size));have hc:=qI ((hD.block _ hp).trans JD.out);have JG:=Q1 hp hD.size;clear hD
    go_wp2
    refine hK.out _ _ (Hb.out _ Jf.out) λhQ=>?_;clear hK K;refine tk 10 ?_;refine tk 11 ?_;refine tk 12 ?_;refine tk 13 ?_;refine rd 15 λK hK=>?_;have c0_7:W6.cell? ⟨W1.heap.size,0,none⟩=some (.int .u8 0):=aa hc.out 0;have c1_7:W6.cell? ⟨W1.heap.size,1,none⟩=some (.bool false):=aa hc.out 1;have f0_7:=ai hc.out 0;have f1_7:=ai hc.out 1;have Jl:=qI ((Jf.out.setCell (p:=⟨W1.heap.size,0,none⟩) HF (.int .u8 (pm:Nat))).setCell (p:=⟨W1.heap.size,1,none⟩) HF (.bool pg));have JL:=qI (ah (ah hc.out 0 (.int .u8 (pm:Nat))) 1 (.bool pg));go_simp
    go_wp2
    refine hK.out _ _ (Hb.out _ Jl.out) λhQ=>?_;clear hK K;refine tk 16 ?_;refine tk 17 ?_;refine Qn (by kernel_rfl) ?_ _
    go_wp2
    go_meet
    exact ⟨_,rfl,rfl,rfl,JL.out,HF,Jl.out⟩
  ·have HQ:=qI (Hn.out.alloc Hn.out.size (.cells #[.int .u8 0,.bool false] 223));have JC:=qI (aD V (.cells #[.int .u8 0,.bool false] 223) rfl);have ho:V.heap.size<(V.alloc (.cells #[.int .u8 0,.bool false] 223)).heap.size:=by simp
   have HH:=Hn.out.size;go_simp
   go_wp2
   refine hK.out _ _ (Hb.out _ HQ.out) λhQ=>?_;clear hK K;generalize V.alloc (.cells #[.int .u8 0,.bool false] 223)=W8 at *;refine rd 8 λK hK=>?_;go_simp
   go_wp2_with fail
   refine (zc m s tb b o c pb db ao pc own _ ns W8 (HM.out.below (Ho.out _ HQ.out)) (Hl.out.below (Ho.out _ HQ.out)) (Jd.out.below (Ho.out _ HQ.out)) (by omega)).mono ?_;rintro e W9 ⟨v9,rfl,Jg,hA⟩;have hG:=qI (HQ.out.trans (hA.mono HQ.out.size));have JI:=qI Jg;have JH:=qI ((hA.block _ ho).trans JC.out);have H0:=Q1 ho hA.size;clear Jg hA
   go_wp2
   refine hK.out _ _ (Hb.out _ hG.out) λhQ=>?_;clear hK K;refine rd 9 λK hK=>?_;go_simp
   go_wp2_with fail
   refine (HP.out W9 _ JI.out).mono ?_;rintro e W10 ⟨rfl,Hq⟩;have ht:=qI (hG.out.trans (Hq.mono hG.out.size));have Hg:=qI ((Hq.block _ H0).trans JH.out);have Jm:=Q1 H0 Hq.size;clear Hq
   go_wp2
   refine hK.out _ _ (Hb.out _ ht.out) λhQ=>?_;clear hK K;refine tk 10 ?_;refine tk 11 ?_;refine tk 12 ?_;refine tk 13 ?_;refine rd 15 λK hK=>?_;have c0_11:W10.cell? ⟨V.heap.size,0,none⟩=some (.int .u8 0):=aa Hg.out 0;have c1_11:W10.cell? ⟨V.heap.size,1,none⟩=some (.bool false):=aa Hg.out 1;have f0_11:=ai Hg.out 0;have f1_11:=ai Hg.out 1;have H3:=qI ((ht.out.setCell (p:=⟨V.heap.size,0,none⟩) HH (.int .u8 (pm:Nat))).setCell (p:=⟨V.heap.size,1,none⟩) HH (.bool pg));have hM:=qI (ah (ah Hg.out 0 (.int .u8 (pm:Nat))) 1 (.bool pg));go_simp
   go_wp2
   refine hK.out _ _ (Hb.out _ H3.out) λhQ=>?_;clear hK K;refine tk 16 ?_;refine tk 17 ?_;refine Qn (by kernel_rfl) ?_ _
   go_wp2
   go_meet
   exact ⟨_,rfl,rfl,rfl,hM.out,HH,H3.out⟩
 case rest=>
  obtain ⟨Bp,rfl,rfl,rfl,hI,JK,h5⟩:=hcut;have Jr:=qI hI;have H6:=qI h5;have Jk:Hid (∀ W,U.grownBy W (some pb)->w.grownBy W (some pb)):=λW h=>grown_of (show Below w.heap.size w U from hB ▸ h9.out) h
  have Jx:=h5.size;have JR:Bp<wc.heap.size:=(gS hI).1;have J6:pb<B:=by omega
  clear HP hI h5
  rcases two pin with HJ|HJ
  ·subst HJ;obtain ⟨q0,q1,q2,q3,q4,q5,q6⟩:=Hb.out _ H6.out;have p0:wc.cell? ⟨Bp,0,none⟩=some (.int .u8 (pm:Nat)):=aa Jr.out 0;have HS:=qI (Ec tb b o c s.cp pm own m.l wc (HM.out.below (Ho.out _ H6.out)).topo HM.out.good Hl.out.cp (zf H9.out h7));obtain ⟨tk,hZ⟩:∃ x,x=aN m.l s.cp own (ae (aT pm) m.l):=⟨_,rfl⟩;have HT:=qI hZ;have Hp:=Le m.l s.cp own (ae (aT pm) m.l);rw [<- hZ] at HS Hp;clear hZ
   go_wp2_with fail
   refine HS.out.mono ?_;rintro e W1 ⟨rfl,HA⟩;have He:=qI (H6.out.trans (HA.mono Jx));have J9:=HA.size;have JU:=qI ((HA.block Bp JR).trans Jr.out);have HR:=qI ((He.out.block (B+2) (by omega)).trans h8.out);clear HA q0 q1 q2 q3 q4 q5 q6 p0 HS;obtain ⟨tc,te⟩:=tk;unfold iJ;dsimp only at Hp ⊢
   rcases Hp with Hp|⟨Hp,hJ,he,H4⟩
   ·subst Hp;rw [show au (0:Int)=.nilIface from rfl];have hC:=qI (Ld H9.out (by rw [<- HT.out]));rw [<- HT.out] at hC;dsimp only at hC;have hS:Hid (ak W1 pb db ao pc s.ds s.us):=Hl.out.pool.below (Ho.out _ He.out);have Ju:=zf H9.out h7
    go_wp2
    go_loopw [14,58] (λpv i wr=>∃ (k:Nat) (us:Nat->Bool) (out:List Nat),k<=ns.length/\i=.int .i64 k/\Row wr W1.heap.size pv out/\ak wr pb db ao pc s.ds us/\Ol.bY s.ds pm ns s.us []=Ol.bY s.ds pm (ns.drop k) us out/\out.length<=16*k/\Apart (λj=>j=pb\/W1.heap.size<=j) W1 wr) (λ_ i _=>ns.length - (intOf i).toNat)
    case atStart=>exact ⟨0,s.us,[],by omega,rfl,Qw _ _ _ _,hS.out,by rw [List.drop_zero],by simp,Apart.refl _ _⟩
    case round=>
     obtain ⟨k,us,out,hk,rfl,HG,Ht,hr,jb,Hc⟩:=hrel;have Hm:=qI HG;have Hw:=qI Ht;have HE:=qI hr;have JM:=qI Hc;have J3:=Hc.size;obtain ⟨va,vc,JW⟩:=fF HG;subst JW;clear HG Ht hr;have Hr:Hid (w.grownBy wr (some pb)):=grown_of (Ho.out _ He.out) ⟨Hc.os,Hc.tape,Hc.output,Hc.size,λj hj hn=>Hc.block j hj (λh=>by rcases h with h|h;exact hn (by rw [h]);omega)⟩;have JY:=qI ((Hc.block Bp (by omega) (by omega)).trans JU.out);have Ji:=qI ((Hc.block (B+2) (by omega) (by omega)).trans HR.out);have Jw:=qI ((Hc.block (B+1) (by omega) (by omega)).trans ((He.out.block (B+1) (by omega)).trans hH.out))
     by_cases hlt:k<ns.length
     ·obtain ⟨nb,no,rfl,HB,hT⟩:=Jz.out (by omega);rw [bH] at HB;have m0:=(hT k hlt).1;have m1:=(hT k hlt).2;have hE:some nb≠some pb:=λe=>eP m0 (by injection e)
      have c0:wr.cell? ⟨nb,no+k*2,none⟩=some (.string (nd ns k).kind):=(Hr.out.cell_far ⟨nb,no+k*2,none⟩ (by rw [hB];exact hB ▸ HB) hE).trans ((cC _ _).cell _ _ _ m0);have c1:wr.cell? ⟨nb,no+k*2+1,none⟩=some (.int .i64 (nd ns k).many):=(Hr.out.cell_far ⟨nb,no+k*2+1,none⟩ (by rw [hB];exact hB ▸ HB) hE).trans ((cC _ _).cell _ _ _ m1);have J1:=hf.out (nd ns k) (by simp [nd,hlt]);have hO:=qI (La (ds:=s.ds) (on:=pm) hlt us out);have J2:(k:Int)<(ns.length:Int):=by omega
      clear hT m0 m1 hE;generalize nd ns k=x at *;have hz:=qI ((Q0 wr.heap.size wr).alloc (lR) (i7 x));have Jj:=qI (aD wr (i7 x) rfl);have a0:(wr.alloc (i7 x)).cell? ⟨wr.heap.size,0,none⟩=some (.string x.kind):=aa Jj.out 0;have a1:(wr.alloc (i7 x)).cell? ⟨wr.heap.size,1,none⟩=some (.int .i64 x.many):=aa Jj.out 1;have s1:(wr.alloc (i7 x)).cell? ⟨B+1,1,none⟩=some (.pointer (some ⟨pb,0,none⟩)):=aa (bj Jw.out _) 1;have p0:(wr.alloc (i7 x)).cell? ⟨Bp,0,none⟩=some (.int .u8 (pm:Nat)):=aa (bj JY.out _) 0;have HS:=qI (IZ x.kind x.many pm (wr.alloc (i7 x)) pb db ao pc s.ds us (Hw.out.alloc _) Hl.out.nodes Ju);have J7:(wr.alloc (i7 x)).heap.size=wr.heap.size+1:=by simp
      clear Hc
      go_wp2_with fail
      generalize wr.alloc (i7 x)=W2 at *;refine HS.out.mono ?_;rintro e W3 ⟨hY,HC,H5⟩;have ja:=H5.size;have HV:=qI ((H5.block (B+2) (by omega) (λe=>by injection e with e;omega)).trans ((hz.out.block (B+2) (by omega)).trans Ji.out));have hN:=qI (K2 (K1 Hr.out hz.out) H5);clear a0 a1 s1 p0 c0 c1 HS
      by_cases htf:bQ s.ds us x.kind x.many=0
      ·obtain ⟨v3,g3,rfl,H8,hx,Hi⟩:=HC htf;clear hY HC hx;have HK:=qI Hi;have JO:=Ol.wn (m:=pm) htf;have HL:∀ j∈bx s.ds us x.kind pm x.many.toNat,j<16:=λj hj=>by have:=(Dvs.gV hj).1;have:=Hl.out.nodes.1;omega
       have JQ:=Dvs.nU HL (ze _ _ _ _ _);have hle:=K6 HL (ze _ _ _ _ _);have JB:Hid (Ol.bY s.ds pm ns s.us []=Ol.bY s.ds pm (ns.drop (k+1)) (cd us (bx s.ds us x.kind pm x.many.toNat)) (out++srt (bx s.ds us x.kind pm x.many.toNat))):=by
        unfold Hid;rw [HE.out,hO.out,if_pos htf]
       clear htf;generalize bx s.ds us x.kind pm x.many.toNat=L3 at *;generalize cd us L3=us3 at *;have hq:1<=(srt L3).length/\(srt L3).length<=16:=by omega
       clear JO HL JQ hle hO;obtain ⟨a3,c3,rfl,hU⟩:=H8;generalize srt L3=S3 at *;have Je:(ints S3).length=S3.length:=md _;rw [Je] at hU ⊢;clear Je;obtain ⟨JZ,J5,Jo⟩:=hU (by omega);subst JZ;have Hk:∀ b,(Value.slice va out.length vc).ownBlock=some b->W1.heap.size<=b/\b<wr.heap.size:=λb hb=>Hm.out.lt b hb
       have HX:=qI (show Row W3 W1.heap.size (.slice va out.length vc) out from m8 Hm.out λg hg=>(H5.block g (by have:=(Hk g hg).2;omega) (λe=>by injection e with e;have:=(Hk g hg).1;omega)).trans (hz.out.block g (Hk g hg).2));have JF:=qI (K7 (l:=S3) (g:=g3) Jo);have Hf:=qI Hl.out.pool.at0;clear Jo hU Hi;dsimp only;rw [show (au (((0:Nat)):Int))=.nilIface from rfl]
       go_wp2_with (at_builtin;refine wpList_append_own _ rfl _ _ 44 rfl W1.heap.size 3 i0 (.int .i64 0) 1 8 underlying44 hi Jv JT JE rfl (by decide) _ _ _ rfl HX.out ⟨g3,0,none⟩ (S3).length c3 (bF (S3)) rfl (by rw [l9,Nat.mul_one]) JF.out (rI _) (by unfold maxLen;omega) (by omega) (by omega) ?_;intro v4 W4 Hv HI _)
       have ha:Hid (Row W4 W1.heap.size v4 (out++S3)):=by
        unfold Hid Row;rw [Q2];have e:bF (out++S3)=bF out++bF (S3):=by simp [bF]
        rw [e];exact Hv
       have HO:=qI (HK.out.kept HI (λe=>by have:=(Hk pb e.symm).1;omega) (λh0 e=>by have:=(Hk db e.symm).1;have:=(Hf.out h0).2.2;omega));have h2:Hid (Apart (λj=>j=pb\/W1.heap.size<=j) W1 W4):=(JM.out.trans (Apart.of_below hz.out)).trans ((eu H5 λj hj _=>.inl (by injection hj with hj;exact hj.symm)).trans (eu HI λj hj _=>.inr (Hk j hj).1));clear Hv HI
       go_roundw
       case rel=>exact ⟨k+1,us3,out++S3,by omega,by go_num,ha.out,HO.out,JB.out,by rw [Q2];omega,h2.out⟩
       case measure=>simp [intOf];omega
      ·obtain ⟨rfl,JV⟩:=hY htf;have Hh:Hid (Ol.bc m s own ns=(bQ s.ds us x.kind x.many,⟨0,[]⟩,us)):=by
        unfold Hid;rw [hC.out,HE.out,hO.out,if_neg htf,if_pos htf]
       have HY:Hid ((Ol.bc m s own ns).1≠0):=by unfold Hid;rw [Hh.out];exact htf
       have HN:=eh htf;have h3:=qI HN;dsimp only;rw [HN];clear hY HC htf JV HN;generalize bQ s.ds us x.kind x.many=tf at *;have g0_3:W3.cell? ⟨B+2,0,none⟩=some (.int .u64 0):=aa HV.out 0;have g1_3:W3.cell? ⟨B+2,1,none⟩=some (.slice none 0 0):=aa HV.out 1;have f0_3:=ai HV.out 0;have f1_3:=ai HV.out 1;have Jp:=qI (ah (ah HV.out 0 (.int .u64 0)) 1 (.slice none 0 0));have hX:=qI (jJ (jJ hN.out (b:=B+2) (by omega) 0 (.int .u64 0)) (b:=B+2) (by omega) 1 (.slice none 0 0))
       go_wp2_with fail
       generalize ((W3.setCell ⟨B+2,0,none⟩ (.int .u64 0)).setCell ⟨B+2,1,none⟩ (.slice none 0 0))=WZ at *;(try simp only [Exit.inBlock,Exit.then]);refine bodyPost_ret (v:=.tuple #[.agg #[.int .u64 0,.slice none 0 0],.iface 121 (.int .i64 (tf:Nat))]) ?_ rfl ⟨⟨none,0,0,by rw [Hh.out];dsimp only;rw [h3.out];rfl,λh=>absurd h HY.out⟩,hX.out⟩;have r0:WZ.cell? ⟨B+2,0,none⟩=some (.int .u64 0):=aa Jp.out 0;have r1:WZ.cell? ⟨B+2,1,none⟩=some (.slice none 0 0):=aa Jp.out 1;rw [iw rfl];clear g0_3 g1_3 f0_3 f1_3;go_simp
     ·have JJ:k=ns.length:=by omega
      subst JJ;have hR:Hid (Ol.bY s.ds pm ns s.us []=(0,us,out)):=by unfold Hid;rw [HE.out,List.drop_length];rfl
      have Hh:Hid (Ol.bc m s own ns=(0,⟨tc,(srt out).map λ(k:Nat)=>(k:Int)⟩,us)):=by
       unfold Hid;rw [hC.out,hR.out];rfl
      obtain ⟨new,Hx,Hj⟩:=Ol.wo Hl.out.nodes.1 pm ns s.us [] (by rw [hR.out]);rw [hR.out,List.nil_append] at Hx;dsimp only at Hx;subst Hx;have J0:∀ j∈out,j<16:=λj hj=>by have:=(Hj.free j hj).1;have:=Hl.out.nodes.1;omega
      have hw:=Hj.nodup;have H7:=qI (K9 (L:=out) J0 hw Hm.out (by omega));have Hk:∀ b,(Value.slice va out.length vc).ownBlock=some b->W1.heap.size<=b/\b<wr.heap.size:=λb hb=>Hm.out.lt b hb
      have Hf:=qI Hl.out.pool.at0;clear Hj hw Hc
      go_wp2_with fail
      refine H7.out.mono ?_;rintro e W5 ⟨rfl,Hs,Ha⟩;have J8:=Ha.size;have hh:=qI ((Ha.block (B+2) (by omega) (λe=>by have:=(Hk (B+2) e.symm).1;omega)).trans Ji.out);have Hy:=qI (Hw.out.kept Ha (λe=>by have:=(Hk pb e.symm).1;omega) (λh0 e=>by have:=(Hk db e.symm).1;have:=(Hf.out h0).2.2;omega));have hL:Hid (w.grownBy W5 (some pb)):=⟨Ha.os.trans Hr.out.os,Ha.tape.trans Hr.out.tape,Ha.output.trans Hr.out.output,Q5 Hr.out.size Ha.size,λj hj hn=>(Ha.block j (by have:=Hr.out.size;omega) (λe=>by have:=(Hk j e.symm).1;omega)).trans (Hr.out.block j hj hn)⟩;have Hu:=qI Hs;have hF:∀ b,(Value.slice va out.length vc).ownBlock=some b->W1.heap.size<=b/\b<W5.heap.size:=λb hb=>Hu.out.lt b hb
      have g0:W5.cell? ⟨B+2,0,none⟩=some (.int .u64 0):=aa hh.out 0;have g1:W5.cell? ⟨B+2,1,none⟩=some (.slice none 0 0):=aa hh.out 1;have f0:=ai hh.out 0;have f1:=ai hh.out 1;have HZ:=qI (ah (ah hh.out 0 (.int .u64 tc)) 1 (.slice va out.length vc));have hW:=qI (jJ (jJ hL.out (b:=B+2) (by omega) 0 (.int .u64 tc)) (b:=B+2) (by omega) 1 (.slice va out.length vc));have h6:Hid (∀ j,j≠B+2->((W5.setCell ⟨B+2,0,none⟩ (.int .u64 tc)).setCell ⟨B+2,1,none⟩ (.slice va out.length vc)).heap[j]?=W5.heap[j]?):=λj hj=>(set_other hj).trans (set_other hj)
      have HW:Hid (Row ((W5.setCell ⟨B+2,0,none⟩ (.int .u64 tc)).setCell ⟨B+2,1,none⟩ (.slice va out.length vc)) W1.heap.size (.slice va out.length vc) (srt out)):=m8 Hu.out λg hg=>h6.out g (by have:=(hF g hg).1;omega);have Hz:Hid (ak ((W5.setCell ⟨B+2,0,none⟩ (.int .u64 tc)).setCell ⟨B+2,1,none⟩ (.slice va out.length vc)) pb db ao pc s.ds us):=(Hy.out.kept (bL _ ⟨B+2,0,none⟩ _) (λe=>by injection e with e;have e:pb=B+2:=e;omega) (λh0 e=>by injection e with e;have e:db=B+2:=e;have:=(Hf.out h0).2.2;omega)).kept (bL _ ⟨B+2,1,none⟩ _) (λe=>by injection e with e;have e:pb=B+2:=e;omega) (λh0 e=>by injection e with e;have e:db=B+2:=e;have:=(Hf.out h0).2.2;omega);clear Hs Ha
      go_wp2_with fail
      generalize ((W5.setCell ⟨B+2,0,none⟩ (.int .u64 tc)).setCell ⟨B+2,1,none⟩ (.slice va out.length vc))=WZ at *;(try simp only [Exit.inBlock,Exit.then]);refine bodyPost_ret (v:=.tuple #[.agg #[.int .u64 tc,.slice va out.length vc],.nilIface]) ?_ rfl ⟨⟨va,out.length,vc,by rw [Hh.out];rfl,λ_=>?_⟩,hW.out⟩
      ·have r0:WZ.cell? ⟨B+2,0,none⟩=some (.int .u64 tc):=aa HZ.out 0;have r1:WZ.cell? ⟨B+2,1,none⟩=some (.slice va out.length vc):=aa HZ.out 1;rw [iw rfl];clear g0 g1 f0 f1;go_simp
      ·rw [Hh.out];exact ⟨K8 HW.out (by omega),Hz.out⟩
   ·subst hJ;have Hh:Hid (Ol.bc m s own ns=(te.toNat,⟨0,[]⟩,s.us)):=by
     have:=Lc H9.out (by rw [<- HT.out];exact Hp)
     rw [<- HT.out] at this;exact this
    have HY:Hid ((Ol.bc m s own ns).1≠0):=by unfold Hid;rw [Hh.out];exact H4
    have JP:=qI he;have HN:au te=.iface 121 (.int .i64 te):=by unfold au;rw [if_neg Hp]
    rw [HN];have h3:=qI HN;clear Hp he H4 HN;have g0_1:W1.cell? ⟨B+2,0,none⟩=some (.int .u64 0):=aa HR.out 0;have g1_1:W1.cell? ⟨B+2,1,none⟩=some (.slice none 0 0):=aa HR.out 1;have f0_1:=ai HR.out 0;have f1_1:=ai HR.out 1;have Jc:=qI (ah (ah HR.out 0 (.int .u64 0)) 1 (.slice none 0 0));have hV:=qI (jJ (jJ (Jk.out _ (dD He.out _)) (b:=B+2) (by omega) 0 (.int .u64 0)) (b:=B+2) (by omega) 1 (.slice none 0 0))
    go_wp2_with fail
    generalize ((W1.setCell ⟨B+2,0,none⟩ (.int .u64 0)).setCell ⟨B+2,1,none⟩ (.slice none 0 0))=WZ at *;(try simp only [Exit.inBlock,Exit.then]);refine bodyPost_ret (v:=.tuple #[.agg #[.int .u64 0,.slice none 0 0],.iface 121 (.int .i64 te)]) ?_ rfl ⟨⟨none,0,0,by rw [Hh.out];dsimp only;rw [JP.out,h3.out];rfl,λh=>absurd h HY.out⟩,hV.out⟩;have r0:WZ.cell? ⟨B+2,0,none⟩=some (.int .u64 0):=aa Jc.out 0;have r1:WZ.cell? ⟨B+2,1,none⟩=some (.slice none 0 0):=aa Jc.out 1;rw [iw rfl];clear g0_1 g1_1 f0_1 f1_1;go_simp
  ·subst HJ;have Hh:=qI (Lb H9.out);have HY:Hid ((Ol.bc m s own ns).1≠0):=by unfold Hid;rw [Hh.out];exact (by decide:(10:Nat)≠0)
   have H2:=qI ((H6.out.block (B+2) (by omega)).trans h8.out);have g0_2:wc.cell? ⟨B+2,0,none⟩=some (.int .u64 0):=aa H2.out 0;have g1_2:wc.cell? ⟨B+2,1,none⟩=some (.slice none 0 0):=aa H2.out 1;have f0_2:=ai H2.out 0;have f1_2:=ai H2.out 1;have Jq:=qI (ah (ah H2.out 0 (.int .u64 0)) 1 (.slice none 0 0));have h4:=qI (jJ (jJ (Jk.out _ (dD H6.out _)) (b:=B+2) (by omega) 0 (.int .u64 0)) (b:=B+2) (by omega) 1 (.slice none 0 0))
   go_wp2_with fail
   generalize ((wc.setCell ⟨B+2,0,none⟩ (.int .u64 0)).setCell ⟨B+2,1,none⟩ (.slice none 0 0))=WZ at *;(try simp only [Exit.inBlock,Exit.then]);refine bodyPost_ret (v:=.tuple #[.agg #[.int .u64 0,.slice none 0 0],.iface 121 (.int .i64 10)]) ?_ rfl ⟨⟨none,0,0,by rw [Hh.out];rfl,λh=>absurd h HY.out⟩,h4.out⟩;have r0:WZ.cell? ⟨B+2,0,none⟩=some (.int .u64 0):=aa Jq.out 0;have r1:WZ.cell? ⟨B+2,1,none⟩=some (.slice none 0 0):=aa Jq.out 1;rw [iw rfl];clear g0_2 g1_2 f0_2 f1_2;go_simp
end
section
open RowKit Shelf
open Qos (Nd Ct Pd nd ct pd af aA)
open Sv (Gv Hd gv hd)
open Ost (dif cnt)
theorem Lh (m:Ol.Mc) (cs:List Ct) (k:Nat) (gs:List Gv) (s:Ol.Sk):(Ol.jA m cs k gs s).2.2.ds=s.ds:=by
 unfold Ol.jA;split <;> rfl
theorem Li (m:Ol.Mc) (s:Ol.Sk) (cs:List Ct):∀ k,(Ol.bi m s cs k).2.2.ds=s.ds:=by
 intro k
 induction k with
 | zero=>rfl
 | succ k ih=>
  rw [Ol.bi]
  split
  ·rw [Lh];exact ih
  ·exact ih
theorem Lj {m:Ol.Mc} {s:Ol.Sk} {cs:List Ct} {k:Nat} (h:(Ol.bi m s cs k).1≠0):∀ j,k<=j->(Ol.bi m s cs j).1=(Ol.bi m s cs k).1:=by
 intro j hj
 induction j with
 | zero=>rw [show k=0 by omega]
 | succ j ih=>
  by_cases e:k=j+1
  ·rw [e]
  ·have:=ih (by omega)
   rw [Ol.bi,if_neg (by rw [this];exact h)];exact this
theorem Lk {m:Ol.Mc} {s:Ol.Sk} {own:Int} {ns:List Nd} (hs:s.cp<18446744073709551616):(Ol.bc m s own ns).2.1.cp<18446744073709551616:=by
 unfold Ol.bc;dsimp only
 split
 ·exact Nat.zero_lt_succ _
 ·split
  ·exact Nat.zero_lt_succ _
  ·rename_i ht
   split
   ·exact Nat.zero_lt_succ _
   ·exact Ol.wA (Ol.wm (Qt λh=>ht h)).2 hs
theorem Ll (m:Ol.Mc) (s:Ol.Sk) (cs:List Ct) (hs:s.cp<18446744073709551616):∀ k,(Ol.bi m s cs k).2.2.cp<18446744073709551616:=by
 intro k
 induction k with
 | zero=>exact hs
 | succ k ih=>
  rw [Ol.bi]
  split
  ·unfold Ol.jA
   split
   ·exact Ost.gX _ ih
   ·exact ih
  ·exact ih
theorem Lm {m:Ol.Mc} {s:Ol.Sk} {cs:List Ct} {k:Nat} {gs:List Gv} {sk:Ol.Sk} (h:Ol.bi m s cs k=(0,gs,sk)):Ol.bi m s cs (k+1)=if (Ol.bc m sk (aA cs (ct cs k).am) (ct cs k).ds).1=0 then (0,gs++[(Ol.bc m sk (aA cs (ct cs k).am) (ct cs k).ds).2.1],⟨dif sk.cp (Ol.bc m sk (aA cs (ct cs k).am) (ct cs k).ds).2.1.cp,sk.ds,(Ol.bc m sk (aA cs (ct cs k).am) (ct cs k).ds).2.2⟩) else ((Ol.bc m sk (aA cs (ct cs k).am) (ct cs k).ds).1,[],⟨sk.cp,sk.ds,(Ol.bc m sk (aA cs (ct cs k).am) (ct cs k).ds).2.2⟩):=by
 rw [Ol.bi,h];rfl
theorem ba.le {W W':World} {tb b o c:Nat} {l:List Ost.Cpu} (h:ba W tb b o c l) (k:aq W W'):ba W' tb b o c l:=
 ⟨k.cell _ _ _ h.cell,λj hj=>⟨k.cell _ _ _ (h.cells j hj).1,k.cell _ _ _ (h.cells j hj).2.1,k.cell _ _ _ (h.cells j hj).2.2⟩,Q1 h.lt k.size,h.len⟩
theorem cK.le {W W':World} {tb b o c:Nat} {m:Ol.Mc} (h:cK W tb b o c m) (k:aq W W'):cK W' tb b o c m:=⟨h.topo.le k,h.good,h.op,h.nd,h.pol⟩
theorem Ln {pb:Nat} {w W:World} (h:Apart (λj=>j=pb) w W):aq (ag (λj=>j=pb) w) (ag (λj=>j=pb) W):=k9 h (λ_ _ h=>h)
end
section
open RowKit Shelf
open Qos (Nd Ct Pd nd ct pd af aA)
open Sv (Gv Hd gv hd)
open Ost (dif cnt)
attribute [local go_sem] Oper.semAt_some
def fp (x:Gv × Value):List Value:=[.int .u64 (x.1.cp:Nat),x.2]
theorem Lo (g:Gv) (a:Option Addr) (n c:Nat):∀ u∈fp (g,.slice a n c),u.oneCell'=true:=by
 intro u hu
 simp [fp] at hu
 rcases hu with rfl|rfl <;> rfl
theorem Lp (w:World) (x:Gv × Value) (t:TypeId):∀ j u,(fp x)[j]?=some u->(w.alloc (.cells #[.int .u64 (x.1.cp:Nat),x.2] t)).cell? ((⟨w.heap.size,0,none⟩:Addr).add j)=some u:=by
 intro j u hu;rw [Addr.add_lit,Qd]
 match j,hu with
 | 0,hu=>simp [fp] at hu;subst hu;simp
 | 1,hu=>simp [fp] at hu;subst hu;simp
 | n+2,hu=>simp [fp] at hu
theorem Lq:(prog.info? 69).map (λi=>(i.zero,i.size,i.bytes))=some (some (.agg #[.int .u64 0,.slice none 0 0]),2,32):=by kernel_rfl
structure sx (W:World) (v:Value) (l:List (Gv × Value)) (N:Nat):Prop where
 row:W.ownsRow N 69 2 v l.length (l.flatMap fp)
 in_:∀ x∈l,x.1.cp<18446744073709551616/\bt (ag (λj=>j<N\/v.ownBlock=some j) W) x.2 x.1.dv
theorem Lr {W:World} {v:Value} {l:List (Gv × Value)} {N K:Nat} (h:sx W v l N) (hN:K<=N):bz (fresh K W) v (l.map Prod.fst):=by
 have h':=h.row
 rcases h.row.2 with ⟨hv,h0⟩|⟨g,cap,cur,hv,hg,Hc,Ha,Hb,_⟩
 ·have:l=[]:=Qe h0
  subst this;rw [hv];exact ⟨none,0,rfl,⟨lR,Nat.zero_le _⟩,λh=>absurd h (Nat.lt_irrefl 0)⟩
 ·subst hv;have key:∀ (l:List (Gv × Value)) (k:Nat) (hk:k<l.length) (j:Nat),j<2->(l.flatMap fp)[k*2+j]?=(fp l[k])[j]?:=by
   intro l
   induction l with
   | nil=>intro k hk;simp at hk
   | cons a l ih=>
    intro k hk j hj;rw [List.flatMap_cons];cases k with
    | zero=>rw [List.getElem?_append_left (by simp [fp];omega)];simp
    | succ k=>
     rw [List.getElem?_append_right (by simp [fp];omega)]
     have:=ih k (by simpa using hk) j hj
     simp only [List.getElem_cons_succ];rw [<- this]
     congr 1
     simp [fp]
     omega
  refine ⟨_,cap,by rw [Q9],by rw [Q9];exact ⟨Ha,Hb⟩,λ_=>⟨g,0,λk=>(l.getD k (⟨0,[]⟩,.nilIface)).2,rfl,by rw [bH];exact (gS Hc).1,λk hk=>?_⟩⟩;rw [Q9] at hk;have e:gv (l.map Prod.fst) k=l[k].1:=by simp [gv,hk]
  have e2:(l.getD k (⟨0,[]⟩,.nilIface)).2=l[k].2:=by simp [hk]
  obtain ⟨q1,q2⟩:=h.in_ _ (List.getElem_mem hk);dsimp only;rw [e,e2];refine ⟨⟨?_,?_,q1⟩,q2.le (bE (λj _ hn=>⟨λhj=>hn (.inl (Q1 hj hN)),rfl⟩) (lR))⟩
  ·rw [gQ (by omega),Qd,h'.cellAt (k*2) (by omega)];exact key l k hk 0 (by decide)
  ·rw [gQ (by omega),Qd,h'.cellAt (k*2+1) (by omega)];exact key l k hk 1 (by decide)
abbrev ky:=λ(x0:Nat) (x1:Ol.Mc)=>(.cells #[.pointer (some ⟨x0,0,none⟩),.int .u64 x1.op,.int .u8 x1.nd,.int .i64 x1.nb,.int .i64 x1.pol] 95:Obj)
abbrev kz:=λ(x0:Pd) (x1:Option Addr) (x2:Nat)=>(.cells #[.string x0.nm,.int .i64 x0.pr,.slice x1 x0.cs.length x2] 47:Obj)
abbrev o9:=λ(x0:Qos.Ct) (x1:Option Addr) (x2:Nat)=>(.cells #[.string x0.nm,.int .i64 x0.am,.int .i64 x0.ab,.int .i64 x0.cm,.int .i64 x0.cb,.slice x1 x0.ds.length x2] 63:Obj)
abbrev kC:=λ(x0:Ol.Sk) (x1:Nat)=>(.cells #[.int .u64 x0.cp,.pointer (some ⟨x1,0,none⟩)] 98:Obj)
abbrev Ls:=λ(B tb:Nat) (m:Ol.Mc) (sk:Ol.Sk) (pb:Nat) (p:Pd) (cb co cc Bc:Nat) (x:Qos.Ct) (na:Option Addr) (nc:Nat) (w':World)=>w'.cell? ⟨B,0,none⟩=some (.pointer (some ⟨tb,0,none⟩))/\w'.cell? ⟨B,1,none⟩=some (.int .u64 m.op)/\w'.cell? ⟨B,2,none⟩=some (.int .u8 m.nd)/\w'.cell? ⟨B,3,none⟩=some (.int .i64 m.nb)/\w'.cell? ⟨B,4,none⟩=some (.int .i64 m.pol)/\w'.cell? ⟨B+1,0,none⟩=some (.int .u64 sk.cp)/\w'.cell? ⟨B+1,1,none⟩=some (.pointer (some ⟨pb,0,none⟩))/\w'.cell? ⟨B+2,0,none⟩=some (.string p.nm)/\w'.cell? ⟨B+2,1,none⟩=some (.int .i64 p.pr)/\w'.cell? ⟨B+2,2,none⟩=some (.slice (some ⟨cb,co,none⟩) p.cs.length cc)/\w'.cell? ⟨Bc,0,none⟩=some (.string x.nm)/\w'.cell? ⟨Bc,1,none⟩=some (.int .i64 x.am)/\w'.cell? ⟨Bc,2,none⟩=some (.int .i64 x.ab)/\w'.cell? ⟨Bc,3,none⟩=some (.int .i64 x.cm)/\w'.cell? ⟨Bc,4,none⟩=some (.int .i64 x.cb)/\w'.cell? ⟨Bc,5,none⟩=some (.slice na x.ds.length nc)
theorem Lt (m:Ol.Mc) (s:Ol.Sk) (tb b o c pb db:Nat) (ao:Option Addr) (pc:Nat) (p:Pd) (cv:Value) (w:World) (hm:cK (ag (λj=>j=pb) w) tb b o c m) (hs:dj w pb db ao pc s) (hp:aE (ag (λj=>j=pb) w) cv p.cs) (hF:af p=0) :
  Calls prog 53 #[mV m tb,sV s pb,bG p cv] w λe w'=>(∃ ua un uc,e=.returned (.tuple #[.slice ua un uc,au ((Ol.give m s p).1:Nat)])/\((Ol.give m s p).1=0->bz (fresh w.heap.size w') (.slice ua un uc) (Ol.give m s p).2))/\w.grownBy w' (some pb):=by
 obtain ⟨i0,hi,Jv,J6,JK⟩:=info_parts Lq;unfold mV sV bG;have HM:=qI hm;have HS:=qI hs;have HP:=qI hp;have Ja:=qI (Sv.fD hF);have Jz:=hs.pool.lt;have Hx:=qI hs.pool.at0;obtain ⟨ca,cc,rfl,jg,Je⟩:=hp;have JO:=qI Je;have J9:=Ja.out.2.2.1;have sz:(((w.alloc (ky tb m)).alloc (kC s pb)).alloc (kz p ca cc)).heap.size=w.heap.size+3:=by simp
 have h5:=qI (aD ((w.alloc (ky tb m)).alloc (kC s pb)) (kz p ca cc) (n:=w.heap.size+2) (by simp));have JD:=qI (bj (aD (w.alloc (ky tb m)) (kC s pb) (n:=w.heap.size+1) (by simp)) (kz p ca cc));have JE:=qI (bj (bj (aD w (ky tb m) rfl) (kC s pb)) (kz p ca cc));have HU:=qI ((((Q0 w.heap.size w).alloc (lR) (ky tb m)).alloc (by simp) (kC s pb)).alloc (by simp;omega) (kz p ca cc));have J5:(((w.alloc (ky tb m)).alloc (kC s pb)).alloc (kz p ca cc)).cell? ⟨w.heap.size+2,2,none⟩=some (.slice ca p.cs.length cc):=aa h5.out 2;have hI:=qI (hs.pool.below HU.out);clear hm hs Je hF
 go_enter func53,ntmps53
 go_wp2_with fail
 generalize (((w.alloc (ky tb m)).alloc (kC s pb)).alloc (kz p ca cc))=U at *;generalize hB:w.heap.size=B at *;clear J5
 go_loopw [8,16] (λpv i wr=>∃ (k:Nat) (sk:Ol.Sk) (l:List (Gv × Value)),k<=p.cs.length/\i=.int .i64 k/\Ol.bi m s p.cs k=(0,l.map Prod.fst,sk)/\l.length=k/\sx wr pv l U.heap.size/\ak wr pb db ao pc sk.ds sk.us/\wr.heap[B+1]?=some (.cells #[.int .u64 sk.cp,.pointer (some ⟨pb,0,none⟩)] 98 (0,0))/\Apart (λj=>j=pb\/j=B+1\/U.heap.size<=j) U wr) (λ_ i _=>p.cs.length - (intOf i).toNat)
 case atStart=>exact ⟨0,s,[],by omega,rfl,rfl,rfl,⟨Qw _ _ _ _,λx hx=>(List.not_mem_nil hx).elim⟩,hI.out,JD.out,Apart.refl _ _⟩
 case round=>
  obtain ⟨k,sk,l,hk,rfl,hq,h4,HE,Hv,h7,Hn⟩:=hrel;have Jf:=qI hq;have JG:=qI h4;have Ho:=qI HE;have ha:=qI Hv;have hA:=qI h7;have JY:=qI Hn;have jf:=Hn.size;have jk:pb<B:=by omega
  have J7:l.length<=3:=by omega
  obtain ⟨va,vc,J8⟩:=fF HE.row;subst J8;have Hm:Hid (w.grownBy wr (some pb)):=⟨Hn.os.trans HU.out.os,Hn.tape.trans HU.out.tape,Hn.output.trans HU.out.output,by omega,λj hj hn=>(Hn.block j (by omega) (λh=>by rcases h with h|h|h;exact hn (by rw [h]);omega;omega)).trans (HU.out.block j (by omega))⟩;have H3:=qI ((Hn.block B (by omega) (by omega)).trans JE.out);have hT:=qI ((Hn.block (B+2) (by omega) (by omega)).trans h5.out);have He:Hid (sk.ds=s.ds/\sk.cp<18446744073709551616):=⟨by have:=Li m s p.cs k;rw [hq] at this;exact this,by have:=Ll m s p.cs HS.out.cp k;rw [hq] at this;exact this⟩;have ho:Hid (aq (ag (λj=>j=pb) w) (ag (λj=>j=pb) wr)):=bE (λj hj hn=>⟨hn,Hm.out.block j hj λe=>hn (by injection e)⟩) Hm.out.size;clear hq h4 HE Hv h7 Hn
  by_cases hlt:k<p.cs.length
  ·obtain ⟨cb,co,dv,rfl,Hz⟩:=JO.out (by omega);obtain ⟨k0,k1,k2,k3,k4,k5⟩:=Hz.at hlt;have Hf:=ho.out.trans (cC _ _);have k0:=Hf.cell _ _ _ k0;have k1:=Hf.cell _ _ _ k1;have k2:=Hf.cell _ _ _ k2;have k3:=Hf.cell _ _ _ k3;have k4:=Hf.cell _ _ _ k4;have k5:=Hf.cell _ _ _ k5;have Hg:=((Hz.2 k hlt).2).le ho.out;obtain ⟨na,nc,hU,hP,hV⟩:=id Hg;rw [hU] at k5 Hg;have Hu:=qI Hg;have HA:=qI (Ja.out.2.2.2 (ct p.cs k) (Ost.dX _ _ _ hlt));have HO:=qI (Lm Jf.out);have je:(k:Int)<(p.cs.length:Int):=by omega
   obtain ⟨x,hx⟩:∃ x,x=ct p.cs k:=⟨_,rfl⟩;rw [<- hx] at k0 k1 k2 k3 k4 k5 hU HA HO Hu;clear Hz Hg Hf hU hx hP hV;have Hb:=qI ((Q0 wr.heap.size wr).alloc (lR) (o9 x na nc));have HL:=qI (aD wr (o9 x na nc) rfl);have jl:(wr.alloc (o9 x na nc)).heap.size=wr.heap.size+1:=by simp
   go_upto_region 5 with fail
   generalize wr.alloc (o9 x na nc)=X at *;clear k0 k1 k2 k3 k4 k5;generalize hBc:wr.heap.size=Bc at *;have Hh:Hid (∀ W,Apart (λj=>j=pb) X W->(Ls B tb m sk pb p cb co cc Bc x na nc) W):=λW hb=>⟨aa ((hb.block (B) (by omega) (by omega)).trans ((Hb.out.block B (by omega)).trans H3.out)) 0,aa ((hb.block (B) (by omega) (by omega)).trans ((Hb.out.block B (by omega)).trans H3.out)) 1,aa ((hb.block (B) (by omega) (by omega)).trans ((Hb.out.block B (by omega)).trans H3.out)) 2,aa ((hb.block (B) (by omega) (by omega)).trans ((Hb.out.block B (by omega)).trans H3.out)) 3,aa ((hb.block (B) (by omega) (by omega)).trans ((Hb.out.block B (by omega)).trans H3.out)) 4,aa ((hb.block (B+1) (by omega) (by omega)).trans ((Hb.out.block (B+1) (by omega)).trans hA.out)) 0,aa ((hb.block (B+1) (by omega) (by omega)).trans ((Hb.out.block (B+1) (by omega)).trans hA.out)) 1,aa ((hb.block (B+2) (by omega) (by omega)).trans ((Hb.out.block (B+2) (by omega)).trans hT.out)) 0,aa ((hb.block (B+2) (by omega) (by omega)).trans ((Hb.out.block (B+2) (by omega)).trans hT.out)) 1,aa ((hb.block (B+2) (by omega) (by omega)).trans ((Hb.out.block (B+2) (by omega)).trans hT.out)) 2,aa ((hb.block (Bc) (by omega) (by omega)).trans HL.out) 0,aa ((hb.block (Bc) (by omega) (by omega)).trans HL.out) 1,aa ((hb.block (Bc) (by omega) (by omega)).trans HL.out) 2,aa ((hb.block (Bc) (by omega) (by omega)).trans HL.out) 3,aa ((hb.block (Bc) (by omega) (by omega)).trans HL.out) 4,aa ((hb.block (Bc) (by omega) (by omega)).trans HL.out) 5⟩
   have J1:Hid (ak X pb db ao pc sk.ds sk.us):=ha.out.below (by rw [hBc];exact Hb.out);have HT:=qI λ(W:World) (v:Value) (h1:cK W tb b o c m) (h2:dj W pb db ao pc sk) (h3:be (ag (λj=>j=pb) W) v x.ds)=>Lg m sk tb b o c pb db ao pc (aA p.cs x.am) v x.ds W h1 h2 h3 HA.out.2.2.2.2.2.1 λn hn=>(HA.out.2.2.2.2.2.2 n hn).2.1;have h8:=qI (Lk (m:=m) (s:=sk) (own:=aA p.cs x.am) (ns:=x.ds) He.out.2);obtain ⟨G,hG⟩:∃ G,G=(Ol.bc m sk (aA p.cs x.am) x.ds):=⟨_,rfl⟩;rw [<- hG] at HT HO h8;clear hG;have Hp:Hid (∀ W,Apart (λj=>j=pb) X W->cK W tb b o c m/\aE W (.slice (some ⟨cb,co,none⟩) p.cs.length cc) p.cs/\be (ag (λj=>j=pb) W) (.slice na x.ds.length nc) x.ds):=λW hb=>by
    have l1:aq (ag (λj=>j=pb) wr) (ag (λj=>j=pb) W):=(k9 (Apart.of_below (K:=λj=>j=pb) (by rw [hBc];exact Hb.out)) λ_ _ h=>h).trans (Ln hb);exact ⟨HM.out.le ((ho.out.trans l1).trans (cC _ _)),HP.out.le ((ho.out.trans l1).trans (cC _ _)),Hu.out.le l1⟩
   go_cut [11,12] (λp11 e12 wc=>∃ Bp ua un uc,p11=.pointer (some ⟨Bp,0,none⟩)/\e12=au (G.1:Nat)/\wc.heap[Bp]?=some (.cells #[.int .u64 (G.2.1.cp:Nat),.slice ua un uc] 69 (0,0))/\X.heap.size<=Bp/\(G.1=0->bt (ag (λj=>j<X.heap.size\/j=Bp) wc) (.slice ua un uc) G.2.1.dv/\ak wc pb db ao pc sk.ds G.2.2)/\Apart (λj=>j=pb) X wc)
   case first=>
    have he:Hid (Apart (λj=>j=pb) X X.drew):=Apart.drew _ _;refine Qo (by kernel_rfl) (Hh.out _ he.out) λhQ=>?_;have Ji:Hid (ak X.drew pb db ao pc sk.ds sk.us):=J1.out.below (a6 (Q0 _ _));generalize X.drew=V at *;refine tk 0 ?_;refine tk 1 ?_;refine tk 2 ?_;refine tk 3 ?_;refine tk 5 ?_;refine tk 6 ?_;refine wpAnyH_ready (rs:=[4,11]) (by kernel_rfl) (by simp) (AllReadyH.cons rfl (λK hK=>?_) (AllReadyH.cons rfl (λK hK=>?_) AllReadyH.nil))
    ·go_simp
     go_wp2_with fail
     refine (mn p _ x na x.ds.length nc V (Hp.out _ he.out).2.1 HA.out.2.1.1 HA.out.2.1.2).mono ?_;rintro e W1 ⟨rfl,hu⟩;have HF:=qI (he.out.trans (Apart.of_below hu));have Jc:=qI (Ji.out.below hu);clear hu
     go_wp2
     refine hK.out _ _ (Hh.out _ HF.out) λhQ=>?_;clear hK K;refine wpAnyH_ready (rs:=[7,11]) (by kernel_rfl) (by simp) (AllReadyH.cons rfl (λK hK=>?_) (AllReadyH.cons rfl (λK hK=>?_) AllReadyH.nil))
     ·go_simp
      go_wp2_with fail
      refine (HT.out W1 _ (Hp.out _ HF.out).1 ⟨Jc.out,by rw [He.out.1];exact HS.out.nodes,He.out.2⟩ (Hp.out _ HF.out).2.2).mono ?_;rintro e W2 ⟨⟨ua2,un2,uc2,rfl,HH⟩,h6⟩;have hC:=qI (HF.out.trans (eu h6 (λj hj _=>by injection hj with hj;exact hj.symm)));have hR:=HF.out.size;have Jj:Hid (G.1=0->bt (fresh X.heap.size W2) (.slice ua2 un2 uc2) G.2.1.dv/\ak W2 pb db ao pc sk.ds G.2.2):=λh0=>⟨(HH h0).1.le (lm (λ_ _ _=>rfl) (lR) hR),(HH h0).2⟩
      clear h6 HH
      go_wp2
      refine hK.out _ _ (Hh.out _ hC.out) λhQ=>?_;clear hK K;refine tk 8 ?_;refine tk 9 ?_;refine tk 10 ?_;refine rd 11 λK hK=>?_;have HQ:=qI (hC.out.trans (Apart.alloc _ W2 (.cells #[.int .u64 0,.slice none 0 0] 69)));have HR:=qI (aD W2 (.cells #[.int .u64 0,.slice none 0 0] 69) rfl);have JZ:W2.heap.size<(W2.alloc (.cells #[.int .u64 0,.slice none 0 0] 69)).heap.size:=by simp
      have HY:=hC.out.size;have Ju:Hid (G.1=0->bt (ag (λj=>j<X.heap.size\/j=W2.heap.size) (W2.alloc (.cells #[.int .u64 0,.slice none 0 0] 69))) (.slice ua2 un2 uc2) G.2.1.dv/\ak (W2.alloc (.cells #[.int .u64 0,.slice none 0 0] 69)) pb db ao pc sk.ds G.2.2):=λh0=>⟨(Jj.out h0).1.le (bE (λj hj hn=>⟨by omega,Below.heap_alloc _ _ _ hj⟩) (by simp)),(Jj.out h0).2.alloc _⟩
      go_simp
      go_wp2
      refine hK.out _ _ (Hh.out _ HQ.out) λhQ=>?_;clear hK K;generalize W2.alloc (.cells #[.int .u64 0,.slice none 0 0] 69)=W3 at *;refine rd 12 λK hK=>?_;have c0_4:W3.cell? ⟨W2.heap.size,0,none⟩=some (.int .u64 0):=aa HR.out 0;have c1_4:W3.cell? ⟨W2.heap.size,1,none⟩=some (.slice none 0 0):=aa HR.out 1;have f0_4:=ai HR.out 0;have f1_4:=ai HR.out 1;have J2:=HY;have hc:Hid (∀ j,j≠W2.heap.size->((W3.setCell ⟨W2.heap.size,0,none⟩ (.int .u64 (G.2.1.cp:Nat))).setCell ⟨W2.heap.size,1,none⟩ (.slice ua2 un2 uc2)).heap[j]?=W3.heap[j]?):=λj hj=>(set_other hj).trans (set_other hj)
      have H1:((W3.setCell ⟨W2.heap.size,0,none⟩ (.int .u64 (G.2.1.cp:Nat))).setCell ⟨W2.heap.size,1,none⟩ (.slice ua2 un2 uc2)).heap.size=W3.heap.size:=by simp
      have Js:Hid (Apart (λj=>j=pb) X ((W3.setCell ⟨W2.heap.size,0,none⟩ (.int .u64 (G.2.1.cp:Nat))).setCell ⟨W2.heap.size,1,none⟩ (.slice ua2 un2 uc2))):=⟨HQ.out.os,HQ.out.tape,HQ.out.output,by rw [H1];exact HQ.out.size,λj hj hn=>(hc.out j (by omega)).trans (HQ.out.block j hj hn)⟩;have JA:=qI (ah (ah HR.out 0 (.int .u64 (G.2.1.cp:Nat))) 1 (.slice ua2 un2 uc2));have JB:Hid (G.1=0->bt (ag (λj=>j<X.heap.size\/j=W2.heap.size) ((W3.setCell ⟨W2.heap.size,0,none⟩ (.int .u64 (G.2.1.cp:Nat))).setCell ⟨W2.heap.size,1,none⟩ (.slice ua2 un2 uc2))) (.slice ua2 un2 uc2) G.2.1.dv/\ak ((W3.setCell ⟨W2.heap.size,0,none⟩ (.int .u64 (G.2.1.cp:Nat))).setCell ⟨W2.heap.size,1,none⟩ (.slice ua2 un2 uc2)) pb db ao pc sk.ds G.2.2):=λh0=>⟨(Ju.out h0).1.le (bE (λj _ hn=>⟨hn,hc.out j λe=>hn (.inr e)⟩) (Nat.le_of_eq H1.symm)),((Ju.out h0).2.kept (bL _ ⟨W2.heap.size,0,none⟩ _) (λe=>by injection e with e;have e:pb=W2.heap.size:=e;omega) (λh1 e=>by injection e with e;have e:db=W2.heap.size:=e;have:=(Hx.out (by rw [<- He.out.1];exact h1)).2.2;omega)).kept (bL _ ⟨W2.heap.size,1,none⟩ _) (λe=>by injection e with e;have e:pb=W2.heap.size:=e;omega) (λh1 e=>by injection e with e;have e:db=W2.heap.size:=e;have:=(Hx.out (by rw [<- He.out.1];exact h1)).2.2;omega)⟩
      go_simp
      go_wp2
      refine hK.out _ _ (Hh.out _ Js.out) λhQ=>?_;clear hK K;refine tk 13 ?_;refine Qn (by kernel_rfl) ?_ _
      go_wp2
      go_meet
      exact ⟨_,_,_,_,rfl,rfl,JA.out,HY,JB.out,Js.out⟩
     ·have H7:=qI (HF.out.trans (Apart.alloc _ W1 (.cells #[.int .u64 0,.slice none 0 0] 69)));have JJ:=qI (aD W1 (.cells #[.int .u64 0,.slice none 0 0] 69) rfl);have HI:W1.heap.size<(W1.alloc (.cells #[.int .u64 0,.slice none 0 0] 69)).heap.size:=by simp
      have HD:=HF.out.size;have Jx:=qI (Jc.out.alloc (.cells #[.int .u64 0,.slice none 0 0] 69));go_simp
      go_wp2
      refine hK.out _ _ (Hh.out _ H7.out) λhQ=>?_;clear hK K;generalize W1.alloc (.cells #[.int .u64 0,.slice none 0 0] 69)=W5 at *;refine rd 7 λK hK=>?_;go_simp
      go_wp2_with fail
      refine (HT.out W5 _ (Hp.out _ H7.out).1 ⟨Jx.out,by rw [He.out.1];exact HS.out.nodes,He.out.2⟩ (Hp.out _ H7.out).2.2).mono ?_;rintro e W6 ⟨⟨ua6,un6,uc6,rfl,HJ⟩,hh⟩;have HK:=qI (H7.out.trans (eu hh (λj hj _=>by injection hj with hj;exact hj.symm)));have J4:=H7.out.size;have JC:=HD;have H4:=qI ((hh.block _ HI (λe=>by injection e with e;omega)).trans JJ.out);have Jn:Hid (G.1=0->bt (ag (λj=>j<X.heap.size\/j=W1.heap.size) W6) (.slice ua6 un6 uc6) G.2.1.dv/\ak W6 pb db ao pc sk.ds G.2.2):=λh0=>⟨(HJ h0).1.le (bE (λj _ hn=>⟨by have:=HI;omega,rfl⟩) (lR)),(HJ h0).2⟩
      have JM:=Q1 HI hh.size;clear hh HJ
      go_wp2
      refine hK.out _ _ (Hh.out _ HK.out) λhQ=>?_;clear hK K;refine tk 8 ?_;refine tk 9 ?_;refine tk 10 ?_;refine rd 12 λK hK=>?_;have c0_7:W6.cell? ⟨W1.heap.size,0,none⟩=some (.int .u64 0):=aa H4.out 0;have c1_7:W6.cell? ⟨W1.heap.size,1,none⟩=some (.slice none 0 0):=aa H4.out 1;have f0_7:=ai H4.out 0;have f1_7:=ai H4.out 1;have J0:=HD;have H0:Hid (∀ j,j≠W1.heap.size->((W6.setCell ⟨W1.heap.size,0,none⟩ (.int .u64 (G.2.1.cp:Nat))).setCell ⟨W1.heap.size,1,none⟩ (.slice ua6 un6 uc6)).heap[j]?=W6.heap[j]?):=λj hj=>(set_other hj).trans (set_other hj)
      have H2:((W6.setCell ⟨W1.heap.size,0,none⟩ (.int .u64 (G.2.1.cp:Nat))).setCell ⟨W1.heap.size,1,none⟩ (.slice ua6 un6 uc6)).heap.size=W6.heap.size:=by simp
      have Jk:Hid (Apart (λj=>j=pb) X ((W6.setCell ⟨W1.heap.size,0,none⟩ (.int .u64 (G.2.1.cp:Nat))).setCell ⟨W1.heap.size,1,none⟩ (.slice ua6 un6 uc6))):=⟨HK.out.os,HK.out.tape,HK.out.output,by rw [H2];exact HK.out.size,λj hj hn=>(H0.out j (by omega)).trans (HK.out.block j hj hn)⟩;have JW:=qI (ah (ah H4.out 0 (.int .u64 (G.2.1.cp:Nat))) 1 (.slice ua6 un6 uc6));have JP:Hid (G.1=0->bt (ag (λj=>j<X.heap.size\/j=W1.heap.size) ((W6.setCell ⟨W1.heap.size,0,none⟩ (.int .u64 (G.2.1.cp:Nat))).setCell ⟨W1.heap.size,1,none⟩ (.slice ua6 un6 uc6))) (.slice ua6 un6 uc6) G.2.1.dv/\ak ((W6.setCell ⟨W1.heap.size,0,none⟩ (.int .u64 (G.2.1.cp:Nat))).setCell ⟨W1.heap.size,1,none⟩ (.slice ua6 un6 uc6)) pb db ao pc sk.ds G.2.2):=λh0=>⟨(Jn.out h0).1.le (bE (λj _ hn=>⟨hn,H0.out j λe=>hn (.inr e)⟩) (Nat.le_of_eq H2.symm)),((Jn.out h0).2.kept (bL _ ⟨W1.heap.size,0,none⟩ _) (λe=>by injection e with e;have e:pb=W1.heap.size:=e;omega) (λh1 e=>by injection e with e;have e:db=W1.heap.size:=e;have:=(Hx.out (by rw [<- He.out.1];exact h1)).2.2;omega)).kept (bL _ ⟨W1.heap.size,1,none⟩ _) (λe=>by injection e with e;have e:pb=W1.heap.size:=e;omega) (λh1 e=>by injection e with e;have e:db=W1.heap.size:=e;have:=(Hx.out (by rw [<- He.out.1];exact h1)).2.2;omega)⟩
      go_simp
      go_wp2
      refine hK.out _ _ (Hh.out _ Jk.out) λhQ=>?_;clear hK K;refine tk 13 ?_;refine Qn (by kernel_rfl) ?_ _
      go_wp2
      go_meet
      exact ⟨_,_,_,_,rfl,rfl,JW.out,HD,JP.out,Jk.out⟩
    ·have hv:=qI (he.out.trans (Apart.alloc _ V (.cells #[.int .u64 0,.slice none 0 0] 69)));have JF:=qI (aD V (.cells #[.int .u64 0,.slice none 0 0] 69) rfl);have H8:V.heap.size<(V.alloc (.cells #[.int .u64 0,.slice none 0 0] 69)).heap.size:=by simp
     have HG:=he.out.size;have JX:=qI (Ji.out.alloc (.cells #[.int .u64 0,.slice none 0 0] 69));go_simp
     go_wp2
     refine hK.out _ _ (Hh.out _ hv.out) λhQ=>?_;clear hK K;generalize V.alloc (.cells #[.int .u64 0,.slice none 0 0] 69)=W8 at *;refine rd 4 λK hK=>?_;go_simp
     go_wp2_with fail
     refine (mn p _ x na x.ds.length nc W8 (Hp.out _ hv.out).2.1 HA.out.2.1.1 HA.out.2.1.2).mono ?_;rintro e W9 ⟨rfl,H5⟩;have HW:=qI (hv.out.trans (Apart.of_below H5));have JU:=qI (JX.out.below H5);have JR:=qI ((H5.block _ H8).trans JF.out);have HB:=Q1 H8 H5.size;clear H5
     go_wp2
     refine hK.out _ _ (Hh.out _ HW.out) λhQ=>?_;clear hK K;refine rd 7 λK hK=>?_;go_simp
     go_wp2_with fail
     refine (HT.out W9 _ (Hp.out _ HW.out).1 ⟨JU.out,by rw [He.out.1];exact HS.out.nodes,He.out.2⟩ (Hp.out _ HW.out).2.2).mono ?_;rintro e W10 ⟨⟨ua10,un10,uc10,rfl,Hk⟩,Hq⟩;have Hi:=qI (HW.out.trans (eu Hq (λj hj _=>by injection hj with hj;exact hj.symm)));have Jr:=HW.out.size;have Jb:=HG;have Hj:=qI ((Hq.block _ HB (λe=>by injection e with e;omega)).trans JR.out);have HV:Hid (G.1=0->bt (ag (λj=>j<X.heap.size\/j=V.heap.size) W10) (.slice ua10 un10 uc10) G.2.1.dv/\ak W10 pb db ao pc sk.ds G.2.2):=λh0=>⟨(Hk h0).1.le (bE (λj _ hn=>⟨by have:=HB;omega,rfl⟩) (lR)),(Hk h0).2⟩
     have Jl:=Q1 HB Hq.size;clear Hq Hk
     go_wp2
     refine hK.out _ _ (Hh.out _ Hi.out) λhQ=>?_;clear hK K;refine tk 8 ?_;refine tk 9 ?_;refine tk 10 ?_;refine rd 12 λK hK=>?_;have c0_11:W10.cell? ⟨V.heap.size,0,none⟩=some (.int .u64 0):=aa Hj.out 0;have c1_11:W10.cell? ⟨V.heap.size,1,none⟩=some (.slice none 0 0):=aa Hj.out 1;have f0_11:=ai Hj.out 0;have f1_11:=ai Hj.out 1;have Jm:=HG;have Ht:Hid (∀ j,j≠V.heap.size->((W10.setCell ⟨V.heap.size,0,none⟩ (.int .u64 (G.2.1.cp:Nat))).setCell ⟨V.heap.size,1,none⟩ (.slice ua10 un10 uc10)).heap[j]?=W10.heap[j]?):=λj hj=>(set_other hj).trans (set_other hj)
     have Hs:((W10.setCell ⟨V.heap.size,0,none⟩ (.int .u64 (G.2.1.cp:Nat))).setCell ⟨V.heap.size,1,none⟩ (.slice ua10 un10 uc10)).heap.size=W10.heap.size:=by simp
     have HX:Hid (Apart (λj=>j=pb) X ((W10.setCell ⟨V.heap.size,0,none⟩ (.int .u64 (G.2.1.cp:Nat))).setCell ⟨V.heap.size,1,none⟩ (.slice ua10 un10 uc10))):=⟨Hi.out.os,Hi.out.tape,Hi.out.output,by rw [Hs];exact Hi.out.size,λj hj hn=>(Ht.out j (by omega)).trans (Hi.out.block j hj hn)⟩;have hE:=qI (ah (ah Hj.out 0 (.int .u64 (G.2.1.cp:Nat))) 1 (.slice ua10 un10 uc10));have hS:Hid (G.1=0->bt (ag (λj=>j<X.heap.size\/j=V.heap.size) ((W10.setCell ⟨V.heap.size,0,none⟩ (.int .u64 (G.2.1.cp:Nat))).setCell ⟨V.heap.size,1,none⟩ (.slice ua10 un10 uc10))) (.slice ua10 un10 uc10) G.2.1.dv/\ak ((W10.setCell ⟨V.heap.size,0,none⟩ (.int .u64 (G.2.1.cp:Nat))).setCell ⟨V.heap.size,1,none⟩ (.slice ua10 un10 uc10)) pb db ao pc sk.ds G.2.2):=λh0=>⟨(HV.out h0).1.le (bE (λj _ hn=>⟨hn,Ht.out j λe=>hn (.inr e)⟩) (Nat.le_of_eq Hs.symm)),((HV.out h0).2.kept (bL _ ⟨V.heap.size,0,none⟩ _) (λe=>by injection e with e;have e:pb=V.heap.size:=e;omega) (λh1 e=>by injection e with e;have e:db=V.heap.size:=e;have:=(Hx.out (by rw [<- He.out.1];exact h1)).2.2;omega)).kept (bL _ ⟨V.heap.size,1,none⟩ _) (λe=>by injection e with e;have e:pb=V.heap.size:=e;omega) (λh1 e=>by injection e with e;have e:db=V.heap.size:=e;have:=(Hx.out (by rw [<- He.out.1];exact h1)).2.2;omega)⟩
     go_simp
     go_wp2
     refine hK.out _ _ (Hh.out _ HX.out) λhQ=>?_;clear hK K;refine tk 13 ?_;refine Qn (by kernel_rfl) ?_ _
     go_wp2
     go_meet
     exact ⟨_,_,_,_,rfl,rfl,hE.out,HG,hS.out,HX.out⟩
   case rest=>
    obtain ⟨Bp,ua,un,uc,rfl,rfl,hw,JV,Jt,Hc⟩:=hcut;have hr:=qI hw;have Jq:=qI Jt;have hX:=qI Hc;have jc:=Hc.size;have jj:Bp<wc.heap.size:=(gS hw).1;have Hr:=qI ((Hc.block (B+1) (by omega) (by omega)).trans ((Hb.out.block (B+1) (by omega)).trans hA.out));have JI:Hid (w.grownBy wc (some pb)):=⟨Hc.os.trans (Hb.out.os.trans Hm.out.os),Hc.tape.trans (Hb.out.tape.trans Hm.out.tape),Hc.output.trans (Hb.out.output.trans Hm.out.output),by have:=Hm.out.size;omega,λj hj hn=>(Hc.block j (by have:=Hm.out.size;omega) λe=>hn (by rw [e])).trans ((Hb.out.block j (by have:=Hm.out.size;omega)).trans (Hm.out.block j hj hn))⟩;clear hw Jt Hc HT Hp Hh
    by_cases hg0:G.1=0
    ·have JH:=qI hg0;rw [hg0,show au (((0:Nat)):Int)=.nilIface from rfl];rw [if_pos hg0] at HO;clear hg0;obtain ⟨Jd,Jg⟩:=Jq.out JH.out;have JT:=qI Jd;have J3:=qI Jg;clear Jd Jg Jq;generalize hgc:G.2.1.cp=gc at *;have hD:=qI hgc;clear hgc;have gcl:=h8.out;have s0:wc.cell? ⟨B+1,0,none⟩=some (.int .u64 sk.cp):=aa Hr.out 0;have sf:=ai Hr.out 0;have p0:wc.cell? ⟨Bp,0,none⟩=some (.int .u64 (gc:Nat)):=aa hr.out 0;have p1:wc.cell? ⟨Bp,1,none⟩=some (.slice ua un uc):=aa hr.out 1;have jh:=iI sk.cp gc He.out.2 gcl;have HC:Bp≠B+1:=by omega
     have Jp:=qI J7;have jd:=qI (Ost.gX (A:=sk.cp) gc He.out.2);have Hl:∀ b,(Value.slice va l.length vc).ownBlock=some b->U.heap.size<=b/\b<Bc:=λb hb=>by rw [<- hBc];exact Ho.out.row.lt b hb
     have hY:=qI (ah Hr.out 0 (.int .u64 (dif sk.cp gc:Nat)));have hl:Hid (∀ j,j≠B+1->(wc.setCell ⟨B+1,0,none⟩ (.int .u64 (dif sk.cp gc:Nat))).heap[j]?=wc.heap[j]?):=λj hj=>set_other hj
     have HZ:(wc.setCell ⟨B+1,0,none⟩ (.int .u64 (dif sk.cp gc:Nat))).heap.size=wc.heap.size:=by simp
     have hW:Hid (ak (wc.setCell ⟨B+1,0,none⟩ (.int .u64 (dif sk.cp gc:Nat))) pb db ao pc sk.ds G.2.2):=J3.out.kept (bL _ ⟨B+1,0,none⟩ _) (λe=>by injection e with e;have e:pb=B+1:=e;omega) (λh1 e=>by injection e with e;have e:db=B+1:=e;have:=(Hx.out (by rw [<- He.out.1];exact h1)).2.2;omega);have hf:Hid ((wc.setCell ⟨B+1,0,none⟩ (.int .u64 (dif sk.cp gc:Nat))).ownsRow U.heap.size 69 2 (.slice va l.length vc) l.length (l.flatMap fp)):=m8 Ho.out.row λg hg=>(hl.out g (by have:=(Hl g hg).1;omega)).trans ((hX.out.block g (by have:=(Hl g hg).2;omega) (by have:=(Hl g hg).1;omega)).trans (Hb.out.block g (Hl g hg).2));have hO:Hid (Apart (λj=>j=pb\/j=B+1\/U.heap.size<=j) U (wc.setCell ⟨B+1,0,none⟩ (.int .u64 (dif sk.cp gc:Nat)))):=((JY.out.trans (Apart.of_below (by rw [hBc];exact Hb.out))).trans (hX.out.wide λj h=>.inl h)).trans (Apart.setCell (K:=λj=>j=pb\/j=B+1\/U.heap.size<=j) (.inr (.inl rfl)) _ _ _);clear Hr;have JN:=qI HZ;have Jw:=qI HC;generalize hw6:wc.setCell ⟨B+1,0,none⟩ (.int .u64 (dif sk.cp gc:Nat))=W6 at *;have t0:W6.cell? ⟨Bp,0,none⟩=some (.int .u64 (gc:Nat)):=aa ((hl.out Bp HC).trans hr.out) 0;have t1:W6.cell? ⟨Bp,1,none⟩=some (.slice ua un uc):=aa ((hl.out Bp HC).trans hr.out) 1;have hN:=Lp W6 (⟨gc,G.2.1.dv⟩,.slice ua un uc) 69;dsimp only at hN;have HN:=qI hN;have Jy:U.heap.size<=(W6.alloc (.cells #[.int .u64 (gc:Nat),.slice ua un uc] 69)).heap.size:=by simp;omega
     clear hN HZ
     go_wp2_with (at_builtin;refine wpList_append_lies _ rfl _ _ 55 rfl U.heap.size 69 i0 (.agg #[.int .u64 0,.slice none 0 0]) 2 32 underlying55 hi Jv J6 JK rfl (by decide) _ _ _ rfl (hf.out.alloc _) ⟨_,0,none⟩ 1 1 (fp (⟨gc,G.2.1.dv⟩,.slice ua un uc)) rfl rfl HN.out (Lo _ _ _ _) (by decide) (by have:=Jp.out;unfold maxLen;omega) (by have:=Jp.out;omega) Jy (W6.heap.size+1) (by simp) ?_;intro g' cap' W8 Hy Ha hZ jb)
     have HZ:=JN.out;have JL:(W6.alloc (.cells #[.int .u64 (gc:Nat),.slice ua un uc] 69)).heap.size=wc.heap.size+1:=by rw [World.size_alloc,HZ]
     have ji:=Ha.size;have Hw:(Value.slice va l.length vc).ownBlock=some g'\/g'=wc.heap.size+1:=by rw [<- HZ];exact hZ
     have Jo:Hid (∀ j,j<wc.heap.size->j≠B+1->(Value.slice va l.length vc).ownBlock≠some j->W8.heap[j]?=wc.heap[j]?):=λj hj hne hno=>(Ha.block j (by omega) λe=>hno e.symm).trans ((Below.heap_alloc _ _ _ (by omega)).trans (hl.out j hne))
     have ht:Hid (Apart (λj=>j=pb\/j=B+1\/U.heap.size<=j) U W8):=(hO.out.trans (Apart.alloc _ _ _)).trans (eu Ha λj hj _=>.inr (.inr (Hl j hj).1));have hM:Hid (ak W8 pb db ao pc sk.ds G.2.2):=(hW.out.alloc _).kept Ha (λe=>by have:=(Hl pb e.symm).1;omega) (λh1 e=>by have:=(Hl db e.symm).1;have:=(Hx.out (by rw [<- He.out.1];exact h1)).2.2;omega);have hy:Hid (W8.heap[B+1]?=some (.cells #[.int .u64 (dif sk.cp gc:Nat),.pointer (some ⟨pb,0,none⟩)] 98 (0,0))):=(Ha.block (B+1) (by omega) (λe=>by have:=(Hl (B+1) e.symm).1;omega)).trans ((Below.heap_alloc _ _ _ (by omega)).trans hY.out);have hH:G.2.1=⟨gc,G.2.1.dv⟩:=by rw [<- hD.out]
     have H6:Hid (sx W8 (.slice (some ⟨g',0,none⟩) (l.length+1) cap') (l++[(G.2.1,Value.slice ua un uc)]) U.heap.size):=by
      refine ⟨?_,λz hz=>?_⟩
      ·rw [Q2,List.flatMap_append,hH]
       simpa using Hy
      ·rcases Qi.1 hz with hz|hz
       ·obtain ⟨z1,z2⟩:=Ho.out.in_ z hz;refine ⟨z1,z2.le (bE (λj hj hn=>?_) (by omega))⟩;have h9:¬ j<U.heap.size:=λh=>hn (.inl h)
        have Jh:(Value.slice va l.length vc).ownBlock≠some j:=λh=>hn (.inr h)
        refine ⟨λh=>?_,?_⟩
        ·rcases h with h|h
         ·exact h9 h
         ·have h:some g'=some j:=h;injection h with h
          rcases Hw with Hw|Hw
          ·exact Jh (by rw [Hw,h])
          ·omega
        ·exact (Jo.out j (by omega) (by omega) Jh).trans ((hX.out.block j (by omega) (by omega)).trans (Hb.out.block j (by rw [<- hBc];exact hj)))
       ·rw [Qm.1 hz];dsimp only;refine ⟨by rw [hH];exact gcl,JT.out.le (bE (λj hj hn=>?_) (by omega))⟩;have h9:¬ j<X.heap.size:=λh=>hn (.inl h)
        refine ⟨λh=>?_,Jo.out j hj (by omega) (λh=>by have:=(Hl j h).2;omega)⟩
        rcases h with h|h
        ·omega
        ·have h:some g'=some j:=h;injection h with h
         rcases Hw with Hw|Hw
         ·have:=(Hl g' Hw).2;omega
         ·omega
     clear Hy Ha hZ hH
     go_roundw
     case rel=>
      exact ⟨k+1,⟨dif sk.cp gc,sk.ds,G.2.2⟩,l++[(G.2.1,Value.slice ua un uc)],by omega,by go_num,by rw [HO.out,Qj];rfl,by rw [Q2,JG.out];rfl,H6.out,hM.out,hy.out,ht.out⟩
     case measure=>simp [intOf];omega
    ·have JQ:=qI hg0;rw [if_neg hg0] at HO;have H9:Hid ((Ol.give m s p).1=G.1):=by
      unfold Hid Ol.give;have e1:(Ol.bi m s p.cs (k+1)).1=G.1:=by rw [HO.out]
      have:=Lj (m:=m) (s:=s) (cs:=p.cs) (k:=k+1) (by rw [e1];exact hg0) p.cs.length (by omega)
      rw [e1] at this;exact this
     have hJ:=eh hg0;have ja:=qI hJ;rw [hJ];clear hg0 hJ;generalize G.1=g1 at *
     go_wp2
     go_ret2;exact ⟨⟨none,0,0,by rw [H9.out,ja.out];rfl,λh=>absurd (H9.out.symm.trans h) JQ.out⟩,JI.out⟩
  ·have JS:k=p.cs.length:=by omega
   subst JS;have H9:Hid (Ol.give m s p=(0,l.map Prod.fst)):=by
    unfold Hid Ol.give;rw [Jf.out]
   have hL:Hid (bz (fresh w.heap.size wr) (.slice va l.length vc) (l.map Prod.fst)):=Lr Ho.out (by omega)
   go_wp2
   go_ret2;exact ⟨⟨va,l.length,vc,by rw [H9.out];rfl,λ_=>by rw [H9.out];exact hL.out⟩,Hm.out⟩
end
