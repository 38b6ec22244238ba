import Derived.Test.YtbmmnflgnmjboaaGreatDoorA17
set_option maxRecDepth 100000
set_option maxHeartbeats 16000000
namespace Go.Proofs.YtbmmnflgnmjboaaGreatDoor
section
open RowKit
open Qos (Nd nd bh Tot orI)
theorem Kt (a b:Int) (g n:Nat) (w:World) (h0:w.cell? ⟨g,0,none⟩=some (.int .i64 a)) (h1:w.cell? ⟨g,1,none⟩=some (.int .i64 b)) :
  Calls Tryz.prog 76 #[.slice (some ⟨g,0,none⟩) 2 n] w λe w'=>e=.returned (.int .i64 (orI a b))/\w'=w:=by
 have HO:Hid (∀ k:Nat,k<2->∃ v:Int,w.cell? ⟨g,k,none⟩=some (.int .i64 v)/\(v=if k=0 then a else b)):=by
  intro k hk
  have:k=0\/k=1:=by omega
  rcases this with rfl|rfl
  ·exact ⟨a,h0,rfl⟩
  ·exact ⟨b,h1,rfl⟩
 clear h0 h1
 go_enter Tryz.func76,Tryz.ntmps76
 go_wp2_with fail
 go_loop [8] (λi=>∃ k:Nat,k<=2/\i=.int .i64 k/\Hid ((0<k->a=0)/\(1<k->b=0))) (λi=>2 - (intOf i).toNat)
 case atStart=>exact ⟨0,by omega,rfl,⟨λh=>by omega,λh=>by omega⟩⟩
 case round=>
  obtain ⟨k,hk,rfl,HZ⟩:=hrel
  by_cases hlt:k<2
  ·obtain ⟨v,hc,hv⟩:=HO.out k hlt;have HV:=qI hv;clear hv
   by_cases h0:v=0
   ·subst h0;have Ha:Hid ((0<k+1->a=0)/\(1<k+1->b=0)):=by
     obtain ⟨z0,z1⟩:=HZ.out;have hv:=HV.out
     have:k=0\/k=1:=by omega
     rcases this with rfl|rfl
     ·simp at hv;exact ⟨λ_=>hv.symm,λh=>by omega⟩
     ·simp at hv;exact ⟨λ_=>z0 (by omega),λ_=>hv.symm⟩
    go_wp2_with fail
    go_round
    case rel=>exact ⟨k+1,by omega,by go_num,Ha⟩
    case measure=>simp [intOf];omega
   ·have HE:Hid (orI a b=v):=by
     obtain ⟨z0,z1⟩:=HZ.out;have hv:=HV.out
     have:k=0\/k=1:=by omega
     unfold Hid orI
     rcases this with rfl|rfl
     ·simp at hv;subst hv;rw [if_neg h0]
     ·simp at hv;subst hv;rw [if_pos (z0 (by omega))]
    have hb:(v != 0)=true:=by simp [h0]
    go_wp2
    go_ret;exact ⟨by rw [HE.out];rfl,rfl⟩
  ·have Hb:k=2:=by omega
   subst Hb;have HE:Hid (orI a b=0):=by
    obtain ⟨z0,z1⟩:=HZ.out;unfold Hid orI;rw [if_pos (z0 (by omega)),z1 (by omega)]
   go_wp2
   go_ret;exact ⟨by rw [HE.out];rfl,rfl⟩
theorem Ku {h l v h' l' v':Int} (t:Tot h l v) (t':Tot h' l' v'):orI (Lib.compareInt h h') (Lib.compareInt l l')<=0↔v<=v':=by
 rw [<- t.le t'];unfold orI Lib.compareInt;obtain ⟨h1,h2,h3⟩:=t;obtain ⟨g1,g2,g3⟩:=t'
 repeat' split
 all_goals omega
theorem Kv (h l h' l':Int) (w:World):Calls Tryz.prog 110 #[.agg #[.int .i64 h,.int .i64 l],.agg #[.int .i64 h',.int .i64 l']] w λe w'=>e=.returned (.int .i64 (orI (Lib.compareInt h h') (Lib.compareInt l l')))/\Below w.heap.size w w':=by
 have Hg:=((Q0 w.heap.size w).alloc (lR) (.cells #[.int .i64 h,.int .i64 l] 202)).alloc (by simp) (.cells #[.int .i64 h',.int .i64 l'] 202);have He:=qI (dP Hg);have HA:=qI (((bt.made w 202 h l).alloc (.cells #[.int .i64 h',.int .i64 l'] 202)).below (dP (Q0 _ _)));have hC:=(bt.made (w.alloc (.cells #[.int .i64 h,.int .i64 l] 202)) 202 h' l').below (dP (Q0 _ _));rw [show (w.alloc (.cells #[.int .i64 h,.int .i64 l] 202)).heap.size=w.heap.size+1 by simp] at hC;have HC:=qI hC;clear Hg hC
 go_enter Tryz.func110,Tryz.ntmps110
 go_wp2_with fail
 refine wp_region_held_drew (S:=(λw'=>w'.cell? ⟨w.heap.size,0,none⟩=some (.int .i64 h)/\w'.cell? ⟨w.heap.size,1,none⟩=some (.int .i64 l)/\w'.cell? ⟨w.heap.size+1,0,none⟩=some (.int .i64 h')/\w'.cell? ⟨w.heap.size+1,1,none⟩=some (.int .i64 l'))) (by kernel_rfl) ⟨HA.out.1.1,HA.out.2.1,HC.out.1.1,HC.out.2.1⟩ (λhQ=>?_);refine tk 0 ?_;refine tk 1 ?_;refine tk 2 ?_;refine tk 3 ?_;refine tk 5 ?_;refine tk 6 ?_;refine tk 7 ?_;refine tk 8 ?_;refine rd 4 (λK hK=>?_);go_simp
 go_wp2_with fail
 refine (mN _ _ _).mono ?_;rintro e wx ⟨rfl,rfl⟩
 go_wp2
 refine hK.out _ _ ⟨HA.out.1.1,HA.out.2.1,HC.out.1.1,HC.out.2.1⟩ (λhQ=>?_);clear hK K;refine rd 9 (λK hK=>?_);go_simp
 go_wp2_with fail
 refine (mN _ _ _).mono ?_;rintro e wx ⟨rfl,rfl⟩
 go_wp2
 refine hK.out _ _ ⟨HA.out.1.1,HA.out.2.1,HC.out.1.1,HC.out.2.1⟩ (λhQ=>?_);clear hK K;have Ha:=qI (HA.out.alloc (.cells #[.int .i64 (Lib.compareInt h h'),.int .i64 (Lib.compareInt l l')] 3));have Hb:=qI (HC.out.alloc (.cells #[.int .i64 (Lib.compareInt h h'),.int .i64 (Lib.compareInt l l')] 3));have Hh:=qI (He.out.alloc He.out.size (.cells #[.int .i64 (Lib.compareInt h h'),.int .i64 (Lib.compareInt l l')] 3));have Hc:=bt.made (((w.alloc (.cells #[.int .i64 h,.int .i64 l] 202)).alloc (.cells #[.int .i64 h',.int .i64 l'] 202)).drew) 3 (Lib.compareInt h h') (Lib.compareInt l l');rw [show (((w.alloc (.cells #[.int .i64 h,.int .i64 l] 202)).alloc (.cells #[.int .i64 h',.int .i64 l'] 202)).drew).heap.size=w.heap.size+1+1 by simp [World.drew]] at Hc;have Hf:=qI Hc;clear Hc;refine rd 10 (λK hK=>?_);go_simp
 go_wp2
 refine hK.out _ _ ⟨Ha.out.1.1,Ha.out.2.1,Hb.out.1.1,Hb.out.2.1⟩ (λhQ=>?_);clear hK K;refine rd 11 (λK hK=>?_);go_simp
 go_wp2_with fail
 refine (Kt (Lib.compareInt h h') (Lib.compareInt l l') _ _ _ Hf.out.1.1 Hf.out.2.1).mono ?_;rintro e wx ⟨rfl,rfl⟩
 go_wp2
 refine hK.out _ _ ⟨Ha.out.1.1,Ha.out.2.1,Hb.out.1.1,Hb.out.2.1⟩ (λhQ=>?_);clear hK K;refine tk 12 ?_;refine Qn (by kernel_rfl) ?_ _
 go_wp2
 go_ret;exact ⟨rfl,Hh.out⟩
end
section
open RowKit
open Qos (Nd nd eU)
def Kw (us:List Nd) (e:Ending):Prop:=∃ b,e=.returned (.bool b)/\(b=true->ko us)
def sg (x:Nd):Prop:=x.kind.size<=30/\-1125899906842624<=x.many/\x.many<=1125899906842624
theorem Kx (v:Value) (us:List Nd) (w:World) (h:bf w v us):Calls Tryz.prog 25 #[v] w λe w'=>Kw us e/\w'=w:=by
 obtain ⟨ao,c,rfl,hm,hr⟩:=h;have HR:=qI hr;clear hr hm
 by_cases h20:20<us.length
 ·go_enter Tryz.func25,Tryz.ntmps25
  go_wp2
  go_ret;exact ⟨⟨_,rfl,λh=>by cases h⟩,rfl⟩
 have Ha:us.length<=20:=by omega
 clear h20;have hd:decide (20<(us.length:Int))=false:=Q7 (by omega)
 go_enter Tryz.func25,Tryz.ntmps25
 go_wp2_with fail
 go_loop [3] (λi=>∃ k:Nat,k<=us.length/\i=.int .i64 k/\Hid (∀ j,j<k->sg (nd us j))) (λi=>us.length - (intOf i).toNat)
 case atStart=>exact ⟨0,by omega,rfl,λj hj=>by omega⟩
 case round=>
  obtain ⟨k,hk,rfl,HA⟩:=hrel
  by_cases hlt:k<us.length
  ·obtain ⟨b,o,rfl,Hf,Hb⟩:=HR.out (by omega);obtain ⟨c0,c1⟩:=Hb k hlt;have HN:=qI (λ(hx:sg (nd us k))=>(show ∀ j,j<k+1->sg (nd us j) from λj hj=>by
    by_cases e:j=k
    ·rw [e];exact hx
    ·exact HA.out j (by omega)))
   clear Hb;generalize nd us k=x at *;have key:30<x.kind.size\/(x.kind.size<=30/\x.many < -1125899906842624)\/(x.kind.size<=30/\-1125899906842624<=x.many/\1125899906842624<x.many)\/(x.kind.size<=30/\-1125899906842624<=x.many/\x.many<=1125899906842624):=by omega
   rcases key with h1|⟨h1,h2⟩|⟨h1,h2,h3⟩|⟨h1,h2,h3⟩
   ·go_wp2
    go_ret;exact ⟨⟨_,rfl,λh=>by cases h⟩,rfl⟩
   ·go_wp2
    go_ret;exact ⟨⟨_,rfl,λh=>by cases h⟩,rfl⟩
   ·go_wp2
    go_ret;exact ⟨⟨_,rfl,λh=>by cases h⟩,rfl⟩
   ·have Hc:=qI (HN.out ⟨h1,h2,h3⟩)
    go_wp2_with fail
    go_round
    case rel=>exact ⟨k+1,by omega,by go_num,Hc⟩
    case measure=>simp [intOf];omega
  ·have He:k=us.length:=by omega
   subst He
   go_wp2
   go_ret;exact ⟨⟨_,rfl,λ_=>⟨Ha,λj hj=>⟨(HA.out j hj).2.1,(HA.out j hj).2.2⟩,λj hj=>(HA.out j hj).1⟩⟩,rfl⟩
end
section
open RowKit Shelf
open Qos (Nd Ct Pd pd0 nd ct pd bh eU Tot orI ev km rK xW xY eL rM eu)
attribute [local go_sem] Oper.semAt_some
theorem yU {W W':World} (h:Below W.heap.size W W'):KeepsOthers W W':=
 ⟨h.size,λk _ hk _=>(h.block k (gS hk).1).trans hk⟩
theorem Ky (a:Option Addr) (len cap:Nat) (w:World) :
  Calls Tryz.prog 109 #[.slice a len cap] w λe w'=>e=.returned (.func (.func 150) #[] #[.pointer (some ⟨w.heap.size,0,none⟩)])/\w'=w.alloc (.cells #[.slice a len cap] 70):=by
 go_enter Tryz.func109,Tryz.ntmps109
 go_wp2
 go_ret;exact ⟨rfl,rfl⟩
structure But (B1 B2:Nat) (A W:World):Prop where
 os:W.os=A.os
 tape:W.tape=A.tape
 output:W.output=A.output
 size:A.heap.size<=W.heap.size
 block:∀ k,k<A.heap.size->k≠B1->k≠B2->W.heap[k]?=A.heap[k]?
theorem But.refl (B1 B2:Nat) (A:World):But B1 B2 A A:=⟨rfl,rfl,rfl,lR,λ_ _ _ _=>rfl⟩
theorem But.then {B1 B2:Nat} {A W W':World} (h:But B1 B2 A W) (hb:Below W.heap.size W W'):But B1 B2 A W':=
 ⟨hb.os.trans h.os,hb.tape.trans h.tape,hb.output.trans h.output,Q5 h.size hb.size,λk hk h1 h2=>(hb.block k (Q1 hk h.size)).trans (h.block k hk h1 h2)⟩
theorem But.set {B1 B2:Nat} {A W:World} (h:But B1 B2 A W) (b j:Nat) (v:Value) (hb:b=B1\/b=B2):But B1 B2 A (W.setCell ⟨b,j,none⟩ v):=
 ⟨h.os,h.tape,h.output,Q5 h.size (KeepsWalks.setCell W _ v).size,λk hk h1 h2=>(Below.heap_setCell _ _ _ k (λe=>by rcases hb with rfl|rfl <;> simp_all)).trans (h.block k hk h1 h2)⟩
theorem But.own {β:Type} (B1 B2:Nat) (A:World):OwnFrom A.heap.size (λ(_:β) W=>But B1 B2 A W):=λ_ W W' row h hg hr=>
 ⟨hg.os.trans h.os,hg.tape.trans h.tape,hg.output.trans h.output,Q5 h.size hg.size,λk hk h1 h2=>(hg.block k (Q1 hk h.size) (λe=>by have:=(hr k e.symm).1;omega)).trans (h.block k hk h1 h2)⟩
theorem But.below {B1 B2 K:Nat} {A W:World} (h:But B1 B2 A W) (hK:K<=B1) (hK2:K<=B2) (hA:K<=A.heap.size):Below K A W:=
 ⟨h.os,h.tape,h.output,h.size,λk hk=>h.block k (by omega) (by omega) (by omega)⟩
def yV (qs:List Pd) (cv:Nat->Value) (x:Nat):Array Value:=#[.int .i64 (x:Int),.agg #[.string (pd qs x).nm,.int .i64 (pd qs x).pr,cv x]]
theorem Kz (F:Fence) (n:Nat) (h7:F.fn 150) (hro:F.round=none) (l Bs:Nat) (qa:Option Addr) (qc:Nat) (J:List Nat->World->Prop)
  (W:World) (hBs:W.cell? ⟨Bs,0,none⟩=some (.slice qa 0 qc)) (h0:J [] W) :
  CallsIn F n Tryz.prog 150 #[.func (.yield l) #[] #[],.pointer (some ⟨Bs,0,none⟩)] W λe W'=>(∃ v,e=.returned v)/\J [] W':=by
 refine callsIn_of_wp Tryz.func150 rfl h7 ?_ hro;simp only [Tryz.ntmps150,List.size_toArray,Qg,List.length_nil,Nat.reduceAdd,Nat.reduceSub,Array.replicate_succ,Array.replicate_zero,List.push_toArray,List.append_toArray,List.nil_append,List.cons_append]
 gi_wp2
 gi_loopw [3] (λi wr=>i=.int .i64 (-1)/\J [] wr) (λ_ _=>0)
 case atStart=>exact ⟨rfl,h0⟩
 case round=>
  obtain ⟨rfl,Ha⟩:=hrel
  gi_wp2
  go_end0
  exact ⟨⟨_,rfl⟩,Ha⟩
theorem KA (F:Fence) (n:Nat) (h7:F.fn 150) (hro:F.round=none) (hn:1<=n) (Bs:Nat) (qa:Option Addr) (qc:Nat) (qs:List Pd) (w0 w:World) (hb:Below w0.heap.size w0 w) (hBs:w.cell? ⟨Bs,0,none⟩=some (.slice qa qs.length qc)) (hBl:Bs<w.heap.size) (hP:eH w0 (.slice qa qs.length qc) qs) (hlen:qs.length<=16) :
  ∃ b cv,(b<w0.heap.size\/b=Bs)/\(∀ k,∃ a m c,cv k=.slice a m c)/\
   SeqStopsK F n Tryz.prog 150 #[.pointer (some ⟨Bs,0,none⟩)] (yV qs cv) (KpB b Bs) (λys=>ys=eL qs.length qs.length) (λ_=>True) qs.length w:=by
 obtain ⟨ao,c,hv,_,hr⟩:=hP;cases hv
 by_cases h0:0<qs.length
 ·obtain ⟨b,o,cv,rfl,Ha⟩:=hr h0;have Hb:lq w b o qs (λk=>if k<qs.length then cv k else .slice none 0 0):=by
   have h1:lq w0 b o qs (λk=>if k<qs.length then cv k else .slice none 0 0):=λk hk=>by
    simp only [if_pos hk];exact (Ha.2 k hk).1
   exact h1.kept (hb.block b Ha.1)
  refine ⟨b,λk=>if k<qs.length then cv k else .slice none 0 0,.inl Ha.1,λk=>?_,λl J Jx W hW _ _ hY h0=>?_⟩
  ·by_cases hk:k<qs.length
   ·simp only [if_pos hk];exact (Ha.2 k hk).2.slice
   ·simp only [if_neg hk];exact ⟨_,_,_,rfl⟩
  ·refine Jq F n h7 hro hn l Bs b o qc qs _ hlen (λk=>?_) J Jx hY W ((hW.cell (p:=⟨Bs,0,none⟩) hBl).trans hBs) (Hb.kept (hW.block b (Q1 Ha.1 hb.size))) h0
   by_cases hk:k<qs.length
   ·simp only [if_pos hk];exact (Ha.2 k hk).2.slice
   ·simp only [if_neg hk];exact ⟨_,_,_,rfl⟩
 ·have Hc:qs.length=0:=by omega
  refine ⟨Bs,λ_=>.slice none 0 0,.inr rfl,λk=>⟨_,_,_,rfl⟩,λl J Jx W hW _ _ hY h0=>?_⟩;refine (Kz F n h7 hro l Bs qa qc J W ((hW.cell (p:=⟨Bs,0,none⟩) hBl).trans (by rw [Hc] at hBs;exact hBs)) h0).mono ?_;rintro e W' ⟨he,hj⟩;exact ⟨he,.inl ⟨_,rfl,by rw [Hc];exact hj⟩⟩
theorem eI.own (B:Nat) (x:Pd) (cv:Value):Own (λ(_:Unit) W=>eI W B x cv):=λ_ _ _ _ hs hg hr=>by
 obtain ⟨h0,h1,h2,h3⟩:=hs;exact ⟨Q1 h0 hg.size,cell_kept h1 hg hr,cell_kept h2 hg hr,cell_kept h3 hg hr⟩
theorem si {w:World} {B:Nat} {m b:Int} (h:bt w B m b) (g j:Nat) (v:Value) (hne:B≠g):bt (w.setCell ⟨g,j,none⟩ v) B m b:=by
 have hh:=Below.heap_setCell w ⟨g,j,none⟩ v B hne;obtain ⟨⟨c0,f0⟩,⟨c1,f1⟩⟩:=h;exact ⟨⟨(World.cell?_of_block (a:=⟨B,0,none⟩) hh).trans c0,(World.frozen?_of_block (a:=⟨B,0,none⟩) hh).trans f0⟩,⟨(World.cell?_of_block (a:=⟨B,1,none⟩) hh).trans c1,(World.frozen?_of_block (a:=⟨B,1,none⟩) hh).trans f1⟩⟩
theorem yW {w:World} {B:Nat} {t:TypeId} {u:Value} (h:Boxed w B t u) (g j:Nat) (v:Value) (hne:B≠g):Boxed (w.setCell ⟨g,j,none⟩ v) B t u:=
 (Below.heap_setCell w ⟨g,j,none⟩ v B hne).trans h
theorem KB {qs:List Pd} (h:kq qs) (x:Nat):(pd qs x).nm.size<=1000:=by
 by_cases hx:x<qs.length
 ·have:=(h.2 qs[x] (List.getElem_mem hx)).2
  simp [pd,hx]
  exact this
 ·simp [pd,hx,pd0]
theorem KC {w:World} {qa:Option Addr} {qc:Nat} {qs:List Pd} (h:eH w (.slice qa qs.length qc) qs) {g:Nat} (hg:g<=qs.length):eH w (.slice qa g qc) (qs.take g):=by
 obtain ⟨ao,c,hv,hm,hr⟩:=h;cases hv;have hl:(qs.take g).length=g:=by rw [Qu];omega
 refine ⟨qa,qc,by rw [hl],by omega,λh0=>?_⟩;obtain ⟨b,o,cv,ha,Ha,hc⟩:=hr (by omega);refine ⟨b,o,cv,ha,Ha,λk hk=>?_⟩;rw [hl] at hk;have e:pd (qs.take g) k=pd qs k:=by simp [pd,hk]
 rw [e];exact hc k (by omega)
theorem KD {w:World} {v:Value} {l:List ByteArray} (h:mQ w v l) {D:Nat} {o:Obj} (o':Obj) (hD:w.heap[D]?=some o) (ho:o.isCells=false):mQ (w.putObj D o') v l:=by
 obtain ⟨ao,c,hv,hc,hr⟩:=h;refine ⟨ao,c,hv,hc,λh0=>?_⟩;obtain ⟨g,ha,Ha,Hb⟩:=hr h0;exact ⟨g,ha,Q1 Ha (grownBy_putObj' w D o').size,λk hk=>cell_kept (Hb k hk) (grownBy_putObj' w D o') (λr e=>by cases e;exact ⟨_,hD,ho⟩)⟩
theorem yX {h l v n:Int} (t:Tot h l v):Tot (h+n / 1073741824+(l+n % 1073741824) / 1073741824) ((l+n) % 1073741824) (v+n):=by
 obtain ⟨h1,h2,h3⟩:=t;exact ⟨by omega,by omega,by omega⟩
theorem KE (v uv:Value) (ps:List Pd) (us:List Nd) (most:Int) (w:World) (h:eH w v ps) (hu:bf w uv us) (hf:kq ps) (hfu:ko us) (hm1:-9223372036854775808<=most) (hm2:most<=9223372036854775807) :
  Calls Tryz.prog 61 #[v,uv,.int .i64 most] w λe w'=>(∃ v' qs g,e=.returned v'/\mQ w' v' ((qs.take g).map Pd.nm)/\oX us ps qs/\eu us qs most 0 g)/\Below w.heap.size w w':=by
 have HU:=qI (Jo uv us w hu hfu);have HP:=qI h;obtain ⟨ao,c,rfl,_,_⟩:=h;obtain ⟨ao2,c2,rfl,_,_⟩:=hu;refine (callsIn_wide (n:=3)).1 ?_;refine callsIn_of_wp_marks Tryz.func61 rfl trivial ?_ rfl;simp only [Tryz.ntmps61,List.size_toArray,Qg,List.length_nil,Nat.reduceAdd,Nat.reduceSub,Array.replicate_succ,Array.replicate_zero,List.push_toArray,List.append_toArray,List.nil_append,List.cons_append]
 gi_wp2_with fail
 refine ⟨trivial,(callsIn_wide.2 HU.out).mono ?_⟩;rintro e w1 ⟨⟨n,rfl,hm⟩,HJ⟩;have hS:=qI HJ;have hn:=(Q0 w1.heap.size w1).alloc (lR) (.cells #[.map (some w.heap.size)] 198);have HB:=qI (HJ.trans (hn.mono HJ.size));have HG:=qI (hm.alloc (.cells #[.map (some w.heap.size)] 198));have H8:=qI (Boxed.new w1 198 (.map (some w.heap.size)));have hX:(w1.alloc (.cells #[.map (some w.heap.size)] 198)).heap.size=w1.heap.size+1:=by simp
 have HO:=qI (JF _ ps w.heap.size n us _ (HP.out.below HB.out) hf HG.out hfu.2.1);have hB:(w1.alloc (.cells #[.map (some w.heap.size)] 198)).cell? ⟨w1.heap.size,0,none⟩=some (.map (some w.heap.size)):=by simp
 have hG:w.heap.size<w1.heap.size:=hm.lt;clear hm HJ hn HU
 gi_wp2_with fail
 generalize w1.alloc (.cells #[.map (some w.heap.size)] 198)=W2 at *;refine ⟨trivial,(callsIn_wide.2 HO.out).mono ?_⟩;rintro e w3 ⟨⟨v3,qs,rfl,hq,hs,Hv⟩,Hx⟩;have HV:=qI (HB.out.trans (Hx.mono HB.out.size));have H4:=qI (HG.out.below Hx HG.out.lt);have hj:=qI (show Boxed w3 w1.heap.size 198 (.map (some w.heap.size)) from (Hx.block _ (by omega)).trans H8.out);have HS:=qI hs;have HQ:=qI hq;have hL:qs.length<=16:=by rw [hs.1.length_eq];exact hf.1
 have hF:=Hx.size;obtain ⟨qa,qc,rfl,_,_⟩:=hq;have h5:qs.length<=qc:=by obtain ⟨_,_,_,e,hle⟩:=Hv;cases e;exact hle
 clear Hv;have Hu:=qI (yi 0 0 most w3 (by omega) (by omega) (by omega) (by omega) hm1 hm2);clear Hx hs HO HB HG H8 hB
 gi_wp2_with fail
 refine ⟨trivial,(callsIn_wide.2 Hu.out).mono ?_⟩;rintro e w4 ⟨rfl,Hs⟩;have ha:=qI (yX (n:=most) Tot.zero);have HM:=qI (HV.out.trans (Hs.mono HV.out.size));have hP:=qI (H4.out.below Hs H4.out.lt);have hO:=qI (show Boxed w4 w1.heap.size 198 (.map (some w.heap.size)) from (Hs.block _ (by omega)).trans hj.out);have he:=qI (HQ.out.below Hs);have hH:=Hs.size;clear Hs HV H4 hj Hu;generalize (0:Int)+most / 1073741824+(0+most % 1073741824) / 1073741824=LH at *;generalize ((0:Int)+most) % 1073741824=LL at *
 gi_wp2_with fail
 refine ⟨trivial,(callsIn_wide.2 (Ky _ _ _ _)).mono ?_⟩;rintro e w8 ⟨rfl,rfl⟩;have a1:=(Q0 w4.heap.size w4).alloc (lR) (.cells #[.int .i64 LH,.int .i64 LL] 202);have a2:=a1.alloc (by simp) (.cells #[.int .i64 (qs.length:Int)] 3);have a3:=a2.alloc (by simp;omega) (.cells #[.int .i64 0,.int .i64 0] 202);have HH:=qI (a3.alloc (by simp;omega) (.cells #[.slice qa qs.length qc] 70));have hy:=qI (((bt.made w4 202 LH LL).alloc (.cells #[.int .i64 (qs.length:Int)] 3)).alloc (.cells #[.int .i64 0,.int .i64 0] 202) |>.alloc (.cells #[.slice qa qs.length qc] 70));have Hn:=((Boxed.new (w4.alloc (.cells #[.int .i64 LH,.int .i64 LL] 202)) 3 (.int .i64 (qs.length:Int))).alloc (.cells #[.int .i64 0,.int .i64 0] 202)).alloc (.cells #[.slice qa qs.length qc] 70);have Hp:=(bt.made ((w4.alloc (.cells #[.int .i64 LH,.int .i64 LL] 202)).alloc (.cells #[.int .i64 (qs.length:Int)] 3)) 202 0 0).alloc (.cells #[.slice qa qs.length qc] 70);have HZ:=Boxed.new (((w4.alloc (.cells #[.int .i64 LH,.int .i64 LL] 202)).alloc (.cells #[.int .i64 (qs.length:Int)] 3)).alloc (.cells #[.int .i64 0,.int .i64 0] 202)) 70 (.slice qa qs.length qc);have hU:((((w4.alloc (.cells #[.int .i64 LH,.int .i64 LL] 202)).alloc (.cells #[.int .i64 (qs.length:Int)] 3)).alloc (.cells #[.int .i64 0,.int .i64 0] 202)).alloc (.cells #[.slice qa qs.length qc] 70)).heap.size=w4.heap.size+1+1+1+1:=by simp
 simp only [World.size_alloc] at Hn Hp HZ;have Hq:=qI Hn;have Hl:=qI Hp;have HR:=qI HZ;clear a1 a2 a3 Hn Hp HZ
 gi_wp2_with fail
 generalize ((((w4.alloc (.cells #[.int .i64 LH,.int .i64 LL] 202)).alloc (.cells #[.int .i64 (qs.length:Int)] 3)).alloc (.cells #[.int .i64 0,.int .i64 0] 202)).alloc (.cells #[.slice qa qs.length qc] 70))=A at *;obtain ⟨b,cv,hb,hx,Ho⟩:=KA Fence.wide (3 - 1) trivial rfl (by omega) (w4.heap.size+1+1+1) qa qc qs w4 A HH.out HR.out.cell (by omega) he.out hL;have HI:=qI hx;have hw:b<A.heap.size:=by rcases hb with hb|hb <;> omega
 have HD:b≠w4.heap.size+1/\b≠w4.heap.size+1+1:=by rcases hb with hb|hb <;> omega
 clear hx hb;refine wpIn_rangeFunc_ownH (α:=Nat) rfl (by omega) (gf:=150) (lb:=#[.pointer (some ⟨w4.heap.size+1+1+1,0,none⟩)]) rfl trivial (enters_of Tryz.func150 (by kernel_rfl) rfl)
  Ho (λh k=>KpB.trans h k) (λW l o o' hl hW h1 h2=>⟨World.putObj_heap_other (by omega),World.putObj_heap_other (by omega)⟩) (Q0 _ _) (λ_=>rfl)
  (λpre W=>(∃ h l,bt W (w4.heap.size+1+1) h l/\Tot h l (ev us qs most pre).1)/\Boxed W (w4.heap.size+1) 3 (.int .i64 ((ev us qs most pre).2:Int))/\But (w4.heap.size+1) (w4.heap.size+1+1) A W)
  (λ_ _ _=>False)
  (λs W W' row hs hg hr=>by
   obtain ⟨⟨h,l,ht,hT⟩,Hg,Ha⟩:=hs;exact ⟨⟨h,l,ht.kept hg (λe=>by have:=(hr _ e.symm).1;omega),hT⟩,Hg.kept hg (λe=>by have:=(hr _ e.symm).1;omega),But.own _ _ A s W W' row Ha hg hr⟩)
  (λ_ _ _ _ _ hs _ _=>hs)
  ⟨⟨0,0,Hl.out,Tot.zero⟩,Hq.out,But.refl _ _ _⟩
  (λx a' W=>∃ Bx,A.heap.size<=Bx/\eI W Bx (pd qs x) (cv x)/\a'={ tmps:=#[Value.slice ao ps.length c,Value.slice ao2 us.length c2,Value.int IntKind.i64 most,undef,undef,undef,Value.slice none 0 0,Value.pointer (some { block:=w1.heap.size,off:=0 }),Value.slice qa qs.length qc,Value.pointer (some { block:=w4.heap.size,off:=0 }),Value.pointer (some { block:=w4.heap.size+1,off:=0 }),Value.pointer (some { block:=w4.heap.size+1+1,off:=0 }),.int .i64 (x:Int),.pointer (some ⟨Bx,0,none⟩),Value.slice ao2 us.length c2,Value.map (some w.heap.size),Value.slice ao ps.length c,Value.map (some w.heap.size),Value.slice qa qs.length qc,Value.agg #[Value.int IntKind.i64 0,Value.int IntKind.i64 0],Value.int IntKind.i64 most,Value.agg #[Value.int IntKind.i64 LH,Value.int IntKind.i64 LL],Value.slice qa qs.length qc,Value.int IntKind.i64 (qs.length:Int),Value.agg #[Value.int IntKind.i64 0,Value.int IntKind.i64 0],Value.slice qa qs.length qc,Value.func (Fn.func 150) #[] #[Value.pointer (some { block:=w4.heap.size+1+1+1,off:=0 })],.int .i64 (x:Int),.agg #[.string (pd qs x).nm,.int .i64 (pd qs x).pr,cv x],undef,undef,undef,undef,undef,undef,undef,undef,undef,undef,undef,undef,undef,undef,undef],defers:=[] })
  (λx a'=>Own.from (λu W W' row hs hg hr=>by
   obtain ⟨Bx,h1,h2,h3⟩:=hs;exact ⟨Bx,h1,eI.own Bx _ _ u W W' row h2 hg hr,h3⟩) _) ?assign ?body ?done ?stop
 case assign=>
  rintro l pre x W K ⟨⟨h,l',ht,hT⟩,Hg,Ha⟩ hK;obtain ⟨ca,cm,cc,Hr⟩:=HI.out x;have HK:=qI hK;have hC:=Ha.size;clear hK;unfold yV;rw [Hr]
  gi_wp2_with fail
  refine HK.out _ _ ((KeepsOthers.alloc _ _).from _) ⟨Below.heap_alloc _ _ _ (by omega),Below.heap_alloc _ _ _ (by omega)⟩ ⟨⟨h,l',ht.alloc _,hT⟩,Hg.alloc _,Ha.then ((Q0 _ _).alloc (lR) _)⟩ ⟨W.heap.size,hC,?_,?_⟩
  ·rw [Hr];exact eI.made W (pd qs x) _
  ·rw [Hr]
 case body=>
  rintro l pre x a' W hl ⟨r,hr⟩ ⟨⟨h,l',ht,hT⟩,Hg,Ha⟩ ⟨Bx,h0,ho,rfl⟩ hY;obtain ⟨ca,cm,cc,Hr⟩:=HI.out x;rw [Hr] at ho ⊢;have H3:=xW hfu.2.1 qs most (pre:=pre) (by omega);have hJ:=Qos.rJ hfu.2.1 (pd qs x).nm;have HY:=hT.high H3.1 H3.2;have Hc:=Ha.below (K:=w4.heap.size+1) (lR) (by omega) (by omega);have hM:W.cell? ⟨w1.heap.size,0,none⟩=some (.map (some w.heap.size)):=(Hc.cell (p:=⟨w1.heap.size,0,none⟩) (by show w1.heap.size<_;omega)).trans ((HH.out.cell (p:=⟨w1.heap.size,0,none⟩) (by show w1.heap.size<_;omega)).trans hO.out.cell);have hR:=ye ((hP.out.below HH.out (by omega)).below Hc (by omega)) (pd qs x).nm (KB (hf.perm HS.out.1) x);have Ht:=qI (show bt W w4.heap.size LH LL from by
   obtain ⟨⟨c0,f0⟩,⟨c1,f1⟩⟩:=hy.out;have hh:=Hc.block w4.heap.size (by omega);exact ⟨⟨(World.cell?_of_block (a:=⟨w4.heap.size,0,none⟩) hh).trans c0,(World.frozen?_of_block (a:=⟨w4.heap.size,0,none⟩) hh).trans f0⟩,⟨(World.cell?_of_block (a:=⟨w4.heap.size,1,none⟩) hh).trans c1,(World.frozen?_of_block (a:=⟨w4.heap.size,1,none⟩) hh).trans f1⟩⟩)
  have HA:=qI (rK us qs most pre x);have H0:=qI (yX (n:=bh us (pd qs x).nm) hT);have HW:=qI Hg;have Hh:=qI Ha;have HT:=qI ht;obtain ⟨_,p0,p1,p2⟩:=ho;obtain ⟨⟨t0,f0⟩,⟨t1,f1⟩⟩:=ht;have Hu:=qI (yi h l' (bh us (pd qs x).nm) W hT.1 hT.2.1 HY.1 HY.2 (by omega) (by omega));unfold km at HA;generalize hgr:ev us qs most pre=st at *;generalize bh us (pd qs x).nm=US at *;generalize (pd qs x).nm=nmx at *;generalize (pd qs x).pr=prx at *;clear H3 hJ HY hT Hg Ha Hc hgr Hr HI Ho Hl Hq HR
  gi_wp2_with fail
  refine ⟨trivial,(CallsIn.inRound l (callsIn_wide.2 Hu.out)).mono ?_⟩;rintro e w5 ⟨rfl,Hk⟩;have hp:=qI ((yU Hk).from A.heap.size);have Hj:=qI (Hh.out.then Hk);have HE:=qI (HT.out.below Hk);have hi:=qI (Ht.out.below Hk);have Hw:=qI (show Boxed w5 (w4.heap.size+1) 3 (.int .i64 (st.2:Int)) from (Hk.block _ HW.out.lt).trans HW.out);obtain ⟨⟨s0,z0⟩,⟨s1,z1⟩⟩:=HT.out.below Hk;clear Hk Hu t0 t1 f0 f1 p0 p1 p2 hR hM HT HW;generalize h+US / 1073741824+(l'+US % 1073741824) / 1073741824=H2 at *;generalize (l'+US) % 1073741824=L2 at *;have HL:=qI ((HE.out.set0 H2).set1 L2);have hA:=qI (si (si hi.out (w4.heap.size+1+1) 0 (.int .i64 H2) (by omega)) (w4.heap.size+1+1) 1 (.int .i64 L2) (by omega));have Hm:=qI (yW (yW Hw.out (w4.heap.size+1+1) 0 (.int .i64 H2) (by omega)) (w4.heap.size+1+1) 1 (.int .i64 L2) (by omega));have Hi:=qI ((Hj.out.set (w4.heap.size+1+1) 0 (.int .i64 H2) (.inr rfl)).set (w4.heap.size+1+1) 1 (.int .i64 L2) (.inr rfl));have H7:=qI ((hp.out.trans ((KeepsOthers.setCell w5 ⟨w4.heap.size+1+1,0,none⟩ (.int .i64 H2)).from _)).trans ((KeepsOthers.setCell (w5.setCell ⟨w4.heap.size+1+1,0,none⟩ (.int .i64 H2)) ⟨w4.heap.size+1+1,1,none⟩ (.int .i64 L2)).from _));have z1':(w5.setCell ⟨w4.heap.size+1+1,0,none⟩ (.int .i64 H2)).frozen? ⟨w4.heap.size+1+1,1,none⟩=false:=(HE.out.set0 H2).2.2;have s1':=(HE.out.set0 H2).2.1;obtain ⟨⟨q0,_⟩,⟨q1,_⟩⟩:=HL.out;obtain ⟨⟨r0,_⟩,⟨r1,_⟩⟩:=hA.out;have HC:=qI (Kv H2 L2 LH LL ((w5.setCell ⟨w4.heap.size+1+1,0,none⟩ (.int .i64 H2)).setCell ⟨w4.heap.size+1+1,1,none⟩ (.int .i64 L2)));have HF:=qI (Ku H0.out ha.out);clear Ht Hj hp HE hi Hw ha
  gi_wp2_with fail
  refine ⟨trivial,(CallsIn.inRound l (callsIn_wide.2 HC.out)).mono ?_⟩;clear s0 z0 s1 z1 z1' s1' q0 q1 r0 r1 HC hA;generalize (w5.setCell ⟨w4.heap.size+1+1,0,none⟩ (.int .i64 H2)).setCell ⟨w4.heap.size+1+1,1,none⟩ (.int .i64 L2)=W6 at *;rintro e w7 ⟨rfl,Hy⟩;have hv:=qI (H7.out.trans ((yU Hy).from _));have Hb:=qI (Hi.out.then Hy);have H9:=qI (HL.out.below Hy);have Hf:Boxed w7 (w4.heap.size+1) 3 (.int .i64 (st.2:Int)):=(Hy.block _ Hm.out.lt).trans Hm.out;have Hz:=qI Hf;have hZ:=Hf.cell;have hV:=Hf.frozen;have H6:=qI (λW' (Ha:But (w4.heap.size+1) (w4.heap.size+1+1) A W')=>(show KpB b (w4.heap.size+1+1+1) W W' from
   ⟨(Ha.block b hw HD.1 HD.2).trans (Hh.out.block b hw HD.1 HD.2).symm,(Ha.block (w4.heap.size+1+1+1) (by omega) (by omega) (by omega)).trans (Hh.out.block (w4.heap.size+1+1+1) (by omega) (by omega) (by omega)).symm⟩))
  clear Hy Hf H7 Hi HL Hm Hh
  by_cases hm:st.1+US<=most
  ·have hle:=HF.out.2 (by omega);have He:=qI (show ev us qs most (pre++[x])=(st.1+US,x) by rw [HA.out,if_pos hm]);clear HF HA hm;generalize orI (Lib.compareInt H2 LH) (Lib.compareInt L2 LL)=cc at *
   gi_wp2_with fail
   exact ⟨hv.out.trans ((KeepsOthers.setCell _ _ _).from _),H6.out _ (Hb.out.set (w4.heap.size+1) 0 _ (.inl rfl)),⟨H2,L2,si H9.out _ _ _ (by omega),by rw [He.out];exact H0.out⟩,by rw [He.out];exact Hz.out.set _,Hb.out.set (w4.heap.size+1) 0 _ (.inl rfl)⟩
  ·have h6:0<orI (Lib.compareInt H2 LH) (Lib.compareInt L2 LL):=by
    refine Int.not_le.1 λhc=>hm ?_
    have:=HF.out.1 hc
    omega
   have He:=qI (show ev us qs most (pre++[x])=(st.1+US,st.2) by rw [HA.out,if_neg hm]);clear HF HA hm;generalize orI (Lib.compareInt H2 LH) (Lib.compareInt L2 LL)=cc at *
   gi_wp2_with fail
   exact ⟨hv.out,H6.out _ Hb.out,⟨H2,L2,H9.out,by rw [He.out];exact H0.out⟩,by rw [He.out];exact Hz.out,Hb.out⟩
 case done=>
  rintro D xs W hD rfl ⟨_,Hg,Ha⟩ hK;have H5:=qI (xY us qs most);have hg:=H5.out.hi;have Hc:=Ha.below (K:=w4.heap.size+1) (lR) (by omega) (by omega);have HX:Below w4.heap.size w4 W:=HH.out.trans (Hc.mono (by omega));have hz:=qI (HM.out.trans (HX.mono HM.out.size));have hQ:=qI (KC (he.out.below HX) hg);have hc:=Hg.cell;have HK:=qI hK;have h4:=hD;generalize hgg:(ev us qs most (eL qs.length qs.length)).2=g at *;have HN:=qI (Jz _ (qs.take g) W hQ.out (by rw [Qu];omega));clear Hg Ha Hc HX Ho HI Hq Hl HR hgg hy HK
  gi_wp2_with fail
  refine ⟨trivial,(callsIn_wide.2 HN.out).mono ?_⟩;rintro e w9 ⟨⟨v9,rfl,hk⟩,Hc⟩;have H1:w9.heap[D]?=some (.deferred (some [])):=(Hc.block D (gS hK).1).trans hK;have hI:=qI hk.read;have hE:=qI (hz.out.trans (Hc.mono hz.out.size));have hN:w.heap.size<=D:=by have:=HM.out.size;omega
  clear hk Hc hK HN hc
  gi_wp2_with fail
  refine ⟨by simp,.inl ⟨_,_,rfl,run_takeDeferred H1,?_⟩⟩;exact ⟨_,results_tmp rfl _ _ _,⟨_,qs,g,rfl,KD hI.out _ H1 rfl,HS.out,H5.out⟩,hE.out.trans (belowK_b (w:=w) (lR) _ D _ _ hN H1 rfl rfl)⟩
 case stop=>exact λ_ _ _ _ _ _ h _=>h.elim
end
