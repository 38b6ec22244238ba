import Derived.Test.YtbmmnflgnmjboaaGreatDoorK15
set_option maxRecDepth 100000
set_option maxHeartbeats 16000000
namespace Go.Proofs.YtbmmnflgnmjboaaGreatDoor
section
open RowKit
open Qos (Nd nd be Tot orI)
theorem II (a b:Int) (g n:Nat) (w:World) (h0:w.cell? ⟨g,0,none⟩=some (.int .i64 a)) (h1:w.cell? ⟨g,1,none⟩=some (.int .i64 b)) :
  Calls Tryz.prog 76 #[.slice (some ⟨g,0,none⟩) 2 n] w λe w'=>e=.returned (.int .i64 (orI a b))/\w'=w:=by
 have HO:Hid (∀ k:Nat,k<2->∃ v:Int,w.cell? ⟨g,k,none⟩=some (.int .i64 v)/\(v=if k=0 then a else b)):=by
  intro k hk
  have:k=0\/k=1:=by omega
  rcases this with rfl|rfl
  ·exact ⟨a,h0,rfl⟩
  ·exact ⟨b,h1,rfl⟩
 clear h0 h1
 go_enter Tryz.func76,Tryz.ntmps76
 go_wp2_with fail
 go_loop [8] (λi=>∃ k:Nat,k<=2/\i=.int .i64 k/\Hid ((0<k->a=0)/\(1<k->b=0))) (λi=>2 - (intOf i).toNat)
 case atStart=>exact ⟨0,by omega,rfl,⟨λh=>by omega,λh=>by omega⟩⟩
 case round=>
  obtain ⟨k,hk,rfl,HZ⟩:=hrel
  by_cases hlt:k<2
  ·obtain ⟨v,hc,hv⟩:=HO.out k hlt;have HV:=qI hv;clear hv
   by_cases h0:v=0
   ·subst h0;have HZ2:Hid ((0<k+1->a=0)/\(1<k+1->b=0)):=by
     obtain ⟨z0,z1⟩:=HZ.out;have hv:=HV.out
     have:k=0\/k=1:=by omega
     rcases this with rfl|rfl
     ·simp at hv;exact ⟨λ_=>hv.symm,λh=>by omega⟩
     ·simp at hv;exact ⟨λ_=>z0 (by omega),λ_=>hv.symm⟩
    go_wp2_with fail
    go_round
    case rel=>exact ⟨k+1,by omega,by go_num,HZ2⟩
    case measure=>simp [intOf];omega
   ·have HE:Hid (orI a b=v):=by
     obtain ⟨z0,z1⟩:=HZ.out;have hv:=HV.out
     have:k=0\/k=1:=by omega
     unfold Hid orI
     rcases this with rfl|rfl
     ·simp at hv;subst hv;rw [if_neg h0]
     ·simp at hv;subst hv;rw [if_pos (z0 (by omega))]
    have hb:(v != 0)=true:=by simp [h0]
    go_wp2
    go_ret;exact ⟨by rw [HE.out];rfl,rfl⟩
  ·have hke:k=2:=by omega
   subst hke;have HE:Hid (orI a b=0):=by
    obtain ⟨z0,z1⟩:=HZ.out;unfold Hid orI;rw [if_pos (z0 (by omega)),z1 (by omega)]
   go_wp2
   go_ret;exact ⟨by rw [HE.out];rfl,rfl⟩
theorem IJ {h l v h' l' v':Int} (t:Tot h l v) (t':Tot h' l' v'):orI (Lib.compareInt h h') (Lib.compareInt l l')<=0↔v<=v':=by
 rw [<- t.le t'];unfold orI Lib.compareInt;obtain ⟨h1,h2,h3⟩:=t;obtain ⟨g1,g2,g3⟩:=t'
 repeat' split
 all_goals omega
theorem IK (h l h' l':Int) (w:World):Calls Tryz.prog 110 #[.agg #[.int .i64 h,.int .i64 l],.agg #[.int .i64 h',.int .i64 l']] w λe w'=>e=.returned (.int .i64 (orI (Lib.compareInt h h') (Lib.compareInt l l')))/\Below w.heap.size w w':=by
 have hb0:=((Q0 w.heap.size w).alloc (lR) (.cells #[.int .i64 h,.int .i64 l] 202)).alloc (by simp) (.cells #[.int .i64 h',.int .i64 l'] 202);have HBd:=qI (dJ hb0);have HA:=qI (((br.made w 202 h l).alloc (.cells #[.int .i64 h',.int .i64 l'] 202)).below (dJ (Q0 _ _)));have hC:=(br.made (w.alloc (.cells #[.int .i64 h,.int .i64 l] 202)) 202 h' l').below (dJ (Q0 _ _));rw [show (w.alloc (.cells #[.int .i64 h,.int .i64 l] 202)).heap.size=w.heap.size+1 by simp] at hC;have HC:=qI hC;clear hb0 hC
 go_enter Tryz.func110,Tryz.ntmps110
 go_wp2_with fail
 refine wp_region_held_drew (S:=(λw'=>w'.cell? ⟨w.heap.size,0,none⟩=some (.int .i64 h)/\w'.cell? ⟨w.heap.size,1,none⟩=some (.int .i64 l)/\w'.cell? ⟨w.heap.size+1,0,none⟩=some (.int .i64 h')/\w'.cell? ⟨w.heap.size+1,1,none⟩=some (.int .i64 l'))) (by kernel_rfl) ⟨HA.out.1.1,HA.out.2.1,HC.out.1.1,HC.out.2.1⟩ (λhHeld=>?_);refine tk 0 ?_;refine tk 1 ?_;refine tk 2 ?_;refine tk 3 ?_;refine tk 5 ?_;refine tk 6 ?_;refine tk 7 ?_;refine tk 8 ?_;refine rd 4 (λK hK=>?_);go_simp
 go_wp2_with fail
 refine (lr _ _ _).mono ?_;rintro e wx ⟨rfl,rfl⟩
 go_wp2
 refine hK.out _ _ ⟨HA.out.1.1,HA.out.2.1,HC.out.1.1,HC.out.2.1⟩ (λhHeld=>?_);clear hK K;refine rd 9 (λK hK=>?_);go_simp
 go_wp2_with fail
 refine (lr _ _ _).mono ?_;rintro e wx ⟨rfl,rfl⟩
 go_wp2
 refine hK.out _ _ ⟨HA.out.1.1,HA.out.2.1,HC.out.1.1,HC.out.2.1⟩ (λhHeld=>?_);clear hK K;have HA8:=qI (HA.out.alloc (.cells #[.int .i64 (Lib.compareInt h h'),.int .i64 (Lib.compareInt l l')] 3));have HC8:=qI (HC.out.alloc (.cells #[.int .i64 (Lib.compareInt h h'),.int .i64 (Lib.compareInt l l')] 3));have HB8:=qI (HBd.out.alloc HBd.out.size (.cells #[.int .i64 (Lib.compareInt h h'),.int .i64 (Lib.compareInt l l')] 3));have hD8:=br.made (((w.alloc (.cells #[.int .i64 h,.int .i64 l] 202)).alloc (.cells #[.int .i64 h',.int .i64 l'] 202)).drew) 3 (Lib.compareInt h h') (Lib.compareInt l l');rw [show (((w.alloc (.cells #[.int .i64 h,.int .i64 l] 202)).alloc (.cells #[.int .i64 h',.int .i64 l'] 202)).drew).heap.size=w.heap.size+1+1 by simp [World.drew]] at hD8;have HD8:=qI hD8;clear hD8;refine rd 10 (λK hK=>?_);go_simp
 go_wp2
 refine hK.out _ _ ⟨HA8.out.1.1,HA8.out.2.1,HC8.out.1.1,HC8.out.2.1⟩ (λhHeld=>?_);clear hK K;refine rd 11 (λK hK=>?_);go_simp
 go_wp2_with fail
 refine (II (Lib.compareInt h h') (Lib.compareInt l l') _ _ _ HD8.out.1.1 HD8.out.2.1).mono ?_;rintro e wx ⟨rfl,rfl⟩
 go_wp2
 refine hK.out _ _ ⟨HA8.out.1.1,HA8.out.2.1,HC8.out.1.1,HC8.out.2.1⟩ (λhHeld=>?_);clear hK K;refine tk 12 ?_;refine Qn (by kernel_rfl) ?_ _
 go_wp2
 go_ret;exact ⟨rfl,HB8.out⟩
end
section
open RowKit
open Qos (Nd nd eJ)
def IL (us:List Nd) (e:Ending):Prop:=∃ b,e=.returned (.bool b)/\(b=true->jB us)
def p5 (x:Nd):Prop:=x.kind.size<=30/\-1125899906842624<=x.many/\x.many<=1125899906842624
theorem IM (v:Value) (us:List Nd) (w:World) (h:bc w v us):Calls Tryz.prog 25 #[v] w λe w'=>IL us e/\w'=w:=by
 obtain ⟨ao,c,rfl,hm,hr⟩:=h;have HR:=qI hr;clear hr hm
 by_cases h20:20<us.length
 ·go_enter Tryz.func25,Tryz.ntmps25
  go_wp2
  go_ret;exact ⟨⟨_,rfl,λh=>by cases h⟩,rfl⟩
 have h20':us.length<=20:=by omega
 clear h20;have hd:decide (20<(us.length:Int))=false:=Q7 (by omega)
 go_enter Tryz.func25,Tryz.ntmps25
 go_wp2_with fail
 go_loop [3] (λi=>∃ k:Nat,k<=us.length/\i=.int .i64 k/\Hid (∀ j,j<k->p5 (nd us j))) (λi=>us.length - (intOf i).toNat)
 case atStart=>exact ⟨0,by omega,rfl,λj hj=>by omega⟩
 case round=>
  obtain ⟨k,hk,rfl,HA⟩:=hrel
  by_cases hlt:k<us.length
  ·obtain ⟨b,o,rfl,hlb,hcs⟩:=HR.out (by omega);obtain ⟨c0,c1⟩:=hcs k hlt;have HN:=qI (λ(hx:p5 (nd us k))=>(show ∀ j,j<k+1->p5 (nd us j) from λj hj=>by
    by_cases e:j=k
    ·rw [e];exact hx
    ·exact HA.out j (by omega)))
   clear hcs;generalize nd us k=x at *;have key:30<x.kind.size\/(x.kind.size<=30/\x.many < -1125899906842624)\/(x.kind.size<=30/\-1125899906842624<=x.many/\1125899906842624<x.many)\/(x.kind.size<=30/\-1125899906842624<=x.many/\x.many<=1125899906842624):=by omega
   rcases key with h1|⟨h1,h2⟩|⟨h1,h2,h3⟩|⟨h1,h2,h3⟩
   ·go_wp2
    go_ret;exact ⟨⟨_,rfl,λh=>by cases h⟩,rfl⟩
   ·go_wp2
    go_ret;exact ⟨⟨_,rfl,λh=>by cases h⟩,rfl⟩
   ·go_wp2
    go_ret;exact ⟨⟨_,rfl,λh=>by cases h⟩,rfl⟩
   ·have HN':=qI (HN.out ⟨h1,h2,h3⟩)
    go_wp2_with fail
    go_round
    case rel=>exact ⟨k+1,by omega,by go_num,HN'⟩
    case measure=>simp [intOf];omega
  ·have hke:k=us.length:=by omega
   subst hke
   go_wp2
   go_ret;exact ⟨⟨_,rfl,λ_=>⟨h20',λj hj=>⟨(HA.out j hj).2.1,(HA.out j hj).2.2⟩,λj hj=>(HA.out j hj).1⟩⟩,rfl⟩
end
section
open RowKit Shelf
open Qos (Nd Ct Pd pd0 nd ct pd be eJ Tot orI ed jA pJ uX uZ ez pL dZ)
attribute [local go_sem] Oper.semAt_some
theorem wm {W W':World} (h:Below W.heap.size W W'):KeepsOthers W W':=
 ⟨h.size,λk _ hk _=>(h.block k (gS hk).1).trans hk⟩
theorem IN (a:Option Addr) (len cap:Nat) (w:World) :
  Calls Tryz.prog 109 #[.slice a len cap] w λe w'=>e=.returned (.func (.func 150) #[] #[.pointer (some ⟨w.heap.size,0,none⟩)])/\w'=w.alloc (.cells #[.slice a len cap] 70):=by
 go_enter Tryz.func109,Tryz.ntmps109
 go_wp2
 go_ret;exact ⟨rfl,rfl⟩
structure But (B1 B2:Nat) (A W:World):Prop where
 os:W.os=A.os
 tape:W.tape=A.tape
 output:W.output=A.output
 size:A.heap.size<=W.heap.size
 block:∀ k,k<A.heap.size->k≠B1->k≠B2->W.heap[k]?=A.heap[k]?
theorem But.refl (B1 B2:Nat) (A:World):But B1 B2 A A:=⟨rfl,rfl,rfl,lR,λ_ _ _ _=>rfl⟩
theorem But.then {B1 B2:Nat} {A W W':World} (h:But B1 B2 A W) (hb:Below W.heap.size W W'):But B1 B2 A W':=
 ⟨hb.os.trans h.os,hb.tape.trans h.tape,hb.output.trans h.output,Q5 h.size hb.size,λk hk h1 h2=>(hb.block k (Q1 hk h.size)).trans (h.block k hk h1 h2)⟩
theorem But.set {B1 B2:Nat} {A W:World} (h:But B1 B2 A W) (b j:Nat) (v:Value) (hb:b=B1\/b=B2):But B1 B2 A (W.setCell ⟨b,j,none⟩ v):=
 ⟨h.os,h.tape,h.output,Q5 h.size (KeepsWalks.setCell W _ v).size,λk hk h1 h2=>(Below.heap_setCell _ _ _ k (λe=>by rcases hb with rfl|rfl <;> simp_all)).trans (h.block k hk h1 h2)⟩
theorem But.own {β:Type} (B1 B2:Nat) (A:World):OwnFrom A.heap.size (λ(_:β) W=>But B1 B2 A W):=λ_ W W' row h hg hr=>
 ⟨hg.os.trans h.os,hg.tape.trans h.tape,hg.output.trans h.output,Q5 h.size hg.size,λk hk h1 h2=>(hg.block k (Q1 hk h.size) (λe=>by have:=(hr k e.symm).1;omega)).trans (h.block k hk h1 h2)⟩
theorem But.below {B1 B2 K:Nat} {A W:World} (h:But B1 B2 A W) (hK:K<=B1) (hK2:K<=B2) (hA:K<=A.heap.size):Below K A W:=
 ⟨h.os,h.tape,h.output,h.size,λk hk=>h.block k (by omega) (by omega) (by omega)⟩
def wn (qs:List Pd) (cv:Nat->Value) (x:Nat):Array Value:=#[.int .i64 (x:Int),.agg #[.string (pd qs x).nm,.int .i64 (pd qs x).pr,cv x]]
theorem IP (F:Fence) (n:Nat) (h7:F.fn 150) (hro:F.round=none) (l Bs:Nat) (qa:Option Addr) (qc:Nat) (J:List Nat->World->Prop)
  (W:World) (hBs:W.cell? ⟨Bs,0,none⟩=some (.slice qa 0 qc)) (h0:J [] W) :
  CallsIn F n Tryz.prog 150 #[.func (.yield l) #[] #[],.pointer (some ⟨Bs,0,none⟩)] W λe W'=>(∃ v,e=.returned v)/\J [] W':=by
 refine callsIn_of_wp Tryz.func150 rfl h7 ?_ hro;simp only [Tryz.ntmps150,List.size_toArray,Qg,List.length_nil,Nat.reduceAdd,Nat.reduceSub,Array.replicate_succ,Array.replicate_zero,List.push_toArray,List.append_toArray,List.nil_append,List.cons_append]
 gi_wp2
 gi_loopw [3] (λi wr=>i=.int .i64 (-1)/\J [] wr) (λ_ _=>0)
 case atStart=>exact ⟨rfl,h0⟩
 case round=>
  obtain ⟨rfl,hJs⟩:=hrel
  gi_wp2
  go_end0
  exact ⟨⟨_,rfl⟩,hJs⟩
theorem IQ (F:Fence) (n:Nat) (h7:F.fn 150) (hro:F.round=none) (hn:1<=n) (Bs:Nat) (qa:Option Addr) (qc:Nat) (qs:List Pd) (w0 w:World) (hb:Below w0.heap.size w0 w) (hBs:w.cell? ⟨Bs,0,none⟩=some (.slice qa qs.length qc)) (hBl:Bs<w.heap.size) (hP:eu w0 (.slice qa qs.length qc) qs) (hlen:qs.length<=16) :
  ∃ b cv,(b<w0.heap.size\/b=Bs)/\(∀ k,∃ a m c,cv k=.slice a m c)/\
   SeqStopsK F n Tryz.prog 150 #[.pointer (some ⟨Bs,0,none⟩)] (wn qs cv) (KpB b Bs) (λys=>ys=ez qs.length qs.length) (λ_=>True) qs.length w:=by
 obtain ⟨ao,c,hv,_,hr⟩:=hP;cases hv
 by_cases h0:0<qs.length
 ·obtain ⟨b,o,cv,rfl,hin⟩:=hr h0;have hrow:kb w b o qs (λk=>if k<qs.length then cv k else .slice none 0 0):=by
   have h1:kb w0 b o qs (λk=>if k<qs.length then cv k else .slice none 0 0):=λk hk=>by
    simp only [if_pos hk];exact (hin.2 k hk).1
   exact h1.kept (hb.block b hin.1)
  refine ⟨b,λk=>if k<qs.length then cv k else .slice none 0 0,.inl hin.1,λk=>?_,λl J Jx W hW _ _ hY h0=>?_⟩
  ·by_cases hk:k<qs.length
   ·simp only [if_pos hk];exact (hin.2 k hk).2.slice
   ·simp only [if_neg hk];exact ⟨_,_,_,rfl⟩
  ·refine Gy F n h7 hro hn l Bs b o qc qs _ hlen (λk=>?_) J Jx hY W ((hW.cell (p:=⟨Bs,0,none⟩) hBl).trans hBs) (hrow.kept (hW.block b (Q1 hin.1 hb.size))) h0
   by_cases hk:k<qs.length
   ·simp only [if_pos hk];exact (hin.2 k hk).2.slice
   ·simp only [if_neg hk];exact ⟨_,_,_,rfl⟩
 ·have hq0:qs.length=0:=by omega
  refine ⟨Bs,λ_=>.slice none 0 0,.inr rfl,λk=>⟨_,_,_,rfl⟩,λl J Jx W hW _ _ hY h0=>?_⟩;refine (IP F n h7 hro l Bs qa qc J W ((hW.cell (p:=⟨Bs,0,none⟩) hBl).trans (by rw [hq0] at hBs;exact hBs)) h0).mono ?_;rintro e W' ⟨he,hj⟩;exact ⟨he,.inl ⟨_,rfl,by rw [hq0];exact hj⟩⟩
theorem ev.own (B:Nat) (x:Pd) (cv:Value):Own (λ(_:Unit) W=>ev W B x cv):=λ_ _ _ _ hs hg hr=>by
 obtain ⟨h0,h1,h2,h3⟩:=hs;exact ⟨Q1 h0 hg.size,cell_kept h1 hg hr,cell_kept h2 hg hr,cell_kept h3 hg hr⟩
theorem p6 {w:World} {B:Nat} {m b:Int} (h:br w B m b) (g j:Nat) (v:Value) (hne:B≠g):br (w.setCell ⟨g,j,none⟩ v) B m b:=by
 have hh:=Below.heap_setCell w ⟨g,j,none⟩ v B hne;obtain ⟨⟨c0,f0⟩,⟨c1,f1⟩⟩:=h;exact ⟨⟨(World.cell?_of_block (a:=⟨B,0,none⟩) hh).trans c0,(World.frozen?_of_block (a:=⟨B,0,none⟩) hh).trans f0⟩,⟨(World.cell?_of_block (a:=⟨B,1,none⟩) hh).trans c1,(World.frozen?_of_block (a:=⟨B,1,none⟩) hh).trans f1⟩⟩
theorem wo {w:World} {B:Nat} {t:TypeId} {u:Value} (h:Boxed w B t u) (g j:Nat) (v:Value) (hne:B≠g):Boxed (w.setCell ⟨g,j,none⟩ v) B t u:=
 (Below.heap_setCell w ⟨g,j,none⟩ v B hne).trans h
theorem IR {qs:List Pd} (h:jC qs) (x:Nat):(pd qs x).nm.size<=1000:=by
 by_cases hx:x<qs.length
 ·have:=(h.2 qs[x] (List.getElem_mem hx)).2
  simp [pd,hx]
  exact this
 ·simp [pd,hx,pd0]
theorem IS {w:World} {qa:Option Addr} {qc:Nat} {qs:List Pd} (h:eu w (.slice qa qs.length qc) qs) {g:Nat} (hg:g<=qs.length):eu w (.slice qa g qc) (qs.take g):=by
 obtain ⟨ao,c,hv,hm,hr⟩:=h;cases hv;have hl:(qs.take g).length=g:=by rw [Qu];omega
 refine ⟨qa,qc,by rw [hl],by omega,λh0=>?_⟩;obtain ⟨b,o,cv,ha,hlt,hc⟩:=hr (by omega);refine ⟨b,o,cv,ha,hlt,λk hk=>?_⟩;rw [hl] at hk;have e:pd (qs.take g) k=pd qs k:=by simp [pd,hk]
 rw [e];exact hc k (by omega)
theorem IT {w:World} {v:Value} {l:List ByteArray} (h:lw w v l) {D:Nat} {o:Obj} (o':Obj) (hD:w.heap[D]?=some o) (ho:o.isCells=false):lw (w.putObj D o') v l:=by
 obtain ⟨ao,c,hv,hc,hr⟩:=h;refine ⟨ao,c,hv,hc,λh0=>?_⟩;obtain ⟨g,ha,hlt,hcs⟩:=hr h0;exact ⟨g,ha,Q1 hlt (grownBy_putObj' w D o').size,λk hk=>cell_kept (hcs k hk) (grownBy_putObj' w D o') (λr e=>by cases e;exact ⟨_,hD,ho⟩)⟩
theorem wu {h l v n:Int} (t:Tot h l v):Tot (h+n / 1073741824+(l+n % 1073741824) / 1073741824) ((l+n) % 1073741824) (v+n):=by
 obtain ⟨h1,h2,h3⟩:=t;exact ⟨by omega,by omega,by omega⟩
theorem IU (v uv:Value) (ps:List Pd) (us:List Nd) (most:Int) (w:World) (h:eu w v ps) (hu:bc w uv us) (hf:jC ps) (hfu:jB us) (hm1:-9223372036854775808<=most) (hm2:most<=9223372036854775807) :
  Calls Tryz.prog 61 #[v,uv,.int .i64 most] w λe w'=>(∃ v' qs g,e=.returned v'/\lw w' v' ((qs.take g).map Pd.nm)/\mS us ps qs/\dZ us qs most 0 g)/\Below w.heap.size w w':=by
 have HU:=qI (Gw uv us w hu hfu);have HP:=qI h;obtain ⟨ao,c,rfl,_,_⟩:=h;obtain ⟨ao2,c2,rfl,_,_⟩:=hu;refine (callsIn_wide (n:=3)).1 ?_;refine callsIn_of_wp_marks Tryz.func61 rfl trivial ?_ rfl;simp only [Tryz.ntmps61,List.size_toArray,Qg,List.length_nil,Nat.reduceAdd,Nat.reduceSub,Array.replicate_succ,Array.replicate_zero,List.push_toArray,List.append_toArray,List.nil_append,List.cons_append]
 gi_wp2_with fail
 refine ⟨trivial,(callsIn_wide.2 HU.out).mono ?_⟩;rintro e w1 ⟨⟨n,rfl,hm⟩,hb1⟩;have HB1:=qI hb1;have hb2:=(Q0 w1.heap.size w1).alloc (lR) (.cells #[.map (some w.heap.size)] 198);have HB2:=qI (hb1.trans (hb2.mono hb1.size));have HM2:=qI (hm.alloc (.cells #[.map (some w.heap.size)] 198));have HX2:=qI (Boxed.new w1 198 (.map (some w.heap.size)));have hs2:(w1.alloc (.cells #[.map (some w.heap.size)] 198)).heap.size=w1.heap.size+1:=by simp
 have HO:=qI (GN _ ps w.heap.size n us _ (HP.out.below HB2.out) hf HM2.out hfu.2.1);have hc2:(w1.alloc (.cells #[.map (some w.heap.size)] 198)).cell? ⟨w1.heap.size,0,none⟩=some (.map (some w.heap.size)):=by simp
 have hlt1:w.heap.size<w1.heap.size:=hm.lt;clear hm hb1 hb2 HU
 gi_wp2_with fail
 generalize w1.alloc (.cells #[.map (some w.heap.size)] 198)=W2 at *;refine ⟨trivial,(callsIn_wide.2 HO.out).mono ?_⟩;rintro e w3 ⟨⟨v3,qs,rfl,hq,hs,hcap⟩,hb3⟩;have HB3:=qI (HB2.out.trans (hb3.mono HB2.out.size));have HM3:=qI (HM2.out.below hb3 HM2.out.lt);have HX3:=qI (show Boxed w3 w1.heap.size 198 (.map (some w.heap.size)) from (hb3.block _ (by omega)).trans HX2.out);have HS:=qI hs;have HQ:=qI hq;have hql:qs.length<=16:=by rw [hs.1.length_eq];exact hf.1
 have hsz3:=hb3.size;obtain ⟨qa,qc,rfl,_,_⟩:=hq;have hqc:qs.length<=qc:=by obtain ⟨_,_,_,e,hle⟩:=hcap;cases e;exact hle
 clear hcap;have HPL:=qI (vl 0 0 most w3 (by omega) (by omega) (by omega) (by omega) hm1 hm2);clear hb3 hs HO HB2 HM2 HX2 hc2
 gi_wp2_with fail
 refine ⟨trivial,(callsIn_wide.2 HPL.out).mono ?_⟩;rintro e w4 ⟨rfl,hb4⟩;have HT4:=qI (wu (n:=most) Tot.zero);have HB4:=qI (HB3.out.trans (hb4.mono HB3.out.size));have HM4:=qI (HM3.out.below hb4 HM3.out.lt);have HX4:=qI (show Boxed w4 w1.heap.size 198 (.map (some w.heap.size)) from (hb4.block _ (by omega)).trans HX3.out);have HQ4:=qI (HQ.out.below hb4);have hsz4:=hb4.size;clear hb4 HB3 HM3 HX3 HPL;generalize (0:Int)+most / 1073741824+(0+most % 1073741824) / 1073741824=LH at *;generalize ((0:Int)+most) % 1073741824=LL at *
 gi_wp2_with fail
 refine ⟨trivial,(callsIn_wide.2 (IN _ _ _ _)).mono ?_⟩;rintro e w8 ⟨rfl,rfl⟩;have a1:=(Q0 w4.heap.size w4).alloc (lR) (.cells #[.int .i64 LH,.int .i64 LL] 202);have a2:=a1.alloc (by simp) (.cells #[.int .i64 (qs.length:Int)] 3);have a3:=a2.alloc (by simp;omega) (.cells #[.int .i64 0,.int .i64 0] 202);have HBA:=qI (a3.alloc (by simp;omega) (.cells #[.slice qa qs.length qc] 70));have HL9:=qI (((br.made w4 202 LH LL).alloc (.cells #[.int .i64 (qs.length:Int)] 3)).alloc (.cells #[.int .i64 0,.int .i64 0] 202) |>.alloc (.cells #[.slice qa qs.length qc] 70));have hx10:=((Boxed.new (w4.alloc (.cells #[.int .i64 LH,.int .i64 LL] 202)) 3 (.int .i64 (qs.length:Int))).alloc (.cells #[.int .i64 0,.int .i64 0] 202)).alloc (.cells #[.slice qa qs.length qc] 70);have hx11:=(br.made ((w4.alloc (.cells #[.int .i64 LH,.int .i64 LL] 202)).alloc (.cells #[.int .i64 (qs.length:Int)] 3)) 202 0 0).alloc (.cells #[.slice qa qs.length qc] 70);have hxs:=Boxed.new (((w4.alloc (.cells #[.int .i64 LH,.int .i64 LL] 202)).alloc (.cells #[.int .i64 (qs.length:Int)] 3)).alloc (.cells #[.int .i64 0,.int .i64 0] 202)) 70 (.slice qa qs.length qc);have hsA:((((w4.alloc (.cells #[.int .i64 LH,.int .i64 LL] 202)).alloc (.cells #[.int .i64 (qs.length:Int)] 3)).alloc (.cells #[.int .i64 0,.int .i64 0] 202)).alloc (.cells #[.slice qa qs.length qc] 70)).heap.size=w4.heap.size+1+1+1+1:=by simp
 simp only [World.size_alloc] at hx10 hx11 hxs;have HX10:=qI hx10;have HX11:=qI hx11;have HXS:=qI hxs;clear a1 a2 a3 hx10 hx11 hxs
 gi_wp2_with fail
 generalize ((((w4.alloc (.cells #[.int .i64 LH,.int .i64 LL] 202)).alloc (.cells #[.int .i64 (qs.length:Int)] 3)).alloc (.cells #[.int .i64 0,.int .i64 0] 202)).alloc (.cells #[.slice qa qs.length qc] 70))=A at *;obtain ⟨b,cv,hb,hcv,hseq⟩:=IQ Fence.wide (3 - 1) trivial rfl (by omega) (w4.heap.size+1+1+1) qa qc qs w4 A HBA.out HXS.out.cell (by omega) HQ4.out hql;have HCV:=qI hcv;have hbA:b<A.heap.size:=by rcases hb with hb|hb <;> omega
 have hbn:b≠w4.heap.size+1/\b≠w4.heap.size+1+1:=by rcases hb with hb|hb <;> omega
 clear hcv hb;refine wpIn_rangeFunc_ownH (α:=Nat) rfl (by omega) (gf:=150) (lb:=#[.pointer (some ⟨w4.heap.size+1+1+1,0,none⟩)]) rfl trivial (enters_of Tryz.func150 (by kernel_rfl) rfl)
  hseq (λh k=>KpB.trans h k) (λW l o o' hl hW h1 h2=>⟨World.putObj_heap_other (by omega),World.putObj_heap_other (by omega)⟩) (Q0 _ _) (λ_=>rfl)
  (λpre W=>(∃ h l,br W (w4.heap.size+1+1) h l/\Tot h l (ed us qs most pre).1)/\Boxed W (w4.heap.size+1) 3 (.int .i64 ((ed us qs most pre).2:Int))/\But (w4.heap.size+1) (w4.heap.size+1+1) A W)
  (λ_ _ _=>False)
  (λs W W' row hs hg hr=>by
   obtain ⟨⟨h,l,ht,hT⟩,hbx,hbut⟩:=hs;exact ⟨⟨h,l,ht.kept hg (λe=>by have:=(hr _ e.symm).1;omega),hT⟩,hbx.kept hg (λe=>by have:=(hr _ e.symm).1;omega),But.own _ _ A s W W' row hbut hg hr⟩)
  (λ_ _ _ _ _ hs _ _=>hs)
  ⟨⟨0,0,HX11.out,Tot.zero⟩,HX10.out,But.refl _ _ _⟩
  (λx a' W=>∃ Bx,A.heap.size<=Bx/\ev W Bx (pd qs x) (cv x)/\a'={ tmps:=#[Value.slice ao ps.length c,Value.slice ao2 us.length c2,Value.int IntKind.i64 most,undef,undef,undef,Value.slice none 0 0,Value.pointer (some { block:=w1.heap.size,off:=0 }),Value.slice qa qs.length qc,Value.pointer (some { block:=w4.heap.size,off:=0 }),Value.pointer (some { block:=w4.heap.size+1,off:=0 }),Value.pointer (some { block:=w4.heap.size+1+1,off:=0 }),.int .i64 (x:Int),.pointer (some ⟨Bx,0,none⟩),Value.slice ao2 us.length c2,Value.map (some w.heap.size),Value.slice ao ps.length c,Value.map (some w.heap.size),Value.slice qa qs.length qc,Value.agg #[Value.int IntKind.i64 0,Value.int IntKind.i64 0],Value.int IntKind.i64 most,Value.agg #[Value.int IntKind.i64 LH,Value.int IntKind.i64 LL],Value.slice qa qs.length qc,Value.int IntKind.i64 (qs.length:Int),Value.agg #[Value.int IntKind.i64 0,Value.int IntKind.i64 0],Value.slice qa qs.length qc,Value.func (Fn.func 150) #[] #[Value.pointer (some { block:=w4.heap.size+1+1+1,off:=0 })],.int .i64 (x:Int),.agg #[.string (pd qs x).nm,.int .i64 (pd qs x).pr,cv x],undef,undef,undef,undef,undef,undef,undef,undef,undef,undef,undef,undef,undef,undef,undef],defers:=[] })
  (λx a'=>Own.from (λu W W' row hs hg hr=>by
   obtain ⟨Bx,h1,h2,h3⟩:=hs;exact ⟨Bx,h1,ev.own Bx _ _ u W W' row h2 hg hr,h3⟩) _) ?assign ?body ?done ?stop
 case assign=>
  rintro l pre x W K ⟨⟨h,l',ht,hT⟩,hbx,hbut⟩ hK;obtain ⟨ca,cm,cc,hce⟩:=HCV.out x;have HK:=qI hK;have hsz:=hbut.size;clear hK;unfold wn;rw [hce]
  gi_wp2_with fail
  refine HK.out _ _ ((KeepsOthers.alloc _ _).from _) ⟨Below.heap_alloc _ _ _ (by omega),Below.heap_alloc _ _ _ (by omega)⟩ ⟨⟨h,l',ht.alloc _,hT⟩,hbx.alloc _,hbut.then ((Q0 _ _).alloc (lR) _)⟩ ⟨W.heap.size,hsz,?_,?_⟩
  ·rw [hce];exact ev.made W (pd qs x) _
  ·rw [hce]
 case body=>
  rintro l pre x a' W hl ⟨r,hr⟩ ⟨⟨h,l',ht,hT⟩,hbx,hbut⟩ ⟨Bx,hBx,hpx,rfl⟩ hlt;obtain ⟨ca,cm,cc,hce⟩:=HCV.out x;rw [hce] at hpx ⊢;have hin:=uX hfu.2.1 qs most (pre:=pre) (by omega);have hui:=Qos.pI hfu.2.1 (pd qs x).nm;have hhi:=hT.high hin.1 hin.2;have hb9:=hbut.below (K:=w4.heap.size+1) (lR) (by omega) (by omega);have hmb:W.cell? ⟨w1.heap.size,0,none⟩=some (.map (some w.heap.size)):=(hb9.cell (p:=⟨w1.heap.size,0,none⟩) (by show w1.heap.size<_;omega)).trans ((HBA.out.cell (p:=⟨w1.heap.size,0,none⟩) (by show w1.heap.size<_;omega)).trans HX4.out.cell);have hlk:=vf ((HM4.out.below HBA.out (by omega)).below hb9 (by omega)) (pd qs x).nm (IR (hf.perm HS.out.1) x);have HL9':=qI (show br W w4.heap.size LH LL from by
   obtain ⟨⟨c0,f0⟩,⟨c1,f1⟩⟩:=HL9.out;have hh:=hb9.block w4.heap.size (by omega);exact ⟨⟨(World.cell?_of_block (a:=⟨w4.heap.size,0,none⟩) hh).trans c0,(World.frozen?_of_block (a:=⟨w4.heap.size,0,none⟩) hh).trans f0⟩,⟨(World.cell?_of_block (a:=⟨w4.heap.size,1,none⟩) hh).trans c1,(World.frozen?_of_block (a:=⟨w4.heap.size,1,none⟩) hh).trans f1⟩⟩)
  have HSN:=qI (pJ us qs most pre x);have HT':=qI (wu (n:=be us (pd qs x).nm) hT);have HBX:=qI hbx;have HBUT:=qI hbut;have HT:=qI ht;obtain ⟨_,p0,p1,p2⟩:=hpx;obtain ⟨⟨t0,f0⟩,⟨t1,f1⟩⟩:=ht;have HPL:=qI (vl h l' (be us (pd qs x).nm) W hT.1 hT.2.1 hhi.1 hhi.2 (by omega) (by omega));unfold jA at HSN;generalize hgr:ed us qs most pre=st at *;generalize be us (pd qs x).nm=US at *;generalize (pd qs x).nm=nmx at *;generalize (pd qs x).pr=prx at *;clear hin hui hhi hT hbx hbut hb9 hgr hce HCV hseq HX11 HX10 HXS
  gi_wp2_with fail
  refine ⟨trivial,(CallsIn.inRound l (callsIn_wide.2 HPL.out)).mono ?_⟩;rintro e w5 ⟨rfl,hb5⟩;have HK5:=qI ((wm hb5).from A.heap.size);have HBUT5:=qI (HBUT.out.then hb5);have HT5:=qI (HT.out.below hb5);have HL5:=qI (HL9'.out.below hb5);have HBX5:=qI (show Boxed w5 (w4.heap.size+1) 3 (.int .i64 (st.2:Int)) from (hb5.block _ HBX.out.lt).trans HBX.out);obtain ⟨⟨s0,z0⟩,⟨s1,z1⟩⟩:=HT.out.below hb5;clear hb5 HPL t0 t1 f0 f1 p0 p1 p2 hlk hmb HT HBX;generalize h+US / 1073741824+(l'+US % 1073741824) / 1073741824=H2 at *;generalize (l'+US) % 1073741824=L2 at *;have HT6:=qI ((HT5.out.set0 H2).set1 L2);have HL6:=qI (p6 (p6 HL5.out (w4.heap.size+1+1) 0 (.int .i64 H2) (by omega)) (w4.heap.size+1+1) 1 (.int .i64 L2) (by omega));have HBX6:=qI (wo (wo HBX5.out (w4.heap.size+1+1) 0 (.int .i64 H2) (by omega)) (w4.heap.size+1+1) 1 (.int .i64 L2) (by omega));have HBUT6:=qI ((HBUT5.out.set (w4.heap.size+1+1) 0 (.int .i64 H2) (.inr rfl)).set (w4.heap.size+1+1) 1 (.int .i64 L2) (.inr rfl));have HK6:=qI ((HK5.out.trans ((KeepsOthers.setCell w5 ⟨w4.heap.size+1+1,0,none⟩ (.int .i64 H2)).from _)).trans ((KeepsOthers.setCell (w5.setCell ⟨w4.heap.size+1+1,0,none⟩ (.int .i64 H2)) ⟨w4.heap.size+1+1,1,none⟩ (.int .i64 L2)).from _));have z1':(w5.setCell ⟨w4.heap.size+1+1,0,none⟩ (.int .i64 H2)).frozen? ⟨w4.heap.size+1+1,1,none⟩=false:=(HT5.out.set0 H2).2.2;have s1':=(HT5.out.set0 H2).2.1;obtain ⟨⟨q0,_⟩,⟨q1,_⟩⟩:=HT6.out;obtain ⟨⟨r0,_⟩,⟨r1,_⟩⟩:=HL6.out;have HC:=qI (IK H2 L2 LH LL ((w5.setCell ⟨w4.heap.size+1+1,0,none⟩ (.int .i64 H2)).setCell ⟨w4.heap.size+1+1,1,none⟩ (.int .i64 L2)));have HLE:=qI (IJ HT'.out HT4.out);clear HL9' HBUT5 HK5 HT5 HL5 HBX5 HT4
  gi_wp2_with fail
  refine ⟨trivial,(CallsIn.inRound l (callsIn_wide.2 HC.out)).mono ?_⟩;clear s0 z0 s1 z1 z1' s1' q0 q1 r0 r1 HC HL6;generalize (w5.setCell ⟨w4.heap.size+1+1,0,none⟩ (.int .i64 H2)).setCell ⟨w4.heap.size+1+1,1,none⟩ (.int .i64 L2)=W6 at *;rintro e w7 ⟨rfl,hb7⟩;have HK7:=qI (HK6.out.trans ((wm hb7).from _));have HBUT7:=qI (HBUT6.out.then hb7);have HT7:=qI (HT6.out.below hb7);have hbx7:Boxed w7 (w4.heap.size+1) 3 (.int .i64 (st.2:Int)):=(hb7.block _ HBX6.out.lt).trans HBX6.out;have HBX7:=qI hbx7;have hc7:=hbx7.cell;have hf7:=hbx7.frozen;have HKB:=qI (λW' (hbut:But (w4.heap.size+1) (w4.heap.size+1+1) A W')=>(show KpB b (w4.heap.size+1+1+1) W W' from
   ⟨(hbut.block b hbA hbn.1 hbn.2).trans (HBUT.out.block b hbA hbn.1 hbn.2).symm,(hbut.block (w4.heap.size+1+1+1) (by omega) (by omega) (by omega)).trans (HBUT.out.block (w4.heap.size+1+1+1) (by omega) (by omega) (by omega)).symm⟩))
  clear hb7 hbx7 HK6 HBUT6 HT6 HBX6 HBUT
  by_cases hm:st.1+US<=most
  ·have hle:=HLE.out.2 (by omega);have HSN':=qI (show ed us qs most (pre++[x])=(st.1+US,x) by rw [HSN.out,if_pos hm]);clear HLE HSN hm;generalize orI (Lib.compareInt H2 LH) (Lib.compareInt L2 LL)=cc at *
   gi_wp2_with fail
   exact ⟨HK7.out.trans ((KeepsOthers.setCell _ _ _).from _),HKB.out _ (HBUT7.out.set (w4.heap.size+1) 0 _ (.inl rfl)),⟨H2,L2,p6 HT7.out _ _ _ (by omega),by rw [HSN'.out];exact HT'.out⟩,by rw [HSN'.out];exact HBX7.out.set _,HBUT7.out.set (w4.heap.size+1) 0 _ (.inl rfl)⟩
  ·have hgt:0<orI (Lib.compareInt H2 LH) (Lib.compareInt L2 LL):=by
    refine Int.not_le.1 λhc=>hm ?_
    have:=HLE.out.1 hc
    omega
   have HSN':=qI (show ed us qs most (pre++[x])=(st.1+US,st.2) by rw [HSN.out,if_neg hm]);clear HLE HSN hm;generalize orI (Lib.compareInt H2 LH) (Lib.compareInt L2 LL)=cc at *
   gi_wp2_with fail
   exact ⟨HK7.out,HKB.out _ HBUT7.out,⟨H2,L2,HT7.out,by rw [HSN'.out];exact HT'.out⟩,by rw [HSN'.out];exact HBX7.out,HBUT7.out⟩
 case done=>
  rintro D xs W hD rfl ⟨_,hbx,hbut⟩ hK;have HLS:=qI (uZ us qs most);have hg:=HLS.out.hi;have hb9:=hbut.below (K:=w4.heap.size+1) (lR) (by omega) (by omega);have hbW:Below w4.heap.size w4 W:=HBA.out.trans (hb9.mono (by omega));have HBW:=qI (HB4.out.trans (hbW.mono HB4.out.size));have HPW:=qI (IS (HQ4.out.below hbW) hg);have hc:=hbx.cell;have HK:=qI hK;have hDA:=hD;generalize hgg:(ed us qs most (ez qs.length qs.length)).2=g at *;have HN:=qI (GH _ (qs.take g) W HPW.out (by rw [Qu];omega));clear hbx hbut hb9 hbW hseq HCV HX10 HX11 HXS hgg HL9 HK
  gi_wp2_with fail
  refine ⟨trivial,(callsIn_wide.2 HN.out).mono ?_⟩;rintro e w9 ⟨⟨v9,rfl,ht9⟩,hb9⟩;have hK9:w9.heap[D]?=some (.deferred (some [])):=(hb9.block D (gS hK).1).trans hK;have HT9:=qI ht9.read;have HB9:=qI (HBW.out.trans (hb9.mono HBW.out.size));have hwD:w.heap.size<=D:=by have:=HB4.out.size;omega
  clear ht9 hb9 hK HN hc
  gi_wp2_with fail
  refine ⟨by simp,.inl ⟨_,_,rfl,run_takeDeferred hK9,?_⟩⟩;exact ⟨_,results_tmp rfl _ _ _,⟨_,qs,g,rfl,IT HT9.out _ hK9 rfl,HS.out,HLS.out⟩,HB9.out.trans (belowK_b (w:=w) (lR) _ D _ _ hwD hK9 rfl rfl)⟩
 case stop=>exact λ_ _ _ _ _ _ h _=>h.elim
end
