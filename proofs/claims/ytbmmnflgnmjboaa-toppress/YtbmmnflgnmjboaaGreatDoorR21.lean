import Derived.Test.YtbmmnflgnmjboaaGreatDoorR17
import Derived.Test.YtbmmnflgnmjboaaGreatDoorR12
set_option maxRecDepth 100000
set_option maxHeartbeats 16000000
open Go.Proofs.Tryz
namespace Go.Proofs.YtbmmnflgnmjboaaGreatDoor
section
open RowKit
open Qos (Nd nd aH Tot)
theorem Ku (v:Value) (us:List Nd) (s:ByteArray) (w:World) (h:be w v us):Calls prog 27 #[v,.string s] w λe w'=>e=.returned (.int .i64 (aH us s))/\w'=w:=by
 obtain ⟨ao,c,rfl,hm,hr⟩:=h;have HR:=qI hr;unfold maxLen at hm;clear hr
 go_enter func27,ntmps27
 go_wp2_with fail
 go_loop [5] (λi=>∃ k:Nat,k<=us.length/\i=.int .i64 k/\Hid (∀ j,j<k->(nd us j).kind≠s)) (λi=>us.length - (intOf i).toNat)
 case atStart=>exact ⟨0,by omega,rfl,λj hj=>by omega⟩
 case round=>
  obtain ⟨k,hk,rfl,HA⟩:=hrel
  by_cases hlt:k<us.length
  ·obtain ⟨b,o,rfl,He,Ha⟩:=HR.out (by omega);obtain ⟨c0,c1⟩:=Ha k hlt;have HH:=qI λhe=>Qos.Jl (us:=us) (nm:=s) hlt HA.out he;have HN:=qI (λ(hs:(nd us k).kind≠s)=>(show ∀ j,j<k+1->(nd us j).kind≠s from λj hj=>by
    by_cases e:j=k
    ·subst e;exact hs
    ·exact HA.out j (by omega)))
   clear Ha;generalize nd us k=x at *
   by_cases he:x.kind=s
   ·have HE:=qI (HH.out he);subst he;clear HH HN HA
    go_wp2
    go_ret;exact ⟨by rw [HE.out];rfl,rfl⟩
   ·have Hc:=qI (HN.out he);have hb:(x.kind.toList == s.toList)=false:=by rw [kW];exact Q7 he
    clear HH HN he
    go_wp2_with fail
    go_round
    case rel=>exact ⟨k+1,by omega,by go_num,Hc⟩
    case measure=>simp [intOf];omega
  ·have Hb:k=us.length:=by omega
   subst Hb;have HE:=qI (Qos.Jm HA.out)
   go_wp2
   go_ret;exact ⟨by rw [HE.out];rfl,rfl⟩
theorem yS (h l n:Int) (w:World) (hl0:0<=l) (hl1:l<1073741824) (hh:-17179869184<=h) (hh2:h<=17179869184) (hn:-9223372036854775808<=n) (hn2:n<=9223372036854775807) :
  Calls prog 108 #[.agg #[.int .i64 h,.int .i64 l],.int .i64 n] w λe w'=>e=.returned (.agg #[.int .i64 (h+n / 1073741824+(l+n % 1073741824) / 1073741824),.int .i64 ((l+n) % 1073741824)])/\Below w.heap.size w w':=by
 have e1:=Qos.sT n;have e2:=Qos.sT (l+n % 1073741824);have w1:wrap64 (l+n % 1073741824)=l+n % 1073741824:=by unfold wrap64;omega
 have w2:wrap64 (h+n / 1073741824)=h+n / 1073741824:=by unfold wrap64;omega
 have w3:wrap64 (h+n / 1073741824+(l+n % 1073741824) / 1073741824)=h+n / 1073741824+(l+n % 1073741824) / 1073741824:=by unfold wrap64;omega
 go_enter func108,ntmps108
 go_wp2_with fail
 (try simp only [Exit.inBlock,Exit.then]);refine bodyPost_ret (v:=.agg #[.int .i64 (h+n / 1073741824+(l+n % 1073741824) / 1073741824),.int .i64 ((l+n) % 1073741824)]) ?_ rfl ⟨rfl,?_⟩
 ·rw [ou rfl];clear e1 e2 w1 w2 w3;go_simp
 ·exact ((Q0 _ _).alloc (lR) _).alloc (by simp) _
end
section
open RowKit
open Qos (Nd nd eR)
def Kv (us:List Nd) (e:Ending):Prop:=∃ b,e=.returned (.bool b)/\(b=true->lq us)
def sr (x:Nd):Prop:=x.kind.size<=30/\-1125899906842624<=x.many/\x.many<=1125899906842624
theorem Kw (v:Value) (us:List Nd) (w:World) (h:be w v us):Calls prog 25 #[v] w λe w'=>Kv us e/\w'=w:=by
 obtain ⟨ao,c,rfl,hm,hr⟩:=h;have HR:=qI hr;clear hr hm
 by_cases h20:20<us.length
 ·go_enter func25,ntmps25
  go_wp2
  go_ret;exact ⟨⟨_,rfl,λh=>by cases h⟩,rfl⟩
 have Ha:us.length<=20:=by omega
 clear h20;have hd:decide (20<(us.length:Int))=false:=Q7 (by omega)
 go_enter func25,ntmps25
 go_wp2_with fail
 go_loop [3] (λi=>∃ k:Nat,k<=us.length/\i=.int .i64 k/\Hid (∀ j,j<k->sr (nd us j))) (λi=>us.length - (intOf i).toNat)
 case atStart=>exact ⟨0,by omega,rfl,λj hj=>by omega⟩
 case round=>
  obtain ⟨k,hk,rfl,HA⟩:=hrel
  by_cases hlt:k<us.length
  ·obtain ⟨b,o,rfl,Hf,Hb⟩:=HR.out (by omega);obtain ⟨c0,c1⟩:=Hb k hlt;have HN:=qI (λ(hx:sr (nd us k))=>(show ∀ j,j<k+1->sr (nd us j) from λj hj=>by
    by_cases e:j=k
    ·rw [e];exact hx
    ·exact HA.out j (by omega)))
   clear Hb;generalize nd us k=x at *;have key:30<x.kind.size\/(x.kind.size<=30/\x.many < -1125899906842624)\/(x.kind.size<=30/\-1125899906842624<=x.many/\1125899906842624<x.many)\/(x.kind.size<=30/\-1125899906842624<=x.many/\x.many<=1125899906842624):=by omega
   rcases key with h1|⟨h1,h2⟩|⟨h1,h2,h3⟩|⟨h1,h2,h3⟩
   ·go_wp2
    go_ret;exact ⟨⟨_,rfl,λh=>by cases h⟩,rfl⟩
   ·go_wp2
    go_ret;exact ⟨⟨_,rfl,λh=>by cases h⟩,rfl⟩
   ·go_wp2
    go_ret;exact ⟨⟨_,rfl,λh=>by cases h⟩,rfl⟩
   ·have He:=qI (HN.out ⟨h1,h2,h3⟩)
    go_wp2_with fail
    go_round
    case rel=>exact ⟨k+1,by omega,by go_num,He⟩
    case measure=>simp [intOf];omega
  ·have Hc:k=us.length:=by omega
   subst Hc
   go_wp2
   go_ret;exact ⟨⟨_,rfl,λ_=>⟨Ha,λj hj=>⟨(HA.out j hj).2.1,(HA.out j hj).2.2⟩,λj hj=>(HA.out j hj).1⟩⟩,rfl⟩
end
section
open RowKit
open Qos (Nd nd aH Tot orI)
theorem Kx (a b:Int) (g n:Nat) (w:World) (h0:w.cell? ⟨g,0,none⟩=some (.int .i64 a)) (h1:w.cell? ⟨g,1,none⟩=some (.int .i64 b)) :
  Calls prog 76 #[.slice (some ⟨g,0,none⟩) 2 n] w λe w'=>e=.returned (.int .i64 (orI a b))/\w'=w:=by
 have HO:Hid (∀ k:Nat,k<2->∃ v:Int,w.cell? ⟨g,k,none⟩=some (.int .i64 v)/\(v=if k=0 then a else b)):=by
  intro k hk
  have:k=0\/k=1:=by omega
  rcases this with rfl|rfl
  ·exact ⟨a,h0,rfl⟩
  ·exact ⟨b,h1,rfl⟩
 clear h0 h1
 go_enter func76,ntmps76
 go_wp2_with fail
 go_loop [8] (λi=>∃ k:Nat,k<=2/\i=.int .i64 k/\Hid ((0<k->a=0)/\(1<k->b=0))) (λi=>2 - (intOf i).toNat)
 case atStart=>exact ⟨0,by omega,rfl,⟨λh=>by omega,λh=>by omega⟩⟩
 case round=>
  obtain ⟨k,hk,rfl,HZ⟩:=hrel
  by_cases hlt:k<2
  ·obtain ⟨v,hc,hv⟩:=HO.out k hlt;have HV:=qI hv;clear hv
   by_cases h0:v=0
   ·subst h0;have Hb:Hid ((0<k+1->a=0)/\(1<k+1->b=0)):=by
     obtain ⟨z0,z1⟩:=HZ.out;have hv:=HV.out
     have:k=0\/k=1:=by omega
     rcases this with rfl|rfl
     ·simp at hv;exact ⟨λ_=>hv.symm,λh=>by omega⟩
     ·simp at hv;exact ⟨λ_=>z0 (by omega),λ_=>hv.symm⟩
    go_wp2_with fail
    go_round
    case rel=>exact ⟨k+1,by omega,by go_num,Hb⟩
    case measure=>simp [intOf];omega
   ·have HE:Hid (orI a b=v):=by
     obtain ⟨z0,z1⟩:=HZ.out;have hv:=HV.out
     have:k=0\/k=1:=by omega
     unfold Hid orI
     rcases this with rfl|rfl
     ·simp at hv;subst hv;rw [if_neg h0]
     ·simp at hv;subst hv;rw [if_pos (z0 (by omega))]
    have hb:(v != 0)=true:=by simp [h0]
    go_wp2
    go_ret;exact ⟨by rw [HE.out];rfl,rfl⟩
  ·have Ha:k=2:=by omega
   subst Ha;have HE:Hid (orI a b=0):=by
    obtain ⟨z0,z1⟩:=HZ.out;unfold Hid orI;rw [if_pos (z0 (by omega)),z1 (by omega)]
   go_wp2
   go_ret;exact ⟨by rw [HE.out];rfl,rfl⟩
theorem Ky {h l v h' l' v':Int} (t:Tot h l v) (t':Tot h' l' v'):orI (Lib.compareInt h h') (Lib.compareInt l l')<=0↔v<=v':=by
 rw [<- t.le t'];unfold orI Lib.compareInt;obtain ⟨h1,h2,h3⟩:=t;obtain ⟨g1,g2,g3⟩:=t'
 repeat' split
 all_goals omega
theorem Kz (h l h' l':Int) (w:World):Calls prog 110 #[.agg #[.int .i64 h,.int .i64 l],.agg #[.int .i64 h',.int .i64 l']] w λe w'=>e=.returned (.int .i64 (orI (Lib.compareInt h h') (Lib.compareInt l l')))/\Below w.heap.size w w':=by
 have Hg:=((Q0 w.heap.size w).alloc (lR) (.cells #[.int .i64 h,.int .i64 l] 202)).alloc (by simp) (.cells #[.int .i64 h',.int .i64 l'] 202);have Hf:=qI (dP Hg);have HA:=qI (((bn.made w 202 h l).alloc (.cells #[.int .i64 h',.int .i64 l'] 202)).below (dP (Q0 _ _)));have hC:=(bn.made (w.alloc (.cells #[.int .i64 h,.int .i64 l] 202)) 202 h' l').below (dP (Q0 _ _));rw [show (w.alloc (.cells #[.int .i64 h,.int .i64 l] 202)).heap.size=w.heap.size+1 by simp] at hC;have HC:=qI hC;clear Hg hC
 go_enter func110,ntmps110
 go_wp2_with fail
 refine wp_region_held_drew (S:=(λw'=>w'.cell? ⟨w.heap.size,0,none⟩=some (.int .i64 h)/\w'.cell? ⟨w.heap.size,1,none⟩=some (.int .i64 l)/\w'.cell? ⟨w.heap.size+1,0,none⟩=some (.int .i64 h')/\w'.cell? ⟨w.heap.size+1,1,none⟩=some (.int .i64 l'))) (by kernel_rfl) ⟨HA.out.1.1,HA.out.2.1,HC.out.1.1,HC.out.2.1⟩ λhQ=>?_;refine tk 0 ?_;refine tk 1 ?_;refine tk 2 ?_;refine tk 3 ?_;refine tk 5 ?_;refine tk 6 ?_;refine tk 7 ?_;refine tk 8 ?_;refine rd 4 λK hK=>?_;go_simp
 go_wp2_with fail
 refine (mR _ _ _).mono ?_;rintro e wx ⟨rfl,rfl⟩
 go_wp2
 refine hK.out _ _ ⟨HA.out.1.1,HA.out.2.1,HC.out.1.1,HC.out.2.1⟩ λhQ=>?_;clear hK K;refine rd 9 λK hK=>?_;go_simp
 go_wp2_with fail
 refine (mR _ _ _).mono ?_;rintro e wx ⟨rfl,rfl⟩
 go_wp2
 refine hK.out _ _ ⟨HA.out.1.1,HA.out.2.1,HC.out.1.1,HC.out.2.1⟩ λhQ=>?_;clear hK K;have Ha:=qI (HA.out.alloc (.cells #[.int .i64 (Lib.compareInt h h'),.int .i64 (Lib.compareInt l l')] 3));have Hb:=qI (HC.out.alloc (.cells #[.int .i64 (Lib.compareInt h h'),.int .i64 (Lib.compareInt l l')] 3));have Hh:=qI (Hf.out.alloc Hf.out.size (.cells #[.int .i64 (Lib.compareInt h h'),.int .i64 (Lib.compareInt l l')] 3));have Hc:=bn.made (((w.alloc (.cells #[.int .i64 h,.int .i64 l] 202)).alloc (.cells #[.int .i64 h',.int .i64 l'] 202)).drew) 3 (Lib.compareInt h h') (Lib.compareInt l l');rw [show (((w.alloc (.cells #[.int .i64 h,.int .i64 l] 202)).alloc (.cells #[.int .i64 h',.int .i64 l'] 202)).drew).heap.size=w.heap.size+1+1 by simp [World.drew]] at Hc;have He:=qI Hc;clear Hc;refine rd 10 λK hK=>?_;go_simp
 go_wp2
 refine hK.out _ _ ⟨Ha.out.1.1,Ha.out.2.1,Hb.out.1.1,Hb.out.2.1⟩ λhQ=>?_;clear hK K;refine rd 11 λK hK=>?_;go_simp
 go_wp2_with fail
 refine (Kx (Lib.compareInt h h') (Lib.compareInt l l') _ _ _ He.out.1.1 He.out.2.1).mono ?_;rintro e wx ⟨rfl,rfl⟩
 go_wp2
 refine hK.out _ _ ⟨Ha.out.1.1,Ha.out.2.1,Hb.out.1.1,Hb.out.2.1⟩ λhQ=>?_;clear hK K;refine tk 12 ?_;refine Qn (by kernel_rfl) ?_ _
 go_wp2
 go_ret;exact ⟨rfl,Hh.out⟩
end
section
open RowKit
open Qos (Nd Ct Pd nd ct pd af)
structure Ac where
 kd:ByteArray
 s:ByteArray
 a:Int
 b:Int
 m:Nat
 lv:Value
 p:Pd
 cv:Value
 us:List Nd
 uv:Value
structure NQ (W:World) (x:Ac):Prop where
 l:∃ la ll lc,x.lv=.slice la ll lc
 c:aE W x.cv x.p.cs
 u:be W x.uv x.us
 a:-9223372036854775808<=x.a/\x.a<=9223372036854775807
def ac (xs:List Ac) (k:Nat):Ac:=xs.getD k ⟨ByteArray.empty,ByteArray.empty,0,0,0,.nilIface,⟨ByteArray.empty,0,[]⟩,.nilIface,[],.nilIface⟩
section
variable {H:Type} {enc:TypeId × Value->H} {W:World}
end
def NR (xs:List Ac) (k:Nat):Prop:=∀ j,j<k->lq (ac xs j).us
end
section
open RowKit Shelf
open Qos (Nd Ct Pd pd0 nd ct pd aH eR Tot orI er kr rO xW xY eF rQ cO)
attribute [local go_sem] Oper.semAt_some
theorem yT {W W':World} (h:Below W.heap.size W W'):KeepsOthers W W':=
 ⟨h.size,λk _ hk _=>(h.block k (gS hk).1).trans hk⟩
theorem KA (a:Option Addr) (len cap:Nat) (w:World) :
  Calls prog 109 #[.slice a len cap] w λe w'=>e=.returned (.func (.func 150) #[] #[.pointer (some ⟨w.heap.size,0,none⟩)])/\w'=w.alloc (.cells #[.slice a len cap] 70):=by
 go_enter func109,ntmps109
 go_wp2
 go_ret;exact ⟨rfl,rfl⟩
structure But (B1 B2:Nat) (A W:World):Prop where
 os:W.os=A.os
 tape:W.tape=A.tape
 output:W.output=A.output
 size:A.heap.size<=W.heap.size
 block:∀ k,k<A.heap.size->k≠B1->k≠B2->W.heap[k]?=A.heap[k]?
theorem But.refl (B1 B2:Nat) (A:World):But B1 B2 A A:=⟨rfl,rfl,rfl,lR,λ_ _ _ _=>rfl⟩
theorem But.then {B1 B2:Nat} {A W W':World} (h:But B1 B2 A W) (hb:Below W.heap.size W W'):But B1 B2 A W':=
 ⟨hb.os.trans h.os,hb.tape.trans h.tape,hb.output.trans h.output,Q5 h.size hb.size,λk hk h1 h2=>(hb.block k (Q1 hk h.size)).trans (h.block k hk h1 h2)⟩
theorem But.set {B1 B2:Nat} {A W:World} (h:But B1 B2 A W) (b j:Nat) (v:Value) (hb:b=B1\/b=B2):But B1 B2 A (W.setCell ⟨b,j,none⟩ v):=
 ⟨h.os,h.tape,h.output,Q5 h.size (KeepsWalks.setCell W _ v).size,λk hk h1 h2=>(Below.heap_setCell _ _ _ k (λe=>by rcases hb with rfl|rfl <;> simp_all)).trans (h.block k hk h1 h2)⟩
theorem But.own {β:Type} (B1 B2:Nat) (A:World):OwnFrom A.heap.size (λ(_:β) W=>But B1 B2 A W):=λ_ W W' row h hg hr=>
 ⟨hg.os.trans h.os,hg.tape.trans h.tape,hg.output.trans h.output,Q5 h.size hg.size,λk hk h1 h2=>(hg.block k (Q1 hk h.size) (λe=>by have:=(hr k e.symm).1;omega)).trans (h.block k hk h1 h2)⟩
theorem But.below {B1 B2 K:Nat} {A W:World} (h:But B1 B2 A W) (hK:K<=B1) (hK2:K<=B2) (hA:K<=A.heap.size):Below K A W:=
 ⟨h.os,h.tape,h.output,h.size,λk hk=>h.block k (by omega) (by omega) (by omega)⟩
def yU (qs:List Pd) (cv:Nat->Value) (x:Nat):Array Value:=#[.int .i64 (x:Int),.agg #[.string (pd qs x).nm,.int .i64 (pd qs x).pr,cv x]]
theorem KB (F:Fence) (n:Nat) (h7:F.fn 150) (hro:F.round=none) (l Bs:Nat) (qa:Option Addr) (qc:Nat) (J:List Nat->World->Prop)
  (W:World) (hBs:W.cell? ⟨Bs,0,none⟩=some (.slice qa 0 qc)) (h0:J [] W) :
  CallsIn F n prog 150 #[.func (.yield l) #[] #[],.pointer (some ⟨Bs,0,none⟩)] W λe W'=>(∃ v,e=.returned v)/\J [] W':=by
 refine callsIn_of_wp func150 rfl h7 ?_ hro;simp only [ntmps150,List.size_toArray,Qg,List.length_nil,Nat.reduceAdd,Nat.reduceSub,Array.replicate_succ,Array.replicate_zero,List.push_toArray,List.append_toArray,List.nil_append,List.cons_append]
 gi_wp2
 gi_loopw [3] (λi wr=>i=.int .i64 (-1)/\J [] wr) λ_ _=>0
 case atStart=>exact ⟨rfl,h0⟩
 case round=>
  obtain ⟨rfl,Ha⟩:=hrel
  gi_wp2
  go_end0
  exact ⟨⟨_,rfl⟩,Ha⟩
theorem KC (F:Fence) (n:Nat) (h7:F.fn 150) (hro:F.round=none) (hn:1<=n) (Bs:Nat) (qa:Option Addr) (qc:Nat) (qs:List Pd) (w0 w:World) (hb:Below w0.heap.size w0 w) (hBs:w.cell? ⟨Bs,0,none⟩=some (.slice qa qs.length qc)) (hBl:Bs<w.heap.size) (hP:du w0 (.slice qa qs.length qc) qs) (hlen:qs.length<=16) :
  ∃ b cv,(b<w0.heap.size\/b=Bs)/\(∀ k,∃ a m c,cv k=.slice a m c)/\
   SeqStopsK F n prog 150 #[.pointer (some ⟨Bs,0,none⟩)] (yU qs cv) (KpB b Bs) (λys=>ys=eF qs.length qs.length) (λ_=>True) qs.length w:=by
 obtain ⟨ao,c,hv,_,hr⟩:=hP;cases hv
 by_cases h0:0<qs.length
 ·obtain ⟨b,o,cv,rfl,Ha⟩:=hr h0;have Hb:ls w b o qs (λk=>if k<qs.length then cv k else .slice none 0 0):=by
   have h1:ls w0 b o qs (λk=>if k<qs.length then cv k else .slice none 0 0):=λk hk=>by
    simp only [if_pos hk];exact (Ha.2 k hk).1
   exact h1.kept (hb.block b Ha.1)
  refine ⟨b,λk=>if k<qs.length then cv k else .slice none 0 0,.inl Ha.1,λk=>?_,λl J Jx W hW _ _ hY h0=>?_⟩
  ·by_cases hk:k<qs.length
   ·simp only [if_pos hk];exact (Ha.2 k hk).2.slice
   ·simp only [if_neg hk];exact ⟨_,_,_,rfl⟩
  ·refine Jr F n h7 hro hn l Bs b o qc qs _ hlen (λk=>?_) J Jx hY W ((hW.cell (p:=⟨Bs,0,none⟩) hBl).trans hBs) (Hb.kept (hW.block b (Q1 Ha.1 hb.size))) h0
   by_cases hk:k<qs.length
   ·simp only [if_pos hk];exact (Ha.2 k hk).2.slice
   ·simp only [if_neg hk];exact ⟨_,_,_,rfl⟩
 ·have Hc:qs.length=0:=by omega
  refine ⟨Bs,λ_=>.slice none 0 0,.inr rfl,λk=>⟨_,_,_,rfl⟩,λl J Jx W hW _ _ hY h0=>?_⟩;refine (KB F n h7 hro l Bs qa qc J W ((hW.cell (p:=⟨Bs,0,none⟩) hBl).trans (by rw [Hc] at hBs;exact hBs)) h0).mono ?_;rintro e W' ⟨he,hj⟩;exact ⟨he,.inl ⟨_,rfl,by rw [Hc];exact hj⟩⟩
theorem eC.own (B:Nat) (x:Pd) (cv:Value):Own (λ(_:Unit) W=>eC W B x cv):=λ_ _ _ _ hs hg hr=>by
 obtain ⟨h0,h1,h2,h3⟩:=hs;exact ⟨Q1 h0 hg.size,cell_kept h1 hg hr,cell_kept h2 hg hr,cell_kept h3 hg hr⟩
theorem su {w:World} {B:Nat} {m b:Int} (h:bn w B m b) (g j:Nat) (v:Value) (hne:B≠g):bn (w.setCell ⟨g,j,none⟩ v) B m b:=by
 have hh:=Below.heap_setCell w ⟨g,j,none⟩ v B hne;obtain ⟨⟨c0,f0⟩,⟨c1,f1⟩⟩:=h;exact ⟨⟨(World.cell?_of_block (a:=⟨B,0,none⟩) hh).trans c0,(World.frozen?_of_block (a:=⟨B,0,none⟩) hh).trans f0⟩,⟨(World.cell?_of_block (a:=⟨B,1,none⟩) hh).trans c1,(World.frozen?_of_block (a:=⟨B,1,none⟩) hh).trans f1⟩⟩
theorem yV {w:World} {B:Nat} {t:TypeId} {u:Value} (h:Boxed w B t u) (g j:Nat) (v:Value) (hne:B≠g):Boxed (w.setCell ⟨g,j,none⟩ v) B t u:=
 (Below.heap_setCell w ⟨g,j,none⟩ v B hne).trans h
theorem KD {qs:List Pd} (h:ks qs) (x:Nat):(pd qs x).nm.size<=1000:=by
 by_cases hx:x<qs.length
 ·have:=(h.2 qs[x] (List.getElem_mem hx)).2
  simp [pd,hx]
  exact this
 ·simp [pd,hx,pd0]
theorem KE {w:World} {qa:Option Addr} {qc:Nat} {qs:List Pd} (h:du w (.slice qa qs.length qc) qs) {g:Nat} (hg:g<=qs.length):du w (.slice qa g qc) (qs.take g):=by
 obtain ⟨ao,c,hv,hm,hr⟩:=h;cases hv;have hl:(qs.take g).length=g:=by rw [Qu];omega
 refine ⟨qa,qc,by rw [hl],by omega,λh0=>?_⟩;obtain ⟨b,o,cv,ha,Ha,hc⟩:=hr (by omega);refine ⟨b,o,cv,ha,Ha,λk hk=>?_⟩;rw [hl] at hk;have e:pd (qs.take g) k=pd qs k:=by simp [pd,hk]
 rw [e];exact hc k (by omega)
theorem KF {w:World} {v:Value} {l:List ByteArray} (h:mW w v l) {D:Nat} {o:Obj} (o':Obj) (hD:w.heap[D]?=some o) (ho:o.isCells=false):mW (w.putObj D o') v l:=by
 obtain ⟨ao,c,hv,hc,hr⟩:=h;refine ⟨ao,c,hv,hc,λh0=>?_⟩;obtain ⟨g,ha,Ha,Hb⟩:=hr h0;exact ⟨g,ha,Q1 Ha (grownBy_putObj' w D o').size,λk hk=>cell_kept (Hb k hk) (grownBy_putObj' w D o') (λr e=>by cases e;exact ⟨_,hD,ho⟩)⟩
theorem yW {h l v n:Int} (t:Tot h l v):Tot (h+n / 1073741824+(l+n % 1073741824) / 1073741824) ((l+n) % 1073741824) (v+n):=by
 obtain ⟨h1,h2,h3⟩:=t;exact ⟨by omega,by omega,by omega⟩
theorem KH (v uv:Value) (ps:List Pd) (us:List Nd) (most:Int) (w:World) (h:du w v ps) (hu:be w uv us) (hf:ks ps) (hfu:lq us) (hm1:-9223372036854775808<=most) (hm2:most<=9223372036854775807) :
  Calls prog 61 #[v,uv,.int .i64 most] w λe w'=>(∃ v' qs g,e=.returned v'/\mW w' v' ((qs.take g).map Pd.nm)/\oZ us ps qs/\cO us qs most 0 g)/\Below w.heap.size w w':=by
 have HU:=qI (Jp uv us w hu hfu);have HP:=qI h;obtain ⟨ao,c,rfl,_,_⟩:=h;obtain ⟨ao2,c2,rfl,_,_⟩:=hu;refine (callsIn_wide (n:=3)).1 ?_;refine callsIn_of_wp_marks func61 rfl trivial ?_ rfl;simp only [ntmps61,List.size_toArray,Qg,List.length_nil,Nat.reduceAdd,Nat.reduceSub,Array.replicate_succ,Array.replicate_zero,List.push_toArray,List.append_toArray,List.nil_append,List.cons_append]
 gi_wp2_with fail
 refine ⟨trivial,(callsIn_wide.2 HU.out).mono ?_⟩;rintro e w1 ⟨⟨n,rfl,hm⟩,HE⟩;have hY:=qI HE;have H7:=(Q0 w1.heap.size w1).alloc (lR) (.cells #[.map (some w.heap.size)] 198);have HG:=qI (HE.trans (H7.mono HE.size));have HH:=qI (hm.alloc (.cells #[.map (some w.heap.size)] 198));have hn:=qI (Boxed.new w1 198 (.map (some w.heap.size)));have h7:(w1.alloc (.cells #[.map (some w.heap.size)] 198)).heap.size=w1.heap.size+1:=by simp
 have HO:=qI (JG _ ps w.heap.size n us _ (HP.out.below HG.out) hf HH.out hfu.2.1);have hR:(w1.alloc (.cells #[.map (some w.heap.size)] 198)).cell? ⟨w1.heap.size,0,none⟩=some (.map (some w.heap.size)):=by simp
 have hI:w.heap.size<w1.heap.size:=hm.lt;clear hm HE H7 HU
 gi_wp2_with fail
 generalize w1.alloc (.cells #[.map (some w.heap.size)] 198)=W2 at *;refine ⟨trivial,(callsIn_wide.2 HO.out).mono ?_⟩;rintro e w3 ⟨⟨v3,qs,rfl,hq,hs,Hz⟩,Hw⟩;have HY:=qI (HG.out.trans (Hw.mono HG.out.size));have HV:=qI (HH.out.below Hw HH.out.lt);have hz:=qI (show Boxed w3 w1.heap.size 198 (.map (some w.heap.size)) from (Hw.block _ (by omega)).trans hn.out);have HS:=qI hs;have HQ:=qI hq;have hO:qs.length<=16:=by rw [hs.1.length_eq];exact hf.1
 have hN:=Hw.size;obtain ⟨qa,qc,rfl,_,_⟩:=hq;have hU:qs.length<=qc:=by obtain ⟨_,_,_,e,hle⟩:=Hz;cases e;exact hle
 clear Hz;have Hv:=qI (yS 0 0 most w3 (by omega) (by omega) (by omega) (by omega) hm1 hm2);clear Hw hs HO HG HH hn hR
 gi_wp2_with fail
 refine ⟨trivial,(callsIn_wide.2 Hv.out).mono ?_⟩;rintro e w4 ⟨rfl,Hs⟩;have hv:=qI (yW (n:=most) Tot.zero);have H4:=qI (HY.out.trans (Hs.mono HY.out.size));have hL:=qI (HV.out.below Hs HV.out.lt);have hM:=qI (show Boxed w4 w1.heap.size 198 (.map (some w.heap.size)) from (Hs.block _ (by omega)).trans hz.out);have hp:=qI (HQ.out.below Hs);have hF:=Hs.size;clear Hs HY HV hz Hv;generalize (0:Int)+most / 1073741824+(0+most % 1073741824) / 1073741824=LH at *;generalize ((0:Int)+most) % 1073741824=LL at *
 gi_wp2_with fail
 refine ⟨trivial,(callsIn_wide.2 (KA _ _ _ _)).mono ?_⟩;rintro e w8 ⟨rfl,rfl⟩;have a1:=(Q0 w4.heap.size w4).alloc (lR) (.cells #[.int .i64 LH,.int .i64 LL] 202);have a2:=a1.alloc (by simp) (.cells #[.int .i64 (qs.length:Int)] 3);have a3:=a2.alloc (by simp;omega) (.cells #[.int .i64 0,.int .i64 0] 202);have HI:=qI (a3.alloc (by simp;omega) (.cells #[.slice qa qs.length qc] 70));have hy:=qI (((bn.made w4 202 LH LL).alloc (.cells #[.int .i64 (qs.length:Int)] 3)).alloc (.cells #[.int .i64 0,.int .i64 0] 202) |>.alloc (.cells #[.slice qa qs.length qc] 70));have Hm:=((Boxed.new (w4.alloc (.cells #[.int .i64 LH,.int .i64 LL] 202)) 3 (.int .i64 (qs.length:Int))).alloc (.cells #[.int .i64 0,.int .i64 0] 202)).alloc (.cells #[.slice qa qs.length qc] 70);have Hk:=(bn.made ((w4.alloc (.cells #[.int .i64 LH,.int .i64 LL] 202)).alloc (.cells #[.int .i64 (qs.length:Int)] 3)) 202 0 0).alloc (.cells #[.slice qa qs.length qc] 70);have HR:=Boxed.new (((w4.alloc (.cells #[.int .i64 LH,.int .i64 LL] 202)).alloc (.cells #[.int .i64 (qs.length:Int)] 3)).alloc (.cells #[.int .i64 0,.int .i64 0] 202)) 70 (.slice qa qs.length qc);have h6:((((w4.alloc (.cells #[.int .i64 LH,.int .i64 LL] 202)).alloc (.cells #[.int .i64 (qs.length:Int)] 3)).alloc (.cells #[.int .i64 0,.int .i64 0] 202)).alloc (.cells #[.slice qa qs.length qc] 70)).heap.size=w4.heap.size+1+1+1+1:=by simp
 simp only [World.size_alloc] at Hm Hk HR;have Hp:=qI Hm;have Hq:=qI Hk;have H3:=qI HR;clear a1 a2 a3 Hm Hk HR
 gi_wp2_with fail
 generalize ((((w4.alloc (.cells #[.int .i64 LH,.int .i64 LL] 202)).alloc (.cells #[.int .i64 (qs.length:Int)] 3)).alloc (.cells #[.int .i64 0,.int .i64 0] 202)).alloc (.cells #[.slice qa qs.length qc] 70))=A at *;obtain ⟨b,cv,hb,H9,Hl⟩:=KC Fence.wide (3 - 1) trivial rfl (by omega) (w4.heap.size+1+1+1) qa qc qs w4 A HI.out H3.out.cell (by omega) hp.out hO;have HB:=qI H9;have hw:b<A.heap.size:=by rcases hb with hb|hb <;> omega
 have HD:b≠w4.heap.size+1/\b≠w4.heap.size+1+1:=by rcases hb with hb|hb <;> omega
 clear H9 hb;refine wpIn_rangeFunc_ownH (α:=Nat) rfl (by omega) (gf:=150) (lb:=#[.pointer (some ⟨w4.heap.size+1+1+1,0,none⟩)]) rfl trivial (enters_of func150 (by kernel_rfl) rfl)
  Hl (λh k=>KpB.trans h k) (λW l o o' hl hW h1 h2=>⟨World.putObj_heap_other (by omega),World.putObj_heap_other (by omega)⟩) (Q0 _ _) (λ_=>rfl)
  (λpre W=>(∃ h l,bn W (w4.heap.size+1+1) h l/\Tot h l (er us qs most pre).1)/\Boxed W (w4.heap.size+1) 3 (.int .i64 ((er us qs most pre).2:Int))/\But (w4.heap.size+1) (w4.heap.size+1+1) A W)
  (λ_ _ _=>False)
  (λs W W' row hs hg hr=>by
   obtain ⟨⟨h,l,ht,hT⟩,Hh,Ha⟩:=hs;exact ⟨⟨h,l,ht.kept hg (λe=>by have:=(hr _ e.symm).1;omega),hT⟩,Hh.kept hg (λe=>by have:=(hr _ e.symm).1;omega),But.own _ _ A s W W' row Ha hg hr⟩)
  (λ_ _ _ _ _ hs _ _=>hs)
  ⟨⟨0,0,Hq.out,Tot.zero⟩,Hp.out,But.refl _ _ _⟩
  (λx a' W=>∃ Bx,A.heap.size<=Bx/\eC W Bx (pd qs x) (cv x)/\a'={ tmps:=#[Value.slice ao ps.length c,Value.slice ao2 us.length c2,Value.int IntKind.i64 most,undef,undef,undef,Value.slice none 0 0,Value.pointer (some { block:=w1.heap.size,off:=0 }),Value.slice qa qs.length qc,Value.pointer (some { block:=w4.heap.size,off:=0 }),Value.pointer (some { block:=w4.heap.size+1,off:=0 }),Value.pointer (some { block:=w4.heap.size+1+1,off:=0 }),.int .i64 (x:Int),.pointer (some ⟨Bx,0,none⟩),Value.slice ao2 us.length c2,Value.map (some w.heap.size),Value.slice ao ps.length c,Value.map (some w.heap.size),Value.slice qa qs.length qc,Value.agg #[Value.int IntKind.i64 0,Value.int IntKind.i64 0],Value.int IntKind.i64 most,Value.agg #[Value.int IntKind.i64 LH,Value.int IntKind.i64 LL],Value.slice qa qs.length qc,Value.int IntKind.i64 (qs.length:Int),Value.agg #[Value.int IntKind.i64 0,Value.int IntKind.i64 0],Value.slice qa qs.length qc,Value.func (Fn.func 150) #[] #[Value.pointer (some { block:=w4.heap.size+1+1+1,off:=0 })],.int .i64 (x:Int),.agg #[.string (pd qs x).nm,.int .i64 (pd qs x).pr,cv x],undef,undef,undef,undef,undef,undef,undef,undef,undef,undef,undef,undef,undef,undef,undef],defers:=[] })
  (λx a'=>Own.from (λu W W' row hs hg hr=>by
   obtain ⟨Bx,h1,h2,h3⟩:=hs;exact ⟨Bx,h1,eC.own Bx _ _ u W W' row h2 hg hr,h3⟩) _) ?assign ?body ?done ?stop
 case assign=>
  rintro l pre x W K ⟨⟨h,l',ht,hT⟩,Hh,Ha⟩ hK;obtain ⟨ca,cm,cc,Hr⟩:=HB.out x;have HK:=qI hK;have hP:=Ha.size;clear hK;unfold yU;rw [Hr]
  gi_wp2_with fail
  refine HK.out _ _ ((KeepsOthers.alloc _ _).from _) ⟨Below.heap_alloc _ _ _ (by omega),Below.heap_alloc _ _ _ (by omega)⟩ ⟨⟨h,l',ht.alloc _,hT⟩,Hh.alloc _,Ha.then ((Q0 _ _).alloc (lR) _)⟩ ⟨W.heap.size,hP,?_,?_⟩
  ·rw [Hr];exact eC.made W (pd qs x) _
  ·rw [Hr]
 case body=>
  rintro l pre x a' W hl ⟨r,hr⟩ ⟨⟨h,l',ht,hT⟩,Hh,Ha⟩ ⟨Bx,h0,H8,rfl⟩ hV;obtain ⟨ca,cm,cc,Hr⟩:=HB.out x;rw [Hr] at H8 ⊢;have HZ:=xW hfu.2.1 qs most (pre:=pre) (by omega);have hH:=Qos.mS hfu.2.1 (pd qs x).nm;have HM:=hT.high HZ.1 HZ.2;have He:=Ha.below (K:=w4.heap.size+1) (lR) (by omega) (by omega);have hC:W.cell? ⟨w1.heap.size,0,none⟩=some (.map (some w.heap.size)):=(He.cell (p:=⟨w1.heap.size,0,none⟩) (by show w1.heap.size<_;omega)).trans ((HI.out.cell (p:=⟨w1.heap.size,0,none⟩) (by show w1.heap.size<_;omega)).trans hM.out.cell);have hB:=yb ((hL.out.below HI.out (by omega)).below He (by omega)) (pd qs x).nm (KD (hf.perm HS.out.1) x);have HA:=qI (show bn W w4.heap.size LH LL from by
   obtain ⟨⟨c0,f0⟩,⟨c1,f1⟩⟩:=hy.out;have hh:=He.block w4.heap.size (by omega);exact ⟨⟨(World.cell?_of_block (a:=⟨w4.heap.size,0,none⟩) hh).trans c0,(World.frozen?_of_block (a:=⟨w4.heap.size,0,none⟩) hh).trans f0⟩,⟨(World.cell?_of_block (a:=⟨w4.heap.size,1,none⟩) hh).trans c1,(World.frozen?_of_block (a:=⟨w4.heap.size,1,none⟩) hh).trans f1⟩⟩)
  have Hx:=qI (rO us qs most pre x);have H0:=qI (yW (n:=aH us (pd qs x).nm) hT);have HL:=qI Hh;have Hf:=qI Ha;have HT:=qI ht;obtain ⟨_,p0,p1,p2⟩:=H8;obtain ⟨⟨t0,f0⟩,⟨t1,f1⟩⟩:=ht;have Hv:=qI (yS h l' (aH us (pd qs x).nm) W hT.1 hT.2.1 HM.1 HM.2 (by omega) (by omega));unfold kr at Hx;generalize hgr:er us qs most pre=st at *;generalize aH us (pd qs x).nm=US at *;generalize (pd qs x).nm=nmx at *;generalize (pd qs x).pr=prx at *;clear HZ hH HM hT Hh Ha He hgr Hr HB Hl Hq Hp H3
  gi_wp2_with fail
  refine ⟨trivial,(CallsIn.inRound l (callsIn_wide.2 Hv.out)).mono ?_⟩;rintro e w5 ⟨rfl,Ho⟩;have H6:=qI ((yT Ho).from A.heap.size);have Hi:=qI (Hf.out.then Ho);have HF:=qI (HT.out.below Ho);have hk:=qI (HA.out.below Ho);have Hu:=qI (show Boxed w5 (w4.heap.size+1) 3 (.int .i64 (st.2:Int)) from (Ho.block _ HL.out.lt).trans HL.out);obtain ⟨⟨s0,z0⟩,⟨s1,z1⟩⟩:=HT.out.below Ho;clear Ho Hv t0 t1 f0 f1 p0 p1 p2 hB hC HT HL;generalize h+US / 1073741824+(l'+US % 1073741824) / 1073741824=H2 at *;generalize (l'+US) % 1073741824=L2 at *;have HX:=qI ((HF.out.set0 H2).set1 L2);have ho:=qI (su (su hk.out (w4.heap.size+1+1) 0 (.int .i64 H2) (by omega)) (w4.heap.size+1+1) 1 (.int .i64 L2) (by omega));have Hn:=qI (yV (yV Hu.out (w4.heap.size+1+1) 0 (.int .i64 H2) (by omega)) (w4.heap.size+1+1) 1 (.int .i64 L2) (by omega));have Hj:=qI ((Hi.out.set (w4.heap.size+1+1) 0 (.int .i64 H2) (.inr rfl)).set (w4.heap.size+1+1) 1 (.int .i64 L2) (.inr rfl));have he:=qI ((H6.out.trans ((KeepsOthers.setCell w5 ⟨w4.heap.size+1+1,0,none⟩ (.int .i64 H2)).from _)).trans ((KeepsOthers.setCell (w5.setCell ⟨w4.heap.size+1+1,0,none⟩ (.int .i64 H2)) ⟨w4.heap.size+1+1,1,none⟩ (.int .i64 L2)).from _));have z1':(w5.setCell ⟨w4.heap.size+1+1,0,none⟩ (.int .i64 H2)).frozen? ⟨w4.heap.size+1+1,1,none⟩=false:=(HF.out.set0 H2).2.2;have s1':=(HF.out.set0 H2).2.1;obtain ⟨⟨q0,_⟩,⟨q1,_⟩⟩:=HX.out;obtain ⟨⟨r0,_⟩,⟨r1,_⟩⟩:=ho.out;have HC:=qI (Kz H2 L2 LH LL ((w5.setCell ⟨w4.heap.size+1+1,0,none⟩ (.int .i64 H2)).setCell ⟨w4.heap.size+1+1,1,none⟩ (.int .i64 L2)));have HJ:=qI (Ky H0.out hv.out);clear HA Hi H6 HF hk Hu hv
  gi_wp2_with fail
  refine ⟨trivial,(CallsIn.inRound l (callsIn_wide.2 HC.out)).mono ?_⟩;clear s0 z0 s1 z1 z1' s1' q0 q1 r0 r1 HC ho;generalize (w5.setCell ⟨w4.heap.size+1+1,0,none⟩ (.int .i64 H2)).setCell ⟨w4.heap.size+1+1,1,none⟩ (.int .i64 L2)=W6 at *;rintro e w7 ⟨rfl,Ht⟩;have H5:=qI (he.out.trans ((yT Ht).from _));have Hb:=qI (Hj.out.then Ht);have ha:=qI (HX.out.below Ht);have Hg:Boxed w7 (w4.heap.size+1) 3 (.int .i64 (st.2:Int)):=(Ht.block _ Hn.out.lt).trans Hn.out;have Hy:=qI Hg;have h5:=Hg.cell;have h4:=Hg.frozen;have hx:=qI (λW' (Ha:But (w4.heap.size+1) (w4.heap.size+1+1) A W')=>(show KpB b (w4.heap.size+1+1+1) W W' from
   ⟨(Ha.block b hw HD.1 HD.2).trans (Hf.out.block b hw HD.1 HD.2).symm,(Ha.block (w4.heap.size+1+1+1) (by omega) (by omega) (by omega)).trans (Hf.out.block (w4.heap.size+1+1+1) (by omega) (by omega) (by omega)).symm⟩))
  clear Ht Hg he Hj HX Hn Hf
  by_cases hm:st.1+US<=most
  ·have hle:=HJ.out.2 (by omega);have Hc:=qI (show er us qs most (pre++[x])=(st.1+US,x) by rw [Hx.out,if_pos hm]);clear HJ Hx hm;generalize orI (Lib.compareInt H2 LH) (Lib.compareInt L2 LL)=cc at *
   gi_wp2_with fail
   exact ⟨H5.out.trans ((KeepsOthers.setCell _ _ _).from _),hx.out _ (Hb.out.set (w4.heap.size+1) 0 _ (.inl rfl)),⟨H2,L2,su ha.out _ _ _ (by omega),by rw [Hc.out];exact H0.out⟩,by rw [Hc.out];exact Hy.out.set _,Hb.out.set (w4.heap.size+1) 0 _ (.inl rfl)⟩
  ·have hZ:0<orI (Lib.compareInt H2 LH) (Lib.compareInt L2 LL):=by
    refine Int.not_le.1 λhc=>hm ?_
    have:=HJ.out.1 hc
    omega
   have Hc:=qI (show er us qs most (pre++[x])=(st.1+US,st.2) by rw [Hx.out,if_neg hm]);clear HJ Hx hm;generalize orI (Lib.compareInt H2 LH) (Lib.compareInt L2 LL)=cc at *
   gi_wp2_with fail
   exact ⟨H5.out,hx.out _ Hb.out,⟨H2,L2,ha.out,by rw [Hc.out];exact H0.out⟩,by rw [Hc.out];exact Hy.out,Hb.out⟩
 case done=>
  rintro D xs W hD rfl ⟨_,Hh,Ha⟩ hK;have hA:=qI (xY us qs most);have hg:=hA.out.hi;have He:=Ha.below (K:=w4.heap.size+1) (lR) (by omega) (by omega);have H1:Below w4.heap.size w4 W:=HI.out.trans (He.mono (by omega));have hi:=qI (H4.out.trans (H1.mono H4.out.size));have hS:=qI (KE (hp.out.below H1) hg);have hc:=Hh.cell;have HK:=qI hK;have hX:=hD;generalize hgg:(er us qs most (eF qs.length qs.length)).2=g at *;have HN:=qI (JA _ (qs.take g) W hS.out (by rw [Qu];omega));clear Hh Ha He H1 Hl HB Hp Hq H3 hgg hy HK
  gi_wp2_with fail
  refine ⟨trivial,(callsIn_wide.2 HN.out).mono ?_⟩;rintro e w9 ⟨⟨v9,rfl,hj⟩,He⟩;have HW:w9.heap[D]?=some (.deferred (some [])):=(He.block D (gS hK).1).trans hK;have hJ:=qI hj.read;have hG:=qI (hi.out.trans (He.mono hi.out.size));have hE:w.heap.size<=D:=by have:=H4.out.size;omega
  clear hj He hK HN hc
  gi_wp2_with fail
  refine ⟨by simp,.inl ⟨_,_,rfl,run_takeDeferred HW,?_⟩⟩;exact ⟨_,results_tmp rfl _ _ _,⟨_,qs,g,rfl,KF hJ.out _ HW rfl,HS.out,hA.out⟩,hG.out.trans (belowK_b (w:=w) (lR) _ D _ _ hE HW rfl rfl)⟩
 case stop=>exact λ_ _ _ _ _ _ h _=>h.elim
end
