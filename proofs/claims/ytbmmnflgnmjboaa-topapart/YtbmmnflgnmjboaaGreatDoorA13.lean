import Derived.Test.YtbmmnflgnmjboaaGreatDoorA12
set_option maxRecDepth 100000
set_option maxHeartbeats 16000000
namespace Go.Proofs.YtbmmnflgnmjboaaGreatDoor
section
open RowKit Shelf
open Ost (dL)
open Qos (Nd Ct Pd nd ct pd)
open Sv (Gv Hd gv hd wd)
open S1 (Mx)
attribute [local go_sem] Oper.semAt_some
end
section
open RowKit
open Qos (Nd Ct Pd nd ct pd)
open Sv (Gv Hd gv hd fi eJ body aI cU aE OkH OkL)
open S1 (Tab)
def iU (hs:List Hd):Value:=if aE hs=0 then .tuple #[.string ⟨(aI hs).toArray⟩,.nilIface] else .tuple #[.string ⟨#[]⟩,ar (aE hs:Nat)]
theorem G2 (hs:List Hd) (k:Nat):eJ hs (k+1)=eJ hs k++fi (hd hs k):=rfl
theorem pH (v:Value) (hs:List Hd) (w:World) (h:aQ w v hs) (ht:bH w):Calls Tryz.prog 97 #[v] w λe w'=>e=.returned (iU hs)/\Below w.heap.size w w':=by
 have Hm:=qI (Ft v hs w h)
 by_cases hf:aE hs=0
 ·have HE:Hid (iU hs=.tuple #[.string ⟨(aI hs).toArray⟩,.nilIface]):=by unfold Hid iU;rw [if_pos hf]
  have Hh:=Sv.qF hf h.cps;have e0:ar ((aE hs:Nat):Int)=.nilIface:=by rw [hf];rfl
  have HH:=qI h;have HT:=qI ht;have HO:=qI Hh;obtain ⟨ao,c,rfl,hm,_⟩:=h;have HI:=Hh.1;unfold maxLen at hm;have HJ:Hid (aI hs=body hs++cU (body hs)):=rfl;have Hw:Hid (body hs=eJ hs hs.length):=rfl;have Hf:=qI (Sv.vL Hh);have Hv:=qI (Sv.mj (body hs));clear ht Hh
  go_enter Tryz.func97,Tryz.ntmps97
  go_wp2_with fail
  refine Hm.out.mono ?_;rintro e w1 ⟨rfl,He⟩;rw [e0];have Ht:=qI He;have HD:=qI (He.alloc He.size (.cells #[.pointer none,.slice none 0 0] 237));have HN:=qI (wI w1);have HC:Hid (w1.heap.size<=(w1.alloc (.cells #[.pointer none,.slice none 0 0] 237)).heap.size):=by unfold Hid;simp
  clear He Hm
  go_wp2
  go_loopw [16] (λi wr=>∃ k:Nat,k<=hs.length/\i=.int .i64 k/\Below w.heap.size w wr/\gW w1.heap.size w1.heap.size (eJ hs k) wr/\Hid (w1.heap.size<=wr.heap.size)) (λi _=>hs.length - (intOf i).toNat)
  case atStart=>exact ⟨0,Nat.zero_le _,rfl,HD.out,HN.out,HC⟩
  case round=>
   obtain ⟨k,hk,rfl,hB,Ha,HZ⟩:=hrel
   by_cases hlt:k<hs.length
   ·obtain ⟨_,_,hv,_,hr⟩:=HH.out.below hB;cases hv;obtain ⟨b,o,cv,gvv,rfl,Hp⟩:=hr (by omega);obtain ⟨c0,c1,c2,c3⟩:=Hp.at hlt;obtain ⟨_,hC,hG⟩:=Hp.2 k hlt;have Hb:=qI ((Q0 wr.heap.size wr).alloc (lR) (.cells #[.string (hd hs k).pod.nm,.int .i64 (hd hs k).pod.pr,cv k,gvv k] 57));have Ho:=qI (hB.trans (Hb.out.mono hB.size));have Hq:=qI (Ha.below Hb.out);have oh:=HO.out.2 _ (Sv.kb hlt);have Hx:=qI (GY (hd hs k) (cv k) (gvv k) wr.heap.size _ (hC.below Hb.out) (by simp) (hG.below Hb.out) oh (HT.out.below Ho.out));unfold bV at Hx;have HR:=Sv.vK oh;have Hu:=Hf.out k hk;have HM:=qI (G2 hs k);obtain ⟨ca,cc,HB⟩:=hC.sl;obtain ⟨ga,gc,HG⟩:=hG.sl;clear Hp hC hG hB Ha oh hr Hf;generalize eJ hs k=BT at *;generalize fi (hd hs k)=PT at *;generalize (hd hs k).pod.nm=nm at *;generalize (hd hs k).pod.pr=pr at *;generalize (hd hs k).pod.cs.length=cl at *;generalize (hd hs k).gs.length=gl at *;generalize cv k=cvk at *;generalize gvv k=gvk at *;subst HB HG;have HK:BT.length+PT.length<=1000000:=by omega
    go_wp2_with fail
    refine Hx.out.mono ?_;rintro e W1 ⟨rfl,Hg⟩;have Hi:=qI (Ho.out.trans (Hg.mono Ho.out.size));have Hk:=qI (Hq.out.below Hg);have Hy:w1.heap.size<=W1.heap.size:=Q5 HZ.out (Q5 Hb.out.size Hg.size);clear Hg
    go_wp2_with fail
    refine (ry _ _ _ _ _ Hk.out HK Hy).mono ?_;rintro e W5 ⟨rfl,Hc,Hj⟩;have Hz:=qI (Hi.out.trans (Hj.mono Ht.out.size));have HF:=qI (Q5 Hy Hj.size);have Hl:=qI Hc;clear Hc Hj
    go_wp2
    go_roundw
    case rel=>exact ⟨k+1,by omega,by go_num,Hz.out,by rw [HM.out];exact Hl.out,HF⟩
    case measure=>simp [intOf];omega
   ·have HL:k=hs.length:=by omega
    subst HL;have Hu:=Hf.out _ (lR);rw [<- Hw.out] at Ha Hu;have HQ:=Hv.out;have HA:Hid (∀ W,Below w.heap.size w W->Calls Tryz.prog 138 #[.string ⟨(body hs).toArray⟩] W λe w'=>e=.returned (.string ⟨(cU (body hs)).toArray⟩)/\Below W.heap.size W w'):=λW hb=>EX _ W (by omega) (HT.out.below hb).1
    clear Hw Hv Hf;generalize cU (body hs)=ST at *;generalize body hs=BD at *;have ec:=kW BD ST
    go_wp2_with fail
    refine (wJ _ _ _ _ Ha HZ.out).mono ?_;rintro e W1 ⟨rfl,Hs⟩;have Hn:=qI (hB.trans (Hs.mono Ht.out.size));clear Hs hB Ha
    go_wp2_with fail
    refine (HA.out _ Hn.out).mono ?_;rintro e W2 ⟨rfl,Hr⟩;have Hi:=qI (Hn.out.trans (Hr.mono Hn.out.size));clear Hr
    go_wp2
    go_ret2;refine ⟨?_,Hi.out⟩;rw [HE.out,HJ.out,<- ec];rfl
 ·have HE:Hid (iU hs=.tuple #[.string ⟨#[]⟩,ar (aE hs:Nat)]):=by unfold Hid iU;rw [if_neg hf]
  have HP:=qI (ei hf);obtain ⟨ao,c,rfl,hm,_⟩:=h;clear ht
  go_enter Tryz.func97,Tryz.ntmps97
  go_wp2_with fail
  refine Hm.out.mono ?_;rintro e w1 ⟨rfl,hb⟩;rw [HP.out]
  go_wp2
  go_ret2;exact ⟨by rw [HE.out,HP.out];rfl,hb⟩
end
section
open RowKit
theorem wW (B:Nat) (n k:Sd) (v:Value) (l:Int) (d:Bool) (wr:Bool) (bs:ByteArray) (w:World) (h:aG w B n k v l d) (hl:-9223372036854775808<=l/\l<=9223372036854775807) (h0:bw l d=11) :
  Calls Tryz.prog 139 #[.pointer (some ⟨B,0,none⟩),.agg #[.bool wr,.string bs]] w λe w'=>e=.returned (.iface 121 (.int .i64 11))/\aG w' B n k v (aR l d) true/\w.grownBy w' (some B):=by
 have Hg:=h.lt;have Hc:=(Q0 w.heap.size w).alloc (lR) (.cells #[.bool wr,.string bs] 247);have Hf:=h.block (w':=w.alloc (.cells #[.bool wr,.string bs] 247)) (Hc.block B Hg);have Hb:=qI (mn B n k _ l d _ Hf hl);have hF:dS l d=true:=by
  rcases mo l d with ⟨_,e2⟩|⟨e1,_⟩
  ·exact e2
  ·rw [h0] at e1;cases e1
 rw [h0,hF,qS] at Hb;have Ha:=qI Hc;clear h Hf hF h0 Hc Hg
 go_enter Tryz.func139,Tryz.ntmps139
 go_wp2_with fail
 refine Hb.out.mono ?_;rintro e w1 ⟨rfl,h1,He⟩;have Hh:=qI (cE ⟨Ha.out.os,Ha.out.tape,Ha.out.output,Ha.out.size,λj hj _=>Ha.out.block j hj⟩ He.1);have H1:=qI h1;clear h1 He Hb Ha
 go_wp2
 go_ret;exact ⟨rfl,H1.out,Hh.out⟩
theorem G3 (B:Nat) (s:ByteArray) (w:World) (hs:6000<s.size) (hs2:s.size<=maxLen) :
  Calls Tryz.prog 99 #[.pointer (some ⟨B,0,none⟩),.string s] w λe w'=>e=.returned (.iface 121 (.int .i64 2))/\w'=w:=by
 unfold maxLen at hs2
 go_enter Tryz.func99,Tryz.ntmps99
 go_wp2
 go_ret;exact ⟨rfl,rfl⟩
theorem G4 (B:Nat) (n k:Sd) (l:Int) (d:Bool) (s:ByteArray) (w:World) (h:aG w B n k (.slice none 0 0) l d) (hl:-9223372036854775808<=l/\l<=9223372036854775807) (h0:bw l d=0) (hs:s.size<=6000) :
  Calls Tryz.prog 99 #[.pointer (some ⟨B,0,none⟩),.string s] w λe w'=>e=.returned .nilIface/\oK w w' B (Chg.on ⟨true,s⟩ n) k (aR l d) true s/\w.grownBy w' (some B):=by
 have HA:=qI (wS B n k l d true s w h hl h0);clear h h0
 go_enter Tryz.func99,Tryz.ntmps99
 go_wp2_with fail
 refine HA.out.mono ?_;rintro e w1 ⟨rfl,h1,h2⟩;have H1:=qI h1;have H2:=qI h2;clear h1 h2 HA
 go_wp2
 go_ret;exact ⟨rfl,H1.out,H2.out⟩
theorem G5 (B:Nat) (n k:Sd) (v:Value) (l:Int) (d:Bool) (s:ByteArray) (w:World) (h:aG w B n k v l d) (hl:-9223372036854775808<=l/\l<=9223372036854775807) (h0:bw l d=11) (hs:s.size<=6000) :
  Calls Tryz.prog 99 #[.pointer (some ⟨B,0,none⟩),.string s] w λe w'=>e=.returned (.iface 121 (.int .i64 11))/\aG w' B n k v (aR l d) true/\w.grownBy w' (some B):=by
 have HA:=qI (wW B n k v l d true s w h hl h0);clear h h0
 go_enter Tryz.func99,Tryz.ntmps99
 go_wp2_with fail
 refine HA.out.mono ?_;rintro e w1 ⟨rfl,h1,h2⟩;have H1:=qI h1;have H2:=qI h2;clear h1 h2 HA
 go_wp2
 go_ret;exact ⟨rfl,H1.out,H2.out⟩
theorem G6 (B:Nat) (n k:Sd) (l:Int) (d:Bool) (w:World) (h:aG w B n k (.slice none 0 0) l d) (hl:-9223372036854775808<=l/\l<=9223372036854775807) (h0:bw l d=0) (hn:n.dt=true) :
  Calls Tryz.prog 101 #[.pointer (some ⟨B,0,none⟩)] w λe w'=>e=.returned .nilIface/\oK w w' B (Chg.on ⟨false,⟨#[]⟩⟩ n) k (aR l d) false ⟨#[]⟩/\w.grownBy w' (some B):=by
 have HA:=qI (wS B n k l d false ⟨#[]⟩ w h hl h0);obtain ⟨_,_,c2,_⟩:=h.now;rw [hn] at c2;clear h h0 hn
 go_enter Tryz.func101,Tryz.ntmps101
 go_wp2_with fail
 refine HA.out.mono ?_;rintro e w1 ⟨rfl,h1,h2⟩;have H1:=qI h1;have H2:=qI h2;clear h1 h2 HA
 go_wp2
 go_ret;exact ⟨rfl,H1.out,H2.out⟩
theorem G7 (B:Nat) (n k:Sd) (v:Value) (l:Int) (d:Bool) (w:World) (h:aG w B n k v l d) (hl:-9223372036854775808<=l/\l<=9223372036854775807) (h0:bw l d=11) (hn:n.dt=true) :
  Calls Tryz.prog 101 #[.pointer (some ⟨B,0,none⟩)] w λe w'=>e=.returned (.iface 121 (.int .i64 11))/\aG w' B n k v (aR l d) true/\w.grownBy w' (some B):=by
 have HA:=qI (wW B n k v l d false ⟨#[]⟩ w h hl h0);obtain ⟨_,_,c2,_⟩:=h.now;rw [hn] at c2;clear h h0 hn
 go_enter Tryz.func101,Tryz.ntmps101
 go_wp2_with fail
 refine HA.out.mono ?_;rintro e w1 ⟨rfl,h1,h2⟩;have H1:=qI h1;have H2:=qI h2;clear h1 h2 HA
 go_wp2
 go_ret;exact ⟨rfl,H1.out,H2.out⟩
end
section
open RowKit Shelf
open Ost (dL)
open Qos (Nd Ct Pd nd ct pd)
open Sv (Gv Hd gv hd wd)
open S1 (Mx)
attribute [local go_sem] Oper.semAt_some
def NL (W:World) (base:Nat) (v:Value) (hs:List Hd):Prop:=(hs=[]/\v=.slice none 0 0)\/∃ el la,GS W base v el la/\hs=(el++[la]).map Hp.hd
theorem G8:(Tryz.prog.info? 57).map (λi=>(i.zero,i.size,i.bytes))=some (some (.agg #[.string ByteArray.empty,.int .i64 0,.slice none 0 0,.slice none 0 0]),4,72):=by kernel_rfl
end
section
open RowKit Shelf
open Qos (Nd Ct Pd nd ct pd)
open Sv (Gv Hd gv hd wd Tx cU aI aE body ml)
open S1 (Mx)
namespace Sv
def G9:Tx:=[115,117,109,32]
def oL (t:Tx):Int:=Lib.lastIndex t G9
def Ha (t:Tx):Option Tx:=if 0<=oL t then if t.drop (oL t).toNat=cU (t.take (oL t).toNat) then some (t.take (oL t).toNat) else none else none
end Sv
end
section
open RowKit
end
section
open RowKit Shelf
open Sv (Tx cU)
open S1 (Mx Tab)
attribute [local go_sem] Oper.semAt_some
end
section
open RowKit Shelf
open Qos (Nd Ct Pd nd ct pd)
open Sv (Gv Hd gv hd wd Tx cU aI aE body ml)
open S1 (Mx Tab)
namespace Sv
def Hb (t:Tx):Nat × List Hd:=
 if 6000<t.length then (2,[]) else
 match Ha t with
 | none=>(12,[])
 | some b=>match ml b with
  | none=>(4,[])
  | some hs=>if aE hs=0/\aI hs=t then (0,hs) else (4,[])
end Sv
theorem Hc (w:World):aQ w (.slice none 0 0) []:=⟨none,0,rfl,⟨lR,by unfold maxLen;omega⟩,λh=>by simp at h⟩
end
section
open RowKit Shelf
open Sv (Gv Hd gv hd wd Tx cU aI aE body ml)
open S1 (Mx Tab)
structure Dk where
 n:Sd
 k:Sd
 wt:Option Chg
 l:Int
 d:Bool
def be (W:World) (B:Nat) (s:Dk):Prop:=(-9223372036854775808<=s.l/\s.l<=9223372036854775807)/\∃ v,aG W B s.n s.k v s.l s.d/\
 match s.wt with
 | none=>v=.slice none 0 0
 | some c=>∃ g cap,v=.slice (some ⟨g,0,none⟩) 1 cap/\1<=cap/\g≠B/\gi W g c.wr c.bs
theorem be.lt {W:World} {B:Nat} {s:Dk} (h:be W B s):B<W.heap.size:=by
 obtain ⟨_,v,h,_⟩:=h;exact h.lt
theorem be.below {W W':World} {B:Nat} {s:Dk} (h:be W B s) (hb:Below W.heap.size W W'):be W' B s:=by
 obtain ⟨h0,v,h1,h2⟩:=h;refine ⟨h0,v,h1.block (hb.block B h1.lt),?_⟩;cases hw:s.wt with
 | none=>rw [hw] at h2;exact h2
 | some c=>
  rw [hw] at h2;obtain ⟨g,cap,e,hc,hg,Ha⟩:=h2;exact ⟨g,cap,e,hc,hg,Ha.block (hb.block g Ha.1)⟩
def Dk.fresh:Dk:=⟨⟨false,⟨#[]⟩,false,⟨#[]⟩⟩,⟨false,⟨#[]⟩,false,⟨#[]⟩⟩,none,-1,false⟩
theorem He (w:World):Calls Tryz.prog 30 #[] w λe w'=>e=.returned (.pointer (some ⟨w.heap.size,0,none⟩))/\be w' w.heap.size Dk.fresh/\Below w.heap.size w w':=by
 go_enter Tryz.func30,Tryz.ntmps30
 go_wp2
 go_ret;exact ⟨rfl,⟨⟨by decide,by decide⟩,_,World.alloc_heap_new w _,rfl⟩,(Q0 _ _).alloc (lR) _⟩
theorem be.only {W W':World} {B:Nat} {s s':Dk} (h:be W B s) (ho:W.grownBy W' (some B)) (he:s'.wt=s.wt) (hl:-9223372036854775808<=s'.l/\s'.l<=9223372036854775807) (hd:∀ v,aG W B s.n s.k v s.l s.d->aG W' B s'.n s'.k v s'.l s'.d):be W' B s':=by
 obtain ⟨_,v,h1,h2⟩:=h;refine ⟨hl,v,hd v h1,?_⟩;rw [he];cases hw:s.wt with
 | none=>rw [hw] at h2;exact h2
 | some c=>
  rw [hw] at h2;obtain ⟨g,cap,e,hc,hg,Ha⟩:=h2;exact ⟨g,cap,e,hc,hg,Ha.block (ho.block g Ha.1 (λe=>hg (by injection e with e)))⟩
theorem Hf (w:World) (i j:Int):Sem.run Tryz.prog (binOp .eql 40 (.iface 121 (.int .i64 i)) (.iface 121 (.int .i64 j))) w=.ok (.bool (i == j)) w:=by
 rfl
def Dk.load (s:Dk):Nat × List Hd:=if s.d=true then (11,[]) else if s.n.ft=true then Sv.Hb s.n.fb.data.toList else (0,[])
def Dk.fall (s:Dk):Dk:={ s with l:=aR s.l s.d,d:=true }
def Dk.apply (s:Dk) (c:Chg):Nat × Dk:=if bw s.l s.d=0 then (0,⟨c.on s.n,s.k,some c,aR s.l s.d,false⟩) else (11,s.fall)
def Dk.sync (s:Dk):Nat × Dk:=if bw s.l s.d=0 then (0,⟨s.n,s.n,none,aR s.l s.d,false⟩) else (11,s.fall)
def Dk.write (s:Dk) (t:ByteArray):Nat × Dk:=if 6000<t.size then (2,s) else s.apply ⟨true,t⟩
theorem oM {l:Int} {d:Bool} (h:-9223372036854775808<=l/\l<=9223372036854775807):-9223372036854775808<=aR l d/\aR l d<=9223372036854775807:=by
 unfold aR
 split
 ·exact h
 ·split <;> omega
theorem rz {l:Int} {d:Bool} (h:bw l d≠0):bw l d=11/\dS l d=true:=by
 rcases mo l d with h1|h1
 ·exact h1
 ·exact absurd h1.1 h
theorem be.fall {W W':World} {B:Nat} {s:Dk} (h:be W B s) (ho:W.grownBy W' (some B)) (hd:∀ v,aG W B s.n s.k v s.l s.d->aG W' B s.n s.k v (aR s.l s.d) true):be W' B s.fall:=
 h.only ho rfl (oM h.1) hd
theorem be.waits {W W':World} {B:Nat} {n k:Sd} {l:Int} {c:Chg} (hB:B<W.heap.size) (hl:-9223372036854775808<=l/\l<=9223372036854775807) (h:oK W W' B n k l c.wr c.bs):be W' B ⟨n,k,some c,l,false⟩:=by
 obtain ⟨g,cap,h1,⟨h2,h3⟩,h4⟩:=h;exact ⟨hl,_,h1,g,cap,rfl,h3,by omega,h4⟩
theorem be.val {W:World} {B:Nat} {s:Dk} (h:be W B s):∃ v,aG W B s.n s.k v s.l s.d/\(∀ v2,aG W B s.n s.k v2 s.l s.d->v2=v)/\(s.wt=none->v=.slice none 0 0):=by
 obtain ⟨_,v,h1,h2⟩:=h;refine ⟨v,h1,λv2 hv2=>?_,λhw=>?_⟩
 ·have e1:=h1.rest.1;have e2:=hv2.rest.1;rw [e1] at e2;injection e2 with e2;exact e2.symm
 ·rw [hw] at h2;exact h2
theorem wX (B:Nat) (s:Dk) (w:World) (h:be w B s):Calls Tryz.prog 100 #[.pointer (some ⟨B,0,none⟩)] w λe w'=>e=.returned (ar (s.sync.1:Nat))/\be w' B s.sync.2/\w.grownBy w' (some B):=by
 obtain ⟨v,h1,h2,h3⟩:=h.val;refine (Fw B s.n s.k v s.l s.d w h1 h.1).mono ?_
 by_cases h0:bw s.l s.d=0
 ·have Ha:s.sync=(0,⟨s.n,s.n,none,aR s.l s.d,false⟩):=by unfold Dk.sync;rw [if_pos h0]
  have hF:dS s.l s.d=false:=by
   rcases mo s.l s.d with h4|h4
   ·rw [h0] at h4;exact absurd h4.1 (by decide)
   ·exact h4.2
  rw [Ha,h0,if_pos rfl,if_pos rfl,hF];rintro e w' ⟨rfl,hd,ho⟩;exact ⟨rfl,⟨oM h.1,_,hd,rfl⟩,ho.1⟩
 ·have Ha:s.sync=(11,s.fall):=by unfold Dk.sync;rw [if_neg h0]
  obtain ⟨hE,hF⟩:=rz h0;rw [Ha,hE,if_neg (by decide),if_neg (by decide),hF];rintro e w' ⟨rfl,hd,ho⟩;exact ⟨rfl,h.fall ho.1 (λv2 hv2=>by rw [h2 v2 hv2];exact hd),ho.1⟩
theorem Hg (B:Nat) (s:Dk) (w:World) (h:be w B s) (hn:s.n.dt=true) (hw:s.wt=none):Calls Tryz.prog 101 #[.pointer (some ⟨B,0,none⟩)] w λe w'=>e=.returned (ar ((s.apply ⟨false,⟨#[]⟩⟩).1:Nat))/\be w' B (s.apply ⟨false,⟨#[]⟩⟩).2/\w.grownBy w' (some B):=by
 obtain ⟨v,h1,h2,h3⟩:=h.val
 by_cases h0:bw s.l s.d=0
 ·have Ha:s.apply ⟨false,⟨#[]⟩⟩=(0,⟨Chg.on ⟨false,⟨#[]⟩⟩ s.n,s.k,some ⟨false,⟨#[]⟩⟩,aR s.l s.d,false⟩):=by unfold Dk.apply;rw [if_pos h0]
  rw [Ha];have Hb:=h1;rw [h3 hw] at Hb;refine (G6 B s.n s.k s.l s.d w Hb h.1 h0 hn).mono ?_;rintro e w' ⟨rfl,hd,ho⟩;exact ⟨rfl,be.waits (c:=⟨false,⟨#[]⟩⟩) h1.lt (oM h.1) hd,ho⟩
 ·have Ha:s.apply ⟨false,⟨#[]⟩⟩=(11,s.fall):=by unfold Dk.apply;rw [if_neg h0]
  rw [Ha];refine (G7 B s.n s.k v s.l s.d w h1 h.1 (rz h0).1 hn).mono ?_;rintro e w' ⟨rfl,hd,ho⟩;exact ⟨rfl,h.fall ho (λv2 hv2=>by rw [h2 v2 hv2];exact hd),ho⟩
theorem Hh (B:Nat) (s:Dk) (t:ByteArray) (w:World) (h:be w B s) (hw:s.wt=none\/s.d=true) (ht:t.size<=maxLen):Calls Tryz.prog 99 #[.pointer (some ⟨B,0,none⟩),.string t] w λe w'=>e=.returned (ar ((s.write t).1:Nat))/\be w' B (s.write t).2/\w.grownBy w' (some B):=by
 obtain ⟨v,h1,h2,h3⟩:=h.val
 by_cases hl:6000<t.size
 ·have Ha:s.write t=(2,s):=if_pos hl;rw [Ha];refine (G3 B t w hl ht).mono ?_;rintro e w' ⟨rfl,rfl⟩;exact ⟨rfl,h,⟨rfl,rfl,rfl,lR,λ_ _ _=>rfl⟩⟩
 ·have Hc:s.write t=s.apply ⟨true,t⟩:=if_neg hl
  by_cases h0:bw s.l s.d=0
  ·have Ha:s.write t=(0,⟨Chg.on ⟨true,t⟩ s.n,s.k,some ⟨true,t⟩,aR s.l s.d,false⟩):=by rw [Hc];unfold Dk.apply;rw [if_pos h0]
   rw [Ha];have He:s.wt=none:=by
    rcases hw with hw|hw
    ·exact hw
    ·unfold bw at h0;rw [if_pos (.inl hw)] at h0;cases h0
   have Hb:=h1;rw [h3 He] at Hb;refine (G4 B s.n s.k s.l s.d t w Hb h.1 h0 (by omega)).mono ?_;rintro e w' ⟨rfl,hd,ho⟩;exact ⟨rfl,be.waits (c:=⟨true,t⟩) h1.lt (oM h.1) hd,ho⟩
  ·have Ha:s.write t=(11,s.fall):=by rw [Hc];unfold Dk.apply;rw [if_neg h0]
   rw [Ha];refine (G5 B s.n s.k v s.l s.d t w h1 h.1 (rz h0).1 (by omega)).mono ?_;rintro e w' ⟨rfl,hd,ho⟩;exact ⟨rfl,h.fall ho (λv2 hv2=>by rw [h2 v2 hv2];exact hd),ho⟩
def Dk.act (t:ByteArray) (k:Nat) (s:Dk):Nat × Dk:=if k=0 then s.write t else if k=2 then s.apply ⟨false,⟨#[]⟩⟩ else s.sync
def Dk.run (s:Dk) (t:ByteArray):Nat->Dk
 | 0=>s
 | k+1=>(Dk.act t k (Dk.run s t k)).2
def Dk.err (s:Dk) (t:ByteArray) (k:Nat):Nat:=(Dk.act t k (s.run t k)).1
def Dk.from (s:Dk) (t:ByteArray) (k:Nat):Nat × Dk:=
 if k<4 then if s.err t k≠0 then (s.err t k,s.run t (k+1)) else Dk.from s t (k+1) else (0,s.run t k)
termination_by 4 - k
theorem Dk.from_no {s:Dk} {t:ByteArray} {k:Nat} (hk:k<4) (h:s.err t k≠0):s.from t k=(s.err t k,s.run t (k+1)):=by rw [Dk.from,if_pos hk,if_pos h]
theorem Dk.from_yes {s:Dk} {t:ByteArray} {k:Nat} (hk:k<4) (h:s.err t k=0):s.from t k=s.from t (k+1):=by rw [Dk.from,if_pos hk,if_neg (by simp [h])]
theorem Dk.from_end {s:Dk} {t:ByteArray}:s.from t 4=(0,s.run t 4):=by rw [Dk.from,if_neg (by decide)]
def Dk.save (s:Dk) (hs:List Hd):Nat × Dk:=if aE hs=0 then s.from ⟨(aI hs).toArray⟩ 0 else (aE hs,s)
theorem oN {s:Dk} {t:ByteArray} {k:Nat} (h:(Dk.act t k s).1=0):(Dk.act t k s).2=(if k=0 then ⟨Chg.on ⟨true,t⟩ s.n,s.k,some ⟨true,t⟩,aR s.l s.d,false⟩ else if k=2 then ⟨Chg.on ⟨false,⟨#[]⟩⟩ s.n,s.k,some ⟨false,⟨#[]⟩⟩,aR s.l s.d,false⟩ else ⟨s.n,s.n,none,aR s.l s.d,false⟩):=by
 unfold Dk.act at h ⊢
 by_cases h0:k=0
 ·rw [if_pos h0] at h ⊢;rw [if_pos h0];unfold Dk.write at h ⊢
  split at h
  ·cases h
  ·rename_i hl
   rw [if_neg hl];unfold Dk.apply at h ⊢
   split at h
   ·rename_i he;rw [if_pos he]
   ·cases h
 ·rw [if_neg h0] at h ⊢;rw [if_neg h0]
  by_cases h2:k=2
  ·rw [if_pos h2] at h ⊢;rw [if_pos h2];unfold Dk.apply at h ⊢
   split at h
   ·rename_i he;rw [if_pos he]
   ·cases h
  ·rw [if_neg h2] at h ⊢;rw [if_neg h2];unfold Dk.sync at h ⊢
   split at h
   ·rename_i he;rw [if_pos he]
   ·cases h
theorem wY {s:Dk} {t:ByteArray} (h0:s.err t 0=0):s.run t 1=⟨Chg.on ⟨true,t⟩ s.n,s.k,some ⟨true,t⟩,aR s.l s.d,false⟩:=oN (k:=0) h0
theorem oO {s:Dk} {t:ByteArray} (h0:s.err t 0=0) (h1:s.err t 1=0):s.run t 2=⟨Chg.on ⟨true,t⟩ s.n,Chg.on ⟨true,t⟩ s.n,none,aR (aR s.l s.d) false,false⟩:=by
 refine (oN (k:=1) h1).trans ?_;rw [if_neg (by decide),if_neg (by decide),wY h0]
theorem wZ {s:Dk} {t:ByteArray} (h0:s.err t 0=0) (h1:s.err t 1=0) (h2:s.err t 2=0):s.run t 3=⟨⟨true,t,false,⟨#[]⟩⟩,Chg.on ⟨true,t⟩ s.n,some ⟨false,⟨#[]⟩⟩,aR (aR (aR s.l s.d) false) false,false⟩:=by
 refine (oN (k:=2) h2).trans ?_;rw [if_neg (by decide),if_pos rfl,oO h0 h1];rfl
theorem Hj {s:Dk} {t:ByteArray} (h0:s.err t 0=0) (h1:s.err t 1=0) (h2:s.err t 2=0) (h3:s.err t 3=0):s.run t 4=⟨⟨true,t,false,⟨#[]⟩⟩,⟨true,t,false,⟨#[]⟩⟩,none,aR (aR (aR (aR s.l s.d) false) false) false,false⟩:=by
 refine (oN (k:=3) h3).trans ?_;rw [if_neg (by decide),if_neg (by decide),wZ h0 h1 h2]
theorem lh {a b:World} {r:Option Nat} (h:Below a.heap.size a b):a.grownBy b r:=⟨h.os,h.tape,h.output,h.size,λk hk _=>h.block k hk⟩
theorem Hk (B b1 b2:Nat) (s:Dk) (t:ByteArray) (w:World) (h:be w B s) (hw:s.wt=none\/s.d=true) (ht:t.size<=maxLen) (c1:w.cell? ⟨b1,0,none⟩=some (.pointer (some ⟨B,0,none⟩))) (c2:w.cell? ⟨b2,0,none⟩=some (.string t)) :
  Calls Tryz.prog 98 #[.pointer (some ⟨b1,0,none⟩),.pointer (some ⟨b2,0,none⟩)] w λe w'=>e=.returned (ar ((s.write t).1:Nat))/\be w' B (s.write t).2/\w.grownBy w' (some B):=by
 have HW:=qI (Hh B s t w h hw ht);clear h hw
 go_enter Tryz.func98,Tryz.ntmps98
 go_wp2_with fail
 refine HW.out.mono ?_;rintro e w1 ⟨rfl,h1,h2⟩;have H1:=qI h1;have H2:=qI h2;clear h1 h2 HW
 go_wp2
 go_ret;exact ⟨rfl,H1.out,H2.out⟩
theorem Dk.from_upto {s:Dk} {t:ByteArray}:∀ {k:Nat},k<=4->(∀ j,j<k->s.err t j=0)->s.from t 0=s.from t k
 | 0,_,_=>rfl
 | k+1,hk,h=>(Dk.from_upto (by omega) (λj hj=>h j (by omega))).trans (Dk.from_yes (by omega) (h k (by omega)))
theorem oP (k:Nat):(k=0/\ar ((k:Nat):Int)=.nilIface)\/(k≠0/\ar ((k:Nat):Int)=.iface 121 (.int .i64 k)):=by
 by_cases h:k=0
 ·subst h;exact .inl ⟨rfl,rfl⟩
 ·exact .inr ⟨h,ei h⟩
abbrev jF:=λ(x0 x1 x2:Nat)=>(.cells #[.func (.func 98) #[] #[.pointer (some ⟨x0,0,none⟩),.pointer (some ⟨x1,0,none⟩)],.func (.func 100) #[.pointer (some ⟨x2,0,none⟩)] #[],.func (.func 101) #[.pointer (some ⟨x2,0,none⟩)] #[],.func (.func 100) #[.pointer (some ⟨x2,0,none⟩)] #[]] 150:Obj)
theorem xd (B:Nat) (s:Dk) (v:Value) (hs:List Hd) (w:World) (h:be w B s) (hw:s.wt=none\/s.d=true) (hv:aQ w v hs) (ht:bH w):Calls Tryz.prog 56 #[.pointer (some ⟨B,0,none⟩),v] w λe w'=>e=.returned (ar ((s.save hs).1:Nat))/\be w' B (s.save hs).2/\w.grownBy w' (some B):=by
 have Hi:=qI ((Q0 w.heap.size w).alloc (lR) (.cells #[.pointer (some ⟨B,0,none⟩)] 32));have Hn:=qI (pH v hs _ (hv.below Hi.out) (ht.below Hi.out));have HD:=qI h;have Hz:=qI h.lt;have cb:(w.alloc (.cells #[.pointer (some ⟨B,0,none⟩)] 32)).cell? ⟨w.heap.size,0,none⟩=some (.pointer (some ⟨B,0,none⟩)):=by simp
 have Hs:(w.alloc (.cells #[.pointer (some ⟨B,0,none⟩)] 32)).heap.size=w.heap.size+1:=by simp
 have He:=hv.cps;obtain ⟨va,vc,rfl,HE,_⟩:=hv;clear h ht
 by_cases hf:aE hs=0
 ·have Ht:Hid (iU hs=.tuple #[.string ⟨(aI hs).toArray⟩,.nilIface]):=by unfold Hid iU;rw [if_pos hf]
  have Hb:Hid (s.save hs=s.from ⟨(aI hs).toArray⟩ 0):=by unfold Hid Dk.save;rw [if_pos hf]
  have HA:Hid ((ByteArray.mk (aI hs).toArray).size<=maxLen):=by
   have h1:=Sv.ET (Sv.qF hf He);have h2:=Sv.mj (body hs);unfold Hid maxLen;simp only [ByteArray.size,aI,List.size_toArray,Q2];omega
  rw [Ht.out] at Hn;clear Ht hf He;generalize ByteArray.mk (aI hs).toArray=t at *
  go_enter Tryz.func56,Tryz.ntmps56
  go_wp2_with fail
  generalize w.alloc (.cells #[.pointer (some ⟨B,0,none⟩)] 32)=A at *;refine Hn.out.mono ?_;rintro e w1 ⟨rfl,Hm⟩;have Hq:=qI (Hi.out.trans (Hm.mono Hi.out.size));have cb1:=(Hm.cell (p:=⟨w.heap.size,0,none⟩) (by show w.heap.size<A.heap.size;omega)).trans cb;have Hv:w.heap.size<w1.heap.size:=Q1 (by omega) Hm.size;clear Hm cb Hn Hs Hi;have Ho:=qI (Hq.out.alloc Hq.out.size (.cells #[.string t] 9));have cb2:(w1.alloc (.cells #[.string t] 9)).cell? ⟨w.heap.size,0,none⟩=some (.pointer (some ⟨B,0,none⟩)):=(((Q0 w1.heap.size w1).alloc (lR) _).cell (p:=⟨w.heap.size,0,none⟩) Hv).trans cb1;have ct2:(w1.alloc (.cells #[.string t] 9)).cell? ⟨w1.heap.size,0,none⟩=some (.string t):=by simp
  have Hu:(w1.alloc (.cells #[.string t] 9)).heap.size=w1.heap.size+1:=by simp
  clear cb1
  go_wp2_with fail
  have Hp:=qI (Ho.out.alloc Ho.out.size (jF w.heap.size w1.heap.size B));have Hj:=(Q0 _ (w1.alloc (.cells #[.string t] 9))).alloc (lR) (jF w.heap.size w1.heap.size B);have cb3:=(Hj.cell (p:=⟨w.heap.size,0,none⟩) (by show w.heap.size<(w1.alloc (.cells #[.string t] 9)).heap.size;omega)).trans cb2;have ct3:=(Hj.cell (p:=⟨w1.heap.size,0,none⟩) (by show w1.heap.size<(w1.alloc (.cells #[.string t] 9)).heap.size;omega)).trans ct2;have f0:((w1.alloc (.cells #[.string t] 9)).alloc (jF w.heap.size w1.heap.size B)).cell? ⟨w1.heap.size+1,0,none⟩=some (.func (.func 98) #[] #[.pointer (some ⟨w.heap.size,0,none⟩),.pointer (some ⟨w1.heap.size,0,none⟩)]):=by simp
  have f1:((w1.alloc (.cells #[.string t] 9)).alloc (jF w.heap.size w1.heap.size B)).cell? ⟨w1.heap.size+1,1,none⟩=some (.func (.func 100) #[.pointer (some ⟨B,0,none⟩)] #[]):=by simp
  have f2:((w1.alloc (.cells #[.string t] 9)).alloc (jF w.heap.size w1.heap.size B)).cell? ⟨w1.heap.size+1,2,none⟩=some (.func (.func 101) #[.pointer (some ⟨B,0,none⟩)] #[]):=by simp
  have f3:((w1.alloc (.cells #[.string t] 9)).alloc (jF w.heap.size w1.heap.size B)).cell? ⟨w1.heap.size+1,3,none⟩=some (.func (.func 100) #[.pointer (some ⟨B,0,none⟩)] #[]):=by simp
  have HB:((w1.alloc (.cells #[.string t] 9)).alloc (jF w.heap.size w1.heap.size B)).heap.size=w1.heap.size+1+1:=by simp
  have Hy:=qI (HD.out.below Hp.out);clear Hj cb2 ct2 Ho Hu Hq;generalize ((w1.alloc (.cells #[.string t] 9)).alloc (jF w.heap.size w1.heap.size B))=W3 at *;have HG:=Hz.out;have HF:Hid (∀ wr:World,W3.grownBy wr (some B)->wr.cell? ⟨w.heap.size,0,none⟩=some (.pointer (some ⟨B,0,none⟩))/\wr.cell? ⟨w1.heap.size,0,none⟩=some (.string t)/\wr.cell? ⟨w1.heap.size+1,0,none⟩=some (.func (.func 98) #[] #[.pointer (some ⟨w.heap.size,0,none⟩),.pointer (some ⟨w1.heap.size,0,none⟩)])/\wr.cell? ⟨w1.heap.size+1,1,none⟩=some (.func (.func 100) #[.pointer (some ⟨B,0,none⟩)] #[])/\wr.cell? ⟨w1.heap.size+1,2,none⟩=some (.func (.func 101) #[.pointer (some ⟨B,0,none⟩)] #[])/\wr.cell? ⟨w1.heap.size+1,3,none⟩=some (.func (.func 100) #[.pointer (some ⟨B,0,none⟩)] #[])):=λwr hg=>
   have k1:=λj=>World.cell?_of_block (a:=⟨w.heap.size,j,none⟩) (hg.block w.heap.size (by omega) (λe=>by injection e;omega))
   have k2:=λj=>World.cell?_of_block (a:=⟨w1.heap.size,j,none⟩) (hg.block w1.heap.size (by omega) (λe=>by injection e;omega))
   have k3:=λj=>World.cell?_of_block (a:=⟨w1.heap.size+1,j,none⟩) (hg.block (w1.heap.size+1) (by omega) (λe=>by injection e;omega))
   ⟨(k1 0).trans cb3,(k2 0).trans ct3,(k3 0).trans f0,(k3 1).trans f1,(k3 2).trans f2,(k3 3).trans f3⟩
  clear cb3 ct3 f0 f1 f2 f3;have HW:=qI hw;clear hw
  go_loopw [29] (λi wr=>∃ k:Nat,k<=4/\i=.int .i64 k/\(∀ j,j<k->s.err t j=0)/\be wr B (s.run t k)/\W3.grownBy wr (some B)) (λi _=>4 - (intOf i).toNat)
  case atStart=>exact ⟨0,by omega,rfl,λj hj=>by omega,Hy.out,⟨rfl,rfl,rfl,lR,λ_ _ _=>rfl⟩⟩
  case round=>
   obtain ⟨k,hk,rfl,Hh,Hw,hg⟩:=hrel;have Hc:=qI Hh;have Hr:=qI Hw;have Hf:=qI hg;obtain ⟨cb4,ct4,g0,g1,g2,g3⟩:=HF.out wr hg;clear Hh Hw hg;have Hl:k=0\/k=1\/k=2\/k=3\/k=4:=by omega
   rcases Hl with rfl|rfl|rfl|rfl|rfl
   ·have HC:Hid (Calls Tryz.prog 98 #[.pointer (some ⟨w.heap.size,0,none⟩),.pointer (some ⟨w1.heap.size,0,none⟩)] wr λe w'=>e=.returned (ar ((s.err t 0:Nat):Int))/\be w' B (s.run t (0+1))/\wr.grownBy w' (some B)):=Hk B w.heap.size w1.heap.size (s.run t 0) t wr Hr.out HW.out HA.out cb4 ct4;clear HF cb4 ct4
    rcases oP (s.err t 0) with ⟨h0,he⟩|⟨h0,he⟩
    ·rw [he] at HC;clear he
     go_wp2_with fail
     refine HC.out.mono ?_;rintro e w5 ⟨rfl,h5,h6⟩;have H5:=qI h5;have H6:=qI (cE Hf.out h6);clear h5 h6 HC
     go_wp2
     go_roundw
     case rel=>exact ⟨0+1,by omega,by go_num,λj hj=>by rcases Nat.lt_succ_iff_lt_or_eq.1 hj with h|h;exact Hc.out j h;rw [h];exact h0,H5.out,H6.out⟩
     case measure=>simp [intOf]
    ·rw [he] at HC
     go_wp2_with fail
     refine HC.out.mono ?_;rintro e w5 ⟨rfl,h5,h6⟩;have H5:=qI h5;have H6:=qI (cE Hf.out h6);clear h5 h6 HC
     go_wp2
     go_ret;have Ha:=(Dk.from_upto (by omega) Hc.out).trans (Dk.from_no (by omega) h0);exact ⟨by rw [Hb.out,Ha,he];rfl,by rw [Hb.out,Ha];exact H5.out,cE (lh Hp.out) H6.out⟩
   ·have HC:Hid (Calls Tryz.prog 100 #[.pointer (some ⟨B,0,none⟩)] wr λe w'=>e=.returned (ar ((s.err t 1:Nat):Int))/\be w' B (s.run t (1+1))/\wr.grownBy w' (some B)):=wX B (s.run t 1) wr Hr.out;clear HF cb4 ct4
    rcases oP (s.err t 1) with ⟨h0,he⟩|⟨h0,he⟩
    ·rw [he] at HC;clear he
     go_wp2_with fail
     refine HC.out.mono ?_;rintro e w5 ⟨rfl,h5,h6⟩;have H5:=qI h5;have H6:=qI (cE Hf.out h6);clear h5 h6 HC
     go_wp2
     go_roundw
     case rel=>exact ⟨1+1,by omega,by go_num,λj hj=>by rcases Nat.lt_succ_iff_lt_or_eq.1 hj with h|h;exact Hc.out j h;rw [h];exact h0,H5.out,H6.out⟩
     case measure=>simp [intOf]
    ·rw [he] at HC
     go_wp2_with fail
     refine HC.out.mono ?_;rintro e w5 ⟨rfl,h5,h6⟩;have H5:=qI h5;have H6:=qI (cE Hf.out h6);clear h5 h6 HC
     go_wp2
     go_ret;have Ha:=(Dk.from_upto (by omega) Hc.out).trans (Dk.from_no (by omega) h0);exact ⟨by rw [Hb.out,Ha,he];rfl,by rw [Hb.out,Ha];exact H5.out,cE (lh Hp.out) H6.out⟩
   ·have HC:Hid (Calls Tryz.prog 101 #[.pointer (some ⟨B,0,none⟩)] wr λe w'=>e=.returned (ar ((s.err t 2:Nat):Int))/\be w' B (s.run t (2+1))/\wr.grownBy w' (some B)):=Hg B (s.run t 2) wr Hr.out (by rw [oO (Hc.out 0 (by omega)) (Hc.out 1 (by omega))];rfl) (by rw [oO (Hc.out 0 (by omega)) (Hc.out 1 (by omega))]);clear HF cb4 ct4
    rcases oP (s.err t 2) with ⟨h0,he⟩|⟨h0,he⟩
    ·rw [he] at HC;clear he
     go_wp2_with fail
     refine HC.out.mono ?_;rintro e w5 ⟨rfl,h5,h6⟩;have H5:=qI h5;have H6:=qI (cE Hf.out h6);clear h5 h6 HC
     go_wp2
     go_roundw
     case rel=>exact ⟨2+1,by omega,by go_num,λj hj=>by rcases Nat.lt_succ_iff_lt_or_eq.1 hj with h|h;exact Hc.out j h;rw [h];exact h0,H5.out,H6.out⟩
     case measure=>simp [intOf]
    ·rw [he] at HC
     go_wp2_with fail
     refine HC.out.mono ?_;rintro e w5 ⟨rfl,h5,h6⟩;have H5:=qI h5;have H6:=qI (cE Hf.out h6);clear h5 h6 HC
     go_wp2
     go_ret;have Ha:=(Dk.from_upto (by omega) Hc.out).trans (Dk.from_no (by omega) h0);exact ⟨by rw [Hb.out,Ha,he];rfl,by rw [Hb.out,Ha];exact H5.out,cE (lh Hp.out) H6.out⟩
   ·have HC:Hid (Calls Tryz.prog 100 #[.pointer (some ⟨B,0,none⟩)] wr λe w'=>e=.returned (ar ((s.err t 3:Nat):Int))/\be w' B (s.run t (3+1))/\wr.grownBy w' (some B)):=wX B (s.run t 3) wr Hr.out;clear HF cb4 ct4
    rcases oP (s.err t 3) with ⟨h0,he⟩|⟨h0,he⟩
    ·rw [he] at HC;clear he
     go_wp2_with fail
     refine HC.out.mono ?_;rintro e w5 ⟨rfl,h5,h6⟩;have H5:=qI h5;have H6:=qI (cE Hf.out h6);clear h5 h6 HC
     go_wp2
     go_roundw
     case rel=>exact ⟨3+1,by omega,by go_num,λj hj=>by rcases Nat.lt_succ_iff_lt_or_eq.1 hj with h|h;exact Hc.out j h;rw [h];exact h0,H5.out,H6.out⟩
     case measure=>simp [intOf]
    ·rw [he] at HC
     go_wp2_with fail
     refine HC.out.mono ?_;rintro e w5 ⟨rfl,h5,h6⟩;have H5:=qI h5;have H6:=qI (cE Hf.out h6);clear h5 h6 HC
     go_wp2
     go_ret;have Ha:=(Dk.from_upto (by omega) Hc.out).trans (Dk.from_no (by omega) h0);exact ⟨by rw [Hb.out,Ha,he];rfl,by rw [Hb.out,Ha];exact H5.out,cE (lh Hp.out) H6.out⟩
   ·go_wp2
    go_ret;have Ha:=(Dk.from_upto (by omega) Hc.out).trans Dk.from_end;exact ⟨by rw [Hb.out,Ha];rfl,by rw [Hb.out,Ha];exact Hr.out,cE (lh Hp.out) Hf.out⟩
 ·have Ht:Hid (iU hs=.tuple #[.string ⟨#[]⟩,ar (aE hs:Nat)]):=by unfold Hid iU;rw [if_neg hf]
  have Hx:=qI (ei hf);have Hb:Hid (s.save hs=(aE hs,s)):=by unfold Hid Dk.save;rw [if_neg hf]
  rw [Ht.out,Hx.out] at Hn;clear Ht hf He
  go_enter Tryz.func56,Tryz.ntmps56
  go_wp2_with fail
  generalize w.alloc (.cells #[.pointer (some ⟨B,0,none⟩)] 32)=A at *;refine Hn.out.mono ?_;rintro e w1 ⟨rfl,Hm⟩;have Hq:=qI (Hi.out.trans (Hm.mono Hi.out.size));have Ho:=qI (Hq.out.alloc Hq.out.size (.cells #[.string ⟨#[]⟩] 9));clear Hm cb Hn Hs Hi
  go_wp2
  go_ret;exact ⟨by rw [Hb.out,Hx.out];rfl,by rw [Hb.out];exact HD.out.below Ho.out,lh Ho.out⟩
end
section
open RowKit Shelf
open Sv (Gv Hd gv hd wd Tx cU aI aE body ml OkL)
structure Holds (s:Dk) (hs:List Hd):Prop where
 up:s.d=false
 ft:s.n.ft=true
 fb:s.n.fb=⟨(aI hs).toArray⟩
 hf:aE hs=0
 len:(aI hs).length<=6000
 ok:OkL hs
theorem Hl (s:Dk) (t:ByteArray):(s.err t 0=0/\s.err t 1=0/\s.err t 2=0/\s.err t 3=0/\s.from t 0=(0,s.run t 4))\/∃ k,k<4/\(∀ j,j<k->s.err t j=0)/\s.err t k≠0/\s.from t 0=(s.err t k,s.run t (k+1)):=by
 by_cases h0:s.err t 0=0
 ·by_cases h1:s.err t 1=0
  ·by_cases h2:s.err t 2=0
   ·by_cases h3:s.err t 3=0
    ·exact .inl ⟨h0,h1,h2,h3,by rw [Dk.from_yes (by decide) h0,Dk.from_yes (by decide) h1,Dk.from_yes (by decide) h2,Dk.from_yes (by decide) h3,Dk.from_end]⟩
    ·exact .inr ⟨3,by decide,λj hj=>by have:j=0\/j=1\/j=2:=(by omega);rcases this with rfl|rfl|rfl <;> assumption,h3,by rw [Dk.from_yes (by decide) h0,Dk.from_yes (by decide) h1,Dk.from_yes (by decide) h2,Dk.from_no (by decide) h3]⟩
   ·exact .inr ⟨2,by decide,λj hj=>by have:j=0\/j=1:=(by omega);rcases this with rfl|rfl <;> assumption,h2,by rw [Dk.from_yes (by decide) h0,Dk.from_yes (by decide) h1,Dk.from_no (by decide) h2]⟩
  ·exact .inr ⟨1,by decide,λj hj=>by have:j=0:=(by omega);rw [this];exact h0,h1,by rw [Dk.from_yes (by decide) h0,Dk.from_no (by decide) h1]⟩
 ·exact .inr ⟨0,by decide,λj hj=>by omega,h0,Dk.from_no (by decide) h0⟩
theorem Hm {s:Dk} {hs:List Hd} (hl:s.l<0) (hd:s.d=false) (hf:aE hs=0) (ht:(aI hs).length<=6000):(s.save hs).1=0:=by
 have hE:∀ l:Int,l<0->bw l false=0:=λl h=>by unfold bw;rw [if_neg (by simp;omega)]
 have hN:∀ l:Int,l<0->aR l false=l:=λl h=>by unfold aR;rw [if_neg (by simp;omega),if_neg (by omega)]
 obtain ⟨n,k,wt,l,d⟩:=s;dsimp only at hl hd;subst hd;unfold Dk.save;rw [if_pos hf];have Ha:¬ 6000<(ByteArray.mk (aI hs).toArray).size:=by simp [ByteArray.size];omega
 generalize ByteArray.mk (aI hs).toArray=t at *;have h0:Dk.err ⟨n,k,wt,l,false⟩ t 0=0:=by
  show (Dk.write _ t).1=0
  unfold Dk.write;rw [if_neg Ha];unfold Dk.apply;rw [if_pos (show bw (Dk.run ⟨n,k,wt,l,false⟩ t 0).l (Dk.run ⟨n,k,wt,l,false⟩ t 0).d=0 from hE l hl)]
 have h1:Dk.err ⟨n,k,wt,l,false⟩ t 1=0:=by
  show (Dk.sync _).1=0
  rw [wY h0];unfold Dk.sync;rw [if_pos (by show bw (aR l false) false=0;rw [hN l hl];exact hE l hl)]
 have h2:Dk.err ⟨n,k,wt,l,false⟩ t 2=0:=by
  show (Dk.apply _ _).1=0
  rw [oO h0 h1];unfold Dk.apply;rw [if_pos (by show bw (aR (aR l false) false) false=0;rw [hN l hl,hN l hl];exact hE l hl)]
 have h3:Dk.err ⟨n,k,wt,l,false⟩ t 3=0:=by
  show (Dk.sync _).1=0
  rw [wZ h0 h1 h2];unfold Dk.sync;rw [if_pos (by show bw (aR (aR (aR l false) false) false) false=0;rw [hN l hl,hN l hl,hN l hl];exact hE l hl)]
 rw [Dk.from_yes (by decide) h0,Dk.from_yes (by decide) h1,Dk.from_yes (by decide) h2,Dk.from_yes (by decide) h3,Dk.from_end]
end
section
open Sv (Hd aI aE)
def Calm (s:Dk):Prop:=s.d=false/\s.l=-1/\s.wt=none
theorem xe:Calm Dk.fresh:=⟨rfl,rfl,rfl⟩
theorem xf {s:Dk} (h:Calm s) {hs:List Hd} (hf:aE hs=0):((aI hs).length<=6000->(s.save hs).1=0)/\(6000<(aI hs).length->(s.save hs).1=2)/\Calm (s.save hs).2:=by
 by_cases hl:6000<(aI hs).length
 ·have hw:s.write ⟨(aI hs).toArray⟩=(2,s):=if_pos (by simpa [ByteArray.size] using hl);have h0:s.err ⟨(aI hs).toArray⟩ 0=2:=by
   show (s.write _).1=2
   rw [hw]
  unfold Dk.save;rw [if_pos hf,Dk.from_no (by decide) (by rw [h0];decide)];refine ⟨λh=>absurd h (by omega),λ_=>h0,?_⟩
  show Calm (s.write _).2
  rw [hw];exact h
 ·have h0:=Hm (s:=s) (by rw [h.2.1];decide) h.1 hf (by omega);refine ⟨λ_=>h0,λh=>absurd h hl,?_⟩;unfold Dk.save at h0 ⊢;rw [if_pos hf] at h0 ⊢
  rcases Hl s ⟨(aI hs).toArray⟩ with ⟨e0,e1,e2,e3,e⟩|⟨k,_,_,hk,e⟩
  ·rw [e,Hj e0 e1 e2 e3];refine ⟨rfl,?_,rfl⟩
   show aR (aR (aR (aR s.l s.d) false) false) false=-1
   rw [h.1,h.2.1];rfl
  ·rw [e] at h0;exact absurd h0 hk
end
