import Derived.Test.YtbmmnflgnmjboaaGreatDoorR12
set_option maxRecDepth 100000
set_option maxHeartbeats 16000000
open Go.Proofs.Tryz
namespace Go.Proofs.YtbmmnflgnmjboaaGreatDoor
section
open RowKit Shelf
open Ost (dL dp)
open Qos (Nd Ct Pd nd)
open Sv (Gv wd)
open S1 (Mx)
theorem set_other {V:World} {B j k:Nat} {v:Value} (h:k≠B):(V.setCell ⟨B,j,none⟩ v).heap[k]?=V.heap[k]?:=Below.heap_setCell V ⟨B,j,none⟩ v k h
theorem aa {W:World} {B:Nat} {cs:Array Value} {t:TypeId} (h:W.heap[B]?=some (.cells cs t (0,0))) (j:Nat):W.cell? ⟨B,j,none⟩=cs[j]?:=by simp [World.cell?,h]
end
section
open RowKit
open Qos (Nd Ct Pd nd ct pd)
open Sv (Gv Hd gv hd fg eD body aF cV aB OkH OkL)
open S1 (Tab)
def iQ (hs:List Hd):Value:=if aB hs=0 then .tuple #[.string ⟨(aF hs).toArray⟩,.nilIface] else .tuple #[.string ⟨#[]⟩,au (aB hs:Nat)]
theorem G3 (hs:List Hd) (k:Nat):eD hs (k+1)=eD hs k++fg (hd hs k):=rfl
theorem pN (v:Value) (hs:List Hd) (w:World) (h:aJ w v hs) (ht:ci w):Calls prog 97 #[v] w λe w'=>e=.returned (iQ hs)/\Below w.heap.size w w':=by
 have Hm:=qI (Fs v hs w h)
 by_cases hf:aB hs=0
 ·have HE:Hid (iQ hs=.tuple #[.string ⟨(aF hs).toArray⟩,.nilIface]):=by unfold Hid iQ;rw [if_pos hf]
  have Hg:=Sv.qK hf h.cps;have e0:au ((aB hs:Nat):Int)=.nilIface:=by rw [hf];rfl
  have HH:=qI h;have HT:=qI ht;have HO:=qI Hg;obtain ⟨ao,c,rfl,hm,_⟩:=h;have HJ:=Hg.1;unfold maxLen at hm;have HM:Hid (aF hs=body hs++cV (body hs)):=rfl;have Hu:Hid (body hs=eD hs hs.length):=rfl;have He:=qI (Sv.vP Hg);have Ht:=qI (Sv.mr (body hs));clear ht Hg
  go_enter func97,ntmps97
  go_wp2_with fail
  refine Hm.out.mono ?_;rintro e w1 ⟨rfl,Hh⟩;rw [e0];have Hr:=qI Hh;have HD:=qI (Hh.alloc Hh.size (.cells #[.pointer none,.slice none 0 0] 237));have HG:=qI (wM w1);have HA:Hid (w1.heap.size<=(w1.alloc (.cells #[.pointer none,.slice none 0 0] 237)).heap.size):=by unfold Hid;simp
  clear Hh Hm
  go_wp2
  go_loopw [16] (λi wr=>∃ k:Nat,k<=hs.length/\i=.int .i64 k/\Below w.heap.size w wr/\gP w1.heap.size w1.heap.size (eD hs k) wr/\Hid (w1.heap.size<=wr.heap.size)) (λi _=>hs.length - (intOf i).toNat)
  case atStart=>exact ⟨0,Nat.zero_le _,rfl,HD.out,HG.out,HA⟩
  case round=>
   obtain ⟨k,hk,rfl,hB,Ha,HZ⟩:=hrel
   by_cases hlt:k<hs.length
   ·obtain ⟨_,_,hv,_,hr⟩:=HH.out.below hB;cases hv;obtain ⟨b,o,cv,gvv,rfl,Ho⟩:=hr (by omega);obtain ⟨c0,c1,c2,c3⟩:=Ho.at hlt;obtain ⟨_,hC,hG⟩:=Ho.2 k hlt;have Hb:=qI ((Q0 wr.heap.size wr).alloc (lR) (.cells #[.string (hd hs k).pod.nm,.int .i64 (hd hs k).pod.pr,cv k,gvv k] 57));have Hq:=qI (hB.trans (Hb.out.mono hB.size));have Hj:=qI (Ha.below Hb.out);have oh:=HO.out.2 _ (Sv.kb hlt);have Hs:=qI (GO (hd hs k) (cv k) (gvv k) wr.heap.size _ (hC.below Hb.out) (by simp) (hG.below Hb.out) oh (HT.out.below Hq.out));unfold bG at Hs;have HQ:=Sv.vO oh;have Hv:=He.out k hk;have HC:=qI (G3 hs k);obtain ⟨ca,cc,HI⟩:=hC.sl;obtain ⟨ga,gc,HF⟩:=hG.sl;clear Ho hC hG hB Ha oh hr He;generalize eD hs k=BT at *;generalize fg (hd hs k)=PT at *;generalize (hd hs k).pod.nm=nm at *;generalize (hd hs k).pod.pr=pr at *;generalize (hd hs k).pod.cs.length=cl at *;generalize (hd hs k).gs.length=gl at *;generalize cv k=cvk at *;generalize gvv k=gvk at *;subst HI HF;have HK:BT.length+PT.length<=1000000:=by omega
    go_wp2_with fail
    refine Hs.out.mono ?_;rintro e W1 ⟨rfl,Hf⟩;have Hp:=qI (Hq.out.trans (Hf.mono Hq.out.size));have Hk:=qI (Hj.out.below Hf);have Hw:w1.heap.size<=W1.heap.size:=Q5 HZ.out (Q5 Hb.out.size Hf.size);clear Hf
    go_wp2_with fail
    refine (rB _ _ _ _ _ Hk.out HK Hw).mono ?_;rintro e W5 ⟨rfl,Hc,Hl⟩;have Hz:=qI (Hp.out.trans (Hl.mono Hr.out.size));have HN:=qI (Q5 Hw Hl.size);have Hi:=qI Hc;clear Hc Hl
    go_wp2
    go_roundw
    case rel=>exact ⟨k+1,by omega,by go_num,Hz.out,by rw [HC.out];exact Hi.out,HN⟩
    case measure=>simp [intOf];omega
   ·have HL:k=hs.length:=by omega
    subst HL;have Hv:=He.out _ (lR);rw [<- Hu.out] at Ha Hv;have HR:=Ht.out;have HB:Hid (∀ W,Below w.heap.size w W->Calls prog 138 #[.string ⟨(body hs).toArray⟩] W λe w'=>e=.returned (.string ⟨(cV (body hs)).toArray⟩)/\Below W.heap.size W w'):=λW hb=>EW _ W (by omega) (HT.out.below hb).1
    clear Hu Ht He;generalize cV (body hs)=ST at *;generalize body hs=BD at *;have ec:=kY BD ST
    go_wp2_with fail
    refine (wN _ _ _ _ Ha HZ.out).mono ?_;rintro e W1 ⟨rfl,Hx⟩;have Hn:=qI (hB.trans (Hx.mono Hr.out.size));clear Hx hB Ha
    go_wp2_with fail
    refine (HB.out _ Hn.out).mono ?_;rintro e W2 ⟨rfl,Hy⟩;have Hp:=qI (Hn.out.trans (Hy.mono Hn.out.size));clear Hy
    go_wp2
    go_ret2;refine ⟨?_,Hp.out⟩;rw [HE.out,HM.out,<- ec];rfl
 ·have HE:Hid (iQ hs=.tuple #[.string ⟨#[]⟩,au (aB hs:Nat)]):=by unfold Hid iQ;rw [if_neg hf]
  have HP:=qI (eh hf);obtain ⟨ao,c,rfl,hm,_⟩:=h;clear ht
  go_enter func97,ntmps97
  go_wp2_with fail
  refine Hm.out.mono ?_;rintro e w1 ⟨rfl,hb⟩;rw [HP.out]
  go_wp2
  go_ret2;exact ⟨by rw [HE.out,HP.out];rfl,hb⟩
end
section
open RowKit
def fY (w:World) (g:Nat) (wr:Bool) (bs:ByteArray):Prop:=g<w.heap.size/\w.cell? ⟨g,0,none⟩=some (.bool wr)/\w.cell? ⟨g,1,none⟩=some (.string bs)
theorem fY.block {w w':World} {g:Nat} {wr:Bool} {bs:ByteArray} (h:fY w g wr bs) (he:w'.heap[g]?=w.heap[g]?):fY w' g wr bs:=by
 obtain ⟨h0,h1,h2⟩:=h;have Ha:g<w'.heap.size:=by
  obtain ⟨hg,_⟩:=gS (he.trans (Array.getElem?_eq_getElem h0));exact hg
 exact ⟨Ha,(World.cell?_of_block (a:=⟨g,0,none⟩) he).trans h1,(World.cell?_of_block (a:=⟨g,1,none⟩) he).trans h2⟩
theorem cD {a b c:World} {B:Nat} (p:a.grownBy b (some B)) (q:b.grownBy c (some B)):a.grownBy c (some B):=
 ⟨q.os.trans p.os,q.tape.trans p.tape,q.output.trans p.output,Q5 p.size q.size,λj hj hne=>(q.block j (Q1 hj p.size) hne).trans (p.block j hj hne)⟩
theorem wT {a b c:World} {B:Nat} (p:a.grownBy b (some B)) (q:Below b.heap.size b c):a.grownBy c (some B):=
 ⟨q.os.trans p.os,q.tape.trans p.tape,q.output.trans p.output,Q5 p.size q.size,λj hj hne=>(q.block j (Q1 hj p.size)).trans (p.block j hj hne)⟩
theorem wU:(prog.info? 247).map (λi=>(i.zero,i.size,i.bytes))=some (some (.agg #[.bool false,.string ByteArray.empty]),2,24):=by kernel_rfl
theorem wV {o:Option TypeInfo} {z:Option Value} {s b:Nat} (h:o.map (λi=>(i.zero,i.size,i.bytes))=some (z,s,b)):∃ i,o=some i/\i.zero=z/\i.size=s/\i.bytes=b:=by
 cases o with
 | none=>cases h
 | some i=>simp at h;exact ⟨i,rfl,h.1,h.2.1,h.2.2⟩
theorem wW (w:World) (wr:Bool) (bs:ByteArray) (t:TypeId):∀ j u,[Value.bool wr,Value.string bs][j]?=some u->(w.alloc (.cells #[.bool wr,.string bs] t)).drew.cell? ((⟨w.heap.size,0,none⟩:Addr).add j)=some u:=by
 intro j u hu;rw [Addr.add_lit,Qd]
 match j,hu with
 | 0,hu=>simp at hu;subst hu;simp
 | 1,hu=>simp at hu;subst hu;simp
theorem oK {w:World} {base:Nat} {v:Value} {wr:Bool} {bs:ByteArray} (h:w.ownsRow base 247 2 v (0+1) ([]++[.bool wr,.string bs])):∃ g cap,v=.slice (some ⟨g,0,none⟩) 1 cap/\(base<=g/\1<=cap)/\fY w g wr bs:=by
 rcases h.2 with ⟨_,h0⟩|⟨g,cap,cur,hv,hb,hg,Hc,Ha,Hb,ht⟩
 ·cases h0
 ·have c0:cur[0]?=some (.bool wr):=by
   have:=congrArg (λl=>l[0]?) ht
   simpa using this
  have c1:cur[1]?=some (.string bs):=by
   have:=congrArg (λl=>l[1]?) ht
   simpa using this
  exact ⟨g,cap,hv,⟨hb,by omega⟩,(gS hg).1,by simp [World.cell?,hg,c0],by simp [World.cell?,hg,c1]⟩
theorem wX {w w':World} (h:Below w.drew.heap.size w.drew w'):Below w.heap.size w w':=⟨h.os,h.tape,h.output,h.size,h.block⟩
theorem wY {W:World} {B p q:Nat} {s:Sd} {z0 z1 z2 z3:Value} {a:Act} {ty:TypeId} {pos:String} {after:Array Edge} {guard:Option (Nat × Bool)} {K:Act->World->Prop} {Q:Exit->Act->World->Prop}
  (c0:W.cell? ⟨B,0,none⟩=some z0) (c1:W.cell? ⟨B,1,none⟩=some z1) (c2:W.cell? ⟨B,2,none⟩=some z2) (c3:W.cell? ⟨B,3,none⟩=some z3) (f0:W.frozen? ⟨B,0,none⟩=false) (f1:W.frozen? ⟨B,1,none⟩=false) (f2:W.frozen? ⟨B,2,none⟩=false) (f3:W.frozen? ⟨B,3,none⟩=false)
  (hp:a.tmps[p]?.getD undef=.pointer (some ⟨B,0,none⟩)) (hq:a.tmps[q]?.getD undef=s.agg) (hk:K a (putS W B 0 s)) :
  Oper.wp prog { dst:=none,op:=Op.store 143 (Operand.tmp p) (Operand.tmp q),type:=ty,pos:=pos,after:=after,guard:=guard } a W K Q:=by
 unfold putS at hk;unfold Sd.agg at hq;have HK:=qI hk;clear hk;go_simp;exact HK.out
def oL (w w':World) (B:Nat) (n k:Sd) (l:Int) (wr:Bool) (bs:ByteArray):Prop:=∃ g cap,aC w' B n k (.slice (some ⟨g,0,none⟩) 1 cap) l false/\(w.heap.size<=g/\1<=cap)/\fY w' g wr bs
theorem wZ (B:Nat) (n k:Sd) (l:Int) (d:Bool) (wr:Bool) (bs:ByteArray) (w:World) (h:aC w B n k (.slice none 0 0) l d) (hl:-9223372036854775808<=l/\l<=9223372036854775807) (h0:bo l d=0) :
  Calls prog 139 #[.pointer (some ⟨B,0,none⟩),.agg #[.bool wr,.string bs]] w λe w'=>e=.returned .nilIface/\oL w w' B (Chg.on ⟨wr,bs⟩ n) k (aQ l d) wr bs/\w.grownBy w' (some B):=by
 have HV:=h.lt;have HM:=(Q0 w.heap.size w).alloc (lR) (.cells #[.bool wr,.string bs] 247);have HU:fY (w.alloc (.cells #[.bool wr,.string bs] 247)) w.heap.size wr bs:=⟨by simp,by simp,by simp⟩;have HT:=h.block (w':=w.alloc (.cells #[.bool wr,.string bs] 247)) (HM.block B HV);have HO:=qI (mv B n k _ l d _ HT hl);have hF:dS l d=false:=by
  rcases mw l d with ⟨e1,_⟩|⟨_,e2⟩
  ·rw [h0] at e1;cases e1
  ·exact e2
 rw [h0,hF,qX] at HO;have Hr:=qI (AH ⟨wr,bs⟩ n);obtain ⟨n',HR⟩:∃ n',n'=Chg.on ⟨wr,bs⟩ n:=⟨_,rfl⟩;rw [<- HR] at Hr ⊢;unfold Chg.agg at Hr;rw [show n.agg=.agg #[.bool n.ft,.string n.fb,.bool n.dt,.string n.db] from rfl] at Hr;dsimp only at Hr;have Hv:w.heap.size≠B:=by omega
 have HC:=qI HM;have HS:=qI HU;clear h HT HR hF h0 HM HU
 go_enter func139,ntmps139
 go_wp2_with fail
 refine HO.out.mono ?_;rintro e w1 ⟨rfl,h1,HN⟩;have HA:fY w1 w.heap.size wr bs:=HS.out.block (HN.1.block w.heap.size (by simp) λe=>Hv (Ql e));have HK:=qI HA;have HD:=HA.1;have HQ:=h1.lt;have HL:=qI (cD ⟨HC.out.os,HC.out.tape,HC.out.output,HC.out.size,λj hj _=>HC.out.block j hj⟩ HN.1);obtain ⟨a0,a1,a2,a3⟩:=h1.now;obtain ⟨_,x0,x1⟩:=HA;have H1:=qI h1;clear h1 HN HO HC HS
 as_aux_lemma=>
 go_wp2_with fail
 refine wp_region_held_drew (S:=λ_=>True) (by kernel_rfl) trivial λhQ=>?_;refine tk 0 ?_;refine tk 2 ?_;refine tk 3 ?_;refine tk 4 ?_;refine wpAnyH_ready (rs:=[1,5]) (by kernel_rfl) (by simp) (AllReadyH.cons rfl (λK hK=>?_) (AllReadyH.cons rfl (λK hK=>?_) AllReadyH.nil))
 ·go_simp;refine hK.out _ _ trivial λhQ=>?_;clear hK K;(try simp only [Act.put,s1,s2,s3]);refine rd 5 λK hK=>?_;go_simp;refine hK.out _ _ trivial λhQ=>?_;clear hK K;(try simp only [Act.put,s1,s2,s3]);refine rd 6 λK hK=>?_;go_simp
  go_wp2_with fail
  refine (Hr.out _).mono ?_;rintro e w5 ⟨rfl,Hl⟩;have Hi:=H1.out.block (w':=w5) (Hl.block B HQ);have HI:=qI (show fY w5 w.heap.size wr bs from HK.out.block (Hl.block w.heap.size HD));have Hs:=qI Hl.size;have HJ:=qI (wT HL.out (wX Hl))
  go_wp2
  refine hK.out _ _ trivial λhQ=>?_;clear hK K;refine tk 7 ?_;refine tk 8 ?_;obtain ⟨s0,s1,s2,s3⟩:=Hi.now;have Ho:=qI (Hi.setNow n');have Hh:=qI (show fY (putS w5 B 0 n') w.heap.size wr bs from HI.out.block ((cI.refl B w5).putS 0 n' |>.1.block w.heap.size (by have:=Hs.out;have:=HD;simp at *;omega) λe=>Hv (Ql e)));have HE:=qI (show w.grownBy (putS w5 B 0 n') (some B) from cD HJ.out ((cI.refl B w5).putS 0 n').1);have HP:=qI (show w.heap.size+1<=(putS w5 B 0 n').heap.size from by rw [((cI.refl B w5).putS 0 n').2];have:=Hs.out;have:=HD;simp at *;omega);refine rd 9 λK hK=>?_;rw [if_pos (by rfl)];refine wY s0 s1 s2 s3 (Hi.frozen 0) (Hi.frozen 1) (Hi.frozen 2) (Hi.frozen 3) rfl rfl ?_;refine hK.out _ _ trivial λhQ=>?_;clear hK K Hi HI HJ s0 s1 s2 s3 H1 HK HL Hl Hs Hr;generalize putS w5 B 0 n'=w6 at *;refine Qn (by kernel_rfl) ?_ _
  as_aux_lemma=>
  obtain ⟨i0,hi,HG,HH,HF⟩:=wV wU;obtain ⟨x8,_,_⟩:=Ho.out.rest;have Hw:=qI Ho.out.lt;have Hp:=(Q0 w6.heap.size w6).alloc (lR) (.cells #[.bool wr,.string bs] 247);have x8':=(Hp.cell (p:=⟨B,8,none⟩) Hw.out).trans x8;have Hy:=qI (Hh.out.block (Hp.block w.heap.size Hh.out.1));have Hq:=qI (show ∀ j,j<w6.heap.size->(w6.alloc (.cells #[.bool wr,.string bs] 247)).drew.heap[j]?=w6.heap[j]? from λj hj=>Hp.block j hj);have Hn:=qI (show ∀ j u,[Value.bool wr,Value.string bs][j]?=some u->(w6.alloc (.cells #[.bool wr,.string bs] 247)).drew.cell? ((⟨w6.heap.size,0,none⟩:Addr).add j)=some u from wW w6 wr bs _);have Hm:=qI (show w.heap.size<=(w6.alloc (.cells #[.bool wr,.string bs] 247)).drew.heap.size from by have:=HP.out;simp [World.drew];omega);clear Hp a0 a1 a2 a3 x0 x1
  go_wp2_with fail
  refine wp_region_held_drew (S:=λw'=>w'.cell? ⟨w.heap.size,0,none⟩=some (.bool wr)/\w'.cell? ⟨w.heap.size,1,none⟩=some (.string bs)) (by kernel_rfl) Hh.out.2 λhQ=>?_;refine tk 0 ?_;refine tk 1 ?_;refine tk 2 ?_;refine tk 3 ?_;refine tk 5 ?_;refine wpAnyH_ready (rs:=[4,6]) (by kernel_rfl) (by simp) (AllReadyH.cons rfl (λK hK=>?_) (AllReadyH.cons rfl (λK hK=>?_) AllReadyH.nil))
  ·go_simp;refine hK.out _ _ Hh.out.2 λhQ=>?_;clear hK K;(try simp only [Act.put,s1,s2,s3]);refine rd 6 λK hK=>?_;go_simp;refine hK.out _ _ Hy.out.2 λhQ=>?_;clear hK K;(try simp only [Act.put,s1,s2,s3]);refine rd 7 λK hK=>?_;rw [if_pos (by rfl)]
   refine wp_append_own (o := { dst := some 27, op := Op.call { callee := Callee.builtin Builtin.append, args := #[Operand.tmp 24, Operand.tmp 26], argTypes := #[144, 144] }, type := 144, pos := "disk.go:122", after := #[{ on := 4, ground := Ground.data }, { on := 6, ground := Ground.data }], guard := none }) _ _ _ 144 rfl w.heap.size 247 i0 (.agg #[.bool false, .string ByteArray.empty]) 2 24 underlying144 hi HG HH HF rfl (by decide) (.slice none 0 0) 0 [] rfl (Qw _ _ _ _) ⟨w6.heap.size, 0, none⟩ 1 1 [.bool wr, .string bs] rfl rfl Hn.out (by intro u hu; simp at hu; rcases hu with rfl | rfl <;> rfl) (by unfold maxLen; omega) (by omega) Hm.out ?_
   intro v8 w8 Hb Ha _;obtain ⟨g8,cap8,rfl,Hx,Hj⟩:=oK Hb;have Hg:∀ j,j<w6.heap.size->w8.heap[j]?=w6.heap[j]?:=λj hj=>(Ha.block j (by simp [World.drew];omega) (by simp [Value.ownBlock])).trans (Hq.out j hj)
   have Hc:=Ho.out.block (w':=w8) (Hg B Hw.out);have Hf:=Hh.out.block (w':=w8) (Hg w.heap.size Hh.out.1);have Hk:=qI (show w.grownBy w8 (some B) from cD HE.out ⟨Ha.os,Ha.tape,Ha.output,Q5 (by simp [World.drew]) Ha.size,λj hj _=>Hg j hj⟩);clear Hg Hb Ha Hn Hm Hq;refine hK.out _ _ Hf.2 λhQ=>?_;clear hK K;refine tk 8 ?_;refine tk 9 ?_;obtain ⟨q8,_,_⟩:=Hc.rest;have r8:=Hc.frozen 8;have Hu:=qI (Hc.set8 (.slice (some ⟨g8,0,none⟩) 1 cap8));have He:=qI ((cI.refl B w8).set 8 (.slice (some ⟨g8,0,none⟩) 1 cap8));have Ht:=qI (Hj.block (He.out.1.block g8 Hj.1 (λe=>by have:=Ql e;omega)));have Hz:=qI (Hf.block (He.out.1.block w.heap.size Hf.1 λe=>Hv (Ql e)));have HB:=qI (cD Hk.out He.out.1);clear Hc Hf Hj Hk He;refine rd 10 λK hK=>?_;go_simp;refine hK.out _ _ Hz.out.2 λhQ=>?_;clear hK K;(try simp only [Act.put,s1,s2,s3]);refine Qn (by kernel_rfl) ?_ _
   go_wp2
   go_ret;exact ⟨rfl,⟨g8,cap8,Hu.out,Hx,Ht.out⟩,HB.out⟩
  ·go_simp;refine hK.out _ _ Hy.out.2 λhQ=>?_;clear hK K;(try simp only [Act.put,s1,s2,s3]);refine rd 4 λK hK=>?_;go_simp;refine hK.out _ _ Hy.out.2 λhQ=>?_;clear hK K;(try simp only [Act.put,s1,s2,s3]);refine rd 7 λK hK=>?_;rw [if_pos (by rfl)]
   refine wp_append_own (o := { dst := some 27, op := Op.call { callee := Callee.builtin Builtin.append, args := #[Operand.tmp 24, Operand.tmp 26], argTypes := #[144, 144] }, type := 144, pos := "disk.go:122", after := #[{ on := 4, ground := Ground.data }, { on := 6, ground := Ground.data }], guard := none }) _ _ _ 144 rfl w.heap.size 247 i0 (.agg #[.bool false, .string ByteArray.empty]) 2 24 underlying144 hi HG HH HF rfl (by decide) (.slice none 0 0) 0 [] rfl (Qw _ _ _ _) ⟨w6.heap.size, 0, none⟩ 1 1 [.bool wr, .string bs] rfl rfl Hn.out (by intro u hu; simp at hu; rcases hu with rfl | rfl <;> rfl) (by unfold maxLen; omega) (by omega) Hm.out ?_
   intro v8 w8 Hb Ha _;obtain ⟨g8,cap8,rfl,Hx,Hj⟩:=oK Hb;have Hg:∀ j,j<w6.heap.size->w8.heap[j]?=w6.heap[j]?:=λj hj=>(Ha.block j (by simp [World.drew];omega) (by simp [Value.ownBlock])).trans (Hq.out j hj)
   have Hc:=Ho.out.block (w':=w8) (Hg B Hw.out);have Hf:=Hh.out.block (w':=w8) (Hg w.heap.size Hh.out.1);have Hk:=qI (show w.grownBy w8 (some B) from cD HE.out ⟨Ha.os,Ha.tape,Ha.output,Q5 (by simp [World.drew]) Ha.size,λj hj _=>Hg j hj⟩);clear Hg Hb Ha Hn Hm Hq;refine hK.out _ _ Hf.2 λhQ=>?_;clear hK K;refine tk 8 ?_;refine tk 9 ?_;obtain ⟨q8,_,_⟩:=Hc.rest;have r8:=Hc.frozen 8;have Hu:=qI (Hc.set8 (.slice (some ⟨g8,0,none⟩) 1 cap8));have He:=qI ((cI.refl B w8).set 8 (.slice (some ⟨g8,0,none⟩) 1 cap8));have Ht:=qI (Hj.block (He.out.1.block g8 Hj.1 (λe=>by have:=Ql e;omega)));have Hz:=qI (Hf.block (He.out.1.block w.heap.size Hf.1 λe=>Hv (Ql e)));have HB:=qI (cD Hk.out He.out.1);clear Hc Hf Hj Hk He;refine rd 10 λK hK=>?_;go_simp;refine hK.out _ _ Hz.out.2 λhQ=>?_;clear hK K;(try simp only [Act.put,s1,s2,s3]);refine Qn (by kernel_rfl) ?_ _
   go_wp2
   go_ret;exact ⟨rfl,⟨g8,cap8,Hu.out,Hx,Ht.out⟩,HB.out⟩
 ·go_simp;refine hK.out _ _ trivial λhQ=>?_;clear hK K;(try simp only [Act.put,s1,s2,s3]);refine rd 1 λK hK=>?_;go_simp;refine hK.out _ _ trivial λhQ=>?_;clear hK K;(try simp only [Act.put,s1,s2,s3]);refine rd 6 λK hK=>?_;go_simp
  go_wp2_with fail
  refine (Hr.out _).mono ?_;rintro e w5 ⟨rfl,Hl⟩;have Hi:=H1.out.block (w':=w5) (Hl.block B HQ);have HI:=qI (show fY w5 w.heap.size wr bs from HK.out.block (Hl.block w.heap.size HD));have Hs:=qI Hl.size;have HJ:=qI (wT HL.out (wX Hl))
  go_wp2
  refine hK.out _ _ trivial λhQ=>?_;clear hK K;refine tk 7 ?_;refine tk 8 ?_;obtain ⟨s0,s1,s2,s3⟩:=Hi.now;have Ho:=qI (Hi.setNow n');have Hh:=qI (show fY (putS w5 B 0 n') w.heap.size wr bs from HI.out.block ((cI.refl B w5).putS 0 n' |>.1.block w.heap.size (by have:=Hs.out;have:=HD;simp at *;omega) λe=>Hv (Ql e)));have HE:=qI (show w.grownBy (putS w5 B 0 n') (some B) from cD HJ.out ((cI.refl B w5).putS 0 n').1);have HP:=qI (show w.heap.size+1<=(putS w5 B 0 n').heap.size from by rw [((cI.refl B w5).putS 0 n').2];have:=Hs.out;have:=HD;simp at *;omega);refine rd 9 λK hK=>?_;rw [if_pos (by rfl)];refine wY s0 s1 s2 s3 (Hi.frozen 0) (Hi.frozen 1) (Hi.frozen 2) (Hi.frozen 3) rfl rfl ?_;refine hK.out _ _ trivial λhQ=>?_;clear hK K Hi HI HJ s0 s1 s2 s3 H1 HK HL Hl Hs Hr;generalize putS w5 B 0 n'=w6 at *;refine Qn (by kernel_rfl) ?_ _
  as_aux_lemma=>
  obtain ⟨i0,hi,HG,HH,HF⟩:=wV wU;obtain ⟨x8,_,_⟩:=Ho.out.rest;have Hw:=qI Ho.out.lt;have Hp:=(Q0 w6.heap.size w6).alloc (lR) (.cells #[.bool wr,.string bs] 247);have x8':=(Hp.cell (p:=⟨B,8,none⟩) Hw.out).trans x8;have Hy:=qI (Hh.out.block (Hp.block w.heap.size Hh.out.1));have Hq:=qI (show ∀ j,j<w6.heap.size->(w6.alloc (.cells #[.bool wr,.string bs] 247)).drew.heap[j]?=w6.heap[j]? from λj hj=>Hp.block j hj);have Hn:=qI (show ∀ j u,[Value.bool wr,Value.string bs][j]?=some u->(w6.alloc (.cells #[.bool wr,.string bs] 247)).drew.cell? ((⟨w6.heap.size,0,none⟩:Addr).add j)=some u from wW w6 wr bs _);have Hm:=qI (show w.heap.size<=(w6.alloc (.cells #[.bool wr,.string bs] 247)).drew.heap.size from by have:=HP.out;simp [World.drew];omega);clear Hp a0 a1 a2 a3 x0 x1
  go_wp2_with fail
  refine wp_region_held_drew (S:=λw'=>w'.cell? ⟨w.heap.size,0,none⟩=some (.bool wr)/\w'.cell? ⟨w.heap.size,1,none⟩=some (.string bs)) (by kernel_rfl) Hh.out.2 λhQ=>?_;refine tk 0 ?_;refine tk 1 ?_;refine tk 2 ?_;refine tk 3 ?_;refine tk 5 ?_;refine wpAnyH_ready (rs:=[4,6]) (by kernel_rfl) (by simp) (AllReadyH.cons rfl (λK hK=>?_) (AllReadyH.cons rfl (λK hK=>?_) AllReadyH.nil))
  ·go_simp;refine hK.out _ _ Hh.out.2 λhQ=>?_;clear hK K;(try simp only [Act.put,s1,s2,s3]);refine rd 6 λK hK=>?_;go_simp;refine hK.out _ _ Hy.out.2 λhQ=>?_;clear hK K;(try simp only [Act.put,s1,s2,s3]);refine rd 7 λK hK=>?_;rw [if_pos (by rfl)]
   refine wp_append_own (o := { dst := some 27, op := Op.call { callee := Callee.builtin Builtin.append, args := #[Operand.tmp 24, Operand.tmp 26], argTypes := #[144, 144] }, type := 144, pos := "disk.go:122", after := #[{ on := 4, ground := Ground.data }, { on := 6, ground := Ground.data }], guard := none }) _ _ _ 144 rfl w.heap.size 247 i0 (.agg #[.bool false, .string ByteArray.empty]) 2 24 underlying144 hi HG HH HF rfl (by decide) (.slice none 0 0) 0 [] rfl (Qw _ _ _ _) ⟨w6.heap.size, 0, none⟩ 1 1 [.bool wr, .string bs] rfl rfl Hn.out (by intro u hu; simp at hu; rcases hu with rfl | rfl <;> rfl) (by unfold maxLen; omega) (by omega) Hm.out ?_
   intro v8 w8 Hb Ha _;obtain ⟨g8,cap8,rfl,Hx,Hj⟩:=oK Hb;have Hg:∀ j,j<w6.heap.size->w8.heap[j]?=w6.heap[j]?:=λj hj=>(Ha.block j (by simp [World.drew];omega) (by simp [Value.ownBlock])).trans (Hq.out j hj)
   have Hc:=Ho.out.block (w':=w8) (Hg B Hw.out);have Hf:=Hh.out.block (w':=w8) (Hg w.heap.size Hh.out.1);have Hk:=qI (show w.grownBy w8 (some B) from cD HE.out ⟨Ha.os,Ha.tape,Ha.output,Q5 (by simp [World.drew]) Ha.size,λj hj _=>Hg j hj⟩);clear Hg Hb Ha Hn Hm Hq;refine hK.out _ _ Hf.2 λhQ=>?_;clear hK K;refine tk 8 ?_;refine tk 9 ?_;obtain ⟨q8,_,_⟩:=Hc.rest;have r8:=Hc.frozen 8;have Hu:=qI (Hc.set8 (.slice (some ⟨g8,0,none⟩) 1 cap8));have He:=qI ((cI.refl B w8).set 8 (.slice (some ⟨g8,0,none⟩) 1 cap8));have Ht:=qI (Hj.block (He.out.1.block g8 Hj.1 (λe=>by have:=Ql e;omega)));have Hz:=qI (Hf.block (He.out.1.block w.heap.size Hf.1 λe=>Hv (Ql e)));have HB:=qI (cD Hk.out He.out.1);clear Hc Hf Hj Hk He;refine rd 10 λK hK=>?_;go_simp;refine hK.out _ _ Hz.out.2 λhQ=>?_;clear hK K;(try simp only [Act.put,s1,s2,s3]);refine Qn (by kernel_rfl) ?_ _
   go_wp2
   go_ret;exact ⟨rfl,⟨g8,cap8,Hu.out,Hx,Ht.out⟩,HB.out⟩
  ·go_simp;refine hK.out _ _ Hy.out.2 λhQ=>?_;clear hK K;(try simp only [Act.put,s1,s2,s3]);refine rd 4 λK hK=>?_;go_simp;refine hK.out _ _ Hy.out.2 λhQ=>?_;clear hK K;(try simp only [Act.put,s1,s2,s3]);refine rd 7 λK hK=>?_;rw [if_pos (by rfl)]
   refine wp_append_own (o := { dst := some 27, op := Op.call { callee := Callee.builtin Builtin.append, args := #[Operand.tmp 24, Operand.tmp 26], argTypes := #[144, 144] }, type := 144, pos := "disk.go:122", after := #[{ on := 4, ground := Ground.data }, { on := 6, ground := Ground.data }], guard := none }) _ _ _ 144 rfl w.heap.size 247 i0 (.agg #[.bool false, .string ByteArray.empty]) 2 24 underlying144 hi HG HH HF rfl (by decide) (.slice none 0 0) 0 [] rfl (Qw _ _ _ _) ⟨w6.heap.size, 0, none⟩ 1 1 [.bool wr, .string bs] rfl rfl Hn.out (by intro u hu; simp at hu; rcases hu with rfl | rfl <;> rfl) (by unfold maxLen; omega) (by omega) Hm.out ?_
   intro v8 w8 Hb Ha _;obtain ⟨g8,cap8,rfl,Hx,Hj⟩:=oK Hb;have Hg:∀ j,j<w6.heap.size->w8.heap[j]?=w6.heap[j]?:=λj hj=>(Ha.block j (by simp [World.drew];omega) (by simp [Value.ownBlock])).trans (Hq.out j hj)
   have Hc:=Ho.out.block (w':=w8) (Hg B Hw.out);have Hf:=Hh.out.block (w':=w8) (Hg w.heap.size Hh.out.1);have Hk:=qI (show w.grownBy w8 (some B) from cD HE.out ⟨Ha.os,Ha.tape,Ha.output,Q5 (by simp [World.drew]) Ha.size,λj hj _=>Hg j hj⟩);clear Hg Hb Ha Hn Hm Hq;refine hK.out _ _ Hf.2 λhQ=>?_;clear hK K;refine tk 8 ?_;refine tk 9 ?_;obtain ⟨q8,_,_⟩:=Hc.rest;have r8:=Hc.frozen 8;have Hu:=qI (Hc.set8 (.slice (some ⟨g8,0,none⟩) 1 cap8));have He:=qI ((cI.refl B w8).set 8 (.slice (some ⟨g8,0,none⟩) 1 cap8));have Ht:=qI (Hj.block (He.out.1.block g8 Hj.1 (λe=>by have:=Ql e;omega)));have Hz:=qI (Hf.block (He.out.1.block w.heap.size Hf.1 λe=>Hv (Ql e)));have HB:=qI (cD Hk.out He.out.1);clear Hc Hf Hj Hk He;refine rd 10 λK hK=>?_;go_simp;refine hK.out _ _ Hz.out.2 λhQ=>?_;clear hK K;(try simp only [Act.put,s1,s2,s3]);refine Qn (by kernel_rfl) ?_ _
   go_wp2
   go_ret;exact ⟨rfl,⟨g8,cap8,Hu.out,Hx,Ht.out⟩,HB.out⟩
end
section
open RowKit
open Qos (Nd Ct Pd nd ct pd)
open Sv (Gv Hd gv hd)
theorem G4:(prog.info? 63).map (λi=>(i.zero,i.size,i.bytes))=some (some (.agg #[.string ByteArray.empty,.int .i64 0,.int .i64 0,.int .i64 0,.int .i64 0,.slice none 0 0]),6,72):=by kernel_rfl
theorem G5:(prog.info? 69).map (λi=>(i.zero,i.size,i.bytes))=some (some (.agg #[.int .u64 0,.slice none 0 0]),2,32):=by kernel_rfl
end
section
open RowKit
theorem xd (B:Nat) (n k:Sd) (v:Value) (l:Int) (d:Bool) (wr:Bool) (bs:ByteArray) (w:World) (h:aC w B n k v l d) (hl:-9223372036854775808<=l/\l<=9223372036854775807) (h0:bo l d=11) :
  Calls prog 139 #[.pointer (some ⟨B,0,none⟩),.agg #[.bool wr,.string bs]] w λe w'=>e=.returned (.iface 121 (.int .i64 11))/\aC w' B n k v (aQ l d) true/\w.grownBy w' (some B):=by
 have He:=h.lt;have Hc:=(Q0 w.heap.size w).alloc (lR) (.cells #[.bool wr,.string bs] 247);have Hf:=h.block (w':=w.alloc (.cells #[.bool wr,.string bs] 247)) (Hc.block B He);have Hb:=qI (mv B n k _ l d _ Hf hl);have hF:dS l d=true:=by
  rcases mw l d with ⟨_,e2⟩|⟨e1,_⟩
  ·exact e2
  ·rw [h0] at e1;cases e1
 rw [h0,hF,qW] at Hb;have Ha:=qI Hc;clear h Hf hF h0 Hc He
 go_enter func139,ntmps139
 go_wp2_with fail
 refine Hb.out.mono ?_;rintro e w1 ⟨rfl,h1,Hg⟩;have Hh:=qI (cD ⟨Ha.out.os,Ha.out.tape,Ha.out.output,Ha.out.size,λj hj _=>Ha.out.block j hj⟩ Hg.1);have H1:=qI h1;clear h1 Hg Hb Ha
 go_wp2
 go_ret;exact ⟨rfl,H1.out,Hh.out⟩
theorem G6 (B:Nat) (s:ByteArray) (w:World) (hs:6000<s.size) (hs2:s.size<=maxLen) :
  Calls prog 99 #[.pointer (some ⟨B,0,none⟩),.string s] w λe w'=>e=.returned (.iface 121 (.int .i64 2))/\w'=w:=by
 unfold maxLen at hs2
 go_enter func99,ntmps99
 go_wp2
 go_ret;exact ⟨rfl,rfl⟩
theorem G7 (B:Nat) (n k:Sd) (l:Int) (d:Bool) (s:ByteArray) (w:World) (h:aC w B n k (.slice none 0 0) l d) (hl:-9223372036854775808<=l/\l<=9223372036854775807) (h0:bo l d=0) (hs:s.size<=6000) :
  Calls prog 99 #[.pointer (some ⟨B,0,none⟩),.string s] w λe w'=>e=.returned .nilIface/\oL w w' B (Chg.on ⟨true,s⟩ n) k (aQ l d) true s/\w.grownBy w' (some B):=by
 have HA:=qI (wZ B n k l d true s w h hl h0);clear h h0
 go_enter func99,ntmps99
 go_wp2_with fail
 refine HA.out.mono ?_;rintro e w1 ⟨rfl,h1,h2⟩;have H1:=qI h1;have H2:=qI h2;clear h1 h2 HA
 go_wp2
 go_ret;exact ⟨rfl,H1.out,H2.out⟩
theorem G8 (B:Nat) (n k:Sd) (v:Value) (l:Int) (d:Bool) (s:ByteArray) (w:World) (h:aC w B n k v l d) (hl:-9223372036854775808<=l/\l<=9223372036854775807) (h0:bo l d=11) (hs:s.size<=6000) :
  Calls prog 99 #[.pointer (some ⟨B,0,none⟩),.string s] w λe w'=>e=.returned (.iface 121 (.int .i64 11))/\aC w' B n k v (aQ l d) true/\w.grownBy w' (some B):=by
 have HA:=qI (xd B n k v l d true s w h hl h0);clear h h0
 go_enter func99,ntmps99
 go_wp2_with fail
 refine HA.out.mono ?_;rintro e w1 ⟨rfl,h1,h2⟩;have H1:=qI h1;have H2:=qI h2;clear h1 h2 HA
 go_wp2
 go_ret;exact ⟨rfl,H1.out,H2.out⟩
theorem G9 (B:Nat) (n k:Sd) (l:Int) (d:Bool) (w:World) (h:aC w B n k (.slice none 0 0) l d) (hl:-9223372036854775808<=l/\l<=9223372036854775807) (h0:bo l d=0) (hn:n.dt=true) :
  Calls prog 101 #[.pointer (some ⟨B,0,none⟩)] w λe w'=>e=.returned .nilIface/\oL w w' B (Chg.on ⟨false,⟨#[]⟩⟩ n) k (aQ l d) false ⟨#[]⟩/\w.grownBy w' (some B):=by
 have HA:=qI (wZ B n k l d false ⟨#[]⟩ w h hl h0);obtain ⟨_,_,c2,_⟩:=h.now;rw [hn] at c2;clear h h0 hn
 go_enter func101,ntmps101
 go_wp2_with fail
 refine HA.out.mono ?_;rintro e w1 ⟨rfl,h1,h2⟩;have H1:=qI h1;have H2:=qI h2;clear h1 h2 HA
 go_wp2
 go_ret;exact ⟨rfl,H1.out,H2.out⟩
theorem Ha (B:Nat) (n k:Sd) (v:Value) (l:Int) (d:Bool) (w:World) (h:aC w B n k v l d) (hl:-9223372036854775808<=l/\l<=9223372036854775807) (h0:bo l d=11) (hn:n.dt=true) :
  Calls prog 101 #[.pointer (some ⟨B,0,none⟩)] w λe w'=>e=.returned (.iface 121 (.int .i64 11))/\aC w' B n k v (aQ l d) true/\w.grownBy w' (some B):=by
 have HA:=qI (xd B n k v l d false ⟨#[]⟩ w h hl h0);obtain ⟨_,_,c2,_⟩:=h.now;rw [hn] at c2;clear h h0 hn
 go_enter func101,ntmps101
 go_wp2_with fail
 refine HA.out.mono ?_;rintro e w1 ⟨rfl,h1,h2⟩;have H1:=qI h1;have H2:=qI h2;clear h1 h2 HA
 go_wp2
 go_ret;exact ⟨rfl,H1.out,H2.out⟩
end
section
open RowKit Shelf
open Ost (dL)
open Qos (Nd Ct Pd nd ct pd)
open Sv (Gv Hd gv hd wd)
open S1 (Mx)
attribute [local go_sem] Oper.semAt_some
end
section
open RowKit
end
section
open RowKit Shelf
open Ost (dL)
open Qos (Nd Ct Pd nd ct pd)
open Sv (Gv Hd gv hd wd)
open S1 (Mx)
attribute [local go_sem] Oper.semAt_some
def NN (W:World) (base:Nat) (v:Value) (hs:List Hd):Prop:=(hs=[]/\v=.slice none 0 0)\/∃ el la,FH W base v el la/\hs=(el++[la]).map Hp.hd
theorem Hb:(prog.info? 57).map (λi=>(i.zero,i.size,i.bytes))=some (some (.agg #[.string ByteArray.empty,.int .i64 0,.slice none 0 0,.slice none 0 0]),4,72):=by kernel_rfl
end
section
open RowKit Shelf
open Qos (Nd Ct Pd nd ct pd)
open Sv (Gv Hd gv hd wd Tx cV aF aB body mu)
open S1 (Mx)
namespace Sv
def Hc:Tx:=[115,117,109,32]
def oM (t:Tx):Int:=Lib.lastIndex t Hc
def He (t:Tx):Option Tx:=if 0<=oM t then if t.drop (oM t).toNat=cV (t.take (oM t).toNat) then some (t.take (oM t).toNat) else none else none
end Sv
end
section
open RowKit Shelf
open Sv (Tx cV)
open S1 (Mx Tab)
attribute [local go_sem] Oper.semAt_some
end
section
open RowKit Shelf
open Qos (Nd Ct Pd nd ct pd)
open Sv (Gv Hd gv hd wd Tx cV aF aB body mu)
open S1 (Mx Tab)
namespace Sv
def Hf (t:Tx):Nat × List Hd:=
 if 6000<t.length then (2,[]) else
 match He t with
 | none=>(12,[])
 | some b=>match mu b with
  | none=>(4,[])
  | some hs=>if aB hs=0/\aF hs=t then (0,hs) else (4,[])
end Sv
theorem Hg (w:World):aJ w (.slice none 0 0) []:=⟨none,0,rfl,⟨lR,by unfold maxLen;omega⟩,λh=>by simp at h⟩
end
section
open RowKit Shelf
open Sv (Gv Hd gv hd wd Tx cV aF aB body mu)
open S1 (Mx Tab)
structure Dk where
 n:Sd
 k:Sd
 wt:Option Chg
 l:Int
 d:Bool
def bf (W:World) (B:Nat) (s:Dk):Prop:=(-9223372036854775808<=s.l/\s.l<=9223372036854775807)/\∃ v,aC W B s.n s.k v s.l s.d/\
 match s.wt with
 | none=>v=.slice none 0 0
 | some c=>∃ g cap,v=.slice (some ⟨g,0,none⟩) 1 cap/\1<=cap/\g≠B/\fY W g c.wr c.bs
theorem bf.lt {W:World} {B:Nat} {s:Dk} (h:bf W B s):B<W.heap.size:=by
 obtain ⟨_,v,h,_⟩:=h;exact h.lt
theorem bf.below {W W':World} {B:Nat} {s:Dk} (h:bf W B s) (hb:Below W.heap.size W W'):bf W' B s:=by
 obtain ⟨h0,v,h1,h2⟩:=h;refine ⟨h0,v,h1.block (hb.block B h1.lt),?_⟩;cases hw:s.wt with
 | none=>rw [hw] at h2;exact h2
 | some c=>
  rw [hw] at h2;obtain ⟨g,cap,e,hc,hg,Ha⟩:=h2;exact ⟨g,cap,e,hc,hg,Ha.block (hb.block g Ha.1)⟩
def Dk.fresh:Dk:=⟨⟨false,⟨#[]⟩,false,⟨#[]⟩⟩,⟨false,⟨#[]⟩,false,⟨#[]⟩⟩,none,-1,false⟩
theorem Hh (w:World):Calls prog 30 #[] w λe w'=>e=.returned (.pointer (some ⟨w.heap.size,0,none⟩))/\bf w' w.heap.size Dk.fresh/\Below w.heap.size w w':=by
 go_enter func30,ntmps30
 go_wp2
 go_ret;exact ⟨rfl,⟨⟨by decide,by decide⟩,_,World.alloc_heap_new w _,rfl⟩,(Q0 _ _).alloc (lR) _⟩
theorem bf.only {W W':World} {B:Nat} {s s':Dk} (h:bf W B s) (ho:W.grownBy W' (some B)) (he:s'.wt=s.wt) (hl:-9223372036854775808<=s'.l/\s'.l<=9223372036854775807) (hd:∀ v,aC W B s.n s.k v s.l s.d->aC W' B s'.n s'.k v s'.l s'.d):bf W' B s':=by
 obtain ⟨_,v,h1,h2⟩:=h;refine ⟨hl,v,hd v h1,?_⟩;rw [he];cases hw:s.wt with
 | none=>rw [hw] at h2;exact h2
 | some c=>
  rw [hw] at h2;obtain ⟨g,cap,e,hc,hg,Ha⟩:=h2;exact ⟨g,cap,e,hc,hg,Ha.block (ho.block g Ha.1 λe=>hg (by injection e with e))⟩
theorem Hj (w:World) (i j:Int):Sem.run prog (binOp .eql 40 (.iface 121 (.int .i64 i)) (.iface 121 (.int .i64 j))) w=.ok (.bool (i == j)) w:=by
 rfl
def Dk.load (s:Dk):Nat × List Hd:=if s.d=true then (11,[]) else if s.n.ft=true then Sv.Hf s.n.fb.data.toList else (0,[])
def Dk.fall (s:Dk):Dk:={ s with l:=aQ s.l s.d,d:=true }
def Dk.apply (s:Dk) (c:Chg):Nat × Dk:=if bo s.l s.d=0 then (0,⟨c.on s.n,s.k,some c,aQ s.l s.d,false⟩) else (11,s.fall)
def Dk.sync (s:Dk):Nat × Dk:=if bo s.l s.d=0 then (0,⟨s.n,s.n,none,aQ s.l s.d,false⟩) else (11,s.fall)
def Dk.write (s:Dk) (t:ByteArray):Nat × Dk:=if 6000<t.size then (2,s) else s.apply ⟨true,t⟩
theorem oN {l:Int} {d:Bool} (h:-9223372036854775808<=l/\l<=9223372036854775807):-9223372036854775808<=aQ l d/\aQ l d<=9223372036854775807:=by
 unfold aQ
 split
 ·exact h
 ·split <;> omega
theorem rE {l:Int} {d:Bool} (h:bo l d≠0):bo l d=11/\dS l d=true:=by
 rcases mw l d with h1|h1
 ·exact h1
 ·exact absurd h1.1 h
theorem bf.fall {W W':World} {B:Nat} {s:Dk} (h:bf W B s) (ho:W.grownBy W' (some B)) (hd:∀ v,aC W B s.n s.k v s.l s.d->aC W' B s.n s.k v (aQ s.l s.d) true):bf W' B s.fall:=
 h.only ho rfl (oN h.1) hd
theorem bf.waits {W W':World} {B:Nat} {n k:Sd} {l:Int} {c:Chg} (hB:B<W.heap.size) (hl:-9223372036854775808<=l/\l<=9223372036854775807) (h:oL W W' B n k l c.wr c.bs):bf W' B ⟨n,k,some c,l,false⟩:=by
 obtain ⟨g,cap,h1,⟨h2,h3⟩,h4⟩:=h;exact ⟨hl,_,h1,g,cap,rfl,h3,by omega,h4⟩
theorem bf.val {W:World} {B:Nat} {s:Dk} (h:bf W B s):∃ v,aC W B s.n s.k v s.l s.d/\(∀ v2,aC W B s.n s.k v2 s.l s.d->v2=v)/\(s.wt=none->v=.slice none 0 0):=by
 obtain ⟨_,v,h1,h2⟩:=h;refine ⟨v,h1,λv2 hv2=>?_,λhw=>?_⟩
 ·have e1:=h1.rest.1;have e2:=hv2.rest.1;rw [e1] at e2;injection e2 with e2;exact e2.symm
 ·rw [hw] at h2;exact h2
theorem xe (B:Nat) (s:Dk) (w:World) (h:bf w B s):Calls prog 100 #[.pointer (some ⟨B,0,none⟩)] w λe w'=>e=.returned (au (s.sync.1:Nat))/\bf w' B s.sync.2/\w.grownBy w' (some B):=by
 obtain ⟨v,h1,h2,h3⟩:=h.val;refine (Fv B s.n s.k v s.l s.d w h1 h.1).mono ?_
 by_cases h0:bo s.l s.d=0
 ·have Ha:s.sync=(0,⟨s.n,s.n,none,aQ s.l s.d,false⟩):=by unfold Dk.sync;rw [if_pos h0]
  have hF:dS s.l s.d=false:=by
   rcases mw s.l s.d with h4|h4
   ·rw [h0] at h4;exact absurd h4.1 (by decide)
   ·exact h4.2
  rw [Ha,h0,if_pos rfl,if_pos rfl,hF];rintro e w' ⟨rfl,hd,ho⟩;exact ⟨rfl,⟨oN h.1,_,hd,rfl⟩,ho.1⟩
 ·have Ha:s.sync=(11,s.fall):=by unfold Dk.sync;rw [if_neg h0]
  obtain ⟨hE,hF⟩:=rE h0;rw [Ha,hE,if_neg (by decide),if_neg (by decide),hF];rintro e w' ⟨rfl,hd,ho⟩;exact ⟨rfl,h.fall ho.1 (λv2 hv2=>by rw [h2 v2 hv2];exact hd),ho.1⟩
theorem Hk (B:Nat) (s:Dk) (w:World) (h:bf w B s) (hn:s.n.dt=true) (hw:s.wt=none):Calls prog 101 #[.pointer (some ⟨B,0,none⟩)] w λe w'=>e=.returned (au ((s.apply ⟨false,⟨#[]⟩⟩).1:Nat))/\bf w' B (s.apply ⟨false,⟨#[]⟩⟩).2/\w.grownBy w' (some B):=by
 obtain ⟨v,h1,h2,h3⟩:=h.val
 by_cases h0:bo s.l s.d=0
 ·have Hb:s.apply ⟨false,⟨#[]⟩⟩=(0,⟨Chg.on ⟨false,⟨#[]⟩⟩ s.n,s.k,some ⟨false,⟨#[]⟩⟩,aQ s.l s.d,false⟩):=by unfold Dk.apply;rw [if_pos h0]
  rw [Hb];have Hc:=h1;rw [h3 hw] at Hc;refine (G9 B s.n s.k s.l s.d w Hc h.1 h0 hn).mono ?_;rintro e w' ⟨rfl,hd,ho⟩;exact ⟨rfl,bf.waits (c:=⟨false,⟨#[]⟩⟩) h1.lt (oN h.1) hd,ho⟩
 ·have Hb:s.apply ⟨false,⟨#[]⟩⟩=(11,s.fall):=by unfold Dk.apply;rw [if_neg h0]
  rw [Hb];refine (Ha B s.n s.k v s.l s.d w h1 h.1 (rE h0).1 hn).mono ?_;rintro e w' ⟨rfl,hd,ho⟩;exact ⟨rfl,h.fall ho (λv2 hv2=>by rw [h2 v2 hv2];exact hd),ho⟩
theorem Hl (B:Nat) (s:Dk) (t:ByteArray) (w:World) (h:bf w B s) (hw:s.wt=none\/s.d=true) (ht:t.size<=maxLen):Calls prog 99 #[.pointer (some ⟨B,0,none⟩),.string t] w λe w'=>e=.returned (au ((s.write t).1:Nat))/\bf w' B (s.write t).2/\w.grownBy w' (some B):=by
 obtain ⟨v,h1,h2,h3⟩:=h.val
 by_cases hl:6000<t.size
 ·have Ha:s.write t=(2,s):=if_pos hl;rw [Ha];refine (G6 B t w hl ht).mono ?_;rintro e w' ⟨rfl,rfl⟩;exact ⟨rfl,h,⟨rfl,rfl,rfl,lR,λ_ _ _=>rfl⟩⟩
 ·have Hc:s.write t=s.apply ⟨true,t⟩:=if_neg hl
  by_cases h0:bo s.l s.d=0
  ·have Ha:s.write t=(0,⟨Chg.on ⟨true,t⟩ s.n,s.k,some ⟨true,t⟩,aQ s.l s.d,false⟩):=by rw [Hc];unfold Dk.apply;rw [if_pos h0]
   rw [Ha];have He:s.wt=none:=by
    rcases hw with hw|hw
    ·exact hw
    ·unfold bo at h0;rw [if_pos (.inl hw)] at h0;cases h0
   have Hb:=h1;rw [h3 He] at Hb;refine (G7 B s.n s.k s.l s.d t w Hb h.1 h0 (by omega)).mono ?_;rintro e w' ⟨rfl,hd,ho⟩;exact ⟨rfl,bf.waits (c:=⟨true,t⟩) h1.lt (oN h.1) hd,ho⟩
  ·have Ha:s.write t=(11,s.fall):=by rw [Hc];unfold Dk.apply;rw [if_neg h0]
   rw [Ha];refine (G8 B s.n s.k v s.l s.d t w h1 h.1 (rE h0).1 (by omega)).mono ?_;rintro e w' ⟨rfl,hd,ho⟩;exact ⟨rfl,h.fall ho (λv2 hv2=>by rw [h2 v2 hv2];exact hd),ho⟩
def Dk.act (t:ByteArray) (k:Nat) (s:Dk):Nat × Dk:=if k=0 then s.write t else if k=2 then s.apply ⟨false,⟨#[]⟩⟩ else s.sync
def Dk.run (s:Dk) (t:ByteArray):Nat->Dk
 | 0=>s
 | k+1=>(Dk.act t k (Dk.run s t k)).2
def Dk.err (s:Dk) (t:ByteArray) (k:Nat):Nat:=(Dk.act t k (s.run t k)).1
def Dk.from (s:Dk) (t:ByteArray) (k:Nat):Nat × Dk:=
 if k<4 then if s.err t k≠0 then (s.err t k,s.run t (k+1)) else Dk.from s t (k+1) else (0,s.run t k)
termination_by 4 - k
theorem Dk.from_no {s:Dk} {t:ByteArray} {k:Nat} (hk:k<4) (h:s.err t k≠0):s.from t k=(s.err t k,s.run t (k+1)):=by rw [Dk.from,if_pos hk,if_pos h]
theorem Dk.from_yes {s:Dk} {t:ByteArray} {k:Nat} (hk:k<4) (h:s.err t k=0):s.from t k=s.from t (k+1):=by rw [Dk.from,if_pos hk,if_neg (by simp [h])]
theorem Dk.from_end {s:Dk} {t:ByteArray}:s.from t 4=(0,s.run t 4):=by rw [Dk.from,if_neg (by decide)]
def Dk.save (s:Dk) (hs:List Hd):Nat × Dk:=if aB hs=0 then s.from ⟨(aF hs).toArray⟩ 0 else (aB hs,s)
theorem oO {s:Dk} {t:ByteArray} {k:Nat} (h:(Dk.act t k s).1=0):(Dk.act t k s).2=(if k=0 then ⟨Chg.on ⟨true,t⟩ s.n,s.k,some ⟨true,t⟩,aQ s.l s.d,false⟩ else if k=2 then ⟨Chg.on ⟨false,⟨#[]⟩⟩ s.n,s.k,some ⟨false,⟨#[]⟩⟩,aQ s.l s.d,false⟩ else ⟨s.n,s.n,none,aQ s.l s.d,false⟩):=by
 unfold Dk.act at h ⊢
 by_cases h0:k=0
 ·rw [if_pos h0] at h ⊢;rw [if_pos h0];unfold Dk.write at h ⊢
  split at h
  ·cases h
  ·rename_i hl
   rw [if_neg hl];unfold Dk.apply at h ⊢
   split at h
   ·rename_i he;rw [if_pos he]
   ·cases h
 ·rw [if_neg h0] at h ⊢;rw [if_neg h0]
  by_cases h2:k=2
  ·rw [if_pos h2] at h ⊢;rw [if_pos h2];unfold Dk.apply at h ⊢
   split at h
   ·rename_i he;rw [if_pos he]
   ·cases h
  ·rw [if_neg h2] at h ⊢;rw [if_neg h2];unfold Dk.sync at h ⊢
   split at h
   ·rename_i he;rw [if_pos he]
   ·cases h
theorem xf {s:Dk} {t:ByteArray} (h0:s.err t 0=0):s.run t 1=⟨Chg.on ⟨true,t⟩ s.n,s.k,some ⟨true,t⟩,aQ s.l s.d,false⟩:=oO (k:=0) h0
theorem oP {s:Dk} {t:ByteArray} (h0:s.err t 0=0) (h1:s.err t 1=0):s.run t 2=⟨Chg.on ⟨true,t⟩ s.n,Chg.on ⟨true,t⟩ s.n,none,aQ (aQ s.l s.d) false,false⟩:=by
 refine (oO (k:=1) h1).trans ?_;rw [if_neg (by decide),if_neg (by decide),xf h0]
theorem xh {s:Dk} {t:ByteArray} (h0:s.err t 0=0) (h1:s.err t 1=0) (h2:s.err t 2=0):s.run t 3=⟨⟨true,t,false,⟨#[]⟩⟩,Chg.on ⟨true,t⟩ s.n,some ⟨false,⟨#[]⟩⟩,aQ (aQ (aQ s.l s.d) false) false,false⟩:=by
 refine (oO (k:=2) h2).trans ?_;rw [if_neg (by decide),if_pos rfl,oP h0 h1];rfl
theorem Hm {s:Dk} {t:ByteArray} (h0:s.err t 0=0) (h1:s.err t 1=0) (h2:s.err t 2=0) (h3:s.err t 3=0):s.run t 4=⟨⟨true,t,false,⟨#[]⟩⟩,⟨true,t,false,⟨#[]⟩⟩,none,aQ (aQ (aQ (aQ s.l s.d) false) false) false,false⟩:=by
 refine (oO (k:=3) h3).trans ?_;rw [if_neg (by decide),if_neg (by decide),xh h0 h1 h2]
theorem lj {a b:World} {r:Option Nat} (h:Below a.heap.size a b):a.grownBy b r:=⟨h.os,h.tape,h.output,h.size,λk hk _=>h.block k hk⟩
theorem Hn (B b1 b2:Nat) (s:Dk) (t:ByteArray) (w:World) (h:bf w B s) (hw:s.wt=none\/s.d=true) (ht:t.size<=maxLen) (c1:w.cell? ⟨b1,0,none⟩=some (.pointer (some ⟨B,0,none⟩))) (c2:w.cell? ⟨b2,0,none⟩=some (.string t)) :
  Calls prog 98 #[.pointer (some ⟨b1,0,none⟩),.pointer (some ⟨b2,0,none⟩)] w λe w'=>e=.returned (au ((s.write t).1:Nat))/\bf w' B (s.write t).2/\w.grownBy w' (some B):=by
 have HW:=qI (Hl B s t w h hw ht);clear h hw
 go_enter func98,ntmps98
 go_wp2_with fail
 refine HW.out.mono ?_;rintro e w1 ⟨rfl,h1,h2⟩;have H1:=qI h1;have H2:=qI h2;clear h1 h2 HW
 go_wp2
 go_ret;exact ⟨rfl,H1.out,H2.out⟩
theorem Dk.from_upto {s:Dk} {t:ByteArray}:∀ {k:Nat},k<=4->(∀ j,j<k->s.err t j=0)->s.from t 0=s.from t k
 | 0,_,_=>rfl
 | k+1,hk,h=>(Dk.from_upto (by omega) λj hj=>h j (by omega)).trans (Dk.from_yes (by omega) (h k (by omega)))
theorem oQ (k:Nat):(k=0/\au ((k:Nat):Int)=.nilIface)\/(k≠0/\au ((k:Nat):Int)=.iface 121 (.int .i64 k)):=by
 by_cases h:k=0
 ·subst h;exact .inl ⟨rfl,rfl⟩
 ·exact .inr ⟨h,eh h⟩
abbrev jC:=λ(x0 x1 x2:Nat)=>(.cells #[.func (.func 98) #[] #[.pointer (some ⟨x0,0,none⟩),.pointer (some ⟨x1,0,none⟩)],.func (.func 100) #[.pointer (some ⟨x2,0,none⟩)] #[],.func (.func 101) #[.pointer (some ⟨x2,0,none⟩)] #[],.func (.func 100) #[.pointer (some ⟨x2,0,none⟩)] #[]] 150:Obj)
theorem xi (B:Nat) (s:Dk) (v:Value) (hs:List Hd) (w:World) (h:bf w B s) (hw:s.wt=none\/s.d=true) (hv:aJ w v hs) (ht:ci w):Calls prog 56 #[.pointer (some ⟨B,0,none⟩),v] w λe w'=>e=.returned (au ((s.save hs).1:Nat))/\bf w' B (s.save hs).2/\w.grownBy w' (some B):=by
 have Hh:=qI ((Q0 w.heap.size w).alloc (lR) (.cells #[.pointer (some ⟨B,0,none⟩)] 32));have Ho:=qI (pN v hs _ (hv.below Hh.out) (ht.below Hh.out));have HD:=qI h;have Hz:=qI h.lt;have cb:(w.alloc (.cells #[.pointer (some ⟨B,0,none⟩)] 32)).cell? ⟨w.heap.size,0,none⟩=some (.pointer (some ⟨B,0,none⟩)):=by simp
 have Hr:(w.alloc (.cells #[.pointer (some ⟨B,0,none⟩)] 32)).heap.size=w.heap.size+1:=by simp
 have He:=hv.cps;obtain ⟨va,vc,rfl,HE,_⟩:=hv;clear h ht
 by_cases hf:aB hs=0
 ·have Hs:Hid (iQ hs=.tuple #[.string ⟨(aF hs).toArray⟩,.nilIface]):=by unfold Hid iQ;rw [if_pos hf]
  have Hb:Hid (s.save hs=s.from ⟨(aF hs).toArray⟩ 0):=by unfold Hid Dk.save;rw [if_pos hf]
  have HA:Hid ((ByteArray.mk (aF hs).toArray).size<=maxLen):=by
   have h1:=Sv.ES (Sv.qK hf He);have h2:=Sv.mr (body hs);unfold Hid maxLen;simp only [ByteArray.size,aF,List.size_toArray,Q2];omega
  rw [Hs.out] at Ho;clear Hs hf He;generalize ByteArray.mk (aF hs).toArray=t at *
  go_enter func56,ntmps56
  go_wp2_with fail
  generalize w.alloc (.cells #[.pointer (some ⟨B,0,none⟩)] 32)=A at *;refine Ho.out.mono ?_;rintro e w1 ⟨rfl,Hl⟩;have Hm:=qI (Hh.out.trans (Hl.mono Hh.out.size));have cb1:=(Hl.cell (p:=⟨w.heap.size,0,none⟩) (by show w.heap.size<A.heap.size;omega)).trans cb;have Hv:w.heap.size<w1.heap.size:=Q1 (by omega) Hl.size;clear Hl cb Ho Hr Hh;have Hp:=qI (Hm.out.alloc Hm.out.size (.cells #[.string t] 9));have cb2:(w1.alloc (.cells #[.string t] 9)).cell? ⟨w.heap.size,0,none⟩=some (.pointer (some ⟨B,0,none⟩)):=(((Q0 w1.heap.size w1).alloc (lR) _).cell (p:=⟨w.heap.size,0,none⟩) Hv).trans cb1;have ct2:(w1.alloc (.cells #[.string t] 9)).cell? ⟨w1.heap.size,0,none⟩=some (.string t):=by simp
  have Hu:(w1.alloc (.cells #[.string t] 9)).heap.size=w1.heap.size+1:=by simp
  clear cb1
  go_wp2_with fail
  have Hq:=qI (Hp.out.alloc Hp.out.size (jC w.heap.size w1.heap.size B));have Hi:=(Q0 _ (w1.alloc (.cells #[.string t] 9))).alloc (lR) (jC w.heap.size w1.heap.size B);have cb3:=(Hi.cell (p:=⟨w.heap.size,0,none⟩) (by show w.heap.size<(w1.alloc (.cells #[.string t] 9)).heap.size;omega)).trans cb2;have ct3:=(Hi.cell (p:=⟨w1.heap.size,0,none⟩) (by show w1.heap.size<(w1.alloc (.cells #[.string t] 9)).heap.size;omega)).trans ct2;have f0:((w1.alloc (.cells #[.string t] 9)).alloc (jC w.heap.size w1.heap.size B)).cell? ⟨w1.heap.size+1,0,none⟩=some (.func (.func 98) #[] #[.pointer (some ⟨w.heap.size,0,none⟩),.pointer (some ⟨w1.heap.size,0,none⟩)]):=by simp
  have f1:((w1.alloc (.cells #[.string t] 9)).alloc (jC w.heap.size w1.heap.size B)).cell? ⟨w1.heap.size+1,1,none⟩=some (.func (.func 100) #[.pointer (some ⟨B,0,none⟩)] #[]):=by simp
  have f2:((w1.alloc (.cells #[.string t] 9)).alloc (jC w.heap.size w1.heap.size B)).cell? ⟨w1.heap.size+1,2,none⟩=some (.func (.func 101) #[.pointer (some ⟨B,0,none⟩)] #[]):=by simp
  have f3:((w1.alloc (.cells #[.string t] 9)).alloc (jC w.heap.size w1.heap.size B)).cell? ⟨w1.heap.size+1,3,none⟩=some (.func (.func 100) #[.pointer (some ⟨B,0,none⟩)] #[]):=by simp
  have Hy:((w1.alloc (.cells #[.string t] 9)).alloc (jC w.heap.size w1.heap.size B)).heap.size=w1.heap.size+1+1:=by simp
  have HB:=qI (HD.out.below Hq.out);clear Hi cb2 ct2 Hp Hu Hm;generalize ((w1.alloc (.cells #[.string t] 9)).alloc (jC w.heap.size w1.heap.size B))=W3 at *;have HG:=Hz.out;have HF:Hid (∀ wr:World,W3.grownBy wr (some B)->wr.cell? ⟨w.heap.size,0,none⟩=some (.pointer (some ⟨B,0,none⟩))/\wr.cell? ⟨w1.heap.size,0,none⟩=some (.string t)/\wr.cell? ⟨w1.heap.size+1,0,none⟩=some (.func (.func 98) #[] #[.pointer (some ⟨w.heap.size,0,none⟩),.pointer (some ⟨w1.heap.size,0,none⟩)])/\wr.cell? ⟨w1.heap.size+1,1,none⟩=some (.func (.func 100) #[.pointer (some ⟨B,0,none⟩)] #[])/\wr.cell? ⟨w1.heap.size+1,2,none⟩=some (.func (.func 101) #[.pointer (some ⟨B,0,none⟩)] #[])/\wr.cell? ⟨w1.heap.size+1,3,none⟩=some (.func (.func 100) #[.pointer (some ⟨B,0,none⟩)] #[])):=λwr hg=>
   have k1:=λj=>World.cell?_of_block (a:=⟨w.heap.size,j,none⟩) (hg.block w.heap.size (by omega) (λe=>by injection e;omega))
   have k2:=λj=>World.cell?_of_block (a:=⟨w1.heap.size,j,none⟩) (hg.block w1.heap.size (by omega) (λe=>by injection e;omega))
   have k3:=λj=>World.cell?_of_block (a:=⟨w1.heap.size+1,j,none⟩) (hg.block (w1.heap.size+1) (by omega) (λe=>by injection e;omega))
   ⟨(k1 0).trans cb3,(k2 0).trans ct3,(k3 0).trans f0,(k3 1).trans f1,(k3 2).trans f2,(k3 3).trans f3⟩
  clear cb3 ct3 f0 f1 f2 f3;have HW:=qI hw;clear hw
  go_loopw [29] (λi wr=>∃ k:Nat,k<=4/\i=.int .i64 k/\(∀ j,j<k->s.err t j=0)/\bf wr B (s.run t k)/\W3.grownBy wr (some B)) (λi _=>4 - (intOf i).toNat)
  case atStart=>exact ⟨0,by omega,rfl,λj hj=>by omega,HB.out,⟨rfl,rfl,rfl,lR,λ_ _ _=>rfl⟩⟩
  case round=>
   obtain ⟨k,hk,rfl,Hg,Hx,hg⟩:=hrel;have Hc:=qI Hg;have Ht:=qI Hx;have Hf:=qI hg;obtain ⟨cb4,ct4,g0,g1,g2,g3⟩:=HF.out wr hg;clear Hg Hx hg;have Hj:k=0\/k=1\/k=2\/k=3\/k=4:=by omega
   rcases Hj with rfl|rfl|rfl|rfl|rfl
   ·have HC:Hid (Calls prog 98 #[.pointer (some ⟨w.heap.size,0,none⟩),.pointer (some ⟨w1.heap.size,0,none⟩)] wr λe w'=>e=.returned (au ((s.err t 0:Nat):Int))/\bf w' B (s.run t (0+1))/\wr.grownBy w' (some B)):=Hn B w.heap.size w1.heap.size (s.run t 0) t wr Ht.out HW.out HA.out cb4 ct4;clear HF cb4 ct4
    rcases oQ (s.err t 0) with ⟨h0,he⟩|⟨h0,he⟩
    ·rw [he] at HC;clear he
     go_wp2_with fail
     refine HC.out.mono ?_;rintro e w5 ⟨rfl,h5,h6⟩;have H5:=qI h5;have H6:=qI (cD Hf.out h6);clear h5 h6 HC
     go_wp2
     go_roundw
     case rel=>exact ⟨0+1,by omega,by go_num,λj hj=>by rcases Nat.lt_succ_iff_lt_or_eq.1 hj with h|h;exact Hc.out j h;rw [h];exact h0,H5.out,H6.out⟩
     case measure=>simp [intOf]
    ·rw [he] at HC
     go_wp2_with fail
     refine HC.out.mono ?_;rintro e w5 ⟨rfl,h5,h6⟩;have H5:=qI h5;have H6:=qI (cD Hf.out h6);clear h5 h6 HC
     go_wp2
     go_ret;have Ha:=(Dk.from_upto (by omega) Hc.out).trans (Dk.from_no (by omega) h0);exact ⟨by rw [Hb.out,Ha,he];rfl,by rw [Hb.out,Ha];exact H5.out,cD (lj Hq.out) H6.out⟩
   ·have HC:Hid (Calls prog 100 #[.pointer (some ⟨B,0,none⟩)] wr λe w'=>e=.returned (au ((s.err t 1:Nat):Int))/\bf w' B (s.run t (1+1))/\wr.grownBy w' (some B)):=xe B (s.run t 1) wr Ht.out;clear HF cb4 ct4
    rcases oQ (s.err t 1) with ⟨h0,he⟩|⟨h0,he⟩
    ·rw [he] at HC;clear he
     go_wp2_with fail
     refine HC.out.mono ?_;rintro e w5 ⟨rfl,h5,h6⟩;have H5:=qI h5;have H6:=qI (cD Hf.out h6);clear h5 h6 HC
     go_wp2
     go_roundw
     case rel=>exact ⟨1+1,by omega,by go_num,λj hj=>by rcases Nat.lt_succ_iff_lt_or_eq.1 hj with h|h;exact Hc.out j h;rw [h];exact h0,H5.out,H6.out⟩
     case measure=>simp [intOf]
    ·rw [he] at HC
     go_wp2_with fail
     refine HC.out.mono ?_;rintro e w5 ⟨rfl,h5,h6⟩;have H5:=qI h5;have H6:=qI (cD Hf.out h6);clear h5 h6 HC
     go_wp2
     go_ret;have Ha:=(Dk.from_upto (by omega) Hc.out).trans (Dk.from_no (by omega) h0);exact ⟨by rw [Hb.out,Ha,he];rfl,by rw [Hb.out,Ha];exact H5.out,cD (lj Hq.out) H6.out⟩
   ·have HC:Hid (Calls prog 101 #[.pointer (some ⟨B,0,none⟩)] wr λe w'=>e=.returned (au ((s.err t 2:Nat):Int))/\bf w' B (s.run t (2+1))/\wr.grownBy w' (some B)):=Hk B (s.run t 2) wr Ht.out (by rw [oP (Hc.out 0 (by omega)) (Hc.out 1 (by omega))];rfl) (by rw [oP (Hc.out 0 (by omega)) (Hc.out 1 (by omega))]);clear HF cb4 ct4
    rcases oQ (s.err t 2) with ⟨h0,he⟩|⟨h0,he⟩
    ·rw [he] at HC;clear he
     go_wp2_with fail
     refine HC.out.mono ?_;rintro e w5 ⟨rfl,h5,h6⟩;have H5:=qI h5;have H6:=qI (cD Hf.out h6);clear h5 h6 HC
     go_wp2
     go_roundw
     case rel=>exact ⟨2+1,by omega,by go_num,λj hj=>by rcases Nat.lt_succ_iff_lt_or_eq.1 hj with h|h;exact Hc.out j h;rw [h];exact h0,H5.out,H6.out⟩
     case measure=>simp [intOf]
    ·rw [he] at HC
     go_wp2_with fail
     refine HC.out.mono ?_;rintro e w5 ⟨rfl,h5,h6⟩;have H5:=qI h5;have H6:=qI (cD Hf.out h6);clear h5 h6 HC
     go_wp2
     go_ret;have Ha:=(Dk.from_upto (by omega) Hc.out).trans (Dk.from_no (by omega) h0);exact ⟨by rw [Hb.out,Ha,he];rfl,by rw [Hb.out,Ha];exact H5.out,cD (lj Hq.out) H6.out⟩
   ·have HC:Hid (Calls prog 100 #[.pointer (some ⟨B,0,none⟩)] wr λe w'=>e=.returned (au ((s.err t 3:Nat):Int))/\bf w' B (s.run t (3+1))/\wr.grownBy w' (some B)):=xe B (s.run t 3) wr Ht.out;clear HF cb4 ct4
    rcases oQ (s.err t 3) with ⟨h0,he⟩|⟨h0,he⟩
    ·rw [he] at HC;clear he
     go_wp2_with fail
     refine HC.out.mono ?_;rintro e w5 ⟨rfl,h5,h6⟩;have H5:=qI h5;have H6:=qI (cD Hf.out h6);clear h5 h6 HC
     go_wp2
     go_roundw
     case rel=>exact ⟨3+1,by omega,by go_num,λj hj=>by rcases Nat.lt_succ_iff_lt_or_eq.1 hj with h|h;exact Hc.out j h;rw [h];exact h0,H5.out,H6.out⟩
     case measure=>simp [intOf]
    ·rw [he] at HC
     go_wp2_with fail
     refine HC.out.mono ?_;rintro e w5 ⟨rfl,h5,h6⟩;have H5:=qI h5;have H6:=qI (cD Hf.out h6);clear h5 h6 HC
     go_wp2
     go_ret;have Ha:=(Dk.from_upto (by omega) Hc.out).trans (Dk.from_no (by omega) h0);exact ⟨by rw [Hb.out,Ha,he];rfl,by rw [Hb.out,Ha];exact H5.out,cD (lj Hq.out) H6.out⟩
   ·go_wp2
    go_ret;have Ha:=(Dk.from_upto (by omega) Hc.out).trans Dk.from_end;exact ⟨by rw [Hb.out,Ha];rfl,by rw [Hb.out,Ha];exact Ht.out,cD (lj Hq.out) Hf.out⟩
 ·have Hs:Hid (iQ hs=.tuple #[.string ⟨#[]⟩,au (aB hs:Nat)]):=by unfold Hid iQ;rw [if_neg hf]
  have Hw:=qI (eh hf);have Hb:Hid (s.save hs=(aB hs,s)):=by unfold Hid Dk.save;rw [if_neg hf]
  rw [Hs.out,Hw.out] at Ho;clear Hs hf He
  go_enter func56,ntmps56
  go_wp2_with fail
  generalize w.alloc (.cells #[.pointer (some ⟨B,0,none⟩)] 32)=A at *;refine Ho.out.mono ?_;rintro e w1 ⟨rfl,Hl⟩;have Hm:=qI (Hh.out.trans (Hl.mono Hh.out.size));have Hp:=qI (Hm.out.alloc Hm.out.size (.cells #[.string ⟨#[]⟩] 9));clear Hl cb Ho Hr Hh
  go_wp2
  go_ret;exact ⟨by rw [Hb.out,Hw.out];rfl,by rw [Hb.out];exact HD.out.below Hp.out,lj Hp.out⟩
end
section
open RowKit Shelf
open Sv (Gv Hd gv hd wd Tx cV aF aB body mu OkL)
structure Holds (s:Dk) (hs:List Hd):Prop where
 up:s.d=false
 ft:s.n.ft=true
 fb:s.n.fb=⟨(aF hs).toArray⟩
 hf:aB hs=0
 len:(aF hs).length<=6000
 ok:OkL hs
theorem Ho (s:Dk) (t:ByteArray):(s.err t 0=0/\s.err t 1=0/\s.err t 2=0/\s.err t 3=0/\s.from t 0=(0,s.run t 4))\/∃ k,k<4/\(∀ j,j<k->s.err t j=0)/\s.err t k≠0/\s.from t 0=(s.err t k,s.run t (k+1)):=by
 by_cases h0:s.err t 0=0
 ·by_cases h1:s.err t 1=0
  ·by_cases h2:s.err t 2=0
   ·by_cases h3:s.err t 3=0
    ·exact .inl ⟨h0,h1,h2,h3,by rw [Dk.from_yes (by decide) h0,Dk.from_yes (by decide) h1,Dk.from_yes (by decide) h2,Dk.from_yes (by decide) h3,Dk.from_end]⟩
    ·exact .inr ⟨3,by decide,λj hj=>by have:j=0\/j=1\/j=2:=(by omega);rcases this with rfl|rfl|rfl <;> assumption,h3,by rw [Dk.from_yes (by decide) h0,Dk.from_yes (by decide) h1,Dk.from_yes (by decide) h2,Dk.from_no (by decide) h3]⟩
   ·exact .inr ⟨2,by decide,λj hj=>by have:j=0\/j=1:=(by omega);rcases this with rfl|rfl <;> assumption,h2,by rw [Dk.from_yes (by decide) h0,Dk.from_yes (by decide) h1,Dk.from_no (by decide) h2]⟩
  ·exact .inr ⟨1,by decide,λj hj=>by have:j=0:=(by omega);rw [this];exact h0,h1,by rw [Dk.from_yes (by decide) h0,Dk.from_no (by decide) h1]⟩
 ·exact .inr ⟨0,by decide,λj hj=>by omega,h0,Dk.from_no (by decide) h0⟩
theorem Hq {s:Dk} {hs:List Hd} (hl:s.l<0) (hd:s.d=false) (hf:aB hs=0) (ht:(aF hs).length<=6000):(s.save hs).1=0:=by
 have hE:∀ l:Int,l<0->bo l false=0:=λl h=>by unfold bo;rw [if_neg (by simp;omega)]
 have hN:∀ l:Int,l<0->aQ l false=l:=λl h=>by unfold aQ;rw [if_neg (by simp;omega),if_neg (by omega)]
 obtain ⟨n,k,wt,l,d⟩:=s;dsimp only at hl hd;subst hd;unfold Dk.save;rw [if_pos hf];have Ha:¬ 6000<(ByteArray.mk (aF hs).toArray).size:=by simp [ByteArray.size];omega
 generalize ByteArray.mk (aF hs).toArray=t at *;have h0:Dk.err ⟨n,k,wt,l,false⟩ t 0=0:=by
  show (Dk.write _ t).1=0
  unfold Dk.write;rw [if_neg Ha];unfold Dk.apply;rw [if_pos (show bo (Dk.run ⟨n,k,wt,l,false⟩ t 0).l (Dk.run ⟨n,k,wt,l,false⟩ t 0).d=0 from hE l hl)]
 have h1:Dk.err ⟨n,k,wt,l,false⟩ t 1=0:=by
  show (Dk.sync _).1=0
  rw [xf h0];unfold Dk.sync;rw [if_pos (by show bo (aQ l false) false=0;rw [hN l hl];exact hE l hl)]
 have h2:Dk.err ⟨n,k,wt,l,false⟩ t 2=0:=by
  show (Dk.apply _ _).1=0
  rw [oP h0 h1];unfold Dk.apply;rw [if_pos (by show bo (aQ (aQ l false) false) false=0;rw [hN l hl,hN l hl];exact hE l hl)]
 have h3:Dk.err ⟨n,k,wt,l,false⟩ t 3=0:=by
  show (Dk.sync _).1=0
  rw [xh h0 h1 h2];unfold Dk.sync;rw [if_pos (by show bo (aQ (aQ (aQ l false) false) false) false=0;rw [hN l hl,hN l hl,hN l hl];exact hE l hl)]
 rw [Dk.from_yes (by decide) h0,Dk.from_yes (by decide) h1,Dk.from_yes (by decide) h2,Dk.from_yes (by decide) h3,Dk.from_end]
end
section
open Sv (Hd aF aB)
def Calm (s:Dk):Prop:=s.d=false/\s.l=-1/\s.wt=none
theorem xj:Calm Dk.fresh:=⟨rfl,rfl,rfl⟩
theorem xl {s:Dk} (h:Calm s) {hs:List Hd} (hf:aB hs=0):((aF hs).length<=6000->(s.save hs).1=0)/\(6000<(aF hs).length->(s.save hs).1=2)/\Calm (s.save hs).2:=by
 by_cases hl:6000<(aF hs).length
 ·have hw:s.write ⟨(aF hs).toArray⟩=(2,s):=if_pos (by simpa [ByteArray.size] using hl);have h0:s.err ⟨(aF hs).toArray⟩ 0=2:=by
   show (s.write _).1=2
   rw [hw]
  unfold Dk.save;rw [if_pos hf,Dk.from_no (by decide) (by rw [h0];decide)];refine ⟨λh=>absurd h (by omega),λ_=>h0,?_⟩
  show Calm (s.write _).2
  rw [hw];exact h
 ·have h0:=Hq (s:=s) (by rw [h.2.1];decide) h.1 hf (by omega);refine ⟨λ_=>h0,λh=>absurd h hl,?_⟩;unfold Dk.save at h0 ⊢;rw [if_pos hf] at h0 ⊢
  rcases Ho s ⟨(aF hs).toArray⟩ with ⟨e0,e1,e2,e3,e⟩|⟨k,_,_,hk,e⟩
  ·rw [e,Hm e0 e1 e2 e3];refine ⟨rfl,?_,rfl⟩
   show aQ (aQ (aQ (aQ s.l s.d) false) false) false=-1
   rw [h.1,h.2.1];rfl
  ·rw [e] at h0;exact absurd h0 hk
end
