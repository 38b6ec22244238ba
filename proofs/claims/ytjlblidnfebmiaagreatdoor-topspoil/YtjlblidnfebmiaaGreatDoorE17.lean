import Derived.Test.YtjlblidnfebmiaaGreatDoorE15
import Derived.Test.YtjlblidnfebmiaaGreatDoorE16
import Derived.Test.YtjlblidnfebmiaaGreatDoorCards
import Derived.Test.YtjlblidnfebmiaaGreatDoorTie
import Derived.Laws.ResultCell
import Derived.ShutString
import Derived.Deep.DeepHandedRow
import Derived.Lib.LaidTab
import Derived.Stop.LaidErr
set_option maxRecDepth 100000
set_option maxHeartbeats 16000000
open Go Go.RowKit
open Go.Proofs.Tryz
namespace Go.Proofs.YtjlblidnfebmiaaGreatDoor
variable {B base k:Nat} {W a w w':World} {v:Value} {xs:List Int}
def nOf (l:List UInt8):Int:=if cQ 16 l=true then bG l else 0
def gOf (l:List UInt8):Bool:=cQ 16 l
theorem NQ (l:List UInt8):iH 16 l=.tuple #[(nOf l:Int),.bool (gOf l)]:=by
 unfold iH nOf gOf
 rcases two (cQ 16 l) with h|h <;> simp [h]
theorem kC (l:List UInt8):bT l=if gOf l=true then some (nOf l) else none:=by
 unfold bT nOf gOf
 rcases two (cQ 16 l) with h|h <;> simp [h]
theorem qF (s:ByteArray) (w:World) (hs:s.size<=maxLen) :
  Calls prog 247 #[s] w λe w'=>e=.returned (.tuple #[(nOf s.data.toList:Int),.bool (gOf s.data.toList)])/\w'=w:=by
 have a:=qI (uZ s 16 w hs);rw [NQ] at a
 go_enter func247,ntmps247
 go_wp2_with fail
 refine a.o.mono ?_;rintro e b ⟨rfl,rfl⟩
 go_wp2
 go_ret2;exact ⟨rfl,rfl⟩
theorem Ck (s r:ByteArray) (w:World) (hs:s.size<=maxLen) (h:r.size<=maxLen) :
  Calls prog 248 #[s,r] w λe w'=>e=.returned (.tuple #[.agg #[(nOf s.data.toList:Int),(nOf r.data.toList:Int)],.bool (gOf s.data.toList && gOf r.data.toList)])/\Below w w w':=by
 have f:=qI λW=>qF s W hs;have g:=qI λW=>qF r W h;have d:=qI ((Q0 w w).alloc (lR) (.cells #[(nOf s.data.toList:Int),(nOf r.data.toList:Int)] 62));generalize nOf s.data.toList=a at *;generalize nOf r.data.toList=b at *;generalize gOf s.data.toList=p at *;generalize gOf r.data.toList=q at *
 rcases two p with rfl|rfl
 all_goals
  go_enter func248,ntmps248
  go_wp2_with fail
  refine (f.o _).mono ?_;rintro e c ⟨rfl,rfl⟩
  go_wp2_with fail
  refine (g.o _).mono ?_;rintro e c ⟨rfl,rfl⟩
  go_wp2_with fail
  (try simp only [Exit.inBlock,Exit.then]);refine bodyPost_ret (v:=.tuple #[.agg #[(a:Int),(b:Int)],_]) ?_ rfl ⟨rfl,d.o⟩;rw [results_cell_tmp rfl];go_simp
theorem wJ (h:Below B a w) (n:Nat):Below B a (w.drewN n):=⟨h.os,h.tape,h.output,h.size,h.block⟩
theorem NR (s:ByteArray) (w:World) (hs:s.size<4294967281) (f:cO w) :
  Calls prog 250 #[s] w λe w'=>e=.returned (.tuple #[.agg #[.string ⟨(aS 58 s.data.toList).1.toArray⟩,(nOf (aS 58 s.data.toList).2.1:Int)],.bool (gOf (aS 58 s.data.toList).2.1)])/\Below w w w':=by
 have Ha:=qI ((Q0 w w).alloc (lR) (.cells #[.string ⟨#[]⟩,(0:Int)] 127));have h:=qI (wC s 58 _ hs (f.below Ha.o));have hle:=(wB 58 s.data.toList).2;have Hb:s.data.toList.length=s.size:=by simp
 generalize (aS 58 s.data.toList).2.2=j at *;generalize (aS 58 s.data.toList).2.1=b at *;generalize (aS 58 s.data.toList).1=a at *;have c:=qI λW=>qF ⟨b.toArray⟩ W (by unfold maxLen;show b.length<=_;omega);have d:(ByteArray.mk b.toArray).data.toList=b:=by simp
 rw [d] at c;clear f hle Hb d;generalize nOf b=n at *;generalize gOf b=g at *
 go_enter func250,ntmps250
 go_wp2_with fail
 refine h.o.mono ?_;rintro e i ⟨rfl,m,rfl⟩
 go_wp2_with fail
 refine (c.o _).mono ?_;rintro e i ⟨rfl,rfl⟩
 go_wp2_with fail
 (try simp only [Exit.inBlock,Exit.then]);refine bodyPost_ret (v:=.tuple #[.agg #[.string ⟨a.toArray⟩,(n:Int)],g]) ?_ rfl ⟨rfl,((wJ Ha.o m).setCell (p:=w.heap.size) (lR) _).setCell (p:=⟨w,1,none⟩) (lR) _⟩;rw [results_cell_tmp rfl];go_simp
def gu (l:List UInt8):Nat:=if l=[45] then 0 else (dC l).1
def jp (l:List UInt8):Bool:=decide (l=[45]) || decide ((dC l).2=0)
theorem Cl (l:List UInt8):oR l=if jp l=true then some (gu l) else none:=by grind [oR,jp,gu]
theorem wK (s:ByteArray):(s.toList == [45])=decide (s.data.toList=[45]):=by
 rw [Qs]
 by_cases h:s.data.toList=[45] <;> simp [h]
theorem NS (s:ByteArray) (w:World) (hs:s.size<=maxLen) (j:cO w) :
  Calls prog 251 #[s] w λe w'=>e=.returned (.tuple #[.int .u64 (gu s.data.toList:Nat),.bool (jp s.data.toList)])/\Below w w w':=by
 have i:=wK s
 by_cases h:s.data.toList=[45]
 ·have a:Hu (gu s.data.toList=0/\jp s.data.toList=true):=by unfold Hu gu jp;simp [h]
  rw [Qc h] at i;rw [a.o.1,a.o.2]
  go_enter func251,ntmps251
  go_wp2
  go_ret2;exact ⟨rfl,Q0 _ _⟩
 ·rw [Q7 h] at i;have a:Hu (gu s.data.toList=(dC s.data.toList).1/\jp s.data.toList=decide ((dC s.data.toList).2=0)):=by unfold Hu gu jp;simp [h]
  have b:=qI (NO s w hs j);unfold mA at b;rw [a.o.1,a.o.2];clear a j;generalize (dC s.data.toList).1=A at *
  by_cases c:(dC s.data.toList).2=0
  ·have g:sW (dC s.data.toList).2=.nilIface:=by rw [c];rfl
   rw [g] at b;rw [Qc c]
   go_enter func251,ntmps251
   go_wp2_with fail
   refine b.o.mono ?_;rintro e k ⟨rfl,d⟩
   go_wp2
   go_quiet (fail)
   go_wp2
   go_ret2;exact ⟨rfl,wJ d _⟩
  ·have g:sW (dC s.data.toList).2=.iface 108 ((dC s.data.toList).2:Int):=by unfold sW;rw [if_neg c]
   rw [g] at b;rw [Q7 c];generalize (dC s.data.toList).2=f at *
   go_enter func251,ntmps251
   go_wp2_with fail
   refine b.o.mono ?_;rintro e k ⟨rfl,d⟩
   go_wp2
   go_quiet (fail)
   go_wp2
   go_ret2;exact ⟨rfl,wJ d _⟩
theorem wL {e:TypeId} {size:Nat} {n:Nat} {b:List Value} (h:w.ownsRow base e size v n b) (a:Below w w w'):w'.ownsRow base e size v n b:=
 h.kept (row:=none) ⟨a.os,a.tape,a.output,a.size,λj c _=>a.block j c⟩ (by cases hv:v.ownBlock <;> simp)
theorem wM (c:UInt8) (v:Value) (d:List (List UInt8)) (w:World) (base:Nat) (h:w.ownsRow base 9 1 v d.length (dq d)) (p:d.length<=1000) (q:(Lib.join d [c]).length<=1000000) :
  Calls prog 227 #[v,.string ⟨#[c]⟩] w λe w'=>e=.returned (.string ⟨(Lib.join d [c]).toArray⟩)/\Below w w w':=by
 rcases wH h with ⟨rfl,m⟩|⟨g,f,rfl,n,l,Ha⟩
 ·have:d=[]:=Qe m
  subst this;refine (Tryz.strings_Join_none none 0 ⟨#[c]⟩ w).mono ?_;rintro e w' ⟨rfl,rfl⟩;exact ⟨rfl,Q0 _ _⟩
 ·have k:(d.map λ(b:List UInt8)=>ByteArray.mk b.toArray).map (·.data.toList)=d:=by
   rw [List.map_map];exact List.map_id'' (λ_=>rfl) d
  have:=Tryz.strings_Join g 0 f (d.map λ(b:List UInt8)=>ByteArray.mk b.toArray) ⟨#[c]⟩ w (λj x i=>by
   rw [Qd];apply Ha;unfold dq;rw [List.getElem?_map] at i ⊢;obtain ⟨a,o,rfl⟩:=Option.map_eq_some_iff.1 i;rw [o];rfl) l (by simp;omega) (by simpa using n) (by rw [k];show (Lib.join d [c]).length<=_;omega)
  rw [k] at this
  simpa using this
def iO (xs:List Int) (k:Nat):List (List UInt8):=(xs.take k).map aK
theorem NT (h:k<xs.length):iO xs (k+1)=iO xs k++[aK (xs.getD k 0)]:=by
 unfold iO;rw [Qa h,Qj];simp [h]
theorem wN (h:k<=xs.length):(iO xs k).length=k:=by
 unfold iO;simp;omega
theorem Cm (a:List Int):iO a a.length=a.map aK:=by unfold iO;rw [Qh]
theorem NU (v:Value) (a:List Int) (w:World) (h:bA w v a) (n:∀ x∈a,0<=x/\x<=15) (M:a.length<=16) (f:jR w) (t:1<w.heap.size) :
  Calls prog 181 #[v,.func (.func 177) #[] #[]] w λe w'=>e=.returned (.string ⟨(kn a).toArray⟩)/\Below w w w':=by
 obtain ⟨i0,hi,Hh,Hi,Hm⟩:=info_parts ta;obtain ⟨L,c,rfl,A,u⟩:=h;have z:=qI u;have G:=qI f;have s:=qI n;have y:=qI t;clear u f n t;unfold maxLen at A;have E:Hu (∀ (v:Value) (g:World),g.ownsRow w 9 1 v (iO a a.length).length (dq (iO a a.length))->Calls prog 227 #[v,.string ⟨#[44]⟩] g λe w'=>e=.returned (.string ⟨(Lib.join (iO a a.length) [44]).toArray⟩)/\Below g g w'):=by
  intro v g h;refine wM 44 v _ g _ h (by rw [wN (lR)];omega) ?_;refine Q5 (nD 44 20 _ λx n=>?_) (by rw [wN (lR)];omega);rw [Cm] at n;obtain ⟨d,af,rfl⟩:=Qk.1 n;exact lk d (by have:=(s.o d af).2;omega)
 have B:Hu (ei (Lib.join (iO a a.length) [44])=kn a):=by unfold Hu kn;rw [Cm]
 go_enter func181,ntmps181
 go_wp2
 go_loopw [5,10] (λr i wr=>∃ k:Nat,k<=a.length/\i=.int .i64 k/\wr.ownsRow w 9 1 r (iO a k).length (dq (iO a k))/\Below w w wr) (λ_ i _=>a.length - (intOf i).toNat)
 case atStart=>exact ⟨0,by omega,rfl,Qw _ _ _ _,Q0 _ _⟩
 case round=>
  obtain ⟨k,H,rfl,He,m⟩:=hrel
  by_cases l:k<a.length
  ·obtain ⟨b,o,rfl,C,q⟩:=z.o (by omega);have K:=(m.cell (p:=⟨b,o+k,none⟩) C).trans (q k l);have HS:=qI (NT l);have hle:=wN H;have Hn:=s.o (a.getD k 0) (by simp [l]);have Ho:=m.size;clear q;generalize a.getD k 0=x at *;have I:=qI (BY x wr Hn.1 (by omega) (G.o.below m y.o))
   go_wp2_with fail
   refine I.o.mono ?_;rintro e g ⟨rfl,Hc⟩;have Hg:=qI (m.trans (Hc.mono m.size));have Ha:=wL He Hc;have Hk:=Hc.size
   go_wp2_with (at_builtin;refine wpList_append_own _ rfl _ _ 105 rfl w 9 i0 (.string ⟨#[]⟩) 1 16 underlying105 hi Hh Hi Hm rfl (by decide) _ _ _ rfl (Ha.alloc _) ⟨_,0,none⟩ 1 1 [.string ⟨(aK x).toArray⟩] rfl rfl (cell_one_new _ _ _) (qE [aK x]) (by unfold maxLen;omega) (by omega) (by simp;omega) ?_;intro J F Hf Hb _)
   go_roundw
   case rel=>
    refine ⟨k+1,by omega,by go_num,?_,?_⟩
    ·rw [HS.o,td,Q2];exact Hf
    ·exact (Hg.o.alloc Hg.o.size _).grown Hb (by simp;omega) λj D=>(Ha.lt j D).1
   case measure=>simp [intOf];omega
  ·have Hj:k=a.length:=by omega
   subst Hj
   go_wp2_with fail
   refine (E.o _ _ He).mono ?_;rintro e g ⟨rfl,Hc⟩;have Hl:=m.trans (Hc.mono m.size)
   go_wp2_with fail
   refine (wD _ _).mono ?_;rintro e F ⟨rfl,rfl⟩
   go_wp2
   go_ret;exact ⟨by rw [<- B.o];rfl,Hl⟩
theorem de {a:Addr} (h:w.cell? a=some v) (o:Obj):(w.alloc o).cell? a=some v:=
 (((Q0 w w).alloc (lR) o).cell (Q3 w _ h)).trans h
theorem jq (h:Below B a w):Below B a w.drew:=⟨h.os,h.tape,h.output,h.size,h.block⟩
def cD (w:World):Prop:=jR w/\1<w.heap.size
theorem cD.below (h:cD w) (a:Below w w w'):cD w':=⟨h.1.below a h.2,Q1 h.2 a.size⟩
theorem o5 (x:Int) (w:World) (b:0<=x) (c:x<=1125899906842624) (a:cD w):Calls prog 177 #[x] w λe w'=>e=.returned (.string ⟨(aK x).toArray⟩)/\Below w w w':=BY x w b (by omega) a.1
abbrev Cn:=λ(w:World) (kd:ByteArray) (m:Int) (w':World)=>cl w' w (0) kd/\cl w' w (1) m
theorem NV (d:ai) (w:World) (h:nC d) (b:cD w):Calls prog 230 #[.agg #[d.kind,(d.many:Int)]] w λe w'=>e=.returned (.string ⟨(eW d).toArray⟩)/\Below w w w':=by
 have n:=(lj h.1).2;have r:=lk d.many (by have:=h.2.2;omega);have f:ByteArray.mk d.kind.data.toList.toArray=d.kind:=by simp
 have k:=oX d.kind.data.toList [58];have o:=oX (d.kind.data.toList++[58]) (aK d.many);have i:Hu (eW d=d.kind.data.toList++[58]++aK d.many):=rfl;have Hh:=h.2.1;have Hg:=h.2.2;have Hf:d.kind.size<=8:=Q5 (Nat.le_of_eq (by simp)) n;rw [f] at k;clear f;have l:=qI b;have He:=qI (jq ((Q0 w w).alloc (lR) (.cells #[d.kind,(d.many:Int)] 127)));generalize eW d=S at *;generalize d.many=m at *;generalize d.kind=kd at *;have s:¬ 9223372036854775807<kd.size+1:=by omega
 have q:¬ 9223372036854775807<kd.size+1+(aK m).length:=by omega
 clear h b
 go_enter func230,ntmps230
 go_wp2_with fail
 have Ha:=qI (show w.heap.size<(w.alloc (.cells #[kd,(m:Int)] 127)).drew.heap.size/\(w.alloc (.cells #[kd,(m:Int)] 127)).drew.cell? w=some (.string kd)/\(w.alloc (.cells #[kd,(m:Int)] 127)).drew.cell? ⟨w,1,none⟩=some (.int .i64 m) from ⟨by simp,by simp,by simp⟩);refine wp_region_held_drew (S:=Cn w kd m) (by kernel_rfl) Ha.o.2 λj=>?_;refine tk 0 ?_;refine tk 1 ?_;refine tk 2 ?_;refine tk 3 ?_;refine tk 4 ?_;refine rd 5 λK g=>?_;go_simp
 go_wp2_with fail
 refine (o5 m _ (by omega) (by omega) (l.o.below He.o)).mono ?_;rintro e c ⟨rfl,a⟩;have Hc:=qI (He.o.trans (a.mono He.o.size));have Hb:=qI (show w<c.heap.size/\(Cn w kd m) c from ⟨Q1 Ha.o.1 a.size,(a.cell (p:=w.heap.size) Ha.o.1).trans Ha.o.2.1,(a.cell (p:=⟨w,1,none⟩) Ha.o.1).trans Ha.o.2.2⟩);clear a
 go_wp2_with fail
 refine g.o _ _ Hb.o.2 λj=>?_;clear g K;refine tk 6 ?_;refine tk 7 ?_;refine Qn (by kernel_rfl) ?_ _
 go_wp2
 go_ret;exact ⟨by rw [i.o,List.append_assoc];rfl,Hc.o⟩
def iP (xs:List ai) (k:Nat):List (List UInt8):=(xs.take k).map eW
theorem NW {a:List ai} (h:k<a.length):iP a (k+1)=iP a k++[eW (ak a k)]:=by grind [iP,ak,Qa,Qj]
theorem wO {a:List ai} (h:k<=a.length):(iP a k).length=k:=by
 unfold iP;simp;omega
theorem Co (a:List ai):iP a a.length=a.map eW:=by unfold iP;rw [Qh]
theorem NX (v:Value) (a:List ai) (w:World) (h:bO w v a) (n:∀ x∈a,nC x) (M:a.length<=3) (q:cD w) :
  Calls prog 229 #[v,.func (.func 230) #[] #[]] w λe w'=>e=.returned (.string ⟨(jL a).toArray⟩)/\Below w w w':=by
 obtain ⟨i0,hi,Hk,Hl,Hp⟩:=info_parts ta;obtain ⟨L,c,rfl,J,A⟩:=h;have B:=qI A;have G:=qI q;have z:=qI n;clear A q n;unfold maxLen at J;have E:Hu (∀ (v:Value) (f:World),f.ownsRow w 9 1 v (iP a a.length).length (dq (iP a a.length))->Calls prog 227 #[v,.string ⟨#[44]⟩] f λe w'=>e=.returned (.string ⟨(Lib.join (iP a a.length) [44]).toArray⟩)/\Below f f w'):=by
  intro v f h;refine wM 44 v _ f _ h (by rw [wO (lR)];omega) ?_;refine Q5 (nD 44 29 _ λx n=>?_) (by rw [wO (lR)];omega);rw [Co] at n;obtain ⟨d,af,rfl⟩:=Qk.1 n;exact AL (z.o d af)
 have C:Hu (ei (Lib.join (iP a a.length) [44])=jL a):=by unfold Hu jL;rw [Co]
 go_enter func229,ntmps229
 go_wp2
 go_loopw [5,10] (λr i wr=>∃ k:Nat,k<=a.length/\i=.int .i64 k/\wr.ownsRow w 9 1 r (iP a k).length (dq (iP a k))/\Below w w wr) (λ_ i _=>a.length - (intOf i).toNat)
 case atStart=>exact ⟨0,by omega,rfl,Qw _ _ _ _,Q0 _ _⟩
 case round=>
  obtain ⟨k,H,rfl,He,l⟩:=hrel
  by_cases g:k<a.length
  ·obtain ⟨b,o,rfl,t,y⟩:=B.o (by omega);obtain ⟨s,u⟩:=y k g;have c0:=(l.cell (p:=⟨b,o+k*2,none⟩) t).trans s;have c1:=(l.cell (p:=⟨b,o+k*2+1,none⟩) t).trans u;have HS:=qI (NW g);have hle:=wO H;have Hj:=z.o (ak a k) (by simp [ak,g]);have Hq:=l.size;have Hi:=qI (l.alloc l.size (.cells #[(ak a k).kind,((ak a k).many:Int)] 127));have I:=qI (NV (ak a k) _ Hj (G.o.below Hi.o));have Hg:=He.alloc (.cells #[(ak a k).kind,((ak a k).many:Int)] 127);clear y s u Hj;generalize eW (ak a k)=T at *;generalize (ak a k).kind=kd at *;generalize (ak a k).many=m at *
   go_wp2_with fail
   refine I.o.mono ?_;rintro e f ⟨rfl,Hc⟩;have Hh:=qI (Hi.o.trans (Hc.mono Hi.o.size));have Ha:=wL Hg Hc;have Hn:=Hh.o.size;clear Hc
   go_wp2_with (at_builtin;refine wpList_append_own _ rfl _ _ 105 rfl w 9 i0 (.string ⟨#[]⟩) 1 16 underlying105 hi Hk Hl Hp rfl (by decide) _ _ _ rfl (Ha.alloc _) ⟨_,0,none⟩ 1 1 [.string ⟨T.toArray⟩] rfl rfl (cell_one_new _ _ _) (qE [T]) (by unfold maxLen;omega) (by omega) (by simp;omega) ?_;intro K F Hf Hb _)
   go_roundw
   case rel=>
    refine ⟨k+1,by omega,by go_num,?_,?_⟩
    ·rw [HS.o,td,Q2];exact Hf
    ·exact (Hh.o.alloc Hh.o.size _).grown Hb (by simp;omega) λj D=>(Ha.lt j D).1
   case measure=>simp [intOf];omega
  ·have Hm:k=a.length:=by omega
   subst Hm
   go_wp2_with fail
   refine (E.o _ _ He).mono ?_;rintro e f ⟨rfl,Hc⟩;have Ho:=l.trans (Hc.mono l.size)
   go_wp2_with fail
   refine (wD _ _).mono ?_;rintro e F ⟨rfl,rfl⟩
   go_wp2
   go_ret;exact ⟨by rw [<- C.o];rfl,Ho⟩
def ir (base:Nat) (w:World) (v:Value) (ws:List (List UInt8)):Prop:=w.ownsRow base 9 1 v ws.length (dq ws)
theorem wP (ws:List (List UInt8)) (w:World) (base:Nat) (a:base<=w) (b:ws.length<=1000):ir base (w.alloc (.cells (dq ws).toArray 9)) (.slice w ws.length ws.length) ws:=by
 have h:=World.ownsRow_made (base:=base) (e:=9) (size:=1) w (dq ws).toArray ws.length a (by unfold maxLen;omega) (by simp [dq]);refine ⟨by simp [dq],.inr ⟨w,ws.length,_,rfl,a,heap_alloc_new w _,lR,by unfold maxLen;omega,by simp [dq],?_⟩⟩;rw [Nat.mul_one,List.take_of_length_le (by simp [dq])]
abbrev tj:=λ(w:World) (cp:Int) (da:Option Addr) (dn dc:Nat) (w':World)=>cl w' w (0) (.int .u64 cp)/\cl w' w (1) (.slice da dn dc)
theorem NY (g:aP) (dv:Value) (w:World) (af:bA w dv g.dv) (d:nB g) (h:cD w) :
  Calls prog 140 #[.agg #[.int .u64 g.cp,dv]] w λe w'=>∃ v,e=.returned v/\ir w w' v (ej g)/\Below w w w':=by
 have j:=qI h;have Hk:=qI (jq ((Q0 w w).alloc (lR) (.cells #[.int .u64 g.cp,dv] 123)));have l:=qI λW (a:Below w w W)=>NU dv g.dv W (af.below a) d.2.2 d.2.1 (j.o.below a).1 (j.o.below a).2;have m:=qI λW=>NP g.cp W d.1;have k:Hu (ej g=[ei (iz g.cp),kn g.dv]):=rfl;obtain ⟨da,dc,rfl⟩:=af.slice;clear af d h;generalize kn g.dv=D at *;generalize g.dv.length=dn at *;generalize iz g.cp=X at *;generalize ej g=n at *;generalize g.cp=cp at *
 go_enter func140,ntmps140
 go_wp2_with fail
 have Hf:=qI (show w.heap.size<(w.alloc (.cells #[.int .u64 cp,.slice da dn dc] 123)).drew.heap.size/\(w.alloc (.cells #[.int .u64 cp,.slice da dn dc] 123)).drew.cell? w=some (.int .u64 cp)/\(w.alloc (.cells #[.int .u64 cp,.slice da dn dc] 123)).drew.cell? ⟨w,1,none⟩=some (.slice da dn dc) from ⟨by simp,by simp,by simp⟩);refine wp_region_held_drew (S:=tj w cp da dn dc) (by kernel_rfl) Hf.o.2 λf=>?_;refine tk 0 ?_;refine tk 1 ?_;refine tk 4 ?_;refine tk 5 ?_;refine rd 2 λK b=>?_;go_simp
 go_wp2_with fail
 refine (m.o _).mono ?_;rintro e i ⟨rfl,a⟩;have Hh:=qI (Hk.o.trans (a.mono Hk.o.size));have Hg:=qI (show w<i.heap.size/\(tj w cp da dn dc) i from ⟨Q1 Hf.o.1 a.size,(a.cell (p:=w.heap.size) Hf.o.1).trans Hf.o.2.1,(a.cell (p:=⟨w,1,none⟩) Hf.o.1).trans Hf.o.2.2⟩);clear a
 go_wp2_with fail
 refine b.o _ _ Hg.o.2 λf=>?_;clear b K;refine rd 3 λK b=>?_;go_simp
 go_wp2_with fail
 refine (wD _ _).mono ?_;rintro e o ⟨rfl,Hl⟩;subst Hl;have Hc:=Hh;have Ha:=Hg
 go_wp2_with fail
 refine b.o _ _ Ha.o.2 λf=>?_;clear b K;refine rd 6 λK b=>?_;go_simp
 go_wp2_with fail
 refine (l.o _ Hc.o).mono ?_;rintro e c ⟨rfl,a⟩;have He:=qI (Hc.o.trans (a.mono Hc.o.size));have Hb:=qI (show w<c.heap.size/\(tj w cp da dn dc) c from ⟨Q1 Ha.o.1 a.size,(a.cell (p:=w.heap.size) Ha.o.1).trans Ha.o.2.1,(a.cell (p:=⟨w,1,none⟩) Ha.o.1).trans Ha.o.2.2⟩);clear a
 go_wp2_with fail
 refine b.o _ _ Hb.o.2 λf=>?_;clear b K;refine rd 7 λK b=>?_;go_simp
 go_wp2_with fail
 have Hi:=qI (He.o.alloc He.o.size (.cells #[.string ⟨(ei X).toArray⟩,.string ⟨D.toArray⟩] 9));have Hj:=qI (show w.heap.size<(c.alloc (.cells #[.string ⟨(ei X).toArray⟩,.string ⟨D.toArray⟩] 9)).heap.size/\(tj w cp da dn dc) (c.alloc (.cells #[.string ⟨(ei X).toArray⟩,.string ⟨D.toArray⟩] 9)) from ⟨Q1 Hb.o.1 (by simp),de Hb.o.2.1 (.cells #[.string ⟨(ei X).toArray⟩,.string ⟨D.toArray⟩] 9),de Hb.o.2.2 (.cells #[.string ⟨(ei X).toArray⟩,.string ⟨D.toArray⟩] 9)⟩);refine b.o _ _ Hj.o.2 λf=>?_;clear b K;refine tk 8 ?_;refine Qn (by kernel_rfl) ?_ _
 go_wp2
 go_ret;refine ⟨_,rfl,?_,Hi.o⟩;rw [k.o];exact wP [ei X,D] c w He.o.size (by simp)
def jS (B b:Nat) (l:List UInt8) (w:World):Prop:=Lib.IsBuilderF 245 5 B b (Lib.byteCells l) w
theorem jS.below {b:Nat} {l:List UInt8} (h:jS B b l w) (a:Below w w w'):jS B b l w':=by
 have key:∀ p,Lib.BuilderAtF 245 5 B b p (Lib.byteCells l) w->Lib.BuilderAtF 245 5 B b p (Lib.byteCells l) w':=by
  rintro p ⟨e,v,c,g,d⟩;have Ha:b<w:=(gS c).1;refine ⟨e,v,by rw [a.block b Ha];exact c,?_,d⟩;exact g.kept (row:=none) ⟨a.os,a.tape,a.output,a.size,λj f _=>a.block j f⟩ (by cases c:v.ownBlock <;> simp)
 rcases h with h|h
 ·exact .inl (key _ h)
 ·exact .inr (key _ h)
abbrev kD:=(.cells #[.pointer none,.slice none 0 0] 245:Obj)
theorem Cp (w:World):jS w w [] (w.alloc (kD)):=Lib.IsBuilderF.of (Lib.fresh_isBuilder _ _ w)
theorem wQ (B b:Nat) (l s:List UInt8) (w:World) (h:jS B b l w) (g:l.length+s.length<=1000000) (d:B<=w) :
  Calls prog 137 #[b,.string ⟨s.toArray⟩] w λe w'=>e=.returned (.tuple #[(s.length:Int),.nilIface])/\jS B b (l++s) w'/\Below B w w':=by
 have c:=Any.Builder_WriteString_k (P:=prog) (ρ:=lays156_ren) { lays156 with } Tryz.Builder_Extra_156 B b (Lib.byteCells l) ⟨s.toArray⟩ w h (by
  show (Lib.byteCells l).length+s.toArray.size<=_
  simp [Lib.byteCells];omega) d
 refine c.mono ?_;rintro e w' ⟨rfl,a,f,_⟩;refine ⟨rfl,.inr ?_,f⟩;have e:Lib.byteCells l++Lib.strCells ⟨s.toArray⟩=Lib.byteCells (l++s):=by simp [Lib.byteCells,Lib.strCells]
 rw [e] at a;exact a
theorem Cq (B b:Nat) (l:List UInt8) (w:World) (h:jS B b l w) (a:B<=w) :
  Calls prog 141 #[b] w λe w'=>e=.returned (.string ⟨l.toArray⟩)/\Below B w w':=by
 refine (Tryz.Builder_String_any_k B b l w h a).mono ?_;rintro e w' ⟨rfl,_,c,_⟩;exact ⟨rfl,c⟩
theorem ir.below {ws:List (List UInt8)} (h:ir base w v ws) (a:Below w w w'):ir base w' v ws:=wL h a
theorem Cr (v:Value) (ws:List (List UInt8)) (base:Nat) (w:World) (h:ir base w v ws) (f:ws.length<=20) (a:∀ x∈ws,x.length<=400) :
  Calls prog 176 #[v] w λe w'=>e=.returned (.string ⟨(jM ws).toArray⟩)/\Below w w w':=by
 have g:(Lib.join ws [32]).length<=8020:=Q5 (nD 32 400 ws a) (by omega);have d:=qI (wM 32 v ws w base h (by omega) (by omega));have b:=oX (Lib.join ws [32]) [10];have c:Hu (jM ws=Lib.join ws [32]++[10]):=rfl;generalize jM ws=L at *;generalize Lib.join ws [32]=J at *;clear h a
 go_enter func176,ntmps176
 go_wp2_with fail
 refine d.o.mono ?_;rintro e i ⟨rfl,Ha⟩
 go_wp2
 go_ret;exact ⟨by rw [c.o];exact congrArg (λx=>Ending.returned (Value.string x)) b,Ha⟩
abbrev nN:=λ(x0:ByteArray) (x1 x2 x3 x4:Int) (x5:Option Addr) (x6 x7:Nat)=>(.cells #[x0,x1,x2,x3,x4,.slice x5 x6 x7] 65:Obj)
abbrev nO:=λ(w:World) (nm:ByteArray) (am ab cm cb:Int) (da:Option Addr) (dn dc:Nat) (w':World)=>cl w' w (0) nm/\cl w' w (1) am/\cl w' w (2) ab/\cl w' w (3) cm/\cl w' w (4) cb/\cl w' w (5) (.slice da dn dc)
theorem NZ (c:aA) (dv:Value) (w:World) (af:bO w dv c.ds) (u:mr c) (h:cD w) :
  Calls prog 178 #[.agg #[c.nm,(c.am:Int),(c.ab:Int),(c.cm:Int),(c.cb:Int),dv]] w λe w'=>∃ v,e=.returned v/\ir w w' v (eu c)/\Below w w w':=by
 have g:=qI h;have Hm:=qI (jq ((Q0 w w).alloc (lR) (.cells #[c.nm,(c.am:Int),(c.ab:Int),(c.cm:Int),(c.cb:Int),dv] 65)));obtain ⟨_,x,o,r,t,i,n⟩:=u;have s:=qI λW (a:Below w w W)=>NX dv c.ds W (af.below a) n i (g.o.below a);have q:Hu (eu c=[[99,111,110,116],c.nm.data.toList,aK c.am,aK c.ab,aK c.cm,aK c.cb,jL c.ds]):=rfl;have y:Hu (ByteArray.mk c.nm.data.toList.toArray=c.nm):=by unfold Hu;simp
 obtain ⟨da,dc,rfl,_⟩:=af;clear h n i;generalize jL c.ds=D at *;generalize c.ds.length=dn at *;generalize eu c=z at *;generalize c.nm=nm at *;generalize c.am=am at *;generalize c.ab=ab at *;generalize c.cm=cm at *;generalize c.cb=cb at *
 go_enter func178,ntmps178
 go_wp2_with fail
 have Hg:=qI (show w.heap.size<(w.alloc (nN nm am ab cm cb da dn dc)).drew.heap.size/\(w.alloc (nN nm am ab cm cb da dn dc)).drew.cell? w=some (.string nm)/\(w.alloc (nN nm am ab cm cb da dn dc)).drew.cell? ⟨w,1,none⟩=some (.int .i64 am)/\(w.alloc (nN nm am ab cm cb da dn dc)).drew.cell? ⟨w,2,none⟩=some (.int .i64 ab)/\(w.alloc (nN nm am ab cm cb da dn dc)).drew.cell? ⟨w,3,none⟩=some (.int .i64 cm)/\(w.alloc (nN nm am ab cm cb da dn dc)).drew.cell? ⟨w,4,none⟩=some (.int .i64 cb)/\(w.alloc (nN nm am ab cm cb da dn dc)).drew.cell? ⟨w,5,none⟩=some (.slice da dn dc) from ⟨by simp,by simp,by simp,by simp,by simp,by simp,by simp⟩);refine wp_region_held_drew (S:=nO w nm am ab cm cb da dn dc) (by kernel_rfl) Hg.o.2 λd=>?_;refine tk 0 ?_;refine tk 1 ?_;refine tk 2 ?_;refine tk 3 ?_;refine tk 4 ?_;refine tk 6 ?_;refine tk 7 ?_;refine tk 8 ?_;refine tk 10 ?_;refine tk 11 ?_;refine tk 12 ?_;refine tk 14 ?_;refine tk 15 ?_;refine tk 16 ?_;refine tk 18 ?_;refine tk 19 ?_;refine rd 5 λK b=>?_;go_simp
 go_wp2_with fail
 refine (o5 am _ x.1 (by omega) (g.o.below Hm.o)).mono ?_;rintro e j ⟨rfl,a⟩;have Hh:=qI (Hm.o.trans (a.mono Hm.o.size));have Ha:=qI (show w<j.heap.size/\(nO w nm am ab cm cb da dn dc) j from ⟨Q1 Hg.o.1 a.size,(a.cell (p:=w.heap.size) Hg.o.1).trans Hg.o.2.1,(a.cell (p:=⟨w,1,none⟩) Hg.o.1).trans Hg.o.2.2.1,(a.cell (p:=⟨w,2,none⟩) Hg.o.1).trans Hg.o.2.2.2.1,(a.cell (p:=⟨w,3,none⟩) Hg.o.1).trans Hg.o.2.2.2.2.1,(a.cell (p:=⟨w,4,none⟩) Hg.o.1).trans Hg.o.2.2.2.2.2.1,(a.cell (p:=⟨w,5,none⟩) Hg.o.1).trans Hg.o.2.2.2.2.2.2⟩)
 
 clear a
 go_wp2_with fail
 refine b.o _ _ Ha.o.2 λd=>?_;clear b K;refine rd 9 λK b=>?_;go_simp
 go_wp2_with fail
 refine (o5 ab _ o.1 (by omega) (g.o.below Hh.o)).mono ?_;rintro e m ⟨rfl,a⟩;have Hi:=qI (Hh.o.trans (a.mono Hh.o.size));have Hb:=qI (show w<m.heap.size/\(nO w nm am ab cm cb da dn dc) m from ⟨Q1 Ha.o.1 a.size,(a.cell (p:=w.heap.size) Ha.o.1).trans Ha.o.2.1,(a.cell (p:=⟨w,1,none⟩) Ha.o.1).trans Ha.o.2.2.1,(a.cell (p:=⟨w,2,none⟩) Ha.o.1).trans Ha.o.2.2.2.1,(a.cell (p:=⟨w,3,none⟩) Ha.o.1).trans Ha.o.2.2.2.2.1,(a.cell (p:=⟨w,4,none⟩) Ha.o.1).trans Ha.o.2.2.2.2.2.1,(a.cell (p:=⟨w,5,none⟩) Ha.o.1).trans Ha.o.2.2.2.2.2.2⟩)
 
 clear a
 go_wp2_with fail
 refine b.o _ _ Hb.o.2 λd=>?_;clear b K;refine rd 13 λK b=>?_;go_simp
 go_wp2_with fail
 refine (o5 cm _ r.1 (by omega) (g.o.below Hi.o)).mono ?_;rintro e k ⟨rfl,a⟩;have Hk:=qI (Hi.o.trans (a.mono Hi.o.size));have He:=qI (show w<k.heap.size/\(nO w nm am ab cm cb da dn dc) k from ⟨Q1 Hb.o.1 a.size,(a.cell (p:=w.heap.size) Hb.o.1).trans Hb.o.2.1,(a.cell (p:=⟨w,1,none⟩) Hb.o.1).trans Hb.o.2.2.1,(a.cell (p:=⟨w,2,none⟩) Hb.o.1).trans Hb.o.2.2.2.1,(a.cell (p:=⟨w,3,none⟩) Hb.o.1).trans Hb.o.2.2.2.2.1,(a.cell (p:=⟨w,4,none⟩) Hb.o.1).trans Hb.o.2.2.2.2.2.1,(a.cell (p:=⟨w,5,none⟩) Hb.o.1).trans Hb.o.2.2.2.2.2.2⟩)
 
 clear a
 go_wp2_with fail
 refine b.o _ _ He.o.2 λd=>?_;clear b K;refine rd 17 λK b=>?_;go_simp
 go_wp2_with fail
 refine (o5 cb _ t.1 (by omega) (g.o.below Hk.o)).mono ?_;rintro e l ⟨rfl,a⟩;have Hj:=qI (Hk.o.trans (a.mono Hk.o.size));have Hc:=qI (show w<l.heap.size/\(nO w nm am ab cm cb da dn dc) l from ⟨Q1 He.o.1 a.size,(a.cell (p:=w.heap.size) He.o.1).trans He.o.2.1,(a.cell (p:=⟨w,1,none⟩) He.o.1).trans He.o.2.2.1,(a.cell (p:=⟨w,2,none⟩) He.o.1).trans He.o.2.2.2.1,(a.cell (p:=⟨w,3,none⟩) He.o.1).trans He.o.2.2.2.2.1,(a.cell (p:=⟨w,4,none⟩) He.o.1).trans He.o.2.2.2.2.2.1,(a.cell (p:=⟨w,5,none⟩) He.o.1).trans He.o.2.2.2.2.2.2⟩)
 
 clear a
 go_wp2_with fail
 refine b.o _ _ Hc.o.2 λd=>?_;clear b K;refine rd 20 λK b=>?_;go_simp
 go_wp2_with fail
 refine (s.o _ Hj.o).mono ?_;rintro e f ⟨rfl,a⟩;have Hl:=qI (Hj.o.trans (a.mono Hj.o.size));have Hf:=qI (show w<f.heap.size/\(nO w nm am ab cm cb da dn dc) f from ⟨Q1 Hc.o.1 a.size,(a.cell (p:=w.heap.size) Hc.o.1).trans Hc.o.2.1,(a.cell (p:=⟨w,1,none⟩) Hc.o.1).trans Hc.o.2.2.1,(a.cell (p:=⟨w,2,none⟩) Hc.o.1).trans Hc.o.2.2.2.1,(a.cell (p:=⟨w,3,none⟩) Hc.o.1).trans Hc.o.2.2.2.2.1,(a.cell (p:=⟨w,4,none⟩) Hc.o.1).trans Hc.o.2.2.2.2.2.1,(a.cell (p:=⟨w,5,none⟩) Hc.o.1).trans Hc.o.2.2.2.2.2.2⟩)
 
 clear a
 go_wp2_with fail
 refine b.o _ _ Hf.o.2 λd=>?_;clear b K;refine rd 21 λK b=>?_;go_simp
 go_wp2_with fail
 have Ho:=qI (Hl.o.alloc Hl.o.size (.cells #[.string ⟨#[99,111,110,116]⟩,nm,.string ⟨(aK am).toArray⟩,.string ⟨(aK ab).toArray⟩,.string ⟨(aK cm).toArray⟩,.string ⟨(aK cb).toArray⟩,.string ⟨D.toArray⟩] 9));have Hn:=qI (show w.heap.size<(f.alloc (.cells #[.string ⟨#[99,111,110,116]⟩,nm,.string ⟨(aK am).toArray⟩,.string ⟨(aK ab).toArray⟩,.string ⟨(aK cm).toArray⟩,.string ⟨(aK cb).toArray⟩,.string ⟨D.toArray⟩] 9)).heap.size/\(nO w nm am ab cm cb da dn dc) (f.alloc (.cells #[.string ⟨#[99,111,110,116]⟩,nm,.string ⟨(aK am).toArray⟩,.string ⟨(aK ab).toArray⟩,.string ⟨(aK cm).toArray⟩,.string ⟨(aK cb).toArray⟩,.string ⟨D.toArray⟩] 9)) from ⟨Q1 Hf.o.1 (by simp),de Hf.o.2.1 (.cells #[.string ⟨#[99,111,110,116]⟩,nm,.string ⟨(aK am).toArray⟩,.string ⟨(aK ab).toArray⟩,.string ⟨(aK cm).toArray⟩,.string ⟨(aK cb).toArray⟩,.string ⟨D.toArray⟩] 9),de Hf.o.2.2.1 (.cells #[.string ⟨#[99,111,110,116]⟩,nm,.string ⟨(aK am).toArray⟩,.string ⟨(aK ab).toArray⟩,.string ⟨(aK cm).toArray⟩,.string ⟨(aK cb).toArray⟩,.string ⟨D.toArray⟩] 9),de Hf.o.2.2.2.1 (.cells #[.string ⟨#[99,111,110,116]⟩,nm,.string ⟨(aK am).toArray⟩,.string ⟨(aK ab).toArray⟩,.string ⟨(aK cm).toArray⟩,.string ⟨(aK cb).toArray⟩,.string ⟨D.toArray⟩] 9),de Hf.o.2.2.2.2.1 (.cells #[.string ⟨#[99,111,110,116]⟩,nm,.string ⟨(aK am).toArray⟩,.string ⟨(aK ab).toArray⟩,.string ⟨(aK cm).toArray⟩,.string ⟨(aK cb).toArray⟩,.string ⟨D.toArray⟩] 9),de Hf.o.2.2.2.2.2.1 (.cells #[.string ⟨#[99,111,110,116]⟩,nm,.string ⟨(aK am).toArray⟩,.string ⟨(aK ab).toArray⟩,.string ⟨(aK cm).toArray⟩,.string ⟨(aK cb).toArray⟩,.string ⟨D.toArray⟩] 9),de Hf.o.2.2.2.2.2.2 (.cells #[.string ⟨#[99,111,110,116]⟩,nm,.string ⟨(aK am).toArray⟩,.string ⟨(aK ab).toArray⟩,.string ⟨(aK cm).toArray⟩,.string ⟨(aK cb).toArray⟩,.string ⟨D.toArray⟩] 9)⟩);refine b.o _ _ Hn.o.2 λd=>?_;clear b K;refine tk 22 ?_;refine Qn (by kernel_rfl) ?_ _
 go_wp2
 go_ret;refine ⟨_,rfl,?_,Ho.o⟩;rw [q.o]
 have:=wP [[99,111,110,116],nm.data.toList,aK am,aK ab,aK cm,aK cb,D] f w Hl.o.size (by simp)
 unfold dq at this;simp only [Qq,List.map_nil] at this;exact this
theorem N0 (h k:Nat) (gs:List aP) (a:Value) (w:World) (q:w.cell? ⟨h,3,none⟩=some a) (l:cq w a gs) (f:k<gs.length) (i:nB (aq gs k)) (g:cD w) :
  Calls prog 139 #[(k:Int),h] w λe w'=>∃ v,e=.returned v/\ir w w' v (ej (aq gs k))/\Below w w w':=by
 obtain ⟨r,c,rfl,p,j⟩:=l;obtain ⟨b,o,dv,rfl,Ha⟩:=j (by omega);obtain ⟨c0,c1⟩:=Ha.at f;have n:=qI (NY (aq gs k) (dv k) w (Ha.2 k f).2 i g);obtain ⟨da,dc,af⟩:=(Ha.2 k f).2.slice;unfold maxLen at p;clear Ha i g j;generalize ej (aq gs k)=s at *;generalize (aq gs k).cp=cp at *;generalize (aq gs k).dv.length=dn at *;generalize dv k=d at *;subst af
 go_enter func139,ntmps139
 go_wp2_with fail
 refine n.o.mono ?_;rintro e t ⟨v,rfl,m,Hb⟩
 go_wp2
 go_ret;exact ⟨v,rfl,m,Hb⟩
theorem N1 {a b:List (List UInt8)} (h:w.ownsRow base 9 1 v (a.length+b.length) (dq a++dq b)):ir base w v (a++b):=by grind [ir,dq]
theorem N2 (c:aA) (g:aP):(eu c++ej g).length=9:=rfl
abbrev lw:=λ(x0:ByteArray) (x1:Int) (x2:Nat) (x3:Option Addr) (x4:Nat)=>(.cells #[x0,x1,.slice x3 x2 x4] 49:Obj)
abbrev qG:=λ(w:World) (nm:ByteArray) (pr:Int) (ao:Option Addr) (y4 c:Nat) (w':World)=>cl w' w (0) nm/\cl w' w (1) pr/\cl w' w (2) (.slice ao y4 c)
theorem N3 (h:ad) (cv t:Value) (a:Nat) (w:World) (hc:aZ w cv h.pod.cs) (f:w.cell? ⟨a,3,none⟩=some t) (V:cq w t h.gs) (D:ko h) (F:cD w) :
  Calls prog 138 #[du h.pod cv,.func (.func 139) #[] #[.pointer (some ⟨a,0,none⟩)]] w λe w'=>e=.returned (.string ⟨(iK h).toArray⟩)/\Below w w w':=by
 obtain ⟨i0,hi,hv,hn,hM⟩:=info_parts ta;have hp:=qI λk (y:k<h.gs.length) W (hbw:Below w w W)=>N0 a k h.gs t W ((hbw.cell (p:=⟨a,3,none⟩) (Q3 w _ f)).trans f) (V.below hbw) y (D.2.2 _ (sK y)) (F.below hbw);have H2:=qI λk (y:k<h.pod.cs.length) d W (af:bO W d (ae h.pod.cs k).ds) (hbw:Below w w W)=>NZ (ae h.pod.cs k) d W af (D.1.2.2.2 _ (mu y)) (F.below hbw);have s:=qI D;have HT:=qI F;obtain ⟨g,c,rfl,hm,hr⟩:=hc;have HR:=qI hr;clear hr F V f D;unfold maxLen at hm;unfold du;have hO:=s.o.1.2.2.1;have hN:=s.o.2.1;have C:=qI (jq (((Q0 w w).alloc (lR) (lw h.pod.nm h.pod.pr h.pod.cs.length g c)).alloc (by simp) (kD)));have Ho:=qI ((Cp (w.alloc (lw h.pod.nm h.pod.pr h.pod.cs.length g c))).below (jq (Q0 _ _)));have HN:Hu (ByteArray.mk h.pod.nm.data.toList.toArray=h.pod.nm):=by unfold Hu;simp
 have HY:=s.o.1.2.1
 go_enter func138,ntmps138
 go_wp2_with fail
 have Hi:=qI (show w.heap.size<((w.alloc (lw h.pod.nm h.pod.pr h.pod.cs.length g c)).alloc (kD)).drew.heap.size/\((w.alloc (lw h.pod.nm h.pod.pr h.pod.cs.length g c)).alloc (kD)).drew.cell? w=some (.string h.pod.nm)/\((w.alloc (lw h.pod.nm h.pod.pr h.pod.cs.length g c)).alloc (kD)).drew.cell? ⟨w,1,none⟩=some (.int .i64 h.pod.pr)/\((w.alloc (lw h.pod.nm h.pod.pr h.pod.cs.length g c)).alloc (kD)).drew.cell? ⟨w,2,none⟩=some (.slice g h.pod.cs.length c) from ⟨by simp;omega,by simp,by simp,by simp⟩);have Hx:Hu (jS (w.heap.size+1) (w.heap.size+1) [] ((w.alloc (lw h.pod.nm h.pod.pr h.pod.cs.length g c)).alloc (kD)).drew):=by have:=Ho.o;rw [show (w.alloc (lw h.pod.nm h.pod.pr h.pod.cs.length g c)).heap.size=w.heap.size+1 by simp] at this;exact this
 clear Ho;have HW:Hu (gm h.pod=[[112,111,100],h.pod.nm.data.toList,aK h.pod.pr]):=rfl;have hC:=vM s.o.1;have hq:Hu (iK h=jN h.pod++fv h h.pod.cs.length):=rfl;have HV:Hu (∀ v W,ir w W v (gm h.pod)->Calls prog 176 #[v] W λe w'=>e=.returned (.string ⟨(jN h.pod).toArray⟩)/\Below W.heap.size W w'):=λv W Q=>Cr v (gm h.pod) w W Q (by simp [gm]) (λx n=>by have:=AO s.o.1 x n;omega)
 generalize jN h.pod=G at *;generalize gm h.pod=PW at *;generalize ((w.alloc (lw h.pod.nm h.pod.pr h.pod.cs.length g c)).alloc (kD))=U0 at *;generalize h.pod.nm=nm at *;generalize h.pod.pr=pr at *;refine wp_region_held_drew (S:=qG w nm pr g h.pod.cs.length c) (by kernel_rfl) Hi.o.2 λB=>?_;refine tk 0 ?_;refine tk 1 ?_;refine tk 2 ?_;refine tk 3 ?_;refine rd 4 λK l=>?_;go_simp
 go_wp2_with fail
 refine (o5 _ _ HY.1 (by omega) (HT.o.below C.o)).mono ?_;rintro e q ⟨rfl,a⟩;have Hg:=qI (C.o.trans (a.mono C.o.size));have Hc:=qI (show w<q.heap.size/\(qG w nm pr g h.pod.cs.length c) q from ⟨Q1 Hi.o.1 a.size,(a.cell (p:=w.heap.size) Hi.o.1).trans Hi.o.2.1,(a.cell (p:=⟨w,1,none⟩) Hi.o.1).trans Hi.o.2.2.1,(a.cell (p:=⟨w,2,none⟩) Hi.o.1).trans Hi.o.2.2.2⟩);have Hr:=qI (Hx.o.below a);clear a
 go_wp2_with fail
 refine l.o _ _ Hc.o.2 λB=>?_;clear l K;refine rd 5 λK l=>?_;go_simp
 go_wp2_with fail
 have Hm:=qI (Hg.o.alloc Hg.o.size (.cells #[.string ⟨#[112,111,100]⟩,nm,.string ⟨(aK pr).toArray⟩] 9));have Ha:=qI (show w.heap.size<(q.alloc (.cells #[.string ⟨#[112,111,100]⟩,nm,.string ⟨(aK pr).toArray⟩] 9)).heap.size/\(qG w nm pr g h.pod.cs.length c) (q.alloc (.cells #[.string ⟨#[112,111,100]⟩,nm,.string ⟨(aK pr).toArray⟩] 9)) from ⟨Q1 Hc.o.1 (by simp),de Hc.o.2.1 (.cells #[.string ⟨#[112,111,100]⟩,nm,.string ⟨(aK pr).toArray⟩] 9),de Hc.o.2.2.1 (.cells #[.string ⟨#[112,111,100]⟩,nm,.string ⟨(aK pr).toArray⟩] 9),de Hc.o.2.2.2 (.cells #[.string ⟨#[112,111,100]⟩,nm,.string ⟨(aK pr).toArray⟩] 9)⟩);have Hp:=qI (Hr.o.below ((Q0 _ _).alloc (lR) (.cells #[.string ⟨#[112,111,100]⟩,nm,.string ⟨(aK pr).toArray⟩] 9)));have T:Hu (ir w (q.alloc (.cells #[.string ⟨#[112,111,100]⟩,nm,.string ⟨(aK pr).toArray⟩] 9)) (.slice q 3 3) PW):=by unfold Hu;rw [HW.o];exact wP [[112,111,100],nm.data.toList,aK pr] q w Hg.o.size (by simp)
 refine l.o _ _ Ha.o.2 λB=>?_;clear l K;refine rd 6 λK l=>?_;go_simp
 go_wp2_with fail
 refine (HV.o _ _ T.o).mono ?_;rintro e Y ⟨rfl,a⟩;have Hw:=qI (Hm.o.trans (a.mono Hm.o.size));have Hb:=qI (show w<Y.heap.size/\(qG w nm pr g h.pod.cs.length c) Y from ⟨Q1 Ha.o.1 a.size,(a.cell (p:=w.heap.size) Ha.o.1).trans Ha.o.2.1,(a.cell (p:=⟨w,1,none⟩) Ha.o.1).trans Ha.o.2.2.1,(a.cell (p:=⟨w,2,none⟩) Ha.o.1).trans Ha.o.2.2.2⟩);have Hv:=qI (Hp.o.below a);clear a
 go_wp2_with fail
 refine l.o _ _ Hb.o.2 λB=>?_;clear l K;refine rd 7 λK l=>?_;go_simp
 go_wp2_with fail
 refine (wQ _ _ [] G _ Hv.o (Q5 (Nat.le_of_eq (Qd _)) (Q5 hC (by decide))) (Nat.succ_le_of_lt Hb.o.1)).mono ?_;rintro e R ⟨rfl,HU,Hn⟩;have Hy:=qI (Hw.o.trans (Hn.mono (Nat.le_succ _)));have Hh:=qI (show w<R.heap.size/\(qG w nm pr g h.pod.cs.length c) R from ⟨Q1 Hb.o.1 Hn.size,(Hn.cell (p:=w.heap.size) (Nat.lt_succ_self _)).trans Hb.o.2.1,(Hn.cell (p:=⟨w,1,none⟩) (Nat.lt_succ_self _)).trans Hb.o.2.2.1,(Hn.cell (p:=⟨w,2,none⟩) (Nat.lt_succ_self _)).trans Hb.o.2.2.2⟩);have Hs:=qI HU;clear HU Hn
 go_wp2_with fail
 refine l.o _ _ Hh.o.2 λB=>?_;clear l K;refine Qn (by kernel_rfl) ?_ _;have hS:=Hh.o.2.2.2;have hF:Hu (jS (w.heap.size+1) (w.heap.size+1) G R):=Hs.o;have hs:=Hy;have hJ:=qI (Nat.succ_le_of_lt Hh.o.1);clear B Hg Hc Hr Hm Ha Hp T Hw Hb Hv Hy Hh Hs Hi Hx C HV HW HN HY;have H6:=qI (vO s.o)
 go_wp2
 go_loopw [19] (λi wr=>∃ k:Nat,k<=h.pod.cs.length/\i=.int .i64 k/\Below w w wr/\jS (w.heap.size+1) (w.heap.size+1) (G++fv h k) wr/\Hu (w+1<=wr.heap.size)) (λi _=>h.pod.cs.length - (intOf i).toNat)
 case atStart=>exact ⟨0,Nat.zero_le _,rfl,hs.o,by rw [fv,List.append_nil];exact hF.o,hJ⟩
 case round=>
  obtain ⟨k,y,rfl,z,O,HZ⟩:=hrel
  by_cases m:k<h.pod.cs.length
  ·obtain ⟨b,o,dv,rfl,A⟩:=HR.o (by omega);have A:=A.below z;obtain ⟨c0,c1,c2,c3,c4,c5⟩:=A.at m;have hh:=(A.2 k m).2;have E:=qI ((Q0 wr wr).alloc (lR) (.cells #[(ae h.pod.cs k).nm,((ae h.pod.cs k).am:Int),((ae h.pod.cs k).ab:Int),((ae h.pod.cs k).cm:Int),((ae h.pod.cs k).cb:Int),dv k] 65));have Hz:=qI (z.trans (E.o.mono z.size));have HI:=qI (O.below E.o);have HC:=qI (H2.o k m (dv k) _ (hh.below E.o) Hz.o);have HG:=qI λW (a:Below w w W)=>hp.o k (by omega) W a;obtain ⟨N,J⟩:=sM s.o m;have hl:Hu (∀ v W base,ir base W v (eu (ae h.pod.cs k)++ej (aq h.gs k))->Calls prog 176 #[v] W λe w'=>e=.returned (.string ⟨(lh (ae h.pod.cs k) (aq h.gs k)).toArray⟩)/\Below W.heap.size W w'):=λv W base Q=>Cr v _ base W Q (by rw [N2];decide) (λx n=>by
    rcases Qi.1 n with n|n
    ·exact Q5 (AM N x n) (by decide)
    ·exact AN J x n)
   have hR:=AP N J;have hT:=H6.o k y;have hG:Hu (fv h (k+1)=fv h k++lh (ae h.pod.cs k) (aq h.gs k)):=rfl;have H8:Hu ((eu (ae h.pod.cs k)).length=7):=rfl;have HS:Hu ((ej (aq h.gs k)).length=2):=rfl;obtain ⟨da,dc,hu,_⟩:=hh;clear A N J H2 O z H6;generalize lh (ae h.pod.cs k) (aq h.gs k)=CL at *;generalize fv h k=CT at *;generalize eu (ae h.pod.cs k)=I at *;generalize ej (aq h.gs k)=r at *;generalize (ae h.pod.cs k).nm=hV at *;generalize (ae h.pod.cs k).am=am at *;generalize (ae h.pod.cs k).ab=ab at *;generalize (ae h.pod.cs k).cm=cm at *;generalize (ae h.pod.cs k).cb=cb at *;generalize (ae h.pod.cs k).ds.length=dn at *;generalize dv k=d at *;subst hu;have hA:(G++CT).length+CL.length<=1000000:=by rw [Q2];omega
   go_wp2_with fail
   refine HC.o.mono ?_;rintro e W1 ⟨v1,rfl,H9,Ht⟩;have U:=qI Ht;have hD:=qI H9;have HP:=qI (Hz.o.trans (Ht.mono Hz.o.size));clear Ht H9
   go_wp2_with fail
   refine (HG.o _ HP.o).mono ?_;rintro e W2 ⟨v2,rfl,Z,P⟩;have M:=hD.o.below P;have H0:=qI (U.o.trans (P.mono U.o.size));clear P;obtain ⟨rfl,H4⟩|⟨g2,cap2,rfl,hf,hP,Hf⟩:=wH Z
   ·rw [HS.o] at H4;cases H4
   have Hk:∀ j u,(dq r)[j]?=some u->W2.cell? ((g2:Addr).add j)=some u:=λj u L=>by rw [Addr.add_lit,Qd];exact Hf j u L
   have he:=qI H0.o.size;have hz:I.length+r.length<=maxLen:=by rw [H8.o,HS.o];decide
   have HL:(I.length+r.length)*16<=140737488355328:=by rw [H8.o,HS.o];decide
   go_wp2_with (at_builtin;refine wpList_append_own _ rfl _ _ 105 rfl _ 9 i0 (.string ⟨#[]⟩) 1 16 underlying105 hi hv hn hM rfl (by decide) _ _ _ rfl M g2 r.length cap2 (dq r) rfl (by simp [dq]) Hk (qE r) hz HL he.o ?_;intro v' W3 Hj He _)
   have hH:Hu (ir _ W3 v' (I++r)):=qI (N1 Hj);have X:=qI (H0.o.grown He he.o λj L=>(World.ownsRow.lt M j L).1);clear Hj He M Z Hf Hk
   go_wp2_with fail
   refine (hl.o _ _ _ hH.o).mono ?_;rintro e W4 ⟨rfl,H7⟩;have Hl:=qI (X.o.trans (H7.mono X.o.size));have HQ:=qI (HI.o.below Hl.o);have HK:=qI (Hz.o.trans (Hl.o.mono Hz.o.size));have H5:w+1<=W4.heap.size:=Q5 HZ.o (Q5 E.o.size Hl.o.size);clear H7
   go_wp2_with fail
   refine (wQ _ _ _ _ _ HQ.o hA H5).mono ?_;rintro e W5 ⟨rfl,Hq,H⟩;have hy:=qI (HK.o.trans (H.mono (Nat.le_succ _)));have hL:=qI (Q5 H5 H.size);have HH:=qI Hq;clear Hq H
   go_wp2
   go_roundw
   case rel=>exact ⟨k+1,by omega,by go_num,hy.o,by rw [hG.o,<- List.append_assoc];exact HH.o,hL⟩
   case measure=>simp [intOf];omega
  ·have hI:k=h.pod.cs.length:=by omega
   subst hI
   go_wp2_with fail
   refine (Cq _ _ _ _ O HZ.o).mono ?_;rintro e W1 ⟨rfl,Ht⟩;have hE:=z.trans (Ht.mono (Nat.le_succ _))
   go_wp2
   go_ret;exact ⟨by rw [hq.o];rfl,hE⟩
section
open Go.ChangeShapes Go.WideShapes Go.ChangeAt Go.RowKit
theorem N4:ownKnob prog.godebug=none:=by kernel_rfl
theorem Cs:laidOutB prog=true:=by kernel_rfl
theorem N5:(prog.globals[1]?).map (·.type)=some 396:=by kernel_rfl
theorem N6:prog.cellsOf 396=20:=by kernel_rfl
theorem N7:prog.cellsOf 23=1:=by kernel_rfl
theorem N8:(Rows.laid_internal_strconv_uint64pow10:DataW Unit)=Lib.tabData .u64 Lib.pow10Tab:=by kernel_rfl
def N9:Array Value:=#[.int .u8 0,.int .u8 1,.int .u8 28,.int .u8 2,.int .u8 29,.int .u8 14,.int .u8 24,.int .u8 3,.int .u8 30,.int .u8 22,.int .u8 20,.int .u8 15,.int .u8 25,.int .u8 17,.int .u8 4,.int .u8 8,.int .u8 31,.int .u8 27,.int .u8 13,.int .u8 23,.int .u8 21,.int .u8 19,.int .u8 16,.int .u8 7,.int .u8 26,.int .u8 12,.int .u8 18,.int .u8 6,.int .u8 11,.int .u8 5,.int .u8 10,.int .u8 9]
def Oa:Array Value:=#[.int .u8 0,.int .u8 1,.int .u8 56,.int .u8 2,.int .u8 57,.int .u8 49,.int .u8 28,.int .u8 3,.int .u8 61,.int .u8 58,.int .u8 42,.int .u8 50,.int .u8 38,.int .u8 29,.int .u8 17,.int .u8 4,.int .u8 62,.int .u8 47,.int .u8 59,.int .u8 36,.int .u8 45,.int .u8 43,.int .u8 51,.int .u8 22,.int .u8 53,.int .u8 39,.int .u8 33,.int .u8 30,.int .u8 24,.int .u8 18,.int .u8 12,.int .u8 5,.int .u8 63,.int .u8 55,.int .u8 48,.int .u8 27,.int .u8 60,.int .u8 41,.int .u8 37,.int .u8 16,.int .u8 46,.int .u8 35,.int .u8 44,.int .u8 21,.int .u8 52,.int .u8 32,.int .u8 23,.int .u8 11,.int .u8 54,.int .u8 26,.int .u8 40,.int .u8 15,.int .u8 34,.int .u8 20,.int .u8 31,.int .u8 10,.int .u8 25,.int .u8 14,.int .u8 19,.int .u8 9,.int .u8 13,.int .u8 8,.int .u8 7,.int .u8 6]
def Ob:Array Value:=#[.int .u8 128,.int .u8 191,.int .u8 160,.int .u8 191,.int .u8 128,.int .u8 159,.int .u8 144,.int .u8 191,.int .u8 128,.int .u8 143,.int .u8 0,.int .u8 0,.int .u8 0,.int .u8 0,.int .u8 0,.int .u8 0,.int .u8 0,.int .u8 0,.int .u8 0,.int .u8 0,.int .u8 0,.int .u8 0,.int .u8 0,.int .u8 0,.int .u8 0,.int .u8 0,.int .u8 0,.int .u8 0,.int .u8 0,.int .u8 0,.int .u8 0,.int .u8 0]
theorem mxV (a:W.ShapedOpen prog):cO W:=laysM219.s1_3 W a
theorem Oc {rest : List (String × DataW Unit)} (h : laidMet prog (("math/bits.deBruijn32tab", Rows.laid_math_bits_deBruijn32tab) :: ("math/bits.deBruijn64tab", Rows.laid_math_bits_deBruijn64tab) :: ("internal/strconv.uint64pow10", Rows.laid_internal_strconv_uint64pow10) :: rest) W) : cD W := by
 have h2:=laidMet.tail (laidMet.tail h);rw [N8] at h2;have ht:jR W:=Lib.tabIs_of_head sX N5 underlying396 underlying23 N7 N6 h2;exact ⟨ht,Q3 W ⟨1,0,none⟩ (ht.cell sX 0 (by decide))⟩
noncomputable def wR (os:Os):World:=
 { World.holding prog os ⟨#[],#[],[]⟩ with heap:=((((((World.holding prog os ⟨#[],#[],[]⟩).heap.modify 1 fun
   | .cells _ t frozen=>.cells (Lib.pow10Tab.map (Value.int .u64)).toArray t frozen
   | o=>o).modify 2 fun
   | .cells _ t frozen=>.cells N9 t frozen
   | o=>o).modify 3 fun
   | .cells _ t frozen=>.cells Oa t frozen
   | o=>o).modify 5 fun
   | .cells _ t frozen=>.cells Ob t frozen
   | o=>o).modify 4 fun
   | .cells _ t frozen=>.cells (Go.Pinned.utf8FirstZ.map λ(n:Nat)=>Value.int .u8 (n:Int)).toArray t frozen
   | o=>o) }
end
def iQ (hs:List ad):Value:=if bt hs=0 then .tuple #[.string ⟨(bi hs).toArray⟩,.nilIface] else .tuple #[.string ⟨#[]⟩,aL (bt hs:Nat)]
theorem Od (hs:List ad) (k:Nat):gO hs (k+1)=gO hs k++iK (af hs k):=rfl
theorem tl (v:Value) (hs:List ad) (w:World) (h:aX w v hs) (j:cD w):Calls prog 95 #[v] w λe w'=>e=.returned (iQ hs)/\Below w w w':=by
 have Hq:=qI (LH v hs w h)
 by_cases hf:bt hs=0
 ·have l:Hu (iQ hs=.tuple #[.string ⟨(bi hs).toArray⟩,.nilIface]):=by unfold Hu iQ;rw [if_pos hf]
  have Hg:=sL hf h.cps;have L:aL ((bt hs:Nat):Int)=.nilIface:=by rw [hf];rfl
  have I:=qI h;have t:=qI j;have T:=qI Hg;obtain ⟨Q,c,rfl,u,_⟩:=h;have Z:=Hg.1;unfold maxLen at u;have F:Hu (bi hs=cX hs++di (cX hs)):=rfl;have Hz:Hu (cX hs=gO hs hs.length):=rfl;have Hh:=qI (AR Hg);have Hs:=qI (qo (cX hs));clear j Hg
  go_enter func95,ntmps95
  go_wp2_with fail
  refine Hq.o.mono ?_;rintro e a ⟨rfl,Hf⟩;rw [L];have Hv:=qI Hf;have Y:=qI (Hf.alloc Hf.size (kD));have z:=qI (Cp a);have K:Hu (a.heap.size<=(a.alloc (kD)).heap.size):=by unfold Hu;simp
  clear Hf Hq
  go_wp2
  go_loopw [16] (λi wr=>∃ k:Nat,k<=hs.length/\i=.int .i64 k/\Below w w wr/\jS a a (gO hs k) wr/\Hu (a<=wr.heap.size)) (λi _=>hs.length - (intOf i).toNat)
  case atStart=>exact ⟨0,Nat.zero_le _,rfl,Y.o,z.o,K⟩
  case round=>
   obtain ⟨k,U,rfl,g,Hc,r⟩:=hrel
   by_cases d:k<hs.length
   ·obtain ⟨_,_,V,_,y⟩:=I.o.below g;cases V;obtain ⟨b,o,cv,f,rfl,Hm⟩:=y (by omega);obtain ⟨c0,c1,c2,c3⟩:=Hm.at d;obtain ⟨_,p,q⟩:=Hm.2 k d;have Hb:=qI ((Q0 wr wr).alloc (lR) (.cells #[(af hs k).pod.nm,((af hs k).pod.pr:Int),cv k,f k] 101));have Hl:=qI (g.trans (Hb.o.mono g.size));have Hk:=qI (Hc.below Hb.o);have m:=T.o.2 _ (mv d);have Ht:=qI (N3 (af hs k) (cv k) (f k) wr _ (p.below Hb.o) (by simp) (q.below Hb.o) m (t.o.below Hl.o));unfold du at Ht;have HR:=AQ m;have Hw:=Hh.o k U;have M:=qI (Od hs k);obtain ⟨ca,cc,R⟩:=p.sl;obtain ⟨ga,gc,X⟩:=q.sl;clear Hm p q g Hc m y Hh;generalize gO hs k=J at *;generalize iK (af hs k)=N at *;generalize (af hs k).pod.nm=nm at *;generalize (af hs k).pod.pr=pr at *;generalize (af hs k).pod.cs.length=cl at *;generalize (af hs k).gs.length=gl at *;generalize cv k=A at *;generalize f k=O at *;subst R X;have P:J.length+N.length<=1000000:=by omega
    go_wp2_with fail
    refine Ht.o.mono ?_;rintro e s ⟨rfl,He⟩;have Hn:=qI (Hl.o.trans (He.mono Hl.o.size));have Ho:=qI (Hk.o.below He);have Hr:a<=s.heap.size:=Q5 r.o (Q5 Hb.o.size He.size);clear He
    go_wp2_with fail
    refine (wQ _ _ _ _ _ Ho.o P Hr).mono ?_;rintro e W5 ⟨rfl,Ha,Hi⟩;have G:=qI (Hn.o.trans (Hi.mono Hv.o.size));have C:=qI (Q5 Hr Hi.size);have Hj:=qI Ha;clear Ha Hi
    go_wp2
    go_roundw
    case rel=>exact ⟨k+1,by omega,by go_num,G.o,by rw [M.o];exact Hj.o,C⟩
    case measure=>simp [intOf];omega
   ·have S:k=hs.length:=by omega
    subst S;have Hw:=Hh.o _ (lR);rw [<- Hz.o] at Hc Hw;have HS:=Hs.o;have B:Hu (∀ W,Below w w W->Calls prog 142 #[.string ⟨(cX hs).toArray⟩] W λe w'=>e=.returned (.string ⟨(di (cX hs)).toArray⟩)/\Below W.heap.size W w'):=λW n=>BZ _ W (by omega) (t.o.below n).1
    clear Hz Hs Hh;generalize di (cX hs)=H at *;generalize cX hs=D at *;have E:=oX D H
    go_wp2_with fail
    refine (Cq _ _ _ _ Hc r.o).mono ?_;rintro e s ⟨rfl,Hx⟩;have Hp:=qI (g.trans (Hx.mono Hv.o.size));clear Hx g Hc
    go_wp2_with fail
    refine (B.o _ Hp.o).mono ?_;rintro e W2 ⟨rfl,Hy⟩;have Hn:=qI (Hp.o.trans (Hy.mono Hp.o.size));clear Hy
    go_wp2
    go_ret2;refine ⟨?_,Hn.o⟩;rw [l.o,F.o,<- E];rfl
 ·have l:Hu (iQ hs=.tuple #[.string ⟨#[]⟩,aL (bt hs:Nat)]):=by unfold Hu iQ;rw [if_neg hf]
  have x:=qI (eV hf);obtain ⟨Q,c,rfl,u,_⟩:=h;clear j
  go_enter func95,ntmps95
  go_wp2_with fail
  refine Hq.o.mono ?_;rintro e a ⟨rfl,n⟩;rw [x.o]
  go_wp2
  go_ret2;exact ⟨by rw [l.o,x.o];rfl,n⟩
