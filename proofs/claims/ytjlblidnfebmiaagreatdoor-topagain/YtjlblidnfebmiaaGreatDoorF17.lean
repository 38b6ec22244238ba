import Derived.Test.YtjlblidnfebmiaaGreatDoorF15
import Derived.Test.YtjlblidnfebmiaaGreatDoorF16
import Derived.Test.YtjlblidnfebmiaaGreatDoorCards
import Derived.Test.YtjlblidnfebmiaaGreatDoorTie
import Derived.Laws.ResultCell
import Derived.ShutString
import Derived.Deep.DeepHandedRow
import Derived.Lib.LaidTab
import Derived.Stop.LaidErr
set_option maxRecDepth 100000
set_option maxHeartbeats 16000000
open Go Go.RowKit
open Go.Proofs.Tryz
namespace Go.Proofs.YtjlblidnfebmiaaGreatDoor
variable{B base k:Nat}{W a w w':World}{v:Value}{xs:List Int}
def nOf (l:List UInt8):Int:=if cT 16 l=true then bM l else 0
def gOf (l:List UInt8):Bool:=cT 16 l
theorem ON(l:List UInt8):iV 16 l=.tuple #[(nOf l:Int),.bool (gOf l)]:=by
 unfold iV nOf gOf
 rcases two (cT 16 l) with h|h <;> simp[h]
theorem kS(l:List UInt8):bW l=if gOf l=true then some (nOf l) else none:=by
 unfold bW nOf gOf
 rcases two (cT 16 l) with h|h <;> simp[h]
theorem ra(s:ByteArray)(w:World)(hs:s.size<=maxLen) :
  Calls prog 247 #[s] w λe w'=>e=.returned (.tuple #[(nOf s.data.toList:Int),.bool (gOf s.data.toList)])/\w'=w:=by
 have a:=qI (vI s 16 w hs);rw[ON] at a
 go_enter func247,ntmps247
 go_wp2_with fail
 refine a.o.mono ?_;rintro e b ⟨rfl,rfl⟩
 go_wp2
 go_ret2;exact⟨rfl,rfl⟩
theorem CM(s r:ByteArray)(w:World)(hs:s.size<=maxLen)(g:r.size<=maxLen) :
  Calls prog 248 #[s,r] w λe w'=>e=.returned (.tuple #[.agg #[(nOf s.data.toList:Int),(nOf r.data.toList:Int)],.bool (gOf s.data.toList && gOf r.data.toList)])/\Below w w w':=by
 have h:=qI λW=>ra s W hs;have d:=qI λW=>ra r W g;have c:=qI ((Q0 w w).alloc (lR) (.cells #[(nOf s.data.toList:Int),(nOf r.data.toList:Int)] 62));generalize nOf s.data.toList=a at *;generalize nOf r.data.toList=b at *;generalize gOf s.data.toList=p at *;generalize gOf r.data.toList=q at *
 rcases two p with rfl|rfl
 all_goals
  go_enter func248,ntmps248
  go_wp2_with fail
  refine (h.o _).mono ?_;rintro e f ⟨rfl,rfl⟩
  go_wp2_with fail
  refine (d.o _).mono ?_;rintro e f ⟨rfl,rfl⟩
  go_wp2_with fail
  (try simp only[Exit.inBlock,Exit.then]);refine bodyPost_ret (v:=.tuple #[.agg #[(a:Int),(b:Int)],_]) ?_ rfl ⟨rfl,c.o⟩;rw[results_cell_tmp rfl];go_simp
theorem xf(h:Below B a w)(n:Nat):Below B a (w.drewN n):=⟨h.os,h.tape,h.output,h.size,h.block⟩
theorem OO(s:ByteArray)(w:World)(hs:s.size<4294967281)(f:cS w) :
  Calls prog 250 #[s] w λe w'=>e=.returned (.tuple #[.agg #[.string ⟨(aT 58 s.data.toList).1.toArray⟩,(nOf (aT 58 s.data.toList).2.1:Int)],.bool (gOf (aT 58 s.data.toList).2.1)])/\Below w w w':=by
 have Ha:=qI ((Q0 w w).alloc (lR) (.cells #[.string ⟨#[]⟩,(0:Int)] 127));have i:=qI (wX s 58 _ hs (f.below Ha.o));have hle:=(wW 58 s.data.toList).2;have Hb:s.data.toList.length=s.size:=by simp
 generalize (aT 58 s.data.toList).2.2=j at *;generalize (aT 58 s.data.toList).2.1=b at *;generalize (aT 58 s.data.toList).1=a at *;have d:=qI λW=>ra ⟨b.toArray⟩ W (by unfold maxLen;show b.length<=_;omega);have c:(ByteArray.mk b.toArray).data.toList=b:=by simp
 rw[c] at d;clear f hle Hb c;generalize nOf b=n at *;generalize gOf b=g at *
 go_enter func250,ntmps250
 go_wp2_with fail
 refine i.o.mono ?_;rintro e h ⟨rfl,m,rfl⟩
 go_wp2_with fail
 refine (d.o _).mono ?_;rintro e h ⟨rfl,rfl⟩
 go_wp2_with fail
 (try simp only[Exit.inBlock,Exit.then]);refine bodyPost_ret (v:=.tuple #[.agg #[.string ⟨a.toArray⟩,(n:Int)],g]) ?_ rfl ⟨rfl,((xf Ha.o m).setCell (p:=w.heap.size) (lR) _).setCell (p:=⟨w,1,none⟩) (lR) _⟩;rw[results_cell_tmp rfl];go_simp
def gH (l:List UInt8):Nat:=if l=[45] then 0 else (dM l).1
def jA (l:List UInt8):Bool:=decide (l=[45]) || decide ((dM l).2=0)
theorem CN(l:List UInt8):pf l=if jA l=true then some (gH l) else none:=by grind[pf,jA,gH]
theorem xh(s:ByteArray):(s.toList == [45])=decide (s.data.toList=[45]):=by
 rw[Qs]
 by_cases h:s.data.toList=[45] <;> simp[h]
theorem OP(s:ByteArray)(w:World)(hs:s.size<=maxLen)(i:cS w) :
  Calls prog 251 #[s] w λe w'=>e=.returned (.tuple #[.int .u64 (gH s.data.toList:Nat),.bool (jA s.data.toList)])/\Below w w w':=by
 have j:=xh s
 by_cases h:s.data.toList=[45]
 ·have a:Hu (gH s.data.toList=0/\jA s.data.toList=true):=by unfold Hu gH jA;simp[h]
  rw[Qc h] at j;rw[a.o.1,a.o.2]
  go_enter func251,ntmps251
  go_wp2
  go_ret2;exact⟨rfl,Q0 _ _⟩
 ·rw[Q7 h] at j;have a:Hu (gH s.data.toList=(dM s.data.toList).1/\jA s.data.toList=decide ((dM s.data.toList).2=0)):=by unfold Hu gH jA;simp[h]
  have b:=qI (OL s w hs i);unfold mM at b;rw[a.o.1,a.o.2];clear a i;generalize (dM s.data.toList).1=A at *
  by_cases c:(dM s.data.toList).2=0
  ·have d:tJ (dM s.data.toList).2=.nilIface:=by rw[c];rfl
   rw[d] at b;rw[Qc c]
   go_enter func251,ntmps251
   go_wp2_with fail
   refine b.o.mono ?_;rintro e k ⟨rfl,g⟩
   go_wp2
   go_quiet (fail)
   go_wp2
   go_ret2;exact⟨rfl,xf g _⟩
  ·have d:tJ (dM s.data.toList).2=.iface 108 ((dM s.data.toList).2:Int):=by unfold tJ;rw[if_neg c]
   rw[d] at b;rw[Q7 c];generalize (dM s.data.toList).2=f at *
   go_enter func251,ntmps251
   go_wp2_with fail
   refine b.o.mono ?_;rintro e k ⟨rfl,g⟩
   go_wp2
   go_quiet (fail)
   go_wp2
   go_ret2;exact⟨rfl,xf g _⟩
theorem xi{e:TypeId}{size:Nat}{n:Nat}{b:List Value}(h:w.ownsRow base e size v n b)(a:Below w w w'):w'.ownsRow base e size v n b:=
 h.kept (row:=none) ⟨a.os,a.tape,a.output,a.size,λj c _=>a.block j c⟩ (by cases hv:v.ownBlock <;> simp)
theorem xj(c:UInt8)(v:Value)(d:List (List UInt8))(w:World)(base:Nat)(h:w.ownsRow base 9 1 v d.length (dF d))(q:d.length<=1000)(p:(Lib.join d [c]).length<=1000000) :
  Calls prog 227 #[v,.string ⟨#[c]⟩] w λe w'=>e=.returned (.string ⟨(Lib.join d [c]).toArray⟩)/\Below w w w':=by
 rcases xd h with⟨rfl,n⟩|⟨g,f,rfl,l,m,Ha⟩
 ·have:d=[]:=Qe n
  subst this;refine (Tryz.strings_Join_none none 0 ⟨#[c]⟩ w).mono ?_;rintro e w' ⟨rfl,rfl⟩;exact⟨rfl,Q0 _ _⟩
 ·have k:(d.map λ(b:List UInt8)=>ByteArray.mk b.toArray).map (·.data.toList)=d:=by
   rw[List.map_map];exact List.map_id'' (λ_=>rfl) d
  have:=Tryz.strings_Join g 0 f (d.map λ(b:List UInt8)=>ByteArray.mk b.toArray) ⟨#[c]⟩ w (λj x i=>by
   rw[Qd];apply Ha;unfold dF;rw[List.getElem?_map] at i ⊢;obtain⟨a,o,rfl⟩:=Option.map_eq_some_iff.1 i;rw[o];rfl) m (by simp;omega) (by simpa using l) (by rw[k];show (Lib.join d [c]).length<=_;omega)
  rw[k] at this
  simpa using this
def i7 (xs:List Int) (k:Nat):List (List UInt8):=(xs.take k).map aM
theorem OQ(h:k<xs.length):i7 xs (k+1)=i7 xs k++[aM (xs.getD k 0)]:=by
 unfold i7;rw[Qa h,Qj];simp[h]
theorem xl(h:k<=xs.length):(i7 xs k).length=k:=by
 unfold i7;simp;omega
theorem CO(a:List Int):i7 a a.length=a.map aM:=by unfold i7;rw[Qh]
theorem OR(v:Value)(a:List Int)(w:World)(h:bD w v a)(n:∀x∈a,0<=x/\x<=15)(M:a.length<=16)(f:kf w)(q:1<w.heap.size) :
  Calls prog 181 #[v,.func (.func 177) #[] #[]] w λe w'=>e=.returned (.string ⟨(kE a).toArray⟩)/\Below w w w':=by
 obtain⟨i0,hi,Hj,Hm,Hl⟩:=info_parts tM;obtain⟨K,c,rfl,I,u⟩:=h;have E:=qI u;have y:=qI f;have t:=qI n;have A:=qI q;clear u f n q;unfold maxLen at I;have B:Hu (∀(v:Value) (g:World),g.ownsRow w 9 1 v (i7 a a.length).length (dF (i7 a a.length))->Calls prog 227 #[v,.string ⟨#[44]⟩] g λe w'=>e=.returned (.string ⟨(Lib.join (i7 a a.length) [44]).toArray⟩)/\Below g g w'):=by
  intro v g h;refine xj 44 v _ g _ h (by rw[xl (lR)];omega) ?_;refine Q5 (nQ 44 20 _ λx n=>?_) (by rw[xl (lR)];omega);rw[CO] at n;obtain⟨d,ag,rfl⟩:=Qk.1 n;exact lB d (by have:=(t.o d ag).2;omega)
 have z:Hu (eu (Lib.join (i7 a a.length) [44])=kE a):=by unfold Hu kE;rw[CO]
 go_enter func181,ntmps181
 go_wp2
 go_loopw [5,10] (λr i wr=>∃k:Nat,k<=a.length/\i=.int .i64 k/\wr.ownsRow w 9 1 r (i7 a k).length (dF (i7 a k))/\Below w w wr) (λ_ i _=>a.length - (intOf i).toNat)
 case atStart=>exact⟨0,by omega,rfl,Qw _ _ _ _,Q0 _ _⟩
 case round=>
  obtain⟨k,G,rfl,Hc,m⟩:=hrel
  by_cases l:k<a.length
  ·obtain⟨b,o,rfl,D,s⟩:=E.o (by omega);have J:=(m.cell (p:=⟨b,o+k,none⟩) D).trans (s k l);have HS:=qI (OQ l);have hle:=xl G;have Hi:=t.o (a.getD k 0) (by simp[l]);have Ho:=m.size;clear s;generalize a.getD k 0=x at *;have C:=qI (Cs x wr Hi.1 (by omega) (y.o.below m A.o))
   go_wp2_with fail
   refine C.o.mono ?_;rintro e g ⟨rfl,He⟩;have Hg:=qI (m.trans (He.mono m.size));have Ha:=xi Hc He;have Hk:=He.size
   go_wp2_with (at_builtin;refine wpList_append_own _ rfl _ _ 105 rfl w 9 i0 (.string ⟨#[]⟩) 1 16 underlying105 hi Hj Hm Hl rfl (by decide) _ _ _ rfl (Ha.alloc _) ⟨_,0,none⟩ 1 1 [.string ⟨(aM x).toArray⟩] rfl rfl (cell_one_new _ _ _) (qZ [aM x]) (by unfold maxLen;omega) (by omega) (by simp;omega) ?_;intro L F Hf Hb _)
   go_roundw
   case rel=>
    refine⟨k+1,by omega,by go_num,?_,?_⟩
    ·rw[HS.o,tN,Q2];exact Hf
    ·exact (Hg.o.alloc Hg.o.size _).grown Hb (by simp;omega) λj H=>(Ha.lt j H).1
   case measure=>simp[intOf];omega
  ·have Hn:k=a.length:=by omega
   subst Hn
   go_wp2_with fail
   refine (B.o _ _ Hc).mono ?_;rintro e g ⟨rfl,He⟩;have Hh:=m.trans (He.mono m.size)
   go_wp2_with fail
   refine (wY _ _).mono ?_;rintro e F ⟨rfl,rfl⟩
   go_wp2
   go_ret;exact⟨by rw[<- z.o];rfl,Hh⟩
theorem dp{a:Addr}(h:w.cell? a=some v)(o:Obj):(w.alloc o).cell? a=some v:=
 (((Q0 w w).alloc (lR) o).cell (Q3 w _ h)).trans h
theorem jB(h:Below B a w):Below B a w.drew:=⟨h.os,h.tape,h.output,h.size,h.block⟩
def bJ (w:World):Prop:=kf w/\1<w.heap.size
theorem bJ.below(h:bJ w)(a:Below w w w'):bJ w':=⟨h.1.below a h.2,Q1 h.2 a.size⟩
theorem pw(x:Int)(w:World)(b:0<=x)(c:x<=1125899906842624)(a:bJ w):Calls prog 177 #[x] w λe w'=>e=.returned (.string ⟨(aM x).toArray⟩)/\Below w w w':=Cs x w b (by omega) a.1
abbrev CP:=λ(w:World) (kd:ByteArray) (m:Int) (w':World)=>cl w' w (0) kd/\cl w' w (1) m
theorem OS(d:ap)(w:World)(h:nP d)(f:bJ w):Calls prog 230 #[.agg #[d.kind,(d.many:Int)]] w λe w'=>e=.returned (.string ⟨(fh d).toArray⟩)/\Below w w w':=by
 have l:=(kG h.1).2;have q:=lB d.many (by have:=h.2.2;omega);have b:ByteArray.mk d.kind.data.toList.toArray=d.kind:=by simp
 have j:=pq d.kind.data.toList [58];have o:=pq (d.kind.data.toList++[58]) (aM d.many);have i:Hu (fh d=d.kind.data.toList++[58]++aM d.many):=rfl;have Hg:=h.2.1;have Hh:=h.2.2;have Hf:d.kind.size<=8:=Q5 (Nat.le_of_eq (by simp)) l;rw[b] at j;clear b;have k:=qI f;have Hc:=qI (jB ((Q0 w w).alloc (lR) (.cells #[d.kind,(d.many:Int)] 127)));generalize fh d=S at *;generalize d.many=m at *;generalize d.kind=kd at *;have s:¬ 9223372036854775807<kd.size+1:=by omega
 have r:¬ 9223372036854775807<kd.size+1+(aM m).length:=by omega
 clear h f
 go_enter func230,ntmps230
 go_wp2_with fail
 have Ha:=qI (show w.heap.size<(w.alloc (.cells #[kd,(m:Int)] 127)).drew.heap.size/\(w.alloc (.cells #[kd,(m:Int)] 127)).drew.cell? w=some (.string kd)/\(w.alloc (.cells #[kd,(m:Int)] 127)).drew.cell? ⟨w,1,none⟩=some (.int .i64 m) from⟨by simp,by simp,by simp⟩);refine wp_region_held_drew (S:=CP w kd m) (by kernel_rfl) Ha.o.2 λn=>?_;refine tk 0 ?_;refine tk 1 ?_;refine tk 2 ?_;refine tk 3 ?_;refine tk 4 ?_;refine rd 5 λK c=>?_;go_simp
 go_wp2_with fail
 refine (pw m _ (by omega) (by omega) (k.o.below Hc.o)).mono ?_;rintro e g ⟨rfl,a⟩;have Hb:=qI (Hc.o.trans (a.mono Hc.o.size));have He:=qI (show w<g.heap.size/\(CP w kd m) g from⟨Q1 Ha.o.1 a.size,(a.cell (p:=w.heap.size) Ha.o.1).trans Ha.o.2.1,(a.cell (p:=⟨w,1,none⟩) Ha.o.1).trans Ha.o.2.2⟩);clear a
 go_wp2_with fail
 refine c.o _ _ He.o.2 λn=>?_;clear c K;refine tk 6 ?_;refine tk 7 ?_;refine Qn (by kernel_rfl) ?_ _
 go_wp2
 go_ret;exact⟨by rw[i.o,List.append_assoc];rfl,Hb.o⟩
def i8 (xs:List ap) (k:Nat):List (List UInt8):=(xs.take k).map fh
theorem OT{a:List ap}(h:k<a.length):i8 a (k+1)=i8 a k++[fh (aq a k)]:=by grind[i8,aq,Qa,Qj]
theorem xo{a:List ap}(h:k<=a.length):(i8 a k).length=k:=by
 unfold i8;simp;omega
theorem CQ(a:List ap):i8 a a.length=a.map fh:=by unfold i8;rw[Qh]
theorem OU(v:Value)(a:List ap)(w:World)(h:bv w v a)(n:∀x∈a,nP x)(M:a.length<=3)(A:bJ w) :
  Calls prog 229 #[v,.func (.func 230) #[] #[]] w λe w'=>e=.returned (.string ⟨(jZ a).toArray⟩)/\Below w w w':=by
 obtain⟨i0,hi,Hl,Ho,Hn⟩:=info_parts tM;obtain⟨K,c,rfl,J,z⟩:=h;have F:=qI z;have B:=qI A;have y:=qI n;clear z A n;unfold maxLen at J;have D:Hu (∀(v:Value) (f:World),f.ownsRow w 9 1 v (i8 a a.length).length (dF (i8 a a.length))->Calls prog 227 #[v,.string ⟨#[44]⟩] f λe w'=>e=.returned (.string ⟨(Lib.join (i8 a a.length) [44]).toArray⟩)/\Below f f w'):=by
  intro v f h;refine xj 44 v _ f _ h (by rw[xo (lR)];omega) ?_;refine Q5 (nQ 44 29 _ λx n=>?_) (by rw[xo (lR)];omega);rw[CQ] at n;obtain⟨d,ag,rfl⟩:=Qk.1 n;exact Br (y.o d ag)
 have C:Hu (eu (Lib.join (i8 a a.length) [44])=jZ a):=by unfold Hu jZ;rw[CQ]
 go_enter func229,ntmps229
 go_wp2
 go_loopw [5,10] (λr i wr=>∃k:Nat,k<=a.length/\i=.int .i64 k/\wr.ownsRow w 9 1 r (i8 a k).length (dF (i8 a k))/\Below w w wr) (λ_ i _=>a.length - (intOf i).toNat)
 case atStart=>exact⟨0,by omega,rfl,Qw _ _ _ _,Q0 _ _⟩
 case round=>
  obtain⟨k,H,rfl,Hc,l⟩:=hrel
  by_cases g:k<a.length
  ·obtain⟨b,o,rfl,t,q⟩:=F.o (by omega);obtain⟨u,s⟩:=q k g;have c0:=(l.cell (p:=⟨b,o+k*2,none⟩) t).trans u;have c1:=(l.cell (p:=⟨b,o+k*2+1,none⟩) t).trans s;have HS:=qI (OT g);have hle:=xo H;have Hj:=y.o (aq a k) (by simp[aq,g]);have Hq:=l.size;have Hh:=qI (l.alloc l.size (.cells #[(aq a k).kind,((aq a k).many:Int)] 127));have E:=qI (OS (aq a k) _ Hj (B.o.below Hh.o));have Hf:=Hc.alloc (.cells #[(aq a k).kind,((aq a k).many:Int)] 127);clear q u s Hj;generalize fh (aq a k)=T at *;generalize (aq a k).kind=kd at *;generalize (aq a k).many=m at *
   go_wp2_with fail
   refine E.o.mono ?_;rintro e f ⟨rfl,He⟩;have Hi:=qI (Hh.o.trans (He.mono Hh.o.size));have Ha:=xi Hf He;have Hm:=Hi.o.size;clear He
   go_wp2_with (at_builtin;refine wpList_append_own _ rfl _ _ 105 rfl w 9 i0 (.string ⟨#[]⟩) 1 16 underlying105 hi Hl Ho Hn rfl (by decide) _ _ _ rfl (Ha.alloc _) ⟨_,0,none⟩ 1 1 [.string ⟨T.toArray⟩] rfl rfl (cell_one_new _ _ _) (qZ [T]) (by unfold maxLen;omega) (by omega) (by simp;omega) ?_;intro L G Hg Hb _)
   go_roundw
   case rel=>
    refine⟨k+1,by omega,by go_num,?_,?_⟩
    ·rw[HS.o,tN,Q2];exact Hg
    ·exact (Hi.o.alloc Hi.o.size _).grown Hb (by simp;omega) λj I=>(Ha.lt j I).1
   case measure=>simp[intOf];omega
  ·have Hp:k=a.length:=by omega
   subst Hp
   go_wp2_with fail
   refine (D.o _ _ Hc).mono ?_;rintro e f ⟨rfl,He⟩;have Hk:=l.trans (He.mono l.size)
   go_wp2_with fail
   refine (wY _ _).mono ?_;rintro e G ⟨rfl,rfl⟩
   go_wp2
   go_ret;exact⟨by rw[<- C.o];rfl,Hk⟩
def iG (base:Nat) (w:World) (v:Value) (ws:List (List UInt8)):Prop:=w.ownsRow base 9 1 v ws.length (dF ws)
theorem xq(ws:List (List UInt8))(w:World)(base:Nat)(a:base<=w)(b:ws.length<=1000):iG base (w.alloc (.cells (dF ws).toArray 9)) (.slice w ws.length ws.length) ws:=by
 have h:=World.ownsRow_made (base:=base) (e:=9) (size:=1) w (dF ws).toArray ws.length a (by unfold maxLen;omega) (by simp[dF]);refine⟨by simp[dF],.inr ⟨w,ws.length,_,rfl,a,heap_alloc_new w _,lR,by unfold maxLen;omega,by simp[dF],?_⟩⟩;rw[Nat.mul_one,List.take_of_length_le (by simp[dF])]
abbrev tQ:=λ(w:World) (cp:Int) (da:Option Addr) (dn dc:Nat) (w':World)=>cl w' w (0) (.int .u64 cp)/\cl w' w (1) (.slice da dn dc)
theorem OV(g:aR)(dv:Value)(w:World)(ag:bD w dv g.dv)(f:nO g)(j:bJ w) :
  Calls prog 140 #[.agg #[.int .u64 g.cp,dv]] w λe w'=>∃v,e=.returned v/\iG w w' v (ev g)/\Below w w w':=by
 have h:=qI j;have Hk:=qI (jB ((Q0 w w).alloc (lR) (.cells #[.int .u64 g.cp,dv] 123)));have k:=qI λW (a:Below w w W)=>OR dv g.dv W (ag.below a) f.2.2 f.2.1 (h.o.below a).1 (h.o.below a).2;have m:=qI λW=>OM g.cp W f.1;have l:Hu (ev g=[eu (iO g.cp),kE g.dv]):=rfl;obtain⟨da,dc,rfl⟩:=ag.slice;clear ag f j;generalize kE g.dv=D at *;generalize g.dv.length=dn at *;generalize iO g.cp=X at *;generalize ev g=n at *;generalize g.cp=cp at *
 go_enter func140,ntmps140
 go_wp2_with fail
 have Hf:=qI (show w.heap.size<(w.alloc (.cells #[.int .u64 cp,.slice da dn dc] 123)).drew.heap.size/\(w.alloc (.cells #[.int .u64 cp,.slice da dn dc] 123)).drew.cell? w=some (.int .u64 cp)/\(w.alloc (.cells #[.int .u64 cp,.slice da dn dc] 123)).drew.cell? ⟨w,1,none⟩=some (.slice da dn dc) from⟨by simp,by simp,by simp⟩);refine wp_region_held_drew (S:=tQ w cp da dn dc) (by kernel_rfl) Hf.o.2 λd=>?_;refine tk 0 ?_;refine tk 1 ?_;refine tk 4 ?_;refine tk 5 ?_;refine rd 2 λK b=>?_;go_simp
 go_wp2_with fail
 refine (m.o _).mono ?_;rintro e i ⟨rfl,a⟩;have Hj:=qI (Hk.o.trans (a.mono Hk.o.size));have Hg:=qI (show w<i.heap.size/\(tQ w cp da dn dc) i from⟨Q1 Hf.o.1 a.size,(a.cell (p:=w.heap.size) Hf.o.1).trans Hf.o.2.1,(a.cell (p:=⟨w,1,none⟩) Hf.o.1).trans Hf.o.2.2⟩);clear a
 go_wp2_with fail
 refine b.o _ _ Hg.o.2 λd=>?_;clear b K;refine rd 3 λK b=>?_;go_simp
 go_wp2_with fail
 refine (wY _ _).mono ?_;rintro e o ⟨rfl,Hl⟩;subst Hl;have He:=Hj;have Ha:=Hg
 go_wp2_with fail
 refine b.o _ _ Ha.o.2 λd=>?_;clear b K;refine rd 6 λK b=>?_;go_simp
 go_wp2_with fail
 refine (k.o _ He.o).mono ?_;rintro e c ⟨rfl,a⟩;have Hc:=qI (He.o.trans (a.mono He.o.size));have Hb:=qI (show w<c.heap.size/\(tQ w cp da dn dc) c from⟨Q1 Ha.o.1 a.size,(a.cell (p:=w.heap.size) Ha.o.1).trans Ha.o.2.1,(a.cell (p:=⟨w,1,none⟩) Ha.o.1).trans Ha.o.2.2⟩);clear a
 go_wp2_with fail
 refine b.o _ _ Hb.o.2 λd=>?_;clear b K;refine rd 7 λK b=>?_;go_simp
 go_wp2_with fail
 have Hh:=qI (Hc.o.alloc Hc.o.size (.cells #[.string ⟨(eu X).toArray⟩,.string ⟨D.toArray⟩] 9));have Hi:=qI (show w.heap.size<(c.alloc (.cells #[.string ⟨(eu X).toArray⟩,.string ⟨D.toArray⟩] 9)).heap.size/\(tQ w cp da dn dc) (c.alloc (.cells #[.string ⟨(eu X).toArray⟩,.string ⟨D.toArray⟩] 9)) from⟨Q1 Hb.o.1 (by simp),dp Hb.o.2.1 (.cells #[.string ⟨(eu X).toArray⟩,.string ⟨D.toArray⟩] 9),dp Hb.o.2.2 (.cells #[.string ⟨(eu X).toArray⟩,.string ⟨D.toArray⟩] 9)⟩);refine b.o _ _ Hi.o.2 λd=>?_;clear b K;refine tk 8 ?_;refine Qn (by kernel_rfl) ?_ _
 go_wp2
 go_ret;refine⟨_,rfl,?_,Hh.o⟩;rw[l.o];exact xq [eu X,D] c w Hc.o.size (by simp)
def kg (B b:Nat) (l:List UInt8) (w:World):Prop:=Lib.IsBuilderF 245 5 B b (Lib.byteCells l) w
theorem kg.below{b:Nat}{l:List UInt8}(h:kg B b l w)(a:Below w w w'):kg B b l w':=by
 have key:∀p,Lib.BuilderAtF 245 5 B b p (Lib.byteCells l) w->Lib.BuilderAtF 245 5 B b p (Lib.byteCells l) w':=by
  rintro p ⟨d,v,c,f,e⟩;have Ha:b<w:=(gS c).1;refine⟨d,v,by rw[a.block b Ha];exact c,?_,e⟩;exact f.kept (row:=none) ⟨a.os,a.tape,a.output,a.size,λj g _=>a.block j g⟩ (by cases c:v.ownBlock <;> simp)
 rcases h with h|h
 ·exact .inl (key _ h)
 ·exact .inr (key _ h)
abbrev kT:=(.cells #[.pointer none,.slice none 0 0] 245:Obj)
theorem CR(w:World):kg w w [] (w.alloc (kT)):=Lib.IsBuilderF.of (Lib.fresh_isBuilder _ _ w)
theorem xr(B b:Nat)(l s:List UInt8)(w:World)(h:kg B b l w)(g:l.length+s.length<=1000000)(d:B<=w) :
  Calls prog 137 #[b,.string ⟨s.toArray⟩] w λe w'=>e=.returned (.tuple #[(s.length:Int),.nilIface])/\kg B b (l++s) w'/\Below B w w':=by
 have c:=Any.Builder_WriteString_k (P:=prog) (ρ:=lays156_ren) { lays156 with } Tryz.Builder_Extra_156 B b (Lib.byteCells l) ⟨s.toArray⟩ w h (by
  show (Lib.byteCells l).length+s.toArray.size<=_
  simp[Lib.byteCells];omega) d
 refine c.mono ?_;rintro e w' ⟨rfl,a,f,_⟩;refine⟨rfl,.inr ?_,f⟩;have e:Lib.byteCells l++Lib.strCells ⟨s.toArray⟩=Lib.byteCells (l++s):=by simp[Lib.byteCells,Lib.strCells]
 rw[e] at a;exact a
theorem CS(B b:Nat)(l:List UInt8)(w:World)(h:kg B b l w)(a:B<=w) :
  Calls prog 141 #[b] w λe w'=>e=.returned (.string ⟨l.toArray⟩)/\Below B w w':=by
 refine (Tryz.Builder_String_any_k B b l w h a).mono ?_;rintro e w' ⟨rfl,_,c,_⟩;exact⟨rfl,c⟩
theorem iG.below{ws:List (List UInt8)}(h:iG base w v ws)(a:Below w w w'):iG base w' v ws:=xi h a
theorem CU(v:Value)(ws:List (List UInt8))(base:Nat)(w:World)(h:iG base w v ws)(i:ws.length<=20)(a:∀x∈ws,x.length<=400) :
  Calls prog 176 #[v] w λe w'=>e=.returned (.string ⟨(j7 ws).toArray⟩)/\Below w w w':=by
 have f:(Lib.join ws [32]).length<=8020:=Q5 (nQ 32 400 ws a) (by omega);have d:=qI (xj 32 v ws w base h (by omega) (by omega));have c:=pq (Lib.join ws [32]) [10];have b:Hu (j7 ws=Lib.join ws [32]++[10]):=rfl;generalize j7 ws=L at *;generalize Lib.join ws [32]=J at *;clear h a
 go_enter func176,ntmps176
 go_wp2_with fail
 refine d.o.mono ?_;rintro e g ⟨rfl,Ha⟩
 go_wp2
 go_ret;exact⟨by rw[b.o];exact congrArg (λx=>Ending.returned (Value.string x)) c,Ha⟩
abbrev n9:=λ(x0:ByteArray) (x1 x2 x3 x4:Int) (x5:Option Addr) (x6 x7:Nat)=>(.cells #[x0,x1,x2,x3,x4,.slice x5 x6 x7] 65:Obj)
abbrev od:=λ(w:World) (nm:ByteArray) (am ab cm cb:Int) (da:Option Addr) (dn dc:Nat) (w':World)=>cl w' w (0) nm/\cl w' w (1) am/\cl w' w (2) ab/\cl w' w (3) cm/\cl w' w (4) cb/\cl w' w (5) (.slice da dn dc)
theorem OW(c:aB)(dv:Value)(w:World)(ag:bv w dv c.ds)(q:mG c)(n:bJ w) :
  Calls prog 178 #[.agg #[c.nm,(c.am:Int),(c.ab:Int),(c.cm:Int),(c.cb:Int),dv]] w λe w'=>∃v,e=.returned v/\iG w w' v (eF c)/\Below w w w':=by
 have f:=qI n;have Hn:=qI (jB ((Q0 w w).alloc (lR) (.cells #[c.nm,(c.am:Int),(c.ab:Int),(c.cm:Int),(c.cb:Int),dv] 65)));obtain⟨_,o,t,u,x,k,m⟩:=q;have r:=qI λW (a:Below w w W)=>OU dv c.ds W (ag.below a) m k (f.o.below a);have s:Hu (eF c=[[99,111,110,116],c.nm.data.toList,aM c.am,aM c.ab,aM c.cm,aM c.cb,jZ c.ds]):=rfl;have z:Hu (ByteArray.mk c.nm.data.toList.toArray=c.nm):=by unfold Hu;simp
 obtain⟨da,dc,rfl,_⟩:=ag;clear n m k;generalize jZ c.ds=D at *;generalize c.ds.length=dn at *;generalize eF c=y at *;generalize c.nm=nm at *;generalize c.am=am at *;generalize c.ab=ab at *;generalize c.cm=cm at *;generalize c.cb=cb at *
 go_enter func178,ntmps178
 go_wp2_with fail
 have Hg:=qI (show w.heap.size<(w.alloc (n9 nm am ab cm cb da dn dc)).drew.heap.size/\(w.alloc (n9 nm am ab cm cb da dn dc)).drew.cell? w=some (.string nm)/\(w.alloc (n9 nm am ab cm cb da dn dc)).drew.cell? ⟨w,1,none⟩=some (.int .i64 am)/\(w.alloc (n9 nm am ab cm cb da dn dc)).drew.cell? ⟨w,2,none⟩=some (.int .i64 ab)/\(w.alloc (n9 nm am ab cm cb da dn dc)).drew.cell? ⟨w,3,none⟩=some (.int .i64 cm)/\(w.alloc (n9 nm am ab cm cb da dn dc)).drew.cell? ⟨w,4,none⟩=some (.int .i64 cb)/\(w.alloc (n9 nm am ab cm cb da dn dc)).drew.cell? ⟨w,5,none⟩=some (.slice da dn dc) from⟨by simp,by simp,by simp,by simp,by simp,by simp,by simp⟩);refine wp_region_held_drew (S:=od w nm am ab cm cb da dn dc) (by kernel_rfl) Hg.o.2 λd=>?_;refine tk 0 ?_;refine tk 1 ?_;refine tk 2 ?_;refine tk 3 ?_;refine tk 4 ?_;refine tk 6 ?_;refine tk 7 ?_;refine tk 8 ?_;refine tk 10 ?_;refine tk 11 ?_;refine tk 12 ?_;refine tk 14 ?_;refine tk 15 ?_;refine tk 16 ?_;refine tk 18 ?_;refine tk 19 ?_;refine rd 5 λK b=>?_;go_simp
 go_wp2_with fail
 refine (pw am _ o.1 (by omega) (f.o.below Hn.o)).mono ?_;rintro e j ⟨rfl,a⟩;have Hj:=qI (Hn.o.trans (a.mono Hn.o.size));have He:=qI (show w<j.heap.size/\(od w nm am ab cm cb da dn dc) j from⟨Q1 Hg.o.1 a.size,(a.cell (p:=w.heap.size) Hg.o.1).trans Hg.o.2.1,(a.cell (p:=⟨w,1,none⟩) Hg.o.1).trans Hg.o.2.2.1,(a.cell (p:=⟨w,2,none⟩) Hg.o.1).trans Hg.o.2.2.2.1,(a.cell (p:=⟨w,3,none⟩) Hg.o.1).trans Hg.o.2.2.2.2.1,(a.cell (p:=⟨w,4,none⟩) Hg.o.1).trans Hg.o.2.2.2.2.2.1,(a.cell (p:=⟨w,5,none⟩) Hg.o.1).trans Hg.o.2.2.2.2.2.2⟩)
 
 clear a
 go_wp2_with fail
 refine b.o _ _ He.o.2 λd=>?_;clear b K;refine rd 9 λK b=>?_;go_simp
 go_wp2_with fail
 refine (pw ab _ t.1 (by omega) (f.o.below Hj.o)).mono ?_;rintro e l ⟨rfl,a⟩;have Hl:=qI (Hj.o.trans (a.mono Hj.o.size));have Hc:=qI (show w<l.heap.size/\(od w nm am ab cm cb da dn dc) l from⟨Q1 He.o.1 a.size,(a.cell (p:=w.heap.size) He.o.1).trans He.o.2.1,(a.cell (p:=⟨w,1,none⟩) He.o.1).trans He.o.2.2.1,(a.cell (p:=⟨w,2,none⟩) He.o.1).trans He.o.2.2.2.1,(a.cell (p:=⟨w,3,none⟩) He.o.1).trans He.o.2.2.2.2.1,(a.cell (p:=⟨w,4,none⟩) He.o.1).trans He.o.2.2.2.2.2.1,(a.cell (p:=⟨w,5,none⟩) He.o.1).trans He.o.2.2.2.2.2.2⟩)
 
 clear a
 go_wp2_with fail
 refine b.o _ _ Hc.o.2 λd=>?_;clear b K;refine rd 13 λK b=>?_;go_simp
 go_wp2_with fail
 refine (pw cm _ u.1 (by omega) (f.o.below Hl.o)).mono ?_;rintro e h ⟨rfl,a⟩;have Hi:=qI (Hl.o.trans (a.mono Hl.o.size));have Ha:=qI (show w<h.heap.size/\(od w nm am ab cm cb da dn dc) h from⟨Q1 Hc.o.1 a.size,(a.cell (p:=w.heap.size) Hc.o.1).trans Hc.o.2.1,(a.cell (p:=⟨w,1,none⟩) Hc.o.1).trans Hc.o.2.2.1,(a.cell (p:=⟨w,2,none⟩) Hc.o.1).trans Hc.o.2.2.2.1,(a.cell (p:=⟨w,3,none⟩) Hc.o.1).trans Hc.o.2.2.2.2.1,(a.cell (p:=⟨w,4,none⟩) Hc.o.1).trans Hc.o.2.2.2.2.2.1,(a.cell (p:=⟨w,5,none⟩) Hc.o.1).trans Hc.o.2.2.2.2.2.2⟩)
 
 clear a
 go_wp2_with fail
 refine b.o _ _ Ha.o.2 λd=>?_;clear b K;refine rd 17 λK b=>?_;go_simp
 go_wp2_with fail
 refine (pw cb _ x.1 (by omega) (f.o.below Hi.o)).mono ?_;rintro e i ⟨rfl,a⟩;have Hh:=qI (Hi.o.trans (a.mono Hi.o.size));have Hb:=qI (show w<i.heap.size/\(od w nm am ab cm cb da dn dc) i from⟨Q1 Ha.o.1 a.size,(a.cell (p:=w.heap.size) Ha.o.1).trans Ha.o.2.1,(a.cell (p:=⟨w,1,none⟩) Ha.o.1).trans Ha.o.2.2.1,(a.cell (p:=⟨w,2,none⟩) Ha.o.1).trans Ha.o.2.2.2.1,(a.cell (p:=⟨w,3,none⟩) Ha.o.1).trans Ha.o.2.2.2.2.1,(a.cell (p:=⟨w,4,none⟩) Ha.o.1).trans Ha.o.2.2.2.2.2.1,(a.cell (p:=⟨w,5,none⟩) Ha.o.1).trans Ha.o.2.2.2.2.2.2⟩)
 
 clear a
 go_wp2_with fail
 refine b.o _ _ Hb.o.2 λd=>?_;clear b K;refine rd 20 λK b=>?_;go_simp
 go_wp2_with fail
 refine (r.o _ Hh.o).mono ?_;rintro e g ⟨rfl,a⟩;have Hk:=qI (Hh.o.trans (a.mono Hh.o.size));have Hf:=qI (show w<g.heap.size/\(od w nm am ab cm cb da dn dc) g from⟨Q1 Hb.o.1 a.size,(a.cell (p:=w.heap.size) Hb.o.1).trans Hb.o.2.1,(a.cell (p:=⟨w,1,none⟩) Hb.o.1).trans Hb.o.2.2.1,(a.cell (p:=⟨w,2,none⟩) Hb.o.1).trans Hb.o.2.2.2.1,(a.cell (p:=⟨w,3,none⟩) Hb.o.1).trans Hb.o.2.2.2.2.1,(a.cell (p:=⟨w,4,none⟩) Hb.o.1).trans Hb.o.2.2.2.2.2.1,(a.cell (p:=⟨w,5,none⟩) Hb.o.1).trans Hb.o.2.2.2.2.2.2⟩)
 
 clear a
 go_wp2_with fail
 refine b.o _ _ Hf.o.2 λd=>?_;clear b K;refine rd 21 λK b=>?_;go_simp
 go_wp2_with fail
 have Hm:=qI (Hk.o.alloc Hk.o.size (.cells #[.string ⟨#[99,111,110,116]⟩,nm,.string ⟨(aM am).toArray⟩,.string ⟨(aM ab).toArray⟩,.string ⟨(aM cm).toArray⟩,.string ⟨(aM cb).toArray⟩,.string ⟨D.toArray⟩] 9));have Ho:=qI (show w.heap.size<(g.alloc (.cells #[.string ⟨#[99,111,110,116]⟩,nm,.string ⟨(aM am).toArray⟩,.string ⟨(aM ab).toArray⟩,.string ⟨(aM cm).toArray⟩,.string ⟨(aM cb).toArray⟩,.string ⟨D.toArray⟩] 9)).heap.size/\(od w nm am ab cm cb da dn dc) (g.alloc (.cells #[.string ⟨#[99,111,110,116]⟩,nm,.string ⟨(aM am).toArray⟩,.string ⟨(aM ab).toArray⟩,.string ⟨(aM cm).toArray⟩,.string ⟨(aM cb).toArray⟩,.string ⟨D.toArray⟩] 9)) from⟨Q1 Hf.o.1 (by simp),dp Hf.o.2.1 (.cells #[.string ⟨#[99,111,110,116]⟩,nm,.string ⟨(aM am).toArray⟩,.string ⟨(aM ab).toArray⟩,.string ⟨(aM cm).toArray⟩,.string ⟨(aM cb).toArray⟩,.string ⟨D.toArray⟩] 9),dp Hf.o.2.2.1 (.cells #[.string ⟨#[99,111,110,116]⟩,nm,.string ⟨(aM am).toArray⟩,.string ⟨(aM ab).toArray⟩,.string ⟨(aM cm).toArray⟩,.string ⟨(aM cb).toArray⟩,.string ⟨D.toArray⟩] 9),dp Hf.o.2.2.2.1 (.cells #[.string ⟨#[99,111,110,116]⟩,nm,.string ⟨(aM am).toArray⟩,.string ⟨(aM ab).toArray⟩,.string ⟨(aM cm).toArray⟩,.string ⟨(aM cb).toArray⟩,.string ⟨D.toArray⟩] 9),dp Hf.o.2.2.2.2.1 (.cells #[.string ⟨#[99,111,110,116]⟩,nm,.string ⟨(aM am).toArray⟩,.string ⟨(aM ab).toArray⟩,.string ⟨(aM cm).toArray⟩,.string ⟨(aM cb).toArray⟩,.string ⟨D.toArray⟩] 9),dp Hf.o.2.2.2.2.2.1 (.cells #[.string ⟨#[99,111,110,116]⟩,nm,.string ⟨(aM am).toArray⟩,.string ⟨(aM ab).toArray⟩,.string ⟨(aM cm).toArray⟩,.string ⟨(aM cb).toArray⟩,.string ⟨D.toArray⟩] 9),dp Hf.o.2.2.2.2.2.2 (.cells #[.string ⟨#[99,111,110,116]⟩,nm,.string ⟨(aM am).toArray⟩,.string ⟨(aM ab).toArray⟩,.string ⟨(aM cm).toArray⟩,.string ⟨(aM cb).toArray⟩,.string ⟨D.toArray⟩] 9)⟩);refine b.o _ _ Ho.o.2 λd=>?_;clear b K;refine tk 22 ?_;refine Qn (by kernel_rfl) ?_ _
 go_wp2
 go_ret;refine⟨_,rfl,?_,Hm.o⟩;rw[s.o]
 have:=xq [[99,111,110,116],nm.data.toList,aM am,aM ab,aM cm,aM cb,D] g w Hk.o.size (by simp)
 unfold dF at this;simp only[Qq,List.map_nil] at this;exact this
theorem OX(h k:Nat)(gs:List aR)(a:Value)(w:World)(r:w.cell? ⟨h,3,none⟩=some a)(n:b7 w a gs)(f:k<gs.length)(g:nO (aD gs k))(j:bJ w) :
  Calls prog 139 #[(k:Int),h] w λe w'=>∃v,e=.returned v/\iG w w' v (ev (aD gs k))/\Below w w w':=by
 obtain⟨s,c,rfl,p,i⟩:=n;obtain⟨b,o,dv,rfl,Ha⟩:=i (by omega);obtain⟨c0,c1⟩:=Ha.at f;have l:=qI (OV (aD gs k) (dv k) w (Ha.2 k f).2 g j);obtain⟨da,dc,ag⟩:=(Ha.2 k f).2.slice;unfold maxLen at p;clear Ha g j i;generalize ev (aD gs k)=t at *;generalize (aD gs k).cp=cp at *;generalize (aD gs k).dv.length=dn at *;generalize dv k=d at *;subst ag
 go_enter func139,ntmps139
 go_wp2_with fail
 refine l.o.mono ?_;rintro e q ⟨v,rfl,m,Hb⟩
 go_wp2
 go_ret;exact⟨v,rfl,m,Hb⟩
theorem OY{a b:List (List UInt8)}(h:w.ownsRow base 9 1 v (a.length+b.length) (dF a++dF b)):iG base w v (a++b):=by grind[iG,dF]
theorem OZ(c:aB)(g:aR):(eF c++ev g).length=9:=rfl
abbrev lG:=λ(x0:ByteArray) (x1:Int) (x2:Nat) (x3:Option Addr) (x4:Nat)=>(.cells #[x0,x1,.slice x3 x2 x4] 49:Obj)
abbrev rb:=λ(w:World) (nm:ByteArray) (pr:Int) (ao:Option Addr) (y4 c:Nat) (w':World)=>cl w' w (0) nm/\cl w' w (1) pr/\cl w' w (2) (.slice ao y4 c)
theorem O0(h:af)(cv s:Value)(a:Nat)(w:World)(hc:aQ w cv h.pod.cs)(f:w.cell? ⟨a,3,none⟩=some s)(hg:b7 w s h.gs)(G:kF h)(E:bJ w) :
  Calls prog 138 #[cz h.pod cv,.func (.func 139) #[] #[.pointer (some ⟨a,0,none⟩)]] w λe w'=>e=.returned (.string ⟨(iY h).toArray⟩)/\Below w w w':=by
 obtain⟨i0,hi,hI,hA,hz⟩:=info_parts tM;have hJ:=qI λk (y:k<h.gs.length) W (hbw:Below w w W)=>OX a k h.gs s W ((hbw.cell (p:=⟨a,3,none⟩) (Q3 w _ f)).trans f) (hg.below hbw) y (G.2.2 _ (wm y)) (E.below hbw);have HU:=qI λk (y:k<h.pod.cs.length) d W (ag:bv W d (ae h.pod.cs k).ds) (hbw:Below w w W)=>OW (ae h.pod.cs k) d W ag (G.1.2.2.2 _ (o8 y)) (E.below hbw);have n:=qI G;have HT:=qI E;obtain⟨g,c,rfl,hm,hr⟩:=hc;have HR:=qI hr;clear hr E hg f G;unfold maxLen at hm;unfold cz;have hN:=n.o.1.2.2.1;have hP:=n.o.2.1;have C:=qI (jB (((Q0 w w).alloc (lR) (lG h.pod.nm h.pod.pr h.pod.cs.length g c)).alloc (by simp) (kT)));have Ht:=qI ((CR (w.alloc (lG h.pod.nm h.pod.pr h.pod.cs.length g c))).below (jB (Q0 _ _)));have HN:Hu (ByteArray.mk h.pod.nm.data.toList.toArray=h.pod.nm):=by unfold Hu;simp
 have H7:=n.o.1.2.1
 go_enter func138,ntmps138
 go_wp2_with fail
 have Hh:=qI (show w.heap.size<((w.alloc (lG h.pod.nm h.pod.pr h.pod.cs.length g c)).alloc (kT)).drew.heap.size/\((w.alloc (lG h.pod.nm h.pod.pr h.pod.cs.length g c)).alloc (kT)).drew.cell? w=some (.string h.pod.nm)/\((w.alloc (lG h.pod.nm h.pod.pr h.pod.cs.length g c)).alloc (kT)).drew.cell? ⟨w,1,none⟩=some (.int .i64 h.pod.pr)/\((w.alloc (lG h.pod.nm h.pod.pr h.pod.cs.length g c)).alloc (kT)).drew.cell? ⟨w,2,none⟩=some (.slice g h.pod.cs.length c) from⟨by simp;omega,by simp,by simp,by simp⟩);have Hw:Hu (kg (w.heap.size+1) (w.heap.size+1) [] ((w.alloc (lG h.pod.nm h.pod.pr h.pod.cs.length g c)).alloc (kT)).drew):=by have:=Ht.o;rw[show (w.alloc (lG h.pod.nm h.pod.pr h.pod.cs.length g c)).heap.size=w.heap.size+1 by simp] at this;exact this
 clear Ht;have U:Hu (gC h.pod=[[112,111,100],h.pod.nm.data.toList,aM h.pod.pr]):=rfl;have hC:=wu n.o.1;have hL:Hu (iY h=j8 h.pod++fD h h.pod.cs.length):=rfl;have H4:Hu (∀v W,iG w W v (gC h.pod)->Calls prog 176 #[v] W λe w'=>e=.returned (.string ⟨(j8 h.pod).toArray⟩)/\Below W.heap.size W w'):=λv W H=>CU v (gC h.pod) w W H (by simp[gC]) (λx t=>by have:=Bv n.o.1 x t;omega)
 generalize j8 h.pod=F at *;generalize gC h.pod=PW at *;generalize ((w.alloc (lG h.pod.nm h.pod.pr h.pod.cs.length g c)).alloc (kT))=U0 at *;generalize h.pod.nm=nm at *;generalize h.pod.pr=pr at *;refine wp_region_held_drew (S:=rb w nm pr g h.pod.cs.length c) (by kernel_rfl) Hh.o.2 λA=>?_;refine tk 0 ?_;refine tk 1 ?_;refine tk 2 ?_;refine tk 3 ?_;refine rd 4 λK l=>?_;go_simp
 go_wp2_with fail
 refine (pw _ _ H7.1 (by omega) (HT.o.below C.o)).mono ?_;rintro e r ⟨rfl,a⟩;have Hi:=qI (C.o.trans (a.mono C.o.size));have Hc:=qI (show w<r.heap.size/\(rb w nm pr g h.pod.cs.length c) r from⟨Q1 Hh.o.1 a.size,(a.cell (p:=w.heap.size) Hh.o.1).trans Hh.o.2.1,(a.cell (p:=⟨w,1,none⟩) Hh.o.1).trans Hh.o.2.2.1,(a.cell (p:=⟨w,2,none⟩) Hh.o.1).trans Hh.o.2.2.2⟩);have Hx:=qI (Hw.o.below a);clear a
 go_wp2_with fail
 refine l.o _ _ Hc.o.2 λA=>?_;clear l K;refine rd 5 λK l=>?_;go_simp
 go_wp2_with fail
 have Hl:=qI (Hi.o.alloc Hi.o.size (.cells #[.string ⟨#[112,111,100]⟩,nm,.string ⟨(aM pr).toArray⟩] 9));have Ha:=qI (show w.heap.size<(r.alloc (.cells #[.string ⟨#[112,111,100]⟩,nm,.string ⟨(aM pr).toArray⟩] 9)).heap.size/\(rb w nm pr g h.pod.cs.length c) (r.alloc (.cells #[.string ⟨#[112,111,100]⟩,nm,.string ⟨(aM pr).toArray⟩] 9)) from⟨Q1 Hc.o.1 (by simp),dp Hc.o.2.1 (.cells #[.string ⟨#[112,111,100]⟩,nm,.string ⟨(aM pr).toArray⟩] 9),dp Hc.o.2.2.1 (.cells #[.string ⟨#[112,111,100]⟩,nm,.string ⟨(aM pr).toArray⟩] 9),dp Hc.o.2.2.2 (.cells #[.string ⟨#[112,111,100]⟩,nm,.string ⟨(aM pr).toArray⟩] 9)⟩);have Hy:=qI (Hx.o.below ((Q0 _ _).alloc (lR) (.cells #[.string ⟨#[112,111,100]⟩,nm,.string ⟨(aM pr).toArray⟩] 9)));have H3:Hu (iG w (r.alloc (.cells #[.string ⟨#[112,111,100]⟩,nm,.string ⟨(aM pr).toArray⟩] 9)) (.slice r 3 3) PW):=by unfold Hu;rw[U.o];exact xq [[112,111,100],nm.data.toList,aM pr] r w Hi.o.size (by simp)
 refine l.o _ _ Ha.o.2 λA=>?_;clear l K;refine rd 6 λK l=>?_;go_simp
 go_wp2_with fail
 refine (H4.o _ _ H3.o).mono ?_;rintro e Y ⟨rfl,a⟩;have Hv:=qI (Hl.o.trans (a.mono Hl.o.size));have Hb:=qI (show w<Y.heap.size/\(rb w nm pr g h.pod.cs.length c) Y from⟨Q1 Ha.o.1 a.size,(a.cell (p:=w.heap.size) Ha.o.1).trans Ha.o.2.1,(a.cell (p:=⟨w,1,none⟩) Ha.o.1).trans Ha.o.2.2.1,(a.cell (p:=⟨w,2,none⟩) Ha.o.1).trans Ha.o.2.2.2⟩);have Hq:=qI (Hy.o.below a);clear a
 go_wp2_with fail
 refine l.o _ _ Hb.o.2 λA=>?_;clear l K;refine rd 7 λK l=>?_;go_simp
 go_wp2_with fail
 refine (xr _ _ [] F _ Hq.o (Q5 (Nat.le_of_eq (Qd _)) (Q5 hC (by decide))) (Nat.succ_le_of_lt Hb.o.1)).mono ?_;rintro e J ⟨rfl,H2,Hn⟩;have Ho:=qI (Hv.o.trans (Hn.mono (Nat.le_succ _)));have Hg:=qI (show w<J.heap.size/\(rb w nm pr g h.pod.cs.length c) J from⟨Q1 Hb.o.1 Hn.size,(Hn.cell (p:=w.heap.size) (Nat.lt_succ_self _)).trans Hb.o.2.1,(Hn.cell (p:=⟨w,1,none⟩) (Nat.lt_succ_self _)).trans Hb.o.2.2.1,(Hn.cell (p:=⟨w,2,none⟩) (Nat.lt_succ_self _)).trans Hb.o.2.2.2⟩);have Hr:=qI H2;clear H2 Hn
 go_wp2_with fail
 refine l.o _ _ Hg.o.2 λA=>?_;clear l K;refine Qn (by kernel_rfl) ?_ _;have hT:=Hg.o.2.2.2;have hH:Hu (kg (w.heap.size+1) (w.heap.size+1) F J):=Hr.o;have hv:=Ho;have hu:=qI (Nat.succ_le_of_lt Hg.o.1);clear A Hi Hc Hx Hl Ha Hy H3 Hv Hb Hq Ho Hg Hr Hh Hw C H4 U HN H7;have ha:=qI (wv n.o)
 go_wp2
 go_loopw [19] (λi wr=>∃k:Nat,k<=h.pod.cs.length/\i=.int .i64 k/\Below w w wr/\kg (w.heap.size+1) (w.heap.size+1) (F++fD h k) wr/\Hu (w+1<=wr.heap.size)) (λi _=>h.pod.cs.length - (intOf i).toNat)
 case atStart=>exact⟨0,Nat.zero_le _,rfl,hv.o,by rw[fD,List.append_nil];exact hH.o,hu⟩
 case round=>
  obtain⟨k,y,rfl,z,L,Z⟩:=hrel
  by_cases m:k<h.pod.cs.length
  ·obtain⟨b,o,dv,rfl,B⟩:=HR.o (by omega);have B:=B.below z;obtain⟨c0,c1,c2,c3,c4,c5⟩:=B.at m;have H8:=(B.2 k m).2;have D:=qI ((Q0 wr wr).alloc (lR) (.cells #[(ae h.pod.cs k).nm,((ae h.pod.cs k).am:Int),((ae h.pod.cs k).ab:Int),((ae h.pod.cs k).cm:Int),((ae h.pod.cs k).cb:Int),dv k] 65));have Hp:=qI (z.trans (D.o.mono z.size));have HQ:=qI (L.below D.o);have HC:=qI (HU.o k m (dv k) _ (H8.below D.o) Hp.o);have HG:=qI λW (a:Below w w W)=>hJ.o k (by omega) W a;obtain⟨M,P⟩:=tx n.o m;have hq:Hu (∀v W base,iG base W v (eF (ae h.pod.cs k)++ev (aD h.gs k))->Calls prog 176 #[v] W λe w'=>e=.returned (.string ⟨(lz (ae h.pod.cs k) (aD h.gs k)).toArray⟩)/\Below W.heap.size W w'):=λv W base H=>CU v _ base W H (by rw[OZ];decide) (λx t=>by
    rcases Qi.1 t with t|t
    ·exact Q5 (Bt M x t) (by decide)
    ·exact Bu P x t)
   have hR:=By M P;have hS:=ha.o k y;have hM:Hu (fD h (k+1)=fD h k++lz (ae h.pod.cs k) (aD h.gs k)):=rfl;have HY:Hu ((eF (ae h.pod.cs k)).length=7):=rfl;have N:Hu ((ev (aD h.gs k)).length=2):=rfl;obtain⟨da,dc,hF,_⟩:=H8;clear B M P HU L z ha;generalize lz (ae h.pod.cs k) (aD h.gs k)=CL at *;generalize fD h k=CT at *;generalize eF (ae h.pod.cs k)=R at *;generalize ev (aD h.gs k)=q at *;generalize (ae h.pod.cs k).nm=hU at *;generalize (ae h.pod.cs k).am=am at *;generalize (ae h.pod.cs k).ab=ab at *;generalize (ae h.pod.cs k).cm=cm at *;generalize (ae h.pod.cs k).cb=cb at *;generalize (ae h.pod.cs k).ds.length=dn at *;generalize dv k=d at *;subst hF;have hy:(F++CT).length+CL.length<=1000000:=by rw[Q2];omega
   go_wp2_with fail
   refine HC.o.mono ?_;rintro e W1 ⟨v1,rfl,H6,Hs⟩;have hh:=qI Hs;have hE:=qI H6;have HK:=qI (Hp.o.trans (Hs.mono Hp.o.size));clear Hs H6
   go_wp2_with fail
   refine (HG.o _ HK.o).mono ?_;rintro e W2 ⟨v2,rfl,X,I⟩;have Q:=hE.o.below I;have V:=qI (hh.o.trans (I.mono hh.o.size));clear I;obtain⟨rfl,H1⟩|⟨g2,cap2,rfl,H5,hO,Hf⟩:=xd X
   ·rw[N.o] at H1;cases H1
   have Hk:∀j u,(dF q)[j]?=some u->W2.cell? ((g2:Addr).add j)=some u:=λj u O=>by rw[Addr.add_lit,Qd];exact Hf j u O
   have he:=qI V.o.size;have hs:R.length+q.length<=maxLen:=by rw[HY.o,N.o];decide
   have HL:(R.length+q.length)*16<=140737488355328:=by rw[HY.o,N.o];decide
   go_wp2_with (at_builtin;refine wpList_append_own _ rfl _ _ 105 rfl _ 9 i0 (.string ⟨#[]⟩) 1 16 underlying105 hi hI hA hz rfl (by decide) _ _ _ rfl Q g2 q.length cap2 (dF q) rfl (by simp[dF]) Hk (qZ q) hs HL he.o ?_;intro v' W3 Hj He _)
   have hD:Hu (iG _ W3 v' (R++q)):=qI (OY Hj);have hf:=qI (V.o.grown He he.o λj O=>(World.ownsRow.lt Q j O).1);clear Hj He Q X Hf Hk
   go_wp2_with fail
   refine (hq.o _ _ _ hD.o).mono ?_;rintro e W4 ⟨rfl,H9⟩;have Hm:=qI (hf.o.trans (H9.mono hf.o.size));have HF:=qI (HQ.o.below Hm.o);have HJ:=qI (Hp.o.trans (Hm.o.mono Hp.o.size));have H0:w+1<=W4.heap.size:=Q5 Z.o (Q5 D.o.size Hm.o.size);clear H9
   go_wp2_with fail
   refine (xr _ _ _ _ _ HF.o hy H0).mono ?_;rintro e W5 ⟨rfl,Hz,T⟩;have hn:=qI (HJ.o.trans (T.mono (Nat.le_succ _)));have hp:=qI (Q5 H0 T.size);have HS:=qI Hz;clear Hz T
   go_wp2
   go_roundw
   case rel=>exact⟨k+1,by omega,by go_num,hn.o,by rw[hM.o,<- List.append_assoc];exact HS.o,hp⟩
   case measure=>simp[intOf];omega
  ·have hG:k=h.pod.cs.length:=by omega
   subst hG
   go_wp2_with fail
   refine (CS _ _ _ _ L Z.o).mono ?_;rintro e W1 ⟨rfl,Hs⟩;have hl:=z.trans (Hs.mono (Nat.le_succ _))
   go_wp2
   go_ret;exact⟨by rw[hL.o];rfl,hl⟩
section
open Go.ChangeShapes Go.WideShapes Go.ChangeAt Go.RowKit
theorem O1:ownKnob prog.godebug=none:=by kernel_rfl
theorem xt:laidOutB prog=true:=by kernel_rfl
theorem O2:(prog.globals[1]?).map (·.type)=some 396:=by kernel_rfl
theorem O3:prog.cellsOf 396=20:=by kernel_rfl
theorem O4:prog.cellsOf 23=1:=by kernel_rfl
theorem O5:(Rows.laid_internal_strconv_uint64pow10:DataW Unit)=Lib.tabData .u64 Lib.pow10Tab:=by kernel_rfl
def O6:Array Value:=#[.int .u8 0,.int .u8 1,.int .u8 28,.int .u8 2,.int .u8 29,.int .u8 14,.int .u8 24,.int .u8 3,.int .u8 30,.int .u8 22,.int .u8 20,.int .u8 15,.int .u8 25,.int .u8 17,.int .u8 4,.int .u8 8,.int .u8 31,.int .u8 27,.int .u8 13,.int .u8 23,.int .u8 21,.int .u8 19,.int .u8 16,.int .u8 7,.int .u8 26,.int .u8 12,.int .u8 18,.int .u8 6,.int .u8 11,.int .u8 5,.int .u8 10,.int .u8 9]
def O7:Array Value:=#[.int .u8 0,.int .u8 1,.int .u8 56,.int .u8 2,.int .u8 57,.int .u8 49,.int .u8 28,.int .u8 3,.int .u8 61,.int .u8 58,.int .u8 42,.int .u8 50,.int .u8 38,.int .u8 29,.int .u8 17,.int .u8 4,.int .u8 62,.int .u8 47,.int .u8 59,.int .u8 36,.int .u8 45,.int .u8 43,.int .u8 51,.int .u8 22,.int .u8 53,.int .u8 39,.int .u8 33,.int .u8 30,.int .u8 24,.int .u8 18,.int .u8 12,.int .u8 5,.int .u8 63,.int .u8 55,.int .u8 48,.int .u8 27,.int .u8 60,.int .u8 41,.int .u8 37,.int .u8 16,.int .u8 46,.int .u8 35,.int .u8 44,.int .u8 21,.int .u8 52,.int .u8 32,.int .u8 23,.int .u8 11,.int .u8 54,.int .u8 26,.int .u8 40,.int .u8 15,.int .u8 34,.int .u8 20,.int .u8 31,.int .u8 10,.int .u8 25,.int .u8 14,.int .u8 19,.int .u8 9,.int .u8 13,.int .u8 8,.int .u8 7,.int .u8 6]
def O8:Array Value:=#[.int .u8 128,.int .u8 191,.int .u8 160,.int .u8 191,.int .u8 128,.int .u8 159,.int .u8 144,.int .u8 191,.int .u8 128,.int .u8 143,.int .u8 0,.int .u8 0,.int .u8 0,.int .u8 0,.int .u8 0,.int .u8 0,.int .u8 0,.int .u8 0,.int .u8 0,.int .u8 0,.int .u8 0,.int .u8 0,.int .u8 0,.int .u8 0,.int .u8 0,.int .u8 0,.int .u8 0,.int .u8 0,.int .u8 0,.int .u8 0,.int .u8 0,.int .u8 0]
theorem mxV(a:W.ShapedOpen prog):cS W:=laysM219.s1_3 W a
theorem O9{rest : List (String × DataW Unit)}(h : laidMet prog (("math/bits.deBruijn32tab", Rows.laid_math_bits_deBruijn32tab) :: ("math/bits.deBruijn64tab", Rows.laid_math_bits_deBruijn64tab) :: ("internal/strconv.uint64pow10", Rows.laid_internal_strconv_uint64pow10) :: rest) W) : bJ W := by
 have h2:=laidMet.tail (laidMet.tail h);rw[O5] at h2;have ht:kf W:=Lib.tabIs_of_head tK O2 underlying396 underlying23 O4 O3 h2;exact⟨ht,Q3 W ⟨1,0,none⟩ (ht.cell tK 0 (by decide))⟩
noncomputable def xu (os:Os):World:=
 { World.holding prog os ⟨#[],#[],[]⟩ with heap:=((((((World.holding prog os ⟨#[],#[],[]⟩).heap.modify 1 fun
   | .cells _ t frozen=>.cells (Lib.pow10Tab.map (Value.int .u64)).toArray t frozen
   | o=>o).modify 2 fun
   | .cells _ t frozen=>.cells O6 t frozen
   | o=>o).modify 3 fun
   | .cells _ t frozen=>.cells O7 t frozen
   | o=>o).modify 5 fun
   | .cells _ t frozen=>.cells O8 t frozen
   | o=>o).modify 4 fun
   | .cells _ t frozen=>.cells (Go.Pinned.utf8FirstZ.map λ(n:Nat)=>Value.int .u8 (n:Int)).toArray t frozen
   | o=>o) }
end
def ja (hs:List af):Value:=if bw hs=0 then .tuple #[.string ⟨(bn hs).toArray⟩,.nilIface] else .tuple #[.string ⟨#[]⟩,aJ (bw hs:Nat)]
theorem Pa(hs:List af)(k:Nat):ie hs (k+1)=ie hs k++iY (ag hs k):=rfl
theorem tR(v:Value)(hs:List af)(w:World)(h:aY w v hs)(l:bJ w):Calls prog 95 #[v] w λe w'=>e=.returned (ja hs)/\Below w w w':=by
 have Hl:=qI (Mr v hs w h)
 by_cases hf:bw hs=0
 ·have p:Hu (ja hs=.tuple #[.string ⟨(bn hs).toArray⟩,.nilIface]):=by unfold Hu ja;rw[if_pos hf]
  have Hh:=tw hf h.cps;have z:aJ ((bw hs:Nat):Int)=.nilIface:=by rw[hf];rfl
  have X:=qI h;have u:=qI l;have A:=qI Hh;obtain⟨E,c,rfl,y,_⟩:=h;have HQ:=Hh.1;unfold maxLen at y;have R:Hu (bn hs=dj hs++dB (dj hs)):=rfl;have Ht:Hu (dj hs=ie hs hs.length):=rfl;have Hf:=qI (BA Hh);have Hs:=qI (qL (dj hs));clear l Hh
  go_enter func95,ntmps95
  go_wp2_with fail
  refine Hl.o.mono ?_;rintro e a ⟨rfl,Hg⟩;rw[z];have Hz:=qI Hg;have P:=qI (Hg.alloc Hg.size (kT));have F:=qI (CR a);have N:Hu (a.heap.size<=(a.alloc (kT)).heap.size):=by unfold Hu;simp
  clear Hg Hl
  go_wp2
  go_loopw [16] (λi wr=>∃k:Nat,k<=hs.length/\i=.int .i64 k/\Below w w wr/\kg a a (ie hs k) wr/\Hu (a<=wr.heap.size)) (λi _=>hs.length - (intOf i).toNat)
  case atStart=>exact⟨0,Nat.zero_le _,rfl,P.o,F.o,N⟩
  case round=>
   obtain⟨k,L,rfl,g,Hb,r⟩:=hrel
   by_cases d:k<hs.length
   ·obtain⟨_,_,V,_,t⟩:=X.o.below g;cases V;obtain⟨b,o,cv,f,rfl,Hp⟩:=t (by omega);obtain⟨c0,c1,c2,c3⟩:=Hp.at d;obtain⟨_,m,q⟩:=Hp.2 k d;have Ha:=qI ((Q0 wr wr).alloc (lR) (.cells #[(ag hs k).pod.nm,((ag hs k).pod.pr:Int),cv k,f k] 101));have Hm:=qI (g.trans (Ha.o.mono g.size));have Hq:=qI (Hb.below Ha.o);have n:=A.o.2 _ (o9 d);have Hx:=qI (O0 (ag hs k) (cv k) (f k) wr _ (m.below Ha.o) (by simp) (q.below Ha.o) n (u.o.below Hm.o));unfold cz at Hx;have HR:=Bz n;have Hw:=Hf.o k L;have J:=qI (Pa hs k);obtain⟨ca,cc,B⟩:=m.sl;obtain⟨ga,gc,K⟩:=q.sl;clear Hp m q g Hb n t Hf;generalize ie hs k=M at *;generalize iY (ag hs k)=S at *;generalize (ag hs k).pod.nm=nm at *;generalize (ag hs k).pod.pr=pr at *;generalize (ag hs k).pod.cs.length=cl at *;generalize (ag hs k).gs.length=gl at *;generalize cv k=O at *;generalize f k=Q at *;subst B K;have G:M.length+S.length<=1000000:=by omega
    go_wp2_with fail
    refine Hx.o.mono ?_;rintro e x ⟨rfl,He⟩;have Hn:=qI (Hm.o.trans (He.mono Hm.o.size));have Hi:=qI (Hq.o.below He);have Hv:a<=x.heap.size:=Q5 r.o (Q5 Ha.o.size He.size);clear He
    go_wp2_with fail
    refine (xr _ _ _ _ _ Hi.o G Hv).mono ?_;rintro e W5 ⟨rfl,Hc,Hj⟩;have I:=qI (Hn.o.trans (Hj.mono Hz.o.size));have C:=qI (Q5 Hv Hj.size);have Hk:=qI Hc;clear Hc Hj
    go_wp2
    go_roundw
    case rel=>exact⟨k+1,by omega,by go_num,I.o,by rw[J.o];exact Hk.o,C⟩
    case measure=>simp[intOf];omega
   ·have D:k=hs.length:=by omega
    subst D;have Hw:=Hf.o _ (lR);rw[<- Ht.o] at Hb Hw;have HS:=Hs.o;have U:Hu (∀W,Below w w W->Calls prog 142 #[.string ⟨(dj hs).toArray⟩] W λe w'=>e=.returned (.string ⟨(dB (dj hs)).toArray⟩)/\Below W.heap.size W w'):=λW j=>Ct _ W (by omega) (u.o.below j).1
    clear Ht Hs Hf;generalize dB (dj hs)=Y at *;generalize dj hs=H at *;have T:=pq H Y
    go_wp2_with fail
    refine (CS _ _ _ _ Hb r.o).mono ?_;rintro e x ⟨rfl,Hy⟩;have Ho:=qI (g.trans (Hy.mono Hz.o.size));clear Hy g Hb
    go_wp2_with fail
    refine (U.o _ Ho.o).mono ?_;rintro e Z ⟨rfl,Hr⟩;have Hn:=qI (Ho.o.trans (Hr.mono Ho.o.size));clear Hr
    go_wp2
    go_ret2;refine⟨?_,Hn.o⟩;rw[p.o,R.o,<- T];rfl
 ·have p:Hu (ja hs=.tuple #[.string ⟨#[]⟩,aJ (bw hs:Nat)]):=by unfold Hu ja;rw[if_neg hf]
  have s:=qI (eP hf);obtain⟨E,c,rfl,y,_⟩:=h;clear l
  go_enter func95,ntmps95
  go_wp2_with fail
  refine Hl.o.mono ?_;rintro e a ⟨rfl,j⟩;rw[s.o]
  go_wp2
  go_ret2;exact⟨by rw[p.o,s.o];rfl,j⟩
