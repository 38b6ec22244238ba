import Derived.Test.YtjlblidnfebmiaaGreatDoorY14
import Derived.Laws.ResultCell
import Derived.Laws.OwnMore
set_option maxRecDepth 100000
set_option maxHeartbeats 16000000
open Go Go.RowKit Go.Shelf
attribute [local go_sem] Oper.semAt_some
open Go.Proofs.Tryz
namespace Go.Proofs.YtjlblidnfebmiaaGreatDoor
variable{A B C W W2 w:World}{K Q Q':Nat->Prop}{N base cap k m n size:Nat}{ds:List ak}{e:TypeId}{nm:ByteArray}{nv u v v':Value}{o:Obj}{ps:List (List UInt8)}{x:List UInt8}{xs:List Value}
def nOf (l:List UInt8):Int:=if dA 16 l=true then bX l else 0
def gOf (l:List UInt8):Bool:=dA 16 l
theorem M6(l:List UInt8):jq 16 l=.tuple #[(nOf l:Int),.bool (gOf l)]:=by
 unfold jq nOf gOf
 rcases two (dA 16 l) with h|h <;> simp[h]
theorem qJ(l:List UInt8):cB l=if gOf l=true then some (nOf l) else none:=by
 simp_all[cB,nOf,gOf,dA]
theorem sC(s:ByteArray)(w:World)(hs:s.size<=maxLen) :
  CE 247 #[s] w (.tuple #[(nOf s.data.toList:Int),.bool (gOf s.data.toList)]):=by
 have a:=qI (xB s 16 w hs);rw[M6] at a
 go_enter func247,ntmps247
 go_wp2
 refine a.o.e ?_
 go_wp2
 go_ret2;exact⟨rfl,rfl⟩
theorem CU(s r:ByteArray)(w:World)(hs:s.size<=maxLen)(g:r.size<=maxLen) :
  CB 248 #[s,r] w (.tuple #[.agg #[(nOf s.data.toList:Int),(nOf r.data.toList:Int)],.bool (gOf s.data.toList && gOf r.data.toList)]):=by
 have h:=qI λW=>sC s W hs;have c:=qI λW=>sC r W g;have f:=qI ((Q0 w w).alloc (lR) (.cells #[(nOf s.data.toList:Int),(nOf r.data.toList:Int)] 62));generalize nOf s.data.toList=a at *;generalize nOf r.data.toList=b at *;generalize gOf s.data.toList=p at *;generalize gOf r.data.toList=q at *
 rcases two p with rfl|rfl
 all_goals
  go_enter func248,ntmps248
  go_wp2
  refine (h.o _).e ?_
  go_wp2
  refine (c.o _).e ?_
  go_wp2
  (try simp only[Exit.inBlock,Exit.then]);refine bodyPost_ret (v:=.tuple #[.agg #[(a:Int),(b:Int)],_]) ?_ rfl ⟨rfl,f⟩;rw[results_cell_tmp rfl];go_simp
theorem xI{B:Nat}{a:World}(h:Below B a w)(n:Nat):Below B a (w.drewN n):=⟨h.os,h.tape,h.output,h.size,h.block⟩
theorem M7(s:ByteArray){w:World}(hs:s.size<4294967281)(f:dH w) :
  CB 250 #[s] w (.tuple #[.agg #[.string ⟨(be 58 s.data.toList).1.toArray⟩,(nOf (be 58 s.data.toList).2.1:Int)],.bool (gOf (be 58 s.data.toList).2.1)]):=by
 have Ha:=qI ((Q0 w w).alloc (lR) (.cells #[.string ⟨#[]⟩,(0:Int)] 127));have h:=qI (xD s 58 _ hs (f.below Ha));have hle:=(xC 58 s.data.toList).2;have Hb:s.data.toList.length=s.size:=by simp
 generalize (be 58 s.data.toList).2.2=j at *;generalize (be 58 s.data.toList).2.1=b at *;generalize (be 58 s.data.toList).1=a at *;have d:=qI λW=>sC ⟨b.toArray⟩ W (by unfold maxLen;show b.length<=_;omega);have c:(ByteArray.mk b.toArray).data.toList=b:=by simp
 rw[c] at d;clear f hle Hb c;generalize nOf b=n at *;generalize gOf b=g at *
 go_enter func250,ntmps250
 go_wp2
 refine h.o.mono ?_;rintro e i ⟨rfl,m,rfl⟩
 go_wp2
 refine (d.o _).e ?_
 go_wp2
 (try simp only[Exit.inBlock,Exit.then]);refine bodyPost_ret (v:=.tuple #[.agg #[.string ⟨a.toArray⟩,(n:Int)],g]) ?_ rfl ⟨rfl,((xI Ha m).setCell (p:=w.heap.size) (lR) _).setCell (p:=⟨w,1,none⟩) (lR) _⟩;rw[results_cell_tmp rfl];go_simp
def gZ (l:List UInt8):Nat:=if l=[45] then 0 else (ef l).1
def kI (l:List UInt8):Bool:=decide (l=[45]) || decide ((ef l).2=0)
theorem CV(l:List UInt8):qz l=if kI l=true then some (gZ l) else none:=by
 grind[qz,kI,gZ]
theorem xJ(s:ByteArray):(s.toList == [45])=decide (s.data.toList=[45]):=by
 grind[Qs]
theorem M8(s:ByteArray){w:World}(hs:s.size<=maxLen)(i:dH w) :
  CB 251 #[s] w (.tuple #[.int .u64 (gZ s.data.toList:Nat),.bool (kI s.data.toList)]):=by
 have j:=xJ s
 by_cases h:s.data.toList=[45]
 ·have a:Hu (gZ s.data.toList=0/\kI s.data.toList=true):=by grind[Hu,gZ,kI]
  rw[Qc h] at j;rw[a.o.1,a.o.2]
  go_enter func251,ntmps251
  go_wp2
  go_ret2;exact⟨rfl,Q0 _ _⟩
 ·rw[Q7 h] at j;have a:Hu (gZ s.data.toList=(ef s.data.toList).1/\kI s.data.toList=decide ((ef s.data.toList).2=0)):=by grind[Hu,gZ,kI]
  have b:=qI (M4 s hs i);unfold nM at b;rw[a.o.1,a.o.2];clear a i;generalize (ef s.data.toList).1=A at *
  by_cases d:(ef s.data.toList).2=0
  ·have g:uH (ef s.data.toList).2=.nilIface:=by rw[d];rfl
   rw[g] at b;rw[Qc d]
   go_enter func251,ntmps251
   go_wp2
   refine b.o.m λk c=>?_
   go_wp2
   go_quiet (fail)
   go_wp2
   go_ret2;exact⟨rfl,xI c _⟩
  ·have g:uH (ef s.data.toList).2=.iface 108 ((ef s.data.toList).2:Int):=by grind[uH]
   rw[g] at b;rw[Q7 d];generalize (ef s.data.toList).2=f at *
   go_enter func251,ntmps251
   go_wp2
   refine b.o.m λk c=>?_
   go_wp2
   go_quiet (fail)
   go_wp2
   go_ret2;exact⟨rfl,xI c _⟩
theorem xK{w':World}(h:w.ownsRow base e size v n xs)(a:Bw w w'):w'.ownsRow base e size v n xs:=
 h.kept (row:=none) ⟨a.os,a.tape,a.output,a.size,λj b _=>a.block j b⟩ (by grind)
theorem xL(c:UInt8){v:Value}{d:List (List UInt8)}(w:World){base:Nat}(h:w.ownsRow base 9 1 v d.length (dP d))(q:d.length<=1000)(p:(Lib.join d [c]).length<=1000000) :
  CB 227 #[v,.string ⟨#[c]⟩] w (.string ⟨(Lib.join d [c]).toArray⟩):=by
 rcases xG h with⟨rfl,l⟩|⟨g,f,rfl,k,o,Ha⟩
 ·have:d=[]:=Qe l
  subst this;refine (Tryz.strings_Join_none none 0 ⟨#[c]⟩ w).e ?_;exact⟨rfl,Q0 _ _⟩
 ·have n:(d.map λ(b:List UInt8)=>ByteArray.mk b.toArray).map (·.data.toList)=d:=by
   grind[List.map_id'']
  have:=Tryz.strings_Join g 0 f (d.map λ(b:List UInt8)=>ByteArray.mk b.toArray) ⟨#[c]⟩ w (λj x i=>by
   rw[Qd];apply Ha;unfold dP;rw[List.getElem?_map] at i ⊢;obtain⟨a,m,rfl⟩:=Option.map_eq_some_iff.1 i;rw[m];rfl) o (by simp;omega) (by simpa using k) (by grind)
  rw[n] at this
  simpa using this
def jr (xs:List Int) (k:Nat):List (List UInt8):=(xs.take k).map aO
theorem M9{a:List Int}(h:k<a.length):jr a (k+1)=jr a k++[aO (a.getD k 0)]:=by
 grind[jr,Qa]
theorem xM{a:List Int}(h:k<=a.length):(jr a k).length=k:=by
 grind[jr]
theorem CX(a:List Int):jr a a.length=a.map aO:=by grind[jr]
theorem Na{v:Value}{a:List Int}{w:World}(h:bK w v a)(n:∀x∈a,0<=x/\x<=15)(L:a.length<=16)(f:kG w)(t:1<w.heap.size) :
  CB 181 #[v,.func (.func 177) #[] #[]] w (.string ⟨(lB a).toArray⟩):=by
 obtain⟨i0,hi,Hk,Hi,Hn⟩:=info_parts uJ;obtain⟨M,c,rfl,H,u⟩:=h;have y:=qI u;have C:=qI f;have q:=qI n;have z:=qI t;clear u f n t;unfold maxLen at H;have G:Hu (∀(v:Value) (g:World),g.ownsRow w 9 1 v (jr a a.length).length (dP (jr a a.length))->CB 227 #[v,.string ⟨#[44]⟩] g (.string ⟨(Lib.join (jr a a.length) [44]).toArray⟩)):=by
  intro v g h;refine xL 44 g h (by rw[xM (lR)];omega) ?_;refine Q5 (ph 44 20 _ λx n=>?_) (by rw[xM (lR)];omega);rw[CX] at n;obtain⟨d,ah,rfl⟩:=Qk.1 n;exact my d (by have:=(q.o d ah).2;omega)
 have E:Hu (eI (Lib.join (jr a a.length) [44])=lB a):=by grind[Hu,lB,CX]
 go_enter func181,ntmps181
 go_wp2
 go_loopw [5,10] (λr i wr=>∃k:Nat,k<=a.length/\i=.int .i64 k/\wr.ownsRow w 9 1 r (jr a k).length (dP (jr a k))/\Bw w wr) (λ_ i _=>a.length - (intOf i).toNat)
 exact⟨0,by omega,rfl,Qw _ _ _ _,Q0 _ _⟩
 ·obtain⟨k,B,rfl,He,l⟩:=hrel
  by_cases m:k<a.length
  ·obtain⟨b,o,rfl,A,s⟩:=y.o (by omega);have K:=(l.cell (p:=⟨b,o+k,none⟩) A).trans (s k m);have HS:=qI (M9 m);have hle:=xM B;have Hm:=q.o (a.getD k 0) (by simp[m]);have Ho:=l.size;clear s;generalize a.getD k 0=x at *;have F:=qI (Cz x Hm.1 (by omega) (C.o.below l z))
   go_wp2
   refine F.o.m λg Hf=>?_;have Hg:=qI (l.trans (Hf.mono l.size));have Ha:=xK He Hf;have Hl:=Hf.size
   go_wp2_with (at_builtin;refine wpList_append_own _ rfl _ _ 105 rfl w 9 i0 (.string ⟨#[]⟩) 1 16 underlying105 hi Hk Hi Hn rfl (by decide) _ _ _ rfl (Ha.alloc _) ⟨_,0,none⟩ 1 1 [.string ⟨(aO x).toArray⟩] rfl rfl (cell_one_new _ _ _) (sB [aO x]) (by unfold maxLen;omega) (by omega) (by simp;omega) ?_;intro J D Hc Hb _)
   go_roundw
   case rel=>
    refine⟨k+1,by omega,by go_num,?_,?_⟩
    ·rw[HS.o,uK,Q2];exact Hc
    ·exact (Hg.o.alloc Hg.o.size _).grown Hb (by simp;omega) λj I=>(Ha.lt j I).1
   case measure=>simp[intOf];omega
  ·have Hj:k=a.length:=by omega
   subst Hj
   go_wp2
   refine (G.o _ _ He).m λg Hf=>?_;have Hh:=l.trans (Hf.mono l.size)
   go_wp2
   refine (xE).e ?_
   go_wp2
   go_ret;exact⟨by rw[<- E.o];rfl,Hh⟩
theorem nO{fn:Func}{p q:Tmp}{d c:TypeId}(h:fn.results=#[.cell p d,.cell q c])(tmps:Array Value)(P:Program)(w:World) :
  (results fn tmps).run P w =
   ((asAddr (tmps.getD p undef)).run P w).andThen λa f=>((loadVar d a).run P f).andThen λv g=>((asAddr (tmps.getD q undef)).run P g).andThen λb i=>((loadVar c b).run P i).andThen λu e=>.ok (.tuple #[v,u]) e:=by
 simp_all[results]
theorem Apart.boxed(h:Apart K A B){b:Nat}{t:TypeId}(a:Boxed A b t v)(c:¬ K b):Boxed B b t v:=(h.block b a.lt c).trans a
theorem Apart.below(h:Apart K A B)(a:Below N w A)(d:N<=w)(c:∀j,K j->N<=j):Below N w B:=
 ⟨h.os.trans a.os,h.tape.trans a.tape,h.output.trans a.output,Q5 a.size h.size,λj b=>(h.block j (Q1 (Q1 b d) a.size) (λe=>by have:=c j e;omega)).trans (a.block j b)⟩
theorem Apart.row(h:Apart K A B)(k:A.ownsRow base e size v n xs)(d:∀j,K j->j<base):B.ownsRow base e size v n xs:=by
 obtain⟨i,l⟩:=k;refine⟨i,l.imp id ?_⟩;rintro⟨g,b,a,f,m,c,r⟩;exact⟨g,b,a,f,m,(h.block g (gS c).1 (λe=>by have:=d g e;omega)).trans c,r⟩
def pu (l:List Int):List Value:=l.map λ(n:Int)=>Value.int .i64 n
theorem Nb{a:List Int}(h:w.ownsRow base 3 1 v a.length (pu a)):bK w v a:=by
 obtain⟨n,h⟩:=h
 rcases h with⟨rfl,f⟩|⟨g,b,j,rfl,o,c,i,e,hs,m⟩
 ·exact⟨none,0,by rw[f],⟨by omega,by unfold maxLen;omega⟩,λh=>by omega⟩
 ·refine⟨_,b,rfl,⟨i,e⟩,λ_=>⟨g,0,rfl,(gS c).1,λk l=>?_⟩⟩;have d:(pu a)[k]?=some (.int .i64 (a.getD k 0)):=by simp[pu,l]
  rw[<- m,List.getElem?_take,if_pos (by omega)] at d;rw[Qd];simp only[World.cell?,c]
  simpa using d
def iE (ps:List (List UInt8)) (k:Nat):List Int:=(ps.take k).map nOf
theorem Nc(h:k<ps.length):iE ps (k+1)=iE ps k++[nOf ps[k]]:=by
 grind[iE,Qa]
theorem Nd(h:k<=ps.length):(iE ps k).length=k:=by grind[iE]
theorem Nf(h:∀x∈ps,gOf x=true):iY cB ps=some (ps.map nOf):=by induction ps <;> grind[iY,qJ]
theorem Ng(a:x∈ps)(h:gOf x=false):iY cB ps=none:=by induction ps <;> grind[iY,qJ,gOf]
def Nh (w:World) (l:List UInt8) (e:Ending) (w':World):Prop:=
 ∃v,e=.returned (.tuple #[v,.bool (cG cB l).isSome])/\(∀xs,cG cB l=some xs->bK w' v xs)/\(∃a n c,v=.slice a n c/\∀x,a=some x->w.heap.size<=x.block)/\Below w w w'
theorem sD(c:UInt8)(s:List UInt8):(eA c s).length=(aP c s).length:=by simp[eA]
theorem CY(c:UInt8)(s:List UInt8)(k:Nat)(a:k<(aP c s).length):(eA c s)[k]'(by rw[sD];exact a)=#[Value.string ⟨((aP c s)[k]).toArray⟩]:=by simp[eA]
theorem xN:(prog.info? 3).map (λi=>(i.zero,i.size,i.bytes))=some (some (.int .i64 0),1,8):=by kernel_rfl
theorem fI{v:Value}(h:w.ownsRow base e size v n xs):∃b c,v=.slice b n c:=by
 rcases h.2 with⟨rfl,f⟩|⟨g,d,a,rfl,_⟩
 ·grind
 ·exact⟨_,_,rfl⟩
theorem CZ{a:Option Addr}{c:Nat}(h:w.ownsRow base e size (.slice a m c) n xs){x:Addr}(f:a=some x):base<=x.block:=by
 rcases h.2 with⟨b,_⟩|⟨g,i,d,b,j,_⟩
 ·subst f;cases b
 ·grind
theorem bK.apart{v:Value}{f:List Int}(h:bK A v f)(m:∃a n c,v=.slice a n c/\∀x,a=some x->N<=x.block)(d:Apart K A B)(u:∀j,K j->j<N):bK B v f:=by
 obtain⟨p,c,rfl,i,q⟩:=h;obtain⟨_,_,_,e,r⟩:=m;cases e;refine⟨p,c,rfl,i,λl=>?_⟩;obtain⟨b,o,g,Hb,Hc⟩:=q l;have t:=r _ g;have Ha:=d.block b Hb (λe=>by grind);exact⟨b,o,g,Q1 Hb d.size,λk s=>(World.cell?_of_block (a:=⟨b,o+k,none⟩) Ha).trans (Hc k s)⟩
theorem xO(h:w.ownsRow base e size v n xs)(a:(w.alloc o).grownBy W v.ownBlock):Apart (λj=>base<=j) w W:=by
 refine (Apart.alloc _ w o).trans ⟨a.os,a.tape,a.output,a.size,λj c b=>a.block j c λe=>b (h.lt j e.symm).1⟩
structure RInv (w A:World) (ps:List (List UInt8)) (k:Nat) (W:World):Prop where
 le:k<=ps.length
 b0:Boxed W w 347 (.func (.func 247) #[] #[])
 b1:Boxed W (w.heap.size+1) 46 (.slice none 0 0)
 b2:Boxed W (w.heap.size+1+1) 4 false
 row:∃v,Boxed W (w.heap.size+1+1+1) 46 v/\W.ownsRow (A.heap.size+2) 3 1 v (iE ps k).length (pu (iE ps k))
 below:Below w w W
 good:∀x∈ps.take k,gOf x=true
theorem RInv.apart(h:RInv w A ps k B)(n:A=w.heap.size+1+1+1+1+3)(a:Apart (λj=>KSp (w.heap.size+1+1+1+1) j\/j=A.heap.size+1) B C):RInv w A ps k C:=by
 obtain⟨d,l,c,i,⟨v,e,m⟩,f,g⟩:=h;exact⟨d,a.boxed l (by unfold KSp;omega),a.boxed c (by unfold KSp;omega),a.boxed i (by unfold KSp;omega),⟨v,a.boxed e (by unfold KSp;omega),a.row m (λj b=>by unfold KSp at b;omega)⟩,a.below f (lR) (λj b=>by unfold KSp at b;omega),g⟩
theorem Ni(s:ByteArray)(w:World)(hs:s.size<=100000) :
  Calls pg 252 #[.string s,.func (.func 247) #[] #[]] w (Nh w s.data.toList):=by
 have T:=xJ s;obtain⟨i0,hi,HT,HY,H0⟩:=info_parts xN;have Hj:=((((Q0 w w).alloc (lR) (.cells #[.func (.func 247) #[] #[]] 347)).alloc (by simp) (.cells #[()] 46)).alloc (by simp;omega) (.cells #[false] 4))
 by_cases h:s.data.toList=[45]
 ·rw[Qc h] at T;have D:Hu (cG cB s.data.toList=some []):=by grind[Hu,cG]
  clear Hj;have p:=((((Q0 w w).alloc (lR) (.cells #[.func (.func 247) #[] #[]] 347)).alloc (by simp) (.cells #[()] 46)).alloc (by simp;omega) (.cells #[true] 4));have M:=qI p;clear p
  go_enter func252,ntmps252
  go_wp2
  (try simp only[Exit.inBlock,Exit.then]);refine bodyPost_ret (v:=.tuple #[(),true]) ?_ rfl ⟨.slice none 0 0,by rw[D.o];rfl,λxs b=>?_,⟨_,_,_,rfl,λx b=>by cases b⟩,M⟩
  ·rw[nO rfl];go_simp
  ·rw[D.o] at b;cases b;exact⟨none,0,rfl,⟨by simp,by unfold maxLen;omega⟩,λh=>by simp at h⟩
 ·rw[Q7 h] at T;have H:=qI Hj;clear Hj;have x3:=((Boxed.new w 347 (.func (.func 247) #[] #[])).alloc (.cells #[()] 46)).alloc (.cells #[false] 4) |>.alloc (.cells #[()] 46);have Z:=((Boxed.new (w.alloc (.cells #[.func (.func 247) #[] #[]] 347)) 46 ()).alloc (.cells #[false] 4)).alloc (.cells #[()] 46);have S:=(Boxed.new ((w.alloc (.cells #[.func (.func 247) #[] #[]] 347)).alloc (.cells #[()] 46)) 4 false).alloc (.cells #[()] 46);have U:=Boxed.new (((w.alloc (.cells #[.func (.func 247) #[] #[]] 347)).alloc (.cells #[()] 46)).alloc (.cells #[false] 4)) 46 ();simp only[World.size_alloc] at Z S U;have HF:=qI (H.o.alloc (by simp;omega) (.cells #[()] 46));have HK:((((w.alloc (.cells #[.func (.func 247) #[] #[]] 347)).alloc (.cells #[()] 46)).alloc (.cells #[false] 4)).alloc (.cells #[()] 46)).heap.size=w.heap.size+1+1+1+1:=by simp
  have P:=qI x3;have Y:=qI Z;have J:=qI S;have X6:=qI U;clear x3 Z S U H;refine (callsIn_wide (n:=3)).1 ?_;refine callsIn_of_wp_marks func252 rfl trivial ?_ rfl;simp only[ntmps252,List.size_toArray,Qg,List.length_nil,Nat.reduceAdd,Nat.reduceSub,Array.replicate_succ,Array.replicate_zero,List.push_toArray,List.append_toArray,List.nil_append,List.cons_append]
  gi_wp2
  generalize (((w.alloc (.cells #[.func (.func 247) #[] #[]] 347)).alloc (.cells #[()] 46)).alloc (.cells #[false] 4)).alloc (.cells #[()] 46)=V at *;refine⟨trivial,(callsIn_wide.2 (Ce s 44 V)).mono ?_⟩;rintro e A ⟨rfl,Hp,Ho,Hq⟩;have HI:=HF.t Ho;have I:=qI (show Boxed A _ _ _ from (Ho.block _ P.o.lt).trans P);have H6:=qI (show Boxed A _ _ _ from (Ho.block _ Y.o.lt).trans Y);have L:=qI (show Boxed A _ _ _ from (Ho.block _ J.o.lt).trans J);have X:=qI (show Boxed A _ _ _ from (Ho.block _ X6.o.lt).trans X6);have Hf:=Cg 2 (by omega) Hp (by simp;omega);rw[HK] at Hq Hf ⊢;clear Ho P Y J X6 HF Hp HK
  gi_wp2
  have D:Hu (cG cB s.data.toList=iY cB (aP 44 s.data.toList)):=by grind[Hu,cG]
  have Hx:=qI (qH 44 s.data.toList);have HP:=qI (uN 44 s.data.toList);have H5:s.data.toList.length=s.size:=by simp
  generalize hgl:s.data.toList=sl at *;generalize hps:aP 44 sl=a at *;have Hy:Hu (∀k,(m:k<a.length)->∃HR:k<(eA 44 sl).length,(eA 44 sl)[k]=#[Value.string ⟨(a.getD k []).toArray⟩]):=λk m=>by
   grind[sD,CY]
  have F:Hu ((eA 44 sl).length=a.length):=by grind[Hu,sD]
  have Ht:Hu (∀x∈eA 44 sl,x.size=1):=by
   intro x b;obtain⟨y,_,rfl⟩:=Qk.1 b;rfl
  have H4:=HI.o.size;clear hps h T;refine xo rfl (by omega) (gf:=322) rfl trivial (enters_of func322 (by kernel_rfl) rfl) (K:=KSp (w.heap.size+1+1+1+1)) (ts:=eA 44 sl) (λj d=>by unfold KSp at d;omega) Hf Ht
   (λk W=>RInv w A a k W) (λc W=>c=.ret/\Boxed W (w.heap.size+1) 46 ()/\Boxed W (w.heap.size+1+1) 4 false/\Bw w W/\cG cB sl=none)
   (λk B C hi Ha=>hi.apart Hq Ha) (λc B C b Ha=>⟨b.1,Ha.boxed b.2.1 (by unfold KSp;omega),Ha.boxed b.2.2.1 (by unfold KSp;omega),Ha.below b.2.2.2.1 (lR) (λj d=>by unfold KSp at d;omega),b.2.2.2.2⟩)
   ⟨Nat.zero_le _,I,H6,L,⟨_,X,Qw _ _ _ _⟩,HI,by simp⟩
   (λk=>{ tmps:=#[Value.string s,Value.func (Fn.func 247) #[] #[],undef,Value.pointer (some ⟨w,0,none⟩),Value.pointer (some ⟨w.heap.size+1,0,none⟩),Value.pointer (some ⟨w.heap.size+1+1,0,none⟩),Value.pointer (some ⟨w.heap.size+1+1+1,0,none⟩),Value.string ⟨(a.getD k []).toArray⟩,undef,undef,Value.string s,Value.bool false,Value.string s,Value.func (Fn.func 322) #[] #[Value.pointer (some ⟨w.heap.size+1+1+1+1+1,0,none⟩),Value.pointer (some ⟨w.heap.size+1+1+1+1,0,none⟩),Value.pointer (some ⟨w.heap.size+1+1+1+1+2,0,none⟩)],Value.string ⟨(a.getD k []).toArray⟩,undef,undef,undef,undef,undef,undef,undef,undef,undef,undef,undef,undef,undef],defers:=[] }) ?assign ?body ?done ?stop
  case assign=>
   intro l k m W R hR;rw[F.o] at m;obtain⟨HR,e⟩:=Hy.o k m;rw[e];clear e;generalize a.getD k []=x at *
   gi_wp2
   exact hR
  case body=>
   intro l k W m H2 t;rw[F.o] at m;obtain⟨h1,O,Hl,Hn,⟨v,Hj,Hb⟩,Hg,He⟩:=t;have Q:a.getD k []∈a:=by simp[m]
   have H1:=Hx.o _ Q;have HO:Hu (a.take (k+1)=a.take k++[a.getD k []]):=by grind[Hu,Qa]
   have HV:Hu (iE a (k+1)=iE a k++[nOf (a.getD k [])]):=by grind[Hu,Nc]
   have HW:=qI (Nd h1);have H3:=HP.o;have Hz:Hu (gOf (a.getD k [])=false->cG cB sl=none):=λo=>by rw[D.o];exact Ng Q o
   generalize a.getD k []=x at *;have i:=qI (sC ⟨x.toArray⟩ W (by unfold maxLen;show x.length<=_;omega));rw[show (ByteArray.mk x.toArray).data.toList=x by simp] at i;have c0:=O.cell;have Hv:=qI Hl;have Hw:=qI Hn;have H:=qI Hj;have HM:=qI O;have Hs:=qI Hb;have Hi:=qI Hg;have Hr:=qI He;generalize nOf x=E at *;clear He Hg Hf Hy Ht Hx Q
   rcases two (gOf x) with o|o
   ·rw[o] at i;have c3:=Hj.cell;have HZ:(iE a k).length+1<=200000:=by rw[HW.o];omega
    obtain⟨f,vc,hv⟩:∃ao c,v=.slice ao (iE a k).length c:=by
     rcases Hb.2 with⟨rfl,h0⟩|⟨g,hh,hc,rfl,_⟩
     ·grind
     ·exact⟨_,_,rfl⟩
    generalize iE a k=ns at *;subst hv
    gi_wp2
    refine⟨trivial,(CallsIn.inRound l (callsIn_wide.2 i)).mono ?_⟩;rintro e q ⟨rfl,rfl⟩
    gi_wp2_with (gi_at_builtin;refine wpListIn_append_own_at _ rfl _ _ 46 rfl (A.heap.size+2) 3 i0 (0:Int) 1 8 underlying46 hi HT HY H0 rfl (by decide) _ _ _ rfl (Hb.alloc _) ⟨_,0,none⟩ 1 1 [.int .i64 E] rfl rfl (cell_one_new _ _ _) (by intro u hu;simp at hu;subst hu;rfl) (by unfold maxLen;omega) (by omega) (by simp;omega) ?_;intro v' W2 Hk Hh _ _;obtain⟨na,nc,rfl⟩:=fI Hk;have HQ:(q.alloc (.cells #[(E:Int)] 3)).grownBy W2 (Value.slice f ns.length vc).ownBlock:=Hh;clear Hh;have HH:=xO Hb HQ;have Hm:=HH.boxed Hj (by omega);have ha:=Hm.cell;have he:=Hm.frozen)
    have Ha:Apart (λj=>A.heap.size+2<=j\/j=w.heap.size+1+1+1) q (W2.setCell ⟨w.heap.size+1+1+1,0,none⟩ (.slice na (ns.length+1) nc)):=(HH.wide λ_=>.inl).trans (Apart.setCell (.inr rfl) _ _ _);refine⟨λj d=>Ha.block j (by unfold KSp at d;omega) (by unfold KSp at d;omega),by omega,Ha.boxed HM (by omega),Ha.boxed Hv (by omega),Ha.boxed Hw (by omega),⟨_,Hm.set _,?_⟩,Ha.below Hi (lR) (λj d=>by omega),?_⟩
    ·rw[HV.o,show pu (ns++[E])=pu ns++[.int .i64 E] by simp[pu],Q2];exact (Apart.setCell (K:=λj=>j=w.heap.size+1+1+1) rfl W2 0 _).row Hk (λj d=>by omega)
    ·rw[HO.o];intro y r
     rcases Qi.1 r with r|r
     ·exact Hr.o y r
     ·grind
   ·rw[o] at i;have HX:=qI (Hz.o o);have f1:=Hl.frozen;have f2:=Hn.frozen;have c1:=Hl.cell;have c2:=Hn.cell
    gi_wp2
    refine⟨trivial,(CallsIn.inRound l (callsIn_wide.2 i)).mono ?_⟩;rintro e q ⟨rfl,rfl⟩
    gi_wp2
    have Ha:Apart (λj=>j=w.heap.size+1\/j=w.heap.size+1+1) q ((q.setCell (w.heap.size+1:Nat) ()).setCell ⟨w.heap.size+1+1,0,none⟩ false):=(Apart.setCell (.inl rfl) _ _ _).trans (Apart.setCell (.inr rfl) _ _ _);exact⟨λj d=>Ha.block j (by unfold KSp at d;omega) (by unfold KSp at d;omega),rfl,(Apart.setCell (K:=λj=>j=w.heap.size+1+1) rfl _ 0 _).boxed (Hv.o.set _) (by omega),((Apart.setCell (K:=λj=>j=w.heap.size+1) rfl _ 0 _).boxed Hw (by omega)).set _,Ha.below Hi (lR) (λj d=>by omega),HX⟩
  case done=>
   intro W t z;rw[F.o] at t;obtain⟨_,O,Hl,Hn,⟨v,Hj,Hb⟩,Hg,He⟩:=t;have HS:Hu (cG cB sl=some (iE a a.length)):=by
    grind[Nf,iE]
   have Hs:=qI Hb;have c3:=Hj.cell;have c1:=Hl.cell;have c2:=Hn.cell;have f1:=Hl.frozen;have f2:=Hn.frozen;have Hi:=qI Hg;have Hv:=qI Hl;have Hw:=qI Hn;obtain⟨f,vc,rfl⟩:=fI Hb;clear He Hg Hb Hf Hy Ht Hx;generalize iE a a.length=ns at *
   gi_wp2
   have Ha:Apart (λj=>j=w.heap.size+1\/j=w.heap.size+1+1) W ((W.setCell (w.heap.size+1:Nat) (.slice f ns.length vc)).setCell ⟨w.heap.size+1+1,0,none⟩ true):=(Apart.setCell (.inl rfl) _ _ _).trans (Apart.setCell (.inr rfl) _ _ _);have b1:=(Apart.setCell (K:=λj=>j=w.heap.size+1+1) rfl _ 0 true).boxed (Hv.o.set (.slice f ns.length vc)) (by omega);have b2:=((Apart.setCell (K:=λj=>j=w.heap.size+1) rfl W 0 (.slice f ns.length vc)).boxed Hw (by omega)).set true;have HU:=(Ha.block A (gS z).1 (by omega)).trans z;generalize (W.setCell (w.heap.size+1:Nat) (.slice f ns.length vc)).setCell ⟨w.heap.size+1+1,0,none⟩ true=G at *;have Hc:Apart (λj=>j=A.heap.size) G (G.putObj A (.deferred none)):=Apart.putObj (K:=λj=>j=A.heap.size) rfl _ _;have e1:=(Hc.boxed b1 (by omega)).cell;have e2:=(Hc.boxed b2 (by omega)).cell;have HJ:=qI (Hc.row (Ha.row Hs (λj d=>by omega)) (λj d=>by omega));have N:=qI (Hc.below (Ha.below Hi (lR) (λj d=>by omega)) (lR) (λj d=>by omega));refine⟨by simp,.inl ⟨_,_,rfl,run_takeDeferred HU,?_⟩⟩;refine⟨.tuple #[.slice f ns.length vc,true],?_,.slice f ns.length vc,by rw[HS.o];rfl,λxs b=>?_,⟨_,_,_,rfl,λx b=>Q5 (by omega) (CZ HJ b)⟩,N⟩
   ·generalize G.putObj A (Obj.deferred none)=W6 at *;rw[nO rfl];go_simp
   ·rw[HS.o] at b;cases b;exact Nb HJ
  case stop=>
   rintro c W ⟨rfl,h4,h5,p,hn⟩ z;have c1:=h4.cell;have c2:=h5.cell;have i:=qI hn;have M:=qI p;clear hn p Hf Hy Ht Hx
   gi_wp2
   have Hc:Apart (λj=>j=A.heap.size) W (W.putObj A (.deferred none)):=Apart.putObj (K:=λj=>j=A.heap.size) rfl _ _;have e1:=(Hc.boxed h4 (by omega)).cell;have e2:=(Hc.boxed h5 (by omega)).cell;have N:=qI (Hc.below M (lR) (λj d=>by omega));refine⟨by simp,.inl ⟨_,_,rfl,run_takeDeferred z,?_⟩⟩;refine⟨.tuple #[(),false],?_,(),by rw[i.o];rfl,λxs b=>?_,⟨_,_,_,rfl,λx b=>by cases b⟩,N⟩
   ·generalize W.putObj A (Obj.deferred none)=W6 at *;rw[nO rfl];go_simp
   ·rw[i.o] at b;cases b
def mD (x:List UInt8):ak:=⟨⟨(be 58 x).1.toArray⟩,nOf (be 58 x).2.1⟩
def gN (x:List UInt8):Bool:=gOf (be 58 x).2.1
theorem C0(x:List UInt8):cP x=if gN x=true then some (mD x) else none:=by
 grind[cP,gN,mD,qJ]
def i6 (ps:List (List UInt8)) (k:Nat):List ak:=(ps.take k).map mD
theorem Nj(h:k<ps.length):i6 ps (k+1)=i6 ps k++[mD ps[k]]:=by
 grind[i6,Qa]
theorem Nk(h:k<=ps.length):(i6 ps k).length=k:=by grind[i6]
theorem Nl(h:∀x∈ps,gN x=true):iY cP ps=some (ps.map mD):=by induction ps <;> grind[iY,C0]
theorem Nn(a:x∈ps)(h:gN x=false):iY cP ps=none:=by induction ps <;> grind[iY,C0,gN]
def pw (d:ak):List Value:=[.string d.kind,.int .i64 d.many]
def mE (l:List ak):List Value:=l.flatMap pw
theorem No(l:List ak)(d:ak):mE (l++[d])=mE l++pw d:=by simp[mE]
theorem Np:∀(l:List ak) (k:Nat),k<l.length->(mE l)[k*2]?=some (.string (ar l k).kind)/\(mE l)[k*2+1]?=some (.int .i64 (ar l k).many):=by
 intro l
 induction l with
 | nil=>intro k a;simp at a
 | cons d r ih=>
  intro k a;cases k with
  | zero=>exact⟨rfl,rfl⟩
  | succ k=>
   have h:=ih k (by simpa using a);have e:mE (d :: r)=.string d.kind :: .int .i64 d.many :: mE r:=rfl;rw[e,show (k+1)*2=k*2+1+1 by omega,List.getElem?_cons_succ,List.getElem?_cons_succ,List.getElem?_cons_succ,List.getElem?_cons_succ];exact h
theorem Nq{a:List ak}(h:w.ownsRow base 127 2 v a.length (mE a)):bC w v a:=by
 obtain⟨o,h⟩:=h
 rcases h with⟨rfl,i⟩|⟨g,b,l,rfl,p,d,j,f,hs,n⟩
 ·exact⟨none,0,by rw[i],by omega,λh=>by omega⟩
 ·refine⟨_,b,rfl,Q5 j f,λ_=>⟨g,0,rfl,(gS d).1,λk m=>?_⟩⟩;obtain⟨c,e⟩:=Np a k m;rw[<- n,List.getElem?_take,if_pos (by omega)] at c e;rw[Qd];simp only[World.cell?,d];exact⟨by simpa using c,by simpa using e⟩
theorem Nr{v:Value}{f:List ak}(h:bC A v f)(p:∃a n c,v=.slice a n c/\∀x,a=some x->N<=x.block)(d:Apart K A B)(u:∀j,K j->j<N):bC B v f:=by
 obtain⟨q,c,rfl,l,r⟩:=h;obtain⟨_,_,_,e,s⟩:=p;cases e;refine⟨q,c,rfl,l,λm=>?_⟩;obtain⟨b,o,g,Hb,Hc⟩:=r m;have t:=s _ g;have Ha:=d.block b Hb (λe=>by grind);exact⟨b,o,g,Q1 Hb d.size,λk i=>⟨(World.cell?_of_block (a:=⟨b,o+k*2,none⟩) Ha).trans (Hc k i).1,(World.cell?_of_block (a:=⟨b,o+k*2+1,none⟩) Ha).trans (Hc k i).2⟩⟩
def Ns (w:World) (l:List UInt8) (e:Ending) (w':World):Prop:=
 ∃v,e=.returned (.tuple #[v,.bool (cG cP l).isSome])/\(∀xs,cG cP l=some xs->bC w' v xs)/\(∃a n c,v=.slice a n c/\∀x,a=some x->w.heap.size<=x.block)/\Below w w w'
theorem C5:(prog.info? 127).map (λi=>(i.zero,i.size,i.bytes))=some (some (.agg #[ByteArray.empty,(0:Int)]),2,24):=by kernel_rfl
theorem Nt{w:World}{d:ak}{t:TypeId}:∀j u,(pw d)[j]?=some u->(w.alloc (.cells #[d.kind,(d.many:Int)] t)).cell? ((w.heap.size:Addr).add j)=some u:=by
 simp[Addr.add_lit,pw]
theorem Nu(d:ak):∀u∈pw d,u.oneCell'=true:=by
 intro u a
 simp[pw] at a
 rcases a with rfl|rfl <;> rfl
structure uO (w A:World) (ps:List (List UInt8)) (k:Nat) (W:World):Prop where
 le:k<=ps.length
 b0:Boxed W w 352 (.func (.func 250) #[] #[])
 b1:Boxed W (w.heap.size+1) 63 (.slice none 0 0)
 b2:Boxed W (w.heap.size+1+1) 4 false
 row:∃v,Boxed W (w.heap.size+1+1+1) 63 v/\W.ownsRow (A.heap.size+2) 127 2 v (i6 ps k).length (mE (i6 ps k))
 below:Below w w W
 good:∀x∈ps.take k,gN x=true
theorem uO.apart(h:uO w A ps k B)(n:A=w.heap.size+1+1+1+1+3)(a:Apart (λj=>KSp (w.heap.size+1+1+1+1) j\/j=A.heap.size+1) B C):uO w A ps k C:=by
 obtain⟨d,l,c,i,⟨v,e,m⟩,f,g⟩:=h;exact⟨d,a.boxed l (by unfold KSp;omega),a.boxed c (by unfold KSp;omega),a.boxed i (by unfold KSp;omega),⟨v,a.boxed e (by unfold KSp;omega),a.row m (λj b=>by unfold KSp at b;omega)⟩,a.below f (lR) (λj b=>by unfold KSp at b;omega),g⟩
abbrev px:=λ(x0:ak)=>(.cells #[x0.kind,(x0.many:Int)] 127:Obj)
theorem Nv(s:ByteArray){w:World}(hs:s.size<=100000)(hm:dH w) :
  Calls pg 249 #[.string s,.func (.func 250) #[] #[]] w (Ns w s.data.toList):=by
 have T:=xJ s;obtain⟨i0,hi,HY,H4,H6⟩:=info_parts C5;have Hj:=((((Q0 w w).alloc (lR) (.cells #[.func (.func 250) #[] #[]] 352)).alloc (by simp) (.cells #[()] 63)).alloc (by simp;omega) (.cells #[false] 4))
 by_cases h:s.data.toList=[45]
 ·rw[Qc h] at T;have D:Hu (cG cP s.data.toList=some []):=by grind[Hu,cG]
  clear Hj;have q:=((((Q0 w w).alloc (lR) (.cells #[.func (.func 250) #[] #[]] 352)).alloc (by simp) (.cells #[()] 63)).alloc (by simp;omega) (.cells #[true] 4));have L:=qI q;clear q
  go_enter func249,ntmps249
  go_wp2
  (try simp only[Exit.inBlock,Exit.then]);refine bodyPost_ret (v:=.tuple #[(),true]) ?_ rfl ⟨.slice none 0 0,by rw[D.o];rfl,λxs b=>?_,⟨_,_,_,rfl,λx b=>by cases b⟩,L⟩
  ·rw[nO rfl];go_simp
  ·rw[D.o] at b;cases b;exact⟨none,0,rfl,by simp,λh=>by simp at h⟩
 ·rw[Q7 h] at T;have Hy:=qI Hj;clear Hj;have x3:=((Boxed.new w 352 (.func (.func 250) #[] #[])).alloc (.cells #[()] 63)).alloc (.cells #[false] 4) |>.alloc (.cells #[()] 63);have x4:=((Boxed.new (w.alloc (.cells #[.func (.func 250) #[] #[]] 352)) 63 ()).alloc (.cells #[false] 4)).alloc (.cells #[()] 63);have S:=(Boxed.new ((w.alloc (.cells #[.func (.func 250) #[] #[]] 352)).alloc (.cells #[()] 63)) 4 false).alloc (.cells #[()] 63);have U:=Boxed.new (((w.alloc (.cells #[.func (.func 250) #[] #[]] 352)).alloc (.cells #[()] 63)).alloc (.cells #[false] 4)) 63 ();simp only[World.size_alloc] at x4 S U;have O:=qI (Hy.o.alloc (by simp;omega) (.cells #[()] 63));have HR:((((w.alloc (.cells #[.func (.func 250) #[] #[]] 352)).alloc (.cells #[()] 63)).alloc (.cells #[false] 4)).alloc (.cells #[()] 63)).heap.size=w.heap.size+1+1+1+1:=by simp
  have N:=qI x3;have X4:=qI x4;have H:=qI S;have X6:=qI U;clear x3 x4 S U Hy;refine (callsIn_wide (n:=3)).1 ?_;refine callsIn_of_wp_marks func249 rfl trivial ?_ rfl;simp only[ntmps249,List.size_toArray,Qg,List.length_nil,Nat.reduceAdd,Nat.reduceSub,Array.replicate_succ,Array.replicate_zero,List.push_toArray,List.append_toArray,List.nil_append,List.cons_append]
  gi_wp2
  generalize (((w.alloc (.cells #[.func (.func 250) #[] #[]] 352)).alloc (.cells #[()] 63)).alloc (.cells #[false] 4)).alloc (.cells #[()] 63)=V at *;refine⟨trivial,(callsIn_wide.2 (Ce s 44 V)).mono ?_⟩;rintro e A ⟨rfl,Hq,Hp,Ht⟩;have HO:=O.t Hp;have G:=qI (show Boxed A _ _ _ from (Hp.block _ N.o.lt).trans N);have hh:=qI (show Boxed A _ _ _ from (Hp.block _ X4.o.lt).trans X4);have I:=qI (show Boxed A _ _ _ from (Hp.block _ H.o.lt).trans H);have X:=qI (show Boxed A _ _ _ from (Hp.block _ X6.o.lt).trans X6);have Hh:=Cg 2 (by omega) Hq (by simp;omega);rw[HR] at Ht Hh ⊢;clear Hp N X4 H X6 O Hq HR
  gi_wp2
  have D:Hu (cG cP s.data.toList=iY cP (aP 44 s.data.toList)):=by grind[Hu,cG]
  have Hz:=qI (qH 44 s.data.toList);have HV:=qI (uN 44 s.data.toList);have hf:s.data.toList.length=s.size:=by simp
  generalize hgl:s.data.toList=sl at *;generalize hps:aP 44 sl=a at *;have t:Hu (∀k,(m:k<a.length)->∃HX:k<(eA 44 sl).length,(eA 44 sl)[k]=#[Value.string ⟨(a.getD k []).toArray⟩]):=λk m=>by
   grind[sD,CY]
  have P:Hu ((eA 44 sl).length=a.length):=by grind[Hu,sD]
  have Hx:Hu (∀x∈eA 44 sl,x.size=1):=by
   intro x b;obtain⟨y,_,rfl⟩:=Qk.1 b;rfl
  have he:=HO.o.size;clear hps h T;refine xo rfl (by omega) (gf:=322) rfl trivial (enters_of func322 (by kernel_rfl) rfl) (K:=KSp (w.heap.size+1+1+1+1)) (ts:=eA 44 sl) (λj d=>by unfold KSp at d;omega) Hh Hx
   (λk W=>uO w A a k W) (λc W=>c=.ret/\Boxed W (w.heap.size+1) 63 ()/\Boxed W (w.heap.size+1+1) 4 false/\Bw w W/\cG cP sl=none)
   (λk B C hi Hb=>hi.apart Ht Hb) (λc B C b Hb=>⟨b.1,Hb.boxed b.2.1 (by unfold KSp;omega),Hb.boxed b.2.2.1 (by unfold KSp;omega),Hb.below b.2.2.2.1 (lR) (λj d=>by unfold KSp at d;omega),b.2.2.2.2⟩)
   ⟨Nat.zero_le _,G,hh,I,⟨_,X,Qw _ _ _ _⟩,HO,by simp⟩
   (λk=>{ tmps:=#[Value.string s,Value.func (Fn.func 250) #[] #[],undef,Value.pointer (some ⟨w,0,none⟩),Value.pointer (some ⟨w.heap.size+1,0,none⟩),Value.pointer (some ⟨w.heap.size+1+1,0,none⟩),Value.pointer (some ⟨w.heap.size+1+1+1,0,none⟩),Value.string ⟨(a.getD k []).toArray⟩,undef,undef,Value.string s,Value.bool false,Value.string s,Value.func (Fn.func 322) #[] #[Value.pointer (some ⟨w.heap.size+1+1+1+1+1,0,none⟩),Value.pointer (some ⟨w.heap.size+1+1+1+1,0,none⟩),Value.pointer (some ⟨w.heap.size+1+1+1+1+2,0,none⟩)],Value.string ⟨(a.getD k []).toArray⟩,undef,undef,undef,undef,undef,undef,undef,undef,undef,undef,undef,undef,undef],defers:=[] }) ?assign ?body ?done ?stop
  case assign=>
   intro l k m W R hR;rw[P.o] at m;obtain⟨HX,e⟩:=t.o k m;rw[e];clear e;generalize a.getD k []=x at *
   gi_wp2
   exact hR
  case body=>
   intro l k W m H0 u;rw[P.o] at m;obtain⟨h1,Hr,Hm,Hn,⟨v,Hj,Ha⟩,Hg,Hf⟩:=u;have J:a.getD k []∈a:=by simp[m]
   have H8:=Hz.o _ J;have HU:Hu (a.take (k+1)=a.take k++[a.getD k []]):=by grind[Hu,Qa]
   have H1:Hu (i6 a (k+1)=i6 a k++[mD (a.getD k [])]):=by grind[Hu,Nj]
   have H2:=qI (Nk h1);have hc:=HV.o;have HC:Hu (gN (a.getD k [])=false->cG cP sl=none):=λp=>by rw[D.o];exact Nn J p
   generalize a.getD k []=x at *;have HF:=M7 ⟨x.toArray⟩ (by show x.length<_;omega) (hm.below Hg);rw[show (ByteArray.mk x.toArray).data.toList=x by simp] at HF;have o:Hu (CB 250 #[.string ⟨x.toArray⟩] W (.tuple #[.agg #[(mD x).kind,((mD x).many:Int)],.bool (gN x)])):=HF;clear HF;have c0:=Hr.cell;have E:=qI Hm;have Y:=qI Hn;have Hy:=qI Hj;have HT:=qI Hr;have Hw:=qI Ha;have Hk:=qI Hg;have Hv:=qI Hf;generalize mD x=f at *;clear Hf Hg Hh t Hx Hz J
   rcases two (gN x) with p|p
   ·rw[p] at o;have H5:(i6 a k).length+1<=200000:=by rw[H2.o];omega
    obtain⟨i,vc,hv⟩:=fI Ha;generalize i6 a k=ns at *;subst hv
    gi_wp2
    refine⟨trivial,(CallsIn.inRound l (callsIn_wide.2 o)).mono ?_⟩;rintro e g ⟨rfl,Hs⟩;have Hc:Apart (λ_=>False) W (g.alloc (px f)):=(Apart.of_below Hs).trans (Apart.alloc _ _ _);have HQ:=Hc.row Ha λ_ h=>h.elim;have HI:=Hc.boxed Hj id;have c3:=HI.cell;have H7:=Q1 H0 Hc.size;have ha:(g.alloc (px f)).cell? g=some (.string f.kind):=by simp
    have H9:(g.alloc (px f)).cell? ⟨g,1,none⟩=some (.int .i64 f.many):=by simp
    clear Hs c0 Hr Hm Hn Hj Ha;generalize hV2:g.alloc (px f)=V2 at *
    gi_wp2_with (gi_at_builtin;refine wpListIn_append_own_at _ rfl _ _ 63 rfl (A.heap.size+2) 127 i0 _ 2 24 underlying63 hi HY H4 H6 rfl (by decide) _ _ _ rfl (HQ.alloc _) ⟨_,0,none⟩ 1 1 (pw f) rfl rfl (Nt) (Nu f) (by unfold maxLen;omega) (by omega) (by simp;omega) ?_;intro v' W2 Hl Hi _ _;obtain⟨na,nc,rfl⟩:=fI Hl;have HW:(V2.alloc (px f)).grownBy W2 (Value.slice i ns.length vc).ownBlock:=Hi;clear Hi;have HM:=(Hc.wide (K':=λj=>A.heap.size+2<=j) λ_ h=>h.elim).trans (xO HQ HW);have Ho:=HM.boxed Hy (by omega);have hl:=Ho.cell;have ho:=Ho.frozen)
    have Hb:Apart (λj=>A.heap.size+2<=j\/j=w.heap.size+1+1+1) W (W2.setCell ⟨w.heap.size+1+1+1,0,none⟩ (.slice na (ns.length+1) nc)):=(HM.wide λ_=>.inl).trans (Apart.setCell (.inr rfl) _ _ _);refine⟨λj d=>Hb.block j (by unfold KSp at d;omega) (by unfold KSp at d;omega),by omega,Hb.boxed HT (by omega),Hb.boxed E (by omega),Hb.boxed Y (by omega),⟨_,Ho.set _,?_⟩,Hb.below Hk (lR) (λj d=>by omega),?_⟩
    ·rw[H1.o,No,Q2];exact (Apart.setCell (K:=λj=>j=w.heap.size+1+1+1) rfl W2 0 _).row Hl (λj d=>by omega)
    ·rw[HU.o];intro y r
     rcases Qi.1 r with r|r
     ·exact Hv.o y r
     ·grind
   ·rw[p] at o;have H3:=qI (HC.o p)
    gi_wp2
    refine⟨trivial,(CallsIn.inRound l (callsIn_wide.2 o)).mono ?_⟩;rintro e g ⟨rfl,Hs⟩;have Hc:Apart (λ_=>False) W (g.alloc (px f)):=(Apart.of_below Hs).trans (Apart.alloc _ _ _);have Q:=Hc.boxed Hm id;have Z:=Hc.boxed Hn id;have f1:=Q.frozen;have f2:=Z.frozen;have c1:=Q.cell;have c2:=Z.cell;clear Hs c0 Hr Hm Hn Hj Ha;generalize hV2:g.alloc (px f)=V2 at *
    gi_wp2
    have Hb:Apart (λj=>j=w.heap.size+1\/j=w.heap.size+1+1) W ((V2.setCell (w.heap.size+1:Nat) ()).setCell ⟨w.heap.size+1+1,0,none⟩ false):=((Hc.wide λ_ h=>h.elim).trans (Apart.setCell (.inl rfl) _ _ _)).trans (Apart.setCell (.inr rfl) _ _ _);exact⟨λj d=>Hb.block j (by unfold KSp at d;omega) (by unfold KSp at d;omega),rfl,(Apart.setCell (K:=λj=>j=w.heap.size+1+1) rfl _ 0 _).boxed (Q.set _) (by omega),((Apart.setCell (K:=λj=>j=w.heap.size+1) rfl _ 0 _).boxed Z (by omega)).set _,Hb.below Hk (lR) (λj d=>by omega),H3⟩
  case done=>
   intro W u z;rw[P.o] at u;obtain⟨_,Hr,Hm,Hn,⟨v,Hj,Ha⟩,Hg,Hf⟩:=u;have HS:Hu (cG cP sl=some (i6 a a.length)):=by
    grind[Nl,i6]
   have Hw:=qI Ha;have c3:=Hj.cell;have c1:=Hm.cell;have c2:=Hn.cell;have f1:=Hm.frozen;have f2:=Hn.frozen;have Hk:=qI Hg;have E:=qI Hm;have Y:=qI Hn;obtain⟨i,vc,rfl⟩:=fI Ha;clear Hf Hg Ha Hh t Hx Hz;generalize i6 a a.length=ns at *
   gi_wp2
   have Hb:Apart (λj=>j=w.heap.size+1\/j=w.heap.size+1+1) W ((W.setCell (w.heap.size+1:Nat) (.slice i ns.length vc)).setCell ⟨w.heap.size+1+1,0,none⟩ true):=(Apart.setCell (.inl rfl) _ _ _).trans (Apart.setCell (.inr rfl) _ _ _);have b1:=(Apart.setCell (K:=λj=>j=w.heap.size+1+1) rfl _ 0 true).boxed (E.o.set (.slice i ns.length vc)) (by omega);have b2:=((Apart.setCell (K:=λj=>j=w.heap.size+1) rfl W 0 (.slice i ns.length vc)).boxed Y (by omega)).set true;have HZ:=(Hb.block A (gS z).1 (by omega)).trans z;generalize (W.setCell (w.heap.size+1:Nat) (.slice i ns.length vc)).setCell ⟨w.heap.size+1+1,0,none⟩ true=F at *;have He:Apart (λj=>j=A.heap.size) F (F.putObj A (.deferred none)):=Apart.putObj (K:=λj=>j=A.heap.size) rfl _ _;have e1:=(He.boxed b1 (by omega)).cell;have e2:=(He.boxed b2 (by omega)).cell;have HP:=qI (He.row (Hb.row Hw (λj d=>by omega)) (λj d=>by omega));have M:=qI (He.below (Hb.below Hk (lR) (λj d=>by omega)) (lR) (λj d=>by omega));refine⟨by simp,.inl ⟨_,_,rfl,run_takeDeferred HZ,?_⟩⟩;refine⟨.tuple #[.slice i ns.length vc,true],?_,.slice i ns.length vc,by rw[HS.o];rfl,λxs b=>?_,⟨_,_,_,rfl,λx b=>Q5 (by omega) (CZ HP b)⟩,M⟩
   ·generalize F.putObj A (Obj.deferred none)=W6 at *;rw[nO rfl];go_simp
   ·rw[HS.o] at b;cases b;exact Nq HP
  case stop=>
   rintro c W ⟨rfl,h4,h5,q,hn⟩ z;have c1:=h4.cell;have c2:=h5.cell;have o:=qI hn;have L:=qI q;clear hn q Hh t Hx Hz
   gi_wp2
   have He:Apart (λj=>j=A.heap.size) W (W.putObj A (.deferred none)):=Apart.putObj (K:=λj=>j=A.heap.size) rfl _ _;have e1:=(He.boxed h4 (by omega)).cell;have e2:=(He.boxed h5 (by omega)).cell;have M:=qI (He.below L (lR) (λj d=>by omega));refine⟨by simp,.inl ⟨_,_,rfl,run_takeDeferred z,?_⟩⟩;refine⟨.tuple #[(),false],?_,(),by rw[o.o];rfl,λxs b=>?_,⟨_,_,_,rfl,λx b=>by cases b⟩,M⟩
   ·generalize W.putObj A (Obj.deferred none)=W6 at *;rw[nO rfl];go_simp
   ·rw[o.o] at b;cases b
theorem sE{α:Type}(f:α->List Value)(n:Nat)(hf:∀x,(f x).length=n):∀(l:List α) (k j:Nat) (a:k<l.length),j<n->(l.flatMap f)[k*n+j]?=(f l[k])[j]?:=by
 intro l
 induction l with
 | nil=>intro k j a;simp at a
 | cons x r ih=>
  intro k j a b;cases k with
  | zero=>
   rw[List.flatMap_cons,Nat.zero_mul,Qd,List.getElem?_append_left (by rw[hf];exact b)];rfl
  | succ k=>
   rw[List.flatMap_cons,List.getElem?_append_right (by grind),hf,show (k+1)*n+j - n=k*n+j by rw[Nat.add_mul];omega,ih k j (by simpa using a) b];rfl
theorem sF{v:Value}(h:W.ownsRow base e size v n xs)(f:0<n):∃g a,v=.slice (some ⟨g,0,none⟩) n a/\n<=a/\a<=maxLen/\g<W.heap.size/\base<=g/\∀i,i<n*size->W.cell? ⟨g,i,none⟩=xs[i]?:=by
 obtain⟨k,h⟩:=h
 rcases h with⟨_,j⟩|⟨g,a,b,rfl,c,o,l,d,hs,m⟩
 ·omega
 ·grind[World.cell?]
theorem qK{v:Value}(h:W.ownsRow base e size v n xs):∃d c,v=.slice d n c/\n<=c/\c<=maxLen:=by
 rcases h.2 with⟨rfl,rfl⟩|⟨g,b,a,rfl,f,k,j,i,_⟩
 ·grind
 ·grind
def kJ (W:World) (Q:Nat->Prop) (v:Value) (ds:List ak):Prop:=
 ∃ao c,v=.slice ao ds.length c/\ds.length<=maxLen/\(0<ds.length->∃b o,ao=some ⟨b,o,none⟩/\Q b/\b<W.heap.size/\∀k,k<ds.length->W.cell? ⟨b,o+k*2,none⟩=some (.string (ar ds k).kind)/\W.cell? ⟨b,o+k*2+1,none⟩=some (.int .i64 (ar ds k).many))
def js (W:World) (Q:Nat->Prop) (v:Value) (xs:List Int):Prop:=
 ∃ao c,v=.slice ao xs.length c/\(xs.length<=c/\c<=maxLen)/\(0<xs.length->∃b o,ao=some ⟨b,o,none⟩/\Q b/\b<W.heap.size/\∀k,k<xs.length->W.cell? ⟨b,o+k,none⟩=some (.int .i64 (xs.getD k 0)))
theorem kJ.plain(h:kJ W Q v ds):bC W v ds:=by
 obtain⟨g,c,e,f,k⟩:=h;refine⟨g,c,e,f,λi=>?_⟩;obtain⟨b,o,j,_,d,a⟩:=k i;exact⟨b,o,j,d,a⟩
theorem js.plain{e:List Int}(h:js W Q v e):bK W v e:=by
 obtain⟨i,c,f,g,l⟩:=h;refine⟨i,c,f,g,λj=>?_⟩;obtain⟨b,o,k,_,d,a⟩:=l j;exact⟨b,o,k,d,a⟩
theorem kJ.of{v:Value}(h:bC W v ds)(i:∃a n c,v=.slice a n c/\∀x:Addr,a=some x->N<=x.block)(l:∀b,N<=b->b<W.heap.size->Q b):kJ W Q v ds:=by
 obtain⟨j,c,rfl,f,k⟩:=h;obtain⟨_,_,_,e,m⟩:=i;cases e;refine⟨j,c,rfl,f,λg=>?_⟩;obtain⟨b,o,d,Ha,Hb⟩:=k g;exact⟨b,o,d,l b (m _ d) Ha,Ha,Hb⟩
theorem js.of{v:Value}{d:List Int}(h:bK W v d)(j:∃a n c,v=.slice a n c/\∀x:Addr,a=some x->N<=x.block)(m:∀b,N<=b->b<W.heap.size->Q b):js W Q v d:=by
 obtain⟨k,c,rfl,g,l⟩:=h;obtain⟨_,_,_,e,p⟩:=j;cases e;refine⟨k,c,rfl,g,λi=>?_⟩;obtain⟨b,o,f,Ha,Hb⟩:=l i;exact⟨b,o,f,m b (p _ f) Ha,Ha,Hb⟩
theorem kJ.apart(h:kJ A Q v ds)(d:Apart K A B)(m:∀j,Q j->¬ K j)(r:∀j,j<A.heap.size->Q j->Q' j):kJ B Q' v ds:=by
 obtain⟨n,c,l,g,q⟩:=h;refine⟨n,c,l,g,λi=>?_⟩;obtain⟨b,o,p,e,Hb,Hc⟩:=q i;have Ha:=d.block b Hb (m b e);exact⟨b,o,p,r b Hb e,Q1 Hb d.size,λk f=>⟨(World.cell?_of_block (a:=⟨b,o+k*2,none⟩) Ha).trans (Hc k f).1,(World.cell?_of_block (a:=⟨b,o+k*2+1,none⟩) Ha).trans (Hc k f).2⟩⟩
theorem js.apart{e:List Int}(h:js A Q v e)(d:Apart K A B)(m:∀j,Q j->¬ K j)(r:∀j,j<A.heap.size->Q j->Q' j):js B Q' v e:=by
 obtain⟨n,c,l,g,q⟩:=h;refine⟨n,c,l,g,λi=>?_⟩;obtain⟨b,o,p,f,Ha,Hc⟩:=q i;have Hb:=d.block b Ha (m b f);exact⟨b,o,p,r b Ha f,Q1 Ha d.size,λk s=>(World.cell?_of_block (a:=⟨b,o+k,none⟩) Hb).trans (Hc k s)⟩
def kK (p:aF × Value):List Value:=eu p.1 p.2
def jV (p:aX × Value):List Value:=[.int .u64 p.1.cp,p.2]
def py (l:List (aF × Value)):List Value:=l.flatMap kK
def pz (l:List (aX × Value)):List Value:=l.flatMap jV
structure Hp where
 nm:ByteArray
 pr:Int
 cl:List (aF × Value)
 gl:List (aX × Value)
 cv:Value
 gv:Value
def Hp.hd (p:Hp):ae:=⟨⟨p.nm,p.pr,p.cl.map Prod.fst⟩,p.gl.map Prod.fst⟩
def fJ (p:Hp):List Value:=[.string p.nm,.int .i64 p.pr,p.cv,p.gv]
def kL (l:List Hp):List Value:=l.flatMap fJ
theorem Nw(l:List (aF × Value))(p:aF × Value):py (l++[p])=py l++kK p:=by simp[py]
theorem Nx(l:List (aX × Value))(p:aX × Value):pz (l++[p])=pz l++jV p:=by simp[pz]
theorem C6(l:List Hp)(p:Hp):kL (l++[p])=kL l++fJ p:=by simp[kL]
def cf (base:Nat) (v:Value) (la:Hp) (j:Nat):Prop:=base<=j/\v.ownBlock≠some j/\la.cv.ownBlock≠some j/\la.gv.ownBlock≠some j
theorem kM(i:A.ownsRow base e size v n xs)(h:Apart K A B)(d:∀j,v.ownBlock=some j->¬ K j):B.ownsRow base e size v n xs:=by
 obtain⟨f,k⟩:=i;refine⟨f,k.imp id ?_⟩;rintro⟨g,b,a,rfl,l,c,r⟩;exact⟨g,b,a,rfl,l,(h.block g (gS c).1 (d g rfl)).trans c,r⟩
structure g6 (W:World) (base:Nat) (Q:Nat->Prop) (p:Hp):Prop where
 rc:W.ownsRow base 65 6 p.cv p.cl.length (py p.cl)
 rg:W.ownsRow base 123 2 p.gv p.gl.length (pz p.gl)
 nc:∀x∈p.cl,kJ W Q x.2 x.1.ds
 ng:∀x∈p.gl,js W Q x.2 x.1.dv/\x.1.cp<18446744073709551616
theorem g6.apart{W':World}{p:Hp}(h:g6 W base Q p)(a:Apart K W W')(c:∀j,Q j->¬ K j)(d:∀j,j<W.heap.size->Q j->Q' j)
  (e:∀j,p.cv.ownBlock=some j->¬ K j) (f:∀j,p.gv.ownBlock=some j->¬ K j):g6 W' base Q' p:=
 ⟨kM h.rc a e,kM h.rg a f,λx b=>(h.nc x b).apart a c d,λx b=>⟨(h.ng x b).1.apart a c d,(h.ng x b).2⟩⟩
theorem Ny{p:Hp}(h:g6 W base Q p):ba W p.cv (p.cl.map Prod.fst):=by
 obtain⟨i,c,f,o,m⟩:=qK h.rc;refine⟨i,c,by grind,⟨by grind,m⟩,λb=>?_⟩;rw[Q9] at b;obtain⟨g,e,Hb,_,_,Hc,_,Ha⟩:=sF h.rc b;rw[f] at Hb;cases Hb;refine⟨g,0,λk=>(p.cl.getD k default).2,rfl,Hc,λk a=>?_⟩;rw[Q9] at a;have l:af (p.cl.map Prod.fst) k=p.cl[k].1:=by simp[af,a]
 have d:(p.cl.getD k default).2=p.cl[k].2:=by simp[a]
 rw[l];dsimp only;rw[d];refine⟨λj n=>?_,(h.nc _ (List.getElem_mem a)).plain⟩;rw[Qd,Ha _ (by omega)];exact sE kK 6 (λx=>rfl) p.cl k j a n
theorem Nz{p:Hp}(h:g6 W base Q p):ce W p.gv (p.gl.map Prod.fst):=by
 obtain⟨j,c,i,n,l⟩:=qK h.rg;refine⟨j,c,by grind,⟨by grind,l⟩,λb=>?_⟩;rw[Q9] at b;obtain⟨g,f,Hb,_,_,Hc,_,Ha⟩:=sF h.rg b;rw[i] at Hb;cases Hb;refine⟨g,0,λk=>(p.gl.getD k default).2,rfl,Hc,λk a=>?_⟩;rw[Q9] at a;have m:aG (p.gl.map Prod.fst) k=p.gl[k].1:=by simp[aG,a]
 have e:(p.gl.getD k default).2=p.gl[k].2:=by simp[a]
 rw[m];dsimp only;rw[e];have d:=h.ng _ (List.getElem_mem a);refine⟨⟨?_,?_,d.2⟩,d.1.plain⟩
 ·have:=Ha (k*2+0) (by omega)
  rw[Qd];rw[Nat.add_zero] at this;rw[this];exact sE jV 2 (λx=>rfl) p.gl k 0 a (by omega)
 ·rw[Qd,Ha (k*2+1) (by omega)];exact sE jV 2 (λx=>rfl) p.gl k 1 a (by omega)
structure g7 (W:World) (base:Nat) (v:Value) (el:List Hp) (la:Hp):Prop where
 row:W.ownsRow base 101 4 v (el.length+1) (kL (el++[la]))
 hel:∀p∈el,g6 W base (cf base v la) p/\(∀j,p.cv.ownBlock=some j->cf base v la j)/\(∀j,p.gv.ownBlock=some j->cf base v la j)
 hla:g6 W base (cf base v la) la
 vc:∀j,la.cv.ownBlock=some j->v.ownBlock≠some j
 vg:∀j,la.gv.ownBlock=some j->v.ownBlock≠some j
 cg:∀j,la.cv.ownBlock=some j->la.gv.ownBlock≠some j
theorem g7.plain{a:List Hp}{la:Hp}(h:g7 W base v a la):bf W v ((a++[la]).map Hp.hd):=by
 obtain⟨m,c,d,f,o⟩:=qK h.row;have Ha:((a++[la]).map Hp.hd).length=a.length+1:=by simp
 refine⟨m,c,by rw[Ha];exact d,⟨by rw[Ha];exact f,o⟩,λ_=>?_⟩;obtain⟨g,l,Hf,_,_,Hg,_,Hc⟩:=sF h.row (by omega);rw[d] at Hf;cases Hf;refine⟨g,0,λk=>((a++[la]).getD k la).cv,λk=>((a++[la]).getD k la).gv,rfl,Hg,λk n=>?_⟩;have He:k<(a++[la]).length:=by simpa using n
 have p:ah ((a++[la]).map Hp.hd) k=(a++[la])[k].hd:=by grind[ah]
 have e:(a++[la]).getD k la=(a++[la])[k]:=by grind
 rw[p];dsimp only;rw[e];have Hb:g6 W base (cf base v la) (a++[la])[k]:=by
  rcases Qi.1 (List.getElem_mem He) with b|b
  ·exact (h.hel _ b).1
  ·rw[Qm.1 b];exact h.hla
 have Hh:k<a.length+1:=by omega
 have cell:∀j,j<4->W.cell? ⟨g,0+k*4+j,none⟩=(fJ (a++[la])[k])[j]?:=λj i=>by
  rw[Qd,Hc _ (by omega)];exact sE fJ 4 (λx=>rfl) _ k j He i
 exact⟨⟨cell 0 (by omega),cell 1 (by omega),cell 2 (by omega),cell 3 (by omega)⟩,Ny Hb,Nz Hb⟩
theorem pA{r:Option Nat}(a:(W.alloc o).grownBy W2 r):Apart (λj=>r=some j) W W2:=
 (Apart.alloc _ W o).trans ⟨a.os,a.tape,a.output,a.size,λj c b=>a.block j c λe=>b e.symm⟩
theorem nP:Value.ownBlock ()=none:=rfl
theorem NA{d:List Hp}{la:Hp}{pr:Int}(h:g7 W base v d la)(m:(W.alloc o).grownBy W2 v.ownBlock)
  (q:W2.ownsRow base 101 4 v' (d.length+1+1) (kL (d++[la])++fJ ⟨nm,pr,[],[],(),.slice none 0 0⟩)) (g:v'.ownBlock=v.ownBlock\/v'.ownBlock=some (W.alloc o).heap.size) :
  g7 W2 base v' (d++[la]) ⟨nm,pr,[],[],(),.slice none 0 0⟩:=by
 have Hc:=pA m;have He:(W.alloc o).heap.size=W.heap.size+1:=by simp
 have Ha:∀j,j<W.heap.size->base<=j->v.ownBlock≠some j->cf base v' ⟨nm,pr,[],[],(),.slice none 0 0⟩ j:=λj a l n=>by
  refine⟨l,λe=>?_,by simp[nP],by simp[nP]⟩
  rcases g with i|i
  ·grind
  ·grind
 have Hb:∀p,g6 W base (cf base v la) p->(∀j,p.cv.ownBlock=some j->v.ownBlock≠some j)->(∀j,p.gv.ownBlock=some j->v.ownBlock≠some j)->
   g6 W2 base (cf base v' ⟨nm,pr,[],[],(),.slice none 0 0⟩) p/\(∀j,p.cv.ownBlock=some j->cf base v' ⟨nm,pr,[],[],(),.slice none 0 0⟩ j)/\(∀j,p.gv.ownBlock=some j->cf base v' ⟨nm,pr,[],[],(),.slice none 0 0⟩ j):=λp b c f=>
  ⟨b.apart Hc (λj a=>a.2.1) (λj a hf=>Ha j a hf.1 hf.2.1) c f,λj a=>Ha j (b.rc.lt j a).2 (b.rc.lt j a).1 (c j a),λj a=>Ha j (b.rg.lt j a).2 (b.rg.lt j a).1 (f j a)⟩
 refine⟨?_,λp b=>?_,⟨Qw _ _ _ _,Qw _ _ _ _,by simp,by simp⟩,by simp[nP],by simp[nP],by simp[nP]⟩
 ·grind[C6]
 ·rcases Qi.1 b with b|b
  ·obtain⟨c,f,k⟩:=h.hel p b;exact Hb p c (λj a=>(f j a).2.1) λj a=>(k j a).2.1
  ·rw[Qm.1 b];exact Hb la h.hla h.vc h.vg
theorem NB{pr:Int}(a:W2.ownsRow base 101 4 v' 1 (fJ ⟨nm,pr,[],[],(),.slice none 0 0⟩)) :
  g7 W2 base v' [] ⟨nm,pr,[],[],(),.slice none 0 0⟩:=
 ⟨by simpa[kL] using a,by simp,⟨Qw _ _ _ _,Qw _ _ _ _,by simp,by simp⟩,by simp[nP],by simp[nP],by simp[nP]⟩
theorem C7{b:List Hp}{la a:Hp}{j:Nat}(_:j<4)(hs:(fJ la).set j u=fJ a):(kL (b++[la])).set (b.length*4+j) u=kL (b++[a]):=by induction b <;> grind[kL,fJ,C6]
theorem NC{i:List Hp}{la:Hp}{c:aF}(q:v=.slice m (i.length+1) cap)(h:g7 W base v i la)(w:kJ W (cf base v la) nv c.ds)(s:(W.alloc o).grownBy W2 la.cv.ownBlock)
  (y:W2.ownsRow base 65 6 u (la.cl.length+1) (py la.cl++kK (c,nv))) (l:u.ownBlock=la.cv.ownBlock\/u.ownBlock=some (W.alloc o).heap.size) :
  g7 (W2.setCell ⟨m,i.length*4+2,none⟩ u) base v i { la with cl:=la.cl++[(c,nv)],cv:=u }:=by
 have Hi:(W.alloc o).heap.size=W.heap.size+1:=by simp
 have He:v.ownBlock=some m:=by rw[q];rfl
 have Hg:=(h.row.lt m He).2;have Hc:Apart (λj=>la.cv.ownBlock=some j\/j=m) W (W2.setCell ⟨m,i.length*4+2,none⟩ u):=((pA s).wide λ_=>.inl).trans (Apart.setCell (.inr rfl) _ _ _);have Ha:∀j,cf base v la j->¬ (la.cv.ownBlock=some j\/j=m):=λj hf b=>by
  rcases b with b|rfl
  ·exact hf.2.2.1 b
  ·exact hf.2.1 He
 have k:∀j,j<W.heap.size->cf base v la j->cf base v { la with cl:=la.cl++[(c,nv)],cv:=u } j:=λj a hf=>by
  have t:u.ownBlock≠some j:=λe=>by
   grind
  exact⟨hf.1,hf.2.1,t,hf.2.2.2⟩
 have Hf:∀p,g6 W base (cf base v la) p->(∀j,p.cv.ownBlock=some j->cf base v la j)->(∀j,p.gv.ownBlock=some j->cf base v la j)->
   g6 (W2.setCell ⟨m,i.length*4+2,none⟩ u) base (cf base v { la with cl:=la.cl++[(c,nv)],cv:=u }) p/\(∀j,p.cv.ownBlock=some j->cf base v { la with cl:=la.cl++[(c,nv)],cv:=u } j)/\(∀j,p.gv.ownBlock=some j->cf base v { la with cl:=la.cl++[(c,nv)],cv:=u } j):=λp f n r=>
  ⟨f.apart Hc Ha k (λj a=>Ha j (n j a)) λj a=>Ha j (r j a),λj a=>k j (f.rc.lt j a).2 (n j a),λj a=>k j (f.rg.lt j a).2 (r j a)⟩
 have Hh:u.ownBlock≠some m:=λe=>by
  rcases l with g|g
  ·exact h.vc m (by rw[<- g];exact e) He
  ·grind
 have Hb:=kM h.row (pA s) λj a b=>h.vc j b a;subst q;refine⟨?_,λp f=>Hf p (h.hel p f).1 (h.hel p f).2.1 (h.hel p f).2.2,⟨?_,?_,?_,?_⟩,?_,?_,?_⟩
 ·rw[<- C7 (la:=la) (j:=2) (by omega) (by rfl)];exact (Hb.stored _ _).1
 ·show World.ownsRow _ base 65 6 u (la.cl++[(c,nv)]).length (py (la.cl++[(c,nv)]))
  rw[Nw,Q2];exact kM y (Apart.setCell (K:=λj=>j=m) rfl W2 _ _) (λj a b=>by subst b;exact Hh a)
 ·exact kM h.hla.rg Hc (λj a b=>by
   rcases b with b|rfl
   ·exact h.cg j b a
   ·exact h.vg j a He)
 ·intro x d
  rcases Qi.1 d with d|d
  ·exact (h.hla.nc x d).apart Hc Ha k
  ·rw[Qm.1 d];exact w.apart Hc Ha k
 ·exact λx d=>⟨(h.hla.ng x d).1.apart Hc Ha k,(h.hla.ng x d).2⟩
 ·grind
 ·exact λj a e=>h.vg j a e
 ·intro j a e
  rcases l with g|g
  ·exact h.cg j (by rw[<- g];exact a) e
  ·have:=(h.hla.rg.lt j e).2
   rw[g] at a;injection a with a;omega
theorem ND{g:List Hp}{la:Hp}{c:aX}(s:v=.slice m (g.length+1) cap)(h:g7 W base v g la)(z:js W (cf base v la) nv c.dv)(n:c.cp<18446744073709551616)(w:(W.alloc o).grownBy W2 la.gv.ownBlock)
  (A:W2.ownsRow base 123 2 u (la.gl.length+1) (pz la.gl++jV (c,nv))) (k:u.ownBlock=la.gv.ownBlock\/u.ownBlock=some (W.alloc o).heap.size) :
  g7 (W2.setCell ⟨m,g.length*4+3,none⟩ u) base v g { la with gl:=la.gl++[(c,nv)],gv:=u }:=by
 have Hi:(W.alloc o).heap.size=W.heap.size+1:=by simp
 have He:v.ownBlock=some m:=by rw[s];rfl
 have Hg:=(h.row.lt m He).2;have Hc:Apart (λj=>la.gv.ownBlock=some j\/j=m) W (W2.setCell ⟨m,g.length*4+3,none⟩ u):=((pA w).wide λ_=>.inl).trans (Apart.setCell (.inr rfl) _ _ _);have Ha:∀j,cf base v la j->¬ (la.gv.ownBlock=some j\/j=m):=λj hf b=>by
  rcases b with b|rfl
  ·exact hf.2.2.2 b
  ·exact hf.2.1 He
 have i:∀j,j<W.heap.size->cf base v la j->cf base v { la with gl:=la.gl++[(c,nv)],gv:=u } j:=λj a hf=>by
  have y:u.ownBlock≠some j:=λe=>by
   grind
  exact⟨hf.1,hf.2.1,hf.2.2.1,y⟩
 have Hf:∀p,g6 W base (cf base v la) p->(∀j,p.cv.ownBlock=some j->cf base v la j)->(∀j,p.gv.ownBlock=some j->cf base v la j)->
   g6 (W2.setCell ⟨m,g.length*4+3,none⟩ u) base (cf base v { la with gl:=la.gl++[(c,nv)],gv:=u }) p/\(∀j,p.cv.ownBlock=some j->cf base v { la with gl:=la.gl++[(c,nv)],gv:=u } j)/\(∀j,p.gv.ownBlock=some j->cf base v { la with gl:=la.gl++[(c,nv)],gv:=u } j):=λp f q t=>
  ⟨f.apart Hc Ha i (λj a=>Ha j (q j a)) λj a=>Ha j (t j a),λj a=>i j (f.rc.lt j a).2 (q j a),λj a=>i j (f.rg.lt j a).2 (t j a)⟩
 have Hh:u.ownBlock≠some m:=λe=>by
  rcases k with l|l
  ·exact h.vg m (by rw[<- l];exact e) He
  ·grind
 have Hb:=kM h.row (pA w) λj a b=>h.vg j b a;subst s;refine⟨?_,λp f=>Hf p (h.hel p f).1 (h.hel p f).2.1 (h.hel p f).2.2,⟨?_,?_,?_,?_⟩,?_,?_,?_⟩
 ·rw[<- C7 (la:=la) (j:=3) (by omega) (by rfl)];exact (Hb.stored _ _).1
 ·exact kM h.hla.rc Hc (λj a b=>by
   rcases b with b|rfl
   ·exact h.cg j a b
   ·exact h.vc j a He)
 ·show World.ownsRow _ base 123 2 u (la.gl++[(c,nv)]).length (pz (la.gl++[(c,nv)]))
  rw[Nx,Q2];exact kM A (Apart.setCell (K:=λj=>j=m) rfl W2 _ _) (λj a b=>by subst b;exact Hh a)
 ·exact λx d=>(h.hla.nc x d).apart Hc Ha i
 ·intro x d
  rcases Qi.1 d with d|d
  ·exact⟨(h.hla.ng x d).1.apart Hc Ha i,(h.hla.ng x d).2⟩
  ·rw[Qm.1 d];exact⟨z.apart Hc Ha i,n⟩
 ·exact λj a e=>h.vc j a e
 ·grind
 ·intro j a e
  rcases k with l|l
  ·exact h.cg j a (by rw[<- l];exact e)
  ·have:=(h.hla.rc.lt j a).2
   have r:some j=some (W.alloc o).heap.size:=by grind
   injection r with r;omega
