import Derived.Test.YtjlblidnfebmiaaGreatDoorF17
set_option maxRecDepth 100000
set_option maxHeartbeats 16000000
open Go Go.RowKit Go.Shelf
attribute [local go_sem] Oper.semAt_some
open Go.Proofs.Tryz
namespace Go.Proofs.YtjlblidnfebmiaaGreatDoor
variable{A B C W w:World}{K Q Q':Nat->Prop}{N b base g k n size wc:Nat}{P:Nat->Value}{R:Act->World->Prop}{a:Act}{ds:List ap}{e t:TypeId}{m:Int}{p:Bool}{ps ws:List (List UInt8)}{v:Value}{x:List UInt8}{xs:List Value}{y:ByteArray}
theorem mO{fn:Func}{p q:Tmp}{d c:TypeId}(h:fn.results=#[.cell p d,.cell q c])(tmps:Array Value)(P:Program)(w:World) :
  (results fn tmps).run P w =
   ((asAddr (tmps.getD p undef)).run P w).andThen λa g=>((loadVar d a).run P g).andThen λv e=>((asAddr (tmps.getD q undef)).run P e).andThen λb i=>((loadVar c b).run P i).andThen λu f=>.ok (.tuple #[v,u]) f:=by
 simp only[results,h]
 simp[Sem.run_bind,Result.andThen]
theorem Apart.boxed(h:Apart K A B)(a:Boxed A b t v)(c:¬ K b):Boxed B b t v:=(h.block b a.lt c).trans a
theorem Apart.below(h:Apart K A B)(a:Below N w A)(d:N<=w)(c:∀j,K j->N<=j):Below N w B:=
 ⟨h.os.trans a.os,h.tape.trans a.tape,h.output.trans a.output,Q5 a.size h.size,λj b=>(h.block j (Q1 (Q1 b d) a.size) (λe=>by have:=c j e;omega)).trans (a.block j b)⟩
theorem Apart.row(h:Apart K A B)(l:A.ownsRow base e size v n xs)(m:∀j,K j->j<base):B.ownsRow base e size v n xs:=by
 obtain⟨f,i⟩:=l;refine⟨f,i.imp id ?_⟩;rintro⟨g,a,b,k,d,c,r⟩;exact⟨g,a,b,k,d,(h.block g (gS c).1 (λe=>by have:=m g e;omega)).trans c,r⟩
def oe (l:List Int):List Value:=l.map λ(n:Int)=>Value.int .i64 n
theorem Pb{a:List Int}(h:w.ownsRow base 3 1 v a.length (oe a)):bD w v a:=by
 obtain⟨n,h⟩:=h
 rcases h with⟨rfl,j⟩|⟨g,b,f,rfl,o,d,l,i,hs,m⟩
 ·exact⟨none,0,by rw[j],⟨by omega,by unfold maxLen;omega⟩,λh=>by omega⟩
 ·refine⟨_,b,rfl,⟨l,i⟩,λ_=>⟨g,0,rfl,(gS d).1,λk e=>?_⟩⟩;have c:(oe a)[k]?=some (.int .i64 (a.getD k 0)):=by simp[oe,e]
  rw[<- m,List.getElem?_take,if_pos (by omega)] at c;rw[Qd];simp only[World.cell?,d]
  simpa using c
def ij (ps:List (List UInt8)) (k:Nat):List Int:=(ps.take k).map nOf
theorem Pc(h:k<ps.length):ij ps (k+1)=ij ps k++[nOf ps[k]]:=by
 unfold ij;rw[Qa h,Qj];rfl
theorem Pd(h:k<=ps.length):(ij ps k).length=k:=by unfold ij;simp;omega
theorem Pe(h:∀x∈ps,gOf x=true):iE bW ps=some (ps.map nOf):=by induction ps <;> grind[iE,kS]
theorem Pf(a:x∈ps)(h:gOf x=false):iE bW ps=none:=by induction ps <;> grind[iE,kS,gOf]
def Pg (w:World) (l:List UInt8) (e:Ending) (w':World):Prop:=
 ∃v,e=.returned (.tuple #[v,.bool (bV bW l).isSome])/\(∀xs,bV bW l=some xs->bD w' v xs)/\(∃a n c,v=.slice a n c/\∀x,a=some x->w.heap.size<=x.block)/\Below w w w'
theorem re(c:UInt8)(s:List UInt8):(dQ c s).length=(aH c s).length:=by simp[dQ]
theorem CV(c:UInt8)(s:List UInt8)(k:Nat)(a:k<(aH c s).length):(dQ c s)[k]'(by rw[re];exact a)=#[Value.string ⟨((aH c s)[k]).toArray⟩]:=by simp[dQ]
theorem xv:(prog.info? 3).map (λi=>(i.zero,i.size,i.bytes))=some (some (.int .i64 0),1,8):=by kernel_rfl
theorem gI{v:Value}(h:w.ownsRow base e size v n xs):∃d c,v=.slice d n c:=by
 rcases h.2 with⟨rfl,b⟩|⟨g,a,f,rfl,_⟩
 ·exact⟨none,0,by rw[b]⟩
 ·exact⟨_,_,rfl⟩
theorem CX{d:Option Addr}{m c:Nat}(h:w.ownsRow base e size (.slice d m c) n xs)(x:Addr)(b:d=some x):base<=x.block:=by
 rcases h.2 with⟨a,_⟩|⟨g,f,j,a,i,_⟩
 ·subst b;cases a
 ·subst b;injection a with h2 _ _
  injection h2 with h3
  rw[h3];exact i
theorem bD.apart{v:Value}{f:List Int}(h:bD A v f)(u:∃a n c,v=.slice a n c/\∀x,a=some x->N<=x.block)(d:Apart K A B)(m:∀j,K j->j<N):bD B v f:=by
 obtain⟨r,c,rfl,l,t⟩:=h;obtain⟨_,_,_,e,p⟩:=u;cases e;refine⟨r,c,rfl,l,λq=>?_⟩;obtain⟨b,o,g,Hb,Hc⟩:=t q;have s:=p _ g;have Ha:=d.block b Hb (λe=>by have:=m b e;simp at s;omega);exact⟨b,o,g,Q1 Hb d.size,λk i=>(World.cell?_of_block (a:=⟨b,o+k,none⟩) Ha).trans (Hc k i)⟩
theorem xw{o:Obj}(h:w.ownsRow base e size v n xs)(a:(w.alloc o).grownBy W v.ownBlock):Apart (λj=>base<=j) w W:=by
 refine (Apart.alloc _ w o).trans ⟨a.os,a.tape,a.output,a.size,λj c b=>a.block j c λe=>b (h.lt j e.symm).1⟩
structure RInv (w A:World) (ps:List (List UInt8)) (k:Nat) (W:World):Prop where
 le:k<=ps.length
 b0:Boxed W w 347 (.func (.func 247) #[] #[])
 b1:Boxed W (w.heap.size+1) 46 (.slice none 0 0)
 b2:Boxed W (w.heap.size+1+1) 4 false
 row:∃v,Boxed W (w.heap.size+1+1+1) 46 v/\W.ownsRow (A.heap.size+2) 3 1 v (ij ps k).length (oe (ij ps k))
 below:Below w w W
 good:∀x∈ps.take k,gOf x=true
theorem RInv.apart(h:RInv w A ps k B)(n:A=w.heap.size+1+1+1+1+3)(a:Apart (λj=>KSp (w.heap.size+1+1+1+1) j\/j=A.heap.size+1) B C):RInv w A ps k C:=by
 obtain⟨d,e,m,i,⟨v,g,l⟩,f,c⟩:=h;exact⟨d,a.boxed e (by unfold KSp;omega),a.boxed m (by unfold KSp;omega),a.boxed i (by unfold KSp;omega),⟨v,a.boxed g (by unfold KSp;omega),a.row l (λj b=>by unfold KSp at b;omega)⟩,a.below f (lR) (λj b=>by unfold KSp at b;omega),c⟩
theorem Ph(s:ByteArray)(w:World)(hs:s.size<=100000) :
  Calls prog 252 #[s,.func (.func 247) #[] #[]] w (Pg w s.data.toList):=by
 have T:=xh s;obtain⟨i0,hi,HT,HY,HX⟩:=info_parts xv;have Hi:=((((Q0 w w).alloc (lR) (.cells #[.func (.func 247) #[] #[]] 347)).alloc (by simp) (.cells #[.slice none 0 0] 46)).alloc (by simp;omega) (.cells #[false] 4))
 by_cases h:s.data.toList=[45]
 ·rw[Qc h] at T;have t:Hu (bV bW s.data.toList=some []):=by unfold Hu bV;rw[if_pos h]
  clear Hi;have r:=((((Q0 w w).alloc (lR) (.cells #[.func (.func 247) #[] #[]] 347)).alloc (by simp) (.cells #[.slice none 0 0] 46)).alloc (by simp;omega) (.cells #[true] 4));have M:=qI r;clear r
  go_enter func252,ntmps252
  go_wp2_with fail
  (try simp only[Exit.inBlock,Exit.then]);refine bodyPost_ret (v:=.tuple #[.slice none 0 0,true]) ?_ rfl ⟨.slice none 0 0,by rw[t.o];rfl,λxs b=>?_,⟨_,_,_,rfl,λx b=>by cases b⟩,M.o⟩
  ·rw[mO rfl];go_simp
  ·rw[t.o] at b;cases b;exact⟨none,0,rfl,⟨by simp,by unfold maxLen;omega⟩,λh=>by simp at h⟩
 ·rw[Q7 h] at T;have J:=qI Hi;clear Hi;have x3:=((Boxed.new w 347 (.func (.func 247) #[] #[])).alloc (.cells #[.slice none 0 0] 46)).alloc (.cells #[false] 4) |>.alloc (.cells #[.slice none 0 0] 46);have X:=((Boxed.new (w.alloc (.cells #[.func (.func 247) #[] #[]] 347)) 46 (.slice none 0 0)).alloc (.cells #[false] 4)).alloc (.cells #[.slice none 0 0] 46);have O:=(Boxed.new ((w.alloc (.cells #[.func (.func 247) #[] #[]] 347)).alloc (.cells #[.slice none 0 0] 46)) 4 false).alloc (.cells #[.slice none 0 0] 46);have F:=Boxed.new (((w.alloc (.cells #[.func (.func 247) #[] #[]] 347)).alloc (.cells #[.slice none 0 0] 46)).alloc (.cells #[false] 4)) 46 (.slice none 0 0);simp only[World.size_alloc] at X O F;have Z:=qI (J.o.alloc (by simp;omega) (.cells #[.slice none 0 0] 46));have HH:((((w.alloc (.cells #[.func (.func 247) #[] #[]] 347)).alloc (.cells #[.slice none 0 0] 46)).alloc (.cells #[false] 4)).alloc (.cells #[.slice none 0 0] 46)).heap.size=w.heap.size+1+1+1+1:=by simp
  have Y:=qI x3;have N:=qI X;have X5:=qI O;have I:=qI F;clear x3 X O F J;refine (callsIn_wide (n:=3)).1 ?_;refine callsIn_of_wp_marks func252 rfl trivial ?_ rfl;simp only[ntmps252,List.size_toArray,Qg,List.length_nil,Nat.reduceAdd,Nat.reduceSub,Array.replicate_succ,Array.replicate_zero,List.push_toArray,List.append_toArray,List.nil_append,List.cons_append]
  gi_wp2_with fail
  generalize (((w.alloc (.cells #[.func (.func 247) #[] #[]] 347)).alloc (.cells #[.slice none 0 0] 46)).alloc (.cells #[false] 4)).alloc (.cells #[.slice none 0 0] 46)=V at *;refine⟨trivial,(callsIn_wide.2 (BJ s 44 V)).mono ?_⟩;rintro e A ⟨rfl,Hq,Ho,Hs⟩;have HI:=qI (Z.o.trans (Ho.mono Z.o.size));have U:=qI (show Boxed A _ _ _ from (Ho.block _ Y.o.lt).trans Y.o);have P:=qI (show Boxed A _ _ _ from (Ho.block _ N.o.lt).trans N.o);have G:=qI (show Boxed A _ _ _ from (Ho.block _ X5.o.lt).trans X5.o);have H6:=qI (show Boxed A _ _ _ from (Ho.block _ I.o.lt).trans I.o);have Hg:=BL 2 (by omega) V 44 s.data.toList A Hq (by simp;omega);rw[HH] at Hs Hg ⊢;clear Ho Y N X5 I Z Hq HH
  gi_wp2_with fail
  have t:Hu (bV bW s.data.toList=iE bW (aH 44 s.data.toList)):=by unfold Hu bV;rw[if_neg h]
  have Hw:=qI (pu 44 s.data.toList);have HQ:=qI (tP 44 s.data.toList);have H2:s.data.toList.length=s.size:=by simp
  generalize hgl:s.data.toList=sl at *;generalize hps:aH 44 sl=a at *;have Hx:Hu (∀k,(f:k<a.length)->∃HU:k<(dQ 44 sl).length,(dQ 44 sl)[k]=#[Value.string ⟨(a.getD k []).toArray⟩]):=λk f=>by
   subst hps;exact⟨by rw[re];exact f,by rw[CV _ _ _ f];simp[f]⟩
  have S:Hu ((dQ 44 sl).length=a.length):=by unfold Hu;rw[re,hps]
  have Ht:Hu (∀x∈dQ 44 sl,x.size=1):=by
   intro x b;obtain⟨y,_,rfl⟩:=Qk.1 b;rfl
  have H1:=HI.o.size;clear hps h T;refine wA rfl (by omega) (gf:=322) rfl trivial (enters_of func322 (by kernel_rfl) rfl) (K:=KSp (w.heap.size+1+1+1+1)) (ts:=dQ 44 sl) (λj d=>by unfold KSp at d;omega) Hg Ht.o
   (λk W=>RInv w A a k W) (λc W=>c=.ret/\Boxed W (w.heap.size+1) 46 (.slice none 0 0)/\Boxed W (w.heap.size+1+1) 4 false/\Below w w W/\bV bW sl=none)
   (λk B C hi Hb=>hi.apart Hs Hb) (λc B C b Hb=>⟨b.1,Hb.boxed b.2.1 (by unfold KSp;omega),Hb.boxed b.2.2.1 (by unfold KSp;omega),Hb.below b.2.2.2.1 (lR) (λj d=>by unfold KSp at d;omega),b.2.2.2.2⟩)
   ⟨Nat.zero_le _,U.o,P.o,G.o,⟨_,H6.o,Qw _ _ _ _⟩,HI.o,by simp⟩
   (λk=>{ tmps:=#[Value.string s,Value.func (Fn.func 247) #[] #[],undef,Value.pointer (some ⟨w,0,none⟩),Value.pointer (some ⟨w.heap.size+1,0,none⟩),Value.pointer (some ⟨w.heap.size+1+1,0,none⟩),Value.pointer (some ⟨w.heap.size+1+1+1,0,none⟩),Value.string ⟨(a.getD k []).toArray⟩,undef,undef,Value.string s,Value.bool false,Value.string s,Value.func (Fn.func 322) #[] #[Value.pointer (some ⟨w.heap.size+1+1+1+1+1,0,none⟩),Value.pointer (some ⟨w.heap.size+1+1+1+1,0,none⟩),Value.pointer (some ⟨w.heap.size+1+1+1+1+2,0,none⟩)],Value.string ⟨(a.getD k []).toArray⟩,undef,undef,undef,undef,undef,undef,undef,undef,undef,undef,undef,undef,undef],defers:=[] }) ?assign ?body ?done ?stop
  case assign=>
   intro l k f W R hR;rw[S.o] at f;obtain⟨HU,e⟩:=Hx.o k f;rw[e];clear e;generalize a.getD k []=x at *
   gi_wp2_with fail
   exact hR
  case body=>
   intro l k W f H5 D;rw[S.o] at f;obtain⟨h1,Q,Hl,Hn,⟨v,Hi,Hc⟩,Hh,Ha⟩:=D;have H:a.getD k []∈a:=by simp[f]
   have H4:=Hw.o _ H;have HM:Hu (a.take (k+1)=a.take k++[a.getD k []]):=by unfold Hu;rw[Qa f];simp[f]
   have HV:Hu (ij a (k+1)=ij a k++[nOf (a.getD k [])]):=by unfold Hu;rw[Pc f];simp[f]
   have H0:=qI (Pd h1);have H3:=HQ.o;have HA:Hu (gOf (a.getD k [])=false->bV bW sl=none):=λo=>by rw[t.o];exact Pf H o
   generalize a.getD k []=x at *;have i:=qI (ra ⟨x.toArray⟩ W (by unfold maxLen;show x.length<=_;omega));rw[show (ByteArray.mk x.toArray).data.toList=x by simp] at i;have c0:=Q.cell;have Hy:=qI Hl;have Hv:=qI Hn;have J:=qI Hi;have HO:=qI Q;have Hr:=qI Hc;have Hj:=qI Hh;have Hp:=qI Ha;generalize nOf x=z at *;clear Ha Hh Hg Hx Ht Hw H
   rcases two (gOf x) with o|o
   ·rw[o] at i;have c3:=Hi.cell;have HZ:(ij a k).length+1<=200000:=by rw[H0.o];omega
    obtain⟨m,vc,hv⟩:∃ao c,v=.slice ao (ij a k).length c:=by
     rcases Hc.2 with⟨rfl,h0⟩|⟨g,hc,he,rfl,_⟩
     ·exact⟨none,0,by rw[h0]⟩
     ·exact⟨_,_,rfl⟩
    generalize ij a k=ns at *;subst hv
    gi_wp2_with fail
    refine⟨trivial,(CallsIn.inRound l (callsIn_wide.2 i.o)).mono ?_⟩;rintro e q ⟨rfl,rfl⟩
    gi_wp2_with (gi_at_builtin;refine wpListIn_append_own_at _ rfl _ _ 46 rfl (A.heap.size+2) 3 i0 (0:Int) 1 8 underlying46 hi HT HY HX rfl (by decide) _ _ _ rfl (Hc.alloc _) ⟨_,0,none⟩ 1 1 [.int .i64 z] rfl rfl (cell_one_new _ _ _) (by intro u hu;simp at hu;subst hu;rfl) (by unfold maxLen;omega) (by omega) (by simp;omega) ?_;intro v' L Hk Hf _ _;obtain⟨na,nc,rfl⟩:=gI Hk;have HR:(q.alloc (.cells #[(z:Int)] 3)).grownBy L (Value.slice m ns.length vc).ownBlock:=Hf;clear Hf;have HK:=xw Hc HR;have Hm:=HK.boxed Hi (by omega);have ha:=Hm.cell;have hh:=Hm.frozen)
    have Hb:Apart (λj=>A.heap.size+2<=j\/j=w.heap.size+1+1+1) q (L.setCell ⟨w.heap.size+1+1+1,0,none⟩ (.slice na (ns.length+1) nc)):=(HK.wide λ_=>.inl).trans (Apart.setCell (.inr rfl) _ _ _);refine⟨λj d=>Hb.block j (by unfold KSp at d;omega) (by unfold KSp at d;omega),by omega,Hb.boxed HO.o (by omega),Hb.boxed Hy.o (by omega),Hb.boxed Hv.o (by omega),⟨_,Hm.set _,?_⟩,Hb.below Hj.o (lR) (λj d=>by omega),?_⟩
    ·rw[HV.o,show oe (ns++[z])=oe ns++[.int .i64 z] by simp[oe],Q2];exact (Apart.setCell (K:=λj=>j=w.heap.size+1+1+1) rfl L 0 _).row Hk (λj d=>by omega)
    ·rw[HM.o];intro y p
     rcases Qi.1 p with p|p
     ·exact Hp.o y p
     ·rw[Qm] at p;rw[p];exact o
   ·rw[o] at i;have HW:=qI (HA.o o);have f1:=Hl.frozen;have f2:=Hn.frozen;have c1:=Hl.cell;have c2:=Hn.cell
    gi_wp2_with fail
    refine⟨trivial,(CallsIn.inRound l (callsIn_wide.2 i.o)).mono ?_⟩;rintro e q ⟨rfl,rfl⟩
    gi_wp2_with fail
    have Hb:Apart (λj=>j=w.heap.size+1\/j=w.heap.size+1+1) q ((q.setCell (w.heap.size+1:Nat) (.slice none 0 0)).setCell ⟨w.heap.size+1+1,0,none⟩ false):=(Apart.setCell (.inl rfl) _ _ _).trans (Apart.setCell (.inr rfl) _ _ _);exact⟨λj d=>Hb.block j (by unfold KSp at d;omega) (by unfold KSp at d;omega),rfl,(Apart.setCell (K:=λj=>j=w.heap.size+1+1) rfl _ 0 _).boxed (Hy.o.set _) (by omega),((Apart.setCell (K:=λj=>j=w.heap.size+1) rfl _ 0 _).boxed Hv.o (by omega)).set _,Hb.below Hj.o (lR) (λj d=>by omega),HW.o⟩
  case done=>
   intro W D E;rw[S.o] at D;obtain⟨_,Q,Hl,Hn,⟨v,Hi,Hc⟩,Hh,Ha⟩:=D;have HS:Hu (bV bW sl=some (ij a a.length)):=by
    unfold Hu;rw[Qh] at Ha;rw[t.o,Pe Ha,ij,Qh]
   have Hr:=qI Hc;have c3:=Hi.cell;have c1:=Hl.cell;have c2:=Hn.cell;have f1:=Hl.frozen;have f2:=Hn.frozen;have Hj:=qI Hh;have Hy:=qI Hl;have Hv:=qI Hn;obtain⟨m,vc,rfl⟩:=gI Hc;clear Ha Hh Hc Hg Hx Ht Hw;generalize ij a a.length=ns at *
   gi_wp2_with fail
   have Hb:Apart (λj=>j=w.heap.size+1\/j=w.heap.size+1+1) W ((W.setCell (w.heap.size+1:Nat) (.slice m ns.length vc)).setCell ⟨w.heap.size+1+1,0,none⟩ true):=(Apart.setCell (.inl rfl) _ _ _).trans (Apart.setCell (.inr rfl) _ _ _);have b1:=(Apart.setCell (K:=λj=>j=w.heap.size+1+1) rfl _ 0 true).boxed (Hy.o.set (.slice m ns.length vc)) (by omega);have b2:=((Apart.setCell (K:=λj=>j=w.heap.size+1) rfl W 0 (.slice m ns.length vc)).boxed Hv.o (by omega)).set true;have HP:=(Hb.block A (gS E).1 (by omega)).trans E;generalize (W.setCell (w.heap.size+1:Nat) (.slice m ns.length vc)).setCell ⟨w.heap.size+1+1,0,none⟩ true=W5 at *;have He:Apart (λj=>j=A.heap.size) W5 (W5.putObj A (.deferred none)):=Apart.putObj (K:=λj=>j=A.heap.size) rfl _ _;have e1:=(He.boxed b1 (by omega)).cell;have e2:=(He.boxed b2 (by omega)).cell;have HJ:=qI (He.row (Hb.row Hr.o (λj d=>by omega)) (λj d=>by omega));have Hz:=qI (He.below (Hb.below Hj.o (lR) (λj d=>by omega)) (lR) (λj d=>by omega));refine⟨by simp,.inl ⟨_,_,rfl,run_takeDeferred HP,?_⟩⟩;refine⟨.tuple #[.slice m ns.length vc,true],?_,.slice m ns.length vc,by rw[HS.o];rfl,λxs b=>?_,⟨_,_,_,rfl,λx b=>Q5 (by omega) (CX HJ.o x b)⟩,Hz.o⟩
   ·generalize W5.putObj A (Obj.deferred none)=W6 at *;rw[mO rfl];go_simp
   ·rw[HS.o] at b;cases b;exact Pb HJ.o
  case stop=>
   rintro c W ⟨rfl,h4,h5,r,hn⟩ E;have c1:=h4.cell;have c2:=h5.cell;have i:=qI hn;have M:=qI r;clear hn r Hg Hx Ht Hw
   gi_wp2_with fail
   have He:Apart (λj=>j=A.heap.size) W (W.putObj A (.deferred none)):=Apart.putObj (K:=λj=>j=A.heap.size) rfl _ _;have e1:=(He.boxed h4 (by omega)).cell;have e2:=(He.boxed h5 (by omega)).cell;have Hz:=qI (He.below M.o (lR) (λj d=>by omega));refine⟨by simp,.inl ⟨_,_,rfl,run_takeDeferred E,?_⟩⟩;refine⟨.tuple #[.slice none 0 0,false],?_,.slice none 0 0,by rw[i.o];rfl,λxs b=>?_,⟨_,_,_,rfl,λx b=>by cases b⟩,Hz.o⟩
   ·generalize W.putObj A (Obj.deferred none)=W6 at *;rw[mO rfl];go_simp
   ·rw[i.o] at b;cases b
def lH (x:List UInt8):ap:=⟨⟨(aT 58 x).1.toArray⟩,nOf (aT 58 x).2.1⟩
def gN (x:List UInt8):Bool:=gOf (aT 58 x).2.1
theorem CY(x:List UInt8):ct x=if gN x=true then some (lH x) else none:=by
 unfold ct gN lH;rw[kS];cases gOf (aT 58 x).2.1 <;> rfl
def iH (ps:List (List UInt8)) (k:Nat):List ap:=(ps.take k).map lH
theorem Pi(h:k<ps.length):iH ps (k+1)=iH ps k++[lH ps[k]]:=by
 unfold iH;rw[Qa h,Qj];rfl
theorem Pj(h:k<=ps.length):(iH ps k).length=k:=by unfold iH;simp;omega
theorem Pk(h:∀x∈ps,gN x=true):iE ct ps=some (ps.map lH):=by induction ps <;> grind[iE,CY]
theorem Pm(a:x∈ps)(h:gN x=false):iE ct ps=none:=by induction ps <;> grind[iE,CY,gN]
def oj (d:ap):List Value:=[.string d.kind,.int .i64 d.many]
def lI (l:List ap):List Value:=l.flatMap oj
theorem Pn(l:List ap)(d:ap):lI (l++[d])=lI l++oj d:=by simp[lI]
theorem Po:∀(l:List ap) (k:Nat),k<l.length->(lI l)[k*2]?=some (.string (aq l k).kind)/\(lI l)[k*2+1]?=some (.int .i64 (aq l k).many):=by
 intro l
 induction l with
 | nil=>intro k a;simp at a
 | cons d r ih=>
  intro k a;cases k with
  | zero=>exact⟨rfl,rfl⟩
  | succ k=>
   have h:=ih k (by simpa using a);have e:lI (d :: r)=.string d.kind :: .int .i64 d.many :: lI r:=rfl;rw[e,show (k+1)*2=k*2+1+1 by omega,List.getElem?_cons_succ,List.getElem?_cons_succ,List.getElem?_cons_succ,List.getElem?_cons_succ];exact h
theorem Pp{a:List ap}(h:w.ownsRow base 127 2 v a.length (lI a)):bv w v a:=by
 obtain⟨o,h⟩:=h
 rcases h with⟨rfl,e⟩|⟨g,b,i,rfl,p,f,m,l,hs,n⟩
 ·exact⟨none,0,by rw[e],by rw[e];unfold maxLen;omega,λh=>by omega⟩
 ·refine⟨_,b,rfl,Q5 m l,λ_=>⟨g,0,rfl,(gS f).1,λk j=>?_⟩⟩;obtain⟨d,c⟩:=Po a k j;rw[<- n,List.getElem?_take,if_pos (by omega)] at d c;rw[Qd];simp only[World.cell?,f];exact⟨by simpa using d,by simpa using c⟩
theorem Pq{v:Value}{g:List ap}(h:bv A v g)(u:∃a n c,v=.slice a n c/\∀x,a=some x->N<=x.block)(d:Apart K A B)(m:∀j,K j->j<N):bv B v g:=by
 obtain⟨r,c,rfl,l,t⟩:=h;obtain⟨_,_,_,e,p⟩:=u;cases e;refine⟨r,c,rfl,l,λq=>?_⟩;obtain⟨b,o,i,Hb,Hc⟩:=t q;have s:=p _ i;have Ha:=d.block b Hb (λe=>by have:=m b e;simp at s;omega);exact⟨b,o,i,Q1 Hb d.size,λk f=>⟨(World.cell?_of_block (a:=⟨b,o+k*2,none⟩) Ha).trans (Hc k f).1,(World.cell?_of_block (a:=⟨b,o+k*2+1,none⟩) Ha).trans (Hc k f).2⟩⟩
def Pr (w:World) (l:List UInt8) (e:Ending) (w':World):Prop:=
 ∃v,e=.returned (.tuple #[v,.bool (bV ct l).isSome])/\(∀xs,bV ct l=some xs->bv w' v xs)/\(∃a n c,v=.slice a n c/\∀x,a=some x->w.heap.size<=x.block)/\Below w w w'
theorem CZ:(prog.info? 127).map (λi=>(i.zero,i.size,i.bytes))=some (some (.agg #[ByteArray.empty,(0:Int)]),2,24):=by kernel_rfl
theorem Ps(w:World)(d:ap)(t:TypeId):∀j u,(oj d)[j]?=some u->(w.alloc (.cells #[d.kind,(d.many:Int)] t)).cell? ((w.heap.size:Addr).add j)=some u:=by simp_all[Addr.add_lit,oj]
theorem Pt(d:ap):∀u∈oj d,u.oneCell'=true:=by
 intro u a
 simp[oj] at a
 rcases a with rfl|rfl <;> rfl
structure tS (w A:World) (ps:List (List UInt8)) (k:Nat) (W:World):Prop where
 le:k<=ps.length
 b0:Boxed W w 352 (.func (.func 250) #[] #[])
 b1:Boxed W (w.heap.size+1) 63 (.slice none 0 0)
 b2:Boxed W (w.heap.size+1+1) 4 false
 row:∃v,Boxed W (w.heap.size+1+1+1) 63 v/\W.ownsRow (A.heap.size+2) 127 2 v (iH ps k).length (lI (iH ps k))
 below:Below w w W
 good:∀x∈ps.take k,gN x=true
theorem tS.apart(h:tS w A ps k B)(n:A=w.heap.size+1+1+1+1+3)(a:Apart (λj=>KSp (w.heap.size+1+1+1+1) j\/j=A.heap.size+1) B C):tS w A ps k C:=by
 obtain⟨d,e,m,i,⟨v,g,l⟩,f,c⟩:=h;exact⟨d,a.boxed e (by unfold KSp;omega),a.boxed m (by unfold KSp;omega),a.boxed i (by unfold KSp;omega),⟨v,a.boxed g (by unfold KSp;omega),a.row l (λj b=>by unfold KSp at b;omega)⟩,a.below f (lR) (λj b=>by unfold KSp at b;omega),c⟩
abbrev mP:=λ(x0:ap)=>(.cells #[x0.kind,(x0.many:Int)] 127:Obj)
theorem Pu(s:ByteArray)(w:World)(hs:s.size<=100000)(hm:cS w) :
  Calls prog 249 #[s,.func (.func 250) #[] #[]] w (Pr w s.data.toList):=by
 have U:=xh s;obtain⟨i0,hi,HZ,H4,H3⟩:=info_parts CZ;have Hj:=((((Q0 w w).alloc (lR) (.cells #[.func (.func 250) #[] #[]] 352)).alloc (by simp) (.cells #[.slice none 0 0] 63)).alloc (by simp;omega) (.cells #[false] 4))
 by_cases h:s.data.toList=[45]
 ·rw[Qc h] at U;have t:Hu (bV ct s.data.toList=some []):=by unfold Hu bV;rw[if_pos h]
  clear Hj;have r:=((((Q0 w w).alloc (lR) (.cells #[.func (.func 250) #[] #[]] 352)).alloc (by simp) (.cells #[.slice none 0 0] 63)).alloc (by simp;omega) (.cells #[true] 4));have M:=qI r;clear r
  go_enter func249,ntmps249
  go_wp2_with fail
  (try simp only[Exit.inBlock,Exit.then]);refine bodyPost_ret (v:=.tuple #[.slice none 0 0,true]) ?_ rfl ⟨.slice none 0 0,by rw[t.o];rfl,λxs b=>?_,⟨_,_,_,rfl,λx b=>by cases b⟩,M.o⟩
  ·rw[mO rfl];go_simp
  ·rw[t.o] at b;cases b;exact⟨none,0,rfl,by simp,λh=>by simp at h⟩
 ·rw[Q7 h] at U;have u:=qI Hj;clear Hj;have x3:=((Boxed.new w 352 (.func (.func 250) #[] #[])).alloc (.cells #[.slice none 0 0] 63)).alloc (.cells #[false] 4) |>.alloc (.cells #[.slice none 0 0] 63);have Z:=((Boxed.new (w.alloc (.cells #[.func (.func 250) #[] #[]] 352)) 63 (.slice none 0 0)).alloc (.cells #[false] 4)).alloc (.cells #[.slice none 0 0] 63);have P:=(Boxed.new ((w.alloc (.cells #[.func (.func 250) #[] #[]] 352)).alloc (.cells #[.slice none 0 0] 63)) 4 false).alloc (.cells #[.slice none 0 0] 63);have E:=Boxed.new (((w.alloc (.cells #[.func (.func 250) #[] #[]] 352)).alloc (.cells #[.slice none 0 0] 63)).alloc (.cells #[false] 4)) 63 (.slice none 0 0);simp only[World.size_alloc] at Z P E;have Y:=qI (u.o.alloc (by simp;omega) (.cells #[.slice none 0 0] 63));have HO:((((w.alloc (.cells #[.func (.func 250) #[] #[]] 352)).alloc (.cells #[.slice none 0 0] 63)).alloc (.cells #[false] 4)).alloc (.cells #[.slice none 0 0] 63)).heap.size=w.heap.size+1+1+1+1:=by simp
  have X3:=qI x3;have N:=qI Z;have X5:=qI P;have G:=qI E;clear x3 Z P E u;refine (callsIn_wide (n:=3)).1 ?_;refine callsIn_of_wp_marks func249 rfl trivial ?_ rfl;simp only[ntmps249,List.size_toArray,Qg,List.length_nil,Nat.reduceAdd,Nat.reduceSub,Array.replicate_succ,Array.replicate_zero,List.push_toArray,List.append_toArray,List.nil_append,List.cons_append]
  gi_wp2_with fail
  generalize (((w.alloc (.cells #[.func (.func 250) #[] #[]] 352)).alloc (.cells #[.slice none 0 0] 63)).alloc (.cells #[false] 4)).alloc (.cells #[.slice none 0 0] 63)=V at *;refine⟨trivial,(callsIn_wide.2 (BJ s 44 V)).mono ?_⟩;rintro e A ⟨rfl,Hr,Hp,Hw⟩;have HP:=qI (Y.o.trans (Hp.mono Y.o.size));have X:=qI (show Boxed A _ _ _ from (Hp.block _ X3.o.lt).trans X3.o);have Q:=qI (show Boxed A _ _ _ from (Hp.block _ N.o.lt).trans N.o);have F:=qI (show Boxed A _ _ _ from (Hp.block _ X5.o.lt).trans X5.o);have hh:=qI (show Boxed A _ _ _ from (Hp.block _ G.o.lt).trans G.o);have Hi:=BL 2 (by omega) V 44 s.data.toList A Hr (by simp;omega);rw[HO] at Hw Hi ⊢;clear Hp X3 N X5 G Y Hr HO
  gi_wp2_with fail
  have t:Hu (bV ct s.data.toList=iE ct (aH 44 s.data.toList)):=by unfold Hu bV;rw[if_neg h]
  have Hy:=qI (pu 44 s.data.toList);have HW:=qI (tP 44 s.data.toList);have H9:s.data.toList.length=s.size:=by simp
  generalize hgl:s.data.toList=sl at *;generalize hps:aH 44 sl=a at *;have Hz:Hu (∀k,(f:k<a.length)->∃H0:k<(dQ 44 sl).length,(dQ 44 sl)[k]=#[Value.string ⟨(a.getD k []).toArray⟩]):=λk f=>by
   subst hps;exact⟨by rw[re];exact f,by rw[CV _ _ _ f];simp[f]⟩
  have H:Hu ((dQ 44 sl).length=a.length):=by unfold Hu;rw[re,hps]
  have Hx:Hu (∀x∈dQ 44 sl,x.size=1):=by
   intro x b;obtain⟨y,_,rfl⟩:=Qk.1 b;rfl
  have H8:=HP.o.size;clear hps h U;refine wA rfl (by omega) (gf:=322) rfl trivial (enters_of func322 (by kernel_rfl) rfl) (K:=KSp (w.heap.size+1+1+1+1)) (ts:=dQ 44 sl) (λj d=>by unfold KSp at d;omega) Hi Hx.o
   (λk W=>tS w A a k W) (λc W=>c=.ret/\Boxed W (w.heap.size+1) 63 (.slice none 0 0)/\Boxed W (w.heap.size+1+1) 4 false/\Below w w W/\bV ct sl=none)
   (λk B C hi Hc=>hi.apart Hw Hc) (λc B C b Hc=>⟨b.1,Hc.boxed b.2.1 (by unfold KSp;omega),Hc.boxed b.2.2.1 (by unfold KSp;omega),Hc.below b.2.2.2.1 (lR) (λj d=>by unfold KSp at d;omega),b.2.2.2.2⟩)
   ⟨Nat.zero_le _,X.o,Q.o,F.o,⟨_,hh.o,Qw _ _ _ _⟩,HP.o,by simp⟩
   (λk=>{ tmps:=#[Value.string s,Value.func (Fn.func 250) #[] #[],undef,Value.pointer (some ⟨w,0,none⟩),Value.pointer (some ⟨w.heap.size+1,0,none⟩),Value.pointer (some ⟨w.heap.size+1+1,0,none⟩),Value.pointer (some ⟨w.heap.size+1+1+1,0,none⟩),Value.string ⟨(a.getD k []).toArray⟩,undef,undef,Value.string s,Value.bool false,Value.string s,Value.func (Fn.func 322) #[] #[Value.pointer (some ⟨w.heap.size+1+1+1+1+1,0,none⟩),Value.pointer (some ⟨w.heap.size+1+1+1+1,0,none⟩),Value.pointer (some ⟨w.heap.size+1+1+1+1+2,0,none⟩)],Value.string ⟨(a.getD k []).toArray⟩,undef,undef,undef,undef,undef,undef,undef,undef,undef,undef,undef,undef,undef],defers:=[] }) ?assign ?body ?done ?stop
  case assign=>
   intro l k f W R hR;rw[H.o] at f;obtain⟨H0,e⟩:=Hz.o k f;rw[e];clear e;generalize a.getD k []=x at *
   gi_wp2_with fail
   exact hR
  case body=>
   intro l k W f HX z;rw[H.o] at f;obtain⟨h1,Hv,Hl,Hn,⟨v,Hj,Hb⟩,Hg,Ha⟩:=z;have HH:a.getD k []∈a:=by simp[f]
   have hc:=Hy.o _ HH;have HT:Hu (a.take (k+1)=a.take k++[a.getD k []]):=by unfold Hu;rw[Qa f];simp[f]
   have H1:Hu (iH a (k+1)=iH a k++[lH (a.getD k [])]):=by unfold Hu;rw[Pi f];simp[f]
   have H6:=qI (Pj h1);have ha:=HW.o;have HF:Hu (gN (a.getD k [])=false->bV ct sl=none):=λp=>by rw[t.o];exact Pm HH p
   generalize a.getD k []=x at *;have O:=OO ⟨x.toArray⟩ W (by show x.length<_;omega) (hm.below Hg);rw[show (ByteArray.mk x.toArray).data.toList=x by simp] at O;have o:Hu (Calls prog 250 #[.string ⟨x.toArray⟩] W λe w'=>e=.returned (.tuple #[.agg #[(lH x).kind,((lH x).many:Int)],.bool (gN x)])/\Below W W w'):=O;clear O;have c0:=Hv.cell;have L:=qI Hl;have HE:=qI Hn;have u:=qI Hj;have HU:=qI Hv;have Hs:=qI Hb;have Hk:=qI Hg;have Hq:=qI Ha;generalize lH x=g at *;clear Ha Hg Hi Hz Hx Hy HH
   rcases two (gN x) with p|p
   ·rw[p] at o;have H5:(iH a k).length+1<=200000:=by rw[H6.o];omega
    obtain⟨m,vc,hv⟩:=gI Hb;generalize iH a k=ns at *;subst hv
    gi_wp2_with fail
    refine⟨trivial,(CallsIn.inRound l (callsIn_wide.2 o.o)).mono ?_⟩;rintro e i ⟨rfl,Ht⟩;have He:Apart (λ_=>False) W (i.alloc (mP g)):=(Apart.of_below Ht).trans (Apart.alloc _ _ _);have HM:=He.row Hb λ_ h=>h.elim;have HD:=He.boxed Hj id;have c3:=HD.cell;have H7:A.heap.size+1<(i.alloc (mP g)).heap.size:=Q1 HX He.size;have hf:(i.alloc (mP g)).cell? i=some (.string g.kind):=by simp
    have he:(i.alloc (mP g)).cell? ⟨i,1,none⟩=some (.int .i64 g.many):=by simp
    clear Ht c0 Hv Hl Hn Hj Hb;generalize hV2:i.alloc (mP g)=V2 at *
    gi_wp2_with (gi_at_builtin;refine wpListIn_append_own_at _ rfl _ _ 63 rfl (A.heap.size+2) 127 i0 _ 2 24 underlying63 hi HZ H4 H3 rfl (by decide) _ _ _ rfl (HM.alloc _) ⟨_,0,none⟩ 1 1 (oj g) rfl rfl (Ps _ _ _) (Pt g) (by unfold maxLen;omega) (by omega) (by simp;omega) ?_;intro v' I Hm Hh _ _;obtain⟨na,nc,rfl⟩:=gI Hm;have HY:(V2.alloc (mP g)).grownBy I (Value.slice m ns.length vc).ownBlock:=Hh;clear Hh;have HR:=(He.wide (K':=λj=>A.heap.size+2<=j) λ_ h=>h.elim).trans (xw HM HY);have Ho:=HR.boxed u.o (by omega);have hl:=Ho.cell;have ho:=Ho.frozen)
    have Hc:Apart (λj=>A.heap.size+2<=j\/j=w.heap.size+1+1+1) W (I.setCell ⟨w.heap.size+1+1+1,0,none⟩ (.slice na (ns.length+1) nc)):=(HR.wide λ_=>.inl).trans (Apart.setCell (.inr rfl) _ _ _);refine⟨λj d=>Hc.block j (by unfold KSp at d;omega) (by unfold KSp at d;omega),by omega,Hc.boxed HU.o (by omega),Hc.boxed L.o (by omega),Hc.boxed HE.o (by omega),⟨_,Ho.set _,?_⟩,Hc.below Hk.o (lR) (λj d=>by omega),?_⟩
    ·rw[H1.o,Pn,Q2];exact (Apart.setCell (K:=λj=>j=w.heap.size+1+1+1) rfl I 0 _).row Hm (λj d=>by omega)
    ·rw[HT.o];intro y q
     rcases Qi.1 q with q|q
     ·exact Hq.o y q
     ·rw[Qm] at q;rw[q];exact p
   ·rw[p] at o;have H2:=qI (HF.o p)
    gi_wp2_with fail
    refine⟨trivial,(CallsIn.inRound l (callsIn_wide.2 o.o)).mono ?_⟩;rintro e i ⟨rfl,Ht⟩;have He:Apart (λ_=>False) W (i.alloc (mP g)):=(Apart.of_below Ht).trans (Apart.alloc _ _ _);have J:=He.boxed Hl id;have S:=He.boxed Hn id;have f1:=J.frozen;have f2:=S.frozen;have c1:=J.cell;have c2:=S.cell;clear Ht c0 Hv Hl Hn Hj Hb;generalize hV2:i.alloc (mP g)=V2 at *
    gi_wp2_with fail
    have Hc:Apart (λj=>j=w.heap.size+1\/j=w.heap.size+1+1) W ((V2.setCell (w.heap.size+1:Nat) (.slice none 0 0)).setCell ⟨w.heap.size+1+1,0,none⟩ false):=((He.wide λ_ h=>h.elim).trans (Apart.setCell (.inl rfl) _ _ _)).trans (Apart.setCell (.inr rfl) _ _ _);exact⟨λj d=>Hc.block j (by unfold KSp at d;omega) (by unfold KSp at d;omega),rfl,(Apart.setCell (K:=λj=>j=w.heap.size+1+1) rfl _ 0 _).boxed (J.set _) (by omega),((Apart.setCell (K:=λj=>j=w.heap.size+1) rfl _ 0 _).boxed S (by omega)).set _,Hc.below Hk.o (lR) (λj d=>by omega),H2.o⟩
  case done=>
   intro W z D;rw[H.o] at z;obtain⟨_,Hv,Hl,Hn,⟨v,Hj,Hb⟩,Hg,Ha⟩:=z;have HS:Hu (bV ct sl=some (iH a a.length)):=by
    unfold Hu;rw[Qh] at Ha;rw[t.o,Pk Ha,iH,Qh]
   have Hs:=qI Hb;have c3:=Hj.cell;have c1:=Hl.cell;have c2:=Hn.cell;have f1:=Hl.frozen;have f2:=Hn.frozen;have Hk:=qI Hg;have L:=qI Hl;have HE:=qI Hn;obtain⟨m,vc,rfl⟩:=gI Hb;clear Ha Hg Hb Hi Hz Hx Hy;generalize iH a a.length=ns at *
   gi_wp2_with fail
   have Hc:Apart (λj=>j=w.heap.size+1\/j=w.heap.size+1+1) W ((W.setCell (w.heap.size+1:Nat) (.slice m ns.length vc)).setCell ⟨w.heap.size+1+1,0,none⟩ true):=(Apart.setCell (.inl rfl) _ _ _).trans (Apart.setCell (.inr rfl) _ _ _);have b1:=(Apart.setCell (K:=λj=>j=w.heap.size+1+1) rfl _ 0 true).boxed (L.o.set (.slice m ns.length vc)) (by omega);have b2:=((Apart.setCell (K:=λj=>j=w.heap.size+1) rfl W 0 (.slice m ns.length vc)).boxed HE.o (by omega)).set true;have HV:=(Hc.block A (gS D).1 (by omega)).trans D;generalize (W.setCell (w.heap.size+1:Nat) (.slice m ns.length vc)).setCell ⟨w.heap.size+1+1,0,none⟩ true=W5 at *;have Hf:Apart (λj=>j=A.heap.size) W5 (W5.putObj A (.deferred none)):=Apart.putObj (K:=λj=>j=A.heap.size) rfl _ _;have e1:=(Hf.boxed b1 (by omega)).cell;have e2:=(Hf.boxed b2 (by omega)).cell;have HQ:=qI (Hf.row (Hc.row Hs.o (λj d=>by omega)) (λj d=>by omega));have T:=qI (Hf.below (Hc.below Hk.o (lR) (λj d=>by omega)) (lR) (λj d=>by omega));refine⟨by simp,.inl ⟨_,_,rfl,run_takeDeferred HV,?_⟩⟩;refine⟨.tuple #[.slice m ns.length vc,true],?_,.slice m ns.length vc,by rw[HS.o];rfl,λxs b=>?_,⟨_,_,_,rfl,λx b=>Q5 (by omega) (CX HQ.o x b)⟩,T.o⟩
   ·generalize W5.putObj A (Obj.deferred none)=W6 at *;rw[mO rfl];go_simp
   ·rw[HS.o] at b;cases b;exact Pp HQ.o
  case stop=>
   rintro c W ⟨rfl,h4,h5,r,hn⟩ D;have c1:=h4.cell;have c2:=h5.cell;have o:=qI hn;have M:=qI r;clear hn r Hi Hz Hx Hy
   gi_wp2_with fail
   have Hf:Apart (λj=>j=A.heap.size) W (W.putObj A (.deferred none)):=Apart.putObj (K:=λj=>j=A.heap.size) rfl _ _;have e1:=(Hf.boxed h4 (by omega)).cell;have e2:=(Hf.boxed h5 (by omega)).cell;have T:=qI (Hf.below M.o (lR) (λj d=>by omega));refine⟨by simp,.inl ⟨_,_,rfl,run_takeDeferred D,?_⟩⟩;refine⟨.tuple #[.slice none 0 0,false],?_,.slice none 0 0,by rw[o.o];rfl,λxs b=>?_,⟨_,_,_,rfl,λx b=>by cases b⟩,T.o⟩
   ·generalize W.putObj A (Obj.deferred none)=W6 at *;rw[mO rfl];go_simp
   ·rw[o.o] at b;cases b
def px (w:World) (b:Nat) (ws:List (List UInt8)):Prop:=b<w.heap.size/\∀k,k<ws.length->w.cell? ⟨b,k,none⟩=some (.string ⟨(ar ws k).toArray⟩)
theorem px.below{w':World}(h:px w b ws)(a:Below w w w'):px w' b ws:=
 ⟨Q1 h.1 a.size,λk c=>(a.cell (p:=⟨b,k,none⟩) h.1).trans (h.2 k c)⟩
theorem C0(h:k<ws.length):ar ws k∈ws:=by simp[ar,h]
theorem C5(b f:Nat)(ws:List (List UInt8))(w:World)(h:px w b ws)(d:ws.length=3)(hs:∀x∈ws,x.length<=10000) :
  Calls prog 192 #[.slice b 3 f] w λe w'=>e=.returned (.tuple #[.agg #[.string ⟨(ar ws 1).toArray⟩,(nOf (ar ws 2):Int),.slice none 0 0],.bool (gOf (ar ws 2))])/\Below w w w':=by
 have Ha:=qI ((Q0 w w).alloc (lR) (.cells #[.string ⟨#[]⟩,(0:Int),.slice none 0 0] 49));have a:=Ha.o;have c1:=((h.below a).2 1 (by omega));have c2:=((h.below a).2 2 (by omega));have c:=qI λW=>ra ⟨(ar ws 2).toArray⟩ W (by have:=hs _ (C0 (ws:=ws) (k:=2) (by omega));unfold maxLen;show (ar ws 2).length<=_;omega);rw[show (ByteArray.mk (ar ws 2).toArray).data.toList=ar ws 2 by simp] at c;generalize nOf (ar ws 2)=n at *;generalize gOf (ar ws 2)=g at *;generalize ar ws 1=x at *;generalize ar ws 2=y at *;clear h hs d a
 go_enter func192,ntmps192
 go_wp2_with fail
 refine (c.o _).mono ?_;rintro e i ⟨rfl,rfl⟩
 go_wp2_with fail
 (try simp only[Exit.inBlock,Exit.then]);refine bodyPost_ret (v:=.tuple #[.agg #[.string ⟨x.toArray⟩,(n:Int),.slice none 0 0],g]) ?_ rfl ⟨rfl,(Q0 _ _).alloc (lR) _⟩;rw[results_cell_tmp rfl];go_simp
def lJ:Code->List Code
 | .seq a b=>lJ a++lJ b
 | .cond _ a b=>lJ a++lJ b
 | .block _ c=>lJ c
 | .scope c=>lJ c
 | .loop c=>lJ c
 | .region i o d=>[.region i o d]
 | _=>[]
def FrV (G:(Nat->Value)->Act) (P:(Nat->Value)->World->Prop) (a:Act) (w:World):Prop:=∃F,a=G F/\P F w
theorem FrV.mk{G:(Nat->Value)->Act}{P:(Nat->Value)->World->Prop}(h:a=G (λn=>a.tmps.getD n undef))(b:P (λn=>a.tmps.getD n undef) w):FrV G P a w:=⟨_,h,b⟩
theorem aV{cs:Array Value}(h:W.heap[g]?=some (.cells cs t (0,0)))(i:Nat)(v:Value):(W.setCell ⟨g,i,none⟩ v).heap[g]?=some (.cells (cs.setIfInBounds i v) t (0,0)):=by
 obtain⟨Ha,a⟩:=gS h
 show (W.heap.modify g _)[g]?=_
 rw[Array.getElem?_eq_getElem (by rw[Array.size_modify];exact Ha),Array.getElem_modify_self,a];rfl
theorem C6{V:World}(h:Below N w.drew V):Below N w V:=⟨h.os,h.tape,h.output,h.size,h.block⟩
theorem cell_far{j i:Nat}{u:Value}(h:W.cell? ⟨b,j,none⟩=some u)(c:b≠g):(W.setCell ⟨g,i,none⟩ v).cell? ⟨b,j,none⟩=some u:=
 (World.cell?_of_block (a:=⟨b,j,none⟩) (Below.heap_setCell W ⟨g,i,none⟩ v b c)).trans h
def lK (R:Act->World->Prop):Exit->Act->World->Prop
 | .normal,a,w=>R a w
 | _,_,_=>False
theorem lK.mk(h:R a w):lK R .normal a w:=h
theorem C7{P:Program}{c:Code}{Q:Exit->Act->World->Prop}{a:Act}{w:World}(h:Code.wp P c (lK R) a w)(b:∀a w,R a w->Q .normal a w):Code.wp P c Q a w:=
 wp_mono h λe a w h=>by
  cases e with
  | normal=>exact b _ _ h
  | _=>exact h.elim
noncomputable def C8:Code:=((Tryz.f193.body.map lJ).getD []).getD 1 .skip
theorem Pv{x:ByteArray}{n:Int}(w:World)(k:b<w)(h:w.cell? ⟨b,2,none⟩=some (.string x))(j:w.cell? ⟨b,3,none⟩=some (.string y))
  (l:Hu (∀W,Calls prog 248 #[x,y] W λe w'=>e=.returned (.tuple #[.agg #[(m:Int),n],p])/\Below W.heap.size W w')) :
  Code.wp prog C8 (lK (FrV (λF=>{ tmps:=List.toArray (Value.slice b 9 wc :: undef :: P 2 :: P 3 :: P 4 :: F 5 :: F 6 :: undef :: undef :: undef :: undef :: undef :: undef :: undef :: undef :: undef :: undef :: F 17 :: F 18 :: F 19 :: F 20 :: F 21 :: F 22 :: F 23 :: F 24 :: F 25 :: F 26 :: undef :: undef :: undef :: undef :: undef :: undef :: undef :: undef :: undef :: undef :: undef :: undef :: undef :: undef :: undef :: undef :: undef :: undef :: undef :: undef :: undef :: undef :: undef :: undef :: undef :: undef :: undef :: undef :: undef :: undef :: undef :: undef :: undef :: undef :: undef :: undef :: undef :: undef :: undef :: undef :: undef :: undef :: undef :: undef :: undef :: undef :: undef :: undef :: undef :: undef :: undef :: undef :: undef :: undef :: undef :: undef :: []),defers:=[] }) λF W'=>∃B,F 5=.pointer (some ⟨B,0,none⟩)/\F 6=.bool p/\Below w w W'/\w.heap.size<=B/\W'.heap[B]?=some (.cells #[(m:Int),n] 62 (0,0))))
   { tmps:=List.toArray (Value.slice b 9 wc :: undef :: P 2 :: P 3 :: P 4 :: undef :: undef :: undef :: undef :: undef :: undef :: undef :: undef :: undef :: undef :: undef :: undef :: undef :: undef :: undef :: undef :: undef :: undef :: undef :: undef :: undef :: undef :: undef :: undef :: undef :: undef :: undef :: undef :: undef :: undef :: undef :: undef :: undef :: undef :: undef :: undef :: undef :: undef :: undef :: undef :: undef :: undef :: undef :: undef :: undef :: undef :: undef :: undef :: undef :: undef :: undef :: undef :: undef :: undef :: undef :: undef :: undef :: undef :: undef :: undef :: undef :: undef :: undef :: undef :: undef :: undef :: undef :: undef :: undef :: undef :: undef :: undef :: undef :: undef :: undef :: undef :: undef :: undef :: []),defers:=[] } w:=by
 conv=>enter [2];unfold C8;whnf
 have f:Hu (w.drew.cell? ⟨b,2,none⟩=some (.string x)/\w.drew.cell? ⟨b,3,none⟩=some (.string y)):=qI ⟨h,j⟩;have g:=qI k;clear h j k;refine wp_region_held_drew (S:=(λw'=>w'.cell? ⟨b,2,none⟩=some (.string x)/\w'.cell? ⟨b,3,none⟩=some (.string y))) (by kernel_rfl) f.o λd=>?_;refine tk 0 ?_;refine tk 1 ?_;refine tk 2 ?_;refine tk 3 ?_;refine tk 4 ?_;refine tk 5 ?_;refine rd2 6 10 (λK a=>?o6) λK a=>?o10
 case o6=>
  go_simp
  go_wp2_with fail
  refine (l.o _).mono ?_;rintro e c ⟨rfl,Hb⟩;have Hc:=qI Hb;have Ha:=qI (show c.cell? ⟨b,2,none⟩=some (.string x)/\c.cell? ⟨b,3,none⟩=some (.string y) from⟨(Hb.cell (p:=⟨b,2,none⟩) g.o).trans f.o.1,(Hb.cell (p:=⟨b,3,none⟩) g.o).trans f.o.2⟩);clear Hb
  go_wp2_with fail
  refine a.o _ _ Ha.o λd=>?_;clear a K;refine tk 7 ?_;refine tk 8 ?_;refine tk 9 ?_;refine rd 10 λK a=>?_;go_simp
  go_wp2_with fail
  refine a.o _ _ ⟨dp Ha.o.1 (.cells #[(0:Int),(0:Int)] 62),dp Ha.o.2 (.cells #[(0:Int),(0:Int)] 62)⟩ λd=>?_;clear a K;refine rd 11 λK a=>?_;go_simp
  go_wp2_with fail
  refine a.o _ _ ⟨dp Ha.o.1 (.cells #[(m:Int),n] 62),dp Ha.o.2 (.cells #[(m:Int),n] 62)⟩ λd=>?_;clear a K;refine tk 12 ?_;refine Qn (by kernel_rfl) ?_ _;refine lK.mk (FrV.mk (by kernel_rfl) ?_);refine⟨c,rfl,rfl,?_,?_,?_⟩
  ·exact (C6 Hc.o).alloc Hc.o.size _
  ·exact Hc.o.size
  ·exact heap_alloc_new c _
 case o10=>
  go_simp
  go_wp2_with fail
  have Hg:=qI (show Below w w (w.alloc (.cells #[(0:Int),(0:Int)] 62)).drew from jB ((Q0 w w).alloc (lR) (.cells #[(0:Int),(0:Int)] 62)));have Hk:=qI (show (w.alloc (.cells #[(0:Int),(0:Int)] 62)).drew.cell? ⟨b,2,none⟩=some (.string x)/\(w.alloc (.cells #[(0:Int),(0:Int)] 62)).drew.cell? ⟨b,3,none⟩=some (.string y) from⟨dp f.o.1 (.cells #[(0:Int),(0:Int)] 62),dp f.o.2 (.cells #[(0:Int),(0:Int)] 62)⟩);have Hl:(w.alloc (.cells #[(0:Int),(0:Int)] 62)).drew.heap[w.heap.size]?=some (.cells #[(0:Int),(0:Int)] 62):=heap_alloc_new w _;have Hh:w.heap.size<(w.alloc (.cells #[(0:Int),(0:Int)] 62)).drew.heap.size:=by simp
  have He:b<(w.alloc (.cells #[(0:Int),(0:Int)] 62)).drew.heap.size:=Nat.lt_trans g.o Hh;refine a.o _ _ Hk.o λd=>?_;clear a K;generalize (w.alloc (.cells #[(0:Int),(0:Int)] 62)).drew=q at *;refine rd 6 λK a=>?_;go_simp
  go_wp2_with fail
  refine (l.o _).mono ?_;rintro e c ⟨rfl,Hb⟩;have Hc:=qI Hb;have Ha:=qI (show c.cell? ⟨b,2,none⟩=some (.string x)/\c.cell? ⟨b,3,none⟩=some (.string y) from⟨(Hb.cell (p:=⟨b,2,none⟩) He).trans Hk.o.1,(Hb.cell (p:=⟨b,3,none⟩) He).trans Hk.o.2⟩);clear Hb
  go_wp2_with fail
  refine a.o _ _ Ha.o λd=>?_;clear a K;refine tk 7 ?_;refine tk 8 ?_;refine tk 9 ?_;have Hj:c.heap[w.heap.size]?=some (.cells #[(0:Int),(0:Int)] 62):=(Hc.o.block _ Hh).trans Hl;have Hi:=aV Hj 0 (m:Int);have Hm:=aV Hi 1 n;have r:c.cell? w=some (.int .i64 0):=by simp[World.cell?,Hj]
  have f0:c.frozen? w=false:=by simp[World.frozen?,Hj]
  have o:(c.setCell w (m:Int)).cell? ⟨w,1,none⟩=some (.int .i64 0):=by simp[World.cell?,Hi]
  have f1:(c.setCell w (m:Int)).frozen? ⟨w,1,none⟩=false:=by simp[World.frozen?,Hi]
  have Hf:b≠w:=by have:=g.o;omega
  have Hn:=qI (And.intro (cell_far (cell_far Ha.o.1 (i:=0) (v:=.int .i64 m) Hf) (i:=1) (v:=.int .i64 n) Hf) (cell_far (cell_far Ha.o.2 (i:=0) (v:=.int .i64 m) Hf) (i:=1) (v:=.int .i64 n) Hf));have Ho:=qI Hm;clear Hj Hi Hm Hl Hf;refine rd 11 λK a=>?_;go_simp
  go_wp2_with fail
  refine a.o _ _ Hn.o λd=>?_;clear a K;refine tk 12 ?_;refine Qn (by kernel_rfl) ?_ _;refine lK.mk (FrV.mk (by kernel_rfl) ?_);refine⟨w,rfl,rfl,?_,lR,Ho.o⟩;exact (((Hg.o.trans (Hc.o.mono Hg.o.size)).setCell (p:=w.heap.size) (lR) _).setCell (p:=⟨w,1,none⟩) (lR) _)
noncomputable def C9:Code:=((Tryz.f193.body.map lJ).getD []).getD 2 .skip
theorem Pw{x:ByteArray}{n:Int}(w:World)(k:b<w)(h:w.cell? ⟨b,4,none⟩=some (.string x))(j:w.cell? ⟨b,5,none⟩=some (.string y))
  (l:Hu (∀W,Calls prog 248 #[x,y] W λe w'=>e=.returned (.tuple #[.agg #[(m:Int),n],p])/\Below W.heap.size W w')) :
  Code.wp prog C9 (lK (FrV (λF=>{ tmps:=List.toArray (Value.slice b 9 wc :: undef :: P 2 :: P 3 :: P 4 :: P 5 :: P 6 :: F 7 :: F 8 :: undef :: undef :: undef :: undef :: undef :: undef :: undef :: undef :: P 17 :: P 18 :: P 19 :: P 20 :: P 21 :: P 22 :: P 23 :: P 24 :: P 25 :: P 26 :: F 27 :: F 28 :: F 29 :: F 30 :: F 31 :: F 32 :: F 33 :: F 34 :: F 35 :: F 36 :: undef :: undef :: undef :: undef :: undef :: undef :: undef :: undef :: undef :: undef :: undef :: undef :: undef :: undef :: undef :: undef :: undef :: undef :: undef :: undef :: undef :: undef :: undef :: undef :: undef :: undef :: undef :: undef :: undef :: undef :: undef :: undef :: undef :: undef :: undef :: undef :: undef :: undef :: undef :: undef :: undef :: undef :: undef :: undef :: undef :: undef :: []),defers:=[] }) λF W'=>∃B,F 7=.pointer (some ⟨B,0,none⟩)/\F 8=.bool p/\Below w w W'/\w.heap.size<=B/\W'.heap[B]?=some (.cells #[(m:Int),n] 62 (0,0))))
   { tmps:=List.toArray (Value.slice b 9 wc :: undef :: P 2 :: P 3 :: P 4 :: P 5 :: P 6 :: undef :: undef :: undef :: undef :: undef :: undef :: undef :: undef :: undef :: undef :: P 17 :: P 18 :: P 19 :: P 20 :: P 21 :: P 22 :: P 23 :: P 24 :: P 25 :: P 26 :: undef :: undef :: undef :: undef :: undef :: undef :: undef :: undef :: undef :: undef :: undef :: undef :: undef :: undef :: undef :: undef :: undef :: undef :: undef :: undef :: undef :: undef :: undef :: undef :: undef :: undef :: undef :: undef :: undef :: undef :: undef :: undef :: undef :: undef :: undef :: undef :: undef :: undef :: undef :: undef :: undef :: undef :: undef :: undef :: undef :: undef :: undef :: undef :: undef :: undef :: undef :: undef :: undef :: undef :: undef :: undef :: []),defers:=[] } w:=by
 conv=>enter [2];unfold C9;whnf
 have f:Hu (w.drew.cell? ⟨b,4,none⟩=some (.string x)/\w.drew.cell? ⟨b,5,none⟩=some (.string y)):=qI ⟨h,j⟩;have g:=qI k;clear h j k;refine wp_region_held_drew (S:=(λw'=>w'.cell? ⟨b,4,none⟩=some (.string x)/\w'.cell? ⟨b,5,none⟩=some (.string y))) (by kernel_rfl) f.o λd=>?_;refine tk 0 ?_;refine tk 1 ?_;refine tk 2 ?_;refine tk 3 ?_;refine tk 4 ?_;refine tk 5 ?_;refine rd2 6 10 (λK a=>?o6) λK a=>?o10
 case o6=>
  go_simp
  go_wp2_with fail
  refine (l.o _).mono ?_;rintro e c ⟨rfl,Hb⟩;have Hc:=qI Hb;have Ha:=qI (show c.cell? ⟨b,4,none⟩=some (.string x)/\c.cell? ⟨b,5,none⟩=some (.string y) from⟨(Hb.cell (p:=⟨b,4,none⟩) g.o).trans f.o.1,(Hb.cell (p:=⟨b,5,none⟩) g.o).trans f.o.2⟩);clear Hb
  go_wp2_with fail
  refine a.o _ _ Ha.o λd=>?_;clear a K;refine tk 7 ?_;refine tk 8 ?_;refine tk 9 ?_;refine rd 10 λK a=>?_;go_simp
  go_wp2_with fail
  refine a.o _ _ ⟨dp Ha.o.1 (.cells #[(0:Int),(0:Int)] 62),dp Ha.o.2 (.cells #[(0:Int),(0:Int)] 62)⟩ λd=>?_;clear a K;refine rd 11 λK a=>?_;go_simp
  go_wp2_with fail
  refine a.o _ _ ⟨dp Ha.o.1 (.cells #[(m:Int),n] 62),dp Ha.o.2 (.cells #[(m:Int),n] 62)⟩ λd=>?_;clear a K;refine tk 12 ?_;refine Qn (by kernel_rfl) ?_ _;refine lK.mk (FrV.mk (by kernel_rfl) ?_);refine⟨c,rfl,rfl,?_,?_,?_⟩
  ·exact (C6 Hc.o).alloc Hc.o.size _
  ·exact Hc.o.size
  ·exact heap_alloc_new c _
 case o10=>
  go_simp
  go_wp2_with fail
  have Hg:=qI (show Below w w (w.alloc (.cells #[(0:Int),(0:Int)] 62)).drew from jB ((Q0 w w).alloc (lR) (.cells #[(0:Int),(0:Int)] 62)));have Hk:=qI (show (w.alloc (.cells #[(0:Int),(0:Int)] 62)).drew.cell? ⟨b,4,none⟩=some (.string x)/\(w.alloc (.cells #[(0:Int),(0:Int)] 62)).drew.cell? ⟨b,5,none⟩=some (.string y) from⟨dp f.o.1 (.cells #[(0:Int),(0:Int)] 62),dp f.o.2 (.cells #[(0:Int),(0:Int)] 62)⟩);have Hl:(w.alloc (.cells #[(0:Int),(0:Int)] 62)).drew.heap[w.heap.size]?=some (.cells #[(0:Int),(0:Int)] 62):=heap_alloc_new w _;have Hh:w.heap.size<(w.alloc (.cells #[(0:Int),(0:Int)] 62)).drew.heap.size:=by simp
  have He:b<(w.alloc (.cells #[(0:Int),(0:Int)] 62)).drew.heap.size:=Nat.lt_trans g.o Hh;refine a.o _ _ Hk.o λd=>?_;clear a K;generalize (w.alloc (.cells #[(0:Int),(0:Int)] 62)).drew=q at *;refine rd 6 λK a=>?_;go_simp
  go_wp2_with fail
  refine (l.o _).mono ?_;rintro e c ⟨rfl,Hb⟩;have Hc:=qI Hb;have Ha:=qI (show c.cell? ⟨b,4,none⟩=some (.string x)/\c.cell? ⟨b,5,none⟩=some (.string y) from⟨(Hb.cell (p:=⟨b,4,none⟩) He).trans Hk.o.1,(Hb.cell (p:=⟨b,5,none⟩) He).trans Hk.o.2⟩);clear Hb
  go_wp2_with fail
  refine a.o _ _ Ha.o λd=>?_;clear a K;refine tk 7 ?_;refine tk 8 ?_;refine tk 9 ?_;have Hj:c.heap[w.heap.size]?=some (.cells #[(0:Int),(0:Int)] 62):=(Hc.o.block _ Hh).trans Hl;have Hi:=aV Hj 0 (m:Int);have Hm:=aV Hi 1 n;have r:c.cell? w=some (.int .i64 0):=by simp[World.cell?,Hj]
  have f0:c.frozen? w=false:=by simp[World.frozen?,Hj]
  have o:(c.setCell w (m:Int)).cell? ⟨w,1,none⟩=some (.int .i64 0):=by simp[World.cell?,Hi]
  have f1:(c.setCell w (m:Int)).frozen? ⟨w,1,none⟩=false:=by simp[World.frozen?,Hi]
  have Hf:b≠w:=by have:=g.o;omega
  have Hn:=qI (And.intro (cell_far (cell_far Ha.o.1 (i:=0) (v:=.int .i64 m) Hf) (i:=1) (v:=.int .i64 n) Hf) (cell_far (cell_far Ha.o.2 (i:=0) (v:=.int .i64 m) Hf) (i:=1) (v:=.int .i64 n) Hf));have Ho:=qI Hm;clear Hj Hi Hm Hl Hf;refine rd 11 λK a=>?_;go_simp
  go_wp2_with fail
  refine a.o _ _ Hn.o λd=>?_;clear a K;refine tk 12 ?_;refine Qn (by kernel_rfl) ?_ _;refine lK.mk (FrV.mk (by kernel_rfl) ?_);refine⟨w,rfl,rfl,?_,lR,Ho.o⟩;exact (((Hg.o.trans (Hc.o.mono Hg.o.size)).setCell (p:=w.heap.size) (lR) _).setCell (p:=⟨w,1,none⟩) (lR) _)
theorem rf{α:Type}(f:α->List Value)(n:Nat)(hf:∀x,(f x).length=n):∀(l:List α) (k j:Nat) (a:k<l.length),j<n->(l.flatMap f)[k*n+j]?=(f l[k])[j]?:=by
 intro l
 induction l with
 | nil=>intro k j a;simp at a
 | cons x r ih=>
  intro k j a b;cases k with
  | zero=>
   rw[List.flatMap_cons,Nat.zero_mul,Qd,List.getElem?_append_left (by rw[hf];exact b)];rfl
  | succ k=>
   rw[List.flatMap_cons,List.getElem?_append_right (by rw[hf,Nat.add_mul];omega),hf,show (k+1)*n+j - n=k*n+j by rw[Nat.add_mul];omega,ih k j (by simpa using a) b];rfl
theorem rh{v:Value}(h:W.ownsRow base e size v n xs)(m:0<n):∃g a,v=.slice (some ⟨g,0,none⟩) n a/\n<=a/\a<=maxLen/\g<W.heap.size/\base<=g/\∀i,i<n*size->W.cell? ⟨g,i,none⟩=xs[i]?:=by
 obtain⟨o,h⟩:=h
 rcases h with⟨_,l⟩|⟨g,a,d,rfl,c,b,f,k,hs,j⟩
 ·omega
 ·refine⟨g,a,rfl,f,k,(gS b).1,c,λi hi=>?_⟩;rw[<- j,List.getElem?_take,if_pos hi];simp only[World.cell?,b]
  simp
theorem py{v:Value}(h:W.ownsRow base e size v n xs):∃b c,v=.slice b n c/\n<=c/\c<=maxLen:=by
 rcases h.2 with⟨rfl,rfl⟩|⟨g,a,d,rfl,j,k,f,i,_⟩
 ·exact⟨none,0,rfl,lR,by unfold maxLen;omega⟩
 ·exact⟨_,a,rfl,f,i⟩
def kh (W:World) (Q:Nat->Prop) (v:Value) (ds:List ap):Prop:=
 ∃ao c,v=.slice ao ds.length c/\ds.length<=maxLen/\(0<ds.length->∃b o,ao=some ⟨b,o,none⟩/\Q b/\b<W.heap.size/\∀k,k<ds.length->W.cell? ⟨b,o+k*2,none⟩=some (.string (aq ds k).kind)/\W.cell? ⟨b,o+k*2+1,none⟩=some (.int .i64 (aq ds k).many))
def jb (W:World) (Q:Nat->Prop) (v:Value) (xs:List Int):Prop:=
 ∃ao c,v=.slice ao xs.length c/\(xs.length<=c/\c<=maxLen)/\(0<xs.length->∃b o,ao=some ⟨b,o,none⟩/\Q b/\b<W.heap.size/\∀k,k<xs.length->W.cell? ⟨b,o+k,none⟩=some (.int .i64 (xs.getD k 0)))
theorem kh.plain(h:kh W Q v ds):bv W v ds:=by
 obtain⟨f,c,i,k,j⟩:=h;refine⟨f,c,i,k,λe=>?_⟩;obtain⟨b,o,g,_,a,d⟩:=j e;exact⟨b,o,g,a,d⟩
theorem jb.plain{e:List Int}(h:jb W Q v e):bD W v e:=by
 obtain⟨g,c,j,l,k⟩:=h;refine⟨g,c,j,l,λf=>?_⟩;obtain⟨b,o,i,_,a,d⟩:=k f;exact⟨b,o,i,a,d⟩
theorem kh.of{v:Value}(h:bv W v ds)(m:∃a n c,v=.slice a n c/\∀x:Addr,a=some x->N<=x.block)(k:∀b,N<=b->b<W.heap.size->Q b):kh W Q v ds:=by
 obtain⟨j,c,rfl,f,l⟩:=h;obtain⟨_,_,_,e,g⟩:=m;cases e;refine⟨j,c,rfl,f,λi=>?_⟩;obtain⟨b,o,d,Ha,Hb⟩:=l i;exact⟨b,o,d,k b (g _ d) Ha,Ha,Hb⟩
theorem jb.of{v:Value}{d:List Int}(h:bD W v d)(p:∃a n c,v=.slice a n c/\∀x:Addr,a=some x->N<=x.block)(l:∀b,N<=b->b<W.heap.size->Q b):jb W Q v d:=by
 obtain⟨k,c,rfl,g,m⟩:=h;obtain⟨_,_,_,e,i⟩:=p;cases e;refine⟨k,c,rfl,g,λj=>?_⟩;obtain⟨b,o,f,Ha,Hb⟩:=m j;exact⟨b,o,f,l b (i _ f) Ha,Ha,Hb⟩
theorem kh.apart(h:kh A Q v ds)(d:Apart K A B)(i:∀j,Q j->¬ K j)(n:∀j,j<A.heap.size->Q j->Q' j):kh B Q' v ds:=by
 obtain⟨m,c,q,g,r⟩:=h;refine⟨m,c,q,g,λl=>?_⟩;obtain⟨b,o,p,f,Hb,Hc⟩:=r l;have Ha:=d.block b Hb (i b f);exact⟨b,o,p,n b Hb f,Q1 Hb d.size,λk e=>⟨(World.cell?_of_block (a:=⟨b,o+k*2,none⟩) Ha).trans (Hc k e).1,(World.cell?_of_block (a:=⟨b,o+k*2+1,none⟩) Ha).trans (Hc k e).2⟩⟩
theorem jb.apart{e:List Int}(h:jb A Q v e)(d:Apart K A B)(l:∀j,Q j->¬ K j)(p:∀j,j<A.heap.size->Q j->Q' j):jb B Q' v e:=by
 obtain⟨n,c,r,i,s⟩:=h;refine⟨n,c,r,i,λm=>?_⟩;obtain⟨b,o,q,f,Ha,Hc⟩:=s m;have Hb:=d.block b Ha (l b f);exact⟨b,o,q,p b Ha f,Q1 Ha d.size,λk g=>(World.cell?_of_block (a:=⟨b,o+k,none⟩) Hb).trans (Hc k g)⟩
def kk (p:aB × Value):List Value:=di p.1 p.2
def jC (p:aR × Value):List Value:=[.int .u64 p.1.cp,p.2]
def ol (l:List (aB × Value)):List Value:=l.flatMap kk
def om (l:List (aR × Value)):List Value:=l.flatMap jC
structure Hp where
 nm:ByteArray
 pr:Int
 cl:List (aB × Value)
 gl:List (aR × Value)
 cv:Value
 gv:Value
def Hp.hd (p:Hp):af:=⟨⟨p.nm,p.pr,p.cl.map Prod.fst⟩,p.gl.map Prod.fst⟩
def fu (p:Hp):List Value:=[.string p.nm,.int .i64 p.pr,p.cv,p.gv]
def jc (l:List Hp):List Value:=l.flatMap fu
theorem Px(l:List (aB × Value))(p:aB × Value):ol (l++[p])=ol l++kk p:=by simp[ol]
theorem Py(l:List (aR × Value))(p:aR × Value):om (l++[p])=om l++jC p:=by simp[om]
theorem Da(l:List Hp)(p:Hp):jc (l++[p])=jc l++fu p:=by simp[jc]
def bY (base:Nat) (v:Value) (la:Hp) (j:Nat):Prop:=base<=j/\v.ownBlock≠some j/\la.cv.ownBlock≠some j/\la.gv.ownBlock≠some j
theorem lL(k:A.ownsRow base e size v n xs)(h:Apart K A B)(l:∀j,v.ownBlock=some j->¬ K j):B.ownsRow base e size v n xs:=by
 obtain⟨f,i⟩:=k;refine⟨f,i.imp id ?_⟩;rintro⟨g,a,b,rfl,d,c,r⟩;exact⟨g,a,b,rfl,d,(h.block g (gS c).1 (l g rfl)).trans c,r⟩
structure gJ (W:World) (base:Nat) (Q:Nat->Prop) (p:Hp):Prop where
 rc:W.ownsRow base 65 6 p.cv p.cl.length (ol p.cl)
 rg:W.ownsRow base 123 2 p.gv p.gl.length (om p.gl)
 nc:∀x∈p.cl,kh W Q x.2 x.1.ds
 ng:∀x∈p.gl,jb W Q x.2 x.1.dv/\x.1.cp<18446744073709551616
theorem gJ.apart{W':World}{p:Hp}(h:gJ W base Q p)(a:Apart K W W')(d:∀j,Q j->¬ K j)(c:∀j,j<W.heap.size->Q j->Q' j)
  (f:∀j,p.cv.ownBlock=some j->¬ K j) (e:∀j,p.gv.ownBlock=some j->¬ K j):gJ W' base Q' p:=
 ⟨lL h.rc a f,lL h.rg a e,λx b=>(h.nc x b).apart a d c,λx b=>⟨(h.ng x b).1.apart a d c,(h.ng x b).2⟩⟩
theorem Pz{p:Hp}(h:gJ W base Q p):aQ W p.cv (p.cl.map Prod.fst):=by
 obtain⟨n,c,d,l,e⟩:=py h.rc;refine⟨n,c,by rw[Q9];exact d,⟨by rw[Q9];exact l,e⟩,λb=>?_⟩;rw[Q9] at b;obtain⟨g,m,Hb,_,_,Hc,_,Ha⟩:=rh h.rc b;rw[d] at Hb;cases Hb;refine⟨g,0,λk=>(p.cl.getD k default).2,rfl,Hc,λk a=>?_⟩;rw[Q9] at a;have i:ae (p.cl.map Prod.fst) k=p.cl[k].1:=by simp[ae,a]
 have o:(p.cl.getD k default).2=p.cl[k].2:=by simp[a]
 rw[i];dsimp only;rw[o];refine⟨λj f=>?_,(h.nc _ (List.getElem_mem a)).plain⟩;rw[Qd,Ha _ (by omega)];exact rf kk 6 (λx=>rfl) p.cl k j a f
theorem PA{p:Hp}(h:gJ W base Q p):b7 W p.gv (p.gl.map Prod.fst):=by
 obtain⟨m,c,d,j,f⟩:=py h.rg;refine⟨m,c,by rw[Q9];exact d,⟨by rw[Q9];exact j,f⟩,λb=>?_⟩;rw[Q9] at b;obtain⟨g,l,Hb,_,_,Hc,_,Ha⟩:=rh h.rg b;rw[d] at Hb;cases Hb;refine⟨g,0,λk=>(p.gl.getD k default).2,rfl,Hc,λk a=>?_⟩;rw[Q9] at a;have i:aD (p.gl.map Prod.fst) k=p.gl[k].1:=by simp[aD,a]
 have n:(p.gl.getD k default).2=p.gl[k].2:=by simp[a]
 rw[i];dsimp only;rw[n];have e:=h.ng _ (List.getElem_mem a);refine⟨⟨?_,?_,e.2⟩,e.1.plain⟩
 ·have:=Ha (k*2+0) (by omega)
  rw[Qd];rw[Nat.add_zero] at this;rw[this];exact rf jC 2 (λx=>rfl) p.gl k 0 a (by omega)
 ·rw[Qd,Ha (k*2+1) (by omega)];exact rf jC 2 (λx=>rfl) p.gl k 1 a (by omega)
structure gK (W:World) (base:Nat) (v:Value) (el:List Hp) (la:Hp):Prop where
 row:W.ownsRow base 101 4 v (el.length+1) (jc (el++[la]))
 hel:∀p∈el,gJ W base (bY base v la) p/\(∀j,p.cv.ownBlock=some j->bY base v la j)/\(∀j,p.gv.ownBlock=some j->bY base v la j)
 hla:gJ W base (bY base v la) la
 vc:∀j,la.cv.ownBlock=some j->v.ownBlock≠some j
 vg:∀j,la.gv.ownBlock=some j->v.ownBlock≠some j
 cg:∀j,la.cv.ownBlock=some j->la.gv.ownBlock≠some j
theorem gK.plain{a:List Hp}{la:Hp}(h:gK W base v a la):aY W v ((a++[la]).map Hp.hd):=by
 obtain⟨o,c,e,m,f⟩:=py h.row;have Ha:((a++[la]).map Hp.hd).length=a.length+1:=by simp
 refine⟨o,c,by rw[Ha];exact e,⟨by rw[Ha];exact m,f⟩,λ_=>?_⟩;obtain⟨g,n,Hf,_,_,Hg,_,Hb⟩:=rh h.row (by omega);rw[e] at Hf;cases Hf;refine⟨g,0,λk=>((a++[la]).getD k la).cv,λk=>((a++[la]).getD k la).gv,rfl,Hg,λk b=>?_⟩;have He:k<(a++[la]).length:=by simpa using b
 have i:ag ((a++[la]).map Hp.hd) k=(a++[la])[k].hd:=by simp only[ag,List.getD_eq_getElem?_getD,List.getElem?_map,Qf He];rfl
 have p:(a++[la]).getD k la=(a++[la])[k]:=by rw[List.getD_eq_getElem?_getD,Qf He];rfl
 rw[i];dsimp only;rw[p];have Hc:gJ W base (bY base v la) (a++[la])[k]:=by
  rcases Qi.1 (List.getElem_mem He) with d|d
  ·exact (h.hel _ d).1
  ·rw[Qm.1 d];exact h.hla
 have Hh:k<a.length+1:=by rw[Ha] at b;exact b
 have cell:∀j,j<4->W.cell? ⟨g,0+k*4+j,none⟩=(fu (a++[la])[k])[j]?:=λj l=>by
  rw[Qd,Hb _ (by omega)];exact rf fu 4 (λx=>rfl) _ k j He l
 exact⟨⟨cell 0 (by omega),cell 1 (by omega),cell 2 (by omega),cell 3 (by omega)⟩,Pz Hc,PA Hc⟩
