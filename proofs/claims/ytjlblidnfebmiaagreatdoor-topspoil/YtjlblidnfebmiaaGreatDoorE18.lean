import Derived.Test.YtjlblidnfebmiaaGreatDoorE17
set_option maxRecDepth 100000
set_option maxHeartbeats 16000000
open Go Go.RowKit Go.Shelf
attribute [local go_sem] Oper.semAt_some
open Go.Proofs.Tryz
namespace Go.Proofs.YtjlblidnfebmiaaGreatDoor
variable {A B C W w:World} {K Q Q':Nat->Prop} {N b base g k n size wc:Nat} {P:Nat->Value} {R:Act->World->Prop} {a:Act} {ds:List ai} {e t:TypeId} {m:Int} {p:Bool} {ps ws:List (List UInt8)} {v:Value} {x:List UInt8} {xs:List Value} {y:ByteArray}
theorem mC {fn:Func} {p q:Tmp} {d c:TypeId} (h:fn.results=#[.cell p d,.cell q c]) (tmps:Array Value) (P:Program) (w:World) :
  (results fn tmps).run P w =
   ((asAddr (tmps.getD p undef)).run P w).andThen λa i=>((loadVar d a).run P i).andThen λv g=>((asAddr (tmps.getD q undef)).run P g).andThen λb f=>((loadVar c b).run P f).andThen λu e=>.ok (.tuple #[v,u]) e:=by
 simp only [results,h]
 simp [Sem.run_bind,Result.andThen]
theorem Apart.boxed (h:Apart K A B) (a:Boxed A b t v) (c:¬ K b):Boxed B b t v:=(h.block b a.lt c).trans a
theorem Apart.below (h:Apart K A B) (a:Below N w A) (c:N<=w) (d:∀ j,K j->N<=j):Below N w B:=
 ⟨h.os.trans a.os,h.tape.trans a.tape,h.output.trans a.output,Q5 a.size h.size,λj b=>(h.block j (Q1 (Q1 b c) a.size) (λe=>by have:=d j e;omega)).trans (a.block j b)⟩
theorem Apart.row (h:Apart K A B) (m:A.ownsRow base e size v n xs) (k:∀ j,K j->j<base):B.ownsRow base e size v n xs:=by
 obtain ⟨l,f⟩:=m;refine ⟨l,f.imp id ?_⟩;rintro ⟨g,b,a,i,d,c,r⟩;exact ⟨g,b,a,i,d,(h.block g (gS c).1 (λe=>by have:=k g e;omega)).trans c,r⟩
def nP (l:List Int):List Value:=l.map λ(n:Int)=>Value.int .i64 n
theorem Oe {a:List Int} (h:w.ownsRow base 3 1 v a.length (nP a)):bA w v a:=by
 obtain ⟨o,h⟩:=h
 rcases h with ⟨rfl,f⟩|⟨g,b,m,rfl,n,c,j,i,hs,e⟩
 ·exact ⟨none,0,by rw [f],⟨by omega,by unfold maxLen;omega⟩,λh=>by omega⟩
 ·refine ⟨_,b,rfl,⟨j,i⟩,λ_=>⟨g,0,rfl,(gS c).1,λk l=>?_⟩⟩;have d:(nP a)[k]?=some (.int .i64 (a.getD k 0)):=by simp [nP,l]
  rw [<- e,List.getElem?_take,if_pos (by omega)] at d;rw [Qd];simp only [World.cell?,c]
  simpa using d
def gT (ps:List (List UInt8)) (k:Nat):List Int:=(ps.take k).map nOf
theorem Of (h:k<ps.length):gT ps (k+1)=gT ps k++[nOf ps[k]]:=by
 unfold gT;rw [Qa h,Qj];rfl
theorem Og (h:k<=ps.length):(gT ps k).length=k:=by unfold gT;simp;omega
theorem Oh (h:∀ x∈ps,gOf x=true):im bT ps=some (ps.map nOf):=by induction ps <;> grind [im,kC]
theorem Oi (a:x∈ps) (h:gOf x=false):im bT ps=none:=by induction ps <;> grind [im,kC,gOf]
def Oj (w:World) (l:List UInt8) (e:Ending) (w':World):Prop:=
 ∃ v,e=.returned (.tuple #[v,.bool (bS bT l).isSome])/\(∀ xs,bS bT l=some xs->bA w' v xs)/\(∃ a n c,v=.slice a n c/\∀ x,a=some x->w.heap.size<=x.block)/\Below w w w'
theorem qH (c:UInt8) (s:List UInt8):(dL c s).length=(aG c s).length:=by simp [dL]
theorem Ct (c:UInt8) (s:List UInt8) (k:Nat) (a:k<(aG c s).length):(dL c s)[k]'(by rw [qH];exact a)=#[Value.string ⟨((aG c s)[k]).toArray⟩]:=by simp [dL]
theorem wS:(prog.info? 3).map (λi=>(i.zero,i.size,i.bytes))=some (some (.int .i64 0),1,8):=by kernel_rfl
theorem fj {v:Value} (h:w.ownsRow base e size v n xs):∃ d c,v=.slice d n c:=by
 rcases h.2 with ⟨rfl,a⟩|⟨g,f,b,rfl,_⟩
 ·exact ⟨none,0,by rw [a]⟩
 ·exact ⟨_,_,rfl⟩
theorem Cu {d:Option Addr} {m c:Nat} (h:w.ownsRow base e size (.slice d m c) n xs) (x:Addr) (b:d=some x):base<=x.block:=by
 rcases h.2 with ⟨a,_⟩|⟨g,j,i,a,f,_⟩
 ·subst b;cases a
 ·subst b;injection a with h2 _ _
  injection h2 with h3
  rw [h3];exact f
theorem bA.apart {v:Value} {g:List Int} (h:bA A v g) (r:∃ a n c,v=.slice a n c/\∀ x,a=some x->N<=x.block) (d:Apart K A B) (s:∀ j,K j->j<N):bA B v g:=by
 obtain ⟨p,c,rfl,m,u⟩:=h;obtain ⟨_,_,_,e,t⟩:=r;cases e;refine ⟨p,c,rfl,m,λi=>?_⟩;obtain ⟨b,o,f,Hb,Hc⟩:=u i;have l:=t _ f;have Ha:=d.block b Hb (λe=>by have:=s b e;simp at l;omega);exact ⟨b,o,f,Q1 Hb d.size,λk q=>(World.cell?_of_block (a:=⟨b,o+k,none⟩) Ha).trans (Hc k q)⟩
theorem wT {o:Obj} (h:w.ownsRow base e size v n xs) (a:(w.alloc o).grownBy W v.ownBlock):Apart (λj=>base<=j) w W:=by
 refine (Apart.alloc _ w o).trans ⟨a.os,a.tape,a.output,a.size,λj c b=>a.block j c λe=>b (h.lt j e.symm).1⟩
structure RInv (w A:World) (ps:List (List UInt8)) (k:Nat) (W:World):Prop where
 le:k<=ps.length
 b0:Boxed W w 347 (.func (.func 247) #[] #[])
 b1:Boxed W (w.heap.size+1) 46 (.slice none 0 0)
 b2:Boxed W (w.heap.size+1+1) 4 false
 row:∃ v,Boxed W (w.heap.size+1+1+1) 46 v/\W.ownsRow (A.heap.size+2) 3 1 v (gT ps k).length (nP (gT ps k))
 below:Below w w W
 good:∀ x∈ps.take k,gOf x=true
theorem RInv.apart (h:RInv w A ps k B) (n:A=w.heap.size+1+1+1+1+3) (a:Apart (λj=>KSp (w.heap.size+1+1+1+1) j\/j=A.heap.size+1) B C):RInv w A ps k C:=by
 obtain ⟨g,f,e,d,⟨v,c,l⟩,m,i⟩:=h;exact ⟨g,a.boxed f (by unfold KSp;omega),a.boxed e (by unfold KSp;omega),a.boxed d (by unfold KSp;omega),⟨v,a.boxed c (by unfold KSp;omega),a.row l (λj b=>by unfold KSp at b;omega)⟩,a.below m (lR) (λj b=>by unfold KSp at b;omega),i⟩
theorem Ok (s:ByteArray) (w:World) (hs:s.size<=100000) :
  Calls prog 252 #[s,.func (.func 247) #[] #[]] w (Oj w s.data.toList):=by
 have hq:=wK s;obtain ⟨i0,hi,HV,HQ,HZ⟩:=info_parts wS;have Hj:=((((Q0 w w).alloc (lR) (.cells #[.func (.func 247) #[] #[]] 347)).alloc (by simp) (.cells #[.slice none 0 0] 46)).alloc (by simp;omega) (.cells #[false] 4))
 by_cases h:s.data.toList=[45]
 ·rw [Qc h] at hq;have t:Hu (bS bT s.data.toList=some []):=by unfold Hu bS;rw [if_pos h]
  clear Hj;have q:=((((Q0 w w).alloc (lR) (.cells #[.func (.func 247) #[] #[]] 347)).alloc (by simp) (.cells #[.slice none 0 0] 46)).alloc (by simp;omega) (.cells #[true] 4));have HB:=qI q;clear q
  go_enter func252,ntmps252
  go_wp2_with fail
  (try simp only [Exit.inBlock,Exit.then]);refine bodyPost_ret (v:=.tuple #[.slice none 0 0,true]) ?_ rfl ⟨.slice none 0 0,by rw [t.o];rfl,λxs b=>?_,⟨_,_,_,rfl,λx b=>by cases b⟩,HB.o⟩
  ·rw [mC rfl];go_simp
  ·rw [t.o] at b;cases b;exact ⟨none,0,rfl,⟨by simp,by unfold maxLen;omega⟩,λh=>by simp at h⟩
 ·rw [Q7 h] at hq;have F:=qI Hj;clear Hj;have x3:=((Boxed.new w 347 (.func (.func 247) #[] #[])).alloc (.cells #[.slice none 0 0] 46)).alloc (.cells #[false] 4) |>.alloc (.cells #[.slice none 0 0] 46);have Q:=((Boxed.new (w.alloc (.cells #[.func (.func 247) #[] #[]] 347)) 46 (.slice none 0 0)).alloc (.cells #[false] 4)).alloc (.cells #[.slice none 0 0] 46);have L:=(Boxed.new ((w.alloc (.cells #[.func (.func 247) #[] #[]] 347)).alloc (.cells #[.slice none 0 0] 46)) 4 false).alloc (.cells #[.slice none 0 0] 46);have x6:=Boxed.new (((w.alloc (.cells #[.func (.func 247) #[] #[]] 347)).alloc (.cells #[.slice none 0 0] 46)).alloc (.cells #[false] 4)) 46 (.slice none 0 0);simp only [World.size_alloc] at Q L x6;have H:=qI (F.o.alloc (by simp;omega) (.cells #[.slice none 0 0] 46));have HK:((((w.alloc (.cells #[.func (.func 247) #[] #[]] 347)).alloc (.cells #[.slice none 0 0] 46)).alloc (.cells #[false] 4)).alloc (.cells #[.slice none 0 0] 46)).heap.size=w.heap.size+1+1+1+1:=by simp
  have X:=qI x3;have I:=qI Q;have N:=qI L;have U:=qI x6;clear x3 Q L x6 F;refine (callsIn_wide (n:=3)).1 ?_;refine callsIn_of_wp_marks func252 rfl trivial ?_ rfl;simp only [ntmps252,List.size_toArray,Qg,List.length_nil,Nat.reduceAdd,Nat.reduceSub,Array.replicate_succ,Array.replicate_zero,List.push_toArray,List.append_toArray,List.nil_append,List.cons_append]
  gi_wp2_with fail
  generalize (((w.alloc (.cells #[.func (.func 247) #[] #[]] 347)).alloc (.cells #[.slice none 0 0] 46)).alloc (.cells #[false] 4)).alloc (.cells #[.slice none 0 0] 46)=V at *;refine ⟨trivial,(callsIn_wide.2 (AZ s 44 V)).mono ?_⟩;rintro e A ⟨rfl,Hs,Ho,Hq⟩;have HH:=qI (H.o.trans (Ho.mono H.o.size));have P:=qI (show Boxed A _ _ _ from (Ho.block _ X.o.lt).trans X.o);have M:=qI (show Boxed A _ _ _ from (Ho.block _ I.o.lt).trans I.o);have Z:=qI (show Boxed A _ _ _ from (Ho.block _ N.o.lt).trans N.o);have S:=qI (show Boxed A _ _ _ from (Ho.block _ U.o.lt).trans U.o);have Hf:=A3 2 (by omega) V 44 s.data.toList A Hs (by simp;omega);rw [HK] at Hq Hf ⊢;clear Ho X I N U H Hs HK
  gi_wp2_with fail
  have t:Hu (bS bT s.data.toList=im bT (aG 44 s.data.toList)):=by unfold Hu bS;rw [if_neg h]
  have Hx:=qI (oZ 44 s.data.toList);have HP:=qI (ti 44 s.data.toList);have H5:s.data.toList.length=s.size:=by simp
  generalize hgl:s.data.toList=sl at *;generalize hps:aG 44 sl=a at *;have Hy:Hu (∀ k,(f:k<a.length)->∃ H0:k<(dL 44 sl).length,(dL 44 sl)[k]=#[Value.string ⟨(a.getD k []).toArray⟩]):=λk f=>by
   subst hps;exact ⟨by rw [qH];exact f,by rw [Ct _ _ _ f];simp [f]⟩
  have Hz:Hu ((dL 44 sl).length=a.length):=by unfold Hu;rw [qH,hps]
  have Ht:Hu (∀ x∈dL 44 sl,x.size=1):=by
   intro x b;obtain ⟨y,_,rfl⟩:=Qk.1 b;rfl
  have H2:=HH.o.size;clear hps h hq;refine vR rfl (by omega) (gf:=322) rfl trivial (enters_of func322 (by kernel_rfl) rfl) (K:=KSp (w.heap.size+1+1+1+1)) (ts:=dL 44 sl) (λj d=>by unfold KSp at d;omega) Hf Ht.o
   (λk W=>RInv w A a k W) (λc W=>c=.ret/\Boxed W (w.heap.size+1) 46 (.slice none 0 0)/\Boxed W (w.heap.size+1+1) 4 false/\Below w w W/\bS bT sl=none)
   (λk B C hi Hb=>hi.apart Hq Hb) (λc B C b Hb=>⟨b.1,Hb.boxed b.2.1 (by unfold KSp;omega),Hb.boxed b.2.2.1 (by unfold KSp;omega),Hb.below b.2.2.2.1 (lR) (λj d=>by unfold KSp at d;omega),b.2.2.2.2⟩)
   ⟨Nat.zero_le _,P.o,M.o,Z.o,⟨_,S.o,Qw _ _ _ _⟩,HH.o,by simp⟩
   (λk=>{ tmps:=#[Value.string s,Value.func (Fn.func 247) #[] #[],undef,Value.pointer (some ⟨w,0,none⟩),Value.pointer (some ⟨w.heap.size+1,0,none⟩),Value.pointer (some ⟨w.heap.size+1+1,0,none⟩),Value.pointer (some ⟨w.heap.size+1+1+1,0,none⟩),Value.string ⟨(a.getD k []).toArray⟩,undef,undef,Value.string s,Value.bool false,Value.string s,Value.func (Fn.func 322) #[] #[Value.pointer (some ⟨w.heap.size+1+1+1+1+1,0,none⟩),Value.pointer (some ⟨w.heap.size+1+1+1+1,0,none⟩),Value.pointer (some ⟨w.heap.size+1+1+1+1+2,0,none⟩)],Value.string ⟨(a.getD k []).toArray⟩,undef,undef,undef,undef,undef,undef,undef,undef,undef,undef,undef,undef,undef],defers:=[] }) ?assign ?body ?done ?stop
  case assign=>
   intro l k f W R hR;rw [Hz.o] at f;obtain ⟨H0,e⟩:=Hy.o k f;rw [e];clear e;generalize a.getD k []=x at *
   gi_wp2_with fail
   exact hR
  case body=>
   intro l k W f H1 E;rw [Hz.o] at f;obtain ⟨h1,G,Hl,Hm,⟨v,Hj,Hc⟩,Hh,Ha⟩:=E;have J:a.getD k []∈a:=by simp [f]
   have H3:=Hx.o _ J;have HW:Hu (a.take (k+1)=a.take k++[a.getD k []]):=by unfold Hu;rw [Qa f];simp [f]
   have HY:Hu (gT a (k+1)=gT a k++[nOf (a.getD k [])]):=by unfold Hu;rw [Of f];simp [f]
   have HU:=qI (Og h1);have H4:=HP.o;have HG:Hu (gOf (a.getD k [])=false->bS bT sl=none):=λo=>by rw [t.o];exact Oi J o
   generalize a.getD k []=x at *;have i:=qI (qF ⟨x.toArray⟩ W (by unfold maxLen;show x.length<=_;omega));rw [show (ByteArray.mk x.toArray).data.toList=x by simp] at i;have c0:=G.cell;have Hw:=qI Hl;have Hv:=qI Hm;have F:=qI Hj;have HX:=qI G;have Hp:=qI Hc;have Hi:=qI Hh;have Hr:=qI Ha;generalize nOf x=D at *;clear Ha Hh Hf Hy Ht Hx J
   rcases two (gOf x) with o|o
   ·rw [o] at i;have c3:=Hj.cell;have HO:(gT a k).length+1<=200000:=by rw [HU.o];omega
    obtain ⟨m,vc,hv⟩:∃ ao c,v=.slice ao (gT a k).length c:=by
     rcases Hc.2 with ⟨rfl,h0⟩|⟨g,ha,hc,rfl,_⟩
     ·exact ⟨none,0,by rw [h0]⟩
     ·exact ⟨_,_,rfl⟩
    generalize gT a k=ns at *;subst hv
    gi_wp2_with fail
    refine ⟨trivial,(CallsIn.inRound l (callsIn_wide.2 i.o)).mono ?_⟩;rintro e r ⟨rfl,rfl⟩
    gi_wp2_with (gi_at_builtin;refine wpListIn_append_own_at _ rfl _ _ 46 rfl (A.heap.size+2) 3 i0 (0:Int) 1 8 underlying46 hi HV HQ HZ rfl (by decide) _ _ _ rfl (Hc.alloc _) ⟨_,0,none⟩ 1 1 [.int .i64 D] rfl rfl (cell_one_new _ _ _) (by intro u hu;simp at hu;subst hu;rfl) (by unfold maxLen;omega) (by omega) (by simp;omega) ?_;intro v' O Hk Hg _ _;obtain ⟨na,nc,rfl⟩:=fj Hk;have HT:(r.alloc (.cells #[(D:Int)] 3)).grownBy O (Value.slice m ns.length vc).ownBlock:=Hg;clear Hg;have HI:=wT Hc HT;have Hn:=HI.boxed Hj (by omega);have he:=Hn.cell;have H6:=Hn.frozen)
    have Hb:Apart (λj=>A.heap.size+2<=j\/j=w.heap.size+1+1+1) r (O.setCell ⟨w.heap.size+1+1+1,0,none⟩ (.slice na (ns.length+1) nc)):=(HI.wide λ_=>.inl).trans (Apart.setCell (.inr rfl) _ _ _);refine ⟨λj d=>Hb.block j (by unfold KSp at d;omega) (by unfold KSp at d;omega),by omega,Hb.boxed HX.o (by omega),Hb.boxed Hw.o (by omega),Hb.boxed Hv.o (by omega),⟨_,Hn.set _,?_⟩,Hb.below Hi.o (lR) (λj d=>by omega),?_⟩
    ·rw [HY.o,show nP (ns++[D])=nP ns++[.int .i64 D] by simp [nP],Q2];exact (Apart.setCell (K:=λj=>j=w.heap.size+1+1+1) rfl O 0 _).row Hk (λj d=>by omega)
    ·rw [HW.o];intro y p
     rcases Qi.1 p with p|p
     ·exact Hr.o y p
     ·rw [Qm] at p;rw [p];exact o
   ·rw [o] at i;have HR:=qI (HG.o o);have f1:=Hl.frozen;have f2:=Hm.frozen;have c1:=Hl.cell;have c2:=Hm.cell
    gi_wp2_with fail
    refine ⟨trivial,(CallsIn.inRound l (callsIn_wide.2 i.o)).mono ?_⟩;rintro e r ⟨rfl,rfl⟩
    gi_wp2_with fail
    have Hb:Apart (λj=>j=w.heap.size+1\/j=w.heap.size+1+1) r ((r.setCell (w.heap.size+1:Nat) (.slice none 0 0)).setCell ⟨w.heap.size+1+1,0,none⟩ false):=(Apart.setCell (.inl rfl) _ _ _).trans (Apart.setCell (.inr rfl) _ _ _);exact ⟨λj d=>Hb.block j (by unfold KSp at d;omega) (by unfold KSp at d;omega),rfl,(Apart.setCell (K:=λj=>j=w.heap.size+1+1) rfl _ 0 _).boxed (Hw.o.set _) (by omega),((Apart.setCell (K:=λj=>j=w.heap.size+1) rfl _ 0 _).boxed Hv.o (by omega)).set _,Hb.below Hi.o (lR) (λj d=>by omega),HR.o⟩
  case done=>
   intro W E z;rw [Hz.o] at E;obtain ⟨_,G,Hl,Hm,⟨v,Hj,Hc⟩,Hh,Ha⟩:=E;have HS:Hu (bS bT sl=some (gT a a.length)):=by
    unfold Hu;rw [Qh] at Ha;rw [t.o,Oh Ha,gT,Qh]
   have Hp:=qI Hc;have c3:=Hj.cell;have c1:=Hl.cell;have c2:=Hm.cell;have f1:=Hl.frozen;have f2:=Hm.frozen;have Hi:=qI Hh;have Hw:=qI Hl;have Hv:=qI Hm;obtain ⟨m,vc,rfl⟩:=fj Hc;clear Ha Hh Hc Hf Hy Ht Hx;generalize gT a a.length=ns at *
   gi_wp2_with fail
   have Hb:Apart (λj=>j=w.heap.size+1\/j=w.heap.size+1+1) W ((W.setCell (w.heap.size+1:Nat) (.slice m ns.length vc)).setCell ⟨w.heap.size+1+1,0,none⟩ true):=(Apart.setCell (.inl rfl) _ _ _).trans (Apart.setCell (.inr rfl) _ _ _);have b1:=(Apart.setCell (K:=λj=>j=w.heap.size+1+1) rfl _ 0 true).boxed (Hw.o.set (.slice m ns.length vc)) (by omega);have b2:=((Apart.setCell (K:=λj=>j=w.heap.size+1) rfl W 0 (.slice m ns.length vc)).boxed Hv.o (by omega)).set true;have HM:=(Hb.block A (gS z).1 (by omega)).trans z;generalize (W.setCell (w.heap.size+1:Nat) (.slice m ns.length vc)).setCell ⟨w.heap.size+1+1,0,none⟩ true=T at *;have He:Apart (λj=>j=A.heap.size) T (T.putObj A (.deferred none)):=Apart.putObj (K:=λj=>j=A.heap.size) rfl _ _;have e1:=(He.boxed b1 (by omega)).cell;have e2:=(He.boxed b2 (by omega)).cell;have HJ:=qI (He.row (Hb.row Hp.o (λj d=>by omega)) (λj d=>by omega));have Y:=qI (He.below (Hb.below Hi.o (lR) (λj d=>by omega)) (lR) (λj d=>by omega));refine ⟨by simp,.inl ⟨_,_,rfl,run_takeDeferred HM,?_⟩⟩;refine ⟨.tuple #[.slice m ns.length vc,true],?_,.slice m ns.length vc,by rw [HS.o];rfl,λxs b=>?_,⟨_,_,_,rfl,λx b=>Q5 (by omega) (Cu HJ.o x b)⟩,Y.o⟩
   ·generalize T.putObj A (Obj.deferred none)=W6 at *;rw [mC rfl];go_simp
   ·rw [HS.o] at b;cases b;exact Oe HJ.o
  case stop=>
   rintro c W ⟨rfl,h4,h5,q,hn⟩ z;have c1:=h4.cell;have c2:=h5.cell;have i:=qI hn;have HB:=qI q;clear hn q Hf Hy Ht Hx
   gi_wp2_with fail
   have He:Apart (λj=>j=A.heap.size) W (W.putObj A (.deferred none)):=Apart.putObj (K:=λj=>j=A.heap.size) rfl _ _;have e1:=(He.boxed h4 (by omega)).cell;have e2:=(He.boxed h5 (by omega)).cell;have Y:=qI (He.below HB.o (lR) (λj d=>by omega));refine ⟨by simp,.inl ⟨_,_,rfl,run_takeDeferred z,?_⟩⟩;refine ⟨.tuple #[.slice none 0 0,false],?_,.slice none 0 0,by rw [i.o];rfl,λxs b=>?_,⟨_,_,_,rfl,λx b=>by cases b⟩,Y.o⟩
   ·generalize W.putObj A (Obj.deferred none)=W6 at *;rw [mC rfl];go_simp
   ·rw [i.o] at b;cases b
def lz (x:List UInt8):ai:=⟨⟨(aS 58 x).1.toArray⟩,nOf (aS 58 x).2.1⟩
def gN (x:List UInt8):Bool:=gOf (aS 58 x).2.1
theorem Cv (x:List UInt8):ce x=if gN x=true then some (lz x) else none:=by
 unfold ce gN lz;rw [kC];cases gOf (aS 58 x).2.1 <;> rfl
def it (ps:List (List UInt8)) (k:Nat):List ai:=(ps.take k).map lz
theorem Ol (h:k<ps.length):it ps (k+1)=it ps k++[lz ps[k]]:=by
 unfold it;rw [Qa h,Qj];rfl
theorem Om (h:k<=ps.length):(it ps k).length=k:=by unfold it;simp;omega
theorem On (h:∀ x∈ps,gN x=true):im ce ps=some (ps.map lz):=by induction ps <;> grind [im,Cv]
theorem Oo (a:x∈ps) (h:gN x=false):im ce ps=none:=by induction ps <;> grind [im,Cv,gN]
def nQ (d:ai):List Value:=[.string d.kind,.int .i64 d.many]
def lA (l:List ai):List Value:=l.flatMap nQ
theorem Oq (l:List ai) (d:ai):lA (l++[d])=lA l++nQ d:=by simp [lA]
theorem Ot:∀ (l:List ai) (k:Nat),k<l.length->(lA l)[k*2]?=some (.string (ak l k).kind)/\(lA l)[k*2+1]?=some (.int .i64 (ak l k).many):=by
 intro l
 induction l with
 | nil=>intro k a;simp at a
 | cons d r ih=>
  intro k a;cases k with
  | zero=>exact ⟨rfl,rfl⟩
  | succ k=>
   have h:=ih k (by simpa using a);have e:lA (d :: r)=.string d.kind :: .int .i64 d.many :: lA r:=rfl;rw [e,show (k+1)*2=k*2+1+1 by omega,List.getElem?_cons_succ,List.getElem?_cons_succ,List.getElem?_cons_succ,List.getElem?_cons_succ];exact h
theorem Ou {a:List ai} (h:w.ownsRow base 127 2 v a.length (lA a)):bO w v a:=by
 obtain ⟨p,h⟩:=h
 rcases h with ⟨rfl,c⟩|⟨g,b,n,rfl,o,e,l,j,hs,i⟩
 ·exact ⟨none,0,by rw [c],by rw [c];unfold maxLen;omega,λh=>by omega⟩
 ·refine ⟨_,b,rfl,Q5 l j,λ_=>⟨g,0,rfl,(gS e).1,λk m=>?_⟩⟩;obtain ⟨f,d⟩:=Ot a k m;rw [<- i,List.getElem?_take,if_pos (by omega)] at f d;rw [Qd];simp only [World.cell?,e];exact ⟨by simpa using f,by simpa using d⟩
theorem Ov {v:Value} {g:List ai} (h:bO A v g) (r:∃ a n c,v=.slice a n c/\∀ x,a=some x->N<=x.block) (d:Apart K A B) (s:∀ j,K j->j<N):bO B v g:=by
 obtain ⟨q,c,rfl,p,u⟩:=h;obtain ⟨_,_,_,e,t⟩:=r;cases e;refine ⟨q,c,rfl,p,λl=>?_⟩;obtain ⟨b,o,f,Hc,Hb⟩:=u l;have m:=t _ f;have Ha:=d.block b Hc (λe=>by have:=s b e;simp at m;omega);exact ⟨b,o,f,Q1 Hc d.size,λk i=>⟨(World.cell?_of_block (a:=⟨b,o+k*2,none⟩) Ha).trans (Hb k i).1,(World.cell?_of_block (a:=⟨b,o+k*2+1,none⟩) Ha).trans (Hb k i).2⟩⟩
def Ow (w:World) (l:List UInt8) (e:Ending) (w':World):Prop:=
 ∃ v,e=.returned (.tuple #[v,.bool (bS ce l).isSome])/\(∀ xs,bS ce l=some xs->bO w' v xs)/\(∃ a n c,v=.slice a n c/\∀ x,a=some x->w.heap.size<=x.block)/\Below w w w'
theorem Cw:(prog.info? 127).map (λi=>(i.zero,i.size,i.bytes))=some (some (.agg #[ByteArray.empty,(0:Int)]),2,24):=by kernel_rfl
theorem Ox (w:World) (d:ai) (t:TypeId):∀ j u,(nQ d)[j]?=some u->(w.alloc (.cells #[d.kind,(d.many:Int)] t)).cell? ((w.heap.size:Addr).add j)=some u:=by simp_all [Addr.add_lit,nQ]
theorem Oy (d:ai):∀ u∈nQ d,u.oneCell'=true:=by
 intro u a
 simp [nQ] at a
 rcases a with rfl|rfl <;> rfl
structure tm (w A:World) (ps:List (List UInt8)) (k:Nat) (W:World):Prop where
 le:k<=ps.length
 b0:Boxed W w 352 (.func (.func 250) #[] #[])
 b1:Boxed W (w.heap.size+1) 63 (.slice none 0 0)
 b2:Boxed W (w.heap.size+1+1) 4 false
 row:∃ v,Boxed W (w.heap.size+1+1+1) 63 v/\W.ownsRow (A.heap.size+2) 127 2 v (it ps k).length (lA (it ps k))
 below:Below w w W
 good:∀ x∈ps.take k,gN x=true
theorem tm.apart (h:tm w A ps k B) (n:A=w.heap.size+1+1+1+1+3) (a:Apart (λj=>KSp (w.heap.size+1+1+1+1) j\/j=A.heap.size+1) B C):tm w A ps k C:=by
 obtain ⟨g,f,e,d,⟨v,c,l⟩,m,i⟩:=h;exact ⟨g,a.boxed f (by unfold KSp;omega),a.boxed e (by unfold KSp;omega),a.boxed d (by unfold KSp;omega),⟨v,a.boxed c (by unfold KSp;omega),a.row l (λj b=>by unfold KSp at b;omega)⟩,a.below m (lR) (λj b=>by unfold KSp at b;omega),i⟩
abbrev mD:=λ(x0:ai)=>(.cells #[x0.kind,(x0.many:Int)] 127:Obj)
theorem Oz (s:ByteArray) (w:World) (hs:s.size<=100000) (hm:cO w) :
  Calls prog 249 #[s,.func (.func 250) #[] #[]] w (Ow w s.data.toList):=by
 have hq:=wK s;obtain ⟨i0,hi,H1,HX,H5⟩:=info_parts Cw;have Hj:=((((Q0 w w).alloc (lR) (.cells #[.func (.func 250) #[] #[]] 352)).alloc (by simp) (.cells #[.slice none 0 0] 63)).alloc (by simp;omega) (.cells #[false] 4))
 by_cases h:s.data.toList=[45]
 ·rw [Qc h] at hq;have t:Hu (bS ce s.data.toList=some []):=by unfold Hu bS;rw [if_pos h]
  clear Hj;have r:=((((Q0 w w).alloc (lR) (.cells #[.func (.func 250) #[] #[]] 352)).alloc (by simp) (.cells #[.slice none 0 0] 63)).alloc (by simp;omega) (.cells #[true] 4));have HB:=qI r;clear r
  go_enter func249,ntmps249
  go_wp2_with fail
  (try simp only [Exit.inBlock,Exit.then]);refine bodyPost_ret (v:=.tuple #[.slice none 0 0,true]) ?_ rfl ⟨.slice none 0 0,by rw [t.o];rfl,λxs b=>?_,⟨_,_,_,rfl,λx b=>by cases b⟩,HB.o⟩
  ·rw [mC rfl];go_simp
  ·rw [t.o] at b;cases b;exact ⟨none,0,rfl,by simp,λh=>by simp at h⟩
 ·rw [Q7 h] at hq;have Hy:=qI Hj;clear Hj;have x3:=((Boxed.new w 352 (.func (.func 250) #[] #[])).alloc (.cells #[.slice none 0 0] 63)).alloc (.cells #[false] 4) |>.alloc (.cells #[.slice none 0 0] 63);have S:=((Boxed.new (w.alloc (.cells #[.func (.func 250) #[] #[]] 352)) 63 (.slice none 0 0)).alloc (.cells #[false] 4)).alloc (.cells #[.slice none 0 0] 63);have L:=(Boxed.new ((w.alloc (.cells #[.func (.func 250) #[] #[]] 352)).alloc (.cells #[.slice none 0 0] 63)) 4 false).alloc (.cells #[.slice none 0 0] 63);have x6:=Boxed.new (((w.alloc (.cells #[.func (.func 250) #[] #[]] 352)).alloc (.cells #[.slice none 0 0] 63)).alloc (.cells #[false] 4)) 63 (.slice none 0 0);simp only [World.size_alloc] at S L x6;have F:=qI (Hy.o.alloc (by simp;omega) (.cells #[.slice none 0 0] 63));have HR:((((w.alloc (.cells #[.func (.func 250) #[] #[]] 352)).alloc (.cells #[.slice none 0 0] 63)).alloc (.cells #[false] 4)).alloc (.cells #[.slice none 0 0] 63)).heap.size=w.heap.size+1+1+1+1:=by simp
  have X3:=qI x3;have H:=qI S;have N:=qI L;have Y:=qI x6;clear x3 S L x6 Hy;refine (callsIn_wide (n:=3)).1 ?_;refine callsIn_of_wp_marks func249 rfl trivial ?_ rfl;simp only [ntmps249,List.size_toArray,Qg,List.length_nil,Nat.reduceAdd,Nat.reduceSub,Array.replicate_succ,Array.replicate_zero,List.push_toArray,List.append_toArray,List.nil_append,List.cons_append]
  gi_wp2_with fail
  generalize (((w.alloc (.cells #[.func (.func 250) #[] #[]] 352)).alloc (.cells #[.slice none 0 0] 63)).alloc (.cells #[false] 4)).alloc (.cells #[.slice none 0 0] 63)=V at *;refine ⟨trivial,(callsIn_wide.2 (AZ s 44 V)).mono ?_⟩;rintro e A ⟨rfl,Hw,Hp,Hr⟩;have HM:=qI (F.o.trans (Hp.mono F.o.size));have Q:=qI (show Boxed A _ _ _ from (Hp.block _ X3.o.lt).trans X3.o);have M:=qI (show Boxed A _ _ _ from (Hp.block _ H.o.lt).trans H.o);have hh:=qI (show Boxed A _ _ _ from (Hp.block _ N.o.lt).trans N.o);have T:=qI (show Boxed A _ _ _ from (Hp.block _ Y.o.lt).trans Y.o);have Hi:=A3 2 (by omega) V 44 s.data.toList A Hw (by simp;omega);rw [HR] at Hr Hi ⊢;clear Hp X3 H N Y F Hw HR
  gi_wp2_with fail
  have t:Hu (bS ce s.data.toList=im ce (aG 44 s.data.toList)):=by unfold Hu bS;rw [if_neg h]
  have Hz:=qI (oZ 44 s.data.toList);have HW:=qI (ti 44 s.data.toList);have he:s.data.toList.length=s.size:=by simp
  generalize hgl:s.data.toList=sl at *;generalize hps:aG 44 sl=a at *;have u:Hu (∀ k,(f:k<a.length)->∃ H6:k<(dL 44 sl).length,(dL 44 sl)[k]=#[Value.string ⟨(a.getD k []).toArray⟩]):=λk f=>by
   subst hps;exact ⟨by rw [qH];exact f,by rw [Ct _ _ _ f];simp [f]⟩
  have I:Hu ((dL 44 sl).length=a.length):=by unfold Hu;rw [qH,hps]
  have Hx:Hu (∀ x∈dL 44 sl,x.size=1):=by
   intro x b;obtain ⟨y,_,rfl⟩:=Qk.1 b;rfl
  have H8:=HM.o.size;clear hps h hq;refine vR rfl (by omega) (gf:=322) rfl trivial (enters_of func322 (by kernel_rfl) rfl) (K:=KSp (w.heap.size+1+1+1+1)) (ts:=dL 44 sl) (λj d=>by unfold KSp at d;omega) Hi Hx.o
   (λk W=>tm w A a k W) (λc W=>c=.ret/\Boxed W (w.heap.size+1) 63 (.slice none 0 0)/\Boxed W (w.heap.size+1+1) 4 false/\Below w w W/\bS ce sl=none)
   (λk B C hi Hc=>hi.apart Hr Hc) (λc B C b Hc=>⟨b.1,Hc.boxed b.2.1 (by unfold KSp;omega),Hc.boxed b.2.2.1 (by unfold KSp;omega),Hc.below b.2.2.2.1 (lR) (λj d=>by unfold KSp at d;omega),b.2.2.2.2⟩)
   ⟨Nat.zero_le _,Q.o,M.o,hh.o,⟨_,T.o,Qw _ _ _ _⟩,HM.o,by simp⟩
   (λk=>{ tmps:=#[Value.string s,Value.func (Fn.func 250) #[] #[],undef,Value.pointer (some ⟨w,0,none⟩),Value.pointer (some ⟨w.heap.size+1,0,none⟩),Value.pointer (some ⟨w.heap.size+1+1,0,none⟩),Value.pointer (some ⟨w.heap.size+1+1+1,0,none⟩),Value.string ⟨(a.getD k []).toArray⟩,undef,undef,Value.string s,Value.bool false,Value.string s,Value.func (Fn.func 322) #[] #[Value.pointer (some ⟨w.heap.size+1+1+1+1+1,0,none⟩),Value.pointer (some ⟨w.heap.size+1+1+1+1,0,none⟩),Value.pointer (some ⟨w.heap.size+1+1+1+1+2,0,none⟩)],Value.string ⟨(a.getD k []).toArray⟩,undef,undef,undef,undef,undef,undef,undef,undef,undef,undef,undef,undef,undef],defers:=[] }) ?assign ?body ?done ?stop
  case assign=>
   intro l k f W R hR;rw [I.o] at f;obtain ⟨H6,e⟩:=u.o k f;rw [e];clear e;generalize a.getD k []=x at *
   gi_wp2_with fail
   exact hR
  case body=>
   intro l k W f HV D;rw [I.o] at f;obtain ⟨h1,Hv,Hl,Hm,⟨v,Hj,Hb⟩,Hg,Ha⟩:=D;have J:a.getD k []∈a:=by simp [f]
   have ha:=Hz.o _ J;have H2:Hu (a.take (k+1)=a.take k++[a.getD k []]):=by unfold Hu;rw [Qa f];simp [f]
   have H4:Hu (it a (k+1)=it a k++[lz (a.getD k [])]):=by unfold Hu;rw [Ol f];simp [f]
   have H0:=qI (Om h1);have hc:=HW.o;have HK:Hu (gN (a.getD k [])=false->bS ce sl=none):=λo=>by rw [t.o];exact Oo J o
   generalize a.getD k []=x at *;have P:=NR ⟨x.toArray⟩ W (by show x.length<_;omega) (hm.below Hg);rw [show (ByteArray.mk x.toArray).data.toList=x by simp] at P;have p:Hu (Calls prog 250 #[.string ⟨x.toArray⟩] W λe w'=>e=.returned (.tuple #[.agg #[(lz x).kind,((lz x).many:Int)],.bool (gN x)])/\Below W W w'):=P;clear P;have c0:=Hv.cell;have E:=qI Hl;have HF:=qI Hm;have Hy:=qI Hj;have H3:=qI Hv;have Hq:=qI Hb;have Hk:=qI Hg;have Ht:=qI Ha;generalize lz x=g at *;clear Ha Hg Hi u Hx Hz J
   rcases two (gN x) with o|o
   ·rw [o] at p;have HU:(it a k).length+1<=200000:=by rw [H0.o];omega
    obtain ⟨m,vc,hv⟩:=fj Hb;generalize it a k=ns at *;subst hv
    gi_wp2_with fail
    refine ⟨trivial,(CallsIn.inRound l (callsIn_wide.2 p.o)).mono ?_⟩;rintro e i ⟨rfl,Hs⟩;have He:Apart (λ_=>False) W (i.alloc (mD g)):=(Apart.of_below Hs).trans (Apart.alloc _ _ _);have HQ:=He.row Hb λ_ h=>h.elim;have HC:=He.boxed Hj id;have c3:=HC.cell;have H7:A.heap.size+1<(i.alloc (mD g)).heap.size:=Q1 HV He.size;have hf:(i.alloc (mD g)).cell? i=some (.string g.kind):=by simp
    have H9:(i.alloc (mD g)).cell? ⟨i,1,none⟩=some (.int .i64 g.many):=by simp
    clear Hs c0 Hv Hl Hm Hj Hb;generalize hV2:i.alloc (mD g)=Z at *
    gi_wp2_with (gi_at_builtin;refine wpListIn_append_own_at _ rfl _ _ 63 rfl (A.heap.size+2) 127 i0 _ 2 24 underlying63 hi H1 HX H5 rfl (by decide) _ _ _ rfl (HQ.alloc _) ⟨_,0,none⟩ 1 1 (nQ g) rfl rfl (Ox _ _ _) (Oy g) (by unfold maxLen;omega) (by omega) (by simp;omega) ?_;intro v' O Hn Hh _ _;obtain ⟨na,nc,rfl⟩:=fj Hn;have HZ:(Z.alloc (mD g)).grownBy O (Value.slice m ns.length vc).ownBlock:=Hh;clear Hh;have HO:=(He.wide (K':=λj=>A.heap.size+2<=j) λ_ h=>h.elim).trans (wT HQ HZ);have Ho:=HO.boxed Hy.o (by omega);have ho:=Ho.cell;have hl:=Ho.frozen)
    have Hc:Apart (λj=>A.heap.size+2<=j\/j=w.heap.size+1+1+1) W (O.setCell ⟨w.heap.size+1+1+1,0,none⟩ (.slice na (ns.length+1) nc)):=(HO.wide λ_=>.inl).trans (Apart.setCell (.inr rfl) _ _ _);refine ⟨λj d=>Hc.block j (by unfold KSp at d;omega) (by unfold KSp at d;omega),by omega,Hc.boxed H3.o (by omega),Hc.boxed E.o (by omega),Hc.boxed HF.o (by omega),⟨_,Ho.set _,?_⟩,Hc.below Hk.o (lR) (λj d=>by omega),?_⟩
    ·rw [H4.o,Oq,Q2];exact (Apart.setCell (K:=λj=>j=w.heap.size+1+1+1) rfl O 0 _).row Hn (λj d=>by omega)
    ·rw [H2.o];intro y q
     rcases Qi.1 q with q|q
     ·exact Ht.o y q
     ·rw [Qm] at q;rw [q];exact o
   ·rw [o] at p;have HY:=qI (HK.o o)
    gi_wp2_with fail
    refine ⟨trivial,(CallsIn.inRound l (callsIn_wide.2 p.o)).mono ?_⟩;rintro e i ⟨rfl,Hs⟩;have He:Apart (λ_=>False) W (i.alloc (mD g)):=(Apart.of_below Hs).trans (Apart.alloc _ _ _);have X:=He.boxed Hl id;have G:=He.boxed Hm id;have f1:=X.frozen;have f2:=G.frozen;have c1:=X.cell;have c2:=G.cell;clear Hs c0 Hv Hl Hm Hj Hb;generalize hV2:i.alloc (mD g)=Z at *
    gi_wp2_with fail
    have Hc:Apart (λj=>j=w.heap.size+1\/j=w.heap.size+1+1) W ((Z.setCell (w.heap.size+1:Nat) (.slice none 0 0)).setCell ⟨w.heap.size+1+1,0,none⟩ false):=((He.wide λ_ h=>h.elim).trans (Apart.setCell (.inl rfl) _ _ _)).trans (Apart.setCell (.inr rfl) _ _ _);exact ⟨λj d=>Hc.block j (by unfold KSp at d;omega) (by unfold KSp at d;omega),rfl,(Apart.setCell (K:=λj=>j=w.heap.size+1+1) rfl _ 0 _).boxed (X.set _) (by omega),((Apart.setCell (K:=λj=>j=w.heap.size+1) rfl _ 0 _).boxed G (by omega)).set _,Hc.below Hk.o (lR) (λj d=>by omega),HY.o⟩
  case done=>
   intro W D z;rw [I.o] at D;obtain ⟨_,Hv,Hl,Hm,⟨v,Hj,Hb⟩,Hg,Ha⟩:=D;have HS:Hu (bS ce sl=some (it a a.length)):=by
    unfold Hu;rw [Qh] at Ha;rw [t.o,On Ha,it,Qh]
   have Hq:=qI Hb;have c3:=Hj.cell;have c1:=Hl.cell;have c2:=Hm.cell;have f1:=Hl.frozen;have f2:=Hm.frozen;have Hk:=qI Hg;have E:=qI Hl;have HF:=qI Hm;obtain ⟨m,vc,rfl⟩:=fj Hb;clear Ha Hg Hb Hi u Hx Hz;generalize it a a.length=ns at *
   gi_wp2_with fail
   have Hc:Apart (λj=>j=w.heap.size+1\/j=w.heap.size+1+1) W ((W.setCell (w.heap.size+1:Nat) (.slice m ns.length vc)).setCell ⟨w.heap.size+1+1,0,none⟩ true):=(Apart.setCell (.inl rfl) _ _ _).trans (Apart.setCell (.inr rfl) _ _ _);have b1:=(Apart.setCell (K:=λj=>j=w.heap.size+1+1) rfl _ 0 true).boxed (E.o.set (.slice m ns.length vc)) (by omega);have b2:=((Apart.setCell (K:=λj=>j=w.heap.size+1) rfl W 0 (.slice m ns.length vc)).boxed HF.o (by omega)).set true;have HT:=(Hc.block A (gS z).1 (by omega)).trans z;generalize (W.setCell (w.heap.size+1:Nat) (.slice m ns.length vc)).setCell ⟨w.heap.size+1+1,0,none⟩ true=U at *;have Hf:Apart (λj=>j=A.heap.size) U (U.putObj A (.deferred none)):=Apart.putObj (K:=λj=>j=A.heap.size) rfl _ _;have e1:=(Hf.boxed b1 (by omega)).cell;have e2:=(Hf.boxed b2 (by omega)).cell;have HP:=qI (Hf.row (Hc.row Hq.o (λj d=>by omega)) (λj d=>by omega));have HI:=qI (Hf.below (Hc.below Hk.o (lR) (λj d=>by omega)) (lR) (λj d=>by omega));refine ⟨by simp,.inl ⟨_,_,rfl,run_takeDeferred HT,?_⟩⟩;refine ⟨.tuple #[.slice m ns.length vc,true],?_,.slice m ns.length vc,by rw [HS.o];rfl,λxs b=>?_,⟨_,_,_,rfl,λx b=>Q5 (by omega) (Cu HP.o x b)⟩,HI.o⟩
   ·generalize U.putObj A (Obj.deferred none)=W6 at *;rw [mC rfl];go_simp
   ·rw [HS.o] at b;cases b;exact Ou HP.o
  case stop=>
   rintro c W ⟨rfl,h4,h5,r,hn⟩ z;have c1:=h4.cell;have c2:=h5.cell;have p:=qI hn;have HB:=qI r;clear hn r Hi u Hx Hz
   gi_wp2_with fail
   have Hf:Apart (λj=>j=A.heap.size) W (W.putObj A (.deferred none)):=Apart.putObj (K:=λj=>j=A.heap.size) rfl _ _;have e1:=(Hf.boxed h4 (by omega)).cell;have e2:=(Hf.boxed h5 (by omega)).cell;have HI:=qI (Hf.below HB.o (lR) (λj d=>by omega));refine ⟨by simp,.inl ⟨_,_,rfl,run_takeDeferred z,?_⟩⟩;refine ⟨.tuple #[.slice none 0 0,false],?_,.slice none 0 0,by rw [p.o];rfl,λxs b=>?_,⟨_,_,_,rfl,λx b=>by cases b⟩,HI.o⟩
   ·generalize W.putObj A (Obj.deferred none)=W6 at *;rw [mC rfl];go_simp
   ·rw [p.o] at b;cases b
def o7 (w:World) (b:Nat) (ws:List (List UInt8)):Prop:=b<w.heap.size/\∀ k,k<ws.length->w.cell? ⟨b,k,none⟩=some (.string ⟨(aj ws k).toArray⟩)
theorem o7.below {w':World} (h:o7 w b ws) (a:Below w w w'):o7 w' b ws:=
 ⟨Q1 h.1 a.size,λk c=>(a.cell (p:=⟨b,k,none⟩) h.1).trans (h.2 k c)⟩
theorem Cx (h:k<ws.length):aj ws k∈ws:=by simp [aj,h]
theorem Cy (b f:Nat) (ws:List (List UInt8)) (w:World) (h:o7 w b ws) (d:ws.length=3) (hs:∀ x∈ws,x.length<=10000) :
  Calls prog 192 #[.slice b 3 f] w λe w'=>e=.returned (.tuple #[.agg #[.string ⟨(aj ws 1).toArray⟩,(nOf (aj ws 2):Int),.slice none 0 0],.bool (gOf (aj ws 2))])/\Below w w w':=by
 have Ha:=qI ((Q0 w w).alloc (lR) (.cells #[.string ⟨#[]⟩,(0:Int),.slice none 0 0] 49));have a:=Ha.o;have c1:=((h.below a).2 1 (by omega));have c2:=((h.below a).2 2 (by omega));have c:=qI λW=>qF ⟨(aj ws 2).toArray⟩ W (by have:=hs _ (Cx (ws:=ws) (k:=2) (by omega));unfold maxLen;show (aj ws 2).length<=_;omega);rw [show (ByteArray.mk (aj ws 2).toArray).data.toList=aj ws 2 by simp] at c;generalize nOf (aj ws 2)=n at *;generalize gOf (aj ws 2)=g at *;generalize aj ws 1=x at *;generalize aj ws 2=y at *;clear h hs d a
 go_enter func192,ntmps192
 go_wp2_with fail
 refine (c.o _).mono ?_;rintro e i ⟨rfl,rfl⟩
 go_wp2_with fail
 (try simp only [Exit.inBlock,Exit.then]);refine bodyPost_ret (v:=.tuple #[.agg #[.string ⟨x.toArray⟩,(n:Int),.slice none 0 0],g]) ?_ rfl ⟨rfl,(Q0 _ _).alloc (lR) _⟩;rw [results_cell_tmp rfl];go_simp
def lB:Code->List Code
 | .seq a b=>lB a++lB b
 | .cond _ a b=>lB a++lB b
 | .block _ c=>lB c
 | .scope c=>lB c
 | .loop c=>lB c
 | .region i o d=>[.region i o d]
 | _=>[]
def FrV (G:(Nat->Value)->Act) (P:(Nat->Value)->World->Prop) (a:Act) (w:World):Prop:=∃ F,a=G F/\P F w
theorem FrV.mk {G:(Nat->Value)->Act} {P:(Nat->Value)->World->Prop} (h:a=G (λn=>a.tmps.getD n undef)) (b:P (λn=>a.tmps.getD n undef) w):FrV G P a w:=⟨_,h,b⟩
theorem aO {cs:Array Value} (h:W.heap[g]?=some (.cells cs t (0,0))) (i:Nat) (v:Value):(W.setCell ⟨g,i,none⟩ v).heap[g]?=some (.cells (cs.setIfInBounds i v) t (0,0)):=by
 obtain ⟨Ha,a⟩:=gS h
 show (W.heap.modify g _)[g]?=_
 rw [Array.getElem?_eq_getElem (by rw [Array.size_modify];exact Ha),Array.getElem_modify_self,a];rfl
theorem Cz {V:World} (h:Below N w.drew V):Below N w V:=⟨h.os,h.tape,h.output,h.size,h.block⟩
theorem cell_far {j i:Nat} {u:Value} (h:W.cell? ⟨b,j,none⟩=some u) (c:b≠g):(W.setCell ⟨g,i,none⟩ v).cell? ⟨b,j,none⟩=some u:=
 (World.cell?_of_block (a:=⟨b,j,none⟩) (Below.heap_setCell W ⟨g,i,none⟩ v b c)).trans h
def lC (R:Act->World->Prop):Exit->Act->World->Prop
 | .normal,a,w=>R a w
 | _,_,_=>False
theorem lC.mk (h:R a w):lC R .normal a w:=h
theorem CA {P:Program} {c:Code} {Q:Exit->Act->World->Prop} {a:Act} {w:World} (h:Code.wp P c (lC R) a w) (b:∀ a w,R a w->Q .normal a w):Code.wp P c Q a w:=
 wp_mono h λe a w h=>by
  cases e with
  | normal=>exact b _ _ h
  | _=>exact h.elim
noncomputable def CB:Code:=((Tryz.f193.body.map lB).getD []).getD 1 .skip
theorem OA {x:ByteArray} {n:Int} (w:World) (j:b<w) (l:w.cell? ⟨b,2,none⟩=some (.string x)) (k:w.cell? ⟨b,3,none⟩=some (.string y))
  (h:Hu (∀ W,Calls prog 248 #[x,y] W λe w'=>e=.returned (.tuple #[.agg #[(m:Int),n],p])/\Below W.heap.size W w')) :
  Code.wp prog CB (lC (FrV (λF=>{ tmps:=List.toArray (Value.slice b 9 wc :: undef :: P 2 :: P 3 :: P 4 :: F 5 :: F 6 :: undef :: undef :: undef :: undef :: undef :: undef :: undef :: undef :: undef :: undef :: F 17 :: F 18 :: F 19 :: F 20 :: F 21 :: F 22 :: F 23 :: F 24 :: F 25 :: F 26 :: undef :: undef :: undef :: undef :: undef :: undef :: undef :: undef :: undef :: undef :: undef :: undef :: undef :: undef :: undef :: undef :: undef :: undef :: undef :: undef :: undef :: undef :: undef :: undef :: undef :: undef :: undef :: undef :: undef :: undef :: undef :: undef :: undef :: undef :: undef :: undef :: undef :: undef :: undef :: undef :: undef :: undef :: undef :: undef :: undef :: undef :: undef :: undef :: undef :: undef :: undef :: undef :: undef :: undef :: undef :: undef :: []),defers:=[] }) λF W'=>∃ B,F 5=.pointer (some ⟨B,0,none⟩)/\F 6=.bool p/\Below w w W'/\w.heap.size<=B/\W'.heap[B]?=some (.cells #[(m:Int),n] 62 (0,0))))
   { tmps:=List.toArray (Value.slice b 9 wc :: undef :: P 2 :: P 3 :: P 4 :: undef :: undef :: undef :: undef :: undef :: undef :: undef :: undef :: undef :: undef :: undef :: undef :: undef :: undef :: undef :: undef :: undef :: undef :: undef :: undef :: undef :: undef :: undef :: undef :: undef :: undef :: undef :: undef :: undef :: undef :: undef :: undef :: undef :: undef :: undef :: undef :: undef :: undef :: undef :: undef :: undef :: undef :: undef :: undef :: undef :: undef :: undef :: undef :: undef :: undef :: undef :: undef :: undef :: undef :: undef :: undef :: undef :: undef :: undef :: undef :: undef :: undef :: undef :: undef :: undef :: undef :: undef :: undef :: undef :: undef :: undef :: undef :: undef :: undef :: undef :: undef :: undef :: undef :: []),defers:=[] } w:=by
 conv=>enter [2];unfold CB;whnf
 have f:Hu (w.drew.cell? ⟨b,2,none⟩=some (.string x)/\w.drew.cell? ⟨b,3,none⟩=some (.string y)):=qI ⟨l,k⟩;have g:=qI j;clear l k j;refine wp_region_held_drew (S:=(λw'=>w'.cell? ⟨b,2,none⟩=some (.string x)/\w'.cell? ⟨b,3,none⟩=some (.string y))) (by kernel_rfl) f.o λd=>?_;refine tk 0 ?_;refine tk 1 ?_;refine tk 2 ?_;refine tk 3 ?_;refine tk 4 ?_;refine tk 5 ?_;refine rd2 6 10 (λK a=>?o6) λK a=>?o10
 case o6=>
  go_simp
  go_wp2_with fail
  refine (h.o _).mono ?_;rintro e c ⟨rfl,Ha⟩;have Hc:=qI Ha;have Hb:=qI (show c.cell? ⟨b,2,none⟩=some (.string x)/\c.cell? ⟨b,3,none⟩=some (.string y) from ⟨(Ha.cell (p:=⟨b,2,none⟩) g.o).trans f.o.1,(Ha.cell (p:=⟨b,3,none⟩) g.o).trans f.o.2⟩);clear Ha
  go_wp2_with fail
  refine a.o _ _ Hb.o λd=>?_;clear a K;refine tk 7 ?_;refine tk 8 ?_;refine tk 9 ?_;refine rd 10 λK a=>?_;go_simp
  go_wp2_with fail
  refine a.o _ _ ⟨de Hb.o.1 (.cells #[(0:Int),(0:Int)] 62),de Hb.o.2 (.cells #[(0:Int),(0:Int)] 62)⟩ λd=>?_;clear a K;refine rd 11 λK a=>?_;go_simp
  go_wp2_with fail
  refine a.o _ _ ⟨de Hb.o.1 (.cells #[(m:Int),n] 62),de Hb.o.2 (.cells #[(m:Int),n] 62)⟩ λd=>?_;clear a K;refine tk 12 ?_;refine Qn (by kernel_rfl) ?_ _;refine lC.mk (FrV.mk (by kernel_rfl) ?_);refine ⟨c,rfl,rfl,?_,?_,?_⟩
  ·exact (Cz Hc.o).alloc Hc.o.size _
  ·exact Hc.o.size
  ·exact heap_alloc_new c _
 case o10=>
  go_simp
  go_wp2_with fail
  have Hg:=qI (show Below w w (w.alloc (.cells #[(0:Int),(0:Int)] 62)).drew from jq ((Q0 w w).alloc (lR) (.cells #[(0:Int),(0:Int)] 62)));have Hk:=qI (show (w.alloc (.cells #[(0:Int),(0:Int)] 62)).drew.cell? ⟨b,2,none⟩=some (.string x)/\(w.alloc (.cells #[(0:Int),(0:Int)] 62)).drew.cell? ⟨b,3,none⟩=some (.string y) from ⟨de f.o.1 (.cells #[(0:Int),(0:Int)] 62),de f.o.2 (.cells #[(0:Int),(0:Int)] 62)⟩);have Hm:(w.alloc (.cells #[(0:Int),(0:Int)] 62)).drew.heap[w.heap.size]?=some (.cells #[(0:Int),(0:Int)] 62):=heap_alloc_new w _;have Hf:w.heap.size<(w.alloc (.cells #[(0:Int),(0:Int)] 62)).drew.heap.size:=by simp
  have Hh:b<(w.alloc (.cells #[(0:Int),(0:Int)] 62)).drew.heap.size:=Nat.lt_trans g.o Hf;refine a.o _ _ Hk.o λd=>?_;clear a K;generalize (w.alloc (.cells #[(0:Int),(0:Int)] 62)).drew=q at *;refine rd 6 λK a=>?_;go_simp
  go_wp2_with fail
  refine (h.o _).mono ?_;rintro e c ⟨rfl,Ha⟩;have Hc:=qI Ha;have Hb:=qI (show c.cell? ⟨b,2,none⟩=some (.string x)/\c.cell? ⟨b,3,none⟩=some (.string y) from ⟨(Ha.cell (p:=⟨b,2,none⟩) Hh).trans Hk.o.1,(Ha.cell (p:=⟨b,3,none⟩) Hh).trans Hk.o.2⟩);clear Ha
  go_wp2_with fail
  refine a.o _ _ Hb.o λd=>?_;clear a K;refine tk 7 ?_;refine tk 8 ?_;refine tk 9 ?_;have Hi:c.heap[w.heap.size]?=some (.cells #[(0:Int),(0:Int)] 62):=(Hc.o.block _ Hf).trans Hm;have Hj:=aO Hi 0 (m:Int);have Hl:=aO Hj 1 n;have o:c.cell? w=some (.int .i64 0):=by simp [World.cell?,Hi]
  have f0:c.frozen? w=false:=by simp [World.frozen?,Hi]
  have r:(c.setCell w (m:Int)).cell? ⟨w,1,none⟩=some (.int .i64 0):=by simp [World.cell?,Hj]
  have f1:(c.setCell w (m:Int)).frozen? ⟨w,1,none⟩=false:=by simp [World.frozen?,Hj]
  have He:b≠w:=by have:=g.o;omega
  have Hn:=qI (And.intro (cell_far (cell_far Hb.o.1 (i:=0) (v:=.int .i64 m) He) (i:=1) (v:=.int .i64 n) He) (cell_far (cell_far Hb.o.2 (i:=0) (v:=.int .i64 m) He) (i:=1) (v:=.int .i64 n) He));have Ho:=qI Hl;clear Hi Hj Hl Hm He;refine rd 11 λK a=>?_;go_simp
  go_wp2_with fail
  refine a.o _ _ Hn.o λd=>?_;clear a K;refine tk 12 ?_;refine Qn (by kernel_rfl) ?_ _;refine lC.mk (FrV.mk (by kernel_rfl) ?_);refine ⟨w,rfl,rfl,?_,lR,Ho.o⟩;exact (((Hg.o.trans (Hc.o.mono Hg.o.size)).setCell (p:=w.heap.size) (lR) _).setCell (p:=⟨w,1,none⟩) (lR) _)
noncomputable def CC:Code:=((Tryz.f193.body.map lB).getD []).getD 2 .skip
theorem OB {x:ByteArray} {n:Int} (w:World) (j:b<w) (l:w.cell? ⟨b,4,none⟩=some (.string x)) (k:w.cell? ⟨b,5,none⟩=some (.string y))
  (h:Hu (∀ W,Calls prog 248 #[x,y] W λe w'=>e=.returned (.tuple #[.agg #[(m:Int),n],p])/\Below W.heap.size W w')) :
  Code.wp prog CC (lC (FrV (λF=>{ tmps:=List.toArray (Value.slice b 9 wc :: undef :: P 2 :: P 3 :: P 4 :: P 5 :: P 6 :: F 7 :: F 8 :: undef :: undef :: undef :: undef :: undef :: undef :: undef :: undef :: P 17 :: P 18 :: P 19 :: P 20 :: P 21 :: P 22 :: P 23 :: P 24 :: P 25 :: P 26 :: F 27 :: F 28 :: F 29 :: F 30 :: F 31 :: F 32 :: F 33 :: F 34 :: F 35 :: F 36 :: undef :: undef :: undef :: undef :: undef :: undef :: undef :: undef :: undef :: undef :: undef :: undef :: undef :: undef :: undef :: undef :: undef :: undef :: undef :: undef :: undef :: undef :: undef :: undef :: undef :: undef :: undef :: undef :: undef :: undef :: undef :: undef :: undef :: undef :: undef :: undef :: undef :: undef :: undef :: undef :: undef :: undef :: undef :: undef :: undef :: undef :: []),defers:=[] }) λF W'=>∃ B,F 7=.pointer (some ⟨B,0,none⟩)/\F 8=.bool p/\Below w w W'/\w.heap.size<=B/\W'.heap[B]?=some (.cells #[(m:Int),n] 62 (0,0))))
   { tmps:=List.toArray (Value.slice b 9 wc :: undef :: P 2 :: P 3 :: P 4 :: P 5 :: P 6 :: undef :: undef :: undef :: undef :: undef :: undef :: undef :: undef :: undef :: undef :: P 17 :: P 18 :: P 19 :: P 20 :: P 21 :: P 22 :: P 23 :: P 24 :: P 25 :: P 26 :: undef :: undef :: undef :: undef :: undef :: undef :: undef :: undef :: undef :: undef :: undef :: undef :: undef :: undef :: undef :: undef :: undef :: undef :: undef :: undef :: undef :: undef :: undef :: undef :: undef :: undef :: undef :: undef :: undef :: undef :: undef :: undef :: undef :: undef :: undef :: undef :: undef :: undef :: undef :: undef :: undef :: undef :: undef :: undef :: undef :: undef :: undef :: undef :: undef :: undef :: undef :: undef :: undef :: undef :: undef :: undef :: []),defers:=[] } w:=by
 conv=>enter [2];unfold CC;whnf
 have f:Hu (w.drew.cell? ⟨b,4,none⟩=some (.string x)/\w.drew.cell? ⟨b,5,none⟩=some (.string y)):=qI ⟨l,k⟩;have g:=qI j;clear l k j;refine wp_region_held_drew (S:=(λw'=>w'.cell? ⟨b,4,none⟩=some (.string x)/\w'.cell? ⟨b,5,none⟩=some (.string y))) (by kernel_rfl) f.o λd=>?_;refine tk 0 ?_;refine tk 1 ?_;refine tk 2 ?_;refine tk 3 ?_;refine tk 4 ?_;refine tk 5 ?_;refine rd2 6 10 (λK a=>?o6) λK a=>?o10
 case o6=>
  go_simp
  go_wp2_with fail
  refine (h.o _).mono ?_;rintro e c ⟨rfl,Ha⟩;have Hc:=qI Ha;have Hb:=qI (show c.cell? ⟨b,4,none⟩=some (.string x)/\c.cell? ⟨b,5,none⟩=some (.string y) from ⟨(Ha.cell (p:=⟨b,4,none⟩) g.o).trans f.o.1,(Ha.cell (p:=⟨b,5,none⟩) g.o).trans f.o.2⟩);clear Ha
  go_wp2_with fail
  refine a.o _ _ Hb.o λd=>?_;clear a K;refine tk 7 ?_;refine tk 8 ?_;refine tk 9 ?_;refine rd 10 λK a=>?_;go_simp
  go_wp2_with fail
  refine a.o _ _ ⟨de Hb.o.1 (.cells #[(0:Int),(0:Int)] 62),de Hb.o.2 (.cells #[(0:Int),(0:Int)] 62)⟩ λd=>?_;clear a K;refine rd 11 λK a=>?_;go_simp
  go_wp2_with fail
  refine a.o _ _ ⟨de Hb.o.1 (.cells #[(m:Int),n] 62),de Hb.o.2 (.cells #[(m:Int),n] 62)⟩ λd=>?_;clear a K;refine tk 12 ?_;refine Qn (by kernel_rfl) ?_ _;refine lC.mk (FrV.mk (by kernel_rfl) ?_);refine ⟨c,rfl,rfl,?_,?_,?_⟩
  ·exact (Cz Hc.o).alloc Hc.o.size _
  ·exact Hc.o.size
  ·exact heap_alloc_new c _
 case o10=>
  go_simp
  go_wp2_with fail
  have Hg:=qI (show Below w w (w.alloc (.cells #[(0:Int),(0:Int)] 62)).drew from jq ((Q0 w w).alloc (lR) (.cells #[(0:Int),(0:Int)] 62)));have Hk:=qI (show (w.alloc (.cells #[(0:Int),(0:Int)] 62)).drew.cell? ⟨b,4,none⟩=some (.string x)/\(w.alloc (.cells #[(0:Int),(0:Int)] 62)).drew.cell? ⟨b,5,none⟩=some (.string y) from ⟨de f.o.1 (.cells #[(0:Int),(0:Int)] 62),de f.o.2 (.cells #[(0:Int),(0:Int)] 62)⟩);have Hm:(w.alloc (.cells #[(0:Int),(0:Int)] 62)).drew.heap[w.heap.size]?=some (.cells #[(0:Int),(0:Int)] 62):=heap_alloc_new w _;have Hf:w.heap.size<(w.alloc (.cells #[(0:Int),(0:Int)] 62)).drew.heap.size:=by simp
  have Hh:b<(w.alloc (.cells #[(0:Int),(0:Int)] 62)).drew.heap.size:=Nat.lt_trans g.o Hf;refine a.o _ _ Hk.o λd=>?_;clear a K;generalize (w.alloc (.cells #[(0:Int),(0:Int)] 62)).drew=q at *;refine rd 6 λK a=>?_;go_simp
  go_wp2_with fail
  refine (h.o _).mono ?_;rintro e c ⟨rfl,Ha⟩;have Hc:=qI Ha;have Hb:=qI (show c.cell? ⟨b,4,none⟩=some (.string x)/\c.cell? ⟨b,5,none⟩=some (.string y) from ⟨(Ha.cell (p:=⟨b,4,none⟩) Hh).trans Hk.o.1,(Ha.cell (p:=⟨b,5,none⟩) Hh).trans Hk.o.2⟩);clear Ha
  go_wp2_with fail
  refine a.o _ _ Hb.o λd=>?_;clear a K;refine tk 7 ?_;refine tk 8 ?_;refine tk 9 ?_;have Hi:c.heap[w.heap.size]?=some (.cells #[(0:Int),(0:Int)] 62):=(Hc.o.block _ Hf).trans Hm;have Hj:=aO Hi 0 (m:Int);have Hl:=aO Hj 1 n;have o:c.cell? w=some (.int .i64 0):=by simp [World.cell?,Hi]
  have f0:c.frozen? w=false:=by simp [World.frozen?,Hi]
  have r:(c.setCell w (m:Int)).cell? ⟨w,1,none⟩=some (.int .i64 0):=by simp [World.cell?,Hj]
  have f1:(c.setCell w (m:Int)).frozen? ⟨w,1,none⟩=false:=by simp [World.frozen?,Hj]
  have He:b≠w:=by have:=g.o;omega
  have Hn:=qI (And.intro (cell_far (cell_far Hb.o.1 (i:=0) (v:=.int .i64 m) He) (i:=1) (v:=.int .i64 n) He) (cell_far (cell_far Hb.o.2 (i:=0) (v:=.int .i64 m) He) (i:=1) (v:=.int .i64 n) He));have Ho:=qI Hl;clear Hi Hj Hl Hm He;refine rd 11 λK a=>?_;go_simp
  go_wp2_with fail
  refine a.o _ _ Hn.o λd=>?_;clear a K;refine tk 12 ?_;refine Qn (by kernel_rfl) ?_ _;refine lC.mk (FrV.mk (by kernel_rfl) ?_);refine ⟨w,rfl,rfl,?_,lR,Ho.o⟩;exact (((Hg.o.trans (Hc.o.mono Hg.o.size)).setCell (p:=w.heap.size) (lR) _).setCell (p:=⟨w,1,none⟩) (lR) _)
theorem qJ {α:Type} (f:α->List Value) (n:Nat) (hf:∀ x,(f x).length=n):∀ (l:List α) (k j:Nat) (a:k<l.length),j<n->(l.flatMap f)[k*n+j]?=(f l[k])[j]?:=by
 intro l
 induction l with
 | nil=>intro k j a;simp at a
 | cons x r ih=>
  intro k j a b;cases k with
  | zero=>
   rw [List.flatMap_cons,Nat.zero_mul,Qd,List.getElem?_append_left (by rw [hf];exact b)];rfl
  | succ k=>
   rw [List.flatMap_cons,List.getElem?_append_right (by rw [hf,Nat.add_mul];omega),hf,show (k+1)*n+j - n=k*n+j by rw [Nat.add_mul];omega,ih k j (by simpa using a) b];rfl
theorem qK {v:Value} (h:W.ownsRow base e size v n xs) (m:0<n):∃ g a,v=.slice (some ⟨g,0,none⟩) n a/\n<=a/\a<=maxLen/\g<W.heap.size/\base<=g/\∀ i,i<n*size->W.cell? ⟨g,i,none⟩=xs[i]?:=by
 obtain ⟨l,h⟩:=h
 rcases h with ⟨_,o⟩|⟨g,a,j,rfl,f,b,c,k,hs,d⟩
 ·omega
 ·refine ⟨g,a,rfl,c,k,(gS b).1,f,λi hi=>?_⟩;rw [<- d,List.getElem?_take,if_pos hi];simp only [World.cell?,b]
  simp
theorem o8 {v:Value} (h:W.ownsRow base e size v n xs):∃ i c,v=.slice i n c/\n<=c/\c<=maxLen:=by
 rcases h.2 with ⟨rfl,rfl⟩|⟨g,a,d,rfl,j,k,b,f,_⟩
 ·exact ⟨none,0,rfl,lR,by unfold maxLen;omega⟩
 ·exact ⟨_,a,rfl,b,f⟩
def jT (W:World) (Q:Nat->Prop) (v:Value) (ds:List ai):Prop:=
 ∃ ao c,v=.slice ao ds.length c/\ds.length<=maxLen/\(0<ds.length->∃ b o,ao=some ⟨b,o,none⟩/\Q b/\b<W.heap.size/\∀ k,k<ds.length->W.cell? ⟨b,o+k*2,none⟩=some (.string (ak ds k).kind)/\W.cell? ⟨b,o+k*2+1,none⟩=some (.int .i64 (ak ds k).many))
def iR (W:World) (Q:Nat->Prop) (v:Value) (xs:List Int):Prop:=
 ∃ ao c,v=.slice ao xs.length c/\(xs.length<=c/\c<=maxLen)/\(0<xs.length->∃ b o,ao=some ⟨b,o,none⟩/\Q b/\b<W.heap.size/\∀ k,k<xs.length->W.cell? ⟨b,o+k,none⟩=some (.int .i64 (xs.getD k 0)))
theorem jT.plain (h:jT W Q v ds):bO W v ds:=by
 obtain ⟨i,c,f,g,k⟩:=h;refine ⟨i,c,f,g,λe=>?_⟩;obtain ⟨b,o,j,_,a,d⟩:=k e;exact ⟨b,o,j,a,d⟩
theorem iR.plain {e:List Int} (h:iR W Q v e):bA W v e:=by
 obtain ⟨j,c,g,i,l⟩:=h;refine ⟨j,c,g,i,λf=>?_⟩;obtain ⟨b,o,k,_,a,d⟩:=l f;exact ⟨b,o,k,a,d⟩
theorem jT.of {v:Value} (h:bO W v ds) (k:∃ a n c,v=.slice a n c/\∀ x:Addr,a=some x->N<=x.block) (j:∀ b,N<=b->b<W.heap.size->Q b):jT W Q v ds:=by
 obtain ⟨i,c,rfl,g,m⟩:=h;obtain ⟨_,_,_,e,l⟩:=k;cases e;refine ⟨i,c,rfl,g,λf=>?_⟩;obtain ⟨b,o,d,Ha,Hb⟩:=m f;exact ⟨b,o,d,j b (l _ d) Ha,Ha,Hb⟩
theorem iR.of {v:Value} {f:List Int} (h:bA W v f) (l:∃ a n c,v=.slice a n c/\∀ x:Addr,a=some x->N<=x.block) (k:∀ b,N<=b->b<W.heap.size->Q b):iR W Q v f:=by
 obtain ⟨j,c,rfl,i,p⟩:=h;obtain ⟨_,_,_,e,m⟩:=l;cases e;refine ⟨j,c,rfl,i,λg=>?_⟩;obtain ⟨b,o,d,Ha,Hb⟩:=p g;exact ⟨b,o,d,k b (m _ d) Ha,Ha,Hb⟩
theorem jT.apart (h:jT A Q v ds) (d:Apart K A B) (q:∀ j,Q j->¬ K j) (n:∀ j,j<A.heap.size->Q j->Q' j):jT B Q' v ds:=by
 obtain ⟨l,c,p,i,r⟩:=h;refine ⟨l,c,p,i,λg=>?_⟩;obtain ⟨b,o,m,e,Hb,Hc⟩:=r g;have Ha:=d.block b Hb (q b e);exact ⟨b,o,m,n b Hb e,Q1 Hb d.size,λk f=>⟨(World.cell?_of_block (a:=⟨b,o+k*2,none⟩) Ha).trans (Hc k f).1,(World.cell?_of_block (a:=⟨b,o+k*2+1,none⟩) Ha).trans (Hc k f).2⟩⟩
theorem iR.apart {f:List Int} (h:iR A Q v f) (d:Apart K A B) (r:∀ j,Q j->¬ K j) (n:∀ j,j<A.heap.size->Q j->Q' j):iR B Q' v f:=by
 obtain ⟨l,c,p,i,s⟩:=h;refine ⟨l,c,p,i,λg=>?_⟩;obtain ⟨b,o,m,e,Ha,Hc⟩:=s g;have Hb:=d.block b Ha (r b e);exact ⟨b,o,m,n b Ha e,Q1 Ha d.size,λk q=>(World.cell?_of_block (a:=⟨b,o+k,none⟩) Hb).trans (Hc k q)⟩
def jU (p:aA × Value):List Value:=dF p.1 p.2
def jr (p:aP × Value):List Value:=[.int .u64 p.1.cp,p.2]
def nR (l:List (aA × Value)):List Value:=l.flatMap jU
def nS (l:List (aP × Value)):List Value:=l.flatMap jr
structure Hp where
 nm:ByteArray
 pr:Int
 cl:List (aA × Value)
 gl:List (aP × Value)
 cv:Value
 gv:Value
def Hp.hd (p:Hp):ad:=⟨⟨p.nm,p.pr,p.cl.map Prod.fst⟩,p.gl.map Prod.fst⟩
def fk (p:Hp):List Value:=[.string p.nm,.int .i64 p.pr,p.cv,p.gv]
def iS (l:List Hp):List Value:=l.flatMap fk
theorem OD (l:List (aA × Value)) (p:aA × Value):nR (l++[p])=nR l++jU p:=by simp [nR]
theorem OE (l:List (aP × Value)) (p:aP × Value):nS (l++[p])=nS l++jr p:=by simp [nS]
theorem CD (l:List Hp) (p:Hp):iS (l++[p])=iS l++fk p:=by simp [iS]
def bV (base:Nat) (v:Value) (la:Hp) (j:Nat):Prop:=base<=j/\v.ownBlock≠some j/\la.cv.ownBlock≠some j/\la.gv.ownBlock≠some j
theorem jV (l:A.ownsRow base e size v n xs) (h:Apart K A B) (i:∀ j,v.ownBlock=some j->¬ K j):B.ownsRow base e size v n xs:=by
 obtain ⟨k,f⟩:=l;refine ⟨k,f.imp id ?_⟩;rintro ⟨g,b,a,rfl,d,c,r⟩;exact ⟨g,b,a,rfl,d,(h.block g (gS c).1 (i g rfl)).trans c,r⟩
structure gw (W:World) (base:Nat) (Q:Nat->Prop) (p:Hp):Prop where
 rc:W.ownsRow base 65 6 p.cv p.cl.length (nR p.cl)
 rg:W.ownsRow base 123 2 p.gv p.gl.length (nS p.gl)
 nc:∀ x∈p.cl,jT W Q x.2 x.1.ds
 ng:∀ x∈p.gl,iR W Q x.2 x.1.dv/\x.1.cp<18446744073709551616
theorem gw.apart {W':World} {p:Hp} (h:gw W base Q p) (a:Apart K W W') (d:∀ j,Q j->¬ K j) (c:∀ j,j<W.heap.size->Q j->Q' j)
  (f:∀ j,p.cv.ownBlock=some j->¬ K j) (e:∀ j,p.gv.ownBlock=some j->¬ K j):gw W' base Q' p:=
 ⟨jV h.rc a f,jV h.rg a e,λx b=>(h.nc x b).apart a d c,λx b=>⟨(h.ng x b).1.apart a d c,(h.ng x b).2⟩⟩
theorem OF {p:Hp} (h:gw W base Q p):aZ W p.cv (p.cl.map Prod.fst):=by
 obtain ⟨i,c,d,l,e⟩:=o8 h.rc;refine ⟨i,c,by rw [Q9];exact d,⟨by rw [Q9];exact l,e⟩,λb=>?_⟩;rw [Q9] at b;obtain ⟨g,o,Hb,_,_,Hc,_,Ha⟩:=qK h.rc b;rw [d] at Hb;cases Hb;refine ⟨g,0,λk=>(p.cl.getD k default).2,rfl,Hc,λk a=>?_⟩;rw [Q9] at a;have n:ae (p.cl.map Prod.fst) k=p.cl[k].1:=by simp [ae,a]
 have m:(p.cl.getD k default).2=p.cl[k].2:=by simp [a]
 rw [n];dsimp only;rw [m];refine ⟨λj f=>?_,(h.nc _ (List.getElem_mem a)).plain⟩;rw [Qd,Ha _ (by omega)];exact qJ jU 6 (λx=>rfl) p.cl k j a f
theorem OG {p:Hp} (h:gw W base Q p):cq W p.gv (p.gl.map Prod.fst):=by
 obtain ⟨i,c,d,j,f⟩:=o8 h.rg;refine ⟨i,c,by rw [Q9];exact d,⟨by rw [Q9];exact j,f⟩,λb=>?_⟩;rw [Q9] at b;obtain ⟨g,n,Hb,_,_,Hc,_,Ha⟩:=qK h.rg b;rw [d] at Hb;cases Hb;refine ⟨g,0,λk=>(p.gl.getD k default).2,rfl,Hc,λk a=>?_⟩;rw [Q9] at a;have m:aq (p.gl.map Prod.fst) k=p.gl[k].1:=by simp [aq,a]
 have l:(p.gl.getD k default).2=p.gl[k].2:=by simp [a]
 rw [m];dsimp only;rw [l];have e:=h.ng _ (List.getElem_mem a);refine ⟨⟨?_,?_,e.2⟩,e.1.plain⟩
 ·have:=Ha (k*2+0) (by omega)
  rw [Qd];rw [Nat.add_zero] at this;rw [this];exact qJ jr 2 (λx=>rfl) p.gl k 0 a (by omega)
 ·rw [Qd,Ha (k*2+1) (by omega)];exact qJ jr 2 (λx=>rfl) p.gl k 1 a (by omega)
structure gA (W:World) (base:Nat) (v:Value) (el:List Hp) (la:Hp):Prop where
 row:W.ownsRow base 101 4 v (el.length+1) (iS (el++[la]))
 hel:∀ p∈el,gw W base (bV base v la) p/\(∀ j,p.cv.ownBlock=some j->bV base v la j)/\(∀ j,p.gv.ownBlock=some j->bV base v la j)
 hla:gw W base (bV base v la) la
 vc:∀ j,la.cv.ownBlock=some j->v.ownBlock≠some j
 vg:∀ j,la.gv.ownBlock=some j->v.ownBlock≠some j
 cg:∀ j,la.cv.ownBlock=some j->la.gv.ownBlock≠some j
theorem gA.plain {a:List Hp} {la:Hp} (h:gA W base v a la):aX W v ((a++[la]).map Hp.hd):=by
 obtain ⟨l,c,e,m,f⟩:=o8 h.row;have Ha:((a++[la]).map Hp.hd).length=a.length+1:=by simp
 refine ⟨l,c,by rw [Ha];exact e,⟨by rw [Ha];exact m,f⟩,λ_=>?_⟩;obtain ⟨g,p,Hf,_,_,Hg,_,Hb⟩:=qK h.row (by omega);rw [e] at Hf;cases Hf;refine ⟨g,0,λk=>((a++[la]).getD k la).cv,λk=>((a++[la]).getD k la).gv,rfl,Hg,λk b=>?_⟩;have He:k<(a++[la]).length:=by simpa using b
 have o:af ((a++[la]).map Hp.hd) k=(a++[la])[k].hd:=by simp only [af,List.getD_eq_getElem?_getD,List.getElem?_map,Qf He];rfl
 have n:(a++[la]).getD k la=(a++[la])[k]:=by rw [List.getD_eq_getElem?_getD,Qf He];rfl
 rw [o];dsimp only;rw [n];have Hc:gw W base (bV base v la) (a++[la])[k]:=by
  rcases Qi.1 (List.getElem_mem He) with d|d
  ·exact (h.hel _ d).1
  ·rw [Qm.1 d];exact h.hla
 have Hh:k<a.length+1:=by rw [Ha] at b;exact b
 have cell:∀ j,j<4->W.cell? ⟨g,0+k*4+j,none⟩=(fk (a++[la])[k])[j]?:=λj i=>by
  rw [Qd,Hb _ (by omega)];exact qJ fk 4 (λx=>rfl) _ k j He i
 exact ⟨⟨cell 0 (by omega),cell 1 (by omega),cell 2 (by omega),cell 3 (by omega)⟩,OF Hc,OG Hc⟩
