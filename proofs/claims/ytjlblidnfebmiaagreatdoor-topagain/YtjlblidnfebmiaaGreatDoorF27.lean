import Derived.Test.YtjlblidnfebmiaaGreatDoorF25
import Derived.Test.YtjlblidnfebmiaaGreatDoorF26
set_option maxRecDepth 100000
set_option maxHeartbeats 16000000
open Go Go.RowKit Go.Shelf
attribute [local go_sem] Oper.semAt_some
open Go.Proofs.Tryz
namespace Go.Proofs.YtjlblidnfebmiaaGreatDoor
variable{B Bd Be Bm n:Nat}{C:Rn->Prop}{W W':World}{hs:List af}{s:Dk}{sk sn:Sd}{xs:List RV}
def kY (r:Rn):ByteArray × ByteArray:=(r.pod,r.cont)
def pO (h:af) (i:Nat):Rn:=⟨h.pod.nm,(ae h.pod.cs i).nm,((aD h.gs i).cp:Int),(aD h.gs i).dv⟩
def aN (hs:List af):List Rn:=hs.flatMap λh=>(List.range h.gs.length).map (pO h)
theorem TB(h:bw hs=0):((aN hs).map kY).Nodup:=by
 obtain⟨_,f,l⟩:=cW.1 h;unfold List.Nodup;rw[List.pairwise_map];unfold aN;rw[List.pairwise_flatMap];constructor
 ·intro x c;obtain⟨d,o,_⟩:=f x c;rw[List.pairwise_map,List.pairwise_iff_getElem];intro i j hi g Hb e;simp only[List.getElem_range] at e;rw[List.length_range] at g;have n:(ae x.pod.cs i).nm=(ae x.pod.cs j).nm:=congrArg Prod.snd e;exact Nu d (by omega) Hb n
 ·refine l.imp ?_;intro a b Ha x c y m e;obtain⟨i,_,rfl⟩:=Qk.1 c;obtain⟨j,_,rfl⟩:=Qk.1 m;have k:a.pod.nm=b.pod.nm:=congrArg Prod.fst e;rw[k] at Ha;exact qU _ Ha
theorem yb(h:bw hs=0):(aN hs).length<=36:=by
 obtain⟨f,d,_⟩:=cW.1 h;have key:∀l:List af,(∀x∈l,x.gs.length<=3)->(aN l).length<=3*l.length:=by
  intro l
  induction l with
  | nil=>intro _;simp[aN]
  | cons a l ih=>
   intro c;have f:=ih λx b=>c x (Qv _ b)
   have d:=c a (by simp);unfold aN at *;rw[List.flatMap_cons,Q2,Q9,List.length_range,Qg];omega
 have:=key hs λx b=>by
  obtain⟨e,c,_⟩:=d x b
  have:=(jv e).2.2.1
  omega
 omega
theorem TC(h:bw hs=0):∀r∈aN hs,r.pod.size<=7000/\r.cont.size<=7000/\r.devs.length<=16:=by
 obtain⟨_,g,_⟩:=cW.1 h;intro r a;obtain⟨x,e,a⟩:=List.mem_flatMap.1 a;obtain⟨i,hi,rfl⟩:=Qk.1 a;rw[List.mem_range] at hi;obtain⟨d,j,c⟩:=g x e;have b:=jv d;have n:=(kG b.1).2;have k:=(kG (b.2.2.2 (ae x.pod.cs i) (fP _ _ _ (by omega))).1).2;have f:(aD x.gs i).dv.length<=16:=wV (fA c i hi);have m:x.pod.nm.data.toList.length=x.pod.nm.size:=by simp
 have l:(ae x.pod.cs i).nm.data.toList.length=(ae x.pod.cs i).nm.size:=by simp
 refine⟨?_,?_,f⟩
 ·show x.pod.nm.size<=7000
  omega
 ·show (ae x.pod.cs i).nm.size<=7000
  omega
def WU (W:World) (Be Bd Bm n:Nat) (rs:List Rn):Prop:=gk W Be Bd Bm/\∃xs,bF W Bm n xs/\(∀x∈xs,gP W x/\x.dn<=1000)/\∀r,r∈xs.map (aW W)↔r∈rs
theorem pP(h:∀x∈xs,gP W x/\x.dn<=1000)(b:dY W W'):(∀x∈xs,gP W' x/\x.dn<=1000)/\xs.map (aW W')=xs.map (aW W):=
 ⟨λx a=>⟨((h x a).1.kept b).1,(h x a).2⟩,List.map_congr_left λx a=>by unfold aW;rw[((h x a).1.kept b).2]⟩
theorem TD(h:(xs.map RV.key).Nodup):((xs.map (aW W)).map kY).Nodup:=by
 rw[List.map_map];unfold List.Nodup at *;rw[List.pairwise_map] at *;refine h.imp λ{a b} hab e=>hab ?_
 have c:a.pod=b.pod:=congrArg Prod.fst e;have d:a.cont=b.cont:=congrArg Prod.snd e;unfold RV.key;rw[c,d]
theorem pQ(h:bz W B s)(a:Calm s):aU W B s.n s.k (.slice none 0 0) (-1) false:=by
 obtain⟨_,v,b,c⟩:=h;rw[a.2.2] at c;rw[a.1,a.2.1,c] at b;exact b
theorem pR(h:aU W B s.n s.k (.slice none 0 0) (-1) false)(a:Calm s):bz W B s:=by
 refine⟨by rw[a.2.1];exact⟨by decide,by decide⟩,.slice none 0 0,?_,?_⟩
 ·rw[a.1,a.2.1];exact h
 ·rw[a.2.2]
theorem Ey{y:RV}{a:List Int}(h:bD W (.slice y.da y.dn y.dc) a):ce W y/\bm W y=a/\y.dn=a.length:=by
 obtain⟨n,c,j,p,g⟩:=h;injection j with e1 e2 e3
 have key:∀k,k<a.length->lQ W y k=a.getD k 0:=λk f=>by
  obtain⟨b,o,e,Hb,Ha⟩:=g (by omega);unfold lQ;rw[e1,e];simp only[Addr.add_lit];rw[Ha k f]
 refine⟨λm=>?_,?_,e2⟩
 ·obtain⟨b,o,e,Hb,Ha⟩:=g (by omega);exact⟨b,o,by rw[e1];exact e,Hb,λk f=>by rw[key k (by omega)];exact Ha k (by omega)⟩
 ·unfold bm;rw[e2];apply List.ext_getElem
  ·simp
  ·intro i d l
   simp at d ⊢
   rw[key i d]
   simp[d]
structure bL (W:World) (Be Bd Bm n:Nat) (sn sk:Sd) (C:Rn->Prop):Prop where
 eng:gk W Be Bd Bm
 disk:aU W Bd sn sk (.slice none 0 0) (-1) false
 map:∃xs,bF W Bm n xs/\(∀x∈xs,gP W x/\x.dn<=1000)/\∀a,a∈xs.map (aW W)↔C a
theorem bL.congr{b:Rn->Prop}(h:bL W Be Bd Bm n sn sk C)(i:∀a,C a↔b a):bL W Be Bd Bm n sn sk b:=by
 obtain⟨d,e,c,j,g,f⟩:=h;exact⟨d,e,c,j,g,λa=>(f a).trans (i a)⟩
theorem bL.lt(h:bL W Be Bd Bm n sn sk C):Be<W/\Bd<W/\Bm<W:=by
 obtain⟨a,b,d,c,_⟩:=h;exact⟨a.lt,b.lt,c.lt⟩
theorem bL.apart(h:bL W Be Bd Bm n sn sk C):Be≠Bd/\Be≠Bm/\Bd≠Bm:=by
 obtain⟨a,b,d,c,_⟩:=h;exact rF a c b
theorem bL.below(h:bL W Be Bd Bm n sn sk C)(b:Below W W W'):bL W' Be Bd Bm n sn sk C:=by
 obtain⟨c,d,f,e,k,g⟩:=h;obtain⟨j,i⟩:=pP k (dY.below b);exact⟨c.block (b.block Be c.lt),(b.block Bd d.lt).trans d,f,e.block (b.block Bm e.lt),j,λa=>by rw[i];exact g a⟩
theorem Ez{p c:ByteArray}:(xs.any λy=>decide (y.pod=p/\y.cont=c))=true↔∃a∈xs.map (aW W),kY a=(p,c):=by
 rw[List.any_eq_true];constructor
 ·rintro⟨y,b,h⟩;obtain⟨d,e⟩:=of_decide_eq_true h;exact⟨aW W y,Qk.2 ⟨y,b,rfl⟩,by show (y.pod,y.cont)=(p,c);rw[d,e]⟩
 ·rintro⟨a,f,h⟩;obtain⟨y,b,rfl⟩:=Qk.1 f;have i:y.pod=p:=congrArg Prod.fst h;have g:y.cont=c:=congrArg Prod.snd h;exact⟨y,b,Qc ⟨i,g⟩⟩
theorem TE(b j g n:Nat)(s q:Sd)(C:Rn->Prop)(p c:ByteArray)(W:World)(h:bL W b j g n s q C)(w:p.size<=7000)(A:c.size<=7000)(k:∃a,C a/\kY a=(p,c)) :
  Calls prog 101 #[b,p,c] W λe W'=>e=.returned .nilIface/\bL W' b j g n s q (λa=>C a/\kY a≠(p,c))/\bT j g W W':=by
 obtain⟨i,r,o,m,B,l⟩:=h;obtain⟨Hc,Hf,_⟩:=rF i m r;have Ha:(o.any λy=>decide (y.pod=p/\y.cont=c))=true:=by
  obtain⟨a,f,t⟩:=k;exact Ez.2 ⟨a,(l a).2 f,t⟩
 refine (Tp b j g n s q (.slice none 0 0) o p c (-1) false W i m r ⟨by decide,by decide⟩ w A).mono ?_;rw[Ha];rintro e W' ⟨rfl,hs⟩;refine⟨rfl,⟨i.block (hs.o.block b i.lt Hc Hf),hs.disk,_,hs.yes rfl,?_⟩,hs.o⟩;have D:=hs.o.kint r.notInt m.notInt;obtain⟨z,v⟩:=pP B D;refine⟨λx d=>z x (List.mem_filter.1 d).1,λa=>?_⟩;constructor
 ·intro f;obtain⟨x,d,rfl⟩:=Qk.1 f;obtain⟨He,Hb⟩:=List.mem_filter.1 d
  have:aW W' x∈o.map (aW W):=by rw[<- v];exact Qk.2 ⟨x,He,rfl⟩
  refine⟨(l _).1 this,λu=>?_⟩;have E:x.pod=p:=congrArg Prod.fst u;have F:x.cont=c:=congrArg Prod.snd u;rw[Qc ⟨E,F⟩] at Hb;cases Hb
 ·rintro⟨f,t⟩
  have:=(l a).2 f
  rw[<- v] at this;obtain⟨x,d,rfl⟩:=Qk.1 this;refine Qk.2 ⟨x,List.mem_filter.2 ⟨d,?_⟩,rfl⟩;rw[Q7 λk=>t (by show (x.pod,x.cont)=(p,c);rw[k.1,k.2])];rfl
theorem TF(c d g n:Nat)(t o:Sd)(C:Rn->Prop)(x:RV)(W:World)(h:bL W c d g n t o C)(z:x.Short)(j:ce W x)(p:oB d x)(f:x.dn<=1000)(F:n<1000)(r:∀a,C a->kY a≠(x.pod,x.cont)) :
  Calls prog 102 #[c,.agg #[x.pod,x.cont,.int .u64 x.cpus,.slice x.da x.dn x.dc]] W λe W'=>e=.returned .nilIface/\bL W' c d g (n+1) t o (λa=>C a\/a=aW W x)/\bT d g W W':=by
 obtain⟨i,s,m,l,A,k⟩:=h;obtain⟨Hb,Hc,_⟩:=rF i l s;have Ha:(m.any λy=>decide (y.pod=x.pod/\y.cont=x.cont))=false:=by
  cases hb:(m.any λy=>decide (y.pod=x.pod/\y.cont=x.cont)) with
  | false=>rfl
  | true=>
   obtain⟨a,b,e⟩:=(Ez (W:=W)).1 hb;exact absurd e (r a ((k a).1 b))
 refine (Th c d g n t o (.slice none 0 0) m x (-1) false W i l s ⟨by decide,by decide⟩ z j p f F).mono ?_;rw[Ha];rintro e W' ⟨rfl,hs⟩;obtain⟨w,u,G,E,ag⟩:=hs.yes rfl;refine⟨rfl,⟨i.block (hs.o.block c i.lt Hb Hc),hs.disk,_,G,?_⟩,hs.o⟩;have B:=hs.o.kint s.notInt l.notInt;obtain⟨v,D⟩:=pP A B;refine⟨λy q=>?_,λa=>?_⟩
 ·rcases List.mem_cons.1 q with rfl|q
  ·exact⟨E,f⟩
  ·exact v y q
 ·rw[Qq,List.mem_cons,D];have e:aW W' { x with da:=w,dc:=u }=aW W x:=by unfold aW;rw[ag]
  rw[e];constructor
  ·rintro (b|b)
   ·exact .inr b
   ·exact .inl ((k a).1 b)
  ·rintro (b|b)
   ·exact .inr ((k a).2 b)
   ·exact .inl b
end Go.Proofs.YtjlblidnfebmiaaGreatDoor
namespace Go.Proofs
open Go.Shelf
def Tryz.contR_ren:Go.Shelf.Ren:=⟨fun|8=>144|6=>184|n=>n,fun|22=>120|23=>129|25=>228|4=>4|3=>3|0=>0|n=>n,fun|n=>n⟩
theorem Tryz.contR:Go.Proofs.SlLaysH0.n8 Tryz.prog Tryz.contR_ren:=by
 constructor
 case f6=>exact ⟨Tryz.f184.name,by decide,Tryz.func184.trans (congrArg some (by kernel_rfl))⟩
 case f8=>exact ⟨Tryz.f144.name,by decide,Tryz.func144.trans (congrArg some (by kernel_rfl))⟩
 all_goals intros;kernel_rfl
end Go.Proofs
namespace Go.Proofs.YtjlblidnfebmiaaGreatDoor
variable{Bd Bm base g k:Nat}{W W' w:World}{hs:List af}{r x y:RV}{v:Value}{ys:List RV}
abbrev RVd (w:World):Type:={ y:RV // ce w y/\y.dn<=1000 }
instance (w:World):Inhabited (RVd w):=⟨⟨⟨ByteArray.empty,ByteArray.empty,0,none,0,0⟩,λh=>absurd h (Nat.lt_irrefl 0),Nat.zero_le _⟩⟩
theorem rJ(W:World)(y:RV):(bm W y).length=y.dn:=by simp[bm]
theorem EA(h:ce W y):0<(bm W y).length->∃b o,y.da=some ⟨b,o,none⟩/\b<W.heap.size/\∀k,k<(bm W y).length->W.cell? ⟨b,o+k,none⟩=some (.int .i64 ((bm W y).getD k 0)):=by
 rw[rJ];intro d;obtain⟨g,o,e,c,f⟩:=h d;refine⟨g,o,e,c,λk a=>?_⟩;rw[f k a]
 simp[bm,a]
theorem TG(x y:RV)(w:World)(a:ce w x/\x.dn<=1000)(b:ce w y/\y.dn<=1000):Calls prog 146 #[.slice x.da x.dn x.dc,.slice y.da y.dn y.dc] w λe w'=>e=.returned (.bool (decide (bm w x=bm w y)))/\∃n,w'=w.drewN n:=by
 have:=Tl x.da y.da x.dc y.dc (bm w x) (bm w y) w (by rw[rJ];exact a.2) (by rw[rJ];exact b.2) (EA a.1) (EA b.1)
 rw[rJ,rJ] at this;exact this
def eB (w:World) (x r:RV):Bool:=decide (x.pod=r.pod) && (decide (x.cont=r.cont) && (decide (x.cpus=r.cpus) && decide (bm w x=bm w r)))
theorem TH:eB w x r=true↔aW w x=aW w r:=by
 unfold eB aW
 simp
def cE (r:RV):Obj:=.cells #[r.pod,r.cont,.int .u64 r.cpus,.slice r.da r.dn r.dc] 129
abbrev mZ:=λ(x0 x1:ByteArray) (x2:Int) (x3:Option Addr) (x4 x5:Nat)=>(.cells #[x0,x1,.int .u64 x2,.slice x3 x4 x5] 129:Obj)
theorem TI(r:RV)(B:Nat)(w:World)(f:w.heap[B]?=some (cE r))(j:ce w r/\r.dn<=1000) :
  PredBelow prog 145 #[B] (λx:RVd w=>.agg (RV.cells x.1).toArray) (λx=>eB w x.1 r) w:=λW x c=>by
 obtain⟨x,i⟩:=x;have He:B<w:=(gS f).1;have Ha:W.heap[B]?=some (cE r):=(c.block B He).trans f;unfold cE at Ha;have b0:cl (W.alloc (mZ x.pod x.cont x.cpus x.da x.dn x.dc)) B (0) r.pod:=ad (cC Ha _) 0;have b1:cl (W.alloc (mZ x.pod x.cont x.cpus x.da x.dn x.dc)) B (1) r.cont:=ad (cC Ha _) 1;have b2:cl (W.alloc (mZ x.pod x.cont x.cpus x.da x.dn x.dc)) B (2) (.int .u64 r.cpus):=ad (cC Ha _) 2;have o:cl (W.alloc (mZ x.pod x.cont x.cpus x.da x.dn x.dc)) B (3) (.slice r.da r.dn r.dc):=ad (cC Ha _) 3;have Hf:B≠W:=by have:=c.size;omega
 have b:=qI (c.alloc c.size (mZ x.pod x.cont x.cpus x.da x.dn x.dc));have Hc:=i.1.below b.o λ_ _ _ h=>h;have Hb:=j.1.below b.o λ_ _ _ h=>h;have k:=qI (TG x r _ ⟨Hc.1,i.2⟩ ⟨Hb.1,j.2⟩);rw[Hc.2,Hb.2] at k;have l:=qG x.pod r.pod;have g:=qG x.cont r.cont;have d:(x.cpus == r.cpus)=decide (x.cpus=r.cpus):=by rw[Bool.eq_iff_iff];simp
 show Calls prog 145 #[.agg #[x.pod,x.cont,.int .u64 x.cpus,.slice x.da x.dn x.dc],B] W λe w'=>e=.returned (.bool (eB w x r))/\Below w w w'
 unfold eB;clear c Ha Hc Hb i j f
 rcases two (decide (x.pod=r.pod)) with g1|g1
 ·rw[g1] at l ⊢
  rcases two (decide (x.cont=r.cont)) with a|a
  ·rw[a] at g ⊢
   rcases two (decide (x.cpus=r.cpus)) with g3|g3
   ·rw[g3] at d ⊢;clear g1 a g3;generalize decide (bm w x=bm w r)=n at *
    go_enter func145,ntmps145
    go_wp2_with fail
    refine k.o.mono ?_;rintro e w' ⟨rfl,m,rfl⟩
    go_wp2
    go_ret;exact⟨rfl,below_drewN b.o m⟩
   ·rw[g3] at d ⊢;clear g1 a g3
    go_enter func145,ntmps145
    go_wp2
    go_ret;exact⟨rfl,b.o⟩
  ·rw[a] at g ⊢;clear g1 a d
   go_enter func145,ntmps145
   go_wp2
   go_ret;exact⟨rfl,b.o⟩
 ·rw[g1] at l ⊢;clear g1 g d
  go_enter func145,ntmps145
  go_wp2
  go_ret;exact⟨rfl,b.o⟩
theorem TJ(a:List RV)(r:RV)(B g c:Nat)(w:World)(f:w.heap[B]?=some (cE r))(n:ce w r/\r.dn<=1000)(l:g<w)(b:∀y∈a,ce w y/\y.dn<=1000)(h:∀k,k<a.length->∀i v,(RV.cells (rv a k))[i]?=some v->w.cell? ⟨g,0+k*4+i,none⟩=some v)(p:a.length<=1000) :
  Calls prog 144 #[.slice g a.length c,.func (.func 145) #[] #[.pointer (some ⟨B,0,none⟩)]] w λe w'=>e=.returned (.bool (a.any λy=>eB w y r))/\Below w.heap.size w w':=by
 have o:∀args w,(callFunc 145 args).run prog w=.ok (.enter 145 args) w:=enters_of func145 (by kernel_rfl) rfl;have Ha:(a.attachWith (λy=>ce w y/\y.dn<=1000) b).length=a.length:=by simp
 have Hb:=AnyQ.slices_ContainsFunc Tryz.contR 4 isAgg129 sizeOf129 (λx:RVd w=>RV.cells x.1) (λ_=>rfl) (λx=>eB w x.1 r) 145 #[.pointer (some ⟨B,0,none⟩)] o g 0 a.length c (a.attachWith (λy=>ce w y/\y.dn<=1000) b) w
  (TI r B w f n) (by rw[Ha];exact lR) (by omega) l (λj d i v hi=>by
   have Hc:j<a.length:=by rw[<- Ha];exact d
   refine h j Hc i v ?_;have e:(a.attachWith (λy=>ce w y/\y.dn<=1000) b)[j]! = (⟨rv a j,b _ (xU Hc)⟩:RVd w):=by
    rw[getElem!_pos _ j d];apply Subtype.ext
    simp[rv,Hc]
   rw[e] at hi;exact hi)
 have m:(((a.attachWith (λy=>ce w y/\y.dn<=1000) b).take a.length).any λx=>eB w x.1 r)=a.any λy=>eB w y r:=by
  rw[List.take_of_length_le (by rw[Ha];exact lR)]
  have:a=(a.attachWith (λy=>ce w y/\y.dn<=1000) b).map Subtype.val:=by simp
  conv=>rhs;rw[this,List.any_map]
  rfl
 change Calls prog 144 _ _ _ at Hb
 rw[<- m];exact Hb
theorem index_none(a:Option Addr)(c g:Nat)(f:Array Value)(w:World):Calls prog 184 #[.slice a 0 c,.func (.func g) #[] f] w λe w'=>e=.returned (-1:Int)/\w'=w:=by
 go_enter func184,ntmps184
 go_wp2
 go_loopw [8] (λi wr=>i=.int .i64 0/\wr=w) (λ_ _=>0)
 case atStart=>exact⟨rfl,rfl⟩
 case round=>
  obtain⟨rfl,rfl⟩:=hrel
  go_wp2
  go_ret;exact⟨rfl,rfl⟩
theorem TK(a:Option Addr)(c g:Nat)(f:Array Value)(w:World):Calls prog 144 #[.slice a 0 c,.func (.func g) #[] f] w λe w'=>e=.returned false/\w'=w:=by
 have b:=qI (index_none a c g f w)
 go_enter func144,ntmps144
 go_wp2_with fail
 refine b.o.mono ?_;rintro e w' ⟨rfl,rfl⟩
 go_wp2
 go_ret;exact⟨rfl,rfl⟩
theorem TL(h:jG w g k x):∀i v,(RV.cells x)[i]?=some v->w.cell? ⟨g,0+k*4+i,none⟩=some v:=by
 intro i v a;rw[Qd]
 match i,a with
 | 0,a=>simp[RV.cells] at a;subst a;exact h.1.1
 | 1,a=>simp[RV.cells] at a;subst a;exact h.1.2.1
 | 2,a=>simp[RV.cells] at a;subst a;exact h.1.2.2.1
 | 3,a=>simp[RV.cells] at a;subst a;exact h.1.2.2.2
 | n+4,a=>simp[RV.cells] at a
theorem jG.alloc(h:jG w g k x)(n:g<w)(o:Obj):jG (w.alloc o) g k x:=by
 have m:(w.alloc o).heap[g]?=w.heap[g]?:=Below.heap_alloc _ _ _ n;obtain⟨⟨a,b,c,d⟩,e,f,p,i⟩:=h;have cc:∀j,(w.alloc o).cell? ⟨g,j,none⟩=w.cell? ⟨g,j,none⟩:=λj=>World.cell?_of_block (a:=⟨g,j,none⟩) m
 have l:∀j,(w.alloc o).frozen? ⟨g,j,none⟩=w.frozen? ⟨g,j,none⟩:=λj=>by simp[World.frozen?,m]
 exact⟨⟨by rw[cc];exact a,by rw[cc];exact b,by rw[cc];exact c,by rw[cc];exact d⟩,by rw[l];exact e,by rw[l];exact f,by rw[l];exact p,by rw[l];exact i⟩
theorem EB(v:Value)(b:List RV)(r:RV)(base:Nat)(w:World)(q:mT base w v b)(f:∀y∈b,ce w y/\y.dn<=1000)(l:ce w r/\r.dn<=1000)(t:b.length<=1000) :
  Calls prog 100 #[v,.agg #[r.pod,r.cont,.int .u64 r.cpus,.slice r.da r.dn r.dc]] w λe w'=>e=.returned (.bool (b.any λy=>eB w y r))/\Below w w w':=by
 have i:=qI ((Q0 w w).alloc (lR) (cE r));have Ha:∀y,ce w y->ce (w.alloc (cE r)) y/\bm (w.alloc (cE r)) y=bm w y:=λy d=>d.below i.o λ_ _ _ h=>h
 have Hc:=Ha r l.1;have He:Hu ((w.alloc (cE r)).heap[w.heap.size]?=some (cE r)):=bd w (cE r) rfl;obtain⟨a,c,rfl,Hj,Hb⟩:=q;have m:Hu (Calls prog 144 #[.slice a b.length c,.func (.func 145) #[] #[.pointer (some ⟨w,0,none⟩)]] (w.alloc (cE r)) λe w'=>e=.returned (.bool (b.any λy=>eB w y r))/\Below w w w'):=by
  unfold Hu
  by_cases p:0<b.length
  ·obtain⟨g,rfl,Hi,Hg,Hh⟩:=Hb p;have Hf:g<(w.alloc (cE r)).heap.size:=by simp;omega
   refine (TJ b r w g c (w.alloc (cE r)) He.o ⟨Hc.1,l.2⟩ Hf (λy d=>⟨(Ha y (f y d).1).1,(f y d).2⟩) (λk s=>TL ((Hh k s).alloc Hg _)) t).mono ?_;rintro e w' ⟨rfl,j⟩;refine⟨?_,i.o.trans (j.mono i.o.size)⟩;have u:(b.any λy=>eB (w.alloc (cE r)) y r)=b.any λy=>eB w y r:=by
    have n:∀y∈b,eB (w.alloc (cE r)) y r=eB w y r:=λy d=>by unfold eB;rw[(Ha y (f y d).1).2,Hc.2]
    rw[Bool.eq_iff_iff,List.any_eq_true,List.any_eq_true];constructor
    ·rintro⟨y,d,h⟩;exact⟨y,d,by rw[<- n y d];exact h⟩
    ·rintro⟨y,d,h⟩;exact⟨y,d,by rw[n y d];exact h⟩
   rw[u]
  ·have o:b=[]:=List.length_eq_zero_iff.1 (by omega);subst o;refine (TK a c _ _ (w.alloc (cE r))).mono ?_;rintro e w' ⟨rfl,rfl⟩;exact⟨rfl,i.o⟩
 unfold cE at m;clear Hc Ha Hb He i f l;generalize (b.any λy=>eB w y r)=x at *
 go_enter func100,ntmps100
 go_wp2_with fail
 refine m.o.mono ?_;rintro e w' ⟨rfl,j⟩
 go_wp2
 go_ret;exact⟨rfl,j⟩
def um (W0:World) (z:RV × Rn):Prop:=z.1.pod=z.2.pod/\z.1.cont=z.2.cont/\z.1.cpus=z.2.cpus/\bD W0 (.slice z.1.da z.1.dn z.1.dc) z.2.devs
theorem TM(h:k<hs.length):aN (hs.take (k+1))=aN (hs.take k)++(List.range (ag hs k).gs.length).map (pO (ag hs k)):=by grind[aN,ag,Qa]
theorem TN(h:∀x∈hs,x.gs.length<=3)(k:Nat):(aN (hs.take k)).length<=3*hs.length:=by
 have key:∀l:List af,(∀x∈l,x.gs.length<=3)->(aN l).length<=3*l.length:=by
  intro l
  induction l with
  | nil=>intro _;simp[aN]
  | cons a l ih=>
   intro c;have d:=ih λx b=>c x (Qv _ b)
   have e:=c a (by simp);unfold aN at *;rw[List.flatMap_cons,Q2,Q9,List.length_range,Qg];omega
 have:=key (hs.take k) λx b=>h x (List.mem_of_mem_take b)
 rw[Qu] at this;omega
theorem TO{e:TypeId}{sz:Nat}{n:Nat}{b:List Value}(h:w.ownsRow base e sz v n b){B:Nat}{cs:Array Value}{t:TypeId}{z:Nat × Nat}(d:w.heap[B]?=some (.cells cs t z))(i:t≠e):v.ownBlock≠some B:=by
 rcases h.2 with⟨rfl,_⟩|⟨g,c,f,rfl,j,Ha,_⟩
 ·intro a;cases a
 ·intro a;have a:some g=some B:=a;injection a with a
  subst a;rw[d] at Ha;injection Ha with Ha
  injection Ha with _ h2
  exact i h2
theorem gm{K:Nat->Prop}{A B:World}{g:Option Nat}(h:A.grownBy B g)(b:∀j,g=some j->j<A.heap.size->K j):Apart K A B:=
 ⟨h.os,h.tape,h.output,h.size,λj a c=>h.block j a λe=>c (b j e.symm a)⟩
theorem TP(x:RV):∀u∈RV.cells x,u.oneCell'=true:=by
 intro u a
 simp[RV.cells] at a
 rcases a with rfl|rfl|rfl|rfl <;> rfl
abbrev m5:=λ(x0:ByteArray) (x1:Int) (x2:Option Addr) (x3 x4:Nat) (x5:Option Addr) (x6 x7:Nat)=>(.cells #[x0,x1,.slice x2 x3 x4,.slice x5 x6 x7] 101:Obj)
abbrev jh:=λ(x0:Int) (x1:Option Addr) (x2 x3:Nat)=>(.cells #[.int .u64 x0,.slice x1 x2 x3] 123:Obj)
abbrev ye:=λ(Bh:Nat) (xn:ByteArray) (cb co y4 cc j:Nat) (cn:ByteArray) (Bg:Nat) (cp:Int) (ia:Option Addr) (y11 ic:Nat) (w':World)=>cl w' Bh (0) xn/\cl w' Bh (2) (.slice (some ⟨cb,co,none⟩) y4 cc)/\cl w' cb (co+j*6) cn/\cl w' Bg (0) (.int .u64 cp)/\cl w' Bg (1) (.slice ia y11 ic)
theorem TQ(v:Value)(hs:List af)(w W0:World)(h:aY W0 v hs)(l:aZ W0 w)(hl:hs.length<=100)(hgl:∀x∈hs,x.gs.length=x.pod.cs.length/\x.gs.length<=3) :
  Calls prog 99 #[v] w λe w'=>∃(v':Value) (zs:List (RV × Rn)),e=.returned v'/\zs.map Prod.snd=aN hs/\gj w w' v' (zs.map Prod.fst)/\(∀z∈zs,um W0 z)/\Below w w w':=by
 obtain⟨i0,hi,hA,ho,hn⟩:=info_parts D5;obtain⟨ao,c,rfl,hm,hr⟩:=h;unfold maxLen at hm;have HR:=qI hr;have HL:=qI l;have H6:=qI hgl;clear hr l hgl
 go_enter func99,ntmps99
 go_wp2
 go_loopw [3,10] (λpv i wr=>∃(k:Nat) (zs:List (RV × Rn)),k<=hs.length/\i=.int .i64 k/\zs.map Prod.snd=aN (hs.take k)/\gj w wr pv (zs.map Prod.fst)/\(∀z∈zs,um W0 z)/\Below w w wr) (λ_ i _=>hs.length - (intOf i).toNat)
 case atStart=>exact⟨0,[],by omega,rfl,rfl,Qw _ _ _ _,λx hx=>(List.not_mem_nil hx).elim,Q0 _ _⟩
 case round=>
  obtain⟨k,zs,hk,rfl,H2,Hf,Hl,hb⟩:=hrel;have Hx:=qI H2;have H3:=qI Hl;have HB:=qI hb;obtain⟨pa,pc,HW⟩:=gI Hf;rw[Q9] at HW;subst HW;have Hm:=qI Hf;have ha:=hb.size;clear H2 Hl Hf
  by_cases hlt:k<hs.length
  ·obtain⟨b,ob,cv,gvv,rfl,Hw⟩:=HR.o (by omega);have hle:=HL.o.trans (aZ.of_below hb);obtain⟨x0,x1,x2,x3⟩:=(Hw.2 k hlt).1;have x0:=hle.cell _ _ _ x0;have x1:=hle.cell _ _ _ x1;have x2:=hle.cell _ _ _ x2;have x3:=hle.cell _ _ _ x3;have Hp:=(Hw.2 k hlt).2.1;have Hn:=(Hw.2 k hlt).2.2;obtain⟨HD,hu⟩:=H6.o (ag hs k) (by simp[ag,hlt]);have HO:=qI (TM hlt);have hL:zs.length<=300:=by
    have h1:zs.length=(aN (hs.take k)).length:=by rw[<- Hx.o,Q9]
    have h2:=TN (λx hx=>(H6.o x hx).2) k;omega
   obtain⟨ca,cc,HM,hD,Hz⟩:=id Hp;obtain⟨ga,gc,HP,H7,Hy⟩:=id Hn;rw[HM] at x2;rw[HP] at x3;clear Hw Hp Hn hb HM HP hle;generalize ag hs k=x at *;obtain⟨⟨xn,xp,xc⟩,xg⟩:=x;dsimp only at x0 x1 x2 x3 Hz Hy HO HD hu hD H7;have hy:=qI Hz;have hp:=qI Hy;have HU:=qI ((Q0 wr wr).alloc (lR) (.cells #[xn,(xp:Int),.slice ca xc.length cc,.slice ga xg.length gc] 101));have Hr:=qI (show gj w (wr.alloc (.cells #[xn,(xp:Int),.slice ca xc.length cc,.slice ga xg.length gc] 101)) (.slice pa zs.length pc) (zs.map Prod.fst) from Hm.o.alloc _);have hG:(wr.alloc (.cells #[xn,(xp:Int),.slice ca xc.length cc,.slice ga xg.length gc] 101)).heap.size=wr.heap.size+1:=by simp
   have HH:=qI (bd wr (.cells #[xn,(xp:Int),.slice ca xc.length cc,.slice ga xg.length gc] 101) rfl);have y0:(wr.alloc (.cells #[xn,(xp:Int),.slice ca xc.length cc,.slice ga xg.length gc] 101)).cell? wr.heap.size=some (.string xn):=by simp
   have y2:(wr.alloc (.cells #[xn,(xp:Int),.slice ca xc.length cc,.slice ga xg.length gc] 101)).cell? ⟨wr,2,none⟩=some (.slice ca xc.length cc):=by simp
   have y3:(wr.alloc (.cells #[xn,(xp:Int),.slice ca xc.length cc,.slice ga xg.length gc] 101)).cell? ⟨wr,3,none⟩=some (.slice ga xg.length gc):=by simp
   have HK:=qI HD;clear Hz Hy HD
   go_wp2_with fail
   generalize wr.alloc (.cells #[xn,(xp:Int),.slice ca xc.length cc,.slice ga xg.length gc] 101)=U at *;clear x0 x1 x2 x3;generalize hBh:wr.heap.size=Bh at *;have he:=qI (HB.o.trans (HU.o.mono ha));clear y0 y2 y3
   go_loopw [3,17] (λpv i wr=>∃(j:Nat) (zq:List (RV × Rn)),j<=xg.length/\i=.int .i64 j/\zq.map Prod.snd=aN (hs.take k)++(List.range j).map (pO ⟨⟨xn,xp,xc⟩,xg⟩)/\gj w wr pv (zq.map Prod.fst)/\(∀z∈zq,um W0 z)/\Apart (λb=>w.heap.size<=b/\b≠Bh) U wr/\zq.length=zs.length+j) (λ_ i _=>xg.length - (intOf i).toNat)
   case atStart=>exact⟨0,zs,by omega,rfl,by rw[Hx.o];simp,Hr.o,H3.o,Apart.refl _ _,rfl⟩
   case round=>
    obtain⟨j,zq,hj,rfl,H1,HF,Hl,Hv,HT⟩:=hrel;have hg:=qI HT;have hq:zq.length<=303:=by omega
    clear HT;have HY:=qI H1;have Hk:=qI Hl;have H4:=qI Hv;have H9:=Hv.size;have HG:=Hv.below he.o (lR) λb hb=>hb.1;have hB:=qI HG;obtain⟨va,vc,hv⟩:=gI HF;rw[Q9] at hv;subst hv;have Ht:=qI HF;clear H1 Hl HF
    by_cases hjt:j<xg.length
    ·obtain⟨gb,go,dv,rfl,Hq⟩:=hp.o (by omega);obtain⟨cb,co,cdv,rfl,Hg⟩:=hy.o (by have:=HK.o;omega);have hle:=HL.o.trans (aZ.of_below HG);obtain⟨⟨g0,g1,g2⟩,Hc⟩:=Hq.2 j hjt;have g0:=hle.cell _ _ _ g0;have g1:=hle.cell _ _ _ g1;have c0:wr.cell? ⟨cb,co+j*6,none⟩=some (.string (ae xc j).nm):=by
      have:=(Hg.2 j (by have:=HK.o;omega)).1 0 (by decide)
      exact hle.cell _ _ _ this
     have Ho:=qI Hc;obtain⟨ia,ic,HX,_⟩:=id Hc;rw[HX] at g1 Ho;have Hs:pO ⟨⟨xn,xp,xc⟩,xg⟩ j=⟨xn,(ae xc j).nm,((aD xg j).cp:Int),(aD xg j).dv⟩:=rfl;have HC:=qI Hs;have hI:cb<wr.heap.size:=Q3 _ ⟨cb,co+j*6,none⟩ c0;have ht:cb<w.heap.size:=Q1 Hg.1 HL.o.size;clear Hq Hg Hc HX Hs Hv HG hle;generalize (aD xg j).cp=cp at *;generalize (aD xg j).dv=xs at *;generalize (ae xc j).nm=cn at *;have hh:=(H4.o.block Bh (by omega) (by omega)).trans HH.o;have hc:=qI hh;have z0:wr.cell? Bh=some (.string xn):=ad hh 0;have z2:wr.cell? ⟨Bh,2,none⟩=some (.slice (some ⟨cb,co,none⟩) xc.length cc):=ad hh 2;clear hh;have HV:(j:Int)<(xg.length:Int):=by omega
     have hM:(j:Int)<(xc.length:Int):=by have:=HK.o;omega
     have HQ:=qI ((Q0 wr wr).alloc (lR) (.cells #[.int .u64 cp,.slice ia xs.length ic] 123));have HI:=qI (show gj w (wr.alloc (.cells #[.int .u64 cp,.slice ia xs.length ic] 123)).drew (.slice va zq.length vc) (zq.map Prod.fst) from Ht.o.alloc _);have H5:(wr.alloc (.cells #[.int .u64 cp,.slice ia xs.length ic] 123)).heap.size=wr.heap.size+1:=by simp
     have HS:Hu ((wr.alloc (.cells #[.int .u64 cp,.slice ia xs.length ic] 123)).drew.cell? Bh=some (.string xn)/\(wr.alloc (.cells #[.int .u64 cp,.slice ia xs.length ic] 123)).drew.cell? ⟨Bh,2,none⟩=some (.slice (some ⟨cb,co,none⟩) xc.length cc)/\(wr.alloc (.cells #[.int .u64 cp,.slice ia xs.length ic] 123)).drew.cell? ⟨cb,co+j*6,none⟩=some (.string cn)/\(wr.alloc (.cells #[.int .u64 cp,.slice ia xs.length ic] 123)).drew.cell? wr.heap.size=some (.int .u64 cp)/\(wr.alloc (.cells #[.int .u64 cp,.slice ia xs.length ic] 123)).drew.cell? ⟨wr,1,none⟩=some (.slice ia xs.length ic)):=
      ⟨(HQ.o.cell (p:=Bh) (by show Bh<wr.heap.size;omega)).trans z0,(HQ.o.cell (p:=⟨Bh,2,none⟩) (by show Bh<wr.heap.size;omega)).trans z2,(HQ.o.cell (p:=⟨cb,co+j*6,none⟩) (by show cb<wr.heap.size;omega)).trans c0,ad (W:=(wr.alloc (.cells #[.int .u64 cp,.slice ia xs.length ic] 123)).drew) (bd wr (.cells #[.int .u64 cp,.slice ia xs.length ic] 123) rfl) 0,ad (W:=(wr.alloc (.cells #[.int .u64 cp,.slice ia xs.length ic] 123)).drew) (bd wr (.cells #[.int .u64 cp,.slice ia xs.length ic] 123) rfl) 1⟩
     go_wp2_with fail
     generalize wr.alloc (.cells #[.int .u64 cp,.slice ia xs.length ic] 123)=Q at *;clear g0 g1 z0 z2 c0;generalize hBg:wr.heap.size=Bg at *;have hN:=D6 Q.drew ⟨xn,cn,cp,ia,xs.length,ic⟩ 129;rw[show Q.drew.heap.size=Bg+1 from H5] at hN;have HN:=qI hN;clear hN;refine wp_region_held_drew (S:=ye Bh xn cb co xc.length cc j cn Bg cp ia xs.length ic) (by kernel_rfl) HS.o λhQ=>?_;refine tk 0 ?_;refine tk 1 ?_;refine tk 2 ?_;refine tk 3 ?_;refine tk 4 ?_;refine tk 5 ?_;refine tk 6 ?_;refine tk 7 ?_;refine tk 8 ?_;refine tk 9 ?_;refine tk 10 ?_;refine tk 11 ?_;refine tk 12 ?_;refine tk 13 ?_;refine tk 14 ?_;refine tk 15 ?_;have He:=(Q0 Q.drew Q.drew).alloc (lR) (.cells #[xn,cn,.int .u64 cp,.slice ia xs.length ic] 129);have Hh:Hu ((ye Bh xn cb co xc.length cc j cn Bg cp ia xs.length ic) (Q.drew.alloc (.cells #[xn,cn,.int .u64 cp,.slice ia xs.length ic] 129))):=⟨(He.cell (p:=Bh) (by show Bh<Q.heap.size;omega)).trans HS.o.1,(He.cell (p:=⟨Bh,2,none⟩) (by show Bh<Q.heap.size;omega)).trans HS.o.2.1,(He.cell (p:=⟨cb,co+j*6,none⟩) (by show cb<Q.heap.size;omega)).trans HS.o.2.2.1,(He.cell (p:=Bg) (by show Bg<Q.heap.size;omega)).trans HS.o.2.2.2.1,(He.cell (p:=⟨Bg,1,none⟩) (by show Bg<Q.heap.size;omega)).trans HS.o.2.2.2.2⟩;have hE:=qI He;clear He;refine rd 16 λK hK=>?_;go_simp
     go_wp2_with fail
     refine hK.o _ _ Hh.o λhQ=>?_;clear hK K;refine rd 17 λK hK=>?_;rw[if_pos (by rfl)];have hH:(zq.map Prod.fst).length<=400:=by rw[Q9];omega
     refine wp_append_own (o := { dst := some 39, op := Op.call { callee := Callee.builtin Builtin.append, args := #[Operand.tmp 22, Operand.tmp 38], argTypes := #[120, 120] }, type := 120, pos := "run.go:37", after := #[{ on := 0, ground := Ground.data }, { on := 16, ground := Ground.data }], guard := none }) _ _ _ 120 rfl w.heap.size 129 i0 (.agg #[.string ByteArray.empty, .string ByteArray.empty, .int .u64 0, .slice none 0 0]) 4 64 underlying120 hi hA ho hn rfl (by decide) (.slice va zq.length vc) _ _ rfl (HI.o.alloc _) ⟨_, 0, none⟩ 1 1 (RV.cells ⟨xn, cn, cp, ia, xs.length, ic⟩) rfl rfl HN.o (TP _) (by unfold maxLen; omega) (by omega) (by show w.heap.size ≤ (Q.drew.alloc _).heap.size; rw[World.size_alloc]; show w.heap.size ≤ Q.heap.size + 1; omega) ?_
     intro v' W3 Hb Ha _;have HA:∀b,(Value.slice va zq.length vc).ownBlock=some b->w.heap.size<=b/\b≠Bh:=λb hb=>⟨(Ht.o.lt b hb).1,λe=>TO Ht.o hc.o (by decide) (by rw[hb,e])⟩
     have hw:=qI (gj.push Hb);have H8:Hu (Apart (λb=>w.heap.size<=b/\b≠Bh) U W3):=(H4.o.trans (Apart.of_below ((show Below wr wr Q from hBg ▸ HQ.o).trans (bB ((Q0 wr Q).alloc (by omega) _))))).trans (gm Ha λb hb _=>HA b hb);have Hi:some Bh≠(Value.slice va zq.length vc).ownBlock:=λe=>(HA Bh e.symm).2 rfl
     have Hj:some Bg≠(Value.slice va zq.length vc).ownBlock:=λe=>by have:=(Ht.o.lt Bg e.symm).2;omega
     have HJ:some cb≠(Value.slice va zq.length vc).ownBlock:=λe=>by have:=(HA cb e.symm).1;omega
     have hJ:(Q.alloc (.cells #[xn,cn,.int .u64 cp,.slice ia xs.length ic] 129)).drew.heap.size=Bg+2:=by show (Q.alloc _).heap.size=_;rw[World.size_alloc,H5]
     have hF:=Ha.size;have H0:(ye Bh xn cb co xc.length cc j cn Bg cp ia xs.length ic) W3:=⟨(Ha.cell_far Bh (by show Bh<_;omega) Hi).trans Hh.o.1,(Ha.cell_far ⟨Bh,2,none⟩ (by show Bh<_;omega) Hi).trans Hh.o.2.1,(Ha.cell_far ⟨cb,co+j*6,none⟩ (by show cb<_;omega) HJ).trans Hh.o.2.2.1,(Ha.cell_far Bg (by show Bg<_;omega) Hj).trans Hh.o.2.2.2.1,(Ha.cell_far ⟨Bg,1,none⟩ (by show Bg<_;omega) Hj).trans Hh.o.2.2.2.2⟩;refine hK.o _ _ H0 λhQ=>?_;clear hK K;(try simp only[Act.put,s1,s2,s3]);refine tk 18 ?_;refine Qn (by kernel_rfl) ?_ _;clear hQ Hb Ha H0
     go_wp2
     go_roundw
     case rel=>
      refine⟨j+1,zq++[(⟨xn,cn,cp,ia,xs.length,ic⟩,⟨xn,cn,cp,xs⟩)],by omega,by go_num,?_,by rw[Qj];exact hw.o,λz hz=>?_,H8.o,by rw[Q2,hg.o];rfl⟩
      ·rw[Qj,HY.o,List.range_succ,Qj,List.append_assoc,List.map_singleton,List.map_singleton,HC.o]
      ·rcases Qi.1 hz with hz|hz
       ·exact Hk.o z hz
       ·rw[Qm.1 hz];exact⟨rfl,rfl,rfl,Ho.o⟩
     case measure=>simp[intOf];omega
    ·have hC:j=xg.length:=by omega
     subst hC;have hf:Hu (zq.map Prod.snd=aN (hs.take (k+1))):=by unfold Hu;rw[HY.o,HO.o]
     go_wp2
     go_roundw
     case rel=>exact⟨k+1,zq,by omega,by go_num,hf.o,Ht.o,Hk.o,hB.o⟩
     case measure=>simp[intOf];omega
  ·have HZ:k=hs.length:=by omega
   have HE:Hu (zs.map Prod.snd=aN hs):=by unfold Hu;rw[Hx.o,HZ,Qh]
   clear HZ
   go_wp2
   go_ret;exact⟨_,zs,rfl,HE.o,Hm.o,H3.o,HB.o⟩
theorem jG.blockO{w':World}(h:jG w g k x)(m:w'.heap[g]?=w.heap[g]?):jG w' g k x:=by
 obtain⟨⟨a,b,c,d⟩,e,f,n,i⟩:=h;have cc:∀j,w'.cell? ⟨g,j,none⟩=w.cell? ⟨g,j,none⟩:=λj=>World.cell?_of_block (a:=⟨g,j,none⟩) m
 have l:∀j,w'.frozen? ⟨g,j,none⟩=w.frozen? ⟨g,j,none⟩:=λj=>by simp[World.frozen?,m]
 exact⟨⟨by rw[cc];exact a,by rw[cc];exact b,by rw[cc];exact c,by rw[cc];exact d⟩,by rw[l];exact e,by rw[l];exact f,by rw[l];exact n,by rw[l];exact i⟩
theorem oD(h:mT base W v ys)(l:∀j,base<=j->j<W.heap.size->W'.heap[j]?=W.heap[j]?)(hs:W<=W'.heap.size):mT base W' v ys:=by
 obtain⟨a,c,m,Ha,n⟩:=h;refine⟨a,c,m,Ha,λf=>?_⟩;obtain⟨g,i,d,e,o⟩:=n f;exact⟨g,i,d,Q1 e hs,λk b=>(o k b).blockO (l g d e)⟩
theorem TR(h:gj base w v ys):mT base w v ys:=by
 have m:=h
 rcases h.2 with⟨c,l⟩|⟨g,b,e,c,i,Ha,Hb,Hc,_⟩
 ·exact⟨none,0,by rw[c,l],by omega,λn=>by omega⟩
 ·subst c;refine⟨_,b,rfl,Hb,λ_=>⟨g,rfl,i,(gS Ha).1,λk d=>?_⟩⟩;have a:∀j,w.frozen? ⟨g,j,none⟩=false:=λj=>by simp[World.frozen?,Ha]
  have cc:∀j,j<4->w.cell? ⟨g,k*4+j,none⟩=(RV.cells (rv ys k))[j]?:=λj f=>by
   rw[World.ownsRow.cellAt m (k*4+j) (by omega)];exact Ek ys k d j f
  exact⟨⟨cc 0 (by decide),cc 1 (by decide),cc 2 (by decide),cc 3 (by decide)⟩,a _,a _,a _,a _⟩
theorem EC(h:ce W y)(hf:∀g o,0<y.dn->y.da=some ⟨g,o,none⟩->W'.heap[g]?=W.heap[g]?)(hs:W<=W'.heap.size):ce W' y/\bm W' y=bm W y:=by
 by_cases a:0<y.dn
 ·exact rD h (λg o c _=>hf g o a c) hs
 ·refine⟨λb=>absurd b a,?_⟩
  have:y.dn=0:=by omega
  simp[bm,this]
abbrev gQ (Bd Bm:Nat):Nat->Prop:=λb=>b=Bd\/b=Bm
theorem TS(h:bT Bd Bm W W'):aZ (au (gQ Bd Bm) W) (au (gQ Bd Bm) W'):=by grind[bE,h.block,h.size]
theorem zed{z:RV × Rn}(h:um (au (gQ Bd Bm) w) z)(l:bT Bd Bm w W):ce W z.1/\aW W z.1=z.2/\oB Bd z.1/\z.1.dn=z.2.devs.length:=by
 obtain⟨k,f,j,p⟩:=h;have b:=p.le (TS l);obtain⟨a,n,d⟩:=Ey (b.le (cJ _ _));refine⟨a,?_,?_,d⟩
 ·unfold aW;rw[k,f,j,n]
 ·intro c g o m e;obtain⟨a,_,_⟩:=Ey b;obtain⟨r,q,Ha,_,i⟩:=a c;rw[m] at Ha;injection Ha with Ha
  injection Ha with e1 e2
  subst e1;exact fk (i 0 c) (.inl e)
theorem ED:(ys.any λy=>eB W y r)=true↔aW W r∈ys.map (aW W):=by grind[TH]
open Classical in
noncomputable def dS (rs ws:List Rn):Nat:=(ws.filter λr=>decide (r ∉ rs)).length
theorem uo(rs ws:List Rn):dS rs ws<=ws.length:=List.length_filter_le _ _
theorem TT{rs ws:List Rn}(h:k<ws.length):dS rs (ws.take k)<=dS rs (ws.take (k+1))/\(ws[k] ∉ rs->dS rs (ws.take (k+1))=dS rs (ws.take k)+1):=by
 unfold dS;rw[Qa h,List.filter_append,Q2];refine⟨Nat.le_add_right _ _,λa=>?_⟩
 simp[a]
theorem uq(A s q n:Nat)(C F:Sd)(rs:List Rn)(v:Value)(hs:List af)(w:World)(hE:bL w A s q n C F (λa=>a∈rs))(hH:aY (au (gQ s q) w) v hs)(V:bw hs=0)(hn:n+36<=1000) :
  Calls prog 57 #[A,v] w λe w'=>e=.returned .nilIface/\(∃n',n'<=n+dS rs (aN hs)/\bL w' A s q n' C F λa=>a∈aN hs)/\bT s q w w':=by
 obtain⟨h8,h4,hW⟩:=hE.lt;obtain⟨hV,h9,h3⟩:=hE.apart;have HE:=qI hE;have hN:=qI (TB V);have hJ:=qI (yb V);have hl:=qI (TC V);obtain⟨f1,f2,_⟩:=cW.1 V;have HM:=qI λ(W:World) (l:aZ (au (gQ s q) w) W)=>TQ v hs W _ hH l (by omega) λx G=>⟨(f2 x G).2.1,by have:=(jv (f2 x G).1).2.2.1;have:=(f2 x G).2.1;omega⟩;obtain⟨he,ag,xs,hm,H4,H9⟩:=hE;have hB:xs.length<=1000:=by
  obtain⟨_,es,ho,hp⟩:=hm;have h1:=ho.size_le;have h2:=hp.length_eq;unfold mS at h2;rw[Q9] at h2;rw[Go.Maps.size_eq] at h1;omega
 have Hr:=qI (Tk A s q n xs w he hm hB λx G=>⟨(H4 x G).1.1,(H4 x G).2⟩);have hq:=qI H9;have hw:=qI hm.1;have HP:=qI (TD (W:=w) hm.keys);obtain⟨ao,c,rfl,_,_⟩:=hH;clear V f1 f2 he ag hm H4 H9
 go_enter func57,ntmps57
 go_wp2_with fail
 refine Hr.o.mono ?_;rintro e W1 ⟨⟨v1,b,rfl,hh,hg,He,_⟩,Hv⟩;have h7:=qI Hv;clear Hr
 go_wp2_with fail
 refine (HM.o W1 ((cJ _ _).trans (aZ.of_below Hv))).mono ?_;rintro e f ⟨v2,d,rfl,H,H7,H8,Hz⟩;clear HM;have hZ:=Hv.size;have hX:=Hz.size;have hA:=qI (Hv.trans (Hz.mono Hv.size));have HQ:=qI (bT.of_below (B1:=s) (B2:=q) (Hv.trans (Hz.mono Hv.size)));have HX:=qI (oD hh (λj _ Y=>Hz.block j Y) Hz.size);have H1:=qI (TR H7);have HY:Hu (∀y∈b,((ce f y/\y.dn<=1000)/\kX w y)/\aW f y=aW W1 y):=λy t=>by
  obtain⟨⟨B,T⟩,Q⟩:=hg y t;obtain⟨M,R⟩:=B.below Hz λ_ _ _ h=>h;exact⟨⟨⟨M,T⟩,Q⟩,by unfold aW;rw[R]⟩
 have Hm:b.map (aW f)=b.map (aW W1):=List.map_congr_left λy t=>(HY.o y t).2
 have HL:Hu (∀a,a∈b.map (aW f)↔a∈rs):=λa=>by rw[Hm,He.mem_iff];exact hq.o a
 have hD:Hu (((b.map (aW f)).map kY).Nodup):=by unfold Hu;rw[Hm];exact (He.map kY).nodup_iff.2 HP.o
 have hY:b.length<=1000:=by
  have:=He.length_eq
  rw[Q9,Q9] at this;omega
 have hR:Hu (∀y∈b,y.Short):=λy t=>by
  have h1:aW W1 y∈xs.map (aW w):=He.mem_iff.1 (Qk.2 ⟨y,t,rfl⟩);obtain⟨x,G,e⟩:=Qk.1 h1
  have:=hw.o x G
  have M:x.pod=y.pod:=congrArg Rn.pod e;have R:x.cont=y.cont:=congrArg Rn.cont e;unfold RV.Short at *;rw[<- M,<- R];exact this
 have S:=qI H;have U:=qI H8;have h6:d.length<=36:=by
  have:=hJ.o
  rw[<- H,Q9] at this;exact this
 have hO:=qI (HE.o.below hA.o);clear hh hg He Hv Hz H H7 H8 Hm HP hq;obtain⟨a1,c1,hU,_,_⟩:=id HX.o;subst hU;obtain⟨a2,c2,hb,_,_⟩:=id H1.o;rw[Q9] at hb;subst hb
 go_wp2
 go_loopw [19] (λi wr=>∃k:Nat,k<=b.length/\i=.int .i64 k/\bL wr A s q n C F (λa=>a∈b.map (aW f)/\(a∈aN hs\/a∈(b.map (aW f)).drop k))/\bT s q f wr) (λi _=>b.length - (intOf i).toNat)
 case atStart=>exact⟨0,by omega,rfl,hO.o.congr (λa=>by rw[List.drop_zero,HL.o a];exact⟨λh=>⟨h,.inr h⟩,λh=>h.1⟩),bT.refl _ _ _⟩
 case round=>
  obtain⟨k,hk,rfl,X,Ha⟩:=hrel;have Ht:=qI X;have Hx:=qI Ha;have hK:=Ha.size;clear X
  by_cases o:k<b.length
  ·have HV:=oD HX.o (W':=wr) (λj Y p=>Ha.block j p (by omega) (by omega)) Ha.size;obtain⟨j2,j4,H6,_,Hl⟩:=HV;injection H6 with M R e3
   subst M e3;obtain⟨g,rfl,ht,hC,HH⟩:=Hl (by omega);obtain⟨⟨x0,x1,x2,x3⟩,_⟩:=HH k o;have HD:=xU o;obtain⟨⟨⟨B,T⟩,Q⟩,_⟩:=HY.o _ HD;obtain⟨hL,hG⟩:=hR.o _ HD;have K:(b.map (aW f))[k]'(by rw[Q9];exact o)=aW f (rv b k):=by simp[rv,o]
   obtain⟨d4,d5⟩:=EC (W':=wr) B (λgg oo h0 L=>by
    obtain⟨g2,Hh,hP⟩:=Q h0;rw[L] at Hh;injection Hh with Hh
    injection Hh with Hh
    subst Hh;obtain⟨g4,o4,Hi,H5,_⟩:=B h0;rw[L] at Hi;injection Hi with Hi
    injection Hi with Hi
    subst Hi;exact Ha.block _ H5 (by omega) (by omega)) Ha.size
   have Hg:=qI ((Q0 wr wr).alloc (lR) (cE (rv b k)));obtain⟨d6,d7⟩:=d4.below Hg.o λ_ _ _ h=>h;have Hw:Hu (aW (wr.alloc (cE (rv b k))) (rv b k)=aW f (rv b k)):=by unfold Hu aW;rw[d7,d5]
   have N:=qI ((HQ.o.trans Ha).trans (bT.of_below Hg.o));have Hc:=qI (EB (.slice a2 d.length c2) (d.map Prod.fst) (rv b k) W1 (wr.alloc (cE (rv b k))) (oD (oD H1.o (λj Y p=>Ha.block j p (by omega) (by omega)) Ha.size) (λj _ p=>Hg.o.block j p) Hg.o.size) (λy t=>by
    obtain⟨z,H,rfl⟩:=Qk.1 t;obtain⟨E,_,_,q4⟩:=zed (U.o z H) N.o
    have:=(hl.o z.2 (by rw[<- S.o];exact Qk.2 ⟨z,H,rfl⟩)).2.2
    exact⟨E,by omega⟩) ⟨d6,T⟩ (by rw[Q9];omega))
   have Hb:Hu ((((d.map Prod.fst).any λy=>eB (wr.alloc (cE (rv b k))) y (rv b k))=true)↔(b.map (aW f))[k]'(by rw[Q9];exact o)∈aN hs):=by
    unfold Hu;rw[ED,Hw.o,K,List.map_map];have e:d.map (aW (wr.alloc (cE (rv b k))) ∘ Prod.fst)=aN hs:=by
     rw[<- S.o];exact List.map_congr_left λz H=>(zed (U.o z H) N.o).2.1
    rw[e]
   have Hj:Hu ((wr.alloc (cE (rv b k))).heap[wr.heap.size]?=some (cE (rv b k))):=bd wr (cE (rv b k)) rfl;have Hf:k<(b.map (aW f)).length:=by rw[Q9];exact o
   have P:=qI K;have hT:(k:Int)<(b.length:Int):=by omega
   have HS:(wr.alloc (cE (rv b k))).heap.size=wr.heap.size+1:=by simp
   clear HH Hl B T Q d4 d5 d6 d7 K HD;generalize rv b k=y at *;unfold cE at Hc Hj Hg HS Hb N;generalize ((d.map Prod.fst).any λz=>eB _ z y)=bb at *
   go_wp2_with fail
   generalize wr.alloc (.cells #[y.pod,y.cont,.int .u64 y.cpus,.slice y.da y.dn y.dc] 129)=W3 at *;refine Hc.o.mono ?_;rintro e u ⟨rfl,J⟩;have Ho:=qI (Hg.o.trans (J.mono (by omega)));have Hp:=(J.block wr (by omega)).trans Hj.o;have b0:cl u wr (0) y.pod:=ad Hp 0;have b1:cl u wr (1) y.cont:=ad Hp 1;clear J Hp Hc x0 x1 x2 x3
   rcases two bb with I|I
   ·subst I;have D:=qI (Hb.o.1 rfl)
    go_wp2
    go_roundw
    case rel=>exact⟨k+1,by omega,by go_num,(Ht.o.below Ho.o).congr λa=>(Np Hf D.o a).symm,Hx.o.trans (bT.of_below Ho.o)⟩
    case measure=>simp[intOf];omega
   ·subst I;have D:Hu ((b.map (aW f))[k]'Hf ∉ aN hs):=λh=>by have:=Hb.o.2 h;cases this
    have Hq:=qI (TE A s q n C F _ y.pod y.cont u (Ht.o.below Ho.o) hL hG ⟨(b.map (aW f))[k]'Hf,⟨List.getElem_mem Hf,.inr (by rw[List.drop_eq_getElem_cons Hf];exact List.mem_cons_self ..)⟩,by rw[P.o];rfl⟩)
    go_wp2_with fail
    refine Hq.o.mono ?_;rintro e W5 ⟨rfl,HJ,Z⟩;have HU:=qI HJ;have H0:=qI ((Hx.o.trans (bT.of_below Ho.o)).trans Z);clear HJ Z Hq
    go_wp2
    go_roundw
    case rel=>exact⟨k+1,by omega,by go_num,HU.o.congr (λa=>by rw[No kY Hf hD.o D.o a,P.o];rfl),H0.o⟩
    case measure=>simp[intOf];omega
  ·have H2:k=b.length:=by omega
   subst H2;have hS:Hu (bL wr A s q n C F λa=>a∈aN hs/\(a∈b.map (aW f)\/a∈(aN hs).take 0)):=Ht.o.congr (λa=>by
    have:=Nq (runs:=b.map (aW f)) (wanted:=aN hs) a
    rw[Q9] at this;exact this)
   generalize hwm:wr=WM at *;clear hwm Ht
   go_wp2
   go_loopw [38] (λi wr=>∃k m:Nat,k<=d.length/\i=.int .i64 k/\m<=n+dS rs ((aN hs).take k)/\bL wr A s q m C F (λa=>a∈aN hs/\(a∈b.map (aW f)\/a∈(aN hs).take k))/\bT s q f wr) (λi _=>d.length - (intOf i).toNat)
   case atStart=>exact⟨0,n,by omega,rfl,by omega,hS.o,Hx.o⟩
   case round=>
    obtain⟨k,m,hk,rfl,hi,X,Ha⟩:=hrel;have Ht:=qI X;have Hx:=qI Ha;have hK:=Ha.size;clear X
    by_cases o:k<d.length
    ·have HV:=oD H1.o (W':=wr) (λj Y p=>Ha.block j p (by omega) (by omega)) Ha.size;obtain⟨j3,j5,H6,_,Hl⟩:=HV;injection H6 with M R e3
     subst M e3;clear R;obtain⟨g,rfl,ht,hC,HH⟩:=Hl (by rw[Q9];omega);have Hk:d[k]∈d:=List.getElem_mem o;have HI:rv (d.map Prod.fst) k=d[k].1:=by simp[rv,o]
     have hc:=HH k (by rw[Q9];exact o);rw[HI] at hc;obtain⟨⟨x0,x1,x2,x3⟩,_⟩:=hc;have Hf:k<(aN hs).length:=by rw[<- S.o,Q9];exact o
     have K:(aN hs)[k]'Hf=d[k].2:=by simp[<- S.o]
     have Hg:=qI ((Q0 wr wr).alloc (lR) (cE d[k].1));have N:=qI ((HQ.o.trans Ha).trans (bT.of_below Hg.o));obtain⟨E,O,q3,q4⟩:=zed (U.o _ Hk) N.o;obtain⟨j0,Jx,j1⟩:=hl.o d[k].2 (by rw[<- S.o];exact Qk.2 ⟨_,Hk,rfl⟩);obtain⟨p1,p2,p3,p4⟩:=U.o _ Hk;clear p3 p4;have HR:Hu (∀y∈b,ce (wr.alloc (cE d[k].1)) y/\y.dn<=1000/\aW (wr.alloc (cE d[k].1)) y=aW f y):=λy t=>by
      obtain⟨⟨⟨B,T⟩,Q⟩,_⟩:=HY.o y t;obtain⟨d4,d5⟩:=EC (W':=wr.alloc (cE d[k].1)) B (λgg oo h0 L=>by
       obtain⟨g2,Hh,hP⟩:=Q h0;rw[L] at Hh;injection Hh with Hh
       injection Hh with Hh
       subst Hh;obtain⟨g4,o4,Hi,H5,_⟩:=B h0;rw[L] at Hi;injection Hi with Hi
       injection Hi with Hi
       subst Hi;exact (Hg.o.block _ (by omega)).trans (Ha.block _ H5 (by omega) (by omega))) (Q5 Ha.size Hg.o.size)
      exact⟨d4,T,by unfold aW;rw[d5]⟩
     have Hc:=qI (EB (.slice a1 b.length c1) b d[k].1 w (wr.alloc (cE d[k].1)) (oD (oD HX.o (λj Y p=>Ha.block j p (by omega) (by omega)) Ha.size) (λj _ p=>Hg.o.block j p) Hg.o.size) (λy t=>⟨(HR.o y t).1,(HR.o y t).2.1⟩) ⟨E,by omega⟩ (by omega));have Hb:Hu (((b.any λy=>eB (wr.alloc (cE d[k].1)) y d[k].1)=true)↔(aN hs)[k]'Hf∈b.map (aW f)):=by
      unfold Hu;rw[ED,O,K,List.map_congr_left λy t=>(HR.o y t).2.2]
     have Hj:Hu ((wr.alloc (cE d[k].1)).heap[wr.heap.size]?=some (cE d[k].1)):=bd wr (cE d[k].1) rfl;have P:=qI K;have Hs:=qI (U.o _ Hk);have hr:=qI (TT (rs:=rs) Hf);have Hy:=uo rs ((aN hs).take k);rw[Qu] at Hy;have hT:(k:Int)<(d.length:Int):=by omega
     have HS:(wr.alloc (cE d[k].1)).heap.size=wr.heap.size+1:=by simp
     clear HH Hl E O q3 K Hk HR HI;generalize d[k]=z at *;obtain⟨y,r⟩:=z;dsimp only at x0 x1 x2 x3 Hc Hj Hg HS Hb N P Hs j0 Jx j1 p1 p2 q4;have hI:y.pod.size<=7000:=by rw[p1];exact j0
     have hM:y.cont.size<=7000:=by rw[p2];exact Jx
     have h5:y.dn<=16:=by omega
     clear p1 p2 q4;have H3:=qI Hy;clear Hy;unfold cE at Hc Hj Hg HS Hb N;generalize (b.any λz=>eB _ z y)=bb at *
     go_wp2_with fail
     generalize wr.alloc (.cells #[y.pod,y.cont,.int .u64 y.cpus,.slice y.da y.dn y.dc] 129)=W3 at *;refine Hc.o.mono ?_;rintro e u ⟨rfl,J⟩;have Ho:=qI (Hg.o.trans (J.mono (by omega)));have Hp:=(J.block wr (by omega)).trans Hj.o;have b0:cl u wr (0) y.pod:=ad Hp 0;have b1:cl u wr (1) y.cont:=ad Hp 1;have b2:cl u wr (2) (.int .u64 y.cpus):=ad Hp 2;have b3:cl u wr (3) (.slice y.da y.dn y.dc):=ad Hp 3;clear J Hp Hc x0 x1 x2 x3
     rcases two bb with I|I
     ·subst I;have D:=qI (Hb.o.1 rfl)
      go_wp2
      go_roundw
      case rel=>exact⟨k+1,m,by omega,by go_num,by have:=hr.o.1;omega,(Ht.o.below Ho.o).congr λa=>(Nr Hf D.o a).symm,Hx.o.trans (bT.of_below Ho.o)⟩
      case measure=>simp[intOf];omega
     ·subst I;have D:Hu ((aN hs)[k]'Hf ∉ b.map (aW f)):=λh=>by have:=Hb.o.2 h;cases this
      obtain⟨E,O,q3,q5⟩:=zed Hs.o ((HQ.o.trans Ha).trans (bT.of_below Ho.o));clear q5;dsimp only at E O q3;have Hn:=qI (TF A s q m C F _ y u (Ht.o.below Ho.o) ⟨hI,hM⟩ E q3 (by omega) (by have:=H3.o;omega) (λa L=>by
       have:=Ns kY Hf hN.o D.o a L
       rw[P.o,<- O] at this;exact this))
      have Hw:Hu (aW u y=(aN hs)[k]'Hf):=by unfold Hu;rw[O,P.o]
      have hv:Hu (∀a,((a∈aN hs/\(a∈b.map (aW f)\/a∈(aN hs).take k))\/a=aW u y)↔(a∈aN hs/\(a∈b.map (aW f)\/a∈(aN hs).take (k+1)))):=λa=>by
       rw[Hw.o];exact (Ck Hf a).symm
      have hu:Hu (m+1<=n+dS rs ((aN hs).take (k+1))):=by
       unfold Hu
       have:=hr.o.2 λh=>D.o ((HL.o _).2 h)
       omega
      clear E O q3
      go_wp2_with fail
      refine Hn.o.mono ?_;rintro e W5 ⟨rfl,HJ,Z⟩;have HU:=qI HJ;have H0:=qI ((Hx.o.trans (bT.of_below Ho.o)).trans Z);clear HJ Z Hn
      go_wp2
      go_roundw
      case rel=>exact⟨k+1,m+1,by omega,by go_num,hu.o,HU.o.congr hv.o,H0.o⟩
      case measure=>simp[intOf];omega
    ·have H2:k=d.length:=by omega
     subst H2;have hf:(aN hs).length=d.length:=by rw[<- S.o,Q9]
     have HT:Hu (∃n',n'<=n+dS rs (aN hs)/\bL wr A s q n' C F λa=>a∈aN hs):=by
      refine⟨m,?_,Ht.o.congr λa=>?_⟩
      ·rw[<- hf,Qh] at hi;exact hi
      ·rw[<- hf];exact Nt a
     go_wp2
     go_ret;exact⟨rfl,HT.o,HQ.o.trans Hx.o⟩
