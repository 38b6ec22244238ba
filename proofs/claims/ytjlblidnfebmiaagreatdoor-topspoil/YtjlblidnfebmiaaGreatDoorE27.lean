import Derived.Test.YtjlblidnfebmiaaGreatDoorE25
import Derived.Test.YtjlblidnfebmiaaGreatDoorE26
set_option maxRecDepth 100000
set_option maxHeartbeats 16000000
open Go Go.RowKit Go.Shelf
attribute [local go_sem] Oper.semAt_some
open Go.Proofs.Tryz
namespace Go.Proofs.YtjlblidnfebmiaaGreatDoor
variable {B Bd Be Bm n:Nat} {C:Rn->Prop} {W W':World} {hs:List ad} {s:Dk} {sk sn:Sd} {xs:List RV}
def kG (r:Rn):ByteArray × ByteArray:=(r.pod,r.cont)
def kH (h:ad) (i:Nat):Rn:=⟨h.pod.nm,(ae h.pod.cs i).nm,((aq h.gs i).cp:Int),(aq h.gs i).dv⟩
def aE (hs:List ad):List Rn:=hs.flatMap λh=>(List.range h.gs.length).map (kH h)
theorem D5 (h:bt hs=0):((aE hs).map kG).Nodup:=by
 obtain ⟨_,f,d⟩:=cL.1 h;unfold List.Nodup;rw [List.pairwise_map];unfold aE;rw [List.pairwise_flatMap];constructor
 ·intro x c;obtain ⟨k,o,_⟩:=f x c;rw [List.pairwise_map,List.pairwise_iff_getElem];intro i j hi g Hb e;simp only [List.getElem_range] at e;rw [List.length_range] at g;have l:(ae x.pod.cs i).nm=(ae x.pod.cs j).nm:=congrArg Prod.snd e;exact MF k (by omega) Hb l
 ·refine d.imp ?_;intro a b Ha x c y n e;obtain ⟨i,_,rfl⟩:=Qk.1 c;obtain ⟨j,_,rfl⟩:=Qk.1 n;have m:a.pod.nm=b.pod.nm:=congrArg Prod.fst e;rw [m] at Ha;exact sT _ Ha
theorem tK (h:bt hs=0):(aE hs).length<=36:=by
 obtain ⟨e,d,_⟩:=cL.1 h;have key:∀ l:List ad,(∀ x∈l,x.gs.length<=3)->(aE l).length<=3*l.length:=by
  intro l
  induction l with
  | nil=>intro _;simp [aE]
  | cons a l ih=>
   intro b;have e:=ih λx c=>b x (Qv _ c)
   have d:=b a (by simp);unfold aE at *;rw [List.flatMap_cons,Q2,Q9,List.length_range,Qg];omega
 have:=key hs λx c=>by
  obtain ⟨f,b,_⟩:=d x c
  have:=(jk f).2.2.1
  omega
 omega
theorem D6 (h:bt hs=0):∀ r∈aE hs,r.pod.size<=7000/\r.cont.size<=7000/\r.devs.length<=16:=by
 obtain ⟨_,d,_⟩:=cL.1 h;intro r a;obtain ⟨x,e,a⟩:=List.mem_flatMap.1 a;obtain ⟨i,hi,rfl⟩:=Qk.1 a;rw [List.mem_range] at hi;obtain ⟨f,j,c⟩:=d x e;have b:=jk f;have l:=(lj b.1).2;have n:=(lj (b.2.2.2 (ae x.pod.cs i) (fF _ _ _ (by omega))).1).2;have g:(aq x.gs i).dv.length<=16:=wA (eR c i hi);have m:x.pod.nm.data.toList.length=x.pod.nm.size:=by simp
 have k:(ae x.pod.cs i).nm.data.toList.length=(ae x.pod.cs i).nm.size:=by simp
 refine ⟨?_,?_,g⟩
 ·show x.pod.nm.size<=7000
  omega
 ·show (ae x.pod.cs i).nm.size<=7000
  omega
def VR (W:World) (Be Bd Bm n:Nat) (rs:List Rn):Prop:=fT W Be Bd Bm/\∃ xs,bB W Bm n xs/\(∀ x∈xs,iW W x/\x.dn<=1000)/\∀ r,r∈xs.map (aI W)↔r∈rs
theorem pz (h:∀ x∈xs,iW W x/\x.dn<=1000) (b:dT W W'):(∀ x∈xs,iW W' x/\x.dn<=1000)/\xs.map (aI W')=xs.map (aI W):=
 ⟨λx a=>⟨((h x a).1.kept b).1,(h x a).2⟩,List.map_congr_left λx a=>by unfold aI;rw [((h x a).1.kept b).2]⟩
theorem D7 (h:(xs.map RV.key).Nodup):((xs.map (aI W)).map kG).Nodup:=by
 rw [List.map_map];unfold List.Nodup at *;rw [List.pairwise_map] at *;refine h.imp λ{a b} hab e=>hab ?_
 have d:a.pod=b.pod:=congrArg Prod.fst e;have c:a.cont=b.cont:=congrArg Prod.snd e;unfold RV.key;rw [d,c]
theorem oe (h:bj W B s) (a:Calm s):aQ W B s.n s.k (.slice none 0 0) (-1) false:=by
 obtain ⟨_,v,c,b⟩:=h;rw [a.2.2] at b;rw [a.1,a.2.1,b] at c;exact c
theorem mK (h:aQ W B s.n s.k (.slice none 0 0) (-1) false) (a:Calm s):bj W B s:=by
 refine ⟨by rw [a.2.1];exact ⟨by decide,by decide⟩,.slice none 0 0,?_,?_⟩
 ·rw [a.1,a.2.1];exact h
 ·rw [a.2.2]
theorem xG {y:RV} {a:List Int} (h:bA W (.slice y.da y.dn y.dc) a):bm W y/\aY W y=a/\y.dn=a.length:=by
 obtain ⟨n,c,j,p,g⟩:=h;injection j with e1 e2 e3
 have key:∀ k,k<a.length->lH W y k=a.getD k 0:=λk f=>by
  obtain ⟨b,o,d,Hb,Ha⟩:=g (by omega);unfold lH;rw [e1,d];simp only [Addr.add_lit];rw [Ha k f]
 refine ⟨λl=>?_,?_,e2⟩
 ·obtain ⟨b,o,d,Hb,Ha⟩:=g (by omega);exact ⟨b,o,by rw [e1];exact d,Hb,λk f=>by rw [key k (by omega)];exact Ha k (by omega)⟩
 ·unfold aY;rw [e2];apply List.ext_getElem
  ·simp
  ·intro i e m
   simp at e ⊢
   rw [key i e]
   simp [e]
structure bC (W:World) (Be Bd Bm n:Nat) (sn sk:Sd) (C:Rn->Prop):Prop where
 eng:fT W Be Bd Bm
 disk:aQ W Bd sn sk (.slice none 0 0) (-1) false
 map:∃ xs,bB W Bm n xs/\(∀ x∈xs,iW W x/\x.dn<=1000)/\∀ a,a∈xs.map (aI W)↔C a
theorem bC.congr {b:Rn->Prop} (h:bC W Be Bd Bm n sn sk C) (i:∀ a,C a↔b a):bC W Be Bd Bm n sn sk b:=by
 obtain ⟨g,f,j,e,d,c⟩:=h;exact ⟨g,f,j,e,d,λa=>(c a).trans (i a)⟩
theorem bC.lt (h:bC W Be Bd Bm n sn sk C):Be<W/\Bd<W/\Bm<W:=by
 obtain ⟨c,b,d,a,_⟩:=h;exact ⟨c.lt,b.lt,a.lt⟩
theorem bC.apart (h:bC W Be Bd Bm n sn sk C):Be≠Bd/\Be≠Bm/\Bd≠Bm:=by
 obtain ⟨c,b,d,a,_⟩:=h;exact qW c a b
theorem bC.below (h:bC W Be Bd Bm n sn sk C) (b:Below W W W'):bC W' Be Bd Bm n sn sk C:=by
 obtain ⟨e,d,k,c,g,f⟩:=h;obtain ⟨j,i⟩:=pz g (dT.below b);exact ⟨e.block (b.block Be e.lt),(b.block Bd d.lt).trans d,k,c.block (b.block Bm c.lt),j,λa=>by rw [i];exact f a⟩
theorem D8 {p c:ByteArray}:(xs.any λy=>decide (y.pod=p/\y.cont=c))=true↔∃ a∈xs.map (aI W),kG a=(p,c):=by
 rw [List.any_eq_true];constructor
 ·rintro ⟨y,b,h⟩;obtain ⟨e,d⟩:=of_decide_eq_true h;exact ⟨aI W y,Qk.2 ⟨y,b,rfl⟩,by show (y.pod,y.cont)=(p,c);rw [e,d]⟩
 ·rintro ⟨a,i,h⟩;obtain ⟨y,b,rfl⟩:=Qk.1 i;have g:y.pod=p:=congrArg Prod.fst h;have f:y.cont=c:=congrArg Prod.snd h;exact ⟨y,b,Qc ⟨g,f⟩⟩
theorem Sk (d g k n:Nat) (o q:Sd) (C:Rn->Prop) (p c:ByteArray) (W:World) (h:bC W d g k n o q C) (z:p.size<=7000) (A:c.size<=7000) (j:∃ a,C a/\kG a=(p,c)) :
  Calls prog 101 #[d,p,c] W λe W'=>e=.returned .nilIface/\bC W' d g k n o q (λa=>C a/\kG a≠(p,c))/\bQ g k W W':=by
 obtain ⟨i,l,s,r,w,t⟩:=h;obtain ⟨He,Hf,_⟩:=qW i r l;have Ha:(s.any λy=>decide (y.pod=p/\y.cont=c))=true:=by
  obtain ⟨a,b,m⟩:=j;exact D8.2 ⟨a,(t a).2 b,m⟩
 refine (R8 d g k n o q (.slice none 0 0) s p c (-1) false W i r l ⟨by decide,by decide⟩ z A).mono ?_;rw [Ha];rintro e W' ⟨rfl,hs⟩;refine ⟨rfl,⟨i.block (hs.o.block d i.lt He Hf),hs.disk,_,hs.yes rfl,?_⟩,hs.o⟩;have D:=hs.o.kint l.notInt r.notInt;obtain ⟨B,u⟩:=pz w D;refine ⟨λx f=>B x (List.mem_filter.1 f).1,λa=>?_⟩;constructor
 ·intro b;obtain ⟨x,f,rfl⟩:=Qk.1 b;obtain ⟨Hc,Hb⟩:=List.mem_filter.1 f
  have:aI W' x∈s.map (aI W):=by rw [<- u];exact Qk.2 ⟨x,Hc,rfl⟩
  refine ⟨(t _).1 this,λv=>?_⟩;have F:x.pod=p:=congrArg Prod.fst v;have E:x.cont=c:=congrArg Prod.snd v;rw [Qc ⟨F,E⟩] at Hb;cases Hb
 ·rintro ⟨b,m⟩
  have:=(t a).2 b
  rw [<- u] at this;obtain ⟨x,f,rfl⟩:=Qk.1 this;refine Qk.2 ⟨x,List.mem_filter.2 ⟨f,?_⟩,rfl⟩;rw [Q7 λj=>m (by show (x.pod,x.cont)=(p,c);rw [j.1,j.2])];rfl
theorem Sl (d c i n:Nat) (m o:Sd) (C:Rn->Prop) (x:RV) (W:World) (h:bC W d c i n m o C) (E:x.Short) (k:bm W x) (l:nZ c x) (f:x.dn<=1000) (A:n<1000) (s:∀ a,C a->kG a≠(x.pod,x.cont)) :
  Calls prog 102 #[d,.agg #[x.pod,x.cont,.int .u64 x.cpus,.slice x.da x.dn x.dc]] W λe W'=>e=.returned .nilIface/\bC W' d c i (n+1) m o (λa=>C a\/a=aI W x)/\bQ c i W W':=by
 obtain ⟨g,j,q,p,u,r⟩:=h;obtain ⟨Hb,Hc,_⟩:=qW g p j;have Ha:(q.any λy=>decide (y.pod=x.pod/\y.cont=x.cont))=false:=by
  cases hb:(q.any λy=>decide (y.pod=x.pod/\y.cont=x.cont)) with
  | false=>rfl
  | true=>
   obtain ⟨a,b,e⟩:=(D8 (W:=W)).1 hb;exact absurd e (s a ((r a).1 b))
 refine (RW d c i n m o (.slice none 0 0) q x (-1) false W g p j ⟨by decide,by decide⟩ E k l f A).mono ?_;rw [Ha];rintro e W' ⟨rfl,hs⟩;obtain ⟨z,w,G,F,af⟩:=hs.yes rfl;refine ⟨rfl,⟨g.block (hs.o.block d g.lt Hb Hc),hs.disk,_,G,?_⟩,hs.o⟩;have D:=hs.o.kint j.notInt p.notInt;obtain ⟨B,v⟩:=pz u D;refine ⟨λy t=>?_,λa=>?_⟩
 ·rcases List.mem_cons.1 t with rfl|t
  ·exact ⟨F,f⟩
  ·exact B y t
 ·rw [Qq,List.mem_cons,v];have e:aI W' { x with da:=z,dc:=w }=aI W x:=by unfold aI;rw [af]
  rw [e];constructor
  ·rintro (b|b)
   ·exact .inr b
   ·exact .inl ((r a).1 b)
  ·rintro (b|b)
   ·exact .inr ((r a).2 b)
   ·exact .inl b
end Go.Proofs.YtjlblidnfebmiaaGreatDoor
namespace Go.Proofs
open Go.Shelf
def Tryz.contR_ren:Go.Shelf.Ren:=⟨fun|8=>144|6=>184|n=>n,fun|22=>120|23=>129|25=>228|4=>4|3=>3|0=>0|n=>n,fun|n=>n⟩
theorem Tryz.contR:Go.Proofs.SlLaysH0.n8 Tryz.prog Tryz.contR_ren:=by
 constructor
 case f6=>exact ⟨Tryz.f184.name,by decide,Tryz.func184.trans (congrArg some (by kernel_rfl))⟩
 case f8=>exact ⟨Tryz.f144.name,by decide,Tryz.func144.trans (congrArg some (by kernel_rfl))⟩
 all_goals intros;kernel_rfl
end Go.Proofs
namespace Go.Proofs.YtjlblidnfebmiaaGreatDoor
variable {Bd Bm base g k:Nat} {W W' w:World} {hs:List ad} {r x y:RV} {v:Value} {ys:List RV}
abbrev RVd (w:World):Type:={ y:RV // bm w y/\y.dn<=1000 }
instance (w:World):Inhabited (RVd w):=⟨⟨⟨ByteArray.empty,ByteArray.empty,0,none,0,0⟩,λh=>absurd h (Nat.lt_irrefl 0),Nat.zero_le _⟩⟩
theorem qZ (W:World) (y:RV):(aY W y).length=y.dn:=by simp [aY]
theorem D9 (h:bm W y):0<(aY W y).length->∃ b o,y.da=some ⟨b,o,none⟩/\b<W.heap.size/\∀ k,k<(aY W y).length->W.cell? ⟨b,o+k,none⟩=some (.int .i64 ((aY W y).getD k 0)):=by
 rw [qZ];intro d;obtain ⟨g,o,f,c,e⟩:=h d;refine ⟨g,o,f,c,λk a=>?_⟩;rw [e k a]
 simp [aY,a]
theorem Sm (x y:RV) (w:World) (a:bm w x/\x.dn<=1000) (b:bm w y/\y.dn<=1000):Calls prog 146 #[.slice x.da x.dn x.dc,.slice y.da y.dn y.dc] w λe w'=>e=.returned (.bool (decide (aY w x=aY w y)))/\∃ n,w'=w.drewN n:=by
 have:=RZ x.da y.da x.dc y.dc (aY w x) (aY w y) w (by rw [qZ];exact a.2) (by rw [qZ];exact b.2) (D9 a.1) (D9 b.1)
 rw [qZ,qZ] at this;exact this
def ep (w:World) (x r:RV):Bool:=decide (x.pod=r.pod) && (decide (x.cont=r.cont) && (decide (x.cpus=r.cpus) && decide (aY w x=aY w r)))
theorem Sn:ep w x r=true↔aI w x=aI w r:=by
 unfold ep aI
 simp
def cu (r:RV):Obj:=.cells #[r.pod,r.cont,.int .u64 r.cpus,.slice r.da r.dn r.dc] 129
abbrev mL:=λ(x0 x1:ByteArray) (x2:Int) (x3:Option Addr) (x4 x5:Nat)=>(.cells #[x0,x1,.int .u64 x2,.slice x3 x4 x5] 129:Obj)
theorem So (r:RV) (B:Nat) (w:World) (f:w.heap[B]?=some (cu r)) (j:bm w r/\r.dn<=1000) :
  PredBelow prog 145 #[B] (λx:RVd w=>.agg (RV.cells x.1).toArray) (λx=>ep w x.1 r) w:=λW x c=>by
 obtain ⟨x,i⟩:=x;have He:B<w:=(gS f).1;have Ha:W.heap[B]?=some (cu r):=(c.block B He).trans f;unfold cu at Ha;have b0:cl (W.alloc (mL x.pod x.cont x.cpus x.da x.dn x.dc)) B (0) r.pod:=aa (b6 Ha _) 0;have b1:cl (W.alloc (mL x.pod x.cont x.cpus x.da x.dn x.dc)) B (1) r.cont:=aa (b6 Ha _) 1;have b2:cl (W.alloc (mL x.pod x.cont x.cpus x.da x.dn x.dc)) B (2) (.int .u64 r.cpus):=aa (b6 Ha _) 2;have n:cl (W.alloc (mL x.pod x.cont x.cpus x.da x.dn x.dc)) B (3) (.slice r.da r.dn r.dc):=aa (b6 Ha _) 3;have Hf:B≠W:=by have:=c.size;omega
 have b:=qI (c.alloc c.size (mL x.pod x.cont x.cpus x.da x.dn x.dc));have Hb:=i.1.below b.o λ_ _ _ h=>h;have Hc:=j.1.below b.o λ_ _ _ h=>h;have k:=qI (Sm x r _ ⟨Hb.1,i.2⟩ ⟨Hc.1,j.2⟩);rw [Hb.2,Hc.2] at k;have l:=sH x.pod r.pod;have g:=sH x.cont r.cont;have d:(x.cpus == r.cpus)=decide (x.cpus=r.cpus):=by rw [Bool.eq_iff_iff];simp
 show Calls prog 145 #[.agg #[x.pod,x.cont,.int .u64 x.cpus,.slice x.da x.dn x.dc],B] W λe w'=>e=.returned (.bool (ep w x r))/\Below w w w'
 unfold ep;clear c Ha Hb Hc i j f
 rcases two (decide (x.pod=r.pod)) with g1|g1
 ·rw [g1] at l ⊢
  rcases two (decide (x.cont=r.cont)) with a|a
  ·rw [a] at g ⊢
   rcases two (decide (x.cpus=r.cpus)) with g3|g3
   ·rw [g3] at d ⊢;clear g1 a g3;generalize decide (aY w x=aY w r)=o at *
    go_enter func145,ntmps145
    go_wp2_with fail
    refine k.o.mono ?_;rintro e w' ⟨rfl,m,rfl⟩
    go_wp2
    go_ret;exact ⟨rfl,below_drewN b.o m⟩
   ·rw [g3] at d ⊢;clear g1 a g3
    go_enter func145,ntmps145
    go_wp2
    go_ret;exact ⟨rfl,b.o⟩
  ·rw [a] at g ⊢;clear g1 a d
   go_enter func145,ntmps145
   go_wp2
   go_ret;exact ⟨rfl,b.o⟩
 ·rw [g1] at l ⊢;clear g1 g d
  go_enter func145,ntmps145
  go_wp2
  go_ret;exact ⟨rfl,b.o⟩
theorem Sp (a:List RV) (r:RV) (B g c:Nat) (w:World) (h:w.heap[B]?=some (cu r)) (o:bm w r/\r.dn<=1000) (f:g<w) (b:∀ y∈a,bm w y/\y.dn<=1000) (l:∀ k,k<a.length->∀ i v,(RV.cells (rv a k))[i]?=some v->w.cell? ⟨g,0+k*4+i,none⟩=some v) (p:a.length<=1000) :
  Calls prog 144 #[.slice g a.length c,.func (.func 145) #[] #[.pointer (some ⟨B,0,none⟩)]] w λe w'=>e=.returned (.bool (a.any λy=>ep w y r))/\Below w.heap.size w w':=by
 have m:∀ args w,(callFunc 145 args).run prog w=.ok (.enter 145 args) w:=enters_of func145 (by kernel_rfl) rfl;have Ha:(a.attachWith (λy=>bm w y/\y.dn<=1000) b).length=a.length:=by simp
 have Hb:=AnyQ.slices_ContainsFunc Tryz.contR 4 isAgg129 sizeOf129 (λx:RVd w=>RV.cells x.1) (λ_=>rfl) (λx=>ep w x.1 r) 145 #[.pointer (some ⟨B,0,none⟩)] m g 0 a.length c (a.attachWith (λy=>bm w y/\y.dn<=1000) b) w
  (So r B w h o) (by rw [Ha];exact lR) (by omega) f (λj d i v hi=>by
   have Hc:j<a.length:=by rw [<- Ha];exact d
   refine l j Hc i v ?_;have e:(a.attachWith (λy=>bm w y/\y.dn<=1000) b)[j]! = (⟨rv a j,b _ (n9 Hc)⟩:RVd w):=by
    rw [getElem!_pos _ j d];apply Subtype.ext
    simp [rv,Hc]
   rw [e] at hi;exact hi)
 have n:(((a.attachWith (λy=>bm w y/\y.dn<=1000) b).take a.length).any λx=>ep w x.1 r)=a.any λy=>ep w y r:=by
  rw [List.take_of_length_le (by rw [Ha];exact lR)]
  have:a=(a.attachWith (λy=>bm w y/\y.dn<=1000) b).map Subtype.val:=by simp
  conv=>rhs;rw [this,List.any_map]
  rfl
 change Calls prog 144 _ _ _ at Hb
 rw [<- n];exact Hb
theorem index_none (a:Option Addr) (c g:Nat) (f:Array Value) (w:World):Calls prog 184 #[.slice a 0 c,.func (.func g) #[] f] w λe w'=>e=.returned (-1:Int)/\w'=w:=by
 go_enter func184,ntmps184
 go_wp2
 go_loopw [8] (λi wr=>i=.int .i64 0/\wr=w) (λ_ _=>0)
 case atStart=>exact ⟨rfl,rfl⟩
 case round=>
  obtain ⟨rfl,rfl⟩:=hrel
  go_wp2
  go_ret;exact ⟨rfl,rfl⟩
theorem Sq (a:Option Addr) (c g:Nat) (f:Array Value) (w:World):Calls prog 144 #[.slice a 0 c,.func (.func g) #[] f] w λe w'=>e=.returned false/\w'=w:=by
 have b:=qI (index_none a c g f w)
 go_enter func144,ntmps144
 go_wp2_with fail
 refine b.o.mono ?_;rintro e w' ⟨rfl,rfl⟩
 go_wp2
 go_ret;exact ⟨rfl,rfl⟩
theorem Sr (h:jv w g k x):∀ i v,(RV.cells x)[i]?=some v->w.cell? ⟨g,0+k*4+i,none⟩=some v:=by
 intro i v a;rw [Qd]
 match i,a with
 | 0,a=>simp [RV.cells] at a;subst a;exact h.1.1
 | 1,a=>simp [RV.cells] at a;subst a;exact h.1.2.1
 | 2,a=>simp [RV.cells] at a;subst a;exact h.1.2.2.1
 | 3,a=>simp [RV.cells] at a;subst a;exact h.1.2.2.2
 | n+4,a=>simp [RV.cells] at a
theorem jv.alloc (h:jv w g k x) (n:g<w) (o:Obj):jv (w.alloc o) g k x:=by
 have m:(w.alloc o).heap[g]?=w.heap[g]?:=Below.heap_alloc _ _ _ n;obtain ⟨⟨a,b,c,d⟩,e,f,p,i⟩:=h;have cc:∀ j,(w.alloc o).cell? ⟨g,j,none⟩=w.cell? ⟨g,j,none⟩:=λj=>World.cell?_of_block (a:=⟨g,j,none⟩) m
 have l:∀ j,(w.alloc o).frozen? ⟨g,j,none⟩=w.frozen? ⟨g,j,none⟩:=λj=>by simp [World.frozen?,m]
 exact ⟨⟨by rw [cc];exact a,by rw [cc];exact b,by rw [cc];exact c,by rw [cc];exact d⟩,by rw [l];exact e,by rw [l];exact f,by rw [l];exact p,by rw [l];exact i⟩
theorem Ea (v:Value) (b:List RV) (r:RV) (base:Nat) (w:World) (s:lG base w v b) (f:∀ y∈b,bm w y/\y.dn<=1000) (l:bm w r/\r.dn<=1000) (p:b.length<=1000) :
  Calls prog 100 #[v,.agg #[r.pod,r.cont,.int .u64 r.cpus,.slice r.da r.dn r.dc]] w λe w'=>e=.returned (.bool (b.any λy=>ep w y r))/\Below w w w':=by
 have i:=qI ((Q0 w w).alloc (lR) (cu r));have Ha:∀ y,bm w y->bm (w.alloc (cu r)) y/\aY (w.alloc (cu r)) y=aY w y:=λy d=>d.below i.o λ_ _ _ h=>h
 have Hc:=Ha r l.1;have He:Hu ((w.alloc (cu r)).heap[w.heap.size]?=some (cu r)):=aU w (cu r) rfl;obtain ⟨a,c,rfl,Hi,Hb⟩:=s;have n:Hu (Calls prog 144 #[.slice a b.length c,.func (.func 145) #[] #[.pointer (some ⟨w,0,none⟩)]] (w.alloc (cu r)) λe w'=>e=.returned (.bool (b.any λy=>ep w y r))/\Below w w w'):=by
  unfold Hu
  by_cases o:0<b.length
  ·obtain ⟨g,rfl,Hj,Hg,Hf⟩:=Hb o;have Hh:g<(w.alloc (cu r)).heap.size:=by simp;omega
   refine (Sp b r w g c (w.alloc (cu r)) He.o ⟨Hc.1,l.2⟩ Hh (λy d=>⟨(Ha y (f y d).1).1,(f y d).2⟩) (λk q=>Sr ((Hf k q).alloc Hg _)) p).mono ?_;rintro e w' ⟨rfl,j⟩;refine ⟨?_,i.o.trans (j.mono i.o.size)⟩;have t:(b.any λy=>ep (w.alloc (cu r)) y r)=b.any λy=>ep w y r:=by
    have m:∀ y∈b,ep (w.alloc (cu r)) y r=ep w y r:=λy d=>by unfold ep;rw [(Ha y (f y d).1).2,Hc.2]
    rw [Bool.eq_iff_iff,List.any_eq_true,List.any_eq_true];constructor
    ·rintro ⟨y,d,h⟩;exact ⟨y,d,by rw [<- m y d];exact h⟩
    ·rintro ⟨y,d,h⟩;exact ⟨y,d,by rw [m y d];exact h⟩
   rw [t]
  ·have u:b=[]:=List.length_eq_zero_iff.1 (by omega);subst u;refine (Sq a c _ _ (w.alloc (cu r))).mono ?_;rintro e w' ⟨rfl,rfl⟩;exact ⟨rfl,i.o⟩
 unfold cu at n;clear Hc Ha Hb He i f l;generalize (b.any λy=>ep w y r)=x at *
 go_enter func100,ntmps100
 go_wp2_with fail
 refine n.o.mono ?_;rintro e w' ⟨rfl,j⟩
 go_wp2
 go_ret;exact ⟨rfl,j⟩
theorem Eb {a b:ByteArray} (h:a≠b):(a.toList == b.toList)=false:=by
 rw [Qr];intro e;rw [Qs,Qs] at e;exact h (ByteArray.ext (Array.toList_inj.1 e))
theorem Ec (h:bm w x):wE w x.da (aY w x)/\(aY w x).length=x.dn:=by
 have c:(aY w x).length=x.dn:=by simp [aY]
 refine ⟨λf=>?_,c⟩;obtain ⟨g,o,e,b,d⟩:=h (by omega);refine ⟨g,o,e,b,λk i=>?_⟩;have a:k<x.dn:=by omega
 rw [d k a]
 simp [aY,a]
theorem Ss (x y:RV) (w:World) (D:bm w x) (B:bm w y) (N:x.dn<=1000) (I:y.dn<=1000) :
  Calls prog 46 #[.agg #[x.pod,x.cont,.int .u64 x.cpus,.slice x.da x.dn x.dc],.agg #[y.pod,y.cont,.int .u64 y.cpus,.slice y.da y.dn y.dc]] w (sZ (aI w x=aI w y) w):=by
 obtain ⟨H,Hk⟩:∃ o:Obj,o=.cells #[x.pod,x.cont,.int .u64 x.cpus,.slice x.da x.dn x.dc] 129:=⟨_,rfl⟩;obtain ⟨K,Hj⟩:∃ o:Obj,o=.cells #[y.pod,y.cont,.int .u64 y.cpus,.slice y.da y.dn y.dc] 129:=⟨_,rfl⟩;have Hg:=(Q0 w w).alloc (lR) H;have Hc:=Hg.alloc Hg.size K;obtain ⟨v,s⟩:=D.below Hc λ_ _ _ h=>h;obtain ⟨t,A⟩:=B.below Hc λ_ _ _ h=>h;obtain ⟨C,n⟩:=Ec v;obtain ⟨z,p⟩:=Ec t;have Hi:=B4 x.da y.da x.dc y.dc _ _ _ (by rw [n];unfold maxLen;omega) (by rw [p];unfold maxLen;omega) C z;rw [n,p,s,A] at Hi;have Hh:=qI Hc;have Hf:=qI Hi;have He:Hu (aI w x=aI w y->x.pod=y.pod/\x.cont=y.cont/\x.cpus=y.cpus/\aY w x=aY w y):=λe=>by
  unfold aI at e;simp only [Rn.mk.injEq] at e;exact e
 subst Hk Hj;clear Hg Hc v s t A C n z p Hi D B N I;generalize aI w x=u at *;generalize aI w y=r at *;generalize aY w x=V at *;generalize aY w y=U at *;obtain ⟨J,M,q,Q,S,O⟩:=x;obtain ⟨L,F,E,P,R,T⟩:=y;dsimp only at *;have g:∀ (c:Bool) (d:World),Below w w d->(¬ u=r\/c=true)->sZ (u=r) w (.returned (.bool c)) d:=λc d G h=>⟨c,rfl,λe=>h.elim (λk=>absurd e k) id,G⟩
 have a:=qI g;clear g
 by_cases l:J=L
 ·subst l
  by_cases j:M=F
  ·subst j
   by_cases m:q=E
   ·subst m
    go_enter func46,ntmps46
    go_wp2_with fail
    refine Hf.o.mono ?_;rintro e d ⟨b,rfl,Hb,f,rfl⟩;have Ha:=qI (below_drewN Hh.o f);have Hl:=qI Hb;clear Hb
    rcases two b with rfl|rfl
    ·go_wp2
     go_ret;exact a.o _ _ Ha.o (.inr rfl)
    ·go_wp2
     go_ret;exact a.o _ _ Ha.o (.inl λe=>by cases Hl.o (He.o e).2.2.2)
   ·have i:=qI m;have Hm:(q == E)=false:=by simpa using m
    clear m
    go_enter func46,ntmps46
    go_wp2_with fail
    refine Hf.o.mono ?_;rintro e d ⟨b,rfl,Hb,f,rfl⟩;have Ha:=qI (below_drewN Hh.o f);clear Hb
    go_wp2
    go_ret;exact a.o _ _ Ha.o (.inl λe=>i.o ((He.o e).2.2.1))
  ·have i:=qI j;have Hc:=Eb j;clear j
   go_enter func46,ntmps46
   go_wp2_with fail
   refine Hf.o.mono ?_;rintro e d ⟨b,rfl,Hb,f,rfl⟩;have Ha:=qI (below_drewN Hh.o f);clear Hb
   go_wp2
   go_ret;exact a.o _ _ Ha.o (.inl λe=>i.o ((He.o e).2.1))
 ·have i:=qI l;have Hg:=Eb l;clear l
  go_enter func46,ntmps46
  go_wp2_with fail
  refine Hf.o.mono ?_;rintro e d ⟨b,rfl,Hb,f,rfl⟩;have Ha:=qI (below_drewN Hh.o f);clear Hb
  go_wp2
  go_ret;exact a.o _ _ Ha.o (.inl λe=>i.o ((He.o e).1))
def kI (W0:World) (z:RV × Rn):Prop:=z.1.pod=z.2.pod/\z.1.cont=z.2.cont/\z.1.cpus=z.2.cpus/\bA W0 (.slice z.1.da z.1.dn z.1.dc) z.2.devs
theorem Ed (h:k<hs.length):aE (hs.take (k+1))=aE (hs.take k)++(List.range (af hs k).gs.length).map (kH (af hs k)):=by grind [aE,af,Qa]
theorem Ee (h:∀ x∈hs,x.gs.length<=3) (k:Nat):(aE (hs.take k)).length<=3*hs.length:=by
 have key:∀ l:List ad,(∀ x∈l,x.gs.length<=3)->(aE l).length<=3*l.length:=by
  intro l
  induction l with
  | nil=>intro _;simp [aE]
  | cons a l ih=>
   intro c;have e:=ih λx b=>c x (Qv _ b)
   have d:=c a (by simp);unfold aE at *;rw [List.flatMap_cons,Q2,Q9,List.length_range,Qg];omega
 have:=key (hs.take k) λx b=>h x (List.mem_of_mem_take b)
 rw [Qu] at this;omega
theorem xH {e:TypeId} {sz:Nat} {n:Nat} {d:List Value} (h:w.ownsRow base e sz v n d) {B:Nat} {cs:Array Value} {t:TypeId} {z:Nat × Nat} (c:w.heap[B]?=some (.cells cs t z)) (b:t≠e):v.ownBlock≠some B:=by
 rcases h.2 with ⟨rfl,_⟩|⟨g,i,f,rfl,j,Ha,_⟩
 ·intro a;cases a
 ·intro a;have a:some g=some B:=a;injection a with a
  subst a;rw [c] at Ha;injection Ha with Ha
  injection Ha with _ h2
  exact b h2
theorem fp {K:Nat->Prop} {A B:World} {g:Option Nat} (h:A.grownBy B g) (c:∀ j,g=some j->j<A.heap.size->K j):Apart K A B:=
 ⟨h.os,h.tape,h.output,h.size,λj a b=>h.block j a λe=>b (c j e.symm a)⟩
theorem Ef (x:RV):∀ u∈RV.cells x,u.oneCell'=true:=by
 intro u a
 simp [RV.cells] at a
 rcases a with rfl|rfl|rfl|rfl <;> rfl
abbrev mM:=λ(x0:ByteArray) (x1:Int) (x2:Option Addr) (x3 x4:Nat) (x5:Option Addr) (x6 x7:Nat)=>(.cells #[x0,x1,.slice x2 x3 x4,.slice x5 x6 x7] 101:Obj)
abbrev iX:=λ(x0:Int) (x1:Option Addr) (x2 x3:Nat)=>(.cells #[.int .u64 x0,.slice x1 x2 x3] 123:Obj)
abbrev xI:=λ(Bh:Nat) (xn:ByteArray) (cb co y4 cc j:Nat) (cn:ByteArray) (Bg:Nat) (cp:Int) (ia:Option Addr) (y11 ic:Nat) (w':World)=>cl w' Bh (0) xn/\cl w' Bh (2) (.slice (some ⟨cb,co,none⟩) y4 cc)/\cl w' cb (co+j*6) cn/\cl w' Bg (0) (.int .u64 cp)/\cl w' Bg (1) (.slice ia y11 ic)
theorem St (v:Value) (hs:List ad) (w W0:World) (h:aX W0 v hs) (l:aM W0 w) (hl:hs.length<=100) (hgl:∀ x∈hs,x.gs.length=x.pod.cs.length/\x.gs.length<=3) :
  Calls prog 99 #[v] w λe w'=>∃ (v':Value) (zs:List (RV × Rn)),e=.returned v'/\zs.map Prod.snd=aE hs/\cP w w' v' (zs.map Prod.fst)/\(∀ z∈zs,kI W0 z)/\Below w w w':=by
 obtain ⟨i0,hi,he,H8,hC⟩:=info_parts xq;obtain ⟨ao,c,rfl,hm,hr⟩:=h;unfold maxLen at hm;have HR:=qI hr;have HL:=qI l;have HZ:=qI hgl;clear hr l hgl
 go_enter func99,ntmps99
 go_wp2
 go_loopw [3,10] (λpv i wr=>∃ (k:Nat) (zs:List (RV × Rn)),k<=hs.length/\i=.int .i64 k/\zs.map Prod.snd=aE (hs.take k)/\cP w wr pv (zs.map Prod.fst)/\(∀ z∈zs,kI W0 z)/\Below w w wr) (λ_ i _=>hs.length - (intOf i).toNat)
 case atStart=>exact ⟨0,[],by omega,rfl,rfl,Qw _ _ _ _,λx hx=>(List.not_mem_nil hx).elim,Q0 _ _⟩
 case round=>
  obtain ⟨k,zs,hk,rfl,HP,He,Hp,hb⟩:=hrel;have HG:=qI HP;have HX:=qI Hp;have HB:=qI hb;obtain ⟨pa,pc,H4⟩:=fj He;rw [Q9] at H4;subst H4;have Hj:=qI He;have hn:=hb.size;clear HP Hp He
  by_cases hlt:k<hs.length
  ·obtain ⟨b,ob,cv,gvv,rfl,Hv⟩:=HR.o (by omega);have hle:=HL.o.trans (aM.of_below hb);obtain ⟨x0,x1,x2,x3⟩:=(Hv.2 k hlt).1;have x0:=hle.cell _ _ _ x0;have x1:=hle.cell _ _ _ x1;have x2:=hle.cell _ _ _ x2;have x3:=hle.cell _ _ _ x3;have Hn:=(Hv.2 k hlt).2.1;have Ho:=(Hv.2 k hlt).2.2;obtain ⟨HD,H9⟩:=HZ.o (af hs k) (by simp [af,hlt]);have H1:=qI (Ed hlt);have hE:zs.length<=300:=by
    have h1:zs.length=(aE (hs.take k)).length:=by rw [<- HG.o,Q9]
    have h2:=Ee (λx hx=>(HZ.o x hx).2) k;omega
   obtain ⟨ca,cc,H5,hB,HI⟩:=id Hn;obtain ⟨ga,gc,HV,hu,HA⟩:=id Ho;rw [H5] at x2;rw [HV] at x3;clear Hv Hn Ho hb H5 HV hle;generalize af hs k=x at *;obtain ⟨⟨xn,xp,xc⟩,xg⟩:=x;dsimp only at x0 x1 x2 x3 HI HA H1 HD H9 hB hu;have ho:=qI HI;have hA:=qI HA;have HU:=qI ((Q0 wr wr).alloc (lR) (.cells #[xn,(xp:Int),.slice ca xc.length cc,.slice ga xg.length gc] 101));have Hm:=qI (show cP w (wr.alloc (.cells #[xn,(xp:Int),.slice ca xc.length cc,.slice ga xg.length gc] 101)) (.slice pa zs.length pc) (zs.map Prod.fst) from Hj.o.alloc _);have hM:(wr.alloc (.cells #[xn,(xp:Int),.slice ca xc.length cc,.slice ga xg.length gc] 101)).heap.size=wr.heap.size+1:=by simp
   have HH:=qI (aU wr (.cells #[xn,(xp:Int),.slice ca xc.length cc,.slice ga xg.length gc] 101) rfl);have y0:(wr.alloc (.cells #[xn,(xp:Int),.slice ca xc.length cc,.slice ga xg.length gc] 101)).cell? wr.heap.size=some (.string xn):=by simp
   have y2:(wr.alloc (.cells #[xn,(xp:Int),.slice ca xc.length cc,.slice ga xg.length gc] 101)).cell? ⟨wr,2,none⟩=some (.slice ca xc.length cc):=by simp
   have y3:(wr.alloc (.cells #[xn,(xp:Int),.slice ca xc.length cc,.slice ga xg.length gc] 101)).cell? ⟨wr,3,none⟩=some (.slice ga xg.length gc):=by simp
   have HF:=qI HD;clear HI HA HD
   go_wp2_with fail
   generalize wr.alloc (.cells #[xn,(xp:Int),.slice ca xc.length cc,.slice ga xg.length gc] 101)=U at *;clear x0 x1 x2 x3;generalize hBh:wr.heap.size=Bh at *;have hD:=qI (HB.o.trans (HU.o.mono hn));clear y0 y2 y3
   go_loopw [3,17] (λpv i wr=>∃ (j:Nat) (zq:List (RV × Rn)),j<=xg.length/\i=.int .i64 j/\zq.map Prod.snd=aE (hs.take k)++(List.range j).map (kH ⟨⟨xn,xp,xc⟩,xg⟩)/\cP w wr pv (zq.map Prod.fst)/\(∀ z∈zq,kI W0 z)/\Apart (λb=>w.heap.size<=b/\b≠Bh) U wr/\zq.length=zs.length+j) (λ_ i _=>xg.length - (intOf i).toNat)
   case atStart=>exact ⟨0,zs,by omega,rfl,by rw [HG.o];simp,Hm.o,HX.o,Apart.refl _ _,rfl⟩
   case round=>
    obtain ⟨j,zq,hj,rfl,HY,Hy,Hp,Hw,H0⟩:=hrel;have hw:=qI H0;have hq:zq.length<=303:=by omega
    clear H0;have HT:=qI HY;have Hk:=qI Hp;have H3:=qI Hw;have hy:=Hw.size;have HC:=Hw.below hD.o (lR) λb hb=>hb.1;have ht:=qI HC;obtain ⟨va,vc,hv⟩:=fj Hy;rw [Q9] at hv;subst hv;have Hi:=qI Hy;clear HY Hp Hy
    by_cases hjt:j<xg.length
    ·obtain ⟨gb,go,dv,rfl,Hr⟩:=hA.o (by omega);obtain ⟨cb,co,cdv,rfl,Hf⟩:=ho.o (by have:=HF.o;omega);have hle:=HL.o.trans (aM.of_below HC);obtain ⟨⟨g0,g1,g2⟩,Hc⟩:=Hr.2 j hjt;have g0:=hle.cell _ _ _ g0;have g1:=hle.cell _ _ _ g1;have c0:wr.cell? ⟨cb,co+j*6,none⟩=some (.string (ae xc j).nm):=by
      have:=(Hf.2 j (by have:=HF.o;omega)).1 0 (by decide)
      exact hle.cell _ _ _ this
     have Hs:=qI Hc;obtain ⟨ia,ic,H6,_⟩:=id Hc;rw [H6] at g1 Hs;have Ht:kH ⟨⟨xn,xp,xc⟩,xg⟩ j=⟨xn,(ae xc j).nm,((aq xg j).cp:Int),(aq xg j).dv⟩:=rfl;have HJ:=qI Ht;have hL:cb<wr.heap.size:=Q3 _ ⟨cb,co+j*6,none⟩ c0;have hg:cb<w.heap.size:=Q1 Hf.1 HL.o.size;clear Hr Hf Hc H6 Ht Hw HC hle;generalize (aq xg j).cp=cp at *;generalize (aq xg j).dv=xs at *;generalize (ae xc j).nm=cn at *;have hh:=(H3.o.block Bh (by omega) (by omega)).trans HH.o;have hp:=qI hh;have z0:wr.cell? Bh=some (.string xn):=aa hh 0;have z2:wr.cell? ⟨Bh,2,none⟩=some (.slice (some ⟨cb,co,none⟩) xc.length cc):=aa hh 2;clear hh;have HO:(j:Int)<(xg.length:Int):=by omega
     have hI:(j:Int)<(xc.length:Int):=by have:=HF.o;omega
     have HQ:=qI ((Q0 wr wr).alloc (lR) (.cells #[.int .u64 cp,.slice ia xs.length ic] 123));have Hz:=qI (show cP w (wr.alloc (.cells #[.int .u64 cp,.slice ia xs.length ic] 123)).drew (.slice va zq.length vc) (zq.map Prod.fst) from Hi.o.alloc _);have HW:(wr.alloc (.cells #[.int .u64 cp,.slice ia xs.length ic] 123)).heap.size=wr.heap.size+1:=by simp
     have HS:Hu ((wr.alloc (.cells #[.int .u64 cp,.slice ia xs.length ic] 123)).drew.cell? Bh=some (.string xn)/\(wr.alloc (.cells #[.int .u64 cp,.slice ia xs.length ic] 123)).drew.cell? ⟨Bh,2,none⟩=some (.slice (some ⟨cb,co,none⟩) xc.length cc)/\(wr.alloc (.cells #[.int .u64 cp,.slice ia xs.length ic] 123)).drew.cell? ⟨cb,co+j*6,none⟩=some (.string cn)/\(wr.alloc (.cells #[.int .u64 cp,.slice ia xs.length ic] 123)).drew.cell? wr.heap.size=some (.int .u64 cp)/\(wr.alloc (.cells #[.int .u64 cp,.slice ia xs.length ic] 123)).drew.cell? ⟨wr,1,none⟩=some (.slice ia xs.length ic)):=
      ⟨(HQ.o.cell (p:=Bh) (by show Bh<wr.heap.size;omega)).trans z0,(HQ.o.cell (p:=⟨Bh,2,none⟩) (by show Bh<wr.heap.size;omega)).trans z2,(HQ.o.cell (p:=⟨cb,co+j*6,none⟩) (by show cb<wr.heap.size;omega)).trans c0,aa (W:=(wr.alloc (.cells #[.int .u64 cp,.slice ia xs.length ic] 123)).drew) (aU wr (.cells #[.int .u64 cp,.slice ia xs.length ic] 123) rfl) 0,aa (W:=(wr.alloc (.cells #[.int .u64 cp,.slice ia xs.length ic] 123)).drew) (aU wr (.cells #[.int .u64 cp,.slice ia xs.length ic] 123) rfl) 1⟩
     go_wp2_with fail
     generalize wr.alloc (.cells #[.int .u64 cp,.slice ia xs.length ic] 123)=Q at *;clear g0 g1 z0 z2 c0;generalize hBg:wr.heap.size=Bg at *;have hN:=xr Q.drew ⟨xn,cn,cp,ia,xs.length,ic⟩ 129;rw [show Q.drew.heap.size=Bg+1 from HW] at hN;have HN:=qI hN;clear hN;refine wp_region_held_drew (S:=xI Bh xn cb co xc.length cc j cn Bg cp ia xs.length ic) (by kernel_rfl) HS.o λhQ=>?_;refine tk 0 ?_;refine tk 1 ?_;refine tk 2 ?_;refine tk 3 ?_;refine tk 4 ?_;refine tk 5 ?_;refine tk 6 ?_;refine tk 7 ?_;refine tk 8 ?_;refine tk 9 ?_;refine tk 10 ?_;refine tk 11 ?_;refine tk 12 ?_;refine tk 13 ?_;refine tk 14 ?_;refine tk 15 ?_;have Hg:=(Q0 Q.drew Q.drew).alloc (lR) (.cells #[xn,cn,.int .u64 cp,.slice ia xs.length ic] 129);have Hh:Hu ((xI Bh xn cb co xc.length cc j cn Bg cp ia xs.length ic) (Q.drew.alloc (.cells #[xn,cn,.int .u64 cp,.slice ia xs.length ic] 129))):=⟨(Hg.cell (p:=Bh) (by show Bh<Q.heap.size;omega)).trans HS.o.1,(Hg.cell (p:=⟨Bh,2,none⟩) (by show Bh<Q.heap.size;omega)).trans HS.o.2.1,(Hg.cell (p:=⟨cb,co+j*6,none⟩) (by show cb<Q.heap.size;omega)).trans HS.o.2.2.1,(Hg.cell (p:=Bg) (by show Bg<Q.heap.size;omega)).trans HS.o.2.2.2.1,(Hg.cell (p:=⟨Bg,1,none⟩) (by show Bg<Q.heap.size;omega)).trans HS.o.2.2.2.2⟩;have hH:=qI Hg;clear Hg;refine rd 16 λK hK=>?_;go_simp
     go_wp2_with fail
     refine hK.o _ _ Hh.o λhQ=>?_;clear hK K;refine rd 17 λK hK=>?_;rw [if_pos (by rfl)];have hJ:(zq.map Prod.fst).length<=400:=by rw [Q9];omega
     refine wp_append_own (o := { dst := some 39, op := Op.call { callee := Callee.builtin Builtin.append, args := #[Operand.tmp 22, Operand.tmp 38], argTypes := #[120, 120] }, type := 120, pos := "run.go:37", after := #[{ on := 0, ground := Ground.data }, { on := 16, ground := Ground.data }], guard := none }) _ _ _ 120 rfl w.heap.size 129 i0 (.agg #[.string ByteArray.empty, .string ByteArray.empty, .int .u64 0, .slice none 0 0]) 4 64 underlying120 hi he H8 hC rfl (by decide) (.slice va zq.length vc) _ _ rfl (Hz.o.alloc _) ⟨_, 0, none⟩ 1 1 (RV.cells ⟨xn, cn, cp, ia, xs.length, ic⟩) rfl rfl HN.o (Ef _) (by unfold maxLen; omega) (by omega) (by show w.heap.size ≤ (Q.drew.alloc _).heap.size; rw [World.size_alloc]; show w.heap.size ≤ Q.heap.size + 1; omega) ?_
     intro v' W3 Hb Ha _;have HK:∀ b,(Value.slice va zq.length vc).ownBlock=some b->w.heap.size<=b/\b≠Bh:=λb hb=>⟨(Hi.o.lt b hb).1,λe=>xH Hi.o hp.o (by decide) (by rw [hb,e])⟩
     have hf:=qI (cP.push Hb);have H7:Hu (Apart (λb=>w.heap.size<=b/\b≠Bh) U W3):=(H3.o.trans (Apart.of_below ((show Below wr wr Q from hBg ▸ HQ.o).trans (bF ((Q0 wr Q).alloc (by omega) _))))).trans (fp Ha λb hb _=>HK b hb);have Hq:some Bh≠(Value.slice va zq.length vc).ownBlock:=λe=>(HK Bh e.symm).2 rfl
     have Hl:some Bg≠(Value.slice va zq.length vc).ownBlock:=λe=>by have:=(Hi.o.lt Bg e.symm).2;omega
     have Hx:some cb≠(Value.slice va zq.length vc).ownBlock:=λe=>by have:=(HK cb e.symm).1;omega
     have hG:(Q.alloc (.cells #[xn,cn,.int .u64 cp,.slice ia xs.length ic] 129)).drew.heap.size=Bg+2:=by show (Q.alloc _).heap.size=_;rw [World.size_alloc,HW]
     have hF:=Ha.size;have HM:(xI Bh xn cb co xc.length cc j cn Bg cp ia xs.length ic) W3:=⟨(Ha.cell_far Bh (by show Bh<_;omega) Hq).trans Hh.o.1,(Ha.cell_far ⟨Bh,2,none⟩ (by show Bh<_;omega) Hq).trans Hh.o.2.1,(Ha.cell_far ⟨cb,co+j*6,none⟩ (by show cb<_;omega) Hx).trans Hh.o.2.2.1,(Ha.cell_far Bg (by show Bg<_;omega) Hl).trans Hh.o.2.2.2.1,(Ha.cell_far ⟨Bg,1,none⟩ (by show Bg<_;omega) Hl).trans Hh.o.2.2.2.2⟩;refine hK.o _ _ HM λhQ=>?_;clear hK K;(try simp only [Act.put,s1,s2,s3]);refine tk 18 ?_;refine Qn (by kernel_rfl) ?_ _;clear hQ Hb Ha HM
     go_wp2
     go_roundw
     case rel=>
      refine ⟨j+1,zq++[(⟨xn,cn,cp,ia,xs.length,ic⟩,⟨xn,cn,cp,xs⟩)],by omega,by go_num,?_,by rw [Qj];exact hf.o,λz hz=>?_,H7.o,by rw [Q2,hw.o];rfl⟩
      ·rw [Qj,HT.o,List.range_succ,Qj,List.append_assoc,List.map_singleton,List.map_singleton,HJ.o]
      ·rcases Qi.1 hz with hz|hz
       ·exact Hk.o z hz
       ·rw [Qm.1 hz];exact ⟨rfl,rfl,rfl,Hs.o⟩
     case measure=>simp [intOf];omega
    ·have hc:j=xg.length:=by omega
     subst hc;have ha:Hu (zq.map Prod.snd=aE (hs.take (k+1))):=by unfold Hu;rw [HT.o,H1.o]
     go_wp2
     go_roundw
     case rel=>exact ⟨k+1,zq,by omega,by go_num,ha.o,Hi.o,Hk.o,ht.o⟩
     case measure=>simp [intOf];omega
  ·have H2:k=hs.length:=by omega
   have HE:Hu (zs.map Prod.snd=aE hs):=by unfold Hu;rw [HG.o,H2,Qh]
   clear H2
   go_wp2
   go_ret;exact ⟨_,zs,rfl,HE.o,Hj.o,HX.o,HB.o⟩
theorem jv.blockO {w':World} (h:jv w g k x) (m:w'.heap[g]?=w.heap[g]?):jv w' g k x:=by
 obtain ⟨⟨a,b,c,d⟩,e,f,n,i⟩:=h;have cc:∀ j,w'.cell? ⟨g,j,none⟩=w.cell? ⟨g,j,none⟩:=λj=>World.cell?_of_block (a:=⟨g,j,none⟩) m
 have l:∀ j,w'.frozen? ⟨g,j,none⟩=w.frozen? ⟨g,j,none⟩:=λj=>by simp [World.frozen?,m]
 exact ⟨⟨by rw [cc];exact a,by rw [cc];exact b,by rw [cc];exact c,by rw [cc];exact d⟩,by rw [l];exact e,by rw [l];exact f,by rw [l];exact n,by rw [l];exact i⟩
theorem oi (h:lG base W v ys) (l:∀ j,base<=j->j<W.heap.size->W'.heap[j]?=W.heap[j]?) (hs:W<=W'.heap.size):lG base W' v ys:=by
 obtain ⟨a,c,i,Ha,o⟩:=h;refine ⟨a,c,i,Ha,λf=>?_⟩;obtain ⟨g,n,d,e,m⟩:=o f;exact ⟨g,n,d,Q1 e hs,λk b=>(m k b).blockO (l g d e)⟩
theorem Eg (h:cP base w v ys):lG base w v ys:=by
 have e:=h
 rcases h.2 with ⟨b,i⟩|⟨g,c,m,b,d,Ha,Hb,Hc,_⟩
 ·exact ⟨none,0,by rw [b,i],by omega,λn=>by omega⟩
 ·subst b;refine ⟨_,c,rfl,Hb,λ_=>⟨g,rfl,d,(gS Ha).1,λk l=>?_⟩⟩;have a:∀ j,w.frozen? ⟨g,j,none⟩=false:=λj=>by simp [World.frozen?,Ha]
  have cc:∀ j,j<4->w.cell? ⟨g,k*4+j,none⟩=(RV.cells (rv ys k))[j]?:=λj f=>by
   rw [World.ownsRow.cellAt e (k*4+j) (by omega)];exact DQ ys k l j f
  exact ⟨⟨cc 0 (by decide),cc 1 (by decide),cc 2 (by decide),cc 3 (by decide)⟩,a _,a _,a _,a _⟩
theorem Eh (h:bm W y) (hf:∀ g o,0<y.dn->y.da=some ⟨g,o,none⟩->W'.heap[g]?=W.heap[g]?) (hs:W<=W'.heap.size):bm W' y/\aY W' y=aY W y:=by
 by_cases a:0<y.dn
 ·exact tH h (λg o c _=>hf g o a c) hs
 ·refine ⟨λb=>absurd b a,?_⟩
  have:y.dn=0:=by omega
  simp [aY,this]
abbrev gD (Bd Bm:Nat):Nat->Prop:=λb=>b=Bd\/b=Bm
theorem Su (h:bQ Bd Bm W W'):aM (av (gD Bd Bm) W) (av (gD Bd Bm) W'):=by grind [bP,h.block,h.size]
theorem zed {z:RV × Rn} (h:kI (av (gD Bd Bm) w) z) (p:bQ Bd Bm w W):bm W z.1/\aI W z.1=z.2/\nZ Bd z.1/\z.1.dn=z.2.devs.length:=by
 obtain ⟨n,i,f,d⟩:=h;have c:=d.le (Su p);obtain ⟨a,l,m⟩:=xG (c.le (dm _ _));refine ⟨a,?_,?_,m⟩
 ·unfold aI;rw [n,i,f,l]
 ·intro b g o k e;obtain ⟨a,_,_⟩:=xG c;obtain ⟨r,q,Ha,_,j⟩:=a b;rw [k] at Ha;injection Ha with Ha
  injection Ha with e1 e2
  subst e1;exact gR (j 0 b) (.inl e)
theorem Ei:(ys.any λy=>ep W y r)=true↔aI W r∈ys.map (aI W):=by grind [Sn]
open Classical in
noncomputable def dN (rs ws:List Rn):Nat:=(ws.filter λr=>decide (r ∉ rs)).length
theorem tL (rs ws:List Rn):dN rs ws<=ws.length:=List.length_filter_le _ _
theorem Sv {rs ws:List Rn} (h:k<ws.length):dN rs (ws.take k)<=dN rs (ws.take (k+1))/\(ws[k] ∉ rs->dN rs (ws.take (k+1))=dN rs (ws.take k)+1):=by
 unfold dN;rw [Qa h,List.filter_append,Q2];refine ⟨Nat.le_add_right _ _,λa=>?_⟩
 simp [a]
theorem tM (A s q n:Nat) (G D:Sd) (rs:List Rn) (v:Value) (hs:List ad) (w:World) (hE:bC w A s q n G D (λa=>a∈rs)) (hH:aX (av (gD s q) w) v hs) (hF:bt hs=0) (hn:n+36<=1000) :
  Calls prog 57 #[A,v] w λe w'=>e=.returned .nilIface/\(∃ n',n'<=n+dN rs (aE hs)/\bC w' A s q n' G D λa=>a∈aE hs)/\bQ s q w w':=by
 obtain ⟨hZ,h3,hV⟩:=hE.lt;obtain ⟨h9,hW,h5⟩:=hE.apart;have HE:=qI hE;have hJ:=qI (D5 hF);have hu:=qI (tK hF);have H8:=qI (D6 hF);obtain ⟨f1,f2,_⟩:=cL.1 hF;have HN:=qI λ(W:World) (l:aM (av (gD s q) w) W)=>St v hs W _ hH l (by omega) λx B=>⟨(f2 x B).2.1,by have:=(jk (f2 x B).1).2.2.1;have:=(f2 x B).2.1;omega⟩;obtain ⟨he,af,xs,U,H5,hf⟩:=hE;have hP:xs.length<=1000:=by
  obtain ⟨_,es,ho,hp⟩:=U;have h1:=ho.size_le;have h2:=hp.length_eq;unfold lE at h2;rw [Q9] at h2;rw [Go.Maps.size_eq] at h1;omega
 have Hv:=qI (DY A s q n xs w he U hP λx B=>⟨(H5 x B).1.1,(H5 x B).2⟩);have hh:=qI hf;have hw:=qI U.1;have HO:=qI (D7 (W:=w) U.keys);obtain ⟨ao,c,rfl,_,_⟩:=hH;clear hF f1 f2 he af U H5 hf
 go_enter func57,ntmps57
 go_wp2_with fail
 refine Hv.o.mono ?_;rintro e W1 ⟨⟨v1,b,rfl,hg,H9,He,_⟩,Hs⟩;have hX:=qI Hs;clear Hv
 go_wp2_with fail
 refine (HN.o W1 ((dm _ _).trans (aM.of_below Hs))).mono ?_;rintro e f ⟨v2,d,rfl,F,H7,hq,Hz⟩;clear HN;have h7:=Hs.size;have h4:=Hz.size;have hR:=qI (Hs.trans (Hz.mono Hs.size));have HQ:=qI (bQ.of_below (B1:=s) (B2:=q) (Hs.trans (Hz.mono Hs.size)));have HY:=qI (oi hg (λj _ X=>Hz.block j X) Hz.size);have H2:=qI (Eg H7);have HV:Hu (∀ y∈b,((bm f y/\y.dn<=1000)/\kF w y)/\aI f y=aI W1 y):=λy t=>by
  obtain ⟨⟨H,R⟩,P⟩:=H9 y t;obtain ⟨N,S⟩:=H.below Hz λ_ _ _ h=>h;exact ⟨⟨⟨N,R⟩,P⟩,by unfold aI;rw [S]⟩
 have Hn:b.map (aI f)=b.map (aI W1):=List.map_congr_left λy t=>(HV.o y t).2
 have HJ:Hu (∀ a,a∈b.map (aI f)↔a∈rs):=λa=>by rw [Hn,He.mem_iff];exact hh.o a
 have hN:Hu (((b.map (aI f)).map kG).Nodup):=by unfold Hu;rw [Hn];exact (He.map kG).nodup_iff.2 HO.o
 have h8:b.length<=1000:=by
  have:=He.length_eq
  rw [Q9,Q9] at this;omega
 have hT:Hu (∀ y∈b,y.Short):=λy t=>by
  have h1:aI W1 y∈xs.map (aI w):=He.mem_iff.1 (Qk.2 ⟨y,t,rfl⟩);obtain ⟨x,B,e⟩:=Qk.1 h1
  have:=hw.o x B
  have N:x.pod=y.pod:=congrArg Rn.pod e;have S:x.cont=y.cont:=congrArg Rn.cont e;unfold RV.Short at *;rw [<- N,<- S];exact this
 have O:=qI F;have HL:=qI hq;have h6:d.length<=36:=by
  have:=hu.o
  rw [<- F,Q9] at this;exact this
 have hC:=qI (HE.o.below hR.o);clear hg H9 He Hs Hz F H7 hq Hn HO hh;obtain ⟨a1,c1,hO,_,_⟩:=id HY.o;subst hO;obtain ⟨a2,c2,hl,_,_⟩:=id H2.o;rw [Q9] at hl;subst hl
 go_wp2
 go_loopw [19] (λi wr=>∃ k:Nat,k<=b.length/\i=.int .i64 k/\bC wr A s q n G D (λa=>a∈b.map (aI f)/\(a∈aE hs\/a∈(b.map (aI f)).drop k))/\bQ s q f wr) (λi _=>b.length - (intOf i).toNat)
 case atStart=>exact ⟨0,by omega,rfl,hC.o.congr (λa=>by rw [List.drop_zero,HJ.o a];exact ⟨λh=>⟨h,.inr h⟩,λh=>h.1⟩),bQ.refl _ _ _⟩
 case round=>
  obtain ⟨k,hk,rfl,HH,Ha⟩:=hrel;have Hq:=qI HH;have Hy:=qI Ha;have hU:=Ha.size;clear HH
  by_cases o:k<b.length
  ·have HT:=oi HY.o (W':=wr) (λj X p=>Ha.block j p (by omega) (by omega)) Ha.size;obtain ⟨j2,j3,H6,_,Hm⟩:=HT;injection H6 with N S e3
   subst N e3;obtain ⟨g,rfl,hK,ht,V⟩:=Hm (by omega);obtain ⟨⟨x0,x1,x2,x3⟩,_⟩:=V k o;have HA:=n9 o;obtain ⟨⟨⟨H,R⟩,P⟩,_⟩:=HV.o _ HA;obtain ⟨hD,hI⟩:=hT.o _ HA;have J:(b.map (aI f))[k]'(by rw [Q9];exact o)=aI f (rv b k):=by simp [rv,o]
   obtain ⟨d4,d5⟩:=Eh (W':=wr) H (λgg oo h0 K=>by
    obtain ⟨g2,Hh,hv⟩:=P h0;rw [K] at Hh;injection Hh with Hh
    injection Hh with Hh
    subst Hh;obtain ⟨g4,o4,Hi,H1,_⟩:=H h0;rw [K] at Hi;injection Hi with Hi
    injection Hi with Hi
    subst Hi;exact Ha.block _ H1 (by omega) (by omega)) Ha.size
   have Hf:=qI ((Q0 wr wr).alloc (lR) (cu (rv b k)));obtain ⟨d6,d7⟩:=d4.below Hf.o λ_ _ _ h=>h;have HF:Hu (aI (wr.alloc (cu (rv b k))) (rv b k)=aI f (rv b k)):=by unfold Hu aI;rw [d7,d5]
   have I:=qI ((HQ.o.trans Ha).trans (bQ.of_below Hf.o));have Hb:=qI (Ea (.slice a2 d.length c2) (d.map Prod.fst) (rv b k) W1 (wr.alloc (cu (rv b k))) (oi (oi H2.o (λj X p=>Ha.block j p (by omega) (by omega)) Ha.size) (λj _ p=>Hf.o.block j p) Hf.o.size) (λy t=>by
    obtain ⟨z,F,rfl⟩:=Qk.1 t;obtain ⟨C,_,_,q4⟩:=zed (HL.o z F) I.o
    have:=(H8.o z.2 (by rw [<- O.o];exact Qk.2 ⟨z,F,rfl⟩)).2.2
    exact ⟨C,by omega⟩) ⟨d6,R⟩ (by rw [Q9];omega))
   have Hc:Hu ((((d.map Prod.fst).any λy=>ep (wr.alloc (cu (rv b k))) y (rv b k))=true)↔(b.map (aI f))[k]'(by rw [Q9];exact o)∈aE hs):=by
    unfold Hu;rw [Ei,HF.o,J,List.map_map];have e:d.map (aI (wr.alloc (cu (rv b k))) ∘ Prod.fst)=aE hs:=by
     rw [<- O.o];exact List.map_congr_left λz F=>(zed (HL.o z F) I.o).2.1
    rw [e]
   have Hj:Hu ((wr.alloc (cu (rv b k))).heap[wr.heap.size]?=some (cu (rv b k))):=aU wr (cu (rv b k)) rfl;have Hg:k<(b.map (aI f)).length:=by rw [Q9];exact o
   have Q:=qI J;have hS:(k:Int)<(b.length:Int):=by omega
   have HS:(wr.alloc (cu (rv b k))).heap.size=wr.heap.size+1:=by simp
   clear V Hm H R P d4 d5 d6 d7 J HA;generalize rv b k=y at *;unfold cu at Hb Hj Hf HS Hc I;generalize ((d.map Prod.fst).any λz=>ep _ z y)=bb at *
   go_wp2_with fail
   generalize wr.alloc (.cells #[y.pod,y.cont,.int .u64 y.cpus,.slice y.da y.dn y.dc] 129)=W3 at *;refine Hb.o.mono ?_;rintro e u ⟨rfl,L⟩;have Ho:=qI (Hf.o.trans (L.mono (by omega)));have Hp:=(L.block wr (by omega)).trans Hj.o;have b0:cl u wr (0) y.pod:=aa Hp 0;have b1:cl u wr (1) y.cont:=aa Hp 1;clear L Hp Hb x0 x1 x2 x3
   rcases two bb with Hw|Hw
   ·subst Hw;have E:=qI (Hc.o.1 rfl)
    go_wp2
    go_roundw
    case rel=>exact ⟨k+1,by omega,by go_num,(Hq.o.below Ho.o).congr λa=>(MA Hg E.o a).symm,Hy.o.trans (bQ.of_below Ho.o)⟩
    case measure=>simp [intOf];omega
   ·subst Hw;have E:Hu ((b.map (aI f))[k]'Hg ∉ aE hs):=λh=>by have:=Hc.o.2 h;cases this
    have Ht:=qI (Sk A s q n G D _ y.pod y.cont u (Hq.o.below Ho.o) hD hI ⟨(b.map (aI f))[k]'Hg,⟨List.getElem_mem Hg,.inr (by rw [List.drop_eq_getElem_cons Hg];exact List.mem_cons_self ..)⟩,by rw [Q.o];rfl⟩)
    go_wp2_with fail
    refine Ht.o.mono ?_;rintro e W5 ⟨rfl,HM,Z⟩;have H3:=qI HM;have H0:=qI ((Hy.o.trans (bQ.of_below Ho.o)).trans Z);clear HM Z Ht
    go_wp2
    go_roundw
    case rel=>exact ⟨k+1,by omega,by go_num,H3.o.congr (λa=>by rw [Mz kG Hg hN.o E.o a,Q.o];rfl),H0.o⟩
    case measure=>simp [intOf];omega
  ·have H4:k=b.length:=by omega
   subst H4;have hA:Hu (bC wr A s q n G D λa=>a∈aE hs/\(a∈b.map (aI f)\/a∈(aE hs).take 0)):=Hq.o.congr (λa=>by
    have:=MB (runs:=b.map (aI f)) (wanted:=aE hs) a
    rw [Q9] at this;exact this)
   generalize hwm:wr=WM at *;clear hwm Hq
   go_wp2
   go_loopw [38] (λi wr=>∃ k m:Nat,k<=d.length/\i=.int .i64 k/\m<=n+dN rs ((aE hs).take k)/\bC wr A s q m G D (λa=>a∈aE hs/\(a∈b.map (aI f)\/a∈(aE hs).take k))/\bQ s q f wr) (λi _=>d.length - (intOf i).toNat)
   case atStart=>exact ⟨0,n,by omega,rfl,by omega,hA.o,Hy.o⟩
   case round=>
    obtain ⟨k,m,hk,rfl,hb,HH,Ha⟩:=hrel;have Hq:=qI HH;have Hy:=qI Ha;have hU:=Ha.size;clear HH
    by_cases o:k<d.length
    ·have HT:=oi H2.o (W':=wr) (λj X p=>Ha.block j p (by omega) (by omega)) Ha.size;obtain ⟨j0,j1,H6,_,Hm⟩:=HT;injection H6 with N S e3
     subst N e3;clear S;obtain ⟨g,rfl,hK,ht,V⟩:=Hm (by rw [Q9];omega);have Hl:d[k]∈d:=List.getElem_mem o;have HP:rv (d.map Prod.fst) k=d[k].1:=by simp [rv,o]
     have hc:=V k (by rw [Q9];exact o);rw [HP] at hc;obtain ⟨⟨x0,x1,x2,x3⟩,_⟩:=hc;have Hg:k<(aE hs).length:=by rw [<- O.o,Q9];exact o
     have J:(aE hs)[k]'Hg=d[k].2:=by simp [<- O.o]
     have Hf:=qI ((Q0 wr wr).alloc (lR) (cu d[k].1));have I:=qI ((HQ.o.trans Ha).trans (bQ.of_below Hf.o));obtain ⟨C,M,q3,q4⟩:=zed (HL.o _ Hl) I.o;obtain ⟨Y,T,Jx⟩:=H8.o d[k].2 (by rw [<- O.o];exact Qk.2 ⟨_,Hl,rfl⟩);obtain ⟨p1,p2,p3,p4⟩:=HL.o _ Hl;clear p3 p4;have HR:Hu (∀ y∈b,bm (wr.alloc (cu d[k].1)) y/\y.dn<=1000/\aI (wr.alloc (cu d[k].1)) y=aI f y):=λy t=>by
      obtain ⟨⟨⟨H,R⟩,P⟩,_⟩:=HV.o y t;obtain ⟨d4,d5⟩:=Eh (W':=wr.alloc (cu d[k].1)) H (λgg oo h0 K=>by
       obtain ⟨g2,Hh,hv⟩:=P h0;rw [K] at Hh;injection Hh with Hh
       injection Hh with Hh
       subst Hh;obtain ⟨g4,o4,Hi,H1,_⟩:=H h0;rw [K] at Hi;injection Hi with Hi
       injection Hi with Hi
       subst Hi;exact (Hf.o.block _ (by omega)).trans (Ha.block _ H1 (by omega) (by omega))) (Q5 Ha.size Hf.o.size)
      exact ⟨d4,R,by unfold aI;rw [d5]⟩
     have Hb:=qI (Ea (.slice a1 b.length c1) b d[k].1 w (wr.alloc (cu d[k].1)) (oi (oi HY.o (λj X p=>Ha.block j p (by omega) (by omega)) Ha.size) (λj _ p=>Hf.o.block j p) Hf.o.size) (λy t=>⟨(HR.o y t).1,(HR.o y t).2.1⟩) ⟨C,by omega⟩ (by omega));have Hc:Hu (((b.any λy=>ep (wr.alloc (cu d[k].1)) y d[k].1)=true)↔(aE hs)[k]'Hg∈b.map (aI f)):=by
      unfold Hu;rw [Ei,M,J,List.map_congr_left λy t=>(HR.o y t).2.2]
     have Hj:Hu ((wr.alloc (cu d[k].1)).heap[wr.heap.size]?=some (cu d[k].1)):=aU wr (cu d[k].1) rfl;have Q:=qI J;have Hr:=qI (HL.o _ Hl);have hr:=qI (Sv (rs:=rs) Hg);have Hx:=tL rs ((aE hs).take k);rw [Qu] at Hx;have hS:(k:Int)<(d.length:Int):=by omega
     have HS:(wr.alloc (cu d[k].1)).heap.size=wr.heap.size+1:=by simp
     clear V Hm C M q3 J Hl HR HP;generalize d[k]=z at *;obtain ⟨y,r⟩:=z;dsimp only at x0 x1 x2 x3 Hb Hj Hf HS Hc I Q Hr Y T Jx p1 p2 q4;have hM:y.pod.size<=7000:=by rw [p1];exact Y
     have hL:y.cont.size<=7000:=by rw [p2];exact T
     have hY:y.dn<=16:=by omega
     clear p1 p2 q4;have HX:=qI Hx;clear Hx;unfold cu at Hb Hj Hf HS Hc I;generalize (b.any λz=>ep _ z y)=bb at *
     go_wp2_with fail
     generalize wr.alloc (.cells #[y.pod,y.cont,.int .u64 y.cpus,.slice y.da y.dn y.dc] 129)=W3 at *;refine Hb.o.mono ?_;rintro e u ⟨rfl,L⟩;have Ho:=qI (Hf.o.trans (L.mono (by omega)));have Hp:=(L.block wr (by omega)).trans Hj.o;have b0:cl u wr (0) y.pod:=aa Hp 0;have b1:cl u wr (1) y.cont:=aa Hp 1;have b2:cl u wr (2) (.int .u64 y.cpus):=aa Hp 2;have b3:cl u wr (3) (.slice y.da y.dn y.dc):=aa Hp 3;clear L Hp Hb x0 x1 x2 x3
     rcases two bb with Hw|Hw
     ·subst Hw;have E:=qI (Hc.o.1 rfl)
      go_wp2
      go_roundw
      case rel=>exact ⟨k+1,m,by omega,by go_num,by have:=hr.o.1;omega,(Hq.o.below Ho.o).congr λa=>(MC Hg E.o a).symm,Hy.o.trans (bQ.of_below Ho.o)⟩
      case measure=>simp [intOf];omega
     ·subst Hw;have E:Hu ((aE hs)[k]'Hg ∉ b.map (aI f)):=λh=>by have:=Hc.o.2 h;cases this
      obtain ⟨C,M,q3,q5⟩:=zed Hr.o ((HQ.o.trans Ha).trans (bQ.of_below Ho.o));clear q5;dsimp only at C M q3;have Hk:=qI (Sl A s q m G D _ y u (Hq.o.below Ho.o) ⟨hM,hL⟩ C q3 (by omega) (by have:=HX.o;omega) (λa K=>by
       have:=MD kG Hg hJ.o E.o a K
       rw [Q.o,<- M] at this;exact this))
      have HF:Hu (aI u y=(aE hs)[k]'Hg):=by unfold Hu;rw [M,Q.o]
      have hG:Hu (∀ a,((a∈aE hs/\(a∈b.map (aI f)\/a∈(aE hs).take k))\/a=aI u y)↔(a∈aE hs/\(a∈b.map (aI f)\/a∈(aE hs).take (k+1)))):=λa=>by
       rw [HF.o];exact (BP Hg a).symm
      have hB:Hu (m+1<=n+dN rs ((aE hs).take (k+1))):=by
       unfold Hu
       have:=hr.o.2 λh=>E.o ((HJ.o _).2 h)
       omega
      clear C M q3
      go_wp2_with fail
      refine Hk.o.mono ?_;rintro e W5 ⟨rfl,HM,Z⟩;have H3:=qI HM;have H0:=qI ((Hy.o.trans (bQ.of_below Ho.o)).trans Z);clear HM Z Hk
      go_wp2
      go_roundw
      case rel=>exact ⟨k+1,m+1,by omega,by go_num,hB.o,H3.o.congr hG.o,H0.o⟩
      case measure=>simp [intOf];omega
    ·have H4:k=d.length:=by omega
     subst H4;have hi:(aE hs).length=d.length:=by rw [<- O.o,Q9]
     have HU:Hu (∃ n',n'<=n+dN rs (aE hs)/\bC wr A s q n' G D λa=>a∈aE hs):=by
      refine ⟨m,?_,Hq.o.congr λa=>?_⟩
      ·rw [<- hi,Qh] at hb;exact hb
      ·rw [<- hi];exact ME a
     go_wp2
     go_ret;exact ⟨rfl,HU.o,HQ.o.trans Hy.o⟩
