import Derived.Test.YtjlblidnfebmiaaGreatDoorE39
import Derived.Deep.LoopGhost
set_option maxRecDepth 100000
set_option maxHeartbeats 16000000
open Go Go.RowKit Go.Shelf
attribute [local go_sem] Oper.semAt_some
open Go.Proofs.Tryz
namespace Go.Proofs.YtjlblidnfebmiaaGreatDoor
variable {G:(Nat->Value)->Act} {P:Program} {Q:Exit->Act->World->Prop} {R:Act->World->Prop} {a:Act} {w:World}
def mU:Code->List Code
 | .loop c=>c :: mU c
 | .seq a b=>mU a++mU b
 | .cond _ a b=>mU a++mU b
 | .block _ c=>mU c
 | .scope c=>mU c
 | _=>[]
def FrS (G:(Nat->Value)->Act) (P:World->Prop) (a:Act) (w:World):Prop:=∃ F,a=G F/\P w
theorem FrS.mk {P:World->Prop} (h:a=G (λn=>a.tmps.getD n undef)) (b:P w):FrS G P a w:=⟨_,h,b⟩
def ov (n:Nat) (R:Act->World->Prop):Exit->Act->World->Prop
 | .exit m,a,w=>m=n/\R a w
 | _,_,_=>False
theorem pG {c:Code} {n:Nat} {a:Act} {w:World} (f:a=G (λn=>a.tmps.getD n undef)) (h:∀ F,Code.wp P c (ov n R) (G F) w) (d:∀ a w,R a w->Q (.exit n) a w):Code.wp P c Q a w:=by
 rw [f];exact Code.wp_mono (λe a w b=>by
  cases e with
  | exit m=>exact b.1 ▸ d _ _ b.2
  | _=>exact b.elim) (h _)
def mW (n:Nat):Code->Option Code
 | .region m os d=>if m == n then some (.region m os d) else none
 | .loop c=>mW n c
 | .seq a b=>(mW n a).or (mW n b)
 | .cond _ a b=>(mW n a).or (mW n b)
 | .block _ c=>mW n c
 | .scope c=>mW n c
 | _=>none
def iZ (R:Act->World->Prop):Exit->Act->World->Prop
 | .normal,a,w=>R a w
 | _,_,_=>False
theorem iZ.mk (h:R a w):iZ R .normal a w:=h
theorem uj {c:Code} {a:Act} {w:World} (f:a=G (λn=>a.tmps.getD n undef)) (h:∀ F,Code.wp P c (iZ R) (G F) w) (d:∀ a w,R a w->Q .normal a w):Code.wp P c Q a w:=by
 rw [f];exact Code.wp_mono (λe a w b=>by
  cases e with
  | normal=>exact d _ _ b
  | _=>exact b.elim) (h _)
theorem yf {a:Act} {w:World} {c:Code} (I:Nat->Act->World->Prop) (n₀:Nat) (h₀:I n₀ a w) (round:∀ n a w,I n a w->∀ K:Act->World->Prop,Hu (∀ b w',(∃ d,d<n/\I d b w')->K b w')->c.wp P (Exit.then K Q) a w):(Code.loop c).wp P Q a w:=
 wp_loop_ghost I n₀ h₀ λn a w h=>round n a w h _ (qI λ_ _ q=>q)
noncomputable def lM (n:Nat):Code:=((Tryz.f17.body.bind (mW n))).getD .skip
noncomputable def jA (n:Nat):Code:=((Tryz.f17.body.map mU).getD []).getD n .skip
def tlS (F:Nat->Value) (t:List Value):Nat->Nat->List Value
 | _,0=>t
 | a,k+1=>F a :: tlS F t (a+1) k
def frD (c2 c7 c8 c9 c10 c11 c12 c13 c14 c16 c17 c18 c19 c20 c105:Value) (F:Nat->Value):Act:=⟨List.toArray (F 0 :: F 1 :: c2 :: F 3 :: F 4 :: F 5 :: F 6 :: c7 :: c8 :: c9 :: c10 :: c11 :: c12 :: c13 :: c14 :: F 15 :: c16 :: c17 :: c18 :: c19 :: c20 :: F 21 :: F 22 :: F 23 :: F 24 :: tlS F (c105 :: tlS F ([]) 106 170) 25 80),[]⟩
def frB (c2 c7 c8 c9 c10 c11 c12 c13 c14 c16 c17 c18 c19 c20 c138:Value) (F:Nat->Value):Act:=⟨List.toArray (F 0 :: F 1 :: c2 :: F 3 :: F 4 :: F 5 :: F 6 :: c7 :: c8 :: c9 :: c10 :: c11 :: c12 :: c13 :: c14 :: F 15 :: c16 :: c17 :: c18 :: c19 :: c20 :: F 21 :: F 22 :: F 23 :: F 24 :: tlS F (c138 :: tlS F ([]) 139 137) 25 113),[]⟩
def frS (c2 c7 c8 c9 c10 c11 c12 c13 c14 c16 c17 c18 c19 c20:Value) (F:Nat->Value):Act:=⟨List.toArray (F 0 :: F 1 :: c2 :: F 3 :: F 4 :: F 5 :: F 6 :: c7 :: c8 :: c9 :: c10 :: c11 :: c12 :: c13 :: c14 :: F 15 :: c16 :: c17 :: c18 :: c19 :: c20 :: F 21 :: F 22 :: F 23 :: F 24 :: tlS F ([]) 25 251),[]⟩
theorem Up {us:Nat->Bool} {l:List Int} {q m:Nat} (a:q<l.length) (b:bf l q=(m:Int)) (j:Nat):ci us (l.take (q+1)) j=if j=m then true else ci us (l.take q) j:=by grind [zt,zC]
theorem Uq (c2 C D c11 h g r p z y:Value) (F:Nat->Value) (W:World) (d a:Nat) (G:Option Addr) (dn wc:Nat) (t:Option Addr) (A:Nat) (l:List Int) (us:Nat->Bool) (x:W.cell? ⟨d,1,none⟩=some (.slice t l.length A)) (hi:bA W (.slice t l.length A) l) (E:cS W a us) (w:d≠a) (k:∀ b o,t=some ⟨b,o,none⟩->0<l.length->b≠a) (O:l.length<=16) (af:dn<=16) (n:∀ j,j<l.length->(0<=bf l j/\bf l j<dn/\bf l j ∉ l.take j)/\us (bf l j).toNat=false) :
  Code.wp prog (Code.loop (jA 3)) (ov 6 (FrS (λF=>frS c2 C D (.slice G dn wc) (.pointer (some ⟨a,0,none⟩)) c11 h g r p (.pointer (some ⟨d,0,none⟩)) (F 18) (F 19) (F 20) F) λW'=>cS W' a (ci us l)/\Apart (λj=>j=a) W W')) (frS c2 C D (.slice G dn wc) (.pointer (some ⟨a,0,none⟩)) c11 h g r p (.pointer (some ⟨d,0,none⟩)) z y (.int .i64 0) F) W:=by
 obtain ⟨f,M,Hi,_,Hg⟩:=hi;have Hx:f=t:=by injection Hi with e;exact e.symm
 subst Hx;have Hm:=qI Hg;have Hr:=qI k;have Hn:=qI n;have Hv:Hu (cS W a (ci us (l.take 0))):=by
  unfold Hu;rw [List.take_zero,zB];exact E
 clear Hg k n Hi E;simp only [frS,tlS,Nat.reduceAdd]
 conv=>enter [2,1];unfold jA;whnf
 have Hj:d<W.heap.size:=Q3 W _ x;have N:=qI x;clear x
 go_loopw [20] (λi wq=>∃ q:Nat,q<=l.length/\i=.int .i64 q/\cS wq a (ci us (l.take q))/\Apart (λj=>j=a) W wq) (λi _=>l.length - (intOf i).toNat)
 case atStart=>exact ⟨0,Nat.zero_le _,rfl,Hv.o,Apart.refl _ _⟩
 case round=>
  obtain ⟨q,P,rfl,Hb,Ha⟩:=hrel;have g1:wr.cell? ⟨d,1,none⟩=some (.slice f l.length A):=(ot (Ha.block d Hj w) 1).trans N.o
  by_cases c:q<l.length
  ·obtain ⟨u,H,Hh,Hc,He⟩:=Hm.o (by omega);have Hl:u≠a:=Hr.o u H Hh (by omega);subst Hh;obtain ⟨⟨r1,I,B⟩,v⟩:=Hn.o q c;obtain ⟨m,s⟩:∃ m:Nat,bf l q=(m:Int):=⟨(bf l q).toNat,by omega⟩;have Hy:m<dn:=by omega
   have i0:wr.cell? ⟨u,H+q,none⟩=some (.int .i64 (m:Int)):=by
    rw [(ot (Ha.block u Hc Hl) _).trans (He q c),<- s];rfl
   have Hf:ci us (l.take q) m=false:=by
    rw [s] at B v;have e:((m:Int)).toNat=m:=by omega
    rw [e] at v;exact wb.2 ⟨v,B⟩
   obtain ⟨b0,b1⟩:=Hb m (by omega);rw [Hf] at b0;have Hw:Hu (cS (wr.setCell ⟨a,m,none⟩ (.bool true)) a (ci us (l.take (q+1)))):=Hb.set (by omega) true λj _=>Up c s j;have Hs:Hu (Apart (λj=>j=a) W (wr.setCell ⟨a,m,none⟩ (.bool true))):=Ha.trans (Apart.setCell (K:=λj=>j=a) rfl _ _ _);have Ho:m<16:=by omega
   have Hp:¬ ((m:Int)<0):=by omega
   have Hq:decide ((m:Int)<0)=false:=Q7 Hp;have Hz:decide ((dn:Int)<=(m:Int))=false:=Q7 (by omega);have Hk:decide (dn<=m)=false:=Q7 (by omega);clear He Hb Ha s r1 I B v Hf
   go_wp2
   go_roundw
   case rel=>exact ⟨q+1,by omega,by go_num,Hw.o,Hs.o⟩
   case measure=>simp [intOf];omega
  ·have Ht:q=l.length:=by omega
   subst Ht;rw [Qh] at Hb;have L:=qI Hb;have J:=qI Ha;clear Hb Ha
   go_wp2
   exact ⟨rfl,FrS.mk (by kernel_rfl) ⟨L.o,J.o⟩⟩
abbrev Fb:=λ(Bg cp Bp:Nat) (p:az) (cb co cc k:Nat) (x:aA) (na:Option Addr) (nc:Nat) (w':World)=>(w'.cell? ⟨Bg,0,none⟩=some (.int .u64 (cp:Nat))/\w'.cell? ⟨Bp,0,none⟩=some (.string p.nm)/\w'.cell? ⟨Bp,1,none⟩=some (.int .i64 p.pr)/\w'.cell? ⟨Bp,2,none⟩=some (.slice (some ⟨cb,co,none⟩) p.cs.length cc))/\w'.cell? ⟨cb,co+k*6,none⟩=some (.string x.nm)/\w'.cell? ⟨cb,co+k*6+1,none⟩=some (.int .i64 x.am)/\w'.cell? ⟨cb,co+k*6+2,none⟩=some (.int .i64 x.ab)/\w'.cell? ⟨cb,co+k*6+3,none⟩=some (.int .i64 x.cm)/\w'.cell? ⟨cb,co+k*6+4,none⟩=some (.int .i64 x.cb)/\w'.cell? ⟨cb,co+k*6+5,none⟩=some (.slice na x.ds.length nc)
theorem Ur (c2 E G c10 c11 r q u B A:Value) (F:Nat->Value) (W:World) (g d cb c cc k cp i dl:Nat) (J:Option Addr) (H:Nat) (p:az) (x:aA) (l:Option Addr) (nc:Nat)
  (z:W.heap[g]?=some (.cells #[.string p.nm,.int .i64 p.pr,.slice (some ⟨cb,c,none⟩) p.cs.length cc] 49)) (w:W.heap[d]?=some (.cells #[.int .u64 (cp:Nat),.slice J dl H] 123)) (N:k<p.cs.length) (_h3:p.cs.length<=1000) (f:∀ j,j<6->W.cell? ⟨cb,c+k*6+j,none⟩=([.string x.nm,.int .i64 x.am,.int .i64 x.ab,.int .i64 x.cm,.int .i64 x.cb,.slice l x.ds.length nc]:List Value)[j]?) (b:aZ W (.slice (some ⟨cb,c,none⟩) p.cs.length cc) p.cs) (o:cp<18446744073709551616) (D:i<18446744073709551616) (s:cp &&& i=cp) (m:(ap cp:Int)=bL p.cs x.am) (v:0<=x.am) (C:x.am<=1000000) :
  Code.wp prog (lM 23) (iZ (FrS (λF=>frB c2 (.int .u64 (i:Nat)) E G c10 c11 r q (.pointer (some ⟨g,0,none⟩)) (.int .i64 (k:Nat)) (.pointer (some ⟨d,0,none⟩)) (F 18) (F 19) (F 20) (.bool false) F) λW'=>Below W.heap.size W W')) (frS c2 (.int .u64 (i:Nat)) E G c10 c11 r q (.pointer (some ⟨g,0,none⟩)) (.int .i64 (k:Nat)) (.pointer (some ⟨d,0,none⟩)) u B A F) W:=by
 have Hi:g<W.heap.size:=(gS z).1;have Hj:d<W.heap.size:=(gS w).1;have He:cb<W.heap.size:=Q3 W ⟨cb,c+k*6+0,none⟩ (f 0 (by decide));have Hc:Hu (∀ V,Below W.heap.size W V->(Fb d cp g p cb c cc k x l nc) V):=λV n=>by
  have cc:∀ j,j<6->V.cell? ⟨cb,c+k*6+j,none⟩=([.string x.nm,.int .i64 x.am,.int .i64 x.ab,.int .i64 x.cm,.int .i64 x.cb,.slice l x.ds.length nc]:List Value)[j]?:=λj I=>(n.cell (p:=⟨cb,_,none⟩) He).trans (f j I)
  have y:=(n.block g Hi).trans z;exact ⟨⟨aa ((n.block d Hj).trans w) 0,aa y 0,aa y 1,aa y 2⟩,cc 0 (by decide),cc 1 (by decide),cc 2 (by decide),cc 3 (by decide),cc 4 (by decide),cc 5 (by decide)⟩
 have Hb:∀ V,Calls prog 43 #[.int .u64 (cp:Nat),.int .u64 (i:Nat)] V λe w'=>e=.returned (.bool true)/\w'=V:=λV=>by
  have:=me cp i V o D
  rw [Qc s] at this;exact this
 have Hh:=qI Hb;have Hk:Hu (∀ V,Calls prog 39 #[.int .u64 (cp:Nat)] V λe w'=>e=.returned (.int .i64 (bL p.cs x.am))/\w'=V):=λV=>by
  have h:Calls prog 39 #[.int .u64 (cp:Nat)] V λe w'=>e=.returned (.int .i64 (ap cp:Nat))/\w'=V:=jc cp V o
  rw [m] at h;exact h
 have Hl:Hu (∀ V,Below W.heap.size W V->Calls prog 44 #[.agg #[.string p.nm,.int .i64 p.pr,.slice (some ⟨cb,c,none⟩) p.cs.length cc],.agg #[.string x.nm,.int .i64 x.am,.int .i64 x.ab,.int .i64 x.cm,.int .i64 x.cb,.slice l x.ds.length nc]] V λe w'=>e=.returned (.int .i64 (bL p.cs x.am))/\Below V.heap.size V w'):=λV n=>qk p _ x l x.ds.length nc V (b.below n) v C
 have Ha:Hu (Below W.heap.size W W.drew):=bF (Q0 _ _);generalize bL p.cs x.am=O at *;clear Hb f b z w s m;simp only [frS,tlS,Nat.reduceAdd]
 conv=>enter [2];unfold lM;whnf
 refine wp_region_held_drew (S:=Fb d cp g p cb c cc k x l nc) (by kernel_rfl) (Hc.o _ Ha.o) λt=>?_;generalize W.drew=V at *;refine tk 0 ?_;refine tk 1 ?_;refine tk 2 ?_;refine rd 3 λK a=>?_;go_simp
 go_wp2_with fail
 refine (Hh.o _).mono ?_;rintro e P ⟨rfl,rfl⟩
 go_wp2_with fail
 refine a.o _ _ (Hc.o _ Ha.o) λt=>?_;clear a K;refine tk 4 ?_;refine tk 5 ?_;refine tk 6 ?_;refine tk 7 ?_;refine tk 9 ?_;refine tk 10 ?_;refine tk 11 ?_;refine tk 12 ?_;refine tk 13 ?_;refine tk 14 ?_;refine rd 8 λK a=>?_;go_simp
 go_wp2_with fail
 refine (Hk.o _).mono ?_;rintro e L ⟨rfl,rfl⟩
 go_wp2_with fail
 refine a.o _ _ (Hc.o _ Ha.o) λt=>?_;clear a K;refine rd 15 λK a=>?_;go_simp
 go_wp2_with fail
 refine (Hl.o _ Ha.o).mono ?_;rintro e M ⟨rfl,Hf⟩;have Hg:=qI (Ha.o.trans (Hf.mono Ha.o.size));clear Hf
 go_wp2_with fail
 refine a.o _ _ (Hc.o _ Hg.o) λt=>?_;clear a K;refine tk 16 ?_;refine tk 17 ?_;refine Qn (by kernel_rfl) ?_ _;exact iZ.mk (FrS.mk (by kernel_rfl) Hg.o)
abbrev rz:=λ(Bp:Nat) (p:az) (cb co cc k:Nat) (cn:ByteArray) (Bg cp:Nat) (ia:Option Addr) (dl ic:Nat) (w':World)=>w'.cell? ⟨Bp,0,none⟩=some (.string p.nm)/\w'.cell? ⟨Bp,2,none⟩=some (.slice (some ⟨cb,co,none⟩) p.cs.length cc)/\w'.cell? ⟨cb,co+k*6,none⟩=some (.string cn)/\w'.cell? ⟨Bg,0,none⟩=some (.int .u64 (cp:Nat))/\w'.cell? ⟨Bg,1,none⟩=some (.slice ia dl ic)
theorem Us (c2 c7 c8 c9 c10 c11 c13 c18 c19 c20:Value) (F:Nat->Value) (W:World) (base Bp Bg cb co cc k cp dl:Nat) (ia:Option Addr) (ic:Nat) (p:az) (cn:ByteArray) (va:Option Addr) (vc:Nat) (zq:List (RV × Rn))
  (hp:W.heap[Bp]?=some (.cells #[.string p.nm,.int .i64 p.pr,.slice (some ⟨cb,co,none⟩) p.cs.length cc] 49)) (hg:W.heap[Bg]?=some (.cells #[.int .u64 (cp:Nat),.slice ia dl ic] 123)) (hk:k<p.cs.length) (_h3:p.cs.length<=1000) (hc:W.cell? ⟨cb,co+k*6,none⟩=some (.string cn)) (hcb:cb<base) (hrow:cP base W (.slice va zq.length vc) (zq.map Prod.fst)) (hzl:zq.length<=300) (hbl:base<=W.heap.size) :
  Code.wp prog (lM 39) (iZ λa w'=>∃ v',FrS (λF=>frS c2 c7 c8 c9 c10 c11 (v') c13 (.pointer (some ⟨Bp,0,none⟩)) (.int .i64 (k:Nat)) (.pointer (some ⟨Bg,0,none⟩)) (F 18) (F 19) (F 20) F) (λW'=>cP base W' v' (zq.map Prod.fst++[(⟨p.nm,cn,(cp:Nat),ia,dl,ic⟩:RV)])/\Apart (λj=>base<=j/\j≠Bp) W W') a w') (frS c2 c7 c8 c9 c10 c11 (.slice va zq.length vc) c13 (.pointer (some ⟨Bp,0,none⟩)) (.int .i64 (k:Nat)) (.pointer (some ⟨Bg,0,none⟩)) c18 c19 c20 F) W:=by
 obtain ⟨i0,hi,Hs,Ho,Hv⟩:=info_parts xq;have Hw:Bp<W.heap.size:=(gS hp).1;have Hx:Bg<W.heap.size:=(gS hg).1;have Hk:Hu ((rz Bp p cb co cc k cn Bg cp ia dl ic) W):=⟨aa hp 0,aa hp 2,hc,aa hg 0,aa hg 1⟩;have Hr:=qI hrow;have Hm:∀ b,(Value.slice va zq.length vc).ownBlock=some b->base<=b/\b≠Bp/\b≠Bg:=λb hb=>⟨(hrow.lt b hb).1,λe=>xH hrow hp (by decide) (by rw [hb,e]),λe=>xH hrow hg (by decide) (by rw [hb,e])⟩
 have Hg:=qI Hm;have hN:=xr W.drew (⟨p.nm,cn,(cp:Nat),ia,dl,ic⟩:RV) 129;rw [show W.drew.heap.size=W.heap.size from rfl] at hN;have HN:=qI hN;have Hp:Hu (cP base W.drew (.slice va zq.length vc) (zq.map Prod.fst)):=hrow;have Hf:Hu ((rz Bp p cb co cc k cn Bg cp ia dl ic) W.drew):=Hk.o;clear hp hg hrow hc hN Hm Hk;simp only [frS,tlS,Nat.reduceAdd]
 conv=>enter [2];unfold lM;whnf
 refine wp_region_held_drew (S:=rz Bp p cb co cc k cn Bg cp ia dl ic) (by kernel_rfl) Hf.o λhQ=>?_;refine tk 0 ?_;refine tk 1 ?_;refine tk 2 ?_;refine tk 3 ?_;refine tk 4 ?_;refine tk 5 ?_;refine tk 6 ?_;refine tk 7 ?_;refine tk 8 ?_;refine tk 9 ?_;refine tk 10 ?_;refine tk 11 ?_;refine tk 12 ?_;refine tk 13 ?_;have Hc:=(Q0 W.drew.heap.size W.drew).alloc (lR) (.cells #[.string p.nm,.string cn,.int .u64 (cp:Nat),.slice ia dl ic] 129);have He:Hu ((rz Bp p cb co cc k cn Bg cp ia dl ic) (W.drew.alloc (.cells #[.string p.nm,.string cn,.int .u64 (cp:Nat),.slice ia dl ic] 129))):=⟨(Hc.cell (p:=⟨Bp,0,none⟩) (by show Bp<W.heap.size;omega)).trans Hf.o.1,(Hc.cell (p:=⟨Bp,2,none⟩) (by show Bp<W.heap.size;omega)).trans Hf.o.2.1,(Hc.cell (p:=⟨cb,co+k*6,none⟩) (by show cb<W.heap.size;omega)).trans Hf.o.2.2.1,(Hc.cell (p:=⟨Bg,0,none⟩) (by show Bg<W.heap.size;omega)).trans Hf.o.2.2.2.1,(Hc.cell (p:=⟨Bg,1,none⟩) (by show Bg<W.heap.size;omega)).trans Hf.o.2.2.2.2⟩;have HA:=qI Hc;clear Hc;refine rd 14 λK hK=>?_;go_simp
 go_wp2_with fail
 refine hK.o _ _ He.o λhQ=>?_;clear hK K;refine rd 15 λK hK=>?_;rw [if_pos (by rfl)];have Hq:(zq.map Prod.fst).length<=400:=by rw [Q9];omega
 refine wp_append_own (o := { dst := some 224, op := Op.call { callee := Callee.builtin Builtin.append, args := #[Operand.tmp 209, Operand.tmp 223], argTypes := #[120, 120] }, type := 120, pos := "top.go:80", after := #[{ on := 0, ground := Ground.data }, { on := 14, ground := Ground.data }], guard := none }) _ _ _ 120 rfl base 129 i0 (.agg #[.string ByteArray.empty, .string ByteArray.empty, .int .u64 0, .slice none 0 0]) 4 64 underlying120 hi Hs Ho Hv rfl (by decide) (.slice va zq.length vc) _ _ rfl (Hp.o.alloc _) ⟨_, 0, none⟩ 1 1 (RV.cells (⟨p.nm, cn, (cp : Nat), ia, dl, ic⟩ : RV)) rfl rfl HN.o (Ef _) (by unfold maxLen; omega) (by omega) (by show base ≤ (W.drew.alloc _).heap.size; rw [World.size_alloc]; show base ≤ W.heap.size + 1; omega) ?_
 intro v' W3 Hb Ha _;have Ht:=qI (cP.push Hb);have Hn:Hu (Apart (λj=>base<=j/\j≠Bp) W W3):=((Apart.of_below (bF ((Q0 W.heap.size W).alloc (lR) _)))).trans (fp Ha λb hb _=>⟨(Hg.o b hb).1,(Hg.o b hb).2.1⟩);have Hi:some Bp≠(Value.slice va zq.length vc).ownBlock:=λe=>(Hg.o Bp e.symm).2.1 rfl
 have Hh:some Bg≠(Value.slice va zq.length vc).ownBlock:=λe=>(Hg.o Bg e.symm).2.2 rfl
 have Hj:some cb≠(Value.slice va zq.length vc).ownBlock:=λe=>by have:=(Hg.o cb e.symm).1;omega
 have Hz:(W.alloc (.cells #[.string p.nm,.string cn,.int .u64 (cp:Nat),.slice ia dl ic] 129)).drew.heap.size=W.heap.size+1:=by show (W.alloc _).heap.size=_;rw [World.size_alloc]
 have Hy:=Ha.size;have Hl:(rz Bp p cb co cc k cn Bg cp ia dl ic) W3:=⟨(Ha.cell_far ⟨Bp,0,none⟩ (by show Bp<_;omega) Hi).trans He.o.1,(Ha.cell_far ⟨Bp,2,none⟩ (by show Bp<_;omega) Hi).trans He.o.2.1,(Ha.cell_far ⟨cb,co+k*6,none⟩ (by show cb<_;omega) Hj).trans He.o.2.2.1,(Ha.cell_far ⟨Bg,0,none⟩ (by show Bg<_;omega) Hh).trans He.o.2.2.2.1,(Ha.cell_far ⟨Bg,1,none⟩ (by show Bg<_;omega) Hh).trans He.o.2.2.2.2⟩;refine hK.o _ _ Hl λhQ=>?_;clear hK K;(try simp only [Act.put,s1,s2,s3]);refine tk 16 ?_;refine Qn (by kernel_rfl) ?_ _;clear hQ Hb Ha Hl;exact iZ.mk ⟨v',FrS.mk (by kernel_rfl) ⟨Ht.o,Hn.o⟩⟩
abbrev Fc:=λ(Bp:Nat) (p:az) (pa:Option Addr) (pcc hb ho:Nat) (ga:Option Addr) (gc:Nat) (w':World)=>(w'.cell? ⟨Bp,0,none⟩=some (.string p.nm)/\w'.cell? ⟨Bp,1,none⟩=some (.int .i64 p.pr)/\w'.cell? ⟨Bp,2,none⟩=some (.slice pa p.cs.length pcc))/\w'.cell? ⟨hb,ho+0*4+3,none⟩=some (.slice ga p.cs.length gc)
abbrev Fd:=λ(Bp:Nat) (p:az) (pa:Option Addr) (pcc hb ho i:Nat) (ga:Option Addr) (gc j:Nat) (nm:ByteArray) (w':World)=>(w'.cell? ⟨Bp,0,none⟩=some (.string p.nm)/\w'.cell? ⟨Bp,1,none⟩=some (.int .i64 p.pr)/\w'.cell? ⟨Bp,2,none⟩=some (.slice pa p.cs.length pcc))/\w'.cell? ⟨hb,ho+i*4+3,none⟩=some (.slice ga p.cs.length gc)/\w'.cell? ⟨hb,ho+j*4,none⟩=some (.string nm)
theorem Ut (c2 B z C c10 q w s t x v:Value) (F:Nat->Value) (W:World) (c a f k y i:Nat) (d ga:Option Addr) (b gc:Nat) (p:az) (nm:ByteArray)
  (u:W.heap[c]?=some (.cells #[.string p.nm,.int .i64 p.pr,.slice d p.cs.length b] 49)) (g:aZ W (.slice d p.cs.length b) p.cs) (A:br p=0) (h:W.cell? ⟨a,f+i*4+3,none⟩=some (.slice ga p.cs.length gc)) (hi:i<k) (E:k<=100) (m:0<i->W.cell? ⟨a,f+(i - 1)*4,none⟩=some (.string nm)) (hle:0<i->dE p.nm nm=false) (_h3:p.cs.length<=1000) :
  Code.wp prog (lM 17) (iZ (FrS (λF=>frD c2 B z C c10 (.slice (some ⟨a,f,none⟩) k y) q (.int .i64 (i:Nat)) (.pointer (some ⟨c,0,none⟩)) (F 16) (F 17) (F 18) (F 19) (F 20) (.bool false) F) λW'=>Below W.heap.size W W')) (frS c2 B z C c10 (.slice (some ⟨a,f,none⟩) k y) q (.int .i64 (i:Nat)) (.pointer (some ⟨c,0,none⟩)) w s t x v F) W:=by
 have Hk:c<W.heap.size:=(gS u).1;have Hh:a<W.heap.size:=Q3 W ⟨a,_,none⟩ h;have Hl:Hu (∀ V,Below W.heap.size W V->Calls prog 42 #[.agg #[.string p.nm,.int .i64 p.pr,.slice d p.cs.length b]] V λe w'=>e=.returned .nilIface/\Below V.heap.size V w'):=λV a=>by
  have:=vJ p (.slice d p.cs.length b) V (g.below a)
  rw [A] at this;exact this
 have Ha:Hu (Below W.heap.size W W.drew):=bF (Q0 _ _);have Hg:=qI u;have Hf:=qI h;have Hi:=qI m;have Hj:=qI hle;clear g u h m hle A
 by_cases o:i=0
 ·subst o;have Hb:Hu (∀ V,Below W.heap.size W V->(Fc c p d b a f ga gc) V):=λV a=>by
   have l:=(a.block c Hk).trans Hg.o;exact ⟨⟨aa l 0,aa l 1,aa l 2⟩,(a.cell (p:=⟨_,_,none⟩) Hh).trans Hf.o⟩
  clear Hg Hf Hi Hj;simp only [frS,tlS,Nat.reduceAdd]
  conv=>enter [2];unfold lM;whnf
  refine wp_region_held_drew (S:=Fc c p d b a f ga gc) (by kernel_rfl) (Hb.o _ Ha.o) λr=>?_;generalize W.drew=V at *;refine tk 0 ?_;refine rd 1 λK n=>?_;go_simp
  go_wp2_with fail
  refine (Hl.o _ Ha.o).mono ?_;rintro e D ⟨rfl,He⟩;have Hc:=qI (Ha.o.trans (He.mono Ha.o.size));clear He
  go_wp2_with fail
  refine n.o _ _ (Hb.o _ Hc.o) λr=>?_;clear n K;refine tk 2 ?_;refine tk 3 ?_;refine tk 4 ?_;refine tk 5 ?_;refine tk 6 ?_;refine tk 7 ?_;refine tk 8 ?_;refine tk 9 ?_;refine tk 10 ?_;refine tk 11 ?_;refine tk 12 ?_;refine tk 13 ?_;refine tk 14 ?_;refine tk 15 ?_;refine tk 16 ?_;refine tk 17 ?_;refine tk 18 ?_;refine ts 19 ?_;refine ts 20 ?_;refine ts 21 ?_;refine ts 22 ?_;refine ts 23 ?_;refine ts 24 ?_;refine ts 25 ?_;refine ts 26 ?_;refine ts 27 ?_;refine ts 28 ?_;refine tk 29 ?_;refine tk 30 ?_;refine Qn (by kernel_rfl) ?_ _;exact iZ.mk (FrS.mk (by kernel_rfl) Hc.o)
 ·obtain ⟨j,Hm⟩:∃ j,i=j+1:=⟨i - 1,by omega⟩;clear o;have m:=Hi.o (by omega);have hle:=Hj.o (by omega);rw [show i - 1=j by omega] at m;unfold dE at hle;have Hb:Hu (∀ V,Below W.heap.size W V->(Fd c p d b a f i ga gc j nm) V):=λV a=>by
   have l:=(a.block c Hk).trans Hg.o;exact ⟨⟨aa l 0,aa l 1,aa l 2⟩,(a.cell (p:=⟨_,_,none⟩) Hh).trans Hf.o,(a.cell (p:=⟨_,_,none⟩) Hh).trans m⟩
  clear Hg Hf Hi Hj m;have Hr:decide ((0:Int)<(i:Int))=true:=Qc (by omega);have Hq:(0:Int)<(i:Int):=by omega
  have Hn:0<i:=by omega
  have Hp:decide (0<i)=true:=Qc Hn;have Ht:wrap64 ((i:Int) - 1)=(j:Int):=by unfold wrap64;omega
  have Hv:IntKind.i64.wrap ((i:Int) - 1)=(j:Int):=by rw [IntKind.wrap_i64];omega
  have Hw:j<k:=by omega
  have Hs:(j:Int)<(k:Int):=by omega
  have Ho:(i:Int)<(k:Int):=by omega
  clear Hm;simp only [frS,tlS,Nat.reduceAdd]
  conv=>enter [2];unfold lM;whnf
  refine wp_region_held_drew (S:=Fd c p d b a f i ga gc j nm) (by kernel_rfl) (Hb.o _ Ha.o) λr=>?_;generalize W.drew=V at *;refine tk 0 ?_;refine rd 1 λK n=>?_;go_simp
  go_wp2_with fail
  refine (Hl.o _ Ha.o).mono ?_;rintro e D ⟨rfl,He⟩;have Hc:=qI (Ha.o.trans (He.mono Ha.o.size));clear He
  go_wp2_with fail
  refine n.o _ _ (Hb.o _ Hc.o) λr=>?_;clear n K;refine tk 2 ?_;refine tk 3 ?_;refine tk 4 ?_;refine tk 5 ?_;refine tk 6 ?_;refine tk 7 ?_;refine tk 8 ?_;refine tk 9 ?_;refine tk 10 ?_;refine tk 11 ?_;refine tk 12 ?_;refine tk 13 ?_;refine tk 14 ?_;refine tk 15 ?_;refine tk 16 ?_;refine tk 17 ?_;refine tk 18 ?_;refine tk 19 ?_;refine tk 20 ?_;refine tk 21 ?_;refine tk 22 ?_;refine tk 23 ?_;refine tk 24 ?_;refine tk 25 ?_;refine tk 26 ?_;refine tk 27 ?_;refine tk 28 ?_;refine tk 29 ?_;refine tk 30 ?_;refine Qn (by kernel_rfl) ?_ _;exact iZ.mk (FrS.mk (by kernel_rfl) Hc.o)
def frE (c2 c3 c7 c8:Value) (F:Nat->Value):Act:=⟨List.toArray (F 0 :: F 1 :: c2 :: c3 :: F 4 :: F 5 :: F 6 :: c7 :: c8 :: F 9 :: F 10 :: F 11 :: F 12 :: F 13 :: F 14 :: F 15 :: F 16 :: F 17 :: F 18 :: F 19 :: F 20 :: F 21 :: F 22 :: F 23 :: F 24 :: tlS F ([]) 25 251),[]⟩
theorem Uu (c2 v:Value) (F:Nat->Value) (W:World) (d op w cl cc dl dc:Nat) (ca da:Option Addr) (nb pol:Int) (h:W.heap[d]?=some (.cells #[.slice ca cl cc,.int .u64 (w:Nat),.int .i64 nb,.slice da dl dc,.int .i64 pol] 27)) (k:op<18446744073709551616) :
  Code.wp prog (lM 5) (iZ λa w'=>∃ g,FrS (λF=>frE c2 (.pointer (some ⟨d,0,none⟩)) (.int .u64 (op:Nat)) (.pointer (some ⟨g,0,none⟩)) F) (λW'=>W'.heap[g]?=some (.cells #[.int .i64 (1000*(ap op:Int)),.int .i64 nb] 62 (0,0))/\W.heap.size<=g/\Below W.heap.size W W') a w') (frE c2 (.pointer (some ⟨d,0,none⟩)) (.int .u64 (op:Nat)) v F) W:=by
 have Ho:d<W.heap.size:=(gS h).1;have He:Hu (∀ V,Below W.heap.size W V->(λw'=>w'.cell? ⟨d,2,none⟩=some (.int .i64 nb)) V):=λV x=>aa ((x.block d Ho).trans h) 2
 have Hp:=xi op;have Hj:Hu (∀ V,Calls prog 39 #[.int .u64 (op:Nat)] V λe w'=>e=.returned (.int .i64 (ap op:Nat))/\w'=V):=λV=>jc op V k
 obtain ⟨q,j⟩:∃ q,q=ap op:=⟨_,rfl⟩;rw [<- j] at Hj Hp;rw [<- j];have Hn:IntKind.i64.wrap (1000*(q:Int))=1000*(q:Int):=by rw [IntKind.wrap_i64];omega
 have Hl:wrap64 (1000*(q:Int))=1000*(q:Int):=by unfold wrap64;omega
 have Ha:Hu (Below W.heap.size W W.drew):=bF (Q0 _ _);clear h j;simp only [frE,tlS,Nat.reduceAdd]
 conv=>enter [2];unfold lM;whnf
 refine wp_region_held_drew (S:=(λw'=>w'.cell? ⟨d,2,none⟩=some (.int .i64 nb))) (by kernel_rfl) (He.o _ Ha.o) λf=>?_;generalize W.drew=V at *;refine tk 0 ?_;refine tk 3 ?_;refine tk 4 ?_;refine rd2 1 6 (λK b=>?_) λK b=>?_
 ·go_simp
  go_wp2_with fail
  refine (Hj.o _).mono ?_;rintro e c ⟨rfl,rfl⟩
  go_wp2_with fail
  refine b.o _ _ (He.o _ Ha.o) λf=>?_;clear b K;refine tk 2 ?_;refine tk 5 ?_;refine rd 6 λK b=>?_;have Hi:=qI (Ha.o.alloc Ha.o.size (.cells #[.int .i64 0,.int .i64 0] 62));have Hh:=qI (aU c (.cells #[.int .i64 0,.int .i64 0] 62) rfl);have Hc:=Ha.o.size;go_simp
  go_wp2_with fail
  refine b.o _ _ (He.o _ Hi.o) λf=>?_;clear b K;generalize c.alloc (.cells #[.int .i64 0,.int .i64 0] 62)=l at *;refine rd 7 λK b=>?_;have u:l.cell? ⟨c.heap.size,0,none⟩=some (.int .i64 0):=aa Hh.o 0;have t:l.cell? ⟨c.heap.size,1,none⟩=some (.int .i64 0):=aa Hh.o 1;have s:=bw Hh.o 0;have m:=bw Hh.o 1;have Hm:Hu (Below W.heap.size W ((l.setCell ⟨c.heap.size,0,none⟩ (.int .i64 (1000*(q:Int)))).setCell ⟨c.heap.size,1,none⟩ (.int .i64 nb))):=mo (mo Hi.o c.heap.size 0 _ Hc Hi.o.size) c.heap.size 1 _ Hc (by simp;exact Hi.o.size);have Hr:=qI (aO (aO Hh.o 0 (.int .i64 (1000*(q:Int)))) 1 (.int .i64 nb));go_simp
  go_wp2_with fail
  refine b.o _ _ (He.o _ Hm.o) λf=>?_;clear b K;refine Qn (by kernel_rfl) ?_ _;exact iZ.mk ⟨_,FrS.mk (by kernel_rfl) ⟨Hr.o,Hc,Hm.o⟩⟩
 ·have Hf:=qI (Ha.o.alloc Ha.o.size (.cells #[.int .i64 0,.int .i64 0] 62));have Hg:=qI (aU V (.cells #[.int .i64 0,.int .i64 0] 62) rfl);have Hb:=Ha.o.size;go_simp
  go_wp2_with fail
  refine b.o _ _ (He.o _ Hf.o) λf=>?_;clear b K;generalize V.alloc (.cells #[.int .i64 0,.int .i64 0] 62)=y at *;refine rd 1 λK b=>?_;go_simp
  go_wp2_with fail
  refine (Hj.o _).mono ?_;rintro e i ⟨rfl,rfl⟩
  go_wp2_with fail
  refine b.o _ _ (He.o _ Hf.o) λf=>?_;clear b K;refine tk 2 ?_;refine tk 5 ?_;refine rd 7 λK b=>?_;have n:i.cell? ⟨V.heap.size,0,none⟩=some (.int .i64 0):=aa Hg.o 0;have r:i.cell? ⟨V.heap.size,1,none⟩=some (.int .i64 0):=aa Hg.o 1;have o:=bw Hg.o 0;have p:=bw Hg.o 1;have Hk:Hu (Below W.heap.size W ((i.setCell ⟨V.heap.size,0,none⟩ (.int .i64 (1000*(q:Int)))).setCell ⟨V.heap.size,1,none⟩ (.int .i64 nb))):=mo (mo Hf.o V.heap.size 0 _ Hb Hf.o.size) V.heap.size 1 _ Hb (by simp;exact Hf.o.size);have Hq:=qI (aO (aO Hg.o 0 (.int .i64 (1000*(q:Int)))) 1 (.int .i64 nb));go_simp
  go_wp2_with fail
  refine b.o _ _ (He.o _ Hk.o) λf=>?_;clear b K;refine Qn (by kernel_rfl) ?_ _;exact iZ.mk ⟨_,FrS.mk (by kernel_rfl) ⟨Hq.o,Hb,Hk.o⟩⟩
