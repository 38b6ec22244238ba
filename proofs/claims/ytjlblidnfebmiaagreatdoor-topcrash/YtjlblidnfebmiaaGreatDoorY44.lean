import Derived.Test.YtjlblidnfebmiaaGreatDoorY42
import Derived.Deep.LoopGhost
set_option maxRecDepth 100000
set_option maxHeartbeats 16000000
open Go Go.RowKit Go.Shelf
attribute [local go_sem] Oper.semAt_some
open Go.Proofs.Tryz
namespace Go.Proofs.YtjlblidnfebmiaaGreatDoor
variable{G:(Nat->Value)->Act}{P:Program}{Q:Exit->Act->World->Prop}{R:Act->World->Prop}{a:Act}{w:World}
def oF:Code->List Code
 | .loop c=>c :: oF c
 | .seq a b=>oF a++oF b
 | .cond _ a b=>oF a++oF b
 | .block _ c=>oF c
 | .scope c=>oF c
 | _=>[]
def FrS (G:(Nat->Value)->Act) (P:World->Prop) (a:Act) (w:World):Prop:=∃F,a=G F/\P w
theorem FrS.mk{P:World->Prop}(h:a=G (λn=>a.tmps.getD n undef))(b:P w):FrS G P a w:=⟨_,h,b⟩
def p7 (n:Nat) (R:Act->World->Prop):Exit->Act->World->Prop
 | .exit m,a,w=>m=n/\R a w
 | _,_,_=>False
theorem rz{c:Code}{n:Nat}{a:Act}{w:World}(d:a=G (λn=>a.tmps.getD n undef))(h:∀F,Code.wp P c (p7 n R) (G F) w)(f:∀a w,R a w->Q (.exit n) a w):Code.wp P c Q a w:=by
 rw[d];exact Code.wp_mono (λe a w b=>by
  cases e with
  | exit m=>exact b.1 ▸ f _ _ b.2
  | _=>exact b.elim) (h _)
def oG (n:Nat):Code->Option Code
 | .region m os d=>if m == n then some (.region m os d) else none
 | .loop c=>oG n c
 | .seq a b=>(oG n a).or (oG n b)
 | .cond _ a b=>(oG n a).or (oG n b)
 | .block _ c=>oG n c
 | .scope c=>oG n c
 | _=>none
def jF (R:Act->World->Prop):Exit->Act->World->Prop
 | .normal,a,w=>R a w
 | _,_,_=>False
theorem jF.mk(h:R a w):jF R .normal a w:=h
theorem wj{c:Code}{a:Act}{w:World}(d:a=G (λn=>a.tmps.getD n undef))(h:∀F,Code.wp P c (jF R) (G F) w)(f:∀a w,R a w->Q .normal a w):Code.wp P c Q a w:=by
 rw[d];exact Code.wp_mono (λe a w b=>by
  cases e with
  | normal=>exact f _ _ b
  | _=>exact b.elim) (h _)
theorem Am{a:Act}{w:World}{c:Code}(I:Nat->Act->World->Prop){n₀:Nat}(h₀:I n₀ a w)(round:∀n a w,I n a w->∀K:Act->World->Prop,Hu (∀b w',(∃d,d<n/\I d b w')->K b w')->c.wp P (Exit.then K Q) a w):(Code.loop c).wp P Q a w:=
 wp_loop_ghost I n₀ h₀ λn a w h=>round n a w h _ (qI λ_ _ q=>q)
noncomputable def mZ (n:Nat):Code:=((Tryz.f17.body.bind (oG n))).getD .skip
noncomputable def kr (n:Nat):Code:=((Tryz.f17.body.map oF).getD []).getD n .skip
def tlS (F:Nat->Value) (t:List Value):Nat->Nat->List Value
 | _,0=>t
 | a,k+1=>F a :: tlS F t (a+1) k
def frD (c2 c7 c8 c9 c10 c11 c12 c13 c14 c16 c17 c18 c19 c20 c105:Value) (F:Nat->Value):Act:=⟨List.toArray (F 0 :: F 1 :: c2 :: F 3 :: F 4 :: F 5 :: F 6 :: c7 :: c8 :: c9 :: c10 :: c11 :: c12 :: c13 :: c14 :: F 15 :: c16 :: c17 :: c18 :: c19 :: c20 :: F 21 :: F 22 :: F 23 :: F 24 :: tlS F (c105 :: tlS F ([]) 106 170) 25 80),[]⟩
def frB (c2 c7 c8 c9 c10 c11 c12 c13 c14 c16 c17 c18 c19 c20 c138:Value) (F:Nat->Value):Act:=⟨List.toArray (F 0 :: F 1 :: c2 :: F 3 :: F 4 :: F 5 :: F 6 :: c7 :: c8 :: c9 :: c10 :: c11 :: c12 :: c13 :: c14 :: F 15 :: c16 :: c17 :: c18 :: c19 :: c20 :: F 21 :: F 22 :: F 23 :: F 24 :: tlS F (c138 :: tlS F ([]) 139 137) 25 113),[]⟩
def frS (c2 c7 c8 c9 c10 c11 c12 c13 c14 c16 c17 c18 c19 c20:Value) (F:Nat->Value):Act:=⟨List.toArray (F 0 :: F 1 :: c2 :: F 3 :: F 4 :: F 5 :: F 6 :: c7 :: c8 :: c9 :: c10 :: c11 :: c12 :: c13 :: c14 :: F 15 :: c16 :: c17 :: c18 :: c19 :: c20 :: F 21 :: F 22 :: F 23 :: F 24 :: tlS F ([]) 25 251),[]⟩
theorem Yz{us:Nat->Bool}{l:List Int}{q m:Nat}(b:q<l.length)(a:bx l q=(m:Int))(j:Nat):cM us (l.take (q+1)) j=if j=m then true else cM us (l.take q) j:=by grind[AR,AZ]
theorem YA{c2 y C c11 f k n g s v:Value}(F:Nat->Value){W:World}{d a:Nat}(B:Option Addr)(dn wc:Nat){p:Option Addr}{A:Nat}{l:List Int}{us:Nat->Bool}(t:W.cell? ⟨d,1,none⟩=some (.slice p l.length A))(hi:bK W (.slice p l.length A) l)(D:dE W a us)(u:d≠a)(h:∀b o,p=some ⟨b,o,none⟩->0<l.length->b≠a)(O:l.length<=16)(ah:dn<=16)(e:∀j,j<l.length->(0<=bx l j/\bx l j<dn/\bx l j ∉ l.take j)/\us (bx l j).toNat=false) :
  Code.wp prog (Code.loop (kr 3)) (p7 6 (FrS (λF=>frS c2 y C (.slice B dn wc) a c11 f k n g d (F 18) (F 19) (F 20) F) λW'=>dE W' a (cM us l)/\Apart (λj=>j=a) W W')) (frS c2 y C (.slice B dn wc) a c11 f k n g d s v (0:Int) F) W:=by
 obtain⟨r,L,Hx,_,Hh⟩:=hi;have Hp:r=p:=by grind
 subst Hp;have Ho:=qI Hh;have Hn:=qI h;have Hw:=qI e;have Hq:Hu (dE W a (cM us (l.take 0))):=by
  grind[AY]
 clear Hh h e Hx D;simp only[frS,tlS,Nat.reduceAdd]
 conv=>enter [2,1];unfold kr;whnf
 have Ht:d<W:=Q3 W _ t;have I:=qI t;clear t
 go_loopw [20] (λi wq=>∃q:Nat,q<=l.length/\i=.int .i64 q/\dE wq a (cM us (l.take q))/\Apart (λj=>j=a) W wq) (λi _=>l.length - (intOf i).toNat)
 case atStart=>exact⟨0,Nat.zero_le _,rfl,Hq.o,Apart.refl _ _⟩
 case round=>
  obtain⟨q,N,rfl,Hb,Ha⟩:=hrel;have g1:=(gR (Ha.block d Ht u) 1).trans I.o
  by_cases c:q<l.length
  ·obtain⟨w,z,He,Hc,Hf⟩:=Ho.o (by omega);have Hm:=Hn.o w z He (by omega);subst He;obtain⟨⟨r1,M,G⟩,H⟩:=Hw.o q c;obtain⟨m,x⟩:∃m:Nat,bx l q=(m:Int):=⟨(bx l q).toNat,by omega⟩;have Hz:m<dn:=by omega
   have i0:wr.cell? ⟨w,z+q,none⟩=some (.int .i64 (m:Int)):=by
    rw[(gR (Ha.block w Hc Hm) _).trans (Hf q c),<- x];rfl
   have Hg:cM us (l.take q) m=false:=by
    grind[zh]
   obtain⟨b0,b1⟩:=Hb m (by omega);rw[Hg] at b0;have Hs:Hu (dE (wr.setCell ⟨a,m,none⟩ true) a (cM us (l.take (q+1)))):=Hb.set (by omega) true λj _=>Yz c x j;have Hi:Hu (Apart (λj=>j=a) W (wr.setCell ⟨a,m,none⟩ true)):=Ha.trans (Apart.setCell (K:=λj=>j=a) rfl _ _ _);have Hv:m<16:=by omega
   have Hr:¬ ((m:Int)<0):=by omega
   have Hj:=Q7 Hr;have Hy:decide ((dn:Int)<=(m:Int))=false:=Q7 (by omega);have Hl:decide (dn<=m)=false:=Q7 (by omega);clear Hf Hb Ha x r1 M G H Hg
   go_wp2
   go_roundw
   case rel=>exact⟨q+1,by omega,by go_num,Hs.o,Hi.o⟩
   case measure=>simp[intOf];omega
  ·have Hk:q=l.length:=by omega
   subst Hk;rw[Qh] at Hb;have J:=qI Hb;have E:=qI Ha;clear Hb Ha
   go_wp2
   exact⟨rfl,FrS.mk (by kernel_rfl) ⟨J.o,E.o⟩⟩
abbrev Ie:=λ(Bg cp Bp:Nat) (p:aj) (cb co cc k:Nat) (x:aF) (na:Option Addr) (nc:Nat) (w':World)=>(cl w' Bg (0) (.int .u64 (cp:Nat))/\cl w' Bp (0) p.nm/\cl w' Bp (1) (p.pr:Int)/\cl w' Bp (2) (.slice (some ⟨cb,co,none⟩) p.cs.length cc))/\cl w' cb (co+k*6) x.nm/\cl w' cb (co+k*6+1) (x.am:Int)/\cl w' cb (co+k*6+2) (x.ab:Int)/\cl w' cb (co+k*6+3) (x.cm:Int)/\cl w' cb (co+k*6+4) (x.cb:Int)/\cl w' cb (co+k*6+5) (.slice na x.ds.length nc)
theorem YB{c2 E D c10 c11 q m u z C:Value}(F:Nat->Value){W:World}(g f:Nat){cb:Nat}(b:Nat){cc:Nat}(k:Nat){cp:Nat}(n:Nat){dl:Nat}{I:Option Addr}{H:Nat}(p:aj)(x:aF){i:Option Addr}{nc:Nat}
  (y:W.heap[g]?=some (.cells #[p.nm,(p.pr:Int),.slice (some ⟨cb,b,none⟩) p.cs.length cc] 49)) (v:W.heap[f]?=some (.cells #[.int .u64 (cp:Nat),.slice I dl H] 123)) (M:k<p.cs.length) (_h3:p.cs.length<=1000) (d:∀j,j<6->W.cell? ⟨cb,b+k*6+j,none⟩=([.string x.nm,.int .i64 x.am,.int .i64 x.ab,.int .i64 x.cm,.int .i64 x.cb,.slice i x.ds.length nc]:List Value)[j]?) (c:ba W (.slice (some ⟨cb,b,none⟩) p.cs.length cc) p.cs) (s:cp<18446744073709551616) (G:n<18446744073709551616) (r:cp &&& n=cp) (o:(az cp:Int)=bR p.cs x.am) (B:0<=x.am) (w:x.am<=1000000) :
  Code.wp prog (mZ 23) (jF (FrS (λF=>frB c2 (.int .u64 (n:Nat)) E D c10 c11 q m g (.int .i64 (k:Nat)) f (F 18) (F 19) (F 20) false F) λW'=>Below W W W')) (frS c2 (.int .u64 (n:Nat)) E D c10 c11 q m g (.int .i64 (k:Nat)) f u z C F) W:=by
 have Hi:=(gS y).1;have Hh:=(gS v).1;have He:cb<W:=Q3 W ⟨cb,b+k*6+0,none⟩ (d 0 (by decide));have Hc:Hu (∀V,Below W W V->(Ie f cp g p cb b cc k x i nc) V):=λV l=>by
  have cc:∀j,j<6->V.cell? ⟨cb,b+k*6+j,none⟩=([.string x.nm,.int .i64 x.am,.int .i64 x.ab,.int .i64 x.cm,.int .i64 x.cb,.slice i x.ds.length nc]:List Value)[j]?:=λj J=>(l.cell (p:=⟨cb,_,none⟩) He).trans (d j J)
  have A:=(l.block g Hi).trans y;exact⟨⟨ad ((l.block f Hh).trans v) 0,ad A 0,ad A 1,ad A 2⟩,cc 0 (by decide),cc 1 (by decide),cc 2 (by decide),cc 3 (by decide),cc 4 (by decide),cc 5 (by decide)⟩
 have Hb:∀V,Calls prog 43 #[.int .u64 (cp:Nat),.int .u64 (n:Nat)] V λe w'=>e=.returned true/\w'=V:=λV=>by
  grind[od]
 have Hk:=qI Hb;have Hl:Hu (∀V,Calls prog 39 #[.int .u64 (cp:Nat)] V λe w'=>e=.returned (bR p.cs x.am:Int)/\w'=V):=λV=>by
  have h:Calls prog 39 #[.int .u64 (cp:Nat)] V λe w'=>e=.returned (.int .i64 (az cp:Nat))/\w'=V:=j7 cp V s
  rw[o] at h;exact h
 have Hj:Hu (∀V,Below W W V->Calls prog 44 #[.agg #[p.nm,(p.pr:Int),.slice (some ⟨cb,b,none⟩) p.cs.length cc],.agg #[x.nm,(x.am:Int),(x.ab:Int),(x.cm:Int),(x.cb:Int),.slice i x.ds.length nc]] V λe w'=>e=.returned (bR p.cs x.am:Int)/\Below V.heap.size V w'):=λV l=>sL p x i x.ds.length nc (w:=V) (c.below l) B w
 have Ha:Hu (Below W W W.drew):=bO (Q0 _ _);generalize bR p.cs x.am=L at *;clear Hb d c y v r o;simp only[frS,tlS,Nat.reduceAdd]
 conv=>enter [2];unfold mZ;whnf
 refine wp_region_held_drew (S:=Ie f cp g p cb b cc k x i nc) (by kernel_rfl) (Hc.o _ Ha.o) λt=>?_;generalize W.drew=V at *;refine tk 0 ?_;refine tk 1 ?_;refine tk 2 ?_;refine rd 3 λK a=>?_;go_simp
 go_wp2_with fail
 refine (Hk.o _).mono ?_;rintro e O ⟨rfl,rfl⟩
 go_wp2_with fail
 refine a.o _ _ (Hc.o _ Ha.o) λt=>?_;clear a K;refine tk 4 ?_;refine tk 5 ?_;refine tk 6 ?_;refine tk 7 ?_;refine tk 9 ?_;refine tk 10 ?_;refine tk 11 ?_;refine tk 12 ?_;refine tk 13 ?_;refine tk 14 ?_;refine rd 8 λK a=>?_;go_simp
 go_wp2_with fail
 refine (Hl.o _).mono ?_;rintro e P ⟨rfl,rfl⟩
 go_wp2_with fail
 refine a.o _ _ (Hc.o _ Ha.o) λt=>?_;clear a K;refine rd 15 λK a=>?_;go_simp
 go_wp2_with fail
 refine (Hj.o _ Ha.o).mono ?_;rintro e N ⟨rfl,Hf⟩;have Hg:=qI (Ha.o.trans (Hf.mono Ha.o.size));clear Hf
 go_wp2_with fail
 refine a.o _ _ (Hc.o _ Hg.o) λt=>?_;clear a K;refine tk 16 ?_;refine tk 17 ?_;refine Qn (by kernel_rfl) ?_ _;exact jF.mk (FrS.mk (by kernel_rfl) Hg.o)
abbrev tR:=λ(Bp:Nat) (p:aj) (cb co cc k:Nat) (cn:ByteArray) (Bg cp:Nat) (ia:Option Addr) (dl ic:Nat) (w':World)=>cl w' Bp (0) p.nm/\cl w' Bp (2) (.slice (some ⟨cb,co,none⟩) p.cs.length cc)/\cl w' cb (co+k*6) cn/\cl w' Bg (0) (.int .u64 (cp:Nat))/\cl w' Bg (1) (.slice ia dl ic)
theorem YC{c2 c7 c8 c9 c10 c11 c13 c18 c19 c20:Value}(F:Nat->Value){W:World}{base:Nat}(Bp Bg:Nat){cb:Nat}(co:Nat){cc:Nat}(k cp:Nat){dl:Nat}{ia:Option Addr}{ic:Nat}(p:aj){cn:ByteArray}{va:Option Addr}{vc:Nat}(zq:List (RV × Rn))
  (hp:W.heap[Bp]?=some (.cells #[p.nm,(p.pr:Int),.slice (some ⟨cb,co,none⟩) p.cs.length cc] 49)) (hg:W.heap[Bg]?=some (.cells #[.int .u64 (cp:Nat),.slice ia dl ic] 123)) (hk:k<p.cs.length) (_h3:p.cs.length<=1000) (hc:W.cell? ⟨cb,co+k*6,none⟩=some (.string cn)) (hcb:cb<base) (hrow:dq base W (.slice va zq.length vc) (zq.map Prod.fst)) (hzl:zq.length<=300) (hbl:base<=W) :
  Code.wp prog (mZ 39) (jF λa w'=>∃v',FrS (λF=>frS c2 c7 c8 c9 c10 c11 (v') c13 Bp (.int .i64 (k:Nat)) Bg (F 18) (F 19) (F 20) F) (λW'=>dq base W' v' (zq.map Prod.fst++[(⟨p.nm,cn,(cp:Nat),ia,dl,ic⟩:RV)])/\Apart (λj=>base<=j/\j≠Bp) W W') a w') (frS c2 c7 c8 c9 c10 c11 (.slice va zq.length vc) c13 Bp (.int .i64 (k:Nat)) Bg c18 c19 c20 F) W:=by
 obtain⟨i0,hi,Ho,Hs,Ht⟩:=info_parts wI;have Hx:=(gS hp).1;have Hy:=(gS hg).1;have Hm:Hu ((tR Bp p cb co cc k cn Bg cp ia dl ic) W):=⟨ad hp 0,ad hp 2,hc,ad hg 0,ad hg 1⟩;have Hv:=qI hrow;have Hk:∀b,(Value.slice va zq.length vc).ownBlock=some b->base<=b/\b≠Bp/\b≠Bg:=λb hb=>⟨(hrow.lt b hb).1,λe=>zE hrow hp (by decide) (by rw[hb,e]),λe=>zE hrow hg (by decide) (by rw[hb,e])⟩
 have Hh:=qI Hk;have hN:=wJ W.drew (⟨p.nm,cn,(cp:Nat),ia,dl,ic⟩:RV) 129;rw[show W.drew=W.heap.size from rfl] at hN;have HN:=qI hN;have Hq:Hu (dq base W.drew (.slice va zq.length vc) (zq.map Prod.fst)):=hrow;have Hf:Hu ((tR Bp p cb co cc k cn Bg cp ia dl ic) W.drew):=Hm.o;clear hp hg hrow hc hN Hk Hm;simp only[frS,tlS,Nat.reduceAdd]
 conv=>enter [2];unfold mZ;whnf
 refine wp_region_held_drew (S:=tR Bp p cb co cc k cn Bg cp ia dl ic) (by kernel_rfl) Hf λhQ=>?_;refine tk 0 ?_;refine tk 1 ?_;refine tk 2 ?_;refine tk 3 ?_;refine tk 4 ?_;refine tk 5 ?_;refine tk 6 ?_;refine tk 7 ?_;refine tk 8 ?_;refine tk 9 ?_;refine tk 10 ?_;refine tk 11 ?_;refine tk 12 ?_;refine tk 13 ?_;have Hc:=(Q0 W.drew W.drew).alloc (lR) (.cells #[p.nm,cn,.int .u64 (cp:Nat),.slice ia dl ic] 129);have He:Hu ((tR Bp p cb co cc k cn Bg cp ia dl ic) (W.drew.alloc (.cells #[p.nm,cn,.int .u64 (cp:Nat),.slice ia dl ic] 129))):=⟨(Hc.cell (p:=Bp) (by simp_all)).trans Hf.o.1,(Hc.cell (p:=⟨Bp,2,none⟩) (by simp_all)).trans Hf.o.2.1,(Hc.cell (p:=⟨cb,co+k*6,none⟩) (by show cb<W;omega)).trans Hf.o.2.2.1,(Hc.cell (p:=Bg) (by simp_all)).trans Hf.o.2.2.2.1,(Hc.cell (p:=⟨Bg,1,none⟩) (by simp_all)).trans Hf.o.2.2.2.2⟩;have Hz:=qI Hc;clear Hc;refine rd 14 λK hK=>?_;go_simp
 go_wp2
 refine hK.k He λhQ=>?_;refine rd 15 λK hK=>?_;rw[if_pos (by rfl)];have Hr:(zq.map Prod.fst).length<=400:=by grind
 refine wp_append_own (o := { dst := some 224, op := Op.call { callee := Callee.builtin Builtin.append, args := #[Operand.tmp 209, Operand.tmp 223], argTypes := #[120, 120] }, type := 120, pos := "top.go:80", after := #[{ on := 0, ground := Ground.data }, { on := 14, ground := Ground.data }], guard := none }) _ _ _ 120 rfl base 129 i0 (.agg #[.string ByteArray.empty, .string ByteArray.empty, .int .u64 0, .slice none 0 0]) 4 64 underlying120 hi Ho Hs Ht rfl (by decide) (.slice va zq.length vc) _ _ rfl (Hq.o.alloc _) ⟨_, 0, none⟩ 1 1 (RV.cells (⟨p.nm, cn, (cp : Nat), ia, dl, ic⟩ : RV)) rfl rfl HN (Gc) (by unfold maxLen; omega) (by omega) (by show base ≤ (W.drew.alloc _).heap.size; rw[World.size_alloc]; show base ≤ W.heap.size + 1; omega) ?_
 intro v' W3 Hb Ha _;have Hp:=qI (dq.push Hb);have Hn:Hu (Apart (λj=>base<=j/\j≠Bp) W W3):=((Apart.of_below (bO ((Q0 W W).alloc (lR) _)))).trans (fv Ha λb hb _=>⟨(Hh.o b hb).1,(Hh.o b hb).2.1⟩);have Hi:some Bp≠(Value.slice va zq.length vc).ownBlock:=λe=>(Hh.o Bp e.symm).2.1 rfl
 have Hg:some Bg≠(Value.slice va zq.length vc).ownBlock:=λe=>(Hh.o Bg e.symm).2.2 rfl
 have Hj:some cb≠(Value.slice va zq.length vc).ownBlock:=λe=>by have:=(Hh.o cb e.symm).1;omega
 have HA:(W.alloc (.cells #[p.nm,cn,.int .u64 (cp:Nat),.slice ia dl ic] 129)).drew.heap.size=W.heap.size+1:=by simp
 have Hw:=Ha.size;have Hl:(tR Bp p cb co cc k cn Bg cp ia dl ic) W3:=⟨(Ha.cell_far Bp (by show Bp<_;omega) Hi).trans He.o.1,(Ha.cell_far ⟨Bp,2,none⟩ (by show Bp<_;omega) Hi).trans He.o.2.1,(Ha.cell_far ⟨cb,co+k*6,none⟩ (by show cb<_;omega) Hj).trans He.o.2.2.1,(Ha.cell_far Bg (by show Bg<_;omega) Hg).trans He.o.2.2.2.1,(Ha.cell_far ⟨Bg,1,none⟩ (by show Bg<_;omega) Hg).trans He.o.2.2.2.2⟩;refine hK.k Hl λhQ=>?_;(try simp only[Act.put,s1,s2,s3]);refine tk 16 ?_;refine Qn (by kernel_rfl) ?_ _;clear hQ Hb Ha Hl;exact jF.mk ⟨v',FrS.mk (by kernel_rfl) ⟨Hp,Hn⟩⟩
abbrev If:=λ(Bp:Nat) (p:aj) (pa:Option Addr) (pcc hb ho:Nat) (ga:Option Addr) (gc:Nat) (w':World)=>(cl w' Bp (0) p.nm/\cl w' Bp (1) (p.pr:Int)/\cl w' Bp (2) (.slice pa p.cs.length pcc))/\cl w' hb (ho+0*4+3) (.slice ga p.cs.length gc)
abbrev Ig:=λ(Bp:Nat) (p:aj) (pa:Option Addr) (pcc hb ho i:Nat) (ga:Option Addr) (gc j:Nat) (nm:ByteArray) (w':World)=>(cl w' Bp (0) p.nm/\cl w' Bp (1) (p.pr:Int)/\cl w' Bp (2) (.slice pa p.cs.length pcc))/\cl w' hb (ho+i*4+3) (.slice ga p.cs.length gc)/\cl w' hb (ho+j*4) nm
theorem YD{c2 A C y c10 q w r t v x:Value}(F:Nat->Value)(W:World)(c a f k z i:Nat)(d ga:Option Addr)(b gc:Nat)(p:aj)(nm:ByteArray)
  (u:W.heap[c]?=some (.cells #[p.nm,(p.pr:Int),.slice d p.cs.length b] 49)) (g:ba W (.slice d p.cs.length b) p.cs) (B:br p=0) (h:W.cell? ⟨a,f+i*4+3,none⟩=some (.slice ga p.cs.length gc)) (hi:i<k) (D:k<=100) (m:0<i->W.cell? ⟨a,f+(i - 1)*4,none⟩=some (.string nm)) (hle:0<i->ei p.nm nm=false) (_h3:p.cs.length<=1000) :
  Code.wp prog (mZ 17) (jF (FrS (λF=>frD c2 A C y c10 (.slice (some ⟨a,f,none⟩) k z) q (.int .i64 (i:Nat)) c (F 16) (F 17) (F 18) (F 19) (F 20) false F) λW'=>Below W W W')) (frS c2 A C y c10 (.slice (some ⟨a,f,none⟩) k z) q (.int .i64 (i:Nat)) c w r t v x F) W:=by
 have Hl:=(gS u).1;have Hh:a<W.heap.size:=Q3 W ⟨a,_,none⟩ h;have Hk:Hu (∀V,Below W W V->Calls prog 42 #[.agg #[p.nm,(p.pr:Int),.slice d p.cs.length b]] V λe w'=>e=.returned .nilIface/\Below V.heap.size V w'):=λV a=>by
  have:=xX p (cv:=.slice d p.cs.length b) (w:=V) (g.below a)
  rw[B] at this;exact this
 have Ha:Hu (Below W W W.drew):=bO (Q0 _ _);have Hf:=qI u;have Hg:=qI h;have Hj:=qI m;have Hi:=qI hle;clear g u h m hle B
 by_cases o:i=0
 ·subst o;have Hb:Hu (∀V,Below W W V->(If c p d b a f ga gc) V):=λV a=>by
   have l:=(a.block c Hl).trans Hf.o;exact⟨⟨ad l 0,ad l 1,ad l 2⟩,(a.cell (p:=⟨_,_,none⟩) Hh).trans Hg.o⟩
  clear Hf Hg Hj Hi;simp only[frS,tlS,Nat.reduceAdd]
  conv=>enter [2];unfold mZ;whnf
  refine wp_region_held_drew (S:=If c p d b a f ga gc) (by kernel_rfl) (Hb.o _ Ha.o) λs=>?_;generalize W.drew=V at *;refine tk 0 ?_;refine rd 1 λK n=>?_;go_simp
  go_wp2_with fail
  refine (Hk.o _ Ha.o).mono ?_;rintro e E ⟨rfl,He⟩;have Hc:=qI (Ha.o.trans (He.mono Ha.o.size));clear He
  go_wp2_with fail
  refine n.o _ _ (Hb.o _ Hc.o) λs=>?_;clear n K;refine tk 2 ?_;refine tk 3 ?_;refine tk 4 ?_;refine tk 5 ?_;refine tk 6 ?_;refine tk 7 ?_;refine tk 8 ?_;refine tk 9 ?_;refine tk 10 ?_;refine tk 11 ?_;refine tk 12 ?_;refine tk 13 ?_;refine tk 14 ?_;refine tk 15 ?_;refine tk 16 ?_;refine tk 17 ?_;refine tk 18 ?_;refine ts 19 ?_;refine ts 20 ?_;refine ts 21 ?_;refine ts 22 ?_;refine ts 23 ?_;refine ts 24 ?_;refine ts 25 ?_;refine ts 26 ?_;refine ts 27 ?_;refine ts 28 ?_;refine tk 29 ?_;refine tk 30 ?_;refine Qn (by kernel_rfl) ?_ _;exact jF.mk (FrS.mk (by kernel_rfl) Hc.o)
 ·obtain⟨j,Hm⟩:∃j,i=j+1:=⟨i - 1,by omega⟩;clear o;have m:=Hj.o (by omega);have hle:=Hi.o (by omega);rw[show i - 1=j by omega] at m;unfold ei at hle;have Hb:Hu (∀V,Below W W V->(Ig c p d b a f i ga gc j nm) V):=λV a=>by
   have l:=(a.block c Hl).trans Hf.o;exact⟨⟨ad l 0,ad l 1,ad l 2⟩,(a.cell (p:=⟨_,_,none⟩) Hh).trans Hg.o,(a.cell (p:=⟨_,_,none⟩) Hh).trans m⟩
  clear Hf Hg Hj Hi m;have Hq:decide ((0:Int)<(i:Int))=true:=Qc (by omega);have Hp:(0:Int)<(i:Int):=by omega
  have Hn:0<i:=by omega
  have Hv:=Qc Hn;have Hs:wrap64 ((i:Int) - 1)=(j:Int):=by unfold wrap64;omega
  have Hr:IntKind.i64.wrap ((i:Int) - 1)=(j:Int):=by rw[IntKind.wrap_i64];omega
  have Ht:j<k:=by omega
  have Hw:(j:Int)<(k:Int):=by omega
  have Ho:(i:Int)<(k:Int):=by omega
  clear Hm;simp only[frS,tlS,Nat.reduceAdd]
  conv=>enter [2];unfold mZ;whnf
  refine wp_region_held_drew (S:=Ig c p d b a f i ga gc j nm) (by kernel_rfl) (Hb.o _ Ha.o) λs=>?_;generalize W.drew=V at *;refine tk 0 ?_;refine rd 1 λK n=>?_;go_simp
  go_wp2_with fail
  refine (Hk.o _ Ha.o).mono ?_;rintro e E ⟨rfl,He⟩;have Hc:=qI (Ha.o.trans (He.mono Ha.o.size));clear He
  go_wp2_with fail
  refine n.o _ _ (Hb.o _ Hc.o) λs=>?_;clear n K;refine tk 2 ?_;refine tk 3 ?_;refine tk 4 ?_;refine tk 5 ?_;refine tk 6 ?_;refine tk 7 ?_;refine tk 8 ?_;refine tk 9 ?_;refine tk 10 ?_;refine tk 11 ?_;refine tk 12 ?_;refine tk 13 ?_;refine tk 14 ?_;refine tk 15 ?_;refine tk 16 ?_;refine tk 17 ?_;refine tk 18 ?_;refine tk 19 ?_;refine tk 20 ?_;refine tk 21 ?_;refine tk 22 ?_;refine tk 23 ?_;refine tk 24 ?_;refine tk 25 ?_;refine tk 26 ?_;refine tk 27 ?_;refine tk 28 ?_;refine tk 29 ?_;refine tk 30 ?_;refine Qn (by kernel_rfl) ?_ _;exact jF.mk (FrS.mk (by kernel_rfl) Hc.o)
def frE (c2 c3 c7 c8:Value) (F:Nat->Value):Act:=⟨List.toArray (F 0 :: F 1 :: c2 :: c3 :: F 4 :: F 5 :: F 6 :: c7 :: c8 :: F 9 :: F 10 :: F 11 :: F 12 :: F 13 :: F 14 :: F 15 :: F 16 :: F 17 :: F 18 :: F 19 :: F 20 :: F 21 :: F 22 :: F 23 :: F 24 :: tlS F ([]) 25 251),[]⟩
theorem YE{c2 x:Value}(F:Nat->Value)(W:World)(f op v:Nat){cl cc dl dc:Nat}{ca da:Option Addr}{nb pol:Int}(g:W.heap[f]?=some (.cells #[.slice ca cl cc,.int .u64 (v:Nat),nb,.slice da dl dc,pol] 27))(i:op<18446744073709551616) :
  Code.wp prog (mZ 5) (jF λa w'=>∃l,FrS (λF=>frE c2 f (.int .u64 (op:Nat)) (.pointer (some ⟨l,0,none⟩)) F) (λW'=>W'.heap[l]?=some (.cells #[(1000*(az op:Int):Int),nb] 62 (0,0))/\W.heap.size<=l/\Below W W W') a w') (frE c2 f (.int .u64 (op:Nat)) x F) W:=by
 have Hn:=(gS g).1;have Hb:Hu (∀V,Below W W V->(λw'=>w'.cell? ⟨f,2,none⟩=some (.int .i64 nb)) V):=λV w=>ad ((w.block f Hn).trans g) 2
 have Hr:=zB op;have Hj:Hu (∀V,Calls prog 39 #[.int .u64 (op:Nat)] V λe w'=>e=.returned (.int .i64 (az op:Nat))/\w'=V):=λV=>j7 op V i
 obtain⟨q,h⟩:∃q,q=az op:=⟨_,rfl⟩;rw[<- h] at Hj Hr;rw[<- h];have Hq:IntKind.i64.wrap (1000*(q:Int))=1000*(q:Int):=by rw[IntKind.wrap_i64];omega
 have Hl:wrap64 (1000*(q:Int))=1000*(q:Int):=by unfold wrap64;omega
 have Ha:Hu (Below W W W.drew):=bO (Q0 _ _);clear g h;simp only[frE,tlS,Nat.reduceAdd]
 conv=>enter [2];unfold mZ;whnf
 refine wp_region_held_drew (S:=(λw'=>w'.cell? ⟨f,2,none⟩=some (.int .i64 nb))) (by kernel_rfl) (Hb.o _ Ha.o) λd=>?_;generalize W.drew=V at *;refine tk 0 ?_;refine tk 3 ?_;refine tk 4 ?_;refine rd2 1 6 (λK b=>?_) λK b=>?_
 ·go_simp
  go_wp2_with fail
  refine (Hj.o _).mono ?_;rintro e c ⟨rfl,rfl⟩
  go_wp2_with fail
  refine b.o _ _ (Hb.o _ Ha.o) λd=>?_;clear b K;refine tk 2 ?_;refine tk 5 ?_;refine rd 6 λK b=>?_;have Hi:=qI (Ha.o.alloc Ha.o.size (.cells #[(0:Int),(0:Int)] 62));have Hg:=qI (aY c (.cells #[(0:Int),(0:Int)] 62) rfl);have He:=Ha.o.size;go_simp
  go_wp2_with fail
  refine b.o _ _ (Hb.o _ Hi.o) λd=>?_;clear b K;generalize c.alloc (.cells #[(0:Int),(0:Int)] 62)=j at *;refine rd 7 λK b=>?_;have m:j.cell? c=some (.int .i64 0):=ad Hg.o 0;have o:j.cell? ⟨c,1,none⟩=some (.int .i64 0):=ad Hg.o 1;have n:=bZ Hg.o 0;have s:=bZ Hg.o 1;have Hm:Hu (Below W W ((j.setCell c (1000*(q:Int):Int)).setCell ⟨c,1,none⟩ nb)):=jW (jW Hi.o c 0 _ He Hi.o.size) c 1 _ He (by simp;exact Hi.o.size);have Ho:=qI (bd (bd Hg.o 0 (1000*(q:Int):Int)) 1 nb);go_simp
  go_wp2_with fail
  refine b.o _ _ (Hb.o _ Hm.o) λd=>?_;clear b K;refine Qn (by kernel_rfl) ?_ _;exact jF.mk ⟨_,FrS.mk (by kernel_rfl) ⟨Ho.o,He,Hm.o⟩⟩
 ·have Hf:=qI (Ha.o.alloc Ha.o.size (.cells #[(0:Int),(0:Int)] 62));have Hh:=qI (aY V (.cells #[(0:Int),(0:Int)] 62) rfl);have Hc:=Ha.o.size;go_simp
  go_wp2_with fail
  refine b.o _ _ (Hb.o _ Hf.o) λd=>?_;clear b K;generalize V.alloc (.cells #[(0:Int),(0:Int)] 62)=y at *;refine rd 1 λK b=>?_;go_simp
  go_wp2_with fail
  refine (Hj.o _).mono ?_;rintro e k ⟨rfl,rfl⟩
  go_wp2_with fail
  refine b.o _ _ (Hb.o _ Hf.o) λd=>?_;clear b K;refine tk 2 ?_;refine tk 5 ?_;refine rd 7 λK b=>?_;have t:k.cell? V=some (.int .i64 0):=ad Hh.o 0;have p:k.cell? ⟨V.heap.size,1,none⟩=some (.int .i64 0):=ad Hh.o 1;have u:=bZ Hh.o 0;have r:=bZ Hh.o 1;have Hk:Hu (Below W W ((k.setCell V.heap.size (1000*(q:Int):Int)).setCell ⟨V.heap.size,1,none⟩ nb)):=jW (jW Hf.o V.heap.size 0 _ Hc Hf.o.size) V.heap.size 1 _ Hc (by simp;exact Hf.o.size);have Hp:=qI (bd (bd Hh.o 0 (1000*(q:Int):Int)) 1 nb);go_simp
  go_wp2_with fail
  refine b.o _ _ (Hb.o _ Hk.o) λd=>?_;clear b K;refine Qn (by kernel_rfl) ?_ _;exact jF.mk ⟨_,FrS.mk (by kernel_rfl) ⟨Hp.o,Hc,Hk.o⟩⟩
