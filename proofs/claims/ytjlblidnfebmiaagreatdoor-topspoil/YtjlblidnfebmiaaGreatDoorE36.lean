import Derived.Test.YtjlblidnfebmiaaGreatDoorE34
set_option maxRecDepth 100000
set_option maxHeartbeats 16000000
open Go Go.RowKit Go.Shelf
attribute [local go_sem] Oper.semAt_some
open Go.Proofs.Tryz
namespace Go.Proofs.YtjlblidnfebmiaaGreatDoor
variable {W W':World} {c tb:Nat} {l:List ag}
theorem Ts {fn:Func} {p q u:Tmp} {c d:TypeId} (h:fn.results=#[.cell p c,.cell q d,.tmp u]) (tmps:Array Value) (P:Program) (w:World) :
  (results fn tmps).run P w=((asAddr (tmps.getD p undef)).run P w).andThen λa g=>((loadVar c a).run P g).andThen λv e=>((asAddr (tmps.getD q undef)).run P e).andThen λb i=>((loadVar d b).run P i).andThen λx f=>.ok (.tuple #[v,x,tmps.getD u undef]) f:=by
 simp only [results,h]
 simp [Sem.run_bind,Result.andThen]
theorem EH (n a b:Int) (w:World):Calls prog 60 #[n,a,b] w λe w'=>e=.returned (.bool (decide (a<=n/\n<=b)))/\w'=w:=by
 by_cases c:a<=n
 ·have Ha:decide (a<=n)=true:=Qc c;have d:Hu (decide (a<=n/\n<=b)=decide (n<=b)):=by unfold Hu;by_cases f:n<=b <;> simp [c,f]
  rw [d.o];clear c
  go_enter func60,ntmps60
  go_wp2
  go_ret;exact ⟨rfl,rfl⟩
 ·have Ha:decide (a<=n)=false:=Q7 c;have d:Hu (decide (a<=n/\n<=b)=false):=Q7 λh=>c h.1
  rw [d.o];clear c
  go_enter func60,ntmps60
  go_wp2
  go_ret;exact ⟨rfl,rfl⟩
theorem Tt (l:List ag):∀ k,gZ l k=fg l k:=by
 intro k
 induction k with
 | zero=>rfl
 | succ k ih=>rw [gZ,fg,ih]
theorem xU (h:dO l=0):0<l.length:=by
 apply Qt;intro a
 have:l=[]:=List.length_eq_zero_iff.1 (by omega)
 subst this;exact absurd h (by decide)
abbrev ez:=(.cells #[.pointer none,.int .u64 0,.int .u8 0,(0:Int),(0:Int)] 84:Obj)
theorem Tu {a g B:Nat} (h:bD W tb a 0 g l) (c:0<l.length) (d:W.heap[B+1]?=some (ez)) (f:W.heap[B+1+1]?=some (.cells #[.int .u64 0,.pointer none] 87)):(tb≠B+1/\tb≠B+1+1)/\(a≠B+1/\a≠B+1+1):=by
 have b:W.cell? (B+1:Nat)=some (.pointer none):=aa d 0;have a2:W.cell? ⟨B+1+1,0,none⟩=some (.int .u64 0):=aa f 0;have c1:=h.cell;have c2:=(h.cells 0 c).1;refine ⟨⟨λe=>?_,λe=>?_⟩,λe=>?_,λe=>?_⟩
 ·rw [e,b] at c1;cases c1
 ·rw [e,a2] at c1;cases c1
 ·rw [e] at c2;have c2:W.cell? (B+1:Nat)=_:=c2;rw [b] at c2;cases c2
 ·rw [e] at c2;have c2:W.cell? ⟨B+1+1,0,none⟩=_:=c2;rw [a2] at c2;cases c2
theorem mR {b o:Nat} (h:bD W tb b o c l) (f:W'.heap[tb]?=W.heap[tb]?) (e:W'.heap[b]?=W.heap[b]?) (hs:W<=W'.heap.size):bD W' tb b o c l:=
 ⟨(World.cell?_of_block (a:=tb) f).trans h.cell,λk d=>⟨(World.cell?_of_block (a:=⟨b,o+k*3,none⟩) e).trans (h.cells k d).1,(World.cell?_of_block (a:=⟨b,o+k*3+1,none⟩) e).trans (h.cells k d).2.1,(World.cell?_of_block (a:=⟨b,o+k*3+2,none⟩) e).trans (h.cells k d).2.2⟩,Q1 h.lt hs,h.len⟩
theorem mS {b db:Nat} {f:Option Addr} {ds:List ah} {us:Nat->Bool} (h:aJ W b db f c ds us) (i:W'.heap[b]?=W.heap[b]?) (n:0<ds.length->W'.heap[db]?=W.heap[db]?) (hs:W<=W'.heap.size):aJ W' b db f c ds us:=by
 have cc:∀ j,W'.cell? ⟨b,j,none⟩=W.cell? ⟨b,j,none⟩:=λj=>World.cell?_of_block (a:=⟨b,j,none⟩) i
 have m:∀ j,W'.frozen? ⟨b,j,none⟩=W.frozen? ⟨b,j,none⟩:=λj=>by simp [World.frozen?,i]
 refine ⟨by rw [cc];exact h.row,λd=>⟨(h.at0 d).1,(h.at0 d).2.1,Q1 (h.at0 d).2.2 hs⟩,λk o=>?_,λj l=>⟨by rw [cc];exact (h.used j l).1,by rw [m];exact (h.used j l).2⟩⟩;have g:=n (by omega);have e:∀ j,W'.cell? ⟨db,j,none⟩=W.cell? ⟨db,j,none⟩:=λj=>World.cell?_of_block (a:=⟨db,j,none⟩) g
 have p:∀ j,W'.frozen? ⟨db,j,none⟩=W.frozen? ⟨db,j,none⟩:=λj=>by simp [World.frozen?,g]
 rw [e,e,e,p];exact h.cells k o
def iY (W:World) (B:Nat) (v0 v1 v2 v3 v4:Value):World:=((((W.setCell B v0).setCell ⟨B,1,none⟩ v1).setCell ⟨B,2,none⟩ v2).setCell ⟨B,3,none⟩ v3).setCell ⟨B,4,none⟩ v4
def gE (W:World) (B:Nat) (v0 v1 v2 v3 v4 s0 s1:Value):World:=((iY W (B+1) v0 v1 v2 v3 v4).setCell ⟨B+1+1,0,none⟩ s0).setCell ⟨B+1+1,1,none⟩ s1
section
variable {W w:World} {B N j:Nat} {v0 v1 v2 v3 v4 s0 s1 z0 z1 z2 z3 z4 y0 y1:Value} {t:TypeId}
theorem tS (h:W.heap[B]?=some (.cells #[z0,z1,z2,z3,z4] t (0,0))):(iY W B v0 v1 v2 v3 v4).heap[B]?=some (.cells #[v0,v1,v2,v3,v4] t (0,0)):=aO (aO (aO (aO (aO h 0 v0) 1 v1) 2 v2) 3 v3) 4 v4
theorem EI (h:j≠B):(iY W B v0 v1 v2 v3 v4).heap[j]?=W.heap[j]?:=(set_other h).trans ((set_other h).trans ((set_other h).trans ((set_other h).trans (set_other h))))
theorem tT (h:Below N w W) (a:N<=B):Below N w (iY W B v0 v1 v2 v3 v4):=((((h.setCell (p:=B) a _).setCell (p:=⟨B,1,none⟩) a _).setCell (p:=⟨B,2,none⟩) a _).setCell (p:=⟨B,3,none⟩) a _).setCell (p:=⟨B,4,none⟩) a _
theorem tU (h:W.heap[B+1]?=some (.cells #[z0,z1,z2,z3,z4] t (0,0))):(gE W B v0 v1 v2 v3 v4 s0 s1).heap[B+1]?=some (.cells #[v0,v1,v2,v3,v4] t (0,0)):=(set_other (by omega)).trans ((set_other (by omega)).trans (tS h))
theorem tV (h:W.heap[B+1+1]?=some (.cells #[y0,y1] t (0,0))):(gE W B v0 v1 v2 v3 v4 s0 s1).heap[B+1+1]?=some (.cells #[s0,s1] t (0,0)):=aO (aO ((EI (by omega)).trans h) 0 s0) 1 s1
theorem Tv (b:j≠B+1) (a:j≠B+1+1):(gE W B v0 v1 v2 v3 v4 s0 s1).heap[j]?=W.heap[j]?:=(set_other a).trans ((set_other a).trans (EI b))
theorem tW (h:Below N w W) (a:N<=B):Below N w (gE W B v0 v1 v2 v3 v4 s0 s1):=((tT h (by omega)).setCell (p:=⟨B+1+1,0,none⟩) (show N<=B+1+1 by omega) _).setCell (p:=⟨B+1+1,1,none⟩) (show N<=B+1+1 by omega) _
theorem Tw:(gE W B v0 v1 v2 v3 v4 s0 s1).heap.size=W.heap.size:=by simp [gE,iY]
theorem cells5 (h:W.heap[B]?=some (.cells #[z0,z1,z2,z3,z4] t (0,0))):(W.cell? B=some z0/\W.frozen? B=false)/\(W.cell? ⟨B,1,none⟩=some z1/\W.frozen? ⟨B,1,none⟩=false)/\(W.cell? ⟨B,2,none⟩=some z2/\W.frozen? ⟨B,2,none⟩=false)/\(W.cell? ⟨B,3,none⟩=some z3/\W.frozen? ⟨B,3,none⟩=false)/\(W.cell? ⟨B,4,none⟩=some z4/\W.frozen? ⟨B,4,none⟩=false):=by simp [World.cell?,World.frozen?,h]
theorem ri (h:W.heap[B]?=some (.cells #[z0,z1] t (0,0))):(W.cell? B=some z0/\W.frozen? B=false)/\(W.cell? ⟨B,1,none⟩=some z1/\W.frozen? ⟨B,1,none⟩=false):=by simp [World.cell?,World.frozen?,h]
theorem xV {f:Option Addr} {c h e d:Int} {p q:Nat} {a:Act} {i:TypeId} {pos:String} {after:Array Edge} {guard:Option (Nat × Bool)} {K:Act->World->Prop} {Q:Exit->Act->World->Prop}
  (g:W.heap[B]?=some (.cells #[z0,z1,z2,z3,z4] t (0,0))) (l:a.tmps[p]?.getD undef=.pointer (some ⟨B,0,none⟩)) (m:a.tmps[q]?.getD undef=.agg #[.pointer f,.int .u64 c,.int .u8 h,e,d])
  (b:K a (iY W B (.pointer f) (.int .u64 c) (.int .u8 h) e d)) :
  Oper.wp prog { dst:=none,op:=Op.store 84 (Operand.tmp p) (Operand.tmp q),type:=i,pos:=pos,after:=after,guard:=guard } a W K Q:=by
 unfold iY at b;have j:=qI b;clear b;obtain ⟨⟨c0,f0⟩,⟨c1,f1⟩,⟨c2,f2⟩,⟨c3,f3⟩,k,n⟩:=cells5 g;clear g;go_simp;exact j.o
theorem tX {X:World} {a:Act} {e:Value} {R:Ending->World->Prop} (c:X.heap[B+1]?=some (.cells #[v0,v1,v2,v3,v4] 84 (0,0))) (hs:X.heap[B+1+1]?=some (.cells #[s0,s1] 87 (0,0))) (d:a.tmps.getD 2 undef=.pointer (some ⟨B+1,0,none⟩)) (g:a.tmps.getD 3 undef=.pointer (some ⟨B+1+1,0,none⟩)) (b:a.tmps.getD 4 undef=e) (hd:a.defers=[]) (f:R (.returned (.tuple #[.agg #[v0,v1,v2,v3,v4],.agg #[s0,s1],e])) X):bodyPost prog Tryz.f28 R .ret a X:=by
 refine bodyPost_ret (v:=.tuple #[.agg #[v0,v1,v2,v3,v4],.agg #[s0,s1],e]) ?_ hd f;obtain ⟨⟨c0,_⟩,⟨c1,_⟩,⟨c2,_⟩,⟨c3,_⟩,h,_⟩:=cells5 c;obtain ⟨⟨i,_⟩,j,_⟩:=ri hs;rw [Ts rfl,d,g,b];clear c hs d g b f;go_simp
end
structure Tx (w w':World) (c:dM) (e:Ending):Prop where
 bad:cM c≠0->e=.returned (.tuple #[.agg #[.pointer none,.int .u64 0,.int .u8 0,(0:Int),(0:Int)],.agg #[.int .u64 0,.pointer none],aL (cM c)])
 good:cM c=0->∃ tb b cc pb db ao pc,e=.returned (.tuple #[mV (cN c) tb,sV ⟨(cN c).op,c.ds,λ_=>false⟩ pb,.nilIface])/\dU w' tb b 0 cc (cN c)/\ee w' pb db ao pc ⟨(cN c).op,c.ds,λ_=>false⟩/\w.heap.size<=pb/\(0<c.ds.length->w.heap.size<=db)
 below:Below w w w'
abbrev mT:=λ(x0:Option Addr) (x1:dM) (x2:Nat) (x3:Option Addr) (x4:Nat)=>(.cells #[.slice x0 x1.l.length x2,.int .u64 (x1.keep:Nat),(x1.nb:Int),.slice x3 x1.ds.length x4,(x1.pol:Int)] 27:Obj)
abbrev pD:=λ(x0:ah) (x1:Nat)=>(.cells #[x0.kind,.int .i64 (x1:Nat),x0.sick] 77:Obj)
abbrev tY:=λ(B:Nat) (c:dM) (w':World)=>cl w' B (1) (.int .u64 (c.keep:Nat))/\cl w' B (2) (c.nb:Int)/\cl w' B (4) (c.pol:Int)
theorem Ty (c:dM) (v1 v2:Value) (g o:Nat) (w:World) (T:fX w v1 c.l) (Q:dW w v2 g o c.ds) (M:c.keep<18446744073709551616) :
  Calls prog 28 #[.agg #[v1,.int .u64 (c.keep:Nat),.int .i64 c.nb,v2,.int .i64 c.pol]] w λe w'=>Tx w w' c e:=by
 obtain ⟨ca,cc,hp⟩:∃ ca cc,v1=.slice ca c.l.length cc:=by
  rcases id T with ⟨hl,ao,q,rfl⟩|⟨b,o,q,rfl,_⟩
  ·exact ⟨ao,q,by rw [hl];rfl⟩
  ·exact ⟨_,q,rfl⟩
 subst hp;obtain ⟨da,dc,hi,_⟩:=id Q;subst hi;have hU:=qI ((((Q0 w.heap.size w).alloc (lR) (.cells #[.slice ca c.l.length cc,.int .u64 (c.keep:Nat),.int .i64 c.nb,.slice da c.ds.length dc,.int .i64 c.pol] 27)).alloc (by simp) (ez)).alloc (by simp;omega) (.cells #[.int .u64 0,.pointer none] 87));have sz:(((w.alloc (.cells #[.slice ca c.l.length cc,.int .u64 (c.keep:Nat),.int .i64 c.nb,.slice da c.ds.length dc,.int .i64 c.pol] 27)).alloc (ez)).alloc (.cells #[.int .u64 0,.pointer none] 87)).heap.size=w.heap.size+3:=by simp
 have hX:=qI (b6 (b6 (aU w (.cells #[.slice ca c.l.length cc,.int .u64 (c.keep:Nat),.int .i64 c.nb,.slice da c.ds.length dc,.int .i64 c.pol] 27) rfl) (ez)) (.cells #[.int .u64 0,.pointer none] 87));have Jw:=qI (b6 (aU (w.alloc (.cells #[.slice ca c.l.length cc,.int .u64 (c.keep:Nat),.int .i64 c.nb,.slice da c.ds.length dc,.int .i64 c.pol] 27)) (ez) (n:=w.heap.size+1) (by simp)) (.cells #[.int .u64 0,.pointer none] 87));have JA:=qI (aU ((w.alloc (.cells #[.slice ca c.l.length cc,.int .u64 (c.keep:Nat),.int .i64 c.nb,.slice da c.ds.length dc,.int .i64 c.pol] 27)).alloc (ez)) (.cells #[.int .u64 0,.pointer none] 87) (n:=w.heap.size+2) (by simp));have HR:=qI (yX ca cc c.l (((w.alloc (.cells #[.slice ca c.l.length cc,.int .u64 (c.keep:Nat),.int .i64 c.nb,.slice da c.ds.length dc,.int .i64 c.pol] 27)).alloc (ez)).alloc (.cells #[.int .u64 0,.pointer none] 87)) (T.below hU.o));have HD:=qI Q;have u0:(((w.alloc (.cells #[.slice ca c.l.length cc,.int .u64 (c.keep:Nat),.int .i64 c.nb,.slice da c.ds.length dc,.int .i64 c.pol] 27)).alloc (ez)).alloc (.cells #[.int .u64 0,.pointer none] 87)).cell? ⟨w.heap.size,0,none⟩=some (.slice ca c.l.length cc):=aa hX.o 0;clear T Q
 go_enter func28,ntmps28
 go_wp2_with fail
 generalize (((w.alloc (.cells #[.slice ca c.l.length cc,.int .u64 (c.keep:Nat),.int .i64 c.nb,.slice da c.ds.length dc,.int .i64 c.pol] 27)).alloc (ez)).alloc (.cells #[.int .u64 0,.pointer none] 87))=U at *;generalize hB:w.heap.size=B at *;refine HR.o.mono ?_;rintro e y ⟨Hb,E,Hh⟩;have Hn:=qI (show Below w.heap.size w y by rw [hB];exact hU.o.trans (Hh.mono (by omega)));have JH:=Hh.size;have H4:=qI ((Hh.block B (by omega)).trans hX.o);have hh:=qI ((Hh.block (B+1) (by omega)).trans Jw.o);have hr:=qI ((Hh.block (B+1+1) (by omega)).trans JA.o);clear Hh u0 HR
 by_cases hf:dO c.l=0
 ·obtain ⟨f,t,A,rfl,HE⟩:=Hb hf;have Hy:=qI HE;have Ha:=qI (Hi hf);have hC:=qI HE.len;clear Hb E HE;obtain ⟨bad,HX⟩:∃ x:Bool,x=(!decide (c.keep &&& au aT c.l=c.keep) || (!decide (0<=c.nb/\c.nb<=1125899906842624) || !decide (0<=c.pol/\c.pol<=3))):=⟨_,rfl⟩;have Hf:=qI HX;clear HX;have Hr:au aT c.l<18446744073709551616:=i8 aT c.l c.l.length hC.o;have hy:=qI λ(W:World)=>me c.keep (au aT c.l) W M Hr;have hm:=qI λ(W:World)=>EH c.nb 0 1125899906842624 W;have hs:=qI λ(W:World)=>EH c.pol 0 3 W
  go_upto_region 4 with fail
  have I:Hu (∀ W,Below y.heap.size y W->(tY B c) W):=λW p=>⟨aa ((p.block B (by omega)).trans H4.o) 1,aa ((p.block B (by omega)).trans H4.o) 2,aa ((p.block B (by omega)).trans H4.o) 4⟩
  go_cut [39] (λj1 wc=>j1=.bool bad/\Below y.heap.size y wc)
  case first=>
   have Hj:Hu (Below y.heap.size y y.drew):=bF (Q0 _ _);obtain ⟨b1,Hh⟩:∃ b,b=decide (c.keep &&& au aT c.l=c.keep):=⟨_,rfl⟩;obtain ⟨b2,Ht⟩:∃ b,b=decide (0<=c.nb/\c.nb<=1125899906842624):=⟨_,rfl⟩;obtain ⟨b3,Hl⟩:∃ b,b=decide (0<=c.pol/\c.pol<=3):=⟨_,rfl⟩;rw [<- Hh,<- Ht,<- Hl] at Hf;simp only [<- Hh] at hy;simp only [<- Ht] at hm;simp only [<- Hl] at hs;clear Hh Ht Hl;have hq:b1=false\/(b1=true/\b2=false)\/(b1=true/\b2=true):=by cases b1 <;> cases b2 <;> simp
   rcases hq with rfl|⟨rfl,rfl⟩|⟨rfl,rfl⟩
   all_goals
    refine wp_region_held_drew (S:=tY B c) (by kernel_rfl) (I.o _ Hj.o) λhHeld=>?_;generalize y.drew=V at *;refine tk 0 ?_;refine tk 1 ?_;refine tk 2 ?_
    (refine rd 3 λK d=>?_;go_simp;go_wp2_with fail;refine (lW f t 0 A c.l V (Hy.o.below Hj.o)).mono ?_;rintro e W2 ⟨rfl,Ht⟩;have Hm:=qI (Hj.o.trans (Ht.mono Hj.o.size));clear Ht;go_wp2_with fail;refine d.o _ _ (I.o _ Hm.o) λhHeld=>?_;clear d K)
    (refine rd 4 λK d=>?_;go_simp;go_wp2_with fail;refine (hy.o _).mono ?_;rintro e wz ⟨rfl,rfl⟩;go_wp2_with fail;refine d.o _ _ (I.o _ Hm.o) λhHeld=>?_;clear d K)
    refine tk 5 ?_;refine tk 6 ?_
    first|refine tk 7 ?_|refine ts 7 ?_
    first|refine tk 8 ?_|refine ts 8 ?_
    first|refine ts 9 ?_|(refine rd 9 λK d=>?_;go_simp;go_wp2_with fail;refine (hm.o _).mono ?_;rintro e wz ⟨rfl,rfl⟩;go_wp2_with fail;refine d.o _ _ (I.o _ Hm.o) λhHeld=>?_;clear d K)
    first|refine tk 10 ?_|refine ts 10 ?_
    refine tk 11 ?_;refine tk 12 ?_
    first|refine tk 13 ?_|refine ts 13 ?_
    first|refine tk 14 ?_|refine ts 14 ?_
    first|refine ts 15 ?_|(refine rd 15 λK d=>?_;go_simp;go_wp2_with fail;refine (hs.o _).mono ?_;rintro e wz ⟨rfl,rfl⟩;go_wp2_with fail;refine d.o _ _ (I.o _ Hm.o) λhHeld=>?_;clear d K)
    first|refine tk 16 ?_|refine ts 16 ?_
    refine tk 17 ?_;refine Qn (by kernel_rfl) ?_ _;clear hHeld
    go_wp2
    go_meet
    exact ⟨by rw [Hf.o];rfl,Hm.o⟩
  case rest=>
   obtain ⟨rfl,F⟩:=hcut;have hx:=qI (Hn.o.trans (F.mono (by omega)));have JJ:=F.size;have h4:=qI ((F.block B (by omega)).trans H4.o);have hG:=qI ((F.block (B+1) (by omega)).trans hh.o);have hD:=qI ((F.block (B+1+1) (by omega)).trans hr.o);have Jx:=qI (Hy.o.below F);have H1:=qI hf;clear F hf hy hm hs I Hy
   rcases two bad with O|O
   ·have Ho:Hu (cM c=1):=by
     unfold Hu cM;rw [if_neg λh=>h H1.o,if_pos];rw [O] at Hf;have p:=Hf.o
     by_cases H:c.keep &&& au aT c.l=c.keep
     ·by_cases J:0<=c.nb/\c.nb<=1125899906842624
      ·by_cases q3:0<=c.pol/\c.pol<=3
       ·rw [Qc H,Qc J,Qc q3] at p;cases p
       ·exact .inr (.inr q3)
      ·exact .inr (.inl J)
     ·exact .inl H
    subst O;obtain ⟨⟨a0,b0⟩,⟨a1,b1⟩,⟨a2,b2⟩,⟨a3,b3⟩,a4,b4⟩:=cells5 hG.o;obtain ⟨⟨c0,d0⟩,c1,d1⟩:=ri hD.o
    go_wp2_with fail
    (try simp only [Exit.inBlock,Exit.then]);exact tX (X:=(gE wc B (.pointer none) (.int .u64 0) (.int .u8 0) (.int .i64 0) (.int .i64 0) (.int .u64 0) (.pointer none))) (e:=.iface 108 (.int .i64 1)) (tU hG.o) (tV hD.o) rfl rfl rfl rfl ⟨(λ_=>by rw [Ho.o];rfl),(λh=>by rw [Ho.o] at h;cases h),tW hx.o (by omega)⟩
   ·have Hv:Hu ((c.keep &&& au aT c.l=c.keep)/\(0<=c.nb/\c.nb<=1125899906842624)/\(0<=c.pol/\c.pol<=3)):=by
     unfold Hu;rw [O] at Hf;have p:=Hf.o
     by_cases H:c.keep &&& au aT c.l=c.keep
     ·by_cases J:0<=c.nb/\c.nb<=1125899906842624
      ·by_cases q3:0<=c.pol/\c.pol<=3
       ·exact ⟨H,J,q3⟩
       ·rw [Qc H,Qc J,Q7 q3] at p;cases p
      ·rw [Qc H,Q7 J] at p;cases p
     ·rw [Q7 H] at p;cases p
    have Ho:Hu (cM c=((dQ c.ds:Nat):Int)):=by
     unfold Hu cM;rw [if_neg λh=>h H1.o,if_neg (λh=>by rcases h with h|h|h;exact h Hv.o.1;exact h Hv.o.2.1;exact h Hv.o.2.2)]
    subst O;have e3:wc.cell? ⟨B,3,none⟩=some (.slice da c.ds.length dc):=aa h4.o 3;have hY:=qI (zR (.slice da c.ds.length dc) g o c.ds wc (HD.o.le (aM.of_below hx.o)))
    go_wp2_with fail
    refine hY.o.mono ?_;rintro e r ⟨Hb,E,Hl⟩;have R:=qI (hx.o.trans (Hl.mono (by omega)));have JG:=Hl.size;have H5:=qI ((Hl.block B (by omega)).trans h4.o);have H9:=qI ((Hl.block (B+1) (by omega)).trans hG.o);have H0:=qI ((Hl.block (B+1+1) (by omega)).trans hD.o);have Hq:=qI (Jx.o.below Hl);clear Hl e3 hY
    by_cases m:dQ c.ds=0
    ·obtain ⟨pp,rfl,u,db,D,pc,rfl,He,hv,Hz⟩:=Hb m;rw [m] at Ho;have HT:=qI He;have H3:=qI (kg m);have h6:Hu (w.heap.size<=u/\(0<c.ds.length->w.heap.size<=db)):=⟨by omega,λz=>by have:=Hz z;omega⟩;have JF:=He.lt;have Jo:B+3<=u:=by omega
     have HJ:Hu (0<c.ds.length->B+3<=db):=λz=>by have:=Hz z;omega
     have hz:Hu (0<c.ds.length->db<r.heap.size):=λz=>(He.at0 z).2.2
     clear Hb E He hv Hz m;dsimp only;rw [show aL (((0:Nat)):Int)=.nilIface from rfl]
     go_upto_region 9 with fail
     have Ja:=kY (au aT c.l) c.keep Hr M;have Hg:Hu (∀ W,Below r.heap.size r W->(tY B c) W):=λW p=>⟨aa ((p.block B (by omega)).trans H5.o) 1,aa ((p.block B (by omega)).trans H5.o) 2,aa ((p.block B (by omega)).trans H5.o) 4⟩
     go_cut [8] (λp8 wc=>∃ l,p8=.pointer (some ⟨l,0,none⟩)/\wc.heap[l]?=some (.cells #[.pointer (some ⟨f,0,none⟩),.int .u64 (aD (au aT c.l) c.keep:Nat),.int .u8 (gZ c.l c.l.length:Nat),.int .i64 c.nb,.int .i64 c.pol] 84 (0,0))/\r.heap.size<=l/\Below r.heap.size r wc)
     case first=>
      have Hj:Hu (Below r.heap.size r r.drew):=bF (Q0 _ _);refine wp_region_held_drew (S:=tY B c) (by kernel_rfl) (Hg.o _ Hj.o) λhHeld=>?_;generalize r.drew=V at *;refine tk 0 ?_;refine tk 1 ?_;refine tk 3 ?_;refine tk 4 ?_;refine tk 6 ?_;refine tk 8 ?_;refine tk 9 ?_;refine tk 10 ?_;refine tk 11 ?_;refine rd2 2 13 (λK d=>?_) λK d=>?_
      ·go_simp
       go_wp2_with fail
       refine (lW f t 0 A c.l V (Hq.o.below Hj.o)).mono ?_;rintro e C ⟨rfl,Hh⟩;have Hn:=qI (Hj.o.trans (Hh.mono Hj.o.size));clear Hh
       go_wp2_with fail
       refine d.o _ _ (Hg.o _ Hn.o) λhHeld=>?_;clear d K;refine tk 5 ?_;refine rd2 7 13 (λK d=>?_) λK d=>?_
       ·go_simp
        go_wp2_with fail
        refine (uI f t 0 A c.l C (Hq.o.below Hn.o) Ha.o).mono ?_;rintro e G ⟨rfl,Ht⟩;have Hm:=qI (Hn.o.trans (Ht.mono Hn.o.size));clear Ht
        go_wp2_with fail
        refine d.o _ _ (Hg.o _ Hm.o) λhHeld=>?_;clear d K;refine tk 12 ?_;refine rd 13 λK d=>?_;have R:=qI (Hm.o.alloc Hm.o.size (ez));have hW:=qI (aU G (ez) rfl);have h9:G.heap.size<(G.alloc (ez)).heap.size:=by simp
        have HV:=Hm.o.size;go_simp
        go_wp2_with fail
        refine d.o _ _ (Hg.o _ R.o) λhHeld=>?_;clear d K;generalize G.alloc (ez)=Y3 at *;refine rd 14 λK d=>?_;rw [if_pos (by rfl)];refine xV hW.o rfl rfl ?_;have HZ:Hu (Below r.heap.size r (iY Y3 (G.heap.size) (.pointer (some ⟨f,0,none⟩)) (.int .u64 (aD (au aT c.l) c.keep:Nat)) (.int .u8 (gZ c.l c.l.length:Nat)) (.int .i64 c.nb) (.int .i64 c.pol))):=tT R.o HV;have hw:Hu ((iY Y3 (G.heap.size) (.pointer (some ⟨f,0,none⟩)) (.int .u64 (aD (au aT c.l) c.keep:Nat)) (.int .u8 (gZ c.l c.l.length:Nat)) (.int .i64 c.nb) (.int .i64 c.pol)).heap[G.heap.size]?=_):=tS hW.o;refine d.o _ _ (Hg.o _ HZ.o) λhHeld=>?_;clear d K;(try simp only [Act.put,s1,s2,s3]);refine Qn (by kernel_rfl) ?_ _
        go_wp2
        go_meet
        exact ⟨_,rfl,hw.o,HV,HZ.o⟩
       ·have N:=qI (Hn.o.alloc Hn.o.size (ez));have hA:=qI (aU C (ez) rfl);have HO:C.heap.size<(C.alloc (ez)).heap.size:=by simp
        have HW:=Hn.o.size;go_simp
        go_wp2_with fail
        refine d.o _ _ (Hg.o _ N.o) λhHeld=>?_;clear d K;generalize C.alloc (ez)=Y5 at *;refine rd 7 λK d=>?_;go_simp
        go_wp2_with fail
        refine (uI f t 0 A c.l Y5 (Hq.o.below N.o) Ha.o).mono ?_;rintro e Y6 ⟨rfl,hc⟩;have h5:=qI (N.o.trans (hc.mono N.o.size));have hJ:=qI ((hc.block _ HO).trans hA.o);have Jp:=Q1 HO hc.size;clear hc
        go_wp2_with fail
        refine d.o _ _ (Hg.o _ h5.o) λhHeld=>?_;clear d K;refine tk 12 ?_;refine rd 14 λK d=>?_;rw [if_pos (by rfl)];refine xV hJ.o rfl rfl ?_;have hV:Hu (Below r.heap.size r (iY Y6 (C.heap.size) (.pointer (some ⟨f,0,none⟩)) (.int .u64 (aD (au aT c.l) c.keep:Nat)) (.int .u8 (gZ c.l c.l.length:Nat)) (.int .i64 c.nb) (.int .i64 c.pol))):=tT h5.o HW;have Jq:Hu ((iY Y6 (C.heap.size) (.pointer (some ⟨f,0,none⟩)) (.int .u64 (aD (au aT c.l) c.keep:Nat)) (.int .u8 (gZ c.l c.l.length:Nat)) (.int .i64 c.nb) (.int .i64 c.pol)).heap[C.heap.size]?=_):=tS hJ.o;refine d.o _ _ (Hg.o _ hV.o) λhHeld=>?_;clear d K;(try simp only [Act.put,s1,s2,s3]);refine Qn (by kernel_rfl) ?_ _
        go_wp2
        go_meet
        exact ⟨_,rfl,Jq.o,HW,hV.o⟩
      ·have H7:=qI (Hj.o.alloc Hj.o.size (ez));have Jb:=qI (aU V (ez) rfl);have HN:V.heap.size<(V.alloc (ez)).heap.size:=by simp
       have HP:=Hj.o.size;go_simp
       go_wp2_with fail
       refine d.o _ _ (Hg.o _ H7.o) λhHeld=>?_;clear d K;generalize V.alloc (ez)=Y8 at *;refine rd 2 λK d=>?_;go_simp
       go_wp2_with fail
       refine (lW f t 0 A c.l Y8 (Hq.o.below H7.o)).mono ?_;rintro e Y9 ⟨rfl,H6⟩;have H2:=qI (H7.o.trans (H6.mono H7.o.size));have Je:=qI ((H6.block _ HN).trans Jb.o);have HS:=Q1 HN H6.size;clear H6
       go_wp2_with fail
       refine d.o _ _ (Hg.o _ H2.o) λhHeld=>?_;clear d K;refine tk 5 ?_;refine rd 7 λK d=>?_;go_simp
       go_wp2_with fail
       refine (uI f t 0 A c.l Y9 (Hq.o.below H2.o) Ha.o).mono ?_;rintro e j0 ⟨rfl,Hs⟩;have HQ:=qI (H2.o.trans (Hs.mono H2.o.size));have HK:=qI ((Hs.block _ HS).trans Je.o);have h3:=Q1 HS Hs.size;clear Hs
       go_wp2_with fail
       refine d.o _ _ (Hg.o _ HQ.o) λhHeld=>?_;clear d K;refine tk 12 ?_;refine rd 14 λK d=>?_;rw [if_pos (by rfl)];refine xV HK.o rfl rfl ?_;have HU:Hu (Below r.heap.size r (iY j0 (V.heap.size) (.pointer (some ⟨f,0,none⟩)) (.int .u64 (aD (au aT c.l) c.keep:Nat)) (.int .u8 (gZ c.l c.l.length:Nat)) (.int .i64 c.nb) (.int .i64 c.pol))):=tT HQ.o HP;have ht:Hu ((iY j0 (V.heap.size) (.pointer (some ⟨f,0,none⟩)) (.int .u64 (aD (au aT c.l) c.keep:Nat)) (.int .u8 (gZ c.l c.l.length:Nat)) (.int .i64 c.nb) (.int .i64 c.pol)).heap[V.heap.size]?=_):=tS HK.o;refine d.o _ _ (Hg.o _ HU.o) λhHeld=>?_;clear d K;(try simp only [Act.put,s1,s2,s3]);refine Qn (by kernel_rfl) ?_ _
       go_wp2
       go_meet
       exact ⟨_,rfl,ht.o,HP,HU.o⟩
     case rest=>
      obtain ⟨l,rfl,L,Jf,Hw⟩:=hcut;have HZ:=qI (R.o.trans (Hw.mono (by omega)));have JK:=Hw.size;have Jr:=qI ((Hw.block B (by omega)).trans H5.o);have Jj:=qI ((Hw.block (B+1) (by omega)).trans H9.o);have Jc:=qI ((Hw.block (B+1+1) (by omega)).trans H0.o);have Jk:=qI (Hq.o.below Hw);have hw:=qI (HT.o.below Hw);have Jn:l<wc.heap.size:=(gS L).1;have hT:=qI L;have ho:=qI (Tt c.l c.l.length);have HL:=qI (MG (a:=fg c.l c.l.length) (ds:=c.ds) (BS (λk M=>Ha.o.at M) c.l.length (lR)).1 ((BS (λk M=>Ha.o.at M) c.l.length (lR)).2 (xU H1.o)) H3.o.2);rw [ho.o] at hT;have d3:wc.cell? ⟨B,3,none⟩=some (.slice da c.ds.length dc):=aa Jr.o 3;clear L Hw Ja Hg
      go_wp2_with fail
      clear d3
      go_loopw [70] (λi wr=>∃ k:Nat,k<=c.ds.length/\i=.int .i64 k/\wr.heap[l]?=some (.cells #[.pointer (some ⟨f,0,none⟩),.int .u64 (aD (au aT c.l) c.keep:Nat),.int .u8 (fx (fg c.l c.l.length) c.ds k:Nat),.int .i64 c.nb,.int .i64 c.pol] 84 (0,0))/\Apart (λj=>j=l) wc wr) (λi _=>c.ds.length - (intOf i).toNat)
      case atStart=>exact ⟨0,by omega,rfl,hT.o,Apart.refl _ _⟩
      case round=>
       obtain ⟨k,JD,rfl,L,ha⟩:=hrel;have Hc:=qI L;have Hp:=qI ha;have Jm:=ha.size;have Ji:=H3.o.1;have H8:Hu (Below w.heap.size w wr):=ha.below HZ.o (by omega) (λj hj=>by omega);clear L ha
       by_cases P:k<c.ds.length
       ·obtain ⟨_,_,Jl,hO⟩:=id HD.o;injection Jl with hp hi hv3
        subst hp hv3;obtain ⟨rfl,JB,hN⟩:=hO (by omega);obtain ⟨x0,x1,x2⟩:=hN k P;have x0:=(aM.of_below H8.o).cell _ _ _ x0;have x1:=(aM.of_below H8.o).cell _ _ _ x1;have x2:=(aM.of_below H8.o).cell _ _ _ x2;obtain ⟨hL,Jg⟩:=H3.o.2 k P;have JL:(k:Int)<(c.ds.length:Int):=by omega
        have hS:Hu (fx (fg c.l c.l.length) c.ds (k+1)=fx (fg c.l c.l.length) c.ds k ||| 2 ^ (aC c.ds k).node.toNat):=rfl;have JE:=(HL.o k (by omega)).1;clear hN hO hi;generalize aC c.ds k=x at *;obtain ⟨v,hu⟩:=Int.eq_ofNat_of_zero_le hL;rw [hu] at x1 Jg;rw [hu] at hS;have Jv:=qI (aU wr (.cells #[.string x.kind,.int .i64 (v:Nat),.bool x.sick] 77) rfl);have Hx:=qI (b6 Hc.o (.cells #[.string x.kind,.int .i64 (v:Nat),.bool x.sick] 77));have a1:(wr.alloc (.cells #[.string x.kind,.int .i64 (v:Nat),.bool x.sick] 77)).cell? ⟨wr.heap.size,1,none⟩=some (.int .i64 (v:Nat)):=aa Jv.o 1;have b2:(wr.alloc (.cells #[.string x.kind,.int .i64 (v:Nat),.bool x.sick] 77)).cell? ⟨l,2,none⟩=some (.int .u8 (fx (fg c.l c.l.length) c.ds k:Nat)):=aa Hx.o 2;have f2:=bw Hx.o 2;have h7:=or8 (fx (fg c.l c.l.length) c.ds k) v (by omega) (by omega);have hE:=qI (Hp.o.trans (Apart.alloc _ wr (.cells #[.string x.kind,.int .i64 (v:Nat),.bool x.sick] 77)));clear hu hL
        go_wp2_with fail
        generalize wr.alloc (.cells #[.string x.kind,.int .i64 (v:Nat),.bool x.sick] 77)=WX at *;have Jd:bits BinOp.or IntKind.u8 ((fx (fg c.l c.l.length) c.ds k:Nat):Int) (2 ^ v % 256)=((fx (fg c.l c.l.length) c.ds k ||| 2 ^ v:Nat):Int):=h7;clear h7
        go_region
        go_wp2_with fail
        have N:Hu ((WX.setCell ⟨l,2,none⟩ (.int .u8 (fx (fg c.l c.l.length) c.ds k ||| 2 ^ v:Nat))).drew.heap[l]?=some (.cells #[.pointer (some ⟨f,0,none⟩),.int .u64 (aD (au aT c.l) c.keep:Nat),.int .u8 (fx (fg c.l c.l.length) c.ds k ||| 2 ^ v:Nat),.int .i64 c.nb,.int .i64 c.pol] 84 (0,0))):=aO Hx.o 2 _;have Jy:Hu (Apart (λj=>j=l) wc (WX.setCell ⟨l,2,none⟩ (.int .u8 (fx (fg c.l c.l.length) c.ds k ||| 2 ^ v:Nat))).drew):=(hE.o.trans (Apart.setCell (K:=λj=>j=l) rfl _ _ _)).trans (Apart.drew _ _)
        go_roundw
        case rel=>exact ⟨k+1,by omega,by go_num,by rw [hS.o];exact N.o,Jy.o⟩
        case measure=>simp [intOf];omega
       ·have Jz:k=c.ds.length:=by omega
        subst Jz;obtain ⟨s,HB⟩:∃ x,x=fx (fg c.l c.l.length) c.ds c.ds.length:=⟨_,rfl⟩;have Ju:=qI HB;rw [<- HB] at Hc;clear HB;have hI:=qI ((Hp.o.block (B+1) (by omega) (by omega)).trans Jj.o);have hR:=qI ((Hp.o.block (B+1+1) (by omega) (by omega)).trans Jc.o);have JC:=Hq.o.tlt;have JI:=Hq.o.lt;have hg:Hu ((f≠B+1/\f≠B+1+1)/\(t≠B+1/\t≠B+1+1)):=Tu Hq.o (xU H1.o) H9.o H0.o;have Jt:Hu (bD wr f t 0 A c.l):=mR Jk.o (Hp.o.block f (by omega) (by omega)) (Hp.o.block t (by omega) (by omega)) Jm;have hA:Hu (aJ wr u db D pc c.ds λ_=>false):=hw.o.kept (g:=some l) ⟨Hp.o.os,Hp.o.tape,Hp.o.output,Hp.o.size,λj hj hn=>Hp.o.block j hj λe=>hn (by rw [e])⟩ (λe=>by injection e with e;omega) (λz e=>by injection e with e;have:=hz.o z;omega);have m0:wr.cell? ⟨l,0,none⟩=some (.pointer (some ⟨f,0,none⟩)):=aa Hc.o 0;have m1:wr.cell? ⟨l,1,none⟩=some (.int .u64 (aD (au aT c.l) c.keep:Nat)):=aa Hc.o 1;have m2:wr.cell? ⟨l,2,none⟩=some (.int .u8 (s:Nat)):=aa Hc.o 2;have m3:wr.cell? ⟨l,3,none⟩=some (.int .i64 c.nb):=aa Hc.o 3;have m4:wr.cell? ⟨l,4,none⟩=some (.int .i64 c.pol):=aa Hc.o 4;obtain ⟨⟨a0,b0⟩,⟨a1,b1⟩,⟨a2,b2⟩,⟨a3,b3⟩,a4,b4⟩:=cells5 hI.o;obtain ⟨⟨c0,d0⟩,c1,d1⟩:=ri hR.o;have hP:Hu ((gE wr B (.pointer (some ⟨f,0,none⟩)) (.int .u64 (aD (au aT c.l) c.keep:Nat)) (.int .u8 (s:Nat)) (.int .i64 c.nb) (.int .i64 c.pol) (.int .u64 (aD (au aT c.l) c.keep:Nat)) (.pointer (some ⟨u,0,none⟩))).heap[B+1]?=_):=tU hI.o;have hM:Hu ((gE wr B (.pointer (some ⟨f,0,none⟩)) (.int .u64 (aD (au aT c.l) c.keep:Nat)) (.int .u8 (s:Nat)) (.int .i64 c.nb) (.int .i64 c.pol) (.int .u64 (aD (au aT c.l) c.keep:Nat)) (.pointer (some ⟨u,0,none⟩))).heap[B+1+1]?=_):=tV hR.o;have Hk:Hu (∀ j,j≠B+1->j≠B+1+1->(gE wr B (.pointer (some ⟨f,0,none⟩)) (.int .u64 (aD (au aT c.l) c.keep:Nat)) (.int .u8 (s:Nat)) (.int .i64 c.nb) (.int .i64 c.pol) (.int .u64 (aD (au aT c.l) c.keep:Nat)) (.pointer (some ⟨u,0,none⟩))).heap[j]?=wr.heap[j]?):=λj T Q=>Tv T Q
        have hH:(gE wr B (.pointer (some ⟨f,0,none⟩)) (.int .u64 (aD (au aT c.l) c.keep:Nat)) (.int .u8 (s:Nat)) (.int .i64 c.nb) (.int .i64 c.pol) (.int .u64 (aD (au aT c.l) c.keep:Nat)) (.pointer (some ⟨u,0,none⟩))).heap.size=wr.heap.size:=Tw;have h8:Hu (Below w.heap.size w (gE wr B (.pointer (some ⟨f,0,none⟩)) (.int .u64 (aD (au aT c.l) c.keep:Nat)) (.int .u8 (s:Nat)) (.int .i64 c.nb) (.int .i64 c.pol) (.int .u64 (aD (au aT c.l) c.keep:Nat)) (.pointer (some ⟨u,0,none⟩)))):=tW H8 (by omega)
        go_wp2_with fail
        go_region
        obtain ⟨Z,hZ⟩:∃ Z,Z=gE wr B (.pointer (some ⟨f,0,none⟩)) (.int .u64 (aD (au aT c.l) c.keep:Nat)) (.int .u8 (s:Nat)) (.int .i64 c.nb) (.int .i64 c.pol) (.int .u64 (aD (au aT c.l) c.keep:Nat)) (.pointer (some ⟨u,0,none⟩)):=⟨_,rfl⟩;rw [<- hZ] at hP hM Hk hH h8;have Js:=qI hZ;clear hZ;have Jh:Hu (dU Z.drew f t 0 A (cN c)):=⟨mR Jt.o (Hk.o f hg.o.1.1 hg.o.1.2) (Hk.o t hg.o.2.1 hg.o.2.2) (Nat.le_of_eq hH.symm),Ha.o,kh _ Hr,by show 1<=fx _ _ _/\fx _ _ _<=15;have:=HL.o c.ds.length (lR);omega,Hv.o.2.2⟩;have hF:Hu (ee Z.drew u db D pc ⟨(cN c).op,c.ds,λ_=>false⟩):=⟨mS hA.o (Hk.o u (by omega) (by omega)) (λz=>Hk.o db (by have:=HJ.o z;omega) (by have:=HJ.o z;omega)) (Nat.le_of_eq hH.symm),H3.o,kh _ Hr⟩
        go_wp2_with fail
        (try simp only [Exit.inBlock,Exit.then])
        show bodyPost _ _ _ _ _ (gE wr B (.pointer (some ⟨f,0,none⟩)) (.int .u64 (aD (au aT c.l) c.keep:Nat)) (.int .u8 (s:Nat)) (.int .i64 c.nb) (.int .i64 c.pol) (.int .u64 (aD (au aT c.l) c.keep:Nat)) (.pointer (some ⟨u,0,none⟩))).drew
        rw [<- Js.o];exact tX (X:=Z.drew) hP.o hM.o rfl rfl rfl rfl ⟨(λh=>absurd Ho.o h),(λ_=>⟨f,t,A,u,db,D,pc,by rw [Ju.o];rfl,Jh.o,hF.o,h6.o.1,h6.o.2⟩),bF h8.o⟩
    ·have he:=E m;subst he;have Y:=qI m;dsimp only;rw [eV m];clear Hb E;obtain ⟨⟨a0,b0⟩,⟨a1,b1⟩,⟨a2,b2⟩,⟨a3,b3⟩,a4,b4⟩:=cells5 H9.o;obtain ⟨⟨c0,d0⟩,c1,d1⟩:=ri H0.o;clear m;generalize dQ c.ds=ff at *
     go_wp2_with fail
     (try simp only [Exit.inBlock,Exit.then]);exact tX (X:=(gE r B (.pointer none) (.int .u64 0) (.int .u8 0) (.int .i64 0) (.int .i64 0) (.int .u64 0) (.pointer none))) (e:=.iface 108 (.int .i64 (ff:Nat))) (tU H9.o) (tV H0.o) rfl rfl rfl rfl ⟨(λ_=>by rw [Ho.o,eV Y.o]),(λh=>by rw [Ho.o] at h;exact absurd (by omega) Y.o),tW R.o (by omega)⟩
 ·have he:=E hf;subst he;have Ho:Hu (cM c=dO c.l):=by unfold Hu cM;rw [if_pos hf]
  have Y:=qI hf;clear Hb E;obtain ⟨⟨a0,b0⟩,⟨a1,b1⟩,⟨a2,b2⟩,⟨a3,b3⟩,a4,b4⟩:=cells5 hh.o;obtain ⟨⟨c0,d0⟩,c1,d1⟩:=ri hr.o;generalize dO c.l=ff at *;clear hf
  go_wp2_with fail
  (try simp only [Exit.inBlock,Exit.then]);exact tX (X:=(gE y B (.pointer none) (.int .u64 0) (.int .u8 0) (.int .i64 0) (.int .i64 0) (.int .u64 0) (.pointer none))) (e:=.iface 108 (.int .i64 ff)) (tU hh.o) (tV hr.o) rfl rfl rfl rfl ⟨(λ_=>by rw [Ho.o];unfold aL;rw [if_neg Y.o]),(λh=>absurd (Ho.o.symm.trans h) Y.o),tW Hn.o (by omega)⟩
