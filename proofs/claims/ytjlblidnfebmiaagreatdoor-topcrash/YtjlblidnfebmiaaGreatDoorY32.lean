import Derived.Test.YtjlblidnfebmiaaGreatDoorY30
set_option maxRecDepth 100000
set_option maxHeartbeats 16000000
open Go Go.RowKit Go.Shelf
attribute [local go_sem] Oper.semAt_some
open Go.Proofs.Tryz
namespace Go.Proofs.YtjlblidnfebmiaaGreatDoor
variable{A W W' w:World}{B B1 B2:Nat}{qs:List aj}
theorem GL(h:Bw W W'):KeepsOthers W W':=
 ⟨h.size,λk _ a _=>(h.block k (gS a).1).trans a⟩
theorem Wu{a:Option Addr}{len b:Nat}{w:World} :
  Calls pg 111 #[.slice a len b] w λe w'=>e=.returned (.func (.func 155) #[] #[.pointer (some ⟨w,0,none⟩)])/\w'=w.alloc (.cells #[.slice a len b] 67):=by
 go_enter func111,ntmps111
 go_wp2
 go_ret;exact⟨rfl,rfl⟩
structure But (B1 B2:Nat) (A W:World):Prop where
 os:W.os=A.os
 tape:W.tape=A.tape
 output:W.output=A.output
 size:A<=W.heap.size
 block:∀k,k<A.heap.size->k≠B1->k≠B2->W.heap[k]?=A.heap[k]?
theorem But.refl(B1 B2:Nat)(A:World):But B1 B2 A A:=⟨rfl,rfl,rfl,lR,λ_ _ _ _=>rfl⟩
theorem But.then(h:But B1 B2 A W)(a:Bw W W'):But B1 B2 A W':=
 ⟨a.os.trans h.os,a.tape.trans h.tape,a.output.trans h.output,Q5 h.size a.size,λk b c d=>(a.block k (Q1 b h.size)).trans (h.block k b c d)⟩
theorem But.set(h:But B1 B2 A W)(b j:Nat)(v:Value)(f:b=B1\/b=B2):But B1 B2 A (W.setCell ⟨b,j,none⟩ v):=
 ⟨h.os,h.tape,h.output,Q5 h.size (KeepsWalks.setCell W _ v).size,λk c a d=>(Below.heap_setCell _ _ _ k (λe=>by grind)).trans (h.block k c a d)⟩
theorem But.own{β:Type}(B1 B2:Nat)(A:World):OwnFrom A (λ(_:β) W=>But B1 B2 A W):=λ_ W W' row h a f=>
 ⟨a.os.trans h.os,a.tape.trans h.tape,a.output.trans h.output,Q5 h.size a.size,λk b c d=>(a.block k (Q1 b h.size) (λe=>by grind)).trans (h.block k b c d)⟩
theorem But.below{K:Nat}(h:But B1 B2 A W)(b:K<=B1)(a:K<=B2)(c:K<=A):Below K A W:=
 ⟨h.os,h.tape,h.output,h.size,λk d=>h.block k (by omega) (by omega) (by omega)⟩
def GM (qs:List aj) (cv:Nat->Value) (x:Nat):Array Value:=#[.int .i64 (x:Int),.agg #[(aS qs x).nm,((aS qs x).pr:Int),cv x]]
theorem Wv(F:Fence)(n:Nat)(f:F.fn 155)(a:F.round=none)(l:Nat){b:Nat}{h:Option Addr}{d:Nat}(J:List Nat->World->Prop)
  {W:World} (g:W.cell? b=some (.slice h 0 d)) (c:J [] W) :
  CallsIn F n prog 155 #[.func (.yield l) #[] #[],b] W λe W'=>(∃v,e=.returned v)/\J [] W':=by
 refine callsIn_of_wp func155 rfl f ?_ a;simp only[ntmps155,List.size_toArray,Qg,List.length_nil,Nat.reduceAdd,Nat.reduceSub,Array.replicate_succ,Array.replicate_zero,List.push_toArray,List.append_toArray,List.nil_append,List.cons_append]
 gi_wp2
 gi_loopw [3] (λi wr=>i=.int .i64 (-1)/\J [] wr) λ_ _=>0
 exact⟨rfl,c⟩
 ·obtain⟨rfl,Ha⟩:=hrel
  gi_wp2
  go_end0
  exact⟨⟨_,rfl⟩,Ha⟩
theorem Ww(F:Fence)(n:Nat)(A:F.fn 155)(h:F.round=none)(I:1<=n){f:Nat}{u:Option Addr}{s:Nat}{d:List aj}{j w:World}(y:Bw j w)(v:w.cell? f=some (.slice u d.length s))(r:f<w)(E:iz j (.slice u d.length s) d)(i:d.length<=16) :
  ∃b cv,(b<j.heap.size\/b=f)/\(∀k,∃a m c,cv k=.slice a m c)/\
   SeqStopsK F n prog 155 #[f] (GM d cv) (KpB b f) (λC=>C=iV d.length d.length) (λ_=>True) d.length w:=by
 obtain⟨L,c,B,_,H⟩:=E;cases B
 by_cases q:0<d.length
 ·obtain⟨b,o,cv,rfl,Ha⟩:=H q;have Hb:rk w b o d (λk=>if k<d.length then cv k else .slice none 0 0):=by
   have D:rk j b o d (λk=>if k<d.length then cv k else .slice none 0 0):=λk g=>by
    simp only[if_pos g];exact (Ha.2 k g).1
   exact D.kept (y.block b Ha.1)
  refine⟨b,λk=>if k<d.length then cv k else .slice none 0 0,.inl Ha.1,λk=>?_,λl J x W t _ _ z q=>?_⟩
  ·by_cases g:k<d.length
   ·simp only[if_pos g];exact (Ha.2 k g).2.slice
   ·grind
  ·refine VR (F:=F) n A h I (l:=l) (g:=f) (b:=b) (o:=o) (q:=s) (d:=d) i (λk=>?_) J x z (W:=W) ((t.cell (p:=f) r).trans v) (Hb.kept (t.block b (Q1 Ha.1 y.size))) q
   by_cases g:k<d.length
   ·simp only[if_pos g];exact (Ha.2 k g).2.slice
   ·grind
 ·have Hc:d.length=0:=by omega
  refine⟨f,λ_=>.slice none 0 0,.inr rfl,λk=>⟨_,_,_,rfl⟩,λl J x W t _ _ z q=>?_⟩;refine (Wv F n A h l (b:=f) (h:=u) (d:=s) J (W:=W) ((t.cell (p:=f) r).trans (by grind)) q).mono ?_;rintro e W' ⟨G,K⟩;exact⟨G,.inl ⟨_,rfl,by rw[Hc];exact K⟩⟩
theorem ig.own(B:Nat)(x:aj)(cv:Value):Own (λ(_:Unit) W=>ig W B x cv):=λ_ _ _ _ hs a b=>by
 obtain⟨d,e,f,c⟩:=hs;exact⟨Q1 d a.size,cell_kept e a b,cell_kept f a b,cell_kept c a b⟩
theorem zO{m b:Int}(h:cI w B m b)(g j:Nat)(v:Value)(d:B≠g):cI (w.setCell ⟨g,j,none⟩ v) B m b:=by
 have c:=Below.heap_setCell w ⟨g,j,none⟩ v B d;obtain⟨⟨c0,f0⟩,⟨c1,f1⟩⟩:=h;exact⟨⟨(World.cell?_of_block (a:=B) c).trans c0,(World.frozen?_of_block (a:=B) c).trans f0⟩,⟨(World.cell?_of_block (a:=⟨B,1,none⟩) c).trans c1,(World.frozen?_of_block (a:=⟨B,1,none⟩) c).trans f1⟩⟩
theorem GN{t:TypeId}{u:Value}(h:Boxed w B t u)(g j:Nat)(v:Value)(a:B≠g):Boxed (w.setCell ⟨g,j,none⟩ v) B t u:=
 (Below.heap_setCell w ⟨g,j,none⟩ v B a).trans h
theorem Wx(h:pT qs)(x:Nat):(aS qs x).nm.size<=1000:=by
 by_cases a:x<qs.length
 ·have:=(h.2 qs[x] (List.getElem_mem a)).2
  simp[aS,a]
  exact this
 ·simp[aS,a,nr]
theorem Wy{d:Option Addr}{a:Nat}(h:iz w (.slice d qs.length a) qs){g:Nat}(s:g<=qs.length):iz w (.slice d g a) (qs.take g):=by
 obtain⟨q,c,l,r,n⟩:=h;cases l;have f:(qs.take g).length=g:=by grind
 refine⟨d,a,by rw[f],by omega,λp=>?_⟩;obtain⟨b,o,cv,m,Ha,j⟩:=n (by omega);refine⟨b,o,cv,m,Ha,λk i=>?_⟩;rw[f] at i;have e:aS (qs.take g) k=aS qs k:=by simp[aS,i]
 rw[e];exact j k (by omega)
theorem Wz{v:Value}{l:List ByteArray}(h:vP w v l){D:Nat}{o:Obj}{a:Obj}(q:w.heap[D]?=some o)(p:o.isCells=false):vP (w.putObj D a) v l:=by
 obtain⟨i,c,f,b,m⟩:=h;refine⟨i,c,f,b,λd=>?_⟩;obtain⟨g,j,Ha,Hb⟩:=m d;exact⟨g,j,Q1 Ha (grownBy_putObj' w D a).size,λk n=>cell_kept (Hb k n) (grownBy_putObj' w D a) (λr e=>by grind)⟩
theorem GO{h l v n:Int}(t:iQ h l v):iQ (h+n / 1073741824+(l+n % 1073741824) / 1073741824) ((l+n) % 1073741824) (v+n):=by
 obtain⟨b,c,a⟩:=t;exact⟨by omega,by omega,by omega⟩
theorem WC{v uv:Value}{N:List aj}{us:List ak}(d:Int){w:World}(h:iz w v N)(hu:bC w uv us)(hf:pT N)(E:pS us)(j0:-9223372036854775808<=d)(h9:d<=9223372036854775807) :
  Calls pg 68 #[v,uv,.int .i64 d] w λe w'=>(∃v' i g,e=.returned v'/\vP w' v' ((i.take g).map aj.nm)/\rm us N i/\fC us i d 0 g)/\Bw w w':=by
 have HU:=qI (VT hu E);have HP:=qI h;obtain⟨ao,c,rfl,_,_⟩:=h;obtain⟨O,c2,rfl,_,_⟩:=hu;refine (callsIn_wide (n:=3)).1 ?_;refine callsIn_of_wp_marks func68 rfl trivial ?_ rfl;simp only[ntmps68,List.size_toArray,Qg,List.length_nil,Nat.reduceAdd,Nat.reduceSub,Array.replicate_succ,Array.replicate_zero,List.push_toArray,List.append_toArray,List.nil_append,List.cons_append]
 gi_wp2
 refine⟨trivial,(callsIn_wide.2 HU).mono ?_⟩;rintro e z ⟨⟨n,rfl,F⟩,Z⟩;have hX:=qI Z;have hz:=(Q0 z z).alloc (lR) (.cells #[.map w] 205);have X:=qI (Z.trans (hz.mono Z.size));have T:=qI (F.alloc (.cells #[.map w] 205));have H8:=qI (Boxed.new z 205 (.map w));have hU:(z.alloc (.cells #[.map w] 205)).heap.size=z.heap.size+1:=by simp
 have HO:=qI (We (HP.o.below X) hf T E.2.1);have hC:(z.alloc (.cells #[.map w] 205)).cell? z=some (.map w):=by simp
 have hJ:=F.lt;clear F Z hz HU
 gi_wp2
 generalize z.alloc (.cells #[.map w] 205)=W2 at *;refine⟨trivial,(callsIn_wide.2 HO).mono ?_⟩;rintro e w3 ⟨⟨v3,i,rfl,hq,hs,HM⟩,Hv⟩;have HJ:=X.t Hv;have HL:=qI (T.o.below Hv T.o.lt);have he:=qI (show Boxed w3 z 205 (.map w) from (Hv.block _ (by omega)).trans H8);have HS:=qI hs;have HQ:=qI hq;have hN:i.length<=16:=by rw[hs.1.length_eq];exact hf.1
 have hH:=Hv.size;obtain⟨B,t,rfl,_,_⟩:=hq;have h0:i.length<=t:=by grind
 clear HM;have Hw:=qI (GF 0 0 d w3 (by omega) (by omega) (by omega) (by omega) j0 h9);clear Hv hs HO X T H8 hC
 gi_wp2
 refine⟨trivial,(callsIn_wide.2 Hw).mono ?_⟩;rintro e f ⟨rfl,Hr⟩;have hw:=qI (GO (n:=d) iQ.zero);have hj:=HJ.t Hr;have hG:=qI (HL.o.below Hr HL.o.lt);have hF:=qI (show Boxed f z 205 (.map w) from (Hr.block _ (by omega)).trans he);have hx:=qI (HQ.o.below Hr);have hL:=Hr.size;clear Hr HJ HL he Hw;generalize (0:Int)+d / 1073741824+(0+d % 1073741824) / 1073741824=m at *;generalize ((0:Int)+d) % 1073741824=y at *
 gi_wp2
 refine⟨trivial,(callsIn_wide.2 (Wu)).mono ?_⟩;rintro e w8 ⟨rfl,rfl⟩;have a1:=(Q0 f f).alloc (lR) (.cells #[(m:Int),(y:Int)] 209);have a2:=a1.alloc (by simp) (.cells #[(i.length:Int)] 3);have a3:=a2.alloc (by simp;omega) (.cells #[(0:Int),(0:Int)] 209);have R:=qI (a3.alloc (by simp;omega) (.cells #[.slice B i.length t] 67));have hi:=qI (((cI.made f 209 m y).alloc (.cells #[(i.length:Int)] 3)).alloc (.cells #[(0:Int),(0:Int)] 209) |>.alloc (.cells #[.slice B i.length t] 67));have Hn:=((Boxed.new (f.alloc (.cells #[(m:Int),(y:Int)] 209)) 3 (i.length:Int)).alloc (.cells #[(0:Int),(0:Int)] 209)).alloc (.cells #[.slice B i.length t] 67);have Hm:=(cI.made ((f.alloc (.cells #[(m:Int),(y:Int)] 209)).alloc (.cells #[(i.length:Int)] 3)) 209 0 0).alloc (.cells #[.slice B i.length t] 67);have H0:=Boxed.new (((f.alloc (.cells #[(m:Int),(y:Int)] 209)).alloc (.cells #[(i.length:Int)] 3)).alloc (.cells #[(0:Int),(0:Int)] 209)) 67 (.slice B i.length t);have h7:((((f.alloc (.cells #[(m:Int),(y:Int)] 209)).alloc (.cells #[(i.length:Int)] 3)).alloc (.cells #[(0:Int),(0:Int)] 209)).alloc (.cells #[.slice B i.length t] 67)).heap.size=f.heap.size+1+1+1+1:=by simp
 simp only[World.size_alloc] at Hn Hm H0;have Hp:=qI Hn;have Hq:=qI Hm;have H3:=qI H0;clear a1 a2 a3 Hn Hm H0
 gi_wp2
 generalize ((((f.alloc (.cells #[(m:Int),(y:Int)] 209)).alloc (.cells #[(i.length:Int)] 3)).alloc (.cells #[(0:Int),(0:Int)] 209)).alloc (.cells #[.slice B i.length t] 67))=A at *;obtain⟨b,cv,hb,hk,Ho⟩:=Ww Fence.wide (3 - 1) trivial rfl (by omega) R H3.o.cell (by omega) hx hN;have U:=qI hk;have H7:b<A:=by omega
 have S:b≠f+1/\b≠f+1+1:=by omega
 clear hk hb;refine wpIn_rangeFunc_ownH (α:=Nat) rfl (by omega) (gf:=155) (lb:=#[.pointer (some ⟨f.heap.size+1+1+1,0,none⟩)]) rfl trivial (enters_of func155 (by kernel_rfl) rfl)
  Ho (λh k=>KpB.trans h k) (λW l o o' hl hW h1 h2=>⟨World.putObj_heap_other (by omega),World.putObj_heap_other (by omega)⟩) (Q0 _ _) (λ_=>rfl)
  (λpre W=>(∃h l,cI W (f.heap.size+1+1) h l/\iQ h l (gV us i d pre).1)/\Boxed W (f.heap.size+1) 3 ((gV us i d pre).2:Int)/\But (f.heap.size+1) (f.heap.size+1+1) A W)
  (λ_ _ _=>False)
  (λs W W' row hs G hr=>by
   obtain⟨⟨h,l,J,C⟩,Hf,Ha⟩:=hs;exact⟨⟨h,l,J.kept G (λe=>by grind),C⟩,Hf.kept G (λe=>by grind),But.own _ _ A s W W' row Ha G hr⟩)
  (λ_ _ _ _ _ hs _ _=>hs)
  ⟨⟨0,0,Hq,iQ.zero⟩,Hp,But.refl _ _ _⟩
  (λx a' W=>∃I,A.heap.size<=I/\ig W I (aS i x) (cv x)/\a'={ tmps:=#[Value.slice ao N.length c,Value.slice O us.length c2,Value.int IntKind.i64 d,undef,undef,undef,Value.slice none 0 0,Value.pointer (some { block:=z.heap.size,off:=0 }),Value.slice B i.length t,Value.pointer (some { block:=f.heap.size,off:=0 }),Value.pointer (some { block:=f.heap.size+1,off:=0 }),Value.pointer (some { block:=f.heap.size+1+1,off:=0 }),.int .i64 (x:Int),.pointer (some ⟨I,0,none⟩),Value.slice O us.length c2,Value.map w,Value.slice ao N.length c,Value.map w,Value.slice B i.length t,Value.agg #[Value.int IntKind.i64 0,Value.int IntKind.i64 0],Value.int IntKind.i64 d,Value.agg #[Value.int IntKind.i64 m,Value.int IntKind.i64 y],Value.slice B i.length t,Value.int IntKind.i64 (i.length:Int),Value.agg #[Value.int IntKind.i64 0,Value.int IntKind.i64 0],Value.slice B i.length t,Value.func (Fn.func 155) #[] #[Value.pointer (some { block:=f.heap.size+1+1+1,off:=0 })],.int .i64 (x:Int),.agg #[(aS i x).nm,((aS i x).pr:Int),cv x],undef,undef,undef,undef,undef,undef,undef,undef,undef,undef,undef,undef,undef,undef,undef],defers:=[] })
  (λx a'=>Own.from (λu W W' row hs G hr=>by
   obtain⟨I,h1,h2,h3⟩:=hs;exact⟨I,h1,ig.own I _ _ u W W' row h2 G hr,h3⟩) _) ?assign ?body ?done ?stop
 case assign=>
  rintro l pre x W K ⟨⟨h,P,J,C⟩,Hf,Ha⟩ H;obtain⟨ca,cm,cc,Hz⟩:=U.o x;have HK:=qI H;have hM:=Ha.size;clear H;unfold GM;rw[Hz]
  gi_wp2
  refine HK.o _ _ ((KeepsOthers.alloc _ _).from _) ⟨Below.heap_alloc _ _ _ (by omega),Below.heap_alloc _ _ _ (by omega)⟩ ⟨⟨h,P,J.alloc _,C⟩,Hf.alloc _,Ha.then ((Q0 _ _).alloc (lR) _)⟩ ⟨W,hM,?_,?_⟩
  ·grind[ig.made]
  ·rw[Hz]
 case body=>
  rintro l pre x a' W hl ⟨r,hr⟩ ⟨⟨h,P,J,C⟩,Hf,Ha⟩ ⟨I,h6,H9,rfl⟩ hV;obtain⟨ca,cm,cc,Hz⟩:=U.o x;rw[Hz] at H9 ⊢;have H1:=KE E.2.1 i d (pre:=pre) (by omega);have hP:=wV E.2.1 (aS i x).nm;have HV:=C.high H1.1 H1.2;have He:=Ha.below (K:=f.heap.size+1) (lR) (by omega) (by omega);have hB:=(He.cell (p:=z.heap.size) (by grind)).trans ((R.o.cell (p:=z.heap.size) (by grind)).trans hF.o.cell);have hO:=GB ((hG.o.below R (by omega)).below He (by omega)) (aS i x).nm (Wx (hf.perm HS.o.1) x);have Ht:=qI (show cI W f m y from by
   obtain⟨⟨c0,f0⟩,⟨c1,f1⟩⟩:=hi.o;have hh:=He.block f (by omega);exact⟨⟨(World.cell?_of_block (a:=f.heap.size) hh).trans c0,(World.frozen?_of_block (a:=f.heap.size) hh).trans f0⟩,⟨(World.cell?_of_block (a:=⟨f,1,none⟩) hh).trans c1,(World.frozen?_of_block (a:=⟨f,1,none⟩) hh).trans f1⟩⟩)
  have Hy:=qI (BJ us i d pre x);have HW:=qI (GO (n:=cW us (aS i x).nm) C);have HZ:=qI Hf;have Hh:=qI Ha;have HT:=qI J;obtain⟨_,p0,p1,p2⟩:=H9;obtain⟨⟨t0,f0⟩,⟨t1,f1⟩⟩:=J;have Hw:=qI (GF h P (cW us (aS i x).nm) W C.1 C.2.1 HV.1 HV.2 (by omega) (by omega));unfold qv at Hy;generalize hgr:gV us i d pre=L at *;generalize cW us (aS i x).nm=M at *;generalize (aS i x).nm=j2 at *;generalize (aS i x).pr=j1 at *;clear H1 hP HV C Hf Ha He hgr Hz U Ho Hq Hp H3
  gi_wp2
  refine⟨trivial,(CallsIn.inRound l (callsIn_wide.2 Hw)).mono ?_⟩;rintro e Q ⟨rfl,Hk⟩;have H6:=qI ((GL Hk).from A);have Hj:=qI (Hh.o.then Hk);have V:=qI (HT.o.below Hk);have H4:=qI (Ht.o.below Hk);have Hx:=qI (show Boxed Q (f.heap.size+1) 3 (L.2:Int) from (Hk.block _ HZ.o.lt).trans HZ);obtain⟨⟨s0,z0⟩,⟨s1,z1⟩⟩:=HT.o.below Hk;clear Hk Hw t0 t1 f0 f1 p0 p1 p2 hO hB HT HZ;generalize h+M / 1073741824+(P+M % 1073741824) / 1073741824=j at *;generalize (P+M) % 1073741824=q at *;have HY:=qI ((V.o.set0 j).set1 q);have hy:=qI (zO (zO H4 (f.heap.size+1+1) 0 (j:Int) (by omega)) (f.heap.size+1+1) 1 (q:Int) (by omega));have Hl:=qI (GN (GN Hx (f.heap.size+1+1) 0 (j:Int) (by omega)) (f.heap.size+1+1) 1 (q:Int) (by omega));have Hi:=qI ((Hj.o.set (f.heap.size+1+1) 0 (j:Int) (.inr rfl)).set (f.heap.size+1+1) 1 (q:Int) (.inr rfl));have hn:=qI ((H6.o.trans ((KeepsOthers.setCell Q ⟨f.heap.size+1+1,0,none⟩ (j:Int)).from _)).trans ((KeepsOthers.setCell (Q.setCell ⟨f.heap.size+1+1,0,none⟩ (j:Int)) ⟨f.heap.size+1+1,1,none⟩ (q:Int)).from _));have Jx:=(V.o.set0 j).2.2;have h8:=(V.o.set0 j).2.1;obtain⟨⟨q0,_⟩,⟨q1,_⟩⟩:=HY.o;obtain⟨⟨r0,_⟩,⟨r1,_⟩⟩:=hy.o;have HC:=qI (Wj j q m y ((Q.setCell ⟨f.heap.size+1+1,0,none⟩ (j:Int)).setCell ⟨f.heap.size+1+1,1,none⟩ (q:Int)));have Y:=qI (Wi HW hw);clear Ht Hj H6 V H4 Hx hw
  gi_wp2
  refine⟨trivial,(CallsIn.inRound l (callsIn_wide.2 HC)).mono ?_⟩;clear s0 z0 s1 z1 Jx h8 q0 q1 r0 r1 HC hy;generalize (Q.setCell ⟨f.heap.size+1+1,0,none⟩ (j:Int)).setCell ⟨f.heap.size+1+1,1,none⟩ (q:Int)=W6 at *;rintro e w7 ⟨rfl,Hu⟩;have hv:=qI (hn.o.trans ((GL Hu).from _));have Hb:=qI (Hi.o.then Hu);have ho:=qI (HY.o.below Hu);have Hg:Boxed w7 (f.heap.size+1) 3 (L.2:Int):=(Hu.block _ Hl.o.lt).trans Hl;have Hs:=qI Hg;have hZ:=Hg.cell;have h4:=Hg.frozen;have ha:=qI (λW' (Ha:But (f.heap.size+1) (f.heap.size+1+1) A W')=>(show KpB b (f.heap.size+1+1+1) W W' from
   ⟨(Ha.block b H7 S.1 S.2).trans (Hh.o.block b H7 S.1 S.2).symm,(Ha.block (f.heap.size+1+1+1) (by omega) (by omega) (by omega)).trans (Hh.o.block (f.heap.size+1+1+1) (by omega) (by omega) (by omega)).symm⟩))
  clear Hu Hg hn Hi HY Hl Hh
  by_cases F:L.1+M<=d
  ·have hle:=Y.o.2 (by omega);have Hc:=qI (show gV us i d (pre++[x])=(L.1+M,x) by rw[Hy.o,if_pos F]);clear Y Hy F;generalize dO (Lib.compareInt j m) (Lib.compareInt q y)=cc at *
   gi_wp2
   exact⟨hv.o.trans ((KeepsOthers.setCell _ _ _).from _),ha.o _ (Hb.o.set (f.heap.size+1) 0 _ (.inl rfl)),⟨j,q,zO ho _ _ _ (by omega),by rw[Hc.o];exact HW.o⟩,by rw[Hc.o];exact Hs.o.set _,Hb.o.set (f.heap.size+1) 0 _ (.inl rfl)⟩
  ·have h5:0<dO (Lib.compareInt j m) (Lib.compareInt q y):=by
    refine Int.not_le.1 λhc=>F ?_
    have:=Y.o.1 hc
    omega
   have Hc:=qI (show gV us i d (pre++[x])=(L.1+M,L.2) by rw[Hy.o,if_neg F]);clear Y Hy F;generalize dO (Lib.compareInt j m) (Lib.compareInt q y)=cc at *
   gi_wp2
   exact⟨hv,ha.o _ Hb,⟨j,q,ho,by rw[Hc.o];exact HW.o⟩,by rw[Hc.o];exact Hs.o,Hb⟩
 case done=>
  rintro D xs W hD rfl ⟨_,Hf,Ha⟩ H;have hA:=qI (KH us i d);have G:=hA.o.hi;have He:=Ha.below (K:=f.heap.size+1) (lR) (by omega) (by omega);have HR:=R.o.trans (He.mono (by omega));have hp:=hj.t HR;have hR:=qI (Wy (hx.o.below HR) G);have hc:=Hf.cell;have HK:=qI H;have hY:=hD;generalize hgg:(gV us i d (iV i.length i.length)).2=g at *;have HN:=qI (V8 hR (by grind));clear Hf Ha He HR Ho U Hp Hq H3 hgg hi HK
  gi_wp2
  refine⟨trivial,(callsIn_wide.2 HN).mono ?_⟩;rintro e w9 ⟨⟨v9,rfl,H5⟩,He⟩;have HX:=(He.block D (gS H).1).trans H;have hS:=qI H5.read;have hE:=hp.t He;have hI:w<=D:=by omega
  clear H5 He H HN hc
  gi_wp2
  refine⟨by simp,.inl ⟨_,_,rfl,run_takeDeferred HX,?_⟩⟩;exact⟨_,results_tmp rfl _ _ _,⟨_,i,g,rfl,Wz hS HX rfl,HS,hA⟩,hE.o.trans (belowK_b (w:=w) (lR) _ D _ _ hI HX rfl rfl)⟩
 case stop=>exact λ_ _ _ _ _ _ h _=>h.elim
