import Derived.Test.YtjlblidnfebmiaaGreatDoorF24
import Derived.Test.YtjlblidnfebmiaaGreatDoorF21
set_option maxRecDepth 100000
set_option maxHeartbeats 16000000
open Go Go.RowKit Go.Shelf
attribute [local go_sem] Oper.semAt_some
open Go.Proofs.Tryz
namespace Go.Proofs.YtjlblidnfebmiaaGreatDoor
variable{B n n0:Nat}{a b k nm:ByteArray}{d:Bool}{f:ByteArray->Option Int}{hs:List af}{l v:Int}{w w0:World}
section
open RowKit Go.Maps
theorem aU.notInt{n k:Sd}{v:Value}(h:aU w B n k v l d):∀(a:Array Value) (z:Nat × Nat),w.heap[B]?≠some (Obj.cells a 3 z):=λa z e=>by
 rw[show w.heap[B]?=_ from h] at e;cases e
theorem rF{b c f:Nat}{i:List RV}{k j:Sd}{o:Value}(h:gk w b c f)(m:bF w f n i)(hd:aU w c k j o l d):b≠c/\b≠f/\c≠f:=by
 obtain⟨p,g,Ha⟩:=m.isMap;refine⟨λe=>?_,λe=>?_,λe=>?_⟩
 ·subst e;have a:=h;unfold gk at a;rw[show w.heap[b]?=_ from hd] at a;cases a
 ·subst e;have a:=h;unfold gk at a;rw[Ha] at a;cases a
 ·subst e;have a:=hd;unfold aU at a;rw[Ha] at a;cases a
structure Tg (w w':World) (Bd Bm:Nat) (sn sk:Sd) (sv:Value) (n:Nat) (xs:List RV) (x:RV) (l:Int) (d:Bool) (f:Nat):Prop where
 disk:aU w' Bd sn sk sv (bx l d) (fV l d)
 o:bT Bd Bm w w'
 no:f≠0->bF w' Bm n xs
 yes:f=0->∃a c,bF w' Bm (n+1) ({ x with da:=a,dc:=c } :: xs)/\gP w' { x with da:=a,dc:=c }/\bm w' { x with da:=a,dc:=c }=bm w x
def pL (l:Int) (d has:Bool):Nat:=if cu l d≠0 then cu l d else if has=true then 5 else 0
theorem En(h:cu l d≠0):cu l d=11:=by grind[cu]
abbrev eA:=λ(x0:RV)=>(.cells #[x0.pod,x0.cont,.int .u64 x0.cpus,.slice x0.da x0.dn x0.dc] 129:Obj)
abbrev mX:=(.cells #[.string ⟨#[]⟩,.string ⟨#[]⟩,.int .u64 0,.slice none 0 0] 129:Obj)
theorem Th(i j g n:Nat)(z u:Sd)(v:Value)(m:List RV)(x:RV)(l:Int)(d:Bool)(w:World)(B:gk w i j g)(D:bF w g n m)(hd:aU w j z u v l d)(hl:-9223372036854775808<=l/\l<=9223372036854775807)(M:x.Short)(E:ce w x)(G:oB j x)(I:x.dn<=1000)(hn:n<1000) :
  Calls prog 102 #[i,.agg #[x.pod,x.cont,.int .u64 x.cpus,.slice x.da x.dn x.dc]] w λe w'=>e=.returned (aJ ((pL l d (m.any λy=>decide (y.pod=x.pod/\y.cont=x.cont)):Nat):Int))/\Tg w w' j g z u v n m x l d (pL l d (m.any λy=>decide (y.pod=x.pod/\y.cont=x.cont))):=by
 obtain⟨H5,hc,HP⟩:=rF B D hd;have Hj:=(Q0 w w).alloc (lR) (eA x);have Hv:=B.block (Hj.block i B.lt);obtain⟨c0,c1⟩:=Hv.cells;have HS:=qI (D.block (Hj.block g D.lt));have HQ:aU (w.alloc (eA x)) j z u v l d:=(Hj.block j hd.lt).trans hd;have Y:=qI (qO j z u v l d _ HQ hl);have HI:=qI (cd.made w x);obtain⟨Z,HT⟩:=E.below Hj λ_ _ _ h=>h;have HX:=qI Z;have T:=qI HT;have hj:=qI Hj;have Q:=qI Hv;have ho:=D.lt;have hr:=hd.lt;have hel:=B.lt;clear B D hd Hj Hv HQ Z HT
 go_enter func102,ntmps102
 go_wp2_with fail
 generalize hW1:w.alloc (eA x)=W1 at *;have HG:W1=w.heap.size+1:=by rw[<- hW1];simp
 clear hW1;refine Y.o.mono ?_;rintro e f ⟨rfl,H2,Hf⟩;have Hw:=qI H2;have N:=qI (bT.trans (bT.of_below hj.o) (bT.of_grown (B1:=j) (B2:=g) Hf.1 (.inl rfl)));have Hp:=qI (HS.o.block (Hf.1.block g (by omega) (by simpa using HP.symm)));have H:=Q.o.block (Hf.1.block i (by omega) (by simpa using H5));have hq:=qI H;obtain⟨g0,g1⟩:=H.cells;have Hz:cd f w x:=(Hf.1.block w (by omega) (by intro e;cases e;omega)).trans HI.o;have hp:=qI Hz;obtain⟨Hm,Hn⟩:=xV (w':=f) HX.o G (λb hb J=>Hf.1.block b J (by simpa using hb)) (Nat.le_of_eq Hf.2.symm);have H6:=qI Hm;have HF:=qI (Hn.trans T.o);have HD:f=w.heap.size+1:=by rw[Hf.2];exact HG
 obtain⟨r0,r1,r2,r3⟩:=Hz.cells;clear H2 Hf H Hz Y HS HI Q c0 c1 Hm Hn HX T
 by_cases o:cu l d=0
 ·have Hg:=qI (show pL l d (m.any λy=>decide (y.pod=x.pod/\y.cont=x.cont))=if (m.any λy=>decide (y.pod=x.pod/\y.cont=x.cont))=true then 5 else 0 from by unfold pL;rw[if_neg (by rw[o];decide)]);rw[o,show aJ ((0:Nat):Int)=.nilIface from rfl];obtain⟨y,Ht⟩:=Hp.o.look2 x.pod x.cont M.1 M.2;unfold jF at Ht;have Hh:=(Q0 f f).alloc (lR) (.cells #[x.pod,x.cont] 179);have F:=Hh.alloc Hh.size (mX);have X:=Hh.alloc Hh.size (eA y);have Hr:=Ht ((f.alloc (.cells #[x.pod,x.cont] 179)).drew) ((bB Hh).block g (by omega));have Hq:=Ht (((f.alloc (.cells #[x.pod,x.cont] 179)).alloc (mX)).drew) ((bB F).block g (by omega));have k1:=((bB Hh).cell (p:=⟨i,1,none⟩) (by show i<_;omega)).trans g1;have k2:=((bB F).cell (p:=⟨i,1,none⟩) (by show i<_;omega)).trans g1;have Ho:=qI (bB X);have L:=qI (show (((f.alloc (.cells #[x.pod,x.cont] 179)).alloc (mX)).drew).cell? f=some (.string x.pod)/\(((f.alloc (.cells #[x.pod,x.cont] 179)).alloc (mX)).drew).cell? ⟨f,1,none⟩=some (.string x.cont) from⟨by simp,by simp⟩);have Hy:=qI (show (((f.alloc (.cells #[x.pod,x.cont] 179)).alloc (eA y)).drew).cell? f=some (.string x.pod)/\(((f.alloc (.cells #[x.pod,x.cont] 179)).alloc (eA y)).drew).cell? ⟨f,1,none⟩=some (.string x.cont) from⟨by simp,by simp⟩);rw[HD] at L Hy;obtain⟨n0,n1⟩:=L.o;clear Hh F X Ht;unfold RV.val at Hr Hq
  rcases two (m.any λy=>decide (y.pod=x.pod/\y.cont=x.cont)) with s|s
  ·rw[s] at Hr Hq;have t:=qI s;clear s
   go_wp2_with fail
   go_region
   all_goals
    generalize ((f.alloc (.cells #[x.pod,x.cont] 179)).alloc (eA y)).drew=O at *
    go_wp2
    go_ret;exact⟨by rw[Hg.o,if_pos t.o];rfl,⟨(Ho.o.block j (by omega)).trans Hw.o,N.o.trans (bT.of_below Ho.o),λ_=>Hp.o.block (Ho.o.block g (by omega)),λr=>by rw[Hg.o,if_pos t.o] at r;cases r⟩⟩
  ·rw[s] at Hr Hq;have t:=qI s;clear s
   go_wp2_with fail
   go_region
   all_goals
    have Hi:=bB Ho.o;have Hc:=qI (show (((f.alloc (.cells #[x.pod,x.cont] 179)).alloc (eA y)).drew.drew.cell? ⟨i,1,none⟩=some (.map g)/\(((f.alloc (.cells #[x.pod,x.cont] 179)).alloc (eA y)).drew.drew.cell? (w.heap.size+1:Nat)=some (.string x.pod)/\((f.alloc (.cells #[x.pod,x.cont] 179)).alloc (eA y)).drew.drew.cell? ⟨w.heap.size+1,1,none⟩=some (.string x.cont))/\(((f.alloc (.cells #[x.pod,x.cont] 179)).alloc (eA y)).drew.drew.cell? w=some (.string x.pod)/\((f.alloc (.cells #[x.pod,x.cont] 179)).alloc (eA y)).drew.drew.cell? ⟨w,1,none⟩=some (.string x.cont)/\((f.alloc (.cells #[x.pod,x.cont] 179)).alloc (eA y)).drew.drew.cell? ⟨w,2,none⟩=some (.int .u64 x.cpus)/\((f.alloc (.cells #[x.pod,x.cont] 179)).alloc (eA y)).drew.drew.cell? ⟨w,3,none⟩=some (.slice x.da x.dn x.dc))) from⟨(Hi.cell (p:=⟨i,1,none⟩) (by show i<_;omega)).trans g1,Hy.o,⟨(Hi.cell (p:=w.heap.size) (by show w.heap.size<_;omega)).trans r0,(Hi.cell (p:=⟨w,1,none⟩) (by show w.heap.size<_;omega)).trans r1,(Hi.cell (p:=⟨w,2,none⟩) (by show w.heap.size<_;omega)).trans r2,(Hi.cell (p:=⟨w,3,none⟩) (by show w.heap.size<_;omega)).trans r3⟩⟩);have Hs:=qI Hi;have Hx:w.heap.size+1+1<=((f.alloc (.cells #[x.pod,x.cont] 179)).alloc (eA y)).drew.heap.size:=by simp[World.drew];omega
    clear Hi Hr Hq k1 k2 n0 n1 L Hy;generalize ((f.alloc (.cells #[x.pod,x.cont] 179)).alloc (eA y)).drew=O at *;have Hk:w+1+1<=O.drew.heap.size:=Hx;obtain⟨HU,Hl⟩:=H6.o.below Hs.o λ_ _ _ h=>h;have Hu:=qI (Hl.trans HF.o);have hg:=qI (Em x O.drew HU I);have H8:=qI (Hp.o.block (Hs.o.block g (by omega)));clear HU Hl
    go_wp2_with fail
    refine wp_region_held_drew (S:=(λw'=>w'.cell? ⟨i,1,none⟩=some (.map g)/\(w'.cell? (w.heap.size+1:Nat)=some (.string x.pod)/\w'.cell? ⟨w.heap.size+1,1,none⟩=some (.string x.cont))/\(w'.cell? w=some (.string x.pod)/\w'.cell? ⟨w,1,none⟩=some (.string x.cont)/\w'.cell? ⟨w,2,none⟩=some (.int .u64 x.cpus)/\w'.cell? ⟨w,3,none⟩=some (.slice x.da x.dn x.dc)))) (by kernel_rfl) Hc.o λhHeld=>?_;refine tk 0 ?_;refine tk 1 ?_;refine tk 2 ?_;refine tk 3 ?_;refine tk 4 ?_;refine tk 5 ?_;refine rd 6 λK A=>?_;go_simp
    go_wp2_with fail
    refine hg.o.mono ?_;rintro e q ⟨a',P,rfl,HV,HW,_,Hb⟩;have He:=qI (show (q.cell? ⟨i,1,none⟩=some (.map g)/\(q.cell? (w.heap.size+1:Nat)=some (.string x.pod)/\q.cell? ⟨w.heap.size+1,1,none⟩=some (.string x.cont))/\(q.cell? w=some (.string x.pod)/\q.cell? ⟨w,1,none⟩=some (.string x.cont)/\q.cell? ⟨w,2,none⟩=some (.int .u64 x.cpus)/\q.cell? ⟨w,3,none⟩=some (.slice x.da x.dn x.dc))) from⟨(Hb.cell (p:=⟨i,1,none⟩) (by show i<_;omega)).trans Hc.o.1,⟨(Hb.cell (p:=⟨w.heap.size+1,0,none⟩) (by show w.heap.size+1<_;omega)).trans Hc.o.2.1.1,(Hb.cell (p:=⟨w.heap.size+1,1,none⟩) (by show w.heap.size+1<_;omega)).trans Hc.o.2.1.2⟩,⟨(Hb.cell (p:=w.heap.size) (by show w.heap.size<_;omega)).trans Hc.o.2.2.1,(Hb.cell (p:=⟨w,1,none⟩) (by show w.heap.size<_;omega)).trans Hc.o.2.2.2.1,(Hb.cell (p:=⟨w,2,none⟩) (by show w.heap.size<_;omega)).trans Hc.o.2.2.2.2.1,(Hb.cell (p:=⟨w,3,none⟩) (by show w.heap.size<_;omega)).trans Hc.o.2.2.2.2.2⟩⟩);have V:=qI (H8.o.block (Hb.block g (by omega)));have ha:=qI HV;have H9:=qI (HW.trans Hu.o);have HY:=qI (Hs.o.trans (Hb.mono Hs.o.size));have hf:w+1+1<=q.heap.size:=Q5 Hk Hb.size;clear HV HW Hb
    go_wp2_with fail
    refine A.o _ _ He.o λhHeld=>?_;clear A K;refine rd 7 λK A=>?_;rw[if_pos (by rfl)];refine Tf _ _ _ _ rfl g n m { x with da:=a',dc:=P } rfl rfl rfl V.o M hn t.o ?_;intro k W Ha H7;have hi:=qI (show (k.cell? ⟨i,1,none⟩=some (.map g)/\(k.cell? (w.heap.size+1:Nat)=some (.string x.pod)/\k.cell? ⟨w.heap.size+1,1,none⟩=some (.string x.cont))/\(k.cell? w=some (.string x.pod)/\k.cell? ⟨w,1,none⟩=some (.string x.cont)/\k.cell? ⟨w,2,none⟩=some (.int .u64 x.cpus)/\k.cell? ⟨w,3,none⟩=some (.slice x.da x.dn x.dc))) from⟨(oC Ha ⟨i,1,none⟩ (by show i<_;omega) (by simpa using hc)).trans He.o.1,⟨(oC Ha (w.heap.size+1:Nat) (by show w.heap.size+1<_;omega) (λe=>by have C:w+1=g:=Ql e;omega)).trans He.o.2.1.1,(oC Ha ⟨w.heap.size+1,1,none⟩ (by show w.heap.size+1<_;omega) (λe=>by have C:w+1=g:=Ql e;omega)).trans He.o.2.1.2⟩,⟨(oC Ha w (by show w.heap.size<_;omega) (λe=>by have C:w=g:=Ql e;omega)).trans He.o.2.2.1,(oC Ha ⟨w,1,none⟩ (by show w.heap.size<_;omega) (λe=>by have C:w=g:=Ql e;omega)).trans He.o.2.2.2.1,(oC Ha ⟨w,2,none⟩ (by show w.heap.size<_;omega) (λe=>by have C:w=g:=Ql e;omega)).trans He.o.2.2.2.2.1,(oC Ha ⟨w,3,none⟩ (by show w.heap.size<_;omega) (λe=>by have C:w=g:=Ql e;omega)).trans He.o.2.2.2.2.2⟩⟩);obtain⟨R,U⟩:=ha.o.kept (dY.grown Ha V.o.notInt);have HC:=qI (show ∃a c,bF k g (n+1) ({ x with da:=a,dc:=c } :: m)/\gP k { x with da:=a,dc:=c }/\bm k { x with da:=a,dc:=c }=bm w x from⟨a',P,W,R,U.trans H9.o⟩);have H4:=qI (show aU k j z u v (bx l d) (fV l d) from (Ha.block j (by omega) λe=>HP (Ql e)).trans ((HY.o.block j (by omega)).trans Hw.o));have hk:=qI ((N.o.trans (bT.of_below HY.o)).trans (bT.of_grown Ha (.inr rfl)));clear W Ha R U;refine A.o _ _ hi.o λhHeld=>?_;clear A K;refine Qn (by kernel_rfl) ?_ _
    go_wp2
    go_ret;exact⟨by rw[Hg.o,if_neg (by rw[t.o];decide)];rfl,⟨H4.o,hk.o,λr=>absurd (by rw[Hg.o,if_neg (by rw[t.o];decide)]) r,λ_=>HC.o⟩⟩
 ·have H3:=En o;have Hg:=qI (show pL l d (m.any λy=>decide (y.pod=x.pod/\y.cont=x.cont))=11 from by unfold pL;rw[if_pos o];exact H3);rw[H3,show aJ ((11:Nat):Int)=.iface 108 (11:Int) from rfl]
  go_wp2
  go_ret;exact⟨by rw[Hg.o];rfl,⟨Hw.o,N.o,λ_=>Hp.o,λr=>by rw[Hg.o] at r;cases r⟩⟩
end
section
open RowKit Go.ChangeMaps Go.Maps Go.WideShapes
def StrKeys (D:DataW Unit):Prop:=∃es,D=.map es/\∀p∈es,∃s:ByteArray,p.1=Lit.string s.data.toList
def il (w:World) (B n:Nat) (f:ByteArray->Option Int):Prop:=
 ∃D:DataW Unit,w.ownsMap prog 9 (plainElem prog 3) B n D/\StrKeys D/\∀s:ByteArray,D.atKey (.string s.data.toList) (.lit (.int .i64 0))=.lit (.int .i64 ((f s).getD 0))/\Go.Maps.has D (.string s.data.toList)=(f s).isSome
theorem il.block{w':World}(h:il w B n f)(c:w'.heap[B]?=w.heap[B]?):il w' B n f:=by
 obtain⟨D,⟨e,a,d,r⟩,b⟩:=h;exact⟨D,⟨e,a,c.trans d,r⟩,b⟩
theorem il.lt(h:il w B n f):B<w.heap.size:=by
 obtain⟨D,a,_⟩:=h;exact a.lt
theorem il.alloc(h:il w B n f)(o:Obj):il (w.alloc o) B n f:=h.block (Below.heap_alloc _ _ _ h.lt)
theorem il.made(w:World):il (w.alloc (.map #[] 0)) w.heap.size 0 (λ_=>none):=
 ⟨.map [],World.ownsMap_made w _ _ _,⟨[],rfl,λ_ a=>(List.not_mem_nil a).elim⟩,λ_=>⟨rfl,rfl⟩⟩
theorem Eo{D:DataW Unit}(c:StrKeys D):StrKeys (D.put (.string k.data.toList) (.lit (.int .i64 v))):=by
 obtain⟨b,rfl,Ha⟩:=c;refine⟨putKey (.string k.data.toList) (.lit (.int .i64 v)) b,rfl,λp a=>?_⟩;unfold putKey at a
 rcases List.mem_cons.1 ((insert_perm _ _).mem_iff.1 a) with rfl|a
 ·exact⟨k,rfl⟩
 ·exact Ha p (List.mem_filter.1 a).1
theorem Ep{D:DataW Unit}(a:w0.ownsMap prog 9 (plainElem prog 3) B n0 D)(b:∀s:ByteArray,D.atKey (.string s.data.toList) (.lit (.int .i64 0))=.lit (.int .i64 ((f s).getD 0))/\Go.Maps.has D (.string s.data.toList)=(f s).isSome)(s:ByteArray) :
  (D.put (.string k.data.toList) (.lit (.int .i64 v))).atKey (.string s.data.toList) (.lit (.int .i64 0))=.lit (.int .i64 ((dW f k (some v) s).getD 0))/\Go.Maps.has (D.put (.string k.data.toList) (.lit (.int .i64 v))) (.string s.data.toList)=(dW f k (some v) s).isSome:=by
 unfold dW
 by_cases e:s=k
 ·subst e;have Ha:WideAt.IsKeyLit (Lit.string s.data.toList):=trivial;rw[Go.Maps.atKey_put_same a.isMap Ha,Go.Maps.has_put_same a.isMap Ha,if_pos rfl];exact⟨rfl,rfl⟩
 ·have Hb:(Lit.string s.data.toList)≠(Lit.string k.data.toList):=by
   intro h;injection h with h
   exact e (xN h)
  rw[Go.Maps.atKey_put_other Hb,Go.Maps.has_put_other Hb,if_neg e];exact b s
theorem Er{D:DataW Unit}(c:w0.ownsMap prog 9 (plainElem prog 3) B n0 D)(d:StrKeys D)(a:∀s:ByteArray,D.atKey (.string s.data.toList) (.lit (.int .i64 0))=.lit (.int .i64 ((f s).getD 0))/\Go.Maps.has D (.string s.data.toList)=(f s).isSome)
  (b:w.ownsMap prog 9 (plainElem prog 3) B n (D.put (.string k.data.toList) (.lit (.int .i64 v)))):il w B n (dW f k (some v)):=⟨_,b,Eo d,Ep c a⟩
theorem Ti{D:DataW Unit}(i:w0.ownsMap prog 9 (plainElem prog 3) B n0 D)(c:StrKeys D)(d:∀s:ByteArray,D.atKey (.string s.data.toList) (.lit (.int .i64 0))=.lit (.int .i64 ((f s).getD 0))/\Go.Maps.has D (.string s.data.toList)=(f s).isSome)
  (b:w.ownsMap prog 9 (plainElem prog 3) B n (D.del (.string k.data.toList))):il w B n (dW f k none):=by
 refine⟨_,b,?_,λs=>?_⟩
 ·obtain⟨g,rfl,Hb⟩:=c;refine⟨delKey (.string k.data.toList) g,rfl,λp a=>?_⟩;unfold delKey at a;exact Hb p (List.mem_filter.1 a).1
 ·unfold dW
  by_cases e:s=k
  ·subst e;have Hc:WideAt.IsKeyLit (Lit.string s.data.toList):=trivial;rw[Go.Maps.atKey_del_same,Go.Maps.has_del_same,if_pos rfl];exact⟨rfl,rfl⟩
  ·have Ha:(Lit.string s.data.toList)≠(Lit.string k.data.toList):=by
    intro h;injection h with h
    exact e (xN h)
   rw[Go.Maps.atKey_del_other Ha,Go.Maps.has_del_other Ha,if_neg e];exact d s
theorem Tj{f:ByteArray->Option Int}{D:DataW Unit}(c:StrKeys D)(b:∀s:ByteArray,D.atKey (.string s.data.toList) (.lit (.int .i64 0))=.lit (.int .i64 ((f s).getD 0))/\Go.Maps.has D (.string s.data.toList)=(f s).isSome):Go.Maps.size D=0↔∀k,f k=none:=by
 obtain⟨d,rfl,Ha⟩:=c;rw[Go.Maps.size_eq,List.length_eq_zero_iff];constructor
 ·rintro rfl k
  have:=(b k).2
  rw[Go.Maps.has_eq] at this;cases hf:f k with
  | none=>rfl
  | some v=>rw[hf] at this;cases this
 ·intro h;cases d with
  | nil=>rfl
  | cons p l=>
   obtain⟨s,hs⟩:=Ha p (by simp);have a:=(b s).2;rw[h s,Go.Maps.has_eq,List.any_cons,hs,WideAt.sameKey_self (show WideAt.IsKeyLit (Lit.string s.data.toList) from trivial)] at a;cases a
end
abbrev jH:=λ(x0:ByteArray) (x1 x2 x3 x4:Int) (x5:Option Addr) (x6 x7:Nat)=>(.cells #[x0,x1,x2,x3,x4,.slice x5 x6 x7] 65:Obj)
abbrev rG:=(.cells #[.string ⟨#[]⟩,(0:Int),.slice none 0 0] 49:Obj)
theorem Es(nm:ByteArray)(pr:Int)(cs:List aB)(v:Value)(w:World)(h:aQ w v cs)(hl:cs.length<=1000)(A:∀k,k<cs.length->(ae cs k).ds.length<=1000):Calls prog 29 #[.agg #[nm,pr,v]] w λe w'=>∃d c,e=.returned (.agg #[nm,pr,.slice d cs.length c])/\aQ (fresh w w') (.slice d cs.length c) cs/\Below w w w':=by
 have H1:=qI A;have Y:=qI (((Q0 w w).alloc (lR) (.cells #[nm,pr,v] 49)).alloc (by simp) (rG));have L:=qI (RJ v cs _ w h (aZ.of_below Y.o) hl);obtain⟨ca,cc,rfl,HR,_⟩:=h;clear HR A;have sz:((w.alloc (.cells #[nm,pr,.slice ca cs.length cc] 49)).alloc (rG)).heap.size=w.heap.size+2:=by simp
 have H6:=qI (cC (bd w (.cells #[nm,pr,.slice ca cs.length cc] 49) rfl) (rG));have HV:=qI (bd (w.alloc (.cells #[nm,pr,.slice ca cs.length cc] 49)) (rG) (n:=w.heap.size+1) (by simp))
 go_enter func29,ntmps29
 go_wp2_with fail
 generalize ((w.alloc (.cells #[nm,pr,.slice ca cs.length cc] 49)).alloc (rG))=U at *;refine L.o.mono ?_;rintro e s ⟨d,c,rfl,Hm,Z,He⟩;have Ho:=qI Hm;obtain⟨g,dv,R⟩:∃(g:Nat) (dv:Nat->Value),0<cs.length->d=some ⟨g,0,none⟩/\eH s U g 6 cs.length (λk=>di (ae cs k) (dv k))/\∀k,k<cs.length->bv w (dv k) (ae cs k).ds:=by
  by_cases x:0<cs.length
  ·obtain⟨g,dv,hh⟩:=Z x;exact⟨g,dv,λ_=>hh⟩
  ·exact⟨0,λ_=>.nilIface,λh=>absurd h x⟩
 have Hs:=(He.block w (by omega)).trans H6.o;have H:=(He.block (w.heap.size+1) (by omega)).trans HV.o;have z2:cl s w (2) (.slice ca cs.length cc):=ad Hs 2;have G:=bQ Hs 2;have N:Hu ((s.setCell ⟨w,2,none⟩ (.slice d cs.length c)).heap[w.heap.size]?=some (.cells #[nm,pr,.slice d cs.length c] 49 (0,0))):=aV Hs 2 _;have H2:Hu ((s.setCell ⟨w,2,none⟩ (.slice d cs.length c)).heap[w.heap.size+1]?=some (.cells #[.string ⟨#[]⟩,(0:Int),.slice none 0 0] 49 (0,0))):=(set_other (by omega)).trans H;have V:=qI ((Y.o.trans (He.mono (by omega))).setCell (p:=⟨w,2,none⟩) (lR) (.slice d cs.length c));have D:Hu (0<cs.length->d=some ⟨g,0,none⟩/\eH (s.setCell ⟨w,2,none⟩ (.slice d cs.length c)) U g 6 cs.length (λk=>di (ae cs k) (dv k))/\∀k,k<cs.length->bv w (dv k) (ae cs k).ds):=λx=>by
  obtain⟨q1,Q,q3⟩:=R x;exact⟨q1,Q.keep (set_other (by have:=Q.base;omega)) (by simp),q3⟩
 have hc:w.heap.size+2<=(s.setCell ⟨w,2,none⟩ (.slice d cs.length c)).heap.size:=by have:=He.size;simp;omega
 have zz:cl (s.setCell ⟨w,2,none⟩ (.slice d cs.length c)) w (2) (.slice d cs.length c):=ad N.o 2;have HW:=qI He;have hf:Hu (∀j,j≠w.heap.size->(s.setCell ⟨w,2,none⟩ (.slice d cs.length c)).heap[j]?=s.heap[j]?):=λj t=>set_other t
 clear Hm Z R He L Hs H
 go_wp2_with fail
 generalize hW2:s.setCell ⟨w,2,none⟩ (.slice d cs.length c)=J at *;clear hW2 z2 G
 go_loopw [12,3] (λi i3 wr=>∃(k:Nat) (y:Nat->Value),k<=cs.length/\i=.int .i64 k/\Apart (λj=>U.heap.size<=j) J wr/\Hu (0<cs.length->eH wr U g 6 cs.length (λj=>di (ae cs j) (y j)))/\Hu (∀j,j<k->bv (au (λb=>b<U.heap.size\/b=g) wr) (y j) (ae cs j).ds)/\Hu (∀j,k<=j->y j=dv j)) (λi _ _=>cs.length - (intOf i).toNat)
 case atStart=>exact⟨0,dv,by omega,rfl,Apart.refl _ _,λh=>(D.o h).2.1,λj t=>by omega,λj _=>rfl⟩
 case round=>
  obtain⟨k,y,hk,rfl,Ht,Hk,Hi,Hg⟩:=hrel;have Hz:=qI Ht;have hn:=Ht.size;have Hl:=(Ht.block w (by omega) (by omega)).trans N.o;have Hf:=(Ht.block (w.heap.size+1) (by omega) (by omega)).trans H2.o;have HY:=qI Hl;have H5:=qI Hf;have hm:Hu (Below U U wr->True):=λ_=>trivial
  by_cases r:k<cs.length
  ·obtain⟨rfl,_,Hy⟩:=D.o (by omega);have Hc:=Hk.o (by omega);have Hh:=λj t=>Hc.cell k r j t
   rw[Hg.o k (lR)] at Hh;have x0:cl wr g (k*6) (ae cs k).nm:=Hh 0 (by decide);have x1:cl wr g (k*6+1) ((ae cs k).am:Int):=Hh 1 (by decide);have x2:cl wr g (k*6+2) ((ae cs k).ab:Int):=Hh 2 (by decide);have x3:cl wr g (k*6+3) ((ae cs k).cm:Int):=Hh 3 (by decide);have x4:cl wr g (k*6+4) ((ae cs k).cb:Int):=Hh 4 (by decide);have x5:cl wr g (k*6+5) (dv k):=Hh 5 (by decide);have Hb:=Hy k r;obtain⟨l,f,T,_⟩:=id Hb;rw[T] at x5 Hb;have HX:=H1.o k r;have hp:=Hc.lt;have H9:=Hc.base;have HI:(k:Int)<(cs.length:Int):=by omega
   clear Hc Hy T Hl Hf Hh;generalize (ae cs k).nm=cn at *;generalize (ae cs k).am=c1 at *;generalize (ae cs k).ab=c2 at *;generalize (ae cs k).cm=c3 at *;generalize (ae cs k).cb=q at *;generalize hxs:(ae cs k).ds=ds at *;have HZ:=qI hxs;clear hxs;have he:(wr.alloc (jH cn c1 c2 c3 q l ds.length f)).heap.size=wr.heap.size+1:=by simp
   have HS:=qI (show cl (wr.alloc (jH cn c1 c2 c3 q l ds.length f)).drew w (2) (.slice g cs.length c)/\cl (wr.alloc (jH cn c1 c2 c3 q l ds.length f)).drew wr (5) (.slice l ds.length f) from⟨ad (W:=(wr.alloc (jH cn c1 c2 c3 q l ds.length f)).drew) (cC HY.o (jH cn c1 c2 c3 q l ds.length f)) 2,ad (W:=(wr.alloc (jH cn c1 c2 c3 q l ds.length f)).drew) (bd wr (jH cn c1 c2 c3 q l ds.length f) rfl) 5⟩);have Hw:Below wr wr (wr.alloc (jH cn c1 c2 c3 q l ds.length f)).drew:=bB ((Q0 wr wr).alloc (lR) (jH cn c1 c2 c3 q l ds.length f));have I:bv (wr.alloc (jH cn c1 c2 c3 q l ds.length f)).drew (.slice l ds.length f) ds:=by
    refine Hb.le ⟨by simp[World.drew];omega,λb o v e=>?_⟩;have H7:b<w.heap.size:=Q3 w ⟨b,o,none⟩ e;have e1:(wr.alloc (jH cn c1 c2 c3 q l ds.length f)).drew.heap[b]?=wr.heap[b]?:=Hw.block b (by omega);have e2:wr.heap[b]?=J.heap[b]?:=Hz.o.block b (by omega) (by omega);exact (World.cell?_of_block (a:=⟨b,o,none⟩) (e1.trans (e2.trans (V.o.block b H7)))).trans e
   have X:=qI (RH (.slice l ds.length f) ds (wr.alloc (jH cn c1 c2 c3 q l ds.length f)).drew I HX);have P:=qI Hw;clear I Hw Hb
   go_wp2_with fail
   refine wp_region_held_drew (S:=(λw'=>cl w' w (2) (.slice g cs.length c)/\cl w' wr (5) (.slice l ds.length f))) (by kernel_rfl) HS.o λE=>?_;refine tk 0 ?_;refine tk 1 ?_;refine tk 2 ?_;refine tk 3 ?_;refine tk 4 ?_;refine rd 5 λK z=>?_;go_simp
   go_wp2_with fail
   refine X.o.mono ?_;rintro e m ⟨u,nc,rfl,O,Hn⟩;have C:Below wr wr m:=P.o.trans (Hn.mono P.o.size);have ho:wr+1<=m.heap.size:=by have:=Hn.size;simp[World.drew] at this;omega
   have Hv:=qI (show cl m w (2) (.slice g cs.length c)/\cl m wr (5) (.slice l ds.length f) from⟨(Hn.cell (p:=⟨w,2,none⟩) (by simp[World.drew];omega)).trans HS.o.1,(Hn.cell (p:=⟨wr,5,none⟩) (by simp[World.drew])).trans HS.o.2⟩);have Ha:=(Hk.o (by omega)).below C;have y5:cl m g (k*6+5) (y k):=Ha.cell k r 5 (by decide);have f5:=Ha.free (k*6+5);have H3:=qI Ha;have M:=qI C;have H8:=qI O;clear O Hn C Ha X
   go_wp2_with fail
   refine z.o _ _ Hv.o λE=>?_;clear z K;refine tk 6 ?_;refine tk 7 ?_;have Hr:Hu (∀b,b≠g->(m.setCell ⟨g,k*6+5,none⟩ (.slice u ds.length nc)).heap[b]?=m.heap[b]?):=λb hb=>set_other hb
   have Hq:(m.setCell ⟨g,k*6+5,none⟩ (.slice u ds.length nc)).heap.size=m.heap.size:=by simp
   have HQ:=qI ((Apart.of_below (K:=λj=>U.heap.size<=j) M.o).trans (Apart.setCell (K:=λj=>U.heap.size<=j) H9 m (k*6+5) (.slice u ds.length nc)));have HU:=qI (H3.o.set k 5 r (by decide) (.slice u ds.length nc) (λj=>di (ae cs j) (if j=k then .slice u ds.length nc else y j)) (λi _ hi=>by simp[hi]) (λi hi=>by
    match i,hi with
    | 0,_=>simp[di]
    | 1,_=>simp[di]
    | 2,_=>simp[di]
    | 3,_=>simp[di]
    | 4,_=>simp[di]
    | 5,_=>simp[di]) rfl)
   have HT:=qI (show cl (m.setCell ⟨g,k*6+5,none⟩ (.slice u ds.length nc)) w (2) (.slice g cs.length c)/\cl (m.setCell ⟨g,k*6+5,none⟩ (.slice u ds.length nc)) wr (5) (.slice l ds.length f) from⟨(World.cell?_of_block (a:=⟨w,2,none⟩) (Hr.o w (by omega))).trans Hv.o.1,(World.cell?_of_block (a:=⟨wr,5,none⟩) (Hr.o wr (by omega))).trans Hv.o.2⟩);refine rd 8 λK z=>?_;go_simp;refine z.o _ _ HT.o λE=>?_;clear z K;generalize m.setCell ⟨g,k*6+5,none⟩ (.slice u ds.length nc)=W5 at *;refine Qn (by kernel_rfl) ?_ _;clear E
   go_wp2
   go_roundw
   case rel=>
    refine⟨k+1,λj=>if j=k then .slice u ds.length nc else y j,by omega,by go_num,Hz.o.trans HQ.o,λ_=>HU.o,λj t=>?_,λj t=>?_⟩
    ·by_cases B:j=k
     ·subst B;dsimp only;rw[if_pos rfl,HZ.o];refine H8.o.le (bE (λb He Hp=>?_) (by rw[Hq];exact lR));have Hp:¬ b<wr.heap.size+1:=by simpa[World.drew] using Hp
      exact⟨by omega,Hr.o b (by omega)⟩
     ·dsimp only;rw[if_neg B];refine (Hi.o j (by omega)).le (bE (λb He Hp=>⟨Hp,?_⟩) (by rw[Hq];omega));rw[Hr.o b (by omega)];exact M.o.block b He
    ·dsimp only;rw[if_neg (by omega)];exact Hg.o j (by omega)
   case measure=>simp[intOf];omega
  ·have H0:k=cs.length:=by omega
   subst H0;have Hx:Hu (aQ (fresh U wr) (.slice d cs.length c) cs):=by
    unfold Hu
    by_cases x:0<cs.length
    ·obtain⟨ha,_,Hy⟩:=D.o x;rw[ha];exact (RE (Hk.o x) rfl Ho.o λj t=>(Hi.o j t).le (bE (λb _ Hp=>⟨by omega,rfl⟩) (lR)))
    ·exact⟨d,c,rfl,Ho.o,λh=>absurd h x⟩
   obtain⟨u0,u1,u2⟩:cl wr w (0) nm/\cl wr w (1) pr/\cl wr w (2) (.slice d cs.length c):=⟨ad Hl 0,ad Hl 1,ad Hl 2⟩;obtain⟨v0,v1,v2⟩:cl wr (w.heap.size+1) (0) (.string ⟨#[]⟩)/\cl wr (w.heap.size+1) (1) (0:Int)/\cl wr (w.heap.size+1) (2) (.slice none 0 0):=⟨ad Hf 0,ad Hf 1,ad Hf 2⟩;have f0:=bQ Hf 0;have f1:=bQ Hf 1;have f2:=bQ Hf 2;have Hj:=qI (aV (aV (aV H5.o 0 nm) 1 pr) 2 (.slice d cs.length c));have HP:=qI ((((Hz.o.below V.o (lR) (λj t=>by omega)).setCell (p:=⟨w.heap.size+1,0,none⟩) (Nat.le_succ _) nm).setCell (p:=⟨w.heap.size+1,1,none⟩) (Nat.le_succ _) pr).setCell (p:=⟨w.heap.size+1,2,none⟩) (Nat.le_succ _) (.slice d cs.length c));have H4:Hu (aQ (fresh w (((wr.setCell (w.heap.size+1:Nat) nm).setCell ⟨w.heap.size+1,1,none⟩ pr).setCell ⟨w.heap.size+1,2,none⟩ (.slice d cs.length c))) (.slice d cs.length c) cs):=Hx.o.le (pE (λj h1 _=>(set_other (by omega)).trans ((set_other (by omega)).trans (set_other (by omega)))) (by simp) (by omega));clear Hl Hf
   go_wp2_with fail
   generalize ((wr.setCell (w.heap.size+1:Nat) nm).setCell ⟨w.heap.size+1,1,none⟩ pr).setCell ⟨w.heap.size+1,2,none⟩ (.slice d cs.length c)=F at *;(try simp only[Exit.inBlock,Exit.then]);refine bodyPost_ret (v:=.agg #[nm,pr,.slice d cs.length c]) ?_ rfl ⟨d,c,rfl,H4.o,HP.o⟩;have r0:cl F (w.heap.size+1) (0) nm:=ad Hj.o 0;have r1:cl F (w.heap.size+1) (1) pr:=ad Hj.o 1;have r2:cl F (w.heap.size+1) (2) (.slice d cs.length c):=ad Hj.o 2;rw[tn rfl];clear u0 u1 u2 v0 v1 v2 f0 f1 f2;go_simp
theorem Tk(J Bd n G:Nat)(C:List RV)(w:World)(he:gk w J Bd n)(F:bF w n G C)(Z:C.length<=1000)(hd:∀x∈C,ce w x/\x.dn<=1000) :
  Calls prog 45 #[J] w λe w'=>(∃v f,e=.returned v/\mT w w' v f/\(∀y∈f,(ce w' y/\y.dn<=1000)/\kX w y)/\(f.map (aW w')).Perm (C.map (aW w))/\oA f)/\Below w w w':=by
 obtain⟨_,c1⟩:=he.cells;have Ht:=(Q0 w w).alloc (lR) (.cells #[.map n] 149);have Ho:=qI Ht;have T:=qI (SW w n G C (w.alloc (.cells #[.map n] 149)) (by simp) (F.block (Ht.block n F.lt)) Z);have I:=qI hd;have H7:(w.alloc (.cells #[.map n] 149)).heap.size=w.heap.size+1:=by simp
 clear F he hd Ht
 go_enter func45,ntmps45
 go_wp2_with fail
 refine (R8 _ _).mono ?_;rintro e w1 ⟨rfl,rfl⟩
 go_wp2_with fail
 generalize w.alloc (.cells #[.map n] 149)=W1 at *;refine T.o.mono ?_;rintro e Y ⟨⟨v,d,rfl,hq,Hj,L⟩,N⟩;have HT:=qI (Ho.o.trans (N.mono Ho.o.size));have H5:d.length<=1000:=by rw[Hj.length_eq];exact Z
 have H4:=qI (show ∀j,j<d.length->ce w (rv d j)/\(rv d j).dn<=1000 from λj q=>I.o _ (Hj.mem_iff.1 (xU q)));have HZ:=qI (Hj.map (aW w));have HQ:=qI L;obtain⟨a,c,rfl,H6,R⟩:=hq;obtain⟨g,hg,He⟩:∃g,(0<d.length->a=some ⟨g,0,none⟩/\w.heap.size<g/\g<Y.heap.size)/\mW Y g d:=by
  by_cases p:0<d.length
  ·obtain⟨g,ha,H1,Hg,hc⟩:=R p;exact⟨g,λ_=>⟨ha,by omega,Hg⟩,hc⟩
  ·exact⟨0,λh=>absurd h p,λk hk=>by omega⟩
 have D:=qI hg;have Hh:=qI He;clear hg He R Hj L N T Ho I c1
 go_wp2
 go_loopw [14] (λi wr=>∃(k:Nat) (f:List RV),k<=d.length/\i=.int .i64 k/\f.length=d.length/\Below w w wr/\mW wr g f/\(0<d.length->g<wr.heap.size)/\Hu (∀j,j<k->ce wr (rv f j)/\aW wr (rv f j)=aW w (rv d j)/\(rv f j).dn<=1000/\oB g (rv f j)/\kX w (rv f j))/\Hu (∀j,k<=j->j<d.length->rv f j=rv d j)) (λi _=>d.length - (intOf i).toNat)
 case atStart=>exact⟨0,d,by omega,rfl,rfl,HT.o,Hh.o,λh=>(D.o h).2.2,λj q=>by omega,λj _ _=>rfl⟩
 case round=>
  obtain⟨k,f,hk,rfl,Hl,r,A,Hk,Ha,Hb⟩:=hrel
  by_cases B:k<d.length
  ·obtain⟨rfl,H1,_⟩:=D.o (by omega);have Q:=Hk (by omega);have t:=qI r;have M:=qI A;have Hc:=A k (by omega);rw[Hb.o k (lR) B] at Hc;obtain⟨⟨c0,c1,c2,c3⟩,f0,f1,f2,f3⟩:=Hc;obtain⟨X,Hx⟩:=H4.o k B;obtain⟨S,V⟩:=X.below (r.alloc r.size (.cells #[(rv d k).pod,(rv d k).cont,.int .u64 (rv d k).cpus,.slice (rv d k).da (rv d k).dn (rv d k).dc] 129)) λ_ _ _ h=>h;have O:=qI (Em (rv d k) _ S Hx);have HH:=qI V;clear r A Hk S V X;generalize hx:rv d k=x at *;have HX:=qI hx;clear hx
   go_wp2_with fail
   refine O.o.mono ?_;rintro e o ⟨m,l,rfl,ho,H,Hn,P⟩;have Hz:=(Q0 wr wr).alloc (lR) (eA x);have Hi:=Hz.trans (P.mono (by simp));have HU:=qI Hi;have H3:=qI (t.o.trans (Hi.mono t.o.size));have Hr:=M.o.block (Hi.block g Q);have HW:=qI Hr;have HO:=qI ho.1;have Hv:=qI (H.trans HH.o);have HV:=qI (show kX w { x with da:=m,dc:=l } from λp=>by
    obtain⟨U,Hg,Hf⟩:=Hn p;refine⟨U,Hg,?_⟩
    simp at Hf
    have:=t.o.size
    omega)
   have Hy:=qI (show oB g { x with da:=m,dc:=l } from λp g' o' e=>by
    obtain⟨U,Hg,Hf⟩:=Hn p;rw[Hg] at e;cases e
    simp at Hf
    omega)
   have Hf:g<o.heap.size:=Q1 Q Hi.size;obtain⟨⟨d0,d1,d2,d3⟩,e0,e1,e2,e3⟩:=Hr k (by omega);clear ho H Hn P Hz Hi Hr O HH M c0 c1 c2 c3 f0 f1 f2 f3;generalize rv f k=z at *
   go_wp2_with fail
   have H2:=qI (HW.o.set (k:=k) (by omega) { x with da:=m,dc:=l });have HS:=qI (S7 H3.o (g:=g) (by omega) (k*4) { x with da:=m,dc:=l });have K:=qI λb (s:b≠g)=>S8 o g (k*4) { x with da:=m,dc:=l } b s;have Hp:(fv o g (k*4) { x with da:=m,dc:=l }).heap.size=o.heap.size:=by simp[fv]
   have Hw:=qI (show ∀j,j<k+1->ce (fv o g (k*4) { x with da:=m,dc:=l }) (rv (f.set k { x with da:=m,dc:=l }) j)/\aW (fv o g (k*4) { x with da:=m,dc:=l }) (rv (f.set k { x with da:=m,dc:=l }) j)=aW w (rv d j)/\(rv (f.set k { x with da:=m,dc:=l }) j).dn<=1000/\oB g (rv (f.set k { x with da:=m,dc:=l }) j)/\kX w (rv (f.set k { x with da:=m,dc:=l }) j) from λj q=>by
    rw[xT f k j _ (by omega)]
    by_cases e:j=k
    ·rw[if_pos e];obtain⟨E,u⟩:=xV (w':=fv o g (k*4) { x with da:=m,dc:=l }) HO.o Hy.o (λb s _=>K.o b s) (by omega);refine⟨E,?_,Hx,Hy.o,HV.o⟩;subst e;rw[HX.o];unfold aW;rw[u,Hv.o]
    ·rw[if_neg e];obtain⟨E,u,h3,W,h9⟩:=Ha.o j (by omega);obtain⟨h5,h6⟩:=E.below HU.o λ_ _ _ h=>h;obtain⟨h7,h8⟩:=xV (w':=fv o g (k*4) { x with da:=m,dc:=l }) h5 W (λb s _=>K.o b s) (by omega);refine⟨h7,?_,h3,W,h9⟩;rw[<- u];unfold aW;rw[h8,h6])
   have Hs:=qI (show ∀j,k+1<=j->j<d.length->rv (f.set k { x with da:=m,dc:=l }) j=rv d j from λj E u=>by
    rw[xT f k j _ (by omega),if_neg (by omega)];exact Hb.o j (by omega) u)
   exact⟨⟨k+1,f.set k { x with da:=m,dc:=l },by omega,by go_num,by simp[Hl],HS.o,H2.o,λ_=>by rw[<- Hp] at Hf;exact Hf,Hw,Hs⟩,by simp[intOf];omega⟩
  ·have HY:k=d.length:=by omega
   subst HY;have t:=qI r;have Hm:=qI (Ta Hl λj q=>(Ha.o j q).2.1);have Hq:=qI (S9 Hl (λj q=>by
    have:=(Ha.o j q).2.1
    unfold aW at this;simp only[Rn.mk.injEq] at this;exact⟨this.1,this.2.1⟩) HQ.o)
   have Hv:=qI (show ∀y∈f,(ce wr y/\y.dn<=1000)/\kX w y from λy hy=>by
    obtain⟨i,hi,rfl⟩:=List.getElem_of_mem hy
    have:=Ha.o i (by omega)
    simp[rv,hi] at this
    exact⟨⟨this.1,this.2.2.1⟩,this.2.2.2.2⟩)
   have H0:=qI (show mT w wr (.slice a d.length c) f from⟨a,c,by rw[Hl],by omega,λp=>⟨g,(D.o (by omega)).1,by have:=(D.o (by omega)).2.1;omega,Hk (by omega),A⟩⟩);clear r A Hk Ha Hb
   go_wp2
   go_ret;exact⟨⟨_,f,rfl,H0.o,Hv.o,by rw[Hm.o];exact HZ.o,Hq.o⟩,t.o⟩
theorem Tl(u v:Option Addr)(D K:Nat)(a c:List Int)(w:World)(B:a.length<=1000)(F:c.length<=1000)(m:0<a.length->∃b o,u=some ⟨b,o,none⟩/\b<w.heap.size/\∀k,k<a.length->w.cell? ⟨b,o+k,none⟩=some (.int .i64 (a.getD k 0)))(l:0<c.length->∃b o,v=some ⟨b,o,none⟩/\b<w.heap.size/\∀k,k<c.length->w.cell? ⟨b,o+k,none⟩=some (.int .i64 (c.getD k 0))):Calls prog 146 #[.slice u a.length D,.slice v c.length K] w λe w'=>e=.returned (.bool (decide (a=c)))/\∃n,w'=w.drewN n:=by
 by_cases d:a.length=c.length
 ·have Hg:((a.length:Int) != (c.length:Int))=false:=by rw[d];simp
  have J:=qI m;have N:=qI l;have Hb:=qI d;clear m l d
  go_enter func146,ntmps146
  go_wp2
  go_loopw [13] (λi wr=>∃k n:Nat,k<=a.length/\i=.int .i64 k/\wr=w.drewN n/\Hu (∀j,j<k->a.getD j 0=c.getD j 0)) (λi _=>a.length - (intOf i).toNat)
  case atStart=>exact⟨0,0,by omega,rfl,rfl,λj I=>by omega⟩
  case round=>
   obtain⟨k,n,O,rfl,rfl,Ha⟩:=hrel
   by_cases g:k<a.length
   ·have Hc:k<c.length:=by rw[<- Hb.o];exact g
    obtain⟨b1,M,rfl,Hj,Hf⟩:=J.o (by omega);obtain⟨b2,z,rfl,Hk,He⟩:=N.o (by omega);have A:cl w b1 (M+k) (a.getD k 0:Int):=Hf k g;have L:cl w b2 (z+k) (c.getD k 0:Int):=He k Hc;have Hh:(k:Int)<(a.length:Int):=by omega
    have Hi:(k:Int)<(c.length:Int):=by omega
    clear Hf He;obtain⟨p,r⟩:∃p,p=a.getD k 0:=⟨_,rfl⟩;obtain⟨q,t⟩:∃q,q=c.getD k 0:=⟨_,rfl⟩;rw[<- r] at A;rw[<- t] at L;have y:=qI r;have x:=qI t;clear r t
    by_cases f:p=q
    ·have G:=qI f;have E:(p != q)=false:=by rw[f];simp
     clear f
     go_wp2
     go_quiet (fail)
     go_wp2
     go_roundw
     case rel=>
      refine⟨k+1,n+nq,by omega,by go_num,rfl,λj I=>?_⟩
      by_cases s:j=k
      ·subst s;rw[<- y.o,<- x.o];exact G.o
      ·exact Ha.o j (by omega)
     case measure=>simp[intOf];omega
    ·have E:(p != q)=true:=by simp[f]
     have h:Hu (decide (a=c)=false):=Q7 λe=>f (by rw[y.o,x.o,e])
     clear f
     go_wp2
     go_quiet (fail)
     go_wp2
     go_ret;exact⟨by rw[h.o];rfl,n+nq,by rw[World.drewN_drewN]⟩
   ·have Hl:k=a.length:=by omega
    have h:Hu (decide (a=c)=true):=Qc (List.ext_getElem Hb.o λi C H=>by
     have:=Ha.o i (by omega)
     simpa[C,H] using this)
    go_wp2
    go_ret;exact⟨by rw[h.o];rfl,n,rfl⟩
 ·have Hg:((a.length:Int) != (c.length:Int))=true:=by simp;omega
  have h:Hu (decide (a=c)=false):=Q7 λe=>d (by rw[e])
  go_enter func146,ntmps146
  go_wp2
  go_ret;exact⟨by rw[h.o];rfl,0,rfl⟩
theorem xW(b:ByteArray)(c:Int)(cv a:Value)(nm:ByteArray)(w:World):Calls prog 90 #[.agg #[b,c,cv,a],nm] w λe w'=>e=.returned (bK b nm:Int)/\Below w w w':=by
 have d:=qI ((Q0 w w).alloc (lR) (.cells #[b,c,cv,a] 101))
 go_enter func90,ntmps90
 go_wp2_with fail
 refine (xQ b nm _).mono ?_;rintro e f ⟨rfl,rfl⟩
 go_wp2
 go_ret;exact⟨rfl,d.o⟩
theorem lS:bK a b<0↔ej a b:=by
 unfold bK ej;have e:bo a b=decide (a.toList<b.toList):=Go.Proofs.bytesLess_eq _ _;rw[e]
 by_cases h:a.toList<b.toList
 ·simp[h]
 ·rw[Q7 h];simp only[Bool.false_eq_true,if_false];constructor
  ·intro c;split at c <;> omega
  ·intro c;exact absurd c h
theorem Tm{a:Nat}(l:a<=hs.length)(d:∀t,t<a->ej (ag hs t).pod.nm nm)(f:∀t,a<=t->t<hs.length->¬ ej (ag hs t).pod.nm nm):dD hs nm=a:=by
 unfold dD;rw[<- List.take_append_drop a hs,List.countP_append];have i:(hs.take a).countP (λh=>decide (h.pod.nm.toList<nm.toList))=(hs.take a).length:=by
  rw[List.countP_eq_length];intro x b;obtain⟨k,c,rfl⟩:=List.getElem_of_mem b;rw[Qu] at c
  have:=d k (by omega)
  have e:ag hs k=(hs.take a)[k]'(by rw[Qu];omega):=by simp[ag,show k<hs.length by omega]
  rw[e] at this;exact Qc this
 have g:(hs.drop a).countP (λh=>decide (h.pod.nm.toList<nm.toList))=0:=by
  rw[List.countP_eq_zero];intro x b;obtain⟨k,c,rfl⟩:=List.getElem_of_mem b;rw[List.length_drop] at c
  have:=f (a+k) (by omega) (by omega)
  have e:ag hs (a+k)=(hs.drop a)[k]'(by rw[List.length_drop];omega):=by simp[ag,show a+k<hs.length by omega]
  rw[e] at this;have j:¬ ((hs.drop a)[k]'(by rw[List.length_drop];omega)).pod.nm.toList<nm.toList:=this;rw[Q7 j];decide
 rw[i,g,Qu];omega
def dK (hs:List af) (nm:ByteArray):Bool:=hs.any λh=>decide (h.pod.nm=nm)
theorem xX(c:kQ hs){i j:Nat}(a:i<j)(b:j<hs.length):ej (ag hs i).pod.nm (ag hs j).pod.nm:=by
 have:=List.pairwise_iff_getElem.1 c i j (by omega) b a
 have d:ag hs i=hs[i]'(by omega):=by simp[ag,show i<hs.length by omega]
 have e:ag hs j=hs[j]:=by simp[ag,b]
 rw[d,e];exact this
theorem Et(h:kQ hs){a:Nat}(f:∀t,t<a->bK (ag hs t).pod.nm nm<0)(g:∀t,a<=t->t<hs.length->¬ bK (ag hs t).pod.nm nm<0)(i:a<hs.length->(ag hs a).pod.nm≠nm):dK hs nm=false:=by
 unfold dK;rw[List.any_eq_false];intro x d;obtain⟨t,b,rfl⟩:=tv d;intro e;have e:=of_decide_eq_true e
 by_cases c1:t<a
 ·have:=lS.1 (f t c1)
  rw[e] at this;exact qU _ this
 ·by_cases c2:t=a
  ·subst c2;exact i b e
  ·have c:=xX h (show a<t by omega) b;rw[e] at c;exact g a (lR) (by omega) (lS.2 c)
theorem Eu:bK a b=0↔a=b:=by
 constructor
 ·intro h;apply Qt;intro Ha
  rcases wM Ha with k|k
  ·have:=lS.2 k;omega
  ·have c:bo b a=true:=by
    have e:bo b a=decide (b.toList<a.toList):=Go.Proofs.bytesLess_eq _ _;rw[e];exact Qc k
   unfold bK at h
   split at h
   ·cases h
   ·first|(rw[if_pos c] at h;cases h)|cases h
 ·rintro rfl;have d:bo a a=false:=by
   have e:bo a a=decide (a.toList<a.toList):=Go.Proofs.bytesLess_eq _ _;rw[e];exact Q7 (qU a)
  unfold bK;rw[d];rfl
theorem Tn(v:Value)(hs:List af)(nm:ByteArray)(w:World)(h:aY w v hs)(L:hs.length<=100)(q:kQ hs):Calls prog 89 #[v,nm,.func (.func 90) #[] #[]] w λe w'=>e=.returned (.tuple #[.int .i64 (dD hs nm:Nat),.bool (dK hs nm)])/\Below w w w':=by
 have Hh:=qI q;obtain⟨K,c,rfl,J,B⟩:=h;unfold maxLen at J;have A:=qI B;clear B q
 go_enter func89,ntmps89
 go_wp2
 go_loopw [9,10] (λi j wr=>∃a b:Nat,a<=b/\b<=hs.length/\i=.int .i64 a/\j=.int .i64 b/\Hu (∀t,t<a->bK (ag hs t).pod.nm nm<0)/\Hu (∀t,b<=t->t<hs.length->0<=bK (ag hs t).pod.nm nm)/\Below w w wr) (λi j _=>(intOf j).toNat - (intOf i).toNat)
 case atStart=>exact⟨0,hs.length,by omega,by omega,rfl,rfl,λt y=>by omega,λt k g=>by omega,Q0 _ _⟩
 case round=>
  obtain⟨a,b,Hm,F,rfl,rfl,Hf,Hg,Hb⟩:=hrel;have d:=qI Hb
  by_cases C:a<b
  ·obtain⟨m,Hp⟩:∃m:Nat,((a:Int)+(b:Int)) / 2=(m:Int):=⟨(a+b) / 2,by omega⟩;have Hn:a<=m:=by omega
   have Hq:m<b:=by omega
   obtain⟨H,o,cv,f,rfl,He⟩:=A.o (by omega);obtain⟨D,G,I,E⟩:=((He.below Hb).2 m (by omega)).1;clear He Hb
   by_cases r:bK (ag hs m).pod.nm nm<0
   ·have Hk:Hu (∀t,t<m+1->bK (ag hs t).pod.nm nm<0):=λt y=>by
     by_cases e:t=m
     ·rw[e];exact r
     ·exact lS.2 (qV (xX Hh.o (show t<m by omega) (by omega)) (lS.1 r))
    have l:=qI (xW (ag hs m).pod.nm (ag hs m).pod.pr (cv m) (f m) nm wr);generalize bK (ag hs m).pod.nm nm=z at *
    go_wp2_with fail
    refine l.o.mono ?_;rintro e u ⟨rfl,Ha⟩;have Hc:=qI (d.o.trans (Ha.mono d.o.size));clear Ha
    go_wp2
    go_roundw
    case rel=>exact⟨m+1,b,by omega,by omega,by go_num,rfl,Hk,Hg,Hc.o⟩
    case measure=>simp[intOf];omega
   ·have Hl:Hu (∀t,m<=t->t<hs.length->0<=bK (ag hs t).pod.nm nm):=λt k g=>by
     refine Int.not_lt.1 λn=>?_
     by_cases e:t=m
     ·rw[e] at n;exact r n
     ·exact r (lS.2 (qV (xX Hh.o (show m<t by omega) g) (lS.1 n)))
    have l:=qI (xW (ag hs m).pod.nm (ag hs m).pod.pr (cv m) (f m) nm wr);generalize bK (ag hs m).pod.nm nm=z at *
    go_wp2_with fail
    refine l.o.mono ?_;rintro e u ⟨rfl,Ha⟩;have Hc:=qI (d.o.trans (Ha.mono d.o.size));clear Ha
    go_wp2
    go_roundw
    case rel=>exact⟨a,m,by omega,by omega,rfl,rfl,Hf,Hl,Hc.o⟩
    case measure=>simp[intOf];omega
  ·have Hj:b=a:=by omega
   subst Hj;have Hi:=qI (Tm F (λt y=>lS.1 (Hf.o t y)) λt k g n=>Int.not_lt.2 (Hg.o t k g) (lS.2 n))
   by_cases x:b<hs.length
   ·obtain⟨H,o,cv,f,rfl,He⟩:=A.o (by omega);obtain⟨D,G,I,E⟩:=((He.below Hb).2 b x).1;clear He Hb;have l:=qI (xW (ag hs b).pod.nm (ag hs b).pod.pr (cv b) (f b) nm wr)
    by_cases s:bK (ag hs b).pod.nm nm=0
    ·have p:Hu (dK hs nm=true):=List.any_eq_true.2 ⟨ag hs b,o9 x,Qc (Eu.1 s)⟩;rw[s] at l
     go_wp2_with fail
     refine l.o.mono ?_;rintro e u ⟨rfl,Ha⟩;have Hc:=qI (d.o.trans (Ha.mono d.o.size));clear Ha
     go_wp2
     go_ret2;exact⟨by rw[Hi.o,p.o];rfl,Hc.o⟩
    ·have p:Hu (dK hs nm=false):=Et Hh.o Hf.o (λt k g=>Int.not_lt.2 (Hg.o t k g)) λ_ e=>s (Eu.2 e);have Ho:(bK (ag hs b).pod.nm nm == 0)=false:=by simpa using s
     generalize bK (ag hs b).pod.nm nm=z at *
     go_wp2_with fail
     refine l.o.mono ?_;rintro e u ⟨rfl,Ha⟩;have Hc:=qI (d.o.trans (Ha.mono d.o.size));clear Ha
     go_wp2
     go_ret2;exact⟨by rw[Hi.o,p.o];rfl,Hc.o⟩
   ·have p:Hu (dK hs nm=false):=Et Hh.o Hf.o (λt k g=>Int.not_lt.2 (Hg.o t k g)) λh=>absurd h x
    go_wp2
    go_ret2;exact⟨by rw[Hi.o,p.o];rfl,d.o⟩
theorem Ev(v:Value)(hs:List af)(nm:ByteArray)(w:World)(h:aY w v hs)(f:hs.length<=100)(d:kQ hs):Calls prog 49 #[v,nm] w λe w'=>e=.returned (.tuple #[.int .i64 (dD hs nm:Nat),.bool (dK hs nm)])/\Below w w w':=by
 have HS:=qI (Tn v hs nm w h f d);obtain⟨i,c,rfl,j,_⟩:=h;generalize dD hs nm=a at *;generalize dK hs nm=b at *
 go_enter func49,ntmps49
 go_wp2_with fail
 refine HS.o.mono ?_;rintro e g ⟨rfl,Ha⟩;have Hb:=qI Ha;clear Ha
 go_wp2
 go_ret2;exact⟨rfl,Hb.o⟩
section
open RowKit Go.Maps
structure To (w w':World) (Bd Bm:Nat) (sn sk:Sd) (sv:Value) (n:Nat) (xs:List RV) (p c:ByteArray) (l:Int) (d:Bool) (f:Nat):Prop where
 disk:aU w' Bd sn sk sv (bx l d) (fV l d)
 o:bT Bd Bm w w'
 no:f≠0->bF w' Bm n xs
 yes:f=0->bF w' Bm n (xs.filter λx=>!decide (x.pod=p/\x.cont=c))
def pM (l:Int) (d has:Bool):Nat:=if cu l d≠0 then cu l d else if has=true then 0 else 6
theorem Tp(f g b n:Nat)(s q:Sd)(r:Value)(i:List RV)(p c:ByteArray)(l:Int)(d:Bool)(w:World)(m:gk w f g b)(t:bF w b n i)(hd:aU w g s q r l d)(L:-9223372036854775808<=l/\l<=9223372036854775807)(x:p.size<=7000)(v:c.size<=7000) :
  Calls prog 101 #[f,p,c] w λe w'=>e=.returned (aJ ((pM l d (i.any λy=>decide (y.pod=p/\y.cont=c)):Nat):Int))/\To w w' g b s q r n i p c l d (pM l d (i.any λy=>decide (y.pod=p/\y.cont=c))):=by
 obtain⟨G,S,Hr⟩:=rF m t hd;obtain⟨c0,c1⟩:=m.cells;have Hv:=qI t;have Hx:=qI (qO g s q r l d w hd L);have Hs:=qI m;have B:=t.lt;have P:=hd.lt;have hel:=m.lt;clear m t hd
 go_enter func101,ntmps101
 go_wp2_with fail
 refine Hx.o.mono ?_;rintro e a ⟨rfl,Hy,Hf⟩;have Hl:=qI Hy;have Hp:=qI (bT.of_grown (B1:=g) (B2:=b) Hf.1 (.inl rfl));have Hh:=qI (Hv.o.block (Hf.1.block b B (by simpa using Hr.symm)));have Hw:=Hs.o.block (Hf.1.block f hel (by simpa using G));obtain⟨R,g1⟩:=Hw.cells;have Ho:a=w.heap.size:=Hf.2;clear Hy Hf Hw Hx Hv Hs c0 c1
 by_cases h:cu l d=0
 ·have Hb:=qI (show pM l d (i.any λy=>decide (y.pod=p/\y.cont=c))=if (i.any λy=>decide (y.pod=p/\y.cont=c))=true then 0 else 6 from by unfold pM;rw[if_neg (by rw[h];decide)]);rw[h,show aJ ((0:Nat):Int)=.nilIface from rfl];obtain⟨y,Hk⟩:=Hh.o.look2 p c x v;unfold jF at Hk;have Hc:=(Q0 a a).alloc (lR) (.cells #[p,c] 179);have Hm:=Hc.alloc Hc.size (mX);have Hq:=Hc.alloc Hc.size (eA y);have Hj:=Hk ((a.alloc (.cells #[p,c] 179)).drew) ((bB Hc).block b (by omega));have Hi:=Hk (((a.alloc (.cells #[p,c] 179)).alloc (mX)).drew) ((bB Hm).block b (by omega));have I:=((bB Hc).cell (p:=⟨f,1,none⟩) (by show f<_;omega)).trans g1;have M:=((bB Hm).cell (p:=⟨f,1,none⟩) (by show f<_;omega)).trans g1;have Hg:=qI (bB Hq);have z:=qI (show (((a.alloc (.cells #[p,c] 179)).alloc (mX)).drew).cell? a=some (.string p)/\(((a.alloc (.cells #[p,c] 179)).alloc (mX)).drew).cell? ⟨a,1,none⟩=some (.string c) from⟨by simp,by simp⟩);have Ht:=qI (show (((a.alloc (.cells #[p,c] 179)).alloc (eA y)).drew).cell? a=some (.string p)/\(((a.alloc (.cells #[p,c] 179)).alloc (eA y)).drew).cell? ⟨a,1,none⟩=some (.string c) from⟨by simp,by simp⟩);rw[Ho] at z Ht;obtain⟨E,H⟩:=z.o;clear Hc Hm Hq Hk;unfold RV.val at Hj Hi
  rcases two (i.any λy=>decide (y.pod=p/\y.cont=c)) with k|k
  ·rw[k] at Hj Hi;have o:=qI k;clear k
   go_wp2_with fail
   go_region
   all_goals
    generalize hW5:((a.alloc (.cells #[p,c] 179)).alloc (eA y)).drew=u at *;have He:=bB Hg.o;obtain⟨m0,m1⟩:=Ht.o;have N:u.drew.cell? w=some (.string p):=m0;have J:u.drew.cell? ⟨w,1,none⟩=some (.string c):=m1;have Q:u.drew.cell? ⟨f,1,none⟩=some (.map b):=(He.cell (p:=⟨f,1,none⟩) (by show f<_;omega)).trans g1;obtain⟨C,Hn,A,Ha,O⟩:=(Hh.o.block (He.block b (by omega))).drop p c x v 0;have K:=qI A;have D:=qI (show aU C g s q r (bx l d) (fV l d) from (Ha.block g (by have:=He.size;omega) λe=>Hr (Ql e)).trans ((He.block g (by omega)).trans Hl.o));have F:=qI ((Hp.o.trans (bT.of_below He)).trans (bT.of_grown Ha (.inr rfl)));unfold jF at Hn;clear He A Ha hW5 Hj Hi I M E H m0 m1
    go_wp2_with fail
    go_region
    all_goals
     go_wp2
     go_ret;exact⟨by rw[Hb.o,if_pos o.o];rfl,⟨D.o,F.o,λj=>absurd (by rw[Hb.o,if_pos o.o]) j,λ_=>K.o⟩⟩
  ·rw[k] at Hj Hi;have o:=qI k;clear k
   go_wp2_with fail
   go_region
   all_goals
    generalize ((a.alloc (.cells #[p,c] 179)).alloc (eA y)).drew=u at *
    go_wp2
    go_ret;exact⟨by rw[Hb.o,if_neg (by rw[o.o];decide)];rfl,⟨(Hg.o.block g (by omega)).trans Hl.o,Hp.o.trans (bT.of_below Hg.o),λ_=>Hh.o.block (Hg.o.block b (by omega)),λj=>by rw[Hb.o,if_neg (by rw[o.o];decide)] at j;cases j⟩⟩
 ·have Hz:=En h;have Hb:=qI (show pM l d (i.any λy=>decide (y.pod=p/\y.cont=c))=11 from by unfold pM;rw[if_pos h];exact Hz);rw[Hz,show aJ ((11:Nat):Int)=.iface 108 (11:Int) from rfl]
  go_wp2
  go_ret;exact⟨by rw[Hb.o];rfl,⟨Hl.o,Hp.o,λ_=>Hh.o,λj=>by rw[Hb.o] at j;cases j⟩⟩
end
section
open RowKit Go.ChangeMaps Go.Maps Go.WideShapes
theorem Tq{ns:List ap}{k:Nat}(h:k<ns.length):fW (ns.take (k+1))=dW (fW (ns.take k)) (aq ns k).kind (some (aq ns k).many):=by
 unfold fW;rw[Ec h,List.foldl_append];rfl
theorem Tr{ds:List ak}{l:List Int}{m:ByteArray->Option Int}{k:Nat}(h:k<l.length):(l.take (k+1)).foldl (ew ds) m=ew ds ((l.take k).foldl (ew ds) m) (l.getD k 0):=by
 rw[Qa h,List.foldl_append]
 simp[h]
def rH (f:ByteArray->Option Int) (k:Int):Prop:=∀s v,f s=some v->-1000000 - k<=v/\v<=1000000
theorem Ew{k b:Int}(h:rH f k)(d:k<=b){s:ByteArray}{v:Option Int}(c:∀x,v=some x->-1000000 - b<=x/\x<=1000000):rH (dW f s v) b:=by
 intro t x a;unfold dW at a
 split at a
 ·exact c x a
 ·have:=h t x a
  omega
theorem Ts(P v2 v3:Value)(g o:Nat)(ds:List ak)(l:List Int)(ns:List ap)(w:World)(L:et w P g o ds)(h2:bD w v2 l)(h3:bv w v3 ns)(hl:l.length<=1000)(hn:ns.length<=1000)
  (G:∀k,k<l.length->0<=l.getD k 0/\l.getD k 0<ds.length) (hc:ds.length<=1000) (I:∀k,k<ds.length->(aC ds k).kind.size<=1000) (H:∀k,k<ns.length->(aq ns k).kind.size<=1000/\-1000000<=(aq ns k).many/\(aq ns k).many<=1000000) :
  Calls prog 163 #[P,v2,v3] w λe w'=>(∃b,e=.returned (.bool b)/\(b=true↔kK ds l ns))/\Below w w w':=by
 obtain⟨a1,c1,rfl,Hp⟩:=L;obtain⟨a2,c2,rfl,Y,Ho⟩:=h2;obtain⟨a3,c3,rfl,HF,Hy⟩:=h3;have H1:=qI Hp;have H2:=qI Ho;have H3:=qI Hy;have U:=qI G;have HP:=qI I;have HE:=qI H;have Ht:=qI (il.made w);have Hr:=qI ((Q0 w w).alloc (lR) (.map #[] 0));have HY:=@run_makeMap prog;clear Hp Ho Hy G I H Y HF
 go_enter func163,ntmps163
 go_wp2
 go_loopw [16] (λi wr=>∃k n:Nat,k<=ns.length/\n<=k/\i=.int .i64 k/\il wr w n (fW (ns.take k))/\rH (fW (ns.take k)) 0/\Below w w wr) (λi _=>ns.length - (intOf i).toNat)
 case atStart=>exact⟨0,0,by omega,by omega,rfl,Ht.o,(λ_ _ hx=>nomatch hx),Hr.o⟩
 case round=>
  obtain⟨k,n,hk,H0,rfl,t,r,c⟩:=hrel
  by_cases E:k<ns.length
  ·obtain⟨b,M,rfl,Hk,Hh⟩:=H3.o (by omega);obtain⟨R,g1⟩:=Hh k E;have c0:=(c.cell (p:=⟨b,M+k*2,none⟩) Hk).trans R;have c1:=(c.cell (p:=⟨b,M+k*2+1,none⟩) Hk).trans g1;have He:=qI (Tq E);obtain⟨HZ,HX,H7⟩:=HE.o k E;have Hw:=qI (c.alloc c.size (.cells #[(aq ns k).kind,((aq ns k).many:Int)] 127));have HH:=t.alloc (.cells #[(aq ns k).kind,((aq ns k).many:Int)] 127);have Hn:(wr.alloc (.cells #[(aq ns k).kind,((aq ns k).many:Int)] 127)).cell? wr=some (.string (aq ns k).kind):=by simp
   have Hl:(wr.alloc (.cells #[(aq ns k).kind,((aq ns k).many:Int)] 127)).cell? ⟨wr,1,none⟩=some (.int .i64 (aq ns k).many):=by simp
   have K:=qI r;clear t c Hh R g1 r;generalize aq ns k=x at *;generalize fW (ns.take k)=f at *;obtain⟨D,d,z,u⟩:=HH;have J:=qI u;have HS:=qI z;have Ha:keyOf prog 9 x.kind=some (.string x.kind.data.toList):=Go.WideMaps.keyOf_string_mk underlying9 (by unfold maxLen;omega);have Hj:=qI (show (Lit.int .i64 x.many).wf=true from WalkArith.wf_i64 (by omega));clear u z
   go_wp2_with (at_mapUpdate;refine wpList_mapUpdate_own _ rfl _ _ _ 205 rfl 9 3 kW underlying205 (plainElem prog 3) w n D rfl d (by unfold maxLen;omega) _ _ _ rfl rfl Ha (.lit (.int .i64 x.many)) [] (plainElem_int underlying3 Hj.o) ?_;intro Q Hg Hc)
   go_roundw
   case rel=>
    refine⟨k+1,n+1,by omega,by omega,by go_num,?_,?_,Hw.o.grown Hc Hw.o.size (λj C=>by cases C;exact lR)⟩
    ·rw[He.o];exact Er d HS.o J.o Hg
    ·rw[He.o];exact Ew K.o (Int.le_refl _) (λy F=>by cases F;omega)
   case measure=>simp[intOf];omega
  ·have Z:k=ns.length:=by omega
   subst Z;rw[Qh] at t r;have HI:=qI t;have HW:=qI c;have T:=qI r;clear t c r Ht Hr
   go_wp2
   go_loopw [28] (λi wr=>∃k n:Nat,k<=l.length/\n<=ns.length+k/\i=.int .i64 k/\il wr w n ((l.take k).foldl (ew ds) (fW ns))/\rH ((l.take k).foldl (ew ds) (fW ns)) (k:Int)/\Below w w wr) (λi _=>l.length - (intOf i).toNat)
   case atStart=>exact⟨0,n,by omega,by omega,rfl,HI.o,T.o,HW.o⟩
   case round=>
    obtain⟨q,m,hq,H4,rfl,t,r,c⟩:=hrel
    by_cases A:q<l.length
    ·obtain⟨b,M,rfl,Hk,Hh⟩:=H2.o (by omega);have c0:=(c.cell (p:=⟨b,M+q,none⟩) Hk).trans (Hh q A);have He:=qI (Tr (ds:=ds) (m:=fW ns) A);have W:=U.o q A;generalize l.getD q 0=x at *;obtain⟨HT,H5⟩:=W;obtain⟨a,rfl⟩:=Int.eq_ofNat_of_zero_le HT;have Hi:a<ds.length:=by omega
     obtain⟨ha,HC,Hx⟩:=H1.o (by omega);subst ha;have d0:=(c.cell (p:=⟨g,o+a*3,none⟩) HC).trans (Hx a Hi).1;have HU:=HP.o a Hi;have Hq:((a:Int)).toNat=a:=by omega
     have N:Hu (∀f,ew ds f (a:Int)=dW f (aC ds a).kind (if (f (aC ds a).kind).getD 0 - 1=0 then none else some ((f (aC ds a).kind).getD 0 - 1))):=λf=>by unfold ew;rw[Hq]
     have B:=qI c;have K:=qI r;clear Hh Hx c r Hq;generalize (aC ds a).kind=kd at *;generalize (l.take q).foldl (ew ds) (fW ns)=f at *;obtain⟨D,d,z,u⟩:=t;have J:=qI u;have HS:=qI z;have Hs:=(u kd).1;have H6:-1000000 - (q:Int)<=(f kd).getD 0/\(f kd).getD 0<=1000000:=by
      cases hf:f kd with
      | none=>simp;omega
      | some y=>exact K.o kd y hf
     generalize hv:(f kd).getD 0=v at *;have O:=qI hv;clear hv;have Ha:keyOf prog 9 kd=some (.string kd.data.toList):=Go.WideMaps.keyOf_string_mk underlying9 (by unfold maxLen;omega);have Hj:=qI (show (Lit.int .i64 (v - 1)).wf=true from WalkArith.wf_i64 (by omega));have Hz:Hu (rH (ew ds f (a:Int)) ((q+1:Nat):Int)):=by
      unfold Hu;rw[N.o f];refine Ew K.o (by omega) λy F=>?_;rw[O.o] at F
      split at F
      ·cases F
      ·cases F;omega
     clear u z;have Hv:Hu (WideAt.IsKeyLit (Lit.string kd.data.toList)):=trivial
     by_cases L:v=1
     ·have X:((v - 1:Int) == 0)=true:=by rw[L];rfl
      have Hm:Hu (ew ds f (a:Int)=dW (dW f kd (some (v - 1))) kd none):=by
       unfold Hu;rw[N.o f,O.o,if_pos (by omega)]
       funext s
       unfold dW
       split <;> rfl
      clear L
      go_wp2_with (first|(at_lookup;refine wpList_lookup_own_int _ rfl _ _ 205 rfl 9 3 .i64 kW underlying205 underlying3 (rz _) w _ _ rfl (by assumption) _ _ rfl Ha ?_;intro cc Hb _;(first|rw[Hs] at Hb|rw[Go.Maps.atKey_put_same d.isMap Hv.o] at Hb);injection Hb with Hb;injection Hb with _ Hb;subst Hb)|(at_mapUpdate;refine wpList_mapUpdate_own _ rfl _ _ _ 205 rfl 9 3 kW underlying205 (plainElem prog 3) w m D rfl d (by unfold maxLen;omega) _ _ _ rfl rfl Ha (.lit (.int .i64 (v - 1))) [] (plainElem_int underlying3 Hj.o) ?_;intro Q Hg Hc)|(at_delete;refine wpList_delete_own _ rfl _ _ 205 9 rfl 3 kW underlying205 _ w _ _ rfl Hg _ _ rfl Ha ?_;intro w6 S Hf))
      go_roundw
      case rel=>
       refine⟨q+1,m+1,by omega,by omega,by go_num,?_,by rw[He.o];exact Hz.o,?_⟩
       ·rw[He.o,Hm.o];exact Ti Hg (Eo HS.o) (Ep d J.o) S
       ·exact (B.o.grown Hc B.o.size (λj C=>by cases C;exact lR)).grown Hf.grown (by have:=Hc.size;have:=B.o.size;omega) (λj C=>by cases C;exact lR)
      case measure=>simp[intOf];omega
     ·have X:((v - 1:Int) == 0)=false:=Qr.2 (by omega);have Hm:Hu (ew ds f (a:Int)=dW f kd (some (v - 1))):=by
       unfold Hu;rw[N.o f,O.o,if_neg (by omega)]
      go_wp2_with (first|(at_lookup;refine wpList_lookup_own_int _ rfl _ _ 205 rfl 9 3 .i64 kW underlying205 underlying3 (rz _) w _ _ rfl (by assumption) _ _ rfl Ha ?_;intro cc Hb _;(first|rw[Hs] at Hb|rw[Go.Maps.atKey_put_same d.isMap Hv.o] at Hb);injection Hb with Hb;injection Hb with _ Hb;subst Hb)|(at_mapUpdate;refine wpList_mapUpdate_own _ rfl _ _ _ 205 rfl 9 3 kW underlying205 (plainElem prog 3) w m D rfl d (by unfold maxLen;omega) _ _ _ rfl rfl Ha (.lit (.int .i64 (v - 1))) [] (plainElem_int underlying3 Hj.o) ?_;intro Q Hg Hc))
      go_roundw
      case rel=>
       refine⟨q+1,m+1,by omega,by omega,by go_num,?_,by rw[He.o];exact Hz.o,?_⟩
       ·rw[He.o,Hm.o];exact Er d HS.o J.o Hg
       ·exact B.o.grown Hc B.o.size (λj C=>by cases C;exact lR)
      case measure=>simp[intOf];omega
    ·have HQ:q=l.length:=by omega
     subst HQ;rw[Qh] at t;obtain⟨D,d,z,u⟩:=t;have B:=qI c;have V:Hu ((Go.Maps.size D:Int)=0↔kK ds l ns):=by
      unfold Hu
      have:=Tj z u
      constructor
      ·intro h;exact this.1 (by omega)
      ·intro h;have:=this.2 h;omega
     clear z u c r
     go_wp2_with (at_len;refine wpList_len_own _ rfl _ 205 rfl 9 3 underlying205 _ w m D rfl d ?_)
     go_ret;exact⟨⟨_,rfl,by rw[beq_iff_eq];exact V.o⟩,B.o⟩
end
