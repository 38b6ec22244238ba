import Derived.Test.YtjlblidnfebmiaaGreatDoorE24
import Derived.Test.YtjlblidnfebmiaaGreatDoorE21
set_option maxRecDepth 100000
set_option maxHeartbeats 16000000
open Go Go.RowKit Go.Shelf
attribute [local go_sem] Oper.semAt_some
open Go.Proofs.Tryz
namespace Go.Proofs.YtjlblidnfebmiaaGreatDoor
variable {B n n0:Nat} {a b k nm:ByteArray} {d:Bool} {f:ByteArray->Option Int} {hs:List ad} {l v:Int} {w w0:World}
section
open RowKit Go.Maps
theorem aQ.notInt {n k:Sd} {v:Value} (h:aQ w B n k v l d):∀ (a:Array Value) (z:Nat × Nat),w.heap[B]?≠some (Obj.cells a 3 z):=λa z e=>by
 rw [show w.heap[B]?=_ from h] at e;cases e
theorem qW {f c b:Nat} {o:List RV} {i j:Sd} {k:Value} (h:fT w f c b) (m:bB w b n o) (hd:aQ w c i j k l d):f≠c/\f≠b/\c≠b:=by
 obtain ⟨p,g,Ha⟩:=m.isMap;refine ⟨λe=>?_,λe=>?_,λe=>?_⟩
 ·subst e;have a:=h;unfold fT at a;rw [show w.heap[f]?=_ from hd] at a;cases a
 ·subst e;have a:=h;unfold fT at a;rw [Ha] at a;cases a
 ·subst e;have a:=hd;unfold aQ at a;rw [Ha] at a;cases a
structure RU (w w':World) (Bd Bm:Nat) (sn sk:Sd) (sv:Value) (n:Nat) (xs:List RV) (x:RV) (l:Int) (d:Bool) (f:Nat):Prop where
 disk:aQ w' Bd sn sk sv (bu l d) (fM l d)
 o:bQ Bd Bm w w'
 no:f≠0->bB w' Bm n xs
 yes:f=0->∃ a c,bB w' Bm (n+1) ({ x with da:=a,dc:=c } :: xs)/\iW w' { x with da:=a,dc:=c }/\aY w' { x with da:=a,dc:=c }=aY w x
def pu (l:Int) (d has:Bool):Nat:=if cf l d≠0 then cf l d else if has=true then 5 else 0
theorem DT (h:cf l d≠0):cf l d=11:=by grind [cf]
abbrev em:=λ(x0:RV)=>(.cells #[x0.pod,x0.cont,.int .u64 x0.cpus,.slice x0.da x0.dn x0.dc] 129:Obj)
abbrev mI:=(.cells #[.string ⟨#[]⟩,.string ⟨#[]⟩,.int .u64 0,.slice none 0 0] 129:Obj)
theorem RW (i j g n:Nat) (z A:Sd) (u:Value) (m:List RV) (x:RV) (l:Int) (d:Bool) (w:World) (D:fT w i j g) (v:bB w g n m) (hd:aQ w j z A u l d) (hl:-9223372036854775808<=l/\l<=9223372036854775807) (M:x.Short) (G:bm w x) (I:nZ j x) (Q:x.dn<=1000) (hn:n<1000) :
  Calls prog 102 #[i,.agg #[x.pod,x.cont,.int .u64 x.cpus,.slice x.da x.dn x.dc]] w λe w'=>e=.returned (aL ((pu l d (m.any λy=>decide (y.pod=x.pod/\y.cont=x.cont)):Nat):Int))/\RU w w' j g z A u n m x l d (pu l d (m.any λy=>decide (y.pod=x.pod/\y.cont=x.cont))):=by
 obtain ⟨hi,hj,V⟩:=qW D v hd;have Hj:=(Q0 w w).alloc (lR) (em x);have Hz:=D.block (Hj.block i D.lt);obtain ⟨c0,c1⟩:=Hz.cells;have HU:=qI (v.block (Hj.block g v.lt));have HT:aQ (w.alloc (em x)) j z A u l d:=(Hj.block j hd.lt).trans hd;have HX:=qI (qt j z A u l d _ HT hl);have HO:=qI (b7.made w x);obtain ⟨W,HI⟩:=G.below Hj λ_ _ _ h=>h;have U:=qI W;have HL:=qI HI;have ha:=qI Hj;have H2:=qI Hz;have ho:=v.lt;have hr:=hd.lt;have hel:=D.lt;clear D v hd Hj Hz HT W HI
 go_enter func102,ntmps102
 go_wp2_with fail
 generalize hW1:w.alloc (em x)=W1 at *;have Hw:W1=w.heap.size+1:=by rw [<- hW1];simp
 clear hW1;refine HX.o.mono ?_;rintro e f ⟨rfl,H1,He⟩;have P:=qI H1;have H:=qI (bQ.trans (bQ.of_below ha.o) (bQ.of_grown (B1:=j) (B2:=g) He.1 (.inl rfl)));have Hs:=qI (HU.o.block (He.1.block g (by omega) (by simpa using V.symm)));have E:=H2.o.block (He.1.block i (by omega) (by simpa using hi));have hp:=qI E;obtain ⟨g0,g1⟩:=E.cells;have F:b7 f w x:=(He.1.block w (by omega) (by intro e;cases e;omega)).trans HO.o;have hq:=qI F;obtain ⟨Hk,Hn⟩:=xA (w':=f) U.o I (λb hb N=>He.1.block b N (by simpa using hb)) (Nat.le_of_eq He.2.symm);have H5:=qI Hk;have Hy:=qI (Hn.trans HL.o);have Hx:f=w.heap.size+1:=by rw [He.2];exact Hw
 obtain ⟨r0,r1,r2,r3⟩:=F.cells;clear H1 He E F HX HU HO H2 c0 c1 Hk Hn U HL
 by_cases o:cf l d=0
 ·have Hh:=qI (show pu l d (m.any λy=>decide (y.pod=x.pod/\y.cont=x.cont))=if (m.any λy=>decide (y.pod=x.pod/\y.cont=x.cont))=true then 5 else 0 from by unfold pu;rw [if_neg (by rw [o];decide)]);rw [o,show aL ((0:Nat):Int)=.nilIface from rfl];obtain ⟨y,Hq⟩:=Hs.o.look2 x.pod x.cont M.1 M.2;unfold ju at Hq;have Hg:=(Q0 f f).alloc (lR) (.cells #[x.pod,x.cont] 179);have Hv:=Hg.alloc Hg.size (mI);have HY:=Hg.alloc Hg.size (em y);have Ht:=Hq ((f.alloc (.cells #[x.pod,x.cont] 179)).drew) ((bF Hg).block g (by omega));have Hp:=Hq (((f.alloc (.cells #[x.pod,x.cont] 179)).alloc (mI)).drew) ((bF Hv).block g (by omega));have k1:=((bF Hg).cell (p:=⟨i,1,none⟩) (by show i<_;omega)).trans g1;have k2:=((bF Hv).cell (p:=⟨i,1,none⟩) (by show i<_;omega)).trans g1;have Hr:=qI (bF HY);have J:=qI (show (((f.alloc (.cells #[x.pod,x.cont] 179)).alloc (mI)).drew).cell? f=some (.string x.pod)/\(((f.alloc (.cells #[x.pod,x.cont] 179)).alloc (mI)).drew).cell? ⟨f,1,none⟩=some (.string x.cont) from ⟨by simp,by simp⟩);have L:=qI (show (((f.alloc (.cells #[x.pod,x.cont] 179)).alloc (em y)).drew).cell? f=some (.string x.pod)/\(((f.alloc (.cells #[x.pod,x.cont] 179)).alloc (em y)).drew).cell? ⟨f,1,none⟩=some (.string x.cont) from ⟨by simp,by simp⟩);rw [Hx] at J L;obtain ⟨n0,n1⟩:=J.o;clear Hg Hv HY Hq;unfold RV.val at Ht Hp
  rcases two (m.any λy=>decide (y.pod=x.pod/\y.cont=x.cont)) with s|s
  ·rw [s] at Ht Hp;have t:=qI s;clear s
   go_wp2_with fail
   go_region
   all_goals
    generalize ((f.alloc (.cells #[x.pod,x.cont] 179)).alloc (em y)).drew=O at *
    go_wp2
    go_ret;exact ⟨by rw [Hh.o,if_pos t.o];rfl,⟨(Hr.o.block j (by omega)).trans P.o,H.o.trans (bQ.of_below Hr.o),λ_=>Hs.o.block (Hr.o.block g (by omega)),λr=>by rw [Hh.o,if_pos t.o] at r;cases r⟩⟩
  ·rw [s] at Ht Hp;have t:=qI s;clear s
   go_wp2_with fail
   go_region
   all_goals
    have Hi:=bF Hr.o;have Hf:=qI (show (((f.alloc (.cells #[x.pod,x.cont] 179)).alloc (em y)).drew.drew.cell? ⟨i,1,none⟩=some (.map g)/\(((f.alloc (.cells #[x.pod,x.cont] 179)).alloc (em y)).drew.drew.cell? (w.heap.size+1:Nat)=some (.string x.pod)/\((f.alloc (.cells #[x.pod,x.cont] 179)).alloc (em y)).drew.drew.cell? ⟨w.heap.size+1,1,none⟩=some (.string x.cont))/\(((f.alloc (.cells #[x.pod,x.cont] 179)).alloc (em y)).drew.drew.cell? w=some (.string x.pod)/\((f.alloc (.cells #[x.pod,x.cont] 179)).alloc (em y)).drew.drew.cell? ⟨w,1,none⟩=some (.string x.cont)/\((f.alloc (.cells #[x.pod,x.cont] 179)).alloc (em y)).drew.drew.cell? ⟨w,2,none⟩=some (.int .u64 x.cpus)/\((f.alloc (.cells #[x.pod,x.cont] 179)).alloc (em y)).drew.drew.cell? ⟨w,3,none⟩=some (.slice x.da x.dn x.dc))) from ⟨(Hi.cell (p:=⟨i,1,none⟩) (by show i<_;omega)).trans g1,L.o,⟨(Hi.cell (p:=w.heap.size) (by show w.heap.size<_;omega)).trans r0,(Hi.cell (p:=⟨w,1,none⟩) (by show w.heap.size<_;omega)).trans r1,(Hi.cell (p:=⟨w,2,none⟩) (by show w.heap.size<_;omega)).trans r2,(Hi.cell (p:=⟨w,3,none⟩) (by show w.heap.size<_;omega)).trans r3⟩⟩);have Ho:=qI Hi;have Hu:w.heap.size+1+1<=((f.alloc (.cells #[x.pod,x.cont] 179)).alloc (em y)).drew.heap.size:=by simp [World.drew];omega
    clear Hi Ht Hp k1 k2 n0 n1 J L;generalize ((f.alloc (.cells #[x.pod,x.cont] 179)).alloc (em y)).drew=O at *;have Hm:w+1+1<=O.drew.heap.size:=Hu;obtain ⟨HQ,Hl⟩:=H5.o.below Ho.o λ_ _ _ h=>h;have HG:=qI (Hl.trans Hy.o);have hf:=qI (DS x O.drew HQ Q);have H7:=qI (Hs.o.block (Ho.o.block g (by omega)));clear HQ Hl
    go_wp2_with fail
    refine wp_region_held_drew (S:=(λw'=>w'.cell? ⟨i,1,none⟩=some (.map g)/\(w'.cell? (w.heap.size+1:Nat)=some (.string x.pod)/\w'.cell? ⟨w.heap.size+1,1,none⟩=some (.string x.cont))/\(w'.cell? w=some (.string x.pod)/\w'.cell? ⟨w,1,none⟩=some (.string x.cont)/\w'.cell? ⟨w,2,none⟩=some (.int .u64 x.cpus)/\w'.cell? ⟨w,3,none⟩=some (.slice x.da x.dn x.dc)))) (by kernel_rfl) Hf.o λhHeld=>?_;refine tk 0 ?_;refine tk 1 ?_;refine tk 2 ?_;refine tk 3 ?_;refine tk 4 ?_;refine tk 5 ?_;refine rd 6 λK B=>?_;go_simp
    go_wp2_with fail
    refine hf.o.mono ?_;rintro e q ⟨T,c',rfl,R,HS,_,Hb⟩;have Hc:=qI (show (q.cell? ⟨i,1,none⟩=some (.map g)/\(q.cell? (w.heap.size+1:Nat)=some (.string x.pod)/\q.cell? ⟨w.heap.size+1,1,none⟩=some (.string x.cont))/\(q.cell? w=some (.string x.pod)/\q.cell? ⟨w,1,none⟩=some (.string x.cont)/\q.cell? ⟨w,2,none⟩=some (.int .u64 x.cpus)/\q.cell? ⟨w,3,none⟩=some (.slice x.da x.dn x.dc))) from ⟨(Hb.cell (p:=⟨i,1,none⟩) (by show i<_;omega)).trans Hf.o.1,⟨(Hb.cell (p:=⟨w.heap.size+1,0,none⟩) (by show w.heap.size+1<_;omega)).trans Hf.o.2.1.1,(Hb.cell (p:=⟨w.heap.size+1,1,none⟩) (by show w.heap.size+1<_;omega)).trans Hf.o.2.1.2⟩,⟨(Hb.cell (p:=w.heap.size) (by show w.heap.size<_;omega)).trans Hf.o.2.2.1,(Hb.cell (p:=⟨w,1,none⟩) (by show w.heap.size<_;omega)).trans Hf.o.2.2.2.1,(Hb.cell (p:=⟨w,2,none⟩) (by show w.heap.size<_;omega)).trans Hf.o.2.2.2.2.1,(Hb.cell (p:=⟨w,3,none⟩) (by show w.heap.size<_;omega)).trans Hf.o.2.2.2.2.2⟩⟩);have Y:=qI (H7.o.block (Hb.block g (by omega)));have hg:=qI R;have hc:=qI (HS.trans HG.o);have HP:=qI (Ho.o.trans (Hb.mono Ho.o.size));have hk:w+1+1<=q.heap.size:=Q5 Hm Hb.size;clear R HS Hb
    go_wp2_with fail
    refine B.o _ _ Hc.o λhHeld=>?_;clear B K;refine rd 7 λK B=>?_;rw [if_pos (by rfl)];refine RT _ _ _ _ rfl g n m { x with da:=T,dc:=c' } rfl rfl rfl Y.o M hn t.o ?_;intro k X Ha H6;have H8:=qI (show (k.cell? ⟨i,1,none⟩=some (.map g)/\(k.cell? (w.heap.size+1:Nat)=some (.string x.pod)/\k.cell? ⟨w.heap.size+1,1,none⟩=some (.string x.cont))/\(k.cell? w=some (.string x.pod)/\k.cell? ⟨w,1,none⟩=some (.string x.cont)/\k.cell? ⟨w,2,none⟩=some (.int .u64 x.cpus)/\k.cell? ⟨w,3,none⟩=some (.slice x.da x.dn x.dc))) from ⟨(od Ha ⟨i,1,none⟩ (by show i<_;omega) (by simpa using hj)).trans Hc.o.1,⟨(od Ha (w.heap.size+1:Nat) (by show w.heap.size+1<_;omega) (λe=>by have C:w+1=g:=Ql e;omega)).trans Hc.o.2.1.1,(od Ha ⟨w.heap.size+1,1,none⟩ (by show w.heap.size+1<_;omega) (λe=>by have C:w+1=g:=Ql e;omega)).trans Hc.o.2.1.2⟩,⟨(od Ha w (by show w.heap.size<_;omega) (λe=>by have C:w=g:=Ql e;omega)).trans Hc.o.2.2.1,(od Ha ⟨w,1,none⟩ (by show w.heap.size<_;omega) (λe=>by have C:w=g:=Ql e;omega)).trans Hc.o.2.2.2.1,(od Ha ⟨w,2,none⟩ (by show w.heap.size<_;omega) (λe=>by have C:w=g:=Ql e;omega)).trans Hc.o.2.2.2.2.1,(od Ha ⟨w,3,none⟩ (by show w.heap.size<_;omega) (λe=>by have C:w=g:=Ql e;omega)).trans Hc.o.2.2.2.2.2⟩⟩);obtain ⟨HK,HW⟩:=hg.o.kept (dT.grown Ha Y.o.notInt);have HF:=qI (show ∃ a c,bB k g (n+1) ({ x with da:=a,dc:=c } :: m)/\iW k { x with da:=a,dc:=c }/\aY k { x with da:=a,dc:=c }=aY w x from ⟨T,c',X,HK,HW.trans hc.o⟩);have H9:=qI (show aQ k j z A u (bu l d) (fM l d) from (Ha.block j (by omega) λe=>V (Ql e)).trans ((HP.o.block j (by omega)).trans P.o));have H4:=qI ((H.o.trans (bQ.of_below HP.o)).trans (bQ.of_grown Ha (.inr rfl)));clear X Ha HK HW;refine B.o _ _ H8.o λhHeld=>?_;clear B K;refine Qn (by kernel_rfl) ?_ _
    go_wp2
    go_ret;exact ⟨by rw [Hh.o,if_neg (by rw [t.o];decide)];rfl,⟨H9.o,H4.o,λr=>absurd (by rw [Hh.o,if_neg (by rw [t.o];decide)]) r,λ_=>HF.o⟩⟩
 ·have Z:=DT o;have Hh:=qI (show pu l d (m.any λy=>decide (y.pod=x.pod/\y.cont=x.cont))=11 from by unfold pu;rw [if_pos o];exact Z);rw [Z,show aL ((11:Nat):Int)=.iface 108 (11:Int) from rfl]
  go_wp2
  go_ret;exact ⟨by rw [Hh.o];rfl,⟨P.o,H.o,λ_=>Hs.o,λr=>by rw [Hh.o] at r;cases r⟩⟩
end
section
open RowKit Go.ChangeMaps Go.Maps Go.WideShapes
def StrKeys (D:DataW Unit):Prop:=∃ es,D=.map es/\∀ p∈es,∃ s:ByteArray,p.1=Lit.string s.data.toList
def gU (w:World) (B n:Nat) (f:ByteArray->Option Int):Prop:=
 ∃ D:DataW Unit,w.ownsMap prog 9 (plainElem prog 3) B n D/\StrKeys D/\∀ s:ByteArray,D.atKey (.string s.data.toList) (.lit (.int .i64 0))=.lit (.int .i64 ((f s).getD 0))/\Go.Maps.has D (.string s.data.toList)=(f s).isSome
theorem gU.block {w':World} (h:gU w B n f) (b:w'.heap[B]?=w.heap[B]?):gU w' B n f:=by
 obtain ⟨D,⟨d,a,e,r⟩,c⟩:=h;exact ⟨D,⟨d,a,b.trans e,r⟩,c⟩
theorem gU.lt (h:gU w B n f):B<w.heap.size:=by
 obtain ⟨D,a,_⟩:=h;exact a.lt
theorem gU.alloc (h:gU w B n f) (o:Obj):gU (w.alloc o) B n f:=h.block (Below.heap_alloc _ _ _ h.lt)
theorem gU.made (w:World):gU (w.alloc (.map #[] 0)) w.heap.size 0 (λ_=>none):=
 ⟨.map [],World.ownsMap_made w _ _ _,⟨[],rfl,λ_ a=>(List.not_mem_nil a).elim⟩,λ_=>⟨rfl,rfl⟩⟩
theorem DU {D:DataW Unit} (c:StrKeys D):StrKeys (D.put (.string k.data.toList) (.lit (.int .i64 v))):=by
 obtain ⟨b,rfl,Ha⟩:=c;refine ⟨putKey (.string k.data.toList) (.lit (.int .i64 v)) b,rfl,λp a=>?_⟩;unfold putKey at a
 rcases List.mem_cons.1 ((insert_perm _ _).mem_iff.1 a) with rfl|a
 ·exact ⟨k,rfl⟩
 ·exact Ha p (List.mem_filter.1 a).1
theorem DV {D:DataW Unit} (a:w0.ownsMap prog 9 (plainElem prog 3) B n0 D) (b:∀ s:ByteArray,D.atKey (.string s.data.toList) (.lit (.int .i64 0))=.lit (.int .i64 ((f s).getD 0))/\Go.Maps.has D (.string s.data.toList)=(f s).isSome) (s:ByteArray) :
  (D.put (.string k.data.toList) (.lit (.int .i64 v))).atKey (.string s.data.toList) (.lit (.int .i64 0))=.lit (.int .i64 ((dR f k (some v) s).getD 0))/\Go.Maps.has (D.put (.string k.data.toList) (.lit (.int .i64 v))) (.string s.data.toList)=(dR f k (some v) s).isSome:=by
 unfold dR
 by_cases e:s=k
 ·subst e;have Ha:WideAt.IsKeyLit (Lit.string s.data.toList):=trivial;rw [Go.Maps.atKey_put_same a.isMap Ha,Go.Maps.has_put_same a.isMap Ha,if_pos rfl];exact ⟨rfl,rfl⟩
 ·have Hb:(Lit.string s.data.toList)≠(Lit.string k.data.toList):=by
   intro h;injection h with h
   exact e (DO h)
  rw [Go.Maps.atKey_put_other Hb,Go.Maps.has_put_other Hb,if_neg e];exact b s
theorem DW {D:DataW Unit} (b:w0.ownsMap prog 9 (plainElem prog 3) B n0 D) (d:StrKeys D) (a:∀ s:ByteArray,D.atKey (.string s.data.toList) (.lit (.int .i64 0))=.lit (.int .i64 ((f s).getD 0))/\Go.Maps.has D (.string s.data.toList)=(f s).isSome)
  (c:w.ownsMap prog 9 (plainElem prog 3) B n (D.put (.string k.data.toList) (.lit (.int .i64 v)))):gU w B n (dR f k (some v)):=⟨_,c,DU d,DV b a⟩
theorem RX {D:DataW Unit} (i:w0.ownsMap prog 9 (plainElem prog 3) B n0 D) (c:StrKeys D) (g:∀ s:ByteArray,D.atKey (.string s.data.toList) (.lit (.int .i64 0))=.lit (.int .i64 ((f s).getD 0))/\Go.Maps.has D (.string s.data.toList)=(f s).isSome)
  (b:w.ownsMap prog 9 (plainElem prog 3) B n (D.del (.string k.data.toList))):gU w B n (dR f k none):=by
 refine ⟨_,b,?_,λs=>?_⟩
 ·obtain ⟨d,rfl,Hb⟩:=c;refine ⟨delKey (.string k.data.toList) d,rfl,λp a=>?_⟩;unfold delKey at a;exact Hb p (List.mem_filter.1 a).1
 ·unfold dR
  by_cases e:s=k
  ·subst e;have Hc:WideAt.IsKeyLit (Lit.string s.data.toList):=trivial;rw [Go.Maps.atKey_del_same,Go.Maps.has_del_same,if_pos rfl];exact ⟨rfl,rfl⟩
  ·have Ha:(Lit.string s.data.toList)≠(Lit.string k.data.toList):=by
    intro h;injection h with h
    exact e (DO h)
   rw [Go.Maps.atKey_del_other Ha,Go.Maps.has_del_other Ha,if_neg e];exact g s
theorem RY {f:ByteArray->Option Int} {D:DataW Unit} (c:StrKeys D) (b:∀ s:ByteArray,D.atKey (.string s.data.toList) (.lit (.int .i64 0))=.lit (.int .i64 ((f s).getD 0))/\Go.Maps.has D (.string s.data.toList)=(f s).isSome):Go.Maps.size D=0↔∀ k,f k=none:=by
 obtain ⟨d,rfl,Ha⟩:=c;rw [Go.Maps.size_eq,List.length_eq_zero_iff];constructor
 ·rintro rfl k
  have:=(b k).2
  rw [Go.Maps.has_eq] at this;cases hf:f k with
  | none=>rfl
  | some v=>rw [hf] at this;cases this
 ·intro h;cases d with
  | nil=>rfl
  | cons p l=>
   obtain ⟨s,hs⟩:=Ha p (by simp);have a:=(b s).2;rw [h s,Go.Maps.has_eq,List.any_cons,hs,WideAt.sameKey_self (show WideAt.IsKeyLit (Lit.string s.data.toList) from trivial)] at a;cases a
end
abbrev jx:=λ(x0:ByteArray) (x1 x2 x3 x4:Int) (x5:Option Addr) (x6 x7:Nat)=>(.cells #[x0,x1,x2,x3,x4,.slice x5 x6 x7] 65:Obj)
abbrev qX:=(.cells #[.string ⟨#[]⟩,(0:Int),.slice none 0 0] 49:Obj)
theorem DX (nm:ByteArray) (pr:Int) (cs:List aA) (v:Value) (w:World) (h:aZ w v cs) (hl:cs.length<=1000) (B:∀ k,k<cs.length->(ae cs k).ds.length<=1000):Calls prog 29 #[.agg #[nm,pr,v]] w λe w'=>∃ d c,e=.returned (.agg #[nm,pr,.slice d cs.length c])/\aZ (fresh w w') (.slice d cs.length c) cs/\Below w w w':=by
 have HR:=qI B;have L:=qI (((Q0 w w).alloc (lR) (.cells #[nm,pr,v] 49)).alloc (by simp) (qX));have M:=qI (QD v cs _ w h (aM.of_below L.o) hl);obtain ⟨ca,cc,rfl,H5,_⟩:=h;clear H5 B;have sz:((w.alloc (.cells #[nm,pr,.slice ca cs.length cc] 49)).alloc (qX)).heap.size=w.heap.size+2:=by simp
 have HW:=qI (b6 (aU w (.cells #[nm,pr,.slice ca cs.length cc] 49) rfl) (qX));have HZ:=qI (aU (w.alloc (.cells #[nm,pr,.slice ca cs.length cc] 49)) (qX) (n:=w.heap.size+1) (by simp))
 go_enter func29,ntmps29
 go_wp2_with fail
 generalize ((w.alloc (.cells #[nm,pr,.slice ca cs.length cc] 49)).alloc (qX))=U at *;refine M.o.mono ?_;rintro e s ⟨d,c,rfl,Hm,I,Hf⟩;have Hp:=qI Hm;obtain ⟨g,dv,O⟩:∃ (g:Nat) (dv:Nat->Value),0<cs.length->d=some ⟨g,0,none⟩/\ex s U g 6 cs.length (λk=>dF (ae cs k) (dv k))/\∀ k,k<cs.length->bO w (dv k) (ae cs k).ds:=by
  by_cases x:0<cs.length
  ·obtain ⟨g,dv,hh⟩:=I x;exact ⟨g,dv,λ_=>hh⟩
  ·exact ⟨0,λ_=>.nilIface,λh=>absurd h x⟩
 have Ht:=(Hf.block w (by omega)).trans HW.o;have T:=(Hf.block (w.heap.size+1) (by omega)).trans HZ.o;have z2:cl s w (2) (.slice ca cs.length cc):=aa Ht 2;have G:=bw Ht 2;have H:Hu ((s.setCell ⟨w,2,none⟩ (.slice d cs.length c)).heap[w.heap.size]?=some (.cells #[nm,pr,.slice d cs.length c] 49 (0,0))):=aO Ht 2 _;have H9:Hu ((s.setCell ⟨w,2,none⟩ (.slice d cs.length c)).heap[w.heap.size+1]?=some (.cells #[.string ⟨#[]⟩,(0:Int),.slice none 0 0] 49 (0,0))):=(set_other (by omega)).trans T;have Z:=qI ((L.o.trans (Hf.mono (by omega))).setCell (p:=⟨w,2,none⟩) (lR) (.slice d cs.length c));have C:Hu (0<cs.length->d=some ⟨g,0,none⟩/\ex (s.setCell ⟨w,2,none⟩ (.slice d cs.length c)) U g 6 cs.length (λk=>dF (ae cs k) (dv k))/\∀ k,k<cs.length->bO w (dv k) (ae cs k).ds):=λx=>by
  obtain ⟨q1,R,q3⟩:=O x;exact ⟨q1,R.keep (set_other (by have:=R.base;omega)) (by simp),q3⟩
 have HU:w.heap.size+2<=(s.setCell ⟨w,2,none⟩ (.slice d cs.length c)).heap.size:=by have:=Hf.size;simp;omega
 have zz:cl (s.setCell ⟨w,2,none⟩ (.slice d cs.length c)) w (2) (.slice d cs.length c):=aa H.o 2;have H8:=qI Hf;have hn:Hu (∀ j,j≠w.heap.size->(s.setCell ⟨w,2,none⟩ (.slice d cs.length c)).heap[j]?=s.heap[j]?):=λj t=>set_other t
 clear Hm I O Hf M Ht T
 go_wp2_with fail
 generalize hW2:s.setCell ⟨w,2,none⟩ (.slice d cs.length c)=P at *;clear hW2 z2 G
 go_loopw [12,3] (λi i3 wr=>∃ (k:Nat) (y:Nat->Value),k<=cs.length/\i=.int .i64 k/\Apart (λj=>U.heap.size<=j) P wr/\Hu (0<cs.length->ex wr U g 6 cs.length (λj=>dF (ae cs j) (y j)))/\Hu (∀ j,j<k->bO (av (λb=>b<U.heap.size\/b=g) wr) (y j) (ae cs j).ds)/\Hu (∀ j,k<=j->y j=dv j)) (λi _ _=>cs.length - (intOf i).toNat)
 case atStart=>exact ⟨0,dv,by omega,rfl,Apart.refl _ _,λh=>(C.o h).2.1,λj t=>by omega,λj _=>rfl⟩
 case round=>
  obtain ⟨k,y,hk,rfl,Hs,Hj,Hh,Hg⟩:=hrel;have E:=qI Hs;have ho:=Hs.size;have Hl:=(Hs.block w (by omega) (by omega)).trans H.o;have Hb:=(Hs.block (w.heap.size+1) (by omega) (by omega)).trans H9.o;have H1:=qI Hl;have hc:=qI Hb;have hm:Hu (Below U U wr->True):=λ_=>trivial
  by_cases r:k<cs.length
  ·obtain ⟨rfl,_,Hy⟩:=C.o (by omega);have He:=Hj.o (by omega);have Hi:=λj t=>He.cell k r j t
   rw [Hg.o k (lR)] at Hi;have x0:cl wr g (k*6) (ae cs k).nm:=Hi 0 (by decide);have x1:cl wr g (k*6+1) ((ae cs k).am:Int):=Hi 1 (by decide);have x2:cl wr g (k*6+2) ((ae cs k).ab:Int):=Hi 2 (by decide);have x3:cl wr g (k*6+3) ((ae cs k).cm:Int):=Hi 3 (by decide);have x4:cl wr g (k*6+4) ((ae cs k).cb:Int):=Hi 4 (by decide);have x5:cl wr g (k*6+5) (dv k):=Hi 5 (by decide);have Hc:=Hy k r;obtain ⟨l,f,V,_⟩:=id Hc;rw [V] at x5 Hc;have HQ:=HR.o k r;have hf:=He.lt;have HX:=He.base;have HK:(k:Int)<(cs.length:Int):=by omega
   clear He Hy V Hl Hb Hi;generalize (ae cs k).nm=cn at *;generalize (ae cs k).am=c1 at *;generalize (ae cs k).ab=c2 at *;generalize (ae cs k).cm=c3 at *;generalize (ae cs k).cb=q at *;generalize hxs:(ae cs k).ds=ds at *;have HT:=qI hxs;clear hxs;have hp:(wr.alloc (jx cn c1 c2 c3 q l ds.length f)).heap.size=wr.heap.size+1:=by simp
   have HS:=qI (show cl (wr.alloc (jx cn c1 c2 c3 q l ds.length f)).drew w (2) (.slice g cs.length c)/\cl (wr.alloc (jx cn c1 c2 c3 q l ds.length f)).drew wr (5) (.slice l ds.length f) from ⟨aa (W:=(wr.alloc (jx cn c1 c2 c3 q l ds.length f)).drew) (b6 H1.o (jx cn c1 c2 c3 q l ds.length f)) 2,aa (W:=(wr.alloc (jx cn c1 c2 c3 q l ds.length f)).drew) (aU wr (jx cn c1 c2 c3 q l ds.length f) rfl) 5⟩);have Hw:Below wr wr (wr.alloc (jx cn c1 c2 c3 q l ds.length f)).drew:=bF ((Q0 wr wr).alloc (lR) (jx cn c1 c2 c3 q l ds.length f));have X:bO (wr.alloc (jx cn c1 c2 c3 q l ds.length f)).drew (.slice l ds.length f) ds:=by
    refine Hc.le ⟨by simp [World.drew];omega,λb o v e=>?_⟩;have H0:b<w.heap.size:=Q3 w ⟨b,o,none⟩ e;have e1:(wr.alloc (jx cn c1 c2 c3 q l ds.length f)).drew.heap[b]?=wr.heap[b]?:=Hw.block b (by omega);have e2:wr.heap[b]?=P.heap[b]?:=E.o.block b (by omega) (by omega);exact (World.cell?_of_block (a:=⟨b,o,none⟩) (e1.trans (e2.trans (Z.o.block b H0)))).trans e
   have Q:=qI (QB (.slice l ds.length f) ds (wr.alloc (jx cn c1 c2 c3 q l ds.length f)).drew X HQ);have J:=qI Hw;clear X Hw Hc
   go_wp2_with fail
   refine wp_region_held_drew (S:=(λw'=>cl w' w (2) (.slice g cs.length c)/\cl w' wr (5) (.slice l ds.length f))) (by kernel_rfl) HS.o λF=>?_;refine tk 0 ?_;refine tk 1 ?_;refine tk 2 ?_;refine tk 3 ?_;refine tk 4 ?_;refine rd 5 λK A=>?_;go_simp
   go_wp2_with fail
   refine Q.o.mono ?_;rintro e m ⟨u,nc,rfl,N,Hn⟩;have Hv:Below wr wr m:=J.o.trans (Hn.mono J.o.size);have he:wr+1<=m.heap.size:=by have:=Hn.size;simp [World.drew] at this;omega
   have Hx:=qI (show cl m w (2) (.slice g cs.length c)/\cl m wr (5) (.slice l ds.length f) from ⟨(Hn.cell (p:=⟨w,2,none⟩) (by simp [World.drew];omega)).trans HS.o.1,(Hn.cell (p:=⟨wr,5,none⟩) (by simp [World.drew])).trans HS.o.2⟩);have Ha:=(Hj.o (by omega)).below Hv;have y5:cl m g (k*6+5) (y k):=Ha.cell k r 5 (by decide);have f5:=Ha.free (k*6+5);have HV:=qI Ha;have Y:=qI Hv;have H6:=qI N;clear N Hn Hv Ha Q
   go_wp2_with fail
   refine A.o _ _ Hx.o λF=>?_;clear A K;refine tk 6 ?_;refine tk 7 ?_;have Hr:Hu (∀ b,b≠g->(m.setCell ⟨g,k*6+5,none⟩ (.slice u ds.length nc)).heap[b]?=m.heap[b]?):=λb hb=>set_other hb
   have Hq:(m.setCell ⟨g,k*6+5,none⟩ (.slice u ds.length nc)).heap.size=m.heap.size:=by simp
   have H2:=qI ((Apart.of_below (K:=λj=>U.heap.size<=j) Y.o).trans (Apart.setCell (K:=λj=>U.heap.size<=j) HX m (k*6+5) (.slice u ds.length nc)));have HP:=qI (HV.o.set k 5 r (by decide) (.slice u ds.length nc) (λj=>dF (ae cs j) (if j=k then .slice u ds.length nc else y j)) (λi _ hi=>by simp [hi]) (λi hi=>by
    match i,hi with
    | 0,_=>simp [dF]
    | 1,_=>simp [dF]
    | 2,_=>simp [dF]
    | 3,_=>simp [dF]
    | 4,_=>simp [dF]
    | 5,_=>simp [dF]) rfl)
   have H7:=qI (show cl (m.setCell ⟨g,k*6+5,none⟩ (.slice u ds.length nc)) w (2) (.slice g cs.length c)/\cl (m.setCell ⟨g,k*6+5,none⟩ (.slice u ds.length nc)) wr (5) (.slice l ds.length f) from ⟨(World.cell?_of_block (a:=⟨w,2,none⟩) (Hr.o w (by omega))).trans Hx.o.1,(World.cell?_of_block (a:=⟨wr,5,none⟩) (Hr.o wr (by omega))).trans Hx.o.2⟩);refine rd 8 λK A=>?_;go_simp;refine A.o _ _ H7.o λF=>?_;clear A K;generalize m.setCell ⟨g,k*6+5,none⟩ (.slice u ds.length nc)=W5 at *;refine Qn (by kernel_rfl) ?_ _;clear F
   go_wp2
   go_roundw
   case rel=>
    refine ⟨k+1,λj=>if j=k then .slice u ds.length nc else y j,by omega,by go_num,E.o.trans H2.o,λ_=>HP.o,λj t=>?_,λj t=>?_⟩
    ·by_cases z:j=k
     ·subst z;dsimp only;rw [if_pos rfl,HT.o];refine H6.o.le (bP (λb Hf Ho=>?_) (by rw [Hq];exact lR));have Ho:¬ b<wr.heap.size+1:=by simpa [World.drew] using Ho
      exact ⟨by omega,Hr.o b (by omega)⟩
     ·dsimp only;rw [if_neg z];refine (Hh.o j (by omega)).le (bP (λb Hf Ho=>⟨Ho,?_⟩) (by rw [Hq];omega));rw [Hr.o b (by omega)];exact Y.o.block b Hf
    ·dsimp only;rw [if_neg (by omega)];exact Hg.o j (by omega)
   case measure=>simp [intOf];omega
  ·have H3:k=cs.length:=by omega
   subst H3;have Hz:Hu (aZ (fresh U wr) (.slice d cs.length c) cs):=by
    unfold Hu
    by_cases x:0<cs.length
    ·obtain ⟨ha,_,Hy⟩:=C.o x;rw [ha];exact (Qy (Hj.o x) rfl Hp.o λj t=>(Hh.o j t).le (bP (λb _ Ho=>⟨by omega,rfl⟩) (lR)))
    ·exact ⟨d,c,rfl,Hp.o,λh=>absurd h x⟩
   obtain ⟨u0,u1,u2⟩:cl wr w (0) nm/\cl wr w (1) pr/\cl wr w (2) (.slice d cs.length c):=⟨aa Hl 0,aa Hl 1,aa Hl 2⟩;obtain ⟨v0,v1,v2⟩:cl wr (w.heap.size+1) (0) (.string ⟨#[]⟩)/\cl wr (w.heap.size+1) (1) (0:Int)/\cl wr (w.heap.size+1) (2) (.slice none 0 0):=⟨aa Hb 0,aa Hb 1,aa Hb 2⟩;have f0:=bw Hb 0;have f1:=bw Hb 1;have f2:=bw Hb 2;have Hk:=qI (aO (aO (aO hc.o 0 nm) 1 pr) 2 (.slice d cs.length c));have H4:=qI ((((E.o.below Z.o (lR) (λj t=>by omega)).setCell (p:=⟨w.heap.size+1,0,none⟩) (Nat.le_succ _) nm).setCell (p:=⟨w.heap.size+1,1,none⟩) (Nat.le_succ _) pr).setCell (p:=⟨w.heap.size+1,2,none⟩) (Nat.le_succ _) (.slice d cs.length c));have HY:Hu (aZ (fresh w (((wr.setCell (w.heap.size+1:Nat) nm).setCell ⟨w.heap.size+1,1,none⟩ pr).setCell ⟨w.heap.size+1,2,none⟩ (.slice d cs.length c))) (.slice d cs.length c) cs):=Hz.o.le (pj (λj h1 _=>(set_other (by omega)).trans ((set_other (by omega)).trans (set_other (by omega)))) (by simp) (by omega));clear Hl Hb
   go_wp2_with fail
   generalize ((wr.setCell (w.heap.size+1:Nat) nm).setCell ⟨w.heap.size+1,1,none⟩ pr).setCell ⟨w.heap.size+1,2,none⟩ (.slice d cs.length c)=D at *;(try simp only [Exit.inBlock,Exit.then]);refine bodyPost_ret (v:=.agg #[nm,pr,.slice d cs.length c]) ?_ rfl ⟨d,c,rfl,HY.o,H4.o⟩;have r0:cl D (w.heap.size+1) (0) nm:=aa Hk.o 0;have r1:cl D (w.heap.size+1) (1) pr:=aa Hk.o 1;have r2:cl D (w.heap.size+1) (2) (.slice d cs.length c):=aa Hk.o 2;rw [AE rfl];clear u0 u1 u2 v0 v1 v2 f0 f1 f2;go_simp
theorem DY (Z Bd o R:Nat) (B:List RV) (w:World) (M:fT w Z Bd o) (F:bB w o R B) (S:B.length<=1000) (hd:∀ x∈B,bm w x/\x.dn<=1000) :
  Calls prog 45 #[Z] w λe w'=>(∃ v f,e=.returned v/\lG w w' v f/\(∀ y∈f,(bm w' y/\y.dn<=1000)/\kF w y)/\(f.map (aI w')).Perm (B.map (aI w))/\nY f)/\Below w w w':=by
 obtain ⟨_,c1⟩:=M.cells;have Hs:=(Q0 w w).alloc (lR) (.cells #[.map o] 149);have Hw:=qI Hs;have Y:=qI (RB w o R B (w.alloc (.cells #[.map o] 149)) (by simp) (F.block (Hs.block o F.lt)) S);have N:=qI hd;have H5:(w.alloc (.cells #[.map o] 149)).heap.size=w.heap.size+1:=by simp
 clear F M hd Hs
 go_enter func45,ntmps45
 go_wp2_with fail
 refine (Re _ _).mono ?_;rintro e w1 ⟨rfl,rfl⟩
 go_wp2_with fail
 generalize w.alloc (.cells #[.map o] 149)=W1 at *;refine Y.o.mono ?_;rintro e w2 ⟨⟨v,d,rfl,hq,Hk,L⟩,P⟩;have HZ:=qI (Hw.o.trans (P.mono Hw.o.size));have H7:d.length<=1000:=by rw [Hk.length_eq];exact S
 have HQ:=qI (show ∀ j,j<d.length->bm w (rv d j)/\(rv d j).dn<=1000 from λj q=>N.o _ (Hk.mem_iff.1 (n9 q)));have HW:=qI (Hk.map (aI w));have HU:=qI L;obtain ⟨a,c,rfl,H6,hr⟩:=hq;obtain ⟨g,G,Hc⟩:∃ g,(0<d.length->a=some ⟨g,0,none⟩/\w.heap.size<g/\g<w2.heap.size)/\jw w2 g d:=by
  by_cases p:0<d.length
  ·obtain ⟨g,ha,H3,Hh,hc⟩:=hr p;exact ⟨g,λ_=>⟨ha,by omega,Hh⟩,hc⟩
  ·exact ⟨0,λh=>absurd h p,λk hk=>by omega⟩
 have D:=qI G;have Hi:=qI Hc;clear G Hc hr Hk L P Y Hw N c1
 go_wp2
 go_loopw [14] (λi wr=>∃ (k:Nat) (f:List RV),k<=d.length/\i=.int .i64 k/\f.length=d.length/\Below w w wr/\jw wr g f/\(0<d.length->g<wr.heap.size)/\Hu (∀ j,j<k->bm wr (rv f j)/\aI wr (rv f j)=aI w (rv d j)/\(rv f j).dn<=1000/\nZ g (rv f j)/\kF w (rv f j))/\Hu (∀ j,k<=j->j<d.length->rv f j=rv d j)) (λi _=>d.length - (intOf i).toNat)
 case atStart=>exact ⟨0,d,by omega,rfl,rfl,HZ.o,Hi.o,λh=>(D.o h).2.2,λj q=>by omega,λj _ _=>rfl⟩
 case round=>
  obtain ⟨k,f,hk,rfl,Hl,r,u,Hj,Ha,Hb⟩:=hrel
  by_cases A:k<d.length
  ·obtain ⟨rfl,H3,_⟩:=D.o (by omega);have J:=Hj (by omega);have C:=qI r;have K:=qI u;have He:=u k (by omega);rw [Hb.o k (lR) A] at He;obtain ⟨⟨c0,c1,c2,c3⟩,f0,f1,f2,f3⟩:=He;obtain ⟨Hz,Q⟩:=HQ.o k A;obtain ⟨I,H⟩:=Hz.below (r.alloc r.size (.cells #[(rv d k).pod,(rv d k).cont,.int .u64 (rv d k).cpus,.slice (rv d k).da (rv d k).dn (rv d k).dc] 129)) λ_ _ _ h=>h;have HI:=qI (DS (rv d k) _ I Q);have Hy:=qI H;clear r u Hj I H Hz;generalize hx:rv d k=x at *;have HX:=qI hx;clear hx
   go_wp2_with fail
   refine HI.o.mono ?_;rintro e n ⟨l,m,rfl,U,X,Ho,HL⟩;have O:=(Q0 wr wr).alloc (lR) (em x);have Hg:=O.trans (HL.mono (by simp));have HT:=qI Hg;have H2:=qI (C.o.trans (Hg.mono C.o.size));have Hq:=K.o.block (Hg.block g J);have H0:=qI Hq;have HO:=qI U.1;have Hn:=qI (X.trans Hy.o);have HS:=qI (show kF w { x with da:=l,dc:=m } from λp=>by
    obtain ⟨T,Hh,Hf⟩:=Ho p;refine ⟨T,Hh,?_⟩
    simp at Hf
    have:=C.o.size
    omega)
   have Hx:=qI (show nZ g { x with da:=l,dc:=m } from λp g' o' e=>by
    obtain ⟨T,Hh,Hf⟩:=Ho p;rw [Hh] at e;cases e
    simp at Hf
    omega)
   have Hf:g<n.heap.size:=Q1 J Hg.size;obtain ⟨⟨d0,d1,d2,d3⟩,e0,e1,e2,e3⟩:=Hq k (by omega);clear U X Ho HL O Hg Hq HI Hy K c0 c1 c2 c3 f0 f1 f2 f3;generalize rv f k=z at *
   go_wp2_with fail
   have H4:=qI (H0.o.set (k:=k) (by omega) { x with da:=l,dc:=m });have HV:=qI (RL H2.o (g:=g) (by omega) (k*4) { x with da:=l,dc:=m });have W:=qI λb (t:b≠g)=>RM n g (k*4) { x with da:=l,dc:=m } b t;have Hp:(fm n g (k*4) { x with da:=l,dc:=m }).heap.size=n.heap.size:=by simp [fm]
   have Hv:=qI (show ∀ j,j<k+1->bm (fm n g (k*4) { x with da:=l,dc:=m }) (rv (f.set k { x with da:=l,dc:=m }) j)/\aI (fm n g (k*4) { x with da:=l,dc:=m }) (rv (f.set k { x with da:=l,dc:=m }) j)=aI w (rv d j)/\(rv (f.set k { x with da:=l,dc:=m }) j).dn<=1000/\nZ g (rv (f.set k { x with da:=l,dc:=m }) j)/\kF w (rv (f.set k { x with da:=l,dc:=m }) j) from λj q=>by
    rw [xz f k j _ (by omega)]
    by_cases e:j=k
    ·rw [if_pos e];obtain ⟨E,s⟩:=xA (w':=fm n g (k*4) { x with da:=l,dc:=m }) HO.o Hx.o (λb t _=>W.o b t) (by omega);refine ⟨E,?_,Q,Hx.o,HS.o⟩;subst e;rw [HX.o];unfold aI;rw [s,Hn.o]
    ·rw [if_neg e];obtain ⟨E,s,h3,V,h9⟩:=Ha.o j (by omega);obtain ⟨h5,h6⟩:=E.below HT.o λ_ _ _ h=>h;obtain ⟨h7,h8⟩:=xA (w':=fm n g (k*4) { x with da:=l,dc:=m }) h5 V (λb t _=>W.o b t) (by omega);refine ⟨h7,?_,h3,V,h9⟩;rw [<- s];unfold aI;rw [h8,h6])
   have Ht:=qI (show ∀ j,k+1<=j->j<d.length->rv (f.set k { x with da:=l,dc:=m }) j=rv d j from λj E s=>by
    rw [xz f k j _ (by omega),if_neg (by omega)];exact Hb.o j (by omega) s)
   exact ⟨⟨k+1,f.set k { x with da:=l,dc:=m },by omega,by go_num,by simp [Hl],HV.o,H4.o,λ_=>by rw [<- Hp] at Hf;exact Hf,Hv,Ht⟩,by simp [intOf];omega⟩
  ·have H1:k=d.length:=by omega
   subst H1;have C:=qI r;have Hr:=qI (RO Hl λj q=>(Ha.o j q).2.1);have Hm:=qI (RN Hl (λj q=>by
    have:=(Ha.o j q).2.1
    unfold aI at this;simp only [Rn.mk.injEq] at this;exact ⟨this.1,this.2.1⟩) HU.o)
   have Hn:=qI (show ∀ y∈f,(bm wr y/\y.dn<=1000)/\kF w y from λy hy=>by
    obtain ⟨i,hi,rfl⟩:=List.getElem_of_mem hy
    have:=Ha.o i (by omega)
    simp [rv,hi] at this
    exact ⟨⟨this.1,this.2.2.1⟩,this.2.2.2.2⟩)
   have HY:=qI (show lG w wr (.slice a d.length c) f from ⟨a,c,by rw [Hl],by omega,λp=>⟨g,(D.o (by omega)).1,by have:=(D.o (by omega)).2.1;omega,Hj (by omega),u⟩⟩);clear r u Hj Ha Hb
   go_wp2
   go_ret;exact ⟨⟨_,f,rfl,HY.o,Hn.o,by rw [Hr.o];exact HW.o,Hm.o⟩,C.o⟩
theorem RZ (x v:Option Addr) (F C:Nat) (a c:List Int) (w:World) (I:a.length<=1000) (L:c.length<=1000) (l:0<a.length->∃ b o,x=some ⟨b,o,none⟩/\b<w.heap.size/\∀ k,k<a.length->w.cell? ⟨b,o+k,none⟩=some (.int .i64 (a.getD k 0))) (m:0<c.length->∃ b o,v=some ⟨b,o,none⟩/\b<w.heap.size/\∀ k,k<c.length->w.cell? ⟨b,o+k,none⟩=some (.int .i64 (c.getD k 0))):Calls prog 146 #[.slice x a.length F,.slice v c.length C] w λe w'=>e=.returned (.bool (decide (a=c)))/\∃ n,w'=w.drewN n:=by
 by_cases d:a.length=c.length
 ·have Hg:((a.length:Int) != (c.length:Int))=false:=by rw [d];simp
  have M:=qI l;have G:=qI m;have Hb:=qI d;clear l m d
  go_enter func146,ntmps146
  go_wp2
  go_loopw [13] (λi wr=>∃ k n:Nat,k<=a.length/\i=.int .i64 k/\wr=w.drewN n/\Hu (∀ j,j<k->a.getD j 0=c.getD j 0)) (λi _=>a.length - (intOf i).toNat)
  case atStart=>exact ⟨0,0,by omega,rfl,rfl,λj K=>by omega⟩
  case round=>
   obtain ⟨k,n,O,rfl,rfl,Ha⟩:=hrel
   by_cases g:k<a.length
   ·have Hc:k<c.length:=by rw [<- Hb.o];exact g
    obtain ⟨b1,E,rfl,Hj,He⟩:=M.o (by omega);obtain ⟨b2,A,rfl,Hl,Hf⟩:=G.o (by omega);have N:cl w b1 (E+k) (a.getD k 0:Int):=He k g;have D:cl w b2 (A+k) (c.getD k 0:Int):=Hf k Hc;have Hh:(k:Int)<(a.length:Int):=by omega
    have Hk:(k:Int)<(c.length:Int):=by omega
    clear He Hf;obtain ⟨p,r⟩:∃ p,p=a.getD k 0:=⟨_,rfl⟩;obtain ⟨q,t⟩:∃ q,q=c.getD k 0:=⟨_,rfl⟩;rw [<- r] at N;rw [<- t] at D;have u:=qI r;have y:=qI t;clear r t
    by_cases f:p=q
    ·have z:=qI f;have J:(p != q)=false:=by rw [f];simp
     clear f
     go_wp2
     go_quiet (fail)
     go_wp2
     go_roundw
     case rel=>
      refine ⟨k+1,n+nq,by omega,by go_num,rfl,λj K=>?_⟩
      by_cases s:j=k
      ·subst s;rw [<- u.o,<- y.o];exact z.o
      ·exact Ha.o j (by omega)
     case measure=>simp [intOf];omega
    ·have J:(p != q)=true:=by simp [f]
     have h:Hu (decide (a=c)=false):=Q7 λe=>f (by rw [u.o,y.o,e])
     clear f
     go_wp2
     go_quiet (fail)
     go_wp2
     go_ret;exact ⟨by rw [h.o];rfl,n+nq,by rw [World.drewN_drewN]⟩
   ·have Hi:k=a.length:=by omega
    have h:Hu (decide (a=c)=true):=Qc (List.ext_getElem Hb.o λi H B=>by
     have:=Ha.o i (by omega)
     simpa [H,B] using this)
    go_wp2
    go_ret;exact ⟨by rw [h.o];rfl,n,rfl⟩
 ·have Hg:((a.length:Int) != (c.length:Int))=true:=by simp;omega
  have h:Hu (decide (a=c)=false):=Q7 λe=>d (by rw [e])
  go_enter func146,ntmps146
  go_wp2
  go_ret;exact ⟨by rw [h.o];rfl,0,rfl⟩
theorem xB (b:ByteArray) (c:Int) (cv a:Value) (nm:ByteArray) (w:World):Calls prog 90 #[.agg #[b,c,cv,a],nm] w λe w'=>e=.returned (cz b nm:Int)/\Below w w w':=by
 have d:=qI ((Q0 w w).alloc (lR) (.cells #[b,c,cv,a] 101))
 go_enter func90,ntmps90
 go_wp2_with fail
 refine (xw b nm _).mono ?_;rintro e f ⟨rfl,rfl⟩
 go_wp2
 go_ret;exact ⟨rfl,d.o⟩
theorem lI:cz a b<0↔ed a b:=by
 unfold cz ed;have e:bW a b=decide (a.toList<b.toList):=Go.Proofs.bytesLess_eq _ _;rw [e]
 by_cases h:a.toList<b.toList
 ·simp [h]
 ·rw [Q7 h];simp only [Bool.false_eq_true,if_false];constructor
  ·intro c;split at c <;> omega
  ·intro c;exact absurd c h
theorem R0 {a:Nat} (l:a<=hs.length) (g:∀ t,t<a->ed (af hs t).pod.nm nm) (f:∀ t,a<=t->t<hs.length->¬ ed (af hs t).pod.nm nm):dp hs nm=a:=by
 unfold dp;rw [<- List.take_append_drop a hs,List.countP_append];have j:(hs.take a).countP (λh=>decide (h.pod.nm.toList<nm.toList))=(hs.take a).length:=by
  rw [List.countP_eq_length];intro x c;obtain ⟨k,b,rfl⟩:=List.getElem_of_mem c;rw [Qu] at b
  have:=g k (by omega)
  have e:af hs k=(hs.take a)[k]'(by rw [Qu];omega):=by simp [af,show k<hs.length by omega]
  rw [e] at this;exact Qc this
 have i:(hs.drop a).countP (λh=>decide (h.pod.nm.toList<nm.toList))=0:=by
  rw [List.countP_eq_zero];intro x c;obtain ⟨k,b,rfl⟩:=List.getElem_of_mem c;rw [List.length_drop] at b
  have:=f (a+k) (by omega) (by omega)
  have e:af hs (a+k)=(hs.drop a)[k]'(by rw [List.length_drop];omega):=by simp [af,show a+k<hs.length by omega]
  rw [e] at this;have d:¬ ((hs.drop a)[k]'(by rw [List.length_drop];omega)).pod.nm.toList<nm.toList:=this;rw [Q7 d];decide
 rw [j,i,Qu];omega
def dH (hs:List ad) (nm:ByteArray):Bool:=hs.any λh=>decide (h.pod.nm=nm)
theorem xC (e:ky hs) {i j:Nat} (a:i<j) (b:j<hs.length):ed (af hs i).pod.nm (af hs j).pod.nm:=by
 have:=List.pairwise_iff_getElem.1 e i j (by omega) b a
 have d:af hs i=hs[i]'(by omega):=by simp [af,show i<hs.length by omega]
 have c:af hs j=hs[j]:=by simp [af,b]
 rw [d,c];exact this
theorem DZ (i:ky hs) {a:Nat} (g:∀ t,t<a->cz (af hs t).pod.nm nm<0) (f:∀ t,a<=t->t<hs.length->¬ cz (af hs t).pod.nm nm<0) (d:a<hs.length->(af hs a).pod.nm≠nm):dH hs nm=false:=by
 unfold dH;rw [List.any_eq_false];intro x h;obtain ⟨t,b,rfl⟩:=sJ h;intro e;have e:=of_decide_eq_true e
 by_cases c1:t<a
 ·have:=lI.1 (g t c1)
  rw [e] at this;exact sT _ this
 ·by_cases c2:t=a
  ·subst c2;exact d b e
  ·have c:=xC i (show a<t by omega) b;rw [e] at c;exact f a (lR) (by omega) (lI.2 c)
theorem D0:cz a b=0↔a=b:=by
 constructor
 ·intro h;apply Qt;intro Ha
  rcases wk Ha with k|k
  ·have:=lI.2 k;omega
  ·have d:bW b a=true:=by
    have e:bW b a=decide (b.toList<a.toList):=Go.Proofs.bytesLess_eq _ _;rw [e];exact Qc k
   unfold cz at h
   split at h
   ·cases h
   ·first|(rw [if_pos d] at h;cases h)|cases h
 ·rintro rfl;have c:bW a a=false:=by
   have e:bW a a=decide (a.toList<a.toList):=Go.Proofs.bytesLess_eq _ _;rw [e];exact Q7 (sT a)
  unfold cz;rw [c];rfl
theorem R6 (v:Value) (hs:List ad) (nm:ByteArray) (w:World) (h:aX w v hs) (L:hs.length<=100) (q:ky hs):Calls prog 89 #[v,nm,.func (.func 90) #[] #[]] w λe w'=>e=.returned (.tuple #[.int .i64 (dp hs nm:Nat),.bool (dH hs nm)])/\Below w w w':=by
 have Hg:=qI q;obtain ⟨K,c,rfl,I,B⟩:=h;unfold maxLen at I;have A:=qI B;clear B q
 go_enter func89,ntmps89
 go_wp2
 go_loopw [9,10] (λi j wr=>∃ a b:Nat,a<=b/\b<=hs.length/\i=.int .i64 a/\j=.int .i64 b/\Hu (∀ t,t<a->cz (af hs t).pod.nm nm<0)/\Hu (∀ t,b<=t->t<hs.length->0<=cz (af hs t).pod.nm nm)/\Below w w wr) (λi j _=>(intOf j).toNat - (intOf i).toNat)
 case atStart=>exact ⟨0,hs.length,by omega,by omega,rfl,rfl,λt u=>by omega,λt k g=>by omega,Q0 _ _⟩
 case round=>
  obtain ⟨a,b,Hm,G,rfl,rfl,Hf,Hh,Hb⟩:=hrel;have f:=qI Hb
  by_cases C:a<b
  ·obtain ⟨m,Hn⟩:∃ m:Nat,((a:Int)+(b:Int)) / 2=(m:Int):=⟨(a+b) / 2,by omega⟩;have Ho:a<=m:=by omega
   have Hp:m<b:=by omega
   obtain ⟨F,o,cv,d,rfl,He⟩:=A.o (by omega);obtain ⟨H,J,D,E⟩:=((He.below Hb).2 m (by omega)).1;clear He Hb
   by_cases s:cz (af hs m).pod.nm nm<0
   ·have Hk:Hu (∀ t,t<m+1->cz (af hs t).pod.nm nm<0):=λt u=>by
     by_cases e:t=m
     ·rw [e];exact s
     ·exact lI.2 (qA (xC Hg.o (show t<m by omega) (by omega)) (lI.1 s))
    have l:=qI (xB (af hs m).pod.nm (af hs m).pod.pr (cv m) (d m) nm wr);generalize cz (af hs m).pod.nm nm=z at *
    go_wp2_with fail
    refine l.o.mono ?_;rintro e x ⟨rfl,Ha⟩;have Hc:=qI (f.o.trans (Ha.mono f.o.size));clear Ha
    go_wp2
    go_roundw
    case rel=>exact ⟨m+1,b,by omega,by omega,by go_num,rfl,Hk,Hh,Hc.o⟩
    case measure=>simp [intOf];omega
   ·have Hl:Hu (∀ t,m<=t->t<hs.length->0<=cz (af hs t).pod.nm nm):=λt k g=>by
     refine Int.not_lt.1 λn=>?_
     by_cases e:t=m
     ·rw [e] at n;exact s n
     ·exact s (lI.2 (qA (xC Hg.o (show m<t by omega) g) (lI.1 n)))
    have l:=qI (xB (af hs m).pod.nm (af hs m).pod.pr (cv m) (d m) nm wr);generalize cz (af hs m).pod.nm nm=z at *
    go_wp2_with fail
    refine l.o.mono ?_;rintro e x ⟨rfl,Ha⟩;have Hc:=qI (f.o.trans (Ha.mono f.o.size));clear Ha
    go_wp2
    go_roundw
    case rel=>exact ⟨a,m,by omega,by omega,rfl,rfl,Hf,Hl,Hc.o⟩
    case measure=>simp [intOf];omega
  ·have Hi:b=a:=by omega
   subst Hi;have Hj:=qI (R0 G (λt u=>lI.1 (Hf.o t u)) λt k g n=>Int.not_lt.2 (Hh.o t k g) (lI.2 n))
   by_cases y:b<hs.length
   ·obtain ⟨F,o,cv,d,rfl,He⟩:=A.o (by omega);obtain ⟨H,J,D,E⟩:=((He.below Hb).2 b y).1;clear He Hb;have l:=qI (xB (af hs b).pod.nm (af hs b).pod.pr (cv b) (d b) nm wr)
    by_cases r:cz (af hs b).pod.nm nm=0
    ·have p:Hu (dH hs nm=true):=List.any_eq_true.2 ⟨af hs b,mv y,Qc (D0.1 r)⟩;rw [r] at l
     go_wp2_with fail
     refine l.o.mono ?_;rintro e x ⟨rfl,Ha⟩;have Hc:=qI (f.o.trans (Ha.mono f.o.size));clear Ha
     go_wp2
     go_ret2;exact ⟨by rw [Hj.o,p.o];rfl,Hc.o⟩
    ·have p:Hu (dH hs nm=false):=DZ Hg.o Hf.o (λt k g=>Int.not_lt.2 (Hh.o t k g)) λ_ e=>r (D0.2 e);have Hq:(cz (af hs b).pod.nm nm == 0)=false:=by simpa using r
     generalize cz (af hs b).pod.nm nm=z at *
     go_wp2_with fail
     refine l.o.mono ?_;rintro e x ⟨rfl,Ha⟩;have Hc:=qI (f.o.trans (Ha.mono f.o.size));clear Ha
     go_wp2
     go_ret2;exact ⟨by rw [Hj.o,p.o];rfl,Hc.o⟩
   ·have p:Hu (dH hs nm=false):=DZ Hg.o Hf.o (λt k g=>Int.not_lt.2 (Hh.o t k g)) λh=>absurd h y
    go_wp2
    go_ret2;exact ⟨by rw [Hj.o,p.o];rfl,f.o⟩
theorem D1 (v:Value) (hs:List ad) (nm:ByteArray) (w:World) (h:aX w v hs) (f:hs.length<=100) (d:ky hs):Calls prog 49 #[v,nm] w λe w'=>e=.returned (.tuple #[.int .i64 (dp hs nm:Nat),.bool (dH hs nm)])/\Below w w w':=by
 have HS:=qI (R6 v hs nm w h f d);obtain ⟨g,c,rfl,i,_⟩:=h;generalize dp hs nm=a at *;generalize dH hs nm=b at *
 go_enter func49,ntmps49
 go_wp2_with fail
 refine HS.o.mono ?_;rintro e j ⟨rfl,Ha⟩;have Hb:=qI Ha;clear Ha
 go_wp2
 go_ret2;exact ⟨rfl,Hb.o⟩
section
open RowKit Go.Maps
structure R7 (w w':World) (Bd Bm:Nat) (sn sk:Sd) (sv:Value) (n:Nat) (xs:List RV) (p c:ByteArray) (l:Int) (d:Bool) (f:Nat):Prop where
 disk:aQ w' Bd sn sk sv (bu l d) (fM l d)
 o:bQ Bd Bm w w'
 no:f≠0->bB w' Bm n xs
 yes:f=0->bB w' Bm n (xs.filter λx=>!decide (x.pod=p/\x.cont=c))
def pw (l:Int) (d has:Bool):Nat:=if cf l d≠0 then cf l d else if has=true then 0 else 6
theorem R8 (f h b n:Nat) (s t:Sd) (q:Value) (i:List RV) (p c:ByteArray) (l:Int) (d:Bool) (w:World) (o:fT w f h b) (r:bB w b n i) (hd:aQ w h s t q l d) (H:-9223372036854775808<=l/\l<=9223372036854775807) (v:p.size<=7000) (A:c.size<=7000) :
  Calls prog 101 #[f,p,c] w λe w'=>e=.returned (aL ((pw l d (i.any λy=>decide (y.pod=p/\y.cont=c)):Nat):Int))/\R7 w w' h b s t q n i p c l d (pw l d (i.any λy=>decide (y.pod=p/\y.cont=c))):=by
 obtain ⟨K,S,Hx⟩:=qW o r hd;obtain ⟨c0,c1⟩:=o.cells;have Hr:=qI r;have Ht:=qI (qt h s t q l d w hd H);have Hz:=qI o;have L:=r.lt;have O:=hd.lt;have hel:=o.lt;clear o r hd
 go_enter func101,ntmps101
 go_wp2_with fail
 refine Ht.o.mono ?_;rintro e a ⟨rfl,Hy,Hf⟩;have Ho:=qI Hy;have Hp:=qI (bQ.of_grown (B1:=h) (B2:=b) Hf.1 (.inl rfl));have Hj:=qI (Hr.o.block (Hf.1.block b L (by simpa using Hx.symm)));have Hw:=Hz.o.block (Hf.1.block f hel (by simpa using K));obtain ⟨Q,g1⟩:=Hw.cells;have Hn:a=w.heap.size:=Hf.2;clear Hy Hf Hw Ht Hr Hz c0 c1
 by_cases g:cf l d=0
 ·have Hc:=qI (show pw l d (i.any λy=>decide (y.pod=p/\y.cont=c))=if (i.any λy=>decide (y.pod=p/\y.cont=c))=true then 0 else 6 from by unfold pw;rw [if_neg (by rw [g];decide)]);rw [g,show aL ((0:Nat):Int)=.nilIface from rfl];obtain ⟨y,Hh⟩:=Hj.o.look2 p c v A;unfold ju at Hh;have Ha:=(Q0 a a).alloc (lR) (.cells #[p,c] 179);have Hm:=Ha.alloc Ha.size (mI);have Hv:=Ha.alloc Ha.size (em y);have Hk:=Hh ((a.alloc (.cells #[p,c] 179)).drew) ((bF Ha).block b (by omega));have Hg:=Hh (((a.alloc (.cells #[p,c] 179)).alloc (mI)).drew) ((bF Hm).block b (by omega));have G:=((bF Ha).cell (p:=⟨f,1,none⟩) (by show f<_;omega)).trans g1;have J:=((bF Hm).cell (p:=⟨f,1,none⟩) (by show f<_;omega)).trans g1;have Hi:=qI (bF Hv);have x:=qI (show (((a.alloc (.cells #[p,c] 179)).alloc (mI)).drew).cell? a=some (.string p)/\(((a.alloc (.cells #[p,c] 179)).alloc (mI)).drew).cell? ⟨a,1,none⟩=some (.string c) from ⟨by simp,by simp⟩);have z:=qI (show (((a.alloc (.cells #[p,c] 179)).alloc (em y)).drew).cell? a=some (.string p)/\(((a.alloc (.cells #[p,c] 179)).alloc (em y)).drew).cell? ⟨a,1,none⟩=some (.string c) from ⟨by simp,by simp⟩);rw [Hn] at x z;obtain ⟨N,D⟩:=x.o;clear Ha Hm Hv Hh;unfold RV.val at Hk Hg
  rcases two (i.any λy=>decide (y.pod=p/\y.cont=c)) with k|k
  ·rw [k] at Hk Hg;have m:=qI k;clear k
   go_wp2_with fail
   go_region
   all_goals
    generalize hW5:((a.alloc (.cells #[p,c] 179)).alloc (em y)).drew=u at *;have He:=bF Hi.o;obtain ⟨m0,m1⟩:=z.o;have I:u.drew.cell? w=some (.string p):=m0;have M:u.drew.cell? ⟨w,1,none⟩=some (.string c):=m1;have R:u.drew.cell? ⟨f,1,none⟩=some (.map b):=(He.cell (p:=⟨f,1,none⟩) (by show f<_;omega)).trans g1;obtain ⟨F,Hl,Hs,Hb,P⟩:=(Hj.o.block (He.block b (by omega))).drop p c v A 0;have E:=qI Hs;have B:=qI (show aQ F h s t q (bu l d) (fM l d) from (Hb.block h (by have:=He.size;omega) λe=>Hx (Ql e)).trans ((He.block h (by omega)).trans Ho.o));have C:=qI ((Hp.o.trans (bQ.of_below He)).trans (bQ.of_grown Hb (.inr rfl)));unfold ju at Hl;clear He Hs Hb hW5 Hk Hg G J N D m0 m1
    go_wp2_with fail
    go_region
    all_goals
     go_wp2
     go_ret;exact ⟨by rw [Hc.o,if_pos m.o];rfl,⟨B.o,C.o,λj=>absurd (by rw [Hc.o,if_pos m.o]) j,λ_=>E.o⟩⟩
  ·rw [k] at Hk Hg;have m:=qI k;clear k
   go_wp2_with fail
   go_region
   all_goals
    generalize ((a.alloc (.cells #[p,c] 179)).alloc (em y)).drew=u at *
    go_wp2
    go_ret;exact ⟨by rw [Hc.o,if_neg (by rw [m.o];decide)];rfl,⟨(Hi.o.block h (by omega)).trans Ho.o,Hp.o.trans (bQ.of_below Hi.o),λ_=>Hj.o.block (Hi.o.block b (by omega)),λj=>by rw [Hc.o,if_neg (by rw [m.o];decide)] at j;cases j⟩⟩
 ·have Hq:=DT g;have Hc:=qI (show pw l d (i.any λy=>decide (y.pod=p/\y.cont=c))=11 from by unfold pw;rw [if_pos g];exact Hq);rw [Hq,show aL ((11:Nat):Int)=.iface 108 (11:Int) from rfl]
  go_wp2
  go_ret;exact ⟨by rw [Hc.o];rfl,⟨Ho.o,Hp.o,λ_=>Hj.o,λj=>by rw [Hc.o] at j;cases j⟩⟩
end
section
open RowKit Go.ChangeMaps Go.Maps Go.WideShapes
theorem R9 {ns:List ai} {k:Nat} (h:k<ns.length):eZ (ns.take (k+1))=dR (eZ (ns.take k)) (ak ns k).kind (some (ak ns k).many):=by
 unfold eZ;rw [Rp h,List.foldl_append];rfl
theorem Sa {ds:List ah} {l:List Int} {m:ByteArray->Option Int} {k:Nat} (h:k<l.length):(l.take (k+1)).foldl (e8 ds) m=e8 ds ((l.take k).foldl (e8 ds) m) (l.getD k 0):=by
 rw [Qa h,List.foldl_append]
 simp [h]
def qY (f:ByteArray->Option Int) (k:Int):Prop:=∀ s v,f s=some v->-1000000 - k<=v/\v<=1000000
theorem D2 {k b:Int} (h:qY f k) (d:k<=b) {s:ByteArray} {v:Option Int} (c:∀ x,v=some x->-1000000 - b<=x/\x<=1000000):qY (dR f s v) b:=by
 intro t x a;unfold dR at a
 split at a
 ·exact c x a
 ·have:=h t x a
  omega
theorem Sb (Q v2 v3:Value) (g o:Nat) (ds:List ah) (l:List Int) (ns:List ai) (w:World) (M:dW w Q g o ds) (V:bA w v2 l) (h3:bO w v3 ns) (hl:l.length<=1000) (hn:ns.length<=1000)
  (I:∀ k,k<l.length->0<=l.getD k 0/\l.getD k 0<ds.length) (hc:ds.length<=1000) (G:∀ k,k<ds.length->(aC ds k).kind.size<=1000) (H:∀ k,k<ns.length->(ak ns k).kind.size<=1000/\-1000000<=(ak ns k).many/\(ak ns k).many<=1000000) :
  Calls prog 163 #[Q,v2,v3] w λe w'=>(∃ b,e=.returned (.bool b)/\(b=true↔kt ds l ns))/\Below w w w':=by
 obtain ⟨a1,c1,rfl,Hw⟩:=M;obtain ⟨a2,c2,rfl,U,Ho⟩:=V;obtain ⟨a3,c3,rfl,HH,Hv⟩:=h3;have H1:=qI Hw;have H2:=qI Ho;have T:=qI Hv;have HM:=qI I;have W:=qI G;have Y:=qI H;have Ht:=qI (gU.made w);have Hx:=qI ((Q0 w w).alloc (lR) (.map #[] 0));have H5:=@run_makeMap prog;clear Hw Ho Hv I G H U HH
 go_enter func163,ntmps163
 go_wp2
 go_loopw [16] (λi wr=>∃ k n:Nat,k<=ns.length/\n<=k/\i=.int .i64 k/\gU wr w n (eZ (ns.take k))/\qY (eZ (ns.take k)) 0/\Below w w wr) (λi _=>ns.length - (intOf i).toNat)
 case atStart=>exact ⟨0,0,by omega,by omega,rfl,Ht.o,(λ_ _ hx=>nomatch hx),Hx.o⟩
 case round=>
  obtain ⟨k,n,hk,HZ,rfl,t,u,c⟩:=hrel
  by_cases A:k<ns.length
  ·obtain ⟨b,L,rfl,Hj,Hh⟩:=T.o (by omega);obtain ⟨P,g1⟩:=Hh k A;have c0:=(c.cell (p:=⟨b,L+k*2,none⟩) Hj).trans P;have c1:=(c.cell (p:=⟨b,L+k*2+1,none⟩) Hj).trans g1;have He:=qI (R9 A);obtain ⟨H6,H4,HY⟩:=Y.o k A;have Hs:=qI (c.alloc c.size (.cells #[(ak ns k).kind,((ak ns k).many:Int)] 127));have HW:=t.alloc (.cells #[(ak ns k).kind,((ak ns k).many:Int)] 127);have Hn:(wr.alloc (.cells #[(ak ns k).kind,((ak ns k).many:Int)] 127)).cell? wr=some (.string (ak ns k).kind):=by simp
   have Hm:(wr.alloc (.cells #[(ak ns k).kind,((ak ns k).many:Int)] 127)).cell? ⟨wr,1,none⟩=some (.int .i64 (ak ns k).many):=by simp
   have J:=qI u;clear t c Hh P g1 u;generalize ak ns k=x at *;generalize eZ (ns.take k)=f at *;obtain ⟨D,d,z,r⟩:=HW;have K:=qI r;have HS:=qI z;have Ha:keyOf prog 9 x.kind=some (.string x.kind.data.toList):=Go.WideMaps.keyOf_string_mk underlying9 (by unfold maxLen;omega);have Hk:=qI (show (Lit.int .i64 x.many).wf=true from WalkArith.wf_i64 (by omega));clear r z
   go_wp2_with (at_mapUpdate;refine wpList_mapUpdate_own _ rfl _ _ _ 205 rfl 9 3 pq underlying205 (plainElem prog 3) w n D rfl d (by unfold maxLen;omega) _ _ _ rfl rfl Ha (.lit (.int .i64 x.many)) [] (plainElem_int underlying3 Hk.o) ?_;intro R Hg Hc)
   go_roundw
   case rel=>
    refine ⟨k+1,n+1,by omega,by omega,by go_num,?_,?_,Hs.o.grown Hc Hs.o.size (λj C=>by cases C;exact lR)⟩
    ·rw [He.o];exact DW d HS.o K.o Hg
    ·rw [He.o];exact D2 J.o (Int.le_refl _) (λy F=>by cases F;omega)
   case measure=>simp [intOf];omega
  ·have HQ:k=ns.length:=by omega
   subst HQ;rw [Qh] at t u;have HI:=qI t;have HK:=qI c;have S:=qI u;clear t c u Ht Hx
   go_wp2
   go_loopw [28] (λi wr=>∃ k n:Nat,k<=l.length/\n<=ns.length+k/\i=.int .i64 k/\gU wr w n ((l.take k).foldl (e8 ds) (eZ ns))/\qY ((l.take k).foldl (e8 ds) (eZ ns)) (k:Int)/\Below w w wr) (λi _=>l.length - (intOf i).toNat)
   case atStart=>exact ⟨0,n,by omega,by omega,rfl,HI.o,S.o,HK.o⟩
   case round=>
    obtain ⟨q,m,hq,H0,rfl,t,u,c⟩:=hrel
    by_cases B:q<l.length
    ·obtain ⟨b,L,rfl,Hj,Hh⟩:=H2.o (by omega);have c0:=(c.cell (p:=⟨b,L+q,none⟩) Hj).trans (Hh q B);have He:=qI (Sa (ds:=ds) (m:=eZ ns) B);have HF:=HM.o q B;generalize l.getD q 0=x at *;obtain ⟨HP,HX⟩:=HF;obtain ⟨a,rfl⟩:=Int.eq_ofNat_of_zero_le HP;have Hi:a<ds.length:=by omega
     obtain ⟨X,HO,Hr⟩:=H1.o (by omega);subst X;have d0:=(c.cell (p:=⟨g,o+a*3,none⟩) HO).trans (Hr a Hi).1;have HU:=W.o a Hi;have Hz:((a:Int)).toNat=a:=by omega
     have O:Hu (∀ f,e8 ds f (a:Int)=dR f (aC ds a).kind (if (f (aC ds a).kind).getD 0 - 1=0 then none else some ((f (aC ds a).kind).getD 0 - 1))):=λf=>by unfold e8;rw [Hz]
     have E:=qI c;have J:=qI u;clear Hh Hr c u Hz;generalize (aC ds a).kind=kd at *;generalize (l.take q).foldl (e8 ds) (eZ ns)=f at *;obtain ⟨D,d,z,r⟩:=t;have K:=qI r;have HS:=qI z;have Hp:=(r kd).1;have H7:-1000000 - (q:Int)<=(f kd).getD 0/\(f kd).getD 0<=1000000:=by
      cases hf:f kd with
      | none=>simp;omega
      | some y=>exact J.o kd y hf
     generalize hv:(f kd).getD 0=v at *;have N:=qI hv;clear hv;have Ha:keyOf prog 9 kd=some (.string kd.data.toList):=Go.WideMaps.keyOf_string_mk underlying9 (by unfold maxLen;omega);have Hk:=qI (show (Lit.int .i64 (v - 1)).wf=true from WalkArith.wf_i64 (by omega));have Hy:Hu (qY (e8 ds f (a:Int)) ((q+1:Nat):Int)):=by
      unfold Hu;rw [O.o f];refine D2 J.o (by omega) λy F=>?_;rw [N.o] at F
      split at F
      ·cases F
      ·cases F;omega
     clear r z;have Hq:Hu (WideAt.IsKeyLit (Lit.string kd.data.toList)):=trivial
     by_cases M:v=1
     ·have hb:((v - 1:Int) == 0)=true:=by rw [M];rfl
      have Hl:Hu (e8 ds f (a:Int)=dR (dR f kd (some (v - 1))) kd none):=by
       unfold Hu;rw [O.o f,N.o,if_pos (by omega)]
       funext s
       unfold dR
       split <;> rfl
      clear M
      go_wp2_with (first|(at_lookup;refine wpList_lookup_own_int _ rfl _ _ 205 rfl 9 3 .i64 pq underlying205 underlying3 (DN _) w _ _ rfl (by assumption) _ _ rfl Ha ?_;intro cc Hb _;(first|rw [Hp] at Hb|rw [Go.Maps.atKey_put_same d.isMap Hq.o] at Hb);injection Hb with Hb;injection Hb with _ Hb;subst Hb)|(at_mapUpdate;refine wpList_mapUpdate_own _ rfl _ _ _ 205 rfl 9 3 pq underlying205 (plainElem prog 3) w m D rfl d (by unfold maxLen;omega) _ _ _ rfl rfl Ha (.lit (.int .i64 (v - 1))) [] (plainElem_int underlying3 Hk.o) ?_;intro R Hg Hc)|(at_delete;refine wpList_delete_own _ rfl _ _ 205 9 rfl 3 pq underlying205 _ w _ _ rfl Hg _ _ rfl Ha ?_;intro w6 HT Hf))
      go_roundw
      case rel=>
       refine ⟨q+1,m+1,by omega,by omega,by go_num,?_,by rw [He.o];exact Hy.o,?_⟩
       ·rw [He.o,Hl.o];exact RX Hg (DU HS.o) (DV d K.o) HT
       ·exact (E.o.grown Hc E.o.size (λj C=>by cases C;exact lR)).grown Hf.grown (by have:=Hc.size;have:=E.o.size;omega) (λj C=>by cases C;exact lR)
      case measure=>simp [intOf];omega
     ·have hb:((v - 1:Int) == 0)=false:=Qr.2 (by omega);have Hl:Hu (e8 ds f (a:Int)=dR f kd (some (v - 1))):=by
       unfold Hu;rw [O.o f,N.o,if_neg (by omega)]
      go_wp2_with (first|(at_lookup;refine wpList_lookup_own_int _ rfl _ _ 205 rfl 9 3 .i64 pq underlying205 underlying3 (DN _) w _ _ rfl (by assumption) _ _ rfl Ha ?_;intro cc Hb _;(first|rw [Hp] at Hb|rw [Go.Maps.atKey_put_same d.isMap Hq.o] at Hb);injection Hb with Hb;injection Hb with _ Hb;subst Hb)|(at_mapUpdate;refine wpList_mapUpdate_own _ rfl _ _ _ 205 rfl 9 3 pq underlying205 (plainElem prog 3) w m D rfl d (by unfold maxLen;omega) _ _ _ rfl rfl Ha (.lit (.int .i64 (v - 1))) [] (plainElem_int underlying3 Hk.o) ?_;intro R Hg Hc))
      go_roundw
      case rel=>
       refine ⟨q+1,m+1,by omega,by omega,by go_num,?_,by rw [He.o];exact Hy.o,?_⟩
       ·rw [He.o,Hl.o];exact DW d HS.o K.o Hg
       ·exact E.o.grown Hc E.o.size (λj C=>by cases C;exact lR)
      case measure=>simp [intOf];omega
    ·have Z:q=l.length:=by omega
     subst Z;rw [Qh] at t;obtain ⟨D,d,z,r⟩:=t;have E:=qI c;have HJ:Hu ((Go.Maps.size D:Int)=0↔kt ds l ns):=by
      unfold Hu
      have:=RY z r
      constructor
      ·intro h;exact this.1 (by omega)
      ·intro h;have:=this.2 h;omega
     clear z r c u
     go_wp2_with (at_len;refine wpList_len_own _ rfl _ 205 rfl 9 3 underlying205 _ w m D rfl d ?_)
     go_ret;exact ⟨⟨_,rfl,by rw [beq_iff_eq];exact HJ.o⟩,E.o⟩
end
