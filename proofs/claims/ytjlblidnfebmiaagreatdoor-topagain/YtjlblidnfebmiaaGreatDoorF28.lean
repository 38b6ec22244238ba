import Derived.Test.YtjlblidnfebmiaaGreatDoorF23
set_option maxRecDepth 100000
set_option maxHeartbeats 16000000
open Go Go.RowKit Go.Shelf
attribute [local go_sem] Oper.semAt_some
open Go.Proofs.Tryz
namespace Go.Proofs.YtjlblidnfebmiaaGreatDoor
variable{A W W' w:World}{B B1 B2:Nat}{h l v:Int}{qs:List aj}
theorem TU(a b:Int)(g n:Nat)(w:World)(d:w.cell? g=some (.int .i64 a))(o:w.cell? ⟨g,1,none⟩=some (.int .i64 b)) :
  Calls prog 86 #[.slice g 2 n] w λe w'=>e=.returned (dG a b:Int)/\w'=w:=by
 have q:Hu (∀k:Nat,k<2->∃v:Int,cl w g k (v:Int)/\(v=if k=0 then a else b)):=by
  intro k p
  have:k=0\/k=1:=by omega
  rcases this with rfl|rfl
  ·exact⟨a,d,rfl⟩
  ·exact⟨b,o,rfl⟩
 clear d o
 go_enter func86,ntmps86
 go_wp2_with fail
 go_loop [8] (λi=>∃k:Nat,k<=2/\i=.int .i64 k/\Hu ((0<k->a=0)/\(1<k->b=0))) (λi=>2 - (intOf i).toNat)
 case atStart=>exact⟨0,by omega,rfl,⟨λh=>by omega,λh=>by omega⟩⟩
 case round=>
  obtain⟨k,p,rfl,l⟩:=hrel
  by_cases j:k<2
  ·obtain⟨v,r,c⟩:=q.o k j;have m:=qI c;clear c
   by_cases d:v=0
   ·subst d;have Ha:Hu ((0<k+1->a=0)/\(1<k+1->b=0)):=by
     obtain⟨z0,z1⟩:=l.o;have c:=m.o
     have:k=0\/k=1:=by omega
     rcases this with rfl|rfl
     ·simp at c;exact⟨λ_=>c.symm,λh=>by omega⟩
     ·simp at c;exact⟨λ_=>z0 (by omega),λ_=>c.symm⟩
    go_wp2_with fail
    go_round
    case rel=>exact⟨k+1,by omega,by go_num,Ha⟩
    case measure=>simp[intOf];omega
   ·have f:Hu (dG a b=v):=by
     obtain⟨z0,z1⟩:=l.o;have c:=m.o
     have:k=0\/k=1:=by omega
     unfold Hu dG
     rcases this with rfl|rfl
     ·simp at c;subst c;rw[if_neg d]
     ·simp at c;subst c;rw[if_pos (z0 (by omega))]
    have s:(v != 0)=true:=by simp[d]
    go_wp2
    go_ret;exact⟨by rw[f.o];rfl,rfl⟩
  ·have Hb:k=2:=by omega
   subst Hb;have f:Hu (dG a b=0):=by
    obtain⟨z0,z1⟩:=l.o;unfold Hu dG;rw[if_pos (z0 (by omega)),z1 (by omega)]
   go_wp2
   go_ret;exact⟨by rw[f.o];rfl,rfl⟩
theorem TV{c b a:Int}(t:ip h l v)(t':ip c b a):dG (Lib.compareInt h c) (Lib.compareInt l b)<=0↔v<=a:=by
 rw[<- t.le t'];unfold dG Lib.compareInt;obtain⟨e,f,g⟩:=t;obtain⟨g1,d,g3⟩:=t'
 repeat' split
 all_goals omega
theorem TW(h l b a:Int)(w:World):Calls prog 112 #[.agg #[h,l],.agg #[b,a]] w λe w'=>e=.returned (dG (Lib.compareInt h b) (Lib.compareInt l a):Int)/\Below w w w':=by
 have Hg:=((Q0 w w).alloc (lR) (.cells #[h,l] 209)).alloc (by simp) (.cells #[b,a] 209);have Hf:=qI (fC Hg);have d:=qI (((cr.made w 209 h l).alloc (.cells #[b,a] 209)).below (fC (Q0 _ _)));have i:=(cr.made (w.alloc (.cells #[h,l] 209)) 209 b a).below (fC (Q0 _ _));rw[show (w.alloc (.cells #[h,l] 209)).heap.size=w.heap.size+1 by simp] at i;have f:=qI i;clear Hg i
 go_enter func112,ntmps112
 go_wp2_with fail
 refine wp_region_held_drew (S:=(λw'=>cl w' w (0) h/\cl w' w (1) l/\cl w' (w.heap.size+1) (0) b/\cl w' (w.heap.size+1) (1) a)) (by kernel_rfl) ⟨d.o.1.1,d.o.2.1,f.o.1.1,f.o.2.1⟩ λg=>?_;refine tk 0 ?_;refine tk 1 ?_;refine tk 2 ?_;refine tk 3 ?_;refine tk 5 ?_;refine tk 6 ?_;refine tk 7 ?_;refine tk 8 ?_;refine rd 4 λK c=>?_;go_simp
 go_wp2_with fail
 refine (rx _ _ _).mono ?_;rintro e j ⟨rfl,rfl⟩
 go_wp2_with fail
 refine c.o _ _ ⟨d.o.1.1,d.o.2.1,f.o.1.1,f.o.2.1⟩ λg=>?_;clear c K;refine rd 9 λK c=>?_;go_simp
 go_wp2_with fail
 refine (rx _ _ _).mono ?_;rintro e j ⟨rfl,rfl⟩
 go_wp2_with fail
 refine c.o _ _ ⟨d.o.1.1,d.o.2.1,f.o.1.1,f.o.2.1⟩ λg=>?_;clear c K;have Ha:=qI (d.o.alloc (.cells #[(Lib.compareInt h b:Int),(Lib.compareInt l a:Int)] 3));have Hb:=qI (f.o.alloc (.cells #[(Lib.compareInt h b:Int),(Lib.compareInt l a:Int)] 3));have Hh:=qI (Hf.o.alloc Hf.o.size (.cells #[(Lib.compareInt h b:Int),(Lib.compareInt l a:Int)] 3));have Hc:=cr.made (((w.alloc (.cells #[h,l] 209)).alloc (.cells #[b,a] 209)).drew) 3 (Lib.compareInt h b) (Lib.compareInt l a);rw[show (((w.alloc (.cells #[h,l] 209)).alloc (.cells #[b,a] 209)).drew).heap.size=w.heap.size+1+1 by simp[World.drew]] at Hc;have He:=qI Hc;clear Hc;refine rd 10 λK c=>?_;go_simp
 go_wp2_with fail
 refine c.o _ _ ⟨Ha.o.1.1,Ha.o.2.1,Hb.o.1.1,Hb.o.2.1⟩ λg=>?_;clear c K;refine rd 11 λK c=>?_;go_simp
 go_wp2_with fail
 refine (TU (Lib.compareInt h b) (Lib.compareInt l a) _ _ _ He.o.1.1 He.o.2.1).mono ?_;rintro e j ⟨rfl,rfl⟩
 go_wp2_with fail
 refine c.o _ _ ⟨Ha.o.1.1,Ha.o.2.1,Hb.o.1.1,Hb.o.2.1⟩ λg=>?_;clear c K;refine tk 12 ?_;refine Qn (by kernel_rfl) ?_ _
 go_wp2
 go_ret;exact⟨rfl,Hh.o⟩
def TX (us:List ap) (e:Ending):Prop:=∃b,e=.returned (.bool b)/\(b=true->oy us)
def yf (x:ap):Prop:=x.kind.size<=30/\-1125899906842624<=x.many/\x.many<=1125899906842624
theorem TY(v:Value)(us:List ap)(w:World)(h:bv w v us):Calls prog 25 #[v] w λe w'=>TX us e/\w'=w:=by
 obtain⟨u,c,rfl,t,p⟩:=h;have s:=qI p;clear p t
 by_cases l:20<us.length
 ·go_enter func25,ntmps25
  go_wp2
  go_ret;exact⟨⟨_,rfl,λh=>by cases h⟩,rfl⟩
 have Ha:us.length<=20:=by omega
 clear l;have hd:decide (20<(us.length:Int))=false:=Q7 (by omega)
 go_enter func25,ntmps25
 go_wp2_with fail
 go_loop [3] (λi=>∃k:Nat,k<=us.length/\i=.int .i64 k/\Hu (∀j,j<k->yf (aq us j))) (λi=>us.length - (intOf i).toNat)
 case atStart=>exact⟨0,by omega,rfl,λj a=>by omega⟩
 case round=>
  obtain⟨k,y,rfl,d⟩:=hrel
  by_cases g:k<us.length
  ·obtain⟨b,o,rfl,Hf,Hb⟩:=s.o (by omega);obtain⟨c0,c1⟩:=Hb k g;have q:=qI (λ(r:yf (aq us k))=>(show ∀j,j<k+1->yf (aq us j) from λj a=>by
    by_cases e:j=k
    ·rw[e];exact r
    ·exact d.o j (by omega)))
   clear Hb;generalize aq us k=x at *;have key:30<x.kind.size\/(x.kind.size<=30/\x.many < -1125899906842624)\/(x.kind.size<=30/\-1125899906842624<=x.many/\1125899906842624<x.many)\/(x.kind.size<=30/\-1125899906842624<=x.many/\x.many<=1125899906842624):=by omega
   rcases key with f|⟨f,m⟩|⟨f,m,n⟩|⟨f,m,n⟩
   ·go_wp2
    go_ret;exact⟨⟨_,rfl,λh=>by cases h⟩,rfl⟩
   ·go_wp2
    go_ret;exact⟨⟨_,rfl,λh=>by cases h⟩,rfl⟩
   ·go_wp2
    go_ret;exact⟨⟨_,rfl,λh=>by cases h⟩,rfl⟩
   ·have Hc:=qI (q.o ⟨f,m,n⟩)
    go_wp2_with fail
    go_round
    case rel=>exact⟨k+1,by omega,by go_num,Hc⟩
    case measure=>simp[intOf];omega
  ·have He:k=us.length:=by omega
   subst He
   go_wp2
   go_ret;exact⟨⟨_,rfl,λ_=>⟨Ha,λj a=>⟨(d.o j a).2.1,(d.o j a).2.2⟩,λj a=>(d.o j a).1⟩⟩,rfl⟩
theorem EE(h:Below W W W'):KeepsOthers W W':=
 ⟨h.size,λk _ a _=>(h.block k (gS a).1).trans a⟩
theorem TZ(a:Option Addr)(len b:Nat)(w:World) :
  Calls prog 111 #[.slice a len b] w λe w'=>e=.returned (.func (.func 155) #[] #[.pointer (some ⟨w,0,none⟩)])/\w'=w.alloc (.cells #[.slice a len b] 67):=by
 go_enter func111,ntmps111
 go_wp2
 go_ret;exact⟨rfl,rfl⟩
structure But (B1 B2:Nat) (A W:World):Prop where
 os:W.os=A.os
 tape:W.tape=A.tape
 output:W.output=A.output
 size:A<=W.heap.size
 block:∀k,k<A.heap.size->k≠B1->k≠B2->W.heap[k]?=A.heap[k]?
theorem But.refl(B1 B2:Nat)(A:World):But B1 B2 A A:=⟨rfl,rfl,rfl,lR,λ_ _ _ _=>rfl⟩
theorem But.then(h:But B1 B2 A W)(a:Below W W W'):But B1 B2 A W':=
 ⟨a.os.trans h.os,a.tape.trans h.tape,a.output.trans h.output,Q5 h.size a.size,λk b c d=>(a.block k (Q1 b h.size)).trans (h.block k b c d)⟩
theorem But.set(h:But B1 B2 A W)(b j:Nat)(v:Value)(f:b=B1\/b=B2):But B1 B2 A (W.setCell ⟨b,j,none⟩ v):=
 ⟨h.os,h.tape,h.output,Q5 h.size (KeepsWalks.setCell W _ v).size,λk c a d=>(Below.heap_setCell _ _ _ k (λe=>by rcases f with rfl|rfl <;> simp_all)).trans (h.block k c a d)⟩
theorem But.own{β:Type}(B1 B2:Nat)(A:World):OwnFrom A (λ(_:β) W=>But B1 B2 A W):=λ_ W W' row h a f=>
 ⟨a.os.trans h.os,a.tape.trans h.tape,a.output.trans h.output,Q5 h.size a.size,λk b c d=>(a.block k (Q1 b h.size) (λe=>by have:=(f k e.symm).1;omega)).trans (h.block k b c d)⟩
theorem But.below{K:Nat}(h:But B1 B2 A W)(c:K<=B1)(a:K<=B2)(b:K<=A):Below K A W:=
 ⟨h.os,h.tape,h.output,h.size,λk d=>h.block k (by omega) (by omega) (by omega)⟩
def EF (qs:List aj) (cv:Nat->Value) (x:Nat):Array Value:=#[.int .i64 (x:Int),.agg #[(aO qs x).nm,((aO qs x).pr:Int),cv x]]
theorem T0(F:Fence)(n:Nat)(f:F.fn 155)(a:F.round=none)(l b:Nat)(g:Option Addr)(d:Nat)(J:List Nat->World->Prop)
  (W:World) (c:W.cell? b=some (.slice g 0 d)) (h:J [] W) :
  CallsIn F n prog 155 #[.func (.yield l) #[] #[],b] W λe W'=>(∃v,e=.returned v)/\J [] W':=by
 refine callsIn_of_wp func155 rfl f ?_ a;simp only[ntmps155,List.size_toArray,Qg,List.length_nil,Nat.reduceAdd,Nat.reduceSub,Array.replicate_succ,Array.replicate_zero,List.push_toArray,List.append_toArray,List.nil_append,List.cons_append]
 gi_wp2
 gi_loopw [3] (λi wr=>i=.int .i64 (-1)/\J [] wr) λ_ _=>0
 case atStart=>exact⟨rfl,h⟩
 case round=>
  obtain⟨rfl,Ha⟩:=hrel
  gi_wp2
  go_end0
  exact⟨⟨_,rfl⟩,Ha⟩
theorem T1(F:Fence)(n:Nat)(x:F.fn 155)(s:F.round=none)(H:1<=n)(g:Nat)(v:Option Addr)(t:Nat)(d:List aj)(q w:World)(z:Below q q w)(h:w.cell? g=some (.slice v d.length t))(i:g<w)(I:eO q (.slice v d.length t) d)(j:d.length<=16) :
  ∃b cv,(b<q.heap.size\/b=g)/\(∀k,∃a m c,cv k=.slice a m c)/\
   SeqStopsK F n prog 155 #[g] (EF d cv) (KpB b g) (λG=>G=iK d.length d.length) (λ_=>True) d.length w:=by
 obtain⟨L,c,C,_,K⟩:=I;cases C
 by_cases r:0<d.length
 ·obtain⟨b,o,cv,rfl,Ha⟩:=K r;have Hb:pJ w b o d (λk=>if k<d.length then cv k else .slice none 0 0):=by
   have B:pJ q b o d (λk=>if k<d.length then cv k else .slice none 0 0):=λk f=>by
    simp only[if_pos f];exact (Ha.2 k f).1
   exact B.kept (z.block b Ha.1)
  refine⟨b,λk=>if k<d.length then cv k else .slice none 0 0,.inl Ha.1,λk=>?_,λl J y W u _ _ A r=>?_⟩
  ·by_cases f:k<d.length
   ·simp only[if_pos f];exact (Ha.2 k f).2.slice
   ·simp only[if_neg f];exact⟨_,_,_,rfl⟩
  ·refine Su F n x s H l g b o t d _ j (λk=>?_) J y A W ((u.cell (p:=g) i).trans h) (Hb.kept (u.block b (Q1 Ha.1 z.size))) r
   by_cases f:k<d.length
   ·simp only[if_pos f];exact (Ha.2 k f).2.slice
   ·simp only[if_neg f];exact⟨_,_,_,rfl⟩
 ·have Hc:d.length=0:=by omega
  refine⟨g,λ_=>.slice none 0 0,.inr rfl,λk=>⟨_,_,_,rfl⟩,λl J y W u _ _ A r=>?_⟩;refine (T0 F n x s l g v t J W ((u.cell (p:=g) i).trans (by rw[Hc] at h;exact h)) r).mono ?_;rintro e W' ⟨D,E⟩;exact⟨D,.inl ⟨_,rfl,by rw[Hc];exact E⟩⟩
theorem gB.own(B:Nat)(x:aj)(cv:Value):Own (λ(_:Unit) W=>gB W B x cv):=λ_ _ _ _ hs a b=>by
 obtain⟨d,c,e,f⟩:=hs;exact⟨Q1 d a.size,cell_kept c a b,cell_kept e a b,cell_kept f a b⟩
theorem yh{m b:Int}(h:cr w B m b)(g j:Nat)(v:Value)(d:B≠g):cr (w.setCell ⟨g,j,none⟩ v) B m b:=by
 have c:=Below.heap_setCell w ⟨g,j,none⟩ v B d;obtain⟨⟨c0,f0⟩,⟨c1,f1⟩⟩:=h;exact⟨⟨(World.cell?_of_block (a:=B) c).trans c0,(World.frozen?_of_block (a:=B) c).trans f0⟩,⟨(World.cell?_of_block (a:=⟨B,1,none⟩) c).trans c1,(World.frozen?_of_block (a:=⟨B,1,none⟩) c).trans f1⟩⟩
theorem EG{t:TypeId}{u:Value}(h:Boxed w B t u)(g j:Nat)(v:Value)(a:B≠g):Boxed (w.setCell ⟨g,j,none⟩ v) B t u:=
 (Below.heap_setCell w ⟨g,j,none⟩ v B a).trans h
theorem T2(h:oz qs)(x:Nat):(aO qs x).nm.size<=1000:=by
 by_cases a:x<qs.length
 ·have:=(h.2 qs[x] (List.getElem_mem a)).2
  simp[aO,a]
  exact this
 ·simp[aO,a,mz]
theorem T3{d:Option Addr}{a:Nat}(h:eO w (.slice d qs.length a) qs){g:Nat}(p:g<=qs.length):eO w (.slice d g a) (qs.take g):=by
 obtain⟨r,c,m,s,n⟩:=h;cases m;have f:(qs.take g).length=g:=by rw[Qu];omega
 refine⟨d,a,by rw[f],by omega,λq=>?_⟩;obtain⟨b,o,cv,l,Ha,j⟩:=n (by omega);refine⟨b,o,cv,l,Ha,λk i=>?_⟩;rw[f] at i;have e:aO (qs.take g) k=aO qs k:=by simp[aO,i]
 rw[e];exact j k (by omega)
theorem T4{v:Value}{l:List ByteArray}(h:rC w v l){D:Nat}{o:Obj}(a:Obj)(d:w.heap[D]?=some o)(n:o.isCells=false):rC (w.putObj D a) v l:=by
 obtain⟨i,c,p,f,q⟩:=h;refine⟨i,c,p,f,λj=>?_⟩;obtain⟨g,m,Ha,Hb⟩:=q j;exact⟨g,m,Q1 Ha (grownBy_putObj' w D a).size,λk b=>cell_kept (Hb k b) (grownBy_putObj' w D a) (λr e=>by cases e;exact⟨_,d,n⟩)⟩
theorem EH{n:Int}(t:ip h l v):ip (h+n / 1073741824+(l+n % 1073741824) / 1073741824) ((l+n) % 1073741824) (v+n):=by
 obtain⟨a,b,c⟩:=t;exact⟨by omega,by omega,by omega⟩
theorem T5(v uv:Value)(Q:List aj)(us:List ap)(d:Int)(w:World)(h:eO w v Q)(hu:bv w uv us)(hf:oz Q)(E:oy us)(Jx:-9223372036854775808<=d)(h9:d<=9223372036854775807) :
  Calls prog 68 #[v,uv,d] w λe w'=>(∃v' i g,e=.returned v'/\rC w' v' ((i.take g).map aj.nm)/\rB us Q i/\fJ us i d 0 g)/\Below w w w':=by
 have HU:=qI (Ss uv us w hu E);have HP:=qI h;obtain⟨ao,c,rfl,_,_⟩:=h;obtain⟨T,c2,rfl,_,_⟩:=hu;refine (callsIn_wide (n:=3)).1 ?_;refine callsIn_of_wp_marks func68 rfl trivial ?_ rfl;simp only[ntmps68,List.size_toArray,Qg,List.length_nil,Nat.reduceAdd,Nat.reduceSub,Array.replicate_succ,Array.replicate_zero,List.push_toArray,List.append_toArray,List.nil_append,List.cons_append]
 gi_wp2_with fail
 refine⟨trivial,(callsIn_wide.2 HU.o).mono ?_⟩;rintro e j ⟨⟨n,rfl,F⟩,Z⟩;have h0:=qI Z;have hv:=(Q0 j j).alloc (lR) (.cells #[.map w] 205);have X:=qI (Z.trans (hv.mono Z.size));have HH:=qI (F.alloc (.cells #[.map w] 205));have hx:=qI (Boxed.new j 205 (.map w));have hV:(j.alloc (.cells #[.map w] 205)).heap.size=j.heap.size+1:=by simp
 have HO:=qI (SK _ Q w n us _ (HP.o.below X.o) hf HH.o E.2.1);have hR:(j.alloc (.cells #[.map w] 205)).cell? j=some (.map w):=by simp
 have hF:w<j.heap.size:=F.lt;clear F Z hv HU
 gi_wp2_with fail
 generalize j.alloc (.cells #[.map w] 205)=W2 at *;refine⟨trivial,(callsIn_wide.2 HO.o).mono ?_⟩;rintro e w3 ⟨⟨v3,i,rfl,hq,hs,Ht⟩,Hw⟩;have H4:=qI (X.o.trans (Hw.mono X.o.size));have HR:=qI (HH.o.below Hw HH.o.lt);have he:=qI (show Boxed w3 j 205 (.map w) from (Hw.block _ (by omega)).trans hx.o);have HS:=qI hs;have HQ:=qI hq;have hG:i.length<=16:=by rw[hs.1.length_eq];exact hf.1
 have hH:=Hw.size;obtain⟨B,t,rfl,_,_⟩:=hq;have hY:i.length<=t:=by obtain⟨_,_,_,e,hle⟩:=Ht;cases e;exact hle
 clear Ht;have R:=qI (Ei 0 0 d w3 (by omega) (by omega) (by omega) (by omega) Jx h9);clear Hw hs HO X HH hx hR
 gi_wp2_with fail
 refine⟨trivial,(callsIn_wide.2 R.o).mono ?_⟩;rintro e f ⟨rfl,Hs⟩;have ho:=qI (EH (n:=d) ip.zero);have HX:=qI (H4.o.trans (Hs.mono H4.o.size));have hL:=qI (HR.o.below Hs HR.o.lt);have hE:=qI (show Boxed f j 205 (.map w) from (Hs.block _ (by omega)).trans he.o);have hz:=qI (HQ.o.below Hs);have hM:=Hs.size;clear Hs H4 HR he R;generalize (0:Int)+d / 1073741824+(0+d % 1073741824) / 1073741824=y at *;generalize ((0:Int)+d) % 1073741824=q at *
 gi_wp2_with fail
 refine⟨trivial,(callsIn_wide.2 (TZ _ _ _ _)).mono ?_⟩;rintro e w8 ⟨rfl,rfl⟩;have a1:=(Q0 f f).alloc (lR) (.cells #[(y:Int),(q:Int)] 209);have a2:=a1.alloc (by simp) (.cells #[(i.length:Int)] 3);have a3:=a2.alloc (by simp;omega) (.cells #[(0:Int),(0:Int)] 209);have Y:=qI (a3.alloc (by simp;omega) (.cells #[.slice B i.length t] 67));have hi:=qI (((cr.made f 209 y q).alloc (.cells #[(i.length:Int)] 3)).alloc (.cells #[(0:Int),(0:Int)] 209) |>.alloc (.cells #[.slice B i.length t] 67));have Hl:=((Boxed.new (f.alloc (.cells #[(y:Int),(q:Int)] 209)) 3 (i.length:Int)).alloc (.cells #[(0:Int),(0:Int)] 209)).alloc (.cells #[.slice B i.length t] 67);have Ho:=(cr.made ((f.alloc (.cells #[(y:Int),(q:Int)] 209)).alloc (.cells #[(i.length:Int)] 3)) 209 0 0).alloc (.cells #[.slice B i.length t] 67);have H3:=Boxed.new (((f.alloc (.cells #[(y:Int),(q:Int)] 209)).alloc (.cells #[(i.length:Int)] 3)).alloc (.cells #[(0:Int),(0:Int)] 209)) 67 (.slice B i.length t);have hU:((((f.alloc (.cells #[(y:Int),(q:Int)] 209)).alloc (.cells #[(i.length:Int)] 3)).alloc (.cells #[(0:Int),(0:Int)] 209)).alloc (.cells #[.slice B i.length t] 67)).heap.size=f.heap.size+1+1+1+1:=by simp
 simp only[World.size_alloc] at Hl Ho H3;have Hp:=qI Hl;have Hn:=qI Ho;have HL:=qI H3;clear a1 a2 a3 Hl Ho H3
 gi_wp2_with fail
 generalize ((((f.alloc (.cells #[(y:Int),(q:Int)] 209)).alloc (.cells #[(i.length:Int)] 3)).alloc (.cells #[(0:Int),(0:Int)] 209)).alloc (.cells #[.slice B i.length t] 67))=A at *;obtain⟨b,cv,I,H5,Hm⟩:=T1 Fence.wide (3 - 1) trivial rfl (by omega) (f.heap.size+1+1+1) B t i f A Y.o HL.o.cell (by omega) hz.o hG;have HJ:=qI H5;have H8:b<A:=by rcases I with I|I <;> omega
 have U:b≠f+1/\b≠f+1+1:=by rcases I with I|I <;> omega
 clear H5 I;refine wpIn_rangeFunc_ownH (α:=Nat) rfl (by omega) (gf:=155) (lb:=#[.pointer (some ⟨f.heap.size+1+1+1,0,none⟩)]) rfl trivial (enters_of func155 (by kernel_rfl) rfl)
  Hm (λh k=>KpB.trans h k) (λW l o o' hl hW h1 h2=>⟨World.putObj_heap_other (by omega),World.putObj_heap_other (by omega)⟩) (Q0 _ _) (λ_=>rfl)
  (λpre W=>(∃h l,cr W (f.heap.size+1+1) h l/\ip h l (gO us i d pre).1)/\Boxed W (f.heap.size+1) 3 ((gO us i d pre).2:Int)/\But (f.heap.size+1) (f.heap.size+1+1) A W)
  (λ_ _ _=>False)
  (λs W W' row hs J N=>by
   obtain⟨⟨h,l,L,C⟩,Hg,Ha⟩:=hs;exact⟨⟨h,l,L.kept J (λe=>by have:=(N _ e.symm).1;omega),C⟩,Hg.kept J (λe=>by have:=(N _ e.symm).1;omega),But.own _ _ A s W W' row Ha J N⟩)
  (λ_ _ _ _ _ hs _ _=>hs)
  ⟨⟨0,0,Hn.o,ip.zero⟩,Hp.o,But.refl _ _ _⟩
  (λx a' W=>∃H,A.heap.size<=H/\gB W H (aO i x) (cv x)/\a'={ tmps:=#[Value.slice ao Q.length c,Value.slice T us.length c2,Value.int IntKind.i64 d,undef,undef,undef,Value.slice none 0 0,Value.pointer (some { block:=j.heap.size,off:=0 }),Value.slice B i.length t,Value.pointer (some { block:=f.heap.size,off:=0 }),Value.pointer (some { block:=f.heap.size+1,off:=0 }),Value.pointer (some { block:=f.heap.size+1+1,off:=0 }),.int .i64 (x:Int),.pointer (some ⟨H,0,none⟩),Value.slice T us.length c2,Value.map w,Value.slice ao Q.length c,Value.map w,Value.slice B i.length t,Value.agg #[Value.int IntKind.i64 0,Value.int IntKind.i64 0],Value.int IntKind.i64 d,Value.agg #[Value.int IntKind.i64 y,Value.int IntKind.i64 q],Value.slice B i.length t,Value.int IntKind.i64 (i.length:Int),Value.agg #[Value.int IntKind.i64 0,Value.int IntKind.i64 0],Value.slice B i.length t,Value.func (Fn.func 155) #[] #[Value.pointer (some { block:=f.heap.size+1+1+1,off:=0 })],.int .i64 (x:Int),.agg #[(aO i x).nm,((aO i x).pr:Int),cv x],undef,undef,undef,undef,undef,undef,undef,undef,undef,undef,undef,undef,undef,undef,undef],defers:=[] })
  (λx a'=>Own.from (λu W W' row hs J N=>by
   obtain⟨H,h1,h2,h3⟩:=hs;exact⟨H,h1,gB.own H _ _ u W W' row h2 J N,h3⟩) _) ?assign ?body ?done ?stop
 case assign=>
  rintro l pre x W K ⟨⟨h,S,L,C⟩,Hg,Ha⟩ G;obtain⟨ca,cm,cc,Hr⟩:=HJ.o x;have HK:=qI G;have hC:=Ha.size;clear G;unfold EF;rw[Hr]
  gi_wp2_with fail
  refine HK.o _ _ ((KeepsOthers.alloc _ _).from _) ⟨Below.heap_alloc _ _ _ (by omega),Below.heap_alloc _ _ _ (by omega)⟩ ⟨⟨h,S,L.alloc _,C⟩,Hg.alloc _,Ha.then ((Q0 _ _).alloc (lR) _)⟩ ⟨W,hC,?_,?_⟩
  ·rw[Hr];exact gB.made W (aO i x) _
  ·rw[Hr]
 case body=>
  rintro l pre x a' W hl ⟨r,N⟩ ⟨⟨h,S,L,C⟩,Hg,Ha⟩ ⟨H,hZ,hA,rfl⟩ h7;obtain⟨ca,cm,cc,Hr⟩:=HJ.o x;rw[Hr] at hA ⊢;have HV:=So E.2.1 i d (pre:=pre) (by omega);have hO:=xM E.2.1 (aO i x).nm;have H1:=C.high HV.1 HV.2;have Hc:=Ha.below (K:=f.heap.size+1) (lR) (by omega) (by omega);have hS:W.cell? j=some (.map w):=(Hc.cell (p:=j.heap.size) (by show j.heap.size<_;omega)).trans ((Y.o.cell (p:=j.heap.size) (by show j.heap.size<_;omega)).trans hE.o.cell);have hI:=Ee ((hL.o.below Y.o (by omega)).below Hc (by omega)) (aO i x).nm (T2 (hf.perm HS.o.1) x);have Hu:=qI (show cr W f y q from by
   obtain⟨⟨c0,f0⟩,⟨c1,f1⟩⟩:=hi.o;have hh:=Hc.block f (by omega);exact⟨⟨(World.cell?_of_block (a:=f.heap.size) hh).trans c0,(World.frozen?_of_block (a:=f.heap.size) hh).trans f0⟩,⟨(World.cell?_of_block (a:=⟨f,1,none⟩) hh).trans c1,(World.frozen?_of_block (a:=⟨f,1,none⟩) hh).trans f1⟩⟩)
  have Hv:=qI (D9 us i d pre x);have HY:=qI (EH (n:=cN us (aO i x).nm) C);have H0:=qI Hg;have Hh:=qI Ha;have HT:=qI L;obtain⟨_,p0,p1,p2⟩:=hA;obtain⟨⟨t0,f0⟩,⟨t1,f1⟩⟩:=L;have R:=qI (Ei h S (cN us (aO i x).nm) W C.1 C.2.1 H1.1 H1.2 (by omega) (by omega));unfold pH at Hv;generalize hgr:gO us i d pre=M at *;generalize cN us (aO i x).nm=O at *;generalize (aO i x).nm=j2 at *;generalize (aO i x).pr=j1 at *;clear HV hO H1 C Hg Ha Hc hgr Hr HJ Hm Hn Hp HL
  gi_wp2_with fail
  refine⟨trivial,(CallsIn.inRound l (callsIn_wide.2 R.o)).mono ?_⟩;rintro e P ⟨rfl,Hk⟩;have hj:=qI ((EE Hk).from A);have Hi:=qI (Hh.o.then Hk);have V:=qI (HT.o.below Hk);have hy:=qI (Hu.o.below Hk);have Hy:=qI (show Boxed P (f.heap.size+1) 3 (M.2:Int) from (Hk.block _ H0.o.lt).trans H0.o);obtain⟨⟨s0,z0⟩,⟨s1,z1⟩⟩:=HT.o.below Hk;clear Hk R t0 t1 f0 f1 p0 p1 p2 hI hS HT H0;generalize h+O / 1073741824+(S+O % 1073741824) / 1073741824=m at *;generalize (S+O) % 1073741824=z at *;have HW:=qI ((V.o.set0 m).set1 z);have hw:=qI (yh (yh hy.o (f.heap.size+1+1) 0 (m:Int) (by omega)) (f.heap.size+1+1) 1 (z:Int) (by omega));have Hq:=qI (EG (EG Hy.o (f.heap.size+1+1) 0 (m:Int) (by omega)) (f.heap.size+1+1) 1 (z:Int) (by omega));have Hj:=qI ((Hi.o.set (f.heap.size+1+1) 0 (m:Int) (.inr rfl)).set (f.heap.size+1+1) 1 (z:Int) (.inr rfl));have ha:=qI ((hj.o.trans ((KeepsOthers.setCell P ⟨f.heap.size+1+1,0,none⟩ (m:Int)).from _)).trans ((KeepsOthers.setCell (P.setCell ⟨f.heap.size+1+1,0,none⟩ (m:Int)) ⟨f.heap.size+1+1,1,none⟩ (z:Int)).from _));have j0:(P.setCell ⟨f.heap.size+1+1,0,none⟩ (m:Int)).frozen? ⟨f.heap.size+1+1,1,none⟩=false:=(V.o.set0 m).2.2;have h8:=(V.o.set0 m).2.1;obtain⟨⟨q0,_⟩,⟨q1,_⟩⟩:=HW.o;obtain⟨⟨r0,_⟩,⟨r1,_⟩⟩:=hw.o;have HC:=qI (TW m z y q ((P.setCell ⟨f.heap.size+1+1,0,none⟩ (m:Int)).setCell ⟨f.heap.size+1+1,1,none⟩ (z:Int)));have HI:=qI (TV HY.o ho.o);clear Hu Hi hj V hy Hy ho
  gi_wp2_with fail
  refine⟨trivial,(CallsIn.inRound l (callsIn_wide.2 HC.o)).mono ?_⟩;clear s0 z0 s1 z1 j0 h8 q0 q1 r0 r1 HC hw;generalize (P.setCell ⟨f.heap.size+1+1,0,none⟩ (m:Int)).setCell ⟨f.heap.size+1+1,1,none⟩ (z:Int)=W6 at *;rintro e w7 ⟨rfl,Hx⟩;have H9:=qI (ha.o.trans ((EE Hx).from _));have Hb:=qI (Hj.o.then Hx);have hk:=qI (HW.o.below Hx);have Hf:Boxed w7 (f.heap.size+1) 3 (M.2:Int):=(Hx.block _ Hq.o.lt).trans Hq.o;have Hz:=qI Hf;have h5:=Hf.cell;have h6:=Hf.frozen;have hp:=qI (λW' (Ha:But (f.heap.size+1) (f.heap.size+1+1) A W')=>(show KpB b (f.heap.size+1+1+1) W W' from
   ⟨(Ha.block b H8 U.1 U.2).trans (Hh.o.block b H8 U.1 U.2).symm,(Ha.block (f.heap.size+1+1+1) (by omega) (by omega) (by omega)).trans (Hh.o.block (f.heap.size+1+1+1) (by omega) (by omega) (by omega)).symm⟩))
  clear Hx Hf ha Hj HW Hq Hh
  by_cases F:M.1+O<=d
  ·have hle:=HI.o.2 (by omega);have He:=qI (show gO us i d (pre++[x])=(M.1+O,x) by rw[Hv.o,if_pos F]);clear HI Hv F;generalize dG (Lib.compareInt m y) (Lib.compareInt z q)=cc at *
   gi_wp2_with fail
   exact⟨H9.o.trans ((KeepsOthers.setCell _ _ _).from _),hp.o _ (Hb.o.set (f.heap.size+1) 0 _ (.inl rfl)),⟨m,z,yh hk.o _ _ _ (by omega),by rw[He.o];exact HY.o⟩,by rw[He.o];exact Hz.o.set _,Hb.o.set (f.heap.size+1) 0 _ (.inl rfl)⟩
  ·have h4:0<dG (Lib.compareInt m y) (Lib.compareInt z q):=by
    refine Int.not_le.1 λhc=>F ?_
    have:=HI.o.1 hc
    omega
   have He:=qI (show gO us i d (pre++[x])=(M.1+O,M.2) by rw[Hv.o,if_neg F]);clear HI Hv F;generalize dG (Lib.compareInt m y) (Lib.compareInt z q)=cc at *
   gi_wp2_with fail
   exact⟨H9.o,hp.o _ Hb.o,⟨m,z,hk.o,by rw[He.o];exact HY.o⟩,by rw[He.o];exact Hz.o,Hb.o⟩
 case done=>
  rintro D xs W hD rfl ⟨_,Hg,Ha⟩ G;have H7:=qI (Sq us i d);have J:=H7.o.hi;have Hc:=Ha.below (K:=f.heap.size+1) (lR) (by omega) (by omega);have HM:Below f f W:=Y.o.trans (Hc.mono (by omega));have hn:=qI (HX.o.trans (HM.mono HX.o.size));have hB:=qI (T3 (hz.o.below HM) J);have hc:=Hg.cell;have HK:=qI G;have hX:=hD;generalize hgg:(gO us i d (iK i.length i.length)).2=g at *;have HN:=qI (SE _ (i.take g) W hB.o (by rw[Qu];omega));clear Hg Ha Hc HM Hm HJ Hp Hn HL hgg hi HK
  gi_wp2_with fail
  refine⟨trivial,(callsIn_wide.2 HN.o).mono ?_⟩;rintro e w9 ⟨⟨v9,rfl,H6⟩,Hc⟩;have HZ:w9.heap[D]?=some (.deferred (some [])):=(Hc.block D (gS G).1).trans G;have hJ:=qI H6.read;have hP:=qI (hn.o.trans (Hc.mono hn.o.size));have hN:w<=D:=by have:=HX.o.size;omega
  clear H6 Hc G HN hc
  gi_wp2_with fail
  refine⟨by simp,.inl ⟨_,_,rfl,run_takeDeferred HZ,?_⟩⟩;exact⟨_,results_tmp rfl _ _ _,⟨_,i,g,rfl,T4 hJ.o _ HZ rfl,HS.o,H7.o⟩,hP.o.trans (belowK_b (w:=w) (lR) _ D _ _ hN HZ rfl rfl)⟩
 case stop=>exact λ_ _ _ _ _ _ h _=>h.elim
