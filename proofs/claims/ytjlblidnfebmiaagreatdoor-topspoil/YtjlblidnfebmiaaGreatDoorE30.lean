import Derived.Test.YtjlblidnfebmiaaGreatDoorE29
import Derived.Test.YtjlblidnfebmiaaGreatDoorE27
import Derived.Deep.DeepCutAuto
set_option maxRecDepth 100000
set_option maxHeartbeats 16000000
open Go Go.RowKit Go.Shelf
attribute [local go_sem] Oper.semAt_some
open Go.Proofs.Tryz
namespace Go.Proofs.YtjlblidnfebmiaaGreatDoor
variable {L l:List Nat} {U W w:World} {base:Nat} {g:Option Nat} {m:aF} {ns:List ai} {own:Int} {s:aB} {v:Value}
theorem kK {fn:Func} {p u:Tmp} {b:TypeId} (h:fn.results=#[.cell p b,.tmp u]) (tmps:Array Value) (P:Program) (w:World) :
  (results fn tmps).run P w=((asAddr (tmps.getD p undef)).run P w).andThen λa d=>((loadVar b a).run P d).andThen λv c=>.ok (.tuple #[v,tmps.getD u undef]) c:=by
 simp only [results,h]
 simp [Sem.run_bind,Result.andThen]
theorem mO (h:w.grownBy W g) {b:Nat} (d:w<=b) (j:Nat) (v:Value):w.grownBy (W.setCell ⟨b,j,none⟩ v) g:=
 ⟨h.os,h.tape,h.output,by simpa using h.size,λk a c=>(Below.heap_setCell _ _ _ _ (by show k≠b;omega)).trans (h.block k a c)⟩
theorem grown_of (a:Below w w U) (h:U.grownBy W g):w.grownBy W g:=
 ⟨h.os.trans a.os,h.tape.trans a.tape,h.output.trans a.output,Q5 a.size h.size,λk b c=>(h.block k (Q1 b a.size) c).trans (a.block k b)⟩
theorem SP (h:w.grownBy U g) (a:Below U U W):w.grownBy W g:=
 ⟨a.os.trans h.os,a.tape.trans h.tape,a.output.trans h.output,Q5 h.size a.size,λk b c=>(a.block k (Q1 b h.size)).trans (h.block k b c)⟩
theorem SQ (h:w.grownBy U g) (k:U.grownBy W g):w.grownBy W g:=
 ⟨k.os.trans h.os,k.tape.trans h.tape,k.output.trans h.output,Q5 h.size k.size,λj a b=>(k.block j (Q1 a h.size) b).trans (h.block j a b)⟩
theorem Et (ds:List ah) (us:Nat->Bool) (kind:ByteArray) (m n:Nat):(cR ds us kind m n).Nodup:=rY ds us kind m n
theorem SR (h:∀ j∈L,j<16) (b:L.Nodup):L.length<=16:=by
 have:=List.Nodup.length_le_of_subset (l₂:=List.range 16) b (λj a=>List.mem_range.2 (h j a))
 simpa using this
theorem rb {W':World} {e:TypeId} {sz:Nat} {n:Nat} {b:List Value} (h:W.ownsRow base e sz v n b) (f:∀ g,v.ownBlock=some g->W'.heap[g]?=W.heap[g]?):W'.ownsRow base e sz v n b:=by
 obtain ⟨d,i|⟨g,c,a,rfl,r1,j,k⟩⟩:=h
 ·exact ⟨d,.inl i⟩
 ·exact ⟨d,.inr ⟨g,c,a,rfl,r1,(f g rfl).trans j,k⟩⟩
theorem SS {g:Nat} (h:∀ k,k<l.length->W.cell? ⟨g,0+k,none⟩=some (.int .i64 (bf (ints l) k))):∀ j u,(cB l)[j]?=some u->W.cell? ((g:Addr).add j)=some u:=by
 intro j u a;have b:j<l.length:=by rw [<- p6];exact (List.getElem?_eq_some_iff.1 a).1
 rw [Addr.add_lit,h j b,<- a]
 simp [cB,ints,bf,b]
theorem SU {N:Nat} (h:Row W base v l) (f:N<=base):bA (fresh N W) v (l.map λ(k:Nat)=>(k:Int)):=by
 unfold Row at h;have d:=h
 rcases h.2 with ⟨rfl,c⟩|⟨g,a,e,rfl,i,Ha,Hc,Hb,_⟩
 ·have:=Qe c
  subst this;exact ⟨none,0,rfl,⟨lR,Nat.zero_le _⟩,λh=>absurd h (Nat.lt_irrefl 0)⟩
 ·refine ⟨_,a,by rw [Q9],by rw [Q9];exact ⟨Hc,Hb⟩,λ_=>⟨g,0,rfl,by rw [cC];exact (gS Ha).1,λk b=>?_⟩⟩;rw [Q9] at b;rw [j7 (by omega),Qd,d.cellAt k (by omega)]
  simp [cB,b]
theorem SV (b:∀ j∈L,j<16) (i:L.Nodup) {wr:World} {B:Nat} {a:Option Addr} {c:Nat} (h:Row wr B (.slice a L.length c) L) (p:L.length<=1000) :
  Calls prog 134 #[.slice a L.length c] wr λe w'=>e=.returned (.tuple #[])/\Row w' B (.slice a L.length c) (bE L)/\wr.grownBy w' (Value.slice a L.length c).ownBlock:=by
 have Hg:=r7 b i
 by_cases d:L.length=0
 ·have l:L=[]:=Qe d;subst l;refine (Any.slices_Sort_int_none Tryz.sortL9 _ _ _).mono ?_;rintro e w' ⟨rfl,rfl⟩;exact ⟨rfl,h,vd _ _⟩
 ·rcases h.2 with ⟨f,o⟩|⟨g,m,n,f,k,Hc,Hf,He,Hb,Ha⟩
  ·exact absurd o d
  ·injection f with e1 e2 e3
   subst e1 e3
   have:=zY b i k Hc Hf He Hb (by rw [Nat.mul_one] at Ha;exact Ha) (by omega)
   rw [Hg] at this;exact this
theorem Eu {ws:List cG} {a:Nat} {d b:Bool} (h:((a,d),b)=eY m ws) (e:1<=m.nd/\m.nd<=15):a<256:=by
 unfold eY at h
 by_cases c:m.pol=0
 ·rw [if_pos c] at h
  have:a=m.nd:=congrArg (λx=>x.1.1) h
  omega
 ·rw [if_neg c] at h
  have:a=(l7 m.pol m.nd ws).1:=congrArg (λx=>x.1.1) h
  rw [this];exact Ie _ _ _ (by omega)
theorem SW {ds:List ah} {on:Nat} {k:Nat} (h:k<ns.length) (us:Nat->Bool) (a:List Nat):dh ds on (ns.drop k) us a=if dV ds us (ak ns k).kind (ak ns k).many=0 then dh ds on (ns.drop (k+1)) (eB us (cR ds us (ak ns k).kind on (ak ns k).many.toNat)) (a++bE (cR ds us (ak ns k).kind on (ak ns k).many.toNat)) else (dV ds us (ak ns k).kind (ak ns k).many,us,a):=by
 have e:ns.drop k=ak ns k :: ns.drop (k+1):=by rw [List.drop_eq_getElem_cons h];simp [ak,h]
 rw [e,dh]
theorem SX {a:aH} (h:(a,false)=eY m (dz m s own ns)):bJ m s own ns=(10,⟨0,[]⟩,s.us):=by
 unfold bJ;rw [<- h]
 simp
theorem SY {a:aH} (h:(a,true)=eY m (dz m s own ns)) (b:(bH m.l s.cp own (au (bn a.1) m.l)).2≠0):bJ m s own ns=((bH m.l s.cp own (au (bn a.1) m.l)).2.toNat,⟨0,[]⟩,s.us):=by grind [bJ,bH,au]
theorem SZ {a:aH} (h:(a,true)=eY m (dz m s own ns)) (b:(bH m.l s.cp own (au (bn a.1) m.l)).2=0):bJ m s own ns=if (dh s.ds a.1 ns s.us []).1≠0 then ((dh s.ds a.1 ns s.us []).1,⟨0,[]⟩,(dh s.ds a.1 ns s.us []).2.1) else (0,⟨(bH m.l s.cp own (au (bn a.1) m.l)).1,(bE (dh s.ds a.1 ns s.us []).2.2).map λ(k:Nat)=>(k:Int)⟩,(dh s.ds a.1 ns s.us []).2.1):=by
 unfold bJ;rw [<- h];have Ha:¬ (bH m.l s.cp own (au (λc=>a.1.testBit c.node.toNat) m.l)).2≠0:=λk=>k b
 simp only [Bool.true_eq_false,if_false,if_neg Ha];rfl
theorem S0 (l:List ag) (F:Nat) (L:Int) (on:Nat):(bH l F L on).2=0\/((bH l F L on).2≠0/\(bH l F L on).1=0/\(((bH l F L on).2.toNat:Nat):Int)=(bH l F L on).2/\(bH l F L on).2.toNat≠0):=by grind [bH]
abbrev pA:=λ(x0:Nat) (x1:aF)=>(.cells #[x0,.int .u64 x1.op,.int .u8 x1.nd,(x1.nb:Int),(x1.pol:Int)] 84:Obj)
abbrev lL:=λ(x0:ai)=>(.cells #[x0.kind,(x0.many:Int)] 127:Obj)
abbrev pB:=λ(x0:aB) (x1:Nat)=>(.cells #[.int .u64 x0.cp,x1] 87:Obj)
abbrev Ev:=λ(B tb:Nat) (m:aF) (s:aB) (pb:Nat) (w':World)=>cl w' B (0) tb/\cl w' B (1) (.int .u64 m.op)/\cl w' B (2) (.int .u8 m.nd)/\cl w' B (3) (m.nb:Int)/\cl w' B (4) (m.pol:Int)/\cl w' (B+1) (0) (.int .u64 s.cp)/\cl w' (B+1) (1) pb
theorem S2 (m:aF) (s:aB) (C b o c d db:Nat) (O:Option Addr) (P:Nat) (own:Int) (v:Value) (ns:List ai) (w:World) (hm:dU w C b o c m) (hs:ee w d db O P s) (hv:bO (av (λj=>j=d) w) v ns) (hl:ns.length<=3) (D:∀ n∈ns,1<=n.many) :
  Calls prog 92 #[mV m C,sV s d,own,v] w λe w'=>(∃ ua un uc,e=.returned (.tuple #[.agg #[.int .u64 (bJ m s own ns).2.1.cp,.slice ua un uc],aL ((bJ m s own ns).1:Nat)])/\((bJ m s own ns).1=0->bA (fresh w w') (.slice ua un uc) (bJ m s own ns).2.1.dv/\aJ w' d db O P s.ds (bJ m s own ns).2.2))/\w.grownBy w' (some d):=by
 obtain ⟨i0,hi,Jz,Jx,JF⟩:=info_parts wS;unfold mV sV;have HM:=qI hm;have Hl:=qI hs;have Jv:=qI (hv.le (dm _ _));have J9:=qI hv;have HX:=qI D;have JE:=hs.pool.lt;have h8:=hm.nd;obtain ⟨pl,hM⟩:∃ x,x=eY m (dz m s own ns):=⟨_,rfl⟩;have H0:=qI hM;have HQ:=qI λ(W:World) (u:Value) (hu:jg W u (dz m s own ns))=>SG m s own ns u W hu hl hm.nd hm.pol;rw [<- hM] at HQ;clear hM;obtain ⟨⟨r,X⟩,Za⟩:=pl;dsimp only at HQ;obtain ⟨na,nc,rfl,JP,Jk⟩:=hv;unfold maxLen at JP;have JT:=qI Jk;have sz:(((w.alloc (pA C m)).alloc (pB s d)).alloc (.cells #[.int .u64 0,.slice none 0 0] 123)).heap.size=w.heap.size+3:=by simp
 have Jt:=qI (aU ((w.alloc (pA C m)).alloc (pB s d)) (.cells #[.int .u64 0,.slice none 0 0] 123) (n:=w.heap.size+2) (by simp));have h5:=qI (b6 (aU (w.alloc (pA C m)) (pB s d) (n:=w.heap.size+1) (by simp)) (.cells #[.int .u64 0,.slice none 0 0] 123));have ho:=qI (b6 (b6 (aU w (pA C m) rfl) (pB s d)) (.cells #[.int .u64 0,.slice none 0 0] 123));have Jg:=qI ((((Q0 w w).alloc (lR) (pA C m)).alloc (by simp) (pB s d)).alloc (by simp;omega) (.cells #[.int .u64 0,.slice none 0 0] 123));clear hm hs Jk D
 go_enter func92,ntmps92
 go_upto_region 1 with fail
 generalize (((w.alloc (pA C m)).alloc (pB s d)).alloc (.cells #[.int .u64 0,.slice none 0 0] 123))=U at *;generalize hB:w.heap.size=B at *;have Hr:Hu (∀ W,Below U U W->Below w w W):=λW z=>(show Below w w U from hB ▸ Jg.o).trans (z.mono (by omega))
 have Hb:Hu (∀ W,Below U U W->(Ev B C m s d) W):=λW z=>⟨aa ((z.block (B) (by omega)).trans ho.o) 0,aa ((z.block (B) (by omega)).trans ho.o) 1,aa ((z.block (B) (by omega)).trans ho.o) 2,aa ((z.block (B) (by omega)).trans ho.o) 3,aa ((z.block (B) (by omega)).trans ho.o) 4,aa ((z.block (B+1) (by omega)).trans h5.o) 0,aa ((z.block (B+1) (by omega)).trans h5.o) 1⟩
 go_cut [10,11,12] (λZk Zi Zj wc=>∃ J,Zk=.pointer (some ⟨J,0,none⟩)/\Zi=.bool Za/\Zj=.nilIface/\wc.heap[J]?=some (.cells #[.int .u8 (r:Nat),X] 231 (0,0))/\U.heap.size<=J/\Below U U wc)
 case first=>
  have Hp:Hu (Below U U U.drew):=bF (Q0 _ _);refine wp_region_held_drew (S:=Ev B C m s d) (by kernel_rfl) (Hb.o _ Hp.o) λG=>?_;generalize U.drew=V at *;refine tk 0 ?_;refine tk 1 ?_;refine tk 2 ?_;refine tk 3 ?_;refine tk 4 ?_;refine tk 5 ?_;refine tk 6 ?_;refine tk 7 ?_;refine rd2 8 14 (λK f=>?_) λK f=>?_
  ·go_simp
   go_wp2_with fail
   refine (Es m s C b o c d db O P own _ ns V (HM.o.below (Hr.o _ Hp.o)) (Hl.o.below (Hr.o _ Hp.o)) (Jv.o.below (Hr.o _ Hp.o)) (by omega)).mono ?_;rintro e q ⟨v1,rfl,Jr,Q⟩;have Hc:=qI (Hp.o.trans (Q.mono Hp.o.size));have Jd:=qI Jr;clear Jr Q
   go_wp2_with fail
   refine f.o _ _ (Hb.o _ Hc.o) λG=>?_;clear f K;refine rd2 9 14 (λK f=>?_) λK f=>?_
   ·go_simp
    go_wp2_with fail
    refine (HQ.o q _ Jd.o).mono ?_;rintro e N ⟨rfl,Jn⟩;have hz:=qI (Hc.o.trans (Jn.mono Hc.o.size));clear Jn
    go_wp2_with fail
    refine f.o _ _ (Hb.o _ hz.o) λG=>?_;clear f K;refine tk 10 ?_;refine tk 11 ?_;refine tk 12 ?_;refine tk 13 ?_;refine rd 14 λK f=>?_;have Js:=qI (hz.o.alloc hz.o.size (.cells #[.int .u8 0,false] 231));have hh:=qI (aU N (.cells #[.int .u8 0,false] 231) rfl);have Jw:N.heap.size<(N.alloc (.cells #[.int .u8 0,false] 231)).heap.size:=by simp
    have HK:=hz.o.size;go_simp
    go_wp2_with fail
    refine f.o _ _ (Hb.o _ Js.o) λG=>?_;clear f K;generalize N.alloc (.cells #[.int .u8 0,false] 231)=T at *;refine rd 15 λK f=>?_;have Zo:T.cell? N.heap.size=some (.int .u8 0):=aa hh.o 0;have Zn:T.cell? ⟨N,1,none⟩=some (.bool false):=aa hh.o 1;have Zu:=bw hh.o 0;have Zp:=bw hh.o 1;have Ja:=qI ((Js.o.setCell (p:=N.heap.size) HK (.int .u8 (r:Nat))).setCell (p:=⟨N,1,none⟩) HK X);have JJ:=qI (aO (aO hh.o 0 (.int .u8 (r:Nat))) 1 X);go_simp
    go_wp2_with fail
    refine f.o _ _ (Hb.o _ Ja.o) λG=>?_;clear f K;refine tk 16 ?_;refine tk 17 ?_;refine Qn (by kernel_rfl) ?_ _
    go_wp2
    go_meet
    exact ⟨_,rfl,rfl,rfl,JJ.o,HK,Ja.o⟩
   ·have hG:=qI (Hc.o.alloc Hc.o.size (.cells #[.int .u8 0,false] 231));have JQ:=qI (aU q (.cells #[.int .u8 0,false] 231) rfl);have H8:q.heap.size<(q.alloc (.cells #[.int .u8 0,false] 231)).heap.size:=by simp
    have HL:=Hc.o.size;have JU:=qI (Jd.o.below ((Q0 _ _).alloc (lR) (.cells #[.int .u8 0,false] 231)));go_simp
    go_wp2_with fail
    refine f.o _ _ (Hb.o _ hG.o) λG=>?_;clear f K;generalize q.alloc (.cells #[.int .u8 0,false] 231)=E at *;refine rd 9 λK f=>?_;go_simp
    go_wp2_with fail
    refine (HQ.o E _ JU.o).mono ?_;rintro e W6 ⟨rfl,hE⟩;have Jo:=qI (hG.o.trans (hE.mono hG.o.size));have H3:=qI ((hE.block _ H8).trans JQ.o);have JK:=Q1 H8 hE.size;clear hE
    go_wp2_with fail
    refine f.o _ _ (Hb.o _ Jo.o) λG=>?_;clear f K;refine tk 10 ?_;refine tk 11 ?_;refine tk 12 ?_;refine tk 13 ?_;refine rd 15 λK f=>?_;have Zt:W6.cell? q.heap.size=some (.int .u8 0):=aa H3.o 0;have Zr:W6.cell? ⟨q,1,none⟩=some (.bool false):=aa H3.o 1;have Zq:=bw H3.o 0;have Zs:=bw H3.o 1;have Jh:=qI ((Jo.o.setCell (p:=q.heap.size) HL (.int .u8 (r:Nat))).setCell (p:=⟨q,1,none⟩) HL X);have JL:=qI (aO (aO H3.o 0 (.int .u8 (r:Nat))) 1 X);go_simp
    go_wp2_with fail
    refine f.o _ _ (Hb.o _ Jh.o) λG=>?_;clear f K;refine tk 16 ?_;refine tk 17 ?_;refine Qn (by kernel_rfl) ?_ _
    go_wp2
    go_meet
    exact ⟨_,rfl,rfl,rfl,JL.o,HL,Jh.o⟩
  ·have HS:=qI (Hp.o.alloc Hp.o.size (.cells #[.int .u8 0,false] 231));have Jy:=qI (aU V (.cells #[.int .u8 0,false] 231) rfl);have H6:V.heap.size<(V.alloc (.cells #[.int .u8 0,false] 231)).heap.size:=by simp
   have HB:=Hp.o.size;go_simp
   go_wp2_with fail
   refine f.o _ _ (Hb.o _ HS.o) λG=>?_;clear f K;generalize V.alloc (.cells #[.int .u8 0,false] 231)=W8 at *;refine rd 8 λK f=>?_;go_simp
   go_wp2_with fail
   refine (Es m s C b o c d db O P own _ ns W8 (HM.o.below (Hr.o _ HS.o)) (Hl.o.below (Hr.o _ HS.o)) (Jv.o.below (Hr.o _ HS.o)) (by omega)).mono ?_;rintro e W9 ⟨v9,rfl,h9,hC⟩;have hN:=qI (HS.o.trans (hC.mono HS.o.size));have JX:=qI h9;have JA:=qI ((hC.block _ H6).trans Jy.o);have hf:=Q1 H6 hC.size;clear h9 hC
   go_wp2_with fail
   refine f.o _ _ (Hb.o _ hN.o) λG=>?_;clear f K;refine rd 9 λK f=>?_;go_simp
   go_wp2_with fail
   refine (HQ.o W9 _ JX.o).mono ?_;rintro e j1 ⟨rfl,Hm⟩;have H9:=qI (hN.o.trans (Hm.mono hN.o.size));have Hf:=qI ((Hm.block _ hf).trans JA.o);have Jm:=Q1 hf Hm.size;clear Hm
   go_wp2_with fail
   refine f.o _ _ (Hb.o _ H9.o) λG=>?_;clear f K;refine tk 10 ?_;refine tk 11 ?_;refine tk 12 ?_;refine tk 13 ?_;refine rd 15 λK f=>?_;have Zm:j1.cell? V.heap.size=some (.int .u8 0):=aa Hf.o 0;have Zf:j1.cell? ⟨V,1,none⟩=some (.bool false):=aa Hf.o 1;have Zh:=bw Hf.o 0;have Zl:=bw Hf.o 1;have hw:=qI ((H9.o.setCell (p:=V.heap.size) HB (.int .u8 (r:Nat))).setCell (p:=⟨V,1,none⟩) HB X);have hS:=qI (aO (aO Hf.o 0 (.int .u8 (r:Nat))) 1 X);go_simp
   go_wp2_with fail
   refine f.o _ _ (Hb.o _ hw.o) λG=>?_;clear f K;refine tk 16 ?_;refine tk 17 ?_;refine Qn (by kernel_rfl) ?_ _
   go_wp2
   go_meet
   exact ⟨_,rfl,rfl,rfl,hS.o,HB,hw.o⟩
 case rest=>
  obtain ⟨J,rfl,rfl,rfl,h6,J1,h2⟩:=hcut;have Jq:=qI h6;have hp:=qI h2;have Jj:Hu (∀ W,U.grownBy W (some d)->w.grownBy W (some d)):=λW h=>grown_of (show Below w w U from hB ▸ Jg.o) h
  have JM:=h2.size;have JO:J<wc.heap.size:=(gS h6).1;have jb:d<B:=by omega
  clear HQ h6 h2
  rcases two Za with HH|HH
  ·subst HH;obtain ⟨q0,q1,q2,q3,q4,q5,q6⟩:=Hb.o _ hp.o;have p0:wc.cell? ⟨J,0,none⟩=some (.int .u8 (r:Nat)):=aa Jq.o 0;have Z:=qI (Ke C b o c s.cp r own m.l wc (HM.o.below (Hr.o _ hp.o)).topo HM.o.good Hl.o.cp (Eu H0.o h8));obtain ⟨tk,hH⟩:∃ x,x=bH m.l s.cp own (au (bn r) m.l):=⟨_,rfl⟩;have HT:=qI hH;have Hq:=S0 m.l s.cp own (au (bn r) m.l);rw [<- hH] at Z Hq;clear hH
   go_wp2_with fail
   refine Z.o.mono ?_;rintro e q ⟨rfl,Q⟩;have Hc:=qI (hp.o.trans (Q.mono JM));have J7:=Q.size;have JS:=qI ((Q.block J JO).trans Jq.o);have HR:=qI ((Hc.o.block (B+2) (by omega)).trans Jt.o);clear Q q0 q1 q2 q3 q4 q5 q6 p0 Z;obtain ⟨I,te⟩:=tk;unfold kZ;dsimp only at Hq ⊢
   rcases Hq with Hq|⟨Hq,hZ,hc,HW⟩
   ·subst Hq;rw [show aL (0:Int)=.nilIface from rfl];have hD:=qI (SZ H0.o (by rw [<- HT.o]));rw [<- HT.o] at hD;dsimp only at hD;have h1:Hu (aJ q d db O P s.ds s.us):=Hl.o.pool.below (Hr.o _ Hc.o);have JG:=Eu H0.o h8
    go_wp2
    go_loopw [14,58] (λpv i wr=>∃ (k:Nat) (us:Nat->Bool) (a:List Nat),k<=ns.length/\i=.int .i64 k/\Row wr q pv a/\aJ wr d db O P s.ds us/\dh s.ds r ns s.us []=dh s.ds r (ns.drop k) us a/\a.length<=16*k/\Apart (λj=>j=d\/q.heap.size<=j) q wr) (λ_ i _=>ns.length - (intOf i).toNat)
    case atStart=>exact ⟨0,s.us,[],by omega,rfl,Qw _ _ _ _,h1.o,by rw [List.drop_zero],by simp,Apart.refl _ _⟩
    case round=>
     obtain ⟨k,us,a,hk,rfl,HF,Hw,ha,jc,He⟩:=hrel;have Ho:=qI HF;have Ht:=qI Hw;have HP:=qI ha;have JZ:=qI He;have J8:=He.size;obtain ⟨A,vc,JW⟩:=fj HF;subst JW;clear HF Hw ha;have Hn:Hu (w.grownBy wr (some d)):=grown_of (Hr.o _ Hc.o) ⟨He.os,He.tape,He.output,He.size,λj y hn=>He.block j y (λh=>by rcases h with h|h;exact hn (by rw [h]);omega)⟩;have JV:=qI ((He.block J (by omega) (by omega)).trans JS.o);have Jf:=qI ((He.block (B+2) (by omega) (by omega)).trans HR.o);have JI:=qI ((He.block (B+1) (by omega) (by omega)).trans ((Hc.o.block (B+1) (by omega)).trans h5.o))
     by_cases H:k<ns.length
     ·obtain ⟨nb,no,rfl,HA,hT⟩:=JT.o (by omega);rw [cC] at HA;have m0:=(hT k H).1;have m1:=(hT k H).2;have hR:some nb≠some d:=λe=>gR m0 (by injection e)
      have c0:wr.cell? ⟨nb,no+k*2,none⟩=some (.string (ak ns k).kind):=(Hn.o.cell_far ⟨nb,no+k*2,none⟩ (by rw [hB];exact hB ▸ HA) hR).trans ((dm _ _).cell _ _ _ m0);have c1:wr.cell? ⟨nb,no+k*2+1,none⟩=some (.int .i64 (ak ns k).many):=(Hn.o.cell_far ⟨nb,no+k*2+1,none⟩ (by rw [hB];exact hB ▸ HA) hR).trans ((dm _ _).cell _ _ _ m1);have J5:=HX.o (ak ns k) (by simp [ak,H]);have hV:=qI (SW (ds:=s.ds) (on:=r) H us a);have jd:(k:Int)<(ns.length:Int):=by omega
      clear hT m0 m1 hR;generalize ak ns k=x at *;have hA:=qI ((Q0 wr wr).alloc (lR) (lL x));have Jp:=qI (aU wr (lL x) rfl);have a0:(wr.alloc (lL x)).cell? wr.heap.size=some (.string x.kind):=aa Jp.o 0;have a1:(wr.alloc (lL x)).cell? ⟨wr,1,none⟩=some (.int .i64 x.many):=aa Jp.o 1;have s1:(wr.alloc (lL x)).cell? ⟨B+1,1,none⟩=some (.pointer (some ⟨d,0,none⟩)):=aa (b6 JI.o _) 1;have p0:(wr.alloc (lL x)).cell? ⟨J,0,none⟩=some (.int .u8 (r:Nat)):=aa (b6 JV.o _) 0;have Z:=qI (Ju x.kind x.many r (wr.alloc (lL x)) d db O P s.ds us (Ht.o.alloc _) Hl.o.nodes JG);have ja:(wr.alloc (lL x)).heap.size=wr.heap.size+1:=by simp
      clear He
      go_wp2_with fail
      generalize wr.alloc (lL x)=N at *;refine Z.o.mono ?_;rintro e T ⟨hU,HI,HY⟩;have J6:=HY.size;have H5:=qI ((HY.block (B+2) (by omega) (λe=>by injection e with e;omega)).trans ((hA.o.block (B+2) (by omega)).trans Jf.o));have hX:=qI (SQ (SP Hn.o hA.o) HY);clear a0 a1 s1 p0 c0 c1 Z
      by_cases t:dV s.ds us x.kind x.many=0
      ·obtain ⟨v3,g3,rfl,H1,hr,Hg⟩:=HI t;clear hU HI hr;have HE:=qI Hg;have JC:=Bv (m:=r) t;have HN:∀ j∈cR s.ds us x.kind r x.many.toNat,j<16:=λj y=>by have:=(nj y).1;have:=Hl.o.nodes.1;omega
       have JN:=r7 HN (Et _ _ _ _ _);have hle:=SR HN (Et _ _ _ _ _);have J2:Hu (dh s.ds r ns s.us []=dh s.ds r (ns.drop (k+1)) (eB us (cR s.ds us x.kind r x.many.toNat)) (a++bE (cR s.ds us x.kind r x.many.toNat))):=by
        unfold Hu;rw [HP.o,hV.o,if_pos t]
       clear t;generalize cR s.ds us x.kind r x.many.toNat=L3 at *;generalize eB us L3=Zg at *;have hq:1<=(bE L3).length/\(bE L3).length<=16:=by omega
       clear JC HN JN hle hV;obtain ⟨a3,c3,rfl,hJ⟩:=H1;generalize bE L3=M at *;have Je:(ints M).length=M.length:=p7 _;rw [Je] at hJ ⊢;clear Je;obtain ⟨JD,J3,Ji⟩:=hJ (by omega);subst JD;have Hk:∀ b,(Value.slice A a.length vc).ownBlock=some b->q.heap.size<=b/\b<wr.heap.size:=λb z=>Ho.o.lt b z
       have ht:=qI (show Row T q (.slice A a.length vc) a from rb Ho.o λg hg=>(HY.block g (by have:=(Hk g hg).2;omega) (λe=>by injection e with e;have:=(Hk g hg).1;omega)).trans (hA.o.block g (Hk g hg).2));have JB:=qI (SS (l:=M) (g:=g3) Ji);have Hh:=qI Hl.o.pool.at0;clear Ji hJ Hg;dsimp only;rw [show (aL (((0:Nat)):Int))=.nilIface from rfl]
       go_wp2_with (at_builtin;refine wpList_append_own _ rfl _ _ 46 rfl q 3 i0 (0:Int) 1 8 underlying46 hi Jz Jx JF rfl (by decide) _ _ _ rfl ht.o g3 (M).length c3 (cB (M)) rfl (by rw [p6,Nat.mul_one]) JB.o (vl _) (by unfold maxLen;omega) (by omega) (by omega) ?_;intro v4 W4 Hx HG _)
       have H4:Hu (Row W4 q v4 (a++M)):=by
        unfold Hu Row;rw [Q2];have e:cB (a++M)=cB a++cB (M):=by simp [cB]
        rw [e];exact Hx
       have HD:=qI (HE.o.kept HG (λe=>by have:=(Hk d e.symm).1;omega) (λR e=>by have:=(Hk db e.symm).1;have:=(Hh.o R).2.2;omega));have hO:Hu (Apart (λj=>j=d\/q.heap.size<=j) q W4):=(JZ.o.trans (Apart.of_below hA.o)).trans ((fp HY λj y _=>.inl (by injection y with y;exact y.symm)).trans (fp HG λj y _=>.inr (Hk j y).1));clear Hx HG
       go_roundw
       case rel=>exact ⟨k+1,Zg,a++M,by omega,by go_num,H4.o,HD.o,J2.o,by rw [Q2];omega,hO.o⟩
       case measure=>simp [intOf];omega
      ·obtain ⟨rfl,JR⟩:=hU t;have Hj:Hu (bJ m s own ns=(dV s.ds us x.kind x.many,⟨0,[]⟩,us)):=by
        unfold Hu;rw [hD.o,HP.o,hV.o,if_neg t,if_pos t]
       have HV:Hu ((bJ m s own ns).1≠0):=by unfold Hu;rw [Hj.o];exact t
       have Y:=eV t;have h3:=qI Y;dsimp only;rw [Y];clear hU HI t JR Y;generalize dV s.ds us x.kind x.many=tf at *;have j5:T.cell? (B+2:Nat)=some (.int .u64 0):=aa H5.o 0;have Ix:T.cell? ⟨B+2,1,none⟩=some (.slice none 0 0):=aa H5.o 1;have Zc:=bw H5.o 0;have j4:=bw H5.o 1;have Jl:=qI (aO (aO H5.o 0 (.int .u64 0)) 1 (.slice none 0 0));have h4:=qI (mO (mO hX.o (b:=B+2) (by omega) 0 (.int .u64 0)) (b:=B+2) (by omega) 1 (.slice none 0 0))
       go_wp2_with fail
       generalize ((T.setCell (B+2:Nat) (.int .u64 0)).setCell ⟨B+2,1,none⟩ (.slice none 0 0))=F at *;(try simp only [Exit.inBlock,Exit.then]);refine bodyPost_ret (v:=.tuple #[.agg #[.int .u64 0,.slice none 0 0],.iface 108 (.int .i64 (tf:Nat))]) ?_ rfl ⟨⟨none,0,0,by rw [Hj.o];dsimp only;rw [h3.o];rfl,λh=>absurd h HV.o⟩,h4.o⟩;have r0:F.cell? (B+2:Nat)=some (.int .u64 0):=aa Jl.o 0;have r1:F.cell? ⟨B+2,1,none⟩=some (.slice none 0 0):=aa Jl.o 1;rw [kK rfl];clear j5 Ix Zc j4;go_simp
     ·have JY:k=ns.length:=by omega
      subst JY;have hI:Hu (dh s.ds r ns s.us []=(0,us,a)):=by unfold Hu;rw [HP.o,List.drop_length];rfl
      have Hj:Hu (bJ m s own ns=(0,⟨I,(bE a).map λ(k:Nat)=>(k:Int)⟩,us)):=by
       unfold Hu;rw [hD.o,hI.o];rfl
      obtain ⟨Zv,HO,Hi⟩:=By Hl.o.nodes.1 r ns s.us [] (by rw [hI.o]);rw [hI.o,List.nil_append] at HO;dsimp only at HO;subst HO;have JH:∀ j∈a,j<16:=λj y=>by have:=(Hi.free j y).1;have:=Hl.o.nodes.1;omega
      have H7:=Hi.nodup;have H2:=qI (SV (L:=a) JH H7 Ho.o (by omega));have Hk:∀ b,(Value.slice A a.length vc).ownBlock=some b->q.heap.size<=b/\b<wr.heap.size:=λb z=>Ho.o.lt b z
      have Hh:=qI Hl.o.pool.at0;clear Hi H7 He
      go_wp2_with fail
      refine H2.o.mono ?_;rintro e E ⟨rfl,Hs,Ha⟩;have J4:=Ha.size;have he:=qI ((Ha.block (B+2) (by omega) (λe=>by have:=(Hk (B+2) e.symm).1;omega)).trans Jf.o);have Hy:=qI (Ht.o.kept Ha (λe=>by have:=(Hk d e.symm).1;omega) (λR e=>by have:=(Hk db e.symm).1;have:=(Hh.o R).2.2;omega));have hF:Hu (w.grownBy E (some d)):=⟨Ha.os.trans Hn.o.os,Ha.tape.trans Hn.o.tape,Ha.output.trans Hn.o.output,Q5 Hn.o.size Ha.size,λj y hn=>(Ha.block j (by have:=Hn.o.size;omega) (λe=>by have:=(Hk j e.symm).1;omega)).trans (Hn.o.block j y hn)⟩;have Hv:=qI Hs;have hL:∀ b,(Value.slice A a.length vc).ownBlock=some b->q.heap.size<=b/\b<E.heap.size:=λb z=>Hv.o.lt b z
      have g0:E.cell? (B+2:Nat)=some (.int .u64 0):=aa he.o 0;have g1:E.cell? ⟨B+2,1,none⟩=some (.slice none 0 0):=aa he.o 1;have f0:=bw he.o 0;have f1:=bw he.o 1;have HZ:=qI (aO (aO he.o 0 (.int .u64 I)) 1 (.slice A a.length vc));have h7:=qI (mO (mO hF.o (b:=B+2) (by omega) 0 (.int .u64 I)) (b:=B+2) (by omega) 1 (.slice A a.length vc));have hY:Hu (∀ j,j≠B+2->((E.setCell (B+2:Nat) (.int .u64 I)).setCell ⟨B+2,1,none⟩ (.slice A a.length vc)).heap[j]?=E.heap[j]?):=λj y=>(set_other y).trans (set_other y)
      have hy:Hu (Row ((E.setCell (B+2:Nat) (.int .u64 I)).setCell ⟨B+2,1,none⟩ (.slice A a.length vc)) q (.slice A a.length vc) (bE a)):=rb Hv.o λg hg=>hY.o g (by have:=(hL g hg).1;omega);have Hz:Hu (aJ ((E.setCell (B+2:Nat) (.int .u64 I)).setCell ⟨B+2,1,none⟩ (.slice A a.length vc)) d db O P s.ds us):=(Hy.o.kept (cK _ (B+2:Nat) _) (λe=>by injection e with e;have e:d=B+2:=e;omega) (λR e=>by injection e with e;have e:db=B+2:=e;have:=(Hh.o R).2.2;omega)).kept (cK _ ⟨B+2,1,none⟩ _) (λe=>by injection e with e;have e:d=B+2:=e;omega) (λR e=>by injection e with e;have e:db=B+2:=e;have:=(Hh.o R).2.2;omega);clear Hs Ha
      go_wp2_with fail
      generalize ((E.setCell (B+2:Nat) (.int .u64 I)).setCell ⟨B+2,1,none⟩ (.slice A a.length vc))=F at *;(try simp only [Exit.inBlock,Exit.then]);refine bodyPost_ret (v:=.tuple #[.agg #[.int .u64 I,.slice A a.length vc],.nilIface]) ?_ rfl ⟨⟨A,a.length,vc,by rw [Hj.o];rfl,λ_=>?_⟩,h7.o⟩
      ·have r0:F.cell? (B+2:Nat)=some (.int .u64 I):=aa HZ.o 0;have r1:F.cell? ⟨B+2,1,none⟩=some (.slice A a.length vc):=aa HZ.o 1;rw [kK rfl];clear g0 g1 f0 f1;go_simp
      ·rw [Hj.o];exact ⟨SU hy.o (by omega),Hz.o⟩
   ·subst hZ;have Hj:Hu (bJ m s own ns=(te.toNat,⟨0,[]⟩,s.us)):=by
     have:=SY H0.o (by rw [<- HT.o];exact Hq)
     rw [<- HT.o] at this;exact this
    have HV:Hu ((bJ m s own ns).1≠0):=by unfold Hu;rw [Hj.o];exact HW
    have J0:=qI hc;have Y:aL te=.iface 108 (te:Int):=by unfold aL;rw [if_neg Hq]
    rw [Y];have h3:=qI Y;clear Hq hc HW Y;have j0:q.cell? (B+2:Nat)=some (.int .u64 0):=aa HR.o 0;have j2:q.cell? ⟨B+2,1,none⟩=some (.slice none 0 0):=aa HR.o 1;have Zb:=bw HR.o 0;have Ze:=bw HR.o 1;have Jc:=qI (aO (aO HR.o 0 (.int .u64 0)) 1 (.slice none 0 0));have hW:=qI (mO (mO (Jj.o _ (eU Hc.o _)) (b:=B+2) (by omega) 0 (.int .u64 0)) (b:=B+2) (by omega) 1 (.slice none 0 0))
    go_wp2_with fail
    generalize ((q.setCell (B+2:Nat) (.int .u64 0)).setCell ⟨B+2,1,none⟩ (.slice none 0 0))=F at *;(try simp only [Exit.inBlock,Exit.then]);refine bodyPost_ret (v:=.tuple #[.agg #[.int .u64 0,.slice none 0 0],.iface 108 (te:Int)]) ?_ rfl ⟨⟨none,0,0,by rw [Hj.o];dsimp only;rw [J0.o,h3.o];rfl,λh=>absurd h HV.o⟩,hW.o⟩;have r0:F.cell? (B+2:Nat)=some (.int .u64 0):=aa Jc.o 0;have r1:F.cell? ⟨B+2,1,none⟩=some (.slice none 0 0):=aa Jc.o 1;rw [kK rfl];clear j0 j2 Zb Ze;go_simp
  ·subst HH;have Hj:=qI (SX H0.o);have HV:Hu ((bJ m s own ns).1≠0):=by unfold Hu;rw [Hj.o];exact (by decide:(10:Nat)≠0)
   have hx:=qI ((hp.o.block (B+2) (by omega)).trans Jt.o);have Zd:wc.cell? (B+2:Nat)=some (.int .u64 0):=aa hx.o 0;have In:wc.cell? ⟨B+2,1,none⟩=some (.slice none 0 0):=aa hx.o 1;have j6:=bw hx.o 0;have j3:=bw hx.o 1;have Jb:=qI (aO (aO hx.o 0 (.int .u64 0)) 1 (.slice none 0 0));have hP:=qI (mO (mO (Jj.o _ (eU hp.o _)) (b:=B+2) (by omega) 0 (.int .u64 0)) (b:=B+2) (by omega) 1 (.slice none 0 0))
   go_wp2_with fail
   generalize ((wc.setCell (B+2:Nat) (.int .u64 0)).setCell ⟨B+2,1,none⟩ (.slice none 0 0))=F at *;(try simp only [Exit.inBlock,Exit.then]);refine bodyPost_ret (v:=.tuple #[.agg #[.int .u64 0,.slice none 0 0],.iface 108 (10:Int)]) ?_ rfl ⟨⟨none,0,0,by rw [Hj.o];rfl,λh=>absurd h HV.o⟩,hP.o⟩;have r0:F.cell? (B+2:Nat)=some (.int .u64 0):=aa Jb.o 0;have r1:F.cell? ⟨B+2,1,none⟩=some (.slice none 0 0):=aa Jb.o 1;rw [kK rfl];clear Zd In j6 j3;go_simp
