import Derived.Test.YtjlblidnfebmiaaGreatDoorF31
import Derived.Test.YtjlblidnfebmiaaGreatDoorF27
import Derived.Deep.DeepCutAuto
set_option maxRecDepth 100000
set_option maxHeartbeats 16000000
open Go Go.RowKit Go.Shelf
attribute [local go_sem] Oper.semAt_some
open Go.Proofs.Tryz
namespace Go.Proofs.YtjlblidnfebmiaaGreatDoor
variable{L l:List Nat}{U W w:World}{base:Nat}{g:Option Nat}{m:aL}{ns:List ap}{own:Int}{s:aE}{v:Value}
theorem k9{fn:Func}{p u:Tmp}{b:TypeId}(h:fn.results=#[.cell p b,.tmp u])(tmps:Array Value)(P:Program)(w:World) :
  (results fn tmps).run P w=((asAddr (tmps.getD p undef)).run P w).andThen λa d=>((loadVar b a).run P d).andThen λv c=>.ok (.tuple #[v,tmps.getD u undef]) c:=by
 simp only[results,h]
 simp[Sem.run_bind,Result.andThen]
theorem m7(h:w.grownBy W g){b:Nat}(d:w<=b)(j:Nat)(v:Value):w.grownBy (W.setCell ⟨b,j,none⟩ v) g:=
 ⟨h.os,h.tape,h.output,by simpa using h.size,λk c a=>(Below.heap_setCell _ _ _ _ (by show k≠b;omega)).trans (h.block k c a)⟩
theorem grown_of(a:Below w w U)(h:U.grownBy W g):w.grownBy W g:=
 ⟨h.os.trans a.os,h.tape.trans a.tape,h.output.trans a.output,Q5 a.size h.size,λk b c=>(h.block k (Q1 b a.size) c).trans (a.block k b)⟩
theorem Us(h:w.grownBy U g)(a:Below U U W):w.grownBy W g:=
 ⟨a.os.trans h.os,a.tape.trans h.tape,a.output.trans h.output,Q5 h.size a.size,λk b c=>(a.block k (Q1 b h.size)).trans (h.block k b c)⟩
theorem Ut(h:w.grownBy U g)(k:U.grownBy W g):w.grownBy W g:=
 ⟨k.os.trans h.os,k.tape.trans h.tape,k.output.trans h.output,Q5 h.size k.size,λj a b=>(k.block j (Q1 a h.size) b).trans (h.block j a b)⟩
theorem ET(ds:List ak)(us:Nat->Bool)(kind:ByteArray)(m n:Nat):(cU ds us kind m n).Nodup:=sL ds us kind m n
theorem Uu(h:∀j∈L,j<16)(b:L.Nodup):L.length<=16:=by
 have:=List.Nodup.length_le_of_subset (l₂:=List.range 16) b (λj a=>List.mem_range.2 (h j a))
 simpa using this
theorem rM{W':World}{e:TypeId}{sz:Nat}{n:Nat}{d:List Value}(h:W.ownsRow base e sz v n d)(i:∀g,v.ownBlock=some g->W'.heap[g]?=W.heap[g]?):W'.ownsRow base e sz v n d:=by
 obtain⟨b,k|⟨g,c,a,rfl,r1,f,j⟩⟩:=h
 ·exact⟨b,.inl k⟩
 ·exact⟨b,.inr ⟨g,c,a,rfl,r1,(i g rfl).trans f,j⟩⟩
theorem Uv{g:Nat}(h:∀k,k<l.length->W.cell? ⟨g,0+k,none⟩=some (.int .i64 (bH (ints l) k))):∀j u,(cH l)[j]?=some u->W.cell? ((g:Addr).add j)=some u:=by
 intro j u a;have b:j<l.length:=by rw[<- qv];exact (List.getElem?_eq_some_iff.1 a).1
 rw[Addr.add_lit,h j b,<- a]
 simp[cH,ints,bH,b]
theorem Uw{N:Nat}(h:Row W base v l)(i:N<=base):bD (fresh N W) v (l.map λ(k:Nat)=>(k:Int)):=by
 unfold Row at h;have e:=h
 rcases h.2 with⟨rfl,c⟩|⟨g,a,d,rfl,f,Ha,Hc,Hb,_⟩
 ·have:=Qe c
  subst this;exact⟨none,0,rfl,⟨lR,Nat.zero_le _⟩,λh=>absurd h (Nat.lt_irrefl 0)⟩
 ·refine⟨_,a,by rw[Q9],by rw[Q9];exact⟨Hc,Hb⟩,λ_=>⟨g,0,rfl,by rw[bX];exact (gS Ha).1,λk b=>?_⟩⟩;rw[Q9] at b;rw[kr (by omega),Qd,e.cellAt k (by omega)]
  simp[cH,b]
theorem Ux(b:∀j∈L,j<16)(i:L.Nodup){wr:World}{B:Nat}{a:Option Addr}{c:Nat}(h:Row wr B (.slice a L.length c) L)(p:L.length<=1000) :
  Calls prog 134 #[.slice a L.length c] wr λe w'=>e=.returned (.tuple #[])/\Row w' B (.slice a L.length c) (bI L)/\wr.grownBy w' (Value.slice a L.length c).ownBlock:=by
 have He:=sN b i
 by_cases d:L.length=0
 ·have l:L=[]:=Qe d;subst l;refine (Any.slices_Sort_int_none Tryz.sortL9 _ _ _).mono ?_;rintro e w' ⟨rfl,rfl⟩;exact⟨rfl,h,vJ _ _⟩
 ·rcases h.2 with⟨f,k⟩|⟨g,m,o,f,n,Hc,Hb,Hf,Hg,Ha⟩
  ·exact absurd k d
  ·injection f with e1 e2 e3
   subst e1 e3
   have:=Av b i n Hc Hb Hf Hg (by rw[Nat.mul_one] at Ha;exact Ha) (by omega)
   rw[He] at this;exact this
theorem EU{ws:List cL}{a:Nat}{d b:Bool}(h:((a,d),b)=fj m ws)(e:1<=m.nd/\m.nd<=15):a<256:=by
 unfold fj at h
 by_cases c:m.pol=0
 ·rw[if_pos c] at h
  have:a=m.nd:=congrArg (λx=>x.1.1) h
  omega
 ·rw[if_neg c] at h
  have:a=(mh m.pol m.nd ws).1:=congrArg (λx=>x.1.1) h
  rw[this];exact IK _ _ _ (by omega)
theorem Uy{ds:List ak}{on:Nat}{k:Nat}(h:k<ns.length)(us:Nat->Bool)(a:List Nat):du ds on (ns.drop k) us a=if ed ds us (aq ns k).kind (aq ns k).many=0 then du ds on (ns.drop (k+1)) (eK us (cU ds us (aq ns k).kind on (aq ns k).many.toNat)) (a++bI (cU ds us (aq ns k).kind on (aq ns k).many.toNat)) else (ed ds us (aq ns k).kind (aq ns k).many,us,a):=by
 have e:ns.drop k=aq ns k :: ns.drop (k+1):=by rw[List.drop_eq_getElem_cons h];simp[aq,h]
 rw[e,du]
theorem Uz{a:aK}(h:(a,false)=fj m (dJ m s own ns)):bO m s own ns=(10,⟨0,[]⟩,s.us):=by
 unfold bO;rw[<- h]
 simp
theorem UA{a:aK}(h:(a,true)=fj m (dJ m s own ns))(b:(bN m.l s.cp own (az (br a.1) m.l)).2≠0):bO m s own ns=((bN m.l s.cp own (az (br a.1) m.l)).2.toNat,⟨0,[]⟩,s.us):=by grind[bO,bN,az]
theorem UB{a:aK}(h:(a,true)=fj m (dJ m s own ns))(b:(bN m.l s.cp own (az (br a.1) m.l)).2=0):bO m s own ns=if (du s.ds a.1 ns s.us []).1≠0 then ((du s.ds a.1 ns s.us []).1,⟨0,[]⟩,(du s.ds a.1 ns s.us []).2.1) else (0,⟨(bN m.l s.cp own (az (br a.1) m.l)).1,(bI (du s.ds a.1 ns s.us []).2.2).map λ(k:Nat)=>(k:Int)⟩,(du s.ds a.1 ns s.us []).2.1):=by
 unfold bO;rw[<- h];have Ha:¬ (bN m.l s.cp own (az (λc=>a.1.testBit c.node.toNat) m.l)).2≠0:=λk=>k b
 simp only[Bool.true_eq_false,if_false,if_neg Ha];rfl
theorem UC(l:List ah)(F:Nat)(L:Int)(on:Nat):(bN l F L on).2=0\/((bN l F L on).2≠0/\(bN l F L on).1=0/\(((bN l F L on).2.toNat:Nat):Int)=(bN l F L on).2/\(bN l F L on).2.toNat≠0):=by grind[bN]
abbrev pT:=λ(x0:Nat) (x1:aL)=>(.cells #[x0,.int .u64 x1.op,.int .u8 x1.nd,(x1.nb:Int),(x1.pol:Int)] 84:Obj)
abbrev lV:=λ(x0:ap)=>(.cells #[x0.kind,(x0.many:Int)] 127:Obj)
abbrev pU:=λ(x0:aE) (x1:Nat)=>(.cells #[.int .u64 x0.cp,x1] 87:Obj)
abbrev EV:=λ(B tb:Nat) (m:aL) (s:aE) (pb:Nat) (w':World)=>cl w' B (0) tb/\cl w' B (1) (.int .u64 m.op)/\cl w' B (2) (.int .u8 m.nd)/\cl w' B (3) (m.nb:Int)/\cl w' B (4) (m.pol:Int)/\cl w' (B+1) (0) (.int .u64 s.cp)/\cl w' (B+1) (1) pb
theorem UD(m:aL)(s:aE)(C b o c d db:Nat)(P:Option Addr)(O:Nat)(own:Int)(v:Value)(ns:List ap)(w:World)(hm:dZ w C b o c m)(hs:ek w d db P O s)(hv:bv (au (λj=>j=d) w) v ns)(hl:ns.length<=3)(E:∀n∈ns,1<=n.many) :
  Calls prog 92 #[mV m C,sV s d,own,v] w λe w'=>(∃ua un uc,e=.returned (.tuple #[.agg #[.int .u64 (bO m s own ns).2.1.cp,.slice ua un uc],aJ ((bO m s own ns).1:Nat)])/\((bO m s own ns).1=0->bD (fresh w w') (.slice ua un uc) (bO m s own ns).2.1.dv/\aF w' d db P O s.ds (bO m s own ns).2.2))/\w.grownBy w' (some d):=by
 obtain⟨i0,hi,JG,JT,JS⟩:=info_parts xv;unfold mV sV;have HM:=qI hm;have Hl:=qI hs;have Jt:=qI (hv.le (cJ _ _));have jd:=qI hv;have H2:=qI E;have JV:=hs.pool.lt;have Jc:=hm.nd;obtain⟨pl,hL⟩:∃x,x=fj m (dJ m s own ns):=⟨_,rfl⟩;have hx:=qI hL;have HR:=qI λ(W:World) (u:Value) (hu:jp W u (dJ m s own ns))=>Uk m s own ns u W hu hl hm.nd hm.pol;rw[<- hL] at HR;clear hL;obtain⟨⟨r,R⟩,Za⟩:=pl;dsimp only at HR;obtain⟨na,nc,rfl,JB,Ja⟩:=hv;unfold maxLen at JB;have Jv:=qI Ja;have sz:(((w.alloc (pT C m)).alloc (pU s d)).alloc (.cells #[.int .u64 0,.slice none 0 0] 123)).heap.size=w.heap.size+3:=by simp
 have h8:=qI (bd ((w.alloc (pT C m)).alloc (pU s d)) (.cells #[.int .u64 0,.slice none 0 0] 123) (n:=w.heap.size+2) (by simp));have hM:=qI (cC (bd (w.alloc (pT C m)) (pU s d) (n:=w.heap.size+1) (by simp)) (.cells #[.int .u64 0,.slice none 0 0] 123));have hr:=qI (cC (cC (bd w (pT C m) rfl) (pU s d)) (.cells #[.int .u64 0,.slice none 0 0] 123));have h9:=qI ((((Q0 w w).alloc (lR) (pT C m)).alloc (by simp) (pU s d)).alloc (by simp;omega) (.cells #[.int .u64 0,.slice none 0 0] 123));clear hm hs Ja E
 go_enter func92,ntmps92
 go_upto_region 1 with fail
 generalize (((w.alloc (pT C m)).alloc (pU s d)).alloc (.cells #[.int .u64 0,.slice none 0 0] 123))=U at *;generalize hB:w.heap.size=B at *;have Hq:Hu (∀W,Below U U W->Below w w W):=λW z=>(show Below w w U from hB ▸ h9.o).trans (z.mono (by omega))
 have Hb:Hu (∀W,Below U U W->(EV B C m s d) W):=λW z=>⟨ad ((z.block (B) (by omega)).trans hr.o) 0,ad ((z.block (B) (by omega)).trans hr.o) 1,ad ((z.block (B) (by omega)).trans hr.o) 2,ad ((z.block (B) (by omega)).trans hr.o) 3,ad ((z.block (B) (by omega)).trans hr.o) 4,ad ((z.block (B+1) (by omega)).trans hM.o) 0,ad ((z.block (B+1) (by omega)).trans hM.o) 1⟩
 go_cut [10,11,12] (λZj Zf Zl wc=>∃H,Zj=.pointer (some ⟨H,0,none⟩)/\Zf=.bool Za/\Zl=.nilIface/\wc.heap[H]?=some (.cells #[.int .u8 (r:Nat),R] 231 (0,0))/\U.heap.size<=H/\Below U U wc)
 case first=>
  have Hr:Hu (Below U U U.drew):=bB (Q0 _ _);refine wp_region_held_drew (S:=EV B C m s d) (by kernel_rfl) (Hb.o _ Hr.o) λF=>?_;generalize U.drew=V at *;refine tk 0 ?_;refine tk 1 ?_;refine tk 2 ?_;refine tk 3 ?_;refine tk 4 ?_;refine tk 5 ?_;refine tk 6 ?_;refine tk 7 ?_;refine rd2 8 14 (λK f=>?_) λK f=>?_
  ·go_simp
   go_wp2_with fail
   refine (ES m s C b o c d db P O own _ ns V (HM.o.below (Hq.o _ Hr.o)) (Hl.o.below (Hq.o _ Hr.o)) (Jt.o.below (Hq.o _ Hr.o)) (by omega)).mono ?_;rintro e q ⟨v1,rfl,Jb,X⟩;have Hc:=qI (Hr.o.trans (X.mono Hr.o.size));have Jq:=qI Jb;clear Jb X
   go_wp2_with fail
   refine f.o _ _ (Hb.o _ Hc.o) λF=>?_;clear f K;refine rd2 9 14 (λK f=>?_) λK f=>?_
   ·go_simp
    go_wp2_with fail
    refine (HR.o q _ Jq.o).mono ?_;rintro e M ⟨rfl,Jk⟩;have hz:=qI (Hc.o.trans (Jk.mono Hc.o.size));clear Jk
    go_wp2_with fail
    refine f.o _ _ (Hb.o _ hz.o) λF=>?_;clear f K;refine tk 10 ?_;refine tk 11 ?_;refine tk 12 ?_;refine tk 13 ?_;refine rd 14 λK f=>?_;have Ju:=qI (hz.o.alloc hz.o.size (.cells #[.int .u8 0,false] 231));have hc:=qI (bd M (.cells #[.int .u8 0,false] 231) rfl);have JO:M.heap.size<(M.alloc (.cells #[.int .u8 0,false] 231)).heap.size:=by simp
    have HO:=hz.o.size;go_simp
    go_wp2_with fail
    refine f.o _ _ (Hb.o _ Ju.o) λF=>?_;clear f K;generalize M.alloc (.cells #[.int .u8 0,false] 231)=T at *;refine rd 15 λK f=>?_;have Zp:T.cell? M.heap.size=some (.int .u8 0):=ad hc.o 0;have Zn:T.cell? ⟨M,1,none⟩=some (.bool false):=ad hc.o 1;have Zu:=bQ hc.o 0;have Zs:=bQ hc.o 1;have Ji:=qI ((Ju.o.setCell (p:=M.heap.size) HO (.int .u8 (r:Nat))).setCell (p:=⟨M,1,none⟩) HO R);have JQ:=qI (aV (aV hc.o 0 (.int .u8 (r:Nat))) 1 R);go_simp
    go_wp2_with fail
    refine f.o _ _ (Hb.o _ Ji.o) λF=>?_;clear f K;refine tk 16 ?_;refine tk 17 ?_;refine Qn (by kernel_rfl) ?_ _
    go_wp2
    go_meet
    exact⟨_,rfl,rfl,rfl,JQ.o,HO,Ji.o⟩
   ·have hP:=qI (Hc.o.alloc Hc.o.size (.cells #[.int .u8 0,false] 231));have JY:=qI (bd q (.cells #[.int .u8 0,false] 231) rfl);have hp:q.heap.size<(q.alloc (.cells #[.int .u8 0,false] 231)).heap.size:=by simp
    have Hz:=Hc.o.size;have Jx:=qI (Jq.o.below ((Q0 _ _).alloc (lR) (.cells #[.int .u8 0,false] 231)));go_simp
    go_wp2_with fail
    refine f.o _ _ (Hb.o _ hP.o) λF=>?_;clear f K;generalize q.alloc (.cells #[.int .u8 0,false] 231)=G at *;refine rd 9 λK f=>?_;go_simp
    go_wp2_with fail
    refine (HR.o G _ Jx.o).mono ?_;rintro e W6 ⟨rfl,hA⟩;have Js:=qI (hP.o.trans (hA.mono hP.o.size));have H7:=qI ((hA.block _ hp).trans JY.o);have JJ:=Q1 hp hA.size;clear hA
    go_wp2_with fail
    refine f.o _ _ (Hb.o _ Js.o) λF=>?_;clear f K;refine tk 10 ?_;refine tk 11 ?_;refine tk 12 ?_;refine tk 13 ?_;refine rd 15 λK f=>?_;have Zq:W6.cell? q.heap.size=some (.int .u8 0):=ad H7.o 0;have Zo:W6.cell? ⟨q,1,none⟩=some (.bool false):=ad H7.o 1;have Zt:=bQ H7.o 0;have Zr:=bQ H7.o 1;have Jf:=qI ((Js.o.setCell (p:=q.heap.size) Hz (.int .u8 (r:Nat))).setCell (p:=⟨q,1,none⟩) Hz R);have JD:=qI (aV (aV H7.o 0 (.int .u8 (r:Nat))) 1 R);go_simp
    go_wp2_with fail
    refine f.o _ _ (Hb.o _ Jf.o) λF=>?_;clear f K;refine tk 16 ?_;refine tk 17 ?_;refine Qn (by kernel_rfl) ?_ _
    go_wp2
    go_meet
    exact⟨_,rfl,rfl,rfl,JD.o,Hz,Jf.o⟩
  ·have Z:=qI (Hr.o.alloc Hr.o.size (.cells #[.int .u8 0,false] 231));have Jy:=qI (bd V (.cells #[.int .u8 0,false] 231) rfl);have he:V.heap.size<(V.alloc (.cells #[.int .u8 0,false] 231)).heap.size:=by simp
   have HB:=Hr.o.size;go_simp
   go_wp2_with fail
   refine f.o _ _ (Hb.o _ Z.o) λF=>?_;clear f K;generalize V.alloc (.cells #[.int .u8 0,false] 231)=W8 at *;refine rd 8 λK f=>?_;go_simp
   go_wp2_with fail
   refine (ES m s C b o c d db P O own _ ns W8 (HM.o.below (Hq.o _ Z.o)) (Hl.o.below (Hq.o _ Z.o)) (Jt.o.below (Hq.o _ Z.o)) (by omega)).mono ?_;rintro e W9 ⟨v9,rfl,Jh,hE⟩;have h2:=qI (Z.o.trans (hE.mono Z.o.size));have JZ:=qI Jh;have JP:=qI ((hE.block _ he).trans Jy.o);have H0:=Q1 he hE.size;clear Jh hE
   go_wp2_with fail
   refine f.o _ _ (Hb.o _ h2.o) λF=>?_;clear f K;refine rd 9 λK f=>?_;go_simp
   go_wp2_with fail
   refine (HR.o W9 _ JZ.o).mono ?_;rintro e j0 ⟨rfl,Hm⟩;have ht:=qI (h2.o.trans (Hm.mono h2.o.size));have Hg:=qI ((Hm.block _ H0).trans JP.o);have Jm:=Q1 H0 Hm.size;clear Hm
   go_wp2_with fail
   refine f.o _ _ (Hb.o _ ht.o) λF=>?_;clear f K;refine tk 10 ?_;refine tk 11 ?_;refine tk 12 ?_;refine tk 13 ?_;refine rd 15 λK f=>?_;have Zg:j0.cell? V.heap.size=some (.int .u8 0):=ad Hg.o 0;have Zi:j0.cell? ⟨V,1,none⟩=some (.bool false):=ad Hg.o 1;have Zk:=bQ Hg.o 0;have Zm:=bQ Hg.o 1;have HV:=qI ((ht.o.setCell (p:=V.heap.size) HB (.int .u8 (r:Nat))).setCell (p:=⟨V,1,none⟩) HB R);have h4:=qI (aV (aV Hg.o 0 (.int .u8 (r:Nat))) 1 R);go_simp
   go_wp2_with fail
   refine f.o _ _ (Hb.o _ HV.o) λF=>?_;clear f K;refine tk 16 ?_;refine tk 17 ?_;refine Qn (by kernel_rfl) ?_ _
   go_wp2
   go_meet
   exact⟨_,rfl,rfl,rfl,h4.o,HB,HV.o⟩
 case rest=>
  obtain⟨H,rfl,rfl,rfl,hV,J1,h5⟩:=hcut;have Jp:=qI hV;have hw:=qI h5;have Jr:Hu (∀W,U.grownBy W (some d)->w.grownBy W (some d)):=λW h=>grown_of (show Below w w U from hB ▸ h9.o) h
  have JA:=h5.size;have JR:H<wc.heap.size:=(gS hV).1;have J3:d<B:=by omega
  clear HR hV h5
  rcases two Za with Hy|Hy
  ·subst Hy;obtain⟨q0,q1,q2,q3,q4,q5,q6⟩:=Hb.o _ hw.o;have p0:wc.cell? ⟨H,0,none⟩=some (.int .u8 (r:Nat)):=ad Jp.o 0;have HS:=qI (KS C b o c s.cp r own m.l wc (HM.o.below (Hq.o _ hw.o)).topo HM.o.good Hl.o.cp (EU hx.o Jc));obtain⟨tk,h6⟩:∃x,x=bN m.l s.cp own (az (br r) m.l):=⟨_,rfl⟩;have HT:=qI h6;have Hn:=UC m.l s.cp own (az (br r) m.l);rw[<- h6] at HS Hn;clear h6
   go_wp2_with fail
   refine HS.o.mono ?_;rintro e q ⟨rfl,X⟩;have Hc:=qI (hw.o.trans (X.mono JA));have jc:=X.size;have JH:=qI ((X.block H JR).trans Jp.o);have HU:=qI ((Hc.o.block (B+2) (by omega)).trans h8.o);clear X q0 q1 q2 q3 q4 q5 q6 p0 HS;obtain⟨J,te⟩:=tk;unfold lw;dsimp only at Hn ⊢
   rcases Hn with Hn|⟨Hn,hX,HW,ho⟩
   ·subst Hn;rw[show aJ (0:Int)=.nilIface from rfl];have hC:=qI (UB hx.o (by rw[<- HT.o]));rw[<- HT.o] at hC;dsimp only at hC;have hS:Hu (aF q d db P O s.ds s.us):=Hl.o.pool.below (Hq.o _ Hc.o);have Jz:=EU hx.o Jc
    go_wp2
    go_loopw [14,58] (λpv i wr=>∃(k:Nat) (us:Nat->Bool) (a:List Nat),k<=ns.length/\i=.int .i64 k/\Row wr q pv a/\aF wr d db P O s.ds us/\du s.ds r ns s.us []=du s.ds r (ns.drop k) us a/\a.length<=16*k/\Apart (λj=>j=d\/q.heap.size<=j) q wr) (λ_ i _=>ns.length - (intOf i).toNat)
    case atStart=>exact⟨0,s.us,[],by omega,rfl,Qw _ _ _ _,hS.o,by rw[List.drop_zero],by simp,Apart.refl _ _⟩
    case round=>
     obtain⟨k,us,a,hk,rfl,HD,Hs,hy,J4,He⟩:=hrel;have Ho:=qI HD;have Hw:=qI Hs;have HN:=qI hy;have JI:=qI He;have J8:=He.size;obtain⟨A,vc,JL⟩:=gI HD;subst JL;clear HD Hs hy;have Hp:Hu (w.grownBy wr (some d)):=grown_of (Hq.o _ Hc.o) ⟨He.os,He.tape,He.output,He.size,λj y hn=>He.block j y (λh=>by rcases h with h|h;exact hn (by rw[h]);omega)⟩;have JK:=qI ((He.block H (by omega) (by omega)).trans JH.o);have Jl:=qI ((He.block (B+2) (by omega) (by omega)).trans HU.o);have J0:=qI ((He.block (B+1) (by omega) (by omega)).trans ((Hc.o.block (B+1) (by omega)).trans hM.o))
     by_cases N:k<ns.length
     ·obtain⟨nb,no,rfl,HI,hT⟩:=Jv.o (by omega);rw[bX] at HI;have m0:=(hT k N).1;have m1:=(hT k N).2;have h1:some nb≠some d:=λe=>fk m0 (by injection e)
      have c0:wr.cell? ⟨nb,no+k*2,none⟩=some (.string (aq ns k).kind):=(Hp.o.cell_far ⟨nb,no+k*2,none⟩ (by rw[hB];exact hB ▸ HI) h1).trans ((cJ _ _).cell _ _ _ m0);have c1:wr.cell? ⟨nb,no+k*2+1,none⟩=some (.int .i64 (aq ns k).many):=(Hp.o.cell_far ⟨nb,no+k*2+1,none⟩ (by rw[hB];exact hB ▸ HI) h1).trans ((cJ _ _).cell _ _ _ m1);have J9:=H2.o (aq ns k) (by simp[aq,N]);have hW:=qI (Uy (ds:=s.ds) (on:=r) N us a);have J6:(k:Int)<(ns.length:Int):=by omega
      clear hT m0 m1 h1;generalize aq ns k=x at *;have hD:=qI ((Q0 wr wr).alloc (lR) (lV x));have Jj:=qI (bd wr (lV x) rfl);have a0:(wr.alloc (lV x)).cell? wr.heap.size=some (.string x.kind):=ad Jj.o 0;have a1:(wr.alloc (lV x)).cell? ⟨wr,1,none⟩=some (.int .i64 x.many):=ad Jj.o 1;have s1:(wr.alloc (lV x)).cell? ⟨B+1,1,none⟩=some (.pointer (some ⟨d,0,none⟩)):=ad (cC J0.o _) 1;have p0:(wr.alloc (lV x)).cell? ⟨H,0,none⟩=some (.int .u8 (r:Nat)):=ad (cC JK.o _) 0;have HS:=qI (J7 x.kind x.many r (wr.alloc (lV x)) d db P O s.ds us (Hw.o.alloc _) Hl.o.nodes Jz);have J2:(wr.alloc (lV x)).heap.size=wr.heap.size+1:=by simp
      clear He
      go_wp2_with fail
      generalize wr.alloc (lV x)=M at *;refine HS.o.mono ?_;rintro e T ⟨hY,HP,hf⟩;have jb:=hf.size;have HX:=qI ((hf.block (B+2) (by omega) (λe=>by injection e with e;omega)).trans ((hD.o.block (B+2) (by omega)).trans Jl.o));have hG:=qI (Ut (Us Hp.o hD.o) hf);clear a0 a1 s1 p0 c0 c1 HS
      by_cases t:ed s.ds us x.kind x.many=0
      ·obtain⟨v3,g3,rfl,H4,H9,Hi⟩:=HP t;clear hY HP H9;have HL:=qI Hi;have JM:=B0 (m:=r) t;have HH:∀j∈cU s.ds us x.kind r x.many.toNat,j<16:=λj y=>by have:=(nD y).1;have:=Hl.o.nodes.1;omega
       have JX:=sN HH (ET _ _ _ _ _);have hle:=Uu HH (ET _ _ _ _ _);have Jw:Hu (du s.ds r ns s.us []=du s.ds r (ns.drop (k+1)) (eK us (cU s.ds us x.kind r x.many.toNat)) (a++bI (cU s.ds us x.kind r x.many.toNat))):=by
        unfold Hu;rw[HN.o,hW.o,if_pos t]
       clear t;generalize cU s.ds us x.kind r x.many.toNat=L3 at *;generalize eK us L3=Zh at *;have hq:1<=(bI L3).length/\(bI L3).length<=16:=by omega
       clear JM HH JX hle hW;obtain⟨a3,c3,rfl,hJ⟩:=H4;generalize bI L3=I at *;have Jg:(ints I).length=I.length:=qw _;rw[Jg] at hJ ⊢;clear Jg;obtain⟨JW,J5,Jn⟩:=hJ (by omega);subst JW;have Hk:∀b,(Value.slice A a.length vc).ownBlock=some b->q.heap.size<=b/\b<wr.heap.size:=λb z=>Ho.o.lt b z
       have H5:=qI (show Row T q (.slice A a.length vc) a from rM Ho.o λg hg=>(hf.block g (by have:=(Hk g hg).2;omega) (λe=>by injection e with e;have:=(Hk g hg).1;omega)).trans (hD.o.block g (Hk g hg).2));have JE:=qI (Uv (l:=I) (g:=g3) Jn);have Hf:=qI Hl.o.pool.at0;clear Jn hJ Hi;dsimp only;rw[show (aJ (((0:Nat)):Int))=.nilIface from rfl]
       go_wp2_with (at_builtin;refine wpList_append_own _ rfl _ _ 46 rfl q 3 i0 (0:Int) 1 8 underlying46 hi JG JT JS rfl (by decide) _ _ _ rfl H5.o g3 (I).length c3 (cH (I)) rfl (by rw[qv,Nat.mul_one]) JE.o (vQ _) (by unfold maxLen;omega) (by omega) (by omega) ?_;intro v4 W4 Hv HF _)
       have H8:Hu (Row W4 q v4 (a++I)):=by
        unfold Hu Row;rw[Q2];have e:cH (a++I)=cH a++cH (I):=by simp[cH]
        rw[e];exact Hv
       have HA:=qI (HL.o.kept HF (λe=>by have:=(Hk d e.symm).1;omega) (λY e=>by have:=(Hk db e.symm).1;have:=(Hf.o Y).2.2;omega));have hZ:Hu (Apart (λj=>j=d\/q.heap.size<=j) q W4):=(JI.o.trans (Apart.of_below hD.o)).trans ((gm hf λj y _=>.inl (by injection y with y;exact y.symm)).trans (gm HF λj y _=>.inr (Hk j y).1));clear Hv HF
       go_roundw
       case rel=>exact⟨k+1,Zh,a++I,by omega,by go_num,H8.o,HA.o,Jw.o,by rw[Q2];omega,hZ.o⟩
       case measure=>simp[intOf];omega
      ·obtain⟨rfl,JN⟩:=hY t;have Hh:Hu (bO m s own ns=(ed s.ds us x.kind x.many,⟨0,[]⟩,us)):=by
        unfold Hu;rw[hC.o,HN.o,hW.o,if_neg t,if_pos t]
       have H3:Hu ((bO m s own ns).1≠0):=by unfold Hu;rw[Hh.o];exact t
       have Q:=eP t;have hN:=qI Q;dsimp only;rw[Q];clear hY HP t JN Q;generalize ed s.ds us x.kind x.many=tf at *;have j4:T.cell? (B+2:Nat)=some (.int .u64 0):=ad HX.o 0;have Zd:T.cell? ⟨B+2,1,none⟩=some (.slice none 0 0):=ad HX.o 1;have j2:=bQ HX.o 0;have Zb:=bQ HX.o 1;have Je:=qI (aV (aV HX.o 0 (.int .u64 0)) 1 (.slice none 0 0));have h3:=qI (m7 (m7 hG.o (b:=B+2) (by omega) 0 (.int .u64 0)) (b:=B+2) (by omega) 1 (.slice none 0 0))
       go_wp2_with fail
       generalize ((T.setCell (B+2:Nat) (.int .u64 0)).setCell ⟨B+2,1,none⟩ (.slice none 0 0))=D at *;(try simp only[Exit.inBlock,Exit.then]);refine bodyPost_ret (v:=.tuple #[.agg #[.int .u64 0,.slice none 0 0],.iface 108 (.int .i64 (tf:Nat))]) ?_ rfl ⟨⟨none,0,0,by rw[Hh.o];dsimp only;rw[hN.o];rfl,λh=>absurd h H3.o⟩,h3.o⟩;have r0:D.cell? (B+2:Nat)=some (.int .u64 0):=ad Je.o 0;have r1:D.cell? ⟨B+2,1,none⟩=some (.slice none 0 0):=ad Je.o 1;rw[k9 rfl];clear j4 Zd j2 Zb;go_simp
     ·have JF:k=ns.length:=by omega
      subst JF;have hI:Hu (du s.ds r ns s.us []=(0,us,a)):=by unfold Hu;rw[HN.o,List.drop_length];rfl
      have Hh:Hu (bO m s own ns=(0,⟨J,(bI a).map λ(k:Nat)=>(k:Int)⟩,us)):=by
       unfold Hu;rw[hC.o,hI.o];rfl
      obtain⟨Zv,HJ,Hj⟩:=B4 Hl.o.nodes.1 r ns s.us [] (by rw[hI.o]);rw[hI.o,List.nil_append] at HJ;dsimp only at HJ;subst HJ;have JU:∀j∈a,j<16:=λj y=>by have:=(Hj.free j y).1;have:=Hl.o.nodes.1;omega
      have HY:=Hj.nodup;have hh:=qI (Ux (L:=a) JU HY Ho.o (by omega));have Hk:∀b,(Value.slice A a.length vc).ownBlock=some b->q.heap.size<=b/\b<wr.heap.size:=λb z=>Ho.o.lt b z
      have Hf:=qI Hl.o.pool.at0;clear Hj HY He
      go_wp2_with fail
      refine hh.o.mono ?_;rintro e G ⟨rfl,Hx,Ha⟩;have ja:=Ha.size;have H1:=qI ((Ha.block (B+2) (by omega) (λe=>by have:=(Hk (B+2) e.symm).1;omega)).trans Jl.o);have HG:=qI (Hw.o.kept Ha (λe=>by have:=(Hk d e.symm).1;omega) (λY e=>by have:=(Hk db e.symm).1;have:=(Hf.o Y).2.2;omega));have h7:Hu (w.grownBy G (some d)):=⟨Ha.os.trans Hp.o.os,Ha.tape.trans Hp.o.tape,Ha.output.trans Hp.o.output,Q5 Hp.o.size Ha.size,λj y hn=>(Ha.block j (by have:=Hp.o.size;omega) (λe=>by have:=(Hk j e.symm).1;omega)).trans (Hp.o.block j y hn)⟩;have Ht:=qI Hx;have hH:∀b,(Value.slice A a.length vc).ownBlock=some b->q.heap.size<=b/\b<G.heap.size:=λb z=>Ht.o.lt b z
      have g0:G.cell? (B+2:Nat)=some (.int .u64 0):=ad H1.o 0;have g1:G.cell? ⟨B+2,1,none⟩=some (.slice none 0 0):=ad H1.o 1;have f0:=bQ H1.o 0;have f1:=bQ H1.o 1;have HZ:=qI (aV (aV H1.o 0 (.int .u64 J)) 1 (.slice A a.length vc));have hF:=qI (m7 (m7 h7.o (b:=B+2) (by omega) 0 (.int .u64 J)) (b:=B+2) (by omega) 1 (.slice A a.length vc));have hO:Hu (∀j,j≠B+2->((G.setCell (B+2:Nat) (.int .u64 J)).setCell ⟨B+2,1,none⟩ (.slice A a.length vc)).heap[j]?=G.heap[j]?):=λj y=>(set_other y).trans (set_other y)
      have ha:Hu (Row ((G.setCell (B+2:Nat) (.int .u64 J)).setCell ⟨B+2,1,none⟩ (.slice A a.length vc)) q (.slice A a.length vc) (bI a)):=rM Ht.o λg hg=>hO.o g (by have:=(hH g hg).1;omega);have HK:Hu (aF ((G.setCell (B+2:Nat) (.int .u64 J)).setCell ⟨B+2,1,none⟩ (.slice A a.length vc)) d db P O s.ds us):=(HG.o.kept (cM _ (B+2:Nat) _) (λe=>by injection e with e;have e:d=B+2:=e;omega) (λY e=>by injection e with e;have e:db=B+2:=e;have:=(Hf.o Y).2.2;omega)).kept (cM _ ⟨B+2,1,none⟩ _) (λe=>by injection e with e;have e:d=B+2:=e;omega) (λY e=>by injection e with e;have e:db=B+2:=e;have:=(Hf.o Y).2.2;omega);clear Hx Ha
      go_wp2_with fail
      generalize ((G.setCell (B+2:Nat) (.int .u64 J)).setCell ⟨B+2,1,none⟩ (.slice A a.length vc))=D at *;(try simp only[Exit.inBlock,Exit.then]);refine bodyPost_ret (v:=.tuple #[.agg #[.int .u64 J,.slice A a.length vc],.nilIface]) ?_ rfl ⟨⟨A,a.length,vc,by rw[Hh.o];rfl,λ_=>?_⟩,hF.o⟩
      ·have r0:D.cell? (B+2:Nat)=some (.int .u64 J):=ad HZ.o 0;have r1:D.cell? ⟨B+2,1,none⟩=some (.slice A a.length vc):=ad HZ.o 1;rw[k9 rfl];clear g0 g1 f0 f1;go_simp
      ·rw[Hh.o];exact⟨Uw ha.o (by omega),HK.o⟩
   ·subst hX;have Hh:Hu (bO m s own ns=(te.toNat,⟨0,[]⟩,s.us)):=by
     have:=UA hx.o (by rw[<- HT.o];exact Hn)
     rw[<- HT.o] at this;exact this
    have H3:Hu ((bO m s own ns).1≠0):=by unfold Hu;rw[Hh.o];exact ho
    have JC:=qI HW;have Q:aJ te=.iface 108 (te:Int):=by unfold aJ;rw[if_neg Hn]
    rw[Q];have hN:=qI Q;clear Hn HW ho Q;have Ix:q.cell? (B+2:Nat)=some (.int .u64 0):=ad HU.o 0;have Ze:q.cell? ⟨B+2,1,none⟩=some (.slice none 0 0):=ad HU.o 1;have In:=bQ HU.o 0;have j5:=bQ HU.o 1;have Jo:=qI (aV (aV HU.o 0 (.int .u64 0)) 1 (.slice none 0 0));have hU:=qI (m7 (m7 (Jr.o _ (fB Hc.o _)) (b:=B+2) (by omega) 0 (.int .u64 0)) (b:=B+2) (by omega) 1 (.slice none 0 0))
    go_wp2_with fail
    generalize ((q.setCell (B+2:Nat) (.int .u64 0)).setCell ⟨B+2,1,none⟩ (.slice none 0 0))=D at *;(try simp only[Exit.inBlock,Exit.then]);refine bodyPost_ret (v:=.tuple #[.agg #[.int .u64 0,.slice none 0 0],.iface 108 (te:Int)]) ?_ rfl ⟨⟨none,0,0,by rw[Hh.o];dsimp only;rw[JC.o,hN.o];rfl,λh=>absurd h H3.o⟩,hU.o⟩;have r0:D.cell? (B+2:Nat)=some (.int .u64 0):=ad Jo.o 0;have r1:D.cell? ⟨B+2,1,none⟩=some (.slice none 0 0):=ad Jo.o 1;rw[k9 rfl];clear Ix Ze In j5;go_simp
  ·subst Hy;have Hh:=qI (Uz hx.o);have H3:Hu ((bO m s own ns).1≠0):=by unfold Hu;rw[Hh.o];exact (by decide:(10:Nat)≠0)
   have H6:=qI ((hw.o.block (B+2) (by omega)).trans h8.o);have j3:wc.cell? (B+2:Nat)=some (.int .u64 0):=ad H6.o 0;have Zc:wc.cell? ⟨B+2,1,none⟩=some (.slice none 0 0):=ad H6.o 1;have j6:=bQ H6.o 0;have j1:=bQ H6.o 1;have Jd:=qI (aV (aV H6.o 0 (.int .u64 0)) 1 (.slice none 0 0));have hR:=qI (m7 (m7 (Jr.o _ (fB hw.o _)) (b:=B+2) (by omega) 0 (.int .u64 0)) (b:=B+2) (by omega) 1 (.slice none 0 0))
   go_wp2_with fail
   generalize ((wc.setCell (B+2:Nat) (.int .u64 0)).setCell ⟨B+2,1,none⟩ (.slice none 0 0))=D at *;(try simp only[Exit.inBlock,Exit.then]);refine bodyPost_ret (v:=.tuple #[.agg #[.int .u64 0,.slice none 0 0],.iface 108 (10:Int)]) ?_ rfl ⟨⟨none,0,0,by rw[Hh.o];rfl,λh=>absurd h H3.o⟩,hR.o⟩;have r0:D.cell? (B+2:Nat)=some (.int .u64 0):=ad Jd.o 0;have r1:D.cell? ⟨B+2,1,none⟩=some (.slice none 0 0):=ad Jd.o 1;rw[k9 rfl];clear j3 Zc j6 j1;go_simp
