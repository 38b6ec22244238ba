import Derived.Test.YtjlblidnfebmiaaGreatDoorF39
set_option maxRecDepth 100000
set_option maxHeartbeats 16000000
open Go Go.RowKit Go.Shelf
attribute [local go_sem] Oper.semAt_some
open Go.Proofs.Tryz
namespace Go.Proofs.YtjlblidnfebmiaaGreatDoor
variable{dk dk' s:Dk}{ds:List ak}{hs:List af}{m:aL}
theorem VO(d H:Nat)(m:aL)(b l p n:Nat)(cp q db:Nat)(G:Option Addr)(c:Nat)(ds:List ak)(us:Nat->Bool)(f:Dk)(s:aE)(rs:List Rn)(hs:List af)(w:World)(h:bA w d H m b l (.slice none 0 0) cp q)(W:aF w q db G c ds us)(u:¬ three d b p q)(y:0<ds.length->¬ three d b p db)(T:eE ds)(F:m.op<18446744073709551616)(A:bz w b f)(hc:Calm f)(J:f.n.fb.data.toList.length<=1000000)(N:f.load=(0,hs))(P:bL w l b p n f.n f.k (λa=>a∈rs))(o:n<=900)(ht:bJ w)(Z:cS w)(L:bw hs=0)(k:be m ds hs=some s)(B:bS m (hs.map af.pod)=true)(r:d≠b/\d≠p/\d≠l) :
  Calls prog 36 #[d] w λe w'=>e=.returned .nilIface/\(∃(E:Value) (C g i:Nat) (t:Option Addr) (M:Nat),C<=n+dS rs (aN hs)/\aY (au (λj=>j<w.heap.size) w') E hs/\bA w' d H m b l E s.cp g/\ek w' g i t M s/\w<=g/\(0<s.ds.length->w<=i)/\bL w' l b p C f.n f.k λa=>a∈aN hs)/\Apart (three d b p) w w':=by
 obtain⟨H1,HY,HX⟩:=P.lt;have H2:=h.lt;have HO:=qI h;have HP:=qI W;have HE:=qI P;have Hw:=qI (E7 b f.n f.k (-1) false w (pQ A hc));have Hf:=qI (DB b f w A J ht Z);unfold xE at Hf;rw[N] at Hf;have Hp:lf hs:=(cW.1 L).2.1;have Hq:hs.length<=100:=by have:=(cW.1 L).1;omega
 have I:=h;unfold bA at I;have c5:cl w d (5) b:=ad I 5;have c6:cl w d (6) l:=ad I 6;clear h W P A I
 go_enter func36,ntmps36
 go_wp2_with fail
 refine Hw.o.mono ?_;rintro e wz ⟨rfl,Hj⟩;have Hj:=Hj.symm;subst Hj
 go_wp2_with fail
 refine Hf.o.mono ?_;rintro e W1 ⟨v,rfl,E,Hc⟩;have R:=qI E;obtain⟨D,vc,Hh,_⟩:=E;have Hh:v=.slice D hs.length vc:=Hh;subst Hh;have HW:=qI Hc;have HG:=Hc.size;have Hv:=qI (HO.o.below Hc);have Y:=qI (HP.o.below Hc);have HJ:=qI (HE.o.below Hc);have Hg:=qI (E9 d H m b l (.slice none 0 0) cp q db G c ds us (.slice D hs.length vc) hs W1 Hv.o Y.o T (R.o.le (cJ _ _)) F Hp Hq);rw[k] at Hg;have Hl:((some s:Option aE).isSome && bS m (hs.map af.pod))=true:=by rw[B];rfl
 rw[Hl] at Hg;dsimp only;rw[show aJ (((0:Nat)):Int)=.nilIface from rfl];clear Hc Hl Hw Hf c5 c6
 go_wp2_with fail
 refine Hg.o.mono ?_;rintro e V ⟨rfl,Hb⟩;have Ho:=qI (R.o.le (nV (M':=λj=>j<w.heap.size) (Apart.of_below Hb) λ_ _ h=>h));have HK:=qI (HW.o.trans (Hb.mono HG));have H0:=Hb.size;have S:=qI (Hv.o.below Hb);have Hi:=qI (Y.o.below Hb);have HN:=qI (HJ.o.below Hb);have Hm:=qI (uq l b p n f.n f.k rs (.slice D hs.length vc) hs V HN.o (Ho.o.le (bE (λj x o=>⟨λe=>o (by rcases e with e|e <;> omega),rfl⟩) (lR))) L (by omega));have Hk:=S.o;unfold bA at Hk;have d6:cl V d (6) l:=ad Hk 6;clear Hb Hk Hg
 go_wp2_with fail
 refine Hm.o.mono ?_;rintro e O ⟨rfl,⟨C,Hx,X⟩,Ha⟩;have HZ:=Ha.size;have Hs:=qI (S.o.block (Ha.block d (by omega) r.1 r.2.1));have HM:Hu (aF O q db G c ds us):=nh Hi.o (Ha.block q (by have:=Hi.o.lt;omega) (λe=>u (.inr (.inl e))) λe=>u (.inr (.inr e))) (λz=>Ha.block db (by have:=(Hi.o.at0 z).2.2;omega) (λe=>y z (.inr (.inl e))) λe=>y z (.inr (.inr e))) Ha.size;have HS:=qI X;have HU:Hu (C<=n+dS rs (aN hs)):=Hx;have Hr:Hu (aY (au (λj=>j<w.heap.size) O) (.slice D hs.length vc) hs):=Ho.o.le (bE (λj x o=>⟨o,Ha.block j x (λe=>o (by omega)) λe=>o (by omega)⟩) Ha.size);have HL:=qI ((Apart.of_below (K:=three d b p) HK.o).trans (uG Ha));have Q:=qI (ux d H m b l (.slice none 0 0) cp q db G c ds us (.slice D hs.length vc) hs s O Hs.o ⟨_,_,_,rfl⟩ HM.o (λe=>u (.inl e)) (λz e=>y z (.inl e)) T (Hr.o.le (bE (λj x o=>⟨λe=>o (by omega),rfl⟩) (lR))) F Hp Hq k);clear Ha X Hx d6 Hm
 go_wp2_with fail
 refine Q.o.mono ?_;rintro e U ⟨rfl,⟨g,i,t,M,Hz,Hn,HQ,Ht⟩,He⟩;have HT:=qI Hz;have HI:=qI Hn;have HV:=qI He;have HH:Hu (bL U l b p C f.n f.k λa=>a∈aN hs):=rR HS.o He r Hs.o.notInt;have HR:Hu (aY (au (λj=>j<w.heap.size) U) (.slice D hs.length vc) hs):=Hr.o.le (bE (λj x o=>⟨o,He.block j x λe=>o (by omega)⟩) He.size);have Hy:Hu (w<=g/\(0<s.ds.length->w<=i)):=⟨by omega,λz=>by have:=Ht z;omega⟩;clear Hz Hn He HQ Ht Q
 go_wp2
 go_ret;exact⟨rfl,⟨_,C,g,i,t,M,HU.o,HR.o,HT.o,HI.o,Hy.o.1,Hy.o.2,HH.o⟩,HL.o.trans (HV.o.wide λj x=>.inl x)⟩
theorem FB(f G:Nat)(m:aL)(b i p n:Nat)(cp o db:Nat)(F:Option Addr)(c:Nat)(ds:List ak)(us:Nat->Bool)(d:Dk)(s:aE)(rs:List Rn)(k:Nat)(hs:List af)(w:World)(h:bA w f G m b i (.slice none 0 0) cp o)(hp:aF w o db F c ds us)(t:¬ three f b p o)(u:0<ds.length->¬ three f b p db)(hN:eE ds)(E:m.op<18446744073709551616)(y:bz w b d)(H:Calm d)(M:d.n.fb.data.toList.length<=1000000)(Q:d.load=(k,hs))(R:bL w i b p n d.n d.k (λa=>a∈rs))(hn:n<=900)(N:bJ w)(U:cS w)(O:k≠0\/(k=0/\bw hs=0/\((be m ds hs).isSome && bS m (hs.map af.pod))=false))(z:be m ds []=some s)(r:f≠b/\f≠p/\f≠i) :
  Calls prog 36 #[f] w λe w'=>e=.returned .nilIface/\(∃(C:Value) (B g l:Nat) (A:Option Addr) (P:Nat),B<=n/\aY (au (λj=>j<w.heap.size) w') C []/\bA w' f G m b i C s.cp g/\ek w' g l A P s/\w<=g/\(0<s.ds.length->w<=l)/\bL w' i b p B (d.save []).2.n (d.save []).2.k (λa=>a∈([]:List Rn))/\bz w' b (d.save []).2/\Calm (d.save []).2)/\Apart (three f b p) w w':=by
 obtain⟨hl,hg,he⟩:=R.lt;have hq:=h.lt;have HO:=qI h;have HP:=qI hp;have HE:=qI R;have Y:=qI H;have H9:=qI y;have H3:=qI N;have Hp:=qI (E7 b d.n d.k (-1) false w (pQ y H));have Hg:=qI (DB b d w y M N U);unfold xE at Hg;rw[Q] at Hg;have Hj:=qI (rI H (hs:=[]) rfl);have Hy:(d.save []).1=0:=Hj.o.1 (of_decide_eq_true (by kernel_rfl));have J:=h;unfold bA at J;have c5:cl w f (5) b:=ad J 5;have c6:cl w f (6) i:=ad J 6;clear h hp R y J H N U
 go_enter func36,ntmps36
 go_wp2_with fail
 refine Hp.o.mono ?_;rintro e wz ⟨rfl,Hz⟩;have Hz:=Hz.symm;subst Hz
 go_wp2_with fail
 refine Hg.o.mono ?_;rintro e S ⟨v,rfl,C,Hb⟩;have H4:=qI C;obtain⟨va,vc,Hl,_⟩:=C;have Hl:v=.slice va hs.length vc:=Hl;subst Hl;have HQ:=qI Hb;have HR:=Hb.size;have Hi:=qI (HO.o.below Hb);have Hs:=qI (HP.o.below Hb);have HG:=qI (HE.o.below Hb)
 rcases O with T|⟨T,W,Hx⟩
 dsimp only;rw[eP T];have Hh:=qI HQ.o;have Hv:=qI Hi.o;have Hk:=qI Hs.o;have Hm:=qI HG.o;have He:=Hi.o;unfold bA at He;have d5:cl S f (5) b:=ad He 5;clear Hb Hp Hg c5 c6 He;generalize S=I at *
 rotate_left
 focus
  subst T;have HT:lf hs:=(cW.1 W).2.1;have HV:hs.length<=100:=by have:=(cW.1 W).1;omega
  have Ht:=qI (E9 f G m b i (.slice none 0 0) cp o db F c ds us (.slice va hs.length vc) hs S Hi.o Hs.o hN (H4.o.le (cJ _ _)) E HT HV);rw[Hx] at Ht;dsimp only;rw[show aJ (((0:Nat)):Int)=.nilIface from rfl];clear Hb Hp Hg c5 c6
  go_wp2_with fail
  refine Ht.o.mono ?_;rintro e I ⟨rfl,Hf⟩;have Hh:=qI (HQ.o.trans (Hf.mono HR));have hi:=Hf.size;have Hv:=qI (Hi.o.below Hf);have Hk:=qI (Hs.o.below Hf);have Hm:=qI (HG.o.below Hf);have He:=Hv.o;unfold bA at He;have d5:cl I f (5) b:=ad He 5;clear Hf He Ht
 all_goals
  have H5:=Hh.o.size;have H1:Hu (bz I b d):=pR Hm.o.disk Y.o;have Ho:=qI (xY b d (.slice none 0 0) [] I H1.o (.inl Y.o.2.2) (kq _) (H3.o.below Hh.o));rw[Hy,show aJ (((0:Nat)):Int)=.nilIface from rfl] at Ho
  go_wp2_with fail
  refine Ho.o.mono ?_;rintro e D ⟨rfl,Hn,Ha⟩;have ha:=Ha.size;have hf:=qI Ha;have hb:=qI Hn;have HW:Hu (bL D i b p n (d.save []).2.n (d.save []).2.k λa=>a∈rs):=uH Hm.o Ha Hn Hj.o.2.2;have HH:Hu (bA D f G m b i (.slice none 0 0) cp o):=(Ha.block f (by omega) λe=>r.1 (by injection e)).trans Hv.o;have Hr:Hu (aF D o db F c ds us):=nh Hk.o (Ha.block o Hk.o.lt λe=>t (.inr (.inl (by injection e)))) (λq=>Ha.block db (Hk.o.at0 q).2.2 λe=>u q (.inr (.inl (by injection e)))) Ha.size;have HY:=qI ((Apart.of_below (K:=three f b p) Hh.o).trans (gm Ha λj e _=>.inr (.inl (by injection e with e;exact e.symm))));have Hw:=HH.o;unfold bA at Hw;have d6:cl D f (6) i:=ad Hw 6;have HD:=qI (uq i b p n (d.save []).2.n (d.save []).2.k rs (.slice none 0 0) [] D HW.o (kq _) rfl (by omega));clear Hn Ha Hw Ho d5
  go_wp2_with fail
  refine HD.o.mono ?_;rintro e W3 ⟨rfl,⟨B,Hq,HN⟩,Hc⟩;have hh:=Hc.size;have Z:=qI (HH.o.block (Hc.block f (by omega) r.1 r.2.1));have HX:Hu (aF W3 o db F c ds us):=nh Hr.o (Hc.block o (by have:=Hr.o.lt;omega) (λe=>t (.inr (.inl e))) λe=>t (.inr (.inr e))) (λq=>Hc.block db (by have:=(Hr.o.at0 q).2.2;omega) (λe=>u q (.inr (.inl e))) λe=>u q (.inr (.inr e))) Hc.size;have H0:=qI HN;have H7:Hu (B<=n):=by
   unfold Hu;have e0:dS rs (aN [])=0:=rfl;rw[e0] at Hq;exact Hq
  have HU:=qI (HY.o.trans (uG Hc));have V:=qI (ux f G m b i (.slice none 0 0) cp o db F c ds us (.slice none 0 0) [] s W3 Z.o ⟨_,_,_,rfl⟩ HX.o (λe=>t (.inl e)) (λq e=>u q (.inl e)) hN (kq _) E (λx hx=>(List.not_mem_nil hx).elim) (by simp) z);clear Hc HN Hq d6 HD
  go_wp2_with fail
  refine V.o.mono ?_;rintro e W4 ⟨rfl,⟨g,l,A,P,HL,HF,HZ,HJ⟩,L⟩;have H2:=qI HL;have HS:=qI HF;have H8:=qI L;have HB:Hu (bL W4 i b p B (d.save []).2.n (d.save []).2.k λa=>a∈([]:List Rn)):=rR H0.o L r Z.o.notInt;have H6:Hu (bz W4 b (d.save []).2):=pR HB.o.disk Hj.o.2.2;have X:Hu (w<=g/\(0<s.ds.length->w<=l)):=⟨by omega,λq=>by have:=HJ q;omega⟩;clear HL HF L HZ HJ V
  go_wp2
  go_ret;exact⟨rfl,⟨_,B,g,l,A,P,H7.o,kq _,H2.o,HS.o,X.o.1,X.o.2,HB.o,H6.o,Hj.o.2.2⟩,HU.o.trans (H8.o.wide λj hj=>.inl hj)⟩
theorem FC(h:s.load.1=0):bw s.load.2=0:=by
 unfold Dk.load at h ⊢
 split
 ·rfl
 ·split
  ·next h1 h2=>rw[if_neg h1,if_pos h2] at h;exact (Dz h).1
  ·rfl
def nj (m:aL) (ds:List ak) (dk:Dk) (hs:List af) (dk':Dk):Prop:=
 (dk.load.1=0/\dk.load.2=hs/\((be m ds dk.load.2).isSome && bS m (dk.load.2.map af.pod))=true/\dk'=dk)\/(¬ (dk.load.1=0/\((be m ds dk.load.2).isSome && bS m (dk.load.2.map af.pod))=true)/\hs=[]/\dk'=(dk.save []).2)
theorem VP(o H:Nat)(m:aL)(l v r n:Nat)(cp F db:Nat)(L:Option Addr)(c:Nat)(ds:List ak)(us:Nat->Bool)(i:Dk)(s:aE)(rs:List Rn)(w:World)(h:bA w o H m l v (.slice none 0 0) cp F)(Q:aF w F db L c ds us)(E:¬ three o l r F)(B:0<ds.length->¬ three o l r db)(U:eE ds)(x:m.op<18446744073709551616)(D:bz w l i)(J:Calm i)(y:i.n.fb.data.toList.length<=1000000)(S:bL w v l r n i.n i.k (λa=>a∈rs))(R:n<=900)(P:bJ w)(N:cS w)(d:be m ds []=some s)(q:bS m []=true)(z:o≠l/\o≠r/\o≠v) :
  Calls prog 36 #[o] w λe w'=>e=.returned .nilIface/\(∃(hs:List af) (C:aE) (p:Dk) (u:Value) (t b f:Nat) (g:Option Addr) (A:Nat),nj m ds i hs p/\be m ds hs=some C/\bw hs=0/\bS m (hs.map af.pod)=true/\t<=n+dS rs (aN hs)/\aY (au (λj=>j<w.heap.size) w') u hs/\bA w' o H m l v u C.cp b/\ek w' b f g A C/\w<=b/\(0<C.ds.length->w<=f)/\bL w' v l r t p.n p.k (λa=>a∈aN hs)/\bz w' l p/\Calm p)/\Apart (three o l r) w w':=by
 cases hL:i.load with
 | mk k hs=>
  by_cases V:k=0
  ·subst V;have O:bw hs=0:=by have:=FC (s:=i) (by rw[hL]);rw[hL] at this;exact this
   rcases two ((be m ds hs).isSome && bS m (hs.map af.pod)) with Ha|Ha
   ·simp only[Bool.and_eq_true] at Ha;obtain⟨C,Hc⟩:=Option.isSome_iff_exists.1 Ha.1;refine (VO o H m l v r n cp F db L c ds us i C rs hs w h Q E B U x D J y hL S R P N O Hc Ha.2 z).mono ?_;rintro e w' ⟨I,⟨u,t,b,f,g,A,T,a2,a3,a4,a5,K,G⟩,Hb⟩;exact⟨I,⟨hs,C,i,u,t,b,f,g,A,.inl ⟨by rw[hL],by rw[hL],by rw[hL];simp[Hc,Ha.2],rfl⟩,Hc,O,Ha.2,T,a2,a3,a4,a5,K,G,pR G.disk J,J⟩,Hb⟩
   ·refine (FB o H m l v r n cp F db L c ds us i s rs 0 hs w h Q E B U x D J y hL S R P N (.inr ⟨rfl,O,Ha⟩) d z).mono ?_;rintro e w' ⟨I,⟨u,t,b,f,g,A,T,a2,a3,a4,a5,K,G,M,a9⟩,Hb⟩;exact⟨I,⟨[],s,(i.save []).2,u,t,b,f,g,A,.inr ⟨by rw[hL,Ha];simp,rfl,rfl⟩,d,rfl,q,by omega,a2,a3,a4,a5,K,G,M,a9⟩,Hb⟩
  ·refine (FB o H m l v r n cp F db L c ds us i s rs k hs w h Q E B U x D J y hL S R P N (.inl V) d z).mono ?_;rintro e w' ⟨I,⟨u,t,b,f,g,A,T,a2,a3,a4,a5,K,G,M,a9⟩,Hb⟩;exact⟨I,⟨[],s,(i.save []).2,u,t,b,f,g,A,.inr ⟨by rw[hL];simp[V],rfl,rfl⟩,d,rfl,q,by omega,a2,a3,a4,a5,K,G,M,a9⟩,Hb⟩
theorem VQ(h:s.load.1=0):(bn s.load.2).length<=6000:=by grind[Dk.load,yx,Dz]
theorem VR(f:Calm dk)(g:dk.k=dk.n)(c:dk.n.fb.data.toList.length<=1000000)(h:nj m ds dk hs dk'):Kept dk' hs:=by
 rcases h with⟨d,b,_,a⟩|⟨_,b,a⟩
 ·rw[a];exact⟨Prod.ext d b,g,c⟩
 ·rw[a,b];exact ya f (λx e=>(List.not_mem_nil e).elim) rfl yx
theorem VS(h:nj m ds dk hs dk'):(bn hs).length<=6000:=by cases h <;> grind[VQ,yx]
structure VT (w w':World) (N:Nat->Prop) (c:dE) (Bd Be Bm:Nat) (dk:Dk) (n:Nat) (rs:List Rn) (e:Ending):Prop where
 bad:cX c≠0->e=.returned (.tuple #[.pointer none,aJ (cX c)])
 good:cX c=0->∃Ba hs dk' n',e=.returned (.tuple #[.pointer (some ⟨Ba,0,none⟩),.nilIface])/\nj (cB c) c.ds dk hs dk'/\n'<=n+dS rs (aN hs)/\aI w' N Ba Bd Be Bm ⟨cB c,c.ds,hs⟩ dk' n'/\(w.heap.size<=Ba/\dA w w' Ba)
 o:Apart (gQ Bd Bm) w w'
abbrev rX:=λ(x0:Nat) (x1:aL) (x2 x3 x4:Nat)=>(.cells #[x0,.int .u64 x1.op,.int .u8 x1.nd,(x1.nb:Int),(x1.pol:Int),x2,x3,.slice none 0 0,.int .u64 x1.op,x4] 98:Obj)
abbrev pY:=λ(x0:Nat) (x1:aL)=>(.cells #[x0,.int .u64 x1.op,.int .u8 x1.nd,(x1.nb:Int),(x1.pol:Int)] 84:Obj)
abbrev pZ:=λ(x0:aL) (x1:Nat)=>(.cells #[.int .u64 x0.op,x1] 87:Obj)
theorem FD(N:Nat->Prop)(c:dE)(v1 v2:Value)(g o i t v:Nat)(s:Dk)(n:Nat)(rs:List Rn)(w:World)(h1:gU w v1 c.l)(h2:et w v2 g o c.ds)(hk:c.keep<18446744073709551616)(G:bz w i s)(J:Calm s)(F:s.k=s.n)(E:s.n.fb.data.toList.length<=1000000)(I:bL w t i v n s.n s.k (λa=>a∈rs))(z:n<=900)(ht:bJ w)(hm:cS w)(hN:∀j,N j->j<w.heap.size/\∃p,w.cell? ⟨j,0,none⟩=some (.pointer p))(C:¬ N i/\¬ N v/\¬ N t) :
  Calls prog 16 #[.agg #[v1,.int .u64 (c.keep:Nat),(c.nb:Int),v2,(c.pol:Int)],i,t] w λe w'=>VT w w' N c i t v s n rs e:=by
 obtain⟨ca,cc,hy⟩:∃ca cc,v1=.slice ca c.l.length cc:=by
  rcases id h1 with⟨hl,H,q,rfl⟩|⟨b,o,q,rfl,_⟩
  ·exact⟨H,q,by rw[hl];rfl⟩
  ·exact⟨_,q,rfl⟩
 have H6:=qI F;clear F;subst hy;obtain⟨da,dc,H8,hx⟩:=id h2;clear hx;subst H8;obtain⟨hK,hI,H7⟩:=I.lt;obtain⟨hB,hO,hH⟩:=I.apart;have Hn:=qI ((Q0 w w).alloc (lR) (.cells #[.slice ca c.l.length cc,.int .u64 (c.keep:Nat),(c.nb:Int),.slice da c.ds.length dc,(c.pol:Int)] 27));have H2:=qI (Vd c (.slice ca c.l.length cc) (.slice da c.ds.length dc) g o _ (h1.below Hn.o) (h2.le (aZ.of_below Hn.o)) hk);have Q:=qI G;have HE:=qI I;have HT:=qI ht;have HM:=qI hm;have Ht:=qI hN;have hA:=qI C;clear h1 h2 G I ht hm hN C
 go_enter func16,ntmps16
 go_wp2_with fail
 generalize w.alloc (.cells #[.slice ca c.l.length cc,.int .u64 (c.keep:Nat),(c.nb:Int),.slice da c.ds.length dc,(c.pol:Int)] 27)=X at *;refine H2.o.mono ?_;rintro e k ⟨Hh,Hb,HX⟩;have Hj:=qI (Hn.o.trans (HX.mono Hn.o.size));have HS:=Hj.o.size;have hL:=Hn.o.size;clear HX H2
 by_cases hf:cX c=0
 ·obtain⟨d,b,V,l,db,H,pc,rfl,Z,Hg,Hp,Hi⟩:=Hb hf;obtain⟨A,D,T,B⟩:=Fd hf;have O:=qI hf;have Hc:=qI Z;have HU:=qI Hg;have hG:=Hg.pool.lt;have Hy:Hu (0<c.ds.length->w<=db/\db<k):=λu=>⟨by have:=Hi u;omega,(Hg.pool.at0 u).2.2⟩
  have hu:w<=l:=by omega
  have HV:=Z.op;have HY:Hu (0<=(cB c).nb):=D.1;have HI:=qI B;have HO:=qI (yv A);clear Hh Hb Z Hg Hp Hi hf A D T B;unfold mV sV;dsimp only;obtain⟨M,K⟩:∃M,M=cB c:=⟨_,rfl⟩;rw[<- K] at Hc HU HV HY ⊢;have Hm:=qI K;have hp:Hu (M.l=c.l):=by unfold Hu;rw[K];rfl
  clear K;have Hw:=qI ((Hj.o.alloc HS (pY d M)).alloc (by simp;omega) (pZ M l));have Hl:=qI (((Q0 k k).alloc (lR) (pY d M)).alloc (by simp) (pZ M l));have Ho:=qI (cC (bd k (pY d M) rfl) (pZ M l));have HL:=qI (bd (k.alloc (pY d M)) (pZ M l) (n:=k.heap.size+1) (by simp));have Hr:((k.alloc (pY d M)).alloc (pZ M l)).heap.size=k.heap.size+2:=by simp
  go_wp2_with fail
  generalize ((k.alloc (pY d M)).alloc (pZ M l))=m at *;have hb:=qI (U5 i s.n s.k (.slice none 0 0) (-1) false m (pQ (Q.o.below Hw.o) J));refine hb.o.mono ?_;rintro e wz ⟨rfl,Hs⟩;have Hs:=Hs.symm;subst Hs;clear Hs;have m0:cl m k (0) d:=ad Ho.o 0;have m1:cl m k (1) (.int .u64 M.op):=ad Ho.o 1;have m2:cl m k (2) (.int .u8 M.nd):=ad Ho.o 2;have m3:cl m k (3) (M.nb:Int):=ad Ho.o 3;have m4:cl m k (4) (M.pol:Int):=ad Ho.o 4;have t0:cl m (k.heap.size+1) (0) (.int .u64 M.op):=ad HL.o 0;have t1:cl m (k.heap.size+1) (1) l:=ad HL.o 1;have Hf:=qI (Hw.o.alloc Hw.o.size (rX d M i t l));have Ha:=qI (Hl.o.alloc Hl.o.size (rX d M i t l));have ha:Hu (m.heap.size<(m.alloc (rX d M i t l)).heap.size):=by unfold Hu;simp
  have HB:Hu (bA (m.alloc (rX d M i t l)) m d M i t (.slice none 0 0) M.op l):=bd m _ rfl
  go_wp2_with fail
  generalize m.alloc (rX d M i t l)=L at *;clear m0 m1 m2 m3 m4 t0 t1;rw[Hr] at HB;obtain⟨r,Hz⟩:∃r,r=k.heap.size+2:=⟨_,rfl⟩;rw[<- Hz] at HB Hr ⊢;have ho:k.heap.size<r:=by omega
  have H3:r<L.heap.size:=by rw[<- Hr];exact ha.o
  have hw:w.heap.size<=r:=by omega
  have hF:=qI Hz;clear Hz Hr;have Hx:Hu (aF L l db H pc c.ds λ_=>false):=HU.o.pool.below Ha.o;have H4:=qI (VP r d M i t v n M.op l db H pc c.ds (λ_=>false) s ⟨M.op,c.ds,λ_=>false⟩ rs L HB.o Hx.o (by rintro (e|e|e) <;> omega) (λu=>by have:=Hy.o u;rintro (e|e|e) <;> omega) (mn HI.o) HV (Q.o.below Hf.o) J E (HE.o.below Hf.o) z (HT.o.below Hf.o) (HM.o.below Hf.o) (Fc HI.o) (yy HY.o) ⟨by omega,by omega,by omega⟩);refine H4.o.mono ?_;rintro e W4 ⟨rfl,⟨hs,s',y,hv,U,Y,W,S,c',Hv,HH,HW,H9,HP,hh,P,Hg,Hp,Hi,HQ,HJ,HZ⟩,He⟩;have hi:Hu (dA w W4 r):=yo P Hg (by have:=Ha.o.size;omega) (λu=>by have:=Ha.o.size;have:=Hi u;omega);have H5:Hu (nj (cB c) c.ds s hs y):=by rw[<- Hm.o];exact Hv
  have hg:Hu (U<=n+dS rs (aN hs)):=HP;have Hk:Hu (aI W4 N r i t v ⟨cB c,c.ds,hs⟩ y U):=by
   have hC:=Ha.o.size;have HR:∀j,w.heap.size<=j->¬ N j:=λj x e=>by have:=(Ht.o j e).1;omega
   have f4:∀j,L.heap.size<=j->¬ four N r i v j:=λj x e=>by
    rcases e with e|e|e|e
    ·exact HR j (by omega) e
    all_goals omega
   refine⟨⟨HI.o,HW,⟨_,by rw[<- Hm.o];exact HH⟩⟩,HZ,HO.o,HQ,⟨by omega,by omega,by omega⟩,⟨HR r (by omega),hA.o⟩,λj x=>by have:=(Ht.o j x).1;have:=He.size;omega,⟨VS Hv,VR J H6.o E Hv⟩,d,b,V,hv,Y,W,S,c',s',?_,hh.le (bE (λj x z=>⟨λe=>z (by
    rcases e with e|e|e|e
    ·have:=(Ht.o j e).1;omega
    all_goals omega),rfl⟩) (lR)),?_,?_,Hg,f4 _ Hp,λu=>f4 _ (Hi u)⟩
   ·rw[<- Hm.o];exact P
   ·rw[<- Hm.o];obtain⟨xs,hr,_⟩:=HE.o.map;have u:0<M.l.length:=by rw[hp.o];exact HO.o
    have Hq:=Ve Hc.o.topo u (pQ (Q.o.below Hj.o) J) (hr.block (Hj.o.block v H7));have hJ:=Hc.o.topo.tlt;have hD:=Hc.o.topo.lt;have H1:∀j,N j->d≠j/\b≠j:=λj x=>by
     obtain⟨q1,p,q2⟩:=Ht.o j x;exact Vf Hc.o.topo u ((Hj.o.cell (p:=j) q1).trans q2)
    have nt:¬ four N r i v d:=by
     rintro (e|e|e|e)
     ·exact (H1 d e).1 rfl
     ·omega
     ·exact Hq.1.1 e
     ·exact Hq.1.2 e
    have nb:¬ four N r i v b:=by
     rintro (e|e|e|e)
     ·exact (H1 b e).2 rfl
     ·omega
     ·exact Hq.2.1 e
     ·exact Hq.2.2 e
    refine⟨lh Hc.o.topo ?_ ?_ ?_,Hc.o.good,Hc.o.op,Hc.o.nd,Hc.o.pol⟩
    ·rw[b9 nt,He.block d (by omega) λe=>nt (.inr e),Ha.o.block d (by omega)]
    ·rw[b9 nb,He.block b (by omega) λe=>nb (.inr e),Ha.o.block b (by omega)]
    ·rw[bX];have:=He.size;omega
   ·rw[<- Hm.o];exact HH
  have hz:Hu (Apart (gQ i v) w W4):=⟨He.os.trans Hf.o.os,He.tape.trans Hf.o.tape,He.output.trans Hf.o.output,Q5 Hf.o.size He.size,λj x z=>(He.block j (by have:=Hf.o.size;omega) (by rintro (e|e|e);omega;exact z (.inl e);exact z (.inr e))).trans (Hf.o.block j x)⟩;clear hh P Hg Hp Hi HQ He HP Hv HH HW H9 HJ HZ
  go_wp2
  go_ret2;exact⟨λh=>absurd O.o h,λ_=>⟨r,hs,y,U,rfl,H5.o,hg.o,Hk.o,by omega,hi.o⟩,hz.o⟩
 ·have he:=Hh hf;subst he;have O:=qI hf;have R:aJ (cX c)=.iface 108 (cX c:Int):=by unfold aJ;rw[if_neg hf]
  have H0:=qI R;rw[R];have hq:=qI ((Hj.o.alloc HS (.cells #[.pointer none,.int .u64 0,.int .u8 0,(0:Int),(0:Int)] 84)).alloc (by simp;omega) (.cells #[.int .u64 0,.pointer none] 87));clear Hh Hb hf R;obtain⟨ff,HG⟩:∃f,f=cX c:=⟨_,rfl⟩;rw[<- HG] at H0 O ⊢;have HN:=qI HG;clear HG
  go_wp2
  go_ret2;exact⟨λ_=>by rw[<- HN.o,H0.o];rfl,λh=>absurd (HN.o.trans h) O.o,Apart.of_below hq.o⟩
theorem FE{a:Dk}{b:List af}(h:dk.load=(0,hs))(c:((be m ds hs).isSome && bS m (hs.map af.pod))=true)(d:nj m ds dk b a):b=hs/\a=dk:=by cases d <;> grind
theorem VU(N:Nat->Prop)(c:dE)(l v2:Value)(g o d i k:Nat)(b:Dk)(w:World)(s:gU w l c.l)(n:et w v2 g o c.ds)(H:c.keep<18446744073709551616)(q:bz w d b)(t:Calm b)(r:b.n.ft=false)(h:b.k=b.n)(f:b.n.fb.data.toList.length<=1000000)(A:bL w i d k 0 b.n b.k (λa=>a∈([]:List Rn)))(y:bJ w)(u:cS w)(G:∀j,N j->j<w.heap.size/\∃p,w.cell? ⟨j,0,none⟩=some (.pointer p))(m:¬ N d/\¬ N k/\¬ N i) :
  Calls prog 16 #[.agg #[l,.int .u64 (c.keep:Nat),(c.nb:Int),v2,(c.pol:Int)],d,i] w λe w'=>Vg w w' N c d i k b e:=by
 refine (FD N c l v2 g o d i k b 0 [] w s n H q t h f A (by omega) y u G m).mono ?_;rintro e w' ⟨s,n,E⟩;refine⟨s,λhf=>?_,E⟩;obtain⟨D,hs,x,z,F,Ha,J,I,v⟩:=n hf;obtain⟨_,C,_,B⟩:=Fd hf;obtain⟨rfl,rfl⟩:=FE (Tz t r h f).1 (by rw[Fc B,List.map_nil,yy C.1];rfl) Ha
 have:=uo [] (aN [])
 have K:(aN []).length=0:=rfl;obtain rfl:z=0:=by omega
 exact⟨D,F,I,v⟩
def Sd.file (s:Sd) (b:ByteArray):Sd:=⟨true,b,s.dt,s.db⟩
