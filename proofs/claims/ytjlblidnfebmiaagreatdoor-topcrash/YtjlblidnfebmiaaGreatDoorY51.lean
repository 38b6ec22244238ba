import Derived.Test.YtjlblidnfebmiaaGreatDoorY49
import Derived.Test.YtjlblidnfebmiaaGreatDoorY50
set_option maxRecDepth 100000
set_option maxHeartbeats 16000000
open Go Go.RowKit Go.Shelf
attribute [local go_sem] Oper.semAt_some
open Go.Proofs.Tryz
namespace Go.Proofs.YtjlblidnfebmiaaGreatDoor
variable{a b:List aq}{f:Nat}{m:aJ}{t:aT}{x:Ac}
section
variable{N:Nat->Prop}{Ba Bd Be Bm:Nat}{t:aT}{dk:Dk}{n:Nat}{w:World}
theorem rE{N:Nat->Prop}{d g f m:Nat}{t:aT}{q:Dk}{n:Nat}{w:World}(h:aE w N d g f m t q n):Calls pg 12 #[.pointer (some ⟨d,0,none⟩)] w λe w'=>∃a c,e=.returned (.slice a t.hs.length c)/\bf (fresh w w') (.slice a t.hs.length c) t.hs/\Bw w w':=by
 obtain⟨o,Ha,Hb,r,Hg,He,Hf,Hc,p,b,B,k,l,db,D,A,s,i,j,y,u,v,C,z⟩:=h;obtain⟨x,a2,a3⟩:=dm.1 o.held;exact XG i (j.le (df)) a2 (by omega)
theorem Zh(h:aE w N Ba Bd Be Bm t dk n):Calls pg 40 #[.pointer (some ⟨Ba,0,none⟩)] w λe w'=>∃a g c,e=.returned (.slice a t.ds.length c)/\et w' (.slice a t.ds.length c) g 0 t.ds/\(0<t.ds.length->w.heap.size<=g)/\Bw w w':=by
 obtain⟨y,Ha,Hb,C,Hg,He,Hf,Hc,A,b,G,j,o,db,d,p,s,q,D,E,r,u,H,F⟩:=h;have z:aM w o db d p t.ds s.us:=by rw[<- lg r];exact u.pool
 refine (G8 q z (lr y.devs)).mono ?_;rintro e w' ⟨v,rfl,B,x⟩;obtain⟨d,c,g,j,m,i⟩:=B;subst j;refine⟨d,g,c,rfl,⟨d,c,rfl,λf=>⟨(m f).1,(m f).2.2,λk l=>?_⟩⟩,λf=>(m f).2.1,x⟩;rw[Qd];exact⟨(i k l).1,(i k l).2.1,(i k l).2.2.1⟩
theorem Zi(h:aE w N Ba Bd Be Bm t dk n):Calls pg 21 #[.pointer (some ⟨Ba,0,none⟩)] w λe w'=>(∃s,bi t.m t.ds t.hs=some s/\e=.returned (.int .u64 (s.cp:Nat)))/\w'=w:=by
 obtain⟨g,Ha,Hb,i,Hg,He,Hf,Hc,o,b,q,r,u,db,v,p,s,a,j,d,c,k,l,f⟩:=h;have x:=cb a 8;have m:=qI c;clear g Ha Hb i Hg He Hf Hc a j d c k l f
 go_enter func21,ntmps21
 go_wp2
 go_ret;exact⟨⟨s,m,rfl⟩,rfl⟩
theorem Zj(h:aE w N Ba Bd Be Bm t dk n)(z:n<=1000):Calls pg 45 #[.pointer (some ⟨Be,0,none⟩)] w λe w'=>∃a c b,e=.returned (.slice a b.length c)/\m5 w' a b/\(∀y∈b,bB w' y/\y.dn<=1000)/\(b.map (aN w')).Perm (aL t.hs)/\Bw w w':=by
 obtain⟨r,ah,i,g,Ha,Hc⟩:=h.eng;have Hb:i.length<=1000:=by
  obtain⟨_,A,o,d⟩:=g;have m:=o.size_le;have l:=d.length_eq;unfold md at l;rw[Q9] at l;rw[Go.Maps.size_eq] at m;omega
 have u:=F9 (W:=w) g.keys;refine (Cs r g Hb λx k=>⟨(Ha x k).1.1,(Ha x k).2⟩).mono ?_;rintro e w' ⟨⟨v,b,rfl,j,s,d,_⟩,p⟩;obtain⟨a,c,q,_⟩:=id j;subst q;refine⟨a,c,b,rfl,IB j,λy f=>(s y f).1,d.trans ?_,p⟩;refine (List.perm_ext_iff_of_nodup ?_ ?_).2 Hc
 ·exact IC u
 ·exact IC (FZ h.inv.held)
abbrev rF:=(.cells #[false,false,false,false,false,false,false,false,false,false,false,false,false,false,false,false] 119:Obj)
abbrev m7:=λ(x0 x1 x2:Nat)=>(.cells #[x0,x1,x2] 36:Obj)
theorem ID{c:dp}{ca da:Option Addr}{cc dl dc:Nat}(hM:aE w oI Ba Bd Be Bm t dk n)(g:t.m=cT c)(x:cr t.m (t.hs.map ae.pod)=true)(A:cR c=0)(C:fZ w (.slice ca c.l.length cc) c.l)(hk:c.keep<18446744073709551616)(hn:n<=1000) :
  CB 17 #[.agg #[Bd,Be,Ba],.agg #[.slice ca c.l.length cc,.int .u64 (c.keep:Nat),(c.nb:Int),.slice da dl dc,(c.pol:Int)]] w true:=by
 obtain⟨D,h4⟩:∃o:Obj,o=.cells #[Bd,Be,Ba] 36:=⟨_,rfl⟩;obtain⟨E,h3⟩:∃o:Obj,o=.cells #[.slice ca c.l.length cc,.int .u64 (c.keep:Nat),(c.nb:Int),.slice da dl dc,(c.pol:Int)] 27:=⟨_,rfl⟩;have P:=qI (((Q0 w w).alloc (lR) D).alloc (by simp) E);obtain⟨b,ho⟩:∃B,B=w.heap.size:=⟨_,rfl⟩;obtain⟨v,HL⟩:∃B,B=w.heap.size+1:=⟨_,rfl⟩;have hJ:((w.alloc D).alloc E).heap[b]?=some D:=by grind[bQ,aY]
 have hl:((w.alloc D).alloc E).heap[v]?=some E:=by rw[HL];exact aY (w.alloc D) E (by simp)
 have HP:=qI hJ;have H4:=qI hl;clear hJ hl;subst h4 h3;obtain⟨ht,hE,HQ,hY⟩:=v6 A;have He:=qI hM;have hf:=qI (room_le x);have hW:Hu (0<=t.m.nb/\t.m.nb<=1125899906842624):=by unfold Hu;rw[g];exact hE
 have h9:=qI ht;have H1:=qI C;have HW:Hu (aI (aB bh c.l) c.keep=t.m.op):=by unfold Hu;rw[g];rfl
 have Hy:Hu (c.nb=t.m.nb):=by unfold Hu;rw[g];rfl
 clear hM x A C ht hE HQ hY g
 go_enter func17,ntmps17
 go_wp2
 (try rw[<- HL]);(try rw[<- ho]);generalize ((w.alloc (m7 Bd Be Ba)).alloc (.cells #[.slice ca c.l.length cc,.int .u64 (c.keep:Nat),(c.nb:Int),.slice da dl dc,(c.pol:Int)] 27))=X at *;clear ho HL;refine (EC (H1.o.below P)).mono ?_;rintro e m ⟨Hx,_,hw⟩;obtain⟨tb,tg,tc,rfl,Hf⟩:=Hx h9;have h8:=(gS HP).1;have h0:=(gS H4).1;have Ha:Hu (∀V,Bw X V->V.heap[b]?=some (m7 Bd Be Ba)/\V.heap[v]?=some (.cells #[.slice ca c.l.length cc,.int .u64 (c.keep:Nat),(c.nb:Int),.slice da dl dc,(c.pol:Int)] 27)/\Bw w V):=λV r=>⟨(r.block b h8).trans HP,(r.block v h0).trans H4,P.o.trans (r.mono P.o.size)⟩
 have Hm:=qI hw;have Hk:=qI Hf;have H5:=Hf.len;have Hr:aB bh c.l<18446744073709551616:=jJ bh c.l c.l.length H5;have hx:=mJ (aB bh c.l) c.keep Hr hk;have hu:Hu (t.m.op<18446744073709551616):=by unfold Hu;rw[<- HW.o];exact lK _ Hr
 rw[HW.o] at hx;rw[Hy.o] at Ha;clear Hx hw Hf HW Hy HP H4 H1 P;have Hw:Hu (∀V,Bw m V->CB 38 #[tb] V (.int .u64 (aB bh c.l:Nat))):=λV r=>nW (Hk.o.below r)
 have H2:Hu (∀V,Bw m V->(λw'=>cl w' v (1) (.int .u64 (c.keep:Nat))) V):=λV r=>ad (Ha.o V (Hm.o.trans (r.mono Hm.o.size))).2.1 1
 generalize aB bh c.l=ch at *
 go_upto_region 4 with fail
 have Hn:Hu (Bw m m.drew):=bO (Q0 _ _);refine wp_region_held_drew (S:=(λw'=>cl w' v (1) (.int .u64 (c.keep:Nat)))) (by kernel_rfl) (H2.o _ Hn) λhQ=>?_;generalize m.drew=V at *;refine tk 0 ?_;refine tk 2 ?_;refine tk 3 ?_;refine rd 1 λK hK=>?_;go_simp
 go_wp2
 refine (Hw.o _ Hn).m λV2 hS=>?_;have HR:=Hn.t hS;clear hS
 go_wp2
 refine hK.k (H2.o _ HR) λhQ=>?_;refine tk 4 ?_;refine tk 5 ?_;refine Qn (by kernel_rfl) ?_ _;clear hQ hx Hw H2 Hk;have Hj:=Hm.t HR;clear Hm HR Hn;have hA:=qI (Ha.o V2 Hj).2.1
 go_upto_region 5 with fail
 refine wj (G:=λF=>frE b v (.int .u64 (t.m.op:Nat)) (F 8) F) (by kernel_rfl) (λF1=>YE F1 V2 v t.m.op c.keep hA hu) ?_;rintro a O ⟨d,F1,rfl,W,Jj,hc⟩;have hI:=qI W;have Hp:=Hj.t hc;have HI:=(gS W).1;have Jg:=Hj.o.size;clear W hc Hj hA;have ha:=qI (He.o.keep (Ha.o O Hp).2.2);have z2:=cb (Ha.o O Hp).1 2;simp only[frE,tlS,Nat.reduceAdd];(try dsimp only)
 go_wp2
 clear z2;refine (Zh ha).mono ?_;rintro e k ⟨wa,wg,wc,rfl,_,_,J⟩;have HK:=Hp.t J;have H6:=qI ((J.block d HI).trans hI);have Jm:=J.size;clear J Hp hI ha;have Hq:=qI (HK.o.alloc HK.o.size (rF));have H8:=qI (bQ H6 (rF));have HJ:Hu (dE (k.alloc (rF)) k λ_=>false):=dE.made k 119 λ_=>false;have Jn:(k.alloc (rF)).heap.size=k.heap.size+1:=by simp
 have hP:=qI (aY k (rF) rfl);obtain⟨l,HU⟩:∃B,B=k.heap.size:=⟨_,rfl⟩;rw[<- HU] at HJ hP;have h6:O<=l:=by omega
 go_upto_region 8 with fail
 rw[<- HU];generalize k.alloc (rF)=p at *;have hN:=qI (He.o.keep (Ha.o p Hq).2.2);have z2:=cb (Ha.o p Hq).1 2
 go_wp2
 clear z2;refine (rE hN).mono ?_;rintro e U ⟨la,lc,rfl,hh,Hh⟩;have Ht:d<p:=by omega
 have Hs:l<p:=by omega
 have HT:d≠l:=by omega
 have Hl:=Hq.t Hh;have h7:=qI ((Hh.block d Ht).trans H8);have hg:=qI (HJ.o.below Hh);have hD:=qI ((Hh.block l Hs).trans hP);have hG:=qI hh;have Jo:=Hh.size;have Jp:=(Ha.o X (Q0 _ _)).2.2.size;have hp:Hu (aE U (λj=>j=d\/j=l) Ba Bd Be Bm t dk n):=He.o.grow (Ha.o U Hl).2.2 (λj e=>.inr (by omega)) (λj e=>by omega);obtain⟨s,hs⟩:=He.o.inv.left;have HS:=qI hs;have HO:Hu (aR (fresh p U) U):=Ei;have h5:=zB t.m.op;have HF:Hu (U.heap[d]?=some (.cells #[(1000*(az t.m.op:Int) - bE ((t.hs.take 0).map ae.pod):Int),(t.m.nb - ci ((t.hs.take 0).map ae.pod):Int)] 62 (0,0))):=by
  simp_all[bE,ci]
 clear hh Hh hs HK H6 Hq H8 HJ hN h7 HU
 go_wp2
 refine rz (G:=(λF=>frS b (.int .u64 (t.m.op:Nat)) d (.slice wa t.ds.length wc) l (.slice la t.hs.length lc) () (0:Int) (F 14) (F 16) (F 17) (F 18) (F 19) (F 20) F)) (by kernel_rfl) (λF2=>Zf F2 wc wa HO (by simp[cC]) (by omega) (by omega) HT (Ap Ht) (Ap Hs) hG He.o.inv HS hu hW h5 HF hg) ?_;rintro a W6 ⟨pv,zq,F2,rfl,H7,L,hC,Ho,Hg⟩;obtain⟨ra,rc,hv⟩:=fI L;obtain⟨f,HX⟩:∃f,f=zq.map Prod.fst:=⟨_,rfl⟩;rw[<- HX] at hv L;subst hv;have hU:b<U:=by omega
 have Q:=qI ((Hg.block b hU (by omega)).trans (Ha.o U Hl).1);have HG:Hu (aE W6 (λj=>j=d\/j=l) Ba Bd Be Bm t dk n):=hp.o.other Hg (λj h Jx z e=>by
  rcases h with h|h
  ·rw[h,HF.o] at e;injection e with e
   injection e with _ H
   exact absurd H (by decide)
  ·rw[h,hD.o] at e;injection e with e
   injection e with _ H
   exact absurd H (by decide))
 have Y:=qI (oH (Ha.o U Hl).2.2 (Ha.o U Hl).2.2.size Hg (λj h=>by omega));have hR:=qI (tX HO Hg (λj o e=>by grind[Ap]));have Hi:=qI Ho;have Hv:=qI (IB (Gu L));have hX:=qI hC;have hL:=qI H7;have hB:=qI HX;have Jk:=Hg.size;clear H7 L hC Ho Hg hp HO HF hg hG Hl hD HX;have z1:=cb Q 1;simp only[frS,tlS,Nat.reduceAdd];(try dsimp only)
 go_wp2
 clear z1;refine (Zj HG hn).mono ?_;rintro e u ⟨na,nc,N,rfl,hF,hH,M,Hb⟩;have R:N.length=f.length:=by
  have e1:=M.length_eq;have H:=congrArg List.length hL;rw[Q9] at e1 H;rw[hB.o,Q9];omega
 rw[R];have Ji:=vL He.o.inv.held;have Jh:f.length<=36:=by
  have e1:=M.length_eq;rw[Q9] at e1;omega
 have Ja:=qI (HG.o.keep Hb);have hZ:=qI (hR.o.trans (aR.of_below Hb));have hO:=Y.t Hb;have HN:b<W6:=by omega
 have Jc:=qI ((Hb.block b HN).trans Q);have Hc:=qI ((Hb.block d (by omega)).trans Hi);have HV:=qI (Hv.o.below Hb);have hT:=qI hF;have Jb:=qI hH;have Jd:=qI M;have hr:=qI R;clear hF hH M R Hb HG hR Y Q Hi Hv;have HM:Hu (∀z∈f,bB u z/\z.dn<=1000/\aN u z∈aL t.hs):=λz I=>by
  rw[hB.o] at I;obtain⟨q,hq,rfl⟩:=Qk.1 I;obtain⟨d1,d2,d3⟩:=Zg (hX.o q hq) hZ;have hm:q.2∈aL t.hs:=by rw[<- hL.o];exact Qk.2 ⟨q,hq,rfl⟩
  refine⟨d1,?_,by rw[d2];exact hm⟩
  have:=(F8 He.o.inv.held _ hm).2.2
  omega
 have h2:Hu (∀i,i<f.length->∃j,j<N.length/\aN u (rv N j)=aN u (rv f i)):=λi hi=>by
  have C:=(HM.o _ (o8 hi)).2.2;rw[<- Jd.o.mem_iff] at C;obtain⟨y,hy,he⟩:=Qk.1 C;obtain⟨j,h,e⟩:=List.getElem_of_mem hy;exact⟨j,h,by grind[rv]⟩
 obtain⟨T,HE⟩:∃q,q=1000*(az t.m.op:Int) - bE ((t.hs.take t.hs.length).map ae.pod):=⟨_,rfl⟩;obtain⟨RC,Z⟩:∃q,q=t.m.nb - ci ((t.hs.take t.hs.length).map ae.pod):=⟨_,rfl⟩;rw[<- HE,<- Z] at Hc;have Jf:0<=T:=by
  rw[HE,Qh]
  have:=hf.o.1
  omega
 have Jq:0<=RC:=by
  rw[Z,Qh]
  have:=hf.o.2
  omega
 have Jl:decide (T<0)=false:=Q7 (by omega);have Je:decide (RC<0)=false:=Q7 (by omega);clear HE Z;have z2:=cb Jc 2;obtain⟨y0,y1⟩:=c2 Hc
 go_wp2
 refine (Zi Ja).mono ?_;rintro e W8 ⟨⟨s2,Hz,rfl⟩,rfl⟩;rw[HS.o] at Hz;injection Hz with Hz
 subst Hz
 go_wp2
 clear z2 y0 y1;refine rz (G:=λF=>frT (.slice ra f.length rc) (.slice na f.length nc) (0:Int) (F 23) (F 24) F) (by kernel_rfl) (λF3=>YG F3 rc nc f.length hr.o.symm HV hT (λz I=>⟨(HM.o z I).1,(HM.o z I).2.1⟩) Jb (by omega) (by have:=hr.o;omega) h2) ?_;rintro a W9 ⟨F3,rfl,H9⟩;have hV:=hO.t H9;clear H9;simp only[frT,tlS,Nat.reduceAdd];(try dsimp only)
 go_wp2
 go_ret;exact⟨rfl,hV⟩
end
abbrev qe:=λ(x0:Option Addr) (x1:dp) (x2:Nat) (x3:Option Addr) (x4:Nat)=>(.cells #[.slice x0 x1.l.length x2,.int .u64 (x1.keep:Nat),(x1.nb:Int),.slice x3 x1.ds.length x4,(x1.pol:Int)] 27:Obj)
theorem Zk{c:dp}{h v2:Value}{g o m l r:Nat}(j:Dk){n:Nat}(rs:List Rn){w:World}(i:fZ w h c.l)(k:et w v2 g o c.ds)(p:c.keep<18446744073709551616)(d:bz w l m r n j.n j.k j.l false (λa=>a∈rs))(hf:cR c≠0) :
  CB 16 #[.agg #[h,.int .u64 (c.keep:Nat),(c.nb:Int),v2,(c.pol:Int)],m,l] w (.tuple #[.pointer none,aD (cR c)]):=by
 obtain⟨ca,cc,Hl⟩:∃ca cc,h=.slice ca c.l.length cc:=by
  rcases id i with⟨v,x,q,rfl⟩|⟨b,o,q,rfl,_⟩
  ·grind
  ·exact⟨_,q,rfl⟩
 subst Hl;obtain⟨da,dc,Ho,Hk⟩:=id k;clear Hk;subst Ho;obtain⟨Hv,Hq,Ht⟩:=d.lt;obtain⟨Hr,Hs,Hw⟩:=d.apart;have Ha:=qI ((Q0 w w).alloc (lR) (qe ca c cc da dc));have Hi:=qI (Ae c (i.below Ha) (k.le (aR.of_below Ha)) p);have u:=qI d;clear i k d
 go_enter func16,ntmps16
 go_wp2
 generalize w.alloc (qe ca c cc da dc)=X at *;refine Hi.o.mono ?_;rintro e y ⟨Hc,Hb,Hh⟩;have Hj:=Ha.t Hh;have Hp:=Hj.o.size;have Hu:=Ha.o.size;clear Hh Hi;have t:=Hc hf;subst t;have s:=qI hf;have He:aD (cR c)=.iface 108 (cR c:Int):=by grind[aD]
 have Hg:=qI He;rw[He];have Hm:=qI ((Hj.o.alloc Hp (.cells #[.pointer none,.int .u64 0,.int .u8 0,(0:Int),(0:Int)] 84)).alloc (by simp;omega) (.cells #[.int .u64 0,.pointer none] 87));clear Hc Hb hf He;obtain⟨z,Hf⟩:∃f,f=cR c:=⟨_,rfl⟩;rw[<- Hf] at Hg s ⊢;have Hn:=qI Hf;clear Hf
 go_wp2
 go_ret2;exact⟨by rw[<- Hn.o,Hg.o];rfl,Hm⟩
theorem Zl{s:Dk}(h:fh s)(hf:s.n.ft=false)(b:s.k=s.n)(a:s.n.fb.data.toList.length<=1000000):Kept s []:=by
 refine⟨?_,b,a⟩;unfold Dk.load;rw[h.1,hf];rfl
structure Zm (w w':World) (N:Nat->Prop) (c:dp) (Bd Be Bm:Nat) (e:Ending):Prop where
 bad:cR c≠0->e=.returned (.tuple #[.pointer none,aD (cR c)])
 good:cR c=0->∃Ba dk',e=.returned (.tuple #[.pointer (some ⟨Ba,0,none⟩),.nilIface])/\dk'.l=-1/\aE w' N Ba Bd Be Bm ⟨cT c,c.ds,[]⟩ dk' 0/\(w.heap.size<=Ba/\fR w w' Ba)
 o:Apart (gq Bd Bm) w w'
theorem Zn(N:Nat->Prop)(c:dp){n v2:Value}{g o d f i:Nat}{b:Dk}{w:World}(z:fZ w n c.l)(A:et w v2 g o c.ds)(y:c.keep<18446744073709551616)(r:bu w d b)(u:fh b)(E:b.l=-1)(t:b.n.ft=false)(m:b.k=b.n)(l:b.n.fb.data.toList.length<=1000000)(x:bz w f d i 0 b.n b.k b.l false (λa=>a∈([]:List Rn)))(H:cJ w)(F:dH w)(B:∀j,N j->j<w.heap.size/\∃p,w.cell? ⟨j,0,none⟩=some (.pointer p))(s:¬ N d/\¬ N i/\¬ N f) :
  Calls pg 16 #[.agg #[n,.int .u64 (c.keep:Nat),(c.nb:Int),v2,(c.pol:Int)],.pointer (some ⟨d,0,none⟩),.pointer (some ⟨f,0,none⟩)] w λe w'=>Zm w w' N c d f i e:=by
 by_cases hf:cR c=0
 ·obtain⟨_,C,_,D⟩:=v6 hf;refine (Iy N [] z A y r u m l x (by omega) H F B s (Zl u t m l).1 rfl (XU D) (Hg C.1) XT hf).mono ?_;rintro e w' ⟨h,q⟩;refine⟨λk=>absurd hf k,λ_=>?_,q⟩
  rcases h with⟨K,G,I,M,v,O,J,L⟩|⟨v,_⟩
  ·grind[vM,aL]
  ·exact absurd E v
 ·refine (Zk b [] z A y x hf).mono ?_;rintro e w' ⟨h,q⟩;exact⟨λ_=>h,λk=>absurd k hf,Apart.of_below q⟩
theorem Zo{w w':World}{b:Nat}(ah:bu w b Dk.fresh)(c:Bw w w')(d:fU w' (w.heap.size+1) b w)(e:bI w' w 0 []):bz w' (w.heap.size+1) b w 0 Dk.fresh.n Dk.fresh.k Dk.fresh.l false (λa=>a∈([]:List Rn)):=
 ⟨d,p6 (ah.below c) En.soft,[],e,λx f=>absurd f (by simp),λa=>by simp⟩
structure IE (w w':World) (c:dp) (e:Ending):Prop where
 bad:cR c≠0->∃p q,e=.returned (.tuple #[.agg #[.pointer p,.pointer q,.pointer none],false])
 good:cR c=0->∃Ba Bd Be Bm dk,e=.returned (.tuple #[.agg #[.pointer (some ⟨Bd,0,none⟩),.pointer (some ⟨Be,0,none⟩),.pointer (some ⟨Ba,0,none⟩)],true])/\dk.l=-1/\aE w' (λ_=>False) Ba Bd Be Bm ⟨cT c,c.ds,[]⟩ dk 0/\w.heap.size<=Ba/\w.heap.size<=Bd/\w.heap.size<=Be/\(w.heap.size<=Bm/\fR w w' Ba)
 o:Below w w w'
abbrev tY:=(.cells #[.pointer none,.pointer none,.pointer none] 36:Obj)
theorem IF(c:dp){y v2:Value}{g o:Nat}{w:World}(C:fZ w y c.l)(B:et w v2 g o c.ds)(V:c.keep<18446744073709551616)(L:cJ w)(P:dH w) :
  Calls pg 9 #[.agg #[y,.int .u64 (c.keep:Nat),(c.nb:Int),v2,(c.pol:Int)]] w λe w'=>IE w w' c e:=by
 obtain⟨ca,cc,R⟩:∃ca cc,y=.slice ca c.l.length cc:=by
  rcases id C with⟨hl,ao,q,rfl⟩|⟨b,o,q,rfl,_⟩
  ·grind
  ·exact⟨_,q,rfl⟩
 subst R;obtain⟨da,dc,HU,HQ⟩:=id B;clear HQ;subst HU;have T:=qI C;have Y:=qI B;have HT:=qI L;have HM:=qI P;clear C B L P;have HO:=qI (((Q0 w w).alloc (lR) (qe ca c cc da dc)).alloc (by simp) (tY));have HY:=qI (bQ (aY w (qe ca c cc da dc) rfl) (tY));have S:=qI (aY (w.alloc (qe ca c cc da dc)) (tY) (n:=w.heap.size+1) (by simp));have Hn:Hu (((w.alloc (qe ca c cc da dc)).alloc (tY)).heap.size=w.heap.size+2):=by unfold Hu;simp
 go_enter func9,ntmps9
 go_wp2
 generalize ((w.alloc (qe ca c cc da dc)).alloc (tY))=X at *;have Hq:=qI (QQ X);rw[Hn.o] at Hq;refine Hq.o.m λx ⟨Hm,Hl⟩=>?_;have W:w+2<=x.heap.size:=by have:=Hl.size;have:=Hn.o;omega
 have Hw:=Hm.lt;obtain⟨a,Hv⟩:∃a,a=w.heap.size+2:=⟨_,rfl⟩;rw[<- Hv] at Hm Hw ⊢;have H9:w.heap.size+1<a:=by omega
 have H5:=qI Hv;have J:=qI Hm;have M:=qI (HO.o.trans (Hl.mono (by have:=Hn.o;omega)));have Hy:=qI ((Hl.block w (by have:=Hn.o;omega)).trans HY);have Hp:=qI ((Hl.block (w.heap.size+1) (by have:=Hn.o;omega)).trans S);clear Hm Hl Hv Hq
 go_wp2
 refine (Lb a x).m λr ⟨N,F,Hj,HV⟩=>?_;have Ht:=qI (Zo J Hj N F);obtain⟨s,Hz⟩:∃s,s=x.heap.size:=⟨_,rfl⟩;obtain⟨d,Hr⟩:∃d,d=x.heap.size+1:=⟨_,rfl⟩;rw[<- Hr] at Ht ⊢;rw[<- Hz] at Ht;have H1:a<s/\s<d:=by omega
 have H7:d<r.heap.size:=by omega
 have H4:=qI Hz;have H6:=qI Hr;have U:=qI (J.o.below Hj);have He:=M.t Hj;have Hc:=qI ((Hj.block w (by omega)).trans Hy);have Hk:=qI ((Hj.block (w.heap.size+1) (by omega)).trans Hp);have H3:=He.o.size;clear N F Hj HV Hz Hr W;have c0:cl r w (0) (.slice ca c.l.length cc):=ad Hc 0;have c1:cl r w (1) (.int .u64 (c.keep:Nat)):=ad Hc 1;have c2:cl r w (2) (c.nb:Int):=ad Hc 2;have c3:cl r w (3) (.slice da c.ds.length dc):=ad Hc 3;have c4:cl r w (4) (c.pol:Int):=ad Hc 4;have G:=qI (Zn (λj=>j=w.heap.size+1) c (T.o.below He) (Y.o.le (aR.of_below He)) V U En.soft rfl rfl rfl (by decide) Ht (HT.o.below He) (HM.o.below He) (λj k=>by rw[k];exact⟨by omega,_,ad Hk 0⟩) ⟨by omega,by omega,by omega⟩)
 go_wp2
 refine G.o.mono ?_;rintro e i ⟨Hi,Hb,Hg⟩;have H8:=Hg.size;have Ha:=qI ((Hg.block (w.heap.size+1) (by omega) (by omega)).trans Hk);have D:Hu (Bw w i):=⟨Hg.os.trans He.o.os,Hg.tape.trans He.o.tape,Hg.output.trans He.o.output,by omega,λj k=>(Hg.block j (by omega) (by omega)).trans (He.o.block j k)⟩;have r0:cl i (w.heap.size+1) (0) (.pointer none):=ad Ha 0;have r1:cl i (w.heap.size+1) (1) (.pointer none):=ad Ha 1;have t:cl i (w.heap.size+1) (2) (.pointer none):=ad Ha 2;have f0:i.frozen? (w.heap.size+1:Nat)=false:=by simp[World.frozen?,Ha.o]
 have f1:i.frozen? ⟨w.heap.size+1,1,none⟩=false:=by simp[World.frozen?,Ha.o]
 have f2:i.frozen? ⟨w.heap.size+1,2,none⟩=false:=by simp[World.frozen?,Ha.o]
 clear c0 c1 c2 c3 c4 Hg G
 by_cases hf:cR c=0
 ·obtain⟨l,A,rfl,O,Hf,H2,I⟩:=Hb hf;have HZ:=qI O;clear O;have HP:=qI I;clear I;have u:=qI hf;have H:=qI Hf;clear Hi Hb hf Hf
  go_wp2
  have Hh:Hu ((((i.setCell (w.heap.size+1:Nat) (.pointer (some ⟨a,0,none⟩))).setCell ⟨w.heap.size+1,1,none⟩ (.pointer (some ⟨d,0,none⟩))).setCell ⟨w.heap.size+1,2,none⟩ l).heap[w.heap.size+1]?=some (m7 a d l)):=bd (bd (bd Ha 0 _) 1 _) 2 _;have Hx:=qI (((D.o.setCell (p:=⟨w.heap.size+1,0,none⟩) (Nat.le_succ _) (.pointer (some ⟨a,0,none⟩))).setCell (p:=⟨w.heap.size+1,1,none⟩) (Nat.le_succ _) (.pointer (some ⟨d,0,none⟩))).setCell (p:=⟨w.heap.size+1,2,none⟩) (Nat.le_succ _) l);have Ho:Hu (Apart (λj=>j=w.heap.size+1) i (((i.setCell (w.heap.size+1:Nat) (.pointer (some ⟨a,0,none⟩))).setCell ⟨w.heap.size+1,1,none⟩ (.pointer (some ⟨d,0,none⟩))).setCell ⟨w.heap.size+1,2,none⟩ l)):=((Apart.setCell (K:=λj=>j=w.heap.size+1) rfl _ _ _).trans (Apart.setCell (K:=λj=>j=w.heap.size+1) rfl _ _ _)).trans (Apart.setCell (K:=λj=>j=w.heap.size+1) rfl _ _ _);clear r0 r1 t f0 f1 f2;generalize (((i.setCell (w.heap.size+1:Nat) (.pointer (some ⟨a,0,none⟩))).setCell ⟨w.heap.size+1,1,none⟩ (.pointer (some ⟨d,0,none⟩))).setCell ⟨w.heap.size+1,2,none⟩ l)=m at *;have r0:cl m (w.heap.size+1) (0) (.pointer (some ⟨a,0,none⟩)):=ad Hh 0;have r1:cl m (w.heap.size+1) (1) (.pointer (some ⟨d,0,none⟩)):=ad Hh 1;have t:cl m (w.heap.size+1) (2) l:=ad Hh 2;(try simp only[Exit.inBlock,Exit.then]);refine bodyPost_ret (v:=.tuple #[.agg #[.pointer (some ⟨a,0,none⟩),.pointer (some ⟨d,0,none⟩),l],true]) (by rw[lY rfl];go_simp) rfl ?_;refine⟨λh=>absurd u.o h,λ_=>⟨l,a,d,s,A,rfl,HZ,(H.o.other Ho ?_).grow (Q0 _ _) (λj k=>k.elim) λj k=>k.elim,by omega,by omega,by omega,by omega,(H.o.poolNew HP Ho (λe=>by omega) (λpb _ hl e=>by omega)).less (by omega)⟩,Hx⟩;intro j k Z z Q;rw[k,Ha.o] at Q;cases Q
 ·have he:=Hi hf;subst he;have u:=qI hf;have E:aD (cR c)=.iface 108 (cR c:Int):=by grind[aD]
  rw[E];clear Hi Hb hf E;obtain⟨ff,Hs⟩:∃f,f=cR c:=⟨_,rfl⟩;rw[<- Hs] at u ⊢;have HS:=qI Hs;clear Hs
  go_wp2
  have Hh:Hu ((((i.setCell (w.heap.size+1:Nat) (.pointer (some ⟨a,0,none⟩))).setCell ⟨w.heap.size+1,1,none⟩ (.pointer (some ⟨d,0,none⟩))).setCell ⟨w.heap.size+1,2,none⟩ (.pointer none)).heap[w.heap.size+1]?=some (.cells #[.pointer (some ⟨a,0,none⟩),.pointer (some ⟨d,0,none⟩),.pointer none] 36)):=bd (bd (bd Ha 0 _) 1 _) 2 _;have Hx:=qI (((D.o.setCell (p:=⟨w.heap.size+1,0,none⟩) (Nat.le_succ _) (.pointer (some ⟨a,0,none⟩))).setCell (p:=⟨w.heap.size+1,1,none⟩) (Nat.le_succ _) (.pointer (some ⟨d,0,none⟩))).setCell (p:=⟨w.heap.size+1,2,none⟩) (Nat.le_succ _) (.pointer none));have Ho:Hu (Apart (λj=>j=w.heap.size+1) i (((i.setCell (w.heap.size+1:Nat) (.pointer (some ⟨a,0,none⟩))).setCell ⟨w.heap.size+1,1,none⟩ (.pointer (some ⟨d,0,none⟩))).setCell ⟨w.heap.size+1,2,none⟩ (.pointer none))):=((Apart.setCell (K:=λj=>j=w.heap.size+1) rfl _ _ _).trans (Apart.setCell (K:=λj=>j=w.heap.size+1) rfl _ _ _)).trans (Apart.setCell (K:=λj=>j=w.heap.size+1) rfl _ _ _);clear r0 r1 t f0 f1 f2;generalize (((i.setCell (w.heap.size+1:Nat) (.pointer (some ⟨a,0,none⟩))).setCell ⟨w.heap.size+1,1,none⟩ (.pointer (some ⟨d,0,none⟩))).setCell ⟨w.heap.size+1,2,none⟩ (.pointer none))=m at *;have r0:cl m (w.heap.size+1) (0) (.pointer (some ⟨a,0,none⟩)):=ad Hh 0;have r1:cl m (w.heap.size+1) (1) (.pointer (some ⟨d,0,none⟩)):=ad Hh 1;have t:cl m (w.heap.size+1) (2) (.pointer none):=ad Hh 2;(try simp only[Exit.inBlock,Exit.then]);refine bodyPost_ret (v:=.tuple #[.agg #[.pointer (some ⟨a,0,none⟩),.pointer (some ⟨d,0,none⟩),.pointer none],false]) (by rw[lY rfl];go_simp) rfl ?_;exact⟨λ_=>⟨_,_,rfl⟩,λh=>absurd (HS.o.trans h) u,Hx⟩
theorem Zp{N:Nat->Prop}{b f g c:Nat}{t:aT}{j:Dk}{n:Nat}(p:aj){cv:Value}{w:World}(q:aE w N b f g c t j n)(o:j.l=-1)(m:ba (av (four N b f c) w) cv p.cs)(s:cJ w)(r:n+36<=1000)(d:∀l:List (ae × Value × Value),l.map Prod.fst=t.hs->v7 l (dT t.hs p.nm)) :
  Calls pg 19 #[.pointer (some ⟨b,0,none⟩),cQ p cv] w λe w'=>e=.returned (aD ((aV t p).1:Nat))/\(∃a i,((i<=n+eQ (aL t.hs) (aL (aV t p).2)/\gQ w w' b)/\a.l=-1)/\aE w' N b f g c ⟨t.m,t.ds,(aV t p).2⟩ a i)/\Apart (three b f c) w w':=by
 refine (Ik p q m s r d).mono ?_;rintro e w' ⟨h,y⟩
 rcases h with⟨k,a,i,⟨v,u⟩,x⟩|⟨k,_⟩
 ·grind
 ·exact absurd o k
theorem Zq{N:Nat->Prop}{b d f c:Nat}{t:aT}{i:Dk}{n:Nat}(nm:ByteArray){w:World}(l:aE w N b d f c t i n)(k:i.l=-1)(m:n+36<=1000)(o:∀W,Apart (three b d c) w W->cJ W) :
  Calls pg 23 #[.pointer (some ⟨b,0,none⟩),.string nm] w λe w'=>e=.returned (aD ((if dN t.hs nm then 0 else 6:Nat):Int))/\(∃a g,((g<=n/\gQ w w' b)/\a.l=-1)/\aE w' N b d f c ⟨t.m,t.ds,gk t.hs nm⟩ a g)/\Apart (three b d c) w w':=by
 refine (Io nm l m o).mono ?_;rintro e w' ⟨h,s⟩
 rcases h with⟨j,a,g,⟨q,p⟩,r⟩|⟨j,_⟩
 ·grind
 ·exact absurd k j
abbrev tZ:=(.cells #[.string ⟨#[120]⟩,(0:Int),(0:Int),(0:Int),(0:Int),.slice none 0 0] 65:Obj)
abbrev Aq:=(.cells #[(0:Int),(0:Int),(0:Int)] 74:Obj)
theorem Zr{w:World}(m:cJ w)(H:dH w):CB 6 #[] w true:=by
 have Hh:=qI ((Q0 w w).alloc (lR) (Aq));have M:=qI (aY w (Aq) rfl);have o:=qI m;have HM:=qI H;have H4:=m.2;clear m H
 go_enter func6,ntmps6
 go_wp2
 generalize w.alloc (Aq)=X at *;refine (IF gO (y:=.slice w 1 1) (v2:=.slice none 0 0) (g:=0) (o:=0) (w:=X) (YK M) ⟨none,0,rfl,λh=>by simp[gO] at h⟩ (by decide) (o.o.below Hh) (HM.o.below Hh)).mono ?_;rintro e b ⟨Ht,Hb,Hf⟩;clear Ht;obtain⟨a,c,d,f,dk1,rfl,H2,z,l1,l2,l3,l4⟩:=Hb UL;have P:=Hh.o.size;have x:=qI (Hh.o.trans (Hf.mono P));have Hn:=qI z;have g:∀j,three a c f j->w.heap.size<=j:=λj hj=>by
  omega
 have B:=qI g;have I:Hu (¬ three a c f 1):=λe=>by have:=g _ e;omega
 clear Hb Hf z g;have E:=qI (x.o.alloc x.o.size (m7 c d a));have F:=qI ((Q0 b b).alloc (lR) (m7 c d a));have C:=qI (aY b (m7 c d a) rfl);have HN:Hu ((b.alloc (m7 c d a)).heap.size=b.heap.size+1):=by unfold Hu;simp
 have k:=cb C 2
 go_upto_region 4 with fail
 generalize b.alloc (m7 c d a)=Y at *;have Hi:=qI (E.o.alloc E.o.size (tZ));have U:=qI (F.o.alloc F.o.size (tZ));have HO:=qI (aY Y (tZ) rfl);have Hz:=qI (bQ C (tZ))
 go_wp2
 clear k;generalize Y.alloc (tZ)=Z at *;have O:a<b:=by
  obtain⟨_,_,_,_,_,_,_,_,_,_,_,_,_,_,_,_,_,S,_⟩:=Hn.o;exact S.lt
 obtain⟨L,J,V⟩:=Hn.o.eng.lt;have HU:=HN.o;have Hm:=qI (Zp (N:=oI) (b:=a) (f:=c) (g:=d) (c:=f) (t:=⟨cT gO,gO.ds,[]⟩) (j:=dk1) (n:=0) kk (cv:=.slice Y 1 1) (w:=Z) (Hn.o.keep U) H2 (Iq (by rw[cH (by grind)];exact HO.o)) (o.o.below Hi) (by omega) (λl hl=>by
  have:l=[]:=by simpa using hl
  subst this;exact Ho (l:=[]) (by simp)))
 unfold cQ at Hm;clear HU;refine Hm.o.mono ?_;clear Hm;rintro e N ⟨rfl,⟨n,y,⟨r,Hq⟩,Hp⟩,Hj⟩;have Ha:(aV ⟨cT gO,gO.ds,[]⟩ kk).1=0:=UM;have Hl:=qI (YJ Ha);have Hs:Hu ((aV ⟨cT gO,gO.ds,[]⟩ kk).2.length=1):=BT Ha;have Hg:Hu (gk (aV ⟨cT gO,gO.ds,[]⟩ kk).2 kk.nm=[]):=FJ Ha;have HX:y<=36:=by
  have h1:=vM (aL []) (aL (aV ⟨cT gO,gO.ds,[]⟩ kk).2);have Q:=vL Hp.inv.held;dsimp only at r Q;omega
 rw[Ha];generalize (aV ⟨cT gO,gO.ds,[]⟩ kk).2=HP at *;have Hv:=qI Hp;have D:=qI (oH Hi Hi.o.size Hj B);have Hk:Hu (∀W,Apart (three a c f) Z W->cJ W):=λW i=>Ys (o.o.below Hi) i I
 have Hw:=qI Hj;have Hy:Hu (¬ three a c f b):=λe=>by omega
 have R:=(gS Hz).1;have A:=qI ((Hj.block b R Hy).trans Hz);have k:=cb A 2;rw[show aD (((0:Nat)):Int)=.nilIface from rfl];clear Ha r Hp Hj
 go_wp2
 refine (rE Hv).mono ?_;rintro e s ⟨a5,c5,rfl,_,He⟩;dsimp only;rw[Hs.o];have Hx:=D.t He;have HZ:=qI (Hw.o.trans (Apart.of_below He));have HV:=qI (Hv.o.keep He);have H5:=He.size;have HP:=Hw.o.size;have t:=qI ((He.block b (by omega)).trans A);have p:=cb t 2;clear He k;have Hc:=qI (Zq (N:=oI) (b:=a) (d:=c) (f:=d) (c:=f) (i:=n) (n:=y) kk.nm (w:=s) HV Hq (by omega) λW i=>Hk.o W (HZ.o.trans i));dsimp only at Hc;rw[Hl.o,Hg.o] at Hc;unfold kk at Hc;dsimp only at Hc
 go_wp2
 refine Hc.o.mono ?_;rintro e W6 ⟨rfl,⟨H6,n6,⟨HQ,_⟩,v⟩,Hr⟩;rw[show aD (((if True then 0 else 6:Nat)):Int)=.nilIface from rfl];have HS:=qI v;have G:=qI (oH Hx Hx.o.size Hr B);have K:=qI ((Hr.block b (by omega) Hy).trans t);have q:=cb K 2;clear HQ v Hr p Hc
 go_wp2
 refine (rE HS).mono ?_;rintro e W7 ⟨a7,c7,rfl,_,u⟩;dsimp only;have T:=G.t u;clear u
 go_wp2
 go_ret;exact⟨rfl,T⟩
theorem IG{ds:List aq}{k:Int}{on:Bool}:gp ds (l8 ds k on).2:=by
 unfold l8
 split
 ·simp_all[i7,Gg]
 ·exact rh ds
theorem kt.stepped{t':aT}(h:kt t x f t'):Stepped t x f t':=by
 rcases h with⟨b,rfl,rfl⟩|⟨b,Hb,rfl,rfl⟩|⟨b,Hb,h⟩|⟨b,Hb,He,Hf,rfl,c,g,Hg,hle,rfl⟩
 ·have a:ks x=true:=b;exact⟨rfl,rh _,λ_=>⟨rfl,rfl,rfl⟩,λh=>absurd (h.symm.trans a) (by decide),λh=>absurd (h.symm.trans (YS a)) (by decide),λh=>absurd (h.symm.trans a) (by decide),λ_=>rfl⟩
 ·have a:ks x=false:=b;have Ha:m6 x=true:=Hb;exact⟨rfl,rh _,λh=>absurd (h.symm.trans a) (by decide),λ_=>zy _ _,λ_=>rfl,λ_ h=>absurd (h.symm.trans Ha) (by decide),λ_=>rfl⟩
 ·have a:ks x=false:=b;have Ha:m6 x=false:=Hb
  rcases h with⟨He,rfl,rfl⟩|⟨He,Hf,rfl,rfl⟩
  ·have Hc:l7 x=true:=by grind[l7]
   exact⟨rfl,IG,λh=>absurd (h.symm.trans a) (by decide),λ_=>List.Sublist.refl _,λh=>absurd (h.symm.trans Ha) (by decide),λ_ _ h=>absurd (h.symm.trans Hc) (by decide),λh=>absurd (h.symm.trans Hc) (by decide)⟩
  ·have Hc:l7 x=true:=by simp_all[l7]
   exact⟨rfl,IG,λh=>absurd (h.symm.trans a) (by decide),λ_=>List.Sublist.refl _,λh=>absurd (h.symm.trans Ha) (by decide),λ_ _ h=>absurd (h.symm.trans Hc) (by decide),λh=>absurd (h.symm.trans Hc) (by decide)⟩
 ·have a:ks x=false:=b;have Ha:m6 x=false:=Hb;exact⟨rfl,rh _,λh=>absurd (h.symm.trans a) (by decide),λ_=>ry _ _,λh=>absurd (h.symm.trans Ha) (by decide),λ_ _ _=>⟨c,g,Hg,hle,rfl⟩,λ_=>rfl⟩
theorem l9{b:Bool}{P:Prop}(a:b=true)(c:b=false):P:=absurd (a.symm.trans c) (by decide)
theorem Zs{b:Nat}{c t2:aT}(hi:eG t)(g:kt t x f c)(h:kt t x b t2):f=b/\c=t2:=by
 rcases g with⟨a,b1,c1⟩|⟨a,b1,c1,d⟩|⟨a,b1,c1⟩|⟨a,b1,c1,d,o,j,g1,s1,l,z1⟩ <;> rcases h with⟨a2,b2,c2⟩|⟨a2,b2,c2,n⟩|⟨a2,b2,c2⟩|⟨a2,b2,c2,n,e,m,p,s2,k,z2⟩
 ·grind
 ·exact l9 a a2
 ·exact l9 a a2
 ·exact l9 a a2
 ·exact l9 a2 a
 ·grind
 ·exact l9 b1 b2
 ·exact l9 b1 b2
 ·exact l9 a2 a
 ·exact l9 b2 b1
 ·grind
 ·grind
 ·exact l9 a2 a
 ·exact l9 b2 b1
 ·grind
 ·have i:j=m:=KB (YY hi.held) s1.1 s2.1 s1.2 s2.2;subst i;exact⟨o.trans e.symm,by rw[z1,z2,l.unique k]⟩
theorem Zt(c:1<=m.nd/\m.nd<=15)(b:0<=m.pol/\m.pol<=3):lT m=true:=by
 obtain⟨l,op,ar,nb,pol⟩:=m;dsimp only at c b;have h:lT ⟨[],0,ar,0,pol⟩=true:=by
  have a:pol=0\/pol=1\/pol=2\/pol=3:=by omega
  have d:ar=1\/ar=2\/ar=3\/ar=4\/ar=5\/ar=6\/ar=7\/ar=8\/ar=9\/ar=10\/ar=11\/ar=12\/ar=13\/ar=14\/ar=15:=by omega
  rcases a with rfl|rfl|rfl|rfl <;> rcases d with rfl|rfl|rfl|rfl|rfl|rfl|rfl|rfl|rfl|rfl|rfl|rfl|rfl|rfl|rfl <;> decide
 exact h
def zP:aj:=⟨⟨#[122,122,122]⟩,0,[⟨⟨#[120]⟩,0,0,0,0,[]⟩]⟩
theorem Zu{a:List aj}(h:cr m a=true):cr m (a++[zP])=true:=by
 have c:bE (a++[zP])=bE a:=by rw[FH];exact Int.add_zero _
 have b:ci (a++[zP])=ci a:=by
  unfold ci;rw[Qj,List.sum_append];exact Int.add_zero _
 unfold cr at h ⊢;rw[c,b];exact h
theorem Zv:tu zP:=λc a=>by
 rw[Qm.1 a]
 decide
theorem Zw(h:eG t)(c:t.m.l.length<=64)(a:t.m.op &&& aB (λ_=>true) t.m.l=t.m.op)(hi:lT t.m=true)(d:cr t.m (t.hs.map ae.pod)=true):(aV t zP).1=0\/(aV t zP).1=5\/(aV t zP).1=2:=by
 obtain⟨s,hs⟩:=h.left;have b:=Va c a hs (p:=zP) (by decide) Zv;rw[if_pos hi] at b;unfold aV;rw[if_neg (by decide),hs,Option.getD_some,b,Zu d]
 split
 ·exact .inr (.inl rfl)
 split
 ·exact .inr (.inr rfl)
 rw[if_neg (by decide),if_neg (by decide)]
 split
 ·exact .inr (.inr rfl)
 ·exact .inl rfl
def dK (W:World) (Ba Bd Bm j:Nat):Prop:=three Ba Bd Bm j\/eT W Ba j
section
variable{N:Nat->Prop}{Ba Bd Be Bm:Nat}{t:aT}{dk:Dk}{n:Nat}{w W W':World}
theorem aE.lts(h:aE w N Ba Bd Be Bm t dk n):(Ba<w/\Bd<w/\Bm<w)/\Be<w:=by
 obtain⟨b,a,c⟩:=h.eng.lt;exact⟨⟨h.poolAt.1,a,c⟩,b⟩
theorem aE.head(h:aE w N Ba Bd Be Bm t dk n):(∃p,w.cell? Ba=some (.pointer p))/\(∃b,w.cell? Bd=some (.bool b))/\∀v,w.cell? Bm≠some v:=by
 have ah:=h.eng.disk;unfold aQ at ah;obtain⟨j,d,_⟩:=h.eng.map;refine⟨?_,⟨_,ad ah 0⟩,λv e=>?_⟩
 ·obtain⟨_,_,_,_,_,_,_,_,_,_,_,_,_,_,_,_,_,c,_⟩:=h;exact⟨_,ad c 0⟩
 ·obtain⟨_,i,⟨g,a,f,_⟩,_⟩:=d
  simp[World.cell?,f] at e
theorem aE.noNum(h:aE w N Ba Bd Be Bm t dk n):∀j,dK w Ba Bd Bm j->∀v,w.cell? ⟨j,0,none⟩≠some (.int .i64 v):=by
 obtain⟨⟨p,d⟩,⟨b,f⟩,c⟩:=h.head;rintro j ((e|e|e)|e) v a
 ·grind
 ·grind
 ·grind
 ·obtain⟨_,⟨s,hs⟩,_⟩:=h.blk e;rw[hs] at a;cases a
theorem aE.notMine(h:aE w N Ba Bd Be Bm t dk n){j:Nat}{v:Value}(a:w.cell? j=some v)(f:∀p,v≠.pointer p)(i:∀b,v≠.bool b)(c:∀s,v≠.string s):¬ dK w Ba Bd Bm j:=by
 obtain⟨⟨p,g⟩,⟨b,k⟩,d⟩:=h.head;rintro ((e|e|e)|e)
 ·grind
 ·grind
 ·grind
 ·obtain⟨_,⟨s,hs⟩,_⟩:=h.blk e;rw[hs] at a;exact c s (Ql a).symm
theorem aE.mineLt(h:aE w N Ba Bd Be Bm t dk n):∀j,dK w Ba Bd Bm j->j<w.heap.size:=by
 obtain⟨⟨b,a,c⟩,_⟩:=h.lts;rintro j ((e|e|e)|e)
 ·omega
 ·omega
 ·omega
 ·exact (h.blk e).1
theorem aE.beside{q K:Nat->Prop}(h:aE W N Ba Bd Be Bm t dk n)(o:Apart K W W')(L:∀j,K j->N j)(hi:∀j,K j->∀v,W.cell? ⟨j,0,none⟩≠some (.int .i64 v))(Y:∀j,q j->N j\/W.heap.size<=j)(U:∀j,q j->j<W'.heap.size):aE W' q Ba Bd Be Bm t dk n:=by
 obtain⟨R,Z,Hc,u,Q,i,h6,P,B,b,c,M,r,db,X,T,s,w,I,d,G,m,C,z⟩:=h;obtain⟨x,D,E⟩:=u.lt;have A:=w.lt;have y:=m.pool.lt;have Ha:∀j,j<W.heap.size->¬ N j->W'.heap[j]?=W.heap[j]?:=λj l f=>o.block j l λe=>f (L j e)
 have hf:∀j,j<W.heap.size->¬ N j->¬ q j:=λj l f k=>(Y j k).elim f (by omega)
 have Hb:∀j,j<W.heap.size->¬ four N Ba Bd Bm j->¬ four q Ba Bd Bm j:=λj l f k=>k.elim (λe=>hf j l (λe=>f (.inl e)) e) λe=>f (.inr e)
 have hle:=bF (λj l f=>⟨Hb j l f,Ha j l λe=>f (.inl e)⟩) o.size;have S:¬ N r:=λe=>C (.inl e)
 refine⟨R,Z,Hc,?_,Q,⟨hf _ A i.1,hf _ D i.2.1,hf _ E i.2.2.1,hf _ x i.2.2.2⟩,U,P,B,b,c,M,r,db,X,T,s,(Ha Ba A i.1).trans w,I.le hle,?_,G,?_,Hb _ y C,λp=>Hb _ ((m.pool.at0 p).2.2) (z p)⟩
 ·obtain⟨g1,V,H,g3,g4,F⟩:=u;obtain⟨J,O⟩:=Ir g4 o.size λg ⟨v,hg⟩=>o.block g (Q3 W _ hg) λe=>hi g e v hg;exact⟨g1.block (Ha Be x i.2.2.2),(Ha Bd D i.2.1).trans V,H,g3.block (Ha Bm E i.2.2.1),J,λa=>by rw[O];exact F a⟩
 ·have nt:¬ four N Ba Bd Bm B:=eB d.topo.cell;have nb:=eB (d.topo.cells 0 Hc).1;have Hf:=d.topo.tlt;have He:=d.topo.lt;rw[cC] at Hf He;refine⟨lh d.topo ?_ ?_ ?_,d.good,d.op,d.nd,d.pol⟩
  ·grind[cH]
  ·grind[cH]
  ·rw[cC,cC];exact o.size
 ·exact⟨pZ m.pool (Ha r y S) (λp=>Ha db (m.pool.at0 p).2.2 λe=>z p (.inl e)) o.size,m.nodes,m.cp⟩
theorem aE.mineStay{K:Nat->Prop}(h:aE W N Ba Bd Be Bm t dk n)(k:Apart K W W')(i:∀j,K j->N j):∀j,dK W' Ba Bd Bm j->dK W Ba Bd Bm j:=by
 rintro j (e|⟨d,q,c,l,p,m⟩)
 ·exact .inl e
 obtain⟨D,I,Ha,u,A,r,J,z,E,b,G,y,a,db,H,F,s,f,x,B,w,g,o,C⟩:=h;rw[gR (k.block Ba f.lt λe=>r.1 (i _ e))] at l;have v:=cb f 9;have e:a=d:=by have:=Eq.trans (Eq.symm v) l;cases this;rfl
 rw[e] at g o;rw[gR (k.block d g.pool.lt λe=>o (.inl (i _ e)))] at m;exact .inr ⟨d,q,c,l,p,m⟩
end
section
variable{N:Nat->Prop}{Ba Bd Be Bm Oa Od Oe Om:Nat}{t u v:aT}{dk dj di:Dk}{n m l:Nat}{w W W':World}
theorem aE.pair(h:aE W (dK W Oa Od Om) Ba Bd Be Bm t dk n)(g:aE W N Oa Od Oe Om u dj m)(b:aE W' (dK W Ba Bd Bm) Oa Od Oe Om v di l)(c:Apart (dK W Oa Od Om) W W')(f:∀j,eT W' Oa j->eT W Oa j\/W.heap.size<=j):aE W' (dK W' Oa Od Om) Ba Bd Be Bm t dk n/\aE W' (dK W' Ba Bd Bm) Oa Od Oe Om v di l:=by
 have d:=h.beside c (λ_ e=>e) g.noNum (λj a=>a.elim (λe=>.inl (.inl e)) λe=>(f j e).imp .inr id) b.mineLt;exact⟨d,b.beside (Apart.refl (λ_=>False) W') (λ_ e=>e.elim) (λ_ e=>e.elim) (λj a=>.inl (h.mineStay c (λ_ e=>e) j a)) d.mineLt⟩
def both (W:World) (Ba Bd Bm Oa Od Om j:Nat):Prop:=dK W Ba Bd Bm j\/dK W Oa Od Om j
theorem aE.wide{base:Nat}(h:aE W oI Oa Od Oe Om t dk n)(D:t.hs=[])(o:aE W N Ba Bd Be Bm u dj m)(f:∀j,dK W Ba Bd Bm j->j<base)(g:fR base W Oa)(i:base<=Oa/\base<=Od/\base<=Om/\base<=Oe):aE W (dK W Ba Bd Bm) Oa Od Oe Om t dk n:=by
 have Hb:=o.mineLt;obtain⟨G,K,Ha,v,C,O,P,B,H,b,c,z,l,db,J,r,s,p,q,d,x,k,I,F⟩:=h;have M:=eB d.topo.cell;have nb:=eB (d.topo.cells 0 Ha).1;have c1:=(df).cell _ _ _ d.topo.cell;have c2:=(df).cell _ _ _ (d.topo.cells 0 Ha).1;rw[Qd,Nat.zero_mul] at c2;have t3:=o.notMine c1 (λ_ e=>by cases e) (λ_ e=>by cases e) (λ_ e=>by cases e);have L:=o.notMine c2 (λ_ e=>by cases e) (λ_ e=>by cases e) (λ_ e=>by cases e);have up:∀j,¬ dK W Ba Bd Bm j->¬ four oI Oa Od Om j->¬ four (dK W Ba Bd Bm) Oa Od Om j:=λj a b e=>e.elim a λe=>b (.inr e)
 have hi:∀j,base<=j->¬ dK W Ba Bd Bm j:=λj Q e=>by have:=f j e;omega
 have w:=cb p 9;obtain⟨y,A⟩:=g l w;refine⟨G,K,Ha,v,C,⟨hi _ i.1,hi _ i.2.1,hi _ i.2.2.1,hi _ i.2.2.2⟩,Hb,B,H,b,c,z,l,db,J,r,s,p,?_,⟨lh d.topo ?_ ?_ ?_,d.good,d.op,d.nd,d.pol⟩,x,k,up _ (hi _ y) I,λg=>up _ (hi _ (A db _ r g (by rw[k.pool.row,(k.pool.at0 g).1]))) (F g)⟩
 ·rw[D] at q ⊢;obtain⟨a2,c2,E,m2,_⟩:=q;exact⟨a2,c2,E,m2,λh=>absurd h (by simp)⟩
 ·grind[cH]
 ·grind[cH]
 ·simp[cC]
end
structure Fits (c:dp) (hs:List ae):Prop where
 held:bS hs=0
 left:∃s,bi (cT c) c.ds hs=some s
 room:cr (cT c) (hs.map ae.pod)=true
 txt:(bw hs).length<=6000
theorem Zx(h:gp a b):gp b a:=⟨h.1.symm,λj=>⟨(h.2 j).1.symm,(h.2 j).2.symm⟩⟩
theorem Zy{c:List aq}(h:gp a b)(k:gp b c):gp a c:=⟨k.1.trans h.1,λj=>⟨(k.2 j).1.trans (h.2 j).1,(k.2 j).2.trans (h.2 j).2⟩⟩
structure ku (c:dp) (t:aT):Prop where
 m:t.m=cT c
 ds:gp c.ds t.ds
 room:cr t.m (t.hs.map ae.pod)=true
section
variable{N:Nat->Prop}{Ba Bd Be Bm:Nat}{t t':aT}{dk:Dk}{n f:Nat}{w W W':World}{c:dp}{x:Ac}
theorem ku.step(h:ku c t)(hi:eG t)(hs:kt t x f t'):ku c t':=by
 have a:=hs.stepped;exact⟨a.m.trans h.m,Zy h.ds a.ds,YU hi h.room a⟩
theorem ku.fits(h:ku c t)(a:aE W N Ba Bd Be Bm t dk n):Fits c t.hs:=by
 obtain⟨s,hs⟩:=a.inv.left;have b:=h.room;rw[h.m] at hs b;exact⟨a.inv.held,⟨_,zG (Zx h.ds) hs⟩,b,a.txt.1⟩
def Zz (c:dp) (dk:Dk) (hs hs':List ae):Prop:=∀keep torn,∃ls,(ls=hs\/ls=hs')/\Kept (dk.restart keep torn) ls/\Fits c ls
theorem ZA{e:Dk}{hs:List ae}(i:fh e)(j:Kept e hs)(keep c:Int):Kept (e.restart keep c) hs:=by
 obtain⟨a,b,wt,l,d⟩:=e;obtain⟨rfl,_,rfl⟩:=i;obtain⟨g,h,f⟩:=j;dsimp only at g h f;subst h;exact⟨g,rfl,f⟩
end
def far (W:World) (Bk Bl Ba Bd Bm Oa Od Om j:Nat):Prop:=(j=Bk\/j=Bl)\/dK W Ba Bd Bm j\/dK W Oa Od Om j
theorem IH(W:World)(d g i f a e c b:Nat):far W g d e c b i f a=far W d g i f a e c b:=funext λ_=>propext ⟨λh=>h.imp Or.symm Or.symm,λh=>h.imp Or.symm Or.symm⟩
structure CrE (w W:World) (oc:Obj) (Bc Bk Bl Ba Bd Be Bm Oa Od Oe Om:Nat) (t u:aT) (dk dj:Dk) (n m:Nat) (va vb:Value) (hs hs':List ae):Prop where
 below:Below w w W
 bk:W.heap[Bk]?=some (qd Bd Be Ba)
 bl:W.heap[Bl]?=some (qd Od Oe Oa)
 bc:W.heap[Bc]?=some oc
 a:aE W (dK W Oa Od Om) Ba Bd Be Bm t dk n
 o:aE W (dK W Ba Bd Bm) Oa Od Oe Om u dj m
 high:∀j,dK W Ba Bd Bm j\/dK W Oa Od Om j->w.heap.size<=j/\j≠Bk/\j≠Bl/\j≠Bc
 was:bf (av (far W Bk Bl Ba Bd Bm Oa Od Om) W) va hs
 next:bf (av (far W Bk Bl Ba Bd Bm Oa Od Om) W) vb hs'
section
variable{w W W':World}{oc:Obj}{Bc Bk Bl Ba Bd Be Bm Oa Od Oe Om:Nat}{t u v:aT}{dk dj di:Dk}{n m l:Nat}{va vb vc:Value}{hs hs':List ae}
theorem CrE.turn(h:CrE w W oc Bc Bk Bl Ba Bd Be Bm Oa Od Oe Om t u dk dj n m va vb hs hs'):CrE w W oc Bc Bl Bk Oa Od Oe Om Ba Bd Be Bm u t dj dk m n va vb hs hs':=
 ⟨h.below,h.bl,h.bk,h.bc,h.o,h.a,λj d=>by obtain⟨c,e,a,b⟩:=h.high j d.symm;exact⟨c,a,e,b⟩,by rw[IH];exact h.was,by rw[IH];exact h.next⟩
theorem CrE.act(h:CrE w W oc Bc Bk Bl Ba Bd Be Bm Oa Od Oe Om t u dk dj n m va vb hs hs')(g:aE W' (dK W Ba Bd Bm) Oa Od Oe Om v di l)(a:Apart (dK W Oa Od Om) W W')(c:∀j,eT W' Oa j->eT W Oa j\/W.heap.size<=j):CrE w W' oc Bc Bk Bl Ba Bd Be Bm Oa Od Oe Om t v dk di n l va vb hs hs':=by
 obtain⟨o,p⟩:=h.a.pair h.o g a c;have i:=(gS h.bk).1;have f:=(gS h.bl).1;have k:=(gS h.bc).1;have Ha:=h.a.mineStay a λ_ e=>e;have hle:aR (av (far W Bk Bl Ba Bd Bm Oa Od Om) W) (av (far W' Bk Bl Ba Bd Bm Oa Od Om) W'):=bF (λj b d=>⟨λe=>d (e.imp id λe=>e.imp (Ha j) λe=>e.elim .inl λe=>.inr ((c j e).elim id (by omega))),a.block j b λe=>d (.inr (.inr e))⟩) a.size;exact⟨oH h.below h.below.size a λj b=>(h.high j (.inr b)).1,(a.block Bk i λe=>(h.high _ (.inr e)).2.1 rfl).trans h.bk,(a.block Bl f λe=>(h.high _ (.inr e)).2.2.1 rfl).trans h.bl,(a.block Bc k λe=>(h.high _ (.inr e)).2.2.2 rfl).trans h.bc,o,p,λj b=>by
  have q:=h.below.size
  rcases b with e|e|e
  ·exact h.high j (.inl (Ha j e))
  ·exact h.high j (.inr (.inl e))
  ·rcases c j e with e|e
   ·exact h.high j (.inr (.inr e))
   ·omega,h.was.le hle,h.next.le hle⟩
theorem CrE.keep(h:CrE w W oc Bc Bk Bl Ba Bd Be Bm Oa Od Oe Om t u dk dj n m va vb hs hs')(a:Bw W W'):CrE w W' oc Bc Bk Bl Ba Bd Be Bm Oa Od Oe Om t u dk dj n m va vb hs hs':=
 h.act (h.o.keep a) (Apart.of_below a) (λj e=>.inl ((h.o.mineStay (K:=λ_=>False) (Apart.of_below a) (λ_ e=>e.elim) j (.inr e)).elim (λc=>by
  obtain⟨⟨p,f⟩,⟨b,g⟩,d⟩:=(h.o.keep a).head;obtain⟨_,⟨s,hs⟩,_⟩:=(h.o.keep a).blk e
  rcases c with c|c|c
  ·omega
  ·omega
  ·omega) id))
theorem CrE.told(h:CrE w W oc Bc Bk Bl Ba Bd Be Bm Oa Od Oe Om t u dk dj n m va vb hs hs')(a:Bw W W'){b:List ae}(d:bf (fresh W W') vc b):bf (av (far W' Bk Bl Ba Bd Bm Oa Od Om) W') vc b:=by
 refine d.le (Rd λj c=>?_);have i:=h.keep a;have g:=(gS h.bk).1;have f:=(gS h.bl).1
 rcases c with (e|e)|e|e
 ·omega
 ·omega
 ·exact h.a.mineLt j (h.a.mineStay (K:=λ_=>False) (Apart.of_below a) (λ_ e=>e.elim) j e)
 ·exact h.o.mineLt j (h.o.mineStay (K:=λ_=>False) (Apart.of_below a) (λ_ e=>e.elim) j e)
theorem CrE.put(h:CrE w W oc Bc Bk Bl Ba Bd Be Bm Oa Od Oe Om t u dk dj n m va vb hs hs'){a:List ae}(b:bf (av (far W Bk Bl Ba Bd Bm Oa Od Om) W) vc a):CrE w W oc Bc Bk Bl Ba Bd Be Bm Oa Od Oe Om t u dk dj n m vc vb a hs':=⟨h.below,h.bk,h.bl,h.bc,h.a,h.o,h.high,b,h.next⟩
theorem CrE.put2(h:CrE w W oc Bc Bk Bl Ba Bd Be Bm Oa Od Oe Om t u dk dj n m va vb hs hs'){a:List ae}(b:bf (av (far W Bk Bl Ba Bd Bm Oa Od Om) W) vc a):CrE w W oc Bc Bk Bl Ba Bd Be Bm Oa Od Oe Om t u dk dj n m va vc hs a:=⟨h.below,h.bk,h.bl,h.bc,h.a,h.o,h.high,h.was,b⟩
end
structure Geo (w:World) (Bc Bk Bd Be Bm:Nat):Prop where
 d:w<=Bd
 m:w<=Bm
 k:w<=Bk
 kd:Bk≠Bd
 km:Bk≠Bm
 ke:Bk≠Be
 kc:Bk≠Bc
 cd:Bc≠Bd
 cm:Bc≠Bm
structure CrL (w W:World) (oc:Obj) (Bc Bk Ba Bd Be Bm:Nat) (va vb:Value) (hs hs':List ae):Prop where
 below:Below w w W
 bk:W.heap[Bk]?=some (qd Bd Be Ba)
 bc:W.heap[Bc]?=some oc
 was:bf (av (three Bk Bd Bm) W) va hs
 next:bf (av (three Bk Bd Bm) W) vb hs'
structure CrP (w W:World) (oc:Obj) (Bc Bk Ba Bd Be Bm:Nat) (c:dp) (dk:Dk) (n:Nat) (rs:List Rn) (va vb:Value) (hs hs':List ae):Prop where
 l:CrL w W oc Bc Bk Ba Bd Be Bm va vb hs hs'
 disk:bu W Bd dk
 eng:pQ W Be Bd Bm n rs
 left:Zz c dk hs hs'
structure CrQ (w W:World) (oc:Obj) (Bc Bk Ba Bd Be Bm:Nat) (c:dp) (dk:Dk) (n:Nat) (rs:List Rn) (ls:List ae) (va vb:Value) (hs hs':List ae):Prop where
 l:CrL w W oc Bc Bk Ba Bd Be Bm va vb hs hs'
 disk:bu W Bd dk
 soft:fh dk
 kept:Kept dk ls
 eng:bz W Be Bd Bm n dk.n dk.k dk.l false (λa=>a∈rs)
 fits:Fits c ls
 one:ls=hs\/ls=hs'
section
variable{w W U:World}{oc:Obj}{Bc Bk Bl Ba Bd Be Bm Oa Od Oe Om Ca:Nat}{t u v:aT}{dk dj dk':Dk}{n n' m:Nat}{va vb:Value}{hs hs' ls:List ae}{c:dp}{rs:List Rn}{e:Ending}{x:Ac}
theorem CrL.on(h:CrL w W oc Bc Bk Ba Bd Be Bm va vb hs hs')(g:Geo w Bc Bk Bd Be Bm)(a:Apart (gq Bd Bm) W U):CrL w U oc Bc Bk Ba Bd Be Bm va vb hs hs':=by
 have hle:aR (av (three Bk Bd Bm) W) (av (three Bk Bd Bm) U):=bF (λj b c=>⟨c,a.block j b λe=>c (.inr e)⟩) a.size;refine⟨oH h.below h.below.size a λj b=>?_,(a.block Bk (gS h.bk).1 ?_).trans h.bk,(a.block Bc (gS h.bc).1 ?_).trans h.bc,h.was.le hle,h.next.le hle⟩
 ·rcases b with e|e
  ·rw[e];exact g.d
  ·rw[e];exact g.m
 ·rintro (e|e)
  ·exact g.kd e
  ·exact g.km e
 ·rintro (e|e)
  ·exact g.cd e
  ·exact g.cm e
theorem Ar{W U:World}{a b:Nat}(c:W.grownBy U (some a)):Apart (gq a b) W U:=fv c (λj e _=>by grind)
theorem ZB{rs:List Rn}(h:pQ W Be Bd Bm n rs){s:Dk}(ah:bu W Bd s)(b:W.grownBy U (some Bd)):pQ U Be Bd Bm n rs:=by
 obtain⟨_,v,ah,_⟩:=ah;obtain⟨d,l,c,p,o⟩:=h;obtain⟨i,a2,a3⟩:=nJ d c ah;have g:dY W U:=⟨b.size,λk f z g=>b.block k (gS g).1 λe=>ah.notInt f z (by grind)⟩;obtain⟨j,m⟩:=lV p g;exact⟨d.block (b.block Be d.lt λe=>i (by injection e)),l,c.block (b.block Bm c.lt λe=>a3 (by grind)),j,λa=>by rw[m];exact o a⟩
theorem CrP.restart(h:CrP w W oc Bc Bk Ba Bd Be Bm c dk n rs va vb hs hs')(g:Geo w Bc Bk Bd Be Bm){keep a:Int}(ah:bu U Bd (dk.restart keep a))(d:W.grownBy U (some Bd)):∃b,CrQ w U oc Bc Bk Ba Bd Be Bm c (dk.restart keep a) n rs b va vb hs hs':=by
 obtain⟨b,f,i,e⟩:=h.left keep a;have hs:fh (dk.restart keep a):=⟨rfl,by show (-1:Int)<=-1/\(-1:Int)<=1000;decide,rfl⟩;exact⟨b,h.l.on g (Ar d),ah,hs,i,bz.of (ZB h.eng h.disk d) (p6 ah hs),e,f⟩
theorem CrQ.arm(h:CrQ w W oc Bc Bk Ba Bd Be Bm c dk n rs ls va vb hs hs')(g:Geo w Bc Bk Bd Be Bm){k:Int}(b:-1<=k/\k<=1000)(ah:bu U Bd { dk with l:=k })(a:W.grownBy U (some Bd)):CrQ w U oc Bc Bk Ba Bd Be Bm c { dk with l:=k } n rs ls va vb hs hs':=by
 have hs:fh { dk with l:=k }:=⟨h.soft.1,b,h.soft.2.2⟩;exact⟨h.l.on g (Ar a),ah,hs,h.kept,bz.of (An h.eng a) (p6 ah hs),h.fits,h.one⟩
theorem CrQ.fell(h:CrQ w W oc Bc Bk Ba Bd Be Bm c dk n rs ls va vb hs hs')(g:Geo w Bc Bk Bd Be Bm){C:Rn->Prop}(e:bz U Be Bd Bm n' dk.n dk.k 0 true C)(f:Apart (gq Bd Bm) W U):∃d a,CrP w U oc Bc Bk Ba Bd Be Bm c d n' a va vb hs hs':=by
 obtain⟨a,i⟩:=e.list;exact⟨⟨dk.n,dk.k,none,0,true⟩,a,h.l.on g f,⟨by simp,_,e.disk,rfl⟩,i,λkeep b=>⟨ls,h.one,Al h.kept.2.1 0 h.kept.1 h.kept.2.2 h.soft.1 keep b,h.fits⟩⟩
theorem CrE.near(h:CrE w W oc Bc Bk Bl Ba Bd Be Bm Oa Od Oe Om t u dk dj n m va vb hs hs'):CrL w W oc Bc Bk Ba Bd Be Bm va vb hs hs':=by
 have hle:aR (av (far W Bk Bl Ba Bd Bm Oa Od Om) W) (av (three Bk Bd Bm) W):=bF (λj b a=>⟨λe=>a (by
  rcases e with e|e|e
  ·exact .inl (.inl e)
  ·exact .inr (.inl (.inl (.inr (.inl e))))
  ·exact .inr (.inl (.inl (.inr (.inr e))))),rfl⟩) (lR)
 exact⟨h.below,h.bk,h.bc,h.was.le hle,h.next.le hle⟩
theorem CrE.stop(h:CrE w W oc Bc Bk Bl Ba Bd Be Bm Oa Od Oe Om t u dk dj n m va vb hs hs')(d:ku c t)(e:t.hs=hs\/t.hs=hs'):∃rs,CrP w W oc Bc Bk Ba Bd Be Bm c dk n rs va vb hs hs':=by
 obtain⟨rs,b⟩:=h.a.eng.list;exact⟨rs,h.near,tQ h.a.eng.disk h.a.calm,b,λkeep a=>⟨t.hs,e,ZA h.a.calm h.a.txt.2 keep a,d.fits h.a⟩⟩
theorem CrE.acted(h:CrE w W oc Bc Bk Bl Ba Bd Be Bm Oa Od Oe Om t u dk dj n m va vb t.hs u.hs)(E:ku c t)(l:ku c u){f:Nat}(hs:kt t x f u)(D:dz W (dK W Oa Od Om) Ba Bd Be Bm t dk n x e U):∃g:Nat,e=.returned (aD g)/\CrL w U oc Bc Bk Ba Bd Be Bm va vb t.hs u.hs/\(g=11->∃a b rs,b<=n+36/\CrP w U oc Bc Bk Ba Bd Be Bm c a b rs va vb t.hs u.hs)/\(g≠11->g=f/\∃a b,b<=n+3/\CrE w U oc Bc Bk Bl Ba Bd Be Bm Oa Od Oe Om u u a dj b m va vb t.hs u.hs):=by
 obtain⟨g,t',Ha,s,d⟩:=D;obtain⟨rfl,rfl⟩:=Zs h.a.inv Ha hs
 rcases s with⟨rfl,⟨a,b,i,_,C⟩,A⟩|⟨_,rfl,a,b,rs,i,ah,B,v⟩
 ·have p:=(h.turn.act C d A).turn;exact⟨g,rfl,p.near,λ_=>by
   obtain⟨rs,F⟩:=p.stop l (.inr rfl);exact⟨a,b,rs,by omega,F⟩,λ_=>⟨rfl,a,b,i,p⟩⟩
 ·have z:=(gS h.bk).1;have y:=(gS h.bc).1;have hle:aR (av (far W Bk Bl Ba Bd Bm Oa Od Om) W) (av (three Bk Bd Bm) U):=bF (λj q i=>⟨λe=>i (by
   rcases e with e|e|e
   ·exact .inl (.inl e)
   ·exact .inr (.inl (.inl (.inr (.inl e))))
   ·exact .inr (.inl (.inl (.inr (.inr e))))),d.block j q λe=>i (.inr (.inl e))⟩) d.size
  have r:CrL w U oc Bc Bk Ba Bd Be Bm va vb t.hs t'.hs:=⟨oH h.below h.below.size d λj q=>(h.high j (.inl q)).1,(d.block Bk z λe=>(h.high _ (.inl e)).2.1 rfl).trans h.bk,(d.block Bc y λe=>(h.high _ (.inl e)).2.2.2 rfl).trans h.bc,h.was.le hle,h.next.le hle⟩;exact⟨11,rfl,r,λ_=>⟨a,b,rs,i,r,ah,B,λkeep o=>(v keep o).elim (λk=>⟨_,.inl rfl,k,E.fits h.a⟩) λk=>⟨_,.inr rfl,k,l.fits h.o⟩⟩,λe=>absurd rfl e⟩
end
section
variable{w W W' U:World}{oc:Obj}{Bc Bk Bl Ba Bd Be Bm Oa Od Oe Om Ca:Nat}{t u v:aT}{dk dj di:Dk}{n m l f:Nat}{va vb vc:Value}{hs hs' ls:List ae}{c:dp}{x:Ac}{e:Ending}{N:Nat->Prop}
theorem CrE.asked(h:CrE w W oc Bc Bk Bl Ba Bd Be Bm Oa Od Oe Om t u dk dj n m va vb hs hs')(d:ku c u)(b:dj.l=-1)(k:dz W (dK W Ba Bd Bm) Oa Od Oe Om u dj m x e U):∃(f:Nat) (v:aT) (a:Dk) (l:Nat),e=.returned (aD f)/\kt u x f v/\ku c v/\a.l=-1/\l<=m+3/\CrE w U oc Bc Bk Bl Ba Bd Be Bm Oa Od Oe Om t v dk a n l va vb hs hs':=by
 obtain⟨f,v,hs,g,i⟩:=k
 rcases g with⟨rfl,⟨a,l,p,ah,o⟩,j⟩|⟨Ha,_⟩
 ·exact⟨f,v,a,l,rfl,hs,d.step h.o.inv hs,ah b,p,h.act o i j⟩
 ·exact absurd b Ha
theorem CrE.env(h:CrE w W oc Bc Bk Bl Ba Bd Be Bm Oa Od Oe Om t u dk dj n m va vb hs hs')(c:cJ w):aR w (av (four (dK W Oa Od Om) Ba Bd Bm) W)/\∀V,Apart (three Ba Bd Bm) W V->cJ V:=
 ⟨sw h.below rfl λj a=>(h.high j (a.elim .inr λe=>.inl (.inl e))).1,λ_ b=>c.below (oH h.below h.below.size b λj a=>(h.high j (.inl (.inl a))).1)⟩
theorem ZC(b:Bw w W)(d:Bw W U)(c:aE W oI Ba Bd Be Bm t dk n)(r:aE U oI Oa Od Oe Om u dj m)(q:u.hs=[])(g:fR w W Ba)(f:fR W U Oa)(g1:w<=Ba/\w<=Bd/\w<=Bm)(y:W<=Oa/\W<=Od/\W<=Om/\W<=Oe)(x:∀j,j=Bk\/j=Bl\/j=Bc->∃v,U.cell? ⟨j,0,none⟩=some v/\(∀s,v≠.string s)/\j≠Ba/\j≠Bd/\j≠Bm/\j≠Oa/\j≠Od/\j≠Om)(bk:U.heap[Bk]?=some (qd Bd Be Ba))(bl:U.heap[Bl]?=some (qd Od Oe Oa))(bc:U.heap[Bc]?=some oc):CrE w U oc Bc Bk Bl Ba Bd Be Bm Oa Od Oe Om t u dk dj n m () () [] []:=by
 have Ha:∀j,dK U Ba Bd Bm j->j<W.heap.size:=λj a=>c.mineLt j (c.mineStay (K:=λ_=>False) (Apart.of_below d) (λ_ e=>e.elim) j a)
 have h:=r.wide q (c.keep d) Ha f y;have He:∀j,dK U Oa Od Om j->W.heap.size<=j:=λj a=>by
  rcases a with (e|e|e)|e
  ·omega
  ·omega
  ·omega
  ·exact e.base f
 have o:=c.beside (K:=λ_=>False) (Apart.of_below d) (λ_ e=>e.elim) (λ_ e=>e.elim) (λj a=>.inr (He j a)) h.mineLt;have l:bf (av (far U Bk Bl Ba Bd Bm Oa Od Om) U) () []:=XS none 0 (by decide);refine⟨b.trans (d.mono b.size),bk,bl,bc,o,h,λj a=>?_,l,l⟩;have E:=b.size;have Hb:∀i,i=Bk\/i=Bl\/i=Bc->j≠i:=λi hi e=>by
  obtain⟨v,k,p,z,D,A,B,C,Hc⟩:=x i hi;rw[e] at a
  rcases a with ((e|e|e)|e)|((e|e|e)|e)
  ·exact z e
  ·exact D e
  ·exact A e
  ·obtain⟨_,⟨s,hs⟩,_⟩:=o.blk e;rw[k] at hs;exact p s (Ql hs)
  ·exact B e
  ·exact C e
  ·exact Hc e
  ·obtain⟨_,⟨s,hs⟩,_⟩:=h.blk e;rw[k] at hs;exact p s (Ql hs)
 refine⟨?_,Hb _ (.inl rfl),Hb _ (.inr (.inl rfl)),Hb _ (.inr (.inr rfl))⟩
 rcases a with a|a
 ·rcases c.mineStay (K:=λ_=>False) (Apart.of_below d) (λ_ e=>e.elim) j a with (e|e|e)|e
  ·omega
  ·omega
  ·omega
  ·exact e.base g
 ·grind
theorem CrL.sub(h:CrL w W oc Bc Bk Ba Bd Be Bm va vb hs hs')(g:Geo w Bc Bk Bd Be Bm):CrL w (W.setCell ⟨Bk,2,none⟩ Ca) oc Bc Bk Ca Bd Be Bm va vb hs hs':=by
 have a:=dD W ⟨Bk,2,none⟩ Ca;have hle:aR (av (three Bk Bd Bm) W) (av (three Bk Bd Bm) (W.setCell ⟨Bk,2,none⟩ Ca)):=bF (λj c b=>⟨b,a.block j c λe=>b (.inl (by injection e))⟩) a.size;exact⟨QP h.below a g.k h.below.size,bd h.bk 2 _,(a.block Bc (gS h.bc).1 λe=>g.kc (by grind)).trans h.bc,h.was.le hle,h.next.le hle⟩
theorem aE.boxed(h:aE W (λj=>j=Bk) Ca Bd Be Bm t dk n)(b:W.heap[Bk]?=some (qd Bd Be Ba))(v:Value):aE (W.setCell ⟨Bk,2,none⟩ v) oI Ca Bd Be Bm t dk n:=
 h.beside (K:=λj=>j=Bk) (Apart.setCell (K:=λj=>j=Bk) rfl _ _ _) (λ_ e=>e) (λj e v a=>by
  have c:=cb b 0;rw[e,c] at a;cases a) (λ_ e=>e.elim) λ_ e=>e.elim
theorem aE.calmed(h:aE W N Ba Bd Be Bm t dk n){k:Int}(a:-1<=k/\k<=1000)(ah:bu U Bd { dk with l:=k })(b:W.grownBy U (some Bd)):aE U N Ba Bd Be Bm t { dk with l:=k } n:=h.disk b ah ⟨h.calm.1,a,h.calm.2.2⟩ h.txt.2
theorem CrE.armed(h:CrE w W oc Bc Bk Bl Ba Bd Be Bm Oa Od Oe Om t u dk dj n m va vb hs hs'){k:Int}(b:-1<=k/\k<=1000)(ah:bu U Bd { dk with l:=k })(a:W.grownBy U (some Bd)):CrE w U oc Bc Bk Bl Ba Bd Be Bm Oa Od Oe Om t u { dk with l:=k } dj n m va vb hs hs':=
 have Ha:Apart (three Ba Bd Bm) W U:=fv a (λj e _=>.inr (.inl (by grind)))
 (h.turn.act (h.a.calmed b ah a) (Ha.wide λ_ e=>.inl e) (h.a.blkUp (.inl (a.block Ba h.a.lts.1.1 λe=>h.a.apart.1 (by injection e))) Ha)).turn
theorem CrL.acted(h:CrL w W oc Bc Bk Ba Bd Be Bm va vb hs hs')(g:Geo w Bc Bk Bd Be Bm)(b:w<=Ba/\Ba≠Bk/\Ba≠Bc)(a:Apart (three Ba Bd Bm) W U):Bw w U/\U.heap[Bk]?=some (qd Bd Be Ba)/\U.heap[Bc]?=some oc:=by
 refine⟨oH h.below h.below.size a λj c=>?_,(a.block Bk (gS h.bk).1 ?_).trans h.bk,(a.block Bc (gS h.bc).1 ?_).trans h.bc⟩
 ·rcases c with e|e|e
  ·omega
  ·rw[e];exact g.d
  ·rw[e];exact g.m
 ·rintro (e|e|e)
  ·exact b.2.1 e.symm
  ·exact g.kd e
  ·exact g.km e
 ·rintro (e|e|e)
  ·exact b.2.2 e.symm
  ·exact g.cd e
  ·exact g.cm e
theorem Fits.admit(h:Fits c ls)(hf:cR c=0)(a:aE W N Ba Bd Be Bm ⟨cT c,c.ds,ls⟩ dk n):(aV ⟨cT c,c.ds,ls⟩ zP).1=0\/(aV ⟨cT c,c.ds,ls⟩ zP).1=5\/(aV ⟨cT c,c.ds,ls⟩ zP).1=2:=by
 have hi:=a.inv;obtain⟨_,_,_,_,_,_,_,_,_,_,_,_,_,_,_,_,_,_,_,b,_⟩:=a;exact Zw hi (Et (v6 hf).1).2.1 (vt _ _) (Zt b.nd b.pol) h.room
end
