import Derived.Test.YtjlblidnfebmiaaGreatDoorE37
set_option maxRecDepth 100000
set_option maxHeartbeats 16000000
open Go Go.RowKit Go.Shelf
attribute [local go_sem] Oper.semAt_some
open Go.Proofs.Tryz
namespace Go.Proofs.YtjlblidnfebmiaaGreatDoor
variable {B:Nat} {d:Bool} {ds:List ah} {hs hs2:List ad} {l:Int} {m:aF} {v:Value} {w:World}
theorem Ua (d H:Nat) (m:aF) (b i p n:Nat) (cp u db:Nat) (G:Option Addr) (c:Nat) (ds:List ah) (us:Nat->Bool) (f:Dk) (s:aB) (rs:List Rn) (hs:List ad) (w:World) (h:bx w d H m b i (.slice none 0 0) cp u) (W:aJ w u db G c ds us) (B:¬ three d b p u) (q:0<ds.length->¬ three d b p db) (T:eT ds) (F:m.op<18446744073709551616) (y:bj w b f) (hc:Calm f) (N:f.n.fb.data.toList.length<=1000000) (O:f.load=(0,hs)) (J:bC w i b p n f.n f.k (λa=>a∈rs)) (o:n<=900) (ht:cD w) (hm:cO w) (P:bt hs=0) (l:aW m ds hs=some s) (r:cH m (hs.map ad.pod)=true) (t:d≠b/\d≠p/\d≠i) :
  Calls prog 36 #[.pointer (some ⟨d,0,none⟩)] w λe w'=>e=.returned .nilIface/\(∃ (E:Value) (D g k:Nat) (z:Option Addr) (L:Nat),D<=n+dN rs (aE hs)/\aX (av (λj=>j<w.heap.size) w') E hs/\bx w' d H m b i E s.cp g/\ee w' g k z L s/\w.heap.size<=g/\(0<s.ds.length->w.heap.size<=k)/\bC w' i b p D f.n f.k λa=>a∈aE hs)/\Apart (three d b p) w w':=by
 obtain ⟨H0,H2,HZ⟩:=J.lt;have H1:=h.lt;have HO:=qI h;have HP:=qI W;have HE:=qI J;have Hm:=qI (EE b f.n f.k (-1) false w (oe y hc));have Hg:=qI (Db b f w y N ht hm);unfold xd at Hg;rw [O] at Hg;have V:kM hs:=(cL.1 P).2.1;have Hq:hs.length<=100:=by have:=(cL.1 P).1;omega
 have I:=h;unfold bx at I;have c5:w.cell? ⟨d,5,none⟩=some (.pointer (some ⟨b,0,none⟩)):=aa I 5;have c6:w.cell? ⟨d,6,none⟩=some (.pointer (some ⟨i,0,none⟩)):=aa I 6;clear h W J y I
 go_enter func36,ntmps36
 go_wp2_with fail
 refine Hm.o.mono ?_;rintro e wz ⟨rfl,Hj⟩;have Hj:=Hj.symm;subst Hj
 go_wp2_with fail
 refine Hg.o.mono ?_;rintro e W1 ⟨v,rfl,E,Hc⟩;have S:=qI E;obtain ⟨C,vc,Hi,_⟩:=E;have Hi:v=.slice C hs.length vc:=Hi;subst Hi;have HQ:=qI Hc;have HK:=Hc.size;have Hz:=qI (HO.o.below Hc);have X:=qI (HP.o.below Hc);have HU:=qI (HE.o.below Hc);have Hf:=qI (EG d H m b i (.slice none 0 0) cp u db G c ds us (.slice C hs.length vc) hs W1 Hz.o X.o T (S.o.le (dm _ _)) F V Hq);rw [l] at Hf;have Hp:((some s:Option aB).isSome && cH m (hs.map ad.pod))=true:=by rw [r];rfl
 rw [Hp] at Hf;dsimp only;rw [show aL (((0:Nat)):Int)=.nilIface from rfl];clear Hc Hp Hm Hg c5 c6
 go_wp2_with fail
 refine Hf.o.mono ?_;rintro e Y ⟨rfl,Hb⟩;have Hn:=qI (S.o.le (nI (M':=λj=>j<w.heap.size) (Apart.of_below Hb) λ_ _ h=>h));have HN:=qI (HQ.o.trans (Hb.mono HK));have HY:=Hb.size;have Hw:=qI (Hz.o.below Hb);have Hh:=qI (X.o.below Hb);have HJ:=qI (HU.o.below Hb);have Hl:=qI (tM i b p n f.n f.k rs (.slice C hs.length vc) hs Y HJ.o (Hn.o.le (bP (λj x o=>⟨λe=>o (by rcases e with e|e <;> omega),rfl⟩) (lR))) P (by omega));have Hk:=Hw.o;unfold bx at Hk;have d6:Y.cell? ⟨d,6,none⟩=some (.pointer (some ⟨i,0,none⟩)):=aa Hk 6;clear Hb Hk Hf
 go_wp2_with fail
 refine Hl.o.mono ?_;rintro e M ⟨rfl,⟨D,Hr,Ht⟩,Ha⟩;have HX:=Ha.size;have Hy:=qI (Hw.o.block (Ha.block d (by omega) t.1 t.2.1));have HH:Hu (aJ M u db G c ds us):=mS Hh.o (Ha.block u (by have:=Hh.o.lt;omega) (λe=>B (.inr (.inl e))) λe=>B (.inr (.inr e))) (λA=>Ha.block db (by have:=(Hh.o.at0 A).2.2;omega) (λe=>q A (.inr (.inl e))) λe=>q A (.inr (.inr e))) Ha.size;have HI:=qI Ht;have HT:Hu (D<=n+dN rs (aE hs)):=Hr;have R:Hu (aX (av (λj=>j<w.heap.size) M) (.slice C hs.length vc) hs):=Hn.o.le (bP (λj x o=>⟨o,Ha.block j x (λe=>o (by omega)) λe=>o (by omega)⟩) Ha.size);have HW:=qI ((Apart.of_below (K:=three d b p) HN.o).trans (tZ Ha));have Hx:=qI (tR d H m b i (.slice none 0 0) cp u db G c ds us (.slice C hs.length vc) hs s M Hy.o ⟨_,_,_,rfl⟩ HH.o (λe=>B (.inl e)) (λA e=>q A (.inl e)) T (R.o.le (bP (λj x o=>⟨λe=>o (by omega),rfl⟩) (lR))) F V Hq l);clear Ha Ht Hr d6 Hl
 go_wp2_with fail
 refine Hx.o.mono ?_;rintro e U ⟨rfl,⟨g,k,z,L,Ho,Q,HG,Hs⟩,He⟩;have HM:=qI Ho;have HR:=qI Q;have HS:=qI He;have HV:Hu (bC U i b p D f.n f.k λa=>a∈aE hs):=rj HI.o He t Hy.o.notInt;have Z:Hu (aX (av (λj=>j<w.heap.size) U) (.slice C hs.length vc) hs):=R.o.le (bP (λj x o=>⟨o,He.block j x λe=>o (by omega)⟩) He.size);have Hv:Hu (w.heap.size<=g/\(0<s.ds.length->w.heap.size<=k)):=⟨by omega,λA=>by have:=Hs A;omega⟩;clear Ho Q He HG Hs Hx
 go_wp2
 go_ret;exact ⟨rfl,⟨_,D,g,k,z,L,HT.o,Z.o,HM.o,HR.o,Hv.o.1,Hv.o.2,HV.o⟩,HW.o.trans (HS.o.wide λj x=>.inl x)⟩
theorem E8 (f G:Nat) (m:aF) (b g o n:Nat) (cp p db:Nat) (E:Option Addr) (c:Nat) (ds:List ah) (us:Nat->Bool) (d:Dk) (s:aB) (rs:List Rn) (k:Nat) (hs:List ad) (w:World) (h:bx w f G m b g (.slice none 0 0) cp p) (hp:aJ w p db E c ds us) (y:¬ three f b o p) (r:0<ds.length->¬ three f b o db) (hN:eT ds) (F:m.op<18446744073709551616) (u:bj w b d) (H:Calm d) (R:d.n.fb.data.toList.length<=1000000) (S:d.load=(k,hs)) (L:bC w g b o n d.n d.k (λa=>a∈rs)) (hn:n<=900) (P:cD w) (Y:cO w) (O:k≠0\/(k=0/\bt hs=0/\((aW m ds hs).isSome && cH m (hs.map ad.pod))=false)) (A:aW m ds []=some s) (t:f≠b/\f≠o/\f≠g) :
  Calls prog 36 #[.pointer (some ⟨f,0,none⟩)] w λe w'=>e=.returned .nilIface/\(∃ (C:Value) (B i l:Nat) (z:Option Addr) (N:Nat),B<=n/\aX (av (λj=>j<w.heap.size) w') C []/\bx w' f G m b g C s.cp i/\ee w' i l z N s/\w.heap.size<=i/\(0<s.ds.length->w.heap.size<=l)/\bC w' g b o B (d.save []).2.n (d.save []).2.k (λa=>a∈([]:List Rn))/\bj w' b (d.save []).2/\Calm (d.save []).2)/\Apart (three f b o) w w':=by
 obtain ⟨hh,hq,hb⟩:=L.lt;have hi:=h.lt;have HO:=qI h;have HP:=qI hp;have HE:=qI L;have Z:=qI H;have hg:=qI u;have H0:=qI P;have Hl:=qI (EE b d.n d.k (-1) false w (oe u H));have Hg:=qI (Db b d w u R P Y);unfold xd at Hg;rw [S] at Hg;have Hj:=qI (py H (hs:=[]) rfl);have HA:(d.save []).1=0:=Hj.o.1 (of_decide_eq_true (by kernel_rfl));have I:=h;unfold bx at I;have c5:w.cell? ⟨f,5,none⟩=some (.pointer (some ⟨b,0,none⟩)):=aa I 5;have c6:w.cell? ⟨f,6,none⟩=some (.pointer (some ⟨g,0,none⟩)):=aa I 6;clear h hp L u I H P Y
 go_enter func36,ntmps36
 go_wp2_with fail
 refine Hl.o.mono ?_;rintro e wz ⟨rfl,Hw⟩;have Hw:=Hw.symm;subst Hw
 go_wp2_with fail
 refine Hg.o.mono ?_;rintro e M ⟨v,rfl,C,Hc⟩;have H6:=qI C;obtain ⟨W,vc,Hs,_⟩:=C;have Hs:v=.slice W hs.length vc:=Hs;subst Hs;have HI:=qI Hc;have HY:=Hc.size;have Hk:=qI (HO.o.below Hc);have Hz:=qI (HP.o.below Hc);have U:=qI (HE.o.below Hc)
 rcases O with Q|⟨Q,hF,Hp⟩
 dsimp only;rw [eV Q];have Hi:=qI HI.o;have Ht:=qI Hk.o;have Hh:=qI Hz.o;have Ho:=qI U.o;have He:=Hk.o;unfold bx at He;have d5:M.cell? ⟨f,5,none⟩=some (.pointer (some ⟨b,0,none⟩)):=aa He 5;clear Hc Hl Hg c5 c6 He;generalize M=J at *
 rotate_left
 focus
  subst Q;have H5:kM hs:=(cL.1 hF).2.1;have HT:hs.length<=100:=by have:=(cL.1 hF).1;omega
  have Hx:=qI (EG f G m b g (.slice none 0 0) cp p db E c ds us (.slice W hs.length vc) hs M Hk.o Hz.o hN (H6.o.le (dm _ _)) F H5 HT);rw [Hp] at Hx;dsimp only;rw [show aL (((0:Nat)):Int)=.nilIface from rfl];clear Hc Hl Hg c5 c6
  go_wp2_with fail
  refine Hx.o.mono ?_;rintro e J ⟨rfl,Hf⟩;have Hi:=qI (HI.o.trans (Hf.mono HY));have ha:=Hf.size;have Ht:=qI (Hk.o.below Hf);have Hh:=qI (Hz.o.below Hf);have Ho:=qI (U.o.below Hf);have He:=Ht.o;unfold bx at He;have d5:J.cell? ⟨f,5,none⟩=some (.pointer (some ⟨b,0,none⟩)):=aa He 5;clear Hf He Hx
 all_goals
  have HZ:=Hi.o.size;have HW:Hu (bj J b d):=mK Ho.o.disk Z.o;have Hr:=qI (xD b d (.slice none 0 0) [] J HW.o (.inl Z.o.2.2) (jZ _) (H0.o.below Hi.o));rw [HA,show aL (((0:Nat)):Int)=.nilIface from rfl] at Hr
  go_wp2_with fail
  refine Hr.o.mono ?_;rintro e D ⟨rfl,Hm,Ha⟩;have hf:=Ha.size;have hl:=qI Ha;have he:=qI Hm;have HX:Hu (bC D g b o n (d.save []).2.n (d.save []).2.k λa=>a∈rs):=rm Ho.o Ha Hm Hj.o.2.2;have HK:Hu (bx D f G m b g (.slice none 0 0) cp p):=(Ha.block f (by omega) λe=>t.1 (by injection e)).trans Ht.o;have Hy:Hu (aJ D p db E c ds us):=mS Hh.o (Ha.block p Hh.o.lt λe=>y (.inr (.inl (by injection e)))) (λq=>Ha.block db (Hh.o.at0 q).2.2 λe=>r q (.inr (.inl (by injection e)))) Ha.size;have H2:=qI ((Apart.of_below (K:=three f b o) Hi.o).trans (fp Ha λj e _=>.inr (.inl (by injection e with e;exact e.symm))));have Hq:=HK.o;unfold bx at Hq;have d6:D.cell? ⟨f,6,none⟩=some (.pointer (some ⟨g,0,none⟩)):=aa Hq 6;have HB:=qI (tM g b o n (d.save []).2.n (d.save []).2.k rs (.slice none 0 0) [] D HX.o (jZ _) rfl (by omega));clear Hm Ha Hq Hr d5
  go_wp2_with fail
  refine HB.o.mono ?_;rintro e W3 ⟨rfl,⟨B,Hn,HG⟩,Hb⟩;have H9:=Hb.size;have T:=qI (HK.o.block (Hb.block f (by omega) t.1 t.2.1));have HU:Hu (aJ W3 p db E c ds us):=mS Hy.o (Hb.block p (by have:=Hy.o.lt;omega) (λe=>y (.inr (.inl e))) λe=>y (.inr (.inr e))) (λq=>Hb.block db (by have:=(Hy.o.at0 q).2.2;omega) (λe=>r q (.inr (.inl e))) λe=>r q (.inr (.inr e))) Hb.size;have HV:=qI HG;have H7:Hu (B<=n):=by
   unfold Hu;have e0:dN rs (aE [])=0:=rfl;rw [e0] at Hn;exact Hn
  have H8:=qI (H2.o.trans (tZ Hb));have V:=qI (tR f G m b g (.slice none 0 0) cp p db E c ds us (.slice none 0 0) [] s W3 T.o ⟨_,_,_,rfl⟩ HU.o (λe=>y (.inl e)) (λq e=>r q (.inl e)) hN (jZ _) F (λx hx=>(List.not_mem_nil hx).elim) (by simp) A);clear Hb HG Hn d6 HB
  go_wp2_with fail
  refine V.o.mono ?_;rintro e W4 ⟨rfl,⟨i,l,z,N,HD,HN,HR,X⟩,Hv⟩;have H1:=qI HD;have H3:=qI HN;have H4:=qI Hv;have HQ:Hu (bC W4 g b o B (d.save []).2.n (d.save []).2.k λa=>a∈([]:List Rn)):=rj HV.o Hv t T.o.notInt;have HS:Hu (bj W4 b (d.save []).2):=mK HQ.o.disk Hj.o.2.2;have HH:Hu (w.heap.size<=i/\(0<s.ds.length->w.heap.size<=l)):=⟨by omega,λq=>by have:=X q;omega⟩;clear HD HN Hv HR X V
  go_wp2
  go_ret;exact ⟨rfl,⟨_,B,i,l,z,N,H7.o,jZ _,H1.o,H3.o,HH.o.1,HH.o.2,HQ.o,HS.o,Hj.o.2.2⟩,H8.o.trans (H4.o.wide λj hj=>.inl hj)⟩
theorem E9 {s:Dk} (h:s.load.1=0):bt s.load.2=0:=by
 unfold Dk.load at h ⊢
 split
 ·rfl
 ·split
  ·next h1 h2=>rw [if_neg h1,if_pos h2] at h;exact (C8 h).1
  ·rfl
def ka (m:aF) (ds:List ah) (dk:Dk) (hs:List ad) (dk':Dk):Prop:=
 (dk.load.1=0/\dk.load.2=hs/\((aW m ds dk.load.2).isSome && cH m (dk.load.2.map ad.pod))=true/\dk'=dk)\/(¬ (dk.load.1=0/\((aW m ds dk.load.2).isSome && cH m (dk.load.2.map ad.pod))=true)/\hs=[]/\dk'=(dk.save []).2)
theorem Ub (o J:Nat) (m:aF) (l u r n:Nat) (cp F db:Nat) (L:Option Addr) (c:Nat) (ds:List ah) (us:Nat->Bool) (i:Dk) (s:aB) (rs:List Rn) (w:World) (h:bx w o J m l u (.slice none 0 0) cp F) (R:aJ w F db L c ds us) (E:¬ three o l r F) (x:0<ds.length->¬ three o l r db) (U:eT ds) (C:m.op<18446744073709551616) (z:bj w l i) (I:Calm i) (B:i.n.fb.data.toList.length<=1000000) (N:bC w u l r n i.n i.k (λa=>a∈rs)) (V:n<=900) (O:cD w) (P:cO w) (b:aW m ds []=some s) (p:cH m []=true) (D:o≠l/\o≠r/\o≠u) :
  Calls prog 36 #[.pointer (some ⟨o,0,none⟩)] w λe w'=>e=.returned .nilIface/\(∃ (hs:List ad) (y:aB) (q:Dk) (t:Value) (v d f:Nat) (g:Option Addr) (A:Nat),ka m ds i hs q/\aW m ds hs=some y/\bt hs=0/\cH m (hs.map ad.pod)=true/\v<=n+dN rs (aE hs)/\aX (av (λj=>j<w.heap.size) w') t hs/\bx w' o J m l u t y.cp d/\ee w' d f g A y/\w.heap.size<=d/\(0<y.ds.length->w.heap.size<=f)/\bC w' u l r v q.n q.k (λa=>a∈aE hs)/\bj w' l q/\Calm q)/\Apart (three o l r) w w':=by
 cases hL:i.load with
 | mk k hs=>
  by_cases Q:k=0
  ·subst Q;have S:bt hs=0:=by have:=E9 (s:=i) (by rw [hL]);rw [hL] at this;exact this
   rcases two ((aW m ds hs).isSome && cH m (hs.map ad.pod)) with Ha|Ha
   ·simp only [Bool.and_eq_true] at Ha;obtain ⟨y,Hc⟩:=Option.isSome_iff_exists.1 Ha.1;refine (Ua o J m l u r n cp F db L c ds us i y rs hs w h R E x U C z I B hL N V O P S Hc Ha.2 D).mono ?_;rintro e w' ⟨H,⟨t,v,d,f,g,A,T,a2,a3,a4,a5,K,G⟩,Hb⟩;exact ⟨H,⟨hs,y,i,t,v,d,f,g,A,.inl ⟨by rw [hL],by rw [hL],by rw [hL];simp [Hc,Ha.2],rfl⟩,Hc,S,Ha.2,T,a2,a3,a4,a5,K,G,mK G.disk I,I⟩,Hb⟩
   ·refine (E8 o J m l u r n cp F db L c ds us i s rs 0 hs w h R E x U C z I B hL N V O P (.inr ⟨rfl,S,Ha⟩) b D).mono ?_;rintro e w' ⟨H,⟨t,v,d,f,g,A,T,a2,a3,a4,a5,K,G,M,a9⟩,Hb⟩;exact ⟨H,⟨[],s,(i.save []).2,t,v,d,f,g,A,.inr ⟨by rw [hL,Ha];simp,rfl,rfl⟩,b,rfl,p,by omega,a2,a3,a4,a5,K,G,M,a9⟩,Hb⟩
  ·refine (E8 o J m l u r n cp F db L c ds us i s rs k hs w h R E x U C z I B hL N V O P (.inl Q) b D).mono ?_;rintro e w' ⟨H,⟨t,v,d,f,g,A,T,a2,a3,a4,a5,K,G,M,a9⟩,Hb⟩;exact ⟨H,⟨[],s,(i.save []).2,t,v,d,f,g,A,.inr ⟨by rw [hL];simp [Q],rfl,rfl⟩,b,rfl,p,by omega,a2,a3,a4,a5,K,G,M,a9⟩,Hb⟩
theorem Uc {s:Dk} (h:s.load.1=0):(bi s.load.2).length<=6000:=by grind [Dk.load,ub,C8]
theorem Ud {a b:Dk} (j:Calm a) (i:a.k=a.n) (e:a.n.fb.data.toList.length<=1000000) (h:ka m ds a hs b):Kept b hs:=by
 rcases h with ⟨f,c,_,d⟩|⟨_,c,d⟩
 ·rw [d];exact ⟨Prod.ext f c,i,e⟩
 ·rw [d,c];exact xF j (λx g=>(List.not_mem_nil g).elim) rfl ub
theorem Ue {b a:Dk} (h:ka m ds b hs a):(bi hs).length<=6000:=by cases h <;> grind [Uc,ub]
structure Uf (w w':World) (N:Nat->Prop) (c:dM) (Bd Be Bm:Nat) (dk:Dk) (n:Nat) (rs:List Rn) (e:Ending):Prop where
 bad:cM c≠0->e=.returned (.tuple #[.pointer none,aL (cM c)])
 good:cM c=0->∃ Ba hs dk' n',e=.returned (.tuple #[.pointer (some ⟨Ba,0,none⟩),.nilIface])/\ka (cN c) c.ds dk hs dk'/\n'<=n+dN rs (aE hs)/\be w' N Ba Bd Be Bm ⟨cN c,c.ds,hs⟩ dk' n'/\(w.heap.size<=Ba/\j9 w.heap.size w' Ba)
 o:Apart (gD Bd Bm) w w'
abbrev ru:=λ(x0:Nat) (x1:aF) (x2 x3 x4:Nat)=>(.cells #[.pointer (some ⟨x0,0,none⟩),.int .u64 x1.op,.int .u8 x1.nd,.int .i64 x1.nb,.int .i64 x1.pol,.pointer (some ⟨x2,0,none⟩),.pointer (some ⟨x3,0,none⟩),.slice none 0 0,.int .u64 x1.op,.pointer (some ⟨x4,0,none⟩)] 98:Obj)
abbrev pE:=λ(x0:Nat) (x1:aF)=>(.cells #[.pointer (some ⟨x0,0,none⟩),.int .u64 x1.op,.int .u8 x1.nd,.int .i64 x1.nb,.int .i64 x1.pol] 84:Obj)
abbrev pF:=λ(x0:aF) (x1:Nat)=>(.cells #[.int .u64 x0.op,.pointer (some ⟨x1,0,none⟩)] 87:Obj)
theorem yb (N:Nat->Prop) (c:dM) (U v2:Value) (g o k t v:Nat) (s:Dk) (n:Nat) (rs:List Rn) (w:World) (h1:fX w U c.l) (S:dW w v2 g o c.ds) (hk:c.keep<18446744073709551616) (F:bj w k s) (J:Calm s) (B:s.k=s.n) (G:s.n.fb.data.toList.length<=1000000) (K:bC w t k v n s.n s.k (λa=>a∈rs)) (z:n<=900) (ht:cD w) (hm:cO w) (hN:∀ j,N j->j<w.heap.size/\∃ p,w.cell? ⟨j,0,none⟩=some (.pointer p)) (E:¬ N k/\¬ N v/\¬ N t) :
  Calls prog 16 #[.agg #[U,.int .u64 (c.keep:Nat),.int .i64 c.nb,v2,.int .i64 c.pol],.pointer (some ⟨k,0,none⟩),.pointer (some ⟨t,0,none⟩)] w λe w'=>Uf w w' N c k t v s n rs e:=by
 obtain ⟨ca,cc,hr⟩:∃ ca cc,U=.slice ca c.l.length cc:=by
  rcases id h1 with ⟨hl,L,q,rfl⟩|⟨b,o,q,rfl,_⟩
  ·exact ⟨L,q,by rw [hl];rfl⟩
  ·exact ⟨_,q,rfl⟩
 have H5:=qI B;clear B;subst hr;obtain ⟨da,dc,ha,H6⟩:=id S;clear H6;subst ha;obtain ⟨hG,hI,H4⟩:=K.lt;obtain ⟨hO,hC,hK⟩:=K.apart;have Hm:=qI ((Q0 w.heap.size w).alloc (lR) (.cells #[.slice ca c.l.length cc,.int .u64 (c.keep:Nat),.int .i64 c.nb,.slice da c.ds.length dc,.int .i64 c.pol] 27));have HN:=qI (Ty c (.slice ca c.l.length cc) (.slice da c.ds.length dc) g o _ (h1.below Hm.o) (S.le (aM.of_below Hm.o)) hk);have HI:=qI F;have HE:=qI K;have HT:=qI ht;have HM:=qI hm;have Hr:=qI hN;have hb:=qI E;clear h1 S F K ht hm hN E
 go_enter func16,ntmps16
 go_wp2_with fail
 generalize w.alloc (.cells #[.slice ca c.l.length cc,.int .u64 (c.keep:Nat),.int .i64 c.nb,.slice da c.ds.length dc,.int .i64 c.pol] 27)=X at *;refine HN.o.mono ?_;rintro e i ⟨Hh,Hb,HS⟩;have Hj:=qI (Hm.o.trans (HS.mono Hm.o.size));have HW:=Hj.o.size;have hH:=Hm.o.size;clear HS HN
 by_cases hf:cM c=0
 ·obtain ⟨d,b,R,l,db,L,pc,rfl,HG,Hg,Hs,Hi⟩:=Hb hf;obtain ⟨A,D,P,C⟩:=ue hf;have H:=qI hf;have Hc:=qI HG;have HY:=qI Hg;have hJ:=Hg.pool.lt;have HC:Hu (0<c.ds.length->w.heap.size<=db/\db<i.heap.size):=λu=>⟨by have:=Hi u;omega,(Hg.pool.at0 u).2.2⟩
  have hg:w.heap.size<=l:=by omega
  have HQ:=HG.op;have HR:Hu (0<=(cN c).nb):=D.1;have Z:=qI C;have HL:=qI (xU A);clear Hh Hb HG Hg Hs Hi hf A D P C;unfold mV sV;dsimp only;obtain ⟨M,I⟩:∃ M,M=cN c:=⟨_,rfl⟩;rw [<- I] at Hc HY HQ HR ⊢;have Hk:=qI I;have hp:Hu (M.l=c.l):=by unfold Hu;rw [I];rfl
  clear I;have HB:=qI ((Hj.o.alloc HW (.cells #[.pointer (some ⟨d,0,none⟩),.int .u64 M.op,.int .u8 M.nd,.int .i64 M.nb,.int .i64 M.pol] 84)).alloc (by simp;omega) (.cells #[.int .u64 M.op,.pointer (some ⟨l,0,none⟩)] 87));have Hl:=qI (((Q0 i.heap.size i).alloc (lR) (.cells #[.pointer (some ⟨d,0,none⟩),.int .u64 M.op,.int .u8 M.nd,.int .i64 M.nb,.int .i64 M.pol] 84)).alloc (by simp) (.cells #[.int .u64 M.op,.pointer (some ⟨l,0,none⟩)] 87));have Hn:=qI (b6 (aU i (.cells #[.pointer (some ⟨d,0,none⟩),.int .u64 M.op,.int .u8 M.nd,.int .i64 M.nb,.int .i64 M.pol] 84) rfl) (.cells #[.int .u64 M.op,.pointer (some ⟨l,0,none⟩)] 87));have HO:=qI (aU (i.alloc (.cells #[.pointer (some ⟨d,0,none⟩),.int .u64 M.op,.int .u8 M.nd,.int .i64 M.nb,.int .i64 M.pol] 84)) (.cells #[.int .u64 M.op,.pointer (some ⟨l,0,none⟩)] 87) (n:=i.heap.size+1) (by simp));have Ht:((i.alloc (.cells #[.pointer (some ⟨d,0,none⟩),.int .u64 M.op,.int .u8 M.nd,.int .i64 M.nb,.int .i64 M.pol] 84)).alloc (.cells #[.int .u64 M.op,.pointer (some ⟨l,0,none⟩)] 87)).heap.size=i.heap.size+2:=by simp
  go_wp2_with fail
  generalize ((i.alloc (.cells #[.pointer (some ⟨d,0,none⟩),.int .u64 M.op,.int .u8 M.nd,.int .i64 M.nb,.int .i64 M.pol] 84)).alloc (.cells #[.int .u64 M.op,.pointer (some ⟨l,0,none⟩)] 87))=m at *;have hA:=qI (Tr k s.n s.k (.slice none 0 0) (-1) false m (oe (HI.o.below HB.o) J));refine hA.o.mono ?_;rintro e wz ⟨rfl,Hv⟩;have Hv:=Hv.symm;subst Hv;clear Hv;have m0:m.cell? ⟨i.heap.size,0,none⟩=some (.pointer (some ⟨d,0,none⟩)):=aa Hn.o 0;have m1:m.cell? ⟨i.heap.size,1,none⟩=some (.int .u64 M.op):=aa Hn.o 1;have m2:m.cell? ⟨i.heap.size,2,none⟩=some (.int .u8 M.nd):=aa Hn.o 2;have m3:m.cell? ⟨i.heap.size,3,none⟩=some (.int .i64 M.nb):=aa Hn.o 3;have m4:m.cell? ⟨i.heap.size,4,none⟩=some (.int .i64 M.pol):=aa Hn.o 4;have t0:m.cell? ⟨i.heap.size+1,0,none⟩=some (.int .u64 M.op):=aa HO.o 0;have t1:m.cell? ⟨i.heap.size+1,1,none⟩=some (.pointer (some ⟨l,0,none⟩)):=aa HO.o 1;have Hf:=qI (HB.o.alloc HB.o.size (.cells #[.pointer (some ⟨d,0,none⟩),.int .u64 M.op,.int .u8 M.nd,.int .i64 M.nb,.int .i64 M.pol,.pointer (some ⟨k,0,none⟩),.pointer (some ⟨t,0,none⟩),.slice none 0 0,.int .u64 M.op,.pointer (some ⟨l,0,none⟩)] 98));have Ha:=qI (Hl.o.alloc Hl.o.size (.cells #[.pointer (some ⟨d,0,none⟩),.int .u64 M.op,.int .u8 M.nd,.int .i64 M.nb,.int .i64 M.pol,.pointer (some ⟨k,0,none⟩),.pointer (some ⟨t,0,none⟩),.slice none 0 0,.int .u64 M.op,.pointer (some ⟨l,0,none⟩)] 98));have H7:Hu (m.heap.size<(m.alloc (.cells #[.pointer (some ⟨d,0,none⟩),.int .u64 M.op,.int .u8 M.nd,.int .i64 M.nb,.int .i64 M.pol,.pointer (some ⟨k,0,none⟩),.pointer (some ⟨t,0,none⟩),.slice none 0 0,.int .u64 M.op,.pointer (some ⟨l,0,none⟩)] 98)).heap.size):=by unfold Hu;simp
  have Hz:Hu (bx (m.alloc (.cells #[.pointer (some ⟨d,0,none⟩),.int .u64 M.op,.int .u8 M.nd,.int .i64 M.nb,.int .i64 M.pol,.pointer (some ⟨k,0,none⟩),.pointer (some ⟨t,0,none⟩),.slice none 0 0,.int .u64 M.op,.pointer (some ⟨l,0,none⟩)] 98)) m.heap.size d M k t (.slice none 0 0) M.op l):=aU m _ rfl
  go_wp2_with fail
  generalize m.alloc (.cells #[.pointer (some ⟨d,0,none⟩),.int .u64 M.op,.int .u8 M.nd,.int .i64 M.nb,.int .i64 M.pol,.pointer (some ⟨k,0,none⟩),.pointer (some ⟨t,0,none⟩),.slice none 0 0,.int .u64 M.op,.pointer (some ⟨l,0,none⟩)] 98)=O at *;clear m0 m1 m2 m3 m4 t0 t1;rw [Ht] at Hz;obtain ⟨r,Y⟩:∃ r,r=i.heap.size+2:=⟨_,rfl⟩;rw [<- Y] at Hz Ht ⊢;have hq:i.heap.size<r:=by omega
  have hi:r<O.heap.size:=by rw [<- Ht];exact H7.o
  have H3:w.heap.size<=r:=by omega
  have hL:=qI Y;clear Y Ht;have Hw:Hu (aJ O l db L pc c.ds λ_=>false):=HY.o.pool.below Ha.o;have hw:=qI (Ub r d M k t v n M.op l db L pc c.ds (λ_=>false) s ⟨M.op,c.ds,λ_=>false⟩ rs O Hz.o Hw.o (by rintro (e|e|e) <;> omega) (λu=>by have:=HC.o u;rintro (e|e|e) <;> omega) (kg Z.o) HQ (HI.o.below Hf.o) J G (HE.o.below Hf.o) z (HT.o.below Hf.o) (HM.o.below Hf.o) (xW Z.o) (ud HR.o) ⟨by omega,by omega,by omega⟩);refine hw.o.mono ?_;rintro e T ⟨rfl,⟨hs,s',y,hv,n',W,V,hP,c',Hq,Hy,HZ,hz,HP,hh,Hx,Hg,Hs,Hi,H0,HH,H1⟩,He⟩;have H9:Hu (j9 w.heap.size T r):=xO Hx Hg (by have:=Ha.o.size;omega) (λu=>by have:=Ha.o.size;have:=Hi u;omega);have hu:Hu (ka (cN c) c.ds s hs y):=by rw [<- Hk.o];exact Hq
  have H8:Hu (n'<=n+dN rs (aE hs)):=HP;have Ho:Hu (be T N r k t v ⟨cN c,c.ds,hs⟩ y n'):=by
   have hF:=Ha.o.size;have HU:∀ j,w.heap.size<=j->¬ N j:=λj x e=>by have:=(Hr.o j e).1;omega
   have f4:∀ j,O.heap.size<=j->¬ four N r k v j:=λj x e=>by
    rcases e with e|e|e|e
    ·exact HU j (by omega) e
    all_goals omega
   refine ⟨⟨Z.o,HZ,⟨_,by rw [<- Hk.o];exact Hy⟩⟩,H1,HL.o,H0,⟨by omega,by omega,by omega⟩,⟨HU r (by omega),hb.o⟩,λj x=>by have:=(Hr.o j x).1;have:=He.size;omega,⟨Ue Hq,Ud J H5.o G Hq⟩,d,b,R,hv,W,V,hP,c',s',?_,hh.le (bP (λj x z=>⟨λe=>z (by
    rcases e with e|e|e|e
    ·have:=(Hr.o j e).1;omega
    all_goals omega),rfl⟩) (lR)),?_,?_,Hg,f4 _ Hs,λu=>f4 _ (Hi u)⟩
   ·rw [<- Hk.o];exact Hx
   ·rw [<- Hk.o];obtain ⟨xs,ho,_⟩:=HE.o.map;have u:0<M.l.length:=by rw [hp.o];exact HL.o
    have Hp:=Tz Hc.o.topo u (oe (HI.o.below Hj.o) J) (ho.block (Hj.o.block v H4));have hB:=Hc.o.topo.tlt;have hD:=Hc.o.topo.lt;have HX:∀ j,N j->d≠j/\b≠j:=λj x=>by
     obtain ⟨q1,p,q2⟩:=Hr.o j x;exact TA Hc.o.topo u ((Hj.o.cell (p:=⟨j,0,none⟩) q1).trans q2)
    have nt:¬ four N r k v d:=by
     rintro (e|e|e|e)
     ·exact (HX d e).1 rfl
     ·omega
     ·exact Hp.1.1 e
     ·exact Hp.1.2 e
    have nb:¬ four N r k v b:=by
     rintro (e|e|e|e)
     ·exact (HX b e).2 rfl
     ·omega
     ·exact Hp.2.1 e
     ·exact Hp.2.2 e
    refine ⟨mR Hc.o.topo ?_ ?_ ?_,Hc.o.good,Hc.o.op,Hc.o.nd,Hc.o.pol⟩
    ·rw [cZ nt,He.block d (by omega) λe=>nt (.inr e),Ha.o.block d (by omega)]
    ·rw [cZ nb,He.block b (by omega) λe=>nb (.inr e),Ha.o.block b (by omega)]
    ·rw [cC];have:=He.size;omega
   ·rw [<- Hk.o];exact Hy
  have hx:Hu (Apart (gD k v) w T):=⟨He.os.trans Hf.o.os,He.tape.trans Hf.o.tape,He.output.trans Hf.o.output,Q5 Hf.o.size He.size,λj x z=>(He.block j (by have:=Hf.o.size;omega) (by rintro (e|e|e);omega;exact z (.inl e);exact z (.inr e))).trans (Hf.o.block j x)⟩;clear hh Hx Hg Hs Hi H0 He HP Hq Hy HZ hz HH H1
  go_wp2
  go_ret2;exact ⟨λh=>absurd H.o h,λ_=>⟨r,hs,y,n',rfl,hu.o,H8.o,Ho.o,by omega,H9.o⟩,hx.o⟩
 ·have he:=Hh hf;subst he;have H:=qI hf;have Q:aL (cM c)=.iface 108 (.int .i64 (cM c)):=by unfold aL;rw [if_neg hf]
  have HV:=qI Q;rw [Q];have hy:=qI ((Hj.o.alloc HW (.cells #[.pointer none,.int .u64 0,.int .u8 0,.int .i64 0,.int .i64 0] 84)).alloc (by simp;omega) (.cells #[.int .u64 0,.pointer none] 87));clear Hh Hb hf Q;obtain ⟨ff,HK⟩:∃ f,f=cM c:=⟨_,rfl⟩;rw [<- HK] at HV H ⊢;have H2:=qI HK;clear HK
  go_wp2
  go_ret2;exact ⟨λ_=>by rw [<- H2.o,HV.o];rfl,λh=>absurd (H2.o.trans h) H.o,Apart.of_below hy.o⟩
theorem Ug {s:Dk} (h:Calm s) (a:∀ x∈hs,∀ g∈x.gs,g.cp<18446744073709551616) (hf:bt hs=0) (b:(bi hs).length<=6000):(s.save hs).2.load=(0,hs):=
 (D3 a ((py h hf).1 b)).1.load
theorem ye {b a:Dk} (h:b.load=(0,hs)) (c:((aW m ds hs).isSome && cH m (hs.map ad.pod))=true) (d:ka m ds b hs2 a):hs2=hs/\a=b:=by cases d <;> grind
theorem Uh {g e f:Dk} (j:Calm g) (k:(aW m ds []).isSome=true) (n:cH m []=true) (h:ka m ds g hs e) (i:ka m ds e hs2 f):hs2=hs/\f=e:=by
 rcases h with ⟨a,b,c,d⟩|⟨_,b,d⟩
 ·subst d;refine ye (Prod.ext a b) ?_ i;rw [<- b];exact c
 ·subst b;subst d;refine ye (Ug j (λx l=>(List.not_mem_nil l).elim) rfl ub) ?_ i;rw [k,List.map_nil,n];rfl
theorem Ui (N:Nat->Prop) (c:dM) (m v2:Value) (g o d f k:Nat) (b:Dk) (w:World) (r:fX w m c.l) (q:dW w v2 g o c.ds) (E:c.keep<18446744073709551616) (n:bj w d b) (t:Calm b) (l:b.n.ft=false) (i:b.k=b.n) (h:b.n.fb.data.toList.length<=1000000) (B:bC w f d k 0 b.n b.k (λa=>a∈([]:List Rn))) (C:cD w) (D:cO w) (G:∀ j,N j->j<w.heap.size/\∃ p,w.cell? ⟨j,0,none⟩=some (.pointer p)) (s:¬ N d/\¬ N k/\¬ N f) :
  Calls prog 16 #[.agg #[m,.int .u64 (c.keep:Nat),.int .i64 c.nb,v2,.int .i64 c.pol],.pointer (some ⟨d,0,none⟩),.pointer (some ⟨f,0,none⟩)] w λe w'=>TB w w' N c d f k b e:=by
 refine (yb N c m v2 g o d f k b 0 [] w r q E n t i h B (by omega) C D G s).mono ?_;rintro e w' ⟨r,q,u⟩;refine ⟨r,λhf=>?_,u⟩;obtain ⟨y,hs,z,F,x,Ha,K,H,v⟩:=q hf;obtain ⟨_,A,_,I⟩:=ue hf;obtain ⟨rfl,rfl⟩:=ye (Si t l i h).1 (by rw [xW I,List.map_nil,ud A.1];rfl) Ha
 have:=tL [] (aE [])
 have J:(aE []).length=0:=rfl;obtain rfl:F=0:=by omega
 exact ⟨y,x,H,v⟩
def Sd.file (s:Sd) (b:ByteArray):Sd:=⟨true,b,s.dt,s.db⟩
def Dk.spoil (s:Dk) (b:ByteArray):Dk:=if 6000<b.size then s else { s with n:=s.n.file b,k:=s.k.file b }
theorem aQ.setFile {n k:Sd} (h:aQ w B n k v l d) (b:ByteArray):aQ ((w.setCell ⟨B,0,none⟩ (.bool true)).setCell ⟨B,1,none⟩ (.string b)) B (n.file b) k v l d:=gQ (gQ h 0 _) 1 _
theorem aQ.setFileK {n k:Sd} (h:aQ w B n k v l d) (b:ByteArray):aQ ((w.setCell ⟨B,4,none⟩ (.bool true)).setCell ⟨B,5,none⟩ (.string b)) B n (k.file b) v l d:=gQ (gQ h 4 _) 5 _
theorem Uj (B:Nat) (s:Dk) (b:ByteArray) (w:World) (h:bj w B s) (a:Calm s) (l:b.size<=1000000):Calls prog 22 #[.pointer (some ⟨B,0,none⟩),.string b] w λe w'=>e=.returned (.tuple #[])/\bj w' B (s.spoil b)/\w.grownBy w' (some B):=by
 have af:=oe h a;have r:=qI af
 by_cases d:6000<b.size
 ·have c:Hu (s.spoil b=s):=if_pos d;have g:=qI h;clear h af
  go_enter func22,ntmps22
  go_wp2_with fail
  (try simp only [Exit.inBlock,Exit.then]);refine Qx (results_none rfl _ _ _) rfl ?_;exact ⟨rfl,by rw [c.o];exact g.o,(eH.refl B w).1⟩
 ·have Hc:b.size<=6000:=by omega
  have c:Hu (s.spoil b={ s with n:=s.n.file b,k:=s.k.file b }):=if_neg d;obtain ⟨c0,c1,_,_⟩:=af.now;obtain ⟨m,t,_,_⟩:=af.kept;have f0:=af.frozen 0;have f1:=af.frozen 1;have u:=af.frozen 4;have o:=af.frozen 5;have f:=qI a;have Ha:=qI (af.setFile b);have Hb:=qI (Ha.o.setFileK b);have i:=qI ((((eH.refl B w).set 0 (.bool true)).set 1 (.string b)).set 4 (.bool true) |>.set 5 (.string b));obtain ⟨p,q,_,_⟩:=Ha.o.now;have g4:=Ha.o.frozen 4;have j:=Ha.o.frozen 5;clear h af a
  go_enter func22,ntmps22
  go_wp2_with fail
  go_end0
  exact ⟨rfl,by rw [c.o];exact mK Hb.o f.o,i.o.1⟩
theorem Uk {s:Dk} (h:Calm s) (b:ByteArray):Calm (s.spoil b):=by
 unfold Dk.spoil
 split
 ·exact h
 ·exact h
theorem Ul {s:Dk} (h:s.k=s.n) (b:ByteArray):(s.spoil b).k=(s.spoil b).n:=by
 unfold Dk.spoil
 split
 ·exact h
 ·show s.k.file b=s.n.file b
  rw [h]
theorem Um {s:Dk} (h:s.n.fb.data.toList.length<=1000000) {b:ByteArray}:(s.spoil b).n.fb.data.toList.length<=1000000:=by
 unfold Dk.spoil
 split
 ·exact h
 ·rename_i a
  show b.data.toList.length<=1000000
  rw [Array.length_toList];exact Q5 (Nat.le_of_not_lt a) (by decide)
