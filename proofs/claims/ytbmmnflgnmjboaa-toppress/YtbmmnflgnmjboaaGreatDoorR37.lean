import Derived.Test.YtbmmnflgnmjboaaGreatDoorR36
set_option maxRecDepth 100000
set_option maxHeartbeats 16000000
namespace Go.Proofs.YtbmmnflgnmjboaaGreatDoor
section
open Qos (Nd Ct Pd nd ct pd af cO aH tail)
open Sv (Gv Hd gv hd)
def inL (L:List ByteArray) (nm:ByteArray):Bool:=L.any λa=>decide (a=nm)
theorem zV {L:List ByteArray} {nm:ByteArray}:inL L nm=true↔nm∈L:=by
 unfold inL;rw [List.any_eq_true];exact ⟨λ⟨a,h1,h2⟩=>(of_decide_eq_true h2) ▸ h1,λh=>⟨nm,h,Qc rfl⟩⟩
def bK (L:List ByteArray) (h:Hd):Bool:=!inL L h.pod.nm
theorem Na:∀ (L:List ByteArray) (hs:List Hd),bW hs L=hs.filter (bK L):=by
 intro L
 induction L with
 | nil=>intro hs;exact (List.filter_eq_self.2 λx _=>rfl).symm
 | cons a L ih=>
  intro hs
  show bW (Ol.eQ hs a) L=_
  rw [ih,Ol.eQ,List.filter_filter];refine List.filter_congr λx _=>?_
  unfold bK inL;rw [List.any_cons,Bool.not_or,Bool.and_comm]
  congr 1
  by_cases h1:x.pod.nm=a
  ·simp [h1]
  ·simp [h1,Ne.symm h1]
def eV (L:List ByteArray) (hs:List Hd) (i:Nat):Nat:=((hs.take i).filter (bK L)).length
def cP (us:List Nd) (L:List ByteArray) (hs:List Hd) (i:Nat):Int:=(((hs.take i).filter (bK L)).map λh=>aH us h.pod.nm).sum
section
variable {us:List Nd} {L:List ByteArray} {hs:List Hd} {i:Nat}
theorem sO (h:i<hs.length):hs.take (i+1)=hs.take i++[hd hs i]:=by
 rw [Qa h];simp [hd,h]
theorem zW (h:i<hs.length) (hb:bK L (hd hs i)=true):eV L hs (i+1)=eV L hs i+1/\cP us L hs (i+1)=cP us L hs i+aH us (hd hs i).pod.nm:=by
 unfold eV cP;rw [sO h,List.filter_append,List.filter_cons_of_pos hb]
 simp
theorem zX (h:i<hs.length) (hb:bK L (hd hs i)=false):eV L hs (i+1)=eV L hs i/\cP us L hs (i+1)=cP us L hs i:=by
 unfold eV cP;rw [sO h,List.filter_append,List.filter_cons_of_neg (by rw [hb];decide)]
 simp
theorem Nb (h:i<hs.length) (hb:bK L (hd hs i)=true):eV L hs i<(hs.filter (bK L)).length/\hd (hs.filter (bK L)) (eV L hs i)=hd hs i:=by
 have e:hs.filter (bK L)=(hs.take i).filter (bK L)++hd hs i :: (hs.drop (i+1)).filter (bK L):=by
  conv=>lhs;rw [<- List.take_append_drop (i+1) hs,sO h,List.append_assoc,List.filter_append]
  rw [List.singleton_append,List.filter_cons_of_pos hb]
 unfold eV;rw [e];refine ⟨by simp,?_⟩;unfold hd
 simp
theorem Nc (hm:∀ nm,-1125899906842624<=aH us nm/\aH us nm<=1125899906842624):∀ i,-1125899906842624*i<=cP us L hs i/\cP us L hs i<=1125899906842624*i:=by
 intro i
 induction i with
 | zero=>simp [cP]
 | succ i ih=>
  by_cases h:i<hs.length
  ·cases hb:bK L (hd hs i) with
   | true=>rw [(zW h hb).2];have:=hm (hd hs i).pod.nm;omega
   | false=>rw [(zX h hb).2];omega
  ·have:cP us L hs (i+1)=cP us L hs i:=by
    unfold cP;rw [List.take_of_length_le (by omega),List.take_of_length_le (by omega)]
   omega
theorem oR {α:Type} {f:α->Int} {a b:List α} (h:a.Perm b):(a.map f).sum=(b.map f).sum:=by
 induction h with
 | nil=>rfl
 | cons x _ ih=>rw [Qq,Qq,List.sum_cons,List.sum_cons,ih]
 | swap x y l=>simp only [Qq,List.sum_cons];omega
 | trans _ _ h1 h2=>exact h1.trans h2
theorem Nf {qs:List Pd} {g:Nat} (hp:qs.Perm (hs.map Hd.pod)) (hn:(qs.map Pd.nm).Nodup):((hs.filter (bK ((qs.take g).map Pd.nm))).map Hd.pod).Perm (qs.drop g):=by
 have e:∀ l:List Hd,(l.filter (bK ((qs.take g).map Pd.nm))).map Hd.pod=(l.map Hd.pod).filter (λp=>!inL ((qs.take g).map Pd.nm) p.nm):=by
  intro l;rw [List.filter_map];rfl
 rw [e];refine (hp.symm.filter _).trans ?_;have Hb:qs.filter (λp=>!inL ((qs.take g).map Pd.nm) p.nm)=qs.drop g:=by
  conv=>lhs;arg 2;rw [<- List.take_append_drop g qs]
  rw [List.filter_append,List.filter_eq_nil_iff.2,List.filter_eq_self.2,List.nil_append]
  ·intro p Ha;rw [<- List.take_append_drop g qs,Qj,List.nodup_append] at hn
   have:=hn.2.2
   rw [Bool.not_eq_true',Bool.eq_false_iff];intro hm;exact this _ (zV.1 hm) _ (Qk.2 ⟨p,Ha,rfl⟩) rfl
  ·intro p Ha;rw [zV.2 (Qk.2 ⟨p,Ha,rfl⟩)]
   decide
 rw [Hb]
theorem Ng {qs:List Pd} {g:Nat} {most:Int} (hp:qs.Perm (hs.map Hd.pod)) (hn:(qs.map Pd.nm).Nodup) (hl:cO us qs most 0 g):(cP us ((qs.take g).map Pd.nm) hs hs.length<=most\/(hs.filter (bK ((qs.take g).map Pd.nm))).length=0)/\(hs.filter (bK ((qs.take g).map Pd.nm))).length+((qs.take g).map Pd.nm).length=hs.length:=by
 have hr:=Nf (g:=g) hp hn;have h1:=hr.length_eq;have h2:=hp.length_eq;have h3:=hl.hi;rw [Q9,List.length_drop] at h1;rw [Q9] at h2;refine ⟨?_,by rw [Q9,Qu];omega⟩
 by_cases hg:g<qs.length
 ·left
  have:=hl.yes hg
  unfold cP;rw [Qh];have e:((hs.filter (bK ((qs.take g).map Pd.nm))).map λh=>aH us h.pod.nm).sum=tail us qs g:=by
   unfold tail;rw [<- oR (f:=λp:Pd=>aH us p.nm) hr,List.map_map];rfl
  rw [e];exact this
 ·right;omega
end
end
section
open RowKit Shelf
open Ost (Cpu ad)
open Qos (Nd Ct Pd nd ct pd af cO aH)
open Sv (Gv Hd gv hd)
open Dvs (Dv dv aW)
open S1 (Mx)
attribute [local go_sem] Oper.semAt_some
noncomputable def zY (n:Nat):Code:=((Tryz.f7.body.bind (jb n))).getD .skip
noncomputable def px (n:Nat):Code:=((Tryz.f7.body.map i8).getD []).getD n .skip
def frP (c2 c3 c4 c11 c13 c14 c16 c17 c18 c19 c20 c21:Value) (F:Nat->Value):Act:=⟨List.toArray (F 0 :: F 1 :: c2 :: c3 :: c4 :: F 5 :: F 6 :: F 7 :: F 8 :: F 9 :: F 10 :: c11 :: F 12 :: c13 :: c14 :: F 15 :: c16 :: c17 :: c18 :: c19 :: c20 :: c21 :: F 22 :: tlS F ([]) 23 145),[]⟩
def frQ (c2 c3 c4 c11 c13 c14 c16 c17 c18 c19 c20 c21 c141:Value) (F:Nat->Value):Act:=⟨List.toArray (F 0 :: F 1 :: c2 :: c3 :: c4 :: F 5 :: F 6 :: F 7 :: F 8 :: F 9 :: F 10 :: c11 :: F 12 :: c13 :: c14 :: F 15 :: c16 :: c17 :: c18 :: c19 :: c20 :: c21 :: F 22 :: tlS F (c141 :: tlS F ([]) 142 26) 23 118),[]⟩
theorem Nh {L:List ByteArray} {k:Nat} (h:k<L.length) (nm:ByteArray):inL (L.take (k+1)) nm=(inL (L.take k) nm || decide (L.getD k ByteArray.empty=nm)):=by
 unfold inL;rw [Qa h,List.any_append];simp [h]
theorem Ni (c2 c3 c4 c11 c16 c17 c18:Value) (F:Nat->Value) (W:World) (hb ho hl lc i nc:Nat) (na:Option Addr) (L:List ByteArray) (nm:ByteArray) (hn:W.cell? ⟨hb,ho+i*4,none⟩=some (.string nm)) (hi:i<hl) (hL:0<L.length->∃ g,na=some ⟨g,0,none⟩/\g<W.heap.size/\∀ k,k<L.length->W.cell? ⟨g,k,none⟩=some (.string (L.getD k ByteArray.empty))) (hl2:L.length<=1000) :
  Code.wp Tryz.prog (Code.loop (px 3)) (ja 6 (FrS (λF=>frP c2 c3 c4 c11 (.slice (some ⟨hb,ho,none⟩) hl lc) (.slice na L.length nc) c16 c17 c18 (.int .i64 (i:Nat)) (.bool (inL L nm)) (F 21) F) (λW'=>Below W.heap.size W W'))) (frP c2 c3 c4 c11 (.slice (some ⟨hb,ho,none⟩) hl lc) (.slice na L.length nc) c16 c17 c18 (.int .i64 (i:Nat)) (.bool false) (.int .i64 0) F) W:=by
 have HL:=qI hL;have HN:=qI hn;have Hf:hb<W.heap.size:=Q3 W ⟨hb,_,none⟩ hn;clear hL hn;simp only [frP,tlS,Nat.reduceAdd]
 conv=>enter [2,1];unfold px;whnf
 go_loopw [20,21] (λbv kv wq=>∃ k:Nat,k<=L.length/\bv=.bool (inL (L.take k) nm)/\kv=.int .i64 k/\Below W.heap.size W wq) (λ_ kv _=>L.length - (intOf kv).toNat)
 case atStart=>exact ⟨0,Nat.zero_le _,rfl,rfl,Q0 _ _⟩
 case round=>
  obtain ⟨k,hk,rfl,rfl,He⟩:=hrel;have Hc:=qI He;have v0:wr.cell? ⟨hb,ho+i*4,none⟩=some (.string nm):=(He.cell (p:=⟨hb,_,none⟩) Hf).trans HN.out;clear He
  by_cases hlt:k<L.length
  ·obtain ⟨g,hg,Hg,hc⟩:=HL.out (by omega);subst hg;have Hb:=qI (Nh hlt nm);have g0:wr.cell? ⟨g,k,none⟩=some (.string (L.getD k ByteArray.empty)):=(Hc.out.cell (p:=⟨g,_,none⟩) Hg).trans (hc k hlt);clear hc;generalize L.getD k ByteArray.empty=x at *
   rcases two (inL (L.take k) nm) with Ha|Ha
   ·rw [Ha];rw [Ha,Bool.true_or] at Hb;clear Ha
    go_wp2
    go_quiet (fail)
    go_wp2
    go_roundw
    case rel=>exact ⟨k+1,by omega,by rw [Hb.out],by go_num,below_drewN Hc.out nq⟩
    case measure=>simp [intOf];omega
   ·rw [Ha];rw [Ha,Bool.false_or] at Hb;clear Ha
    by_cases hx:x=nm
    ·rw [Qc hx] at Hb;subst hx
     go_wp2
     go_quiet (fail)
     go_wp2
     go_roundw
     case rel=>exact ⟨k+1,by omega,by rw [Hb.out],by go_num,below_drewN Hc.out nq⟩
     case measure=>simp [intOf];omega
    ·rw [Q7 hx] at Hb;have Hi:=sj hx;clear hx
     go_wp2
     go_quiet (fail)
     go_wp2
     go_roundw
     case rel=>exact ⟨k+1,by omega,by rw [Hb.out],by go_num,below_drewN Hc.out nq⟩
     case measure=>simp [intOf];omega
  ·have Hh:k=L.length:=by omega
   subst Hh;rw [Qh]
   go_wp2
   exact ⟨rfl,FrS.mk (by kernel_rfl) Hc.out⟩
end
section
open RowKit Shelf
open Ost (Cpu ad)
open Qos (Nd Ct Pd nd ct pd af cO aH)
open Sv (Gv Hd gv hd)
open Dvs (Dv dv aW)
open S1 (Mx)
attribute [local go_sem] Oper.semAt_some
theorem Nj (c2 c3 c4 c11 c14 c17 c20 c21:Value) (F:Nat->Value) (W:World) (hb ho hl lc i nb no nl nlc a:Nat) (hi:i<hl) (hlc:hl<=lc) (ha:a<nl) (hnc:nl<=nlc) (hbig:lc<=maxLen/\nlc<=maxLen) (hsm:hl<=100/\nl<=100)
  (hsame:∀ V,Below W.heap.size W V->Calls Tryz.prog 24 #[.slice (some ⟨nb,no+a*4,none⟩) 1 (nlc - a),.slice (some ⟨hb,ho+i*4,none⟩) 1 (lc - i)] V λe w'=>e=.returned (.bool true)/\Below V.heap.size V w') :
  Code.wp Tryz.prog (zY 34) (eU (FrS (λF=>frQ c2 c3 c4 c11 (.slice (some ⟨hb,ho,none⟩) hl lc) c14 (.slice (some ⟨nb,no,none⟩) nl nlc) c17 (.int .i64 (a:Nat)) (.int .i64 (i:Nat)) (F 20) (F 21) (.bool false) F) (λW'=>Below W.heap.size W W'))) (frP c2 c3 c4 c11 (.slice (some ⟨hb,ho,none⟩) hl lc) c14 (.slice (some ⟨nb,no,none⟩) nl nlc) c17 (.int .i64 (a:Nat)) (.int .i64 (i:Nat)) c20 c21 F) W:=by
 have Hh:=qI hsame;have Ha:Hid (Below W.heap.size W W.drew):=a6 (Q0 _ _);unfold maxLen at hbig;have Hq:decide ((nl:Int)<=(a:Int))=false:=Q7 (by omega);have Hf:decide (nl<=a)=false:=Q7 (by omega);have Hp:IntKind.i64.wrap ((a:Int)+1)=((a+1:Nat):Int):=by rw [IntKind.wrap_i64];omega
 have Hn:IntKind.i64.wrap ((i:Int)+1)=((i+1:Nat):Int):=by rw [IntKind.wrap_i64];omega
 have Hr:(a:Int)+1<=(nlc:Int):=by omega
 have Hm:(i:Int)+1<=(lc:Int):=by omega
 have Hl:(0:Int)<=(a:Int)+1:=by omega
 have He:(0:Int)<=(i:Int)+1:=by omega
 have Hj:¬ ((a:Int)+1<0):=by omega
 have Hi:¬ ((i:Int)+1<0):=by omega
 have Hc:((a:Int)+1).toNat=a+1:=by omega
 have Hk:((i:Int)+1).toNat=i+1:=by omega
 have Hu:¬ (nlc=a):=by omega
 have Hv:¬ (lc=i):=by omega
 have hla:a+1<=nlc:=by omega
 have Ho:i+1<=lc:=by omega
 have Ht:a+1 - a=1:=by omega
 have Hs:i+1 - i=1:=by omega
 clear hsame;simp only [frP,tlS,Nat.reduceAdd]
 conv=>enter [2];unfold zY;whnf
 refine wp_region_held_drew (S:=(λ_=>True)) (by kernel_rfl) trivial (λhQ=>?_);generalize W.drew=V at *;refine tk 0 ?_;refine tk 1 ?_;refine tk 2 ?_;refine tk 3 ?_;refine tk 4 ?_;refine tk 5 ?_;refine tk 6 ?_;refine tk 7 ?_;refine tk 8 ?_;refine tk 9 ?_;refine tk 10 ?_;refine tk 11 ?_;refine tk 12 ?_;refine tk 13 ?_;refine tk 14 ?_;refine rd 15 (λK hK=>?_);go_simp
 go_wp2_with fail
 refine (Hh.out _ Ha.out).mono ?_;rintro e V2 ⟨rfl,Hb⟩;have Hg:=qI (Ha.out.trans (Hb.mono Ha.out.size));clear Hb
 go_wp2
 refine hK.out _ _ trivial (λhQ=>?_);clear hK K;refine tk 16 ?_;refine tk 17 ?_;refine Qn (by kernel_rfl) ?_ _;exact eU.mk (FrS.mk (by kernel_rfl) Hg.out)
end
section
open RowKit Shelf
open Ost (Cpu ad)
open Qos (Nd Ct Pd nd ct pd af cO aH)
open Sv (Gv Hd gv hd)
open Dvs (Dv dv aW)
open S1 (Mx)
attribute [local go_sem] Oper.semAt_some
theorem zZ {W:World} {hb ho lc i:Nat} {hs:List Hd} (h:aJ W (.slice (some ⟨hb,ho,none⟩) hs.length lc) hs) (hi:i<hs.length):aJ W (.slice (some ⟨hb,ho+i*4,none⟩) 1 (lc - i)) [hd hs i]:=by
 obtain ⟨ao,c,hv,hm,hr⟩:=h;injection hv with e1 _ e3
 subst e1 e3;obtain ⟨b,o,cv,gvv,e,Ha⟩:=hr (by omega);injection e with e
 injection e with e2 e4
 subst e2 e4;refine ⟨_,_,rfl,⟨by show 1<=lc - i;omega,by omega⟩,λ_=>⟨hb,ho+i*4,λ_=>cv i,λ_=>gvv i,rfl,Ha.1,λk hk=>?_⟩⟩;have Hb:k=0:=by simp at hk;exact hk
 subst Hb
 have:=Ha.2 i hi
 rw [Nat.zero_mul,Nat.add_zero];exact this
theorem Nk (c3 c4 c11 c20 c21:Value) (F:Nat->Value) (W:World) (lc nc nl wc uc:Nat) (la na wa ua:Option Addr) (hs:List Hd) (L:List ByteArray) (us:List Nd)
  (hh:aJ W (.slice la hs.length lc) hs) (hw:aJ W (.slice wa nl wc) (hs.filter (bK L))) (hnl:nl=(hs.filter (bK L)).length) (hL:0<L.length->∃ g,na=some ⟨g,0,none⟩/\g<W.heap.size/\∀ k,k<L.length->W.cell? ⟨g,k,none⟩=some (.string (L.getD k ByteArray.empty))) (hu:be W (.slice ua us.length uc) us) (hfu:lq us) (h12:hs.length<=12) (hl2:L.length<=1000) :
  Code.wp Tryz.prog (Code.loop (px 2)) (ja 4 (FrS (λF=>frP (.slice ua us.length uc) c3 c4 c11 (F 13) (F 14) (.slice wa nl wc) (.int .i64 (cP us L hs hs.length)) (F 18) (F 19) (F 20) (F 21) F) (λW'=>Below W.heap.size W W'))) (frP (.slice ua us.length uc) c3 c4 c11 (.slice la hs.length lc) (.slice na L.length nc) (.slice wa nl wc) (.int .i64 0) (.int .i64 0) (.int .i64 0) c20 c21 F) W:=by
 subst hnl;obtain ⟨la',lc',Hn,HA,Hx⟩:=id hh;have hla:la=la':=by injection Hn with e
 have HE:lc=lc':=by injection Hn
 subst hla HE;obtain ⟨wa',wc',Hq,Hs,Hr⟩:=id hw;have HF:wa=wa':=by injection Hq with e
 have HC:wc=wc':=by injection Hq
 subst HF HC;have HD:=qI Hx;have HL:=qI Hr;have HI:=qI hh;have HP:=qI hw;have HB:=qI hL;have HG:=qI hu;have HJ:=qI (Qos.mS hfu.2.1);have HQ:=qI (Nc (L:=L) (hs:=hs) (Qos.mS hfu.2.1));have HS:(hs.filter (bK L)).length<=hs.length:=List.length_filter_le ..;clear Hn Hx Hq Hr hh hw hL hu hfu
 conv=>enter [2,1];unfold px;whnf
 refine pk (λm a wq=>∃ (i:Nat) (av tv iv:Value),m+i=hs.length/\iv=.int .i64 i/\tv=.int .i64 (eV L hs i:Nat)/\av=.int .i64 (cP us L hs i)/\FrS (λF=>frP (.slice ua us.length uc) c3 c4 c11 (.slice la hs.length lc) (.slice na L.length nc) (.slice wa (hs.filter (bK L)).length wc) (av) (tv) (iv) (F 20) (F 21) F) (λwq=>Below W.heap.size W wq) a wq) hs.length ?_ ?_
 ·exact ⟨0,.int .i64 0,.int .i64 0,.int .i64 0,rfl,rfl,rfl,rfl,FrS.mk (by kernel_rfl) (Q0 _ _)⟩
 ·rintro m a wr ⟨i,av,tv,iv,HT,rfl,rfl,rfl,F7,rfl,Hf⟩ K hK;have He:=qI Hf;clear Hf;simp only [frP,tlS,Nat.reduceAdd]
  by_cases hli:i<hs.length
  ·obtain ⟨hb,ho,cvv,gvv,Hl,Ha⟩:=HD.out (by omega);subst Hl;have Hy:=(Ha.2 i hli).1.1;have Hv:=Ha.1;clear Ha cvv gvv;have Hu:=qI Hy;clear Hy;have Hk:=qI (zW (us:=us) (L:=L) hli);have Hm:=qI (zX (us:=us) (L:=L) hli);have Ho:=qI (Nb (L:=L) hli);have HV:=HJ.out (hd hs i).pod.nm;have HU:=HQ.out i;have Hh:Hid (bK L (hd hs i)=!inL L (hd hs i).pod.nm):=rfl
   go_wp2_with fail
   refine jQ (G:=λF=>frP (.slice ua us.length uc) c3 c4 c11 (.slice (some ⟨hb,ho,none⟩) hs.length lc) (.slice na L.length nc) (.slice wa (hs.filter (bK L)).length wc) (.int .i64 (cP us L hs i)) (.int .i64 (eV L hs i:Nat)) (.int .i64 (i:Nat)) (.bool false) (.int .i64 0) F) (by kernel_rfl) (λF1=>Ni _ _ _ _ _ _ _ F1 wr hb ho hs.length lc i nc na L (hd hs i).pod.nm ((He.out.cell (p:=⟨hb,_,none⟩) Hv).trans Hu.out) hli (λh0=>by
    obtain ⟨g,h1,h2,h3⟩:=HB.out h0;exact ⟨g,h1,Q1 h2 He.out.size,λk hk=>(He.out.cell (p:=⟨g,_,none⟩) h2).trans (h3 k hk)⟩) hl2) ?_
   rintro a W2 ⟨F1,rfl,Hi⟩;have Hg:=qI (He.out.trans (Hi.mono He.out.size));clear Hi;simp only [frP,tlS,Nat.reduceAdd]
   rcases two (inL L (hd hs i).pod.nm) with Ha|Ha
   ·have Hc:bK L (hd hs i)=false:=by rw [Hh.out,Ha];rfl
    have HN:=qI (Hm.out Hc);rw [Ha];clear Ha Hc Hk Hm Ho Hh
    go_wp2
    refine hK.out _ _ ⟨m - 1,by omega,i+1,.int .i64 (cP us L hs i),.int .i64 (eV L hs i:Nat),.int .i64 ((i:Int)+1),by omega,by go_num,by rw [HN.out.1],by rw [HN.out.2],FrS.mk (by kernel_rfl) Hg.out⟩
   ·have Hc:bK L (hd hs i)=true:=by rw [Hh.out,Ha];rfl
    have HY:=qI (Hk.out Hc);obtain ⟨Hw,Ht⟩:=Ho.out Hc;rw [Ha];clear Ha Hc Hk Hm Ho Hh;obtain ⟨nb,no,cvv,gvv,Hl,Hj⟩:=HL.out (by omega);subst Hl;clear Hj cvv gvv;have HO:=qI Ht;clear Ht;have Hb:Hid (∀ V,Below W2.heap.size W2 V->Calls Tryz.prog 24 #[.slice (some ⟨nb,no+eV L hs i*4,none⟩) 1 (wc - eV L hs i),.slice (some ⟨hb,ho+i*4,none⟩) 1 (lc - i)] V λe w'=>e=.returned (.bool true)/\Below V.heap.size V w'):=λV hbv=>by
     have Hf:=Hg.out.trans (hbv.mono Hg.out.size);have s1:=(zZ HP.out Hw).le (aq.of_below Hf);have s2:=(zZ HI.out hli).le (aq.of_below Hf);rw [HO.out] at s1;refine (GQ _ _ _ _ V s1 s2).mono ?_;rintro e w' ⟨b,rfl,HM,Hi⟩;rw [HM rfl];exact ⟨rfl,Hi⟩
    generalize eV L hs i=a at *
    go_upto_region 34 with fail
    refine nA (G:=λF=>frP (.slice ua us.length uc) c3 c4 c11 (.slice (some ⟨hb,ho,none⟩) hs.length lc) (.slice na L.length nc) (.slice (some ⟨nb,no,none⟩) (hs.filter (bK L)).length wc) (.int .i64 (cP us L hs i)) (.int .i64 (a:Nat)) (.int .i64 (i:Nat)) (F 20) (F 21) F) (by kernel_rfl) (λF2=>Nj _ _ _ _ _ _ _ _ F2 W2 hb ho hs.length lc i nb no (hs.filter (bK L)).length wc a hli HA.1 Hw Hs.1 ⟨HA.2,Hs.2⟩ ⟨by omega,by omega⟩ Hb.out) ?_;rintro a3 W3 ⟨F2,rfl,Hz⟩;have Hp:=qI (Hg.out.trans (Hz.mono Hg.out.size));clear Hz Hb;have q0:W3.cell? ⟨hb,ho+i*4,none⟩=some (.string (hd hs i).pod.nm):=(Hp.out.cell (p:=⟨hb,_,none⟩) Hv).trans Hu.out;have HK:=qI (Ku (.slice ua us.length uc) us (hd hs i).pod.nm W3 (HG.out.below Hp.out));have HR:wrap64 (cP us L hs i+aH us (hd hs i).pod.nm)=cP us L hs i+aH us (hd hs i).pod.nm:=by unfold wrap64;omega
    simp only [frQ,tlS,Nat.reduceAdd]
    go_wp2_with fail
    refine HK.out.mono ?_;rintro e W4 ⟨rfl,rfl⟩
    go_wp2
    refine hK.out _ _ ⟨m - 1,by omega,i+1,.int .i64 (cP us L hs i+aH us (hd hs i).pod.nm),.int .i64 ((a:Int)+1),.int .i64 ((i:Int)+1),by omega,by go_num,by rw [HY.out.1];go_num,by rw [HY.out.2],FrS.mk (by kernel_rfl) Hp.out⟩
  ·have HH:i=hs.length:=by omega
   subst HH
   go_wp2
   exact ⟨rfl,FrS.mk (by kernel_rfl) He.out⟩
end
