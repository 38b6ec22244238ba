import Derived.Test.YtbmmnflgnmjboaaGreatDoorR36
import Derived.Test.YtbmmnflgnmjboaaGreatDoorR35
set_option maxRecDepth 100000
set_option maxHeartbeats 16000000
open Go.Proofs.Tryz
namespace Go.Proofs.YtbmmnflgnmjboaaGreatDoor
section
open Qos (Nd Ct Pd nd ct pd af cO aH tail)
open Sv (Gv Hd gv hd)
def inL (L:List ByteArray) (nm:ByteArray):Bool:=L.any λa=>decide (a=nm)
theorem zV {L:List ByteArray} {nm:ByteArray}:inL L nm=true↔nm∈L:=by
 unfold inL;rw [List.any_eq_true];exact ⟨λ⟨a,h1,h2⟩=>(of_decide_eq_true h2) ▸ h1,λh=>⟨nm,h,Qc rfl⟩⟩
def bK (L:List ByteArray) (h:Hd):Bool:=!inL L h.pod.nm
theorem Na:∀ (L:List ByteArray) (hs:List Hd),bW hs L=hs.filter (bK L):=by
 intro L
 induction L with
 | nil=>intro hs;exact (List.filter_eq_self.2 λx _=>rfl).symm
 | cons a L ih=>
  intro hs
  show bW (Ol.eQ hs a) L=_
  rw [ih,Ol.eQ,List.filter_filter];refine List.filter_congr λx _=>?_
  unfold bK inL;rw [List.any_cons,Bool.not_or,Bool.and_comm]
  congr 1
  by_cases h1:x.pod.nm=a
  ·simp [h1]
  ·simp [h1,Ne.symm h1]
def eV (L:List ByteArray) (hs:List Hd) (i:Nat):Nat:=((hs.take i).filter (bK L)).length
def cP (us:List Nd) (L:List ByteArray) (hs:List Hd) (i:Nat):Int:=(((hs.take i).filter (bK L)).map λh=>aH us h.pod.nm).sum
section
variable {us:List Nd} {L:List ByteArray} {hs:List Hd} {i:Nat}
theorem sO (h:i<hs.length):hs.take (i+1)=hs.take i++[hd hs i]:=by
 rw [Qa h];simp [hd,h]
theorem zW (h:i<hs.length) (hb:bK L (hd hs i)=true):eV L hs (i+1)=eV L hs i+1/\cP us L hs (i+1)=cP us L hs i+aH us (hd hs i).pod.nm:=by
 unfold eV cP;rw [sO h,List.filter_append,List.filter_cons_of_pos hb]
 simp
theorem zX (h:i<hs.length) (hb:bK L (hd hs i)=false):eV L hs (i+1)=eV L hs i/\cP us L hs (i+1)=cP us L hs i:=by
 unfold eV cP;rw [sO h,List.filter_append,List.filter_cons_of_neg (by rw [hb];decide)]
 simp
theorem Nb (h:i<hs.length) (hb:bK L (hd hs i)=true):eV L hs i<(hs.filter (bK L)).length/\hd (hs.filter (bK L)) (eV L hs i)=hd hs i:=by
 have e:hs.filter (bK L)=(hs.take i).filter (bK L)++hd hs i :: (hs.drop (i+1)).filter (bK L):=by
  conv=>lhs;rw [<- List.take_append_drop (i+1) hs,sO h,List.append_assoc,List.filter_append]
  rw [List.singleton_append,List.filter_cons_of_pos hb]
 unfold eV;rw [e];refine ⟨by simp,?_⟩;unfold hd
 simp
theorem Nc (hm:∀ nm,-1125899906842624<=aH us nm/\aH us nm<=1125899906842624):∀ i,-1125899906842624*i<=cP us L hs i/\cP us L hs i<=1125899906842624*i:=by
 intro i
 induction i with
 | zero=>simp [cP]
 | succ i ih=>
  by_cases h:i<hs.length
  ·cases hb:bK L (hd hs i) with
   | true=>rw [(zW h hb).2];have:=hm (hd hs i).pod.nm;omega
   | false=>rw [(zX h hb).2];omega
  ·have:cP us L hs (i+1)=cP us L hs i:=by
    unfold cP;rw [List.take_of_length_le (by omega),List.take_of_length_le (by omega)]
   omega
theorem oR {α:Type} {f:α->Int} {a b:List α} (h:a.Perm b):(a.map f).sum=(b.map f).sum:=by
 induction h with
 | nil=>rfl
 | cons x _ ih=>rw [Qq,Qq,List.sum_cons,List.sum_cons,ih]
 | swap x y l=>simp only [Qq,List.sum_cons];omega
 | trans _ _ h1 h2=>exact h1.trans h2
theorem Nf {qs:List Pd} {g:Nat} (hp:qs.Perm (hs.map Hd.pod)) (hn:(qs.map Pd.nm).Nodup):((hs.filter (bK ((qs.take g).map Pd.nm))).map Hd.pod).Perm (qs.drop g):=by
 have e:∀ l:List Hd,(l.filter (bK ((qs.take g).map Pd.nm))).map Hd.pod=(l.map Hd.pod).filter (λp=>!inL ((qs.take g).map Pd.nm) p.nm):=by
  intro l;rw [List.filter_map];rfl
 rw [e];refine (hp.symm.filter _).trans ?_;have Hb:qs.filter (λp=>!inL ((qs.take g).map Pd.nm) p.nm)=qs.drop g:=by
  conv=>lhs;arg 2;rw [<- List.take_append_drop g qs]
  rw [List.filter_append,List.filter_eq_nil_iff.2,List.filter_eq_self.2,List.nil_append]
  ·intro p Ha;rw [<- List.take_append_drop g qs,Qj,List.nodup_append] at hn
   have:=hn.2.2
   rw [Bool.not_eq_true',Bool.eq_false_iff];intro hm;exact this _ (zV.1 hm) _ (Qk.2 ⟨p,Ha,rfl⟩) rfl
  ·intro p Ha;rw [zV.2 (Qk.2 ⟨p,Ha,rfl⟩)]
   decide
 rw [Hb]
theorem Ng {qs:List Pd} {g:Nat} {most:Int} (hp:qs.Perm (hs.map Hd.pod)) (hn:(qs.map Pd.nm).Nodup) (hl:cO us qs most 0 g):(cP us ((qs.take g).map Pd.nm) hs hs.length<=most\/(hs.filter (bK ((qs.take g).map Pd.nm))).length=0)/\(hs.filter (bK ((qs.take g).map Pd.nm))).length+((qs.take g).map Pd.nm).length=hs.length:=by
 have hr:=Nf (g:=g) hp hn;have h1:=hr.length_eq;have h2:=hp.length_eq;have h3:=hl.hi;rw [Q9,List.length_drop] at h1;rw [Q9] at h2;refine ⟨?_,by rw [Q9,Qu];omega⟩
 by_cases hg:g<qs.length
 ·left
  have:=hl.yes hg
  unfold cP;rw [Qh];have e:((hs.filter (bK ((qs.take g).map Pd.nm))).map λh=>aH us h.pod.nm).sum=tail us qs g:=by
   unfold tail;rw [<- oR (f:=λp:Pd=>aH us p.nm) hr,List.map_map];rfl
  rw [e];exact this
 ·right;omega
end
end
section
open RowKit Shelf
open Ost (Cpu ad)
open Qos (Nd Ct Pd nd ct pd af cO aH)
open Sv (Gv Hd gv hd)
open Dvs (Dv dv aW)
open S1 (Mx)
attribute [local go_sem] Oper.semAt_some
noncomputable def zY (n:Nat):Code:=((Tryz.f7.body.bind (jb n))).getD .skip
noncomputable def px (n:Nat):Code:=((Tryz.f7.body.map i8).getD []).getD n .skip
def frP (c2 c3 c4 c11 c13 c14 c16 c17 c18 c19 c20 c21:Value) (F:Nat->Value):Act:=⟨List.toArray (F 0 :: F 1 :: c2 :: c3 :: c4 :: F 5 :: F 6 :: F 7 :: F 8 :: F 9 :: F 10 :: c11 :: F 12 :: c13 :: c14 :: F 15 :: c16 :: c17 :: c18 :: c19 :: c20 :: c21 :: F 22 :: tlS F ([]) 23 145),[]⟩
def frQ (c2 c3 c4 c11 c13 c14 c16 c17 c18 c19 c20 c21 c141:Value) (F:Nat->Value):Act:=⟨List.toArray (F 0 :: F 1 :: c2 :: c3 :: c4 :: F 5 :: F 6 :: F 7 :: F 8 :: F 9 :: F 10 :: c11 :: F 12 :: c13 :: c14 :: F 15 :: c16 :: c17 :: c18 :: c19 :: c20 :: c21 :: F 22 :: tlS F (c141 :: tlS F ([]) 142 26) 23 118),[]⟩
theorem Nh {L:List ByteArray} {k:Nat} (h:k<L.length) (nm:ByteArray):inL (L.take (k+1)) nm=(inL (L.take k) nm || decide (L.getD k ByteArray.empty=nm)):=by
 unfold inL;rw [Qa h,List.any_append];simp [h]
theorem Ni (c2 c3 c4 c11 c16 c17 c18:Value) (F:Nat->Value) (W:World) (hb ho hl lc i nc:Nat) (na:Option Addr) (L:List ByteArray) (nm:ByteArray) (hn:W.cell? ⟨hb,ho+i*4,none⟩=some (.string nm)) (hi:i<hl) (hL:0<L.length->∃ g,na=some ⟨g,0,none⟩/\g<W.heap.size/\∀ k,k<L.length->W.cell? ⟨g,k,none⟩=some (.string (L.getD k ByteArray.empty))) (hl2:L.length<=1000) :
  Code.wp prog (Code.loop (px 3)) (ja 6 (FrS (λF=>frP c2 c3 c4 c11 (.slice (some ⟨hb,ho,none⟩) hl lc) (.slice na L.length nc) c16 c17 c18 (.int .i64 (i:Nat)) (.bool (inL L nm)) (F 21) F) λW'=>Below W.heap.size W W')) (frP c2 c3 c4 c11 (.slice (some ⟨hb,ho,none⟩) hl lc) (.slice na L.length nc) c16 c17 c18 (.int .i64 (i:Nat)) (.bool false) (.int .i64 0) F) W:=by
 have HL:=qI hL;have HN:=qI hn;have Hf:hb<W.heap.size:=Q3 W ⟨hb,_,none⟩ hn;clear hL hn;simp only [frP,tlS,Nat.reduceAdd]
 conv=>enter [2,1];unfold px;whnf
 go_loopw [20,21] (λbv kv wq=>∃ k:Nat,k<=L.length/\bv=.bool (inL (L.take k) nm)/\kv=.int .i64 k/\Below W.heap.size W wq) (λ_ kv _=>L.length - (intOf kv).toNat)
 case atStart=>exact ⟨0,Nat.zero_le _,rfl,rfl,Q0 _ _⟩
 case round=>
  obtain ⟨k,hk,rfl,rfl,He⟩:=hrel;have Hc:=qI He;have v0:wr.cell? ⟨hb,ho+i*4,none⟩=some (.string nm):=(He.cell (p:=⟨hb,_,none⟩) Hf).trans HN.out;clear He
  by_cases hlt:k<L.length
  ·obtain ⟨g,hg,Hg,hc⟩:=HL.out (by omega);subst hg;have Hb:=qI (Nh hlt nm);have g0:wr.cell? ⟨g,k,none⟩=some (.string (L.getD k ByteArray.empty)):=(Hc.out.cell (p:=⟨g,_,none⟩) Hg).trans (hc k hlt);clear hc;generalize L.getD k ByteArray.empty=x at *
   rcases two (inL (L.take k) nm) with Ha|Ha
   ·rw [Ha];rw [Ha,Bool.true_or] at Hb;clear Ha
    go_wp2
    go_quiet (fail)
    go_wp2
    go_roundw
    case rel=>exact ⟨k+1,by omega,by rw [Hb.out],by go_num,below_drewN Hc.out nq⟩
    case measure=>simp [intOf];omega
   ·rw [Ha];rw [Ha,Bool.false_or] at Hb;clear Ha
    by_cases hx:x=nm
    ·rw [Qc hx] at Hb;subst hx
     go_wp2
     go_quiet (fail)
     go_wp2
     go_roundw
     case rel=>exact ⟨k+1,by omega,by rw [Hb.out],by go_num,below_drewN Hc.out nq⟩
     case measure=>simp [intOf];omega
    ·rw [Q7 hx] at Hb;have Hi:=sj hx;clear hx
     go_wp2
     go_quiet (fail)
     go_wp2
     go_roundw
     case rel=>exact ⟨k+1,by omega,by rw [Hb.out],by go_num,below_drewN Hc.out nq⟩
     case measure=>simp [intOf];omega
  ·have Hh:k=L.length:=by omega
   subst Hh;rw [Qh]
   go_wp2
   exact ⟨rfl,FrS.mk (by kernel_rfl) Hc.out⟩
end
section
open RowKit Shelf
open Ost (Cpu ad)
open Qos (Nd Ct Pd nd ct pd af cO aH)
open Sv (Gv Hd gv hd)
open Dvs (Dv dv aW)
open S1 (Mx)
attribute [local go_sem] Oper.semAt_some
theorem Nj (c2 c3 c4 c11 c14 c17 c20 c21:Value) (F:Nat->Value) (W:World) (hb ho hl lc i nb no nl nlc a:Nat) (hi:i<hl) (hlc:hl<=lc) (ha:a<nl) (hnc:nl<=nlc) (hbig:lc<=maxLen/\nlc<=maxLen) (hsm:hl<=100/\nl<=100)
  (hsame:∀ V,Below W.heap.size W V->Calls prog 24 #[.slice (some ⟨nb,no+a*4,none⟩) 1 (nlc - a),.slice (some ⟨hb,ho+i*4,none⟩) 1 (lc - i)] V λe w'=>e=.returned (.bool true)/\Below V.heap.size V w') :
  Code.wp prog (zY 34) (eU (FrS (λF=>frQ c2 c3 c4 c11 (.slice (some ⟨hb,ho,none⟩) hl lc) c14 (.slice (some ⟨nb,no,none⟩) nl nlc) c17 (.int .i64 (a:Nat)) (.int .i64 (i:Nat)) (F 20) (F 21) (.bool false) F) λW'=>Below W.heap.size W W')) (frP c2 c3 c4 c11 (.slice (some ⟨hb,ho,none⟩) hl lc) c14 (.slice (some ⟨nb,no,none⟩) nl nlc) c17 (.int .i64 (a:Nat)) (.int .i64 (i:Nat)) c20 c21 F) W:=by
 have Hh:=qI hsame;have Ha:Hid (Below W.heap.size W W.drew):=a6 (Q0 _ _);unfold maxLen at hbig;have Hq:decide ((nl:Int)<=(a:Int))=false:=Q7 (by omega);have Hf:decide (nl<=a)=false:=Q7 (by omega);have Hp:IntKind.i64.wrap ((a:Int)+1)=((a+1:Nat):Int):=by rw [IntKind.wrap_i64];omega
 have Hn:IntKind.i64.wrap ((i:Int)+1)=((i+1:Nat):Int):=by rw [IntKind.wrap_i64];omega
 have Hr:(a:Int)+1<=(nlc:Int):=by omega
 have Hm:(i:Int)+1<=(lc:Int):=by omega
 have Hl:(0:Int)<=(a:Int)+1:=by omega
 have He:(0:Int)<=(i:Int)+1:=by omega
 have Hj:¬ ((a:Int)+1<0):=by omega
 have Hi:¬ ((i:Int)+1<0):=by omega
 have Hc:((a:Int)+1).toNat=a+1:=by omega
 have Hk:((i:Int)+1).toNat=i+1:=by omega
 have Hu:¬ (nlc=a):=by omega
 have Hv:¬ (lc=i):=by omega
 have hla:a+1<=nlc:=by omega
 have Ho:i+1<=lc:=by omega
 have Ht:a+1 - a=1:=by omega
 have Hs:i+1 - i=1:=by omega
 clear hsame;simp only [frP,tlS,Nat.reduceAdd]
 conv=>enter [2];unfold zY;whnf
 refine wp_region_held_drew (S:=(λ_=>True)) (by kernel_rfl) trivial λhQ=>?_;generalize W.drew=V at *;refine tk 0 ?_;refine tk 1 ?_;refine tk 2 ?_;refine tk 3 ?_;refine tk 4 ?_;refine tk 5 ?_;refine tk 6 ?_;refine tk 7 ?_;refine tk 8 ?_;refine tk 9 ?_;refine tk 10 ?_;refine tk 11 ?_;refine tk 12 ?_;refine tk 13 ?_;refine tk 14 ?_;refine rd 15 λK hK=>?_;go_simp
 go_wp2_with fail
 refine (Hh.out _ Ha.out).mono ?_;rintro e V2 ⟨rfl,Hb⟩;have Hg:=qI (Ha.out.trans (Hb.mono Ha.out.size));clear Hb
 go_wp2
 refine hK.out _ _ trivial λhQ=>?_;clear hK K;refine tk 16 ?_;refine tk 17 ?_;refine Qn (by kernel_rfl) ?_ _;exact eU.mk (FrS.mk (by kernel_rfl) Hg.out)
end
section
open RowKit Shelf
open Ost (Cpu ad)
open Qos (Nd Ct Pd nd ct pd af cO aH)
open Sv (Gv Hd gv hd)
open Dvs (Dv dv aW)
open S1 (Mx)
attribute [local go_sem] Oper.semAt_some
theorem zZ {W:World} {hb ho lc i:Nat} {hs:List Hd} (h:aJ W (.slice (some ⟨hb,ho,none⟩) hs.length lc) hs) (hi:i<hs.length):aJ W (.slice (some ⟨hb,ho+i*4,none⟩) 1 (lc - i)) [hd hs i]:=by
 obtain ⟨ao,c,hv,hm,hr⟩:=h;injection hv with e1 _ e3
 subst e1 e3;obtain ⟨b,o,cv,gvv,e,Ha⟩:=hr (by omega);injection e with e
 injection e with e2 e4
 subst e2 e4;refine ⟨_,_,rfl,⟨by show 1<=lc - i;omega,by omega⟩,λ_=>⟨hb,ho+i*4,λ_=>cv i,λ_=>gvv i,rfl,Ha.1,λk hk=>?_⟩⟩;have Hb:k=0:=by simp at hk;exact hk
 subst Hb
 have:=Ha.2 i hi
 rw [Nat.zero_mul,Nat.add_zero];exact this
theorem Nk (c3 c4 c11 c20 c21:Value) (F:Nat->Value) (W:World) (lc nc nl wc uc:Nat) (la na wa ua:Option Addr) (hs:List Hd) (L:List ByteArray) (us:List Nd)
  (hh:aJ W (.slice la hs.length lc) hs) (hw:aJ W (.slice wa nl wc) (hs.filter (bK L))) (hnl:nl=(hs.filter (bK L)).length) (hL:0<L.length->∃ g,na=some ⟨g,0,none⟩/\g<W.heap.size/\∀ k,k<L.length->W.cell? ⟨g,k,none⟩=some (.string (L.getD k ByteArray.empty))) (hu:be W (.slice ua us.length uc) us) (hfu:lq us) (h12:hs.length<=12) (hl2:L.length<=1000) :
  Code.wp prog (Code.loop (px 2)) (ja 4 (FrS (λF=>frP (.slice ua us.length uc) c3 c4 c11 (F 13) (F 14) (.slice wa nl wc) (.int .i64 (cP us L hs hs.length)) (F 18) (F 19) (F 20) (F 21) F) λW'=>Below W.heap.size W W')) (frP (.slice ua us.length uc) c3 c4 c11 (.slice la hs.length lc) (.slice na L.length nc) (.slice wa nl wc) (.int .i64 0) (.int .i64 0) (.int .i64 0) c20 c21 F) W:=by
 subst hnl;obtain ⟨la',lc',Hn,HA,Hx⟩:=id hh;have hla:la=la':=by injection Hn with e
 have HE:lc=lc':=by injection Hn
 subst hla HE;obtain ⟨wa',wc',Hq,Hs,Hr⟩:=id hw;have HF:wa=wa':=by injection Hq with e
 have HC:wc=wc':=by injection Hq
 subst HF HC;have HD:=qI Hx;have HL:=qI Hr;have HI:=qI hh;have HP:=qI hw;have HB:=qI hL;have HG:=qI hu;have HJ:=qI (Qos.mS hfu.2.1);have HQ:=qI (Nc (L:=L) (hs:=hs) (Qos.mS hfu.2.1));have HS:(hs.filter (bK L)).length<=hs.length:=List.length_filter_le ..;clear Hn Hx Hq Hr hh hw hL hu hfu
 conv=>enter [2,1];unfold px;whnf
 refine pk (λm a wq=>∃ (i:Nat) (av tv iv:Value),m+i=hs.length/\iv=.int .i64 i/\tv=.int .i64 (eV L hs i:Nat)/\av=.int .i64 (cP us L hs i)/\FrS (λF=>frP (.slice ua us.length uc) c3 c4 c11 (.slice la hs.length lc) (.slice na L.length nc) (.slice wa (hs.filter (bK L)).length wc) (av) (tv) (iv) (F 20) (F 21) F) (λwq=>Below W.heap.size W wq) a wq) hs.length ?_ ?_
 ·exact ⟨0,.int .i64 0,.int .i64 0,.int .i64 0,rfl,rfl,rfl,rfl,FrS.mk (by kernel_rfl) (Q0 _ _)⟩
 ·rintro m a wr ⟨i,av,tv,iv,HT,rfl,rfl,rfl,F7,rfl,Hf⟩ K hK;have He:=qI Hf;clear Hf;simp only [frP,tlS,Nat.reduceAdd]
  by_cases hli:i<hs.length
  ·obtain ⟨hb,ho,cvv,gvv,Hl,Ha⟩:=HD.out (by omega);subst Hl;have Hy:=(Ha.2 i hli).1.1;have Hv:=Ha.1;clear Ha cvv gvv;have Hu:=qI Hy;clear Hy;have Hk:=qI (zW (us:=us) (L:=L) hli);have Hm:=qI (zX (us:=us) (L:=L) hli);have Ho:=qI (Nb (L:=L) hli);have HV:=HJ.out (hd hs i).pod.nm;have HU:=HQ.out i;have Hh:Hid (bK L (hd hs i)=!inL L (hd hs i).pod.nm):=rfl
   go_wp2_with fail
   refine jQ (G:=λF=>frP (.slice ua us.length uc) c3 c4 c11 (.slice (some ⟨hb,ho,none⟩) hs.length lc) (.slice na L.length nc) (.slice wa (hs.filter (bK L)).length wc) (.int .i64 (cP us L hs i)) (.int .i64 (eV L hs i:Nat)) (.int .i64 (i:Nat)) (.bool false) (.int .i64 0) F) (by kernel_rfl) (λF1=>Ni _ _ _ _ _ _ _ F1 wr hb ho hs.length lc i nc na L (hd hs i).pod.nm ((He.out.cell (p:=⟨hb,_,none⟩) Hv).trans Hu.out) hli (λh0=>by
    obtain ⟨g,h1,h2,h3⟩:=HB.out h0;exact ⟨g,h1,Q1 h2 He.out.size,λk hk=>(He.out.cell (p:=⟨g,_,none⟩) h2).trans (h3 k hk)⟩) hl2) ?_
   rintro a W2 ⟨F1,rfl,Hi⟩;have Hg:=qI (He.out.trans (Hi.mono He.out.size));clear Hi;simp only [frP,tlS,Nat.reduceAdd]
   rcases two (inL L (hd hs i).pod.nm) with Ha|Ha
   ·have Hc:bK L (hd hs i)=false:=by rw [Hh.out,Ha];rfl
    have HN:=qI (Hm.out Hc);rw [Ha];clear Ha Hc Hk Hm Ho Hh
    go_wp2
    refine hK.out _ _ ⟨m - 1,by omega,i+1,.int .i64 (cP us L hs i),.int .i64 (eV L hs i:Nat),.int .i64 ((i:Int)+1),by omega,by go_num,by rw [HN.out.1],by rw [HN.out.2],FrS.mk (by kernel_rfl) Hg.out⟩
   ·have Hc:bK L (hd hs i)=true:=by rw [Hh.out,Ha];rfl
    have HY:=qI (Hk.out Hc);obtain ⟨Hw,Ht⟩:=Ho.out Hc;rw [Ha];clear Ha Hc Hk Hm Ho Hh;obtain ⟨nb,no,cvv,gvv,Hl,Hj⟩:=HL.out (by omega);subst Hl;clear Hj cvv gvv;have HO:=qI Ht;clear Ht;have Hb:Hid (∀ V,Below W2.heap.size W2 V->Calls prog 24 #[.slice (some ⟨nb,no+eV L hs i*4,none⟩) 1 (wc - eV L hs i),.slice (some ⟨hb,ho+i*4,none⟩) 1 (lc - i)] V λe w'=>e=.returned (.bool true)/\Below V.heap.size V w'):=λV hbv=>by
     have Hf:=Hg.out.trans (hbv.mono Hg.out.size);have s1:=(zZ HP.out Hw).le (aq.of_below Hf);have s2:=(zZ HI.out hli).le (aq.of_below Hf);rw [HO.out] at s1;refine (GQ _ _ _ _ V s1 s2).mono ?_;rintro e w' ⟨b,rfl,HM,Hi⟩;rw [HM rfl];exact ⟨rfl,Hi⟩
    generalize eV L hs i=a at *
    go_upto_region 34 with fail
    refine nA (G:=λF=>frP (.slice ua us.length uc) c3 c4 c11 (.slice (some ⟨hb,ho,none⟩) hs.length lc) (.slice na L.length nc) (.slice (some ⟨nb,no,none⟩) (hs.filter (bK L)).length wc) (.int .i64 (cP us L hs i)) (.int .i64 (a:Nat)) (.int .i64 (i:Nat)) (F 20) (F 21) F) (by kernel_rfl) (λF2=>Nj _ _ _ _ _ _ _ _ F2 W2 hb ho hs.length lc i nb no (hs.filter (bK L)).length wc a hli HA.1 Hw Hs.1 ⟨HA.2,Hs.2⟩ ⟨by omega,by omega⟩ Hb.out) ?_;rintro a3 W3 ⟨F2,rfl,Hz⟩;have Hp:=qI (Hg.out.trans (Hz.mono Hg.out.size));clear Hz Hb;have q0:W3.cell? ⟨hb,ho+i*4,none⟩=some (.string (hd hs i).pod.nm):=(Hp.out.cell (p:=⟨hb,_,none⟩) Hv).trans Hu.out;have HK:=qI (Ku (.slice ua us.length uc) us (hd hs i).pod.nm W3 (HG.out.below Hp.out));have HR:wrap64 (cP us L hs i+aH us (hd hs i).pod.nm)=cP us L hs i+aH us (hd hs i).pod.nm:=by unfold wrap64;omega
    simp only [frQ,tlS,Nat.reduceAdd]
    go_wp2_with fail
    refine HK.out.mono ?_;rintro e W4 ⟨rfl,rfl⟩
    go_wp2
    refine hK.out _ _ ⟨m - 1,by omega,i+1,.int .i64 (cP us L hs i+aH us (hd hs i).pod.nm),.int .i64 ((a:Int)+1),.int .i64 ((i:Int)+1),by omega,by go_num,by rw [HY.out.1];go_num,by rw [HY.out.2],FrS.mk (by kernel_rfl) Hp.out⟩
  ·have HH:i=hs.length:=by omega
   subst HH
   go_wp2
   exact ⟨rfl,FrS.mk (by kernel_rfl) He.out⟩
end
section
open RowKit Shelf
open Qos (Nd Ct Pd nd ct pd af aA)
open Sv (Gv Hd gv hd)
open Dvs (Dv dv nth aL)
attribute [local go_sem] Oper.semAt_some
structure Aa (x:Ct) (g:Gv):Prop where
 sum:∀ j,j<=x.ds.length->0<=fu x.ds j/\fu x.ds j<=1000
 many:fu x.ds x.ds.length=g.dv.length
 few:x.ds.length<=1000
 devs:g.dv.length<=16
 am:0<=x.am/\x.am<=1000000
theorem nE {K:Nat->Prop} {F0 W W':World} (h:aq F0 W) (ha:Apart K W W') (hK:∀ j o,K j->F0.cell? ⟨j,o,none⟩=none):aq F0 W':=
 ⟨Q5 h.size ha.size,λb o v e=>by
  have h1:=h.cell b o v e
  by_cases hk:K b
  ·rw [hK b o hk] at e;cases e
  ·exact (jN (ha.block b (Q3 W ⟨b,o,none⟩ h1) hk) o).trans h1⟩
theorem Ab {K:Nat->Prop} {W W':World} {B:Nat} {f:Nat->Bool} (h:bR W B f) (ha:Apart K W W') (hK:¬ K B):bR W' B f:=λj hj=>by
 have hb:=ha.block B h.lt hK;refine ⟨(jN hb _).trans (h j hj).1,?_⟩
 have:=(h j hj).2
 unfold World.frozen? at *;dsimp only at *;rw [hb];exact this
theorem Nl {F0:World} {base:Nat} (h:F0.heap.size<=base) {j:Nat} (hj:base<=j) (o:Nat):F0.cell? ⟨j,o,none⟩=none:=by
 cases e:F0.cell? ⟨j,o,none⟩ with
 | none=>rfl
 | some v=>
  have:=Q3 F0 ⟨j,o,none⟩ e
  have:j<F0.heap.size:=this
  omega
theorem Nn (c2 c8 c17 c18 c19 c20:Value) (F:Nat->Value) (F0 X:World) (base Bp Bi hb ho hl lc i:Nat) (wa:Option Addr) (wc:Nat) (x:Hd) (pa ga:Option Addr) (pcc gc:Nat) (ds:List Dv) (S:Nat->Ol.Sk) (pv0:Value) (zs:List (RV × Rn)) (rp:List Rn)
  (hle:aq F0 X) (hbs:F0.heap.size<=base) (hbX:base<=X.heap.size) (hBp:base<=Bp) (hBi:Bi<base) (hfree:∀ o,F0.cell? ⟨Bi,o,none⟩=none) (hpx:X.heap[Bp]?=some (.cells #[.string x.pod.nm,.int .i64 x.pod.pr,.slice pa x.pod.cs.length pcc] 47)) (hcon:aE F0 (.slice pa x.pod.cs.length pcc) x.pod.cs) (hgc:F0.cell? ⟨hb,ho+i*4+3,none⟩=some (.slice ga x.gs.length gc)) (hgiv:bz F0 (.slice ga x.gs.length gc) x.gs) (hgl:x.gs.length=x.pod.cs.length) (h3:x.gs.length<=3) (hi:i<hl) (_hhl:hl<=100)
  (hS:∀ k,k<x.gs.length->Ol.xI ds (S k) (gv x.gs k) (aA x.pod.cs (ct x.pod.cs k).am) (S (k+1))) (hS64:∀ k,k<=x.gs.length->(S k).cp<18446744073709551616) (hN:∀ k,k<x.gs.length->Aa (ct x.pod.cs k) (gv x.gs k)) (hds:ds.length<=16)
  (hz:zs.map Prod.snd=rp) (hzl:zs.length<=200) (hrow:bP base X pv0 (zs.map Prod.fst)) (hzz:∀ z∈zs,it F0 z) (hbits:bR X Bi (S 0).us) :
  Code.wp prog (Code.loop (gm 1)) (ja 2 λa w'=>∃ (pv:Value) (zq:List (RV × Rn)),FrS (λF=>frS c2 (.int .u64 ((S x.gs.length).cp:Nat)) c8 (.slice wa ds.length wc) (.pointer (some ⟨Bi,0,none⟩)) (.slice (some ⟨hb,ho,none⟩) hl lc) (pv) (.int .i64 (i:Nat)) (F 14) (F 16) (F 17) (F 18) (F 19) (F 20) F) (λW'=>(zq.map Prod.snd=rp++(List.range x.gs.length).map (ir x)/\zq.length=zs.length+x.gs.length)/\bP base W' pv (zq.map Prod.fst)/\(∀ z∈zq,it F0 z)/\bR W' Bi (S x.gs.length).us/\Apart (λj=>j=Bi\/base<=j) X W') a w') (frS c2 (.int .u64 ((S 0).cp:Nat)) c8 (.slice wa ds.length wc) (.pointer (some ⟨Bi,0,none⟩)) (.slice (some ⟨hb,ho,none⟩) hl lc) (pv0) (.int .i64 (i:Nat)) (.pointer (some ⟨Bp,0,none⟩)) (.int .i64 0) c17 c18 c19 c20 F) X:=by
 obtain ⟨ga',gc',hm,hJ,hf⟩:=hgiv.parts;have HG:ga=ga':=by injection hm with e
 subst HG;obtain ⟨pa',pc',he,hH,hy⟩:=id hcon;have H3:pa=pa':=by injection he with e
 subst H3;have hR:=qI hle;have HP:=qI hfree;have hY:=qI hpx;have HK:=qI hcon;have hL:=qI hgc;have h9:=qI hf;have Ja:=qI hy;have HS:=qI hS;have H0:=qI hS64;have hM:=qI hN;have HI:=qI hgl;have HZ:Hid (zs.map Prod.snd=rp++(List.range 0).map (ir x)):=by unfold Hid;rw [hz];simp
 have HN:=qI hrow;have h5:=qI hzz;have h8:=qI hbits;have hU:Bp<X.heap.size:=(gS hpx).1;clear hm hJ hf he hH hy hle hfree hpx hcon hgc hgiv hS hS64 hN hgl hz hrow hzz hbits
 conv=>enter [2,1];unfold gm;whnf
 refine pk (λm a wq=>∃ (k:Nat) (zq:List (RV × Rn)) (lv pv kv:Value),m+k=x.gs.length/\kv=.int .i64 k/\lv=.int .u64 ((S k).cp:Nat)/\FrS (λF=>frS c2 (lv) c8 (.slice wa ds.length wc) (.pointer (some ⟨Bi,0,none⟩)) (.slice (some ⟨hb,ho,none⟩) hl lc) (pv) (.int .i64 (i:Nat)) (.pointer (some ⟨Bp,0,none⟩)) (kv) (F 17) (F 18) (F 19) (F 20) F) (λwq=>zq.map Prod.snd=rp++(List.range k).map (ir x)/\zq.length=zs.length+k/\bP base wq pv (zq.map Prod.fst)/\(∀ z∈zq,it F0 z)/\bR wq Bi (S k).us/\Apart (λj=>j=Bi\/(base<=j/\j≠Bp)) X wq) a wq) x.gs.length ?_ ?_
 ·exact ⟨0,zs,.int .u64 ((S 0).cp:Nat),pv0,.int .i64 0,rfl,rfl,rfl,FrS.mk (by kernel_rfl) ⟨HZ.out,rfl,HN.out,h5.out,h8.out,Apart.refl _ _⟩⟩
 ·rintro m a wr ⟨k,zq,lv,pv,kv,Jc,rfl,rfl,F5,rfl,hp,hx,HO,hzz,hE,Hp⟩ K hK;have hk:k<=x.gs.length:=by omega
  simp only [frS,tlS,Nat.reduceAdd];(try dsimp only);have HJ:wr.heap[Bp]?=some (.cells #[.string x.pod.nm,.int .i64 x.pod.pr,.slice pa x.pod.cs.length pcc] 47):=(Hp.block Bp hU (by rintro (e|⟨_,e⟩);omega;exact e rfl)).trans hY.out;have hh:aq F0 wr:=nE hR.out Hp (λj o e=>by rcases e with e|e;rw [e];exact HP.out o;exact Nl hbs e.1 o);have HW:=qI Hp;have HY:=qI hE;have hB:=qI hp;have Hg:=qI hzz;have H9:=qI hx;have h7:=Hp.size;have hX:zq.length<=203:=by omega
  obtain ⟨va,vc,hv⟩:=fF HO;rw [Q9] at hv;subst hv;have HX:=qI HO;have HE:=qI hh;have H7:=qI HJ;have b2:wr.cell? ⟨Bp,2,none⟩=some (.slice pa x.pod.cs.length pcc):=aa HJ 2;clear Hp hE hp hzz HO hx hh HJ
  by_cases hlt:k<x.gs.length
  ·have Ho:k<x.pod.cs.length:=by have:=HI.out;omega
   obtain ⟨gb,go',dvv,HG,h2,g0,g1,eG⟩:=h9.out k hlt;subst HG;obtain ⟨cb,co,cdv,H3,Ha⟩:=Ja.out (by omega);subst H3;obtain ⟨na,nc,HF,Ht⟩:=(Ha.2 k Ho).2;obtain ⟨ia,ic,hD,h6,hs⟩:=id eG;have Hi:=qI (HS.out k hlt);have He:=qI (hM.out k hlt);have H8:=H0.out k hk;have hg:=(HE.out.cell _ _ _ g0);rw [hD] at g1 eG;have ht:=(HE.out.cell _ _ _ g1);have h4:=(HE.out.cell _ _ _ hL.out);have HR:=qI eG;have hq:Hid (be F0 (.slice na (ct x.pod.cs k).ds.length nc) (ct x.pod.cs k).ds):=by
    have:=(Ha.2 k Ho).2
    rw [HF] at this;exact this
   have hA:∀ j,j<6->F0.cell? ⟨cb,co+k*6+j,none⟩=([.string (ct x.pod.cs k).nm,.int .i64 (ct x.pod.cs k).am,.int .i64 (ct x.pod.cs k).ab,.int .i64 (ct x.pod.cs k).cm,.int .i64 (ct x.pod.cs k).cb,.slice na (ct x.pod.cs k).ds.length nc]:List Value)[j]?:=by
    have:=(Ha.2 k Ho).1
    rw [HF] at this;exact this
   have hc:=qI hA;have HT:cb<base:=Q1 Ha.1 hbs;have hu:Hid (∀ b o,ia=some ⟨b,o,none⟩->0<(gv x.gs k).dv.length->b≠Bi):=λb o e h0 e2=>by
    obtain ⟨b',o',e3,_,e4⟩:=hs h0;rw [e] at e3;injection e3 with e3
    injection e3 with e5 e6
    subst e5 e6
    have:=e4 0 h0
    rw [e2,HP.out] at this;cases this
   have Hk:Hid (ir x k=⟨x.pod.nm,(ct x.pod.cs k).nm,((gv x.gs k).cp:Int),(gv x.gs k).dv⟩):=rfl;have Hj:(gv x.gs k).cp<18446744073709551616:=by
    have h1:=Hi.out.cp
    have:(gv x.gs k).cp &&& (S k).cp<=(S k).cp:=Nat.and_le_right
    rw [h1] at this;omega
   have H2:Hid ((S (k+1)).cp=Ost.dif (S k).cp (gv x.gs k).cp/\(S (k+1)).us=aL (S k).us (gv x.gs k).dv):=by
    unfold Hid;rw [Hi.out.next];exact ⟨rfl,rfl⟩
   have HV:=iI (S k).cp (gv x.gs k).cp H8 Hj;rw [<- H2.out.1] at HV;clear hA Ha HF Ht hD h6 hs eG g0 g1;obtain ⟨cx,ha⟩:∃ q,q=ct x.pod.cs k:=⟨_,rfl⟩;obtain ⟨gx,hr⟩:∃ q,q=gv x.gs k:=⟨_,rfl⟩;rw [<- ha] at hq hc He Hk Hi;rw [<- hr] at HR hu He Hk Hi H2 HV hg ht Hj;clear ha hr;have HM:Hid (∀ W,aq F0 W->∀ j,j<6->W.cell? ⟨cb,co+k*6+j,none⟩=([.string cx.nm,.int .i64 cx.am,.int .i64 cx.ab,.int .i64 cx.cm,.int .i64 cx.cb,.slice na cx.ds.length nc]:List Value)[j]?):=λW hl j hj=>by
    obtain ⟨v,hv⟩:∃ v,([.string cx.nm,.int .i64 cx.am,.int .i64 cx.ab,.int .i64 cx.cm,.int .i64 cx.cb,.slice na cx.ds.length nc]:List Value)[j]?=some v:=⟨_,Qf hj⟩;rw [hv];exact hl.cell _ _ _ ((hc.out j hj).trans hv)
   have Jf:(k:Int)<(x.gs.length:Int):=by omega
   have HQ:=qI ((Q0 wr.heap.size wr).alloc (lR) (.cells #[.int .u64 (gx.cp:Nat),.slice ia gx.dv.length ic] 69));have Hz:=qI (aD wr (.cells #[.int .u64 (gx.cp:Nat),.slice ia gx.dv.length ic] 69) rfl);obtain ⟨Bg,HL⟩:∃ B,B=wr.heap.size:=⟨_,rfl⟩;rw [<- HL] at Hz
   go_upto_region 23 with fail
   rw [<- HL];generalize wr.alloc (.cells #[.int .u64 (gx.cp:Nat),.slice ia gx.dv.length ic] 69)=Q at *;clear hg ht h4 b2;have Hl:aq F0 Q:=HE.out.trans (aq.of_below HQ.out);have Hh:=qI Hl;have HU:Bp<wr.heap.size:=(gS H7.out).1;have Hb:=qI ((HQ.out.block Bp HU).trans H7.out);have Hf:=qI (HK.out.le Hl);clear Hl;have Jb:Bg<Q.heap.size:=(gS Hz.out).1;have HH:Bp<Q.heap.size:=(gS Hb.out).1;have hF:Bp<Bg:=by omega
   have hI:base<=Bg:=by omega
   have Hu:=qI (HY.out.below HQ.out);have HC:Hid (bP base Q (.slice va zq.length vc) (zq.map Prod.fst)):=iE HX.out HQ.out;have Hy:=qI (HW.out.trans (Apart.of_below HQ.out));have hV:=HQ.out.size;have H4:x.pod.cs.length<=1000:=by have:=HI.out;omega
   clear HX HW HY H7 HQ HL;refine nA (G:=(λF=>frS c2 (.int .u64 ((S k).cp:Nat)) c8 (.slice wa ds.length wc) (.pointer (some ⟨Bi,0,none⟩)) (.slice (some ⟨hb,ho,none⟩) hl lc) (.slice va zq.length vc) (.int .i64 (i:Nat)) (.pointer (some ⟨Bp,0,none⟩)) (.int .i64 (k:Nat)) (.pointer (some ⟨Bg,0,none⟩)) (F 18) (F 19) (F 20) F)) (by kernel_rfl) (λF1=>Mo _ _ _ _ _ _ _ _ _ _ F1 Q Bp Bg cb co pcc k gx.cp (S k).cp gx.dv.length ia ic x.pod cx na nc Hb.out Hz.out Ho H4 (HM.out Q Hh.out) Hf.out Hj H8 Hi.out.cp Hi.out.cnt He.out.am.1 He.out.am.2) ?_;rintro a W1 ⟨F1,rfl,Hc⟩;have HD:=qI ((Hc.block Bg Jb).trans Hz.out);have H6:=qI ((Hc.block Bp HH).trans Hb.out);have Hv:=qI (Hh.out.trans (aq.of_below Hc));have Hq:=qI (Hu.out.below Hc);have Hm:Hid (bP base W1 (.slice va zq.length vc) (zq.map Prod.fst)):=iE HC.out Hc;have Hs:=qI (Hy.out.trans (Apart.of_below Hc));have hG:=Hc.size;have z0:W1.cell? ⟨Bg,0,none⟩=some (.int .u64 (gx.cp:Nat)):=aa HD.out 0;clear Hc Hz Hb Hh Hu HC Hy Hf;simp only [frB,tlS,Nat.reduceAdd];(try dsimp only)
   go_wp2_with fail
   clear z0 HV;refine jQ (G:=(λF=>frS c2 (.int .u64 ((S (k+1)).cp:Nat)) c8 (.slice wa ds.length wc) (.pointer (some ⟨Bi,0,none⟩)) (.slice (some ⟨hb,ho,none⟩) hl lc) (.slice va zq.length vc) (.int .i64 (i:Nat)) (.pointer (some ⟨Bp,0,none⟩)) (.int .i64 (k:Nat)) (.pointer (some ⟨Bg,0,none⟩)) (.int .i64 0) (.int .i64 0) (F 20) F)) (by kernel_rfl) (λF2=>M9 _ _ _ _ _ _ _ _ _ _ F2 W1 Bp cb co pcc k x.pod.cs.length na nc cx.ds (aa H6.out 2) Ho H4 (HM.out W1 Hv.out 5 (by decide)) (hq.out.le Hv.out) He.out.sum He.out.few) ?_;rintro a W2 ⟨F2,rfl,rfl⟩;rw [He.out.many];have z1:W2.cell? ⟨Bg,1,none⟩=some (.slice ia gx.dv.length ic):=aa HD.out 1;simp only [frS,tlS,Nat.reduceAdd];(try dsimp only)
   go_wp2_with fail
   clear z1;refine jQ (G:=(λF=>frS c2 (.int .u64 ((S (k+1)).cp:Nat)) c8 (.slice wa ds.length wc) (.pointer (some ⟨Bi,0,none⟩)) (.slice (some ⟨hb,ho,none⟩) hl lc) (.slice va zq.length vc) (.int .i64 (i:Nat)) (.pointer (some ⟨Bp,0,none⟩)) (.int .i64 (k:Nat)) (.pointer (some ⟨Bg,0,none⟩)) (F 18) (F 19) (.int .i64 0) F)) (by kernel_rfl) (λF3=>Mm _ _ _ _ _ _ _ _ _ _ F3 W2 Bg Bi wa ds.length wc ia ic gx.dv (S k).us (aa HD.out 1) (HR.out.le Hv.out) Hq.out (by omega) hu.out He.out.devs hds Hi.out.dv) ?_;rintro a W3 ⟨F3,rfl,hw,Hn⟩;have Hx:Hid (bR W3 Bi (S (k+1)).us):=by unfold Hid;rw [H2.out.2];exact hw
   have Hw:=qI ((Hn.block Bg (by omega) (by omega)).trans HD.out);have Hr:=qI ((Hn.block Bp (by omega) (by omega)).trans H6.out);have hC:=qI (nE Hv.out Hn (λj o e=>by rw [e];exact HP.out o));have HB:Hid (bP base W3 (.slice va zq.length vc) (zq.map Prod.fst)):=vZ Hm.out Hn (λj e1 e2=>by have:=(Hm.out.lt j e1).1;omega);have HA:=qI (Hs.out.trans (Hn.wide λj e=>.inl e));have hT:=Hn.size;clear hw Hn HD H6 Hv Hq Hm Hs;simp only [frS,tlS,Nat.reduceAdd];(try dsimp only)
   go_upto_region 39 with fail
   refine nA (G:=(λF=>frS c2 (.int .u64 ((S (k+1)).cp:Nat)) c8 (.slice wa ds.length wc) (.pointer (some ⟨Bi,0,none⟩)) (.slice (some ⟨hb,ho,none⟩) hl lc) (.slice va zq.length vc) (.int .i64 (i:Nat)) (.pointer (some ⟨Bp,0,none⟩)) (.int .i64 (k:Nat)) (.pointer (some ⟨Bg,0,none⟩)) (F 18) (F 19) (F 20) F)) (by kernel_rfl) (λF4=>Mp _ _ _ _ _ _ _ _ _ _ F4 W3 base Bp Bg cb co pcc k gx.cp gx.dv.length ia ic x.pod cx.nm va vc zq Hr.out Hw.out Ho H4 (HM.out W3 hC.out 0 (by decide)) HT HB.out (by omega) (by omega)) ?_;rintro a W4 ⟨v',F4,rfl,hn,H1⟩;have hZ:=qI hn;have hP:=qI (HA.out.trans (H1.wide λj e=>.inr e));have H5:=qI (Ab Hx.out H1 (by omega));clear hn H1 Hx Hw Hr hC HB HA;simp only [frS,tlS,Nat.reduceAdd];(try dsimp only)
   go_wp2
   refine hK.out _ _ ⟨m - 1,by omega,k+1,zq++[(⟨x.pod.nm,cx.nm,gx.cp,ia,gx.dv.length,ic⟩,⟨x.pod.nm,cx.nm,gx.cp,gx.dv⟩)],.int .u64 ((S (k+1)).cp:Nat),v',.int .i64 ((k:Int)+1),by omega,?_,rfl,FrS.mk (by kernel_rfl) ⟨?_,by rw [Q2,H9.out];simp;omega,by rw [Qj];exact hZ.out,λz hz=>?_,H5.out,hP.out⟩⟩
   ·go_num
   ·rw [Qj,hB.out,List.range_succ,Qj,List.append_assoc,List.map_singleton,List.map_singleton,Hk.out]
   ·rcases Qi.1 hz with hz|hz
    ·exact Hg.out z hz
    ·rw [Qm.1 hz];exact ⟨rfl,rfl,rfl,HR.out⟩
  ·have hO:k=x.gs.length:=by omega
   subst hO;have hW:¬ ((x.gs.length:Int)<(x.pod.cs.length:Int)):=by have:=HI.out;omega
   have Je:decide ((x.gs.length:Int)<(x.pod.cs.length:Int))=false:=Q7 hW;have Jd:¬ (x.gs.length<x.pod.cs.length):=by omega
   go_wp2
   exact ⟨rfl,_,zq,FrS.mk (by kernel_rfl) ⟨⟨hB.out,H9.out⟩,HX.out,by first|exact Hg.out|exact λa b h=>Hg.out (a,b) h,HY.out,HW.out.wide λj e=>e.imp id (·.1)⟩⟩
end
section
open RowKit Shelf
open Qos (Nd Ct Pd nd ct pd af aA)
open Sv (Gv Hd gv hd)
open Dvs (Dv dv nth aL)
attribute [local go_sem] Oper.semAt_some
theorem No {K K':Nat->Prop} {A B C:World} (h:Apart K A B) (h2:Apart K' B C) (hk:∀ j,j<A.heap.size->K' j->K j):Apart K A C:=
 ⟨h2.os.trans h.os,h2.tape.trans h.tape,h2.output.trans h.output,Q5 h.size h2.size,λj hj hn=>(h2.block j (Q1 hj h.size) λe=>hn (hk j hj e)).trans (h.block j hj hn)⟩
theorem Np {m:Ol.Mc} {ds:List Dv} {hs:List Hd} {s:Ol.Sk} (h:Ol.left m ds hs=some s) (hm:m.op<18446744073709551616):∀ i,i<=hs.length->(Ol.stK m ds hs i 0).cp<18446744073709551616/\(i<hs.length->∀ k,k<=(hd hs i).gs.length->(Ol.stK m ds hs i k).cp<18446744073709551616):=by
 have Ha:∀ a b:Nat,a<18446744073709551616->Ost.dif a b<18446744073709551616:=λa b ha=>Ost.gX b ha
 have key:∀ i,i<hs.length->(Ol.stK m ds hs i 0).cp<18446744073709551616->∀ k,k<=(hd hs i).gs.length->(Ol.stK m ds hs i k).cp<18446744073709551616:=by
  intro i hi h0 k
  induction k with
  | zero=>intro _;exact h0
  | succ k ih=>
   intro hk;rw [(Ol.xM h hi hk).next];exact Ha _ _ (ih (by omega))
 intro i
 induction i with
 | zero=>intro _;exact ⟨hm,λhi=>key 0 hi hm⟩
 | succ i ih=>
  intro hi;have h1:=(ih (by omega)).2 (by omega) _ (lR);rw [<- Ol.xK] at h1;exact ⟨h1,λh2=>key _ h2 h1⟩
theorem Nq {t:Ol.St} (h:Ol.Inv t) {x:Hd} (hx:x∈t.hs) {k:Nat} (hk:k<x.gs.length):Aa (ct x.pod.cs k) (gv x.gs k):=by
 obtain ⟨_,a2,_⟩:=Ol.bO.1 h.held;obtain ⟨hp,hl,hg⟩:=a2 x hx;have Hc:k<x.pod.cs.length:=by omega
 have He:gv x.gs k∈x.gs:=Sv.oz hk;have Hg:=MY h x hx _ He;have Hb:=Ol.IK h (Ol.alike_refl _) x hx k hk;have hn:=Ol.lh hp _ (Sv.jy Hc);have Hf:=(Qos.ju hp).2 k Hc;have h0:∀ n∈(ct x.pod.cs k).ds,0<=n.many:=λn hn=>by rw [<- Hb.1 n hn];omega
 have Ha:fu (ct x.pod.cs k).ds (ct x.pod.cs k).ds.length=(gv x.gs k).dv.length:=by
  unfold fu;rw [Qh];exact Hb.2
 refine ⟨λj hj=>?_,Ha,Q5 (M8 Hb hn.1) (by omega),Hg,Hf.1⟩
 have:=Ol.IN h0 j hj
 unfold fu at *;rw [Qh] at Ha;omega
theorem Nr {hs:List Hd} {i:Nat} (h:∀ x∈hs,x.gs.length<=3) (hl:hs.length<=12):(ap (hs.take i)).length<=36:=by
 have:=yG h i
 omega
abbrev sP:=λ(x0:Sv.Hd) (x1:Option Addr) (x2:Nat)=>(.cells #[.string x0.pod.nm,.int .i64 x0.pod.pr,.slice x1 x0.pod.cs.length x2] 47:Obj)
theorem Ns (c2 c14 c16 c17 c18 c19 c20:Value) (F:Nat->Value) (F0 U:World) (Br Bi lc wc:Nat) (la wa:Option Addr) (t:Ol.St) (s:Ol.Sk)
  (hle:aq F0 U) (hbs:F0.heap.size<=U.heap.size) (hBr:Br<U.heap.size) (hBi:Bi<U.heap.size) (hne:Br≠Bi) (hf1:∀ o,F0.cell? ⟨Br,o,none⟩=none) (hf2:∀ o,F0.cell? ⟨Bi,o,none⟩=none) (hh:aJ F0 (.slice la t.hs.length lc) t.hs) (hInv:Ol.Inv t) (hs:Ol.left t.m t.ds t.hs=some s) (hop:t.m.op<18446744073709551616) (hnb:0<=t.m.nb/\t.m.nb<=1125899906842624) (hc64:Ost.cnt t.m.op<=64) (hro:U.heap[Br]?=some (.cells #[.int .i64 (1000*(Ost.cnt t.m.op:Int) - Ol.aY ((t.hs.take 0).map Hd.pod)),.int .i64 (t.m.nb - Ol.bA ((t.hs.take 0).map Hd.pod))] 60 (0,0))) (hbits:bR U Bi λ_=>false) :
  Code.wp prog (Code.loop (gm 0)) (ja 0 λa w'=>∃ (pv:Value) (zq:List (RV × Rn)),FrS (λF=>frS c2 (.int .u64 (s.cp:Nat)) (.pointer (some ⟨Br,0,none⟩)) (F 9) (F 10) (F 11) (pv) (F 13) (F 14) (F 16) (F 17) (F 18) (F 19) (F 20) F) (λW'=>zq.map Prod.snd=ap t.hs/\bP U.heap.size W' pv (zq.map Prod.fst)/\(∀ z∈zq,it F0 z)/\W'.heap[Br]?=some (.cells #[.int .i64 (1000*(Ost.cnt t.m.op:Int) - Ol.aY ((t.hs.take t.hs.length).map Hd.pod)),.int .i64 (t.m.nb - Ol.bA ((t.hs.take t.hs.length).map Hd.pod))] 60 (0,0))/\Apart (λj=>j=Br\/j=Bi) U W') a w') (frS c2 (.int .u64 (t.m.op:Nat)) (.pointer (some ⟨Br,0,none⟩)) (.slice wa t.ds.length wc) (.pointer (some ⟨Bi,0,none⟩)) (.slice la t.hs.length lc) (.slice none 0 0) (.int .i64 0) c14 c16 c17 c18 c19 c20 F) U:=by
 obtain ⟨a1,a2,a3⟩:=Ol.bO.1 hInv.held;have Jq:=(Dvs.gW hInv.devs).1;obtain ⟨la',lc',hP,h4,hJ⟩:=id hh;have hla:la=la':=by injection hP with e
 subst hla;have h5:=qI hJ;have Ja:=qI hle;have hm:=qI hf1;have hA:=qI hf2;have hX:=qI hInv;have hC:=qI hs;have HO:=qI a2;have hY:=qI a3;have h8:=qI (Np hs hop);have hn:=qI (Ol.oU λx hx=>(a2 x hx).1);have h6:=qI hro;have Ji:=qI hbits;have Hr:=qI (MX hInv);clear hP h4 hJ hle hf1 hf2 hh hInv hs a2 a3 hro hbits
 conv=>enter [2,1];unfold gm;whnf
 refine pk (λm a wq=>∃ (i:Nat) (zq:List (RV × Rn)) (lv pv iv:Value),m+i=t.hs.length/\iv=.int .i64 i/\lv=.int .u64 ((Ol.stK t.m t.ds t.hs i 0).cp:Nat)/\FrS (λF=>frS c2 (lv) (.pointer (some ⟨Br,0,none⟩)) (.slice wa t.ds.length wc) (.pointer (some ⟨Bi,0,none⟩)) (.slice la t.hs.length lc) (pv) (iv) (F 14) (F 16) (F 17) (F 18) (F 19) (F 20) F) (λwq=>zq.map Prod.snd=ap (t.hs.take i)/\bP U.heap.size wq pv (zq.map Prod.fst)/\(∀ z∈zq,it F0 z)/\wq.heap[Br]?=some (.cells #[.int .i64 (1000*(Ost.cnt t.m.op:Int) - Ol.aY ((t.hs.take i).map Hd.pod)),.int .i64 (t.m.nb - Ol.bA ((t.hs.take i).map Hd.pod))] 60 (0,0))/\bR wq Bi (Ol.stK t.m t.ds t.hs i 0).us/\Apart (λj=>j=Br\/j=Bi) U wq) a wq) t.hs.length ?_ ?_
 ·exact ⟨0,[],.int .u64 (t.m.op:Nat),.slice none 0 0,.int .i64 0,rfl,rfl,rfl,FrS.mk (by kernel_rfl) ⟨rfl,Qw _ _ _ _,λx hx=>(List.not_mem_nil hx).elim,h6.out,Ji.out,Apart.refl _ _⟩⟩
 ·rintro m a wr ⟨i,zq,lv,pv,iv,Jt,rfl,rfl,F7,rfl,hF,HS,hp,hr,hU,Hv⟩ K hK;have hi:i<=t.hs.length:=by omega
  simp only [frS,tlS,Nat.reduceAdd];(try dsimp only);have Hm:Hid (aq F0 wr):=nE Ja.out Hv (λj o e=>by rcases e with e|e;rw [e];exact hm.out o;rw [e];exact hA.out o);have H5:=qI hF;have H2:=qI hp;have Hy:=qI hr;have hH:=qI hU;have HV:=qI Hv;have h2:=Hv.size;obtain ⟨va,vc,hv⟩:=fF HS;rw [Q9] at hv;subst hv;have H0:=qI HS;have Je:=hn.out i hi;clear hF hp hr hU Hv HS
  by_cases hlt:i<t.hs.length
  ·obtain ⟨hb,ho,cvv,gvv,hW,h9⟩:=h5.out (by omega);subst hW;obtain ⟨Jv,Hi⟩:=h9;obtain ⟨⟨q0,q1,q2,q3⟩,Hb,Hc⟩:=Hi i hlt;have Jr:zq.length<=36:=by
    have h1:zq.length=(ap (t.hs.take i)).length:=by rw [<- H5.out,Q9]
    have:=Nr (i:=i) Hr.out a1
    omega
   obtain ⟨pa,pcc,ht,_⟩:=id Hb;obtain ⟨ga,gc,hB,_⟩:=Hc.parts;rw [ht] at q2 Hb;rw [hB] at q3 Hc;have HA:hd t.hs i∈t.hs:=Sv.kb hlt;obtain ⟨HW,hI,_⟩:=HO.out _ HA;have H7:=Hr.out _ HA;have hw:Hid (0<i->F0.cell? ⟨hb,ho+(i - 1)*4,none⟩=some (.string (hd t.hs (i - 1)).pod.nm)/\Qos.leS (hd t.hs i).pod.nm (hd t.hs (i - 1)).pod.nm=false):=λh0=>by
    refine ⟨(Hi (i - 1) (by omega)).1.1,?_⟩
    have:=Ol.rq.1 hY.out i hlt
    unfold Sv.jx at this;rw [Qc h0,Bool.true_and] at this;exact this
   have H9:=qI (Qos.ju HW);have HM:=qI λk (hk:k<(hd t.hs i).gs.length)=>Ol.xM hC.out hlt hk;have Hn:=qI ((h8.out i hi).2 hlt);have HT:=qI λk (hk:k<(hd t.hs i).gs.length)=>Nq hX.out HA hk;have Hs:=qI (Ol.xK t.m t.ds t.hs i);have Jj:=qI (yF hlt);have HB:=qI (Ol.mG hlt);have Hw:=qI (Ol.mH hlt);have He:=hn.out (i+1) hlt;rw [HB.out,Hw.out] at He;have h3:=Qos.kV H9.out (lR);have Jb:=Qos.j8 H9.out (lR);have Hg:=qI Hb;have HI:=qI Hc;have hz:=qI q3;have r0:=Hm.out.cell _ _ _ q0;have r1:=Hm.out.cell _ _ _ q1;have r2:=Hm.out.cell _ _ _ q2;have HK:=qI hI;have Jp:=qI HW;clear Hi Hb Hc ht hB q0 q1 q2 q3 HA hI HW;generalize hd t.hs (i - 1)=y at *;generalize hd t.hs i=x at *;obtain ⟨SM,HP⟩:∃ q,q=Qos.aO x.pod.cs x.pod.cs.length:=⟨_,rfl⟩;obtain ⟨SB,H3⟩:∃ q,q=Qos.aP x.pod.cs x.pod.cs.length:=⟨_,rfl⟩;rw [<- HP] at HB He h3;rw [<- H3] at Hw He Jb;obtain ⟨RA,HN⟩:∃ q,q=1000*(Ost.cnt t.m.op:Int) - Ol.aY ((t.hs.take i).map Hd.pod):=⟨_,rfl⟩;obtain ⟨RC,HX⟩:∃ q,q=t.m.nb - Ol.bA ((t.hs.take i).map Hd.pod):=⟨_,rfl⟩;have Ju:-100000000<=RA/\RA<=100000000:=by omega
   have Jx:-90000000000000000<=RC/\RC<=90000000000000000:=by omega
   have hM:Hid ((.cells #[.int .i64 (RA - SM),.int .i64 (RC - SB)] 60 (0,0):Obj)=.cells #[.int .i64 (1000*(Ost.cnt t.m.op:Int) - Ol.aY ((t.hs.take (i+1)).map Hd.pod)),.int .i64 (t.m.nb - Ol.bA ((t.hs.take (i+1)).map Hd.pod))] 60 (0,0)):=by
    unfold Hid;rw [HB.out,Hw.out,HN,HX]
    congr 3
    ·rw [Int.sub_sub]
    ·rw [Int.sub_sub]
   rw [<- HN,<- HX] at Hy;have Hp:Hid (∀ V,aE V (.slice pa x.pod.cs.length pcc) x.pod.cs->Calls prog 37 #[.agg #[.string x.pod.nm,.int .i64 x.pod.pr,.slice pa x.pod.cs.length pcc]] V λe w'=>e=.returned (.agg #[.int .i64 SM,.int .i64 SB])/\Below V.heap.size V w'):=λV hc=>by
    have:=vx x.pod (.slice pa x.pod.cs.length pcc) V hc H9.out
    rw [<- HP,<- H3] at this;exact this
   clear HP H3 HN HX Je He HB Hw;have HQ:=qI ((Q0 wr.heap.size wr).alloc (lR) (sP x pa pcc));have Hh:=qI (aD wr (sP x pa pcc) rfl);obtain ⟨Bp,HY⟩:∃ B,B=wr.heap.size:=⟨_,rfl⟩;rw [<- HY] at Hh
   go_upto_region 14 with fail
   rw [<- HY];generalize wr.alloc (sP x pa pcc)=Q at *;clear r0 r1 r2;have Jn:U.heap.size<=Bp:=by omega
   have Jh:=HQ.out.size;clear HY;have hl:=qI (Hm.out.trans (aq.of_below HQ.out));have Jl:Bp<Q.heap.size:=(gS Hh.out).1;have p0:Q.cell? ⟨Bp,0,none⟩=some (.string x.pod.nm):=aa Hh.out 0;have p1:Q.cell? ⟨Bp,1,none⟩=some (.int .i64 x.pod.pr):=aa Hh.out 1;have p2:Q.cell? ⟨Bp,2,none⟩=some (.slice pa x.pod.cs.length pcc):=aa Hh.out 2
   go_wp2_with fail
   refine (Hp.out Q (Hg.out.le hl.out)).mono ?_;rintro e W1 ⟨rfl,Hx⟩;clear p0 p1 p2;have hq:Br<wr.heap.size:=by omega
   have HU:=qI (HQ.out.trans (Hx.mono HQ.out.size));have hS:=qI ((Hx.block Bp Jl).trans Hh.out);have JB:=Hx.size;clear Hx HQ Hh hl;have Hl:=qI (HU.out.alloc HU.out.size (.cells #[.int .i64 SM,.int .i64 SB] 60));have HJ:=qI (bj hS.out (.cells #[.int .i64 SM,.int .i64 SB] 60));have Ha:=qI (aD W1 (.cells #[.int .i64 SM,.int .i64 SB] 60) rfl);have hV:(W1.alloc (.cells #[.int .i64 SM,.int .i64 SB] 60)).heap.size=W1.heap.size+1:=by simp
   obtain ⟨Bs,H1⟩:∃ B,B=W1.heap.size:=⟨_,rfl⟩;rw [<- H1] at Ha;have HL:Br≠Bs:=by omega
   go_upto_region 15 with fail
   rw [<- H1];clear H1;generalize W1.alloc (.cells #[.int .i64 SM,.int .i64 SB] 60)=V at *;have Hq:Hid (V.heap[Br]?=some (.cells #[.int .i64 (RA),.int .i64 (RC)] 60 (0,0))):=(Hl.out.block Br hq).trans Hy.out;have hL:=qI (HV.out.trans (Apart.of_below Hl.out));have hE:=qI (hH.out.below Hl.out);have hO:=qI (Hm.out.trans (aq.of_below Hl.out));have Hj:Hid (bP U.heap.size V (.slice va zq.length vc) (zq.map Prod.fst)):=iE H0.out Hl.out;have hg:Br≠Bp:=by omega
   have Jo:Bi≠Bp:=by omega
   have Jw:U.heap.size<=V.heap.size:=by omega
   clear HU Hl Hy HV hH Hm H0 hS hq;have v0:V.cell? ⟨Br,0,none⟩=some (.int .i64 RA):=aa Hq.out 0;have w0:V.frozen? ⟨Br,0,none⟩=false:=ai Hq.out 0;have s0:V.cell? ⟨Bs,0,none⟩=some (.int .i64 SM):=aa Ha.out 0;have JA:wrap64 (RA - SM)=RA - SM:=by unfold wrap64;omega
   have h7:Br<V.heap.size:=(gS Hq.out).1;have H6:Bs<V.heap.size:=(gS Ha.out).1
   go_upto_region 16 with fail
   have ha:Hid (Apart (λj=>j=Br) V (V.setCell ⟨Br,0,none⟩ (.int .i64 (RA - SM)))):=Apart.setCell (K:=λj=>j=Br) rfl _ _ _;have HC:Hid ((V.setCell ⟨Br,0,none⟩ (.int .i64 (RA - SM))).heap[Br]?=some (.cells #[.int .i64 (RA - SM),.int .i64 (RC)] 60 (0,0))):=ah Hq.out 0 _;clear v0 w0 s0;generalize V.setCell ⟨Br,0,none⟩ (.int .i64 (RA - SM))=Z1 at *;have v1:Z1.cell? ⟨Br,1,none⟩=some (.int .i64 RC):=aa HC.out 1;have w1:Z1.frozen? ⟨Br,1,none⟩=false:=ai HC.out 1;have s1:Z1.cell? ⟨Bs,1,none⟩=some (.int .i64 SB):=(jN (ha.out.block Bs H6 λe=>HL e.symm) 1).trans (aa Ha.out 1);have Jy:wrap64 (RC - SB)=RC - SB:=by unfold wrap64;omega
   go_upto_region 17 with fail
   have Hk:Hid (Apart (λj=>j=Br) V (Z1.setCell ⟨Br,1,none⟩ (.int .i64 (RC - SB)))):=ha.out.trans (Apart.setCell (K:=λj=>j=Br) rfl _ _ _);have HG:Hid ((Z1.setCell ⟨Br,1,none⟩ (.int .i64 (RC - SB))).heap[Br]?=some (.cells #[.int .i64 (RA - SM),.int .i64 (RC - SB)] 60 (0,0))):=ah HC.out 1 _;clear v1 w1 s1 ha HC;generalize Z1.setCell ⟨Br,1,none⟩ (.int .i64 (RC - SB))=Z at *;rw [hM.out] at HG;have Js:=Hk.out.size;have Hz:=qI ((Hk.out.block Bp (gS HJ.out).1 λe=>hg e.symm).trans HJ.out);have Hu:=qI (nE hO.out Hk.out (λj o e=>by rw [e];exact hm.out o));have hy:=qI (Ab hE.out Hk.out λe=>hne e.symm);have Ht:Hid (bP U.heap.size Z (.slice va zq.length vc) (zq.map Prod.fst)):=vZ Hj.out Hk.out (λj e1 e2=>by have:=(Hj.out.lt j e1).1;omega);have hu:=qI (hL.out.trans (Hk.out.wide λj e=>.inl e));have hZ:x.pod.cs.length<=1000:=by have:=HK.out;omega
   have hD:Hid (Z.cell? ⟨hb,ho+i*4+3,none⟩=some (.slice ga x.pod.cs.length gc)):=by
    unfold Hid;rw [<- HK.out];exact Hu.out.cell _ _ _ hz.out
   have HH:Bp<Z.heap.size:=(gS Hz.out).1;have he:Br<Z.heap.size:=by omega
   clear Hk Hq HJ hO hE Hj hL Ha hM Hp;refine nA (G:=(λF=>frS c2 (.int .u64 ((Ol.stK t.m t.ds t.hs i 0).cp:Nat)) (.pointer (some ⟨Br,0,none⟩)) (.slice wa t.ds.length wc) (.pointer (some ⟨Bi,0,none⟩)) (.slice (some ⟨hb,ho,none⟩) t.hs.length lc) (.slice va zq.length vc) (.int .i64 (i:Nat)) (.pointer (some ⟨Bp,0,none⟩)) (F 16) (F 17) (F 18) (F 19) (F 20) F)) (by kernel_rfl) (λF1=>Ms _ _ _ _ _ _ _ _ _ _ _  F1 Z Bp hb ho t.hs.length lc i pa ga pcc gc x.pod y.pod.nm Hz.out (Hg.out.le Hu.out) Jp.out hD.out hlt (by omega) (λh0=>Hu.out.cell _ _ _ (hw.out h0).1) (λh0=>(hw.out h0).2) hZ) ?_;rintro a W2 ⟨F1,rfl,Hf⟩;have Jk:=qI ((Hf.block Bp HH).trans Hz.out);have Jf:=qI (Hu.out.trans (aq.of_below Hf));have HR:=qI (hy.out.below Hf);have HF:Hid (bP U.heap.size W2 (.slice va zq.length vc) (zq.map Prod.fst)):=iE Ht.out Hf;have HO:=qI (hu.out.trans (Apart.of_below Hf));have H8:=qI ((Hf.block Br he).trans HG.out);have Jz:=Hf.size;clear Hf Hz Hu hy Ht hu HG hD;simp only [frD,tlS,Nat.reduceAdd];(try dsimp only)
   go_wp2_with fail
   refine jQ (G:=(λF=>frS c2 (.int .u64 ((Ol.stK t.m t.ds t.hs i 0).cp:Nat)) (.pointer (some ⟨Br,0,none⟩)) (.slice wa t.ds.length wc) (.pointer (some ⟨Bi,0,none⟩)) (.slice (some ⟨hb,ho,none⟩) t.hs.length lc) (.slice va zq.length vc) (.int .i64 (i:Nat)) (.pointer (some ⟨Bp,0,none⟩)) (.int .i64 0) (F 17) (F 18) (F 19) (F 20) F)) (by kernel_rfl) (λF2=>Nn _ _ _ _ _ _ F2 F0 W2 U.heap.size Bp Bi hb ho t.hs.length lc i wa wc x pa ga pcc gc t.ds (Ol.stK t.m t.ds t.hs i) (.slice va zq.length vc) zq (ap (t.hs.take i)) Jf.out hbs (by omega) Jn hBi hA.out Jk.out Hg.out hz.out HI.out HK.out H7 hlt (by omega) HM.out Hn.out HT.out Jq H5.out (by omega) HF.out H2.out HR.out) ?_;rintro a W3 ⟨pv,zr,F2,rfl,⟨hG,Jg⟩,hR,Ho,hN,hf⟩;have HZ:=qI ((hf.block Br (by omega) (by omega)).trans H8.out);have HD:=qI (No HO.out hf (λj hj e=>by rcases e with e|e;exact .inr e;omega));have Jm:Hid (zr.map Prod.snd=ap (t.hs.take (i+1))):=by unfold Hid;rw [hG,Jj.out]
   have Jd:=qI hR;have H4:=qI Ho;have hT:=qI hN;rw [<- Hs.out] at hT;clear hG Jg hR Ho hN hf;simp only [frS,tlS,Nat.reduceAdd];(try dsimp only);rw [<- Hs.out]
   go_wp2
   refine hK.out _ _ ⟨m - 1,by omega,i+1,zr,.int .u64 ((Ol.stK t.m t.ds t.hs (i+1) 0).cp:Nat),pv,.int .i64 ((i:Int)+1),by omega,?_,rfl,FrS.mk (by kernel_rfl) ⟨Jm.out,Jd.out,H4.out,HZ.out,hT.out,HD.out⟩⟩
   go_num
  ·have Jc:i=t.hs.length:=by omega
   subst Jc;have HE:Hid (zq.map Prod.snd=ap t.hs):=by unfold Hid;rw [H5.out,Qh]
   rw [Ol.IM hC.out]
   go_wp2
   exact ⟨rfl,_,zq,FrS.mk (by kernel_rfl) ⟨HE.out,H0.out,by first|exact H2.out|exact λa b h=>H2.out (a,b) h,Hy.out,HV.out⟩⟩
end
section
open RowKit Shelf
open Qos (Nd Ct Pd nd ct pd af aA)
open Sv (Gv Hd gv hd)
open Dvs (Dv dv nth aL)
attribute [local go_sem] Oper.semAt_some
open Ost (Cpu ad ae)
section
variable {N:Nat->Prop} {Ba Bd Be Bm:Nat} {t:Ol.St} {dk:Dk} {n:Nat} {w:World}
theorem Ad {base:Nat} {W:World} {a:Option Addr} {m c:Nat} {ys:List RV} (h:iW base W (.slice a m c) ys):jd W a ys:=λh0=>by
 obtain ⟨a',c',hv,_,hr⟩:=h;injection hv with e1 _ _
 subst e1;obtain ⟨g,h1,_,h3,h4⟩:=hr h0;exact ⟨g,h1,h3,h4⟩
theorem mD {α β:Type} {f:α->β} {l:List α} (h:(l.map f).Nodup):l.Nodup:=by
 unfold List.Nodup at *;rw [List.pairwise_map] at h;exact h.imp λ{a b} hab e=>hab (by rw [e])
theorem Nt (h:aK w N Ba Bd Be Bm t dk n) (hn:n<=1000):Calls prog 39 #[.pointer (some ⟨Be,0,none⟩)] w λe w'=>∃ a c ys,e=.returned (.slice a ys.length c)/\jd w' a ys/\(∀ y∈ys,aS w' y/\y.dn<=1000)/\(ys.map (aj w')).Perm (ap t.hs)/\Below w.heap.size w w':=by
 obtain ⟨he,hd,xs,hm,Ha,Hc⟩:=h.eng;have Hb:xs.length<=1000:=by
  obtain ⟨_,es,ho,hp⟩:=hm;have h1:=ho.size_le;have h2:=hp.length_eq;unfold iS at h2;rw [Q9] at h2;rw [Go.Maps.size_eq] at h1;omega
 have hk:=yD (W:=w) hm.keys;refine (yx Be Bd Bm n xs w he hm Hb λx hx=>⟨(Ha x hx).1.1,(Ha x hx).2⟩).mono ?_;rintro e w' ⟨⟨v,ys,rfl,hr,hy,hp,_⟩,hb⟩;obtain ⟨a,c,hv,_⟩:=id hr;subst hv;refine ⟨a,c,ys,rfl,Ad hr,λy hy'=>(hy y hy').1,hp.trans ?_,hb⟩;refine (List.perm_ext_iff_of_nodup ?_ ?_).2 Hc
 ·exact mD hk
 ·exact mD (yB h.inv.held)
theorem py {W:World} {M B:Nat} (h:B<M) (o:Nat):(fresh M W).cell? ⟨B,o,none⟩=none:=by
 cases e:(fresh M W).cell? ⟨B,o,none⟩ with
 | none=>rfl
 | some v=>exact absurd h (eP (M:=λj=>j<M) e)
theorem room_le {m:Ol.Mc} {ps:List Pd} (h:Ol.room m ps=true):Ol.aY ps<=1000*(Ost.cnt m.op:Int)/\Ol.bA ps<=m.nb:=by
 unfold Ol.room at h
 simpa using h
theorem Nu {F0 W:World} {z:RV × Rn} (h:it F0 z) (hl:aq F0 W):aS W z.1/\aj W z.1=z.2/\z.1.dn=z.2.devs.length:=by
 obtain ⟨h1,h2,h3,h4⟩:=h;obtain ⟨a,b,c⟩:=se (h4.le hl);refine ⟨a,?_,c⟩;unfold aj;rw [h1,h2,h3,b]
abbrev lL:=(.cells #[.bool false,.bool false,.bool false,.bool false,.bool false,.bool false,.bool false,.bool false,.bool false,.bool false,.bool false,.bool false,.bool false,.bool false,.bool false,.bool false] 104:Obj)
abbrev Ae:=λ(x0 x1 x2:Nat)=>(.cells #[.pointer (some ⟨x0,0,none⟩),.pointer (some ⟨x1,0,none⟩),.pointer (some ⟨x2,0,none⟩)] 36:Obj)
abbrev Nv:=λ(Bc:Nat) (c:Ol.Cf) (w':World)=>w'.cell? ⟨Bc,1,none⟩=some (.int .u64 (c.keep:Nat))
theorem Nw {c:Ol.Cf} {ca da:Option Addr} {cc dl dc:Nat} (hM:aK w jR Ba Bd Be Bm t dk n) (htm:t.m=Ol.cz c) (hro:Ol.room t.m (t.hs.map Hd.pod)=true) (hcf:Ol.b6 c=0) (h1:eH w (.slice ca c.l.length cc) c.l) (hk:c.keep<18446744073709551616) (hn:n<=1000) :
  Calls prog 14 #[.agg #[.pointer (some ⟨Bd,0,none⟩),.pointer (some ⟨Be,0,none⟩),.pointer (some ⟨Ba,0,none⟩)],.agg #[.slice ca c.l.length cc,.int .u64 (c.keep:Nat),.int .i64 c.nb,.slice da dl dc,.int .i64 c.pol]] w λe w'=>e=.returned (.bool true)/\Below w.heap.size w w':=by
 obtain ⟨OM,Jb⟩:∃ o:Obj,o=.cells #[.pointer (some ⟨Bd,0,none⟩),.pointer (some ⟨Be,0,none⟩),.pointer (some ⟨Ba,0,none⟩)] 36:=⟨_,rfl⟩;obtain ⟨OC,hW⟩:∃ o:Obj,o=.cells #[.slice ca c.l.length cc,.int .u64 (c.keep:Nat),.int .i64 c.nb,.slice da dl dc,.int .i64 c.pol] 27:=⟨_,rfl⟩;have Hz:Hid (Below w.heap.size w ((w.alloc OM).alloc OC)):=((Q0 w.heap.size w).alloc (lR) OM).alloc (by simp) OC;obtain ⟨Bk,HF⟩:∃ B,B=w.heap.size:=⟨_,rfl⟩;obtain ⟨Bc,H5⟩:∃ B,B=w.heap.size+1:=⟨_,rfl⟩;have hp:((w.alloc OM).alloc OC).heap[Bk]?=some OM:=by rw [HF];exact bj (aD w OM rfl) _
 have H6:((w.alloc OM).alloc OC).heap[Bc]?=some OC:=by rw [H5];exact aD (w.alloc OM) OC (by simp)
 have H2:=qI hp;have HI:=qI H6;clear hp H6;subst Jb hW;obtain ⟨hu,H9,HX,h4⟩:=zu hcf;have Hb:=qI hM;have hw:=qI (room_le hro);have h8:Hid (0<=t.m.nb/\t.m.nb<=1125899906842624):=by unfold Hid;rw [htm];exact H9
 have h0:=qI hu;have H1:=qI h1;have HL:Hid (Ost.dif (ae az c.l) c.keep=t.m.op):=by unfold Hid;rw [htm];rfl
 have Hu:Hid (c.nb=t.m.nb):=by unfold Hid;rw [htm];rfl
 clear hM hro hcf h1 hu H9 HX h4 htm
 go_enter func14,ntmps14
 go_wp2_with fail
 (try rw [<- H5]);(try rw [<- HF]);generalize ((w.alloc (Ae Bd Be Ba)).alloc (.cells #[.slice ca c.l.length cc,.int .u64 (c.keep:Nat),.int .i64 c.nb,.slice da dl dc,.int .i64 c.pol] 27))=X at *;clear HF H5;refine (tN ca cc c.l X (H1.out.below Hz.out)).mono ?_;rintro e W1 ⟨Hm,_,hc⟩;obtain ⟨tb,tg,tc,rfl,Hh⟩:=Hm h0.out;have Ja:Bk<X.heap.size:=(gS H2.out).1;have hX:Bc<X.heap.size:=(gS HI.out).1;have Ha:Hid (∀ V,Below X.heap.size X V->V.heap[Bk]?=some (Ae Bd Be Ba)/\V.heap[Bc]?=some (.cells #[.slice ca c.l.length cc,.int .u64 (c.keep:Nat),.int .i64 c.nb,.slice da dl dc,.int .i64 c.pol] 27)/\Below w.heap.size w V):=λV hb=>⟨(hb.block Bk Ja).trans H2.out,(hb.block Bc hX).trans HI.out,Hz.out.trans (hb.mono Hz.out.size)⟩
 have Hp:=qI hc;have Hr:=qI Hh;have H4:=Hh.len;have Hq:ae az c.l<18446744073709551616:=Ost.eW az c.l c.l.length H4;have hD:=iI (ae az c.l) c.keep Hq hk;have ho:Hid (t.m.op<18446744073709551616):=by unfold Hid;rw [<- HL.out];exact Ost.gX _ Hq
 rw [HL.out] at hD;rw [Hu.out] at Ha;clear Hm hc Hh HL Hu H2 HI H1 Hz;have Hw:Hid (∀ V,Below W1.heap.size W1 V->Calls prog 36 #[.pointer (some ⟨tb,0,none⟩)] V λe w'=>e=.returned (.int .u64 (ae az c.l:Nat))/\Below V.heap.size V w'):=λV hb=>gu tb tg 0 tc c.l V (Hr.out.below hb)
 have HH:Hid (∀ V,Below W1.heap.size W1 V->(Nv Bc c) V):=λV hb=>aa (Ha.out V (Hp.out.trans (hb.mono Hp.out.size))).2.1 1
 generalize ae az c.l=ch at *
 go_upto_region 4 with fail
 have Hn:Hid (Below W1.heap.size W1 W1.drew):=a6 (Q0 _ _);refine Qo (by kernel_rfl) (HH.out _ Hn.out) λhQ=>?_;generalize W1.drew=V at *;refine tk 0 ?_;refine tk 2 ?_;refine tk 3 ?_;refine rd 1 λK hK=>?_;go_simp
 go_wp2_with fail
 refine (Hw.out _ Hn.out).mono ?_;rintro e V2 ⟨rfl,hf⟩;have HN:=qI (Hn.out.trans (hf.mono Hn.out.size));clear hf
 go_wp2
 refine hK.out _ _ (HH.out _ HN.out) λhQ=>?_;clear hK K;refine tk 4 ?_;refine tk 5 ?_;refine Qn (by kernel_rfl) ?_ _;clear hQ hD Hw HH Hr;have Ho:=qI (Hp.out.trans (HN.out.mono Hp.out.size));clear Hp HN Hn;have H7:=qI (Ha.out V2 Ho.out).2.1
 go_upto_region 5 with fail
 refine nA (G:=λF=>frE (.pointer (some ⟨Bk,0,none⟩)) (.pointer (some ⟨Bc,0,none⟩)) (.int .u64 (t.m.op:Nat)) (F 8) F) (by kernel_rfl) (λF1=>Mu _ _ F1 V2 Bc t.m.op c.keep c.l.length cc dl dc ca da t.m.nb c.pol H7.out ho.out) ?_;rintro a W3 ⟨Br,F1,rfl,H3,Jg,hL⟩;have hH:=qI H3;have Hx:=qI (Ho.out.trans (hL.mono Ho.out.size));have HJ:Br<W3.heap.size:=(gS H3).1;have Jo:=Ho.out.size;clear H3 hL Ho H7;have hl:=qI (Hb.out.keep (Ha.out W3 Hx.out).2.2);have z2:W3.cell? ⟨Bk,2,none⟩=some (.pointer (some ⟨Ba,0,none⟩)):=aa (Ha.out W3 Hx.out).1 2;simp only [frE,tlS,Nat.reduceAdd];(try dsimp only)
 go_wp2_with fail
 clear z2;refine (M7 hl.out).mono ?_;rintro e W4 ⟨wa,wg,wc,rfl,_,_,HA⟩;have HV:=qI (Hx.out.trans (HA.mono Hx.out.size));have hF:=qI ((HA.block Br HJ).trans hH.out);have Jd:=HA.size;clear HA Hx hH hl;have Hs:=qI (HV.out.alloc HV.out.size (lL));have hS:=qI (bj hF.out (lL));have HW:Hid (bR (W4.alloc (lL)) W4.heap.size λ_=>false):=bR.made W4 104 λ_=>false;have Jn:(W4.alloc (lL)).heap.size=W4.heap.size+1:=by simp
 have hC:=qI (aD W4 (lL) rfl);obtain ⟨Bi,HM⟩:∃ B,B=W4.heap.size:=⟨_,rfl⟩;rw [<- HM] at HW hC;have h6:W3.heap.size<=Bi:=by omega
 go_upto_region 8 with fail
 rw [<- HM];generalize W4.alloc (lL)=W5 at *;have hN:=qI (Hb.out.keep (Ha.out W5 Hs.out).2.2);have z2:W5.cell? ⟨Bk,2,none⟩=some (.pointer (some ⟨Ba,0,none⟩)):=aa (Ha.out W5 Hs.out).1 2
 go_wp2_with fail
 clear z2;refine (pw hN.out).mono ?_;rintro e U ⟨la,lc,rfl,hh,Hj⟩;have Hf:Br<W5.heap.size:=by omega
 have He:Bi<W5.heap.size:=by omega
 have HT:Br≠Bi:=by omega
 have Hv:=qI (Hs.out.trans (Hj.mono Hs.out.size));have hB:=qI ((Hj.block Br Hf).trans hS.out);have hG:=qI (HW.out.below Hj);have hJ:=qI ((Hj.block Bi He).trans hC.out);have hE:=qI hh;have Jp:=Hj.size;have Jl:w.heap.size<=X.heap.size:=(Ha.out X (Q0 _ _)).2.2.size;have hx:Hid (aK U (λj=>j=Br\/j=Bi) Ba Bd Be Bm t dk n):=Hb.out.grow (Ha.out U Hv.out).2.2 (λj e=>.inr (by omega)) (λj e=>by omega);obtain ⟨s,hs⟩:=Hb.out.inv.left;have HS:=qI hs;have HY:Hid (aq (fresh W5.heap.size U) U):=Is _ _;have hV:=Ol.rG t.m.op;have HQ:Hid (U.heap[Br]?=some (.cells #[.int .i64 (1000*(Ost.cnt t.m.op:Int) - Ol.aY ((t.hs.take 0).map Hd.pod)),.int .i64 (t.m.nb - Ol.bA ((t.hs.take 0).map Hd.pod))] 60 (0,0))):=by
  unfold Hid;have e1:Ol.aY ((t.hs.take 0).map Hd.pod)=0:=rfl;have e2:Ol.bA ((t.hs.take 0).map Hd.pod)=0:=rfl;rw [e1,e2,Int.sub_zero,Int.sub_zero];exact hB.out
 clear hh Hj hs HV hF Hs hS HW hN hB HM
 go_wp2_with fail
 refine jQ (G:=(λF=>frS (.pointer (some ⟨Bk,0,none⟩)) (.int .u64 (t.m.op:Nat)) (.pointer (some ⟨Br,0,none⟩)) (.slice wa t.ds.length wc) (.pointer (some ⟨Bi,0,none⟩)) (.slice la t.hs.length lc) (.slice none 0 0) (.int .i64 0) (F 14) (F 16) (F 17) (F 18) (F 19) (F 20) F)) (by kernel_rfl) (λF2=>Ns _ _ _ _ _ _ _ F2 (fresh W5.heap.size U) U Br Bi lc wc la wa t s HY.out (by rw [bH];exact lR) (by omega) (by omega) HT (py Hf) (py He) hE.out Hb.out.inv HS.out ho.out h8.out hV HQ.out hG.out) ?_;rintro a W6 ⟨pv,zq,F2,rfl,H8,HB,hg,Hk,Hi⟩;obtain ⟨ra,rc,hv⟩:=fF HB;obtain ⟨zs,HR⟩:∃ zs,zs=zq.map Prod.fst:=⟨_,rfl⟩;rw [<- HR] at hv HB;subst hv;have h7:Bk<U.heap.size:=by omega
 have HU:=qI ((Hi.block Bk h7 (by omega)).trans (Ha.out U Hv.out).1);have HK:Hid (aK W6 (λj=>j=Br\/j=Bi) Ba Bd Be Bm t dk n):=hx.out.other Hi (λj hj arr z e=>by
  rcases hj with hj|hj
  ·rw [hj,HQ.out] at e;injection e with e
   injection e with _ e2
   exact absurd e2 (by decide)
  ·rw [hj,hJ.out] at e;injection e with e
   injection e with _ e2
   exact absurd e2 (by decide))
 have HO:Hid (Below w.heap.size w W6):=pu (Ha.out U Hv.out).2.2 (Ha.out U Hv.out).2.2.size Hi (λj hj=>by omega);have hO:=qI (nE HY.out Hi (λj o e=>by rcases e with e|e;rw [e];exact py Hf o;rw [e];exact py He o));have Hl:=qI Hk;have Ht:=qI (Ad (yO HB));have h9:=qI hg;have ht:=qI H8;have hr:=qI HR;have Ji:=Hi.size;clear H8 HB hg Hk Hi hx HY HQ hG hE Hv hJ HR;have z1:W6.cell? ⟨Bk,1,none⟩=some (.pointer (some ⟨Be,0,none⟩)):=aa HU.out 1;simp only [frS,tlS,Nat.reduceAdd];(try dsimp only)
 go_wp2_with fail
 clear z1;refine (Nt HK.out hn).mono ?_;rintro e W7 ⟨na,nc,ys,rfl,hP,hA,Hy,Hc⟩;have H0:ys.length=zs.length:=by
  have e1:=Hy.length_eq;have e2:=congrArg List.length ht.out;rw [Q9] at e1 e2;rw [hr.out,Q9];omega
 rw [H0];have Je:=sd Hb.out.inv.held;have Jh:zs.length<=36:=by
  have e1:=Hy.length_eq;rw [Q9] at e1;omega
 have hT:=qI (HK.out.keep Hc);have h2:=qI (hO.out.trans (aq.of_below Hc));have hR:=qI (HO.out.trans (Hc.mono HO.out.size));have HG:Bk<W6.heap.size:=by omega
 have hY:=qI ((Hc.block Bk HG).trans HU.out);have Hg:=qI ((Hc.block Br (by omega)).trans Hl.out);have HD:=qI (Ht.out.below Hc);have h3:=qI hP;have h5:=qI hA;have hU:=qI Hy;have ha:=qI H0;clear hP hA Hy H0 Hc HK hO HO HU Hl Ht;have HE:Hid (∀ z∈zs,aS W7 z/\z.dn<=1000/\aj W7 z∈ap t.hs):=λz hz=>by
  rw [hr.out] at hz;obtain ⟨q,hq,rfl⟩:=Qk.1 hz;obtain ⟨d1,d2,d3⟩:=Nu (h9.out q hq) h2.out;have hm:q.2∈ap t.hs:=by rw [<- ht.out];exact Qk.2 ⟨q,hq,rfl⟩
  refine ⟨d1,?_,by rw [d2];exact hm⟩
  have:=(yC Hb.out.inv.held _ hm).2.2
  omega
 have Jc:Hid (∀ i,i<zs.length->∃ j,j<ys.length/\aj W7 (rv ys j)=aj W7 (rv zs i)):=λi hi=>by
  have h1:=(HE.out _ (kw hi)).2.2;rw [<- hU.out.mem_iff] at h1;obtain ⟨y,hy,he⟩:=Qk.1 h1;obtain ⟨j,hj,e⟩:=List.getElem_of_mem hy;exact ⟨j,hj,by rw [<- he,<- e];simp [rv,hj]⟩
 obtain ⟨RA,HP⟩:∃ q,q=1000*(Ost.cnt t.m.op:Int) - Ol.aY ((t.hs.take t.hs.length).map Hd.pod):=⟨_,rfl⟩;obtain ⟨RC,HZ⟩:∃ q,q=t.m.nb - Ol.bA ((t.hs.take t.hs.length).map Hd.pod):=⟨_,rfl⟩;rw [<- HP,<- HZ] at Hg;have Jk:0<=RA:=by
  rw [HP,Qh]
  have:=hw.out.1
  omega
 have Jm:0<=RC:=by
  rw [HZ,Qh]
  have:=hw.out.2
  omega
 have Jf:decide (RA<0)=false:=Q7 (by omega);have Jj:decide (RC<0)=false:=Q7 (by omega);clear HP HZ;have z2:W7.cell? ⟨Bk,2,none⟩=some (.pointer (some ⟨Ba,0,none⟩)):=aa hY.out 2;have y0:W7.cell? ⟨Br,0,none⟩=some (.int .i64 RA):=aa Hg.out 0;have y1:W7.cell? ⟨Br,1,none⟩=some (.int .i64 RC):=aa Hg.out 1
 go_wp2_with fail
 refine (MW hT.out).mono ?_;rintro e W8 ⟨⟨s2,HC,rfl⟩,rfl⟩;rw [HS.out] at HC;injection HC with HC
 subst HC
 go_wp2_with fail
 clear z2 y0 y1;refine jQ (G:=λF=>frT (.slice ra zs.length rc) (.slice na zs.length nc) (.int .i64 0) (F 23) (F 24) F) (by kernel_rfl) (λF3=>ML F3 W8 ra na rc nc zs.length zs ys ha.out.symm HD.out h3.out (λz hz=>⟨(HE.out z hz).1,(HE.out z hz).2.1⟩) h5.out (by omega) (by have:=ha.out;omega) Jc.out) ?_;rintro a W9 ⟨F3,rfl,hI⟩;have hZ:=qI (hR.out.trans (hI.mono hR.out.size));clear hI;simp only [frT,tlS,Nat.reduceAdd];(try dsimp only)
 go_wp2
 go_ret;exact ⟨rfl,hZ.out⟩
end
end
