import Derived.Test.YtbmmnflgnmjboaaGreatDoorA32
set_option maxRecDepth 100000
set_option maxHeartbeats 16000000
namespace Go.Proofs.YtbmmnflgnmjboaaGreatDoor
section
open RowKit Shelf
open Qos (Nd Ct Pd nd ct pd ag)
open Sv (Gv Hd gv hd gsF aE aI)
open Dvs (Dv dv aX)
open S1 (Tab kK)
theorem Ml {K:Nat->Prop} {W W':World} (h:bH W) (ha:Apart K W W') (hK:¬ K 0):bH W':=by
 refine ⟨?_,Q1 h.2 ha.size⟩;have h1:=h.1;unfold Tab Lib.TabIs World.var? at h1 ⊢;simp only [kK,Option.bind_some] at h1 ⊢;rw [ha.block _ h.2 hK];exact h1
theorem Mm (L:List HS) (nm:ByteArray):(kept L nm).map HS.h=Ol.fk (L.map HS.h) nm:=by
 unfold kept Ol.fk
 induction L with
 | nil=>rfl
 | cons x l ih=>
  rw [Qq]
  by_cases e:x.h.pod.nm=nm
  ·rw [List.filter_cons_of_neg (by simp [e]),List.filter_cons_of_neg (by simp [e])];exact ih
  ·rw [List.filter_cons_of_pos (by simp [e]),List.filter_cons_of_pos (by simp [e]),Qq,ih]
theorem ph {rs ws:List Rn} (h:∀ a∈ws,a∈rs):dJ rs ws=0:=by
 unfold dJ;rw [List.length_eq_zero_iff,List.filter_eq_nil_iff];intro a ha
 simpa using h a ha
theorem sH {hs hs':List Hd} (h:hs'.Sublist hs):∀ a∈au hs',a∈au hs:=by
 intro a ha;obtain ⟨x,hx,hr⟩:=List.mem_flatMap.1 ha;exact List.mem_flatMap.2 ⟨x,h.subset hx,hr⟩
def b8 (hs:List Hd) (nms:List ByteArray):List Hd:=nms.foldl Ol.fk hs
def du (L:List HS) (nms:List ByteArray):List HS:=nms.foldl kept L
theorem Mn {hs:List Hd} {nms:List ByteArray} {k:Nat} (hk:k<nms.length):b8 hs (nms.take (k+1))=Ol.fk (b8 hs (nms.take k)) nms[k]:=by
 unfold b8;rw [Qa hk,List.foldl_append];rfl
theorem Mo {L:List HS} {nms:List ByteArray} {k:Nat} (hk:k<nms.length):du L (nms.take (k+1))=kept (du L (nms.take k)) nms[k]:=by
 unfold du;rw [Qa hk,List.foldl_append];rfl
theorem lH (hs:List Hd) (nms:List ByteArray):(b8 hs nms).Sublist hs:=by
 unfold b8
 induction nms generalizing hs with
 | nil=>exact List.Sublist.refl _
 | cons a l ih=>exact (ih _).trans (Ol.rt hs a)
theorem pi (L:List HS) (nms:List ByteArray):(du L nms).Sublist L:=by
 unfold du
 induction nms generalizing L with
 | nil=>exact List.Sublist.refl _
 | cons a l ih=>exact (ih _).trans List.filter_sublist
theorem zP (L:List HS) (nms:List ByteArray):(du L nms).map HS.h=b8 (L.map HS.h) nms:=by
 unfold du b8
 induction nms generalizing L with
 | nil=>rfl
 | cons a l ih=>rw [List.foldl_cons,List.foldl_cons,ih,Mm]
theorem Mp {t:Ol.St} (h:Ol.Inv t) (nms:List ByteArray):Ol.Inv ⟨t.m,t.ds,b8 t.hs nms⟩:=by
 obtain ⟨s,hs⟩:=h.left;exact ⟨h.devs,Ol.ru h.held (lH t.hs nms),Ol.Gi hs (lH t.hs nms)⟩
theorem zQ {M:Nat->Prop} {w W:World} {g cap:Nat} {L:List HS} (hr:bZ W g cap (λk x=>k<L.length/\x=ce L k)) (hM:∀ j,M j->j<w.heap.size) (hg:w.heap.size<=g) (hl:L.length<=cap) (hc:cap<=maxLen) (old:∀ x∈L,aD (ah M w) (.slice x.ca x.cn x.cc) x.h.pod.cs/\bl (ah M w) (.slice x.ga x.gn x.gc) x.h.gs) (ha:Apart M w W):aQ (ah M W) (.slice (some ⟨g,0,none⟩) L.length cap) (L.map HS.h):=by
 have hle:az (ah M w) (ah M W):=bn (λj hj hn=>⟨hn,ha.block j hj hn⟩) ha.size;have Ha:=Mb hr hg hl hc
 have:=zH (N:=w.heap.size) (l:=L.map HS.tri) (M:=M) (by rw [Q9];exact Ha) hM λx hx=>by
  obtain ⟨y,hy,rfl⟩:=Qk.1 hx;exact ⟨(old y hy).1.le hle,(old y hy).2.le hle⟩
 rw [List.map_map] at this;exact this
theorem Mq {W W':World} {g Be Bd Bm n:Nat} {sn sk:Sd} {C:Rn->Prop} (h:bB W Be Bd Bm n sn sk C) {cap:Nat} {R:Nat->HS->Prop} (hr:bZ W g cap R) (hg:W.grownBy W' (some g)) (hn:g≠Bd/\g≠Bm/\g≠Be):bB W' Be Bd Bm n sn sk C:=
 pe h (ey hg (λj e _=>by injection e with e;exact e.symm)) hn λarr z e=>by
  obtain ⟨cur,h1,_⟩:=hr;rw [h1] at e;cases e
section
variable {N:Nat->Prop} {Ba Bd Be Bm:Nat} {t:Ol.St} {dk:Dk} {n:Nat} {p:Pd}
theorem aA.then {w W2 W3:World} {m:Ol.Mc} {ds:List Dv} {hs:List Hd} {dk':Dk} {n' tb b c pb db:Nat} {v v0:Value} {ao:Option Addr} {pc cp0 pb0:Nat} {s:Ol.Sk} (h:aA w N Ba Bd Be Bm t dk n) (hz:w.heap.size<=W2.heap.size) (hT:cM (ah (four N Ba Bd Bm) W2) tb b 0 c m) (h0:0<m.l.length) (hH:aQ (ah (four N Ba Bd Bm) W2) v hs) (ha:Apart (λj=>j=Ba) W2 W3) (hO:bi W3 Ba tb m Bd Be v s.cp pb) (hS:dj W3 pb db ao pc s) (hpb:W2.heap.size<=pb) (hdb:0<s.ds.length->W2.heap.size<=db) (hE:bB W2 Be Bd Bm n' dk'.n dk'.k (λa=>a∈au hs)) (hO2:bi W2 Ba tb m Bd Be v0 cp0 pb0) (hi:Ol.Inv ⟨m,ds,hs⟩) (hl:Ol.left m ds hs=some s) (hc:Calm dk') (htx:(aI hs).length<=6000):aA W3 N Ba Bd Be Bm ⟨m,ds,hs⟩ dk' n':=by
 have z4:=ha.size;have hf:∀ j,j<W2.heap.size->¬ four N Ba Bd Bm j->W3.heap[j]?=W2.heap[j]?:=λj hj hn=>ha.block j (by omega) (λe=>hn (.inr (.inl e)))
 obtain ⟨l1,l2,l3⟩:=h.eng.lt;obtain ⟨q1,q2,q3,q4,q5,q6,q7,q9,q8⟩:=h;have l4:Ba<w.heap.size:=by
  obtain ⟨_,_,_,_,_,_,_,_,_,k1,_⟩:=q8;exact k1.lt
 have f4:∀ j,W2.heap.size<=j->¬ four N Ba Bd Bm j:=λj hj e=>by
  rcases e with e|e|e|e
  ·have:=q7 j e;omega
  all_goals omega
 exact ⟨hi,hc,h0,pe hE ha q5 hO2.notInt,q5,q6,λj hj=>by have:=q7 j hj;omega,htx,tb,b,c,v,pb,db,ao,pc,s,hO,hH.le (bn (λj hj hn=>⟨hn,hf j hj hn⟩) (by omega)),nr hT h0 hf (by omega),hl,hS,f4 pb hpb,λh=>f4 db (hdb h)⟩
end
end
section
open RowKit Shelf
open Qos (Nd Ct Pd nd ct pd ag)
open Sv (Gv Hd gv hd gsF aE aI)
theorem Mr (l:List Value) (o:Nat) (v:Value) (vs:List Value) (h:o<l.length):(l.set o v).take (o+1)++vs++(l.set o v).drop (o+1+vs.length)=l.take o++(v :: vs)++l.drop (o+(v :: vs).length):=by
 have e1:(l.set o v).take (o+1)=l.take o++[v]:=by
  rw [Qa (by simpa using h),List.take_set_of_le (lR)]
  simp
 have e2:(l.set o v).drop (o+1+vs.length)=l.drop (o+(v :: vs).length):=by
  rw [List.drop_set_of_lt (by omega)]
  congr 1
  simp only [Qg];omega
 rw [e1,e2]
 simp
theorem pj {g:Nat} {t:TypeId}:∀ (vs:List Value) (o:Nat) (W:World) (cur:Array Value),W.heap[g]?=some (.cells cur t (0,0))->o+vs.length<=cur.size->(W.setCells g o vs).heap[g]?=some (.cells (cur.toList.take o++vs++cur.toList.drop (o+vs.length)).toArray t (0,0)):=by
 intro vs
 induction vs with
 | nil=>intro o W cur h _;rw [World.setCells,h];simp
 | cons v vs ih=>
  intro o W cur h hl;rw [Qg] at hl;rw [World.setCells,ih (o+1) _ (cur.setIfInBounds o v) (aj h o v) (by simp;omega)];rw [Array.toList_setIfInBounds,Mr _ _ _ _ (by simp;omega)]
theorem Ms (l:List (Hd × Value × Value)) (i:Nat):(l.take i).flatMap av=(l.flatMap av).take (i*4):=by
 induction l generalizing i with
 | nil=>simp
 | cons x l ih=>
  cases i with
  | zero=>simp
  | succ i=>
   rw [List.take_succ_cons,List.flatMap_cons,List.flatMap_cons,ih i,List.take_append];have h4:(av x).length=4:=rfl;rw [List.take_of_length_le (l:=av x) (by omega),h4,show (i+1)*4 - 4=i*4 by omega]
theorem Mt (l:List (Hd × Value × Value)) (i:Nat):(l.drop i).flatMap av=(l.flatMap av).drop (i*4):=by
 induction l generalizing i with
 | nil=>simp
 | cons x l ih=>
  cases i with
  | zero=>simp
  | succ i=>
   rw [List.drop_succ_cons,List.flatMap_cons,ih i,List.drop_append];have h4:(av x).length=4:=rfl;rw [List.drop_eq_nil_of_le (show (av x).length<=_ by omega),h4,show (i+1)*4 - 4=i*4 by omega,List.nil_append]
theorem sI (l:List (Hd × Value × Value)):(l.flatMap av).length=l.length*4:=by
 induction l with
 | nil=>rfl
 | cons x l ih=>
  rw [List.flatMap_cons,Q2,ih,Qg];have h4:(av x).length=4:=rfl;omega
theorem zR (l:List (Hd × Value × Value)) (i:Nat) (y:Hd × Value × Value):(l.take i++y :: l.drop i).flatMap av=(l.flatMap av).take (i*4)++av y++(l.flatMap av).drop (i*4):=by
 rw [List.flatMap_append,List.flatMap_cons,Ms,Mt,List.append_assoc]
theorem Mu (A Z ys B:List Value) (k m:Nat) (hA:A.length=k*4) (hy:ys.length=4) (hB:B.length=m*4):let c1:=(A++Z).take (k*4)++ys++(A++Z).drop (k*4+ys.length);(c1.take ((k+1)*4)++B++c1.drop ((k+1)*4+B.length))=A++ys++B++Z.drop ((m+1)*4):=by
 intro c1;have e1:c1=A++ys++Z.drop 4:=by
  show (A++Z).take (k*4)++ys++(A++Z).drop (k*4+ys.length)=_
  rw [hy,List.take_append_of_le_length (by omega),List.take_of_length_le (by omega),List.drop_append,List.drop_eq_nil_of_le (by omega),List.nil_append]
  congr 2
  omega
 have hl:(A++ys).length=(k+1)*4:=by rw [Q2];omega
 rw [e1,List.take_append_of_le_length (by omega),List.take_of_length_le (by omega),List.drop_append,List.drop_eq_nil_of_le (by omega),List.nil_append,List.drop_drop]
 congr 2
 omega
theorem Mv (xs R ys:List Value) (i n:Nat) (hx:xs.length=n*4) (hi:i<n) (hy:ys.length=4):let c1:=(xs++R).take ((i+1)*4)++xs.drop (i*4)++(xs++R).drop ((i+1)*4+(xs.drop (i*4)).length);(c1.take (i*4)++ys++c1.drop (i*4+ys.length))=xs.take (i*4)++ys++xs.drop (i*4)++R.drop 4:=by
 intro c1;have e1:c1=xs.take ((i+1)*4)++xs.drop (i*4)++R.drop 4:=by
  show (xs++R).take ((i+1)*4)++xs.drop (i*4)++(xs++R).drop ((i+1)*4+(xs.drop (i*4)).length)=_
  have e0:(xs++R).drop ((i+1)*4+(xs.length - i*4))=R.drop 4:=by
   rw [show (i+1)*4+(xs.length - i*4)=xs.length+4 by omega,List.drop_append,List.drop_eq_nil_of_le (show xs.length<=_ by omega),List.nil_append]
   congr 1
   omega
  rw [List.length_drop,List.take_append_of_le_length (by omega),e0]
 have hl:(xs.take ((i+1)*4)).length=(i+1)*4:=by rw [Qu];omega
 rw [e1,List.append_assoc (xs.take ((i+1)*4)),List.take_append_of_le_length (by omega),List.take_take,Nat.min_eq_left (by omega),List.drop_append,List.drop_eq_nil_of_le (by omega),List.nil_append,hl,hy,show i*4+4 - (i+1)*4=0 by omega,List.drop_zero,<- List.append_assoc]
theorem Mw (W:World) (o:Option Nat):W.grownBy W.drew o:=dD (show Below W.heap.size W W.drew from ⟨rfl,rfl,rfl,lR,λ_ _=>rfl⟩) o
theorem My {l:List (Hd × Value × Value)} {i:Nat} (hi:i<=l.length) (hl:l.length<=100):sF l i:=by
 by_cases he:i=l.length
 ·rw [he];exact zG hl
 ·have Ho:i<l.length:=by omega
  intro base v y a w Hn hy Hs hb Hx ⟨arr,tyA,Hc⟩ Hm;have Hb:=sI l;have h4:(av y).length=4:=rfl
  rcases Hn.2 with ⟨_,h0⟩|⟨g,cap,cur,hv,hg,Hf,HC,Hq,HD,Hr⟩
  ·omega
  ·subst hv;obtain ⟨vb,voff,spot⟩:=a;have Hz:w.cell? ((⟨vb,voff,spot⟩:Addr).add 0)=some (.string y.1.pod.nm):=hy 0 _ rfl;have Hg:spot=none:=by simpa [Addr.add] using World.cell?_spot Hz
   subst Hg;have HI:vb≠g:=λe=>Hx (by rw [<- e];rfl)
   have Ht:∀ j u,(l.flatMap av)[j]?=some u->w.cell? ⟨g,j,none⟩=some u:=λj u hj=>by
    have Hw:j<l.length*4:=by
     have:=(List.getElem?_eq_some_iff.1 hj).1
     omega
    rw [<- Hr,List.getElem?_take,if_pos Hw,Array.getElem?_toList] at hj
    simp [World.cell?,Hf,hj]
   have Hv:∀ j u,(av y)[j]?=some u->w.cell? ⟨vb,voff+j,none⟩=some u:=λj u hj=>by
    have:=hy j u hj
    rwa [Addr.add_lit] at this
   have Hp:∀ u∈l.flatMap av,u.oneCell'=true:=λu hu=>by
    obtain ⟨x,hx,hu⟩:=List.mem_flatMap.1 hu;exact Hm x hx u hu
   have HF:cur.toList=l.flatMap av++cur.toList.drop (l.length*4):=by rw [<- Hr,List.take_append_drop]
   have HG:cur.toList.length=cap*4:=by simpa using HD
   by_cases hroom:l.length+1<=cap
   ·refine (FQ g l.length cap i vb voff 1 (l.flatMap av) (av y) w Ho hroom (by unfold maxLen at Hq;omega) HI Hb h4 Ht (λj hj=>by
     have:j<cur.size:=by omega
     simp [World.cell?,Hf,this]) (λj=>aq Hf j) Hv Hp Hs tyA 57 arr.size cur.size (by simp [World.shape?,Hc]) (by simp [World.shape?,Hf]) (by omega) (aq Hc voff) (aq Hc arr.size)).mono ?_
    rintro e w' ⟨rfl,rfl⟩;refine ⟨_,rfl,?_,((Mw w (some g)).trans (nw g _ _ _)).trans (nw g _ _ _)⟩;have k1:=pj (l.flatMap av |>.drop (i*4)) ((i+1)*4) w.drew cur Hf (by rw [List.length_drop,Hb];omega);have HH:(i+1)*4+((l.flatMap av).drop (i*4)).length<=cur.toList.length:=by rw [List.length_drop,Hb];omega
    have k2:=pj (av y) (i*4) _ _ k1 (by
     simp only [List.size_toArray,Q2,Qu,List.length_drop,Hb,h4];omega)
    simp only at k2;have Ha:=Mv (l.flatMap av) (cur.toList.drop (l.length*4)) (av y) i l.length Hb Ho h4;dsimp only at Ha;rw [<- HF] at Ha;rw [Ha] at k2;refine ⟨by rw [sI];simp;omega,.inr ⟨g,cap,_,rfl,hg,k2,hroom,Hq,?_,?_⟩⟩
    ·simp only [List.size_toArray,Q2,Qu,List.length_drop,Hb,h4];omega
    ·rw [zR,List.toList_toArray,List.take_append_of_le_length (by simp only [Q2,Qu,List.length_drop,Hb,h4];omega),List.take_of_length_le (by simp only [Q2,Qu,List.length_drop,Hb,h4];omega)]
   ·refine (FX g l.length cap i vb voff 1 (l.flatMap av) (av y) w Ho HC (by omega) hl Hb h4 Ht Hv Hp Hs).mono ?_;rintro e w' ⟨G,HE,HA,rfl,rfl⟩;have Hj:∀ k,(Builtin.zeroCells er.cells k).size=k*4:=λk=>by
     have Hj:er.cells.size=4:=rfl;simp only [Builtin.zeroCells,Array.size_map,Array.size_range,Hj]
    obtain ⟨ROW,He⟩:∃ ROW,ROW=((l.flatMap av).take (i*4)).toArray++Builtin.zeroCells er.cells (l.length+1 - i)++Builtin.zeroCells er.cells (G - (l.length+1)):=⟨_,rfl⟩;have Hi:((l.flatMap av).take (i*4)).length=i*4:=by rw [Qu,Hb];omega
    have Hl:((l.flatMap av).drop (i*4)).length=(l.length - i)*4:=by rw [List.length_drop,Hb];omega
    have Hy:ROW.size=G*4:=by
     rw [He];simp only [Array.size_append,List.size_toArray,Hi,Hj];omega
    have HB:ROW.toList=(l.flatMap av).take (i*4)++((Builtin.zeroCells er.cells (l.length+1 - i)).toList++(Builtin.zeroCells er.cells (G - (l.length+1))).toList):=by
     rw [He];simp
    rw [<- He];clear He;have Hh:(w.alloc (.cells ROW 57)).drew.heap[w.heap.size]?=some (.cells ROW 57 (0,0)):=aF w _ rfl;have k1:=pj (av y) (i*4) _ ROW Hh (by rw [h4];omega);obtain ⟨W1,Hk⟩:∃ W1,W1=((w.alloc (.cells ROW 57)).drew.setCells w.heap.size (i*4) (av y)).drew:=⟨_,rfl⟩;have k1':W1.heap[w.heap.size]?=some (.cells (ROW.toList.take (i*4)++av y++ROW.toList.drop (i*4+(av y).length)).toArray 57 (0,0)):=by rw [Hk];exact k1
    have k2:=pj ((l.flatMap av).drop (i*4)) ((i+1)*4) W1 _ k1' (by
     have:ROW.toList.length=G*4:=by simpa using Hy
     simp only [List.size_toArray,Q2,Qu,List.length_drop,Hb,h4,this];omega)
    have Hu:Below w.heap.size w W1:=by
     rw [Hk];have b1:Below w.heap.size w (w.alloc (.cells ROW 57)).drew:=a6 ((Q0 w.heap.size w).alloc (lR) _);exact a6 (b1.grown (nw w.heap.size _ _ _) b1.size (λj hj=>by injection hj with hj;omega))
    have HJ:Below w.heap.size w (W1.setCells w.heap.size ((i+1)*4) ((l.flatMap av).drop (i*4))):=Hu.grown (nw w.heap.size _ _ _) Hu.size (λj hj=>by injection hj with hj;omega);rw [<- Hk];clear Hk k1 k1';simp only at k2;have Ha:=Mu ((l.flatMap av).take (i*4)) ((Builtin.zeroCells er.cells (l.length+1 - i)).toList++(Builtin.zeroCells er.cells (G - (l.length+1))).toList) (av y) ((l.flatMap av).drop (i*4)) i (l.length - i) Hi h4 Hl;dsimp only at Ha;rw [<- HB] at Ha;rw [Ha] at k2;refine ⟨_,rfl,⟨by rw [sI];simp;omega,.inr ⟨w.heap.size,G,_,rfl,hb,k2,HE,HA,?_,?_⟩⟩,dD HJ _⟩
    ·simp only [List.size_toArray,Q2,Hi,Hl,h4,List.length_drop,Array.length_toList,Hj];omega
    ·rw [zR,List.toList_toArray,List.take_append_of_le_length (by simp only [Q2,Hi,Hl,h4];omega),List.take_of_length_le (by simp only [Q2,Hi,Hl,h4];omega)]
end
section
open RowKit Shelf
open Qos (Nd Ct Pd nd ct pd ag)
open Sv (Gv Hd gv hd gsF aE aI)
open Dvs (Dv dv aX)
attribute [local go_sem] Oper.semAt_some
theorem zS (N:Nat->Prop) (Ba Bd Be Bm:Nat) (t:Ol.St) (dk:Dk) (n:Nat) (nms:List ByteArray) (nb no nc:Nat) (w:World) (hM:aA w N Ba Bd Be Bm t dk n) (hnm:∀ k (hk:k<nms.length),w.cell? ⟨nb,no+k,none⟩=some (.string nms[k])) (hnb:nb≠Bd/\nb≠Bm) (hnbl:nb<w.heap.size) (hnml:nms.length<=100) (h0:0<t.hs.length) (hn:n+36<=1000) (ht:∀ W,Apart (three Ba Bd Bm) w W->bH W) :
  Calls Tryz.prog 62 #[.pointer (some ⟨Ba,0,none⟩),.slice (some ⟨nb,no,none⟩) nms.length nc] w λe w'=>e=.returned .nilIface/\(∃ dk' n',(n'<=n/\eX w w' Ba)/\aA w' N Ba Bd Be Bm ⟨t.m,t.ds,b8 t.hs nms⟩ dk' n')/\Apart (three Ba Bd Bm) w w':=by
 have hU:=qI hM;obtain ⟨h1,Hm,Hy,hE,h2,hJ,hG,hF,tb,b,tc,hv,pb,db,ao,pc,s,k1,k2,k3,k4,k5,k6,k7⟩:=hM;obtain ⟨a1,a2,a3⟩:=Ol.bY.1 h1.held;have HN:=qI h1;have HI:=qI h1.held;have Hh:=qI Hm;have Hu:=qI Hy;have HE:=qI hE;have hY:=qI hF;obtain ⟨el1,el2,el3⟩:=hE.lt;obtain ⟨ea1,ea2,ea3⟩:=hE.apart;obtain ⟨ab1,ab2,ab3⟩:=h2;have hw:=k1.lt;obtain ⟨ha,hc,Jc,hV,hZ⟩:=id k2;subst Jc;have ho:=qI k1;have Jb:=qI k2;have hS:=qI k3;have hf:=qI k4;have HQ:=qI k5;have H1:=qI k6;have hA:=qI k7;have HT:=qI ht;have hK:=qI hnm;have H7:=qI hnb;have hq:Hid (∀ j,four N Ba Bd Bm j->j<w.heap.size):=λj hj=>by
  rcases hj with e|e|e|e
  ·exact hG j e
  all_goals omega
 have x7:w.cell? ⟨Ba,7,none⟩=some (.slice ha t.hs.length hc):=ad k1 7;have h8:=k3.op;have HJ:Hid (aX t.ds):=Dvs.ie h1.devs;clear h1 Hm Hy hE hJ hG hF k1 k2 k3 k4 k5 k6 k7 a2 a3 hV hZ ht hnm hnb
 go_enter Tryz.func62,Tryz.ntmps62
 go_wp2_with fail
 clear x7;refine (xD (.slice ha t.hs.length hc) t.hs w (ah (four N Ba Bd Bm) w) Jb.out (cB _ _) (by omega)).mono ?_;rintro e C1 ⟨u,cvv,gvv,rfl,Ht,hH,hb⟩;obtain ⟨l,H9,HA,HH⟩:=zI Ht hH;obtain ⟨L,hL⟩:=L9 HH;have Hr:Hid (L.map HS.h=t.hs):=by
  unfold Hid;rw [<- H9,<- hL,List.map_map];rfl
 have Hw:Hid (∀ x∈L,aD (ah (four N Ba Bd Bm) w) (.slice x.ca x.cn x.cc) x.h.pod.cs/\bl (ah (four N Ba Bd Bm) w) (.slice x.ga x.gn x.gc) x.h.gs):=λx hx=>HH x.tri (by rw [<- hL];exact Qk.2 ⟨x,hx,rfl⟩)
 have Jh:0<L.length/\L.length<=12:=by rw [<- Hr.out,Q9] at h0 a1;exact ⟨h0,a1⟩
 obtain ⟨g,cap,hu⟩:∃ g cap,u=.slice (some ⟨g,0,none⟩) L.length cap:=by
  rcases HA.2 with ⟨_,hz⟩|⟨g,cap,cur,h6,_⟩
  ·exfalso;rw [<- hL,Q9] at hz;omega
  ·exact ⟨g,cap,by rw [h6,<- hL,Q9]⟩
 subst hu;rw [<- hL,Q9] at HA;obtain ⟨Hg,hm,Jg,H5⟩:=Ma HA;have Ho:=qI Hg;have HC:=qI H5;have Hx:Hid (Apart (gr Bd Bm) w C1):=Apart.of_below hb;have hI:Hid (bB C1 Be Bd Bm n dk.n dk.k (λa=>a∈au t.hs)):=HE.out.below hb;clear Ht hH hb H9 HA HH hL Hg H5 cvv gvv l
 go_wp2
 go_loopw [5,17] (λnx i wr=>∃ k:Nat,k<=nms.length/\i=.int .i64 k/\nx=.slice (some ⟨g,0,none⟩) (du L (nms.take k)).length cap/\bZ wr g cap (λj x=>j<(du L (nms.take k)).length/\x=ce (du L (nms.take k)) j)/\(∃ n',n'<=n/\bB wr Be Bd Bm n' dk.n dk.k (λa=>a∈au (b8 t.hs (nms.take k))))/\Apart (gr Bd Bm) w wr) (λ_ i _=>nms.length - (intOf i).toNat)
 case atStart=>exact ⟨0,Nat.zero_le _,rfl,rfl,Ho.out,⟨n,lR,hI.out⟩,Hx.out⟩
 case round=>
  obtain ⟨k,hk,rfl,rfl,Hg,⟨n',hP,hE⟩,HX⟩:=hrel;have Hi:=qI Hg;have HB:=qI hE;have Hb:=qI HX;have Jd:=HX.size;have Hl:=qI (pi L (nms.take k));have hO:(du L (nms.take k)).length<=L.length:=(pi L (nms.take k)).length_le;have he:Hid ((du L (nms.take k)).map HS.h=b8 t.hs (nms.take k)):=by unfold Hid;rw [zP,Hr.out]
  clear Hg hE HX hI Hx Ho
  by_cases hlt:k<nms.length
  ·have c0:wr.cell? ⟨nb,no+k,none⟩=some (.string nms[k]):=by
    rw [<- hK.out k hlt];unfold World.cell?
    rw [Hb.out.block nb hnbl (λe=>e.elim H7.out.1 H7.out.2)]
   have hy:=qI (Mo (L:=L) hlt);have hB:=qI (Mn (hs:=t.hs) hlt);obtain ⟨nm,hnm⟩:∃ nm,nm=nms[k]:=⟨_,rfl⟩;rw [<- hnm] at c0 hy hB;clear hnm;have Hn:=qI ((Q0 wr.heap.size wr).alloc (lR) (.cells #[.string nm] 9));have hX:=qI (aF wr (.cells #[.string nm] 9) rfl);have hD:g<wr.heap.size:=Hi.out.lt;have hQ:Hid ((du L (nms.take (k+1))).length<=L.length):=(pi L (nms.take (k+1))).length_le
   go_wp2_with fail
   clear c0;generalize wr.alloc (.cells #[.string nm] 9)=X at *;refine (Mk nm wr.heap.size g cap (du L (nms.take k)) X hX.out (by omega) (Hi.out.block (Hn.out.block g hD)) (by omega) HC.out (by omega)).mono ?_;rintro e W2 ⟨rfl,Hf,He⟩;rw [<- hy.out] at Hf ⊢;have Hz:=qI Hf;have Jf:=He.size;have Ji:=Hn.out.size;have Ha:Hid (Apart (gr Bd Bm) w W2):=⟨He.os.trans (Hn.out.os.trans Hb.out.os),He.tape.trans (Hn.out.tape.trans Hb.out.tape),He.output.trans (Hn.out.output.trans Hb.out.output),by omega,λj hj hn=>(He.block j (by omega) (λe=>by injection e with e;omega)).trans ((Hn.out.block j (by omega)).trans (Hb.out.block j hj hn))⟩;have h9:Hid (bB W2 Be Bd Bm n' dk.n dk.k (λa=>a∈au (b8 t.hs (nms.take k)))):=Mq (HB.out.below Hn.out) (Hi.out.block (Hn.out.block g hD)) He ⟨by omega,by omega,by omega⟩;have x6:W2.cell? ⟨Ba,6,none⟩=some (.pointer (some ⟨Be,0,none⟩)):=ad ((Ha.out.block Ba hw (λe=>e.elim ab1 ab2)).trans ho.out) 6;have HY:Hid ((du L (nms.take (k+1))).map HS.h=b8 t.hs (nms.take (k+1))):=by unfold Hid;rw [zP,Hr.out]
   have hN:Hid (aQ (ah (gr Bd Bm) W2) (.slice (some ⟨g,0,none⟩) (du L (nms.take (k+1))).length cap) (b8 t.hs (nms.take (k+1)))):=by
    have:=zQ (M:=four N Ba Bd Bm) (w:=w) Hf hq.out hm (by have:=hQ.out;omega) HC.out (λx hx=>Hw.out x ((pi L (nms.take (k+1))).subset hx)) ⟨Ha.out.os,Ha.out.tape,Ha.out.output,Ha.out.size,λj hj hn=>Ha.out.block j hj (λe=>hn (.inr (.inr e)))⟩
    rw [HY.out] at this;exact this.le (bn (λj hj hn=>⟨λe=>hn (.inr (.inr e)),rfl⟩) (lR))
   have hC:=qI (se Be Bd Bm n' dk.n dk.k (au (b8 t.hs (nms.take k))) _ _ W2 h9.out hN.out (Ol.ru HI.out (lH _ _)) (by omega));clear Hf He
   go_wp2_with fail
   refine hC.out.mono ?_;rintro e W3 ⟨rfl,⟨n2,H8,H2⟩,H6⟩;have Ja:=qI H2;have Hs:=qI H6;have hW:Hid (n2<=n):=by
    unfold Hid;rw [ph (sH (by rw [hB.out];exact Ol.rt _ _))] at H8;omega
   clear H2 H6 H8 x6 hC
   go_wp2
   go_roundw
   case rel=>exact ⟨k+1,by omega,by go_num,rfl,Hz.out.block (Hs.out.block g (by omega) (by omega) (by omega)),⟨n2,hW.out,Ja.out⟩,⟨Hs.out.os.trans Ha.out.os,Hs.out.tape.trans Ha.out.tape,Hs.out.output.trans Ha.out.output,by have:=Hs.out.size;have:=Ha.out.size;omega,λj hj hn=>(Hs.out.block j (by omega) (λe=>hn (.inl e)) (λe=>hn (.inr e))).trans (Ha.out.block j hj hn)⟩⟩
   case measure=>simp [intOf];omega
  ·have H3:nms.take k=nms:=List.take_of_length_le (by omega);rw [H3] at Hi HB Hl hO he ⊢;clear H3;have H0:Hid (aQ (ah (four N Ba Bd Bm) wr) (.slice (some ⟨g,0,none⟩) (du L nms).length cap) (b8 t.hs nms)):=by
    have:=zQ (M:=four N Ba Bd Bm) (w:=w) Hi.out hq.out hm (by omega) HC.out (λx hx=>Hw.out x (Hl.out.subset hx)) ⟨Hb.out.os,Hb.out.tape,Hb.out.output,Hb.out.size,λj hj hn=>Hb.out.block j hj (λe=>hn (.inr (.inr e)))⟩
    rw [he.out] at this;exact this
   have HF:=qI (Ol.ru HI.out (lH t.hs nms));have hh:=qI (Ol.H8 (lH t.hs nms) (Ol.H9 HI.out) hY.out);have HV:=qI (xf Hh.out HF.out);have hg:Hid (bi wr Ba tb t.m Bd Be (.slice ha t.hs.length hc) s.cp pb):=(Hb.out.block Ba hw (λe=>e.elim ab1 ab2)).trans ho.out;have x5:wr.cell? ⟨Ba,5,none⟩=some (.pointer (some ⟨Bd,0,none⟩)):=ad hg.out 5;have Hj:Hid (Apart (three Ba Bd Bm) w wr):=⟨Hb.out.os,Hb.out.tape,Hb.out.output,Hb.out.size,λj hj hn=>Hb.out.block j hj (λe=>hn (.inr e))⟩;have h5:Hid (be wr Bd dk):=yF HB.out.disk Hh.out;have H4:=qI (xd Bd dk _ (b8 t.hs nms) wr h5.out (.inl Hh.out.2.2) (H0.out.le (cB _ _)) (HT.out _ Hj.out));rw [HV.out.1 hh.out,show ar (((0:Nat)):Int)=.nilIface from rfl] at H4
   go_wp2_with fail
   refine H4.out.mono ?_;rintro e W9 ⟨rfl,HD,Hq⟩;have Jj:=qI HD;have HK:=qI Hq;have Je:=Hq.size;have h3:Hid (bB W9 Be Bd Bm n' (dk.save (b8 t.hs nms)).2.n (dk.save (b8 t.hs nms)).2.k (λa=>a∈au (b8 t.hs nms))):=sE HB.out Hq HD HV.out.2.2;have hl:Hid (bi W9 Ba tb t.m Bd Be (.slice ha t.hs.length hc) s.cp pb):=(Hq.block Ba (by omega) (λe=>ab1 (by injection e))).trans hg.out;have Hp:Hid (∀ j,j<w.heap.size->¬ four N Ba Bd Bm j->W9.heap[j]?=w.heap[j]?):=λj hj hn=>(Hq.block j (by omega) (λe=>hn (.inr (.inr (.inl (by injection e)))))).trans (Hb.out.block j hj (λe=>hn (.inr (.inr e))))
   have HP:=HQ.out.pool.lt;have HO:Hid (ap W9 pb db ao pc t.ds s.us):=by
    have:=lD HQ.out.pool (Hp.out pb HP H1.out) (λh0=>Hp.out db (HQ.out.pool.at0 h0).2.2 (hA.out h0)) (by omega)
    rw [Ol.gV hf.out] at this;exact this
   have hp:Hid (aQ (ah (four N Ba Bd Bm) W9) (.slice (some ⟨g,0,none⟩) (du L nms).length cap) (b8 t.hs nms)):=H0.out.le (bn (λj hj hn=>⟨hn,Hq.block j hj (λe=>hn (.inr (.inr (.inl (by injection e)))))⟩) (by omega));have HW:Hid (aQ (ah (λj=>j=Ba) W9) (.slice (some ⟨g,0,none⟩) (du L nms).length cap) (b8 t.hs nms)):=hp.out.le (bn (λj hj hn=>⟨λe=>hn (.inr (.inl e)),rfl⟩) (lR));have h4:Hid (cM (ah (four N Ba Bd Bm) W9) tb b 0 tc t.m):=nr hS.out Hu.out Hp.out (by omega);have hi:=qI (Mp HN.out nms);obtain ⟨s',HZ⟩:=hi.out.left;have hR:=qI HZ;have Hv:jN (b8 t.hs nms):=(Ol.bY.1 HF.out).2.1;have Hk:(b8 t.hs nms).length<=100:=by have:=(Ol.bY.1 HF.out).1;omega
   have hT:=qI (sx Ba tb t.m Bd Be (.slice ha t.hs.length hc) s.cp pb db ao pc t.ds s.us (.slice (some ⟨g,0,none⟩) (du L nms).length cap) (b8 t.hs nms) s' W9 hl.out ⟨_,_,_,rfl⟩ HO.out (λe=>H1.out (.inr (.inl e))) (λh0 e=>hA.out (by rw [Ol.gV hf.out];exact h0) (.inr (.inl e))) HJ.out HW.out h8 Hv Hk HZ);clear HD Hq HZ Hv Hk x5
   go_wp2_with fail
   refine hT.out.mono ?_;rintro e W11 ⟨rfl,⟨pb2,db2,ao2,c2,HR,HG,hr,HU⟩,Hc⟩;have HM:Hid (aA W11 N Ba Bd Be Bm ⟨t.m,t.ds,b8 t.hs nms⟩ (dk.save (b8 t.hs nms)).2 n'):=hU.out.then (by omega) h4.out Hu.out hp.out Hc HR HG hr HU h3.out hl.out hi.out hR.out HV.out.2.2 hh.out
   have HL:Hid (Apart (three Ba Bd Bm) w W11):=(Hj.out.trans (ey HK.out (λj e _=>.inr (.inl (by injection e with e;exact e.symm))))).trans ⟨Hc.os,Hc.tape,Hc.output,Hc.size,λj hj hn=>Hc.block j hj (λe=>hn (.inl e))⟩;have h7:Hid (eX w W11 Ba):=.inr (sy HR HG (by have:=(Hj.out.trans (ey HK.out (λj e _=>.inr (.inl (by injection e with e;exact e.symm))))).size;omega) (λh0=>by have:=(Hj.out.trans (ey HK.out (λj e _=>.inr (.inl (by injection e with e;exact e.symm))))).size;have:=HU h0;omega));clear HR HG hr HU Hc
   go_wp2
   go_ret;exact ⟨rfl,⟨_,n',⟨hP,h7.out⟩,HM.out⟩,HL.out⟩
end
section
open RowKit Shelf
open Qos (Nd Ct Pd nd ct pd ag)
open Sv (Gv Hd gv hd gsF aE aI)
attribute [local go_sem] Oper.semAt_some
theorem zT {hs:List Hd} {nm:ByteArray} (h:cA hs nm=false):Ol.fk hs nm=hs:=by
 unfold Ol.fk;refine List.filter_eq_self.2 λx hx=>?_
 have:¬ x.pod.nm=nm:=λe=>by
  rw [nj.2 ⟨x,hx,e⟩] at h;cases h
 simp [this]
theorem zU (N:Nat->Prop) (Ba Bd Be Bm:Nat) (t:Ol.St) (dk:Dk) (n:Nat) (nm:ByteArray) (w:World) (hM:aA w N Ba Bd Be Bm t dk n) (hn:n+36<=1000) (ht:∀ W,Apart (three Ba Bd Bm) w W->bH W) :
  Calls Tryz.prog 28 #[.pointer (some ⟨Ba,0,none⟩),.string nm] w λe w'=>e=.returned (ar ((if cA t.hs nm then 0 else 6:Nat):Int))/\(∃ dk' n',(n'<=n/\eX w w' Ba)/\aA w' N Ba Bd Be Bm ⟨t.m,t.ds,Ol.fk t.hs nm⟩ dk' n')/\Apart (three Ba Bd Bm) w w':=by
 obtain ⟨en,Hh⟩:∃ en:Nat,en=if cA t.hs nm then 0 else 6:=⟨_,rfl⟩
 rw [<- Hh];have Hk:=qI Hh;clear Hh;have Hc:=qI hM;have HT:=qI ht;obtain ⟨h1,Hb,Hg,hE,Hs,Hn,Hm,Hv,tb,b,tc,hv,pb,db,ao,pc,s,k1,k2,k3,k4,k5,k6,k7⟩:=hM;obtain ⟨a1,a2,a3⟩:=Ol.bY.1 h1.held;obtain ⟨el1,el2,el3⟩:=hE.lt;obtain ⟨ha,hc,Ht,Hq,Hw⟩:=id k2;subst Ht;have x7:w.cell? ⟨Ba,7,none⟩=some (.slice ha t.hs.length hc):=ad k1 7;have Ho:=qI (yB (.slice ha t.hs.length hc) t.hs nm w (k2.le (cB _ _)) (by omega) a3);clear h1 Hb Hg hE Hs Hn Hm Hv k1 k2 k3 k4 k5 k6 k7 a2 a3 Hq Hw ht
 go_enter Tryz.func28,Tryz.ntmps28
 go_wp2_with fail
 refine Ho.out.mono ?_;rintro e W1 ⟨rfl,Hf⟩;have Ha:=qI Hf;have Hz:=Hf.size;clear Hf x7
 rcases two (cA t.hs nm) with hh|hh
 ·have HH:=qI hh;rw [hh];have Hi:0<t.hs.length:=by
   obtain ⟨x,hx,_⟩:=nj.1 hh;exact List.length_pos_of_mem hx
  clear hh;have He:=qI (Ha.out.alloc Ha.out.size (.cells #[.string nm] 9));have Hp:=qI (aF W1 (.cells #[.string nm] 9) rfl);have Hy:(W1.alloc (.cells #[.string nm] 9)).heap.size=W1.heap.size+1:=by simp
  go_wp2_with fail
  generalize W1.alloc (.cells #[.string nm] 9)=X at *;refine (zS N Ba Bd Be Bm t dk n [nm] W1.heap.size 0 1 X (Hc.out.keep He.out) (λk hk=>by
   have Hx:k=0:=by simp at hk;exact hk
   subst Hx;exact ad Hp.out 0) ⟨by omega,by omega⟩ (by omega) (by simp) Hi hn (λW hW=>HT.out W ((Apart.of_below He.out).trans hW))).mono ?_
  rintro e W2 ⟨rfl,Hj,Hl⟩;have Hu:Hid (∃ dk' n',(n'<=n/\eX w W2 Ba)/\aA W2 N Ba Bd Be Bm ⟨t.m,t.ds,Ol.fk t.hs nm⟩ dk' n'):=by
   obtain ⟨d2,n2,⟨q1,q2⟩,q3⟩:=Hj;exact ⟨d2,n2,⟨q1,q2.old He.out Hc.out.poolAt.1⟩,q3⟩
  have Hr:=qI Hl;clear Hj Hl
  go_wp2
  go_ret;exact ⟨by rw [show en=0 by rw [Hk.out,HH.out];rfl];rfl,Hu.out,(Apart.of_below He.out).trans Hr.out⟩
 ·have HH:=qI hh;rw [hh];clear hh
  go_wp2
  go_ret;exact ⟨by rw [show en=6 by rw [Hk.out,HH.out];rfl];rfl,by rw [zT HH.out];exact ⟨dk,n,⟨lR,.inl (Ha.out.block Ba Hc.out.poolAt.1)⟩,Hc.out.keep Ha.out⟩,Apart.of_below Ha.out⟩
end
