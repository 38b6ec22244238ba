import Derived.Test.YtbmmnflgnmjboaaGreatDoorR31
set_option maxRecDepth 100000
set_option maxHeartbeats 16000000
namespace Go.Proofs.YtbmmnflgnmjboaaGreatDoor
section
open RowKit Shelf
open Qos (Nd Ct Pd nd ct pd af)
open Sv (Gv Hd gv hd gsF aB aF)
open Dvs (Dv dv aW)
open S1 (Tab kL)
theorem Mv {K:Nat->Prop} {W W':World} (h:ci W) (ha:Apart K W W') (hK:¬ K 0):ci W':=by
 refine ⟨?_,Q1 h.2 ha.size⟩;have h1:=h.1;unfold Tab Lib.TabIs World.var? at h1 ⊢;simp only [kL,Option.bind_some] at h1 ⊢;rw [ha.block _ h.2 hK];exact h1
theorem Mw (L:List HS) (nm:ByteArray):(kept L nm).map HS.h=Ol.eQ (L.map HS.h) nm:=by
 unfold kept Ol.eQ
 induction L with
 | nil=>rfl
 | cons x l ih=>
  rw [Qq]
  by_cases e:x.h.pod.nm=nm
  ·rw [List.filter_cons_of_neg (by simp [e]),List.filter_cons_of_neg (by simp [e])];exact ih
  ·rw [List.filter_cons_of_pos (by simp [e]),List.filter_cons_of_pos (by simp [e]),Qq,ih]
theorem po {rs ws:List Rn} (h:∀ a∈ws,a∈rs):dK rs ws=0:=by
 unfold dK;rw [List.length_eq_zero_iff,List.filter_eq_nil_iff];intro a ha
 simpa using h a ha
theorem sL {hs hs':List Hd} (h:hs'.Sublist hs):∀ a∈ap hs',a∈ap hs:=by
 intro a ha;obtain ⟨x,hx,hr⟩:=List.mem_flatMap.1 ha;exact List.mem_flatMap.2 ⟨x,h.subset hx,hr⟩
def bW (hs:List Hd) (nms:List ByteArray):List Hd:=nms.foldl Ol.eQ hs
def dz (L:List HS) (nms:List ByteArray):List HS:=nms.foldl kept L
theorem My {hs:List Hd} {nms:List ByteArray} {k:Nat} (hk:k<nms.length):bW hs (nms.take (k+1))=Ol.eQ (bW hs (nms.take k)) nms[k]:=by
 unfold bW;rw [Qa hk,List.foldl_append];rfl
theorem Mz {L:List HS} {nms:List ByteArray} {k:Nat} (hk:k<nms.length):dz L (nms.take (k+1))=kept (dz L (nms.take k)) nms[k]:=by
 unfold dz;rw [Qa hk,List.foldl_append];rfl
theorem lI (hs:List Hd) (nms:List ByteArray):(bW hs nms).Sublist hs:=by
 unfold bW
 induction nms generalizing hs with
 | nil=>exact List.Sublist.refl _
 | cons a l ih=>exact (ih _).trans (Ol.wG hs a)
theorem pq (L:List HS) (nms:List ByteArray):(dz L nms).Sublist L:=by
 unfold dz
 induction nms generalizing L with
 | nil=>exact List.Sublist.refl _
 | cons a l ih=>exact (ih _).trans List.filter_sublist
theorem zM (L:List HS) (nms:List ByteArray):(dz L nms).map HS.h=bW (L.map HS.h) nms:=by
 unfold dz bW
 induction nms generalizing L with
 | nil=>rfl
 | cons a l ih=>rw [List.foldl_cons,List.foldl_cons,ih,Mw]
theorem MA {t:Ol.St} (h:Ol.Inv t) (nms:List ByteArray):Ol.Inv ⟨t.m,t.ds,bW t.hs nms⟩:=by
 obtain ⟨s,hs⟩:=h.left;exact ⟨h.devs,Ol.rx h.held (lI t.hs nms),Ol.Ge hs (lI t.hs nms)⟩
theorem zN {M:Nat->Prop} {w W:World} {g cap:Nat} {L:List HS} (hr:bV W g cap (λk x=>k<L.length/\x=b9 L k)) (hM:∀ j,M j->j<w.heap.size) (hg:w.heap.size<=g) (hl:L.length<=cap) (hc:cap<=maxLen) (old:∀ x∈L,aE (ag M w) (.slice x.ca x.cn x.cc) x.h.pod.cs/\bz (ag M w) (.slice x.ga x.gn x.gc) x.h.gs) (ha:Apart M w W):aJ (ag M W) (.slice (some ⟨g,0,none⟩) L.length cap) (L.map HS.h):=by
 have hle:aq (ag M w) (ag M W):=bE (λj hj hn=>⟨hn,ha.block j hj hn⟩) ha.size;have Ha:=Mb hr hg hl hc
 have:=zE (N:=w.heap.size) (l:=L.map HS.tri) (M:=M) (by rw [Q9];exact Ha) hM λx hx=>by
  obtain ⟨y,hy,rfl⟩:=Qk.1 hx;exact ⟨(old y hy).1.le hle,(old y hy).2.le hle⟩
 rw [List.map_map] at this;exact this
theorem MB {W W':World} {g Be Bd Bm n:Nat} {sn sk:Sd} {C:Rn->Prop} (h:bw W Be Bd Bm n sn sk C) {cap:Nat} {R:Nat->HS->Prop} (hr:bV W g cap R) (hg:W.grownBy W' (some g)) (hn:g≠Bd/\g≠Bm/\g≠Be):bw W' Be Bd Bm n sn sk C:=
 pi h (eu hg (λj e _=>by injection e with e;exact e.symm)) hn λarr z e=>by
  obtain ⟨cur,h1,_⟩:=hr;rw [h1] at e;cases e
section
variable {N:Nat->Prop} {Ba Bd Be Bm:Nat} {t:Ol.St} {dk:Dk} {n:Nat} {p:Pd}
theorem aK.then {w W2 W3:World} {m:Ol.Mc} {ds:List Dv} {hs:List Hd} {dk':Dk} {n' tb b c pb db:Nat} {v v0:Value} {ao:Option Addr} {pc cp0 pb0:Nat} {s:Ol.Sk} (h:aK w N Ba Bd Be Bm t dk n) (hz:w.heap.size<=W2.heap.size) (hT:cK (ag (four N Ba Bd Bm) W2) tb b 0 c m) (h0:0<m.l.length) (hH:aJ (ag (four N Ba Bd Bm) W2) v hs) (ha:Apart (λj=>j=Ba) W2 W3) (hO:bg W3 Ba tb m Bd Be v s.cp pb) (hS:dj W3 pb db ao pc s) (hpb:W2.heap.size<=pb) (hdb:0<s.ds.length->W2.heap.size<=db) (hE:bw W2 Be Bd Bm n' dk'.n dk'.k (λa=>a∈ap hs)) (hO2:bg W2 Ba tb m Bd Be v0 cp0 pb0) (hi:Ol.Inv ⟨m,ds,hs⟩) (hl:Ol.left m ds hs=some s) (hc:Calm dk') (htx:(aF hs).length<=6000):aK W3 N Ba Bd Be Bm ⟨m,ds,hs⟩ dk' n':=by
 have z4:=ha.size;have hf:∀ j,j<W2.heap.size->¬ four N Ba Bd Bm j->W3.heap[j]?=W2.heap[j]?:=λj hj hn=>ha.block j (by omega) (λe=>hn (.inr (.inl e)))
 obtain ⟨l1,l2,l3⟩:=h.eng.lt;obtain ⟨q1,q2,q3,q4,q5,q6,q7,q9,q8⟩:=h;have l4:Ba<w.heap.size:=by
  obtain ⟨_,_,_,_,_,_,_,_,_,k1,_⟩:=q8;exact k1.lt
 have f4:∀ j,W2.heap.size<=j->¬ four N Ba Bd Bm j:=λj hj e=>by
  rcases e with e|e|e|e
  ·have:=q7 j e;omega
  all_goals omega
 exact ⟨hi,hc,h0,pi hE ha q5 hO2.notInt,q5,q6,λj hj=>by have:=q7 j hj;omega,htx,tb,b,c,v,pb,db,ao,pc,s,hO,hH.le (bE (λj hj hn=>⟨hn,hf j hj hn⟩) (by omega)),nw hT h0 hf (by omega),hl,hS,f4 pb hpb,λh=>f4 db (hdb h)⟩
end
end
section
open RowKit Shelf
open Qos (Nd Ct Pd nd ct pd af)
open Sv (Gv Hd gv hd gsF aB aF)
theorem MC (l:List Value) (o:Nat) (v:Value) (vs:List Value) (h:o<l.length):(l.set o v).take (o+1)++vs++(l.set o v).drop (o+1+vs.length)=l.take o++(v :: vs)++l.drop (o+(v :: vs).length):=by
 have e1:(l.set o v).take (o+1)=l.take o++[v]:=by
  rw [Qa (by simpa using h),List.take_set_of_le (lR)]
  simp
 have e2:(l.set o v).drop (o+1+vs.length)=l.drop (o+(v :: vs).length):=by
  rw [List.drop_set_of_lt (by omega)]
  congr 1
  simp only [Qg];omega
 rw [e1,e2]
 simp
theorem pt {g:Nat} {t:TypeId}:∀ (vs:List Value) (o:Nat) (W:World) (cur:Array Value),W.heap[g]?=some (.cells cur t (0,0))->o+vs.length<=cur.size->(W.setCells g o vs).heap[g]?=some (.cells (cur.toList.take o++vs++cur.toList.drop (o+vs.length)).toArray t (0,0)):=by
 intro vs
 induction vs with
 | nil=>intro o W cur h _;rw [World.setCells,h];simp
 | cons v vs ih=>
  intro o W cur h hl;rw [Qg] at hl;rw [World.setCells,ih (o+1) _ (cur.setIfInBounds o v) (ah h o v) (by simp;omega)];rw [Array.toList_setIfInBounds,MC _ _ _ _ (by simp;omega)]
theorem MD (l:List (Hd × Value × Value)) (i:Nat):(l.take i).flatMap ar=(l.flatMap ar).take (i*4):=by
 induction l generalizing i with
 | nil=>simp
 | cons x l ih=>
  cases i with
  | zero=>simp
  | succ i=>
   rw [List.take_succ_cons,List.flatMap_cons,List.flatMap_cons,ih i,List.take_append];have h4:(ar x).length=4:=rfl;rw [List.take_of_length_le (l:=ar x) (by omega),h4,show (i+1)*4 - 4=i*4 by omega]
theorem ME (l:List (Hd × Value × Value)) (i:Nat):(l.drop i).flatMap ar=(l.flatMap ar).drop (i*4):=by
 induction l generalizing i with
 | nil=>simp
 | cons x l ih=>
  cases i with
  | zero=>simp
  | succ i=>
   rw [List.drop_succ_cons,List.flatMap_cons,ih i,List.drop_append];have h4:(ar x).length=4:=rfl;rw [List.drop_eq_nil_of_le (show (ar x).length<=_ by omega),h4,show (i+1)*4 - 4=i*4 by omega,List.nil_append]
theorem sM (l:List (Hd × Value × Value)):(l.flatMap ar).length=l.length*4:=by
 induction l with
 | nil=>rfl
 | cons x l ih=>
  rw [List.flatMap_cons,Q2,ih,Qg];have h4:(ar x).length=4:=rfl;omega
theorem zO (l:List (Hd × Value × Value)) (i:Nat) (y:Hd × Value × Value):(l.take i++y :: l.drop i).flatMap ar=(l.flatMap ar).take (i*4)++ar y++(l.flatMap ar).drop (i*4):=by
 rw [List.flatMap_append,List.flatMap_cons,MD,ME,List.append_assoc]
theorem MF (A Z ys B:List Value) (k m:Nat) (hA:A.length=k*4) (hy:ys.length=4) (hB:B.length=m*4):let c1:=(A++Z).take (k*4)++ys++(A++Z).drop (k*4+ys.length);(c1.take ((k+1)*4)++B++c1.drop ((k+1)*4+B.length))=A++ys++B++Z.drop ((m+1)*4):=by
 intro c1;have e1:c1=A++ys++Z.drop 4:=by
  show (A++Z).take (k*4)++ys++(A++Z).drop (k*4+ys.length)=_
  rw [hy,List.take_append_of_le_length (by omega),List.take_of_length_le (by omega),List.drop_append,List.drop_eq_nil_of_le (by omega),List.nil_append]
  congr 2
  omega
 have hl:(A++ys).length=(k+1)*4:=by rw [Q2];omega
 rw [e1,List.take_append_of_le_length (by omega),List.take_of_length_le (by omega),List.drop_append,List.drop_eq_nil_of_le (by omega),List.nil_append,List.drop_drop]
 congr 2
 omega
theorem MG (xs R ys:List Value) (i n:Nat) (hx:xs.length=n*4) (hi:i<n) (hy:ys.length=4):let c1:=(xs++R).take ((i+1)*4)++xs.drop (i*4)++(xs++R).drop ((i+1)*4+(xs.drop (i*4)).length);(c1.take (i*4)++ys++c1.drop (i*4+ys.length))=xs.take (i*4)++ys++xs.drop (i*4)++R.drop 4:=by
 intro c1;have e1:c1=xs.take ((i+1)*4)++xs.drop (i*4)++R.drop 4:=by
  show (xs++R).take ((i+1)*4)++xs.drop (i*4)++(xs++R).drop ((i+1)*4+(xs.drop (i*4)).length)=_
  have e0:(xs++R).drop ((i+1)*4+(xs.length - i*4))=R.drop 4:=by
   rw [show (i+1)*4+(xs.length - i*4)=xs.length+4 by omega,List.drop_append,List.drop_eq_nil_of_le (show xs.length<=_ by omega),List.nil_append]
   congr 1
   omega
  rw [List.length_drop,List.take_append_of_le_length (by omega),e0]
 have hl:(xs.take ((i+1)*4)).length=(i+1)*4:=by rw [Qu];omega
 rw [e1,List.append_assoc (xs.take ((i+1)*4)),List.take_append_of_le_length (by omega),List.take_take,Nat.min_eq_left (by omega),List.drop_append,List.drop_eq_nil_of_le (by omega),List.nil_append,hl,hy,show i*4+4 - (i+1)*4=0 by omega,List.drop_zero,<- List.append_assoc]
theorem MH (W:World) (o:Option Nat):W.grownBy W.drew o:=dD (show Below W.heap.size W W.drew from ⟨rfl,rfl,rfl,lR,λ_ _=>rfl⟩) o
theorem MI {l:List (Hd × Value × Value)} {i:Nat} (hi:i<=l.length) (hl:l.length<=100):sJ l i:=by
 by_cases he:i=l.length
 ·rw [he];exact zD hl
 ·have Hm:i<l.length:=by omega
  intro base v y a w Ho hy Hp hb HA ⟨arr,tyA,Hc⟩ Hn;have Hb:=sM l;have h4:(ar y).length=4:=rfl
  rcases Ho.2 with ⟨_,h0⟩|⟨g,cap,cur,hv,hg,Hg,HE,Hq,HC,Hu⟩
  ·omega
  ·subst hv;obtain ⟨vb,voff,spot⟩:=a;have Hx:w.cell? ((⟨vb,voff,spot⟩:Addr).add 0)=some (.string y.1.pod.nm):=hy 0 _ rfl;have Hh:spot=none:=by simpa [Addr.add] using World.cell?_spot Hx
   subst Hh;have HJ:vb≠g:=λe=>HA (by rw [<- e];rfl)
   have Hr:∀ j u,(l.flatMap ar)[j]?=some u->w.cell? ⟨g,j,none⟩=some u:=λj u hj=>by
    have HB:j<l.length*4:=by
     have:=(List.getElem?_eq_some_iff.1 hj).1
     omega
    rw [<- Hu,List.getElem?_take,if_pos HB,Array.getElem?_toList] at hj
    simp [World.cell?,Hg,hj]
   have Hs:∀ j u,(ar y)[j]?=some u->w.cell? ⟨vb,voff+j,none⟩=some u:=λj u hj=>by
    have:=hy j u hj
    rwa [Addr.add_lit] at this
   have Ht:∀ u∈l.flatMap ar,u.oneCell'=true:=λu hu=>by
    obtain ⟨x,hx,hu⟩:=List.mem_flatMap.1 hu;exact Hn x hx u hu
   have Hw:cur.toList=l.flatMap ar++cur.toList.drop (l.length*4):=by rw [<- Hu,List.take_append_drop]
   have HI:cur.toList.length=cap*4:=by simpa using HC
   by_cases hroom:l.length+1<=cap
   ·refine (FL g l.length cap i vb voff 1 (l.flatMap ar) (ar y) w Hm hroom (by unfold maxLen at Hq;omega) HJ Hb h4 Hr (λj hj=>by
     have:j<cur.size:=by omega
     simp [World.cell?,Hg,this]) (λj=>ai Hg j) Hs Ht Hp tyA 57 arr.size cur.size (by simp [World.shape?,Hc]) (by simp [World.shape?,Hg]) (by omega) (ai Hc voff) (ai Hc arr.size)).mono ?_
    rintro e w' ⟨rfl,rfl⟩;refine ⟨_,rfl,?_,((MH w (some g)).trans (nz g _ _ _)).trans (nz g _ _ _)⟩;have k1:=pt (l.flatMap ar |>.drop (i*4)) ((i+1)*4) w.drew cur Hg (by rw [List.length_drop,Hb];omega);have Hz:(i+1)*4+((l.flatMap ar).drop (i*4)).length<=cur.toList.length:=by rw [List.length_drop,Hb];omega
    have k2:=pt (ar y) (i*4) _ _ k1 (by
     simp only [List.size_toArray,Q2,Qu,List.length_drop,Hb,h4];omega)
    simp only at k2;have Ha:=MG (l.flatMap ar) (cur.toList.drop (l.length*4)) (ar y) i l.length Hb Hm h4;dsimp only at Ha;rw [<- Hw] at Ha;rw [Ha] at k2;refine ⟨by rw [sM];simp;omega,.inr ⟨g,cap,_,rfl,hg,k2,hroom,Hq,?_,?_⟩⟩
    ·simp only [List.size_toArray,Q2,Qu,List.length_drop,Hb,h4];omega
    ·rw [zO,List.toList_toArray,List.take_append_of_le_length (by simp only [Q2,Qu,List.length_drop,Hb,h4];omega),List.take_of_length_le (by simp only [Q2,Qu,List.length_drop,Hb,h4];omega)]
   ·refine (FS g l.length cap i vb voff 1 (l.flatMap ar) (ar y) w Hm HE (by omega) hl Hb h4 Hr Hs Ht Hp).mono ?_;rintro e w' ⟨G,HG,Hy,rfl,rfl⟩;have Hl:∀ k,(Builtin.zeroCells em.cells k).size=k*4:=λk=>by
     have Hl:em.cells.size=4:=rfl;simp only [Builtin.zeroCells,Array.size_map,Array.size_range,Hl]
    obtain ⟨ROW,He⟩:∃ ROW,ROW=((l.flatMap ar).take (i*4)).toArray++Builtin.zeroCells em.cells (l.length+1 - i)++Builtin.zeroCells em.cells (G - (l.length+1)):=⟨_,rfl⟩;have Hi:((l.flatMap ar).take (i*4)).length=i*4:=by rw [Qu,Hb];omega
    have Hj:((l.flatMap ar).drop (i*4)).length=(l.length - i)*4:=by rw [List.length_drop,Hb];omega
    have HF:ROW.size=G*4:=by
     rw [He];simp only [Array.size_append,List.size_toArray,Hi,Hl];omega
    have HD:ROW.toList=(l.flatMap ar).take (i*4)++((Builtin.zeroCells em.cells (l.length+1 - i)).toList++(Builtin.zeroCells em.cells (G - (l.length+1))).toList):=by
     rw [He];simp
    rw [<- He];clear He;have Hf:(w.alloc (.cells ROW 57)).drew.heap[w.heap.size]?=some (.cells ROW 57 (0,0)):=aD w _ rfl;have k1:=pt (ar y) (i*4) _ ROW Hf (by rw [h4];omega);obtain ⟨W1,Hk⟩:∃ W1,W1=((w.alloc (.cells ROW 57)).drew.setCells w.heap.size (i*4) (ar y)).drew:=⟨_,rfl⟩;have k1':W1.heap[w.heap.size]?=some (.cells (ROW.toList.take (i*4)++ar y++ROW.toList.drop (i*4+(ar y).length)).toArray 57 (0,0)):=by rw [Hk];exact k1
    have k2:=pt ((l.flatMap ar).drop (i*4)) ((i+1)*4) W1 _ k1' (by
     have:ROW.toList.length=G*4:=by simpa using HF
     simp only [List.size_toArray,Q2,Qu,List.length_drop,Hb,h4,this];omega)
    have Hv:Below w.heap.size w W1:=by
     rw [Hk];have b1:Below w.heap.size w (w.alloc (.cells ROW 57)).drew:=a6 ((Q0 w.heap.size w).alloc (lR) _);exact a6 (b1.grown (nz w.heap.size _ _ _) b1.size (λj hj=>by injection hj with hj;omega))
    have HH:Below w.heap.size w (W1.setCells w.heap.size ((i+1)*4) ((l.flatMap ar).drop (i*4))):=Hv.grown (nz w.heap.size _ _ _) Hv.size (λj hj=>by injection hj with hj;omega);rw [<- Hk];clear Hk k1 k1';simp only at k2;have Ha:=MF ((l.flatMap ar).take (i*4)) ((Builtin.zeroCells em.cells (l.length+1 - i)).toList++(Builtin.zeroCells em.cells (G - (l.length+1))).toList) (ar y) ((l.flatMap ar).drop (i*4)) i (l.length - i) Hi h4 Hj;dsimp only at Ha;rw [<- HD] at Ha;rw [Ha] at k2;refine ⟨_,rfl,⟨by rw [sM];simp;omega,.inr ⟨w.heap.size,G,_,rfl,hb,k2,HG,Hy,?_,?_⟩⟩,dD HH _⟩
    ·simp only [List.size_toArray,Q2,Hi,Hj,h4,List.length_drop,Array.length_toList,Hl];omega
    ·rw [zO,List.toList_toArray,List.take_append_of_le_length (by simp only [Q2,Hi,Hj,h4];omega),List.take_of_length_le (by simp only [Q2,Hi,Hj,h4];omega)]
end
section
open RowKit Shelf
open Qos (Nd Ct Pd nd ct pd af)
open Sv (Gv Hd gv hd gsF aB aF)
open Dvs (Dv dv aW)
attribute [local go_sem] Oper.semAt_some
theorem zP (N:Nat->Prop) (Ba Bd Be Bm:Nat) (t:Ol.St) (dk:Dk) (n:Nat) (nms:List ByteArray) (nb no nc:Nat) (w:World) (hM:aK w N Ba Bd Be Bm t dk n) (hnm:∀ k (hk:k<nms.length),w.cell? ⟨nb,no+k,none⟩=some (.string nms[k])) (hnb:nb≠Bd/\nb≠Bm) (hnbl:nb<w.heap.size) (hnml:nms.length<=100) (h0:0<t.hs.length) (hn:n+36<=1000) (ht:∀ W,Apart (three Ba Bd Bm) w W->ci W) :
  Calls Tryz.prog 62 #[.pointer (some ⟨Ba,0,none⟩),.slice (some ⟨nb,no,none⟩) nms.length nc] w λe w'=>e=.returned .nilIface/\(∃ dk' n',(n'<=n/\fK w w' Ba)/\aK w' N Ba Bd Be Bm ⟨t.m,t.ds,bW t.hs nms⟩ dk' n')/\Apart (three Ba Bd Bm) w w':=by
 have h4:=qI hM;obtain ⟨h1,Hl,Hv,hE,Jc,hX,H3,ho,tb,b,tc,hv,pb,db,ao,pc,s,k1,k2,k3,k4,k5,k6,k7⟩:=hM;obtain ⟨a1,a2,a3⟩:=Ol.bO.1 h1.held;have HD:=qI h1;have HW:=qI h1.held;have Hi:=qI Hl;have Hx:=qI Hv;have HE:=qI hE;have hY:=qI ho;obtain ⟨el1,el2,el3⟩:=hE.lt;obtain ⟨ea1,ea2,ea3⟩:=hE.apart;obtain ⟨ab1,ab2,ab3⟩:=Jc;have hl:=k1.lt;obtain ⟨ha,hc,h7,hK,hP⟩:=id k2;subst h7;have hr:=qI k1;have hJ:=qI k2;have h3:=qI k3;have hw:=qI k4;have HJ:=qI k5;have hf:=qI k6;have H1:=qI k7;have HT:=qI ht;have hS:=qI hnm;have hB:=qI hnb;have hH:Hid (∀ j,four N Ba Bd Bm j->j<w.heap.size):=λj hj=>by
  rcases hj with e|e|e|e
  ·exact H3 j e
  all_goals omega
 have x7:w.cell? ⟨Ba,7,none⟩=some (.slice ha t.hs.length hc):=aa k1 7;have hT:=k3.op;have HN:Hid (aW t.ds):=Dvs.gW h1.devs;clear h1 Hl Hv hE hX H3 ho k1 k2 k3 k4 k5 k6 k7 a2 a3 hK hP ht hnm hnb
 go_enter Tryz.func62,Tryz.ntmps62
 go_wp2_with fail
 clear x7;refine (xG (.slice ha t.hs.length hc) t.hs w (ag (four N Ba Bd Bm) w) hJ.out (cC _ _) (by omega)).mono ?_;rintro e C1 ⟨u,cvv,gvv,rfl,Hy,H9,hb⟩;obtain ⟨l,hG,HA,HO⟩:=zF Hy H9;obtain ⟨L,hL⟩:=L9 HO;have Hr:Hid (L.map HS.h=t.hs):=by
  unfold Hid;rw [<- hG,<- hL,List.map_map];rfl
 have Hz:Hid (∀ x∈L,aE (ag (four N Ba Bd Bm) w) (.slice x.ca x.cn x.cc) x.h.pod.cs/\bz (ag (four N Ba Bd Bm) w) (.slice x.ga x.gn x.gc) x.h.gs):=λx hx=>HO x.tri (by rw [<- hL];exact Qk.2 ⟨x,hx,rfl⟩)
 have Je:0<L.length/\L.length<=12:=by rw [<- Hr.out,Q9] at h0 a1;exact ⟨h0,a1⟩
 obtain ⟨g,cap,hu⟩:∃ g cap,u=.slice (some ⟨g,0,none⟩) L.length cap:=by
  rcases HA.2 with ⟨_,hz⟩|⟨g,cap,cur,h8,_⟩
  ·exfalso;rw [<- hL,Q9] at hz;omega
  ·exact ⟨g,cap,by rw [h8,<- hL,Q9]⟩
 subst hu;rw [<- hL,Q9] at HA;obtain ⟨Hh,hq,Jh,H7⟩:=Ma HA;have Ho:=qI Hh;have HI:=qI H7;have Hw:Hid (Apart (gk Bd Bm) w C1):=Apart.of_below hb;have hI:Hid (bw C1 Be Bd Bm n dk.n dk.k (λa=>a∈ap t.hs)):=HE.out.below hb;clear Hy H9 hb hG HA HO hL Hh H7 cvv gvv l
 go_wp2
 go_loopw [5,17] (λnx i wr=>∃ k:Nat,k<=nms.length/\i=.int .i64 k/\nx=.slice (some ⟨g,0,none⟩) (dz L (nms.take k)).length cap/\bV wr g cap (λj x=>j<(dz L (nms.take k)).length/\x=b9 (dz L (nms.take k)) j)/\(∃ n',n'<=n/\bw wr Be Bd Bm n' dk.n dk.k (λa=>a∈ap (bW t.hs (nms.take k))))/\Apart (gk Bd Bm) w wr) (λ_ i _=>nms.length - (intOf i).toNat)
 case atStart=>exact ⟨0,Nat.zero_le _,rfl,rfl,Ho.out,⟨n,lR,hI.out⟩,Hw.out⟩
 case round=>
  obtain ⟨k,hk,rfl,rfl,Hh,⟨n',hZ,hE⟩,HC⟩:=hrel;have Hg:=qI Hh;have HB:=qI hE;have Hb:=qI HC;have Jf:=HC.size;have Hm:=qI (pq L (nms.take k));have hU:(dz L (nms.take k)).length<=L.length:=(pq L (nms.take k)).length_le;have hi:Hid ((dz L (nms.take k)).map HS.h=bW t.hs (nms.take k)):=by unfold Hid;rw [zM,Hr.out]
  clear Hh hE HC hI Hw Ho
  by_cases hlt:k<nms.length
  ·have c0:wr.cell? ⟨nb,no+k,none⟩=some (.string nms[k]):=by
    rw [<- hS.out k hlt];unfold World.cell?
    rw [Hb.out.block nb hnbl (λe=>e.elim hB.out.1 hB.out.2)]
   have hD:=qI (Mz (L:=L) hlt);have H6:=qI (My (hs:=t.hs) hlt);obtain ⟨nm,hnm⟩:∃ nm,nm=nms[k]:=⟨_,rfl⟩;rw [<- hnm] at c0 hD H6;clear hnm;have Hn:=qI ((Q0 wr.heap.size wr).alloc (lR) (.cells #[.string nm] 9));have h5:=qI (aD wr (.cells #[.string nm] 9) rfl);have hA:g<wr.heap.size:=Hg.out.lt;have hO:Hid ((dz L (nms.take (k+1))).length<=L.length):=(pq L (nms.take (k+1))).length_le
   go_wp2_with fail
   clear c0;generalize wr.alloc (.cells #[.string nm] 9)=X at *;refine (Mk nm wr.heap.size g cap (dz L (nms.take k)) X h5.out (by omega) (Hg.out.block (Hn.out.block g hA)) (by omega) HI.out (by omega)).mono ?_;rintro e W2 ⟨rfl,Hf,Hc⟩;rw [<- hD.out] at Hf ⊢;have Hu:=qI Hf;have Ji:=Hc.size;have Jj:=Hn.out.size;have Ha:Hid (Apart (gk Bd Bm) w W2):=⟨Hc.os.trans (Hn.out.os.trans Hb.out.os),Hc.tape.trans (Hn.out.tape.trans Hb.out.tape),Hc.output.trans (Hn.out.output.trans Hb.out.output),by omega,λj hj hn=>(Hc.block j (by omega) (λe=>by injection e with e;omega)).trans ((Hn.out.block j (by omega)).trans (Hb.out.block j hj hn))⟩;have h9:Hid (bw W2 Be Bd Bm n' dk.n dk.k (λa=>a∈ap (bW t.hs (nms.take k)))):=MB (HB.out.below Hn.out) (Hg.out.block (Hn.out.block g hA)) Hc ⟨by omega,by omega,by omega⟩;have x6:W2.cell? ⟨Ba,6,none⟩=some (.pointer (some ⟨Be,0,none⟩)):=aa ((Ha.out.block Ba hl (λe=>e.elim ab1 ab2)).trans hr.out) 6;have HU:Hid ((dz L (nms.take (k+1))).map HS.h=bW t.hs (nms.take (k+1))):=by unfold Hid;rw [zM,Hr.out]
   have h2:Hid (aJ (ag (gk Bd Bm) W2) (.slice (some ⟨g,0,none⟩) (dz L (nms.take (k+1))).length cap) (bW t.hs (nms.take (k+1)))):=by
    have:=zN (M:=four N Ba Bd Bm) (w:=w) Hf hH.out hq (by have:=hO.out;omega) HI.out (λx hx=>Hz.out x ((pq L (nms.take (k+1))).subset hx)) ⟨Ha.out.os,Ha.out.tape,Ha.out.output,Ha.out.size,λj hj hn=>Ha.out.block j hj (λe=>hn (.inr (.inr e)))⟩
    rw [HU.out] at this;exact this.le (bE (λj hj hn=>⟨λe=>hn (.inr (.inr e)),rfl⟩) (lR))
   have hy:=qI (so Be Bd Bm n' dk.n dk.k (ap (bW t.hs (nms.take k))) _ _ W2 h9.out h2.out (Ol.rx HW.out (lI _ _)) (by omega));clear Hf Hc
   go_wp2_with fail
   refine hy.out.mono ?_;rintro e W3 ⟨rfl,⟨n2,hp,hh⟩,H8⟩;have h6:=qI hh;have Hs:=qI H8;have Ja:Hid (n2<=n):=by
    unfold Hid;rw [po (sL (by rw [H6.out];exact Ol.wG _ _))] at hp;omega
   clear hh H8 hp x6 hy
   go_wp2
   go_roundw
   case rel=>exact ⟨k+1,by omega,by go_num,rfl,Hu.out.block (Hs.out.block g (by omega) (by omega) (by omega)),⟨n2,Ja.out,h6.out⟩,⟨Hs.out.os.trans Ha.out.os,Hs.out.tape.trans Ha.out.tape,Hs.out.output.trans Ha.out.output,by have:=Hs.out.size;have:=Ha.out.size;omega,λj hj hn=>(Hs.out.block j (by omega) (λe=>hn (.inl e)) (λe=>hn (.inr e))).trans (Ha.out.block j hj hn)⟩⟩
   case measure=>simp [intOf];omega
  ·have he:nms.take k=nms:=List.take_of_length_le (by omega);rw [he] at Hg HB Hm hU hi ⊢;clear he;have hg:Hid (aJ (ag (four N Ba Bd Bm) wr) (.slice (some ⟨g,0,none⟩) (dz L nms).length cap) (bW t.hs nms)):=by
    have:=zN (M:=four N Ba Bd Bm) (w:=w) Hg.out hH.out hq (by omega) HI.out (λx hx=>Hz.out x (Hm.out.subset hx)) ⟨Hb.out.os,Hb.out.tape,Hb.out.output,Hb.out.size,λj hj hn=>Hb.out.block j hj (λe=>hn (.inr (.inr e)))⟩
    rw [hi.out] at this;exact this
   have HF:=qI (Ol.rx HW.out (lI t.hs nms));have H2:=qI (Ol.Ib (lI t.hs nms) (Ol.Ic HW.out) hY.out);have HG:=qI (xl Hi.out HF.out);have H5:Hid (bg wr Ba tb t.m Bd Be (.slice ha t.hs.length hc) s.cp pb):=(Hb.out.block Ba hl (λe=>e.elim ab1 ab2)).trans hr.out;have x5:wr.cell? ⟨Ba,5,none⟩=some (.pointer (some ⟨Bd,0,none⟩)):=aa H5.out 5;have Hj:Hid (Apart (three Ba Bd Bm) w wr):=⟨Hb.out.os,Hb.out.tape,Hb.out.output,Hb.out.size,λj hj hn=>Hb.out.block j hj (λe=>hn (.inr e))⟩;have Jd:Hid (bf wr Bd dk):=yE HB.out.disk Hi.out;have hF:=qI (xi Bd dk _ (bW t.hs nms) wr Jd.out (.inl Hi.out.2.2) (hg.out.le (cC _ _)) (HT.out _ Hj.out));rw [HG.out.1 H2.out,show au (((0:Nat)):Int)=.nilIface from rfl] at hF
   go_wp2_with fail
   refine hF.out.mono ?_;rintro e W9 ⟨rfl,HZ,Hq⟩;have Jg:=qI HZ;have HK:=qI Hq;have Jk:=Hq.size;have hV:Hid (bw W9 Be Bd Bm n' (dk.save (bW t.hs nms)).2.n (dk.save (bW t.hs nms)).2.k (λa=>a∈ap (bW t.hs nms))):=sI HB.out Hq HZ HG.out.2.2;have hm:Hid (bg W9 Ba tb t.m Bd Be (.slice ha t.hs.length hc) s.cp pb):=(Hq.block Ba (by omega) (λe=>ab1 (by injection e))).trans H5.out;have Hp:Hid (∀ j,j<w.heap.size->¬ four N Ba Bd Bm j->W9.heap[j]?=w.heap[j]?):=λj hj hn=>(Hq.block j (by omega) (λe=>hn (.inr (.inr (.inl (by injection e)))))).trans (Hb.out.block j hj (λe=>hn (.inr (.inr e))))
   have HH:=HJ.out.pool.lt;have HR:Hid (ak W9 pb db ao pc t.ds s.us):=by
    have:=lE HJ.out.pool (Hp.out pb HH hf.out) (λh0=>Hp.out db (HJ.out.pool.at0 h0).2.2 (H1.out h0)) (by omega)
    rw [Ol.iO hw.out] at this;exact this
   have H4:Hid (aJ (ag (four N Ba Bd Bm) W9) (.slice (some ⟨g,0,none⟩) (dz L nms).length cap) (bW t.hs nms)):=hg.out.le (bE (λj hj hn=>⟨hn,Hq.block j hj (λe=>hn (.inr (.inr (.inl (by injection e)))))⟩) (by omega));have HX:Hid (aJ (ag (λj=>j=Ba) W9) (.slice (some ⟨g,0,none⟩) (dz L nms).length cap) (bW t.hs nms)):=H4.out.le (bE (λj hj hn=>⟨λe=>hn (.inr (.inl e)),rfl⟩) (lR));have hW:Hid (cK (ag (four N Ba Bd Bm) W9) tb b 0 tc t.m):=nw h3.out Hx.out Hp.out (by omega);have H0:=qI (MA HD.out nms);obtain ⟨s',HL⟩:=H0.out.left;have Jb:=qI HL;have Ht:jK (bW t.hs nms):=(Ol.bO.1 HF.out).2.1;have Hk:(bW t.hs nms).length<=100:=by have:=(Ol.bO.1 HF.out).1;omega
   have hR:=qI (sC Ba tb t.m Bd Be (.slice ha t.hs.length hc) s.cp pb db ao pc t.ds s.us (.slice (some ⟨g,0,none⟩) (dz L nms).length cap) (bW t.hs nms) s' W9 hm.out ⟨_,_,_,rfl⟩ HR.out (λe=>hf.out (.inr (.inl e))) (λh0 e=>H1.out (by rw [Ol.iO hw.out];exact h0) (.inr (.inl e))) HN.out HX.out hT Ht Hk HL);clear HZ Hq HL Ht Hk x5
   go_wp2_with fail
   refine hR.out.mono ?_;rintro e W11 ⟨rfl,⟨pb2,db2,ao2,c2,HM,HY,hC,HQ⟩,He⟩;have HP:Hid (aK W11 N Ba Bd Be Bm ⟨t.m,t.ds,bW t.hs nms⟩ (dk.save (bW t.hs nms)).2 n'):=h4.out.then (by omega) hW.out Hx.out H4.out He HM HY hC HQ hV.out hm.out H0.out Jb.out HG.out.2.2 H2.out
   have HV:Hid (Apart (three Ba Bd Bm) w W11):=(Hj.out.trans (eu HK.out (λj e _=>.inr (.inl (by injection e with e;exact e.symm))))).trans ⟨He.os,He.tape,He.output,He.size,λj hj hn=>He.block j hj (λe=>hn (.inl e))⟩;have hN:Hid (fK w W11 Ba):=.inr (sD HM HY (by have:=(Hj.out.trans (eu HK.out (λj e _=>.inr (.inl (by injection e with e;exact e.symm))))).size;omega) (λh0=>by have:=(Hj.out.trans (eu HK.out (λj e _=>.inr (.inl (by injection e with e;exact e.symm))))).size;have:=HQ h0;omega));clear HM HY hC HQ He
   go_wp2
   go_ret;exact ⟨rfl,⟨_,n',⟨hZ,hN.out⟩,HP.out⟩,HV.out⟩
end
section
open RowKit Shelf
open Qos (Nd Ct Pd nd ct pd af)
open Sv (Gv Hd gv hd gsF aB aF)
attribute [local go_sem] Oper.semAt_some
theorem zQ {hs:List Hd} {nm:ByteArray} (h:cA hs nm=false):Ol.eQ hs nm=hs:=by
 unfold Ol.eQ;refine List.filter_eq_self.2 λx hx=>?_
 have:¬ x.pod.nm=nm:=λe=>by
  rw [nr.2 ⟨x,hx,e⟩] at h;cases h
 simp [this]
theorem MJ (N:Nat->Prop) (Ba Bd Be Bm:Nat) (t:Ol.St) (dk:Dk) (n:Nat) (nm:ByteArray) (w:World) (hM:aK w N Ba Bd Be Bm t dk n) (hn:n+36<=1000) (ht:∀ W,Apart (three Ba Bd Bm) w W->ci W) :
  Calls Tryz.prog 28 #[.pointer (some ⟨Ba,0,none⟩),.string nm] w λe w'=>e=.returned (au ((if cA t.hs nm then 0 else 6:Nat):Int))/\(∃ dk' n',(n'<=n/\fK w w' Ba)/\aK w' N Ba Bd Be Bm ⟨t.m,t.ds,Ol.eQ t.hs nm⟩ dk' n')/\Apart (three Ba Bd Bm) w w':=by
 obtain ⟨en,Hg⟩:∃ en:Nat,en=if cA t.hs nm then 0 else 6:=⟨_,rfl⟩
 rw [<- Hg];have Hj:=qI Hg;clear Hg;have He:=qI hM;have HT:=qI ht;obtain ⟨h1,Hb,Hh,hE,Hx,Hu,Hr,Hs,tb,b,tc,hv,pb,db,ao,pc,s,k1,k2,k3,k4,k5,k6,k7⟩:=hM;obtain ⟨a1,a2,a3⟩:=Ol.bO.1 h1.held;obtain ⟨el1,el2,el3⟩:=hE.lt;obtain ⟨ha,hc,Hm,Hp,Ho⟩:=id k2;subst Hm;have x7:w.cell? ⟨Ba,7,none⟩=some (.slice ha t.hs.length hc):=aa k1 7;have Ht:=qI (yA (.slice ha t.hs.length hc) t.hs nm w (k2.le (cC _ _)) (by omega) a3);clear h1 Hb Hh hE Hx Hu Hr Hs k1 k2 k3 k4 k5 k6 k7 a2 a3 Hp Ho ht
 go_enter Tryz.func28,Tryz.ntmps28
 go_wp2_with fail
 refine Ht.out.mono ?_;rintro e W1 ⟨rfl,Hi⟩;have Ha:=qI Hi;have Hz:=Hi.size;clear Hi x7
 rcases two (cA t.hs nm) with hh|hh
 ·have HH:=qI hh;rw [hh];have Hf:0<t.hs.length:=by
   obtain ⟨x,hx,_⟩:=nr.1 hh;exact List.length_pos_of_mem hx
  clear hh;have Hc:=qI (Ha.out.alloc Ha.out.size (.cells #[.string nm] 9));have Hw:=qI (aD W1 (.cells #[.string nm] 9) rfl);have Hy:(W1.alloc (.cells #[.string nm] 9)).heap.size=W1.heap.size+1:=by simp
  go_wp2_with fail
  generalize W1.alloc (.cells #[.string nm] 9)=X at *;refine (zP N Ba Bd Be Bm t dk n [nm] W1.heap.size 0 1 X (He.out.keep Hc.out) (λk hk=>by
   have Hv:k=0:=by simp at hk;exact hk
   subst Hv;exact aa Hw.out 0) ⟨by omega,by omega⟩ (by omega) (by simp) Hf hn (λW hW=>HT.out W ((Apart.of_below Hc.out).trans hW))).mono ?_
  rintro e W2 ⟨rfl,Hk,Hl⟩;have Hq:Hid (∃ dk' n',(n'<=n/\fK w W2 Ba)/\aK W2 N Ba Bd Be Bm ⟨t.m,t.ds,Ol.eQ t.hs nm⟩ dk' n'):=by
   obtain ⟨d2,n2,⟨q1,q2⟩,q3⟩:=Hk;exact ⟨d2,n2,⟨q1,q2.old Hc.out He.out.poolAt.1⟩,q3⟩
  have Hn:=qI Hl;clear Hk Hl
  go_wp2
  go_ret;exact ⟨by rw [show en=0 by rw [Hj.out,HH.out];rfl];rfl,Hq.out,(Apart.of_below Hc.out).trans Hn.out⟩
 ·have HH:=qI hh;rw [hh];clear hh
  go_wp2
  go_ret;exact ⟨by rw [show en=6 by rw [Hj.out,HH.out];rfl];rfl,by rw [zQ HH.out];exact ⟨dk,n,⟨lR,.inl (Ha.out.block Ba He.out.poolAt.1)⟩,He.out.keep Ha.out⟩,Apart.of_below Ha.out⟩
end
