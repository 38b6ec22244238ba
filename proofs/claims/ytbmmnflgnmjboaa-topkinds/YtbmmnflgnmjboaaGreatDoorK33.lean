import Derived.Test.YtbmmnflgnmjboaaGreatDoorK32
set_option maxRecDepth 100000
set_option maxHeartbeats 16000000
namespace Go.Proofs.YtbmmnflgnmjboaaGreatDoor
section
open RowKit Shelf
open Qos (Nd Ct Pd nd ct pd ah)
open Sv (Gv Hd gv hd gsF az aF)
open Dvs (Dv dv aT)
open S1 (Tab jL)
theorem Kw {K:Nat->Prop} {W W':World} (h:bE W) (ha:Apart K W W') (hK:¬ K 0):bE W':=by
 refine ⟨?_,Q1 h.2 ha.size⟩;have h1:=h.1;unfold Tab Lib.TabIs World.var? at h1 ⊢;simp only [jL,Option.bind_some] at h1 ⊢;rw [ha.block _ h.2 hK];exact h1
theorem Kx (L:List HS) (nm:ByteArray):(kept L nm).map HS.h=Ol.eU (L.map HS.h) nm:=by
 unfold kept Ol.eU
 induction L with
 | nil=>rfl
 | cons x l ih=>
  rw [Qq]
  by_cases e:x.h.pod.nm=nm
  ·rw [List.filter_cons_of_neg (by simp [e]),List.filter_cons_of_neg (by simp [e])];exact ih
  ·rw [List.filter_cons_of_pos (by simp [e]),List.filter_cons_of_pos (by simp [e]),Qq,ih]
theorem nl {rs ws:List Rn} (h:∀ a∈ws,a∈rs):dB rs ws=0:=by
 unfold dB;rw [List.length_eq_zero_iff,List.filter_eq_nil_iff];intro a ha
 simpa using h a ha
theorem qq {hs hs':List Hd} (h:hs'.Sublist hs):∀ a∈au hs',a∈au hs:=by
 intro a ha;obtain ⟨x,hx,hr⟩:=List.mem_flatMap.1 ha;exact List.mem_flatMap.2 ⟨x,h.subset hx,hr⟩
def bX (hs:List Hd) (nms:List ByteArray):List Hd:=nms.foldl Ol.eU hs
def dj (L:List HS) (nms:List ByteArray):List HS:=nms.foldl kept L
theorem Ky {hs:List Hd} {nms:List ByteArray} {k:Nat} (hk:k<nms.length):bX hs (nms.take (k+1))=Ol.eU (bX hs (nms.take k)) nms[k]:=by
 unfold bX;rw [Qa hk,List.foldl_append];rfl
theorem Kz {L:List HS} {nms:List ByteArray} {k:Nat} (hk:k<nms.length):dj L (nms.take (k+1))=kept (dj L (nms.take k)) nms[k]:=by
 unfold dj;rw [Qa hk,List.foldl_append];rfl
theorem km (hs:List Hd) (nms:List ByteArray):(bX hs nms).Sublist hs:=by
 unfold bX
 induction nms generalizing hs with
 | nil=>exact List.Sublist.refl _
 | cons a l ih=>exact (ih _).trans (Ol.pA hs a)
theorem nr (L:List HS) (nms:List ByteArray):(dj L nms).Sublist L:=by
 unfold dj
 induction nms generalizing L with
 | nil=>exact List.Sublist.refl _
 | cons a l ih=>exact (ih _).trans List.filter_sublist
theorem xt (L:List HS) (nms:List ByteArray):(dj L nms).map HS.h=bX (L.map HS.h) nms:=by
 unfold dj bX
 induction nms generalizing L with
 | nil=>rfl
 | cons a l ih=>rw [List.foldl_cons,List.foldl_cons,ih,Kx]
theorem KA {t:Ol.St} (h:Ol.Inv t) (nms:List ByteArray):Ol.Inv ⟨t.m,t.ds,bX t.hs nms⟩:=by
 obtain ⟨s,hs⟩:=h.left;exact ⟨h.devs,Ol.pB h.held (km t.hs nms),Ol.EH hs (km t.hs nms)⟩
theorem xu {M:Nat->Prop} {w W:World} {g cap:Nat} {L:List HS} (hr:bU W g cap (λk x=>k<L.length/\x=b7 L k)) (hM:∀ j,M j->j<w.heap.size) (hg:w.heap.size<=g) (hl:L.length<=cap) (hc:cap<=maxLen) (old:∀ x∈L,aE (ag M w) (.slice x.ca x.cn x.cc) x.h.pod.cs/\bl (ag M w) (.slice x.ga x.gn x.gc) x.h.gs) (ha:Apart M w W):aM (ag M W) (.slice (some ⟨g,0,none⟩) L.length cap) (L.map HS.h):=by
 have hle:aB (ag M w) (ag M W):=bg (λj hj hn=>⟨hn,ha.block j hj hn⟩) ha.size;have hrow:=Kn hr hg hl hc
 have:=xf (N:=w.heap.size) (l:=L.map HS.tri) (M:=M) (by rw [Q9];exact hrow) hM λx hx=>by
  obtain ⟨y,hy,rfl⟩:=Qk.1 hx;exact ⟨(old y hy).1.le hle,(old y hy).2.le hle⟩
 rw [List.map_map] at this;exact this
theorem KB {W W':World} {g Be Bd Bm n:Nat} {sn sk:Sd} {C:Rn->Prop} (h:bz W Be Bd Bm n sn sk C) {cap:Nat} {R:Nat->HS->Prop} (hr:bU W g cap R) (hg:W.grownBy W' (some g)) (hn:g≠Bd/\g≠Bm/\g≠Be):bz W' Be Bd Bm n sn sk C:=
 nj h (eA hg (λj e _=>by injection e with e;exact e.symm)) hn λarr z e=>by
  obtain ⟨cur,h1,_⟩:=hr;rw [h1] at e;cases e
section
variable {N:Nat->Prop} {Ba Bd Be Bm:Nat} {t:Ol.St} {dk:Dk} {n:Nat} {p:Pd}
theorem av.then {w W2 W3:World} {m:Ol.Mc} {ds:List Dv} {hs:List Hd} {dk':Dk} {n' tb b c pb db:Nat} {v v0:Value} {ao:Option Addr} {pc cp0 pb0:Nat} {s:Ol.Sk} (h:av w N Ba Bd Be Bm t dk n) (hz:w.heap.size<=W2.heap.size) (hT:cI (ag (four N Ba Bd Bm) W2) tb b 0 c m) (h0:0<m.l.length) (hH:aM (ag (four N Ba Bd Bm) W2) v hs) (ha:Apart (λj=>j=Ba) W2 W3) (hO:bh W3 Ba tb m Bd Be v s.cp pb) (hS:de W3 pb db ao pc s) (hpb:W2.heap.size<=pb) (hdb:0<s.ds.length->W2.heap.size<=db) (hE:bz W2 Be Bd Bm n' dk'.n dk'.k (λa=>a∈au hs)) (hO2:bh W2 Ba tb m Bd Be v0 cp0 pb0) (hi:Ol.Inv ⟨m,ds,hs⟩) (hl:Ol.left m ds hs=some s) (hc:Calm dk') (htx:(aF hs).length<=6000):av W3 N Ba Bd Be Bm ⟨m,ds,hs⟩ dk' n':=by
 have z4:=ha.size;have hf:∀ j,j<W2.heap.size->¬ four N Ba Bd Bm j->W3.heap[j]?=W2.heap[j]?:=λj hj hn=>ha.block j (by omega) (λe=>hn (.inr (.inl e)))
 obtain ⟨l1,l2,l3⟩:=h.eng.lt;obtain ⟨q1,q2,q3,q4,q5,q6,q7,q9,q8⟩:=h;have l4:Ba<w.heap.size:=by
  obtain ⟨_,_,_,_,_,_,_,_,_,k1,_⟩:=q8;exact k1.lt
 have f4:∀ j,W2.heap.size<=j->¬ four N Ba Bd Bm j:=λj hj e=>by
  rcases e with e|e|e|e
  ·have:=q7 j e;omega
  all_goals omega
 exact ⟨hi,hc,h0,nj hE ha q5 hO2.notInt,q5,q6,λj hj=>by have:=q7 j hj;omega,htx,tb,b,c,v,pb,db,ao,pc,s,hO,hH.le (bg (λj hj hn=>⟨hn,hf j hj hn⟩) (by omega)),lM hT h0 hf (by omega),hl,hS,f4 pb hpb,λh=>f4 db (hdb h)⟩
end
end
section
open RowKit Shelf
open Qos (Nd Ct Pd nd ct pd ah)
open Sv (Gv Hd gv hd gsF az aF)
theorem KC (l:List Value) (o:Nat) (v:Value) (vs:List Value) (h:o<l.length):(l.set o v).take (o+1)++vs++(l.set o v).drop (o+1+vs.length)=l.take o++(v :: vs)++l.drop (o+(v :: vs).length):=by
 have e1:(l.set o v).take (o+1)=l.take o++[v]:=by
  rw [Qa (by simpa using h),List.take_set_of_le (lR)]
  simp
 have e2:(l.set o v).drop (o+1+vs.length)=l.drop (o+(v :: vs).length):=by
  rw [List.drop_set_of_lt (by omega)]
  congr 1
  simp only [Qg];omega
 rw [e1,e2]
 simp
theorem nu {g:Nat} {t:TypeId}:∀ (vs:List Value) (o:Nat) (W:World) (cur:Array Value),W.heap[g]?=some (.cells cur t (0,0))->o+vs.length<=cur.size->(W.setCells g o vs).heap[g]?=some (.cells (cur.toList.take o++vs++cur.toList.drop (o+vs.length)).toArray t (0,0)):=by
 intro vs
 induction vs with
 | nil=>intro o W cur h _;rw [World.setCells,h];simp
 | cons v vs ih=>
  intro o W cur h hl;rw [Qg] at hl;rw [World.setCells,ih (o+1) _ (cur.setIfInBounds o v) (aj h o v) (by simp;omega)];rw [Array.toList_setIfInBounds,KC _ _ _ _ (by simp;omega)]
theorem KD (l:List (Hd × Value × Value)) (i:Nat):(l.take i).flatMap ar=(l.flatMap ar).take (i*4):=by
 induction l generalizing i with
 | nil=>simp
 | cons x l ih=>
  cases i with
  | zero=>simp
  | succ i=>
   rw [List.take_succ_cons,List.flatMap_cons,List.flatMap_cons,ih i,List.take_append];have h4:(ar x).length=4:=rfl;rw [List.take_of_length_le (l:=ar x) (by omega),h4,show (i+1)*4 - 4=i*4 by omega]
theorem KE (l:List (Hd × Value × Value)) (i:Nat):(l.drop i).flatMap ar=(l.flatMap ar).drop (i*4):=by
 induction l generalizing i with
 | nil=>simp
 | cons x l ih=>
  cases i with
  | zero=>simp
  | succ i=>
   rw [List.drop_succ_cons,List.flatMap_cons,ih i,List.drop_append];have h4:(ar x).length=4:=rfl;rw [List.drop_eq_nil_of_le (show (ar x).length<=_ by omega),h4,show (i+1)*4 - 4=i*4 by omega,List.nil_append]
theorem qr (l:List (Hd × Value × Value)):(l.flatMap ar).length=l.length*4:=by
 induction l with
 | nil=>rfl
 | cons x l ih=>
  rw [List.flatMap_cons,Q2,ih,Qg];have h4:(ar x).length=4:=rfl;omega
theorem xv (l:List (Hd × Value × Value)) (i:Nat) (y:Hd × Value × Value):(l.take i++y :: l.drop i).flatMap ar=(l.flatMap ar).take (i*4)++ar y++(l.flatMap ar).drop (i*4):=by
 rw [List.flatMap_append,List.flatMap_cons,KD,KE,List.append_assoc]
theorem KF (A Z ys B:List Value) (k m:Nat) (hA:A.length=k*4) (hy:ys.length=4) (hB:B.length=m*4):let c1:=(A++Z).take (k*4)++ys++(A++Z).drop (k*4+ys.length);(c1.take ((k+1)*4)++B++c1.drop ((k+1)*4+B.length))=A++ys++B++Z.drop ((m+1)*4):=by
 intro c1;have e1:c1=A++ys++Z.drop 4:=by
  show (A++Z).take (k*4)++ys++(A++Z).drop (k*4+ys.length)=_
  rw [hy,List.take_append_of_le_length (by omega),List.take_of_length_le (by omega),List.drop_append,List.drop_eq_nil_of_le (by omega),List.nil_append]
  congr 2
  omega
 have hl:(A++ys).length=(k+1)*4:=by rw [Q2];omega
 rw [e1,List.take_append_of_le_length (by omega),List.take_of_length_le (by omega),List.drop_append,List.drop_eq_nil_of_le (by omega),List.nil_append,List.drop_drop]
 congr 2
 omega
theorem KG (xs R ys:List Value) (i n:Nat) (hx:xs.length=n*4) (hi:i<n) (hy:ys.length=4):let c1:=(xs++R).take ((i+1)*4)++xs.drop (i*4)++(xs++R).drop ((i+1)*4+(xs.drop (i*4)).length);(c1.take (i*4)++ys++c1.drop (i*4+ys.length))=xs.take (i*4)++ys++xs.drop (i*4)++R.drop 4:=by
 intro c1;have e1:c1=xs.take ((i+1)*4)++xs.drop (i*4)++R.drop 4:=by
  show (xs++R).take ((i+1)*4)++xs.drop (i*4)++(xs++R).drop ((i+1)*4+(xs.drop (i*4)).length)=_
  have e0:(xs++R).drop ((i+1)*4+(xs.length - i*4))=R.drop 4:=by
   rw [show (i+1)*4+(xs.length - i*4)=xs.length+4 by omega,List.drop_append,List.drop_eq_nil_of_le (show xs.length<=_ by omega),List.nil_append]
   congr 1
   omega
  rw [List.length_drop,List.take_append_of_le_length (by omega),e0]
 have hl:(xs.take ((i+1)*4)).length=(i+1)*4:=by rw [Qu];omega
 rw [e1,List.append_assoc (xs.take ((i+1)*4)),List.take_append_of_le_length (by omega),List.take_take,Nat.min_eq_left (by omega),List.drop_append,List.drop_eq_nil_of_le (by omega),List.nil_append,hl,hy,show i*4+4 - (i+1)*4=0 by omega,List.drop_zero,<- List.append_assoc]
theorem KH (W:World) (o:Option Nat):W.grownBy W.drew o:=dF (show Below W.heap.size W W.drew from ⟨rfl,rfl,rfl,lR,λ_ _=>rfl⟩) o
theorem KI {l:List (Hd × Value × Value)} {i:Nat} (hi:i<=l.length) (hl:l.length<=100):qo l i:=by
 by_cases he:i=l.length
 ·rw [he];exact xe hl
 ·have hlt:i<l.length:=by omega
  intro base v y a w hrow hy hy1 hb hne ⟨arr,tyA,hcell⟩ hone;have hxl:=qr l;have h4:(ar y).length=4:=rfl
  rcases hrow.2 with ⟨_,h0⟩|⟨g,cap,cur,hv,hg,hgc,hc1,hc2,hc3,hc4⟩
  ·omega
  ·subst hv;obtain ⟨vb,voff,spot⟩:=a;have hs0:w.cell? ((⟨vb,voff,spot⟩:Addr).add 0)=some (.string y.1.pod.nm):=hy 0 _ rfl;have hspot:spot=none:=by simpa [Addr.add] using World.cell?_spot hs0
   subst hspot;have hvb:vb≠g:=λe=>hne (by rw [<- e];rfl)
   have hcs:∀ j u,(l.flatMap ar)[j]?=some u->w.cell? ⟨g,j,none⟩=some u:=λj u hj=>by
    have hjl:j<l.length*4:=by
     have:=(List.getElem?_eq_some_iff.1 hj).1
     omega
    rw [<- hc4,List.getElem?_take,if_pos hjl,Array.getElem?_toList] at hj
    simp [World.cell?,hgc,hj]
   have hvs:∀ j u,(ar y)[j]?=some u->w.cell? ⟨vb,voff+j,none⟩=some u:=λj u hj=>by
    have:=hy j u hj
    rwa [Addr.add_lit] at this
   have h1c:∀ u∈l.flatMap ar,u.oneCell'=true:=λu hu=>by
    obtain ⟨x,hx,hu⟩:=List.mem_flatMap.1 hu;exact hone x hx u hu
   have hcl:cur.toList=l.flatMap ar++cur.toList.drop (l.length*4):=by rw [<- hc4,List.take_append_drop]
   have hcsz:cur.toList.length=cap*4:=by simpa using hc3
   by_cases hroom:l.length+1<=cap
   ·refine (D5 g l.length cap i vb voff 1 (l.flatMap ar) (ar y) w hlt hroom (by unfold maxLen at hc2;omega) hvb hxl h4 hcs (λj hj=>by
     have:j<cur.size:=by omega
     simp [World.cell?,hgc,this]) (λj=>aq hgc j) hvs h1c hy1 tyA 57 arr.size cur.size (by simp [World.shape?,hcell]) (by simp [World.shape?,hgc]) (by omega) (aq hcell voff) (aq hcell arr.size)).mono ?_
    rintro e w' ⟨rfl,rfl⟩;refine ⟨_,rfl,?_,((KH w (some g)).trans (lO g _ _ _)).trans (lO g _ _ _)⟩;have k1:=nu (l.flatMap ar |>.drop (i*4)) ((i+1)*4) w.drew cur hgc (by rw [List.length_drop,hxl];omega);have hsz1:(i+1)*4+((l.flatMap ar).drop (i*4)).length<=cur.toList.length:=by rw [List.length_drop,hxl];omega
    have k2:=nu (ar y) (i*4) _ _ k1 (by
     simp only [List.size_toArray,Q2,Qu,List.length_drop,hxl,h4];omega)
    simp only at k2;have hseg:=KG (l.flatMap ar) (cur.toList.drop (l.length*4)) (ar y) i l.length hxl hlt h4;dsimp only at hseg;rw [<- hcl] at hseg;rw [hseg] at k2;refine ⟨by rw [qr];simp;omega,.inr ⟨g,cap,_,rfl,hg,k2,hroom,hc2,?_,?_⟩⟩
    ·simp only [List.size_toArray,Q2,Qu,List.length_drop,hxl,h4];omega
    ·rw [xv,List.toList_toArray,List.take_append_of_le_length (by simp only [Q2,Qu,List.length_drop,hxl,h4];omega),List.take_of_length_le (by simp only [Q2,Qu,List.length_drop,hxl,h4];omega)]
   ·refine (Ek g l.length cap i vb voff 1 (l.flatMap ar) (ar y) w hlt hc1 (by omega) hl hxl h4 hcs hvs h1c hy1).mono ?_;rintro e w' ⟨G,hG1,hG2,rfl,rfl⟩;have hzc:∀ k,(Builtin.zeroCells dW.cells k).size=k*4:=λk=>by
     have hzc:dW.cells.size=4:=rfl;simp only [Builtin.zeroCells,Array.size_map,Array.size_range,hzc]
    obtain ⟨ROW,hROW⟩:∃ ROW,ROW=((l.flatMap ar).take (i*4)).toArray++Builtin.zeroCells dW.cells (l.length+1 - i)++Builtin.zeroCells dW.cells (G - (l.length+1)):=⟨_,rfl⟩;have hAl:((l.flatMap ar).take (i*4)).length=i*4:=by rw [Qu,hxl];omega
    have hBl:((l.flatMap ar).drop (i*4)).length=(l.length - i)*4:=by rw [List.length_drop,hxl];omega
    have hRs:ROW.size=G*4:=by
     rw [hROW];simp only [Array.size_append,List.size_toArray,hAl,hzc];omega
    have hRl:ROW.toList=(l.flatMap ar).take (i*4)++((Builtin.zeroCells dW.cells (l.length+1 - i)).toList++(Builtin.zeroCells dW.cells (G - (l.length+1))).toList):=by
     rw [hROW];simp
    rw [<- hROW];clear hROW;have hmade:(w.alloc (.cells ROW 57)).drew.heap[w.heap.size]?=some (.cells ROW 57 (0,0)):=aG w _ rfl;have k1:=nu (ar y) (i*4) _ ROW hmade (by rw [h4];omega);obtain ⟨W1,hW1⟩:∃ W1,W1=((w.alloc (.cells ROW 57)).drew.setCells w.heap.size (i*4) (ar y)).drew:=⟨_,rfl⟩;have k1':W1.heap[w.heap.size]?=some (.cells (ROW.toList.take (i*4)++ar y++ROW.toList.drop (i*4+(ar y).length)).toArray 57 (0,0)):=by rw [hW1];exact k1
    have k2:=nu ((l.flatMap ar).drop (i*4)) ((i+1)*4) W1 _ k1' (by
     have:ROW.toList.length=G*4:=by simpa using hRs
     simp only [List.size_toArray,Q2,Qu,List.length_drop,hxl,h4,this];omega)
    have hb0:Below w.heap.size w W1:=by
     rw [hW1];have b1:Below w.heap.size w (w.alloc (.cells ROW 57)).drew:=bf ((Q0 w.heap.size w).alloc (lR) _);exact bf (b1.grown (lO w.heap.size _ _ _) b1.size (λj hj=>by injection hj with hj;omega))
    have hb1:Below w.heap.size w (W1.setCells w.heap.size ((i+1)*4) ((l.flatMap ar).drop (i*4))):=hb0.grown (lO w.heap.size _ _ _) hb0.size (λj hj=>by injection hj with hj;omega);rw [<- hW1];clear hW1 k1 k1';simp only at k2;have hseg:=KF ((l.flatMap ar).take (i*4)) ((Builtin.zeroCells dW.cells (l.length+1 - i)).toList++(Builtin.zeroCells dW.cells (G - (l.length+1))).toList) (ar y) ((l.flatMap ar).drop (i*4)) i (l.length - i) hAl h4 hBl;dsimp only at hseg;rw [<- hRl] at hseg;rw [hseg] at k2;refine ⟨_,rfl,⟨by rw [qr];simp;omega,.inr ⟨w.heap.size,G,_,rfl,hb,k2,hG1,hG2,?_,?_⟩⟩,dF hb1 _⟩
    ·simp only [List.size_toArray,Q2,hAl,hBl,h4,List.length_drop,Array.length_toList,hzc];omega
    ·rw [xv,List.toList_toArray,List.take_append_of_le_length (by simp only [Q2,hAl,hBl,h4];omega),List.take_of_length_le (by simp only [Q2,hAl,hBl,h4];omega)]
end
section
open RowKit Shelf
open Qos (Nd Ct Pd nd ct pd ah)
open Sv (Gv Hd gv hd gsF az aF)
open Dvs (Dv dv aT)
attribute [local go_sem] Oper.semAt_some
theorem xw (N:Nat->Prop) (Ba Bd Be Bm:Nat) (t:Ol.St) (dk:Dk) (n:Nat) (nms:List ByteArray) (nb no nc:Nat) (w:World) (hM:av w N Ba Bd Be Bm t dk n) (hnm:∀ k (hk:k<nms.length),w.cell? ⟨nb,no+k,none⟩=some (.string nms[k])) (hnb:nb≠Bd/\nb≠Bm) (hnbl:nb<w.heap.size) (hnml:nms.length<=100) (h0:0<t.hs.length) (hn:n+36<=1000) (ht:∀ W,Apart (three Ba Bd Bm) w W->bE W) :
  Calls Tryz.prog 62 #[.pointer (some ⟨Ba,0,none⟩),.slice (some ⟨nb,no,none⟩) nms.length nc] w λe w'=>e=.returned .nilIface/\(∃ dk' n',(n'<=n/\eM w w' Ba)/\av w' N Ba Bd Be Bm ⟨t.m,t.ds,bX t.hs nms⟩ dk' n')/\Apart (three Ba Bd Bm) w w':=by
 have HMA:=qI hM;obtain ⟨h1,hcalm,hcpu,hE,hab,hfr,hnl,htx,tb,b,tc,hv,pb,db,ao,pc,s,k1,k2,k3,k4,k5,k6,k7⟩:=hM;obtain ⟨a1,a2,a3⟩:=Ol.bW.1 h1.held;have HINV:=qI h1;have HHF:=qI h1.held;have HCALM:=qI hcalm;have HCPU:=qI hcpu;have HE:=qI hE;have HTX:=qI htx;obtain ⟨el1,el2,el3⟩:=hE.lt;obtain ⟨ea1,ea2,ea3⟩:=hE.apart;obtain ⟨ab1,ab2,ab3⟩:=hab;have hba:=k1.lt;obtain ⟨ha,hc,hvv,hhm,hhr⟩:=id k2;subst hvv;have HK1:=qI k1;have HK2:=qI k2;have HK3:=qI k3;have HK4:=qI k4;have HK5:=qI k5;have HK6:=qI k6;have HK7:=qI k7;have HT:=qI ht;have HNM:=qI hnm;have HNB:=qI hnb;have HML:Hid (∀ j,four N Ba Bd Bm j->j<w.heap.size):=λj hj=>by
  rcases hj with e|e|e|e
  ·exact hnl j e
  all_goals omega
 have x7:w.cell? ⟨Ba,7,none⟩=some (.slice ha t.hs.length hc):=ad k1 7;have hop:=k3.op;have HNOD:Hid (aT t.ds):=Dvs.gH h1.devs;clear h1 hcalm hcpu hE hfr hnl htx k1 k2 k3 k4 k5 k6 k7 a2 a3 hhm hhr ht hnm hnb
 go_enter Tryz.func62,Tryz.ntmps62
 go_wp2_with fail
 clear x7;refine (tZ (.slice ha t.hs.length hc) t.hs w (ag (four N Ba Bd Bm) w) HK2.out (ci _ _) (by omega)).mono ?_;rintro e C1 ⟨u,cvv,gvv,rfl,hown,hin,hb⟩;obtain ⟨l,hl1,hl2,hl3⟩:=xh hown hin;obtain ⟨L,hL⟩:=Kl hl3;have HFST:Hid (L.map HS.h=t.hs):=by
  unfold Hid;rw [<- hl1,<- hL,List.map_map];rfl
 have HOLD:Hid (∀ x∈L,aE (ag (four N Ba Bd Bm) w) (.slice x.ca x.cn x.cc) x.h.pod.cs/\bl (ag (four N Ba Bd Bm) w) (.slice x.ga x.gn x.gc) x.h.gs):=λx hx=>hl3 x.tri (by rw [<- hL];exact Qk.2 ⟨x,hx,rfl⟩)
 have hL0:0<L.length/\L.length<=12:=by rw [<- HFST.out,Q9] at h0 a1;exact ⟨h0,a1⟩
 obtain ⟨g,cap,hu⟩:∃ g cap,u=.slice (some ⟨g,0,none⟩) L.length cap:=by
  rcases hl2.2 with ⟨_,hz⟩|⟨g,cap,cur,hv',_⟩
  ·exfalso;rw [<- hL,Q9] at hz;omega
  ·exact ⟨g,cap,by rw [hv',<- hL,Q9]⟩
 subst hu;rw [<- hL,Q9] at hl2;obtain ⟨hrow,hgw,hlc,hcm⟩:=Km hl2;have HROW0:=qI hrow;have HCM:=qI hcm;have HAP0:Hid (Apart (fO Bd Bm) w C1):=Apart.of_below hb;have HE0:Hid (bz C1 Be Bd Bm n dk.n dk.k (λa=>a∈au t.hs)):=HE.out.below hb;clear hown hin hb hl1 hl2 hl3 hL hrow hcm cvv gvv l
 go_wp2
 go_loopw [5,17] (λnx i wr=>∃ k:Nat,k<=nms.length/\i=.int .i64 k/\nx=.slice (some ⟨g,0,none⟩) (dj L (nms.take k)).length cap/\bU wr g cap (λj x=>j<(dj L (nms.take k)).length/\x=b7 (dj L (nms.take k)) j)/\(∃ n',n'<=n/\bz wr Be Bd Bm n' dk.n dk.k (λa=>a∈au (bX t.hs (nms.take k))))/\Apart (fO Bd Bm) w wr) (λ_ i _=>nms.length - (intOf i).toNat)
 case atStart=>exact ⟨0,Nat.zero_le _,rfl,rfl,HROW0.out,⟨n,lR,HE0.out⟩,HAP0.out⟩
 case round=>
  obtain ⟨k,hk,rfl,rfl,hrow,⟨n',hn',hE⟩,hap⟩:=hrel;have HROW:=qI hrow;have HE1:=qI hE;have HAP:=qI hap;have hsz:=hap.size;have HSUBL:=qI (nr L (nms.take k));have hkl:(dj L (nms.take k)).length<=L.length:=(nr L (nms.take k)).length_le;have HFK:Hid ((dj L (nms.take k)).map HS.h=bX t.hs (nms.take k)):=by unfold Hid;rw [xt,HFST.out]
  clear hrow hE hap HE0 HAP0 HROW0
  by_cases hlt:k<nms.length
  ·have c0:wr.cell? ⟨nb,no+k,none⟩=some (.string nms[k]):=by
    rw [<- HNM.out k hlt];unfold World.cell?
    rw [HAP.out.block nb hnbl (λe=>e.elim HNB.out.1 HNB.out.2)]
   have HNX:=qI (Kz (L:=L) hlt);have HGX:=qI (Ky (hs:=t.hs) hlt);obtain ⟨nm,hnm⟩:∃ nm,nm=nms[k]:=⟨_,rfl⟩;rw [<- hnm] at c0 HNX HGX;clear hnm;have HBA:=qI ((Q0 wr.heap.size wr).alloc (lR) (.cells #[.string nm] 9));have HXA:=qI (aG wr (.cells #[.string nm] 9) rfl);have hgl:g<wr.heap.size:=HROW.out.lt;have hLk:Hid ((dj L (nms.take (k+1))).length<=L.length):=(nr L (nms.take (k+1))).length_le
   go_wp2_with fail
   clear c0;generalize wr.alloc (.cells #[.string nm] 9)=X at *;refine (Kv nm wr.heap.size g cap (dj L (nms.take k)) X HXA.out (by omega) (HROW.out.block (HBA.out.block g hgl)) (by omega) HCM.out (by omega)).mono ?_;rintro e W2 ⟨rfl,hrow2,hgr2⟩;rw [<- HNX.out] at hrow2 ⊢;have HROW2:=qI hrow2;have hs2:=hgr2.size;have hs1:=HBA.out.size;have HAP2:Hid (Apart (fO Bd Bm) w W2):=⟨hgr2.os.trans (HBA.out.os.trans HAP.out.os),hgr2.tape.trans (HBA.out.tape.trans HAP.out.tape),hgr2.output.trans (HBA.out.output.trans HAP.out.output),by omega,λj hj hn=>(hgr2.block j (by omega) (λe=>by injection e with e;omega)).trans ((HBA.out.block j (by omega)).trans (HAP.out.block j hj hn))⟩;have HE2:Hid (bz W2 Be Bd Bm n' dk.n dk.k (λa=>a∈au (bX t.hs (nms.take k)))):=KB (HE1.out.below HBA.out) (HROW.out.block (HBA.out.block g hgl)) hgr2 ⟨by omega,by omega,by omega⟩;have x6:W2.cell? ⟨Ba,6,none⟩=some (.pointer (some ⟨Be,0,none⟩)):=ad ((HAP2.out.block Ba hba (λe=>e.elim ab1 ab2)).trans HK1.out) 6;have HFK2:Hid ((dj L (nms.take (k+1))).map HS.h=bX t.hs (nms.take (k+1))):=by unfold Hid;rw [xt,HFST.out]
   have HH2:Hid (aM (ag (fO Bd Bm) W2) (.slice (some ⟨g,0,none⟩) (dj L (nms.take (k+1))).length cap) (bX t.hs (nms.take (k+1)))):=by
    have:=xu (M:=four N Ba Bd Bm) (w:=w) hrow2 HML.out hgw (by have:=hLk.out;omega) HCM.out (λx hx=>HOLD.out x ((nr L (nms.take (k+1))).subset hx)) ⟨HAP2.out.os,HAP2.out.tape,HAP2.out.output,HAP2.out.size,λj hj hn=>HAP2.out.block j hj (λe=>hn (.inr (.inr e)))⟩
    rw [HFK2.out] at this;exact this.le (bg (λj hj hn=>⟨λe=>hn (.inr (.inr e)),rfl⟩) (lR))
   have HRJ:=qI (pZ Be Bd Bm n' dk.n dk.k (au (bX t.hs (nms.take k))) _ _ W2 HE2.out HH2.out (Ol.pB HHF.out (km _ _)) (by omega));clear hrow2 hgr2
   go_wp2_with fail
   refine HRJ.out.mono ?_;rintro e W3 ⟨rfl,⟨n2,hn2,hE3⟩,ho3⟩;have HE3:=qI hE3;have HO3:=qI ho3;have HN2:Hid (n2<=n):=by
    unfold Hid;rw [nl (qq (by rw [HGX.out];exact Ol.pA _ _))] at hn2;omega
   clear hE3 ho3 hn2 x6 HRJ
   go_wp2
   go_roundw
   case rel=>exact ⟨k+1,by omega,by go_num,rfl,HROW2.out.block (HO3.out.block g (by omega) (by omega) (by omega)),⟨n2,HN2.out,HE3.out⟩,⟨HO3.out.os.trans HAP2.out.os,HO3.out.tape.trans HAP2.out.tape,HO3.out.output.trans HAP2.out.output,by have:=HO3.out.size;have:=HAP2.out.size;omega,λj hj hn=>(HO3.out.block j (by omega) (λe=>hn (.inl e)) (λe=>hn (.inr e))).trans (HAP2.out.block j hj hn)⟩⟩
   case measure=>simp [intOf];omega
  ·have hke:nms.take k=nms:=List.take_of_length_le (by omega);rw [hke] at HROW HE1 HSUBL hkl HFK ⊢;clear hke;have HHS:Hid (aM (ag (four N Ba Bd Bm) wr) (.slice (some ⟨g,0,none⟩) (dj L nms).length cap) (bX t.hs nms)):=by
    have:=xu (M:=four N Ba Bd Bm) (w:=w) HROW.out HML.out hgw (by omega) HCM.out (λx hx=>HOLD.out x (HSUBL.out.subset hx)) ⟨HAP.out.os,HAP.out.tape,HAP.out.output,HAP.out.size,λj hj hn=>HAP.out.block j hj (λe=>hn (.inr (.inr e)))⟩
    rw [HFK.out] at this;exact this
   have HF:=qI (Ol.pB HHF.out (km t.hs nms));have HTG:=qI (Ol.Fk (km t.hs nms) (Ol.Fl HHF.out) HTX.out);have HCS:=qI (vV HCALM.out HF.out);have HO1:Hid (bh wr Ba tb t.m Bd Be (.slice ha t.hs.length hc) s.cp pb):=(HAP.out.block Ba hba (λe=>e.elim ab1 ab2)).trans HK1.out;have x5:wr.cell? ⟨Ba,5,none⟩=some (.pointer (some ⟨Bd,0,none⟩)):=ad HO1.out 5;have HAPT:Hid (Apart (three Ba Bd Bm) w wr):=⟨HAP.out.os,HAP.out.tape,HAP.out.output,HAP.out.size,λj hj hn=>HAP.out.block j hj (λe=>hn (.inr e))⟩;have HD8:Hid (bd wr Bd dk):=vY HE1.out.disk HCALM.out;have HSV:=qI (vT Bd dk _ (bX t.hs nms) wr HD8.out (.inl HCALM.out.2.2) (HHS.out.le (ci _ _)) (HT.out _ HAPT.out));rw [HCS.out.1 HTG.out,show ak (((0:Nat)):Int)=.nilIface from rfl] at HSV
   go_wp2_with fail
   refine HSV.out.mono ?_;rintro e W9 ⟨rfl,hd9,hg9⟩;have HD9:=qI hd9;have HG9:=qI hg9;have hs9:=hg9.size;have HE9:Hid (bz W9 Be Bd Bm n' (dk.save (bX t.hs nms)).2.n (dk.save (bX t.hs nms)).2.k (λa=>a∈au (bX t.hs nms))):=qm HE1.out hg9 hd9 HCS.out.2.2;have HO9:Hid (bh W9 Ba tb t.m Bd Be (.slice ha t.hs.length hc) s.cp pb):=(hg9.block Ba (by omega) (λe=>ab1 (by injection e))).trans HO1.out;have HBLK:Hid (∀ j,j<w.heap.size->¬ four N Ba Bd Bm j->W9.heap[j]?=w.heap[j]?):=λj hj hn=>(hg9.block j (by omega) (λe=>hn (.inr (.inr (.inl (by injection e)))))).trans (HAP.out.block j hj (λe=>hn (.inr (.inr e))))
   have hpbl:=HK5.out.pool.lt;have HPO9:Hid (ap W9 pb db ao pc t.ds s.us):=by
    have:=kk HK5.out.pool (HBLK.out pb hpbl HK6.out) (λh0=>HBLK.out db (HK5.out.pool.at0 h0).2.2 (HK7.out h0)) (by omega)
    rw [Ol.fI HK4.out] at this;exact this
   have HH9:Hid (aM (ag (four N Ba Bd Bm) W9) (.slice (some ⟨g,0,none⟩) (dj L nms).length cap) (bX t.hs nms)):=HHS.out.le (bg (λj hj hn=>⟨hn,hg9.block j hj (λe=>hn (.inr (.inr (.inl (by injection e)))))⟩) (by omega));have HH10:Hid (aM (ag (λj=>j=Ba) W9) (.slice (some ⟨g,0,none⟩) (dj L nms).length cap) (bX t.hs nms)):=HH9.out.le (bg (λj hj hn=>⟨λe=>hn (.inr (.inl e)),rfl⟩) (lR));have HT9:Hid (cI (ag (four N Ba Bd Bm) W9) tb b 0 tc t.m):=lM HK3.out HCPU.out HBLK.out (by omega);have HIG:=qI (KA HINV.out nms);obtain ⟨s',hs'⟩:=HIG.out.left;have HS':=qI hs';have hok':i8 (bX t.hs nms):=(Ol.bW.1 HF.out).2.1;have hlen':(bX t.hs nms).length<=100:=by have:=(Ol.bW.1 HF.out).1;omega
   have HHO:=qI (qg Ba tb t.m Bd Be (.slice ha t.hs.length hc) s.cp pb db ao pc t.ds s.us (.slice (some ⟨g,0,none⟩) (dj L nms).length cap) (bX t.hs nms) s' W9 HO9.out ⟨_,_,_,rfl⟩ HPO9.out (λe=>HK6.out (.inr (.inl e))) (λh0 e=>HK7.out (by rw [Ol.fI HK4.out];exact h0) (.inr (.inl e))) HNOD.out HH10.out hop hok' hlen' hs');clear hd9 hg9 hs' hok' hlen' x5
   go_wp2_with fail
   refine HHO.out.mono ?_;rintro e W11 ⟨rfl,⟨pb2,db2,ao2,c2,hos,hsk,hpb,hdb⟩,ha11⟩;have HFIN:Hid (av W11 N Ba Bd Be Bm ⟨t.m,t.ds,bX t.hs nms⟩ (dk.save (bX t.hs nms)).2 n'):=HMA.out.then (by omega) HT9.out HCPU.out HH9.out ha11 hos hsk hpb hdb HE9.out HO9.out HIG.out HS'.out HCS.out.2.2 HTG.out
   have HAPF:Hid (Apart (three Ba Bd Bm) w W11):=(HAPT.out.trans (eA HG9.out (λj e _=>.inr (.inl (by injection e with e;exact e.symm))))).trans ⟨ha11.os,ha11.tape,ha11.output,ha11.size,λj hj hn=>ha11.block j hj (λe=>hn (.inl e))⟩;have HPU:Hid (eM w W11 Ba):=.inr (qh hos hsk (by have:=(HAPT.out.trans (eA HG9.out (λj e _=>.inr (.inl (by injection e with e;exact e.symm))))).size;omega) (λh0=>by have:=(HAPT.out.trans (eA HG9.out (λj e _=>.inr (.inl (by injection e with e;exact e.symm))))).size;have:=hdb h0;omega));clear hos hsk hpb hdb ha11
   go_wp2
   go_ret;exact ⟨rfl,⟨_,n',⟨hn',HPU.out⟩,HFIN.out⟩,HAPF.out⟩
end
section
open RowKit Shelf
open Qos (Nd Ct Pd nd ct pd ah)
open Sv (Gv Hd gv hd gsF az aF)
attribute [local go_sem] Oper.semAt_some
theorem xx {hs:List Hd} {nm:ByteArray} (h:ch hs nm=false):Ol.eU hs nm=hs:=by
 unfold Ol.eU;refine List.filter_eq_self.2 λx hx=>?_
 have:¬ x.pod.nm=nm:=λe=>by
  rw [lK.2 ⟨x,hx,e⟩] at h;cases h
 simp [this]
theorem xy (N:Nat->Prop) (Ba Bd Be Bm:Nat) (t:Ol.St) (dk:Dk) (n:Nat) (nm:ByteArray) (w:World) (hM:av w N Ba Bd Be Bm t dk n) (hn:n+36<=1000) (ht:∀ W,Apart (three Ba Bd Bm) w W->bE W) :
  Calls Tryz.prog 28 #[.pointer (some ⟨Ba,0,none⟩),.string nm] w λe w'=>e=.returned (ak ((if ch t.hs nm then 0 else 6:Nat):Int))/\(∃ dk' n',(n'<=n/\eM w w' Ba)/\av w' N Ba Bd Be Bm ⟨t.m,t.ds,Ol.eU t.hs nm⟩ dk' n')/\Apart (three Ba Bd Bm) w w':=by
 obtain ⟨en,hen⟩:∃ en:Nat,en=if ch t.hs nm then 0 else 6:=⟨_,rfl⟩
 rw [<- hen];have HEN:=qI hen;clear hen;have HMA:=qI hM;have HT:=qI ht;obtain ⟨h1,hcalm,hcpu,hE,hab,hfr,hnl,htx,tb,b,tc,hv,pb,db,ao,pc,s,k1,k2,k3,k4,k5,k6,k7⟩:=hM;obtain ⟨a1,a2,a3⟩:=Ol.bW.1 h1.held;obtain ⟨el1,el2,el3⟩:=hE.lt;obtain ⟨ha,hc,hvv,hhm,hhr⟩:=id k2;subst hvv;have x7:w.cell? ⟨Ba,7,none⟩=some (.slice ha t.hs.length hc):=ad k1 7;have HFI:=qI (vB (.slice ha t.hs.length hc) t.hs nm w (k2.le (ci _ _)) (by omega) a3);clear h1 hcalm hcpu hE hab hfr hnl htx k1 k2 k3 k4 k5 k6 k7 a2 a3 hhm hhr ht
 go_enter Tryz.func28,Tryz.ntmps28
 go_wp2_with fail
 refine HFI.out.mono ?_;rintro e W1 ⟨rfl,hb1⟩;have HB1:=qI hb1;have hs1:=hb1.size;clear hb1 x7
 rcases two (ch t.hs nm) with hh|hh
 ·have HH:=qI hh;rw [hh];have hpos:0<t.hs.length:=by
   obtain ⟨x,hx,_⟩:=lK.1 hh;exact List.length_pos_of_mem hx
  clear hh;have HBX:=qI (HB1.out.alloc HB1.out.size (.cells #[.string nm] 9));have HX0:=qI (aG W1 (.cells #[.string nm] 9) rfl);have hsX:(W1.alloc (.cells #[.string nm] 9)).heap.size=W1.heap.size+1:=by simp
  go_wp2_with fail
  generalize W1.alloc (.cells #[.string nm] 9)=X at *;refine (xw N Ba Bd Be Bm t dk n [nm] W1.heap.size 0 1 X (HMA.out.keep HBX.out) (λk hk=>by
   have hk0:k=0:=by simp at hk;exact hk
   subst hk0;exact ad HX0.out 0) ⟨by omega,by omega⟩ (by omega) (by simp) hpos hn (λW hW=>HT.out W ((Apart.of_below HBX.out).trans hW))).mono ?_
  rintro e W2 ⟨rfl,hM2,ha2⟩;have HM3:Hid (∃ dk' n',(n'<=n/\eM w W2 Ba)/\av W2 N Ba Bd Be Bm ⟨t.m,t.ds,Ol.eU t.hs nm⟩ dk' n'):=by
   obtain ⟨d2,n2,⟨q1,q2⟩,q3⟩:=hM2;exact ⟨d2,n2,⟨q1,q2.old HBX.out HMA.out.poolAt.1⟩,q3⟩
  have HA2:=qI ha2;clear hM2 ha2
  go_wp2
  go_ret;exact ⟨by rw [show en=0 by rw [HEN.out,HH.out];rfl];rfl,HM3.out,(Apart.of_below HBX.out).trans HA2.out⟩
 ·have HH:=qI hh;rw [hh];clear hh
  go_wp2
  go_ret;exact ⟨by rw [show en=6 by rw [HEN.out,HH.out];rfl];rfl,by rw [xx HH.out];exact ⟨dk,n,⟨lR,.inl (HB1.out.block Ba HMA.out.poolAt.1)⟩,HMA.out.keep HB1.out⟩,Apart.of_below HB1.out⟩
end
