import Derived.Test.YtbmmnflgnmjboaaGreatDoorR28
set_option maxRecDepth 100000
set_option maxHeartbeats 16000000
open Go.Proofs.Tryz
namespace Go.Proofs.YtbmmnflgnmjboaaGreatDoor
section
open RowKit Shelf
open Qos (Nd Ct Pd nd ct pd af aA)
open Sv (Gv Hd gv hd gsF)
open Dvs (Dv dv aW)
attribute [local go_sem] Oper.semAt_some
def bg (W:World) (Ba tb:Nat) (m:Ol.Mc) (Bd Be:Nat) (hv:Value) (cp pb:Nat):Prop:=W.heap[Ba]?=some (.cells #[.pointer (some ⟨tb,0,none⟩),.int .u64 m.op,.int .u8 m.nd,.int .i64 m.nb,.int .i64 m.pol,.pointer (some ⟨Bd,0,none⟩),.pointer (some ⟨Be,0,none⟩),hv,.int .u64 cp,.pointer (some ⟨pb,0,none⟩)] 115 (0,0))
theorem bg.lt {W:World} {Ba tb:Nat} {m:Ol.Mc} {Bd Be:Nat} {hv:Value} {cp pb:Nat} (h:bg W Ba tb m Bd Be hv cp pb):Ba<W.heap.size:=(gS h).1
theorem bg.block {W W':World} {Ba tb:Nat} {m:Ol.Mc} {Bd Be:Nat} {hv:Value} {cp pb:Nat} (h:bg W Ba tb m Bd Be hv cp pb) (hb:W'.heap[Ba]?=W.heap[Ba]?):bg W' Ba tb m Bd Be hv cp pb:=hb.trans h
theorem bg.below {W W':World} {Ba tb:Nat} {m:Ol.Mc} {Bd Be:Nat} {hv:Value} {cp pb:Nat} (h:bg W Ba tb m Bd Be hv cp pb) (hb:Below W.heap.size W W'):bg W' Ba tb m Bd Be hv cp pb:=h.block (hb.block Ba h.lt)
theorem zj (Ba tb:Nat) (m:Ol.Mc) (Bd Be:Nat) (hv:Value) (cp pb db:Nat) (ao:Option Addr) (c:Nat) (ds:List Dv) (us:Nat->Bool) (w:World) (h:bg w Ba tb m Bd Be hv cp pb) (hp:ak w pb db ao c ds us) (hN:aW ds) :
  Calls prog 19 #[.pointer (some ⟨Ba,0,none⟩)] w λe w'=>∃ v,e=.returned v/\gC w.heap.size w' v ds/\Below w.heap.size w w':=by
 have HD:=qI (xP w pb db ao c ds us hp hN);unfold bg at h;have c9:w.cell? ⟨Ba,9,none⟩=some (.pointer (some ⟨pb,0,none⟩)):=aa h 9;clear h hp
 go_enter func19,ntmps19
 go_wp2_with fail
 refine HD.out.mono ?_;rintro e w' ⟨v,rfl,hr,hb⟩;have HR:=qI hr;obtain ⟨a1,c1,g1,Ha,_⟩:=id hr;subst Ha;clear hr
 go_wp2
 go_ret;exact ⟨_,rfl,HR.out,hb⟩
theorem nh.form {w w':World} {e:Ending} {o:Option Ol.Sk} (h:nh w w' e o):∃ (cp:Int) (p:Option Addr) (b:Bool),e=.returned (.tuple #[.agg #[.int .u64 cp,.pointer p],.bool b])/\b=o.isSome/\(∀ s,o=some s->∃ pb db ao c,cp=(s.cp:Int)/\p=some ⟨pb,0,none⟩/\dj w' pb db ao c s/\w.heap.size<=pb/\(0<s.ds.length->w.heap.size<=db)):=by
 cases o with
 | none=>
  obtain ⟨cp,p,rfl⟩:=h;exact ⟨cp,p,false,rfl,rfl,λs hs=>nomatch hs⟩
 | some s=>
  obtain ⟨pb,db,ao,c,rfl,h2,h3,h4⟩:=h;exact ⟨_,_,true,rfl,rfl,λs' hs=>by injection hs with hs;subst hs;exact ⟨pb,db,ao,c,rfl,rfl,h2,h3,h4⟩⟩
theorem pe {W:World} {pb db:Nat} {ao:Option Addr} {c:Nat} {s:Ol.Sk} (h:dj W pb db ao c s) {b:Nat} (h1:pb≠b) (h2:0<s.ds.length->db≠b) (j:Nat) (v:Value):dj (W.setCell ⟨b,j,none⟩ v) pb db ao c s:=
 ⟨h.pool.kept (bL _ ⟨b,j,none⟩ _) (λe=>h1 (by injection e)) λh0 e=>h2 h0 (by injection e),h.nodes,h.cp⟩
abbrev zk:=λ(Ba tb:Nat) (m:Ol.Mc) (w':World)=>w'.cell? ⟨Ba,0,none⟩=some (.pointer (some ⟨tb,0,none⟩))/\w'.cell? ⟨Ba,1,none⟩=some (.int .u64 m.op)/\w'.cell? ⟨Ba,2,none⟩=some (.int .u8 m.nd)/\w'.cell? ⟨Ba,3,none⟩=some (.int .i64 m.nb)/\w'.cell? ⟨Ba,4,none⟩=some (.int .i64 m.pol)
theorem sB (Ba tb:Nat) (m:Ol.Mc) (Bd Be:Nat) (hv:Value) (cp pb db:Nat) (ao:Option Addr) (c:Nat) (ds:List Dv) (us:Nat->Bool) (vh:Value) (hs:List Hd) (w:World) (h:bg w Ba tb m Bd Be hv cp pb) (hp:ak w pb db ao c ds us) (hN:aW ds) (hH:aJ w vh hs) (hop:m.op<18446744073709551616) (hok:jK hs) (hl:hs.length<=100) :
  Calls prog 52 #[.pointer (some ⟨Ba,0,none⟩),vh] w λe w'=>nh w w' e (Ol.left m ds hs)/\Below w.heap.size w w':=by
 have Hh:=qI ((Q0 w.heap.size w).alloc (lR) (.cells #[.int .u64 0,.pointer none] 98));have HZ:=qI (aD w (.cells #[.int .u64 0,.pointer none] 98) rfl);have HO:=qI (h.below Hh.out);have HP:=qI (hp.below Hh.out);have HH:=qI (hH.below Hh.out);have Hx:(w.alloc (.cells #[.int .u64 0,.pointer none] 98)).heap.size=w.heap.size+1:=by simp
 have Hy:=h.lt;obtain ⟨ha,hc,rfl,_,_⟩:=hH;clear h hp
 go_enter func52,ntmps52
 go_wp2_with fail
 generalize w.alloc (.cells #[.int .u64 0,.pointer none] 98)=X at *;unfold bg at HO;have Hi:Hid (∀ W,Below X.heap.size X W->(zk Ba tb m) W):=λW hb=>⟨aa ((hb.block (Ba) (by omega)).trans HO.out) 0,aa ((hb.block (Ba) (by omega)).trans HO.out) 1,aa ((hb.block (Ba) (by omega)).trans HO.out) 2,aa ((hb.block (Ba) (by omega)).trans HO.out) 3,aa ((hb.block (Ba) (by omega)).trans HO.out) 4⟩
 have Hf:Hid (Below X.heap.size X X.drew):=a6 (Q0 _ _);refine Qo (by kernel_rfl) (Hi.out _ Hf.out) λhQ=>?_;generalize X.drew=V at *;refine tk 0 ?_;refine tk 1 ?_;refine tk 2 ?_;refine tk 3 ?_;refine tk 4 ?_;refine tk 6 ?_;refine rd 5 λK hK=>?_;go_simp
 go_wp2_with fail
 refine (zj Ba tb m Bd Be hv cp pb db ao c ds us V (bg.below (show bg X Ba tb m Bd Be hv cp pb from HO.out) Hf.out) (HP.out.below Hf.out) hN).mono ?_;rintro e W1 ⟨v1,rfl,Hj,Ho⟩;have He:=qI (Hf.out.trans (Ho.mono Hf.out.size));have Hu:=qI Hj;obtain ⟨a1,c1,g1,Ht,_⟩:=id Hj;subst Ht;clear Ho Hj
 go_wp2
 refine hK.out _ _ (Hi.out _ He.out) λhQ=>?_;clear hK K;refine rd 7 λK hK=>?_;go_simp
 go_wp2_with fail
 obtain ⟨dg2,Ha⟩:=zg Hu.out;refine (LC m tb dg2 0 _ _ ds hs W1 Ha (HH.out.below He.out) hop hok hl).mono ?_;rintro e W2 ⟨Hg,Hp⟩;have Hb:=qI (He.out.trans (Hp.mono He.out.size));have Hr:=He.out.size;obtain ⟨lcp,lp,lb,rfl,Hm,Hn⟩:=Hg.form;have Hq:=qI Hm;have Hv:Hid (∀ s,Ol.left m ds hs=some s->∃ pb db ao c,lcp=(s.cp:Int)/\lp=some ⟨pb,0,none⟩/\dj W2 pb db ao c s/\w.heap.size<pb/\(0<s.ds.length->w.heap.size<db)):=λs hs=>by
  obtain ⟨pb,db,ao,c,q1,q2,q3,q4,q5⟩:=Hn s hs;exact ⟨pb,db,ao,c,q1,q2,q3,by omega,λh0=>by have:=q5 h0;omega⟩
 clear Hp Hg Ha Hm Hn
 go_wp2
 refine hK.out _ _ (Hi.out _ Hb.out) λhQ=>?_;clear hK K;refine tk 8 ?_;refine tk 9 ?_;have Hc:=(Hb.out.block w.heap.size (by omega)).trans HZ.out;have c0_3:W2.cell? ⟨w.heap.size,0,none⟩=some (.int .u64 0):=aa Hc 0;have c1_3:W2.cell? ⟨w.heap.size,1,none⟩=some (.pointer none):=aa Hc 1;have f0_3:=ai Hc 0;have f1_3:=ai Hc 1;have Hl:=qI (ah (ah Hc 0 (.int .u64 lcp)) 1 (.pointer lp));have Hw:=qI (((Hh.out.trans (Hb.out.mono (by omega))).setCell (p:=⟨w.heap.size,0,none⟩) (lR) (.int .u64 lcp)).setCell (p:=⟨w.heap.size,1,none⟩) (lR) (.pointer lp));have Hs:Hid ((zk Ba tb m) ((W2.setCell ⟨w.heap.size,0,none⟩ (.int .u64 lcp)).setCell ⟨w.heap.size,1,none⟩ (.pointer lp))):=⟨aa ((set_other (by omega)).trans ((set_other (by omega)).trans ((Hb.out.block (Ba) (by omega)).trans HO.out))) 0,aa ((set_other (by omega)).trans ((set_other (by omega)).trans ((Hb.out.block (Ba) (by omega)).trans HO.out))) 1,aa ((set_other (by omega)).trans ((set_other (by omega)).trans ((Hb.out.block (Ba) (by omega)).trans HO.out))) 2,aa ((set_other (by omega)).trans ((set_other (by omega)).trans ((Hb.out.block (Ba) (by omega)).trans HO.out))) 3,aa ((set_other (by omega)).trans ((set_other (by omega)).trans ((Hb.out.block (Ba) (by omega)).trans HO.out))) 4⟩;clear Hc;refine rd 10 λK hK=>?_;go_simp
 go_wp2
 refine hK.out _ _ Hs.out λhQ=>?_;clear hK K;refine tk 11 ?_;refine Qn (by kernel_rfl) ?_ _;clear hQ;have Hk:Hid (nh w ((W2.setCell ⟨w.heap.size,0,none⟩ (.int .u64 lcp)).setCell ⟨w.heap.size,1,none⟩ (.pointer lp)) (.returned (.tuple #[.agg #[.int .u64 lcp,.pointer lp],.bool lb])) (Ol.left m ds hs)):=by
  unfold Hid;cases hl0:Ol.left m ds hs with
  | none=>rw [Hq.out,hl0];exact ⟨lcp,lp,rfl⟩
  | some s=>
   obtain ⟨pb,db,ao,c,rfl,rfl,q3,q4,q5⟩:=Hv.out s hl0;rw [Hq.out,hl0];exact ⟨pb,db,ao,c,rfl,pe (pe q3 (by omega) (λh0=>by have:=q5 h0;omega) _ _) (by omega) (λh0=>by have:=q5 h0;omega) _ _,by omega,λh0=>by have:=q5 h0;omega⟩
 go_wp2_with fail
 generalize ((W2.setCell ⟨w.heap.size,0,none⟩ (.int .u64 lcp)).setCell ⟨w.heap.size,1,none⟩ (.pointer lp))=WZ at *;(try simp only [Exit.inBlock,Exit.then]);refine bodyPost_ret (v:=.tuple #[.agg #[.int .u64 lcp,.pointer lp],.bool lb]) ?_ rfl ⟨Hk.out,Hw.out⟩;have r0:WZ.cell? ⟨w.heap.size,0,none⟩=some (.int .u64 lcp):=aa Hl.out 0;have r1:WZ.cell? ⟨w.heap.size,1,none⟩=some (.pointer lp):=aa Hl.out 1;rw [iw rfl];go_simp
end
section
open RowKit Shelf
open Sv (Gv Hd gv hd gsF)
open Dvs (Dv dv aW)
attribute [local go_sem] Oper.semAt_some
theorem sC (Ba tb:Nat) (m:Ol.Mc) (Bd Be:Nat) (hv0:Value) (cp pb db:Nat) (ao:Option Addr) (c:Nat) (ds:List Dv) (us:Nat->Bool) (vh:Value) (hs:List Hd) (s:Ol.Sk) (w:World) (h:bg w Ba tb m Bd Be hv0 cp pb) (hsl:∃ a n c,hv0=.slice a n c) (hp:ak w pb db ao c ds us) (hpa:pb≠Ba) (hda:0<ds.length->db≠Ba) (hN:aW ds) (hH:aJ (ag (λj=>j=Ba) w) vh hs) (hop:m.op<18446744073709551616) (hok:jK hs) (hl:hs.length<=100) (hleft:Ol.left m ds hs=some s) :
  Calls prog 58 #[.pointer (some ⟨Ba,0,none⟩),vh] w λe w'=>e=.returned (.tuple #[])/\(∃ pb' db' ao' c',bg w' Ba tb m Bd Be vh s.cp pb'/\dj w' pb' db' ao' c' s/\w.heap.size<=pb'/\(0<s.ds.length->w.heap.size<=db'))/\Apart (λj=>j=Ba) w w':=by
 obtain ⟨oa,on,oc,rfl⟩:=hsl;have Hr:=h.lt;unfold bg at h;have c7:w.cell? ⟨Ba,7,none⟩=some (.slice oa on oc):=aa h 7;have f7:=ai h 7;have Hf:Hid (bg (w.setCell ⟨Ba,7,none⟩ vh) Ba tb m Bd Be vh cp pb):=ah h 7 vh;have Hh:Hid (Apart (λj=>j=Ba) w (w.setCell ⟨Ba,7,none⟩ vh)):=Apart.setCell (K:=λj=>j=Ba) rfl _ _ _;have Hn:Hid (ak (w.setCell ⟨Ba,7,none⟩ vh) pb db ao c ds us):=hp.kept (bL _ ⟨Ba,7,none⟩ _) (λe=>hpa (by injection e)) λh0 e=>hda h0 (by injection e);have Ho:Hid (aJ (w.setCell ⟨Ba,7,none⟩ vh) vh hs):=hH.le ((k9 Hh.out λ_ _ h=>h).trans (cC _ _));have Hq:(w.setCell ⟨Ba,7,none⟩ vh).heap.size=w.heap.size:=by simp
 have He:=qI (sB Ba tb m Bd Be vh cp pb db ao c ds us vh hs _ Hf.out Hn.out hN Ho.out hop hok hl);rw [hleft] at He;obtain ⟨ha,hc,rfl,_,_⟩:=id hH;clear h hp hH
 go_enter func58,ntmps58
 go_wp2_with fail
 generalize w.setCell ⟨Ba,7,none⟩ (.slice ha hs.length hc)=W1 at *;refine He.out.mono ?_;rintro e W2 ⟨⟨pb',db',ao',c',rfl,Hi,Hj,Hb⟩,Hc⟩;have Hk:=qI (Hf.out.below Hc);have Ha:=Hk.out;unfold bg at Ha;have d8:W2.cell? ⟨Ba,8,none⟩=some (.int .u64 (cp:Nat)):=aa Ha 8;have d9:W2.cell? ⟨Ba,9,none⟩=some (.pointer (some ⟨pb,0,none⟩)):=aa Ha 9;have f8:=ai Ha 8;have f9:=ai Ha 9;have Hl:Hid (bg ((W2.setCell ⟨Ba,8,none⟩ (.int .u64 (s.cp:Nat))).setCell ⟨Ba,9,none⟩ (.pointer (some ⟨pb',0,none⟩))) Ba tb m Bd Be (.slice ha hs.length hc) s.cp pb'):=ah (ah Ha 8 _) 9 _;have Hm:Hid (dj ((W2.setCell ⟨Ba,8,none⟩ (.int .u64 (s.cp:Nat))).setCell ⟨Ba,9,none⟩ (.pointer (some ⟨pb',0,none⟩))) pb' db' ao' c' s):=pe (pe Hi (by omega) (λh0=>by have:=Hb h0;omega) _ _) (by omega) (λh0=>by have:=Hb h0;omega) _ _;have Hp:Hid (Apart (λj=>j=Ba) w ((W2.setCell ⟨Ba,8,none⟩ (.int .u64 (s.cp:Nat))).setCell ⟨Ba,9,none⟩ (.pointer (some ⟨pb',0,none⟩)))):=((Hh.out.trans (Apart.of_below Hc)).trans (Apart.setCell (K:=λj=>j=Ba) rfl _ _ _)).trans (Apart.setCell (K:=λj=>j=Ba) rfl _ _ _);have Hg:Hid (w.heap.size<=pb'/\(0<s.ds.length->w.heap.size<=db')):=⟨by omega,λh0=>by have:=Hb h0;omega⟩;clear Hi Hj Hb Hc Ha;unfold sV
 go_wp2_with fail
 go_end0
 exact ⟨rfl,⟨pb',db',ao',c',Hl.out,Hm.out,Hg.out.1,Hg.out.2⟩,Hp.out⟩
def iz (base:Nat) (W:World) (Ba:Nat):Prop:=∀ pb,W.cell? ⟨Ba,9,none⟩=some (.pointer (some ⟨pb,0,none⟩))->base<=pb/\∀ db n c,0<n->W.cell? ⟨pb,0,none⟩=some (.slice (some ⟨db,0,none⟩) n c)->base<=db
def fK (w w':World) (Ba:Nat):Prop:=w'.heap[Ba]?=w.heap[Ba]?\/iz w.heap.size w' Ba
theorem iz.less {a b:Nat} {W:World} {Ba:Nat} (h:iz a W Ba) (hl:b<=a):iz b W Ba:=λpb e=>⟨Q5 hl (h pb e).1,λdb n c hn e2=>Q5 hl ((h pb e).2 db n c hn e2)⟩
theorem fK.old {w X W:World} {Ba:Nat} (h:fK X W Ba) (hb:Below w.heap.size w X) (hl:Ba<w.heap.size):fK w W Ba:=h.elim (λe=>.inl (e.trans (hb.block Ba hl))) (λe=>.inr (e.less hb.size))
theorem sD {base:Nat} {W:World} {Ba tb:Nat} {m:Ol.Mc} {Bd Be:Nat} {hv:Value} {cp pb db:Nat} {ao:Option Addr} {c:Nat} {s:Ol.Sk} (h:bg W Ba tb m Bd Be hv cp pb) (hs:dj W pb db ao c s) (h1:base<=pb) (h2:0<s.ds.length->base<=db):iz base W Ba:=by
 intro pb1 e;have e9:W.cell? ⟨Ba,9,none⟩=some (.pointer (some ⟨pb,0,none⟩)):=aa h 9;rw [e9] at e;obtain rfl:pb=pb1:=by cases e;rfl
 refine ⟨h1,λdb1 n1 c1 hn e2=>?_⟩;rw [hs.pool.row] at e2;have e3:ao=some ⟨db1,0,none⟩/\s.ds.length=n1:=by cases e2;exact ⟨rfl,rfl⟩
 have h0:0<s.ds.length:=by omega
 have e4:=(hs.pool.at0 h0).1;rw [e3.1] at e4;obtain rfl:db1=db:=by cases e4;rfl
 exact h2 h0
theorem jN {A B:World} {b:Nat} (h:A.heap[b]?=B.heap[b]?) (o:Nat):A.cell? ⟨b,o,none⟩=B.cell? ⟨b,o,none⟩:=by simp [World.cell?,h]
end
section
open RowKit Shelf
open Qos (Nd Ct Pd nd ct pd af)
open Sv (Gv Hd gv hd gsF)
attribute [local go_sem] Oper.semAt_some
def ar (x:Hd × Value × Value):List Value:=[.string x.1.pod.nm,.int .i64 x.1.pod.pr,x.2.1,x.2.2]
theorem sE (x:Hd) (a:Option Addr) (n c:Nat) (a2:Option Addr) (n2 c2:Nat):∀ u∈ar (x,.slice a n c,.slice a2 n2 c2),u.oneCell'=true:=by
 intro u hu
 simp [ar] at hu
 rcases hu with rfl|rfl|rfl|rfl <;> rfl
theorem zl (w:World) (x:Hd × Value × Value) (t:TypeId):∀ j u,(ar x)[j]?=some u->(w.alloc (.cells #[.string x.1.pod.nm,.int .i64 x.1.pod.pr,x.2.1,x.2.2] t)).cell? ((⟨w.heap.size,0,none⟩:Addr).add j)=some u:=by
 intro j u hu;rw [Addr.add_lit,Qd]
 match j,hu with
 | 0,hu=>simp [ar] at hu;subst hu;simp
 | 1,hu=>simp [ar] at hu;subst hu;simp
 | 2,hu=>simp [ar] at hu;subst hu;simp
 | 3,hu=>simp [ar] at hu;subst hu;simp
 | n+4,hu=>simp [ar] at hu
theorem zm:(prog.info? 57).map (λi=>(i.zero,i.size,i.bytes))=some (some (.agg #[.string ByteArray.empty,.int .i64 0,.slice none 0 0,.slice none 0 0]),4,72):=by kernel_rfl
structure sF (W:World) (v:Value) (l:List (Hd × Value × Value)) (N:Nat) (M:Nat->Prop):Prop where
 row:W.ownsRow N 57 4 v l.length (l.flatMap ar)
 in_:∀ x∈l,aE (ag (λj=>M j\/v.ownBlock=some j) W) x.2.1 x.1.pod.cs/\bz (ag (λj=>M j\/v.ownBlock=some j) W) x.2.2 x.1.gs
theorem LD {W:World} {v:Value} {l:List (Hd × Value × Value)} {N:Nat} {M:Nat->Prop} (h:sF W v l N M) (hN:∀ j,M j->j<N):aJ (ag M W) v (l.map Prod.fst):=by
 have h':=h.row
 rcases h.row.2 with ⟨hv,h0⟩|⟨g,cap,cur,hv,hg,Hc,Ha,Hb,_⟩
 ·have:l=[]:=Qe h0
  subst this;rw [hv];exact ⟨none,0,rfl,⟨lR,Nat.zero_le _⟩,λh=>absurd h (Nat.lt_irrefl 0)⟩
 ·subst hv;have key:∀ (l:List (Hd × Value × Value)) (k:Nat) (hk:k<l.length) (j:Nat),j<4->(l.flatMap ar)[k*4+j]?=(ar l[k])[j]?:=by
   intro l
   induction l with
   | nil=>intro k hk;simp at hk
   | cons a l ih=>
    intro k hk j hj;rw [List.flatMap_cons];cases k with
    | zero=>rw [List.getElem?_append_left (by simp [ar];omega)];simp
    | succ k=>
     rw [List.getElem?_append_right (by simp [ar];omega)]
     have:=ih k (by simpa using hk) j hj
     simp only [List.getElem_cons_succ];rw [<- this]
     congr 1
     simp [ar]
     omega
  refine ⟨_,cap,by rw [Q9],by rw [Q9];exact ⟨Ha,Hb⟩,λ_=>⟨g,0,λk=>(l.getD k (Sv.hd [] 0,.nilIface,.nilIface)).2.1,λk=>(l.getD k (Sv.hd [] 0,.nilIface,.nilIface)).2.2,rfl,by rw [bH];exact (gS Hc).1,λk hk=>?_⟩⟩;rw [Q9] at hk;have e:hd (l.map Prod.fst) k=l[k].1:=by simp [hd,hk]
  have e2:l.getD k (Sv.hd [] 0,.nilIface,.nilIface)=l[k]:=by simp [hk]
  obtain ⟨q1,q2⟩:=h.in_ _ (List.getElem_mem hk);dsimp only;rw [e,e2];have hl:aq (ag (λj=>M j\/(Value.slice (some ⟨g,0,none⟩) l.length cap).ownBlock=some j) W) (ag M W):=bE (λj _ hn=>⟨λhj=>hn (.inl hj),rfl⟩) (lR);have cc:∀ j,j<4->(ag M W).cell? ⟨g,0+k*4+j,none⟩=(ar l[k])[j]?:=λj hj=>by
   rw [World.cell?_of_block (a:=⟨g,0+k*4+j,none⟩) (bZ (λhm=>by have:=hN g hm;omega)),Qd,h'.cellAt (k*4+j) (by omega)];exact key l k hk j hj
  exact ⟨⟨cc 0 (by decide),cc 1 (by decide),cc 2 (by decide),cc 3 (by decide)⟩,q1.le hl,q2.le hl⟩
abbrev kE:=λ(x0:Sv.Hd) (x1:Option Addr) (x2:Nat) (x3:Option Addr) (x4:Nat)=>(.cells #[.string x0.pod.nm,.int .i64 x0.pod.pr,.slice x1 x0.pod.cs.length x2,.slice x3 x0.gs.length x4] 57:Obj)
abbrev zn:=λ(Bh:Nat) (x:Sv.Hd) (ca:Option Addr) (cc:Nat) (ga:Option Addr) (gc:Nat) (w':World)=>w'.cell? ⟨Bh,0,none⟩=some (.string x.pod.nm)/\w'.cell? ⟨Bh,1,none⟩=some (.int .i64 x.pod.pr)/\w'.cell? ⟨Bh,2,none⟩=some (.slice ca x.pod.cs.length cc)/\w'.cell? ⟨Bh,3,none⟩=some (.slice ga x.gs.length gc)
theorem LE (Ba tb:Nat) (m:Ol.Mc) (Bd Be:Nat) (hv:Value) (cp pb:Nat) (hs:List Hd) (w:World) (h:bg w Ba tb m Bd Be hv cp pb) (hH:aJ w hv hs) (hok:jK hs) (hl:hs.length<=100) :
  Calls prog 15 #[.pointer (some ⟨Ba,0,none⟩)] w λe w'=>∃ a c,e=.returned (.slice a hs.length c)/\aJ (fresh w.heap.size w') (.slice a hs.length c) hs/\Below w.heap.size w w':=by
 obtain ⟨i0,hi,H0,H6,HX⟩:=info_parts zm;have HU:=qI hok;obtain ⟨ha,hc,rfl,hm,hr⟩:=hH;have HR:=qI hr;unfold bg at h;have c7:w.cell? ⟨Ba,7,none⟩=some (.slice ha hs.length hc):=aa h 7;clear hok hr hm h
 go_enter func15,ntmps15
 go_wp2_with fail
 clear c7
 go_loopw [3,11] (λpv i wr=>∃ (k:Nat) (l:List (Hd × Value × Value)),k<=hs.length/\i=.int .i64 k/\l.length=k/\l.map Prod.fst=hs.take k/\sF wr pv l w.heap.size (λj=>j<w.heap.size)/\Below w.heap.size w wr) (λ_ i _=>hs.length - (intOf i).toNat)
 case atStart=>exact ⟨0,[],by omega,rfl,rfl,rfl,⟨Qw _ _ _ _,λx hx=>(List.not_mem_nil hx).elim⟩,Q0 _ _⟩
 case round=>
  obtain ⟨k,l,hk,rfl,HH,HQ,Hg,hb⟩:=hrel;have HA:=qI HH;have HC:=qI HQ;have He:=qI Hg;have HB:=qI hb;have hu:=hb.size;have hp:l.length<=100:=by omega
  obtain ⟨va,vc,HT⟩:=fF Hg.row;subst HT;clear HH HQ Hg
  by_cases hlt:k<hs.length
  ·obtain ⟨hB,ho,cv,gvv,rfl,Hq⟩:=HR.out (by omega);have hle:=aq.of_below hb;obtain ⟨x0,x1,x2,x3⟩:=(Hq.2 k hlt).1;have x0:=hle.cell _ _ _ x0;have x1:=hle.cell _ _ _ x1;have x2:=hle.cell _ _ _ x2;have x3:=hle.cell _ _ _ x3;have Hb:=((Hq.2 k hlt).2.1).le hle;have Hc:=((Hq.2 k hlt).2.2).le hle;obtain ⟨HF,H9,HO⟩:=HU.out (hd hs k) (by simp [hd,hlt]);have H2:Hid (hs.take (k+1)=hs.take k++[hd hs k]):=by unfold Hid;rw [Qa hlt];simp [hd,hlt]
   obtain ⟨ca,cc,HD,H1,hf⟩:=id Hb;obtain ⟨ga,gc,HM,HS,H4⟩:=id Hc;rw [HD] at x2 Hb;rw [HM] at x3 Hc;have Ht:=qI Hb;have Hv:=qI Hc;have HP:=qI (Sv.fD HF);have H3:=qI HO;have hA:=HP.out.2.2.1;have HV:(hd hs k).gs.length<=3:=by omega
   clear Hq Hb Hc HD HM hf H4 hle H1 HS HF HO H9;generalize hd hs k=x at *;have Ho:=qI ((Q0 wr.heap.size wr).alloc (lR) (kE x ca cc ga gc));have Hr:=qI (aD wr (kE x ca cc ga gc) rfl);have ht:(wr.alloc (kE x ca cc ga gc)).heap.size=wr.heap.size+1:=by simp
   clear hb
   go_wp2_with fail
   generalize wr.alloc (kE x ca cc ga gc)=X at *;generalize hBh:wr.heap.size=Bh at *;clear x0 x1 x2 x3;have Hl:Hid (∀ W,Below X.heap.size X W->(zn Bh x ca cc ga gc) W):=λW hb=>⟨aa ((hb.block (Bh) (by omega)).trans Hr.out) 0,aa ((hb.block (Bh) (by omega)).trans Hr.out) 1,aa ((hb.block (Bh) (by omega)).trans Hr.out) 2,aa ((hb.block (Bh) (by omega)).trans Hr.out) 3⟩
   have Hn:Hid (Below X.heap.size X X.drew):=a6 (Q0 _ _);refine Qo (by kernel_rfl) (Hl.out _ Hn.out) λhQ=>?_;generalize X.drew=V at *;refine tk 0 ?_;refine tk 1 ?_;refine tk 2 ?_;refine tk 4 ?_;refine tk 5 ?_;refine rd 3 λK hK=>?_;go_simp
   go_wp2_with fail
   refine (yw x.pod.nm x.pod.pr x.pod.cs _ V (Ht.out.below ((show Below wr.heap.size wr X by rw [hBh];exact Ho.out).trans (Hn.out.mono (by omega)))) (by omega) (λq hq=>by have:=(HP.out.2.2.2 (ct x.pod.cs q) (Ost.dX _ _ _ hq)).2.2.2.2.2.1;omega)).mono ?_;rintro e W1 ⟨pa,pcc,rfl,HL,HN⟩;have Hi:=qI (Hn.out.trans (HN.mono Hn.out.size));have HW:=qI (HL.le (lm (λ_ _ _=>rfl) (lR) Hn.out.size));clear HN HL
   go_wp2
   refine hK.out _ _ (Hl.out _ Hi.out) λhQ=>?_;clear hK K;refine rd 6 λK hK=>?_;go_simp
   go_wp2_with fail
   refine (IP (.slice ga x.gs.length gc) x.gs W1 (Hv.out.below ((show Below wr.heap.size wr X by rw [hBh];exact Ho.out).trans (Hi.out.mono (by omega)))) (by omega) (λq hq=>by have:=Ol.ry (Dvs.cR H3.out q hq);omega)).mono ?_;rintro e W2 ⟨qa,qc,rfl,HK,Hz⟩;have Hj:=qI (Hi.out.trans (Hz.mono Hi.out.size));have HY:=qI (HW.out.le (xE Hz (lR)));have HZ:=qI (HK.le (lm (λ_ _ _=>rfl) (lR) Hi.out.size));have hy:=Hj.out.size;clear Hz HK
   go_wp2
   refine hK.out _ _ (Hl.out _ Hj.out) λhQ=>?_;clear hK K;refine tk 7 ?_;have Hs:=qI (Hj.out.alloc Hj.out.size (kE x pa pcc qa qc));have HE:=qI (zl W2 (x,.slice pa x.pod.cs.length pcc,.slice qa x.gs.length qc) 57);dsimp only at HE;have hC:(W2.alloc (kE x pa pcc qa qc)).heap.size=W2.heap.size+1:=by simp
   have hC':=hC;unfold kE at hC';have Hh:∀ b,(Value.slice va l.length vc).ownBlock=some b->w.heap.size<=b/\b<Bh:=λb hb=>by rw [<- hBh];exact He.out.row.lt b hb
   have H5:Hid ((W2.alloc (kE x pa pcc qa qc)).ownsRow w.heap.size 57 4 (.slice va l.length vc) l.length (l.flatMap ar)):=m8 He.out.row λg hg=>(Hs.out.block g (by have:=(Hh g hg).2;omega)).trans (Ho.out.block g (Hh g hg).2);refine rd 8 λK hK=>?_;go_simp
   go_wp2
   refine hK.out _ _ (Hl.out _ Hs.out) λhQ=>?_;clear hK K;refine rd 9 λK hK=>?_;rw [if_pos (by rfl)]
   refine wp_append_lies (o := { dst := some 24, op := Op.call { callee := Callee.builtin Builtin.append, args := #[Operand.tmp 15, Operand.tmp 23], argTypes := #[53, 53] }, type := 53, pos := "ostler.go:50", after := #[{ on := 0, ground := Ground.data }, { on := 8, ground := Ground.data }, { on := 6, ground := Ground.chain }], guard := none }) _ _ _ 53 rfl w.heap.size 57 i0 (.agg #[.string ByteArray.empty, .int .i64 0, .slice none 0 0, .slice none 0 0]) 4 72 underlying53 hi H0 H6 HX rfl (by decide) (.slice va l.length vc) _ _ rfl H5.out ⟨_, 0, none⟩ 1 1 (ar (x, .slice pa x.pod.cs.length pcc, .slice qa x.gs.length qc)) rfl rfl HE.out (sE _ _ _ _ _ _ _) (by decide) (by unfold maxLen; omega) (by omega) (by omega) (W2.heap.size + 1) (by simp) ?_
   intro g' cap' W4 Hf Ha Hu H7;have hw:=Ha.size;have HG:(zn Bh x ca cc ga gc) W4:=by
    obtain ⟨q0,q1,q2,q3⟩:=Hl.out _ Hs.out;have Hp:some Bh≠(Value.slice va l.length vc).ownBlock:=λe=>by have:=(Hh Bh e.symm).2;omega
    exact ⟨(Ha.cell_far ⟨Bh,0,none⟩ (by show Bh<_;omega) Hp).trans q0,(Ha.cell_far ⟨Bh,1,none⟩ (by show Bh<_;omega) Hp).trans q1,(Ha.cell_far ⟨Bh,2,none⟩ (by show Bh<_;omega) Hp).trans q2,(Ha.cell_far ⟨Bh,3,none⟩ (by show Bh<_;omega) Hp).trans q3⟩
   have HJ:Hid (∀ j,j<W2.heap.size->(Value.slice va l.length vc).ownBlock≠some j->W4.heap[j]?=W2.heap[j]?):=λj hj hno=>(Ha.block j (by omega) λe=>hno e.symm).trans (Below.heap_alloc _ _ _ hj)
   have he:Hid (Below w.heap.size w W4):=((HB.out.trans ((show Below wr.heap.size wr X by rw [hBh];exact Ho.out).mono (by omega))).trans (Hs.out.mono (by omega))).grown Ha (by omega) λj hj=>(Hh j hj).1;have Hk:Hid (sF W4 (.slice (some ⟨g',0,none⟩) (l.length+1) cap') (l++[(x,Value.slice pa x.pod.cs.length pcc,Value.slice qa x.gs.length qc)]) w.heap.size λj=>j<w.heap.size):=by
    refine ⟨?_,λz hz=>?_⟩
    ·rw [Q2,List.flatMap_append]
     simpa using Hf
    ·rcases Qi.1 hz with hz|hz
     ·obtain ⟨z1,z2⟩:=He.out.in_ z hz;have hle:aq (ag (λj=>j<w.heap.size\/(Value.slice va l.length vc).ownBlock=some j) wr) (ag (λj=>j<w.heap.size\/(Value.slice (some ⟨g',0,none⟩) (l.length+1) cap').ownBlock=some j) W4):=bE (λj hj hn=>by
       have hh:¬ j<w.heap.size:=λh=>hn (.inl h)
       have HI:(Value.slice va l.length vc).ownBlock≠some j:=λh=>hn (.inr h)
       refine ⟨λh=>?_,(HJ.out j (by omega) HI).trans ((Hj.out.block j (by omega)).trans (Ho.out.block j (by rw [<- hBh];exact hj)))⟩
       rcases h with h|h
       ·exact hh h
       ·have h:some g'=some j:=h;injection h with h
        rcases Hu with Hm|Hm
        ·exact HI (by rw [Hm,h])
        ·omega) (by omega)
      exact ⟨z1.le hle,z2.le hle⟩
     ·rw [Qm.1 hz];have hle:aq (fresh X.heap.size W2) (ag (λj=>j<w.heap.size\/(Value.slice (some ⟨g',0,none⟩) (l.length+1) cap').ownBlock=some j) W4):=bE (λj hj hn=>by
       have hn:¬ j<X.heap.size:=hn;refine ⟨λh=>?_,HJ.out j hj (λh=>by have:=(Hh j h).2;omega)⟩
       rcases h with h|h
       ·omega
       ·have h:some g'=some j:=h;injection h with h
        rcases Hu with Hm|Hm
        ·have:=(Hh g' Hm).2;omega
        ·omega) (by omega)
      exact ⟨HY.out.le hle,HZ.out.le hle⟩
   refine hK.out _ _ HG λhQ=>?_;clear hK K;(try simp only [Act.put,s1,s2,s3]);refine tk 10 ?_;refine Qn (by kernel_rfl) ?_ _;clear hQ Hf Ha Hu HG
   go_wp2
   go_roundw
   case rel=>exact ⟨k+1,l++[(x,Value.slice pa x.pod.cs.length pcc,Value.slice qa x.gs.length qc)],by omega,by go_num,by rw [Q2,HA.out];rfl,by rw [Qj,HC.out,H2.out];rfl,Hk.out,he.out⟩
   case measure=>simp [intOf];omega
  ·have Hy:k=hs.length:=by omega
   have Hw:l.length=hs.length:=by rw [HA.out,Hy]
   have Hx:Hid (aJ (fresh w.heap.size wr) (.slice va hs.length vc) hs):=by
    unfold Hid;have h1:=LD He.out λj h=>h;rw [HC.out,Hy,Qh,Hw] at h1;exact h1
   have H8:=qI Hw;clear Hy Hw
   go_wp2
   go_ret;exact ⟨va,vc,by rw [<- H8.out];rfl,Hx.out,HB.out⟩
end
section
open RowKit Shelf
attribute [local go_sem] Oper.semAt_some
theorem LF (base:Nat) (v:Value) (n:Nat) (xs ys:List Value) (a:Addr) (c:Nat) (w:World) (hr:w.ownsRow base 57 4 v n xs) (hy:∀ j u,ys[j]?=some u->w.cell? (a.add j)=some u) (hyl:ys.length=4) (hy1:∀ u∈ys,u.oneCell'=true) (hn:n<=100) (hb:base<=w.heap.size) :
  Calls prog 54 #[v,.int .i64 n,.slice (some a) 1 c] w λe w'=>∃ v',e=.returned v'/\w'.ownsRow base 57 4 v' (n+1) (xs++ys)/\w.grownBy w' v.ownBlock:=by
 obtain ⟨i0,hi,Hf,Hj,Hk⟩:=info_parts zm;have HR:=qI hr;have HY:=qI hy;have Hg:=qI hy1;have Hh:Hid (ys.length=1*4):=hyl;have Hi:∃ g cap,v=.slice g n cap/\(n<=cap/\cap<=maxLen)/\(g=none->n=0):=by
  rcases hr.2 with ⟨h1,h2⟩|⟨g,cap,cur,h1,h2,h3,h4,h5,h6⟩
  ·exact ⟨none,0,by rw [h1,h2],by rw [h2];exact ⟨lR,Nat.zero_le _⟩,λ_=>h2⟩
  ·exact ⟨_,cap,h1,⟨h4,h5⟩,λh=>by cases h⟩
 obtain ⟨g,cap,rfl,Hc,He⟩:=Hi;clear hr hy hy1 hyl;have Hn:cap<=9223372036854775807:=by have:=Hc.2;unfold maxLen at this;omega
 have Hm:=Hc.1;have Hl:=qI He;clear Hc He
 go_enter func54,ntmps54
 go_wp2_with (at_builtin;(refine wpList_append_own _ rfl _ _ 53 rfl base 57 i0 (.agg #[.string ByteArray.empty,.int .i64 0,.slice none 0 0,.slice none 0 0]) 4 72 underlying53 hi Hf Hj Hk rfl (by decide) _ _ _ rfl HR.out a 1 c ys rfl Hh.out HY.out Hg.out (by unfold maxLen;omega) (by omega) (by omega) ?_;intro v' w1 Hb Ha _))
 ·rename_i h
  have hg:w.grownBy w1 (Value.slice g n cap).ownBlock:=Ha;rw [h] at hg;clear Ha;go_ret;exact ⟨v',rfl,Hb,hg⟩
 ·have hg:w.grownBy w1 (Value.slice g n cap).ownBlock:=Ha;clear Ha;go_ret;exact ⟨v',rfl,Hb,hg⟩
end
section
open RowKit Shelf
open Qos (Nd Ct Pd nd ct pd af aO aP bU)
open Sv (Gv Hd gv hd gsF)
open Dvs (Dv dv aW)
attribute [local go_sem] Oper.semAt_some
theorem LG (B:Nat) (n k:Sd) (v:Value) (l:Int) (d:Bool) (w:World) (h:aC w B n k v l d):Calls prog 63 #[.pointer (some ⟨B,0,none⟩)] w λe w'=>e=.returned (.bool d)/\w'=w:=by
 unfold aC at h;have c10:w.cell? ⟨B,10,none⟩=some (.bool d):=aa h 10;clear h
 go_enter func63,ntmps63
 go_wp2
 go_ret;exact ⟨rfl,rfl⟩
theorem LI (B:Nat) (n k:Sd) (l:Int) (d:Bool) (w:World) (h:aC w B n k (.slice none 0 0) l d):Calls prog 114 #[.pointer (some ⟨B,0,none⟩)] w λe w'=>e=.returned (.bool false)/\w'=w:=by
 unfold aC at h;have c8:w.cell? ⟨B,8,none⟩=some (.slice none 0 0):=aa h 8;clear h
 go_enter func114,ntmps114
 go_wp2
 go_ret;exact ⟨rfl,rfl⟩
theorem pf {W:World} {base:Nat} {v:Value} {ps:List Pd} (h:v7 W base v ps):du W v ps:=by
 obtain ⟨l,rfl,Ha,Hb⟩:=h;have h':=Ha
 rcases Ha.2 with ⟨hv,h0⟩|⟨g,cap,cur,hv,hg,Hf,Hc,He,_⟩
 ·have:l=[]:=Qe h0
  subst this;rw [hv];exact ⟨none,0,rfl,by unfold maxLen;simp,λh=>absurd h (Nat.lt_irrefl 0)⟩
 ·subst hv;have key:∀ (l:List (Pd × Value)) (k:Nat) (hk:k<l.length) (j:Nat),j<3->(rowP l)[k*3+j]?=(dH l[k])[j]?:=by
   intro l
   induction l with
   | nil=>intro k hk;simp at hk
   | cons a l ih=>
    intro k hk j hj;unfold rowP;rw [List.flatMap_cons];cases k with
    | zero=>rw [List.getElem?_append_left (by simp [dH];omega)];simp
    | succ k=>
     rw [List.getElem?_append_right (by simp [dH];omega)]
     have:=ih k (by simpa using hk) j hj
     simp only [List.getElem_cons_succ];rw [<- this];unfold rowP
     congr 1
     simp [dH]
     omega
  refine ⟨_,cap,by rw [Q9],by rw [Q9];exact Q5 Hc He,λ_=>⟨g,0,λk=>(l.getD k (Qos.pd [] 0,.nilIface)).2,rfl,(gS Hf).1,λk hk=>?_⟩⟩;rw [Q9] at hk;have e:pd (l.map Prod.fst) k=l[k].1:=by simp [pd,hk]
  have e2:l.getD k (Qos.pd [] 0,.nilIface)=l[k]:=by simp [hk]
  dsimp only;rw [e,e2];have cc:∀ j,j<3->W.cell? ⟨g,0+k*3+j,none⟩=(dH l[k])[j]?:=λj hj=>by
   rw [Qd,h'.cellAt (k*3+j) (by omega)];exact key l k hk j hj
  exact ⟨⟨cc 0 (by decide),cc 1 (by decide),cc 2 (by decide)⟩,Hb _ (List.getElem_mem hk)⟩
theorem oU {ps:List Pd} (h:∀ p∈ps,bU p.cs) (hl:ps.length<=100):∀ k,k<=ps.length->(0<=Ol.aY (ps.take k)/\Ol.aY (ps.take k)<=1000000000000000000)/\0<=Ol.bA (ps.take k)/\Ol.bA (ps.take k)<=1000000000000000000:=by
 have key:∀ k,k<=ps.length->(0<=Ol.aY (ps.take k)/\Ol.aY (ps.take k)<=3000000*(k:Int))/\0<=Ol.bA (ps.take k)/\Ol.bA (ps.take k)<=3377699720527872*(k:Int):=by
  intro k
  induction k with
  | zero=>intro _;simp [Ol.aY,Ol.bA]
  | succ k ih=>
   intro hk;have h1:=ih (by omega);have hm:=h (pd ps k) (by simp [pd,show k<ps.length by omega]);have h2:=Qos.kV hm (lR);have h3:=Qos.j8 hm (lR);rw [mG (by omega),mH (by omega)]
   push_cast
   omega
 intro k hk
 have:=key k hk
 have Ha:(k:Int)<=100:=by omega
 omega
abbrev LJ:=λ(Ba tb:Nat) (m:Ol.Mc) (w':World)=>w'.cell? ⟨Ba,0,none⟩=some (.pointer (some ⟨tb,0,none⟩))/\w'.cell? ⟨Ba,1,none⟩=some (.int .u64 m.op)/\w'.cell? ⟨Ba,2,none⟩=some (.int .u8 m.nd)/\w'.cell? ⟨Ba,3,none⟩=some (.int .i64 m.nb)/\w'.cell? ⟨Ba,4,none⟩=some (.int .i64 m.pol)
theorem LK (Ba tb:Nat) (m:Ol.Mc) (Bd Be:Nat) (hv:Value) (cp pb db:Nat) (ao:Option Addr) (c:Nat) (ds:List Dv) (us:Nat->Bool) (vh:Value) (hs:List Hd) (w:World) (h:bg w Ba tb m Bd Be hv cp pb) (hp:ak w pb db ao c ds us) (hN:aW ds) (hH:aJ w vh hs) (hop:m.op<18446744073709551616) (hok:jK hs) (hl:hs.length<=100) :
  Calls prog 116 #[.pointer (some ⟨Ba,0,none⟩),vh] w λe w'=>e=.returned (.bool ((Ol.left m ds hs).isSome && Ol.room m (hs.map Hd.pod)))/\Below w.heap.size w w':=by
 have Hi:=qI (sB Ba tb m Bd Be hv cp pb db ao c ds us vh hs w h hp hN hH hop hok hl);have HO:=qI h;have HH:=qI hH;have Hu:=h.lt;have Hl:Hid (∀ p∈hs.map Hd.pod,bU p.cs):=λp hp=>by
  obtain ⟨x,hx,rfl⟩:=Qk.1 hp;exact Qos.ju (hok x hx).1
 have Hf:=qI (oU Hl.out (by rw [Q9];exact hl));obtain ⟨ha,hc,rfl,_,_⟩:=hH;clear h hp
 go_enter func116,ntmps116
 go_wp2_with fail
 refine Hi.out.mono ?_;rintro e W1 ⟨Hn,Hg⟩;obtain ⟨lcp,lp,lb,rfl,Hm,_⟩:=Hn.form;have Hs:=qI Hm;have Hc:=qI (Hg.alloc Hg.size (.cells #[.int .u64 lcp,.pointer lp] 98));have Hj:=Hc.out.size;clear Hn Hm Hg Hi
 go_upto_region 2 with fail
 generalize W1.alloc (.cells #[.int .u64 lcp,.pointer lp] 98)=X at *;have Hb:=qI (HO.out.below Hc.out);have Hk:=Hb.out;unfold bg at Hk;have He:Hid (∀ W,Below X.heap.size X W->(LJ Ba tb m) W):=λW hb=>⟨aa ((hb.block (Ba) (by omega)).trans Hb.out) 0,aa ((hb.block (Ba) (by omega)).trans Hb.out) 1,aa ((hb.block (Ba) (by omega)).trans Hb.out) 2,aa ((hb.block (Ba) (by omega)).trans Hb.out) 3,aa ((hb.block (Ba) (by omega)).trans Hb.out) 4⟩
 clear Hk;have Ha:Hid (Below X.heap.size X X.drew):=a6 (Q0 _ _)
 rcases two lb with hb|hb
 ·subst hb;refine Qo (by kernel_rfl) (He.out _ Ha.out) λhQ=>?_;generalize X.drew=V at *;refine tk 0 ?_;refine tk 1 ?_;refine tk 2 ?_;refine tk 3 ?_;refine tk 4 ?_;refine tk 5 ?_;refine tk 6 ?_;refine rd 7 λK hK=>?_;go_simp
  go_wp2_with fail
  refine (wb (.slice ha hs.length hc) hs V (HH.out.le ((aq.of_below Hc.out).trans (aq.of_below Ha.out))) hl).mono ?_;rintro e W2 ⟨v2,rfl,Hr,Ho⟩;have Hh:=qI (Ha.out.trans (Ho.mono Ha.out.size));have Ht:=qI Hr;clear Ho Hr
  go_wp2
  refine hK.out _ _ (He.out _ Hh.out) λhQ=>?_;clear hK K;refine rd 8 λK hK=>?_;go_simp
  go_wp2_with fail
  refine (rF (.pointer (some ⟨tb,0,none⟩)) m.op m.nd m.nb m.pol v2 (hs.map Hd.pod) W2 (pf Ht.out) (by rw [Q9];exact hl) Hl.out hop Hf.out).mono ?_;rintro e W3 ⟨rfl,Hp⟩;have Hq:=qI (Hh.out.trans (Hp.mono Hh.out.size));clear Hp
  go_wp2
  refine hK.out _ _ (He.out _ Hq.out) λhQ=>?_;clear hK K;refine tk 9 ?_;refine tk 10 ?_;refine Qn (by kernel_rfl) ?_ _;clear hQ
  go_wp2
  go_ret;exact ⟨by rw [<- Hs.out];rfl,Hc.out.trans (Hq.out.mono Hj)⟩
 ·subst hb;refine Qo (by kernel_rfl) (He.out _ Ha.out) λhQ=>?_;generalize X.drew=V at *;refine tk 0 ?_;refine tk 1 ?_;refine ts 2 ?_;refine ts 3 ?_;refine ts 4 ?_;refine ts 5 ?_;refine ts 6 ?_;refine ts 7 ?_;refine ts 8 ?_;refine tk 9 ?_;refine tk 10 ?_;refine Qn (by kernel_rfl) ?_ _;clear hQ
  go_wp2
  go_ret;exact ⟨by rw [<- Hs.out];rfl,Hc.out.trans (Ha.out.mono Hj)⟩
end
