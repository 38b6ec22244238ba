import Derived.Test.YtbmmnflgnmjboaaGreatDoorA29
set_option maxRecDepth 100000
set_option maxHeartbeats 16000000
namespace Go.Proofs.YtbmmnflgnmjboaaGreatDoor
section
open RowKit Shelf
open Qos (Nd Ct Pd nd ct pd ag aB)
open Sv (Gv Hd gv hd gsF)
open Dvs (Dv dv aX)
attribute [local go_sem] Oper.semAt_some
def bi (W:World) (Ba tb:Nat) (m:Ol.Mc) (Bd Be:Nat) (hv:Value) (cp pb:Nat):Prop:=W.heap[Ba]?=some (.cells #[.pointer (some ⟨tb,0,none⟩),.int .u64 m.op,.int .u8 m.nd,.int .i64 m.nb,.int .i64 m.pol,.pointer (some ⟨Bd,0,none⟩),.pointer (some ⟨Be,0,none⟩),hv,.int .u64 cp,.pointer (some ⟨pb,0,none⟩)] 115 (0,0))
theorem bi.lt {W:World} {Ba tb:Nat} {m:Ol.Mc} {Bd Be:Nat} {hv:Value} {cp pb:Nat} (h:bi W Ba tb m Bd Be hv cp pb):Ba<W.heap.size:=(gS h).1
theorem bi.block {W W':World} {Ba tb:Nat} {m:Ol.Mc} {Bd Be:Nat} {hv:Value} {cp pb:Nat} (h:bi W Ba tb m Bd Be hv cp pb) (hb:W'.heap[Ba]?=W.heap[Ba]?):bi W' Ba tb m Bd Be hv cp pb:=hb.trans h
theorem bi.below {W W':World} {Ba tb:Nat} {m:Ol.Mc} {Bd Be:Nat} {hv:Value} {cp pb:Nat} (h:bi W Ba tb m Bd Be hv cp pb) (hb:Below W.heap.size W W'):bi W' Ba tb m Bd Be hv cp pb:=h.block (hb.block Ba h.lt)
theorem zl (Ba tb:Nat) (m:Ol.Mc) (Bd Be:Nat) (hv:Value) (cp pb db:Nat) (ao:Option Addr) (c:Nat) (ds:List Dv) (us:Nat->Bool) (w:World) (h:bi w Ba tb m Bd Be hv cp pb) (hp:ap w pb db ao c ds us) (hN:aX ds) :
  Calls Tryz.prog 19 #[.pointer (some ⟨Ba,0,none⟩)] w λe w'=>∃ v,e=.returned v/\gH w.heap.size w' v ds/\Below w.heap.size w w':=by
 have HD:=qI (xP w pb db ao c ds us hp hN);unfold bi at h;have c9:w.cell? ⟨Ba,9,none⟩=some (.pointer (some ⟨pb,0,none⟩)):=ad h 9;clear h hp
 go_enter Tryz.func19,Tryz.ntmps19
 go_wp2_with fail
 refine HD.out.mono ?_;rintro e w' ⟨v,rfl,hr,hb⟩;have HR:=qI hr;obtain ⟨a1,c1,g1,Ha,_⟩:=id hr;subst Ha;clear hr
 go_wp2
 go_ret;exact ⟨_,rfl,HR.out,hb⟩
theorem m8.form {w w':World} {e:Ending} {o:Option Ol.Sk} (h:m8 w w' e o):∃ (cp:Int) (p:Option Addr) (b:Bool),e=.returned (.tuple #[.agg #[.int .u64 cp,.pointer p],.bool b])/\b=o.isSome/\(∀ s,o=some s->∃ pb db ao c,cp=(s.cp:Int)/\p=some ⟨pb,0,none⟩/\dj w' pb db ao c s/\w.heap.size<=pb/\(0<s.ds.length->w.heap.size<=db)):=by
 cases o with
 | none=>
  obtain ⟨cp,p,rfl⟩:=h;exact ⟨cp,p,false,rfl,rfl,λs hs=>nomatch hs⟩
 | some s=>
  obtain ⟨pb,db,ao,c,rfl,h2,h3,h4⟩:=h;exact ⟨_,_,true,rfl,rfl,λs' hs=>by injection hs with hs;subst hs;exact ⟨pb,db,ao,c,rfl,rfl,h2,h3,h4⟩⟩
theorem o7 {W:World} {pb db:Nat} {ao:Option Addr} {c:Nat} {s:Ol.Sk} (h:dj W pb db ao c s) {b:Nat} (h1:pb≠b) (h2:0<s.ds.length->db≠b) (j:Nat) (v:Value):dj (W.setCell ⟨b,j,none⟩ v) pb db ao c s:=
 ⟨h.pool.kept (bN _ ⟨b,j,none⟩ _) (λe=>h1 (by injection e)) (λh0 e=>h2 h0 (by injection e)),h.nodes,h.cp⟩
abbrev zm:=λ(Ba tb:Nat) (m:Ol.Mc) (w':World)=>w'.cell? ⟨Ba,0,none⟩=some (.pointer (some ⟨tb,0,none⟩))/\w'.cell? ⟨Ba,1,none⟩=some (.int .u64 m.op)/\w'.cell? ⟨Ba,2,none⟩=some (.int .u8 m.nd)/\w'.cell? ⟨Ba,3,none⟩=some (.int .i64 m.nb)/\w'.cell? ⟨Ba,4,none⟩=some (.int .i64 m.pol)
theorem sw (Ba tb:Nat) (m:Ol.Mc) (Bd Be:Nat) (hv:Value) (cp pb db:Nat) (ao:Option Addr) (c:Nat) (ds:List Dv) (us:Nat->Bool) (vh:Value) (hs:List Hd) (w:World) (h:bi w Ba tb m Bd Be hv cp pb) (hp:ap w pb db ao c ds us) (hN:aX ds) (hH:aQ w vh hs) (hop:m.op<18446744073709551616) (hok:jN hs) (hl:hs.length<=100) :
  Calls Tryz.prog 52 #[.pointer (some ⟨Ba,0,none⟩),vh] w λe w'=>m8 w w' e (Ol.left m ds hs)/\Below w.heap.size w w':=by
 have Hh:=qI ((Q0 w.heap.size w).alloc (lR) (.cells #[.int .u64 0,.pointer none] 98));have HZ:=qI (aF w (.cells #[.int .u64 0,.pointer none] 98) rfl);have HO:=qI (h.below Hh.out);have HP:=qI (hp.below Hh.out);have HH:=qI (hH.below Hh.out);have Hy:(w.alloc (.cells #[.int .u64 0,.pointer none] 98)).heap.size=w.heap.size+1:=by simp
 have Hx:=h.lt;obtain ⟨ha,hc,rfl,_,_⟩:=hH;clear h hp
 go_enter Tryz.func52,Tryz.ntmps52
 go_wp2_with fail
 generalize w.alloc (.cells #[.int .u64 0,.pointer none] 98)=X at *;unfold bi at HO;have Hi:Hid (∀ W,Below X.heap.size X W->(zm Ba tb m) W):=λW hb=>⟨ad ((hb.block (Ba) (by omega)).trans HO.out) 0,ad ((hb.block (Ba) (by omega)).trans HO.out) 1,ad ((hb.block (Ba) (by omega)).trans HO.out) 2,ad ((hb.block (Ba) (by omega)).trans HO.out) 3,ad ((hb.block (Ba) (by omega)).trans HO.out) 4⟩
 have Hf:Hid (Below X.heap.size X X.drew):=a6 (Q0 _ _);refine Qo (by kernel_rfl) (Hi.out _ Hf.out) (λhQ=>?_);generalize X.drew=V at *;refine tk 0 ?_;refine tk 1 ?_;refine tk 2 ?_;refine tk 3 ?_;refine tk 4 ?_;refine tk 6 ?_;refine rd 5 (λK hK=>?_);go_simp
 go_wp2_with fail
 refine (zl Ba tb m Bd Be hv cp pb db ao c ds us V (bi.below (show bi X Ba tb m Bd Be hv cp pb from HO.out) Hf.out) (HP.out.below Hf.out) hN).mono ?_;rintro e W1 ⟨v1,rfl,Hj,Hq⟩;have He:=qI (Hf.out.trans (Hq.mono Hf.out.size));have Hw:=qI Hj;obtain ⟨a1,c1,g1,Ht,_⟩:=id Hj;subst Ht;clear Hq Hj
 go_wp2
 refine hK.out _ _ (Hi.out _ He.out) (λhQ=>?_);clear hK K;refine rd 7 (λK hK=>?_);go_simp
 go_wp2_with fail
 obtain ⟨dg2,Hb⟩:=zj Hw.out;refine (LD m tb dg2 0 _ _ ds hs W1 Hb (HH.out.below He.out) hop hok hl).mono ?_;rintro e W2 ⟨Hg,Hl⟩;have Ha:=qI (He.out.trans (Hl.mono He.out.size));have Hv:=He.out.size;obtain ⟨lcp,lp,lb,rfl,Hp,Ho⟩:=Hg.form;have Hn:=qI Hp;have Hr:Hid (∀ s,Ol.left m ds hs=some s->∃ pb db ao c,lcp=(s.cp:Int)/\lp=some ⟨pb,0,none⟩/\dj W2 pb db ao c s/\w.heap.size<pb/\(0<s.ds.length->w.heap.size<db)):=λs hs=>by
  obtain ⟨pb,db,ao,c,q1,q2,q3,q4,q5⟩:=Ho s hs;exact ⟨pb,db,ao,c,q1,q2,q3,by omega,λh0=>by have:=q5 h0;omega⟩
 clear Hl Hg Hb Hp Ho
 go_wp2
 refine hK.out _ _ (Hi.out _ Ha.out) (λhQ=>?_);clear hK K;refine tk 8 ?_;refine tk 9 ?_;have Hc:=(Ha.out.block w.heap.size (by omega)).trans HZ.out;have c0_3:W2.cell? ⟨w.heap.size,0,none⟩=some (.int .u64 0):=ad Hc 0;have c1_3:W2.cell? ⟨w.heap.size,1,none⟩=some (.pointer none):=ad Hc 1;have f0_3:=aq Hc 0;have f1_3:=aq Hc 1;have Hm:=qI (aj (aj Hc 0 (.int .u64 lcp)) 1 (.pointer lp));have Hs:=qI (((Hh.out.trans (Ha.out.mono (by omega))).setCell (p:=⟨w.heap.size,0,none⟩) (lR) (.int .u64 lcp)).setCell (p:=⟨w.heap.size,1,none⟩) (lR) (.pointer lp));have Hu:Hid ((zm Ba tb m) ((W2.setCell ⟨w.heap.size,0,none⟩ (.int .u64 lcp)).setCell ⟨w.heap.size,1,none⟩ (.pointer lp))):=⟨ad ((set_other (by omega)).trans ((set_other (by omega)).trans ((Ha.out.block (Ba) (by omega)).trans HO.out))) 0,ad ((set_other (by omega)).trans ((set_other (by omega)).trans ((Ha.out.block (Ba) (by omega)).trans HO.out))) 1,ad ((set_other (by omega)).trans ((set_other (by omega)).trans ((Ha.out.block (Ba) (by omega)).trans HO.out))) 2,ad ((set_other (by omega)).trans ((set_other (by omega)).trans ((Ha.out.block (Ba) (by omega)).trans HO.out))) 3,ad ((set_other (by omega)).trans ((set_other (by omega)).trans ((Ha.out.block (Ba) (by omega)).trans HO.out))) 4⟩;clear Hc;refine rd 10 (λK hK=>?_);go_simp
 go_wp2
 refine hK.out _ _ Hu.out (λhQ=>?_);clear hK K;refine tk 11 ?_;refine Qn (by kernel_rfl) ?_ _;clear hQ;have Hk:Hid (m8 w ((W2.setCell ⟨w.heap.size,0,none⟩ (.int .u64 lcp)).setCell ⟨w.heap.size,1,none⟩ (.pointer lp)) (.returned (.tuple #[.agg #[.int .u64 lcp,.pointer lp],.bool lb])) (Ol.left m ds hs)):=by
  unfold Hid;cases hl0:Ol.left m ds hs with
  | none=>rw [Hn.out,hl0];exact ⟨lcp,lp,rfl⟩
  | some s=>
   obtain ⟨pb,db,ao,c,rfl,rfl,q3,q4,q5⟩:=Hr.out s hl0;rw [Hn.out,hl0];exact ⟨pb,db,ao,c,rfl,o7 (o7 q3 (by omega) (λh0=>by have:=q5 h0;omega) _ _) (by omega) (λh0=>by have:=q5 h0;omega) _ _,by omega,λh0=>by have:=q5 h0;omega⟩
 go_wp2_with fail
 generalize ((W2.setCell ⟨w.heap.size,0,none⟩ (.int .u64 lcp)).setCell ⟨w.heap.size,1,none⟩ (.pointer lp))=WZ at *;(try simp only [Exit.inBlock,Exit.then]);refine bodyPost_ret (v:=.tuple #[.agg #[.int .u64 lcp,.pointer lp],.bool lb]) ?_ rfl ⟨Hk.out,Hs.out⟩;have r0:WZ.cell? ⟨w.heap.size,0,none⟩=some (.int .u64 lcp):=ad Hm.out 0;have r1:WZ.cell? ⟨w.heap.size,1,none⟩=some (.pointer lp):=ad Hm.out 1;rw [iD rfl];go_simp
end
section
open RowKit Shelf
open Sv (Gv Hd gv hd gsF)
open Dvs (Dv dv aX)
attribute [local go_sem] Oper.semAt_some
theorem sx (Ba tb:Nat) (m:Ol.Mc) (Bd Be:Nat) (hv0:Value) (cp pb db:Nat) (ao:Option Addr) (c:Nat) (ds:List Dv) (us:Nat->Bool) (vh:Value) (hs:List Hd) (s:Ol.Sk) (w:World) (h:bi w Ba tb m Bd Be hv0 cp pb) (hsl:∃ a n c,hv0=.slice a n c) (hp:ap w pb db ao c ds us) (hpa:pb≠Ba) (hda:0<ds.length->db≠Ba) (hN:aX ds) (hH:aQ (ah (λj=>j=Ba) w) vh hs) (hop:m.op<18446744073709551616) (hok:jN hs) (hl:hs.length<=100) (hleft:Ol.left m ds hs=some s) :
  Calls Tryz.prog 58 #[.pointer (some ⟨Ba,0,none⟩),vh] w λe w'=>e=.returned (.tuple #[])/\(∃ pb' db' ao' c',bi w' Ba tb m Bd Be vh s.cp pb'/\dj w' pb' db' ao' c' s/\w.heap.size<=pb'/\(0<s.ds.length->w.heap.size<=db'))/\Apart (λj=>j=Ba) w w':=by
 obtain ⟨oa,on,oc,rfl⟩:=hsl;have Hr:=h.lt;unfold bi at h;have c7:w.cell? ⟨Ba,7,none⟩=some (.slice oa on oc):=ad h 7;have f7:=aq h 7;have Hg:Hid (bi (w.setCell ⟨Ba,7,none⟩ vh) Ba tb m Bd Be vh cp pb):=aj h 7 vh;have Hf:Hid (Apart (λj=>j=Ba) w (w.setCell ⟨Ba,7,none⟩ vh)):=Apart.setCell (K:=λj=>j=Ba) rfl _ _ _;have Hk:Hid (ap (w.setCell ⟨Ba,7,none⟩ vh) pb db ao c ds us):=hp.kept (bN _ ⟨Ba,7,none⟩ _) (λe=>hpa (by injection e)) (λh0 e=>hda h0 (by injection e));have Ho:Hid (aQ (w.setCell ⟨Ba,7,none⟩ vh) vh hs):=hH.le ((mu Hf.out (λ_ _ h=>h)).trans (cB _ _));have Hq:(w.setCell ⟨Ba,7,none⟩ vh).heap.size=w.heap.size:=by simp
 have He:=qI (sw Ba tb m Bd Be vh cp pb db ao c ds us vh hs _ Hg.out Hk.out hN Ho.out hop hok hl);rw [hleft] at He;obtain ⟨ha,hc,rfl,_,_⟩:=id hH;clear h hp hH
 go_enter Tryz.func58,Tryz.ntmps58
 go_wp2_with fail
 generalize w.setCell ⟨Ba,7,none⟩ (.slice ha hs.length hc)=W1 at *;refine He.out.mono ?_;rintro e W2 ⟨⟨pb',db',ao',c',rfl,Hi,Hj,Hb⟩,Hc⟩;have Hp:=qI (Hg.out.below Hc);have Ha:=Hp.out;unfold bi at Ha;have d8:W2.cell? ⟨Ba,8,none⟩=some (.int .u64 (cp:Nat)):=ad Ha 8;have d9:W2.cell? ⟨Ba,9,none⟩=some (.pointer (some ⟨pb,0,none⟩)):=ad Ha 9;have f8:=aq Ha 8;have f9:=aq Ha 9;have Hn:Hid (bi ((W2.setCell ⟨Ba,8,none⟩ (.int .u64 (s.cp:Nat))).setCell ⟨Ba,9,none⟩ (.pointer (some ⟨pb',0,none⟩))) Ba tb m Bd Be (.slice ha hs.length hc) s.cp pb'):=aj (aj Ha 8 _) 9 _;have Hl:Hid (dj ((W2.setCell ⟨Ba,8,none⟩ (.int .u64 (s.cp:Nat))).setCell ⟨Ba,9,none⟩ (.pointer (some ⟨pb',0,none⟩))) pb' db' ao' c' s):=o7 (o7 Hi (by omega) (λh0=>by have:=Hb h0;omega) _ _) (by omega) (λh0=>by have:=Hb h0;omega) _ _;have Hm:Hid (Apart (λj=>j=Ba) w ((W2.setCell ⟨Ba,8,none⟩ (.int .u64 (s.cp:Nat))).setCell ⟨Ba,9,none⟩ (.pointer (some ⟨pb',0,none⟩)))):=((Hf.out.trans (Apart.of_below Hc)).trans (Apart.setCell (K:=λj=>j=Ba) rfl _ _ _)).trans (Apart.setCell (K:=λj=>j=Ba) rfl _ _ _);have Hh:Hid (w.heap.size<=pb'/\(0<s.ds.length->w.heap.size<=db')):=⟨by omega,λh0=>by have:=Hb h0;omega⟩;clear Hi Hj Hb Hc Ha;unfold sV
 go_wp2_with fail
 go_end0
 exact ⟨rfl,⟨pb',db',ao',c',Hn.out,Hl.out,Hh.out.1,Hh.out.2⟩,Hm.out⟩
def cH (base:Nat) (W:World) (Ba:Nat):Prop:=∀ pb,W.cell? ⟨Ba,9,none⟩=some (.pointer (some ⟨pb,0,none⟩))->base<=pb/\∀ db n c,0<n->W.cell? ⟨pb,0,none⟩=some (.slice (some ⟨db,0,none⟩) n c)->base<=db
def eX (w w':World) (Ba:Nat):Prop:=w'.heap[Ba]?=w.heap[Ba]?\/cH w.heap.size w' Ba
theorem cH.less {a b:Nat} {W:World} {Ba:Nat} (h:cH a W Ba) (hl:b<=a):cH b W Ba:=λpb e=>⟨Q5 hl (h pb e).1,λdb n c hn e2=>Q5 hl ((h pb e).2 db n c hn e2)⟩
theorem eX.old {w X W:World} {Ba:Nat} (h:eX X W Ba) (hb:Below w.heap.size w X) (hl:Ba<w.heap.size):eX w W Ba:=h.elim (λe=>.inl (e.trans (hb.block Ba hl))) (λe=>.inr (e.less hb.size))
theorem sy {base:Nat} {W:World} {Ba tb:Nat} {m:Ol.Mc} {Bd Be:Nat} {hv:Value} {cp pb db:Nat} {ao:Option Addr} {c:Nat} {s:Ol.Sk} (h:bi W Ba tb m Bd Be hv cp pb) (hs:dj W pb db ao c s) (h1:base<=pb) (h2:0<s.ds.length->base<=db):cH base W Ba:=by
 intro pb1 e;have e9:W.cell? ⟨Ba,9,none⟩=some (.pointer (some ⟨pb,0,none⟩)):=ad h 9;rw [e9] at e;obtain rfl:pb=pb1:=by cases e;rfl
 refine ⟨h1,λdb1 n1 c1 hn e2=>?_⟩;rw [hs.pool.row] at e2;have e3:ao=some ⟨db1,0,none⟩/\s.ds.length=n1:=by cases e2;exact ⟨rfl,rfl⟩
 have h0:0<s.ds.length:=by omega
 have e4:=(hs.pool.at0 h0).1;rw [e3.1] at e4;obtain rfl:db1=db:=by cases e4;rfl
 exact h2 h0
theorem fq {A B:World} {b:Nat} (h:A.heap[b]?=B.heap[b]?) (o:Nat):A.cell? ⟨b,o,none⟩=B.cell? ⟨b,o,none⟩:=by simp [World.cell?,h]
end
section
open RowKit Shelf
open Qos (Nd Ct Pd nd ct pd ag)
open Sv (Gv Hd gv hd gsF)
attribute [local go_sem] Oper.semAt_some
def av (x:Hd × Value × Value):List Value:=[.string x.1.pod.nm,.int .i64 x.1.pod.pr,x.2.1,x.2.2]
theorem sA (x:Hd) (a:Option Addr) (n c:Nat) (a2:Option Addr) (n2 c2:Nat):∀ u∈av (x,.slice a n c,.slice a2 n2 c2),u.oneCell'=true:=by
 intro u hu
 simp [av] at hu
 rcases hu with rfl|rfl|rfl|rfl <;> rfl
theorem zn (w:World) (x:Hd × Value × Value) (t:TypeId):∀ j u,(av x)[j]?=some u->(w.alloc (.cells #[.string x.1.pod.nm,.int .i64 x.1.pod.pr,x.2.1,x.2.2] t)).cell? ((⟨w.heap.size,0,none⟩:Addr).add j)=some u:=by
 intro j u hu;rw [Addr.add_lit,Qd]
 match j,hu with
 | 0,hu=>simp [av] at hu;subst hu;simp
 | 1,hu=>simp [av] at hu;subst hu;simp
 | 2,hu=>simp [av] at hu;subst hu;simp
 | 3,hu=>simp [av] at hu;subst hu;simp
 | n+4,hu=>simp [av] at hu
theorem zo:(Tryz.prog.info? 57).map (λi=>(i.zero,i.size,i.bytes))=some (some (.agg #[.string ByteArray.empty,.int .i64 0,.slice none 0 0,.slice none 0 0]),4,72):=by kernel_rfl
structure sB (W:World) (v:Value) (l:List (Hd × Value × Value)) (N:Nat) (M:Nat->Prop):Prop where
 row:W.ownsRow N 57 4 v l.length (l.flatMap av)
 in_:∀ x∈l,aD (ah (λj=>M j\/v.ownBlock=some j) W) x.2.1 x.1.pod.cs/\bl (ah (λj=>M j\/v.ownBlock=some j) W) x.2.2 x.1.gs
theorem LE {W:World} {v:Value} {l:List (Hd × Value × Value)} {N:Nat} {M:Nat->Prop} (h:sB W v l N M) (hN:∀ j,M j->j<N):aQ (ah M W) v (l.map Prod.fst):=by
 have h':=h.row
 rcases h.row.2 with ⟨hv,h0⟩|⟨g,cap,cur,hv,hg,Hb,Hc,Ha,_⟩
 ·have:l=[]:=Qe h0
  subst this;rw [hv];exact ⟨none,0,rfl,⟨lR,Nat.zero_le _⟩,λh=>absurd h (Nat.lt_irrefl 0)⟩
 ·subst hv;have key:∀ (l:List (Hd × Value × Value)) (k:Nat) (hk:k<l.length) (j:Nat),j<4->(l.flatMap av)[k*4+j]?=(av l[k])[j]?:=by
   intro l
   induction l with
   | nil=>intro k hk;simp at hk
   | cons a l ih=>
    intro k hk j hj;rw [List.flatMap_cons];cases k with
    | zero=>rw [List.getElem?_append_left (by simp [av];omega)];simp
    | succ k=>
     rw [List.getElem?_append_right (by simp [av];omega)]
     have:=ih k (by simpa using hk) j hj
     simp only [List.getElem_cons_succ];rw [<- this]
     congr 1
     simp [av]
     omega
  refine ⟨_,cap,by rw [Q9],by rw [Q9];exact ⟨Hc,Ha⟩,λ_=>⟨g,0,λk=>(l.getD k (Sv.hd [] 0,.nilIface,.nilIface)).2.1,λk=>(l.getD k (Sv.hd [] 0,.nilIface,.nilIface)).2.2,rfl,by rw [bx];exact (gS Hb).1,λk hk=>?_⟩⟩;rw [Q9] at hk;have e:hd (l.map Prod.fst) k=l[k].1:=by simp [hd,hk]
  have e2:l.getD k (Sv.hd [] 0,.nilIface,.nilIface)=l[k]:=by simp [hk]
  obtain ⟨q1,q2⟩:=h.in_ _ (List.getElem_mem hk);dsimp only;rw [e,e2];have hl:az (ah (λj=>M j\/(Value.slice (some ⟨g,0,none⟩) l.length cap).ownBlock=some j) W) (ah M W):=bn (λj _ hn=>⟨λhj=>hn (.inl hj),rfl⟩) (lR);have cc:∀ j,j<4->(ah M W).cell? ⟨g,0+k*4+j,none⟩=(av l[k])[j]?:=λj hj=>by
   rw [World.cell?_of_block (a:=⟨g,0+k*4+j,none⟩) (bJ (λhm=>by have:=hN g hm;omega)),Qd,h'.cellAt (k*4+j) (by omega)];exact key l k hk j hj
  exact ⟨⟨cc 0 (by decide),cc 1 (by decide),cc 2 (by decide),cc 3 (by decide)⟩,q1.le hl,q2.le hl⟩
abbrev kD:=λ(x0:Sv.Hd) (x1:Option Addr) (x2:Nat) (x3:Option Addr) (x4:Nat)=>(.cells #[.string x0.pod.nm,.int .i64 x0.pod.pr,.slice x1 x0.pod.cs.length x2,.slice x3 x0.gs.length x4] 57:Obj)
abbrev zp:=λ(Bh:Nat) (x:Sv.Hd) (ca:Option Addr) (cc:Nat) (ga:Option Addr) (gc:Nat) (w':World)=>w'.cell? ⟨Bh,0,none⟩=some (.string x.pod.nm)/\w'.cell? ⟨Bh,1,none⟩=some (.int .i64 x.pod.pr)/\w'.cell? ⟨Bh,2,none⟩=some (.slice ca x.pod.cs.length cc)/\w'.cell? ⟨Bh,3,none⟩=some (.slice ga x.gs.length gc)
theorem LF (Ba tb:Nat) (m:Ol.Mc) (Bd Be:Nat) (hv:Value) (cp pb:Nat) (hs:List Hd) (w:World) (h:bi w Ba tb m Bd Be hv cp pb) (hH:aQ w hv hs) (hok:jN hs) (hl:hs.length<=100) :
  Calls Tryz.prog 15 #[.pointer (some ⟨Ba,0,none⟩)] w λe w'=>∃ a c,e=.returned (.slice a hs.length c)/\aQ (fresh w.heap.size w') (.slice a hs.length c) hs/\Below w.heap.size w w':=by
 obtain ⟨i0,hi,H0,hf,HT⟩:=info_parts zo;have H6:=qI hok;obtain ⟨ha,hc,rfl,hm,hr⟩:=hH;have HR:=qI hr;unfold bi at h;have c7:w.cell? ⟨Ba,7,none⟩=some (.slice ha hs.length hc):=ad h 7;clear hok hr hm h
 go_enter Tryz.func15,Tryz.ntmps15
 go_wp2_with fail
 clear c7
 go_loopw [3,11] (λpv i wr=>∃ (k:Nat) (l:List (Hd × Value × Value)),k<=hs.length/\i=.int .i64 k/\l.length=k/\l.map Prod.fst=hs.take k/\sB wr pv l w.heap.size (λj=>j<w.heap.size)/\Below w.heap.size w wr) (λ_ i _=>hs.length - (intOf i).toNat)
 case atStart=>exact ⟨0,[],by omega,rfl,rfl,rfl,⟨Qw _ _ _ _,λx hx=>(List.not_mem_nil hx).elim⟩,Q0 _ _⟩
 case round=>
  obtain ⟨k,l,hk,rfl,HH,HC,Hg,hb⟩:=hrel;have HI:=qI HH;have HE:=qI HC;have Hc:=qI Hg;have HB:=qI hb;have ht:=hb.size;have hp:l.length<=100:=by omega
  obtain ⟨va,vc,H8⟩:=fH Hg.row;subst H8;clear HH HC Hg
  by_cases hlt:k<hs.length
  ·obtain ⟨hw,ho,cv,gvv,rfl,Hs⟩:=HR.out (by omega);have hle:=az.of_below hb;obtain ⟨x0,x1,x2,x3⟩:=(Hs.2 k hlt).1;have x0:=hle.cell _ _ _ x0;have x1:=hle.cell _ _ _ x1;have x2:=hle.cell _ _ _ x2;have x3:=hle.cell _ _ _ x3;have He:=((Hs.2 k hlt).2.1).le hle;have Hb:=((Hs.2 k hlt).2.2).le hle;obtain ⟨HO,HX,HM⟩:=H6.out (hd hs k) (by simp [hd,hlt]);have H7:Hid (hs.take (k+1)=hs.take k++[hd hs k]):=by unfold Hid;rw [Qa hlt];simp [hd,hlt]
   obtain ⟨ca,cc,HD,H9,HZ⟩:=id He;obtain ⟨ga,gc,HA,HU,HW⟩:=id Hb;rw [HD] at x2 He;rw [HA] at x3 Hb;have Hw:=qI He;have Hx:=qI Hb;have HP:=qI (Sv.fE HO);have H1:=qI HM;have hA:=HP.out.2.2.1;have he:(hd hs k).gs.length<=3:=by omega
   clear Hs He Hb HD HA HZ HW hle H9 HU HO HM HX;generalize hd hs k=x at *;have Hl:=qI ((Q0 wr.heap.size wr).alloc (lR) (kD x ca cc ga gc));have Hq:=qI (aF wr (kD x ca cc ga gc) rfl);have hC:(wr.alloc (kD x ca cc ga gc)).heap.size=wr.heap.size+1:=by simp
   clear hb
   go_wp2_with fail
   generalize wr.alloc (kD x ca cc ga gc)=X at *;generalize hBh:wr.heap.size=Bh at *;clear x0 x1 x2 x3;have Hj:Hid (∀ W,Below X.heap.size X W->(zp Bh x ca cc ga gc) W):=λW hb=>⟨ad ((hb.block (Bh) (by omega)).trans Hq.out) 0,ad ((hb.block (Bh) (by omega)).trans Hq.out) 1,ad ((hb.block (Bh) (by omega)).trans Hq.out) 2,ad ((hb.block (Bh) (by omega)).trans Hq.out) 3⟩
   have Ho:Hid (Below X.heap.size X X.drew):=a6 (Q0 _ _);refine Qo (by kernel_rfl) (Hj.out _ Ho.out) (λhQ=>?_);generalize X.drew=V at *;refine tk 0 ?_;refine tk 1 ?_;refine tk 2 ?_;refine tk 4 ?_;refine tk 5 ?_;refine rd 3 (λK hK=>?_);go_simp
   go_wp2_with fail
   refine (yx x.pod.nm x.pod.pr x.pod.cs _ V (Hw.out.below ((show Below wr.heap.size wr X by rw [hBh];exact Hl.out).trans (Ho.out.mono (by omega)))) (by omega) (λq hq=>by have:=(HP.out.2.2.2 (ct x.pod.cs q) (Ost.dY _ _ _ hq)).2.2.2.2.2.1;omega)).mono ?_;rintro e W1 ⟨pa,pcc,rfl,HK,HQ⟩;have Hn:=qI (Ho.out.trans (HQ.mono Ho.out.size));have H5:=qI (HK.le (lj (λ_ _ _=>rfl) (lR) Ho.out.size));clear HQ HK
   go_wp2
   refine hK.out _ _ (Hj.out _ Hn.out) (λhQ=>?_);clear hK K;refine rd 6 (λK hK=>?_);go_simp
   go_wp2_with fail
   refine (IQ (.slice ga x.gs.length gc) x.gs W1 (Hx.out.below ((show Below wr.heap.size wr X by rw [hBh];exact Hl.out).trans (Hn.out.mono (by omega)))) (by omega) (λq hq=>by have:=Ol.rx (Dvs.cS H1.out q hq);omega)).mono ?_;rintro e W2 ⟨qa,qc,rfl,HJ,Hu⟩;have Hk:=qI (Hn.out.trans (Hu.mono Hn.out.size));have H2:=qI (H5.out.le (xB Hu (lR)));have hh:=qI (HJ.le (lj (λ_ _ _=>rfl) (lR) Hn.out.size));have hy:=Hk.out.size;clear Hu HJ
   go_wp2
   refine hK.out _ _ (Hj.out _ Hk.out) (λhQ=>?_);clear hK K;refine tk 7 ?_;have Hr:=qI (Hk.out.alloc Hk.out.size (kD x pa pcc qa qc));have HF:=qI (zn W2 (x,.slice pa x.pod.cs.length pcc,.slice qa x.gs.length qc) 57);dsimp only at HF;have hu:(W2.alloc (kD x pa pcc qa qc)).heap.size=W2.heap.size+1:=by simp
   have hu':=hu;unfold kD at hu';have Hh:∀ b,(Value.slice va l.length vc).ownBlock=some b->w.heap.size<=b/\b<Bh:=λb hb=>by rw [<- hBh];exact Hc.out.row.lt b hb
   have HV:Hid ((W2.alloc (kD x pa pcc qa qc)).ownsRow w.heap.size 57 4 (.slice va l.length vc) l.length (l.flatMap av)):=m6 Hc.out.row (λg hg=>(Hr.out.block g (by have:=(Hh g hg).2;omega)).trans (Hl.out.block g (Hh g hg).2));refine rd 8 (λK hK=>?_);go_simp
   go_wp2
   refine hK.out _ _ (Hj.out _ Hr.out) (λhQ=>?_);clear hK K;refine rd 9 (λK hK=>?_);rw [if_pos (by rfl)]
   refine wp_append_lies (o := { dst := some 24, op := Op.call { callee := Callee.builtin Builtin.append, args := #[Operand.tmp 15, Operand.tmp 23], argTypes := #[53, 53] }, type := 53, pos := "ostler.go:50", after := #[{ on := 0, ground := Ground.data }, { on := 8, ground := Ground.data }, { on := 6, ground := Ground.chain }], guard := none }) _ _ _ 53 rfl w.heap.size 57 i0 (.agg #[.string ByteArray.empty, .int .i64 0, .slice none 0 0, .slice none 0 0]) 4 72 Tryz.underlying53 hi H0 hf HT rfl (by decide) (.slice va l.length vc) _ _ rfl HV.out ⟨_, 0, none⟩ 1 1 (av (x, .slice pa x.pod.cs.length pcc, .slice qa x.gs.length qc)) rfl rfl HF.out (sA _ _ _ _ _ _ _) (by decide) (by unfold maxLen; omega) (by omega) (by omega) (W2.heap.size + 1) (by simp) ?_
   intro g' cap' W4 Hf Ha Hz H4;have hB:=Ha.size;have HN:(zp Bh x ca cc ga gc) W4:=by
    obtain ⟨q0,q1,q2,q3⟩:=Hj.out _ Hr.out;have Hp:some Bh≠(Value.slice va l.length vc).ownBlock:=λe=>by have:=(Hh Bh e.symm).2;omega
    exact ⟨(Ha.cell_far ⟨Bh,0,none⟩ (by show Bh<_;omega) Hp).trans q0,(Ha.cell_far ⟨Bh,1,none⟩ (by show Bh<_;omega) Hp).trans q1,(Ha.cell_far ⟨Bh,2,none⟩ (by show Bh<_;omega) Hp).trans q2,(Ha.cell_far ⟨Bh,3,none⟩ (by show Bh<_;omega) Hp).trans q3⟩
   have HG:Hid (∀ j,j<W2.heap.size->(Value.slice va l.length vc).ownBlock≠some j->W4.heap[j]?=W2.heap[j]?):=λj hj hno=>(Ha.block j (by omega) (λe=>hno e.symm)).trans (Below.heap_alloc _ _ _ hj)
   have HS:Hid (Below w.heap.size w W4):=((HB.out.trans ((show Below wr.heap.size wr X by rw [hBh];exact Hl.out).mono (by omega))).trans (Hr.out.mono (by omega))).grown Ha (by omega) (λj hj=>(Hh j hj).1);have Hi:Hid (sB W4 (.slice (some ⟨g',0,none⟩) (l.length+1) cap') (l++[(x,Value.slice pa x.pod.cs.length pcc,Value.slice qa x.gs.length qc)]) w.heap.size (λj=>j<w.heap.size)):=by
    refine ⟨?_,λz hz=>?_⟩
    ·rw [Q2,List.flatMap_append]
     simpa using Hf
    ·rcases Qi.1 hz with hz|hz
     ·obtain ⟨z1,z2⟩:=Hc.out.in_ z hz;have hle:az (ah (λj=>j<w.heap.size\/(Value.slice va l.length vc).ownBlock=some j) wr) (ah (λj=>j<w.heap.size\/(Value.slice (some ⟨g',0,none⟩) (l.length+1) cap').ownBlock=some j) W4):=bn (λj hj hn=>by
       have H3:¬ j<w.heap.size:=λh=>hn (.inl h)
       have HL:(Value.slice va l.length vc).ownBlock≠some j:=λh=>hn (.inr h)
       refine ⟨λh=>?_,(HG.out j (by omega) HL).trans ((Hk.out.block j (by omega)).trans (Hl.out.block j (by rw [<- hBh];exact hj)))⟩
       rcases h with h|h
       ·exact H3 h
       ·have h:some g'=some j:=h;injection h with h
        rcases Hz with Hm|Hm
        ·exact HL (by rw [Hm,h])
        ·omega) (by omega)
      exact ⟨z1.le hle,z2.le hle⟩
     ·rw [Qm.1 hz];have hle:az (fresh X.heap.size W2) (ah (λj=>j<w.heap.size\/(Value.slice (some ⟨g',0,none⟩) (l.length+1) cap').ownBlock=some j) W4):=bn (λj hj hn=>by
       have hn:¬ j<X.heap.size:=hn;refine ⟨λh=>?_,HG.out j hj (λh=>by have:=(Hh j h).2;omega)⟩
       rcases h with h|h
       ·omega
       ·have h:some g'=some j:=h;injection h with h
        rcases Hz with Hm|Hm
        ·have:=(Hh g' Hm).2;omega
        ·omega) (by omega)
      exact ⟨H2.out.le hle,hh.out.le hle⟩
   refine hK.out _ _ HN (λhQ=>?_);clear hK K;(try simp only [Act.put,s1,s2,s3]);refine tk 10 ?_;refine Qn (by kernel_rfl) ?_ _;clear hQ Hf Ha Hz HN
   go_wp2
   go_roundw
   case rel=>exact ⟨k+1,l++[(x,Value.slice pa x.pod.cs.length pcc,Value.slice qa x.gs.length qc)],by omega,by go_num,by rw [Q2,HI.out];rfl,by rw [Qj,HE.out,H7.out];rfl,Hi.out,HS.out⟩
   case measure=>simp [intOf];omega
  ·have Hy:k=hs.length:=by omega
   have Hv:l.length=hs.length:=by rw [HI.out,Hy]
   have Ht:Hid (aQ (fresh w.heap.size wr) (.slice va hs.length vc) hs):=by
    unfold Hid;have h1:=LE Hc.out (λj h=>h);rw [HE.out,Hy,Qh,Hv] at h1;exact h1
   have HY:=qI Hv;clear Hy Hv
   go_wp2
   go_ret;exact ⟨va,vc,by rw [<- HY.out];rfl,Ht.out,HB.out⟩
end
section
open RowKit Shelf
attribute [local go_sem] Oper.semAt_some
theorem LG (base:Nat) (v:Value) (n:Nat) (xs ys:List Value) (a:Addr) (c:Nat) (w:World) (hr:w.ownsRow base 57 4 v n xs) (hy:∀ j u,ys[j]?=some u->w.cell? (a.add j)=some u) (hyl:ys.length=4) (hy1:∀ u∈ys,u.oneCell'=true) (hn:n<=100) (hb:base<=w.heap.size) :
  Calls Tryz.prog 54 #[v,.int .i64 n,.slice (some a) 1 c] w λe w'=>∃ v',e=.returned v'/\w'.ownsRow base 57 4 v' (n+1) (xs++ys)/\w.grownBy w' v.ownBlock:=by
 obtain ⟨i0,hi,Hg,Hj,Hf⟩:=info_parts zo;have HR:=qI hr;have HY:=qI hy;have Hi:=qI hy1;have Hh:Hid (ys.length=1*4):=hyl;have Hk:∃ g cap,v=.slice g n cap/\(n<=cap/\cap<=maxLen)/\(g=none->n=0):=by
  rcases hr.2 with ⟨h1,h2⟩|⟨g,cap,cur,h1,h2,h3,h4,h5,h6⟩
  ·exact ⟨none,0,by rw [h1,h2],by rw [h2];exact ⟨lR,Nat.zero_le _⟩,λ_=>h2⟩
  ·exact ⟨_,cap,h1,⟨h4,h5⟩,λh=>by cases h⟩
 obtain ⟨g,cap,rfl,Hc,He⟩:=Hk;clear hr hy hy1 hyl;have Hl:cap<=9223372036854775807:=by have:=Hc.2;unfold maxLen at this;omega
 have Hm:=Hc.1;have Hn:=qI He;clear Hc He
 go_enter Tryz.func54,Tryz.ntmps54
 go_wp2_with (at_builtin;(refine wpList_append_own _ rfl _ _ 53 rfl base 57 i0 (.agg #[.string ByteArray.empty,.int .i64 0,.slice none 0 0,.slice none 0 0]) 4 72 Tryz.underlying53 hi Hg Hj Hf rfl (by decide) _ _ _ rfl HR.out a 1 c ys rfl Hh.out HY.out Hi.out (by unfold maxLen;omega) (by omega) (by omega) ?_;intro v' w1 Hb Ha _))
 ·rename_i h
  have hg:w.grownBy w1 (Value.slice g n cap).ownBlock:=Ha;rw [h] at hg;clear Ha;go_ret;exact ⟨v',rfl,Hb,hg⟩
 ·have hg:w.grownBy w1 (Value.slice g n cap).ownBlock:=Ha;clear Ha;go_ret;exact ⟨v',rfl,Hb,hg⟩
end
section
open RowKit Shelf
open Qos (Nd Ct Pd nd ct pd ag aO aP bX)
open Sv (Gv Hd gv hd gsF)
open Dvs (Dv dv aX)
attribute [local go_sem] Oper.semAt_some
theorem LI (B:Nat) (n k:Sd) (v:Value) (l:Int) (d:Bool) (w:World) (h:aG w B n k v l d):Calls Tryz.prog 63 #[.pointer (some ⟨B,0,none⟩)] w λe w'=>e=.returned (.bool d)/\w'=w:=by
 unfold aG at h;have c10:w.cell? ⟨B,10,none⟩=some (.bool d):=ad h 10;clear h
 go_enter Tryz.func63,Tryz.ntmps63
 go_wp2
 go_ret;exact ⟨rfl,rfl⟩
theorem LJ (B:Nat) (n k:Sd) (l:Int) (d:Bool) (w:World) (h:aG w B n k (.slice none 0 0) l d):Calls Tryz.prog 114 #[.pointer (some ⟨B,0,none⟩)] w λe w'=>e=.returned (.bool false)/\w'=w:=by
 unfold aG at h;have c8:w.cell? ⟨B,8,none⟩=some (.slice none 0 0):=ad h 8;clear h
 go_enter Tryz.func114,Tryz.ntmps114
 go_wp2
 go_ret;exact ⟨rfl,rfl⟩
theorem o8 {W:World} {base:Nat} {v:Value} {ps:List Pd} (h:vY W base v ps):eH W v ps:=by
 obtain ⟨l,rfl,Ha,Hf⟩:=h;have h':=Ha
 rcases Ha.2 with ⟨hv,h0⟩|⟨g,cap,cur,hv,hg,Hc,He,Hb,_⟩
 ·have:l=[]:=Qe h0
  subst this;rw [hv];exact ⟨none,0,rfl,by unfold maxLen;simp,λh=>absurd h (Nat.lt_irrefl 0)⟩
 ·subst hv;have key:∀ (l:List (Pd × Value)) (k:Nat) (hk:k<l.length) (j:Nat),j<3->(rowP l)[k*3+j]?=(dG l[k])[j]?:=by
   intro l
   induction l with
   | nil=>intro k hk;simp at hk
   | cons a l ih=>
    intro k hk j hj;unfold rowP;rw [List.flatMap_cons];cases k with
    | zero=>rw [List.getElem?_append_left (by simp [dG];omega)];simp
    | succ k=>
     rw [List.getElem?_append_right (by simp [dG];omega)]
     have:=ih k (by simpa using hk) j hj
     simp only [List.getElem_cons_succ];rw [<- this];unfold rowP
     congr 1
     simp [dG]
     omega
  refine ⟨_,cap,by rw [Q9],by rw [Q9];exact Q5 He Hb,λ_=>⟨g,0,λk=>(l.getD k (Qos.pd [] 0,.nilIface)).2,rfl,(gS Hc).1,λk hk=>?_⟩⟩;rw [Q9] at hk;have e:pd (l.map Prod.fst) k=l[k].1:=by simp [pd,hk]
  have e2:l.getD k (Qos.pd [] 0,.nilIface)=l[k]:=by simp [hk]
  dsimp only;rw [e,e2];have cc:∀ j,j<3->W.cell? ⟨g,0+k*3+j,none⟩=(dG l[k])[j]?:=λj hj=>by
   rw [Qd,h'.cellAt (k*3+j) (by omega)];exact key l k hk j hj
  exact ⟨⟨cc 0 (by decide),cc 1 (by decide),cc 2 (by decide)⟩,Hf _ (List.getElem_mem hk)⟩
theorem oS {ps:List Pd} (h:∀ p∈ps,bX p.cs) (hl:ps.length<=100):∀ k,k<=ps.length->(0<=Ol.aY (ps.take k)/\Ol.aY (ps.take k)<=1000000000000000000)/\0<=Ol.bD (ps.take k)/\Ol.bD (ps.take k)<=1000000000000000000:=by
 have key:∀ k,k<=ps.length->(0<=Ol.aY (ps.take k)/\Ol.aY (ps.take k)<=3000000*(k:Int))/\0<=Ol.bD (ps.take k)/\Ol.bD (ps.take k)<=3377699720527872*(k:Int):=by
  intro k
  induction k with
  | zero=>intro _;simp [Ol.aY,Ol.bD]
  | succ k ih=>
   intro hk;have h1:=ih (by omega);have hm:=h (pd ps k) (by simp [pd,show k<ps.length by omega]);have h2:=Qos.kT hm (lR);have h3:=Qos.j8 hm (lR);rw [mC (by omega),mD (by omega)]
   push_cast
   omega
 intro k hk
 have:=key k hk
 have Ha:(k:Int)<=100:=by omega
 omega
abbrev LK:=λ(Ba tb:Nat) (m:Ol.Mc) (w':World)=>w'.cell? ⟨Ba,0,none⟩=some (.pointer (some ⟨tb,0,none⟩))/\w'.cell? ⟨Ba,1,none⟩=some (.int .u64 m.op)/\w'.cell? ⟨Ba,2,none⟩=some (.int .u8 m.nd)/\w'.cell? ⟨Ba,3,none⟩=some (.int .i64 m.nb)/\w'.cell? ⟨Ba,4,none⟩=some (.int .i64 m.pol)
theorem LM (Ba tb:Nat) (m:Ol.Mc) (Bd Be:Nat) (hv:Value) (cp pb db:Nat) (ao:Option Addr) (c:Nat) (ds:List Dv) (us:Nat->Bool) (vh:Value) (hs:List Hd) (w:World) (h:bi w Ba tb m Bd Be hv cp pb) (hp:ap w pb db ao c ds us) (hN:aX ds) (hH:aQ w vh hs) (hop:m.op<18446744073709551616) (hok:jN hs) (hl:hs.length<=100) :
  Calls Tryz.prog 116 #[.pointer (some ⟨Ba,0,none⟩),vh] w λe w'=>e=.returned (.bool ((Ol.left m ds hs).isSome && Ol.room m (hs.map Hd.pod)))/\Below w.heap.size w w':=by
 have Hs:=qI (sw Ba tb m Bd Be hv cp pb db ao c ds us vh hs w h hp hN hH hop hok hl);have HO:=qI h;have HH:=qI hH;have Hu:=h.lt;have Ho:Hid (∀ p∈hs.map Hd.pod,bX p.cs):=λp hp=>by
  obtain ⟨x,hx,rfl⟩:=Qk.1 hp;exact Qos.jx (hok x hx).1
 have Hf:=qI (oS Ho.out (by rw [Q9];exact hl));obtain ⟨ha,hc,rfl,_,_⟩:=hH;clear h hp
 go_enter Tryz.func116,Tryz.ntmps116
 go_wp2_with fail
 refine Hs.out.mono ?_;rintro e W1 ⟨Hr,Hh⟩;obtain ⟨lcp,lp,lb,rfl,Hp,_⟩:=Hr.form;have Hk:=qI Hp;have Hc:=qI (Hh.alloc Hh.size (.cells #[.int .u64 lcp,.pointer lp] 98));have Hm:=Hc.out.size;clear Hr Hp Hh Hs
 go_upto_region 2 with fail
 generalize W1.alloc (.cells #[.int .u64 lcp,.pointer lp] 98)=X at *;have Ha:=qI (HO.out.below Hc.out);have Hq:=Ha.out;unfold bi at Hq;have He:Hid (∀ W,Below X.heap.size X W->(LK Ba tb m) W):=λW hb=>⟨ad ((hb.block (Ba) (by omega)).trans Ha.out) 0,ad ((hb.block (Ba) (by omega)).trans Ha.out) 1,ad ((hb.block (Ba) (by omega)).trans Ha.out) 2,ad ((hb.block (Ba) (by omega)).trans Ha.out) 3,ad ((hb.block (Ba) (by omega)).trans Ha.out) 4⟩
 clear Hq;have Hb:Hid (Below X.heap.size X X.drew):=a6 (Q0 _ _)
 rcases two lb with hb|hb
 ·subst hb;refine Qo (by kernel_rfl) (He.out _ Hb.out) (λhQ=>?_);generalize X.drew=V at *;refine tk 0 ?_;refine tk 1 ?_;refine tk 2 ?_;refine tk 3 ?_;refine tk 4 ?_;refine tk 5 ?_;refine tk 6 ?_;refine rd 7 (λK hK=>?_);go_simp
  go_wp2_with fail
  refine (vZ (.slice ha hs.length hc) hs V (HH.out.le ((az.of_below Hc.out).trans (az.of_below Hb.out))) hl).mono ?_;rintro e W2 ⟨v2,rfl,Hl,Hn⟩;have Hg:=qI (Hb.out.trans (Hn.mono Hb.out.size));have Ht:=qI Hl;clear Hn Hl
  go_wp2
  refine hK.out _ _ (He.out _ Hg.out) (λhQ=>?_);clear hK K;refine rd 8 (λK hK=>?_);go_simp
  go_wp2_with fail
  refine (rA (.pointer (some ⟨tb,0,none⟩)) m.op m.nd m.nb m.pol v2 (hs.map Hd.pod) W2 (o8 Ht.out) (by rw [Q9];exact hl) Ho.out hop Hf.out).mono ?_;rintro e W3 ⟨rfl,Hi⟩;have Hj:=qI (Hg.out.trans (Hi.mono Hg.out.size));clear Hi
  go_wp2
  refine hK.out _ _ (He.out _ Hj.out) (λhQ=>?_);clear hK K;refine tk 9 ?_;refine tk 10 ?_;refine Qn (by kernel_rfl) ?_ _;clear hQ
  go_wp2
  go_ret;exact ⟨by rw [<- Hk.out];rfl,Hc.out.trans (Hj.out.mono Hm)⟩
 ·subst hb;refine Qo (by kernel_rfl) (He.out _ Hb.out) (λhQ=>?_);generalize X.drew=V at *;refine tk 0 ?_;refine tk 1 ?_;refine ts 2 ?_;refine ts 3 ?_;refine ts 4 ?_;refine ts 5 ?_;refine ts 6 ?_;refine ts 7 ?_;refine ts 8 ?_;refine tk 9 ?_;refine tk 10 ?_;refine Qn (by kernel_rfl) ?_ _;clear hQ
  go_wp2
  go_ret;exact ⟨by rw [<- Hk.out];rfl,Hc.out.trans (Hb.out.mono Hm)⟩
end
