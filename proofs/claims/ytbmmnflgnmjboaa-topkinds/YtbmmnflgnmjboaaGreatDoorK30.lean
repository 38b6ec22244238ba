import Derived.Test.YtbmmnflgnmjboaaGreatDoorK29
set_option maxRecDepth 100000
set_option maxHeartbeats 16000000
namespace Go.Proofs.YtbmmnflgnmjboaaGreatDoor
section
open RowKit Shelf
open Qos (Nd Ct Pd nd ct pd ah aH)
open Sv (Gv Hd gv hd gsF)
open Dvs (Dv dv aT)
attribute [local go_sem] Oper.semAt_some
def bh (W:World) (Ba tb:Nat) (m:Ol.Mc) (Bd Be:Nat) (hv:Value) (cp pb:Nat):Prop:=W.heap[Ba]?=some (.cells #[.pointer (some ⟨tb,0,none⟩),.int .u64 m.op,.int .u8 m.nd,.int .i64 m.nb,.int .i64 m.pol,.pointer (some ⟨Bd,0,none⟩),.pointer (some ⟨Be,0,none⟩),hv,.int .u64 cp,.pointer (some ⟨pb,0,none⟩)] 115 (0,0))
theorem bh.lt {W:World} {Ba tb:Nat} {m:Ol.Mc} {Bd Be:Nat} {hv:Value} {cp pb:Nat} (h:bh W Ba tb m Bd Be hv cp pb):Ba<W.heap.size:=(gS h).1
theorem bh.block {W W':World} {Ba tb:Nat} {m:Ol.Mc} {Bd Be:Nat} {hv:Value} {cp pb:Nat} (h:bh W Ba tb m Bd Be hv cp pb) (hb:W'.heap[Ba]?=W.heap[Ba]?):bh W' Ba tb m Bd Be hv cp pb:=hb.trans h
theorem bh.below {W W':World} {Ba tb:Nat} {m:Ol.Mc} {Bd Be:Nat} {hv:Value} {cp pb:Nat} (h:bh W Ba tb m Bd Be hv cp pb) (hb:Below W.heap.size W W'):bh W' Ba tb m Bd Be hv cp pb:=h.block (hb.block Ba h.lt)
theorem wL (Ba tb:Nat) (m:Ol.Mc) (Bd Be:Nat) (hv:Value) (cp pb db:Nat) (ao:Option Addr) (c:Nat) (ds:List Dv) (us:Nat->Bool) (w:World) (h:bh w Ba tb m Bd Be hv cp pb) (hp:ap w pb db ao c ds us) (hN:aT ds) :
  Calls Tryz.prog 19 #[.pointer (some ⟨Ba,0,none⟩)] w λe w'=>∃ v,e=.returned v/\fX w.heap.size w' v ds/\Below w.heap.size w w':=by
 have HD:=qI (uO w pb db ao c ds us hp hN);unfold bh at h;have c9:w.cell? ⟨Ba,9,none⟩=some (.pointer (some ⟨pb,0,none⟩)):=ad h 9;clear h hp
 go_enter Tryz.func19,Tryz.ntmps19
 go_wp2_with fail
 refine HD.out.mono ?_;rintro e w' ⟨v,rfl,hr,hb⟩;have HR:=qI hr;obtain ⟨a1,c1,g1,hv1,_⟩:=id hr;subst hv1;clear hr
 go_wp2
 go_ret;exact ⟨_,rfl,HR.out,hb⟩
theorem lI.form {w w':World} {e:Ending} {o:Option Ol.Sk} (h:lI w w' e o):∃ (cp:Int) (p:Option Addr) (b:Bool),e=.returned (.tuple #[.agg #[.int .u64 cp,.pointer p],.bool b])/\b=o.isSome/\(∀ s,o=some s->∃ pb db ao c,cp=(s.cp:Int)/\p=some ⟨pb,0,none⟩/\de w' pb db ao c s/\w.heap.size<=pb/\(0<s.ds.length->w.heap.size<=db)):=by
 cases o with
 | none=>
  obtain ⟨cp,p,rfl⟩:=h;exact ⟨cp,p,false,rfl,rfl,λs hs=>nomatch hs⟩
 | some s=>
  obtain ⟨pb,db,ao,c,rfl,h2,h3,h4⟩:=h;exact ⟨_,_,true,rfl,rfl,λs' hs=>by injection hs with hs;subst hs;exact ⟨pb,db,ao,c,rfl,rfl,h2,h3,h4⟩⟩
theorem m9 {W:World} {pb db:Nat} {ao:Option Addr} {c:Nat} {s:Ol.Sk} (h:de W pb db ao c s) {b:Nat} (h1:pb≠b) (h2:0<s.ds.length->db≠b) (j:Nat) (v:Value):de (W.setCell ⟨b,j,none⟩ v) pb db ao c s:=
 ⟨h.pool.kept (bL _ ⟨b,j,none⟩ _) (λe=>h1 (by injection e)) (λh0 e=>h2 h0 (by injection e)),h.nodes,h.cp⟩
abbrev wM:=λ(Ba tb:Nat) (m:Ol.Mc) (w':World)=>w'.cell? ⟨Ba,0,none⟩=some (.pointer (some ⟨tb,0,none⟩))/\w'.cell? ⟨Ba,1,none⟩=some (.int .u64 m.op)/\w'.cell? ⟨Ba,2,none⟩=some (.int .u8 m.nd)/\w'.cell? ⟨Ba,3,none⟩=some (.int .i64 m.nb)/\w'.cell? ⟨Ba,4,none⟩=some (.int .i64 m.pol)
theorem qe (Ba tb:Nat) (m:Ol.Mc) (Bd Be:Nat) (hv:Value) (cp pb db:Nat) (ao:Option Addr) (c:Nat) (ds:List Dv) (us:Nat->Bool) (vh:Value) (hs:List Hd) (w:World) (h:bh w Ba tb m Bd Be hv cp pb) (hp:ap w pb db ao c ds us) (hN:aT ds) (hH:aM w vh hs) (hop:m.op<18446744073709551616) (hok:i8 hs) (hl:hs.length<=100) :
  Calls Tryz.prog 52 #[.pointer (some ⟨Ba,0,none⟩),vh] w λe w'=>lI w w' e (Ol.left m ds hs)/\Below w.heap.size w w':=by
 have HBA:=qI ((Q0 w.heap.size w).alloc (lR) (.cells #[.int .u64 0,.pointer none] 98));have HZ:=qI (aG w (.cells #[.int .u64 0,.pointer none] 98) rfl);have HO:=qI (h.below HBA.out);have HP:=qI (hp.below HBA.out);have HH:=qI (hH.below HBA.out);have hsA:(w.alloc (.cells #[.int .u64 0,.pointer none] 98)).heap.size=w.heap.size+1:=by simp
 have hba:=h.lt;obtain ⟨ha,hc,rfl,_,_⟩:=hH;clear h hp
 go_enter Tryz.func52,Tryz.ntmps52
 go_wp2_with fail
 generalize w.alloc (.cells #[.int .u64 0,.pointer none] 98)=X at *;unfold bh at HO;have HSB:Hid (∀ W,Below X.heap.size X W->(wM Ba tb m) W):=λW hb=>⟨ad ((hb.block (Ba) (by omega)).trans HO.out) 0,ad ((hb.block (Ba) (by omega)).trans HO.out) 1,ad ((hb.block (Ba) (by omega)).trans HO.out) 2,ad ((hb.block (Ba) (by omega)).trans HO.out) 3,ad ((hb.block (Ba) (by omega)).trans HO.out) 4⟩
 have HBd:Hid (Below X.heap.size X X.drew):=bf (Q0 _ _);refine Qo (by kernel_rfl) (HSB.out _ HBd.out) (λhHeld=>?_);generalize X.drew=V at *;refine tk 0 ?_;refine tk 1 ?_;refine tk 2 ?_;refine tk 3 ?_;refine tk 4 ?_;refine tk 6 ?_;refine rd 5 (λK hK=>?_);go_simp
 go_wp2_with fail
 refine (wL Ba tb m Bd Be hv cp pb db ao c ds us V (bh.below (show bh X Ba tb m Bd Be hv cp pb from HO.out) HBd.out) (HP.out.below HBd.out) hN).mono ?_;rintro e W1 ⟨v1,rfl,hr1,hb1⟩;have HB1:=qI (HBd.out.trans (hb1.mono HBd.out.size));have HR1:=qI hr1;obtain ⟨a1,c1,g1,hv1,_⟩:=id hr1;subst hv1;clear hb1 hr1
 go_wp2
 refine hK.out _ _ (HSB.out _ HB1.out) (λhHeld=>?_);clear hK K;refine rd 7 (λK hK=>?_);go_simp
 go_wp2_with fail
 obtain ⟨dg2,hdat2⟩:=wJ HR1.out;refine (JR m tb dg2 0 _ _ ds hs W1 hdat2 (HH.out.below HB1.out) hop hok hl).mono ?_;rintro e W2 ⟨hlo2,hb2⟩;have HB2:=qI (HB1.out.trans (hb2.mono HB1.out.size));have hsz2:=HB1.out.size;obtain ⟨lcp,lp,lb,rfl,hlb,hls⟩:=hlo2.form;have HLB:=qI hlb;have HLS:Hid (∀ s,Ol.left m ds hs=some s->∃ pb db ao c,lcp=(s.cp:Int)/\lp=some ⟨pb,0,none⟩/\de W2 pb db ao c s/\w.heap.size<pb/\(0<s.ds.length->w.heap.size<db)):=λs hs=>by
  obtain ⟨pb,db,ao,c,q1,q2,q3,q4,q5⟩:=hls s hs;exact ⟨pb,db,ao,c,q1,q2,q3,by omega,λh0=>by have:=q5 h0;omega⟩
 clear hb2 hlo2 hdat2 hlb hls
 go_wp2
 refine hK.out _ _ (HSB.out _ HB2.out) (λhHeld=>?_);clear hK K;refine tk 8 ?_;refine tk 9 ?_;have hz3:=(HB2.out.block w.heap.size (by omega)).trans HZ.out;have c0_3:W2.cell? ⟨w.heap.size,0,none⟩=some (.int .u64 0):=ad hz3 0;have c1_3:W2.cell? ⟨w.heap.size,1,none⟩=some (.pointer none):=ad hz3 1;have f0_3:=aq hz3 0;have f1_3:=aq hz3 1;have HZZ:=qI (aj (aj hz3 0 (.int .u64 lcp)) 1 (.pointer lp));have HBW:=qI (((HBA.out.trans (HB2.out.mono (by omega))).setCell (p:=⟨w.heap.size,0,none⟩) (lR) (.int .u64 lcp)).setCell (p:=⟨w.heap.size,1,none⟩) (lR) (.pointer lp));have HS3:Hid ((wM Ba tb m) ((W2.setCell ⟨w.heap.size,0,none⟩ (.int .u64 lcp)).setCell ⟨w.heap.size,1,none⟩ (.pointer lp))):=⟨ad ((set_other (by omega)).trans ((set_other (by omega)).trans ((HB2.out.block (Ba) (by omega)).trans HO.out))) 0,ad ((set_other (by omega)).trans ((set_other (by omega)).trans ((HB2.out.block (Ba) (by omega)).trans HO.out))) 1,ad ((set_other (by omega)).trans ((set_other (by omega)).trans ((HB2.out.block (Ba) (by omega)).trans HO.out))) 2,ad ((set_other (by omega)).trans ((set_other (by omega)).trans ((HB2.out.block (Ba) (by omega)).trans HO.out))) 3,ad ((set_other (by omega)).trans ((set_other (by omega)).trans ((HB2.out.block (Ba) (by omega)).trans HO.out))) 4⟩;clear hz3;refine rd 10 (λK hK=>?_);go_simp
 go_wp2
 refine hK.out _ _ HS3.out (λhHeld=>?_);clear hK K;refine tk 11 ?_;refine Qn (by kernel_rfl) ?_ _;clear hHeld;have HOUT:Hid (lI w ((W2.setCell ⟨w.heap.size,0,none⟩ (.int .u64 lcp)).setCell ⟨w.heap.size,1,none⟩ (.pointer lp)) (.returned (.tuple #[.agg #[.int .u64 lcp,.pointer lp],.bool lb])) (Ol.left m ds hs)):=by
  unfold Hid;cases hl0:Ol.left m ds hs with
  | none=>rw [HLB.out,hl0];exact ⟨lcp,lp,rfl⟩
  | some s=>
   obtain ⟨pb,db,ao,c,rfl,rfl,q3,q4,q5⟩:=HLS.out s hl0;rw [HLB.out,hl0];exact ⟨pb,db,ao,c,rfl,m9 (m9 q3 (by omega) (λh0=>by have:=q5 h0;omega) _ _) (by omega) (λh0=>by have:=q5 h0;omega) _ _,by omega,λh0=>by have:=q5 h0;omega⟩
 go_wp2_with fail
 generalize ((W2.setCell ⟨w.heap.size,0,none⟩ (.int .u64 lcp)).setCell ⟨w.heap.size,1,none⟩ (.pointer lp))=WZ at *;(try simp only [Exit.inBlock,Exit.then]);refine bodyPost_ret (v:=.tuple #[.agg #[.int .u64 lcp,.pointer lp],.bool lb]) ?_ rfl ⟨HOUT.out,HBW.out⟩;have r0:WZ.cell? ⟨w.heap.size,0,none⟩=some (.int .u64 lcp):=ad HZZ.out 0;have r1:WZ.cell? ⟨w.heap.size,1,none⟩=some (.pointer lp):=ad HZZ.out 1;rw [gY rfl];go_simp
end
section
open RowKit Shelf
open Sv (Gv Hd gv hd gsF)
open Dvs (Dv dv aT)
attribute [local go_sem] Oper.semAt_some
theorem qg (Ba tb:Nat) (m:Ol.Mc) (Bd Be:Nat) (hv0:Value) (cp pb db:Nat) (ao:Option Addr) (c:Nat) (ds:List Dv) (us:Nat->Bool) (vh:Value) (hs:List Hd) (s:Ol.Sk) (w:World) (h:bh w Ba tb m Bd Be hv0 cp pb) (hsl:∃ a n c,hv0=.slice a n c) (hp:ap w pb db ao c ds us) (hpa:pb≠Ba) (hda:0<ds.length->db≠Ba) (hN:aT ds) (hH:aM (ag (λj=>j=Ba) w) vh hs) (hop:m.op<18446744073709551616) (hok:i8 hs) (hl:hs.length<=100) (hleft:Ol.left m ds hs=some s) :
  Calls Tryz.prog 58 #[.pointer (some ⟨Ba,0,none⟩),vh] w λe w'=>e=.returned (.tuple #[])/\(∃ pb' db' ao' c',bh w' Ba tb m Bd Be vh s.cp pb'/\de w' pb' db' ao' c' s/\w.heap.size<=pb'/\(0<s.ds.length->w.heap.size<=db'))/\Apart (λj=>j=Ba) w w':=by
 obtain ⟨oa,on,oc,rfl⟩:=hsl;have hba:=h.lt;unfold bh at h;have c7:w.cell? ⟨Ba,7,none⟩=some (.slice oa on oc):=ad h 7;have f7:=aq h 7;have HO1:Hid (bh (w.setCell ⟨Ba,7,none⟩ vh) Ba tb m Bd Be vh cp pb):=aj h 7 vh;have HA1:Hid (Apart (λj=>j=Ba) w (w.setCell ⟨Ba,7,none⟩ vh)):=Apart.setCell (K:=λj=>j=Ba) rfl _ _ _;have HP1:Hid (ap (w.setCell ⟨Ba,7,none⟩ vh) pb db ao c ds us):=hp.kept (bL _ ⟨Ba,7,none⟩ _) (λe=>hpa (by injection e)) (λh0 e=>hda h0 (by injection e));have HH1:Hid (aM (w.setCell ⟨Ba,7,none⟩ vh) vh hs):=hH.le ((kX HA1.out (λ_ _ h=>h)).trans (ci _ _));have hs1:(w.setCell ⟨Ba,7,none⟩ vh).heap.size=w.heap.size:=by simp
 have HLF:=qI (qe Ba tb m Bd Be vh cp pb db ao c ds us vh hs _ HO1.out HP1.out hN HH1.out hop hok hl);rw [hleft] at HLF;obtain ⟨ha,hc,rfl,_,_⟩:=id hH;clear h hp hH
 go_enter Tryz.func58,Tryz.ntmps58
 go_wp2_with fail
 generalize w.setCell ⟨Ba,7,none⟩ (.slice ha hs.length hc)=W1 at *;refine HLF.out.mono ?_;rintro e W2 ⟨⟨pb',db',ao',c',rfl,hsk,hpb,hdb⟩,hb2⟩;have HO2:=qI (HO1.out.below hb2);have ho2:=HO2.out;unfold bh at ho2;have d8:W2.cell? ⟨Ba,8,none⟩=some (.int .u64 (cp:Nat)):=ad ho2 8;have d9:W2.cell? ⟨Ba,9,none⟩=some (.pointer (some ⟨pb,0,none⟩)):=ad ho2 9;have f8:=aq ho2 8;have f9:=aq ho2 9;have HO3:Hid (bh ((W2.setCell ⟨Ba,8,none⟩ (.int .u64 (s.cp:Nat))).setCell ⟨Ba,9,none⟩ (.pointer (some ⟨pb',0,none⟩))) Ba tb m Bd Be (.slice ha hs.length hc) s.cp pb'):=aj (aj ho2 8 _) 9 _;have HSK:Hid (de ((W2.setCell ⟨Ba,8,none⟩ (.int .u64 (s.cp:Nat))).setCell ⟨Ba,9,none⟩ (.pointer (some ⟨pb',0,none⟩))) pb' db' ao' c' s):=m9 (m9 hsk (by omega) (λh0=>by have:=hdb h0;omega) _ _) (by omega) (λh0=>by have:=hdb h0;omega) _ _;have HA3:Hid (Apart (λj=>j=Ba) w ((W2.setCell ⟨Ba,8,none⟩ (.int .u64 (s.cp:Nat))).setCell ⟨Ba,9,none⟩ (.pointer (some ⟨pb',0,none⟩)))):=((HA1.out.trans (Apart.of_below hb2)).trans (Apart.setCell (K:=λj=>j=Ba) rfl _ _ _)).trans (Apart.setCell (K:=λj=>j=Ba) rfl _ _ _);have HPB:Hid (w.heap.size<=pb'/\(0<s.ds.length->w.heap.size<=db')):=⟨by omega,λh0=>by have:=hdb h0;omega⟩;clear hsk hpb hdb hb2 ho2;unfold sV
 go_wp2_with fail
 go_end0
 exact ⟨rfl,⟨pb',db',ao',c',HO3.out,HSK.out,HPB.out.1,HPB.out.2⟩,HA3.out⟩
def cz (base:Nat) (W:World) (Ba:Nat):Prop:=∀ pb,W.cell? ⟨Ba,9,none⟩=some (.pointer (some ⟨pb,0,none⟩))->base<=pb/\∀ db n c,0<n->W.cell? ⟨pb,0,none⟩=some (.slice (some ⟨db,0,none⟩) n c)->base<=db
def eM (w w':World) (Ba:Nat):Prop:=w'.heap[Ba]?=w.heap[Ba]?\/cz w.heap.size w' Ba
theorem cz.less {a b:Nat} {W:World} {Ba:Nat} (h:cz a W Ba) (hl:b<=a):cz b W Ba:=λpb e=>⟨Q5 hl (h pb e).1,λdb n c hn e2=>Q5 hl ((h pb e).2 db n c hn e2)⟩
theorem eM.old {w X W:World} {Ba:Nat} (h:eM X W Ba) (hb:Below w.heap.size w X) (hl:Ba<w.heap.size):eM w W Ba:=h.elim (λe=>.inl (e.trans (hb.block Ba hl))) (λe=>.inr (e.less hb.size))
theorem qh {base:Nat} {W:World} {Ba tb:Nat} {m:Ol.Mc} {Bd Be:Nat} {hv:Value} {cp pb db:Nat} {ao:Option Addr} {c:Nat} {s:Ol.Sk} (h:bh W Ba tb m Bd Be hv cp pb) (hs:de W pb db ao c s) (h1:base<=pb) (h2:0<s.ds.length->base<=db):cz base W Ba:=by
 intro pb1 e;have e9:W.cell? ⟨Ba,9,none⟩=some (.pointer (some ⟨pb,0,none⟩)):=ad h 9;rw [e9] at e;obtain rfl:pb=pb1:=by cases e;rfl
 refine ⟨h1,λdb1 n1 c1 hn e2=>?_⟩;rw [hs.pool.row] at e2;have e3:ao=some ⟨db1,0,none⟩/\s.ds.length=n1:=by cases e2;exact ⟨rfl,rfl⟩
 have h0:0<s.ds.length:=by omega
 have e4:=(hs.pool.at0 h0).1;rw [e3.1] at e4;obtain rfl:db1=db:=by cases e4;rfl
 exact h2 h0
theorem fP {A B:World} {b:Nat} (h:A.heap[b]?=B.heap[b]?) (o:Nat):A.cell? ⟨b,o,none⟩=B.cell? ⟨b,o,none⟩:=by simp [World.cell?,h]
end
section
open RowKit Shelf
open Qos (Nd Ct Pd nd ct pd ah)
open Sv (Gv Hd gv hd gsF)
attribute [local go_sem] Oper.semAt_some
def ar (x:Hd × Value × Value):List Value:=[.string x.1.pod.nm,.int .i64 x.1.pod.pr,x.2.1,x.2.2]
theorem qi (x:Hd) (a:Option Addr) (n c:Nat) (a2:Option Addr) (n2 c2:Nat):∀ u∈ar (x,.slice a n c,.slice a2 n2 c2),u.oneCell'=true:=by
 intro u hu
 simp [ar] at hu
 rcases hu with rfl|rfl|rfl|rfl <;> rfl
theorem wN (w:World) (x:Hd × Value × Value) (t:TypeId):∀ j u,(ar x)[j]?=some u->(w.alloc (.cells #[.string x.1.pod.nm,.int .i64 x.1.pod.pr,x.2.1,x.2.2] t)).cell? ((⟨w.heap.size,0,none⟩:Addr).add j)=some u:=by
 intro j u hu;rw [Addr.add_lit,Qd]
 match j,hu with
 | 0,hu=>simp [ar] at hu;subst hu;simp
 | 1,hu=>simp [ar] at hu;subst hu;simp
 | 2,hu=>simp [ar] at hu;subst hu;simp
 | 3,hu=>simp [ar] at hu;subst hu;simp
 | n+4,hu=>simp [ar] at hu
theorem wO:(Tryz.prog.info? 57).map (λi=>(i.zero,i.size,i.bytes))=some (some (.agg #[.string ByteArray.empty,.int .i64 0,.slice none 0 0,.slice none 0 0]),4,72):=by kernel_rfl
structure qj (W:World) (v:Value) (l:List (Hd × Value × Value)) (N:Nat) (M:Nat->Prop):Prop where
 row:W.ownsRow N 57 4 v l.length (l.flatMap ar)
 in_:∀ x∈l,aE (ag (λj=>M j\/v.ownBlock=some j) W) x.2.1 x.1.pod.cs/\bl (ag (λj=>M j\/v.ownBlock=some j) W) x.2.2 x.1.gs
theorem JS {W:World} {v:Value} {l:List (Hd × Value × Value)} {N:Nat} {M:Nat->Prop} (h:qj W v l N M) (hN:∀ j,M j->j<N):aM (ag M W) v (l.map Prod.fst):=by
 have h':=h.row
 rcases h.row.2 with ⟨hv,h0⟩|⟨g,cap,cur,hv,hg,hgc,hc1,hc2,_⟩
 ·have:l=[]:=Qe h0
  subst this;rw [hv];exact ⟨none,0,rfl,⟨lR,Nat.zero_le _⟩,λh=>absurd h (Nat.lt_irrefl 0)⟩
 ·subst hv;have key:∀ (l:List (Hd × Value × Value)) (k:Nat) (hk:k<l.length) (j:Nat),j<4->(l.flatMap ar)[k*4+j]?=(ar l[k])[j]?:=by
   intro l
   induction l with
   | nil=>intro k hk;simp at hk
   | cons a l ih=>
    intro k hk j hj;rw [List.flatMap_cons];cases k with
    | zero=>rw [List.getElem?_append_left (by simp [ar];omega)];simp
    | succ k=>
     rw [List.getElem?_append_right (by simp [ar];omega)]
     have:=ih k (by simpa using hk) j hj
     simp only [List.getElem_cons_succ];rw [<- this]
     congr 1
     simp [ar]
     omega
  refine ⟨_,cap,by rw [Q9],by rw [Q9];exact ⟨hc1,hc2⟩,λ_=>⟨g,0,λk=>(l.getD k (Sv.hd [] 0,.nilIface,.nilIface)).2.1,λk=>(l.getD k (Sv.hd [] 0,.nilIface,.nilIface)).2.2,rfl,by rw [bw];exact (gS hgc).1,λk hk=>?_⟩⟩;rw [Q9] at hk;have e:hd (l.map Prod.fst) k=l[k].1:=by simp [hd,hk]
  have e2:l.getD k (Sv.hd [] 0,.nilIface,.nilIface)=l[k]:=by simp [hk]
  obtain ⟨q1,q2⟩:=h.in_ _ (List.getElem_mem hk);dsimp only;rw [e,e2];have hl:aB (ag (λj=>M j\/(Value.slice (some ⟨g,0,none⟩) l.length cap).ownBlock=some j) W) (ag M W):=bg (λj _ hn=>⟨λhj=>hn (.inl hj),rfl⟩) (lR);have cc:∀ j,j<4->(ag M W).cell? ⟨g,0+k*4+j,none⟩=(ar l[k])[j]?:=λj hj=>by
   rw [World.cell?_of_block (a:=⟨g,0+k*4+j,none⟩) (bH (λhm=>by have:=hN g hm;omega)),Qd,h'.cellAt (k*4+j) (by omega)];exact key l k hk j hj
  exact ⟨⟨cc 0 (by decide),cc 1 (by decide),cc 2 (by decide),cc 3 (by decide)⟩,q1.le hl,q2.le hl⟩
abbrev wQ:=λ(Bh:Nat) (x:Sv.Hd) (ca:Option Addr) (cc:Nat) (ga:Option Addr) (gc:Nat) (w':World)=>w'.cell? ⟨Bh,0,none⟩=some (.string x.pod.nm)/\w'.cell? ⟨Bh,1,none⟩=some (.int .i64 x.pod.pr)/\w'.cell? ⟨Bh,2,none⟩=some (.slice ca x.pod.cs.length cc)/\w'.cell? ⟨Bh,3,none⟩=some (.slice ga x.gs.length gc)
theorem JT (Ba tb:Nat) (m:Ol.Mc) (Bd Be:Nat) (hv:Value) (cp pb:Nat) (hs:List Hd) (w:World) (h:bh w Ba tb m Bd Be hv cp pb) (hH:aM w hv hs) (hok:i8 hs) (hl:hs.length<=100) :
  Calls Tryz.prog 15 #[.pointer (some ⟨Ba,0,none⟩)] w λe w'=>∃ a c,e=.returned (.slice a hs.length c)/\aM (fresh w.heap.size w') (.slice a hs.length c) hs/\Below w.heap.size w w':=by
 obtain ⟨i0,hi,hz0,hz1,hz2⟩:=info_parts wO;have HOK:=qI hok;obtain ⟨ha,hc,rfl,hm,hr⟩:=hH;have HR:=qI hr;unfold bh at h;have c7:w.cell? ⟨Ba,7,none⟩=some (.slice ha hs.length hc):=ad h 7;clear hok hr hm h
 go_enter Tryz.func15,Tryz.ntmps15
 go_wp2_with fail
 clear c7
 go_loopw [3,11] (λpv i wr=>∃ (k:Nat) (l:List (Hd × Value × Value)),k<=hs.length/\i=.int .i64 k/\l.length=k/\l.map Prod.fst=hs.take k/\qj wr pv l w.heap.size (λj=>j<w.heap.size)/\Below w.heap.size w wr) (λ_ i _=>hs.length - (intOf i).toNat)
 case atStart=>exact ⟨0,[],by omega,rfl,rfl,rfl,⟨Qw _ _ _ _,λx hx=>(List.not_mem_nil hx).elim⟩,Q0 _ _⟩
 case round=>
  obtain ⟨k,l,hk,rfl,hlk,hlm,hrow,hb⟩:=hrel;have HLK:=qI hlk;have HLM:=qI hlm;have HROW:=qI hrow;have HB:=qI hb;have hsr:=hb.size;have hln:l.length<=100:=by omega
  obtain ⟨va,vc,hvv⟩:=gO hrow.row;subst hvv;clear hlk hlm hrow
  by_cases hlt:k<hs.length
  ·obtain ⟨hbk,ho,cv,gvv,rfl,hin⟩:=HR.out (by omega);have hle:=aB.of_below hb;obtain ⟨x0,x1,x2,x3⟩:=(hin.2 k hlt).1;have x0:=hle.cell _ _ _ x0;have x1:=hle.cell _ _ _ x1;have x2:=hle.cell _ _ _ x2;have x3:=hle.cell _ _ _ x3;have hcon:=((hin.2 k hlt).2.1).le hle;have hgiv:=((hin.2 k hlt).2.2).le hle;obtain ⟨hpF,hgl,hgF⟩:=HOK.out (hd hs k) (by simp [hd,hlt]);have HTK:Hid (hs.take (k+1)=hs.take k++[hd hs k]):=by unfold Hid;rw [Qa hlt];simp [hd,hlt]
   obtain ⟨ca,cc,hcv,hcm,hcr⟩:=id hcon;obtain ⟨ga,gc,hgv,hgm,hgr⟩:=id hgiv;rw [hcv] at x2 hcon;rw [hgv] at x3 hgiv;have HCON:=qI hcon;have HGIV:=qI hgiv;have HP:=qI (Sv.fm hpF);have HGF:=qI hgF;have hx3:=HP.out.2.2.1;have hgl3:(hd hs k).gs.length<=3:=by omega
   clear hin hcon hgiv hcv hgv hcr hgr hle hcm hgm hpF hgF hgl;generalize hd hs k=x at *;have HBA:=qI ((Q0 wr.heap.size wr).alloc (lR) (.cells #[.string x.pod.nm,.int .i64 x.pod.pr,.slice ca x.pod.cs.length cc,.slice ga x.gs.length gc] 57));have HXA:=qI (aG wr (.cells #[.string x.pod.nm,.int .i64 x.pod.pr,.slice ca x.pod.cs.length cc,.slice ga x.gs.length gc] 57) rfl);have hsA:(wr.alloc (.cells #[.string x.pod.nm,.int .i64 x.pod.pr,.slice ca x.pod.cs.length cc,.slice ga x.gs.length gc] 57)).heap.size=wr.heap.size+1:=by simp
   clear hb
   go_wp2_with fail
   generalize wr.alloc (.cells #[.string x.pod.nm,.int .i64 x.pod.pr,.slice ca x.pod.cs.length cc,.slice ga x.gs.length gc] 57)=X at *;generalize hBh:wr.heap.size=Bh at *;clear x0 x1 x2 x3;have HSB:Hid (∀ W,Below X.heap.size X W->(wQ Bh x ca cc ga gc) W):=λW hb=>⟨ad ((hb.block (Bh) (by omega)).trans HXA.out) 0,ad ((hb.block (Bh) (by omega)).trans HXA.out) 1,ad ((hb.block (Bh) (by omega)).trans HXA.out) 2,ad ((hb.block (Bh) (by omega)).trans HXA.out) 3⟩
   have HBd:Hid (Below X.heap.size X X.drew):=bf (Q0 _ _);refine Qo (by kernel_rfl) (HSB.out _ HBd.out) (λhHeld=>?_);generalize X.drew=V at *;refine tk 0 ?_;refine tk 1 ?_;refine tk 2 ?_;refine tk 4 ?_;refine tk 5 ?_;refine rd 3 (λK hK=>?_);go_simp
   go_wp2_with fail
   refine (vy x.pod.nm x.pod.pr x.pod.cs _ V (HCON.out.below ((show Below wr.heap.size wr X by rw [hBh];exact HBA.out).trans (HBd.out.mono (by omega)))) (by omega) (λq hq=>by have:=(HP.out.2.2.2 (ct x.pod.cs q) (Ost.dO _ _ _ hq)).2.2.2.2.2.1;omega)).mono ?_;rintro e W1 ⟨pa,pcc,rfl,hc1,hb1⟩;have HB1:=qI (HBd.out.trans (hb1.mono HBd.out.size));have HC1:=qI (hc1.le (j5 (λ_ _ _=>rfl) (lR) HBd.out.size));clear hb1 hc1
   go_wp2
   refine hK.out _ _ (HSB.out _ HB1.out) (λhHeld=>?_);clear hK K;refine rd 6 (λK hK=>?_);go_simp
   go_wp2_with fail
   refine (EO (.slice ga x.gs.length gc) x.gs W1 (HGIV.out.below ((show Below wr.heap.size wr X by rw [hBh];exact HBA.out).trans (HB1.out.mono (by omega)))) (by omega) (λq hq=>by have:=Ol.pD (Dvs.cO HGF.out q hq);omega)).mono ?_;rintro e W2 ⟨qa,qc,rfl,hg2,hb2⟩;have HB2:=qI (HB1.out.trans (hb2.mono HB1.out.size));have HC2:=qI (HC1.out.le (tX hb2 (lR)));have HG2:=qI (hg2.le (j5 (λ_ _ _=>rfl) (lR) HB1.out.size));have hs2:=HB2.out.size;clear hb2 hg2
   go_wp2
   refine hK.out _ _ (HSB.out _ HB2.out) (λhHeld=>?_);clear hK K;refine tk 7 ?_;have HB3:=qI (HB2.out.alloc HB2.out.size (.cells #[.string x.pod.nm,.int .i64 x.pod.pr,.slice pa x.pod.cs.length pcc,.slice qa x.gs.length qc] 57));have HN3:=qI (wN W2 (x,.slice pa x.pod.cs.length pcc,.slice qa x.gs.length qc) 57);dsimp only at HN3;have hs3:(W2.alloc (.cells #[.string x.pod.nm,.int .i64 x.pod.pr,.slice pa x.pod.cs.length pcc,.slice qa x.gs.length qc] 57)).heap.size=W2.heap.size+1:=by simp
   have hlo:∀ b,(Value.slice va l.length vc).ownBlock=some b->w.heap.size<=b/\b<Bh:=λb hb=>by rw [<- hBh];exact HROW.out.row.lt b hb
   have HR3:Hid ((W2.alloc (.cells #[.string x.pod.nm,.int .i64 x.pod.pr,.slice pa x.pod.cs.length pcc,.slice qa x.gs.length qc] 57)).ownsRow w.heap.size 57 4 (.slice va l.length vc) l.length (l.flatMap ar)):=lG HROW.out.row (λg hg=>(HB3.out.block g (by have:=(hlo g hg).2;omega)).trans (HBA.out.block g (hlo g hg).2));refine rd 8 (λK hK=>?_);go_simp
   go_wp2
   refine hK.out _ _ (HSB.out _ HB3.out) (λhHeld=>?_);clear hK K;refine rd 9 (λK hK=>?_);rw [if_pos (by rfl)]
   refine wp_append_lies (o := { dst := some 24, op := Op.call { callee := Callee.builtin Builtin.append, args := #[Operand.tmp 15, Operand.tmp 23], argTypes := #[53, 53] }, type := 53, pos := "ostler.go:50", after := #[{ on := 0, ground := Ground.data }, { on := 8, ground := Ground.data }, { on := 6, ground := Ground.chain }], guard := none }) _ _ _ 53 rfl w.heap.size 57 i0 (.agg #[.string ByteArray.empty, .int .i64 0, .slice none 0 0, .slice none 0 0]) 4 72 Tryz.underlying53 hi hz0 hz1 hz2 rfl (by decide) (.slice va l.length vc) _ _ rfl HR3.out ⟨_, 0, none⟩ 1 1 (ar (x, .slice pa x.pod.cs.length pcc, .slice qa x.gs.length qc)) rfl rfl HN3.out (qi _ _ _ _ _ _ _) (by decide) (by unfold maxLen; omega) (by omega) (by omega) (W2.heap.size + 1) (by simp) ?_
   intro g' cap' W4 hown' hgrow' hgg hglt;have hs4:=hgrow'.size;have hS4:(wQ Bh x ca cc ga gc) W4:=by
    obtain ⟨q0,q1,q2,q3⟩:=HSB.out _ HB3.out;have hne:some Bh≠(Value.slice va l.length vc).ownBlock:=λe=>by have:=(hlo Bh e.symm).2;omega
    exact ⟨(hgrow'.cell_far ⟨Bh,0,none⟩ (by show Bh<_;omega) hne).trans q0,(hgrow'.cell_far ⟨Bh,1,none⟩ (by show Bh<_;omega) hne).trans q1,(hgrow'.cell_far ⟨Bh,2,none⟩ (by show Bh<_;omega) hne).trans q2,(hgrow'.cell_far ⟨Bh,3,none⟩ (by show Bh<_;omega) hne).trans q3⟩
   have HMK:Hid (∀ j,j<W2.heap.size->(Value.slice va l.length vc).ownBlock≠some j->W4.heap[j]?=W2.heap[j]?):=λj hj hno=>(hgrow'.block j (by omega) (λe=>hno e.symm)).trans (Below.heap_alloc _ _ _ hj)
   have HB4:Hid (Below w.heap.size w W4):=((HB.out.trans ((show Below wr.heap.size wr X by rw [hBh];exact HBA.out).mono (by omega))).trans (HB3.out.mono (by omega))).grown hgrow' (by omega) (λj hj=>(hlo j hj).1);have HROW4:Hid (qj W4 (.slice (some ⟨g',0,none⟩) (l.length+1) cap') (l++[(x,Value.slice pa x.pod.cs.length pcc,Value.slice qa x.gs.length qc)]) w.heap.size (λj=>j<w.heap.size)):=by
    refine ⟨?_,λz hz=>?_⟩
    ·rw [Q2,List.flatMap_append]
     simpa using hown'
    ·rcases Qi.1 hz with hz|hz
     ·obtain ⟨z1,z2⟩:=HROW.out.in_ z hz;have hle:aB (ag (λj=>j<w.heap.size\/(Value.slice va l.length vc).ownBlock=some j) wr) (ag (λj=>j<w.heap.size\/(Value.slice (some ⟨g',0,none⟩) (l.length+1) cap').ownBlock=some j) W4):=bg (λj hj hn=>by
       have hn1:¬ j<w.heap.size:=λh=>hn (.inl h)
       have hn2:(Value.slice va l.length vc).ownBlock≠some j:=λh=>hn (.inr h)
       refine ⟨λh=>?_,(HMK.out j (by omega) hn2).trans ((HB2.out.block j (by omega)).trans (HBA.out.block j (by rw [<- hBh];exact hj)))⟩
       rcases h with h|h
       ·exact hn1 h
       ·have h:some g'=some j:=h;injection h with h
        rcases hgg with hg'|hg'
        ·exact hn2 (by rw [hg',h])
        ·omega) (by omega)
      exact ⟨z1.le hle,z2.le hle⟩
     ·rw [Qm.1 hz];have hle:aB (fresh X.heap.size W2) (ag (λj=>j<w.heap.size\/(Value.slice (some ⟨g',0,none⟩) (l.length+1) cap').ownBlock=some j) W4):=bg (λj hj hn=>by
       have hn:¬ j<X.heap.size:=hn;refine ⟨λh=>?_,HMK.out j hj (λh=>by have:=(hlo j h).2;omega)⟩
       rcases h with h|h
       ·omega
       ·have h:some g'=some j:=h;injection h with h
        rcases hgg with hg'|hg'
        ·have:=(hlo g' hg').2;omega
        ·omega) (by omega)
      exact ⟨HC2.out.le hle,HG2.out.le hle⟩
   refine hK.out _ _ hS4 (λhHeld=>?_);clear hK K;(try simp only [Act.put,s1,s2,s3]);refine tk 10 ?_;refine Qn (by kernel_rfl) ?_ _;clear hHeld hown' hgrow' hgg hS4
   go_wp2
   go_roundw
   case rel=>exact ⟨k+1,l++[(x,Value.slice pa x.pod.cs.length pcc,Value.slice qa x.gs.length qc)],by omega,by go_num,by rw [Q2,HLK.out];rfl,by rw [Qj,HLM.out,HTK.out];rfl,HROW4.out,HB4.out⟩
   case measure=>simp [intOf];omega
  ·have hke:k=hs.length:=by omega
   have hlh:l.length=hs.length:=by rw [HLK.out,hke]
   have HFIN:Hid (aM (fresh w.heap.size wr) (.slice va hs.length vc) hs):=by
    unfold Hid;have h1:=JS HROW.out (λj h=>h);rw [HLM.out,hke,Qh,hlh] at h1;exact h1
   have HLH:=qI hlh;clear hke hlh
   go_wp2
   go_ret;exact ⟨va,vc,by rw [<- HLH.out];rfl,HFIN.out,HB.out⟩
end
section
open RowKit Shelf
attribute [local go_sem] Oper.semAt_some
theorem JU (base:Nat) (v:Value) (n:Nat) (xs ys:List Value) (a:Addr) (c:Nat) (w:World) (hr:w.ownsRow base 57 4 v n xs) (hy:∀ j u,ys[j]?=some u->w.cell? (a.add j)=some u) (hyl:ys.length=4) (hy1:∀ u∈ys,u.oneCell'=true) (hn:n<=100) (hb:base<=w.heap.size) :
  Calls Tryz.prog 54 #[v,.int .i64 n,.slice (some a) 1 c] w λe w'=>∃ v',e=.returned v'/\w'.ownsRow base 57 4 v' (n+1) (xs++ys)/\w.grownBy w' v.ownBlock:=by
 obtain ⟨i0,hi,hz0,hz1,hz2⟩:=info_parts wO;have HR:=qI hr;have HY:=qI hy;have HY1:=qI hy1;have HYL:Hid (ys.length=1*4):=hyl;have hsl:∃ g cap,v=.slice g n cap/\(n<=cap/\cap<=maxLen)/\(g=none->n=0):=by
  rcases hr.2 with ⟨h1,h2⟩|⟨g,cap,cur,h1,h2,h3,h4,h5,h6⟩
  ·exact ⟨none,0,by rw [h1,h2],by rw [h2];exact ⟨lR,Nat.zero_le _⟩,λ_=>h2⟩
  ·exact ⟨_,cap,h1,⟨h4,h5⟩,λh=>by cases h⟩
 obtain ⟨g,cap,rfl,hcap,hg0⟩:=hsl;clear hr hy hy1 hyl;have hcm:cap<=9223372036854775807:=by have:=hcap.2;unfold maxLen at this;omega
 have hnc:=hcap.1;have HG0:=qI hg0;clear hcap hg0
 go_enter Tryz.func54,Tryz.ntmps54
 go_wp2_with (at_builtin;(refine wpList_append_own _ rfl _ _ 53 rfl base 57 i0 (.agg #[.string ByteArray.empty,.int .i64 0,.slice none 0 0,.slice none 0 0]) 4 72 Tryz.underlying53 hi hz0 hz1 hz2 rfl (by decide) _ _ _ rfl HR.out a 1 c ys rfl HYL.out HY.out HY1.out (by unfold maxLen;omega) (by omega) (by omega) ?_;intro v' w1 hown' hgrow' _))
 ·rename_i h
  have hg:w.grownBy w1 (Value.slice g n cap).ownBlock:=hgrow';rw [h] at hg;clear hgrow';go_ret;exact ⟨v',rfl,hown',hg⟩
 ·have hg:w.grownBy w1 (Value.slice g n cap).ownBlock:=hgrow';clear hgrow';go_ret;exact ⟨v',rfl,hown',hg⟩
end
section
open RowKit Shelf
open Qos (Nd Ct Pd nd ct pd ah aU aV bT)
open Sv (Gv Hd gv hd gsF)
open Dvs (Dv dv aT)
attribute [local go_sem] Oper.semAt_some
theorem JV (B:Nat) (n k:Sd) (v:Value) (l:Int) (d:Bool) (w:World) (h:aA w B n k v l d):Calls Tryz.prog 63 #[.pointer (some ⟨B,0,none⟩)] w λe w'=>e=.returned (.bool d)/\w'=w:=by
 unfold aA at h;have c10:w.cell? ⟨B,10,none⟩=some (.bool d):=ad h 10;clear h
 go_enter Tryz.func63,Tryz.ntmps63
 go_wp2
 go_ret;exact ⟨rfl,rfl⟩
theorem JW (B:Nat) (n k:Sd) (l:Int) (d:Bool) (w:World) (h:aA w B n k (.slice none 0 0) l d):Calls Tryz.prog 114 #[.pointer (some ⟨B,0,none⟩)] w λe w'=>e=.returned (.bool false)/\w'=w:=by
 unfold aA at h;have c8:w.cell? ⟨B,8,none⟩=some (.slice none 0 0):=ad h 8;clear h
 go_enter Tryz.func114,Tryz.ntmps114
 go_wp2
 go_ret;exact ⟨rfl,rfl⟩
theorem nh {W:World} {base:Nat} {v:Value} {ps:List Pd} (h:tI W base v ps):eu W v ps:=by
 obtain ⟨l,rfl,hrow,hin⟩:=h;have h':=hrow
 rcases hrow.2 with ⟨hv,h0⟩|⟨g,cap,cur,hv,hg,hgc,hc1,hc2,_⟩
 ·have:l=[]:=Qe h0
  subst this;rw [hv];exact ⟨none,0,rfl,by unfold maxLen;simp,λh=>absurd h (Nat.lt_irrefl 0)⟩
 ·subst hv;have key:∀ (l:List (Pd × Value)) (k:Nat) (hk:k<l.length) (j:Nat),j<3->(rowP l)[k*3+j]?=(dy l[k])[j]?:=by
   intro l
   induction l with
   | nil=>intro k hk;simp at hk
   | cons a l ih=>
    intro k hk j hj;unfold rowP;rw [List.flatMap_cons];cases k with
    | zero=>rw [List.getElem?_append_left (by simp [dy];omega)];simp
    | succ k=>
     rw [List.getElem?_append_right (by simp [dy];omega)]
     have:=ih k (by simpa using hk) j hj
     simp only [List.getElem_cons_succ];rw [<- this];unfold rowP
     congr 1
     simp [dy]
     omega
  refine ⟨_,cap,by rw [Q9],by rw [Q9];exact Q5 hc1 hc2,λ_=>⟨g,0,λk=>(l.getD k (Qos.pd [] 0,.nilIface)).2,rfl,(gS hgc).1,λk hk=>?_⟩⟩;rw [Q9] at hk;have e:pd (l.map Prod.fst) k=l[k].1:=by simp [pd,hk]
  have e2:l.getD k (Qos.pd [] 0,.nilIface)=l[k]:=by simp [hk]
  dsimp only;rw [e,e2];have cc:∀ j,j<3->W.cell? ⟨g,0+k*3+j,none⟩=(dy l[k])[j]?:=λj hj=>by
   rw [Qd,h'.cellAt (k*3+j) (by omega)];exact key l k hk j hj
  exact ⟨⟨cc 0 (by decide),cc 1 (by decide),cc 2 (by decide)⟩,hin _ (List.getElem_mem hk)⟩
theorem wR {ps:List Pd} (h:∀ p∈ps,bT p.cs) (hl:ps.length<=100):∀ k,k<=ps.length->(0<=Ol.bN (ps.take k)/\Ol.bN (ps.take k)<=1000000000000000000)/\0<=Ol.cT (ps.take k)/\Ol.cT (ps.take k)<=1000000000000000000:=by
 have key:∀ k,k<=ps.length->(0<=Ol.bN (ps.take k)/\Ol.bN (ps.take k)<=3000000*(k:Int))/\0<=Ol.cT (ps.take k)/\Ol.cT (ps.take k)<=3377699720527872*(k:Int):=by
  intro k
  induction k with
  | zero=>intro _;simp [Ol.bN,Ol.cT]
  | succ k ih=>
   intro hk;have h1:=ih (by omega);have hm:=h (pd ps k) (by simp [pd,show k<ps.length by omega]);have h2:=Qos.mw hm (lR);have h3:=Qos.kM hm (lR);rw [ut (by omega),uu (by omega)]
   push_cast
   omega
 intro k hk
 have:=key k hk
 have hk2:(k:Int)<=100:=by omega
 omega
abbrev JX:=λ(Ba tb:Nat) (m:Ol.Mc) (w':World)=>w'.cell? ⟨Ba,0,none⟩=some (.pointer (some ⟨tb,0,none⟩))/\w'.cell? ⟨Ba,1,none⟩=some (.int .u64 m.op)/\w'.cell? ⟨Ba,2,none⟩=some (.int .u8 m.nd)/\w'.cell? ⟨Ba,3,none⟩=some (.int .i64 m.nb)/\w'.cell? ⟨Ba,4,none⟩=some (.int .i64 m.pol)
theorem JY (Ba tb:Nat) (m:Ol.Mc) (Bd Be:Nat) (hv:Value) (cp pb db:Nat) (ao:Option Addr) (c:Nat) (ds:List Dv) (us:Nat->Bool) (vh:Value) (hs:List Hd) (w:World) (h:bh w Ba tb m Bd Be hv cp pb) (hp:ap w pb db ao c ds us) (hN:aT ds) (hH:aM w vh hs) (hop:m.op<18446744073709551616) (hok:i8 hs) (hl:hs.length<=100) :
  Calls Tryz.prog 116 #[.pointer (some ⟨Ba,0,none⟩),vh] w λe w'=>e=.returned (.bool ((Ol.left m ds hs).isSome && Ol.room m (hs.map Hd.pod)))/\Below w.heap.size w w':=by
 have HLF:=qI (qe Ba tb m Bd Be hv cp pb db ao c ds us vh hs w h hp hN hH hop hok hl);have HO:=qI h;have HH:=qI hH;have hba:=h.lt;have HMI:Hid (∀ p∈hs.map Hd.pod,bT p.cs):=λp hp=>by
  obtain ⟨x,hx,rfl⟩:=Qk.1 hp;exact Qos.kL (hok x hx).1
 have HSUM:=qI (wR HMI.out (by rw [Q9];exact hl));obtain ⟨ha,hc,rfl,_,_⟩:=hH;clear h hp
 go_enter Tryz.func116,Tryz.ntmps116
 go_wp2_with fail
 refine HLF.out.mono ?_;rintro e W1 ⟨hlo,hb1⟩;obtain ⟨lcp,lp,lb,rfl,hlb,_⟩:=hlo.form;have HLB:=qI hlb;have HB1:=qI (hb1.alloc hb1.size (.cells #[.int .u64 lcp,.pointer lp] 98));have hs1:=HB1.out.size;clear hlo hlb hb1 HLF
 go_upto_region 2 with fail
 generalize W1.alloc (.cells #[.int .u64 lcp,.pointer lp] 98)=X at *;have HOX:=qI (HO.out.below HB1.out);have hox:=HOX.out;unfold bh at hox;have HSB:Hid (∀ W,Below X.heap.size X W->(JX Ba tb m) W):=λW hb=>⟨ad ((hb.block (Ba) (by omega)).trans HOX.out) 0,ad ((hb.block (Ba) (by omega)).trans HOX.out) 1,ad ((hb.block (Ba) (by omega)).trans HOX.out) 2,ad ((hb.block (Ba) (by omega)).trans HOX.out) 3,ad ((hb.block (Ba) (by omega)).trans HOX.out) 4⟩
 clear hox;have HBd:Hid (Below X.heap.size X X.drew):=bf (Q0 _ _)
 rcases two lb with hb|hb
 ·subst hb;refine Qo (by kernel_rfl) (HSB.out _ HBd.out) (λhHeld=>?_);generalize X.drew=V at *;refine tk 0 ?_;refine tk 1 ?_;refine tk 2 ?_;refine tk 3 ?_;refine tk 4 ?_;refine tk 5 ?_;refine tk 6 ?_;refine rd 7 (λK hK=>?_);go_simp
  go_wp2_with fail
  refine (tJ (.slice ha hs.length hc) hs V (HH.out.le ((aB.of_below HB1.out).trans (aB.of_below HBd.out))) hl).mono ?_;rintro e W2 ⟨v2,rfl,hpr,hb2⟩;have HB2:=qI (HBd.out.trans (hb2.mono HBd.out.size));have HPR:=qI hpr;clear hb2 hpr
  go_wp2
  refine hK.out _ _ (HSB.out _ HB2.out) (λhHeld=>?_);clear hK K;refine rd 8 (λK hK=>?_);go_simp
  go_wp2_with fail
  refine (pC (.pointer (some ⟨tb,0,none⟩)) m.op m.nd m.nb m.pol v2 (hs.map Hd.pod) W2 (nh HPR.out) (by rw [Q9];exact hl) HMI.out hop HSUM.out).mono ?_;rintro e W3 ⟨rfl,hb3⟩;have HB3:=qI (HB2.out.trans (hb3.mono HB2.out.size));clear hb3
  go_wp2
  refine hK.out _ _ (HSB.out _ HB3.out) (λhHeld=>?_);clear hK K;refine tk 9 ?_;refine tk 10 ?_;refine Qn (by kernel_rfl) ?_ _;clear hHeld
  go_wp2
  go_ret;exact ⟨by rw [<- HLB.out];rfl,HB1.out.trans (HB3.out.mono hs1)⟩
 ·subst hb;refine Qo (by kernel_rfl) (HSB.out _ HBd.out) (λhHeld=>?_);generalize X.drew=V at *;refine tk 0 ?_;refine tk 1 ?_;refine ts 2 ?_;refine ts 3 ?_;refine ts 4 ?_;refine ts 5 ?_;refine ts 6 ?_;refine ts 7 ?_;refine ts 8 ?_;refine tk 9 ?_;refine tk 10 ?_;refine Qn (by kernel_rfl) ?_ _;clear hHeld
  go_wp2
  go_ret;exact ⟨by rw [<- HLB.out];rfl,HB1.out.trans (HBd.out.mono hs1)⟩
end
