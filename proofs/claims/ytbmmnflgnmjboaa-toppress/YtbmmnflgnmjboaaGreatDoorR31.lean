import Derived.Test.YtbmmnflgnmjboaaGreatDoorR29
import Derived.Test.YtbmmnflgnmjboaaGreatDoorR30
set_option maxRecDepth 100000
set_option maxHeartbeats 16000000
open Go.Proofs.Tryz
namespace Go.Proofs.YtbmmnflgnmjboaaGreatDoor
section
open RowKit Shelf
open Qos (Nd Ct Pd nd ct pd af)
open Sv (Gv Hd gv hd gsF)
open Dvs (Dv dv aW)
open S1 (Mx Tab)
attribute [local go_sem] Oper.semAt_some
theorem ni (W:World) (a:Option Addr) (c:Nat) (hc:c<=maxLen):aJ W (.slice a 0 c) []:=⟨a,c,rfl,⟨Nat.zero_le _,hc⟩,λh=>absurd h (Nat.lt_irrefl 0)⟩
abbrev three (Ba Bd Bm:Nat):Nat->Prop:=λj=>j=Ba\/j=Bd\/j=Bm
theorem sH {Ba Bd Bm:Nat} {W W':World} (h:bd Bd Bm W W'):Apart (three Ba Bd Bm) W W':=⟨h.os,h.tape,h.output,h.size,λj hj hn=>h.block j hj (λe=>hn (.inr (.inl e))) (λe=>hn (.inr (.inr e)))⟩
theorem pi {W W':World} {Ba Be Bd Bm n:Nat} {sn sk:Sd} {C:Rn->Prop} (h:bw W Be Bd Bm n sn sk C) (ha:Apart (λj=>j=Ba) W W') (hn:Ba≠Bd/\Ba≠Bm/\Ba≠Be) (hi:∀ (arr:Array Value) (z:Nat × Nat),W.heap[Ba]?≠some (Obj.cells arr 3 z)):bw W' Be Bd Bm n sn sk C:=by
 obtain ⟨h1,h2,xs,h3,h4,h5⟩:=h;have hk:cE W W':=⟨ha.size,λk arr z hk=>ha.block k (gS hk).1 λe=>hi arr z (by rw [<- e];exact hk)⟩;obtain ⟨k1,k2⟩:=lA h4 hk;exact ⟨h1.block (ha.block Be h1.lt λe=>hn.2.2 e.symm),(ha.block Bd h2.lt λe=>hn.1 e.symm).trans h2,xs,h3.block (ha.block Bm h3.lt λe=>hn.2.1 e.symm),k1,λa=>by rw [k2];exact h5 a⟩
theorem bg.notInt {W:World} {Ba tb:Nat} {m:Ol.Mc} {Bd Be:Nat} {hv:Value} {cp pb:Nat} (h:bg W Ba tb m Bd Be hv cp pb):∀ (arr:Array Value) (z:Nat × Nat),W.heap[Ba]?≠some (Obj.cells arr 3 z):=λarr z e=>by
 rw [show W.heap[Ba]?=_ from h] at e;cases e
theorem LQ (B:Nat) (s:Dk) (w:World) (h:bf w B s) (hd:s.d=false) (hf:s.n.ft=false):Calls prog 115 #[.pointer (some ⟨B,0,none⟩)] w λe w'=>∃ v,e=.returned (.tuple #[v,au ((0:Nat):Int)])/\aJ w' v []/\Below w.heap.size w w':=by
 obtain ⟨_,v,h1,_⟩:=h;have HR:=qI (Fu B s.n s.k v s.l s.d w h1);clear h1;unfold qV at HR;rw [hd,hf,if_neg (by decide),if_neg (by decide)] at HR
 go_enter func115,ntmps115
 go_wp2_with fail
 refine HR.out.mono ?_;rintro e w1 ⟨rfl,rfl⟩
 go_wp2_with fail
 rw [Hj]
 go_wp2
 go_ret2;exact ⟨_,rfl,Hg _,Q0 _ _⟩
theorem LR (Ba tb:Nat) (m:Ol.Mc) (Bd Be Bm n:Nat) (cp pb db:Nat) (ao:Option Addr) (c:Nat) (ds:List Dv) (us:Nat->Bool) (dk:Dk) (s:Ol.Sk) (w:World) (h:bg w Ba tb m Bd Be (.slice none 0 0) cp pb) (hp:ak w pb db ao c ds us) (hpa:¬ three Ba Bd Bm pb) (hda:0<ds.length->¬ three Ba Bd Bm db) (hN:aW ds) (hop:m.op<18446744073709551616) (hdk:bf w Bd dk) (hc:Calm dk) (hft:dk.n.ft=false) (_hfb:dk.n.fb.data.toList.length<=1000000) (hE:bw w Be Bd Bm n dk.n dk.k (λa=>a∈([]:List Rn))) (hn:n<=900) (_ht:ci w) (_hm:Mx w) (hleft:Ol.left m ds []=some s) (hroom:Ol.room m []=true) (hab:Ba≠Bd/\Ba≠Bm/\Ba≠Be) :
  Calls prog 64 #[.pointer (some ⟨Ba,0,none⟩)] w λe w'=>e=.returned .nilIface/\(∃ (hv:Value) (n' pb' db':Nat) (ao':Option Addr) (c':Nat),n'<=n/\aJ w' hv []/\(∀ W,aJ W hv [])/\bg w' Ba tb m Bd Be hv s.cp pb'/\dj w' pb' db' ao' c' s/\w.heap.size<=pb'/\(0<s.ds.length->w.heap.size<=db')/\bw w' Be Bd Bm n' dk.n dk.k λa=>a∈([]:List Rn))/\Apart (three Ba Bd Bm) w w':=by
 obtain ⟨HU,HS,HW⟩:=hE.lt;have HT:=h.lt;have HO:=qI h;have HP:=qI hp;have HE:=qI hE;have Hr:=qI (LI Bd dk.n dk.k (-1) false w (m5 hdk hc));have Hv:=qI (LQ Bd dk w hdk hc.1 hft);have ho:=h;unfold bg at ho;have c5:w.cell? ⟨Ba,5,none⟩=some (.pointer (some ⟨Bd,0,none⟩)):=aa ho 5;have c6:w.cell? ⟨Ba,6,none⟩=some (.pointer (some ⟨Be,0,none⟩)):=aa ho 6;clear h hp hE hdk ho
 go_enter func64,ntmps64
 go_wp2_with fail
 refine Hr.out.mono ?_;rintro e wz ⟨rfl,Hl⟩;have Hl:=Hl.symm;subst Hl
 go_wp2_with fail
 refine Hv.out.mono ?_;rintro e W1 ⟨v,rfl,hv,Hb⟩;obtain ⟨va,vc,Hg,HJ,_⟩:=hv;have Hg:v=.slice va 0 vc:=Hg;subst Hg;have He:=qI HJ.2;have HB:=qI Hb;have HN:=Hb.size;have Hn:=qI (HO.out.below Hb);have Hu:=qI (HP.out.below Hb);have HA:=qI (HE.out.below Hb);have Hf:=qI (LK Ba tb m Bd Be (.slice none 0 0) cp pb db ao c ds us (.slice va 0 vc) [] W1 Hn.out Hu.out hN (ni _ va vc He.out) hop (λx hx=>(List.not_mem_nil hx).elim) (by simp));rw [hleft] at Hf;have Hp:((some s:Option Ol.Sk).isSome && Ol.room m (([]:List Hd).map Hd.pod))=true:=by show (true && Ol.room m [])=true;rw [hroom];rfl
 rw [Hp] at Hf;dsimp only;rw [show au (((0:Nat)):Int)=.nilIface from rfl];clear Hb Hp Hr Hv c5 c6
 go_wp2_with fail
 refine Hf.out.mono ?_;rintro e W2 ⟨rfl,Hc⟩;have HL:=qI (HB.out.trans (Hc.mono HN));have HV:=Hc.size;have Hm:=qI (Hn.out.below Hc);have Hj:=qI (Hu.out.below Hc);have HI:=qI (HA.out.below Hc);have Ht:=qI (so Be Bd Bm n dk.n dk.k [] (.slice va 0 vc) [] W2 HI.out (ni _ va vc He.out) rfl (by omega));have Hk:=Hm.out;unfold bg at Hk;have d6:W2.cell? ⟨Ba,6,none⟩=some (.pointer (some ⟨Be,0,none⟩)):=aa Hk 6;clear Hc Hk Hf
 go_wp2_with fail
 refine Ht.out.mono ?_;rintro e W3 ⟨rfl,⟨n',Hi,Ho⟩,Ha⟩;have HX:=Ha.size;have Hw:=qI (Hm.out.block (Ha.block Ba (by omega) hab.1 hab.2.1));have HF:Hid (ak W3 pb db ao c ds us):=lE Hj.out (Ha.block pb (by have:=Hj.out.lt;omega) (λe=>hpa (.inr (.inl e))) λe=>hpa (.inr (.inr e))) (λh0=>Ha.block db (by have:=(Hj.out.at0 h0).2.2;omega) (λe=>hda h0 (.inr (.inl e))) λe=>hda h0 (.inr (.inr e))) Ha.size;have HC:=qI Ho;have HK:Hid (n'<=n):=by
  unfold Hid;have e0:dK [] (ap [])=0:=rfl;rw [e0] at Hi;exact Hi
 have HM:=qI ((Apart.of_below (K:=three Ba Bd Bm) HL.out).trans (sH Ha));have Hy:=qI (sC Ba tb m Bd Be (.slice none 0 0) cp pb db ao c ds us (.slice va 0 vc) [] s W3 Hw.out ⟨_,_,_,rfl⟩ HF.out (λe=>hpa (.inl e)) (λh0 e=>hda h0 (.inl e)) hN (ni _ va vc He.out) hop (λx hx=>(List.not_mem_nil hx).elim) (by simp) hleft);clear Ha Ho Hi d6 Ht
 go_wp2_with fail
 refine Hy.out.mono ?_;rintro e W4 ⟨rfl,⟨pb',db',ao',c',Hq,Hs,HH,Hx⟩,Hh⟩;have HQ:=qI Hq;have HR:=qI Hs;have HG:=qI Hh;have HD:Hid (bw W4 Be Bd Bm n' dk.n dk.k λa=>a∈([]:List Rn)):=pi HC.out Hh hab Hw.out.notInt;have Hz:Hid (w.heap.size<=pb'/\(0<s.ds.length->w.heap.size<=db')):=⟨by omega,λh0=>by have:=Hx h0;omega⟩;clear Hq Hs Hh HH Hx Hy
 go_wp2
 go_ret;exact ⟨rfl,⟨_,n',pb',db',ao',c',HK.out,ni _ va vc He.out,λW=>ni _ va vc He.out,HQ.out,HR.out,Hz.out.1,Hz.out.2,HD.out⟩,HM.out.trans (HG.out.wide λj hj=>.inl hj)⟩
end
section
open RowKit Shelf
open Ost (Cpu ae dif)
open Qos (Nd Ct Pd nd ct pd af)
open Sv (Gv Hd gv hd gsF)
open Dvs (Dv dv aW)
open S1 (Mx Tab)
attribute [local go_sem] Oper.semAt_some
abbrev four (N:Nat->Prop) (Ba Bd Bm:Nat):Nat->Prop:=λj=>N j\/three Ba Bd Bm j
structure aK (W:World) (N:Nat->Prop) (Ba Bd Be Bm:Nat) (t:Ol.St) (dk:Dk) (n:Nat):Prop where
 inv:Ol.Inv t
 calm:Calm dk
 cpus:0<t.m.l.length
 eng:bw W Be Bd Bm n dk.n dk.k (λa=>a∈ap t.hs)
 apart:Ba≠Bd/\Ba≠Bm/\Ba≠Be
 free:¬ N Ba/\¬ N Bd/\¬ N Bm/\¬ N Be
 nlt:∀ j,N j->j<W.heap.size
 txt:(Sv.aF t.hs).length<=6000
 body:∃ tb b c hv pb db ao pc s,bg W Ba tb t.m Bd Be hv (s:Ol.Sk).cp pb/\aJ (ag (four N Ba Bd Bm) W) hv t.hs/\cK (ag (four N Ba Bd Bm) W) tb b 0 c t.m/\Ol.left t.m t.ds t.hs=some s/\dj W pb db ao pc s/\¬ four N Ba Bd Bm pb/\(0<s.ds.length->¬ four N Ba Bd Bm db)
theorem aK.grow {W W':World} {N N':Nat->Prop} {Ba Bd Be Bm:Nat} {t:Ol.St} {dk:Dk} {n:Nat} (h:aK W N Ba Bd Be Bm t dk n) (hb:Below W.heap.size W W') (hN:∀ j,N' j->N j\/W.heap.size<=j) (hl:∀ j,N' j->j<W'.heap.size):aK W' N' Ba Bd Be Bm t dk n:=by
 obtain ⟨h1,h2,He,h3,h4,h5,h6,h7,tb,b,c,hv,pb,db,ao,pc,s,k1,k2,k3,k4,k5,k6,k7⟩:=h;obtain ⟨l1,l2,l3⟩:=h3.lt;have l4:=k1.lt;have l5:=k5.pool.lt;have hf:∀ j,j<W.heap.size->¬ N j->¬ N' j:=λj hj hn hn'=>(hN j hn').elim hn (by omega)
 have Ha:∀ j,j<W.heap.size->¬ four N Ba Bd Bm j->¬ four N' Ba Bd Bm j:=λj hj hn hn'=>hn'.elim (λe=>hf j hj (λe=>hn (.inl e)) e) λe=>hn (.inr e)
 have hle:aq (ag (four N Ba Bd Bm) W) (ag (four N' Ba Bd Bm) W'):=bE (λj hj hn=>⟨Ha j hj hn,hb.block j hj⟩) hb.size;refine ⟨h1,h2,He,h3.below hb,h4,⟨hf _ l4 h5.1,hf _ l2 h5.2.1,hf _ l3 h5.2.2.1,hf _ l1 h5.2.2.2⟩,hl,h7,tb,b,c,hv,pb,db,ao,pc,s,k1.below hb,k2.le hle,?_,k4,k5.below hb,Ha _ l5 k6,λh0=>Ha _ ((k5.pool.at0 h0).2.2) (k7 h0)⟩;have nt:¬ four N Ba Bd Bm tb:=eP k3.topo.cell;have Hc:=k3.topo.tlt;have Hb:=k3.topo.lt;rw [bH] at Hc Hb;refine ⟨jO k3.topo ?_ ?_ ?_,k3.good,k3.op,k3.nd,k3.pol⟩
 ·rw [bZ nt,bZ (Ha _ Hc nt),hb.block tb Hc]
 ·by_cases nb:four N Ba Bd Bm b
  ·exact absurd nb (eP (k3.topo.cells 0 He).1)
  ·rw [bZ nb,bZ (Ha _ Hb nb),hb.block b Hb]
 ·rw [bH,bH];exact hb.size
theorem aK.other {W W':World} {N:Nat->Prop} {Ba Bd Be Bm:Nat} {t:Ol.St} {dk:Dk} {n:Nat} (h:aK W N Ba Bd Be Bm t dk n) (ha:Apart N W W') (hi:∀ j,N j->∀ (arr:Array Value) (z:Nat × Nat),W.heap[j]?≠some (Obj.cells arr 3 z)):aK W' N Ba Bd Be Bm t dk n:=by
 obtain ⟨h1,h2,Hc,h3,h4,h5,h6,h7,tb,b,c,hv,pb,db,ao,pc,s,k1,k2,k3,k4,k5,k6,k7⟩:=h;obtain ⟨l1,l2,l3⟩:=h3.lt;have hle:aq (ag (four N Ba Bd Bm) W) (ag (four N Ba Bd Bm) W'):=bE (λj hj hn=>⟨hn,ha.block j hj λe=>hn (.inl e)⟩) ha.size;have n1:¬ N pb:=λe=>k6 (.inl e)
 refine ⟨h1,h2,Hc,?_,h4,h5,λj hj=>Q1 (h6 j hj) ha.size,h7,tb,b,c,hv,pb,db,ao,pc,s,(ha.block Ba k1.lt h5.1).trans k1,k2.le hle,?_,k4,?_,k6,k7⟩
 ·obtain ⟨g1,g2,xs,g3,g4,g5⟩:=h3;have hk:cE W W':=⟨ha.size,λk arr z hk=>ha.block k (gS hk).1 λe=>hi k e arr z hk⟩;obtain ⟨q1,q2⟩:=lA g4 hk;exact ⟨g1.block (ha.block Be l1 h5.2.2.2),(ha.block Bd l2 h5.2.1).trans g2,xs,g3.block (ha.block Bm l3 h5.2.2.1),q1,λa=>by rw [q2];exact g5 a⟩
 ·have nt:¬ four N Ba Bd Bm tb:=eP k3.topo.cell;have Hb:=k3.topo.tlt;have Ha:=k3.topo.lt;rw [bH] at Hb Ha;refine ⟨jO k3.topo ?_ ?_ ?_,k3.good,k3.op,k3.nd,k3.pol⟩
  ·rw [bZ nt,bZ nt,ha.block tb Hb λe=>nt (.inl e)]
  ·by_cases nb:four N Ba Bd Bm b
   ·exact absurd nb (eP (k3.topo.cells 0 Hc).1)
   ·rw [bZ nb,bZ nb,ha.block b Ha λe=>nb (.inl e)]
  ·rw [bH,bH];exact ha.size
 ·exact ⟨lE k5.pool (ha.block pb k5.pool.lt n1) (λh0=>ha.block db (k5.pool.at0 h0).2.2 λe=>k7 h0 (.inl e)) ha.size,k5.nodes,k5.cp⟩
theorem aK.poolAt {W:World} {N:Nat->Prop} {Ba Bd Be Bm:Nat} {t:Ol.St} {dk:Dk} {n:Nat} (h:aK W N Ba Bd Be Bm t dk n):Ba<W.heap.size/\∀ pb,W.cell? ⟨Ba,9,none⟩=some (.pointer (some ⟨pb,0,none⟩))->pb<W.heap.size/\¬ three Ba Bd Bm pb:=by
 obtain ⟨h1,h2,Ha,h3,h4,h5,h6,h7,tb,b,c,hv,pb,db,ao,pc,s,k1,k2,k3,k4,k5,k6,k7⟩:=h;refine ⟨k1.lt,λpb1 e=>?_⟩;have e9:W.cell? ⟨Ba,9,none⟩=some (.pointer (some ⟨pb,0,none⟩)):=aa k1 9;rw [e9] at e;obtain rfl:pb=pb1:=by cases e;rfl
 exact ⟨k5.pool.lt,λe=>k6 (.inr e)⟩
theorem aK.poolNew {W W':World} {N K:Nat->Prop} {Ba Bd Be Bm base:Nat} {t:Ol.St} {dk:Dk} {n:Nat} (h:aK W N Ba Bd Be Bm t dk n) (hp:iz base W Ba) (ha:Apart K W W') (hB:¬ K Ba) (hK:∀ pb,W.cell? ⟨Ba,9,none⟩=some (.pointer (some ⟨pb,0,none⟩))->base<=pb->¬ K pb):iz base W' Ba:=by
 obtain ⟨l1,l2⟩:=h.poolAt;intro pb e;rw [jN (ha.block Ba l1 hB)] at e;obtain ⟨q1,q2⟩:=hp pb e;refine ⟨q1,λdb n c hn e2=>q2 db n c hn ?_⟩;rw [<- e2];exact (jN (ha.block pb (l2 pb e).1 (hK pb e q1)) 0).symm
theorem LS:(Sv.aF []).length<=6000:=by
 have:=Sv.mr (Sv.body [])
 have h:Sv.aF []=Sv.cV (Sv.body []):=rfl;rw [h];omega
theorem lg {m:Ol.Mc} {ds:List Dv} (h:Dvs.fault ds=0):Ol.left m ds []=some ⟨m.op,ds,λ_=>false⟩:=by unfold Ol.left;rw [if_pos h];rfl
theorem zt {m:Ol.Mc} (h:0<=m.nb):Ol.room m []=true:=by
 unfold Ol.room;have e1:Ol.aY []=0:=rfl;have e2:Ol.bA []=0:=rfl;rw [e1,e2,Qc (by omega),Qc h];rfl
theorem zu {c:Ol.Cf} (h:Ol.b6 c=0):Ost.fault c.l=0/\(0<=c.nb/\c.nb<=1125899906842624)/\(0<=c.pol/\c.pol<=3)/\Dvs.fault c.ds=0:=by
 unfold Ol.b6 at h
 by_cases h1:Ost.fault c.l=0
 ·rw [if_neg λk=>k h1] at h
  by_cases h2:¬ (c.keep &&& ae (λ_=>true) c.l=c.keep)\/¬ (0<=c.nb/\c.nb<=1125899906842624)\/¬ (0<=c.pol/\c.pol<=3)
  ·rw [if_pos h2] at h;cases h
  ·rw [if_neg h2] at h;have h3:(0<=c.nb/\c.nb<=1125899906842624)/\(0<=c.pol/\c.pol<=3):=⟨Qt λk=>h2 (.inr (.inl k)),Qt λk=>h2 (.inr (.inr k))⟩;exact ⟨h1,h3.1,h3.2,by omega⟩
 ·rw [if_pos h1] at h;exact absurd h h1
theorem LT {W:World} {tb tg tc Bd Bm n:Nat} {l:List Cpu} {sn sk:Sd} {v:Value} {i:Int} {d:Bool} {xs:List RV} (h:ba W tb tg 0 tc l) (h0:0<l.length) (hd:aC W Bd sn sk v i d) (hm:aZ W Bm n xs):(tb≠Bd/\tb≠Bm)/\(tg≠Bd/\tg≠Bm):=by
 have a1:W.cell? ⟨Bd,0,none⟩=some (.bool sn.ft):=aa hd 0;obtain ⟨es,cl,Ha⟩:=hm.isMap;have a2:∀ j,W.cell? ⟨Bm,j,none⟩=none:=λj=>by simp [World.cell?,Ha]
 have c1:=h.cell;have c2:=(h.cells 0 h0).1;refine ⟨⟨λe=>?_,λe=>?_⟩,λe=>?_,λe=>?_⟩
 ·rw [e,a1] at c1;cases c1
 ·rw [e,a2] at c1;cases c1
 ·rw [e] at c2;have c2:W.cell? ⟨Bd,0,none⟩=_:=c2;rw [a1] at c2;cases c2
 ·rw [e,a2] at c2;cases c2
theorem LU {W:World} {tb tg tc j:Nat} {l:List Cpu} {p:Option Addr} (h:ba W tb tg 0 tc l) (h0:0<l.length) (hj:W.cell? ⟨j,0,none⟩=some (.pointer p)):tb≠j/\tg≠j:=by
 have c1:=h.cell;have c2:=(h.cells 0 h0).1;refine ⟨λe=>?_,λe=>?_⟩
 ·rw [e,hj] at c1;cases c1
 ·rw [e] at c2;have c2:W.cell? ⟨j,0,none⟩=_:=c2;rw [hj] at c2;cases c2
structure LV (w w':World) (N:Nat->Prop) (c:Ol.Cf) (Bd Be Bm:Nat) (dk:Dk) (e:Ending):Prop where
 bad:Ol.b6 c≠0->e=.returned (.tuple #[.pointer none,au (Ol.b6 c)])
 good:Ol.b6 c=0->∃ Ba,e=.returned (.tuple #[.pointer (some ⟨Ba,0,none⟩),.nilIface])/\aK w' N Ba Bd Be Bm ⟨Ol.cz c,c.ds,[]⟩ dk 0/\(w.heap.size<=Ba/\iz w.heap.size w' Ba)
 out:Apart (gk Bd Bm) w w'
abbrev nj:=λ(x0:Nat) (x1:Ol.Mc) (x2 x3 x4:Nat)=>(.cells #[.pointer (some ⟨x0,0,none⟩),.int .u64 x1.op,.int .u8 x1.nd,.int .i64 x1.nb,.int .i64 x1.pol,.pointer (some ⟨x2,0,none⟩),.pointer (some ⟨x3,0,none⟩),.slice none 0 0,.int .u64 x1.op,.pointer (some ⟨x4,0,none⟩)] 115:Obj)
abbrev kF:=λ(x0:Option Addr) (x1:Ol.Cf) (x2:Nat) (x3:Option Addr) (x4:Nat)=>(.cells #[.slice x0 x1.l.length x2,.int .u64 (x1.keep:Nat),.int .i64 x1.nb,.slice x3 x1.ds.length x4,.int .i64 x1.pol] 27:Obj)
abbrev lG:=λ(x0:Nat) (x1:Ol.Mc)=>(.cells #[.pointer (some ⟨x0,0,none⟩),.int .u64 x1.op,.int .u8 x1.nd,.int .i64 x1.nb,.int .i64 x1.pol] 95:Obj)
abbrev lH:=λ(x0:Ol.Mc) (x1:Nat)=>(.cells #[.int .u64 x0.op,.pointer (some ⟨x1,0,none⟩)] 98:Obj)
theorem LW (N:Nat->Prop) (c:Ol.Cf) (v1 v2:Value) (g o Bd Be Bm:Nat) (dk:Dk) (w:World) (h1:eH w v1 c.l) (h2:cU w v2 g o c.ds) (hk:c.keep<18446744073709551616) (hdk:bf w Bd dk) (hc:Calm dk) (hft:dk.n.ft=false) (hfb:dk.n.fb.data.toList.length<=1000000) (hE:bw w Be Bd Bm 0 dk.n dk.k (λa=>a∈([]:List Rn))) (ht:ci w) (hm:Mx w) (hN:∀ j,N j->j<w.heap.size/\∃ p,w.cell? ⟨j,0,none⟩=some (.pointer p)) (hNf:¬ N Bd/\¬ N Bm/\¬ N Be) :
  Calls prog 32 #[.agg #[v1,.int .u64 (c.keep:Nat),.int .i64 c.nb,v2,.int .i64 c.pol],.pointer (some ⟨Bd,0,none⟩),.pointer (some ⟨Be,0,none⟩)] w λe w'=>LV w w' N c Bd Be Bm dk e:=by
 obtain ⟨ca,cc,ha⟩:∃ ca cc,v1=.slice ca c.l.length cc:=by
  rcases id h1 with ⟨hl,ao,q,rfl⟩|⟨b,o,q,rfl,_⟩
  ·exact ⟨ao,q,by rw [hl];rfl⟩
  ·exact ⟨_,q,rfl⟩
 subst ha;obtain ⟨da,dc,ho,H9⟩:=id h2;clear H9;subst ho;obtain ⟨hz,hr,H2⟩:=hE.lt;obtain ⟨hA,hy,hC⟩:=hE.apart;have Hn:=qI ((Q0 w.heap.size w).alloc (lR) (kF ca c cc da dc));have HO:=qI (LP c (.slice ca c.l.length cc) (.slice da c.ds.length dc) g o _ (h1.below Hn.out) (h2.le (aq.of_below Hn.out)) hk);have HG:=qI hdk;have HE:=qI hE;have HT:=qI ht;have HM:=qI hm;have Hw:=qI hN;have H5:=qI hNf;clear h1 h2 hdk hE ht hm hN hNf
 go_enter func32,ntmps32
 go_wp2_with fail
 generalize w.alloc (kF ca c cc da dc)=X at *;refine HO.out.mono ?_;rintro e W1 ⟨Hh,Hb,HN⟩;have Hi:=qI (Hn.out.trans (HN.mono Hn.out.size));have HS:=Hi.out.size;have hu:=Hn.out.size;clear HN HO
 by_cases hf:Ol.b6 c=0
 ·obtain ⟨tb,b,tcc,pb,db,ao,pc,rfl,HA,Hg,Hp,Hj⟩:=Hb hf;obtain ⟨cf1,cf2,cf3,cf4⟩:=zu hf;have HF:=qI hf;have He:=qI HA;have HW:=qI Hg;have hs:=Hg.pool.lt;have Ht:Hid (0<c.ds.length->w.heap.size<=db/\db<W1.heap.size):=λh0=>⟨by have:=Hj h0;omega,(Hg.pool.at0 h0).2.2⟩
  have hi:w.heap.size<=pb:=by omega
  have HU:=HA.op;have HR:Hid (0<=(Ol.cz c).nb):=cf2.1;have Ho:=qI cf4;have HP:=qI (sG cf1);clear Hh Hb HA Hg Hp Hj hf cf1 cf2 cf3 cf4;unfold mV sV;dsimp only;obtain ⟨M,hM⟩:∃ M,M=Ol.cz c:=⟨_,rfl⟩;rw [<- hM] at He HW HU HR ⊢;have Hx:=qI hM;have hq:Hid (M.l=c.l):=by unfold Hid;rw [hM];rfl
  clear hM;have HD:=qI ((Hi.out.alloc HS (lG tb M)).alloc (by simp;omega) (lH M pb));have Hm:=qI (((Q0 W1.heap.size W1).alloc (lR) (lG tb M)).alloc (by simp) (lH M pb));have Hk:=qI (bj (aD W1 (lG tb M) rfl) (lH M pb));have HI:=qI (aD (W1.alloc (lG tb M)) (lH M pb) (n:=W1.heap.size+1) (by simp));have Hr:((W1.alloc (lG tb M)).alloc (lH M pb)).heap.size=W1.heap.size+2:=by simp
  go_wp2_with fail
  generalize ((W1.alloc (lG tb M)).alloc (lH M pb))=W2 at *;have H0:=qI (LG Bd dk.n dk.k (.slice none 0 0) (-1) false W2 (m5 (HG.out.below HD.out) hc));refine H0.out.mono ?_;rintro e wz ⟨rfl,Hs⟩;have Hs:=Hs.symm;subst Hs;clear Hs;have m0:W2.cell? ⟨W1.heap.size,0,none⟩=some (.pointer (some ⟨tb,0,none⟩)):=aa Hk.out 0;have m1:W2.cell? ⟨W1.heap.size,1,none⟩=some (.int .u64 M.op):=aa Hk.out 1;have m2:W2.cell? ⟨W1.heap.size,2,none⟩=some (.int .u8 M.nd):=aa Hk.out 2;have m3:W2.cell? ⟨W1.heap.size,3,none⟩=some (.int .i64 M.nb):=aa Hk.out 3;have m4:W2.cell? ⟨W1.heap.size,4,none⟩=some (.int .i64 M.pol):=aa Hk.out 4;have t0:W2.cell? ⟨W1.heap.size+1,0,none⟩=some (.int .u64 M.op):=aa HI.out 0;have t1:W2.cell? ⟨W1.heap.size+1,1,none⟩=some (.pointer (some ⟨pb,0,none⟩)):=aa HI.out 1;have Hf:=qI (HD.out.alloc HD.out.size (nj tb M Bd Be pb));have Ha:=qI (Hm.out.alloc Hm.out.size (nj tb M Bd Be pb));have H6:Hid (W2.heap.size<(W2.alloc (nj tb M Bd Be pb)).heap.size):=by unfold Hid;simp
  have HB:Hid (bg (W2.alloc (nj tb M Bd Be pb)) W2.heap.size tb M Bd Be (.slice none 0 0) M.op pb):=aD W2 _ rfl
  go_wp2_with fail
  generalize W2.alloc (nj tb M Bd Be pb)=W3 at *;clear m0 m1 m2 m3 m4 t0 t1;rw [Hr] at HB;obtain ⟨Ba,Hv⟩:∃ Ba,Ba=W1.heap.size+2:=⟨_,rfl⟩;rw [<- Hv] at HB Hr ⊢;have H7:W1.heap.size<Ba:=by omega
  have HY:Ba<W3.heap.size:=by rw [<- Hr];exact H6.out
  have H8:w.heap.size<=Ba:=by omega
  have hD:=qI Hv;clear Hv Hr;have Hy:Hid (ak W3 pb db ao pc c.ds λ_=>false):=HW.out.pool.below Ha.out;have H4:=qI (LR Ba tb M Bd Be Bm 0 M.op pb db ao pc c.ds (λ_=>false) dk ⟨M.op,c.ds,λ_=>false⟩ W3 HB.out Hy.out (by rintro (e|e|e) <;> omega) (λh0=>by have:=Ht.out h0;rintro (e|e|e) <;> omega) (Dvs.gW Ho.out) HU (HG.out.below Hf.out) hc hft hfb (HE.out.below Hf.out) (by omega) (HT.out.below Hf.out) (HM.out.below Hf.out) (lg Ho.out) (zt HR.out) ⟨by omega,by omega,by omega⟩);refine H4.out.mono ?_;rintro e W4 ⟨rfl,⟨hv,n',pb',db',ao',c',HZ,HK,hh,HC,Hg,Hp,Hj,HV⟩,Hc⟩;have H1:∃ a n q,hv=.slice a n q:=by obtain ⟨a,q,e,_⟩:=HK;exact ⟨a,_,q,e⟩
  have hg:Hid (iz w.heap.size W4 Ba):=sD HC Hg (by have:=Ha.out.size;omega) (λh0=>by have:=Ha.out.size;have:=Hj h0;omega);have Hl:Hid (aK W4 N Ba Bd Be Bm ⟨Ol.cz c,c.ds,[]⟩ dk 0):=by
   have hp:n'=0:=by omega
   subst hp;have hx:=Ha.out.size;have HL:∀ j,w.heap.size<=j->¬ N j:=λj hj e=>by have:=(Hw.out j e).1;omega
   have f4:∀ j,W3.heap.size<=j->¬ four N Ba Bd Bm j:=λj hj e=>by
    rcases e with e|e|e|e
    ·exact HL j (by omega) e
    all_goals omega
   refine ⟨⟨Ho.out,rfl,⟨_,lg Ho.out⟩⟩,hc,HP.out,HV,⟨by omega,by omega,by omega⟩,⟨HL Ba (by omega),H5.out⟩,λj hj=>by have:=(Hw.out j hj).1;have:=Hc.size;omega,LS,tb,b,tcc,hv,pb',db',ao',c',⟨M.op,c.ds,λ_=>false⟩,?_,hh _,?_,?_,Hg,f4 _ Hp,λh0=>f4 _ (Hj h0)⟩
   ·rw [<- Hx.out];exact HC
   ·rw [<- Hx.out];obtain ⟨xs,H3,_⟩:=HE.out.map;have h0:0<M.l.length:=by rw [hq.out];exact HP.out
    have Hq:=LT He.out.topo h0 (m5 (HG.out.below Hi.out) hc) (H3.block (Hi.out.block Bm H2));have hB:=He.out.topo.tlt;have hw:=He.out.topo.lt;have HJ:∀ j,N j->tb≠j/\b≠j:=λj hj=>by
     obtain ⟨q1,p,q2⟩:=Hw.out j hj;exact LU He.out.topo h0 ((Hi.out.cell (p:=⟨j,0,none⟩) q1).trans q2)
    have nt:¬ four N Ba Bd Bm tb:=by
     rintro (e|e|e|e)
     ·exact (HJ tb e).1 rfl
     ·omega
     ·exact Hq.1.1 e
     ·exact Hq.1.2 e
    have nb:¬ four N Ba Bd Bm b:=by
     rintro (e|e|e|e)
     ·exact (HJ b e).2 rfl
     ·omega
     ·exact Hq.2.1 e
     ·exact Hq.2.2 e
    refine ⟨jO He.out.topo ?_ ?_ ?_,He.out.good,He.out.op,He.out.nd,He.out.pol⟩
    ·rw [bZ nt,Hc.block tb (by omega) λe=>nt (.inr e),Ha.out.block tb (by omega)]
    ·rw [bZ nb,Hc.block b (by omega) λe=>nb (.inr e),Ha.out.block b (by omega)]
    ·rw [bH];have:=Hc.size;omega
   ·rw [<- Hx.out];exact lg Ho.out
  have HX:Hid (Apart (gk Bd Bm) w W4):=⟨Hc.os.trans Hf.out.os,Hc.tape.trans Hf.out.tape,Hc.output.trans Hf.out.output,Q5 Hf.out.size Hc.size,λj hj hn=>(Hc.block j (by have:=Hf.out.size;omega) (by rintro (e|e|e);omega;exact hn (.inl e);exact hn (.inr e))).trans (Hf.out.block j hj)⟩;clear HK hh HC Hg Hp Hj HV Hc H1 HZ
  go_wp2
  go_ret2;exact ⟨λh=>absurd HF.out h,λ_=>⟨Ba,rfl,Hl.out,by omega,hg.out⟩,HX.out⟩
 ·have he:=Hh hf;subst he;have HF:=qI hf;have Hz:au (Ol.b6 c)=.iface 121 (.int .i64 (Ol.b6 c)):=by unfold au;rw [if_neg hf]
  have HQ:=qI Hz;rw [Hz];have hb:=qI ((Hi.out.alloc HS (.cells #[.pointer none,.int .u64 0,.int .u8 0,.int .i64 0,.int .i64 0] 95)).alloc (by simp;omega) (.cells #[.int .u64 0,.pointer none] 98));clear Hh Hb hf Hz;obtain ⟨ff,Hu⟩:∃ f,f=Ol.b6 c:=⟨_,rfl⟩;rw [<- Hu] at HQ HF ⊢;have HH:=qI Hu;clear Hu
  go_wp2
  go_ret2;exact ⟨λ_=>by rw [<- HH.out,HQ.out];rfl,λh=>absurd (HH.out.trans h) HF.out,Apart.of_below hb.out⟩
end
section
open RowKit Shelf
open Ost (Cpu ae dif)
open Qos (Nd Ct Pd nd ct pd af)
open Sv (Gv Hd gv hd gsF)
open Dvs (Dv dv aW)
open S1 (Mx Tab)
attribute [local go_sem] Oper.semAt_some
theorem LX {w w':World} {Bd:Nat} (hd:bf w Bd Dk.fresh) (hb:Below w.heap.size w w') (he:et w' (w.heap.size+1) Bd w.heap.size) (hm:aZ w' w.heap.size 0 []):bw w' (w.heap.size+1) Bd w.heap.size 0 Dk.fresh.n Dk.fresh.k (λa=>a∈([]:List Rn)):=
 ⟨he,m5 (hd.below hb) xj,[],hm,λx hx=>absurd hx (by simp),λa=>by simp⟩
structure LY (w w':World) (c:Ol.Cf) (e:Ending):Prop where
 bad:Ol.b6 c≠0->∃ p q,e=.returned (.tuple #[.agg #[.pointer p,.pointer q,.pointer none],.bool false])
 good:Ol.b6 c=0->∃ Ba Bd Be Bm,e=.returned (.tuple #[.agg #[.pointer (some ⟨Bd,0,none⟩),.pointer (some ⟨Be,0,none⟩),.pointer (some ⟨Ba,0,none⟩)],.bool true])/\aK w' (λ_=>False) Ba Bd Be Bm ⟨Ol.cz c,c.ds,[]⟩ Dk.fresh 0/\w.heap.size<=Ba/\w.heap.size<=Bd/\w.heap.size<=Be/\(w.heap.size<=Bm/\iz w.heap.size w' Ba)
 out:Below w.heap.size w w'
abbrev nk:=(.cells #[.pointer none,.pointer none,.pointer none] 36:Obj)
theorem zv (c:Ol.Cf) (v1 v2:Value) (g o:Nat) (w:World) (h1:eH w v1 c.l) (h2:cU w v2 g o c.ds) (hk:c.keep<18446744073709551616) (ht:ci w) (hm:Mx w) :
  Calls prog 11 #[.agg #[v1,.int .u64 (c.keep:Nat),.int .i64 c.nb,v2,.int .i64 c.pol]] w λe w'=>LY w w' c e:=by
 obtain ⟨ca,cc,HV⟩:∃ ca cc,v1=.slice ca c.l.length cc:=by
  rcases id h1 with ⟨hl,ao,q,rfl⟩|⟨b,o,q,rfl,_⟩
  ·exact ⟨ao,q,by rw [hl];rfl⟩
  ·exact ⟨_,q,rfl⟩
 subst HV;obtain ⟨da,dc,HY,HR⟩:=id h2;clear HR;subst HY;have HC:=qI h1;have HD:=qI h2;have HT:=qI ht;have HM:=qI hm;clear h1 h2 ht hm;have HQ:=qI (((Q0 w.heap.size w).alloc (lR) (kF ca c cc da dc)).alloc (by simp) (nk));have HS:=qI (bj (aD w (kF ca c cc da dc) rfl) (nk));have HP:=qI (aD (w.alloc (kF ca c cc da dc)) (nk) (n:=w.heap.size+1) (by simp));have Hn:Hid (((w.alloc (kF ca c cc da dc)).alloc (nk)).heap.size=w.heap.size+2):=by unfold Hid;simp
 go_enter func11,ntmps11
 go_wp2_with fail
 generalize ((w.alloc (kF ca c cc da dc)).alloc (nk))=X at *;have Hs:=qI (Hh X);rw [Hn.out] at Hs;refine Hs.out.mono ?_;rintro e W1 ⟨rfl,Ho,Hl⟩;have HW:w.heap.size+2<=W1.heap.size:=by have:=Hl.size;have:=Hn.out;omega
 have Hv:=Ho.lt;obtain ⟨Bd,Hu⟩:∃ Bd,Bd=w.heap.size+2:=⟨_,rfl⟩;rw [<- Hu] at Ho Hv ⊢;have H4:w.heap.size+1<Bd:=by omega
 have H3:=qI Hu;have HG:=qI Ho;have HA:=qI (HQ.out.trans (Hl.mono (by omega)));have Hw:=qI ((Hl.block w.heap.size (by have:=Hn.out;omega)).trans HS.out);have Hx:=qI ((Hl.block (w.heap.size+1) (by have:=Hn.out;omega)).trans HP.out);clear Ho Hl Hu Hs
 go_wp2_with fail
 refine (J6 Bd W1).mono ?_;rintro e W2 ⟨rfl,HI,HB,Hk,HU⟩;have Hr:=qI (LX HG.out Hk HI HB);obtain ⟨Bm,Hq⟩:∃ Bm,Bm=W1.heap.size:=⟨_,rfl⟩;obtain ⟨Be,Ht⟩:∃ Be,Be=W1.heap.size+1:=⟨_,rfl⟩;rw [<- Ht] at Hr ⊢;rw [<- Hq] at Hr;have H7:Bd<Bm/\Bm<Be:=by omega
 have H2:Be<W2.heap.size:=by omega
 have H0:=qI Hq;have HZ:=qI Ht;have HN:=qI (HG.out.below Hk);have He:=qI (HA.out.trans (Hk.mono HA.out.size));have Hc:=qI ((Hk.block w.heap.size (by omega)).trans Hw.out);have Hm:=qI ((Hk.block (w.heap.size+1) (by omega)).trans Hx.out);have H6:w.heap.size<=W2.heap.size:=He.out.size;clear HI HB Hk HU Hq Ht HW;have c0:W2.cell? ⟨w.heap.size,0,none⟩=some (.slice ca c.l.length cc):=aa Hc.out 0;have c1:W2.cell? ⟨w.heap.size,1,none⟩=some (.int .u64 (c.keep:Nat)):=aa Hc.out 1;have c2:W2.cell? ⟨w.heap.size,2,none⟩=some (.int .i64 c.nb):=aa Hc.out 2;have c3:W2.cell? ⟨w.heap.size,3,none⟩=some (.slice da c.ds.length dc):=aa Hc.out 3;have c4:W2.cell? ⟨w.heap.size,4,none⟩=some (.int .i64 c.pol):=aa Hc.out 4;have HL:=qI (LW (λj=>j=w.heap.size+1) c (.slice ca c.l.length cc) (.slice da c.ds.length dc) g o Bd Be Bm Dk.fresh W2 (HC.out.below He.out) (HD.out.le (aq.of_below He.out)) hk HN.out xj rfl (by decide) Hr.out (HT.out.below He.out) (HM.out.below He.out) (λj hj=>by rw [hj];exact ⟨by omega,_,aa Hm.out 0⟩) ⟨by omega,by omega,by omega⟩)
 go_wp2_with fail
 refine HL.out.mono ?_;rintro e W3 ⟨Hi,Hb,Hg⟩;have H5:W2.heap.size<=W3.heap.size:=Hg.size;have Ha:=qI ((Hg.block (w.heap.size+1) (by omega) (by rintro (e|e) <;> omega)).trans Hm.out);have HJ:Hid (Below w.heap.size w W3):=⟨Hg.os.trans He.out.os,Hg.tape.trans He.out.tape,Hg.output.trans He.out.output,by omega,λj hj=>(Hg.block j (by omega) (by rintro (e|e) <;> omega)).trans (He.out.block j hj)⟩;have r0:W3.cell? ⟨w.heap.size+1,0,none⟩=some (.pointer none):=aa Ha.out 0;have r1:W3.cell? ⟨w.heap.size+1,1,none⟩=some (.pointer none):=aa Ha.out 1;have r2:W3.cell? ⟨w.heap.size+1,2,none⟩=some (.pointer none):=aa Ha.out 2;have f0:W3.frozen? ⟨w.heap.size+1,0,none⟩=false:=by simp [World.frozen?,Ha.out]
 have f1:W3.frozen? ⟨w.heap.size+1,1,none⟩=false:=by simp [World.frozen?,Ha.out]
 have f2:W3.frozen? ⟨w.heap.size+1,2,none⟩=false:=by simp [World.frozen?,Ha.out]
 clear c0 c1 c2 c3 c4 Hg HL
 by_cases hf:Ol.b6 c=0
 ·obtain ⟨Ba,rfl,Hf,H1,HE⟩:=Hb hf;have HX:=qI HE;clear HE;have HF:=qI hf;have HK:=qI Hf;clear Hi Hb hf Hf
  go_wp2_with fail
  have Hj:Hid ((((W3.setCell ⟨w.heap.size+1,0,none⟩ (.pointer (some ⟨Bd,0,none⟩))).setCell ⟨w.heap.size+1,1,none⟩ (.pointer (some ⟨Be,0,none⟩))).setCell ⟨w.heap.size+1,2,none⟩ (.pointer (some ⟨Ba,0,none⟩))).heap[w.heap.size+1]?=some (.cells #[.pointer (some ⟨Bd,0,none⟩),.pointer (some ⟨Be,0,none⟩),.pointer (some ⟨Ba,0,none⟩)] 36)):=ah (ah (ah Ha.out 0 _) 1 _) 2 _;have Hy:=qI (((HJ.out.setCell (p:=⟨w.heap.size+1,0,none⟩) (Nat.le_succ _) (.pointer (some ⟨Bd,0,none⟩))).setCell (p:=⟨w.heap.size+1,1,none⟩) (Nat.le_succ _) (.pointer (some ⟨Be,0,none⟩))).setCell (p:=⟨w.heap.size+1,2,none⟩) (Nat.le_succ _) (.pointer (some ⟨Ba,0,none⟩)));have Hz:Hid (Apart (λj=>j=w.heap.size+1) W3 (((W3.setCell ⟨w.heap.size+1,0,none⟩ (.pointer (some ⟨Bd,0,none⟩))).setCell ⟨w.heap.size+1,1,none⟩ (.pointer (some ⟨Be,0,none⟩))).setCell ⟨w.heap.size+1,2,none⟩ (.pointer (some ⟨Ba,0,none⟩)))):=((Apart.setCell (K:=λj=>j=w.heap.size+1) rfl _ _ _).trans (Apart.setCell (K:=λj=>j=w.heap.size+1) rfl _ _ _)).trans (Apart.setCell (K:=λj=>j=w.heap.size+1) rfl _ _ _);clear r0 r1 r2 f0 f1 f2;generalize (((W3.setCell ⟨w.heap.size+1,0,none⟩ (.pointer (some ⟨Bd,0,none⟩))).setCell ⟨w.heap.size+1,1,none⟩ (.pointer (some ⟨Be,0,none⟩))).setCell ⟨w.heap.size+1,2,none⟩ (.pointer (some ⟨Ba,0,none⟩)))=W4 at *;have r0:W4.cell? ⟨w.heap.size+1,0,none⟩=some (.pointer (some ⟨Bd,0,none⟩)):=aa Hj.out 0;have r1:W4.cell? ⟨w.heap.size+1,1,none⟩=some (.pointer (some ⟨Be,0,none⟩)):=aa Hj.out 1;have r2:W4.cell? ⟨w.heap.size+1,2,none⟩=some (.pointer (some ⟨Ba,0,none⟩)):=aa Hj.out 2;(try simp only [Exit.inBlock,Exit.then]);refine bodyPost_ret (v:=.tuple #[.agg #[.pointer (some ⟨Bd,0,none⟩),.pointer (some ⟨Be,0,none⟩),.pointer (some ⟨Ba,0,none⟩)],.bool true]) (by rw [iw rfl];go_simp) rfl ?_;refine ⟨λh=>absurd HF.out h,λ_=>⟨Ba,Bd,Be,Bm,rfl,(HK.out.other Hz.out ?_).grow (Q0 _ _) (λj hj=>hj.elim) λj hj=>hj.elim,by omega,by omega,by omega,by omega,(HK.out.poolNew HX.out Hz.out (λe=>by have e:Ba=w.heap.size+1:=e;omega) (λpb _ hl e=>by have e:pb=w.heap.size+1:=e;omega)).less (by omega)⟩,Hy.out⟩;intro j hj arr z hz;rw [hj,Ha.out] at hz;cases hz
 ·have he:=Hi hf;subst he;have HF:=qI hf;have HH:au (Ol.b6 c)=.iface 121 (.int .i64 (Ol.b6 c)):=by unfold au;rw [if_neg hf]
  rw [HH];clear Hi Hb hf HH;obtain ⟨ff,Hp⟩:∃ f,f=Ol.b6 c:=⟨_,rfl⟩;rw [<- Hp] at HF ⊢;have HO:=qI Hp;clear Hp
  go_wp2_with fail
  have Hj:Hid ((((W3.setCell ⟨w.heap.size+1,0,none⟩ (.pointer (some ⟨Bd,0,none⟩))).setCell ⟨w.heap.size+1,1,none⟩ (.pointer (some ⟨Be,0,none⟩))).setCell ⟨w.heap.size+1,2,none⟩ (.pointer none)).heap[w.heap.size+1]?=some (.cells #[.pointer (some ⟨Bd,0,none⟩),.pointer (some ⟨Be,0,none⟩),.pointer none] 36)):=ah (ah (ah Ha.out 0 _) 1 _) 2 _;have Hy:=qI (((HJ.out.setCell (p:=⟨w.heap.size+1,0,none⟩) (Nat.le_succ _) (.pointer (some ⟨Bd,0,none⟩))).setCell (p:=⟨w.heap.size+1,1,none⟩) (Nat.le_succ _) (.pointer (some ⟨Be,0,none⟩))).setCell (p:=⟨w.heap.size+1,2,none⟩) (Nat.le_succ _) (.pointer none));have Hz:Hid (Apart (λj=>j=w.heap.size+1) W3 (((W3.setCell ⟨w.heap.size+1,0,none⟩ (.pointer (some ⟨Bd,0,none⟩))).setCell ⟨w.heap.size+1,1,none⟩ (.pointer (some ⟨Be,0,none⟩))).setCell ⟨w.heap.size+1,2,none⟩ (.pointer none))):=((Apart.setCell (K:=λj=>j=w.heap.size+1) rfl _ _ _).trans (Apart.setCell (K:=λj=>j=w.heap.size+1) rfl _ _ _)).trans (Apart.setCell (K:=λj=>j=w.heap.size+1) rfl _ _ _);clear r0 r1 r2 f0 f1 f2;generalize (((W3.setCell ⟨w.heap.size+1,0,none⟩ (.pointer (some ⟨Bd,0,none⟩))).setCell ⟨w.heap.size+1,1,none⟩ (.pointer (some ⟨Be,0,none⟩))).setCell ⟨w.heap.size+1,2,none⟩ (.pointer none))=W4 at *;have r0:W4.cell? ⟨w.heap.size+1,0,none⟩=some (.pointer (some ⟨Bd,0,none⟩)):=aa Hj.out 0;have r1:W4.cell? ⟨w.heap.size+1,1,none⟩=some (.pointer (some ⟨Be,0,none⟩)):=aa Hj.out 1;have r2:W4.cell? ⟨w.heap.size+1,2,none⟩=some (.pointer none):=aa Hj.out 2;(try simp only [Exit.inBlock,Exit.then]);refine bodyPost_ret (v:=.tuple #[.agg #[.pointer (some ⟨Bd,0,none⟩),.pointer (some ⟨Be,0,none⟩),.pointer none],.bool false]) (by rw [iw rfl];go_simp) rfl ?_;exact ⟨λ_=>⟨_,_,rfl⟩,λh=>absurd (HO.out.trans h) HF.out,Hy.out⟩
end
section
open RowKit Shelf
open Qos (Nd Ct Pd nd ct pd af)
open Sv (Gv Hd gv hd gsF aB aF)
open Dvs (Dv dv aW)
attribute [local go_sem] Oper.semAt_some
abbrev fq:=λ(x0:ByteArray) (x1:Int) (x2:Option Addr) (x3 x4:Nat) (x5:Option Addr) (x6 x7:Nat)=>(.cells #[.string x0,.int .i64 x1,.slice x2 x3 x4,.slice x5 x6 x7] 57:Obj)
theorem zw (v:Value) (hs:List Hd) (w:World) (h:aJ w v hs) (hl:hs.length<=100):Calls prog 51 #[v] w λe w'=>∃ (l:List (Pd × Value)) (va:Option Addr) (vc:Nat),e=.returned (.slice va l.length vc)/\l.map Prod.fst=hs.map Hd.pod/\w'.ownsRow w.heap.size 47 3 (.slice va l.length vc) l.length (rowP l)/\(∀ x∈l,aE w x.2 x.1.cs)/\Below w.heap.size w w':=by
 obtain ⟨i0,hi,Hw,Hy,Hv⟩:=info_parts qZ;obtain ⟨ao,c,rfl,hm,hr⟩:=h;unfold maxLen at hm;have HR:=qI hr;clear hr
 go_enter func51,ntmps51
 go_wp2
 go_loopw [3,8] (λpv i wr=>∃ (k:Nat) (l:List (Pd × Value)),k<=hs.length/\i=.int .i64 k/\l.length=k/\l.map Prod.fst=(hs.take k).map Hd.pod/\wr.ownsRow w.heap.size 47 3 pv l.length (rowP l)/\(∀ x∈l,aE w x.2 x.1.cs)/\Below w.heap.size w wr) (λ_ i _=>hs.length - (intOf i).toNat)
 case atStart=>exact ⟨0,[],by omega,rfl,rfl,rfl,Qw _ _ _ _,λx hx=>(List.not_mem_nil hx).elim,Q0 _ _⟩
 case round=>
  obtain ⟨k,l,hk,rfl,Hn,Hj,Ha,Hm,hb⟩:=hrel;have Hs:=qI Hn;have Hi:=qI Hj;have Hp:=qI Hm;have HB:=qI hb;have HC:l.length<=100:=by omega
  have HD:=hb.size;clear Hn Hj Hm
  by_cases hlt:k<hs.length
  ·obtain ⟨b,o,cv,gvv,rfl,Hk⟩:=HR.out (by omega);obtain ⟨x0,x1,x2,x3⟩:=((Hk.below hb).2 k hlt).1;have Hc:=(Hk.2 k hlt).2.1;have Ho:Hid ((hs.take (k+1)).map Hd.pod=(hs.take k).map Hd.pod++[(hd hs k).pod]):=by
    unfold Hid;rw [Qa hlt,Qj];simp [hd,hlt]
   have He:=qI Hc;obtain ⟨ca,cc,Hl,_,_⟩:=id Hc;rw [Hl] at x2 He;obtain ⟨ga,gc,Hq,_,_⟩:=id (Hk.2 k hlt).2.2;rw [Hq] at x3;clear Hk Hc hb Hl Hq;generalize hd hs k=x at *;obtain ⟨⟨xn,xp,xc⟩,xg⟩:=x;dsimp only at x0 x1 x2 x3 He Ho;obtain ⟨va,vc,hv⟩:=fF Ha;subst hv;have hA:=(Q0 wr.heap.size wr).alloc (lR) (fq xn xp ca xc.length cc ga xg.length gc);have Hb:=Ha.alloc (fq xn xp ca xc.length cc ga xg.length gc);have Hz:=qI (HB.out.trans (hA.mono HB.out.size));have Hu:w.heap.size<=(wr.alloc (fq xn xp ca xc.length cc ga xg.length gc)).heap.size:=by simp;omega
   have Hf:=oD (wr.alloc (fq xn xp ca xc.length cc ga xg.length gc)) xn xp (.slice ca xc.length cc) 47;rw [show (wr.alloc (fq xn xp ca xc.length cc ga xg.length gc)).heap.size=wr.heap.size+1 by simp] at Hf;have HA:=qI Hf;have Hx:w.heap.size<=((wr.alloc (fq xn xp ca xc.length cc ga xg.length gc)).alloc (.cells #[.string xn,.int .i64 xp,.slice ca xc.length cc] 47)).heap.size:=by simp;omega
   clear hA Hf Ha
   go_wp2_with (at_builtin;refine wpList_append_own _ rfl _ _ 70 rfl w.heap.size 47 i0 _ 3 48 underlying70 hi Hw Hy Hv rfl (by decide) _ _ _ rfl (Hb.alloc _) ⟨_,0,none⟩ 1 1 (dH (⟨xn,xp,[]⟩,.slice ca xc.length cc)) rfl rfl HA.out (oE xn xp ca xc.length cc) (by unfold maxLen;omega) (by omega) Hx ?_;intro v' W2 Hh Hg _)
   go_roundw
   case rel=>
    refine ⟨k+1,l++[(⟨xn,xp,xc⟩,.slice ca xc.length cc)],by omega,by go_num,by rw [Q2,Hs.out];rfl,by rw [Qj,Hi.out,Ho.out];rfl,?_,λy hy=>?_,?_⟩
    ·rw [oC,Q2];exact Hh
    ·rcases Qi.1 hy with hy|hy
     ·exact Hp.out y hy
     ·rw [Qm.1 hy];exact He.out
    ·exact (Hz.out.alloc Hu _).grown Hg (by simp;omega) λj hj=>(Hb.lt j hj).1
   case measure=>simp [intOf];omega
  ·have Hr:k=hs.length:=by omega
   have HE:Hid (l.map Prod.fst=hs.map Hd.pod):=by unfold Hid;rw [Hi.out,Hr,Qh]
   clear Hr;obtain ⟨va,vc,Ht⟩:=fF Ha;subst Ht
   go_wp2
   go_ret;exact ⟨l,va,vc,rfl,HE.out,Ha,Hp.out,HB.out⟩
theorem nr {hs:List Hd} {nm:ByteArray}:cA hs nm=true↔∃ h∈hs,h.pod.nm=nm:=by
 unfold cA
 simp
theorem LZ {t:Ol.St} (h:Ol.Inv t) {p:Pd} {s:Ol.Sk} (hs:Ol.left t.m t.ds t.hs=some s) (hp:af p=0) (h2:cA t.hs p.nm=false) (h3:t.hs.length<12) (hg:(Ol.give t.m s p).1=0):aB (Ol.bB t.hs ⟨p,(Ol.give t.m s p).2⟩)=0/\(∃ s',Ol.left t.m t.ds (Ol.bB t.hs ⟨p,(Ol.give t.m s p).2⟩)=some s')/\(Ol.bB t.hs ⟨p,(Ol.give t.m s p).2⟩).length=t.hs.length+1:=by
 have Hc:s.ds.length<=16:=by rw [Ol.iO hs];exact (Dvs.gW h.devs).1
 obtain ⟨a1,a2,a3⟩:=Ol.bO.1 h.held;have Hb:(Ol.give t.m s p).2.length=p.cs.length:=Ol.mA t.m s p.cs p.cs.length hg;have Ha:=Ol.insert_perm t.hs ⟨p,(Ol.give t.m s p).2⟩;have hl:(Ol.bB t.hs ⟨p,(Ol.give t.m s p).2⟩).length=t.hs.length+1:=by rw [<- Ha.length_eq,Q2,List.length_singleton]
 refine ⟨Ol.bO.2 ⟨by omega,λx hx=>?_,Ol.wy a3 λy hy e=>?_⟩,⟨_,Ol.ww hs Hc (Ol.lh hp) hg Ha⟩,hl⟩
 ·rcases Qi.1 (Ha.mem_iff.2 hx) with hx|hx
  ·exact a2 x hx
  ·rw [Qm.1 hx];exact ⟨hp,Hb,Ol.rt (Ol.rr p.cs.length)⟩
 ·have:=nr.2 ⟨y,hy,e⟩
  rw [h2] at this;cases this
section exits
variable {t:Ol.St} {p:Pd}
theorem zx (h:af p≠0):Ol.aR t p=(af p,t.hs):=by unfold Ol.aR;rw [if_pos h]
theorem zy (h:af p=0) (h2:cA t.hs p.nm=true):Ol.aR t p=(5,t.hs):=by unfold Ol.aR;rw [if_neg λk=>k h,if_pos (nr.1 h2)]
theorem nu (h2:cA t.hs p.nm=false):¬ ∃ h∈t.hs,h.pod.nm=p.nm:=λh=>by rw [nr.2 h] at h2;cases h2
theorem zA (h:af p=0) (h2:cA t.hs p.nm=false) (h3:12<=t.hs.length):Ol.aR t p=(2,t.hs):=by unfold Ol.aR;rw [if_neg λk=>k h,if_neg (nu h2),if_pos h3]
theorem oT (h:af p=0) (h2:cA t.hs p.nm=false) (h3:t.hs.length<12) (h4:Ol.room t.m (t.hs.map Hd.pod++[p])=false):Ol.aR t p=(7,t.hs):=by unfold Ol.aR;rw [if_neg λk=>k h,if_neg (nu h2),if_neg (by omega),if_pos h4]
variable {s:Ol.Sk}
theorem zB (h:af p=0) (h2:cA t.hs p.nm=false) (h3:t.hs.length<12) (h4:Ol.room t.m (t.hs.map Hd.pod++[p])=true) (hs:Ol.left t.m t.ds t.hs=some s) (h5:(Ol.give t.m s p).1≠0):Ol.aR t p=((Ol.give t.m s p).1,t.hs):=by
 unfold Ol.aR;rw [if_neg λk=>k h,if_neg (nu h2),if_neg (by omega),if_neg (by rw [h4];decide),hs,Option.getD_some,if_pos h5]
theorem zC (h:af p=0) (h2:cA t.hs p.nm=false) (h3:t.hs.length<12) (h4:Ol.room t.m (t.hs.map Hd.pod++[p])=true) (hs:Ol.left t.m t.ds t.hs=some s) (h5:(Ol.give t.m s p).1=0) (h6:6000<(aF (Ol.bB t.hs ⟨p,(Ol.give t.m s p).2⟩)).length):Ol.aR t p=(2,t.hs):=by
 unfold Ol.aR;rw [if_neg λk=>k h,if_neg (nu h2),if_neg (by omega),if_neg (by rw [h4];decide),hs,Option.getD_some,if_neg λk=>k h5,if_pos h6]
theorem L0 (h:af p=0) (h2:cA t.hs p.nm=false) (h3:t.hs.length<12) (h4:Ol.room t.m (t.hs.map Hd.pod++[p])=true) (hs:Ol.left t.m t.ds t.hs=some s) (h5:(Ol.give t.m s p).1=0) (h6:¬ 6000<(aF (Ol.bB t.hs ⟨p,(Ol.give t.m s p).2⟩)).length):Ol.aR t p=(0,Ol.bB t.hs ⟨p,(Ol.give t.m s p).2⟩):=by
 unfold Ol.aR;rw [if_neg λk=>k h,if_neg (nu h2),if_neg (by omega),if_neg (by rw [h4];decide),hs,Option.getD_some,if_neg λk=>k h5,if_neg h6]
end exits
theorem sI {W W':World} {Be Bd Bm n:Nat} {dk dk':Dk} {C:Rn->Prop} (h:bw W Be Bd Bm n dk.n dk.k C) (hg:W.grownBy W' (some Bd)) (hd:bf W' Bd dk') (hc:Calm dk'):bw W' Be Bd Bm n dk'.n dk'.k C:=by
 obtain ⟨a1,a2,a3⟩:=h.apart;obtain ⟨l1,l2,l3⟩:=h.lt;obtain ⟨h1,h2,xs,h3,h4,h5⟩:=h;have hk:cE W W':=⟨hg.size,λk arr z hk=>hg.block k (gS hk).1 (λe=>by
  injection e with e
  have h2:W.heap[Bd]?=_:=h2;rw [<- e,hk] at h2;cases h2)⟩
 obtain ⟨k1,k2⟩:=lA h4 hk;exact ⟨h1.block (hg.block Be l1 λe=>a1 (by injection e)),m5 hd hc,xs,h3.block (hg.block Bm l3 λe=>a3 (by injection e with e;exact e.symm)),k1,λa=>by rw [k2];exact h5 a⟩
def sJ (l:List (Hd × Value × Value)) (i:Nat):Prop:=∀ (base:Nat) (v:Value) (y:Hd × Value × Value) (a:Addr) (w:World),w.ownsRow base 57 4 v l.length (l.flatMap ar)->(∀ j u,(ar y)[j]?=some u->w.cell? (a.add j)=some u)->(∀ u∈ar y,u.oneCell'=true)->base<=w.heap.size->v.ownBlock≠some a.block->(∃ arr ty,w.heap[a.block]?=some (Obj.cells arr ty (0,0)))->(∀ x∈l,∀ u∈ar x,u.oneCell'=true)->
 Calls prog 54 #[v,.int .i64 i,.slice (some a) 1 1] w λe w'=>∃ v',e=.returned v'/\w'.ownsRow base 57 4 v' (l.length+1) ((l.take i++y :: l.drop i).flatMap ar)/\w.grownBy w' v.ownBlock
theorem zD {l:List (Hd × Value × Value)} (h:l.length<=100):sJ l l.length:=by
 intro base v y a w h1 h2 h3 h4 _ _ _;refine (LF base v l.length _ (ar y) a 1 w h1 h2 rfl h3 h h4).mono ?_;rintro e w' ⟨v',rfl,k1,k2⟩;refine ⟨v',rfl,?_,k2⟩;rw [Qh,List.drop_length,List.flatMap_append]
 simpa using k1
theorem L1 (l:List (Hd × Value × Value)) (i:Nat) (y:Hd × Value × Value):(l.take i++y :: l.drop i).map Prod.fst=(l.map Prod.fst).take i++y.1 :: (l.map Prod.fst).drop i:=by simp [List.map_take,List.map_drop]
theorem zE {W:World} {v:Value} {l:List (Hd × Value × Value)} {N:Nat} {M:Nat->Prop} (h:W.ownsRow N 57 4 v l.length (l.flatMap ar)) (hN:∀ j,M j->j<N) (hin:∀ x∈l,aE (ag M W) x.2.1 x.1.pod.cs/\bz (ag M W) x.2.2 x.1.gs):aJ (ag M W) v (l.map Prod.fst):=by
 have h':=h
 rcases h.2 with ⟨hv,h0⟩|⟨g,cap,cur,hv,hg,Hc,Ha,Hb,_⟩
 ·have:l=[]:=Qe h0
  subst this;rw [hv];exact ⟨none,0,rfl,⟨lR,Nat.zero_le _⟩,λh=>absurd h (Nat.lt_irrefl 0)⟩
 ·subst hv;have key:∀ (l:List (Hd × Value × Value)) (k:Nat) (hk:k<l.length) (j:Nat),j<4->(l.flatMap ar)[k*4+j]?=(ar l[k])[j]?:=by
   intro l
   induction l with
   | nil=>intro k hk;simp at hk
   | cons a l ih=>
    intro k hk j hj;rw [List.flatMap_cons];cases k with
    | zero=>rw [List.getElem?_append_left (by simp [ar];omega)];simp
    | succ k=>
     rw [List.getElem?_append_right (by simp [ar];omega)]
     have:=ih k (by simpa using hk) j hj
     simp only [List.getElem_cons_succ];rw [<- this]
     congr 1
     simp [ar]
     omega
  refine ⟨_,cap,by rw [Q9],by rw [Q9];exact ⟨Ha,Hb⟩,λ_=>⟨g,0,λk=>(l.getD k (Sv.hd [] 0,.nilIface,.nilIface)).2.1,λk=>(l.getD k (Sv.hd [] 0,.nilIface,.nilIface)).2.2,rfl,by rw [bH];exact (gS Hc).1,λk hk=>?_⟩⟩;rw [Q9] at hk;have e:hd (l.map Prod.fst) k=l[k].1:=by simp [hd,hk]
  have e2:l.getD k (Sv.hd [] 0,.nilIface,.nilIface)=l[k]:=by simp [hk]
  obtain ⟨q1,q2⟩:=hin _ (List.getElem_mem hk);dsimp only;rw [e,e2];have cc:∀ j,j<4->(ag M W).cell? ⟨g,0+k*4+j,none⟩=(ar l[k])[j]?:=λj hj=>by
   rw [World.cell?_of_block (a:=⟨g,0+k*4+j,none⟩) (bZ (λhm=>by have:=hN g hm;omega)),Qd,h'.cellAt (k*4+j) (by omega)];exact key l k hk j hj
  exact ⟨⟨cc 0 (by decide),cc 1 (by decide),cc 2 (by decide),cc 3 (by decide)⟩,q1,q2⟩
theorem zF {w':World} {N:Nat} {u:Value} {hs:List Hd} {cv gvv:Nat->Value} (h:w'.ownsRow N 57 4 u hs.length ((List.range hs.length).flatMap λk=>oS (hd hs k) (cv k) (gvv k))) {W0:World} (hin:∀ k,k<hs.length->aE W0 (cv k) (hd hs k).pod.cs/\bz W0 (gvv k) (hd hs k).gs):∃ l:List (Hd × Value × Value),l.map Prod.fst=hs/\w'.ownsRow N 57 4 u l.length (l.flatMap ar)/\∀ x∈l,aE W0 x.2.1 x.1.pod.cs/\bz W0 x.2.2 x.1.gs:=by
 refine ⟨(List.range hs.length).map λk=>(hd hs k,cv k,gvv k),?_,?_,?_⟩
 ·rw [List.map_map];refine List.ext_getElem (by simp) λi h1 h2=>?_
  simp [hd,h2]
 ·rw [Q9,List.length_range,List.flatMap_map];exact h
 ·intro x hx;obtain ⟨k,hk,rfl⟩:=Qk.1 hx;exact hin k (List.mem_range.1 hk)
end
section
open RowKit Shelf
open Qos (Nd Ct Pd nd ct pd af)
open Sv (Gv Hd gv hd gsF aB aF)
open Dvs (Dv dv aW)
theorem L4 {X V:World} {tb b o c pb:Nat} {m:Ol.Mc} (h:cK X tb b o c m) (hb:Below X.heap.size X V) (hp:X.heap.size<=pb):cK (ag (λj=>j=pb) V) tb b o c m:=by
 have h1:=h.topo.tlt;have h2:=h.topo.lt;refine ⟨jO h.topo ?_ ?_ ?_,h.good,h.op,h.nd,h.pol⟩
 ·rw [bZ (by omega),hb.block tb h1]
 ·rw [bZ (by omega),hb.block b h2]
 ·rw [bH];exact hb.size
theorem L5 {M:Nat->Prop} {W:World} {tb b c:Nat} {m:Ol.Mc} (h:cK (ag M W) tb b 0 c m) (h0:0<m.l.length):cK W tb b 0 c m:=by
 have nt:¬ M tb:=eP h.topo.cell;have nb:¬ M b:=eP (h.topo.cells 0 h0).1;exact ⟨jO h.topo (bZ nt).symm (bZ nb).symm (by rw [bH];exact lR),h.good,h.op,h.nd,h.pol⟩
theorem nw {M:Nat->Prop} {W W':World} {tb b c:Nat} {m:Ol.Mc} (h:cK (ag M W) tb b 0 c m) (h0:0<m.l.length) (ha:∀ j,j<W.heap.size->¬ M j->W'.heap[j]?=W.heap[j]?) (hs:W.heap.size<=W'.heap.size):cK (ag M W') tb b 0 c m:=by
 have nt:¬ M tb:=eP h.topo.cell;have nb:¬ M b:=eP (h.topo.cells 0 h0).1;have h1:=h.topo.tlt;have h2:=h.topo.lt;rw [bH] at h1 h2;refine ⟨jO h.topo ?_ ?_ ?_,h.good,h.op,h.nd,h.pol⟩
 ·rw [bZ nt,bZ nt,ha tb h1 nt]
 ·rw [bZ nb,bZ nb,ha b h2 nb]
 ·rw [bH,bH];exact hs
theorem L6 {W:World} {x:Hd × Value × Value} (h:aE W x.2.1 x.1.pod.cs/\bz W x.2.2 x.1.gs):∀ u∈ar x,u.oneCell'=true:=by
 obtain ⟨a,cv,gv⟩:=x;obtain ⟨⟨a1,c1,e1,_⟩,⟨a2,c2,e2,_⟩⟩:=h;dsimp only at e1 e2;subst e1 e2;exact sE _ _ _ _ _ _ _
theorem L7 {M:Nat->Prop} {w C:World} {K:Nat} {l:List (Hd × Value × Value)} {v:Value} {i:Nat} {y:Hd × Value × Value} (hrow:C.ownsRow K 57 4 v (l.length+1) ((l.take i++y :: l.drop i).flatMap ar)) (hM:∀ j,M j->j<w.heap.size) (hw:w.heap.size<=K) (old:∀ x∈l,aE (ag M w) x.2.1 x.1.pod.cs/\bz (ag M w) x.2.2 x.1.gs) (hb:Below w.heap.size w C) (h1:aE (ag M C) y.2.1 y.1.pod.cs) (h2:bz (ag M C) y.2.2 y.1.gs):aJ (ag M C) v ((l.map Prod.fst).take i++y.1 :: (l.map Prod.fst).drop i):=by
 rw [<- L1];have Ha:(l.take i++y :: l.drop i).length=l.length+1:=by simp;omega
 have hle:aq (ag M w) (ag M C):=bE (λj hj hn=>⟨hn,hb.block j hj⟩) hb.size;refine zE (N:=K) (by rw [Ha];exact hrow) (λj hj=>Q1 (hM j hj) hw) λx hx=>?_
 rcases Qi.1 hx with hx|hx
 ·exact ⟨(old x (List.mem_of_mem_take hx)).1.le hle,(old x (List.mem_of_mem_take hx)).2.le hle⟩
 ·rcases List.mem_cons.1 hx with hx|hx
  ·rw [hx];exact ⟨h1,h2⟩
  ·exact ⟨(old x (List.mem_of_mem_drop hx)).1.le hle,(old x (List.mem_of_mem_drop hx)).2.le hle⟩
section
variable {N:Nat->Prop} {Ba Bd Be Bm:Nat} {t:Ol.St} {dk:Dk} {n:Nat} {p:Pd}
theorem aK.keep {w W:World} (h:aK w N Ba Bd Be Bm t dk n) (hb:Below w.heap.size w W):aK W N Ba Bd Be Bm t dk n:=h.grow hb (λ_ k=>.inl k) (λj k=>Q1 (h.nlt j k) hb.size)
theorem aK.disk {W W':World} {dk':Dk} (h:aK W N Ba Bd Be Bm t dk n) (hg:W.grownBy W' (some Bd)) (hd:bf W' Bd dk') (hc:Calm dk'):aK W' N Ba Bd Be Bm t dk' n:=by
 have hE:=sI h.eng hg hd hc;obtain ⟨h1,h2,Ha,h3,h4,h5,h6,h7,tb,b,c,hv,pb,db,ao,pc,s,k1,k2,k3,k4,k5,k6,k7⟩:=h;have hf:∀ j,j<W.heap.size->¬ four N Ba Bd Bm j->W'.heap[j]?=W.heap[j]?:=λj hj hn=>hg.block j hj λe=>hn (.inr (.inr (.inl (by injection e))))
 refine ⟨h1,hc,Ha,hE,h4,h5,λj hj=>Q1 (h6 j hj) hg.size,h7,tb,b,c,hv,pb,db,ao,pc,s,(hg.block Ba k1.lt λe=>h4.1 (by injection e)).trans k1,k2.le (bE (λj hj hn=>⟨hn,hf j hj hn⟩) hg.size),nw k3 Ha hf hg.size,k4,⟨lE k5.pool (hf pb k5.pool.lt k6) (λh0=>hf db (k5.pool.at0 h0).2.2 (k7 h0)) hg.size,k5.nodes,k5.cp⟩,k6,k7⟩
theorem ny {w W:World} {e:Nat} (h:aK w N Ba Bd Be Bm t dk n) (hb:Below w.heap.size w W) (he:Ol.aR t p=(e,t.hs)):(∃ dk' n',(n'<=n+dK (ap t.hs) (ap (Ol.aR t p).2)/\fK w W Ba)/\aK W N Ba Bd Be Bm ⟨t.m,t.ds,(Ol.aR t p).2⟩ dk' n')/\Apart (three Ba Bd Bm) w W:=by
 rw [he];exact ⟨⟨dk,n,⟨Nat.le_add_right _ _,.inl (hb.block Ba h.poolAt.1)⟩,h.keep hb⟩,Apart.of_below hb⟩
theorem L8 {w W W':World} {e:Nat} {dk':Dk} (h:aK w N Ba Bd Be Bm t dk n) (hb:Below w.heap.size w W) (hg:W.grownBy W' (some Bd)) (hd:bf W' Bd dk') (hc:Calm dk') (he:Ol.aR t p=(e,t.hs)):(∃ dk' n',(n'<=n+dK (ap t.hs) (ap (Ol.aR t p).2)/\fK w W' Ba)/\aK W' N Ba Bd Be Bm ⟨t.m,t.ds,(Ol.aR t p).2⟩ dk' n')/\Apart (three Ba Bd Bm) w W':=by
 rw [he];exact ⟨⟨dk',n,⟨Nat.le_add_right _ _,.inl ((hg.block Ba (Q1 h.poolAt.1 hb.size) λe=>h.apart.1 (by injection e)).trans (hb.block Ba h.poolAt.1))⟩,(h.keep hb).disk hg hd hc⟩,(Apart.of_below hb).trans (eu hg λj e _=>.inr (.inl (by injection e with e;exact e.symm)))⟩
theorem aK.next {w W0 W1 W2 W3:World} {m:Ol.Mc} {ds:List Dv} {hs:List Hd} {dk':Dk} {n' tb b c pb db:Nat} {v v0:Value} {ao:Option Addr} {pc cp0 pb0:Nat} {s:Ol.Sk} (h:aK w N Ba Bd Be Bm t dk n) (hb:Below w.heap.size w W0) (hT:cK (ag (four N Ba Bd Bm) W0) tb b 0 c m) (h0:0<m.l.length) (hH:aJ (ag (four N Ba Bd Bm) W0) v hs) (hg:W0.grownBy W1 (some Bd)) (ho:bd Bd Bm W1 W2) (ha:Apart (λj=>j=Ba) W2 W3) (hO:bg W3 Ba tb m Bd Be v s.cp pb) (hS:dj W3 pb db ao pc s) (hpb:W2.heap.size<=pb) (hdb:0<s.ds.length->W2.heap.size<=db) (hE:bw W2 Be Bd Bm n' dk'.n dk'.k (λa=>a∈ap hs)) (hO2:bg W2 Ba tb m Bd Be v0 cp0 pb0) (hi:Ol.Inv ⟨m,ds,hs⟩) (hl:Ol.left m ds hs=some s) (hc:Calm dk') (htx:(aF hs).length<=6000):aK W3 N Ba Bd Be Bm ⟨m,ds,hs⟩ dk' n':=by
 have z1:=hb.size;have z2:=hg.size;have z3:=ho.size;have z4:=ha.size;have hf:∀ j,j<W0.heap.size->¬ four N Ba Bd Bm j->W3.heap[j]?=W0.heap[j]?:=λj hj hn=>
  (ha.block j (by omega) λe=>hn (.inr (.inl e))).trans ((ho.block j (by omega) (λe=>hn (.inr (.inr (.inl e)))) λe=>hn (.inr (.inr (.inr e)))).trans (hg.block j hj λe=>hn (.inr (.inr (.inl (by injection e))))))
 obtain ⟨l1,l2,l3⟩:=h.eng.lt;obtain ⟨q1,q2,q3,q4,q5,q6,q7,q9,q8⟩:=h;have l4:Ba<w.heap.size:=by
  obtain ⟨_,_,_,_,_,_,_,_,_,k1,_⟩:=q8;exact k1.lt
 have f4:∀ j,W2.heap.size<=j->¬ four N Ba Bd Bm j:=λj hj e=>by
  rcases e with e|e|e|e
  ·have:=q7 j e;omega
  all_goals omega
 exact ⟨hi,hc,h0,pi hE ha q5 hO2.notInt,q5,q6,λj hj=>by have:=q7 j hj;omega,htx,tb,b,c,v,pb,db,ao,pc,s,hO,hH.le (bE (λj hj hn=>⟨hn,hf j hj hn⟩) (by omega)),nw hT h0 hf (by omega),hl,hS,f4 pb hpb,λh=>f4 db (hdb h)⟩
end
end
end Go.Proofs.YtbmmnflgnmjboaaGreatDoor
namespace Go.Proofs
open Go.Shelf
shelf_lay_g SlLaysH0.n6 Slgf 6 at Tryz 151 as Tryz.idxH
end Go.Proofs
namespace Go.Proofs.YtbmmnflgnmjboaaGreatDoor
section
open RowKit Shelf
open Qos (Nd Ct Pd nd ct pd af)
open Sv (Gv Hd gv hd gsF aB aF)
attribute [local go_sem] Oper.semAt_some
structure HS where
 h:Hd
 ca:Option Addr
 cn:Nat
 cc:Nat
 ga:Option Addr
 gn:Nat
 gc:Nat
instance:Inhabited HS:=⟨⟨Sv.hd [] 0,none,0,0,none,0,0⟩⟩
def HS.tri (x:HS):Hd × Value × Value:=(x.h,.slice x.ca x.cn x.cc,.slice x.ga x.gn x.gc)
def HS.cells (x:HS):List Value:=[.string x.h.pod.nm,.int .i64 x.h.pod.pr,.slice x.ca x.cn x.cc,.slice x.ga x.gn x.gc]
def b9 (L:List HS) (k:Nat):HS:=L.getD k default
theorem pj {L:List HS} {k:Nat} (h:k<L.length):b9 L k=L[k]:=by simp [b9,h]
theorem L9 {W:World} {l:List (Hd × Value × Value)} (h:∀ x∈l,aE W x.2.1 x.1.pod.cs/\bz W x.2.2 x.1.gs):∃ L:List HS,L.map HS.tri=l:=by
 induction l with
 | nil=>exact ⟨[],rfl⟩
 | cons x l ih=>
  obtain ⟨L,hL⟩:=ih λy hy=>h y (Qv _ hy)
  obtain ⟨⟨a1,c1,e1,_⟩,a2,c2,e2,_⟩:=h x List.mem_cons_self;refine ⟨⟨x.1,a1,x.1.pod.cs.length,c1,a2,x.1.gs.length,c2⟩ :: L,?_⟩;rw [Qq,hL]
  congr 1
  obtain ⟨x1,x2,x3⟩:=x;dsimp only at e1 e2;rw [e1,e2];rfl
def Has (cur:Array Value) (k:Nat) (x:HS):Prop:=cur[k*4]?=some (.string x.h.pod.nm)/\cur[k*4+1]?=some (.int .i64 x.h.pod.pr)/\cur[k*4+2]?=some (.slice x.ca x.cn x.cc)/\cur[k*4+3]?=some (.slice x.ga x.gn x.gc)
def bV (W:World) (g cap:Nat) (R:Nat->HS->Prop):Prop:=∃ cur,W.heap[g]?=some (.cells cur 57 (0,0))/\cur.size=cap*4/\∀ k x,R k x->Has cur k x
theorem bV.mono {W:World} {g cap:Nat} {R R':Nat->HS->Prop} (h:bV W g cap R) (hr:∀ k x,R' k x->R k x):bV W g cap R':=by
 obtain ⟨cur,h1,h2,h3⟩:=h;exact ⟨cur,h1,h2,λk x hx=>h3 k x (hr k x hx)⟩
theorem bV.lt {W:World} {g cap:Nat} {R:Nat->HS->Prop} (h:bV W g cap R):g<W.heap.size:=by
 obtain ⟨cur,h1,_⟩:=h;exact (gS h1).1
theorem bV.block {W W':World} {g cap:Nat} {R:Nat->HS->Prop} (h:bV W g cap R) (hb:W'.heap[g]?=W.heap[g]?):bV W' g cap R:=by
 obtain ⟨cur,h1,h2,h3⟩:=h;exact ⟨cur,hb.trans h1,h2,h3⟩
theorem bV.cells {W:World} {g cap:Nat} {R:Nat->HS->Prop} (h:bV W g cap R) {k:Nat} {x:HS} (hr:R k x):W.cell? ⟨g,k*4,none⟩=some (.string x.h.pod.nm)/\W.cell? ⟨g,k*4+1,none⟩=some (.int .i64 x.h.pod.pr)/\W.cell? ⟨g,k*4+2,none⟩=some (.slice x.ca x.cn x.cc)/\W.cell? ⟨g,k*4+3,none⟩=some (.slice x.ga x.gn x.gc):=by
 obtain ⟨cur,h1,h2,h3⟩:=h;obtain ⟨a,b,c,d⟩:=h3 k x hr;have cc:∀ j,W.cell? ⟨g,j,none⟩=cur[j]?:=λj=>by simp [World.cell?,h1]
 rw [cc,cc,cc,cc];exact ⟨a,b,c,d⟩
theorem bV.frozen {W:World} {g cap:Nat} {R:Nat->HS->Prop} (h:bV W g cap R) (j:Nat):W.frozen? ⟨g,j,none⟩=false:=by
 obtain ⟨cur,h1,_⟩:=h;exact ai h1 j
theorem bV.there {W:World} {g cap:Nat} {R:Nat->HS->Prop} (h:bV W g cap R) {j:Nat} (hj:j<cap*4):(W.cell? ⟨g,j,none⟩).isSome=true:=by
 obtain ⟨cur,h1,h2,_⟩:=h;have cc:W.cell? ⟨g,j,none⟩=cur[j]?:=by simp [World.cell?,h1]
 rw [cc,Array.getElem?_eq_getElem (by omega)];rfl
theorem bV.set {W:World} {g cap:Nat} {R:Nat->HS->Prop} (h:bV W g cap R) {i:Nat} (hi:i<cap) (y:HS):bV ((((W.setCell ⟨g,i*4,none⟩ (.string y.h.pod.nm)).setCell ⟨g,i*4+1,none⟩ (.int .i64 y.h.pod.pr)).setCell ⟨g,i*4+2,none⟩ (.slice y.ca y.cn y.cc)).setCell ⟨g,i*4+3,none⟩ (.slice y.ga y.gn y.gc)) g cap (λk x=>(k=i/\x=y)\/(k≠i/\R k x)):=by
 obtain ⟨cur,h1,h2,h3⟩:=h;refine ⟨_,ah (ah (ah (ah h1 (i*4) _) (i*4+1) _) (i*4+2) _) (i*4+3) _,by simp [h2],?_⟩;rintro k x (⟨rfl,rfl⟩|⟨hk,hr⟩)
 ·unfold Has;simp only [Array.getElem?_setIfInBounds,Array.size_setIfInBounds];refine ⟨?_,?_,?_,?_⟩
  ·rw [if_neg (by omega),if_neg (by omega),if_neg (by omega),if_pos trivial,if_pos (by omega)]
  ·rw [if_neg (by omega),if_neg (by omega),if_pos trivial,if_pos (by omega)]
  ·rw [if_neg (by omega),if_pos trivial,if_pos (by omega)]
  ·rw [if_pos trivial,if_pos (by omega)]
 ·obtain ⟨a,b,c,d⟩:=h3 k x hr;unfold Has;simp only [Array.getElem?_setIfInBounds];refine ⟨?_,?_,?_,?_⟩
  ·rw [if_neg (by omega),if_neg (by omega),if_neg (by omega),if_neg (by omega)];exact a
  ·rw [if_neg (by omega),if_neg (by omega),if_neg (by omega),if_neg (by omega)];exact b
  ·rw [if_neg (by omega),if_neg (by omega),if_neg (by omega),if_neg (by omega)];exact c
  ·rw [if_neg (by omega),if_neg (by omega),if_neg (by omega),if_neg (by omega)];exact d
theorem bV.tail {g cap i:Nat} {R:Nat->HS->Prop} (hR:∀ k x,R k x->k<i):∀ (vs:List Value) (o:Nat) (W:World),i*4<=o->bV W g cap R->bV (W.setCells g o vs) g cap R:=by
 intro vs
 induction vs with
 | nil=>intro o W _ h;exact h
 | cons v vs ih=>
  intro o W ho h;rw [World.setCells];refine ih (o+1) _ (by omega) ?_;obtain ⟨cur,h1,h2,h3⟩:=h;refine ⟨_,ah h1 o v,by simp [h2],λk x hx=>?_⟩;obtain ⟨a,b,c,d⟩:=h3 k x hx
  have:=hR k x hx
  unfold Has;simp only [Array.getElem?_setIfInBounds];refine ⟨?_,?_,?_,?_⟩
  ·rw [if_neg (by omega)];exact a
  ·rw [if_neg (by omega)];exact b
  ·rw [if_neg (by omega)];exact c
  ·rw [if_neg (by omega)];exact d
theorem zG (L:List HS) (k j:Nat) (hk:k<L.length) (hj:j<4):((L.map HS.tri).flatMap ar)[k*4+j]?=(HS.cells L[k])[j]?:=by
 induction L generalizing k with
 | nil=>simp at hk
 | cons a l ih=>
  rw [Qq,List.flatMap_cons];cases k with
  | zero=>rw [List.getElem?_append_left (by simp [ar];omega)];simp [ar,HS.tri,HS.cells]
  | succ k=>
   rw [List.getElem?_append_right (by simp [ar];omega)]
   have:=ih k (by simpa using hk)
   simp only [List.getElem_cons_succ];rw [<- this]
   congr 1
   simp [ar]
   omega
theorem zH (L:List HS):((L.map HS.tri).flatMap ar).length=L.length*4:=by
 induction L with
 | nil=>rfl
 | cons a l ih=>rw [Qq,List.flatMap_cons,Q2,ih,Qg];simp [ar];omega
theorem Ma {W:World} {base g n cap:Nat} {L:List HS} (h:W.ownsRow base 57 4 (.slice (some ⟨g,0,none⟩) n cap) L.length ((L.map HS.tri).flatMap ar)):bV W g cap (λk x=>k<L.length/\x=b9 L k)/\base<=g/\L.length<=cap/\cap<=maxLen:=by
 rcases h.2 with ⟨h1,_⟩|⟨g',cap',cur,h1,h2,h3,h4,h5,h6,h7⟩
 ·cases h1
 ·cases h1;refine ⟨⟨cur,h3,h6,?_⟩,h2,h4,h5⟩;rintro k x ⟨hk,rfl⟩;rw [pj hk];have e:∀ j,j<4->cur[k*4+j]?=(HS.cells L[k])[j]?:=λj hj=>by
   rw [<- zG L k j hk hj,<- h7,List.getElem?_take,if_pos (by omega),Array.getElem?_toList]
  exact ⟨e 0 (by decide),e 1 (by decide),e 2 (by decide),e 3 (by decide)⟩
theorem Mb {W:World} {base g cap:Nat} {L:List HS} (h:bV W g cap (λk x=>k<L.length/\x=b9 L k)) (hb:base<=g) (hl:L.length<=cap) (hc:cap<=maxLen):W.ownsRow base 57 4 (.slice (some ⟨g,0,none⟩) L.length cap) L.length ((L.map HS.tri).flatMap ar):=by
 obtain ⟨cur,h1,h2,h3⟩:=h;refine ⟨zH L,.inr ⟨g,cap,cur,rfl,hb,h1,hl,hc,h2,?_⟩⟩;have Ha:cur.toList.length=cap*4:=by simpa using h2
 refine List.ext_getElem? λq=>?_
 rw [List.getElem?_take]
 by_cases hq:q<L.length*4
 ·rw [if_pos hq];have e1:q=q / 4*4+q % 4:=by omega
  have hk:q / 4<L.length:=by omega
  obtain ⟨a,b,c,d⟩:=h3 (q / 4) _ ⟨hk,rfl⟩;rw [pj hk] at a b c d;have hm:q % 4<4:=Nat.mod_lt _ (by decide);rw [e1,zG L (q / 4) (q % 4) hk hm,Array.getElem?_toList]
  have:q % 4=0\/q % 4=1\/q % 4=2\/q % 4=3:=by omega
  rcases this with e|e|e|e <;> rw [e]
  ·exact a
  ·exact b
  ·exact c
  ·exact d
 ·rw [if_neg hq,List.getElem?_eq_none (by rw [zH];omega)]
end
section
open RowKit Shelf
open Qos (Nd Ct Pd nd ct pd af)
open Sv (Gv Hd gv hd gsF aB aF)
attribute [local go_sem] Oper.semAt_some
def sK (nm:ByteArray):Obj:=.cells #[.string nm] 9
abbrev zI:=λ(x0:HS)=>(.cells #[.string x0.h.pod.nm,.int .i64 x0.h.pod.pr,.slice x0.ca x0.cn x0.cc,.slice x0.ga x0.gn x0.gc] 57:Obj)
theorem zJ (x:HS) (nm:ByteArray) (Bn:Nat) (W:World) (hB:W.heap[Bn]?=some (sK nm)):Calls prog 113 #[.agg #[.string x.h.pod.nm,.int .i64 x.h.pod.pr,.slice x.ca x.cn x.cc,.slice x.ga x.gn x.gc],.pointer (some ⟨Bn,0,none⟩)] W λe w'=>e=.returned (.bool (decide (x.h.pod.nm=nm)))/\Below W.heap.size W w':=by
 have b0:(W.alloc (zI x)).cell? ⟨Bn,0,none⟩=some (.string nm):=aa (bj hB _) 0;have Ha:Bn≠W.heap.size:=by have:=(gS hB).1;omega
 have HB:=qI ((Q0 W.heap.size W).alloc (lR) (zI x));have h1:=kW x.h.pod.nm nm;clear hB;generalize decide (x.h.pod.nm=nm)=bb at *
 go_enter func113,ntmps113
 go_wp2
 go_ret;exact ⟨rfl,HB.out⟩
theorem Md (p:HS->Bool):∀ (l:List HS) (i:Nat),(Lib.idxByFrom (λ_ y=>p y) default l i=-1/\∀ x∈l,p x=false)\/∃ k,k<l.length/\Lib.idxByFrom (λ_ y=>p y) default l i=((i+k:Nat):Int)/\p (b9 l k)=true/\∀ x∈l.take k,p x=false:=by
 intro l
 induction l with
 | nil=>intro i;exact .inl ⟨rfl,λx hx=>by cases hx⟩
 | cons y r ih=>
  intro i;cases h:p y with
  | true=>exact .inr ⟨0,by simp,by simp [Lib.idxByFrom,h],by simpa [b9] using h,λx hx=>by cases hx⟩
  | false=>
   rcases ih (i+1) with ⟨e,ha⟩|⟨k,hk,e,ht,ha⟩
   ·exact .inl ⟨by simp [Lib.idxByFrom,h,e],λx hx=>by rcases List.mem_cons.1 hx with rfl|hx;exact h;exact ha x hx⟩
   ·refine .inr ⟨k+1,by simpa using hk,?_,by simpa [b9] using ht,λx hx=>?_⟩
    ·simp only [Lib.idxByFrom,h];rw [show (if false=true then (i:Int) else Lib.idxByFrom (λ_ y=>p y) default r (i+1))=Lib.idxByFrom (λ_ y=>p y) default r (i+1) from rfl,e]
     congr 1
     omega
    ·rw [List.take_succ_cons] at hx
     rcases List.mem_cons.1 hx with rfl|hx
     ·exact h
     ·exact ha x hx
theorem Me (nm:ByteArray) (Bn g cap:Nat) (L:List HS) (w:World) (hB:w.heap[Bn]?=some (sK nm)) (hr:bV w g cap (λk x=>k<L.length/\x=b9 L k)) (hl:L.length<=100) :
  Calls prog 151 #[.slice (some ⟨g,0,none⟩) L.length cap,.func (.func 113) #[] #[.pointer (some ⟨Bn,0,none⟩)]] w λe w'=>e=.returned (.int .i64 (Lib.idxByFrom (λ_ y=>decide (y.h.pod.nm=nm)) default L 0))/\Below w.heap.size w w':=by
 have eg:∀ args w,(callFunc 113 args).run prog w=.ok (.enter 113 args) w:=enters_of func113 (by kernel_rfl) rfl;have Hb:Bn<w.heap.size:=(gS hB).1;have hp:PredBelow prog 113 #[.pointer (some ⟨Bn,0,none⟩)] (λx:HS=>.agg (HS.cells x).toArray) (λy=>decide (y.h.pod.nm=nm)) w:=λW x hb=>by
  refine (zJ x nm Bn W ((hb.block Bn Hb).trans hB)).mono ?_;rintro e w' ⟨rfl,Hc⟩;exact ⟨rfl,hb.trans (Hc.mono hb.size)⟩
 have Ha:=AnyQ.slices_IndexFunc Tryz.idxH 4 isAgg57 sizeOf57 HS.cells (λ_=>rfl) (λy=>decide (y.h.pod.nm=nm)) 113 #[.pointer (some ⟨Bn,0,none⟩)] eg g 0 L.length cap L w hp (lR) (by omega) hr.lt (λj hj i v hi=>by
  have e:L[j]! = b9 L j:=by rw [getElem!_pos L j hj,pj hj]
  rw [e] at hi;obtain ⟨a,b,c,d⟩:=hr.cells (k:=j) ⟨hj,rfl⟩;rw [Qd]
  match i,hi with
  | 0,hi=>simp [HS.cells] at hi;subst hi;exact a
  | 1,hi=>simp [HS.cells] at hi;subst hi;exact b
  | 2,hi=>simp [HS.cells] at hi;subst hi;exact c
  | 3,hi=>simp [HS.cells] at hi;subst hi;exact d
  | q+4,hi=>simp [HS.cells] at hi)
 rw [Qh] at Ha;exact Ha
theorem Mf (w:World):(zeroValue 57).run prog w=.ok (.agg #[.string ByteArray.empty,.int .i64 0,.slice none 0 0,.slice none 0 0]) w:=by kernel_rfl
theorem Mg (w:World) (ty:TypeId) (g o n c:Nat) (hn:0<n) (hc:∀ j,j<n*4->(w.cell? ⟨g,o+j,none⟩).isSome=true) (hf:∀ j,w.frozen? ⟨g,j,none⟩=false) :
  ∃ vs:List Value,(Builtin.clear_ #[53] ty #[.slice (some ⟨g,o,none⟩) n c]).run prog w=.ok (.tuple #[]) (w.setCells g o vs):=by
 have hv:=Mf w;have He:(Value.agg #[.string ByteArray.empty,.int .i64 0,.slice none 0 0,.slice none 0 0]).cells=#[.string ByteArray.empty,.int .i64 0,.slice none 0 0,.slice none 0 0]:=by rfl
 obtain ⟨vs,Hb⟩:∃ vs,vs=(Builtin.zeroCells (Value.agg #[.string ByteArray.empty,.int .i64 0,.slice none 0 0,.slice none 0 0]).cells n).toList:=⟨_,rfl⟩;have Hf:vs.length=n*4:=by rw [Hb,He];simp [Builtin.zeroCells]
 have Ha:∀ u∈vs,u.oneCell'=true:=λu hu=>by
  rw [Hb,He] at hu;simp only [Builtin.zeroCells,Array.toList_map,Qk] at hu;obtain ⟨q,_,rfl⟩:=hu;have hq:q % 4<4:=Nat.mod_lt _ (by decide)
  have:q % 4=0\/q % 4=1\/q % 4=2\/q % 4=3:=by omega
  show (#[Value.string ByteArray.empty,.int .i64 0,.slice none 0 0,.slice none 0 0][q % 4]!).oneCell'=true
  rcases this with e|e|e|e <;> rw [e] <;> rfl
 have Hc:=run_storeCells_cells (P:=prog) g o vs 0 w (λj hj=>by rw [Nat.add_zero];exact hc j (by omega)) (λj _=>hf _) Ha;obtain ⟨m,rfl⟩:∃ m,n=m+1:=⟨n - 1,by omega⟩;simp only [Nat.add_zero] at Hc;refine ⟨vs,?_⟩
 simp [Builtin.clear_,run_underlying underlying53,hv,<- Hb,Hc]
end
section
open RowKit Shelf
open Qos (Nd Ct Pd nd ct pd af)
open Sv (Gv Hd gv hd gsF aB aF)
attribute [local go_sem] Oper.semAt_some
def kept (L:List HS) (nm:ByteArray):List HS:=L.filter λx=>!decide (x.h.pod.nm=nm)
theorem zK {L:List HS} {nm:ByteArray} (h:∀ x∈L,decide (x.h.pod.nm=nm)=false):kept L nm=L:=List.filter_eq_self.2 λx hx=>by rw [h x hx];rfl
theorem zL {L:List HS} {nm:ByteArray} {b:Nat} (hb:b<L.length):kept (L.take (b+1)) nm=kept (L.take b) nm++(if decide ((b9 L b).h.pod.nm=nm) then [] else [b9 L b]):=by
 rw [Qa hb,<- pj hb];unfold kept;rw [List.filter_append];cases h:decide ((b9 L b).h.pod.nm=nm) <;> simp [h]
theorem Mh {A B:List HS} {k:Nat} (h:k<A.length):b9 (A++B) k=b9 A k:=by simp [b9,List.getD,List.getElem?_append_left h]
theorem Mi {A:List HS} {x:HS}:b9 (A++[x]) A.length=x:=by simp [b9,List.getD]
theorem Mj {L:List HS} {k b:Nat} (h:k<b):b9 (L.take b) k=b9 L k:=by simp [b9,List.getD,h]
theorem nz (g:Nat):∀ (vs:List Value) (o:Nat) (W:World),W.grownBy (W.setCells g o vs) (some g):=by
 intro vs
 induction vs with
 | nil=>intro o W;exact dD (Q0 _ _) _
 | cons v vs ih=>intro o W;exact (bL W ⟨g,o,none⟩ v).trans (ih (o+1) _)
theorem Mk (nm:ByteArray) (Bn g cap:Nat) (L:List HS) (w:World) (hB:w.heap[Bn]?=some (sK nm)) (hne:Bn≠g) (hr:bV w g cap (λk x=>k<L.length/\x=b9 L k)) (hlc:L.length<=cap) (hcm:cap<=maxLen) (hl:L.length<=100) :
  Calls prog 112 #[.slice (some ⟨g,0,none⟩) L.length cap,.func (.func 113) #[] #[.pointer (some ⟨Bn,0,none⟩)]] w λe w'=>e=.returned (.slice (some ⟨g,0,none⟩) (kept L nm).length cap)/\bV w' g cap (λk x=>k<(kept L nm).length/\x=b9 (kept L nm) k)/\w.grownBy w' (some g):=by
 have HI:=qI (Me nm Bn g cap L w hB hr hl);have HB:=qI hB;have HR:=qI hr;have Hz:=hr.lt;have HG:Bn<w.heap.size:=(gS hB).1;have eg:∀ args w,(callFunc 113 args).run prog w=.ok (.enter 113 args) w:=enters_of func113 (by kernel_rfl) rfl;have HJ:cap<=9223372036854775807:=by unfold maxLen at hcm;omega
 clear hB hr hcm
 go_enter func112,ntmps112
 go_wp2_with fail
 refine HI.out.mono ?_;rintro e W1 ⟨rfl,HA⟩;have Hm:=qI HA;clear HA HI
 rcases Md (λy=>decide (y.h.pod.nm=nm)) L 0 with ⟨e,HC⟩|⟨k0,HL,e,Hf,Hk⟩
 ·rw [e];have HK:=qI (zK HC);clear e HC
  go_wp2
  go_ret;rw [HK.out];exact ⟨rfl,HR.out.block (Hm.out.block g Hz),dD Hm.out _⟩
 ·rw [e,Qd];have HK:Hid (kept (L.take (k0+1)) nm=L.take k0):=by
   unfold Hid;rw [zL HL,if_pos Hf,List.append_nil,zK Hk]
  have HF:(((k0:Nat):Int) == -1)=false:=by rw [Qr];omega
  clear e Hf Hk
  go_wp2_with fail
  clear HF
  go_loopw [5,6] (λi j wr=>∃ a b:Nat,i=.int .i64 a/\j=.int .i64 b/\a<b/\b<=L.length/\a=(kept (L.take b) nm).length/\bV wr g cap (λk x=>(k<a/\x=b9 (kept (L.take b) nm) k)\/(b<=k/\k<L.length/\x=b9 L k))/\w.grownBy wr (some g)) (λ_ j _=>L.length - (intOf j).toNat)
  case atStart=>
   refine ⟨k0,k0+1,rfl,by go_num,by omega,by omega,by rw [HK.out,Qu];omega,(HR.out.block (Hm.out.block g Hz)).mono ?_,dD Hm.out _⟩;rintro k x (⟨h1,h2⟩|⟨h1,h2,h3⟩)
   ·rw [HK.out,Mj h1] at h2;exact ⟨by omega,h2⟩
   ·exact ⟨h2,h3⟩
  case round=>
   obtain ⟨a,b,rfl,rfl,HQ,HE,Hu,Hi,Ho⟩:=hrel;have Hj:=qI Hu;have Hc:=qI Hi;have Hx:=qI Ho;have HO:=Ho.size;have HH:=qI ((Ho.block Bn HG λe=>hne (by injection e)).trans HB.out);clear Hu Hi Ho
   by_cases hlt:b<L.length
   ·obtain ⟨c0,c1,c2,c3⟩:=Hc.out.cells (k:=b) (x:=b9 L b) (.inr ⟨lR,hlt,rfl⟩);have He:=qI (zL (nm:=nm) hlt);obtain ⟨x,hx⟩:∃ x,x=b9 L b:=⟨_,rfl⟩;rw [<- hx] at c0 c1 c2 c3 He;have HT:=qI hx;clear hx;have Hr:=qI ((Q0 wr.heap.size wr).alloc (lR) (fq x.h.pod.nm x.h.pod.pr x.ca x.cn x.cc x.ga x.gn x.gc));have Hl:=qI (aD wr (fq x.h.pod.nm x.h.pod.pr x.ca x.cn x.cc x.ga x.gn x.gc) rfl);have Hy:Hid ((wr.alloc (fq x.h.pod.nm x.h.pod.pr x.ca x.cn x.cc x.ga x.gn x.gc)).heap.size=wr.heap.size+1):=by unfold Hid;simp
    have y0:(wr.alloc (fq x.h.pod.nm x.h.pod.pr x.ca x.cn x.cc x.ga x.gn x.gc)).cell? ⟨wr.heap.size,0,none⟩=some (.string x.h.pod.nm):=aa Hl.out 0;have y1:(wr.alloc (fq x.h.pod.nm x.h.pod.pr x.ca x.cn x.cc x.ga x.gn x.gc)).cell? ⟨wr.heap.size,1,none⟩=some (.int .i64 x.h.pod.pr):=aa Hl.out 1;have y2:(wr.alloc (fq x.h.pod.nm x.h.pod.pr x.ca x.cn x.cc x.ga x.gn x.gc)).cell? ⟨wr.heap.size,2,none⟩=some (.slice x.ca x.cn x.cc):=aa Hl.out 2;have y3:(wr.alloc (fq x.h.pod.nm x.h.pod.pr x.ca x.cn x.cc x.ga x.gn x.gc)).cell? ⟨wr.heap.size,3,none⟩=some (.slice x.ga x.gn x.gc):=aa Hl.out 3
    go_wp2_with fail
    clear c0 c1 c2 c3 y0 y1 y2 y3;generalize wr.alloc (fq x.h.pod.nm x.h.pod.pr x.ca x.cn x.cc x.ga x.gn x.gc)=X at *;refine (zJ x nm Bn X ((Hr.out.block Bn (by omega)).trans HH.out)).mono ?_;rintro e W2 ⟨rfl,Hp⟩;have Hw:=qI (Hr.out.trans (Hp.mono Hr.out.size));have Hn:=qI ((Hp.block wr.heap.size (by have:=Hy.out;omega)).trans Hl.out);have HP:wr.heap.size<W2.heap.size:=by have:=Hp.size;have:=Hy.out;omega
    have Ha:=qI (Hc.out.block (Hw.out.block g (by omega)));have Hg:=qI (Hx.out.trans (dD Hw.out (some g)));clear Hp
    rcases two (decide (x.h.pod.nm=nm)) with hh|hh
    ·rw [hh] at He ⊢;have Hb:Hid (kept (L.take (b+1)) nm=kept (L.take b) nm):=by unfold Hid;rw [He.out,if_pos rfl,List.append_nil]
     clear hh
     go_wp2
     go_roundw
     case rel=>
      refine ⟨a,b+1,rfl,by go_num,by omega,by omega,by rw [Hb.out];exact Hj.out,Ha.out.mono ?_,Hg.out⟩;rintro k y (⟨h1,h2⟩|⟨h1,h2,h3⟩)
      ·rw [Hb.out] at h2;exact .inl ⟨h1,h2⟩
      ·exact .inr ⟨by omega,h2,h3⟩
     case measure=>simp [intOf];omega
    ·rw [hh] at He ⊢;have Hb:Hid (kept (L.take (b+1)) nm=kept (L.take b) nm++[x]):=by unfold Hid;rw [He.out];rfl
     have z0:W2.cell? ⟨wr.heap.size,0,none⟩=some (.string x.h.pod.nm):=aa Hn.out 0;have z1:W2.cell? ⟨wr.heap.size,1,none⟩=some (.int .i64 x.h.pod.pr):=aa Hn.out 1;have z2:W2.cell? ⟨wr.heap.size,2,none⟩=some (.slice x.ca x.cn x.cc):=aa Hn.out 2;have z3:W2.cell? ⟨wr.heap.size,3,none⟩=some (.slice x.ga x.gn x.gc):=aa Hn.out 3;have f0:=Ha.out.frozen (a*4);have f1:=Ha.out.frozen (a*4+1);have f2:=Ha.out.frozen (a*4+2);have f3:=Ha.out.frozen (a*4+3);obtain ⟨o0,p0⟩:=Option.isSome_iff_exists.1 (Ha.out.there (j:=a*4) (by omega));obtain ⟨o1,p1⟩:=Option.isSome_iff_exists.1 (Ha.out.there (j:=a*4+1) (by omega));obtain ⟨o2,p2⟩:=Option.isSome_iff_exists.1 (Ha.out.there (j:=a*4+2) (by omega));obtain ⟨o3,p3⟩:=Option.isSome_iff_exists.1 (Ha.out.there (j:=a*4+3) (by omega));have HD:a<L.length:=by omega
     have Hh:=qI (Ha.out.set (i:=a) (by omega) x);have Hs:Hid (w.grownBy ((((W2.setCell ⟨g,a*4,none⟩ (.string x.h.pod.nm)).setCell ⟨g,a*4+1,none⟩ (.int .i64 x.h.pod.pr)).setCell ⟨g,a*4+2,none⟩ (.slice x.ca x.cn x.cc)).setCell ⟨g,a*4+3,none⟩ (.slice x.ga x.gn x.gc)) (some g)):=(((Hg.out.trans (bL _ ⟨g,a*4,none⟩ _)).trans (bL _ ⟨g,a*4+1,none⟩ _)).trans (bL _ ⟨g,a*4+2,none⟩ _)).trans (bL _ ⟨g,a*4+3,none⟩ _);clear hh
     go_wp2
     go_roundw
     case rel=>
      refine ⟨a+1,b+1,by go_num,by go_num,by omega,by omega,by rw [Hb.out,Q2,<- Hj.out];rfl,Hh.out.mono ?_,Hs.out⟩;rintro k y (⟨h1,h2⟩|⟨h1,h2,h3⟩)
      ·rw [Hb.out] at h2
       by_cases hka:k=a
       ·refine .inl ⟨hka,?_⟩;rw [h2,hka,Hj.out,Mi]
       ·refine .inr ⟨hka,.inl ⟨by omega,?_⟩⟩;rw [h2,Mh (by rw [<- Hj.out];omega)]
      ·exact .inr ⟨by omega,.inr ⟨by omega,h2,h3⟩⟩
     case measure=>simp [intOf];omega
   ·have Hv:b=L.length:=by omega
    have Ht:Hid (kept (L.take b) nm=kept L nm):=by unfold Hid;rw [Hv,Qh]
    obtain ⟨vs,HM⟩:=Mg wr 0 g (a*4) (L.length - a) (cap - a) (by omega) (λj hj=>Hc.out.there (by omega)) λj=>Hc.out.frozen j;have HN:¬ cap=a:=by omega
    have HD:a<L.length:=by omega
    clear Hv
    go_wp2
    go_ret;have Hq:a=(kept L nm).length:=by rw [<- Ht.out];exact Hj.out
    refine ⟨by rw [<- Hq];rfl,bV.tail (i:=a) (λk x hx=>by rw [Hq];exact hx.1) vs (a*4) wr (lR) (Hc.out.mono ?_),Hx.out.trans (nz g vs (a*4) wr)⟩;rintro k x ⟨h1,h2⟩;rw [Ht.out,Hq];exact .inl ⟨h1,h2⟩
end
