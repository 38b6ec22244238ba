import Derived.Test.YtbmmnflgnmjboaaGreatDoorK30
import Derived.Test.YtbmmnflgnmjboaaGreatDoorK31
set_option maxRecDepth 100000
set_option maxHeartbeats 16000000
namespace Go.Proofs.YtbmmnflgnmjboaaGreatDoor
section
open RowKit Shelf
open Qos (Nd Ct Pd nd ct pd ah)
open Sv (Gv Hd gv hd gsF)
open Dvs (Dv dv aT)
open S1 (Mx Tab)
attribute [local go_sem] Oper.semAt_some
theorem lJ (W:World) (a:Option Addr) (c:Nat) (hc:c<=maxLen):aM W (.slice a 0 c) []:=⟨a,c,rfl,⟨Nat.zero_le _,hc⟩,λh=>absurd h (Nat.lt_irrefl 0)⟩
abbrev three (Ba Bd Bm:Nat):Nat->Prop:=λj=>j=Ba\/j=Bd\/j=Bm
theorem ql {Ba Bd Bm:Nat} {W W':World} (h:ba Bd Bm W W'):Apart (three Ba Bd Bm) W W':=⟨h.os,h.tape,h.output,h.size,λj hj hn=>h.block j hj (λe=>hn (.inr (.inl e))) (λe=>hn (.inr (.inr e)))⟩
theorem nj {W W':World} {Ba Be Bd Bm n:Nat} {sn sk:Sd} {C:Rn->Prop} (h:bz W Be Bd Bm n sn sk C) (ha:Apart (λj=>j=Ba) W W') (hn:Ba≠Bd/\Ba≠Bm/\Ba≠Be) (hi:∀ (arr:Array Value) (z:Nat × Nat),W.heap[Ba]?≠some (Obj.cells arr 3 z)):bz W' Be Bd Bm n sn sk C:=by
 obtain ⟨h1,h2,xs,h3,h4,h5⟩:=h;have hk:cB W W':=⟨ha.size,λk arr z hk=>ha.block k (gS hk).1 (λe=>hi arr z (by rw [<- e];exact hk))⟩;obtain ⟨k1,k2⟩:=ki h4 hk;exact ⟨h1.block (ha.block Be h1.lt (λe=>hn.2.2 e.symm)),(ha.block Bd h2.lt (λe=>hn.1 e.symm)).trans h2,xs,h3.block (ha.block Bm h3.lt (λe=>hn.2.1 e.symm)),k1,λa=>by rw [k2];exact h5 a⟩
theorem bh.notInt {W:World} {Ba tb:Nat} {m:Ol.Mc} {Bd Be:Nat} {hv:Value} {cp pb:Nat} (h:bh W Ba tb m Bd Be hv cp pb):∀ (arr:Array Value) (z:Nat × Nat),W.heap[Ba]?≠some (Obj.cells arr 3 z):=λarr z e=>by
 rw [show W.heap[Ba]?=_ from h] at e;cases e
theorem J3 (B:Nat) (s:Dk) (w:World) (h:bd w B s) (hd:s.d=false) (hf:s.n.ft=false):Calls Tryz.prog 115 #[.pointer (some ⟨B,0,none⟩)] w λe w'=>∃ v,e=.returned (.tuple #[v,ak ((0:Nat):Int)])/\aM w' v []/\Below w.heap.size w w':=by
 obtain ⟨_,v,h1,_⟩:=h;have HR:=qI (Dx B s.n s.k v s.l s.d w h1);clear h1;unfold o7 at HR;rw [hd,hf,if_neg (by decide),if_neg (by decide)] at HR
 go_enter Tryz.func115,Tryz.ntmps115
 go_wp2_with fail
 refine HR.out.mono ?_;rintro e w1 ⟨rfl,rfl⟩
 go_wp2_with fail
 rw [Ie]
 go_wp2
 go_ret2;exact ⟨_,rfl,Hz _,Q0 _ _⟩
theorem J4 (Ba tb:Nat) (m:Ol.Mc) (Bd Be Bm n:Nat) (cp pb db:Nat) (ao:Option Addr) (c:Nat) (ds:List Dv) (us:Nat->Bool) (dk:Dk) (s:Ol.Sk) (w:World) (h:bh w Ba tb m Bd Be (.slice none 0 0) cp pb) (hp:ap w pb db ao c ds us) (hpa:¬ three Ba Bd Bm pb) (hda:0<ds.length->¬ three Ba Bd Bm db) (hN:aT ds) (hop:m.op<18446744073709551616) (hdk:bd w Bd dk) (hc:Calm dk) (hft:dk.n.ft=false) (_hfb:dk.n.fb.data.toList.length<=1000000) (hE:bz w Be Bd Bm n dk.n dk.k (λa=>a∈([]:List Rn))) (hn:n<=900) (_ht:bE w) (_hm:Mx w) (hleft:Ol.left m ds []=some s) (hroom:Ol.room m []=true) (hab:Ba≠Bd/\Ba≠Bm/\Ba≠Be) :
  Calls Tryz.prog 64 #[.pointer (some ⟨Ba,0,none⟩)] w λe w'=>e=.returned .nilIface/\(∃ (hv:Value) (n' pb' db':Nat) (ao':Option Addr) (c':Nat),n'<=n/\aM w' hv []/\(∀ W,aM W hv [])/\bh w' Ba tb m Bd Be hv s.cp pb'/\de w' pb' db' ao' c' s/\w.heap.size<=pb'/\(0<s.ds.length->w.heap.size<=db')/\bz w' Be Bd Bm n' dk.n dk.k (λa=>a∈([]:List Rn)))/\Apart (three Ba Bd Bm) w w':=by
 obtain ⟨hl1,hl2,hl3⟩:=hE.lt;have hba:=h.lt;have HO:=qI h;have HP:=qI hp;have HE:=qI hE;have HWT:=qI (JW Bd dk.n dk.k (-1) false w (lB hdk hc));have HLD:=qI (J3 Bd dk w hdk hc.1 hft);have ho:=h;unfold bh at ho;have c5:w.cell? ⟨Ba,5,none⟩=some (.pointer (some ⟨Bd,0,none⟩)):=ad ho 5;have c6:w.cell? ⟨Ba,6,none⟩=some (.pointer (some ⟨Be,0,none⟩)):=ad ho 6;clear h hp hE hdk ho
 go_enter Tryz.func64,Tryz.ntmps64
 go_wp2_with fail
 refine HWT.out.mono ?_;rintro e wz ⟨rfl,hwz⟩;have hwz:=hwz.symm;subst hwz
 go_wp2_with fail
 refine HLD.out.mono ?_;rintro e W1 ⟨v,rfl,hv,hb1⟩;obtain ⟨va,vc,hvv,hvm,_⟩:=hv;have hvv:v=.slice va 0 vc:=hvv;subst hvv;have HVM:=qI hvm.2;have HB1:=qI hb1;have hs1:=hb1.size;have HO1:=qI (HO.out.below hb1);have HP1:=qI (HP.out.below hb1);have HE1:=qI (HE.out.below hb1);have HFT:=qI (JY Ba tb m Bd Be (.slice none 0 0) cp pb db ao c ds us (.slice va 0 vc) [] W1 HO1.out HP1.out hN (lJ _ va vc HVM.out) hop (λx hx=>(List.not_mem_nil hx).elim) (by simp));rw [hleft] at HFT;have hbb:((some s:Option Ol.Sk).isSome && Ol.room m (([]:List Hd).map Hd.pod))=true:=by show (true && Ol.room m [])=true;rw [hroom];rfl
 rw [hbb] at HFT;dsimp only;rw [show ak (((0:Nat)):Int)=.nilIface from rfl];clear hb1 hbb HWT HLD c5 c6
 go_wp2_with fail
 refine HFT.out.mono ?_;rintro e W2 ⟨rfl,hb2⟩;have HB2:=qI (HB1.out.trans (hb2.mono hs1));have hs2:=hb2.size;have HO2:=qI (HO1.out.below hb2);have HP2:=qI (HP1.out.below hb2);have HE2:=qI (HE1.out.below hb2);have HRJ:=qI (pZ Be Bd Bm n dk.n dk.k [] (.slice va 0 vc) [] W2 HE2.out (lJ _ va vc HVM.out) rfl (by omega));have ho2:=HO2.out;unfold bh at ho2;have d6:W2.cell? ⟨Ba,6,none⟩=some (.pointer (some ⟨Be,0,none⟩)):=ad ho2 6;clear hb2 ho2 HFT
 go_wp2_with fail
 refine HRJ.out.mono ?_;rintro e W3 ⟨rfl,⟨n',hn',hE3⟩,ho3⟩;have hs3:=ho3.size;have HO3:=qI (HO2.out.block (ho3.block Ba (by omega) hab.1 hab.2.1));have HP3:Hid (ap W3 pb db ao c ds us):=kk HP2.out (ho3.block pb (by have:=HP2.out.lt;omega) (λe=>hpa (.inr (.inl e))) (λe=>hpa (.inr (.inr e)))) (λh0=>ho3.block db (by have:=(HP2.out.at0 h0).2.2;omega) (λe=>hda h0 (.inr (.inl e))) (λe=>hda h0 (.inr (.inr e)))) ho3.size;have HE3:=qI hE3;have HNN:Hid (n'<=n):=by
  unfold Hid;have e0:dB [] (au [])=0:=rfl;rw [e0] at hn';exact hn'
 have HA3:=qI ((Apart.of_below (K:=three Ba Bd Bm) HB2.out).trans (ql ho3));have HHD:=qI (qg Ba tb m Bd Be (.slice none 0 0) cp pb db ao c ds us (.slice va 0 vc) [] s W3 HO3.out ⟨_,_,_,rfl⟩ HP3.out (λe=>hpa (.inl e)) (λh0 e=>hda h0 (.inl e)) hN (lJ _ va vc HVM.out) hop (λx hx=>(List.not_mem_nil hx).elim) (by simp) hleft);clear ho3 hE3 hn' d6 HRJ
 go_wp2_with fail
 refine HHD.out.mono ?_;rintro e W4 ⟨rfl,⟨pb',db',ao',c',hos,hsk,hpb,hdb⟩,hap⟩;have HOS:=qI hos;have HSK:=qI hsk;have HAP:=qI hap;have HE4:Hid (bz W4 Be Bd Bm n' dk.n dk.k (λa=>a∈([]:List Rn))):=nj HE3.out hap hab HO3.out.notInt;have HPB:Hid (w.heap.size<=pb'/\(0<s.ds.length->w.heap.size<=db')):=⟨by omega,λh0=>by have:=hdb h0;omega⟩;clear hos hsk hap hpb hdb HHD
 go_wp2
 go_ret;exact ⟨rfl,⟨_,n',pb',db',ao',c',HNN.out,lJ _ va vc HVM.out,λW=>lJ _ va vc HVM.out,HOS.out,HSK.out,HPB.out.1,HPB.out.2,HE4.out⟩,HA3.out.trans (HAP.out.wide (λj hj=>.inl hj))⟩
end
section
open RowKit Shelf
open Ost (Cpu af dif)
open Qos (Nd Ct Pd nd ct pd ah)
open Sv (Gv Hd gv hd gsF)
open Dvs (Dv dv aT)
open S1 (Mx Tab)
attribute [local go_sem] Oper.semAt_some
abbrev four (N:Nat->Prop) (Ba Bd Bm:Nat):Nat->Prop:=λj=>N j\/three Ba Bd Bm j
structure av (W:World) (N:Nat->Prop) (Ba Bd Be Bm:Nat) (t:Ol.St) (dk:Dk) (n:Nat):Prop where
 inv:Ol.Inv t
 calm:Calm dk
 cpus:0<t.m.l.length
 eng:bz W Be Bd Bm n dk.n dk.k (λa=>a∈au t.hs)
 apart:Ba≠Bd/\Ba≠Bm/\Ba≠Be
 free:¬ N Ba/\¬ N Bd/\¬ N Bm/\¬ N Be
 nlt:∀ j,N j->j<W.heap.size
 txt:(Sv.aF t.hs).length<=6000
 body:∃ tb b c hv pb db ao pc s,bh W Ba tb t.m Bd Be hv (s:Ol.Sk).cp pb/\aM (ag (four N Ba Bd Bm) W) hv t.hs/\cI (ag (four N Ba Bd Bm) W) tb b 0 c t.m/\Ol.left t.m t.ds t.hs=some s/\de W pb db ao pc s/\¬ four N Ba Bd Bm pb/\(0<s.ds.length->¬ four N Ba Bd Bm db)
theorem av.grow {W W':World} {N N':Nat->Prop} {Ba Bd Be Bm:Nat} {t:Ol.St} {dk:Dk} {n:Nat} (h:av W N Ba Bd Be Bm t dk n) (hb:Below W.heap.size W W') (hN:∀ j,N' j->N j\/W.heap.size<=j) (hl:∀ j,N' j->j<W'.heap.size):av W' N' Ba Bd Be Bm t dk n:=by
 obtain ⟨h1,h2,h0l,h3,h4,h5,h6,h7,tb,b,c,hv,pb,db,ao,pc,s,k1,k2,k3,k4,k5,k6,k7⟩:=h;obtain ⟨l1,l2,l3⟩:=h3.lt;have l4:=k1.lt;have l5:=k5.pool.lt;have hf:∀ j,j<W.heap.size->¬ N j->¬ N' j:=λj hj hn hn'=>(hN j hn').elim hn (by omega)
 have hf4:∀ j,j<W.heap.size->¬ four N Ba Bd Bm j->¬ four N' Ba Bd Bm j:=λj hj hn hn'=>hn'.elim (λe=>hf j hj (λe=>hn (.inl e)) e) (λe=>hn (.inr e))
 have hle:aB (ag (four N Ba Bd Bm) W) (ag (four N' Ba Bd Bm) W'):=bg (λj hj hn=>⟨hf4 j hj hn,hb.block j hj⟩) hb.size;refine ⟨h1,h2,h0l,h3.below hb,h4,⟨hf _ l4 h5.1,hf _ l2 h5.2.1,hf _ l3 h5.2.2.1,hf _ l1 h5.2.2.2⟩,hl,h7,tb,b,c,hv,pb,db,ao,pc,s,k1.below hb,k2.le hle,?_,k4,k5.below hb,hf4 _ l5 k6,λh0=>hf4 _ ((k5.pool.at0 h0).2.2) (k7 h0)⟩;have nt:¬ four N Ba Bd Bm tb:=dV k3.topo.cell;have htl:=k3.topo.tlt;have hbl:=k3.topo.lt;rw [bw] at htl hbl;refine ⟨iB k3.topo ?_ ?_ ?_,k3.good,k3.op,k3.nd,k3.pol⟩
 ·rw [bH nt,bH (hf4 _ htl nt),hb.block tb htl]
 ·by_cases nb:four N Ba Bd Bm b
  ·exact absurd nb (dV (k3.topo.cells 0 h0l).1)
  ·rw [bH nb,bH (hf4 _ hbl nb),hb.block b hbl]
 ·rw [bw,bw];exact hb.size
theorem av.other {W W':World} {N:Nat->Prop} {Ba Bd Be Bm:Nat} {t:Ol.St} {dk:Dk} {n:Nat} (h:av W N Ba Bd Be Bm t dk n) (ha:Apart N W W') (hi:∀ j,N j->∀ (arr:Array Value) (z:Nat × Nat),W.heap[j]?≠some (Obj.cells arr 3 z)):av W' N Ba Bd Be Bm t dk n:=by
 obtain ⟨h1,h2,h0l,h3,h4,h5,h6,h7,tb,b,c,hv,pb,db,ao,pc,s,k1,k2,k3,k4,k5,k6,k7⟩:=h;obtain ⟨l1,l2,l3⟩:=h3.lt;have hle:aB (ag (four N Ba Bd Bm) W) (ag (four N Ba Bd Bm) W'):=bg (λj hj hn=>⟨hn,ha.block j hj (λe=>hn (.inl e))⟩) ha.size;have n1:¬ N pb:=λe=>k6 (.inl e)
 refine ⟨h1,h2,h0l,?_,h4,h5,λj hj=>Q1 (h6 j hj) ha.size,h7,tb,b,c,hv,pb,db,ao,pc,s,(ha.block Ba k1.lt h5.1).trans k1,k2.le hle,?_,k4,?_,k6,k7⟩
 ·obtain ⟨g1,g2,xs,g3,g4,g5⟩:=h3;have hk:cB W W':=⟨ha.size,λk arr z hk=>ha.block k (gS hk).1 (λe=>hi k e arr z hk)⟩;obtain ⟨q1,q2⟩:=ki g4 hk;exact ⟨g1.block (ha.block Be l1 h5.2.2.2),(ha.block Bd l2 h5.2.1).trans g2,xs,g3.block (ha.block Bm l3 h5.2.2.1),q1,λa=>by rw [q2];exact g5 a⟩
 ·have nt:¬ four N Ba Bd Bm tb:=dV k3.topo.cell;have htl:=k3.topo.tlt;have hbl:=k3.topo.lt;rw [bw] at htl hbl;refine ⟨iB k3.topo ?_ ?_ ?_,k3.good,k3.op,k3.nd,k3.pol⟩
  ·rw [bH nt,bH nt,ha.block tb htl (λe=>nt (.inl e))]
  ·by_cases nb:four N Ba Bd Bm b
   ·exact absurd nb (dV (k3.topo.cells 0 h0l).1)
   ·rw [bH nb,bH nb,ha.block b hbl (λe=>nb (.inl e))]
  ·rw [bw,bw];exact ha.size
 ·exact ⟨kk k5.pool (ha.block pb k5.pool.lt n1) (λh0=>ha.block db (k5.pool.at0 h0).2.2 (λe=>k7 h0 (.inl e))) ha.size,k5.nodes,k5.cp⟩
theorem av.poolAt {W:World} {N:Nat->Prop} {Ba Bd Be Bm:Nat} {t:Ol.St} {dk:Dk} {n:Nat} (h:av W N Ba Bd Be Bm t dk n):Ba<W.heap.size/\∀ pb,W.cell? ⟨Ba,9,none⟩=some (.pointer (some ⟨pb,0,none⟩))->pb<W.heap.size/\¬ three Ba Bd Bm pb:=by
 obtain ⟨h1,h2,h0l,h3,h4,h5,h6,h7,tb,b,c,hv,pb,db,ao,pc,s,k1,k2,k3,k4,k5,k6,k7⟩:=h;refine ⟨k1.lt,λpb1 e=>?_⟩;have e9:W.cell? ⟨Ba,9,none⟩=some (.pointer (some ⟨pb,0,none⟩)):=ad k1 9;rw [e9] at e;obtain rfl:pb=pb1:=by cases e;rfl
 exact ⟨k5.pool.lt,λe=>k6 (.inr e)⟩
theorem av.poolNew {W W':World} {N K:Nat->Prop} {Ba Bd Be Bm base:Nat} {t:Ol.St} {dk:Dk} {n:Nat} (h:av W N Ba Bd Be Bm t dk n) (hp:cz base W Ba) (ha:Apart K W W') (hB:¬ K Ba) (hK:∀ pb,W.cell? ⟨Ba,9,none⟩=some (.pointer (some ⟨pb,0,none⟩))->base<=pb->¬ K pb):cz base W' Ba:=by
 obtain ⟨l1,l2⟩:=h.poolAt;intro pb e;rw [fP (ha.block Ba l1 hB)] at e;obtain ⟨q1,q2⟩:=hp pb e;refine ⟨q1,λdb n c hn e2=>q2 db n c hn ?_⟩;rw [<- e2];exact (fP (ha.block pb (l2 pb e).1 (hK pb e q1)) 0).symm
theorem av.poolUp {W W':World} {N:Nat->Prop} {Ba Bd Be Bm base:Nat} {t:Ol.St} {dk:Dk} {n:Nat} (h:av W N Ba Bd Be Bm t dk n) (hp:cz base W Ba) (hb:base<=W.heap.size) (hu:eM W W' Ba) (ha:Apart (three Ba Bd Bm) W W'):cz base W' Ba:=by
 rcases hu with e|e
 ·obtain ⟨l1,l2⟩:=h.poolAt;intro pb e9;rw [fP e] at e9;obtain ⟨q1,q2⟩:=hp pb e9;refine ⟨q1,λdb n c hn e2=>q2 db n c hn ?_⟩;rw [<- e2];exact (fP (ha.block pb (l2 pb e9).1 (l2 pb e9).2) 0).symm
 ·exact e.less hb
theorem J5:(Sv.aF []).length<=6000:=by
 have:=Sv.kS (Sv.body [])
 have h:Sv.aF []=Sv.cQ (Sv.body []):=rfl;rw [h];omega
theorem j6 {m:Ol.Mc} {ds:List Dv} (h:Dvs.fault ds=0):Ol.left m ds []=some ⟨m.op,ds,λ_=>false⟩:=by unfold Ol.left;rw [if_pos h];rfl
theorem wU {m:Ol.Mc} (h:0<=m.nb):Ol.room m []=true:=by
 unfold Ol.room;have e1:Ol.bN []=0:=rfl;have e2:Ol.cT []=0:=rfl;rw [e1,e2,Qc (by omega),Qc h];rfl
theorem J6 {c:Ol.Cf} (h:Ol.b6 c=0):Ost.fault c.l=0/\(0<=c.nb/\c.nb<=1125899906842624)/\(0<=c.pol/\c.pol<=3)/\Dvs.fault c.ds=0:=by
 unfold Ol.b6 at h
 by_cases h1:Ost.fault c.l=0
 ·rw [if_neg (λk=>k h1)] at h
  by_cases h2:¬ (c.keep &&& af (λ_=>true) c.l=c.keep)\/¬ (0<=c.nb/\c.nb<=1125899906842624)\/¬ (0<=c.pol/\c.pol<=3)
  ·rw [if_pos h2] at h;cases h
  ·rw [if_neg h2] at h;have h3:(0<=c.nb/\c.nb<=1125899906842624)/\(0<=c.pol/\c.pol<=3):=⟨Qt λk=>h2 (.inr (.inl k)),Qt λk=>h2 (.inr (.inr k))⟩;exact ⟨h1,h3.1,h3.2,by omega⟩
 ·rw [if_pos h1] at h;exact absurd h h1
theorem J7 {W:World} {tb tg tc Bd Bm n:Nat} {l:List Cpu} {sn sk:Sd} {v:Value} {i:Int} {d:Bool} {xs:List RV} (h:aZ W tb tg 0 tc l) (h0:0<l.length) (hd:aA W Bd sn sk v i d) (hm:aW W Bm n xs):(tb≠Bd/\tb≠Bm)/\(tg≠Bd/\tg≠Bm):=by
 have a1:W.cell? ⟨Bd,0,none⟩=some (.bool sn.ft):=ad hd 0;obtain ⟨es,cl,hmm⟩:=hm.isMap;have a2:∀ j,W.cell? ⟨Bm,j,none⟩=none:=λj=>by simp [World.cell?,hmm]
 have c1:=h.cell;have c2:=(h.cells 0 h0).1;refine ⟨⟨λe=>?_,λe=>?_⟩,λe=>?_,λe=>?_⟩
 ·rw [e,a1] at c1;cases c1
 ·rw [e,a2] at c1;cases c1
 ·rw [e] at c2;have c2:W.cell? ⟨Bd,0,none⟩=_:=c2;rw [a1] at c2;cases c2
 ·rw [e,a2] at c2;cases c2
theorem J8 {W:World} {tb tg tc j:Nat} {l:List Cpu} {p:Option Addr} (h:aZ W tb tg 0 tc l) (h0:0<l.length) (hj:W.cell? ⟨j,0,none⟩=some (.pointer p)):tb≠j/\tg≠j:=by
 have c1:=h.cell;have c2:=(h.cells 0 h0).1;refine ⟨λe=>?_,λe=>?_⟩
 ·rw [e,hj] at c1;cases c1
 ·rw [e] at c2;have c2:W.cell? ⟨j,0,none⟩=_:=c2;rw [hj] at c2;cases c2
structure J9 (w w':World) (N:Nat->Prop) (c:Ol.Cf) (Bd Be Bm:Nat) (dk:Dk) (e:Ending):Prop where
 bad:Ol.b6 c≠0->e=.returned (.tuple #[.pointer none,ak (Ol.b6 c)])
 good:Ol.b6 c=0->∃ Ba,e=.returned (.tuple #[.pointer (some ⟨Ba,0,none⟩),.nilIface])/\av w' N Ba Bd Be Bm ⟨Ol.cM c,c.ds,[]⟩ dk 0/\(w.heap.size<=Ba/\cz w.heap.size w' Ba)
 out:Apart (fO Bd Bm) w w'
theorem Ka (N:Nat->Prop) (c:Ol.Cf) (v1 v2:Value) (g o Bd Be Bm:Nat) (dk:Dk) (w:World) (h1:eN w v1 c.l) (h2:bS w v2 g o c.ds) (hk:c.keep<18446744073709551616) (hdk:bd w Bd dk) (hc:Calm dk) (hft:dk.n.ft=false) (hfb:dk.n.fb.data.toList.length<=1000000) (hE:bz w Be Bd Bm 0 dk.n dk.k (λa=>a∈([]:List Rn))) (ht:bE w) (hm:Mx w) (hN:∀ j,N j->j<w.heap.size/\∃ p,w.cell? ⟨j,0,none⟩=some (.pointer p)) (hNf:¬ N Bd/\¬ N Bm/\¬ N Be) :
  Calls Tryz.prog 32 #[.agg #[v1,.int .u64 (c.keep:Nat),.int .i64 c.nb,v2,.int .i64 c.pol],.pointer (some ⟨Bd,0,none⟩),.pointer (some ⟨Be,0,none⟩)] w λe w'=>J9 w w' N c Bd Be Bm dk e:=by
 obtain ⟨ca,cc,hv1⟩:∃ ca cc,v1=.slice ca c.l.length cc:=by
  rcases id h1 with ⟨hl,ao,q,rfl⟩|⟨b,o,q,rfl,_⟩
  ·exact ⟨ao,q,by rw [hl];rfl⟩
  ·exact ⟨_,q,rfl⟩
 subst hv1;obtain ⟨da,dc,hv2,hx2⟩:=id h2;clear hx2;subst hv2;obtain ⟨hl1,hl2,hl3⟩:=hE.lt;obtain ⟨ha1,ha2,ha3⟩:=hE.apart;have HBA:=qI ((Q0 w.heap.size w).alloc (lR) (.cells #[.slice ca c.l.length cc,.int .u64 (c.keep:Nat),.int .i64 c.nb,.slice da c.ds.length dc,.int .i64 c.pol] 27));have HBG:=qI (J2 c (.slice ca c.l.length cc) (.slice da c.ds.length dc) g o _ (h1.below HBA.out) (h2.le (aB.of_below HBA.out)) hk);have HDK:=qI hdk;have HE:=qI hE;have HT:=qI ht;have HM:=qI hm;have HNP:=qI hN;have HNF:=qI hNf;clear h1 h2 hdk hE ht hm hN hNf
 go_enter Tryz.func32,Tryz.ntmps32
 go_wp2_with fail
 generalize w.alloc (.cells #[.slice ca c.l.length cc,.int .u64 (c.keep:Nat),.int .i64 c.nb,.slice da c.ds.length dc,.int .i64 c.pol] 27)=X at *;refine HBG.out.mono ?_;rintro e W1 ⟨hbad,hgood,hb1⟩;have HB1:=qI (HBA.out.trans (hb1.mono HBA.out.size));have hs1:=HB1.out.size;have hsx:=HBA.out.size;clear hb1 HBG
 by_cases hf:Ol.b6 c=0
 ·obtain ⟨tb,b,tcc,pb,db,ao,pc,rfl,hmt,hsk,hpb,hdb⟩:=hgood hf;obtain ⟨cf1,cf2,cf3,cf4⟩:=J6 hf;have HF:=qI hf;have HMT:=qI hmt;have HSK:=qI hsk;have hpl:=hsk.pool.lt;have HDBL:Hid (0<c.ds.length->w.heap.size<=db/\db<W1.heap.size):=λh0=>⟨by have:=hdb h0;omega,(hsk.pool.at0 h0).2.2⟩
  have hpb2:w.heap.size<=pb:=by omega
  have hop:=hmt.op;have HNM:Hid (0<=(Ol.cM c).nb):=cf2.1;have HFD:=qI cf4;have HLP:=qI (qk cf1);clear hbad hgood hmt hsk hpb hdb hf cf1 cf2 cf3 cf4;unfold mV sV;dsimp only;obtain ⟨M,hM⟩:∃ M,M=Ol.cM c:=⟨_,rfl⟩;rw [<- hM] at HMT HSK hop HNM ⊢;have HMQ:=qI hM;have HMD:Hid (M.l=c.l):=by unfold Hid;rw [hM];rfl
  clear hM;have HB2:=qI ((HB1.out.alloc hs1 (.cells #[.pointer (some ⟨tb,0,none⟩),.int .u64 M.op,.int .u8 M.nd,.int .i64 M.nb,.int .i64 M.pol] 95)).alloc (by simp;omega) (.cells #[.int .u64 M.op,.pointer (some ⟨pb,0,none⟩)] 98));have HB12:=qI (((Q0 W1.heap.size W1).alloc (lR) (.cells #[.pointer (some ⟨tb,0,none⟩),.int .u64 M.op,.int .u8 M.nd,.int .i64 M.nb,.int .i64 M.pol] 95)).alloc (by simp) (.cells #[.int .u64 M.op,.pointer (some ⟨pb,0,none⟩)] 98));have HX0:=qI (bx (aG W1 (.cells #[.pointer (some ⟨tb,0,none⟩),.int .u64 M.op,.int .u8 M.nd,.int .i64 M.nb,.int .i64 M.pol] 95) rfl) (.cells #[.int .u64 M.op,.pointer (some ⟨pb,0,none⟩)] 98));have HX1:=qI (aG (W1.alloc (.cells #[.pointer (some ⟨tb,0,none⟩),.int .u64 M.op,.int .u8 M.nd,.int .i64 M.nb,.int .i64 M.pol] 95)) (.cells #[.int .u64 M.op,.pointer (some ⟨pb,0,none⟩)] 98) (n:=W1.heap.size+1) (by simp));have hs2:((W1.alloc (.cells #[.pointer (some ⟨tb,0,none⟩),.int .u64 M.op,.int .u8 M.nd,.int .i64 M.nb,.int .i64 M.pol] 95)).alloc (.cells #[.int .u64 M.op,.pointer (some ⟨pb,0,none⟩)] 98)).heap.size=W1.heap.size+2:=by simp
  go_wp2_with fail
  generalize ((W1.alloc (.cells #[.pointer (some ⟨tb,0,none⟩),.int .u64 M.op,.int .u8 M.nd,.int .i64 M.nb,.int .i64 M.pol] 95)).alloc (.cells #[.int .u64 M.op,.pointer (some ⟨pb,0,none⟩)] 98))=W2 at *;have HDW:=qI (JV Bd dk.n dk.k (.slice none 0 0) (-1) false W2 (lB (HDK.out.below HB2.out) hc));refine HDW.out.mono ?_;rintro e wz ⟨rfl,hwz⟩;have hwz:=hwz.symm;subst hwz;clear hwz;have m0:W2.cell? ⟨W1.heap.size,0,none⟩=some (.pointer (some ⟨tb,0,none⟩)):=ad HX0.out 0;have m1:W2.cell? ⟨W1.heap.size,1,none⟩=some (.int .u64 M.op):=ad HX0.out 1;have m2:W2.cell? ⟨W1.heap.size,2,none⟩=some (.int .u8 M.nd):=ad HX0.out 2;have m3:W2.cell? ⟨W1.heap.size,3,none⟩=some (.int .i64 M.nb):=ad HX0.out 3;have m4:W2.cell? ⟨W1.heap.size,4,none⟩=some (.int .i64 M.pol):=ad HX0.out 4;have t0:W2.cell? ⟨W1.heap.size+1,0,none⟩=some (.int .u64 M.op):=ad HX1.out 0;have t1:W2.cell? ⟨W1.heap.size+1,1,none⟩=some (.pointer (some ⟨pb,0,none⟩)):=ad HX1.out 1;have HB3:=qI (HB2.out.alloc HB2.out.size (.cells #[.pointer (some ⟨tb,0,none⟩),.int .u64 M.op,.int .u8 M.nd,.int .i64 M.nb,.int .i64 M.pol,.pointer (some ⟨Bd,0,none⟩),.pointer (some ⟨Be,0,none⟩),.slice none 0 0,.int .u64 M.op,.pointer (some ⟨pb,0,none⟩)] 115));have HB13:=qI (HB12.out.alloc HB12.out.size (.cells #[.pointer (some ⟨tb,0,none⟩),.int .u64 M.op,.int .u8 M.nd,.int .i64 M.nb,.int .i64 M.pol,.pointer (some ⟨Bd,0,none⟩),.pointer (some ⟨Be,0,none⟩),.slice none 0 0,.int .u64 M.op,.pointer (some ⟨pb,0,none⟩)] 115));have HS3:Hid (W2.heap.size<(W2.alloc (.cells #[.pointer (some ⟨tb,0,none⟩),.int .u64 M.op,.int .u8 M.nd,.int .i64 M.nb,.int .i64 M.pol,.pointer (some ⟨Bd,0,none⟩),.pointer (some ⟨Be,0,none⟩),.slice none 0 0,.int .u64 M.op,.pointer (some ⟨pb,0,none⟩)] 115)).heap.size):=by unfold Hid;simp
  have HOA:Hid (bh (W2.alloc (.cells #[.pointer (some ⟨tb,0,none⟩),.int .u64 M.op,.int .u8 M.nd,.int .i64 M.nb,.int .i64 M.pol,.pointer (some ⟨Bd,0,none⟩),.pointer (some ⟨Be,0,none⟩),.slice none 0 0,.int .u64 M.op,.pointer (some ⟨pb,0,none⟩)] 115)) W2.heap.size tb M Bd Be (.slice none 0 0) M.op pb):=aG W2 _ rfl
  go_wp2_with fail
  generalize W2.alloc (.cells #[.pointer (some ⟨tb,0,none⟩),.int .u64 M.op,.int .u8 M.nd,.int .i64 M.nb,.int .i64 M.pol,.pointer (some ⟨Bd,0,none⟩),.pointer (some ⟨Be,0,none⟩),.slice none 0 0,.int .u64 M.op,.pointer (some ⟨pb,0,none⟩)] 115)=W3 at *;clear m0 m1 m2 m3 m4 t0 t1;rw [hs2] at HOA;obtain ⟨Ba,hBa⟩:∃ Ba,Ba=W1.heap.size+2:=⟨_,rfl⟩;rw [<- hBa] at HOA hs2 ⊢;have hba1:W1.heap.size<Ba:=by omega
  have hba2:Ba<W3.heap.size:=by rw [<- hs2];exact HS3.out
  have hba3:w.heap.size<=Ba:=by omega
  have HBa:=qI hBa;clear hBa hs2;have HPO3:Hid (ap W3 pb db ao pc c.ds (λ_=>false)):=HSK.out.pool.below HB13.out;have HTU:=qI (J4 Ba tb M Bd Be Bm 0 M.op pb db ao pc c.ds (λ_=>false) dk ⟨M.op,c.ds,λ_=>false⟩ W3 HOA.out HPO3.out (by rintro (e|e|e) <;> omega) (λh0=>by have:=HDBL.out h0;rintro (e|e|e) <;> omega) (Dvs.gH HFD.out) hop (HDK.out.below HB3.out) hc hft hfb (HE.out.below HB3.out) (by omega) (HT.out.below HB3.out) (HM.out.below HB3.out) (j6 HFD.out) (wU HNM.out) ⟨by omega,by omega,by omega⟩);refine HTU.out.mono ?_;rintro e W4 ⟨rfl,⟨hv,n',pb',db',ao',c',hn',hh0,hh,hos,hsk,hpb,hdb,hE4⟩,hap⟩;have hsl:∃ a n q,hv=.slice a n q:=by obtain ⟨a,q,e,_⟩:=hh0;exact ⟨a,_,q,e⟩
  have HPN:Hid (cz w.heap.size W4 Ba):=qh hos hsk (by have:=HB13.out.size;omega) (λh0=>by have:=HB13.out.size;have:=hdb h0;omega);have HMACH:Hid (av W4 N Ba Bd Be Bm ⟨Ol.cM c,c.ds,[]⟩ dk 0):=by
   have hn0:n'=0:=by omega
   subst hn0;have hsz:=HB13.out.size;have hnl:∀ j,w.heap.size<=j->¬ N j:=λj hj e=>by have:=(HNP.out j e).1;omega
   have f4:∀ j,W3.heap.size<=j->¬ four N Ba Bd Bm j:=λj hj e=>by
    rcases e with e|e|e|e
    ·exact hnl j (by omega) e
    all_goals omega
   refine ⟨⟨HFD.out,rfl,⟨_,j6 HFD.out⟩⟩,hc,HLP.out,hE4,⟨by omega,by omega,by omega⟩,⟨hnl Ba (by omega),HNF.out⟩,λj hj=>by have:=(HNP.out j hj).1;have:=hap.size;omega,J5,tb,b,tcc,hv,pb',db',ao',c',⟨M.op,c.ds,λ_=>false⟩,?_,hh _,?_,?_,hsk,f4 _ hpb,λh0=>f4 _ (hdb h0)⟩
   ·rw [<- HMQ.out];exact hos
   ·rw [<- HMQ.out];obtain ⟨xs,hmr,_⟩:=HE.out.map;have h0:0<M.l.length:=by rw [HMD.out];exact HLP.out
    have hne:=J7 HMT.out.topo h0 (lB (HDK.out.below HB1.out) hc) (hmr.block (HB1.out.block Bm hl3));have htl:=HMT.out.topo.tlt;have hbl:=HMT.out.topo.lt;have hnp:∀ j,N j->tb≠j/\b≠j:=λj hj=>by
     obtain ⟨q1,p,q2⟩:=HNP.out j hj;exact J8 HMT.out.topo h0 ((HB1.out.cell (p:=⟨j,0,none⟩) q1).trans q2)
    have nt:¬ four N Ba Bd Bm tb:=by
     rintro (e|e|e|e)
     ·exact (hnp tb e).1 rfl
     ·omega
     ·exact hne.1.1 e
     ·exact hne.1.2 e
    have nb:¬ four N Ba Bd Bm b:=by
     rintro (e|e|e|e)
     ·exact (hnp b e).2 rfl
     ·omega
     ·exact hne.2.1 e
     ·exact hne.2.2 e
    refine ⟨iB HMT.out.topo ?_ ?_ ?_,HMT.out.good,HMT.out.op,HMT.out.nd,HMT.out.pol⟩
    ·rw [bH nt,hap.block tb (by omega) (λe=>nt (.inr e)),HB13.out.block tb (by omega)]
    ·rw [bH nb,hap.block b (by omega) (λe=>nb (.inr e)),HB13.out.block b (by omega)]
    ·rw [bw];have:=hap.size;omega
   ·rw [<- HMQ.out];exact j6 HFD.out
  have HAP:Hid (Apart (fO Bd Bm) w W4):=⟨hap.os.trans HB3.out.os,hap.tape.trans HB3.out.tape,hap.output.trans HB3.out.output,Q5 HB3.out.size hap.size,λj hj hn=>(hap.block j (by have:=HB3.out.size;omega) (by rintro (e|e|e);omega;exact hn (.inl e);exact hn (.inr e))).trans (HB3.out.block j hj)⟩;clear hh0 hh hos hsk hpb hdb hE4 hap hsl hn'
  go_wp2
  go_ret2;exact ⟨λh=>absurd HF.out h,λ_=>⟨Ba,rfl,HMACH.out,by omega,HPN.out⟩,HAP.out⟩
 ·have he:=hbad hf;subst he;have HF:=qI hf;have hee:ak (Ol.b6 c)=.iface 121 (.int .i64 (Ol.b6 c)):=by unfold ak;rw [if_neg hf]
  have HEE:=qI hee;rw [hee];have HBZ:=qI ((HB1.out.alloc hs1 (.cells #[.pointer none,.int .u64 0,.int .u8 0,.int .i64 0,.int .i64 0] 95)).alloc (by simp;omega) (.cells #[.int .u64 0,.pointer none] 98));clear hbad hgood hf hee;obtain ⟨ff,hff⟩:∃ f,f=Ol.b6 c:=⟨_,rfl⟩;rw [<- hff] at HEE HF ⊢;have HFE:=qI hff;clear hff
  go_wp2
  go_ret2;exact ⟨λ_=>by rw [<- HFE.out,HEE.out];rfl,λh=>absurd (HFE.out.trans h) HF.out,Apart.of_below HBZ.out⟩
end
section
open RowKit Shelf
open Ost (Cpu af dif)
open Qos (Nd Ct Pd nd ct pd ah)
open Sv (Gv Hd gv hd gsF)
open Dvs (Dv dv aT)
open S1 (Mx Tab)
attribute [local go_sem] Oper.semAt_some
theorem Kb {w w':World} {Bd:Nat} (hd:bd w Bd Dk.fresh) (hb:Below w.heap.size w w') (he:ef w' (w.heap.size+1) Bd w.heap.size) (hm:aW w' w.heap.size 0 []):bz w' (w.heap.size+1) Bd w.heap.size 0 Dk.fresh.n Dk.fresh.k (λa=>a∈([]:List Rn)):=
 ⟨he,lB (hd.below hb) vU,[],hm,λx hx=>absurd hx (by simp),λa=>by simp⟩
structure Kc (w w':World) (c:Ol.Cf) (e:Ending):Prop where
 bad:Ol.b6 c≠0->∃ p q,e=.returned (.tuple #[.agg #[.pointer p,.pointer q,.pointer none],.bool false])
 good:Ol.b6 c=0->∃ Ba Bd Be Bm,e=.returned (.tuple #[.agg #[.pointer (some ⟨Bd,0,none⟩),.pointer (some ⟨Be,0,none⟩),.pointer (some ⟨Ba,0,none⟩)],.bool true])/\av w' (λ_=>False) Ba Bd Be Bm ⟨Ol.cM c,c.ds,[]⟩ Dk.fresh 0/\w.heap.size<=Ba/\w.heap.size<=Bd/\w.heap.size<=Be/\(w.heap.size<=Bm/\cz w.heap.size w' Ba)
 out:Below w.heap.size w w'
theorem wV (c:Ol.Cf) (v1 v2:Value) (g o:Nat) (w:World) (h1:eN w v1 c.l) (h2:bS w v2 g o c.ds) (hk:c.keep<18446744073709551616) (ht:bE w) (hm:Mx w) :
  Calls Tryz.prog 11 #[.agg #[v1,.int .u64 (c.keep:Nat),.int .i64 c.nb,v2,.int .i64 c.pol]] w λe w'=>Kc w w' c e:=by
 obtain ⟨ca,cc,hv1⟩:∃ ca cc,v1=.slice ca c.l.length cc:=by
  rcases id h1 with ⟨hl,ao,q,rfl⟩|⟨b,o,q,rfl,_⟩
  ·exact ⟨ao,q,by rw [hl];rfl⟩
  ·exact ⟨_,q,rfl⟩
 subst hv1;obtain ⟨da,dc,hv2,hx2⟩:=id h2;clear hx2;subst hv2;have HC:=qI h1;have HD:=qI h2;have HT:=qI ht;have HM:=qI hm;clear h1 h2 ht hm;have HB0:=qI (((Q0 w.heap.size w).alloc (lR) (.cells #[.slice ca c.l.length cc,.int .u64 (c.keep:Nat),.int .i64 c.nb,.slice da c.ds.length dc,.int .i64 c.pol] 27)).alloc (by simp) (.cells #[.pointer none,.pointer none,.pointer none] 36));have HX0:=qI (bx (aG w (.cells #[.slice ca c.l.length cc,.int .u64 (c.keep:Nat),.int .i64 c.nb,.slice da c.ds.length dc,.int .i64 c.pol] 27) rfl) (.cells #[.pointer none,.pointer none,.pointer none] 36));have HX1:=qI (aG (w.alloc (.cells #[.slice ca c.l.length cc,.int .u64 (c.keep:Nat),.int .i64 c.nb,.slice da c.ds.length dc,.int .i64 c.pol] 27)) (.cells #[.pointer none,.pointer none,.pointer none] 36) (n:=w.heap.size+1) (by simp));have HS0:Hid (((w.alloc (.cells #[.slice ca c.l.length cc,.int .u64 (c.keep:Nat),.int .i64 c.nb,.slice da c.ds.length dc,.int .i64 c.pol] 27)).alloc (.cells #[.pointer none,.pointer none,.pointer none] 36)).heap.size=w.heap.size+2):=by unfold Hid;simp
 go_enter Tryz.func11,Tryz.ntmps11
 go_wp2_with fail
 generalize ((w.alloc (.cells #[.slice ca c.l.length cc,.int .u64 (c.keep:Nat),.int .i64 c.nb,.slice da c.ds.length dc,.int .i64 c.pol] 27)).alloc (.cells #[.pointer none,.pointer none,.pointer none] 36))=X at *;have HDN:=qI (Ic X);rw [HS0.out] at HDN;refine HDN.out.mono ?_;rintro e W1 ⟨rfl,hd1,hb1⟩;have hs1:w.heap.size+2<=W1.heap.size:=by have:=hb1.size;have:=HS0.out;omega
 have hd1l:=hd1.lt;obtain ⟨Bd,hBd⟩:∃ Bd,Bd=w.heap.size+2:=⟨_,rfl⟩;rw [<- hBd] at hd1 hd1l ⊢;have hbd:w.heap.size+1<Bd:=by omega
 have HBD:=qI hBd;have HK1:=qI hd1;have HB1:=qI (HB0.out.trans (hb1.mono (by omega)));have HX01:=qI ((hb1.block w.heap.size (by have:=HS0.out;omega)).trans HX0.out);have HX11:=qI ((hb1.block (w.heap.size+1) (by have:=HS0.out;omega)).trans HX1.out);clear hd1 hb1 hBd HDN
 go_wp2_with fail
 refine (Hf Bd W1).mono ?_;rintro e W2 ⟨rfl,he2,hm2,hb2,hs2⟩;have HE2:=qI (Kb HK1.out hb2 he2 hm2);obtain ⟨Bm,hBm⟩:∃ Bm,Bm=W1.heap.size:=⟨_,rfl⟩;obtain ⟨Be,hBe⟩:∃ Be,Be=W1.heap.size+1:=⟨_,rfl⟩;rw [<- hBe] at HE2 ⊢;rw [<- hBm] at HE2;have hb0:Bd<Bm/\Bm<Be:=by omega
 have hbe:Be<W2.heap.size:=by omega
 have HBM:=qI hBm;have HBE:=qI hBe;have HK2:=qI (HK1.out.below hb2);have HB2:=qI (HB1.out.trans (hb2.mono HB1.out.size));have HX02:=qI ((hb2.block w.heap.size (by omega)).trans HX01.out);have HX12:=qI ((hb2.block (w.heap.size+1) (by omega)).trans HX11.out);have hsw:w.heap.size<=W2.heap.size:=HB2.out.size;clear he2 hm2 hb2 hs2 hBm hBe hs1;have c0:W2.cell? ⟨w.heap.size,0,none⟩=some (.slice ca c.l.length cc):=ad HX02.out 0;have c1:W2.cell? ⟨w.heap.size,1,none⟩=some (.int .u64 (c.keep:Nat)):=ad HX02.out 1;have c2:W2.cell? ⟨w.heap.size,2,none⟩=some (.int .i64 c.nb):=ad HX02.out 2;have c3:W2.cell? ⟨w.heap.size,3,none⟩=some (.slice da c.ds.length dc):=ad HX02.out 3;have c4:W2.cell? ⟨w.heap.size,4,none⟩=some (.int .i64 c.pol):=ad HX02.out 4;have HNW:=qI (Ka (λj=>j=w.heap.size+1) c (.slice ca c.l.length cc) (.slice da c.ds.length dc) g o Bd Be Bm Dk.fresh W2 (HC.out.below HB2.out) (HD.out.le (aB.of_below HB2.out)) hk HK2.out vU rfl (by decide) HE2.out (HT.out.below HB2.out) (HM.out.below HB2.out) (λj hj=>by rw [hj];exact ⟨by omega,_,ad HX12.out 0⟩) ⟨by omega,by omega,by omega⟩)
 go_wp2_with fail
 refine HNW.out.mono ?_;rintro e W3 ⟨hbad,hgood,hap⟩;have hs3:W2.heap.size<=W3.heap.size:=hap.size;have HX13:=qI ((hap.block (w.heap.size+1) (by omega) (by rintro (e|e) <;> omega)).trans HX12.out);have HB3:Hid (Below w.heap.size w W3):=⟨hap.os.trans HB2.out.os,hap.tape.trans HB2.out.tape,hap.output.trans HB2.out.output,by omega,λj hj=>(hap.block j (by omega) (by rintro (e|e) <;> omega)).trans (HB2.out.block j hj)⟩;have r0:W3.cell? ⟨w.heap.size+1,0,none⟩=some (.pointer none):=ad HX13.out 0;have r1:W3.cell? ⟨w.heap.size+1,1,none⟩=some (.pointer none):=ad HX13.out 1;have r2:W3.cell? ⟨w.heap.size+1,2,none⟩=some (.pointer none):=ad HX13.out 2;have f0:W3.frozen? ⟨w.heap.size+1,0,none⟩=false:=by simp [World.frozen?,HX13.out]
 have f1:W3.frozen? ⟨w.heap.size+1,1,none⟩=false:=by simp [World.frozen?,HX13.out]
 have f2:W3.frozen? ⟨w.heap.size+1,2,none⟩=false:=by simp [World.frozen?,HX13.out]
 clear c0 c1 c2 c3 c4 hap HNW
 by_cases hf:Ol.b6 c=0
 ·obtain ⟨Ba,rfl,hmach,hba,hpn⟩:=hgood hf;have HPN:=qI hpn;clear hpn;have HF:=qI hf;have HMA:=qI hmach;clear hbad hgood hf hmach
  go_wp2_with fail
  have HX4:Hid ((((W3.setCell ⟨w.heap.size+1,0,none⟩ (.pointer (some ⟨Bd,0,none⟩))).setCell ⟨w.heap.size+1,1,none⟩ (.pointer (some ⟨Be,0,none⟩))).setCell ⟨w.heap.size+1,2,none⟩ (.pointer (some ⟨Ba,0,none⟩))).heap[w.heap.size+1]?=some (.cells #[.pointer (some ⟨Bd,0,none⟩),.pointer (some ⟨Be,0,none⟩),.pointer (some ⟨Ba,0,none⟩)] 36)):=aj (aj (aj HX13.out 0 _) 1 _) 2 _;have HB4:=qI (((HB3.out.setCell (p:=⟨w.heap.size+1,0,none⟩) (Nat.le_succ _) (.pointer (some ⟨Bd,0,none⟩))).setCell (p:=⟨w.heap.size+1,1,none⟩) (Nat.le_succ _) (.pointer (some ⟨Be,0,none⟩))).setCell (p:=⟨w.heap.size+1,2,none⟩) (Nat.le_succ _) (.pointer (some ⟨Ba,0,none⟩)));have HA4:Hid (Apart (λj=>j=w.heap.size+1) W3 (((W3.setCell ⟨w.heap.size+1,0,none⟩ (.pointer (some ⟨Bd,0,none⟩))).setCell ⟨w.heap.size+1,1,none⟩ (.pointer (some ⟨Be,0,none⟩))).setCell ⟨w.heap.size+1,2,none⟩ (.pointer (some ⟨Ba,0,none⟩)))):=((Apart.setCell (K:=λj=>j=w.heap.size+1) rfl _ _ _).trans (Apart.setCell (K:=λj=>j=w.heap.size+1) rfl _ _ _)).trans (Apart.setCell (K:=λj=>j=w.heap.size+1) rfl _ _ _);clear r0 r1 r2 f0 f1 f2;generalize (((W3.setCell ⟨w.heap.size+1,0,none⟩ (.pointer (some ⟨Bd,0,none⟩))).setCell ⟨w.heap.size+1,1,none⟩ (.pointer (some ⟨Be,0,none⟩))).setCell ⟨w.heap.size+1,2,none⟩ (.pointer (some ⟨Ba,0,none⟩)))=W4 at *;have r0:W4.cell? ⟨w.heap.size+1,0,none⟩=some (.pointer (some ⟨Bd,0,none⟩)):=ad HX4.out 0;have r1:W4.cell? ⟨w.heap.size+1,1,none⟩=some (.pointer (some ⟨Be,0,none⟩)):=ad HX4.out 1;have r2:W4.cell? ⟨w.heap.size+1,2,none⟩=some (.pointer (some ⟨Ba,0,none⟩)):=ad HX4.out 2;(try simp only [Exit.inBlock,Exit.then]);refine bodyPost_ret (v:=.tuple #[.agg #[.pointer (some ⟨Bd,0,none⟩),.pointer (some ⟨Be,0,none⟩),.pointer (some ⟨Ba,0,none⟩)],.bool true]) (by rw [gY rfl];go_simp) rfl ?_;refine ⟨λh=>absurd HF.out h,λ_=>⟨Ba,Bd,Be,Bm,rfl,(HMA.out.other HA4.out ?_).grow (Q0 _ _) (λj hj=>hj.elim) (λj hj=>hj.elim),by omega,by omega,by omega,by omega,(HMA.out.poolNew HPN.out HA4.out (λe=>by have e:Ba=w.heap.size+1:=e;omega) (λpb _ hl e=>by have e:pb=w.heap.size+1:=e;omega)).less (by omega)⟩,HB4.out⟩;intro j hj arr z hz;rw [hj,HX13.out] at hz;cases hz
 ·have he:=hbad hf;subst he;have HF:=qI hf;have hee:ak (Ol.b6 c)=.iface 121 (.int .i64 (Ol.b6 c)):=by unfold ak;rw [if_neg hf]
  rw [hee];clear hbad hgood hf hee;obtain ⟨ff,hff⟩:∃ f,f=Ol.b6 c:=⟨_,rfl⟩;rw [<- hff] at HF ⊢;have HFE:=qI hff;clear hff
  go_wp2_with fail
  have HX4:Hid ((((W3.setCell ⟨w.heap.size+1,0,none⟩ (.pointer (some ⟨Bd,0,none⟩))).setCell ⟨w.heap.size+1,1,none⟩ (.pointer (some ⟨Be,0,none⟩))).setCell ⟨w.heap.size+1,2,none⟩ (.pointer none)).heap[w.heap.size+1]?=some (.cells #[.pointer (some ⟨Bd,0,none⟩),.pointer (some ⟨Be,0,none⟩),.pointer none] 36)):=aj (aj (aj HX13.out 0 _) 1 _) 2 _;have HB4:=qI (((HB3.out.setCell (p:=⟨w.heap.size+1,0,none⟩) (Nat.le_succ _) (.pointer (some ⟨Bd,0,none⟩))).setCell (p:=⟨w.heap.size+1,1,none⟩) (Nat.le_succ _) (.pointer (some ⟨Be,0,none⟩))).setCell (p:=⟨w.heap.size+1,2,none⟩) (Nat.le_succ _) (.pointer none));have HA4:Hid (Apart (λj=>j=w.heap.size+1) W3 (((W3.setCell ⟨w.heap.size+1,0,none⟩ (.pointer (some ⟨Bd,0,none⟩))).setCell ⟨w.heap.size+1,1,none⟩ (.pointer (some ⟨Be,0,none⟩))).setCell ⟨w.heap.size+1,2,none⟩ (.pointer none))):=((Apart.setCell (K:=λj=>j=w.heap.size+1) rfl _ _ _).trans (Apart.setCell (K:=λj=>j=w.heap.size+1) rfl _ _ _)).trans (Apart.setCell (K:=λj=>j=w.heap.size+1) rfl _ _ _);clear r0 r1 r2 f0 f1 f2;generalize (((W3.setCell ⟨w.heap.size+1,0,none⟩ (.pointer (some ⟨Bd,0,none⟩))).setCell ⟨w.heap.size+1,1,none⟩ (.pointer (some ⟨Be,0,none⟩))).setCell ⟨w.heap.size+1,2,none⟩ (.pointer none))=W4 at *;have r0:W4.cell? ⟨w.heap.size+1,0,none⟩=some (.pointer (some ⟨Bd,0,none⟩)):=ad HX4.out 0;have r1:W4.cell? ⟨w.heap.size+1,1,none⟩=some (.pointer (some ⟨Be,0,none⟩)):=ad HX4.out 1;have r2:W4.cell? ⟨w.heap.size+1,2,none⟩=some (.pointer none):=ad HX4.out 2;(try simp only [Exit.inBlock,Exit.then]);refine bodyPost_ret (v:=.tuple #[.agg #[.pointer (some ⟨Bd,0,none⟩),.pointer (some ⟨Be,0,none⟩),.pointer none],.bool false]) (by rw [gY rfl];go_simp) rfl ?_;exact ⟨λ_=>⟨_,_,rfl⟩,λh=>absurd (HFE.out.trans h) HF.out,HB4.out⟩
end
section
open RowKit Shelf
open Qos (Nd Ct Pd nd ct pd ah)
open Sv (Gv Hd gv hd gsF az aF)
open Dvs (Dv dv aT)
attribute [local go_sem] Oper.semAt_some
theorem wW (v:Value) (hs:List Hd) (w:World) (h:aM w v hs) (hl:hs.length<=100):Calls Tryz.prog 51 #[v] w λe w'=>∃ (l:List (Pd × Value)) (va:Option Addr) (vc:Nat),e=.returned (.slice va l.length vc)/\l.map Prod.fst=hs.map Hd.pod/\w'.ownsRow w.heap.size 47 3 (.slice va l.length vc) l.length (rowP l)/\(∀ x∈l,aE w x.2 x.1.cs)/\Below w.heap.size w w':=by
 obtain ⟨i0,hi,hz0,hz1,hz2⟩:=info_parts pi;obtain ⟨ao,c,rfl,hm,hr⟩:=h;unfold maxLen at hm;have HR:=qI hr;clear hr
 go_enter Tryz.func51,Tryz.ntmps51
 go_wp2
 go_loopw [3,8] (λpv i wr=>∃ (k:Nat) (l:List (Pd × Value)),k<=hs.length/\i=.int .i64 k/\l.length=k/\l.map Prod.fst=(hs.take k).map Hd.pod/\wr.ownsRow w.heap.size 47 3 pv l.length (rowP l)/\(∀ x∈l,aE w x.2 x.1.cs)/\Below w.heap.size w wr) (λ_ i _=>hs.length - (intOf i).toNat)
 case atStart=>exact ⟨0,[],by omega,rfl,rfl,rfl,Qw _ _ _ _,λx hx=>(List.not_mem_nil hx).elim,Q0 _ _⟩
 case round=>
  obtain ⟨k,l,hk,rfl,hlk,hmap,hrow,hcs,hb⟩:=hrel;have HLK:=qI hlk;have HMAP:=qI hmap;have HCS:=qI hcs;have HB:=qI hb;have hln:l.length<=100:=by omega
  have hsz:=hb.size;clear hlk hmap hcs
  by_cases hlt:k<hs.length
  ·obtain ⟨b,o,cv,gvv,rfl,hin⟩:=HR.out (by omega);obtain ⟨x0,x1,x2,x3⟩:=((hin.below hb).2 k hlt).1;have hcon:=(hin.2 k hlt).2.1;have HTK:Hid ((hs.take (k+1)).map Hd.pod=(hs.take k).map Hd.pod++[(hd hs k).pod]):=by
    unfold Hid;rw [Qa hlt,Qj];simp [hd,hlt]
   have HCON:=qI hcon;obtain ⟨ca,cc,hcv,_,_⟩:=id hcon;rw [hcv] at x2 HCON;obtain ⟨ga,gc,hgv,_,_⟩:=id (hin.2 k hlt).2.2;rw [hgv] at x3;clear hin hcon hb hcv hgv;generalize hd hs k=x at *;obtain ⟨⟨xn,xp,xc⟩,xg⟩:=x;dsimp only at x0 x1 x2 x3 HCON HTK;obtain ⟨va,vc,hv⟩:=gO hrow;subst hv;have hA:=(Q0 wr.heap.size wr).alloc (lR) (.cells #[.string xn,.int .i64 xp,.slice ca xc.length cc,.slice ga xg.length gc] 57);have hrow2:=hrow.alloc (.cells #[.string xn,.int .i64 xp,.slice ca xc.length cc,.slice ga xg.length gc] 57);have HBA:=qI (HB.out.trans (hA.mono HB.out.size));have hsA:w.heap.size<=(wr.alloc (.cells #[.string xn,.int .i64 xp,.slice ca xc.length cc,.slice ga xg.length gc] 57)).heap.size:=by simp;omega
   have hnew:=mF (wr.alloc (.cells #[.string xn,.int .i64 xp,.slice ca xc.length cc,.slice ga xg.length gc] 57)) xn xp (.slice ca xc.length cc) 47;rw [show (wr.alloc (.cells #[.string xn,.int .i64 xp,.slice ca xc.length cc,.slice ga xg.length gc] 57)).heap.size=wr.heap.size+1 by simp] at hnew;have HNW:=qI hnew;have hbs:w.heap.size<=((wr.alloc (.cells #[.string xn,.int .i64 xp,.slice ca xc.length cc,.slice ga xg.length gc] 57)).alloc (.cells #[.string xn,.int .i64 xp,.slice ca xc.length cc] 47)).heap.size:=by simp;omega
   clear hA hnew hrow
   go_wp2_with (at_builtin;refine wpList_append_own _ rfl _ _ 70 rfl w.heap.size 47 i0 _ 3 48 Tryz.underlying70 hi hz0 hz1 hz2 rfl (by decide) _ _ _ rfl (hrow2.alloc _) ⟨_,0,none⟩ 1 1 (dy (⟨xn,xp,[]⟩,.slice ca xc.length cc)) rfl rfl HNW.out (mG xn xp ca xc.length cc) (by unfold maxLen;omega) (by omega) hbs ?_;intro v' W2 hown' hgrow' _)
   go_roundw
   case rel=>
    refine ⟨k+1,l++[(⟨xn,xp,xc⟩,.slice ca xc.length cc)],by omega,by go_num,by rw [Q2,HLK.out];rfl,by rw [Qj,HMAP.out,HTK.out];rfl,?_,λy hy=>?_,?_⟩
    ·rw [mE,Q2];exact hown'
    ·rcases Qi.1 hy with hy|hy
     ·exact HCS.out y hy
     ·rw [Qm.1 hy];exact HCON.out
    ·exact (HBA.out.alloc hsA _).grown hgrow' (by simp;omega) (λj hj=>(hrow2.lt j hj).1)
   case measure=>simp [intOf];omega
  ·have hke:k=hs.length:=by omega
   have HE:Hid (l.map Prod.fst=hs.map Hd.pod):=by unfold Hid;rw [HMAP.out,hke,Qh]
   clear hke;obtain ⟨va,vc,hvv⟩:=gO hrow;subst hvv
   go_wp2
   go_ret;exact ⟨l,va,vc,rfl,HE.out,hrow,HCS.out,HB.out⟩
theorem lK {hs:List Hd} {nm:ByteArray}:ch hs nm=true↔∃ h∈hs,h.pod.nm=nm:=by
 unfold ch
 simp
theorem Kd {t:Ol.St} (h:Ol.Inv t) {p:Pd} {s:Ol.Sk} (hs:Ol.left t.m t.ds t.hs=some s) (hp:ah p=0) (h2:ch t.hs p.nm=false) (h3:t.hs.length<12) (hg:(Ol.give t.m s p).1=0):az (Ol.bB t.hs ⟨p,(Ol.give t.m s p).2⟩)=0/\(∃ s',Ol.left t.m t.ds (Ol.bB t.hs ⟨p,(Ol.give t.m s p).2⟩)=some s')/\(Ol.bB t.hs ⟨p,(Ol.give t.m s p).2⟩).length=t.hs.length+1:=by
 have hds:s.ds.length<=16:=by rw [Ol.fI hs];exact (Dvs.gH h.devs).1
 obtain ⟨a1,a2,a3⟩:=Ol.bW.1 h.held;have hlen:(Ol.give t.m s p).2.length=p.cs.length:=Ol.lh t.m s p.cs p.cs.length hg;have hperm:=Ol.insert_perm t.hs ⟨p,(Ol.give t.m s p).2⟩;have hl:(Ol.bB t.hs ⟨p,(Ol.give t.m s p).2⟩).length=t.hs.length+1:=by rw [<- hperm.length_eq,Q2,List.length_singleton]
 refine ⟨Ol.bW.2 ⟨by omega,λx hx=>?_,Ol.uj a3 λy hy e=>?_⟩,⟨_,Ol.uh hs hds (Ol.j7 hp) hg hperm⟩,hl⟩
 ·rcases Qi.1 (hperm.mem_iff.2 hx) with hx|hx
  ·exact a2 x hx
  ·rw [Qm.1 hx];exact ⟨hp,hlen,Ol.py (Ol.px p.cs.length)⟩
 ·have:=lK.2 ⟨y,hy,e⟩
  rw [h2] at this;cases this
section exits
variable {t:Ol.St} {p:Pd}
theorem wX (h:ah p≠0):Ol.aJ t p=(ah p,t.hs):=by unfold Ol.aJ;rw [if_pos h]
theorem wY (h:ah p=0) (h2:ch t.hs p.nm=true):Ol.aJ t p=(5,t.hs):=by unfold Ol.aJ;rw [if_neg (λk=>k h),if_pos (lK.1 h2)]
theorem lL (h2:ch t.hs p.nm=false):¬ ∃ h∈t.hs,h.pod.nm=p.nm:=λh=>by rw [lK.2 h] at h2;cases h2
theorem wZ (h:ah p=0) (h2:ch t.hs p.nm=false) (h3:12<=t.hs.length):Ol.aJ t p=(2,t.hs):=by unfold Ol.aJ;rw [if_neg (λk=>k h),if_neg (lL h2),if_pos h3]
theorem mN (h:ah p=0) (h2:ch t.hs p.nm=false) (h3:t.hs.length<12) (h4:Ol.room t.m (t.hs.map Hd.pod++[p])=false):Ol.aJ t p=(7,t.hs):=by unfold Ol.aJ;rw [if_neg (λk=>k h),if_neg (lL h2),if_neg (by omega),if_pos h4]
variable {s:Ol.Sk}
theorem xa (h:ah p=0) (h2:ch t.hs p.nm=false) (h3:t.hs.length<12) (h4:Ol.room t.m (t.hs.map Hd.pod++[p])=true) (hs:Ol.left t.m t.ds t.hs=some s) (h5:(Ol.give t.m s p).1≠0):Ol.aJ t p=((Ol.give t.m s p).1,t.hs):=by
 unfold Ol.aJ;rw [if_neg (λk=>k h),if_neg (lL h2),if_neg (by omega),if_neg (by rw [h4];decide),hs,Option.getD_some,if_pos h5]
theorem xd (h:ah p=0) (h2:ch t.hs p.nm=false) (h3:t.hs.length<12) (h4:Ol.room t.m (t.hs.map Hd.pod++[p])=true) (hs:Ol.left t.m t.ds t.hs=some s) (h5:(Ol.give t.m s p).1=0) (h6:6000<(aF (Ol.bB t.hs ⟨p,(Ol.give t.m s p).2⟩)).length):Ol.aJ t p=(2,t.hs):=by
 unfold Ol.aJ;rw [if_neg (λk=>k h),if_neg (lL h2),if_neg (by omega),if_neg (by rw [h4];decide),hs,Option.getD_some,if_neg (λk=>k h5),if_pos h6]
theorem Ke (h:ah p=0) (h2:ch t.hs p.nm=false) (h3:t.hs.length<12) (h4:Ol.room t.m (t.hs.map Hd.pod++[p])=true) (hs:Ol.left t.m t.ds t.hs=some s) (h5:(Ol.give t.m s p).1=0) (h6:¬ 6000<(aF (Ol.bB t.hs ⟨p,(Ol.give t.m s p).2⟩)).length):Ol.aJ t p=(0,Ol.bB t.hs ⟨p,(Ol.give t.m s p).2⟩):=by
 unfold Ol.aJ;rw [if_neg (λk=>k h),if_neg (lL h2),if_neg (by omega),if_neg (by rw [h4];decide),hs,Option.getD_some,if_neg (λk=>k h5),if_neg h6]
end exits
theorem qm {W W':World} {Be Bd Bm n:Nat} {dk dk':Dk} {C:Rn->Prop} (h:bz W Be Bd Bm n dk.n dk.k C) (hg:W.grownBy W' (some Bd)) (hd:bd W' Bd dk') (hc:Calm dk'):bz W' Be Bd Bm n dk'.n dk'.k C:=by
 obtain ⟨a1,a2,a3⟩:=h.apart;obtain ⟨l1,l2,l3⟩:=h.lt;obtain ⟨h1,h2,xs,h3,h4,h5⟩:=h;have hk:cB W W':=⟨hg.size,λk arr z hk=>hg.block k (gS hk).1 (λe=>by
  injection e with e
  have h2:W.heap[Bd]?=_:=h2;rw [<- e,hk] at h2;cases h2)⟩
 obtain ⟨k1,k2⟩:=ki h4 hk;exact ⟨h1.block (hg.block Be l1 (λe=>a1 (by injection e))),lB hd hc,xs,h3.block (hg.block Bm l3 (λe=>a3 (by injection e with e;exact e.symm))),k1,λa=>by rw [k2];exact h5 a⟩
def qo (l:List (Hd × Value × Value)) (i:Nat):Prop:=∀ (base:Nat) (v:Value) (y:Hd × Value × Value) (a:Addr) (w:World),w.ownsRow base 57 4 v l.length (l.flatMap ar)->(∀ j u,(ar y)[j]?=some u->w.cell? (a.add j)=some u)->(∀ u∈ar y,u.oneCell'=true)->base<=w.heap.size->v.ownBlock≠some a.block->(∃ arr ty,w.heap[a.block]?=some (Obj.cells arr ty (0,0)))->(∀ x∈l,∀ u∈ar x,u.oneCell'=true)->
 Calls Tryz.prog 54 #[v,.int .i64 i,.slice (some a) 1 1] w λe w'=>∃ v',e=.returned v'/\w'.ownsRow base 57 4 v' (l.length+1) ((l.take i++y :: l.drop i).flatMap ar)/\w.grownBy w' v.ownBlock
theorem xe {l:List (Hd × Value × Value)} (h:l.length<=100):qo l l.length:=by
 intro base v y a w h1 h2 h3 h4 _ _ _;refine (JU base v l.length _ (ar y) a 1 w h1 h2 rfl h3 h h4).mono ?_;rintro e w' ⟨v',rfl,k1,k2⟩;refine ⟨v',rfl,?_,k2⟩;rw [Qh,List.drop_length,List.flatMap_append]
 simpa using k1
theorem Kf (l:List (Hd × Value × Value)) (i:Nat) (y:Hd × Value × Value):(l.take i++y :: l.drop i).map Prod.fst=(l.map Prod.fst).take i++y.1 :: (l.map Prod.fst).drop i:=by simp [List.map_take,List.map_drop]
theorem xf {W:World} {v:Value} {l:List (Hd × Value × Value)} {N:Nat} {M:Nat->Prop} (h:W.ownsRow N 57 4 v l.length (l.flatMap ar)) (hN:∀ j,M j->j<N) (hin:∀ x∈l,aE (ag M W) x.2.1 x.1.pod.cs/\bl (ag M W) x.2.2 x.1.gs):aM (ag M W) v (l.map Prod.fst):=by
 have h':=h
 rcases h.2 with ⟨hv,h0⟩|⟨g,cap,cur,hv,hg,hgc,hc1,hc2,_⟩
 ·have:l=[]:=Qe h0
  subst this;rw [hv];exact ⟨none,0,rfl,⟨lR,Nat.zero_le _⟩,λh=>absurd h (Nat.lt_irrefl 0)⟩
 ·subst hv;have key:∀ (l:List (Hd × Value × Value)) (k:Nat) (hk:k<l.length) (j:Nat),j<4->(l.flatMap ar)[k*4+j]?=(ar l[k])[j]?:=by
   intro l
   induction l with
   | nil=>intro k hk;simp at hk
   | cons a l ih=>
    intro k hk j hj;rw [List.flatMap_cons];cases k with
    | zero=>rw [List.getElem?_append_left (by simp [ar];omega)];simp
    | succ k=>
     rw [List.getElem?_append_right (by simp [ar];omega)]
     have:=ih k (by simpa using hk) j hj
     simp only [List.getElem_cons_succ];rw [<- this]
     congr 1
     simp [ar]
     omega
  refine ⟨_,cap,by rw [Q9],by rw [Q9];exact ⟨hc1,hc2⟩,λ_=>⟨g,0,λk=>(l.getD k (Sv.hd [] 0,.nilIface,.nilIface)).2.1,λk=>(l.getD k (Sv.hd [] 0,.nilIface,.nilIface)).2.2,rfl,by rw [bw];exact (gS hgc).1,λk hk=>?_⟩⟩;rw [Q9] at hk;have e:hd (l.map Prod.fst) k=l[k].1:=by simp [hd,hk]
  have e2:l.getD k (Sv.hd [] 0,.nilIface,.nilIface)=l[k]:=by simp [hk]
  obtain ⟨q1,q2⟩:=hin _ (List.getElem_mem hk);dsimp only;rw [e,e2];have cc:∀ j,j<4->(ag M W).cell? ⟨g,0+k*4+j,none⟩=(ar l[k])[j]?:=λj hj=>by
   rw [World.cell?_of_block (a:=⟨g,0+k*4+j,none⟩) (bH (λhm=>by have:=hN g hm;omega)),Qd,h'.cellAt (k*4+j) (by omega)];exact key l k hk j hj
  exact ⟨⟨cc 0 (by decide),cc 1 (by decide),cc 2 (by decide),cc 3 (by decide)⟩,q1,q2⟩
theorem xh {w':World} {N:Nat} {u:Value} {hs:List Hd} {cv gvv:Nat->Value} (h:w'.ownsRow N 57 4 u hs.length ((List.range hs.length).flatMap λk=>mJ (hd hs k) (cv k) (gvv k))) {W0:World} (hin:∀ k,k<hs.length->aE W0 (cv k) (hd hs k).pod.cs/\bl W0 (gvv k) (hd hs k).gs):∃ l:List (Hd × Value × Value),l.map Prod.fst=hs/\w'.ownsRow N 57 4 u l.length (l.flatMap ar)/\∀ x∈l,aE W0 x.2.1 x.1.pod.cs/\bl W0 x.2.2 x.1.gs:=by
 refine ⟨(List.range hs.length).map λk=>(hd hs k,cv k,gvv k),?_,?_,?_⟩
 ·rw [List.map_map];refine List.ext_getElem (by simp) λi h1 h2=>?_
  simp [hd,h2]
 ·rw [Q9,List.length_range,List.flatMap_map];exact h
 ·intro x hx;obtain ⟨k,hk,rfl⟩:=Qk.1 hx;exact hin k (List.mem_range.1 hk)
end
section
open RowKit Shelf
open Qos (Nd Ct Pd nd ct pd ah)
open Sv (Gv Hd gv hd gsF az aF)
open Dvs (Dv dv aT)
theorem Kg {X V:World} {tb b o c pb:Nat} {m:Ol.Mc} (h:cI X tb b o c m) (hb:Below X.heap.size X V) (hp:X.heap.size<=pb):cI (ag (λj=>j=pb) V) tb b o c m:=by
 have h1:=h.topo.tlt;have h2:=h.topo.lt;refine ⟨iB h.topo ?_ ?_ ?_,h.good,h.op,h.nd,h.pol⟩
 ·rw [bH (by omega),hb.block tb h1]
 ·rw [bH (by omega),hb.block b h2]
 ·rw [bw];exact hb.size
theorem Kh {M:Nat->Prop} {W:World} {tb b c:Nat} {m:Ol.Mc} (h:cI (ag M W) tb b 0 c m) (h0:0<m.l.length):cI W tb b 0 c m:=by
 have nt:¬ M tb:=dV h.topo.cell;have nb:¬ M b:=dV (h.topo.cells 0 h0).1;exact ⟨iB h.topo (bH nt).symm (bH nb).symm (by rw [bw];exact lR),h.good,h.op,h.nd,h.pol⟩
theorem lM {M:Nat->Prop} {W W':World} {tb b c:Nat} {m:Ol.Mc} (h:cI (ag M W) tb b 0 c m) (h0:0<m.l.length) (ha:∀ j,j<W.heap.size->¬ M j->W'.heap[j]?=W.heap[j]?) (hs:W.heap.size<=W'.heap.size):cI (ag M W') tb b 0 c m:=by
 have nt:¬ M tb:=dV h.topo.cell;have nb:¬ M b:=dV (h.topo.cells 0 h0).1;have h1:=h.topo.tlt;have h2:=h.topo.lt;rw [bw] at h1 h2;refine ⟨iB h.topo ?_ ?_ ?_,h.good,h.op,h.nd,h.pol⟩
 ·rw [bH nt,bH nt,ha tb h1 nt]
 ·rw [bH nb,bH nb,ha b h2 nb]
 ·rw [bw,bw];exact hs
theorem Ki {W:World} {x:Hd × Value × Value} (h:aE W x.2.1 x.1.pod.cs/\bl W x.2.2 x.1.gs):∀ u∈ar x,u.oneCell'=true:=by
 obtain ⟨a,cv,gv⟩:=x;obtain ⟨⟨a1,c1,e1,_⟩,⟨a2,c2,e2,_⟩⟩:=h;dsimp only at e1 e2;subst e1 e2;exact qi _ _ _ _ _ _ _
theorem Kj {M:Nat->Prop} {w C:World} {K:Nat} {l:List (Hd × Value × Value)} {v:Value} {i:Nat} {y:Hd × Value × Value} (hrow:C.ownsRow K 57 4 v (l.length+1) ((l.take i++y :: l.drop i).flatMap ar)) (hM:∀ j,M j->j<w.heap.size) (hw:w.heap.size<=K) (old:∀ x∈l,aE (ag M w) x.2.1 x.1.pod.cs/\bl (ag M w) x.2.2 x.1.gs) (hb:Below w.heap.size w C) (h1:aE (ag M C) y.2.1 y.1.pod.cs) (h2:bl (ag M C) y.2.2 y.1.gs):aM (ag M C) v ((l.map Prod.fst).take i++y.1 :: (l.map Prod.fst).drop i):=by
 rw [<- Kf];have hlen:(l.take i++y :: l.drop i).length=l.length+1:=by simp;omega
 have hle:aB (ag M w) (ag M C):=bg (λj hj hn=>⟨hn,hb.block j hj⟩) hb.size;refine xf (N:=K) (by rw [hlen];exact hrow) (λj hj=>Q1 (hM j hj) hw) λx hx=>?_
 rcases Qi.1 hx with hx|hx
 ·exact ⟨(old x (List.mem_of_mem_take hx)).1.le hle,(old x (List.mem_of_mem_take hx)).2.le hle⟩
 ·rcases List.mem_cons.1 hx with hx|hx
  ·rw [hx];exact ⟨h1,h2⟩
  ·exact ⟨(old x (List.mem_of_mem_drop hx)).1.le hle,(old x (List.mem_of_mem_drop hx)).2.le hle⟩
section
variable {N:Nat->Prop} {Ba Bd Be Bm:Nat} {t:Ol.St} {dk:Dk} {n:Nat} {p:Pd}
theorem av.keep {w W:World} (h:av w N Ba Bd Be Bm t dk n) (hb:Below w.heap.size w W):av W N Ba Bd Be Bm t dk n:=h.grow hb (λ_ k=>.inl k) (λj k=>Q1 (h.nlt j k) hb.size)
theorem av.disk {W W':World} {dk':Dk} (h:av W N Ba Bd Be Bm t dk n) (hg:W.grownBy W' (some Bd)) (hd:bd W' Bd dk') (hc:Calm dk'):av W' N Ba Bd Be Bm t dk' n:=by
 have hE:=qm h.eng hg hd hc;obtain ⟨h1,h2,h0l,h3,h4,h5,h6,h7,tb,b,c,hv,pb,db,ao,pc,s,k1,k2,k3,k4,k5,k6,k7⟩:=h;have hf:∀ j,j<W.heap.size->¬ four N Ba Bd Bm j->W'.heap[j]?=W.heap[j]?:=λj hj hn=>hg.block j hj (λe=>hn (.inr (.inr (.inl (by injection e)))))
 refine ⟨h1,hc,h0l,hE,h4,h5,λj hj=>Q1 (h6 j hj) hg.size,h7,tb,b,c,hv,pb,db,ao,pc,s,(hg.block Ba k1.lt (λe=>h4.1 (by injection e))).trans k1,k2.le (bg (λj hj hn=>⟨hn,hf j hj hn⟩) hg.size),lM k3 h0l hf hg.size,k4,⟨kk k5.pool (hf pb k5.pool.lt k6) (λh0=>hf db (k5.pool.at0 h0).2.2 (k7 h0)) hg.size,k5.nodes,k5.cp⟩,k6,k7⟩
theorem lN {w W:World} {e:Nat} (h:av w N Ba Bd Be Bm t dk n) (hb:Below w.heap.size w W) (he:Ol.aJ t p=(e,t.hs)):(∃ dk' n',(n'<=n+dB (au t.hs) (au (Ol.aJ t p).2)/\eM w W Ba)/\av W N Ba Bd Be Bm ⟨t.m,t.ds,(Ol.aJ t p).2⟩ dk' n')/\Apart (three Ba Bd Bm) w W:=by
 rw [he];exact ⟨⟨dk,n,⟨Nat.le_add_right _ _,.inl (hb.block Ba h.poolAt.1)⟩,h.keep hb⟩,Apart.of_below hb⟩
theorem Kk {w W W':World} {e:Nat} {dk':Dk} (h:av w N Ba Bd Be Bm t dk n) (hb:Below w.heap.size w W) (hg:W.grownBy W' (some Bd)) (hd:bd W' Bd dk') (hc:Calm dk') (he:Ol.aJ t p=(e,t.hs)):(∃ dk' n',(n'<=n+dB (au t.hs) (au (Ol.aJ t p).2)/\eM w W' Ba)/\av W' N Ba Bd Be Bm ⟨t.m,t.ds,(Ol.aJ t p).2⟩ dk' n')/\Apart (three Ba Bd Bm) w W':=by
 rw [he];exact ⟨⟨dk',n,⟨Nat.le_add_right _ _,.inl ((hg.block Ba (Q1 h.poolAt.1 hb.size) (λe=>h.apart.1 (by injection e))).trans (hb.block Ba h.poolAt.1))⟩,(h.keep hb).disk hg hd hc⟩,(Apart.of_below hb).trans (eA hg (λj e _=>.inr (.inl (by injection e with e;exact e.symm))))⟩
theorem av.next {w W0 W1 W2 W3:World} {m:Ol.Mc} {ds:List Dv} {hs:List Hd} {dk':Dk} {n' tb b c pb db:Nat} {v v0:Value} {ao:Option Addr} {pc cp0 pb0:Nat} {s:Ol.Sk} (h:av w N Ba Bd Be Bm t dk n) (hb:Below w.heap.size w W0) (hT:cI (ag (four N Ba Bd Bm) W0) tb b 0 c m) (h0:0<m.l.length) (hH:aM (ag (four N Ba Bd Bm) W0) v hs) (hg:W0.grownBy W1 (some Bd)) (ho:ba Bd Bm W1 W2) (ha:Apart (λj=>j=Ba) W2 W3) (hO:bh W3 Ba tb m Bd Be v s.cp pb) (hS:de W3 pb db ao pc s) (hpb:W2.heap.size<=pb) (hdb:0<s.ds.length->W2.heap.size<=db) (hE:bz W2 Be Bd Bm n' dk'.n dk'.k (λa=>a∈au hs)) (hO2:bh W2 Ba tb m Bd Be v0 cp0 pb0) (hi:Ol.Inv ⟨m,ds,hs⟩) (hl:Ol.left m ds hs=some s) (hc:Calm dk') (htx:(aF hs).length<=6000):av W3 N Ba Bd Be Bm ⟨m,ds,hs⟩ dk' n':=by
 have z1:=hb.size;have z2:=hg.size;have z3:=ho.size;have z4:=ha.size;have hf:∀ j,j<W0.heap.size->¬ four N Ba Bd Bm j->W3.heap[j]?=W0.heap[j]?:=λj hj hn=>
  (ha.block j (by omega) (λe=>hn (.inr (.inl e)))).trans ((ho.block j (by omega) (λe=>hn (.inr (.inr (.inl e)))) (λe=>hn (.inr (.inr (.inr e))))).trans (hg.block j hj (λe=>hn (.inr (.inr (.inl (by injection e)))))))
 obtain ⟨l1,l2,l3⟩:=h.eng.lt;obtain ⟨q1,q2,q3,q4,q5,q6,q7,q9,q8⟩:=h;have l4:Ba<w.heap.size:=by
  obtain ⟨_,_,_,_,_,_,_,_,_,k1,_⟩:=q8;exact k1.lt
 have f4:∀ j,W2.heap.size<=j->¬ four N Ba Bd Bm j:=λj hj e=>by
  rcases e with e|e|e|e
  ·have:=q7 j e;omega
  all_goals omega
 exact ⟨hi,hc,h0,nj hE ha q5 hO2.notInt,q5,q6,λj hj=>by have:=q7 j hj;omega,htx,tb,b,c,v,pb,db,ao,pc,s,hO,hH.le (bg (λj hj hn=>⟨hn,hf j hj hn⟩) (by omega)),lM hT h0 hf (by omega),hl,hS,f4 pb hpb,λh=>f4 db (hdb h)⟩
end
end
end Go.Proofs.YtbmmnflgnmjboaaGreatDoor
namespace Go.Proofs
open Go.Shelf
shelf_lay_g SlLaysH0.n6 Slgf 6 at Tryz 151 as Tryz.idxH
end Go.Proofs
namespace Go.Proofs.YtbmmnflgnmjboaaGreatDoor
section
open RowKit Shelf
open Qos (Nd Ct Pd nd ct pd ah)
open Sv (Gv Hd gv hd gsF az aF)
attribute [local go_sem] Oper.semAt_some
structure HS where
 h:Hd
 ca:Option Addr
 cn:Nat
 cc:Nat
 ga:Option Addr
 gn:Nat
 gc:Nat
instance:Inhabited HS:=⟨⟨Sv.hd [] 0,none,0,0,none,0,0⟩⟩
def HS.tri (x:HS):Hd × Value × Value:=(x.h,.slice x.ca x.cn x.cc,.slice x.ga x.gn x.gc)
def HS.cells (x:HS):List Value:=[.string x.h.pod.nm,.int .i64 x.h.pod.pr,.slice x.ca x.cn x.cc,.slice x.ga x.gn x.gc]
def b7 (L:List HS) (k:Nat):HS:=L.getD k default
theorem nk {L:List HS} {k:Nat} (h:k<L.length):b7 L k=L[k]:=by simp [b7,h]
theorem Kl {W:World} {l:List (Hd × Value × Value)} (h:∀ x∈l,aE W x.2.1 x.1.pod.cs/\bl W x.2.2 x.1.gs):∃ L:List HS,L.map HS.tri=l:=by
 induction l with
 | nil=>exact ⟨[],rfl⟩
 | cons x l ih=>
  obtain ⟨L,hL⟩:=ih λy hy=>h y (Qv _ hy)
  obtain ⟨⟨a1,c1,e1,_⟩,a2,c2,e2,_⟩:=h x List.mem_cons_self;refine ⟨⟨x.1,a1,x.1.pod.cs.length,c1,a2,x.1.gs.length,c2⟩ :: L,?_⟩;rw [Qq,hL]
  congr 1
  obtain ⟨x1,x2,x3⟩:=x;dsimp only at e1 e2;rw [e1,e2];rfl
def Has (cur:Array Value) (k:Nat) (x:HS):Prop:=cur[k*4]?=some (.string x.h.pod.nm)/\cur[k*4+1]?=some (.int .i64 x.h.pod.pr)/\cur[k*4+2]?=some (.slice x.ca x.cn x.cc)/\cur[k*4+3]?=some (.slice x.ga x.gn x.gc)
def bU (W:World) (g cap:Nat) (R:Nat->HS->Prop):Prop:=∃ cur,W.heap[g]?=some (.cells cur 57 (0,0))/\cur.size=cap*4/\∀ k x,R k x->Has cur k x
theorem bU.mono {W:World} {g cap:Nat} {R R':Nat->HS->Prop} (h:bU W g cap R) (hr:∀ k x,R' k x->R k x):bU W g cap R':=by
 obtain ⟨cur,h1,h2,h3⟩:=h;exact ⟨cur,h1,h2,λk x hx=>h3 k x (hr k x hx)⟩
theorem bU.lt {W:World} {g cap:Nat} {R:Nat->HS->Prop} (h:bU W g cap R):g<W.heap.size:=by
 obtain ⟨cur,h1,_⟩:=h;exact (gS h1).1
theorem bU.block {W W':World} {g cap:Nat} {R:Nat->HS->Prop} (h:bU W g cap R) (hb:W'.heap[g]?=W.heap[g]?):bU W' g cap R:=by
 obtain ⟨cur,h1,h2,h3⟩:=h;exact ⟨cur,hb.trans h1,h2,h3⟩
theorem bU.cells {W:World} {g cap:Nat} {R:Nat->HS->Prop} (h:bU W g cap R) {k:Nat} {x:HS} (hr:R k x):W.cell? ⟨g,k*4,none⟩=some (.string x.h.pod.nm)/\W.cell? ⟨g,k*4+1,none⟩=some (.int .i64 x.h.pod.pr)/\W.cell? ⟨g,k*4+2,none⟩=some (.slice x.ca x.cn x.cc)/\W.cell? ⟨g,k*4+3,none⟩=some (.slice x.ga x.gn x.gc):=by
 obtain ⟨cur,h1,h2,h3⟩:=h;obtain ⟨a,b,c,d⟩:=h3 k x hr;have cc:∀ j,W.cell? ⟨g,j,none⟩=cur[j]?:=λj=>by simp [World.cell?,h1]
 rw [cc,cc,cc,cc];exact ⟨a,b,c,d⟩
theorem bU.frozen {W:World} {g cap:Nat} {R:Nat->HS->Prop} (h:bU W g cap R) (j:Nat):W.frozen? ⟨g,j,none⟩=false:=by
 obtain ⟨cur,h1,_⟩:=h;exact aq h1 j
theorem bU.there {W:World} {g cap:Nat} {R:Nat->HS->Prop} (h:bU W g cap R) {j:Nat} (hj:j<cap*4):(W.cell? ⟨g,j,none⟩).isSome=true:=by
 obtain ⟨cur,h1,h2,_⟩:=h;have cc:W.cell? ⟨g,j,none⟩=cur[j]?:=by simp [World.cell?,h1]
 rw [cc,Array.getElem?_eq_getElem (by omega)];rfl
theorem bU.set {W:World} {g cap:Nat} {R:Nat->HS->Prop} (h:bU W g cap R) {i:Nat} (hi:i<cap) (y:HS):bU ((((W.setCell ⟨g,i*4,none⟩ (.string y.h.pod.nm)).setCell ⟨g,i*4+1,none⟩ (.int .i64 y.h.pod.pr)).setCell ⟨g,i*4+2,none⟩ (.slice y.ca y.cn y.cc)).setCell ⟨g,i*4+3,none⟩ (.slice y.ga y.gn y.gc)) g cap (λk x=>(k=i/\x=y)\/(k≠i/\R k x)):=by
 obtain ⟨cur,h1,h2,h3⟩:=h;refine ⟨_,aj (aj (aj (aj h1 (i*4) _) (i*4+1) _) (i*4+2) _) (i*4+3) _,by simp [h2],?_⟩;rintro k x (⟨rfl,rfl⟩|⟨hk,hr⟩)
 ·unfold Has;simp only [Array.getElem?_setIfInBounds,Array.size_setIfInBounds];refine ⟨?_,?_,?_,?_⟩
  ·rw [if_neg (by omega),if_neg (by omega),if_neg (by omega),if_pos trivial,if_pos (by omega)]
  ·rw [if_neg (by omega),if_neg (by omega),if_pos trivial,if_pos (by omega)]
  ·rw [if_neg (by omega),if_pos trivial,if_pos (by omega)]
  ·rw [if_pos trivial,if_pos (by omega)]
 ·obtain ⟨a,b,c,d⟩:=h3 k x hr;unfold Has;simp only [Array.getElem?_setIfInBounds];refine ⟨?_,?_,?_,?_⟩
  ·rw [if_neg (by omega),if_neg (by omega),if_neg (by omega),if_neg (by omega)];exact a
  ·rw [if_neg (by omega),if_neg (by omega),if_neg (by omega),if_neg (by omega)];exact b
  ·rw [if_neg (by omega),if_neg (by omega),if_neg (by omega),if_neg (by omega)];exact c
  ·rw [if_neg (by omega),if_neg (by omega),if_neg (by omega),if_neg (by omega)];exact d
theorem bU.tail {g cap i:Nat} {R:Nat->HS->Prop} (hR:∀ k x,R k x->k<i):∀ (vs:List Value) (o:Nat) (W:World),i*4<=o->bU W g cap R->bU (W.setCells g o vs) g cap R:=by
 intro vs
 induction vs with
 | nil=>intro o W _ h;exact h
 | cons v vs ih=>
  intro o W ho h;rw [World.setCells];refine ih (o+1) _ (by omega) ?_;obtain ⟨cur,h1,h2,h3⟩:=h;refine ⟨_,aj h1 o v,by simp [h2],λk x hx=>?_⟩;obtain ⟨a,b,c,d⟩:=h3 k x hx
  have:=hR k x hx
  unfold Has;simp only [Array.getElem?_setIfInBounds];refine ⟨?_,?_,?_,?_⟩
  ·rw [if_neg (by omega)];exact a
  ·rw [if_neg (by omega)];exact b
  ·rw [if_neg (by omega)];exact c
  ·rw [if_neg (by omega)];exact d
theorem xi (L:List HS) (k j:Nat) (hk:k<L.length) (hj:j<4):((L.map HS.tri).flatMap ar)[k*4+j]?=(HS.cells L[k])[j]?:=by
 induction L generalizing k with
 | nil=>simp at hk
 | cons a l ih=>
  rw [Qq,List.flatMap_cons];cases k with
  | zero=>rw [List.getElem?_append_left (by simp [ar];omega)];simp [ar,HS.tri,HS.cells]
  | succ k=>
   rw [List.getElem?_append_right (by simp [ar];omega)]
   have:=ih k (by simpa using hk)
   simp only [List.getElem_cons_succ];rw [<- this]
   congr 1
   simp [ar]
   omega
theorem xj (L:List HS):((L.map HS.tri).flatMap ar).length=L.length*4:=by
 induction L with
 | nil=>rfl
 | cons a l ih=>rw [Qq,List.flatMap_cons,Q2,ih,Qg];simp [ar];omega
theorem Km {W:World} {base g n cap:Nat} {L:List HS} (h:W.ownsRow base 57 4 (.slice (some ⟨g,0,none⟩) n cap) L.length ((L.map HS.tri).flatMap ar)):bU W g cap (λk x=>k<L.length/\x=b7 L k)/\base<=g/\L.length<=cap/\cap<=maxLen:=by
 rcases h.2 with ⟨h1,_⟩|⟨g',cap',cur,h1,h2,h3,h4,h5,h6,h7⟩
 ·cases h1
 ·cases h1;refine ⟨⟨cur,h3,h6,?_⟩,h2,h4,h5⟩;rintro k x ⟨hk,rfl⟩;rw [nk hk];have e:∀ j,j<4->cur[k*4+j]?=(HS.cells L[k])[j]?:=λj hj=>by
   rw [<- xi L k j hk hj,<- h7,List.getElem?_take,if_pos (by omega),Array.getElem?_toList]
  exact ⟨e 0 (by decide),e 1 (by decide),e 2 (by decide),e 3 (by decide)⟩
theorem Kn {W:World} {base g cap:Nat} {L:List HS} (h:bU W g cap (λk x=>k<L.length/\x=b7 L k)) (hb:base<=g) (hl:L.length<=cap) (hc:cap<=maxLen):W.ownsRow base 57 4 (.slice (some ⟨g,0,none⟩) L.length cap) L.length ((L.map HS.tri).flatMap ar):=by
 obtain ⟨cur,h1,h2,h3⟩:=h;refine ⟨xj L,.inr ⟨g,cap,cur,rfl,hb,h1,hl,hc,h2,?_⟩⟩;have hsz:cur.toList.length=cap*4:=by simpa using h2
 refine List.ext_getElem? λq=>?_
 rw [List.getElem?_take]
 by_cases hq:q<L.length*4
 ·rw [if_pos hq];have e1:q=q / 4*4+q % 4:=by omega
  have hk:q / 4<L.length:=by omega
  obtain ⟨a,b,c,d⟩:=h3 (q / 4) _ ⟨hk,rfl⟩;rw [nk hk] at a b c d;have hm:q % 4<4:=Nat.mod_lt _ (by decide);rw [e1,xi L (q / 4) (q % 4) hk hm,Array.getElem?_toList]
  have:q % 4=0\/q % 4=1\/q % 4=2\/q % 4=3:=by omega
  rcases this with e|e|e|e <;> rw [e]
  ·exact a
  ·exact b
  ·exact c
  ·exact d
 ·rw [if_neg hq,List.getElem?_eq_none (by rw [xj];omega)]
end
section
open RowKit Shelf
open Qos (Nd Ct Pd nd ct pd ah)
open Sv (Gv Hd gv hd gsF az aF)
attribute [local go_sem] Oper.semAt_some
def qp (nm:ByteArray):Obj:=.cells #[.string nm] 9
theorem xo (x:HS) (nm:ByteArray) (Bn:Nat) (W:World) (hB:W.heap[Bn]?=some (qp nm)):Calls Tryz.prog 113 #[.agg #[.string x.h.pod.nm,.int .i64 x.h.pod.pr,.slice x.ca x.cn x.cc,.slice x.ga x.gn x.gc],.pointer (some ⟨Bn,0,none⟩)] W λe w'=>e=.returned (.bool (decide (x.h.pod.nm=nm)))/\Below W.heap.size W w':=by
 have b0:(W.alloc (.cells #[.string x.h.pod.nm,.int .i64 x.h.pod.pr,.slice x.ca x.cn x.cc,.slice x.ga x.gn x.gc] 57)).cell? ⟨Bn,0,none⟩=some (.string nm):=ad (bx hB _) 0;have hne:Bn≠W.heap.size:=by have:=(gS hB).1;omega
 have HB:=qI ((Q0 W.heap.size W).alloc (lR) (.cells #[.string x.h.pod.nm,.int .i64 x.h.pod.pr,.slice x.ca x.cn x.cc,.slice x.ga x.gn x.gc] 57));have h1:=kO x.h.pod.nm nm;clear hB;generalize decide (x.h.pod.nm=nm)=bb at *
 go_enter Tryz.func113,Tryz.ntmps113
 go_wp2
 go_ret;exact ⟨rfl,HB.out⟩
theorem Ko (p:HS->Bool):∀ (l:List HS) (i:Nat),(Lib.idxByFrom (λ_ y=>p y) default l i=-1/\∀ x∈l,p x=false)\/∃ k,k<l.length/\Lib.idxByFrom (λ_ y=>p y) default l i=((i+k:Nat):Int)/\p (b7 l k)=true/\∀ x∈l.take k,p x=false:=by
 intro l
 induction l with
 | nil=>intro i;exact .inl ⟨rfl,λx hx=>by cases hx⟩
 | cons y r ih=>
  intro i;cases h:p y with
  | true=>exact .inr ⟨0,by simp,by simp [Lib.idxByFrom,h],by simpa [b7] using h,λx hx=>by cases hx⟩
  | false=>
   rcases ih (i+1) with ⟨e,ha⟩|⟨k,hk,e,ht,ha⟩
   ·exact .inl ⟨by simp [Lib.idxByFrom,h,e],λx hx=>by rcases List.mem_cons.1 hx with rfl|hx;exact h;exact ha x hx⟩
   ·refine .inr ⟨k+1,by simpa using hk,?_,by simpa [b7] using ht,λx hx=>?_⟩
    ·simp only [Lib.idxByFrom,h];rw [show (if false=true then (i:Int) else Lib.idxByFrom (λ_ y=>p y) default r (i+1))=Lib.idxByFrom (λ_ y=>p y) default r (i+1) from rfl,e]
     congr 1
     omega
    ·rw [List.take_succ_cons] at hx
     rcases List.mem_cons.1 hx with rfl|hx
     ·exact h
     ·exact ha x hx
theorem Kp (nm:ByteArray) (Bn g cap:Nat) (L:List HS) (w:World) (hB:w.heap[Bn]?=some (qp nm)) (hr:bU w g cap (λk x=>k<L.length/\x=b7 L k)) (hl:L.length<=100) :
  Calls Tryz.prog 151 #[.slice (some ⟨g,0,none⟩) L.length cap,.func (.func 113) #[] #[.pointer (some ⟨Bn,0,none⟩)]] w λe w'=>e=.returned (.int .i64 (Lib.idxByFrom (λ_ y=>decide (y.h.pod.nm=nm)) default L 0))/\Below w.heap.size w w':=by
 have eg:∀ args w,(callFunc 113 args).run Tryz.prog w=.ok (.enter 113 args) w:=enters_of Tryz.func113 (by kernel_rfl) rfl;have hlt:Bn<w.heap.size:=(gS hB).1;have hp:PredBelow Tryz.prog 113 #[.pointer (some ⟨Bn,0,none⟩)] (λx:HS=>.agg (HS.cells x).toArray) (λy=>decide (y.h.pod.nm=nm)) w:=λW x hb=>by
  refine (xo x nm Bn W ((hb.block Bn hlt).trans hB)).mono ?_;rintro e w' ⟨rfl,hb'⟩;exact ⟨rfl,hb.trans (hb'.mono hb.size)⟩
 have hcon:=AnyQ.slices_IndexFunc Tryz.idxH 4 Tryz.isAgg57 Tryz.sizeOf57 HS.cells (λ_=>rfl) (λy=>decide (y.h.pod.nm=nm)) 113 #[.pointer (some ⟨Bn,0,none⟩)] eg g 0 L.length cap L w hp (lR) (by omega) hr.lt (λj hj i v hi=>by
  have e:L[j]! = b7 L j:=by rw [getElem!_pos L j hj,nk hj]
  rw [e] at hi;obtain ⟨a,b,c,d⟩:=hr.cells (k:=j) ⟨hj,rfl⟩;rw [Qd]
  match i,hi with
  | 0,hi=>simp [HS.cells] at hi;subst hi;exact a
  | 1,hi=>simp [HS.cells] at hi;subst hi;exact b
  | 2,hi=>simp [HS.cells] at hi;subst hi;exact c
  | 3,hi=>simp [HS.cells] at hi;subst hi;exact d
  | q+4,hi=>simp [HS.cells] at hi)
 rw [Qh] at hcon;exact hcon
theorem Kq (w:World):(zeroValue 57).run Tryz.prog w=.ok (.agg #[.string ByteArray.empty,.int .i64 0,.slice none 0 0,.slice none 0 0]) w:=by kernel_rfl
theorem Kr (w:World) (ty:TypeId) (g o n c:Nat) (hn:0<n) (hc:∀ j,j<n*4->(w.cell? ⟨g,o+j,none⟩).isSome=true) (hf:∀ j,w.frozen? ⟨g,j,none⟩=false) :
  ∃ vs:List Value,(Builtin.clear_ #[53] ty #[.slice (some ⟨g,o,none⟩) n c]).run Tryz.prog w=.ok (.tuple #[]) (w.setCells g o vs):=by
 have hv:=Kq w;have hzc:(Value.agg #[.string ByteArray.empty,.int .i64 0,.slice none 0 0,.slice none 0 0]).cells=#[.string ByteArray.empty,.int .i64 0,.slice none 0 0,.slice none 0 0]:=by rfl
 obtain ⟨vs,hvs⟩:∃ vs,vs=(Builtin.zeroCells (Value.agg #[.string ByteArray.empty,.int .i64 0,.slice none 0 0,.slice none 0 0]).cells n).toList:=⟨_,rfl⟩;have hlen:vs.length=n*4:=by rw [hvs,hzc];simp [Builtin.zeroCells]
 have hone:∀ u∈vs,u.oneCell'=true:=λu hu=>by
  rw [hvs,hzc] at hu;simp only [Builtin.zeroCells,Array.toList_map,Qk] at hu;obtain ⟨q,_,rfl⟩:=hu;have hq:q % 4<4:=Nat.mod_lt _ (by decide)
  have:q % 4=0\/q % 4=1\/q % 4=2\/q % 4=3:=by omega
  show (#[Value.string ByteArray.empty,.int .i64 0,.slice none 0 0,.slice none 0 0][q % 4]!).oneCell'=true
  rcases this with e|e|e|e <;> rw [e] <;> rfl
 have hst:=run_storeCells_cells (P:=Tryz.prog) g o vs 0 w (λj hj=>by rw [Nat.add_zero];exact hc j (by omega)) (λj _=>hf _) hone;obtain ⟨m,rfl⟩:∃ m,n=m+1:=⟨n - 1,by omega⟩;simp only [Nat.add_zero] at hst;refine ⟨vs,?_⟩
 simp [Builtin.clear_,run_underlying Tryz.underlying53,hv,<- hvs,hst]
end
section
open RowKit Shelf
open Qos (Nd Ct Pd nd ct pd ah)
open Sv (Gv Hd gv hd gsF az aF)
attribute [local go_sem] Oper.semAt_some
def kept (L:List HS) (nm:ByteArray):List HS:=L.filter λx=>!decide (x.h.pod.nm=nm)
theorem xq {L:List HS} {nm:ByteArray} (h:∀ x∈L,decide (x.h.pod.nm=nm)=false):kept L nm=L:=List.filter_eq_self.2 λx hx=>by rw [h x hx];rfl
theorem xr {L:List HS} {nm:ByteArray} {b:Nat} (hb:b<L.length):kept (L.take (b+1)) nm=kept (L.take b) nm++(if decide ((b7 L b).h.pod.nm=nm) then [] else [b7 L b]):=by
 rw [Qa hb,<- nk hb];unfold kept;rw [List.filter_append];cases h:decide ((b7 L b).h.pod.nm=nm) <;> simp [h]
theorem Ks {A B:List HS} {k:Nat} (h:k<A.length):b7 (A++B) k=b7 A k:=by simp [b7,List.getD,List.getElem?_append_left h]
theorem Kt {A:List HS} {x:HS}:b7 (A++[x]) A.length=x:=by simp [b7,List.getD]
theorem Ku {L:List HS} {k b:Nat} (h:k<b):b7 (L.take b) k=b7 L k:=by simp [b7,List.getD,h]
theorem lO (g:Nat):∀ (vs:List Value) (o:Nat) (W:World),W.grownBy (W.setCells g o vs) (some g):=by
 intro vs
 induction vs with
 | nil=>intro o W;exact dF (Q0 _ _) _
 | cons v vs ih=>intro o W;exact (bL W ⟨g,o,none⟩ v).trans (ih (o+1) _)
theorem Kv (nm:ByteArray) (Bn g cap:Nat) (L:List HS) (w:World) (hB:w.heap[Bn]?=some (qp nm)) (hne:Bn≠g) (hr:bU w g cap (λk x=>k<L.length/\x=b7 L k)) (hlc:L.length<=cap) (hcm:cap<=maxLen) (hl:L.length<=100) :
  Calls Tryz.prog 112 #[.slice (some ⟨g,0,none⟩) L.length cap,.func (.func 113) #[] #[.pointer (some ⟨Bn,0,none⟩)]] w λe w'=>e=.returned (.slice (some ⟨g,0,none⟩) (kept L nm).length cap)/\bU w' g cap (λk x=>k<(kept L nm).length/\x=b7 (kept L nm) k)/\w.grownBy w' (some g):=by
 have HI:=qI (Kp nm Bn g cap L w hB hr hl);have HB:=qI hB;have HR:=qI hr;have hgl:=hr.lt;have hbl:Bn<w.heap.size:=(gS hB).1;have eg:∀ args w,(callFunc 113 args).run Tryz.prog w=.ok (.enter 113 args) w:=enters_of Tryz.func113 (by kernel_rfl) rfl;have hcm2:cap<=9223372036854775807:=by unfold maxLen at hcm;omega
 clear hB hr hcm
 go_enter Tryz.func112,Tryz.ntmps112
 go_wp2_with fail
 refine HI.out.mono ?_;rintro e W1 ⟨rfl,hb1⟩;have HB1:=qI hb1;clear hb1 HI
 rcases Ko (λy=>decide (y.h.pod.nm=nm)) L 0 with ⟨e,hno⟩|⟨k0,hk0,e,hhit,hbef⟩
 ·rw [e];have HK:=qI (xq hno);clear e hno
  go_wp2
  go_ret;rw [HK.out];exact ⟨rfl,HR.out.block (HB1.out.block g hgl),dF HB1.out _⟩
 ·rw [e,Qd];have HK:Hid (kept (L.take (k0+1)) nm=L.take k0):=by
   unfold Hid;rw [xr hk0,if_pos hhit,List.append_nil,xq hbef]
  have hk1:(((k0:Nat):Int) == -1)=false:=by rw [Qr];omega
  clear e hhit hbef
  go_wp2_with fail
  clear hk1
  go_loopw [5,6] (λi j wr=>∃ a b:Nat,i=.int .i64 a/\j=.int .i64 b/\a<b/\b<=L.length/\a=(kept (L.take b) nm).length/\bU wr g cap (λk x=>(k<a/\x=b7 (kept (L.take b) nm) k)\/(b<=k/\k<L.length/\x=b7 L k))/\w.grownBy wr (some g)) (λ_ j _=>L.length - (intOf j).toNat)
  case atStart=>
   refine ⟨k0,k0+1,rfl,by go_num,by omega,by omega,by rw [HK.out,Qu];omega,(HR.out.block (HB1.out.block g hgl)).mono ?_,dF HB1.out _⟩;rintro k x (⟨h1,h2⟩|⟨h1,h2,h3⟩)
   ·rw [HK.out,Ku h1] at h2;exact ⟨by omega,h2⟩
   ·exact ⟨h2,h3⟩
  case round=>
   obtain ⟨a,b,rfl,rfl,hab,hbl2,hae,hrow,hgr⟩:=hrel;have HAE:=qI hae;have HROW:=qI hrow;have HGR:=qI hgr;have hsr:=hgr.size;have HBN:=qI ((hgr.block Bn hbl (λe=>hne (by injection e))).trans HB.out);clear hae hrow hgr
   by_cases hlt:b<L.length
   ·obtain ⟨c0,c1,c2,c3⟩:=HROW.out.cells (k:=b) (x:=b7 L b) (.inr ⟨lR,hlt,rfl⟩);have HNX:=qI (xr (nm:=nm) hlt);obtain ⟨x,hx⟩:∃ x,x=b7 L b:=⟨_,rfl⟩;rw [<- hx] at c0 c1 c2 c3 HNX;have HXE:=qI hx;clear hx;have HBA:=qI ((Q0 wr.heap.size wr).alloc (lR) (.cells #[.string x.h.pod.nm,.int .i64 x.h.pod.pr,.slice x.ca x.cn x.cc,.slice x.ga x.gn x.gc] 57));have HXA:=qI (aG wr (.cells #[.string x.h.pod.nm,.int .i64 x.h.pod.pr,.slice x.ca x.cn x.cc,.slice x.ga x.gn x.gc] 57) rfl);have HZA:Hid ((wr.alloc (.cells #[.string x.h.pod.nm,.int .i64 x.h.pod.pr,.slice x.ca x.cn x.cc,.slice x.ga x.gn x.gc] 57)).heap.size=wr.heap.size+1):=by unfold Hid;simp
    have y0:(wr.alloc (.cells #[.string x.h.pod.nm,.int .i64 x.h.pod.pr,.slice x.ca x.cn x.cc,.slice x.ga x.gn x.gc] 57)).cell? ⟨wr.heap.size,0,none⟩=some (.string x.h.pod.nm):=ad HXA.out 0;have y1:(wr.alloc (.cells #[.string x.h.pod.nm,.int .i64 x.h.pod.pr,.slice x.ca x.cn x.cc,.slice x.ga x.gn x.gc] 57)).cell? ⟨wr.heap.size,1,none⟩=some (.int .i64 x.h.pod.pr):=ad HXA.out 1;have y2:(wr.alloc (.cells #[.string x.h.pod.nm,.int .i64 x.h.pod.pr,.slice x.ca x.cn x.cc,.slice x.ga x.gn x.gc] 57)).cell? ⟨wr.heap.size,2,none⟩=some (.slice x.ca x.cn x.cc):=ad HXA.out 2;have y3:(wr.alloc (.cells #[.string x.h.pod.nm,.int .i64 x.h.pod.pr,.slice x.ca x.cn x.cc,.slice x.ga x.gn x.gc] 57)).cell? ⟨wr.heap.size,3,none⟩=some (.slice x.ga x.gn x.gc):=ad HXA.out 3
    go_wp2_with fail
    clear c0 c1 c2 c3 y0 y1 y2 y3;generalize wr.alloc (.cells #[.string x.h.pod.nm,.int .i64 x.h.pod.pr,.slice x.ca x.cn x.cc,.slice x.ga x.gn x.gc] 57)=X at *;refine (xo x nm Bn X ((HBA.out.block Bn (by omega)).trans HBN.out)).mono ?_;rintro e W2 ⟨rfl,hb2⟩;have HB2:=qI (HBA.out.trans (hb2.mono HBA.out.size));have HX2:=qI ((hb2.block wr.heap.size (by have:=HZA.out;omega)).trans HXA.out);have hs2:wr.heap.size<W2.heap.size:=by have:=hb2.size;have:=HZA.out;omega
    have HROW2:=qI (HROW.out.block (HB2.out.block g (by omega)));have HGR2:=qI (HGR.out.trans (dF HB2.out (some g)));clear hb2
    rcases two (decide (x.h.pod.nm=nm)) with hh|hh
    ·rw [hh] at HNX ⊢;have HNX2:Hid (kept (L.take (b+1)) nm=kept (L.take b) nm):=by unfold Hid;rw [HNX.out,if_pos rfl,List.append_nil]
     clear hh
     go_wp2
     go_roundw
     case rel=>
      refine ⟨a,b+1,rfl,by go_num,by omega,by omega,by rw [HNX2.out];exact HAE.out,HROW2.out.mono ?_,HGR2.out⟩;rintro k y (⟨h1,h2⟩|⟨h1,h2,h3⟩)
      ·rw [HNX2.out] at h2;exact .inl ⟨h1,h2⟩
      ·exact .inr ⟨by omega,h2,h3⟩
     case measure=>simp [intOf];omega
    ·rw [hh] at HNX ⊢;have HNX2:Hid (kept (L.take (b+1)) nm=kept (L.take b) nm++[x]):=by unfold Hid;rw [HNX.out];rfl
     have z0:W2.cell? ⟨wr.heap.size,0,none⟩=some (.string x.h.pod.nm):=ad HX2.out 0;have z1:W2.cell? ⟨wr.heap.size,1,none⟩=some (.int .i64 x.h.pod.pr):=ad HX2.out 1;have z2:W2.cell? ⟨wr.heap.size,2,none⟩=some (.slice x.ca x.cn x.cc):=ad HX2.out 2;have z3:W2.cell? ⟨wr.heap.size,3,none⟩=some (.slice x.ga x.gn x.gc):=ad HX2.out 3;have f0:=HROW2.out.frozen (a*4);have f1:=HROW2.out.frozen (a*4+1);have f2:=HROW2.out.frozen (a*4+2);have f3:=HROW2.out.frozen (a*4+3);obtain ⟨o0,p0⟩:=Option.isSome_iff_exists.1 (HROW2.out.there (j:=a*4) (by omega));obtain ⟨o1,p1⟩:=Option.isSome_iff_exists.1 (HROW2.out.there (j:=a*4+1) (by omega));obtain ⟨o2,p2⟩:=Option.isSome_iff_exists.1 (HROW2.out.there (j:=a*4+2) (by omega));obtain ⟨o3,p3⟩:=Option.isSome_iff_exists.1 (HROW2.out.there (j:=a*4+3) (by omega));have hal:a<L.length:=by omega
     have HROW3:=qI (HROW2.out.set (i:=a) (by omega) x);have HGR3:Hid (w.grownBy ((((W2.setCell ⟨g,a*4,none⟩ (.string x.h.pod.nm)).setCell ⟨g,a*4+1,none⟩ (.int .i64 x.h.pod.pr)).setCell ⟨g,a*4+2,none⟩ (.slice x.ca x.cn x.cc)).setCell ⟨g,a*4+3,none⟩ (.slice x.ga x.gn x.gc)) (some g)):=(((HGR2.out.trans (bL _ ⟨g,a*4,none⟩ _)).trans (bL _ ⟨g,a*4+1,none⟩ _)).trans (bL _ ⟨g,a*4+2,none⟩ _)).trans (bL _ ⟨g,a*4+3,none⟩ _);clear hh
     go_wp2
     go_roundw
     case rel=>
      refine ⟨a+1,b+1,by go_num,by go_num,by omega,by omega,by rw [HNX2.out,Q2,<- HAE.out];rfl,HROW3.out.mono ?_,HGR3.out⟩;rintro k y (⟨h1,h2⟩|⟨h1,h2,h3⟩)
      ·rw [HNX2.out] at h2
       by_cases hka:k=a
       ·refine .inl ⟨hka,?_⟩;rw [h2,hka,HAE.out,Kt]
       ·refine .inr ⟨hka,.inl ⟨by omega,?_⟩⟩;rw [h2,Ks (by rw [<- HAE.out];omega)]
      ·exact .inr ⟨by omega,.inr ⟨by omega,h2,h3⟩⟩
     case measure=>simp [intOf];omega
   ·have hbe:b=L.length:=by omega
    have HKL:Hid (kept (L.take b) nm=kept L nm):=by unfold Hid;rw [hbe,Qh]
    obtain ⟨vs,hcl⟩:=Kr wr 0 g (a*4) (L.length - a) (cap - a) (by omega) (λj hj=>HROW.out.there (by omega)) (λj=>HROW.out.frozen j);have hca:¬ cap=a:=by omega
    have hal:a<L.length:=by omega
    clear hbe
    go_wp2
    go_ret;have hKe:a=(kept L nm).length:=by rw [<- HKL.out];exact HAE.out
    refine ⟨by rw [<- hKe];rfl,bU.tail (i:=a) (λk x hx=>by rw [hKe];exact hx.1) vs (a*4) wr (lR) (HROW.out.mono ?_),HGR.out.trans (lO g vs (a*4) wr)⟩;rintro k x ⟨h1,h2⟩;rw [HKL.out,hKe];exact .inl ⟨h1,h2⟩
end
