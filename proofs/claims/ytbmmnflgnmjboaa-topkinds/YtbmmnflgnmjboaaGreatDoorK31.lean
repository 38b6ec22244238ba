import Derived.Test.YtbmmnflgnmjboaaGreatDoorK29
set_option maxRecDepth 100000
set_option maxHeartbeats 16000000
namespace Go.Proofs.YtbmmnflgnmjboaaGreatDoor
section
open RowKit Shelf
open Ost (Cpu af dif)
open Dvs (Dv dv aT)
attribute [local go_sem] Oper.semAt_some
theorem ni {fn:Func} {p q u:Tmp} {ty tz:TypeId} (h:fn.results=#[.cell p ty,.cell q tz,.tmp u]) (tmps:Array Value) (P:Program) (w:World) :
  (results fn tmps).run P w=((asAddr (tmps.getD p undef)).run P w).andThen λa w₁=>((loadVar ty a).run P w₁).andThen λv w₂=>((asAddr (tmps.getD q undef)).run P w₂).andThen λb w₃=>((loadVar tz b).run P w₃).andThen λx w₄=>.ok (.tuple #[v,x,tmps.getD u undef]) w₄:=by
 simp only [results,h]
 simp [Sem.run_bind,Result.andThen]
theorem wS (n a b:Int) (w:World):Calls Tryz.prog 65 #[.int .i64 n,.int .i64 a,.int .i64 b] w λe w'=>e=.returned (.bool (decide (a<=n/\n<=b)))/\w'=w:=by
 by_cases h1:a<=n
 ·have h1d:decide (a<=n)=true:=Qc h1;have HE:Hid (decide (a<=n/\n<=b)=decide (n<=b)):=by unfold Hid;by_cases h2:n<=b <;> simp [h1,h2]
  rw [HE.out];clear h1
  go_enter Tryz.func65,Tryz.ntmps65
  go_wp2
  go_ret;exact ⟨rfl,rfl⟩
 ·have h1d:decide (a<=n)=false:=Q7 h1;have HE:Hid (decide (a<=n/\n<=b)=false):=Q7 λh=>h1 h.1
  rw [HE.out];clear h1
  go_enter Tryz.func65,Tryz.ntmps65
  go_wp2
  go_ret;exact ⟨rfl,rfl⟩
theorem JZ (l:List Cpu):∀ k,eC l k=Ol.dz l k:=by
 intro k
 induction k with
 | zero=>rfl
 | succ k ih=>rw [eC,Ol.dz,ih]
theorem qk {l:List Cpu} (h:Ost.fault l=0):0<l.length:=by
 apply Qt;intro h0
 have:l=[]:=List.length_eq_zero_iff.1 (by omega)
 subst this;exact absurd h (by decide)
theorem J0 {W:World} {tb tg tc B:Nat} {l:List Cpu} (h:aZ W tb tg 0 tc l) (h0:0<l.length) (h1:W.heap[B+1]?=some (.cells #[.pointer none,.int .u64 0,.int .u8 0,.int .i64 0,.int .i64 0] 95)) (h2:W.heap[B+2]?=some (.cells #[.int .u64 0,.pointer none] 98)):(tb≠B+1/\tb≠B+2)/\(tg≠B+1/\tg≠B+2):=by
 have a1:W.cell? ⟨B+1,0,none⟩=some (.pointer none):=ad h1 0;have a2:W.cell? ⟨B+2,0,none⟩=some (.int .u64 0):=ad h2 0;have c1:=h.cell;have c2:=(h.cells 0 h0).1;refine ⟨⟨λe=>?_,λe=>?_⟩,λe=>?_,λe=>?_⟩
 ·rw [e,a1] at c1;cases c1
 ·rw [e,a2] at c1;cases c1
 ·rw [e] at c2;have c2:W.cell? ⟨B+1,0,none⟩=_:=c2;rw [a1] at c2;cases c2
 ·rw [e] at c2;have c2:W.cell? ⟨B+2,0,none⟩=_:=c2;rw [a2] at c2;cases c2
theorem iB {W W':World} {tb b o c:Nat} {l:List Cpu} (h:aZ W tb b o c l) (h1:W'.heap[tb]?=W.heap[tb]?) (h2:W'.heap[b]?=W.heap[b]?) (hs:W.heap.size<=W'.heap.size):aZ W' tb b o c l:=
 ⟨(World.cell?_of_block (a:=⟨tb,0,none⟩) h1).trans h.cell,λk hk=>⟨(World.cell?_of_block (a:=⟨b,o+k*3,none⟩) h2).trans (h.cells k hk).1,(World.cell?_of_block (a:=⟨b,o+k*3+1,none⟩) h2).trans (h.cells k hk).2.1,(World.cell?_of_block (a:=⟨b,o+k*3+2,none⟩) h2).trans (h.cells k hk).2.2⟩,Q1 h.lt hs,h.len⟩
theorem kk {W W':World} {pb db:Nat} {ao:Option Addr} {c:Nat} {ds:List Dv} {us:Nat->Bool} (h:ap W pb db ao c ds us) (h1:W'.heap[pb]?=W.heap[pb]?) (h2:0<ds.length->W'.heap[db]?=W.heap[db]?) (hs:W.heap.size<=W'.heap.size):ap W' pb db ao c ds us:=by
 have cc:∀ j,W'.cell? ⟨pb,j,none⟩=W.cell? ⟨pb,j,none⟩:=λj=>World.cell?_of_block (a:=⟨pb,j,none⟩) h1
 have ff:∀ j,W'.frozen? ⟨pb,j,none⟩=W.frozen? ⟨pb,j,none⟩:=λj=>by simp [World.frozen?,h1]
 refine ⟨by rw [cc];exact h.row,λh0=>⟨(h.at0 h0).1,(h.at0 h0).2.1,Q1 (h.at0 h0).2.2 hs⟩,λk hk=>?_,λj hj=>⟨by rw [cc];exact (h.used j hj).1,by rw [ff];exact (h.used j hj).2⟩⟩;have h3:=h2 (by omega);have dd:∀ j,W'.cell? ⟨db,j,none⟩=W.cell? ⟨db,j,none⟩:=λj=>World.cell?_of_block (a:=⟨db,j,none⟩) h3
 have fd:∀ j,W'.frozen? ⟨db,j,none⟩=W.frozen? ⟨db,j,none⟩:=λj=>by simp [World.frozen?,h3]
 rw [dd,dd,dd,fd];exact h.cells k hk
structure J1 (w w':World) (c:Ol.Cf) (e:Ending):Prop where
 bad:Ol.b6 c≠0->e=.returned (.tuple #[.agg #[.pointer none,.int .u64 0,.int .u8 0,.int .i64 0,.int .i64 0],.agg #[.int .u64 0,.pointer none],ak (Ol.b6 c)])
 good:Ol.b6 c=0->∃ tb b cc pb db ao pc,e=.returned (.tuple #[mV (Ol.cM c) tb,sV ⟨(Ol.cM c).op,c.ds,λ_=>false⟩ pb,.nilIface])/\cI w' tb b 0 cc (Ol.cM c)/\de w' pb db ao pc ⟨(Ol.cM c).op,c.ds,λ_=>false⟩/\w.heap.size<=pb/\(0<c.ds.length->w.heap.size<=db)
 below:Below w.heap.size w w'
abbrev wT:=λ(B:Nat) (c:Ol.Cf) (w':World)=>w'.cell? ⟨B,1,none⟩=some (.int .u64 (c.keep:Nat))/\w'.cell? ⟨B,2,none⟩=some (.int .i64 c.nb)/\w'.cell? ⟨B,4,none⟩=some (.int .i64 c.pol)
theorem J2 (c:Ol.Cf) (v1 v2:Value) (g o:Nat) (w:World) (h1:eN w v1 c.l) (h2:bS w v2 g o c.ds) (hk:c.keep<18446744073709551616) :
  Calls Tryz.prog 33 #[.agg #[v1,.int .u64 (c.keep:Nat),.int .i64 c.nb,v2,.int .i64 c.pol]] w λe w'=>J1 w w' c e:=by
 obtain ⟨ca,cc,hv1⟩:∃ ca cc,v1=.slice ca c.l.length cc:=by
  rcases id h1 with ⟨hl,ao,q,rfl⟩|⟨b,o,q,rfl,_⟩
  ·exact ⟨ao,q,by rw [hl];rfl⟩
  ·exact ⟨_,q,rfl⟩
 subst hv1;obtain ⟨da,dc,hv2,_⟩:=id h2;subst hv2;have HBU:=qI ((((Q0 w.heap.size w).alloc (lR) (.cells #[.slice ca c.l.length cc,.int .u64 (c.keep:Nat),.int .i64 c.nb,.slice da c.ds.length dc,.int .i64 c.pol] 27)).alloc (by simp) (.cells #[.pointer none,.int .u64 0,.int .u8 0,.int .i64 0,.int .i64 0] 95)).alloc (by simp;omega) (.cells #[.int .u64 0,.pointer none] 98));have sz:(((w.alloc (.cells #[.slice ca c.l.length cc,.int .u64 (c.keep:Nat),.int .i64 c.nb,.slice da c.ds.length dc,.int .i64 c.pol] 27)).alloc (.cells #[.pointer none,.int .u64 0,.int .u8 0,.int .i64 0,.int .i64 0] 95)).alloc (.cells #[.int .u64 0,.pointer none] 98)).heap.size=w.heap.size+3:=by simp
 have HU0:=qI (bx (bx (aG w (.cells #[.slice ca c.l.length cc,.int .u64 (c.keep:Nat),.int .i64 c.nb,.slice da c.ds.length dc,.int .i64 c.pol] 27) rfl) (.cells #[.pointer none,.int .u64 0,.int .u8 0,.int .i64 0,.int .i64 0] 95)) (.cells #[.int .u64 0,.pointer none] 98));have HU1:=qI (bx (aG (w.alloc (.cells #[.slice ca c.l.length cc,.int .u64 (c.keep:Nat),.int .i64 c.nb,.slice da c.ds.length dc,.int .i64 c.pol] 27)) (.cells #[.pointer none,.int .u64 0,.int .u8 0,.int .i64 0,.int .i64 0] 95) (n:=w.heap.size+1) (by simp)) (.cells #[.int .u64 0,.pointer none] 98));have HU2:=qI (aG ((w.alloc (.cells #[.slice ca c.l.length cc,.int .u64 (c.keep:Nat),.int .i64 c.nb,.slice da c.ds.length dc,.int .i64 c.pol] 27)).alloc (.cells #[.pointer none,.int .u64 0,.int .u8 0,.int .i64 0,.int .i64 0] 95)) (.cells #[.int .u64 0,.pointer none] 98) (n:=w.heap.size+2) (by simp));have HNEW:=qI (zp ca cc c.l (((w.alloc (.cells #[.slice ca c.l.length cc,.int .u64 (c.keep:Nat),.int .i64 c.nb,.slice da c.ds.length dc,.int .i64 c.pol] 27)).alloc (.cells #[.pointer none,.int .u64 0,.int .u8 0,.int .i64 0,.int .i64 0] 95)).alloc (.cells #[.int .u64 0,.pointer none] 98)) (h1.below HBU.out));have HD:=qI h2;have u0:(((w.alloc (.cells #[.slice ca c.l.length cc,.int .u64 (c.keep:Nat),.int .i64 c.nb,.slice da c.ds.length dc,.int .i64 c.pol] 27)).alloc (.cells #[.pointer none,.int .u64 0,.int .u8 0,.int .i64 0,.int .i64 0] 95)).alloc (.cells #[.int .u64 0,.pointer none] 98)).cell? ⟨w.heap.size,0,none⟩=some (.slice ca c.l.length cc):=ad HU0.out 0;clear h1 h2
 go_enter Tryz.func33,Tryz.ntmps33
 go_wp2_with fail
 generalize (((w.alloc (.cells #[.slice ca c.l.length cc,.int .u64 (c.keep:Nat),.int .i64 c.nb,.slice da c.ds.length dc,.int .i64 c.pol] 27)).alloc (.cells #[.pointer none,.int .u64 0,.int .u8 0,.int .i64 0,.int .i64 0] 95)).alloc (.cells #[.int .u64 0,.pointer none] 98))=U at *;generalize hB:w.heap.size=B at *;refine HNEW.out.mono ?_;rintro e W1 ⟨hyes,hno,hb1⟩;have HB1:=qI (show Below w.heap.size w W1 by rw [hB];exact HBU.out.trans (hb1.mono (by omega)));have hs1:=hb1.size;have HC1:=qI ((hb1.block B (by omega)).trans HU0.out);have HM1:=qI ((hb1.block (B+1) (by omega)).trans HU1.out);have HS1:=qI ((hb1.block (B+2) (by omega)).trans HU2.out);clear hb1 u0 HNEW
 by_cases hf:Ost.fault c.l=0
 ·obtain ⟨tb,tg,tc,rfl,htop⟩:=hyes hf;have HTOP:=qI htop;have HGOOD:=qI (zr hf);have HLEN:=qI htop.len;clear hyes hno htop;obtain ⟨bad,hbad⟩:∃ x:Bool,x=(!decide (c.keep &&& af aD c.l=c.keep) || (!decide (0<=c.nb/\c.nb<=1125899906842624) || !decide (0<=c.pol/\c.pol<=3))):=⟨_,rfl⟩;have HBAD:=qI hbad;clear hbad;have hchl:af aD c.l<18446744073709551616:=Ost.e5 aD c.l c.l.length HLEN.out;have HIN:=qI (λ(W:World)=>jq c.keep (af aD c.l) W hk hchl);have HW1:=qI (λ(W:World)=>wS c.nb 0 1125899906842624 W);have HW2:=qI (λ(W:World)=>wS c.pol 0 3 W)
  go_upto_region 4 with fail
  have HSB:Hid (∀ W,Below W1.heap.size W1 W->(wT B c) W):=λW hb=>⟨ad ((hb.block B (by omega)).trans HC1.out) 1,ad ((hb.block B (by omega)).trans HC1.out) 2,ad ((hb.block B (by omega)).trans HC1.out) 4⟩
  go_cut [39] (λb39 wc=>b39=.bool bad/\Below W1.heap.size W1 wc)
  case first=>
   have HBd:Hid (Below W1.heap.size W1 W1.drew):=bf (Q0 _ _)
   by_cases q1:c.keep &&& af aD c.l=c.keep
   ·have d1:decide (c.keep &&& af aD c.l=c.keep)=true:=Qc q1;simp only [d1] at HIN
    by_cases q2:0<=c.nb/\c.nb<=1125899906842624
    ·have d2:decide (0<=c.nb/\c.nb<=1125899906842624)=true:=Qc q2;simp only [d2] at HW1
     by_cases q3:0<=c.pol/\c.pol<=3
     ·have d3:decide (0<=c.pol/\c.pol<=3)=true:=Qc q3;simp only [d3] at HW2;have HBV:Hid (bad=false):=by unfold Hid;rw [HBAD.out,d1,d2,d3];rfl
      clear q1 q2 q3 d1 d2 d3;refine Qo (by kernel_rfl) (HSB.out _ HBd.out) (λhHeld=>?_);generalize W1.drew=V at *;refine tk 0 ?_;refine tk 1 ?_;refine tk 2 ?_;refine rd 3 (λK hK=>?_);go_simp
      go_wp2_with fail
      refine (gE tb tg 0 tc c.l V (HTOP.out.below HBd.out)).mono ?_;rintro e W2 ⟨rfl,hb2⟩;have HB2:=qI (HBd.out.trans (hb2.mono HBd.out.size));clear hb2
      go_wp2
      refine hK.out _ _ (HSB.out _ HB2.out) (λhHeld=>?_);clear hK K;refine rd 4 (λK hK=>?_);go_simp
      go_wp2_with fail
      refine (HIN.out _).mono ?_;rintro e wz ⟨rfl,rfl⟩
      go_wp2
      refine hK.out _ _ (HSB.out _ HB2.out) (λhHeld=>?_);clear hK K;refine tk 5 ?_;refine tk 6 ?_;refine tk 7 ?_;refine tk 8 ?_;refine rd 9 (λK hK=>?_);go_simp
      go_wp2_with fail
      refine (HW1.out _).mono ?_;rintro e wz ⟨rfl,rfl⟩
      go_wp2
      refine hK.out _ _ (HSB.out _ HB2.out) (λhHeld=>?_);clear hK K;refine tk 10 ?_;refine tk 11 ?_;refine tk 12 ?_;refine tk 13 ?_;refine tk 14 ?_;refine rd 15 (λK hK=>?_);go_simp
      go_wp2_with fail
      refine (HW2.out _).mono ?_;rintro e wz ⟨rfl,rfl⟩
      go_wp2
      refine hK.out _ _ (HSB.out _ HB2.out) (λhHeld=>?_);clear hK K;refine tk 16 ?_;refine tk 17 ?_;refine Qn (by kernel_rfl) ?_ _;clear hHeld
      go_wp2
      go_meet
      exact ⟨by rw [HBV.out],HB2.out⟩
     ·have d3:decide (0<=c.pol/\c.pol<=3)=false:=Q7 q3;simp only [d3] at HW2;have HBV:Hid (bad=true):=by unfold Hid;rw [HBAD.out,d1,d2,d3];rfl
      clear q1 q2 q3 d1 d2 d3;refine Qo (by kernel_rfl) (HSB.out _ HBd.out) (λhHeld=>?_);generalize W1.drew=V at *;refine tk 0 ?_;refine tk 1 ?_;refine tk 2 ?_;refine rd 3 (λK hK=>?_);go_simp
      go_wp2_with fail
      refine (gE tb tg 0 tc c.l V (HTOP.out.below HBd.out)).mono ?_;rintro e W2 ⟨rfl,hb2⟩;have HB2:=qI (HBd.out.trans (hb2.mono HBd.out.size));clear hb2
      go_wp2
      refine hK.out _ _ (HSB.out _ HB2.out) (λhHeld=>?_);clear hK K;refine rd 4 (λK hK=>?_);go_simp
      go_wp2_with fail
      refine (HIN.out _).mono ?_;rintro e wz ⟨rfl,rfl⟩
      go_wp2
      refine hK.out _ _ (HSB.out _ HB2.out) (λhHeld=>?_);clear hK K;refine tk 5 ?_;refine tk 6 ?_;refine tk 7 ?_;refine tk 8 ?_;refine rd 9 (λK hK=>?_);go_simp
      go_wp2_with fail
      refine (HW1.out _).mono ?_;rintro e wz ⟨rfl,rfl⟩
      go_wp2
      refine hK.out _ _ (HSB.out _ HB2.out) (λhHeld=>?_);clear hK K;refine tk 10 ?_;refine tk 11 ?_;refine tk 12 ?_;refine tk 13 ?_;refine tk 14 ?_;refine rd 15 (λK hK=>?_);go_simp
      go_wp2_with fail
      refine (HW2.out _).mono ?_;rintro e wz ⟨rfl,rfl⟩
      go_wp2
      refine hK.out _ _ (HSB.out _ HB2.out) (λhHeld=>?_);clear hK K;refine tk 16 ?_;refine tk 17 ?_;refine Qn (by kernel_rfl) ?_ _;clear hHeld
      go_wp2
      go_meet
      exact ⟨by rw [HBV.out],HB2.out⟩
    ·have d2:decide (0<=c.nb/\c.nb<=1125899906842624)=false:=Q7 q2;simp only [d2] at HW1;have HBV:Hid (bad=true):=by unfold Hid;rw [HBAD.out,d1,d2];rfl
     clear q1 q2 d1 d2;refine Qo (by kernel_rfl) (HSB.out _ HBd.out) (λhHeld=>?_);generalize W1.drew=V at *;refine tk 0 ?_;refine tk 1 ?_;refine tk 2 ?_;refine rd 3 (λK hK=>?_);go_simp
     go_wp2_with fail
     refine (gE tb tg 0 tc c.l V (HTOP.out.below HBd.out)).mono ?_;rintro e W2 ⟨rfl,hb2⟩;have HB2:=qI (HBd.out.trans (hb2.mono HBd.out.size));clear hb2
     go_wp2
     refine hK.out _ _ (HSB.out _ HB2.out) (λhHeld=>?_);clear hK K;refine rd 4 (λK hK=>?_);go_simp
     go_wp2_with fail
     refine (HIN.out _).mono ?_;rintro e wz ⟨rfl,rfl⟩
     go_wp2
     refine hK.out _ _ (HSB.out _ HB2.out) (λhHeld=>?_);clear hK K;refine tk 5 ?_;refine tk 6 ?_;refine tk 7 ?_;refine tk 8 ?_;refine rd 9 (λK hK=>?_);go_simp
     go_wp2_with fail
     refine (HW1.out _).mono ?_;rintro e wz ⟨rfl,rfl⟩
     go_wp2
     refine hK.out _ _ (HSB.out _ HB2.out) (λhHeld=>?_);clear hK K;refine tk 10 ?_;refine tk 11 ?_;refine tk 12 ?_;refine ts 13 ?_;refine ts 14 ?_;refine ts 15 ?_;refine ts 16 ?_;refine tk 17 ?_;refine Qn (by kernel_rfl) ?_ _;clear hHeld
     go_wp2
     go_meet
     exact ⟨by rw [HBV.out],HB2.out⟩
   ·have d1:decide (c.keep &&& af aD c.l=c.keep)=false:=Q7 q1;simp only [d1] at HIN;have HBV:Hid (bad=true):=by unfold Hid;rw [HBAD.out,d1];rfl
    clear q1 d1;refine Qo (by kernel_rfl) (HSB.out _ HBd.out) (λhHeld=>?_);generalize W1.drew=V at *;refine tk 0 ?_;refine tk 1 ?_;refine tk 2 ?_;refine rd 3 (λK hK=>?_);go_simp
    go_wp2_with fail
    refine (gE tb tg 0 tc c.l V (HTOP.out.below HBd.out)).mono ?_;rintro e W2 ⟨rfl,hb2⟩;have HB2:=qI (HBd.out.trans (hb2.mono HBd.out.size));clear hb2
    go_wp2
    refine hK.out _ _ (HSB.out _ HB2.out) (λhHeld=>?_);clear hK K;refine rd 4 (λK hK=>?_);go_simp
    go_wp2_with fail
    refine (HIN.out _).mono ?_;rintro e wz ⟨rfl,rfl⟩
    go_wp2
    refine hK.out _ _ (HSB.out _ HB2.out) (λhHeld=>?_);clear hK K;refine tk 5 ?_;refine tk 6 ?_;refine ts 7 ?_;refine ts 8 ?_;refine ts 9 ?_;refine ts 10 ?_;refine tk 11 ?_;refine tk 12 ?_;refine ts 13 ?_;refine ts 14 ?_;refine ts 15 ?_;refine ts 16 ?_;refine tk 17 ?_;refine Qn (by kernel_rfl) ?_ _;clear hHeld
    go_wp2
    go_meet
    exact ⟨by rw [HBV.out],HB2.out⟩
  case rest=>
   obtain ⟨rfl,hbc⟩:=hcut;have HBC:=qI (HB1.out.trans (hbc.mono (by omega)));have hsc:=hbc.size;have HCC:=qI ((hbc.block B (by omega)).trans HC1.out);have HMC:=qI ((hbc.block (B+1) (by omega)).trans HM1.out);have HSC:=qI ((hbc.block (B+2) (by omega)).trans HS1.out);have HTC:=qI (HTOP.out.below hbc);have HF0:=qI hf;clear hbc hf HIN HW1 HW2 HSB HTOP
   rcases two bad with hbd|hbd
   ·have HCF:Hid (Ol.b6 c=1):=by
     unfold Hid Ol.b6;rw [if_neg (λh=>h HF0.out),if_pos];rw [hbd] at HBAD;have hb:=HBAD.out
     by_cases q1:c.keep &&& af aD c.l=c.keep
     ·by_cases q2:0<=c.nb/\c.nb<=1125899906842624
      ·by_cases q3:0<=c.pol/\c.pol<=3
       ·rw [Qc q1,Qc q2,Qc q3] at hb;cases hb
       ·exact .inr (.inr q3)
      ·exact .inr (.inl q2)
     ·exact .inl q1
    subst hbd;have a0_2:wc.cell? ⟨B+1,0,none⟩=some (.pointer none):=ad HMC.out 0;have fa0_2:=aq HMC.out 0;have a1_2:wc.cell? ⟨B+1,1,none⟩=some (.int .u64 0):=ad HMC.out 1;have fa1_2:=aq HMC.out 1;have a2_2:wc.cell? ⟨B+1,2,none⟩=some (.int .u8 0):=ad HMC.out 2;have fa2_2:=aq HMC.out 2;have a3_2:wc.cell? ⟨B+1,3,none⟩=some (.int .i64 0):=ad HMC.out 3;have fa3_2:=aq HMC.out 3;have a4_2:wc.cell? ⟨B+1,4,none⟩=some (.int .i64 0):=ad HMC.out 4;have fa4_2:=aq HMC.out 4;have b0_2:wc.cell? ⟨B+2,0,none⟩=some (.int .u64 0):=ad HSC.out 0;have fb0_2:=aq HSC.out 0;have b1_2:wc.cell? ⟨B+2,1,none⟩=some (.pointer none):=ad HSC.out 1;have fb1_2:=aq HSC.out 1;have HZM2:Hid ((((((((wc.setCell ⟨B+1,0,none⟩ (.pointer none)).setCell ⟨B+1,1,none⟩ (.int .u64 0)).setCell ⟨B+1,2,none⟩ (.int .u8 0)).setCell ⟨B+1,3,none⟩ (.int .i64 0)).setCell ⟨B+1,4,none⟩ (.int .i64 0)).setCell ⟨B+2,0,none⟩ (.int .u64 0)).setCell ⟨B+2,1,none⟩ (.pointer none)).heap[B+1]?=_):=(set_other (by omega)).trans ((set_other (by omega)).trans (aj (aj (aj (aj (aj HMC.out 0 (.pointer none)) 1 (.int .u64 0)) 2 (.int .u8 0)) 3 (.int .i64 0)) 4 (.int .i64 0)));have hsk2:(((((wc.setCell ⟨B+1,0,none⟩ (.pointer none)).setCell ⟨B+1,1,none⟩ (.int .u64 0)).setCell ⟨B+1,2,none⟩ (.int .u8 0)).setCell ⟨B+1,3,none⟩ (.int .i64 0)).setCell ⟨B+1,4,none⟩ (.int .i64 0)).heap[B+2]?=wc.heap[B+2]?:=(set_other (by omega)).trans ((set_other (by omega)).trans ((set_other (by omega)).trans ((set_other (by omega)).trans (set_other (by omega)))));have HZS2:=qI (aj (aj (hsk2.trans HSC.out) 0 (.int .u64 0)) 1 (.pointer none));have HBZ2:=qI (((((((HBC.out.setCell (p:=⟨B+1,0,none⟩) (by show w.heap.size<=B+1;omega) (.pointer none)).setCell (p:=⟨B+1,1,none⟩) (by show w.heap.size<=B+1;omega) (.int .u64 0)).setCell (p:=⟨B+1,2,none⟩) (by show w.heap.size<=B+1;omega) (.int .u8 0)).setCell (p:=⟨B+1,3,none⟩) (by show w.heap.size<=B+1;omega) (.int .i64 0)).setCell (p:=⟨B+1,4,none⟩) (by show w.heap.size<=B+1;omega) (.int .i64 0)).setCell (p:=⟨B+2,0,none⟩) (by show w.heap.size<=B+2;omega) (.int .u64 0)).setCell (p:=⟨B+2,1,none⟩) (by show w.heap.size<=B+2;omega) (.pointer none))
    go_wp2_with fail
    generalize (((((((wc.setCell ⟨B+1,0,none⟩ (.pointer none)).setCell ⟨B+1,1,none⟩ (.int .u64 0)).setCell ⟨B+1,2,none⟩ (.int .u8 0)).setCell ⟨B+1,3,none⟩ (.int .i64 0)).setCell ⟨B+1,4,none⟩ (.int .i64 0)).setCell ⟨B+2,0,none⟩ (.int .u64 0)).setCell ⟨B+2,1,none⟩ (.pointer none))=WZ at *;(try simp only [Exit.inBlock,Exit.then]);refine bodyPost_ret (v:=.tuple #[.agg #[.pointer none,.int .u64 0,.int .u8 0,.int .i64 0,.int .i64 0],.agg #[.int .u64 0,.pointer none],.iface 121 (.int .i64 1)]) ?_ rfl ⟨(λ_=>by rw [HCF.out];rfl),(λh=>by rw [HCF.out] at h;cases h),HBZ2.out⟩;have r0:WZ.cell? ⟨B+1,0,none⟩=some (.pointer none):=ad HZM2.out 0;have r1:WZ.cell? ⟨B+1,1,none⟩=some (.int .u64 0):=ad HZM2.out 1;have r2:WZ.cell? ⟨B+1,2,none⟩=some (.int .u8 0):=ad HZM2.out 2;have r3:WZ.cell? ⟨B+1,3,none⟩=some (.int .i64 0):=ad HZM2.out 3;have r4:WZ.cell? ⟨B+1,4,none⟩=some (.int .i64 0):=ad HZM2.out 4;have s0:WZ.cell? ⟨B+2,0,none⟩=some (.int .u64 0):=ad HZS2.out 0;have s1:WZ.cell? ⟨B+2,1,none⟩=some (.pointer none):=ad HZS2.out 1;rw [ni rfl];clear a0_2 fa0_2 a1_2 fa1_2 a2_2 fa2_2 a3_2 fa3_2 a4_2 fa4_2 b0_2 fb0_2 b1_2 fb1_2;go_simp
   ·have HOKC:Hid ((c.keep &&& af aD c.l=c.keep)/\(0<=c.nb/\c.nb<=1125899906842624)/\(0<=c.pol/\c.pol<=3)):=by
     unfold Hid;rw [hbd] at HBAD;have hb:=HBAD.out
     by_cases q1:c.keep &&& af aD c.l=c.keep
     ·by_cases q2:0<=c.nb/\c.nb<=1125899906842624
      ·by_cases q3:0<=c.pol/\c.pol<=3
       ·exact ⟨q1,q2,q3⟩
       ·rw [Qc q1,Qc q2,Q7 q3] at hb;cases hb
      ·rw [Qc q1,Q7 q2] at hb;cases hb
     ·rw [Q7 q1] at hb;cases hb
    have HCF:Hid (Ol.b6 c=((Dvs.fault c.ds:Nat):Int)):=by
     unfold Hid Ol.b6;rw [if_neg (λh=>h HF0.out),if_neg (λh=>by rcases h with h|h|h;exact h HOKC.out.1;exact h HOKC.out.2.1;exact h HOKC.out.2.2)]
    subst hbd;have e3:wc.cell? ⟨B,3,none⟩=some (.slice da c.ds.length dc):=ad HCC.out 3;have HNW:=qI (rY (.slice da c.ds.length dc) g o c.ds wc (HD.out.le (aB.of_below HBC.out)))
    go_wp2_with fail
    refine HNW.out.mono ?_;rintro e W3 ⟨hyes,hno,hb3⟩;have HB3:=qI (HBC.out.trans (hb3.mono (by omega)));have hs3:=hb3.size;have HC3:=qI ((hb3.block B (by omega)).trans HCC.out);have HM3:=qI ((hb3.block (B+1) (by omega)).trans HMC.out);have HS3:=qI ((hb3.block (B+2) (by omega)).trans HSC.out);have HT3:=qI (HTC.out.below hb3);clear hb3 e3 HNW
    by_cases hfd:Dvs.fault c.ds=0
    ·obtain ⟨pp,rfl,pb,db,pao,pc,rfl,hpool,hpbl,hdbl⟩:=hyes hfd;rw [hfd] at HCF;have HPOOL:=qI hpool;have HND:=qI (Dvs.gH hfd);have HPB:Hid (w.heap.size<=pb/\(0<c.ds.length->w.heap.size<=db)):=⟨by omega,λh0=>by have:=hdbl h0;omega⟩;have hpl:=hpool.lt;have hpb3:B+3<=pb:=by omega
     have HDB3:Hid (0<c.ds.length->B+3<=db):=λh0=>by have:=hdbl h0;omega
     have HDBL:Hid (0<c.ds.length->db<W3.heap.size):=λh0=>(hpool.at0 h0).2.2
     clear hyes hno hpool hpbl hdbl hfd;dsimp only;rw [show ak (((0:Nat)):Int)=.nilIface from rfl]
     go_upto_region 9 with fail
     have hAN:=jp (af aD c.l) c.keep hchl hk;have HSN:Hid (∀ W,Below W3.heap.size W3 W->(wT B c) W):=λW hb=>⟨ad ((hb.block B (by omega)).trans HC3.out) 1,ad ((hb.block B (by omega)).trans HC3.out) 2,ad ((hb.block B (by omega)).trans HC3.out) 4⟩
     go_cut [8] (λp8 wc=>∃ Bm,p8=.pointer (some ⟨Bm,0,none⟩)/\wc.heap[Bm]?=some (.cells #[.pointer (some ⟨tb,0,none⟩),.int .u64 (dif (af aD c.l) c.keep:Nat),.int .u8 (eC c.l c.l.length:Nat),.int .i64 c.nb,.int .i64 c.pol] 95 (0,0))/\W3.heap.size<=Bm/\Below W3.heap.size W3 wc)
     case first=>
      have HBd:Hid (Below W3.heap.size W3 W3.drew):=bf (Q0 _ _);refine Qo (by kernel_rfl) (HSN.out _ HBd.out) (λhHeld=>?_);generalize W3.drew=V at *;refine tk 0 ?_;refine tk 1 ?_;refine tk 3 ?_;refine tk 4 ?_;refine tk 6 ?_;refine tk 8 ?_;refine tk 9 ?_;refine tk 10 ?_;refine tk 11 ?_;refine wpAnyH_ready (rs:=[2,13]) (by kernel_rfl) (by simp) (AllReadyH.cons rfl (λK hK=>?_) (AllReadyH.cons rfl (λK hK=>?_) AllReadyH.nil))
      ·go_simp
       go_wp2_with fail
       refine (gE tb tg 0 tc c.l V (HT3.out.below HBd.out)).mono ?_;rintro e W1 ⟨rfl,hb1⟩;have HB1:=qI (HBd.out.trans (hb1.mono HBd.out.size));clear hb1
       go_wp2
       refine hK.out _ _ (HSN.out _ HB1.out) (λhHeld=>?_);clear hK K;refine tk 5 ?_;refine wpAnyH_ready (rs:=[7,13]) (by kernel_rfl) (by simp) (AllReadyH.cons rfl (λK hK=>?_) (AllReadyH.cons rfl (λK hK=>?_) AllReadyH.nil))
       ·go_simp
        go_wp2_with fail
        refine (nR tb tg 0 tc c.l W1 (HT3.out.below HB1.out) HGOOD.out).mono ?_;rintro e W2 ⟨rfl,hb2⟩;have HB2:=qI (HB1.out.trans (hb2.mono HB1.out.size));clear hb2
        go_wp2
        refine hK.out _ _ (HSN.out _ HB2.out) (λhHeld=>?_);clear hK K;refine tk 12 ?_;refine rd 13 (λK hK=>?_);have HB3:=qI (HB2.out.alloc HB2.out.size (.cells #[.pointer none,.int .u64 0,.int .u8 0,.int .i64 0,.int .i64 0] 95));have HP3:=qI (aG W2 (.cells #[.pointer none,.int .u64 0,.int .u8 0,.int .i64 0,.int .i64 0] 95) rfl);have hlt3:W2.heap.size<(W2.alloc (.cells #[.pointer none,.int .u64 0,.int .u8 0,.int .i64 0,.int .i64 0] 95)).heap.size:=by simp
        have hge3:=HB2.out.size;go_simp
        go_wp2
        refine hK.out _ _ (HSN.out _ HB3.out) (λhHeld=>?_);clear hK K;generalize W2.alloc (.cells #[.pointer none,.int .u64 0,.int .u8 0,.int .i64 0,.int .i64 0] 95)=W3 at *;refine rd 14 (λK hK=>?_);have c0_4:W3.cell? ⟨W2.heap.size,0,none⟩=some (.pointer none):=ad HP3.out 0;have f0_4:=aq HP3.out 0;have c1_4:W3.cell? ⟨W2.heap.size,1,none⟩=some (.int .u64 0):=ad HP3.out 1;have f1_4:=aq HP3.out 1;have c2_4:W3.cell? ⟨W2.heap.size,2,none⟩=some (.int .u8 0):=ad HP3.out 2;have f2_4:=aq HP3.out 2;have c3_4:W3.cell? ⟨W2.heap.size,3,none⟩=some (.int .i64 0):=ad HP3.out 3;have f3_4:=aq HP3.out 3;have c4_4:W3.cell? ⟨W2.heap.size,4,none⟩=some (.int .i64 0):=ad HP3.out 4;have f4_4:=aq HP3.out 4;have HB4:=qI (((((HB3.out.setCell (p:=⟨W2.heap.size,0,none⟩) hge3 (.pointer (some ⟨tb,0,none⟩))).setCell (p:=⟨W2.heap.size,1,none⟩) hge3 (.int .u64 (dif (af aD c.l) c.keep:Nat))).setCell (p:=⟨W2.heap.size,2,none⟩) hge3 (.int .u8 (eC c.l c.l.length:Nat))).setCell (p:=⟨W2.heap.size,3,none⟩) hge3 (.int .i64 c.nb)).setCell (p:=⟨W2.heap.size,4,none⟩) hge3 (.int .i64 c.pol));have HP4:=qI (aj (aj (aj (aj (aj HP3.out 0 (.pointer (some ⟨tb,0,none⟩))) 1 (.int .u64 (dif (af aD c.l) c.keep:Nat))) 2 (.int .u8 (eC c.l c.l.length:Nat))) 3 (.int .i64 c.nb)) 4 (.int .i64 c.pol));go_simp
        go_wp2
        refine hK.out _ _ (HSN.out _ HB4.out) (λhHeld=>?_);clear hK K;refine Qn (by kernel_rfl) ?_ _
        go_wp2
        go_meet
        exact ⟨_,rfl,HP4.out,hge3,HB4.out⟩
       ·have HB5:=qI (HB1.out.alloc HB1.out.size (.cells #[.pointer none,.int .u64 0,.int .u8 0,.int .i64 0,.int .i64 0] 95));have HP5:=qI (aG W1 (.cells #[.pointer none,.int .u64 0,.int .u8 0,.int .i64 0,.int .i64 0] 95) rfl);have hlt5:W1.heap.size<(W1.alloc (.cells #[.pointer none,.int .u64 0,.int .u8 0,.int .i64 0,.int .i64 0] 95)).heap.size:=by simp
        have hge5:=HB1.out.size;go_simp
        go_wp2
        refine hK.out _ _ (HSN.out _ HB5.out) (λhHeld=>?_);clear hK K;generalize W1.alloc (.cells #[.pointer none,.int .u64 0,.int .u8 0,.int .i64 0,.int .i64 0] 95)=W5 at *;refine rd 7 (λK hK=>?_);go_simp
        go_wp2_with fail
        refine (nR tb tg 0 tc c.l W5 (HT3.out.below HB5.out) HGOOD.out).mono ?_;rintro e W6 ⟨rfl,hb6⟩;have HB6:=qI (HB5.out.trans (hb6.mono HB5.out.size));have HP6:=qI ((hb6.block _ hlt5).trans HP5.out);have hlt6:=Q1 hlt5 hb6.size;clear hb6
        go_wp2
        refine hK.out _ _ (HSN.out _ HB6.out) (λhHeld=>?_);clear hK K;refine tk 12 ?_;refine rd 14 (λK hK=>?_);have c0_7:W6.cell? ⟨W1.heap.size,0,none⟩=some (.pointer none):=ad HP6.out 0;have f0_7:=aq HP6.out 0;have c1_7:W6.cell? ⟨W1.heap.size,1,none⟩=some (.int .u64 0):=ad HP6.out 1;have f1_7:=aq HP6.out 1;have c2_7:W6.cell? ⟨W1.heap.size,2,none⟩=some (.int .u8 0):=ad HP6.out 2;have f2_7:=aq HP6.out 2;have c3_7:W6.cell? ⟨W1.heap.size,3,none⟩=some (.int .i64 0):=ad HP6.out 3;have f3_7:=aq HP6.out 3;have c4_7:W6.cell? ⟨W1.heap.size,4,none⟩=some (.int .i64 0):=ad HP6.out 4;have f4_7:=aq HP6.out 4;have HB7:=qI (((((HB6.out.setCell (p:=⟨W1.heap.size,0,none⟩) hge5 (.pointer (some ⟨tb,0,none⟩))).setCell (p:=⟨W1.heap.size,1,none⟩) hge5 (.int .u64 (dif (af aD c.l) c.keep:Nat))).setCell (p:=⟨W1.heap.size,2,none⟩) hge5 (.int .u8 (eC c.l c.l.length:Nat))).setCell (p:=⟨W1.heap.size,3,none⟩) hge5 (.int .i64 c.nb)).setCell (p:=⟨W1.heap.size,4,none⟩) hge5 (.int .i64 c.pol));have HP7:=qI (aj (aj (aj (aj (aj HP6.out 0 (.pointer (some ⟨tb,0,none⟩))) 1 (.int .u64 (dif (af aD c.l) c.keep:Nat))) 2 (.int .u8 (eC c.l c.l.length:Nat))) 3 (.int .i64 c.nb)) 4 (.int .i64 c.pol));go_simp
        go_wp2
        refine hK.out _ _ (HSN.out _ HB7.out) (λhHeld=>?_);clear hK K;refine Qn (by kernel_rfl) ?_ _
        go_wp2
        go_meet
        exact ⟨_,rfl,HP7.out,hge5,HB7.out⟩
      ·have HB8:=qI (HBd.out.alloc HBd.out.size (.cells #[.pointer none,.int .u64 0,.int .u8 0,.int .i64 0,.int .i64 0] 95));have HP8:=qI (aG V (.cells #[.pointer none,.int .u64 0,.int .u8 0,.int .i64 0,.int .i64 0] 95) rfl);have hlt8:V.heap.size<(V.alloc (.cells #[.pointer none,.int .u64 0,.int .u8 0,.int .i64 0,.int .i64 0] 95)).heap.size:=by simp
       have hge8:=HBd.out.size;go_simp
       go_wp2
       refine hK.out _ _ (HSN.out _ HB8.out) (λhHeld=>?_);clear hK K;generalize V.alloc (.cells #[.pointer none,.int .u64 0,.int .u8 0,.int .i64 0,.int .i64 0] 95)=W8 at *;refine rd 2 (λK hK=>?_);go_simp
       go_wp2_with fail
       refine (gE tb tg 0 tc c.l W8 (HT3.out.below HB8.out)).mono ?_;rintro e W9 ⟨rfl,hb9⟩;have HB9:=qI (HB8.out.trans (hb9.mono HB8.out.size));have HP9:=qI ((hb9.block _ hlt8).trans HP8.out);have hlt9:=Q1 hlt8 hb9.size;clear hb9
       go_wp2
       refine hK.out _ _ (HSN.out _ HB9.out) (λhHeld=>?_);clear hK K;refine tk 5 ?_;refine rd 7 (λK hK=>?_);go_simp
       go_wp2_with fail
       refine (nR tb tg 0 tc c.l W9 (HT3.out.below HB9.out) HGOOD.out).mono ?_;rintro e W10 ⟨rfl,hb10⟩;have HB10:=qI (HB9.out.trans (hb10.mono HB9.out.size));have HP10:=qI ((hb10.block _ hlt9).trans HP9.out);have hlt10:=Q1 hlt9 hb10.size;clear hb10
       go_wp2
       refine hK.out _ _ (HSN.out _ HB10.out) (λhHeld=>?_);clear hK K;refine tk 12 ?_;refine rd 14 (λK hK=>?_);have c0_11:W10.cell? ⟨V.heap.size,0,none⟩=some (.pointer none):=ad HP10.out 0;have f0_11:=aq HP10.out 0;have c1_11:W10.cell? ⟨V.heap.size,1,none⟩=some (.int .u64 0):=ad HP10.out 1;have f1_11:=aq HP10.out 1;have c2_11:W10.cell? ⟨V.heap.size,2,none⟩=some (.int .u8 0):=ad HP10.out 2;have f2_11:=aq HP10.out 2;have c3_11:W10.cell? ⟨V.heap.size,3,none⟩=some (.int .i64 0):=ad HP10.out 3;have f3_11:=aq HP10.out 3;have c4_11:W10.cell? ⟨V.heap.size,4,none⟩=some (.int .i64 0):=ad HP10.out 4;have f4_11:=aq HP10.out 4;have HB11:=qI (((((HB10.out.setCell (p:=⟨V.heap.size,0,none⟩) hge8 (.pointer (some ⟨tb,0,none⟩))).setCell (p:=⟨V.heap.size,1,none⟩) hge8 (.int .u64 (dif (af aD c.l) c.keep:Nat))).setCell (p:=⟨V.heap.size,2,none⟩) hge8 (.int .u8 (eC c.l c.l.length:Nat))).setCell (p:=⟨V.heap.size,3,none⟩) hge8 (.int .i64 c.nb)).setCell (p:=⟨V.heap.size,4,none⟩) hge8 (.int .i64 c.pol));have HP11:=qI (aj (aj (aj (aj (aj HP10.out 0 (.pointer (some ⟨tb,0,none⟩))) 1 (.int .u64 (dif (af aD c.l) c.keep:Nat))) 2 (.int .u8 (eC c.l c.l.length:Nat))) 3 (.int .i64 c.nb)) 4 (.int .i64 c.pol));go_simp
       go_wp2
       refine hK.out _ _ (HSN.out _ HB11.out) (λhHeld=>?_);clear hK K;refine Qn (by kernel_rfl) ?_ _
       go_wp2
       go_meet
       exact ⟨_,rfl,HP11.out,hge8,HB11.out⟩
     case rest=>
      obtain ⟨Bm,rfl,hbm,hbml,hb4⟩:=hcut;have HB4:=qI (HB3.out.trans (hb4.mono (by omega)));have hs4:=hb4.size;have HC4:=qI ((hb4.block B (by omega)).trans HC3.out);have HM4:=qI ((hb4.block (B+1) (by omega)).trans HM3.out);have HS4:=qI ((hb4.block (B+2) (by omega)).trans HS3.out);have HT4:=qI (HT3.out.below hb4);have HP4:=qI (HPOOL.out.below hb4);have hbm2:Bm<wc.heap.size:=(gS hbm).1;have HBM:=qI hbm;have HNCQ:=qI (JZ c.l c.l.length);have HNDL:=qI (Ol.Fd (a:=Ol.dz c.l c.l.length) (ds:=c.ds) (Ol.uB (λk hk=>HGOOD.out.at hk) c.l.length (lR)).1 ((Ol.uB (λk hk=>HGOOD.out.at hk) c.l.length (lR)).2 (qk HF0.out)) HND.out.2);rw [HNCQ.out] at HBM;have d3:wc.cell? ⟨B,3,none⟩=some (.slice da c.ds.length dc):=ad HC4.out 3;clear hbm hb4 hAN HSN
      go_wp2_with fail
      clear d3
      go_loopw [70] (λi wr=>∃ k:Nat,k<=c.ds.length/\i=.int .i64 k/\wr.heap[Bm]?=some (.cells #[.pointer (some ⟨tb,0,none⟩),.int .u64 (dif (af aD c.l) c.keep:Nat),.int .u8 (Ol.dN (Ol.dz c.l c.l.length) c.ds k:Nat),.int .i64 c.nb,.int .i64 c.pol] 95 (0,0))/\Apart (λj=>j=Bm) wc wr) (λi _=>c.ds.length - (intOf i).toNat)
      case atStart=>exact ⟨0,by omega,rfl,HBM.out,Apart.refl _ _⟩
      case round=>
       obtain ⟨k,hkk,rfl,hbm,hap⟩:=hrel;have HBMK:=qI hbm;have HAP:=qI hap;have hsr:=hap.size;have hd16:=HND.out.1;have HBR:Hid (Below w.heap.size w wr):=hap.below HB4.out (by omega) (λj hj=>by omega);clear hbm hap
       by_cases hlt:k<c.ds.length
       ·obtain ⟨_,_,hvd,hrd⟩:=id HD.out;injection hvd with hv1 hv2 hv3
        subst hv1 hv3;obtain ⟨rfl,hgl,hgc⟩:=hrd (by omega);obtain ⟨x0,x1,x2⟩:=hgc k hlt;have x0:=(aB.of_below HBR.out).cell _ _ _ x0;have x1:=(aB.of_below HBR.out).cell _ _ _ x1;have x2:=(aB.of_below HBR.out).cell _ _ _ x2;obtain ⟨hn0,hn3⟩:=HND.out.2 k hlt;have hk1:(k:Int)<(c.ds.length:Int):=by omega
        have HNX:Hid (Ol.dN (Ol.dz c.l c.l.length) c.ds (k+1)=Ol.dN (Ol.dz c.l c.l.length) c.ds k ||| 2 ^ (dv c.ds k).node.toNat):=rfl;have hnk:=(HNDL.out k (by omega)).1;clear hgc hrd hv2;generalize dv c.ds k=x at *;obtain ⟨nn,hnn⟩:=Int.eq_ofNat_of_zero_le hn0;rw [hnn] at x1 hn3;rw [hnn] at HNX;have HXA:=qI (aG wr (.cells #[.string x.kind,.int .i64 (nn:Nat),.bool x.sick] 87) rfl);have HBMA:=qI (bx HBMK.out (.cells #[.string x.kind,.int .i64 (nn:Nat),.bool x.sick] 87));have a1:(wr.alloc (.cells #[.string x.kind,.int .i64 (nn:Nat),.bool x.sick] 87)).cell? ⟨wr.heap.size,1,none⟩=some (.int .i64 (nn:Nat)):=ad HXA.out 1;have b2:(wr.alloc (.cells #[.string x.kind,.int .i64 (nn:Nat),.bool x.sick] 87)).cell? ⟨Bm,2,none⟩=some (.int .u8 (Ol.dN (Ol.dz c.l c.l.length) c.ds k:Nat)):=ad HBMA.out 2;have f2:=aq HBMA.out 2;have hor:=or8 (Ol.dN (Ol.dz c.l c.l.length) c.ds k) nn (by omega) (by omega);have HAPA:=qI (HAP.out.trans (Apart.alloc _ wr (.cells #[.string x.kind,.int .i64 (nn:Nat),.bool x.sick] 87)));clear hnn hn0
        go_wp2_with fail
        generalize wr.alloc (.cells #[.string x.kind,.int .i64 (nn:Nat),.bool x.sick] 87)=WX at *;have hor2:bits BinOp.or IntKind.u8 ((Ol.dN (Ol.dz c.l c.l.length) c.ds k:Nat):Int) (2 ^ nn % 256)=((Ol.dN (Ol.dz c.l c.l.length) c.ds k ||| 2 ^ nn:Nat):Int):=hor;clear hor
        go_region
        go_wp2_with fail
        have HB5:Hid ((WX.setCell ⟨Bm,2,none⟩ (.int .u8 (Ol.dN (Ol.dz c.l c.l.length) c.ds k ||| 2 ^ nn:Nat))).drew.heap[Bm]?=some (.cells #[.pointer (some ⟨tb,0,none⟩),.int .u64 (dif (af aD c.l) c.keep:Nat),.int .u8 (Ol.dN (Ol.dz c.l c.l.length) c.ds k ||| 2 ^ nn:Nat),.int .i64 c.nb,.int .i64 c.pol] 95 (0,0))):=aj HBMA.out 2 _;have HA5:Hid (Apart (λj=>j=Bm) wc (WX.setCell ⟨Bm,2,none⟩ (.int .u8 (Ol.dN (Ol.dz c.l c.l.length) c.ds k ||| 2 ^ nn:Nat))).drew):=(HAPA.out.trans (Apart.setCell (K:=λj=>j=Bm) rfl _ _ _)).trans (Apart.drew _ _)
        go_roundw
        case rel=>exact ⟨k+1,by omega,by go_num,by rw [HNX.out];exact HB5.out,HA5.out⟩
        case measure=>simp [intOf];omega
       ·have hke:k=c.ds.length:=by omega
        subst hke;obtain ⟨ndv,hndv⟩:∃ x,x=Ol.dN (Ol.dz c.l c.l.length) c.ds c.ds.length:=⟨_,rfl⟩;have HNV:=qI hndv;rw [<- hndv] at HBMK;clear hndv;have HM5:=qI ((HAP.out.block (B+1) (by omega) (by omega)).trans HM4.out);have HS5:=qI ((HAP.out.block (B+2) (by omega) (by omega)).trans HS4.out);have htl:=HT3.out.tlt;have htg:=HT3.out.lt;have HNE:Hid ((tb≠B+1/\tb≠B+2)/\(tg≠B+1/\tg≠B+2)):=J0 HT3.out (qk HF0.out) HM3.out HS3.out;have HT5:Hid (aZ wr tb tg 0 tc c.l):=iB HT4.out (HAP.out.block tb (by omega) (by omega)) (HAP.out.block tg (by omega) (by omega)) hsr;have HP5:Hid (ap wr pb db pao pc c.ds (λ_=>false)):=HP4.out.kept (g:=some Bm) ⟨HAP.out.os,HAP.out.tape,HAP.out.output,HAP.out.size,λj hj hn=>HAP.out.block j hj (λe=>hn (by rw [e]))⟩ (λe=>by injection e with e;omega) (λh0 e=>by injection e with e;have:=HDBL.out h0;omega);have m0:wr.cell? ⟨Bm,0,none⟩=some (.pointer (some ⟨tb,0,none⟩)):=ad HBMK.out 0;have m1:wr.cell? ⟨Bm,1,none⟩=some (.int .u64 (dif (af aD c.l) c.keep:Nat)):=ad HBMK.out 1;have m2:wr.cell? ⟨Bm,2,none⟩=some (.int .u8 (ndv:Nat)):=ad HBMK.out 2;have m3:wr.cell? ⟨Bm,3,none⟩=some (.int .i64 c.nb):=ad HBMK.out 3;have m4:wr.cell? ⟨Bm,4,none⟩=some (.int .i64 c.pol):=ad HBMK.out 4;have a0_5:wr.cell? ⟨B+1,0,none⟩=some (.pointer none):=ad HM5.out 0;have fa0_5:=aq HM5.out 0;have a1_5:wr.cell? ⟨B+1,1,none⟩=some (.int .u64 0):=ad HM5.out 1;have fa1_5:=aq HM5.out 1;have a2_5:wr.cell? ⟨B+1,2,none⟩=some (.int .u8 0):=ad HM5.out 2;have fa2_5:=aq HM5.out 2;have a3_5:wr.cell? ⟨B+1,3,none⟩=some (.int .i64 0):=ad HM5.out 3;have fa3_5:=aq HM5.out 3;have a4_5:wr.cell? ⟨B+1,4,none⟩=some (.int .i64 0):=ad HM5.out 4;have fa4_5:=aq HM5.out 4;have b0_5:wr.cell? ⟨B+1+1,0,none⟩=some (.int .u64 0):=ad HS5.out 0;have fb0_5:=aq HS5.out 0;have b1_5:wr.cell? ⟨B+1+1,1,none⟩=some (.pointer none):=ad HS5.out 1;have fb1_5:=aq HS5.out 1;have HZM5:Hid ((((((((wr.setCell ⟨B+1,0,none⟩ (.pointer (some ⟨tb,0,none⟩))).setCell ⟨B+1,1,none⟩ (.int .u64 (dif (af aD c.l) c.keep:Nat))).setCell ⟨B+1,2,none⟩ (.int .u8 (ndv:Nat))).setCell ⟨B+1,3,none⟩ (.int .i64 c.nb)).setCell ⟨B+1,4,none⟩ (.int .i64 c.pol)).setCell ⟨B+1+1,0,none⟩ (.int .u64 (dif (af aD c.l) c.keep:Nat))).setCell ⟨B+1+1,1,none⟩ (.pointer (some ⟨pb,0,none⟩))).heap[B+1]?=_):=(set_other (by omega)).trans ((set_other (by omega)).trans (aj (aj (aj (aj (aj HM5.out 0 (.pointer (some ⟨tb,0,none⟩))) 1 (.int .u64 (dif (af aD c.l) c.keep:Nat))) 2 (.int .u8 (ndv:Nat))) 3 (.int .i64 c.nb)) 4 (.int .i64 c.pol)));have hsk5:(((((wr.setCell ⟨B+1,0,none⟩ (.pointer (some ⟨tb,0,none⟩))).setCell ⟨B+1,1,none⟩ (.int .u64 (dif (af aD c.l) c.keep:Nat))).setCell ⟨B+1,2,none⟩ (.int .u8 (ndv:Nat))).setCell ⟨B+1,3,none⟩ (.int .i64 c.nb)).setCell ⟨B+1,4,none⟩ (.int .i64 c.pol)).heap[B+1+1]?=wr.heap[B+1+1]?:=(set_other (by omega)).trans ((set_other (by omega)).trans ((set_other (by omega)).trans ((set_other (by omega)).trans (set_other (by omega)))));have HZS5:=qI (aj (aj (hsk5.trans HS5.out) 0 (.int .u64 (dif (af aD c.l) c.keep:Nat))) 1 (.pointer (some ⟨pb,0,none⟩)));have HBZ5:=qI (((((((HBR.out.setCell (p:=⟨B+1,0,none⟩) (by show w.heap.size<=B+1;omega) (.pointer (some ⟨tb,0,none⟩))).setCell (p:=⟨B+1,1,none⟩) (by show w.heap.size<=B+1;omega) (.int .u64 (dif (af aD c.l) c.keep:Nat))).setCell (p:=⟨B+1,2,none⟩) (by show w.heap.size<=B+1;omega) (.int .u8 (ndv:Nat))).setCell (p:=⟨B+1,3,none⟩) (by show w.heap.size<=B+1;omega) (.int .i64 c.nb)).setCell (p:=⟨B+1,4,none⟩) (by show w.heap.size<=B+1;omega) (.int .i64 c.pol)).setCell (p:=⟨B+1+1,0,none⟩) (by show w.heap.size<=B+1+1;omega) (.int .u64 (dif (af aD c.l) c.keep:Nat))).setCell (p:=⟨B+1+1,1,none⟩) (by show w.heap.size<=B+1+1;omega) (.pointer (some ⟨pb,0,none⟩)));have HOTH:Hid (∀ j,j≠B+1->j≠B+1+1->(((((((wr.setCell ⟨B+1,0,none⟩ (.pointer (some ⟨tb,0,none⟩))).setCell ⟨B+1,1,none⟩ (.int .u64 (dif (af aD c.l) c.keep:Nat))).setCell ⟨B+1,2,none⟩ (.int .u8 (ndv:Nat))).setCell ⟨B+1,3,none⟩ (.int .i64 c.nb)).setCell ⟨B+1,4,none⟩ (.int .i64 c.pol)).setCell ⟨B+1+1,0,none⟩ (.int .u64 (dif (af aD c.l) c.keep:Nat))).setCell ⟨B+1+1,1,none⟩ (.pointer (some ⟨pb,0,none⟩))).heap[j]?=wr.heap[j]?):=λj h1 h2=>(set_other h2).trans ((set_other h2).trans ((set_other h1).trans ((set_other h1).trans ((set_other h1).trans ((set_other h1).trans (set_other h1))))))
        have hsZ:(((((((wr.setCell ⟨B+1,0,none⟩ (.pointer (some ⟨tb,0,none⟩))).setCell ⟨B+1,1,none⟩ (.int .u64 (dif (af aD c.l) c.keep:Nat))).setCell ⟨B+1,2,none⟩ (.int .u8 (ndv:Nat))).setCell ⟨B+1,3,none⟩ (.int .i64 c.nb)).setCell ⟨B+1,4,none⟩ (.int .i64 c.pol)).setCell ⟨B+1+1,0,none⟩ (.int .u64 (dif (af aD c.l) c.keep:Nat))).setCell ⟨B+1+1,1,none⟩ (.pointer (some ⟨pb,0,none⟩))).heap.size=wr.heap.size:=by simp
        generalize hZ:(((((((wr.setCell ⟨B+1,0,none⟩ (.pointer (some ⟨tb,0,none⟩))).setCell ⟨B+1,1,none⟩ (.int .u64 (dif (af aD c.l) c.keep:Nat))).setCell ⟨B+1,2,none⟩ (.int .u8 (ndv:Nat))).setCell ⟨B+1,3,none⟩ (.int .i64 c.nb)).setCell ⟨B+1,4,none⟩ (.int .i64 c.pol)).setCell ⟨B+1+1,0,none⟩ (.int .u64 (dif (af aD c.l) c.keep:Nat))).setCell ⟨B+1+1,1,none⟩ (.pointer (some ⟨pb,0,none⟩)))=Z at HZM5 HZS5 HBZ5 HOTH hsZ;have HMT:Hid (cI Z.drew tb tg 0 tc (Ol.cM c)):=⟨iB HT5.out (HOTH.out tb HNE.out.1.1 HNE.out.1.2) (HOTH.out tg HNE.out.2.1 HNE.out.2.2) (Nat.le_of_eq hsZ.symm),HGOOD.out,Ost.iP _ hchl,by show 1<=Ol.dN _ _ _/\Ol.dN _ _ _<=15;have:=HNDL.out c.ds.length (lR);omega,HOKC.out.2.2⟩;have HSKZ:Hid (de Z.drew pb db pao pc ⟨(Ol.cM c).op,c.ds,λ_=>false⟩):=⟨kk HP5.out (HOTH.out pb (by omega) (by omega)) (λh0=>HOTH.out db (by have:=HDB3.out h0;omega) (by have:=HDB3.out h0;omega)) (Nat.le_of_eq hsZ.symm),HND.out,Ost.iP _ hchl⟩;have HBZD:Hid (Below w.heap.size w Z.drew):=bf HBZ5.out;have HZMD:Hid (Z.drew.heap[B+1]?=_):=HZM5.out;have HZSD:Hid (Z.drew.heap[B+1+1]?=_):=HZS5.out;have HZQ:=qI hZ;clear hZ
        go_wp2_with fail
        go_region
        rw [HZQ.out];clear HZQ;generalize Z.drew=WZ at *
        go_wp2_with fail
        (try simp only [Exit.inBlock,Exit.then]);refine bodyPost_ret (v:=.tuple #[.agg #[.pointer (some ⟨tb,0,none⟩),.int .u64 (dif (af aD c.l) c.keep:Nat),.int .u8 (ndv:Nat),.int .i64 c.nb,.int .i64 c.pol],.agg #[.int .u64 (dif (af aD c.l) c.keep:Nat),.pointer (some ⟨pb,0,none⟩)],.nilIface]) ?_ rfl ⟨(λh=>absurd HCF.out h),(λ_=>⟨tb,tg,tc,pb,db,pao,pc,by rw [HNV.out];rfl,HMT.out,HSKZ.out,HPB.out.1,HPB.out.2⟩),HBZD.out⟩;have r0:WZ.cell? ⟨B+1,0,none⟩=some (.pointer (some ⟨tb,0,none⟩)):=ad HZMD.out 0;have r1:WZ.cell? ⟨B+1,1,none⟩=some (.int .u64 (dif (af aD c.l) c.keep:Nat)):=ad HZMD.out 1;have r2:WZ.cell? ⟨B+1,2,none⟩=some (.int .u8 (ndv:Nat)):=ad HZMD.out 2;have r3:WZ.cell? ⟨B+1,3,none⟩=some (.int .i64 c.nb):=ad HZMD.out 3;have r4:WZ.cell? ⟨B+1,4,none⟩=some (.int .i64 c.pol):=ad HZMD.out 4;have s0:WZ.cell? ⟨B+1+1,0,none⟩=some (.int .u64 (dif (af aD c.l) c.keep:Nat)):=ad HZSD.out 0;have s1:WZ.cell? ⟨B+1+1,1,none⟩=some (.pointer (some ⟨pb,0,none⟩)):=ad HZSD.out 1;rw [ni rfl];clear a0_5 fa0_5 a1_5 fa1_5 a2_5 fa2_5 a3_5 fa3_5 a4_5 fa4_5 b0_5 fb0_5 b1_5 fb1_5;go_simp
    ·have he:=hno hfd;subst he;have HNZ:=qI hfd;dsimp only;rw [dI hfd];clear hyes hno;have a0_3:W3.cell? ⟨B+1,0,none⟩=some (.pointer none):=ad HM3.out 0;have fa0_3:=aq HM3.out 0;have a1_3:W3.cell? ⟨B+1,1,none⟩=some (.int .u64 0):=ad HM3.out 1;have fa1_3:=aq HM3.out 1;have a2_3:W3.cell? ⟨B+1,2,none⟩=some (.int .u8 0):=ad HM3.out 2;have fa2_3:=aq HM3.out 2;have a3_3:W3.cell? ⟨B+1,3,none⟩=some (.int .i64 0):=ad HM3.out 3;have fa3_3:=aq HM3.out 3;have a4_3:W3.cell? ⟨B+1,4,none⟩=some (.int .i64 0):=ad HM3.out 4;have fa4_3:=aq HM3.out 4;have b0_3:W3.cell? ⟨B+2,0,none⟩=some (.int .u64 0):=ad HS3.out 0;have fb0_3:=aq HS3.out 0;have b1_3:W3.cell? ⟨B+2,1,none⟩=some (.pointer none):=ad HS3.out 1;have fb1_3:=aq HS3.out 1;have HZM3:Hid ((((((((W3.setCell ⟨B+1,0,none⟩ (.pointer none)).setCell ⟨B+1,1,none⟩ (.int .u64 0)).setCell ⟨B+1,2,none⟩ (.int .u8 0)).setCell ⟨B+1,3,none⟩ (.int .i64 0)).setCell ⟨B+1,4,none⟩ (.int .i64 0)).setCell ⟨B+2,0,none⟩ (.int .u64 0)).setCell ⟨B+2,1,none⟩ (.pointer none)).heap[B+1]?=_):=(set_other (by omega)).trans ((set_other (by omega)).trans (aj (aj (aj (aj (aj HM3.out 0 (.pointer none)) 1 (.int .u64 0)) 2 (.int .u8 0)) 3 (.int .i64 0)) 4 (.int .i64 0)));have hsk3:(((((W3.setCell ⟨B+1,0,none⟩ (.pointer none)).setCell ⟨B+1,1,none⟩ (.int .u64 0)).setCell ⟨B+1,2,none⟩ (.int .u8 0)).setCell ⟨B+1,3,none⟩ (.int .i64 0)).setCell ⟨B+1,4,none⟩ (.int .i64 0)).heap[B+2]?=W3.heap[B+2]?:=(set_other (by omega)).trans ((set_other (by omega)).trans ((set_other (by omega)).trans ((set_other (by omega)).trans (set_other (by omega)))));have HZS3:=qI (aj (aj (hsk3.trans HS3.out) 0 (.int .u64 0)) 1 (.pointer none));have HBZ3:=qI (((((((HB3.out.setCell (p:=⟨B+1,0,none⟩) (by show w.heap.size<=B+1;omega) (.pointer none)).setCell (p:=⟨B+1,1,none⟩) (by show w.heap.size<=B+1;omega) (.int .u64 0)).setCell (p:=⟨B+1,2,none⟩) (by show w.heap.size<=B+1;omega) (.int .u8 0)).setCell (p:=⟨B+1,3,none⟩) (by show w.heap.size<=B+1;omega) (.int .i64 0)).setCell (p:=⟨B+1,4,none⟩) (by show w.heap.size<=B+1;omega) (.int .i64 0)).setCell (p:=⟨B+2,0,none⟩) (by show w.heap.size<=B+2;omega) (.int .u64 0)).setCell (p:=⟨B+2,1,none⟩) (by show w.heap.size<=B+2;omega) (.pointer none));clear hfd;generalize Dvs.fault c.ds=ff at *
     go_wp2_with fail
     generalize (((((((W3.setCell ⟨B+1,0,none⟩ (.pointer none)).setCell ⟨B+1,1,none⟩ (.int .u64 0)).setCell ⟨B+1,2,none⟩ (.int .u8 0)).setCell ⟨B+1,3,none⟩ (.int .i64 0)).setCell ⟨B+1,4,none⟩ (.int .i64 0)).setCell ⟨B+2,0,none⟩ (.int .u64 0)).setCell ⟨B+2,1,none⟩ (.pointer none))=WZ at *;(try simp only [Exit.inBlock,Exit.then]);refine bodyPost_ret (v:=.tuple #[.agg #[.pointer none,.int .u64 0,.int .u8 0,.int .i64 0,.int .i64 0],.agg #[.int .u64 0,.pointer none],.iface 121 (.int .i64 (ff:Nat))]) ?_ rfl ⟨(λ_=>by rw [HCF.out,dI HNZ.out]),(λh=>by rw [HCF.out] at h;exact absurd (by omega) HNZ.out),HBZ3.out⟩;have r0:WZ.cell? ⟨B+1,0,none⟩=some (.pointer none):=ad HZM3.out 0;have r1:WZ.cell? ⟨B+1,1,none⟩=some (.int .u64 0):=ad HZM3.out 1;have r2:WZ.cell? ⟨B+1,2,none⟩=some (.int .u8 0):=ad HZM3.out 2;have r3:WZ.cell? ⟨B+1,3,none⟩=some (.int .i64 0):=ad HZM3.out 3;have r4:WZ.cell? ⟨B+1,4,none⟩=some (.int .i64 0):=ad HZM3.out 4;have s0:WZ.cell? ⟨B+2,0,none⟩=some (.int .u64 0):=ad HZS3.out 0;have s1:WZ.cell? ⟨B+2,1,none⟩=some (.pointer none):=ad HZS3.out 1;rw [ni rfl];clear a0_3 fa0_3 a1_3 fa1_3 a2_3 fa2_3 a3_3 fa3_3 a4_3 fa4_3 b0_3 fb0_3 b1_3 fb1_3;go_simp
 ·have he:=hno hf;subst he;have HCF:Hid (Ol.b6 c=Ost.fault c.l):=by unfold Hid Ol.b6;rw [if_pos hf]
  have HNZ:=qI hf;clear hyes hno;have a0_1:W1.cell? ⟨B+1,0,none⟩=some (.pointer none):=ad HM1.out 0;have fa0_1:=aq HM1.out 0;have a1_1:W1.cell? ⟨B+1,1,none⟩=some (.int .u64 0):=ad HM1.out 1;have fa1_1:=aq HM1.out 1;have a2_1:W1.cell? ⟨B+1,2,none⟩=some (.int .u8 0):=ad HM1.out 2;have fa2_1:=aq HM1.out 2;have a3_1:W1.cell? ⟨B+1,3,none⟩=some (.int .i64 0):=ad HM1.out 3;have fa3_1:=aq HM1.out 3;have a4_1:W1.cell? ⟨B+1,4,none⟩=some (.int .i64 0):=ad HM1.out 4;have fa4_1:=aq HM1.out 4;have b0_1:W1.cell? ⟨B+2,0,none⟩=some (.int .u64 0):=ad HS1.out 0;have fb0_1:=aq HS1.out 0;have b1_1:W1.cell? ⟨B+2,1,none⟩=some (.pointer none):=ad HS1.out 1;have fb1_1:=aq HS1.out 1;have HZM1:Hid ((((((((W1.setCell ⟨B+1,0,none⟩ (.pointer none)).setCell ⟨B+1,1,none⟩ (.int .u64 0)).setCell ⟨B+1,2,none⟩ (.int .u8 0)).setCell ⟨B+1,3,none⟩ (.int .i64 0)).setCell ⟨B+1,4,none⟩ (.int .i64 0)).setCell ⟨B+2,0,none⟩ (.int .u64 0)).setCell ⟨B+2,1,none⟩ (.pointer none)).heap[B+1]?=_):=(set_other (by omega)).trans ((set_other (by omega)).trans (aj (aj (aj (aj (aj HM1.out 0 (.pointer none)) 1 (.int .u64 0)) 2 (.int .u8 0)) 3 (.int .i64 0)) 4 (.int .i64 0)));have hsk1:(((((W1.setCell ⟨B+1,0,none⟩ (.pointer none)).setCell ⟨B+1,1,none⟩ (.int .u64 0)).setCell ⟨B+1,2,none⟩ (.int .u8 0)).setCell ⟨B+1,3,none⟩ (.int .i64 0)).setCell ⟨B+1,4,none⟩ (.int .i64 0)).heap[B+2]?=W1.heap[B+2]?:=(set_other (by omega)).trans ((set_other (by omega)).trans ((set_other (by omega)).trans ((set_other (by omega)).trans (set_other (by omega)))));have HZS1:=qI (aj (aj (hsk1.trans HS1.out) 0 (.int .u64 0)) 1 (.pointer none));have HBZ1:=qI (((((((HB1.out.setCell (p:=⟨B+1,0,none⟩) (by show w.heap.size<=B+1;omega) (.pointer none)).setCell (p:=⟨B+1,1,none⟩) (by show w.heap.size<=B+1;omega) (.int .u64 0)).setCell (p:=⟨B+1,2,none⟩) (by show w.heap.size<=B+1;omega) (.int .u8 0)).setCell (p:=⟨B+1,3,none⟩) (by show w.heap.size<=B+1;omega) (.int .i64 0)).setCell (p:=⟨B+1,4,none⟩) (by show w.heap.size<=B+1;omega) (.int .i64 0)).setCell (p:=⟨B+2,0,none⟩) (by show w.heap.size<=B+2;omega) (.int .u64 0)).setCell (p:=⟨B+2,1,none⟩) (by show w.heap.size<=B+2;omega) (.pointer none));generalize Ost.fault c.l=ff at *;clear hf
  go_wp2_with fail
  generalize (((((((W1.setCell ⟨B+1,0,none⟩ (.pointer none)).setCell ⟨B+1,1,none⟩ (.int .u64 0)).setCell ⟨B+1,2,none⟩ (.int .u8 0)).setCell ⟨B+1,3,none⟩ (.int .i64 0)).setCell ⟨B+1,4,none⟩ (.int .i64 0)).setCell ⟨B+2,0,none⟩ (.int .u64 0)).setCell ⟨B+2,1,none⟩ (.pointer none))=WZ at *;(try simp only [Exit.inBlock,Exit.then]);refine bodyPost_ret (v:=.tuple #[.agg #[.pointer none,.int .u64 0,.int .u8 0,.int .i64 0,.int .i64 0],.agg #[.int .u64 0,.pointer none],.iface 121 (.int .i64 ff)]) ?_ rfl ⟨λ_=>by rw [HCF.out];unfold ak;rw [if_neg HNZ.out],λh=>absurd (HCF.out.symm.trans h) HNZ.out,HBZ1.out⟩;have r0:WZ.cell? ⟨B+1,0,none⟩=some (.pointer none):=ad HZM1.out 0;have r1:WZ.cell? ⟨B+1,1,none⟩=some (.int .u64 0):=ad HZM1.out 1;have r2:WZ.cell? ⟨B+1,2,none⟩=some (.int .u8 0):=ad HZM1.out 2;have r3:WZ.cell? ⟨B+1,3,none⟩=some (.int .i64 0):=ad HZM1.out 3;have r4:WZ.cell? ⟨B+1,4,none⟩=some (.int .i64 0):=ad HZM1.out 4;have s0:WZ.cell? ⟨B+2,0,none⟩=some (.int .u64 0):=ad HZS1.out 0;have s1:WZ.cell? ⟨B+2,1,none⟩=some (.pointer none):=ad HZS1.out 1;rw [ni rfl];clear a0_1 fa0_1 a1_1 fa1_1 a2_1 fa2_1 a3_1 fa3_1 a4_1 fa4_1 b0_1 fb0_1 b1_1 fb1_1;go_simp
end
