import Derived.Test.YtbmmnflgnmjboaaGreatDoorA29
set_option maxRecDepth 100000
set_option maxHeartbeats 16000000
namespace Go.Proofs.YtbmmnflgnmjboaaGreatDoor
section
open RowKit Shelf
open Ost (Cpu ae dif)
open Dvs (Dv dv aX)
attribute [local go_sem] Oper.semAt_some
theorem o9 {fn:Func} {p q u:Tmp} {ty tz:TypeId} (h:fn.results=#[.cell p ty,.cell q tz,.tmp u]) (tmps:Array Value) (P:Program) (w:World) :
  (results fn tmps).run P w=((asAddr (tmps.getD p undef)).run P w).andThen λa w₁=>((loadVar ty a).run P w₁).andThen λv w₂=>((asAddr (tmps.getD q undef)).run P w₂).andThen λb w₃=>((loadVar tz b).run P w₃).andThen λx w₄=>.ok (.tuple #[v,x,tmps.getD u undef]) w₄:=by
 simp only [results,h]
 simp [Sem.run_bind,Result.andThen]
theorem zt (n a b:Int) (w:World):Calls Tryz.prog 65 #[.int .i64 n,.int .i64 a,.int .i64 b] w λe w'=>e=.returned (.bool (decide (a<=n/\n<=b)))/\w'=w:=by
 by_cases h1:a<=n
 ·have Ha:decide (a<=n)=true:=Qc h1;have HE:Hid (decide (a<=n/\n<=b)=decide (n<=b)):=by unfold Hid;by_cases h2:n<=b <;> simp [h1,h2]
  rw [HE.out];clear h1
  go_enter Tryz.func65,Tryz.ntmps65
  go_wp2
  go_ret;exact ⟨rfl,rfl⟩
 ·have Ha:decide (a<=n)=false:=Q7 h1;have HE:Hid (decide (a<=n/\n<=b)=false):=Q7 λh=>h1 h.1
  rw [HE.out];clear h1
  go_enter Tryz.func65,Tryz.ntmps65
  go_wp2
  go_ret;exact ⟨rfl,rfl⟩
theorem LN (l:List Cpu):∀ k,eN l k=Ol.dH l k:=by
 intro k
 induction k with
 | zero=>rfl
 | succ k ih=>rw [eN,Ol.dH,ih]
theorem sC {l:List Cpu} (h:Ost.fault l=0):0<l.length:=by
 apply Qt;intro h0
 have:l=[]:=List.length_eq_zero_iff.1 (by omega)
 subst this;exact absurd h (by decide)
abbrev dm:=(.cells #[.pointer none,.int .u64 0,.int .u8 0,.int .i64 0,.int .i64 0] 95:Obj)
theorem LO {W:World} {tb tg tc B:Nat} {l:List Cpu} (h:ba W tb tg 0 tc l) (h0:0<l.length) (h1:W.heap[B+1]?=some (dm)) (h2:W.heap[B+2]?=some (.cells #[.int .u64 0,.pointer none] 98)):(tb≠B+1/\tb≠B+2)/\(tg≠B+1/\tg≠B+2):=by
 have a1:W.cell? ⟨B+1,0,none⟩=some (.pointer none):=ad h1 0;have a2:W.cell? ⟨B+2,0,none⟩=some (.int .u64 0):=ad h2 0;have c1:=h.cell;have c2:=(h.cells 0 h0).1;refine ⟨⟨λe=>?_,λe=>?_⟩,λe=>?_,λe=>?_⟩
 ·rw [e,a1] at c1;cases c1
 ·rw [e,a2] at c1;cases c1
 ·rw [e] at c2;have c2:W.cell? ⟨B+1,0,none⟩=_:=c2;rw [a1] at c2;cases c2
 ·rw [e] at c2;have c2:W.cell? ⟨B+2,0,none⟩=_:=c2;rw [a2] at c2;cases c2
theorem jd {W W':World} {tb b o c:Nat} {l:List Cpu} (h:ba W tb b o c l) (h1:W'.heap[tb]?=W.heap[tb]?) (h2:W'.heap[b]?=W.heap[b]?) (hs:W.heap.size<=W'.heap.size):ba W' tb b o c l:=
 ⟨(World.cell?_of_block (a:=⟨tb,0,none⟩) h1).trans h.cell,λk hk=>⟨(World.cell?_of_block (a:=⟨b,o+k*3,none⟩) h2).trans (h.cells k hk).1,(World.cell?_of_block (a:=⟨b,o+k*3+1,none⟩) h2).trans (h.cells k hk).2.1,(World.cell?_of_block (a:=⟨b,o+k*3+2,none⟩) h2).trans (h.cells k hk).2.2⟩,Q1 h.lt hs,h.len⟩
theorem lD {W W':World} {pb db:Nat} {ao:Option Addr} {c:Nat} {ds:List Dv} {us:Nat->Bool} (h:ap W pb db ao c ds us) (h1:W'.heap[pb]?=W.heap[pb]?) (h2:0<ds.length->W'.heap[db]?=W.heap[db]?) (hs:W.heap.size<=W'.heap.size):ap W' pb db ao c ds us:=by
 have cc:∀ j,W'.cell? ⟨pb,j,none⟩=W.cell? ⟨pb,j,none⟩:=λj=>World.cell?_of_block (a:=⟨pb,j,none⟩) h1
 have ff:∀ j,W'.frozen? ⟨pb,j,none⟩=W.frozen? ⟨pb,j,none⟩:=λj=>by simp [World.frozen?,h1]
 refine ⟨by rw [cc];exact h.row,λh0=>⟨(h.at0 h0).1,(h.at0 h0).2.1,Q1 (h.at0 h0).2.2 hs⟩,λk hk=>?_,λj hj=>⟨by rw [cc];exact (h.used j hj).1,by rw [ff];exact (h.used j hj).2⟩⟩;have h3:=h2 (by omega);have dd:∀ j,W'.cell? ⟨db,j,none⟩=W.cell? ⟨db,j,none⟩:=λj=>World.cell?_of_block (a:=⟨db,j,none⟩) h3
 have fd:∀ j,W'.frozen? ⟨db,j,none⟩=W.frozen? ⟨db,j,none⟩:=λj=>by simp [World.frozen?,h3]
 rw [dd,dd,dd,fd];exact h.cells k hk
structure LP (w w':World) (c:Ol.Cf) (e:Ending):Prop where
 bad:Ol.bQ c≠0->e=.returned (.tuple #[.agg #[.pointer none,.int .u64 0,.int .u8 0,.int .i64 0,.int .i64 0],.agg #[.int .u64 0,.pointer none],ar (Ol.bQ c)])
 good:Ol.bQ c=0->∃ tb b cc pb db ao pc,e=.returned (.tuple #[mV (Ol.cL c) tb,sV ⟨(Ol.cL c).op,c.ds,λ_=>false⟩ pb,.nilIface])/\cM w' tb b 0 cc (Ol.cL c)/\dj w' pb db ao pc ⟨(Ol.cL c).op,c.ds,λ_=>false⟩/\w.heap.size<=pb/\(0<c.ds.length->w.heap.size<=db)
 below:Below w.heap.size w w'
abbrev jQ:=λ(x0:Option Addr) (x1:Ol.Cf) (x2:Nat) (x3:Option Addr) (x4:Nat)=>(.cells #[.slice x0 x1.l.length x2,.int .u64 (x1.keep:Nat),.int .i64 x1.nb,.slice x3 x1.ds.length x4,.int .i64 x1.pol] 27:Obj)
abbrev lE:=λ(x0:Dvs.Dv) (x1:Nat)=>(.cells #[.string x0.kind,.int .i64 (x1:Nat),.bool x0.sick] 87:Obj)
abbrev zu:=λ(B:Nat) (c:Ol.Cf) (w':World)=>w'.cell? ⟨B,1,none⟩=some (.int .u64 (c.keep:Nat))/\w'.cell? ⟨B,2,none⟩=some (.int .i64 c.nb)/\w'.cell? ⟨B,4,none⟩=some (.int .i64 c.pol)
theorem zv (c:Ol.Cf) (v1 v2:Value) (g o:Nat) (w:World) (h1:eD w v1 c.l) (h2:cO w v2 g o c.ds) (hk:c.keep<18446744073709551616) :
  Calls Tryz.prog 33 #[.agg #[v1,.int .u64 (c.keep:Nat),.int .i64 c.nb,v2,.int .i64 c.pol]] w λe w'=>LP w w' c e:=by
 obtain ⟨ca,cc,hH⟩:∃ ca cc,v1=.slice ca c.l.length cc:=by
  rcases id h1 with ⟨hl,ao,q,rfl⟩|⟨b,o,q,rfl,_⟩
  ·exact ⟨ao,q,by rw [hl];rfl⟩
  ·exact ⟨_,q,rfl⟩
 subst hH;obtain ⟨da,dc,hN,_⟩:=id h2;subst hN;have Jj:=qI ((((Q0 w.heap.size w).alloc (lR) (jQ ca c cc da dc)).alloc (by simp) (dm)).alloc (by simp;omega) (.cells #[.int .u64 0,.pointer none] 98));have sz:(((w.alloc (jQ ca c cc da dc)).alloc (dm)).alloc (.cells #[.int .u64 0,.pointer none] 98)).heap.size=w.heap.size+3:=by simp
 have Jg:=qI (bg (bg (aF w (jQ ca c cc da dc) rfl) (dm)) (.cells #[.int .u64 0,.pointer none] 98));have JE:=qI (bg (aF (w.alloc (jQ ca c cc da dc)) (dm) (n:=w.heap.size+1) (by simp)) (.cells #[.int .u64 0,.pointer none] 98));have Jq:=qI (aF ((w.alloc (jQ ca c cc da dc)).alloc (dm)) (.cells #[.int .u64 0,.pointer none] 98) (n:=w.heap.size+2) (by simp));have hs:=qI (tJ ca cc c.l (((w.alloc (jQ ca c cc da dc)).alloc (dm)).alloc (.cells #[.int .u64 0,.pointer none] 98)) (h1.below Jj.out));have HD:=qI h2;have u0:(((w.alloc (jQ ca c cc da dc)).alloc (dm)).alloc (.cells #[.int .u64 0,.pointer none] 98)).cell? ⟨w.heap.size,0,none⟩=some (.slice ca c.l.length cc):=ad Jg.out 0;clear h1 h2
 go_enter Tryz.func33,Tryz.ntmps33
 go_wp2_with fail
 generalize (((w.alloc (jQ ca c cc da dc)).alloc (dm)).alloc (.cells #[.int .u64 0,.pointer none] 98))=U at *;generalize hB:w.heap.size=B at *;refine hs.out.mono ?_;rintro e W1 ⟨Hh,HT,HJ⟩;have HB:=qI (show Below w.heap.size w W1 by rw [hB];exact Jj.out.trans (HJ.mono (by omega)));have JT:=HJ.size;have hA:=qI ((HJ.block B (by omega)).trans Jg.out);have Hr:=qI ((HJ.block (B+1) (by omega)).trans JE.out);have HY:=qI ((HJ.block (B+2) (by omega)).trans Jq.out);clear HJ u0 hs
 by_cases hf:Ost.fault c.l=0
 ·obtain ⟨tb,tg,tc,rfl,HQ⟩:=Hh hf;have Hm:=qI HQ;have He:=qI (BQ hf);have hI:=qI HQ.len;clear Hh HT HQ;obtain ⟨bad,ha⟩:∃ x:Bool,x=(!decide (c.keep &&& ae aC c.l=c.keep) || (!decide (0<=c.nb/\c.nb<=1125899906842624) || !decide (0<=c.pol/\c.pol<=3))):=⟨_,rfl⟩;have Hg:=qI ha;clear ha;have HG:ae aC c.l<18446744073709551616:=Ost.eY aC c.l c.l.length hI.out;have HU:=qI (λ(W:World)=>jv c.keep (ae aC c.l) W hk HG);have HV:=qI (λ(W:World)=>zt c.nb 0 1125899906842624 W);have hr:=qI (λ(W:World)=>zt c.pol 0 3 W)
  go_upto_region 4 with fail
  have Hf:Hid (∀ W,Below W1.heap.size W1 W->(zu B c) W):=λW hb=>⟨ad ((hb.block B (by omega)).trans hA.out) 1,ad ((hb.block B (by omega)).trans hA.out) 2,ad ((hb.block B (by omega)).trans hA.out) 4⟩
  go_cut [39] (λb39 wc=>b39=.bool bad/\Below W1.heap.size W1 wc)
  case first=>
   have Hb:Hid (Below W1.heap.size W1 W1.drew):=a6 (Q0 _ _)
   by_cases q1:c.keep &&& ae aC c.l=c.keep
   ·have d1:decide (c.keep &&& ae aC c.l=c.keep)=true:=Qc q1;simp only [d1] at HU
    by_cases q2:0<=c.nb/\c.nb<=1125899906842624
    ·have d2:decide (0<=c.nb/\c.nb<=1125899906842624)=true:=Qc q2;simp only [d2] at HV
     by_cases q3:0<=c.pol/\c.pol<=3
     ·have d3:decide (0<=c.pol/\c.pol<=3)=true:=Qc q3;simp only [d3] at hr;have HM:Hid (bad=false):=by unfold Hid;rw [Hg.out,d1,d2,d3];rfl
      clear q1 q2 q3 d1 d2 d3;refine Qo (by kernel_rfl) (Hf.out _ Hb.out) (λhHeld=>?_);generalize W1.drew=V at *;refine tk 0 ?_;refine tk 1 ?_;refine tk 2 ?_;refine rd 3 (λK hK=>?_);go_simp
      go_wp2_with fail
      refine (gC tb tg 0 tc c.l V (Hm.out.below Hb.out)).mono ?_;rintro e W2 ⟨rfl,Hj⟩;have Ha:=qI (Hb.out.trans (Hj.mono Hb.out.size));clear Hj
      go_wp2
      refine hK.out _ _ (Hf.out _ Ha.out) (λhHeld=>?_);clear hK K;refine rd 4 (λK hK=>?_);go_simp
      go_wp2_with fail
      refine (HU.out _).mono ?_;rintro e wz ⟨rfl,rfl⟩
      go_wp2
      refine hK.out _ _ (Hf.out _ Ha.out) (λhHeld=>?_);clear hK K;refine tk 5 ?_;refine tk 6 ?_;refine tk 7 ?_;refine tk 8 ?_;refine rd 9 (λK hK=>?_);go_simp
      go_wp2_with fail
      refine (HV.out _).mono ?_;rintro e wz ⟨rfl,rfl⟩
      go_wp2
      refine hK.out _ _ (Hf.out _ Ha.out) (λhHeld=>?_);clear hK K;refine tk 10 ?_;refine tk 11 ?_;refine tk 12 ?_;refine tk 13 ?_;refine tk 14 ?_;refine rd 15 (λK hK=>?_);go_simp
      go_wp2_with fail
      refine (hr.out _).mono ?_;rintro e wz ⟨rfl,rfl⟩
      go_wp2
      refine hK.out _ _ (Hf.out _ Ha.out) (λhHeld=>?_);clear hK K;refine tk 16 ?_;refine tk 17 ?_;refine Qn (by kernel_rfl) ?_ _;clear hHeld
      go_wp2
      go_meet
      exact ⟨by rw [HM.out],Ha.out⟩
     ·have d3:decide (0<=c.pol/\c.pol<=3)=false:=Q7 q3;simp only [d3] at hr;have HM:Hid (bad=true):=by unfold Hid;rw [Hg.out,d1,d2,d3];rfl
      clear q1 q2 q3 d1 d2 d3;refine Qo (by kernel_rfl) (Hf.out _ Hb.out) (λhHeld=>?_);generalize W1.drew=V at *;refine tk 0 ?_;refine tk 1 ?_;refine tk 2 ?_;refine rd 3 (λK hK=>?_);go_simp
      go_wp2_with fail
      refine (gC tb tg 0 tc c.l V (Hm.out.below Hb.out)).mono ?_;rintro e W2 ⟨rfl,Hj⟩;have Ha:=qI (Hb.out.trans (Hj.mono Hb.out.size));clear Hj
      go_wp2
      refine hK.out _ _ (Hf.out _ Ha.out) (λhHeld=>?_);clear hK K;refine rd 4 (λK hK=>?_);go_simp
      go_wp2_with fail
      refine (HU.out _).mono ?_;rintro e wz ⟨rfl,rfl⟩
      go_wp2
      refine hK.out _ _ (Hf.out _ Ha.out) (λhHeld=>?_);clear hK K;refine tk 5 ?_;refine tk 6 ?_;refine tk 7 ?_;refine tk 8 ?_;refine rd 9 (λK hK=>?_);go_simp
      go_wp2_with fail
      refine (HV.out _).mono ?_;rintro e wz ⟨rfl,rfl⟩
      go_wp2
      refine hK.out _ _ (Hf.out _ Ha.out) (λhHeld=>?_);clear hK K;refine tk 10 ?_;refine tk 11 ?_;refine tk 12 ?_;refine tk 13 ?_;refine tk 14 ?_;refine rd 15 (λK hK=>?_);go_simp
      go_wp2_with fail
      refine (hr.out _).mono ?_;rintro e wz ⟨rfl,rfl⟩
      go_wp2
      refine hK.out _ _ (Hf.out _ Ha.out) (λhHeld=>?_);clear hK K;refine tk 16 ?_;refine tk 17 ?_;refine Qn (by kernel_rfl) ?_ _;clear hHeld
      go_wp2
      go_meet
      exact ⟨by rw [HM.out],Ha.out⟩
    ·have d2:decide (0<=c.nb/\c.nb<=1125899906842624)=false:=Q7 q2;simp only [d2] at HV;have HM:Hid (bad=true):=by unfold Hid;rw [Hg.out,d1,d2];rfl
     clear q1 q2 d1 d2;refine Qo (by kernel_rfl) (Hf.out _ Hb.out) (λhHeld=>?_);generalize W1.drew=V at *;refine tk 0 ?_;refine tk 1 ?_;refine tk 2 ?_;refine rd 3 (λK hK=>?_);go_simp
     go_wp2_with fail
     refine (gC tb tg 0 tc c.l V (Hm.out.below Hb.out)).mono ?_;rintro e W2 ⟨rfl,Hj⟩;have Ha:=qI (Hb.out.trans (Hj.mono Hb.out.size));clear Hj
     go_wp2
     refine hK.out _ _ (Hf.out _ Ha.out) (λhHeld=>?_);clear hK K;refine rd 4 (λK hK=>?_);go_simp
     go_wp2_with fail
     refine (HU.out _).mono ?_;rintro e wz ⟨rfl,rfl⟩
     go_wp2
     refine hK.out _ _ (Hf.out _ Ha.out) (λhHeld=>?_);clear hK K;refine tk 5 ?_;refine tk 6 ?_;refine tk 7 ?_;refine tk 8 ?_;refine rd 9 (λK hK=>?_);go_simp
     go_wp2_with fail
     refine (HV.out _).mono ?_;rintro e wz ⟨rfl,rfl⟩
     go_wp2
     refine hK.out _ _ (Hf.out _ Ha.out) (λhHeld=>?_);clear hK K;refine tk 10 ?_;refine tk 11 ?_;refine tk 12 ?_;refine ts 13 ?_;refine ts 14 ?_;refine ts 15 ?_;refine ts 16 ?_;refine tk 17 ?_;refine Qn (by kernel_rfl) ?_ _;clear hHeld
     go_wp2
     go_meet
     exact ⟨by rw [HM.out],Ha.out⟩
   ·have d1:decide (c.keep &&& ae aC c.l=c.keep)=false:=Q7 q1;simp only [d1] at HU;have HM:Hid (bad=true):=by unfold Hid;rw [Hg.out,d1];rfl
    clear q1 d1;refine Qo (by kernel_rfl) (Hf.out _ Hb.out) (λhHeld=>?_);generalize W1.drew=V at *;refine tk 0 ?_;refine tk 1 ?_;refine tk 2 ?_;refine rd 3 (λK hK=>?_);go_simp
    go_wp2_with fail
    refine (gC tb tg 0 tc c.l V (Hm.out.below Hb.out)).mono ?_;rintro e W2 ⟨rfl,Hj⟩;have Ha:=qI (Hb.out.trans (Hj.mono Hb.out.size));clear Hj
    go_wp2
    refine hK.out _ _ (Hf.out _ Ha.out) (λhHeld=>?_);clear hK K;refine rd 4 (λK hK=>?_);go_simp
    go_wp2_with fail
    refine (HU.out _).mono ?_;rintro e wz ⟨rfl,rfl⟩
    go_wp2
    refine hK.out _ _ (Hf.out _ Ha.out) (λhHeld=>?_);clear hK K;refine tk 5 ?_;refine tk 6 ?_;refine ts 7 ?_;refine ts 8 ?_;refine ts 9 ?_;refine ts 10 ?_;refine tk 11 ?_;refine tk 12 ?_;refine ts 13 ?_;refine ts 14 ?_;refine ts 15 ?_;refine ts 16 ?_;refine tk 17 ?_;refine Qn (by kernel_rfl) ?_ _;clear hHeld
    go_wp2
    go_meet
    exact ⟨by rw [HM.out],Ha.out⟩
  case rest=>
   obtain ⟨rfl,HR⟩:=hcut;have h4:=qI (HB.out.trans (HR.mono (by omega)));have JS:=HR.size;have Jb:=qI ((HR.block B (by omega)).trans hA.out);have Hs:=qI ((HR.block (B+1) (by omega)).trans Hr.out);have HW:=qI ((HR.block (B+2) (by omega)).trans HY.out);have Jn:=qI (Hm.out.below HR);have hx:=qI hf;clear HR hf HU HV hr Hf Hm
   rcases two bad with H7|H7
   ·have HC:Hid (Ol.bQ c=1):=by
     unfold Hid Ol.bQ;rw [if_neg (λh=>h hx.out),if_pos];rw [H7] at Hg;have hb:=Hg.out
     by_cases q1:c.keep &&& ae aC c.l=c.keep
     ·by_cases q2:0<=c.nb/\c.nb<=1125899906842624
      ·by_cases q3:0<=c.pol/\c.pol<=3
       ·rw [Qc q1,Qc q2,Qc q3] at hb;cases hb
       ·exact .inr (.inr q3)
      ·exact .inr (.inl q2)
     ·exact .inl q1
    subst H7;have a0_2:wc.cell? ⟨B+1,0,none⟩=some (.pointer none):=ad Hs.out 0;have fa0_2:=aq Hs.out 0;have a1_2:wc.cell? ⟨B+1,1,none⟩=some (.int .u64 0):=ad Hs.out 1;have fa1_2:=aq Hs.out 1;have a2_2:wc.cell? ⟨B+1,2,none⟩=some (.int .u8 0):=ad Hs.out 2;have fa2_2:=aq Hs.out 2;have a3_2:wc.cell? ⟨B+1,3,none⟩=some (.int .i64 0):=ad Hs.out 3;have fa3_2:=aq Hs.out 3;have a4_2:wc.cell? ⟨B+1,4,none⟩=some (.int .i64 0):=ad Hs.out 4;have fa4_2:=aq Hs.out 4;have b0_2:wc.cell? ⟨B+2,0,none⟩=some (.int .u64 0):=ad HW.out 0;have fb0_2:=aq HW.out 0;have b1_2:wc.cell? ⟨B+2,1,none⟩=some (.pointer none):=ad HW.out 1;have fb1_2:=aq HW.out 1;have Hz:Hid ((((((((wc.setCell ⟨B+1,0,none⟩ (.pointer none)).setCell ⟨B+1,1,none⟩ (.int .u64 0)).setCell ⟨B+1,2,none⟩ (.int .u8 0)).setCell ⟨B+1,3,none⟩ (.int .i64 0)).setCell ⟨B+1,4,none⟩ (.int .i64 0)).setCell ⟨B+2,0,none⟩ (.int .u64 0)).setCell ⟨B+2,1,none⟩ (.pointer none)).heap[B+1]?=_):=(set_other (by omega)).trans ((set_other (by omega)).trans (aj (aj (aj (aj (aj Hs.out 0 (.pointer none)) 1 (.int .u64 0)) 2 (.int .u8 0)) 3 (.int .i64 0)) 4 (.int .i64 0)));have hV:(((((wc.setCell ⟨B+1,0,none⟩ (.pointer none)).setCell ⟨B+1,1,none⟩ (.int .u64 0)).setCell ⟨B+1,2,none⟩ (.int .u8 0)).setCell ⟨B+1,3,none⟩ (.int .i64 0)).setCell ⟨B+1,4,none⟩ (.int .i64 0)).heap[B+2]?=wc.heap[B+2]?:=(set_other (by omega)).trans ((set_other (by omega)).trans ((set_other (by omega)).trans ((set_other (by omega)).trans (set_other (by omega)))));have hq:=qI (aj (aj (hV.trans HW.out) 0 (.int .u64 0)) 1 (.pointer none));have hX:=qI (((((((h4.out.setCell (p:=⟨B+1,0,none⟩) (by show w.heap.size<=B+1;omega) (.pointer none)).setCell (p:=⟨B+1,1,none⟩) (by show w.heap.size<=B+1;omega) (.int .u64 0)).setCell (p:=⟨B+1,2,none⟩) (by show w.heap.size<=B+1;omega) (.int .u8 0)).setCell (p:=⟨B+1,3,none⟩) (by show w.heap.size<=B+1;omega) (.int .i64 0)).setCell (p:=⟨B+1,4,none⟩) (by show w.heap.size<=B+1;omega) (.int .i64 0)).setCell (p:=⟨B+2,0,none⟩) (by show w.heap.size<=B+2;omega) (.int .u64 0)).setCell (p:=⟨B+2,1,none⟩) (by show w.heap.size<=B+2;omega) (.pointer none))
    go_wp2_with fail
    generalize (((((((wc.setCell ⟨B+1,0,none⟩ (.pointer none)).setCell ⟨B+1,1,none⟩ (.int .u64 0)).setCell ⟨B+1,2,none⟩ (.int .u8 0)).setCell ⟨B+1,3,none⟩ (.int .i64 0)).setCell ⟨B+1,4,none⟩ (.int .i64 0)).setCell ⟨B+2,0,none⟩ (.int .u64 0)).setCell ⟨B+2,1,none⟩ (.pointer none))=WZ at *;(try simp only [Exit.inBlock,Exit.then]);refine bodyPost_ret (v:=.tuple #[.agg #[.pointer none,.int .u64 0,.int .u8 0,.int .i64 0,.int .i64 0],.agg #[.int .u64 0,.pointer none],.iface 121 (.int .i64 1)]) ?_ rfl ⟨(λ_=>by rw [HC.out];rfl),(λh=>by rw [HC.out] at h;cases h),hX.out⟩;have r0:WZ.cell? ⟨B+1,0,none⟩=some (.pointer none):=ad Hz.out 0;have r1:WZ.cell? ⟨B+1,1,none⟩=some (.int .u64 0):=ad Hz.out 1;have r2:WZ.cell? ⟨B+1,2,none⟩=some (.int .u8 0):=ad Hz.out 2;have r3:WZ.cell? ⟨B+1,3,none⟩=some (.int .i64 0):=ad Hz.out 3;have r4:WZ.cell? ⟨B+1,4,none⟩=some (.int .i64 0):=ad Hz.out 4;have s0:WZ.cell? ⟨B+2,0,none⟩=some (.int .u64 0):=ad hq.out 0;have s1:WZ.cell? ⟨B+2,1,none⟩=some (.pointer none):=ad hq.out 1;rw [o9 rfl];clear a0_2 fa0_2 a1_2 fa1_2 a2_2 fa2_2 a3_2 fa3_2 a4_2 fa4_2 b0_2 fb0_2 b1_2 fb1_2;go_simp
   ·have HH:Hid ((c.keep &&& ae aC c.l=c.keep)/\(0<=c.nb/\c.nb<=1125899906842624)/\(0<=c.pol/\c.pol<=3)):=by
     unfold Hid;rw [H7] at Hg;have hb:=Hg.out
     by_cases q1:c.keep &&& ae aC c.l=c.keep
     ·by_cases q2:0<=c.nb/\c.nb<=1125899906842624
      ·by_cases q3:0<=c.pol/\c.pol<=3
       ·exact ⟨q1,q2,q3⟩
       ·rw [Qc q1,Qc q2,Q7 q3] at hb;cases hb
      ·rw [Qc q1,Q7 q2] at hb;cases hb
     ·rw [Q7 q1] at hb;cases hb
    have HC:Hid (Ol.bQ c=((Dvs.fault c.ds:Nat):Int)):=by
     unfold Hid Ol.bQ;rw [if_neg (λh=>h hx.out),if_neg (λh=>by rcases h with h|h|h;exact h HH.out.1;exact h HH.out.2.1;exact h HH.out.2.2)]
    subst H7;have e3:wc.cell? ⟨B,3,none⟩=some (.slice da c.ds.length dc):=ad Jb.out 3;have Jd:=qI (uH (.slice da c.ds.length dc) g o c.ds wc (HD.out.le (az.of_below h4.out)))
    go_wp2_with fail
    refine Jd.out.mono ?_;rintro e W3 ⟨Hh,HT,HP⟩;have hc:=qI (h4.out.trans (HP.mono (by omega)));have JU:=HP.size;have hE:=qI ((HP.block B (by omega)).trans Jb.out);have Hq:=qI ((HP.block (B+1) (by omega)).trans Hs.out);have HL:=qI ((HP.block (B+2) (by omega)).trans HW.out);have HF:=qI (Jn.out.below HP);clear HP e3 Jd
    by_cases hfd:Dvs.fault c.ds=0
    ·obtain ⟨pp,rfl,pb,db,pao,pc,rfl,Hk,hW,HN⟩:=Hh hfd;rw [hfd] at HC;have hp:=qI Hk;have hG:=qI (Dvs.ie hfd);have Jc:Hid (w.heap.size<=pb/\(0<c.ds.length->w.heap.size<=db)):=⟨by omega,λh0=>by have:=HN h0;omega⟩;have JO:=Hk.lt;have JM:B+3<=pb:=by omega
     have H3:Hid (0<c.ds.length->B+3<=db):=λh0=>by have:=HN h0;omega
     have hP:Hid (0<c.ds.length->db<W3.heap.size):=λh0=>(Hk.at0 h0).2.2
     clear Hh HT Hk hW HN hfd;dsimp only;rw [show ar (((0:Nat)):Int)=.nilIface from rfl]
     go_upto_region 9 with fail
     have JJ:=iO (ae aC c.l) c.keep HG hk;have Hp:Hid (∀ W,Below W3.heap.size W3 W->(zu B c) W):=λW hb=>⟨ad ((hb.block B (by omega)).trans hE.out) 1,ad ((hb.block B (by omega)).trans hE.out) 2,ad ((hb.block B (by omega)).trans hE.out) 4⟩
     go_cut [8] (λp8 wc=>∃ Bm,p8=.pointer (some ⟨Bm,0,none⟩)/\wc.heap[Bm]?=some (.cells #[.pointer (some ⟨tb,0,none⟩),.int .u64 (dif (ae aC c.l) c.keep:Nat),.int .u8 (eN c.l c.l.length:Nat),.int .i64 c.nb,.int .i64 c.pol] 95 (0,0))/\W3.heap.size<=Bm/\Below W3.heap.size W3 wc)
     case first=>
      have Hb:Hid (Below W3.heap.size W3 W3.drew):=a6 (Q0 _ _);refine Qo (by kernel_rfl) (Hp.out _ Hb.out) (λhHeld=>?_);generalize W3.drew=V at *;refine tk 0 ?_;refine tk 1 ?_;refine tk 3 ?_;refine tk 4 ?_;refine tk 6 ?_;refine tk 8 ?_;refine tk 9 ?_;refine tk 10 ?_;refine tk 11 ?_;refine wpAnyH_ready (rs:=[2,13]) (by kernel_rfl) (by simp) (AllReadyH.cons rfl (λK hK=>?_) (AllReadyH.cons rfl (λK hK=>?_) AllReadyH.nil))
      ·go_simp
       go_wp2_with fail
       refine (gC tb tg 0 tc c.l V (HF.out.below Hb.out)).mono ?_;rintro e W1 ⟨rfl,HJ⟩;have HB:=qI (Hb.out.trans (HJ.mono Hb.out.size));clear HJ
       go_wp2
       refine hK.out _ _ (Hp.out _ HB.out) (λhHeld=>?_);clear hK K;refine tk 5 ?_;refine wpAnyH_ready (rs:=[7,13]) (by kernel_rfl) (by simp) (AllReadyH.cons rfl (λK hK=>?_) (AllReadyH.cons rfl (λK hK=>?_) AllReadyH.nil))
       ·go_simp
        go_wp2_with fail
        refine (pL tb tg 0 tc c.l W1 (HF.out.below HB.out) He.out).mono ?_;rintro e W2 ⟨rfl,Hj⟩;have Ha:=qI (HB.out.trans (Hj.mono HB.out.size));clear Hj
        go_wp2
        refine hK.out _ _ (Hp.out _ Ha.out) (λhHeld=>?_);clear hK K;refine tk 12 ?_;refine rd 13 (λK hK=>?_);have hc:=qI (Ha.out.alloc Ha.out.size (dm));have Hy:=qI (aF W2 (dm) rfl);have Jt:W2.heap.size<(W2.alloc (dm)).heap.size:=by simp
        have Hl:=Ha.out.size;go_simp
        go_wp2
        refine hK.out _ _ (Hp.out _ hc.out) (λhHeld=>?_);clear hK K;generalize W2.alloc (dm)=W3 at *;refine rd 14 (λK hK=>?_);have c0_4:W3.cell? ⟨W2.heap.size,0,none⟩=some (.pointer none):=ad Hy.out 0;have f0_4:=aq Hy.out 0;have c1_4:W3.cell? ⟨W2.heap.size,1,none⟩=some (.int .u64 0):=ad Hy.out 1;have f1_4:=aq Hy.out 1;have c2_4:W3.cell? ⟨W2.heap.size,2,none⟩=some (.int .u8 0):=ad Hy.out 2;have f2_4:=aq Hy.out 2;have c3_4:W3.cell? ⟨W2.heap.size,3,none⟩=some (.int .i64 0):=ad Hy.out 3;have f3_4:=aq Hy.out 3;have c4_4:W3.cell? ⟨W2.heap.size,4,none⟩=some (.int .i64 0):=ad Hy.out 4;have f4_4:=aq Hy.out 4;have hu:=qI (((((hc.out.setCell (p:=⟨W2.heap.size,0,none⟩) Hl (.pointer (some ⟨tb,0,none⟩))).setCell (p:=⟨W2.heap.size,1,none⟩) Hl (.int .u64 (dif (ae aC c.l) c.keep:Nat))).setCell (p:=⟨W2.heap.size,2,none⟩) Hl (.int .u8 (eN c.l c.l.length:Nat))).setCell (p:=⟨W2.heap.size,3,none⟩) Hl (.int .i64 c.nb)).setCell (p:=⟨W2.heap.size,4,none⟩) Hl (.int .i64 c.pol));have hL:=qI (aj (aj (aj (aj (aj Hy.out 0 (.pointer (some ⟨tb,0,none⟩))) 1 (.int .u64 (dif (ae aC c.l) c.keep:Nat))) 2 (.int .u8 (eN c.l c.l.length:Nat))) 3 (.int .i64 c.nb)) 4 (.int .i64 c.pol));go_simp
        go_wp2
        refine hK.out _ _ (Hp.out _ hu.out) (λhHeld=>?_);clear hK K;refine Qn (by kernel_rfl) ?_ _
        go_wp2
        go_meet
        exact ⟨_,rfl,hL.out,Hl,hu.out⟩
       ·have HX:=qI (HB.out.alloc HB.out.size (dm));have hO:=qI (aF W1 (dm) rfl);have H0:W1.heap.size<(W1.alloc (dm)).heap.size:=by simp
        have Hn:=HB.out.size;go_simp
        go_wp2
        refine hK.out _ _ (Hp.out _ HX.out) (λhHeld=>?_);clear hK K;generalize W1.alloc (dm)=W5 at *;refine rd 7 (λK hK=>?_);go_simp
        go_wp2_with fail
        refine (pL tb tg 0 tc c.l W5 (HF.out.below HX.out) He.out).mono ?_;rintro e W6 ⟨rfl,hz⟩;have Ji:=qI (HX.out.trans (hz.mono HX.out.size));have Hu:=qI ((hz.block _ H0).trans hO.out);have Jv:=Q1 H0 hz.size;clear hz
        go_wp2
        refine hK.out _ _ (Hp.out _ Ji.out) (λhHeld=>?_);clear hK K;refine tk 12 ?_;refine rd 14 (λK hK=>?_);have c0_7:W6.cell? ⟨W1.heap.size,0,none⟩=some (.pointer none):=ad Hu.out 0;have f0_7:=aq Hu.out 0;have c1_7:W6.cell? ⟨W1.heap.size,1,none⟩=some (.int .u64 0):=ad Hu.out 1;have f1_7:=aq Hu.out 1;have c2_7:W6.cell? ⟨W1.heap.size,2,none⟩=some (.int .u8 0):=ad Hu.out 2;have f2_7:=aq Hu.out 2;have c3_7:W6.cell? ⟨W1.heap.size,3,none⟩=some (.int .i64 0):=ad Hu.out 3;have f3_7:=aq Hu.out 3;have c4_7:W6.cell? ⟨W1.heap.size,4,none⟩=some (.int .i64 0):=ad Hu.out 4;have f4_7:=aq Hu.out 4;have h9:=qI (((((Ji.out.setCell (p:=⟨W1.heap.size,0,none⟩) Hn (.pointer (some ⟨tb,0,none⟩))).setCell (p:=⟨W1.heap.size,1,none⟩) Hn (.int .u64 (dif (ae aC c.l) c.keep:Nat))).setCell (p:=⟨W1.heap.size,2,none⟩) Hn (.int .u8 (eN c.l c.l.length:Nat))).setCell (p:=⟨W1.heap.size,3,none⟩) Hn (.int .i64 c.nb)).setCell (p:=⟨W1.heap.size,4,none⟩) Hn (.int .i64 c.pol));have JH:=qI (aj (aj (aj (aj (aj Hu.out 0 (.pointer (some ⟨tb,0,none⟩))) 1 (.int .u64 (dif (ae aC c.l) c.keep:Nat))) 2 (.int .u8 (eN c.l c.l.length:Nat))) 3 (.int .i64 c.nb)) 4 (.int .i64 c.pol));go_simp
        go_wp2
        refine hK.out _ _ (Hp.out _ h9.out) (λhHeld=>?_);clear hK K;refine Qn (by kernel_rfl) ?_ _
        go_wp2
        go_meet
        exact ⟨_,rfl,JH.out,Hn,h9.out⟩
      ·have hC:=qI (Hb.out.alloc Hb.out.size (dm));have JF:=qI (aF V (dm) rfl);have H4:V.heap.size<(V.alloc (dm)).heap.size:=by simp
       have Ho:=Hb.out.size;go_simp
       go_wp2
       refine hK.out _ _ (Hp.out _ hC.out) (λhHeld=>?_);clear hK K;generalize V.alloc (dm)=W8 at *;refine rd 2 (λK hK=>?_);go_simp
       go_wp2_with fail
       refine (gC tb tg 0 tc c.l W8 (HF.out.below hC.out)).mono ?_;rintro e W9 ⟨rfl,hv⟩;have hw:=qI (hC.out.trans (hv.mono hC.out.size));have Jp:=qI ((hv.block _ H4).trans JF.out);have ho:=Q1 H4 hv.size;clear hv
       go_wp2
       refine hK.out _ _ (Hp.out _ hw.out) (λhHeld=>?_);clear hK K;refine tk 5 ?_;refine rd 7 (λK hK=>?_);go_simp
       go_wp2_with fail
       refine (pL tb tg 0 tc c.l W9 (HF.out.below hw.out) He.out).mono ?_;rintro e W10 ⟨rfl,HI⟩;have hi:=qI (hw.out.trans (HI.mono hw.out.size));have Hc:=qI ((HI.block _ ho).trans Jp.out);have Jl:=Q1 ho HI.size;clear HI
       go_wp2
       refine hK.out _ _ (Hp.out _ hi.out) (λhHeld=>?_);clear hK K;refine tk 12 ?_;refine rd 14 (λK hK=>?_);have c0_11:W10.cell? ⟨V.heap.size,0,none⟩=some (.pointer none):=ad Hc.out 0;have f0_11:=aq Hc.out 0;have c1_11:W10.cell? ⟨V.heap.size,1,none⟩=some (.int .u64 0):=ad Hc.out 1;have f1_11:=aq Hc.out 1;have c2_11:W10.cell? ⟨V.heap.size,2,none⟩=some (.int .u8 0):=ad Hc.out 2;have f2_11:=aq Hc.out 2;have c3_11:W10.cell? ⟨V.heap.size,3,none⟩=some (.int .i64 0):=ad Hc.out 3;have f3_11:=aq Hc.out 3;have c4_11:W10.cell? ⟨V.heap.size,4,none⟩=some (.int .i64 0):=ad Hc.out 4;have f4_11:=aq Hc.out 4;have hm:=qI (((((hi.out.setCell (p:=⟨V.heap.size,0,none⟩) Ho (.pointer (some ⟨tb,0,none⟩))).setCell (p:=⟨V.heap.size,1,none⟩) Ho (.int .u64 (dif (ae aC c.l) c.keep:Nat))).setCell (p:=⟨V.heap.size,2,none⟩) Ho (.int .u8 (eN c.l c.l.length:Nat))).setCell (p:=⟨V.heap.size,3,none⟩) Ho (.int .i64 c.nb)).setCell (p:=⟨V.heap.size,4,none⟩) Ho (.int .i64 c.pol));have h3:=qI (aj (aj (aj (aj (aj Hc.out 0 (.pointer (some ⟨tb,0,none⟩))) 1 (.int .u64 (dif (ae aC c.l) c.keep:Nat))) 2 (.int .u8 (eN c.l c.l.length:Nat))) 3 (.int .i64 c.nb)) 4 (.int .i64 c.pol));go_simp
       go_wp2
       refine hK.out _ _ (Hp.out _ hm.out) (λhHeld=>?_);clear hK K;refine Qn (by kernel_rfl) ?_ _
       go_wp2
       go_meet
       exact ⟨_,rfl,h3.out,Ho,hm.out⟩
     case rest=>
      obtain ⟨Bm,rfl,HZ,Jx,HK⟩:=hcut;have hu:=qI (hc.out.trans (HK.mono (by omega)));have JW:=HK.size;have JG:=qI ((HK.block B (by omega)).trans hE.out);have JI:=qI ((HK.block (B+1) (by omega)).trans Hq.out);have JN:=qI ((HK.block (B+2) (by omega)).trans HL.out);have Ju:=qI (HF.out.below HK);have hL:=qI (hp.out.below HK);have Jz:Bm<wc.heap.size:=(gS HZ).1;have Ja:=qI HZ;have hJ:=qI (LN c.l c.l.length);have hg:=qI (Ol.GZ (a:=Ol.dH c.l c.l.length) (ds:=c.ds) (Ol.wV (λk hk=>He.out.at hk) c.l.length (lR)).1 ((Ol.wV (λk hk=>He.out.at hk) c.l.length (lR)).2 (sC hx.out)) hG.out.2);rw [hJ.out] at Ja;have d3:wc.cell? ⟨B,3,none⟩=some (.slice da c.ds.length dc):=ad JG.out 3;clear HZ HK JJ Hp
      go_wp2_with fail
      clear d3
      go_loopw [70] (λi wr=>∃ k:Nat,k<=c.ds.length/\i=.int .i64 k/\wr.heap[Bm]?=some (.cells #[.pointer (some ⟨tb,0,none⟩),.int .u64 (dif (ae aC c.l) c.keep:Nat),.int .u8 (Ol.dV (Ol.dH c.l c.l.length) c.ds k:Nat),.int .i64 c.nb,.int .i64 c.pol] 95 (0,0))/\Apart (λj=>j=Bm) wc wr) (λi _=>c.ds.length - (intOf i).toNat)
      case atStart=>exact ⟨0,by omega,rfl,Ja.out,Apart.refl _ _⟩
      case round=>
       obtain ⟨k,JP,rfl,HZ,hF⟩:=hrel;have Hi:=qI HZ;have HE:=qI hF;have Jy:=hF.size;have JB:=hG.out.1;have hD:Hid (Below w.heap.size w wr):=hF.below hu.out (by omega) (λj hj=>by omega);clear HZ hF
       by_cases hlt:k<c.ds.length
       ·obtain ⟨_,_,JA,h8⟩:=id HD.out;injection JA with hH hN hv3
        subst hH hv3;obtain ⟨rfl,JX,Jh⟩:=h8 (by omega);obtain ⟨x0,x1,x2⟩:=Jh k hlt;have x0:=(az.of_below hD.out).cell _ _ _ x0;have x1:=(az.of_below hD.out).cell _ _ _ x1;have x2:=(az.of_below hD.out).cell _ _ _ x2;obtain ⟨Jf,Jr⟩:=hG.out.2 k hlt;have JQ:(k:Int)<(c.ds.length:Int):=by omega
        have Jk:Hid (Ol.dV (Ol.dH c.l c.l.length) c.ds (k+1)=Ol.dV (Ol.dH c.l c.l.length) c.ds k ||| 2 ^ (dv c.ds k).node.toNat):=rfl;have JV:=(hg.out k (by omega)).1;clear Jh h8 hN;generalize dv c.ds k=x at *;obtain ⟨nn,hU⟩:=Int.eq_ofNat_of_zero_le Jf;rw [hU] at x1 Jr;rw [hU] at Jk;have Jw:=qI (aF wr (lE x nn) rfl);have HO:=qI (bg Hi.out (lE x nn));have a1:(wr.alloc (lE x nn)).cell? ⟨wr.heap.size,1,none⟩=some (.int .i64 (nn:Nat)):=ad Jw.out 1;have b2:(wr.alloc (lE x nn)).cell? ⟨Bm,2,none⟩=some (.int .u8 (Ol.dV (Ol.dH c.l c.l.length) c.ds k:Nat)):=ad HO.out 2;have f2:=aq HO.out 2;have Jm:=or8 (Ol.dV (Ol.dH c.l c.l.length) c.ds k) nn (by omega) (by omega);have hT:=qI (HE.out.trans (Apart.alloc _ wr (lE x nn)));clear hU Jf
        go_wp2_with fail
        generalize wr.alloc (lE x nn)=WX at *;have JD:bits BinOp.or IntKind.u8 ((Ol.dV (Ol.dH c.l c.l.length) c.ds k:Nat):Int) (2 ^ nn % 256)=((Ol.dV (Ol.dH c.l c.l.length) c.ds k ||| 2 ^ nn:Nat):Int):=Jm;clear Jm
        go_region
        go_wp2_with fail
        have HX:Hid ((WX.setCell ⟨Bm,2,none⟩ (.int .u8 (Ol.dV (Ol.dH c.l c.l.length) c.ds k ||| 2 ^ nn:Nat))).drew.heap[Bm]?=some (.cells #[.pointer (some ⟨tb,0,none⟩),.int .u64 (dif (ae aC c.l) c.keep:Nat),.int .u8 (Ol.dV (Ol.dH c.l c.l.length) c.ds k ||| 2 ^ nn:Nat),.int .i64 c.nb,.int .i64 c.pol] 95 (0,0))):=aj HO.out 2 _;have JK:Hid (Apart (λj=>j=Bm) wc (WX.setCell ⟨Bm,2,none⟩ (.int .u8 (Ol.dV (Ol.dH c.l c.l.length) c.ds k ||| 2 ^ nn:Nat))).drew):=(hT.out.trans (Apart.setCell (K:=λj=>j=Bm) rfl _ _ _)).trans (Apart.drew _ _)
        go_roundw
        case rel=>exact ⟨k+1,by omega,by go_num,by rw [Jk.out];exact HX.out,JK.out⟩
        case measure=>simp [intOf];omega
       ·have Js:k=c.ds.length:=by omega
        subst Js;obtain ⟨ndv,HS⟩:∃ x,x=Ol.dV (Ol.dH c.l c.l.length) c.ds c.ds.length:=⟨_,rfl⟩;have JL:=qI HS;rw [<- HS] at Hi;clear HS;have Hv:=qI ((HE.out.block (B+1) (by omega) (by omega)).trans JI.out);have H5:=qI ((HE.out.block (B+2) (by omega) (by omega)).trans JN.out);have JR:=HF.out.tlt;have JY:=HF.out.lt;have hy:Hid ((tb≠B+1/\tb≠B+2)/\(tg≠B+1/\tg≠B+2)):=LO HF.out (sC hx.out) Hq.out HL.out;have JC:Hid (ba wr tb tg 0 tc c.l):=jd Ju.out (HE.out.block tb (by omega) (by omega)) (HE.out.block tg (by omega) (by omega)) Jy;have hO:Hid (ap wr pb db pao pc c.ds (λ_=>false)):=hL.out.kept (g:=some Bm) ⟨HE.out.os,HE.out.tape,HE.out.output,HE.out.size,λj hj hn=>HE.out.block j hj (λe=>hn (by rw [e]))⟩ (λe=>by injection e with e;omega) (λh0 e=>by injection e with e;have:=hP.out h0;omega);have m0:wr.cell? ⟨Bm,0,none⟩=some (.pointer (some ⟨tb,0,none⟩)):=ad Hi.out 0;have m1:wr.cell? ⟨Bm,1,none⟩=some (.int .u64 (dif (ae aC c.l) c.keep:Nat)):=ad Hi.out 1;have m2:wr.cell? ⟨Bm,2,none⟩=some (.int .u8 (ndv:Nat)):=ad Hi.out 2;have m3:wr.cell? ⟨Bm,3,none⟩=some (.int .i64 c.nb):=ad Hi.out 3;have m4:wr.cell? ⟨Bm,4,none⟩=some (.int .i64 c.pol):=ad Hi.out 4;have a0_5:wr.cell? ⟨B+1,0,none⟩=some (.pointer none):=ad Hv.out 0;have fa0_5:=aq Hv.out 0;have a1_5:wr.cell? ⟨B+1,1,none⟩=some (.int .u64 0):=ad Hv.out 1;have fa1_5:=aq Hv.out 1;have a2_5:wr.cell? ⟨B+1,2,none⟩=some (.int .u8 0):=ad Hv.out 2;have fa2_5:=aq Hv.out 2;have a3_5:wr.cell? ⟨B+1,3,none⟩=some (.int .i64 0):=ad Hv.out 3;have fa3_5:=aq Hv.out 3;have a4_5:wr.cell? ⟨B+1,4,none⟩=some (.int .i64 0):=ad Hv.out 4;have fa4_5:=aq Hv.out 4;have b0_5:wr.cell? ⟨B+1+1,0,none⟩=some (.int .u64 0):=ad H5.out 0;have fb0_5:=aq H5.out 0;have b1_5:wr.cell? ⟨B+1+1,1,none⟩=some (.pointer none):=ad H5.out 1;have fb1_5:=aq H5.out 1;have hh:Hid ((((((((wr.setCell ⟨B+1,0,none⟩ (.pointer (some ⟨tb,0,none⟩))).setCell ⟨B+1,1,none⟩ (.int .u64 (dif (ae aC c.l) c.keep:Nat))).setCell ⟨B+1,2,none⟩ (.int .u8 (ndv:Nat))).setCell ⟨B+1,3,none⟩ (.int .i64 c.nb)).setCell ⟨B+1,4,none⟩ (.int .i64 c.pol)).setCell ⟨B+1+1,0,none⟩ (.int .u64 (dif (ae aC c.l) c.keep:Nat))).setCell ⟨B+1+1,1,none⟩ (.pointer (some ⟨pb,0,none⟩))).heap[B+1]?=_):=(set_other (by omega)).trans ((set_other (by omega)).trans (aj (aj (aj (aj (aj Hv.out 0 (.pointer (some ⟨tb,0,none⟩))) 1 (.int .u64 (dif (ae aC c.l) c.keep:Nat))) 2 (.int .u8 (ndv:Nat))) 3 (.int .i64 c.nb)) 4 (.int .i64 c.pol)));have h6:(((((wr.setCell ⟨B+1,0,none⟩ (.pointer (some ⟨tb,0,none⟩))).setCell ⟨B+1,1,none⟩ (.int .u64 (dif (ae aC c.l) c.keep:Nat))).setCell ⟨B+1,2,none⟩ (.int .u8 (ndv:Nat))).setCell ⟨B+1,3,none⟩ (.int .i64 c.nb)).setCell ⟨B+1,4,none⟩ (.int .i64 c.pol)).heap[B+1+1]?=wr.heap[B+1+1]?:=(set_other (by omega)).trans ((set_other (by omega)).trans ((set_other (by omega)).trans ((set_other (by omega)).trans (set_other (by omega)))));have H6:=qI (aj (aj (h6.trans H5.out) 0 (.int .u64 (dif (ae aC c.l) c.keep:Nat))) 1 (.pointer (some ⟨pb,0,none⟩)));have H9:=qI (((((((hD.out.setCell (p:=⟨B+1,0,none⟩) (by show w.heap.size<=B+1;omega) (.pointer (some ⟨tb,0,none⟩))).setCell (p:=⟨B+1,1,none⟩) (by show w.heap.size<=B+1;omega) (.int .u64 (dif (ae aC c.l) c.keep:Nat))).setCell (p:=⟨B+1,2,none⟩) (by show w.heap.size<=B+1;omega) (.int .u8 (ndv:Nat))).setCell (p:=⟨B+1,3,none⟩) (by show w.heap.size<=B+1;omega) (.int .i64 c.nb)).setCell (p:=⟨B+1,4,none⟩) (by show w.heap.size<=B+1;omega) (.int .i64 c.pol)).setCell (p:=⟨B+1+1,0,none⟩) (by show w.heap.size<=B+1+1;omega) (.int .u64 (dif (ae aC c.l) c.keep:Nat))).setCell (p:=⟨B+1+1,1,none⟩) (by show w.heap.size<=B+1+1;omega) (.pointer (some ⟨pb,0,none⟩)));have HA:Hid (∀ j,j≠B+1->j≠B+1+1->(((((((wr.setCell ⟨B+1,0,none⟩ (.pointer (some ⟨tb,0,none⟩))).setCell ⟨B+1,1,none⟩ (.int .u64 (dif (ae aC c.l) c.keep:Nat))).setCell ⟨B+1,2,none⟩ (.int .u8 (ndv:Nat))).setCell ⟨B+1,3,none⟩ (.int .i64 c.nb)).setCell ⟨B+1,4,none⟩ (.int .i64 c.pol)).setCell ⟨B+1+1,0,none⟩ (.int .u64 (dif (ae aC c.l) c.keep:Nat))).setCell ⟨B+1+1,1,none⟩ (.pointer (some ⟨pb,0,none⟩))).heap[j]?=wr.heap[j]?):=λj h1 h2=>(set_other h2).trans ((set_other h2).trans ((set_other h1).trans ((set_other h1).trans ((set_other h1).trans ((set_other h1).trans (set_other h1))))))
        have hR:(((((((wr.setCell ⟨B+1,0,none⟩ (.pointer (some ⟨tb,0,none⟩))).setCell ⟨B+1,1,none⟩ (.int .u64 (dif (ae aC c.l) c.keep:Nat))).setCell ⟨B+1,2,none⟩ (.int .u8 (ndv:Nat))).setCell ⟨B+1,3,none⟩ (.int .i64 c.nb)).setCell ⟨B+1,4,none⟩ (.int .i64 c.pol)).setCell ⟨B+1+1,0,none⟩ (.int .u64 (dif (ae aC c.l) c.keep:Nat))).setCell ⟨B+1+1,1,none⟩ (.pointer (some ⟨pb,0,none⟩))).heap.size=wr.heap.size:=by simp
        generalize hZ:(((((((wr.setCell ⟨B+1,0,none⟩ (.pointer (some ⟨tb,0,none⟩))).setCell ⟨B+1,1,none⟩ (.int .u64 (dif (ae aC c.l) c.keep:Nat))).setCell ⟨B+1,2,none⟩ (.int .u8 (ndv:Nat))).setCell ⟨B+1,3,none⟩ (.int .i64 c.nb)).setCell ⟨B+1,4,none⟩ (.int .i64 c.pol)).setCell ⟨B+1+1,0,none⟩ (.int .u64 (dif (ae aC c.l) c.keep:Nat))).setCell ⟨B+1+1,1,none⟩ (.pointer (some ⟨pb,0,none⟩)))=Z at hh H6 H9 HA hR;have Jo:Hid (cM Z.drew tb tg 0 tc (Ol.cL c)):=⟨jd JC.out (HA.out tb hy.out.1.1 hy.out.1.2) (HA.out tg hy.out.2.1 hy.out.2.2) (Nat.le_of_eq hR.symm),He.out,Ost.ii _ HG,by show 1<=Ol.dV _ _ _/\Ol.dV _ _ _<=15;have:=hg.out c.ds.length (lR);omega,HH.out.2.2⟩;have hY:Hid (dj Z.drew pb db pao pc ⟨(Ol.cL c).op,c.ds,λ_=>false⟩):=⟨lD hO.out (HA.out pb (by omega) (by omega)) (λh0=>HA.out db (by have:=H3.out h0;omega) (by have:=H3.out h0;omega)) (Nat.le_of_eq hR.symm),hG.out,Ost.ii _ HG⟩;have hM:Hid (Below w.heap.size w Z.drew):=a6 H9.out;have Hw:Hid (Z.drew.heap[B+1]?=_):=hh.out;have ht:Hid (Z.drew.heap[B+1+1]?=_):=H6.out;have Je:=qI hZ;clear hZ
        go_wp2_with fail
        go_region
        rw [Je.out];clear Je;generalize Z.drew=WZ at *
        go_wp2_with fail
        (try simp only [Exit.inBlock,Exit.then]);refine bodyPost_ret (v:=.tuple #[.agg #[.pointer (some ⟨tb,0,none⟩),.int .u64 (dif (ae aC c.l) c.keep:Nat),.int .u8 (ndv:Nat),.int .i64 c.nb,.int .i64 c.pol],.agg #[.int .u64 (dif (ae aC c.l) c.keep:Nat),.pointer (some ⟨pb,0,none⟩)],.nilIface]) ?_ rfl ⟨(λh=>absurd HC.out h),(λ_=>⟨tb,tg,tc,pb,db,pao,pc,by rw [JL.out];rfl,Jo.out,hY.out,Jc.out.1,Jc.out.2⟩),hM.out⟩;have r0:WZ.cell? ⟨B+1,0,none⟩=some (.pointer (some ⟨tb,0,none⟩)):=ad Hw.out 0;have r1:WZ.cell? ⟨B+1,1,none⟩=some (.int .u64 (dif (ae aC c.l) c.keep:Nat)):=ad Hw.out 1;have r2:WZ.cell? ⟨B+1,2,none⟩=some (.int .u8 (ndv:Nat)):=ad Hw.out 2;have r3:WZ.cell? ⟨B+1,3,none⟩=some (.int .i64 c.nb):=ad Hw.out 3;have r4:WZ.cell? ⟨B+1,4,none⟩=some (.int .i64 c.pol):=ad Hw.out 4;have s0:WZ.cell? ⟨B+1+1,0,none⟩=some (.int .u64 (dif (ae aC c.l) c.keep:Nat)):=ad ht.out 0;have s1:WZ.cell? ⟨B+1+1,1,none⟩=some (.pointer (some ⟨pb,0,none⟩)):=ad ht.out 1;rw [o9 rfl];clear a0_5 fa0_5 a1_5 fa1_5 a2_5 fa2_5 a3_5 fa3_5 a4_5 fa4_5 b0_5 fb0_5 b1_5 fb1_5;go_simp
    ·have he:=HT hfd;subst he;have H8:=qI hfd;dsimp only;rw [ei hfd];clear Hh HT;have a0_3:W3.cell? ⟨B+1,0,none⟩=some (.pointer none):=ad Hq.out 0;have fa0_3:=aq Hq.out 0;have a1_3:W3.cell? ⟨B+1,1,none⟩=some (.int .u64 0):=ad Hq.out 1;have fa1_3:=aq Hq.out 1;have a2_3:W3.cell? ⟨B+1,2,none⟩=some (.int .u8 0):=ad Hq.out 2;have fa2_3:=aq Hq.out 2;have a3_3:W3.cell? ⟨B+1,3,none⟩=some (.int .i64 0):=ad Hq.out 3;have fa3_3:=aq Hq.out 3;have a4_3:W3.cell? ⟨B+1,4,none⟩=some (.int .i64 0):=ad Hq.out 4;have fa4_3:=aq Hq.out 4;have b0_3:W3.cell? ⟨B+2,0,none⟩=some (.int .u64 0):=ad HL.out 0;have fb0_3:=aq HL.out 0;have b1_3:W3.cell? ⟨B+2,1,none⟩=some (.pointer none):=ad HL.out 1;have fb1_3:=aq HL.out 1;have Hx:Hid ((((((((W3.setCell ⟨B+1,0,none⟩ (.pointer none)).setCell ⟨B+1,1,none⟩ (.int .u64 0)).setCell ⟨B+1,2,none⟩ (.int .u8 0)).setCell ⟨B+1,3,none⟩ (.int .i64 0)).setCell ⟨B+1,4,none⟩ (.int .i64 0)).setCell ⟨B+2,0,none⟩ (.int .u64 0)).setCell ⟨B+2,1,none⟩ (.pointer none)).heap[B+1]?=_):=(set_other (by omega)).trans ((set_other (by omega)).trans (aj (aj (aj (aj (aj Hq.out 0 (.pointer none)) 1 (.int .u64 0)) 2 (.int .u8 0)) 3 (.int .i64 0)) 4 (.int .i64 0)));have hQ:(((((W3.setCell ⟨B+1,0,none⟩ (.pointer none)).setCell ⟨B+1,1,none⟩ (.int .u64 0)).setCell ⟨B+1,2,none⟩ (.int .u8 0)).setCell ⟨B+1,3,none⟩ (.int .i64 0)).setCell ⟨B+1,4,none⟩ (.int .i64 0)).heap[B+2]?=W3.heap[B+2]?:=(set_other (by omega)).trans ((set_other (by omega)).trans ((set_other (by omega)).trans ((set_other (by omega)).trans (set_other (by omega)))));have H1:=qI (aj (aj (hQ.trans HL.out) 0 (.int .u64 0)) 1 (.pointer none));have h5:=qI (((((((hc.out.setCell (p:=⟨B+1,0,none⟩) (by show w.heap.size<=B+1;omega) (.pointer none)).setCell (p:=⟨B+1,1,none⟩) (by show w.heap.size<=B+1;omega) (.int .u64 0)).setCell (p:=⟨B+1,2,none⟩) (by show w.heap.size<=B+1;omega) (.int .u8 0)).setCell (p:=⟨B+1,3,none⟩) (by show w.heap.size<=B+1;omega) (.int .i64 0)).setCell (p:=⟨B+1,4,none⟩) (by show w.heap.size<=B+1;omega) (.int .i64 0)).setCell (p:=⟨B+2,0,none⟩) (by show w.heap.size<=B+2;omega) (.int .u64 0)).setCell (p:=⟨B+2,1,none⟩) (by show w.heap.size<=B+2;omega) (.pointer none));clear hfd;generalize Dvs.fault c.ds=ff at *
     go_wp2_with fail
     generalize (((((((W3.setCell ⟨B+1,0,none⟩ (.pointer none)).setCell ⟨B+1,1,none⟩ (.int .u64 0)).setCell ⟨B+1,2,none⟩ (.int .u8 0)).setCell ⟨B+1,3,none⟩ (.int .i64 0)).setCell ⟨B+1,4,none⟩ (.int .i64 0)).setCell ⟨B+2,0,none⟩ (.int .u64 0)).setCell ⟨B+2,1,none⟩ (.pointer none))=WZ at *;(try simp only [Exit.inBlock,Exit.then]);refine bodyPost_ret (v:=.tuple #[.agg #[.pointer none,.int .u64 0,.int .u8 0,.int .i64 0,.int .i64 0],.agg #[.int .u64 0,.pointer none],.iface 121 (.int .i64 (ff:Nat))]) ?_ rfl ⟨(λ_=>by rw [HC.out,ei H8.out]),(λh=>by rw [HC.out] at h;exact absurd (by omega) H8.out),h5.out⟩;have r0:WZ.cell? ⟨B+1,0,none⟩=some (.pointer none):=ad Hx.out 0;have r1:WZ.cell? ⟨B+1,1,none⟩=some (.int .u64 0):=ad Hx.out 1;have r2:WZ.cell? ⟨B+1,2,none⟩=some (.int .u8 0):=ad Hx.out 2;have r3:WZ.cell? ⟨B+1,3,none⟩=some (.int .i64 0):=ad Hx.out 3;have r4:WZ.cell? ⟨B+1,4,none⟩=some (.int .i64 0):=ad Hx.out 4;have s0:WZ.cell? ⟨B+2,0,none⟩=some (.int .u64 0):=ad H1.out 0;have s1:WZ.cell? ⟨B+2,1,none⟩=some (.pointer none):=ad H1.out 1;rw [o9 rfl];clear a0_3 fa0_3 a1_3 fa1_3 a2_3 fa2_3 a3_3 fa3_3 a4_3 fa4_3 b0_3 fb0_3 b1_3 fb1_3;go_simp
 ·have he:=HT hf;subst he;have HC:Hid (Ol.bQ c=Ost.fault c.l):=by unfold Hid Ol.bQ;rw [if_pos hf]
  have H8:=qI hf;clear Hh HT;have a0_1:W1.cell? ⟨B+1,0,none⟩=some (.pointer none):=ad Hr.out 0;have fa0_1:=aq Hr.out 0;have a1_1:W1.cell? ⟨B+1,1,none⟩=some (.int .u64 0):=ad Hr.out 1;have fa1_1:=aq Hr.out 1;have a2_1:W1.cell? ⟨B+1,2,none⟩=some (.int .u8 0):=ad Hr.out 2;have fa2_1:=aq Hr.out 2;have a3_1:W1.cell? ⟨B+1,3,none⟩=some (.int .i64 0):=ad Hr.out 3;have fa3_1:=aq Hr.out 3;have a4_1:W1.cell? ⟨B+1,4,none⟩=some (.int .i64 0):=ad Hr.out 4;have fa4_1:=aq Hr.out 4;have b0_1:W1.cell? ⟨B+2,0,none⟩=some (.int .u64 0):=ad HY.out 0;have fb0_1:=aq HY.out 0;have b1_1:W1.cell? ⟨B+2,1,none⟩=some (.pointer none):=ad HY.out 1;have fb1_1:=aq HY.out 1;have Ht:Hid ((((((((W1.setCell ⟨B+1,0,none⟩ (.pointer none)).setCell ⟨B+1,1,none⟩ (.int .u64 0)).setCell ⟨B+1,2,none⟩ (.int .u8 0)).setCell ⟨B+1,3,none⟩ (.int .i64 0)).setCell ⟨B+1,4,none⟩ (.int .i64 0)).setCell ⟨B+2,0,none⟩ (.int .u64 0)).setCell ⟨B+2,1,none⟩ (.pointer none)).heap[B+1]?=_):=(set_other (by omega)).trans ((set_other (by omega)).trans (aj (aj (aj (aj (aj Hr.out 0 (.pointer none)) 1 (.int .u64 0)) 2 (.int .u8 0)) 3 (.int .i64 0)) 4 (.int .i64 0)));have h7:(((((W1.setCell ⟨B+1,0,none⟩ (.pointer none)).setCell ⟨B+1,1,none⟩ (.int .u64 0)).setCell ⟨B+1,2,none⟩ (.int .u8 0)).setCell ⟨B+1,3,none⟩ (.int .i64 0)).setCell ⟨B+1,4,none⟩ (.int .i64 0)).heap[B+2]?=W1.heap[B+2]?:=(set_other (by omega)).trans ((set_other (by omega)).trans ((set_other (by omega)).trans ((set_other (by omega)).trans (set_other (by omega)))));have H2:=qI (aj (aj (h7.trans HY.out) 0 (.int .u64 0)) 1 (.pointer none));have hS:=qI (((((((HB.out.setCell (p:=⟨B+1,0,none⟩) (by show w.heap.size<=B+1;omega) (.pointer none)).setCell (p:=⟨B+1,1,none⟩) (by show w.heap.size<=B+1;omega) (.int .u64 0)).setCell (p:=⟨B+1,2,none⟩) (by show w.heap.size<=B+1;omega) (.int .u8 0)).setCell (p:=⟨B+1,3,none⟩) (by show w.heap.size<=B+1;omega) (.int .i64 0)).setCell (p:=⟨B+1,4,none⟩) (by show w.heap.size<=B+1;omega) (.int .i64 0)).setCell (p:=⟨B+2,0,none⟩) (by show w.heap.size<=B+2;omega) (.int .u64 0)).setCell (p:=⟨B+2,1,none⟩) (by show w.heap.size<=B+2;omega) (.pointer none));generalize Ost.fault c.l=ff at *;clear hf
  go_wp2_with fail
  generalize (((((((W1.setCell ⟨B+1,0,none⟩ (.pointer none)).setCell ⟨B+1,1,none⟩ (.int .u64 0)).setCell ⟨B+1,2,none⟩ (.int .u8 0)).setCell ⟨B+1,3,none⟩ (.int .i64 0)).setCell ⟨B+1,4,none⟩ (.int .i64 0)).setCell ⟨B+2,0,none⟩ (.int .u64 0)).setCell ⟨B+2,1,none⟩ (.pointer none))=WZ at *;(try simp only [Exit.inBlock,Exit.then]);refine bodyPost_ret (v:=.tuple #[.agg #[.pointer none,.int .u64 0,.int .u8 0,.int .i64 0,.int .i64 0],.agg #[.int .u64 0,.pointer none],.iface 121 (.int .i64 ff)]) ?_ rfl ⟨λ_=>by rw [HC.out];unfold ar;rw [if_neg H8.out],λh=>absurd (HC.out.symm.trans h) H8.out,hS.out⟩;have r0:WZ.cell? ⟨B+1,0,none⟩=some (.pointer none):=ad Ht.out 0;have r1:WZ.cell? ⟨B+1,1,none⟩=some (.int .u64 0):=ad Ht.out 1;have r2:WZ.cell? ⟨B+1,2,none⟩=some (.int .u8 0):=ad Ht.out 2;have r3:WZ.cell? ⟨B+1,3,none⟩=some (.int .i64 0):=ad Ht.out 3;have r4:WZ.cell? ⟨B+1,4,none⟩=some (.int .i64 0):=ad Ht.out 4;have s0:WZ.cell? ⟨B+2,0,none⟩=some (.int .u64 0):=ad H2.out 0;have s1:WZ.cell? ⟨B+2,1,none⟩=some (.pointer none):=ad H2.out 1;rw [o9 rfl];clear a0_1 fa0_1 a1_1 fa1_1 a2_1 fa2_1 a3_1 fa3_1 a4_1 fa4_1 b0_1 fb0_1 b1_1 fb1_1;go_simp
end
